/-
  ShedDecides: its walk.
-/
import Derived.Test.YtgibhdbhagcpoaaSdAwake
import Derived.Test.YtgibhdbhagcpoaaRdDecide
import Derived.BigGuardPart
namespace Go.Proofs.Ytgibhdbhagcpoaa.shedDecides
set_option linter.unusedSimpArgs false
set_option linter.unusedVariables false
open Go.RowKit

theorem cod_in (n : Int) : 0 ≤ codI n ∧ codI n ≤ 7 := by unfold codI; split; · omega
                                                         · split <;> omega
set_option maxRecDepth 100000 in
set_option maxHeartbeats 6400000 in
theorem walk_at (x : Lk) (b : Bu) (n : Int) (w : World) (hk0 : -9223372036854775808 ≤ x.k) (hk1 : x.k ≤ 9223372036854775807) :
    Calls Try.prog 3 #[.agg x.cs, .agg b.cs, .int .i64 n] w fun e w' => e = .returned (.bool true) ∧ Below w.heap.size w w' := by
  have HAW := hide aw_shed
  have QD := hide (fun w => sd_Decide x b w hk0 hk1)
  have QR := hide (fun w => rd_Decide x b w hk0 hk1)
  have QF := hide (fun w => sd_Fits x w hk0 hk1)
  have QG := hide (fun w => rd_Fits x w hk0 hk1)
  have QS := hide (fun w => sd_Status n w)
  have QT := hide (fun w => rd_Status n w)
  have QC := hide (fun w => sd_Code n w)
  have QE := hide (fun w => rd_Code n w)
  have hz := cod_in n
  obtain ⟨z, hzz⟩ : ∃ z, z = codI n := ⟨_, rfl⟩
  rw [← hzz] at QC QE hz
  have hw : IntKind.i64.wrap z = z := IntWalk.i64_in _ (by omega)
  obtain ⟨s, hs⟩ : ∃ s, s = staI n := ⟨_, rfl⟩
  rw [← hs] at QS QT
  obtain ⟨ft, hft⟩ : ∃ ft, ft = fitB x := ⟨_, rfl⟩
  rw [← hft] at QF QG
  obtain ⟨f, hf⟩ : ∃ f, f = (decD x b).1 := ⟨_, rfl⟩
  obtain ⟨c, hc⟩ : ∃ c, c = (decD x b).2.1 := ⟨_, rfl⟩
  obtain ⟨m, hm⟩ : ∃ m, m = (decD x b).2.2 := ⟨_, rfl⟩
  rw [← hf, ← hc, ← hm] at QD QR
  clear hk0 hk1 hz hzz hs hft hf hc hm
  obtain ⟨g, hg⟩ : ∃ g, g = w.heap.size := ⟨_, rfl⟩
  have HL := hide hg.symm
  obtain ⟨W, hW⟩ : ∃ W, (w.alloc (.cells x.cs 23)).alloc (.cells b.cs 25) = W := ⟨_, rfl⟩
  have HB := hide (show Below w.heap.size w W by rw [← hW]; exact bel2 w _ _)
  have HX := hide (show BlkIs W g 23 x.cs by rw [← hW, hg]; exact (BlkIs.new w _ _).alloc _)
  have HY := hide (show BlkIs W (g + 1) 25 b.cs by rw [← hW, hg]; exact new2 w _ _ _)
  have HW := hide hW
  clear hg hW
  go_enter Try.func3, Try.ntmps3
  go_upto_region 1 with (fail)
  rw [HL.out, HW.out]
  go_wp2_with (first | (refine wpList_load_blk rfl 23 (.tmp 3) rfl g rfl 23 x.cs _ HX.out Try.underlying23 rfl rl_size ?_) | (refine wpList_load_blk rfl 25 (.tmp 4) rfl (g + 1) rfl 25 b.cs _ HY.out Try.underlying25 rfl rb_size ?_))
  refine (QD.out _).mono ?_
  rintro e w_1 ⟨rfl, hb⟩
  have Hx_2 := hide (HX.out.keep hb)
  clear HX
  have Hy_2 := hide (HY.out.keep hb)
  clear HY
  have HB_2 := hide (HB.out.trans (hb.mono HB.out.size))
  clear HB
  clear hb
  obtain ⟨gc, hg⟩ : ∃ g, g = w_1.heap.size := ⟨_, rfl⟩
  have Gc := hide hg.symm
  have Nc := hide (show BlkIs (w_1.alloc (.cells c.cs 26)) gc 26 c.cs by rw [hg]; exact BlkIs.new w_1 _ _)
  clear hg
  have Hx_4 := hide (Hx_2.out.alloc (.cells c.cs 26))
  clear Hx_2
  have Hy_4 := hide (Hy_2.out.alloc (.cells c.cs 26))
  clear Hy_2
  have HB_4 := hide (HB_2.out.alloc HB_2.out.size (.cells c.cs 26))
  clear HB_2
  go_upto_region 2 with (first | (refine wpList_store_new rfl 26 (.tmp 8) (.tmp 18) rfl c.cs _ 26 rfl rfl bu_size rfl (Bu.cs_one c) ?_))
  rw [Gc.out]
  generalize w_1.alloc (.cells c.cs 26) = v_3 at *
  go_wp2_with (first | (refine wpList_load_blk rfl 23 (.tmp 3) rfl g rfl 23 x.cs _ Hx_4.out Try.underlying23 rfl rl_size ?_) | (refine wpList_load_blk rfl 25 (.tmp 4) rfl (g + 1) rfl 25 b.cs _ Hy_4.out Try.underlying25 rfl rb_size ?_))
  refine (QR.out _).mono ?_
  rintro e w_5 ⟨rfl, hb⟩
  have Hx_6 := hide (Hx_4.out.keep hb)
  clear Hx_4
  have Hy_6 := hide (Hy_4.out.keep hb)
  clear Hy_4
  have Hc_6 := hide (Nc.out.keep hb)
  clear Nc
  have HB_6 := hide (HB_4.out.trans (hb.mono HB_4.out.size))
  clear HB_4
  clear hb
  obtain ⟨gd, hg⟩ : ∃ g, g = w_5.heap.size := ⟨_, rfl⟩
  have Gd := hide hg.symm
  have Nd := hide (show BlkIs (w_5.alloc (.cells c.cs 25)) gd 25 c.cs by rw [hg]; exact BlkIs.new w_5 _ _)
  clear hg
  have Hx_8 := hide (Hx_6.out.alloc (.cells c.cs 25))
  clear Hx_6
  have Hy_8 := hide (Hy_6.out.alloc (.cells c.cs 25))
  clear Hy_6
  have Hc_8 := hide (Hc_6.out.alloc (.cells c.cs 25))
  clear Hc_6
  have HB_8 := hide (HB_6.out.alloc HB_6.out.size (.cells c.cs 25))
  clear HB_6
  go_upto_region 3 with (first | (refine wpList_store_new rfl 25 (.tmp 11) (.tmp 25) rfl c.cs _ 25 rfl rfl rb_size rfl (Bu.cs_one c) ?_))
  rw [Gd.out]
  generalize w_5.alloc (.cells c.cs 25) = v_7 at *
  refine wp_region_noPanic ?_
  refine wp_region_held_drew (S := fun w' => Below v_7.heap.size v_7 w') (by kernel_rfl) (Below.refl _ _).drew (fun hS => ?_)
  generalize v_7.drew = wd at hS ⊢
  refine wpAnyH_take (i := 0) (v := ?_) (by simp only [List.getElem?_toArray, List.getElem?_cons_succ, List.getElem?_cons_zero] <;> exact rfl) (by kernel_rfl) (by kernel_rfl) (by kernel_rfl) (fun _ _ _ h => h) (Or.inl ⟨by rfl, ?_⟩) hS ?_
  rotate_left
  focus (intro w' hw'; go_simp; all_goals with_reducible rfl)
  try simp only [Act.put, List.setIfInBounds_toArray, List.set_cons_zero, List.set_cons_succ]
  refine wpAnyH_take (i := 1) (v := ?_) (by simp only [List.getElem?_toArray, List.getElem?_cons_succ, List.getElem?_cons_zero] <;> exact rfl) (by kernel_rfl) (by kernel_rfl) (by kernel_rfl) (fun _ _ _ h => h) (Or.inl ⟨by rfl, ?_⟩) hS ?_
  rotate_left
  focus (intro w' hw'; go_simp; all_goals with_reducible rfl)
  try simp only [Act.put, List.setIfInBounds_toArray, List.set_cons_zero, List.set_cons_succ]
  refine wpAnyH_take (i := 2) (v := ?_) (by simp only [List.getElem?_toArray, List.getElem?_cons_succ, List.getElem?_cons_zero] <;> exact rfl) (by kernel_rfl) (by kernel_rfl) (by kernel_rfl) (fun _ _ _ h => h) (Or.inl ⟨by rfl, ?_⟩) hS ?_
  rotate_left
  focus (intro w' hw'; go_simp; all_goals with_reducible rfl)
  try simp only [Act.put, List.setIfInBounds_toArray, List.set_cons_zero, List.set_cons_succ]
  refine wpAnyH_take (i := 3) (v := ?_) (by simp only [List.getElem?_toArray, List.getElem?_cons_succ, List.getElem?_cons_zero] <;> exact rfl) (by kernel_rfl) (by kernel_rfl) (by kernel_rfl) (fun _ _ _ h => h) (Or.inl ⟨by rfl, ?_⟩) hS ?_
  rotate_left
  focus (intro w' hw'; go_simp; all_goals with_reducible rfl)
  try simp only [Act.put, List.setIfInBounds_toArray, List.set_cons_zero, List.set_cons_succ]
  refine wpAnyH_take (i := 4) (by simp only [List.getElem?_toArray, List.getElem?_cons_succ, List.getElem?_cons_zero] <;> exact rfl) (by kernel_rfl) (by kernel_rfl) (by kernel_rfl) (fun _ _ _ h => h) (rgs_yields_blk (by rfl) 26 (.tmp 8) (by rfl) gc (by rfl) 26 c.cs _ (fun w' hw' => Hc_8.out.keep hw') Try.underlying26 rfl bu_size) hS ?_
  try simp only [Act.put, List.setIfInBounds_toArray, List.set_cons_zero, List.set_cons_succ]
  refine wpAnyH_take (i := 5) (by simp only [List.getElem?_toArray, List.getElem?_cons_succ, List.getElem?_cons_zero] <;> exact rfl) (by kernel_rfl) (by kernel_rfl) (by kernel_rfl) (fun _ _ _ h => h) (rgs_yields_blk (by rfl) 25 (.tmp 11) (by rfl) gd (by rfl) 25 c.cs _ (fun w' hw' => Nd.out.keep hw') Try.underlying25 rfl rb_size) hS ?_
  try simp only [Act.put, List.setIfInBounds_toArray, List.set_cons_zero, List.set_cons_succ]
  refine wpAnyH_take (i := 6) (v := .bool true) (by simp only [List.getElem?_toArray, List.getElem?_cons_succ, List.getElem?_cons_zero] <;> exact rfl) (by kernel_rfl) (by kernel_rfl) (by kernel_rfl) (fun _ _ _ h => h) (Or.inl ⟨by rfl, ?_⟩) hS ?_
  focus (intro w' hw'; have q0 : c.cs[0]? = some (.int .i64 c.u) := rfl; have q1 : c.cs[1]? = some (.int .i64 c.r) := rfl; have q2 : c.cs[2]? = some (.int .i64 c.p) := rfl; have q3 : c.cs[3]? = some (.int .i64 c.l) := rfl; have q4 : c.cs[4]? = some (.int .i64 c.n) := rfl; go_simp)
  try simp only [Act.put, List.setIfInBounds_toArray, List.set_cons_zero, List.set_cons_succ]
  refine wpAnyH_take (i := 7) (v := ?_) (by simp only [List.getElem?_toArray, List.getElem?_cons_succ, List.getElem?_cons_zero] <;> exact rfl) (by kernel_rfl) (by kernel_rfl) (by kernel_rfl) (fun _ _ _ h => h) (Or.inl ⟨by rfl, ?_⟩) hS ?_
  rotate_left
  focus (intro w' hw'; go_simp; all_goals with_reducible rfl)
  try simp only [Act.put, List.setIfInBounds_toArray, List.set_cons_zero, List.set_cons_succ]
  refine wpAnyH_take (i := 8) (v := ?_) (by simp only [List.getElem?_toArray, List.getElem?_cons_succ, List.getElem?_cons_zero] <;> exact rfl) (by kernel_rfl) (by kernel_rfl) (by kernel_rfl) (fun _ _ _ h => h) (Or.inl ⟨by rfl, ?_⟩) hS ?_
  rotate_left
  focus (intro w' hw'; go_simp; all_goals with_reducible rfl)
  try simp only [Act.put, List.setIfInBounds_toArray, List.set_cons_zero, List.set_cons_succ]
  refine wpAnyH_take (i := 9) (v := ?_) (by simp only [List.getElem?_toArray, List.getElem?_cons_succ, List.getElem?_cons_zero] <;> exact rfl) (by kernel_rfl) (by kernel_rfl) (by kernel_rfl) (fun _ _ _ h => h) (Or.inl ⟨by rfl, ?_⟩) hS ?_
  rotate_left
  focus (intro w' hw'; go_simp; all_goals with_reducible rfl)
  try simp only [Act.put, List.setIfInBounds_toArray, List.set_cons_zero, List.set_cons_succ]
  refine wpAnyH_take (i := 10) (v := ?_) (by simp only [List.getElem?_toArray, List.getElem?_cons_succ, List.getElem?_cons_zero] <;> exact rfl) (by kernel_rfl) (by kernel_rfl) (by kernel_rfl) (fun _ _ _ h => h) (Or.inl ⟨by rfl, ?_⟩) hS ?_
  rotate_left
  focus (intro w' hw'; go_simp; all_goals with_reducible rfl)
  try simp only [Act.put, List.setIfInBounds_toArray, List.set_cons_zero, List.set_cons_succ]
  refine wpAnyH_take (i := 11) (v := ?_) (by simp only [List.getElem?_toArray, List.getElem?_cons_succ, List.getElem?_cons_zero] <;> exact rfl) (by kernel_rfl) (by kernel_rfl) (by kernel_rfl) (fun _ _ _ h => h) (Or.inl ⟨by rfl, ?_⟩) hS ?_
  rotate_left
  focus (intro w' hw'; go_simp; all_goals with_reducible rfl)
  try simp only [Act.put, List.setIfInBounds_toArray, List.set_cons_zero, List.set_cons_succ]
  refine wpAnyH_take (i := 12) (v := ?_) (by simp only [List.getElem?_toArray, List.getElem?_cons_succ, List.getElem?_cons_zero] <;> exact rfl) (by kernel_rfl) (by kernel_rfl) (by kernel_rfl) (fun _ _ _ h => h) (Or.inl ⟨by rfl, ?_⟩) hS ?_
  rotate_left
  focus (intro w' hw'; go_simp; all_goals with_reducible rfl)
  try simp only [Act.put, List.setIfInBounds_toArray, List.set_cons_zero, List.set_cons_succ]
  refine wpAnyH_take (i := 13) (v := ?_) (by simp only [List.getElem?_toArray, List.getElem?_cons_succ, List.getElem?_cons_zero] <;> exact rfl) (by kernel_rfl) (by kernel_rfl) (by kernel_rfl) (fun _ _ _ h => h) (Or.inl ⟨by rfl, ?_⟩) hS ?_
  rotate_left
  focus (intro w' hw'; go_simp; all_goals with_reducible rfl)
  try simp only [Act.put, List.setIfInBounds_toArray, List.set_cons_zero, List.set_cons_succ]
  refine wpAnyH_take (i := 14) (by simp only [List.getElem?_toArray, List.getElem?_cons_succ, List.getElem?_cons_zero] <;> exact rfl) (by kernel_rfl) (by kernel_rfl) (by kernel_rfl) (fun _ _ _ h => h) (rgs_yields_blk (by rfl) 23 (.tmp 3) (by rfl) g (by rfl) 23 x.cs _ (fun w' hw' => Hx_8.out.keep hw') Try.underlying23 rfl rl_size) hS ?_
  try simp only [Act.put, List.setIfInBounds_toArray, List.set_cons_zero, List.set_cons_succ]
  refine wpAnyH_take (i := 16) (by simp only [List.getElem?_toArray, List.getElem?_cons_succ, List.getElem?_cons_zero] <;> exact rfl) (by kernel_rfl) (by kernel_rfl) (by kernel_rfl) (fun _ _ _ h => h) (rgs_yields_blk (by rfl) 23 (.tmp 3) (by rfl) g (by rfl) 23 x.cs _ (fun w' hw' => Hx_8.out.keep hw') Try.underlying23 rfl rl_size) hS ?_
  try simp only [Act.put, List.setIfInBounds_toArray, List.set_cons_zero, List.set_cons_succ]
  refine wpAnyH_ready (rs := [15]) (by kernel_rfl) (by simp) ?_
  refine AllReadyH.cons (o := _) (by simp only [List.getElem?_toArray, List.getElem?_cons_succ, List.getElem?_cons_zero] <;> exact rfl) (fun K hK => ?_) ?_
  focus (
    go_simp
    go_at_call 9
    refine (QF.out _).mono ?_
    rintro e wc1 ⟨rfl, hb⟩
    have hS := hS.trans (hb.mono hS.size)
    clear hb
    go_wp2_with fail
    refine hK.out _ _ hS (fun _ => ?_)
    clear hK K
    try simp only [Act.put, List.setIfInBounds_toArray, List.set_cons_zero, List.set_cons_succ]
    refine wpAnyH_ready (rs := [17]) (by kernel_rfl) (by simp) ?_
    refine AllReadyH.cons (o := _) (by simp only [List.getElem?_toArray, List.getElem?_cons_succ, List.getElem?_cons_zero] <;> exact rfl) (fun K hK => ?_) ?_
    focus (
      go_simp
      go_at_call 10
      refine (QG.out _).mono ?_
      rintro e wc2 ⟨rfl, hb⟩
      have hS := hS.trans (hb.mono hS.size)
      clear hb
      go_wp2_with fail
      refine hK.out _ _ hS (fun _ => ?_)
      clear hK K
      try simp only [Act.put, List.setIfInBounds_toArray, List.set_cons_zero, List.set_cons_succ]
      refine wpAnyH_take (i := 18) (v := ?_) (by simp only [List.getElem?_toArray, List.getElem?_cons_succ, List.getElem?_cons_zero] <;> exact rfl) (by kernel_rfl) (by kernel_rfl) (by kernel_rfl) (fun _ _ _ h => h) (Or.inl ⟨by rfl, ?_⟩) hS ?_
      rotate_left
      focus (intro w' hw'; go_simp; all_goals with_reducible rfl)
      try simp only [Act.put, List.setIfInBounds_toArray, List.set_cons_zero, List.set_cons_succ]
      refine wpAnyH_take (i := 19) (v := ?_) (by simp only [List.getElem?_toArray, List.getElem?_cons_succ, List.getElem?_cons_zero] <;> exact rfl) (by kernel_rfl) (by kernel_rfl) (by kernel_rfl) (fun _ _ _ h => h) (Or.inl ⟨by rfl, ?_⟩) hS ?_
      rotate_left
      focus (intro w' hw'; go_simp; all_goals with_reducible rfl)
      try simp only [Act.put, List.setIfInBounds_toArray, List.set_cons_zero, List.set_cons_succ]
      refine wpAnyH_take (i := 20) (v := ?_) (by simp only [List.getElem?_toArray, List.getElem?_cons_succ, List.getElem?_cons_zero] <;> exact rfl) (by kernel_rfl) (by kernel_rfl) (by kernel_rfl) (fun _ _ _ h => h) (Or.inl ⟨by rfl, ?_⟩) hS ?_
      rotate_left
      focus (intro w' hw'; go_simp; all_goals with_reducible rfl)
      try simp only [Act.put, List.setIfInBounds_toArray, List.set_cons_zero, List.set_cons_succ]
      refine wpAnyH_take (i := 21) (v := ?_) (by simp only [List.getElem?_toArray, List.getElem?_cons_succ, List.getElem?_cons_zero] <;> exact rfl) (by kernel_rfl) (by kernel_rfl) (by kernel_rfl) (fun _ _ _ h => h) (Or.inl ⟨by rfl, ?_⟩) hS ?_
      rotate_left
      focus (intro w' hw'; go_simp; all_goals with_reducible rfl)
      try simp only [Act.put, List.setIfInBounds_toArray, List.set_cons_zero, List.set_cons_succ]
      refine wpAnyH_take (i := 23) (v := ?_) (by simp only [List.getElem?_toArray, List.getElem?_cons_succ, List.getElem?_cons_zero] <;> exact rfl) (by kernel_rfl) (by kernel_rfl) (by kernel_rfl) (fun _ _ _ h => h) (Or.inl ⟨by rfl, ?_⟩) hS ?_
      rotate_left
      focus (intro w' hw'; go_simp; all_goals with_reducible rfl)
      try simp only [Act.put, List.setIfInBounds_toArray, List.set_cons_zero, List.set_cons_succ]
      refine wpAnyH_ready (rs := [22]) (by kernel_rfl) (by simp) ?_
      refine AllReadyH.cons (o := _) (by simp only [List.getElem?_toArray, List.getElem?_cons_succ, List.getElem?_cons_zero] <;> exact rfl) (fun K hK => ?_) ?_
      focus (
        go_simp
        go_at_call 11
        refine (QS.out _).mono ?_
        rintro e wc3 ⟨rfl, rfl⟩
        go_wp2_with fail
        refine hK.out _ _ hS (fun _ => ?_)
        clear hK K
        try simp only [Act.put, List.setIfInBounds_toArray, List.set_cons_zero, List.set_cons_succ]
        refine wpAnyH_ready (rs := [24]) (by kernel_rfl) (by simp) ?_
        refine AllReadyH.cons (o := _) (by simp only [List.getElem?_toArray, List.getElem?_cons_succ, List.getElem?_cons_zero] <;> exact rfl) (fun K hK => ?_) ?_
        focus (
          go_simp
          go_at_call 12
          refine (QT.out _).mono ?_
          rintro e wc4 ⟨rfl, rfl⟩
          go_wp2_with fail
          refine hK.out _ _ hS (fun _ => ?_)
          clear hK K
          try simp only [Act.put, List.setIfInBounds_toArray, List.set_cons_zero, List.set_cons_succ]
          refine wpAnyH_take (i := 25) (v := ?_) (by simp only [List.getElem?_toArray, List.getElem?_cons_succ, List.getElem?_cons_zero] <;> exact rfl) (by kernel_rfl) (by kernel_rfl) (by kernel_rfl) (fun _ _ _ h => h) (Or.inl ⟨by rfl, ?_⟩) hS ?_
          rotate_left
          focus (intro w' hw'; go_simp; all_goals with_reducible rfl)
          try simp only [Act.put, List.setIfInBounds_toArray, List.set_cons_zero, List.set_cons_succ]
          refine wpAnyH_take (i := 26) (v := ?_) (by simp only [List.getElem?_toArray, List.getElem?_cons_succ, List.getElem?_cons_zero] <;> exact rfl) (by kernel_rfl) (by kernel_rfl) (by kernel_rfl) (fun _ _ _ h => h) (Or.inl ⟨by rfl, ?_⟩) hS ?_
          rotate_left
          focus (intro w' hw'; go_simp; all_goals with_reducible rfl)
          try simp only [Act.put, List.setIfInBounds_toArray, List.set_cons_zero, List.set_cons_succ]
          refine wpAnyH_take (i := 27) (v := ?_) (by simp only [List.getElem?_toArray, List.getElem?_cons_succ, List.getElem?_cons_zero] <;> exact rfl) (by kernel_rfl) (by kernel_rfl) (by kernel_rfl) (fun _ _ _ h => h) (Or.inl ⟨by rfl, ?_⟩) hS ?_
          rotate_left
          focus (intro w' hw'; go_simp; all_goals with_reducible rfl)
          try simp only [Act.put, List.setIfInBounds_toArray, List.set_cons_zero, List.set_cons_succ]
          refine wpAnyH_take (i := 28) (v := ?_) (by simp only [List.getElem?_toArray, List.getElem?_cons_succ, List.getElem?_cons_zero] <;> exact rfl) (by kernel_rfl) (by kernel_rfl) (by kernel_rfl) (fun _ _ _ h => h) (Or.inl ⟨by rfl, ?_⟩) hS ?_
          rotate_left
          focus (intro w' hw'; go_simp; all_goals with_reducible rfl)
          try simp only [Act.put, List.setIfInBounds_toArray, List.set_cons_zero, List.set_cons_succ]
          refine wpAnyH_take (i := 31) (v := ?_) (by simp only [List.getElem?_toArray, List.getElem?_cons_succ, List.getElem?_cons_zero] <;> exact rfl) (by kernel_rfl) (by kernel_rfl) (by kernel_rfl) (fun _ _ _ h => h) (Or.inl ⟨by rfl, ?_⟩) hS ?_
          rotate_left
          focus (intro w' hw'; go_simp; all_goals with_reducible rfl)
          try simp only [Act.put, List.setIfInBounds_toArray, List.set_cons_zero, List.set_cons_succ]
          refine wpAnyH_ready (rs := [29]) (by kernel_rfl) (by simp) ?_
          refine AllReadyH.cons (o := _) (by simp only [List.getElem?_toArray, List.getElem?_cons_succ, List.getElem?_cons_zero] <;> exact rfl) (fun K hK => ?_) ?_
          focus (
            go_simp
            go_at_call 13
            refine (QC.out _).mono ?_
            rintro e wc5 ⟨rfl, rfl⟩
            go_wp2_with fail
            refine hK.out _ _ hS (fun _ => ?_)
            clear hK K
            try simp only [Act.put, List.setIfInBounds_toArray, List.set_cons_zero, List.set_cons_succ]
            refine wpAnyH_take (i := 30) (v := ?_) (by simp only [List.getElem?_toArray, List.getElem?_cons_succ, List.getElem?_cons_zero] <;> exact rfl) (by kernel_rfl) (by kernel_rfl) (by kernel_rfl) (fun _ _ _ h => h) (Or.inl ⟨by rfl, ?_⟩) hS ?_
            rotate_left
            focus (intro w' hw'; go_simp; all_goals with_reducible rfl)
            try simp only [Act.put, List.setIfInBounds_toArray, List.set_cons_zero, List.set_cons_succ]
            refine wpAnyH_ready (rs := [32]) (by kernel_rfl) (by simp) ?_
            refine AllReadyH.cons (o := _) (by simp only [List.getElem?_toArray, List.getElem?_cons_succ, List.getElem?_cons_zero] <;> exact rfl) (fun K hK => ?_) ?_
            focus (
              go_simp
              go_at_call 14
              refine (QE.out _).mono ?_
              rintro e wc6 ⟨rfl, rfl⟩
              go_wp2_with fail
              refine hK.out _ _ hS (fun _ => ?_)
              clear hK K
              try simp only [Act.put, List.setIfInBounds_toArray, List.set_cons_zero, List.set_cons_succ]
              refine wpAnyH_take (i := 33) (v := ?_) (by simp only [List.getElem?_toArray, List.getElem?_cons_succ, List.getElem?_cons_zero] <;> exact rfl) (by kernel_rfl) (by kernel_rfl) (by kernel_rfl) (fun _ _ _ h => h) (Or.inl ⟨by rfl, ?_⟩) hS ?_
              rotate_left
              focus (intro w' hw'; go_simp; all_goals with_reducible rfl)
              try simp only [Act.put, List.setIfInBounds_toArray, List.set_cons_zero, List.set_cons_succ]
              refine wpAnyH_take (i := 34) (v := ?_) (by simp only [List.getElem?_toArray, List.getElem?_cons_succ, List.getElem?_cons_zero] <;> exact rfl) (by kernel_rfl) (by kernel_rfl) (by kernel_rfl) (fun _ _ _ h => h) (Or.inl ⟨by rfl, ?_⟩) hS ?_
              rotate_left
              focus (intro w' hw'; go_simp; all_goals with_reducible rfl)
              try simp only [Act.put, List.setIfInBounds_toArray, List.set_cons_zero, List.set_cons_succ]
              refine wpAnyH_take (i := 35) (v := ?_) (by simp only [List.getElem?_toArray, List.getElem?_cons_succ, List.getElem?_cons_zero] <;> exact rfl) (by kernel_rfl) (by kernel_rfl) (by kernel_rfl) (fun _ _ _ h => h) (Or.inl ⟨by rfl, ?_⟩) hS ?_
              rotate_left
              focus (intro w' hw'; go_simp; all_goals with_reducible rfl)
              try simp only [Act.put, List.setIfInBounds_toArray, List.set_cons_zero, List.set_cons_succ]
              refine wpAnyH_ready (rs := [36]) (by kernel_rfl) (by simp) ?_
              refine AllReadyH.cons (o := _) (by simp only [List.getElem?_toArray, List.getElem?_cons_succ, List.getElem?_cons_zero] <;> exact rfl) (fun K hK => ?_) ?_
              focus (
                go_simp
                go_at_call 15
                refine (HAW.out _).mono ?_
                rintro e wc7 ⟨rfl, hb⟩
                have hS := hS.trans (hb.mono hS.size)
                clear hb
                go_wp2_with fail
                refine hK.out _ _ hS (fun _ => ?_)
                clear hK K
                try simp only [Act.put, List.setIfInBounds_toArray, List.set_cons_zero, List.set_cons_succ]
                refine wpAnyH_take (i := 37) (v := ?_) (by simp only [List.getElem?_toArray, List.getElem?_cons_succ, List.getElem?_cons_zero] <;> exact rfl) (by kernel_rfl) (by kernel_rfl) (by kernel_rfl) (fun _ _ _ h => h) (Or.inl ⟨by rfl, ?_⟩) hS ?_
                rotate_left
                focus (intro w' hw'; go_simp; all_goals with_reducible rfl)
                try simp only [Act.put, List.setIfInBounds_toArray, List.set_cons_zero, List.set_cons_succ]
                refine wpAnyH_take (i := 38) (v := ?_) (by simp only [List.getElem?_toArray, List.getElem?_cons_succ, List.getElem?_cons_zero] <;> exact rfl) (by kernel_rfl) (by kernel_rfl) (by kernel_rfl) (fun _ _ _ h => h) (Or.inl ⟨by rfl, ?_⟩) hS ?_
                rotate_left
                focus (intro w' hw'; go_simp; all_goals with_reducible rfl)
                try simp only [Act.put, List.setIfInBounds_toArray, List.set_cons_zero, List.set_cons_succ]
                refine wpAnyH_done (by kernel_rfl) ?_ _
                refine NoPanic.normal ?_
                go_wp2
                go_ret
                exact ⟨rfl, HB_8.out.trans (hS.mono HB_8.out.size)⟩)
              exact AllReadyH.nil)
            exact AllReadyH.nil)
          exact AllReadyH.nil)
        exact AllReadyH.nil)
      exact AllReadyH.nil)
    exact AllReadyH.nil)
  exact AllReadyH.nil

theorem walk (f0 f1 f2 : Int) (f3 : Bool) (f4 f5 f6 f7 f8 b0 b1 b2 b3 b4 n : Int) (w : World) (_ : (Lit.int .i64 f0).wf = true) (_ : (Lit.int .i64 f1).wf = true) (_ : (Lit.int .i64 f2).wf = true) (_ : (Lit.int .i64 f4).wf = true) (_ : (Lit.int .i64 f5).wf = true) (h6 : (Lit.int .i64 f6).wf = true) (_ : (Lit.int .i64 f7).wf = true) (_ : (Lit.int .i64 f8).wf = true) (_ : (Lit.int .i64 b0).wf = true) (_ : (Lit.int .i64 b1).wf = true) (_ : (Lit.int .i64 b2).wf = true) (_ : (Lit.int .i64 b3).wf = true) (_ : (Lit.int .i64 b4).wf = true) (_ : (Lit.int .i64 n).wf = true) :
    Calls Try.prog 3 #[.agg #[.int .i64 f0, .int .i64 f1, .int .i64 f2, .bool f3, .int .i64 f4, .int .i64 f5, .int .i64 f6, .int .i64 f7, .int .i64 f8], .agg #[.int .i64 b0, .int .i64 b1, .int .i64 b2, .int .i64 b3, .int .i64 b4], .int .i64 n] w fun e w' => e = .returned (.bool true) ∧ Below w.heap.size w w' := by
  have h := bounds_i64 h6
  exact walk_at ⟨f0, f1, f2, f3, f4, f5, f6, f7, f8⟩ ⟨b0, b1, b2, b3, b4⟩ n w h.1 h.2
end Go.Proofs.Ytgibhdbhagcpoaa.shedDecides
