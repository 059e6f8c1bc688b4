/-
  ShedWaits: its walk.
-/
import Derived.Test.YtgibhdbhagcpoaaSdTwo
import Derived.Test.YtgibhdbhagcpoaaSdAwake
import Derived.Test.YtgibhdbhagcpoaaShedWaitsMath
import Derived.BigGuardPart
import Derived.Deep.QuietTactic
import Derived.BigQuiet
import Derived.Deep.CutRange
import Derived.Deep.DeepCutAuto
import Derived.Lib.MinMax
namespace Go.Proofs.Ytgibhdbhagcpoaa.shedWaits
set_option linter.unusedSimpArgs false
set_option linter.unusedVariables false
open Go.RowKit

set_option maxRecDepth 100000 in
set_option maxHeartbeats 6400000 in
theorem walk_at (x : Lk) (b : Bu) (w : World) (hk0 : -9223372036854775808 ≤ x.k) (hk1 : x.k ≤ 9223372036854775807) :
    Calls Try.prog 5 #[.agg x.cs, .agg b.cs] w fun e w' => e = .returned (.bool true) ∧ Below w.heap.size w w' := by
  have HAW := hide aw_shed
  have QD := hide (fun w => sd_Decide x b w hk0 hk1)
  have QK := hide (fun w => bu_Check b w)
  clear hk0 hk1
  obtain ⟨g, hg⟩ : ∃ g, g = w.heap.size := ⟨_, rfl⟩
  have HL := hide hg.symm
  obtain ⟨W, hW⟩ : ∃ W, (w.alloc (.cells x.cs 23)).alloc (.cells b.cs 25) = W := ⟨_, rfl⟩
  have HB := hide (show Below w.heap.size w W by rw [← hW]; exact bel2 w _ _)
  have HX := hide (show BlkIs W g 23 x.cs by rw [← hW, hg]; exact (BlkIs.new w _ _).alloc _)
  have HY := hide (show BlkIs W (g + 1) 25 b.cs by rw [← hW, hg]; exact new2 w _ _ _)
  have HW := hide hW
  clear hg hW
  go_enter Try.func5, Try.ntmps5
  go_upto_region 1 with (fail)
  rw [HL.out, HW.out]
  go_cut [5, 6] from 13 to 15 (fun s5 s6 wx => TwoL W wx x b s5 s6)
  case first =>
    refine wp_region_noPanic ?_
    refine wp_region_held_drew (S := fun w' => Below W.heap.size W w') (by kernel_rfl) (Below.refl _ _).drew (fun hS => ?_)
    generalize W.drew = wd at hS  ⊢
    refine wpAnyH_take (i := 0) (by simp only [List.getElem?_toArray, List.getElem?_cons_zero] <;> exact rfl) (by kernel_rfl) (by kernel_rfl) (by kernel_rfl) (fun _ _ _ h => h) (rgs_yields_blk (by rfl) 23 (.tmp 2) (by rfl) g (by rfl) 23 x.cs _ (fun w' hw' => HX.out.keep hw') Try.underlying23 rfl rl_size) hS ?_
    try simp only [Act.put, List.setIfInBounds_toArray, List.set_cons_zero, List.set_cons_succ]
    refine wpAnyH_take (i := 1) (by simp only [List.getElem?_toArray, List.getElem?_cons_succ, List.getElem?_cons_zero] <;> exact rfl) (by kernel_rfl) (by kernel_rfl) (by kernel_rfl) (fun _ _ _ h => h) (rgs_yields_blk (by rfl) 25 (.tmp 3) (by rfl) (g + 1) (by rfl) 25 b.cs _ (fun w' hw' => HY.out.keep hw') Try.underlying25 rfl rb_size) hS ?_
    try simp only [Act.put, List.setIfInBounds_toArray, List.set_cons_zero, List.set_cons_succ]
    refine wpAnyH_ready (rs := [2, 3]) (by kernel_rfl) (by simp) ?_
    refine AllReadyH.cons (o := _) (by simp only [List.getElem?_toArray, List.getElem?_cons_succ, List.getElem?_cons_zero] <;> exact rfl) (fun K hK => ?_) ?_
    focus (
      go_simp
      have hz1 := hS.size
      have hS := hS.alloc hS.size (.cells #[.int .i64 0, .int .i64 0, .int .i64 0, .bool false, .int .i64 0, .int .i64 0, .int .i64 0, .int .i64 0, .int .i64 0] 29)
      refine hK.out _ _ hS (fun _ => ?_)
      have Ex'1 := BlkIs.new wd 29 #[.int .i64 0, .int .i64 0, .int .i64 0, .bool false, .int .i64 0, .int .i64 0, .int .i64 0, .int .i64 0, .int .i64 0]
      obtain ⟨x', hx'⟩ : ∃ g, g = wd.heap.size := ⟨_, rfl⟩
      have Mx' : W.heap.size ≤ x' := by rw [hx']; exact hz1
      rw [← hx'] at Ex'1 ⊢
      generalize wd.alloc (.cells #[.int .i64 0, .int .i64 0, .int .i64 0, .bool false, .int .i64 0, .int .i64 0, .int .i64 0, .int .i64 0, .int .i64 0] 29) = wa1 at hS Ex'1 ⊢
      clear hx' hz1
      clear hK K
      try simp only [Act.put, List.setIfInBounds_toArray, List.set_cons_zero, List.set_cons_succ]
      refine wpAnyH_ready (rs := [3]) (by kernel_rfl) (by simp) ?_
      refine AllReadyH.cons (o := _) (by simp only [List.getElem?_toArray, List.getElem?_cons_succ, List.getElem?_cons_zero] <;> exact rfl) (fun K hK => ?_) ?_
      focus (
        go_simp
        have hz2 := hS.size
        have hS := hS.alloc hS.size (.cells #[.int .i64 0, .int .i64 0, .int .i64 0, .int .i64 0, .int .i64 0] 26)
        refine hK.out _ _ hS (fun _ => ?_)
        have Ex'2 := Ex'1.alloc (.cells #[.int .i64 0, .int .i64 0, .int .i64 0, .int .i64 0, .int .i64 0] 26)
        have Ey'2 := BlkIs.new wa1 26 #[.int .i64 0, .int .i64 0, .int .i64 0, .int .i64 0, .int .i64 0]
        obtain ⟨y', hy'⟩ : ∃ g, g = wa1.heap.size := ⟨_, rfl⟩
        have My' : W.heap.size ≤ y' := by rw [hy']; exact hz2
        rw [← hy'] at Ey'2 ⊢
        have Nx'y' : x' ≠ y' := by have := Ex'1.lt; omega
        have Ny'x' : y' ≠ x' := by have := Ex'1.lt; omega
        generalize wa1.alloc (.cells #[.int .i64 0, .int .i64 0, .int .i64 0, .int .i64 0, .int .i64 0] 26) = wa2 at hS Ex'2 Ey'2 ⊢
        clear hy' hz2
        clear hK K
        try simp only [Act.put, List.setIfInBounds_toArray, List.set_cons_zero, List.set_cons_succ]
        refine wpAnyH_ready (rs := [4]) (by kernel_rfl) (by simp) ?_
        refine AllReadyH.cons (o := _) (by simp only [List.getElem?_toArray, List.getElem?_cons_succ, List.getElem?_cons_zero] <;> exact rfl) (fun K hK => ?_) ?_
        focus (
          refine rgs_store_blk (by rfl) 29 (.tmp 5) (.tmp 13) (by rfl) x' x.cs #[.int .i64 0, .int .i64 0, .int .i64 0, .bool false, .int .i64 0, .int .i64 0, .int .i64 0, .int .i64 0, .int .i64 0] 29 (by rfl) (by rfl) Ex'2 lk_size rfl (Lk.cs_one x) ?_
          have hS := below_setRow hS Mx' x.cs
          have Ex'3 := Ex'2.row x.cs
          have Ey'3 := Ey'2.row_other Ny'x' x.cs
          refine hK.out _ _ hS (fun _ => ?_)
          generalize wa2.setRow x' x.cs = ws3 at hS Ex'3 Ey'3 ⊢
          clear hK K
          try simp only [Act.put, List.setIfInBounds_toArray, List.set_cons_zero, List.set_cons_succ]
          refine wpAnyH_ready (rs := [5]) (by kernel_rfl) (by simp) ?_
          refine AllReadyH.cons (o := _) (by simp only [List.getElem?_toArray, List.getElem?_cons_succ, List.getElem?_cons_zero] <;> exact rfl) (fun K hK => ?_) ?_
          focus (
            refine rgs_store_blk (by rfl) 26 (.tmp 6) (.tmp 14) (by rfl) y' b.cs #[.int .i64 0, .int .i64 0, .int .i64 0, .int .i64 0, .int .i64 0] 26 (by rfl) (by rfl) Ey'3 bu_size rfl (Bu.cs_one b) ?_
            have hS := below_setRow hS My' b.cs
            have Ex'4 := Ex'3.row_other Nx'y' b.cs
            have Ey'4 := Ey'3.row b.cs
            refine hK.out _ _ hS (fun _ => ?_)
            generalize ws3.setRow y' b.cs = ws4 at hS Ex'4 Ey'4 ⊢
            clear hK K
            try simp only [Act.put, List.setIfInBounds_toArray, List.set_cons_zero, List.set_cons_succ]
            refine wpAnyH_done (by kernel_rfl) ?_ _
            refine NoPanic.normal ?_
            go_wp2_with fail
            go_meet
            exact ⟨x', y', rfl, rfl, Ex'4, Ey'4, Mx', My', by first | exact Nx'y' | exact fun e => Ny'x' e.symm, hS⟩)
          exact AllReadyH.nil)
        exact AllReadyH.nil)
      exact AllReadyH.nil)
    refine AllReadyH.cons (o := _) (by simp only [List.getElem?_toArray, List.getElem?_cons_succ, List.getElem?_cons_zero] <;> exact rfl) (fun K hK => ?_) ?_
    focus (
      go_simp
      have hz5 := hS.size
      have hS := hS.alloc hS.size (.cells #[.int .i64 0, .int .i64 0, .int .i64 0, .int .i64 0, .int .i64 0] 26)
      refine hK.out _ _ hS (fun _ => ?_)
      have Ey'5 := BlkIs.new wd 26 #[.int .i64 0, .int .i64 0, .int .i64 0, .int .i64 0, .int .i64 0]
      obtain ⟨y', hy'⟩ : ∃ g, g = wd.heap.size := ⟨_, rfl⟩
      have My' : W.heap.size ≤ y' := by rw [hy']; exact hz5
      rw [← hy'] at Ey'5 ⊢
      generalize wd.alloc (.cells #[.int .i64 0, .int .i64 0, .int .i64 0, .int .i64 0, .int .i64 0] 26) = wa5 at hS Ey'5 ⊢
      clear hy' hz5
      clear hK K
      try simp only [Act.put, List.setIfInBounds_toArray, List.set_cons_zero, List.set_cons_succ]
      refine wpAnyH_ready (rs := [2]) (by kernel_rfl) (by simp) ?_
      refine AllReadyH.cons (o := _) (by simp only [List.getElem?_toArray, List.getElem?_cons_succ, List.getElem?_cons_zero] <;> exact rfl) (fun K hK => ?_) ?_
      focus (
        go_simp
        have hz6 := hS.size
        have hS := hS.alloc hS.size (.cells #[.int .i64 0, .int .i64 0, .int .i64 0, .bool false, .int .i64 0, .int .i64 0, .int .i64 0, .int .i64 0, .int .i64 0] 29)
        refine hK.out _ _ hS (fun _ => ?_)
        have Ey'6 := Ey'5.alloc (.cells #[.int .i64 0, .int .i64 0, .int .i64 0, .bool false, .int .i64 0, .int .i64 0, .int .i64 0, .int .i64 0, .int .i64 0] 29)
        have Ex'6 := BlkIs.new wa5 29 #[.int .i64 0, .int .i64 0, .int .i64 0, .bool false, .int .i64 0, .int .i64 0, .int .i64 0, .int .i64 0, .int .i64 0]
        obtain ⟨x', hx'⟩ : ∃ g, g = wa5.heap.size := ⟨_, rfl⟩
        have Mx' : W.heap.size ≤ x' := by rw [hx']; exact hz6
        rw [← hx'] at Ex'6 ⊢
        have Ny'x' : y' ≠ x' := by have := Ey'5.lt; omega
        have Nx'y' : x' ≠ y' := by have := Ey'5.lt; omega
        generalize wa5.alloc (.cells #[.int .i64 0, .int .i64 0, .int .i64 0, .bool false, .int .i64 0, .int .i64 0, .int .i64 0, .int .i64 0, .int .i64 0] 29) = wa6 at hS Ex'6 Ey'6 ⊢
        clear hx' hz6
        clear hK K
        try simp only [Act.put, List.setIfInBounds_toArray, List.set_cons_zero, List.set_cons_succ]
        refine wpAnyH_ready (rs := [4]) (by kernel_rfl) (by simp) ?_
        refine AllReadyH.cons (o := _) (by simp only [List.getElem?_toArray, List.getElem?_cons_succ, List.getElem?_cons_zero] <;> exact rfl) (fun K hK => ?_) ?_
        focus (
          refine rgs_store_blk (by rfl) 29 (.tmp 5) (.tmp 13) (by rfl) x' x.cs #[.int .i64 0, .int .i64 0, .int .i64 0, .bool false, .int .i64 0, .int .i64 0, .int .i64 0, .int .i64 0, .int .i64 0] 29 (by rfl) (by rfl) Ex'6 lk_size rfl (Lk.cs_one x) ?_
          have hS := below_setRow hS Mx' x.cs
          have Ex'7 := Ex'6.row x.cs
          have Ey'7 := Ey'6.row_other Ny'x' x.cs
          refine hK.out _ _ hS (fun _ => ?_)
          generalize wa6.setRow x' x.cs = ws7 at hS Ex'7 Ey'7 ⊢
          clear hK K
          try simp only [Act.put, List.setIfInBounds_toArray, List.set_cons_zero, List.set_cons_succ]
          refine wpAnyH_ready (rs := [5]) (by kernel_rfl) (by simp) ?_
          refine AllReadyH.cons (o := _) (by simp only [List.getElem?_toArray, List.getElem?_cons_succ, List.getElem?_cons_zero] <;> exact rfl) (fun K hK => ?_) ?_
          focus (
            refine rgs_store_blk (by rfl) 26 (.tmp 6) (.tmp 14) (by rfl) y' b.cs #[.int .i64 0, .int .i64 0, .int .i64 0, .int .i64 0, .int .i64 0] 26 (by rfl) (by rfl) Ey'7 bu_size rfl (Bu.cs_one b) ?_
            have hS := below_setRow hS My' b.cs
            have Ex'8 := Ex'7.row_other Nx'y' b.cs
            have Ey'8 := Ey'7.row b.cs
            refine hK.out _ _ hS (fun _ => ?_)
            generalize ws7.setRow y' b.cs = ws8 at hS Ex'8 Ey'8 ⊢
            clear hK K
            try simp only [Act.put, List.setIfInBounds_toArray, List.set_cons_zero, List.set_cons_succ]
            refine wpAnyH_done (by kernel_rfl) ?_ _
            refine NoPanic.normal ?_
            go_wp2_with fail
            go_meet
            exact ⟨x', y', rfl, rfl, Ex'8, Ey'8, Mx', My', by first | exact Nx'y' | exact fun e => Ny'x' e.symm, hS⟩)
          exact AllReadyH.nil)
        exact AllReadyH.nil)
      exact AllReadyH.nil)
    exact AllReadyH.nil
  case rest =>
    obtain ⟨gl, ga, rfl, rfl, hl, ha, ml, ma, mn, hb⟩ := hcut
    have NX := hide hl
    have NA := hide ha
    have NB := hide (HB.out.trans (hb.mono HB.out.size))
    have HGl := hide (show w.heap.size ≤ gl from Nat.le_trans HB.out.size ml)
    have HGa := hide (show w.heap.size ≤ ga from Nat.le_trans HB.out.size ma)
    have HNE := hide mn
    clear hl ha hb HX HY HB HW ml ma mn
    generalize wc = W2 at *
    by_cases h0 : x.i < 0
    · have k0 : decide (x.i < 0) = true := by rw [decide_eq_true_iff]; exact h0
      clear h0
      obtain ⟨x0, x1, x2, x3, x4, x5, x6, x7, x8⟩ := cells9 (x := x) NX.out
      clear x0 x1 x2 x3 x4 x5 x6
      obtain ⟨y0, y1, y2, y3, y4⟩ := cells5 (b := b) NA.out
      clear y0 y1 y2 y3
      go_wp2_with fail
      refine (HAW.out _).mono ?_
      rintro e w_1 ⟨rfl, hb⟩
      have Hl_2 := hide (NX.out.keep hb)
      clear NX
      have Ha_2 := hide (NA.out.keep hb)
      clear NA
      have HB_2 := hide (NB.out.trans (hb.mono NB.out.size))
      clear NB
      clear hb
      go_wp2
      go_ret
      exact ⟨rfl, HB_2.out⟩
    have k0 : decide (x.i < 0) = false := by rw [decide_eq_false_iff_not]; exact h0
    by_cases h1 : 1073741824 < x.i
    · have k1 : decide (1073741824 < x.i) = true := by rw [decide_eq_true_iff]; exact h1
      clear h0 h1
      obtain ⟨x0, x1, x2, x3, x4, x5, x6, x7, x8⟩ := cells9 (x := x) NX.out
      clear x0 x1 x2 x3 x4 x5 x6
      obtain ⟨y0, y1, y2, y3, y4⟩ := cells5 (b := b) NA.out
      clear y0 y1 y2 y3
      go_wp2_with fail
      refine (HAW.out _).mono ?_
      rintro e w_1 ⟨rfl, hb⟩
      have Hl_2 := hide (NX.out.keep hb)
      clear NX
      have Ha_2 := hide (NA.out.keep hb)
      clear NA
      have HB_2 := hide (NB.out.trans (hb.mono NB.out.size))
      clear NB
      clear hb
      go_wp2
      go_ret
      exact ⟨rfl, HB_2.out⟩
    have k1 : decide (1073741824 < x.i) = false := by rw [decide_eq_false_iff_not]; exact h1
    by_cases h2 : 1073741824 < b.n
    · have k2 : decide (1073741824 < b.n) = true := by rw [decide_eq_true_iff]; exact h2
      clear h0 h1 h2
      obtain ⟨x0, x1, x2, x3, x4, x5, x6, x7, x8⟩ := cells9 (x := x) NX.out
      clear x0 x1 x2 x3 x4 x5 x6
      obtain ⟨y0, y1, y2, y3, y4⟩ := cells5 (b := b) NA.out
      clear y0 y1 y2 y3
      go_wp2_with fail
      refine (HAW.out _).mono ?_
      rintro e w_1 ⟨rfl, hb⟩
      have Hl_2 := hide (NX.out.keep hb)
      clear NX
      have Ha_2 := hide (NA.out.keep hb)
      clear NA
      have HB_2 := hide (NB.out.trans (hb.mono NB.out.size))
      clear NB
      clear hb
      go_wp2
      go_ret
      exact ⟨rfl, HB_2.out⟩
    have k2 : decide (1073741824 < b.n) = false := by rw [decide_eq_false_iff_not]; exact h2
    by_cases h3 : x.s < 1
    · have k3 : decide (x.s < 1) = true := by rw [decide_eq_true_iff]; exact h3
      clear h0 h1 h2 h3
      obtain ⟨x0, x1, x2, x3, x4, x5, x6, x7, x8⟩ := cells9 (x := x) NX.out
      clear x0 x1 x2 x3 x4 x5 x6
      obtain ⟨y0, y1, y2, y3, y4⟩ := cells5 (b := b) NA.out
      clear y0 y1 y2 y3
      go_wp2_with fail
      refine (HAW.out _).mono ?_
      rintro e w_1 ⟨rfl, hb⟩
      have Hl_2 := hide (NX.out.keep hb)
      clear NX
      have Ha_2 := hide (NA.out.keep hb)
      clear NA
      have HB_2 := hide (NB.out.trans (hb.mono NB.out.size))
      clear NB
      clear hb
      go_wp2
      go_ret
      exact ⟨rfl, HB_2.out⟩
    have k3 : decide (x.s < 1) = false := by rw [decide_eq_false_iff_not]; exact h3
    by_cases h4 : 1000 < x.s
    · have k4 : decide (1000 < x.s) = true := by rw [decide_eq_true_iff]; exact h4
      clear h0 h1 h2 h3 h4
      obtain ⟨x0, x1, x2, x3, x4, x5, x6, x7, x8⟩ := cells9 (x := x) NX.out
      clear x0 x1 x2 x3 x4 x5 x6
      obtain ⟨y0, y1, y2, y3, y4⟩ := cells5 (b := b) NA.out
      clear y0 y1 y2 y3
      go_wp2_with fail
      refine (HAW.out _).mono ?_
      rintro e w_1 ⟨rfl, hb⟩
      have Hl_2 := hide (NX.out.keep hb)
      clear NX
      have Ha_2 := hide (NA.out.keep hb)
      clear NA
      have HB_2 := hide (NB.out.trans (hb.mono NB.out.size))
      clear NB
      clear hb
      go_wp2
      go_ret
      exact ⟨rfl, HB_2.out⟩
    have k4 : decide (1000 < x.s) = false := by rw [decide_eq_false_iff_not]; exact h4
    by_cases hf : (decD x b).1 = 2
    · obtain ⟨t1, e⟩ := many_of hf
      rw [e] at QD
      have t2 := (tak_no t1).2
      obtain ⟨c, hc⟩ : ∃ c, c = atB b x.i := ⟨_, rfl⟩
      simp only at QD
      rw [← hc] at QD
      obtain ⟨m, hm⟩ : ∃ m, m = secI (waitB b x.i) x.s := ⟨_, rfl⟩
      rw [← hm] at QD
      cases hok : okB b with
      | false =>
        rw [chkB_no hok] at QK
        clear hok h0 h1 h2 h3 h4 hf t1 e t2 hc hm
        obtain ⟨x0, x1, x2, x3, x4, x5, x6, x7, x8⟩ := cells9 (x := x) NX.out
        clear x0 x1 x2 x3 x4 x5 x6
        obtain ⟨y0, y1, y2, y3, y4⟩ := cells5 (b := b) NA.out
        clear y0 y1 y2 y3
        go_upto_region 4 with (fail)
        clear x7 x8 y4
        go_wp2_with (first | (refine wpList_load_blk rfl 29 (.tmp 5) rfl gl rfl 29 x.cs _ NX.out Try.underlying29 rfl lk_size ?_) | (refine wpList_load_blk rfl 26 (.tmp 6) rfl ga rfl 26 b.cs _ NA.out Try.underlying26 rfl bu_size ?_))
        refine (QD.out _).mono ?_
        rintro e w_1 ⟨rfl, hb⟩
        have Hl_2 := hide (NX.out.keep hb)
        clear NX
        have Ha_2 := hide (NA.out.keep hb)
        clear NA
        have HB_2 := hide (NB.out.trans (hb.mono NB.out.size))
        clear NB
        clear hb
        obtain ⟨gc, hg⟩ : ∃ g, g = w_1.heap.size := ⟨_, rfl⟩
        have Gc := hide hg.symm
        have Nc := hide (show BlkIs (w_1.alloc (.cells c.cs 26)) gc 26 c.cs by rw [hg]; exact BlkIs.new w_1 _ _)
        clear hg
        have Hl_4 := hide (Hl_2.out.alloc (.cells c.cs 26))
        clear Hl_2
        have Ha_4 := hide (Ha_2.out.alloc (.cells c.cs 26))
        clear Ha_2
        have HB_4 := hide (HB_2.out.alloc HB_2.out.size (.cells c.cs 26))
        clear HB_2
        go_upto_region 5 with (first | (refine wpList_store_new rfl 26 (.tmp 8) (.tmp 44) rfl c.cs _ 26 rfl rfl bu_size rfl (Bu.cs_one _) ?_))
        rw [Gc.out]
        generalize w_1.alloc (.cells c.cs 26) = v_3 at *
        go_wp2_with (first | (refine rgs_load_want (by rfl) 26 (.tmp 6) rfl ga rfl 26 b.cs _ Ha_4.out Try.underlying26 rfl bu_size ?_))
        refine (QK.out _).mono ?_
        rintro e w_5 ⟨rfl, hb⟩
        have Hl_6 := hide (Hl_4.out.keep hb)
        clear Hl_4
        have Ha_6 := hide (Ha_4.out.keep hb)
        clear Ha_4
        have Hc_6 := hide (Nc.out.keep hb)
        clear Nc
        have HB_6 := hide (HB_4.out.trans (hb.mono HB_4.out.size))
        clear HB_4
        clear hb
        go_wp2_with fail
        refine (HAW.out _).mono ?_
        rintro e w_7 ⟨rfl, hb⟩
        have Hl_8 := hide (Hl_6.out.keep hb)
        clear Hl_6
        have Ha_8 := hide (Ha_6.out.keep hb)
        clear Ha_6
        have Hc_8 := hide (Hc_6.out.keep hb)
        clear Hc_6
        have HB_8 := hide (HB_6.out.trans (hb.mono HB_6.out.size))
        clear HB_6
        clear hb
        go_wp2
        go_ret
        exact ⟨rfl, HB_8.out⟩
      | true =>
        rw [chkB_yes hok] at QK
        by_cases hr : b.r = 0
        · clear hok h0 h1 h2 h3 h4 hf t1 e t2 hc hm
          obtain ⟨x0, x1, x2, x3, x4, x5, x6, x7, x8⟩ := cells9 (x := x) NX.out
          clear x0 x1 x2 x3 x4 x5 x6
          obtain ⟨y0, y1, y2, y3, y4⟩ := cells5 (b := b) NA.out
          clear y0 y1 y2 y3
          go_upto_region 4 with (fail)
          clear x7 x8 y4
          go_wp2_with (first | (refine wpList_load_blk rfl 29 (.tmp 5) rfl gl rfl 29 x.cs _ NX.out Try.underlying29 rfl lk_size ?_) | (refine wpList_load_blk rfl 26 (.tmp 6) rfl ga rfl 26 b.cs _ NA.out Try.underlying26 rfl bu_size ?_))
          refine (QD.out _).mono ?_
          rintro e w_1 ⟨rfl, hb⟩
          have Hl_2 := hide (NX.out.keep hb)
          clear NX
          have Ha_2 := hide (NA.out.keep hb)
          clear NA
          have HB_2 := hide (NB.out.trans (hb.mono NB.out.size))
          clear NB
          clear hb
          obtain ⟨gc, hg⟩ : ∃ g, g = w_1.heap.size := ⟨_, rfl⟩
          have Gc := hide hg.symm
          have Nc := hide (show BlkIs (w_1.alloc (.cells c.cs 26)) gc 26 c.cs by rw [hg]; exact BlkIs.new w_1 _ _)
          clear hg
          have Hl_4 := hide (Hl_2.out.alloc (.cells c.cs 26))
          clear Hl_2
          have Ha_4 := hide (Ha_2.out.alloc (.cells c.cs 26))
          clear Ha_2
          have HB_4 := hide (HB_2.out.alloc HB_2.out.size (.cells c.cs 26))
          clear HB_2
          go_upto_region 5 with (first | (refine wpList_store_new rfl 26 (.tmp 8) (.tmp 44) rfl c.cs _ 26 rfl rfl bu_size rfl (Bu.cs_one _) ?_))
          rw [Gc.out]
          generalize w_1.alloc (.cells c.cs 26) = v_3 at *
          go_wp2_with (first | (refine rgs_load_want (by rfl) 26 (.tmp 6) rfl ga rfl 26 b.cs _ Ha_4.out Try.underlying26 rfl bu_size ?_))
          refine (QK.out _).mono ?_
          rintro e w_5 ⟨rfl, hb⟩
          have Hl_6 := hide (Hl_4.out.keep hb)
          clear Hl_4
          have Ha_6 := hide (Ha_4.out.keep hb)
          clear Ha_4
          have Hc_6 := hide (Nc.out.keep hb)
          clear Nc
          have HB_6 := hide (HB_4.out.trans (hb.mono HB_4.out.size))
          clear HB_4
          clear hb
          obtain ⟨y0, y1, y2, y3, y4⟩ := cells5 (b := b) Ha_6.out
          clear y0 y2 y3 y4
          rw [hr] at y1
          go_wp2_with fail
          refine (HAW.out _).mono ?_
          rintro e w_7 ⟨rfl, hb⟩
          have Hl_8 := hide (Hl_6.out.keep hb)
          clear Hl_6
          have Ha_8 := hide (Ha_6.out.keep hb)
          clear Ha_6
          have Hc_8 := hide (Hc_6.out.keep hb)
          clear Hc_6
          have HB_8 := hide (HB_6.out.trans (hb.mono HB_6.out.size))
          clear HB_6
          clear hb
          go_wp2
          go_ret
          exact ⟨rfl, HB_8.out⟩
        have lt := late (okB_iff.1 hok) (i := x.i) (s := x.s) (by omega) (by omega) (by omega) (by omega) (by omega) t2 hr
        rw [← hm] at lt
        obtain ⟨p0, p1, p2, p3, p4, p5, p6, p7⟩ := lt
        have hn0 : 0 ≤ b.n := (okB_iff.1 hok).2.2.2.2.2.2.1
        obtain ⟨nw, hnw⟩ : ∃ nw, nw = max x.i b.n := ⟨_, rfl⟩
        have hn1 : 0 ≤ nw ∧ nw ≤ 1073741824 := by omega
        rw [← hnw] at p6 p7
        obtain ⟨M1, hM1⟩ : ∃ M, M = m * x.s := ⟨_, rfl⟩
        obtain ⟨M2, hM2⟩ : ∃ M, M = (m - 1) * x.s := ⟨_, rfl⟩
        rw [← hM1] at p1 p2 p6
        rw [← hM2] at p3 p4 p7
        have QA1 := hide (fun w => bu_At b (nw + M1) w)
        have QH1 := hide (fun w => bu_Has (atB b (nw + M1)) w)
        have QA2 := hide (fun w => bu_At b (nw + M2) w)
        have QH2 := hide (fun w => bu_Has (atB b (nw + M2)) w)
        obtain ⟨q1, hq1⟩ : ∃ q, q = hasB (atB b (nw + M1)) := ⟨_, rfl⟩
        obtain ⟨q2, hq2⟩ : ∃ q, q = hasB (atB b (nw + M2)) := ⟨_, rfl⟩
        rw [← hq1] at QH1 p6
        rw [← hq2] at QH2 p7
        obtain ⟨z1, hz1⟩ : ∃ z, z = atB b (nw + M1) := ⟨_, rfl⟩
        obtain ⟨z2, hz2⟩ : ∃ z, z = atB b (nw + M2) := ⟨_, rfl⟩
        rw [← hz1] at QA1 QH1
        rw [← hz2] at QA2 QH2
        have w1 : IntKind.i64.wrap M1 = M1 := IntWalk.i64_in _ (by omega)
        have w2 : IntKind.i64.wrap (nw + M1) = nw + M1 := IntWalk.i64_in _ (by omega)
        have w3 : IntKind.i64.wrap (m - 1) = m - 1 := IntWalk.i64_in _ (by omega)
        have w4 : IntKind.i64.wrap M2 = M2 := IntWalk.i64_in _ (by omega)
        have w5 : IntKind.i64.wrap (nw + M2) = nw + M2 := IntWalk.i64_in _ (by omega)
        have e1 : m * x.s = M1 := hM1.symm
        have e2 : (m - 1) * x.s = M2 := hM2.symm
        have e3 : max x.i b.n = nw := hnw.symm
        have kr : (b.r == 0) = false := by rw [beq_eq_false_iff_ne]; exact hr
        have kq : decide (0 < q1) = true := decide_eq_true p6
        have P7 := hide p7
        clear hok h0 h1 h2 h3 h4 hf t1 e t2 hc hm hr p0 p1 p2 p3 p4 p5 p6 p7 hn0 hn1 hnw hM1 hM2 hq1 hq2 hz1 hz2
        obtain ⟨x0, x1, x2, x3, x4, x5, x6, x7, x8⟩ := cells9 (x := x) NX.out
        clear x0 x1 x2 x3 x4 x5 x6
        obtain ⟨y0, y1, y2, y3, y4⟩ := cells5 (b := b) NA.out
        clear y0 y1 y2 y3
        go_upto_region 4 with (fail)
        clear x7 x8 y4
        go_wp2_with (first | (refine wpList_load_blk rfl 29 (.tmp 5) rfl gl rfl 29 x.cs _ NX.out Try.underlying29 rfl lk_size ?_) | (refine wpList_load_blk rfl 26 (.tmp 6) rfl ga rfl 26 b.cs _ NA.out Try.underlying26 rfl bu_size ?_))
        refine (QD.out _).mono ?_
        rintro e w_1 ⟨rfl, hb⟩
        have Hl_2 := hide (NX.out.keep hb)
        clear NX
        have Ha_2 := hide (NA.out.keep hb)
        clear NA
        have HB_2 := hide (NB.out.trans (hb.mono NB.out.size))
        clear NB
        clear hb
        obtain ⟨gc, hg⟩ : ∃ g, g = w_1.heap.size := ⟨_, rfl⟩
        have Gc := hide hg.symm
        have Nc := hide (show BlkIs (w_1.alloc (.cells c.cs 26)) gc 26 c.cs by rw [hg]; exact BlkIs.new w_1 _ _)
        clear hg
        have Hl_4 := hide (Hl_2.out.alloc (.cells c.cs 26))
        clear Hl_2
        have Ha_4 := hide (Ha_2.out.alloc (.cells c.cs 26))
        clear Ha_2
        have HB_4 := hide (HB_2.out.alloc HB_2.out.size (.cells c.cs 26))
        clear HB_2
        go_upto_region 5 with (first | (refine wpList_store_new rfl 26 (.tmp 8) (.tmp 44) rfl c.cs _ 26 rfl rfl bu_size rfl (Bu.cs_one _) ?_))
        rw [Gc.out]
        generalize w_1.alloc (.cells c.cs 26) = v_3 at *
        go_wp2_with (first | (refine rgs_load_want (by rfl) 26 (.tmp 6) rfl ga rfl 26 b.cs _ Ha_4.out Try.underlying26 rfl bu_size ?_))
        refine (QK.out _).mono ?_
        rintro e w_5 ⟨rfl, hb⟩
        have Hl_6 := hide (Hl_4.out.keep hb)
        clear Hl_4
        have Ha_6 := hide (Ha_4.out.keep hb)
        clear Ha_4
        have Hc_6 := hide (Nc.out.keep hb)
        clear Nc
        have HB_6 := hide (HB_4.out.trans (hb.mono HB_4.out.size))
        clear HB_4
        clear hb
        obtain ⟨x0, x1, x2, x3, x4, x5, x6, x7, x8⟩ := cells9 (x := x) Hl_6.out
        clear x0 x1 x2 x3 x4 x5 x6
        obtain ⟨y0, y1, y2, y3, y4⟩ := cells5 (b := b) Ha_6.out
        clear y0 y2 y3
        go_upto_region 8 with (fail)
        go_wp2_with (first | (refine wpList_load_blk rfl 26 (.tmp 6) rfl ga rfl 26 b.cs _ Ha_6.out Try.underlying26 rfl bu_size ?_))
        refine (QA1.out _).mono ?_
        rintro e w_7 ⟨rfl, hb⟩
        have Hl_8 := hide (Hl_6.out.keep hb)
        clear Hl_6
        have Ha_8 := hide (Ha_6.out.keep hb)
        clear Ha_6
        have Hc_8 := hide (Hc_6.out.keep hb)
        clear Hc_6
        have HB_8 := hide (HB_6.out.trans (hb.mono HB_6.out.size))
        clear HB_6
        clear hb
        clear x7 x8 y1 y4
        go_wp2_with fail
        refine (QH1.out _).mono ?_
        rintro e w_9 ⟨rfl, hb⟩
        have Hl_10 := hide (Hl_8.out.keep hb)
        clear Hl_8
        have Ha_10 := hide (Ha_8.out.keep hb)
        clear Ha_8
        have Hc_10 := hide (Hc_8.out.keep hb)
        clear Hc_8
        have HB_10 := hide (HB_8.out.trans (hb.mono HB_8.out.size))
        clear HB_8
        clear hb
        obtain ⟨x0, x1, x2, x3, x4, x5, x6, x7, x8⟩ := cells9 (x := x) Hl_10.out
        clear x0 x1 x2 x3 x4 x5 x6 x7
        go_upto_region 9 with (fail)
        go_wp2_with (first | (refine wpList_load_blk rfl 26 (.tmp 6) rfl ga rfl 26 b.cs _ Ha_10.out Try.underlying26 rfl bu_size ?_))
        refine (QA2.out _).mono ?_
        rintro e w_11 ⟨rfl, hb⟩
        have Hl_12 := hide (Hl_10.out.keep hb)
        clear Hl_10
        have Ha_12 := hide (Ha_10.out.keep hb)
        clear Ha_10
        have Hc_12 := hide (Hc_10.out.keep hb)
        clear Hc_10
        have HB_12 := hide (HB_10.out.trans (hb.mono HB_10.out.size))
        clear HB_10
        clear hb
        clear x8
        go_wp2_with fail
        refine (QH2.out _).mono ?_
        rintro e w_13 ⟨rfl, hb⟩
        have Hl_14 := hide (Hl_12.out.keep hb)
        clear Hl_12
        have Ha_14 := hide (Ha_12.out.keep hb)
        clear Ha_12
        have Hc_14 := hide (Hc_12.out.keep hb)
        clear Hc_12
        have HB_14 := hide (HB_12.out.trans (hb.mono HB_12.out.size))
        clear HB_12
        clear hb
        go_upto_region 10 with (fail)
        clear e1 e2 e3 w1 w2 w3 w4 w5
        by_cases hm : m = 1
        · subst hm
          go_wp2_with fail
          refine (HAW.out _).mono ?_
          rintro e w_15 ⟨rfl, hb⟩
          have Hl_16 := hide (Hl_14.out.keep hb)
          clear Hl_14
          have Ha_16 := hide (Ha_14.out.keep hb)
          clear Ha_14
          have Hc_16 := hide (Hc_14.out.keep hb)
          clear Hc_14
          have HB_16 := hide (HB_14.out.trans (hb.mono HB_14.out.size))
          clear HB_14
          clear hb
          go_wp2
          go_ret
          exact ⟨rfl, HB_16.out⟩
        · have km : (m == 1) = false := by rw [beq_eq_false_iff_ne]; exact hm
          have q0 : q2 = 0 := by rcases P7.out with h | h; exact absurd h hm; exact h
          subst q0
          clear hm
          go_wp2_with fail
          refine (HAW.out _).mono ?_
          rintro e w_15 ⟨rfl, hb⟩
          have Hl_16 := hide (Hl_14.out.keep hb)
          clear Hl_14
          have Ha_16 := hide (Ha_14.out.keep hb)
          clear Ha_14
          have Hc_16 := hide (Hc_14.out.keep hb)
          clear Hc_14
          have HB_16 := hide (HB_14.out.trans (hb.mono HB_14.out.size))
          clear HB_14
          clear hb
          go_wp2
          go_ret
          exact ⟨rfl, HB_16.out⟩
    · obtain ⟨f, hff⟩ : ∃ f, f = (decD x b).1 := ⟨_, rfl⟩
      obtain ⟨c, hc⟩ : ∃ c, c = (decD x b).2.1 := ⟨_, rfl⟩
      obtain ⟨m, hm⟩ : ∃ m, m = (decD x b).2.2 := ⟨_, rfl⟩
      rw [← hff, ← hc, ← hm] at QD
      rw [← hff] at hf
      have kf : (f == 2) = false := by rw [beq_eq_false_iff_ne]; exact hf
      have kg : (f != 2) = true := by rw [bne_iff_ne]; exact hf
      clear h0 h1 h2 h3 h4 hf hff hc hm
      obtain ⟨x0, x1, x2, x3, x4, x5, x6, x7, x8⟩ := cells9 (x := x) NX.out
      clear x0 x1 x2 x3 x4 x5 x6
      obtain ⟨y0, y1, y2, y3, y4⟩ := cells5 (b := b) NA.out
      clear y0 y1 y2 y3
      go_upto_region 4 with (fail)
      clear x7 x8 y4
      go_wp2_with (first | (refine wpList_load_blk rfl 29 (.tmp 5) rfl gl rfl 29 x.cs _ NX.out Try.underlying29 rfl lk_size ?_) | (refine wpList_load_blk rfl 26 (.tmp 6) rfl ga rfl 26 b.cs _ NA.out Try.underlying26 rfl bu_size ?_))
      refine (QD.out _).mono ?_
      rintro e w_1 ⟨rfl, hb⟩
      have Hl_2 := hide (NX.out.keep hb)
      clear NX
      have Ha_2 := hide (NA.out.keep hb)
      clear NA
      have HB_2 := hide (NB.out.trans (hb.mono NB.out.size))
      clear NB
      clear hb
      obtain ⟨gc, hg⟩ : ∃ g, g = w_1.heap.size := ⟨_, rfl⟩
      have Gc := hide hg.symm
      have Nc := hide (show BlkIs (w_1.alloc (.cells c.cs 26)) gc 26 c.cs by rw [hg]; exact BlkIs.new w_1 _ _)
      clear hg
      have Hl_4 := hide (Hl_2.out.alloc (.cells c.cs 26))
      clear Hl_2
      have Ha_4 := hide (Ha_2.out.alloc (.cells c.cs 26))
      clear Ha_2
      have HB_4 := hide (HB_2.out.alloc HB_2.out.size (.cells c.cs 26))
      clear HB_2
      go_upto_region 5 with (first | (refine wpList_store_new rfl 26 (.tmp 8) (.tmp 44) rfl c.cs _ 26 rfl rfl bu_size rfl (Bu.cs_one _) ?_))
      rw [Gc.out]
      generalize w_1.alloc (.cells c.cs 26) = v_3 at *
      go_wp2_with fail
      refine (HAW.out _).mono ?_
      rintro e w_5 ⟨rfl, hb⟩
      have Hl_6 := hide (Hl_4.out.keep hb)
      clear Hl_4
      have Ha_6 := hide (Ha_4.out.keep hb)
      clear Ha_4
      have Hc_6 := hide (Nc.out.keep hb)
      clear Nc
      have HB_6 := hide (HB_4.out.trans (hb.mono HB_4.out.size))
      clear HB_4
      clear hb
      go_wp2
      go_ret
      exact ⟨rfl, HB_6.out⟩

theorem walk (f0 f1 f2 : Int) (f3 : Bool) (f4 f5 f6 f7 f8 b0 b1 b2 b3 b4 : Int) (w : World) (_ : (Lit.int .i64 f0).wf = true) (_ : (Lit.int .i64 f1).wf = true) (_ : (Lit.int .i64 f2).wf = true) (_ : (Lit.int .i64 f4).wf = true) (_ : (Lit.int .i64 f5).wf = true) (h6 : (Lit.int .i64 f6).wf = true) (_ : (Lit.int .i64 f7).wf = true) (_ : (Lit.int .i64 f8).wf = true) (_ : (Lit.int .i64 b0).wf = true) (_ : (Lit.int .i64 b1).wf = true) (_ : (Lit.int .i64 b2).wf = true) (_ : (Lit.int .i64 b3).wf = true) (_ : (Lit.int .i64 b4).wf = true) :
    Calls Try.prog 5 #[.agg #[.int .i64 f0, .int .i64 f1, .int .i64 f2, .bool f3, .int .i64 f4, .int .i64 f5, .int .i64 f6, .int .i64 f7, .int .i64 f8], .agg #[.int .i64 b0, .int .i64 b1, .int .i64 b2, .int .i64 b3, .int .i64 b4]] w fun e w' => e = .returned (.bool true) ∧ Below w.heap.size w w' := by
  have h := bounds_i64 h6
  exact walk_at ⟨f0, f1, f2, f3, f4, f5, f6, f7, f8⟩ ⟨b0, b1, b2, b3, b4⟩ w h.1 h.2
end Go.Proofs.Ytgibhdbhagcpoaa.shedWaits
