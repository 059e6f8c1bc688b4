/-
  Layer 25: Serve: the document's.
-/
import Derived.Test.YtlondjmklnehhaaTgSmall
import Derived.Test.YtlondjmklnehhaaRegW
import Derived.Test.YtlondjmklnehhaaResMore
import Derived.Deep.Cut
namespace Go.Proofs.Ytlondjmklnehhaa
set_option linter.unusedSimpArgs false
set_option linter.unusedVariables false
open Go.RowKit

set_option maxRecDepth 100000 in
set_option maxHeartbeats 3200000 in
theorem rt_Serve (v : Int) (t : Tg) (c : Int) (w : World) : Calls Try.prog 8 #[.int .i64 v, .agg t.cs, .int .i64 c] w fun e w' => e = .returned (.tuple #[.int .i64 (srvT v t c).1, .agg (srvT v t c).2.1.cs, .int .i64 (srvT v t c).2.2]) ∧ Below w.heap.size w w' := by
  obtain ⟨g, hg⟩ : ∃ g, g = w.heap.size := ⟨_, rfl⟩
  have HL := hide hg.symm
  have HC := hide (fun w => rt_Check t w)
  have HG := hide (fun w => rt_Charge c t.w w)
  obtain ⟨W, hW⟩ : ∃ W, (w.alloc (.cells t.cs 23)).alloc (.cells #[.int .i64 0, .int .i64 0, .int .i64 0, .int .i64 0] 23) = W := ⟨_, rfl⟩
  have HB := hide (show Below w.heap.size w W by rw [← hW]; exact bel2 w _ _)
  have HX := hide (show BlkIs W g 23 t.cs by rw [← hW, hg]; exact (BlkIs.new w _ _).alloc _)
  have HZ := hide (show BlkIs W (g + 1) 23 #[.int .i64 0, .int .i64 0, .int .i64 0, .int .i64 0] by rw [← hW, hg]; exact new2 w _ _ _)
  have HW := hide hW
  clear hg hW
  by_cases h : t.Ok
  · by_cases h1 : WkI c
    · by_cases h2 : Fits t c
      · rw [srvT_yes h h1 h2]
        obtain ⟨h3, h4⟩ := h2
        rw [chkT_yes h] at HC
        rw [chgI_yes h1 h.1] at HG
        obtain ⟨z0, z1, z2⟩ := chg_in h1 h.1
        obtain ⟨q, hq⟩ : ∃ q, q = chg c t.w := ⟨_, rfl⟩
        rw [← hq] at HG z0 z1 z2
        obtain ⟨⟨a1, a2⟩, ⟨a3, a4⟩, ⟨a5, a6⟩, ⟨a7, a8⟩⟩ := h
        obtain ⟨c1, c2⟩ := h1
        rw [← hq] at h4 ⊢
        have e1 : IntKind.i64.wrap (t.s + q) = t.s + q := IntWalk.i64_in _ (by omega)
        have e2 : IntKind.i64.wrap (t.k + c) = t.k + c := IntWalk.i64_in _ (by omega)
        have k1 : decide (1099511627776 < t.k + c) = false := decide_eq_false (by omega)
        have k2 : decide (2305843009213693952 < t.s + q) = false := decide_eq_false (by omega)
        clear hq h3 h4
        clear a1 a2 a3 a4 a5 a6 a7 a8 c1 c2 z0 z1 z2
        obtain ⟨a, s, f, k⟩ := t
        simp only [Tg.cs] at HC HX HW ⊢
        go_enter Try.func8, Try.ntmps8
        go_upto_region 1 with (fail)
        rw [HL.out, HW.out]
        clear HW
        go_wp2_with (refine wpList_load_blk rfl 23 (.tmp 4) rfl g rfl 23 #[.int .i64 a, .int .i64 s, .int .i64 f, .int .i64 k] _ HX.out Try.underlying23 rfl rt_size ?_)
        refine (HC.out _).mono ?_
        rintro e w1 ⟨rfl, hb⟩
        have HX2 := hide (HX.out.keep hb)
        have HZ2 := hide (HZ.out.keep hb)
        have HB2 := hide (HB.out.trans (hb.mono HB.out.size))
        clear hb HX HZ HB HC
        have HX := hide HX2.out
        have HZ := hide HZ2.out
        have HB := hide HB2.out
        clear HX2 HZ2 HB2
        try simp only at e1 e2 k1 k2
        obtain ⟨d0, d1, d2, d3⟩ := tcell4 (x := ⟨a, s, f, k⟩) HX.out
        try simp only at d0 d1 d2 d3
        go_upto_region 9 with (go_at_call 10; refine (HG.out _).mono ?_; rintro e w4 ⟨rfl, rfl⟩)
        clear d0 d1 d2 d3
        clear k1 k2
        have hne : ¬ g = g + 1 := by omega
        refine wp_region_noPanic ?_
        refine wp_region_held_drew (S := fun w' => KB (· = g + 1) w1 w') (by kernel_rfl) (KB.refl _ _).drew (fun hS => ?_)
        have EX := HZ.out.drew
        generalize hwd : (w1).drew = wd at hS EX ⊢
        clear hwd
        refine wpAnyH_take (i := 0) (v := ?_) (by simp only [List.getElem?_toArray, List.getElem?_cons_succ, List.getElem?_cons_zero] <;> exact rfl) (by kernel_rfl) (by kernel_rfl) (by kernel_rfl) (fun _ _ _ h => h) (Or.inl ⟨by rfl, ?_⟩) hS ?_
        rotate_left
        focus (intro w' hw'; go_simp; all_goals with_reducible rfl)
        try simp only [Act.put, List.setIfInBounds_toArray, List.set_cons_zero, List.set_cons_succ]
        refine wpAnyH_take (i := 1) (v := ?_) (by simp only [List.getElem?_toArray, List.getElem?_cons_succ, List.getElem?_cons_zero] <;> exact rfl) (by kernel_rfl) (by kernel_rfl) (by kernel_rfl) (fun _ _ _ h => h) (Or.inl ⟨by rfl, ?_⟩) hS ?_
        rotate_left
        focus (intro w' hw'; have kk := ((hw'.blk HX.out hne).cell 1).trans (show _ = some (Value.int .i64 s) from rfl); go_simp; all_goals with_reducible rfl)
        try simp only [Act.put, List.setIfInBounds_toArray, List.set_cons_zero, List.set_cons_succ]
        refine wpAnyH_take (i := 2) (v := ?_) (by simp only [List.getElem?_toArray, List.getElem?_cons_succ, List.getElem?_cons_zero] <;> exact rfl) (by kernel_rfl) (by kernel_rfl) (by kernel_rfl) (fun _ _ _ h => h) (Or.inl ⟨by rfl, ?_⟩) hS ?_
        rotate_left
        focus (intro w' hw'; go_simp; all_goals with_reducible rfl)
        try simp only [Act.put, List.setIfInBounds_toArray, List.set_cons_zero, List.set_cons_succ]
        refine wpAnyH_take (i := 3) (v := ?_) (by simp only [List.getElem?_toArray, List.getElem?_cons_succ, List.getElem?_cons_zero] <;> exact rfl) (by kernel_rfl) (by kernel_rfl) (by kernel_rfl) (fun _ _ _ h => h) (Or.inl ⟨by rfl, ?_⟩) hS ?_
        rotate_left
        focus (intro w' hw'; have kk := ((hw'.blk HX.out hne).cell 0).trans (show _ = some (Value.int .i64 a) from rfl); go_simp; all_goals with_reducible rfl)
        try simp only [Act.put, List.setIfInBounds_toArray, List.set_cons_zero, List.set_cons_succ]
        refine wpAnyH_take (i := 4) (v := ?_) (by simp only [List.getElem?_toArray, List.getElem?_cons_succ, List.getElem?_cons_zero] <;> exact rfl) (by kernel_rfl) (by kernel_rfl) (by kernel_rfl) (fun _ _ _ h => h) (Or.inl ⟨by rfl, ?_⟩) hS ?_
        rotate_left
        focus (intro w' hw'; go_simp; all_goals with_reducible rfl)
        try simp only [Act.put, List.setIfInBounds_toArray, List.set_cons_zero, List.set_cons_succ]
        refine wpAnyH_take (i := 5) (v := ?_) (by simp only [List.getElem?_toArray, List.getElem?_cons_succ, List.getElem?_cons_zero] <;> exact rfl) (by kernel_rfl) (by kernel_rfl) (by kernel_rfl) (fun _ _ _ h => h) (Or.inl ⟨by rfl, ?_⟩) hS ?_
        rotate_left
        focus (intro w' hw'; have kk := ((hw'.blk HX.out hne).cell 1).trans (show _ = some (Value.int .i64 s) from rfl); go_simp; all_goals with_reducible rfl)
        try simp only [Act.put, List.setIfInBounds_toArray, List.set_cons_zero, List.set_cons_succ]
        refine wpAnyH_take (i := 6) (v := ?_) (by simp only [List.getElem?_toArray, List.getElem?_cons_succ, List.getElem?_cons_zero] <;> exact rfl) (by kernel_rfl) (by kernel_rfl) (by kernel_rfl) (fun _ _ _ h => h) (Or.inl ⟨by rfl, ?_⟩) hS ?_
        rotate_left
        focus (intro w' hw'; go_simp; all_goals with_reducible rfl)
        try simp only [Act.put, List.setIfInBounds_toArray, List.set_cons_zero, List.set_cons_succ]
        refine wpAnyH_take (i := 7) (v := ?_) (by simp only [List.getElem?_toArray, List.getElem?_cons_succ, List.getElem?_cons_zero] <;> exact rfl) (by kernel_rfl) (by kernel_rfl) (by kernel_rfl) (fun _ _ _ h => h) (Or.inl ⟨by rfl, ?_⟩) hS ?_
        rotate_left
        focus (intro w' hw'; go_simp; all_goals with_reducible rfl)
        try simp only [Act.put, List.setIfInBounds_toArray, List.set_cons_zero, List.set_cons_succ]
        refine wpAnyH_take (i := 8) (v := ?_) (by simp only [List.getElem?_toArray, List.getElem?_cons_succ, List.getElem?_cons_zero] <;> exact rfl) (by kernel_rfl) (by kernel_rfl) (by kernel_rfl) (fun _ _ _ h => h) (Or.inl ⟨by rfl, ?_⟩) hS ?_
        rotate_left
        focus (intro w' hw'; go_simp; all_goals with_reducible rfl)
        try simp only [Act.put, List.setIfInBounds_toArray, List.set_cons_zero, List.set_cons_succ]
        refine wpAnyH_take (i := 9) (v := ?_) (by simp only [List.getElem?_toArray, List.getElem?_cons_succ, List.getElem?_cons_zero] <;> exact rfl) (by kernel_rfl) (by kernel_rfl) (by kernel_rfl) (fun _ _ _ h => h) (Or.inl ⟨by rfl, ?_⟩) hS ?_
        rotate_left
        focus (intro w' hw'; have kk := ((hw'.blk HX.out hne).cell 1).trans (show _ = some (Value.int .i64 s) from rfl); go_simp; all_goals with_reducible rfl)
        try simp only [Act.put, List.setIfInBounds_toArray, List.set_cons_zero, List.set_cons_succ]
        refine wpAnyH_take (i := 10) (v := ?_) (by simp only [List.getElem?_toArray, List.getElem?_cons_succ, List.getElem?_cons_zero] <;> exact rfl) (by kernel_rfl) (by kernel_rfl) (by kernel_rfl) (fun _ _ _ h => h) (Or.inl ⟨by rfl, ?_⟩) hS ?_
        rotate_left
        focus (intro w' hw'; go_simp; all_goals with_reducible rfl)
        try simp only [Act.put, List.setIfInBounds_toArray, List.set_cons_zero, List.set_cons_succ]
        refine wpAnyH_take (i := 11) (v := ?_) (by simp only [List.getElem?_toArray, List.getElem?_cons_succ, List.getElem?_cons_zero] <;> exact rfl) (by kernel_rfl) (by kernel_rfl) (by kernel_rfl) (fun _ _ _ h => h) (Or.inl ⟨by rfl, ?_⟩) hS ?_
        rotate_left
        focus (intro w' hw'; go_simp; all_goals with_reducible rfl)
        try simp only [Act.put, List.setIfInBounds_toArray, List.set_cons_zero, List.set_cons_succ]
        refine wpAnyH_take (i := 12) (v := ?_) (by simp only [List.getElem?_toArray, List.getElem?_cons_succ, List.getElem?_cons_zero] <;> exact rfl) (by kernel_rfl) (by kernel_rfl) (by kernel_rfl) (fun _ _ _ h => h) (Or.inl ⟨by rfl, ?_⟩) hS ?_
        rotate_left
        focus (intro w' hw'; go_simp; all_goals with_reducible rfl)
        try simp only [Act.put, List.setIfInBounds_toArray, List.set_cons_zero, List.set_cons_succ]
        refine wpAnyH_take (i := 13) (v := ?_) (by simp only [List.getElem?_toArray, List.getElem?_cons_succ, List.getElem?_cons_zero] <;> exact rfl) (by kernel_rfl) (by kernel_rfl) (by kernel_rfl) (fun _ _ _ h => h) (Or.inl ⟨by rfl, ?_⟩) hS ?_
        rotate_left
        focus (intro w' hw'; have kk := ((hw'.blk HX.out hne).cell 3).trans (show _ = some (Value.int .i64 k) from rfl); go_simp; all_goals with_reducible rfl)
        try simp only [Act.put, List.setIfInBounds_toArray, List.set_cons_zero, List.set_cons_succ]
        refine wpAnyH_take (i := 14) (v := ?_) (by simp only [List.getElem?_toArray, List.getElem?_cons_succ, List.getElem?_cons_zero] <;> exact rfl) (by kernel_rfl) (by kernel_rfl) (by kernel_rfl) (fun _ _ _ h => h) (Or.inl ⟨by rfl, ?_⟩) hS ?_
        rotate_left
        focus (intro w' hw'; go_simp; all_goals with_reducible rfl)
        try simp only [Act.put, List.setIfInBounds_toArray, List.set_cons_zero, List.set_cons_succ]
        refine wpAnyH_take (i := 15) (v := ?_) (by simp only [List.getElem?_toArray, List.getElem?_cons_succ, List.getElem?_cons_zero] <;> exact rfl) (by kernel_rfl) (by kernel_rfl) (by kernel_rfl) (fun _ _ _ h => h) (Or.inl ⟨by rfl, ?_⟩) hS ?_
        rotate_left
        focus (intro w' hw'; go_simp; all_goals with_reducible rfl)
        try simp only [Act.put, List.setIfInBounds_toArray, List.set_cons_zero, List.set_cons_succ]
        refine wpAnyH_take (i := 16) (v := .agg #[.int .i64 a, .int .i64 (s + q), .int .i64 (s + q), .int .i64 (k + c)]) (by simp only [List.getElem?_toArray, List.getElem?_cons_succ, List.getElem?_cons_zero] <;> exact rfl) (by kernel_rfl) (by kernel_rfl) (by kernel_rfl) (fun _ _ _ h => h) (Or.inl ⟨by rfl, ?_⟩) hS ?_
        focus (intro w' hw'; go_simp)
        try simp only [Act.put, List.setIfInBounds_toArray, List.set_cons_zero, List.set_cons_succ]
        refine wpAnyH_take (i := 17) (v := ?_) (by simp only [List.getElem?_toArray, List.getElem?_cons_succ, List.getElem?_cons_zero] <;> exact rfl) (by kernel_rfl) (by kernel_rfl) (by kernel_rfl) (fun _ _ _ h => h) (Or.inl ⟨by rfl, ?_⟩) hS ?_
        rotate_left
        focus (intro w' hw'; go_simp; all_goals with_reducible rfl)
        try simp only [Act.put, List.setIfInBounds_toArray, List.set_cons_zero, List.set_cons_succ]
        refine wpAnyH_ready (rs := [18]) (by kernel_rfl) (by simp) ?_
        refine AllReadyH.cons (o := _) (by simp only [List.getElem?_toArray, List.getElem?_cons_succ, List.getElem?_cons_zero] <;> exact rfl) (fun K hK => ?_) AllReadyH.nil
        refine rgs_store_blk (by rfl) 23 (.tmp 7) (.tmp 63) (by rfl) (g + 1) #[.int .i64 a, .int .i64 (s + q), .int .i64 (s + q), .int .i64 (k + c)] #[.int .i64 0, .int .i64 0, .int .i64 0, .int .i64 0] 23 (by rfl) (by rfl) EX rt_size rfl (by simp [Value.oneCell']) ?_
        have hS := hS.setRow (fun _ => rfl) #[.int .i64 a, .int .i64 (s + q), .int .i64 (s + q), .int .i64 (k + c)]
        have EX := EX.row #[.int .i64 a, .int .i64 (s + q), .int .i64 (s + q), .int .i64 (k + c)]
        refine hK.out _ _ hS (fun _ => ?_)
        generalize wd.setRow (g + 1) #[.int .i64 a, .int .i64 (s + q), .int .i64 (s + q), .int .i64 (k + c)] = ws at hS EX ⊢
        clear hK K
        try simp only [Act.put, List.setIfInBounds_toArray, List.set_cons_zero, List.set_cons_succ]
        refine wpAnyH_take (i := 19) (v := ?_) (by simp only [List.getElem?_toArray, List.getElem?_cons_succ, List.getElem?_cons_zero] <;> exact rfl) (by kernel_rfl) (by kernel_rfl) (by kernel_rfl) (fun _ _ _ h => h) (Or.inl ⟨by rfl, ?_⟩) hS ?_
        rotate_left
        focus (intro w' hw'; go_simp; all_goals with_reducible rfl)
        try simp only [Act.put, List.setIfInBounds_toArray, List.set_cons_zero, List.set_cons_succ]
        refine wpAnyH_done (by kernel_rfl) ?_ _
        refine NoPanic.normal ?_
        go_wp2
        refine bodyPost_ret (results_tmp_cell_tmp_blk rfl _ _ (g + 1) 23 #[.int .i64 a, .int .i64 (s + q), .int .i64 (s + q), .int .i64 (k + c)] _ rfl EX Try.underlying23 rfl rt_size _ rfl _ rfl) rfl ?_
        exact ⟨rfl, kb_below_of HB.out (by have := HL.out; omega) (by have := HB.out.size; omega) hS⟩
      · rw [srvT_full h h1 h2]
        rcases Int.lt_or_le 1099511627776 (t.k + c) with h3 | h3
        · rw [chkT_yes h] at HC
          rw [chgI_yes h1 h.1] at HG
          obtain ⟨z0, z1, z2⟩ := chg_in h1 h.1
          obtain ⟨q, hq⟩ : ∃ q, q = chg c t.w := ⟨_, rfl⟩
          rw [← hq] at HG z0 z1 z2
          obtain ⟨⟨a1, a2⟩, ⟨a3, a4⟩, ⟨a5, a6⟩, ⟨a7, a8⟩⟩ := h
          obtain ⟨c1, c2⟩ := h1
          have e1 : IntKind.i64.wrap (t.s + q) = t.s + q := IntWalk.i64_in _ (by omega)
          have e2 : IntKind.i64.wrap (t.k + c) = t.k + c := IntWalk.i64_in _ (by omega)
          have k1 : decide (1099511627776 < t.k + c) = true := decide_eq_true (by omega)
          clear h2 hq h3
          clear a1 a2 a3 a4 a5 a6 a7 a8 c1 c2 z0 z1 z2
          obtain ⟨a, s, f, k⟩ := t
          simp only [Tg.cs] at HC HX HW ⊢
          go_enter Try.func8, Try.ntmps8
          go_upto_region 1 with (fail)
          rw [HL.out, HW.out]
          clear HW
          go_wp2_with (refine wpList_load_blk rfl 23 (.tmp 4) rfl g rfl 23 #[.int .i64 a, .int .i64 s, .int .i64 f, .int .i64 k] _ HX.out Try.underlying23 rfl rt_size ?_)
          refine (HC.out _).mono ?_
          rintro e w1 ⟨rfl, hb⟩
          have HX2 := hide (HX.out.keep hb)
          have HZ2 := hide (HZ.out.keep hb)
          have HB2 := hide (HB.out.trans (hb.mono HB.out.size))
          clear hb HX HZ HB HC
          have HX := hide HX2.out
          have HZ := hide HZ2.out
          have HB := hide HB2.out
          clear HX2 HZ2 HB2
          try simp only at e1 e2 k1
          obtain ⟨d0, d1, d2, d3⟩ := tcell4 (x := ⟨a, s, f, k⟩) HX.out
          try simp only at d0 d1 d2 d3
          go_upto_region 8 with (go_at_call 10; refine (HG.out _).mono ?_; rintro e w4 ⟨rfl, rfl⟩)
          clear d0 d1 d2 d3
          clear k1 e1 e2
          have hne : ¬ g = g + 1 := by omega
          refine wp_region_noPanic ?_
          refine wp_region_held_drew (S := fun w' => KB (· = g + 1) w1 w') (by kernel_rfl) (KB.refl _ _).drew (fun hS => ?_)
          have EX := HZ.out.drew
          generalize hwd : (w1).drew = wd at hS EX ⊢
          clear hwd
          refine wpAnyH_take (i := 0) (v := ?_) (by simp only [List.getElem?_toArray, List.getElem?_cons_succ, List.getElem?_cons_zero] <;> exact rfl) (by kernel_rfl) (by kernel_rfl) (by kernel_rfl) (fun _ _ _ h => h) (Or.inl ⟨by rfl, ?_⟩) hS ?_
          rotate_left
          focus (intro w' hw'; go_simp; all_goals with_reducible rfl)
          try simp only [Act.put, List.setIfInBounds_toArray, List.set_cons_zero, List.set_cons_succ]
          refine wpAnyH_take (i := 1) (by simp only [List.getElem?_toArray, List.getElem?_cons_succ, List.getElem?_cons_zero] <;> exact rfl) (by kernel_rfl) (by kernel_rfl) (by kernel_rfl) (fun _ _ _ h => h) (rgs_yields_blk (by rfl) 23 (.tmp 4) (by rfl) g (by rfl) 23 #[.int .i64 a, .int .i64 s, .int .i64 f, .int .i64 k] _ (fun w' hw' => hw'.blk HX.out hne) Try.underlying23 rfl rt_size) hS ?_
          try simp only [Act.put, List.setIfInBounds_toArray, List.set_cons_zero, List.set_cons_succ]
          refine wpAnyH_take (i := 2) (v := ?_) (by simp only [List.getElem?_toArray, List.getElem?_cons_succ, List.getElem?_cons_zero] <;> exact rfl) (by kernel_rfl) (by kernel_rfl) (by kernel_rfl) (fun _ _ _ h => h) (Or.inl ⟨by rfl, ?_⟩) hS ?_
          rotate_left
          focus (intro w' hw'; go_simp; all_goals with_reducible rfl)
          try simp only [Act.put, List.setIfInBounds_toArray, List.set_cons_zero, List.set_cons_succ]
          refine wpAnyH_ready (rs := [3]) (by kernel_rfl) (by simp) ?_
          refine AllReadyH.cons (o := _) (by simp only [List.getElem?_toArray, List.getElem?_cons_succ, List.getElem?_cons_zero] <;> exact rfl) (fun K hK => ?_) AllReadyH.nil
          refine rgs_store_blk (by rfl) 23 (.tmp 7) (.tmp 46) (by rfl) (g + 1) #[.int .i64 a, .int .i64 s, .int .i64 f, .int .i64 k] #[.int .i64 0, .int .i64 0, .int .i64 0, .int .i64 0] 23 (by rfl) (by rfl) EX rt_size rfl (by simp [Value.oneCell']) ?_
          have hS := hS.setRow (fun _ => rfl) #[.int .i64 a, .int .i64 s, .int .i64 f, .int .i64 k]
          have EX := EX.row #[.int .i64 a, .int .i64 s, .int .i64 f, .int .i64 k]
          refine hK.out _ _ hS (fun _ => ?_)
          generalize wd.setRow (g + 1) #[.int .i64 a, .int .i64 s, .int .i64 f, .int .i64 k] = ws at hS EX ⊢
          clear hK K
          try simp only [Act.put, List.setIfInBounds_toArray, List.set_cons_zero, List.set_cons_succ]
          refine wpAnyH_take (i := 4) (v := ?_) (by simp only [List.getElem?_toArray, List.getElem?_cons_succ, List.getElem?_cons_zero] <;> exact rfl) (by kernel_rfl) (by kernel_rfl) (by kernel_rfl) (fun _ _ _ h => h) (Or.inl ⟨by rfl, ?_⟩) hS ?_
          rotate_left
          focus (intro w' hw'; go_simp; all_goals with_reducible rfl)
          try simp only [Act.put, List.setIfInBounds_toArray, List.set_cons_zero, List.set_cons_succ]
          refine wpAnyH_done (by kernel_rfl) ?_ _
          refine NoPanic.normal ?_
          go_wp2
          refine bodyPost_ret (results_tmp_cell_tmp_blk rfl _ _ (g + 1) 23 #[.int .i64 a, .int .i64 s, .int .i64 f, .int .i64 k] _ rfl EX Try.underlying23 rfl rt_size _ rfl _ rfl) rfl ?_
          exact ⟨rfl, kb_below_of HB.out (by have := HL.out; omega) (by have := HB.out.size; omega) hS⟩
        · have h4 : ¬ t.s + chg c t.w ≤ 2305843009213693952 := fun q => h2 ⟨h3, q⟩
          rw [chkT_yes h] at HC
          rw [chgI_yes h1 h.1] at HG
          obtain ⟨z0, z1, z2⟩ := chg_in h1 h.1
          obtain ⟨q, hq⟩ : ∃ q, q = chg c t.w := ⟨_, rfl⟩
          rw [← hq] at HG z0 z1 z2
          obtain ⟨⟨a1, a2⟩, ⟨a3, a4⟩, ⟨a5, a6⟩, ⟨a7, a8⟩⟩ := h
          obtain ⟨c1, c2⟩ := h1
          rw [← hq] at h4
          have e1 : IntKind.i64.wrap (t.s + q) = t.s + q := IntWalk.i64_in _ (by omega)
          have e2 : IntKind.i64.wrap (t.k + c) = t.k + c := IntWalk.i64_in _ (by omega)
          have k1 : decide (1099511627776 < t.k + c) = false := decide_eq_false (by omega)
          have k2 : decide (2305843009213693952 < t.s + q) = true := decide_eq_true (by omega)
          clear h2 hq h3 h4
          clear a1 a2 a3 a4 a5 a6 a7 a8 c1 c2 z0 z1 z2
          obtain ⟨a, s, f, k⟩ := t
          simp only [Tg.cs] at HC HX HW ⊢
          go_enter Try.func8, Try.ntmps8
          go_upto_region 1 with (fail)
          rw [HL.out, HW.out]
          clear HW
          go_wp2_with (refine wpList_load_blk rfl 23 (.tmp 4) rfl g rfl 23 #[.int .i64 a, .int .i64 s, .int .i64 f, .int .i64 k] _ HX.out Try.underlying23 rfl rt_size ?_)
          refine (HC.out _).mono ?_
          rintro e w1 ⟨rfl, hb⟩
          have HX2 := hide (HX.out.keep hb)
          have HZ2 := hide (HZ.out.keep hb)
          have HB2 := hide (HB.out.trans (hb.mono HB.out.size))
          clear hb HX HZ HB HC
          have HX := hide HX2.out
          have HZ := hide HZ2.out
          have HB := hide HB2.out
          clear HX2 HZ2 HB2
          try simp only at e1 e2 k1 k2
          obtain ⟨d0, d1, d2, d3⟩ := tcell4 (x := ⟨a, s, f, k⟩) HX.out
          try simp only at d0 d1 d2 d3
          go_upto_region 8 with (go_at_call 10; refine (HG.out _).mono ?_; rintro e w4 ⟨rfl, rfl⟩)
          clear d0 d1 d2 d3
          clear k1 k2 e1 e2
          have hne : ¬ g = g + 1 := by omega
          refine wp_region_noPanic ?_
          refine wp_region_held_drew (S := fun w' => KB (· = g + 1) w1 w') (by kernel_rfl) (KB.refl _ _).drew (fun hS => ?_)
          have EX := HZ.out.drew
          generalize hwd : (w1).drew = wd at hS EX ⊢
          clear hwd
          refine wpAnyH_take (i := 0) (v := ?_) (by simp only [List.getElem?_toArray, List.getElem?_cons_succ, List.getElem?_cons_zero] <;> exact rfl) (by kernel_rfl) (by kernel_rfl) (by kernel_rfl) (fun _ _ _ h => h) (Or.inl ⟨by rfl, ?_⟩) hS ?_
          rotate_left
          focus (intro w' hw'; go_simp; all_goals with_reducible rfl)
          try simp only [Act.put, List.setIfInBounds_toArray, List.set_cons_zero, List.set_cons_succ]
          refine wpAnyH_take (i := 1) (by simp only [List.getElem?_toArray, List.getElem?_cons_succ, List.getElem?_cons_zero] <;> exact rfl) (by kernel_rfl) (by kernel_rfl) (by kernel_rfl) (fun _ _ _ h => h) (rgs_yields_blk (by rfl) 23 (.tmp 4) (by rfl) g (by rfl) 23 #[.int .i64 a, .int .i64 s, .int .i64 f, .int .i64 k] _ (fun w' hw' => hw'.blk HX.out hne) Try.underlying23 rfl rt_size) hS ?_
          try simp only [Act.put, List.setIfInBounds_toArray, List.set_cons_zero, List.set_cons_succ]
          refine wpAnyH_take (i := 2) (v := ?_) (by simp only [List.getElem?_toArray, List.getElem?_cons_succ, List.getElem?_cons_zero] <;> exact rfl) (by kernel_rfl) (by kernel_rfl) (by kernel_rfl) (fun _ _ _ h => h) (Or.inl ⟨by rfl, ?_⟩) hS ?_
          rotate_left
          focus (intro w' hw'; go_simp; all_goals with_reducible rfl)
          try simp only [Act.put, List.setIfInBounds_toArray, List.set_cons_zero, List.set_cons_succ]
          refine wpAnyH_ready (rs := [3]) (by kernel_rfl) (by simp) ?_
          refine AllReadyH.cons (o := _) (by simp only [List.getElem?_toArray, List.getElem?_cons_succ, List.getElem?_cons_zero] <;> exact rfl) (fun K hK => ?_) AllReadyH.nil
          refine rgs_store_blk (by rfl) 23 (.tmp 7) (.tmp 46) (by rfl) (g + 1) #[.int .i64 a, .int .i64 s, .int .i64 f, .int .i64 k] #[.int .i64 0, .int .i64 0, .int .i64 0, .int .i64 0] 23 (by rfl) (by rfl) EX rt_size rfl (by simp [Value.oneCell']) ?_
          have hS := hS.setRow (fun _ => rfl) #[.int .i64 a, .int .i64 s, .int .i64 f, .int .i64 k]
          have EX := EX.row #[.int .i64 a, .int .i64 s, .int .i64 f, .int .i64 k]
          refine hK.out _ _ hS (fun _ => ?_)
          generalize wd.setRow (g + 1) #[.int .i64 a, .int .i64 s, .int .i64 f, .int .i64 k] = ws at hS EX ⊢
          clear hK K
          try simp only [Act.put, List.setIfInBounds_toArray, List.set_cons_zero, List.set_cons_succ]
          refine wpAnyH_take (i := 4) (v := ?_) (by simp only [List.getElem?_toArray, List.getElem?_cons_succ, List.getElem?_cons_zero] <;> exact rfl) (by kernel_rfl) (by kernel_rfl) (by kernel_rfl) (fun _ _ _ h => h) (Or.inl ⟨by rfl, ?_⟩) hS ?_
          rotate_left
          focus (intro w' hw'; go_simp; all_goals with_reducible rfl)
          try simp only [Act.put, List.setIfInBounds_toArray, List.set_cons_zero, List.set_cons_succ]
          refine wpAnyH_done (by kernel_rfl) ?_ _
          refine NoPanic.normal ?_
          go_wp2
          refine bodyPost_ret (results_tmp_cell_tmp_blk rfl _ _ (g + 1) 23 #[.int .i64 a, .int .i64 s, .int .i64 f, .int .i64 k] _ rfl EX Try.underlying23 rfl rt_size _ rfl _ rfl) rfl ?_
          exact ⟨rfl, kb_below_of HB.out (by have := HL.out; omega) (by have := HB.out.size; omega) hS⟩
    · rw [srvT_cost h h1]
      rw [chkT_yes h] at HC
      rw [chgI_no (fun q => h1 q.1)] at HG
      clear h h1
      obtain ⟨a, s, f, k⟩ := t
      simp only [Tg.cs] at HC HX HW ⊢
      go_enter Try.func8, Try.ntmps8
      go_upto_region 1 with (fail)
      rw [HL.out, HW.out]
      clear HW
      go_wp2_with (refine wpList_load_blk rfl 23 (.tmp 4) rfl g rfl 23 #[.int .i64 a, .int .i64 s, .int .i64 f, .int .i64 k] _ HX.out Try.underlying23 rfl rt_size ?_)
      refine (HC.out _).mono ?_
      rintro e w1 ⟨rfl, hb⟩
      have HX2 := hide (HX.out.keep hb)
      have HZ2 := hide (HZ.out.keep hb)
      have HB2 := hide (HB.out.trans (hb.mono HB.out.size))
      clear hb HX HZ HB HC
      have HX := hide HX2.out
      have HZ := hide HZ2.out
      have HB := hide HB2.out
      clear HX2 HZ2 HB2
      obtain ⟨d0, d1, d2, d3⟩ := tcell4 (x := ⟨a, s, f, k⟩) HX.out
      try simp only at d0 d1 d2 d3
      go_upto_region 6 with (go_at_call 10; refine (HG.out _).mono ?_; rintro e w4 ⟨rfl, rfl⟩)
      clear d0 d1 d2 d3
      have hne : ¬ g = g + 1 := by omega
      refine wp_region_noPanic ?_
      refine wp_region_held_drew (S := fun w' => KB (· = g + 1) w1 w') (by kernel_rfl) (KB.refl _ _).drew (fun hS => ?_)
      have EX := HZ.out.drew
      generalize hwd : (w1).drew = wd at hS EX ⊢
      clear hwd
      refine wpAnyH_take (i := 0) (v := ?_) (by simp only [List.getElem?_toArray, List.getElem?_cons_succ, List.getElem?_cons_zero] <;> exact rfl) (by kernel_rfl) (by kernel_rfl) (by kernel_rfl) (fun _ _ _ h => h) (Or.inl ⟨by rfl, ?_⟩) hS ?_
      rotate_left
      focus (intro w' hw'; go_simp; all_goals with_reducible rfl)
      try simp only [Act.put, List.setIfInBounds_toArray, List.set_cons_zero, List.set_cons_succ]
      refine wpAnyH_take (i := 1) (by simp only [List.getElem?_toArray, List.getElem?_cons_succ, List.getElem?_cons_zero] <;> exact rfl) (by kernel_rfl) (by kernel_rfl) (by kernel_rfl) (fun _ _ _ h => h) (rgs_yields_blk (by rfl) 23 (.tmp 4) (by rfl) g (by rfl) 23 #[.int .i64 a, .int .i64 s, .int .i64 f, .int .i64 k] _ (fun w' hw' => hw'.blk HX.out hne) Try.underlying23 rfl rt_size) hS ?_
      try simp only [Act.put, List.setIfInBounds_toArray, List.set_cons_zero, List.set_cons_succ]
      refine wpAnyH_take (i := 2) (v := ?_) (by simp only [List.getElem?_toArray, List.getElem?_cons_succ, List.getElem?_cons_zero] <;> exact rfl) (by kernel_rfl) (by kernel_rfl) (by kernel_rfl) (fun _ _ _ h => h) (Or.inl ⟨by rfl, ?_⟩) hS ?_
      rotate_left
      focus (intro w' hw'; go_simp; all_goals with_reducible rfl)
      try simp only [Act.put, List.setIfInBounds_toArray, List.set_cons_zero, List.set_cons_succ]
      refine wpAnyH_take (i := 3) (v := ?_) (by simp only [List.getElem?_toArray, List.getElem?_cons_succ, List.getElem?_cons_zero] <;> exact rfl) (by kernel_rfl) (by kernel_rfl) (by kernel_rfl) (fun _ _ _ h => h) (Or.inl ⟨by rfl, ?_⟩) hS ?_
      rotate_left
      focus (intro w' hw'; go_simp; all_goals with_reducible rfl)
      try simp only [Act.put, List.setIfInBounds_toArray, List.set_cons_zero, List.set_cons_succ]
      refine wpAnyH_ready (rs := [4]) (by kernel_rfl) (by simp) ?_
      refine AllReadyH.cons (o := _) (by simp only [List.getElem?_toArray, List.getElem?_cons_succ, List.getElem?_cons_zero] <;> exact rfl) (fun K hK => ?_) AllReadyH.nil
      refine rgs_store_blk (by rfl) 23 (.tmp 7) (.tmp 30) (by rfl) (g + 1) #[.int .i64 a, .int .i64 s, .int .i64 f, .int .i64 k] #[.int .i64 0, .int .i64 0, .int .i64 0, .int .i64 0] 23 (by rfl) (by rfl) EX rt_size rfl (by simp [Value.oneCell']) ?_
      have hS := hS.setRow (fun _ => rfl) #[.int .i64 a, .int .i64 s, .int .i64 f, .int .i64 k]
      have EX := EX.row #[.int .i64 a, .int .i64 s, .int .i64 f, .int .i64 k]
      refine hK.out _ _ hS (fun _ => ?_)
      generalize wd.setRow (g + 1) #[.int .i64 a, .int .i64 s, .int .i64 f, .int .i64 k] = ws at hS EX ⊢
      clear hK K
      try simp only [Act.put, List.setIfInBounds_toArray, List.set_cons_zero, List.set_cons_succ]
      refine wpAnyH_take (i := 5) (v := ?_) (by simp only [List.getElem?_toArray, List.getElem?_cons_succ, List.getElem?_cons_zero] <;> exact rfl) (by kernel_rfl) (by kernel_rfl) (by kernel_rfl) (fun _ _ _ h => h) (Or.inl ⟨by rfl, ?_⟩) hS ?_
      rotate_left
      focus (intro w' hw'; go_simp; all_goals with_reducible rfl)
      try simp only [Act.put, List.setIfInBounds_toArray, List.set_cons_zero, List.set_cons_succ]
      refine wpAnyH_done (by kernel_rfl) ?_ _
      refine NoPanic.normal ?_
      go_wp2
      refine bodyPost_ret (results_tmp_cell_tmp_blk rfl _ _ (g + 1) 23 #[.int .i64 a, .int .i64 s, .int .i64 f, .int .i64 k] _ rfl EX Try.underlying23 rfl rt_size _ rfl _ rfl) rfl ?_
      exact ⟨rfl, kb_below_of HB.out (by have := HL.out; omega) (by have := HB.out.size; omega) hS⟩
  · rw [srvT_bad h]
    rw [chkT_no h] at HC
    clear h HG
    obtain ⟨a, s, f, k⟩ := t
    simp only [Tg.cs] at HC HX HW ⊢
    go_enter Try.func8, Try.ntmps8
    go_upto_region 1 with (fail)
    rw [HL.out, HW.out]
    clear HW
    go_wp2_with (refine wpList_load_blk rfl 23 (.tmp 4) rfl g rfl 23 #[.int .i64 a, .int .i64 s, .int .i64 f, .int .i64 k] _ HX.out Try.underlying23 rfl rt_size ?_)
    refine (HC.out _).mono ?_
    rintro e w1 ⟨rfl, hb⟩
    have HX2 := hide (HX.out.keep hb)
    have HZ2 := hide (HZ.out.keep hb)
    have HB2 := hide (HB.out.trans (hb.mono HB.out.size))
    clear hb HX HZ HB HC
    have HX := hide HX2.out
    have HZ := hide HZ2.out
    have HB := hide HB2.out
    clear HX2 HZ2 HB2
    go_upto_region 3 with (fail)
    have hne : ¬ g = g + 1 := by omega
    refine wp_region_noPanic ?_
    refine wp_region_held_drew (S := fun w' => KB (· = g + 1) w1 w') (by kernel_rfl) (KB.refl _ _).drew (fun hS => ?_)
    have EX := HZ.out.drew
    generalize hwd : (w1).drew = wd at hS EX ⊢
    clear hwd
    refine wpAnyH_take (i := 0) (v := ?_) (by simp only [List.getElem?_toArray, List.getElem?_cons_succ, List.getElem?_cons_zero] <;> exact rfl) (by kernel_rfl) (by kernel_rfl) (by kernel_rfl) (fun _ _ _ h => h) (Or.inl ⟨by rfl, ?_⟩) hS ?_
    rotate_left
    focus (intro w' hw'; go_simp; all_goals with_reducible rfl)
    try simp only [Act.put, List.setIfInBounds_toArray, List.set_cons_zero, List.set_cons_succ]
    refine wpAnyH_take (i := 1) (by simp only [List.getElem?_toArray, List.getElem?_cons_succ, List.getElem?_cons_zero] <;> exact rfl) (by kernel_rfl) (by kernel_rfl) (by kernel_rfl) (fun _ _ _ h => h) (rgs_yields_blk (by rfl) 23 (.tmp 4) (by rfl) g (by rfl) 23 #[.int .i64 a, .int .i64 s, .int .i64 f, .int .i64 k] _ (fun w' hw' => hw'.blk HX.out hne) Try.underlying23 rfl rt_size) hS ?_
    try simp only [Act.put, List.setIfInBounds_toArray, List.set_cons_zero, List.set_cons_succ]
    refine wpAnyH_take (i := 2) (v := ?_) (by simp only [List.getElem?_toArray, List.getElem?_cons_succ, List.getElem?_cons_zero] <;> exact rfl) (by kernel_rfl) (by kernel_rfl) (by kernel_rfl) (fun _ _ _ h => h) (Or.inl ⟨by rfl, ?_⟩) hS ?_
    rotate_left
    focus (intro w' hw'; go_simp; all_goals with_reducible rfl)
    try simp only [Act.put, List.setIfInBounds_toArray, List.set_cons_zero, List.set_cons_succ]
    refine wpAnyH_take (i := 3) (v := ?_) (by simp only [List.getElem?_toArray, List.getElem?_cons_succ, List.getElem?_cons_zero] <;> exact rfl) (by kernel_rfl) (by kernel_rfl) (by kernel_rfl) (fun _ _ _ h => h) (Or.inl ⟨by rfl, ?_⟩) hS ?_
    rotate_left
    focus (intro w' hw'; go_simp; all_goals with_reducible rfl)
    try simp only [Act.put, List.setIfInBounds_toArray, List.set_cons_zero, List.set_cons_succ]
    refine wpAnyH_ready (rs := [4]) (by kernel_rfl) (by simp) ?_
    refine AllReadyH.cons (o := _) (by simp only [List.getElem?_toArray, List.getElem?_cons_succ, List.getElem?_cons_zero] <;> exact rfl) (fun K hK => ?_) AllReadyH.nil
    refine rgs_store_blk (by rfl) 23 (.tmp 7) (.tmp 17) (by rfl) (g + 1) #[.int .i64 a, .int .i64 s, .int .i64 f, .int .i64 k] #[.int .i64 0, .int .i64 0, .int .i64 0, .int .i64 0] 23 (by rfl) (by rfl) EX rt_size rfl (by simp [Value.oneCell']) ?_
    have hS := hS.setRow (fun _ => rfl) #[.int .i64 a, .int .i64 s, .int .i64 f, .int .i64 k]
    have EX := EX.row #[.int .i64 a, .int .i64 s, .int .i64 f, .int .i64 k]
    refine hK.out _ _ hS (fun _ => ?_)
    generalize wd.setRow (g + 1) #[.int .i64 a, .int .i64 s, .int .i64 f, .int .i64 k] = ws at hS EX ⊢
    clear hK K
    try simp only [Act.put, List.setIfInBounds_toArray, List.set_cons_zero, List.set_cons_succ]
    refine wpAnyH_take (i := 5) (v := ?_) (by simp only [List.getElem?_toArray, List.getElem?_cons_succ, List.getElem?_cons_zero] <;> exact rfl) (by kernel_rfl) (by kernel_rfl) (by kernel_rfl) (fun _ _ _ h => h) (Or.inl ⟨by rfl, ?_⟩) hS ?_
    rotate_left
    focus (intro w' hw'; go_simp; all_goals with_reducible rfl)
    try simp only [Act.put, List.setIfInBounds_toArray, List.set_cons_zero, List.set_cons_succ]
    refine wpAnyH_done (by kernel_rfl) ?_ _
    refine NoPanic.normal ?_
    go_wp2
    refine bodyPost_ret (results_tmp_cell_tmp_blk rfl _ _ (g + 1) 23 #[.int .i64 a, .int .i64 s, .int .i64 f, .int .i64 k] _ rfl EX Try.underlying23 rfl rt_size _ rfl _ rfl) rfl ?_
    exact ⟨rfl, kb_below_of HB.out (by have := HL.out; omega) (by have := HB.out.size; omega) hS⟩
end Go.Proofs.Ytlondjmklnehhaa
