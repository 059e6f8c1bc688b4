/-
  Layer 23: the program's Decide.
-/
import Derived.Test.YtgibhdbhagcpoaaSdSmall
import Derived.Test.YtgibhdbhagcpoaaResMore
namespace Go.Proofs.Ytgibhdbhagcpoaa
set_option linter.unusedSimpArgs false
set_option linter.unusedVariables false
open Go.RowKit

set_option maxRecDepth 100000 in
set_option maxHeartbeats 3200000 in
theorem sd_Decide (x : Lk) (b : Bu) (w : World) (hk0 : -9223372036854775808 ≤ x.k) (hk1 : x.k ≤ 9223372036854775807) : Calls Try.prog 7 #[.agg x.cs, .agg b.cs] w fun e w' => e = .returned (.tuple #[.int .i64 (decD x b).1, .agg (decD x b).2.1.cs, .int .i64 (decD x b).2.2]) ∧ Below w.heap.size w w' := by
  obtain ⟨g, hg⟩ : ∃ g, g = w.heap.size := ⟨_, rfl⟩
  have HL := hide hg.symm
  obtain ⟨W, hW⟩ : ∃ W, ((w.alloc (.cells x.cs 29)).alloc (.cells b.cs 26)).alloc (.cells #[.int .i64 0, .int .i64 0, .int .i64 0, .int .i64 0, .int .i64 0] 26) = W := ⟨_, rfl⟩
  have HB := hide (show Below w.heap.size w W by rw [← hW]; exact bel3 w _ _ _)
  have HX := hide (show BlkIs W g 29 x.cs by rw [← hW, hg]; exact ((BlkIs.new w _ _).alloc _).alloc _)
  have HY := hide (show BlkIs W (g + 1) 26 b.cs by rw [← hW, hg]; exact (new2 w _ _ _).alloc _)
  have HZ := hide (show BlkIs W (g + 1 + 1) 26 #[.int .i64 0, .int .i64 0, .int .i64 0, .int .i64 0, .int .i64 0] by rw [← hW, hg]; exact new3 w _ _ _ _)
  have HW := hide hW
  clear hg hW
  by_cases h1 : x.a ≤ x.o
  · rw [decD_wrong h1]
    have k1 : decide (x.a ≤ x.o) = true := decide_eq_true h1
    clear h1 hk0 hk1
    go_enter Try.func7, Try.ntmps7
    go_upto_region 1 with (fail)
    rw [HL.out, HW.out]
    obtain ⟨x0, x1, x2, x3, x4, x5, x6, x7, x8⟩ := cells9 HX.out
    clear x4 x5 x6 x7 x8
    go_upto_region 2 with (fail)
    clear x0 x1 x2 x3
    have hn1 : ¬ g + 1 = g + 1 + 1 := by omega
    refine wp_region_noPanic ?_
    refine wp_region_held_drew (S := fun w' => KB (· = g + 1 + 1) W w') (by kernel_rfl) (KB.refl _ _).drew (fun hS => ?_)
    have EX := HZ.out.drew
    generalize hwd : (W).drew = wd at hS EX ⊢
    clear hwd
    refine wpAnyH_take (i := 0) (by simp only [List.getElem?_toArray, List.getElem?_cons_succ, List.getElem?_cons_zero] <;> exact rfl) (by kernel_rfl) (by kernel_rfl) (by kernel_rfl) (fun _ _ _ h => h) (rgs_yields_blk (by rfl) 26 (.tmp 3) (by rfl) (g + 1) (by rfl) 26 b.cs _ (fun w' hw' => hw'.blk HY.out hn1) Try.underlying26 rfl bu_size) hS ?_
    try simp only [Act.put, List.setIfInBounds_toArray, List.set_cons_zero, List.set_cons_succ]
    refine wpAnyH_take (i := 1) (v := ?_) (by simp only [List.getElem?_toArray, List.getElem?_cons_succ, List.getElem?_cons_zero] <;> exact rfl) (by kernel_rfl) (by kernel_rfl) (by kernel_rfl) (fun _ _ _ h => h) (Or.inl ⟨by rfl, ?_⟩) hS ?_
    rotate_left
    focus (intro w' hw'; go_simp; all_goals with_reducible rfl)
    try simp only [Act.put, List.setIfInBounds_toArray, List.set_cons_zero, List.set_cons_succ]
    refine wpAnyH_ready (rs := [2]) (by kernel_rfl) (by simp) ?_
    refine AllReadyH.cons (o := _) (by simp only [List.getElem?_toArray, List.getElem?_cons_succ, List.getElem?_cons_zero] <;> exact rfl) (fun K hK => ?_) AllReadyH.nil
    refine rgs_store_blk (by rfl) 26 (.tmp 5) (.tmp 15) (by rfl) (g + 1 + 1) b.cs #[.int .i64 0, .int .i64 0, .int .i64 0, .int .i64 0, .int .i64 0] 26 (by rfl) (by rfl) EX bu_size rfl (Bu.cs_one _) ?_
    have hS := hS.setRow (fun _ => rfl) b.cs
    have EX := EX.row b.cs
    refine hK.out _ _ hS (fun _ => ?_)
    generalize wd.setRow (g + 1 + 1) b.cs = ws at hS EX ⊢
    clear hK K
    try simp only [Act.put, List.setIfInBounds_toArray, List.set_cons_zero, List.set_cons_succ]
    refine wpAnyH_take (i := 3) (v := ?_) (by simp only [List.getElem?_toArray, List.getElem?_cons_succ, List.getElem?_cons_zero] <;> exact rfl) (by kernel_rfl) (by kernel_rfl) (by kernel_rfl) (fun _ _ _ h => h) (Or.inl ⟨by rfl, ?_⟩) hS ?_
    rotate_left
    focus (intro w' hw'; go_simp; all_goals with_reducible rfl)
    try simp only [Act.put, List.setIfInBounds_toArray, List.set_cons_zero, List.set_cons_succ]
    refine wpAnyH_done (by kernel_rfl) ?_ _
    refine NoPanic.normal ?_
    go_wp2
    refine bodyPost_ret (results_tmp_cell_tmp_blk rfl _ _ (g + 1 + 1) 26 b.cs _ rfl EX Try.underlying26 rfl bu_size _ rfl _ rfl) rfl ?_
    exact ⟨rfl, kb_below_of HB.out (by have := HL.out; omega) (by have := HB.out.size; omega) hS⟩
  have k1 : decide (x.a ≤ x.o) = false := decide_eq_false h1
  by_cases h2 : x.t ≤ x.o
  · rw [decD_refuse h1 (.inl h2)]
    have k2 : decide (x.t ≤ x.o) = true := decide_eq_true h2
    clear h1 h2 hk0 hk1
    go_enter Try.func7, Try.ntmps7
    go_upto_region 1 with (fail)
    rw [HL.out, HW.out]
    obtain ⟨x0, x1, x2, x3, x4, x5, x6, x7, x8⟩ := cells9 HX.out
    clear x4 x5 x6 x7 x8
    go_upto_region 4 with (fail)
    clear x0 x1 x2 x3
    have hn1 : ¬ g + 1 = g + 1 + 1 := by omega
    refine wp_region_noPanic ?_
    refine wp_region_held_drew (S := fun w' => KB (· = g + 1 + 1) W w') (by kernel_rfl) (KB.refl _ _).drew (fun hS => ?_)
    have EX := HZ.out.drew
    generalize hwd : (W).drew = wd at hS EX ⊢
    clear hwd
    refine wpAnyH_take (i := 0) (by simp only [List.getElem?_toArray, List.getElem?_cons_succ, List.getElem?_cons_zero] <;> exact rfl) (by kernel_rfl) (by kernel_rfl) (by kernel_rfl) (fun _ _ _ h => h) (rgs_yields_blk (by rfl) 26 (.tmp 3) (by rfl) (g + 1) (by rfl) 26 b.cs _ (fun w' hw' => hw'.blk HY.out hn1) Try.underlying26 rfl bu_size) hS ?_
    try simp only [Act.put, List.setIfInBounds_toArray, List.set_cons_zero, List.set_cons_succ]
    refine wpAnyH_take (i := 1) (v := ?_) (by simp only [List.getElem?_toArray, List.getElem?_cons_succ, List.getElem?_cons_zero] <;> exact rfl) (by kernel_rfl) (by kernel_rfl) (by kernel_rfl) (fun _ _ _ h => h) (Or.inl ⟨by rfl, ?_⟩) hS ?_
    rotate_left
    focus (intro w' hw'; go_simp; all_goals with_reducible rfl)
    try simp only [Act.put, List.setIfInBounds_toArray, List.set_cons_zero, List.set_cons_succ]
    refine wpAnyH_ready (rs := [2]) (by kernel_rfl) (by simp) ?_
    refine AllReadyH.cons (o := _) (by simp only [List.getElem?_toArray, List.getElem?_cons_succ, List.getElem?_cons_zero] <;> exact rfl) (fun K hK => ?_) AllReadyH.nil
    refine rgs_store_blk (by rfl) 26 (.tmp 5) (.tmp 26) (by rfl) (g + 1 + 1) b.cs #[.int .i64 0, .int .i64 0, .int .i64 0, .int .i64 0, .int .i64 0] 26 (by rfl) (by rfl) EX bu_size rfl (Bu.cs_one _) ?_
    have hS := hS.setRow (fun _ => rfl) b.cs
    have EX := EX.row b.cs
    refine hK.out _ _ hS (fun _ => ?_)
    generalize wd.setRow (g + 1 + 1) b.cs = ws at hS EX ⊢
    clear hK K
    try simp only [Act.put, List.setIfInBounds_toArray, List.set_cons_zero, List.set_cons_succ]
    refine wpAnyH_take (i := 3) (v := ?_) (by simp only [List.getElem?_toArray, List.getElem?_cons_succ, List.getElem?_cons_zero] <;> exact rfl) (by kernel_rfl) (by kernel_rfl) (by kernel_rfl) (fun _ _ _ h => h) (Or.inl ⟨by rfl, ?_⟩) hS ?_
    rotate_left
    focus (intro w' hw'; go_simp; all_goals with_reducible rfl)
    try simp only [Act.put, List.setIfInBounds_toArray, List.set_cons_zero, List.set_cons_succ]
    refine wpAnyH_done (by kernel_rfl) ?_ _
    refine NoPanic.normal ?_
    go_wp2
    refine bodyPost_ret (results_tmp_cell_tmp_blk rfl _ _ (g + 1 + 1) 26 b.cs _ rfl EX Try.underlying26 rfl bu_size _ rfl _ rfl) rfl ?_
    exact ⟨rfl, kb_below_of HB.out (by have := HL.out; omega) (by have := HB.out.size; omega) hS⟩
  have k2 : decide (x.t ≤ x.o) = false := decide_eq_false h2
  cases hw : x.w with
  | true =>
    rw [decD_refuse h1 (.inr hw)]
    clear h1 h2 hk0 hk1
    go_enter Try.func7, Try.ntmps7
    go_upto_region 1 with (fail)
    rw [HL.out, HW.out]
    obtain ⟨x0, x1, x2, x3, x4, x5, x6, x7, x8⟩ := cells9 HX.out
    clear x4 x5 x6 x7 x8
    rw [hw] at x3
    clear hw
    go_upto_region 4 with (fail)
    clear x0 x1 x2 x3
    have hn1 : ¬ g + 1 = g + 1 + 1 := by omega
    refine wp_region_noPanic ?_
    refine wp_region_held_drew (S := fun w' => KB (· = g + 1 + 1) W w') (by kernel_rfl) (KB.refl _ _).drew (fun hS => ?_)
    have EX := HZ.out.drew
    generalize hwd : (W).drew = wd at hS EX ⊢
    clear hwd
    refine wpAnyH_take (i := 0) (by simp only [List.getElem?_toArray, List.getElem?_cons_succ, List.getElem?_cons_zero] <;> exact rfl) (by kernel_rfl) (by kernel_rfl) (by kernel_rfl) (fun _ _ _ h => h) (rgs_yields_blk (by rfl) 26 (.tmp 3) (by rfl) (g + 1) (by rfl) 26 b.cs _ (fun w' hw' => hw'.blk HY.out hn1) Try.underlying26 rfl bu_size) hS ?_
    try simp only [Act.put, List.setIfInBounds_toArray, List.set_cons_zero, List.set_cons_succ]
    refine wpAnyH_take (i := 1) (v := ?_) (by simp only [List.getElem?_toArray, List.getElem?_cons_succ, List.getElem?_cons_zero] <;> exact rfl) (by kernel_rfl) (by kernel_rfl) (by kernel_rfl) (fun _ _ _ h => h) (Or.inl ⟨by rfl, ?_⟩) hS ?_
    rotate_left
    focus (intro w' hw'; go_simp; all_goals with_reducible rfl)
    try simp only [Act.put, List.setIfInBounds_toArray, List.set_cons_zero, List.set_cons_succ]
    refine wpAnyH_ready (rs := [2]) (by kernel_rfl) (by simp) ?_
    refine AllReadyH.cons (o := _) (by simp only [List.getElem?_toArray, List.getElem?_cons_succ, List.getElem?_cons_zero] <;> exact rfl) (fun K hK => ?_) AllReadyH.nil
    refine rgs_store_blk (by rfl) 26 (.tmp 5) (.tmp 26) (by rfl) (g + 1 + 1) b.cs #[.int .i64 0, .int .i64 0, .int .i64 0, .int .i64 0, .int .i64 0] 26 (by rfl) (by rfl) EX bu_size rfl (Bu.cs_one _) ?_
    have hS := hS.setRow (fun _ => rfl) b.cs
    have EX := EX.row b.cs
    refine hK.out _ _ hS (fun _ => ?_)
    generalize wd.setRow (g + 1 + 1) b.cs = ws at hS EX ⊢
    clear hK K
    try simp only [Act.put, List.setIfInBounds_toArray, List.set_cons_zero, List.set_cons_succ]
    refine wpAnyH_take (i := 3) (v := ?_) (by simp only [List.getElem?_toArray, List.getElem?_cons_succ, List.getElem?_cons_zero] <;> exact rfl) (by kernel_rfl) (by kernel_rfl) (by kernel_rfl) (fun _ _ _ h => h) (Or.inl ⟨by rfl, ?_⟩) hS ?_
    rotate_left
    focus (intro w' hw'; go_simp; all_goals with_reducible rfl)
    try simp only [Act.put, List.setIfInBounds_toArray, List.set_cons_zero, List.set_cons_succ]
    refine wpAnyH_done (by kernel_rfl) ?_ _
    refine NoPanic.normal ?_
    go_wp2
    refine bodyPost_ret (results_tmp_cell_tmp_blk rfl _ _ (g + 1 + 1) 26 b.cs _ rfl EX Try.underlying26 rfl bu_size _ rfl _ rfl) rfl ?_
    exact ⟨rfl, kb_below_of HB.out (by have := HL.out; omega) (by have := HB.out.size; omega) hS⟩
  | false =>
    have h3 : ¬ (x.t ≤ x.o ∨ x.w = true) := by rw [hw]; intro hh; rcases hh with hh | hh; exact h2 hh; cases hh
    have HF := hide (fun w => sd_Fits x w hk0 hk1)
    cases hf : fitB x with
    | false =>
      rw [decD_busy h1 h3 hf]
      rw [hf] at HF
      clear h1 h2 h3 hk0 hk1 hf
      go_enter Try.func7, Try.ntmps7
      go_upto_region 1 with (fail)
      rw [HL.out, HW.out]
      obtain ⟨x0, x1, x2, x3, x4, x5, x6, x7, x8⟩ := cells9 HX.out
      clear x4 x5 x6 x7 x8
      rw [hw] at x3
      clear hw
      go_wp2_with (refine wpList_load_blk rfl 29 (.tmp 2) rfl g rfl 29 x.cs _ HX.out Try.underlying29 rfl lk_size ?_)
      refine (HF.out _).mono ?_
      rintro e w1 ⟨rfl, hb⟩
      have HX2 := hide (HX.out.keep hb)
      have HY2 := hide (HY.out.keep hb)
      have HZ2 := hide (HZ.out.keep hb)
      have HB2 := hide (HB.out.trans (hb.mono HB.out.size))
      clear hb HX HY HZ HB
      have HX := hide HX2.out
      have HY := hide HY2.out
      have HZ := hide HZ2.out
      have HB := hide HB2.out
      clear HX2 HY2 HZ2 HB2
      clear x0 x1 x2 x3 HF
      go_upto_region 6 with (fail)
      have hn1 : ¬ g + 1 = g + 1 + 1 := by omega
      refine wp_region_noPanic ?_
      refine wp_region_held_drew (S := fun w' => KB (· = g + 1 + 1) w1 w') (by kernel_rfl) (KB.refl _ _).drew (fun hS => ?_)
      have EX := HZ.out.drew
      generalize hwd : (w1).drew = wd at hS EX ⊢
      clear hwd
      refine wpAnyH_take (i := 0) (by simp only [List.getElem?_toArray, List.getElem?_cons_succ, List.getElem?_cons_zero] <;> exact rfl) (by kernel_rfl) (by kernel_rfl) (by kernel_rfl) (fun _ _ _ h => h) (rgs_yields_blk (by rfl) 26 (.tmp 3) (by rfl) (g + 1) (by rfl) 26 b.cs _ (fun w' hw' => hw'.blk HY.out hn1) Try.underlying26 rfl bu_size) hS ?_
      try simp only [Act.put, List.setIfInBounds_toArray, List.set_cons_zero, List.set_cons_succ]
      refine wpAnyH_take (i := 1) (v := ?_) (by simp only [List.getElem?_toArray, List.getElem?_cons_succ, List.getElem?_cons_zero] <;> exact rfl) (by kernel_rfl) (by kernel_rfl) (by kernel_rfl) (fun _ _ _ h => h) (Or.inl ⟨by rfl, ?_⟩) hS ?_
      rotate_left
      focus (intro w' hw'; go_simp; all_goals with_reducible rfl)
      try simp only [Act.put, List.setIfInBounds_toArray, List.set_cons_zero, List.set_cons_succ]
      refine wpAnyH_ready (rs := [2]) (by kernel_rfl) (by simp) ?_
      refine AllReadyH.cons (o := _) (by simp only [List.getElem?_toArray, List.getElem?_cons_succ, List.getElem?_cons_zero] <;> exact rfl) (fun K hK => ?_) AllReadyH.nil
      refine rgs_store_blk (by rfl) 26 (.tmp 5) (.tmp 31) (by rfl) (g + 1 + 1) b.cs #[.int .i64 0, .int .i64 0, .int .i64 0, .int .i64 0, .int .i64 0] 26 (by rfl) (by rfl) EX bu_size rfl (Bu.cs_one _) ?_
      have hS := hS.setRow (fun _ => rfl) b.cs
      have EX := EX.row b.cs
      refine hK.out _ _ hS (fun _ => ?_)
      generalize wd.setRow (g + 1 + 1) b.cs = ws at hS EX ⊢
      clear hK K
      try simp only [Act.put, List.setIfInBounds_toArray, List.set_cons_zero, List.set_cons_succ]
      refine wpAnyH_take (i := 3) (v := ?_) (by simp only [List.getElem?_toArray, List.getElem?_cons_succ, List.getElem?_cons_zero] <;> exact rfl) (by kernel_rfl) (by kernel_rfl) (by kernel_rfl) (fun _ _ _ h => h) (Or.inl ⟨by rfl, ?_⟩) hS ?_
      rotate_left
      focus (intro w' hw'; go_simp; all_goals with_reducible rfl)
      try simp only [Act.put, List.setIfInBounds_toArray, List.set_cons_zero, List.set_cons_succ]
      refine wpAnyH_done (by kernel_rfl) ?_ _
      refine NoPanic.normal ?_
      go_wp2
      refine bodyPost_ret (results_tmp_cell_tmp_blk rfl _ _ (g + 1 + 1) 26 b.cs _ rfl EX Try.underlying26 rfl bu_size _ rfl _ rfl) rfl ?_
      exact ⟨rfl, kb_below_of HB.out (by have := HL.out; omega) (by have := HB.out.size; omega) hS⟩
    | true =>
      rw [hf] at HF
      have HT := hide (fun w => bu_Take b x.i w)
      clear hk0 hk1
      cases ht : (takB b x.i).2 with
      | false =>
        rw [decD_many h1 h3 hf ht]
        have HS := hide (fun w => bu_Wait b x.i w)
        have HQ := hide (fun w => sd_seconds (waitB b x.i) x.s (waitB_bd b x.i).1 (waitB_bd b x.i).2 w)
        obtain ⟨z, hz⟩ : ∃ z, z = secI (waitB b x.i) x.s := ⟨_, rfl⟩
        rw [← hz] at HQ ⊢
        obtain ⟨n, hn⟩ : ∃ n, n = waitB b x.i := ⟨_, rfl⟩
        rw [← hn] at HQ HS
        clear hz hn
        obtain ⟨c, hc⟩ : ∃ c, c = (takB b x.i).1 := ⟨_, rfl⟩
        rw [← hc, ht] at HT
        rw [← hc]
        clear h1 h2 h3 hf ht hc
        go_enter Try.func7, Try.ntmps7
        go_upto_region 1 with (fail)
        rw [HL.out, HW.out]
        obtain ⟨x0, x1, x2, x3, x4, x5, x6, x7, x8⟩ := cells9 HX.out
        clear x4 x5 x6 x7 x8
        rw [hw] at x3
        clear hw
        go_wp2_with (refine wpList_load_blk rfl 29 (.tmp 2) rfl g rfl 29 x.cs _ HX.out Try.underlying29 rfl lk_size ?_)
        refine (HF.out _).mono ?_
        rintro e w1 ⟨rfl, hb⟩
        have HX2 := hide (HX.out.keep hb)
        have HY2 := hide (HY.out.keep hb)
        have HZ2 := hide (HZ.out.keep hb)
        have HB2 := hide (HB.out.trans (hb.mono HB.out.size))
        clear hb HX HY HZ HB
        have HX := hide HX2.out
        have HY := hide HY2.out
        have HZ := hide HZ2.out
        have HB := hide HB2.out
        clear HX2 HY2 HZ2 HB2
        clear x0 x1 x2 x3 HF
        have x7 := (HX.out.cell 7).trans (show _ = some (Value.int .i64 x.i) from rfl)
        go_wp2_with (refine wpList_load_blk rfl 26 (.tmp 3) rfl (g + 1) rfl 26 b.cs _ HY.out Try.underlying26 rfl bu_size ?_)
        refine (HT.out _).mono ?_
        rintro e w2 ⟨rfl, hb⟩
        have HX2 := hide (HX.out.keep hb)
        have HY2 := hide (HY.out.keep hb)
        have HZ2 := hide (HZ.out.keep hb)
        have HB2 := hide (HB.out.trans (hb.mono HB.out.size))
        clear hb HX HY HZ HB
        have HX := hide HX2.out
        have HY := hide HY2.out
        have HZ := hide HZ2.out
        have HB := hide HB2.out
        clear HX2 HY2 HZ2 HB2
        clear x7 HT
        obtain ⟨gl, hgl⟩ : ∃ gl, gl = w2.heap.size := ⟨_, rfl⟩
        have GL := hide hgl.symm
        have HV := hide (show BlkIs (w2.alloc (.cells c.cs 26)) gl 26 c.cs by rw [hgl]; exact BlkIs.new w2 _ _)
        have hlt : g + 1 + 1 < gl := by have := HZ.out.lt; omega
        have HX2 := hide (HX.out.alloc (.cells c.cs 26))
        have HY2 := hide (HY.out.alloc (.cells c.cs 26))
        have HZ2 := hide (HZ.out.alloc (.cells c.cs 26))
        have HB2 := hide (HB.out.alloc HB.out.size (.cells c.cs 26))
        clear HX HY HZ HB hgl
        have HX := hide HX2.out
        have HY := hide HY2.out
        have HZ := hide HZ2.out
        have HB := hide HB2.out
        clear HX2 HY2 HZ2 HB2
        go_upto_region 8 with (refine wpList_store_new rfl 26 (.tmp 7) (.tmp 37) rfl c.cs _ 26 rfl rfl bu_size rfl (Bu.cs_one c) ?_)
        rw [GL.out]
        generalize w2.alloc (.cells c.cs 26) = W3 at *
        have hn0 : ¬ g = g + 1 + 1 := by omega
        have hn1 : ¬ g + 1 = g + 1 + 1 := by omega
        have hn2 : ¬ gl = g + 1 + 1 := by omega
        go_upto_region 9 with (fail)
        refine wp_region_noPanic ?_
        refine wp_region_held_drew (S := fun w' => KB (· = g + 1 + 1) W3 w') (by kernel_rfl) (KB.refl _ _).drew (fun hS => ?_)
        have EX := HZ.out.drew
        generalize hwd : (W3).drew = wd at hS EX ⊢
        clear hwd
        refine wpAnyH_take (i := 0) (by simp only [List.getElem?_toArray, List.getElem?_cons_succ, List.getElem?_cons_zero] <;> exact rfl) (by kernel_rfl) (by kernel_rfl) (by kernel_rfl) (fun _ _ _ h => h) (rgs_yields_blk (by rfl) 26 (.tmp 7) (by rfl) gl (by rfl) 26 c.cs _ (fun w' hw' => hw'.blk HV.out hn2) Try.underlying26 rfl bu_size) hS ?_
        try simp only [Act.put, List.setIfInBounds_toArray, List.set_cons_zero, List.set_cons_succ]
        refine wpAnyH_take (i := 1) (by simp only [List.getElem?_toArray, List.getElem?_cons_succ, List.getElem?_cons_zero] <;> exact rfl) (by kernel_rfl) (by kernel_rfl) (by kernel_rfl) (fun _ _ _ h => h) (rgs_yields_blk (by rfl) 26 (.tmp 3) (by rfl) (g + 1) (by rfl) 26 b.cs _ (fun w' hw' => hw'.blk HY.out hn1) Try.underlying26 rfl bu_size) hS ?_
        try simp only [Act.put, List.setIfInBounds_toArray, List.set_cons_zero, List.set_cons_succ]
        refine wpAnyH_take (i := 2) (v := ?_) (by simp only [List.getElem?_toArray, List.getElem?_cons_succ, List.getElem?_cons_zero] <;> exact rfl) (by kernel_rfl) (by kernel_rfl) (by kernel_rfl) (fun _ _ _ h => h) (Or.inl ⟨by rfl, ?_⟩) hS ?_
        rotate_left
        focus (intro w' hw'; go_simp; all_goals with_reducible rfl)
        try simp only [Act.put, List.setIfInBounds_toArray, List.set_cons_zero, List.set_cons_succ]
        refine wpAnyH_take (i := 3) (v := ?_) (by simp only [List.getElem?_toArray, List.getElem?_cons_succ, List.getElem?_cons_zero] <;> exact rfl) (by kernel_rfl) (by kernel_rfl) (by kernel_rfl) (fun _ _ _ h => h) (Or.inl ⟨by rfl, ?_⟩) hS ?_
        rotate_left
        focus (intro w' hw'; have kk := (hw'.cell (p := ⟨g, 7, none⟩) HX.out.lt hn0).trans ((HX.out.cell 7).trans (show _ = some (Value.int .i64 x.i) from rfl)); go_simp; all_goals with_reducible rfl)
        try simp only [Act.put, List.setIfInBounds_toArray, List.set_cons_zero, List.set_cons_succ]
        refine wpAnyH_take (i := 5) (v := ?_) (by simp only [List.getElem?_toArray, List.getElem?_cons_succ, List.getElem?_cons_zero] <;> exact rfl) (by kernel_rfl) (by kernel_rfl) (by kernel_rfl) (fun _ _ _ h => h) (Or.inl ⟨by rfl, ?_⟩) hS ?_
        rotate_left
        focus (intro w' hw'; go_simp; all_goals with_reducible rfl)
        try simp only [Act.put, List.setIfInBounds_toArray, List.set_cons_zero, List.set_cons_succ]
        refine wpAnyH_take (i := 6) (v := ?_) (by simp only [List.getElem?_toArray, List.getElem?_cons_succ, List.getElem?_cons_zero] <;> exact rfl) (by kernel_rfl) (by kernel_rfl) (by kernel_rfl) (fun _ _ _ h => h) (Or.inl ⟨by rfl, ?_⟩) hS ?_
        rotate_left
        focus (intro w' hw'; have kk := (hw'.cell (p := ⟨g, 8, none⟩) HX.out.lt hn0).trans ((HX.out.cell 8).trans (show _ = some (Value.int .i64 x.s) from rfl)); go_simp; all_goals with_reducible rfl)
        try simp only [Act.put, List.setIfInBounds_toArray, List.set_cons_zero, List.set_cons_succ]
        refine wpAnyH_ready (rs := [4]) (by kernel_rfl) (by simp) ?_
        refine AllReadyH.cons (o := _) (by simp only [List.getElem?_toArray, List.getElem?_cons_succ, List.getElem?_cons_zero] <;> exact rfl) (fun K hK => ?_) ?_
        focus (
          go_simp
          go_at_call 21
          refine (HS.out _).mono ?_
          rintro e wc1 ⟨rfl, hb⟩
          have hS := hS.trans' (KB.of_below (· = g + 1 + 1) hb) (fun _ _ h => h)
          have EX := EX.keep hb
          clear hb
          go_wp2_with fail
          refine hK.out _ _ hS (fun _ => ?_)
          clear hK K
          try simp only [Act.put, List.setIfInBounds_toArray, List.set_cons_zero, List.set_cons_succ]
          refine wpAnyH_ready (rs := [7]) (by kernel_rfl) (by simp) ?_
          refine AllReadyH.cons (o := _) (by simp only [List.getElem?_toArray, List.getElem?_cons_succ, List.getElem?_cons_zero] <;> exact rfl) (fun K hK => ?_) ?_
          focus (
            go_simp
            go_at_call 20
            refine (HQ.out _).mono ?_
            rintro e wc2 ⟨rfl, rfl⟩
            go_wp2_with fail
            refine hK.out _ _ hS (fun _ => ?_)
            clear hK K
            try simp only [Act.put, List.setIfInBounds_toArray, List.set_cons_zero, List.set_cons_succ]
            refine wpAnyH_take (i := 8) (v := ?_) (by simp only [List.getElem?_toArray, List.getElem?_cons_succ, List.getElem?_cons_zero] <;> exact rfl) (by kernel_rfl) (by kernel_rfl) (by kernel_rfl) (fun _ _ _ h => h) (Or.inl ⟨by rfl, ?_⟩) hS ?_
            rotate_left
            focus (intro w' hw'; go_simp; all_goals with_reducible rfl)
            try simp only [Act.put, List.setIfInBounds_toArray, List.set_cons_zero, List.set_cons_succ]
            refine wpAnyH_ready (rs := [9]) (by kernel_rfl) (by simp) ?_
            refine AllReadyH.cons (o := _) (by simp only [List.getElem?_toArray, List.getElem?_cons_succ, List.getElem?_cons_zero] <;> exact rfl) (fun K hK => ?_) AllReadyH.nil
            refine rgs_store_blk (by rfl) 26 (.tmp 5) (.tmp 41) (by rfl) (g + 1 + 1) c.cs #[.int .i64 0, .int .i64 0, .int .i64 0, .int .i64 0, .int .i64 0] 26 (by rfl) (by rfl) EX bu_size rfl (Bu.cs_one _) ?_
            have hS := hS.setRow (fun _ => rfl) c.cs
            have EX := EX.row c.cs
            refine hK.out _ _ hS (fun _ => ?_)
            generalize wc1.setRow (g + 1 + 1) c.cs = ws at hS EX ⊢
            clear hK K
            try simp only [Act.put, List.setIfInBounds_toArray, List.set_cons_zero, List.set_cons_succ]
            refine wpAnyH_take (i := 10) (v := ?_) (by simp only [List.getElem?_toArray, List.getElem?_cons_succ, List.getElem?_cons_zero] <;> exact rfl) (by kernel_rfl) (by kernel_rfl) (by kernel_rfl) (fun _ _ _ h => h) (Or.inl ⟨by rfl, ?_⟩) hS ?_
            rotate_left
            focus (intro w' hw'; go_simp; all_goals with_reducible rfl)
            try simp only [Act.put, List.setIfInBounds_toArray, List.set_cons_zero, List.set_cons_succ]
            refine wpAnyH_done (by kernel_rfl) ?_ _
            refine NoPanic.normal ?_
            go_wp2
            refine bodyPost_ret (results_tmp_cell_tmp_blk rfl _ _ (g + 1 + 1) 26 c.cs _ rfl EX Try.underlying26 rfl bu_size _ rfl _ rfl) rfl ?_
            exact ⟨rfl, kb_below_of HB.out (by have := HL.out; omega) (by have := HB.out.size; omega) hS⟩)
          exact AllReadyH.nil)
        exact AllReadyH.nil
      | true =>
        rw [decD_admit h1 h3 hf ht]
        obtain ⟨c, hc⟩ : ∃ c, c = (takB b x.i).1 := ⟨_, rfl⟩
        rw [← hc, ht] at HT
        rw [← hc]
        clear h1 h2 h3 hf ht hc
        go_enter Try.func7, Try.ntmps7
        go_upto_region 1 with (fail)
        rw [HL.out, HW.out]
        obtain ⟨x0, x1, x2, x3, x4, x5, x6, x7, x8⟩ := cells9 HX.out
        clear x4 x5 x6 x7 x8
        rw [hw] at x3
        clear hw
        go_wp2_with (refine wpList_load_blk rfl 29 (.tmp 2) rfl g rfl 29 x.cs _ HX.out Try.underlying29 rfl lk_size ?_)
        refine (HF.out _).mono ?_
        rintro e w1 ⟨rfl, hb⟩
        have HX2 := hide (HX.out.keep hb)
        have HY2 := hide (HY.out.keep hb)
        have HZ2 := hide (HZ.out.keep hb)
        have HB2 := hide (HB.out.trans (hb.mono HB.out.size))
        clear hb HX HY HZ HB
        have HX := hide HX2.out
        have HY := hide HY2.out
        have HZ := hide HZ2.out
        have HB := hide HB2.out
        clear HX2 HY2 HZ2 HB2
        clear x0 x1 x2 x3 HF
        have x7 := (HX.out.cell 7).trans (show _ = some (Value.int .i64 x.i) from rfl)
        go_wp2_with (refine wpList_load_blk rfl 26 (.tmp 3) rfl (g + 1) rfl 26 b.cs _ HY.out Try.underlying26 rfl bu_size ?_)
        refine (HT.out _).mono ?_
        rintro e w2 ⟨rfl, hb⟩
        have HX2 := hide (HX.out.keep hb)
        have HY2 := hide (HY.out.keep hb)
        have HZ2 := hide (HZ.out.keep hb)
        have HB2 := hide (HB.out.trans (hb.mono HB.out.size))
        clear hb HX HY HZ HB
        have HX := hide HX2.out
        have HY := hide HY2.out
        have HZ := hide HZ2.out
        have HB := hide HB2.out
        clear HX2 HY2 HZ2 HB2
        clear x7 HT
        obtain ⟨gl, hgl⟩ : ∃ gl, gl = w2.heap.size := ⟨_, rfl⟩
        have GL := hide hgl.symm
        have HV := hide (show BlkIs (w2.alloc (.cells c.cs 26)) gl 26 c.cs by rw [hgl]; exact BlkIs.new w2 _ _)
        have hlt : g + 1 + 1 < gl := by have := HZ.out.lt; omega
        have HX2 := hide (HX.out.alloc (.cells c.cs 26))
        have HY2 := hide (HY.out.alloc (.cells c.cs 26))
        have HZ2 := hide (HZ.out.alloc (.cells c.cs 26))
        have HB2 := hide (HB.out.alloc HB.out.size (.cells c.cs 26))
        clear HX HY HZ HB hgl
        have HX := hide HX2.out
        have HY := hide HY2.out
        have HZ := hide HZ2.out
        have HB := hide HB2.out
        clear HX2 HY2 HZ2 HB2
        go_upto_region 8 with (refine wpList_store_new rfl 26 (.tmp 7) (.tmp 37) rfl c.cs _ 26 rfl rfl bu_size rfl (Bu.cs_one c) ?_)
        rw [GL.out]
        generalize w2.alloc (.cells c.cs 26) = W3 at *
        have hn0 : ¬ g = g + 1 + 1 := by omega
        have hn1 : ¬ g + 1 = g + 1 + 1 := by omega
        have hn2 : ¬ gl = g + 1 + 1 := by omega
        go_upto_region 10 with (fail)
        refine wp_region_noPanic ?_
        refine wp_region_held_drew (S := fun w' => KB (· = g + 1 + 1) W3 w') (by kernel_rfl) (KB.refl _ _).drew (fun hS => ?_)
        have EX := HZ.out.drew
        generalize hwd : (W3).drew = wd at hS EX ⊢
        clear hwd
        refine wpAnyH_take (i := 0) (by simp only [List.getElem?_toArray, List.getElem?_cons_succ, List.getElem?_cons_zero] <;> exact rfl) (by kernel_rfl) (by kernel_rfl) (by kernel_rfl) (fun _ _ _ h => h) (rgs_yields_blk (by rfl) 26 (.tmp 7) (by rfl) gl (by rfl) 26 c.cs _ (fun w' hw' => hw'.blk HV.out hn2) Try.underlying26 rfl bu_size) hS ?_
        try simp only [Act.put, List.setIfInBounds_toArray, List.set_cons_zero, List.set_cons_succ]
        refine wpAnyH_take (i := 1) (v := ?_) (by simp only [List.getElem?_toArray, List.getElem?_cons_succ, List.getElem?_cons_zero] <;> exact rfl) (by kernel_rfl) (by kernel_rfl) (by kernel_rfl) (fun _ _ _ h => h) (Or.inl ⟨by rfl, ?_⟩) hS ?_
        rotate_left
        focus (intro w' hw'; go_simp; all_goals with_reducible rfl)
        try simp only [Act.put, List.setIfInBounds_toArray, List.set_cons_zero, List.set_cons_succ]
        refine wpAnyH_ready (rs := [2]) (by kernel_rfl) (by simp) ?_
        refine AllReadyH.cons (o := _) (by simp only [List.getElem?_toArray, List.getElem?_cons_succ, List.getElem?_cons_zero] <;> exact rfl) (fun K hK => ?_) AllReadyH.nil
        refine rgs_store_blk (by rfl) 26 (.tmp 5) (.tmp 49) (by rfl) (g + 1 + 1) c.cs #[.int .i64 0, .int .i64 0, .int .i64 0, .int .i64 0, .int .i64 0] 26 (by rfl) (by rfl) EX bu_size rfl (Bu.cs_one _) ?_
        have hS := hS.setRow (fun _ => rfl) c.cs
        have EX := EX.row c.cs
        refine hK.out _ _ hS (fun _ => ?_)
        generalize wd.setRow (g + 1 + 1) c.cs = ws at hS EX ⊢
        clear hK K
        try simp only [Act.put, List.setIfInBounds_toArray, List.set_cons_zero, List.set_cons_succ]
        refine wpAnyH_take (i := 3) (v := ?_) (by simp only [List.getElem?_toArray, List.getElem?_cons_succ, List.getElem?_cons_zero] <;> exact rfl) (by kernel_rfl) (by kernel_rfl) (by kernel_rfl) (fun _ _ _ h => h) (Or.inl ⟨by rfl, ?_⟩) hS ?_
        rotate_left
        focus (intro w' hw'; go_simp; all_goals with_reducible rfl)
        try simp only [Act.put, List.setIfInBounds_toArray, List.set_cons_zero, List.set_cons_succ]
        refine wpAnyH_done (by kernel_rfl) ?_ _
        refine NoPanic.normal ?_
        go_wp2
        refine bodyPost_ret (results_tmp_cell_tmp_blk rfl _ _ (g + 1 + 1) 26 c.cs _ rfl EX Try.underlying26 rfl bu_size _ rfl _ rfl) rfl ?_
        exact ⟨rfl, kb_below_of HB.out (by have := HL.out; omega) (by have := HB.out.size; omega) hS⟩
end Go.Proofs.Ytgibhdbhagcpoaa
