/-
  Layer 21: the document's At, of any bucket.
-/
import Derived.Test.YtgibhdbhagcpoaaRuHas
namespace Go.Proofs.Ytgibhdbhagcpoaa
set_option linter.unusedSimpArgs false
set_option linter.unusedVariables false
open Go.RowKit

set_option maxRecDepth 100000 in
set_option maxHeartbeats 3200000 in
theorem ru_At_no (b : Bu) (t : Int) (h : ¬ Goes b t) (w : World) : Calls Try.prog 27 #[.agg b.cs, .int .i64 t] w fun e w' => e = .returned (.agg b.cs) ∧ Below w.heap.size w w' := by
  have HC := hide (fun w => ru_Check b w)
  have HB0 := hide (bel2 w (.cells b.cs 25) (.cells #[.int .i64 0, .int .i64 0, .int .i64 0, .int .i64 0, .int .i64 0] 25))
  have HK := hide ((BlkIs.new w 25 b.cs).alloc (.cells #[.int .i64 0, .int .i64 0, .int .i64 0, .int .i64 0, .int .i64 0] 25))
  have HZ := hide (new2 w (.cells b.cs 25) 25 #[.int .i64 0, .int .i64 0, .int .i64 0, .int .i64 0, .int .i64 0])
  have hcase : okB b = false ∨ okB b = true ∧ (t ≤ b.n ∨ ¬ t ≤ b.n ∧ 1099511627776 < t) := by
    cases hok : okB b with
    | false => exact .inl rfl
    | true => exact .inr ⟨rfl, by have ho := okB_iff.1 hok; by_cases h1 : t ≤ b.n; · exact .inl h1
                                  · exact .inr ⟨h1, by apply Int.not_le.1; intro h2; exact h ⟨ho, by omega, h2⟩⟩⟩
  clear h
  rcases hcase with hok | ⟨hok, hcase⟩
  · rw [chkB_no hok] at HC
    clear hok
    go_enter Try.func27, Try.ntmps27
    go_wp2_with (refine wpList_load_blk rfl 25 (.tmp 2) rfl w.heap.size rfl 25 b.cs _ HK.out Try.underlying25 rfl rb_size ?_)
    refine (HC.out _).mono ?_
    rintro e w1 ⟨rfl, hb1⟩
    have HB1 := hide (HB0.out.trans (hb1.mono HB0.out.size))
    have HK1 := hide (HK.out.keep hb1)
    have HZ1 := hide (HZ.out.keep hb1)
    clear hb1 HK HZ HB0
    go_wp2_with (first
      | (refine wpList_load_blk rfl 25 (.tmp 2) rfl w.heap.size rfl 25 b.cs _ HK1.out Try.underlying25 rfl rb_size ?_)
      | (refine wpList_store_blk rfl 25 (.tmp 4) (.tmp 18) rfl (w.heap.size + 1) b.cs _ 25 rfl rfl HZ1.out rb_size rfl (Bu.cs_one b) ?_))
    exact bodyPost_ret (results_cell_blk rfl _ _ (w.heap.size + 1) 25 b.cs _ rfl (HZ1.out.row _) Try.underlying25 rfl rb_size) rfl ⟨rfl, below_setRow HB1.out (by omega) _⟩
  · rw [chkB_yes hok] at HC
    clear hok
    rcases hcase with h1 | ⟨h1, h2⟩
    all_goals
      go_enter Try.func27, Try.ntmps27
      go_wp2_with (refine wpList_load_blk rfl 25 (.tmp 2) rfl w.heap.size rfl 25 b.cs _ HK.out Try.underlying25 rfl rb_size ?_)
      refine (HC.out _).mono ?_
      rintro e w1 ⟨rfl, hb1⟩
      have HB1 := hide (HB0.out.trans (hb1.mono HB0.out.size))
      have HK1 := hide (HK.out.keep hb1)
      have HZ1 := hide (HZ.out.keep hb1)
      obtain ⟨d0, d1, d2, d3, d4⟩ := cells5 HK1.out
      clear hb1 HK HZ HB0
      go_wp2_with (first
        | (refine wpList_load_blk rfl 25 (.tmp 2) rfl w.heap.size rfl 25 b.cs _ HK1.out Try.underlying25 rfl rb_size ?_)
        | (refine wpList_store_blk rfl 25 (.tmp 4) (.tmp 18) rfl (w.heap.size + 1) b.cs _ 25 rfl rfl HZ1.out rb_size rfl (Bu.cs_one b) ?_))
      exact bodyPost_ret (results_cell_blk rfl _ _ (w.heap.size + 1) 25 b.cs _ rfl (HZ1.out.row _) Try.underlying25 rfl rb_size) rfl ⟨rfl, below_setRow HB1.out (by omega) _⟩

set_option maxRecDepth 100000 in
set_option maxHeartbeats 3200000 in
theorem ru_At_yes (u r p l n t : Int) (h : Goes ⟨u, r, p, l, n⟩ t) (w : World) : Calls Try.prog 27 #[.agg (Bu.mk u r p l n).cs, .int .i64 t] w fun e w' => e = .returned (.agg (Bu.mk u r p (min (l + r * (t - n)) (u * p)) t).cs) ∧ Below w.heap.size w w' := by
  have HC := hide (fun w => ru_Check ⟨u, r, p, l, n⟩ w)
  rw [chkB_yes (okB_iff.2 h.1)] at HC
  obtain ⟨ho, h1, h2⟩ := h
  obtain ⟨a1, a2, a3, a4, a5, a6, a7, a8, a9, a10⟩ := ho
  simp only at a1 a2 a3 a4 a5 a6 a7 a8 a9 a10 h1
  obtain ⟨m0, m1⟩ := mul_in a1 a2 a5 a6
  obtain ⟨r0, r1⟩ := rate_in (d := t - n) a3 a4 (by omega) (by omega)
  obtain ⟨M, hM⟩ : ∃ M, M = u * p := ⟨_, rfl⟩
  obtain ⟨R, hR⟩ : ∃ R, R = r * (t - n) := ⟨_, rfl⟩
  have W0 := hide (show u * p = M from hM.symm)
  have W2 := hide (show r * (t - n) = R from hR.symm)
  rw [← hM] at m0 m1 a10
  rw [← hR] at r0 r1
  have h1' : decide (t ≤ n) = false := by rw [decide_eq_false_iff_not]; omega
  have h2' : decide (1099511627776 < t) = false := by rw [decide_eq_false_iff_not]; omega
  rw [← hM, ← hR]
  obtain ⟨L, hL⟩ : ∃ L, L = min (l + R) M := ⟨_, rfl⟩
  have HLL := hide (show min M (l + R) = L by rw [hL, Int.min_comm])
  rw [← hL]
  have w1 : IntKind.i64.wrap (t - n) = t - n := IntWalk.i64_in _ (by omega)
  have w3 : IntKind.i64.wrap (l + R) = l + R := IntWalk.i64_in _ (by omega)
  have w4 : IntKind.i64.wrap M = M := IntWalk.i64_in _ (by omega)
  have w5 : IntKind.i64.wrap R = R := IntWalk.i64_in _ (by omega)
  clear a1 a2 a3 a4 a5 a6 a7 a8 a9 a10 m0 m1 r0 r1 h1 h2 hM hR hL
  simp only [Bu.cs] at HC ⊢
  obtain ⟨g, hg⟩ : ∃ g, g = w.heap.size := ⟨_, rfl⟩
  have HL := hide hg.symm
  have HB := hide (bel2 w (.cells #[.int .i64 u, .int .i64 r, .int .i64 p, .int .i64 l, .int .i64 n] 25) (.cells #[.int .i64 0, .int .i64 0, .int .i64 0, .int .i64 0, .int .i64 0] 25))
  have HX := hide (show BlkIs _ g _ _ by rw [hg]; exact (BlkIs.new w 25 #[.int .i64 u, .int .i64 r, .int .i64 p, .int .i64 l, .int .i64 n]).alloc (.cells #[.int .i64 0, .int .i64 0, .int .i64 0, .int .i64 0, .int .i64 0] 25))
  have HZ := hide (show BlkIs _ (g + 1) _ _ by rw [hg]; exact new2 w (.cells #[.int .i64 u, .int .i64 r, .int .i64 p, .int .i64 l, .int .i64 n] 25) 25 #[.int .i64 0, .int .i64 0, .int .i64 0, .int .i64 0, .int .i64 0])
  clear hg
  go_enter Try.func27, Try.ntmps27
  go_wp2_with fail
  rw [HL.out]
  refine (HC.out _).mono ?_
  rintro e W ⟨rfl, hb⟩
  have HX1 := hide (HX.out.keep hb)
  have HZ1 := hide (HZ.out.keep hb)
  have HB1 := hide (HB.out.trans (hb.mono HB.out.size))
  clear hb HX HZ HB HC
  obtain ⟨d0, d1, d2, d3, d4⟩ := cells5 (b := ⟨u, r, p, l, n⟩) HX1.out
  simp only at d0 d1 d2 d3 d4
  have f3 := HX1.out.frozen 3
  have f4 := HX1.out.frozen 4
  go_upto_region 3 with (fail)
  have e0 := W0.out
  have e2 := W2.out
  have e3 := HLL.out
  go_upto_region 5 with (fail)
  have HX5 := hide ((HX1.out.put 3 (.int .i64 L)).put 4 (.int .i64 t))
  have HZ5 := hide ((HZ1.out.far (p := ⟨g, 3, none⟩) (by simp) (.int .i64 L)).far (p := ⟨g, 4, none⟩) (by simp) (.int .i64 t))
  have HB5 := hide ((HB1.out.setCell (p := ⟨g, 3, none⟩) (by rw [HL.out]; exact Nat.le_refl _) (.int .i64 L)).setCell (p := ⟨g, 4, none⟩) (by rw [HL.out]; exact Nat.le_refl _) (.int .i64 t))
  simp only [List.setIfInBounds_toArray, List.set_cons_zero, List.set_cons_succ] at HX5
  generalize (W.setCell ⟨g, 3, none⟩ (.int .i64 L)).setCell ⟨g, 4, none⟩ (.int .i64 t) = w5 at *
  clear d0 d1 d2 d3 d4 f3 f4 HX1 HZ1 HB1 e0 e2 e3
  go_wp2_with (first
    | (refine wpList_load_blk rfl 25 (.tmp 2) rfl g rfl 25 #[.int .i64 u, .int .i64 r, .int .i64 p, .int .i64 L, .int .i64 t] _ HX5.out Try.underlying25 rfl rb_size ?_)
    | (refine wpList_store_blk rfl 25 (.tmp 4) (.tmp 38) rfl (g + 1) #[.int .i64 u, .int .i64 r, .int .i64 p, .int .i64 L, .int .i64 t] _ 25 rfl rfl HZ5.out rb_size rfl (by simp [Value.oneCell']) ?_))
  exact bodyPost_ret (results_cell_blk rfl _ _ (g + 1) 25 #[.int .i64 u, .int .i64 r, .int .i64 p, .int .i64 L, .int .i64 t] _ rfl (HZ5.out.row _) Try.underlying25 rfl rb_size) rfl ⟨rfl, below_setRow HB5.out (by have := HL.out; omega) _⟩

theorem ru_At (b : Bu) (t : Int) (w : World) : Calls Try.prog 27 #[.agg b.cs, .int .i64 t] w fun e w' => e = .returned (.agg (atB b t).cs) ∧ Below w.heap.size w w' := by
  by_cases h : Goes b t
  · rw [atB_yes h]
    exact ru_At_yes b.u b.r b.p b.l b.n t h w
  · rw [atB_no h]
    exact ru_At_no b t h w
end Go.Proofs.Ytgibhdbhagcpoaa
