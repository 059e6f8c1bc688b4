/-
  Layer 21: the document's Check (of an empty bucket at the tick 0), and New.
-/
import Derived.Test.YtpebbeghjealiaaBuNew
namespace Go.Proofs.Ytpebbeghjealiaa
set_option linter.unusedSimpArgs false
set_option linter.unusedVariables false
open Go.RowKit

set_option maxRecDepth 100000 in
set_option maxHeartbeats 1600000 in
theorem rb_Check (u r p : Int) (w : World) : Calls Try.prog 16 #[.agg #[.int .i64 u, .int .i64 r, .int .i64 p, .int .i64 0, .int .i64 0]] w fun e w' => e = .returned (.int .i64 (chkB ⟨u, r, p, 0, 0⟩)) ∧ Below w.heap.size w w' := by
  have HB := hide (bel1 w (.cells #[.int .i64 u, .int .i64 r, .int .i64 p, .int .i64 0, .int .i64 0] 27))
  by_cases h0 : u < 1
  · rw [chkB_no (okB_no.2 (fun h => by obtain ⟨a1, a2, a3, a4, a5, a6, a7, a8, a9, a10⟩ := h; simp only at a1 a2 a3 a4 a5 a6; omega))]
    have k0 : decide (u < 1) = true := by rw [decide_eq_true_iff]; omega
    clear h0
    go_enter Try.func16, Try.ntmps16
    go_wp2
    go_ret
    exact ⟨rfl, HB.out⟩
  by_cases h1 : 1000 < u
  · rw [chkB_no (okB_no.2 (fun h => by obtain ⟨a1, a2, a3, a4, a5, a6, a7, a8, a9, a10⟩ := h; simp only at a1 a2 a3 a4 a5 a6; omega))]
    have k0 : decide (u < 1) = false := by rw [decide_eq_false_iff_not]; omega
    have k1 : decide (1000 < u) = true := by rw [decide_eq_true_iff]; omega
    clear h0 h1
    go_enter Try.func16, Try.ntmps16
    go_wp2
    go_ret
    exact ⟨rfl, HB.out⟩
  by_cases h2 : r < 0
  · rw [chkB_no (okB_no.2 (fun h => by obtain ⟨a1, a2, a3, a4, a5, a6, a7, a8, a9, a10⟩ := h; simp only at a1 a2 a3 a4 a5 a6; omega))]
    have k0 : decide (u < 1) = false := by rw [decide_eq_false_iff_not]; omega
    have k1 : decide (1000 < u) = false := by rw [decide_eq_false_iff_not]; omega
    have k2 : decide (r < 0) = true := by rw [decide_eq_true_iff]; omega
    clear h0 h1 h2
    go_enter Try.func16, Try.ntmps16
    go_wp2
    go_ret
    exact ⟨rfl, HB.out⟩
  by_cases h3 : 1000 < r
  · rw [chkB_no (okB_no.2 (fun h => by obtain ⟨a1, a2, a3, a4, a5, a6, a7, a8, a9, a10⟩ := h; simp only at a1 a2 a3 a4 a5 a6; omega))]
    have k0 : decide (u < 1) = false := by rw [decide_eq_false_iff_not]; omega
    have k1 : decide (1000 < u) = false := by rw [decide_eq_false_iff_not]; omega
    have k2 : decide (r < 0) = false := by rw [decide_eq_false_iff_not]; omega
    have k3 : decide (1000 < r) = true := by rw [decide_eq_true_iff]; omega
    clear h0 h1 h2 h3
    go_enter Try.func16, Try.ntmps16
    go_wp2
    go_ret
    exact ⟨rfl, HB.out⟩
  by_cases h4 : p < 1
  · rw [chkB_no (okB_no.2 (fun h => by obtain ⟨a1, a2, a3, a4, a5, a6, a7, a8, a9, a10⟩ := h; simp only at a1 a2 a3 a4 a5 a6; omega))]
    have k0 : decide (u < 1) = false := by rw [decide_eq_false_iff_not]; omega
    have k1 : decide (1000 < u) = false := by rw [decide_eq_false_iff_not]; omega
    have k2 : decide (r < 0) = false := by rw [decide_eq_false_iff_not]; omega
    have k3 : decide (1000 < r) = false := by rw [decide_eq_false_iff_not]; omega
    have k4 : decide (p < 1) = true := by rw [decide_eq_true_iff]; omega
    clear h0 h1 h2 h3 h4
    go_enter Try.func16, Try.ntmps16
    go_wp2
    go_ret
    exact ⟨rfl, HB.out⟩
  by_cases h5 : 1000 < p
  · rw [chkB_no (okB_no.2 (fun h => by obtain ⟨a1, a2, a3, a4, a5, a6, a7, a8, a9, a10⟩ := h; simp only at a1 a2 a3 a4 a5 a6; omega))]
    have k0 : decide (u < 1) = false := by rw [decide_eq_false_iff_not]; omega
    have k1 : decide (1000 < u) = false := by rw [decide_eq_false_iff_not]; omega
    have k2 : decide (r < 0) = false := by rw [decide_eq_false_iff_not]; omega
    have k3 : decide (1000 < r) = false := by rw [decide_eq_false_iff_not]; omega
    have k4 : decide (p < 1) = false := by rw [decide_eq_false_iff_not]; omega
    have k5 : decide (1000 < p) = true := by rw [decide_eq_true_iff]; omega
    clear h0 h1 h2 h3 h4 h5
    go_enter Try.func16, Try.ntmps16
    go_wp2
    go_ret
    exact ⟨rfl, HB.out⟩
  obtain ⟨m0, m1⟩ := mul_in (u := u) (p := p) (by omega) (by omega) (by omega) (by omega)
  rw [chkB_yes (okB_iff.2 ⟨by simp only; omega, by simp only; omega, by simp only; omega, by simp only; omega, by simp only; omega, by simp only; omega, by simp only; omega, by simp only; omega, by simp only; omega, by simp only; omega⟩)]
  have k0 : decide (u < 1) = false := by rw [decide_eq_false_iff_not]; omega
  have k1 : decide (1000 < u) = false := by rw [decide_eq_false_iff_not]; omega
  have k2 : decide (r < 0) = false := by rw [decide_eq_false_iff_not]; omega
  have k3 : decide (1000 < r) = false := by rw [decide_eq_false_iff_not]; omega
  have k4 : decide (p < 1) = false := by rw [decide_eq_false_iff_not]; omega
  have k5 : decide (1000 < p) = false := by rw [decide_eq_false_iff_not]; omega
  have k6 : decide (u * p < 0) = false := by rw [decide_eq_false_iff_not]; omega
  clear h0 h1 h2 h3 h4 h5
  go_enter Try.func16, Try.ntmps16
  go_wp2
  go_ret
  exact ⟨rfl, HB.out⟩

set_option maxRecDepth 100000 in
set_option maxHeartbeats 1600000 in
theorem rb_New (u r p : Int) (w : World) : Calls Try.prog 8 #[.int .i64 u, .int .i64 r, .int .i64 p] w fun e w' => e = .returned (.tuple #[.agg (newB u r p).1.cs, .int .i64 (newB u r p).2]) ∧ Below w.heap.size w w' := by
  have HC := hide (fun w => rb_Check u r p w)
  obtain ⟨g, hg⟩ : ∃ g, g = w.heap.size := ⟨_, rfl⟩
  have HL := hide hg.symm
  have HB := hide (bel2 w (.cells #[.int .i64 0, .int .i64 0, .int .i64 0, .int .i64 0, .int .i64 0] 27) (.cells #[.int .i64 u, .int .i64 r, .int .i64 p, .int .i64 0, .int .i64 0] 27))
  have HZ := hide (show BlkIs _ g _ _ by rw [hg]; exact (BlkIs.new w 27 #[.int .i64 0, .int .i64 0, .int .i64 0, .int .i64 0, .int .i64 0]).alloc (.cells #[.int .i64 u, .int .i64 r, .int .i64 p, .int .i64 0, .int .i64 0] 27))
  have HX := hide (show BlkIs _ (g + 1) _ _ by rw [hg]; exact new2 w (.cells #[.int .i64 0, .int .i64 0, .int .i64 0, .int .i64 0, .int .i64 0] 27) 27 #[.int .i64 u, .int .i64 r, .int .i64 p, .int .i64 0, .int .i64 0])
  clear hg
  have HFZ := hide (ful_zero u r p)
  cases hok : okB (fulB u r p) with
  | false =>
    rw [chkB_no (by rw [HFZ.out, hok])] at HC
    rw [newB_no hok]
    clear hok HFZ
    go_enter Try.func8, Try.ntmps8
    go_wp2_with fail
    rw [HL.out]
    refine (HC.out _).mono ?_
    rintro e w3 ⟨rfl, hb3⟩
    have HX3 := hide (HX.out.keep hb3)
    have HZ3 := hide (HZ.out.keep hb3)
    have HB3 := hide (HB.out.trans (hb3.mono HB.out.size))
    clear hb3 HX HZ HB HC
    go_wp2_with (first
      | (refine wpList_store_blk rfl 27 (.tmp 6) (.tmp 18) rfl g nilB.cs _ 27 rfl rfl HZ3.out rb_size rfl (Bu.cs_one nilB) ?_))
    exact bodyPost_ret (results_cell_tmp_blk rfl _ _ g 27 nilB.cs _ rfl (HZ3.out.row _) Try.underlying27 rfl rb_size _ rfl) rfl ⟨rfl, below_setRow HB3.out (by have := HL.out; omega) _⟩
  | true =>
    rw [chkB_yes (by rw [HFZ.out, hok])] at HC
    rw [newB_yes hok]
    unfold fulB
    obtain ⟨a1, a2, a3, a4, a5, a6, a7, a8, a9, a10⟩ := okB_iff.1 hok
    obtain ⟨m0, m1⟩ := mul_in a1 a2 a5 a6
    simp only [fulB] at m0 m1
    clear hok HFZ a1 a2 a3 a4 a5 a6 a7 a8 a9 a10
    go_enter Try.func8, Try.ntmps8
    go_wp2_with fail
    rw [HL.out]
    refine (HC.out _).mono ?_
    rintro e w3 ⟨rfl, hb3⟩
    have HX3 := hide (HX.out.keep hb3)
    have HZ3 := hide (HZ.out.keep hb3)
    have HB3 := hide (HB.out.trans (hb3.mono HB.out.size))
    clear hb3 HX HZ HB HC
    have d3 := (HX3.out.cell 3).trans (show _ = some (Value.int .i64 0) from rfl)
    have f3 := HX3.out.frozen 3
    have HX4 := hide (HX3.out.put 3 (.int .i64 (u * p)))
    have HZ4 := hide (HZ3.out.far (p := ⟨g + 1, 3, none⟩) (by simp) (.int .i64 (u * p)))
    have HB4 := hide (HB3.out.setCell (p := ⟨g + 1, 3, none⟩) (by have := HL.out; simp; omega) (.int .i64 (u * p)))
    simp only [List.setIfInBounds_toArray, List.set_cons_zero, List.set_cons_succ] at HX4
    clear HX3 HZ3 HB3
    go_upto_region 6 with (fail)
    generalize w3.setCell ⟨g + 1, 3, none⟩ (.int .i64 (u * p)) = w4 at *
    clear d3 f3
    go_wp2_with (first
      | (refine wpList_load_blk rfl 27 (.tmp 8) rfl (g + 1) rfl 27 #[.int .i64 u, .int .i64 r, .int .i64 p, .int .i64 (u * p), .int .i64 0] _ HX4.out Try.underlying27 rfl rb_size ?_)
      | (refine wpList_store_blk rfl 27 (.tmp 6) (.tmp 24) rfl g #[.int .i64 u, .int .i64 r, .int .i64 p, .int .i64 (u * p), .int .i64 0] _ 27 rfl rfl HZ4.out rb_size rfl (by simp [Value.oneCell']) ?_))
    exact bodyPost_ret (results_cell_tmp_blk rfl _ _ g 27 #[.int .i64 u, .int .i64 r, .int .i64 p, .int .i64 (u * p), .int .i64 0] _ rfl (HZ4.out.row _) Try.underlying27 rfl rb_size _ rfl) rfl ⟨rfl, below_setRow HB4.out (by have := HL.out; omega) _⟩
end Go.Proofs.Ytpebbeghjealiaa
