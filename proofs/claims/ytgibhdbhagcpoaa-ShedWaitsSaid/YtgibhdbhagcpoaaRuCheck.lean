/-
  Layer 21: the document's Check, of any bucket.
-/
import Derived.Test.YtgibhdbhagcpoaaBuTake
namespace Go.Proofs.Ytgibhdbhagcpoaa
set_option linter.unusedSimpArgs false
set_option linter.unusedVariables false
open Go.RowKit

set_option maxRecDepth 100000 in
set_option maxHeartbeats 1600000 in
theorem ru_Check_at (u r p l n : Int) (w : World) : Calls Try.prog 32 #[.agg #[.int .i64 u, .int .i64 r, .int .i64 p, .int .i64 l, .int .i64 n]] w fun e w' => e = .returned (.int .i64 (chkB ⟨u, r, p, l, n⟩)) ∧ Below w.heap.size w w' := by
  have HB := hide (bel1 w (.cells #[.int .i64 u, .int .i64 r, .int .i64 p, .int .i64 l, .int .i64 n] 25))
  by_cases h0 : u < 1
  · rw [chkB_no (okB_no.2 (fun h => by obtain ⟨a1, a2, a3, a4, a5, a6, a7, a8, a9, a10⟩ := h; simp only at a1 a2 a3 a4 a5 a6 a7 a8 a9 a10; omega))]
    have k0 : decide (u < 1) = true := by rw [decide_eq_true_iff]; omega
    clear h0
    go_enter Try.func32, Try.ntmps32
    go_wp2
    go_ret
    exact ⟨rfl, HB.out⟩
  by_cases h1 : 1000 < u
  · rw [chkB_no (okB_no.2 (fun h => by obtain ⟨a1, a2, a3, a4, a5, a6, a7, a8, a9, a10⟩ := h; simp only at a1 a2 a3 a4 a5 a6 a7 a8 a9 a10; omega))]
    have k0 : decide (u < 1) = false := by rw [decide_eq_false_iff_not]; omega
    have k1 : decide (1000 < u) = true := by rw [decide_eq_true_iff]; omega
    clear h0 h1
    go_enter Try.func32, Try.ntmps32
    go_wp2
    go_ret
    exact ⟨rfl, HB.out⟩
  by_cases h2 : r < 0
  · rw [chkB_no (okB_no.2 (fun h => by obtain ⟨a1, a2, a3, a4, a5, a6, a7, a8, a9, a10⟩ := h; simp only at a1 a2 a3 a4 a5 a6 a7 a8 a9 a10; omega))]
    have k0 : decide (u < 1) = false := by rw [decide_eq_false_iff_not]; omega
    have k1 : decide (1000 < u) = false := by rw [decide_eq_false_iff_not]; omega
    have k2 : decide (r < 0) = true := by rw [decide_eq_true_iff]; omega
    clear h0 h1 h2
    go_enter Try.func32, Try.ntmps32
    go_wp2
    go_ret
    exact ⟨rfl, HB.out⟩
  by_cases h3 : 1000 < r
  · rw [chkB_no (okB_no.2 (fun h => by obtain ⟨a1, a2, a3, a4, a5, a6, a7, a8, a9, a10⟩ := h; simp only at a1 a2 a3 a4 a5 a6 a7 a8 a9 a10; omega))]
    have k0 : decide (u < 1) = false := by rw [decide_eq_false_iff_not]; omega
    have k1 : decide (1000 < u) = false := by rw [decide_eq_false_iff_not]; omega
    have k2 : decide (r < 0) = false := by rw [decide_eq_false_iff_not]; omega
    have k3 : decide (1000 < r) = true := by rw [decide_eq_true_iff]; omega
    clear h0 h1 h2 h3
    go_enter Try.func32, Try.ntmps32
    go_wp2
    go_ret
    exact ⟨rfl, HB.out⟩
  by_cases h4 : p < 1
  · rw [chkB_no (okB_no.2 (fun h => by obtain ⟨a1, a2, a3, a4, a5, a6, a7, a8, a9, a10⟩ := h; simp only at a1 a2 a3 a4 a5 a6 a7 a8 a9 a10; omega))]
    have k0 : decide (u < 1) = false := by rw [decide_eq_false_iff_not]; omega
    have k1 : decide (1000 < u) = false := by rw [decide_eq_false_iff_not]; omega
    have k2 : decide (r < 0) = false := by rw [decide_eq_false_iff_not]; omega
    have k3 : decide (1000 < r) = false := by rw [decide_eq_false_iff_not]; omega
    have k4 : decide (p < 1) = true := by rw [decide_eq_true_iff]; omega
    clear h0 h1 h2 h3 h4
    go_enter Try.func32, Try.ntmps32
    go_wp2
    go_ret
    exact ⟨rfl, HB.out⟩
  by_cases h5 : 1000 < p
  · rw [chkB_no (okB_no.2 (fun h => by obtain ⟨a1, a2, a3, a4, a5, a6, a7, a8, a9, a10⟩ := h; simp only at a1 a2 a3 a4 a5 a6 a7 a8 a9 a10; omega))]
    have k0 : decide (u < 1) = false := by rw [decide_eq_false_iff_not]; omega
    have k1 : decide (1000 < u) = false := by rw [decide_eq_false_iff_not]; omega
    have k2 : decide (r < 0) = false := by rw [decide_eq_false_iff_not]; omega
    have k3 : decide (1000 < r) = false := by rw [decide_eq_false_iff_not]; omega
    have k4 : decide (p < 1) = false := by rw [decide_eq_false_iff_not]; omega
    have k5 : decide (1000 < p) = true := by rw [decide_eq_true_iff]; omega
    clear h0 h1 h2 h3 h4 h5
    go_enter Try.func32, Try.ntmps32
    go_wp2
    go_ret
    exact ⟨rfl, HB.out⟩
  obtain ⟨m0, m1⟩ := mul_in (u := u) (p := p) (by omega) (by omega) (by omega) (by omega)
  have hm : IntKind.i64.wrap (u * p) = u * p := IntWalk.i64_in _ (by omega)
  by_cases h6 : l < 0
  · rw [chkB_no (okB_no.2 (fun h => by obtain ⟨a1, a2, a3, a4, a5, a6, a7, a8, a9, a10⟩ := h; simp only at a1 a2 a3 a4 a5 a6 a7 a8 a9 a10; omega))]
    have k0 : decide (u < 1) = false := by rw [decide_eq_false_iff_not]; omega
    have k1 : decide (1000 < u) = false := by rw [decide_eq_false_iff_not]; omega
    have k2 : decide (r < 0) = false := by rw [decide_eq_false_iff_not]; omega
    have k3 : decide (1000 < r) = false := by rw [decide_eq_false_iff_not]; omega
    have k4 : decide (p < 1) = false := by rw [decide_eq_false_iff_not]; omega
    have k5 : decide (1000 < p) = false := by rw [decide_eq_false_iff_not]; omega
    have k6 : decide (l < 0) = true := by rw [decide_eq_true_iff]; omega
    clear h0 h1 h2 h3 h4 h5 h6
    go_enter Try.func32, Try.ntmps32
    go_wp2
    go_ret
    exact ⟨rfl, HB.out⟩
  by_cases h7 : u * p < l
  · rw [chkB_no (okB_no.2 (fun h => by obtain ⟨a1, a2, a3, a4, a5, a6, a7, a8, a9, a10⟩ := h; simp only at a1 a2 a3 a4 a5 a6 a7 a8 a9 a10; omega))]
    have k0 : decide (u < 1) = false := by rw [decide_eq_false_iff_not]; omega
    have k1 : decide (1000 < u) = false := by rw [decide_eq_false_iff_not]; omega
    have k2 : decide (r < 0) = false := by rw [decide_eq_false_iff_not]; omega
    have k3 : decide (1000 < r) = false := by rw [decide_eq_false_iff_not]; omega
    have k4 : decide (p < 1) = false := by rw [decide_eq_false_iff_not]; omega
    have k5 : decide (1000 < p) = false := by rw [decide_eq_false_iff_not]; omega
    have k6 : decide (l < 0) = false := by rw [decide_eq_false_iff_not]; omega
    have k7 : decide (u * p < l) = true := by rw [decide_eq_true_iff]; omega
    clear h0 h1 h2 h3 h4 h5 h6 h7
    go_enter Try.func32, Try.ntmps32
    go_wp2
    go_ret
    exact ⟨rfl, HB.out⟩
  by_cases h8 : n < 0
  · rw [chkB_no (okB_no.2 (fun h => by obtain ⟨a1, a2, a3, a4, a5, a6, a7, a8, a9, a10⟩ := h; simp only at a1 a2 a3 a4 a5 a6 a7 a8 a9 a10; omega))]
    have k0 : decide (u < 1) = false := by rw [decide_eq_false_iff_not]; omega
    have k1 : decide (1000 < u) = false := by rw [decide_eq_false_iff_not]; omega
    have k2 : decide (r < 0) = false := by rw [decide_eq_false_iff_not]; omega
    have k3 : decide (1000 < r) = false := by rw [decide_eq_false_iff_not]; omega
    have k4 : decide (p < 1) = false := by rw [decide_eq_false_iff_not]; omega
    have k5 : decide (1000 < p) = false := by rw [decide_eq_false_iff_not]; omega
    have k6 : decide (l < 0) = false := by rw [decide_eq_false_iff_not]; omega
    have k7 : decide (u * p < l) = false := by rw [decide_eq_false_iff_not]; omega
    have k8 : decide (n < 0) = true := by rw [decide_eq_true_iff]; omega
    clear h0 h1 h2 h3 h4 h5 h6 h7 h8
    go_enter Try.func32, Try.ntmps32
    go_wp2
    go_ret
    exact ⟨rfl, HB.out⟩
  by_cases h9 : 1099511627776 < n
  · rw [chkB_no (okB_no.2 (fun h => by obtain ⟨a1, a2, a3, a4, a5, a6, a7, a8, a9, a10⟩ := h; simp only at a1 a2 a3 a4 a5 a6 a7 a8 a9 a10; omega))]
    have k0 : decide (u < 1) = false := by rw [decide_eq_false_iff_not]; omega
    have k1 : decide (1000 < u) = false := by rw [decide_eq_false_iff_not]; omega
    have k2 : decide (r < 0) = false := by rw [decide_eq_false_iff_not]; omega
    have k3 : decide (1000 < r) = false := by rw [decide_eq_false_iff_not]; omega
    have k4 : decide (p < 1) = false := by rw [decide_eq_false_iff_not]; omega
    have k5 : decide (1000 < p) = false := by rw [decide_eq_false_iff_not]; omega
    have k6 : decide (l < 0) = false := by rw [decide_eq_false_iff_not]; omega
    have k7 : decide (u * p < l) = false := by rw [decide_eq_false_iff_not]; omega
    have k8 : decide (n < 0) = false := by rw [decide_eq_false_iff_not]; omega
    have k9 : decide (1099511627776 < n) = true := by rw [decide_eq_true_iff]; omega
    clear h0 h1 h2 h3 h4 h5 h6 h7 h8 h9
    go_enter Try.func32, Try.ntmps32
    go_wp2
    go_ret
    exact ⟨rfl, HB.out⟩
  rw [chkB_yes (okB_iff.2 ⟨by simp only; omega, by simp only; omega, by simp only; omega, by simp only; omega, by simp only; omega, by simp only; omega, by simp only; omega, by simp only; omega, by simp only; omega, by simp only; omega⟩)]
  have k0 : decide (u < 1) = false := by rw [decide_eq_false_iff_not]; omega
  have k1 : decide (1000 < u) = false := by rw [decide_eq_false_iff_not]; omega
  have k2 : decide (r < 0) = false := by rw [decide_eq_false_iff_not]; omega
  have k3 : decide (1000 < r) = false := by rw [decide_eq_false_iff_not]; omega
  have k4 : decide (p < 1) = false := by rw [decide_eq_false_iff_not]; omega
  have k5 : decide (1000 < p) = false := by rw [decide_eq_false_iff_not]; omega
  have k6 : decide (l < 0) = false := by rw [decide_eq_false_iff_not]; omega
  have k7 : decide (u * p < l) = false := by rw [decide_eq_false_iff_not]; omega
  have k8 : decide (n < 0) = false := by rw [decide_eq_false_iff_not]; omega
  have k9 : decide (1099511627776 < n) = false := by rw [decide_eq_false_iff_not]; omega
  clear h0 h1 h2 h3 h4 h5 h6 h7 h8 h9
  go_enter Try.func32, Try.ntmps32
  go_wp2
  go_ret
  exact ⟨rfl, HB.out⟩
theorem ru_Check (b : Bu) (w : World) : Calls Try.prog 32 #[.agg b.cs] w fun e w' => e = .returned (.int .i64 (chkB b)) ∧ Below w.heap.size w w' :=
  ru_Check_at b.u b.r b.p b.l b.n w
end Go.Proofs.Ytgibhdbhagcpoaa
