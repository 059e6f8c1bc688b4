/-
  Layer 21: a bucket some ticks later. No program here.
-/
import Derived.Test.YtgibhdbhagcpoaaBuMath
namespace Go.Proofs.Ytgibhdbhagcpoaa
set_option linter.unusedSimpArgs false
set_option linter.unusedVariables false
open Go.RowKit

/-- At a tick that is not ahead of the bucket's: the parts, and the level. -/
theorem at_later {b : Bu} (h : b.Ok) {d : Int} (h0 : 0 ≤ d) (h1 : b.n + d ≤ 1099511627776) : atB b (b.n + d) = ⟨b.u, b.r, b.p, min (b.l + b.r * d) (b.u * b.p), b.n + d⟩ := by
  obtain ⟨a1, a2, a3, a4, a5, a6, a7, a8, a9, a10⟩ := id h
  by_cases hd : d = 0
  · subst hd
    rw [atB_no (fun hg => by have := hg.2.1; omega)]
    rw [Int.mul_zero, Int.add_zero, Int.add_zero, Int.min_eq_left a10]
  · rw [atB_yes ⟨h, by omega, h1⟩, show b.n + d - b.n = d by omega]
theorem ok_later {b : Bu} (h : b.Ok) (d : Int) : (atB b (b.n + d)).Ok := at_ok _ h
/-- Whether there is a token d ticks later. -/
theorem has_later {b : Bu} (h : b.Ok) {d : Int} (h0 : 0 ≤ d) (h1 : b.n + d ≤ 1099511627776) : 1 ≤ hasB (atB b (b.n + d)) ↔ b.p ≤ b.l + b.r * d := by
  rw [has_pos (ok_later h d), at_later h h0 h1]
  obtain ⟨a1, a2, a3, a4, a5, a6, a7, a8, a9, a10⟩ := id h
  simp only
  have : b.p ≤ b.u * b.p := by
    have := Int.mul_le_mul_of_nonneg_right a1 (show 0 ≤ b.p by omega)
    omega
  omega
theorem has_nonneg (b : Bu) : 0 ≤ hasB b := by
  cases hok : okB b with
  | false => rw [hasB_no hok]; omega
  | true =>
    rw [hasB_yes hok]
    obtain ⟨a1, a2, a3, a4, a5, a6, a7, a8, a9, a10⟩ := okB_iff.1 hok
    exact Int.ediv_nonneg a9 (by omega)
theorem has_zero {b : Bu} (h : ¬ 1 ≤ hasB b) : hasB b = 0 := by have := has_nonneg b; omega
/-- From one tick to another one at once, or by a tick between. -/
theorem at_twice {b : Bu} (h : b.Ok) {d e : Int} (h0 : 0 ≤ d) (h1 : 0 ≤ e) (h2 : b.n + (d + e) ≤ 1099511627776) : atB (atB b (b.n + d)) (b.n + (d + e)) = atB b (b.n + (d + e)) := by
  have hk := ok_later h d
  have hl := at_later h h0 (by omega)
  have h2' := at_later hk (d := e) h1 (by rw [hl]; simp only; omega)
  rw [hl] at h2' ⊢
  simp only at h2'
  rw [← Int.add_assoc, h2', Int.add_assoc, at_later h (by omega) h2]
  obtain ⟨a1, a2, a3, a4, a5, a6, a7, a8, a9, a10⟩ := id h
  simp only [Bu.mk.injEq, true_and, and_true]
  have hr := Int.mul_nonneg a3 h1
  rw [Int.mul_add]
  omega
/-- What had as much ahead never has less behind. -/
theorem at_more {b : Bu} (h : b.Ok) {m d : Int} (hm : 0 ≤ m) (h0 : 0 ≤ d) (h1 : b.n + d ≤ 1099511627776) :
    (Bu.mk b.u b.r b.p (min (b.u * b.p) (b.l + m)) b.n).Ok ∧ (atB b (b.n + d)).l ≤ (atB ⟨b.u, b.r, b.p, min (b.u * b.p) (b.l + m), b.n⟩ (b.n + d)).l ∧ hasB (atB b (b.n + d)) ≤ hasB (atB ⟨b.u, b.r, b.p, min (b.u * b.p) (b.l + m), b.n⟩ (b.n + d)) ∧ (atB b (b.n + d)).n = b.n + d ∧ b.l ≤ (atB b (b.n + d)).l := by
  obtain ⟨a1, a2, a3, a4, a5, a6, a7, a8, a9, a10⟩ := id h
  have hk : (Bu.mk b.u b.r b.p (min (b.u * b.p) (b.l + m)) b.n).Ok := ⟨a1, a2, a3, a4, a5, a6, a7, a8, by simp only; omega, by simp only; omega⟩
  have hb := at_later h h0 h1
  have hc := at_later hk h0 h1
  simp only at hc
  have hr := Int.mul_nonneg a3 h0
  have hll : (atB b (b.n + d)).l ≤ (atB ⟨b.u, b.r, b.p, min (b.u * b.p) (b.l + m), b.n⟩ (b.n + d)).l := by rw [hb, hc]; simp only; omega
  refine ⟨hk, hll, ?_, by rw [hb], by rw [hb]; simp only; omega⟩
  rw [hasB_yes (okB_iff.2 (ok_later h d)), hasB_yes (okB_iff.2 (ok_later hk d))]
  rw [hb, hc] at hll ⊢
  exact Int.ediv_le_ediv (by simp only; omega) hll
end Go.Proofs.Ytgibhdbhagcpoaa
