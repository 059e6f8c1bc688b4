/-
  BucketWaits: its mathematics.
-/
import Derived.Test.YtpebbeghjealiaaBuWait
import Derived.Test.YtpebbeghjealiaaBuLater
namespace Go.Proofs.Ytpebbeghjealiaa.bucketWaits
set_option linter.unusedSimpArgs false
set_option linter.unusedVariables false
open Go.RowKit

/-- Rounded up. -/
theorem up_in {x r : Int} (h0 : 1 ≤ x) (hr : 1 ≤ r) : x ≤ r * ((x + r - 1) / r) ∧ r * ((x + r - 1) / r - 1) < x := by
  have e := Int.mul_ediv_add_emod (x + r - 1) r
  have m0 := Int.emod_nonneg (x + r - 1) (show r ≠ 0 by omega)
  have m1 := Int.emod_lt_of_pos (x + r - 1) (show 0 < r by omega)
  rw [Int.mul_sub, Int.mul_one]
  omega
/-- What is asked of Wait. -/
structure Waits (b : Bu) (d : Int) : Prop where
  neg : waitB b (b.n + d) < 0 → waitB b (b.n + d) = -1 ∧ hasB (atB b (b.n + d + 1000)) = 0 ∧ b.r = 0
  max : waitB b (b.n + d) ≤ 2000
  tak : 0 ≤ waitB b (b.n + d) → (takB b (b.n + d + waitB b (b.n + d))).2 = true
  pos : 0 < waitB b (b.n + d) → hasB (atB b (b.n + d + waitB b (b.n + d) - 1)) = 0
theorem waits {b : Bu} (h : b.Ok) (hn : b.n ≤ 1073741824) {d : Int} (h0 : 0 ≤ d) (h1 : d ≤ 65535) : Waits b d := by
  obtain ⟨a1, a2, a3, a4, a5, a6, a7, a8, a9, a10⟩ := id h
  have hok := okB_iff.2 (ok_later h d)
  have hl := has_later h h0 (by omega)
  have hz := has_nonneg (atB b (b.n + d))
  obtain ⟨s1, s2, s3⟩ := at_same (b := b) (b.n + d)
  have tk : ∀ k, 0 ≤ k → k ≤ 2000 → b.p ≤ b.l + b.r * (d + k) → (takB b (b.n + d + k)).2 = true := by
    intro k k0 k1 k2
    rw [takB_yes]
    have := (has_later h (d := d + k) (by omega) (by omega)).2 k2
    rw [Int.add_assoc]
    omega
  by_cases hh : 0 < hasB (atB b (b.n + d))
  · have hw := waitB_has hok hh
    refine ⟨fun hlt => by omega, by omega, fun _ => ?_, fun hp => by omega⟩
    rw [hw]
    refine tk 0 (by omega) (by omega) ?_
    rw [Int.add_zero]
    exact hl.1 hh
  · have hlt : b.l + b.r * d < b.p := by have := mt hl.2 (by omega : ¬ 1 ≤ hasB (atB b (b.n + d))); omega
    have hcl : (atB b (b.n + d)).l = b.l + b.r * d := by
      rw [at_later h h0 (by omega)]
      have : b.p ≤ b.u * b.p := by
        have := Int.mul_le_mul_of_nonneg_right a1 (show 0 ≤ b.p by omega)
        omega
      simp only
      omega
    have hcn : (atB b (b.n + d)).n = b.n + d := by rw [at_later h h0 (by omega)]
    by_cases hr : (atB b (b.n + d)).r = 0
    · have hw := waitB_none hok hh hr
      rw [s2] at hr
      refine ⟨fun _ => ⟨hw, ?_, hr⟩, by omega, fun hp => by omega, fun hp => by omega⟩
      refine has_zero (fun hc => ?_)
      rw [Int.add_assoc] at hc
      have := (has_later h (d := d + 1000) (by omega) (by omega)).1 hc
      rw [hr] at this hlt
      omega
    · have hq : ((atB b (b.n + d)).p - (atB b (b.n + d)).l + (atB b (b.n + d)).r - 1) / (atB b (b.n + d)).r = (b.p - (b.l + b.r * d) + b.r - 1) / b.r := by rw [s2, s3, hcl]
      have hr1 : 1 ≤ b.r := by omega
      obtain ⟨q0, q1⟩ := wait_in (p := b.p) (l := b.l + b.r * d) (r := b.r) (by have := Int.mul_nonneg a3 h0; omega) hlt a6 hr1 a4
      obtain ⟨u0, u1⟩ := up_in (x := b.p - (b.l + b.r * d)) (r := b.r) (by omega) hr1
      have hw := waitB_near hok hh hr (by rw [hq, hcn]; omega)
      rw [hq] at hw
      generalize (b.p - (b.l + b.r * d) + b.r - 1) / b.r = q at *
      refine ⟨fun hp => by omega, by omega, fun _ => ?_, fun _ => ?_⟩
      · rw [hw]
        refine tk q (by omega) (by omega) ?_
        rw [Int.mul_add]
        omega
      · rw [hw]
        refine has_zero (fun hc => ?_)
        rw [show b.n + d + q - 1 = b.n + (d + (q - 1)) by omega] at hc
        have := (has_later h (d := d + (q - 1)) (by omega) (by omega)).1 hc
        rw [Int.mul_add] at this
        omega
end Go.Proofs.Ytpebbeghjealiaa.bucketWaits
