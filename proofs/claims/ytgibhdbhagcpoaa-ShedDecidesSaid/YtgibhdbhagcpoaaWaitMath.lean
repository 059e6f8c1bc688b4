/-
  Layer 18: ticks in seconds. No program here.
-/
import Derived.Test.YtgibhdbhagcpoaaKit
namespace Go.Proofs.Ytgibhdbhagcpoaa
set_option linter.unusedSimpArgs false
set_option linter.unusedVariables false
open Go.RowKit

/-! ## Ticks in seconds -/
def waitI (t p : Int) : Int := if 1 ≤ t ∧ 1 ≤ p then (t - 1) / p + 1 else 0
theorem waitI_no {t p : Int} (h : ¬ (1 ≤ t ∧ 1 ≤ p)) : waitI t p = 0 := if_neg h
theorem waitI_yes {t p : Int} (h : 1 ≤ t) (h' : 1 ≤ p) : waitI t p = (t - 1) / p + 1 := if_pos ⟨h, h'⟩
theorem waitI_bd {t p : Int} (h : 1 ≤ t) (h' : 1 ≤ p) : 1 ≤ waitI t p ∧ waitI t p ≤ t ∧ t ≤ waitI t p * p ∧ (waitI t p - 1) * p < t ∧ waitI t p * p < t + p := by
  rw [waitI_yes h h']
  obtain ⟨q, hq⟩ : ∃ q, q = (t - 1) / p := ⟨_, rfl⟩
  have h1 : 0 ≤ (t - 1) / p := Int.ediv_nonneg (by omega) (by omega)
  have h2 := Int.emod_add_mul_ediv (t - 1) p
  have h3 := Int.emod_nonneg (t - 1) (show p ≠ 0 by omega)
  have h4 := Int.emod_lt_of_pos (t - 1) (show 0 < p by omega)
  have h5 := Int.ediv_le_self p (show 0 ≤ t - 1 by omega)
  rw [← hq] at h1 h2 h5 ⊢
  have e : (q + 1) * p = p * q + p := by rw [Int.add_mul, Int.one_mul, Int.mul_comm]
  have e2 : (q + 1 - 1) * p = p * q := by rw [Int.add_sub_cancel, Int.mul_comm]
  omega
theorem wait_doc {t p : Int} (h : 1 ≤ t) (h' : 1 ≤ p) : waitI t p = if t % p = 0 then t / p else t / p + 1 := by
  rw [waitI_yes h h']
  have h2 := Int.emod_add_mul_ediv t p
  have h3 := Int.emod_nonneg t (show p ≠ 0 by omega)
  have h4 := Int.emod_lt_of_pos t (show 0 < p by omega)
  split
  · rename_i h0
    have : (t - 1) / p = t / p - 1 := by
      have e : p * (t / p - 1) = p * (t / p) - p := by rw [Int.mul_sub, Int.mul_one]
      have := (Int.ediv_emod_unique (a := t - 1) (b := p) (r := p - 1) (q := t / p - 1) (by omega)).2 ⟨by omega, by omega, by omega⟩
      exact this.1
    omega
  · rename_i h0
    have : (t - 1) / p = t / p := by
      have := (Int.ediv_emod_unique (a := t - 1) (b := p) (r := t % p - 1) (q := t / p) (by omega)).2 ⟨by omega, by omega, by omega⟩
      exact this.1
    omega
end Go.Proofs.Ytgibhdbhagcpoaa
