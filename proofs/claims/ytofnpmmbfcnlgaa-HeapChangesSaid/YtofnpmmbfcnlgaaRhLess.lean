/-
  Layer 24: the document's Less.
-/
import Derived.Test.YtofnpmmbfcnlgaaHpLess
namespace Go.Proofs.Ytofnpmmbfcnlgaa
set_option linter.unusedSimpArgs false
set_option linter.unusedVariables false
open Go.RowKit

set_option maxHeartbeats 1600000 in
theorem rh_Less (a b : It) (w : World) :
    Calls Try.prog 16 #[.agg #[.int .i64 a.k, .int .i64 a.d], .agg #[.int .i64 b.k, .int .i64 b.d]] w fun e w' => e = .returned (.bool (ltB a b)) ∧ Below w.heap.size w w' := by
  obtain ⟨k, d⟩ := a
  obtain ⟨k', d'⟩ := b
  simp only
  rcases Int.lt_trichotomy k k' with h | h | h
  · rw [ltB_lo h]
    have h2 : (k == k') = false := beq_eq_false_iff_ne.2 (by omega)
    have h3 : (k != k') = true := by simp [h2, bne]
    go_enter Try.func16, Try.ntmps16
    go_wp2
    go_ret
    exact ⟨rfl, bel2 _ _ _⟩
  · subst h
    rw [ltB_eq]
    by_cases h : d < d'
    · rw [show decide (d < d') = true by simpa using h]
      go_enter Try.func16, Try.ntmps16
      go_wp2
      go_ret
      exact ⟨rfl, bel2 _ _ _⟩
    · rw [show decide (d < d') = false by simpa using h]
      go_enter Try.func16, Try.ntmps16
      go_wp2
      go_ret
      exact ⟨rfl, bel2 _ _ _⟩
  · rw [ltB_hi h]
    have h1 : ¬ k < k' := by omega
    have h2 : (k == k') = false := beq_eq_false_iff_ne.2 (by omega)
    have h3 : (k != k') = true := by simp [h2, bne]
    clear h
    go_enter Try.func16, Try.ntmps16
    go_wp2
    go_ret
    exact ⟨rfl, bel2 _ _ _⟩

end Go.Proofs.Ytofnpmmbfcnlgaa
