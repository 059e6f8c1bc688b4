/-
  Layer 24: Less.
-/
import Derived.Test.YtofnpmmbfcnlgaaHpMem
namespace Go.Proofs.Ytofnpmmbfcnlgaa
set_option linter.unusedSimpArgs false
set_option linter.unusedVariables false
open Go.RowKit

theorem ltB_lo {k d k' d' : Int} (h : k < k') : ltB ⟨k, d⟩ ⟨k', d'⟩ = true := ltB_yes.2 (.inl h)
theorem ltB_hi {k d k' d' : Int} (h : k' < k) : ltB ⟨k, d⟩ ⟨k', d'⟩ = false := ltB_no.2 (.inl h)
theorem ltB_eq (k d d' : Int) : ltB ⟨k, d⟩ ⟨k, d'⟩ = decide (d < d') := by simp [ltB]

set_option maxHeartbeats 1600000 in
theorem hp_Less (a b : It) (w : World) :
    Calls Try.prog 15 #[.agg #[.int .i64 a.k, .int .i64 a.d], .agg #[.int .i64 b.k, .int .i64 b.d]] w fun e w' => e = .returned (.bool (ltB a b)) ∧ Below w.heap.size w w' := by
  obtain ⟨k, d⟩ := a
  obtain ⟨k', d'⟩ := b
  simp only
  rcases Int.lt_trichotomy k k' with h | h | h
  · rw [ltB_lo h]
    go_enter Try.func15, Try.ntmps15
    go_wp2
    go_ret
    exact ⟨rfl, bel2 _ _ _⟩
  · subst h
    rw [ltB_eq]
    by_cases h : d < d'
    · rw [show decide (d < d') = true by simpa using h]
      go_enter Try.func15, Try.ntmps15
      go_wp2
      go_ret
      exact ⟨rfl, bel2 _ _ _⟩
    · rw [show decide (d < d') = false by simpa using h]
      go_enter Try.func15, Try.ntmps15
      go_wp2
      go_ret
      exact ⟨rfl, bel2 _ _ _⟩
  · rw [ltB_hi h]
    have h1 : ¬ k < k' := by omega
    have h2 : (k == k') = false := beq_eq_false_iff_ne.2 (by omega)
    clear h
    go_enter Try.func15, Try.ntmps15
    go_wp2
    go_ret
    exact ⟨rfl, bel2 _ _ _⟩

end Go.Proofs.Ytofnpmmbfcnlgaa
