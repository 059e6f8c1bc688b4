/-
  Layer 24: Less (both), above.
-/
import Derived.Test.YtofnpmmbfcnlgaaHpMem
namespace Go.Proofs.Ytofnpmmbfcnlgaa
set_option linter.unusedSimpArgs false
set_option linter.unusedVariables false
open Go.RowKit

/-- An item as a value. -/
abbrev It.v (x : It) : Value := .agg #[.int .i64 x.k, .int .i64 x.d]
theorem ltB_lo {k d k' d' : Int} (h : k < k') : ltB ⟨k, d⟩ ⟨k', d'⟩ = true := ltB_yes.2 (.inl h)
theorem ltB_hi {k d k' d' : Int} (h : k' < k) : ltB ⟨k, d⟩ ⟨k', d'⟩ = false := ltB_no.2 (.inl h)
theorem ltB_eq (k d d' : Int) : ltB ⟨k, d⟩ ⟨k, d'⟩ = decide (d < d') := by simp [ltB]
theorem bel_two (w : World) (o o' : Obj) : Below w.heap.size w ((w.alloc o).alloc o') := bel2 w o o'

set_option maxHeartbeats 1600000 in
theorem hp_Less (a b : It) (w : World) :
    Calls Try.prog 15 #[.agg #[.int .i64 a.k, .int .i64 a.d], .agg #[.int .i64 b.k, .int .i64 b.d]] w fun e w' => e = .returned (.bool (ltB a b)) ∧ Below w.heap.size w w' := by
  obtain ⟨k, d⟩ := a
  obtain ⟨k', d'⟩ := b
  simp only
  rcases Int.lt_trichotomy k k' with h | h | h
  · rw [ltB_lo h]
    go_enter Try.func15, Try.ntmps15
    go_wp2
    go_ret
    exact ⟨rfl, bel2 _ _ _⟩
  · subst h
    rw [ltB_eq]
    by_cases h : d < d'
    · rw [show decide (d < d') = true by simpa using h]
      go_enter Try.func15, Try.ntmps15
      go_wp2
      go_ret
      exact ⟨rfl, bel2 _ _ _⟩
    · rw [show decide (d < d') = false by simpa using h]
      go_enter Try.func15, Try.ntmps15
      go_wp2
      go_ret
      exact ⟨rfl, bel2 _ _ _⟩
  · rw [ltB_hi h]
    have h1 : ¬ k < k' := by omega
    have h2 : (k == k') = false := beq_eq_false_iff_ne.2 (by omega)
    clear h
    go_enter Try.func15, Try.ntmps15
    go_wp2
    go_ret
    exact ⟨rfl, bel2 _ _ _⟩

set_option maxHeartbeats 1600000 in
theorem rh_Less (a b : It) (w : World) :
    Calls Try.prog 16 #[.agg #[.int .i64 a.k, .int .i64 a.d], .agg #[.int .i64 b.k, .int .i64 b.d]] w fun e w' => e = .returned (.bool (ltB a b)) ∧ Below w.heap.size w w' := by
  obtain ⟨k, d⟩ := a
  obtain ⟨k', d'⟩ := b
  simp only
  rcases Int.lt_trichotomy k k' with h | h | h
  · rw [ltB_lo h]
    have h2 : (k == k') = false := beq_eq_false_iff_ne.2 (by omega)
    have h3 : (k != k') = true := by simp [h2, bne]
    go_enter Try.func16, Try.ntmps16
    go_wp2
    go_ret
    exact ⟨rfl, bel2 _ _ _⟩
  · subst h
    rw [ltB_eq]
    by_cases h : d < d'
    · rw [show decide (d < d') = true by simpa using h]
      go_enter Try.func16, Try.ntmps16
      go_wp2
      go_ret
      exact ⟨rfl, bel2 _ _ _⟩
    · rw [show decide (d < d') = false by simpa using h]
      go_enter Try.func16, Try.ntmps16
      go_wp2
      go_ret
      exact ⟨rfl, bel2 _ _ _⟩
  · rw [ltB_hi h]
    have h1 : ¬ k < k' := by omega
    have h2 : (k == k') = false := beq_eq_false_iff_ne.2 (by omega)
    have h3 : (k != k') = true := by simp [h2, bne]
    clear h
    go_enter Try.func16, Try.ntmps16
    go_wp2
    go_ret
    exact ⟨rfl, bel2 _ _ _⟩

/-- The place above a place. -/
theorem hp_above (i : Nat) (w : World) (hi : (i : Int) ≤ 1000000) :
    Calls Try.prog 27 #[.int .i64 (i : Int)] w fun e w' => e = .returned (.int .i64 ((up i : Nat) : Int)) ∧ w = w' := by
  rcases Nat.eq_zero_or_pos i with rfl | h0
  · rw [show up 0 = 0 from rfl]
    go_enter Try.func27, Try.ntmps27
    go_wp2
    go_ret
    exact ⟨rfl, rfl⟩
  · have e : ((up i : Nat) : Int) = ((i : Int) - 1) / 2 := by unfold up; omega
    rw [e]
    have h1 : (1 : Int) ≤ (i : Int) := by omega
    clear e h0
    go_enter Try.func27, Try.ntmps27
    go_wp2
    go_ret
    exact ⟨rfl, rfl⟩
end Go.Proofs.Ytofnpmmbfcnlgaa
