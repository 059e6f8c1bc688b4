/-
  Layer 24: above.
-/
import Derived.Test.YtofnpmmbfcnlgaaHpMem
namespace Go.Proofs.Ytofnpmmbfcnlgaa
set_option linter.unusedSimpArgs false
set_option linter.unusedVariables false
open Go.RowKit

/-- The place above a place. -/
theorem hp_above (i : Nat) (w : World) (hi : (i : Int) ≤ 1000000) :
    Calls Try.prog 27 #[.int .i64 (i : Int)] w fun e w' => e = .returned (.int .i64 ((up i : Nat) : Int)) ∧ w = w' := by
  rcases Nat.eq_zero_or_pos i with rfl | h0
  · rw [show up 0 = 0 from rfl]
    go_enter Try.func27, Try.ntmps27
    go_wp2
    go_ret
    exact ⟨rfl, rfl⟩
  · have e : ((up i : Nat) : Int) = ((i : Int) - 1) / 2 := by unfold up; omega
    rw [e]
    have h1 : (1 : Int) ≤ (i : Int) := by omega
    clear e h0
    go_enter Try.func27, Try.ntmps27
    go_wp2
    go_ret
    exact ⟨rfl, rfl⟩
end Go.Proofs.Ytofnpmmbfcnlgaa
