/-
  Layer 17: isDigit.
-/
import Derived.Test.YtdnopjopdklelaaDoorRqMath
namespace Go.Proofs.YtdnopjopdklelaaDoor
set_option linter.unusedSimpArgs false
set_option linter.unusedVariables false
open Go.RowKit

theorem rq_isDigit (z : Int) (w : World) :
    Calls Tryd.prog 33 #[.int .u8 z] w fun e w' => e = .returned (.bool (digI z)) ∧ w = w' := by
  obtain ⟨C, hC⟩ : ∃ C, C = digI z := ⟨_, rfl⟩
  rw [← hC]
  have HC := hide hC
  clear hC
  by_cases h : 48 ≤ z
  · by_cases h2 : z ≤ 57
    · go_enter Tryd.func33, Tryd.ntmps33
      go_wp2
      go_ret
      exact ⟨by rw [HC.out, digI_yes h h2]; rfl, rfl⟩
    · go_enter Tryd.func33, Tryd.ntmps33
      go_wp2
      go_ret
      exact ⟨by rw [HC.out, digI_hi (by omega)]; rfl, rfl⟩
  · go_enter Tryd.func33, Tryd.ntmps33
    go_wp2
    go_ret
    exact ⟨by rw [HC.out, digI_lo (by omega)]; rfl, rfl⟩
end Go.Proofs.YtdnopjopdklelaaDoor
