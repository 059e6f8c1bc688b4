/-
  Layer 18: what awake asks, reckoned.
-/
import Derived.Test.YtdnopjopdklelaaDoorRnFields
import Derived.Test.YtdnopjopdklelaaDoorRmBody
namespace Go.Proofs.YtdnopjopdklelaaDoor
set_option linter.unusedSimpArgs false
set_option linter.unusedVariables false
open Go.RowKit

def aw503 : ByteArray := ⟨#[53, 48, 51]⟩
def awL : List Fd := [⟨nStat, aw503, false⟩, ⟨nLen, ⟨#[48]⟩, false⟩, ⟨nRetry, ⟨#[50]⟩, false⟩]
theorem aw_digits : itoaB 503 = aw503 ∧ itoaB 0 = ⟨#[48]⟩ ∧ itoaB 2 = ⟨#[50]⟩ := by
  refine ⟨?_, ?_, ?_⟩ <;> decide +kernel
theorem aw_ok : okP ⟨503, 0, 2⟩ = true := by decide
theorem aw_flds : fldsP ⟨503, 0, 2⟩ = awL := by
  rw [fldsP_yes aw_ok]
  unfold fieldsP
  rw [aw_digits.1, aw_digits.2.1, aw_digits.2.2]
  rfl
theorem aw_read : readP awL = some ⟨503, 0, 2⟩ := by rw [← aw_flds, fldsP_yes aw_ok]; exact fields_back aw_ok
theorem aw_not : okP ⟨99, 0, 0⟩ = false := by decide
theorem aw_none : fldsP ⟨99, 0, 0⟩ = [] := fldsP_no aw_not
theorem aw_mod : Mod awL := by
  unfold Mod
  decide +kernel
theorem aw_zab : strOfNums (bodyL 25 3) = ⟨#[122, 97, 98]⟩ := by decide +kernel
theorem aw_bc : wholeP [98, 99] 27 = true := by decide +kernel
theorem aw_bd : wholeP [98, 100] 27 = false := by decide +kernel
theorem aw_wait : waitI 11 10 = 2 ∧ waitI 0 10 = 0 := by decide
end Go.Proofs.YtdnopjopdklelaaDoor
