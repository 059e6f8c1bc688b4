/-
  Layer 17: what awake asks, reckoned.
-/
import Derived.Test.YtlbhnbloanamfaaDoorRqShow
namespace Go.Proofs.YtlbhnbloanamfaaDoor
set_option linter.unusedSimpArgs false
set_option linter.unusedVariables false
open Go.RowKit

def awL : List Fd := [⟨nM, ⟨#[71, 69, 84]⟩, false⟩, ⟨nS, bHttps, false⟩, ⟨nP, bSlash, false⟩, ⟨nHost, ⟨#[97]⟩, false⟩, ⟨nPrio, ⟨#[117, 61, 49, 44, 32, 105]⟩, false⟩]
def awQ : Rq := ⟨⟨#[71, 69, 84]⟩, bHttps, bSlash, ⟨#[97]⟩, -1, 1⟩
def awX : Fd := ⟨⟨#[88]⟩, ⟨#[121]⟩, false⟩
theorem aw_read : readR awL true = some awQ := by decide +kernel
theorem aw_twice : readR (awL ++ [⟨nM, ⟨#[71, 69, 84]⟩, false⟩]) true = none := by decide +kernel
theorem aw_up : readR (awL ++ [awX]) true = none := by decide +kernel
theorem aw_none : readR (awL.drop 1) true = none := by decide +kernel
theorem aw_num : numI ⟨#[49, 50, 48]⟩ = 120 ∧ numB ⟨#[49, 50, 48]⟩ = true := by decide +kernel
theorem aw_num0 : numB ⟨#[48, 49, 50]⟩ = false := by decide +kernel
theorem aw_tok : tokB ⟨#[120, 45, 97]⟩ = true := by decide +kernel
theorem aw_tokX : tokB ⟨#[88]⟩ = false := by decide +kernel
theorem aw_rank : rankI ⟨#[117, 61, 53]⟩ = 5 := by decide +kernel
theorem aw_rank8 : rankI ⟨#[117, 61, 56]⟩ = 3 := by decide +kernel
theorem aw_trail : trailB (awL.drop 3) = true := by decide +kernel
theorem aw_trail1 : trailB (awL.take 1) = false := by decide +kernel
theorem aw_len : (fieldsL awQ).length = 5 := by decide +kernel
theorem aw_mod : Mod (awL ++ [awX]) ∧ Mod (awL ++ [⟨nM, ⟨#[71, 69, 84]⟩, false⟩]) ∧ Mod awL := by
  unfold Mod
  decide +kernel
end Go.Proofs.YtlbhnbloanamfaaDoor
