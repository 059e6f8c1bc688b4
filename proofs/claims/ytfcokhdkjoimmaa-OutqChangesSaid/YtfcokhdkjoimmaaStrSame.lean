/-
  Whether two texts are one, in the walk's words.
-/
import Derived.Test.YtfcokhdkjoimmaaKit
import Derived.WideShapes
import Derived.ChangeKeysEq
namespace Go.Proofs.Ytfcokhdkjoimmaa
set_option linter.unusedSimpArgs false
set_option linter.unusedVariables false
open Go.RowKit

theorem str_same {a b : ByteArray} (h : a = b) : (a.toList == b.toList) = true := by subst h; simp
theorem str_not {a b : ByteArray} (h : a ≠ b) : (a.toList == b.toList) = false := by
  rw [beq_eq_false_iff_ne]
  intro e
  rw [ByteArray.toList_eq, ByteArray.toList_eq] at e
  exact h (Go.WideShapes.bytes_inj e)
/-- And one of them a constant. -/
theorem lit_eq (a : ByteArray) (l : List UInt8) : (a.toList == l) = decide (a = ⟨l.toArray⟩) := by
  by_cases h : a = ⟨l.toArray⟩
  · rw [decide_eq_true h, h, ByteArray.toList_eq]
    simp
  · rw [decide_eq_false h, beq_eq_false_iff_ne]
    intro e
    apply h
    rw [← e, ByteArray.toList_eq]
theorem lit_same {a : ByteArray} {l : List UInt8} (h : a = ⟨l.toArray⟩) : (a.toList == l) = true := by rw [lit_eq, decide_eq_true h]
theorem lit_not {a : ByteArray} {l : List UInt8} (h : a ≠ ⟨l.toArray⟩) : (a.toList == l) = false := by rw [lit_eq, decide_eq_false h]
end Go.Proofs.Ytfcokhdkjoimmaa
