/-
  Layer 17: small words: which call a function value enters; a text that is not empty.
-/
import Derived.Test.YtdnopjopdklelaaDoorRqMath
import Derived.Test.YtdnopjopdklelaaDoorStrRow
import Derived.WalkMore
import Derived.Shelf.Abstract
namespace Go.Proofs.YtdnopjopdklelaaDoor
set_option linter.unusedSimpArgs false
set_option linter.unusedVariables false
open Go.RowKit

theorem rq_enters {fn : FuncId} {f : Func} (hf : Tryd.prog.funcs[fn]? = some f) (h0 : (f.name == "runtime.NumGoroutine") = false) (h1 : f.body.isNone = false) (args : Array Value) (w : World) : (callFunc fn args).run Tryd.prog w = .ok (.enter fn args) w := by
  cases hb : f.body with
  | none => rw [hb] at h1; cases h1
  | some c => exact enters_of hf h0 hb args w


theorem empty_no {s : ByteArray} (h : 0 < s.size) : s.toList.isEmpty = false := by rw [is_empty, decide_eq_false (by omega)]
theorem toList_no {s : ByteArray} (h : 0 < s.size) : (s.toList == []) = false := by
  have := empty_no h
  cases e : s.toList with
  | nil => rw [e] at this; simp at this
  | cons a l => rfl
end Go.Proofs.YtdnopjopdklelaaDoor
