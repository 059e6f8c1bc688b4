/-
  Guarded operations without parting ways: what an operation under a guard leaves is a value that depends on the guard.
-/
import Derived.Test.YtlondjmklnehhaaKit
import Derived.BigGuardPart
namespace Go.Proofs.Ytlondjmklnehhaa
set_option linter.unusedSimpArgs false
set_option linter.unusedVariables false
open Go.RowKit

/-- What stands in a slot whose operation is carried out only if b. -/
def lz (b : Bool) (v : Value) : Value := bif b then v else undef
theorem lz_true (v : Value) : lz true v = v := rfl

theorem beqN (a b : Nat) : (a == b) = decide (a = b) := by by_cases h : a = b <;> simp [h]
section
variable {P : Program} {ops : Array Oper} {rest : List Oper} {o : Oper} {a : Act} {w : World} {Q : Exit → Act → World → Prop}
theorem wpList_lz (c : Bool) (v : Value) (hw : Region.wanted o (yielded ops a.tmps) = c) (hv : c = true → (execOp a.eval o).run P w = .ok (.value v) w)
    (h : wpList P ops Q rest (a.put o.dst (lz c v)) w) : wpList P ops Q (o :: rest) a w := by
  refine wpList_step fun K hK => ?_
  rw [hw]
  cases c with
  | false => exact hK _ _ h
  | true =>
    rw [if_pos rfl]
    unfold Oper.wp
    rw [hv rfl]
    exact hK _ _ h
theorem run_pick_lz (s x y : Operand) (ho : o.op = .pick s x y) (b : Bool) (hs : a.eval s = .bool b) (v : Value) (hv : (if b then a.eval x else a.eval y) = v) : (execOp a.eval o).run P w = .ok (.value v) w := by
  subst hv
  unfold execOp
  simp only [ho, hs]
  rfl
/-- An operation without a guard that only reads. -/
theorem wpList_rd (v : Value) (hg : o.guard = none) (hv : (execOp a.eval o).run P w = .ok (.value v) w)
    (h : wpList P ops Q rest (a.put o.dst v) w) : wpList P ops Q (o :: rest) a w := by
  refine wpList_plain hg fun K hK => ?_
  unfold Oper.wp
  rw [hv]
  exact hK _ _ h
theorem wpList_rdo (op : Op) (ho : o.op = op) (v : Value) (hg : o.guard = none) (hv : (execOp a.eval o).run P w = .ok (.value v) w)
    (h : wpList P ops Q rest (a.put o.dst v) w) : wpList P ops Q (o :: rest) a w := wpList_rd v hg hv h
theorem yields_at {tmps : Array Value} {j d : Nat} {oj : Oper} (hj : ops[j]? = some oj) (hd : oj.dst = some d) {v : Value} (ht : tmps[d]? = some v) :
    yielded ops tmps j = match v with | .bool b => some b | _ => none := by
  simp only [yielded, hj, Option.bind_some, hd, ht]
  cases v <;> rfl
theorem wanted_bool {tmps : Array Value} {j d : Nat} {want : Bool} {oj : Oper} (hg : o.guard = some (j, want)) (hj : ops[j]? = some oj) (hd : oj.dst = some d) {x c : Bool} (ht : tmps[d]? = some (.bool x)) (hc : (x == want) = c) :
    Region.wanted o (yielded ops tmps) = c := by
  subst hc
  simp only [Region.wanted, hg, yields_at hj hd ht]
  cases x <;> cases want <;> rfl
theorem wanted_lz {tmps : Array Value} {j d : Nat} {want : Bool} {oj : Oper} (hg : o.guard = some (j, want)) (hj : ops[j]? = some oj) (hd : oj.dst = some d) {b x c : Bool} (ht : tmps[d]? = some (lz b (.bool x))) (hc : (b && (x == want)) = c) :
    Region.wanted o (yielded ops tmps) = c := by
  subst hc
  simp only [Region.wanted, hg, yields_at hj hd ht]
  cases b <;> cases x <;> cases want <;> rfl
end
end Go.Proofs.Ytlondjmklnehhaa
