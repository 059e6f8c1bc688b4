/-
  Guarded calls, and guarded loads of whole variables, without parting ways.
-/
import Derived.Test.YtefdhbljcnpggaaFrAwake
namespace Go.Proofs.Ytefdhbljcnpggaa
open Go.RowKit

section
variable {P : Program} {ops : Array Oper} {rest : List Oper} {o : Oper} {a : Act} {w : World} {Q : Exit → Act → World → Prop}
theorem run_load_blk (ty : TypeId) (x : Operand) (ho : o.op = .load ty x) (g : Nat) (hx : a.eval x = .pointer (some ⟨g, 0, none⟩)) (t : TypeId) (cs : Array Value) (d : TypeDesc) (hg : BlkIs w g t cs)
    (hu : P.underlying ty = some d) (hd : (match d with | .struct _ | .array _ _ => true | _ => false) = true) (hi : (P.info? ty).map (·.size) = some cs.size) :
    (execOp a.eval o).run P w = .ok (.value (.agg cs)) w := by
  unfold execOp
  simp only [ho, hx, Instr.loadAt, Instr.sureAddr, Sem.run_bind, Sem.run_pure, Result.andThen_ok, run_loadVar_row w g t ty cs (0, 0) d hg hu hd hi]
theorem wpList_lzcall (c b : Bool) (f : FuncId) (args : Array Value) (hw : Region.wanted o (yielded ops a.tmps) = c) (he : c = true → (execOp a.eval o).run P w = .ok (.enter f args) w)
    (hc : c = true → Calls P f args w fun e w' => e = .returned (.bool b) ∧ Below w.heap.size w w')
    (h : ∀ w', Below w.heap.size w w' → wpList P ops Q rest (a.put o.dst (lz c (.bool b))) w') : wpList P ops Q (o :: rest) a w := by
  refine wpList_step fun K hK => ?_
  rw [hw]
  cases c with
  | false => exact hK _ _ (h w (Below.refl _ _))
  | true =>
    rw [if_pos rfl]
    unfold Oper.wp
    rw [he rfl, Oper.upon_enter]
    refine (hc rfl).mono ?_
    rintro e w' ⟨rfl, hb⟩
    exact hK _ _ (h w' hb)
theorem wpList_rdcall (b : Bool) (f : FuncId) (args : Array Value) (hg : o.guard = none) (he : (execOp a.eval o).run P w = .ok (.enter f args) w)
    (hc : Calls P f args w fun e w' => e = .returned (.bool b) ∧ Below w.heap.size w w')
    (h : ∀ w', Below w.heap.size w w' → wpList P ops Q rest (a.put o.dst (.bool b)) w') : wpList P ops Q (o :: rest) a w := by
  refine wpList_plain hg fun K hK => ?_
  unfold Oper.wp
  rw [he, Oper.upon_enter]
  refine hc.mono ?_
  rintro e w' ⟨rfl, hb⟩
  exact hK _ _ (h w' hb)
end
end Go.Proofs.Ytefdhbljcnpggaa
