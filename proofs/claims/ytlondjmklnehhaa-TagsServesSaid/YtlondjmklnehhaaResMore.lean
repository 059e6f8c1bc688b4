/-
  Results that lie in slots and in memory, one behind the other: any program.
-/
import Derived.Test.YtlondjmklnehhaaMem
import Derived.Test.YtlondjmklnehhaaOps
namespace Go.Proofs.Ytlondjmklnehhaa
set_option linter.unusedSimpArgs false
set_option linter.unusedVariables false
open Go.RowKit

/-- Results: a slot, and a struct in memory. -/
theorem results_tmp_cell_blk {P : Program} {fn : Func} {p u : Tmp} {ty : TypeId} (h : fn.results = #[.tmp u, .cell p ty]) (tmps : Array Value) (w : World) (g : Nat) (t : TypeId) (cs : Array Value) (d : TypeDesc)
    (hp : tmps.getD p undef = .pointer (some ⟨g, 0, none⟩)) (hg : BlkIs w g t cs)
    (hu : P.underlying ty = some d) (hd : (match d with | .struct _ | .array _ _ => true | _ => false) = true) (hi : (P.info? ty).map (·.size) = some cs.size) (v : Value) (hv : tmps.getD u undef = v) :
    (results fn tmps).run P w = .ok (.tuple #[v, .agg cs]) w := by
  simp only [results, h]
  simp only [Array.getD_eq_getD_getElem?] at hp hv
  simp [Sem.run_bind, Result.andThen, hp, hv, asAddr, run_loadVar_row w g t ty cs (0, 0) d hg hu hd hi]
/-- And a slot behind it. -/
theorem results_tmp_cell_tmp_blk {P : Program} {fn : Func} {p u q : Tmp} {ty : TypeId} (h : fn.results = #[.tmp u, .cell p ty, .tmp q]) (tmps : Array Value) (w : World) (g : Nat) (t : TypeId) (cs : Array Value) (d : TypeDesc)
    (hp : tmps.getD p undef = .pointer (some ⟨g, 0, none⟩)) (hg : BlkIs w g t cs)
    (hu : P.underlying ty = some d) (hd : (match d with | .struct _ | .array _ _ => true | _ => false) = true) (hi : (P.info? ty).map (·.size) = some cs.size) (v : Value) (hv : tmps.getD u undef = v) (x : Value) (hx : tmps.getD q undef = x) :
    (results fn tmps).run P w = .ok (.tuple #[v, .agg cs, x]) w := by
  simp only [results, h]
  simp only [Array.getD_eq_getD_getElem?] at hp hv hx
  simp [Sem.run_bind, Result.andThen, hp, hv, hx, asAddr, run_loadVar_row w g t ty cs (0, 0) d hg hu hd hi]
/-- Kept but for one block that the call made. -/
theorem kb_below_of {g g' : Nat} {a w w' : World} (h : Below g a w) (hg : g ≤ g') (hgw : g ≤ w.heap.size) (hk : KB (· = g') w w') : Below g a w' :=
  ⟨hk.os.trans h.os, hk.tape.trans h.tape, hk.output.trans h.output, Nat.le_trans h.size hk.size, fun i hi => (hk.block i (by omega) (by omega)).trans (h.block i hi)⟩
end Go.Proofs.Ytlondjmklnehhaa
