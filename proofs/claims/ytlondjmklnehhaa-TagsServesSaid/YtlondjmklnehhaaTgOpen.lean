/-
  A struct of plain fields that came in by value.
-/
import Derived.Test.YtlondjmklnehhaaMem
import Derived.Test.YtlondjmklnehhaaRows
import Derived.Test.YtlondjmklnehhaaChecked
import Derived.Lib.SmallJoins
import Derived.ProofKit
import Derived.OpenShut
namespace Go.Proofs.Ytlondjmklnehhaa
set_option linter.unusedSimpArgs false
set_option linter.unusedVariables false
open Go.Joins Go.ChangeShapes Go.WideShapes Go.RowKit Go.Deep

set_option maxRecDepth 100000 in
theorem open_tg {H : Type} {enc : TypeId × Value → H} {w : World} {base : Nat} {sp : Nat → Bool} {held : Bool} {r : Reach} {b0 : Nat} {v : Value} {d : DataW H} {p : List MemPlace}
    (hv : Value.okWide Try.prog w r b0 23 v) (h : DataW.Trod enc Try.prog w base sp held 23 v d p) : ∃ (f0 : Int) (f1 : Int) (f2 : Int) (f3 : Int), v = .agg #[.int .i64 f0, .int .i64 f1, .int .i64 f2, .int .i64 f3] ∧ (Lit.int .i64 f0).wf = true ∧ (Lit.int .i64 f1).wf = true ∧ (Lit.int .i64 f2).wf = true ∧ (Lit.int .i64 f3).wf = true := by
  have hC : Try.prog.cellsOf 23 = 4 := by kernel_rfl
  have q_int : Try.prog.cellsOf 3 = 1 := by kernel_rfl
  obtain ⟨cs, rfl, hsz⟩ := okWide_struct Try.underlying23 hv
  obtain ⟨l⟩ := cs
  match l, hsz.trans hC with
  | [c0, c1, c2, c3], _ =>
    obtain ⟨fuel, hf⟩ := h
    obtain ⟨xs, n, _, hx, _, hlen, hg⟩ := DataW.trod_struct Try.underlying23 hf
    match xs, hlen with
    | [y0, y1, y2, y3], _ =>
      have t0 := hg 0 _ rfl
      simp only [q_int, Value.cells] at t0
      simp at t0
      obtain ⟨f0, e0, _, l0⟩ := DataW.trod_int Try.underlying3 t0
      obtain rfl := (List.cons.inj e0).1
      have t1 := hg 1 _ rfl
      simp only [q_int, Value.cells] at t1
      simp at t1
      obtain ⟨f1, e1, _, l1⟩ := DataW.trod_int Try.underlying3 t1
      obtain rfl := (List.cons.inj e1).1
      have t2 := hg 2 _ rfl
      simp only [q_int, Value.cells] at t2
      simp at t2
      obtain ⟨f2, e2, _, l2⟩ := DataW.trod_int Try.underlying3 t2
      obtain rfl := (List.cons.inj e2).1
      have t3 := hg 3 _ rfl
      simp only [q_int, Value.cells] at t3
      simp at t3
      obtain ⟨f3, e3, _, l3⟩ := DataW.trod_int Try.underlying3 t3
      obtain rfl := (List.cons.inj e3).1
      exact ⟨f0, f1, f2, f3, rfl, l0, l1, l2, l3⟩
end Go.Proofs.Ytlondjmklnehhaa
