/-
  A struct of plain fields that came in by value.
-/
import Derived.Test.YtgibhdbhagcpoaaMem
import Derived.Test.YtgibhdbhagcpoaaRows
import Derived.Test.YtgibhdbhagcpoaaChecked
import Derived.Lib.SmallJoins
import Derived.ProofKit
import Derived.OpenShut
namespace Go.Proofs.Ytgibhdbhagcpoaa
set_option linter.unusedSimpArgs false
set_option linter.unusedVariables false
open Go.Joins Go.ChangeShapes Go.WideShapes Go.RowKit Go.Deep

set_option maxRecDepth 100000 in
theorem open_lk {H : Type} {enc : TypeId × Value → H} {w : World} {base : Nat} {sp : Nat → Bool} {held : Bool} {r : Reach} {b0 : Nat} {v : Value} {d : DataW H} {p : List MemPlace}
    (hv : Value.okWide Try.prog w r b0 23 v) (h : DataW.Trod enc Try.prog w base sp held 23 v d p) : ∃ (f0 : Int) (f1 : Int) (f2 : Int) (f3 : Bool) (f4 : Int) (f5 : Int) (f6 : Int) (f7 : Int) (f8 : Int), v = .agg #[.int .i64 f0, .int .i64 f1, .int .i64 f2, .bool f3, .int .i64 f4, .int .i64 f5, .int .i64 f6, .int .i64 f7, .int .i64 f8] ∧ (Lit.int .i64 f0).wf = true ∧ (Lit.int .i64 f1).wf = true ∧ (Lit.int .i64 f2).wf = true ∧ (Lit.int .i64 f4).wf = true ∧ (Lit.int .i64 f5).wf = true ∧ (Lit.int .i64 f6).wf = true ∧ (Lit.int .i64 f7).wf = true ∧ (Lit.int .i64 f8).wf = true := by
  have hC : Try.prog.cellsOf 23 = 9 := by kernel_rfl
  have q_bool : Try.prog.cellsOf 4 = 1 := by kernel_rfl
  have q_int : Try.prog.cellsOf 3 = 1 := by kernel_rfl
  obtain ⟨cs, rfl, hsz⟩ := okWide_struct Try.underlying23 hv
  obtain ⟨l⟩ := cs
  match l, hsz.trans hC with
  | [c0, c1, c2, c3, c4, c5, c6, c7, c8], _ =>
    obtain ⟨fuel, hf⟩ := h
    obtain ⟨xs, n, _, hx, _, hlen, hg⟩ := DataW.trod_struct Try.underlying23 hf
    match xs, hlen with
    | [y0, y1, y2, y3, y4, y5, y6, y7, y8], _ =>
      have t0 := hg 0 _ rfl
      simp only [q_bool, q_int, Value.cells] at t0
      simp at t0
      obtain ⟨f0, e0, _, l0⟩ := DataW.trod_int Try.underlying3 t0
      obtain rfl := (List.cons.inj e0).1
      have t1 := hg 1 _ rfl
      simp only [q_bool, q_int, Value.cells] at t1
      simp at t1
      obtain ⟨f1, e1, _, l1⟩ := DataW.trod_int Try.underlying3 t1
      obtain rfl := (List.cons.inj e1).1
      have t2 := hg 2 _ rfl
      simp only [q_bool, q_int, Value.cells] at t2
      simp at t2
      obtain ⟨f2, e2, _, l2⟩ := DataW.trod_int Try.underlying3 t2
      obtain rfl := (List.cons.inj e2).1
      have t3 := hg 3 _ rfl
      simp only [q_bool, q_int, Value.cells] at t3
      simp at t3
      obtain ⟨f3, e3, _⟩ := DataW.trod_bool Try.underlying4 t3
      obtain rfl := (List.cons.inj e3).1
      have t4 := hg 4 _ rfl
      simp only [q_bool, q_int, Value.cells] at t4
      simp at t4
      obtain ⟨f4, e4, _, l4⟩ := DataW.trod_int Try.underlying3 t4
      obtain rfl := (List.cons.inj e4).1
      have t5 := hg 5 _ rfl
      simp only [q_bool, q_int, Value.cells] at t5
      simp at t5
      obtain ⟨f5, e5, _, l5⟩ := DataW.trod_int Try.underlying3 t5
      obtain rfl := (List.cons.inj e5).1
      have t6 := hg 6 _ rfl
      simp only [q_bool, q_int, Value.cells] at t6
      simp at t6
      obtain ⟨f6, e6, _, l6⟩ := DataW.trod_int Try.underlying3 t6
      obtain rfl := (List.cons.inj e6).1
      have t7 := hg 7 _ rfl
      simp only [q_bool, q_int, Value.cells] at t7
      simp at t7
      obtain ⟨f7, e7, _, l7⟩ := DataW.trod_int Try.underlying3 t7
      obtain rfl := (List.cons.inj e7).1
      have t8 := hg 8 _ rfl
      simp only [q_bool, q_int, Value.cells] at t8
      simp at t8
      obtain ⟨f8, e8, _, l8⟩ := DataW.trod_int Try.underlying3 t8
      obtain rfl := (List.cons.inj e8).1
      exact ⟨f0, f1, f2, f3, f4, f5, f6, f7, f8, rfl, l0, l1, l2, l4, l5, l6, l7, l8⟩
end Go.Proofs.Ytgibhdbhagcpoaa
