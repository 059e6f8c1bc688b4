/-
  Values that came in: six cells.
-/
import Derived.Test.YtlcnenkfineddaaSsMath
import Derived.Lib.SmallJoins
import Derived.ProofKit
import Derived.OpenShut
namespace Go.Proofs.Ytlcnenkfineddaa
set_option linter.unusedSimpArgs false
set_option linter.unusedVariables false
open Go.Joins Go.ChangeShapes Go.WideShapes Go.RowKit Go.Deep

set_option maxRecDepth 100000 in
theorem open_vs {H : Type} {enc : TypeId × Value → H} {w : World} {base : Nat} {sp : Nat → Bool} {held : Bool} {r : Reach} {b0 : Nat} {v : Value} {d : DataW H} {p : List MemPlace}
    (hv : Value.okWide Try.prog w r b0 23 v) (h : DataW.Trod enc Try.prog w base sp held 23 v d p) : ∃ V : Vs, v = .agg V.cs := by
  have hC : Try.prog.cellsOf 23 = 6 := by kernel_rfl
  have q_int : Try.prog.cellsOf 3 = 1 := by kernel_rfl
  obtain ⟨cs, rfl, hsz⟩ := okWide_struct Try.underlying23 hv
  obtain ⟨l⟩ := cs
  match l, hsz.trans hC with
  | [c0, c1, c2, c3, c4, c5], _ =>
    obtain ⟨fuel, hf⟩ := h
    obtain ⟨xs, n, _, hx, _, hlen, hg⟩ := DataW.trod_struct Try.underlying23 hf
    match xs, hlen with
    | [y0, y1, y2, y3, y4, y5], _ =>
      have t0 := hg 0 _ rfl
      simp only [q_int, Value.cells] at t0
      simp at t0
      obtain ⟨f0, e0, _, l0⟩ := DataW.trod_int Try.underlying3 t0
      obtain rfl := (List.cons.inj e0).1
      have t1 := hg 1 _ rfl
      simp only [q_int, Value.cells] at t1
      simp at t1
      obtain ⟨f1, e1, _, l1⟩ := DataW.trod_int Try.underlying3 t1
      obtain rfl := (List.cons.inj e1).1
      have t2 := hg 2 _ rfl
      simp only [q_int, Value.cells] at t2
      simp at t2
      obtain ⟨f2, e2, _, l2⟩ := DataW.trod_int Try.underlying3 t2
      obtain rfl := (List.cons.inj e2).1
      have t3 := hg 3 _ rfl
      simp only [q_int, Value.cells] at t3
      simp at t3
      obtain ⟨f3, e3, _, l3⟩ := DataW.trod_int Try.underlying3 t3
      obtain rfl := (List.cons.inj e3).1
      have t4 := hg 4 _ rfl
      simp only [q_int, Value.cells] at t4
      simp at t4
      obtain ⟨f4, e4, _, l4⟩ := DataW.trod_int Try.underlying3 t4
      obtain rfl := (List.cons.inj e4).1
      have t5 := hg 5 _ rfl
      simp only [q_int, Value.cells] at t5
      simp at t5
      obtain ⟨f5, e5, _, l5⟩ := DataW.trod_int Try.underlying3 t5
      obtain rfl := (List.cons.inj e5).1
      exact ⟨⟨f0, f1, f2, f3, f4, f5⟩, rfl⟩

/-- A setting that came in by value. -/
theorem open_pr {H : Type} {enc : TypeId × Value → H} {w : World} {base : Nat} {sp : Nat → Bool} {held : Bool} {r : Reach} {b0 : Nat} {v : Value} {d : DataW H} {p : List MemPlace}
    (hv : Value.okWide Try.prog w r b0 47 v) (h : DataW.Trod enc Try.prog w base sp held 47 v d p) : ∃ q : Pr, v = .agg q.cs ∧ q.ok := by
  have hC : Try.prog.cellsOf 47 = 2 := by kernel_rfl
  have q_u16 : Try.prog.cellsOf 45 = 1 := by kernel_rfl
  have q_u32 : Try.prog.cellsOf 27 = 1 := by kernel_rfl
  obtain ⟨cs, rfl, hsz⟩ := okWide_struct Try.underlying47 hv
  obtain ⟨l⟩ := cs
  match l, hsz.trans hC with
  | [c0, c1], _ =>
    obtain ⟨fuel, hf⟩ := h
    obtain ⟨xs, n, _, hx, _, hlen, hg⟩ := DataW.trod_struct Try.underlying47 hf
    match xs, hlen with
    | [y0, y1], _ =>
      have t0 := hg 0 _ rfl
      simp only [q_u16, Value.cells] at t0
      simp at t0
      obtain ⟨f0, e0, _, l0⟩ := DataW.trod_int Try.underlying45 t0
      obtain rfl := (List.cons.inj e0).1
      have t1 := hg 1 _ rfl
      simp only [q_u32, Value.cells] at t1
      simp at t1
      obtain ⟨f1, e1, _, l1⟩ := DataW.trod_int Try.underlying27 t1
      obtain rfl := (List.cons.inj e1).1
      have k0 := bounds_u16 l0
      have k1 := bounds_u32 l1
      exact ⟨⟨f0, f1⟩, rfl, k0.1, k0.2, k1.1, k1.2⟩
end Go.Proofs.Ytlcnenkfineddaa
