/-
  Layer 17: a request that came in by value: six cells.
-/
import Derived.Test.YtlbhnbloanamfaaDoorRqList
import Derived.Lib.SmallJoins
import Derived.ProofKit
import Derived.OpenShut
namespace Go.Proofs.YtlbhnbloanamfaaDoor
set_option linter.unusedSimpArgs false
set_option linter.unusedVariables false
open Go.Joins Go.ChangeShapes Go.WideShapes Go.RowKit Go.Deep

set_option maxRecDepth 100000 in
theorem open_rq {H : Type} {enc : TypeId × Value → H} {w : World} {base : Nat} {sp : Nat → Bool} {held : Bool} {r : Reach} {b0 : Nat} {v : Value} {d : DataW H} {p : List MemPlace}
    (hv : Value.okWide Tryd.prog w r b0 29 v) (h : DataW.Trod enc Tryd.prog w base sp held 29 v d p) : ∃ q : Rq, v = .agg q.cs ∧ (-9223372036854775808 ≤ q.n ∧ q.n ≤ 9223372036854775807) ∧ (-9223372036854775808 ≤ q.r ∧ q.r ≤ 9223372036854775807) := by
  have hC : Tryd.prog.cellsOf 29 = 6 := by kernel_rfl
  have q_int : Tryd.prog.cellsOf 3 = 1 := by kernel_rfl
  have q_string : Tryd.prog.cellsOf 9 = 1 := by kernel_rfl
  obtain ⟨cs, rfl, hsz⟩ := okWide_struct Tryd.underlying29 hv
  obtain ⟨l⟩ := cs
  match l, hsz.trans hC with
  | [c0, c1, c2, c3, c4, c5], _ =>
    obtain ⟨fuel, hf⟩ := h
    obtain ⟨xs, n, _, hx, _, hlen, hg⟩ := DataW.trod_struct Tryd.underlying29 hf
    match xs, hlen with
    | [y0, y1, y2, y3, y4, y5], _ =>
      have t0 := hg 0 _ rfl
      simp only [q_int, q_string, Value.cells] at t0
      simp at t0
      obtain ⟨f0, e0, _, l0⟩ := DataW.trod_string Tryd.underlying9 t0
      obtain rfl := (List.cons.inj e0).1
      have t1 := hg 1 _ rfl
      simp only [q_int, q_string, Value.cells] at t1
      simp at t1
      obtain ⟨f1, e1, _, l1⟩ := DataW.trod_string Tryd.underlying9 t1
      obtain rfl := (List.cons.inj e1).1
      have t2 := hg 2 _ rfl
      simp only [q_int, q_string, Value.cells] at t2
      simp at t2
      obtain ⟨f2, e2, _, l2⟩ := DataW.trod_string Tryd.underlying9 t2
      obtain rfl := (List.cons.inj e2).1
      have t3 := hg 3 _ rfl
      simp only [q_int, q_string, Value.cells] at t3
      simp at t3
      obtain ⟨f3, e3, _, l3⟩ := DataW.trod_string Tryd.underlying9 t3
      obtain rfl := (List.cons.inj e3).1
      have t4 := hg 4 _ rfl
      simp only [q_int, q_string, Value.cells] at t4
      simp at t4
      obtain ⟨f4, e4, _, l4⟩ := DataW.trod_int Tryd.underlying3 t4
      obtain rfl := (List.cons.inj e4).1
      have t5 := hg 5 _ rfl
      simp only [q_int, q_string, Value.cells] at t5
      simp at t5
      obtain ⟨f5, e5, _, l5⟩ := DataW.trod_int Tryd.underlying3 t5
      obtain rfl := (List.cons.inj e5).1
      exact ⟨⟨f0, f1, f2, f3, f4, f5⟩, rfl, bounds_i64 l4, bounds_i64 l5⟩
end Go.Proofs.YtlbhnbloanamfaaDoor
