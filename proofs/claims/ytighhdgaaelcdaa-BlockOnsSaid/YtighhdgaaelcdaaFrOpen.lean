/-
  A frame that came in by value: its twelve cells read as a frame's fields.
-/
import Derived.Test.YtighhdgaaelcdaaFrMem
import Derived.Test.YtighhdgaaelcdaaPrMem
import Derived.Lib.SmallJoins
import Derived.ProofKit
import Derived.OpenShut
namespace Go.Proofs.Ytighhdgaaelcdaa
set_option linter.unusedSimpArgs false
set_option linter.unusedVariables false
open Go.Joins Go.ChangeShapes Go.WideShapes Go.RowKit Go.Deep

/-- What a frame that came in keeps to. -/
structure FrOk (F : Fr) : Prop where
  ty : (Lit.int .u8 F.ty).wf = true
  fl : (Lit.int .u8 F.fl).wf = true
  st : (Lit.int .i64 F.st).wf = true
  pad : (Lit.int .i64 F.pad).wf = true
  dep : (Lit.int .i64 F.dep).wf = true
  wt : (Lit.int .u8 F.wt).wf = true
  code : (Lit.int .u32 F.code).wf = true
  last : (Lit.int .i64 F.last).wf = true
  inc : (Lit.int .i64 F.inc).wf = true
  data : F.data.size ≤ maxLen

set_option maxRecDepth 100000 in
theorem open_frame {H : Type} {enc : TypeId × Value → H} {w : World} {base : Nat} {sp : Nat → Bool} {held : Bool} {r : Reach} {b0 : Nat} {v : Value} {d : DataW H} {p : List MemPlace}
    (hv : Value.okWide Try.prog w r b0 27 v) (h : DataW.Trod enc Try.prog w base sp held 27 v d p) :
    ∃ F A n c l, v = .agg (F.cs A n c) ∧ PL w A n c l ∧ AllP l ∧ FrOk F := by
  have hC : Try.prog.cellsOf 27 = 12 := by kernel_rfl
  have q_uint8 : Try.prog.cellsOf 5 = 1 := by kernel_rfl
  have q_int : Try.prog.cellsOf 3 = 1 := by kernel_rfl
  have q_string : Try.prog.cellsOf 9 = 1 := by kernel_rfl
  have q_bool : Try.prog.cellsOf 4 = 1 := by kernel_rfl
  have q_uint32 : Try.prog.cellsOf 24 = 1 := by kernel_rfl
  have q_PPair : Try.prog.cellsOf 25 = 1 := by kernel_rfl
  obtain ⟨cs, rfl, hsz⟩ := okWide_struct Try.underlying27 hv
  obtain ⟨l⟩ := cs
  match l, hsz.trans hC with
  | [c0, c1, c2, c3, c4, c5, c6, c7, c8, c9, c10, c11], _ =>
    obtain ⟨fuel, hf⟩ := h
    obtain ⟨xs, n, _, hx, _, hlen, hg⟩ := DataW.trod_struct Try.underlying27 hf
    match xs, hlen with
    | [y0, y1, y2, y3, y4, y5, y6, y7, y8, y9, y10, y11], _ =>
      have t0 := hg 0 _ rfl
      simp only [q_uint8, Value.cells] at t0
      simp at t0
      have t1 := hg 1 _ rfl
      simp only [q_uint8, Value.cells] at t1
      simp at t1
      have t2 := hg 2 _ rfl
      simp only [q_int, Value.cells] at t2
      simp at t2
      have t3 := hg 3 _ rfl
      simp only [q_string, Value.cells] at t3
      simp at t3
      have t4 := hg 4 _ rfl
      simp only [q_int, Value.cells] at t4
      simp at t4
      have t5 := hg 5 _ rfl
      simp only [q_int, Value.cells] at t5
      simp at t5
      have t6 := hg 6 _ rfl
      simp only [q_bool, Value.cells] at t6
      simp at t6
      have t7 := hg 7 _ rfl
      simp only [q_uint8, Value.cells] at t7
      simp at t7
      have t8 := hg 8 _ rfl
      simp only [q_uint32, Value.cells] at t8
      simp at t8
      have t9 := hg 9 _ rfl
      simp only [q_int, Value.cells] at t9
      simp at t9
      have t10 := hg 10 _ rfl
      simp only [q_int, Value.cells] at t10
      simp at t10
      have t11 := hg 11 _ rfl
      simp only [q_PPair, Value.cells] at t11
      simp at t11
      obtain ⟨f0, e0, _, l0⟩ := DataW.trod_int Try.underlying5 t0
      obtain rfl := (List.cons.inj e0).1
      obtain ⟨f1, e1, _, l1⟩ := DataW.trod_int Try.underlying5 t1
      obtain rfl := (List.cons.inj e1).1
      obtain ⟨f2, e2, _, l2⟩ := DataW.trod_int Try.underlying3 t2
      obtain rfl := (List.cons.inj e2).1
      obtain ⟨f3, e3, _, l3⟩ := DataW.trod_string Try.underlying9 t3
      obtain rfl := (List.cons.inj e3).1
      obtain ⟨f4, e4, _, l4⟩ := DataW.trod_int Try.underlying3 t4
      obtain rfl := (List.cons.inj e4).1
      obtain ⟨f5, e5, _, l5⟩ := DataW.trod_int Try.underlying3 t5
      obtain rfl := (List.cons.inj e5).1
      obtain ⟨f6, e6, _⟩ := DataW.trod_bool Try.underlying4 t6
      obtain rfl := (List.cons.inj e6).1
      obtain ⟨f7, e7, _, l7⟩ := DataW.trod_int Try.underlying5 t7
      obtain rfl := (List.cons.inj e7).1
      obtain ⟨f8, e8, _, l8⟩ := DataW.trod_int Try.underlying24 t8
      obtain rfl := (List.cons.inj e8).1
      obtain ⟨f9, e9, _, l9⟩ := DataW.trod_int Try.underlying3 t9
      obtain rfl := (List.cons.inj e9).1
      obtain ⟨f10, e10, _, l10⟩ := DataW.trod_int Try.underlying3 t10
      obtain rfl := (List.cons.inj e10).1
      obtain ⟨A, m, c, l, rfl, hp, ha⟩ := open_pl t11
      exact ⟨⟨f0, f1, f2, f3, f4, f5, f6, f7, f8, f9, f10⟩, A, m, c, l, rfl, hp, ha, ⟨l0, l1, l2, l4, l5, l7, l8, l9, l10, l3⟩⟩
end Go.Proofs.Ytighhdgaaelcdaa
