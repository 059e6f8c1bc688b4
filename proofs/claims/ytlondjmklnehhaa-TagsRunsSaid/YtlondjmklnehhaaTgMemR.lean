/-
  Layer 25: the document's tags in memory; a slice of them that came in.
-/
import Derived.Test.YtlondjmklnehhaaTgMem
namespace Go.Proofs.Ytlondjmklnehhaa
set_option linter.unusedSimpArgs false
set_option linter.unusedVariables false
open Go.RowKit

theorem isTr : IsS Try.prog tgF 44 23 := ⟨Try.underlying44, by kernel_rfl, .agg #[.int .i64 0, .int .i64 0, .int .i64 0, .int .i64 0], 32, by kernel_rfl, rfl, by decide⟩

set_option maxRecDepth 100000 in
open Go.ChangeShapes Go.WideShapes Go.Deep in
/-- A slice of tags that came in reads as a list of tags. -/
theorem open_tl {H : Type} {enc : TypeId × Value → H} {w : World} {base : Nat} {sp : Nat → Bool} {held : Bool} {fuel : Nat} {v : Value} {x : DataW H × List MemPlace}
    (h : DataW.trod enc Try.prog w base sp held fuel 44 [v] = some x) : ∃ A n c l, v = .slice A n c ∧ SL tgF w A n c l := by
  have hC : Try.prog.cellsOf 23 = 4 := by kernel_rfl
  obtain ⟨A, n, c, l, h1, h2, _⟩ := open_sl (F := tgF) (G := fun _ => True) Try.underlying44 hC (by
    intro fuel cs x hl ht
    obtain ⟨ys, n', _, _, _, hyl, hf⟩ := DataW.trod_struct Try.underlying23 ht
    match cs, hl with
    | [c0, c1, c2, c3], _ =>
      match ys, hyl with
      | [y0, y1, y2, y3], _ =>
        have g0 := hf 0 _ rfl
        have g1 := hf 1 _ rfl
        have g2 := hf 2 _ rfl
        have g3 := hf 3 _ rfl
        obtain ⟨s0, e0, _, b0⟩ := DataW.trod_int (P := Try.prog) Try.underlying3 g0
        obtain ⟨s1, e1, _, b1⟩ := DataW.trod_int (P := Try.prog) Try.underlying3 g1
        obtain ⟨s2, e2, _, b2⟩ := DataW.trod_int (P := Try.prog) Try.underlying3 g2
        obtain ⟨s3, e3, _, b3⟩ := DataW.trod_int (P := Try.prog) Try.underlying3 g3
        have r0 : c0 = .int .i64 s0 := (List.cons.inj e0).1
        have r1 : c1 = .int .i64 s1 := (List.cons.inj e1).1
        have r2 : c2 = .int .i64 s2 := (List.cons.inj e2).1
        have r3 : c3 = .int .i64 s3 := (List.cons.inj e3).1
        subst r0 r1 r2 r3
        exact ⟨⟨s0, s1, s2, s3⟩, rfl, trivial⟩) h
  exact ⟨A, n, c, l, h1, h2⟩
end Go.Proofs.Ytlondjmklnehhaa
