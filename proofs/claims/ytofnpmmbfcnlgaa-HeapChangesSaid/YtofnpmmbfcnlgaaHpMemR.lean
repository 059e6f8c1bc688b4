/-
  Layer 24: the document's items in memory; a slice of them that came in.
-/
import Derived.Test.YtofnpmmbfcnlgaaHpMem
import Derived.Deep.Slices
import Derived.Deep.Fields
import Derived.ChangeSlices
namespace Go.Proofs.Ytofnpmmbfcnlgaa
set_option linter.unusedSimpArgs false
set_option linter.unusedVariables false
open Go.RowKit

theorem isR : IsIt 22 24 := ⟨Try.underlying22, by kernel_rfl, by kernel_rfl⟩

set_option maxRecDepth 100000 in
open Go.ChangeShapes Go.WideShapes Go.Deep in
/-- A slice of items that came in reads as a list of items. -/
theorem open_il {H : Type} {enc : TypeId × Value → H} {w : World} {base : Nat} {sp : Nat → Bool} {held : Bool} {fuel : Nat} {v : Value} {x : DataW H × List MemPlace}
    (h : DataW.trod enc Try.prog w base sp held fuel 22 [v] = some x) : ∃ A n c l, v = .slice A n c ∧ IL w A n c l := by
  have hC : Try.prog.cellsOf 24 = 2 := by kernel_rfl
  rcases open_slice Try.underlying22 h with ⟨hv, _⟩ | ⟨a, len, cap, m, fu, D, Pl, hv, hb, hl, hm, hmm, hx, hi⟩
  · simp only [List.cons.injEq, and_true] at hv
    exact ⟨none, 0, 0, [], hv, IL.none_ w⟩
  · simp only [List.cons.injEq, and_true] at hv
    have hlm : len ≤ m := by rw [hmm]; split <;> omega
    have key : ∀ i, i < len → ∃ f : It, w.cell? (a.add (i * 2)) = some (.int .i64 f.k) ∧ w.cell? ((a.add (i * 2)).add 1) = some (.int .i64 f.d) := by
      intro i hlt
      obtain ⟨cs', hc, ht'⟩ := hi i (by omega)
      rw [hC] at hc
      obtain ⟨_, hcl, hat⟩ := World.cells?_some hc
      obtain ⟨ys, n', _, _, _, hyl, hf⟩ := DataW.trod_struct Try.underlying24 ht'
      match cs', hcl with
      | [c0, c1], _ =>
        have q0 := hat 0 (by omega)
        have q1 := hat 1 (by omega)
        have g0 := hf 0 _ rfl
        have g1 := hf 1 _ rfl
        have y0 : ys[0]? = some (ys[0]'(by rw [hyl]; decide)) := List.getElem?_eq_getElem _
        have y1 : ys[1]? = some (ys[1]'(by rw [hyl]; decide)) := List.getElem?_eq_getElem _
        obtain ⟨s0, e0, _, b0⟩ := DataW.trod_int (P := Try.prog) Try.underlying3 (g0.trans y0)
        obtain ⟨s1, e1, _, b1⟩ := DataW.trod_int (P := Try.prog) Try.underlying3 (g1.trans y1)
        have r0 : c0 = .int .i64 s0 := (List.cons.inj e0).1
        have r1 : c1 = .int .i64 s1 := (List.cons.inj e1).1
        subst r0 r1
        refine ⟨⟨s0, s1⟩, ?_, q1⟩
        simpa [Addr.add] using q0
    obtain ⟨F, hF⟩ := choose_lt key
    refine ⟨some a, len, cap, (List.range len).map F, hv, ⟨by simp, hl, hm, (fun e => by cases e), fun k f hf => ?_⟩⟩
    have hk : k < len := by
      have := (List.getElem?_eq_some_iff.1 hf).1
      simpa using this
    have hfk : f = F k := by
      rw [List.getElem?_map, List.getElem?_range hk] at hf
      simpa using hf.symm
    subst hfk
    obtain ⟨z0, z1⟩ := hF k hk
    obtain ⟨b, off, spot⟩ := a
    have hspot : spot = none := by simpa [Addr.add] using World.cell?_spot (hF 0 (by omega)).1
    subst hspot
    rw [Addr.add_lit] at z0 z1
    rw [Addr.add_lit] at z1
    exact ⟨b, off, rfl, by simpa using World.block_lt_of_cell? w _ z0, z0, z1⟩
end Go.Proofs.Ytofnpmmbfcnlgaa
