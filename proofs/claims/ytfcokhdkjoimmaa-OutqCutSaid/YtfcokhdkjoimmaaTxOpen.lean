/-
  A slice of texts that came in.
-/
import Derived.Test.YtfcokhdkjoimmaaTxMem
import Derived.Deep.Slices
import Derived.Deep.Fields
import Derived.ChangeSlices
namespace Go.Proofs.Ytfcokhdkjoimmaa
set_option linter.unusedSimpArgs false
set_option linter.unusedVariables false
open Go.RowKit Go.ChangeShapes Go.WideShapes Go.Deep

set_option maxRecDepth 100000 in
/-- A slice of texts that came in reads as a list of texts. -/
theorem open_tx {H : Type} {enc : TypeId × Value → H} {w : World} {base : Nat} {sp : Nat → Bool} {held : Bool} {fuel : Nat} {v : Value} {x : DataW H × List MemPlace}
    (h : DataW.trod enc Try.prog w base sp held fuel 22 [v] = some x) : ∃ A n c l, v = .slice A n c ∧ TX w A n c l := by
  have hC : Try.prog.cellsOf 9 = 1 := by kernel_rfl
  rcases open_slice Try.underlying22 h with ⟨hv, _⟩ | ⟨a, len, cap, m, fu, D, Pl, hv, hb, hl, hm, hmm, hx, hi⟩
  · simp only [List.cons.injEq, and_true] at hv
    exact ⟨none, 0, 0, [], hv, TX.none_ w⟩
  · simp only [List.cons.injEq, and_true] at hv
    have hlm : len ≤ m := by rw [hmm]; split <;> omega
    have key : ∀ i, i < len → ∃ f : ByteArray, w.cell? (a.add i) = some (.string f) := by
      intro i hlt
      obtain ⟨cs', hc, ht'⟩ := hi i (by omega)
      rw [hC] at hc
      obtain ⟨_, hcl, hat⟩ := World.cells?_some hc
      match cs', hcl with
      | [c0], _ =>
        have q0 := hat 0 (by omega)
        obtain ⟨s0, e0, _, _⟩ := DataW.trod_string (P := Try.prog) Try.underlying9 ht'
        have r0 : c0 = .string s0 := (List.cons.inj e0).1
        subst r0
        refine ⟨s0, ?_⟩
        simpa [Addr.add] using q0
    obtain ⟨F, hF⟩ := choose_lt key
    refine ⟨some a, len, cap, (List.range len).map F, hv, ⟨by simp, hl, hm, (fun e => by cases e), fun k f hf => ?_⟩⟩
    have hk : k < len := by
      have := (List.getElem?_eq_some_iff.1 hf).1
      simpa using this
    have hfk : f = F k := by
      rw [List.getElem?_map, List.getElem?_range hk] at hf
      simpa using hf.symm
    subst hfk
    have z0 := hF k hk
    obtain ⟨b, off, spot⟩ := a
    have hspot : spot = none := by simpa [Addr.add] using World.cell?_spot (hF 0 (by omega))
    subst hspot
    rw [Addr.add_lit] at z0
    exact ⟨b, off, rfl, by simpa using World.block_lt_of_cell? w _ z0, z0⟩
end Go.Proofs.Ytfcokhdkjoimmaa
