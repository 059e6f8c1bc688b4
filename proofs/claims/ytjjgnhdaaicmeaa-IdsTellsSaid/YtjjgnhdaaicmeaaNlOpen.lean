/-
  A slice of integers that came in reads as a list.
-/
import Derived.Test.YtjjgnhdaaicmeaaIntRow
import Derived.ChangeSlices
import Derived.Deep.Slices
namespace Go.Proofs.Ytjjgnhdaaicmeaa
set_option linter.unusedSimpArgs false
set_option linter.unusedVariables false
open Go.RowKit Go.ChangeShapes Go.WideShapes Go.Deep

theorem open_nl {H : Type} {enc : TypeId × Value → H} {P : Program} {w : World} {base : Nat} {sp : Nat → Bool} {held : Bool} {fuel : Nat} {v : Value} {x : DataW H × List MemPlace} {t e : TypeId} {k : IntKind}
    (ht : P.underlying t = some (.slice e)) (he : P.underlying e = some (.int k)) (hc : P.cellsOf e = 1) (h : DataW.trod enc P w base sp held fuel t [v] = some x) : ∃ A n c l, v = .slice A n c ∧ NL k w A n c l := by
  rcases open_ints ht he hc h with ⟨hv, _⟩ | ⟨a, len, cap, zs, hv, _, hl, hm, hz, _, hcell, hwz⟩
  · simp only [List.cons.injEq, and_true] at hv
    exact ⟨none, 0, 0, [], hv, ⟨rfl, Nat.le_refl _, Nat.zero_le _, fun i y hi => by simp at hi⟩⟩
  · simp only [List.cons.injEq, and_true] at hv
    have hlz : len ≤ zs.length := by rw [hz]; split <;> omega
    refine ⟨some a, len, cap, zs.take len, hv, ⟨by rw [List.length_take]; omega, hl, hm, fun i y hy => ?_⟩⟩
    have hi : i < len := by
      have := (List.getElem?_eq_some_iff.1 hy).1
      rw [List.length_take] at this; omega
    rw [List.getElem?_take_of_lt hi] at hy
    have h0 := hcell i (by omega)
    obtain ⟨b, off, spot⟩ := a
    have hspot : spot = none := by simpa [Addr.add] using World.cell?_spot (hcell 0 (by omega))
    subst hspot
    rw [Addr.add_lit] at h0
    have e : zs.getD i 0 = y := by rw [List.getD, hy]; rfl
    rw [e] at h0
    exact ⟨b, off, rfl, by simpa using World.block_lt_of_cell? w _ h0, h0, hwz _ (List.mem_of_getElem? hy)⟩
end Go.Proofs.Ytjjgnhdaaicmeaa
