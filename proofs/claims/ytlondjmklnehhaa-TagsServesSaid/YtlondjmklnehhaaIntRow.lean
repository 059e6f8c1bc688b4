/-
  Slices of integers that came in.
-/
import Derived.Test.YtlondjmklnehhaaMem
namespace Go.Proofs.Ytlondjmklnehhaa
set_option linter.unusedSimpArgs false
set_option linter.unusedVariables false
open Go.RowKit

/-- What the walk of a law is told of a slice of integers that came in. -/
def IsRow (k : IntKind) (w : World) (a : Option Addr) (len cap : Nat) (zs : List Int) : Prop :=
  (a = none ∧ len = 0 ∧ cap = 0 ∧ zs = []) ∨
  ∃ x, a = some x ∧ len ≤ cap ∧ cap ≤ maxLen ∧ zs.length = cap ∧ (∀ i, i < zs.length → w.cell? (x.add i) = some (.int k (zs.getD i 0))) ∧ ∀ n ∈ zs, (Lit.int k n).wf = true

/-- The slice (A, n, c) reads as the list l of integers of kind k. -/
structure NL (k : IntKind) (w : World) (A : Option Addr) (n c : Nat) (l : List Int) : Prop where
  len : l.length = n
  le : n ≤ c
  max : c ≤ maxLen
  at_ : ∀ i x, l[i]? = some x → ∃ b off, A = some ⟨b, off, none⟩ ∧ b < w.heap.size ∧ w.cell? ⟨b, off + i, none⟩ = some (.int k x) ∧ (Lit.int k x).wf = true
theorem NL.keep {k : IntKind} {w w' : World} {A : Option Addr} {n c : Nat} {l : List Int} (h : NL k w A n c l) (hb : Below w.heap.size w w') : NL k w' A n c l :=
  ⟨h.len, h.le, h.max, fun i x hx => by
    obtain ⟨b, off, e, hlt, c0, hw⟩ := h.at_ i x hx
    exact ⟨b, off, e, Nat.lt_of_lt_of_le hlt hb.size, (hb.cell (p := ⟨b, _, none⟩) hlt).trans c0, hw⟩⟩
theorem NL.round {k : IntKind} {w : World} {A : Option Addr} {n c : Nat} {l : List Int} (h : NL k w A n c l) {i : Nat} (hi : i < n) : ∃ x b off, l[i]? = some x ∧ A = some ⟨b, off, none⟩ ∧ b < w.heap.size ∧ w.cell? ⟨b, off + i, none⟩ = some (.int k x) ∧ (Lit.int k x).wf = true := by
  have hl : i < l.length := by rw [h.len]; exact hi
  obtain ⟨b, off, e, hlt, c0, hw⟩ := h.at_ i _ (List.getElem?_eq_getElem hl)
  exact ⟨l[i], b, off, List.getElem?_eq_getElem hl, e, hlt, c0, hw⟩
theorem nl_of_row {k : IntKind} {w : World} {a : Option Addr} {len cap : Nat} {zs : List Int} (h : IsRow k w a len cap zs) : NL k w a len cap (zs.take len) := by
  rcases h with ⟨rfl, rfl, rfl, rfl⟩ | ⟨x, rfl, hl, hm, hz, hcell, hwz⟩
  · exact ⟨rfl, Nat.le_refl _, Nat.zero_le _, fun i x hx => by simp at hx⟩
  · refine ⟨by rw [List.length_take]; omega, hl, hm, fun i y hy => ?_⟩
    have hi : i < len := by
      have := (List.getElem?_eq_some_iff.1 hy).1
      rw [List.length_take] at this; omega
    have hiz : i < zs.length := by omega
    have hyz : zs[i]? = some y := by rw [List.getElem?_take_of_lt hi] at hy; exact hy
    obtain ⟨_, rfl⟩ := List.getElem?_eq_some_iff.1 hyz
    obtain ⟨b, off, spot⟩ := x
    have hc := hcell i hiz
    have hspot : spot = none := by simpa [Addr.add] using World.cell?_spot (hcell 0 (by omega))
    subst hspot
    rw [Addr.add_lit] at hc
    refine ⟨b, off, rfl, by simpa using World.block_lt_of_cell? w _ hc, ?_, hwz _ (List.getElem_mem hiz)⟩
    rw [hc]
    simp [List.getD, hiz]
end Go.Proofs.Ytlondjmklnehhaa
