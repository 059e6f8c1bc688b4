/-
  A slice of acts that came in (a stream begins, or ends, cut or not).
-/
import Derived.Test.YtjjgnhdaaicmeaaOps
import Derived.Test.YtjjgnhdaaicmeaaChecked
import Derived.Deep.Slices
import Derived.Deep.Fields
import Derived.ChangeSlices
namespace Go.Proofs.Ytjjgnhdaaicmeaa
set_option linter.unusedSimpArgs false
set_option linter.unusedVariables false
open Go.RowKit

/-- An act: the stream's number, whether it ends, whether it is cut. -/
structure Ac where
  k : Int
  e : Bool
  c : Bool
instance : Inhabited Ac := ⟨⟨0, false, false⟩⟩
def AllC (l : List Ac) : Prop := ∀ p ∈ l, 0 ≤ p.k ∧ p.k ≤ 255
/-- The slice (A, n, c) reads as the list l of acts. -/
structure CL (w : World) (A : Option Addr) (n c : Nat) (l : List Ac) : Prop where
  len : l.length = n
  le : n ≤ c
  max : c ≤ maxLen
  at_ : ∀ k p, l[k]? = some p → ∃ b off, A = some ⟨b, off, none⟩ ∧ b < w.heap.size ∧ w.cell? ⟨b, off + k * 3, none⟩ = some (.int .u8 p.k) ∧ w.cell? ⟨b, off + k * 3 + 1, none⟩ = some (.bool p.e) ∧ w.cell? ⟨b, off + k * 3 + 2, none⟩ = some (.bool p.c)
theorem CL.round {w : World} {A : Option Addr} {n c : Nat} {l : List Ac} (h : CL w A n c l) {k : Nat} (hk : k < n) : ∃ x b off, l[k]? = some x ∧ A = some ⟨b, off, none⟩ ∧ b < w.heap.size ∧ w.cell? ⟨b, off + k * 3, none⟩ = some (.int .u8 x.k) ∧ w.cell? ⟨b, off + k * 3 + 1, none⟩ = some (.bool x.e) ∧ w.cell? ⟨b, off + k * 3 + 2, none⟩ = some (.bool x.c) := by
  have hkl : k < l.length := by rw [h.len]; exact hk
  obtain ⟨b, off, e, hlt, c0⟩ := h.at_ k _ (List.getElem?_eq_getElem hkl)
  exact ⟨l[k], b, off, List.getElem?_eq_getElem hkl, e, hlt, c0⟩

set_option maxRecDepth 100000 in
open Go.ChangeShapes Go.WideShapes Go.Deep in
theorem open_cl {H : Type} {enc : TypeId × Value → H} {w : World} {base : Nat} {sp : Nat → Bool} {held : Bool} {fuel : Nat} {v : Value} {x : DataW H × List MemPlace}
    (h : DataW.trod enc Try.prog w base sp held fuel 36 [v] = some x) : ∃ A n c l, v = .slice A n c ∧ CL w A n c l ∧ AllC l := by
  have hC : Try.prog.cellsOf 38 = 3 := by kernel_rfl
  rcases open_slice Try.underlying36 h with ⟨hv, _⟩ | ⟨a, len, cap, m, fu, D, Pl, hv, hb, hl, hm, hmm, hx, hi⟩
  · simp only [List.cons.injEq, and_true] at hv
    exact ⟨none, 0, 0, [], hv, ⟨rfl, Nat.le_refl _, Nat.zero_le _, fun k f h => by simp at h⟩, fun p hp => by cases hp⟩
  · simp only [List.cons.injEq, and_true] at hv
    have hlm : len ≤ m := by rw [hmm]; split <;> omega
    have key : ∀ i, i < len → ∃ f : Ac, w.cell? (a.add (i * 3)) = some (.int .u8 f.k) ∧ w.cell? ((a.add (i * 3)).add 1) = some (.bool f.e) ∧ w.cell? ((a.add (i * 3)).add 2) = some (.bool f.c) ∧ (0 ≤ f.k ∧ f.k ≤ 255) := by
      intro i hlt
      obtain ⟨cs', hc, ht'⟩ := hi i (by omega)
      rw [hC] at hc
      obtain ⟨_, hcl, hat⟩ := World.cells?_some hc
      obtain ⟨ys, n', _, _, _, hyl, hf⟩ := DataW.trod_struct Try.underlying38 ht'
      match cs', hcl with
      | [c0, c1, c2], _ =>
        have q0 := hat 0 (by omega)
        have q1 := hat 1 (by omega)
        have q2 := hat 2 (by omega)
        have g0 := hf 0 _ rfl
        have g1 := hf 1 _ rfl
        have g2 := hf 2 _ rfl
        have y0 : ys[0]? = some (ys[0]'(by rw [hyl]; decide)) := List.getElem?_eq_getElem _
        have y1 : ys[1]? = some (ys[1]'(by rw [hyl]; decide)) := List.getElem?_eq_getElem _
        have y2 : ys[2]? = some (ys[2]'(by rw [hyl]; decide)) := List.getElem?_eq_getElem _
        obtain ⟨s0, e0, _, b0⟩ := DataW.trod_int (P := Try.prog) Try.underlying5 (g0.trans y0)
        obtain ⟨s1, e1, _⟩ := DataW.trod_bool (P := Try.prog) Try.underlying4 (g1.trans y1)
        obtain ⟨s2, e2, _⟩ := DataW.trod_bool (P := Try.prog) Try.underlying4 (g2.trans y2)
        have r0 : c0 = .int .u8 s0 := (List.cons.inj e0).1
        have r1 : c1 = .bool s1 := (List.cons.inj e1).1
        have r2 : c2 = .bool s2 := (List.cons.inj e2).1
        subst r0 r1 r2
        refine ⟨⟨s0, s1, s2⟩, ?_, q1, q2, ?_⟩
        · simpa [Addr.add] using q0
        · have k0 := bounds_u8 b0
          exact ⟨k0.1, k0.2⟩
    obtain ⟨F, hF⟩ := choose_lt key
    refine ⟨some a, len, cap, (List.range len).map F, hv, ⟨by simp, hl, hm, fun k f hf => ?_⟩, fun p hp => ?_⟩
    · have hk : k < len := by
        have := (List.getElem?_eq_some_iff.1 hf).1
        simpa using this
      have hfk : f = F k := by
        rw [List.getElem?_map, List.getElem?_range hk] at hf
        simpa using hf.symm
      subst hfk
      obtain ⟨z0, z1, z2, _⟩ := hF k hk
      obtain ⟨b, off, spot⟩ := a
      have hspot : spot = none := by simpa [Addr.add] using World.cell?_spot (hF 0 (by omega)).1
      subst hspot
      rw [Addr.add_lit] at z0 z1 z2
      rw [Addr.add_lit] at z1 z2
      exact ⟨b, off, rfl, by simpa using World.block_lt_of_cell? w _ z0, z0, z1, z2⟩
    · obtain ⟨k, hk, rfl⟩ := List.mem_map.1 hp
      exact (hF k (by simpa using hk)).2.2.2
end Go.Proofs.Ytjjgnhdaaicmeaa
