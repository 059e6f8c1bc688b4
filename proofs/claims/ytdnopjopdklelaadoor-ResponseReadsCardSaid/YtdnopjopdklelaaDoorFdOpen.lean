/-
  A slice of fields, or of numbers, that came in.
-/
import Derived.Test.YtdnopjopdklelaaDoorFdMem
import Derived.Deep.Slices
import Derived.Deep.Fields
import Derived.ChangeSlices
namespace Go.Proofs.YtdnopjopdklelaaDoor
set_option linter.unusedSimpArgs false
set_option linter.unusedVariables false
open Go.RowKit Go.ChangeShapes Go.WideShapes Go.Deep

instance : Inhabited Fd := ⟨noFd⟩

set_option maxRecDepth 100000 in
/-- A slice of fields that came in reads as a list of fields. -/
theorem open_fl {H : Type} {enc : TypeId × Value → H} {w : World} {base : Nat} {sp : Nat → Bool} {held : Bool} {fuel : Nat} {v : Value} {x : DataW H × List MemPlace}
    (h : DataW.trod enc Tryd.prog w base sp held fuel 24 [v] = some x) : ∃ A n c l, v = .slice A n c ∧ FL w A n c l := by
  have hC : Tryd.prog.cellsOf 51 = 3 := by kernel_rfl
  rcases open_slice Tryd.underlying24 h with ⟨hv, _⟩ | ⟨a, len, cap, m, fu, D, Pl, hv, hb, hl, hm, hmm, hx, hi⟩
  · simp only [List.cons.injEq, and_true] at hv
    exact ⟨none, 0, 0, [], hv, FL.none_ w⟩
  · simp only [List.cons.injEq, and_true] at hv
    have hlm : len ≤ m := by rw [hmm]; split <;> omega
    have key : ∀ i, i < len → ∃ f : Fd, w.cell? (a.add (i * 3)) = some (.string f.n) ∧ w.cell? ((a.add (i * 3)).add 1) = some (.string f.v) ∧ w.cell? ((a.add (i * 3)).add 2) = some (.bool f.x) := by
      intro i hlt
      obtain ⟨cs', hc, ht'⟩ := hi i (by omega)
      rw [hC] at hc
      obtain ⟨_, hcl, hat⟩ := World.cells?_some hc
      obtain ⟨ys, n', _, _, _, hyl, hf⟩ := DataW.trod_struct Tryd.underlying51 ht'
      match cs', hcl with
      | [c0, c1, c2], _ =>
        have q0 := hat 0 (by omega)
        have q1 := hat 1 (by omega)
        have q2 := hat 2 (by omega)
        have g0 := hf 0 _ rfl
        have g1 := hf 1 _ rfl
        have g2 := hf 2 _ rfl
        have y0 : ys[0]? = some (ys[0]'(by rw [hyl]; decide)) := List.getElem?_eq_getElem _
        have y1 : ys[1]? = some (ys[1]'(by rw [hyl]; decide)) := List.getElem?_eq_getElem _
        have y2 : ys[2]? = some (ys[2]'(by rw [hyl]; decide)) := List.getElem?_eq_getElem _
        obtain ⟨s0, e0, _, _⟩ := DataW.trod_string (P := Tryd.prog) Tryd.underlying9 (g0.trans y0)
        obtain ⟨s1, e1, _, _⟩ := DataW.trod_string (P := Tryd.prog) Tryd.underlying9 (g1.trans y1)
        obtain ⟨s2, e2, _⟩ := DataW.trod_bool (P := Tryd.prog) Tryd.underlying4 (g2.trans y2)
        have r0 : c0 = .string s0 := (List.cons.inj e0).1
        have r1 : c1 = .string s1 := (List.cons.inj e1).1
        have r2 : c2 = .bool s2 := (List.cons.inj e2).1
        subst r0 r1 r2
        refine ⟨⟨s0, s1, s2⟩, ?_, q1, q2⟩
        simpa [Addr.add] using q0
    obtain ⟨F, hF⟩ := choose_lt key
    refine ⟨some a, len, cap, (List.range len).map F, hv, ⟨by simp, hl, hm, (fun e => by cases e), fun k f hf => ?_⟩⟩
    have hk : k < len := by
      have := (List.getElem?_eq_some_iff.1 hf).1
      simpa using this
    have hfk : f = F k := by
      rw [List.getElem?_map, List.getElem?_range hk] at hf
      simpa using hf.symm
    subst hfk
    obtain ⟨z0, z1, z2⟩ := hF k hk
    obtain ⟨b, off, spot⟩ := a
    have hspot : spot = none := by simpa [Addr.add] using World.cell?_spot (hF 0 (by omega)).1
    subst hspot
    rw [Addr.add_lit] at z0 z1 z2
    rw [Addr.add_lit] at z1 z2
    exact ⟨b, off, rfl, by simpa using World.block_lt_of_cell? w _ z0, z0, z1, z2⟩

/-- A slice of numbers that came in. -/
structure UL (k : IntKind) (w : World) (A : Option Addr) (n c : Nat) (zs : Nat → Int) : Prop where
  le : n ≤ c
  max : c ≤ maxLen
  at_ : ∀ i, i < n → ∃ b off, A = some ⟨b, off, none⟩ ∧ b < w.heap.size ∧ w.cell? ⟨b, off + i, none⟩ = some (.int k (zs i)) ∧ (Lit.int k (zs i)).wf = true
theorem UL.keep {k : IntKind} {w w' : World} {A : Option Addr} {n c : Nat} {zs : Nat → Int} (h : UL k w A n c zs) (hb : Below w.heap.size w w') : UL k w' A n c zs :=
  ⟨h.le, h.max, fun i hi => by
    obtain ⟨b, off, e, hlt, c0, hw⟩ := h.at_ i hi
    exact ⟨b, off, e, Nat.lt_of_lt_of_le hlt hb.size, (hb.cell (p := ⟨b, _, none⟩) hlt).trans c0, hw⟩⟩
theorem open_ul {H : Type} {enc : TypeId × Value → H} {P : Program} {w : World} {base : Nat} {sp : Nat → Bool} {held : Bool} {fuel : Nat} {v : Value} {x : DataW H × List MemPlace} {t e : TypeId} {k : IntKind}
    (ht : P.underlying t = some (.slice e)) (he : P.underlying e = some (.int k)) (hc : P.cellsOf e = 1) (h : DataW.trod enc P w base sp held fuel t [v] = some x) : ∃ A n c zs, v = .slice A n c ∧ UL k w A n c zs := by
  rcases open_ints ht he hc h with ⟨hv, _⟩ | ⟨a, len, cap, zs, hv, _, hl, hm, hz, _, hcell, hwz⟩
  · simp only [List.cons.injEq, and_true] at hv
    exact ⟨none, 0, 0, fun _ => 0, hv, ⟨Nat.le_refl _, Nat.zero_le _, fun i hi => absurd hi (by omega)⟩⟩
  · simp only [List.cons.injEq, and_true] at hv
    have hlz : len ≤ zs.length := by rw [hz]; split <;> omega
    refine ⟨some a, len, cap, fun i => zs.getD i 0, hv, ⟨hl, hm, fun i hi => ?_⟩⟩
    have h0 := hcell i (by omega)
    obtain ⟨b, off, spot⟩ := a
    have hspot : spot = none := by simpa [Addr.add] using World.cell?_spot (hcell 0 (by omega))
    subst hspot
    rw [Addr.add_lit] at h0
    refine ⟨b, off, rfl, by simpa using World.block_lt_of_cell? w _ h0, h0, ?_⟩
    have : zs.getD i 0 ∈ zs := by
      rw [List.getD, List.getElem?_eq_getElem (by omega)]
      exact List.getElem_mem _
    exact hwz _ this
end Go.Proofs.YtdnopjopdklelaaDoor
