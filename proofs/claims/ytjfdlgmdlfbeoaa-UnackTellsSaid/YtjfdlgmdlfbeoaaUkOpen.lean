/-
  Queues that came in.
-/
import Derived.Test.YtjfdlgmdlfbeoaaUkMem
import Derived.SizedLaws
import Derived.ProofKit
import Derived.OpenShut
namespace Go.Proofs.Ytjfdlgmdlfbeoaa
set_option linter.unusedSimpArgs false
set_option linter.unusedVariables false
open Go.RowKit

set_option maxRecDepth 100000 in
open Go.ChangeShapes Go.WideShapes Go.Deep in
/-- A slice of items that came in reads as a queue; so many bytes it has. -/
theorem open_il {H : Type} {enc : TypeId × Value → H} {w : World} {base : Nat} {sp : Nat → Bool} {held : Bool} {fuel : Nat} {v : Value} {x : DataW H × List MemPlace}
    (h : DataW.trod enc Try.prog w base sp held fuel 22 [v] = some x) : ∃ A n c l, v = .slice A n c ∧ IL w A n c l ∧ ∀ B, (∀ k ∈ x.1.weights Try.prog 22, k ≤ B) → n * 32 ≤ B := by
  have hC : Try.prog.cellsOf 58 = 2 := by kernel_rfl
  have hBy : Try.prog.bytesOf 58 = 32 := by kernel_rfl
  have q_pp : Try.prog.cellsOf 23 = 1 := by kernel_rfl
  have q_int : Try.prog.cellsOf 3 = 1 := by kernel_rfl
  rcases open_slice Try.underlying22 h with ⟨hv, _⟩ | ⟨a, len, cap, m, fu, D, Pl', hv, hb, hl, hm, hmm, hx, hi⟩
  · simp only [List.cons.injEq, and_true] at hv
    exact ⟨none, 0, 0, [], hv, IL.none_ w, fun B _ => by omega⟩
  · simp only [List.cons.injEq, and_true] at hv
    have hlm : len ≤ m := by rw [hmm]; split <;> omega
    have key : ∀ i, i < len → ∃ f : Ix, w.cell? (a.add (i * 2)) = some (.slice f.A f.it.ps.length f.c) ∧ w.cell? ((a.add (i * 2)).add 1) = some (.int .i64 f.it.t) ∧ PL w f.A f.it.ps.length f.c f.it.ps := by
      intro i hlt
      obtain ⟨cs', hc, ht'⟩ := hi i (by omega)
      rw [hC] at hc
      obtain ⟨_, hcl, hat⟩ := World.cells?_some hc
      obtain ⟨ys, n', _, _, _, hyl, hf⟩ := DataW.trod_struct Try.underlying58 ht'
      match cs', hcl with
      | [c0, c1], _ =>
        have q0 := hat 0 (by omega)
        have q1 := hat 1 (by omega)
        have g0 := hf 0 _ rfl
        have g1 := hf 1 _ rfl
        have y0 : ys[0]? = some (ys[0]'(by rw [hyl]; decide)) := List.getElem?_eq_getElem _
        have y1 : ys[1]? = some (ys[1]'(by rw [hyl]; decide)) := List.getElem?_eq_getElem _
        obtain ⟨A0, n0, c0', l0, e0, hp0, _⟩ := open_pl (g0.trans y0)
        obtain ⟨s1, e1, _, b1⟩ := DataW.trod_int (P := Try.prog) Try.underlying3 (g1.trans y1)
        have r1 : c1 = .int .i64 s1 := (List.cons.inj e1).1
        subst r1
        have hle := hp0.len
        subst hle
        subst e0
        exact ⟨⟨A0, c0', ⟨l0, s1⟩⟩, by simpa [Addr.add] using q0, q1, hp0⟩
    obtain ⟨F, hF⟩ : ∃ F : Nat → Ix, ∀ i, i < len → w.cell? (a.add (i * 2)) = some (.slice (F i).A (F i).it.ps.length (F i).c) ∧ w.cell? ((a.add (i * 2)).add 1) = some (.int .i64 (F i).it.t) ∧ PL w (F i).A (F i).it.ps.length (F i).c (F i).it.ps := by
      classical
      refine ⟨fun i => if hi : i < len then Classical.choose (key i hi) else ⟨none, 0, ⟨[], 0⟩⟩, fun i hi => ?_⟩
      simp only [dif_pos hi]
      exact Classical.choose_spec (key i hi)
    refine ⟨some a, len, cap, ((List.range len).map F).map (·.it), hv, ⟨(List.range len).map F, ⟨by simp, hl, hm, (fun e => by cases e), fun k f hf => ?_⟩, fun y hy => ?_, rfl⟩, fun B hB => ?_⟩
    · have hk : k < len := by
        have := (List.getElem?_eq_some_iff.1 hf).1
        simpa using this
      have hfk : f = F k := by
        rw [List.getElem?_map, List.getElem?_range hk] at hf
        simpa using hf.symm
      subst hfk
      obtain ⟨z0, z1, _⟩ := hF k hk
      obtain ⟨b, off, spot⟩ := a
      have hspot : spot = none := by simpa [Addr.add] using World.cell?_spot (hF 0 (by omega)).1
      subst hspot
      rw [Addr.add_lit] at z0 z1
      rw [Addr.add_lit] at z1
      exact ⟨b, off, rfl, by simpa using World.block_lt_of_cell? w _ z0, z0, z1⟩
    · obtain ⟨k, hk, rfl⟩ := List.mem_map.1 hy
      exact (hF k (by simpa using hk)).2.2
    · have := hB ((len + (m - len)) * Try.prog.bytesOf 58) (by rw [hx]; simp [DataW.weights, Try.underlying22])
      rw [hBy] at this
      omega
end Go.Proofs.Ytjfdlgmdlfbeoaa
