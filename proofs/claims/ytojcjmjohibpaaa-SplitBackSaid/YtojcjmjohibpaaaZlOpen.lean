/-
  A slice of raw frames that came in.
-/
import Derived.Test.YtojcjmjohibpaaaSpMem
import Derived.Deep.Slices
import Derived.Deep.Fields
import Derived.ChangeSlices
namespace Go.Proofs.Ytojcjmjohibpaaa
set_option linter.unusedSimpArgs false
set_option linter.unusedVariables false
open Go.RowKit Go.ChangeShapes Go.WideShapes Go.Deep

def Rw.ok (r : Rw) : Prop := 0 ≤ r.t ∧ r.t ≤ 255 ∧ 0 ≤ r.f ∧ r.f ≤ 255
def AllZ (l : List Rw) : Prop := ∀ r ∈ l, r.ok
/-- A slice of raw frames that came in reads as a list of them. -/
theorem open_zl {H : Type} {enc : TypeId × Value → H} {w : World} {base : Nat} {sp : Nat → Bool} {held : Bool} {fuel : Nat} {v : Value} {x : DataW H × List MemPlace}
    (h : DataW.trod enc Try.prog w base sp held fuel 32 [v] = some x) : ∃ A n c l, v = .slice A n c ∧ ZL w A n c l ∧ AllZ l := by
  have hC : Try.prog.cellsOf 48 = 5 := by kernel_rfl
  have hD : Try.prog.cellsOf 46 = 4 := by kernel_rfl
  have hE : Try.prog.cellsOf 9 = 1 := by kernel_rfl
  rcases open_slice Try.underlying32 h with ⟨hv, _⟩ | ⟨a, len, cap, m, fu, D, Pl, hv, hb, hl, hm, hmm, hx, hi⟩
  · simp only [List.cons.injEq, and_true] at hv
    exact ⟨none, 0, 0, [], hv, ZL.none_ w, fun r hr => by cases hr⟩
  · simp only [List.cons.injEq, and_true] at hv
    have hlm : len ≤ m := by rw [hmm]; split <;> omega
    have key : ∀ i, i < len → ∃ f : Rw, w.cell? (a.add (i * 5)) = some (.int .i64 f.l) ∧ w.cell? ((a.add (i * 5)).add 1) = some (.int .u8 f.t) ∧ w.cell? ((a.add (i * 5)).add 2) = some (.int .u8 f.f) ∧ w.cell? ((a.add (i * 5)).add 3) = some (.int .i64 f.s) ∧ w.cell? ((a.add (i * 5)).add 4) = some (.string f.d) ∧ f.ok := by
      intro i hlt
      obtain ⟨cs', hc, ht'⟩ := hi i (by omega)
      rw [hC] at hc
      obtain ⟨_, hcl, hat⟩ := World.cells?_some hc
      obtain ⟨ys, n', _, _, _, hyl, hf⟩ := DataW.trod_struct Try.underlying48 ht'
      match cs', hcl with
      | [c0, c1, c2, c3, c4], _ =>
        have q0 := hat 0 (by omega)
        have q1 := hat 1 (by omega)
        have q2 := hat 2 (by omega)
        have q3 := hat 3 (by omega)
        have q4 := hat 4 (by omega)
        have g0 := hf 0 _ rfl
        have g1 := hf 1 _ rfl
        have y0 : ys[0]? = some (ys[0]'(by rw [hyl]; decide)) := List.getElem?_eq_getElem _
        have y1 : ys[1]? = some (ys[1]'(by rw [hyl]; decide)) := List.getElem?_eq_getElem _
        have g0' := g0.trans y0
        obtain ⟨zs, n2, _, _, _, hzl, hz⟩ := DataW.trod_struct (P := Try.prog) Try.underlying46 g0'
        have z0 := hz 0 _ rfl
        have z1 := hz 1 _ rfl
        have z2 := hz 2 _ rfl
        have z3 := hz 3 _ rfl
        have u0 : zs[0]? = some (zs[0]'(by rw [hzl]; decide)) := List.getElem?_eq_getElem _
        have u1 : zs[1]? = some (zs[1]'(by rw [hzl]; decide)) := List.getElem?_eq_getElem _
        have u2 : zs[2]? = some (zs[2]'(by rw [hzl]; decide)) := List.getElem?_eq_getElem _
        have u3 : zs[3]? = some (zs[3]'(by rw [hzl]; decide)) := List.getElem?_eq_getElem _
        obtain ⟨s0, e0, _, _⟩ := DataW.trod_int (P := Try.prog) Try.underlying3 (z0.trans u0)
        obtain ⟨s1, e1, _, b1⟩ := DataW.trod_int (P := Try.prog) Try.underlying5 (z1.trans u1)
        obtain ⟨s2, e2, _, b2⟩ := DataW.trod_int (P := Try.prog) Try.underlying5 (z2.trans u2)
        obtain ⟨s3, e3, _, _⟩ := DataW.trod_int (P := Try.prog) Try.underlying3 (z3.trans u3)
        obtain ⟨s4, e4, _, _⟩ := DataW.trod_string (P := Try.prog) Try.underlying9 (g1.trans y1)
        have r0 : c0 = .int .i64 s0 := (List.cons.inj e0).1
        have r1 : c1 = .int .u8 s1 := (List.cons.inj e1).1
        have r2 : c2 = .int .u8 s2 := (List.cons.inj e2).1
        have r3 : c3 = .int .i64 s3 := (List.cons.inj e3).1
        have r4 : c4 = .string s4 := (List.cons.inj e4).1
        subst r0 r1 r2 r3 r4
        refine ⟨⟨s0, s1, s2, s3, s4⟩, ?_, q1, q2, q3, q4, (bounds_u8 b1).1, (bounds_u8 b1).2, (bounds_u8 b2).1, (bounds_u8 b2).2⟩
        simpa [Addr.add] using q0
    obtain ⟨F, hF⟩ := choose_lt key
    refine ⟨some a, len, cap, (List.range len).map F, hv, ⟨by simp, hl, hm, (fun e => by cases e), fun k f hf => ?_⟩, fun r hr => ?_⟩
    · have hk : k < len := by
        have := (List.getElem?_eq_some_iff.1 hf).1
        simpa using this
      have hfk : f = F k := by
        rw [List.getElem?_map, List.getElem?_range hk] at hf
        simpa using hf.symm
      subst hfk
      obtain ⟨z0, z1, z2, z3, z4, _⟩ := hF k hk
      obtain ⟨b, off, spot⟩ := a
      have hspot : spot = none := by simpa [Addr.add] using World.cell?_spot (hF 0 (by omega)).1
      subst hspot
      rw [Addr.add_lit] at z0 z1 z2 z3 z4
      rw [Addr.add_lit] at z1 z2 z3 z4
      exact ⟨b, off, rfl, by simpa using World.block_lt_of_cell? w _ z0, z0, z1, z2, z3, z4⟩
    · obtain ⟨k, hk, rfl⟩ := List.mem_map.1 hr
      exact (hF k (by simpa using hk)).2.2.2.2.2
end Go.Proofs.Ytojcjmjohibpaaa
