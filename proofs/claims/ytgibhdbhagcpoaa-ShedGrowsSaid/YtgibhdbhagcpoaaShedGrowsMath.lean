/-
  ShedGrows: its mathematics.
-/
import Derived.Test.YtgibhdbhagcpoaaSdTwo
namespace Go.Proofs.Ytgibhdbhagcpoaa.shedGrows
set_option linter.unusedSimpArgs false
set_option linter.unusedVariables false
open Go.RowKit

/-- Who goes away admits nobody. -/
theorem away_no (x : Lk) (b : Bu) : (decD ⟨x.o, x.t, x.a, true, x.c, x.b, x.k, x.i, x.s⟩ b).1 ≠ 0 := by
  intro h
  cases way_of ⟨x.o, x.t, x.a, true, x.c, x.b, x.k, x.i, x.s⟩ b with
  | wrong _ e => rw [e] at h; cases h
  | told _ _ e => rw [e] at h; cases h
  | away _ _ _ e => rw [e] at h; cases h
  | busy _ _ h2 _ e => cases h2
  | many _ _ h2 _ _ e => cases h2
  | admit _ _ h2 _ _ e => cases h2
/-- Nor who has no room. -/
theorem full_no (x : Lk) (b : Bu) : (decD ⟨x.o, x.t, x.a, x.w, x.c, x.b, 0, x.i, x.s⟩ b).1 ≠ 0 := by
  intro h
  have hf : fitB ⟨x.o, x.t, x.a, x.w, x.c, x.b, 0, x.i, x.s⟩ = false := fitB_no.2 (fun hh => by obtain ⟨a1, a2, a3, a4⟩ := hh; simp only at a1 a2 a3 a4; omega)
  cases way_of ⟨x.o, x.t, x.a, x.w, x.c, x.b, 0, x.i, x.s⟩ b with
  | wrong _ e => rw [e] at h; cases h
  | told _ _ e => rw [e] at h; cases h
  | away _ _ _ e => rw [e] at h; cases h
  | busy _ _ _ _ e => rw [e] at h; cases h
  | many _ _ _ h3 _ e => rw [hf] at h3; cases h3
  | admit _ _ _ h3 _ e => rw [hf] at h3; cases h3
/-- With a part more there is a token, too. -/
theorem tak_more {b : Bu} {t : Int} (h : (takB b t).2 = true) (hl : b.l < b.u * b.p) : (takB ⟨b.u, b.r, b.p, b.l + 1, b.n⟩ t).2 = true := by
  obtain ⟨t1, t2, _, _⟩ := tak_yes h
  have ho : b.Ok := okB_iff.1 ((at_okB b t).symm.trans (okB_iff.2 t2))
  obtain ⟨a1, a2, a3, a4, a5, a6, a7, a8, a9, a10⟩ := id ho
  have ho2 : Bu.Ok ⟨b.u, b.r, b.p, b.l + 1, b.n⟩ := ⟨a1, a2, a3, a4, a5, a6, a7, a8, by simp only; omega, by simp only; omega⟩
  have hp := (has_pos t2).1 t1
  have h3 : (atB ⟨b.u, b.r, b.p, b.l + 1, b.n⟩ t).p ≤ (atB ⟨b.u, b.r, b.p, b.l + 1, b.n⟩ t).l := by
    by_cases hg : Goes b t
    · have hg2 : Goes ⟨b.u, b.r, b.p, b.l + 1, b.n⟩ t := ⟨ho2, hg.2.1, hg.2.2⟩
      rw [atB_yes hg] at hp
      rw [atB_yes hg2]
      simp only at hp ⊢
      omega
    · have hg2 : ¬ Goes ⟨b.u, b.r, b.p, b.l + 1, b.n⟩ t := fun hh => hg ⟨ho, hh.2.1, hh.2.2⟩
      rw [atB_no hg] at hp
      rw [atB_no hg2]
      simp only
      omega
  have h4 := (has_pos (at_ok t ho2)).2 h3
  rw [takB_yes (by omega)]
/-- What stands of one that is admitted. -/
structure Adm (x : Lk) (b : Bu) : Prop where
  e : decD x b = (0, (takB b x.i).1, 0)
  ok : b.Ok
  a : x.o < x.a
  t : x.o < x.t
  w : x.w = false
  fit : x.Fit
  tak : (takB b x.i).2 = true
theorem adm_of {x : Lk} {b : Bu} (h : (decD x b).1 = 0) : Adm x b := by
  cases way_of x b with
  | wrong _ e => rw [e] at h; cases h
  | told _ _ e => rw [e] at h; cases h
  | away _ _ _ e => rw [e] at h; cases h
  | busy _ _ _ _ e => rw [e] at h; cases h
  | many _ _ _ _ _ e => rw [e] at h; cases h
  | admit h h1 h2 h3 h4 e => exact ⟨e, okB_iff.1 ((at_okB b x.i).symm.trans (okB_iff.2 (tak_yes h4).2.1)), by omega, by omega, h2, fitB_iff.1 h3, h4⟩
/-- With higher limits, more room, less that waits and fewer streams it is admitted, too. -/
theorem grows {x : Lk} {b c : Bu} (h : Adm x b) {n0 n1 n2 n3 : Int} (h0 : 0 ≤ n0) (h1 : 0 ≤ n1) (h2 : 0 ≤ n2) (h3 : 0 ≤ n3) (hc : (takB c x.i).2 = true) :
    decD ⟨x.o - n0, x.t + n1, x.a + n2, x.w, x.c, x.b / 2, x.k + n3, x.i, x.s⟩ c = (0, (takB c x.i).1, 0) := by
  obtain ⟨e, ok, a, t, w, ⟨f1, f2, f3, f4⟩, tak⟩ := h
  refine decD_admit ?_ ?_ ?_ hc
  · simp only; omega
  · simp only [w]; intro hh; rcases hh with hh | hh; omega; cases hh
  · exact fitB_iff.2 ⟨f1, by simp only; omega, by simp only; omega, by simp only; omega⟩
end Go.Proofs.Ytgibhdbhagcpoaa.shedGrows
