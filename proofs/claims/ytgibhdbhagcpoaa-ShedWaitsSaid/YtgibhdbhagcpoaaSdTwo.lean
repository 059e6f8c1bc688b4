/-
  Layer 23: what a law's walk asks of fates; a look and a bucket in two new variables.
-/
import Derived.Test.YtgibhdbhagcpoaaSdMath
import Derived.Test.YtgibhdbhagcpoaaBuLater
namespace Go.Proofs.Ytgibhdbhagcpoaa
set_option linter.unusedSimpArgs false
set_option linter.unusedVariables false
open Go.RowKit

/-- A look and a bucket in two new variables. -/
def TwoL (W wx : World) (x : Lk) (b : Bu) (s5 s6 : Value) : Prop :=
  ∃ gl ga, s5 = .pointer (some ⟨gl, 0, none⟩) ∧ s6 = .pointer (some ⟨ga, 0, none⟩) ∧ BlkIs wx gl 29 x.cs ∧ BlkIs wx ga 26 b.cs ∧ W.heap.size ≤ gl ∧ W.heap.size ≤ ga ∧ gl ≠ ga ∧ Below W.heap.size W wx
theorem at_again (b : Bu) (t : Int) : atB (atB b t) t = atB b t := by
  by_cases h : Goes b t
  · exact atB_no (fun hg => by rw [atB_yes h] at hg; have := hg.2.1; simp only at this; omega)
  · rw [atB_no h, atB_no h]
theorem has_in (b : Bu) : 0 ≤ hasB b ∧ hasB b ≤ 1000 := by
  cases hok : okB b with
  | false => rw [hasB_no hok]; omega
  | true =>
    obtain ⟨a1, a2, a3, a4, a5, a6, a7, a8, a9, a10⟩ := okB_iff.1 hok
    have := div_in a9 a10 a5
    rw [hasB_yes hok]
    omega
theorem tak_no {b : Bu} {t : Int} (h : (takB b t).2 = false) : (takB b t).1 = atB b t ∧ hasB (atB b t) ≤ 0 := by
  by_cases h1 : hasB (atB b t) < 1
  · rw [takB_no h1]; exact ⟨rfl, by omega⟩
  · rw [takB_yes h1] at h; cases h
theorem tak_yes {b : Bu} {t : Int} (h : (takB b t).2 = true) : 1 ≤ hasB (atB b t) ∧ (atB b t).Ok ∧ (takB b t).1 = ⟨(atB b t).u, (atB b t).r, (atB b t).p, (atB b t).l - (atB b t).p, (atB b t).n⟩ ∧ hasB (takB b t).1 = hasB (atB b t) - 1 := by
  by_cases h1 : hasB (atB b t) < 1
  · rw [takB_no h1] at h; cases h
  · have ho := has_ok h1
    rw [takB_yes h1]
    have hp := (has_pos ho).1 (by omega)
    generalize atB b t = c at *
    obtain ⟨a1, a2, a3, a4, a5, a6, a7, a8, a9, a10⟩ := id ho
    refine ⟨by omega, ho, rfl, ?_⟩
    have h2 : Bu.Ok ⟨c.u, c.r, c.p, c.l - c.p, c.n⟩ := ⟨a1, a2, a3, a4, a5, a6, a7, a8, by simp only; omega, by simp only; omega⟩
    rw [hasB_yes (okB_iff.2 ho), hasB_yes (okB_iff.2 h2)]
    simp only
    have := Int.add_mul_ediv_right c.l (-1) (show c.p ≠ 0 by omega)
    rw [show c.l - c.p = c.l + -1 * c.p by omega, this]
    omega
/-- The ways of a request. -/
inductive Way (x : Lk) (b : Bu) : Prop where
  | wrong (h : x.a ≤ x.o) (e : decD x b = (4, b, 0))
  | told (h : ¬ x.a ≤ x.o) (h1 : x.t ≤ x.o) (e : decD x b = (1, b, 0))
  | away (h : ¬ x.a ≤ x.o) (h1 : ¬ x.t ≤ x.o) (h2 : x.w = true) (e : decD x b = (1, b, 0))
  | busy (h : ¬ x.a ≤ x.o) (h1 : ¬ x.t ≤ x.o) (h2 : x.w = false) (h3 : fitB x = false) (e : decD x b = (3, b, 1))
  | many (h : ¬ x.a ≤ x.o) (h1 : ¬ x.t ≤ x.o) (h2 : x.w = false) (h3 : fitB x = true) (h4 : (takB b x.i).2 = false) (e : decD x b = (2, (takB b x.i).1, secI (waitB b x.i) x.s))
  | admit (h : ¬ x.a ≤ x.o) (h1 : ¬ x.t ≤ x.o) (h2 : x.w = false) (h3 : fitB x = true) (h4 : (takB b x.i).2 = true) (e : decD x b = (0, (takB b x.i).1, 0))
theorem way_of (x : Lk) (b : Bu) : Way x b := by
  by_cases h : x.a ≤ x.o
  · exact .wrong h (decD_wrong h)
  by_cases h1 : x.t ≤ x.o
  · exact .told h h1 (decD_refuse h (.inl h1))
  cases h2 : x.w with
  | true => exact .away h h1 h2 (decD_refuse h (.inr h2))
  | false =>
    have hn : ¬ (x.t ≤ x.o ∨ x.w = true) := by rw [h2]; intro hh; rcases hh with hh | hh; exact h1 hh; cases hh
    cases h3 : fitB x with
    | false => exact .busy h h1 h2 h3 (decD_busy h hn h3)
    | true =>
      cases h4 : (takB b x.i).2 with
      | false => exact .many h h1 h2 h3 h4 (decD_many h hn h3 h4)
      | true => exact .admit h h1 h2 h3 h4 (decD_admit h hn h3 h4)
end Go.Proofs.Ytgibhdbhagcpoaa
