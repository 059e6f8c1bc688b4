/-
  HystStays: what a look does to a limit. No program here.
-/
import Derived.Test.YtjcibpefbfengaaHyMath
namespace Go.Proofs.Ytjcibpefbfengaa
set_option linter.unusedSimpArgs false
set_option linter.unusedVariables false
open Go.RowKit

/-- A look: the limit falls in the high zone, stays, or rises in the low one, when Calm is full. -/
theorem look_is {y : Hy} (k : Int) (h : y.Ok) :
    (0 ≤ (stpH y k).c ∧ (stpH y k).c ≤ y.c + 1) ∧
    (((stpH y k).l < y.l ∧ zonI y k = 1 ∧ chgB y k = true) ∨ ((stpH y k).l = y.l ∧ chgB y k = false) ∨ (y.l < (stpH y k).l ∧ zonI y k = -1 ∧ chgB y k = true ∧ y.c + 1 = y.q ∧ (stpH y k).c = 0)) := by
  have ho := okH_iff.2 h
  obtain ⟨a1, a2, a3, a4, a5, a6, a7, a8, a9, a10, a11, a12⟩ := h
  unfold chgB
  by_cases h1 : y.hi < k
  · rw [stpH_hi ho h1, zonI_hi h1]
    simp only
    refine ⟨by omega, ?_⟩
    by_cases he : max (y.l / 2) y.a = y.l
    · exact .inr (.inl ⟨he, by rw [decide_eq_true he]; rfl⟩)
    · exact .inl ⟨by omega, trivial, by rw [decide_eq_false he]; rfl⟩
  by_cases h2 : k < y.lo
  · rw [stpH_lo ho h1 h2, zonI_lo h1 h2]
    by_cases h3 : y.c + 1 = y.q
    · rw [calH_yes h3]
      simp only
      refine ⟨by omega, ?_⟩
      by_cases he : min (y.l + 1) y.b = y.l
      · exact .inr (.inl ⟨he, by rw [decide_eq_true he]; rfl⟩)
      · exact .inr (.inr ⟨by omega, trivial, by rw [decide_eq_false he]; rfl, h3, trivial⟩)
    · rw [calH_no h3]
      simp only
      exact ⟨by omega, .inr (.inl ⟨trivial, by simp⟩)⟩
  · rw [stpH_mid ho h1 h2]
    simp only
    exact ⟨by omega, .inr (.inl ⟨trivial, by simp⟩)⟩
end Go.Proofs.Ytjcibpefbfengaa
