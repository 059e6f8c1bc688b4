/-
  HystFalls: where a limit comes to. No program here.
-/
import Derived.Test.YtjcibpefbfengaaHyMath
namespace Go.Proofs.Ytjcibpefbfengaa
set_option linter.unusedSimpArgs false
set_option linter.unusedVariables false
open Go.RowKit

theorem endH_append (x : Hy) (l m : List Int) : endH x (l ++ m) = endH (endH x l) m := by
  induction l generalizing x with
  | nil => rfl
  | cons j l ih => exact ih _
theorem cntH_append (x : Hy) (l m : List Int) : cntH x (l ++ m) = cntH x l + cntH (endH x l) m := by
  induction l generalizing x with
  | nil => simp [cntH, endH]
  | cons j l ih => rw [List.cons_append, cntH, cntH, ih, endH]; omega
section
variable {l a b lo hi q c : Int}
theorem one_fall (h : (Hy.mk l a b lo hi q c).Ok) : stpH ⟨l, a, b, lo, hi, q, c⟩ (hi + 1) = ⟨max (l / 2) a, a, b, lo, hi, q, 0⟩ := stpH_hi (okH_iff.2 h) (by simp only; omega)
theorem fall_five (h : (Hy.mk l a b lo hi q c).Ok) : endH ⟨l, a, b, lo, hi, q, c⟩ [hi + 1, hi + 1, hi + 1, hi + 1, hi + 1] = ⟨a, a, b, lo, hi, q, 0⟩ := by
  have e1 := one_fall h
  have o1 := stp_ok (hi + 1) h
  rw [e1] at o1
  have e2 := one_fall o1
  have o2 := stp_ok (hi + 1) o1
  rw [e2] at o2
  have e3 := one_fall o2
  have o3 := stp_ok (hi + 1) o2
  rw [e3] at o3
  have e4 := one_fall o3
  have o4 := stp_ok (hi + 1) o3
  rw [e4] at o4
  have e5 := one_fall o4
  simp only [endH]
  rw [e1, e2, e3, e4, e5]
  obtain ⟨a1, a2, a3, a4, a5, a6, a7, a8, a9, a10, a11, a12⟩ := h
  simp only at a1 a2 a3 a4 a5
  congr 1
  omega
theorem some_up (k : Int) (hk : k < lo) : ∀ (j : Nat) (c : Int), (Hy.mk l a b lo hi q c).Ok → c + j ≤ q - 1 → endH ⟨l, a, b, lo, hi, q, c⟩ (List.replicate j k) = ⟨l, a, b, lo, hi, q, c + j⟩ ∧ cntH ⟨l, a, b, lo, hi, q, c⟩ (List.replicate j k) = 0 := by
  intro j
  induction j with
  | zero => intro c _ _; simp [endH, cntH]
  | succ j ih =>
    intro c h hj
    have ho := okH_iff.2 h
    have hs : stpH ⟨l, a, b, lo, hi, q, c⟩ k = ⟨l, a, b, lo, hi, q, c + 1⟩ := by
      obtain ⟨a1, a2, a3, a4, a5, a6, a7, a8, a9, a10, a11, a12⟩ := h
      simp only at a7
      rw [stpH_lo ho (by simp only; omega) (by simp only; omega), calH_no (by simp only; omega)]
    have h2 : (Hy.mk l a b lo hi q (c + 1)).Ok := by rw [← hs]; exact stp_ok k h
    obtain ⟨i1, i2⟩ := ih (c + 1) h2 (by omega)
    rw [List.replicate_succ, endH, cntH, hs, i1, i2]
    refine ⟨by congr 1; omega, ?_⟩
    rw [chgB, hs]
    simp
theorem one_up (k : Int) (hk : k < lo) (h : (Hy.mk l a b lo hi q 0).Ok) (hl : l < b) (Q : Nat) (hQ : (Q : Int) = q) : endH ⟨l, a, b, lo, hi, q, 0⟩ (List.replicate Q k) = ⟨l + 1, a, b, lo, hi, q, 0⟩ ∧ cntH ⟨l, a, b, lo, hi, q, 0⟩ (List.replicate Q k) = 1 := by
  have a9 : 1 ≤ q := h.2.2.2.2.2.2.2.2.1
  obtain ⟨j, rfl⟩ : ∃ j, Q = j + 1 := ⟨Q - 1, by omega⟩
  obtain ⟨i1, i2⟩ := some_up k hk j 0 h (by omega)
  have h2 : (Hy.mk l a b lo hi q (0 + j)).Ok := by
    obtain ⟨a1, a2, a3, a4, a5, a6, a7, a8, a9, a10, a11, a12⟩ := h
    simp only [Hy.Ok] at *
    omega
  have hs : stpH ⟨l, a, b, lo, hi, q, 0 + j⟩ k = ⟨l + 1, a, b, lo, hi, q, 0⟩ := by
    have a7 : lo ≤ hi := h.2.2.2.2.2.2.1
    rw [stpH_lo (okH_iff.2 h2) (by simp only; omega) (by simp only; omega), calH_yes (by simp only; omega)]
    simp only
    congr 1
    omega
  rw [List.replicate_succ', endH_append, cntH_append, i1, i2]
  simp only [endH, cntH, chgB, hs]
  refine ⟨trivial, ?_⟩
  rw [decide_eq_false (by omega)]
  rfl
theorem all_up (k : Int) (hk : k < lo) (Q : Nat) (hQ : (Q : Int) = q) : ∀ (d : Nat) (l : Int), (Hy.mk l a b lo hi q 0).Ok → l + d ≤ b → endH ⟨l, a, b, lo, hi, q, 0⟩ (List.replicate (Q * d) k) = ⟨l + d, a, b, lo, hi, q, 0⟩ ∧ cntH ⟨l, a, b, lo, hi, q, 0⟩ (List.replicate (Q * d) k) = d := by
  intro d
  induction d with
  | zero => intro l _ _; simp [endH, cntH]
  | succ d ih =>
    intro l h hl
    obtain ⟨i1, i2⟩ := one_up k hk h (by omega) Q hQ
    have h2 : (Hy.mk (l + 1) a b lo hi q 0).Ok := by
      obtain ⟨a1, a2, a3, a4, a5, a6, a7, a8, a9, a10, a11, a12⟩ := h
      simp only [Hy.Ok] at *
      omega
    obtain ⟨j1, j2⟩ := ih (l + 1) h2 (by omega)
    rw [show Q * (d + 1) = Q + Q * d by rw [Nat.mul_succ, Nat.add_comm], ← List.replicate_append_replicate, endH_append, cntH_append, i1, i2, j1, j2]
    exact ⟨by congr 1; omega, by omega⟩
end
end Go.Proofs.Ytjcibpefbfengaa
