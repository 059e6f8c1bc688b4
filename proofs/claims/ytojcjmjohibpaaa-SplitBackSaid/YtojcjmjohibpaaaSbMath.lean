/-
  SplitBack: a frame's head, and its data, fed behind the preface; a preface with one byte other.
-/
import Derived.Test.YtojcjmjohibpaaaSpMath
import Derived.Laws.BitsAllLaws
namespace Go.Proofs.Ytojcjmjohibpaaa
set_option linter.unusedSimpArgs false
set_option linter.unusedVariables false
open Go.RowKit

theorem hdB_g {n t f s : Int} (h : okH n s = true) (tl : List Int) : gL (hdB n t f s ++ tl) = n ∧ gT (hdB n t f s ++ tl) = t ∧ gF (hdB n t f s ++ tl) = f ∧ gS (hdB n t f s ++ tl) = s := by
  obtain ⟨a, b, c, d, _⟩ := get_put n t f s h tl
  exact ⟨a, b, c, d⟩
theorem greet24 (xs : List Int) : greetB 24 xs = true := by
  simp only [greetB, decide_eq_true_eq]
  intro j hj
  omega
theorem feed24 {b : List Int} (h1 : ¬ 16384 < gL b) (h2 : (b.length : Int) < 9 + gL b) (xs : List Int) : feedS ⟨24, b, false⟩ xs = fedOf ⟨24, b, false⟩ 0 (cutS (b ++ xs)) := by
  obtain ⟨_, hg⟩ := goes_mk (g := 24) (b := b) (by omega) (by omega) (fun h => by omega) h1 h2
  rw [feed_yes hg (greet24 xs)]
  rw [show min xs.length (24 - ((⟨24, b, false⟩ : Sp).g).toNat) = 0 by simp, List.drop_zero]
theorem gL_nil : gL [] = 0 := by simp [gL]
/-- What a head's bytes leave, and what its data then leaves. -/
theorem bk_feed {n t f s : Int} {D : List Int} {d : ByteArray} (hd : bts d = D) (hn : (D.length : Int) = n) (hok : okH n s = true) (h60 : n ≤ 60) :
    ∃ xb nl sl, feedS ⟨24, [], false⟩ (hdB n t f s) = ⟨⟨24, xb, false⟩, nl, 0⟩ ∧ feedS ⟨24, xb, false⟩ D = ⟨⟨24, [], false⟩, sl, 0⟩ ∧ nl ++ sl = [⟨n, t, f, s, d⟩] ∧ xb.length ≤ 9 ∧ (xb = [] ∨ xb = hdB n t f s) ∧
      (0 < n → nl = [] ∧ (⟨24, xb, false⟩ : Sp).left = n) ∧ nl.length ≤ 1 ∧ sl.length ≤ 1 := by
  have hl : (hdB n t f s).length = 9 := rfl
  obtain ⟨a0, a1, a2, a3⟩ := hdB_g (t := t) (f := f) hok []
  rw [List.append_nil] at a0 a1 a2 a3
  have z1 : ¬ 16384 < gL [] := by rw [gL_nil]; omega
  have z2 : (([] : List Int).length : Int) < 9 + gL [] := by rw [gL_nil]; simp
  by_cases h0 : 0 < n
  · have b1 : ¬ 16384 < gL (hdB n t f s) := by rw [a0]; omega
    have b2 : ((hdB n t f s).length : Int) < 9 + gL (hdB n t f s) := by rw [a0, hl]; omega
    obtain ⟨c0, c1, c2, c3⟩ := hdB_g (t := t) (f := f) hok D
    have d1 : ¬ 16384 < gL (hdB n t f s ++ D) := by rw [c0]; omega
    have d2 : ¬ ((hdB n t f s ++ D).length : Int) < 9 + gL (hdB n t f s ++ D) := by rw [c0, List.length_append, hl]; omega
    refine ⟨hdB n t f s, [], [⟨n, t, f, s, d⟩], ?_, ?_, rfl, by rw [hl]; exact Nat.le_refl _, .inr rfl, fun _ => ⟨rfl, ?_⟩, by simp, by simp⟩
    · rw [feed24 z1 z2, List.nil_append, cutS_short b1 b2]
      rfl
    · rw [feed24 b1 b2, cutS_next d1 d2, c0]
      have hdrop : (hdB n t f s ++ D).drop (9 + n.toNat) = [] := List.drop_eq_nil_of_le (by rw [List.length_append, hl]; omega)
      have hrw : rwOf (hdB n t f s ++ D) = ⟨n, t, f, s, d⟩ := by
        rw [rwOf, c0, c1, c2, c3, List.drop_left' hl, List.take_of_length_le (by omega), ← hd, str_bts]
      rw [hdrop, hrw, cutS_nil]
      rfl
    · obtain ⟨_, hg⟩ := goes_mk (g := 24) (b := hdB n t f s) (by omega) (by omega) (fun h => by omega) b1 b2
      rw [Sp.left, if_neg (by simp [hg]), if_neg (by simp)]
      simp only
      rw [a0, hl]
      omega
  · have hn0 : n = 0 := by have := (okH_iff n s).1 hok; omega
    subst hn0
    have hD : D = [] := List.eq_nil_of_length_eq_zero (by omega)
    subst hD
    have b1 : ¬ 16384 < gL (hdB 0 t f s) := by rw [a0]; omega
    have b2 : ¬ ((hdB 0 t f s).length : Int) < 9 + gL (hdB 0 t f s) := by rw [a0, hl]; omega
    refine ⟨[], [⟨0, t, f, s, d⟩], [], ?_, ?_, rfl, by simp, .inl rfl, fun h => absurd h (by omega), by simp, by simp⟩
    · rw [feed24 z1 z2, List.nil_append, cutS_next b1 b2, a0]
      have hdrop : (hdB 0 t f s).drop (9 + (0 : Int).toNat) = [] := rfl
      have hrw : rwOf (hdB 0 t f s) = ⟨0, t, f, s, d⟩ := by
        rw [rwOf, a0, a1, a2, a3]
        have hde : d = strOfNums [] := by rw [← str_bts d, hd]
        rw [hde]
        rfl
      rw [hdrop, hrw, cutS_nil]
      rfl
    · rw [feed24 z1 z2]
      rfl
theorem left9 : (⟨24, [], false⟩ : Sp).left = 9 := by decide
theorem feed_pre : feedS ⟨0, bts ⟨#[]⟩, false⟩ preB = ⟨⟨24, [], false⟩, [], 0⟩ := by kernel_rfl
theorem preB_len : preB.length = 24 := rfl
theorem preB_all : AllB preB := fun x hx => by
  simp only [preB, List.mem_cons, List.not_mem_nil, or_false] at hx
  omega
/-- A byte of the preface that is another one is a fault. -/
theorem feed_other (k : Nat) (hk : k < 24) (v : Int) (hv : v ≠ preB.getD k 0) : feedS ⟨0, bts ⟨#[]⟩, false⟩ (preB.set k v) = ⟨⟨0, [], true⟩, [], 1⟩ := by
  obtain ⟨_, hg⟩ := goes_mk (g := 0) (b := []) (by omega) (by omega) (fun _ => rfl) (by rw [gL_nil]; omega) (by rw [gL_nil]; simp)
  refine (feed_bad (s := ⟨0, [], false⟩) hg ?_)
  simp only [greetB, decide_eq_false_iff_not]
  intro h
  have := h k (by rw [List.length_set, preB_len]; simp only [Int.toNat_zero]; omega)
  rw [show ((⟨0, [], false⟩ : Sp).g).toNat + k = k by simp] at this
  rw [List.getD, List.getElem?_set_self (by rw [preB_len]; exact hk)] at this
  exact hv this
theorem xor_ne (a c : Int) (a0 : 0 ≤ a) (a1 : a ≤ 255) (c0 : 0 < c) (c1 : c ≤ 255) : bits .xor .u8 a c ≠ a ∧ 0 ≤ bits .xor .u8 a c ∧ bits .xor .u8 a c ≤ 255 := by
  rw [u8_xor a c a0 (by omega) (by omega) (by omega)]
  have hlt : a.toNat ^^^ c.toNat < 2 ^ 8 := Nat.xor_lt_two_pow (by omega) (by omega)
  refine ⟨fun h => ?_, by omega, by omega⟩
  have h1 : a.toNat ^^^ c.toNat = a.toNat := by omega
  have h2 : a.toNat ^^^ (a.toNat ^^^ c.toNat) = a.toNat ^^^ a.toNat := by rw [h1]
  rw [← Nat.xor_assoc, Nat.xor_self, Nat.zero_xor] at h2
  omega
end Go.Proofs.Ytojcjmjohibpaaa
