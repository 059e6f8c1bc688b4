/-
  Layer 18: Check, hasColon, Wait, told: the program's, and the document's Check and Wait.
-/
import Derived.Test.YtdnopjopdklelaaDoorRnMath
import Derived.Test.YtdnopjopdklelaaDoorOwnRow
import Derived.Test.YtdnopjopdklelaaDoorRegW
import Derived.Test.YtdnopjopdklelaaDoorFdNew
import Derived.Test.YtdnopjopdklelaaDoorLbItoa
import Derived.IntWalk
import Derived.BigGuardPart
namespace Go.Proofs.YtdnopjopdklelaaDoor
set_option linter.unusedSimpArgs false
set_option linter.unusedVariables false
open Go.RowKit

theorem rn_isWithin (n a b : Int) (w : World) :
    Calls Tryd.prog 22 #[.int .i64 n, .int .i64 a, .int .i64 b] w fun e w' => e = .returned (.bool (inB n a b)) ∧ w = w' := by
  obtain ⟨C, hC⟩ : ∃ C, C = inB n a b := ⟨_, rfl⟩
  rw [← hC]
  have HC := hide hC
  clear hC
  by_cases h : a ≤ n
  · by_cases h2 : n ≤ b
    · go_enter Tryd.func22, Tryd.ntmps22
      go_wp2
      go_ret
      exact ⟨by rw [HC.out, inB_yes h h2]; rfl, rfl⟩
    · go_enter Tryd.func22, Tryd.ntmps22
      go_wp2
      go_ret
      exact ⟨by rw [HC.out, inB_hi (by omega)]; rfl, rfl⟩
  · go_enter Tryd.func22, Tryd.ntmps22
    go_wp2
    go_ret
    exact ⟨by rw [HC.out, inB_lo (by omega)]; rfl, rfl⟩

set_option maxHeartbeats 1600000 in
theorem rn_Check (s l r : Int) (w : World) :
    Calls Tryd.prog 9 #[.agg #[.int .i64 s, .int .i64 l, .int .i64 r]] w fun e w' => e = .returned (.int .i64 (chkP ⟨s, l, r⟩)) ∧ Below w.heap.size w w' := by
  have HW := hide rn_isWithin
  obtain ⟨C, hC⟩ : ∃ C, C = chkP ⟨s, l, r⟩ := ⟨_, rfl⟩
  rw [← hC]
  have HC := hide (show C = if (inB s 100 599 && (inB l 0 999999999 && inB r 0 999999999)) = true then 0 else 8 from hC)
  clear hC
  cases h1 : inB s 100 599 with
  | false =>
    rw [h1] at HC
    go_enter Tryd.func9, Tryd.ntmps9
    go_wp2_with (go_at_call 22; refine (HW.out _ _ _ _).mono ?_; rintro e w2 ⟨rfl, rfl⟩; simp only [h1])
    go_ret
    exact ⟨by rw [HC.out]; rfl, bel1 _ _⟩
  | true =>
    cases h2 : inB l 0 999999999 with
    | false =>
      rw [h1, h2] at HC
      go_enter Tryd.func9, Tryd.ntmps9
      go_wp2_with (go_at_call 22; refine (HW.out _ _ _ _).mono ?_; rintro e w2 ⟨rfl, rfl⟩; simp only [h1, h2])
      go_ret
      exact ⟨by rw [HC.out]; rfl, bel1 _ _⟩
    | true =>
      cases h3 : inB r 0 999999999 with
      | false =>
        rw [h1, h2, h3] at HC
        go_enter Tryd.func9, Tryd.ntmps9
        go_wp2_with (go_at_call 22; refine (HW.out _ _ _ _).mono ?_; rintro e w2 ⟨rfl, rfl⟩; simp only [h1, h2, h3])
        go_ret
        exact ⟨by rw [HC.out]; rfl, bel1 _ _⟩
      | true =>
        rw [h1, h2, h3] at HC
        go_enter Tryd.func9, Tryd.ntmps9
        go_wp2_with (go_at_call 22; refine (HW.out _ _ _ _).mono ?_; rintro e w2 ⟨rfl, rfl⟩; simp only [h1, h2, h3])
        go_ret
        exact ⟨by rw [HC.out]; rfl, bel1 _ _⟩

set_option maxHeartbeats 1600000 in
theorem rm_Check (s l r : Int) (w : World) :
    Calls Tryd.prog 10 #[.agg #[.int .i64 s, .int .i64 l, .int .i64 r]] w fun e w' => e = .returned (.int .i64 (chkP ⟨s, l, r⟩)) ∧ Below w.heap.size w w' := by
  obtain ⟨C, hC⟩ : ∃ C, C = chkP ⟨s, l, r⟩ := ⟨_, rfl⟩
  rw [← hC]
  have HC := hide (show C = if (inB s 100 599 && (inB l 0 999999999 && inB r 0 999999999)) = true then 0 else 8 from hC)
  clear hC
  rcases Int.lt_or_le s 100 with h0 | h0
  · have HE1 := hide (inB_lo (b := 599) (show ¬ 100 ≤ s by omega))
    go_enter Tryd.func10, Tryd.ntmps10
    go_wp2
    all_goals first | (exfalso; omega) | (go_ret; exact ⟨by rw [HC.out, HE1.out]; rfl, bel1 _ _⟩)
  rcases Int.lt_or_le 599 s with h1 | h1
  · have HE1 := hide (inB_hi (a := 100) (show ¬ s ≤ 599 by omega))
    go_enter Tryd.func10, Tryd.ntmps10
    go_wp2
    all_goals first | (exfalso; omega) | (go_ret; exact ⟨by rw [HC.out, HE1.out]; rfl, bel1 _ _⟩)
  have HE1 := hide (inB_yes h0 h1)
  rcases Int.lt_or_le l 0 with h2 | h2
  · have HE2 := hide (inB_lo (b := 999999999) (show ¬ 0 ≤ l by omega))
    go_enter Tryd.func10, Tryd.ntmps10
    go_wp2
    all_goals first | (exfalso; omega) | (go_ret; exact ⟨by rw [HC.out, HE1.out, HE2.out]; rfl, bel1 _ _⟩)
  rcases Int.lt_or_le 999999999 l with h3 | h3
  · have HE2 := hide (inB_hi (a := 0) (show ¬ l ≤ 999999999 by omega))
    go_enter Tryd.func10, Tryd.ntmps10
    go_wp2
    all_goals first | (exfalso; omega) | (go_ret; exact ⟨by rw [HC.out, HE1.out, HE2.out]; rfl, bel1 _ _⟩)
  have HE2 := hide (inB_yes h2 h3)
  rcases Int.lt_or_le r 0 with h4 | h4
  · have HE3 := hide (inB_lo (b := 999999999) (show ¬ 0 ≤ r by omega))
    go_enter Tryd.func10, Tryd.ntmps10
    go_wp2
    all_goals first | (exfalso; omega) | (go_ret; exact ⟨by rw [HC.out, HE1.out, HE2.out, HE3.out]; rfl, bel1 _ _⟩)
  rcases Int.lt_or_le 999999999 r with h5 | h5
  · have HE3 := hide (inB_hi (a := 0) (show ¬ r ≤ 999999999 by omega))
    go_enter Tryd.func10, Tryd.ntmps10
    go_wp2
    all_goals first | (exfalso; omega) | (go_ret; exact ⟨by rw [HC.out, HE1.out, HE2.out, HE3.out]; rfl, bel1 _ _⟩)
  have HE3 := hide (inB_yes h4 h5)
  go_enter Tryd.func10, Tryd.ntmps10
  go_wp2
  all_goals first | (exfalso; omega) | (go_ret; exact ⟨by rw [HC.out, HE1.out, HE2.out, HE3.out]; rfl, bel1 _ _⟩)

theorem rn_Wait (t p : Int) (ht : t ≤ 9223372036854775807) (w : World) :
    Calls Tryd.prog 11 #[.int .i64 t, .int .i64 p] w fun e w' => e = .returned (.int .i64 (waitI t p)) ∧ w = w' := by
  obtain ⟨C, hC⟩ : ∃ C, C = waitI t p := ⟨_, rfl⟩
  rw [← hC]
  have HC := hide hC
  clear hC
  by_cases h1 : t < 1
  · go_enter Tryd.func11, Tryd.ntmps11
    clear ht
    go_wp2
    go_ret
    exact ⟨by rw [HC.out, waitI_no (by omega)]; rfl, rfl⟩
  · by_cases h2 : p < 1
    · go_enter Tryd.func11, Tryd.ntmps11
      clear ht
      go_wp2
      go_ret
      exact ⟨by rw [HC.out, waitI_no (by omega)]; rfl, rfl⟩
    · have hb := waitI_bd (t := t) (p := p) (by omega) (by omega)
      have HE := hide (waitI_yes (t := t) (p := p) (by omega) (by omega))
      obtain ⟨q, hq⟩ : ∃ q, q = (t - 1) / p := ⟨_, rfl⟩
      have hd : (t - 1) / p = q := hq.symm
      have hd2 : (t - 1).tdiv p = q := by rw [Int.tdiv_eq_ediv_of_nonneg (by omega)]; exact hd
      rw [hd] at HE
      have hq0 : 0 ≤ q := by have := hb.1; rw [HE.out] at this; omega
      have hq1 : q + 1 ≤ t := by have := hb.2.1; rw [HE.out] at this; omega
      have hp0 : ¬ p = 0 := by omega
      have hp1 : ¬ p = -1 := by omega
      clear hb hq
      have hw1 : wrap64 (t - 1) = t - 1 := by unfold wrap64; omega
      have hw2 : wrap64 (q + 1) = q + 1 := by unfold wrap64; omega
      go_enter Tryd.func11, Tryd.ntmps11
      go_wp2
      go_ret
      exact ⟨by rw [HC.out, HE.out]; first | rfl | simp_all, rfl⟩
end Go.Proofs.YtdnopjopdklelaaDoor
