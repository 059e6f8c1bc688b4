/-
  Contracts for layer 1's reading: getGroups, Get; and the document's Get.
-/
import Derived.Test.YtfnkjcdkogipbaaPiPut
namespace Go.Proofs.Ytfnkjcdkogipbaa
open Go.RowKit

/-- A slice value of n bytes reads as the list xs. -/
def RB (w : World) (A : Option Addr) (n : Nat) (xs : List Int) : Prop :=
  xs.length = n ∧ (0 < n → ∃ b off, A = some ⟨b, off, none⟩ ∧ b < w.heap.size ∧ ∀ i, i < n → w.cell? ⟨b, off + i, none⟩ = some (.int .u8 (xs.getD i 0))) ∧ (∀ i, 0 ≤ xs.getD i 0 ∧ xs.getD i 0 ≤ 255)

set_option maxHeartbeats 800000 in
theorem pi_getGroups (A : Option Addr) (n cap : Nat) (xs : List Int) (w : World) (hr : RB w A n xs) (hn : n ≤ 9223372036854775807) :
    Calls Try.prog 22 #[.slice A n cap] w fun e w' => e = .returned (.tuple #[.int .i64 (gg xs 5 0 0).1, .int .i64 (gg xs 5 0 0).2.1, .int .i64 (gg xs 5 0 0).2.2]) ∧ w = w' := by
  obtain ⟨hlen, hcell, hbd⟩ := hr
  have HL := hide hlen
  have HB := hide hbd
  have HC := hide hcell
  clear hlen hbd hcell
  go_enter Try.func22, Try.ntmps22
  go_wp2
  go_loop [5, 7] (fun l i => ∃ (k : Nat) (L : Int), i = .int .i64 (k : Int) ∧ l = .int .i64 L ∧ k ≤ 5 ∧ 0 ≤ L ∧ L < 2 ^ (k * 7) ∧ gg xs 5 0 0 = gg xs (5 - k) k L)
    (fun _ i => 5 - (intOf i).toNat)
  case atStart => exact ⟨0, 0, rfl, rfl, by omega, by omega, by simp, rfl⟩
  case round =>
    obtain ⟨k, L, rfl, rfl, hk, hL0, hL1, hg⟩ := hrel
    have hp7 := pow7_le k hk
    by_cases h5 : k = 5
    · subst h5
      have HG := hide hg
      clear hg
      go_wp2
      go_ret3
      rw [HG.out]
      exact ⟨rfl, rfl⟩
    · by_cases hc : n ≤ k
      · have HG := hide (hg.trans (show gg xs (5 - k) k L = (0, 0, 3) by rw [show 5 - k = (4 - k) + 1 by omega]; exact gg_cut (by rw [HL.out]; exact hc)))
        clear hg
        have h5' : (k : Int) < 5 := by omega
        go_wp2
        go_ret3
        rw [HG.out]
        exact ⟨rfl, rfl⟩
      · obtain ⟨b, off, rfl, _, hcell⟩ := HC.out (by omega)
        have hcl := hcell k (by omega)
        clear hcell HC
        have hy := HB.out k
        obtain ⟨y, hyy⟩ : ∃ y, y = xs.getD k 0 := ⟨_, rfl⟩
        rw [← hyy] at hcl hy
        have h5' : (k : Int) < 5 := by omega
        have hkn : (k : Int) < n := by omega
        have hm := grow_bd (y % 128) L k (by omega) (by omega) hL0 hL1
        have hb1 := bits_andNot128 y (by omega) (by omega)
        have hb2 := bits_and128 y (by omega) (by omega)
        by_cases hy8 : y < 128
        · rw [if_pos hy8] at hb2
          have HG := hide (hg.trans (show gg xs (5 - k) k L = (L + y % 128 * 2 ^ (k * 7), (k : Int) + 1, 0) by rw [show 5 - k = (4 - k) + 1 by omega, hyy]; exact gg_end (by rw [HL.out]; omega) (by rw [← hyy]; omega)))
          clear hg hyy
          go_wp2
          go_ret3
          rw [HG.out]
          exact ⟨rfl, rfl⟩
        · rw [if_neg hy8] at hb2
          have HG := hide (hg.trans (show gg xs (5 - k) k L = gg xs (5 - (k + 1)) (k + 1) (L + y % 128 * 2 ^ (k * 7)) by rw [show 5 - k = (5 - (k + 1)) + 1 by omega, hyy]; exact gg_more (by rw [HL.out]; omega) (by rw [← hyy]; omega)))
          clear hg hyy
          go_wp2
          go_round
          case rel => exact ⟨k + 1, L + y % 128 * 2 ^ (k * 7), by go_num, by go_num, by omega, by omega, hm.2.2, HG.out⟩
          case measure => simp [intOf]; omega
theorem RB.cut1 {w : World} {b off n : Nat} {xs : List Int} (h : RB w (some ⟨b, off, none⟩) n xs) (hn : 1 ≤ n) : RB w (some ⟨b, off + 1, none⟩) (n - 1) xs.tail := by
  obtain ⟨h1, h2, h3⟩ := h
  refine ⟨by rw [List.length_tail, h1], fun hp => ?_, fun i => ?_⟩
  · obtain ⟨b', off', he, hb, hc⟩ := h2 (by omega)
    injection he with he
    injection he with e1 e2
    subst e1 e2
    refine ⟨b, off + 1, rfl, hb, fun i hi => ?_⟩
    have := hc (i + 1) (by omega)
    rw [show off + 1 + i = off + (i + 1) by omega, this]
    simp [List.getD]
  · have := h3 (i + 1)
    simpa [List.getD] using this

theorem RB.nothing (w : World) (A : Option Addr) : RB w A 0 [] := ⟨rfl, fun h => absurd h (by omega), fun i => by simp⟩

theorem pi_Get_arg (v : Value) (x : Int) (hx : x < 1 ∨ 8 < x) (w : World) :
    Calls Try.prog 14 #[v, .int .i64 x] w fun e w' => e = .returned (.tuple #[.int .i64 0, .int .i64 0, .int .i64 2]) ∧ w = w' := by
  have HX := hide hx
  clear hx
  go_enter Try.func14, Try.ntmps14
  go_wp2_with (go_at_call 16; refine (pi_rightBits_no _ HX.out _).mono ?_; rintro e w' ⟨rfl, rfl⟩)
  go_ret3
  exact ⟨rfl, rfl⟩

set_option maxHeartbeats 800000 in
theorem pi_Get (A : Option Addr) (n cap : Nat) (xs : List Int) (k : Nat) (hk1 : 1 ≤ k) (hk8 : k ≤ 8) (w : World) (hr : RB w A n xs) (hnc : n ≤ cap) (hn : cap ≤ 9223372036854775807) :
    Calls Try.prog 14 #[.slice A n cap, .int .i64 k] w fun e w' => e = .returned (.tuple #[.int .i64 (getI xs k).1, .int .i64 (getI xs k).2.1, .int .i64 (getI xs k).2.2]) ∧ w = w' := by
  have hl := hr.1
  have ⟨b1, b2⟩ := pow_bd k hk8
  by_cases h0 : n = 0
  · subst h0
    rw [getI_nil hl]
    have HR := hide hr
    clear hr hl
    go_enter Try.func14, Try.ntmps14
    go_wp2_with (go_at_call 16; refine (pi_rightBits_yes _ (by omega) (by omega) _).mono ?_; rintro e w' ⟨rfl, rfl⟩)
    go_ret3
    exact ⟨rfl, rfl⟩
  obtain ⟨b, off, rfl, hbl, hcell⟩ := hr.2.1 (by omega)
  have hc0 := hcell 0 (by omega)
  have hy := hr.2.2 0
  have HR := hide hr
  have hne : ((n : Int) == 0) = false := by simp; omega
  have hnp : (0 : Int) < n := by omega
  by_cases hlow : xs.getD 0 0 % 2 ^ k < 2 ^ k - 1
  · rw [getI_low (by omega) hlow]
    obtain ⟨y, hyy⟩ : ∃ y, y = xs.getD 0 0 := ⟨_, rfl⟩
    rw [← hyy] at hc0 hy hlow ⊢
    have hb := bits_and y hy.1 hy.2 k hk8
    rw [Nat.add_zero] at hc0
    clear hcell hr hl hyy
    go_enter Try.func14, Try.ntmps14
    go_wp2_with (first
      | (go_at_call 16; refine (pi_rightBits_yes _ (by omega) (by omega) _).mono ?_; rintro e w' ⟨rfl, rfl⟩)
      | (go_at_call 18; refine (pi_lowest _ k rfl hk8 _).mono ?_; rintro e w' ⟨rfl, rfl⟩))
    go_ret3
    exact ⟨rfl, rfl⟩
  rw [getI_high (by omega) hlow]
  have hgb := gg_bd xs.tail 5 0 0 rfl (by omega) (by simp)
  obtain ⟨⟨L, S, E⟩, hg⟩ : ∃ t, t = gg xs.tail 5 0 0 := ⟨_, rfl⟩
  have hgg : ∀ (A' : Option Addr) (m' c' : Nat), m' ≤ n → RB w A' m' xs.tail → Calls Try.prog 22 #[.slice A' m' c'] w fun e w' => e = .returned (.tuple #[.int .i64 L, .int .i64 S, .int .i64 E]) ∧ w = w' := by
    intro A' m' c' hm' h
    have := pi_getGroups A' m' c' xs.tail w h (by omega)
    rw [← hg] at this
    exact this
  rw [← hg] at hgb ⊢
  simp only at hgb
  obtain ⟨g1, g2, g3, g4, g5⟩ := hgb
  obtain ⟨y, hyy⟩ : ∃ y, y = xs.getD 0 0 := ⟨_, rfl⟩
  rw [← hyy] at hc0 hy hlow
  have hb := bits_and y hy.1 hy.2 k hk8
  rw [Nat.add_zero] at hc0
  have HGG := hide hgg
  have HT := hide (hr.cut1 (by omega))
  have HLEN := hide hl
  clear hcell hr hl hyy hg hgg HR
  by_cases hE : E = 0
  · subst hE
    by_cases hgr : 268435455 < (2 : Int) ^ k - 1 + L
    · rw [getT_great hgr]
      clear g5
      by_cases hcap : cap = 1
      · subst hcap
        have HT1 : RB w (some ⟨b, off, none⟩) 0 xs.tail := by
          rw [List.eq_nil_of_length_eq_zero (l := xs.tail) (by rw [List.length_tail, HLEN.out]; omega)]; exact RB.nothing _ _
        have HT2 := hide HT1
        clear HT1
        go_enter Try.func14, Try.ntmps14
        go_wp2_with (first
          | (go_at_call 16; refine (pi_rightBits_yes _ (by omega) (by omega) _).mono ?_; rintro e w' ⟨rfl, rfl⟩)
          | (go_at_call 18; refine (pi_lowest _ k rfl hk8 _).mono ?_; rintro e w' ⟨rfl, rfl⟩)
          | (go_at_call 22; refine (HGG.out _ _ _ (by omega) HT2.out).mono ?_; rintro e w' ⟨rfl, rfl⟩)
          | (go_at_call 17; refine (pi_rightNumber_no _ (Or.inr (by omega)) _).mono ?_; rintro e w' ⟨rfl, rfl⟩))
        go_ret3
        exact ⟨rfl, rfl⟩
      · go_enter Try.func14, Try.ntmps14
        go_wp2_with (first
          | (go_at_call 16; refine (pi_rightBits_yes _ (by omega) (by omega) _).mono ?_; rintro e w' ⟨rfl, rfl⟩)
          | (go_at_call 18; refine (pi_lowest _ k rfl hk8 _).mono ?_; rintro e w' ⟨rfl, rfl⟩)
          | (go_at_call 22; refine (HGG.out _ _ _ (by omega) HT.out).mono ?_; rintro e w' ⟨rfl, rfl⟩)
          | (go_at_call 17; refine (pi_rightNumber_no _ (Or.inr (by omega)) _).mono ?_; rintro e w' ⟨rfl, rfl⟩))
        go_ret3
        exact ⟨rfl, rfl⟩
    · rw [getT_right hgr]
      clear g5
      by_cases hcap : cap = 1
      · subst hcap
        have HT1 : RB w (some ⟨b, off, none⟩) 0 xs.tail := by
          rw [List.eq_nil_of_length_eq_zero (l := xs.tail) (by rw [List.length_tail, HLEN.out]; omega)]; exact RB.nothing _ _
        have HT2 := hide HT1
        clear HT1
        go_enter Try.func14, Try.ntmps14
        go_wp2_with (first
          | (go_at_call 16; refine (pi_rightBits_yes _ (by omega) (by omega) _).mono ?_; rintro e w' ⟨rfl, rfl⟩)
          | (go_at_call 18; refine (pi_lowest _ k rfl hk8 _).mono ?_; rintro e w' ⟨rfl, rfl⟩)
          | (go_at_call 22; refine (HGG.out _ _ _ (by omega) HT2.out).mono ?_; rintro e w' ⟨rfl, rfl⟩)
          | (go_at_call 17; refine (pi_rightNumber_yes _ (by omega) (by omega) _).mono ?_; rintro e w' ⟨rfl, rfl⟩))
        go_ret3
        exact ⟨rfl, rfl⟩
      · go_enter Try.func14, Try.ntmps14
        go_wp2_with (first
          | (go_at_call 16; refine (pi_rightBits_yes _ (by omega) (by omega) _).mono ?_; rintro e w' ⟨rfl, rfl⟩)
          | (go_at_call 18; refine (pi_lowest _ k rfl hk8 _).mono ?_; rintro e w' ⟨rfl, rfl⟩)
          | (go_at_call 22; refine (HGG.out _ _ _ (by omega) HT.out).mono ?_; rintro e w' ⟨rfl, rfl⟩)
          | (go_at_call 17; refine (pi_rightNumber_yes _ (by omega) (by omega) _).mono ?_; rintro e w' ⟨rfl, rfl⟩))
        go_ret3
        exact ⟨rfl, rfl⟩
  · rw [getT_err hE]
    have hE1 : (E != 0) = true := by simpa using hE
    have hE2 : (E == 0) = false := by simpa using hE
    have HE := hide hE
    clear g5 hE
    by_cases hcap : cap = 1
    · subst hcap
      have HT1 : RB w (some ⟨b, off, none⟩) 0 xs.tail := by
        rw [List.eq_nil_of_length_eq_zero (l := xs.tail) (by rw [List.length_tail, HLEN.out]; omega)]; exact RB.nothing _ _
      have HT2 := hide HT1
      clear HT1
      go_enter Try.func14, Try.ntmps14
      go_wp2_with (first
        | (go_at_call 16; refine (pi_rightBits_yes _ (by omega) (by omega) _).mono ?_; rintro e w' ⟨rfl, rfl⟩)
        | (go_at_call 18; refine (pi_lowest _ k rfl hk8 _).mono ?_; rintro e w' ⟨rfl, rfl⟩)
        | (go_at_call 22; refine (HGG.out _ _ _ (by omega) HT2.out).mono ?_; rintro e w' ⟨rfl, rfl⟩)
        | (go_at_call 17; refine (pi_rightNumber_no _ (Or.inr (by omega)) _).mono ?_; rintro e w' ⟨rfl, rfl⟩))
      go_ret3
      exact ⟨rfl, rfl⟩
    · go_enter Try.func14, Try.ntmps14
      go_wp2_with (first
        | (go_at_call 16; refine (pi_rightBits_yes _ (by omega) (by omega) _).mono ?_; rintro e w' ⟨rfl, rfl⟩)
        | (go_at_call 18; refine (pi_lowest _ k rfl hk8 _).mono ?_; rintro e w' ⟨rfl, rfl⟩)
        | (go_at_call 22; refine (HGG.out _ _ _ (by omega) HT.out).mono ?_; rintro e w' ⟨rfl, rfl⟩)
        | (go_at_call 17; refine (pi_rightNumber_no _ (Or.inr (by omega)) _).mono ?_; rintro e w' ⟨rfl, rfl⟩))
      go_ret3
      exact ⟨rfl, rfl⟩

end Go.Proofs.Ytfnkjcdkogipbaa
