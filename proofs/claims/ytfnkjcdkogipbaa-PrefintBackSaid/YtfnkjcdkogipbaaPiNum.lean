/-
  Contracts for layer 1's functions on numbers alone: rightBits, rightNumber, lowest, countGroups, pow, Rest.
-/
import Derived.Test.YtfnkjcdkogipbaaRows
import Derived.Test.YtfnkjcdkogipbaaPiMath
import Derived.Test.YtfnkjcdkogipbaaPiBits
namespace Go.Proofs.Ytfnkjcdkogipbaa
open Go.RowKit

theorem pi_rightBits_yes (n : Int) (h1 : 1 ≤ n) (h2 : n ≤ 8) (w : World) :
    Calls Try.prog 16 #[.int .i64 n] w fun e w' => e = .returned (.bool true) ∧ w = w' := by
  go_enter Try.func16, Try.ntmps16
  go_wp2
  go_ret
  exact ⟨rfl, rfl⟩

theorem pi_rightBits_no (n : Int) (h : n < 1 ∨ 8 < n) (w : World) :
    Calls Try.prog 16 #[.int .i64 n] w fun e w' => e = .returned (.bool false) ∧ w = w' := by
  by_cases h1 : n < 1
  · clear h
    go_enter Try.func16, Try.ntmps16
    go_wp2
    go_ret
    exact ⟨rfl, rfl⟩
  · have h1' : 1 ≤ n := by omega
    have h2 : decide (n ≤ 8) = false := by rw [decide_eq_false_iff_not]; omega
    clear h h1
    go_enter Try.func16, Try.ntmps16
    go_wp2
    go_ret
    exact ⟨rfl, rfl⟩

theorem pi_rightNumber_yes (n : Int) (h1 : 0 ≤ n) (h2 : n ≤ 268435455) (w : World) :
    Calls Try.prog 17 #[.int .i64 n] w fun e w' => e = .returned (.bool true) ∧ w = w' := by
  go_enter Try.func17, Try.ntmps17
  go_wp2
  go_ret
  exact ⟨rfl, rfl⟩

theorem pi_rightNumber_no (n : Int) (h : n < 0 ∨ 268435455 < n) (w : World) :
    Calls Try.prog 17 #[.int .i64 n] w fun e w' => e = .returned (.bool false) ∧ w = w' := by
  by_cases h1 : n < 0
  · clear h
    go_enter Try.func17, Try.ntmps17
    go_wp2
    go_ret
    exact ⟨rfl, rfl⟩
  · have h1' : 0 ≤ n := by omega
    have h2 : decide (n ≤ 268435455) = false := by rw [decide_eq_false_iff_not]; omega
    clear h h1
    go_enter Try.func17, Try.ntmps17
    go_wp2
    go_ret
    exact ⟨rfl, rfl⟩

theorem pow_bd (n : Nat) (h : n ≤ 8) : 1 ≤ (2 : Int) ^ n ∧ (2 : Int) ^ n ≤ 256 := by
  have h1 : 2 ^ n ≤ 2 ^ 8 := Nat.pow_le_pow_right (by omega) h
  have h2 : 0 < 2 ^ n := Nat.pow_pos (by omega)
  have e : ((2 ^ n : Nat) : Int) = (2 : Int) ^ n := by simp
  omega

theorem pi_lowest (x : Int) (n : Nat) (hx : x = n) (h2 : n ≤ 8) (w : World) :
    Calls Try.prog 18 #[.int .i64 x] w fun e w' => e = .returned (.int .i64 (2 ^ n - 1)) ∧ w = w' := by
  subst hx
  have ⟨b1, b2⟩ := pow_bd n h2
  go_enter Try.func18, Try.ntmps18
  go_wp2
  go_ret
  exact ⟨rfl, rfl⟩

theorem pi_countGroups (n : Nat) (h2 : n < 268435456) (w : World) :
    Calls Try.prog 21 #[.int .i64 n] w fun e w' => e = .returned (.int .i64 (cnt n : Int)) ∧ w = w' := by
  go_enter Try.func21, Try.ntmps21
  go_wp2
  go_loop [0, 3] (fun l c => ∃ k m : Nat, l = .int .i64 (m : Int) ∧ c = .int .i64 (k : Int) ∧ m < 268435456 ∧ k + cntZ m = cnt n) (fun l _ => (intOf l).toNat)
  case atStart => exact ⟨1, n / 128, by go_num, rfl, by omega, cnt_cntZ n⟩
  case round =>
    obtain ⟨k, m, rfl, rfl, hm, hk⟩ := hrel
    have hc := cnt_le h2
    by_cases hz : m = 0
    · subst hz
      rw [cntZ_zero] at hk
      have HK := hide hk
      clear hk
      go_wp2
      go_ret
      exact ⟨by show Ending.returned (.int .i64 (k : Int)) = _; rw [← HK.out]; simp, rfl⟩
    · have hp : 0 < (m : Int) := by omega
      rw [cntZ_pos (by omega)] at hk
      have hb : k ≤ 4 := by omega
      have HK := hide hk
      clear hk
      go_wp2
      go_round
      case rel => exact ⟨k + 1, m / 128, by go_num, by go_num, by omega, by have := HK.out; omega⟩
      case measure => simp [intOf]; omega

theorem pi_Rest (c : Int) (h0 : 0 ≤ c) (h1 : c ≤ 255) (n : Int) (k : Nat) (hk : k = max 1 (min 8 n)) (w : World) :
    Calls Try.prog 11 #[.int .u8 c, .int .i64 n] w fun e w' => e = .returned (.int .u8 (restN c k)) ∧ w = w' := by
  have hk8 : k ≤ 8 := by omega
  have ⟨b1, b2⟩ := pow_bd k hk8
  have HB := bits_andNot c h0 h1 k hk8
  by_cases c1 : n < 1
  · have HK := hide (show (1 : Int) = k by omega)
    clear hk
    go_enter Try.func11, Try.ntmps11
    go_wp2_with fail
    refine (pi_lowest _ k HK.out hk8 _).mono ?_; rintro e w' ⟨rfl, rfl⟩
    go_wp2
    go_ret
    exact ⟨rfl, rfl⟩
  by_cases c2 : 8 < n
  · have HK := hide (show (8 : Int) = k by omega)
    clear hk
    go_enter Try.func11, Try.ntmps11
    go_wp2_with fail
    refine (pi_lowest _ k HK.out hk8 _).mono ?_; rintro e w' ⟨rfl, rfl⟩
    go_wp2
    go_ret
    exact ⟨rfl, rfl⟩
  · have c1' : 1 ≤ n := by omega
    have c2' : n ≤ 8 := by omega
    have HK := hide (show n = k by omega)
    clear hk c1 c2
    go_enter Try.func11, Try.ntmps11
    go_wp2_with fail
    refine (pi_lowest _ k HK.out hk8 _).mono ?_; rintro e w' ⟨rfl, rfl⟩
    go_wp2
    go_ret
    exact ⟨rfl, rfl⟩

theorem pi_pow (x : Int) (n : Nat) (hx : x = n) (h2 : n ≤ 8) (w : World) :
    Calls Try.prog 20 #[.int .i64 x] w fun e w' => e = .returned (.int .i64 (2 ^ n)) ∧ w = w' := by
  subst hx
  go_enter Try.func20, Try.ntmps20
  go_wp2
  go_loop [3, 4] (fun p i => ∃ k : Nat, i = .int .i64 (k : Int) ∧ k ≤ n ∧ p = .int .i64 (2 ^ k)) (fun _ i => n - (intOf i).toNat)
  case atStart => exact ⟨0, rfl, by omega, by simp⟩
  case round =>
    obtain ⟨k, rfl, hk, rfl⟩ := hrel
    have ⟨b1, b2⟩ := pow_bd k (by omega)
    by_cases hlt : k < n
    · go_wp2
      go_round
      case rel => exact ⟨k + 1, by go_num, by omega, by rw [Int.pow_succ]; go_num⟩
      case measure => simp [intOf]; omega
    · obtain rfl : k = n := by omega
      go_wp2
      go_ret
      exact ⟨rfl, rfl⟩

theorem pi_refRest (c : Int) (h0 : 0 ≤ c) (h1 : c ≤ 255) (n : Int) (k : Nat) (hk : k = max 1 (min 8 n)) (w : World) :
    Calls Try.prog 12 #[.int .u8 c, .int .i64 n] w fun e w' => e = .returned (.int .u8 (restN c k)) ∧ w = w' := by
  have hk8 : k ≤ 8 := by omega
  have ⟨b1, b2⟩ := pow_bd k hk8
  have ⟨r1, r2, r3, r4⟩ := restN_bd c h0 h1 k hk8
  clear r3
  have HR := hide (show c / 2 ^ k * 2 ^ k = restN c k from rfl)
  by_cases c1 : n ≤ 1
  · skip
    have HK := hide (show (1 : Int) = k by omega)
    clear hk
    go_enter Try.func12, Try.ntmps12
    go_wp2_with fail
    refine (pi_pow _ k HK.out hk8 _).mono ?_; rintro e w' ⟨rfl, rfl⟩
    have hr := HR.out
    go_wp2
    go_ret
    exact ⟨rfl, rfl⟩
  by_cases c2 : 8 ≤ n
  · skip
    have HK := hide (show (8 : Int) = k by omega)
    clear hk
    go_enter Try.func12, Try.ntmps12
    go_wp2_with fail
    refine (pi_pow _ k HK.out hk8 _).mono ?_; rintro e w' ⟨rfl, rfl⟩
    have hr := HR.out
    go_wp2
    go_ret
    exact ⟨rfl, rfl⟩
  · have c1' : 1 < n := by omega
    have c2' : n < 8 := by omega
    have HK := hide (show n = k by omega)
    clear hk c1 c2
    go_enter Try.func12, Try.ntmps12
    go_wp2_with fail
    refine (pi_pow _ k HK.out hk8 _).mono ?_; rintro e w' ⟨rfl, rfl⟩
    have hr := HR.out
    go_wp2
    go_ret
    exact ⟨rfl, rfl⟩

end Go.Proofs.Ytfnkjcdkogipbaa
