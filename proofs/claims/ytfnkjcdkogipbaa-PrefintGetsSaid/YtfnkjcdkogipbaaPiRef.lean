/-
  Contracts for the document's own answers of layer 1: Put, Size, Get; and Size of the program.
-/
import Derived.Test.YtfnkjcdkogipbaaPiGet
namespace Go.Proofs.Ytfnkjcdkogipbaa
open Go.RowKit

theorem rf_Put_arg (c : Int) (x n : Int) (hx : x < 1 ∨ 8 < x) (w : World) :
    Calls Try.prog 8 #[.int .u8 c, .int .i64 x, .int .i64 n] w fun e w' => e = .returned (.tuple #[.slice none 0 0, .int .i64 2]) ∧ w = w' := by
  by_cases h1 : x < 1
  · clear hx
    go_enter Try.func8, Try.ntmps8
    go_wp2
    go_ret2
    exact ⟨rfl, rfl⟩
  · have h1' : 1 ≤ x := by omega
    have h2 : 8 < x := by omega
    clear hx h1
    go_enter Try.func8, Try.ntmps8
    go_wp2
    go_ret2
    exact ⟨rfl, rfl⟩

theorem rf_Put_range (c : Int) (x n : Int) (h1 : 1 ≤ x) (h8 : x ≤ 8) (hn : n < 0 ∨ 268435455 < n) (w : World) :
    Calls Try.prog 8 #[.int .u8 c, .int .i64 x, .int .i64 n] w fun e w' => e = .returned (.tuple #[.slice none 0 0, .int .i64 8]) ∧ w = w' := by
  by_cases h0 : n < 0
  · clear hn
    go_enter Try.func8, Try.ntmps8
    go_wp2
    go_ret2
    exact ⟨rfl, rfl⟩
  · have h0' : 0 ≤ n := by omega
    have h2 : 268435455 < n := by omega
    clear hn h0
    go_enter Try.func8, Try.ntmps8
    go_wp2
    go_ret2
    exact ⟨rfl, rfl⟩

set_option maxHeartbeats 1600000 in
theorem rf_Put (c : Int) (h0 : 0 ≤ c) (h1 : c ≤ 255) (k n : Nat) (hk1 : 1 ≤ k) (hk8 : k ≤ 8) (hn : n < 268435456) (w : World) :
    Calls Try.prog 8 #[.int .u8 c, .int .i64 k, .int .i64 n] w (GivesPut w.heap.size (putI c k n) 0 w) := by
  have ⟨b1, b2⟩ := pow_bd k hk8
  have ⟨r1, r2, r3, r4⟩ := restN_bd c h0 h1 k hk8
  clear r3
  have e1 := nat_pow_int k
  by_cases hlow : n < 2 ^ k - 1
  · rw [putI_low hlow]
    have hl : (n : Int) < 2 ^ k - 1 := by omega
    clear hlow e1
    go_enter Try.func8, Try.ntmps8
    go_wp2_with (first
      | (go_at_call 20; refine (pi_pow _ k rfl hk8 _).mono ?_; rintro e w' ⟨rfl, rfl⟩)
      | (go_at_call 12; refine (pi_refRest c h0 h1 k k (by omega) _).mono ?_; rintro e w' ⟨rfl, rfl⟩))
    go_ret2
    exact ⟨_, rfl, own_one w _ _ (Nat.le_refl _), (Below.refl _ _).alloc (Nat.le_refl _) _⟩
  · obtain ⟨i0, hi0, hz0, hz1, hz2⟩ := info_parts u8_info
    rw [putI_high hlow]
    have hl : ¬ (n : Int) < 2 ^ k - 1 := by omega
    obtain ⟨m, hm⟩ : ∃ m, m = n - (2 ^ k - 1) := ⟨_, rfl⟩
    rw [← hm]
    have hm' : (n : Int) - (2 ^ k - 1) = (m : Int) := by omega
    have hml : m < 268435456 := by omega
    have HM := hide hm'
    clear hlow e1 hm hm'
    go_enter Try.func8, Try.ntmps8
    go_wp2_with (first
      | (go_at_call 20; refine (pi_pow _ k rfl hk8 _).mono ?_; rintro e w' ⟨rfl, rfl⟩)
      | (go_at_call 12; refine (pi_refRest c h0 h1 k k (by omega) _).mono ?_; rintro e w' ⟨rfl, rfl⟩))
    go_loopw [2, 9] (fun x b wr => ∃ (q : Nat) (ys : List Int), x = .int .i64 (q : Int) ∧ q < 268435456 ∧ ys.length + cnt q = 1 + cnt m ∧ wr.ownsRow w.heap.size 5 1 b ys.length (u8s ys) ∧ ys ++ grp q = [restN c k + (2 ^ k - 1)] ++ grp m ∧ Below w.heap.size w wr)
      (fun x _ _ => (intOf x).toNat)
    case atStart => exact ⟨m, [restN c k + (2 ^ k - 1)], by rw [HM.out], hml, by simp, own_one w _ _ (Nat.le_refl _), rfl, (Below.refl _ _).alloc (Nat.le_refl _) _⟩
    case round =>
      obtain ⟨q, ys, rfl, hq, hy, hownr, hg, hbel⟩ := hrel
      have hsz := hbel.size
      have c1 := cnt_le hml
      have hyl : ys.length ≤ 5 := by omega
      have HY := hide hy
      have HG := hide hg
      clear hy hg
      by_cases hlt : 128 ≤ q
      · have hlt' : (128 : Int) ≤ (q : Int) := by omega
        go_wp2_with (at_builtin; refine wpList_append_own _ rfl (.tmp 49) (.tmp 54) 22 rfl w.heap.size 5 i0 (.int .u8 0) 1 1 Try.underlying22 hi0 hz0 hz1 hz2 rfl (by decide) _ ys.length (u8s ys) rfl (hownr.alloc _) ⟨wr.heap.size, 0, none⟩ 1 1 [.int .u8 (128 + (q : Int) % 128)] rfl rfl (one_new _ _ _) (one_cell _ _) (by unfold maxLen; omega) (by omega) (by simp; omega) ?_; intro v1 w1 hown1 hg1 _)
        have hbel1 := own_below (hownr.alloc _) (hbel.alloc (by omega) _) (Nat.le_refl _) hg1
        rw [← u8s_snoc] at hown1
        go_roundw
        case rel =>
          refine ⟨q / 128, ys ++ [128 + (q : Int) % 128], by go_num, by omega, ?_, by simpa using hown1, ?_, hbel1⟩
          · have := HY.out
            rw [cnt_high hlt] at this
            simp; omega
          · have := HG.out
            rw [grp_high hlt] at this
            rw [← this]
            simp
        case measure => simp [intOf]; omega
      · have hlt' : ¬ (128 : Int) ≤ (q : Int) := by omega
        go_wp2_with (at_builtin; refine wpList_append_own _ rfl (.tmp 58) (.tmp 61) 22 rfl w.heap.size 5 i0 (.int .u8 0) 1 1 Try.underlying22 hi0 hz0 hz1 hz2 rfl (by decide) _ ys.length (u8s ys) rfl (hownr.alloc _) ⟨wr.heap.size, 0, none⟩ 1 1 [.int .u8 (q : Int)] rfl rfl (one_new _ _ _) (one_cell _ _) (by unfold maxLen; omega) (by omega) (by simp; omega) ?_; intro v1 w1 hown1 hg1 _)
        have hbel1 := own_below (hownr.alloc _) (hbel.alloc (by omega) _) (Nat.le_refl _) hg1
        rw [← u8s_snoc] at hown1
        go_ret2
        refine ⟨v1, rfl, ?_, hbel1⟩
        have e2 : (restN c k + (2 ^ k - 1)) :: grp m = ys ++ [(q : Int)] := by
          have := HG.out
          rw [grp_low (by omega)] at this
          exact this.symm
        rw [e2]
        simpa using hown1

theorem pi_Size (k n : Nat) (hk1 : 1 ≤ k) (hk8 : k ≤ 8) (hn : n < 268435456) (w : World) :
    Calls Try.prog 9 #[.int .i64 k, .int .i64 n] w fun e w' => e = .returned (.int .i64 (sizeN k n : Int)) ∧ w = w' := by
  have ⟨b1, b2⟩ := pow_bd k hk8
  have e1 := nat_pow_int k
  by_cases hlow : n < 2 ^ k - 1
  · rw [show sizeN k n = 1 from if_pos hlow]
    have hl : (n : Int) < 2 ^ k - 1 := by omega
    clear hlow e1
    go_enter Try.func9, Try.ntmps9
    go_wp2_with (first
      | (go_at_call 16; refine (pi_rightBits_yes _ (by omega) (by omega) _).mono ?_; rintro e w' ⟨rfl, rfl⟩)
      | (go_at_call 17; refine (pi_rightNumber_yes _ (by omega) (by omega) _).mono ?_; rintro e w' ⟨rfl, rfl⟩)
      | (go_at_call 18; refine (pi_lowest _ k rfl hk8 _).mono ?_; rintro e w' ⟨rfl, rfl⟩))
    go_ret
    exact ⟨rfl, rfl⟩
  · rw [show sizeN k n = 1 + cnt (n - (2 ^ k - 1)) from if_neg hlow]
    have hl : ¬ (n : Int) < 2 ^ k - 1 := by omega
    obtain ⟨m, hm⟩ : ∃ m, m = n - (2 ^ k - 1) := ⟨_, rfl⟩
    rw [← hm]
    have hm' : (n : Int) - (2 ^ k - 1) = (m : Int) := by omega
    have hml : m < 268435456 := by omega
    have hc := cnt_le hml
    have HM := hide hm'
    have hcg : Calls Try.prog 21 #[.int .i64 ((n : Int) - (2 ^ k - 1))] w fun e w' => e = .returned (.int .i64 (cnt m : Int)) ∧ w = w' := by
      rw [hm']; exact pi_countGroups m hml w
    have HC := hide hcg
    clear hlow e1 hm hm' hcg
    go_enter Try.func9, Try.ntmps9
    go_wp2_with (first
      | (go_at_call 16; refine (pi_rightBits_yes _ (by omega) (by omega) _).mono ?_; rintro e w' ⟨rfl, rfl⟩)
      | (go_at_call 17; refine (pi_rightNumber_yes _ (by omega) (by omega) _).mono ?_; rintro e w' ⟨rfl, rfl⟩)
      | (go_at_call 18; refine (pi_lowest _ k rfl hk8 _).mono ?_; rintro e w' ⟨rfl, rfl⟩)
      | (go_at_call 21; refine HC.out.mono ?_; rintro e w' ⟨rfl, rfl⟩))
    go_ret
    exact ⟨by go_num, rfl⟩

theorem pi_Size_no (x n : Int) (h : (x < 1 ∨ 8 < x) ∨ (n < 0 ∨ 268435455 < n)) (w : World) :
    Calls Try.prog 9 #[.int .i64 x, .int .i64 n] w fun e w' => e = .returned (.int .i64 0) ∧ w = w' := by
  by_cases hx : x < 1 ∨ 8 < x
  · have HX := hide hx
    clear h hx
    go_enter Try.func9, Try.ntmps9
    go_wp2_with (go_at_call 16; refine (pi_rightBits_no _ HX.out _).mono ?_; rintro e w' ⟨rfl, rfl⟩)
    go_ret
    exact ⟨rfl, rfl⟩
  · have HX := hide (show n < 0 ∨ 268435455 < n by omega)
    have h1 : 1 ≤ x := by omega
    have h2 : x ≤ 8 := by omega
    clear h hx
    go_enter Try.func9, Try.ntmps9
    go_wp2_with (first
      | (go_at_call 16; refine (pi_rightBits_yes _ (by omega) (by omega) _).mono ?_; rintro e w' ⟨rfl, rfl⟩)
      | (go_at_call 17; refine (pi_rightNumber_no _ HX.out _).mono ?_; rintro e w' ⟨rfl, rfl⟩))
    go_ret
    exact ⟨rfl, rfl⟩

/-- A slice that is owned: its value, spelt out. -/
theorem own_form {w : World} {B : Nat} {e : TypeId} {n : Nat} {v : Value} {xs : List Value} (h : w.ownsRow B e 1 v n xs) : ∃ A c, v = .slice A n c := by
  rcases h.2 with ⟨rfl, rfl⟩ | ⟨g, cap, cur, rfl, _⟩
  · exact ⟨none, 0, rfl⟩
  · exact ⟨_, cap, rfl⟩

theorem rf_Size (k n : Nat) (hk1 : 1 ≤ k) (hk8 : k ≤ 8) (hn : n < 268435456) (w : World) :
    Calls Try.prog 10 #[.int .i64 k, .int .i64 n] w fun e w' => e = .returned (.int .i64 (sizeN k n : Int)) ∧ Below w.heap.size w w' := by
  go_enter Try.func10, Try.ntmps10
  go_wp2_with fail
  refine (rf_Put 0 (by omega) (by omega) k n hk1 hk8 hn _).mono ?_
  rintro e w' ⟨v, rfl, hown, hbel⟩
  rw [putI_len] at hown
  obtain ⟨A, c, rfl⟩ := own_form hown
  go_wp2
  go_ret
  exact ⟨rfl, hbel⟩

theorem rf_Size_no (x n : Int) (h : (x < 1 ∨ 8 < x) ∨ (n < 0 ∨ 268435455 < n)) (w : World) :
    Calls Try.prog 10 #[.int .i64 x, .int .i64 n] w fun e w' => e = .returned (.int .i64 0) ∧ w = w' := by
  by_cases hx : x < 1 ∨ 8 < x
  · have HX := hide hx
    clear h hx
    go_enter Try.func10, Try.ntmps10
    go_wp2_with (go_at_call 8; refine (rf_Put_arg _ _ _ HX.out _).mono ?_; rintro e w' ⟨rfl, rfl⟩)
    go_ret
    exact ⟨rfl, rfl⟩
  · have HX := hide (show n < 0 ∨ 268435455 < n by omega)
    have h1 : 1 ≤ x := by omega
    have h2 : x ≤ 8 := by omega
    clear h hx
    go_enter Try.func10, Try.ntmps10
    go_wp2_with (go_at_call 8; refine (rf_Put_range _ _ _ h1 h2 HX.out _).mono ?_; rintro e w' ⟨rfl, rfl⟩)
    go_ret
    exact ⟨rfl, rfl⟩
theorem rf_Get_arg (v : Value) (x : Int) (hx : x < 1 ∨ 8 < x) (w : World) :
    Calls Try.prog 15 #[v, .int .i64 x] w fun e w' => e = .returned (.tuple #[.int .i64 0, .int .i64 0, .int .i64 2]) ∧ w = w' := by
  by_cases h1 : x < 1
  · clear hx
    go_enter Try.func15, Try.ntmps15
    go_wp2
    go_ret3
    exact ⟨rfl, rfl⟩
  · have h1' : 1 ≤ x := by omega
    have h2 : 8 < x := by omega
    clear hx h1
    go_enter Try.func15, Try.ntmps15
    go_wp2
    go_ret3
    exact ⟨rfl, rfl⟩

theorem tail_getD (xs : List Int) (k : Nat) : xs.tail.getD k 0 = xs.getD (k + 1) 0 := by simp [List.getD]

set_option maxHeartbeats 1600000 in
theorem rf_Get (A : Option Addr) (n cap : Nat) (xs : List Int) (k : Nat) (hk1 : 1 ≤ k) (hk8 : k ≤ 8) (w : World) (hr : RB w A n xs) (hnc : n ≤ cap) (hn : cap ≤ 9223372036854775807) :
    Calls Try.prog 15 #[.slice A n cap, .int .i64 k] w fun e w' => e = .returned (.tuple #[.int .i64 (getI xs k).1, .int .i64 (getI xs k).2.1, .int .i64 (getI xs k).2.2]) ∧ w = w' := by
  have hl := hr.1
  have ⟨b1, b2⟩ := pow_bd k hk8
  by_cases h0 : n = 0
  · subst h0
    rw [getI_nil hl]
    have HR := hide hr
    clear hr hl
    go_enter Try.func15, Try.ntmps15
    go_wp2
    go_ret3
    exact ⟨rfl, rfl⟩
  obtain ⟨b, off, rfl, hbl, hcell⟩ := hr.2.1 (by omega)
  have hc0 := hcell 0 (by omega)
  have hy := hr.2.2 0
  have hne : ((n : Int) == 0) = false := by simp; omega
  have hnp : (0 : Int) < n := by omega
  by_cases hlow : xs.getD 0 0 % 2 ^ k < 2 ^ k - 1
  · rw [getI_low (by omega) hlow]
    obtain ⟨y, hyy⟩ : ∃ y, y = xs.getD 0 0 := ⟨_, rfl⟩
    rw [← hyy] at hc0 hy hlow ⊢
    rw [Nat.add_zero] at hc0
    clear hcell hr hl hyy
    go_enter Try.func15, Try.ntmps15
    go_wp2_with (go_at_call 20; refine (pi_pow _ k rfl hk8 _).mono ?_; rintro e w' ⟨rfl, rfl⟩)
    go_ret3
    exact ⟨rfl, rfl⟩
  have hG : getI xs k = getT (2 ^ k - 1) (gg xs.tail 5 0 0) := getI_high (by omega) hlow
  obtain ⟨y, hyy⟩ : ∃ y, y = xs.getD 0 0 := ⟨_, rfl⟩
  rw [← hyy] at hc0 hy hlow
  rw [Nat.add_zero] at hc0
  have hmod : y % 2 ^ k = 2 ^ k - 1 := by
    have := Int.emod_lt_of_pos y (show (0 : Int) < 2 ^ k by omega)
    omega
  have HM := hide hmod
  have hlow' : ¬ y % 2 ^ k < 2 ^ k - 1 := hlow
  have HLEN := hide hl
  have HB := hide hr.2.2
  have HC := hide hcell
  have HG := hide hG
  clear hcell hr hl hyy hmod hG hlow
  go_enter Try.func15, Try.ntmps15
  go_wp2_with (go_at_call 20; refine (pi_pow _ k rfl hk8 _).mono ?_; rintro e w' ⟨rfl, rfl⟩)
  go_loop [8, 9, 10] (fun x u i => ∃ (j : Nat) (L : Int), i = .int .i64 ((j : Int) + 1) ∧ u = .int .i64 (2 ^ (j * 7)) ∧ x = .int .i64 (2 ^ k - 1 + L) ∧ j ≤ 5 ∧ 0 ≤ L ∧ L < 2 ^ (j * 7) ∧ gg xs.tail 5 0 0 = gg xs.tail (5 - j) j L)
    (fun _ _ i => 6 - (intOf i).toNat)
  case atStart => exact ⟨0, 0, rfl, rfl, by rw [HM.out]; simp, by omega, by omega, by simp, rfl⟩
  case round =>
    obtain ⟨j, L, rfl, rfl, rfl, hj, hL0, hL1, hg⟩ := hrel
    have hp7 := pow7_le j hj
    have hp0 : (0 : Int) < 2 ^ (j * 7) := Int.pow_pos (by omega)
    by_cases h5 : j = 5
    · subst h5
      have HG2 := hide hg
      clear hg
      go_wp2
      go_ret3
      rw [HG.out, HG2.out]
      exact ⟨rfl, rfl⟩
    have h5' : (j : Int) + 1 ≤ 5 := by omega
    by_cases hc : n ≤ j + 1
    · have HG2 := hide (hg.trans (show gg xs.tail (5 - j) j L = (0, 0, 3) by rw [show 5 - j = (4 - j) + 1 by omega]; exact gg_cut (by rw [List.length_tail, HLEN.out]; omega)))
      clear hg
      have hc' : (n : Int) ≤ (j : Int) + 1 := by omega
      go_wp2
      go_ret3
      rw [HG.out, HG2.out, getT_err (by omega)]
      exact ⟨rfl, rfl⟩
    · have hcl := HC.out (j + 1) (by omega)
      have hz := HB.out (j + 1)
      obtain ⟨z, hzz⟩ : ∃ z, z = xs.getD (j + 1) 0 := ⟨_, rfl⟩
      have hzt : xs.tail.getD j 0 = z := by rw [tail_getD, hzz]
      rw [← hzz] at hcl hz
      have hm := grow_bd (z % 128) L j (by omega) (by omega) hL0 hL1
      rw [Int.mul_comm (z % 128)] at hm
      have hc' : (j : Int) + 1 < n := by omega
      have hsucc : (128 : Int) * 2 ^ (j * 7) = 2 ^ ((j + 1) * 7) := by rw [Nat.add_mul, Int.pow_add, Int.mul_comm]; rfl
      have HS := hide hsucc
      have hp7' := pow7_le (j + 1) (by omega)
      clear hsucc
      obtain ⟨m1, m2, m3⟩ := hm
      by_cases hz8 : z < 128
      · have HG2 := hide (hg.trans (show gg xs.tail (5 - j) j L = (L + 2 ^ (j * 7) * (z % 128), (j : Int) + 1, 0) by rw [show 5 - j = (4 - j) + 1 by omega, Int.mul_comm, ← hzt]; exact gg_end (by rw [List.length_tail, HLEN.out]; omega) (by rw [hzt]; exact hz8)))
        clear hg hzz hzt
        by_cases hgr : 268435455 < (2 : Int) ^ k - 1 + (L + 2 ^ (j * 7) * (z % 128))
        · go_wp2
          go_ret3
          rw [HG.out, HG2.out, getT_great hgr]
          exact ⟨rfl, rfl⟩
        · go_wp2
          go_ret3
          rw [HG.out, HG2.out, getT_right (by omega)]
          refine ⟨?_, rfl⟩
          rw [show (2 : Int) ^ k - 1 + (L + 2 ^ (j * 7) * (z % 128)) = 2 ^ k - 1 + L + 2 ^ (j * 7) * (z % 128) by omega, show (1 : Int) + ((j : Int) + 1) = (j : Int) + 1 + 1 by omega]
          rfl
      · have HG2 := hide (hg.trans (show gg xs.tail (5 - j) j L = gg xs.tail (5 - (j + 1)) (j + 1) (L + 2 ^ (j * 7) * (z % 128)) by rw [show 5 - j = (5 - (j + 1)) + 1 by omega, Int.mul_comm, ← hzt]; exact gg_more (by rw [List.length_tail, HLEN.out]; omega) (by rw [hzt]; exact hz8)))
        clear hg hzz hzt
        go_wp2
        go_round
        case rel => exact ⟨j + 1, L + 2 ^ (j * 7) * (z % 128), by go_num, by rw [← HS.out], by rw [Int.add_assoc], by omega, by omega, m3, HG2.out⟩
        case measure => simp [intOf]; omega
end Go.Proofs.Ytfnkjcdkogipbaa
