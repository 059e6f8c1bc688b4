/-
  Layer 2: the document's Encode.
-/
import Derived.Test.YtjnjganmdbkpoaaHfRef2
namespace Go.Proofs.Ytjnjganmdbkpoaa
open Go.RowKit

theorem bitsP_two (l : List Nat) : ∀ x ∈ bitsP l, x = 0 ∨ x = 1 := by
  intro x hx
  rw [bitsP, List.mem_append] at hx
  rcases hx with hx | hx
  · exact tb_bytes l x hx
  · exact .inr (List.eq_of_mem_replicate hx)
theorem bitsP_len (l : List Nat) : ∃ q, (bitsP l).length = 8 * q := by
  refine ⟨((tb l).length + padN (tb l).length) / 8, ?_⟩
  rw [bitsP, List.length_append, List.length_replicate, padN]
  omega
theorem bitsP_le (l : List Nat) (h : ∀ c ∈ l, c < 256) : (bitsP l).length ≤ 30 * l.length + 8 := by
  have := sumL_le l h
  rw [bitsP, List.length_append, List.length_replicate, tb_len, padN]
  omega

set_option maxRecDepth 100000 in
set_option maxHeartbeats 1600000 in
theorem rf_Encode (s : ByteArray) (hs : (s.size : Int) ≤ 1000) (w : World) :
    Calls Try.prog 11 #[.string s] w (GivesEnc (sb s) w) := by
  obtain ⟨i0, hi0, hz0, hz1, hz2⟩ := info_parts u8_info
  obtain ⟨B, hB⟩ : ∃ B, B = w.heap.size := ⟨_, rfl⟩
  have HB := hide hB
  have HBits := hide (rf_Bits s hs w)
  clear hB
  go_enter Try.func11, Try.ntmps11
  go_wp2_with fail
  refine HBits.out.mono ?_
  rintro e w1 ⟨v1, rfl, hown1, hb1⟩
  obtain ⟨P, hP⟩ : ∃ P, P = bitsP (sb s) := ⟨_, rfl⟩
  have h2 := bitsP_two (sb s)
  obtain ⟨q, hq⟩ := bitsP_len (sb s)
  have hle := bitsP_le (sb s) (sb_lt s)
  rw [sb_len] at hle
  rw [← hP] at hown1 h2 hq hle
  have HPP := hide hP
  obtain ⟨A1, c1, rfl⟩ := own_form hown1
  rw [hq] at hown1 hle ⊢
  have HRL := hide (rl_of_own hown1).1
  have H2 := hide h2
  have HQ := hide hq
  have hq8 : ((8 * q : Nat) : Int) ≤ 40000 := by omega
  have HB1 := hide hb1
  obtain ⟨N, hN⟩ : ∃ N, N = 8 * q := ⟨_, rfl⟩
  rw [← hN] at hq8 HRL ⊢
  have HN := hide hN
  clear hown1 h2 hq hle hP hb1 hN HBits
  go_wp2
  go_loopw [4, 5, 6, 7] (fun o i nn kk wr => ∃ (I m : Nat) (ys : List Int), i = .int .i64 (I : Int) ∧ I = 8 * m ∧ I ≤ N ∧ wr.ownsRow w1.heap.size 5 1 o ys.length (u8s ys) ∧ (∀ x ∈ ys, 0 ≤ x ∧ x ≤ 255) ∧
      unpackI ys = P.take I ∧ Below w1.heap.size w1 wr)
    (fun _ i _ _ _ => N - (intOf i).toNat)
  case atStart => exact ⟨0, 0, [], rfl, rfl, by omega, World.ownsRow_nil _ _ _ _, by simp, by simp [unpackI], Below.refl _ _⟩
  case round =>
    obtain ⟨I, m, ys, rfl, hI, hIN, hown, hys, hun, hbel⟩ := hrel
    have HI := hide hI
    have HO := hide hown
    have HY := hide hys
    have HU := hide hun
    have HBEL := hide hbel
    clear hI hown hys hun hbel
    by_cases hlt : I < N
    · have hlt' : (I : Int) < (N : Int) := by omega
      have hI8 : I + 8 ≤ N := by have := HI.out; have := HN.out; omega
      go_wp2
      go_loop [6, 7] (fun nn kk => ∃ (k H : Nat), kk = .int .i64 (k : Int) ∧ k ≤ 8 ∧ nn = .int .i64 (H : Int) ∧ H < 2 ^ k ∧ bitsOf H k = (P.drop I).take k) (fun _ kk => 8 - (intOf kk).toNat)
      case atStart => exact ⟨0, 0, rfl, by omega, rfl, by omega, by simp [bitsOf]⟩
      case round =>
        obtain ⟨k, H, rfl, hk, rfl, hH, hbt⟩ := hrel
        have HBT := hide hbt
        have hp8 : 2 ^ k ≤ 2 ^ 8 := Nat.pow_le_pow_right (by omega) hk
        have hH8 : (H : Int) < 256 := by omega
        have HH := hide hH
        clear hbt hp8 hH
        by_cases hk8 : k < 8
        · have hk8' : (k : Int) < 8 := by omega
          have hrw := HRL.out.below HBEL.out
          obtain ⟨b, off, hAe, hbl, hcell⟩ := hrw.2 (by omega)
          have hc := hcell (I + k) (by omega)
          have hIk : I + k < P.length := by rw [HQ.out, ← HN.out]; omega
          have hb2 := H2.out (P.getD (I + k) 0) (by rw [List.getD, List.getElem?_eq_getElem hIk]; exact List.getElem_mem hIk)
          obtain ⟨z, hz⟩ : ∃ z : Nat, P.getD (I + k) 0 = (z : Int) := ⟨(P.getD (I + k) 0).toNat, by rcases hb2 with h | h <;> omega⟩
          have hzb : z < 2 := by rcases hb2 with h | h <;> omega
          rw [hz] at hc
          have hnew : bitsOf (2 * H + z) (k + 1) = (P.drop I).take (k + 1) := by
            rw [bitsOf, show (2 * H + z) / 2 = H by omega, show (2 * H + z) % 2 = z by omega, HBT.out, List.take_succ_eq_append_getElem (by rw [List.length_drop]; omega)]
            congr 1
            rw [List.getElem_drop, ← hz, List.getD, List.getElem?_eq_getElem hIk]
            rfl
          have HNEW := hide hnew
          have hIN' : (I : Int) + (k : Int) < (N : Int) := by omega
          have hI0 : (0 : Int) ≤ (I : Int) + (k : Int) := by omega
          have hnat : ((I : Int) + (k : Int)).toNat = I + k := by omega
          have HHb := hide (show 2 * H + z < 2 ^ (k + 1) by have := HH.out; rw [Nat.pow_succ]; omega)
          subst hAe
          clear hrw hcell hb2 hz hnew
          go_wp2
          go_round
          case rel => exact ⟨k + 1, 2 * H + z, by go_num, by omega, by go_num, HHb.out, HNEW.out⟩
          case measure => simp [intOf]; omega
        · have hk8' : ¬ (k : Int) < 8 := by omega
          have hk : k = 8 := by omega
          have hbt := HBT.out
          rw [hk] at hbt
          have HBT8 := hide hbt
          have hmod : (H : Int) % 256 = (H : Int) := by omega
          have HYL := hide (show (ys.length : Int) ≤ 10000 by
            have h1 := congrArg List.length HU.out
            rw [unpackI_len, List.length_take] at h1
            omega)
          clear hbt hk hk8
          go_wp2_with (at_builtin; refine wpList_append_own _ rfl (.tmp 30) (.tmp 33) 28 rfl w1.heap.size 5 i0 (.int .u8 0) 1 1 Try.underlying28 hi0 hz0 hz1 hz2 rfl (by decide) u4 ys.length (u8s ys) rfl (HO.out.alloc _) ⟨wr.heap.size, 0, none⟩ 1 1 [.int .u8 (H : Int)] rfl rfl (one_new _ _ _) (one_cell _ _) (by have := HYL.out; unfold maxLen; omega) (by have := HYL.out; omega) (by rw [World.size_alloc]; have := HBEL.out.size; omega) ?_; intro v3 w3 hown3 hg3 _; have HO3 := hide hown3; have HG3 := hide hg3; clear hown3 hg3)
          have hO3 := HO3.out
          rw [← u8s_snoc] at hO3
          have HO4 := hide hO3
          clear hO3
          go_roundw
          case rel =>
            refine ⟨I + 8, m + 1, ys ++ [(H : Int)], by go_num, by rw [HI.out]; omega, by omega, by simpa using HO4.out, ?_, ?_, own_below' (HO.out.alloc _) (HBEL.out.alloc HBEL.out.size _) (Nat.le_refl _) (Nat.le_refl _) HG3.out⟩
            · intro x hx
              rcases List.mem_append.1 hx with hx | hx
              · exact HY.out x hx
              · simp at hx; omega
            · rw [unpackI_snoc, HU.out, show ((H : Nat) : Int).toNat = H from rfl, HBT8.out, List.take_add]
          case measure => simp [intOf]; omega
    · have hge : ¬ (I : Int) < (N : Int) := by omega
      have hun := HU.out
      rw [List.take_of_length_le (by rw [HQ.out, ← HN.out]; omega), HPP.out] at hun
      have HUN := hide hun
      clear hun
      go_wp2
      go_ret
      refine ⟨_, ys, rfl, ⟨HY.out, padN (tb (sb s)).length, by unfold padN; omega, HUN.out⟩, own_base HO.out HB1.out.size, HB1.out.trans (HBEL.out.mono HB1.out.size)⟩
end Go.Proofs.Ytjnjganmdbkpoaa
