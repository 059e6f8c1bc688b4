/-
  Layer 2: the document's Code.
-/
import Derived.Test.YtjnjganmdbkpoaaHfEnum
namespace Go.Proofs.Ytjnjganmdbkpoaa
open Go.RowKit

set_option maxRecDepth 100000 in
set_option maxHeartbeats 1600000 in
theorem rf_Code (c : Nat) (hc : c < 256) (w : World) : Calls Try.prog 9 #[.int .u8 (c : Nat)] w fun e w' => e = .returned (.tuple #[.int .i64 (bitsL.getD c 0 : Nat), .int .i64 (lensL.getD c 0 : Nat)]) ∧ w = w' := by
  obtain ⟨E, hE⟩ : ∃ E, E = stE := ⟨_, rfl⟩
  have HE := hide hE
  have hl := lens_le c hc
  obtain ⟨L, hL⟩ : ∃ L, L = lensL.getD c 0 := ⟨_, rfl⟩
  obtain ⟨X, hX⟩ : ∃ X, X = bitsL.getD c 0 := ⟨_, rfl⟩
  rw [← hL] at hl ⊢
  rw [← hX]
  have HL := hide hL
  have HX := hide hX
  obtain ⟨hl1, hl2⟩ := hl
  clear hL hX hE
  go_enter Try.func9, Try.ntmps9
  go_wp2
  go_loop [4, 5, 6, 7, 8] (fun co at_ fi nn xx => ∃ n : Nat, n < L ∧ nn = .int .i64 ((n : Int) + 1) ∧ co = .int .i64 ((E (n * 256)).1 : Nat) ∧ at_ = .int .i64 ((E (n * 256)).2.1 : Nat) ∧ fi = .bool (E (n * 256)).2.2)
    (fun _ _ _ nn _ => 31 - (intOf nn).toNat)
  case atStart => exact ⟨0, by omega, rfl, by rw [HE.out]; rfl, by rw [HE.out]; rfl, by rw [HE.out]; rfl⟩
  case round =>
    obtain ⟨n, hn, rfl, rfl, rfl, rfl⟩ := hrel
    have hn30 : (n : Int) + 1 ≤ 30 := by omega
    have hnn : n < 30 := by omega
    go_wp2
    go_loop [4, 5, 6, 8] (fun co at_ fi xx => ∃ x : Nat, x ≤ 256 ∧ (n + 1 = L → x ≤ c) ∧ xx = .int .i64 (x : Int) ∧ co = .int .i64 ((E (n * 256 + x)).1 : Nat) ∧ at_ = .int .i64 ((E (n * 256 + x)).2.1 : Nat) ∧ fi = .bool (E (n * 256 + x)).2.2)
      (fun _ _ _ xx => 256 - (intOf xx).toNat)
    case atStart => exact ⟨0, by omega, fun _ => by omega, rfl, rfl, rfl, rfl⟩
    case round =>
      obtain ⟨x, hx, hxc, rfl, rfl, rfl, rfl⟩ := hrel
      have HXC := hide hxc
      clear hxc
      by_cases h256 : x < 256
      · have hx256 : (x : Int) < 256 := by omega
        have hs := stE_ok n x hnn h256
        rw [← HE.out] at hs
        obtain ⟨s1, s2, s3, s4⟩ := hs
        have HS3 := hide s3
        have HS4 := hide s4
        obtain ⟨y, hy⟩ : ∃ y, y = lensL.getD x 0 := ⟨_, rfl⟩
        have hrl := rf_length x h256
        rw [← hy] at hrl
        have HY := hide hy
        have HRL := hide hrl
        obtain ⟨co, at_, fi, hst⟩ : ∃ co at_, ∃ fi : Bool, E (n * 256 + x) = (co, at_, fi) := ⟨_, _, _, rfl⟩
        rw [hst] at s1 s2 s3 s4 ⊢
        simp only [] at s1 s2 s3 s4 ⊢
        have HST := hide hst
        by_cases hyn : y = n + 1
        · obtain ⟨s5, s6⟩ := s3 (by rw [← hy]; exact hyn)
          have HN := hide s5
          have hyne : ¬ (y : Int) ≠ (n : Int) + 1 := by omega
          have hye : ((y : Int) != (n : Int) + 1) = false := by simp; omega
          obtain ⟨C0, hC0⟩ : ∃ C0, C0 = if fi then co else co + 1 := ⟨_, rfl⟩
          rw [← hC0] at s6
          have hbd : ∀ j, at_ ≤ j → j ≤ n + 1 → C0 * 2 ^ (j - at_) < 1073741824 := by
            intro j h1 h2
            have h3 : 2 ^ (j - at_) ≤ 2 ^ (n + 1 - at_) := Nat.pow_le_pow_right (by omega) (by omega)
            have h4 := Nat.mul_le_mul_left C0 h3
            have h5 := bits_bd x h256
            omega
          have HBD := hide hbd
          have HS6 := hide s6
          have s1' : (at_ : Int) ≤ (n : Int) + 1 := by omega
          have s2' : (co : Int) < 1073741824 := by omega
          have s2'' : (0 : Int) ≤ (co : Int) := by omega
          have hC0' : (C0 : Int) = if fi then (co : Int) else (co : Int) + 1 := by rw [hC0]; split <;> simp
          have HC0 := hide hC0'
          have HS1 := hide s1
          have HYN := hide hyn
          clear HS3 HS4 s1 s2 s3 s4 s5 s6 hy hst hC0 hC0' hbd hyn hrl
          cases fi
          all_goals
            have hc0 := HC0.out
            simp only [if_true, if_false, Bool.false_eq_true] at hc0
            have HC00 := hide hc0
            clear HC0 hc0
            go_wp2_with (go_at_call 19; refine (HRL.out _).mono ?_; rintro e w' ⟨rfl, rfl⟩)
            go_loop [4, 5] (fun co a => ∃ j : Nat, at_ ≤ j ∧ j ≤ n + 1 ∧ a = .int .i64 (j : Int) ∧ co = .int .i64 ((C0 * 2 ^ (j - at_) : Nat) : Int)) (fun _ a => 31 - (intOf a).toNat)
            case atStart => exact ⟨at_, by omega, HS1.out, rfl, by rw [Nat.sub_self, Nat.pow_zero, Nat.mul_one, HC00.out]⟩
            case round =>
              obtain ⟨j, hj1, hj2, rfl, rfl⟩ := hrel
              by_cases hjn : j < n + 1
              · have hji : (j : Int) < (n : Int) + 1 := by omega
                have hb := HBD.out (j + 1) (by omega) (by omega)
                have hsucc : C0 * 2 ^ (j + 1 - at_) = 2 * (C0 * 2 ^ (j - at_)) := by rw [show j + 1 - at_ = (j - at_) + 1 by omega, Nat.pow_succ]; rw [Nat.mul_comm 2, Nat.mul_assoc]
                rw [hsucc] at hb
                obtain ⟨v, hv⟩ : ∃ v, v = C0 * 2 ^ (j - at_) := ⟨_, rfl⟩
                rw [← hv] at hb hsucc ⊢
                have HSU := hide hsucc
                clear hsucc hv
                go_wp2
                go_round
                case rel => exact ⟨j + 1, by omega, by omega, by go_num, by rw [HSU.out]; go_num⟩
                case measure => simp [intOf]; omega
              · have hji : ¬ (j : Int) < (n : Int) + 1 := by omega
                obtain rfl : j = n + 1 := by omega
                rw [HS6.out]
                have hxb := bits_bd x h256
                obtain ⟨v, hv⟩ : ∃ v, v = bitsL.getD x 0 := ⟨_, rfl⟩
                rw [← hv] at hxb ⊢
                have HV := hide hv
                clear hv
                by_cases hxc : x = c
                · subst hxc
                  have hxe : ((x : Int) == (x : Int)) = true := by simp
                  go_wp2
                  go_ret2
                  exact ⟨ret_num2 (a := (v : Int)) (c := (n : Int) + 1) (by rw [HV.out, HX.out]) (by have h1 := HL.out; have h2 := HY.out; have h3 := HYN.out; omega), rfl⟩
                · have hxe : ((x : Int) == (c : Int)) = false := by simp; omega
                  go_wp2
                  go_round
                  case rel => exact ⟨x + 1, by omega, fun h => by have := HXC.out h; omega, by go_num, by rw [HN.out, HV.out], by rw [HN.out], by rw [HN.out]⟩
                  case measure => simp [intOf]; omega
        · have hyne : ((y : Int) != (n : Int) + 1) = true := by simp; omega
          have HN := hide (s4 (by rw [← hy]; exact hyn))
          have HYN := hide hyn
          clear HS3 HS4 s1 s2 s3 s4 hy hst hyn hrl
          go_wp2_with (go_at_call 19; refine (HRL.out _).mono ?_; rintro e w' ⟨rfl, rfl⟩)
          go_round
          case rel => exact ⟨x + 1, by omega, fun h => by have h0 := HXC.out h; have h1 := HL.out; have h2 := HY.out; have h3 := HYN.out; by_cases hxc : x = c; subst hxc; omega; omega, by go_num, by rw [HN.out], by rw [HN.out], by rw [HN.out]⟩
          case measure => simp [intOf]; omega
      · have hge : ¬ (x : Int) < 256 := by omega
        have hx256 : x = 256 := by omega
        have HX2 := hide (show n * 256 + x = (n + 1) * 256 by omega)
        have HNL := hide (show n + 1 < L by
          by_cases h : n + 1 = L
          · have := HXC.out h; omega
          · omega)
        clear hx256
        go_wp2
        go_round
        case rel => exact ⟨n + 1, HNL.out, by go_num, by rw [HX2.out], by rw [HX2.out], by rw [HX2.out]⟩
        case measure => simp [intOf]; omega
end Go.Proofs.Ytjnjganmdbkpoaa
