/-
  HuffPrefix: its walk: for every two bytes the Go text returns true, and leaves what was there as it was.
-/
import Derived.Test.YtjnjganmdbkpoaaHfAwake
namespace Go.Proofs.Ytjnjganmdbkpoaa.huffPrefix
open Go.RowKit Go.ChangeShapes Go.Proofs.Ytjnjganmdbkpoaa

def sumP (k : Nat) : Nat := 1 + ((lensL.take k).map fun n => 2 ^ (30 - n)).sum
theorem sumP_bd : ∀ k, k < 257 → sumP k ≤ 1073741824 := by decide +kernel
theorem sumP_all : sumP 256 = 1073741824 := by decide +kernel
theorem sumP_succ (k : Nat) (h : k < 256) : sumP (k + 1) = sumP k + 2 ^ (30 - lensL.getD k 0) := by
  have hl : k < lensL.length := by rw [lensL_len]; exact h
  unfold sumP
  rw [take_snoc' lensL k hl]
  simp
  omega

theorem apart (a b : Nat) (ha : a < 256) (hb : b < 256) (hne : a ≠ b) (hl : lensL.getD a 0 ≤ lensL.getD b 0) : bitsL.getD b 0 / 2 ^ (lensL.getD b 0 - lensL.getD a 0) ≠ bitsL.getD a 0 := by
  intro h
  refine hne (cd_free a b ha hb ?_)
  unfold cd
  rw [show lensL.getD b 0 = lensL.getD a 0 + (lensL.getD b 0 - lensL.getD a 0) by omega, bitsOf_add]
  rw [h]
  exact List.prefix_append _ _

set_option maxRecDepth 100000 in
set_option maxHeartbeats 1600000 in
theorem walk_nat (a b : Nat) (ha : a < 256) (hb : b < 256) (w : World) :
    Calls Try.prog 6 #[.int .u8 (a : Nat), .int .u8 (b : Nat)] w fun e w' => e = .returned (.bool true) ∧ Below w.heap.size w w' := by
  have ⟨a1, a2⟩ := lens_le a ha
  have ⟨b1, b2⟩ := lens_le b hb
  have a5 := lens_ge a ha
  have b5 := lens_ge b hb
  have xb := bits_bd a ha
  have yb := bits_bd b hb
  have hap := apart a b ha hb
  have C1 := hf_Code a ha
  have C2 := hf_Code b hb
  obtain ⟨n, hn⟩ : ∃ n, n = lensL.getD a 0 := ⟨_, rfl⟩
  obtain ⟨m, hm⟩ : ∃ m, m = lensL.getD b 0 := ⟨_, rfl⟩
  obtain ⟨x, hx⟩ : ∃ x, x = bitsL.getD a 0 := ⟨_, rfl⟩
  obtain ⟨y, hy⟩ : ∃ y, y = bitsL.getD b 0 := ⟨_, rfl⟩
  rw [← hn] at a1 a2 a5 hap C1
  rw [← hm] at b1 b2 b5 hap C2
  rw [← hx] at xb hap C1
  rw [← hy] at yb hap C2
  have n1 : (5 : Int) ≤ (n : Int) := by omega
  have n2 : (n : Int) ≤ 30 := by omega
  have m1 : (5 : Int) ≤ (m : Int) := by omega
  have m2 : (m : Int) ≤ 30 := by omega
  have H1 := hide C1
  have H2 := hide C2
  have HAP := hide hap
  clear C1 C2 hap hn hm hx hy a1 a2 a5 b1 b2 b5 xb yb
  go_enter Try.func6, Try.ntmps6
  go_wp2_with fail
  refine (H1.out _).mono ?_
  rintro e w1 ⟨rfl, hb1⟩
  go_wp2_with fail
  refine (H2.out _).mono ?_
  rintro e w2 ⟨rfl, hb2⟩
  have HB2 := hide (hb1.trans (hb2.mono hb1.size))
  clear hb1 hb2 H1 H2
  have key : ∀ W : World, True := fun _ => trivial
  clear key
  by_cases hab : a = b
  · have hne : ((a : Int) != (b : Int)) = false := by simp [hab]
    have hnab : ¬ ((a : Int) ≠ (b : Int)) := by omega
    go_wp2
    go_loopw [9, 10, 11, 12, 60] (fun sm i aa bb cc wr => ∃ k : Nat, k ≤ 256 ∧ i = .int .i64 (k : Int) ∧ sm = .int .u64 ((sumP k : Nat) : Int) ∧ Below w.heap.size w wr) (fun _ i _ _ _ _ => 256 - (intOf i).toNat)
    case atStart => exact ⟨0, by omega, rfl, rfl, HB2.out⟩
    case round =>
      obtain ⟨k, hk, rfl, rfl, hbel⟩ := hrel
      have HBEL := hide hbel
      clear hbel HB2
      by_cases hlt : k < 256
      · have hlt' : (k : Int) < 256 := by omega
        have hmod : (k : Int) % 256 = (k : Int) := by omega
        have C3 := hf_Code k hlt
        have ⟨l1, l2⟩ := lens_le k hlt
        have hs := sumP_succ k hlt
        have hb1 := sumP_bd (k + 1) (by omega)
        obtain ⟨q, hq⟩ : ∃ q, q = lensL.getD k 0 := ⟨_, rfl⟩
        rw [← hq] at C3 l1 l2 hs
        have q1 : (1 : Int) ≤ (q : Int) := by omega
        have q2 : (q : Int) ≤ 30 := by omega
        obtain ⟨j, hj⟩ : ∃ j, j = 30 - q := ⟨_, rfl⟩
        have hsub : 30 - (q : Int) = (j : Int) := by omega
        rw [← hj] at hs
        obtain ⟨S, hS⟩ : ∃ S, S = sumP k := ⟨_, rfl⟩
        rw [← hS] at hs ⊢
        obtain ⟨p, hp⟩ : ∃ p, p = 2 ^ j := ⟨_, rfl⟩
        have hwp : IntKind.u64.wrap (2 ^ j) = (p : Int) := by
          have hj31 : 2 ^ j ≤ 2 ^ 30 := Nat.pow_le_pow_right (by omega) (by omega)
          rw [IntKind.wrap_u64, hp]
          have : ((2 ^ j : Nat) : Int) = (2 : Int) ^ j := by simp
          rw [← this]
          omega
        rw [← hp] at hs
        have hsi : (S : Int) + (p : Int) ≤ 1073741824 := by omega
        have hs0 : (0 : Int) ≤ (S : Int) + (p : Int) := by omega
        have HC3 := hide C3
        have HS := hide hs
        clear C3 hs hb1 hq hj hS hp l1 l2
        go_wp2_with (go_at_call 8; refine (HC3.out _).mono ?_; rintro e w3 ⟨rfl, hb3⟩; have HB3 := hide (HBEL.out.trans (hb3.mono HBEL.out.size)); clear hb3)
        go_roundw
        case rel => exact ⟨k + 1, by omega, by go_num, by rw [HS.out]; go_num, HB3.out⟩
        case measure => simp [intOf] <;> omega
      · have hge : ¬ (k : Int) < 256 := by omega
        obtain rfl : k = 256 := by omega
        rw [sumP_all]
        go_wp2_with fail
        refine (aw_awake _).mono ?_
        rintro e w9 ⟨rfl, hb9⟩
        have HB9 := hide (HBEL.out.trans (hb9.mono HBEL.out.size))
        clear hb9
        go_wp2_with fail
        go_ret
        exact ⟨rfl, HB9.out⟩
  · have hne : ((a : Int) != (b : Int)) = true := by simp; omega
    by_cases hnm : n ≤ m
    · have hnmi : (n : Int) ≤ (m : Int) := by omega
      obtain ⟨k, hk⟩ : ∃ k, k = m - n := ⟨_, rfl⟩
      have hsub : (m : Int) - (n : Int) = (k : Int) := by omega
      have hq := HAP.out hab hnm
      rw [← hk] at hq
      have hqi : ((y : Int) / 2 ^ k == (x : Int)) = false := by
        rw [beq_eq_false_iff_ne]
        intro h
        apply hq
        have e : ((y / 2 ^ k : Nat) : Int) = (x : Int) := by rw [← h]; simp
        omega
      have hk30 : (k : Int) ≤ 30 := by omega
      clear hk hq hab hnm
      go_wp2
      go_loopw [9, 10, 11, 12, 60] (fun sm i aa bb cc wr => ∃ k : Nat, k ≤ 256 ∧ i = .int .i64 (k : Int) ∧ sm = .int .u64 ((sumP k : Nat) : Int) ∧ Below w.heap.size w wr) (fun _ i _ _ _ _ => 256 - (intOf i).toNat)
      case atStart => exact ⟨0, by omega, rfl, rfl, HB2.out⟩
      case round =>
        obtain ⟨k, hk, rfl, rfl, hbel⟩ := hrel
        have HBEL := hide hbel
        clear hbel HB2
        by_cases hlt : k < 256
        · have hlt' : (k : Int) < 256 := by omega
          have hmod : (k : Int) % 256 = (k : Int) := by omega
          have C3 := hf_Code k hlt
          have ⟨l1, l2⟩ := lens_le k hlt
          have hs := sumP_succ k hlt
          have hb1 := sumP_bd (k + 1) (by omega)
          obtain ⟨q, hq⟩ : ∃ q, q = lensL.getD k 0 := ⟨_, rfl⟩
          rw [← hq] at C3 l1 l2 hs
          have q1 : (1 : Int) ≤ (q : Int) := by omega
          have q2 : (q : Int) ≤ 30 := by omega
          obtain ⟨j, hj⟩ : ∃ j, j = 30 - q := ⟨_, rfl⟩
          have hsub : 30 - (q : Int) = (j : Int) := by omega
          rw [← hj] at hs
          obtain ⟨S, hS⟩ : ∃ S, S = sumP k := ⟨_, rfl⟩
          rw [← hS] at hs ⊢
          obtain ⟨p, hp⟩ : ∃ p, p = 2 ^ j := ⟨_, rfl⟩
          have hwp : IntKind.u64.wrap (2 ^ j) = (p : Int) := by
            have hj31 : 2 ^ j ≤ 2 ^ 30 := Nat.pow_le_pow_right (by omega) (by omega)
            rw [IntKind.wrap_u64, hp]
            have : ((2 ^ j : Nat) : Int) = (2 : Int) ^ j := by simp
            rw [← this]
            omega
          rw [← hp] at hs
          have hsi : (S : Int) + (p : Int) ≤ 1073741824 := by omega
          have hs0 : (0 : Int) ≤ (S : Int) + (p : Int) := by omega
          have HC3 := hide C3
          have HS := hide hs
          clear C3 hs hb1 hq hj hS hp l1 l2
          go_wp2_with (go_at_call 8; refine (HC3.out _).mono ?_; rintro e w3 ⟨rfl, hb3⟩; have HB3 := hide (HBEL.out.trans (hb3.mono HBEL.out.size)); clear hb3)
          go_roundw
          case rel => exact ⟨k + 1, by omega, by go_num, by rw [HS.out]; go_num, HB3.out⟩
          case measure => simp [intOf] <;> omega
        · have hge : ¬ (k : Int) < 256 := by omega
          obtain rfl : k = 256 := by omega
          rw [sumP_all]
          go_wp2_with fail
          refine (aw_awake _).mono ?_
          rintro e w9 ⟨rfl, hb9⟩
          have HB9 := hide (HBEL.out.trans (hb9.mono HBEL.out.size))
          clear hb9
          go_wp2_with fail
          go_ret
          exact ⟨rfl, HB9.out⟩
    · have hnmi : ¬ (n : Int) ≤ (m : Int) := by omega
      clear hab hnm
      go_wp2
      go_loopw [9, 10, 11, 12, 60] (fun sm i aa bb cc wr => ∃ k : Nat, k ≤ 256 ∧ i = .int .i64 (k : Int) ∧ sm = .int .u64 ((sumP k : Nat) : Int) ∧ Below w.heap.size w wr) (fun _ i _ _ _ _ => 256 - (intOf i).toNat)
      case atStart => exact ⟨0, by omega, rfl, rfl, HB2.out⟩
      case round =>
        obtain ⟨k, hk, rfl, rfl, hbel⟩ := hrel
        have HBEL := hide hbel
        clear hbel HB2
        by_cases hlt : k < 256
        · have hlt' : (k : Int) < 256 := by omega
          have hmod : (k : Int) % 256 = (k : Int) := by omega
          have C3 := hf_Code k hlt
          have ⟨l1, l2⟩ := lens_le k hlt
          have hs := sumP_succ k hlt
          have hb1 := sumP_bd (k + 1) (by omega)
          obtain ⟨q, hq⟩ : ∃ q, q = lensL.getD k 0 := ⟨_, rfl⟩
          rw [← hq] at C3 l1 l2 hs
          have q1 : (1 : Int) ≤ (q : Int) := by omega
          have q2 : (q : Int) ≤ 30 := by omega
          obtain ⟨j, hj⟩ : ∃ j, j = 30 - q := ⟨_, rfl⟩
          have hsub : 30 - (q : Int) = (j : Int) := by omega
          rw [← hj] at hs
          obtain ⟨S, hS⟩ : ∃ S, S = sumP k := ⟨_, rfl⟩
          rw [← hS] at hs ⊢
          obtain ⟨p, hp⟩ : ∃ p, p = 2 ^ j := ⟨_, rfl⟩
          have hwp : IntKind.u64.wrap (2 ^ j) = (p : Int) := by
            have hj31 : 2 ^ j ≤ 2 ^ 30 := Nat.pow_le_pow_right (by omega) (by omega)
            rw [IntKind.wrap_u64, hp]
            have : ((2 ^ j : Nat) : Int) = (2 : Int) ^ j := by simp
            rw [← this]
            omega
          rw [← hp] at hs
          have hsi : (S : Int) + (p : Int) ≤ 1073741824 := by omega
          have hs0 : (0 : Int) ≤ (S : Int) + (p : Int) := by omega
          have HC3 := hide C3
          have HS := hide hs
          clear C3 hs hb1 hq hj hS hp l1 l2
          go_wp2_with (go_at_call 8; refine (HC3.out _).mono ?_; rintro e w3 ⟨rfl, hb3⟩; have HB3 := hide (HBEL.out.trans (hb3.mono HBEL.out.size)); clear hb3)
          go_roundw
          case rel => exact ⟨k + 1, by omega, by go_num, by rw [HS.out]; go_num, HB3.out⟩
          case measure => simp [intOf] <;> omega
        · have hge : ¬ (k : Int) < 256 := by omega
          obtain rfl : k = 256 := by omega
          rw [sumP_all]
          go_wp2_with fail
          refine (aw_awake _).mono ?_
          rintro e w9 ⟨rfl, hb9⟩
          have HB9 := hide (HBEL.out.trans (hb9.mono HBEL.out.size))
          clear hb9
          go_wp2_with fail
          go_ret
          exact ⟨rfl, HB9.out⟩

theorem walk (a0 a1 : Int) (w : World) (w0 : (Lit.int .u8 a0).wf = true) (w1 : (Lit.int .u8 a1).wf = true) :
    Calls Try.prog 6 #[.int .u8 a0, .int .u8 a1] w fun e w' => e = .returned (.bool true) ∧ Below w.heap.size w w' := by
  obtain ⟨h0, h1⟩ := bounds_u8 w0
  obtain ⟨g0, g1⟩ := bounds_u8 w1
  have := walk_nat a0.toNat a1.toNat (by omega) (by omega) w
  rwa [show ((a0.toNat : Nat) : Int) = a0 by omega, show ((a1.toNat : Nat) : Int) = a1 by omega] at this
end Go.Proofs.Ytjnjganmdbkpoaa.huffPrefix
