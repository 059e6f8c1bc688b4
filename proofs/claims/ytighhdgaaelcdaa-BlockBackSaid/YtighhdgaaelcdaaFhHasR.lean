/-
  Layer 8: the document's Has.
-/
import Derived.Test.YtighhdgaaelcdaaFhMath
namespace Go.Proofs.Ytighhdgaaelcdaa
set_option linter.unusedSimpArgs false
set_option linter.unusedVariables false
open Go.RowKit

/-- What Has asks, bit by bit. -/
def hasN : Nat → Nat → Nat → Bool
  | 0, _, _ => true
  | k + 1, a, b => !(b % 2 == 1 && a % 2 == 0) && hasN k (a / 2) (b / 2)
theorem and_half (a b : Nat) : (a &&& b = b) ↔ (!(b % 2 == 1 && a % 2 == 0)) = true ∧ (a / 2 &&& b / 2 = b / 2) := by
  have h1 : (a &&& b) / 2 = a / 2 &&& b / 2 := by
    have := Nat.shiftRight_and_distrib (a := a) (b := b) (i := 1)
    simpa [Nat.shiftRight_eq_div_pow] using this
  have h2 : (a &&& b) % 2 = (a % 2) &&& (b % 2) := by
    have := Nat.and_mod_two_pow (a := a) (b := b) (n := 1)
    simpa using this
  have e : (a &&& b = b) ↔ (a &&& b) / 2 = b / 2 ∧ (a &&& b) % 2 = b % 2 := by omega
  rw [e, h1, h2, and_comm]
  have ha : a % 2 = 0 ∨ a % 2 = 1 := by omega
  have hb : b % 2 = 0 ∨ b % 2 = 1 := by omega
  rcases ha with ha | ha <;> rcases hb with hb | hb <;> simp [ha, hb]
theorem hasN_iff (k : Nat) : ∀ a b, b < 2 ^ k → (hasN k a b = true ↔ a &&& b = b) := by
  induction k with
  | zero => intro a b hb; obtain rfl : b = 0 := by simpa using hb
            simp [hasN]
  | succ k ih =>
    intro a b hb
    rw [and_half, hasN, Bool.and_eq_true, ih (a / 2) (b / 2) (by rw [Nat.pow_succ] at hb; omega)]
theorem hasB_hasN (a b : Nat) (ha : a < 256) (hb : b < 256) : hasB (a : Int) (b : Int) = hasN 8 a b := by
  rw [Bool.eq_iff_iff, hasN_iff 8 a b hb]
  unfold hasB
  rw [u8_and_nat a b ha hb, decide_eq_true_eq]
  omega

theorem hasN_bad {k a b : Nat} (h1 : b % 2 = 1) (h2 : a % 2 = 0) : hasN (k + 1) a b = false := by simp [hasN, h1, h2]
theorem hasN_good {k a b : Nat} (h : b % 2 = 0 ∨ a % 2 = 1) : hasN (k + 1) a b = hasN k (a / 2) (b / 2) := by
  rcases h with h | h <;> simp [hasN, h]

set_option maxHeartbeats 800000 in
theorem rf_Has (a b : Nat) (ha : a < 256) (hb : b < 256) (w : World) :
    Calls Try.prog 22 #[.int .u8 a, .int .u8 b] w fun e w' => e = .returned (.bool (hasB a b)) ∧ w = w' := by
  rw [hasB_hasN a b ha hb]
  obtain ⟨V, hV⟩ : ∃ V, V = hasN 8 a b := ⟨_, rfl⟩
  rw [← hV]
  have HV := hide hV
  clear hV
  go_enter Try.func22, Try.ntmps22
  go_wp2
  go_loop [0, 1, 5] (fun x y i => ∃ k p q : Nat, i = .int .i64 (k : Int) ∧ k ≤ 8 ∧ x = .int .u8 (p : Int) ∧ y = .int .u8 (q : Int) ∧ p < 256 ∧ q < 256 ∧ V = hasN (8 - k) p q) (fun _ _ i => 8 - (intOf i).toNat)
  case atStart => exact ⟨0, a, b, rfl, by omega, rfl, rfl, ha, hb, HV.out⟩
  case round =>
    obtain ⟨k, p, q, rfl, hk, rfl, rfl, hp, hq, hv⟩ := hrel
    have HW := hide hv
    clear hv
    have hp' : (p : Int) ≤ 255 := by omega
    have hq' : (q : Int) ≤ 255 := by omega
    by_cases hlt : k < 8
    · have hlt' : (k : Int) < 8 := by omega
      have HK := hide (show 8 - k = (7 - k) + 1 by omega)
      by_cases h1 : q % 2 = 1
      · by_cases h2 : p % 2 = 0
        · have e1 : ((q : Int) % 2 == 1) = true := by simp; omega
          have e2 : ((p : Int) % 2 == 0) = true := by simp; omega
          have hf := hide (hasN_bad (k := 7 - k) h1 h2)
          clear h1 h2
          go_wp2
          go_ret
          exact ⟨by rw [HW.out, HK.out, hf.out]; rfl, rfl⟩
        · have e1 : ((q : Int) % 2 == 1) = true := by simp; omega
          have e2 : ((p : Int) % 2 == 0) = false := by simp; omega
          have hf := hide (hasN_good (k := 7 - k) (a := p) (b := q) (by omega))
          clear h1 h2
          go_wp2
          go_round
          case rel => exact ⟨k + 1, p / 2, q / 2, by go_num, by omega, by go_num, by go_num, by omega, by omega, by rw [HW.out, HK.out, hf.out]; congr 1; omega⟩
          case measure => simp [intOf]; omega
      · have e1 : ((q : Int) % 2 == 1) = false := by simp; omega
        have hf := hide (hasN_good (k := 7 - k) (a := p) (b := q) (by omega))
        clear h1
        go_wp2
        go_round
        case rel => exact ⟨k + 1, p / 2, q / 2, by go_num, by omega, by go_num, by go_num, by omega, by omega, by rw [HW.out, HK.out, hf.out]; congr 1; omega⟩
        case measure => simp [intOf]; omega
    · obtain rfl : k = 8 := by omega
      go_wp2
      go_ret
      exact ⟨by rw [HW.out]; rfl, rfl⟩
end Go.Proofs.Ytighhdgaaelcdaa
