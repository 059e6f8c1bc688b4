/-
  Layer 17: a number's digits as a text; they are read again.
-/
import Derived.Test.YtdnopjopdklelaaDoorRqMath
import Derived.Test.YtdnopjopdklelaaDoorBytes2
import Derived.Lib.ItoaNum
namespace Go.Proofs.YtdnopjopdklelaaDoor
set_option linter.unusedSimpArgs false
set_option linter.unusedVariables false
open Go.RowKit

/-- A number's digits, as a text. -/
def itoaB (n : Int) : ByteArray := ⟨(Lib.itoa n).toArray⟩
theorem itoa_small {n : Nat} (h : n < 10) : itoaB n = strOfNums [48 + (n : Int)] := by
  unfold itoaB Lib.itoa strOfNums
  rw [if_neg (by omega), Int.toNat_natCast, Lib.decDigits_one h]
  congr 2
theorem ba_app (a b : List UInt8) : (⟨a.toArray⟩ : ByteArray) ++ ⟨b.toArray⟩ = ⟨(a ++ b).toArray⟩ := by
  apply ByteArray.ext
  simp
theorem itoa_big {n : Nat} (h : ¬ n < 10) : itoaB n = itoaB (n / 10 : Nat) ++ itoaB (n % 10 : Nat) := by
  unfold itoaB Lib.itoa
  rw [if_neg (by omega), if_neg (by omega), if_neg (by omega), Int.toNat_natCast, Int.toNat_natCast, Int.toNat_natCast, ba_app, Lib.decDigits, dif_neg h, Lib.decDigits_one (Nat.mod_lt _ (by omega))]
theorem itoa_len (k : Nat) : ∀ n : Nat, n < 10 ^ (k + 1) → (itoaB n).size ≤ k + 1 := by
  induction k with
  | zero =>
    intro n h
    rw [itoa_small (by simpa using h)]
    simp [strOfNums, ByteArray.size]
  | succ k ih =>
    intro n h
    by_cases h10 : n < 10
    · rw [itoa_small h10]
      simp [strOfNums, ByteArray.size]
    · rw [itoa_big h10, ByteArray.size_append]
      have h1 := ih (n / 10) (by
        rw [Nat.pow_succ] at h
        exact Nat.div_lt_of_lt_mul (by rw [Nat.mul_comm]; exact h))
      have h2 : (itoaB (n % 10 : Nat)).size ≤ 1 := by
        rw [itoa_small (Nat.mod_lt _ (by omega))]
        simp [strOfNums, ByteArray.size]
      omega


theorem bts_cat (a b : ByteArray) : bts (a ++ b) = bts a ++ bts b := by simp [bts]
/-! ## A number's digits are read again -/
structure DigIs (n : Nat) (k : Nat) (l : List Int) : Prop where
  ne : l ≠ []
  len : l.length ≤ k
  all : l.all digI = true
  val : numV l = n
  hd : l.length = 1 ∨ l.headD 0 ≠ 48
  pos : n ≠ 0 → l.headD 0 ≠ 48
theorem dig_is (k : Nat) : ∀ n : Nat, n < 10 ^ (k + 1) → DigIs n (k + 1) (bts (itoaB n)) := by
  have small : ∀ n : Nat, n < 10 → ∀ k, DigIs n (k + 1) (bts (itoaB n)) := by
    intro n h k
    have e : bts (itoaB n) = [48 + (n : Int)] := by
      rw [itoa_small h, bts_str _ (fun z hz => by simp at hz; subst hz; omega)]
    rw [e]
    refine ⟨by simp, by simp, ?_, ?_, .inl rfl, fun h0 => ?_⟩
    · simp [digI]; omega
    · simp [numV]; omega
    · simp; omega
  induction k with
  | zero => intro n h; exact small n (by simpa using h) 0
  | succ k ih =>
    intro n h
    by_cases h10 : n < 10
    · exact small n h10 _
    · have hn10 : n / 10 < 10 ^ (k + 1) := by
        rw [Nat.pow_succ] at h
        exact Nat.div_lt_of_lt_mul (by rw [Nat.mul_comm]; exact h)
      have hA := ih (n / 10) hn10
      have hB := small (n % 10) (Nat.mod_lt _ (by omega)) 0
      have eB : bts (itoaB (n % 10 : Nat)) = [48 + ((n % 10 : Nat) : Int)] := by
        rw [itoa_small (Nat.mod_lt _ (by omega)), bts_str _ (fun z hz => by simp at hz; subst hz; omega)]
      have e : bts (itoaB n) = bts (itoaB (n / 10 : Nat)) ++ [48 + ((n % 10 : Nat) : Int)] := by rw [itoa_big h10, bts_cat, eB]
      have hp := hA.pos (by omega)
      have hh : (bts (itoaB (n / 10 : Nat)) ++ [48 + ((n % 10 : Nat) : Int)]).headD 0 = (bts (itoaB (n / 10 : Nat))).headD 0 := by
        cases q : bts (itoaB (n / 10 : Nat)) with
        | nil => exact absurd q hA.ne
        | cons a r => rfl
      rw [e]
      refine ⟨by simp, ?_, ?_, ?_, .inr (by rw [hh]; exact hp), fun _ => by rw [hh]; exact hp⟩
      · have := hA.len; simp only [List.length_append, List.length_cons, List.length_nil]; omega
      · rw [List.all_append, hA.all]; simp [digI]; omega
      · rw [numV_snoc, hA.val]; omega
theorem num_itoa {n : Int} (h0 : 0 ≤ n) (h1 : n ≤ 999999999) : numB (itoaB n) = true ∧ numI (itoaB n) = n := by
  obtain ⟨m, rfl⟩ : ∃ m : Nat, n = m := ⟨n.toNat, by omega⟩
  have h := dig_is 8 m (by omega)
  have hl := bts_len (itoaB m)
  have hb : numB (itoaB m) = true := by
    unfold numB
    have := h.len
    have hne : 0 < (bts (itoaB m)).length := List.length_pos_iff.2 h.ne
    rw [decide_eq_true (show 0 < (itoaB m).size by omega), decide_eq_true (show (itoaB m).size ≤ 9 by omega), h.all]
    rcases h.hd with q | q
    · rw [decide_eq_false (show ¬ 1 < (itoaB m).size by omega)]; rfl
    · rw [decide_eq_false q, Bool.and_false]; rfl
  exact ⟨hb, by rw [numI_yes hb]; exact h.val⟩
end Go.Proofs.YtdnopjopdklelaaDoor
