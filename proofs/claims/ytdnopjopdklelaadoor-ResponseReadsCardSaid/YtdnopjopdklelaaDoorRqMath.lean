/-
  Layer 17: texts as bytes: right names, values, numbers, ranks: plain mathematics.
-/
import Derived.Test.YtdnopjopdklelaaDoorFrStr
namespace Go.Proofs.YtdnopjopdklelaaDoor
set_option linter.unusedSimpArgs false
set_option linter.unusedVariables false
open Go.RowKit

def digI (z : Int) : Bool := decide (48 ≤ z) && decide (z ≤ 57)
def signL : List Int := [33, 35, 36, 37, 38, 39, 42, 43, 45, 46, 94, 95, 96, 124, 126]
def nameI (z : Int) : Bool := (decide (97 ≤ z) && decide (z ≤ 122)) || (digI z || decide (z ∈ signL))
def methI (z : Int) : Bool := (decide (65 ≤ z) && decide (z ≤ 90)) || nameI z
/-- A text of 1 to 64 bytes, each of which may stand there. -/
def madeB (p : Int → Bool) (s : ByteArray) : Bool := decide (0 < s.size) && (decide (s.size ≤ 64) && (bts s).all p)
def tokB (s : ByteArray) : Bool := madeB nameI s
def metB (s : ByteArray) : Bool := madeB methI s
def badV (z : Int) : Bool := decide (z = 0) || (decide (z = 10) || decide (z = 13))
def blankI (z : Int) : Bool := decide (z = 32) || decide (z = 9)
def endsB (l : List Int) : Bool := decide (l = []) || (!blankI (l.headD 0) && !blankI (l.getLastD 0))
/-- A right value. -/
def valB (s : ByteArray) : Bool := (bts s).all (fun z => !badV z) && endsB (bts s)
def numV (l : List Int) : Int := l.foldl (fun n z => n * 10 + (z - 48)) 0
def numB (s : ByteArray) : Bool := decide (0 < s.size) && (decide (s.size ≤ 9) && (!(decide (1 < s.size) && decide ((bts s).headD 0 = 48)) && (bts s).all digI))
def numI (s : ByteArray) : Int := if numB s = true then numV (bts s) else 0
def rankB (l : List Int) : Bool := decide (3 ≤ l.length) && (decide (l.getD 0 0 = 117) && (decide (l.getD 1 0 = 61) && (decide (48 ≤ l.getD 2 0) && (decide (l.getD 2 0 ≤ 55) && (decide (l.length = 3) || decide (l.getD 3 0 = 44))))))
def rankI (s : ByteArray) : Int := if rankB (bts s) = true then (bts s).getD 2 0 - 48 else 3

/-! ## A list gone through -/
def AllTo (p : Int → Bool) (l : List Int) (k : Nat) : Prop := ∀ j, j < k → j < l.length → p (l.getD j 0) = true
theorem AllTo.zero (p : Int → Bool) (l : List Int) : AllTo p l 0 := fun _ h _ => absurd h (by omega)
theorem AllTo.succ {p : Int → Bool} {l : List Int} {k : Nat} (h : AllTo p l k) (hk : p (l.getD k 0) = true) : AllTo p l (k + 1) := fun j hj hl => by
  by_cases e : j = k
  · subst e; exact hk
  · exact h j (by omega) hl
theorem getD_lt {l : List Int} {j : Nat} (hj : j < l.length) : l.getD j 0 = l[j] := by simp [List.getD, hj]
theorem AllTo.yes {p : Int → Bool} {l : List Int} (h : AllTo p l l.length) : l.all p = true := by
  rw [List.all_eq_true]
  intro z hz
  obtain ⟨j, hj, rfl⟩ := List.getElem_of_mem hz
  have := h j hj hj
  rwa [getD_lt hj] at this
theorem all_no {p : Int → Bool} {l : List Int} {k : Nat} (hk : k < l.length) (h : p (l.getD k 0) = false) : l.all p = false := by
  rw [List.all_eq_false]
  exact ⟨l[k], List.getElem_mem hk, by rw [← getD_lt hk, h]; simp⟩
theorem all_get {p : Int → Bool} {l : List Int} (h : l.all p = true) {k : Nat} (hk : k < l.length) : p (l.getD k 0) = true := by
  rw [getD_lt hk]
  exact List.all_eq_true.1 h _ (List.getElem_mem hk)

/-! ## Bytes -/
theorem digI_yes {z : Int} (h0 : 48 ≤ z) (h1 : z ≤ 57) : digI z = true := by simp [digI, h0, h1]
theorem digI_lo {z : Int} (h0 : ¬ 48 ≤ z) : digI z = false := by simp [digI, h0]
theorem digI_hi {z : Int} (h0 : ¬ z ≤ 57) : digI z = false := by simp [digI, h0]
theorem digI_bd {z : Int} (h : digI z = true) : 48 ≤ z ∧ z ≤ 57 := by simpa [digI] using h

theorem madeB_nil (p : Int → Bool) : madeB p ⟨#[]⟩ = false := rfl
theorem madeB_long {p : Int → Bool} {s : ByteArray} (h : ¬ s.size ≤ 64) : madeB p s = false := by simp [madeB, h]
theorem madeB_yes {p : Int → Bool} {s : ByteArray} (h0 : 0 < s.size) (h1 : s.size ≤ 64) (h : AllTo p (bts s) s.size) : madeB p s = true := by
  unfold madeB
  rw [decide_eq_true h0, decide_eq_true h1, AllTo.yes (by rw [bts_len]; exact h)]
  rfl
theorem madeB_no {p : Int → Bool} {s : ByteArray} {k : Nat} (hk : k < s.size) (h : p ((bts s).getD k 0) = false) : madeB p s = false := by
  unfold madeB
  rw [all_no (by rw [bts_len]; exact hk) h]
  simp
theorem madeB_parts {p : Int → Bool} {s : ByteArray} (h : madeB p s = true) : 0 < s.size ∧ s.size ≤ 64 ∧ (bts s).all p = true := by
  simpa [madeB] using h

/-! ## Numbers -/
theorem numV_nil : numV [] = 0 := rfl
theorem numV_snoc (l : List Int) (z : Int) : numV (l ++ [z]) = numV l * 10 + (z - 48) := by simp [numV]
theorem take_getD {l : List Int} {k : Nat} (hk : k < l.length) : l.take (k + 1) = l.take k ++ [l.getD k 0] := by
  rw [List.take_succ_eq_append_getElem hk, getD_lt hk]
theorem numV_take {l : List Int} {k : Nat} (hk : k < l.length) : numV (l.take (k + 1)) = numV (l.take k) * 10 + (l.getD k 0 - 48) := by rw [take_getD hk, numV_snoc]
theorem numV_bd {l : List Int} {k : Nat} (h : AllTo digI l k) (hk : k ≤ l.length) : 0 ≤ numV (l.take k) ∧ numV (l.take k) < 10 ^ k := by
  induction k with
  | zero => simp [numV]
  | succ k ih =>
    have h1 := ih (fun j hj hl => h j (by omega) hl) (by omega)
    have h2 := digI_bd (h k (by omega) (by omega))
    rw [numV_take (by omega), Int.pow_succ]
    omega
theorem numV_9 {l : List Int} {k : Nat} (h : AllTo digI l k) (hk : k ≤ l.length) (h9 : k < 9) : 0 ≤ numV (l.take k) ∧ numV (l.take k) ≤ 99999999 := by
  have h1 := numV_bd h hk
  have h2 : (10 : Int) ^ k ≤ 10 ^ 8 := by
    have : (10 : Nat) ^ k ≤ 10 ^ 8 := Nat.pow_le_pow_right (by omega) (by omega)
    exact_mod_cast this
  have h3 : (10 : Int) ^ 8 = 100000000 := by decide
  omega
theorem numB_yes {s : ByteArray} (h0 : 0 < s.size) (h9 : s.size ≤ 9) (hh : s.size = 1 ∨ (bts s).getD 0 0 ≠ 48) (h : AllTo digI (bts s) s.size) : numB s = true := by
  have hd : (bts s).headD 0 = (bts s).getD 0 0 := by cases bts s <;> rfl
  unfold numB
  rw [decide_eq_true h0, decide_eq_true h9, AllTo.yes (by rw [bts_len]; exact h), hd]
  rcases hh with hh | hh
  · rw [hh]; rfl
  · rw [decide_eq_false hh]; simp
theorem numI_yes {s : ByteArray} (h : numB s = true) : numI s = numV (bts s) := if_pos h
theorem numI_no {s : ByteArray} (h : numB s = false) : numI s = 0 := if_neg (by rw [h]; simp)
theorem numB_nil : numB ⟨#[]⟩ = false := rfl
theorem numB_long {s : ByteArray} (h : ¬ s.size ≤ 9) : numB s = false := by simp [numB, h]
theorem numB_zero {s : ByteArray} (h : 1 < s.size) (h' : (bts s).getD 0 0 = 48) : numB s = false := by
  have hd : (bts s).headD 0 = (bts s).getD 0 0 := by cases bts s <;> rfl
  unfold numB
  rw [hd, h', decide_eq_true h]
  simp
theorem numB_no {s : ByteArray} {k : Nat} (hk : k < s.size) (h : digI ((bts s).getD k 0) = false) : numB s = false := by
  unfold numB
  rw [all_no (by rw [bts_len]; exact hk) h]
  simp
theorem numI_bd (s : ByteArray) : 0 ≤ numI s ∧ numI s ≤ 999999999 := by
  unfold numI
  split
  · rename_i h
    have h9 : s.size ≤ 9 ∧ (bts s).all digI = true := by
      unfold numB at h
      simp only [Bool.and_eq_true, decide_eq_true_eq] at h
      exact ⟨h.2.1, h.2.2.2⟩
    have hA : AllTo digI (bts s) s.size := fun j _ hl => all_get h9.2 hl
    have h1 := numV_bd hA (by rw [bts_len]; exact Nat.le_refl _)
    rw [List.take_of_length_le (by rw [bts_len]; exact Nat.le_refl _)] at h1
    have h2 : (10 : Int) ^ s.size ≤ 10 ^ 9 := by
      have : (10 : Nat) ^ s.size ≤ 10 ^ 9 := Nat.pow_le_pow_right (by omega) h9.1
      exact_mod_cast this
    have h3 : (10 : Int) ^ 9 = 1000000000 := by decide
    omega
  · omega

/-! ## Values -/
theorem valB_bad {s : ByteArray} {k : Nat} (hk : k < s.size) (h : badV ((bts s).getD k 0) = true) : valB s = false := by
  unfold valB
  rw [all_no (p := fun z => !badV z) (by rw [bts_len]; exact hk) (by show (!badV _) = false; rw [h]; rfl)]
  rfl
theorem valB_of {s : ByteArray} (h : AllTo (fun z => !badV z) (bts s) s.size) : valB s = endsB (bts s) := by
  unfold valB
  rw [AllTo.yes (by rw [bts_len]; exact h)]
  rfl
theorem headD_getD (l : List Int) : l.headD 0 = l.getD 0 0 := by cases l <;> rfl
theorem lastD_getD {l : List Int} (h : l ≠ []) : l.getLastD 0 = l.getD (l.length - 1) 0 := by
  rw [List.getLastD_eq_getLast?, List.getLast?_eq_getElem?]
  simp [List.getD]
end Go.Proofs.YtdnopjopdklelaaDoor
