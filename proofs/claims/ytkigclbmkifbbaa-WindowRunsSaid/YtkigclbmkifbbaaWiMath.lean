/-
  Layer 14 as plain functions: windows.
-/
import Derived.Test.YtkigclbmkifbbaaKit
namespace Go.Proofs.Ytkigclbmkifbbaa
set_option linter.unusedSimpArgs false
set_option linter.unusedVariables false

def isW (w : Int) : Bool := decide (-2147483647 ≤ w) && decide (w ≤ 2147483647)
def isF (n : Int) : Bool := decide (0 ≤ n) && decide (n ≤ 2147483647)
theorem isW_yes {w : Int} : isW w = true ↔ -2147483647 ≤ w ∧ w ≤ 2147483647 := by simp [isW]
theorem isW_no {w : Int} : isW w = false ↔ w < -2147483647 ∨ 2147483647 < w := by
  rw [Bool.eq_false_iff, Ne, isW_yes]; omega
theorem isF_yes {w : Int} : isF w = true ↔ 0 ≤ w ∧ w ≤ 2147483647 := by simp [isF]
theorem isF_no {w : Int} : isF w = false ↔ w < 0 ∨ 2147483647 < w := by
  rw [Bool.eq_false_iff, Ne, isF_yes]; omega
/-- Check. -/
def chkW (w : Int) : Int := if isW w = true then 0 else 8
/-- Take. -/
def takeR (w n : Int) : Int × Bool := if isW w = true ∧ 0 ≤ n ∧ n ≤ w then (w - n, true) else (w, false)
/-- A window with so much more. -/
def movR (w d : Int) : Int × Int := if isW (w + d) = true then (w + d, 0) else (w, 3)
def giveR (w n : Int) : Int × Int := if isW w = false then (w, 3) else if n < 1 ∨ 2147483647 < n then (w, 1) else movR w n
def shiftR (w a b : Int) : Int × Int := if isW w = false then (w, 3) else if isF a = false ∨ isF b = false then (w, 1) else movR w (b - a)
def mayR (a b c d : Int) : Int := max 0 (min (min (min a b) c) d)
/-- Take as an act. -/
def takA (w n : Int) : Int × Int := if (takeR w n).2 = true then ((takeR w n).1, 0) else (w, 3)
/-- An act. -/
def actR (k w n : Int) : Int × Int := if k = 0 then takA w n else if k = 1 then giveR w n else if k = 2 then shiftR w 0 n else if k = 3 then shiftR w n 0 else (w, 0)
/-- An act: its kind, and its number. -/
structure Wa where
  k : Int
  n : Int
def Wa.ok (x : Wa) : Prop := 0 ≤ x.k ∧ x.k ≤ 255 ∧ -9223372036854775808 ≤ x.n ∧ x.n ≤ 9223372036854775807
instance : Inhabited Wa := ⟨⟨0, 0⟩⟩
def AllW (l : List Wa) : Prop := ∀ p ∈ l, p.ok
def runR (w : Int) : List Wa → Int × Int
  | [] => (w, 0)
  | x :: l => if (actR x.k w x.n).2 = 0 then runR (actR x.k w x.n).1 l else (w, (actR x.k w x.n).2)

theorem takeR_yes {w n : Int} (h : isW w = true) (h0 : 0 ≤ n) (h1 : n ≤ w) : takeR w n = (w - n, true) := if_pos ⟨h, h0, h1⟩
theorem takeR_no {w n : Int} (h : isW w = false ∨ n < 0 ∨ w < n) : takeR w n = (w, false) := if_neg (by
  rintro ⟨h1, h2, h3⟩
  rcases h with h | h | h
  · rw [h1] at h; cases h
  · omega
  · omega)
theorem movR_yes {w d : Int} (h : isW (w + d) = true) : movR w d = (w + d, 0) := if_pos h
theorem movR_no {w d : Int} (h : isW (w + d) = false) : movR w d = (w, 3) := if_neg (by rw [h]; simp)
theorem giveR_3 {w n : Int} (h : isW w = false) : giveR w n = (w, 3) := if_pos h
theorem giveR_1 {w n : Int} (h : isW w = true) (h1 : n < 1 ∨ 2147483647 < n) : giveR w n = (w, 1) := by rw [giveR, if_neg (by rw [h]; simp), if_pos h1]
theorem giveR_mov {w n : Int} (h : isW w = true) (h1 : 1 ≤ n) (h2 : n ≤ 2147483647) : giveR w n = movR w n := by rw [giveR, if_neg (by rw [h]; simp), if_neg (by omega)]
theorem shiftR_3 {w a b : Int} (h : isW w = false) : shiftR w a b = (w, 3) := if_pos h
theorem shiftR_1 {w a b : Int} (h : isW w = true) (h1 : isF a = false ∨ isF b = false) : shiftR w a b = (w, 1) := by rw [shiftR, if_neg (by rw [h]; simp), if_pos h1]
theorem shiftR_mov {w a b : Int} (h : isW w = true) (h1 : isF a = true) (h2 : isF b = true) : shiftR w a b = movR w (b - a) := by rw [shiftR, if_neg (by rw [h]; simp), if_neg (by rw [h1, h2]; simp)]

theorem movR_code (w d : Int) : (movR w d).2 = 0 ∨ movR w d = (w, 3) := by
  unfold movR; split
  · exact .inl rfl
  · exact .inr rfl
/-- With a fault a window is as it was. -/
theorem giveR_code (w n : Int) : (giveR w n).2 = 0 ∨ (giveR w n).1 = w ∧ ((giveR w n).2 = 1 ∨ (giveR w n).2 = 3) := by
  unfold giveR; split
  · exact .inr ⟨rfl, .inr rfl⟩
  split
  · exact .inr ⟨rfl, .inl rfl⟩
  rcases movR_code w n with h | h
  · exact .inl h
  · exact .inr (by rw [h]; exact ⟨rfl, .inr rfl⟩)
theorem shiftR_code (w a b : Int) : (shiftR w a b).2 = 0 ∨ (shiftR w a b).1 = w ∧ ((shiftR w a b).2 = 1 ∨ (shiftR w a b).2 = 3) := by
  unfold shiftR; split
  · exact .inr ⟨rfl, .inr rfl⟩
  split
  · exact .inr ⟨rfl, .inl rfl⟩
  rcases movR_code w (b - a) with h | h
  · exact .inl h
  · exact .inr (by rw [h]; exact ⟨rfl, .inr rfl⟩)
theorem takA_code (w n : Int) : (takA w n).2 = 0 ∨ (takA w n).1 = w ∧ ((takA w n).2 = 1 ∨ (takA w n).2 = 3) := by
  unfold takA; split
  · exact .inl rfl
  · exact .inr ⟨rfl, .inr rfl⟩
theorem actR_code (k w n : Int) : (actR k w n).2 = 0 ∨ (actR k w n).1 = w ∧ ((actR k w n).2 = 1 ∨ (actR k w n).2 = 3) := by
  unfold actR
  split
  · exact takA_code w n
  split
  · exact giveR_code w n
  split
  · exact shiftR_code w 0 n
  split
  · exact shiftR_code w n 0
  · exact .inl rfl
theorem actR_0 {w n : Int} : actR 0 w n = takA w n := rfl
theorem actR_1 {w n : Int} : actR 1 w n = giveR w n := rfl
theorem actR_2 {w n : Int} : actR 2 w n = shiftR w 0 n := rfl
theorem actR_3 {w n : Int} : actR 3 w n = shiftR w n 0 := rfl
theorem actR_x {k w n : Int} (h0 : ¬ k = 0) (h1 : ¬ k = 1) (h2 : ¬ k = 2) (h3 : ¬ k = 3) : actR k w n = (w, 0) := by rw [actR, if_neg h0, if_neg h1, if_neg h2, if_neg h3]
theorem runR_go {w : Int} {x : Wa} {l : List Wa} (h : (actR x.k w x.n).2 = 0) : runR w (x :: l) = runR (actR x.k w x.n).1 l := if_pos h
theorem runR_stop {w : Int} {x : Wa} {l : List Wa} (h : ¬ (actR x.k w x.n).2 = 0) : runR w (x :: l) = (w, (actR x.k w x.n).2) := if_neg h
end Go.Proofs.Ytkigclbmkifbbaa
