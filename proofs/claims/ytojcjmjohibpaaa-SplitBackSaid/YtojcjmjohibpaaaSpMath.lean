/-
  Layer 10's plain functions: a stream's frames (cutS), a state's check, what is lacking, what feeding answers; their laws.
-/
import Derived.Test.YtojcjmjohibpaaaFrStr
import Derived.Test.YtojcjmjohibpaaaFhMath
namespace Go.Proofs.Ytojcjmjohibpaaa
set_option linter.unusedSimpArgs false
set_option linter.unusedVariables false
open Go.RowKit

/-- The preface's bytes. -/
def preB : List Int := [80, 82, 73, 32, 42, 32, 72, 84, 84, 80, 47, 50, 46, 48, 13, 10, 13, 10, 83, 77, 13, 10, 13, 10]
/-- A frame as it came. -/
structure Rw where
  l : Int
  t : Int
  f : Int
  s : Int
  d : ByteArray
deriving DecidableEq
def rwOf (xs : List Int) : Rw := ⟨gL xs, gT xs, gF xs, gS xs, strOfNums ((xs.drop 9).take (gL xs).toNat)⟩

theorem gL_short {xs : List Int} (h : xs.length < 9) : gL xs = 0 := by simp [gL, h]
theorem gL_bd {xs : List Int} (h : AllB xs) : 0 ≤ gL xs ∧ gL xs < 16777216 := by
  unfold gL
  split
  · omega
  · have := numL_bd 3 xs h
    omega
theorem gL_take (xs : List Int) : gL (xs.take 9) = gL xs := by
  unfold gL
  rw [List.length_take, List.take_take]
  by_cases h : xs.length < 9
  · rw [if_pos (by omega), if_pos h]
  · rw [if_neg (by omega), if_neg h]
    rfl
theorem gT_take (xs : List Int) : gT (xs.take 9) = gT xs := by
  unfold gT
  rw [List.length_take]
  by_cases h : xs.length < 9
  · rw [if_pos (by omega), if_pos h]
  · rw [if_neg (by omega), if_neg h]
    simp [List.getD]
theorem gF_take (xs : List Int) : gF (xs.take 9) = gF xs := by
  unfold gF
  rw [List.length_take]
  by_cases h : xs.length < 9
  · rw [if_pos (by omega), if_pos h]
  · rw [if_neg (by omega), if_neg h]
    simp [List.getD]
theorem gS_take (xs : List Int) : gS (xs.take 9) = gS xs := by
  unfold gS
  rw [List.length_take]
  by_cases h : xs.length < 9
  · rw [if_pos (by omega), if_pos h]
  · rw [if_neg (by omega), if_neg h, List.drop_take, List.take_take]
    rfl
theorem take_app (xs ys : List Int) (h : 9 ≤ xs.length) : (xs ++ ys).take 9 = xs.take 9 := by
  rw [List.take_append, show 9 - xs.length = 0 by omega, List.take_zero, List.append_nil]
theorem gL_app (xs ys : List Int) (h : 9 ≤ xs.length) : gL (xs ++ ys) = gL xs := by rw [← gL_take, take_app xs ys h, gL_take]
theorem rw_app (xs ys : List Int) (h : 9 ≤ xs.length) (h2 : 9 + gL xs ≤ (xs.length : Int)) (h0 : 0 ≤ gL xs) : rwOf (xs ++ ys) = rwOf xs := by
  unfold rwOf
  rw [gL_app xs ys h, ← gT_take (xs ++ ys), ← gF_take (xs ++ ys), ← gS_take (xs ++ ys), take_app xs ys h, gT_take, gF_take, gS_take, List.drop_append, List.take_append]
  have e : (gL xs).toNat - (xs.drop 9).length = 0 := by simp; omega
  rw [e, List.take_zero, List.append_nil]

/-- The frames of a stream, and what is left of it (none: a fault). -/
def cutF : Nat → List Int → List Rw × Option (List Int)
  | 0, xs => ([], some xs)
  | k + 1, xs => if 16384 < gL xs then ([], none) else if (xs.length : Int) < 9 + gL xs then ([], some xs) else
      (rwOf xs :: (cutF k (xs.drop (9 + (gL xs).toNat))).1, (cutF k (xs.drop (9 + (gL xs).toNat))).2)
def cutS (xs : List Int) : List Rw × Option (List Int) := cutF xs.length xs
theorem cutF_any (k : Nat) : ∀ (j : Nat) (xs : List Int), xs.length ≤ k → xs.length ≤ j → cutF k xs = cutF j xs := by
  induction k with
  | zero =>
    intro j xs h _
    have : xs = [] := List.eq_nil_of_length_eq_zero (by omega)
    subst this
    cases j with
    | zero => rfl
    | succ j => simp [cutF, gL]
  | succ k ih =>
    intro j xs h hj
    cases j with
    | zero =>
      have : xs = [] := List.eq_nil_of_length_eq_zero (by omega)
      subst this
      simp [cutF, gL]
    | succ j =>
      have hd : (xs.drop (9 + (gL xs).toNat)).length = xs.length - (9 + (gL xs).toNat) := List.length_drop
      simp only [cutF]
      rw [ih j _ (by omega) (by omega)]
theorem len9 {xs : List Int} (h1 : ¬ 16384 < gL xs) (h2 : ¬ (xs.length : Int) < 9 + gL xs) : 9 ≤ xs.length := by
  by_cases h : xs.length < 9
  · rw [gL_short h] at h2; omega
  · omega
theorem cutS_bad {xs : List Int} (h : 16384 < gL xs) : cutS xs = ([], none) := by
  have : xs.length = (xs.length - 1) + 1 := by
    by_cases h9 : xs.length < 9
    · rw [gL_short h9] at h; omega
    · omega
  rw [cutS, this, cutF, if_pos h]
theorem cutS_short {xs : List Int} (h1 : ¬ 16384 < gL xs) (h2 : (xs.length : Int) < 9 + gL xs) : cutS xs = ([], some xs) := by
  rw [cutS]
  cases hk : xs.length with
  | zero => rfl
  | succ k => rw [cutF, if_neg h1, if_pos (by omega)]
theorem cutS_next {xs : List Int} (h1 : ¬ 16384 < gL xs) (h2 : ¬ (xs.length : Int) < 9 + gL xs) :
    cutS xs = (rwOf xs :: (cutS (xs.drop (9 + (gL xs).toNat))).1, (cutS (xs.drop (9 + (gL xs).toNat))).2) := by
  have h9 := len9 h1 h2
  have : xs.length = (xs.length - 1) + 1 := by omega
  have hd : (xs.drop (9 + (gL xs).toNat)).length = xs.length - (9 + (gL xs).toNat) := List.length_drop
  rw [cutS, cutS, this, cutF, if_neg h1, if_neg h2, cutF_any (xs.length - 1) (xs.drop (9 + (gL xs).toNat)).length _ (by omega) (by omega)]
theorem cutS_nil : cutS [] = ([], some []) := rfl

theorem cut_ind {C : List Int → Prop} (hbad : ∀ xs, 16384 < gL xs → C xs) (hshort : ∀ xs, ¬ 16384 < gL xs → (xs.length : Int) < 9 + gL xs → C xs)
    (hnext : ∀ xs, ¬ 16384 < gL xs → ¬ (xs.length : Int) < 9 + gL xs → C (xs.drop (9 + (gL xs).toNat)) → C xs) (xs : List Int) : C xs := by
  have key : ∀ k (xs : List Int), xs.length ≤ k → C xs := by
    intro k
    induction k with
    | zero =>
      intro xs h
      have : xs = [] := List.eq_nil_of_length_eq_zero (by omega)
      subst this
      exact hshort [] (by simp [gL]) (by simp [gL])
    | succ k ih =>
      intro xs h
      by_cases h1 : 16384 < gL xs
      · exact hbad xs h1
      by_cases h2 : (xs.length : Int) < 9 + gL xs
      · exact hshort xs h1 h2
      · have := len9 h1 h2
        exact hnext xs h1 h2 (ih _ (by rw [List.length_drop]; omega))
  exact key xs.length xs (Nat.le_refl _)

/-- What is left is no whole frame. -/
theorem cutS_rest (xs : List Int) : ∀ t, (cutS xs).2 = some t → ¬ 16384 < gL t ∧ (t.length : Int) < 9 + gL t := by
  refine cut_ind (C := fun xs => ∀ t, (cutS xs).2 = some t → ¬ 16384 < gL t ∧ (t.length : Int) < 9 + gL t) ?_ ?_ ?_ xs
  · intro xs h t ht
    rw [cutS_bad h] at ht; cases ht
  · intro xs h1 h2 t ht
    rw [cutS_short h1 h2] at ht
    injection ht with ht
    subst ht
    exact ⟨h1, h2⟩
  · intro xs h1 h2 ih t ht
    rw [cutS_next h1 h2] at ht
    exact ih t ht
theorem cutS_le (xs : List Int) : ∀ t, (cutS xs).2 = some t → t.length ≤ xs.length := by
  refine cut_ind (C := fun xs => ∀ t, (cutS xs).2 = some t → t.length ≤ xs.length) ?_ ?_ ?_ xs
  · intro xs h t ht
    rw [cutS_bad h] at ht; cases ht
  · intro xs h1 h2 t ht
    rw [cutS_short h1 h2] at ht
    injection ht with ht
    subst ht
    exact Nat.le_refl _
  · intro xs h1 h2 ih t ht
    rw [cutS_next h1 h2] at ht
    have := ih t ht
    rw [List.length_drop] at this
    omega
theorem cutS_all (xs : List Int) : AllB xs → ∀ t, (cutS xs).2 = some t → AllB t := by
  refine cut_ind (C := fun xs => AllB xs → ∀ t, (cutS xs).2 = some t → AllB t) ?_ ?_ ?_ xs
  · intro xs h _ t ht
    rw [cutS_bad h] at ht; cases ht
  · intro xs h1 h2 ha t ht
    rw [cutS_short h1 h2] at ht
    injection ht with ht
    subst ht
    exact ha
  · intro xs h1 h2 ih ha t ht
    rw [cutS_next h1 h2] at ht
    exact ih (ha.drop _) t ht
/-- No more frames than a ninth of the bytes. -/
theorem cutS_len (xs : List Int) : 9 * (cutS xs).1.length ≤ xs.length := by
  refine cut_ind (C := fun xs => 9 * (cutS xs).1.length ≤ xs.length) ?_ ?_ ?_ xs
  · intro xs h
    rw [cutS_bad h]; simp
  · intro xs h1 h2
    rw [cutS_short h1 h2]; simp
  · intro xs h1 h2 ih
    rw [cutS_next h1 h2]
    have h9 := len9 h1 h2
    rw [List.length_drop] at ih
    simp only [List.length_cons]
    omega
/-- A stream in two pieces. -/
theorem cutS_app (xs ys : List Int) : AllB xs → ((cutS xs).2 = none → cutS (xs ++ ys) = cutS xs) ∧
    ∀ t, (cutS xs).2 = some t → cutS (xs ++ ys) = ((cutS xs).1 ++ (cutS (t ++ ys)).1, (cutS (t ++ ys)).2) := by
  refine cut_ind (C := fun xs => AllB xs → ((cutS xs).2 = none → cutS (xs ++ ys) = cutS xs) ∧ ∀ t, (cutS xs).2 = some t → cutS (xs ++ ys) = ((cutS xs).1 ++ (cutS (t ++ ys)).1, (cutS (t ++ ys)).2)) ?_ ?_ ?_ xs
  · intro xs h ha
    have h9 : 9 ≤ xs.length := by
      by_cases h9 : xs.length < 9
      · rw [gL_short h9] at h; omega
      · omega
    rw [cutS_bad h]
    exact ⟨fun _ => cutS_bad (by rw [gL_app xs ys h9]; exact h), fun t ht => by cases ht⟩
  · intro xs h1 h2 ha
    rw [cutS_short h1 h2]
    exact ⟨fun h => by (cases h), fun t ht => by (injection ht with ht; subst ht; simp)⟩
  · intro xs h1 h2 ih ha
    obtain ⟨i1, i2⟩ := ih (ha.drop _)
    have h9 := len9 h1 h2
    have hbd := gL_bd ha
    have g1 : gL (xs ++ ys) = gL xs := gL_app xs ys h9
    have n1 : ¬ 16384 < gL (xs ++ ys) := by rw [g1]; exact h1
    have n2 : ¬ ((xs ++ ys).length : Int) < 9 + gL (xs ++ ys) := by rw [g1, List.length_append]; omega
    have hd : (xs ++ ys).drop (9 + (gL xs).toNat) = xs.drop (9 + (gL xs).toNat) ++ ys := by
      rw [List.drop_append, show 9 + (gL xs).toNat - xs.length = 0 by omega, List.drop_zero]
    rw [cutS_next n1 n2, cutS_next h1 h2, g1, rw_app xs ys h9 (by omega) hbd.1, hd]
    refine ⟨fun h => ?_, fun t ht => ?_⟩
    · rw [i1 h]
    · rw [i2 t ht]
      rfl

/-- A state. -/
structure Sp where
  g : Int
  b : List Int
  d : Bool
deriving DecidableEq
def Sp.zero : Sp := ⟨0, [], false⟩
def Sp.gone : Sp := ⟨0, [], true⟩
def wholeB (b : List Int) : Bool := decide (16384 < gL b) || decide (9 + gL b ≤ (b.length : Int))
def Sp.chk (s : Sp) : Int :=
  if s.d = true ∧ (s.g ≠ 0 ∨ s.b ≠ []) then 4 else if s.g < 0 ∨ 24 < s.g then 8 else if s.g < 24 ∧ s.b ≠ [] then 10 else if wholeB s.b = true then 5 else 0
def Sp.goes (s : Sp) : Bool := !s.d && decide (s.chk = 0)
def Sp.left (s : Sp) : Int := if s.goes = false then 0 else if s.g < 24 then 24 - s.g else 9 + gL s.b - (s.b.length : Int)
/-- Are the bytes as the preface's, from the place g on? -/
def greetB (g : Nat) (xs : List Int) : Bool := decide (∀ j, j < min xs.length (24 - g) → xs.getD j 0 = preB.getD (g + j) 0)
/-- What feeding answers: the state, the frames, the code. -/
structure Fd10 where
  s : Sp
  l : List Rw
  c : Int
def fedOf (s : Sp) (m : Nat) (r : List Rw × Option (List Int)) : Fd10 :=
  match r.2 with
  | none => ⟨Sp.gone, r.1, 6⟩
  | some t => ⟨⟨s.g + (m : Int), t, false⟩, r.1, 0⟩
def feedS (s : Sp) (xs : List Int) : Fd10 :=
  if s.goes = false then ⟨s, [], 0⟩
  else if greetB s.g.toNat xs = false then ⟨Sp.gone, [], 1⟩
  else fedOf s (min xs.length (24 - s.g.toNat)) (cutS (s.b ++ xs.drop (min xs.length (24 - s.g.toNat))))

theorem gone_chk : Sp.gone.chk = 0 := by decide
theorem gone_goes : Sp.gone.goes = false := by decide
theorem goes_of {s : Sp} (h : s.goes = true) : s.d = false ∧ 0 ≤ s.g ∧ s.g ≤ 24 ∧ (s.g < 24 → s.b = []) ∧ ¬ 16384 < gL s.b ∧ (s.b.length : Int) < 9 + gL s.b := by
  simp only [Sp.goes, Bool.and_eq_true, Bool.not_eq_true', decide_eq_true_eq] at h
  obtain ⟨hd, hc⟩ := h
  unfold Sp.chk at hc
  rw [if_neg (by simp [hd])] at hc
  by_cases h1 : s.g < 0 ∨ 24 < s.g
  · rw [if_pos h1] at hc; omega
  rw [if_neg h1] at hc
  by_cases h2 : s.g < 24 ∧ s.b ≠ []
  · rw [if_pos h2] at hc; omega
  rw [if_neg h2] at hc
  by_cases h3 : wholeB s.b = true
  · rw [if_pos h3] at hc; omega
  simp only [wholeB, Bool.or_eq_true, decide_eq_true_eq] at h3
  refine ⟨hd, by omega, by omega, fun h => ?_, by omega, by omega⟩
  by_cases hb : s.b = []
  · exact hb
  · exact absurd ⟨h, hb⟩ h2
theorem goes_mk {g : Int} {b : List Int} (h0 : 0 ≤ g) (h1 : g ≤ 24) (h2 : g < 24 → b = []) (h3 : ¬ 16384 < gL b) (h4 : (b.length : Int) < 9 + gL b) : (⟨g, b, false⟩ : Sp).chk = 0 ∧ (⟨g, b, false⟩ : Sp).goes = true := by
  have hc : (⟨g, b, false⟩ : Sp).chk = 0 := by
    unfold Sp.chk
    rw [if_neg (by simp), if_neg (by simp only; omega), if_neg (by rintro ⟨a, c⟩; exact c (h2 a)), if_neg]
    simp only [wholeB, Bool.or_eq_true, decide_eq_true_eq]
    omega
  exact ⟨hc, by simp [Sp.goes, hc]⟩
theorem fed_ok (s : Sp) (xs : List Int) (h : s.chk = 0) : (feedS s xs).s.chk = 0 := by
  unfold feedS
  split
  · exact h
  · rename_i hg
    split
    · exact gone_chk
    · obtain ⟨hd, h0, h1, h2, h3, h4⟩ := goes_of (by simpa using hg)
      unfold fedOf
      split
      · exact gone_chk
      · rename_i t ht
        have hr := cutS_rest _ t ht
        refine (goes_mk (by omega) (by omega) (fun hlt => ?_) hr.1 hr.2).1
        have hb := h2 (by omega)
        have hx : xs.drop (min xs.length (24 - s.g.toNat)) = [] := by
          apply List.drop_eq_nil_of_le
          omega
        rw [hb, hx] at ht
        injection ht with ht
        exact ht.symm
theorem greet_app (g : Nat) (xs ys : List Int) : greetB g (xs ++ ys) = (greetB g xs && greetB (g + min xs.length (24 - g)) ys) := by
  rw [Bool.eq_iff_iff, Bool.and_eq_true]
  simp only [greetB, decide_eq_true_eq, List.length_append]
  constructor
  · intro h
    refine ⟨fun j hj => ?_, fun j hj => ?_⟩
    · have := h j (by omega)
      rwa [List.getD, List.getElem?_append_left (by omega)] at this
    · have := h (xs.length + j) (by omega)
      rw [List.getD, List.getElem?_append_right (by omega), show xs.length + j - xs.length = j by omega] at this
      rw [show g + min xs.length (24 - g) + j = g + (xs.length + j) by omega]
      exact this
  · rintro ⟨h1, h2⟩ j hj
    by_cases hlt : j < xs.length
    · rw [List.getD, List.getElem?_append_left hlt]
      exact h1 j (by omega)
    · have := h2 (j - xs.length) (by omega)
      rw [List.getD, List.getElem?_append_right (by omega)]
      rw [show g + min xs.length (24 - g) + (j - xs.length) = g + j by omega] at this
      exact this
theorem feed_stop {s : Sp} {xs : List Int} (h : s.goes = false) : feedS s xs = ⟨s, [], 0⟩ := by rw [feedS, if_pos h]
theorem feed_bad {s : Sp} {xs : List Int} (h : s.goes = true) (hg : greetB s.g.toNat xs = false) : feedS s xs = ⟨Sp.gone, [], 1⟩ := by
  rw [feedS, if_neg (by simp [h]), if_pos hg]
theorem feed_yes {s : Sp} {xs : List Int} (h : s.goes = true) (hg : greetB s.g.toNat xs = true) :
    feedS s xs = fedOf s (min xs.length (24 - s.g.toNat)) (cutS (s.b ++ xs.drop (min xs.length (24 - s.g.toNat)))) := by
  rw [feedS, if_neg (by simp [h]), if_neg (by simp [hg])]
theorem fed_none {s : Sp} {m : Nat} {r : List Rw × Option (List Int)} (h : r.2 = none) : fedOf s m r = ⟨Sp.gone, r.1, 6⟩ := by unfold fedOf; rw [h]
theorem fed_some {s : Sp} {m : Nat} {r : List Rw × Option (List Int)} {t : List Int} (h : r.2 = some t) : fedOf s m r = ⟨⟨s.g + (m : Int), t, false⟩, r.1, 0⟩ := by unfold fedOf; rw [h]
/-- A stream fed in two pieces. -/
theorem feed_app (s : Sp) (xs ys : List Int) (hs : AllB s.b) (hx : AllB xs) :
    feedS s (xs ++ ys) = ⟨(feedS (feedS s xs).s ys).s, (feedS s xs).l ++ (feedS (feedS s xs).s ys).l, (feedS s xs).c + (feedS (feedS s xs).s ys).c⟩ := by
  cases hg : s.goes with
  | false =>
    rw [feed_stop (xs := xs ++ ys) hg, feed_stop (xs := xs) hg]
    simp only
    rw [feed_stop hg]
    rfl
  | true =>
    obtain ⟨hd, h0, h1, h2, h3, h4⟩ := goes_of hg
    cases hgx : greetB s.g.toNat xs with
    | false =>
      rw [feed_bad (xs := xs ++ ys) hg (by rw [greet_app, hgx]; rfl), feed_bad hg hgx]
      simp only
      rw [feed_stop gone_goes]
      simp
    | true =>
      by_cases hlt : xs.length < 24 - s.g.toNat
      · have hb := h2 (by omega)
        have m1 : min xs.length (24 - s.g.toNat) = xs.length := by omega
        have hgx2 : greetB s.g.toNat (xs ++ ys) = greetB (s.g + (xs.length : Int)).toNat ys := by
          rw [greet_app, hgx, m1, show (s.g + (xs.length : Int)).toNat = s.g.toNat + xs.length by omega]
          simp
        have e1 : feedS s xs = ⟨⟨s.g + (xs.length : Int), [], false⟩, [], 0⟩ := by
          rw [feed_yes hg hgx, m1, hb, List.drop_length, List.append_nil, cutS_nil]
          rfl
        obtain ⟨_, hg1⟩ := goes_mk (g := s.g + (xs.length : Int)) (b := []) (by omega) (by omega) (fun _ => rfl) (by simp [gL]) (by simp [gL])
        rw [e1]
        simp only
        cases hgy : greetB (s.g + (xs.length : Int)).toNat ys with
        | false =>
          rw [feed_bad hg (by rw [hgx2]; exact hgy), feed_bad hg1 hgy]
          simp
        | true =>
          have m2 : min (xs ++ ys).length (24 - s.g.toNat) = xs.length + min ys.length (24 - (s.g + (xs.length : Int)).toNat) := by rw [List.length_append]; omega
          rw [feed_yes hg (by rw [hgx2]; exact hgy), feed_yes hg1 hgy, m2, hb]
          simp only
          rw [List.nil_append, List.nil_append, List.drop_append, List.drop_of_length_le (by omega), List.nil_append, show xs.length + min ys.length (24 - (s.g + (xs.length : Int)).toNat) - xs.length = min ys.length (24 - (s.g + (xs.length : Int)).toNat) by omega]
          cases hr : (cutS (ys.drop (min ys.length (24 - (s.g + (xs.length : Int)).toNat)))).2 with
          | none => rw [fed_none hr, fed_none hr]; simp
          | some t =>
            rw [fed_some hr, fed_some hr]
            simp only [List.nil_append, Int.zero_add]
            congr 2
            push_cast
            omega
      · have m1 : min xs.length (24 - s.g.toNat) = 24 - s.g.toNat := by omega
        have m2 : min (xs ++ ys).length (24 - s.g.toNat) = 24 - s.g.toNat := by rw [List.length_append]; omega
        have hgx2 : greetB s.g.toNat (xs ++ ys) = true := by
          rw [greet_app, hgx, m1]
          simp only [greetB, Bool.true_and, decide_eq_true_eq]
          intro j hj
          omega
        have hall : AllB (s.b ++ xs.drop (24 - s.g.toNat)) := fun x hx' => by
          rcases List.mem_append.1 hx' with h | h
          · exact hs x h
          · exact hx.drop _ x h
        obtain ⟨i1, i2⟩ := cutS_app (s.b ++ xs.drop (24 - s.g.toNat)) ys hall
        have hda : s.b ++ (xs ++ ys).drop (24 - s.g.toNat) = s.b ++ xs.drop (24 - s.g.toNat) ++ ys := by
          rw [List.drop_append, show 24 - s.g.toNat - xs.length = 0 by omega, List.drop_zero, List.append_assoc]
        rw [feed_yes hg hgx2, feed_yes hg hgx, m1, m2, hda]
        cases hr : (cutS (s.b ++ xs.drop (24 - s.g.toNat))).2 with
        | none =>
          rw [i1 hr, fed_none hr]
          simp only
          rw [feed_stop gone_goes]
          simp
        | some t =>
          have hrr := cutS_rest _ t hr
          obtain ⟨_, hg1⟩ := goes_mk (g := s.g + ((24 - s.g.toNat : Nat) : Int)) (b := t) (by omega) (by omega) (fun h => by omega) hrr.1 hrr.2
          have h24 : (s.g + ((24 - s.g.toNat : Nat) : Int)).toNat = 24 := by omega
          have hgy : greetB (s.g + ((24 - s.g.toNat : Nat) : Int)).toNat ys = true := by
            rw [h24]
            simp only [greetB, decide_eq_true_eq]
            intro j hj
            omega
          rw [i2 t hr, fed_some hr]
          simp only
          rw [feed_yes hg1 hgy]
          simp only
          rw [h24, show min ys.length (24 - 24) = 0 by omega, List.drop_zero]
          cases hq : (cutS (t ++ ys)).2 with
          | none => rw [fed_none (by first | rfl | exact hq), fed_none hq]; simp
          | some q =>
            rw [fed_some (t := q) (by first | rfl | exact hq), fed_some hq]
            simp
end Go.Proofs.Ytojcjmjohibpaaa
