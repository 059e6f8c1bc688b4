/-
  Layer 18: answers as plain data: what Check, Fields, Read, Body, Wait answer.
-/
import Derived.Test.YtdnopjopdklelaaDoorRqVals
import Derived.Test.YtdnopjopdklelaaDoorRqItoa
namespace Go.Proofs.YtdnopjopdklelaaDoor
set_option linter.unusedSimpArgs false
set_option linter.unusedVariables false
open Go.RowKit

def nStat : ByteArray := ⟨#[58, 115, 116, 97, 116, 117, 115]⟩
def nRetry : ByteArray := ⟨#[114, 101, 116, 114, 121, 45, 97, 102, 116, 101, 114]⟩

/-- An answer. -/
structure Rp where
  s : Int
  l : Int
  r : Int
deriving DecidableEq
def Rp.cs (x : Rp) : Array Value := #[.int .i64 x.s, .int .i64 x.l, .int .i64 x.r]
def noRp : Rp := ⟨0, 0, 0⟩
def inB (n a b : Int) : Bool := decide (a ≤ n) && decide (n ≤ b)
def okP (x : Rp) : Bool := inB x.s 100 599 && (inB x.l 0 999999999 && inB x.r 0 999999999)
def chkP (x : Rp) : Int := if okP x = true then 0 else 8
def fieldsP (x : Rp) : List Fd := [⟨nStat, itoaB x.s, false⟩, ⟨nLen, itoaB x.l, false⟩] ++ (if x.r = 0 then [] else [⟨nRetry, itoaB x.r, false⟩])
/-- What the one field of a name tells. -/
def onlyV : List ByteArray → Option Int
  | [] => some 0
  | [v] => if numB v = true then some (numI v) else none
  | _ => none
def onlyP (nm : ByteArray) (l : List Fd) : Option Int := onlyV (vals nm l)
/-- What Read answers. -/
def readP : List Fd → Option Rp
  | [] => none
  | f :: t => if f.n = nStat ∧ t.any psF = false ∧ numB f.v = true ∧ (onlyP nLen t).isSome = true ∧ (onlyP nRetry t).isSome = true ∧ okP ⟨numI f.v, (onlyP nLen t).getD 0, (onlyP nRetry t).getD 0⟩ = true
      then some ⟨numI f.v, (onlyP nLen t).getD 0, (onlyP nRetry t).getD 0⟩ else none
theorem readP_cons (f : Fd) (t : List Fd) : readP (f :: t) = if f.n = nStat ∧ t.any psF = false ∧ numB f.v = true ∧ (onlyP nLen t).isSome = true ∧ (onlyP nRetry t).isSome = true ∧ okP ⟨numI f.v, (onlyP nLen t).getD 0, (onlyP nRetry t).getD 0⟩ = true
      then some ⟨numI f.v, (onlyP nLen t).getD 0, (onlyP nRetry t).getD 0⟩ else none := rfl
def ansP (r : Option Rp) : Value := .tuple #[.agg (r.getD noRp).cs, .bool r.isSome]

theorem inB_yes {n a b : Int} (h : a ≤ n) (h' : n ≤ b) : inB n a b = true := by simp [inB, h, h']
theorem inB_lo {n a b : Int} (h : ¬ a ≤ n) : inB n a b = false := by simp [inB, h]
theorem inB_hi {n a b : Int} (h : ¬ n ≤ b) : inB n a b = false := by simp [inB, h]
theorem inB_bd {n a b : Int} (h : inB n a b = true) : a ≤ n ∧ n ≤ b := by simpa [inB] using h
theorem okP_bd {x : Rp} (h : okP x = true) : 100 ≤ x.s ∧ x.s ≤ 599 ∧ 0 ≤ x.l ∧ x.l ≤ 999999999 ∧ 0 ≤ x.r ∧ x.r ≤ 999999999 := by
  unfold okP at h
  simp only [Bool.and_eq_true] at h
  have h1 := inB_bd h.1
  have h2 := inB_bd h.2.1
  have h3 := inB_bd h.2.2
  omega
theorem okP_of {x : Rp} (h : 100 ≤ x.s ∧ x.s ≤ 599 ∧ 0 ≤ x.l ∧ x.l ≤ 999999999 ∧ 0 ≤ x.r ∧ x.r ≤ 999999999) : okP x = true := by
  unfold okP
  rw [inB_yes h.1 h.2.1, inB_yes h.2.2.1 h.2.2.2.1, inB_yes h.2.2.2.2.1 h.2.2.2.2.2]
  rfl
theorem chkP_yes {x : Rp} (h : okP x = true) : chkP x = 0 := if_pos h
theorem chkP_no {x : Rp} (h : okP x = false) : chkP x = 8 := if_neg (by rw [h]; simp)

/-! ## The one field of a name -/
theorem onlyV_one (v : ByteArray) : onlyV [v] = if numB v = true then some (numI v) else none := rfl
theorem onlyV_two (a b : ByteArray) (l : List ByteArray) : onlyV (a :: b :: l) = none := rfl
theorem onlyV_bad {a : ByteArray} (l : List ByteArray) (h : numB a = false) : onlyV (a :: l) = none := by
  cases l with
  | nil => rw [onlyV_one, if_neg (by rw [h]; simp)]
  | cons b l => rfl
theorem onlyV_bd {l : List ByteArray} {n : Int} (h : onlyV l = some n) : 0 ≤ n ∧ n ≤ 999999999 := by
  match l with
  | [] => injection h with h; omega
  | [v] =>
    rw [onlyV_one] at h
    split at h
    · injection h with h; have := numI_bd v; omega
    · cases h
  | a :: b :: l => cases h
theorem onlyP_bd (nm : ByteArray) (l : List Fd) : 0 ≤ (onlyP nm l).getD 0 ∧ (onlyP nm l).getD 0 ≤ 999999999 := by
  cases h : onlyP nm l with
  | none => exact ⟨Int.le_refl _, by decide⟩
  | some n => exact onlyV_bd h

/-! ## A status has three digits -/
theorem numV_lo (a : Int) (l : List Int) (ha : 49 ≤ a) (h : l.all digI = true) : (10 : Int) ^ l.length ≤ numV (a :: l) := by
  suffices key : ∀ (l : List Int) (n : Int), 0 ≤ n → l.all digI = true → n * 10 ^ l.length ≤ l.foldl (fun n z => n * 10 + (z - 48)) n by
    have := key l (a - 48) (by omega) h
    have h1 : (1 : Int) * 10 ^ l.length ≤ (a - 48) * 10 ^ l.length := Int.mul_le_mul_of_nonneg_right (by omega) (Int.le_of_lt (Int.pow_pos (by omega)))
    have e : numV (a :: l) = List.foldl (fun n z => n * 10 + (z - 48)) (a - 48) l := by unfold numV; rw [List.foldl_cons, Int.zero_mul, Int.zero_add]
    rw [e]
    omega
  intro l
  induction l with
  | nil => intro n h0 _; simp
  | cons b l ih =>
    intro n h0 hb
    rw [List.all_cons, Bool.and_eq_true] at hb
    have hd := digI_bd hb.1
    have h1 := ih (n * 10 + (b - 48)) (by omega) hb.2
    rw [List.foldl_cons]
    refine Int.le_trans ?_ h1
    rw [List.length_cons, Int.pow_succ, ← Int.mul_assoc, Int.mul_right_comm n]
    exact Int.mul_le_mul_of_nonneg_right (by omega) (Int.le_of_lt (Int.pow_pos (by omega)))
theorem num_three {s : ByteArray} (h : numB s = true) (h1 : 100 ≤ numI s) (h2 : numI s ≤ 599) : s.size = 3 := by
  have hb := h
  unfold numB at hb
  simp only [Bool.and_eq_true, decide_eq_true_eq, Bool.not_eq_true', Bool.and_eq_false_iff, decide_eq_false_iff_not] at hb
  obtain ⟨hp, h9, hz, ha⟩ := hb
  rw [numI_yes h] at h1 h2
  have hl := bts_len s
  have hA : AllTo digI (bts s) s.size := fun j _ hj => all_get ha hj
  have hbd := numV_bd hA (by rw [bts_len]; exact Nat.le_refl _)
  rw [List.take_of_length_le (by rw [bts_len]; exact Nat.le_refl _)] at hbd
  by_cases c1 : s.size ≤ 2
  · exfalso
    have : (10 : Int) ^ s.size ≤ 10 ^ 2 := by
      have : (10 : Nat) ^ s.size ≤ 10 ^ 2 := Nat.pow_le_pow_right (by omega) c1
      exact_mod_cast this
    have e : (10 : Int) ^ 2 = 100 := by decide
    omega
  · by_cases c2 : s.size = 3
    · exact c2
    · exfalso
      cases hs : bts s with
      | nil => rw [hs] at hl; simp at hl; omega
      | cons a l =>
        rw [hs] at hz ha hl h1 h2
        rw [List.all_cons, Bool.and_eq_true] at ha
        have hd := digI_bd ha.1
        have ha9 : 49 ≤ a := by
          rcases hz with hz | hz
          · omega
          · have : a ≠ 48 := hz
            omega
        have hlo := numV_lo a l ha9 ha.2
        rw [List.length_cons] at hl
        have : (10 : Int) ^ 3 ≤ 10 ^ l.length := by
          have : (10 : Nat) ^ 3 ≤ 10 ^ l.length := Nat.pow_le_pow_right (by omega) (by omega)
          exact_mod_cast this
        have e : (10 : Int) ^ 3 = 1000 := by decide
        omega

/-! ## What is answered is read -/
theorem fields_back {x : Rp} (h : okP x = true) : readP (fieldsP x) = some x := by
  obtain ⟨h1, h2, h3, h4, h5, h6⟩ := okP_bd h
  have e1 := num_itoa (n := x.s) (by omega) (by omega)
  have e2 := num_itoa h3 h4
  have e3 := num_itoa h5 h6
  have p1 : ∀ v, psF ⟨nLen, v, false⟩ = false := fun v => by show prefB bColon nLen = false; decide
  have p2 : ∀ v, psF ⟨nRetry, v, false⟩ = false := fun v => by show prefB bColon nRetry = false; decide
  have a1 : ∀ v, vals nLen [⟨nLen, v, false⟩] = [v] := fun v => vals_one_yes rfl
  have a2 : ∀ v, vals nLen [⟨nRetry, v, false⟩] = [] := fun v => vals_one_no (show nRetry ≠ nLen by decide)
  have b1 : ∀ v, vals nRetry [⟨nLen, v, false⟩] = [] := fun v => vals_one_no (show nLen ≠ nRetry by decide)
  have b2 : ∀ v, vals nRetry [⟨nRetry, v, false⟩] = [v] := fun v => vals_one_yes rfl
  have z : ∀ nm, vals nm [] = [] := fun _ => rfl
  have o : ∀ {n : Int}, numB (itoaB n) = true ∧ numI (itoaB n) = n → onlyV [itoaB n] = some n := fun {n} q => by rw [onlyV_one, if_pos q.1, q.2]
  by_cases hr : x.r = 0
  · have ef : fieldsP x = ⟨nStat, itoaB x.s, false⟩ :: [⟨nLen, itoaB x.l, false⟩] := by unfold fieldsP; rw [if_pos hr]; rfl
    have q1 : onlyP nLen [⟨nLen, itoaB x.l, false⟩] = some x.l := by unfold onlyP; rw [a1, o e2]
    have q2 : onlyP nRetry [⟨nLen, itoaB x.l, false⟩] = some 0 := by unfold onlyP; rw [b1]; rfl
    have ex : (⟨x.s, x.l, 0⟩ : Rp) = x := by rw [← hr]
    rw [ef, readP_cons, q1, q2]
    simp only [Option.getD_some, e1.2, ex]
    rw [if_pos ⟨trivial, by simp [p1], e1.1, rfl, rfl, h⟩]
  · have ef : fieldsP x = ⟨nStat, itoaB x.s, false⟩ :: ([⟨nLen, itoaB x.l, false⟩] ++ [⟨nRetry, itoaB x.r, false⟩]) := by unfold fieldsP; rw [if_neg hr]; rfl
    have q1 : onlyP nLen ([⟨nLen, itoaB x.l, false⟩] ++ [⟨nRetry, itoaB x.r, false⟩]) = some x.l := by unfold onlyP; rw [vals_app, a1, a2, List.append_nil, o e2]
    have q2 : onlyP nRetry ([⟨nLen, itoaB x.l, false⟩] ++ [⟨nRetry, itoaB x.r, false⟩]) = some x.r := by unfold onlyP; rw [vals_app, b1, b2, List.nil_append, o e3]
    rw [ef, readP_cons, q1, q2]
    simp only [Option.getD_some, e1.2]
    rw [if_pos ⟨trivial, by simp [p1, p2], e1.1, rfl, rfl, h⟩]

/-! ## A body -/
def lttI (f : Int) (i : Nat) : Int := 97 + (f + i) % 26
/-- n letters from the place f on. -/
def bodyN (f : Int) (n : Nat) : List Int := (List.range n).map (lttI f)
def bodyL (f n : Int) : List Int := if 0 ≤ f ∧ 1 ≤ n ∧ n ≤ 65536 then bodyN f n.toNat else []
theorem lttI_bd (f : Int) (i : Nat) : 97 ≤ lttI f i ∧ lttI f i ≤ 122 := by unfold lttI; omega
theorem bodyN_len (f : Int) (n : Nat) : (bodyN f n).length = n := by simp [bodyN]
theorem bodyN_succ (f : Int) (n : Nat) : bodyN f (n + 1) = bodyN f n ++ [lttI f n] := by simp [bodyN, List.range_succ]
theorem bodyN_get (f : Int) {n i : Nat} (h : i < n) : (bodyN f n)[i]? = some (lttI f i) := by simp [bodyN, h]
theorem bodyN_byte (f : Int) (n : Nat) : ∀ z ∈ bodyN f n, 97 ≤ z ∧ z ≤ 122 := by
  intro z hz
  obtain ⟨i, -, rfl⟩ := List.mem_map.1 hz
  exact lttI_bd f i
theorem bodyN_app (f : Int) (a b : Nat) : bodyN f (a + b) = bodyN f a ++ bodyN (f + a) b := by
  induction b with
  | zero => simp [bodyN]
  | succ b ih =>
    rw [Nat.add_succ, bodyN_succ, ih, bodyN_succ, List.append_assoc]
    congr 3
    unfold lttI
    congr 2
    omega
theorem bodyL_yes {f n : Int} (h0 : 0 ≤ f) (h1 : 1 ≤ n) (h2 : n ≤ 65536) : bodyL f n = bodyN f n.toNat := if_pos ⟨h0, h1, h2⟩
theorem bodyL_no {f n : Int} (h : ¬ (0 ≤ f ∧ 1 ≤ n ∧ n ≤ 65536)) : bodyL f n = [] := if_neg h
theorem bodyL_nat {f : Int} {n : Nat} (h0 : 0 ≤ f) (h2 : n ≤ 65536) : bodyL f n = bodyN f n := by
  by_cases h : n = 0
  · subst h; rw [bodyL_no (by omega)]; rfl
  · rw [bodyL_yes h0 (by omega) (by omega), Int.toNat_natCast]
theorem bodyL_byte (f n : Int) : ∀ z ∈ bodyL f n, 97 ≤ z ∧ z ≤ 122 := by
  unfold bodyL
  split
  · exact bodyN_byte _ _
  · intro z hz; cases hz
theorem bodyL_len (f n : Int) : (bodyL f n).length ≤ 65536 := by
  unfold bodyL
  split
  · rw [bodyN_len]; omega
  · simp

/-! ## Ticks in seconds -/
def waitI (t p : Int) : Int := if 1 ≤ t ∧ 1 ≤ p then (t - 1) / p + 1 else 0
theorem waitI_no {t p : Int} (h : ¬ (1 ≤ t ∧ 1 ≤ p)) : waitI t p = 0 := if_neg h
theorem waitI_yes {t p : Int} (h : 1 ≤ t) (h' : 1 ≤ p) : waitI t p = (t - 1) / p + 1 := if_pos ⟨h, h'⟩
theorem waitI_bd {t p : Int} (h : 1 ≤ t) (h' : 1 ≤ p) : 1 ≤ waitI t p ∧ waitI t p ≤ t ∧ t ≤ waitI t p * p ∧ (waitI t p - 1) * p < t ∧ waitI t p * p < t + p := by
  rw [waitI_yes h h']
  obtain ⟨q, hq⟩ : ∃ q, q = (t - 1) / p := ⟨_, rfl⟩
  have h1 : 0 ≤ (t - 1) / p := Int.ediv_nonneg (by omega) (by omega)
  have h2 := Int.emod_add_mul_ediv (t - 1) p
  have h3 := Int.emod_nonneg (t - 1) (show p ≠ 0 by omega)
  have h4 := Int.emod_lt_of_pos (t - 1) (show 0 < p by omega)
  have h5 := Int.ediv_le_self p (show 0 ≤ t - 1 by omega)
  rw [← hq] at h1 h2 h5 ⊢
  have e : (q + 1) * p = p * q + p := by rw [Int.add_mul, Int.one_mul, Int.mul_comm]
  have e2 : (q + 1 - 1) * p = p * q := by rw [Int.add_sub_cancel, Int.mul_comm]
  omega
theorem wait_doc {t p : Int} (h : 1 ≤ t) (h' : 1 ≤ p) : waitI t p = if t % p = 0 then t / p else t / p + 1 := by
  rw [waitI_yes h h']
  have h2 := Int.emod_add_mul_ediv t p
  have h3 := Int.emod_nonneg t (show p ≠ 0 by omega)
  have h4 := Int.emod_lt_of_pos t (show 0 < p by omega)
  split
  · rename_i h0
    have : (t - 1) / p = t / p - 1 := by
      have e : p * (t / p - 1) = p * (t / p) - p := by rw [Int.mul_sub, Int.mul_one]
      have := (Int.ediv_emod_unique (a := t - 1) (b := p) (r := p - 1) (q := t / p - 1) (by omega)).2 ⟨by omega, by omega, by omega⟩
      exact this.1
    omega
  · rename_i h0
    have : (t - 1) / p = t / p := by
      have := (Int.ediv_emod_unique (a := t - 1) (b := p) (r := t % p - 1) (q := t / p) (by omega)).2 ⟨by omega, by omega, by omega⟩
      exact this.1
    omega
end Go.Proofs.YtdnopjopdklelaaDoor
