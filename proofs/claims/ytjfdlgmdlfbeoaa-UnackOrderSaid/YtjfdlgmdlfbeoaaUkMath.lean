/-
  Layer 13 as plain functions: settings under way.
-/
import Derived.Test.YtjfdlgmdlfbeoaaPrMem
namespace Go.Proofs.Ytjfdlgmdlfbeoaa
set_option linter.unusedSimpArgs false
set_option linter.unusedVariables false
open Go.RowKit

/-- An item: settings, and when they were sent. -/
structure It where
  ps : List Pr
  t : Int
deriving DecidableEq
def tickB (n : Int) : Bool := decide (0 ≤ n) && decide (n ≤ 1099511627776)
def longB (l : List Pr) : Bool := decide (8 < (l.length : Int))
def itsLong (l : List It) : Bool := l.any fun x => longB x.ps
def itsOff (l : List It) : Bool := l.any fun x => !tickB x.t
def aheadB (x : It) : List It → Bool
  | [] => true
  | y :: _ => decide (x.t ≤ y.t)
def ordB : List It → Bool
  | [] => true
  | x :: l => aheadB x l && ordB l
theorem ordB_cons (x : It) (l : List It) : ordB (x :: l) = (aheadB x l && ordB l) := rfl
def chkU (l : List It) : Int := if 4 < (l.length : Int) then 7 else if itsLong l = true then 5 else if itsOff l = true then 8 else if ordB l = true then 0 else 10
def lastB (l : List It) (now : Int) : Bool := match l.getLast? with | none => false | some x => decide (now < x.t)
def pushU (l : List It) (ps : List Pr) (now : Int) : List It × Int :=
  if chkU l ≠ 0 then (l, chkU l) else if longB ps = true then (l, 5) else if tickB now = false then (l, 8) else if lastB l now = true then (l, 10) else if (l.length : Int) = 4 then (l, 7) else (l ++ [⟨ps, now⟩], 0)
def ackL (l : List It) : List It := l.drop 1
def ackP (l : List It) : List Pr := match l with | [] => [] | x :: _ => x.ps
def ackB (l : List It) : Bool := match l with | [] => false | _ :: _ => true
/-- The values of a setting in a list of settings, in items. -/
def valsP (id : Int) (l : List Pr) : List Int := (l.filter fun p => p.i == id).map fun p => IntKind.i64.wrap p.v
def valsU (id : Int) (l : List It) : List Int := l.flatMap fun x => valsP id x.ps
def leastU (id held : Int) (l : List It) : Int := (valsU id l).foldl min held
def mostU (id held : Int) (l : List It) : Int := (valsU id l).foldl max held
def lightU (l : List It) : Bool := decide ((l.length : Int) ≤ 8) && l.all fun x => decide ((x.ps.length : Int) ≤ 20)

/-! ## Any -/
def NoneU (p : It → Bool) (l : List It) (k : Nat) : Prop := ∀ j x, j < k → l[j]? = some x → p x = false
theorem NoneU.zero (p : It → Bool) (l : List It) : NoneU p l 0 := fun _ _ h => absurd h (by omega)
theorem NoneU.succ {p : It → Bool} {l : List It} {k : Nat} (h : NoneU p l k) {x : It} (hx : l[k]? = some x) (hp : p x = false) : NoneU p l (k + 1) := fun j y hj hy => by
  by_cases e : j = k
  · subst e; rw [hx] at hy; injection hy with hy; subst hy; exact hp
  · exact h j y (by omega) hy
theorem any_no {p : It → Bool} {l : List It} (h : NoneU p l l.length) : l.any p = false := by
  rw [List.any_eq_false]
  intro x hx
  obtain ⟨i, hi, rfl⟩ := List.getElem_of_mem hx
  simp [h i _ hi (List.getElem?_eq_getElem hi)]
theorem any_yes {p : It → Bool} {l : List It} {k : Nat} {x : It} (hx : l[k]? = some x) (hp : p x = true) : l.any p = true := by
  rw [List.any_eq_true]
  exact ⟨x, List.mem_of_getElem? hx, hp⟩

/-! ## In order -/
theorem ord_no {l : List It} : ∀ {k : Nat} {x y : It}, l[k]? = some x → l[k + 1]? = some y → y.t < x.t → ordB l = false := by
  induction l with
  | nil => intro k x y h; simp at h
  | cons z l ih =>
    intro k x y hx hy hlt
    cases k with
    | zero =>
      simp at hx
      subst hx
      cases l with
      | nil => simp at hy
      | cons a l =>
        simp at hy
        subst hy
        have : ¬ z.t ≤ a.t := by omega
        simp [ordB_cons, aheadB, this]
    | succ k =>
      have := ih (by simpa using hx) (by simpa using hy) hlt
      rw [ordB_cons, this, Bool.and_false]
theorem ord_yes {l : List It} : (∀ k x y, l[k]? = some x → l[k + 1]? = some y → x.t ≤ y.t) → ordB l = true := by
  induction l with
  | nil => intro _; rfl
  | cons z l ih =>
    intro h
    rw [ordB_cons, ih (fun k x y hx hy => h (k + 1) x y (by simpa using hx) (by simpa using hy)), Bool.and_true]
    cases l with
    | nil => rfl
    | cons a l => simpa [aheadB] using h 0 z a rfl rfl
theorem ord_at {l : List It} (h : ordB l = true) {k : Nat} {x y : It} (hx : l[k]? = some x) (hy : l[k + 1]? = some y) : x.t ≤ y.t := by
  by_cases e : x.t ≤ y.t
  · exact e
  · rw [ord_no hx hy (by omega)] at h; cases h
theorem ord_tail {x : It} {l : List It} (h : ordB (x :: l) = true) : ordB l = true := by
  rw [ordB_cons, Bool.and_eq_true] at h; exact h.2
theorem last_eq (l : List It) (now : Int) {x : It} {k : Nat} (hk : k + 1 = l.length) (hx : l[k]? = some x) : lastB l now = decide (now < x.t) := by
  have : l.getLast? = some x := by rw [List.getLast?_eq_getElem?, ← hk]; simpa using hx
  rw [lastB, this]
theorem ord_snoc {l : List It} {x : It} (h : ordB l = true) (hl : lastB l x.t = false) : ordB (l ++ [x]) = true := by
  refine ord_yes fun k a b ha hb => ?_
  have hk : k + 1 < (l ++ [x]).length := (List.getElem?_eq_some_iff.1 hb).1
  simp at hk
  rw [List.getElem?_append_left (by omega)] at ha
  by_cases e : k + 1 < l.length
  · rw [List.getElem?_append_left e] at hb
    exact ord_at h ha hb
  · rw [List.getElem?_append_right (by omega), show k + 1 - l.length = 0 by omega] at hb
    simp at hb
    subst hb
    rw [last_eq l x.t (by omega) ha, decide_eq_false_iff_not] at hl
    omega

/-! ## Light -/
theorem lightU_yes {l : List It} (hn : (l.length : Int) ≤ 8) (h : NoneU (fun x => !decide ((x.ps.length : Int) ≤ 20)) l l.length) : lightU l = true := by
  rw [lightU, Bool.and_eq_true, decide_eq_true_eq, List.all_eq_true]
  refine ⟨hn, fun x hx => ?_⟩
  obtain ⟨i, hi, rfl⟩ := List.getElem_of_mem hx
  simpa using h i _ hi (List.getElem?_eq_getElem hi)
theorem lightU_no {l : List It} {k : Nat} {x : It} (hx : l[k]? = some x) (h : ¬ (x.ps.length : Int) ≤ 20) : lightU l = false := by
  rw [lightU, Bool.and_eq_false_iff]
  refine .inr ?_
  rw [List.all_eq_false]
  exact ⟨x, List.mem_of_getElem? hx, by simpa using h⟩
theorem lightU_long {l : List It} (hn : ¬ (l.length : Int) ≤ 8) : lightU l = false := by simp [lightU]; omega
theorem lightU_bd {l : List It} (h : lightU l = true) : (l.length : Int) ≤ 8 ∧ ∀ x ∈ l, (x.ps.length : Int) ≤ 20 := by
  rw [lightU, Bool.and_eq_true, decide_eq_true_eq, List.all_eq_true] at h
  exact ⟨h.1, fun x hx => by simpa using h.2 x hx⟩

/-! ## Check -/
theorem chkU_7 {l : List It} (h : 4 < (l.length : Int)) : chkU l = 7 := if_pos h
theorem chkU_5 {l : List It} (h : ¬ 4 < (l.length : Int)) (h2 : itsLong l = true) : chkU l = 5 := by unfold chkU; rw [if_neg h, if_pos h2]
theorem chkU_8 {l : List It} (h : ¬ 4 < (l.length : Int)) (h2 : itsLong l = false) (h3 : itsOff l = true) : chkU l = 8 := by unfold chkU; rw [if_neg h, if_neg (by simp [h2]), if_pos h3]
theorem chkU_10 {l : List It} (h : ¬ 4 < (l.length : Int)) (h2 : itsLong l = false) (h3 : itsOff l = false) (h4 : ordB l = false) : chkU l = 10 := by unfold chkU; rw [if_neg h, if_neg (by simp [h2]), if_neg (by simp [h3]), if_neg (by simp [h4])]
theorem chkU_0 {l : List It} (h : ¬ 4 < (l.length : Int)) (h2 : itsLong l = false) (h3 : itsOff l = false) (h4 : ordB l = true) : chkU l = 0 := by unfold chkU; rw [if_neg h, if_neg (by simp [h2]), if_neg (by simp [h3]), if_pos h4]
theorem chkU_ok {l : List It} (h : chkU l = 0) : ¬ 4 < (l.length : Int) ∧ itsLong l = false ∧ itsOff l = false ∧ ordB l = true := by
  by_cases h1 : 4 < (l.length : Int)
  · rw [chkU_7 h1] at h; cases h
  · cases h2 : itsLong l with
    | true => rw [chkU_5 h1 h2] at h; cases h
    | false =>
      cases h3 : itsOff l with
      | true => rw [chkU_8 h1 h2 h3] at h; cases h
      | false =>
        cases h4 : ordB l with
        | false => rw [chkU_10 h1 h2 h3 h4] at h; cases h
        | true => exact ⟨h1, rfl, rfl, rfl⟩
theorem chkU_bd (l : List It) : 0 ≤ chkU l ∧ chkU l ≤ 10 := by
  unfold chkU; split <;> (try split) <;> (try split) <;> (try split) <;> omega
theorem chkU_long {l : List It} (h : chkU l = 0) {x : It} (hx : x ∈ l) : (x.ps.length : Int) ≤ 8 := by
  have h2 := (chkU_ok h).2.1
  rw [itsLong, List.any_eq_false] at h2
  have := h2 x hx
  simp [longB] at this
  omega
theorem chkU_snoc {l : List It} {x : It} (h : chkU l = 0) (hn : (l.length : Int) < 4) (hp : longB x.ps = false) (ht : tickB x.t = true) (ho : lastB l x.t = false) : chkU (l ++ [x]) = 0 := by
  obtain ⟨h1, h2, h3, h4⟩ := chkU_ok h
  refine chkU_0 (by simp; omega) ?_ ?_ (ord_snoc h4 ho)
  · rw [itsLong, List.any_append, ← itsLong, h2]; simp [hp]
  · rw [itsOff, List.any_append, ← itsOff, h3]; simp [ht]
theorem chkU_tail {x : It} {l : List It} (h : chkU (x :: l) = 0) : chkU l = 0 := by
  obtain ⟨h1, h2, h3, h4⟩ := chkU_ok h
  simp at h1
  refine chkU_0 (by omega) ?_ ?_ (ord_tail h4)
  · rw [itsLong, List.any_cons, Bool.or_eq_false_iff] at h2; exact h2.2
  · rw [itsOff, List.any_cons, Bool.or_eq_false_iff] at h3; exact h3.2

/-! ## Push -/
theorem pushU_chk {l : List It} {ps : List Pr} {now : Int} (h : chkU l ≠ 0) : pushU l ps now = (l, chkU l) := if_pos h
theorem pushU_5 {l : List It} {ps : List Pr} {now : Int} (h : chkU l = 0) (h2 : longB ps = true) : pushU l ps now = (l, 5) := by unfold pushU; rw [if_neg (by simp [h]), if_pos h2]
theorem pushU_8 {l : List It} {ps : List Pr} {now : Int} (h : chkU l = 0) (h2 : longB ps = false) (h3 : tickB now = false) : pushU l ps now = (l, 8) := by unfold pushU; rw [if_neg (by simp [h]), if_neg (by simp [h2]), if_pos h3]
theorem pushU_10 {l : List It} {ps : List Pr} {now : Int} (h : chkU l = 0) (h2 : longB ps = false) (h3 : tickB now = true) (h4 : lastB l now = true) : pushU l ps now = (l, 10) := by unfold pushU; rw [if_neg (by simp [h]), if_neg (by simp [h2]), if_neg (by simp [h3]), if_pos h4]
theorem pushU_7 {l : List It} {ps : List Pr} {now : Int} (h : chkU l = 0) (h2 : longB ps = false) (h3 : tickB now = true) (h4 : lastB l now = false) (h5 : (l.length : Int) = 4) : pushU l ps now = (l, 7) := by unfold pushU; rw [if_neg (by simp [h]), if_neg (by simp [h2]), if_neg (by simp [h3]), if_neg (by simp [h4]), if_pos h5]
theorem pushU_0 {l : List It} {ps : List Pr} {now : Int} (h : chkU l = 0) (h2 : longB ps = false) (h3 : tickB now = true) (h4 : lastB l now = false) (h5 : ¬ (l.length : Int) = 4) : pushU l ps now = (l ++ [⟨ps, now⟩], 0) := by unfold pushU; rw [if_neg (by simp [h]), if_neg (by simp [h2]), if_neg (by simp [h3]), if_neg (by simp [h4]), if_neg h5]

/-! ## Values -/
theorem valsP_snoc_yes {id : Int} {l : List Pr} {p : Pr} (h : (p.i == id) = true) : valsP id (l ++ [p]) = valsP id l ++ [IntKind.i64.wrap p.v] := by
  simp [valsP, List.filter_append, h]
theorem valsP_snoc_no {id : Int} {l : List Pr} {p : Pr} (h : (p.i == id) = false) : valsP id (l ++ [p]) = valsP id l := by
  simp [valsP, List.filter_append, h]
theorem valsP_take_yes {id : Int} {l : List Pr} {k : Nat} {p : Pr} (hp : l[k]? = some p) (h : (p.i == id) = true) : valsP id (l.take (k + 1)) = valsP id (l.take k) ++ [IntKind.i64.wrap p.v] := by
  rw [List.take_add_one, hp]; exact valsP_snoc_yes h
theorem valsP_take_no {id : Int} {l : List Pr} {k : Nat} {p : Pr} (hp : l[k]? = some p) (h : (p.i == id) = false) : valsP id (l.take (k + 1)) = valsP id (l.take k) := by
  rw [List.take_add_one, hp]; exact valsP_snoc_no h
theorem valsU_take {id : Int} {l : List It} {k : Nat} {x : It} (hx : l[k]? = some x) : valsU id (l.take (k + 1)) = valsU id (l.take k) ++ valsP id x.ps := by
  rw [List.take_add_one, hx, valsU, List.flatMap_append]; simp [valsU]
theorem valsP_app (id : Int) (a b : List Pr) : valsP id (a ++ b) = valsP id a ++ valsP id b := by simp [valsP, List.filter_append]
theorem valsU_app (id : Int) (a b : List It) : valsU id (a ++ b) = valsU id a ++ valsU id b := by simp [valsU]
/-- What has come, and the next one, are a part of all. -/
theorem vals_next {id : Int} {l : List It} {i j : Nat} {x : It} {p : Pr} (hx : l[i]? = some x) (hp : x.ps[j]? = some p) (h : (p.i == id) = true) :
    (valsU id (l.take i) ++ valsP id (x.ps.take j)) ++ [IntKind.i64.wrap p.v] <+: valsU id l := by
  have h1 : valsU id l = valsU id (l.take (i + 1)) ++ valsU id (l.drop (i + 1)) := by rw [← valsU_app, List.take_append_drop]
  have h2 : valsP id x.ps = valsP id (x.ps.take (j + 1)) ++ valsP id (x.ps.drop (j + 1)) := by rw [← valsP_app, List.take_append_drop]
  rw [h1, valsU_take hx, h2, valsP_take_yes hp h]
  exact ⟨valsP id (x.ps.drop (j + 1)) ++ valsU id (l.drop (i + 1)), by simp [List.append_assoc]⟩
theorem valsP_len (id : Int) (l : List Pr) : (valsP id l).length ≤ l.length := by
  rw [valsP, List.length_map]; exact List.length_filter_le ..
theorem valsU_len {id : Int} {l : List It} (h : ∀ x ∈ l, (x.ps.length : Int) ≤ 1000) : (valsU id l).length ≤ 1000 * l.length := by
  induction l with
  | nil => simp [valsU]
  | cons x l ih =>
    have h1 := ih (fun y hy => h y (List.mem_cons_of_mem _ hy))
    have h2 := h x List.mem_cons_self
    have h3 := valsP_len id x.ps
    rw [show valsU id (x :: l) = valsP id x.ps ++ valsU id l by simp [valsU], List.length_append, List.length_cons]
    omega
end Go.Proofs.Ytjfdlgmdlfbeoaa
