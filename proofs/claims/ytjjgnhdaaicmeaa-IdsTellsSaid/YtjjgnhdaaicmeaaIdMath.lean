/-
  Layer 15 as plain functions: tables of streams.
-/
import Derived.Test.YtjjgnhdaaicmeaaKit
namespace Go.Proofs.Ytjjgnhdaaicmeaa
set_option linter.unusedSimpArgs false
set_option linter.unusedVariables false

/-- A table: the last one that began, those that are open, those that were cut. -/
structure Tb where
  l : Int
  op : List Int
  cu : List Int

/-- A client's number. -/
def oddB (n : Int) : Bool := decide (1 ≤ n) && decide (n ≤ 2147483647) && decide (n % 2 = 1)
theorem oddB_yes {n : Int} : oddB n = true ↔ 1 ≤ n ∧ n ≤ 2147483647 ∧ n % 2 = 1 := by simp [oddB, and_assoc]
theorem oddB_no {n : Int} : oddB n = false ↔ n < 1 ∨ 2147483647 < n ∨ n % 2 ≠ 1 := by
  rw [Bool.eq_false_iff, Ne, oddB_yes]; omega

/-! ## Rising -/
def lessB (a : Int) : List Int → Bool
  | [] => true
  | b :: _ => decide (a < b)
def riseB : List Int → Bool
  | [] => true
  | a :: l => lessB a l && riseB l
theorem rise_no {l : List Int} : ∀ {k : Nat} {x y : Int}, l[k]? = some x → l[k + 1]? = some y → y ≤ x → riseB l = false := by
  induction l with
  | nil => intro k x y h; simp at h
  | cons z l ih =>
    intro k x y hx hy hlt
    cases k with
    | zero =>
      simp at hx
      subst hx
      cases l with
      | nil => simp at hy
      | cons a l =>
        simp at hy
        subst hy
        simp [riseB, lessB]; omega
    | succ k =>
      have := ih (by simpa using hx) (by simpa using hy) hlt
      simp [riseB, this]
theorem rise_yes {l : List Int} : (∀ k x y, l[k]? = some x → l[k + 1]? = some y → x < y) → riseB l = true := by
  induction l with
  | nil => intro _; rfl
  | cons z l ih =>
    intro h
    rw [riseB, ih (fun k x y hx hy => h (k + 1) x y (by simpa using hx) (by simpa using hy)), Bool.and_true]
    cases l with
    | nil => rfl
    | cons a l => simpa [lessB] using h 0 z a rfl rfl
theorem rise_pw {l : List Int} : riseB l = true ↔ l.Pairwise (· < ·) := by
  induction l with
  | nil => simp [riseB]
  | cons a l ih =>
    rw [riseB, Bool.and_eq_true, ih, List.pairwise_cons]
    constructor
    · rintro ⟨h1, h2⟩
      refine ⟨fun b hb => ?_, h2⟩
      cases l with
      | nil => cases hb
      | cons c l =>
        have hc : a < c := by simpa [lessB] using h1
        rcases List.mem_cons.1 hb with rfl | hb
        · exact hc
        · have := (List.pairwise_cons.1 h2).1 b hb
          omega
    · rintro ⟨h1, h2⟩
      refine ⟨?_, h2⟩
      cases l with
      | nil => rfl
      | cons c l => simpa [lessB] using h1 c (by simp)
theorem pw_nodup {l : List Int} (h : l.Pairwise (· < ·)) : l.Nodup := h.imp (fun {a b} h => by omega)

/-! ## Twice -/
theorem nodup_take {l : List Int} (h : l.Nodup) {j : Nat} {x : Int} (hx : l[j]? = some x) : x ∉ l.take j := by
  obtain ⟨hj, rfl⟩ := List.getElem?_eq_some_iff.1 hx
  intro hm
  obtain ⟨i, hi, he⟩ := List.getElem_of_mem hm
  rw [List.length_take] at hi
  rw [List.getElem_take] at he
  exact (List.pairwise_iff_getElem.1 h) i j (by omega) hj (by omega) he
theorem nodup_of {l : List Int} (h : ∀ j x, l[j]? = some x → x ∉ l.take j) : l.Nodup := by
  refine List.pairwise_iff_getElem.2 fun i j hi hj hij he => ?_
  refine h j _ (List.getElem?_eq_getElem hj) ?_
  rw [← he]
  exact List.mem_iff_getElem.2 ⟨i, by rw [List.length_take]; omega, by rw [List.getElem_take]⟩

/-! ## Check, Class -/
def strB (T : Tb) : Bool := (T.op ++ T.cu).any fun n => !oddB n || decide (T.l < n)
def twB (T : Tb) : Bool := !decide ((T.op ++ T.cu).Nodup)
def chkI (T : Tb) : Int :=
  if T.l ≠ 0 ∧ oddB T.l = false then 8 else if 16 < T.op.length ∨ 8 < T.cu.length then 7 else if riseB T.op = false then 10 else if strB T = true then 4 else if twB T = true then 12 else 0
/-- A table that may be. -/
structure OkT (T : Tb) : Prop where
  l : T.l = 0 ∨ oddB T.l = true
  nop : T.op.length ≤ 16
  ncu : T.cu.length ≤ 8
  rise : T.op.Pairwise (· < ·)
  num : ∀ n ∈ T.op ++ T.cu, oddB n = true ∧ n ≤ T.l
  nod : (T.op ++ T.cu).Nodup
theorem str_no {T : Tb} : strB T = false ↔ ∀ n ∈ T.op ++ T.cu, oddB n = true ∧ n ≤ T.l := by
  rw [strB, List.any_eq_false]
  exact ⟨fun h n hn => by simpa using h n hn, fun h n hn => by simpa using h n hn⟩
theorem tw_no {T : Tb} : twB T = false ↔ (T.op ++ T.cu).Nodup := by simp [twB]
theorem chk_ok {T : Tb} : chkI T = 0 ↔ OkT T := by
  constructor
  · intro h
    unfold chkI at h
    split at h
    · cases h
    rename_i h8
    split at h
    · cases h
    rename_i h7
    split at h
    · cases h
    rename_i h10
    split at h
    · cases h
    rename_i h4
    split at h
    · cases h
    rename_i h12
    refine ⟨?_, by omega, by omega, rise_pw.1 (by simpa using h10), str_no.1 (by simpa using h4), tw_no.1 (by simpa using h12)⟩
    by_cases e : T.l = 0
    · exact .inl e
    · refine .inr ?_
      cases ho : oddB T.l with
      | true => rfl
      | false => exact absurd ⟨e, ho⟩ h8
  · intro h
    unfold chkI
    rw [if_neg (by rcases h.l with e | e <;> simp [e]), if_neg (by have := h.nop; have := h.ncu; omega), if_neg (by rw [rise_pw.2 h.rise]; simp), if_neg (by rw [str_no.2 h.num]; simp), if_neg (by rw [tw_no.2 h.nod]; simp)]
theorem chk_8 {T : Tb} (h : T.l ≠ 0) (h2 : oddB T.l = false) : chkI T = 8 := if_pos ⟨h, h2⟩
theorem chk_7 {T : Tb} (h : T.l = 0 ∨ oddB T.l = true) (h2 : 16 < T.op.length ∨ 8 < T.cu.length) : chkI T = 7 := by
  unfold chkI
  rw [if_neg (by rcases h with e | e <;> simp [e]), if_pos h2]
theorem chk_10 {T : Tb} (h : T.l = 0 ∨ oddB T.l = true) (h2 : T.op.length ≤ 16 ∧ T.cu.length ≤ 8) (h3 : riseB T.op = false) : chkI T = 10 := by
  unfold chkI
  rw [if_neg (by rcases h with e | e <;> simp [e]), if_neg (by omega), if_pos h3]
theorem chk_4 {T : Tb} (h : T.l = 0 ∨ oddB T.l = true) (h2 : T.op.length ≤ 16 ∧ T.cu.length ≤ 8) (h3 : riseB T.op = true) (h4 : strB T = true) : chkI T = 4 := by
  unfold chkI
  rw [if_neg (by rcases h with e | e <;> simp [e]), if_neg (by omega), if_neg (by rw [h3]; simp), if_pos h4]
theorem chk_12 {T : Tb} (h : T.l = 0 ∨ oddB T.l = true) (h2 : T.op.length ≤ 16 ∧ T.cu.length ≤ 8) (h3 : riseB T.op = true) (h4 : strB T = false) (h5 : twB T = true) : chkI T = 12 := by
  unfold chkI
  rw [if_neg (by rcases h with e | e <;> simp [e]), if_neg (by omega), if_neg (by rw [h3]; simp), if_neg (by rw [h4]; simp), if_pos h5]
theorem chk_0 {T : Tb} (h : T.l = 0 ∨ oddB T.l = true) (h2 : T.op.length ≤ 16 ∧ T.cu.length ≤ 8) (h3 : riseB T.op = true) (h4 : strB T = false) (h5 : twB T = false) : chkI T = 0 := by
  unfold chkI
  rw [if_neg (by rcases h with e | e <;> simp [e]), if_neg (by omega), if_neg (by rw [h3]; simp), if_neg (by rw [h4]; simp), if_neg (by rw [h5]; simp)]

def clsI (T : Tb) (id : Int) : Int := if oddB id = false then 0 else if T.l < id then 1 else if id ∈ T.op then 2 else if id ∈ T.cu then 4 else 3
theorem cls_0 {T : Tb} {id : Int} (h : oddB id = false) : clsI T id = 0 := if_pos h
theorem cls_1 {T : Tb} {id : Int} (h : oddB id = true) (h2 : T.l < id) : clsI T id = 1 := by
  unfold clsI
  rw [if_neg (by rw [h]; simp), if_pos h2]
theorem cls_in {T : Tb} {id : Int} (h : oddB id = true) (h2 : ¬ T.l < id) : clsI T id = if id ∈ T.op then 2 else if id ∈ T.cu then 4 else 3 := by
  unfold clsI
  rw [if_neg (by rw [h]; simp), if_neg h2]

/-! ## What first answers: by the place of the first one of which something holds -/
def FirstIs (p : Nat → Bool) (m n : Nat) (c : Int) : Prop :=
  (∃ k, k < m + n ∧ p k = true ∧ (∀ j, j < k → p j = false) ∧ c = if k < m then 2 else 4) ∨ ((∀ j, j < m + n → p j = false) ∧ c = 3)
theorem FirstIs.ne3 {p : Nat → Bool} {m n : Nat} {c : Int} (h : FirstIs p m n c) : (c != 3) = true ↔ ∃ k, k < m + n ∧ p k = true := by
  rcases h with ⟨k, hk, hp, _, rfl⟩ | ⟨hn, rfl⟩
  · refine ⟨fun _ => ⟨k, hk, hp⟩, fun _ => ?_⟩
    split <;> decide
  · refine ⟨fun h => by simp at h, fun ⟨k, hk, hp⟩ => ?_⟩
    rw [hn k hk] at hp; cases hp
/-- The numbers of both lists, by their places. -/
def nth (T : Tb) (k : Nat) : Int := (T.op ++ T.cu)[k]?.getD 0
theorem nth_op {T : Tb} {k : Nat} {x : Int} (h : T.op[k]? = some x) : nth T k = x := by
  have hk := (List.getElem?_eq_some_iff.1 h).1
  rw [nth, List.getElem?_append_left hk, h]; rfl
theorem nth_cu {T : Tb} {k : Nat} {x : Int} (h : T.cu[k]? = some x) : nth T (T.op.length + k) = x := by
  rw [nth, List.getElem?_append_right (by omega), show T.op.length + k - T.op.length = k by omega, h]; rfl
theorem nth_all {T : Tb} {p : Int → Bool} : (T.op ++ T.cu).any p = true ↔ ∃ k, k < T.op.length + T.cu.length ∧ p (nth T k) = true := by
  rw [List.any_eq_true]
  constructor
  · rintro ⟨x, hx, hp⟩
    obtain ⟨k, hk, rfl⟩ := List.getElem_of_mem hx
    refine ⟨k, by simpa using hk, ?_⟩
    rw [nth, List.getElem?_eq_getElem hk]; exact hp
  · rintro ⟨k, hk, hp⟩
    have hk' : k < (T.op ++ T.cu).length := by simpa using hk
    rw [nth, List.getElem?_eq_getElem hk'] at hp
    exact ⟨_, List.getElem_mem hk', hp⟩
theorem first_class {T : Tb} {id c : Int} (h : FirstIs (fun k => decide (nth T k = id)) T.op.length T.cu.length c) : c = if id ∈ T.op then 2 else if id ∈ T.cu then 4 else 3 := by
  rcases h with ⟨k, hk, hp, hno, rfl⟩ | ⟨hno, rfl⟩
  · have hp' : nth T k = id := by simpa using hp
    by_cases hkm : k < T.op.length
    · have : T.op[k]? = some T.op[k] := List.getElem?_eq_getElem hkm
      rw [nth_op this] at hp'
      rw [if_pos hkm, if_pos (by rw [← hp']; exact List.getElem_mem hkm)]
    · have hkc : k - T.op.length < T.cu.length := by omega
      have e := nth_cu (T := T) (List.getElem?_eq_getElem hkc)
      rw [show T.op.length + (k - T.op.length) = k by omega, hp'] at e
      rw [if_neg hkm, if_neg ?_, if_pos (by rw [e]; exact List.getElem_mem hkc)]
      intro hm
      obtain ⟨j, hj, he⟩ := List.getElem_of_mem hm
      have := hno j (by omega)
      simp only [decide_eq_false_iff_not] at this
      exact this ((nth_op (List.getElem?_eq_getElem hj)).trans he)
  · rw [if_neg ?_, if_neg ?_]
    · intro hm
      obtain ⟨j, hj, he⟩ := List.getElem_of_mem hm
      have := hno (T.op.length + j) (by omega)
      simp only [decide_eq_false_iff_not] at this
      exact this ((nth_cu (List.getElem?_eq_getElem hj)).trans he)
    · intro hm
      obtain ⟨j, hj, he⟩ := List.getElem_of_mem hm
      have := hno j (by omega)
      simp only [decide_eq_false_iff_not] at this
      exact this ((nth_op (List.getElem?_eq_getElem hj)).trans he)
theorem first_str {T : Tb} {c : Int} (h : FirstIs (fun k => !oddB (nth T k) || decide (T.l < nth T k)) T.op.length T.cu.length c) : (c != 3) = strB T := by
  rw [Bool.eq_iff_iff, h.ne3, strB, nth_all]
theorem nth_lt {T : Tb} {k : Nat} (hk : k < T.op.length + T.cu.length) : (T.op ++ T.cu)[k]? = some (nth T k) := by
  have hk' : k < (T.op ++ T.cu).length := by simpa using hk
  rw [nth, List.getElem?_eq_getElem hk']; rfl
theorem first_tw {T : Tb} {c : Int} (h : FirstIs (fun k => decide (nth T k ∈ (T.op ++ T.cu).take k)) T.op.length T.cu.length c) : (c != 3) = twB T := by
  rw [Bool.eq_iff_iff, h.ne3]
  constructor
  · rintro ⟨k, hk, hp⟩
    cases htw : twB T with
    | true => rfl
    | false => exact absurd (by simpa using hp) (nodup_take (tw_no.1 htw) (nth_lt hk))
  · intro htw
    by_cases hn : ∃ k, k < T.op.length + T.cu.length ∧ nth T k ∈ (T.op ++ T.cu).take k
    · obtain ⟨k, hk, hp⟩ := hn
      exact ⟨k, hk, by simpa using hp⟩
    · have : (T.op ++ T.cu).Nodup := nodup_of fun j x hx hm => hn ⟨j, by have := (List.getElem?_eq_some_iff.1 hx).1; simpa using this, by
        rw [nth_lt (by have := (List.getElem?_eq_some_iff.1 hx).1; simpa using this)] at hx
        injection hx with hx
        rw [hx]; exact hm⟩
      rw [tw_no.2 this] at htw; cases htw

/-! ## Begin, End, Same -/
def begI (T : Tb) (id : Int) : Tb × Int := if chkI T ≠ 0 then (T, 2) else if clsI T id ≠ 1 then (T, 1) else if T.op.length = 16 then (T, 11) else (⟨id, T.op ++ [id], T.cu⟩, 0)
def cutL (l : List Int) : List Int := l.drop (l.length - 8)
def endI (T : Tb) (id : Int) (cut : Bool) : Tb := if chkI T ≠ 0 ∨ clsI T id ≠ 2 then T else ⟨T.l, T.op.filter (fun n => !decide (n = id)), if cut = true then cutL (T.cu ++ [id]) else T.cu⟩
def sameI (T U : Tb) : Bool := decide (T.l = U.l) && (decide (T.op = U.op) && decide (T.cu = U.cu))
theorem beg_2 {T : Tb} {id : Int} (h : chkI T ≠ 0) : begI T id = (T, 2) := if_pos h
theorem beg_1 {T : Tb} {id : Int} (h : chkI T = 0) (h1 : clsI T id ≠ 1) : begI T id = (T, 1) := by
  unfold begI
  rw [if_neg (by rw [h]; simp), if_pos h1]
theorem beg_11 {T : Tb} {id : Int} (h : chkI T = 0) (h1 : clsI T id = 1) (h2 : T.op.length = 16) : begI T id = (T, 11) := by
  unfold begI
  rw [if_neg (by rw [h]; simp), if_neg (by rw [h1]; simp), if_pos h2]
theorem beg_0 {T : Tb} {id : Int} (h : chkI T = 0) (h1 : clsI T id = 1) (h2 : T.op.length ≠ 16) : begI T id = (⟨id, T.op ++ [id], T.cu⟩, 0) := by
  unfold begI
  rw [if_neg (by rw [h]; simp), if_neg (by rw [h1]; simp), if_neg h2]
theorem end_was {T : Tb} {id : Int} {cut : Bool} (h : chkI T ≠ 0 ∨ clsI T id ≠ 2) : endI T id cut = T := if_pos h
theorem end_yes {T : Tb} {id : Int} (h : chkI T = 0) (h1 : clsI T id = 2) : endI T id true = ⟨T.l, T.op.filter (fun n => !decide (n = id)), cutL (T.cu ++ [id])⟩ := by
  unfold endI
  rw [if_neg (by rw [h, h1]; simp), if_pos rfl]
theorem end_no {T : Tb} {id : Int} (h : chkI T = 0) (h1 : clsI T id = 2) : endI T id false = ⟨T.l, T.op.filter (fun n => !decide (n = id)), T.cu⟩ := by
  unfold endI
  rw [if_neg (by rw [h, h1]; simp), if_neg (by simp)]
theorem cls_inv {T : Tb} {id : Int} : (clsI T id = 1 → oddB id = true ∧ T.l < id) ∧ (clsI T id = 2 → oddB id = true ∧ ¬ T.l < id ∧ id ∈ T.op) := by
  cases ho : oddB id with
  | false => rw [cls_0 ho]; exact ⟨fun h => by simp at h, fun h => by simp at h⟩
  | true =>
    by_cases hl : T.l < id
    · rw [cls_1 ho hl]; exact ⟨fun _ => ⟨rfl, hl⟩, fun h => by simp at h⟩
    · rw [cls_in ho hl]
      refine ⟨fun h => ?_, fun h => ⟨rfl, hl, ?_⟩⟩
      · split at h
        · simp at h
        · split at h <;> simp at h
      · split at h
        · assumption
        · split at h <;> simp at h

/-! ## What begins and ends keeps the table right -/
theorem beg_keeps {T : Tb} {id : Int} (h : OkT T) (ho : oddB id = true) (hl : T.l < id) (hn : T.op.length < 16) : OkT ⟨id, T.op ++ [id], T.cu⟩ := by
  have hop : ∀ n ∈ T.op, n ≤ T.l := fun n hn => (h.num n (by simp [hn])).2
  have hcu : ∀ n ∈ T.cu, n ≤ T.l := fun n hn => (h.num n (by simp [hn])).2
  have hnd := List.nodup_append.1 h.nod
  refine ⟨.inr ho, by simp; omega, h.ncu, ?_, fun n hn => ?_, ?_⟩
  · refine List.pairwise_append.2 ⟨h.rise, by simp, fun a ha b hb => ?_⟩
    have := hop a ha
    have : b = id := by simpa using hb
    omega
  · simp only [List.mem_append, List.mem_singleton] at hn
    rcases hn with (hn | rfl) | hn
    · have := h.num n (by simp [hn])
      exact ⟨this.1, by have := this.2; show n ≤ id; omega⟩
    · exact ⟨ho, Int.le_refl _⟩
    · have := h.num n (by simp [hn])
      exact ⟨this.1, by have := this.2; show n ≤ id; omega⟩
  · refine List.nodup_append.2 ⟨List.nodup_append.2 ⟨hnd.1, by simp, fun a ha b hb => ?_⟩, hnd.2.1, fun a ha b hb => ?_⟩
    · have := hop a ha
      have : b = id := by simpa using hb
      omega
    · rcases List.mem_append.1 ha with ha | ha
      · exact hnd.2.2 a ha b hb
      · have := hcu b hb
        have : a = id := by simpa using ha
        omega
theorem cutL_sub (l : List Int) : (cutL l).Sublist l := List.drop_sublist _ _
theorem end_keeps {T : Tb} {id : Int} (cut : Bool) (h : OkT T) (hm : id ∈ T.op) : OkT ⟨T.l, T.op.filter (fun n => !decide (n = id)), if cut = true then cutL (T.cu ++ [id]) else T.cu⟩ := by
  have hf : (T.op.filter (fun n => !decide (n = id))).Sublist T.op := List.filter_sublist
  have hid := h.num id (by simp [hm])
  have hnd := List.nodup_append.1 h.nod
  have hnot : id ∉ T.op.filter (fun n => !decide (n = id)) := by simp
  have hcn : id ∉ T.cu := fun hc => hnd.2.2 id hm id hc rfl
  have hsub : (if cut = true then cutL (T.cu ++ [id]) else T.cu).Sublist (T.cu ++ [id]) := by
    split
    · exact cutL_sub _
    · exact List.sublist_append_left _ _
  refine ⟨h.l, Nat.le_trans hf.length_le h.nop, ?_, h.rise.sublist hf, fun n hn => ?_, ?_⟩
  · show (if cut = true then cutL (T.cu ++ [id]) else T.cu).length ≤ 8
    have := h.ncu
    split
    · simp [cutL]; omega
    · exact this
  · rcases List.mem_append.1 hn with hn | hn
    · exact h.num n (by simp [hf.subset hn])
    · rcases List.mem_append.1 (hsub.subset hn) with hn | hn
      · exact h.num n (by simp [hn])
      · obtain rfl : n = id := by simpa using hn
        exact hid
  · have hall : (T.op.filter (fun n => !decide (n = id)) ++ (T.cu ++ [id])).Nodup := by
      refine List.nodup_append.2 ⟨hnd.1.sublist hf, List.nodup_append.2 ⟨hnd.2.1, by simp, fun a ha b hb => ?_⟩, fun a ha b hb => ?_⟩
      · obtain rfl : b = id := by simpa using hb
        rintro rfl; exact hcn ha
      · rcases List.mem_append.1 hb with hb | hb
        · exact hnd.2.2 a (hf.subset ha) b hb
        · obtain rfl : b = id := by simpa using hb
          rintro rfl; exact hnot ha
    exact hall.sublist (List.Sublist.append (List.Sublist.refl _) hsub)
/-- The class behind an end. -/
theorem end_class {T : Tb} {id : Int} (cut : Bool) (h : OkT T) (h2 : clsI T id = 2) : clsI (endI T id cut) id = if cut = true then 4 else 3 := by
  obtain ⟨ho, hl, hm⟩ := cls_inv.2 h2
  have hnot : id ∉ T.op.filter (fun n => !decide (n = id)) := by simp
  have hnd := List.nodup_append.1 h.nod
  have hcn : id ∉ T.cu := fun hc => hnd.2.2 id hm id hc rfl
  cases cut with
  | true =>
    rw [end_yes (chk_ok.2 h) h2, cls_in (T := ⟨T.l, T.op.filter (fun n => !decide (n = id)), cutL (T.cu ++ [id])⟩) ho hl, if_neg hnot, if_pos rfl, if_pos ?_]
    show id ∈ cutL (T.cu ++ [id])
    unfold cutL
    rw [List.drop_append_of_le_length (by have := h.ncu; simp only [List.length_append, List.length_singleton]; omega)]
    simp
  | false => rw [end_no (chk_ok.2 h) h2, cls_in (T := ⟨T.l, T.op.filter (fun n => !decide (n = id)), T.cu⟩) ho hl, if_neg hnot, if_neg hcn]; rfl
theorem beg_class {T : Tb} {id : Int} (ho : oddB id = true) : clsI ⟨id, T.op ++ [id], T.cu⟩ id = 2 := by
  rw [cls_in ho (by show ¬ id < id; omega), if_pos (by simp)]
theorem ok_zero : OkT ⟨0, [], []⟩ := ⟨.inl rfl, by simp, by simp, by simp, fun n hn => by simp at hn, by simp⟩
end Go.Proofs.Ytjjgnhdaaicmeaa
