/-
  Layer 19: queues, as lists of texts.
-/
import Derived.Test.YtfcokhdkjoimmaaFrStr
namespace Go.Proofs.Ytfcokhdkjoimmaa
set_option linter.unusedSimpArgs false
set_option linter.unusedVariables false
open Go.RowKit

/-- A queue: its parts, what came, what went. -/
structure Qu where
  ps : List ByteArray
  m : Int
  g : Int

def lenL : List ByteArray → Nat
  | [] => 0
  | p :: r => p.size + lenL r
def flat (l : List ByteArray) : List Int := l.flatMap bts
theorem flat_nil : flat [] = [] := rfl
theorem flat_cons (p : ByteArray) (r : List ByteArray) : flat (p :: r) = bts p ++ flat r := rfl
theorem flat_app (a b : List ByteArray) : flat (a ++ b) = flat a ++ flat b := by simp [flat]
theorem flat_one (p : ByteArray) : flat [p] = bts p := by simp [flat]
theorem flat_len (l : List ByteArray) : (flat l).length = lenL l := by
  induction l with
  | nil => rfl
  | cons p r ih => rw [flat_cons, List.length_append, ih, bts_len]; rfl
theorem lenL_app (a b : List ByteArray) : lenL (a ++ b) = lenL a + lenL b := by
  rw [← flat_len, flat_app, List.length_append, flat_len, flat_len]
theorem lenL_one (p : ByteArray) : lenL [p] = p.size := by simp [lenL]
theorem flat_all (l : List ByteArray) : AllB (flat l) := by
  intro x hx
  obtain ⟨p, _, h⟩ := List.mem_flatMap.1 hx
  exact bts_all p x h
theorem take_next {l : List ByteArray} {i : Nat} {s : ByteArray} (h : l[i]? = some s) : l.take (i + 1) = l.take i ++ [s] := by
  rw [List.take_add_one, h]; rfl
theorem lenL_next {l : List ByteArray} {i : Nat} {s : ByteArray} (h : l[i]? = some s) : lenL (l.take (i + 1)) = lenL (l.take i) + s.size := by
  rw [take_next h, lenL_app, lenL_one]
theorem flat_next {l : List ByteArray} {i : Nat} {s : ByteArray} (h : l[i]? = some s) : flat (l.take (i + 1)) = flat (l.take i) ++ bts s := by
  rw [take_next h, flat_app, flat_one]
theorem lenL_split (l : List ByteArray) (i : Nat) : lenL (l.take i) + lenL (l.drop i) = lenL l := by
  rw [← lenL_app, List.take_append_drop]
theorem lenL_take (l : List ByteArray) (i : Nat) : lenL (l.take i) ≤ lenL l := by
  have := lenL_split l i; omega
theorem lenL_get {l : List ByteArray} {i : Nat} {s : ByteArray} (h : l[i]? = some s) : lenL (l.take i) + s.size ≤ lenL l := by
  rw [← lenL_next h]; exact lenL_take l _

/-- No part is empty. -/
def noneE (l : List ByteArray) : Bool := l.all fun s => decide (s.size ≠ 0)
theorem noneE_cons (p : ByteArray) (r : List ByteArray) : noneE (p :: r) = true ↔ p.size ≠ 0 ∧ noneE r = true := by simp [noneE]
theorem noneE_app (a b : List ByteArray) : noneE (a ++ b) = true ↔ noneE a = true ∧ noneE b = true := by simp [noneE]
theorem noneE_get {l : List ByteArray} {i : Nat} {s : ByteArray} (hl : noneE l = true) (h : l[i]? = some s) : s.size ≠ 0 := by
  have := List.all_eq_true.1 hl s (List.mem_of_getElem? h)
  simpa using this
theorem noneE_no {l : List ByteArray} {i : Nat} {s : ByteArray} (h : l[i]? = some s) (hs : s.size = 0) : noneE l = false := by
  cases hn : noneE l with
  | false => rfl
  | true => exact absurd hs (noneE_get hn h)
theorem noneE_all {l : List ByteArray} (h : ∀ j s, j < l.length → l[j]? = some s → s.size ≠ 0) : noneE l = true := by
  refine List.all_eq_true.2 fun s hs => ?_
  obtain ⟨j, hj, rfl⟩ := List.getElem_of_mem hs
  simpa using h j _ hj (List.getElem?_eq_getElem hj)
theorem noneE_zero {l : List ByteArray} (h : noneE l = true) (h0 : lenL l = 0) : l = [] := by
  cases l with
  | nil => rfl
  | cons p r =>
    have := ((noneE_cons p r).1 h).1
    simp only [lenL] at h0
    omega

def isC (n : Int) : Bool := decide (0 ≤ n) && decide (n ≤ 1099511627776)
theorem isC_iff (n : Int) : isC n = true ↔ 0 ≤ n ∧ n ≤ 1099511627776 := by simp [isC]
/-- May a queue be? -/
def chkQ (q : Qu) : Int :=
  if noneE q.ps = false then 4 else if 65536 < lenL q.ps then 7 else if isC q.m = false then 8 else if isC q.g = false then 8 else if q.m ≠ q.g + lenL q.ps then 10 else 0
structure OkQ (q : Qu) : Prop where
  no : noneE q.ps = true
  len : lenL q.ps ≤ 65536
  m0 : 0 ≤ q.m
  m1 : q.m ≤ 1099511627776
  g0 : 0 ≤ q.g
  g1 : q.g ≤ 1099511627776
  sum : q.m = q.g + lenL q.ps
theorem chk_ok (q : Qu) : chkQ q = 0 ↔ OkQ q := by
  unfold chkQ
  constructor
  · intro h
    split at h; · cases h
    split at h; · cases h
    split at h; · cases h
    split at h; · cases h
    split at h; · cases h
    rename_i a b c d e
    have c' := (isC_iff q.m).1 (by simpa using c)
    have d' := (isC_iff q.g).1 (by simpa using d)
    exact ⟨by simpa using a, by omega, c'.1, c'.2, d'.1, d'.2, by omega⟩
  · intro h
    rw [if_neg (by rw [h.no]; simp), if_neg (by have := h.len; omega), if_neg (by rw [(isC_iff _).2 ⟨h.m0, h.m1⟩]; simp), if_neg (by rw [(isC_iff _).2 ⟨h.g0, h.g1⟩]; simp), if_neg (by have := h.sum; omega)]
theorem chk_4 {q : Qu} (h : noneE q.ps = false) : chkQ q = 4 := by unfold chkQ; rw [if_pos h]
theorem chk_7 {q : Qu} (h : noneE q.ps = true) (h2 : 65536 < lenL q.ps) : chkQ q = 7 := by unfold chkQ; rw [if_neg (by rw [h]; simp), if_pos h2]
theorem chk_8 {q : Qu} (h : noneE q.ps = true) (h2 : lenL q.ps ≤ 65536) (h3 : isC q.m = false) : chkQ q = 8 := by unfold chkQ; rw [if_neg (by rw [h]; simp), if_neg (by omega), if_pos h3]
theorem chk_8g {q : Qu} (h : noneE q.ps = true) (h2 : lenL q.ps ≤ 65536) (h3 : isC q.m = true) (h4 : isC q.g = false) : chkQ q = 8 := by unfold chkQ; rw [if_neg (by rw [h]; simp), if_neg (by omega), if_neg (by rw [h3]; simp), if_pos h4]
theorem chk_10 {q : Qu} (h : noneE q.ps = true) (h2 : lenL q.ps ≤ 65536) (h3 : isC q.m = true) (h4 : isC q.g = true) (h5 : ¬ q.m = q.g + lenL q.ps) : chkQ q = 10 := by unfold chkQ; rw [if_neg (by rw [h]; simp), if_neg (by omega), if_neg (by rw [h3]; simp), if_neg (by rw [h4]; simp), if_pos h5]

def roomQ (q : Qu) : Int := if chkQ q = 0 then 65536 - lenL q.ps else 0
def sameQ (a b : Qu) : Bool := decide (a.m = b.m) && (decide (a.g = b.g) && decide (a.ps = b.ps))
theorem same_self (q : Qu) : sameQ q q = true := by simp [sameQ]
theorem same_iff (a b : Qu) : sameQ a b = true ↔ a = b := by
  obtain ⟨p, m, g⟩ := a
  obtain ⟨p', m', g'⟩ := b
  simp only [sameQ, Bool.and_eq_true, decide_eq_true_eq, Qu.mk.injEq]
  constructor
  · rintro ⟨a, b, c⟩; exact ⟨c, a, b⟩
  · rintro ⟨c, a, b⟩; exact ⟨a, b, c⟩

/-- Is there room for so many? -/
def fitsQ (q : Qu) (n : Nat) : Bool := decide ((n : Int) ≤ 65536 - lenL q.ps) && decide (q.m + n ≤ 1099511627776)
def pushE (q : Qu) (b : List Int) : Int := if chkQ q = 0 then (if fitsQ q b.length then 0 else 7) else chkQ q
def pushQ (q : Qu) (b : List Int) : Qu := if chkQ q = 0 ∧ fitsQ q b.length = true ∧ b ≠ [] then ⟨q.ps ++ [strOfNums b], q.m + b.length, q.g⟩ else q

/-- What is left behind the first n bytes. -/
def dropP : Nat → List ByteArray → List ByteArray
  | _, [] => []
  | n, p :: r => if p.size ≤ n then dropP (n - p.size) r else p.extract n p.size :: r
/-- How many go. -/
def goesN (q : Qu) (n : Int) : Nat := if chkQ q = 0 then min n.toNat (lenL q.ps) else 0
def drainQ (q : Qu) (n : Int) : Qu := if goesN q n = 0 then q else ⟨dropP (goesN q n) q.ps, q.m, q.g + goesN q n⟩
def drainB (q : Qu) (n : Int) : List Int := (flat q.ps).take (goesN q n)
theorem goes_le (q : Qu) (n : Int) : goesN q n ≤ lenL q.ps := by unfold goesN; split <;> omega
theorem drainB_len (q : Qu) (n : Int) : (drainB q n).length = goesN q n := by
  unfold drainB; rw [List.length_take, flat_len]; have := goes_le q n; omega

theorem cut_self (p : ByteArray) : p.extract 0 p.size = p := by
  apply bts_inj; rw [bts_drop]; rfl
theorem cut_size (p : ByteArray) (n : Nat) : (p.extract n p.size).size = p.size - n := by
  rw [← bts_len, bts_drop, List.length_drop, bts_len]
theorem dropP_zero : ∀ {l : List ByteArray}, noneE l = true → dropP 0 l = l
  | [], _ => rfl
  | p :: r, h => by
    have := ((noneE_cons p r).1 h).1
    rw [dropP, if_neg (by omega), cut_self]
theorem dropP_flat : ∀ (n : Nat) (l : List ByteArray), flat (dropP n l) = (flat l).drop n
  | n, [] => by simp [dropP, flat]
  | n, p :: r => by
    rw [dropP, flat_cons, List.drop_append, bts_len]
    split
    · rename_i h
      rw [dropP_flat, List.drop_of_length_le (l := bts p) (by rw [bts_len]; omega), List.nil_append]
    · rename_i h
      rw [flat_cons, bts_drop, show n - p.size = 0 by omega, List.drop_zero]
theorem dropP_len (n : Nat) (l : List ByteArray) : lenL (dropP n l) = lenL l - n := by
  rw [← flat_len, dropP_flat, List.length_drop, flat_len]
theorem dropP_none : ∀ (n : Nat) (l : List ByteArray), noneE l = true → noneE (dropP n l) = true
  | n, [], _ => rfl
  | n, p :: r, h => by
    have h' := (noneE_cons p r).1 h
    rw [dropP]
    split
    · exact dropP_none _ _ h'.2
    · exact (noneE_cons _ _).2 ⟨by rw [cut_size]; omega, h'.2⟩
theorem dropP_count : ∀ (n : Nat) (l : List ByteArray), (dropP n l).length ≤ l.length
  | n, [] => by simp [dropP]
  | n, p :: r => by
    rw [dropP]
    split
    · have := dropP_count (n - p.size) r; simp only [List.length_cons]; omega
    · simp
/-- Whole parts that go. -/
theorem dropP_skip : ∀ (k n : Nat) (l : List ByteArray), lenL (l.take k) ≤ n → dropP n l = dropP (n - lenL (l.take k)) (l.drop k)
  | 0, n, l, _ => by simp [lenL]
  | k + 1, n, [], _ => by simp [dropP]
  | k + 1, n, p :: r, h => by
    simp only [List.take_succ_cons, lenL] at h
    rw [dropP, if_pos (by omega), dropP_skip k _ r (by omega), List.take_succ_cons, List.drop_succ_cons, lenL, Nat.sub_sub]
theorem dropP_all {n : Nat} {l : List ByteArray} (h : lenL l ≤ n) : dropP n l = [] := by
  rw [dropP_skip l.length n l (by rw [List.take_length]; exact h), List.drop_length]; rfl
/-- In two goes. -/
theorem dropP_two : ∀ (a b : Nat) (l : List ByteArray), noneE l = true → dropP b (dropP a l) = dropP (a + b) l
  | a, b, [], _ => by simp [dropP]
  | a, b, p :: r, h => by
    have h' := (noneE_cons p r).1 h
    rw [dropP]
    split
    · rename_i h1
      rw [dropP_two _ _ _ h'.2, dropP, if_pos (by omega)]
      congr 1; omega
    · rename_i h1
      have hs := cut_size p a
      rw [dropP, dropP, hs]
      by_cases h2 : p.size ≤ a + b
      · rw [if_pos (by omega), if_pos h2]; congr 1; omega
      · rw [if_neg (by omega), if_neg h2]
        congr 1
        apply bts_inj
        rw [← hs, bts_drop, bts_drop, bts_drop, List.drop_drop]
/-- One part more: the document's way. -/
theorem dropP_snoc : ∀ (n : Nat) (l : List ByteArray) (p : ByteArray) (k : Nat), p.size ≠ 0 → k = min (n - min n (lenL l)) p.size → dropP n (l ++ [p]) = if k < p.size then dropP n l ++ [p.extract k p.size] else dropP n l
  | n, [], p, k, hp, hk => by
    simp only [lenL, Nat.min_zero, Nat.sub_zero] at hk
    simp only [List.nil_append, dropP]
    by_cases h : p.size ≤ n
    · rw [if_pos h, if_neg (by omega)]
    · rw [if_neg h, if_pos (by omega), show k = n by omega]
  | n, a :: r, p, k, hp, hk => by
    simp only [lenL] at hk
    rw [List.cons_append, dropP, dropP]
    by_cases h : a.size ≤ n
    · rw [if_pos h, if_pos h]
      exact dropP_snoc (n - a.size) r p k hp (by omega)
    · rw [if_neg h, if_neg h, if_pos (by omega), show k = 0 by omega, cut_self]
      rfl
theorem flat_take_snoc (n : Nat) (l : List ByteArray) (p : ByteArray) : (flat (l ++ [p])).take n = (flat l).take n ++ (bts p).take (n - min n (lenL l)) := by
  rw [flat_app, flat_one, List.take_append, flat_len]
  congr 2
  omega

theorem drain_ok {q : Qu} (h : OkQ q) (n : Int) : OkQ (drainQ q n) := by
  have hc := (chk_ok q).2 h
  unfold drainQ
  split
  · exact h
  · have hle := goes_le q n
    have hl := dropP_len (goesN q n) q.ps
    have h1 := h.len
    have h2 := h.sum
    have h3 := h.m1
    have h4 := h.g0
    refine ⟨dropP_none _ _ h.no, by show lenL (dropP _ _) ≤ _; omega, h.m0, h.m1, by show 0 ≤ q.g + _; omega, by show q.g + _ ≤ _; omega, ?_⟩
    show q.m = q.g + _ + (lenL (dropP _ _) : Nat)
    omega
theorem push_ok {q : Qu} (h : OkQ q) (b : List Int) (hb : AllB b) : OkQ (pushQ q b) := by
  unfold pushQ
  split
  · rename_i hh
    obtain ⟨-, hf, hn⟩ := hh
    have hs : (strOfNums b).size = b.length := by rw [← bts_len, bts_str b hb]
    have hl : b.length ≠ 0 := fun e => hn (List.eq_nil_of_length_eq_zero e)
    simp only [fitsQ, Bool.and_eq_true, decide_eq_true_eq] at hf
    have h1 := h.len
    have h2 := h.sum
    have h3 := h.m0
    refine ⟨(noneE_app _ _).2 ⟨h.no, (noneE_cons _ _).2 ⟨by rw [hs]; exact hl, rfl⟩⟩, ?_, ?_, ?_, h.g0, h.g1, ?_⟩
    · show lenL (q.ps ++ [_]) ≤ _; rw [lenL_app, lenL_one, hs]; omega
    · show 0 ≤ q.m + _; omega
    · show q.m + _ ≤ _; omega
    · show q.m + _ = q.g + (lenL (q.ps ++ [_]) : Nat); rw [lenL_app, lenL_one, hs]; omega
  · exact h
end Go.Proofs.Ytfcokhdkjoimmaa
