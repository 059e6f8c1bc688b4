/-
  Drawn regions of many operations: who came up already is kept as the bits of one number, so that the kernel reckons each step in little time. Any program.
-/
import Derived.Test.YtlondjmklnehhaaKit
import Derived.OrdersHeld
import Derived.Deep.RegionHeld
namespace Go.Proofs.Ytlondjmklnehhaa
set_option linter.unusedSimpArgs false
set_option linter.unusedVariables false
open Go.RowKit

/-- Who came up: the bits of a number. -/
def lstM (n m : Nat) : Array Bool := ((List.range n).map fun i => m.testBit i).toArray
theorem lstM_size (n m : Nat) : (lstM n m).size = n := by simp [lstM]
theorem lstM_get {n i : Nat} (m : Nat) (h : i < n) (b : Bool) : (lstM n m).getD i b = m.testBit i := by
  simp [lstM, Array.getD, h]
theorem lstM_out {n i : Nat} (m : Nat) (h : n ≤ i) (b : Bool) : (lstM n m).getD i b = b := by
  have : ¬ i < n := by omega
  simp [lstM, Array.getD, this]
theorem lstM_set {n i : Nat} (m : Nat) (h : i < n) : (lstM n m).setIfInBounds i true = lstM n (m ||| 2 ^ i) := by
  apply Array.ext
  · simp [lstM]
  · intro j h1 h2
    simp only [lstM, List.size_toArray, List.length_map, List.length_range, Array.size_setIfInBounds] at h1 h2
    rw [Array.getElem_setIfInBounds (by simpa [lstM] using h1)]
    simp only [lstM, List.getElem_toArray, List.getElem_map, List.getElem_range, Nat.testBit_or, Nat.testBit_two_pow]
    split
    · next e => subst e; simp
    · next e => simp [e]
theorem lstM_zero (n : Nat) : Array.replicate n false = lstM n 0 := by
  apply Array.ext
  · simp [lstM]
  · intro j h1 h2; simp [lstM]

section
variable {P : Program} {md : Region.Mode} {ops : Array Oper} {Q : Exit → Act → World → Prop} {S : World → Prop}
/-- An operation waits for nobody any more. -/
def openM (md : Region.Mode) (n m : Nat) (o : Oper) : Bool := o.after.toList.all fun e => !Region.binds md e || (Nat.blt e.on n && m.testBit e.on)
theorem openM_spec {n m : Nat} {o : Oper} (h : openM md n m o = true) : (o.after.all fun e => !Region.binds md e || (lstM n m).getD e.on false) = true := by
  rw [← Array.all_toList]
  unfold openM at h
  rw [List.all_eq_true] at h ⊢
  intro e he
  have := h e he
  rw [Bool.or_eq_true] at this ⊢
  rcases this with h1 | h1
  · exact .inl h1
  · rw [Bool.and_eq_true] at h1
    have hl : e.on < n := by have := h1.1; simpa [Nat.blt_eq] using this
    exact .inr (by rw [lstM_get m hl]; exact h1.2)
/-- All others that did not come up yet wait for it, or are apart from it. -/
def freeM (md : Region.Mode) (ops : Array Oper) (oi : Oper) (i m : Nat) : Nat → List Oper → Bool
  | _, [] => true
  | j, o :: l => (j == i || m.testBit j || (o.after.toList.any fun e => Region.binds md e && e.on == i) || oi.apart ops o) && freeM md ops oi i m (j + 1) l
theorem freeM_spec {oi : Oper} {i m : Nat} : ∀ (l : List Oper) (k : Nat), freeM md ops oi i m k l = true → ∀ j o, l[j]? = some o → (k + j == i || m.testBit (k + j) || (o.after.toList.any fun e => Region.binds md e && e.on == i) || oi.apart ops o) = true
  | [], k, _, j, o, h => by simp at h
  | p :: l, k, h, j, o, hj => by
    rw [freeM, Bool.and_eq_true] at h
    cases j with
    | zero =>
      simp at hj
      subst hj
      exact h.1
    | succ j =>
      have := freeM_spec l (k + 1) h.2 j o (by simpa using hj)
      rwa [show k + 1 + j = k + (j + 1) by omega] at this
def takeM (md : Region.Mode) (ops : Array Oper) (oi : Oper) (i m : Nat) : Bool := !m.testBit i && (openM md ops.size m oi && freeM md ops oi i m 0 ops.toList)
theorem wpAnyH_mask {i : Nat} {oi : Oper} {v : Value} {fuel m m' : Nat} {a : Act} {w : World} (hi : ops[i]? = some oi) (hs : Region.noSelect ops = true) (hm : m ||| 2 ^ i = m') (ht : takeM md ops oi i m = true)
    (hQ : ∀ c a w, Q (.panic c) (a.put oi.dst v) w → Q (.panic c) a w) (hy : YieldsIf P ops S oi v a) (hS : S w)
    (h : wpAnyH P md ops Q S fuel (lstM ops.size m') (a.put oi.dst v) w) : wpAnyH P md ops Q S (fuel + 1) (lstM ops.size m) a w := by
  have hlt : i < ops.size := (Array.getElem?_eq_some_iff.1 hi).1
  rw [takeM, Bool.and_eq_true, Bool.and_eq_true] at ht
  obtain ⟨h1, h2, h3⟩ := ht
  have h1' : m.testBit i = false := by simpa using h1
  refine wpAnyH_first hi (Region.noSelect_spec hs) hQ fuel _ a w ?_ ?_ hy hS (by rw [lstM_set m hlt, hm]; exact h)
  · intro j oj hj hne hun hno
    have hjl : j < ops.size := (Array.getElem?_eq_some_iff.1 hj).1
    rw [lstM_get m hjl] at hun
    have h4 := freeM_spec ops.toList 0 h3 j oj (by rw [← hj]; simp)
    rw [Nat.zero_add] at h4
    simp only [Bool.or_eq_true, beq_iff_eq, hne, hun, false_or, Bool.false_eq_true] at h4
    rcases h4 with h4 | h4
    · rw [List.any_eq_true] at h4
      obtain ⟨e, he, hb⟩ := h4
      simp only [Bool.and_eq_true, beq_iff_eq] at hb
      exact absurd hb.2 (hno e (by simpa using he) hb.1)
    · exact h4
  · rw [Region.ready, List.mem_filter]
    refine ⟨List.mem_range.2 hlt, ?_⟩
    rw [lstM_get m hlt, h1', hi]
    simpa using openM_spec h2
/-- Who may come up. -/
def readyM (md : Region.Mode) (n m : Nat) : Nat → List Oper → List Nat
  | _, [] => []
  | j, o :: l => if (!m.testBit j && openM md n m o) = true then j :: readyM md n m (j + 1) l else readyM md n m (j + 1) l
def nowM (md : Region.Mode) (n m : Nat) (ops : Array Oper) (i : Nat) : Bool := !(lstM n m).getD i true && ((ops[i]?).map (·.after.all fun e => !Region.binds md e || (lstM n m).getD e.on false)).getD false
theorem openM_iff {n m : Nat} {o : Oper} : openM md n m o = (o.after.all fun e => !Region.binds md e || (lstM n m).getD e.on false) := by
  rw [← Array.all_toList]
  unfold openM
  congr 1
  funext e
  congr 1
  rcases Nat.lt_or_ge e.on n with h | h
  · rw [lstM_get m h]; simp [Nat.blt_eq, h]
  · rw [lstM_out m h]; have : Nat.blt e.on n = false := by rw [Bool.eq_false_iff, ne_eq, Nat.blt_eq]; omega
    rw [this]; rfl
theorem readyM_spec {n m : Nat} : ∀ (l : List Oper) (k : Nat), k + l.length = n → (∀ j o, l[j]? = some o → ops[k + j]? = some o) → readyM md n m k l = (List.range' k l.length).filter (nowM md n m ops)
  | [], k, _, _ => rfl
  | o :: l, k, hk, h => by
    have h0 := h 0 o rfl
    simp only [List.length_cons] at hk
    have ih := readyM_spec (n := n) (m := m) l (k + 1) (by omega) (fun j p hp => by have := h (j + 1) p (by simpa using hp); rwa [show k + 1 + j = k + (j + 1) by omega])
    have e : nowM md n m ops k = (!m.testBit k && openM md n m o) := by
      rw [Nat.add_zero] at h0
      rw [nowM, lstM_get (n := n) (i := k) m (by omega), h0, openM_iff]
      rfl
    rw [readyM, List.length_cons, List.range'_succ, List.filter_cons, e, ih]
theorem ready_mask {m : Nat} {rs : List Nat} (h : readyM md ops.size m 0 ops.toList = rs) : Region.ready md ops (lstM ops.size m) = rs := by
  rw [← h, readyM_spec (ops := ops) ops.toList 0 (by simp) (fun j o hj => by rw [Nat.zero_add, ← hj]; simp), Region.ready, List.range_eq_range', Array.length_toList]
  rfl
/-- One that came up by itself is marked. -/
theorem wpAnyH_marked {i fuel m m' : Nat} {a : Act} {w : World} (hi : i < ops.size) (hm : m ||| 2 ^ i = m') (h : wpAnyH P md ops Q S fuel (lstM ops.size m') a w) : wpAnyH P md ops Q S fuel ((lstM ops.size m).setIfInBounds i true) a w := by
  rw [lstM_set m hi, hm]; exact h
/-- The beginning. -/
theorem wp_region_mask {id : Nat} {a : Act} {w : World} (hm : P.follows .mixedOrders = true) (hS : S w.drew)
    (h : S w.drew → wpAnyH P .any ops Q S ops.size (lstM ops.size 0) a w.drew) : (Code.region id ops true).wp P Q a w :=
  wp_region_held_drew hm hS (fun hs => by rw [lstM_zero]; exact h hs)
end
end Go.Proofs.Ytlondjmklnehhaa
