/-
  Layer 4: tables as lists of fields: what they count, what fits, what a table may be, places.
-/
import Derived.Test.YtchndegcnjejiaaStFind
import Derived.Test.YtchndegcnjejiaaFdMem
namespace Go.Proofs.Ytchndegcnjejiaa
open Go.RowKit

/-- As many of the newest as count at most m. -/
def fitK : List Fd → Int → Nat
  | [], _ => 0
  | f :: l, m => if m - (szF f : Int) < 0 then 0 else fitK l (m - (szF f : Int)) + 1
theorem fitK_le (l : List Fd) : ∀ m, fitK l m ≤ l.length := by
  induction l with
  | nil => intro m; simp [fitK]
  | cons f l ih =>
    intro m
    unfold fitK
    split
    · simp
    · have := ih (m - (szF f : Int)); simp; omega
/-- k is as many as fit: those ahead of k count at most m, and one more would count more. -/
def IsFit (l : List Fd) (m : Int) (k : Nat) : Prop := k ≤ l.length ∧ (0 < k → (szs (l.take k) : Int) ≤ m) ∧ (k < l.length → m < (szs (l.take (k + 1)) : Int))
theorem fitK_is (l : List Fd) : ∀ m, IsFit l m (fitK l m) := by
  induction l with
  | nil => intro m; simp [fitK, IsFit]
  | cons f l ih =>
    intro m
    unfold fitK
    split
    · refine ⟨by simp, fun h => absurd h (by omega), fun _ => ?_⟩
      simp [szs]
      omega
    · obtain ⟨h1, h2, h3⟩ := ih (m - (szF f : Int))
      refine ⟨by simp; exact h1, fun _ => ?_, fun h => ?_⟩
      · simp only [List.take_succ_cons, szs]
        by_cases h0 : 0 < fitK l (m - (szF f : Int))
        · have := h2 h0; omega
        · have h00 : fitK l (m - (szF f : Int)) = 0 := by omega
          rw [h00]
          simp [szs]
          omega
      · simp only [List.take_succ_cons, szs]
        have := h3 (by simp at h; exact h)
        omega
theorem IsFit.one {l : List Fd} {m : Int} {k k' : Nat} (h : IsFit l m k) (h' : IsFit l m k') : k = k' := by
  obtain ⟨a1, a2, a3⟩ := h
  obtain ⟨b1, b2, b3⟩ := h'
  rcases Nat.lt_trichotomy k k' with hlt | heq | hgt
  · have h1 := a3 (by omega)
    have h2 := b2 (by omega)
    have h3 := szs_take_mono l (show k + 1 ≤ k' by omega)
    omega
  · exact heq
  · have h1 := b3 (by omega)
    have h2 := a2 (by omega)
    have h3 := szs_take_mono l (show k' + 1 ≤ k by omega)
    omega
theorem fitK_eq {l : List Fd} {m : Int} {k : Nat} (h : IsFit l m k) : fitK l m = k := (fitK_is l m).one h

/-- Whether some field is never to be put in a table. -/
def nevB (l : List Fd) : Bool := l.any (·.x)
def NoNev (l : List Fd) (k : Nat) : Prop := ∀ j f, j < k → l[j]? = some f → f.x = false
theorem NoNev.zero (l : List Fd) : NoNev l 0 := fun _ _ h => absurd h (by omega)
theorem NoNev.succ {l : List Fd} {k : Nat} (h : NoNev l k) {f : Fd} (hf : l[k]? = some f) (hx : f.x = false) : NoNev l (k + 1) := fun j g hj hg => by
  by_cases e : j = k
  · subst e; rw [hf] at hg; injection hg with hg; subst hg; exact hx
  · exact h j g (by omega) hg
theorem nevB_yes {l : List Fd} {k : Nat} {f : Fd} (hf : l[k]? = some f) (hx : f.x = true) : nevB l = true := by
  unfold nevB
  rw [List.any_eq_true]
  exact ⟨f, List.mem_of_getElem? hf, hx⟩
theorem nevB_no {l : List Fd} (h : NoNev l l.length) : nevB l = false := by
  unfold nevB
  rw [List.any_eq_false]
  intro f hf
  obtain ⟨i, hi, rfl⟩ := List.getElem_of_mem hf
  rw [h i _ hi (List.getElem?_eq_getElem hi)]
  simp

/-- Whether a size may be; a table's error. -/
def rmB (m : Int) : Bool := decide (0 ≤ m) && decide (m ≤ 4096)
def chkI (m : Int) (l : List Fd) : Int := if rmB m = false then 8 else if nevB l = true then 4 else if m < (szs l : Int) then 5 else 0

/-- Both tables' fields, in order. -/
def fdL (l : List Fd) (k : Nat) : Fd := if k < 61 then ⟨nm k, vl k, false⟩ else l.getD (k - 61) noFd
theorem fdL_low (l : List Fd) {k : Nat} (h : k < 61) : fdL l k = ⟨nm k, vl k, false⟩ := if_pos h
theorem fdL_high (l : List Fd) {k : Nat} {f : Fd} (h : l[k]? = some f) : fdL l (61 + k) = f := by
  unfold fdL
  rw [if_neg (by omega), Nat.add_sub_cancel_left, List.getD, h]
  rfl
def atB (l : List Fd) (i : Int) : Bool := decide (0 < i) && decide (i ≤ 61 + (l.length : Int))
def atF (l : List Fd) (i : Int) : Fd := if atB l i then fdL l (i - 1).toNat else noFd

/-- The least place with this name among the first k, else 0. -/
def fdN (l : List Fd) (n : ByteArray) : Nat → Nat
  | 0 => 0
  | k + 1 => if (fdL l k).n = n ∧ fdN l n k = 0 then k + 1 else fdN l n k
def NoneL (l : List Fd) (n v : ByteArray) (k : Nat) : Prop := ∀ j, j < k → ¬ ((fdL l j).n = n ∧ (fdL l j).v = v)
/-- What Find answers. -/
def FindL (l : List Fd) (n v : ByteArray) (r : Nat) (b : Bool) : Prop :=
  (b = true ∧ 1 ≤ r ∧ r ≤ 61 + l.length ∧ (fdL l (r - 1)).n = n ∧ (fdL l (r - 1)).v = v ∧ NoneL l n v (r - 1)) ∨ (b = false ∧ r = fdN l n (61 + l.length) ∧ NoneL l n v (61 + l.length))
theorem fdN_le (l : List Fd) (n : ByteArray) (k : Nat) : fdN l n k ≤ k := by
  induction k with
  | zero => exact Nat.le_refl _
  | succ k ih =>
    unfold fdN
    split <;> omega
theorem NoneL.zero (l : List Fd) (n v : ByteArray) : NoneL l n v 0 := fun j h => absurd h (by omega)
theorem NoneL.succ {l : List Fd} {n v : ByteArray} {k : Nat} (h : NoneL l n v k) (hk : ¬ ((fdL l k).n = n ∧ (fdL l k).v = v)) : NoneL l n v (k + 1) := fun j hj => by
  by_cases e : j = k
  · subst e; exact hk
  · exact h j (by omega)
theorem FindL.one {l : List Fd} {n v : ByteArray} {r r' : Nat} {b b' : Bool} (h : FindL l n v r b) (h' : FindL l n v r' b') : r = r' ∧ b = b' := by
  rcases h with ⟨rfl, h1, h2, h3, h4, h5⟩ | ⟨rfl, h1, h2⟩ <;> rcases h' with ⟨rfl, g1, g2, g3, g4, g5⟩ | ⟨rfl, g1, g2⟩
  · refine ⟨?_, rfl⟩
    by_cases e : r < r'
    · exact absurd ⟨h3, h4⟩ (g5 (r - 1) (by omega))
    · by_cases e' : r' < r
      · exact absurd ⟨g3, g4⟩ (h5 (r' - 1) (by omega))
      · omega
  · exact absurd ⟨h3, h4⟩ (g2 (r - 1) (by omega))
  · exact absurd ⟨g3, g4⟩ (h2 (r' - 1) (by omega))
  · exact ⟨h1.trans g1.symm, rfl⟩
theorem fdN_low (l : List Fd) (n : ByteArray) : ∀ k, k ≤ 61 → fdN l n k = stF n k := by
  intro k
  induction k with
  | zero => intro _; rfl
  | succ k ih =>
    intro hk
    unfold fdN stF
    rw [ih (by omega), fdL_low l (show k < 61 by omega)]
theorem NoneL_low (l : List Fd) {n v : ByteArray} {k : Nat} (hk : k ≤ 61) (h : NoneTo n v k) : NoneL l n v k := fun j hj => by
  rw [fdL_low l (show j < 61 by omega)]
  exact h j hj
/-- What the static table answers is what both answer, where it has the value. -/
theorem FindL_of_yes (l : List Fd) {n v : ByteArray} {r : Nat} (h : FindIs n v r true) : FindL l n v r true := by
  rcases h with ⟨_, h1, h2, h3, h4, h5⟩ | ⟨h, _⟩
  · refine .inl ⟨rfl, h1, by omega, ?_, ?_, NoneL_low l (by omega) h5⟩
    · rw [fdL_low l (show r - 1 < 61 by omega)]; exact h3
    · rw [fdL_low l (show r - 1 < 61 by omega)]; exact h4
  · cases h
theorem FindIs_no (l : List Fd) {n v : ByteArray} {r : Nat} (h : FindIs n v r false) : r = fdN l n 61 ∧ NoneL l n v 61 := by
  rcases h with ⟨h, _⟩ | ⟨_, h1, h2⟩
  · cases h
  · exact ⟨by rw [fdN_low l n 61 (by omega)]; exact h1, NoneL_low l (by omega) h2⟩
theorem fdN_same {l : List Fd} {n : ByteArray} {k : Nat} (h : (fdL l k).n ≠ n) : fdN l n (k + 1) = fdN l n k := by
  rw [fdN, if_neg (fun e => h e.1)]
theorem fdN_first {l : List Fd} {n : ByteArray} {k : Nat} (h : (fdL l k).n = n) (h0 : fdN l n k = 0) : fdN l n (k + 1) = k + 1 := by
  rw [fdN, if_pos ⟨h, h0⟩]
theorem fdN_later {l : List Fd} {n : ByteArray} {k : Nat} (h0 : fdN l n k ≠ 0) : fdN l n (k + 1) = fdN l n k := by
  rw [fdN, if_neg (fun e => h0 e.2)]

/-- What Add leaves in a table that may be. -/
def addK (m : Int) (l : List Fd) (f : Fd) : List Fd := if m < (szF f : Int) then [] else ⟨f.n, f.v, false⟩ :: l.take (fitK l (m - (szF f : Int)))
/-- What Add, and Resize, leave in any. -/
def addL (m : Int) (l : List Fd) (f : Fd) : List Fd := if chkI m l = 0 then addK m l f else l
def resE (m : Int) (l : List Fd) (q : Int) : Int := if chkI m l = 0 then (if rmB q = true then 0 else 8) else chkI m l
def resM (m : Int) (l : List Fd) (q : Int) : Int := if resE m l q = 0 then q else m
def resL (m : Int) (l : List Fd) (q : Int) : List Fd := if resE m l q = 0 then l.take (fitK l q) else l
theorem chkI_ok {m : Int} {l : List Fd} : chkI m l = 0 ↔ (rmB m = true ∧ nevB l = false ∧ (szs l : Int) ≤ m) := by
  unfold chkI
  cases h1 : rmB m <;> cases h2 : nevB l <;> simp
theorem rmB_yes {m : Int} (h : 0 ≤ m) (h' : m ≤ 4096) : rmB m = true := by simp [rmB, h, h']
theorem rmB_bd {m : Int} (h : rmB m = true) : 0 ≤ m ∧ m ≤ 4096 := by simpa [rmB] using h
theorem nevB_take {l : List Fd} (h : nevB l = false) (k : Nat) : nevB (l.take k) = false := by
  unfold nevB at *
  rw [List.any_eq_false] at *
  exact fun f hf => h f (List.mem_of_mem_take hf)
/-- A table that may be still may be. -/
theorem add_may {m : Int} {l : List Fd} (f : Fd) (h : chkI m l = 0) : chkI m (addL m l f) = 0 := by
  obtain ⟨h1, h2, h3⟩ := chkI_ok.1 h
  unfold addL addK
  rw [if_pos h]
  split
  · exact chkI_ok.2 ⟨h1, rfl, by simp [szs]; exact (rmB_bd h1).1⟩
  · rename_i hm
    refine chkI_ok.2 ⟨h1, ?_, ?_⟩
    · have := nevB_take h2 (fitK l (m - (szF f : Int)))
      unfold nevB at this ⊢
      simp [this]
    · obtain ⟨_, q2, _⟩ := fitK_is l (m - (szF f : Int))
      simp only [szs]
      have e : szF ⟨f.n, f.v, false⟩ = szF f := rfl
      rw [e]
      by_cases h0 : 0 < fitK l (m - (szF f : Int))
      · have := q2 h0; omega
      · rw [show fitK l (m - (szF f : Int)) = 0 by omega]
        simp [szs]
        omega
theorem res_may {m : Int} {l : List Fd} {q : Int} (h : chkI m l = 0) (hq : rmB q = true) : chkI (resM m l q) (resL m l q) = 0 := by
  obtain ⟨h1, h2, h3⟩ := chkI_ok.1 h
  have e : resE m l q = 0 := by unfold resE; rw [if_pos h, if_pos hq]
  unfold resM resL
  rw [if_pos e, if_pos e]
  refine chkI_ok.2 ⟨hq, nevB_take h2 _, ?_⟩
  obtain ⟨_, q2, _⟩ := fitK_is l q
  by_cases h0 : 0 < fitK l q
  · exact q2 h0
  · rw [show fitK l q = 0 by omega]
    simp [szs]
    exact (rmB_bd hq).1
end Go.Proofs.Ytchndegcnjejiaa
