/-
  Fields as plain data; a slice that reads as a list of fields; append of such lists.
-/
import Derived.Test.YtdnopjopdklelaaDoorOps
import Derived.Test.YtdnopjopdklelaaDoorChecked
import Derived.Laws.AppendOwnNone
import Derived.Lib.AppendZeros
namespace Go.Proofs.YtdnopjopdklelaaDoor
set_option linter.unusedSimpArgs false
set_option linter.unusedVariables false
open Go.RowKit

/-- A field. -/
structure Fd where
  n : ByteArray
  v : ByteArray
  x : Bool
deriving DecidableEq
def noFd : Fd := ⟨⟨#[]⟩, ⟨#[]⟩, false⟩
def Fd.cs (f : Fd) : Array Value := #[.string f.n, .string f.v, .bool f.x]

/-- What a field counts; what fields count. -/
def szF (f : Fd) : Nat := f.n.size + f.v.size + 32
def szs : List Fd → Nat
  | [] => 0
  | f :: l => szF f + szs l
theorem szs_append (a b : List Fd) : szs (a ++ b) = szs a + szs b := by
  induction a with
  | nil => simp [szs]
  | cons f a ih => simp only [List.cons_append, szs, ih]; omega
theorem szs_take_le (l : List Fd) (k : Nat) : szs (l.take k) ≤ szs l := by
  have := szs_append (l.take k) (l.drop k)
  rw [List.take_append_drop] at this
  omega
theorem szs_take_mono (l : List Fd) {j k : Nat} (h : j ≤ k) : szs (l.take j) ≤ szs (l.take k) := by
  have := szs_take_le (l.take k) j
  rwa [List.take_take, Nat.min_eq_left h] at this
theorem szs_take_succ (l : List Fd) (k : Nat) (f : Fd) (h : l[k]? = some f) : szs (l.take (k + 1)) = szs (l.take k) + szF f := by
  rw [List.take_add_one, h, szs_append]
  simp [szs]
theorem szs_len (l : List Fd) : 32 * l.length ≤ szs l := by
  induction l with
  | nil => simp [szs]
  | cons f l ih => simp only [szs, szF, List.length_cons]; omega
theorem szs_get (l : List Fd) (k : Nat) (f : Fd) (h : l[k]? = some f) : szF f ≤ szs l := by
  have h1 := szs_take_succ l k f h
  have h2 := szs_take_le l (k + 1)
  omega

/-- The cells of a list of fields. -/
def fcs : List Fd → List Value
  | [] => []
  | f :: l => .string f.n :: .string f.v :: .bool f.x :: fcs l
theorem fcs_len (l : List Fd) : (fcs l).length = l.length * 3 := by
  induction l with
  | nil => rfl
  | cons f l ih => simp only [fcs, List.length_cons, ih]; omega
theorem fcs_append (a b : List Fd) : fcs (a ++ b) = fcs a ++ fcs b := by
  induction a with
  | nil => rfl
  | cons f a ih => simp only [List.cons_append, fcs, ih]
theorem fcs_one (l : List Fd) : ∀ u ∈ fcs l, u.oneCell' = true := by
  induction l with
  | nil => intro u h; cases h
  | cons f l ih =>
    intro u h
    simp only [fcs, List.mem_cons] at h
    rcases h with rfl | rfl | rfl | h
    · rfl
    · rfl
    · rfl
    · exact ih u h
theorem fcs_get (l : List Fd) : ∀ (k : Nat) (f : Fd), l[k]? = some f → (fcs l)[k * 3]? = some (.string f.n) ∧ (fcs l)[k * 3 + 1]? = some (.string f.v) ∧ (fcs l)[k * 3 + 2]? = some (.bool f.x) := by
  induction l with
  | nil => intro k f h; simp at h
  | cons g l ih =>
    intro k f h
    cases k with
    | zero =>
      simp at h
      subst h
      exact ⟨rfl, rfl, rfl⟩
    | succ k =>
      have := ih k f (by simpa using h)
      simp only [fcs, show (k + 1) * 3 = k * 3 + 1 + 1 + 1 by omega, show k * 3 + 1 + 1 + 1 + 1 = (k * 3 + 1) + 1 + 1 + 1 by omega, show k * 3 + 1 + 1 + 1 + 2 = (k * 3 + 2) + 1 + 1 + 1 by omega, List.getElem?_cons_succ]
      exact this
theorem fcs_part (l : List Fd) (j : Nat) (u : Value) (h : (fcs l)[j]? = some u) : ∃ (k : Nat) (f : Fd), l[k]? = some f ∧ ((j = k * 3 ∧ u = .string f.n) ∨ (j = k * 3 + 1 ∧ u = .string f.v) ∨ (j = k * 3 + 2 ∧ u = .bool f.x)) := by
  have hj : j < (fcs l).length := (List.getElem?_eq_some_iff.1 h).1
  rw [fcs_len] at hj
  have hk : j / 3 < l.length := by omega
  refine ⟨j / 3, l[j / 3], List.getElem?_eq_getElem hk, ?_⟩
  obtain ⟨h0, h1, h2⟩ := fcs_get l (j / 3) _ (List.getElem?_eq_getElem hk)
  have hm : j % 3 = 0 ∨ j % 3 = 1 ∨ j % 3 = 2 := by omega
  rcases hm with e | e | e
  · refine .inl ⟨by omega, ?_⟩
    rw [show j / 3 * 3 = j by omega, h] at h0
    exact Option.some.inj h0
  · refine .inr (.inl ⟨by omega, ?_⟩)
    rw [show j / 3 * 3 + 1 = j by omega, h] at h1
    exact Option.some.inj h1
  · refine .inr (.inr ⟨by omega, ?_⟩)
    rw [show j / 3 * 3 + 2 = j by omega, h] at h2
    exact Option.some.inj h2

/-- The slice (A, n, c) reads as the list l of fields. -/
structure FL (w : World) (A : Option Addr) (n c : Nat) (l : List Fd) : Prop where
  len : l.length = n
  le : n ≤ c
  max : c ≤ maxLen
  nil_ : A = none → c = 0
  at_ : ∀ k f, l[k]? = some f → ∃ b off, A = some ⟨b, off, none⟩ ∧ b < w.heap.size ∧ w.cell? ⟨b, off + k * 3, none⟩ = some (.string f.n) ∧ w.cell? ⟨b, off + k * 3 + 1, none⟩ = some (.string f.v) ∧ w.cell? ⟨b, off + k * 3 + 2, none⟩ = some (.bool f.x)
section
variable {w w' : World} {A : Option Addr} {n c : Nat} {l : List Fd}
theorem FL.keepB {B : Nat} (h : FL w A n c l) (hb : Below B w w') (hA : ∀ b off, A = some ⟨b, off, none⟩ → b < B) : FL w' A n c l :=
  ⟨h.len, h.le, h.max, h.nil_, fun k f hf => by
    obtain ⟨b, off, rfl, hlt, c0, c1, c2⟩ := h.at_ k f hf
    have hB := hA b off rfl
    exact ⟨b, off, rfl, Nat.lt_of_lt_of_le hlt hb.size, (hb.cell hB).trans c0, (hb.cell hB).trans c1, (hb.cell hB).trans c2⟩⟩
theorem FL.keep (h : FL w A n c l) (hb : Below w.heap.size w w') : FL w' A n c l :=
  ⟨h.len, h.le, h.max, h.nil_, fun k f hf => by
    obtain ⟨b, off, rfl, hlt, c0, c1, c2⟩ := h.at_ k f hf
    exact ⟨b, off, rfl, Nat.lt_of_lt_of_le hlt hb.size, (hb.cell hlt).trans c0, (hb.cell hlt).trans c1, (hb.cell hlt).trans c2⟩⟩
theorem FL.drew (h : FL w A n c l) : FL w.drew A n c l := h.keep (Below.refl _ _).drew
theorem FL.alloc (h : FL w A n c l) (o : Obj) : FL (w.alloc o) A n c l := h.keep ((Below.refl _ _).alloc (Nat.le_refl _) o)
theorem FL.take (h : FL w A n c l) {k : Nat} (hk : k ≤ n) : FL w A k c (l.take k) :=
  ⟨by rw [List.length_take, h.len]; omega, Nat.le_trans hk h.le, h.max, h.nil_, fun j f hf => by
    rw [List.getElem?_take] at hf
    split at hf
    · exact h.at_ j f hf
    · cases hf⟩
theorem FL.none_ (w : World) : FL w none 0 0 [] := ⟨rfl, Nat.le_refl _, Nat.zero_le _, fun _ => rfl, fun k f h => by simp at h⟩
theorem FL.cells (h : FL w A n c l) {ad : Addr} (hA : A = some ad) : ∀ j u, (fcs l)[j]? = some u → w.cell? (ad.add j) = some u := by
  intro j u hj
  obtain ⟨k, f, hf, hu⟩ := fcs_part l j u hj
  obtain ⟨b, off, e, _, c0, c1, c2⟩ := h.at_ k f hf
  rw [hA] at e
  injection e with e
  subst e
  rw [Addr.add_lit]
  rcases hu with ⟨rfl, rfl⟩ | ⟨rfl, rfl⟩ | ⟨rfl, rfl⟩
  · exact c0
  · rw [← Nat.add_assoc]; exact c1
  · rw [← Nat.add_assoc]; exact c2
/-- A row that the call made reads so. -/
theorem FL.of_own {B : Nat} {e : TypeId} (h : w.ownsRow B e 3 (.slice A n c) n (fcs l)) : FL w A n c l := by
  have hl : l.length = n := by have := h.1; rw [fcs_len] at this; omega
  rcases h.2 with ⟨he, h0⟩ | ⟨g, cap, cur, he, _, hg, hnc, hm, hsz, ht⟩
  · injection he with e1 e2 e3
    subst e1 e2 e3
    have : l = [] := List.eq_nil_of_length_eq_zero hl
    subst this
    exact FL.none_ w
  · injection he with e1 e2 e3
    subst e1 e3
    refine ⟨hl, hnc, hm, (fun e => by cases e), fun k f hf => ?_⟩
    obtain ⟨q0, q1, q2⟩ := fcs_get l k f hf
    have hc := h.cells (g := g) rfl
    simp only [Addr.add_lit, Nat.zero_add] at hc
    refine ⟨g, 0, rfl, (Array.getElem?_eq_some_iff.1 hg).1, ?_, ?_, ?_⟩
    · simpa using hc _ _ q0
    · simpa using hc _ _ q1
    · simpa using hc _ _ q2
end
theorem own_fields {w : World} {B : Nat} {e : TypeId} {v : Value} {n : Nat} {l : List Fd} (h : w.ownsRow B e 3 v n (fcs l)) : ∃ A c, v = .slice A n c ∧ FL w A n c l := by
  have key : ∃ A c, v = .slice A n c := by
    rcases h.2 with ⟨rfl, rfl⟩ | ⟨g, cap, cur, rfl, _⟩
    · exact ⟨none, 0, rfl⟩
    · exact ⟨_, cap, rfl⟩
  obtain ⟨A, c, rfl⟩ := key
  exact ⟨A, c, rfl, FL.of_own h⟩
theorem own_below_f {B B' : Nat} {e : TypeId} {size n : Nat} {v : Value} {xs : List Value} {w w' W : World} (h : W.ownsRow B e size v n xs) (hb : Below B' w W) (hB : B' ≤ B) (hB2 : B' ≤ w.heap.size) (hg : W.grownBy w' v.ownBlock) : Below B' w w' :=
  hb.grown hg (by have := hb.size; omega) fun k hk => Nat.le_trans hB (h.lt k hk).1

theorem fd_info : (Tryd.prog.info? 51).map (fun i => (i.zero, i.size, i.bytes)) = some (some (.agg #[.string ⟨#[]⟩, .string ⟨#[]⟩, .bool false]), 3, 40) := by kernel_rfl

/-- append of fields onto a row of the call's own. -/
theorem wpList_append_fl (w : World) {ops : Array Oper} {rest : List Oper} {o : Oper} {a : Act} {Q : Exit → Act → World → Prop} (hgd : o.guard = none) (s x : Operand)
    (ho : o.op = .call { callee := .builtin .append, args := #[s, x], argTypes := #[24, 24] })
    (base : Nat) (v : Value) (n : Nat) (xs : List Fd) (hs : a.eval s = v) (hown : w.ownsRow base 51 3 v n (fcs xs))
    (A : Option Addr) (m c : Nat) (ys : List Fd) (hx : a.eval x = .slice A m c) (hr : FL w A m c ys)
    (h63 : n + m ≤ 1000000000) (hbase : base ≤ w.heap.size)
    (h : ∀ v' w', w'.ownsRow base 51 3 v' (n + m) (fcs (xs ++ ys)) → w.grownBy w' v.ownBlock → wpList Tryd.prog ops Q rest (a.put o.dst v') w') : wpList Tryd.prog ops Q (o :: rest) a w := by
  obtain ⟨i0, hi0, hz0, hz1, hz2⟩ := info_parts fd_info
  have hl := hr.len
  cases A with
  | none =>
    have hc := hr.nil_ rfl
    subst hc
    have hm : m = 0 := by have := hr.le; omega
    subst hm
    have : ys = [] := List.eq_nil_of_length_eq_zero hl
    subst this
    refine wpList_append_own_none hgd s x _ ho base _ i0 3 Tryd.underlying24 hi0 v n (fcs xs) hs hown hx ?_
    have := h v w (by simpa using hown) ⟨rfl, rfl, rfl, Nat.le_refl _, fun _ _ _ => rfl⟩
    exact this
  | some ad =>
    refine wpList_append_own w hgd s x _ ho base _ i0 _ 3 40 Tryd.underlying24 hi0 hz0 hz1 hz2 rfl (by omega) v n (fcs xs) hs hown ad m c (fcs ys) hx (by rw [fcs_len, hl]) (hr.cells rfl) (fcs_one ys) (by unfold maxLen; omega) (by omega) hbase ?_
    intro v' w' h2 h3 _
    exact h v' w' (by rw [fcs_append]; exact h2) h3

/-- What stands in a round: the field behind k others, and its cells. -/
theorem FL.round {w : World} {A : Option Addr} {n c : Nat} {l : List Fd} (h : FL w A n c l) {k : Nat} (hk : k < n) :
    ∃ f b off, l[k]? = some f ∧ A = some ⟨b, off, none⟩ ∧ b < w.heap.size ∧ w.cell? ⟨b, off + k * 3, none⟩ = some (.string f.n) ∧ w.cell? ⟨b, off + k * 3 + 1, none⟩ = some (.string f.v) ∧ w.cell? ⟨b, off + k * 3 + 2, none⟩ = some (.bool f.x) := by
  have hl := h.len
  obtain ⟨b, off, h1⟩ := h.at_ k _ (List.getElem?_eq_getElem (show k < l.length by omega))
  exact ⟨_, b, off, List.getElem?_eq_getElem (by omega), h1⟩
end Go.Proofs.YtdnopjopdklelaaDoor
