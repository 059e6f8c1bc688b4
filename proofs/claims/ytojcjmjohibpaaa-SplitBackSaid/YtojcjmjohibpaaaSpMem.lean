/-
  Raw frames in memory: their cells; a slice that reads as a list of raw frames; append of such lists.
-/
import Derived.Test.YtojcjmjohibpaaaSpMath
import Derived.Test.YtojcjmjohibpaaaOps
import Derived.Laws.AppendOwnNone
import Derived.Lib.AppendZeros
import Derived.Deep.AppendLies
namespace Go.Proofs.Ytojcjmjohibpaaa
set_option linter.unusedSimpArgs false
set_option linter.unusedVariables false
open Go.RowKit

def Rw.cs (r : Rw) : Array Value := #[.int .i64 r.l, .int .u8 r.t, .int .u8 r.f, .int .i64 r.s, .string r.d]
instance : Inhabited Rw := ⟨⟨0, 0, 0, 0, ⟨#[]⟩⟩⟩
/-- The cells of a list of raw frames. -/
def rcs : List Rw → List Value
  | [] => []
  | r :: l => .int .i64 r.l :: .int .u8 r.t :: .int .u8 r.f :: .int .i64 r.s :: .string r.d :: rcs l
theorem rcs_len (l : List Rw) : (rcs l).length = l.length * 5 := by
  induction l with
  | nil => rfl
  | cons f l ih => simp only [rcs, List.length_cons, ih]; omega
theorem rcs_append (a b : List Rw) : rcs (a ++ b) = rcs a ++ rcs b := by
  induction a with
  | nil => rfl
  | cons f a ih => simp only [List.cons_append, rcs, ih]
theorem rcs_one (l : List Rw) : ∀ u ∈ rcs l, u.oneCell' = true := by
  induction l with
  | nil => intro u h; cases h
  | cons f l ih =>
    intro u h
    simp only [rcs, List.mem_cons] at h
    rcases h with rfl | rfl | rfl | rfl | rfl | h
    · rfl
    · rfl
    · rfl
    · rfl
    · rfl
    · exact ih u h
theorem rcs_get (l : List Rw) : ∀ (k : Nat) (r : Rw), l[k]? = some r → (rcs l)[k * 5]? = some (.int .i64 r.l) ∧ (rcs l)[k * 5 + 1]? = some (.int .u8 r.t) ∧ (rcs l)[k * 5 + 2]? = some (.int .u8 r.f) ∧ (rcs l)[k * 5 + 3]? = some (.int .i64 r.s) ∧ (rcs l)[k * 5 + 4]? = some (.string r.d) := by
  induction l with
  | nil => intro k f h; simp at h
  | cons g l ih =>
    intro k f h
    cases k with
    | zero =>
      simp at h
      subst h
      exact ⟨rfl, rfl, rfl, rfl, rfl⟩
    | succ k =>
      have := ih k f (by simpa using h)
      simp only [rcs, show (k + 1) * 5 = k * 5 + 1 + 1 + 1 + 1 + 1 by omega, show k * 5 + 1 + 1 + 1 + 1 + 1 + 1 = (k * 5 + 1) + 1 + 1 + 1 + 1 + 1 by omega, show k * 5 + 1 + 1 + 1 + 1 + 1 + 2 = (k * 5 + 2) + 1 + 1 + 1 + 1 + 1 by omega, show k * 5 + 1 + 1 + 1 + 1 + 1 + 3 = (k * 5 + 3) + 1 + 1 + 1 + 1 + 1 by omega, show k * 5 + 1 + 1 + 1 + 1 + 1 + 4 = (k * 5 + 4) + 1 + 1 + 1 + 1 + 1 by omega, List.getElem?_cons_succ]
      exact this
theorem rcs_part (l : List Rw) (j : Nat) (u : Value) (h : (rcs l)[j]? = some u) : ∃ (k : Nat) (r : Rw), l[k]? = some r ∧ ((j = k * 5 ∧ u = .int .i64 r.l) ∨ (j = k * 5 + 1 ∧ u = .int .u8 r.t) ∨ (j = k * 5 + 2 ∧ u = .int .u8 r.f) ∨ (j = k * 5 + 3 ∧ u = .int .i64 r.s) ∨ (j = k * 5 + 4 ∧ u = .string r.d)) := by
  have hj : j < (rcs l).length := (List.getElem?_eq_some_iff.1 h).1
  rw [rcs_len] at hj
  have hk : j / 5 < l.length := by omega
  refine ⟨j / 5, l[j / 5], List.getElem?_eq_getElem hk, ?_⟩
  obtain ⟨h0, h1, h2, h3, h4⟩ := rcs_get l (j / 5) _ (List.getElem?_eq_getElem hk)
  have hm : j % 5 = 0 ∨ j % 5 = 1 ∨ j % 5 = 2 ∨ j % 5 = 3 ∨ j % 5 = 4 := by omega
  rcases hm with e | e | e | e | e
  · refine .inl ⟨by omega, ?_⟩
    rw [show j / 5 * 5 = j by omega, h] at h0
    exact Option.some.inj h0
  · refine .inr (.inl ⟨by omega, ?_⟩)
    rw [show j / 5 * 5 + 1 = j by omega, h] at h1
    exact Option.some.inj h1
  · refine .inr (.inr (.inl ⟨by omega, ?_⟩))
    rw [show j / 5 * 5 + 2 = j by omega, h] at h2
    exact Option.some.inj h2
  · refine .inr (.inr (.inr (.inl ⟨by omega, ?_⟩)))
    rw [show j / 5 * 5 + 3 = j by omega, h] at h3
    exact Option.some.inj h3
  · refine .inr (.inr (.inr (.inr ⟨by omega, ?_⟩)))
    rw [show j / 5 * 5 + 4 = j by omega, h] at h4
    exact Option.some.inj h4

/-- The slice (A, n, c) reads as the list l of raw frames. -/
structure ZL (w : World) (A : Option Addr) (n c : Nat) (l : List Rw) : Prop where
  len : l.length = n
  le : n ≤ c
  max : c ≤ maxLen
  nil_ : A = none → c = 0
  at_ : ∀ k r, l[k]? = some r → ∃ b off, A = some ⟨b, off, none⟩ ∧ b < w.heap.size ∧ w.cell? ⟨b, off + k * 5, none⟩ = some (.int .i64 r.l) ∧ w.cell? ⟨b, off + k * 5 + 1, none⟩ = some (.int .u8 r.t) ∧ w.cell? ⟨b, off + k * 5 + 2, none⟩ = some (.int .u8 r.f) ∧ w.cell? ⟨b, off + k * 5 + 3, none⟩ = some (.int .i64 r.s) ∧ w.cell? ⟨b, off + k * 5 + 4, none⟩ = some (.string r.d)
section
variable {w w' : World} {A : Option Addr} {n c : Nat} {l : List Rw}
theorem ZL.keepB {B : Nat} (h : ZL w A n c l) (hb : Below B w w') (hA : ∀ b off, A = some ⟨b, off, none⟩ → b < B) : ZL w' A n c l :=
  ⟨h.len, h.le, h.max, h.nil_, fun k f hf => by
    obtain ⟨b, off, rfl, hlt, c0, c1, c2, c3, c4⟩ := h.at_ k f hf
    have hB := hA b off rfl
    exact ⟨b, off, rfl, Nat.lt_of_lt_of_le hlt hb.size, (hb.cell hB).trans c0, (hb.cell hB).trans c1, (hb.cell hB).trans c2, (hb.cell hB).trans c3, (hb.cell hB).trans c4⟩⟩
theorem ZL.keep (h : ZL w A n c l) (hb : Below w.heap.size w w') : ZL w' A n c l :=
  ⟨h.len, h.le, h.max, h.nil_, fun k f hf => by
    obtain ⟨b, off, rfl, hlt, c0, c1, c2, c3, c4⟩ := h.at_ k f hf
    exact ⟨b, off, rfl, Nat.lt_of_lt_of_le hlt hb.size, (hb.cell hlt).trans c0, (hb.cell hlt).trans c1, (hb.cell hlt).trans c2, (hb.cell hlt).trans c3, (hb.cell hlt).trans c4⟩⟩
theorem ZL.kb {S : Nat → Prop} (h : ZL w A n c l) (hk : KB S w w') (hs : ∀ b off, A = some ⟨b, off, none⟩ → 0 < n → ¬ S b) : ZL w' A n c l :=
  ⟨h.len, h.le, h.max, h.nil_, fun k f hf => by
    obtain ⟨b, off, rfl, hlt, c0, c1, c2, c3, c4⟩ := h.at_ k f hf
    have hn : 0 < n := by have := (List.getElem?_eq_some_iff.1 hf).1; rw [h.len] at this; omega
    have hB := hs b off rfl hn
    exact ⟨b, off, rfl, Nat.lt_of_lt_of_le hlt hk.size, (hk.cell (p := ⟨b, _, none⟩) hlt hB).trans c0, (hk.cell (p := ⟨b, _, none⟩) hlt hB).trans c1, (hk.cell (p := ⟨b, _, none⟩) hlt hB).trans c2, (hk.cell (p := ⟨b, _, none⟩) hlt hB).trans c3, (hk.cell (p := ⟨b, _, none⟩) hlt hB).trans c4⟩⟩
theorem ZL.drew (h : ZL w A n c l) : ZL w.drew A n c l := h.keep (Below.refl _ _).drew
theorem ZL.alloc (h : ZL w A n c l) (o : Obj) : ZL (w.alloc o) A n c l := h.keep ((Below.refl _ _).alloc (Nat.le_refl _) o)
theorem ZL.none_ (w : World) : ZL w none 0 0 [] := ⟨rfl, Nat.le_refl _, Nat.zero_le _, fun _ => rfl, fun k f h => by simp at h⟩
theorem ZL.cells (h : ZL w A n c l) {ad : Addr} (hA : A = some ad) : ∀ j u, (rcs l)[j]? = some u → w.cell? (ad.add j) = some u := by
  intro j u hj
  obtain ⟨k, f, hf, hu⟩ := rcs_part l j u hj
  obtain ⟨b, off, e, _, c0, c1, c2, c3, c4⟩ := h.at_ k f hf
  rw [hA] at e
  injection e with e
  subst e
  rw [Addr.add_lit]
  rcases hu with ⟨rfl, rfl⟩ | ⟨rfl, rfl⟩ | ⟨rfl, rfl⟩ | ⟨rfl, rfl⟩ | ⟨rfl, rfl⟩
  · exact c0
  · rw [← Nat.add_assoc]; exact c1
  · rw [← Nat.add_assoc]; exact c2
  · rw [← Nat.add_assoc]; exact c3
  · rw [← Nat.add_assoc]; exact c4
/-- The address of what is there, and a round's frame. -/
theorem ZL.round (h : ZL w A n c l) {k : Nat} (hk : k < n) : ∃ r b off, l[k]? = some r ∧ A = some ⟨b, off, none⟩ ∧ b < w.heap.size ∧ w.cell? ⟨b, off + k * 5, none⟩ = some (.int .i64 r.l) ∧ w.cell? ⟨b, off + k * 5 + 1, none⟩ = some (.int .u8 r.t) ∧ w.cell? ⟨b, off + k * 5 + 2, none⟩ = some (.int .u8 r.f) ∧ w.cell? ⟨b, off + k * 5 + 3, none⟩ = some (.int .i64 r.s) ∧ w.cell? ⟨b, off + k * 5 + 4, none⟩ = some (.string r.d) := by
  have hkl : k < l.length := by rw [h.len]; exact hk
  obtain ⟨b, off, e, hlt, cc⟩ := h.at_ k _ (List.getElem?_eq_getElem hkl)
  exact ⟨_, b, off, List.getElem?_eq_getElem hkl, e, hlt, cc⟩
/-- A row that the call made reads so. -/
theorem ZL.of_own {B : Nat} {e : TypeId} (h : w.ownsRow B e 5 (.slice A n c) n (rcs l)) : ZL w A n c l := by
  have hl : l.length = n := by have := h.1; rw [rcs_len] at this; omega
  rcases h.2 with ⟨he, h0⟩ | ⟨g, cap, cur, he, _, hg, hnc, hm, hsz, ht⟩
  · injection he with e1 e2 e3
    subst e1 e2 e3
    have : l = [] := List.eq_nil_of_length_eq_zero hl
    subst this
    exact ZL.none_ w
  · injection he with e1 e2 e3
    subst e1 e3
    refine ⟨hl, hnc, hm, (fun e => by cases e), fun k f hf => ?_⟩
    obtain ⟨q0, q1, q2, q3, q4⟩ := rcs_get l k f hf
    have hc := h.cells (g := g) rfl
    simp only [Addr.add_lit, Nat.zero_add] at hc
    refine ⟨g, 0, rfl, (Array.getElem?_eq_some_iff.1 hg).1, ?_, ?_, ?_, ?_, ?_⟩
    · simpa using hc _ _ q0
    · simpa using hc _ _ q1
    · simpa using hc _ _ q2
    · simpa using hc _ _ q3
    · simpa using hc _ _ q4
end
theorem own_zl {w : World} {B : Nat} {e : TypeId} {v : Value} {n : Nat} {l : List Rw} (h : w.ownsRow B e 5 v n (rcs l)) : ∃ A c, v = .slice A n c ∧ ZL w A n c l := by
  have key : ∃ A c, v = .slice A n c := by
    rcases h.2 with ⟨rfl, rfl⟩ | ⟨g, cap, cur, rfl, _⟩
    · exact ⟨none, 0, rfl⟩
    · exact ⟨_, cap, rfl⟩
  obtain ⟨A, c, rfl⟩ := key
  exact ⟨A, c, rfl, ZL.of_own h⟩
theorem own_below_z {B B' : Nat} {e : TypeId} {size n : Nat} {v : Value} {xs : List Value} {w w' W : World} (h : W.ownsRow B e size v n xs) (hb : Below B' w W) (hB : B' ≤ B) (hB2 : B' ≤ w.heap.size) (hg : W.grownBy w' v.ownBlock) : Below B' w w' :=
  hb.grown hg (by have := hb.size; omega) fun k hk => Nat.le_trans hB (h.lt k hk).1
/-- An empty row that the call made. -/
theorem own_made5 (w : World) (B : Nat) (hB : B ≤ w.heap.size) (e : TypeId) : (w.alloc (.cells #[] e)).ownsRow B e 5 (.slice (some ⟨w.heap.size, 0, none⟩) 0 0) 0 (rcs []) := by
  refine ⟨rfl, .inr ⟨w.heap.size, 0, #[], rfl, hB, heap_alloc_new w _, Nat.le_refl _, Nat.zero_le _, rfl, rfl⟩⟩

theorem zw_info : (Try.prog.info? 53).map (fun i => (i.zero, i.size, i.bytes)) = some (some (.agg #[.int .i64 0, .int .u8 0, .int .u8 0, .int .i64 0, .string ⟨#[]⟩]), 5, 40) := by kernel_rfl
theorem zr_info : (Try.prog.info? 48).map (fun i => (i.zero, i.size, i.bytes)) = some (some (.agg #[.int .i64 0, .int .u8 0, .int .u8 0, .int .i64 0, .string ⟨#[]⟩]), 5, 40) := by kernel_rfl

/-- append of raw frames onto a row of the call's own. -/
theorem wpList_append_zl (w : World) {ops : Array Oper} {rest : List Oper} {o : Oper} {a : Act} {Q : Exit → Act → World → Prop} (hgd : o.guard = none) (s x : Operand)
    (ho : o.op = .call { callee := .builtin .append, args := #[s, x], argTypes := #[27, 27] })
    (base : Nat) (v : Value) (n : Nat) (xs : List Rw) (hs : a.eval s = v) (hown : w.ownsRow base 53 5 v n (rcs xs))
    (A : Option Addr) (m c : Nat) (ys : List Rw) (hx : a.eval x = .slice A m c) (hr : ZL w A m c ys)
    (h63 : n + m ≤ 1000000) (hbase : base ≤ w.heap.size)
    (h : ∀ v' w', w'.ownsRow base 53 5 v' (n + m) (rcs (xs ++ ys)) → w.grownBy w' v.ownBlock → wpList Try.prog ops Q rest (a.put o.dst v') w') : wpList Try.prog ops Q (o :: rest) a w := by
  obtain ⟨i0, hi0, hz0, hz1, hz2⟩ := info_parts zw_info
  have hl := hr.len
  cases A with
  | none =>
    have hc := hr.nil_ rfl
    subst hc
    have hm : m = 0 := by have := hr.le; omega
    subst hm
    have : ys = [] := List.eq_nil_of_length_eq_zero hl
    subst this
    refine wpList_append_own_none hgd s x _ ho base _ i0 5 Try.underlying27 hi0 v n (rcs xs) hs hown hx ?_
    have := h v w (by simpa using hown) ⟨rfl, rfl, rfl, Nat.le_refl _, fun _ _ _ => rfl⟩
    exact this
  | some ad =>
    refine wpList_append_own w hgd s x _ ho base _ i0 _ 5 40 Try.underlying27 hi0 hz0 hz1 hz2 rfl (by omega) v n (rcs xs) hs hown ad m c (rcs ys) hx (by rw [rcs_len, hl]) (hr.cells rfl) (rcs_one ys) (by unfold maxLen; omega) (by omega) hbase ?_
    intro v' w' h2 h3 _
    exact h v' w' (by rw [rcs_append]; exact h2) h3

/-- A state's cells. -/
def Sp.cs (s : Sp) : Array Value := #[.int .i64 s.g, .string (strOfNums s.b), .bool s.d]
end Go.Proofs.Ytojcjmjohibpaaa
