/-
  Slices of structs, whatever their shape: a slice that reads as a list of elements; append, cuts, stores. Any program.
-/
import Derived.Test.YtlondjmklnehhaaOps
import Derived.Test.YtlondjmklnehhaaOwnRow
import Derived.OwnWalk
import Derived.Laws.AppendOwnNone
import Derived.Laws.OwnMore
import Derived.Lib.AppendZeros
import Derived.Laws.IdiomCopy
import Derived.Laws.Rows
import Derived.Deep.Slices
import Derived.Deep.Fields
import Derived.ChangeSlices
namespace Go.Proofs.Ytlondjmklnehhaa
set_option linter.unusedSimpArgs false
set_option linter.unusedVariables false
open Go.RowKit

/-- How an element lies in memory: so many cells. -/
structure Shp (α : Type) where
  k : Nat
  f : α → List Value
  len : ∀ x, (f x).length = k
  one : ∀ x, ∀ u ∈ f x, u.oneCell' = true
  pos : 0 < k

section
variable {α : Type} {F : Shp α}
/-- The cells of a list. -/
def flc (F : Shp α) : List α → List Value
  | [] => []
  | x :: l => F.f x ++ flc F l
theorem flc_len (l : List α) : (flc F l).length = l.length * F.k := by
  induction l with
  | nil => simp [flc]
  | cons x l ih => rw [flc, List.length_append, ih, F.len, List.length_cons, Nat.add_mul]; omega
theorem flc_append (a b : List α) : flc F (a ++ b) = flc F a ++ flc F b := by
  induction a with
  | nil => rfl
  | cons x l ih => rw [List.cons_append, flc, flc, ih, List.append_assoc]
theorem flc_one (l : List α) : ∀ u ∈ flc F l, u.oneCell' = true := by
  induction l with
  | nil => intro u h; cases h
  | cons x l ih =>
    intro u h
    rw [flc, List.mem_append] at h
    rcases h with h | h
    · exact F.one x u h
    · exact ih u h
theorem flc_get (l : List α) : ∀ (i : Nat) (x : α), l[i]? = some x → ∀ (j : Nat) (v : Value), (F.f x)[j]? = some v → (flc F l)[i * F.k + j]? = some v := by
  induction l with
  | nil => intro i x h; simp at h
  | cons y l ih =>
    intro i x h j v hv
    cases i with
    | zero =>
      simp at h
      subst h
      have hj : j < (F.f y).length := (List.getElem?_eq_some_iff.1 hv).1
      rw [flc, Nat.zero_mul, Nat.zero_add, List.getElem?_append_left hj]
      exact hv
    | succ i =>
      have := ih i x (by simpa using h) j v hv
      have hl := F.len y
      rw [flc, List.getElem?_append_right (by rw [hl, Nat.add_mul]; omega), hl, show (i + 1) * F.k + j - F.k = i * F.k + j by rw [Nat.add_mul]; omega]
      exact this
theorem flc_part (l : List α) : ∀ (p : Nat) (u : Value), (flc F l)[p]? = some u → ∃ (i : Nat) (x : α) (j : Nat), l[i]? = some x ∧ p = i * F.k + j ∧ (F.f x)[j]? = some u := by
  induction l with
  | nil => intro p u h; simp [flc] at h
  | cons y l ih =>
    intro p u h
    have hl := F.len y
    rw [flc] at h
    by_cases hp : p < (F.f y).length
    · rw [List.getElem?_append_left hp] at h
      exact ⟨0, y, p, rfl, by omega, h⟩
    · rw [List.getElem?_append_right (by omega)] at h
      obtain ⟨i, x, j, h1, h2, h3⟩ := ih _ _ h
      exact ⟨i + 1, x, j, by simpa using h1, by rw [Nat.add_mul]; omega, h3⟩
/-- Cells laid one behind the other. -/
def layC : List Value → Nat → List Value → List Value
  | L, _, [] => L
  | L, p, v :: vs => layC (L.set p v) (p + 1) vs
theorem layC_cons (y : Value) : ∀ (vs : List Value) (L : List Value) (p : Nat), layC (y :: L) (p + 1) vs = y :: layC L p vs
  | [], L, p => rfl
  | v :: vs, L, p => by rw [layC, layC, List.set_cons_succ, layC_cons]
theorem layC_skip (A : List Value) : ∀ (vs L : List Value) (p : Nat), layC (A ++ L) (A.length + p) vs = A ++ layC L p vs := by
  induction A with
  | nil => intro vs L p; simp
  | cons y A ih =>
    intro vs L p
    rw [List.cons_append, List.length_cons, show A.length + 1 + p = (A.length + p) + 1 by omega, layC_cons, ih, List.cons_append]
theorem layC_all : ∀ (vs A L : List Value), vs.length = A.length → layC (A ++ L) 0 vs = vs ++ L
  | [], A, L, h => by
    have : A = [] := List.eq_nil_of_length_eq_zero (by simpa using h.symm)
    subst this; rfl
  | v :: vs, [], L, h => by simp at h
  | v :: vs, a :: A, L, h => by
    rw [layC, List.cons_append, List.set_cons_zero, layC_cons, layC_all vs A L (by simpa using h), List.cons_append]
theorem flc_set (l : List α) : ∀ (i : Nat) (x : α), i < l.length → flc F (l.set i x) = layC (flc F l) (i * F.k) (F.f x) := by
  induction l with
  | nil => intro i x h; simp at h
  | cons y l ih =>
    intro i x h
    cases i with
    | zero =>
      rw [List.set_cons_zero, flc, flc, Nat.zero_mul, layC_all _ _ _ (by rw [F.len, F.len])]
    | succ i =>
      rw [List.set_cons_succ, flc, flc, ih i x (by simpa using h), show (i + 1) * F.k = (F.f y).length + i * F.k by rw [F.len, Nat.add_mul]; omega, layC_skip]

/-- The slice (A, n, c) reads as the list l. -/
structure SL (F : Shp α) (w : World) (A : Option Addr) (n c : Nat) (l : List α) : Prop where
  len : l.length = n
  le : n ≤ c
  max : c ≤ maxLen
  nil_ : A = none → c = 0
  at_ : ∀ i x, l[i]? = some x → ∃ b off, A = some ⟨b, off, none⟩ ∧ b < w.heap.size ∧ ∀ j v, (F.f x)[j]? = some v → w.cell? ⟨b, off + i * F.k + j, none⟩ = some v
section
variable {w w' : World} {A : Option Addr} {n c : Nat} {l : List α}
theorem SL.keep (h : SL F w A n c l) (hb : Below w.heap.size w w') : SL F w' A n c l :=
  ⟨h.len, h.le, h.max, h.nil_, fun i x hx => by
    obtain ⟨b, off, rfl, hlt, hc⟩ := h.at_ i x hx
    exact ⟨b, off, rfl, Nat.lt_of_lt_of_le hlt hb.size, fun j v hv => (hb.cell (p := ⟨b, _, none⟩) hlt).trans (hc j v hv)⟩⟩
theorem SL.drew (h : SL F w A n c l) : SL F w.drew A n c l := h.keep (Below.refl _ _).drew
theorem SL.alloc (h : SL F w A n c l) (o : Obj) : SL F (w.alloc o) A n c l := h.keep ((Below.refl _ _).alloc (Nat.le_refl _) o)
theorem SL.kb {S : Nat → Prop} (h : SL F w A n c l) (hk : KB S w w') (hs : ∀ b off, A = some ⟨b, off, none⟩ → ¬ S b) : SL F w' A n c l :=
  ⟨h.len, h.le, h.max, h.nil_, fun i x hx => by
    obtain ⟨b, off, rfl, hlt, hc⟩ := h.at_ i x hx
    exact ⟨b, off, rfl, Nat.lt_of_lt_of_le hlt hk.size, fun j v hv => (hk.cell (p := ⟨b, _, none⟩) hlt (hs b off rfl)).trans (hc j v hv)⟩⟩
theorem SL.keepB {B : Nat} (h : SL F w A n c l) (hb : Below B w w') (hA : ∀ b off, A = some ⟨b, off, none⟩ → b < B) : SL F w' A n c l :=
  ⟨h.len, h.le, h.max, h.nil_, fun i x hx => by
    obtain ⟨b, off, rfl, hlt, hc⟩ := h.at_ i x hx
    exact ⟨b, off, rfl, Nat.lt_of_lt_of_le hlt hb.size, fun j v hv => (hb.cell (p := ⟨b, _, none⟩) (hA _ _ rfl)).trans (hc j v hv)⟩⟩
theorem SL.none_ (w : World) : SL F w none 0 0 [] := ⟨rfl, Nat.le_refl _, Nat.zero_le _, fun _ => rfl, fun k f h => by simp at h⟩
theorem sl_nil (h : SL F w none n c l) : l = [] ∧ n = 0 ∧ c = 0 := by
  have h1 := h.nil_ rfl
  have h2 := h.le
  have h3 := h.len
  have : l.length = 0 := by omega
  exact ⟨List.eq_nil_of_length_eq_zero this, by omega, h1⟩
theorem SL.cells (h : SL F w A n c l) {ad : Addr} (hA : A = some ad) : ∀ j u, (flc F l)[j]? = some u → w.cell? (ad.add j) = some u := by
  intro p u hp
  obtain ⟨i, x, j, hx, rfl, hu⟩ := flc_part l p u hp
  obtain ⟨b, off, e, _, hc⟩ := h.at_ i x hx
  rw [hA] at e
  injection e with e
  subst e
  rw [Addr.add_lit, ← Nat.add_assoc]
  exact hc j u hu
/-- A round's element. -/
theorem SL.round (h : SL F w A n c l) {i : Nat} (hi : i < n) : ∃ x b off, l[i]? = some x ∧ A = some ⟨b, off, none⟩ ∧ b < w.heap.size ∧ ∀ j v, (F.f x)[j]? = some v → w.cell? ⟨b, off + i * F.k + j, none⟩ = some v := by
  have hl : i < l.length := by rw [h.len]; exact hi
  obtain ⟨b, off, e, hlt, hc⟩ := h.at_ i _ (List.getElem?_eq_getElem hl)
  exact ⟨l[i], b, off, List.getElem?_eq_getElem hl, e, hlt, hc⟩
/-- A row that the call made reads so. -/
theorem SL.of_own {B : Nat} {e : TypeId} (h : w.ownsRow B e F.k (.slice A n c) n (flc F l)) : SL F w A n c l := by
  have hp := F.pos
  have hl : l.length = n := by
    have := h.1
    rw [flc_len] at this
    exact Nat.eq_of_mul_eq_mul_right hp this
  rcases h.2 with ⟨he, h0⟩ | ⟨g, cap, cur, he, _, hg, hnc, hm, hsz, ht⟩
  · injection he with e1 e2 e3
    subst e1 e2 e3
    have : l = [] := List.eq_nil_of_length_eq_zero hl
    subst this
    exact SL.none_ w
  · injection he with e1 e2 e3
    subst e1 e3
    refine ⟨hl, hnc, hm, (fun e => by cases e), fun i x hx => ?_⟩
    have hc := h.cells (g := g) rfl
    simp only [Addr.add_lit, Nat.zero_add] at hc
    exact ⟨g, 0, rfl, (Array.getElem?_eq_some_iff.1 hg).1, fun j v hv => by rw [Nat.zero_add]; exact hc _ _ (flc_get l i x hx j v hv)⟩
theorem SL.take (h : SL F w A n c l) {k : Nat} (hk : k ≤ n) : SL F w A k c (l.take k) :=
  ⟨by rw [List.length_take, h.len]; omega, by have := h.le; omega, h.max, h.nil_, fun j p hp => by
    rw [List.getElem?_take] at hp
    split at hp
    · exact h.at_ j p hp
    · cases hp⟩
/-- A block that is a list. -/
theorem sl_blk {g : Nat} {t : TypeId} (h : BlkIs w g t (flc F l).toArray) (hm : l.length ≤ maxLen) : SL F w (some ⟨g, 0, none⟩) l.length l.length l :=
  ⟨rfl, Nat.le_refl _, hm, (fun e => by cases e), fun i x hx => ⟨g, 0, rfl, h.lt, fun j v hv => by
    rw [Nat.zero_add, h.cell, List.getElem?_toArray]; exact flc_get l i x hx j v hv⟩⟩
theorem sl_new1 {g : Nat} {t : TypeId} {x : α} (h : BlkIs w g t (F.f x).toArray) : SL F w (some ⟨g, 0, none⟩) 1 1 [x] :=
  sl_blk (l := [x]) (by simpa [flc] using h) (by unfold maxLen; simp)
theorem sl_nothing (hn : A = none → c = 0) (hm : c ≤ maxLen) : SL F w A 0 c [] := ⟨rfl, Nat.zero_le _, hm, hn, fun k p h => by simp at h⟩
end
theorem own_sl {w : World} {B : Nat} {e : TypeId} {v : Value} {n : Nat} {l : List α} (h : w.ownsRow B e F.k v n (flc F l)) : ∃ A c, v = .slice A n c ∧ SL F w A n c l := by
  have key : ∃ A c, v = .slice A n c := by
    rcases h.2 with ⟨rfl, rfl⟩ | ⟨g, cap, cur, rfl, _⟩
    · exact ⟨none, 0, rfl⟩
    · exact ⟨_, cap, rfl⟩
  obtain ⟨A, c, rfl⟩ := key
  exact ⟨A, c, rfl, SL.of_own h⟩
theorem own_lenS {w : World} {B n : Nat} {v : Value} {e : TypeId} {l : List α} (h : w.ownsRow B e F.k v n (flc F l)) : l.length = n := by
  have := h.1
  rw [flc_len] at this
  exact Nat.eq_of_mul_eq_mul_right F.pos this
theorem own_someS {w : World} {B n c s : Nat} {A : Option Addr} {e : TypeId} {xs : List Value} (h : w.ownsRow B e s (.slice A n c) n xs) (h0 : 0 < n) : ∃ g, A = some ⟨g, 0, none⟩ := by
  rcases h.2 with ⟨_, h1⟩ | ⟨g, cap, cur, he, _⟩
  · omega
  · injection he with e1
    exact ⟨g, e1⟩
theorem own_ltS {w : World} {B n c g s : Nat} {e : TypeId} {xs : List Value} (h : w.ownsRow B e s (.slice (some ⟨g, 0, none⟩) n c) n xs) : B ≤ g ∧ g < w.heap.size := h.lt g rfl
theorem own_baseS {w : World} {B B' : Nat} {e : TypeId} {size n : Nat} {v : Value} {xs : List Value} (h : w.ownsRow B e size v n xs) (hB : B' ≤ B) : w.ownsRow B' e size v n xs := by
  refine ⟨h.1, ?_⟩
  rcases h.2 with h' | ⟨g, cap, cur, a, b, c⟩
  · exact .inl h'
  · exact .inr ⟨g, cap, cur, a, Nat.le_trans hB b, c⟩
theorem own_frozenS {w : World} {B n c g s : Nat} {e : TypeId} {xs : List Value} (h : w.ownsRow B e s (.slice (some ⟨g, 0, none⟩) n c) n xs) (i : Nat) : w.frozen? ⟨g, i, none⟩ = false := by
  rcases h.2 with ⟨he, _⟩ | ⟨g', cap, cur, he, hb, hg, _⟩
  · cases he
  · injection he with e1 e2 e3
    injection e1 with e1
    injection e1 with e1
    subst e1
    exact BlkIs.frozen (show BlkIs w g e cur from hg) i
theorem own_setS {w : World} {B n c g s : Nat} {e : TypeId} {xs : List Value} (h : w.ownsRow B e s (.slice (some ⟨g, 0, none⟩) n c) n xs) (i : Nat) (hi : i < n * s) (u : Value) :
    (w.setCell ⟨g, i, none⟩ u).ownsRow B e s (.slice (some ⟨g, 0, none⟩) n c) n (xs.set i u) := by
  refine ⟨by rw [List.length_set]; exact h.1, ?_⟩
  rcases h.2 with ⟨he, _⟩ | ⟨g', cap, cur, he, hb, hg, hn, hm, hs, ht⟩
  · cases he
  · injection he with e1 e2 e3
    injection e1 with e1
    injection e1 with e1
    subst e1 e3
    refine .inr ⟨g, c, cur.setIfInBounds i u, rfl, hb, BlkIs.put (show BlkIs w g e cur from hg) i u, hn, hm, by simpa using hs, ?_⟩
    rw [Array.toList_setIfInBounds, ← ht, List.take_set]
/-- Cells laid into a row of the call's own, one behind the other. -/
theorem own_layS {B n c g s : Nat} {e : TypeId} : ∀ (vs : List Value) (i : Nat) (w : World) (xs : List Value), w.ownsRow B e s (.slice (some ⟨g, 0, none⟩) n c) n xs → i + vs.length ≤ n * s →
    (w.setCells g i vs).ownsRow B e s (.slice (some ⟨g, 0, none⟩) n c) n (layC xs i vs)
  | [], i, w, xs, h, _ => h
  | v :: r, i, w, xs, h, hi => by
    simp only [List.length_cons] at hi
    exact own_layS r (i + 1) (w.setCell ⟨g, i, none⟩ v) (xs.set i v) (own_setS h i (by omega) v) (by omega)
/-- One element is stored. -/
theorem own_elem {w : World} {B n c g : Nat} {e : TypeId} {l : List α} (h : w.ownsRow B e F.k (.slice (some ⟨g, 0, none⟩) n c) n (flc F l)) (i : Nat) (hi : i < n) (x : α) :
    (w.setCells g (i * F.k) (F.f x)).ownsRow B e F.k (.slice (some ⟨g, 0, none⟩) n c) n (flc F (l.set i x)) := by
  have hl := own_lenS h
  rw [flc_set l i x (by omega)]
  refine own_layS (F.f x) (i * F.k) w (flc F l) h ?_
  rw [F.len]
  have : (i + 1) * F.k ≤ n * F.k := Nat.mul_le_mul_right _ hi
  rw [Nat.add_mul] at this
  omega
theorem kb_lay {S : Nat → Prop} {a : World} {g : Nat} : ∀ (vs : List Value) (i : Nat) (w : World), KB S a w → (g < a.heap.size → S g) → KB S a (w.setCells g i vs)
  | [], _, _, h, _ => h
  | v :: r, i, w, h, hg => kb_lay r (i + 1) _ (h.setCell (p := ⟨g, i, none⟩) hg v) hg
theorem own_cutS {w : World} {B n c g i : Nat} {e : TypeId} {l : List α} (h : w.ownsRow B e F.k (.slice (some ⟨g, 0, none⟩) n c) n (flc F l)) (hi : i ≤ n) : w.ownsRow B e F.k (.slice (some ⟨g, 0, none⟩) i c) i (flc F (l.take i)) := by
  have hl := own_lenS h
  refine ⟨by rw [flc_len, List.length_take]; congr 1; omega, ?_⟩
  rcases h.2 with ⟨he, _⟩ | ⟨g', cap, cur, he, hb, hg, hn, hm, hs, ht⟩
  · cases he
  · injection he with e1 e2 e3
    injection e1 with e1
    injection e1 with e1
    subst e1 e3
    refine .inr ⟨g, c, cur, rfl, hb, hg, by omega, hm, hs, ?_⟩
    have h1 : flc F l = flc F (l.take i) ++ flc F (l.drop i) := by rw [← flc_append, List.take_append_drop]
    have hik : i * F.k ≤ n * F.k := Nat.mul_le_mul_right _ hi
    have h2 : cur.toList.take (i * F.k) = (cur.toList.take (n * F.k)).take (i * F.k) := by rw [List.take_take, Nat.min_eq_left hik]
    have h3 : (flc F (l.take i)).length = i * F.k := by rw [flc_len, List.length_take]; congr 1; omega
    rw [h2, ht, h1, List.take_append_of_le_length (by omega), List.take_of_length_le (by omega)]

/-- A slice type of such elements, and its element's type. -/
structure IsS (P : Program) (F : Shp α) (T E : TypeId) : Prop where
  sl : P.underlying T = some (.slice E)
  el : P.elem T = E
  info : ∃ z b, (P.info? E).map (fun i => (i.zero, i.size, i.bytes)) = some (some z, F.k, b) ∧ z.cells.size = F.k ∧ b ≤ 1000
section
variable {P : Program}
theorem IsS.size {T E : TypeId} (h : IsS P F T E) : (P.info? E).map (·.size) = some F.k := by
  obtain ⟨z, b, h1, _, _⟩ := h.info
  cases hi : P.info? E with
  | none => rw [hi] at h1; cases h1
  | some i => rw [hi] at h1; simp only [Option.map_some, Option.some.injEq, Prod.mk.injEq] at h1; simp [h1.2.1]
theorem run_append_sl {T E : TypeId} (hI : IsS P F T E) (w : World) (ty : TypeId) (base : Nat) (v : Value) (n : Nat) (xs : List α) (hown : w.ownsRow base E F.k v n (flc F xs))
    (A : Option Addr) (m c : Nat) (ys : List α) (hr : SL F w A m c ys) (h63 : n + m ≤ 1000000) (hbase : base ≤ w.heap.size) :
    ∃ A' c' w', (Builtin.append_ #[T, T] ty #[v, .slice A m c]).run P w = .ok (.slice A' (n + m) c') w' ∧ w'.ownsRow base E F.k (.slice A' (n + m) c') (n + m) (flc F (xs ++ ys)) ∧ w.grownBy w' v.ownBlock := by
  obtain ⟨z, b, hinfo, hz, hb⟩ := hI.info
  obtain ⟨i0, hi0, hz0, hz1, hz2⟩ := info_parts hinfo
  have hl := hr.len
  have key : ∃ v' w', (Builtin.append_ #[T, T] ty #[v, .slice A m c]).run P w = .ok v' w' ∧ w'.ownsRow base E F.k v' (n + m) (flc F (xs ++ ys)) ∧ w.grownBy w' v.ownBlock := by
    cases A with
    | none =>
      have hc := hr.nil_ rfl
      subst hc
      have hm : m = 0 := by have := hr.le; omega
      subst hm
      have : ys = [] := List.eq_nil_of_length_eq_zero hl
      subst this
      exact ⟨v, w, run_append_owned_none (P := P) (w := w) base T ty _ i0 F.k hI.sl hi0 v n (flc F xs) hown, by simpa using hown, ⟨rfl, rfl, rfl, Nat.le_refl _, fun _ _ _ => rfl⟩⟩
    | some ad =>
      have hbb : (n + m) * b ≤ 1000000 * 1000 := Nat.mul_le_mul h63 hb
      obtain ⟨v', w', hrun, h1, h2, -⟩ := run_append_own (P := P) w base T ty _ i0 _ F.k b hI.sl hi0 hz0 hz1 hz2 hz F.pos v n (flc F xs) hown ad m c (flc F ys) (by rw [flc_len, hl]) (hr.cells rfl) (flc_one ys) (by unfold maxLen; omega) (by omega) hbase
      exact ⟨v', w', hrun, by rw [flc_append]; exact h1, h2⟩
  obtain ⟨v', w', hrun, h1, h2⟩ := key
  obtain ⟨A', c', rfl, -⟩ := own_sl h1
  exact ⟨A', c', w', hrun, h1, h2⟩
/-- append, of a nil slice or another one, onto a row of the call's own. -/
theorem wpList_append_sl {T E : TypeId} (hI : IsS P F T E) (w : World) {ops : Array Oper} {rest : List Oper} {o : Oper} {a : Act} {Q : Exit → Act → World → Prop} (hgd : o.guard = none) (s x : Operand)
    (ho : o.op = .call { callee := .builtin .append, args := #[s, x], argTypes := #[T, T] })
    (base : Nat) (v : Value) (n : Nat) (xs : List α) (hs : a.eval s = v) (hown : w.ownsRow base E F.k v n (flc F xs))
    (A : Option Addr) (m c : Nat) (ys : List α) (hx : a.eval x = .slice A m c) (hr : SL F w A m c ys)
    (h63 : n + m ≤ 1000000) (hbase : base ≤ w.heap.size)
    (h : ∀ A' c' w', w'.ownsRow base E F.k (.slice A' (n + m) c') (n + m) (flc F (xs ++ ys)) → w.grownBy w' v.ownBlock → wpList P ops Q rest (a.put o.dst (.slice A' (n + m) c')) w') : wpList P ops Q (o :: rest) a w := by
  obtain ⟨A', c', w', hrun, h1, h2⟩ := run_append_sl hI w o.type base v n xs hown A m c ys hr h63 hbase
  have h := h A' c' w' h1 h2
  refine wpList_plain hgd fun _ hK => ?_
  unfold Oper.wp execOp
  simp only [ho, resolve, invoke, builtin, Sem.run_bind, Sem.run_pure, Result.andThen_ok, List.map_toArray, List.map_cons, List.map_nil, hs, hx, hrun]
  exact hK _ _ h
/-- And in a drawn region. -/
theorem step_append_sl {T E : TypeId} (hI : IsS P F T E) (w : World) {ops : Array Oper} {o : Oper} {a : Act} {K : Act → World → Prop} {Q : Exit → Act → World → Prop} {G : Prop} (hgd : o.guard = none) (s x : Operand)
    (ho : o.op = .call { callee := .builtin .append, args := #[s, x], argTypes := #[T, T] })
    (base : Nat) (v : Value) (n : Nat) (xs : List α) (hs : a.eval s = v) (hown : w.ownsRow base E F.k v n (flc F xs))
    (A : Option Addr) (m c : Nat) (ys : List α) (hx : a.eval x = .slice A m c) (hr : SL F w A m c ys) (h63 : n + m ≤ 1000000) (hbase : base ≤ w.heap.size)
    (h : ∀ A' c' w', w'.ownsRow base E F.k (.slice A' (n + m) c') (n + m) (flc F (xs ++ ys)) → w.grownBy w' v.ownBlock → K (a.put o.dst (.slice A' (n + m) c')) w') : if Region.wanted o (yielded ops a.tmps) = true then Oper.wp P o a w K Q else G := by
  rw [if_pos (by simp [Region.wanted, hgd])]
  obtain ⟨A', c', w', hrun, h1, h2⟩ := run_append_sl hI w o.type base v n xs hown A m c ys hr h63 hbase
  unfold Oper.wp
  simp [execOp, ho, resolve, invoke, builtin, hs, hx, hrun, Result.andThen]
  exact h A' c' w' h1 h2
/-- l[:k], whatever the world. -/
theorem run_headS {T E : TypeId} (hI : IsS P F T E) (A : Option Addr) (n c k : Nat) (hk : k ≤ c) (w : World) : (Instr.slice T (.slice A n c) none (some (.int .i64 (k : Int))) none).run P w = .ok (.slice A k c) w := by
  rw [run_slice_h w T A n c (by rw [hI.el]; exact hI.sl) .i64 (k : Int) (by omega) (by omega), hI.el, run_size_is hI.size]
  simp only [sliced, Nat.zero_mul, Nat.sub_zero, Int.toNat_zero, Int.toNat_natCast]
  cases A with
  | none => simp
  | some a =>
    have ha : a.add 0 = a := by obtain ⟨b, off, sp⟩ := a; unfold Addr.add; cases sp <;> simp
    simp [ha]
/-- l[k:]. -/
theorem sl_tail {T E : TypeId} (hI : IsS P F T E) {w : World} {A : Option Addr} {n c : Nat} {l : List α} (h : SL F w A n c l) (k : Nat) (hk : k ≤ n) :
    ∃ Q c', (∀ w', (Instr.slice T (.slice A n c) (some (.int .i64 (k : Int))) none none).run P w' = .ok (.slice Q (n - k) c') w') ∧ SL F w Q (n - k) c' (l.drop k) := by
  have hle := h.le
  have hmx := h.max
  have hr : ∀ w', (Instr.slice T (.slice A n c) (some (.int .i64 (k : Int))) none none).run P w' = .ok (sliced A k n c F.k) w' := by
    intro w'
    rw [run_slice_l w' T A n c (by rw [hI.el]; exact hI.sl) .i64 (k : Int) (by omega) (by omega), hI.el, run_size_is hI.size]
    rfl
  by_cases he : n = k
  · subst he
    have hx : l.drop n = [] := List.drop_eq_nil_of_le (by rw [h.len]; exact Nat.le_refl _)
    rw [hx, Nat.sub_self]
    cases A with
    | none =>
      have := h.nil_ rfl
      subst this
      have : n = 0 := by omega
      subst this
      exact ⟨none, 0, fun w' => by rw [hr w']; rfl, SL.none_ _⟩
    | some a =>
      by_cases hcm : c = n
      · exact ⟨some a, 0, fun w' => by rw [hr w']; simp [sliced, hcm], sl_nothing (fun e => by cases e) (Nat.zero_le _)⟩
      · exact ⟨some (a.add (n * F.k)), c - n, fun w' => by rw [hr w']; simp [sliced, hcm], sl_nothing (fun e => by cases e) (by omega)⟩
  · obtain ⟨b, off, rfl, _, _⟩ := h.at_ 0 (l[0]'(by rw [h.len]; omega)) (List.getElem?_eq_getElem _)
    have hcm : ¬ c = k := by omega
    refine ⟨some ⟨b, off + k * F.k, none⟩, c - k, fun w' => by rw [hr w']; simp [sliced, hcm, Addr.add], ⟨by rw [List.length_drop, h.len], by omega, by omega, (fun e => by cases e), fun j p hp => ?_⟩⟩
    rw [List.getElem?_drop] at hp
    obtain ⟨b', off', e, hlt, hc⟩ := h.at_ (k + j) p hp
    injection e with e
    injection e with e1 e2
    subst e1 e2
    refine ⟨b, off + k * F.k, rfl, hlt, fun m v hv => ?_⟩
    rw [← hc m v hv]; congr 2; rw [Nat.add_mul]; omega
end
/-- A call that answers a new list of N elements. -/
def GivesS (F : Shp α) (E : TypeId) (N : Nat) (l : List α) (w : World) (e : Ending) (w' : World) : Prop := ∃ A c, e = .returned (.slice A N c) ∧ w'.ownsRow w.heap.size E F.k (.slice A N c) N (flc F l) ∧ Below w.heap.size w w'

set_option maxRecDepth 100000 in
open Go.ChangeShapes Go.WideShapes Go.Deep in
/-- A slice that came in reads as a list. -/
theorem open_sl [Inhabited α] {P : Program} {H : Type} {enc : TypeId × Value → H} {w : World} {base : Nat} {sp : Nat → Bool} {held : Bool} {T E : TypeId} {G : α → Prop} (hT : P.underlying T = some (.slice E)) (hC : P.cellsOf E = F.k)
    (hE : ∀ {fuel : Nat} {cs : List Value} {x : DataW H × List MemPlace}, cs.length = F.k → DataW.trod enc P w base sp held fuel E cs = some x → ∃ a, cs = F.f a ∧ G a)
    {fuel : Nat} {v : Value} {x : DataW H × List MemPlace} (h : DataW.trod enc P w base sp held fuel T [v] = some x) : ∃ A n c l, v = .slice A n c ∧ SL F w A n c l ∧ ∀ a ∈ l, G a := by
  rcases open_slice hT h with ⟨hv, _⟩ | ⟨a, len, cap, m, fu, D, Pl, hv, hb, hl, hm, hmm, hx, hi⟩
  · simp only [List.cons.injEq, and_true] at hv
    exact ⟨none, 0, 0, [], hv, SL.none_ w, fun a h => by cases h⟩
  · simp only [List.cons.injEq, and_true] at hv
    have hlm : len ≤ m := by rw [hmm]; split <;> omega
    have key : ∀ i, i < len → ∃ f : α, G f ∧ ∀ j v, (F.f f)[j]? = some v → w.cell? ((a.add (i * F.k)).add j) = some v := by
      intro i hlt
      obtain ⟨cs', hc, ht'⟩ := hi i (by omega)
      rw [hC] at hc
      obtain ⟨_, hcl, hat⟩ := World.cells?_some hc
      obtain ⟨f, rfl, hg⟩ := hE hcl ht'
      refine ⟨f, hg, fun j v hv => ?_⟩
      have hj : j < (F.f f).length := (List.getElem?_eq_some_iff.1 hv).1
      have := hat j (by omega)
      rw [this]
      exact hv
    obtain ⟨Fn, hF⟩ := choose_lt key
    refine ⟨some a, len, cap, (List.range len).map Fn, hv, ⟨by simp, hl, hm, (fun e => by cases e), fun k f hf => ?_⟩, fun f hf => ?_⟩
    · have hk : k < len := by
        have := (List.getElem?_eq_some_iff.1 hf).1
        simpa using this
      have hfk : f = Fn k := by
        rw [List.getElem?_map, List.getElem?_range hk] at hf
        simpa using hf.symm
      subst hfk
      obtain ⟨_, z⟩ := hF k hk
      obtain ⟨b, off, spot⟩ := a
      have h0 : ∃ u, (F.f (Fn 0))[0]? = some u := ⟨_, List.getElem?_eq_getElem (by rw [F.len]; exact F.pos)⟩
      obtain ⟨u, hu⟩ := h0
      have hc0 := (hF 0 (by omega)).2 0 u hu
      have hspot : spot = none := by simpa [Addr.add] using World.cell?_spot hc0
      subst hspot
      refine ⟨b, off, rfl, by simpa [Addr.add] using World.block_lt_of_cell? w _ hc0, fun j v hv => ?_⟩
      have := z j v hv
      rw [Addr.add_lit, Addr.add_lit] at this
      exact this
    · obtain ⟨i, hi', rfl⟩ := List.mem_map.1 hf
      exact (hF i (List.mem_range.1 hi')).1
end
end Go.Proofs.Ytlondjmklnehhaa
