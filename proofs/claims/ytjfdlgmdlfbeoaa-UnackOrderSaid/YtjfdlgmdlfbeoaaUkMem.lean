/-
  Queues in memory: a slice that reads as a list of items; rows of items of the call's own; append.
-/
import Derived.Test.YtjfdlgmdlfbeoaaUkMath
import Derived.Test.YtjfdlgmdlfbeoaaPrApp
import Derived.ArgAppend
namespace Go.Proofs.Ytjfdlgmdlfbeoaa
set_option linter.unusedSimpArgs false
set_option linter.unusedVariables false
open Go.RowKit

/-- An item as it lies in memory. -/
structure Ix where
  A : Option Addr
  c : Nat
  it : It
def Ix.cs (x : Ix) : Array Value := #[.slice x.A x.it.ps.length x.c, .int .i64 x.it.t]
def ics : List Ix → List Value
  | [] => []
  | x :: l => .slice x.A x.it.ps.length x.c :: .int .i64 x.it.t :: ics l
theorem ics_len (l : List Ix) : (ics l).length = l.length * 2 := by
  induction l with
  | nil => rfl
  | cons f l ih => simp only [ics, List.length_cons, ih]; omega
theorem ics_append (a b : List Ix) : ics (a ++ b) = ics a ++ ics b := by
  induction a with
  | nil => rfl
  | cons f a ih => simp only [List.cons_append, ics, ih]
theorem ics_one (l : List Ix) : ∀ u ∈ ics l, u.oneCell' = true := by
  induction l with
  | nil => intro u h; cases h
  | cons f l ih =>
    intro u h
    simp only [ics, List.mem_cons] at h
    rcases h with rfl | rfl | h
    · rfl
    · rfl
    · exact ih u h
theorem ics_get (l : List Ix) : ∀ (k : Nat) (x : Ix), l[k]? = some x → (ics l)[k * 2]? = some (.slice x.A x.it.ps.length x.c) ∧ (ics l)[k * 2 + 1]? = some (.int .i64 x.it.t) := by
  induction l with
  | nil => intro k f h; simp at h
  | cons g l ih =>
    intro k f h
    cases k with
    | zero =>
      simp at h
      subst h
      exact ⟨rfl, rfl⟩
    | succ k =>
      have := ih k f (by simpa using h)
      simp only [ics, show (k + 1) * 2 = k * 2 + 1 + 1 by omega, show k * 2 + 1 + 1 + 1 = (k * 2 + 1) + 1 + 1 by omega, List.getElem?_cons_succ]
      exact this
theorem ics_part (l : List Ix) (j : Nat) (u : Value) (h : (ics l)[j]? = some u) : ∃ (k : Nat) (x : Ix), l[k]? = some x ∧ ((j = k * 2 ∧ u = .slice x.A x.it.ps.length x.c) ∨ (j = k * 2 + 1 ∧ u = .int .i64 x.it.t)) := by
  have hj : j < (ics l).length := (List.getElem?_eq_some_iff.1 h).1
  rw [ics_len] at hj
  have hk : j / 2 < l.length := by omega
  refine ⟨j / 2, l[j / 2], List.getElem?_eq_getElem hk, ?_⟩
  obtain ⟨h0, h1⟩ := ics_get l (j / 2) _ (List.getElem?_eq_getElem hk)
  have hm : j % 2 = 0 ∨ j % 2 = 1 := by omega
  rcases hm with e | e
  · refine .inl ⟨by omega, ?_⟩
    rw [show j / 2 * 2 = j by omega, h] at h0
    exact Option.some.inj h0
  · refine .inr ⟨by omega, ?_⟩
    rw [show j / 2 * 2 + 1 = j by omega, h] at h1
    exact Option.some.inj h1

theorem PL.kbn {w w' : World} {A : Option Addr} {n c : Nat} {l : List Pr} {S : Nat → Prop} (h : PL w A n c l) (hk : KB S w w') (hs : ∀ b off, A = some ⟨b, off, none⟩ → l ≠ [] → ¬ S b) : PL w' A n c l :=
  ⟨h.len, h.le, h.max, h.nil_, fun k f hf => by
    obtain ⟨b, off, rfl, hlt, c0, c1⟩ := h.at_ k f hf
    have hn : ¬ S b := hs b off rfl (by rintro rfl; simp at hf)
    exact ⟨b, off, rfl, Nat.lt_of_lt_of_le hlt hk.size, (hk.cell (p := ⟨b, _, none⟩) hlt hn).trans c0, (hk.cell (p := ⟨b, _, none⟩) hlt hn).trans c1⟩⟩

/-- The items' settings are there. -/
def AllX (w : World) (X : List Ix) : Prop := ∀ x ∈ X, PL w x.A x.it.ps.length x.c x.it.ps
theorem AllX.keep {w w' : World} {X : List Ix} (h : AllX w X) (hb : Below w.heap.size w w') : AllX w' X := fun x hx => (h x hx).keep hb
theorem AllX.nil_ (w : World) : AllX w [] := fun x hx => by cases hx
theorem AllX.app {w : World} {X Y : List Ix} (h : AllX w X) (h' : AllX w Y) : AllX w (X ++ Y) := fun x hx => (List.mem_append.1 hx).elim (h x) (h' x)
/-- No item's settings lie in this block. -/
def ApartX (r : Option Nat) (X : List Ix) : Prop := ∀ x ∈ X, ∀ b off, x.A = some ⟨b, off, none⟩ → x.it.ps ≠ [] → r ≠ some b
theorem ApartX.app {r : Option Nat} {X Y : List Ix} (h : ApartX r X) (h' : ApartX r Y) : ApartX r (X ++ Y) := fun x hx => (List.mem_append.1 hx).elim (h x) (h' x)
theorem AllX.kb {w w' : World} {X : List Ix} {r : Option Nat} (h : AllX w X) (hk : KB (fun k => r = some k) w w') (ha : ApartX r X) : AllX w' X := fun x hx => (h x hx).kbn hk (fun b off e hn => ha x hx b off e hn)
theorem AllX.lt {w : World} {X : List Ix} (h : AllX w X) {x : Ix} (hx : x ∈ X) {b off : Nat} (e : x.A = some ⟨b, off, none⟩) (hn : x.it.ps ≠ []) : b < w.heap.size := by
  obtain ⟨p, l, hp⟩ := List.exists_cons_of_ne_nil hn
  obtain ⟨b', off', e', hlt, _⟩ := (h x hx).at_ 0 p (by rw [hp]; rfl)
  rw [e] at e'
  injection e' with e'
  injection e' with e1
  subst e1
  exact hlt
theorem kb_grown {w w' : World} {r : Option Nat} (hg : w.grownBy w' r) : KB (fun k => r = some k) w w' := KB.of_grown hg (fun k e _ => e)

/-- The slice's cells. -/
structure XL (w : World) (A : Option Addr) (n c : Nat) (X : List Ix) : Prop where
  len : X.length = n
  le : n ≤ c
  max : c ≤ maxLen
  nil_ : A = none → c = 0
  at_ : ∀ k x, X[k]? = some x → ∃ b off, A = some ⟨b, off, none⟩ ∧ b < w.heap.size ∧ w.cell? ⟨b, off + k * 2, none⟩ = some (.slice x.A x.it.ps.length x.c) ∧ w.cell? ⟨b, off + k * 2 + 1, none⟩ = some (.int .i64 x.it.t)
section
variable {w w' : World} {A : Option Addr} {n c : Nat} {X : List Ix}
theorem XL.keep (h : XL w A n c X) (hb : Below w.heap.size w w') : XL w' A n c X :=
  ⟨h.len, h.le, h.max, h.nil_, fun k f hf => by
    obtain ⟨b, off, rfl, hlt, c0, c1⟩ := h.at_ k f hf
    exact ⟨b, off, rfl, Nat.lt_of_lt_of_le hlt hb.size, (hb.cell hlt).trans c0, (hb.cell hlt).trans c1⟩⟩
theorem XL.none_ (w : World) : XL w none 0 0 [] := ⟨rfl, Nat.le_refl _, Nat.zero_le _, fun _ => rfl, fun k f h => by simp at h⟩
theorem XL.cells (h : XL w A n c X) {ad : Addr} (hA : A = some ad) : ∀ j u, (ics X)[j]? = some u → w.cell? (ad.add j) = some u := by
  intro j u hj
  obtain ⟨k, f, hf, hu⟩ := ics_part X j u hj
  obtain ⟨b, off, e, _, c0, c1⟩ := h.at_ k f hf
  rw [hA] at e
  injection e with e
  subst e
  rw [Addr.add_lit]
  rcases hu with ⟨rfl, rfl⟩ | ⟨rfl, rfl⟩
  · exact c0
  · rw [← Nat.add_assoc]; exact c1
theorem XL.of_own {B : Nat} {e : TypeId} (h : w.ownsRow B e 2 (.slice A n c) n (ics X)) : XL w A n c X := by
  have hl : X.length = n := by have := h.1; rw [ics_len] at this; omega
  rcases h.2 with ⟨he, h0⟩ | ⟨g, cap, cur, he, _, hg, hnc, hm, hsz, ht⟩
  · injection he with e1 e2 e3
    subst e1 e2 e3
    have : X = [] := List.eq_nil_of_length_eq_zero hl
    subst this
    exact XL.none_ w
  · injection he with e1 e2 e3
    subst e1 e3
    refine ⟨hl, hnc, hm, (fun e => by cases e), fun k f hf => ?_⟩
    obtain ⟨q0, q1⟩ := ics_get X k f hf
    have hc := h.cells (g := g) rfl
    simp only [Addr.add_lit, Nat.zero_add] at hc
    refine ⟨g, 0, rfl, (Array.getElem?_eq_some_iff.1 hg).1, ?_, ?_⟩
    · simpa using hc _ _ q0
    · simpa using hc _ _ q1
end

/-- The slice (A, n, c) reads as the list l of items. -/
def IL (w : World) (A : Option Addr) (n c : Nat) (l : List It) : Prop := ∃ X, XL w A n c X ∧ AllX w X ∧ X.map (·.it) = l
section
variable {w w' : World} {A : Option Addr} {n c : Nat} {l : List It}
theorem IL.len (h : IL w A n c l) : l.length = n := by obtain ⟨X, h, _, rfl⟩ := h; rw [List.length_map, h.len]
theorem IL.le (h : IL w A n c l) : n ≤ c := by obtain ⟨X, h, _, _⟩ := h; exact h.le
theorem IL.max (h : IL w A n c l) : c ≤ maxLen := by obtain ⟨X, h, _, _⟩ := h; exact h.max
theorem IL.nil_ (h : IL w A n c l) : A = none → c = 0 := by obtain ⟨X, h, _, _⟩ := h; exact h.nil_
theorem IL.keep (h : IL w A n c l) (hb : Below w.heap.size w w') : IL w' A n c l := by obtain ⟨X, h, h2, e⟩ := h; exact ⟨X, h.keep hb, h2.keep hb, e⟩
theorem IL.drew (h : IL w A n c l) : IL w.drew A n c l := h.keep (Below.refl _ _).drew
theorem IL.alloc (h : IL w A n c l) (o : Obj) : IL (w.alloc o) A n c l := h.keep ((Below.refl _ _).alloc (Nat.le_refl _) o)
theorem IL.none_ (w : World) : IL w none 0 0 [] := ⟨[], XL.none_ w, AllX.nil_ w, rfl⟩
/-- A round's item. -/
theorem IL.round (h : IL w A n c l) {k : Nat} (hk : k < n) : ∃ x A' c' b off, l[k]? = some x ∧ A = some ⟨b, off, none⟩ ∧ b < w.heap.size ∧ w.cell? ⟨b, off + k * 2, none⟩ = some (.slice A' x.ps.length c') ∧ w.cell? ⟨b, off + k * 2 + 1, none⟩ = some (.int .i64 x.t) ∧ PL w A' x.ps.length c' x.ps := by
  obtain ⟨X, h, h2, rfl⟩ := h
  have hkl : k < X.length := by rw [h.len]; exact hk
  obtain ⟨b, off, e, hlt, c0, c1⟩ := h.at_ k _ (List.getElem?_eq_getElem hkl)
  exact ⟨(X[k]).it, (X[k]).A, (X[k]).c, b, off, by simp [hkl], e, hlt, c0, c1, h2 _ (List.getElem_mem hkl)⟩
end

/-- A row of items of the call's own. -/
def OwnQ (w : World) (B : Nat) (e : TypeId) (v : Value) (n : Nat) (l : List It) : Prop := ∃ X, w.ownsRow B e 2 v n (ics X) ∧ AllX w X ∧ ApartX v.ownBlock X ∧ X.map (·.it) = l
section
variable {w w' : World} {B n : Nat} {e : TypeId} {v : Value} {l : List It}
theorem OwnQ.nil_ (w : World) (B : Nat) (e : TypeId) : OwnQ w B e (.slice none 0 0) 0 [] := ⟨[], World.ownsRow_nil _ _ _ _, AllX.nil_ w, (fun x hx => by cases hx), rfl⟩
theorem OwnQ.keep (h : OwnQ w B e v n l) (hb : Below w.heap.size w w') : OwnQ w' B e v n l := by
  obtain ⟨X, h1, h2, h3, h4⟩ := h
  exact ⟨X, own_low h1 hb, h2.keep hb, h3, h4⟩
theorem OwnQ.drew (h : OwnQ w B e v n l) : OwnQ w.drew B e v n l := h.keep (Below.refl _ _).drew
theorem OwnQ.alloc (h : OwnQ w B e v n l) (o : Obj) : OwnQ (w.alloc o) B e v n l := h.keep ((Below.refl _ _).alloc (Nat.le_refl _) o)
theorem OwnQ.len (h : OwnQ w B e v n l) : l.length = n := by
  obtain ⟨X, h1, h2, h3, rfl⟩ := h
  have := h1.1
  rw [ics_len] at this
  rw [List.length_map]; omega
theorem OwnQ.il (h : OwnQ w B e v n l) : ∃ A c, v = .slice A n c ∧ IL w A n c l := by
  obtain ⟨X, h1, h2, h3, h4⟩ := h
  have key : ∃ A c, v = .slice A n c := by
    rcases h1.2 with ⟨rfl, rfl⟩ | ⟨g, cap, cur, rfl, _⟩
    · exact ⟨none, 0, rfl⟩
    · exact ⟨_, cap, rfl⟩
  obtain ⟨A, c, rfl⟩ := key
  exact ⟨A, c, rfl, X, XL.of_own h1, h2, h4⟩
theorem OwnQ.lt (h : OwnQ w B e v n l) {b : Nat} (hb : v.ownBlock = some b) : B ≤ b ∧ b < w.heap.size := by
  obtain ⟨X, h1, _⟩ := h
  exact h1.lt b hb
theorem OwnQ.below (h : OwnQ w B e v n l) {W : World} {B' : Nat} (hb : Below B' W w) (hB : B' ≤ B) (hB2 : B' ≤ W.heap.size) (hg : w.grownBy w' v.ownBlock) : Below B' W w' := by
  obtain ⟨X, h1, _⟩ := h
  exact own_bel h1 hb hB hB2 hg
end

/-- append of items, as a run: where there is room the row is the same one, else a new one. -/
theorem run_append_q {P : Program} (w : World) (B : Nat) (t ty e : TypeId) (i : TypeInfo) (z : Value) (bytes : Nat) (ht : P.underlying t = some (.slice e)) (hi : P.info? e = some i) (hz : i.zero = some z)
    (hsize : i.size = 2) (hby : i.bytes = bytes) (hzs : z.cells.size = 2) (v : Value) (n : Nat) (l : List It) (hown : OwnQ w B e v n l)
    (A : Option Addr) (m c : Nat) (Y : List Ix) (hr : XL w A m c Y) (hy : AllX w Y) (hap : ApartX v.ownBlock Y)
    (h63 : n + m ≤ maxLen) (hbytes : (n + m) * bytes ≤ 140737488355328) (hbase : B ≤ w.heap.size) :
    ∃ v' w', (Builtin.append_ #[t, t] ty #[v, .slice A m c]).run P w = .ok v' w' ∧ OwnQ w' B e v' (n + m) (l ++ Y.map (·.it)) ∧ w.grownBy w' v.ownBlock := by
  obtain ⟨X, h1, h2, h3, rfl⟩ := hown
  have hl := hr.len
  cases A with
  | none =>
    have hc := hr.nil_ rfl
    subst hc
    have hm : m = 0 := by have := hr.le; omega
    subst hm
    have : Y = [] := List.eq_nil_of_length_eq_zero hl
    subst this
    refine ⟨v, w, ?_, ⟨X, h1, h2, h3, by simp⟩, ⟨rfl, rfl, rfl, Nat.le_refl _, fun _ _ _ => rfl⟩⟩
    have := run_append_owned_none (P := P) (w := w) B t ty e i 2 ht hi v n (ics X) h1
    exact this
  | some ad =>
    obtain ⟨v', w', hrun, ho, hg, _⟩ := run_append_own w B t ty e i z 2 bytes ht hi hz hsize hby hzs (by omega) v n (ics X) h1 ad m c (ics Y) (by rw [ics_len, hl]) (hr.cells rfl) (ics_one Y) h63 hbytes hbase
    have hkb := kb_grown hg
    have hX := h2.kb hkb h3
    have hY := hy.kb hkb hap
    refine ⟨v', w', hrun, ⟨X ++ Y, by rw [ics_append]; exact ho, hX.app hY, ?_, by simp⟩, hg⟩
    have key : v'.ownBlock = v.ownBlock ∨ (∃ b, v'.ownBlock = some b ∧ w.heap.size ≤ b) ∨ v'.ownBlock = none := by
      rcases h1.2 with ⟨rfl, rfl⟩ | ⟨g, cap, cur, rfl, hbg, hgc, hnc, hmx, hsz, htk⟩
      · obtain ⟨v2, w2, hrun2, ho2, _⟩ := run_append_own w w.heap.size t ty e i z 2 bytes ht hi hz hsize hby hzs (by omega) (.slice none 0 0) 0 [] (World.ownsRow_nil w _ e 2) ad m c (ics Y) (by rw [ics_len, hl]) (hr.cells rfl) (ics_one Y) h63 hbytes (Nat.le_refl _)
        rw [hrun] at hrun2
        injection hrun2 with e1 e2
        subst e1 e2
        cases hb : v'.ownBlock with
        | none => exact .inr (.inr rfl)
        | some b => exact .inr (.inl ⟨b, rfl, (ho2.lt b hb).1⟩)
      · by_cases hroom : n + m ≤ cap
        · have hrm := run_append_room (P := P) w t ty e i ht hi g n cap cur hgc ad m c (ics Y) (by rw [ics_len, hl, hsize]) (hr.cells rfl) (ics_one Y) hroom (by rw [ics_len, hl, hsize, hsz, ← Nat.add_mul]; exact Nat.mul_le_mul_right _ hroom)
          rw [hrun] at hrm
          injection hrm with e1 e2
          subst e1
          exact .inl rfl
        · obtain ⟨v2, w2, hrun2, ho2, _⟩ := run_append_arg_grows (P := P) w t ty e i z 2 bytes ht hi hz hsize hby hzs (by omega) ⟨g, 0, none⟩ n cap (ics X) h1.1 (h1.cells rfl) ad m c (ics Y) (by rw [ics_len, hl]) (hr.cells rfl) (by omega) h63 hbytes
          rw [hrun] at hrun2
          injection hrun2 with e1 e2
          subst e1 e2
          cases hb : v'.ownBlock with
          | none => exact .inr (.inr rfl)
          | some b => exact .inr (.inl ⟨b, rfl, (ho2.lt b hb).1⟩)
    rcases key with hk | ⟨b, hk, hb⟩ | hk
    · rw [hk]; exact h3.app hap
    · intro x hx b' off he hn hh
      rw [hk] at hh
      injection hh with hh
      subst hh
      have hlt : b < w.heap.size := (List.mem_append.1 hx).elim (fun hx => h2.lt hx he hn) (fun hx => hy.lt hx he hn)
      omega
    · intro x hx b' off he hn hh
      rw [hk] at hh
      cases hh

section
variable {P : Program}
theorem wpList_append_q (w : World) {ops : Array Oper} {rest : List Oper} {o : Oper} {a : Act} {Q : Exit → Act → World → Prop} (hgd : o.guard = none) (s x : Operand) (t : TypeId)
    (ho : o.op = .call { callee := .builtin .append, args := #[s, x], argTypes := #[t, t] })
    (B : Nat) (e : TypeId) (i : TypeInfo) (z : Value) (bytes : Nat) (ht : P.underlying t = some (.slice e)) (hi : P.info? e = some i) (hz : i.zero = some z)
    (hsize : i.size = 2) (hby : i.bytes = bytes) (hzs : z.cells.size = 2) (v : Value) (n : Nat) (l : List It) (hs : a.eval s = v) (hown : OwnQ w B e v n l)
    (A : Option Addr) (m c : Nat) (Y : List Ix) (hx : a.eval x = .slice A m c) (hr : XL w A m c Y) (hy : AllX w Y) (hap : ApartX v.ownBlock Y)
    (h63 : n + m ≤ maxLen) (hbytes : (n + m) * bytes ≤ 140737488355328) (hbase : B ≤ w.heap.size)
    (h : ∀ v' w', OwnQ w' B e v' (n + m) (l ++ Y.map (·.it)) → w.grownBy w' v.ownBlock → wpList P ops Q rest (a.put o.dst v') w') : wpList P ops Q (o :: rest) a w := by
  obtain ⟨v', w', hrun, h1, h2⟩ := run_append_q (P := P) w B t o.type e i z bytes ht hi hz hsize hby hzs v n l hown A m c Y hr hy hap h63 hbytes hbase
  refine wpList_plain hgd fun K hK' => ?_
  unfold Oper.wp
  simp [execOp, ho, resolve, invoke, builtin, hs, hx, hrun, Result.andThen]
  exact hK' _ _ (h v' w' h1 h2)
theorem step_append_q (w : World) {ops : Array Oper} {o : Oper} {a : Act} {K : Act → World → Prop} {Q : Exit → Act → World → Prop} {E : Prop} (hgd : o.guard = none) (s x : Operand) (t : TypeId)
    (ho : o.op = .call { callee := .builtin .append, args := #[s, x], argTypes := #[t, t] })
    (B : Nat) (e : TypeId) (i : TypeInfo) (z : Value) (bytes : Nat) (ht : P.underlying t = some (.slice e)) (hi : P.info? e = some i) (hz : i.zero = some z)
    (hsize : i.size = 2) (hby : i.bytes = bytes) (hzs : z.cells.size = 2) (v : Value) (n : Nat) (l : List It) (hs : a.eval s = v) (hown : OwnQ w B e v n l)
    (A : Option Addr) (m c : Nat) (Y : List Ix) (hx : a.eval x = .slice A m c) (hr : XL w A m c Y) (hy : AllX w Y) (hap : ApartX v.ownBlock Y)
    (h63 : n + m ≤ maxLen) (hbytes : (n + m) * bytes ≤ 140737488355328) (hbase : B ≤ w.heap.size)
    (h : ∀ v' w', OwnQ w' B e v' (n + m) (l ++ Y.map (·.it)) → w.grownBy w' v.ownBlock → K (a.put o.dst v') w') : if Region.wanted o (yielded ops a.tmps) = true then Oper.wp P o a w K Q else E := by
  rw [if_pos (by simp [Region.wanted, hgd])]
  obtain ⟨v', w', hrun, h1, h2⟩ := run_append_q (P := P) w B t o.type e i z bytes ht hi hz hsize hby hzs v n l hown A m c Y hr hy hap h63 hbytes hbase
  unfold Oper.wp
  simp [execOp, ho, resolve, invoke, builtin, hs, hx, hrun, Result.andThen]
  exact h v' w' h1 h2
end
/-- A block that is one item. -/
theorem xl_blk {w : World} {g : Nat} {t : TypeId} {x : Ix} (h : BlkIs w g t x.cs) : XL w (some ⟨g, 0, none⟩) 1 1 [x] :=
  ⟨rfl, Nat.le_refl _, by unfold maxLen; omega, (fun e => by cases e), fun k p hp => by
    cases k with
    | zero =>
      simp at hp
      subst hp
      exact ⟨g, 0, rfl, h.lt, h.cell 0, h.cell 1⟩
    | succ k => simp at hp⟩
theorem uk_info : (Try.prog.info? 61).map (fun i => (i.zero, i.size, i.bytes)) = some (some (.agg #[.slice none 0 0, .int .i64 0]), 2, 32) := by kernel_rfl
theorem rk_info : (Try.prog.info? 58).map (fun i => (i.zero, i.size, i.bytes)) = some (some (.agg #[.slice none 0 0, .int .i64 0]), 2, 32) := by kernel_rfl
end Go.Proofs.Ytjfdlgmdlfbeoaa
