/-
  Items in memory: a slice that reads as a list of items (both packages' kind of Item); append.
-/
import Derived.Test.YtofnpmmbfcnlgaaOps
import Derived.Test.YtofnpmmbfcnlgaaHpMath
import Derived.Test.YtofnpmmbfcnlgaaOwnRow
import Derived.OwnWalk
import Derived.Test.YtofnpmmbfcnlgaaChecked
import Derived.Laws.AppendOwnNone
import Derived.Laws.OwnMore
import Derived.Lib.AppendZeros
namespace Go.Proofs.Ytofnpmmbfcnlgaa
set_option linter.unusedSimpArgs false
set_option linter.unusedVariables false
open Go.RowKit

/-- The cells of a list of items. -/
def ics : List It → List Value
  | [] => []
  | p :: l => .int .i64 p.k :: .int .i64 p.d :: ics l
theorem ics_len (l : List It) : (ics l).length = l.length * 2 := by
  induction l with
  | nil => rfl
  | cons f l ih => simp only [ics, List.length_cons, ih]; omega
theorem ics_append (a b : List It) : ics (a ++ b) = ics a ++ ics b := by
  induction a with
  | nil => rfl
  | cons f a ih => simp only [List.cons_append, ics, ih]
theorem ics_one (l : List It) : ∀ u ∈ ics l, u.oneCell' = true := by
  induction l with
  | nil => intro u h; cases h
  | cons f l ih =>
    intro u h
    simp only [ics, List.mem_cons] at h
    rcases h with rfl | rfl | h
    · rfl
    · rfl
    · exact ih u h
theorem ics_get (l : List It) : ∀ (k : Nat) (p : It), l[k]? = some p → (ics l)[k * 2]? = some (.int .i64 p.k) ∧ (ics l)[k * 2 + 1]? = some (.int .i64 p.d) := by
  induction l with
  | nil => intro k f h; simp at h
  | cons g l ih =>
    intro k f h
    cases k with
    | zero =>
      simp at h
      subst h
      exact ⟨rfl, rfl⟩
    | succ k =>
      have := ih k f (by simpa using h)
      simp only [ics, show (k + 1) * 2 = k * 2 + 1 + 1 by omega, show k * 2 + 1 + 1 + 1 = (k * 2 + 1) + 1 + 1 by omega, List.getElem?_cons_succ]
      exact this
theorem ics_part (l : List It) (j : Nat) (u : Value) (h : (ics l)[j]? = some u) : ∃ (k : Nat) (p : It), l[k]? = some p ∧ ((j = k * 2 ∧ u = .int .i64 p.k) ∨ (j = k * 2 + 1 ∧ u = .int .i64 p.d)) := by
  have hj : j < (ics l).length := (List.getElem?_eq_some_iff.1 h).1
  rw [ics_len] at hj
  have hk : j / 2 < l.length := by omega
  refine ⟨j / 2, l[j / 2], List.getElem?_eq_getElem hk, ?_⟩
  obtain ⟨h0, h1⟩ := ics_get l (j / 2) _ (List.getElem?_eq_getElem hk)
  have hm : j % 2 = 0 ∨ j % 2 = 1 := by omega
  rcases hm with e | e
  · refine .inl ⟨by omega, ?_⟩
    rw [show j / 2 * 2 = j by omega, h] at h0
    exact Option.some.inj h0
  · refine .inr ⟨by omega, ?_⟩
    rw [show j / 2 * 2 + 1 = j by omega, h] at h1
    exact Option.some.inj h1

/-- The slice (A, n, c) reads as the list l of items. -/
structure IL (w : World) (A : Option Addr) (n c : Nat) (l : List It) : Prop where
  len : l.length = n
  le : n ≤ c
  max : c ≤ maxLen
  nil_ : A = none → c = 0
  at_ : ∀ k p, l[k]? = some p → ∃ b off, A = some ⟨b, off, none⟩ ∧ b < w.heap.size ∧ w.cell? ⟨b, off + k * 2, none⟩ = some (.int .i64 p.k) ∧ w.cell? ⟨b, off + k * 2 + 1, none⟩ = some (.int .i64 p.d)
section
variable {w w' : World} {A : Option Addr} {n c : Nat} {l : List It}
theorem IL.keep (h : IL w A n c l) (hb : Below w.heap.size w w') : IL w' A n c l :=
  ⟨h.len, h.le, h.max, h.nil_, fun k f hf => by
    obtain ⟨b, off, rfl, hlt, c0, c1⟩ := h.at_ k f hf
    exact ⟨b, off, rfl, Nat.lt_of_lt_of_le hlt hb.size, (hb.cell hlt).trans c0, (hb.cell hlt).trans c1⟩⟩
theorem IL.drew (h : IL w A n c l) : IL w.drew A n c l := h.keep (Below.refl _ _).drew
theorem IL.alloc (h : IL w A n c l) (o : Obj) : IL (w.alloc o) A n c l := h.keep ((Below.refl _ _).alloc (Nat.le_refl _) o)
theorem IL.kb {S : Nat → Prop} (h : IL w A n c l) (hk : KB S w w') (hs : ∀ b off, A = some ⟨b, off, none⟩ → ¬ S b) : IL w' A n c l :=
  ⟨h.len, h.le, h.max, h.nil_, fun k f hf => by
    obtain ⟨b, off, rfl, hlt, c0, c1⟩ := h.at_ k f hf
    exact ⟨b, off, rfl, Nat.lt_of_lt_of_le hlt hk.size, (hk.cell (p := ⟨b, _, none⟩) hlt (hs b off rfl)).trans c0, (hk.cell (p := ⟨b, _, none⟩) hlt (hs b off rfl)).trans c1⟩⟩
theorem IL.keepB {B : Nat} (h : IL w A n c l) (hb : Below B w w') (hA : ∀ b off, A = some ⟨b, off, none⟩ → b < B) : IL w' A n c l :=
  ⟨h.len, h.le, h.max, h.nil_, fun k f hf => by
    obtain ⟨b, off, rfl, hlt, c0, c1⟩ := h.at_ k f hf
    exact ⟨b, off, rfl, Nat.lt_of_lt_of_le hlt hb.size, (hb.cell (p := ⟨b, _, none⟩) (hA _ _ rfl)).trans c0, (hb.cell (p := ⟨b, _, none⟩) (hA _ _ rfl)).trans c1⟩⟩
theorem IL.none_ (w : World) : IL w none 0 0 [] := ⟨rfl, Nat.le_refl _, Nat.zero_le _, fun _ => rfl, fun k f h => by simp at h⟩
theorem IL.cells (h : IL w A n c l) {ad : Addr} (hA : A = some ad) : ∀ j u, (ics l)[j]? = some u → w.cell? (ad.add j) = some u := by
  intro j u hj
  obtain ⟨k, f, hf, hu⟩ := ics_part l j u hj
  obtain ⟨b, off, e, _, c0, c1⟩ := h.at_ k f hf
  rw [hA] at e
  injection e with e
  subst e
  rw [Addr.add_lit]
  rcases hu with ⟨rfl, rfl⟩ | ⟨rfl, rfl⟩
  · exact c0
  · rw [← Nat.add_assoc]; exact c1
/-- A row that the call made reads so. -/
theorem IL.of_own {B : Nat} {e : TypeId} (h : w.ownsRow B e 2 (.slice A n c) n (ics l)) : IL w A n c l := by
  have hl : l.length = n := by have := h.1; rw [ics_len] at this; omega
  rcases h.2 with ⟨he, h0⟩ | ⟨g, cap, cur, he, _, hg, hnc, hm, hsz, ht⟩
  · injection he with e1 e2 e3
    subst e1 e2 e3
    have : l = [] := List.eq_nil_of_length_eq_zero hl
    subst this
    exact IL.none_ w
  · injection he with e1 e2 e3
    subst e1 e3
    refine ⟨hl, hnc, hm, (fun e => by cases e), fun k f hf => ?_⟩
    obtain ⟨q0, q1⟩ := ics_get l k f hf
    have hc := h.cells (g := g) rfl
    simp only [Addr.add_lit, Nat.zero_add] at hc
    refine ⟨g, 0, rfl, (Array.getElem?_eq_some_iff.1 hg).1, ?_, ?_⟩
    · simpa using hc _ _ q0
    · simpa using hc _ _ q1
end
theorem own_its {w : World} {B : Nat} {e : TypeId} {v : Value} {n : Nat} {l : List It} (h : w.ownsRow B e 2 v n (ics l)) : ∃ A c, v = .slice A n c ∧ IL w A n c l := by
  have key : ∃ A c, v = .slice A n c := by
    rcases h.2 with ⟨rfl, rfl⟩ | ⟨g, cap, cur, rfl, _⟩
    · exact ⟨none, 0, rfl⟩
    · exact ⟨_, cap, rfl⟩
  obtain ⟨A, c, rfl⟩ := key
  exact ⟨A, c, rfl, IL.of_own h⟩

/-- A slice type of items, and its element's type. -/
structure IsIt (T E : TypeId) : Prop where
  sl : Try.prog.underlying T = some (.slice E)
  el : Try.prog.elem T = E
  info : (Try.prog.info? E).map (fun i => (i.zero, i.size, i.bytes)) = some (some (.agg #[.int .i64 0, .int .i64 0]), 2, 16)
theorem isH : IsIt 27 38 := ⟨Try.underlying27, by kernel_rfl, by kernel_rfl⟩
theorem isI : IsIt 26 38 := ⟨Try.underlying26, by kernel_rfl, by kernel_rfl⟩
theorem IsIt.size {T E : TypeId} (h : IsIt T E) : (Try.prog.info? E).map (·.size) = some 2 := by
  have := h.info
  cases hi : Try.prog.info? E with
  | none => rw [hi] at this; cases this
  | some i => rw [hi] at this; simp only [Option.map_some, Option.some.injEq, Prod.mk.injEq] at this; simp [this.2.1]

/-- A round's item. -/
theorem IL.round {w : World} {A : Option Addr} {n c : Nat} {l : List It} (h : IL w A n c l) {k : Nat} (hk : k < n) : ∃ x b off, l[k]? = some x ∧ A = some ⟨b, off, none⟩ ∧ b < w.heap.size ∧ w.cell? ⟨b, off + k * 2, none⟩ = some (.int .i64 x.k) ∧ w.cell? ⟨b, off + k * 2 + 1, none⟩ = some (.int .i64 x.d) := by
  have hkl : k < l.length := by rw [h.len]; exact hk
  obtain ⟨b, off, e, hlt, c0, c1⟩ := h.at_ k _ (List.getElem?_eq_getElem hkl)
  exact ⟨l[k], b, off, List.getElem?_eq_getElem hkl, e, hlt, c0, c1⟩

theorem run_append_il {T E : TypeId} (hI : IsIt T E) (w : World) (ty : TypeId) (base : Nat) (v : Value) (n : Nat) (xs : List It) (hown : w.ownsRow base E 2 v n (ics xs))
    (A : Option Addr) (m c : Nat) (ys : List It) (hr : IL w A m c ys) (h63 : n + m ≤ 1000000) (hbase : base ≤ w.heap.size) :
    ∃ A' c' w', (Builtin.append_ #[T, T] ty #[v, .slice A m c]).run Try.prog w = .ok (.slice A' (n + m) c') w' ∧ w'.ownsRow base E 2 (.slice A' (n + m) c') (n + m) (ics (xs ++ ys)) ∧ w.grownBy w' v.ownBlock := by
  obtain ⟨i0, hi0, hz0, hz1, hz2⟩ := info_parts hI.info
  have hl := hr.len
  have key : ∃ v' w', (Builtin.append_ #[T, T] ty #[v, .slice A m c]).run Try.prog w = .ok v' w' ∧ w'.ownsRow base E 2 v' (n + m) (ics (xs ++ ys)) ∧ w.grownBy w' v.ownBlock := by
    cases A with
    | none =>
      have hc := hr.nil_ rfl
      subst hc
      have hm : m = 0 := by have := hr.le; omega
      subst hm
      have : ys = [] := List.eq_nil_of_length_eq_zero hl
      subst this
      exact ⟨v, w, run_append_owned_none (P := Try.prog) (w := w) base T ty _ i0 2 hI.sl hi0 v n (ics xs) hown, by simpa using hown, ⟨rfl, rfl, rfl, Nat.le_refl _, fun _ _ _ => rfl⟩⟩
    | some ad =>
      obtain ⟨v', w', hrun, h1, h2, -⟩ := run_append_own (P := Try.prog) w base T ty _ i0 _ 2 16 hI.sl hi0 hz0 hz1 hz2 rfl (by omega) v n (ics xs) hown ad m c (ics ys) (by rw [ics_len, hl]) (hr.cells rfl) (ics_one ys) (by unfold maxLen; omega) (by omega) hbase
      exact ⟨v', w', hrun, by rw [ics_append]; exact h1, h2⟩
  obtain ⟨v', w', hrun, h1, h2⟩ := key
  obtain ⟨A', c', rfl, -⟩ := own_its h1
  exact ⟨A', c', w', hrun, h1, h2⟩
/-- append of items, nil or not, onto a row of the call's own. -/
theorem wpList_append_il {T E : TypeId} (hI : IsIt T E) (w : World) {ops : Array Oper} {rest : List Oper} {o : Oper} {a : Act} {Q : Exit → Act → World → Prop} (hgd : o.guard = none) (s x : Operand)
    (ho : o.op = .call { callee := .builtin .append, args := #[s, x], argTypes := #[T, T] })
    (base : Nat) (v : Value) (n : Nat) (xs : List It) (hs : a.eval s = v) (hown : w.ownsRow base E 2 v n (ics xs))
    (A : Option Addr) (m c : Nat) (ys : List It) (hx : a.eval x = .slice A m c) (hr : IL w A m c ys)
    (h63 : n + m ≤ 1000000) (hbase : base ≤ w.heap.size)
    (h : ∀ A' c' w', w'.ownsRow base E 2 (.slice A' (n + m) c') (n + m) (ics (xs ++ ys)) → w.grownBy w' v.ownBlock → wpList Try.prog ops Q rest (a.put o.dst (.slice A' (n + m) c')) w') : wpList Try.prog ops Q (o :: rest) a w := by
  obtain ⟨A', c', w', hrun, h1, h2⟩ := run_append_il hI w o.type base v n xs hown A m c ys hr h63 hbase
  have h := h A' c' w' h1 h2
  refine wpList_plain hgd fun _ hK => ?_
  unfold Oper.wp execOp
  simp only [ho, resolve, invoke, builtin, Sem.run_bind, Sem.run_pure, Result.andThen_ok, List.map_toArray, List.map_cons, List.map_nil, hs, hx, hrun]
  exact hK _ _ h
/-- And in a drawn region. -/
theorem step_append_il {T E : TypeId} (hI : IsIt T E) (w : World) {ops : Array Oper} {o : Oper} {a : Act} {K : Act → World → Prop} {Q : Exit → Act → World → Prop} {F : Prop} (hgd : o.guard = none) (s x : Operand)
    (ho : o.op = .call { callee := .builtin .append, args := #[s, x], argTypes := #[T, T] })
    (base : Nat) (v : Value) (n : Nat) (xs : List It) (hs : a.eval s = v) (hown : w.ownsRow base E 2 v n (ics xs))
    (A : Option Addr) (m c : Nat) (ys : List It) (hx : a.eval x = .slice A m c) (hr : IL w A m c ys) (h63 : n + m ≤ 1000000) (hbase : base ≤ w.heap.size)
    (h : ∀ A' c' w', w'.ownsRow base E 2 (.slice A' (n + m) c') (n + m) (ics (xs ++ ys)) → w.grownBy w' v.ownBlock → K (a.put o.dst (.slice A' (n + m) c')) w') : if Region.wanted o (yielded ops a.tmps) = true then Oper.wp Try.prog o a w K Q else F := by
  rw [if_pos (by simp [Region.wanted, hgd])]
  obtain ⟨A', c', w', hrun, h1, h2⟩ := run_append_il hI w o.type base v n xs hown A m c ys hr h63 hbase
  unfold Oper.wp
  simp [execOp, ho, resolve, invoke, builtin, hs, hx, hrun, Result.andThen]
  exact h A' c' w' h1 h2
/-- A block that is a list of items. -/
theorem il_blk {w : World} {g : Nat} {t : TypeId} {l : List It} (h : BlkIs w g t (ics l).toArray) (hm : l.length ≤ maxLen) : IL w (some ⟨g, 0, none⟩) l.length l.length l :=
  ⟨rfl, Nat.le_refl _, hm, (fun e => by cases e), fun k p hp => by
    obtain ⟨q0, q1⟩ := ics_get l k p hp
    refine ⟨g, 0, rfl, h.lt, ?_, ?_⟩
    · rw [Nat.zero_add, h.cell]; simpa using q0
    · rw [Nat.zero_add, h.cell]; simpa using q1⟩

end Go.Proofs.Ytofnpmmbfcnlgaa
