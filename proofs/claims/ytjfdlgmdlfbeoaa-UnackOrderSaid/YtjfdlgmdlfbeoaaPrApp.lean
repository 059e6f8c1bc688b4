/-
  Rows of settings that a call made: append, and what keeps them.
-/
import Derived.Test.YtjfdlgmdlfbeoaaPrOwn
import Derived.Test.YtjfdlgmdlfbeoaaPrMem
import Derived.OwnWalk
namespace Go.Proofs.Ytjfdlgmdlfbeoaa
set_option linter.unusedSimpArgs false
set_option linter.unusedVariables false
open Go.RowKit

/-- A block of another kind is not the row's. -/
theorem own_apart {w : World} {B n x s : Nat} {e t : TypeId} {v : Value} {xs : List Value} {cs : Array Value} (h : w.ownsRow B e s v n xs) (hk : BlkIs w x t cs) (hne : t ≠ e) : v.ownBlock = none ∨ v.ownBlock ≠ some x := by
  rcases h.2 with ⟨rfl, _⟩ | ⟨g, cap, cur, rfl, _, hg, _⟩
  · exact .inl rfl
  · refine .inr fun he => ?_
    have : g = x := by simpa [Value.ownBlock] using he
    subst this
    exact hk.ne_ (show BlkIs w g e cur from hg) hne rfl
theorem own_kb {w w' : World} {B n x s : Nat} {e : TypeId} {v : Value} {xs : List Value} (h : w.ownsRow B e s v n xs) (hk : KB (· = x) w w') (hne : v.ownBlock = none ∨ v.ownBlock ≠ some x) : w'.ownsRow B e s v n xs :=
  h.kept (row := some x) ⟨hk.os, hk.tape, hk.output, hk.size, fun k hl hn => hk.block k hl (fun e => hn (by rw [e]))⟩ hne
theorem own_low {w w' : World} {B n s : Nat} {e : TypeId} {v : Value} {xs : List Value} (h : w.ownsRow B e s v n xs) (hb : Below w.heap.size w w') : w'.ownsRow B e s v n xs :=
  h.kept (row := none) ⟨hb.os, hb.tape, hb.output, hb.size, fun i hi _ => hb.block i hi⟩ (by cases v.ownBlock <;> simp)
theorem own_bel {B B' : Nat} {e : TypeId} {size n : Nat} {v : Value} {xs : List Value} {w w' W : World} (h : W.ownsRow B e size v n xs) (hb : Below B' w W) (hB : B' ≤ B) (hB2 : B' ≤ w.heap.size) (hg : W.grownBy w' v.ownBlock) : Below B' w w' :=
  hb.grown hg (by have := hb.size; omega) fun k hk => Nat.le_trans hB (h.lt k hk).1
theorem blk_grown {w w' : World} {x : Nat} {t : TypeId} {cs : Array Value} {v : Value} (hk : BlkIs w x t cs) (hg : w.grownBy w' v.ownBlock) (hne : v.ownBlock = none ∨ v.ownBlock ≠ some x) : BlkIs w' x t cs :=
  hk.grown hg (fun e => by rcases hne with h | h <;> simp_all)

/-- append of settings onto a row of the call's own. -/
theorem wpList_append_pl (w : World) {ops : Array Oper} {rest : List Oper} {o : Oper} {a : Act} {Q : Exit → Act → World → Prop} (hgd : o.guard = none) (s x : Operand)
    (ho : o.op = .call { callee := .builtin .append, args := #[s, x], argTypes := #[23, 23] })
    (base : Nat) (v : Value) (n : Nat) (xs : List Pr) (hs : a.eval s = v) (hown : w.ownsRow base 60 2 v n (pcs xs))
    (A : Option Addr) (m c : Nat) (ys : List Pr) (hx : a.eval x = .slice A m c) (hr : PL w A m c ys)
    (h63 : n + m ≤ 1000000) (hbase : base ≤ w.heap.size)
    (h : ∀ v' w', w'.ownsRow base 60 2 v' (n + m) (pcs (xs ++ ys)) → w.grownBy w' v.ownBlock → wpList Try.prog ops Q rest (a.put o.dst v') w') : wpList Try.prog ops Q (o :: rest) a w := by
  obtain ⟨i0, hi0, hz0, hz1, hz2⟩ := info_parts pr_info
  have hl := hr.len
  cases A with
  | none =>
    have hc := hr.nil_ rfl
    subst hc
    have hm : m = 0 := by have := hr.le; omega
    subst hm
    have : ys = [] := List.eq_nil_of_length_eq_zero hl
    subst this
    refine wpList_append_own_none hgd s x _ ho base _ i0 2 Try.underlying23 hi0 v n (pcs xs) hs hown hx ?_
    have := h v w (by simpa using hown) ⟨rfl, rfl, rfl, Nat.le_refl _, fun _ _ _ => rfl⟩
    exact this
  | some ad =>
    refine wpList_append_own w hgd s x _ ho base _ i0 _ 2 8 Try.underlying23 hi0 hz0 hz1 hz2 rfl (by omega) v n (pcs xs) hs hown ad m c (pcs ys) hx (by rw [pcs_len, hl]) (hr.cells rfl) (pcs_one ys) (by unfold maxLen; omega) (by omega) hbase ?_
    intro v' w' h2 h3 _
    exact h v' w' (by rw [pcs_append]; exact h2) h3
end Go.Proofs.Ytjfdlgmdlfbeoaa
