/-
  append of one number onto a row of the call's own: where the new row lies; two rows side by side.
-/
import Derived.Test.YtlondjmklnehhaaNumRow
import Derived.Deep.AppendLies
import Derived.Laws.OwnMore
namespace Go.Proofs.Ytlondjmklnehhaa
set_option linter.unusedSimpArgs false
set_option linter.unusedVariables false
open Go.RowKit

theorem wpList_append_n1 (w : World) {ops : Array Oper} {rest : List Oper} {o : Oper} {a : Act} {Q : Exit → Act → World → Prop} (hgd : o.guard = none) (s x : Operand)
    (ho : o.op = .call { callee := .builtin .append, args := #[s, x], argTypes := #[45, 45] })
    (base : Nat) (v : Value) (n : Nat) (xs : List Int) (hs : a.eval s = v) (hown : w.ownsRow base 3 1 v n (ncs xs))
    (h : Nat) (y : Int) (hx : a.eval x = .slice (some ⟨h, 0, none⟩) 1 1) (hk : BlkIs w h 3 #[.int .i64 y])
    (h63 : n + 1 ≤ 1000000) (hbase : base ≤ w.heap.size)
    (hh : ∀ g cap w', w'.ownsRow base 3 1 (.slice (some ⟨g, 0, none⟩) (n + 1) cap) (n + 1) (ncs (xs ++ [y])) → w.grownBy w' v.ownBlock → (v.ownBlock = some g ∨ g = w.heap.size) → wpList Try.prog ops Q rest (a.put o.dst (.slice (some ⟨g, 0, none⟩) (n + 1) cap)) w') :
    wpList Try.prog ops Q (o :: rest) a w := by
  obtain ⟨i0, hi0, hz0, hz1, hz2⟩ := info_parts num_info
  refine wpList_append_lies w hgd s x _ ho base _ i0 _ 1 8 Try.underlying45 hi0 hz0 hz1 hz2 rfl (by omega) v n (ncs xs) hs hown ⟨h, 0, none⟩ 1 1 [.int .i64 y] hx rfl (World.news_of_block (cs := #[.int .i64 y]) hk) (by simp [Value.oneCell']) (by omega) (by unfold maxLen; omega) (by omega) hbase _ rfl ?_
  intro g cap w' h2 h3 h4 _
  exact hh g cap w' (by rw [ncs_append]; exact h2) h3 h4
theorem own_growS {w w' : World} {B n s : Nat} {e : TypeId} {u v : Value} {xs : List Value} (h : w.ownsRow B e s u n xs) (hg : w.grownBy w' v.ownBlock) (hne : ∀ x, v.ownBlock = some x → u.ownBlock ≠ some x) : w'.ownsRow B e s u n xs := by
  refine h.kept hg ?_
  cases hv : v.ownBlock with
  | none => cases hu : u.ownBlock <;> simp
  | some y => exact .inr (hne y hv)
end Go.Proofs.Ytlondjmklnehhaa
