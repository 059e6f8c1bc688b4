/-
  append of texts in a drawn region.
-/
import Derived.Test.YtfcokhdkjoimmaaTxMem
namespace Go.Proofs.Ytfcokhdkjoimmaa
set_option linter.unusedSimpArgs false
set_option linter.unusedVariables false
open Go.RowKit

theorem run_append_tx (w : World) (ty : TypeId) (base : Nat) (v : Value) (n : Nat) (xs : List ByteArray) (hown : w.ownsRow base 9 1 v n (tcs xs))
    (A : Option Addr) (m c : Nat) (ys : List ByteArray) (hr : TX w A m c ys) (h63 : n + m ≤ 1000000000) (hbase : base ≤ w.heap.size) :
    ∃ v' w', (Builtin.append_ #[22, 22] ty #[v, .slice A m c]).run Try.prog w = .ok v' w' ∧ w'.ownsRow base 9 1 v' (n + m) (tcs (xs ++ ys)) ∧ w.grownBy w' v.ownBlock := by
  obtain ⟨i0, hi0, hz0, hz1, hz2⟩ := info_parts tx_info
  have hl := hr.len
  cases A with
  | none =>
    have hc := hr.nil_ rfl
    subst hc
    have hm : m = 0 := by have := hr.le; omega
    subst hm
    have : ys = [] := List.eq_nil_of_length_eq_zero hl
    subst this
    exact ⟨v, w, run_append_owned_none (P := Try.prog) (w := w) base 22 ty _ i0 1 Try.underlying22 hi0 v n (tcs xs) hown, by simpa using hown, ⟨rfl, rfl, rfl, Nat.le_refl _, fun _ _ _ => rfl⟩⟩
  | some ad =>
    obtain ⟨v', w', hrun, h1, h2, -⟩ := run_append_own (P := Try.prog) w base 22 ty _ i0 _ 1 16 Try.underlying22 hi0 hz0 hz1 hz2 rfl (by omega) v n (tcs xs) hown ad m c (tcs ys) (by rw [tcs_len, hl]; omega) (hr.cells rfl) (tcs_one ys) (by unfold maxLen; omega) (by omega) hbase
    exact ⟨v', w', hrun, by rw [tcs_append]; exact h1, h2⟩
/-- append of texts onto a row of the call's own, in a drawn region. -/
theorem step_append_tx (w : World) {ops : Array Oper} {o : Oper} {a : Act} {K : Act → World → Prop} {Q : Exit → Act → World → Prop} {E : Prop} (hgd : o.guard = none) (s x : Operand)
    (ho : o.op = .call { callee := .builtin .append, args := #[s, x], argTypes := #[22, 22] })
    (base : Nat) (v : Value) (n : Nat) (xs : List ByteArray) (hs : a.eval s = v) (hown : w.ownsRow base 9 1 v n (tcs xs))
    (A : Option Addr) (m c : Nat) (ys : List ByteArray) (hx : a.eval x = .slice A m c) (hr : TX w A m c ys) (h63 : n + m ≤ 1000000000) (hbase : base ≤ w.heap.size)
    (h : ∀ A' c' w', w'.ownsRow base 9 1 (.slice A' (n + m) c') (n + m) (tcs (xs ++ ys)) → w.grownBy w' v.ownBlock → K (a.put o.dst (.slice A' (n + m) c')) w') : if Region.wanted o (yielded ops a.tmps) = true then Oper.wp Try.prog o a w K Q else E := by
  rw [if_pos (by simp [Region.wanted, hgd])]
  obtain ⟨v', w', hrun, h1, h2⟩ := run_append_tx w o.type base v n xs hown A m c ys hr h63 hbase
  obtain ⟨A', c', rfl, -⟩ := own_texts h1
  unfold Oper.wp
  simp [execOp, ho, resolve, invoke, builtin, hs, hx, hrun, Result.andThen]
  exact h A' c' w' h1 h2
end Go.Proofs.Ytfcokhdkjoimmaa
