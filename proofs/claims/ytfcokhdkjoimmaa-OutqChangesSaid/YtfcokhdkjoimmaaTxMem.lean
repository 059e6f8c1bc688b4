/-
  A slice that reads as a list of texts; append of such lists.
-/
import Derived.Test.YtfcokhdkjoimmaaOps
import Derived.Test.YtfcokhdkjoimmaaOwnRow
import Derived.Test.YtfcokhdkjoimmaaChecked
import Derived.Laws.AppendOwnNone
import Derived.Lib.AppendZeros
namespace Go.Proofs.Ytfcokhdkjoimmaa
set_option linter.unusedSimpArgs false
set_option linter.unusedVariables false
open Go.RowKit

def tcs (l : List ByteArray) : List Value := l.map .string
theorem tcs_len (l : List ByteArray) : (tcs l).length = l.length := by simp [tcs]
theorem tcs_append (a b : List ByteArray) : tcs (a ++ b) = tcs a ++ tcs b := by simp [tcs]
theorem tcs_one (l : List ByteArray) : ∀ u ∈ tcs l, u.oneCell' = true := by
  intro u h
  obtain ⟨s, -, rfl⟩ := List.mem_map.1 h
  rfl
theorem tcs_get {l : List ByteArray} {k : Nat} {s : ByteArray} (h : l[k]? = some s) : (tcs l)[k]? = some (.string s) := by simp [tcs, h]

/-- The slice (A, n, c) reads as the list l of texts. -/
structure TX (w : World) (A : Option Addr) (n c : Nat) (l : List ByteArray) : Prop where
  len : l.length = n
  le : n ≤ c
  max : c ≤ maxLen
  nil_ : A = none → c = 0
  at_ : ∀ k s, l[k]? = some s → ∃ b off, A = some ⟨b, off, none⟩ ∧ b < w.heap.size ∧ w.cell? ⟨b, off + k, none⟩ = some (.string s)
section
variable {w w' : World} {A : Option Addr} {n c : Nat} {l : List ByteArray}
theorem TX.keep (h : TX w A n c l) (hb : Below w.heap.size w w') : TX w' A n c l :=
  ⟨h.len, h.le, h.max, h.nil_, fun k f hf => by
    obtain ⟨b, off, rfl, hlt, c0⟩ := h.at_ k f hf
    exact ⟨b, off, rfl, Nat.lt_of_lt_of_le hlt hb.size, (hb.cell hlt).trans c0⟩⟩
theorem TX.drew (h : TX w A n c l) : TX w.drew A n c l := h.keep (Below.refl _ _).drew
theorem TX.alloc (h : TX w A n c l) (o : Obj) : TX (w.alloc o) A n c l := h.keep ((Below.refl _ _).alloc (Nat.le_refl _) o)
theorem TX.none_ (w : World) : TX w none 0 0 [] := ⟨rfl, Nat.le_refl _, Nat.zero_le _, fun _ => rfl, fun k f h => by simp at h⟩
theorem TX.cells (h : TX w A n c l) {ad : Addr} (hA : A = some ad) : ∀ j u, (tcs l)[j]? = some u → w.cell? (ad.add j) = some u := by
  intro j u hj
  simp only [tcs, List.getElem?_map, Option.map_eq_some_iff] at hj
  obtain ⟨s, hs, rfl⟩ := hj
  obtain ⟨b, off, e, _, c0⟩ := h.at_ j s hs
  rw [hA] at e
  injection e with e
  subst e
  rw [Addr.add_lit]
  exact c0
/-- A row that the call made reads so. -/
theorem TX.of_own {B : Nat} {e : TypeId} (h : w.ownsRow B e 1 (.slice A n c) n (tcs l)) : TX w A n c l := by
  have hl : l.length = n := by have := h.1; rw [tcs_len] at this; omega
  rcases h.2 with ⟨he, h0⟩ | ⟨g, cap, cur, he, _, hg, hnc, hm, hsz, ht⟩
  · injection he with e1 e2 e3
    subst e1 e2 e3
    have : l = [] := List.eq_nil_of_length_eq_zero hl
    subst this
    exact TX.none_ w
  · injection he with e1 e2 e3
    subst e1 e3
    refine ⟨hl, hnc, hm, (fun e => by cases e), fun k f hf => ?_⟩
    have q0 := tcs_get hf
    have hc := h.cells (g := g) rfl
    simp only [Addr.add_lit, Nat.zero_add] at hc
    exact ⟨g, 0, rfl, (Array.getElem?_eq_some_iff.1 hg).1, by simpa using hc _ _ q0⟩
/-- What stands in a round: the text behind k others, and its cell. -/
theorem TX.round (h : TX w A n c l) {k : Nat} (hk : k < n) :
    ∃ s b off, l[k]? = some s ∧ A = some ⟨b, off, none⟩ ∧ b < w.heap.size ∧ w.cell? ⟨b, off + k, none⟩ = some (.string s) := by
  have hl := h.len
  obtain ⟨b, off, h1⟩ := h.at_ k _ (List.getElem?_eq_getElem (show k < l.length by omega))
  exact ⟨_, b, off, List.getElem?_eq_getElem (by omega), h1⟩
end
theorem own_texts {w : World} {B : Nat} {e : TypeId} {v : Value} {n : Nat} {l : List ByteArray} (h : w.ownsRow B e 1 v n (tcs l)) : ∃ A c, v = .slice A n c ∧ TX w A n c l := by
  have key : ∃ A c, v = .slice A n c := by
    rcases h.2 with ⟨rfl, rfl⟩ | ⟨g, cap, cur, rfl, _⟩
    · exact ⟨none, 0, rfl⟩
    · exact ⟨_, cap, rfl⟩
  obtain ⟨A, c, rfl⟩ := key
  exact ⟨A, c, rfl, TX.of_own h⟩
/-- What a call answers that makes a row of texts. -/
def GivesTx (w : World) (l : List ByteArray) (e : Ending) (w' : World) : Prop := ∃ v, e = .returned v ∧ w'.ownsRow w.heap.size 9 1 v l.length (tcs l) ∧ Below w.heap.size w w'
theorem tx_new1 (w : World) (s : ByteArray) : TX (w.alloc (.cells #[.string s] 9)) (some ⟨w.heap.size, 0, none⟩) 1 1 [s] := by
  refine TX.of_own (B := 0) (e := 9) ⟨rfl, .inr ⟨w.heap.size, 1, #[.string s], rfl, Nat.zero_le _, BlkIs.new w _ _, Nat.le_refl _, by unfold maxLen; omega, rfl, rfl⟩⟩

/-- A block of another type is kept where a row of the call's own grows. -/
theorem tx_grown_ne {w w' : World} {B g : Nat} {e t : TypeId} {s n : Nat} {v : Value} {xs : List Value} {cs : Array Value} (hk : BlkIs w g t cs) (hg : w.grownBy w' v.ownBlock) (h : w.ownsRow B e s v n xs) (hne : e ≠ t) : BlkIs w' g t cs := by
  refine hk.grown hg ?_
  intro he
  rcases h.2 with ⟨rfl, _⟩ | ⟨k, cap, cur, rfl, b, c, d⟩
  · simp [Value.ownBlock] at he
  · simp [Value.ownBlock] at he
    subst he
    unfold BlkIs at hk
    rw [hk] at c
    injection c with c
    injection c with _ ht
    exact hne ht.symm

theorem tx_info : (Try.prog.info? 9).map (fun i => (i.zero, i.size, i.bytes)) = some (some (.string ⟨#[]⟩), 1, 16) := by kernel_rfl

/-- append of texts onto a row of the call's own. -/
theorem wpList_append_tx (w : World) {ops : Array Oper} {rest : List Oper} {o : Oper} {a : Act} {Q : Exit → Act → World → Prop} (hgd : o.guard = none) (s x : Operand)
    (ho : o.op = .call { callee := .builtin .append, args := #[s, x], argTypes := #[22, 22] })
    (base : Nat) (v : Value) (n : Nat) (xs : List ByteArray) (hs : a.eval s = v) (hown : w.ownsRow base 9 1 v n (tcs xs))
    (A : Option Addr) (m c : Nat) (ys : List ByteArray) (hx : a.eval x = .slice A m c) (hr : TX w A m c ys)
    (h63 : n + m ≤ 1000000000) (hbase : base ≤ w.heap.size)
    (h : ∀ v' w', w'.ownsRow base 9 1 v' (n + m) (tcs (xs ++ ys)) → w.grownBy w' v.ownBlock → wpList Try.prog ops Q rest (a.put o.dst v') w') : wpList Try.prog ops Q (o :: rest) a w := by
  obtain ⟨i0, hi0, hz0, hz1, hz2⟩ := info_parts tx_info
  have hl := hr.len
  cases A with
  | none =>
    have hc := hr.nil_ rfl
    subst hc
    have hm : m = 0 := by have := hr.le; omega
    subst hm
    have : ys = [] := List.eq_nil_of_length_eq_zero hl
    subst this
    refine wpList_append_own_none hgd s x _ ho base _ i0 1 Try.underlying22 hi0 v n (tcs xs) hs hown hx ?_
    have := h v w (by simpa using hown) ⟨rfl, rfl, rfl, Nat.le_refl _, fun _ _ _ => rfl⟩
    exact this
  | some ad =>
    refine wpList_append_own w hgd s x _ ho base _ i0 _ 1 16 Try.underlying22 hi0 hz0 hz1 hz2 rfl (by omega) v n (tcs xs) hs hown ad m c (tcs ys) hx (by rw [tcs_len, hl]; omega) (hr.cells rfl) (tcs_one ys) (by unfold maxLen; omega) (by omega) hbase ?_
    intro v' w' h2 h3 _
    exact h v' w' (by rw [tcs_append]; exact h2) h3
end Go.Proofs.Ytfcokhdkjoimmaa
