/-
  Rows of numbers that a call made.
-/
import Derived.Test.YtlondjmklnehhaaOwnRow
import Derived.Test.YtlondjmklnehhaaIntRow
import Derived.Test.YtlondjmklnehhaaChecked
import Derived.Laws.AppendOwnNone
namespace Go.Proofs.Ytlondjmklnehhaa
set_option linter.unusedSimpArgs false
set_option linter.unusedVariables false
open Go.RowKit

/-- Numbers as cells. -/
def ncs (l : List Int) : List Value := l.map (Value.int .i64)
/-- A row of numbers of the call's own reads so. -/
theorem own_num {w : World} {B n : Nat} {e : TypeId} {v : Value} {l : List Int} (h : w.ownsRow B e 1 v n (ncs l)) : (l = [] ∧ n = 0 ∧ v = .slice none 0 0) ∨ ∃ g c, v = .slice (some ⟨g, 0, none⟩) n c ∧ g < w.heap.size ∧ ∀ k z, l[k]? = some z → w.cell? ⟨g, k, none⟩ = some (.int .i64 z) := by
  rcases h.2 with ⟨rfl, rfl⟩ | ⟨g, cap, cur, rfl, hb, hg, _⟩
  · have := h.1
    simp [ncs] at this
    exact .inl ⟨this, rfl, rfl⟩
  · refine .inr ⟨g, cap, rfl, (Array.getElem?_eq_some_iff.1 hg).1, fun k z hz => ?_⟩
    have := h.cells (g := g) rfl k (.int .i64 z) (by simp [ncs, hz])
    rw [Addr.add_lit, Nat.zero_add] at this
    exact this
theorem own_num_len {w : World} {B n : Nat} {e : TypeId} {v : Value} {l : List Int} (h : w.ownsRow B e 1 v n (ncs l)) : l.length = n := by
  have := h.1
  simpa [ncs] using this
theorem num_info : (Try.prog.info? 3).map (fun i => (i.zero, i.size, i.bytes)) = some (some (.int .i64 0), 1, 8) := by kernel_rfl

theorem ncs_one (l : List Int) : ∀ u ∈ ncs l, u.oneCell' = true := by
  intro u h
  obtain ⟨x, _, rfl⟩ := List.mem_map.1 h
  rfl
theorem ncs_append (a b : List Int) : ncs (a ++ b) = ncs a ++ ncs b := List.map_append
/-- Numbers of a word's size. -/
def AllN (l : List Int) : Prop := ∀ x ∈ l, (Lit.int .i64 x).wf = true
theorem NL.all {w : World} {A : Option Addr} {n c : Nat} {l : List Int} (h : NL .i64 w A n c l) : AllN l := fun x hx => by
  obtain ⟨i, hi, rfl⟩ := List.getElem_of_mem hx
  obtain ⟨_, _, _, _, _, hw⟩ := h.at_ i _ (List.getElem?_eq_getElem hi)
  exact hw
/-- A row of numbers of the call's own reads as its list. -/
theorem nl_own {w : World} {B n c : Nat} {A : Option Addr} {e : TypeId} {l : List Int} (h : w.ownsRow B e 1 (.slice A n c) n (ncs l)) (hw : AllN l) : NL .i64 w A n c l := by
  have hl : l.length = n := by have := h.1; simpa [ncs] using this
  rcases h.2 with ⟨he, h0⟩ | ⟨g, cap, cur, he, _, hg, hnc, hm, hsz, ht⟩
  · injection he with e1 e2 e3
    subst e1 e2 e3
    have : l = [] := List.eq_nil_of_length_eq_zero hl
    subst this
    exact ⟨rfl, Nat.le_refl _, Nat.zero_le _, fun i x h => by simp at h⟩
  · injection he with e1 e2 e3
    subst e1 e3
    refine ⟨hl, hnc, hm, fun k z hz => ⟨g, 0, rfl, (Array.getElem?_eq_some_iff.1 hg).1, ?_, hw z (List.mem_of_getElem? hz)⟩⟩
    have := h.cells (g := g) rfl k (.int .i64 z) (by simp [ncs, hz])
    rw [Addr.add_lit] at this
    exact this
theorem NL.cells {w : World} {ad : Addr} {n c : Nat} {l : List Int} (h : NL .i64 w (some ad) n c l) : ∀ j u, (ncs l)[j]? = some u → w.cell? (ad.add j) = some u := by
  intro j u hj
  unfold ncs at hj
  rw [List.getElem?_map] at hj
  obtain ⟨x, hx, rfl⟩ := Option.map_eq_some_iff.1 hj
  obtain ⟨b, off, e, _, c0, _⟩ := h.at_ j x hx
  injection e with e
  subst e
  rw [Addr.add_lit]
  exact c0
theorem nl_blk {w : World} {g : Nat} {t : TypeId} {l : List Int} (h : BlkIs w g t (ncs l).toArray) (hw : AllN l) (hm : l.length ≤ maxLen) : NL .i64 w (some ⟨g, 0, none⟩) l.length l.length l :=
  ⟨rfl, Nat.le_refl _, hm, fun k z hz => ⟨g, 0, rfl, h.lt, by rw [Nat.zero_add, h.cell]; simp [ncs, hz], hw z (List.mem_of_getElem? hz)⟩⟩
/-- append of numbers onto a row of the call's own. -/
theorem wpList_append_n (w : World) {ops : Array Oper} {rest : List Oper} {o : Oper} {a : Act} {Q : Exit → Act → World → Prop} (hgd : o.guard = none) (s x : Operand)
    (ho : o.op = .call { callee := .builtin .append, args := #[s, x], argTypes := #[45, 45] })
    (base : Nat) (v : Value) (n : Nat) (xs : List Int) (hs : a.eval s = v) (hown : w.ownsRow base 3 1 v n (ncs xs))
    (ad : Addr) (m c : Nat) (ys : List Int) (hx : a.eval x = .slice (some ad) m c) (hr : NL .i64 w (some ad) m c ys)
    (h63 : n + m ≤ 1000000) (hbase : base ≤ w.heap.size)
    (h : ∀ v' w', w'.ownsRow base 3 1 v' (n + m) (ncs (xs ++ ys)) → w.grownBy w' v.ownBlock → wpList Try.prog ops Q rest (a.put o.dst v') w') : wpList Try.prog ops Q (o :: rest) a w := by
  obtain ⟨i0, hi0, hz0, hz1, hz2⟩ := info_parts num_info
  have hl := hr.len
  refine wpList_append_own w hgd s x _ ho base _ i0 _ 1 8 Try.underlying45 hi0 hz0 hz1 hz2 rfl (by omega) v n (ncs xs) hs hown ad m c (ncs ys) hx (by simp [ncs, hl]) hr.cells (ncs_one ys) (by unfold maxLen; omega) (by omega) hbase ?_
  intro v' w' h2 h3 _
  exact h v' w' (by rw [ncs_append]; exact h2) h3
theorem own_slice {w : World} {B n : Nat} {e : TypeId} {v : Value} {l : List Int} (h : w.ownsRow B e 1 v n (ncs l)) : ∃ A c, v = .slice A n c := by
  rcases h.2 with ⟨rfl, rfl⟩ | ⟨g, cap, cur, rfl, _⟩
  · exact ⟨none, 0, rfl⟩
  · exact ⟨_, cap, rfl⟩
end Go.Proofs.Ytlondjmklnehhaa
