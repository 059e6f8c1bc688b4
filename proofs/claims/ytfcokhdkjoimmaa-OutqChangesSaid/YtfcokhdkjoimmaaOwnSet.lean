/-
  A cell stored into a row of the call's own.
-/
import Derived.Test.YtfcokhdkjoimmaaMem
namespace Go.Proofs.Ytfcokhdkjoimmaa
set_option linter.unusedSimpArgs false
set_option linter.unusedVariables false
open Go.RowKit

theorem own_set {w : World} {B n c g : Nat} {e : TypeId} {xs : List Value} (h : w.ownsRow B e 1 (.slice (some ⟨g, 0, none⟩) n c) n xs) (i : Nat) (hi : i < n) (u : Value) :
    (w.setCell ⟨g, i, none⟩ u).ownsRow B e 1 (.slice (some ⟨g, 0, none⟩) n c) n (xs.set i u) := by
  refine ⟨by rw [List.length_set]; exact h.1, ?_⟩
  rcases h.2 with ⟨he, _⟩ | ⟨g', cap, cur, he, hb, hg, hn, hm, hs, ht⟩
  · cases he
  · injection he with e1 e2 e3
    injection e1 with e1
    injection e1 with e1
    subst e1 e3
    refine .inr ⟨g, c, cur.setIfInBounds i u, rfl, hb, BlkIs.put (show BlkIs w g e cur from hg) i u, hn, hm, by simpa using hs, ?_⟩
    rw [Array.toList_setIfInBounds, ← ht, List.take_set]
theorem own_frozen {w : World} {B n c g : Nat} {e : TypeId} {xs : List Value} (h : w.ownsRow B e 1 (.slice (some ⟨g, 0, none⟩) n c) n xs) (i : Nat) : w.frozen? ⟨g, i, none⟩ = false := by
  rcases h.2 with ⟨he, _⟩ | ⟨g', cap, cur, he, hb, hg, _⟩
  · cases he
  · injection he with e1 e2 e3
    injection e1 with e1
    injection e1 with e1
    subst e1
    exact BlkIs.frozen (show BlkIs w g e cur from hg) i
theorem own_lt {w : World} {B n c g : Nat} {e : TypeId} {xs : List Value} (h : w.ownsRow B e 1 (.slice (some ⟨g, 0, none⟩) n c) n xs) : B ≤ g ∧ g < w.heap.size := by
  have := h.lt g rfl
  exact this
theorem own_setN {B n c g : Nat} {e : TypeId} : ∀ (vs : List Value) (i : Nat) (w : World) (xs : List Value), w.ownsRow B e 1 (.slice (some ⟨g, 0, none⟩) n c) n xs → i + vs.length ≤ n →
    ∃ ys, (w.setCells g i vs).ownsRow B e 1 (.slice (some ⟨g, 0, none⟩) n c) n ys ∧ ys.take i = xs.take i
  | [], i, w, xs, h, _ => ⟨xs, h, rfl⟩
  | v :: r, i, w, xs, h, hi => by
    simp only [List.length_cons] at hi
    obtain ⟨ys, hy, ht⟩ := own_setN r (i + 1) (w.setCell ⟨g, i, none⟩ v) (xs.set i v) (own_set h i (by omega) v) (by omega)
    refine ⟨ys, hy, ?_⟩
    have h1 : ys.take i = (ys.take (i + 1)).take i := by rw [List.take_take]; congr 1; omega
    rw [h1, ht, List.take_take, Nat.min_eq_left (by omega), List.take_set_of_le (Nat.le_refl _)]
theorem own_cut {w : World} {B n c g i : Nat} {e : TypeId} {xs : List Value} (h : w.ownsRow B e 1 (.slice (some ⟨g, 0, none⟩) n c) n xs) (hi : i ≤ n) : w.ownsRow B e 1 (.slice (some ⟨g, 0, none⟩) i c) i (xs.take i) := by
  have hl := h.1
  refine ⟨by rw [List.length_take]; omega, ?_⟩
  rcases h.2 with ⟨he, _⟩ | ⟨g', cap, cur, he, hb, hg, hn, hm, hs, ht⟩
  · cases he
  · injection he with e1 e2 e3
    injection e1 with e1
    injection e1 with e1
    subst e1 e3
    refine .inr ⟨g, c, cur, rfl, hb, hg, by omega, hm, hs, ?_⟩
    rw [← ht, List.take_take]
    congr 1; omega
theorem below_setN {B g : Nat} : ∀ (vs : List Value) (i : Nat) (a w : World), Below B a w → B ≤ g → Below B a (w.setCells g i vs)
  | [], _, _, _, h, _ => h
  | v :: r, i, a, w, h, hg => below_setN r (i + 1) a _ ⟨h.os, h.tape, h.output, by simpa [World.setCell] using h.size, fun k hk => (Below.heap_setCell w ⟨g, i, none⟩ v k (by show k ≠ g; omega)).trans (h.block k hk)⟩ hg
theorem below_setC {B g i : Nat} {a w : World} (h : Below B a w) (hg : B ≤ g) (v : Value) : Below B a (w.setCell ⟨g, i, none⟩ v) := below_setN [v] i a w h hg
/-- Cells laid into a row of the call's own: what it reads behind it. -/
theorem own_puts {B n c g : Nat} {e : TypeId} : ∀ (vs : List Value) (i : Nat) (w : World) (xs : List Value), w.ownsRow B e 1 (.slice (some ⟨g, 0, none⟩) n c) n xs → i + vs.length ≤ n →
    ∃ ys, (w.setCells g i vs).ownsRow B e 1 (.slice (some ⟨g, 0, none⟩) n c) n ys ∧ ys.take i = xs.take i ∧ (ys.drop i).take vs.length = vs
  | [], i, w, xs, h, _ => ⟨xs, h, rfl, by simp⟩
  | v :: r, i, w, xs, h, hi => by
    simp only [List.length_cons] at hi
    have hxl : xs.length = n := by have := h.1; omega
    obtain ⟨ys, hy, ht, hd⟩ := own_puts r (i + 1) (w.setCell ⟨g, i, none⟩ v) (xs.set i v) (own_set h i (by omega) v) (by omega)
    have h1 : ys.take i = (ys.take (i + 1)).take i := by rw [List.take_take]; congr 1; omega
    have h2 : ys[i]? = some v := by
      have h3 : (ys.take (i + 1))[i]? = ((xs.set i v).take (i + 1))[i]? := by rw [ht]
      rw [List.getElem?_take_of_lt (by omega), List.getElem?_take_of_lt (by omega), List.getElem?_set_self (by omega)] at h3
      exact h3
    have h4 : ys.drop i = v :: ys.drop (i + 1) := by
      obtain ⟨hl, hv⟩ := List.getElem?_eq_some_iff.1 h2
      rw [List.drop_eq_getElem_cons hl, hv]
    refine ⟨ys, hy, ?_, ?_⟩
    · rw [h1, ht, List.take_take, Nat.min_eq_left (by omega), List.take_set_of_le (Nat.le_refl _)]
    · rw [h4, List.length_cons, List.take_succ_cons, hd]
end Go.Proofs.Ytfcokhdkjoimmaa
