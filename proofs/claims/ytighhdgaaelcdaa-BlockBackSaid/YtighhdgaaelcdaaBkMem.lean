/-
  Frames without settings in memory: a slice that reads as a list of frames; a cell of such a row stored.
-/
import Derived.Test.YtighhdgaaelcdaaBkMath
import Derived.Test.YtighhdgaaelcdaaOwnSet
import Derived.Test.YtighhdgaaelcdaaFrFits
import Derived.Laws.AppendOwnNone
import Derived.Deep.MidRow
namespace Go.Proofs.Ytighhdgaaelcdaa
set_option linter.unusedSimpArgs false
set_option linter.unusedVariables false
open Go.RowKit

/-- A frame's cells, as a list. -/
def Fr.cl (F : Fr) : List Value := [.int .u8 F.ty, .int .u8 F.fl, .int .i64 F.st, .string F.data, .int .i64 F.pad, .int .i64 F.dep, .bool F.sole, .int .u8 F.wt, .int .u32 F.code, .int .i64 F.last, .int .i64 F.inc, .slice none 0 0]
theorem Fr.cl_len (F : Fr) : F.cl.length = 12 := rfl
theorem Fr.cl_cs (F : Fr) : F.cl.toArray = F.cs none 0 0 := rfl
theorem Fr.cl_one (F : Fr) : ∀ u ∈ F.cl, u.oneCell' = true := by
  intro u h
  simp only [Fr.cl, List.mem_cons, List.not_mem_nil, or_false] at h
  rcases h with rfl | rfl | rfl | rfl | rfl | rfl | rfl | rfl | rfl | rfl | rfl | rfl <;> rfl
instance : Inhabited Fr := ⟨Fr.zero⟩
/-- The cells of a list of frames. -/
def fcsL : List Fr → List Value
  | [] => []
  | F :: l => F.cl ++ fcsL l
theorem fcsL_len (l : List Fr) : (fcsL l).length = l.length * 12 := by
  induction l with
  | nil => rfl
  | cons f l ih => simp only [fcsL, List.length_append, List.length_cons, ih, Fr.cl_len]; omega
theorem fcsL_append (a b : List Fr) : fcsL (a ++ b) = fcsL a ++ fcsL b := by
  induction a with
  | nil => rfl
  | cons f a ih => simp only [List.cons_append, fcsL, ih, List.append_assoc]
theorem fcsL_one (l : List Fr) : ∀ u ∈ fcsL l, u.oneCell' = true := by
  induction l with
  | nil => intro u h; cases h
  | cons f l ih =>
    intro u h
    simp only [fcsL, List.mem_append] at h
    rcases h with h | h
    · exact f.cl_one u h
    · exact ih u h
theorem fcsL_get (l : List Fr) : ∀ (k : Nat) (F : Fr), l[k]? = some F → ∀ j u, F.cl[j]? = some u → (fcsL l)[k * 12 + j]? = some u := by
  induction l with
  | nil => intro k f h; simp at h
  | cons g l ih =>
    intro k f h j u hj
    have hj12 : j < 12 := by have := (List.getElem?_eq_some_iff.1 hj).1; rw [Fr.cl_len] at this; exact this
    cases k with
    | zero =>
      simp at h
      subst h
      rw [fcsL, List.getElem?_append_left (by rw [Fr.cl_len]; omega)]
      simpa using hj
    | succ k =>
      rw [fcsL, List.getElem?_append_right (by rw [Fr.cl_len]; omega), Fr.cl_len, show (k + 1) * 12 + j - 12 = k * 12 + j by omega]
      exact ih k f (by simpa using h) j u hj
/-- One cell of one frame changed. -/
theorem fcsL_set (l : List Fr) : ∀ (k : Nat) (F F' : Fr), l[k]? = some F → ∀ (j : Nat) (u : Value), j < 12 → F.cl.set j u = F'.cl → (fcsL l).set (k * 12 + j) u = fcsL (l.set k F') := by
  induction l with
  | nil => intro k F F' h; simp at h
  | cons g l ih =>
    intro k F F' h j u hj hs
    cases k with
    | zero =>
      simp at h
      subst h
      rw [fcsL, List.set_append_left _ _ (by rw [Fr.cl_len]; omega)]
      simp only [Nat.zero_mul, Nat.zero_add, hs]
      rfl
    | succ k =>
      rw [fcsL, List.set_append_right _ _ (by rw [Fr.cl_len]; omega), Fr.cl_len, show (k + 1) * 12 + j - 12 = k * 12 + j by omega, ih k F F' (by simpa using h) j u hj hs]
      rfl

/-- The slice (A, n, c) reads as the list l of frames. -/
structure QL (w : World) (A : Option Addr) (n c : Nat) (l : List Fr) : Prop where
  len : l.length = n
  le : n ≤ c
  at_ : ∀ k F, l[k]? = some F → ∃ b, A = some ⟨b, 0, none⟩ ∧ b < w.heap.size ∧ w.rangeAt b (k * 12) F.cl
section
variable {w w' : World} {A : Option Addr} {n c : Nat} {l : List Fr}
theorem range_keep {b o : Nat} {xs : List Value} (h : w.rangeAt b o xs) (hb : b < w.heap.size) (hk : Below w.heap.size w w') : w'.rangeAt b o xs := fun j v hv => (hk.cell (p := ⟨b, o + j, none⟩) hb).trans (h j v hv)
theorem QL.keep (h : QL w A n c l) (hb : Below w.heap.size w w') : QL w' A n c l :=
  ⟨h.len, h.le, fun k F hF => by
    obtain ⟨b, rfl, hlt, hr⟩ := h.at_ k F hF
    exact ⟨b, rfl, Nat.lt_of_lt_of_le hlt hb.size, range_keep hr hlt hb⟩⟩
theorem QL.drew (h : QL w A n c l) : QL w.drew A n c l := h.keep (Below.refl _ _).drew
theorem QL.alloc (h : QL w A n c l) (o : Obj) : QL (w.alloc o) A n c l := h.keep ((Below.refl _ _).alloc (Nat.le_refl _) o)
theorem QL.none_ (w : World) : QL w none 0 0 [] := ⟨rfl, Nat.le_refl _, fun k f h => by simp at h⟩
/-- A round's frame. -/
theorem QL.round (h : QL w A n c l) {k : Nat} (hk : k < n) : ∃ F b, l[k]? = some F ∧ A = some ⟨b, 0, none⟩ ∧ b < w.heap.size ∧ w.rangeAt b (k * 12) F.cl := by
  have hkl : k < l.length := by rw [h.len]; exact hk
  obtain ⟨b, e, hlt, hr⟩ := h.at_ k _ (List.getElem?_eq_getElem hkl)
  exact ⟨_, b, List.getElem?_eq_getElem hkl, e, hlt, hr⟩
/-- A row that the call made reads so. -/
theorem QL.of_own {B : Nat} {e : TypeId} (h : w.ownsRow B e 12 (.slice A n c) n (fcsL l)) : QL w A n c l := by
  have hl : l.length = n := by have := h.1; rw [fcsL_len] at this; omega
  rcases h.2 with ⟨he, h0⟩ | ⟨g, cap, cur, he, _, hg, hnc, hm, hsz, ht⟩
  · injection he with e1 e2 e3
    subst e1 e2 e3
    have : l = [] := List.eq_nil_of_length_eq_zero hl
    subst this
    exact QL.none_ w
  · injection he with e1 e2 e3
    subst e1 e3
    refine ⟨hl, hnc, fun k F hF => ⟨g, rfl, (Array.getElem?_eq_some_iff.1 hg).1, fun j u hu => ?_⟩⟩
    have hc := h.cells (g := g) rfl
    simp only [Addr.add_lit, Nat.zero_add] at hc
    have := hc _ _ (fcsL_get l k F hF j u hu)
    simpa using this
end
theorem own_ql {w : World} {B : Nat} {e : TypeId} {v : Value} {n : Nat} {l : List Fr} (h : w.ownsRow B e 12 v n (fcsL l)) : ∃ A c, v = .slice A n c ∧ QL w A n c l := by
  have key : ∃ A c, v = .slice A n c := by
    rcases h.2 with ⟨rfl, rfl⟩ | ⟨g, cap, cur, rfl, _⟩
    · exact ⟨none, 0, rfl⟩
    · exact ⟨_, cap, rfl⟩
  obtain ⟨A, c, rfl⟩ := key
  exact ⟨A, c, rfl, QL.of_own h⟩
/-- A row's form, where there is something. -/
theorem own_some {w : World} {B : Nat} {e : TypeId} {s : Nat} {v : Value} {n : Nat} {xs : List Value} (h : w.ownsRow B e s v n xs) (hn : 0 < n) : ∃ g c, v = .slice (some ⟨g, 0, none⟩) n c ∧ B ≤ g ∧ g < w.heap.size := by
  rcases h.2 with ⟨rfl, h0⟩ | ⟨g, cap, cur, rfl, hB, hg, _⟩
  · omega
  · exact ⟨g, cap, rfl, hB, (Array.getElem?_eq_some_iff.1 hg).1⟩
/-- A cell stored into a row of frames of the call's own. -/
theorem own_set12 {w : World} {B n c g : Nat} {e : TypeId} {l : List Fr} (h : w.ownsRow B e 12 (.slice (some ⟨g, 0, none⟩) n c) n (fcsL l)) (k : Nat) (F F' : Fr) (hF : l[k]? = some F) (j : Nat) (hj : j < 12) (u : Value) (hs : F.cl.set j u = F'.cl) :
    (w.setCell ⟨g, k * 12 + j, none⟩ u).ownsRow B e 12 (.slice (some ⟨g, 0, none⟩) n c) n (fcsL (l.set k F')) := by
  have hl : l.length = n := by have := h.1; rw [fcsL_len] at this; omega
  refine ⟨by rw [fcsL_len, List.length_set, hl], ?_⟩
  rcases h.2 with ⟨he, _⟩ | ⟨g', cap, cur, he, hb, hg, hn, hm, hs', ht⟩
  · cases he
  · injection he with e1 e2 e3
    injection e1 with e1
    injection e1 with e1
    subst e1 e3
    refine .inr ⟨g, c, cur.setIfInBounds (k * 12 + j) u, rfl, hb, BlkIs.put (show BlkIs w g e cur from hg) (k * 12 + j) u, hn, hm, by simpa using hs', ?_⟩
    rw [← fcsL_set l k F F' hF j u hj hs, Array.toList_setIfInBounds, ← ht, List.take_set]
theorem own_frozen12 {w : World} {B n c g s : Nat} {e : TypeId} {xs : List Value} (h : w.ownsRow B e s (.slice (some ⟨g, 0, none⟩) n c) n xs) (i : Nat) : w.frozen? ⟨g, i, none⟩ = false := by
  rcases h.2 with ⟨he, _⟩ | ⟨g', cap, cur, he, hb, hg, _⟩
  · cases he
  · injection he with e1 e2 e3
    injection e1 with e1
    injection e1 with e1
    subst e1
    exact BlkIs.frozen (show BlkIs w g e cur from hg) i
theorem own_cell12 {w : World} {B n c g : Nat} {e : TypeId} {l : List Fr} (h : w.ownsRow B e 12 (.slice (some ⟨g, 0, none⟩) n c) n (fcsL l)) (k : Nat) (F : Fr) (hF : l[k]? = some F) (j : Nat) (u : Value) (hu : F.cl[j]? = some u) : w.cell? ⟨g, k * 12 + j, none⟩ = some u := by
  have hc := h.cells (g := g) rfl
  simp only [Addr.add_lit, Nat.zero_add] at hc
  exact hc _ _ (fcsL_get l k F hF j u hu)
theorem fw_info : (Try.prog.info? 34).map (fun i => (i.zero, i.size, i.bytes)) = some (some (.agg (Fr.zero.cs none 0 0)), 12, 96) := by kernel_rfl
theorem fr_info : (Try.prog.info? 27).map (fun i => (i.zero, i.size, i.bytes)) = some (some (.agg (Fr.zero.cs none 0 0)), 12, 96) := by kernel_rfl
end Go.Proofs.Ytighhdgaaelcdaa
