/-
  Layer 24: items stored into a row of the call's own.
-/
import Derived.Test.YtofnpmmbfcnlgaaHpMem
import Derived.Laws.IdiomCopy
import Derived.Laws.Rows
namespace Go.Proofs.Ytofnpmmbfcnlgaa
set_option linter.unusedSimpArgs false
set_option linter.unusedVariables false
open Go.RowKit

theorem ics_set (l : List It) : ∀ (i : Nat) (x : It), i < l.length → ics (l.set i x) = ((ics l).set (i * 2) (.int .i64 x.k)).set (i * 2 + 1) (.int .i64 x.d) := by
  induction l with
  | nil => intro i x h; simp at h
  | cons y l ih =>
    intro i x h
    cases i with
    | zero => rfl
    | succ i =>
      simp only [List.set_cons_succ, ics, show (i + 1) * 2 = i * 2 + 1 + 1 by omega]
      rw [ih i x (by simpa using h)]
theorem own_lt2 {w : World} {B n c g s : Nat} {e : TypeId} {xs : List Value} (h : w.ownsRow B e s (.slice (some ⟨g, 0, none⟩) n c) n xs) : B ≤ g ∧ g < w.heap.size := h.lt g rfl
theorem own_set2 {w : World} {B n c g s : Nat} {e : TypeId} {xs : List Value} (h : w.ownsRow B e s (.slice (some ⟨g, 0, none⟩) n c) n xs) (i : Nat) (hi : i < n * s) (u : Value) :
    (w.setCell ⟨g, i, none⟩ u).ownsRow B e s (.slice (some ⟨g, 0, none⟩) n c) n (xs.set i u) := by
  refine ⟨by rw [List.length_set]; exact h.1, ?_⟩
  rcases h.2 with ⟨he, _⟩ | ⟨g', cap, cur, he, hb, hg, hn, hm, hs, ht⟩
  · cases he
  · injection he with e1 e2 e3
    injection e1 with e1
    injection e1 with e1
    subst e1 e3
    refine .inr ⟨g, c, cur.setIfInBounds i u, rfl, hb, BlkIs.put (show BlkIs w g e cur from hg) i u, hn, hm, by simpa using hs, ?_⟩
    rw [Array.toList_setIfInBounds, ← ht, List.take_set]
theorem own_frozen2 {w : World} {B n c g s : Nat} {e : TypeId} {xs : List Value} (h : w.ownsRow B e s (.slice (some ⟨g, 0, none⟩) n c) n xs) (i : Nat) : w.frozen? ⟨g, i, none⟩ = false := by
  rcases h.2 with ⟨he, _⟩ | ⟨g', cap, cur, he, hb, hg, _⟩
  · cases he
  · injection he with e1 e2 e3
    injection e1 with e1
    injection e1 with e1
    subst e1
    exact BlkIs.frozen (show BlkIs w g e cur from hg) i
/-- One item is stored. -/
theorem own_item {w : World} {B n c g : Nat} {e : TypeId} {l : List It} (h : w.ownsRow B e 2 (.slice (some ⟨g, 0, none⟩) n c) n (ics l)) (i : Nat) (hi : i < n) (x : It) :
    ((w.setCell ⟨g, i * 2, none⟩ (.int .i64 x.k)).setCell ⟨g, i * 2 + 1, none⟩ (.int .i64 x.d)).ownsRow B e 2 (.slice (some ⟨g, 0, none⟩) n c) n (ics (l.set i x)) := by
  have hl : l.length = n := by have := h.1; rw [ics_len] at this; omega
  rw [ics_set l i x (by omega)]
  exact own_set2 (own_set2 h (i * 2) (by omega) _) (i * 2 + 1) (by omega) _
/-- Two items change their places. -/
theorem own_swap {w : World} {B n c g : Nat} {e : TypeId} {l : List It} (h : w.ownsRow B e 2 (.slice (some ⟨g, 0, none⟩) n c) n (ics l)) (i j : Nat) (hi : i < n) (hj : j < n) {x y : It} (hx : gt l i = x) (hy : gt l j = y) :
    ((((w.setCell ⟨g, i * 2, none⟩ (.int .i64 y.k)).setCell ⟨g, i * 2 + 1, none⟩ (.int .i64 y.d)).setCell ⟨g, j * 2, none⟩ (.int .i64 x.k)).setCell ⟨g, j * 2 + 1, none⟩ (.int .i64 x.d)).ownsRow B e 2 (.slice (some ⟨g, 0, none⟩) n c) n (ics (swp l i j)) := by
  unfold swp
  rw [hx, hy]
  exact own_item (own_item h i hi y) j hj x
theorem kb_item {w w' : World} {g : Nat} (h : KB (· = g) w w') (i j : Nat) (u v : Value) : KB (· = g) w ((w'.setCell ⟨g, i, none⟩ u).setCell ⟨g, j, none⟩ v) :=
  (h.setCell (p := ⟨g, i, none⟩) (fun _ => rfl) u).setCell (p := ⟨g, j, none⟩) (fun _ => rfl) v
/-- The row is cut short. -/
theorem own_cut2 {w : World} {B n c g i : Nat} {e : TypeId} {l : List It} (h : w.ownsRow B e 2 (.slice (some ⟨g, 0, none⟩) n c) n (ics l)) (hi : i ≤ n) : w.ownsRow B e 2 (.slice (some ⟨g, 0, none⟩) i c) i (ics (l.take i)) := by
  have hl : l.length = n := by have := h.1; rw [ics_len] at this; omega
  refine ⟨by rw [ics_len, List.length_take]; omega, ?_⟩
  rcases h.2 with ⟨he, _⟩ | ⟨g', cap, cur, he, hb, hg, hn, hm, hs, ht⟩
  · cases he
  · injection he with e1 e2 e3
    injection e1 with e1
    injection e1 with e1
    subst e1 e3
    refine .inr ⟨g, c, cur, rfl, hb, hg, by omega, hm, hs, ?_⟩
    have h1 : ics l = ics (l.take i) ++ ics (l.drop i) := by rw [← ics_append, List.take_append_drop]
    have h2 : cur.toList.take (i * 2) = (cur.toList.take (n * 2)).take (i * 2) := by rw [List.take_take]; congr 1; omega
    rw [h2, ht, h1, List.take_append_of_le_length (by rw [ics_len, List.length_take]; omega), List.take_of_length_le (by rw [ics_len, List.length_take]; omega)]
/-- A row that is not empty lies in a block. -/
theorem own_some {w : World} {B n c s : Nat} {A : Option Addr} {e : TypeId} {xs : List Value} (h : w.ownsRow B e s (.slice A n c) n xs) (h0 : 0 < n) : ∃ g, A = some ⟨g, 0, none⟩ := by
  rcases h.2 with ⟨_, h1⟩ | ⟨g, cap, cur, he, _⟩
  · omega
  · injection he with e1
    exact ⟨g, e1⟩
/-- A row of the call's own, behind what makes memory and writes the row alone. -/
theorem own_ils {w : World} {B n c : Nat} {A : Option Addr} {e : TypeId} {l : List It} (h : w.ownsRow B e 2 (.slice A n c) n (ics l)) : IL w A n c l := IL.of_own h
theorem own_len {w : World} {B n : Nat} {v : Value} {e : TypeId} {l : List It} (h : w.ownsRow B e 2 v n (ics l)) : l.length = n := by
  have := h.1; rw [ics_len] at this; omega
theorem own_base {w : World} {B B' : Nat} {e : TypeId} {size n : Nat} {v : Value} {xs : List Value} (h : w.ownsRow B e size v n xs) (hB : B' ≤ B) : w.ownsRow B' e size v n xs := by
  refine ⟨h.1, ?_⟩
  rcases h.2 with h' | ⟨g, cap, cur, a, b, c⟩
  · exact .inl h'
  · exact .inr ⟨g, cap, cur, a, Nat.le_trans hB b, c⟩
theorem il_nothing {w : World} {A : Option Addr} {c : Nat} (hn : A = none → c = 0) (hm : c ≤ maxLen) : IL w A 0 c [] := ⟨rfl, Nat.zero_le _, hm, hn, fun k p h => by simp at h⟩
/-- l[:k], whatever the world. -/
theorem run_head {T E : TypeId} (hI : IsIt T E) (A : Option Addr) (n c k : Nat) (hk : k ≤ c) (w : World) : (Instr.slice T (.slice A n c) none (some (.int .i64 (k : Int))) none).run Try.prog w = .ok (.slice A k c) w := by
  rw [run_slice_h w T A n c (by rw [hI.el]; exact hI.sl) .i64 (k : Int) (by omega) (by omega), hI.el, run_size_is hI.size]
  simp only [sliced, Nat.zero_mul, Nat.sub_zero, Int.toNat_zero, Int.toNat_natCast]
  cases A with
  | none => simp
  | some a =>
    have ha : a.add 0 = a := by obtain ⟨b, off, sp⟩ := a; unfold Addr.add; cases sp <;> simp
    simp [ha]
theorem IL.take {w : World} {A : Option Addr} {n c : Nat} {l : List It} (h : IL w A n c l) {k : Nat} (hk : k ≤ n) : IL w A k c (l.take k) :=
  ⟨by rw [List.length_take, h.len]; omega, by have := h.le; omega, h.max, h.nil_, fun j p hp => by
    rw [List.getElem?_take] at hp
    split at hp
    · exact h.at_ j p hp
    · cases hp⟩
/-- l[k:]. -/
theorem il_tail {T E : TypeId} (hI : IsIt T E) {w : World} {A : Option Addr} {n c : Nat} {l : List It} (h : IL w A n c l) (k : Nat) (hk : k ≤ n) :
    ∃ Q c', (∀ w', (Instr.slice T (.slice A n c) (some (.int .i64 (k : Int))) none none).run Try.prog w' = .ok (.slice Q (n - k) c') w') ∧ IL w Q (n - k) c' (l.drop k) := by
  have hle := h.le
  have hmx := h.max
  have hr : ∀ w', (Instr.slice T (.slice A n c) (some (.int .i64 (k : Int))) none none).run Try.prog w' = .ok (sliced A k n c 2) w' := by
    intro w'
    rw [run_slice_l w' T A n c (by rw [hI.el]; exact hI.sl) .i64 (k : Int) (by omega) (by omega), hI.el, run_size_is hI.size]
    rfl
  by_cases he : n = k
  · subst he
    have hx : l.drop n = [] := List.drop_eq_nil_of_le (by rw [h.len]; exact Nat.le_refl _)
    rw [hx, Nat.sub_self]
    cases A with
    | none =>
      have := h.nil_ rfl
      subst this
      have : n = 0 := by omega
      subst this
      exact ⟨none, 0, fun w' => by rw [hr w']; rfl, IL.none_ _⟩
    | some a =>
      by_cases hcm : c = n
      · exact ⟨some a, 0, fun w' => by rw [hr w']; simp [sliced, hcm], il_nothing (fun e => by cases e) (Nat.zero_le _)⟩
      · exact ⟨some (a.add (n * 2)), c - n, fun w' => by rw [hr w']; simp [sliced, hcm], il_nothing (fun e => by cases e) (by omega)⟩
  · obtain ⟨b, off, rfl, _, _⟩ := h.at_ 0 (l[0]'(by rw [h.len]; omega)) (List.getElem?_eq_getElem _)
    have hcm : ¬ c = k := by omega
    refine ⟨some ⟨b, off + k * 2, none⟩, c - k, fun w' => by rw [hr w']; simp [sliced, hcm, Addr.add], ⟨by rw [List.length_drop, h.len], by omega, by omega, (fun e => by cases e), fun j p hp => ?_⟩⟩
    rw [List.getElem?_drop] at hp
    obtain ⟨b', off', e, hlt, q0, q1⟩ := h.at_ (k + j) p hp
    injection e with e
    injection e with e1 e2
    subst e1 e2
    refine ⟨b, off + k * 2, rfl, hlt, ?_, ?_⟩
    · rw [← q0]; congr 2; omega
    · rw [← q1]; congr 2; omega
theorem new2' (w : World) (ca : Array Value) (ta : TypeId) (cs : Array Value) (t : TypeId) : BlkIs ((w.alloc (.cells ca ta)).alloc (.cells cs t)) w.heap.size ta ca := (BlkIs.new w ta ca).alloc _
theorem it_facts {w : World} {g : Nat} {t : TypeId} {u v : Value} (h : BlkIs w g t #[u, v]) : w.cell? ⟨g, 0, none⟩ = some u ∧ w.cell? ⟨g, 1, none⟩ = some v ∧ w.frozen? ⟨g, 0, none⟩ = false ∧ w.frozen? ⟨g, 1, none⟩ = false :=
  ⟨by rw [h.cell]; rfl, by rw [h.cell]; rfl, h.frozen 0, h.frozen 1⟩
theorem kb_new2 {S : Nat → Prop} {a w : World} (h : KB S a w) {g : Nat} (hg : a.heap.size ≤ g) (i j : Nat) (u v : Value) : KB S a ((w.setCell ⟨g, i, none⟩ u).setCell ⟨g, j, none⟩ v) :=
  (h.setCell (p := ⟨g, i, none⟩) (fun hp => by simp only at hp; omega) u).setCell (p := ⟨g, j, none⟩) (fun hp => by simp only at hp; omega) v
theorem own_new2 {w : World} {B n c g x s : Nat} {e : TypeId} {xs : List Value} (h : w.ownsRow B e s (.slice (some ⟨g, 0, none⟩) n c) n xs) (hne : g ≠ x) (i j : Nat) (u v : Value) : ((w.setCell ⟨x, i, none⟩ u).setCell ⟨x, j, none⟩ v).ownsRow B e s (.slice (some ⟨g, 0, none⟩) n c) n xs :=
  own_kbx h (((KB.refl (· = x) w).setCell (p := ⟨x, i, none⟩) (fun _ => rfl) u).setCell (p := ⟨x, j, none⟩) (fun _ => rfl) v) (.inr (by simpa [Value.ownBlock] using hne))
theorem blk_put2 {w : World} {g : Nat} {t : TypeId} {a b : Value} (h : BlkIs w g t #[a, b]) (u v : Value) : BlkIs ((w.setCell ⟨g, 0, none⟩ u).setCell ⟨g, 1, none⟩ v) g t #[u, v] := (h.put 0 u).put 1 v
theorem it_size : (Try.prog.info? 38).map (·.size) = some 2 := by kernel_rfl
/-- A call that answers a new list of items. -/
def GivesIt (E : TypeId) (l : List It) (w : World) (e : Ending) (w' : World) : Prop := ∃ A c, e = .returned (.slice A l.length c) ∧ w'.ownsRow w.heap.size E 2 (.slice A l.length c) l.length (ics l) ∧ Below w.heap.size w w'
theorem il_nil {w : World} {n c : Nat} {l : List It} (h : IL w none n c l) : l = [] ∧ n = 0 ∧ c = 0 := by
  have h1 := h.nil_ rfl
  have h2 := h.le
  have h3 := h.len
  have : l.length = 0 := by omega
  exact ⟨List.eq_nil_of_length_eq_zero this, by omega, h1⟩
theorem kb_belowB {B g : Nat} {a w w' : World} (h : Below B a w) (hg : B ≤ g) (hk : KB (· = g) w w') (hB : B ≤ w.heap.size) : Below B a w' :=
  ⟨hk.os.trans h.os, hk.tape.trans h.tape, hk.output.trans h.output, Nat.le_trans h.size hk.size, fun i hi => (hk.block i (by omega) (by omega)).trans (h.block i hi)⟩
theorem il_new1 {w : World} {g : Nat} {t : TypeId} {x : It} (h : BlkIs w g t #[.int .i64 x.k, .int .i64 x.d]) : IL w (some ⟨g, 0, none⟩) 1 1 [x] := il_blk (l := [x]) h (by unfold maxLen; simp)
theorem it_two {w : World} {g : Nat} {t : TypeId} {u v : Value} (h : BlkIs w g t #[u, v]) : w.cell? ⟨g, 0, none⟩ = some u ∧ w.cell? ⟨g, 1, none⟩ = some v := ⟨(it_facts h).1, (it_facts h).2.1⟩
theorem own_ne5 {w : World} {B n g s : Nat} {e : TypeId} {v : Value} {xs : List Value} (h : w.ownsRow B e s v n xs) (hg : g < B) : some g ≠ v.ownBlock := fun he => by
  have := (h.lt g he.symm).1
  omega
/-- A call that answers a new list of N items. -/
def GivesN (E : TypeId) (N : Nat) (l : List It) (w : World) (e : Ending) (w' : World) : Prop := ∃ A c, e = .returned (.slice A N c) ∧ w'.ownsRow w.heap.size E 2 (.slice A N c) N (ics l) ∧ Below w.heap.size w w'
theorem gives_n {E : TypeId} {N : Nat} {l : List It} {w w' : World} {e : Ending} (h : l.length = N) (k : GivesIt E l w e w') : GivesN E N l w e w' := by subst h; exact k
theorem own_alloc2 {w : World} {B n s : Nat} {e : TypeId} {v : Value} {xs : List Value} (h : w.ownsRow B e s v n xs) (o : Obj) : (w.alloc o).ownsRow B e s v n xs := h.alloc o
end Go.Proofs.Ytofnpmmbfcnlgaa
