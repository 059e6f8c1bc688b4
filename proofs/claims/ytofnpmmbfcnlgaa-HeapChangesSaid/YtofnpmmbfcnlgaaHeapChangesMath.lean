/-
  HeapChanges: what is left, put in, and changed, in order.
-/
import Derived.Test.YtofnpmmbfcnlgaaHpN
namespace Go.Proofs.Ytofnpmmbfcnlgaa
set_option linter.unusedSimpArgs false
set_option linter.unusedVariables false
open Go.RowKit

theorem split_at {l : List It} {i : Nat} (hi : i < l.length) : l = l.take i ++ gt l i :: l.drop (i + 1) := by
  have h1 := List.take_append_drop i l
  have h2 := List.drop_eq_getElem_cons hi
  rw [gt_lt hi] at h2
  rw [← h2, h1]
theorem wo_perm {l : List It} {i : Nat} (hi : i < l.length) : (gt l i :: woL l i).Perm l := by
  have h : (l.take i ++ gt l i :: l.drop (i + 1)).Perm (gt l i :: woL l i) := List.perm_middle
  rw [← split_at hi] at h
  exact h.symm
theorem set_perm {l : List It} {i : Nat} (hi : i < l.length) (y : It) : (l.set i y).Perm (woL l i ++ [y]) := by
  rw [List.set_eq_take_append_cons_drop, if_pos hi]
  exact List.perm_middle.trans (List.perm_append_singleton _ _).symm
/-- Drop: what is left. -/
theorem drop_same {l : List It} {i : Nat} (hi : i < l.length) : sortR (takeL l i) = sortR (woL l i) := by
  have h : (gt l i :: takeL l i).Perm (gt l i :: woL l i) := (take_perm hi).trans (wo_perm hi).symm
  exact sortR_one (List.Perm.cons_inv h)
/-- Fix: one is another one. -/
theorem fix_same {l : List It} {i : Nat} (hi : i < l.length) (k d : Int) (hd : (gt l i).d = d) : sortR (fixL l i k) = withL (woL l i) ⟨k, d⟩ := by
  subst hd
  exact sortR_one ((fix_perm hi k).trans (set_perm hi _))
theorem push_same (l : List It) (x : It) : sortR (pushL l x) = withL l x := sortR_one (push_perm l x)
theorem of_same (l : List It) : sortR (ofL l) = sortR l := sortR_one (of_perm l)
/-- Pop: the first in order, and the others. -/
theorem pop_same {l : List It} (h : 0 < l.length) : (sortR l)[0]? = some (gt (ofL l) 0) ∧ sortR (takeL (ofL l) 0) = (sortR l).drop 1 := by
  have e := sortR_hp (of_ok l) (by rw [of_len]; exact h)
  rw [of_same] at e
  rw [e]
  exact ⟨rfl, rfl⟩
theorem m_Pop0 (A : Option Addr) (n c : Nat) (l : List It) (w : World) (hl : IL w A n c l) (hn : (n : Int) ≤ 200) (h0 : n = 0) : Calls Try.prog 18 #[.slice A n c] w (GivesPopN 0 [] ⟨0, 0⟩ false w) := (hp_Pop A n c l w hl (by have := hn; omega)).mono fun e w' k => gives_pop (by rw [popR, if_pos (by rw [hl.len]; exact h0)]) rfl k
theorem m_Pop (A : Option Addr) (n c : Nat) (l : List It) (w : World) (hl : IL w A n c l) (hn : (n : Int) ≤ 200) (h0 : 0 < n) : Calls Try.prog 18 #[.slice A n c] w (GivesPopN (n - 1) (takeL (ofL l) 0) (gt (ofL l) 0) true w) := (hp_Pop A n c l w hl (by omega)).mono fun e w' k => gives_pop (by rw [popR, if_neg (by rw [hl.len]; omega)]) (by rw [take_len, of_len, hl.len]) k
theorem m_Fix0 (A : Option Addr) (n c : Nat) (l : List It) (w : World) (hl : IL w A n c l) (hn : (n : Int) ≤ 200) (id key : Int) (hf : fstI (ofL l) id = -1) : Calls Try.prog 19 #[.slice A n c, .int .i64 id, .int .i64 key] w (GivesBN n (ofL l) false w) := (hp_Fix A n c l id key w hl (by omega)).mono fun e w' k => gives_b (by rw [fixR, if_pos (by rw [hf]; omega)]) (by rw [of_len, hl.len]) k
theorem m_Fix (A : Option Addr) (n c : Nat) (l : List It) (w : World) (hl : IL w A n c l) (hn : (n : Int) ≤ 200) (id key : Int) (i : Nat) (hf : fstI (ofL l) id = (i : Int)) (hp : plc (ofL l) id = i) : Calls Try.prog 19 #[.slice A n c, .int .i64 id, .int .i64 key] w (GivesBN n (fixL (ofL l) i key) true w) := (hp_Fix A n c l id key w hl (by omega)).mono fun e w' k => gives_b (by rw [fixR, if_neg (by rw [hf]; omega), hp]) (by rw [fix_len, of_len, hl.len]) k
theorem m_Drop0 (A : Option Addr) (n c : Nat) (l : List It) (w : World) (hl : IL w A n c l) (hn : (n : Int) ≤ 200) (id : Int) (hf : fstI (ofL l) id = -1) : Calls Try.prog 20 #[.slice A n c, .int .i64 id] w (GivesBN n (ofL l) false w) := (hp_Drop A n c l id w hl (by omega)).mono fun e w' k => gives_b (by rw [dropR, if_pos (by rw [hf]; omega)]) (by rw [of_len, hl.len]) k
theorem m_Drop (A : Option Addr) (n c : Nat) (l : List It) (w : World) (hl : IL w A n c l) (hn : (n : Int) ≤ 200) (id : Int) (i : Nat) (hf : fstI (ofL l) id = (i : Int)) (hp : plc (ofL l) id = i) : Calls Try.prog 20 #[.slice A n c, .int .i64 id] w (GivesBN (n - 1) (takeL (ofL l) i) true w) := (hp_Drop A n c l id w hl (by omega)).mono fun e w' k => gives_b (by rw [dropR, if_neg (by rw [hf]; omega), hp]) (by rw [take_len, of_len, hl.len]) k
theorem m_Check10 (A : Option Addr) (n c : Nat) (l : List It) (w : World) (hl : IL w A n c l) (hn : (n : Int) ≤ 200) (h : ¬ Hp l) : Calls Try.prog 14 #[.slice A n c] w fun e w' => e = .returned (.int .i64 10) ∧ Below w.heap.size w w' := (rh_Check A n c l w hl (by omega)).mono fun e w' k => ⟨by rw [k.1, chkL, if_neg (fun q => h (hpB_yes.1 q))], k.2⟩
theorem m_Check0 (A : Option Addr) (n c : Nat) (l : List It) (w : World) (hl : IL w A n c l) (hn : (n : Int) ≤ 200) (h : Hp l) : Calls Try.prog 14 #[.slice A n c] w fun e w' => e = .returned (.int .i64 0) ∧ Below w.heap.size w w' := (rh_Check A n c l w hl (by omega)).mono fun e w' k => ⟨by rw [k.1, chk_hp h], k.2⟩
theorem m_First (A : Option Addr) (n c : Nat) (l : List It) (w : World) (hl : IL w A n c l) (hn : (n : Int) ≤ 200) (id r : Int) (h : fstI l id = r) : Calls Try.prog 22 #[.slice A n c, .int .i64 id] w fun e w' => e = .returned (.int .i64 r) ∧ w = w' := (rh_First A n c l id w hl (by omega)).mono fun e w' k => ⟨by rw [k.1, h], k.2⟩
end Go.Proofs.Ytofnpmmbfcnlgaa
