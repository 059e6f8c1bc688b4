/-
  OutqOrder: what goes out is what came: the queue all along.
-/
import Derived.Test.YtfcokhdkjoimmaaOutqCutMath
namespace Go.Proofs.Ytfcokhdkjoimmaa
set_option linter.unusedSimpArgs false
set_option linter.unusedVariables false
open Go.RowKit

theorem bts_app (a b : ByteArray) : bts (a ++ b) = bts a ++ bts b := by
  have h : a ++ b = strOfNums (bts a ++ bts b) := by rw [str_app, str_bts, str_bts]
  rw [h, bts_str]
  intro x hx
  rcases List.mem_append.1 hx with hx | hx
  · exact bts_all a x hx
  · exact bts_all b x hx
/-- After i texts: q waits, C came, W went. -/
structure Ord (q : Qu) (C W : ByteArray) (i : Nat) : Prop where
  ok : OkQ q
  all : bts C = bts W ++ flat q.ps
  gone : q.g = (W.size : Int)
  few : q.ps.length ≤ i
  sum : C.size ≤ 200 * i
theorem Ord.start : Ord ⟨[], 0, 0⟩ ⟨#[]⟩ ⟨#[]⟩ 0 :=
  ⟨(chk_ok _).1 (by rfl), by rfl, by rfl, by simp, by simp [ByteArray.size]⟩
section
variable {q : Qu} {C W : ByteArray} {i : Nat}
theorem Ord.size (h : Ord q C W i) : C.size = W.size + lenL q.ps := by
  have h1 := congrArg List.length h.all
  rw [List.length_append, bts_len, bts_len, flat_len] at h1
  exact h1
theorem Ord.skip (h : Ord q C W i) : Ord q C W (i + 1) := ⟨h.ok, h.all, h.gone, by have := h.few; omega, by have := h.sum; omega⟩
theorem Ord.chk (h : Ord q C W i) : chkQ q = 0 := (chk_ok q).2 h.ok
theorem Ord.room (h : Ord q C W i) : roomQ q = 65536 - (lenL q.ps : Int) := by unfold roomQ; rw [if_pos h.chk]
theorem Ord.front (h : Ord q C W i) : C.extract 0 W.size = W := by
  apply bts_inj
  rw [bts_extract, List.drop_zero, Nat.sub_zero, h.all, ← bts_len, List.take_left]
theorem Ord.few2 (h : Ord q C W i) (hi : i ≤ 60) : q.ps.length ≤ 10000 ∧ lenL q.ps ≤ 100000000 := by
  have h1 := h.few; have h2 := h.size; have h3 := h.sum
  exact ⟨by omega, by omega⟩
theorem Ord.push (h : Ord q C W i) (hi : i < 60) {s : ByteArray} (h0 : s.size ≠ 0) (h2 : s.size ≤ 200) : pushE q (bts s) = 0 ∧ Ord (pushQ q (bts s)) (C ++ s) W (i + 1) := by
  have h3 := h.size
  have h4 := h.sum
  have hf : fitsQ q (bts s).length = true := by
    rw [bts_len]
    unfold fitsQ
    have h5 := h.ok.sum
    have h6 := h.gone
    rw [decide_eq_true (by omega), decide_eq_true (by omega)]
    rfl
  have hne : bts s ≠ [] := fun e => h0 (by rw [← bts_len, e]; rfl)
  have hp : pushQ q (bts s) = ⟨q.ps ++ [s], q.m + (s.size : Int), q.g⟩ := by
    unfold pushQ
    rw [if_pos ⟨h.chk, hf, hne⟩, str_bts, bts_len]
  refine ⟨by unfold pushE; rw [if_pos h.chk, if_pos hf], push_ok h.ok _ (bts_all s), ?_, ?_, ?_, ?_⟩
  · rw [hp, bts_app, h.all, List.append_assoc]
    show _ = bts W ++ flat (q.ps ++ [s])
    rw [flat_app, flat_one]
  · rw [hp]; exact h.gone
  · rw [hp]
    have := h.few
    show (q.ps ++ [s]).length ≤ _
    simp; omega
  · rw [← bts_len, bts_app, List.length_append, bts_len, bts_len]; omega
theorem Ord.drain (h : Ord q C W i) (x : Int) : Ord (drainQ q x) C (W ++ strOfNums (drainB q x)) (i + 1) := by
  have hb : bts (strOfNums (drainB q x)) = drainB q x := bts_str _ fun z hz => flat_all q.ps z (List.mem_of_mem_take hz)
  have hd := drain_is h.ok x
  refine ⟨drain_ok h.ok x, ?_, ?_, ?_, by have := h.sum; omega⟩
  · rw [bts_app, hb, List.append_assoc, h.all, hd]
    show _ = bts W ++ (drainB q x ++ flat (dropP _ _))
    rw [dropP_flat]
    unfold drainB
    rw [List.take_append_drop]
  · rw [hd]
    show q.g + _ = _
    rw [← bts_len, bts_app, hb, List.length_append, bts_len, drainB_len, h.gone]
    omega
  · rw [hd]
    have h1 := dropP_count (goesN q x) q.ps
    have h2 := h.few
    show (dropP _ _).length ≤ _
    omega
theorem Ord.went (h : Ord q C W i) {x : Int} (hx : 0 ≤ x) : ((drainB q x).length : Int) = min x (lenL q.ps : Int) := by
  rw [drainB_len, goes_ok h.ok]
  omega
theorem Ord.end_ (h : Ord q C W i) (hi : i ≤ 60) : W ++ strOfNums (drainB q 65536) = C := by
  apply bts_inj
  have h1 := h.size
  have h2 := h.sum
  have hb : bts (strOfNums (drainB q 65536)) = drainB q 65536 := bts_str _ fun z hz => flat_all q.ps z (List.mem_of_mem_take hz)
  rw [bts_app, hb, h.all]
  congr 1
  unfold drainB
  rw [goes_ok h.ok, List.take_of_length_le]
  rw [flat_len]; omega
end
end Go.Proofs.Ytfcokhdkjoimmaa
