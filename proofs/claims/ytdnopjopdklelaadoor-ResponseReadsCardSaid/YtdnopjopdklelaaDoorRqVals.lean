/-
  Layer 17: all values of a name.
-/
import Derived.Test.YtdnopjopdklelaaDoorRqList
namespace Go.Proofs.YtdnopjopdklelaaDoor
set_option linter.unusedSimpArgs false
set_option linter.unusedVariables false
open Go.RowKit

theorem vals_app (nm : ByteArray) (a b : List Fd) : vals nm (a ++ b) = vals nm a ++ vals nm b := by unfold vals; rw [List.filter_append, List.map_append]
theorem vals_one_yes {nm : ByteArray} {f : Fd} (h : f.n = nm) : vals nm [f] = [f.v] := by
  unfold vals
  rw [List.filter_cons_of_pos (by unfold isN; rw [decide_eq_true h])]
  rfl
theorem vals_one_no {nm : ByteArray} {f : Fd} (h : f.n ≠ nm) : vals nm [f] = [] := by
  unfold vals
  rw [List.filter_cons_of_neg (by unfold isN; rw [decide_eq_false h]; simp)]
  rfl
theorem take_split {l : List Fd} {i : Nat} {f : Fd} (h : l[i]? = some f) : l = l.take i ++ ([f] ++ l.drop (i + 1)) := by
  have hi : i < l.length := (List.getElem?_eq_some_iff.1 h).1
  have hg : l[i] = f := by rw [List.getElem?_eq_getElem hi] at h; exact Option.some.inj h
  conv => lhs; rw [← List.take_append_drop i l, List.drop_eq_getElem_cons hi, hg]
  rfl

theorem vals_succ {nm : ByteArray} {l : List Fd} {i : Nat} {f : Fd} (hf : l[i]? = some f) : vals nm (l.take (i + 1)) = vals nm (l.take i) ++ (if f.n = nm then [f.v] else []) := by
  unfold vals
  rw [List.take_add_one, hf, Option.toList_some, List.filter_append, List.map_append]
  congr 1
  by_cases h : f.n = nm
  · have : isN nm f = true := decide_eq_true h
    simp [h, this]
  · have : isN nm f = false := decide_eq_false h
    simp [h, this]
theorem vals_le (nm : ByteArray) (l : List Fd) : (vals nm l).length ≤ l.length := by
  unfold vals
  rw [List.length_map]
  exact List.length_filter_le _ _


theorem vals_none {nm : ByteArray} {l : List Fd} (h : ∀ f ∈ l, f.n ≠ nm) : vals nm l = [] := by
  unfold vals
  rw [List.filter_eq_nil_iff.2 (fun f hf => by unfold isN; simp [h f hf])]
  rfl
end Go.Proofs.YtdnopjopdklelaaDoor
