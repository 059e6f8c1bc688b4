/-
  Texts as lists of bytes.
-/
import Derived.Test.YtfcokhdkjoimmaaBytes2
import Derived.Laws.Strings2
import Derived.WideShapes
import Derived.ChangeKeysEq
namespace Go.Proofs.Ytfcokhdkjoimmaa
set_option linter.unusedSimpArgs false
set_option linter.unusedVariables false
open Go.RowKit

/-- A text's bytes. -/
def bts (s : ByteArray) : List Int := s.data.toList.map (fun c => (c.toNat : Int))
theorem bts_len (s : ByteArray) : (bts s).length = s.size := by
  simp [bts]
theorem bts_all (s : ByteArray) : AllB (bts s) := by
  intro x hx
  obtain ⟨c, _, rfl⟩ := List.mem_map.1 hx
  have := c.toNat_lt
  omega
theorem bts_get (s : ByteArray) (k : Nat) (h : k < s.size) : (bts s).getD k 0 = (s[k].toNat : Int) := by
  have hk : k < s.data.toList.length := by simpa using h
  simp only [bts, List.getD, List.getElem?_map, List.getElem?_eq_getElem hk, Option.map_some, Option.getD_some]
  rfl
theorem bts_mk (l : List UInt8) : bts ⟨l.toArray⟩ = l.map (fun c => (c.toNat : Int)) := by simp [bts]
theorem ba_mk (s : ByteArray) : ∃ l : List UInt8, s = ⟨l.toArray⟩ := ⟨s.data.toList, by simp⟩
theorem bts_extract (s : ByteArray) (a b : Nat) : bts (s.extract a b) = ((bts s).drop a).take (b - a) := by
  obtain ⟨l, rfl⟩ := ba_mk s
  rw [Go.ByteArray.extract_mk, bts_mk, bts_mk, List.map_take, List.map_drop]
theorem str_bts (s : ByteArray) : strOfNums (bts s) = s := by
  obtain ⟨l, rfl⟩ := ba_mk s
  rw [bts_mk]
  unfold strOfNums
  congr 1
  simp [List.map_map, Function.comp_def]
theorem bts_str (xs : List Int) (h : AllB xs) : bts (strOfNums xs) = xs := by
  unfold strOfNums
  rw [bts_mk, List.map_map]
  induction xs with
  | nil => rfl
  | cons x xs ih =>
    have hx := h x (by simp)
    rw [List.map_cons, ih (fun y hy => h y (by simp [hy]))]
    congr 1
    simp only [Function.comp_def, UInt8.toNat_ofNat']
    omega
theorem bts_inj {s t : ByteArray} (h : bts s = bts t) : s = t := by rw [← str_bts s, ← str_bts t, h]
theorem bts_nil : bts ⟨#[]⟩ = [] := rfl
theorem bts_drop (s : ByteArray) (a : Nat) : bts (s.extract a s.size) = (bts s).drop a := by
  rw [bts_extract, List.take_of_length_le (by rw [List.length_drop, bts_len]; omega)]
theorem ba_empty {s : ByteArray} (h : s.size = 0) : s = ⟨#[]⟩ := by
  apply bts_inj
  have := bts_len s
  rw [bts_nil]
  exact List.eq_nil_of_length_eq_zero (by omega)
theorem is_empty (s : ByteArray) : s.toList.isEmpty = decide (s.size = 0) := by
  rw [ByteArray.toList_eq]
  obtain ⟨l, rfl⟩ := ba_mk s
  cases l with
  | nil => rfl
  | cons a l => simp [ByteArray.size]
theorem str_eq (a b : ByteArray) : (a.toList == b.toList) = decide (a = b) := by
  by_cases h : a = b
  · subst h; simp
  · rw [decide_eq_false h, beq_eq_false_iff_ne]
    intro e
    rw [ByteArray.toList_eq, ByteArray.toList_eq] at e
    exact h (Go.WideShapes.bytes_inj e)
end Go.Proofs.Ytfcokhdkjoimmaa
