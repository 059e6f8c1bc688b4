/-
  BlockBack: what was parted is put together, as plain functions.
-/
import Derived.Test.YtighhdgaaelcdaaBkMath
import Derived.Test.YtighhdgaaelcdaaFrCheck
import Derived.Test.YtighhdgaaelcdaaBkMem
namespace Go.Proofs.Ytighhdgaaelcdaa
set_option linter.unusedSimpArgs false
set_option linter.unusedVariables false
open Go.RowKit

theorem str_app (xs ys : List Int) : strOfNums (xs ++ ys) = strOfNums xs ++ strOfNums ys := by
  apply ByteArray.ext
  simp [strOfNums]
theorem genC_at (s : Int) : ∀ (ps : List (List Int)) (ty fl : Int) (i : Nat) (p : List Int), ps[i]? = some p →
    (genC s ty fl ps)[i]? = some (mkF s (if i = 0 then ty else 9) ((if i = 0 then fl else 0) + (if i + 1 = ps.length then 4 else 0)) p)
  | [], _, _, i, p, h => by simp at h
  | [q], ty, fl, i, p, h => by
    cases i with
    | zero => simp at h; subst h; simp [genC]
    | succ i => simp at h
  | q :: r :: l, ty, fl, i, p, h => by
    cases i with
    | zero => simp at h; subst h; simp [genC]
    | succ i =>
      have ih := genC_at s (r :: l) 9 0 i p (by simpa using h)
      simp only [genC, List.getElem?_cons_succ, ih]
      simp
/-- A part's frame may be. -/
theorem part_chk (s ty fl : Int) (p : List Int) (hs : 1 ≤ s) (hs2 : s ≤ 2147483647) (hl : p.length ≤ 4096) (h : (ty = 1 ∧ (fl = 0 ∨ fl = 1 ∨ fl = 4 ∨ fl = 5)) ∨ (ty = 9 ∧ (fl = 0 ∨ fl = 4))) : (mkF s ty fl p).chk 0 = 0 := by
  have hsz : (strOfNums p).size = p.length := by simp [strOfNums, ByteArray.size]
  have hin : (mkF s ty fl p).inB = true := (inB_iff _).2 ⟨by simp only [mkF]; omega, by simp only [mkF]; omega, by simp [mkF], by simp [mkF], by simp [mkF], by simp [mkF], by simp [mkF], by simp [mkF], by simp [mkF], by simp [mkF]⟩
  have hfit : (mkF s ty fl p).fitB 0 = true := by
    rcases h with ⟨rfl, rfl | rfl | rfl | rfl⟩ | ⟨rfl, rfl | rfl⟩ <;> simp [mkF, Fr.fitB, fitV, shP, shD, shL, shC, shI, shR, shX]
  have hsiz : (mkF s ty fl p).siz 0 ≤ 16384 := by
    have e : (mkF s ty fl p).siz 0 = fixN (shD ty fl) (shL ty) (shC ty) (shI ty) + 6 * ((0 : Nat) : Int) + ((strOfNums p).size : Int) + 0 + (if shP ty fl then 1 else 0) := rfl
    have hb := fixN_bd (shD ty fl) (shL ty) (shC ty) (shI ty)
    have hp : (if shP ty fl then 1 else 0 : Int) ≤ 1 := by split <;> omega
    rw [e, hsz]
    omega
  have h6 : ¬ (mkF s ty fl p).ty = 6 := by
    show ¬ ty = 6
    omega
  rw [Fr.chk, if_neg (by simp [hin]), if_neg (by simp [hfit, h6]), if_neg (by omega)]

/-- The state behind i parts of N. -/
def stB (s : Int) (en : Bool) (ps : List (List Int)) (i : Nat) : Bk := if i = 0 ∨ i = ps.length then Bk.zero else ⟨s, strOfNums ((ps.take i).flatten), en⟩
theorem stB_zero (s : Int) (en : Bool) (ps : List (List Int)) : stB s en ps 0 = Bk.zero := by simp [stB]
theorem stB_end (s : Int) (en : Bool) (ps : List (List Int)) : stB s en ps ps.length = Bk.zero := by simp [stB]
theorem str_len (p : List Int) : (strOfNums p).size = p.length := by simp [strOfNums, ByteArray.size]
theorem take_flat_le (ps : List (List Int)) (i : Nat) : ((ps.take i).flatten).length ≤ ps.flatten.length := by
  conv => rhs; rw [← List.take_append_drop i ps]
  rw [List.flatten_append, List.length_append]
  omega
theorem stB_mid {s : Int} {en : Bool} {ps : List (List Int)} {i : Nat} (h0 : i ≠ 0) (h1 : i < ps.length) : stB s en ps i = ⟨s, strOfNums ((ps.take i).flatten), en⟩ := by
  rw [stB, if_neg (by omega)]
theorem stB_chk {s : Int} {en : Bool} {ps : List (List Int)} {i : Nat} (hs : 1 ≤ s) (hs2 : s ≤ 2147483647) (hl : ps.flatten.length ≤ 4096) : (stB s en ps i).chk = 0 := by
  unfold stB
  split
  · rfl
  · have := take_flat_le ps i
    rw [Bk.chk, if_neg (by simp only; omega), if_neg (by simp only; omega), if_neg (by simp only [str_len]; omega)]
/-- A frame between. -/
theorem step_data {s : Int} {en : Bool} {ps : List (List Int)} {i : Nat} (hs : 1 ≤ s) (hs2 : s ≤ 2147483647) (hl : ps.flatten.length ≤ 4096) (hi : i < ps.length) :
    onB (stB s en ps i) ⟨0, 0, s, ⟨#[]⟩, 0, 0, false, 0, 0, 0, 0⟩ = ⟨stB s en ps i, Bk.zero, false, if i = 0 then 0 else 1⟩ := by
  have hc := stB_chk (en := en) (i := i) hs hs2 hl
  rw [onB, if_neg (by simp [hc])]
  by_cases h0 : i = 0
  · subst h0
    rw [stB_zero, if_neg (by simp [Bk.zero]), if_neg (by simp), if_pos (by simp), if_pos rfl]
  · have hz : (stB s en ps i).s ≠ 0 := by rw [stB_mid h0 hi]; simp only; omega
    rw [if_pos ⟨hz, by simp⟩, if_neg h0]
theorem has_vals : hasB 0 1 = false ∧ hasB 1 1 = true ∧ hasB 4 1 = false ∧ hasB 5 1 = true ∧ hasB 0 4 = false ∧ hasB 1 4 = false ∧ hasB 4 4 = true ∧ hasB 5 4 = true := by decide +kernel
/-- The next part. -/
theorem step_on {s : Int} {en : Bool} {ps : List (List Int)} {i : Nat} {p : List Int} (hs : 1 ≤ s) (hs2 : s ≤ 2147483647) (hl : ps.flatten.length ≤ 4096) (hp : ps[i]? = some p) :
    onB (stB s en ps i) (mkF s (if i = 0 then 1 else 9) ((if i = 0 then (if en then 1 else 0) else 0) + (if i + 1 = ps.length then 4 else 0)) p) =
      ⟨stB s en ps (i + 1), if i + 1 = ps.length then ⟨s, strOfNums ps.flatten, en⟩ else Bk.zero, decide (i + 1 = ps.length), 0⟩ := by
  have hi : i < ps.length := (List.getElem?_eq_some_iff.1 hp).1
  have hc := stB_chk (en := en) (i := i) hs hs2 hl
  obtain ⟨v1, v2, v3, v4, v5, v6, v7, v8⟩ := has_vals
  have htk : (ps.take (i + 1)).flatten = (ps.take i).flatten ++ p := by rw [List.take_add_one, hp]; simp
  have hle := take_flat_le ps (i + 1)
  rw [htk, List.length_append] at hle
  have hall : i + 1 = ps.length → ps.flatten = (ps.take i).flatten ++ p := fun h => by rw [← htk, h, List.take_length]
  -- what there is behind the frame
  have hgrow : ∀ fl, (i = 0 → fl = (if en then 1 else 0) + (if i + 1 = ps.length then 4 else 0)) → Bk.grow (stB s en ps i) (mkF s (if i = 0 then 1 else 9) fl p) = ⟨s, strOfNums ((ps.take (i + 1)).flatten), en⟩ := by
    intro fl hfl
    rw [htk, str_app]
    by_cases h0 : i = 0
    · have hfl := hfl h0
      subst h0
      rw [stB_zero]
      simp only [Bk.grow, mkF, Bk.zero, if_true, List.take_zero, List.flatten_nil]
      rw [hfl]
      congr 1
      by_cases hq : 0 + 1 = ps.length
      · rw [if_pos hq]; cases en <;> simp [v3, v4]
      · rw [if_neg hq]; cases en <;> simp [v1, v2]
    · rw [stB_mid h0 hi, if_neg h0]
      simp [Bk.grow, mkF]
  have hsize : ¬ 4096 < (stB s en ps i).d.size + (strOfNums p).size := by
    rw [str_len]
    by_cases h0 : i = 0
    · subst h0; rw [stB_zero]; simp only [Bk.zero, show (⟨#[]⟩ : ByteArray).size = 0 from rfl]; omega
    · rw [stB_mid h0 hi]; simp only [str_len]; omega
  have h4 : hasB ((if i = 0 then (if en then 1 else 0) else 0) + (if i + 1 = ps.length then 4 else 0)) 4 = decide (i + 1 = ps.length) := by
    by_cases h0 : i = 0
    · by_cases hl' : i + 1 = ps.length
      · rw [if_pos h0, if_pos hl', decide_eq_true hl']; cases en <;> simp [v7, v8]
      · rw [if_pos h0, if_neg hl', decide_eq_false hl']; cases en <;> simp [v5, v6]
    · by_cases hl' : i + 1 = ps.length
      · rw [if_neg h0, if_pos hl', decide_eq_true hl']; simp [v7]
      · rw [if_neg h0, if_neg hl', decide_eq_false hl']; simp [v5]
  have hG := hgrow ((if i = 0 then (if en then 1 else 0) else 0) + (if i + 1 = ps.length then 4 else 0)) (fun h => by rw [if_pos h])
  generalize ((if i = 0 then (if en then 1 else 0) else 0) + (if i + 1 = ps.length then 4 else 0) : Int) = fl at *
  have e : onB (stB s en ps i) (mkF s (if i = 0 then 1 else 9) fl p) = if 4096 < (stB s en ps i).d.size + (strOfNums p).size then ⟨stB s en ps i, Bk.zero, false, 11⟩ else if hasB fl 4 = true then ⟨Bk.zero, Bk.grow (stB s en ps i) (mkF s (if i = 0 then 1 else 9) fl p), true, 0⟩ else ⟨Bk.grow (stB s en ps i) (mkF s (if i = 0 then 1 else 9) fl p), Bk.zero, false, 0⟩ := by
    by_cases h0 : i = 0
    · subst h0
      rw [stB_zero] at hc ⊢
      rw [onB, if_neg (by simp [hc, mkF]; omega), if_neg (by simp [Bk.zero]), if_neg (by simp [mkF]), if_neg (by simp [mkF])]
      rfl
    · rw [stB_mid h0 hi] at hc ⊢
      rw [onB, if_neg (by simp [hc, mkF]; omega), if_neg (by simp [mkF, h0]), if_neg (by simp only; omega), if_neg (by simp [mkF, h0])]
      rfl
  rw [e, if_neg hsize, h4, hG]
  by_cases hl' : i + 1 = ps.length
  · rw [decide_eq_true hl', if_pos rfl, if_pos hl', hl', stB_end, List.take_length]
  · rw [decide_eq_false hl', if_neg (by simp), if_neg hl', stB_mid (by omega) (by omega)]
end Go.Proofs.Ytighhdgaaelcdaa
