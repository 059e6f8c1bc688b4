/-
  Layer 17: single bytes: the program's isDigit, isOfName, isOfMethod; the document's in, sign.
-/
import Derived.Test.YtlbhnbloanamfaaDoorRqMath
import Derived.Test.YtlbhnbloanamfaaDoorLbIndex
import Derived.Lib.FieldsLaws
namespace Go.Proofs.YtlbhnbloanamfaaDoor
set_option linter.unusedSimpArgs false
set_option linter.unusedVariables false
open Go.RowKit

theorem rq_isDigit (z : Int) (w : World) :
    Calls Tryd.prog 38 #[.int .u8 z] w fun e w' => e = .returned (.bool (digI z)) ∧ w = w' := by
  obtain ⟨C, hC⟩ : ∃ C, C = digI z := ⟨_, rfl⟩
  rw [← hC]
  have HC := hide hC
  clear hC
  by_cases h : 48 ≤ z
  · by_cases h2 : z ≤ 57
    · go_enter Tryd.func38, Tryd.ntmps38
      go_wp2
      go_ret
      exact ⟨by rw [HC.out, digI_yes h h2]; rfl, rfl⟩
    · go_enter Tryd.func38, Tryd.ntmps38
      go_wp2
      go_ret
      exact ⟨by rw [HC.out, digI_hi (by omega)]; rfl, rfl⟩
  · go_enter Tryd.func38, Tryd.ntmps38
    go_wp2
    go_ret
    exact ⟨by rw [HC.out, digI_lo (by omega)]; rfl, rfl⟩

def signs : ByteArray := ⟨#[33, 35, 36, 37, 38, 39, 42, 43, 45, 46, 94, 95, 96, 124, 126]⟩
theorem signs_fin : ∀ c : Fin 256, decide (0 ≤ Lib.indexByte signs.data.toList ((c.val : Int)).toNat.toUInt8) = decide ((c.val : Int) ∈ signL) := by decide +kernel
theorem signs_is {z : Int} (h0 : 0 ≤ z) (h1 : z ≤ 255) : decide (0 ≤ Lib.indexByte signs.data.toList z.toNat.toUInt8) = decide (z ∈ signL) := by
  have := signs_fin ⟨z.toNat, by omega⟩
  simp only [Int.toNat_of_nonneg h0] at this
  exact this

theorem nameI_low {z : Int} (h : 97 ≤ z) (h2 : z ≤ 122) : nameI z = true := by simp [nameI, h, h2]
theorem nameI_else {z : Int} (h : ¬ 97 ≤ z ∨ ¬ z ≤ 122) : nameI z = (digI z || decide (z ∈ signL)) := by
  have : (decide (97 ≤ z) && decide (z ≤ 122)) = false := by
    rcases h with h | h <;> simp [h]
  unfold nameI
  rw [this]
  rfl

set_option maxHeartbeats 1600000 in
theorem rq_isOfName (z : Int) (h0 : 0 ≤ z) (h1 : z ≤ 255) (w : World) :
    Calls Tryd.prog 40 #[.int .u8 z] w fun e w' => e = .returned (.bool (nameI z)) ∧ w = w' := by
  obtain ⟨C, hC⟩ : ∃ C, C = nameI z := ⟨_, rfl⟩
  rw [← hC]
  have HC := hide hC
  clear hC
  have HS := hide (signs_is h0 h1)
  by_cases h : 97 ≤ z ∧ z ≤ 122
  · obtain ⟨h, h2⟩ := h
    go_enter Tryd.func40, Tryd.ntmps40
    go_wp2
    go_ret
    exact ⟨by rw [HC.out, nameI_low h h2]; rfl, rfl⟩
  · have HE := hide (nameI_else (z := z) (by omega))
    have HD := hide (rq_isDigit z)
    have HI := hide (lb_IndexByte signs z)
    obtain ⟨d, hd⟩ : ∃ d, d = digI z := ⟨_, rfl⟩
    obtain ⟨q, hq⟩ : ∃ q, q = Lib.indexByte signs.data.toList z.toNat.toUInt8 := ⟨_, rfl⟩
    rw [← hd] at HD HE
    rw [← hq] at HI HS
    clear hd hq
    have hc : ¬ 97 ≤ z ∨ (97 ≤ z ∧ ¬ z ≤ 122) := by omega
    clear h
    cases d with
    | true =>
      rcases hc with h | ⟨h, h2⟩
      all_goals
        go_enter Tryd.func40, Tryd.ntmps40
        go_wp2_with (go_at_call 38; refine (HD.out _).mono ?_; rintro e w2 ⟨rfl, rfl⟩)
        go_ret
        exact ⟨by rw [HC.out, HE.out]; rfl, rfl⟩
    | false =>
      by_cases hq0 : 0 ≤ q
      all_goals
        rcases hc with h | ⟨h, h2⟩
        all_goals
          go_enter Tryd.func40, Tryd.ntmps40
          go_wp2_with (first
            | (go_at_call 38; refine (HD.out _).mono ?_; rintro e w2 ⟨rfl, rfl⟩)
            | (go_at_call 58; refine (HI.out _).mono ?_; rintro e w2 ⟨rfl, rfl⟩))
          go_ret
          refine ⟨?_, rfl⟩
          rw [HC.out, HE.out, ← HS.out]
          simp [hq0]

theorem methI_big {z : Int} (h : 65 ≤ z) (h2 : z ≤ 90) : methI z = true := by simp [methI, h, h2]
theorem methI_else {z : Int} (h : ¬ 65 ≤ z ∨ ¬ z ≤ 90) : methI z = nameI z := by
  have : (decide (65 ≤ z) && decide (z ≤ 90)) = false := by
    rcases h with h | h <;> simp [h]
  unfold methI
  rw [this]
  rfl

set_option maxHeartbeats 1600000 in
theorem rq_isOfMethod (z : Int) (h0 : 0 ≤ z) (h1 : z ≤ 255) (w : World) :
    Calls Tryd.prog 51 #[.int .u8 z] w fun e w' => e = .returned (.bool (methI z)) ∧ w = w' := by
  obtain ⟨C, hC⟩ : ∃ C, C = methI z := ⟨_, rfl⟩
  rw [← hC]
  have HC := hide hC
  clear hC
  by_cases h : 65 ≤ z ∧ z ≤ 90
  · obtain ⟨h, h2⟩ := h
    go_enter Tryd.func51, Tryd.ntmps51
    go_wp2
    go_ret
    exact ⟨by rw [HC.out, methI_big h h2]; rfl, rfl⟩
  · have HE := hide (methI_else (z := z) (by omega))
    have HD := hide (rq_isOfName z h0 h1)
    obtain ⟨d, hd⟩ : ∃ d, d = nameI z := ⟨_, rfl⟩
    rw [← hd] at HD HE
    clear hd
    have hc : ¬ 65 ≤ z ∨ (65 ≤ z ∧ ¬ z ≤ 90) := by omega
    clear h
    rcases hc with h | ⟨h, h2⟩
    all_goals
      go_enter Tryd.func51, Tryd.ntmps51
      go_wp2_with (go_at_call 40; refine (HD.out _).mono ?_; rintro e w2 ⟨rfl, rfl⟩)
      go_ret
      exact ⟨by rw [HC.out, HE.out]; rfl, rfl⟩

/-! ## The document's -/
def InTo (z : Int) (l : List Int) (k : Nat) : Prop := ∀ j, j < k → j < l.length → l.getD j 0 ≠ z
theorem in_yes {l : List Int} {k : Nat} {z : Int} (hk : k < l.length) (h : l.getD k 0 = z) : decide (z ∈ l) = true := by
  rw [decide_eq_true_eq, ← h, getD_lt hk]
  exact List.getElem_mem hk
theorem in_no {l : List Int} {z : Int} (h : InTo z l l.length) : decide (z ∈ l) = false := by
  rw [decide_eq_false_iff_not]
  intro hm
  obtain ⟨j, hj, e⟩ := List.getElem_of_mem hm
  exact h j hj hj (by rw [getD_lt hj, e])

set_option maxHeartbeats 1600000 in
theorem rg_in (s : ByteArray) (z : Int) (hs : (s.size : Int) ≤ 1000000) (w : World) :
    Calls Tryd.prog 57 #[.string s, .int .u8 z] w fun e w' => e = .returned (.bool (decide (z ∈ bts s))) ∧ w = w' := by
  obtain ⟨C, hC⟩ : ∃ C, C = decide (z ∈ bts s) := ⟨_, rfl⟩
  rw [← hC]
  have HC := hide hC
  have HL := hide (bts_len s)
  clear hC
  go_enter Tryd.func57, Tryd.ntmps57
  go_wp2
  go_loop [5] (fun k => ∃ i : Nat, i ≤ s.size ∧ k = .int .i64 (i : Int) ∧ InTo z (bts s) i) (fun k => s.size - (intOf k).toNat)
  case atStart => exact ⟨0, by omega, rfl, fun j hj _ => absurd hj (by omega)⟩
  case round =>
    obtain ⟨i, hi, rfl, hno⟩ := hrel
    have HN := hide hno
    clear hno
    by_cases hlt : i < s.size
    · have hlt' : (i : Int) < (s.size : Int) := by omega
      have HB := hide (bts_get s i hlt)
      obtain ⟨x, hx⟩ : ∃ x, x = ((s[i].toNat : Nat) : Int) := ⟨_, rfl⟩
      rw [← hx] at HB
      have hx' := hx.symm
      clear hx
      by_cases he : x = z
      · have he' : (x == z) = true := by simpa using he
        have HE := hide he
        clear he
        go_wp2
        go_ret
        exact ⟨by rw [HC.out, in_yes (by rw [HL.out]; exact hlt) (HB.out.trans HE.out)]; rfl, rfl⟩
      · have he' : (x == z) = false := by simpa using he
        have HE := hide he
        clear he
        go_wp2
        go_round
        case rel => exact ⟨i + 1, by omega, by go_num, fun j hj hl => by
          by_cases e : j = i
          · subst e; rw [HB.out]; exact HE.out
          · exact HN.out j (by omega) hl⟩
        case measure => simp [intOf]; omega
    · have hge : ¬ (i : Int) < (s.size : Int) := by omega
      obtain rfl : i = s.size := by omega
      go_wp2
      go_ret
      exact ⟨by rw [HC.out, in_no (by rw [HL.out]; exact HN.out)]; rfl, rfl⟩
theorem signs_bts : bts signs = signL := by decide

set_option maxHeartbeats 1600000 in
theorem rg_sign (z : Int) (w : World) :
    Calls Tryd.prog 41 #[.int .u8 z] w fun e w' => e = .returned (.bool (nameI z)) ∧ w = w' := by
  obtain ⟨C, hC⟩ : ∃ C, C = nameI z := ⟨_, rfl⟩
  rw [← hC]
  have HC := hide hC
  clear hC
  by_cases h : 97 ≤ z ∧ z ≤ 122
  · obtain ⟨h, h2⟩ := h
    go_enter Tryd.func41, Tryd.ntmps41
    go_wp2
    go_ret
    exact ⟨by rw [HC.out, nameI_low h h2]; rfl, rfl⟩
  · have HE := hide (nameI_else (z := z) (by omega))
    have HI := hide (rg_in signs z (by decide))
    rw [signs_bts] at HI
    obtain ⟨q, hq⟩ : ∃ q, q = decide (z ∈ signL) := ⟨_, rfl⟩
    rw [← hq] at HI HE
    clear hq
    by_cases hd : 48 ≤ z ∧ z ≤ 57
    · obtain ⟨hd1, hd2⟩ := hd
      have hn : ¬ 97 ≤ z := by omega
      clear h
      go_enter Tryd.func41, Tryd.ntmps41
      go_wp2
      go_ret
      exact ⟨by rw [HC.out, HE.out, digI_yes hd1 hd2]; rfl, rfl⟩
    · have HD := hide (show digI z = false by
        simp only [digI, Bool.and_eq_false_iff, decide_eq_false_iff_not]
        omega)
      have hc : (¬ 97 ≤ z ∧ ¬ 48 ≤ z) ∨ (¬ 97 ≤ z ∧ 48 ≤ z ∧ ¬ z ≤ 57) ∨ (97 ≤ z ∧ ¬ z ≤ 122 ∧ 48 ≤ z ∧ ¬ z ≤ 57) := by omega
      clear h hd
      rcases hc with ⟨h1, h2⟩ | ⟨h1, h2, h3⟩ | ⟨h1, h2, h3, h4⟩
      all_goals
        go_enter Tryd.func41, Tryd.ntmps41
        go_wp2_with (go_at_call 57; refine (HI.out _).mono ?_; rintro e w2 ⟨rfl, rfl⟩)
        go_ret
        exact ⟨by rw [HC.out, HE.out, HD.out]; rfl, rfl⟩
end Go.Proofs.YtlbhnbloanamfaaDoor
