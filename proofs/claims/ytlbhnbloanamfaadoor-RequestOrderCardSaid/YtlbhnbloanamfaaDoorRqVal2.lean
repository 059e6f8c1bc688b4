/-
  Layer 17: the document's value.
-/
import Derived.Test.YtlbhnbloanamfaaDoorRqVal
namespace Go.Proofs.YtlbhnbloanamfaaDoor
set_option linter.unusedSimpArgs false
set_option linter.unusedVariables false
open Go.RowKit

theorem blanks_bts : bts blanks = [32, 9] := by decide
theorem blank_mem (z : Int) : decide (z ∈ ([32, 9] : List Int)) = blankI z := by
  unfold blankI
  rw [Bool.eq_iff_iff]
  simp
theorem endsB_two {l : List Int} {n : Nat} {a b : Int} (hl : l.length = n) (h : 0 < n) (ha : l.getD 0 0 = a) (hb : l.getD (n - 1) 0 = b) : endsB l = (!blankI a && !blankI b) := by
  have hne : l ≠ [] := fun e => by rw [e] at hl; simp at hl; omega
  unfold endsB
  rw [headD_getD, lastD_getD hne, hl, ha, hb, decide_eq_false hne]
  rfl

set_option maxRecDepth 100000 in
set_option maxHeartbeats 3200000 in
theorem rg_value (s : ByteArray) (hs : (s.size : Int) ≤ 1000000) (w : World) :
    Calls Tryd.prog 37 #[.string s] w fun e w' => e = .returned (.bool (valB s)) ∧ w = w' := by
  obtain ⟨C, hC⟩ : ∃ C, C = valB s := ⟨_, rfl⟩
  rw [← hC]
  have HC := hide hC
  have HL := hide (bts_len s)
  clear hC
  go_enter Tryd.func37, Tryd.ntmps37
  go_wp2_with fail
  go_loop [3] (fun k => ∃ i : Nat, i ≤ s.size ∧ k = .int .i64 (i : Int) ∧ AllTo (fun z => !badV z) (bts s) i) (fun k => s.size - (intOf k).toNat)
  case atStart => exact ⟨0, by omega, rfl, .zero _ _⟩
  case round =>
    obtain ⟨i, hi, rfl, hno⟩ := hrel
    have HN := hide hno
    clear hno
    by_cases hlt : i < s.size
    · have hlt' : (i : Int) < (s.size : Int) := by omega
      have HZ := hide (bts_get s i hlt)
      obtain ⟨z, hz⟩ : ∃ z, z = ((s[i].toNat : Nat) : Int) := ⟨_, rfl⟩
      rw [← hz] at HZ
      have hz' := hz.symm
      clear hz
      have hc : z = 0 ∨ (z ≠ 0 ∧ z = 10) ∨ (z ≠ 0 ∧ z ≠ 10 ∧ z = 13) ∨ (z ≠ 0 ∧ z ≠ 10 ∧ z ≠ 13) := by omega
      rcases hc with h0 | ⟨h0, h1⟩ | ⟨h0, h1, h2⟩ | ⟨h0, h1, h2⟩
      · have HT := hide (show badV z = true by rw [h0]; rfl)
        have e0 : (z == 0) = true := by simpa using h0
        clear h0
        go_wp2
        go_ret
        exact ⟨by rw [HC.out, valB_bad hlt (by rw [HZ.out]; exact HT.out)]; rfl, rfl⟩
      · have HT := hide (show badV z = true by rw [h1]; rfl)
        have e0 : (z == 0) = false := by simpa using h0
        have e1 : (z == 10) = true := by simpa using h1
        clear h0 h1
        go_wp2
        go_ret
        exact ⟨by rw [HC.out, valB_bad hlt (by rw [HZ.out]; exact HT.out)]; rfl, rfl⟩
      · have HT := hide (show badV z = true by rw [h2]; rfl)
        have e0 : (z == 0) = false := by simpa using h0
        have e1 : (z == 10) = false := by simpa using h1
        have e2 : (z == 13) = true := by simpa using h2
        clear h0 h1 h2
        go_wp2
        go_ret
        exact ⟨by rw [HC.out, valB_bad hlt (by rw [HZ.out]; exact HT.out)]; rfl, rfl⟩
      · have HT := hide (show (!badV z) = true by unfold badV; rw [decide_eq_false h0, decide_eq_false h1, decide_eq_false h2]; rfl)
        have e0 : (z == 0) = false := by simpa using h0
        have e1 : (z == 10) = false := by simpa using h1
        have e2 : (z == 13) = false := by simpa using h2
        clear h0 h1 h2
        go_wp2
        go_round
        case rel => exact ⟨i + 1, by omega, by go_num, HN.out.succ (by rw [HZ.out]; exact HT.out)⟩
        case measure => simp [intOf]; omega
    · have hge : ¬ (i : Int) < (s.size : Int) := by omega
      obtain rfl : i = s.size := by omega
      have HV := hide (valB_of HN.out)
      by_cases h0 : s.size = 0
      · obtain rfl := ba_empty h0
        clear h0 hs hge hlt hi
        go_wp2
        go_ret
        exact ⟨by rw [HC.out]; rfl, rfl⟩
      · have he := empty_no (s := s) (by omega)
        have hp : 0 < s.size := by omega
        have hp2 : s.size - 1 < s.size := by omega
        obtain ⟨m, hm⟩ : ∃ m, m = s.size - 1 := ⟨_, rfl⟩
        have hm2 : m < s.size := by omega
        have HA := bts_get s 0 hp
        have HB := bts_get s m hm2
        obtain ⟨a, ha⟩ : ∃ a, a = ((s[0].toNat : Nat) : Int) := ⟨_, rfl⟩
        obtain ⟨b, hb⟩ : ∃ b, b = ((s[m].toNat : Nat) : Int) := ⟨_, rfl⟩
        rw [← ha] at HA
        rw [← hb] at HB
        have HE := hide (endsB_two (b := b) HL.out hp HA (by rw [← hm]; exact HB))
        have ha' := ha.symm
        have hb' := hb.symm
        have hsm : (s.size : Int) - 1 = (m : Int) := by omega
        have HI := hide (fun z => rg_in blanks z (by decide))
        simp only [blanks_bts, blank_mem] at HI
        have HIA := hide (HI.out a)
        have HIB := hide (HI.out b)
        obtain ⟨p, hp'⟩ : ∃ p, p = blankI a := ⟨_, rfl⟩
        obtain ⟨q, hq'⟩ : ∃ q, q = blankI b := ⟨_, rfl⟩
        rw [← hp'] at HIA HE
        rw [← hq'] at HIB HE
        clear hm hp' hq' ha hb HA HB h0
        cases p with
        | true =>
          go_wp2_with (go_at_call 57; refine (HIA.out _).mono ?_; rintro e w2 ⟨rfl, rfl⟩)
          go_ret
          exact ⟨by rw [HC.out, HV.out, HE.out]; rfl, rfl⟩
        | false =>
          go_wp2_with fail
          refine (HIA.out _).mono ?_
          rintro e w2 ⟨rfl, rfl⟩
          go_wp2_with fail
          refine (HIB.out _).mono ?_
          rintro e w2 ⟨rfl, rfl⟩
          go_wp2_with fail
          go_ret
          exact ⟨by rw [HC.out, HV.out, HE.out]; cases q <;> rfl, rfl⟩
end Go.Proofs.YtlbhnbloanamfaaDoor
