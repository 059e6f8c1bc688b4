/-
  Layer 14: Run of the document.
-/
import Derived.Test.YtkigclbmkifbbaaWiRun
namespace Go.Proofs.Ytkigclbmkifbbaa
set_option linter.unusedSimpArgs false
set_option linter.unusedVariables false
open Go.RowKit

set_option maxRecDepth 100000 in
set_option maxHeartbeats 1600000 in
theorem rw_Run (A : Option Addr) (n c : Nat) (l : List Wa) (w0 : Int) (w : World) (hl : WL w A n c l) (hn : (n : Int) ≤ 1000000) :
    Calls Try.prog 17 #[.int .i64 w0, .slice A n c] w fun e w' => e = .returned (.tuple #[.int .i64 (runR w0 l).1, .int .i64 (runR w0 l).2]) ∧ w = w' := by
  have HWL := hide hl
  have HN := hide hn
  clear hl hn
  go_enter Try.func17, Try.ntmps17
  go_wp2_with fail
  go_loop [0, 6] (fun s0 s6 => ∃ (i : Nat) (v : Int), i ≤ n ∧ s6 = .int .i64 (i : Int) ∧ s0 = .int .i64 v ∧ runR w0 l = runR v (l.drop i)) (fun _ s6 => n - (intOf s6).toNat)
  case atStart => exact ⟨0, w0, by omega, rfl, rfl, rfl⟩
  case round =>
    obtain ⟨i, v, hi, rfl, rfl, hr⟩ := hrel
    have HR := hide hr
    clear hr
    by_cases hlt : i < n
    · have hlt' : (i : Int) < (n : Int) := by omega
      have him : (i : Int) < 1000000 := by have := HN.out; omega
      obtain ⟨x, b, off, hx, rfl, hbl, c0, c1⟩ := HWL.out.round hlt
      have hd := drop_at hx
      obtain ⟨k, m⟩ := x
      simp only at c0 c1
      have HT := hide (fun w => rw_Take v m w)
      have HG := hide (fun w => rw_Give v m w)
      have HS := hide (fun w => rw_Shift v 0 m w)
      have HZ := hide (fun w => rw_Shift v m 0 w)
      have HE1 := hide (fun h => hd ▸ runR_go (w := v) (x := ⟨k, m⟩) (l := l.drop (i + 1)) h)
      have HE2 := hide (fun h => hd ▸ runR_stop (w := v) (x := ⟨k, m⟩) (l := l.drop (i + 1)) h)
      simp only at HE1 HE2
      clear hx hd
      by_cases h0 : k = 0
      · subst h0
        rw [actR_0] at HE1 HE2
        unfold takA at HE1 HE2
        generalize takeR v m = r at *
        obtain ⟨r1, r2⟩ := r
        cases r2 with
        | false =>
          have HE := hide (HR.out.trans (HE2.out (by simp)))
          simp only at HE
          clear HE1 HE2
          go_wp2_with fail
          refine (HT.out _).mono ?_
          rintro e w' ⟨rfl, rfl⟩
          go_wp2
          go_ret2
          exact ⟨by rw [HE.out]; rfl, rfl⟩
        | true =>
          have HE := hide (HR.out.trans (HE1.out rfl))
          clear HE1 HE2
          go_wp2_with fail
          refine (HT.out _).mono ?_
          rintro e w' ⟨rfl, rfl⟩
          go_wp2
          go_round
          case rel => have hw := HN.out; exact ⟨i + 1, r1, by omega, by go_num, rfl, HE.out⟩
          case measure => have hw := HN.out; simp [intOf]; omega
      by_cases h1 : k = 1
      · subst h1
        rw [actR_1] at HE1 HE2
        have hcd := giveR_code v m
        generalize giveR v m = r at *
        obtain ⟨r1, r2⟩ := r
        simp only at HE1 HE2 hcd HG
        by_cases hz : r2 = 0
        · subst hz
          have HE := hide (HR.out.trans (HE1.out rfl))
          clear HE1 HE2 hcd
          go_wp2_with fail
          refine (HG.out _).mono ?_
          rintro e w' ⟨rfl, rfl⟩
          go_wp2
          go_round
          case rel => have hw := HN.out; exact ⟨i + 1, r1, by omega, by go_num, rfl, HE.out⟩
          case measure => have hw := HN.out; simp [intOf]; omega
        · obtain rfl : r1 = v := by omega
          have hz' : (r2 != 0) = true := by simpa using hz
          have HE := hide (HR.out.trans (HE2.out hz))
          clear HE1 HE2 hcd hz
          go_wp2_with fail
          refine (HG.out _).mono ?_
          rintro e w' ⟨rfl, rfl⟩
          go_wp2
          go_ret2
          exact ⟨by rw [HE.out]; rfl, rfl⟩
      by_cases h2 : k = 2
      · subst h2
        rw [actR_2] at HE1 HE2
        have hcd := shiftR_code v 0 m
        generalize shiftR v 0 m = r at *
        obtain ⟨r1, r2⟩ := r
        simp only at HE1 HE2 hcd HS
        by_cases hz : r2 = 0
        · subst hz
          have HE := hide (HR.out.trans (HE1.out rfl))
          clear HE1 HE2 hcd
          go_wp2_with fail
          refine (HS.out _).mono ?_
          rintro e w' ⟨rfl, rfl⟩
          go_wp2
          go_round
          case rel => have hw := HN.out; exact ⟨i + 1, r1, by omega, by go_num, rfl, HE.out⟩
          case measure => have hw := HN.out; simp [intOf]; omega
        · obtain rfl : r1 = v := by omega
          have hz' : (r2 != 0) = true := by simpa using hz
          have HE := hide (HR.out.trans (HE2.out hz))
          clear HE1 HE2 hcd hz
          go_wp2_with fail
          refine (HS.out _).mono ?_
          rintro e w' ⟨rfl, rfl⟩
          go_wp2
          go_ret2
          exact ⟨by rw [HE.out]; rfl, rfl⟩
      by_cases h3 : k = 3
      · subst h3
        rw [actR_3] at HE1 HE2
        have hcd := shiftR_code v m 0
        generalize shiftR v m 0 = r at *
        obtain ⟨r1, r2⟩ := r
        simp only at HE1 HE2 hcd HZ
        by_cases hz : r2 = 0
        · subst hz
          have HE := hide (HR.out.trans (HE1.out rfl))
          clear HE1 HE2 hcd
          go_wp2_with fail
          refine (HZ.out _).mono ?_
          rintro e w' ⟨rfl, rfl⟩
          go_wp2
          go_round
          case rel => have hw := HN.out; exact ⟨i + 1, r1, by omega, by go_num, rfl, HE.out⟩
          case measure => have hw := HN.out; simp [intOf]; omega
        · obtain rfl : r1 = v := by omega
          have hz' : (r2 != 0) = true := by simpa using hz
          have HE := hide (HR.out.trans (HE2.out hz))
          clear HE1 HE2 hcd hz
          go_wp2_with fail
          refine (HZ.out _).mono ?_
          rintro e w' ⟨rfl, rfl⟩
          go_wp2
          go_ret2
          exact ⟨by rw [HE.out]; rfl, rfl⟩
      · have HE := hide (HR.out.trans (HE1.out (by rw [actR_x h0 h1 h2 h3])))
        rw [actR_x h0 h1 h2 h3] at HE
        have k0 : (k == 0) = false := by simp; omega
        have k1 : (k == 1) = false := by simp; omega
        have k2 : (k == 2) = false := by simp; omega
        have k3 : (k == 3) = false := by simp; omega
        clear HE1 HE2 h0 h1 h2 h3
        go_wp2
        go_round
        case rel => have hw := HN.out; exact ⟨i + 1, v, by omega, by go_num, rfl, HE.out⟩
        case measure => have hw := HN.out; simp [intOf]; omega
    · have hge : ¬ (i : Int) < (n : Int) := by omega
      obtain rfl : i = n := by omega
      have HE := hide (show runR w0 l = (v, 0) by rw [HR.out, ← HWL.out.len, List.drop_length]; rfl)
      go_wp2
      go_ret2
      exact ⟨by rw [HE.out]; rfl, rfl⟩
end Go.Proofs.Ytkigclbmkifbbaa
