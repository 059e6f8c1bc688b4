/-
  Layer 4: the document's Check; whether two lists, two tables are one: both.
-/
import Derived.Test.YtchndegcnjejiaaDyCheck
import Derived.Deep.QuietTactic
import Derived.BigQuiet
namespace Go.Proofs.Ytchndegcnjejiaa
open Go.RowKit

set_option maxRecDepth 100000 in
set_option maxHeartbeats 1600000 in
theorem rf_Check (m : Int) (A : Option Addr) (n c : Nat) (l : List Fd) (w : World) (hfl : FL w A n c l) (hs : (szs l : Int) ≤ 1099511627776) :
    Calls Try.prog 15 #[.agg #[.int .i64 m, .slice A n c]] w fun e w' => e = .returned (.int .i64 (chkI m l)) ∧ Below w.heap.size w w' := by
  obtain ⟨C, hC⟩ : ∃ C, C = chkI m l := ⟨_, rfl⟩
  rw [← hC]
  have HCK := hide hC
  clear hC
  have hn : (n : Int) ≤ 1099511627776 := by have := szs_len l; have := hfl.len; omega
  have HFL := hide (hfl.alloc (.cells #[.int .i64 m, .slice A n c] 24))
  have HS := hide hs
  have K0 := hide (BlkIs.new w 24 #[.int .i64 m, .slice A n c])
  have B0 := hide ((Below.refl w.heap.size w).alloc (Nat.le_refl _) (.cells #[.int .i64 m, .slice A n c] 24))
  clear hfl hs
  by_cases hm : m < 0
  · have h8 := hide (chkI_8 (l := l) (show rmB m = false by unfold rmB; simp; omega))
    go_enter Try.func15, Try.ntmps15
    go_wp2
    go_ret
    exact ⟨by rw [HCK.out, h8.out]; rfl, B0.out⟩
  · by_cases hm2 : 4096 < m
    · have h8 := hide (chkI_8 (l := l) (show rmB m = false by unfold rmB; simp; omega))
      go_enter Try.func15, Try.ntmps15
      go_wp2
      go_ret
      exact ⟨by rw [HCK.out, h8.out]; rfl, B0.out⟩
    · have HM := hide (show rmB m = true from rmB_yes (by omega) (by omega))
      obtain ⟨W, hW⟩ : ∃ W, W = w.alloc (.cells #[.int .i64 m, .slice A n c] 24) := ⟨_, rfl⟩
      rw [← hW] at HFL K0 B0
      obtain ⟨g, hg⟩ : ∃ g, g = w.heap.size := ⟨_, rfl⟩
      have K1 := K0
      rw [← hg] at K1
      have c0 := K1.out.cell 0
      have c1 := K1.out.cell 1
      simp only [List.getElem?_toArray, List.getElem?_cons_zero, List.getElem?_cons_succ] at c0 c1
      have HW := hide hW
      have HG := hide hg
      clear hW hg K0
      go_enter Try.func15, Try.ntmps15
      go_wp2_with fail
      rw [← HW.out, ← HG.out]
      go_loop [3] (fun k => ∃ i : Nat, i ≤ n ∧ k = .int .i64 (i : Int) ∧ NoNev l i) (fun k => n - (intOf k).toNat)
      case atStart => exact ⟨0, by omega, rfl, .zero l⟩
      case round =>
        obtain ⟨i, hi, rfl, hno⟩ := hrel
        have HNO := hide hno
        clear hno
        by_cases hlt : i < n
        · have hlt' : (i : Int) < (n : Int) := by omega
          obtain ⟨f, b, off, hf, rfl, hbl, _, _, c2⟩ := HFL.out.round hlt
          have HF := hide hf
          clear hf
          obtain ⟨x, hx⟩ : ∃ x, x = f.x := ⟨_, rfl⟩
          rw [← hx] at c2
          have HX := hide hx
          clear hx
          cases x with
          | true =>
            have h4 := hide (chkI_4 (l := l) HM.out (nevB_yes HF.out HX.out.symm))
            go_wp2
            go_ret
            exact ⟨by rw [HCK.out, h4.out]; rfl, B0.out⟩
          | false =>
            go_wp2
            go_round
            case rel => exact ⟨i + 1, by omega, by go_num, HNO.out.succ HF.out HX.out.symm⟩
            case measure => simp [intOf]; omega
        · have hge : ¬ (i : Int) < (n : Int) := by omega
          obtain rfl : i = n := by omega
          have HX := hide (nevB_no (by rw [HFL.out.len]; exact HNO.out))
          obtain ⟨z, hz⟩ : ∃ z : Nat, z = szs l := ⟨_, rfl⟩
          have HZ := hide hz
          have SC := hide (rf_Size04 m A i c l _ HFL.out.drew HS.out)
          rw [← hz] at SC
          clear hz
          go_wp2_with fail
          go_region_with (go_at_call 13; refine SC.out.mono ?_; rintro e w3 ⟨rfl, hb3⟩; have K3 := K1.out.drew.keep hb3; have d0 := K3.cell 0; simp only [List.getElem?_toArray, List.getElem?_cons_zero] at d0; have HB3 := hide hb3; clear hb3 K3)
          all_goals
            go_wp2
            all_goals
              go_ret
              have hbb := B0.out.drew
              refine ⟨?_, hbb.trans (HB3.out.mono (by have h1 := hbb.size; omega))⟩
              rw [HCK.out]
              have hz := HZ.out
              first
                | (rw [chkI_5 HM.out HX.out (by rw [← hz]; omega)]; rfl)
                | (rw [chkI_0 HM.out HX.out (by rw [← hz]; omega)]; rfl)
end Go.Proofs.Ytchndegcnjejiaa
