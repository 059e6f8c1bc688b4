/-
  WindowSums: its walk: for every start, list of numbers and rest the Go text returns true, and leaves what was there as it was.
-/
import Derived.Test.YtkigclbmkifbbaaWiAwake
import Derived.Test.YtkigclbmkifbbaaIntRow
import Derived.BigGuardPart
namespace Go.Proofs.Ytkigclbmkifbbaa.windowSums
set_option linter.unusedSimpArgs false
set_option linter.unusedVariables false
open Go.RowKit

theorem may_bd {v r : Int} (h0 : 0 ≤ v) (h1 : 0 ≤ r) : 0 ≤ mayR v v 16384 r ∧ mayR v v 16384 r ≤ v := by unfold mayR; omega
theorem may_pos {v r : Int} (h0 : 0 < v) (h1 : 0 < r) : 0 < mayR v v 16384 r := by unfold mayR; omega
theorem may_zero {v r : Int} (h0 : 0 ≤ v) (h1 : 0 ≤ r) (h : v = 0 ∨ r = 0) : mayR v v 16384 r = 0 := by unfold mayR; omega

set_option maxRecDepth 100000 in
set_option maxHeartbeats 3200000 in
theorem walk_at (a0 : Int) (A : Option Addr) (n c : Nat) (l : List Int) (r : Int) (s0 : Nat) (w : World) (hl : NL .i32 w A n c l) (h0 : 0 ≤ a0) (h0' : a0 ≤ 4294967295) (r0 : 0 ≤ r) (r1 : r ≤ 65535) (hs : a0 % 2147483648 = s0) :
    Calls Try.prog 5 #[.int .u32 a0, .slice A n c, .int .u16 r] w fun e w' => e = .returned (.bool true) ∧ Below w.heap.size w w' := by
  have HAW := hide aw_window
  have hs1 : (s0 : Int) ≤ 2147483647 := by omega
  by_cases hn : (n : Int) ≤ 60
  · have hn' : ¬ (60 : Int) < (n : Int) := by omega
    have HL := hide hl
    clear hl
    go_enter Try.func5, Try.ntmps5
    go_wp2_with fail
    go_loop [7, 8, 9] (fun s7 s8 s9 => ∃ (i : Nat) (v : Int), i ≤ n ∧ 0 ≤ v ∧ v ≤ 2147483647 ∧ s9 = .int .i64 (i : Int) ∧ s7 = .int .i64 v ∧ s8 = .int .i64 v) (fun _ _ s9 => n - (intOf s9).toNat)
    case atStart => exact ⟨0, s0, by omega, by omega, hs1, rfl, rfl, rfl⟩
    case round =>
      clear hs hs1 h0 h0'
      obtain ⟨i, v, hi, v0, v1, rfl, rfl, rfl⟩ := hrel
      have hiw : isW v = true := isW_yes.2 ⟨by omega, v1⟩
      by_cases hlt : i < n
      · have hlt' : (i : Int) < (n : Int) := by omega
        obtain ⟨x, b, off, hx, rfl, hbl, c0, hw⟩ := HL.out.round hlt
        have ⟨x0, x1⟩ := bounds_i32 hw
        clear hx hw
        by_cases hneg : x < 0
        · have HT := hide (fun w => wi_Take v (-x) w)
          by_cases hle : -x ≤ v
          · rw [takeR_yes hiw (by omega) hle, show v - -x = v + x by omega] at HT
            clear hiw
            go_wp2_with fail
            refine (HT.out _).mono ?_
            rintro e w' ⟨rfl, rfl⟩
            go_wp2_with fail
            go_round
            case rel => exact ⟨i + 1, v + x, by omega, by omega, by omega, by go_num, by go_num, by go_num⟩
            case measure => simp [intOf]; omega
          · rw [takeR_no (.inr (.inr (by omega)))] at HT
            have hle' : v < -x := by omega
            clear hiw hle
            go_wp2_with fail
            refine (HT.out _).mono ?_
            rintro e w' ⟨rfl, rfl⟩
            go_wp2_with fail
            go_round
            case rel => exact ⟨i + 1, v, by omega, by omega, by omega, by go_num, by go_num, by go_num⟩
            case measure => simp [intOf]; omega
        · have hneg' : 0 ≤ x := by omega
          have HT := hide (fun w => wi_Give v x w)
          by_cases hz : x < 1
          · rw [giveR_1 hiw (.inl hz)] at HT
            clear hiw hneg
            go_wp2_with fail
            refine (HT.out _).mono ?_
            rintro e w' ⟨rfl, rfl⟩
            go_wp2_with fail
            go_round
            case rel => exact ⟨i + 1, v, by omega, by omega, by omega, by go_num, by go_num, by go_num⟩
            case measure => simp [intOf]; omega
          have hz' : 1 ≤ x := by omega
          rw [giveR_mov hiw hz' x1] at HT
          by_cases hle : v ≤ 2147483647 - x
          · rw [movR_yes (isW_yes.2 ⟨by omega, by omega⟩)] at HT
            clear hiw hneg hz
            go_wp2_with fail
            refine (HT.out _).mono ?_
            rintro e w' ⟨rfl, rfl⟩
            go_wp2_with fail
            go_round
            case rel => exact ⟨i + 1, v + x, by omega, by omega, by omega, by go_num, by go_num, by go_num⟩
            case measure => simp [intOf]; omega
          · rw [movR_no (isW_no.2 (.inr (by omega)))] at HT
            have hle' : 2147483647 - x < v := by omega
            clear hiw hneg hz hle
            go_wp2_with fail
            refine (HT.out _).mono ?_
            rintro e w' ⟨rfl, rfl⟩
            go_wp2_with fail
            go_round
            case rel => exact ⟨i + 1, v, by omega, by omega, by omega, by go_num, by go_num, by go_num⟩
            case measure => simp [intOf]; omega
      · have hge : ¬ (i : Int) < (n : Int) := by omega
        obtain ⟨y0, y1⟩ := may_bd v0 r0
        have M := hide (fun w => wi_May v v 16384 r w)
        have T := hide (fun w => wi_Take v (mayR v v 16384 r) w)
        rw [takeR_yes hiw y0 y1] at T
        have C := hide (fun w => wi_Check v w)
        rw [show chkW v = 0 by rw [chkW, if_pos hiw]] at C
        by_cases hv : 0 < v
        · by_cases hr : 0 < r
          · have hy := may_pos hv hr
            generalize mayR v v 16384 r = y at *
            clear hiw HL
            go_wp2_with fail
            refine (M.out _).mono ?_
            rintro e w' ⟨rfl, rfl⟩
            go_wp2_with fail
            refine (T.out _).mono ?_
            rintro e w' ⟨rfl, rfl⟩
            go_wp2_with fail
            refine (C.out _).mono ?_
            rintro e w' ⟨rfl, rfl⟩
            go_wp2_with fail
            refine (HAW.out _).mono ?_
            rintro e w2 ⟨rfl, hb2⟩
            have HB2 := hide hb2
            clear hb2
            go_wp2
            go_ret
            exact ⟨rfl, HB2.out⟩
          · obtain rfl : r = 0 := by omega
            rw [may_zero v0 r0 (.inr rfl)] at M T
            clear hiw HL hr y0 y1
            go_wp2_with fail
            refine (M.out _).mono ?_
            rintro e w' ⟨rfl, rfl⟩
            go_wp2_with fail
            refine (T.out _).mono ?_
            rintro e w' ⟨rfl, rfl⟩
            go_wp2_with fail
            refine (C.out _).mono ?_
            rintro e w' ⟨rfl, rfl⟩
            go_wp2_with fail
            refine (HAW.out _).mono ?_
            rintro e w2 ⟨rfl, hb2⟩
            have HB2 := hide hb2
            clear hb2
            go_wp2
            go_ret
            exact ⟨rfl, HB2.out⟩
        · obtain rfl : v = 0 := by omega
          rw [may_zero v0 r0 (.inl rfl)] at M T
          clear hiw HL hv y0 y1
          go_wp2_with fail
          refine (M.out _).mono ?_
          rintro e w' ⟨rfl, rfl⟩
          go_wp2_with fail
          refine (T.out _).mono ?_
          rintro e w' ⟨rfl, rfl⟩
          go_wp2_with fail
          refine (C.out _).mono ?_
          rintro e w' ⟨rfl, rfl⟩
          go_wp2_with fail
          refine (HAW.out _).mono ?_
          rintro e w2 ⟨rfl, hb2⟩
          have HB2 := hide hb2
          clear hb2
          go_wp2
          go_ret
          exact ⟨rfl, HB2.out⟩
  · have hn' : (60 : Int) < (n : Int) := by omega
    clear hl
    go_enter Try.func5, Try.ntmps5
    go_wp2_with fail
    refine (HAW.out _).mono ?_
    rintro e w2 ⟨rfl, hb2⟩
    have HB2 := hide hb2
    clear hb2
    go_wp2
    go_ret
    exact ⟨rfl, HB2.out⟩

theorem walk (a0 : Int) (A : Option Addr) (n c : Nat) (z : List Int) (a2 : Int) (w : World) (w0 : (Lit.int .u32 a0).wf = true) (w1 : IsRow .i32 w A n c z) (w2 : (Lit.int .u16 a2).wf = true) :
    Calls Try.prog 5 #[.int .u32 a0, .slice A n c, .int .u16 a2] w fun e w' => e = .returned (.bool true) ∧ Below w.heap.size w w' := by
  have ⟨h0, h1⟩ := bounds_u32 w0
  have ⟨r0, r1⟩ := bounds_u16 w2
  exact walk_at a0 A n c _ a2 (a0 % 2147483648).toNat w (nl_of_row w1) h0 h1 r0 r1 (by omega)
end Go.Proofs.Ytkigclbmkifbbaa.windowSums
