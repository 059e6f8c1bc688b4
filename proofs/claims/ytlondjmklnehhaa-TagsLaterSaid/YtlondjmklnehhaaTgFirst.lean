/-
  Layer 25: First: the program's.
-/
import Derived.Test.YtlondjmklnehhaaTgMem
import Derived.Deep.QuietTactic
import Derived.BigQuiet
namespace Go.Proofs.Ytlondjmklnehhaa
set_option linter.unusedSimpArgs false
set_option linter.unusedVariables false
open Go.RowKit

set_option maxRecDepth 100000 in
set_option maxHeartbeats 1600000 in
theorem tg_First (A : Option Addr) (n c : Nat) (l : List Tg) (w : World) (hl : SL tgF w A n c l) (hn : (n : Int) ≤ 1000) :
    Calls Try.prog 24 #[.slice A n c] w fun e w' => e = .returned (.int .i64 (fstI l)) ∧ Below w.heap.size w w' := by
  have HL := hide hl
  have HLN := hide hl.len
  clear hl
  go_enter Try.func24, Try.ntmps24
  go_wp2_with fail
  go_loopw [3, 7] (fun s3 s4 wr => ∃ k : Nat, s3 = .int .i64 (fsP l k) ∧ s4 = .int .i64 (k : Int) ∧ k ≤ n ∧ Hid (Below w.heap.size w wr)) (fun _ s4 _ => n - (intOf s4).toNat)
  case atStart => exact ⟨0, rfl, rfl, by omega, Below.refl _ _⟩
  case round =>
    obtain ⟨k, rfl, rfl, hk, HB⟩ := hrel
    by_cases h2 : k < n
    · have h2' : (k : Int) < (n : Int) := by omega
      rcases Nat.eq_zero_or_pos k with rfl | h0
      · rw [fsP_zero]
        go_wp2_with fail
        go_quiet (fail)
        go_wp2_with fail
        go_roundw
        case rel => exact ⟨1, by rw [fsP_one]; rfl, rfl, h2, below_drewN HB.out _⟩
        case measure => simp [intOf]; omega
      · rw [fsP_pos h0]
        obtain ⟨m, hm⟩ : ∃ m, fsN l k = m := ⟨_, rfl⟩
        rw [hm]
        have hmn : m < n := by have := fsN_lt l k h0; omega
        have hmn' : (m : Int) < (n : Int) := by omega
        have hmz : ¬ (m : Int) < 0 := by omega
        obtain ⟨x, b, off, hx, hA, hbl, c0, c1, c2, c3⟩ := tg_round (HL.out.keep HB.out) h2
        obtain ⟨y, b', off', hy, hA', _, d0, d1, d2, d3⟩ := tg_round (HL.out.keep HB.out) hmn
        rw [hA] at hA'
        obtain ⟨rfl, rfl⟩ : b = b' ∧ off = off' := by injection hA' with e; injection e with e1 e2; exact ⟨e1, e2⟩
        clear hA'
        subst hA
        have HX := hide hx
        have HY := hide hy
        have HM := hide hm
        clear hx hy hm c0 c2 c3 d0 d2 d3
        obtain ⟨xw, xs, xf, xk⟩ := x
        obtain ⟨yw, ys, yf, yk⟩ := y
        simp only at c1 d1
        by_cases hlt : xs < ys
        · have HS := hide (show fsP l (k + 1) = (k : Int) from by rw [fsP_pos (by omega), fsN_yes (by rw [HM.out, HX.out, HY.out]; exact hlt)])
          have hlt' : decide (xs < ys) = true := decide_eq_true hlt
          clear hlt
          go_wp2_with fail
          go_quiet (fail)
          clear c1 d1
          go_wp2_with fail
          go_roundw
          case rel => exact ⟨k + 1, by rw [HS.out], by go_num, h2, below_drewN HB.out _⟩
          case measure => simp [intOf]; omega
        · have HS := hide (show fsP l (k + 1) = (m : Int) from by rw [fsP_pos (by omega), fsN_no (by rw [HM.out, HX.out, HY.out]; exact hlt), HM.out])
          have hlt' : decide (xs < ys) = false := decide_eq_false hlt
          clear hlt
          go_wp2_with fail
          go_quiet (fail)
          clear c1 d1
          go_wp2_with fail
          go_roundw
          case rel => exact ⟨k + 1, by rw [HS.out], by go_num, h2, below_drewN HB.out _⟩
          case measure => simp [intOf]; omega
    · have h2' : ¬ (k : Int) < (n : Int) := by omega
      have HE := hide (show fsP l k = fstI l from by rw [fstI, HLN.out, show k = n by omega])
      rw [HE.out]
      go_wp2
      go_ret
      exact ⟨rfl, HB.out⟩
end Go.Proofs.Ytlondjmklnehhaa
