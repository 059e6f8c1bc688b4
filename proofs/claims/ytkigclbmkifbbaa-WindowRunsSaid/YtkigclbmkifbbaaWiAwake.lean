/-
  Layer 14: awake.
-/
import Derived.Test.YtkigclbmkifbbaaWiRun
import Derived.BigGuardPart
namespace Go.Proofs.Ytkigclbmkifbbaa
set_option linter.unusedSimpArgs false
set_option linter.unusedVariables false
open Go.RowKit

def awA : List Wa := [⟨0, 4⟩, ⟨1, 9⟩, ⟨0, 16⟩, ⟨1, 1⟩]
theorem aw_t1 (w : World) : Calls Try.prog 7 #[.int .i64 5, .int .i64 5] w fun e w' => e = .returned (.tuple #[.int .i64 0, .bool true]) ∧ w = w' := by
  have := wi_Take 5 5 w
  rwa [show takeR 5 5 = (0, true) by decide] at this
theorem aw_t2 (w : World) : Calls Try.prog 7 #[.int .i64 5, .int .i64 6] w fun e w' => e = .returned (.tuple #[.int .i64 5, .bool false]) ∧ w = w' := by
  have := wi_Take 5 6 w
  rwa [show takeR 5 6 = (5, false) by decide] at this
theorem aw_g1 (w : World) : Calls Try.prog 9 #[.int .i64 2147483647, .int .i64 1] w fun e w' => e = .returned (.tuple #[.int .i64 2147483647, .int .u32 3]) ∧ w = w' := by
  have := wi_Give 2147483647 1 w
  rwa [show giveR 2147483647 1 = (2147483647, 3) by decide] at this
theorem aw_s1 (w : World) : Calls Try.prog 11 #[.int .i64 10, .int .i64 100, .int .i64 0] w fun e w' => e = .returned (.tuple #[.int .i64 (-90), .int .u32 0]) ∧ w = w' := by
  have := wi_Shift 10 100 0 w
  rwa [show shiftR 10 100 0 = (-90, 0) by decide] at this
theorem aw_g2 (w : World) : Calls Try.prog 9 #[.int .i64 5, .int .i64 0] w fun e w' => e = .returned (.tuple #[.int .i64 5, .int .u32 1]) ∧ w = w' := by
  have := wi_Give 5 0 w
  rwa [show giveR 5 0 = (5, 1) by decide] at this
theorem aw_r (w : World) (A : Option Addr) (h : WL w A 4 4 awA) : Calls Try.prog 16 #[.int .i64 10, .slice A 4 4] w fun e w' => e = .returned (.tuple #[.int .i64 15, .int .u32 3]) ∧ Below w.heap.size w w' := by
  have := wi_Run A 4 4 awA 10 w h (by omega)
  rwa [show runR 10 awA = (15, 3) by decide] at this
theorem aw_m1 (w : World) : Calls Try.prog 18 #[.int .i64 9, .int .i64 7, .int .i64 8, .int .i64 20] w fun e w' => e = .returned (.int .i64 7) ∧ w = w' := wi_May 9 7 8 20 w
theorem aw_m2 (w : World) : Calls Try.prog 18 #[.int .i64 9, .int .i64 (-1), .int .i64 8, .int .i64 20] w fun e w' => e = .returned (.int .i64 0) ∧ w = w' := wi_May 9 (-1) 8 20 w
theorem aw_c1 (w : World) : Calls Try.prog 13 #[.int .i64 2147483647] w fun e w' => e = .returned (.int .i64 0) ∧ w = w' := by
  have := wi_Check 2147483647 w
  rwa [show chkW 2147483647 = 0 by decide] at this
theorem aw_c2 (w : World) : Calls Try.prog 13 #[.int .i64 2147483648] w fun e w' => e = .returned (.int .i64 8) ∧ w = w' := by
  have := wi_Check 2147483648 w
  rwa [show chkW 2147483648 = 8 by decide] at this

set_option maxRecDepth 100000 in
set_option maxHeartbeats 1600000 in
theorem aw_window (w : World) : Calls Try.prog 15 #[] w fun e w' => e = .returned (.bool true) ∧ Below w.heap.size w w' := by
  have T1 := hide aw_t1
  have T2 := hide aw_t2
  have G1 := hide aw_g1
  have S1 := hide aw_s1
  have G2 := hide aw_g2
  have R := hide aw_r
  have M1 := hide aw_m1
  have M2 := hide aw_m2
  have C1 := hide aw_c1
  have C2 := hide aw_c2
  have HL := hide (wl_blk (l := awA) (BlkIs.new w 41 (wcs awA).toArray) (by unfold maxLen; simp [awA]))
  have HB := hide (bel1 w (.cells (wcs awA).toArray 41))
  simp only [awA, wcs, List.length_cons, List.length_nil, Nat.zero_add, Nat.reduceAdd] at HL HB
  go_enter Try.func15, Try.ntmps15
  go_wp2_with fail
  refine (T1.out _).mono ?_
  rintro e w' ⟨rfl, rfl⟩
  go_wp2_with fail
  refine (T2.out _).mono ?_
  rintro e w' ⟨rfl, rfl⟩
  go_wp2_with fail
  refine (G1.out _).mono ?_
  rintro e w' ⟨rfl, rfl⟩
  go_wp2_with fail
  refine (S1.out _).mono ?_
  rintro e w' ⟨rfl, rfl⟩
  go_wp2_with fail
  refine (G2.out _).mono ?_
  rintro e w' ⟨rfl, rfl⟩
  go_wp2_with fail
  refine (R.out _ _ HL.out).mono ?_
  rintro e w2 ⟨rfl, hb2⟩
  have HB2 := hide (HB.out.trans (hb2.mono HB.out.size))
  clear hb2
  go_wp2_with fail
  refine (M1.out _).mono ?_
  rintro e w' ⟨rfl, rfl⟩
  go_wp2_with fail
  refine (M2.out _).mono ?_
  rintro e w' ⟨rfl, rfl⟩
  go_wp2_with fail
  refine (C1.out _).mono ?_
  rintro e w' ⟨rfl, rfl⟩
  go_wp2_with fail
  refine (C2.out _).mono ?_
  rintro e w' ⟨rfl, rfl⟩
  go_wp2
  go_ret
  exact ⟨rfl, HB2.out⟩
end Go.Proofs.Ytkigclbmkifbbaa
