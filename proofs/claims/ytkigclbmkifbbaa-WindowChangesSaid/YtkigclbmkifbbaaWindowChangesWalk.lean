/-
  WindowChanges: its walk: for every three numbers the Go text returns true, and leaves what was there as it was.
-/
import Derived.Test.YtkigclbmkifbbaaWiAwake
import Derived.BigGuardPart
namespace Go.Proofs.Ytkigclbmkifbbaa.windowChanges
set_option linter.unusedSimpArgs false
set_option linter.unusedVariables false
open Go.RowKit

set_option maxRecDepth 100000 in
set_option maxHeartbeats 3200000 in
theorem walk (a0 a1 a2 : Int) (w : World) (w0 : (Lit.int .i64 a0).wf = true) (w1 : (Lit.int .i64 a1).wf = true) (w2 : (Lit.int .i64 a2).wf = true) :
    Calls Try.prog 3 #[.int .i64 a0, .int .i64 a1, .int .i64 a2] w fun e w' => e = .returned (.bool true) ∧ Below w.heap.size w w' := by
  clear w0 w1 w2
  have T1 := hide (fun w => wi_Take a0 a1 w)
  have T2 := hide (fun w => rw_Take a0 a1 w)
  have G1 := hide (fun w => wi_Give a0 a1 w)
  have G2 := hide (fun w => rw_Give a0 a1 w)
  have S1 := hide (fun w => wi_Shift a0 a1 a2 w)
  have S2 := hide (fun w => rw_Shift a0 a1 a2 w)
  have C1 := hide (fun w => wi_Check a0 w)
  have C2 := hide (fun w => rw_Check a0 w)
  have HAW := hide aw_window
  have hg := giveR_code a0 a1
  have hs := shiftR_code a0 a1 a2
  generalize takeR a0 a1 = t at *
  generalize giveR a0 a1 = g at *
  generalize shiftR a0 a1 a2 = s at *
  generalize chkW a0 = c at *
  obtain ⟨t1, t2⟩ := t
  obtain ⟨g1, g2⟩ := g
  obtain ⟨s1, s2⟩ := s
  simp only at *
  have g0 : 0 ≤ g2 := by omega
  have g3 : g2 ≤ 3 := by omega
  have s0 : 0 ≤ s2 := by omega
  have s3 : s2 ≤ 3 := by omega
  clear hg hs
  go_enter Try.func3, Try.ntmps3
  go_wp2_with fail
  refine (T1.out _).mono ?_
  rintro e w' ⟨rfl, rfl⟩
  go_wp2_with fail
  refine (T2.out _).mono ?_
  rintro e w' ⟨rfl, rfl⟩
  go_wp2_with fail
  refine (G1.out _).mono ?_
  rintro e w' ⟨rfl, rfl⟩
  go_wp2_with fail
  refine (G2.out _).mono ?_
  rintro e w' ⟨rfl, rfl⟩
  go_wp2_with fail
  refine (S1.out _).mono ?_
  rintro e w' ⟨rfl, rfl⟩
  go_wp2_with fail
  refine (S2.out _).mono ?_
  rintro e w' ⟨rfl, rfl⟩
  go_wp2_with fail
  refine (C1.out _).mono ?_
  rintro e w' ⟨rfl, rfl⟩
  go_wp2_with fail
  refine (C2.out _).mono ?_
  rintro e w' ⟨rfl, rfl⟩
  go_wp2_with fail
  refine (HAW.out _).mono ?_
  rintro e w' ⟨rfl, hb⟩
  have HB := hide hb
  clear hb
  go_wp2
  go_ret
  exact ⟨rfl, HB.out⟩
end Go.Proofs.Ytkigclbmkifbbaa.windowChanges
