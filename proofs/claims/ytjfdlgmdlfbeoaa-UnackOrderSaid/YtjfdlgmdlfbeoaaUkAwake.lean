/-
  Layer 13: awake.
-/
import Derived.Test.YtjfdlgmdlfbeoaaUkPush
import Derived.Test.YtjfdlgmdlfbeoaaUkAck
import Derived.Test.YtjfdlgmdlfbeoaaUkLate
import Derived.Test.YtjfdlgmdlfbeoaaUkVals
import Derived.BigGuardPart
namespace Go.Proofs.Ytjfdlgmdlfbeoaa
set_option linter.unusedSimpArgs false
set_option linter.unusedVariables false
open Go.RowKit

def awQ1 : List It := [⟨[⟨3, 5⟩], 7⟩]
def awQ2 : List It := [⟨[⟨3, 5⟩], 7⟩, ⟨[⟨3, 9⟩], 8⟩]
theorem aw_few1 : FewP awQ1 := fun x hx => by simp [awQ1] at hx; subst hx; simp
theorem aw_few2 : FewP awQ2 := fun x hx => by simp [awQ2] at hx; rcases hx with rfl | rfl <;> simp
theorem aw1 (w : World) (B : Option Addr) (d : Nat) (h : PL w B 1 d [⟨3, 5⟩]) : Calls Try.prog 10 #[.slice none 0 0, .slice B 1 d, .int .i64 7] w fun e w' => ∃ A c, e = .returned (.tuple #[.slice A 1 c, .int .i64 0]) ∧ IL w' A 1 c awQ1 ∧ Below w.heap.size w w' := by
  have := uk_Push none 0 0 [] B 1 d [⟨3, 5⟩] 7 w (IL.none_ w) h (by omega) (by omega) (fun x hx => by cases hx)
  rwa [show pushU [] [⟨3, 5⟩] 7 = (awQ1, 0) by decide] at this
theorem aw2 (w : World) (A : Option Addr) (c : Nat) (B : Option Addr) (d : Nat) (hl : IL w A 1 c awQ1) (h : PL w B 1 d [⟨3, 9⟩]) : Calls Try.prog 10 #[.slice A 1 c, .slice B 1 d, .int .i64 8] w fun e w' => ∃ A c, e = .returned (.tuple #[.slice A 2 c, .int .i64 0]) ∧ IL w' A 2 c awQ2 ∧ Below w.heap.size w w' := by
  have := uk_Push A 1 c awQ1 B 1 d [⟨3, 9⟩] 8 w hl h (by omega) (by omega) aw_few1
  rwa [show pushU awQ1 [⟨3, 9⟩] 8 = (awQ2, 0) by decide] at this
theorem aw3 (w : World) (A : Option Addr) (c : Nat) (hl : IL w A 2 c awQ2) : Calls Try.prog 10 #[.slice A 2 c, .slice none 0 0, .int .i64 7] w fun e w' => ∃ A c, e = .returned (.tuple #[.slice A 2 c, .int .i64 10]) ∧ Below w.heap.size w w' := by
  have := uk_Push A 2 c awQ2 none 0 0 [] 7 w hl (PL.none_ w) (by omega) (by omega) aw_few2
  rw [show pushU awQ2 [] 7 = (awQ2, 10) by decide] at this
  refine this.mono ?_
  rintro e w' ⟨A, c, he, _, hb⟩
  exact ⟨A, c, he, hb⟩
theorem aw4 (w : World) (A : Option Addr) (c : Nat) (hl : IL w A 2 c awQ2) : Calls Try.prog 12 #[.slice A 2 c] w fun e w' => ∃ A1 c1 A2 c2, e = .returned (.tuple #[.slice A1 1 c1, .slice A2 1 c2, .bool true]) ∧ IL w' A1 1 c1 [⟨[⟨3, 9⟩], 8⟩] ∧ PL w' A2 1 c2 [⟨3, 5⟩] ∧ Below w.heap.size w w' :=
  uk_Ack A 2 c awQ2 w hl (by omega) aw_few2
theorem aw5 (w : World) : Calls Try.prog 12 #[.slice none 0 0] w fun e w' => ∃ A1 c1 A2 c2, e = .returned (.tuple #[.slice A1 0 c1, .slice A2 0 c2, .bool false]) ∧ Below w.heap.size w w' := by
  refine (uk_Ack none 0 0 [] w (IL.none_ w) (by omega) (fun x hx => by cases hx)).mono ?_
  rintro e w' ⟨A1, c1, A2, c2, he, _, _, hb⟩
  exact ⟨A1, c1, A2, c2, he, hb⟩
theorem awL1 (w : World) (A : Option Addr) (c : Nat) (hl : IL w A 2 c awQ2) : Calls Try.prog 19 #[.slice A 2 c, .int .i64 10, .int .i64 3] w fun e w' => e = .returned (.bool true) ∧ w = w' := by
  have := uk_Late A 2 c awQ2 10 3 w hl (by omega)
  rwa [show lateU awQ2 10 3 = true by decide] at this
theorem awL2 (w : World) (A : Option Addr) (c : Nat) (hl : IL w A 2 c awQ2) : Calls Try.prog 19 #[.slice A 2 c, .int .i64 9, .int .i64 3] w fun e w' => e = .returned (.bool false) ∧ w = w' := by
  have := uk_Late A 2 c awQ2 9 3 w hl (by omega)
  rwa [show lateU awQ2 9 3 = false by decide] at this
theorem awM1 (w : World) (A : Option Addr) (c : Nat) (hl : IL w A 2 c awQ2) : Calls Try.prog 21 #[.slice A 2 c, .int .u16 3, .int .i64 6] w fun e w' => e = .returned (.int .i64 5) ∧ Below w.heap.size w w' := by
  have := uk_Least A 2 c awQ2 3 6 w hl (by omega) aw_few2
  rwa [show leastU 3 6 awQ2 = 5 by decide] at this
theorem awM2 (w : World) (A : Option Addr) (c : Nat) (hl : IL w A 2 c awQ2) : Calls Try.prog 23 #[.slice A 2 c, .int .u16 3, .int .i64 6] w fun e w' => e = .returned (.int .i64 9) ∧ Below w.heap.size w w' := by
  have := uk_Greatest A 2 c awQ2 3 6 w hl (by omega) aw_few2
  rwa [show mostU 3 6 awQ2 = 9 by decide] at this
theorem awM3 (w : World) (A : Option Addr) (c : Nat) (hl : IL w A 2 c awQ2) : Calls Try.prog 21 #[.slice A 2 c, .int .u16 4, .int .i64 6] w fun e w' => e = .returned (.int .i64 6) ∧ Below w.heap.size w w' := by
  have := uk_Least A 2 c awQ2 4 6 w hl (by omega) aw_few2
  rwa [show leastU 4 6 awQ2 = 6 by decide] at this
theorem awC (w : World) (A : Option Addr) (c : Nat) (hl : IL w A 2 c awQ2) : Calls Try.prog 17 #[.slice A 2 c] w fun e w' => e = .returned (.int .i64 0) ∧ Below w.heap.size w w' := by
  have := uk_Check A 2 c awQ2 w hl (by omega)
  rwa [show chkU awQ2 = 0 by decide] at this
theorem awS1 (w : World) (A : Option Addr) (c : Nat) (hl : IL w A 2 c awQ2) : Calls Try.prog 25 #[.slice A 2 c, .slice A 2 c] w fun e w' => e = .returned (.bool true) ∧ Below w.heap.size w w' := by
  have := uk_Same A A 2 2 c c awQ2 awQ2 w hl hl (by omega) (by omega) aw_few2 aw_few2
  rwa [show decide (awQ2 = awQ2) = true by decide] at this
theorem awS2 (w : World) (A : Option Addr) (c : Nat) (B : Option Addr) (d : Nat) (hl : IL w A 2 c awQ2) (hl' : IL w B 1 d awQ1) : Calls Try.prog 25 #[.slice A 2 c, .slice B 1 d] w fun e w' => e = .returned (.bool false) ∧ Below w.heap.size w w' := by
  have := uk_Same A B 2 1 c d awQ2 awQ1 w hl hl' (by omega) (by omega) aw_few2 aw_few1
  rwa [show decide (awQ2 = awQ1) = false by decide] at this

set_option maxRecDepth 100000 in
set_option maxHeartbeats 6400000 in
theorem aw_unack (w : World) : Calls Try.prog 8 #[] w fun e w' => e = .returned (.bool true) ∧ Below w.heap.size w w' := by
  have H1 := hide (fun w B d h => aw1 w B d h)
  have H2 := hide (fun w A c B d h h2 => aw2 w A c B d h h2)
  have H3 := hide (fun w A c h => aw3 w A c h)
  have H4 := hide (fun w A c h => aw4 w A c h)
  have H5 := hide (fun w => aw5 w)
  have HL1 := hide (fun w A c h => awL1 w A c h)
  have HL2 := hide (fun w A c h => awL2 w A c h)
  have HM1 := hide (fun w A c h => awM1 w A c h)
  have HM2 := hide (fun w A c h => awM2 w A c h)
  have HM3 := hide (fun w A c h => awM3 w A c h)
  have HCK := hide (fun w A c h => awC w A c h)
  have HS1 := hide (fun w A c h => awS1 w A c h)
  have HS2 := hide (fun w A c B d h h2 => awS2 w A c B d h h2)
  have P1 := hide (pl_blk (l := [⟨3, 5⟩]) (BlkIs.new w 60 #[.int .u16 3, .int .u32 5]) (by unfold maxLen; simp))
  have B1 := hide (bel1 w (.cells #[.int .u16 3, .int .u32 5] 60))
  go_enter Try.func8, Try.ntmps8
  go_wp2_with fail
  refine (H1.out _ _ _ P1.out).mono ?_
  rintro e w1 ⟨A1, c1, rfl, hq1, hb1⟩
  have I1 := hide (hq1.alloc (.cells #[.int .u16 3, .int .u32 9] 60))
  have P2 := hide (pl_blk (l := [⟨3, 9⟩]) (BlkIs.new w1 60 #[.int .u16 3, .int .u32 9]) (by unfold maxLen; simp))
  have B2a := hide (B1.out.trans (hb1.mono B1.out.size))
  have B2 := hide (B2a.out.alloc B2a.out.size (.cells #[.int .u16 3, .int .u32 9] 60))
  clear hq1 hb1 P1 B1 B2a H1
  go_wp2_with fail
  refine (H2.out _ _ _ _ _ I1.out P2.out).mono ?_
  rintro e w2 ⟨A2, c2, rfl, hq2, hb2⟩
  have I2 := hide hq2
  have J1 := hide (I1.out.keep hb2)
  have B3 := hide (B2.out.trans (hb2.mono B2.out.size))
  clear hq2 hb2 P2 I1 B2 H2
  go_wp2_with fail
  refine (H3.out _ _ _ I2.out).mono ?_
  rintro e w3 ⟨A3, c3, rfl, hb3⟩
  have I3 := hide (I2.out.keep hb3)
  have J2 := hide (J1.out.keep hb3)
  have B4 := hide (B3.out.trans (hb3.mono B3.out.size))
  clear hb3 I2 J1 B3 H3
  go_wp2_with fail
  refine (H4.out _ _ _ I3.out).mono ?_
  rintro e w4 ⟨A4, c4, A5, c5, rfl, hq4, hp4, hb4⟩
  have I4 := hide (I3.out.keep hb4)
  have J3 := hide (J2.out.keep hb4)
  have O4 := hide hq4
  have P4 := hide hp4
  have B5 := hide (B4.out.trans (hb4.mono B4.out.size))
  clear hb4 I3 J2 B4 H4 hq4 hp4
  go_wp2_with fail
  refine (H5.out _).mono ?_
  rintro e w5 ⟨A6, c6, A7, c7, rfl, hb5⟩
  have I5 := hide (I4.out.keep hb5)
  have J4 := hide (J3.out.keep hb5)
  have B6 := hide (B5.out.trans (hb5.mono B5.out.size))
  obtain ⟨x, A8, c8, b, off, hx, rfl, hbl, _, o1, -⟩ := (O4.out.keep hb5).round (show 0 < 1 by omega)
  obtain ⟨p, b2, off2, hp, rfl, hbl2, _, o2⟩ := (P4.out.keep hb5).round (show 0 < 1 by omega)
  have hx1 : (⟨[⟨3, 9⟩], 8⟩ : It) = x := Option.some.inj hx
  have hp1 : (⟨3, 5⟩ : Pr) = p := Option.some.inj hp
  subst hx1 hp1
  rw [show off + 0 * 2 = off by omega] at o1
  rw [show off2 + 0 * 2 = off2 by omega] at o2
  simp only at o1 o2
  clear hb5 I4 J3 B5 H5 O4 P4 hx hp
  go_wp2_with fail
  clear o1 o2
  refine (HL1.out _ _ _ I5.out).mono ?_
  rintro e w6 ⟨rfl, rfl⟩
  go_wp2_with fail
  refine (HL2.out _ _ _ I5.out).mono ?_
  rintro e w7 ⟨rfl, rfl⟩
  go_wp2_with fail
  refine (HM1.out _ _ _ I5.out).mono ?_
  rintro e w8 ⟨rfl, hb⟩
  have I22 := hide (I5.out.keep hb)
  have J22 := hide (J4.out.keep hb)
  have B22 := hide (B6.out.trans (hb.mono B6.out.size))
  clear hb I5 J4 B6
  go_wp2_with fail
  refine (HM2.out _ _ _ I22.out).mono ?_
  rintro e w9 ⟨rfl, hb⟩
  have I23 := hide (I22.out.keep hb)
  have J23 := hide (J22.out.keep hb)
  have B23 := hide (B22.out.trans (hb.mono B22.out.size))
  clear hb I22 J22 B22
  go_wp2_with fail
  refine (HM3.out _ _ _ I23.out).mono ?_
  rintro e w10 ⟨rfl, hb⟩
  have I24 := hide (I23.out.keep hb)
  have J24 := hide (J23.out.keep hb)
  have B24 := hide (B23.out.trans (hb.mono B23.out.size))
  clear hb I23 J23 B23
  go_wp2_with fail
  refine (HCK.out _ _ _ I24.out).mono ?_
  rintro e w11 ⟨rfl, hb⟩
  have I25 := hide (I24.out.keep hb)
  have J25 := hide (J24.out.keep hb)
  have B25 := hide (B24.out.trans (hb.mono B24.out.size))
  clear hb I24 J24 B24
  go_wp2_with fail
  refine (HS1.out _ _ _ I25.out).mono ?_
  rintro e w12 ⟨rfl, hb⟩
  have I26 := hide (I25.out.keep hb)
  have J26 := hide (J25.out.keep hb)
  have B26 := hide (B25.out.trans (hb.mono B25.out.size))
  clear hb I25 J25 B25
  go_wp2_with fail
  refine (HS2.out _ _ _ _ _ I26.out J26.out).mono ?_
  rintro e w13 ⟨rfl, hb⟩
  have I27 := hide (I26.out.keep hb)
  have J27 := hide (J26.out.keep hb)
  have B27 := hide (B26.out.trans (hb.mono B26.out.size))
  clear hb I26 J26 B26
  go_wp2_with fail
  go_ret
  exact ⟨rfl, B27.out⟩
end Go.Proofs.Ytjfdlgmdlfbeoaa
