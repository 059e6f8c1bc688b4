/-
  Layer 22: awake.
-/
import Derived.Test.YtjcibpefbfengaaHyRun
import Derived.Test.YtjcibpefbfengaaNumRow
import Derived.BigGuardPart
namespace Go.Proofs.Ytjcibpefbfengaa
set_option linter.unusedSimpArgs false
set_option linter.unusedVariables false
open Go.RowKit

theorem aw_n1 (w : World) : Calls Try.prog 6 #[.int .i64 1, .int .i64 16, .int .i64 5, .int .i64 20, .int .i64 3] w fun e w' => e = .returned (.tuple #[.agg #[.int .i64 16, .int .i64 1, .int .i64 16, .int .i64 5, .int .i64 20, .int .i64 3, .int .i64 0], .int .i64 0]) ∧ Below w.heap.size w w' := by
  have := hy_New 1 16 5 20 3 w
  rwa [show newH 1 16 5 20 3 = (⟨16, 1, 16, 5, 20, 3, 0⟩, 0) from by decide +kernel] at this
theorem aw_n2 (w : World) : Calls Try.prog 6 #[.int .i64 0, .int .i64 16, .int .i64 5, .int .i64 20, .int .i64 3] w fun e w' => e = .returned (.tuple #[.agg #[.int .i64 0, .int .i64 0, .int .i64 0, .int .i64 0, .int .i64 0, .int .i64 0, .int .i64 0], .int .i64 8]) ∧ Below w.heap.size w w' := by
  have := hy_New 0 16 5 20 3 w
  rwa [show newH 0 16 5 20 3 = (⟨0, 0, 0, 0, 0, 0, 0⟩, 8) from by decide +kernel] at this
theorem aw_s (w : World) : Calls Try.prog 10 #[.agg #[.int .i64 16, .int .i64 1, .int .i64 16, .int .i64 5, .int .i64 20, .int .i64 3, .int .i64 0], .int .i64 21] w fun e w' => e = .returned (.tuple #[.agg #[.int .i64 8, .int .i64 1, .int .i64 16, .int .i64 5, .int .i64 20, .int .i64 3, .int .i64 0], .bool true]) ∧ Below w.heap.size w w' := by
  have := hy_See ⟨16, 1, 16, 5, 20, 3, 0⟩ 21 w
  rwa [show stpH ⟨16, 1, 16, 5, 20, 3, 0⟩ 21 = ⟨8, 1, 16, 5, 20, 3, 0⟩ from by decide +kernel, show chgB ⟨16, 1, 16, 5, 20, 3, 0⟩ 21 = true from by decide +kernel] at this
theorem aw_r (w : World) (g c : Nat) (h : NL .i64 w (some ⟨g, 0, none⟩) 6 c [0, 4, 5, 0, 0, 0]) : Calls Try.prog 12 #[.agg #[.int .i64 8, .int .i64 1, .int .i64 16, .int .i64 5, .int .i64 20, .int .i64 3, .int .i64 0], .slice (some ⟨g, 0, none⟩) 6 c] w fun e w' => e = .returned (.tuple #[.agg #[.int .i64 9, .int .i64 1, .int .i64 16, .int .i64 5, .int .i64 20, .int .i64 3, .int .i64 0], .int .i64 1]) ∧ Below w.heap.size w w' := by
  have := hy_Run ⟨8, 1, 16, 5, 20, 3, 0⟩ (some ⟨g, 0, none⟩) 6 c [0, 4, 5, 0, 0, 0] w h (by decide)
  rwa [show endH ⟨8, 1, 16, 5, 20, 3, 0⟩ [0, 4, 5, 0, 0, 0] = ⟨9, 1, 16, 5, 20, 3, 0⟩ from by decide +kernel, show cntH ⟨8, 1, 16, 5, 20, 3, 0⟩ [0, 4, 5, 0, 0, 0] = 1 from by decide +kernel] at this
theorem aw_z1 (w : World) : Calls Try.prog 11 #[.agg #[.int .i64 16, .int .i64 1, .int .i64 16, .int .i64 5, .int .i64 20, .int .i64 3, .int .i64 0], .int .i64 21] w fun e w' => e = .returned (.int .i64 1) ∧ Below w.heap.size w w' := by
  have := hy_Zone ⟨16, 1, 16, 5, 20, 3, 0⟩ 21 w
  rwa [show zonI ⟨16, 1, 16, 5, 20, 3, 0⟩ 21 = 1 from by decide +kernel] at this
theorem aw_z2 (w : World) : Calls Try.prog 11 #[.agg #[.int .i64 16, .int .i64 1, .int .i64 16, .int .i64 5, .int .i64 20, .int .i64 3, .int .i64 0], .int .i64 20] w fun e w' => e = .returned (.int .i64 0) ∧ Below w.heap.size w w' := by
  have := hy_Zone ⟨16, 1, 16, 5, 20, 3, 0⟩ 20 w
  rwa [show zonI ⟨16, 1, 16, 5, 20, 3, 0⟩ 20 = 0 from by decide +kernel] at this
theorem aw_z3 (w : World) : Calls Try.prog 11 #[.agg #[.int .i64 16, .int .i64 1, .int .i64 16, .int .i64 5, .int .i64 20, .int .i64 3, .int .i64 0], .int .i64 4] w fun e w' => e = .returned (.int .i64 (-1)) ∧ Below w.heap.size w w' := by
  have := hy_Zone ⟨16, 1, 16, 5, 20, 3, 0⟩ 4 w
  rwa [show zonI ⟨16, 1, 16, 5, 20, 3, 0⟩ 4 = (-1) from by decide +kernel] at this
theorem aw_c (w : World) : Calls Try.prog 9 #[.agg #[.int .i64 9, .int .i64 1, .int .i64 16, .int .i64 5, .int .i64 20, .int .i64 3, .int .i64 0]] w fun e w' => e = .returned (.int .i64 0) ∧ Below w.heap.size w w' := by
  have := hy_Check ⟨9, 1, 16, 5, 20, 3, 0⟩ w
  rwa [show chkH ⟨9, 1, 16, 5, 20, 3, 0⟩ = 0 from by decide +kernel] at this
set_option maxRecDepth 100000 in
set_option maxHeartbeats 3200000 in
theorem aw_hyst (w : World) : Calls Try.prog 8 #[] w fun e w' => e = .returned (.bool true) ∧ Below w.heap.size w w' := by
  have Qn1 := hide aw_n1
  have Qn2 := hide aw_n2
  have Qs := hide aw_s
  have Qz1 := hide aw_z1
  have Qz2 := hide aw_z2
  have Qz3 := hide aw_z3
  have Qc := hide aw_c
  have Qr := hide aw_r
  have HB0 := hide (Below.refl w.heap.size w)
  go_enter Try.func8, Try.ntmps8
  go_wp2_with fail
  refine (Qn1.out _).mono ?_
  rintro e w1 ⟨rfl, hb⟩
  have HB := hide (HB0.out.trans (hb.mono HB0.out.size))
  clear hb
  obtain ⟨gst, hg⟩ : ∃ g, g = w1.heap.size := ⟨_, rfl⟩
  have Gst := hide hg.symm
  have Hst := hide (show BlkIs (w1.alloc (.cells #[.int .i64 16, .int .i64 1, .int .i64 16, .int .i64 5, .int .i64 20, .int .i64 3, .int .i64 0] 24)) gst 24 #[.int .i64 16, .int .i64 1, .int .i64 16, .int .i64 5, .int .i64 20, .int .i64 3, .int .i64 0] by rw [hg]; exact BlkIs.new w1 _ _)
  have HB := hide (HB.out.alloc HB.out.size (.cells #[.int .i64 16, .int .i64 1, .int .i64 16, .int .i64 5, .int .i64 20, .int .i64 3, .int .i64 0] 24))
  clear hg
  go_upto_region 2 with (fail)
  rw [Gst.out]
  generalize w1.alloc (.cells #[.int .i64 16, .int .i64 1, .int .i64 16, .int .i64 5, .int .i64 20, .int .i64 3, .int .i64 0] 24) = v1 at *
  go_wp2_with (first | (refine wpList_load_blk rfl 24 (.tmp 1) rfl gst rfl 24 #[.int .i64 16, .int .i64 1, .int .i64 16, .int .i64 5, .int .i64 20, .int .i64 3, .int .i64 0] _ Hst.out Try.underlying24 rfl hy_size ?_))
  refine (Qs.out _).mono ?_
  rintro e w2 ⟨rfl, hb⟩
  have Hst := hide (Hst.out.keep hb)
  have HB := hide (HB.out.trans (hb.mono HB.out.size))
  clear hb
  obtain ⟨ga, hg⟩ : ∃ g, g = w2.heap.size := ⟨_, rfl⟩
  have Ga := hide hg.symm
  have Ha := hide (show BlkIs (w2.alloc (.cells #[.int .i64 8, .int .i64 1, .int .i64 16, .int .i64 5, .int .i64 20, .int .i64 3, .int .i64 0] 24)) ga 24 #[.int .i64 8, .int .i64 1, .int .i64 16, .int .i64 5, .int .i64 20, .int .i64 3, .int .i64 0] by rw [hg]; exact BlkIs.new w2 _ _)
  have Hst := hide (Hst.out.alloc (.cells #[.int .i64 8, .int .i64 1, .int .i64 16, .int .i64 5, .int .i64 20, .int .i64 3, .int .i64 0] 24))
  have HB := hide (HB.out.alloc HB.out.size (.cells #[.int .i64 8, .int .i64 1, .int .i64 16, .int .i64 5, .int .i64 20, .int .i64 3, .int .i64 0] 24))
  clear hg
  go_upto_region 3 with (fail)
  rw [Ga.out]
  generalize w2.alloc (.cells #[.int .i64 8, .int .i64 1, .int .i64 16, .int .i64 5, .int .i64 20, .int .i64 3, .int .i64 0] 24) = v2 at *
  go_wp2_with (first | (refine wpList_load_blk rfl 24 (.tmp 3) rfl ga rfl 24 #[.int .i64 8, .int .i64 1, .int .i64 16, .int .i64 5, .int .i64 20, .int .i64 3, .int .i64 0] _ Ha.out Try.underlying24 rfl hy_size ?_))
  obtain ⟨gl, hg⟩ : ∃ g, g = v2.heap.size := ⟨_, rfl⟩
  have GL := hide hg.symm
  have HK := hide (show BlkIs (v2.alloc (.cells (ncs [0, 4, 5, 0, 0, 0]).toArray 3)) gl 3 (ncs [0, 4, 5, 0, 0, 0]).toArray by rw [hg]; exact BlkIs.new v2 _ _)
  have Hst := hide (Hst.out.alloc (.cells (ncs [0, 4, 5, 0, 0, 0]).toArray 3))
  have Ha := hide (Ha.out.alloc (.cells (ncs [0, 4, 5, 0, 0, 0]).toArray 3))
  have HB := hide (HB.out.alloc HB.out.size (.cells (ncs [0, 4, 5, 0, 0, 0]).toArray 3))
  clear hg
  rw [GL.out]
  change Calls Try.prog 12 _ (v2.alloc (.cells (ncs [0, 4, 5, 0, 0, 0]).toArray 3)) _
  generalize v2.alloc (.cells (ncs [0, 4, 5, 0, 0, 0]).toArray 3) = u0 at *
  refine (Qr.out u0 gl _ (nl_blk HK.out (by unfold AllN; decide) (by decide))).mono ?_
  rintro e w3 ⟨rfl, hb⟩
  have Hst := hide (Hst.out.keep hb)
  have Ha := hide (Ha.out.keep hb)
  have HB := hide (HB.out.trans (hb.mono HB.out.size))
  clear hb HK
  obtain ⟨gb, hg⟩ : ∃ g, g = w3.heap.size := ⟨_, rfl⟩
  have Gb := hide hg.symm
  have Hb := hide (show BlkIs (w3.alloc (.cells #[.int .i64 9, .int .i64 1, .int .i64 16, .int .i64 5, .int .i64 20, .int .i64 3, .int .i64 0] 24)) gb 24 #[.int .i64 9, .int .i64 1, .int .i64 16, .int .i64 5, .int .i64 20, .int .i64 3, .int .i64 0] by rw [hg]; exact BlkIs.new w3 _ _)
  have Hst := hide (Hst.out.alloc (.cells #[.int .i64 9, .int .i64 1, .int .i64 16, .int .i64 5, .int .i64 20, .int .i64 3, .int .i64 0] 24))
  have Ha := hide (Ha.out.alloc (.cells #[.int .i64 9, .int .i64 1, .int .i64 16, .int .i64 5, .int .i64 20, .int .i64 3, .int .i64 0] 24))
  have HB := hide (HB.out.alloc HB.out.size (.cells #[.int .i64 9, .int .i64 1, .int .i64 16, .int .i64 5, .int .i64 20, .int .i64 3, .int .i64 0] 24))
  clear hg
  go_upto_region 4 with (fail)
  rw [Gb.out]
  generalize w3.alloc (.cells #[.int .i64 9, .int .i64 1, .int .i64 16, .int .i64 5, .int .i64 20, .int .i64 3, .int .i64 0] 24) = v3 at *
  go_wp2_with fail
  refine (Qn2.out _).mono ?_
  rintro e w4 ⟨rfl, hb⟩
  have Hst := hide (Hst.out.keep hb)
  have Ha := hide (Ha.out.keep hb)
  have Hb := hide (Hb.out.keep hb)
  have HB := hide (HB.out.trans (hb.mono HB.out.size))
  clear hb
  obtain ⟨gz, hg⟩ : ∃ g, g = w4.heap.size := ⟨_, rfl⟩
  have Gz := hide hg.symm
  have Hst := hide (Hst.out.alloc (.cells #[.int .i64 0, .int .i64 0, .int .i64 0, .int .i64 0, .int .i64 0, .int .i64 0, .int .i64 0] 24))
  have Ha := hide (Ha.out.alloc (.cells #[.int .i64 0, .int .i64 0, .int .i64 0, .int .i64 0, .int .i64 0, .int .i64 0, .int .i64 0] 24))
  have Hb := hide (Hb.out.alloc (.cells #[.int .i64 0, .int .i64 0, .int .i64 0, .int .i64 0, .int .i64 0, .int .i64 0, .int .i64 0] 24))
  have HB := hide (HB.out.alloc HB.out.size (.cells #[.int .i64 0, .int .i64 0, .int .i64 0, .int .i64 0, .int .i64 0, .int .i64 0, .int .i64 0] 24))
  clear hg
  go_upto_region 5 with (fail)
  rw [Gz.out]
  generalize w4.alloc (.cells #[.int .i64 0, .int .i64 0, .int .i64 0, .int .i64 0, .int .i64 0, .int .i64 0, .int .i64 0] 24) = v4 at *
  have kst := (Hst.out.cell 0).trans (show _ = some (Value.int .i64 16) from rfl)
  have ka := (Ha.out.cell 0).trans (show _ = some (Value.int .i64 8) from rfl)
  have kb := (Hb.out.cell 0).trans (show _ = some (Value.int .i64 9) from rfl)
  go_wp2_with (first | (refine rgs_load_want (by rfl) 24 (.tmp 1) rfl gst rfl 24 #[.int .i64 16, .int .i64 1, .int .i64 16, .int .i64 5, .int .i64 20, .int .i64 3, .int .i64 0] _ Hst.out Try.underlying24 rfl hy_size ?_))
  refine (Qz1.out _).mono ?_
  rintro e w5 ⟨rfl, hb⟩
  have Hst := hide (Hst.out.keep hb)
  have Ha := hide (Ha.out.keep hb)
  have Hb := hide (Hb.out.keep hb)
  have HB := hide (HB.out.trans (hb.mono HB.out.size))
  clear hb
  clear kst ka kb
  go_wp2_with (first | (refine rgs_load_want (by rfl) 24 (.tmp 1) rfl gst rfl 24 #[.int .i64 16, .int .i64 1, .int .i64 16, .int .i64 5, .int .i64 20, .int .i64 3, .int .i64 0] _ Hst.out Try.underlying24 rfl hy_size ?_))
  refine (Qz2.out _).mono ?_
  rintro e w6 ⟨rfl, hb⟩
  have Hst := hide (Hst.out.keep hb)
  have Ha := hide (Ha.out.keep hb)
  have Hb := hide (Hb.out.keep hb)
  have HB := hide (HB.out.trans (hb.mono HB.out.size))
  clear hb
  go_wp2_with (first | (refine rgs_load_want (by rfl) 24 (.tmp 1) rfl gst rfl 24 #[.int .i64 16, .int .i64 1, .int .i64 16, .int .i64 5, .int .i64 20, .int .i64 3, .int .i64 0] _ Hst.out Try.underlying24 rfl hy_size ?_))
  refine (Qz3.out _).mono ?_
  rintro e w7 ⟨rfl, hb⟩
  have Hst := hide (Hst.out.keep hb)
  have Ha := hide (Ha.out.keep hb)
  have Hb := hide (Hb.out.keep hb)
  have HB := hide (HB.out.trans (hb.mono HB.out.size))
  clear hb
  go_wp2_with (first | (refine rgs_load_want (by rfl) 24 (.tmp 5) rfl gb rfl 24 #[.int .i64 9, .int .i64 1, .int .i64 16, .int .i64 5, .int .i64 20, .int .i64 3, .int .i64 0] _ Hb.out Try.underlying24 rfl hy_size ?_))
  refine (Qc.out _).mono ?_
  rintro e w8 ⟨rfl, hb⟩
  have Hst := hide (Hst.out.keep hb)
  have Ha := hide (Ha.out.keep hb)
  have Hb := hide (Hb.out.keep hb)
  have HB := hide (HB.out.trans (hb.mono HB.out.size))
  clear hb
  go_wp2
  go_ret
  exact ⟨rfl, HB.out⟩
end Go.Proofs.Ytjcibpefbfengaa
