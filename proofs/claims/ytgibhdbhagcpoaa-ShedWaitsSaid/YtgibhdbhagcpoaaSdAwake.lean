/-
  Layer 23: awake.
-/
import Derived.Test.YtgibhdbhagcpoaaSdDecide
import Derived.Test.YtgibhdbhagcpoaaBuNew
import Derived.BigGuardPart
namespace Go.Proofs.Ytgibhdbhagcpoaa
set_option linter.unusedSimpArgs false
set_option linter.unusedVariables false
open Go.RowKit

theorem sw_n (w : World) : Calls Try.prog 24 #[.int .i64 1, .int .i64 1, .int .i64 15] w fun e w' => e = .returned (.tuple #[.agg #[.int .i64 1, .int .i64 1, .int .i64 15, .int .i64 15, .int .i64 0], .int .i64 0]) ∧ Below w.heap.size w w' := by
  have := bu_New 1 1 15 w
  rwa [show newB 1 1 15 = (⟨1, 1, 15, 15, 0⟩, 0) from by decide +kernel] at this
theorem sw_d1 (w : World) : Calls Try.prog 7 #[.agg #[.int .i64 1, .int .i64 2, .int .i64 9, .bool false, .int .i64 1, .int .i64 0, .int .i64 5, .int .i64 0, .int .i64 10], .agg #[.int .i64 1, .int .i64 1, .int .i64 15, .int .i64 15, .int .i64 0]] w fun e w' => e = .returned (.tuple #[.int .i64 0, .agg #[.int .i64 1, .int .i64 1, .int .i64 15, .int .i64 0, .int .i64 0], .int .i64 0]) ∧ Below w.heap.size w w' := by
  have := sd_Decide ⟨1, 2, 9, false, 1, 0, 5, 0, 10⟩ ⟨1, 1, 15, 15, 0⟩ w (by decide) (by decide)
  rwa [show decD ⟨1, 2, 9, false, 1, 0, 5, 0, 10⟩ ⟨1, 1, 15, 15, 0⟩ = (0, ⟨1, 1, 15, 0, 0⟩, 0) from by decide +kernel] at this
theorem sw_d2 (w : World) : Calls Try.prog 7 #[.agg #[.int .i64 1, .int .i64 2, .int .i64 9, .bool false, .int .i64 1, .int .i64 0, .int .i64 5, .int .i64 0, .int .i64 10], .agg #[.int .i64 1, .int .i64 1, .int .i64 15, .int .i64 0, .int .i64 0]] w fun e w' => e = .returned (.tuple #[.int .i64 2, .agg #[.int .i64 1, .int .i64 1, .int .i64 15, .int .i64 0, .int .i64 0], .int .i64 2]) ∧ Below w.heap.size w w' := by
  have := sd_Decide ⟨1, 2, 9, false, 1, 0, 5, 0, 10⟩ ⟨1, 1, 15, 0, 0⟩ w (by decide) (by decide)
  rwa [show decD ⟨1, 2, 9, false, 1, 0, 5, 0, 10⟩ ⟨1, 1, 15, 0, 0⟩ = (2, ⟨1, 1, 15, 0, 0⟩, 2) from by decide +kernel] at this
theorem sw_d3 (w : World) : Calls Try.prog 7 #[.agg #[.int .i64 1, .int .i64 2, .int .i64 9, .bool false, .int .i64 1, .int .i64 5, .int .i64 5, .int .i64 0, .int .i64 10], .agg #[.int .i64 1, .int .i64 1, .int .i64 15, .int .i64 15, .int .i64 0]] w fun e w' => e = .returned (.tuple #[.int .i64 3, .agg #[.int .i64 1, .int .i64 1, .int .i64 15, .int .i64 15, .int .i64 0], .int .i64 1]) ∧ Below w.heap.size w w' := by
  have := sd_Decide ⟨1, 2, 9, false, 1, 5, 5, 0, 10⟩ ⟨1, 1, 15, 15, 0⟩ w (by decide) (by decide)
  rwa [show decD ⟨1, 2, 9, false, 1, 5, 5, 0, 10⟩ ⟨1, 1, 15, 15, 0⟩ = (3, ⟨1, 1, 15, 15, 0⟩, 1) from by decide +kernel] at this
theorem sw_d4 (w : World) : Calls Try.prog 7 #[.agg #[.int .i64 2, .int .i64 2, .int .i64 9, .bool false, .int .i64 1, .int .i64 5, .int .i64 5, .int .i64 0, .int .i64 10], .agg #[.int .i64 1, .int .i64 1, .int .i64 15, .int .i64 15, .int .i64 0]] w fun e w' => e = .returned (.tuple #[.int .i64 1, .agg #[.int .i64 1, .int .i64 1, .int .i64 15, .int .i64 15, .int .i64 0], .int .i64 0]) ∧ Below w.heap.size w w' := by
  have := sd_Decide ⟨2, 2, 9, false, 1, 5, 5, 0, 10⟩ ⟨1, 1, 15, 15, 0⟩ w (by decide) (by decide)
  rwa [show decD ⟨2, 2, 9, false, 1, 5, 5, 0, 10⟩ ⟨1, 1, 15, 15, 0⟩ = (1, ⟨1, 1, 15, 15, 0⟩, 0) from by decide +kernel] at this
theorem sw_d5 (w : World) : Calls Try.prog 7 #[.agg #[.int .i64 9, .int .i64 2, .int .i64 9, .bool false, .int .i64 1, .int .i64 5, .int .i64 5, .int .i64 0, .int .i64 10], .agg #[.int .i64 1, .int .i64 1, .int .i64 15, .int .i64 15, .int .i64 0]] w fun e w' => e = .returned (.tuple #[.int .i64 4, .agg #[.int .i64 1, .int .i64 1, .int .i64 15, .int .i64 15, .int .i64 0], .int .i64 0]) ∧ Below w.heap.size w w' := by
  have := sd_Decide ⟨9, 2, 9, false, 1, 5, 5, 0, 10⟩ ⟨1, 1, 15, 15, 0⟩ w (by decide) (by decide)
  rwa [show decD ⟨9, 2, 9, false, 1, 5, 5, 0, 10⟩ ⟨1, 1, 15, 15, 0⟩ = (4, ⟨1, 1, 15, 15, 0⟩, 0) from by decide +kernel] at this
theorem sw_h (w : World) : Calls Try.prog 16 #[.agg #[.int .i64 1, .int .i64 1, .int .i64 15, .int .i64 0, .int .i64 0]] w fun e w' => e = .returned (.int .i64 0) ∧ Below w.heap.size w w' := by
  have := bu_Has ⟨1, 1, 15, 0, 0⟩ w
  rwa [show hasB ⟨1, 1, 15, 0, 0⟩ = 0 from by decide +kernel] at this
theorem sw_f (w : World) : Calls Try.prog 9 #[.agg #[.int .i64 9, .int .i64 2, .int .i64 9, .bool false, .int .i64 1, .int .i64 5, .int .i64 5, .int .i64 0, .int .i64 10]] w fun e w' => e = .returned (.bool false) ∧ Below w.heap.size w w' := by
  have := sd_Fits ⟨9, 2, 9, false, 1, 5, 5, 0, 10⟩ w (by decide) (by decide)
  rwa [show fitB ⟨9, 2, 9, false, 1, 5, 5, 0, 10⟩ = false from by decide +kernel] at this
theorem sw_s2 (w : World) : Calls Try.prog 11 #[.int .i64 2] w fun e w' => e = .returned (.int .i64 429) ∧ w = w' := by
  have := sd_Status 2 w
  rwa [show staI 2 = 429 from by decide +kernel] at this
theorem sw_s3 (w : World) : Calls Try.prog 11 #[.int .i64 3] w fun e w' => e = .returned (.int .i64 503) ∧ w = w' := by
  have := sd_Status 3 w
  rwa [show staI 3 = 503 from by decide +kernel] at this
theorem sw_c1 (w : World) : Calls Try.prog 13 #[.int .i64 1] w fun e w' => e = .returned (.int .u32 7) ∧ w = w' := by
  have := sd_Code 1 w
  rwa [show codI 1 = 7 from by decide +kernel] at this
theorem sw_c4 (w : World) : Calls Try.prog 13 #[.int .i64 4] w fun e w' => e = .returned (.int .u32 1) ∧ w = w' := by
  have := sd_Code 4 w
  rwa [show codI 4 = 1 from by decide +kernel] at this
theorem sw_c0 (w : World) : Calls Try.prog 13 #[.int .i64 0] w fun e w' => e = .returned (.int .u32 0) ∧ w = w' := by
  have := sd_Code 0 w
  rwa [show codI 0 = 0 from by decide +kernel] at this

theorem ne_of_ty {w : World} {g h : Nat} {c d : Array Value} (a : BlkIs w g 26 c) (b : BlkIs w h 29 d) : g ≠ h := a.ne_ b (by decide)
set_option maxRecDepth 100000 in
set_option maxHeartbeats 3200000 in
theorem aw_shed (w : World) : Calls Try.prog 15 #[] w fun e w' => e = .returned (.bool true) ∧ Below w.heap.size w w' := by
  have Qn := hide sw_n
  have Qd1 := hide sw_d1
  have Qd2 := hide sw_d2
  have Qd3 := hide sw_d3
  have Qd4 := hide sw_d4
  have Qd5 := hide sw_d5
  have Qh := hide sw_h
  have Qf := hide sw_f
  have Qs2 := hide sw_s2
  have Qs3 := hide sw_s3
  have Qc1 := hide sw_c1
  have Qc4 := hide sw_c4
  have Qc0 := hide sw_c0
  have HB0 := hide (Below.refl w.heap.size w)
  go_enter Try.func15, Try.ntmps15
  obtain ⟨gx, hg⟩ : ∃ g, g = w.heap.size := ⟨_, rfl⟩
  have Gx := hide hg.symm
  have Nx := hide (show BlkIs (w.alloc (.cells #[.int .i64 1, .int .i64 2, .int .i64 9, .bool false, .int .i64 1, .int .i64 0, .int .i64 5, .int .i64 0, .int .i64 10] 29)) gx 29 #[.int .i64 1, .int .i64 2, .int .i64 9, .bool false, .int .i64 1, .int .i64 0, .int .i64 5, .int .i64 0, .int .i64 10] by rw [hg]; exact BlkIs.new w _ _)
  clear hg
  have HB2 := hide (HB0.out.alloc HB0.out.size (.cells #[.int .i64 1, .int .i64 2, .int .i64 9, .bool false, .int .i64 1, .int .i64 0, .int .i64 5, .int .i64 0, .int .i64 10] 29))
  clear HB0
  go_upto_region 2 with (fail)
  rw [Gx.out]
  generalize w.alloc (.cells #[.int .i64 1, .int .i64 2, .int .i64 9, .bool false, .int .i64 1, .int .i64 0, .int .i64 5, .int .i64 0, .int .i64 10] 29) = v1 at *
  have HGx := hide (show w.heap.size ≤ gx by rw [← Gx.out]; exact Nat.le_refl _)
  go_wp2_with fail
  refine (Qn.out _).mono ?_
  rintro e w3 ⟨rfl, hb⟩
  have Hx4 := hide (Nx.out.keep hb)
  clear Nx
  have HB4 := hide (HB2.out.trans (hb.mono HB2.out.size))
  clear HB2
  clear hb
  obtain ⟨gb, hg⟩ : ∃ g, g = w3.heap.size := ⟨_, rfl⟩
  have Gb := hide hg.symm
  have Nb := hide (show BlkIs (w3.alloc (.cells #[.int .i64 1, .int .i64 1, .int .i64 15, .int .i64 15, .int .i64 0] 26)) gb 26 #[.int .i64 1, .int .i64 1, .int .i64 15, .int .i64 15, .int .i64 0] by rw [hg]; exact BlkIs.new w3 _ _)
  clear hg
  have Hx6 := hide (Hx4.out.alloc (.cells #[.int .i64 1, .int .i64 1, .int .i64 15, .int .i64 15, .int .i64 0] 26))
  clear Hx4
  have HB6 := hide (HB4.out.alloc HB4.out.size (.cells #[.int .i64 1, .int .i64 1, .int .i64 15, .int .i64 15, .int .i64 0] 26))
  clear HB4
  go_upto_region 3 with (fail)
  rw [Gb.out]
  generalize w3.alloc (.cells #[.int .i64 1, .int .i64 1, .int .i64 15, .int .i64 15, .int .i64 0] 26) = v5 at *
  go_wp2_with (first | (refine wpList_load_blk rfl 29 (.tmp 1) rfl gx rfl 29 #[.int .i64 1, .int .i64 2, .int .i64 9, .bool false, .int .i64 1, .int .i64 0, .int .i64 5, .int .i64 0, .int .i64 10] _ Hx6.out Try.underlying29 rfl lk_size ?_) | (refine wpList_load_blk rfl 26 (.tmp 2) rfl gb rfl 26 #[.int .i64 1, .int .i64 1, .int .i64 15, .int .i64 15, .int .i64 0] _ Nb.out Try.underlying26 rfl bu_size ?_))
  refine (Qd1.out _).mono ?_
  rintro e w7 ⟨rfl, hb⟩
  have Hx8 := hide (Hx6.out.keep hb)
  clear Hx6
  have Hb8 := hide (Nb.out.keep hb)
  clear Nb
  have HB8 := hide (HB6.out.trans (hb.mono HB6.out.size))
  clear HB6
  clear hb
  obtain ⟨gc, hg⟩ : ∃ g, g = w7.heap.size := ⟨_, rfl⟩
  have Gc := hide hg.symm
  have Nc := hide (show BlkIs (w7.alloc (.cells #[.int .i64 1, .int .i64 1, .int .i64 15, .int .i64 0, .int .i64 0] 26)) gc 26 #[.int .i64 1, .int .i64 1, .int .i64 15, .int .i64 0, .int .i64 0] by rw [hg]; exact BlkIs.new w7 _ _)
  clear hg
  have Hx10 := hide (Hx8.out.alloc (.cells #[.int .i64 1, .int .i64 1, .int .i64 15, .int .i64 0, .int .i64 0] 26))
  clear Hx8
  have Hb10 := hide (Hb8.out.alloc (.cells #[.int .i64 1, .int .i64 1, .int .i64 15, .int .i64 0, .int .i64 0] 26))
  clear Hb8
  have HB10 := hide (HB8.out.alloc HB8.out.size (.cells #[.int .i64 1, .int .i64 1, .int .i64 15, .int .i64 0, .int .i64 0] 26))
  clear HB8
  go_upto_region 4 with (fail)
  rw [Gc.out]
  generalize w7.alloc (.cells #[.int .i64 1, .int .i64 1, .int .i64 15, .int .i64 0, .int .i64 0] 26) = v9 at *
  go_wp2_with (first | (refine wpList_load_blk rfl 29 (.tmp 1) rfl gx rfl 29 #[.int .i64 1, .int .i64 2, .int .i64 9, .bool false, .int .i64 1, .int .i64 0, .int .i64 5, .int .i64 0, .int .i64 10] _ Hx10.out Try.underlying29 rfl lk_size ?_) | (refine wpList_load_blk rfl 26 (.tmp 5) rfl gc rfl 26 #[.int .i64 1, .int .i64 1, .int .i64 15, .int .i64 0, .int .i64 0] _ Nc.out Try.underlying26 rfl bu_size ?_))
  refine (Qd2.out _).mono ?_
  rintro e w11 ⟨rfl, hb⟩
  have Hx12 := hide (Hx10.out.keep hb)
  clear Hx10
  have Hb12 := hide (Hb10.out.keep hb)
  clear Hb10
  have Hc12 := hide (Nc.out.keep hb)
  clear Nc
  have HB12 := hide (HB10.out.trans (hb.mono HB10.out.size))
  clear HB10
  clear hb
  obtain ⟨gd, hg⟩ : ∃ g, g = w11.heap.size := ⟨_, rfl⟩
  have Gd := hide hg.symm
  have Nd := hide (show BlkIs (w11.alloc (.cells #[.int .i64 1, .int .i64 1, .int .i64 15, .int .i64 0, .int .i64 0] 26)) gd 26 #[.int .i64 1, .int .i64 1, .int .i64 15, .int .i64 0, .int .i64 0] by rw [hg]; exact BlkIs.new w11 _ _)
  clear hg
  have Hx14 := hide (Hx12.out.alloc (.cells #[.int .i64 1, .int .i64 1, .int .i64 15, .int .i64 0, .int .i64 0] 26))
  clear Hx12
  have Hb14 := hide (Hb12.out.alloc (.cells #[.int .i64 1, .int .i64 1, .int .i64 15, .int .i64 0, .int .i64 0] 26))
  clear Hb12
  have Hc14 := hide (Hc12.out.alloc (.cells #[.int .i64 1, .int .i64 1, .int .i64 15, .int .i64 0, .int .i64 0] 26))
  clear Hc12
  have HB14 := hide (HB12.out.alloc HB12.out.size (.cells #[.int .i64 1, .int .i64 1, .int .i64 15, .int .i64 0, .int .i64 0] 26))
  clear HB12
  go_upto_region 5 with (fail)
  rw [Gd.out]
  generalize w11.alloc (.cells #[.int .i64 1, .int .i64 1, .int .i64 15, .int .i64 0, .int .i64 0] 26) = v13 at *
  have dd := (Hx14.out.cell 5).trans (show _ = some (Value.int .i64 0) from rfl)
  have ff := Hx14.out.frozen 5
  have Hx15 := hide (show BlkIs (v13.setCell ⟨gx, 5, none⟩ (.int .i64 5)) gx 29 #[.int .i64 1, .int .i64 2, .int .i64 9, .bool false, .int .i64 1, .int .i64 5, .int .i64 5, .int .i64 0, .int .i64 10] from Hx14.out.put 5 (.int .i64 5))
  have Hb15 := hide (Hb14.out.far (p := ⟨gx, 5, none⟩) (ne_of_ty Hb14.out Hx14.out) (.int .i64 5))
  have Hc15 := hide (Hc14.out.far (p := ⟨gx, 5, none⟩) (ne_of_ty Hc14.out Hx14.out) (.int .i64 5))
  have Hd15 := hide (Nd.out.far (p := ⟨gx, 5, none⟩) (ne_of_ty Nd.out Hx14.out) (.int .i64 5))
  have HB15 := hide (HB14.out.setCell (p := ⟨gx, 5, none⟩) (by have := HGx.out; exact this) (.int .i64 5))
  clear HB14
  go_upto_region 6 with (fail)
  clear dd ff
  generalize v13.setCell ⟨gx, 5, none⟩ (.int .i64 5) = v15 at *
  go_wp2_with (first | (refine wpList_load_blk rfl 29 (.tmp 1) rfl gx rfl 29 #[.int .i64 1, .int .i64 2, .int .i64 9, .bool false, .int .i64 1, .int .i64 5, .int .i64 5, .int .i64 0, .int .i64 10] _ Hx15.out Try.underlying29 rfl lk_size ?_) | (refine wpList_load_blk rfl 26 (.tmp 2) rfl gb rfl 26 #[.int .i64 1, .int .i64 1, .int .i64 15, .int .i64 15, .int .i64 0] _ Hb15.out Try.underlying26 rfl bu_size ?_))
  refine (Qd3.out _).mono ?_
  rintro e w16 ⟨rfl, hb⟩
  have Hx17 := hide (Hx15.out.keep hb)
  clear Hx15
  have Hb17 := hide (Hb15.out.keep hb)
  clear Hb15
  have Hc17 := hide (Hc15.out.keep hb)
  clear Hc15
  have Hd17 := hide (Hd15.out.keep hb)
  clear Hd15
  have HB17 := hide (HB15.out.trans (hb.mono HB15.out.size))
  clear HB15
  clear hb
  obtain ⟨ge, hg⟩ : ∃ g, g = w16.heap.size := ⟨_, rfl⟩
  have Ge := hide hg.symm
  have Ne := hide (show BlkIs (w16.alloc (.cells #[.int .i64 1, .int .i64 1, .int .i64 15, .int .i64 15, .int .i64 0] 26)) ge 26 #[.int .i64 1, .int .i64 1, .int .i64 15, .int .i64 15, .int .i64 0] by rw [hg]; exact BlkIs.new w16 _ _)
  clear hg
  have Hx19 := hide (Hx17.out.alloc (.cells #[.int .i64 1, .int .i64 1, .int .i64 15, .int .i64 15, .int .i64 0] 26))
  clear Hx17
  have Hb19 := hide (Hb17.out.alloc (.cells #[.int .i64 1, .int .i64 1, .int .i64 15, .int .i64 15, .int .i64 0] 26))
  clear Hb17
  have Hc19 := hide (Hc17.out.alloc (.cells #[.int .i64 1, .int .i64 1, .int .i64 15, .int .i64 15, .int .i64 0] 26))
  clear Hc17
  have Hd19 := hide (Hd17.out.alloc (.cells #[.int .i64 1, .int .i64 1, .int .i64 15, .int .i64 15, .int .i64 0] 26))
  clear Hd17
  have HB19 := hide (HB17.out.alloc HB17.out.size (.cells #[.int .i64 1, .int .i64 1, .int .i64 15, .int .i64 15, .int .i64 0] 26))
  clear HB17
  go_upto_region 7 with (fail)
  rw [Ge.out]
  generalize w16.alloc (.cells #[.int .i64 1, .int .i64 1, .int .i64 15, .int .i64 15, .int .i64 0] 26) = v18 at *
  clear Ne
  have dd := (Hx19.out.cell 0).trans (show _ = some (Value.int .i64 1) from rfl)
  have ff := Hx19.out.frozen 0
  have Hx20 := hide (show BlkIs (v18.setCell ⟨gx, 0, none⟩ (.int .i64 2)) gx 29 #[.int .i64 2, .int .i64 2, .int .i64 9, .bool false, .int .i64 1, .int .i64 5, .int .i64 5, .int .i64 0, .int .i64 10] from Hx19.out.put 0 (.int .i64 2))
  have Hb20 := hide (Hb19.out.far (p := ⟨gx, 0, none⟩) (ne_of_ty Hb19.out Hx19.out) (.int .i64 2))
  have Hc20 := hide (Hc19.out.far (p := ⟨gx, 0, none⟩) (ne_of_ty Hc19.out Hx19.out) (.int .i64 2))
  have Hd20 := hide (Hd19.out.far (p := ⟨gx, 0, none⟩) (ne_of_ty Hd19.out Hx19.out) (.int .i64 2))
  have HB20 := hide (HB19.out.setCell (p := ⟨gx, 0, none⟩) (by have := HGx.out; exact this) (.int .i64 2))
  clear HB19
  go_upto_region 8 with (fail)
  clear dd ff
  generalize v18.setCell ⟨gx, 0, none⟩ (.int .i64 2) = v20 at *
  go_wp2_with (first | (refine wpList_load_blk rfl 29 (.tmp 1) rfl gx rfl 29 #[.int .i64 2, .int .i64 2, .int .i64 9, .bool false, .int .i64 1, .int .i64 5, .int .i64 5, .int .i64 0, .int .i64 10] _ Hx20.out Try.underlying29 rfl lk_size ?_) | (refine wpList_load_blk rfl 26 (.tmp 2) rfl gb rfl 26 #[.int .i64 1, .int .i64 1, .int .i64 15, .int .i64 15, .int .i64 0] _ Hb20.out Try.underlying26 rfl bu_size ?_))
  refine (Qd4.out _).mono ?_
  rintro e w21 ⟨rfl, hb⟩
  have Hx22 := hide (Hx20.out.keep hb)
  clear Hx20
  have Hb22 := hide (Hb20.out.keep hb)
  clear Hb20
  have Hc22 := hide (Hc20.out.keep hb)
  clear Hc20
  have Hd22 := hide (Hd20.out.keep hb)
  clear Hd20
  have HB22 := hide (HB20.out.trans (hb.mono HB20.out.size))
  clear HB20
  clear hb
  obtain ⟨gf, hg⟩ : ∃ g, g = w21.heap.size := ⟨_, rfl⟩
  have Gf := hide hg.symm
  have Nf := hide (show BlkIs (w21.alloc (.cells #[.int .i64 1, .int .i64 1, .int .i64 15, .int .i64 15, .int .i64 0] 26)) gf 26 #[.int .i64 1, .int .i64 1, .int .i64 15, .int .i64 15, .int .i64 0] by rw [hg]; exact BlkIs.new w21 _ _)
  clear hg
  have Hx24 := hide (Hx22.out.alloc (.cells #[.int .i64 1, .int .i64 1, .int .i64 15, .int .i64 15, .int .i64 0] 26))
  clear Hx22
  have Hb24 := hide (Hb22.out.alloc (.cells #[.int .i64 1, .int .i64 1, .int .i64 15, .int .i64 15, .int .i64 0] 26))
  clear Hb22
  have Hc24 := hide (Hc22.out.alloc (.cells #[.int .i64 1, .int .i64 1, .int .i64 15, .int .i64 15, .int .i64 0] 26))
  clear Hc22
  have Hd24 := hide (Hd22.out.alloc (.cells #[.int .i64 1, .int .i64 1, .int .i64 15, .int .i64 15, .int .i64 0] 26))
  clear Hd22
  have HB24 := hide (HB22.out.alloc HB22.out.size (.cells #[.int .i64 1, .int .i64 1, .int .i64 15, .int .i64 15, .int .i64 0] 26))
  clear HB22
  go_upto_region 9 with (fail)
  rw [Gf.out]
  generalize w21.alloc (.cells #[.int .i64 1, .int .i64 1, .int .i64 15, .int .i64 15, .int .i64 0] 26) = v23 at *
  clear Nf
  have dd := (Hx24.out.cell 0).trans (show _ = some (Value.int .i64 2) from rfl)
  have ff := Hx24.out.frozen 0
  have Hx25 := hide (show BlkIs (v23.setCell ⟨gx, 0, none⟩ (.int .i64 9)) gx 29 #[.int .i64 9, .int .i64 2, .int .i64 9, .bool false, .int .i64 1, .int .i64 5, .int .i64 5, .int .i64 0, .int .i64 10] from Hx24.out.put 0 (.int .i64 9))
  have Hb25 := hide (Hb24.out.far (p := ⟨gx, 0, none⟩) (ne_of_ty Hb24.out Hx24.out) (.int .i64 9))
  have Hc25 := hide (Hc24.out.far (p := ⟨gx, 0, none⟩) (ne_of_ty Hc24.out Hx24.out) (.int .i64 9))
  have Hd25 := hide (Hd24.out.far (p := ⟨gx, 0, none⟩) (ne_of_ty Hd24.out Hx24.out) (.int .i64 9))
  have HB25 := hide (HB24.out.setCell (p := ⟨gx, 0, none⟩) (by have := HGx.out; exact this) (.int .i64 9))
  clear HB24
  go_upto_region 10 with (fail)
  clear dd ff
  generalize v23.setCell ⟨gx, 0, none⟩ (.int .i64 9) = v25 at *
  go_wp2_with (first | (refine wpList_load_blk rfl 29 (.tmp 1) rfl gx rfl 29 #[.int .i64 9, .int .i64 2, .int .i64 9, .bool false, .int .i64 1, .int .i64 5, .int .i64 5, .int .i64 0, .int .i64 10] _ Hx25.out Try.underlying29 rfl lk_size ?_) | (refine wpList_load_blk rfl 26 (.tmp 2) rfl gb rfl 26 #[.int .i64 1, .int .i64 1, .int .i64 15, .int .i64 15, .int .i64 0] _ Hb25.out Try.underlying26 rfl bu_size ?_))
  refine (Qd5.out _).mono ?_
  rintro e w26 ⟨rfl, hb⟩
  have Hx27 := hide (Hx25.out.keep hb)
  clear Hx25
  have Hb27 := hide (Hb25.out.keep hb)
  clear Hb25
  have Hc27 := hide (Hc25.out.keep hb)
  clear Hc25
  have Hd27 := hide (Hd25.out.keep hb)
  clear Hd25
  have HB27 := hide (HB25.out.trans (hb.mono HB25.out.size))
  clear HB25
  clear hb
  clear Hb27
  obtain ⟨c0, c1, c2, c3, c4⟩ := cells5 (b := ⟨1, 1, 15, 0, 0⟩) Hc27.out
  simp only at c0 c1 c2 c3 c4
  have lc : gc < w26.heap.size := Hc27.out.lt
  have Hx28 := hide (Hx27.out.alloc (.cells #[.int .i64 1, .int .i64 1, .int .i64 15, .int .i64 15, .int .i64 0] 26))
  have Hc28 := hide (Hc27.out.alloc (.cells #[.int .i64 1, .int .i64 1, .int .i64 15, .int .i64 15, .int .i64 0] 26))
  have Hd28 := hide (Hd27.out.alloc (.cells #[.int .i64 1, .int .i64 1, .int .i64 15, .int .i64 15, .int .i64 0] 26))
  have HB28 := hide (HB27.out.alloc HB27.out.size (.cells #[.int .i64 1, .int .i64 1, .int .i64 15, .int .i64 15, .int .i64 0] 26))
  go_wp2_with fail
  refine (Qh.out _).mono ?_
  rintro e w29 ⟨rfl, hb⟩
  have Hx30 := hide (Hx28.out.keep hb)
  clear Hx28
  have Hc30 := hide (Hc28.out.keep hb)
  clear Hc28
  have Hd30 := hide (Hd28.out.keep hb)
  clear Hd28
  have HB30 := hide (HB28.out.trans (hb.mono HB28.out.size))
  clear HB28
  clear hb
  clear c0 c1 c2 c3 c4 lc
  obtain ⟨c0, c1, c2, c3, c4⟩ := cells5 (b := ⟨1, 1, 15, 0, 0⟩) Hc30.out
  simp only at c0 c1 c2 c3 c4
  obtain ⟨d0, d1, d2, d3, d4⟩ := cells5 (b := ⟨1, 1, 15, 0, 0⟩) Hd30.out
  simp only at d0 d1 d2 d3 d4
  go_wp2_with fail
  refine (Qs2.out _).mono ?_
  rintro e w31 ⟨rfl, rfl⟩
  clear c0 c1 c2 c3 c4 d0 d1 d2 d3 d4
  go_wp2_with fail
  refine (Qs3.out _).mono ?_
  rintro e w32 ⟨rfl, rfl⟩
  go_wp2_with fail
  refine (Qc1.out _).mono ?_
  rintro e w33 ⟨rfl, rfl⟩
  go_wp2_with fail
  refine (Qc4.out _).mono ?_
  rintro e w34 ⟨rfl, rfl⟩
  go_wp2_with fail
  refine (Qc0.out _).mono ?_
  rintro e w35 ⟨rfl, rfl⟩
  obtain ⟨x0, x1, x2, x3, x4, x5, x6, x7, x8⟩ := cells9 (x := ⟨9, 2, 9, false, 1, 5, 5, 0, 10⟩) Hx30.out
  simp only at x0 x1 x2 x3 x4 x5 x6 x7 x8
  go_wp2_with fail
  refine (Qf.out _).mono ?_
  rintro e w36 ⟨rfl, hb⟩
  have Hx37 := hide (Hx30.out.keep hb)
  clear Hx30
  have Hc37 := hide (Hc30.out.keep hb)
  clear Hc30
  have Hd37 := hide (Hd30.out.keep hb)
  clear Hd30
  have HB37 := hide (HB30.out.trans (hb.mono HB30.out.size))
  clear HB30
  clear hb
  clear x0 x1 x2 x3 x4 x5 x6 x7 x8
  go_wp2
  go_ret
  exact ⟨rfl, HB37.out⟩
end Go.Proofs.Ytgibhdbhagcpoaa
