/-
  Layer 25: awake.
-/
import Derived.Test.YtlondjmklnehhaaTgRun
import Derived.Test.YtlondjmklnehhaaTgNew
import Derived.Test.YtlondjmklnehhaaTgNear
import Derived.Test.YtlondjmklnehhaaSameInts
import Derived.Test.YtlondjmklnehhaaMask
import Derived.BigGuardPart
import Derived.Deep.CutRange
import Derived.Deep.DeepCutAuto
namespace Go.Proofs.Ytlondjmklnehhaa
set_option linter.unusedSimpArgs false
set_option linter.unusedVariables false
open Go.RowKit

theorem NL.alloc {k : IntKind} {w : World} {A : Option Addr} {n c : Nat} {l : List Int} (h : NL k w A n c l) (o : Obj) : NL k (w.alloc o) A n c l := h.keep (bel1 w o)
theorem tw_n1 (w : World) : Calls Try.prog 11 #[.int .i64 1] w fun e w' => e = .returned (.tuple #[.agg #[.int .i64 1, .int .i64 0, .int .i64 0, .int .i64 0], .int .i64 0]) ∧ Below w.heap.size w w' := by
  have := tg_New 1 w
  rwa [show newT 1 = (⟨1, 0, 0, 0⟩, 0) from by decide +kernel] at this
theorem tw_n2 (w : World) : Calls Try.prog 11 #[.int .i64 2] w fun e w' => e = .returned (.tuple #[.agg #[.int .i64 2, .int .i64 0, .int .i64 0, .int .i64 0], .int .i64 0]) ∧ Below w.heap.size w w' := by
  have := tg_New 2 w
  rwa [show newT 2 = (⟨2, 0, 0, 0⟩, 0) from by decide +kernel] at this
theorem tw_n17 (w : World) : Calls Try.prog 11 #[.int .i64 17] w fun e w' => e = .returned (.tuple #[.agg #[.int .i64 0, .int .i64 0, .int .i64 0, .int .i64 0], .int .i64 8]) ∧ Below w.heap.size w w' := by
  have := tg_New 17 w
  rwa [show newT 17 = (⟨0, 0, 0, 0⟩, 8) from by decide +kernel] at this
theorem tw_s (w : World) : Calls Try.prog 7 #[.int .i64 0, .agg #[.int .i64 2, .int .i64 0, .int .i64 0, .int .i64 0], .int .i64 6] w fun e w' => e = .returned (.tuple #[.int .i64 0, .agg #[.int .i64 2, .int .i64 2162160, .int .i64 2162160, .int .i64 6], .int .i64 0]) ∧ Below w.heap.size w w' := by
  have := tg_Serve 0 ⟨2, 0, 0, 0⟩ 6 w
  rwa [show srvT 0 ⟨2, 0, 0, 0⟩ 6 = (0, ⟨2, 2162160, 2162160, 6⟩, 0) from by decide +kernel] at this
theorem tw_w (w : World) : Calls Try.prog 13 #[.int .i64 5000000, .agg #[.int .i64 2, .int .i64 2162160, .int .i64 2162160, .int .i64 6]] w fun e w' => e = .returned (.agg #[.int .i64 2, .int .i64 5000000, .int .i64 2162160, .int .i64 6]) ∧ Below w.heap.size w w' := by
  have := tg_Wake 5000000 ⟨2, 2162160, 2162160, 6⟩ w
  rwa [show wakT 5000000 ⟨2, 2162160, 2162160, 6⟩ = ⟨2, 5000000, 2162160, 6⟩ from by decide +kernel] at this
theorem tw_c (w : World) : Calls Try.prog 9 #[.int .i64 1, .int .i64 16] w fun e w' => e = .returned (.tuple #[.int .i64 45045, .int .i64 0]) ∧ w = w' := by
  have := tg_Charge 1 16 w
  rwa [show chgI 1 16 = (45045, 0) from by decide +kernel] at this
theorem tw_m (w : World) : Calls Try.prog 26 #[.agg #[.int .i64 1, .int .i64 8648640, .int .i64 8648640, .int .i64 12], .agg #[.int .i64 2, .int .i64 8648640, .int .i64 8648640, .int .i64 24], .agg #[.int .i64 0, .int .i64 0], .int .i64 6] w fun e w' => e = .returned (.bool true) ∧ Below w.heap.size w w' := by
  have := tg_Near ⟨1, 8648640, 8648640, 12⟩ ⟨2, 8648640, 8648640, 24⟩ 0 0 6 w
  rwa [show nearB ⟨1, 8648640, 8648640, 12⟩ ⟨2, 8648640, 8648640, 24⟩ 0 0 6 = true from by decide +kernel] at this
theorem tw_x (w : World) : Calls Try.prog 26 #[.agg #[.int .i64 1, .int .i64 8648640, .int .i64 8648640, .int .i64 12], .agg #[.int .i64 1, .int .i64 0, .int .i64 0, .int .i64 0], .agg #[.int .i64 0, .int .i64 0], .int .i64 1] w fun e w' => e = .returned (.bool false) ∧ Below w.heap.size w w' := by
  have := tg_Near ⟨1, 8648640, 8648640, 12⟩ ⟨1, 0, 0, 0⟩ 0 0 1 w
  rwa [show nearB ⟨1, 8648640, 8648640, 12⟩ ⟨1, 0, 0, 0⟩ 0 0 1 = false from by decide +kernel] at this
theorem tw_k (w : World) : Calls Try.prog 15 #[.agg #[.int .i64 2, .int .i64 5000000, .int .i64 2162160, .int .i64 6]] w fun e w' => e = .returned (.int .i64 0) ∧ Below w.heap.size w w' := by
  have := tg_Check ⟨2, 5000000, 2162160, 6⟩ w
  rwa [show chkT ⟨2, 5000000, 2162160, 6⟩ = 0 from by decide +kernel] at this
theorem tw_f (A : Option Addr) (c : Nat) (w : World) (h : SL tgF w A 2 c [⟨1, 8648640, 8648640, 12⟩, ⟨2, 8648640, 8648640, 24⟩]) : Calls Try.prog 24 #[.slice A 2 c] w fun e w' => e = .returned (.int .i64 0) ∧ Below w.heap.size w w' := by
  have := tg_First A 2 c [⟨1, 8648640, 8648640, 12⟩, ⟨2, 8648640, 8648640, 24⟩] w h (by decide)
  rwa [show fstI [⟨1, 8648640, 8648640, 12⟩, ⟨2, 8648640, 8648640, 24⟩] = 0 from by decide +kernel] at this
theorem tw_z (w : World) : Calls Try.prog 24 #[.slice none 0 0] w fun e w' => e = .returned (.int .i64 (-1)) ∧ Below w.heap.size w w' := by
  have := tg_First none 0 0 [] w (SL.none_ w) (by decide)
  rwa [show fstI [] = -1 from rfl] at this
theorem tw_r (A : Option Addr) (c : Nat) (B : Option Addr) (d : Nat) (w : World) (h : SL tgF w A 2 c [⟨1, 0, 0, 0⟩, ⟨2, 0, 0, 0⟩]) (k : NL .i64 w B 6 d [6, 6, 6, 6, 6, 6]) : Calls Try.prog 18 #[.slice A 2 c, .slice B 6 d] w fun e w' =>
    ∃ A c B d, e = .returned (.tuple #[.slice A 2 c, .slice B 6 d]) ∧ SL tgF w' A 2 c [⟨1, 8648640, 8648640, 12⟩, ⟨2, 8648640, 8648640, 24⟩] ∧ NL .i64 w' B 6 d [0, 1, 1, 0, 1, 1] ∧ Below w.heap.size w w' := by
  have := tg_Run A 2 c [⟨1, 0, 0, 0⟩, ⟨2, 0, 0, 0⟩] B 6 d [6, 6, 6, 6, 6, 6] w h k (by decide) (by decide)
  unfold GivesR at this
  rwa [show runT [⟨1, 0, 0, 0⟩, ⟨2, 0, 0, 0⟩] [6, 6, 6, 6, 6, 6] = ([⟨1, 8648640, 8648640, 12⟩, ⟨2, 8648640, 8648640, 24⟩], [0, 1, 1, 0, 1, 1]) from by decide +kernel] at this
theorem tw_e (A : Option Addr) (c : Nat) (B : Option Addr) (d : Nat) (w : World) (h : NL .i64 w A 6 c [0, 1, 1, 0, 1, 1]) (k : NL .i64 w B 6 d [0, 1, 1, 0, 1, 1]) : Calls Try.prog 23 #[.slice A 6 c, .slice B 6 d] w fun e w' => e = .returned (.bool true) ∧ Below w.heap.size w w' := by
  have := rd_SameInts A 6 c [0, 1, 1, 0, 1, 1] B 6 d [0, 1, 1, 0, 1, 1] w h k (by decide)
  rwa [show decide (([0, 1, 1, 0, 1, 1] : List Int) = [0, 1, 1, 0, 1, 1]) = true from by decide] at this

set_option maxRecDepth 100000 in
set_option maxHeartbeats 6400000 in
theorem aw_tags (w : World) : Calls Try.prog 17 #[] w fun e w' => e = .returned (.bool true) ∧ Below w.heap.size w w' := by
  have Qn1 := hide tw_n1
  have Qn2 := hide tw_n2
  have Qn17 := hide tw_n17
  have Qs := hide tw_s
  have Qw := hide tw_w
  have Qc := hide tw_c
  have Qm := hide tw_m
  have Qx := hide tw_x
  have Qk := hide tw_k
  have Qz := hide tw_z
  have HB0 := hide (Below.refl w.heap.size w)
  go_enter Try.func17, Try.ntmps17
  go_wp2_with fail
  refine (Qn1.out _).mono ?_
  rintro e w_1 ⟨rfl, hb⟩
  have HB_2 := hide (HB0.out.trans (hb.mono HB0.out.size))
  clear HB0
  clear hb
  obtain ⟨ga, hg⟩ : ∃ g, g = w_1.heap.size := ⟨_, rfl⟩
  have Ga := hide hg.symm
  have Na := hide (show BlkIs (w_1.alloc (.cells #[.int .i64 1, .int .i64 0, .int .i64 0, .int .i64 0] 24)) ga 24 #[.int .i64 1, .int .i64 0, .int .i64 0, .int .i64 0] by rw [hg]; exact BlkIs.new w_1 _ _)
  clear hg
  have HB_4 := hide (HB_2.out.alloc HB_2.out.size (.cells #[.int .i64 1, .int .i64 0, .int .i64 0, .int .i64 0] 24))
  clear HB_2
  go_upto_region 2 with (first | (refine wpList_store_new rfl 24 (.tmp 1) (.tmp 17) rfl #[.int .i64 1, .int .i64 0, .int .i64 0, .int .i64 0] _ 24 rfl rfl tg_size rfl (by simp [Value.oneCell']) ?_))
  rw [Ga.out]
  generalize w_1.alloc (.cells #[.int .i64 1, .int .i64 0, .int .i64 0, .int .i64 0] 24) = v_3 at *
  go_wp2_with fail
  refine (Qn2.out _).mono ?_
  rintro e w_5 ⟨rfl, hb⟩
  have Ha_6 := hide (Na.out.keep hb)
  clear Na
  have HB_6 := hide (HB_4.out.trans (hb.mono HB_4.out.size))
  clear HB_4
  clear hb
  obtain ⟨gb, hg⟩ : ∃ g, g = w_5.heap.size := ⟨_, rfl⟩
  have Gb := hide hg.symm
  have Nb := hide (show BlkIs (w_5.alloc (.cells #[.int .i64 2, .int .i64 0, .int .i64 0, .int .i64 0] 24)) gb 24 #[.int .i64 2, .int .i64 0, .int .i64 0, .int .i64 0] by rw [hg]; exact BlkIs.new w_5 _ _)
  clear hg
  have Ha_8 := hide (Ha_6.out.alloc (.cells #[.int .i64 2, .int .i64 0, .int .i64 0, .int .i64 0] 24))
  clear Ha_6
  have HB_8 := hide (HB_6.out.alloc HB_6.out.size (.cells #[.int .i64 2, .int .i64 0, .int .i64 0, .int .i64 0] 24))
  clear HB_6
  go_upto_region 3 with (first | (refine wpList_store_new rfl 24 (.tmp 3) (.tmp 21) rfl #[.int .i64 2, .int .i64 0, .int .i64 0, .int .i64 0] _ 24 rfl rfl tg_size rfl (by simp [Value.oneCell']) ?_))
  rw [Gb.out]
  generalize w_5.alloc (.cells #[.int .i64 2, .int .i64 0, .int .i64 0, .int .i64 0] 24) = v_7 at *
  go_wp2_with (first | (refine wpList_load_blk rfl 24 (.tmp 1) rfl ga rfl 24 #[.int .i64 1, .int .i64 0, .int .i64 0, .int .i64 0] _ Ha_8.out Try.underlying24 rfl tg_size ?_) | (refine wpList_load_blk rfl 24 (.tmp 3) rfl gb rfl 24 #[.int .i64 2, .int .i64 0, .int .i64 0, .int .i64 0] _ Nb.out Try.underlying24 rfl tg_size ?_))
  obtain ⟨gp, hg⟩ : ∃ g, g = v_7.heap.size := ⟨_, rfl⟩
  have Gp := hide hg.symm
  have Np := hide (show SL tgF (v_7.alloc (.cells #[.int .i64 1, .int .i64 0, .int .i64 0, .int .i64 0, .int .i64 2, .int .i64 0, .int .i64 0, .int .i64 0] 24)) (some ⟨gp, 0, none⟩) 2 2 [⟨1, 0, 0, 0⟩, ⟨2, 0, 0, 0⟩] by rw [hg]; exact sl_blk (F := tgF) (l := [⟨1, 0, 0, 0⟩, ⟨2, 0, 0, 0⟩]) (BlkIs.new v_7 _ _) (by unfold maxLen; simp))
  clear hg
  have Ha_10 := hide (Ha_8.out.alloc (.cells #[.int .i64 1, .int .i64 0, .int .i64 0, .int .i64 0, .int .i64 2, .int .i64 0, .int .i64 0, .int .i64 0] 24))
  clear Ha_8
  have Hb_10 := hide (Nb.out.alloc (.cells #[.int .i64 1, .int .i64 0, .int .i64 0, .int .i64 0, .int .i64 2, .int .i64 0, .int .i64 0, .int .i64 0] 24))
  clear Nb
  have HB_10 := hide (HB_8.out.alloc HB_8.out.size (.cells #[.int .i64 1, .int .i64 0, .int .i64 0, .int .i64 0, .int .i64 2, .int .i64 0, .int .i64 0, .int .i64 0] 24))
  clear HB_8
  rw [Gp.out]
  have HSZ := hide (show (v_7.alloc (.cells #[.int .i64 1, .int .i64 0, .int .i64 0, .int .i64 0, .int .i64 2, .int .i64 0, .int .i64 0, .int .i64 0] 24)).heap.size = gp + 1 by rw [World.size_alloc, Gp.out])
  generalize v_7.alloc (.cells #[.int .i64 1, .int .i64 0, .int .i64 0, .int .i64 0, .int .i64 2, .int .i64 0, .int .i64 0, .int .i64 0] 24) = v_9 at *
  have hg : gp + 1 = v_9.heap.size := HSZ.out.symm
  have Nq := hide (show NL .i64 (v_9.alloc (.cells #[.int .i64 6, .int .i64 6, .int .i64 6, .int .i64 6, .int .i64 6, .int .i64 6] 3)) (some ⟨gp + 1, 0, none⟩) 6 6 [6, 6, 6, 6, 6, 6] by rw [hg]; exact nl_blk (l := [6, 6, 6, 6, 6, 6]) (BlkIs.new v_9 _ _) (by intro x hx; simp at hx; subst hx; decide) (by unfold maxLen; simp))
  clear hg HSZ
  have Ha_12 := hide (Ha_10.out.alloc (.cells #[.int .i64 6, .int .i64 6, .int .i64 6, .int .i64 6, .int .i64 6, .int .i64 6] 3))
  clear Ha_10
  have Hb_12 := hide (Hb_10.out.alloc (.cells #[.int .i64 6, .int .i64 6, .int .i64 6, .int .i64 6, .int .i64 6, .int .i64 6] 3))
  clear Hb_10
  have Hp_12 := hide (Np.out.alloc (.cells #[.int .i64 6, .int .i64 6, .int .i64 6, .int .i64 6, .int .i64 6, .int .i64 6] 3))
  clear Np
  have HB_12 := hide (HB_10.out.alloc HB_10.out.size (.cells #[.int .i64 6, .int .i64 6, .int .i64 6, .int .i64 6, .int .i64 6, .int .i64 6] 3))
  clear HB_10
  generalize v_9.alloc (.cells #[.int .i64 6, .int .i64 6, .int .i64 6, .int .i64 6, .int .i64 6, .int .i64 6] 3) = v_11 at *
  refine (tw_r _ _ _ _ _ Hp_12.out Nq.out).mono ?_
  rintro e w_13 ⟨A1, c1, B1, d1, rfl, hs, hn, hb⟩
  clear Hp_12
  clear Nq
  have Ha_14 := hide (Ha_12.out.keep hb)
  clear Ha_12
  have Hb_14 := hide (Hb_12.out.keep hb)
  clear Hb_12
  have HB_14 := hide (HB_12.out.trans (hb.mono HB_12.out.size))
  clear HB_12
  clear hb
  have NL1 := hide hs
  have NW1 := hide hn
  clear hs hn
  go_wp2_with (first | (refine wpList_load_blk rfl 24 (.tmp 3) rfl gb rfl 24 #[.int .i64 2, .int .i64 0, .int .i64 0, .int .i64 0] _ Hb_14.out Try.underlying24 rfl tg_size ?_))
  refine (Qs.out _).mono ?_
  rintro e w_15 ⟨rfl, hb⟩
  have Ha_16 := hide (Ha_14.out.keep hb)
  clear Ha_14
  have Hb_16 := hide (Hb_14.out.keep hb)
  clear Hb_14
  have Hsl_16 := hide (NL1.out.keep hb)
  clear NL1
  have Hwh_16 := hide (NW1.out.keep hb)
  clear NW1
  have HB_16 := hide (HB_14.out.trans (hb.mono HB_14.out.size))
  clear HB_14
  clear hb
  obtain ⟨gt, hg⟩ : ∃ g, g = w_15.heap.size := ⟨_, rfl⟩
  have Gt := hide hg.symm
  have Nt := hide (show BlkIs (w_15.alloc (.cells #[.int .i64 2, .int .i64 2162160, .int .i64 2162160, .int .i64 6] 24)) gt 24 #[.int .i64 2, .int .i64 2162160, .int .i64 2162160, .int .i64 6] by rw [hg]; exact BlkIs.new w_15 _ _)
  clear hg
  have Ha_18 := hide (Ha_16.out.alloc (.cells #[.int .i64 2, .int .i64 2162160, .int .i64 2162160, .int .i64 6] 24))
  clear Ha_16
  have Hb_18 := hide (Hb_16.out.alloc (.cells #[.int .i64 2, .int .i64 2162160, .int .i64 2162160, .int .i64 6] 24))
  clear Hb_16
  have Hsl_18 := hide (Hsl_16.out.alloc (.cells #[.int .i64 2, .int .i64 2162160, .int .i64 2162160, .int .i64 6] 24))
  clear Hsl_16
  have Hwh_18 := hide (Hwh_16.out.alloc (.cells #[.int .i64 2, .int .i64 2162160, .int .i64 2162160, .int .i64 6] 24))
  clear Hwh_16
  have HB_18 := hide (HB_16.out.alloc HB_16.out.size (.cells #[.int .i64 2, .int .i64 2162160, .int .i64 2162160, .int .i64 6] 24))
  clear HB_16
  go_upto_region 5 with (first | (refine wpList_store_new rfl 24 (.tmp 8) (.tmp 35) rfl #[.int .i64 2, .int .i64 2162160, .int .i64 2162160, .int .i64 6] _ 24 rfl rfl tg_size rfl (by simp [Value.oneCell']) ?_))
  rw [Gt.out]
  generalize w_15.alloc (.cells #[.int .i64 2, .int .i64 2162160, .int .i64 2162160, .int .i64 6] 24) = v_17 at *
  clear Hb_18
  go_wp2_with (first | (refine wpList_load_blk rfl 24 (.tmp 8) rfl gt rfl 24 #[.int .i64 2, .int .i64 2162160, .int .i64 2162160, .int .i64 6] _ Nt.out Try.underlying24 rfl tg_size ?_))
  refine (Qw.out _).mono ?_
  rintro e w_19 ⟨rfl, hb⟩
  have Ha_20 := hide (Ha_18.out.keep hb)
  clear Ha_18
  have Hsl_20 := hide (Hsl_18.out.keep hb)
  clear Hsl_18
  have Hwh_20 := hide (Hwh_18.out.keep hb)
  clear Hwh_18
  have Ht_20 := hide (Nt.out.keep hb)
  clear Nt
  have HB_20 := hide (HB_18.out.trans (hb.mono HB_18.out.size))
  clear HB_18
  clear hb
  obtain ⟨gk, hg⟩ : ∃ g, g = w_19.heap.size := ⟨_, rfl⟩
  have Gk := hide hg.symm
  have Nk := hide (show BlkIs (w_19.alloc (.cells #[.int .i64 2, .int .i64 5000000, .int .i64 2162160, .int .i64 6] 24)) gk 24 #[.int .i64 2, .int .i64 5000000, .int .i64 2162160, .int .i64 6] by rw [hg]; exact BlkIs.new w_19 _ _)
  clear hg
  have Ha_22 := hide (Ha_20.out.alloc (.cells #[.int .i64 2, .int .i64 5000000, .int .i64 2162160, .int .i64 6] 24))
  clear Ha_20
  have Hsl_22 := hide (Hsl_20.out.alloc (.cells #[.int .i64 2, .int .i64 5000000, .int .i64 2162160, .int .i64 6] 24))
  clear Hsl_20
  have Hwh_22 := hide (Hwh_20.out.alloc (.cells #[.int .i64 2, .int .i64 5000000, .int .i64 2162160, .int .i64 6] 24))
  clear Hwh_20
  have Ht_22 := hide (Ht_20.out.alloc (.cells #[.int .i64 2, .int .i64 5000000, .int .i64 2162160, .int .i64 6] 24))
  clear Ht_20
  have HB_22 := hide (HB_20.out.alloc HB_20.out.size (.cells #[.int .i64 2, .int .i64 5000000, .int .i64 2162160, .int .i64 6] 24))
  clear HB_20
  go_upto_region 6 with (first | (refine wpList_store_new rfl 24 (.tmp 10) (.tmp 38) rfl #[.int .i64 2, .int .i64 5000000, .int .i64 2162160, .int .i64 6] _ 24 rfl rfl tg_size rfl (by simp [Value.oneCell']) ?_))
  rw [Gk.out]
  generalize w_19.alloc (.cells #[.int .i64 2, .int .i64 5000000, .int .i64 2162160, .int .i64 6] 24) = v_21 at *
  go_wp2_with fail
  refine (Qn17.out _).mono ?_
  rintro e w_23 ⟨rfl, hb⟩
  have Ha_24 := hide (Ha_22.out.keep hb)
  clear Ha_22
  have Hsl_24 := hide (Hsl_22.out.keep hb)
  clear Hsl_22
  have Hwh_24 := hide (Hwh_22.out.keep hb)
  clear Hwh_22
  have Ht_24 := hide (Ht_22.out.keep hb)
  clear Ht_22
  have Hk_24 := hide (Nk.out.keep hb)
  clear Nk
  have HB_24 := hide (HB_22.out.trans (hb.mono HB_22.out.size))
  clear HB_22
  clear hb
  obtain ⟨gn, hg⟩ : ∃ g, g = w_23.heap.size := ⟨_, rfl⟩
  have Gn := hide hg.symm
  have Nn := hide (show BlkIs (w_23.alloc (.cells #[.int .i64 0, .int .i64 0, .int .i64 0, .int .i64 0] 24)) gn 24 #[.int .i64 0, .int .i64 0, .int .i64 0, .int .i64 0] by rw [hg]; exact BlkIs.new w_23 _ _)
  clear hg
  have Ha_26 := hide (Ha_24.out.alloc (.cells #[.int .i64 0, .int .i64 0, .int .i64 0, .int .i64 0] 24))
  clear Ha_24
  have Hsl_26 := hide (Hsl_24.out.alloc (.cells #[.int .i64 0, .int .i64 0, .int .i64 0, .int .i64 0] 24))
  clear Hsl_24
  have Hwh_26 := hide (Hwh_24.out.alloc (.cells #[.int .i64 0, .int .i64 0, .int .i64 0, .int .i64 0] 24))
  clear Hwh_24
  have Ht_26 := hide (Ht_24.out.alloc (.cells #[.int .i64 0, .int .i64 0, .int .i64 0, .int .i64 0] 24))
  clear Ht_24
  have Hk_26 := hide (Hk_24.out.alloc (.cells #[.int .i64 0, .int .i64 0, .int .i64 0, .int .i64 0] 24))
  clear Hk_24
  have HB_26 := hide (HB_24.out.alloc HB_24.out.size (.cells #[.int .i64 0, .int .i64 0, .int .i64 0, .int .i64 0] 24))
  clear HB_24
  go_upto_region 7 with (first | (refine wpList_store_new rfl 24 (.tmp 11) (.tmp 41) rfl #[.int .i64 0, .int .i64 0, .int .i64 0, .int .i64 0] _ 24 rfl rfl tg_size rfl (by simp [Value.oneCell']) ?_))
  rw [Gn.out]
  generalize w_23.alloc (.cells #[.int .i64 0, .int .i64 0, .int .i64 0, .int .i64 0] 24) = v_25 at *
  clear Nn
  go_cut [13, 14] from 15 to 47 (fun s13 s14 wx => s13 = .int .i64 45045 ∧ s14 = .int .i64 0 ∧ wx = v_25)
  case first =>
    go_wp2_with fail
    refine (Qc.out _).mono ?_
    rintro e wq ⟨rfl, rfl⟩
    go_wp2_with fail
    go_meet
    exact ⟨rfl, rfl, rfl⟩
  case rest =>
    obtain ⟨rfl, rfl, rfl⟩ := hcut
    go_upto_region 8 with (fail)
    clear Qn1 Qn2 Qn17 Qs Qw Qc Qm Qx Qk Qz
    generalize hW : wc = wz at Ha_26 Hsl_26 Hwh_26 Ht_26 Hk_26 HB_26 ⊢
    clear hW
    obtain ⟨x, b9, off9, hx, hA, hbl, s0, s1, s2, s3⟩ := tg_round Hsl_26.out (show 0 < 2 by decide)
    obtain rfl : ⟨1, 8648640, 8648640, 12⟩ = x := hx
    subst hA
    obtain ⟨x, b, off, hx, hA, _, r0, r1, r2, r3⟩ := tg_round Hsl_26.out (show 1 < 2 by decide)
    obtain rfl : ⟨2, 8648640, 8648640, 24⟩ = x := hx
    obtain ⟨rfl, rfl⟩ : b9 = b ∧ off9 = off := by injection hA with e; injection e with e1 e2; exact ⟨e1, e2⟩
    clear hA
    simp only [Nat.zero_mul, Nat.one_mul, Nat.add_zero] at s0 s1 s2 s3 r0 r1 r2 r3
    have S0 := hide s0
    have S1 := hide s1
    have S2 := hide s2
    have S3 := hide s3
    have R0 := hide r0
    have R1 := hide r1
    have R2 := hide r2
    have R3 := hide r3
    clear s0 s1 s2 s3 r0 r1 r2 r3
    refine wp_region_noPanic ?_
    refine wp_region_mask (S := fun w' => Below wz.heap.size wz w') (by kernel_rfl) (Below.refl _ _).drew (fun hS => ?_)
    generalize wz.drew = wd at hS ⊢
    refine wpAnyH_mask (i := 0) (m' := 1) (v := ?_) (by simp only [List.getElem?_toArray, List.getElem?_cons_succ, List.getElem?_cons_zero] <;> exact rfl) (by kernel_rfl) (by kernel_rfl) (by kernel_rfl) (fun _ _ _ h => h) (Or.inl ⟨by rfl, ?_⟩) hS ?_
    rotate_left
    focus (intro w' hw'; go_simp; all_goals with_reducible rfl)
    try simp only [Act.put, List.setIfInBounds_toArray, List.set_cons_zero, List.set_cons_succ]
    refine wpAnyH_mask (i := 1) (m' := 3) (v := ?_) (by simp only [List.getElem?_toArray, List.getElem?_cons_succ, List.getElem?_cons_zero] <;> exact rfl) (by kernel_rfl) (by kernel_rfl) (by kernel_rfl) (fun _ _ _ h => h) (Or.inl ⟨by rfl, ?_⟩) hS ?_
    rotate_left
    focus (intro w' hw'; go_simp; all_goals with_reducible rfl)
    try simp only [Act.put, List.setIfInBounds_toArray, List.set_cons_zero, List.set_cons_succ]
    refine wpAnyH_mask (i := 2) (m' := 7) (v := ?_) (by simp only [List.getElem?_toArray, List.getElem?_cons_succ, List.getElem?_cons_zero] <;> exact rfl) (by kernel_rfl) (by kernel_rfl) (by kernel_rfl) (fun _ _ _ h => h) (Or.inl ⟨by rfl, ?_⟩) hS ?_
    rotate_left
    focus (intro w' hw'; go_simp; all_goals with_reducible rfl)
    try simp only [Act.put, List.setIfInBounds_toArray, List.set_cons_zero, List.set_cons_succ]
    refine wpAnyH_mask (i := 3) (m' := 15) (v := ?_) (by simp only [List.getElem?_toArray, List.getElem?_cons_succ, List.getElem?_cons_zero] <;> exact rfl) (by kernel_rfl) (by kernel_rfl) (by kernel_rfl) (fun _ _ _ h => h) (Or.inl ⟨by rfl, ?_⟩) hS ?_
    rotate_left
    focus (intro w' hw'; go_simp; all_goals with_reducible rfl)
    try simp only [Act.put, List.setIfInBounds_toArray, List.set_cons_zero, List.set_cons_succ]
    refine wpAnyH_mask (i := 4) (m' := 31) (v := ?_) (by simp only [List.getElem?_toArray, List.getElem?_cons_succ, List.getElem?_cons_zero] <;> exact rfl) (by kernel_rfl) (by kernel_rfl) (by kernel_rfl) (fun _ _ _ h => h) (Or.inl ⟨by rfl, ?_⟩) hS ?_
    rotate_left
    focus (intro w' hw'; go_simp; all_goals with_reducible rfl)
    try simp only [Act.put, List.setIfInBounds_toArray, List.set_cons_zero, List.set_cons_succ]
    refine wpAnyH_mask (i := 5) (m' := 63) (v := ?_) (by simp only [List.getElem?_toArray, List.getElem?_cons_succ, List.getElem?_cons_zero] <;> exact rfl) (by kernel_rfl) (by kernel_rfl) (by kernel_rfl) (fun _ _ _ h => h) (Or.inl ⟨by rfl, ?_⟩) hS ?_
    rotate_left
    focus (intro w' hw'; go_simp; all_goals with_reducible rfl)
    try simp only [Act.put, List.setIfInBounds_toArray, List.set_cons_zero, List.set_cons_succ]
    refine wpAnyH_mask (i := 6) (m' := 127) (v := ?_) (by simp only [List.getElem?_toArray, List.getElem?_cons_succ, List.getElem?_cons_zero] <;> exact rfl) (by kernel_rfl) (by kernel_rfl) (by kernel_rfl) (fun _ _ _ h => h) (Or.inl ⟨by rfl, ?_⟩) hS ?_
    rotate_left
    focus (intro w' hw'; go_simp; all_goals with_reducible rfl)
    try simp only [Act.put, List.setIfInBounds_toArray, List.set_cons_zero, List.set_cons_succ]
    refine wpAnyH_mask (i := 7) (m' := 255) (v := ?_) (by simp only [List.getElem?_toArray, List.getElem?_cons_succ, List.getElem?_cons_zero] <;> exact rfl) (by kernel_rfl) (by kernel_rfl) (by kernel_rfl) (fun _ _ _ h => h) (Or.inl ⟨by rfl, ?_⟩) hS ?_
    rotate_left
    focus (intro w' hw'; go_simp; all_goals with_reducible rfl)
    try simp only [Act.put, List.setIfInBounds_toArray, List.set_cons_zero, List.set_cons_succ]
    refine wpAnyH_mask (i := 8) (m' := 511) (v := ?_) (by simp only [List.getElem?_toArray, List.getElem?_cons_succ, List.getElem?_cons_zero] <;> exact rfl) (by kernel_rfl) (by kernel_rfl) (by kernel_rfl) (fun _ _ _ h => h) (Or.inl ⟨by rfl, ?_⟩) hS ?_
    rotate_left
    focus (intro w' hw'; go_simp; all_goals with_reducible rfl)
    try simp only [Act.put, List.setIfInBounds_toArray, List.set_cons_zero, List.set_cons_succ]
    refine wpAnyH_mask (i := 9) (m' := 1023) (v := ?_) (by simp only [List.getElem?_toArray, List.getElem?_cons_succ, List.getElem?_cons_zero] <;> exact rfl) (by kernel_rfl) (by kernel_rfl) (by kernel_rfl) (fun _ _ _ h => h) (Or.inl ⟨by rfl, ?_⟩) hS ?_
    rotate_left
    focus (intro w' hw'; go_simp; all_goals with_reducible rfl)
    try simp only [Act.put, List.setIfInBounds_toArray, List.set_cons_zero, List.set_cons_succ]
    refine wpAnyH_mask (i := 10) (m' := 2047) (v := ?_) (by simp only [List.getElem?_toArray, List.getElem?_cons_succ, List.getElem?_cons_zero] <;> exact rfl) (by kernel_rfl) (by kernel_rfl) (by kernel_rfl) (fun _ _ _ h => h) (Or.inl ⟨by rfl, ?_⟩) hS ?_
    rotate_left
    focus (intro w' hw'; go_simp; all_goals with_reducible rfl)
    try simp only [Act.put, List.setIfInBounds_toArray, List.set_cons_zero, List.set_cons_succ]
    refine wpAnyH_mask (i := 11) (m' := 4095) (v := ?_) (by simp only [List.getElem?_toArray, List.getElem?_cons_succ, List.getElem?_cons_zero] <;> exact rfl) (by kernel_rfl) (by kernel_rfl) (by kernel_rfl) (fun _ _ _ h => h) (Or.inl ⟨by rfl, ?_⟩) hS ?_
    rotate_left
    focus (intro w' hw'; go_simp; all_goals with_reducible rfl)
    try simp only [Act.put, List.setIfInBounds_toArray, List.set_cons_zero, List.set_cons_succ]
    refine wpAnyH_mask (i := 12) (m' := 8191) (v := ?_) (by simp only [List.getElem?_toArray, List.getElem?_cons_succ, List.getElem?_cons_zero] <;> exact rfl) (by kernel_rfl) (by kernel_rfl) (by kernel_rfl) (fun _ _ _ h => h) (Or.inl ⟨by rfl, ?_⟩) hS ?_
    rotate_left
    focus (intro w' hw'; go_simp; all_goals with_reducible rfl)
    try simp only [Act.put, List.setIfInBounds_toArray, List.set_cons_zero, List.set_cons_succ]
    refine wpAnyH_ready (rs := [13]) (ready_mask (by kernel_rfl)) (by simp) ?_
    refine AllReadyH.cons (o := _) (by simp only [List.getElem?_toArray, List.getElem?_cons_succ, List.getElem?_cons_zero] <;> exact rfl) (fun K hK => ?_) ?_
    focus (
      go_simp
      have hS := hS.alloc hS.size (.cells #[.int .i64 0, .int .i64 1, .int .i64 1, .int .i64 0, .int .i64 1, .int .i64 1] 3)
      refine hK.out _ _ hS (fun _ => ?_)
      clear hK K
      try simp only [Act.put, List.setIfInBounds_toArray, List.set_cons_zero, List.set_cons_succ]
      refine wpAnyH_marked (m' := 16383) (of_decide_eq_true (by kernel_rfl)) (by kernel_rfl) ?_
      refine wpAnyH_ready (rs := [14]) (ready_mask (by kernel_rfl)) (by simp) ?_
      refine AllReadyH.cons (o := _) (by simp only [List.getElem?_toArray, List.getElem?_cons_succ, List.getElem?_cons_zero] <;> exact rfl) (fun K hK => ?_) ?_
      focus (
        go_simp
        go_at_call 23
        refine (tw_e _ _ _ _ _ (Hwh_26.out.keep hS) (nl_blk (l := [0, 1, 1, 0, 1, 1]) (BlkIs.new _ 3 #[.int .i64 0, .int .i64 1, .int .i64 1, .int .i64 0, .int .i64 1, .int .i64 1]) (by intro x hx; exact WalkArith.wf_i64 (by simp at hx; omega)) (by unfold maxLen; simp))).mono ?_
        rintro e wc1 ⟨rfl, hb⟩
        have hS := hS.trans (hb.mono hS.size)
        clear hb
        go_wp2_with fail
        refine hK.out _ _ hS (fun _ => ?_)
        clear hK K
        try simp only [Act.put, List.setIfInBounds_toArray, List.set_cons_zero, List.set_cons_succ]
        refine wpAnyH_marked (m' := 32767) (of_decide_eq_true (by kernel_rfl)) (by kernel_rfl) ?_
        as_aux_lemma =>
          refine wpAnyH_mask (i := 15) (m' := 65535) (v := ?_) (by simp only [List.getElem?_toArray, List.getElem?_cons_succ, List.getElem?_cons_zero] <;> exact rfl) (by kernel_rfl) (by kernel_rfl) (by kernel_rfl) (fun _ _ _ h => h) (Or.inl ⟨by rfl, ?_⟩) hS ?_
          rotate_left
          focus (intro w' hw'; go_simp; all_goals with_reducible rfl)
          try simp only [Act.put, List.setIfInBounds_toArray, List.set_cons_zero, List.set_cons_succ]
          refine wpAnyH_mask (i := 16) (m' := 131071) (v := ?_) (by simp only [List.getElem?_toArray, List.getElem?_cons_succ, List.getElem?_cons_zero] <;> exact rfl) (by kernel_rfl) (by kernel_rfl) (by kernel_rfl) (fun _ _ _ h => h) (Or.inl ⟨by rfl, ?_⟩) hS ?_
          rotate_left
          focus (intro w' hw'; go_simp; all_goals with_reducible rfl)
          try simp only [Act.put, List.setIfInBounds_toArray, List.set_cons_zero, List.set_cons_succ]
          refine wpAnyH_mask (i := 17) (m' := 262143) (v := ?_) (by simp only [List.getElem?_toArray, List.getElem?_cons_succ, List.getElem?_cons_zero] <;> exact rfl) (by kernel_rfl) (by kernel_rfl) (by kernel_rfl) (fun _ _ _ h => h) (Or.inl ⟨by rfl, ?_⟩) hS ?_
          rotate_left
          focus (intro w' hw'; go_simp; all_goals with_reducible rfl)
          try simp only [Act.put, List.setIfInBounds_toArray, List.set_cons_zero, List.set_cons_succ]
          refine wpAnyH_mask (i := 18) (m' := 524287) (v := ?_) (by simp only [List.getElem?_toArray, List.getElem?_cons_succ, List.getElem?_cons_zero] <;> exact rfl) (by kernel_rfl) (by kernel_rfl) (by kernel_rfl) (fun _ _ _ h => h) (Or.inl ⟨by rfl, ?_⟩) hS ?_
          rotate_left
          focus (intro w' hw'; go_simp; all_goals with_reducible rfl)
          try simp only [Act.put, List.setIfInBounds_toArray, List.set_cons_zero, List.set_cons_succ]
          refine wpAnyH_mask (i := 19) (m' := 1048575) (v := ?_) (by simp only [List.getElem?_toArray, List.getElem?_cons_succ, List.getElem?_cons_zero] <;> exact rfl) (by kernel_rfl) (by kernel_rfl) (by kernel_rfl) (fun _ _ _ h => h) (Or.inl ⟨by rfl, ?_⟩) hS ?_
          rotate_left
          focus (intro w' hw'; go_simp; all_goals with_reducible rfl)
          try simp only [Act.put, List.setIfInBounds_toArray, List.set_cons_zero, List.set_cons_succ]
          refine wpAnyH_mask (i := 20) (m' := 2097151) (v := ?_) (by simp only [List.getElem?_toArray, List.getElem?_cons_succ, List.getElem?_cons_zero] <;> exact rfl) (by kernel_rfl) (by kernel_rfl) (by kernel_rfl) (fun _ _ _ h => h) (Or.inl ⟨by rfl, ?_⟩) hS ?_
          rotate_left
          focus (intro w' hw'; go_simp; all_goals with_reducible rfl)
          try simp only [Act.put, List.setIfInBounds_toArray, List.set_cons_zero, List.set_cons_succ]
          refine wpAnyH_mask (i := 21) (m' := 4194303) (v := ?_) (by simp only [List.getElem?_toArray, List.getElem?_cons_succ, List.getElem?_cons_zero] <;> exact rfl) (by kernel_rfl) (by kernel_rfl) (by kernel_rfl) (fun _ _ _ h => h) (Or.inl ⟨by rfl, ?_⟩) hS ?_
          rotate_left
          focus (intro w' hw'; go_simp; all_goals with_reducible rfl)
          try simp only [Act.put, List.setIfInBounds_toArray, List.set_cons_zero, List.set_cons_succ]
          refine wpAnyH_mask (i := 22) (m' := 8388607) (v := ?_) (by simp only [List.getElem?_toArray, List.getElem?_cons_succ, List.getElem?_cons_zero] <;> exact rfl) (by kernel_rfl) (by kernel_rfl) (by kernel_rfl) (fun _ _ _ h => h) (Or.inl ⟨by rfl, ?_⟩) hS ?_
          rotate_left
          focus (intro w' hw'; go_simp; all_goals with_reducible rfl)
          try simp only [Act.put, List.setIfInBounds_toArray, List.set_cons_zero, List.set_cons_succ]
          refine wpAnyH_mask (i := 23) (m' := 16777215) (v := ?_) (by simp only [List.getElem?_toArray, List.getElem?_cons_succ, List.getElem?_cons_zero] <;> exact rfl) (by kernel_rfl) (by kernel_rfl) (by kernel_rfl) (fun _ _ _ h => h) (Or.inl ⟨by rfl, ?_⟩) hS ?_
          rotate_left
          focus (intro w' hw'; go_simp; all_goals with_reducible rfl)
          try simp only [Act.put, List.setIfInBounds_toArray, List.set_cons_zero, List.set_cons_succ]
          refine wpAnyH_mask (i := 24) (m' := 33554431) (v := ?_) (by simp only [List.getElem?_toArray, List.getElem?_cons_succ, List.getElem?_cons_zero] <;> exact rfl) (by kernel_rfl) (by kernel_rfl) (by kernel_rfl) (fun _ _ _ h => h) (Or.inl ⟨by rfl, ?_⟩) hS ?_
          rotate_left
          focus (intro w' hw'; go_simp; all_goals with_reducible rfl)
          try simp only [Act.put, List.setIfInBounds_toArray, List.set_cons_zero, List.set_cons_succ]
          refine wpAnyH_mask (i := 25) (m' := 67108863) (v := ?_) (by simp only [List.getElem?_toArray, List.getElem?_cons_succ, List.getElem?_cons_zero] <;> exact rfl) (by kernel_rfl) (by kernel_rfl) (by kernel_rfl) (fun _ _ _ h => h) (Or.inl ⟨by rfl, ?_⟩) hS ?_
          rotate_left
          focus (intro w' hw'; have k3 := (hw'.cell (p := ⟨b9, _, none⟩) hbl).trans S3.out; go_simp; all_goals with_reducible rfl)
          try simp only [Act.put, List.setIfInBounds_toArray, List.set_cons_zero, List.set_cons_succ]
          refine wpAnyH_mask (i := 26) (m' := 134217727) (v := ?_) (by simp only [List.getElem?_toArray, List.getElem?_cons_succ, List.getElem?_cons_zero] <;> exact rfl) (by kernel_rfl) (by kernel_rfl) (by kernel_rfl) (fun _ _ _ h => h) (Or.inl ⟨by rfl, ?_⟩) hS ?_
          rotate_left
          focus (intro w' hw'; go_simp; all_goals with_reducible rfl)
          try simp only [Act.put, List.setIfInBounds_toArray, List.set_cons_zero, List.set_cons_succ]
          refine wpAnyH_mask (i := 27) (m' := 268435455) (v := ?_) (by simp only [List.getElem?_toArray, List.getElem?_cons_succ, List.getElem?_cons_zero] <;> exact rfl) (by kernel_rfl) (by kernel_rfl) (by kernel_rfl) (fun _ _ _ h => h) (Or.inl ⟨by rfl, ?_⟩) hS ?_
          rotate_left
          focus (intro w' hw'; go_simp; all_goals with_reducible rfl)
          try simp only [Act.put, List.setIfInBounds_toArray, List.set_cons_zero, List.set_cons_succ]
          refine wpAnyH_mask (i := 28) (m' := 536870911) (v := ?_) (by simp only [List.getElem?_toArray, List.getElem?_cons_succ, List.getElem?_cons_zero] <;> exact rfl) (by kernel_rfl) (by kernel_rfl) (by kernel_rfl) (fun _ _ _ h => h) (Or.inl ⟨by rfl, ?_⟩) hS ?_
          rotate_left
          focus (intro w' hw'; go_simp; all_goals with_reducible rfl)
          try simp only [Act.put, List.setIfInBounds_toArray, List.set_cons_zero, List.set_cons_succ]
          refine wpAnyH_mask (i := 29) (m' := 1073741823) (v := ?_) (by simp only [List.getElem?_toArray, List.getElem?_cons_succ, List.getElem?_cons_zero] <;> exact rfl) (by kernel_rfl) (by kernel_rfl) (by kernel_rfl) (fun _ _ _ h => h) (Or.inl ⟨by rfl, ?_⟩) hS ?_
          rotate_left
          focus (intro w' hw'; go_simp; all_goals with_reducible rfl)
          try simp only [Act.put, List.setIfInBounds_toArray, List.set_cons_zero, List.set_cons_succ]
          refine wpAnyH_mask (i := 30) (m' := 2147483647) (v := ?_) (by simp only [List.getElem?_toArray, List.getElem?_cons_succ, List.getElem?_cons_zero] <;> exact rfl) (by kernel_rfl) (by kernel_rfl) (by kernel_rfl) (fun _ _ _ h => h) (Or.inl ⟨by rfl, ?_⟩) hS ?_
          rotate_left
          focus (intro w' hw'; go_simp; all_goals with_reducible rfl)
          try simp only [Act.put, List.setIfInBounds_toArray, List.set_cons_zero, List.set_cons_succ]
          refine wpAnyH_mask (i := 31) (m' := 4294967295) (v := ?_) (by simp only [List.getElem?_toArray, List.getElem?_cons_succ, List.getElem?_cons_zero] <;> exact rfl) (by kernel_rfl) (by kernel_rfl) (by kernel_rfl) (fun _ _ _ h => h) (Or.inl ⟨by rfl, ?_⟩) hS ?_
          rotate_left
          focus (intro w' hw'; go_simp; all_goals with_reducible rfl)
          try simp only [Act.put, List.setIfInBounds_toArray, List.set_cons_zero, List.set_cons_succ]
          refine wpAnyH_mask (i := 32) (m' := 8589934591) (v := ?_) (by simp only [List.getElem?_toArray, List.getElem?_cons_succ, List.getElem?_cons_zero] <;> exact rfl) (by kernel_rfl) (by kernel_rfl) (by kernel_rfl) (fun _ _ _ h => h) (Or.inl ⟨by rfl, ?_⟩) hS ?_
          rotate_left
          focus (intro w' hw'; have k3 := (hw'.cell (p := ⟨b9, _, none⟩) hbl).trans R3.out; go_simp; all_goals with_reducible rfl)
          try simp only [Act.put, List.setIfInBounds_toArray, List.set_cons_zero, List.set_cons_succ]
          refine wpAnyH_mask (i := 33) (m' := 17179869183) (v := ?_) (by simp only [List.getElem?_toArray, List.getElem?_cons_succ, List.getElem?_cons_zero] <;> exact rfl) (by kernel_rfl) (by kernel_rfl) (by kernel_rfl) (fun _ _ _ h => h) (Or.inl ⟨by rfl, ?_⟩) hS ?_
          rotate_left
          focus (intro w' hw'; go_simp; all_goals with_reducible rfl)
          try simp only [Act.put, List.setIfInBounds_toArray, List.set_cons_zero, List.set_cons_succ]
          refine wpAnyH_mask (i := 34) (m' := 34359738367) (v := ?_) (by simp only [List.getElem?_toArray, List.getElem?_cons_succ, List.getElem?_cons_zero] <;> exact rfl) (by kernel_rfl) (by kernel_rfl) (by kernel_rfl) (fun _ _ _ h => h) (Or.inl ⟨by rfl, ?_⟩) hS ?_
          rotate_left
          focus (intro w' hw'; go_simp; all_goals with_reducible rfl)
          try simp only [Act.put, List.setIfInBounds_toArray, List.set_cons_zero, List.set_cons_succ]
          refine wpAnyH_mask (i := 35) (m' := 68719476735) (v := ?_) (by simp only [List.getElem?_toArray, List.getElem?_cons_succ, List.getElem?_cons_zero] <;> exact rfl) (by kernel_rfl) (by kernel_rfl) (by kernel_rfl) (fun _ _ _ h => h) (Or.inl ⟨by rfl, ?_⟩) hS ?_
          rotate_left
          focus (intro w' hw'; go_simp; all_goals with_reducible rfl)
          try simp only [Act.put, List.setIfInBounds_toArray, List.set_cons_zero, List.set_cons_succ]
          refine wpAnyH_mask (i := 36) (m' := 137438953471) (v := ?_) (by simp only [List.getElem?_toArray, List.getElem?_cons_succ, List.getElem?_cons_zero] <;> exact rfl) (by kernel_rfl) (by kernel_rfl) (by kernel_rfl) (fun _ _ _ h => h) (Or.inl ⟨by rfl, ?_⟩) hS ?_
          rotate_left
          focus (intro w' hw'; go_simp; all_goals with_reducible rfl)
          try simp only [Act.put, List.setIfInBounds_toArray, List.set_cons_zero, List.set_cons_succ]
          refine wpAnyH_mask (i := 37) (m' := 274877906943) (v := ?_) (by simp only [List.getElem?_toArray, List.getElem?_cons_succ, List.getElem?_cons_zero] <;> exact rfl) (by kernel_rfl) (by kernel_rfl) (by kernel_rfl) (fun _ _ _ h => h) (Or.inl ⟨by rfl, ?_⟩) hS ?_
          rotate_left
          focus (intro w' hw'; go_simp; all_goals with_reducible rfl)
          try simp only [Act.put, List.setIfInBounds_toArray, List.set_cons_zero, List.set_cons_succ]
          refine wpAnyH_mask (i := 38) (m' := 549755813887) (v := ?_) (by simp only [List.getElem?_toArray, List.getElem?_cons_succ, List.getElem?_cons_zero] <;> exact rfl) (by kernel_rfl) (by kernel_rfl) (by kernel_rfl) (fun _ _ _ h => h) (Or.inl ⟨by rfl, ?_⟩) hS ?_
          rotate_left
          focus (intro w' hw'; go_simp; all_goals with_reducible rfl)
          try simp only [Act.put, List.setIfInBounds_toArray, List.set_cons_zero, List.set_cons_succ]
          refine wpAnyH_mask (i := 39) (m' := 1099511627775) (v := ?_) (by simp only [List.getElem?_toArray, List.getElem?_cons_succ, List.getElem?_cons_zero] <;> exact rfl) (by kernel_rfl) (by kernel_rfl) (by kernel_rfl) (fun _ _ _ h => h) (Or.inl ⟨by rfl, ?_⟩) hS ?_
          rotate_left
          focus (intro w' hw'; go_simp; all_goals with_reducible rfl)
          try simp only [Act.put, List.setIfInBounds_toArray, List.set_cons_zero, List.set_cons_succ]
          refine wpAnyH_mask (i := 40) (m' := 2199023255551) (v := ?_) (by simp only [List.getElem?_toArray, List.getElem?_cons_succ, List.getElem?_cons_zero] <;> exact rfl) (by kernel_rfl) (by kernel_rfl) (by kernel_rfl) (fun _ _ _ h => h) (Or.inl ⟨by rfl, ?_⟩) hS ?_
          rotate_left
          focus (intro w' hw'; go_simp; all_goals with_reducible rfl)
          try simp only [Act.put, List.setIfInBounds_toArray, List.set_cons_zero, List.set_cons_succ]
          refine wpAnyH_mask (i := 41) (m' := 4398046511103) (v := ?_) (by simp only [List.getElem?_toArray, List.getElem?_cons_succ, List.getElem?_cons_zero] <;> exact rfl) (by kernel_rfl) (by kernel_rfl) (by kernel_rfl) (fun _ _ _ h => h) (Or.inl ⟨by rfl, ?_⟩) hS ?_
          rotate_left
          focus (intro w' hw'; obtain ⟨q0, q1, q2, q3⟩ := tcell4 (x := ⟨2, 2162160, 2162160, 6⟩) (Ht_26.out.keep hw'); try simp only at q0 q1 q2 q3; go_simp; all_goals with_reducible rfl)
          try simp only [Act.put, List.setIfInBounds_toArray, List.set_cons_zero, List.set_cons_succ]
          refine wpAnyH_mask (i := 42) (m' := 8796093022207) (v := ?_) (by simp only [List.getElem?_toArray, List.getElem?_cons_succ, List.getElem?_cons_zero] <;> exact rfl) (by kernel_rfl) (by kernel_rfl) (by kernel_rfl) (fun _ _ _ h => h) (Or.inl ⟨by rfl, ?_⟩) hS ?_
          rotate_left
          focus (intro w' hw'; go_simp; all_goals with_reducible rfl)
          try simp only [Act.put, List.setIfInBounds_toArray, List.set_cons_zero, List.set_cons_succ]
          refine wpAnyH_mask (i := 43) (m' := 17592186044415) (v := ?_) (by simp only [List.getElem?_toArray, List.getElem?_cons_succ, List.getElem?_cons_zero] <;> exact rfl) (by kernel_rfl) (by kernel_rfl) (by kernel_rfl) (fun _ _ _ h => h) (Or.inl ⟨by rfl, ?_⟩) hS ?_
          rotate_left
          focus (intro w' hw'; go_simp; all_goals with_reducible rfl)
          try simp only [Act.put, List.setIfInBounds_toArray, List.set_cons_zero, List.set_cons_succ]
          refine wpAnyH_mask (i := 44) (m' := 35184372088831) (v := ?_) (by simp only [List.getElem?_toArray, List.getElem?_cons_succ, List.getElem?_cons_zero] <;> exact rfl) (by kernel_rfl) (by kernel_rfl) (by kernel_rfl) (fun _ _ _ h => h) (Or.inl ⟨by rfl, ?_⟩) hS ?_
          rotate_left
          focus (intro w' hw'; go_simp; all_goals with_reducible rfl)
          try simp only [Act.put, List.setIfInBounds_toArray, List.set_cons_zero, List.set_cons_succ]
          refine wpAnyH_mask (i := 45) (m' := 70368744177663) (v := ?_) (by simp only [List.getElem?_toArray, List.getElem?_cons_succ, List.getElem?_cons_zero] <;> exact rfl) (by kernel_rfl) (by kernel_rfl) (by kernel_rfl) (fun _ _ _ h => h) (Or.inl ⟨by rfl, ?_⟩) hS ?_
          rotate_left
          focus (intro w' hw'; go_simp; all_goals with_reducible rfl)
          try simp only [Act.put, List.setIfInBounds_toArray, List.set_cons_zero, List.set_cons_succ]
          refine wpAnyH_mask (i := 46) (m' := 140737488355327) (v := ?_) (by simp only [List.getElem?_toArray, List.getElem?_cons_succ, List.getElem?_cons_zero] <;> exact rfl) (by kernel_rfl) (by kernel_rfl) (by kernel_rfl) (fun _ _ _ h => h) (Or.inl ⟨by rfl, ?_⟩) hS ?_
          rotate_left
          focus (intro w' hw'; go_simp; all_goals with_reducible rfl)
          try simp only [Act.put, List.setIfInBounds_toArray, List.set_cons_zero, List.set_cons_succ]
          refine wpAnyH_mask (i := 47) (m' := 281474976710655) (v := ?_) (by simp only [List.getElem?_toArray, List.getElem?_cons_succ, List.getElem?_cons_zero] <;> exact rfl) (by kernel_rfl) (by kernel_rfl) (by kernel_rfl) (fun _ _ _ h => h) (Or.inl ⟨by rfl, ?_⟩) hS ?_
          rotate_left
          focus (intro w' hw'; go_simp; all_goals with_reducible rfl)
          try simp only [Act.put, List.setIfInBounds_toArray, List.set_cons_zero, List.set_cons_succ]
          refine wpAnyH_mask (i := 48) (m' := 562949953421311) (v := ?_) (by simp only [List.getElem?_toArray, List.getElem?_cons_succ, List.getElem?_cons_zero] <;> exact rfl) (by kernel_rfl) (by kernel_rfl) (by kernel_rfl) (fun _ _ _ h => h) (Or.inl ⟨by rfl, ?_⟩) hS ?_
          rotate_left
          focus (intro w' hw'; go_simp; all_goals with_reducible rfl)
          try simp only [Act.put, List.setIfInBounds_toArray, List.set_cons_zero, List.set_cons_succ]
          refine wpAnyH_mask (i := 49) (m' := 1125899906842623) (v := ?_) (by simp only [List.getElem?_toArray, List.getElem?_cons_succ, List.getElem?_cons_zero] <;> exact rfl) (by kernel_rfl) (by kernel_rfl) (by kernel_rfl) (fun _ _ _ h => h) (Or.inl ⟨by rfl, ?_⟩) hS ?_
          rotate_left
          focus (intro w' hw'; go_simp; all_goals with_reducible rfl)
          try simp only [Act.put, List.setIfInBounds_toArray, List.set_cons_zero, List.set_cons_succ]
          refine wpAnyH_mask (i := 50) (m' := 2251799813685247) (v := ?_) (by simp only [List.getElem?_toArray, List.getElem?_cons_succ, List.getElem?_cons_zero] <;> exact rfl) (by kernel_rfl) (by kernel_rfl) (by kernel_rfl) (fun _ _ _ h => h) (Or.inl ⟨by rfl, ?_⟩) hS ?_
          rotate_left
          focus (intro w' hw'; obtain ⟨q0, q1, q2, q3⟩ := tcell4 (x := ⟨2, 5000000, 2162160, 6⟩) (Hk_26.out.keep hw'); try simp only at q0 q1 q2 q3; go_simp; all_goals with_reducible rfl)
          try simp only [Act.put, List.setIfInBounds_toArray, List.set_cons_zero, List.set_cons_succ]
          refine wpAnyH_mask (i := 51) (m' := 4503599627370495) (v := ?_) (by simp only [List.getElem?_toArray, List.getElem?_cons_succ, List.getElem?_cons_zero] <;> exact rfl) (by kernel_rfl) (by kernel_rfl) (by kernel_rfl) (fun _ _ _ h => h) (Or.inl ⟨by rfl, ?_⟩) hS ?_
          rotate_left
          focus (intro w' hw'; go_simp; all_goals with_reducible rfl)
          try simp only [Act.put, List.setIfInBounds_toArray, List.set_cons_zero, List.set_cons_succ]
          refine wpAnyH_mask (i := 52) (m' := 9007199254740991) (v := ?_) (by simp only [List.getElem?_toArray, List.getElem?_cons_succ, List.getElem?_cons_zero] <;> exact rfl) (by kernel_rfl) (by kernel_rfl) (by kernel_rfl) (fun _ _ _ h => h) (Or.inl ⟨by rfl, ?_⟩) hS ?_
          rotate_left
          focus (intro w' hw'; go_simp; all_goals with_reducible rfl)
          try simp only [Act.put, List.setIfInBounds_toArray, List.set_cons_zero, List.set_cons_succ]
          refine wpAnyH_mask (i := 53) (m' := 18014398509481983) (v := ?_) (by simp only [List.getElem?_toArray, List.getElem?_cons_succ, List.getElem?_cons_zero] <;> exact rfl) (by kernel_rfl) (by kernel_rfl) (by kernel_rfl) (fun _ _ _ h => h) (Or.inl ⟨by rfl, ?_⟩) hS ?_
          rotate_left
          focus (intro w' hw'; go_simp; all_goals with_reducible rfl)
          try simp only [Act.put, List.setIfInBounds_toArray, List.set_cons_zero, List.set_cons_succ]
          refine wpAnyH_mask (i := 54) (m' := 36028797018963967) (v := ?_) (by simp only [List.getElem?_toArray, List.getElem?_cons_succ, List.getElem?_cons_zero] <;> exact rfl) (by kernel_rfl) (by kernel_rfl) (by kernel_rfl) (fun _ _ _ h => h) (Or.inl ⟨by rfl, ?_⟩) hS ?_
          rotate_left
          focus (intro w' hw'; go_simp; all_goals with_reducible rfl)
          try simp only [Act.put, List.setIfInBounds_toArray, List.set_cons_zero, List.set_cons_succ]
          refine wpAnyH_mask (i := 55) (m' := 72057594037927935) (v := ?_) (by simp only [List.getElem?_toArray, List.getElem?_cons_succ, List.getElem?_cons_zero] <;> exact rfl) (by kernel_rfl) (by kernel_rfl) (by kernel_rfl) (fun _ _ _ h => h) (Or.inl ⟨by rfl, ?_⟩) hS ?_
          rotate_left
          focus (intro w' hw'; obtain ⟨q0, q1, q2, q3⟩ := tcell4 (x := ⟨2, 5000000, 2162160, 6⟩) (Hk_26.out.keep hw'); try simp only at q0 q1 q2 q3; go_simp; all_goals with_reducible rfl)
          try simp only [Act.put, List.setIfInBounds_toArray, List.set_cons_zero, List.set_cons_succ]
          refine wpAnyH_mask (i := 56) (m' := 144115188075855871) (v := ?_) (by simp only [List.getElem?_toArray, List.getElem?_cons_succ, List.getElem?_cons_zero] <;> exact rfl) (by kernel_rfl) (by kernel_rfl) (by kernel_rfl) (fun _ _ _ h => h) (Or.inl ⟨by rfl, ?_⟩) hS ?_
          rotate_left
          focus (intro w' hw'; go_simp; all_goals with_reducible rfl)
          try simp only [Act.put, List.setIfInBounds_toArray, List.set_cons_zero, List.set_cons_succ]
          refine wpAnyH_mask (i := 57) (m' := 288230376151711743) (v := ?_) (by simp only [List.getElem?_toArray, List.getElem?_cons_succ, List.getElem?_cons_zero] <;> exact rfl) (by kernel_rfl) (by kernel_rfl) (by kernel_rfl) (fun _ _ _ h => h) (Or.inl ⟨by rfl, ?_⟩) hS ?_
          rotate_left
          focus (intro w' hw'; go_simp; all_goals with_reducible rfl)
          try simp only [Act.put, List.setIfInBounds_toArray, List.set_cons_zero, List.set_cons_succ]
          refine wpAnyH_mask (i := 58) (m' := 576460752303423487) (v := ?_) (by simp only [List.getElem?_toArray, List.getElem?_cons_succ, List.getElem?_cons_zero] <;> exact rfl) (by kernel_rfl) (by kernel_rfl) (by kernel_rfl) (fun _ _ _ h => h) (Or.inl ⟨by rfl, ?_⟩) hS ?_
          rotate_left
          focus (intro w' hw'; go_simp; all_goals with_reducible rfl)
          try simp only [Act.put, List.setIfInBounds_toArray, List.set_cons_zero, List.set_cons_succ]
          refine wpAnyH_mask (i := 59) (m' := 1152921504606846975) (v := ?_) (by simp only [List.getElem?_toArray, List.getElem?_cons_succ, List.getElem?_cons_zero] <;> exact rfl) (by kernel_rfl) (by kernel_rfl) (by kernel_rfl) (fun _ _ _ h => h) (Or.inl ⟨by rfl, ?_⟩) hS ?_
          rotate_left
          focus (intro w' hw'; go_simp; all_goals with_reducible rfl)
          try simp only [Act.put, List.setIfInBounds_toArray, List.set_cons_zero, List.set_cons_succ]
          refine wpAnyH_mask (i := 60) (m' := 2305843009213693951) (v := ?_) (by simp only [List.getElem?_toArray, List.getElem?_cons_succ, List.getElem?_cons_zero] <;> exact rfl) (by kernel_rfl) (by kernel_rfl) (by kernel_rfl) (fun _ _ _ h => h) (Or.inl ⟨by rfl, ?_⟩) hS ?_
          rotate_left
          focus (intro w' hw'; go_simp; all_goals with_reducible rfl)
          try simp only [Act.put, List.setIfInBounds_toArray, List.set_cons_zero, List.set_cons_succ]
          refine wpAnyH_mask (i := 61) (m' := 4611686018427387903) (v := ?_) (by simp only [List.getElem?_toArray, List.getElem?_cons_succ, List.getElem?_cons_zero] <;> exact rfl) (by kernel_rfl) (by kernel_rfl) (by kernel_rfl) (fun _ _ _ h => h) (Or.inl ⟨by rfl, ?_⟩) hS ?_
          rotate_left
          focus (intro w' hw'; go_simp; all_goals with_reducible rfl)
          try simp only [Act.put, List.setIfInBounds_toArray, List.set_cons_zero, List.set_cons_succ]
          refine wpAnyH_mask (i := 62) (m' := 9223372036854775807) (v := ?_) (by simp only [List.getElem?_toArray, List.getElem?_cons_succ, List.getElem?_cons_zero] <;> exact rfl) (by kernel_rfl) (by kernel_rfl) (by kernel_rfl) (fun _ _ _ h => h) (Or.inl ⟨by rfl, ?_⟩) hS ?_
          rotate_left
          focus (intro w' hw'; go_simp; all_goals with_reducible rfl)
          try simp only [Act.put, List.setIfInBounds_toArray, List.set_cons_zero, List.set_cons_succ]
          refine wpAnyH_mask (i := 63) (m' := 18446744073709551615) (v := ?_) (by simp only [List.getElem?_toArray, List.getElem?_cons_succ, List.getElem?_cons_zero] <;> exact rfl) (by kernel_rfl) (by kernel_rfl) (by kernel_rfl) (fun _ _ _ h => h) (Or.inl ⟨by rfl, ?_⟩) hS ?_
          rotate_left
          focus (intro w' hw'; go_simp; all_goals with_reducible rfl)
          try simp only [Act.put, List.setIfInBounds_toArray, List.set_cons_zero, List.set_cons_succ]
          refine wpAnyH_mask (i := 64) (m' := 36893488147419103231) (v := ?_) (by simp only [List.getElem?_toArray, List.getElem?_cons_succ, List.getElem?_cons_zero] <;> exact rfl) (by kernel_rfl) (by kernel_rfl) (by kernel_rfl) (fun _ _ _ h => h) (Or.inl ⟨by rfl, ?_⟩) hS ?_
          rotate_left
          focus (intro w' hw'; go_simp; all_goals with_reducible rfl)
          try simp only [Act.put, List.setIfInBounds_toArray, List.set_cons_zero, List.set_cons_succ]
          refine wpAnyH_mask (i := 65) (m' := 73786976294838206463) (v := ?_) (by simp only [List.getElem?_toArray, List.getElem?_cons_succ, List.getElem?_cons_zero] <;> exact rfl) (by kernel_rfl) (by kernel_rfl) (by kernel_rfl) (fun _ _ _ h => h) (Or.inl ⟨by rfl, ?_⟩) hS ?_
          rotate_left
          focus (intro w' hw'; go_simp; all_goals with_reducible rfl)
          try simp only [Act.put, List.setIfInBounds_toArray, List.set_cons_zero, List.set_cons_succ]
          refine wpAnyH_mask (i := 66) (m' := 147573952589676412927) (v := ?_) (by simp only [List.getElem?_toArray, List.getElem?_cons_succ, List.getElem?_cons_zero] <;> exact rfl) (by kernel_rfl) (by kernel_rfl) (by kernel_rfl) (fun _ _ _ h => h) (Or.inl ⟨by rfl, ?_⟩) hS ?_
          rotate_left
          focus (intro w' hw'; go_simp; all_goals with_reducible rfl)
          try simp only [Act.put, List.setIfInBounds_toArray, List.set_cons_zero, List.set_cons_succ]
          refine wpAnyH_mask (i := 67) (m' := 295147905179352825855) (v := ?_) (by simp only [List.getElem?_toArray, List.getElem?_cons_succ, List.getElem?_cons_zero] <;> exact rfl) (by kernel_rfl) (by kernel_rfl) (by kernel_rfl) (fun _ _ _ h => h) (Or.inl ⟨by rfl, ?_⟩) hS ?_
          rotate_left
          focus (intro w' hw'; go_simp; all_goals with_reducible rfl)
          try simp only [Act.put, List.setIfInBounds_toArray, List.set_cons_zero, List.set_cons_succ]
          refine wpAnyH_mask (i := 68) (m' := 590295810358705651711) (v := ?_) (by simp only [List.getElem?_toArray, List.getElem?_cons_succ, List.getElem?_cons_zero] <;> exact rfl) (by kernel_rfl) (by kernel_rfl) (by kernel_rfl) (fun _ _ _ h => h) (Or.inl ⟨by rfl, ?_⟩) hS ?_
          rotate_left
          focus (intro w' hw'; go_simp; all_goals with_reducible rfl)
          try simp only [Act.put, List.setIfInBounds_toArray, List.set_cons_zero, List.set_cons_succ]
          refine wpAnyH_mask (i := 69) (m' := 1180591620717411303423) (v := ?_) (by simp only [List.getElem?_toArray, List.getElem?_cons_succ, List.getElem?_cons_zero] <;> exact rfl) (by kernel_rfl) (by kernel_rfl) (by kernel_rfl) (fun _ _ _ h => h) (Or.inl ⟨by rfl, ?_⟩) hS ?_
          rotate_left
          focus (intro w' hw'; go_simp; all_goals with_reducible rfl)
          try simp only [Act.put, List.setIfInBounds_toArray, List.set_cons_zero, List.set_cons_succ]
          refine wpAnyH_mask (i := 70) (m' := 2361183241434822606847) (v := ?_) (by simp only [List.getElem?_toArray, List.getElem?_cons_succ, List.getElem?_cons_zero] <;> exact rfl) (by kernel_rfl) (by kernel_rfl) (by kernel_rfl) (fun _ _ _ h => h) (Or.inl ⟨by rfl, ?_⟩) hS ?_
          rotate_left
          focus (intro w' hw'; go_simp; all_goals with_reducible rfl)
          try simp only [Act.put, List.setIfInBounds_toArray, List.set_cons_zero, List.set_cons_succ]
          refine wpAnyH_mask (i := 71) (m' := 4722366482869645213695) (v := ?_) (by simp only [List.getElem?_toArray, List.getElem?_cons_succ, List.getElem?_cons_zero] <;> exact rfl) (by kernel_rfl) (by kernel_rfl) (by kernel_rfl) (fun _ _ _ h => h) (Or.inl ⟨by rfl, ?_⟩) hS ?_
          rotate_left
          focus (intro w' hw'; go_simp; all_goals with_reducible rfl)
          try simp only [Act.put, List.setIfInBounds_toArray, List.set_cons_zero, List.set_cons_succ]
          as_aux_lemma =>
            refine wpAnyH_ready (rs := [72]) (ready_mask (by kernel_rfl)) (by simp) ?_
            refine AllReadyH.cons (o := _) (by simp only [List.getElem?_toArray, List.getElem?_cons_succ, List.getElem?_cons_zero] <;> exact rfl) (fun K hK => ?_) ?_
            focus (
              go_simp
              go_at_call 24
              refine (tw_f _ _ _ (Hsl_26.out.keep hS)).mono ?_
              rintro e wc2 ⟨rfl, hb⟩
              have hS := hS.trans (hb.mono hS.size)
              clear hb
              go_wp2_with fail
              refine hK.out _ _ hS (fun _ => ?_)
              clear hK K
              try simp only [Act.put, List.setIfInBounds_toArray, List.set_cons_zero, List.set_cons_succ]
              refine wpAnyH_marked (m' := 9444732965739290427391) (of_decide_eq_true (by kernel_rfl)) (by kernel_rfl) ?_
              refine wpAnyH_mask (i := 73) (m' := 18889465931478580854783) (v := ?_) (by simp only [List.getElem?_toArray, List.getElem?_cons_succ, List.getElem?_cons_zero] <;> exact rfl) (by kernel_rfl) (by kernel_rfl) (by kernel_rfl) (fun _ _ _ h => h) (Or.inl ⟨by rfl, ?_⟩) hS ?_
              rotate_left
              focus (intro w' hw'; go_simp; all_goals with_reducible rfl)
              try simp only [Act.put, List.setIfInBounds_toArray, List.set_cons_zero, List.set_cons_succ]
              refine wpAnyH_mask (i := 74) (m' := 37778931862957161709567) (v := ?_) (by simp only [List.getElem?_toArray, List.getElem?_cons_succ, List.getElem?_cons_zero] <;> exact rfl) (by kernel_rfl) (by kernel_rfl) (by kernel_rfl) (fun _ _ _ h => h) (Or.inl ⟨by rfl, ?_⟩) hS ?_
              rotate_left
              focus (intro w' hw'; go_simp; all_goals with_reducible rfl)
              try simp only [Act.put, List.setIfInBounds_toArray, List.set_cons_zero, List.set_cons_succ]
              refine wpAnyH_mask (i := 75) (m' := 75557863725914323419135) (v := ?_) (by simp only [List.getElem?_toArray, List.getElem?_cons_succ, List.getElem?_cons_zero] <;> exact rfl) (by kernel_rfl) (by kernel_rfl) (by kernel_rfl) (fun _ _ _ h => h) (Or.inl ⟨by rfl, ?_⟩) hS ?_
              rotate_left
              focus (intro w' hw'; go_simp; all_goals with_reducible rfl)
              try simp only [Act.put, List.setIfInBounds_toArray, List.set_cons_zero, List.set_cons_succ]
              refine wpAnyH_ready (rs := [76]) (ready_mask (by kernel_rfl)) (by simp) ?_
              refine AllReadyH.cons (o := _) (by simp only [List.getElem?_toArray, List.getElem?_cons_succ, List.getElem?_cons_zero] <;> exact rfl) (fun K hK => ?_) ?_
              focus (
                go_simp
                go_at_call 24
                refine (tw_z _).mono ?_
                rintro e wc3 ⟨rfl, hb⟩
                have hS := hS.trans (hb.mono hS.size)
                clear hb
                go_wp2_with fail
                refine hK.out _ _ hS (fun _ => ?_)
                clear hK K
                try simp only [Act.put, List.setIfInBounds_toArray, List.set_cons_zero, List.set_cons_succ]
                refine wpAnyH_marked (m' := 151115727451828646838271) (of_decide_eq_true (by kernel_rfl)) (by kernel_rfl) ?_
                refine wpAnyH_mask (i := 77) (m' := 302231454903657293676543) (v := ?_) (by simp only [List.getElem?_toArray, List.getElem?_cons_succ, List.getElem?_cons_zero] <;> exact rfl) (by kernel_rfl) (by kernel_rfl) (by kernel_rfl) (fun _ _ _ h => h) (Or.inl ⟨by rfl, ?_⟩) hS ?_
                rotate_left
                focus (intro w' hw'; go_simp; all_goals with_reducible rfl)
                try simp only [Act.put, List.setIfInBounds_toArray, List.set_cons_zero, List.set_cons_succ]
                refine wpAnyH_mask (i := 78) (m' := 604462909807314587353087) (v := ?_) (by simp only [List.getElem?_toArray, List.getElem?_cons_succ, List.getElem?_cons_zero] <;> exact rfl) (by kernel_rfl) (by kernel_rfl) (by kernel_rfl) (fun _ _ _ h => h) (Or.inl ⟨by rfl, ?_⟩) hS ?_
                rotate_left
                focus (intro w' hw'; go_simp; all_goals with_reducible rfl)
                try simp only [Act.put, List.setIfInBounds_toArray, List.set_cons_zero, List.set_cons_succ]
                refine wpAnyH_mask (i := 79) (m' := 1208925819614629174706175) (v := ?_) (by simp only [List.getElem?_toArray, List.getElem?_cons_succ, List.getElem?_cons_zero] <;> exact rfl) (by kernel_rfl) (by kernel_rfl) (by kernel_rfl) (fun _ _ _ h => h) (Or.inl ⟨by rfl, ?_⟩) hS ?_
                rotate_left
                focus (intro w' hw'; go_simp; all_goals with_reducible rfl)
                try simp only [Act.put, List.setIfInBounds_toArray, List.set_cons_zero, List.set_cons_succ]
                refine wpAnyH_mask (i := 80) (m' := 2417851639229258349412351) (v := ?_) (by simp only [List.getElem?_toArray, List.getElem?_cons_succ, List.getElem?_cons_zero] <;> exact rfl) (by kernel_rfl) (by kernel_rfl) (by kernel_rfl) (fun _ _ _ h => h) (Or.inl ⟨by rfl, ?_⟩) hS ?_
                rotate_left
                focus (intro w' hw'; go_simp; all_goals with_reducible rfl)
                try simp only [Act.put, List.setIfInBounds_toArray, List.set_cons_zero, List.set_cons_succ]
                refine wpAnyH_mask (i := 81) (m' := 4835703278458516698824703) (v := ?_) (by simp only [List.getElem?_toArray, List.getElem?_cons_succ, List.getElem?_cons_zero] <;> exact rfl) (by kernel_rfl) (by kernel_rfl) (by kernel_rfl) (fun _ _ _ h => h) (Or.inl ⟨by rfl, ?_⟩) hS ?_
                rotate_left
                focus (intro w' hw'; go_simp; all_goals with_reducible rfl)
                try simp only [Act.put, List.setIfInBounds_toArray, List.set_cons_zero, List.set_cons_succ]
                refine wpAnyH_mask (i := 82) (m' := 9671406556917033397649407) (v := .agg #[.int .i64 1, .int .i64 8648640, .int .i64 8648640, .int .i64 12]) (by simp only [List.getElem?_toArray, List.getElem?_cons_succ, List.getElem?_cons_zero] <;> exact rfl) (by kernel_rfl) (by kernel_rfl) (by kernel_rfl) (fun _ _ _ h => h) (Or.inl ⟨by rfl, ?_⟩) hS ?_
                focus (intro w' hw'; have k0 := (hw'.cell (p := ⟨b9, _, none⟩) hbl).trans S0.out; have k1 := (hw'.cell (p := ⟨b9, _, none⟩) hbl).trans S1.out; have k2 := (hw'.cell (p := ⟨b9, _, none⟩) hbl).trans S2.out; have k3 := (hw'.cell (p := ⟨b9, _, none⟩) hbl).trans S3.out; go_simp)
                try simp only [Act.put, List.setIfInBounds_toArray, List.set_cons_zero, List.set_cons_succ]
                refine wpAnyH_mask (i := 83) (m' := 19342813113834066795298815) (v := ?_) (by simp only [List.getElem?_toArray, List.getElem?_cons_succ, List.getElem?_cons_zero] <;> exact rfl) (by kernel_rfl) (by kernel_rfl) (by kernel_rfl) (fun _ _ _ h => h) (Or.inl ⟨by rfl, ?_⟩) hS ?_
                rotate_left
                focus (intro w' hw'; go_simp; all_goals with_reducible rfl)
                try simp only [Act.put, List.setIfInBounds_toArray, List.set_cons_zero, List.set_cons_succ]
                refine wpAnyH_mask (i := 84) (m' := 38685626227668133590597631) (v := ?_) (by simp only [List.getElem?_toArray, List.getElem?_cons_succ, List.getElem?_cons_zero] <;> exact rfl) (by kernel_rfl) (by kernel_rfl) (by kernel_rfl) (fun _ _ _ h => h) (Or.inl ⟨by rfl, ?_⟩) hS ?_
                rotate_left
                focus (intro w' hw'; go_simp; all_goals with_reducible rfl)
                try simp only [Act.put, List.setIfInBounds_toArray, List.set_cons_zero, List.set_cons_succ]
                refine wpAnyH_mask (i := 85) (m' := 77371252455336267181195263) (v := .agg #[.int .i64 2, .int .i64 8648640, .int .i64 8648640, .int .i64 24]) (by simp only [List.getElem?_toArray, List.getElem?_cons_succ, List.getElem?_cons_zero] <;> exact rfl) (by kernel_rfl) (by kernel_rfl) (by kernel_rfl) (fun _ _ _ h => h) (Or.inl ⟨by rfl, ?_⟩) hS ?_
                focus (intro w' hw'; have k0 := (hw'.cell (p := ⟨b9, _, none⟩) hbl).trans R0.out; have k1 := (hw'.cell (p := ⟨b9, _, none⟩) hbl).trans R1.out; have k2 := (hw'.cell (p := ⟨b9, _, none⟩) hbl).trans R2.out; have k3 := (hw'.cell (p := ⟨b9, _, none⟩) hbl).trans R3.out; go_simp)
                try simp only [Act.put, List.setIfInBounds_toArray, List.set_cons_zero, List.set_cons_succ]
                refine wpAnyH_mask (i := 86) (m' := 154742504910672534362390527) (v := .agg #[.int .i64 0, .int .i64 0]) (by simp only [List.getElem?_toArray, List.getElem?_cons_succ, List.getElem?_cons_zero] <;> exact rfl) (by kernel_rfl) (by kernel_rfl) (by kernel_rfl) (fun _ _ _ h => h) (Or.inl ⟨by rfl, ?_⟩) hS ?_
                focus (intro w' hw'; have kb : Try.prog.built 59 [] = some #[.int .i64 0, .int .i64 0] := (by kernel_rfl); go_simp)
                try simp only [Act.put, List.setIfInBounds_toArray, List.set_cons_zero, List.set_cons_succ]
                as_aux_lemma =>
                  refine wpAnyH_ready (rs := [87]) (ready_mask (by kernel_rfl)) (by simp) ?_
                  refine AllReadyH.cons (o := _) (by simp only [List.getElem?_toArray, List.getElem?_cons_succ, List.getElem?_cons_zero] <;> exact rfl) (fun K hK => ?_) ?_
                  focus (
                    go_simp
                    go_at_call 26
                    refine (tw_m _).mono ?_
                    rintro e wc4 ⟨rfl, hb⟩
                    have hS := hS.trans (hb.mono hS.size)
                    clear hb
                    go_wp2_with fail
                    refine hK.out _ _ hS (fun _ => ?_)
                    clear hK K
                    try simp only [Act.put, List.setIfInBounds_toArray, List.set_cons_zero, List.set_cons_succ]
                    refine wpAnyH_marked (m' := 309485009821345068724781055) (of_decide_eq_true (by kernel_rfl)) (by kernel_rfl) ?_
                    refine wpAnyH_mask (i := 88) (m' := 618970019642690137449562111) (v := ?_) (by simp only [List.getElem?_toArray, List.getElem?_cons_succ, List.getElem?_cons_zero] <;> exact rfl) (by kernel_rfl) (by kernel_rfl) (by kernel_rfl) (fun _ _ _ h => h) (Or.inl ⟨by rfl, ?_⟩) hS ?_
                    rotate_left
                    focus (intro w' hw'; go_simp; all_goals with_reducible rfl)
                    try simp only [Act.put, List.setIfInBounds_toArray, List.set_cons_zero, List.set_cons_succ]
                    refine wpAnyH_mask (i := 89) (m' := 1237940039285380274899124223) (v := ?_) (by simp only [List.getElem?_toArray, List.getElem?_cons_succ, List.getElem?_cons_zero] <;> exact rfl) (by kernel_rfl) (by kernel_rfl) (by kernel_rfl) (fun _ _ _ h => h) (Or.inl ⟨by rfl, ?_⟩) hS ?_
                    rotate_left
                    focus (intro w' hw'; go_simp; all_goals with_reducible rfl)
                    try simp only [Act.put, List.setIfInBounds_toArray, List.set_cons_zero, List.set_cons_succ]
                    refine wpAnyH_mask (i := 90) (m' := 2475880078570760549798248447) (v := ?_) (by simp only [List.getElem?_toArray, List.getElem?_cons_succ, List.getElem?_cons_zero] <;> exact rfl) (by kernel_rfl) (by kernel_rfl) (by kernel_rfl) (fun _ _ _ h => h) (Or.inl ⟨by rfl, ?_⟩) hS ?_
                    rotate_left
                    focus (intro w' hw'; go_simp; all_goals with_reducible rfl)
                    try simp only [Act.put, List.setIfInBounds_toArray, List.set_cons_zero, List.set_cons_succ]
                    refine wpAnyH_mask (i := 91) (m' := 4951760157141521099596496895) (v := ?_) (by simp only [List.getElem?_toArray, List.getElem?_cons_succ, List.getElem?_cons_zero] <;> exact rfl) (by kernel_rfl) (by kernel_rfl) (by kernel_rfl) (fun _ _ _ h => h) (Or.inl ⟨by rfl, ?_⟩) hS ?_
                    rotate_left
                    focus (intro w' hw'; go_simp; all_goals with_reducible rfl)
                    try simp only [Act.put, List.setIfInBounds_toArray, List.set_cons_zero, List.set_cons_succ]
                    refine wpAnyH_mask (i := 92) (m' := 9903520314283042199192993791) (v := .agg #[.int .i64 1, .int .i64 8648640, .int .i64 8648640, .int .i64 12]) (by simp only [List.getElem?_toArray, List.getElem?_cons_succ, List.getElem?_cons_zero] <;> exact rfl) (by kernel_rfl) (by kernel_rfl) (by kernel_rfl) (fun _ _ _ h => h) (Or.inl ⟨by rfl, ?_⟩) hS ?_
                    focus (intro w' hw'; have k0 := (hw'.cell (p := ⟨b9, _, none⟩) hbl).trans S0.out; have k1 := (hw'.cell (p := ⟨b9, _, none⟩) hbl).trans S1.out; have k2 := (hw'.cell (p := ⟨b9, _, none⟩) hbl).trans S2.out; have k3 := (hw'.cell (p := ⟨b9, _, none⟩) hbl).trans S3.out; go_simp)
                    try simp only [Act.put, List.setIfInBounds_toArray, List.set_cons_zero, List.set_cons_succ]
                    refine wpAnyH_mask (i := 93) (m' := 19807040628566084398385987583) (v := .agg #[.int .i64 1, .int .i64 0, .int .i64 0, .int .i64 0]) (by simp only [List.getElem?_toArray, List.getElem?_cons_succ, List.getElem?_cons_zero] <;> exact rfl) (by kernel_rfl) (by kernel_rfl) (by kernel_rfl) (fun _ _ _ h => h) (Or.inl ⟨by rfl, ?_⟩) hS ?_
                    focus (intro w' hw'; obtain ⟨q0, q1, q2, q3⟩ := tcell4 (x := ⟨1, 0, 0, 0⟩) (Ha_26.out.keep hw'); try simp only at q0 q1 q2 q3; go_simp)
                    try simp only [Act.put, List.setIfInBounds_toArray, List.set_cons_zero, List.set_cons_succ]
                    refine wpAnyH_mask (i := 94) (m' := 39614081257132168796771975167) (v := .agg #[.int .i64 0, .int .i64 0]) (by simp only [List.getElem?_toArray, List.getElem?_cons_succ, List.getElem?_cons_zero] <;> exact rfl) (by kernel_rfl) (by kernel_rfl) (by kernel_rfl) (fun _ _ _ h => h) (Or.inl ⟨by rfl, ?_⟩) hS ?_
                    focus (intro w' hw'; have kb : Try.prog.built 59 [] = some #[.int .i64 0, .int .i64 0] := (by kernel_rfl); go_simp)
                    try simp only [Act.put, List.setIfInBounds_toArray, List.set_cons_zero, List.set_cons_succ]
                    refine wpAnyH_ready (rs := [95]) (ready_mask (by kernel_rfl)) (by simp) ?_
                    refine AllReadyH.cons (o := _) (by simp only [List.getElem?_toArray, List.getElem?_cons_succ, List.getElem?_cons_zero] <;> exact rfl) (fun K hK => ?_) ?_
                    focus (
                      go_simp
                      go_at_call 26
                      refine (tw_x _).mono ?_
                      rintro e wc5 ⟨rfl, hb⟩
                      have hS := hS.trans (hb.mono hS.size)
                      clear hb
                      go_wp2_with fail
                      refine hK.out _ _ hS (fun _ => ?_)
                      clear hK K
                      try simp only [Act.put, List.setIfInBounds_toArray, List.set_cons_zero, List.set_cons_succ]
                      refine wpAnyH_marked (m' := 79228162514264337593543950335) (of_decide_eq_true (by kernel_rfl)) (by kernel_rfl) ?_
                      refine wpAnyH_mask (i := 96) (m' := 158456325028528675187087900671) (v := ?_) (by simp only [List.getElem?_toArray, List.getElem?_cons_succ, List.getElem?_cons_zero] <;> exact rfl) (by kernel_rfl) (by kernel_rfl) (by kernel_rfl) (fun _ _ _ h => h) (Or.inl ⟨by rfl, ?_⟩) hS ?_
                      rotate_left
                      focus (intro w' hw'; go_simp; all_goals with_reducible rfl)
                      try simp only [Act.put, List.setIfInBounds_toArray, List.set_cons_zero, List.set_cons_succ]
                      refine wpAnyH_mask (i := 97) (m' := 316912650057057350374175801343) (v := ?_) (by simp only [List.getElem?_toArray, List.getElem?_cons_succ, List.getElem?_cons_zero] <;> exact rfl) (by kernel_rfl) (by kernel_rfl) (by kernel_rfl) (fun _ _ _ h => h) (Or.inl ⟨by rfl, ?_⟩) hS ?_
                      rotate_left
                      focus (intro w' hw'; go_simp; all_goals with_reducible rfl)
                      try simp only [Act.put, List.setIfInBounds_toArray, List.set_cons_zero, List.set_cons_succ]
                      refine wpAnyH_mask (i := 98) (m' := 633825300114114700748351602687) (v := ?_) (by simp only [List.getElem?_toArray, List.getElem?_cons_succ, List.getElem?_cons_zero] <;> exact rfl) (by kernel_rfl) (by kernel_rfl) (by kernel_rfl) (fun _ _ _ h => h) (Or.inl ⟨by rfl, ?_⟩) hS ?_
                      rotate_left
                      focus (intro w' hw'; go_simp; all_goals with_reducible rfl)
                      try simp only [Act.put, List.setIfInBounds_toArray, List.set_cons_zero, List.set_cons_succ]
                      refine wpAnyH_mask (i := 99) (m' := 1267650600228229401496703205375) (v := .agg #[.int .i64 2, .int .i64 5000000, .int .i64 2162160, .int .i64 6]) (by simp only [List.getElem?_toArray, List.getElem?_cons_succ, List.getElem?_cons_zero] <;> exact rfl) (by kernel_rfl) (by kernel_rfl) (by kernel_rfl) (fun _ _ _ h => h) (Or.inl ⟨by rfl, ?_⟩) hS ?_
                      focus (intro w' hw'; obtain ⟨q0, q1, q2, q3⟩ := tcell4 (x := ⟨2, 5000000, 2162160, 6⟩) (Hk_26.out.keep hw'); try simp only at q0 q1 q2 q3; go_simp)
                      try simp only [Act.put, List.setIfInBounds_toArray, List.set_cons_zero, List.set_cons_succ]
                      refine wpAnyH_ready (rs := [100]) (ready_mask (by kernel_rfl)) (by simp) ?_
                      refine AllReadyH.cons (o := _) (by simp only [List.getElem?_toArray, List.getElem?_cons_succ, List.getElem?_cons_zero] <;> exact rfl) (fun K hK => ?_) ?_
                      focus (
                        go_simp
                        go_at_call 15
                        refine (tw_k _).mono ?_
                        rintro e wc6 ⟨rfl, hb⟩
                        have hS := hS.trans (hb.mono hS.size)
                        clear hb
                        go_wp2_with fail
                        refine hK.out _ _ hS (fun _ => ?_)
                        clear hK K
                        try simp only [Act.put, List.setIfInBounds_toArray, List.set_cons_zero, List.set_cons_succ]
                        refine wpAnyH_marked (m' := 2535301200456458802993406410751) (of_decide_eq_true (by kernel_rfl)) (by kernel_rfl) ?_
                        refine wpAnyH_mask (i := 101) (m' := 5070602400912917605986812821503) (v := ?_) (by simp only [List.getElem?_toArray, List.getElem?_cons_succ, List.getElem?_cons_zero] <;> exact rfl) (by kernel_rfl) (by kernel_rfl) (by kernel_rfl) (fun _ _ _ h => h) (Or.inl ⟨by rfl, ?_⟩) hS ?_
                        rotate_left
                        focus (intro w' hw'; go_simp; all_goals with_reducible rfl)
                        try simp only [Act.put, List.setIfInBounds_toArray, List.set_cons_zero, List.set_cons_succ]
                        refine wpAnyH_mask (i := 102) (m' := 10141204801825835211973625643007) (v := ?_) (by simp only [List.getElem?_toArray, List.getElem?_cons_succ, List.getElem?_cons_zero] <;> exact rfl) (by kernel_rfl) (by kernel_rfl) (by kernel_rfl) (fun _ _ _ h => h) (Or.inl ⟨by rfl, ?_⟩) hS ?_
                        rotate_left
                        focus (intro w' hw'; go_simp; all_goals with_reducible rfl)
                        try simp only [Act.put, List.setIfInBounds_toArray, List.set_cons_zero, List.set_cons_succ]
                        refine wpAnyH_mask (i := 103) (m' := 20282409603651670423947251286015) (v := ?_) (by simp only [List.getElem?_toArray, List.getElem?_cons_succ, List.getElem?_cons_zero] <;> exact rfl) (by kernel_rfl) (by kernel_rfl) (by kernel_rfl) (fun _ _ _ h => h) (Or.inl ⟨by rfl, ?_⟩) hS ?_
                        rotate_left
                        focus (intro w' hw'; go_simp; all_goals with_reducible rfl)
                        try simp only [Act.put, List.setIfInBounds_toArray, List.set_cons_zero, List.set_cons_succ]
                        refine wpAnyH_mask (i := 104) (m' := 40564819207303340847894502572031) (v := ?_) (by simp only [List.getElem?_toArray, List.getElem?_cons_succ, List.getElem?_cons_zero] <;> exact rfl) (by kernel_rfl) (by kernel_rfl) (by kernel_rfl) (fun _ _ _ h => h) (Or.inl ⟨by rfl, ?_⟩) hS ?_
                        rotate_left
                        focus (intro w' hw'; go_simp; all_goals with_reducible rfl)
                        try simp only [Act.put, List.setIfInBounds_toArray, List.set_cons_zero, List.set_cons_succ]
                        refine wpAnyH_mask (i := 105) (m' := 81129638414606681695789005144063) (v := ?_) (by simp only [List.getElem?_toArray, List.getElem?_cons_succ, List.getElem?_cons_zero] <;> exact rfl) (by kernel_rfl) (by kernel_rfl) (by kernel_rfl) (fun _ _ _ h => h) (Or.inl ⟨by rfl, ?_⟩) hS ?_
                        rotate_left
                        focus (intro w' hw'; go_simp; all_goals with_reducible rfl)
                        try simp only [Act.put, List.setIfInBounds_toArray, List.set_cons_zero, List.set_cons_succ]
                        refine wpAnyH_mask (i := 106) (m' := 162259276829213363391578010288127) (v := ?_) (by simp only [List.getElem?_toArray, List.getElem?_cons_succ, List.getElem?_cons_zero] <;> exact rfl) (by kernel_rfl) (by kernel_rfl) (by kernel_rfl) (fun _ _ _ h => h) (Or.inl ⟨by rfl, ?_⟩) hS ?_
                        rotate_left
                        focus (intro w' hw'; go_simp; all_goals with_reducible rfl)
                        try simp only [Act.put, List.setIfInBounds_toArray, List.set_cons_zero, List.set_cons_succ]
                        refine wpAnyH_mask (i := 107) (m' := 324518553658426726783156020576255) (v := ?_) (by simp only [List.getElem?_toArray, List.getElem?_cons_succ, List.getElem?_cons_zero] <;> exact rfl) (by kernel_rfl) (by kernel_rfl) (by kernel_rfl) (fun _ _ _ h => h) (Or.inl ⟨by rfl, ?_⟩) hS ?_
                        rotate_left
                        focus (intro w' hw'; go_simp; all_goals with_reducible rfl)
                        try simp only [Act.put, List.setIfInBounds_toArray, List.set_cons_zero, List.set_cons_succ]
                        refine wpAnyH_mask (i := 108) (m' := 649037107316853453566312041152511) (v := ?_) (by simp only [List.getElem?_toArray, List.getElem?_cons_succ, List.getElem?_cons_zero] <;> exact rfl) (by kernel_rfl) (by kernel_rfl) (by kernel_rfl) (fun _ _ _ h => h) (Or.inl ⟨by rfl, ?_⟩) hS ?_
                        rotate_left
                        focus (intro w' hw'; go_simp; all_goals with_reducible rfl)
                        try simp only [Act.put, List.setIfInBounds_toArray, List.set_cons_zero, List.set_cons_succ]
                        refine wpAnyH_mask (i := 109) (m' := 1298074214633706907132624082305023) (v := ?_) (by simp only [List.getElem?_toArray, List.getElem?_cons_succ, List.getElem?_cons_zero] <;> exact rfl) (by kernel_rfl) (by kernel_rfl) (by kernel_rfl) (fun _ _ _ h => h) (Or.inl ⟨by rfl, ?_⟩) hS ?_
                        rotate_left
                        focus (intro w' hw'; go_simp; all_goals with_reducible rfl)
                        try simp only [Act.put, List.setIfInBounds_toArray, List.set_cons_zero, List.set_cons_succ]
                        refine wpAnyH_mask (i := 110) (m' := 2596148429267413814265248164610047) (v := ?_) (by simp only [List.getElem?_toArray, List.getElem?_cons_succ, List.getElem?_cons_zero] <;> exact rfl) (by kernel_rfl) (by kernel_rfl) (by kernel_rfl) (fun _ _ _ h => h) (Or.inl ⟨by rfl, ?_⟩) hS ?_
                        rotate_left
                        focus (intro w' hw'; go_simp; all_goals with_reducible rfl)
                        try simp only [Act.put, List.setIfInBounds_toArray, List.set_cons_zero, List.set_cons_succ]
                        refine wpAnyH_mask (i := 111) (m' := 5192296858534827628530496329220095) (v := ?_) (by simp only [List.getElem?_toArray, List.getElem?_cons_succ, List.getElem?_cons_zero] <;> exact rfl) (by kernel_rfl) (by kernel_rfl) (by kernel_rfl) (fun _ _ _ h => h) (Or.inl ⟨by rfl, ?_⟩) hS ?_
                        rotate_left
                        focus (intro w' hw'; go_simp; all_goals with_reducible rfl)
                        try simp only [Act.put, List.setIfInBounds_toArray, List.set_cons_zero, List.set_cons_succ]
                        refine wpAnyH_mask (i := 112) (m' := 10384593717069655257060992658440191) (v := ?_) (by simp only [List.getElem?_toArray, List.getElem?_cons_succ, List.getElem?_cons_zero] <;> exact rfl) (by kernel_rfl) (by kernel_rfl) (by kernel_rfl) (fun _ _ _ h => h) (Or.inl ⟨by rfl, ?_⟩) hS ?_
                        rotate_left
                        focus (intro w' hw'; go_simp; all_goals with_reducible rfl)
                        try simp only [Act.put, List.setIfInBounds_toArray, List.set_cons_zero, List.set_cons_succ]
                        refine wpAnyH_mask (i := 113) (m' := 20769187434139310514121985316880383) (v := ?_) (by simp only [List.getElem?_toArray, List.getElem?_cons_succ, List.getElem?_cons_zero] <;> exact rfl) (by kernel_rfl) (by kernel_rfl) (by kernel_rfl) (fun _ _ _ h => h) (Or.inl ⟨by rfl, ?_⟩) hS ?_
                        rotate_left
                        focus (intro w' hw'; go_simp; all_goals with_reducible rfl)
                        try simp only [Act.put, List.setIfInBounds_toArray, List.set_cons_zero, List.set_cons_succ]
                        refine wpAnyH_done (ready_mask (by kernel_rfl)) ?_ _
                        refine NoPanic.normal ?_
                        have HW3 := hide (HB_26.out.trans (hS.mono HB_26.out.size))
                        clear hS
                        go_wp2_with fail
                        go_ret
                        exact ⟨rfl, HW3.out⟩)
                      exact AllReadyH.nil)
                    exact AllReadyH.nil)
                  exact AllReadyH.nil)
              exact AllReadyH.nil)
            exact AllReadyH.nil)
      exact AllReadyH.nil)
    exact AllReadyH.nil
end Go.Proofs.Ytlondjmklnehhaa
