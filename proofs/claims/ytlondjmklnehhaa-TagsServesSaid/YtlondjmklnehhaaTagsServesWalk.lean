/-
  TagsServes: its walk (written by gen25serves.py).
-/
import Derived.Test.YtlondjmklnehhaaTgAwake
import Derived.Test.YtlondjmklnehhaaRtServe
import Derived.Laws.StructEq
namespace Go.Proofs.Ytlondjmklnehhaa.tagsServes
set_option linter.unusedSimpArgs false
set_option linter.unusedVariables false
open Go.RowKit

set_option maxRecDepth 100000 in
set_option maxHeartbeats 6400000 in
theorem walk (t1 t2 t3 t4 v c : Int) (w : World) (_ : (Lit.int .i64 t1).wf = true) (_ : (Lit.int .i64 t2).wf = true) (_ : (Lit.int .i64 t3).wf = true) (_ : (Lit.int .i64 t4).wf = true) (_ : (Lit.int .i64 v).wf = true) (_ : (Lit.int .i64 c).wf = true) :
    Calls Try.prog 3 #[.agg #[.int .i64 t1, .int .i64 t2, .int .i64 t3, .int .i64 t4], .int .i64 v, .int .i64 c] w fun e w' => e = .returned (.bool true) ∧ Below w.heap.size w w' := by
  have HAW := hide aw_tags
  have QS := hide (fun w => tg_Serve v ⟨t1, t2, t3, t4⟩ c w)
  have QR := hide (fun w => rt_Serve v ⟨t1, t2, t3, t4⟩ c w)
  have QC := hide (fun w => tg_Charge c t1 w)
  have QD := hide (fun w => rt_Charge c t1 w)
  have QN := hide (fun w => tg_New v w)
  have QM := hide (fun w => rt_New v w)
  have QW := hide (fun w => tg_Wake v ⟨t1, t2, t3, t4⟩ w)
  have QV := hide (fun w => rt_Wake v ⟨t1, t2, t3, t4⟩ w)
  have QK := hide (fun w => tg_Check ⟨t1, t2, t3, t4⟩ w)
  have QL := hide (fun w => rt_Check ⟨t1, t2, t3, t4⟩ w)
  obtain ⟨ae, hae⟩ : ∃ q, q = (srvT v ⟨t1, t2, t3, t4⟩ c).1 := ⟨_, rfl⟩
  obtain ⟨y, hy⟩ : ∃ q, q = (srvT v ⟨t1, t2, t3, t4⟩ c).2.1 := ⟨_, rfl⟩
  obtain ⟨er, her⟩ : ∃ q, q = (srvT v ⟨t1, t2, t3, t4⟩ c).2.2 := ⟨_, rfl⟩
  rw [← hae, ← hy, ← her] at QS QR
  obtain ⟨ce, hce⟩ : ∃ q, q = (chgI c t1).1 := ⟨_, rfl⟩
  obtain ⟨cf, hcf⟩ : ∃ q, q = (chgI c t1).2 := ⟨_, rfl⟩
  rw [← hce, ← hcf] at QC QD
  obtain ⟨m, hm⟩ : ∃ q, q = (newT v).1 := ⟨_, rfl⟩
  obtain ⟨mf, hmf⟩ : ∃ q, q = (newT v).2 := ⟨_, rfl⟩
  rw [← hm, ← hmf] at QN QM
  obtain ⟨x, hx⟩ : ∃ q, q = wakT v ⟨t1, t2, t3, t4⟩ := ⟨_, rfl⟩
  rw [← hx] at QW QV
  obtain ⟨kf, hkf⟩ : ∃ q, q = chkT ⟨t1, t2, t3, t4⟩ := ⟨_, rfl⟩
  rw [← hkf] at QK QL
  clear hae hy her hce hcf hm hmf hx hkf
  obtain ⟨y1, y2, y3, y4⟩ := y
  obtain ⟨m1, m2, m3, m4⟩ := m
  obtain ⟨x1, x2, x3, x4⟩ := x
  simp only [Tg.cs] at QS QR QN QM QW QV QK QL
  have HB0 := hide (Below.refl w.heap.size w)
  obtain ⟨g, hg⟩ : ∃ g, g = w.heap.size := ⟨_, rfl⟩
  have HL := hide hg.symm
  have NR := hide (show BlkIs (w.alloc (.cells #[.int .i64 t1, .int .i64 t2, .int .i64 t3, .int .i64 t4] 23)) g 23 #[.int .i64 t1, .int .i64 t2, .int .i64 t3, .int .i64 t4] by rw [hg]; exact BlkIs.new w _ _)
  have HB1 := hide (HB0.out.alloc HB0.out.size (.cells #[.int .i64 t1, .int .i64 t2, .int .i64 t3, .int .i64 t4] 23))
  clear hg HB0
  go_enter Try.func3, Try.ntmps3
  go_upto_region 1 with (fail)
  rw [HL.out]
  generalize w.alloc (.cells #[.int .i64 t1, .int .i64 t2, .int .i64 t3, .int .i64 t4] 23) = w1 at *
  have OLD := hide NR.out
  obtain ⟨gx, hg⟩ : ∃ g, g = w1.heap.size := ⟨_, rfl⟩
  have Gx := hide hg.symm
  have Nx := hide (show BlkIs (w1.alloc (.cells #[.int .i64 t1, .int .i64 t2, .int .i64 t3, .int .i64 t4] 24)) gx 24 #[.int .i64 t1, .int .i64 t2, .int .i64 t3, .int .i64 t4] by rw [hg]; exact BlkIs.new w1 _ _)
  clear hg
  have Hr_2 := hide (NR.out.alloc (.cells #[.int .i64 t1, .int .i64 t2, .int .i64 t3, .int .i64 t4] 24))
  clear NR
  have HB_2 := hide (HB1.out.alloc HB1.out.size (.cells #[.int .i64 t1, .int .i64 t2, .int .i64 t3, .int .i64 t4] 24))
  clear HB1
  go_upto_region 2 with (first | (refine wpList_store_new rfl 24 (.tmp 7) (.tmp 22) rfl #[.int .i64 t1, .int .i64 t2, .int .i64 t3, .int .i64 t4] _ 24 rfl rfl tg_size rfl (by simp [Value.oneCell']) ?_) | (refine wpList_load_blk rfl 23 (.tmp 3) rfl g rfl 23 #[.int .i64 t1, .int .i64 t2, .int .i64 t3, .int .i64 t4] _ OLD.out Try.underlying23 rfl rt_size ?_))
  rw [Gx.out]
  generalize w1.alloc (.cells #[.int .i64 t1, .int .i64 t2, .int .i64 t3, .int .i64 t4] 24) = v_1 at *
  clear OLD
  go_wp2_with (first | (refine wpList_load_blk rfl 24 (.tmp 7) rfl gx rfl 24 #[.int .i64 t1, .int .i64 t2, .int .i64 t3, .int .i64 t4] _ Nx.out Try.underlying24 rfl tg_size ?_))
  refine (QS.out _).mono ?_
  rintro e w_3 ⟨rfl, hb⟩
  have Hr_4 := hide (Hr_2.out.keep hb)
  clear Hr_2
  have Hx_4 := hide (Nx.out.keep hb)
  clear Nx
  have HB_4 := hide (HB_2.out.trans (hb.mono HB_2.out.size))
  clear HB_2
  clear hb
  obtain ⟨gy, hg⟩ : ∃ g, g = w_3.heap.size := ⟨_, rfl⟩
  have Gy := hide hg.symm
  have Ny := hide (show BlkIs (w_3.alloc (.cells #[.int .i64 y1, .int .i64 y2, .int .i64 y3, .int .i64 y4] 24)) gy 24 #[.int .i64 y1, .int .i64 y2, .int .i64 y3, .int .i64 y4] by rw [hg]; exact BlkIs.new w_3 _ _)
  clear hg
  have Hr_6 := hide (Hr_4.out.alloc (.cells #[.int .i64 y1, .int .i64 y2, .int .i64 y3, .int .i64 y4] 24))
  clear Hr_4
  have Hx_6 := hide (Hx_4.out.alloc (.cells #[.int .i64 y1, .int .i64 y2, .int .i64 y3, .int .i64 y4] 24))
  clear Hx_4
  have HB_6 := hide (HB_4.out.alloc HB_4.out.size (.cells #[.int .i64 y1, .int .i64 y2, .int .i64 y3, .int .i64 y4] 24))
  clear HB_4
  go_upto_region 3 with (first | (refine wpList_store_new rfl 24 (.tmp 9) (.tmp 29) rfl #[.int .i64 y1, .int .i64 y2, .int .i64 y3, .int .i64 y4] _ 24 rfl rfl tg_size rfl (by simp [Value.oneCell']) ?_))
  rw [Gy.out]
  generalize w_3.alloc (.cells #[.int .i64 y1, .int .i64 y2, .int .i64 y3, .int .i64 y4] 24) = v_5 at *
  go_wp2_with (first | (refine wpList_load_blk rfl 23 (.tmp 3) rfl g rfl 23 #[.int .i64 t1, .int .i64 t2, .int .i64 t3, .int .i64 t4] _ Hr_6.out Try.underlying23 rfl rt_size ?_))
  refine (QR.out _).mono ?_
  rintro e w_7 ⟨rfl, hb⟩
  have Hr_8 := hide (Hr_6.out.keep hb)
  clear Hr_6
  have Hx_8 := hide (Hx_6.out.keep hb)
  clear Hx_6
  have Hy_8 := hide (Ny.out.keep hb)
  clear Ny
  have HB_8 := hide (HB_6.out.trans (hb.mono HB_6.out.size))
  clear HB_6
  clear hb
  obtain ⟨gz, hg⟩ : ∃ g, g = w_7.heap.size := ⟨_, rfl⟩
  have Gz := hide hg.symm
  have Nz := hide (show BlkIs (w_7.alloc (.cells #[.int .i64 y1, .int .i64 y2, .int .i64 y3, .int .i64 y4] 23)) gz 23 #[.int .i64 y1, .int .i64 y2, .int .i64 y3, .int .i64 y4] by rw [hg]; exact BlkIs.new w_7 _ _)
  clear hg
  have Hr_10 := hide (Hr_8.out.alloc (.cells #[.int .i64 y1, .int .i64 y2, .int .i64 y3, .int .i64 y4] 23))
  clear Hr_8
  have Hx_10 := hide (Hx_8.out.alloc (.cells #[.int .i64 y1, .int .i64 y2, .int .i64 y3, .int .i64 y4] 23))
  clear Hx_8
  have Hy_10 := hide (Hy_8.out.alloc (.cells #[.int .i64 y1, .int .i64 y2, .int .i64 y3, .int .i64 y4] 23))
  clear Hy_8
  have HB_10 := hide (HB_8.out.alloc HB_8.out.size (.cells #[.int .i64 y1, .int .i64 y2, .int .i64 y3, .int .i64 y4] 23))
  clear HB_8
  go_upto_region 4 with (first | (refine wpList_store_new rfl 23 (.tmp 12) (.tmp 37) rfl #[.int .i64 y1, .int .i64 y2, .int .i64 y3, .int .i64 y4] _ 23 rfl rfl rt_size rfl (by simp [Value.oneCell']) ?_))
  rw [Gz.out]
  generalize w_7.alloc (.cells #[.int .i64 y1, .int .i64 y2, .int .i64 y3, .int .i64 y4] 23) = v_9 at *
  obtain ⟨r0, r1, r2, r3⟩ := tcell4 (x := ⟨t1, t2, t3, t4⟩) Hr_10.out
  try simp only at r0 r1 r2 r3
  go_wp2_with fail
  refine (QC.out _).mono ?_
  rintro e w_11 ⟨rfl, rfl⟩
  go_wp2_with fail
  refine (QD.out _).mono ?_
  rintro e w_12 ⟨rfl, rfl⟩
  clear r0 r1 r2 r3
  go_wp2_with fail
  refine (QN.out _).mono ?_
  rintro e w_13 ⟨rfl, hb⟩
  have Hr_14 := hide (Hr_10.out.keep hb)
  clear Hr_10
  have Hx_14 := hide (Hx_10.out.keep hb)
  clear Hx_10
  have Hy_14 := hide (Hy_10.out.keep hb)
  clear Hy_10
  have Hz_14 := hide (Nz.out.keep hb)
  clear Nz
  have HB_14 := hide (HB_10.out.trans (hb.mono HB_10.out.size))
  clear HB_10
  clear hb
  obtain ⟨gm, hg⟩ : ∃ g, g = w_13.heap.size := ⟨_, rfl⟩
  have Gm := hide hg.symm
  have Nm := hide (show BlkIs (w_13.alloc (.cells #[.int .i64 m1, .int .i64 m2, .int .i64 m3, .int .i64 m4] 24)) gm 24 #[.int .i64 m1, .int .i64 m2, .int .i64 m3, .int .i64 m4] by rw [hg]; exact BlkIs.new w_13 _ _)
  clear hg
  have Hr_16 := hide (Hr_14.out.alloc (.cells #[.int .i64 m1, .int .i64 m2, .int .i64 m3, .int .i64 m4] 24))
  clear Hr_14
  have Hx_16 := hide (Hx_14.out.alloc (.cells #[.int .i64 m1, .int .i64 m2, .int .i64 m3, .int .i64 m4] 24))
  clear Hx_14
  have Hy_16 := hide (Hy_14.out.alloc (.cells #[.int .i64 m1, .int .i64 m2, .int .i64 m3, .int .i64 m4] 24))
  clear Hy_14
  have Hz_16 := hide (Hz_14.out.alloc (.cells #[.int .i64 m1, .int .i64 m2, .int .i64 m3, .int .i64 m4] 24))
  clear Hz_14
  have HB_16 := hide (HB_14.out.alloc HB_14.out.size (.cells #[.int .i64 m1, .int .i64 m2, .int .i64 m3, .int .i64 m4] 24))
  clear HB_14
  go_upto_region 7 with (first | (refine wpList_store_new rfl 24 (.tmp 18) (.tmp 56) rfl #[.int .i64 m1, .int .i64 m2, .int .i64 m3, .int .i64 m4] _ 24 rfl rfl tg_size rfl (by simp [Value.oneCell']) ?_))
  rw [Gm.out]
  generalize w_13.alloc (.cells #[.int .i64 m1, .int .i64 m2, .int .i64 m3, .int .i64 m4] 24) = v_15 at *
  go_wp2_with fail
  refine (QM.out _).mono ?_
  rintro e w_17 ⟨rfl, hb⟩
  have Hr_18 := hide (Hr_16.out.keep hb)
  clear Hr_16
  have Hx_18 := hide (Hx_16.out.keep hb)
  clear Hx_16
  have Hy_18 := hide (Hy_16.out.keep hb)
  clear Hy_16
  have Hz_18 := hide (Hz_16.out.keep hb)
  clear Hz_16
  have Hm_18 := hide (Nm.out.keep hb)
  clear Nm
  have HB_18 := hide (HB_16.out.trans (hb.mono HB_16.out.size))
  clear HB_16
  clear hb
  obtain ⟨gn, hg⟩ : ∃ g, g = w_17.heap.size := ⟨_, rfl⟩
  have Gn := hide hg.symm
  have Nn := hide (show BlkIs (w_17.alloc (.cells #[.int .i64 m1, .int .i64 m2, .int .i64 m3, .int .i64 m4] 23)) gn 23 #[.int .i64 m1, .int .i64 m2, .int .i64 m3, .int .i64 m4] by rw [hg]; exact BlkIs.new w_17 _ _)
  clear hg
  have Hr_20 := hide (Hr_18.out.alloc (.cells #[.int .i64 m1, .int .i64 m2, .int .i64 m3, .int .i64 m4] 23))
  clear Hr_18
  have Hx_20 := hide (Hx_18.out.alloc (.cells #[.int .i64 m1, .int .i64 m2, .int .i64 m3, .int .i64 m4] 23))
  clear Hx_18
  have Hy_20 := hide (Hy_18.out.alloc (.cells #[.int .i64 m1, .int .i64 m2, .int .i64 m3, .int .i64 m4] 23))
  clear Hy_18
  have Hz_20 := hide (Hz_18.out.alloc (.cells #[.int .i64 m1, .int .i64 m2, .int .i64 m3, .int .i64 m4] 23))
  clear Hz_18
  have Hm_20 := hide (Hm_18.out.alloc (.cells #[.int .i64 m1, .int .i64 m2, .int .i64 m3, .int .i64 m4] 23))
  clear Hm_18
  have HB_20 := hide (HB_18.out.alloc HB_18.out.size (.cells #[.int .i64 m1, .int .i64 m2, .int .i64 m3, .int .i64 m4] 23))
  clear HB_18
  go_upto_region 8 with (first | (refine wpList_store_new rfl 23 (.tmp 20) (.tmp 61) rfl #[.int .i64 m1, .int .i64 m2, .int .i64 m3, .int .i64 m4] _ 23 rfl rfl rt_size rfl (by simp [Value.oneCell']) ?_))
  rw [Gn.out]
  generalize w_17.alloc (.cells #[.int .i64 m1, .int .i64 m2, .int .i64 m3, .int .i64 m4] 23) = v_19 at *
  generalize hW : v_19 = wz at Hr_20 Hx_20 Hy_20 Hz_20 Hm_20 Nn HB_20 ⊢
  clear hW
  refine wp_region_noPanic ?_
  refine wp_region_held_drew (S := fun w' => Below wz.heap.size wz w') (by kernel_rfl) (Below.refl _ _).drew (fun hS => ?_)
  generalize wz.drew = wd at hS ⊢
  refine wpAnyH_take (i := 0) (v := ?_) (by simp only [List.getElem?_toArray, List.getElem?_cons_succ, List.getElem?_cons_zero] <;> exact rfl) (by kernel_rfl) (by kernel_rfl) (by kernel_rfl) (fun _ _ _ h => h) (Or.inl ⟨by rfl, ?_⟩) hS ?_
  rotate_left
  focus (intro w' hw'; go_simp; all_goals with_reducible rfl)
  try simp only [Act.put, List.setIfInBounds_toArray, List.set_cons_zero, List.set_cons_succ]
  refine wpAnyH_take (i := 1) (v := ?_) (by simp only [List.getElem?_toArray, List.getElem?_cons_succ, List.getElem?_cons_zero] <;> exact rfl) (by kernel_rfl) (by kernel_rfl) (by kernel_rfl) (fun _ _ _ h => h) (Or.inl ⟨by rfl, ?_⟩) hS ?_
  rotate_left
  focus (intro w' hw'; go_simp; all_goals with_reducible rfl)
  try simp only [Act.put, List.setIfInBounds_toArray, List.set_cons_zero, List.set_cons_succ]
  refine wpAnyH_take (i := 2) (v := ?_) (by simp only [List.getElem?_toArray, List.getElem?_cons_succ, List.getElem?_cons_zero] <;> exact rfl) (by kernel_rfl) (by kernel_rfl) (by kernel_rfl) (fun _ _ _ h => h) (Or.inl ⟨by rfl, ?_⟩) hS ?_
  rotate_left
  focus (intro w' hw'; go_simp; all_goals with_reducible rfl)
  try simp only [Act.put, List.setIfInBounds_toArray, List.set_cons_zero, List.set_cons_succ]
  refine wpAnyH_take (i := 3) (v := ?_) (by simp only [List.getElem?_toArray, List.getElem?_cons_succ, List.getElem?_cons_zero] <;> exact rfl) (by kernel_rfl) (by kernel_rfl) (by kernel_rfl) (fun _ _ _ h => h) (Or.inl ⟨by rfl, ?_⟩) hS ?_
  rotate_left
  focus (intro w' hw'; go_simp; all_goals with_reducible rfl)
  try simp only [Act.put, List.setIfInBounds_toArray, List.set_cons_zero, List.set_cons_succ]
  refine wpAnyH_take (i := 4) (by simp only [List.getElem?_toArray, List.getElem?_cons_succ, List.getElem?_cons_zero] <;> exact rfl) (by kernel_rfl) (by kernel_rfl) (by kernel_rfl) (fun _ _ _ h => h) (rgs_yields_blk (by rfl) 24 (.tmp 9) (by rfl) gy (by rfl) 24 #[.int .i64 y1, .int .i64 y2, .int .i64 y3, .int .i64 y4] _ (fun w' hw' => Hy_20.out.keep hw') Try.underlying24 rfl tg_size) hS ?_
  try simp only [Act.put, List.setIfInBounds_toArray, List.set_cons_zero, List.set_cons_succ]
  refine wpAnyH_take (i := 5) (by simp only [List.getElem?_toArray, List.getElem?_cons_succ, List.getElem?_cons_zero] <;> exact rfl) (by kernel_rfl) (by kernel_rfl) (by kernel_rfl) (fun _ _ _ h => h) (rgs_yields_blk (by rfl) 23 (.tmp 12) (by rfl) gz (by rfl) 23 #[.int .i64 y1, .int .i64 y2, .int .i64 y3, .int .i64 y4] _ (fun w' hw' => Hz_20.out.keep hw') Try.underlying23 rfl rt_size) hS ?_
  try simp only [Act.put, List.setIfInBounds_toArray, List.set_cons_zero, List.set_cons_succ]
  refine wpAnyH_take (i := 6) (v := ?_) (by simp only [List.getElem?_toArray, List.getElem?_cons_succ, List.getElem?_cons_zero] <;> exact rfl) (by kernel_rfl) (by kernel_rfl) (by kernel_rfl) (fun _ _ _ h => h) (Or.inl ⟨by rfl, ?_⟩) hS ?_
  rotate_left
  focus (intro w' hw'; go_simp; all_goals with_reducible rfl)
  try simp only [Act.put, List.setIfInBounds_toArray, List.set_cons_zero, List.set_cons_succ]
  refine wpAnyH_take (i := 7) (v := ?_) (by simp only [List.getElem?_toArray, List.getElem?_cons_succ, List.getElem?_cons_zero] <;> exact rfl) (by kernel_rfl) (by kernel_rfl) (by kernel_rfl) (fun _ _ _ h => h) (Or.inl ⟨by rfl, ?_⟩) hS ?_
  rotate_left
  focus (intro w' hw'; go_simp; all_goals with_reducible rfl)
  try simp only [Act.put, List.setIfInBounds_toArray, List.set_cons_zero, List.set_cons_succ]
  refine wpAnyH_take (i := 8) (v := ?_) (by simp only [List.getElem?_toArray, List.getElem?_cons_succ, List.getElem?_cons_zero] <;> exact rfl) (by kernel_rfl) (by kernel_rfl) (by kernel_rfl) (fun _ _ _ h => h) (Or.inl ⟨by rfl, ?_⟩) hS ?_
  rotate_left
  focus (intro w' hw'; go_simp; all_goals with_reducible rfl)
  try simp only [Act.put, List.setIfInBounds_toArray, List.set_cons_zero, List.set_cons_succ]
  refine wpAnyH_take (i := 9) (v := ?_) (by simp only [List.getElem?_toArray, List.getElem?_cons_succ, List.getElem?_cons_zero] <;> exact rfl) (by kernel_rfl) (by kernel_rfl) (by kernel_rfl) (fun _ _ _ h => h) (Or.inl ⟨by rfl, ?_⟩) hS ?_
  rotate_left
  focus (intro w' hw'; go_simp; all_goals with_reducible rfl)
  try simp only [Act.put, List.setIfInBounds_toArray, List.set_cons_zero, List.set_cons_succ]
  refine wpAnyH_take (i := 10) (v := ?_) (by simp only [List.getElem?_toArray, List.getElem?_cons_succ, List.getElem?_cons_zero] <;> exact rfl) (by kernel_rfl) (by kernel_rfl) (by kernel_rfl) (fun _ _ _ h => h) (Or.inl ⟨by rfl, ?_⟩) hS ?_
  rotate_left
  focus (intro w' hw'; go_simp; all_goals with_reducible rfl)
  try simp only [Act.put, List.setIfInBounds_toArray, List.set_cons_zero, List.set_cons_succ]
  refine wpAnyH_take (i := 11) (v := ?_) (by simp only [List.getElem?_toArray, List.getElem?_cons_succ, List.getElem?_cons_zero] <;> exact rfl) (by kernel_rfl) (by kernel_rfl) (by kernel_rfl) (fun _ _ _ h => h) (Or.inl ⟨by rfl, ?_⟩) hS ?_
  rotate_left
  focus (intro w' hw'; go_simp; all_goals with_reducible rfl)
  try simp only [Act.put, List.setIfInBounds_toArray, List.set_cons_zero, List.set_cons_succ]
  refine wpAnyH_take (i := 12) (v := ?_) (by simp only [List.getElem?_toArray, List.getElem?_cons_succ, List.getElem?_cons_zero] <;> exact rfl) (by kernel_rfl) (by kernel_rfl) (by kernel_rfl) (fun _ _ _ h => h) (Or.inl ⟨by rfl, ?_⟩) hS ?_
  rotate_left
  focus (intro w' hw'; go_simp; all_goals with_reducible rfl)
  try simp only [Act.put, List.setIfInBounds_toArray, List.set_cons_zero, List.set_cons_succ]
  refine wpAnyH_take (i := 13) (v := ?_) (by simp only [List.getElem?_toArray, List.getElem?_cons_succ, List.getElem?_cons_zero] <;> exact rfl) (by kernel_rfl) (by kernel_rfl) (by kernel_rfl) (fun _ _ _ h => h) (Or.inl ⟨by rfl, ?_⟩) hS ?_
  rotate_left
  focus (intro w' hw'; go_simp; all_goals with_reducible rfl)
  try simp only [Act.put, List.setIfInBounds_toArray, List.set_cons_zero, List.set_cons_succ]
  refine wpAnyH_take (i := 14) (v := ?_) (by simp only [List.getElem?_toArray, List.getElem?_cons_succ, List.getElem?_cons_zero] <;> exact rfl) (by kernel_rfl) (by kernel_rfl) (by kernel_rfl) (fun _ _ _ h => h) (Or.inl ⟨by rfl, ?_⟩) hS ?_
  rotate_left
  focus (intro w' hw'; go_simp; all_goals with_reducible rfl)
  try simp only [Act.put, List.setIfInBounds_toArray, List.set_cons_zero, List.set_cons_succ]
  refine wpAnyH_take (i := 15) (by simp only [List.getElem?_toArray, List.getElem?_cons_succ, List.getElem?_cons_zero] <;> exact rfl) (by kernel_rfl) (by kernel_rfl) (by kernel_rfl) (fun _ _ _ h => h) (rgs_yields_blk (by rfl) 24 (.tmp 7) (by rfl) gx (by rfl) 24 #[.int .i64 t1, .int .i64 t2, .int .i64 t3, .int .i64 t4] _ (fun w' hw' => Hx_20.out.keep hw') Try.underlying24 rfl tg_size) hS ?_
  try simp only [Act.put, List.setIfInBounds_toArray, List.set_cons_zero, List.set_cons_succ]
  refine wpAnyH_take (i := 17) (v := ?_) (by simp only [List.getElem?_toArray, List.getElem?_cons_succ, List.getElem?_cons_zero] <;> exact rfl) (by kernel_rfl) (by kernel_rfl) (by kernel_rfl) (fun _ _ _ h => h) (Or.inl ⟨by rfl, ?_⟩) hS ?_
  rotate_left
  focus (intro w' hw'; go_simp; all_goals with_reducible rfl)
  try simp only [Act.put, List.setIfInBounds_toArray, List.set_cons_zero, List.set_cons_succ]
  refine wpAnyH_take (i := 18) (by simp only [List.getElem?_toArray, List.getElem?_cons_succ, List.getElem?_cons_zero] <;> exact rfl) (by kernel_rfl) (by kernel_rfl) (by kernel_rfl) (fun _ _ _ h => h) (rgs_yields_blk (by rfl) 23 (.tmp 3) (by rfl) g (by rfl) 23 #[.int .i64 t1, .int .i64 t2, .int .i64 t3, .int .i64 t4] _ (fun w' hw' => Hr_20.out.keep hw') Try.underlying23 rfl rt_size) hS ?_
  try simp only [Act.put, List.setIfInBounds_toArray, List.set_cons_zero, List.set_cons_succ]
  refine wpAnyH_ready (rs := [16]) (by kernel_rfl) (by simp) ?_
  refine AllReadyH.cons (o := _) (by simp only [List.getElem?_toArray, List.getElem?_cons_succ, List.getElem?_cons_zero] <;> exact rfl) (fun K hK => ?_) ?_
  focus (
    go_simp
    go_at_call 13
    refine (QW.out _).mono ?_
    rintro e wc1 ⟨rfl, hb⟩
    have hS := hS.trans (hb.mono hS.size)
    clear hb
    go_wp2_with fail
    refine hK.out _ _ hS (fun _ => ?_)
    clear hK K
    try simp only [Act.put, List.setIfInBounds_toArray, List.set_cons_zero, List.set_cons_succ]
    refine wpAnyH_ready (rs := [19]) (by kernel_rfl) (by simp) ?_
    refine AllReadyH.cons (o := _) (by simp only [List.getElem?_toArray, List.getElem?_cons_succ, List.getElem?_cons_zero] <;> exact rfl) (fun K hK => ?_) ?_
    focus (
      go_simp
      go_at_call 14
      refine (QV.out _).mono ?_
      rintro e wc2 ⟨rfl, hb⟩
      have hS := hS.trans (hb.mono hS.size)
      clear hb
      go_wp2_with fail
      refine hK.out _ _ hS (fun _ => ?_)
      clear hK K
      try simp only [Act.put, List.setIfInBounds_toArray, List.set_cons_zero, List.set_cons_succ]
      refine wpAnyH_take (i := 20) (v := ?_) (by simp only [List.getElem?_toArray, List.getElem?_cons_succ, List.getElem?_cons_zero] <;> exact rfl) (by kernel_rfl) (by kernel_rfl) (by kernel_rfl) (fun _ _ _ h => h) (Or.inl ⟨by rfl, ?_⟩) hS ?_
      rotate_left
      focus (intro w' hw'; go_simp; all_goals with_reducible rfl)
      try simp only [Act.put, List.setIfInBounds_toArray, List.set_cons_zero, List.set_cons_succ]
      refine wpAnyH_take (i := 21) (v := ?_) (by simp only [List.getElem?_toArray, List.getElem?_cons_succ, List.getElem?_cons_zero] <;> exact rfl) (by kernel_rfl) (by kernel_rfl) (by kernel_rfl) (fun _ _ _ h => h) (Or.inl ⟨by rfl, ?_⟩) hS ?_
      rotate_left
      focus (intro w' hw'; go_simp; all_goals with_reducible rfl)
      try simp only [Act.put, List.setIfInBounds_toArray, List.set_cons_zero, List.set_cons_succ]
      refine wpAnyH_take (i := 22) (v := ?_) (by simp only [List.getElem?_toArray, List.getElem?_cons_succ, List.getElem?_cons_zero] <;> exact rfl) (by kernel_rfl) (by kernel_rfl) (by kernel_rfl) (fun _ _ _ h => h) (Or.inl ⟨by rfl, ?_⟩) hS ?_
      rotate_left
      focus (intro w' hw'; go_simp; all_goals with_reducible rfl)
      try simp only [Act.put, List.setIfInBounds_toArray, List.set_cons_zero, List.set_cons_succ]
      refine wpAnyH_take (i := 23) (v := ?_) (by simp only [List.getElem?_toArray, List.getElem?_cons_succ, List.getElem?_cons_zero] <;> exact rfl) (by kernel_rfl) (by kernel_rfl) (by kernel_rfl) (fun _ _ _ h => h) (Or.inl ⟨by rfl, ?_⟩) hS ?_
      rotate_left
      focus (intro w' hw'; go_simp; all_goals with_reducible rfl)
      try simp only [Act.put, List.setIfInBounds_toArray, List.set_cons_zero, List.set_cons_succ]
      refine wpAnyH_take (i := 24) (v := ?_) (by simp only [List.getElem?_toArray, List.getElem?_cons_succ, List.getElem?_cons_zero] <;> exact rfl) (by kernel_rfl) (by kernel_rfl) (by kernel_rfl) (fun _ _ _ h => h) (Or.inl ⟨by rfl, ?_⟩) hS ?_
      rotate_left
      focus (intro w' hw'; go_simp; all_goals with_reducible rfl)
      try simp only [Act.put, List.setIfInBounds_toArray, List.set_cons_zero, List.set_cons_succ]
      refine wpAnyH_take (i := 25) (v := ?_) (by simp only [List.getElem?_toArray, List.getElem?_cons_succ, List.getElem?_cons_zero] <;> exact rfl) (by kernel_rfl) (by kernel_rfl) (by kernel_rfl) (fun _ _ _ h => h) (Or.inl ⟨by rfl, ?_⟩) hS ?_
      rotate_left
      focus (intro w' hw'; go_simp; all_goals with_reducible rfl)
      try simp only [Act.put, List.setIfInBounds_toArray, List.set_cons_zero, List.set_cons_succ]
      refine wpAnyH_take (i := 26) (v := ?_) (by simp only [List.getElem?_toArray, List.getElem?_cons_succ, List.getElem?_cons_zero] <;> exact rfl) (by kernel_rfl) (by kernel_rfl) (by kernel_rfl) (fun _ _ _ h => h) (Or.inl ⟨by rfl, ?_⟩) hS ?_
      rotate_left
      focus (intro w' hw'; go_simp; all_goals with_reducible rfl)
      try simp only [Act.put, List.setIfInBounds_toArray, List.set_cons_zero, List.set_cons_succ]
      refine wpAnyH_take (i := 27) (v := ?_) (by simp only [List.getElem?_toArray, List.getElem?_cons_succ, List.getElem?_cons_zero] <;> exact rfl) (by kernel_rfl) (by kernel_rfl) (by kernel_rfl) (fun _ _ _ h => h) (Or.inl ⟨by rfl, ?_⟩) hS ?_
      rotate_left
      focus (intro w' hw'; go_simp; all_goals with_reducible rfl)
      try simp only [Act.put, List.setIfInBounds_toArray, List.set_cons_zero, List.set_cons_succ]
      refine wpAnyH_take (i := 28) (v := ?_) (by simp only [List.getElem?_toArray, List.getElem?_cons_succ, List.getElem?_cons_zero] <;> exact rfl) (by kernel_rfl) (by kernel_rfl) (by kernel_rfl) (fun _ _ _ h => h) (Or.inl ⟨by rfl, ?_⟩) hS ?_
      rotate_left
      focus (intro w' hw'; go_simp; all_goals with_reducible rfl)
      try simp only [Act.put, List.setIfInBounds_toArray, List.set_cons_zero, List.set_cons_succ]
      refine wpAnyH_take (i := 29) (v := ?_) (by simp only [List.getElem?_toArray, List.getElem?_cons_succ, List.getElem?_cons_zero] <;> exact rfl) (by kernel_rfl) (by kernel_rfl) (by kernel_rfl) (fun _ _ _ h => h) (Or.inl ⟨by rfl, ?_⟩) hS ?_
      rotate_left
      focus (intro w' hw'; go_simp; all_goals with_reducible rfl)
      try simp only [Act.put, List.setIfInBounds_toArray, List.set_cons_zero, List.set_cons_succ]
      refine wpAnyH_take (i := 30) (v := ?_) (by simp only [List.getElem?_toArray, List.getElem?_cons_succ, List.getElem?_cons_zero] <;> exact rfl) (by kernel_rfl) (by kernel_rfl) (by kernel_rfl) (fun _ _ _ h => h) (Or.inl ⟨by rfl, ?_⟩) hS ?_
      rotate_left
      focus (intro w' hw'; go_simp; all_goals with_reducible rfl)
      try simp only [Act.put, List.setIfInBounds_toArray, List.set_cons_zero, List.set_cons_succ]
      refine wpAnyH_take (i := 31) (v := ?_) (by simp only [List.getElem?_toArray, List.getElem?_cons_succ, List.getElem?_cons_zero] <;> exact rfl) (by kernel_rfl) (by kernel_rfl) (by kernel_rfl) (fun _ _ _ h => h) (Or.inl ⟨by rfl, ?_⟩) hS ?_
      rotate_left
      focus (intro w' hw'; go_simp; all_goals with_reducible rfl)
      try simp only [Act.put, List.setIfInBounds_toArray, List.set_cons_zero, List.set_cons_succ]
      refine wpAnyH_take (i := 32) (v := ?_) (by simp only [List.getElem?_toArray, List.getElem?_cons_succ, List.getElem?_cons_zero] <;> exact rfl) (by kernel_rfl) (by kernel_rfl) (by kernel_rfl) (fun _ _ _ h => h) (Or.inl ⟨by rfl, ?_⟩) hS ?_
      rotate_left
      focus (intro w' hw'; go_simp; all_goals with_reducible rfl)
      try simp only [Act.put, List.setIfInBounds_toArray, List.set_cons_zero, List.set_cons_succ]
      refine wpAnyH_take (i := 33) (by simp only [List.getElem?_toArray, List.getElem?_cons_succ, List.getElem?_cons_zero] <;> exact rfl) (by kernel_rfl) (by kernel_rfl) (by kernel_rfl) (fun _ _ _ h => h) (rgs_yields_blk (by rfl) 24 (.tmp 18) (by rfl) gm (by rfl) 24 #[.int .i64 m1, .int .i64 m2, .int .i64 m3, .int .i64 m4] _ (fun w' hw' => Hm_20.out.keep hw') Try.underlying24 rfl tg_size) hS ?_
      try simp only [Act.put, List.setIfInBounds_toArray, List.set_cons_zero, List.set_cons_succ]
      refine wpAnyH_take (i := 34) (by simp only [List.getElem?_toArray, List.getElem?_cons_succ, List.getElem?_cons_zero] <;> exact rfl) (by kernel_rfl) (by kernel_rfl) (by kernel_rfl) (fun _ _ _ h => h) (rgs_yields_blk (by rfl) 23 (.tmp 20) (by rfl) gn (by rfl) 23 #[.int .i64 m1, .int .i64 m2, .int .i64 m3, .int .i64 m4] _ (fun w' hw' => Nn.out.keep hw') Try.underlying23 rfl rt_size) hS ?_
      try simp only [Act.put, List.setIfInBounds_toArray, List.set_cons_zero, List.set_cons_succ]
      refine wpAnyH_take (i := 35) (v := ?_) (by simp only [List.getElem?_toArray, List.getElem?_cons_succ, List.getElem?_cons_zero] <;> exact rfl) (by kernel_rfl) (by kernel_rfl) (by kernel_rfl) (fun _ _ _ h => h) (Or.inl ⟨by rfl, ?_⟩) hS ?_
      rotate_left
      focus (intro w' hw'; go_simp; all_goals with_reducible rfl)
      try simp only [Act.put, List.setIfInBounds_toArray, List.set_cons_zero, List.set_cons_succ]
      refine wpAnyH_take (i := 36) (v := ?_) (by simp only [List.getElem?_toArray, List.getElem?_cons_succ, List.getElem?_cons_zero] <;> exact rfl) (by kernel_rfl) (by kernel_rfl) (by kernel_rfl) (fun _ _ _ h => h) (Or.inl ⟨by rfl, ?_⟩) hS ?_
      rotate_left
      focus (intro w' hw'; go_simp; all_goals with_reducible rfl)
      try simp only [Act.put, List.setIfInBounds_toArray, List.set_cons_zero, List.set_cons_succ]
      refine wpAnyH_take (i := 37) (v := ?_) (by simp only [List.getElem?_toArray, List.getElem?_cons_succ, List.getElem?_cons_zero] <;> exact rfl) (by kernel_rfl) (by kernel_rfl) (by kernel_rfl) (fun _ _ _ h => h) (Or.inl ⟨by rfl, ?_⟩) hS ?_
      rotate_left
      focus (intro w' hw'; go_simp; all_goals with_reducible rfl)
      try simp only [Act.put, List.setIfInBounds_toArray, List.set_cons_zero, List.set_cons_succ]
      refine wpAnyH_take (i := 38) (v := ?_) (by simp only [List.getElem?_toArray, List.getElem?_cons_succ, List.getElem?_cons_zero] <;> exact rfl) (by kernel_rfl) (by kernel_rfl) (by kernel_rfl) (fun _ _ _ h => h) (Or.inl ⟨by rfl, ?_⟩) hS ?_
      rotate_left
      focus (intro w' hw'; go_simp; all_goals with_reducible rfl)
      try simp only [Act.put, List.setIfInBounds_toArray, List.set_cons_zero, List.set_cons_succ]
      refine wpAnyH_take (i := 39) (v := ?_) (by simp only [List.getElem?_toArray, List.getElem?_cons_succ, List.getElem?_cons_zero] <;> exact rfl) (by kernel_rfl) (by kernel_rfl) (by kernel_rfl) (fun _ _ _ h => h) (Or.inl ⟨by rfl, ?_⟩) hS ?_
      rotate_left
      focus (intro w' hw'; go_simp; all_goals with_reducible rfl)
      try simp only [Act.put, List.setIfInBounds_toArray, List.set_cons_zero, List.set_cons_succ]
      refine wpAnyH_take (i := 40) (v := ?_) (by simp only [List.getElem?_toArray, List.getElem?_cons_succ, List.getElem?_cons_zero] <;> exact rfl) (by kernel_rfl) (by kernel_rfl) (by kernel_rfl) (fun _ _ _ h => h) (Or.inl ⟨by rfl, ?_⟩) hS ?_
      rotate_left
      focus (intro w' hw'; go_simp; all_goals with_reducible rfl)
      try simp only [Act.put, List.setIfInBounds_toArray, List.set_cons_zero, List.set_cons_succ]
      refine wpAnyH_take (i := 41) (v := ?_) (by simp only [List.getElem?_toArray, List.getElem?_cons_succ, List.getElem?_cons_zero] <;> exact rfl) (by kernel_rfl) (by kernel_rfl) (by kernel_rfl) (fun _ _ _ h => h) (Or.inl ⟨by rfl, ?_⟩) hS ?_
      rotate_left
      focus (intro w' hw'; go_simp; all_goals with_reducible rfl)
      try simp only [Act.put, List.setIfInBounds_toArray, List.set_cons_zero, List.set_cons_succ]
      refine wpAnyH_take (i := 42) (v := ?_) (by simp only [List.getElem?_toArray, List.getElem?_cons_succ, List.getElem?_cons_zero] <;> exact rfl) (by kernel_rfl) (by kernel_rfl) (by kernel_rfl) (fun _ _ _ h => h) (Or.inl ⟨by rfl, ?_⟩) hS ?_
      rotate_left
      focus (intro w' hw'; go_simp; all_goals with_reducible rfl)
      try simp only [Act.put, List.setIfInBounds_toArray, List.set_cons_zero, List.set_cons_succ]
      refine wpAnyH_take (i := 43) (by simp only [List.getElem?_toArray, List.getElem?_cons_succ, List.getElem?_cons_zero] <;> exact rfl) (by kernel_rfl) (by kernel_rfl) (by kernel_rfl) (fun _ _ _ h => h) (rgs_yields_blk (by rfl) 24 (.tmp 7) (by rfl) gx (by rfl) 24 #[.int .i64 t1, .int .i64 t2, .int .i64 t3, .int .i64 t4] _ (fun w' hw' => Hx_20.out.keep hw') Try.underlying24 rfl tg_size) hS ?_
      try simp only [Act.put, List.setIfInBounds_toArray, List.set_cons_zero, List.set_cons_succ]
      refine wpAnyH_take (i := 45) (by simp only [List.getElem?_toArray, List.getElem?_cons_succ, List.getElem?_cons_zero] <;> exact rfl) (by kernel_rfl) (by kernel_rfl) (by kernel_rfl) (fun _ _ _ h => h) (rgs_yields_blk (by rfl) 23 (.tmp 3) (by rfl) g (by rfl) 23 #[.int .i64 t1, .int .i64 t2, .int .i64 t3, .int .i64 t4] _ (fun w' hw' => Hr_20.out.keep hw') Try.underlying23 rfl rt_size) hS ?_
      try simp only [Act.put, List.setIfInBounds_toArray, List.set_cons_zero, List.set_cons_succ]
      refine wpAnyH_ready (rs := [44]) (by kernel_rfl) (by simp) ?_
      refine AllReadyH.cons (o := _) (by simp only [List.getElem?_toArray, List.getElem?_cons_succ, List.getElem?_cons_zero] <;> exact rfl) (fun K hK => ?_) ?_
      focus (
        go_simp
        go_at_call 15
        refine (QK.out _).mono ?_
        rintro e wc3 ⟨rfl, hb⟩
        have hS := hS.trans (hb.mono hS.size)
        clear hb
        go_wp2_with fail
        refine hK.out _ _ hS (fun _ => ?_)
        clear hK K
        try simp only [Act.put, List.setIfInBounds_toArray, List.set_cons_zero, List.set_cons_succ]
        refine wpAnyH_ready (rs := [46]) (by kernel_rfl) (by simp) ?_
        refine AllReadyH.cons (o := _) (by simp only [List.getElem?_toArray, List.getElem?_cons_succ, List.getElem?_cons_zero] <;> exact rfl) (fun K hK => ?_) ?_
        focus (
          go_simp
          go_at_call 16
          refine (QL.out _).mono ?_
          rintro e wc4 ⟨rfl, hb⟩
          have hS := hS.trans (hb.mono hS.size)
          clear hb
          go_wp2_with fail
          refine hK.out _ _ hS (fun _ => ?_)
          clear hK K
          try simp only [Act.put, List.setIfInBounds_toArray, List.set_cons_zero, List.set_cons_succ]
          refine wpAnyH_take (i := 47) (v := ?_) (by simp only [List.getElem?_toArray, List.getElem?_cons_succ, List.getElem?_cons_zero] <;> exact rfl) (by kernel_rfl) (by kernel_rfl) (by kernel_rfl) (fun _ _ _ h => h) (Or.inl ⟨by rfl, ?_⟩) hS ?_
          rotate_left
          focus (intro w' hw'; go_simp; all_goals with_reducible rfl)
          try simp only [Act.put, List.setIfInBounds_toArray, List.set_cons_zero, List.set_cons_succ]
          refine wpAnyH_take (i := 48) (v := ?_) (by simp only [List.getElem?_toArray, List.getElem?_cons_succ, List.getElem?_cons_zero] <;> exact rfl) (by kernel_rfl) (by kernel_rfl) (by kernel_rfl) (fun _ _ _ h => h) (Or.inl ⟨by rfl, ?_⟩) hS ?_
          rotate_left
          focus (intro w' hw'; go_simp; all_goals with_reducible rfl)
          try simp only [Act.put, List.setIfInBounds_toArray, List.set_cons_zero, List.set_cons_succ]
          refine wpAnyH_take (i := 49) (v := ?_) (by simp only [List.getElem?_toArray, List.getElem?_cons_succ, List.getElem?_cons_zero] <;> exact rfl) (by kernel_rfl) (by kernel_rfl) (by kernel_rfl) (fun _ _ _ h => h) (Or.inl ⟨by rfl, ?_⟩) hS ?_
          rotate_left
          focus (intro w' hw'; go_simp; all_goals with_reducible rfl)
          try simp only [Act.put, List.setIfInBounds_toArray, List.set_cons_zero, List.set_cons_succ]
          refine wpAnyH_ready (rs := [50]) (by kernel_rfl) (by simp) ?_
          refine AllReadyH.cons (o := _) (by simp only [List.getElem?_toArray, List.getElem?_cons_succ, List.getElem?_cons_zero] <;> exact rfl) (fun K hK => ?_) ?_
          focus (
            go_simp
            go_at_call 17
            refine (HAW.out _).mono ?_
            rintro e wc5 ⟨rfl, hb⟩
            have hS := hS.trans (hb.mono hS.size)
            clear hb
            go_wp2_with fail
            refine hK.out _ _ hS (fun _ => ?_)
            clear hK K
            try simp only [Act.put, List.setIfInBounds_toArray, List.set_cons_zero, List.set_cons_succ]
            refine wpAnyH_take (i := 51) (v := ?_) (by simp only [List.getElem?_toArray, List.getElem?_cons_succ, List.getElem?_cons_zero] <;> exact rfl) (by kernel_rfl) (by kernel_rfl) (by kernel_rfl) (fun _ _ _ h => h) (Or.inl ⟨by rfl, ?_⟩) hS ?_
            rotate_left
            focus (intro w' hw'; go_simp; all_goals with_reducible rfl)
            try simp only [Act.put, List.setIfInBounds_toArray, List.set_cons_zero, List.set_cons_succ]
            refine wpAnyH_take (i := 52) (v := ?_) (by simp only [List.getElem?_toArray, List.getElem?_cons_succ, List.getElem?_cons_zero] <;> exact rfl) (by kernel_rfl) (by kernel_rfl) (by kernel_rfl) (fun _ _ _ h => h) (Or.inl ⟨by rfl, ?_⟩) hS ?_
            rotate_left
            focus (intro w' hw'; go_simp; all_goals with_reducible rfl)
            try simp only [Act.put, List.setIfInBounds_toArray, List.set_cons_zero, List.set_cons_succ]
            refine wpAnyH_done (by kernel_rfl) ?_ _
            refine NoPanic.normal ?_
            have HW3 := hide (HB_20.out.trans (hS.mono HB_20.out.size))
            clear hS
            go_wp2_with fail
            go_ret
            exact ⟨rfl, HW3.out⟩)
          exact AllReadyH.nil)
        exact AllReadyH.nil)
      exact AllReadyH.nil)
    exact AllReadyH.nil)
  exact AllReadyH.nil
end Go.Proofs.Ytlondjmklnehhaa.tagsServes
