/-
  FrameReads: its walk.
-/
import Derived.Test.YtefdhbljcnpggaaRfRead
import Derived.BigGuardPart
namespace Go.Proofs.Ytefdhbljcnpggaa.frameReads
open Go.RowKit Go.Proofs.Ytefdhbljcnpggaa

theorem rh_size : (Try.prog.info? 23).map (·.size) = some 4 := by kernel_rfl

set_option maxRecDepth 100000 in
set_option maxHeartbeats 3200000 in
theorem walk (ln t f s : Int) (x : ByteArray) (w : World) (_v0 : (Lit.int .i64 ln).wf = true) (v1 : (Lit.int .u8 t).wf = true) (v2 : (Lit.int .u8 f).wf = true) (_v3 : (Lit.int .i64 s).wf = true) (_v4 : x.size ≤ maxLen) :
    Calls Try.prog 3 #[.agg #[.int .i64 ln, .int .u8 t, .int .u8 f, .int .i64 s], .string x] w fun e w' => e = .returned (.bool true) ∧ Below w.heap.size w w' := by
  obtain ⟨t0, t1⟩ := bounds_u8 v1
  obtain ⟨f0, f1⟩ := bounds_u8 v2
  clear _v0 v1 v2 _v3 _v4
  by_cases h3 : (300 : Int) < (x.size : Int)
  · go_enter Try.func3, Try.ntmps3
    go_wp2_with fail
    refine (aw_frame _).mono ?_
    rintro e w4 ⟨rfl, hb4⟩
    have HB4 := hide (((Below.refl w.heap.size w).alloc (Nat.le_refl _) (.cells #[.int .i64 ln, .int .u8 t, .int .u8 f, .int .i64 s] 23)).trans (hb4.mono (by simp)))
    clear hb4
    go_wp2_with fail
    go_ret
    exact ⟨rfl, HB4.out⟩
  have h3' : (x.size : Int) ≤ 300 := by omega
  have C1 := hide (fun w => fr_Read ln t f s t0 x (by omega) w)
  have C2 := hide (fun w => rg_Read ln t f s t0 f0 f1 x (by omega) w)
  have HLN := rd_len t f s (bts x)
  rw [bts_len] at HLN
  have HCD := hide (rd_code t f s (bts x))
  generalize readR t f s (bts x) = R at C1 C2 HLN HCD
  have HL := hide (show (R.l.length : Int) ≤ 2000000 by omega)
  clear h3 HLN
  go_enter Try.func3, Try.ntmps3
  go_upto_region 3 with (fail)
  have B0 := hide (Below.refl w.heap.size w)
  have KN1 := hide (BlkIs.new w 23 #[.int .i64 ln, .int .u8 t, .int .u8 f, .int .i64 s])
  obtain ⟨h, hh⟩ : ∃ g, g = w.heap.size := ⟨_, rfl⟩
  have Lh := hide (show w.heap.size ≤ h by rw [hh]; exact B0.out.size)
  have B1 := hide (B0.out.alloc B0.out.size (.cells #[.int .i64 ln, .int .u8 t, .int .u8 f, .int .i64 s] 23))
  rw [← hh] at KN1 ⊢
  generalize w.alloc (.cells #[.int .i64 ln, .int .u8 t, .int .u8 f, .int .i64 s] 23) = w1 at B1 KN1 ⊢
  clear hh B0
  obtain ⟨k0, k1, k2, k3⟩ := hd_cells KN1.out
  go_wp2_with (refine wpList_load_blk rfl 23 (.tmp 2) rfl h rfl 23 #[.int .i64 ln, .int .u8 t, .int .u8 f, .int .i64 s] _ KN1.out Try.underlying23 rfl rh_size ?_)
  clear k0 k1 k2 k3
  refine (C1.out _).mono ?_
  rintro e w2 ⟨PA, PC, rfl, hp2, hb2⟩
  have Kh2 := hide (KN1.out.keep hb2)
  have B2 := hide (B1.out.trans (hb2.mono B1.out.size))
  clear hb2 KN1 B1
  go_upto_region 4 with (first
    | (refine wpList_store_blk rfl 28 (.tmp 5) (.tmp 17) rfl w2.heap.size (R.F.cs PA R.l.length PC) #[.int .u8 0, .int .u8 0, .int .i64 0, .string ⟨#[]⟩, .int .i64 0, .int .i64 0, .bool false, .int .u8 0, .int .u32 0, .int .i64 0, .int .i64 0, .slice none 0 0] 28 rfl rfl ((BlkIs.new w2 _ _).alloc _) fr_sz rfl (Fr.cs_one _ _ _ _) ?_)
    | (refine wpList_store_blk rfl 31 (.tmp 6) (.tmp 18) rfl (w2.heap.size + 1) #[.int .u32 R.code, .int .i64 R.st] #[.int .u32 0, .int .i64 0] 31 rfl rfl (blk_two.row_other (by omega) _) fa_size rfl (fa_one _ _ rfl rfl) ?_))
  obtain ⟨ka3, kb3, kc3⟩ := two_stored w2 (R.F.cs PA R.l.length PC) #[.int .u8 0, .int .u8 0, .int .i64 0, .string ⟨#[]⟩, .int .i64 0, .int .i64 0, .bool false, .int .u8 0, .int .u32 0, .int .i64 0, .int .i64 0, .slice none 0 0] #[.int .u32 R.code, .int .i64 R.st] #[.int .u32 0, .int .i64 0] 28 31
  obtain ⟨x, hx⟩ : ∃ g, g = w2.heap.size := ⟨_, rfl⟩
  obtain ⟨fa, hfa⟩ : ∃ g, g = x + 1 := ⟨_, rfl⟩
  have Ex0 := hp2.keep kc3
  generalize hW : (((w2.alloc (.cells #[.int .u8 0, .int .u8 0, .int .i64 0, .string ⟨#[]⟩, .int .i64 0, .int .i64 0, .bool false, .int .u8 0, .int .u32 0, .int .i64 0, .int .i64 0, .slice none 0 0] 28)).alloc (.cells #[.int .u32 0, .int .i64 0] 31)).setRow w2.heap.size (R.F.cs PA R.l.length PC)).setRow (w2.heap.size + 1) #[.int .u32 R.code, .int .i64 R.st] = w3 at ka3 kb3 kc3 Ex0 ⊢
  clear hW
  rw [← hx] at ka3 kb3 ⊢
  rw [← hfa] at kb3 ⊢
  have Kh3 := hide (Kh2.out.keep kc3)
  clear Kh2
  have B3 := hide (B2.out.trans (kc3.mono B2.out.size))
  have Kx3 := hide ka3
  have Kfa3 := hide kb3
  have Ex := hide Ex0
  clear ka3 kb3 kc3 hp2 hx hfa Ex0
  obtain ⟨k0, k1, k2, k3⟩ := hd_cells Kh3.out
  go_wp2_with (refine wpList_load_blk rfl 23 (.tmp 2) rfl h rfl 23 #[.int .i64 ln, .int .u8 t, .int .u8 f, .int .i64 s] _ Kh3.out Try.underlying23 rfl rh_size ?_)
  clear k0 k1 k2 k3
  refine (C2.out _).mono ?_
  rintro e w4 ⟨QA, QC, rfl, hp4, hb4⟩
  have Kh4 := hide (Kh3.out.keep hb4)
  have Kx4 := hide (Kx3.out.keep hb4)
  have Kfa4 := hide (Kfa3.out.keep hb4)
  have Ex4 := hide (Ex.out.keep hb4)
  have B4 := hide (B3.out.trans (hb4.mono B3.out.size))
  clear hb4 Kh3 Kx3 Kfa3 Ex B3
  go_upto_region 5 with (first
    | (refine wpList_store_blk rfl 35 (.tmp 7) (.tmp 23) rfl w4.heap.size (R.F.cs QA R.l.length QC) #[.int .u8 0, .int .u8 0, .int .i64 0, .string ⟨#[]⟩, .int .i64 0, .int .i64 0, .bool false, .int .u8 0, .int .u32 0, .int .i64 0, .int .i64 0, .slice none 0 0] 35 rfl rfl ((BlkIs.new w4 _ _).alloc _) rfr_sz rfl (Fr.cs_one _ _ _ _) ?_)
    | (refine wpList_store_blk rfl 37 (.tmp 8) (.tmp 24) rfl (w4.heap.size + 1) #[.int .i64 R.code, .int .i64 R.st] #[.int .i64 0, .int .i64 0] 37 rfl rfl (blk_two.row_other (by omega) _) rfa_size rfl (fa_one _ _ rfl rfl) ?_))
  obtain ⟨ka5, kb5, kc5⟩ := two_stored w4 (R.F.cs QA R.l.length QC) #[.int .u8 0, .int .u8 0, .int .i64 0, .string ⟨#[]⟩, .int .i64 0, .int .i64 0, .bool false, .int .u8 0, .int .u32 0, .int .i64 0, .int .i64 0, .slice none 0 0] #[.int .i64 R.code, .int .i64 R.st] #[.int .i64 0, .int .i64 0] 35 37
  obtain ⟨y, hy⟩ : ∃ g, g = w4.heap.size := ⟨_, rfl⟩
  obtain ⟨ga, hga⟩ : ∃ g, g = y + 1 := ⟨_, rfl⟩
  have Ey0 := hp4.keep kc5
  generalize hW : (((w4.alloc (.cells #[.int .u8 0, .int .u8 0, .int .i64 0, .string ⟨#[]⟩, .int .i64 0, .int .i64 0, .bool false, .int .u8 0, .int .u32 0, .int .i64 0, .int .i64 0, .slice none 0 0] 35)).alloc (.cells #[.int .i64 0, .int .i64 0] 37)).setRow w4.heap.size (R.F.cs QA R.l.length QC)).setRow (w4.heap.size + 1) #[.int .i64 R.code, .int .i64 R.st] = w5 at ka5 kb5 kc5 Ey0 ⊢
  clear hW
  rw [← hy] at ka5 kb5 ⊢
  rw [← hga] at kb5 ⊢
  have Kh5 := hide (Kh4.out.keep kc5)
  clear Kh4
  have Kx5 := hide (Kx4.out.keep kc5)
  clear Kx4
  have Kfa5 := hide (Kfa4.out.keep kc5)
  clear Kfa4
  have Ex5 := hide (Ex4.out.keep kc5)
  clear Ex4
  have B5 := hide (B4.out.trans (kc5.mono B4.out.size))
  have Ky5 := hide ka5
  have Kga5 := hide kb5
  have Ey := hide Ey0
  clear ka5 kb5 kc5 hp4 hy hga Ey0
  refine wp_region_noPanic ?_
  refine wp_region_held_drew (S := fun w' => Below w5.heap.size w5 w') (by kernel_rfl) (Below.refl _ _).drew (fun hS => ?_)
  refine wpAnyH_take (i := 0) (by simp only [List.getElem?_toArray, List.getElem?_cons_zero] <;> exact rfl) (by kernel_rfl) (by kernel_rfl) (by kernel_rfl) (fun _ _ _ h => h) (yields_blk (by rfl) 28 (.tmp 5) (by rfl) x (by rfl) 28 (R.F.cs PA R.l.length PC) _ (fun w' hw' => Kx5.out.keep hw') Try.underlying28 rfl fr_sz) hS ?_
  try simp only [Act.put, List.setIfInBounds_toArray, List.set_cons_zero, List.set_cons_succ]
  refine wpAnyH_take (i := 1) (by simp only [List.getElem?_toArray, List.getElem?_cons_succ, List.getElem?_cons_zero] <;> exact rfl) (by kernel_rfl) (by kernel_rfl) (by kernel_rfl) (fun _ _ _ h => h) (yields_blk (by rfl) 35 (.tmp 7) (by rfl) y (by rfl) 35 (R.F.cs QA R.l.length QC) _ (fun w' hw' => Ky5.out.keep hw') Try.underlying35 rfl rfr_sz) hS ?_
  try simp only [Act.put, List.setIfInBounds_toArray, List.set_cons_zero, List.set_cons_succ]
  refine wpAnyH_ready (rs := [2]) (by kernel_rfl) (by simp) ?_
  refine AllReadyH.cons (o := _) (by simp only [List.getElem?_toArray, List.getElem?_cons_succ, List.getElem?_cons_zero] <;> exact rfl) (fun K hK => ?_) ?_
  focus (
    go_simp
    go_at_call 11
    refine (rf_Same R.F R.F PA QA R.l.length PC R.l.length QC R.l R.l _ (Ex5.out.keep hS) (Ey.out.keep hS) HL.out HL.out).mono ?_
    rintro e wc1 ⟨rfl, hb⟩
    have hS := hS.trans (hb.mono hS.size)
    rw [sameF_refl]
    clear hb
    go_wp2_with fail
    refine hK.out _ _ hS (fun _ => ?_)
    clear hK K
    try simp only [Act.put, List.setIfInBounds_toArray, List.set_cons_zero, List.set_cons_succ])
  rotate_left
  focus (exact AllReadyH.nil)
  refine wpAnyH_take (i := 3) (v := ?_) (by simp only [List.getElem?_toArray, List.getElem?_cons_succ, List.getElem?_cons_zero] <;> exact rfl) (by kernel_rfl) (by kernel_rfl) (by kernel_rfl) (fun _ _ _ h => h) (Or.inl ⟨by rfl, ?_⟩) hS ?_
  rotate_left
  focus (intro w' hw'; go_simp; all_goals with_reducible rfl)
  try simp only [Act.put, List.setIfInBounds_toArray, List.set_cons_zero, List.set_cons_succ]
  refine wpAnyH_take (i := 4) (by simp only [List.getElem?_toArray, List.getElem?_cons_succ, List.getElem?_cons_zero] <;> exact rfl) (by kernel_rfl) (by kernel_rfl) (by kernel_rfl) (fun _ _ _ h => h) (yields_blk (by rfl) 31 (.tmp 6) (by rfl) fa (by rfl) 31 #[.int .u32 R.code, .int .i64 R.st] _ (fun w' hw' => Kfa5.out.keep hw') Try.underlying31 rfl fa_size) hS ?_
  try simp only [Act.put, List.setIfInBounds_toArray, List.set_cons_zero, List.set_cons_succ]
  refine wpAnyH_take (i := 6) (by simp only [List.getElem?_toArray, List.getElem?_cons_succ, List.getElem?_cons_zero] <;> exact rfl) (by kernel_rfl) (by kernel_rfl) (by kernel_rfl) (fun _ _ _ h => h) (yields_blk (by rfl) 37 (.tmp 8) (by rfl) ga (by rfl) 37 #[.int .i64 R.code, .int .i64 R.st] _ (fun w' hw' => Kga5.out.keep hw') Try.underlying37 rfl rfa_size) hS ?_
  try simp only [Act.put, List.setIfInBounds_toArray, List.set_cons_zero, List.set_cons_succ]
  refine wpAnyH_ready (rs := [5]) (by kernel_rfl) (by simp) ?_
  refine AllReadyH.cons (o := _) (by simp only [List.getElem?_toArray, List.getElem?_cons_succ, List.getElem?_cons_zero] <;> exact rfl) (fun K hK => ?_) ?_
  focus (
    go_simp
    go_at_call 12
    refine (lw_fault R.code R.st HCD.out.1 HCD.out.2 _).mono ?_
    rintro e wc2 ⟨rfl, hb⟩
    have hS := hS.trans (hb.mono hS.size)
    clear hb
    go_wp2_with fail
    refine hK.out _ _ hS (fun _ => ?_)
    clear hK K
    try simp only [Act.put, List.setIfInBounds_toArray, List.set_cons_zero, List.set_cons_succ])
  rotate_left
  focus (exact AllReadyH.nil)
  refine wpAnyH_take (i := 7) (v := ?_) (by simp only [List.getElem?_toArray, List.getElem?_cons_succ, List.getElem?_cons_zero] <;> exact rfl) (by kernel_rfl) (by kernel_rfl) (by kernel_rfl) (fun _ _ _ h => h) (Or.inl ⟨by rfl, ?_⟩) hS ?_
  rotate_left
  focus (intro w' hw'; go_simp; all_goals with_reducible rfl)
  try simp only [Act.put, List.setIfInBounds_toArray, List.set_cons_zero, List.set_cons_succ]
  refine wpAnyH_take (i := 8) (v := ?_) (by simp only [List.getElem?_toArray, List.getElem?_cons_succ, List.getElem?_cons_zero] <;> exact rfl) (by kernel_rfl) (by kernel_rfl) (by kernel_rfl) (fun _ _ _ h => h) (Or.inl ⟨by rfl, ?_⟩) hS ?_
  rotate_left
  focus (intro w' hw'; go_simp; all_goals with_reducible rfl)
  try simp only [Act.put, List.setIfInBounds_toArray, List.set_cons_zero, List.set_cons_succ]
  refine wpAnyH_take (i := 9) (v := ?_) (by simp only [List.getElem?_toArray, List.getElem?_cons_succ, List.getElem?_cons_zero] <;> exact rfl) (by kernel_rfl) (by kernel_rfl) (by kernel_rfl) (fun _ _ _ h => h) (Or.inl ⟨by rfl, ?_⟩) hS ?_
  rotate_left
  focus (intro w' hw'; go_simp; all_goals with_reducible rfl)
  try simp only [Act.put, List.setIfInBounds_toArray, List.set_cons_zero, List.set_cons_succ]
  refine wpAnyH_ready (rs := [10]) (by kernel_rfl) (by simp) ?_
  refine AllReadyH.cons (o := _) (by simp only [List.getElem?_toArray, List.getElem?_cons_succ, List.getElem?_cons_zero] <;> exact rfl) (fun K hK => ?_) ?_
  focus (
    go_simp
    go_at_call 8
    refine (aw_frame _).mono ?_
    rintro e wc3 ⟨rfl, hb⟩
    have hS := hS.trans (hb.mono hS.size)
    clear hb
    go_wp2_with fail
    refine hK.out _ _ hS (fun _ => ?_)
    clear hK K
    try simp only [Act.put, List.setIfInBounds_toArray, List.set_cons_zero, List.set_cons_succ])
  rotate_left
  focus (exact AllReadyH.nil)
  refine wpAnyH_take (i := 11) (v := ?_) (by simp only [List.getElem?_toArray, List.getElem?_cons_succ, List.getElem?_cons_zero] <;> exact rfl) (by kernel_rfl) (by kernel_rfl) (by kernel_rfl) (fun _ _ _ h => h) (Or.inl ⟨by rfl, ?_⟩) hS ?_
  rotate_left
  focus (intro w' hw'; go_simp; all_goals with_reducible rfl)
  try simp only [Act.put, List.setIfInBounds_toArray, List.set_cons_zero, List.set_cons_succ]
  refine wpAnyH_take (i := 12) (v := ?_) (by simp only [List.getElem?_toArray, List.getElem?_cons_succ, List.getElem?_cons_zero] <;> exact rfl) (by kernel_rfl) (by kernel_rfl) (by kernel_rfl) (fun _ _ _ h => h) (Or.inl ⟨by rfl, ?_⟩) hS ?_
  rotate_left
  focus (intro w' hw'; go_simp; all_goals with_reducible rfl)
  try simp only [Act.put, List.setIfInBounds_toArray, List.set_cons_zero, List.set_cons_succ]
  refine wpAnyH_done (by kernel_rfl) ?_ _
  refine NoPanic.normal ?_
  have hb6 := hS
  have Kh6 := hide (Kh5.out.keep hb6)
  have Kx6 := hide (Kx5.out.keep hb6)
  have Kfa6 := hide (Kfa5.out.keep hb6)
  have Ky6 := hide (Ky5.out.keep hb6)
  have Kga6 := hide (Kga5.out.keep hb6)
  have Ex6 := hide (Ex5.out.keep hb6)
  have Ey6 := hide (Ey.out.keep hb6)
  have B6 := hide (B5.out.trans (hb6.mono B5.out.size))
  clear hb6 Kh5 Kx5 Kfa5 Ky5 Kga5 Ex5 Ey B5
  clear hS
  go_wp2_with fail
  go_ret
  exact ⟨rfl, B6.out⟩
end Go.Proofs.Ytefdhbljcnpggaa.frameReads
