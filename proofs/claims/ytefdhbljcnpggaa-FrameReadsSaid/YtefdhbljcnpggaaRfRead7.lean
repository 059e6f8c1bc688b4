/-
  Layer 9: the document's reading (Read): the walk (GOAWAY).
-/
import Derived.Test.YtefdhbljcnpggaaRfRead0
import Derived.BigGuardPart
namespace Go.Proofs.Ytefdhbljcnpggaa
open Go.RowKit

set_option maxRecDepth 100000 in
set_option maxHeartbeats 3200000 in
theorem rg_Read_7 (ln f s : Int) (hm : misB 7 s = false) (f0 : 0 ≤ f) (f1 : f ≤ 255) (x : ByteArray) (hx : (x.size : Int) ≤ 600000) (w : World) :
    Calls Try.prog 10 #[.agg #[.int .i64 ln, .int .u8 7, .int .u8 f, .int .i64 s], .string x] w (GivesRr (readR 7 f s (bts x)) w) := by
  have hF : fillF (shD 7 f) (shL 7) (shC 7) (shI 7) (shX 7) (Fr.start 7 f s 0) (bts x) = ({ Fr.start 7 f s 0 with last := numL ((bts x).take 4) % 2147483648, code := numL (bts (x.extract 4 8)), data := x.extract 8 x.size } : Fr) := by
    rw [bts_extract x 4 8]
    show ({ Fr.start 7 f s 0 with last := numL ((bts x).take 4) % 2147483648, code := numL (((bts x).drop 4).take 4), data := strOfNums (((bts x).drop 4).drop 4) } : Fr) = _
    rw [List.drop_drop, ← bts_drop x (4 + 4), str_bts]
  have HRD := hide (rr3 (f := f) (xs := bts x) (by omega) hm (by kernel_rfl))
  have HSZ := hide (fun w => rg_sized (Fr.start 7 f s 0) none 0 0 (by show (0:Int) ≤ 7; omega) f0 f1 (x.size : Int) (by omega) hx w)
  rw [show sizB (Fr.start 7 f s 0).ty (Fr.start 7 f s 0).fl (x.size : Int) = sizB 7 f (x.size : Int) from rfl] at HSZ
  rw [bts_len] at HRD
  obtain ⟨RV, hRV⟩ : ∃ RV, RV = readR 7 f s (bts x) := ⟨_, rfl⟩
  rw [← hRV] at HRD ⊢
  clear hRV
  obtain ⟨SZ, hSZ⟩ : ∃ SZ, SZ = sizB 7 f (x.size : Int) := ⟨_, rfl⟩
  rw [← hSZ] at HRD HSZ
  have HM := hide (fun w => rg_wrong 7 s (by omega) w)
  rw [hm] at HM
  have HS := hide (rg_start w ln 7 f s)
  go_enter Try.func10, Try.ntmps10
  go_upto_region 1 with (fail)
  obtain ⟨k1_, k2_, k3_, k4_⟩ := HS.out
  generalize ((w.alloc (.cells #[.int .i64 ln, .int .u8 7, .int .u8 f, .int .i64 s] 23)).alloc (.cells #[.int .u8 0, .int .u8 0, .int .i64 0, .string ⟨#[]⟩, .int .i64 0, .int .i64 0, .bool false, .int .u8 0, .int .u32 0, .int .i64 0, .int .i64 0, .slice none 0 0] 35)).alloc (.cells #[.int .i64 0, .int .i64 0] 37) = w0 at k1_ k2_ k3_ k4_ ⊢
  obtain ⟨h, hh⟩ : ∃ h, h = w.heap.size := ⟨_, rfl⟩
  rw [← hh] at k1_ k2_ k3_ ⊢
  obtain ⟨b, hb⟩ : ∃ b, b = h + 1 + 1 := ⟨_, rfl⟩
  rw [← hb] at k3_ ⊢
  obtain ⟨a, ha⟩ : ∃ a, a = h + 1 := ⟨_, rfl⟩
  rw [← ha] at k2_ ⊢
  have LA := hide (show w.heap.size ≤ a by omega)
  have LB := hide (show w.heap.size ≤ b by omega)
  have Nha := hide (show h ≠ a by omega)
  have Nhb := hide (show h ≠ b by omega)
  have Nab := hide (show a ≠ b by omega)
  have KH := hide k1_
  have KA := hide k2_
  have KB := hide k3_
  have B0 := hide k4_
  clear k1_ k2_ k3_ k4_ hh ha hb HS
  obtain ⟨k0, k1, k2, k3⟩ := hd_cells KH.out
  go_upto_region 2 with (refine wpList_store_new rfl 35 (.tmp 6) (.tmp 14) ((Fr.start 7 f s 0).cs none 0 0) #[.int .u8 0, .int .u8 0, .int .i64 0, .string ⟨#[]⟩, .int .i64 0, .int .i64 0, .bool false, .int .u8 0, .int .u32 0, .int .i64 0, .int .i64 0, .slice none 0 0] 35 rfl rfl rfr_sz rfl (Fr.cs_one _ _ _ _) ?_)
  clear k0 k1 k2 k3
  have KN1 := hide (BlkIs.new w0 35 #[.int .u8 7, .int .u8 f, .int .i64 s, .string ⟨#[]⟩, .int .i64 0, .int .i64 0, .bool false, .int .u8 0, .int .u32 0, .int .i64 0, .int .i64 0, .slice none 0 0])
  obtain ⟨g, hg⟩ : ∃ g, g = w0.heap.size := ⟨_, rfl⟩
  have Lg := hide (show w.heap.size ≤ g by rw [hg]; exact B0.out.size)
  have Nhg := hide (show h ≠ g by have := KH.out.lt; omega)
  have Nag := hide (show a ≠ g by have := KA.out.lt; omega)
  have Nbg := hide (show b ≠ g by have := KB.out.lt; omega)
  have Kh1 := hide (KH.out.alloc (.cells #[.int .u8 7, .int .u8 f, .int .i64 s, .string ⟨#[]⟩, .int .i64 0, .int .i64 0, .bool false, .int .u8 0, .int .u32 0, .int .i64 0, .int .i64 0, .slice none 0 0] 35))
  have Ka1 := hide (KA.out.alloc (.cells #[.int .u8 7, .int .u8 f, .int .i64 s, .string ⟨#[]⟩, .int .i64 0, .int .i64 0, .bool false, .int .u8 0, .int .u32 0, .int .i64 0, .int .i64 0, .slice none 0 0] 35))
  have Kb1 := hide (KB.out.alloc (.cells #[.int .u8 7, .int .u8 f, .int .i64 s, .string ⟨#[]⟩, .int .i64 0, .int .i64 0, .bool false, .int .u8 0, .int .u32 0, .int .i64 0, .int .i64 0, .slice none 0 0] 35))
  have B1 := hide (B0.out.alloc B0.out.size (.cells #[.int .u8 7, .int .u8 f, .int .i64 s, .string ⟨#[]⟩, .int .i64 0, .int .i64 0, .bool false, .int .u8 0, .int .u32 0, .int .i64 0, .int .i64 0, .slice none 0 0] 35))
  rw [← hg] at KN1 ⊢
  generalize w0.alloc (.cells #[.int .u8 7, .int .u8 f, .int .i64 s, .string ⟨#[]⟩, .int .i64 0, .int .i64 0, .bool false, .int .u8 0, .int .u32 0, .int .i64 0, .int .i64 0, .slice none 0 0] 35) = w1 at Kh1 Ka1 Kb1 B1 KN1 ⊢
  clear hg KH KA KB B0
  have KG := hide (show BlkIs w1 g 35 ((Fr.start 7 f s 0).cs none 0 0) from KN1.out)
  clear KN1
  obtain ⟨k0, k1, k2, k3⟩ := hd_cells Kh1.out
  go_wp2_with fail
  clear k0 k1 k2 k3
  refine (HM.out _).mono ?_
  rintro e w2 ⟨rfl, hb2⟩
  have Kh2 := hide (Kh1.out.keep hb2)
  have Ka2 := hide (Ka1.out.keep hb2)
  have Kb2 := hide (Kb1.out.keep hb2)
  have Kg2 := hide (KG.out.keep hb2)
  have B2 := hide (B1.out.trans (hb2.mono B1.out.size))
  clear hb2 Kh1 Ka1 Kb1 KG B1
  obtain ⟨k0, k1, k2, k3⟩ := hd_cells Kh2.out
  go_wp2_with (refine wpList_load_blk rfl 35 (.tmp 6) rfl g rfl 35 ((Fr.start 7 f s 0).cs none 0 0) _ Kg2.out Try.underlying35 rfl rfr_sz ?_)
  clear k0 k1 k2 k3
  refine (HSZ.out _).mono ?_
  rintro e w3 ⟨rfl, hb3⟩
  have Kh3 := hide (Kh2.out.keep hb3)
  have Ka3 := hide (Ka2.out.keep hb3)
  have Kb3 := hide (Kb2.out.keep hb3)
  have Kg3 := hide (Kg2.out.keep hb3)
  have B3 := hide (B2.out.trans (hb3.mono B2.out.size))
  clear hb3 Kh2 Ka2 Kb2 Kg2 B2
  clear HSZ
  cases SZ with
  | true =>
    have HRV := hide (HRD.out.trans (if_pos rfl))
    clear hSZ HRD
    go_wp2_with (first
      | (refine wpList_store_blk rfl 35 (.tmp 4) (.tmp 50) rfl a (Fr.zero.cs none 0 0) (Fr.zero.cs none 0 0) 35 rfl rfl Ka3.out rfr_sz rfl (Fr.cs_one _ _ _ _) ?_)
      | (refine wpList_store_blk rfl 37 (.tmp 5) (.tmp 51) rfl b #[.int .i64 6, .int .i64 0] #[.int .i64 0, .int .i64 0] 37 rfl rfl (Kb3.out.row_other (Kb3.out.ne_ Ka3.out (by decide)) _) rfa_size rfl (fa_one _ _ rfl rfl) ?_))
    have hd := rr_done (Rd.fault 6 0) none 0 Ka3.out Kb3.out (i64_no16 0) (i64_no16 0) B3.out LA.out LB.out (PL.none_ _)
    rw [HRV.out]
    exact bodyPost_ret (results_rffa rfl _ _ a b Fr.zero none 0 0 _ _ rfl rfl hd.1 hd.2.1) rfl hd.2.2
  | false =>
    have HRV := hide (HRD.out.trans (if_neg (by simp)))
    clear HRD
    rw [hF, show prsR (shR 7 f) (bts x) (x.size / 6) = [] from rfl] at HRV
    clear hF
    have h8 : 8 ≤ x.size := by simp [sizB] at hSZ; omega
    have HNS := hide (fun w => rg_stream x (by omega) w)
    have HNU := hide (fun w => rg_number (x.extract 4 8) (by simp; omega) w)
    have hbd := numL_bd 4 (bts (x.extract 4 8)) (bts_all _)
    rw [List.take_of_length_le (by rw [bts_len]; simp; omega)] at hbd
    generalize numL (bts (x.extract 4 8)) = N at *
    generalize numL ((bts x).take 4) % 2147483648 = M at *
    have hN : IntKind.u32.wrap N = N := by rw [IntWalk.u32_in _ (by omega)]
    have h8i : (8 : Int) ≤ (x.size : Int) := by omega
    clear hSZ h8
    obtain ⟨k0, k1, k2, k3⟩ := hd_cells Kh3.out
    go_wp2_with fail
    clear k0 k1 k2 k3
    refine wp_region_noPanic ?_
    refine wp_region_held_drew (S := fun _ => True) (by kernel_rfl) trivial (fun hS => ?_)
    have Dh := hide Kh3.out.drew
    have Da := hide Ka3.out.drew
    have Db := hide Kb3.out.drew
    have Dg := hide Kg3.out.drew
    have DB := hide B3.out.drew
    generalize w3.drew = wd at Dh Da Db Dg DB ⊢
    refine wpAnyH_take (i := 0) (v := ?_) (by simp only [List.getElem?_toArray, List.getElem?_cons_zero] <;> exact rfl) (by kernel_rfl) (by kernel_rfl) (by kernel_rfl) (fun _ _ _ h => h) (Or.inl ⟨by rfl, ?_⟩) hS ?_
    rotate_left
    focus (intro w' hw'; go_simp; all_goals with_reducible rfl)
    try simp only [Act.put, List.setIfInBounds_toArray, List.set_cons_zero, List.set_cons_succ]
    refine wpAnyH_take (i := 2) (v := ?_) (by simp only [List.getElem?_toArray, List.getElem?_cons_succ, List.getElem?_cons_zero] <;> exact rfl) (by kernel_rfl) (by kernel_rfl) (by kernel_rfl) (fun _ _ _ h => h) (Or.inl ⟨by rfl, ?_⟩) hS ?_
    rotate_left
    focus (intro w' hw'; go_simp; all_goals with_reducible rfl)
    try simp only [Act.put, List.setIfInBounds_toArray, List.set_cons_zero, List.set_cons_succ]
    refine wpAnyH_take (i := 3) (v := ?_) (by simp only [List.getElem?_toArray, List.getElem?_cons_succ, List.getElem?_cons_zero] <;> exact rfl) (by kernel_rfl) (by kernel_rfl) (by kernel_rfl) (fun _ _ _ h => h) (Or.inl ⟨by rfl, ?_⟩) hS ?_
    rotate_left
    focus (intro w' hw'; go_simp; all_goals with_reducible rfl)
    try simp only [Act.put, List.setIfInBounds_toArray, List.set_cons_zero, List.set_cons_succ]
    refine wpAnyH_take (i := 6) (v := ?_) (by simp only [List.getElem?_toArray, List.getElem?_cons_succ, List.getElem?_cons_zero] <;> exact rfl) (by kernel_rfl) (by kernel_rfl) (by kernel_rfl) (fun _ _ _ h => h) (Or.inl ⟨by rfl, ?_⟩) hS ?_
    rotate_left
    focus (intro w' hw'; go_simp; all_goals with_reducible rfl)
    try simp only [Act.put, List.setIfInBounds_toArray, List.set_cons_zero, List.set_cons_succ]
    refine wpAnyH_take (i := 7) (v := ?_) (by simp only [List.getElem?_toArray, List.getElem?_cons_succ, List.getElem?_cons_zero] <;> exact rfl) (by kernel_rfl) (by kernel_rfl) (by kernel_rfl) (fun _ _ _ h => h) (Or.inl ⟨by rfl, ?_⟩) hS ?_
    rotate_left
    focus (intro w' hw'; go_simp; all_goals with_reducible rfl)
    try simp only [Act.put, List.setIfInBounds_toArray, List.set_cons_zero, List.set_cons_succ]
    refine wpAnyH_ready (rs := [1]) (by kernel_rfl) (by simp) ?_
    refine AllReadyH.cons (o := _) (by simp only [List.getElem?_toArray, List.getElem?_cons_succ, List.getElem?_cons_zero] <;> exact rfl) (fun K hK => ?_) ?_
    focus (
      go_simp
      go_at_call 33
      refine (HNS.out _).mono ?_
      rintro e wc1 ⟨rfl, hb⟩
      have Ch1 := hide (Dh.out.keep hb)
      have Ca1 := hide (Da.out.keep hb)
      have Cb1 := hide (Db.out.keep hb)
      have Cg1 := hide (Dg.out.keep hb)
      have CB1 := hide (DB.out.trans (hb.mono DB.out.size))
      clear hb
      go_wp2_with fail
      refine hK.out _ _ trivial (fun _ => ?_)
      clear hK K
      try simp only [Act.put, List.setIfInBounds_toArray, List.set_cons_zero, List.set_cons_succ])
    rotate_left
    focus (exact AllReadyH.nil)
    refine wpAnyH_take (i := 8) (v := ?_) (by simp only [List.getElem?_toArray, List.getElem?_cons_succ, List.getElem?_cons_zero] <;> exact rfl) (by kernel_rfl) (by kernel_rfl) (by kernel_rfl) (fun _ _ _ h => h) (Or.inl ⟨by rfl, ?_⟩) hS ?_
    rotate_left
    focus (intro w' hw'; go_simp; all_goals with_reducible rfl)
    try simp only [Act.put, List.setIfInBounds_toArray, List.set_cons_zero, List.set_cons_succ]
    refine wpAnyH_ready (rs := [4]) (by kernel_rfl) (by simp) ?_
    refine AllReadyH.cons (o := _) (by simp only [List.getElem?_toArray, List.getElem?_cons_succ, List.getElem?_cons_zero] <;> exact rfl) (fun K hK => ?_) ?_
    focus (
      go_simp
      go_at_call 32
      refine (HNU.out _).mono ?_
      rintro e wc2 ⟨rfl, hb⟩
      have Ch2 := hide (Ch1.out.keep hb)
      have Ca2 := hide (Ca1.out.keep hb)
      have Cb2 := hide (Cb1.out.keep hb)
      have Cg2 := hide (Cg1.out.keep hb)
      have CB2 := hide (CB1.out.trans (hb.mono CB1.out.size))
      clear hb
      go_wp2_with fail
      refine hK.out _ _ trivial (fun _ => ?_)
      clear hK K
      try simp only [Act.put, List.setIfInBounds_toArray, List.set_cons_zero, List.set_cons_succ])
    rotate_left
    focus (exact AllReadyH.nil)
    refine wpAnyH_take (i := 5) (v := ?_) (by simp only [List.getElem?_toArray, List.getElem?_cons_succ, List.getElem?_cons_zero] <;> exact rfl) (by kernel_rfl) (by kernel_rfl) (by kernel_rfl) (fun _ _ _ h => h) (Or.inl ⟨by rfl, ?_⟩) hS ?_
    rotate_left
    focus (intro w' hw'; go_simp; all_goals with_reducible rfl)
    try simp only [Act.put, List.setIfInBounds_toArray, List.set_cons_zero, List.set_cons_succ]
    refine wpAnyH_ready (rs := [9]) (by kernel_rfl) (by simp) ?_
    refine AllReadyH.cons (o := _) (by simp only [List.getElem?_toArray, List.getElem?_cons_succ, List.getElem?_cons_zero] <;> exact rfl) (fun K hK => ?_) ?_
    focus (
      have d9 := (Cg2.out.cell 9).trans (show (((Fr.start 7 f s 0) : Fr).cs none 0 0)[9]? = some (.int .i64 0) from rfl)
      have z9 := Cg2.out.frozen 9
      go_simp
      refine hK.out _ _ trivial (fun _ => ?_)
      clear d9 z9
      clear hK K
      try simp only [Act.put])
    rotate_left
    focus (exact AllReadyH.nil)
    refine wpAnyH_take (i := 10) (v := ?_) (by simp only [List.getElem?_toArray, List.getElem?_cons_succ, List.getElem?_cons_zero] <;> exact rfl) (by kernel_rfl) (by kernel_rfl) (by kernel_rfl) (fun _ _ _ h => h) (Or.inl ⟨by rfl, ?_⟩) hS ?_
    rotate_left
    focus (intro w' hw'; go_simp; all_goals with_reducible rfl)
    try simp only [Act.put, List.setIfInBounds_toArray, List.set_cons_zero, List.set_cons_succ]
    refine wpAnyH_ready (rs := [11]) (by kernel_rfl) (by simp) ?_
    refine AllReadyH.cons (o := _) (by simp only [List.getElem?_toArray, List.getElem?_cons_succ, List.getElem?_cons_zero] <;> exact rfl) (fun K hK => ?_) ?_
    focus (
      have d9 := (Cg2.out.cell 8).trans (show (((Fr.start 7 f s 0) : Fr).cs none 0 0)[8]? = some (.int .u32 0) from rfl)
      have z9 := Cg2.out.frozen 8
      go_simp
      refine hK.out _ _ trivial (fun _ => ?_)
      clear d9 z9
      clear hK K
      try simp only [Act.put])
    rotate_left
    focus (exact AllReadyH.nil)
    refine wpAnyH_take (i := 12) (v := ?_) (by simp only [List.getElem?_toArray, List.getElem?_cons_succ, List.getElem?_cons_zero] <;> exact rfl) (by kernel_rfl) (by kernel_rfl) (by kernel_rfl) (fun _ _ _ h => h) (Or.inl ⟨by rfl, ?_⟩) hS ?_
    rotate_left
    focus (intro w' hw'; go_simp; all_goals with_reducible rfl)
    try simp only [Act.put, List.setIfInBounds_toArray, List.set_cons_zero, List.set_cons_succ]
    refine wpAnyH_ready (rs := [13]) (by kernel_rfl) (by simp) ?_
    refine AllReadyH.cons (o := _) (by simp only [List.getElem?_toArray, List.getElem?_cons_succ, List.getElem?_cons_zero] <;> exact rfl) (fun K hK => ?_) ?_
    focus (
      have d9 := (Cg2.out.cell 3).trans (show (((Fr.start 7 f s 0) : Fr).cs none 0 0)[3]? = some (.string ⟨#[]⟩) from rfl)
      have z9 := Cg2.out.frozen 3
      go_simp
      refine hK.out _ _ trivial (fun _ => ?_)
      clear d9 z9
      clear hK K
      try simp only [Act.put])
    rotate_left
    focus (exact AllReadyH.nil)
    refine wpAnyH_done (by kernel_rfl) ?_ _
    refine NoPanic.normal ?_
    clear hS
    go_upto_region 27 with (fail)
    have Kh4 := hide (Ch2.out.far (p := ⟨g, 9, none⟩) Nhg.out (.int .i64 M))
    have Ka4 := hide (Ca2.out.far (p := ⟨g, 9, none⟩) Nag.out (.int .i64 M))
    have Kb4 := hide (Cb2.out.far (p := ⟨g, 9, none⟩) Nbg.out (.int .i64 M))
    have Kg4 := hide (show BlkIs (wc2.setCell ⟨g, 9, none⟩ (.int .i64 M)) g _ (({ Fr.start 7 f s 0 with last := M } : Fr).cs none 0 0) from Cg2.out.put 9 (.int .i64 M))
    have B4 := hide (CB2.out.setCell (p := ⟨g, 9, none⟩) Lg.out (.int .i64 M))
    generalize wc2.setCell ⟨g, 9, none⟩ (.int .i64 M) = w4 at Kh4 Ka4 Kb4 Kg4 B4 ⊢
    clear Ch2 Ca2 Cb2 Cg2 CB2
    have Kh5 := hide (Kh4.out.far (p := ⟨g, 8, none⟩) Nhg.out (.int .u32 N))
    have Ka5 := hide (Ka4.out.far (p := ⟨g, 8, none⟩) Nag.out (.int .u32 N))
    have Kb5 := hide (Kb4.out.far (p := ⟨g, 8, none⟩) Nbg.out (.int .u32 N))
    have Kg5 := hide (show BlkIs (w4.setCell ⟨g, 8, none⟩ (.int .u32 N)) g _ (({ Fr.start 7 f s 0 with last := M, code := N } : Fr).cs none 0 0) from Kg4.out.put 8 (.int .u32 N))
    have B5 := hide (B4.out.setCell (p := ⟨g, 8, none⟩) Lg.out (.int .u32 N))
    generalize w4.setCell ⟨g, 8, none⟩ (.int .u32 N) = w5 at Kh5 Ka5 Kb5 Kg5 B5 ⊢
    clear Kh4 Ka4 Kb4 Kg4 B4
    have Kh6 := hide (Kh5.out.far (p := ⟨g, 3, none⟩) Nhg.out (.string (x.extract 8 x.size)))
    have Ka6 := hide (Ka5.out.far (p := ⟨g, 3, none⟩) Nag.out (.string (x.extract 8 x.size)))
    have Kb6 := hide (Kb5.out.far (p := ⟨g, 3, none⟩) Nbg.out (.string (x.extract 8 x.size)))
    have Kg6 := hide (show BlkIs (w5.setCell ⟨g, 3, none⟩ (.string (x.extract 8 x.size))) g _ (({ Fr.start 7 f s 0 with last := M, code := N, data := x.extract 8 x.size } : Fr).cs none 0 0) from Kg5.out.put 3 (.string (x.extract 8 x.size)))
    have B6 := hide (B5.out.setCell (p := ⟨g, 3, none⟩) Lg.out (.string (x.extract 8 x.size)))
    generalize w5.setCell ⟨g, 3, none⟩ (.string (x.extract 8 x.size)) = w6 at Kh6 Ka6 Kb6 Kg6 B6 ⊢
    clear Kh5 Ka5 Kb5 Kg5 B5
    go_wp2_with (first
      | (refine wpList_load_blk rfl 35 (.tmp 6) rfl g rfl 35 (({ Fr.start 7 f s 0 with last := M, code := N, data := x.extract 8 x.size } : Fr).cs none 0 0) _ Kg6.out Try.underlying35 rfl rfr_sz ?_)
      | (refine wpList_store_blk rfl 35 (.tmp 4) (.tmp 122) rfl a (({ Fr.start 7 f s 0 with last := M, code := N, data := x.extract 8 x.size } : Fr).cs none 0 0) (Fr.zero.cs none 0 0) 35 rfl rfl Ka6.out rfr_sz rfl (Fr.cs_one _ _ _ _) ?_)
      | (refine wpList_store_blk rfl 37 (.tmp 5) (.tmp 123) rfl b #[.int .i64 0, .int .i64 0] #[.int .i64 0, .int .i64 0] 37 rfl rfl (Kb6.out.row_other (Kb6.out.ne_ Ka6.out (by decide)) _) rfa_size rfl (fa_one _ _ rfl rfl) ?_))
    have hd := rr_done ⟨({ Fr.start 7 f s 0 with last := M, code := N, data := x.extract 8 x.size } : Fr), [], 0, 0⟩ none 0 Ka6.out Kb6.out (i64_no16 0) (i64_no16 0) B6.out LA.out LB.out (PL.none_ _)
    rw [HRV.out]
    exact bodyPost_ret (results_rffa rfl _ _ a b ({ Fr.start 7 f s 0 with last := M, code := N, data := x.extract 8 x.size } : Fr) none 0 0 _ _ rfl rfl hd.1 hd.2.1) rfl hd.2.2
end Go.Proofs.Ytefdhbljcnpggaa
