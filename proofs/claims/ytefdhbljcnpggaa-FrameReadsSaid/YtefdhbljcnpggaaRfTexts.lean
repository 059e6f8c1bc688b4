/-
  Layer 9: the document's reading of DATA and HEADERS (texts): the walk.
-/
import Derived.Test.YtefdhbljcnpggaaRfTexts0
import Derived.BigGuardPart
import Derived.Deep.CutRange
namespace Go.Proofs.Ytefdhbljcnpggaa
open Go.RowKit

set_option maxRecDepth 100000 in
set_option maxHeartbeats 3200000 in
theorem rg_texts (t f s : Int) (ht : t = 0 ∨ t = 1) (hm : misB t s = false) (f0 : 0 ≤ f) (f1 : f ≤ 255) (x : ByteArray) (hx : (x.size : Int) ≤ 600000) (w : World) :
    Calls Try.prog 29 #[.agg ((Fr.start t f s 0).cs none 0 0), .string x] w (GivesRr (readR t f s (bts x)) w) := by
  have HRD := hide (show readR t f s (bts x) = if shP t f = true ∧ (bts x).length = 0 then Rd.fault 6 0 else if shP t f = true ∧ ((bts x).length : Int) - 1 < (bts x).getD 0 0 then Rd.fault 1 0 else if rightB t f (bodyR t f (bts x)).length = false then Rd.fault 6 (if t = 2 then s else 0) else if shI t = true ∧ (fillR t f s (bts x)).inc = 0 then Rd.fault 1 s else ⟨fillR t f s (bts x), prsRd t f (bts x), 0, 0⟩ by rw [readR, if_neg (by rw [hm]; simp)])
  obtain ⟨RV, hRV⟩ : ∃ RV, RV = readR t f s (bts x) := ⟨_, rfl⟩
  rw [← hRV] at HRD ⊢
  clear hRV hm
  have HP := hide (fun w => rg_padded (Fr.start t f s 0) none 0 0 (by show 0 ≤ t; omega) f0 f1 w)
  rw [show shP (Fr.start t f s 0).ty (Fr.start t f s 0).fl = shP t f from rfl] at HP
  have HS := hide (rr_start w (Fr.start t f s 0) none 0 0)
  go_enter Try.func29, Try.ntmps29
  go_upto_region 1 with (fail)
  obtain ⟨k1_, k2_, k3_, k4_⟩ := HS.out
  generalize ((w.alloc (.cells ((Fr.start t f s 0).cs none 0 0) 35)).alloc (.cells #[.int .u8 0, .int .u8 0, .int .i64 0, .string ⟨#[]⟩, .int .i64 0, .int .i64 0, .bool false, .int .u8 0, .int .u32 0, .int .i64 0, .int .i64 0, .slice none 0 0] 35)).alloc (.cells #[.int .i64 0, .int .i64 0] 37) = w0 at k1_ k2_ k3_ k4_ ⊢
  obtain ⟨g, hg⟩ : ∃ g, g = w.heap.size := ⟨_, rfl⟩
  rw [← hg] at k1_ k2_ k3_ ⊢
  obtain ⟨b, hb⟩ : ∃ b, b = g + 1 + 1 := ⟨_, rfl⟩
  rw [← hb] at k3_ ⊢
  obtain ⟨a, ha⟩ : ∃ a, a = g + 1 := ⟨_, rfl⟩
  rw [← ha] at k2_ ⊢
  have LG := hide (show w.heap.size ≤ g by omega)
  have LA := hide (show w.heap.size ≤ a by omega)
  have LB := hide (show w.heap.size ≤ b by omega)
  have Lg := LG
  have La := LA
  have Lb := LB
  have Nga := hide (show g ≠ a by omega)
  have Ngb := hide (show g ≠ b by omega)
  have Nab := hide (show a ≠ b by omega)
  have NAG := hide (show a ≠ g by omega)
  have NBG := hide (show b ≠ g by omega)
  have KG := hide k1_
  have KA := hide k2_
  have KB := hide k3_
  have B0 := hide k4_
  clear k1_ k2_ k3_ k4_ hg ha hb HS
  go_wp2_with (refine wpList_load_blk rfl 35 (.tmp 2) rfl g rfl 35 ((Fr.start t f s 0).cs none 0 0) _ KG.out Try.underlying35 rfl rfr_sz ?_)
  refine (HP.out _).mono ?_
  rintro e w1 ⟨rfl, hb1⟩
  have Kg1 := hide (KG.out.keep hb1)
  have Ka1 := hide (KA.out.keep hb1)
  have Kb1 := hide (KB.out.keep hb1)
  have B1 := hide (B0.out.trans (hb1.mono B0.out.size))
  clear hb1 KG KA KB B0
  generalize hPP : shP t f = P at *
  cases P with
  | false =>
    have HR2 := hide (HRD.out.trans ((if_neg (by simp)).trans ((if_neg (by simp)).trans (rd01 ht))))
    rw [show bodyR t f (bts x) = bts x by rw [bodyR, hPP]; rfl, show padR t f (bts x) = 0 by rw [padR, hPP]; rfl] at HR2
    obtain ⟨z, hz⟩ : ∃ z, z = x := ⟨_, rfl⟩
    obtain ⟨ys, hys⟩ : ∃ ys, ys = bts x := ⟨_, rfl⟩
    have HZ := hide (show bts z = ys by rw [hz, hys])
    rw [← hys] at HR2
    clear hys HRD hPP
    go_upto_region 9 with (fail)
    rw [← hz]
    clear hz
    have g0 := (Kg1.out.cell 0).trans (show ((Fr.start t f s 0).cs none 0 0)[0]? = some (.int .u8 t) from rfl)
    rcases ht with rfl | rfl
    · obtain ⟨zz, hzz⟩ : ∃ zz, zz = z := ⟨_, rfl⟩
      have hD : shD 0 f = false := by rfl
      have HRV := hide (HR2.out.trans (by rw [hD, if_neg (by simp)]))
      rw [show cutB false 5 ys = ys from rfl, show fillD false (Fr.start 0 f s 0) ys = Fr.start 0 f s 0 from rfl, ← HZ.out, str_bts, ← hzz] at HRV
      rw [← hzz]
      clear HZ HR2 hD hzz
      have d3 := (Kg1.out.cell 3).trans (show ((Fr.start 0 f s 0).cs none 0 0)[3]? = some (.string ((Fr.start 0 f s 0)).data) from rfl)
      have z3 := Kg1.out.frozen 3
      go_upto_region 15 with (fail)
      clear d3 z3
      have Kg2 := hide (show BlkIs (w1.setCell ⟨g, 3, none⟩ (.string zz)) g _ (({ (Fr.start 0 f s 0) with data := zz } : Fr).cs none 0 0) from Kg1.out.put 3 (.string zz))
      have Ka2 := hide (Ka1.out.far (p := ⟨g, 3, none⟩) (Ne.symm Nga.out) (.string zz))
      have Kb2 := hide (Kb1.out.far (p := ⟨g, 3, none⟩) (Ne.symm Ngb.out) (.string zz))
      have B2 := hide (B1.out.setCell (p := ⟨g, 3, none⟩) Lg.out (.string zz))
      generalize w1.setCell ⟨g, 3, none⟩ (.string zz) = w2 at Kg2 Ka2 Kb2 B2 ⊢
      clear Kg1 Ka1 Kb1 B1
      go_wp2_with (first
        | (refine wpList_load_blk rfl 35 (.tmp 2) rfl g rfl 35 (({ (Fr.start 0 f s 0) with data := zz } : Fr).cs none 0 0) _ Kg2.out Try.underlying35 rfl rfr_sz ?_)
        | (refine wpList_store_blk rfl 35 (.tmp 4) (.tmp 51) rfl a (({ (Fr.start 0 f s 0) with data := zz } : Fr).cs none 0 0) (Fr.zero.cs none 0 0) 35 rfl rfl Ka2.out rfr_sz rfl (Fr.cs_one _ _ _ _) ?_)
        | (refine wpList_store_blk rfl 37 (.tmp 5) (.tmp 52) rfl b #[.int .i64 0, .int .i64 0] #[.int .i64 0, .int .i64 0] 37 rfl rfl (Kb2.out.row_other (Kb2.out.ne_ Ka2.out (by decide)) _) rfa_size rfl (fa_one _ _ rfl rfl) ?_))
      have hd := rr_done ⟨({ (Fr.start 0 f s 0) with data := zz } : Fr), [], 0, 0⟩ none 0 Ka2.out Kb2.out (i64_no16 0) (i64_no16 0) B2.out LA.out LB.out (PL.none_ _)
      rw [HRV.out]
      exact bodyPost_ret (results_rffa rfl _ _ a b ({ (Fr.start 0 f s 0) with data := zz } : Fr) none 0 0 _ _ rfl rfl hd.1 hd.2.1) rfl hd.2.2
    · have HHas := hide (fun w => rg_has (Fr.start 1 f s 0) none 0 0 f0 f1 32 (by omega) w)
      have hD : shD 1 f = hasB f 32 := by simp [shD]
      rw [show (((Fr.start 1 f s 0) : Fr).fl) = f from rfl, show ((32 : Nat) : Int) = 32 from rfl, ← hD] at HHas
      clear hD
      go_wp2_with (refine wpList_load_want (by rfl) 35 (.tmp 2) rfl g rfl 35 ((Fr.start 1 f s 0).cs none 0 0) _ Kg1.out Try.underlying35 rfl rfr_sz ?_)
      clear g0
      refine (HHas.out _).mono ?_
      rintro e w2 ⟨rfl, hb2⟩
      have Kg2 := hide (Kg1.out.keep hb2)
      have Ka2 := hide (Ka1.out.keep hb2)
      have Kb2 := hide (Kb1.out.keep hb2)
      have B2 := hide (B1.out.trans (hb2.mono B1.out.size))
      clear hb2 Kg1 Ka1 Kb1 B1
      generalize shD 1 f = D at *
      cases D with
      | false =>
        obtain ⟨zz, hzz⟩ : ∃ zz, zz = z := ⟨_, rfl⟩
        have HRV := hide (HR2.out.trans (by rw [if_neg (by simp)]))
        rw [show cutB false 5 ys = ys from rfl, show fillD false (Fr.start 1 f s 0) ys = Fr.start 1 f s 0 from rfl, ← HZ.out, str_bts, ← hzz] at HRV
        rw [← hzz]
        clear HZ HR2 hzz
        have d3 := (Kg2.out.cell 3).trans (show ((Fr.start 1 f s 0).cs none 0 0)[3]? = some (.string ((Fr.start 1 f s 0)).data) from rfl)
        have z3 := Kg2.out.frozen 3
        go_upto_region 15 with (fail)
        clear d3 z3
        have Kg3 := hide (show BlkIs (w2.setCell ⟨g, 3, none⟩ (.string zz)) g _ (({ (Fr.start 1 f s 0) with data := zz } : Fr).cs none 0 0) from Kg2.out.put 3 (.string zz))
        have Ka3 := hide (Ka2.out.far (p := ⟨g, 3, none⟩) (Ne.symm Nga.out) (.string zz))
        have Kb3 := hide (Kb2.out.far (p := ⟨g, 3, none⟩) (Ne.symm Ngb.out) (.string zz))
        have B3 := hide (B2.out.setCell (p := ⟨g, 3, none⟩) Lg.out (.string zz))
        generalize w2.setCell ⟨g, 3, none⟩ (.string zz) = w3 at Kg3 Ka3 Kb3 B3 ⊢
        clear Kg2 Ka2 Kb2 B2
        go_wp2_with (first
          | (refine wpList_load_blk rfl 35 (.tmp 2) rfl g rfl 35 (({ (Fr.start 1 f s 0) with data := zz } : Fr).cs none 0 0) _ Kg3.out Try.underlying35 rfl rfr_sz ?_)
          | (refine wpList_store_blk rfl 35 (.tmp 4) (.tmp 51) rfl a (({ (Fr.start 1 f s 0) with data := zz } : Fr).cs none 0 0) (Fr.zero.cs none 0 0) 35 rfl rfl Ka3.out rfr_sz rfl (Fr.cs_one _ _ _ _) ?_)
          | (refine wpList_store_blk rfl 37 (.tmp 5) (.tmp 52) rfl b #[.int .i64 0, .int .i64 0] #[.int .i64 0, .int .i64 0] 37 rfl rfl (Kb3.out.row_other (Kb3.out.ne_ Ka3.out (by decide)) _) rfa_size rfl (fa_one _ _ rfl rfl) ?_))
        have hd := rr_done ⟨({ (Fr.start 1 f s 0) with data := zz } : Fr), [], 0, 0⟩ none 0 Ka3.out Kb3.out (i64_no16 0) (i64_no16 0) B3.out LA.out LB.out (PL.none_ _)
        rw [HRV.out]
        exact bodyPost_ret (results_rffa rfl _ _ a b ({ (Fr.start 1 f s 0) with data := zz } : Fr) none 0 0 _ _ rfl rfl hd.1 hd.2.1) rfl hd.2.2
      | true =>
        have hzl : z.size = ys.length := by rw [← bts_len, HZ.out]
        by_cases h5 : ys.length < 5
        · have HRV := hide (HR2.out.trans (if_pos ⟨rfl, h5⟩))
          have h5i : (z.size : Int) < 5 := by omega
          clear HR2 h5 hzl
          go_wp2_with (first
            | (refine wpList_store_blk rfl 35 (.tmp 4) (.tmp 42) rfl a (Fr.zero.cs none 0 0) (Fr.zero.cs none 0 0) 35 rfl rfl Ka2.out rfr_sz rfl (Fr.cs_one _ _ _ _) ?_)
            | (refine wpList_store_blk rfl 37 (.tmp 5) (.tmp 43) rfl b #[.int .i64 6, .int .i64 0] #[.int .i64 0, .int .i64 0] 37 rfl rfl (Kb2.out.row_other (Kb2.out.ne_ Ka2.out (by decide)) _) rfa_size rfl (fa_one _ _ rfl rfl) ?_))
          have hd := rr_done (Rd.fault 6 0) none 0 Ka2.out Kb2.out (i64_no16 0) (i64_no16 0) B2.out LA.out LB.out (PL.none_ _)
          rw [HRV.out]
          exact bodyPost_ret (results_rffa rfl _ _ a b Fr.zero none 0 0 _ _ rfl rfl hd.1 hd.2.1) rfl hd.2.2
        · have HRV := hide (HR2.out.trans (if_neg (fun h => h5 h.2)))
          have h5i : ¬ (z.size : Int) < 5 := by omega
          have h5j : (5 : Int) ≤ (z.size : Int) := by omega
          have HW := hide (fun w => rg_weigh (Fr.start 1 f s 0) none 0 0 z (by omega) w)
          rw [HZ.out] at HW
          have HZX := hide (show bts (z.extract 5 z.size) = ys.drop 5 by rw [bts_drop, HZ.out])
          rw [show cutB true 5 ys = ys.drop 5 from rfl, ← HZX.out, str_bts] at HRV
          clear HR2 h5 hzl HZ HZX
          generalize fillD true (Fr.start 1 f s 0) ys = FD at *
          go_wp2_with (refine wpList_load_blk rfl 35 (.tmp 2) rfl g rfl 35 ((Fr.start 1 f s 0).cs none 0 0) _ Kg2.out Try.underlying35 rfl rfr_sz ?_)
          refine (HW.out _).mono ?_
          rintro e w3 ⟨rfl, hb3⟩
          have Kg3 := hide (Kg2.out.keep hb3)
          have Ka3 := hide (Ka2.out.keep hb3)
          have Kb3 := hide (Kb2.out.keep hb3)
          have B3 := hide (B2.out.trans (hb3.mono B2.out.size))
          clear hb3 Kg2 Ka2 Kb2 B2
          go_upto_region 13 with (refine wpList_store_blk rfl 35 (.tmp 2) (.tmp 46) rfl g (FD.cs none 0 0) ((Fr.start 1 f s 0).cs none 0 0) 35 rfl rfl Kg3.out rfr_sz rfl (Fr.cs_one _ _ _ _) ?_)
          have Kg4 := hide (Kg3.out.row (FD.cs none 0 0))
          have Ka4 := hide (Ka3.out.row_other NAG.out (FD.cs none 0 0))
          have Kb4 := hide (Kb3.out.row_other NBG.out (FD.cs none 0 0))
          have B4 := hide (below_setRow B3.out LG.out (FD.cs none 0 0))
          generalize w3.setRow g (FD.cs none 0 0) = w4 at Kg4 Ka4 Kb4 B4 ⊢
          clear Kg3 Ka3 Kb3 B3
          obtain ⟨zz, hzz⟩ : ∃ zz, zz = z.extract 5 z.size := ⟨_, rfl⟩
          rw [← hzz] at HRV
          go_upto_region 14 with (fail)
          rw [← hzz]
          clear hzz
          have d3 := (Kg4.out.cell 3).trans (show (FD.cs none 0 0)[3]? = some (.string (FD).data) from rfl)
          have z3 := Kg4.out.frozen 3
          go_upto_region 15 with (fail)
          clear d3 z3
          have Kg5 := hide (show BlkIs (w4.setCell ⟨g, 3, none⟩ (.string zz)) g _ (({ FD with data := zz } : Fr).cs none 0 0) from Kg4.out.put 3 (.string zz))
          have Ka5 := hide (Ka4.out.far (p := ⟨g, 3, none⟩) (Ne.symm Nga.out) (.string zz))
          have Kb5 := hide (Kb4.out.far (p := ⟨g, 3, none⟩) (Ne.symm Ngb.out) (.string zz))
          have B5 := hide (B4.out.setCell (p := ⟨g, 3, none⟩) Lg.out (.string zz))
          generalize w4.setCell ⟨g, 3, none⟩ (.string zz) = w5 at Kg5 Ka5 Kb5 B5 ⊢
          clear Kg4 Ka4 Kb4 B4
          go_wp2_with (first
            | (refine wpList_load_blk rfl 35 (.tmp 2) rfl g rfl 35 (({ FD with data := zz } : Fr).cs none 0 0) _ Kg5.out Try.underlying35 rfl rfr_sz ?_)
            | (refine wpList_store_blk rfl 35 (.tmp 4) (.tmp 51) rfl a (({ FD with data := zz } : Fr).cs none 0 0) (Fr.zero.cs none 0 0) 35 rfl rfl Ka5.out rfr_sz rfl (Fr.cs_one _ _ _ _) ?_)
            | (refine wpList_store_blk rfl 37 (.tmp 5) (.tmp 52) rfl b #[.int .i64 0, .int .i64 0] #[.int .i64 0, .int .i64 0] 37 rfl rfl (Kb5.out.row_other (Kb5.out.ne_ Ka5.out (by decide)) _) rfa_size rfl (fa_one _ _ rfl rfl) ?_))
          have hd := rr_done ⟨({ FD with data := zz } : Fr), [], 0, 0⟩ none 0 Ka5.out Kb5.out (i64_no16 0) (i64_no16 0) B5.out LA.out LB.out (PL.none_ _)
          rw [HRV.out]
          exact bodyPost_ret (results_rffa rfl _ _ a b ({ FD with data := zz } : Fr) none 0 0 _ _ rfl rfl hd.1 hd.2.1) rfl hd.2.2
  | true =>
    have HB0 := hide (show bodyR t f (bts x) = ((bts x).drop 1).take ((bts x).length - 1 - ((bts x).getD 0 0).toNat) by rw [bodyR, hPP]; rfl)
    have HP0 := hide (show padR t f (bts x) = (bts x).getD 0 0 by rw [padR, hPP]; rfl)
    clear hPP
    have hxl := bts_len x
    by_cases h0 : x.size = 0
    · obtain rfl := ba_empty h0
      have HRV := hide (show RV = Rd.fault 6 0 from HRD.out.trans (if_pos ⟨rfl, rfl⟩))
      clear h0 hxl HRD
      go_wp2_with (first
        | (refine wpList_store_blk rfl 35 (.tmp 4) (.tmp 10) rfl a (Fr.zero.cs none 0 0) (Fr.zero.cs none 0 0) 35 rfl rfl Ka1.out rfr_sz rfl (Fr.cs_one _ _ _ _) ?_)
        | (refine wpList_store_blk rfl 37 (.tmp 5) (.tmp 11) rfl b #[.int .i64 6, .int .i64 0] #[.int .i64 0, .int .i64 0] 37 rfl rfl (Kb1.out.row_other (Kb1.out.ne_ Ka1.out (by decide)) _) rfa_size rfl (fa_one _ _ rfl rfl) ?_))
      have hd := rr_done (Rd.fault 6 0) none 0 Ka1.out Kb1.out (i64_no16 0) (i64_no16 0) B1.out LA.out LB.out (PL.none_ _)
      rw [HRV.out]
      exact bodyPost_ret (results_rffa rfl _ _ a b Fr.zero none 0 0 _ _ rfl rfl hd.1 hd.2.1) rfl hd.2.2
    · have hp0 : 0 < x.size := by omega
      have hge := bts_get x 0 hp0
      obtain ⟨q0_, q1_⟩ := byte_bd x[0]
      have hne : x.toList.isEmpty = false := by rw [is_empty]; exact decide_eq_false (by omega)
      have h1i : (1 : Int) ≤ (x.size : Int) := by omega
      have hxs := hide (bts_drop x 1)
      have hsz1 : (x.extract 1 x.size).size = x.size - 1 := by rw [← bts_len, bts_drop, List.length_drop, bts_len]
      by_cases hbad : ((bts x).length : Int) - 1 < (bts x).getD 0 0
      · have HRV := hide (show RV = Rd.fault 1 0 from HRD.out.trans ((if_neg (by rw [hxl]; simp [h0])).trans (if_pos ⟨rfl, hbad⟩)))
        rw [hge, hxl] at hbad
        have hlt : x.size - 1 < x[0].toNat := by omega
        clear HRD hbad hge hxl h0 hsz1 HB0 HP0
        have g4 := (Kg1.out.cell 4).trans (show ((Fr.start t f s 0).cs none 0 0)[4]? = some (.int .i64 0) from rfl)
        have z4 := Kg1.out.frozen 4
        go_upto_region 5 with (fail)
        clear g4 z4
        have Kg2 := hide (show BlkIs (w1.setCell ⟨g, 4, none⟩ (.int .i64 (x[0].toNat : Int))) g _ ((Fr.start t f s (x[0].toNat : Int)).cs none 0 0) from Kg1.out.put 4 (.int .i64 (x[0].toNat : Int)))
        have Ka2 := hide (Ka1.out.far (p := ⟨g, 4, none⟩) (Ne.symm Nga.out) (.int .i64 (x[0].toNat : Int)))
        have Kb2 := hide (Kb1.out.far (p := ⟨g, 4, none⟩) (Ne.symm Ngb.out) (.int .i64 (x[0].toNat : Int)))
        have B2 := hide (B1.out.setCell (p := ⟨g, 4, none⟩) Lg.out (.int .i64 (x[0].toNat : Int)))
        generalize w1.setCell ⟨g, 4, none⟩ (.int .i64 (x[0].toNat : Int)) = w2 at Kg2 Ka2 Kb2 B2 ⊢
        clear Kg1 Ka1 Kb1 B1
        have g4 := (Kg2.out.cell 4).trans (show ((Fr.start t f s (x[0].toNat : Int)).cs none 0 0)[4]? = some (.int .i64 (x[0].toNat : Int)) from rfl)
        go_wp2_with (first
          | (refine wpList_store_blk rfl 35 (.tmp 4) (.tmp 23) rfl a (Fr.zero.cs none 0 0) (Fr.zero.cs none 0 0) 35 rfl rfl Ka2.out rfr_sz rfl (Fr.cs_one _ _ _ _) ?_)
          | (refine wpList_store_blk rfl 37 (.tmp 5) (.tmp 24) rfl b #[.int .i64 1, .int .i64 0] #[.int .i64 0, .int .i64 0] 37 rfl rfl (Kb2.out.row_other (Kb2.out.ne_ Ka2.out (by decide)) _) rfa_size rfl (fa_one _ _ rfl rfl) ?_))
        have hd := rr_done (Rd.fault 1 0) none 0 Ka2.out Kb2.out (i64_no16 0) (i64_no16 0) B2.out LA.out LB.out (PL.none_ _)
        rw [HRV.out]
        exact bodyPost_ret (results_rffa rfl _ _ a b Fr.zero none 0 0 _ _ rfl rfl hd.1 hd.2.1) rfl hd.2.2
      · have HR2 := hide (HRD.out.trans ((if_neg (by rw [hxl]; simp [h0])).trans ((if_neg (fun h => hbad h.2)).trans (rd01 ht))))
        rw [HB0.out, HP0.out, hge, hxl] at HR2
        rw [hge, hxl] at hbad
        have hlt : ¬ x.size - 1 < x[0].toNat := by omega
        clear HRD hge hxl h0 HB0 HP0
        have g4 := (Kg1.out.cell 4).trans (show ((Fr.start t f s 0).cs none 0 0)[4]? = some (.int .i64 0) from rfl)
        have z4 := Kg1.out.frozen 4
        go_upto_region 5 with (fail)
        clear g4 z4
        have Kg2 := hide (show BlkIs (w1.setCell ⟨g, 4, none⟩ (.int .i64 (x[0].toNat : Int))) g _ ((Fr.start t f s (x[0].toNat : Int)).cs none 0 0) from Kg1.out.put 4 (.int .i64 (x[0].toNat : Int)))
        have Ka2 := hide (Ka1.out.far (p := ⟨g, 4, none⟩) (Ne.symm Nga.out) (.int .i64 (x[0].toNat : Int)))
        have Kb2 := hide (Kb1.out.far (p := ⟨g, 4, none⟩) (Ne.symm Ngb.out) (.int .i64 (x[0].toNat : Int)))
        have B2 := hide (B1.out.setCell (p := ⟨g, 4, none⟩) Lg.out (.int .i64 (x[0].toNat : Int)))
        generalize w1.setCell ⟨g, 4, none⟩ (.int .i64 (x[0].toNat : Int)) = w2 at Kg2 Ka2 Kb2 B2 ⊢
        clear Kg1 Ka1 Kb1 B1
        have g4 := (Kg2.out.cell 4).trans (show ((Fr.start t f s (x[0].toNat : Int)).cs none 0 0)[4]? = some (.int .i64 (x[0].toNat : Int)) from rfl)
        obtain ⟨DD, hDD⟩ : ∃ DD : Nat, DD = x.size - 1 - x[0].toNat := ⟨_, rfl⟩
        have hDi : ((x.size - 1 : Nat) : Int) - (x[0].toNat : Int) = (DD : Int) := by omega
        have hDj : (DD : Int) ≤ ((x.size - 1 : Nat) : Int) := by omega
        have hDk : IntKind.i64.wrap (((x.size - 1 : Nat) : Int) - (x[0].toNat : Int)) = (DD : Int) := by rw [IntWalk.i64_in _ (by omega)]; exact hDi
        rw [show ((x[0].toNat : Int).toNat) = x[0].toNat by omega, ← hDD] at HR2
        go_upto_region 9 with (fail)
        obtain ⟨z, hz⟩ : ∃ z, z = (x.extract 1 x.size).extract 0 DD := ⟨_, rfl⟩
        obtain ⟨ys, hys⟩ : ∃ ys, ys = ((bts x).drop 1).take DD := ⟨_, rfl⟩
        have HZ := hide (show bts z = ys by rw [hz, hys, bts_extract, bts_drop]; simp)
        rw [← hys] at HR2
        rw [← hDD, ← hz]
        clear hz hys hDi hDj hDk hDD hlt hbad hsz1 g4 hne
        generalize (x[0].toNat : Int) = pd at *
        have g0 := (Kg2.out.cell 0).trans (show ((Fr.start t f s pd).cs none 0 0)[0]? = some (.int .u8 t) from rfl)
        rcases ht with rfl | rfl
        · obtain ⟨zz, hzz⟩ : ∃ zz, zz = z := ⟨_, rfl⟩
          have hD : shD 0 f = false := by rfl
          have HRV := hide (HR2.out.trans (by rw [hD, if_neg (by simp)]))
          rw [show cutB false 5 ys = ys from rfl, show fillD false (Fr.start 0 f s pd) ys = Fr.start 0 f s pd from rfl, ← HZ.out, str_bts, ← hzz] at HRV
          rw [← hzz]
          clear HZ HR2 hD hzz
          have d3 := (Kg2.out.cell 3).trans (show ((Fr.start 0 f s pd).cs none 0 0)[3]? = some (.string ((Fr.start 0 f s pd)).data) from rfl)
          have z3 := Kg2.out.frozen 3
          go_upto_region 15 with (fail)
          clear d3 z3
          have Kg3 := hide (show BlkIs (w2.setCell ⟨g, 3, none⟩ (.string zz)) g _ (({ (Fr.start 0 f s pd) with data := zz } : Fr).cs none 0 0) from Kg2.out.put 3 (.string zz))
          have Ka3 := hide (Ka2.out.far (p := ⟨g, 3, none⟩) (Ne.symm Nga.out) (.string zz))
          have Kb3 := hide (Kb2.out.far (p := ⟨g, 3, none⟩) (Ne.symm Ngb.out) (.string zz))
          have B3 := hide (B2.out.setCell (p := ⟨g, 3, none⟩) Lg.out (.string zz))
          generalize w2.setCell ⟨g, 3, none⟩ (.string zz) = w3 at Kg3 Ka3 Kb3 B3 ⊢
          clear Kg2 Ka2 Kb2 B2
          go_wp2_with (first
            | (refine wpList_load_blk rfl 35 (.tmp 2) rfl g rfl 35 (({ (Fr.start 0 f s pd) with data := zz } : Fr).cs none 0 0) _ Kg3.out Try.underlying35 rfl rfr_sz ?_)
            | (refine wpList_store_blk rfl 35 (.tmp 4) (.tmp 51) rfl a (({ (Fr.start 0 f s pd) with data := zz } : Fr).cs none 0 0) (Fr.zero.cs none 0 0) 35 rfl rfl Ka3.out rfr_sz rfl (Fr.cs_one _ _ _ _) ?_)
            | (refine wpList_store_blk rfl 37 (.tmp 5) (.tmp 52) rfl b #[.int .i64 0, .int .i64 0] #[.int .i64 0, .int .i64 0] 37 rfl rfl (Kb3.out.row_other (Kb3.out.ne_ Ka3.out (by decide)) _) rfa_size rfl (fa_one _ _ rfl rfl) ?_))
          have hd := rr_done ⟨({ (Fr.start 0 f s pd) with data := zz } : Fr), [], 0, 0⟩ none 0 Ka3.out Kb3.out (i64_no16 0) (i64_no16 0) B3.out LA.out LB.out (PL.none_ _)
          rw [HRV.out]
          exact bodyPost_ret (results_rffa rfl _ _ a b ({ (Fr.start 0 f s pd) with data := zz } : Fr) none 0 0 _ _ rfl rfl hd.1 hd.2.1) rfl hd.2.2
        · have HHas := hide (fun w => rg_has (Fr.start 1 f s pd) none 0 0 f0 f1 32 (by omega) w)
          have hD : shD 1 f = hasB f 32 := by simp [shD]
          rw [show (((Fr.start 1 f s pd) : Fr).fl) = f from rfl, show ((32 : Nat) : Int) = 32 from rfl, ← hD] at HHas
          clear hD
          go_wp2_with (refine wpList_load_want (by rfl) 35 (.tmp 2) rfl g rfl 35 ((Fr.start 1 f s pd).cs none 0 0) _ Kg2.out Try.underlying35 rfl rfr_sz ?_)
          clear g0
          refine (HHas.out _).mono ?_
          rintro e w3 ⟨rfl, hb3⟩
          have Kg3 := hide (Kg2.out.keep hb3)
          have Ka3 := hide (Ka2.out.keep hb3)
          have Kb3 := hide (Kb2.out.keep hb3)
          have B3 := hide (B2.out.trans (hb3.mono B2.out.size))
          clear hb3 Kg2 Ka2 Kb2 B2
          generalize shD 1 f = D at *
          cases D with
          | false =>
            obtain ⟨zz, hzz⟩ : ∃ zz, zz = z := ⟨_, rfl⟩
            have HRV := hide (HR2.out.trans (by rw [if_neg (by simp)]))
            rw [show cutB false 5 ys = ys from rfl, show fillD false (Fr.start 1 f s pd) ys = Fr.start 1 f s pd from rfl, ← HZ.out, str_bts, ← hzz] at HRV
            rw [← hzz]
            clear HZ HR2 hzz
            have d3 := (Kg3.out.cell 3).trans (show ((Fr.start 1 f s pd).cs none 0 0)[3]? = some (.string ((Fr.start 1 f s pd)).data) from rfl)
            have z3 := Kg3.out.frozen 3
            go_upto_region 15 with (fail)
            clear d3 z3
            have Kg4 := hide (show BlkIs (w3.setCell ⟨g, 3, none⟩ (.string zz)) g _ (({ (Fr.start 1 f s pd) with data := zz } : Fr).cs none 0 0) from Kg3.out.put 3 (.string zz))
            have Ka4 := hide (Ka3.out.far (p := ⟨g, 3, none⟩) (Ne.symm Nga.out) (.string zz))
            have Kb4 := hide (Kb3.out.far (p := ⟨g, 3, none⟩) (Ne.symm Ngb.out) (.string zz))
            have B4 := hide (B3.out.setCell (p := ⟨g, 3, none⟩) Lg.out (.string zz))
            generalize w3.setCell ⟨g, 3, none⟩ (.string zz) = w4 at Kg4 Ka4 Kb4 B4 ⊢
            clear Kg3 Ka3 Kb3 B3
            go_wp2_with (first
              | (refine wpList_load_blk rfl 35 (.tmp 2) rfl g rfl 35 (({ (Fr.start 1 f s pd) with data := zz } : Fr).cs none 0 0) _ Kg4.out Try.underlying35 rfl rfr_sz ?_)
              | (refine wpList_store_blk rfl 35 (.tmp 4) (.tmp 51) rfl a (({ (Fr.start 1 f s pd) with data := zz } : Fr).cs none 0 0) (Fr.zero.cs none 0 0) 35 rfl rfl Ka4.out rfr_sz rfl (Fr.cs_one _ _ _ _) ?_)
              | (refine wpList_store_blk rfl 37 (.tmp 5) (.tmp 52) rfl b #[.int .i64 0, .int .i64 0] #[.int .i64 0, .int .i64 0] 37 rfl rfl (Kb4.out.row_other (Kb4.out.ne_ Ka4.out (by decide)) _) rfa_size rfl (fa_one _ _ rfl rfl) ?_))
            have hd := rr_done ⟨({ (Fr.start 1 f s pd) with data := zz } : Fr), [], 0, 0⟩ none 0 Ka4.out Kb4.out (i64_no16 0) (i64_no16 0) B4.out LA.out LB.out (PL.none_ _)
            rw [HRV.out]
            exact bodyPost_ret (results_rffa rfl _ _ a b ({ (Fr.start 1 f s pd) with data := zz } : Fr) none 0 0 _ _ rfl rfl hd.1 hd.2.1) rfl hd.2.2
          | true =>
            have hzl : z.size = ys.length := by rw [← bts_len, HZ.out]
            by_cases h5 : ys.length < 5
            · have HRV := hide (HR2.out.trans (if_pos ⟨rfl, h5⟩))
              have h5i : (z.size : Int) < 5 := by omega
              clear HR2 h5 hzl
              go_wp2_with (first
                | (refine wpList_store_blk rfl 35 (.tmp 4) (.tmp 42) rfl a (Fr.zero.cs none 0 0) (Fr.zero.cs none 0 0) 35 rfl rfl Ka3.out rfr_sz rfl (Fr.cs_one _ _ _ _) ?_)
                | (refine wpList_store_blk rfl 37 (.tmp 5) (.tmp 43) rfl b #[.int .i64 6, .int .i64 0] #[.int .i64 0, .int .i64 0] 37 rfl rfl (Kb3.out.row_other (Kb3.out.ne_ Ka3.out (by decide)) _) rfa_size rfl (fa_one _ _ rfl rfl) ?_))
              have hd := rr_done (Rd.fault 6 0) none 0 Ka3.out Kb3.out (i64_no16 0) (i64_no16 0) B3.out LA.out LB.out (PL.none_ _)
              rw [HRV.out]
              exact bodyPost_ret (results_rffa rfl _ _ a b Fr.zero none 0 0 _ _ rfl rfl hd.1 hd.2.1) rfl hd.2.2
            · have HRV := hide (HR2.out.trans (if_neg (fun h => h5 h.2)))
              have h5i : ¬ (z.size : Int) < 5 := by omega
              have h5j : (5 : Int) ≤ (z.size : Int) := by omega
              have HW := hide (fun w => rg_weigh (Fr.start 1 f s pd) none 0 0 z (by omega) w)
              rw [HZ.out] at HW
              have HZX := hide (show bts (z.extract 5 z.size) = ys.drop 5 by rw [bts_drop, HZ.out])
              rw [show cutB true 5 ys = ys.drop 5 from rfl, ← HZX.out, str_bts] at HRV
              clear HR2 h5 hzl HZ HZX
              generalize fillD true (Fr.start 1 f s pd) ys = FD at *
              go_wp2_with (refine wpList_load_blk rfl 35 (.tmp 2) rfl g rfl 35 ((Fr.start 1 f s pd).cs none 0 0) _ Kg3.out Try.underlying35 rfl rfr_sz ?_)
              refine (HW.out _).mono ?_
              rintro e w4 ⟨rfl, hb4⟩
              have Kg4 := hide (Kg3.out.keep hb4)
              have Ka4 := hide (Ka3.out.keep hb4)
              have Kb4 := hide (Kb3.out.keep hb4)
              have B4 := hide (B3.out.trans (hb4.mono B3.out.size))
              clear hb4 Kg3 Ka3 Kb3 B3
              go_upto_region 13 with (refine wpList_store_blk rfl 35 (.tmp 2) (.tmp 46) rfl g (FD.cs none 0 0) ((Fr.start 1 f s pd).cs none 0 0) 35 rfl rfl Kg4.out rfr_sz rfl (Fr.cs_one _ _ _ _) ?_)
              have Kg5 := hide (Kg4.out.row (FD.cs none 0 0))
              have Ka5 := hide (Ka4.out.row_other NAG.out (FD.cs none 0 0))
              have Kb5 := hide (Kb4.out.row_other NBG.out (FD.cs none 0 0))
              have B5 := hide (below_setRow B4.out LG.out (FD.cs none 0 0))
              generalize w4.setRow g (FD.cs none 0 0) = w5 at Kg5 Ka5 Kb5 B5 ⊢
              clear Kg4 Ka4 Kb4 B4
              obtain ⟨zz, hzz⟩ : ∃ zz, zz = z.extract 5 z.size := ⟨_, rfl⟩
              rw [← hzz] at HRV
              go_upto_region 14 with (fail)
              rw [← hzz]
              clear hzz
              have d3 := (Kg5.out.cell 3).trans (show (FD.cs none 0 0)[3]? = some (.string (FD).data) from rfl)
              have z3 := Kg5.out.frozen 3
              go_upto_region 15 with (fail)
              clear d3 z3
              have Kg6 := hide (show BlkIs (w5.setCell ⟨g, 3, none⟩ (.string zz)) g _ (({ FD with data := zz } : Fr).cs none 0 0) from Kg5.out.put 3 (.string zz))
              have Ka6 := hide (Ka5.out.far (p := ⟨g, 3, none⟩) (Ne.symm Nga.out) (.string zz))
              have Kb6 := hide (Kb5.out.far (p := ⟨g, 3, none⟩) (Ne.symm Ngb.out) (.string zz))
              have B6 := hide (B5.out.setCell (p := ⟨g, 3, none⟩) Lg.out (.string zz))
              generalize w5.setCell ⟨g, 3, none⟩ (.string zz) = w6 at Kg6 Ka6 Kb6 B6 ⊢
              clear Kg5 Ka5 Kb5 B5
              go_wp2_with (first
                | (refine wpList_load_blk rfl 35 (.tmp 2) rfl g rfl 35 (({ FD with data := zz } : Fr).cs none 0 0) _ Kg6.out Try.underlying35 rfl rfr_sz ?_)
                | (refine wpList_store_blk rfl 35 (.tmp 4) (.tmp 51) rfl a (({ FD with data := zz } : Fr).cs none 0 0) (Fr.zero.cs none 0 0) 35 rfl rfl Ka6.out rfr_sz rfl (Fr.cs_one _ _ _ _) ?_)
                | (refine wpList_store_blk rfl 37 (.tmp 5) (.tmp 52) rfl b #[.int .i64 0, .int .i64 0] #[.int .i64 0, .int .i64 0] 37 rfl rfl (Kb6.out.row_other (Kb6.out.ne_ Ka6.out (by decide)) _) rfa_size rfl (fa_one _ _ rfl rfl) ?_))
              have hd := rr_done ⟨({ FD with data := zz } : Fr), [], 0, 0⟩ none 0 Ka6.out Kb6.out (i64_no16 0) (i64_no16 0) B6.out LA.out LB.out (PL.none_ _)
              rw [HRV.out]
              exact bodyPost_ret (results_rffa rfl _ _ a b ({ FD with data := zz } : Fr) none 0 0 _ _ rfl rfl hd.1 hd.2.1) rfl hd.2.2
end Go.Proofs.Ytefdhbljcnpggaa
