/-
  Layer 9: the document's reading (Read): the walk (RST_STREAM, PING and unknown ones, WINDOW_UPDATE).
-/
import Derived.Test.YtefdhbljcnpggaaRfRead0
import Derived.BigGuardPart
namespace Go.Proofs.Ytefdhbljcnpggaa
open Go.RowKit

set_option maxRecDepth 100000 in
set_option maxHeartbeats 3200000 in
theorem rg_Read_3 (ln f s : Int) (hm : misB 3 s = false) (f0 : 0 ≤ f) (f1 : f ≤ 255) (x : ByteArray) (hx : (x.size : Int) ≤ 600000) (w : World) :
    Calls Try.prog 10 #[.agg #[.int .i64 ln, .int .u8 3, .int .u8 f, .int .i64 s], .string x] w (GivesRr (readR 3 f s (bts x)) w) := by
  have HRD := hide (rr3 (f := f) (xs := bts x) (by omega) hm (by kernel_rfl))
  have HSZ := hide (fun w => rg_sized (Fr.start 3 f s 0) none 0 0 (by show (0:Int) ≤ 3; omega) f0 f1 (x.size : Int) (by omega) hx w)
  rw [show sizB (Fr.start 3 f s 0).ty (Fr.start 3 f s 0).fl (x.size : Int) = sizB 3 f (x.size : Int) from rfl] at HSZ
  rw [bts_len] at HRD
  obtain ⟨RV, hRV⟩ : ∃ RV, RV = readR 3 f s (bts x) := ⟨_, rfl⟩
  rw [← hRV] at HRD ⊢
  clear hRV
  obtain ⟨SZ, hSZ⟩ : ∃ SZ, SZ = sizB 3 f (x.size : Int) := ⟨_, rfl⟩
  rw [← hSZ] at HRD HSZ
  have HM := hide (fun w => rg_wrong 3 s (by omega) w)
  rw [hm] at HM
  have HS := hide (rg_start w ln 3 f s)
  go_enter Try.func10, Try.ntmps10
  go_upto_region 1 with (fail)
  obtain ⟨k1_, k2_, k3_, k4_⟩ := HS.out
  generalize ((w.alloc (.cells #[.int .i64 ln, .int .u8 3, .int .u8 f, .int .i64 s] 23)).alloc (.cells #[.int .u8 0, .int .u8 0, .int .i64 0, .string ⟨#[]⟩, .int .i64 0, .int .i64 0, .bool false, .int .u8 0, .int .u32 0, .int .i64 0, .int .i64 0, .slice none 0 0] 35)).alloc (.cells #[.int .i64 0, .int .i64 0] 37) = w0 at k1_ k2_ k3_ k4_ ⊢
  obtain ⟨h, hh⟩ : ∃ h, h = w.heap.size := ⟨_, rfl⟩
  rw [← hh] at k1_ k2_ k3_ ⊢
  obtain ⟨b, hb⟩ : ∃ b, b = h + 1 + 1 := ⟨_, rfl⟩
  rw [← hb] at k3_ ⊢
  obtain ⟨a, ha⟩ : ∃ a, a = h + 1 := ⟨_, rfl⟩
  rw [← ha] at k2_ ⊢
  have LA := hide (show w.heap.size ≤ a by omega)
  have LB := hide (show w.heap.size ≤ b by omega)
  have Nha := hide (show h ≠ a by omega)
  have Nhb := hide (show h ≠ b by omega)
  have Nab := hide (show a ≠ b by omega)
  have KH := hide k1_
  have KA := hide k2_
  have KB := hide k3_
  have B0 := hide k4_
  clear k1_ k2_ k3_ k4_ hh ha hb HS
  obtain ⟨k0, k1, k2, k3⟩ := hd_cells KH.out
  go_upto_region 2 with (refine wpList_store_new rfl 35 (.tmp 6) (.tmp 14) ((Fr.start 3 f s 0).cs none 0 0) #[.int .u8 0, .int .u8 0, .int .i64 0, .string ⟨#[]⟩, .int .i64 0, .int .i64 0, .bool false, .int .u8 0, .int .u32 0, .int .i64 0, .int .i64 0, .slice none 0 0] 35 rfl rfl rfr_sz rfl (Fr.cs_one _ _ _ _) ?_)
  clear k0 k1 k2 k3
  have KN1 := hide (BlkIs.new w0 35 #[.int .u8 3, .int .u8 f, .int .i64 s, .string ⟨#[]⟩, .int .i64 0, .int .i64 0, .bool false, .int .u8 0, .int .u32 0, .int .i64 0, .int .i64 0, .slice none 0 0])
  obtain ⟨g, hg⟩ : ∃ g, g = w0.heap.size := ⟨_, rfl⟩
  have Lg := hide (show w.heap.size ≤ g by rw [hg]; exact B0.out.size)
  have Nhg := hide (show h ≠ g by have := KH.out.lt; omega)
  have Nag := hide (show a ≠ g by have := KA.out.lt; omega)
  have Nbg := hide (show b ≠ g by have := KB.out.lt; omega)
  have Kh1 := hide (KH.out.alloc (.cells #[.int .u8 3, .int .u8 f, .int .i64 s, .string ⟨#[]⟩, .int .i64 0, .int .i64 0, .bool false, .int .u8 0, .int .u32 0, .int .i64 0, .int .i64 0, .slice none 0 0] 35))
  have Ka1 := hide (KA.out.alloc (.cells #[.int .u8 3, .int .u8 f, .int .i64 s, .string ⟨#[]⟩, .int .i64 0, .int .i64 0, .bool false, .int .u8 0, .int .u32 0, .int .i64 0, .int .i64 0, .slice none 0 0] 35))
  have Kb1 := hide (KB.out.alloc (.cells #[.int .u8 3, .int .u8 f, .int .i64 s, .string ⟨#[]⟩, .int .i64 0, .int .i64 0, .bool false, .int .u8 0, .int .u32 0, .int .i64 0, .int .i64 0, .slice none 0 0] 35))
  have B1 := hide (B0.out.alloc B0.out.size (.cells #[.int .u8 3, .int .u8 f, .int .i64 s, .string ⟨#[]⟩, .int .i64 0, .int .i64 0, .bool false, .int .u8 0, .int .u32 0, .int .i64 0, .int .i64 0, .slice none 0 0] 35))
  rw [← hg] at KN1 ⊢
  generalize w0.alloc (.cells #[.int .u8 3, .int .u8 f, .int .i64 s, .string ⟨#[]⟩, .int .i64 0, .int .i64 0, .bool false, .int .u8 0, .int .u32 0, .int .i64 0, .int .i64 0, .slice none 0 0] 35) = w1 at Kh1 Ka1 Kb1 B1 KN1 ⊢
  clear hg KH KA KB B0
  have KG := hide (show BlkIs w1 g 35 ((Fr.start 3 f s 0).cs none 0 0) from KN1.out)
  clear KN1
  obtain ⟨k0, k1, k2, k3⟩ := hd_cells Kh1.out
  go_wp2_with fail
  clear k0 k1 k2 k3
  refine (HM.out _).mono ?_
  rintro e w2 ⟨rfl, hb2⟩
  have Kh2 := hide (Kh1.out.keep hb2)
  have Ka2 := hide (Ka1.out.keep hb2)
  have Kb2 := hide (Kb1.out.keep hb2)
  have Kg2 := hide (KG.out.keep hb2)
  have B2 := hide (B1.out.trans (hb2.mono B1.out.size))
  clear hb2 Kh1 Ka1 Kb1 KG B1
  obtain ⟨k0, k1, k2, k3⟩ := hd_cells Kh2.out
  go_wp2_with (refine wpList_load_blk rfl 35 (.tmp 6) rfl g rfl 35 ((Fr.start 3 f s 0).cs none 0 0) _ Kg2.out Try.underlying35 rfl rfr_sz ?_)
  clear k0 k1 k2 k3
  refine (HSZ.out _).mono ?_
  rintro e w3 ⟨rfl, hb3⟩
  have Kh3 := hide (Kh2.out.keep hb3)
  have Ka3 := hide (Ka2.out.keep hb3)
  have Kb3 := hide (Kb2.out.keep hb3)
  have Kg3 := hide (Kg2.out.keep hb3)
  have B3 := hide (B2.out.trans (hb3.mono B2.out.size))
  clear hb3 Kh2 Ka2 Kb2 Kg2 B2
  clear HSZ
  cases SZ with
  | true =>
    have HRV := hide (HRD.out.trans (if_pos rfl))
    clear hSZ HRD
    go_wp2_with (first
      | (refine wpList_store_blk rfl 35 (.tmp 4) (.tmp 50) rfl a (Fr.zero.cs none 0 0) (Fr.zero.cs none 0 0) 35 rfl rfl Ka3.out rfr_sz rfl (Fr.cs_one _ _ _ _) ?_)
      | (refine wpList_store_blk rfl 37 (.tmp 5) (.tmp 51) rfl b #[.int .i64 6, .int .i64 0] #[.int .i64 0, .int .i64 0] 37 rfl rfl (Kb3.out.row_other (Kb3.out.ne_ Ka3.out (by decide)) _) rfa_size rfl (fa_one _ _ rfl rfl) ?_))
    have hd := rr_done (Rd.fault 6 0) none 0 Ka3.out Kb3.out (i64_no16 0) (i64_no16 0) B3.out LA.out LB.out (PL.none_ _)
    rw [HRV.out]
    exact bodyPost_ret (results_rffa rfl _ _ a b Fr.zero none 0 0 _ _ rfl rfl hd.1 hd.2.1) rfl hd.2.2
  | false =>
    have HRV := hide (HRD.out.trans (if_neg (by simp)))
    clear HRD
    have h4 : x.size = 4 := by simp [sizB] at hSZ; omega
    have HNU := hide (fun w => rg_number x (by omega) w)
    have hbd := numL_bd 4 (bts x) (bts_all x)
    rw [List.take_of_length_le (by rw [bts_len]; omega)] at hbd
    rw [show fillF (shD 3 f) (shL 3) (shC 3) (shI 3) (shX 3) (Fr.start 3 f s 0) (bts x) = ({ Fr.start 3 f s 0 with code := numL ((bts x).take 4) } : Fr) from rfl, show prsR (shR 3 f) (bts x) (x.size / 6) = [] from rfl, List.take_of_length_le (by rw [bts_len]; omega)] at HRV
    generalize numL (bts x) = N at *
    have hN : IntKind.u32.wrap N = N := by rw [IntWalk.u32_in _ (by omega)]
    clear hSZ h4
    obtain ⟨k0, k1, k2, k3⟩ := hd_cells Kh3.out
    go_wp2_with fail
    clear k0 k1 k2 k3
    refine (HNU.out _).mono ?_
    rintro e w4 ⟨rfl, hb4⟩
    have Kh4 := hide (Kh3.out.keep hb4)
    have Ka4 := hide (Ka3.out.keep hb4)
    have Kb4 := hide (Kb3.out.keep hb4)
    have Kg4 := hide (Kg3.out.keep hb4)
    have B4 := hide (B3.out.trans (hb4.mono B3.out.size))
    clear hb4 Kh3 Ka3 Kb3 Kg3 B3
    have g8 := (Kg4.out.cell 8).trans (show ((Fr.start 3 f s 0).cs none 0 0)[8]? = some (.int .u32 0) from rfl)
    have z8 := Kg4.out.frozen 8
    go_upto_region 27 with (fail)
    clear g8 z8
    have Kh5 := hide (Kh4.out.far (p := ⟨g, 8, none⟩) Nhg.out (.int .u32 N))
    have Ka5 := hide (Ka4.out.far (p := ⟨g, 8, none⟩) Nag.out (.int .u32 N))
    have Kb5 := hide (Kb4.out.far (p := ⟨g, 8, none⟩) Nbg.out (.int .u32 N))
    have Kg5 := hide (show BlkIs (w4.setCell ⟨g, 8, none⟩ (.int .u32 N)) g _ (({ Fr.start 3 f s 0 with code := N } : Fr).cs none 0 0) from Kg4.out.put 8 (.int .u32 N))
    have B5 := hide (B4.out.setCell (p := ⟨g, 8, none⟩) Lg.out (.int .u32 N))
    generalize w4.setCell ⟨g, 8, none⟩ (.int .u32 N) = w5 at Kh5 Ka5 Kb5 Kg5 B5 ⊢
    clear Kh4 Ka4 Kb4 Kg4 B4
    go_wp2_with (first
      | (refine wpList_load_blk rfl 35 (.tmp 6) rfl g rfl 35 (({ Fr.start 3 f s 0 with code := N } : Fr).cs none 0 0) _ Kg5.out Try.underlying35 rfl rfr_sz ?_)
      | (refine wpList_store_blk rfl 35 (.tmp 4) (.tmp 122) rfl a (({ Fr.start 3 f s 0 with code := N } : Fr).cs none 0 0) (Fr.zero.cs none 0 0) 35 rfl rfl Ka5.out rfr_sz rfl (Fr.cs_one _ _ _ _) ?_)
      | (refine wpList_store_blk rfl 37 (.tmp 5) (.tmp 123) rfl b #[.int .i64 0, .int .i64 0] #[.int .i64 0, .int .i64 0] 37 rfl rfl (Kb5.out.row_other (Kb5.out.ne_ Ka5.out (by decide)) _) rfa_size rfl (fa_one _ _ rfl rfl) ?_))
    have hd := rr_done ⟨({ Fr.start 3 f s 0 with code := N } : Fr), [], 0, 0⟩ none 0 Ka5.out Kb5.out (i64_no16 0) (i64_no16 0) B5.out LA.out LB.out (PL.none_ _)
    rw [HRV.out]
    exact bodyPost_ret (results_rffa rfl _ _ a b ({ Fr.start 3 f s 0 with code := N } : Fr) none 0 0 _ _ rfl rfl hd.1 hd.2.1) rfl hd.2.2

set_option maxRecDepth 100000 in
set_option maxHeartbeats 3200000 in
theorem rg_Read_d (ln t f s : Int) (ht : t = 6 ∨ 9 ≤ t) (hm : misB t s = false) (f0 : 0 ≤ f) (f1 : f ≤ 255) (x : ByteArray) (hx : (x.size : Int) ≤ 600000) (w : World) :
    Calls Try.prog 10 #[.agg #[.int .i64 ln, .int .u8 t, .int .u8 f, .int .i64 s], .string x] w (GivesRr (readR t f s (bts x)) w) := by
  have n0 : ¬ t ≤ 1 := by omega
  have n2 : ¬ t = 2 := by omega
  have n3 : ¬ t = 3 := by omega
  have n4 : ¬ t = 4 := by omega
  have n7 : ¬ t = 7 := by omega
  have n8 : ¬ t = 8 := by omega
  have b2 : (t == 2) = false := by simp [n2]
  have b3 : (t == 3) = false := by simp [n3]
  have b4 : (t == 4) = false := by simp [n4]
  have b7 : (t == 7) = false := by simp [n7]
  have b8 : (t == 8) = false := by simp [n8]
  have hI : shI t = false := by simp [shI, n8]
  have hF : fillF (shD t f) (shL t) (shC t) (shI t) (shX t) (Fr.start t f s 0) (bts x) = ({ Fr.start t f s 0 with data := x } : Fr) := by
    have n1 : ¬ t = 1 := by omega
    rw [show shD t f = false by simp [shD, n2, n1], show shL t = false by simp [shL, n7], show shC t = false by simp [shC, n3, n7], hI, show shX t = true by simp [shX, n2, n3, n4, n8]]
    show ({ Fr.start t f s 0 with data := strOfNums (bts x) } : Fr) = _
    rw [str_bts]
  have hQ : prsR (shR t f) (bts x) ((bts x).length / 6) = [] := by rw [show shR t f = false by simp [shR, n4]]; rfl
  have HRD := hide ((rr3 (f := f) (xs := bts x) (by omega) hm hI).trans (by rw [hF, hQ]))
  have HSZ := hide (fun w => rg_sized (Fr.start t f s 0) none 0 0 (by show (0:Int) ≤ t; omega) f0 f1 (x.size : Int) (by omega) hx w)
  rw [show sizB (Fr.start t f s 0).ty (Fr.start t f s 0).fl (x.size : Int) = sizB t f (x.size : Int) from rfl] at HSZ
  rw [bts_len] at HRD
  clear hF hQ hI
  obtain ⟨RV, hRV⟩ : ∃ RV, RV = readR t f s (bts x) := ⟨_, rfl⟩
  rw [← hRV] at HRD ⊢
  clear hRV
  obtain ⟨SZ, hSZ⟩ : ∃ SZ, SZ = sizB t f (x.size : Int) := ⟨_, rfl⟩
  rw [← hSZ] at HRD HSZ
  have HM := hide (fun w => rg_wrong t s (by omega) w)
  rw [hm] at HM
  have HS := hide (rg_start w ln t f s)
  go_enter Try.func10, Try.ntmps10
  go_upto_region 1 with (fail)
  obtain ⟨k1_, k2_, k3_, k4_⟩ := HS.out
  generalize ((w.alloc (.cells #[.int .i64 ln, .int .u8 t, .int .u8 f, .int .i64 s] 23)).alloc (.cells #[.int .u8 0, .int .u8 0, .int .i64 0, .string ⟨#[]⟩, .int .i64 0, .int .i64 0, .bool false, .int .u8 0, .int .u32 0, .int .i64 0, .int .i64 0, .slice none 0 0] 35)).alloc (.cells #[.int .i64 0, .int .i64 0] 37) = w0 at k1_ k2_ k3_ k4_ ⊢
  obtain ⟨h, hh⟩ : ∃ h, h = w.heap.size := ⟨_, rfl⟩
  rw [← hh] at k1_ k2_ k3_ ⊢
  obtain ⟨b, hb⟩ : ∃ b, b = h + 1 + 1 := ⟨_, rfl⟩
  rw [← hb] at k3_ ⊢
  obtain ⟨a, ha⟩ : ∃ a, a = h + 1 := ⟨_, rfl⟩
  rw [← ha] at k2_ ⊢
  have LA := hide (show w.heap.size ≤ a by omega)
  have LB := hide (show w.heap.size ≤ b by omega)
  have Nha := hide (show h ≠ a by omega)
  have Nhb := hide (show h ≠ b by omega)
  have Nab := hide (show a ≠ b by omega)
  have KH := hide k1_
  have KA := hide k2_
  have KB := hide k3_
  have B0 := hide k4_
  clear k1_ k2_ k3_ k4_ hh ha hb HS
  obtain ⟨k0, k1, k2, k3⟩ := hd_cells KH.out
  go_upto_region 2 with (refine wpList_store_new rfl 35 (.tmp 6) (.tmp 14) ((Fr.start t f s 0).cs none 0 0) #[.int .u8 0, .int .u8 0, .int .i64 0, .string ⟨#[]⟩, .int .i64 0, .int .i64 0, .bool false, .int .u8 0, .int .u32 0, .int .i64 0, .int .i64 0, .slice none 0 0] 35 rfl rfl rfr_sz rfl (Fr.cs_one _ _ _ _) ?_)
  clear k0 k1 k2 k3
  have KN1 := hide (BlkIs.new w0 35 #[.int .u8 t, .int .u8 f, .int .i64 s, .string ⟨#[]⟩, .int .i64 0, .int .i64 0, .bool false, .int .u8 0, .int .u32 0, .int .i64 0, .int .i64 0, .slice none 0 0])
  obtain ⟨g, hg⟩ : ∃ g, g = w0.heap.size := ⟨_, rfl⟩
  have Lg := hide (show w.heap.size ≤ g by rw [hg]; exact B0.out.size)
  have Nhg := hide (show h ≠ g by have := KH.out.lt; omega)
  have Nag := hide (show a ≠ g by have := KA.out.lt; omega)
  have Nbg := hide (show b ≠ g by have := KB.out.lt; omega)
  have Kh1 := hide (KH.out.alloc (.cells #[.int .u8 t, .int .u8 f, .int .i64 s, .string ⟨#[]⟩, .int .i64 0, .int .i64 0, .bool false, .int .u8 0, .int .u32 0, .int .i64 0, .int .i64 0, .slice none 0 0] 35))
  have Ka1 := hide (KA.out.alloc (.cells #[.int .u8 t, .int .u8 f, .int .i64 s, .string ⟨#[]⟩, .int .i64 0, .int .i64 0, .bool false, .int .u8 0, .int .u32 0, .int .i64 0, .int .i64 0, .slice none 0 0] 35))
  have Kb1 := hide (KB.out.alloc (.cells #[.int .u8 t, .int .u8 f, .int .i64 s, .string ⟨#[]⟩, .int .i64 0, .int .i64 0, .bool false, .int .u8 0, .int .u32 0, .int .i64 0, .int .i64 0, .slice none 0 0] 35))
  have B1 := hide (B0.out.alloc B0.out.size (.cells #[.int .u8 t, .int .u8 f, .int .i64 s, .string ⟨#[]⟩, .int .i64 0, .int .i64 0, .bool false, .int .u8 0, .int .u32 0, .int .i64 0, .int .i64 0, .slice none 0 0] 35))
  rw [← hg] at KN1 ⊢
  generalize w0.alloc (.cells #[.int .u8 t, .int .u8 f, .int .i64 s, .string ⟨#[]⟩, .int .i64 0, .int .i64 0, .bool false, .int .u8 0, .int .u32 0, .int .i64 0, .int .i64 0, .slice none 0 0] 35) = w1 at Kh1 Ka1 Kb1 B1 KN1 ⊢
  clear hg KH KA KB B0
  have KG := hide (show BlkIs w1 g 35 ((Fr.start t f s 0).cs none 0 0) from KN1.out)
  clear KN1
  obtain ⟨k0, k1, k2, k3⟩ := hd_cells Kh1.out
  go_wp2_with fail
  clear k0 k1 k2 k3
  refine (HM.out _).mono ?_
  rintro e w2 ⟨rfl, hb2⟩
  have Kh2 := hide (Kh1.out.keep hb2)
  have Ka2 := hide (Ka1.out.keep hb2)
  have Kb2 := hide (Kb1.out.keep hb2)
  have Kg2 := hide (KG.out.keep hb2)
  have B2 := hide (B1.out.trans (hb2.mono B1.out.size))
  clear hb2 Kh1 Ka1 Kb1 KG B1
  obtain ⟨k0, k1, k2, k3⟩ := hd_cells Kh2.out
  go_wp2_with (refine wpList_load_blk rfl 35 (.tmp 6) rfl g rfl 35 ((Fr.start t f s 0).cs none 0 0) _ Kg2.out Try.underlying35 rfl rfr_sz ?_)
  clear k0 k1 k2 k3
  refine (HSZ.out _).mono ?_
  rintro e w3 ⟨rfl, hb3⟩
  have Kh3 := hide (Kh2.out.keep hb3)
  have Ka3 := hide (Ka2.out.keep hb3)
  have Kb3 := hide (Kb2.out.keep hb3)
  have Kg3 := hide (Kg2.out.keep hb3)
  have B3 := hide (B2.out.trans (hb3.mono B2.out.size))
  clear hb3 Kh2 Ka2 Kb2 Kg2 B2
  clear HSZ
  cases SZ with
  | true =>
    have HRV := hide (HRD.out.trans (if_pos rfl))
    clear hSZ HRD
    go_wp2_with (first
      | (refine wpList_store_blk rfl 35 (.tmp 4) (.tmp 50) rfl a (Fr.zero.cs none 0 0) (Fr.zero.cs none 0 0) 35 rfl rfl Ka3.out rfr_sz rfl (Fr.cs_one _ _ _ _) ?_)
      | (refine wpList_store_blk rfl 37 (.tmp 5) (.tmp 51) rfl b #[.int .i64 6, .int .i64 0] #[.int .i64 0, .int .i64 0] 37 rfl rfl (Kb3.out.row_other (Kb3.out.ne_ Ka3.out (by decide)) _) rfa_size rfl (fa_one _ _ rfl rfl) ?_))
    have hd := rr_done (Rd.fault 6 0) none 0 Ka3.out Kb3.out (i64_no16 0) (i64_no16 0) B3.out LA.out LB.out (PL.none_ _)
    rw [HRV.out]
    exact bodyPost_ret (results_rffa rfl _ _ a b Fr.zero none 0 0 _ _ rfl rfl hd.1 hd.2.1) rfl hd.2.2
  | false =>
    have HRV := hide (HRD.out.trans (if_neg (by simp)))
    clear HRD
    clear hSZ
    obtain ⟨k0, k1, k2, k3⟩ := hd_cells Kh3.out
    have g3 := (Kg3.out.cell 3).trans (show ((Fr.start t f s 0).cs none 0 0)[3]? = some (.string ⟨#[]⟩) from rfl)
    have z3 := Kg3.out.frozen 3
    go_upto_region 27 with (fail)
    clear g3 z3 k0 k1 k2 k3
    have Kh4 := hide (Kh3.out.far (p := ⟨g, 3, none⟩) Nhg.out (.string x))
    have Ka4 := hide (Ka3.out.far (p := ⟨g, 3, none⟩) Nag.out (.string x))
    have Kb4 := hide (Kb3.out.far (p := ⟨g, 3, none⟩) Nbg.out (.string x))
    have Kg4 := hide (show BlkIs (w3.setCell ⟨g, 3, none⟩ (.string x)) g _ (({ Fr.start t f s 0 with data := x } : Fr).cs none 0 0) from Kg3.out.put 3 (.string x))
    have B4 := hide (B3.out.setCell (p := ⟨g, 3, none⟩) Lg.out (.string x))
    generalize w3.setCell ⟨g, 3, none⟩ (.string x) = w4 at Kh4 Ka4 Kb4 Kg4 B4 ⊢
    clear Kh3 Ka3 Kb3 Kg3 B3
    go_wp2_with (first
      | (refine wpList_load_blk rfl 35 (.tmp 6) rfl g rfl 35 (({ Fr.start t f s 0 with data := x } : Fr).cs none 0 0) _ Kg4.out Try.underlying35 rfl rfr_sz ?_)
      | (refine wpList_store_blk rfl 35 (.tmp 4) (.tmp 122) rfl a (({ Fr.start t f s 0 with data := x } : Fr).cs none 0 0) (Fr.zero.cs none 0 0) 35 rfl rfl Ka4.out rfr_sz rfl (Fr.cs_one _ _ _ _) ?_)
      | (refine wpList_store_blk rfl 37 (.tmp 5) (.tmp 123) rfl b #[.int .i64 0, .int .i64 0] #[.int .i64 0, .int .i64 0] 37 rfl rfl (Kb4.out.row_other (Kb4.out.ne_ Ka4.out (by decide)) _) rfa_size rfl (fa_one _ _ rfl rfl) ?_))
    have hd := rr_done ⟨({ Fr.start t f s 0 with data := x } : Fr), [], 0, 0⟩ none 0 Ka4.out Kb4.out (i64_no16 0) (i64_no16 0) B4.out LA.out LB.out (PL.none_ _)
    rw [HRV.out]
    exact bodyPost_ret (results_rffa rfl _ _ a b ({ Fr.start t f s 0 with data := x } : Fr) none 0 0 _ _ rfl rfl hd.1 hd.2.1) rfl hd.2.2

set_option maxRecDepth 100000 in
set_option maxHeartbeats 3200000 in
theorem rg_Read_8 (ln f s : Int) (hm : misB 8 s = false) (f0 : 0 ≤ f) (f1 : f ≤ 255) (x : ByteArray) (hx : (x.size : Int) ≤ 600000) (w : World) :
    Calls Try.prog 10 #[.agg #[.int .i64 ln, .int .u8 8, .int .u8 f, .int .i64 s], .string x] w (GivesRr (readR 8 f s (bts x)) w) := by
  have HRD := hide (rr8 (f := f) (xs := bts x) hm)
  have HSZ := hide (fun w => rg_sized (Fr.start 8 f s 0) none 0 0 (by show (0:Int) ≤ 8; omega) f0 f1 (x.size : Int) (by omega) hx w)
  rw [show sizB (Fr.start 8 f s 0).ty (Fr.start 8 f s 0).fl (x.size : Int) = sizB 8 f (x.size : Int) from rfl] at HSZ
  rw [bts_len] at HRD
  obtain ⟨RV, hRV⟩ : ∃ RV, RV = readR 8 f s (bts x) := ⟨_, rfl⟩
  rw [← hRV] at HRD ⊢
  clear hRV
  obtain ⟨SZ, hSZ⟩ : ∃ SZ, SZ = sizB 8 f (x.size : Int) := ⟨_, rfl⟩
  rw [← hSZ] at HRD HSZ
  have HM := hide (fun w => rg_wrong 8 s (by omega) w)
  rw [hm] at HM
  have HS := hide (rg_start w ln 8 f s)
  go_enter Try.func10, Try.ntmps10
  go_upto_region 1 with (fail)
  obtain ⟨k1_, k2_, k3_, k4_⟩ := HS.out
  generalize ((w.alloc (.cells #[.int .i64 ln, .int .u8 8, .int .u8 f, .int .i64 s] 23)).alloc (.cells #[.int .u8 0, .int .u8 0, .int .i64 0, .string ⟨#[]⟩, .int .i64 0, .int .i64 0, .bool false, .int .u8 0, .int .u32 0, .int .i64 0, .int .i64 0, .slice none 0 0] 35)).alloc (.cells #[.int .i64 0, .int .i64 0] 37) = w0 at k1_ k2_ k3_ k4_ ⊢
  obtain ⟨h, hh⟩ : ∃ h, h = w.heap.size := ⟨_, rfl⟩
  rw [← hh] at k1_ k2_ k3_ ⊢
  obtain ⟨b, hb⟩ : ∃ b, b = h + 1 + 1 := ⟨_, rfl⟩
  rw [← hb] at k3_ ⊢
  obtain ⟨a, ha⟩ : ∃ a, a = h + 1 := ⟨_, rfl⟩
  rw [← ha] at k2_ ⊢
  have LA := hide (show w.heap.size ≤ a by omega)
  have LB := hide (show w.heap.size ≤ b by omega)
  have Nha := hide (show h ≠ a by omega)
  have Nhb := hide (show h ≠ b by omega)
  have Nab := hide (show a ≠ b by omega)
  have KH := hide k1_
  have KA := hide k2_
  have KB := hide k3_
  have B0 := hide k4_
  clear k1_ k2_ k3_ k4_ hh ha hb HS
  obtain ⟨k0, k1, k2, k3⟩ := hd_cells KH.out
  go_upto_region 2 with (refine wpList_store_new rfl 35 (.tmp 6) (.tmp 14) ((Fr.start 8 f s 0).cs none 0 0) #[.int .u8 0, .int .u8 0, .int .i64 0, .string ⟨#[]⟩, .int .i64 0, .int .i64 0, .bool false, .int .u8 0, .int .u32 0, .int .i64 0, .int .i64 0, .slice none 0 0] 35 rfl rfl rfr_sz rfl (Fr.cs_one _ _ _ _) ?_)
  clear k0 k1 k2 k3
  have KN1 := hide (BlkIs.new w0 35 #[.int .u8 8, .int .u8 f, .int .i64 s, .string ⟨#[]⟩, .int .i64 0, .int .i64 0, .bool false, .int .u8 0, .int .u32 0, .int .i64 0, .int .i64 0, .slice none 0 0])
  obtain ⟨g, hg⟩ : ∃ g, g = w0.heap.size := ⟨_, rfl⟩
  have Lg := hide (show w.heap.size ≤ g by rw [hg]; exact B0.out.size)
  have Nhg := hide (show h ≠ g by have := KH.out.lt; omega)
  have Nag := hide (show a ≠ g by have := KA.out.lt; omega)
  have Nbg := hide (show b ≠ g by have := KB.out.lt; omega)
  have Kh1 := hide (KH.out.alloc (.cells #[.int .u8 8, .int .u8 f, .int .i64 s, .string ⟨#[]⟩, .int .i64 0, .int .i64 0, .bool false, .int .u8 0, .int .u32 0, .int .i64 0, .int .i64 0, .slice none 0 0] 35))
  have Ka1 := hide (KA.out.alloc (.cells #[.int .u8 8, .int .u8 f, .int .i64 s, .string ⟨#[]⟩, .int .i64 0, .int .i64 0, .bool false, .int .u8 0, .int .u32 0, .int .i64 0, .int .i64 0, .slice none 0 0] 35))
  have Kb1 := hide (KB.out.alloc (.cells #[.int .u8 8, .int .u8 f, .int .i64 s, .string ⟨#[]⟩, .int .i64 0, .int .i64 0, .bool false, .int .u8 0, .int .u32 0, .int .i64 0, .int .i64 0, .slice none 0 0] 35))
  have B1 := hide (B0.out.alloc B0.out.size (.cells #[.int .u8 8, .int .u8 f, .int .i64 s, .string ⟨#[]⟩, .int .i64 0, .int .i64 0, .bool false, .int .u8 0, .int .u32 0, .int .i64 0, .int .i64 0, .slice none 0 0] 35))
  rw [← hg] at KN1 ⊢
  generalize w0.alloc (.cells #[.int .u8 8, .int .u8 f, .int .i64 s, .string ⟨#[]⟩, .int .i64 0, .int .i64 0, .bool false, .int .u8 0, .int .u32 0, .int .i64 0, .int .i64 0, .slice none 0 0] 35) = w1 at Kh1 Ka1 Kb1 B1 KN1 ⊢
  clear hg KH KA KB B0
  have KG := hide (show BlkIs w1 g 35 ((Fr.start 8 f s 0).cs none 0 0) from KN1.out)
  clear KN1
  obtain ⟨k0, k1, k2, k3⟩ := hd_cells Kh1.out
  go_wp2_with fail
  clear k0 k1 k2 k3
  refine (HM.out _).mono ?_
  rintro e w2 ⟨rfl, hb2⟩
  have Kh2 := hide (Kh1.out.keep hb2)
  have Ka2 := hide (Ka1.out.keep hb2)
  have Kb2 := hide (Kb1.out.keep hb2)
  have Kg2 := hide (KG.out.keep hb2)
  have B2 := hide (B1.out.trans (hb2.mono B1.out.size))
  clear hb2 Kh1 Ka1 Kb1 KG B1
  obtain ⟨k0, k1, k2, k3⟩ := hd_cells Kh2.out
  go_wp2_with (refine wpList_load_blk rfl 35 (.tmp 6) rfl g rfl 35 ((Fr.start 8 f s 0).cs none 0 0) _ Kg2.out Try.underlying35 rfl rfr_sz ?_)
  clear k0 k1 k2 k3
  refine (HSZ.out _).mono ?_
  rintro e w3 ⟨rfl, hb3⟩
  have Kh3 := hide (Kh2.out.keep hb3)
  have Ka3 := hide (Ka2.out.keep hb3)
  have Kb3 := hide (Kb2.out.keep hb3)
  have Kg3 := hide (Kg2.out.keep hb3)
  have B3 := hide (B2.out.trans (hb3.mono B2.out.size))
  clear hb3 Kh2 Ka2 Kb2 Kg2 B2
  clear HSZ
  cases SZ with
  | true =>
    have HRV := hide (HRD.out.trans (if_pos rfl))
    clear hSZ HRD
    go_wp2_with (first
      | (refine wpList_store_blk rfl 35 (.tmp 4) (.tmp 50) rfl a (Fr.zero.cs none 0 0) (Fr.zero.cs none 0 0) 35 rfl rfl Ka3.out rfr_sz rfl (Fr.cs_one _ _ _ _) ?_)
      | (refine wpList_store_blk rfl 37 (.tmp 5) (.tmp 51) rfl b #[.int .i64 6, .int .i64 0] #[.int .i64 0, .int .i64 0] 37 rfl rfl (Kb3.out.row_other (Kb3.out.ne_ Ka3.out (by decide)) _) rfa_size rfl (fa_one _ _ rfl rfl) ?_))
    have hd := rr_done (Rd.fault 6 0) none 0 Ka3.out Kb3.out (i64_no16 0) (i64_no16 0) B3.out LA.out LB.out (PL.none_ _)
    rw [HRV.out]
    exact bodyPost_ret (results_rffa rfl _ _ a b Fr.zero none 0 0 _ _ rfl rfl hd.1 hd.2.1) rfl hd.2.2
  | false =>
    have HRV := hide (HRD.out.trans (if_neg (by simp)))
    clear HRD
    have h4 : x.size = 4 := by simp [sizB] at hSZ; omega
    have HNU := hide (fun w => rg_stream x (by omega) w)
    generalize numL ((bts x).take 4) % 2147483648 = M at *
    clear hSZ h4
    obtain ⟨k0, k1, k2, k3⟩ := hd_cells Kh3.out
    go_wp2_with fail
    clear k0 k1 k2 k3
    refine (HNU.out _).mono ?_
    rintro e w4 ⟨rfl, hb4⟩
    have Kh4 := hide (Kh3.out.keep hb4)
    have Ka4 := hide (Ka3.out.keep hb4)
    have Kb4 := hide (Kb3.out.keep hb4)
    have Kg4 := hide (Kg3.out.keep hb4)
    have B4 := hide (B3.out.trans (hb4.mono B3.out.size))
    clear hb4 Kh3 Ka3 Kb3 Kg3 B3
    have g10 := (Kg4.out.cell 10).trans (show ((Fr.start 8 f s 0).cs none 0 0)[10]? = some (.int .i64 0) from rfl)
    have z10 := Kg4.out.frozen 10
    go_upto_region 25 with (fail)
    clear g10 z10
    have Kh5 := hide (Kh4.out.far (p := ⟨g, 10, none⟩) Nhg.out (.int .i64 M))
    have Ka5 := hide (Ka4.out.far (p := ⟨g, 10, none⟩) Nag.out (.int .i64 M))
    have Kb5 := hide (Kb4.out.far (p := ⟨g, 10, none⟩) Nbg.out (.int .i64 M))
    have Kg5 := hide (show BlkIs (w4.setCell ⟨g, 10, none⟩ (.int .i64 M)) g _ (({ Fr.start 8 f s 0 with inc := M } : Fr).cs none 0 0) from Kg4.out.put 10 (.int .i64 M))
    have B5 := hide (B4.out.setCell (p := ⟨g, 10, none⟩) Lg.out (.int .i64 M))
    generalize w4.setCell ⟨g, 10, none⟩ (.int .i64 M) = w5 at Kh5 Ka5 Kb5 Kg5 B5 ⊢
    clear Kh4 Ka4 Kb4 Kg4 B4
    have g10 := (Kg5.out.cell 10).trans (show (({ Fr.start 8 f s 0 with inc := M } : Fr).cs none 0 0)[10]? = some (.int .i64 M) from rfl)
    by_cases hM : M = 0
    · have HRV := hide (HRV.out.trans (if_pos hM))
      rw [hM] at g10
      clear hM
      go_wp2_with fail
      clear g10
      refine wp_region_noPanic ?_
      refine wp_region_held_drew (S := fun w' => BlkIs w' h 23 _) (by kernel_rfl) Kh5.out.drew (fun hS => ?_)
      have SA := hide Ka5.out.drew
      have SB := hide Kb5.out.drew
      have SX := hide B5.out.drew
      generalize w5.drew = wd at hS SA SB SX ⊢
      refine wpAnyH_take (i := 0) (v := ?_) (by simp only [List.getElem?_toArray, List.getElem?_cons_zero] <;> exact rfl) (by kernel_rfl) (by kernel_rfl) (by kernel_rfl) (fun _ _ _ h => h) (Or.inl ⟨by rfl, ?_⟩) hS ?_
      rotate_left
      focus (intro w' hw'; go_simp; all_goals with_reducible rfl)
      try simp only [Act.put, List.setIfInBounds_toArray, List.set_cons_zero, List.set_cons_succ]
      refine wpAnyH_take (i := 1) (v := ?_) (by simp only [List.getElem?_toArray, List.getElem?_cons_succ, List.getElem?_cons_zero] <;> exact rfl) (by kernel_rfl) (by kernel_rfl) (by kernel_rfl) (fun _ _ _ h => h) (Or.inl ⟨by rfl, ?_⟩) hS ?_
      rotate_left
      focus (intro w' hw'; go_simp; all_goals with_reducible rfl)
      try simp only [Act.put, List.setIfInBounds_toArray, List.set_cons_zero, List.set_cons_succ]
      refine wpAnyH_take (i := 2) (v := ?_) (by simp only [List.getElem?_toArray, List.getElem?_cons_succ, List.getElem?_cons_zero] <;> exact rfl) (by kernel_rfl) (by kernel_rfl) (by kernel_rfl) (fun _ _ _ h => h) (Or.inl ⟨by rfl, ?_⟩) hS ?_
      rotate_left
      focus (intro w' hw'; have kk := hw'.cell 3; simp only [List.getElem?_toArray, List.getElem?_cons_zero, List.getElem?_cons_succ] at kk; go_simp; all_goals with_reducible rfl)
      try simp only [Act.put, List.setIfInBounds_toArray, List.set_cons_zero, List.set_cons_succ]
      refine wpAnyH_take (i := 3) (v := ?_) (by simp only [List.getElem?_toArray, List.getElem?_cons_succ, List.getElem?_cons_zero] <;> exact rfl) (by kernel_rfl) (by kernel_rfl) (by kernel_rfl) (fun _ _ _ h => h) (Or.inl ⟨by rfl, ?_⟩) hS ?_
      rotate_left
      focus (intro w' hw'; go_simp; all_goals with_reducible rfl)
      try simp only [Act.put, List.setIfInBounds_toArray, List.set_cons_zero, List.set_cons_succ]
      refine wpAnyH_ready (rs := [4]) (by kernel_rfl) (by simp) ?_
      refine AllReadyH.cons (o := _) (by simp only [List.getElem?_toArray, List.getElem?_cons_succ, List.getElem?_cons_zero] <;> exact rfl) (fun K hK => ?_) ?_
      focus (
        refine step_store_blk rfl 35 (.tmp 4) (.tmp 118) rfl a (Fr.zero.cs none 0 0) (Fr.zero.cs none 0 0) 35 rfl rfl SA.out rfr_sz rfl (Fr.cs_one _ _ _ _) ?_
        refine hK.out _ _ (hS.row_other Nha.out _) (fun hS => ?_)
        clear hK K
        try simp only [Act.put])
      rotate_left
      focus (exact AllReadyH.nil)
      refine wpAnyH_ready (rs := [5]) (by kernel_rfl) (by simp) ?_
      refine AllReadyH.cons (o := _) (by simp only [List.getElem?_toArray, List.getElem?_cons_succ, List.getElem?_cons_zero] <;> exact rfl) (fun K hK => ?_) ?_
      focus (
        refine step_store_blk rfl 37 (.tmp 5) (.tmp 121) rfl b #[.int .i64 1, .int .i64 s] #[.int .i64 0, .int .i64 0] 37 rfl rfl (SB.out.row_other (Ne.symm Nab.out) _) rfa_size rfl (fa_one _ _ rfl rfl) ?_
        refine hK.out _ _ (hS.row_other Nhb.out _) (fun _ => ?_)
        clear hK K
        try simp only [Act.put])
      rotate_left
      focus (exact AllReadyH.nil)
      refine wpAnyH_done (by kernel_rfl) ?_ _
      refine NoPanic.normal ?_
      go_wp2_with fail
      have hd := rr_done (Rd.fault 1 s) none 0 SA.out SB.out (i64_no16 0) (i64_no16 0) SX.out LA.out LB.out (PL.none_ _)
      rw [HRV.out]
      exact bodyPost_ret (results_rffa rfl _ _ a b Fr.zero none 0 0 _ _ rfl rfl hd.1 hd.2.1) rfl hd.2.2
    · have HRV := hide (HRV.out.trans (if_neg hM))
      have hMb : (M == 0) = false := by simp [hM]
      go_wp2_with (first
        | (refine wpList_load_blk rfl 35 (.tmp 6) rfl g rfl 35 (({ Fr.start 8 f s 0 with inc := M } : Fr).cs none 0 0) _ Kg5.out Try.underlying35 rfl rfr_sz ?_)
        | (refine wpList_store_blk rfl 35 (.tmp 4) (.tmp 122) rfl a (({ Fr.start 8 f s 0 with inc := M } : Fr).cs none 0 0) (Fr.zero.cs none 0 0) 35 rfl rfl Ka5.out rfr_sz rfl (Fr.cs_one _ _ _ _) ?_)
        | (refine wpList_store_blk rfl 37 (.tmp 5) (.tmp 123) rfl b #[.int .i64 0, .int .i64 0] #[.int .i64 0, .int .i64 0] 37 rfl rfl (Kb5.out.row_other (Kb5.out.ne_ Ka5.out (by decide)) _) rfa_size rfl (fa_one _ _ rfl rfl) ?_))
      have hd := rr_done ⟨({ Fr.start 8 f s 0 with inc := M } : Fr), [], 0, 0⟩ none 0 Ka5.out Kb5.out (i64_no16 0) (i64_no16 0) B5.out LA.out LB.out (PL.none_ _)
      rw [HRV.out]
      exact bodyPost_ret (results_rffa rfl _ _ a b ({ Fr.start 8 f s 0 with inc := M } : Fr) none 0 0 _ _ rfl rfl hd.1 hd.2.1) rfl hd.2.2
end Go.Proofs.Ytefdhbljcnpggaa
