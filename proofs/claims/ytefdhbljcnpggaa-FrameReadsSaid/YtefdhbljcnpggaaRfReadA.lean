/-
  Layer 9: the document's reading (Read): the walk (misplaced; DATA, HEADERS, PRIORITY).
-/
import Derived.Test.YtefdhbljcnpggaaRfRead0
import Derived.BigGuardPart
namespace Go.Proofs.Ytefdhbljcnpggaa
open Go.RowKit

set_option maxRecDepth 100000 in
set_option maxHeartbeats 3200000 in
theorem rg_Read_mis (ln t f s : Int) (t0 : 0 ≤ t) (x : ByteArray) (hm : misB t s = true) (w : World) :
    Calls Try.prog 10 #[.agg #[.int .i64 ln, .int .u8 t, .int .u8 f, .int .i64 s], .string x] w (GivesRr (readR t f s (bts x)) w) := by
  have HRD := hide (show readR t f s (bts x) = Rd.fault 1 0 by rw [readR, if_pos hm])
  obtain ⟨RV, hRV⟩ : ∃ RV, RV = readR t f s (bts x) := ⟨_, rfl⟩
  rw [← hRV] at HRD ⊢
  clear hRV
  have HM := hide (fun w => rg_wrong t s (by omega) w)
  rw [hm] at HM
  have HS := hide (rg_start w ln t f s)
  go_enter Try.func10, Try.ntmps10
  go_upto_region 1 with (fail)
  obtain ⟨k1_, k2_, k3_, k4_⟩ := HS.out
  generalize ((w.alloc (.cells #[.int .i64 ln, .int .u8 t, .int .u8 f, .int .i64 s] 23)).alloc (.cells #[.int .u8 0, .int .u8 0, .int .i64 0, .string ⟨#[]⟩, .int .i64 0, .int .i64 0, .bool false, .int .u8 0, .int .u32 0, .int .i64 0, .int .i64 0, .slice none 0 0] 35)).alloc (.cells #[.int .i64 0, .int .i64 0] 37) = w0 at k1_ k2_ k3_ k4_ ⊢
  obtain ⟨h, hh⟩ : ∃ h, h = w.heap.size := ⟨_, rfl⟩
  rw [← hh] at k1_ k2_ k3_ ⊢
  obtain ⟨b, hb⟩ : ∃ b, b = h + 1 + 1 := ⟨_, rfl⟩
  rw [← hb] at k3_ ⊢
  obtain ⟨a, ha⟩ : ∃ a, a = h + 1 := ⟨_, rfl⟩
  rw [← ha] at k2_ ⊢
  have LA := hide (show w.heap.size ≤ a by omega)
  have LB := hide (show w.heap.size ≤ b by omega)
  have Nha := hide (show h ≠ a by omega)
  have Nhb := hide (show h ≠ b by omega)
  have Nab := hide (show a ≠ b by omega)
  have KH := hide k1_
  have KA := hide k2_
  have KB := hide k3_
  have B0 := hide k4_
  clear k1_ k2_ k3_ k4_ hh ha hb HS
  obtain ⟨k0, k1, k2, k3⟩ := hd_cells KH.out
  go_upto_region 2 with (refine wpList_store_new rfl 35 (.tmp 6) (.tmp 14) ((Fr.start t f s 0).cs none 0 0) #[.int .u8 0, .int .u8 0, .int .i64 0, .string ⟨#[]⟩, .int .i64 0, .int .i64 0, .bool false, .int .u8 0, .int .u32 0, .int .i64 0, .int .i64 0, .slice none 0 0] 35 rfl rfl rfr_sz rfl (Fr.cs_one _ _ _ _) ?_)
  clear k0 k1 k2 k3
  have KN1 := hide (BlkIs.new w0 35 #[.int .u8 t, .int .u8 f, .int .i64 s, .string ⟨#[]⟩, .int .i64 0, .int .i64 0, .bool false, .int .u8 0, .int .u32 0, .int .i64 0, .int .i64 0, .slice none 0 0])
  obtain ⟨g, hg⟩ : ∃ g, g = w0.heap.size := ⟨_, rfl⟩
  have Lg := hide (show w.heap.size ≤ g by rw [hg]; exact B0.out.size)
  have Nhg := hide (show h ≠ g by have := KH.out.lt; omega)
  have Nag := hide (show a ≠ g by have := KA.out.lt; omega)
  have Nbg := hide (show b ≠ g by have := KB.out.lt; omega)
  have Kh1 := hide (KH.out.alloc (.cells #[.int .u8 t, .int .u8 f, .int .i64 s, .string ⟨#[]⟩, .int .i64 0, .int .i64 0, .bool false, .int .u8 0, .int .u32 0, .int .i64 0, .int .i64 0, .slice none 0 0] 35))
  have Ka1 := hide (KA.out.alloc (.cells #[.int .u8 t, .int .u8 f, .int .i64 s, .string ⟨#[]⟩, .int .i64 0, .int .i64 0, .bool false, .int .u8 0, .int .u32 0, .int .i64 0, .int .i64 0, .slice none 0 0] 35))
  have Kb1 := hide (KB.out.alloc (.cells #[.int .u8 t, .int .u8 f, .int .i64 s, .string ⟨#[]⟩, .int .i64 0, .int .i64 0, .bool false, .int .u8 0, .int .u32 0, .int .i64 0, .int .i64 0, .slice none 0 0] 35))
  have B1 := hide (B0.out.alloc B0.out.size (.cells #[.int .u8 t, .int .u8 f, .int .i64 s, .string ⟨#[]⟩, .int .i64 0, .int .i64 0, .bool false, .int .u8 0, .int .u32 0, .int .i64 0, .int .i64 0, .slice none 0 0] 35))
  rw [← hg] at KN1 ⊢
  generalize w0.alloc (.cells #[.int .u8 t, .int .u8 f, .int .i64 s, .string ⟨#[]⟩, .int .i64 0, .int .i64 0, .bool false, .int .u8 0, .int .u32 0, .int .i64 0, .int .i64 0, .slice none 0 0] 35) = w1 at Kh1 Ka1 Kb1 B1 KN1 ⊢
  clear hg KH KA KB B0
  have KG := hide (show BlkIs w1 g 35 ((Fr.start t f s 0).cs none 0 0) from KN1.out)
  clear KN1
  obtain ⟨k0, k1, k2, k3⟩ := hd_cells Kh1.out
  go_wp2_with fail
  clear k0 k1 k2 k3
  refine (HM.out _).mono ?_
  rintro e w2 ⟨rfl, hb2⟩
  have Kh2 := hide (Kh1.out.keep hb2)
  have Ka2 := hide (Ka1.out.keep hb2)
  have Kb2 := hide (Kb1.out.keep hb2)
  have Kg2 := hide (KG.out.keep hb2)
  have B2 := hide (B1.out.trans (hb2.mono B1.out.size))
  clear hb2 Kh1 Ka1 Kb1 KG B1
  have HRV := HRD
  go_wp2_with (first
    | (refine wpList_store_blk rfl 35 (.tmp 4) (.tmp 21) rfl a (Fr.zero.cs none 0 0) (Fr.zero.cs none 0 0) 35 rfl rfl Ka2.out rfr_sz rfl (Fr.cs_one _ _ _ _) ?_)
    | (refine wpList_store_blk rfl 37 (.tmp 5) (.tmp 22) rfl b #[.int .i64 1, .int .i64 0] #[.int .i64 0, .int .i64 0] 37 rfl rfl (Kb2.out.row_other (Kb2.out.ne_ Ka2.out (by decide)) _) rfa_size rfl (fa_one _ _ rfl rfl) ?_))
  have hd := rr_done (Rd.fault 1 0) none 0 Ka2.out Kb2.out (i64_no16 0) (i64_no16 0) B2.out LA.out LB.out (PL.none_ _)
  rw [HRV.out]
  exact bodyPost_ret (results_rffa rfl _ _ a b Fr.zero none 0 0 _ _ rfl rfl hd.1 hd.2.1) rfl hd.2.2

set_option maxRecDepth 100000 in
set_option maxHeartbeats 3200000 in
theorem rg_Read_01 (ln t f s : Int) (t0 : 0 ≤ t) (t1 : t ≤ 1) (hm : misB t s = false) (f0 : 0 ≤ f) (f1 : f ≤ 255) (x : ByteArray) (hx : (x.size : Int) ≤ 600000) (w : World) :
    Calls Try.prog 10 #[.agg #[.int .i64 ln, .int .u8 t, .int .u8 f, .int .i64 s], .string x] w (GivesRr (readR t f s (bts x)) w) := by
  have HTX := hide (fun w => rg_texts t f s (by omega) hm f0 f1 x hx w)
  generalize readR t f s (bts x) = RV at HTX ⊢
  have HM := hide (fun w => rg_wrong t s (by omega) w)
  rw [hm] at HM
  have HS := hide (rg_start w ln t f s)
  go_enter Try.func10, Try.ntmps10
  go_upto_region 1 with (fail)
  obtain ⟨k1_, k2_, k3_, k4_⟩ := HS.out
  generalize ((w.alloc (.cells #[.int .i64 ln, .int .u8 t, .int .u8 f, .int .i64 s] 23)).alloc (.cells #[.int .u8 0, .int .u8 0, .int .i64 0, .string ⟨#[]⟩, .int .i64 0, .int .i64 0, .bool false, .int .u8 0, .int .u32 0, .int .i64 0, .int .i64 0, .slice none 0 0] 35)).alloc (.cells #[.int .i64 0, .int .i64 0] 37) = w0 at k1_ k2_ k3_ k4_ ⊢
  obtain ⟨h, hh⟩ : ∃ h, h = w.heap.size := ⟨_, rfl⟩
  rw [← hh] at k1_ k2_ k3_ ⊢
  obtain ⟨b, hb⟩ : ∃ b, b = h + 1 + 1 := ⟨_, rfl⟩
  rw [← hb] at k3_ ⊢
  obtain ⟨a, ha⟩ : ∃ a, a = h + 1 := ⟨_, rfl⟩
  rw [← ha] at k2_ ⊢
  have LA := hide (show w.heap.size ≤ a by omega)
  have LB := hide (show w.heap.size ≤ b by omega)
  have Nha := hide (show h ≠ a by omega)
  have Nhb := hide (show h ≠ b by omega)
  have Nab := hide (show a ≠ b by omega)
  have KH := hide k1_
  have KA := hide k2_
  have KB := hide k3_
  have B0 := hide k4_
  clear k1_ k2_ k3_ k4_ hh ha hb HS
  obtain ⟨k0, k1, k2, k3⟩ := hd_cells KH.out
  go_upto_region 2 with (refine wpList_store_new rfl 35 (.tmp 6) (.tmp 14) ((Fr.start t f s 0).cs none 0 0) #[.int .u8 0, .int .u8 0, .int .i64 0, .string ⟨#[]⟩, .int .i64 0, .int .i64 0, .bool false, .int .u8 0, .int .u32 0, .int .i64 0, .int .i64 0, .slice none 0 0] 35 rfl rfl rfr_sz rfl (Fr.cs_one _ _ _ _) ?_)
  clear k0 k1 k2 k3
  have KN1 := hide (BlkIs.new w0 35 #[.int .u8 t, .int .u8 f, .int .i64 s, .string ⟨#[]⟩, .int .i64 0, .int .i64 0, .bool false, .int .u8 0, .int .u32 0, .int .i64 0, .int .i64 0, .slice none 0 0])
  obtain ⟨g, hg⟩ : ∃ g, g = w0.heap.size := ⟨_, rfl⟩
  have Lg := hide (show w.heap.size ≤ g by rw [hg]; exact B0.out.size)
  have Nhg := hide (show h ≠ g by have := KH.out.lt; omega)
  have Nag := hide (show a ≠ g by have := KA.out.lt; omega)
  have Nbg := hide (show b ≠ g by have := KB.out.lt; omega)
  have Kh1 := hide (KH.out.alloc (.cells #[.int .u8 t, .int .u8 f, .int .i64 s, .string ⟨#[]⟩, .int .i64 0, .int .i64 0, .bool false, .int .u8 0, .int .u32 0, .int .i64 0, .int .i64 0, .slice none 0 0] 35))
  have Ka1 := hide (KA.out.alloc (.cells #[.int .u8 t, .int .u8 f, .int .i64 s, .string ⟨#[]⟩, .int .i64 0, .int .i64 0, .bool false, .int .u8 0, .int .u32 0, .int .i64 0, .int .i64 0, .slice none 0 0] 35))
  have Kb1 := hide (KB.out.alloc (.cells #[.int .u8 t, .int .u8 f, .int .i64 s, .string ⟨#[]⟩, .int .i64 0, .int .i64 0, .bool false, .int .u8 0, .int .u32 0, .int .i64 0, .int .i64 0, .slice none 0 0] 35))
  have B1 := hide (B0.out.alloc B0.out.size (.cells #[.int .u8 t, .int .u8 f, .int .i64 s, .string ⟨#[]⟩, .int .i64 0, .int .i64 0, .bool false, .int .u8 0, .int .u32 0, .int .i64 0, .int .i64 0, .slice none 0 0] 35))
  rw [← hg] at KN1 ⊢
  generalize w0.alloc (.cells #[.int .u8 t, .int .u8 f, .int .i64 s, .string ⟨#[]⟩, .int .i64 0, .int .i64 0, .bool false, .int .u8 0, .int .u32 0, .int .i64 0, .int .i64 0, .slice none 0 0] 35) = w1 at Kh1 Ka1 Kb1 B1 KN1 ⊢
  clear hg KH KA KB B0
  have KG := hide (show BlkIs w1 g 35 ((Fr.start t f s 0).cs none 0 0) from KN1.out)
  clear KN1
  obtain ⟨k0, k1, k2, k3⟩ := hd_cells Kh1.out
  go_wp2_with fail
  clear k0 k1 k2 k3
  refine (HM.out _).mono ?_
  rintro e w2 ⟨rfl, hb2⟩
  have Kh2 := hide (Kh1.out.keep hb2)
  have Ka2 := hide (Ka1.out.keep hb2)
  have Kb2 := hide (Kb1.out.keep hb2)
  have Kg2 := hide (KG.out.keep hb2)
  have B2 := hide (B1.out.trans (hb2.mono B1.out.size))
  clear hb2 Kh1 Ka1 Kb1 KG B1
  obtain ⟨k0, k1, k2, k3⟩ := hd_cells Kh2.out
  skip
  go_wp2_with (refine wpList_load_blk rfl 35 (.tmp 6) rfl g rfl 35 ((Fr.start t f s 0).cs none 0 0) _ Kg2.out Try.underlying35 rfl rfr_sz ?_)
  clear k0 k1 k2 k3
  refine (HTX.out _).mono ?_
  rintro e w5 ⟨PA, PC, rfl, hp, hb5⟩
  have Kh5 := hide (Kh2.out.keep hb5)
  have Ka5 := hide (Ka2.out.keep hb5)
  have Kb5 := hide (Kb2.out.keep hb5)
  have Kg5 := hide (Kg2.out.keep hb5)
  have B5 := hide (B2.out.trans (hb5.mono B2.out.size))
  clear hb5 Kh2 Ka2 Kb2 Kg2 B2
  go_wp2_with (first
    | (refine wpList_store_blk rfl 35 (.tmp 4) (.tmp 30) rfl a (RV.F.cs PA RV.l.length PC) (Fr.zero.cs none 0 0) 35 rfl rfl Ka5.out rfr_sz rfl (Fr.cs_one _ _ _ _) ?_)
    | (refine wpList_store_blk rfl 37 (.tmp 5) (.tmp 31) rfl b #[.int .i64 RV.code, .int .i64 RV.st] #[.int .i64 0, .int .i64 0] 37 rfl rfl (Kb5.out.row_other (Kb5.out.ne_ Ka5.out (by decide)) _) rfa_size rfl (fa_one _ _ rfl rfl) ?_))
  have hd := rr_done RV PA PC Ka5.out Kb5.out (i64_no16 0) (i64_no16 0) B5.out LA.out LB.out hp
  exact bodyPost_ret (results_rffa rfl _ _ a b RV.F PA RV.l.length PC _ _ rfl rfl hd.1 hd.2.1) rfl hd.2.2

set_option maxRecDepth 100000 in
set_option maxHeartbeats 3200000 in
theorem rg_Read_2 (ln f s : Int) (hm : misB 2 s = false) (f0 : 0 ≤ f) (f1 : f ≤ 255) (x : ByteArray) (hx : (x.size : Int) ≤ 600000) (w : World) :
    Calls Try.prog 10 #[.agg #[.int .i64 ln, .int .u8 2, .int .u8 f, .int .i64 s], .string x] w (GivesRr (readR 2 f s (bts x)) w) := by
  have HRD := hide (rr2 (f := f) (xs := bts x) hm)
  have HSZ := hide (fun w => rg_sized (Fr.start 2 f s 0) none 0 0 (by show (0:Int) ≤ 2; omega) f0 f1 (x.size : Int) (by omega) hx w)
  rw [show sizB (Fr.start 2 f s 0).ty (Fr.start 2 f s 0).fl (x.size : Int) = false from rfl] at HSZ
  obtain ⟨RV, hRV⟩ : ∃ RV, RV = readR 2 f s (bts x) := ⟨_, rfl⟩
  rw [← hRV] at HRD ⊢
  clear hRV
  have HM := hide (fun w => rg_wrong 2 s (by omega) w)
  rw [hm] at HM
  have HS := hide (rg_start w ln 2 f s)
  go_enter Try.func10, Try.ntmps10
  go_upto_region 1 with (fail)
  obtain ⟨k1_, k2_, k3_, k4_⟩ := HS.out
  generalize ((w.alloc (.cells #[.int .i64 ln, .int .u8 2, .int .u8 f, .int .i64 s] 23)).alloc (.cells #[.int .u8 0, .int .u8 0, .int .i64 0, .string ⟨#[]⟩, .int .i64 0, .int .i64 0, .bool false, .int .u8 0, .int .u32 0, .int .i64 0, .int .i64 0, .slice none 0 0] 35)).alloc (.cells #[.int .i64 0, .int .i64 0] 37) = w0 at k1_ k2_ k3_ k4_ ⊢
  obtain ⟨h, hh⟩ : ∃ h, h = w.heap.size := ⟨_, rfl⟩
  rw [← hh] at k1_ k2_ k3_ ⊢
  obtain ⟨b, hb⟩ : ∃ b, b = h + 1 + 1 := ⟨_, rfl⟩
  rw [← hb] at k3_ ⊢
  obtain ⟨a, ha⟩ : ∃ a, a = h + 1 := ⟨_, rfl⟩
  rw [← ha] at k2_ ⊢
  have LA := hide (show w.heap.size ≤ a by omega)
  have LB := hide (show w.heap.size ≤ b by omega)
  have Nha := hide (show h ≠ a by omega)
  have Nhb := hide (show h ≠ b by omega)
  have Nab := hide (show a ≠ b by omega)
  have KH := hide k1_
  have KA := hide k2_
  have KB := hide k3_
  have B0 := hide k4_
  clear k1_ k2_ k3_ k4_ hh ha hb HS
  obtain ⟨k0, k1, k2, k3⟩ := hd_cells KH.out
  go_upto_region 2 with (refine wpList_store_new rfl 35 (.tmp 6) (.tmp 14) ((Fr.start 2 f s 0).cs none 0 0) #[.int .u8 0, .int .u8 0, .int .i64 0, .string ⟨#[]⟩, .int .i64 0, .int .i64 0, .bool false, .int .u8 0, .int .u32 0, .int .i64 0, .int .i64 0, .slice none 0 0] 35 rfl rfl rfr_sz rfl (Fr.cs_one _ _ _ _) ?_)
  clear k0 k1 k2 k3
  have KN1 := hide (BlkIs.new w0 35 #[.int .u8 2, .int .u8 f, .int .i64 s, .string ⟨#[]⟩, .int .i64 0, .int .i64 0, .bool false, .int .u8 0, .int .u32 0, .int .i64 0, .int .i64 0, .slice none 0 0])
  obtain ⟨g, hg⟩ : ∃ g, g = w0.heap.size := ⟨_, rfl⟩
  have Lg := hide (show w.heap.size ≤ g by rw [hg]; exact B0.out.size)
  have Nhg := hide (show h ≠ g by have := KH.out.lt; omega)
  have Nag := hide (show a ≠ g by have := KA.out.lt; omega)
  have Nbg := hide (show b ≠ g by have := KB.out.lt; omega)
  have Kh1 := hide (KH.out.alloc (.cells #[.int .u8 2, .int .u8 f, .int .i64 s, .string ⟨#[]⟩, .int .i64 0, .int .i64 0, .bool false, .int .u8 0, .int .u32 0, .int .i64 0, .int .i64 0, .slice none 0 0] 35))
  have Ka1 := hide (KA.out.alloc (.cells #[.int .u8 2, .int .u8 f, .int .i64 s, .string ⟨#[]⟩, .int .i64 0, .int .i64 0, .bool false, .int .u8 0, .int .u32 0, .int .i64 0, .int .i64 0, .slice none 0 0] 35))
  have Kb1 := hide (KB.out.alloc (.cells #[.int .u8 2, .int .u8 f, .int .i64 s, .string ⟨#[]⟩, .int .i64 0, .int .i64 0, .bool false, .int .u8 0, .int .u32 0, .int .i64 0, .int .i64 0, .slice none 0 0] 35))
  have B1 := hide (B0.out.alloc B0.out.size (.cells #[.int .u8 2, .int .u8 f, .int .i64 s, .string ⟨#[]⟩, .int .i64 0, .int .i64 0, .bool false, .int .u8 0, .int .u32 0, .int .i64 0, .int .i64 0, .slice none 0 0] 35))
  rw [← hg] at KN1 ⊢
  generalize w0.alloc (.cells #[.int .u8 2, .int .u8 f, .int .i64 s, .string ⟨#[]⟩, .int .i64 0, .int .i64 0, .bool false, .int .u8 0, .int .u32 0, .int .i64 0, .int .i64 0, .slice none 0 0] 35) = w1 at Kh1 Ka1 Kb1 B1 KN1 ⊢
  clear hg KH KA KB B0
  have KG := hide (show BlkIs w1 g 35 ((Fr.start 2 f s 0).cs none 0 0) from KN1.out)
  clear KN1
  obtain ⟨k0, k1, k2, k3⟩ := hd_cells Kh1.out
  go_wp2_with fail
  clear k0 k1 k2 k3
  refine (HM.out _).mono ?_
  rintro e w2 ⟨rfl, hb2⟩
  have Kh2 := hide (Kh1.out.keep hb2)
  have Ka2 := hide (Ka1.out.keep hb2)
  have Kb2 := hide (Kb1.out.keep hb2)
  have Kg2 := hide (KG.out.keep hb2)
  have B2 := hide (B1.out.trans (hb2.mono B1.out.size))
  clear hb2 Kh1 Ka1 Kb1 KG B1
  by_cases h5 : x.size = 5
  · have HRV := hide (HRD.out.trans (if_pos (by rw [bts_len]; exact h5)))
    have HW := hide (fun w => rg_weigh (Fr.start 2 f s 0) none 0 0 x (by omega) w)
    generalize fillD true (Fr.start 2 f s 0) (bts x) = FD at *
    have h5i : (x.size : Int) = 5 := by omega
    rw [h5i] at HSZ
    clear h5 HRD
    obtain ⟨k0, k1, k2, k3⟩ := hd_cells Kh2.out
    go_wp2_with (refine wpList_load_blk rfl 35 (.tmp 6) rfl g rfl 35 ((Fr.start 2 f s 0).cs none 0 0) _ Kg2.out Try.underlying35 rfl rfr_sz ?_)
    clear k0 k1 k2 k3
    skip
    refine (HSZ.out _).mono ?_
    rintro e w3 ⟨rfl, hb3⟩
    have Kh3 := hide (Kh2.out.keep hb3)
    have Ka3 := hide (Ka2.out.keep hb3)
    have Kb3 := hide (Kb2.out.keep hb3)
    have Kg3 := hide (Kg2.out.keep hb3)
    have B3 := hide (B2.out.trans (hb3.mono B2.out.size))
    clear hb3 Kh2 Ka2 Kb2 Kg2 B2
    clear HSZ
    obtain ⟨k0, k1, k2, k3⟩ := hd_cells Kh3.out
    go_wp2_with (refine wpList_load_blk rfl 35 (.tmp 6) rfl g rfl 35 ((Fr.start 2 f s 0).cs none 0 0) _ Kg3.out Try.underlying35 rfl rfr_sz ?_)
    clear k0 k1 k2 k3
    refine (HW.out _).mono ?_
    rintro e w4 ⟨rfl, hb4⟩
    have Kh4 := hide (Kh3.out.keep hb4)
    have Ka4 := hide (Ka3.out.keep hb4)
    have Kb4 := hide (Kb3.out.keep hb4)
    have Kg4 := hide (Kg3.out.keep hb4)
    have B4 := hide (B3.out.trans (hb4.mono B3.out.size))
    clear hb4 Kh3 Ka3 Kb3 Kg3 B3
    go_wp2_with (first
      | (refine wpList_store_blk rfl 35 (.tmp 4) (.tmp 60) rfl a (FD.cs none 0 0) (Fr.zero.cs none 0 0) 35 rfl rfl Ka4.out rfr_sz rfl (Fr.cs_one _ _ _ _) ?_)
      | (refine wpList_store_blk rfl 37 (.tmp 5) (.tmp 61) rfl b #[.int .i64 0, .int .i64 0] #[.int .i64 0, .int .i64 0] 37 rfl rfl (Kb4.out.row_other (Kb4.out.ne_ Ka4.out (by decide)) _) rfa_size rfl (fa_one _ _ rfl rfl) ?_))
    have hd := rr_done ⟨FD, [], 0, 0⟩ none 0 Ka4.out Kb4.out (i64_no16 0) (i64_no16 0) B4.out LA.out LB.out (PL.none_ _)
    rw [HRV.out]
    exact bodyPost_ret (results_rffa rfl _ _ a b FD none 0 0 _ _ rfl rfl hd.1 hd.2.1) rfl hd.2.2
  · have HRV := hide (HRD.out.trans (if_neg (by rw [bts_len]; exact h5)))
    have h5i : ¬ (x.size : Int) = 5 := by omega
    have h5b : ((x.size : Int) == 5) = false := by simp [h5i]
    clear h5 HRD HSZ
    obtain ⟨k0, k1, k2, k3⟩ := hd_cells Kh2.out
    go_wp2_with fail
    clear k0 k1 k2 k3
    refine wp_region_noPanic ?_
    refine wp_region_held_drew (S := fun w' => BlkIs w' h 23 _) (by kernel_rfl) Kh2.out.drew (fun hS => ?_)
    have SA := hide Ka2.out.drew
    have SB := hide Kb2.out.drew
    have SX := hide B2.out.drew
    generalize w2.drew = wd at hS SA SB SX ⊢
    refine wpAnyH_take (i := 0) (v := ?_) (by simp only [List.getElem?_toArray, List.getElem?_cons_zero] <;> exact rfl) (by kernel_rfl) (by kernel_rfl) (by kernel_rfl) (fun _ _ _ h => h) (Or.inl ⟨by rfl, ?_⟩) hS ?_
    rotate_left
    focus (intro w' hw'; go_simp; all_goals with_reducible rfl)
    try simp only [Act.put, List.setIfInBounds_toArray, List.set_cons_zero, List.set_cons_succ]
    refine wpAnyH_take (i := 1) (v := ?_) (by simp only [List.getElem?_toArray, List.getElem?_cons_succ, List.getElem?_cons_zero] <;> exact rfl) (by kernel_rfl) (by kernel_rfl) (by kernel_rfl) (fun _ _ _ h => h) (Or.inl ⟨by rfl, ?_⟩) hS ?_
    rotate_left
    focus (intro w' hw'; go_simp; all_goals with_reducible rfl)
    try simp only [Act.put, List.setIfInBounds_toArray, List.set_cons_zero, List.set_cons_succ]
    refine wpAnyH_take (i := 2) (v := ?_) (by simp only [List.getElem?_toArray, List.getElem?_cons_succ, List.getElem?_cons_zero] <;> exact rfl) (by kernel_rfl) (by kernel_rfl) (by kernel_rfl) (fun _ _ _ h => h) (Or.inl ⟨by rfl, ?_⟩) hS ?_
    rotate_left
    focus (intro w' hw'; have kk := hw'.cell 3; simp only [List.getElem?_toArray, List.getElem?_cons_zero, List.getElem?_cons_succ] at kk; go_simp; all_goals with_reducible rfl)
    try simp only [Act.put, List.setIfInBounds_toArray, List.set_cons_zero, List.set_cons_succ]
    refine wpAnyH_take (i := 3) (v := ?_) (by simp only [List.getElem?_toArray, List.getElem?_cons_succ, List.getElem?_cons_zero] <;> exact rfl) (by kernel_rfl) (by kernel_rfl) (by kernel_rfl) (fun _ _ _ h => h) (Or.inl ⟨by rfl, ?_⟩) hS ?_
    rotate_left
    focus (intro w' hw'; go_simp; all_goals with_reducible rfl)
    try simp only [Act.put, List.setIfInBounds_toArray, List.set_cons_zero, List.set_cons_succ]
    refine wpAnyH_ready (rs := [4]) (by kernel_rfl) (by simp) ?_
    refine AllReadyH.cons (o := _) (by simp only [List.getElem?_toArray, List.getElem?_cons_succ, List.getElem?_cons_zero] <;> exact rfl) (fun K hK => ?_) ?_
    focus (
      refine step_store_blk rfl 35 (.tmp 4) (.tmp 41) rfl a (Fr.zero.cs none 0 0) (Fr.zero.cs none 0 0) 35 rfl rfl SA.out rfr_sz rfl (Fr.cs_one _ _ _ _) ?_
      refine hK.out _ _ (hS.row_other Nha.out _) (fun hS => ?_)
      clear hK K
      try simp only [Act.put])
    rotate_left
    focus (exact AllReadyH.nil)
    refine wpAnyH_ready (rs := [5]) (by kernel_rfl) (by simp) ?_
    refine AllReadyH.cons (o := _) (by simp only [List.getElem?_toArray, List.getElem?_cons_succ, List.getElem?_cons_zero] <;> exact rfl) (fun K hK => ?_) ?_
    focus (
      refine step_store_blk rfl 37 (.tmp 5) (.tmp 44) rfl b #[.int .i64 6, .int .i64 s] #[.int .i64 0, .int .i64 0] 37 rfl rfl (SB.out.row_other (Ne.symm Nab.out) _) rfa_size rfl (fa_one _ _ rfl rfl) ?_
      refine hK.out _ _ (hS.row_other Nhb.out _) (fun _ => ?_)
      clear hK K
      try simp only [Act.put])
    rotate_left
    focus (exact AllReadyH.nil)
    refine wpAnyH_done (by kernel_rfl) ?_ _
    refine NoPanic.normal ?_
    go_wp2_with fail
    have hd := rr_done (Rd.fault 6 s) none 0 SA.out SB.out (i64_no16 0) (i64_no16 0) SX.out LA.out LB.out (PL.none_ _)
    rw [HRV.out]
    exact bodyPost_ret (results_rffa rfl _ _ a b Fr.zero none 0 0 _ _ rfl rfl hd.1 hd.2.1) rfl hd.2.2
end Go.Proofs.Ytefdhbljcnpggaa
