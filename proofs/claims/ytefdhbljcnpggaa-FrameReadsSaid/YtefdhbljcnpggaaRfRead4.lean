/-
  Layer 9: the document's reading (Read): the walk (SETTINGS).
-/
import Derived.Test.YtefdhbljcnpggaaRfRead0
import Derived.BigGuardPart
namespace Go.Proofs.Ytefdhbljcnpggaa
open Go.RowKit

theorem own_stay {w0 w' : World} {B n : Nat} {e : TypeId} {v : Value} {xs : List Value} (h : w0.ownsRow B e 2 v n xs) (hb : Below w0.heap.size w0 w') : w'.ownsRow B e 2 v n xs := by
  refine ⟨h.1, ?_⟩
  rcases h.2 with h' | ⟨g, cap, cur, a, b, c, d⟩
  · exact .inl h'
  · exact .inr ⟨g, cap, cur, a, b, (hb.block g (Array.getElem?_eq_some_iff.1 c).1).trans c, d⟩
theorem own_far {w : World} {B n : Nat} {e : TypeId} {v : Value} {xs : List Value} {p : Addr} (h : w.ownsRow B e 2 v n xs) (hp : p.block < B) (u : Value) : (w.setCell p u).ownsRow B e 2 v n xs := by
  refine ⟨h.1, ?_⟩
  rcases h.2 with h' | ⟨g, cap, cur, a, b, c, d⟩
  · exact .inl h'
  · exact .inr ⟨g, cap, cur, a, b, (Below.heap_setCell w p u g (by omega)).trans c, d⟩
theorem BlkIs.under {w w' : World} {g B : Nat} {t : TypeId} {cs : Array Value} (h : BlkIs w g t cs) (hb : Below B w w') (hl : g < B) : BlkIs w' g t cs := (hb.block g hl).trans h
theorem num2 (xs : List Int) (j : Nat) (h : j + 1 < xs.length) : numL ((xs.drop j).take 2) = 256 * xs.getD j 0 + xs.getD (j + 1) 0 := by
  rw [numL_take_succ _ 1 (by rw [List.length_drop]; omega), numL_take_succ _ 0 (by rw [List.length_drop]; omega)]
  simp [List.getD, numL]

set_option maxRecDepth 100000 in
set_option maxHeartbeats 6400000 in
theorem rg_Read_4 (ln f s : Int) (hm : misB 4 s = false) (f0 : 0 ≤ f) (f1 : f ≤ 255) (x : ByteArray) (hx : (x.size : Int) ≤ 600000) (w : World) :
    Calls Try.prog 10 #[.agg #[.int .i64 ln, .int .u8 4, .int .u8 f, .int .i64 s], .string x] w (GivesRr (readR 4 f s (bts x)) w) := by
  obtain ⟨i0, hi0, hz0, hz1, hz2⟩ := info_parts pr_info
  have HRD := hide (rr3 (f := f) (xs := bts x) (by omega) hm (by kernel_rfl))
  have HSZ := hide (fun w => rg_sized (Fr.start 4 f s 0) none 0 0 (by show (0:Int) ≤ 4; omega) f0 f1 (x.size : Int) (by omega) hx w)
  rw [show sizB (Fr.start 4 f s 0).ty (Fr.start 4 f s 0).fl (x.size : Int) = sizB 4 f (x.size : Int) from rfl] at HSZ
  rw [bts_len] at HRD
  obtain ⟨RV, hRV⟩ : ∃ RV, RV = readR 4 f s (bts x) := ⟨_, rfl⟩
  rw [← hRV] at HRD ⊢
  clear hRV
  obtain ⟨SZ, hSZ⟩ : ∃ SZ, SZ = sizB 4 f (x.size : Int) := ⟨_, rfl⟩
  rw [← hSZ] at HRD HSZ
  have HM := hide (fun w => rg_wrong 4 s (by omega) w)
  rw [hm] at HM
  have HS := hide (rg_start w ln 4 f s)
  go_enter Try.func10, Try.ntmps10
  go_upto_region 1 with (fail)
  obtain ⟨k1_, k2_, k3_, k4_⟩ := HS.out
  generalize ((w.alloc (.cells #[.int .i64 ln, .int .u8 4, .int .u8 f, .int .i64 s] 23)).alloc (.cells #[.int .u8 0, .int .u8 0, .int .i64 0, .string ⟨#[]⟩, .int .i64 0, .int .i64 0, .bool false, .int .u8 0, .int .u32 0, .int .i64 0, .int .i64 0, .slice none 0 0] 35)).alloc (.cells #[.int .i64 0, .int .i64 0] 37) = w0 at k1_ k2_ k3_ k4_ ⊢
  obtain ⟨h, hh⟩ : ∃ h, h = w.heap.size := ⟨_, rfl⟩
  rw [← hh] at k1_ k2_ k3_ ⊢
  obtain ⟨b, hb⟩ : ∃ b, b = h + 1 + 1 := ⟨_, rfl⟩
  rw [← hb] at k3_ ⊢
  obtain ⟨a, ha⟩ : ∃ a, a = h + 1 := ⟨_, rfl⟩
  rw [← ha] at k2_ ⊢
  have LA := hide (show w.heap.size ≤ a by omega)
  have LB := hide (show w.heap.size ≤ b by omega)
  have Nha := hide (show h ≠ a by omega)
  have Nhb := hide (show h ≠ b by omega)
  have Nab := hide (show a ≠ b by omega)
  have KH := hide k1_
  have KA := hide k2_
  have KB := hide k3_
  have B0 := hide k4_
  clear k1_ k2_ k3_ k4_ hh ha hb HS
  obtain ⟨k0, k1, k2, k3⟩ := hd_cells KH.out
  go_upto_region 2 with (refine wpList_store_new rfl 35 (.tmp 6) (.tmp 14) ((Fr.start 4 f s 0).cs none 0 0) #[.int .u8 0, .int .u8 0, .int .i64 0, .string ⟨#[]⟩, .int .i64 0, .int .i64 0, .bool false, .int .u8 0, .int .u32 0, .int .i64 0, .int .i64 0, .slice none 0 0] 35 rfl rfl rfr_sz rfl (Fr.cs_one _ _ _ _) ?_)
  clear k0 k1 k2 k3
  have KN1 := hide (BlkIs.new w0 35 #[.int .u8 4, .int .u8 f, .int .i64 s, .string ⟨#[]⟩, .int .i64 0, .int .i64 0, .bool false, .int .u8 0, .int .u32 0, .int .i64 0, .int .i64 0, .slice none 0 0])
  obtain ⟨g, hg⟩ : ∃ g, g = w0.heap.size := ⟨_, rfl⟩
  have Lg := hide (show w.heap.size ≤ g by rw [hg]; exact B0.out.size)
  have Nhg := hide (show h ≠ g by have := KH.out.lt; omega)
  have Nag := hide (show a ≠ g by have := KA.out.lt; omega)
  have Nbg := hide (show b ≠ g by have := KB.out.lt; omega)
  have Kh1 := hide (KH.out.alloc (.cells #[.int .u8 4, .int .u8 f, .int .i64 s, .string ⟨#[]⟩, .int .i64 0, .int .i64 0, .bool false, .int .u8 0, .int .u32 0, .int .i64 0, .int .i64 0, .slice none 0 0] 35))
  have Ka1 := hide (KA.out.alloc (.cells #[.int .u8 4, .int .u8 f, .int .i64 s, .string ⟨#[]⟩, .int .i64 0, .int .i64 0, .bool false, .int .u8 0, .int .u32 0, .int .i64 0, .int .i64 0, .slice none 0 0] 35))
  have Kb1 := hide (KB.out.alloc (.cells #[.int .u8 4, .int .u8 f, .int .i64 s, .string ⟨#[]⟩, .int .i64 0, .int .i64 0, .bool false, .int .u8 0, .int .u32 0, .int .i64 0, .int .i64 0, .slice none 0 0] 35))
  have B1 := hide (B0.out.alloc B0.out.size (.cells #[.int .u8 4, .int .u8 f, .int .i64 s, .string ⟨#[]⟩, .int .i64 0, .int .i64 0, .bool false, .int .u8 0, .int .u32 0, .int .i64 0, .int .i64 0, .slice none 0 0] 35))
  rw [← hg] at KN1 ⊢
  generalize w0.alloc (.cells #[.int .u8 4, .int .u8 f, .int .i64 s, .string ⟨#[]⟩, .int .i64 0, .int .i64 0, .bool false, .int .u8 0, .int .u32 0, .int .i64 0, .int .i64 0, .slice none 0 0] 35) = w1 at Kh1 Ka1 Kb1 B1 KN1 ⊢
  clear hg KH KA KB B0
  have KG := hide (show BlkIs w1 g 35 ((Fr.start 4 f s 0).cs none 0 0) from KN1.out)
  clear KN1
  obtain ⟨k0, k1, k2, k3⟩ := hd_cells Kh1.out
  go_wp2_with fail
  clear k0 k1 k2 k3
  refine (HM.out _).mono ?_
  rintro e w2 ⟨rfl, hb2⟩
  have Kh2 := hide (Kh1.out.keep hb2)
  have Ka2 := hide (Ka1.out.keep hb2)
  have Kb2 := hide (Kb1.out.keep hb2)
  have Kg2 := hide (KG.out.keep hb2)
  have B2 := hide (B1.out.trans (hb2.mono B1.out.size))
  clear hb2 Kh1 Ka1 Kb1 KG B1
  obtain ⟨k0, k1, k2, k3⟩ := hd_cells Kh2.out
  go_wp2_with (refine wpList_load_blk rfl 35 (.tmp 6) rfl g rfl 35 ((Fr.start 4 f s 0).cs none 0 0) _ Kg2.out Try.underlying35 rfl rfr_sz ?_)
  clear k0 k1 k2 k3
  refine (HSZ.out _).mono ?_
  rintro e w3 ⟨rfl, hb3⟩
  have Kh3 := hide (Kh2.out.keep hb3)
  have Ka3 := hide (Ka2.out.keep hb3)
  have Kb3 := hide (Kb2.out.keep hb3)
  have Kg3 := hide (Kg2.out.keep hb3)
  have B3 := hide (B2.out.trans (hb3.mono B2.out.size))
  clear hb3 Kh2 Ka2 Kb2 Kg2 B2
  clear HSZ
  cases SZ with
  | true =>
    have HRV := hide (HRD.out.trans (if_pos rfl))
    clear hSZ HRD
    go_wp2_with (first
      | (refine wpList_store_blk rfl 35 (.tmp 4) (.tmp 50) rfl a (Fr.zero.cs none 0 0) (Fr.zero.cs none 0 0) 35 rfl rfl Ka3.out rfr_sz rfl (Fr.cs_one _ _ _ _) ?_)
      | (refine wpList_store_blk rfl 37 (.tmp 5) (.tmp 51) rfl b #[.int .i64 6, .int .i64 0] #[.int .i64 0, .int .i64 0] 37 rfl rfl (Kb3.out.row_other (Kb3.out.ne_ Ka3.out (by decide)) _) rfa_size rfl (fa_one _ _ rfl rfl) ?_))
    have hd := rr_done (Rd.fault 6 0) none 0 Ka3.out Kb3.out (i64_no16 0) (i64_no16 0) B3.out LA.out LB.out (PL.none_ _)
    rw [HRV.out]
    exact bodyPost_ret (results_rffa rfl _ _ a b Fr.zero none 0 0 _ _ rfl rfl hd.1 hd.2.1) rfl hd.2.2
  | false =>
    have HRV := hide (HRD.out.trans (if_neg (by simp)))
    clear HRD
    have hmod : x.size % 6 = 0 := by simp [sizB] at hSZ; omega
    obtain ⟨m, hm6⟩ : ∃ m, m = x.size / 6 := ⟨_, rfl⟩
    have hR : prsR (shR 4 f) (bts x) (x.size / 6) = prsL (bts x) m := by
      rw [← hm6]
      cases hh : hasB f 1 with
      | false => rw [show shR 4 f = true by simp [shR, hh]]; rfl
      | true =>
        have h0 : x.size = 0 := by
          apply Classical.byContradiction
          intro hc
          rw [show sizB 4 f (x.size : Int) = (decide ((x.size : Int) % 6 ≠ 0) || hasB f 1 && decide ((x.size : Int) ≠ 0)) from rfl, hh, decide_eq_true (show (x.size : Int) ≠ 0 by omega)] at hSZ
          simp at hSZ
        have hm0 : m = 0 := by omega
        rw [show shR 4 f = false by simp [shR, hh], hm0]; rfl
    rw [show fillF (shD 4 f) (shL 4) (shC 4) (shI 4) (shX 4) (Fr.start 4 f s 0) (bts x) = Fr.start 4 f s 0 from rfl, hR] at HRV
    clear hR hSZ
    have HM6 := hide (show x.size = 6 * m by omega)
    clear hmod hm6
    obtain ⟨k0, k1, k2, k3⟩ := hd_cells Kh3.out
    go_wp2_with fail
    clear k0 k1 k2 k3
    obtain ⟨L, hL⟩ : ∃ L, L = w3.heap.size := ⟨_, rfl⟩
    have Lgw := Lg
    have Lh_ := hide (show h < L by rw [hL]; exact Kh3.out.lt)
    have La_ := hide (show a < L by rw [hL]; exact Ka3.out.lt)
    have Lb_ := hide (show b < L by rw [hL]; exact Kb3.out.lt)
    have Lg_ := hide (show g < L by rw [hL]; exact Kg3.out.lt)
    have HWL := hide (show w.heap.size ≤ L by rw [hL]; exact B3.out.size)
    go_loopw [7] (fun i wr => ∃ (k : Nat) (A : Option Addr) (c : Nat), k ≤ m ∧ i = .int .i64 ((6 * k : Nat) : Int) ∧ wr.ownsRow L 75 2 (.slice A k c) k (pcs (prsL (bts x) k)) ∧ BlkIs wr g 35 ((Fr.start 4 f s 0).cs A k c) ∧ BlkIs wr h 23 #[.int .i64 ln, .int .u8 4, .int .u8 f, .int .i64 s] ∧ BlkIs wr a 35 (Fr.zero.cs none 0 0) ∧ BlkIs wr b 37 #[.int .i64 0, .int .i64 0] ∧ Below w.heap.size w wr ∧ L ≤ wr.heap.size) (fun i _ => x.size - (intOf i).toNat)
    case atStart => exact ⟨0, none, 0, by omega, rfl, World.ownsRow_nil _ _ _ _, Kg3.out, Kh3.out, Ka3.out, Kb3.out, B3.out, by rw [hL]; exact Nat.le_refl _⟩
    case round =>
      obtain ⟨k, A, c, hk, rfl, ho, hg, hh, ha, hb, hbw, hll⟩ := hrel
      have HO := hide ho
      have KRg := hide hg
      have KRh := hide hh
      have KRa := hide ha
      have KRb := hide hb
      have BW := hide hbw
      have HL := hide hll
      clear ho hg hh ha hb hbw hll hL Kh3 Ka3 Kb3 Kg3 B3
      obtain ⟨J, hJ⟩ : ∃ J, J = 6 * k := ⟨_, rfl⟩
      rw [← hJ]
      have HJ := hide hJ
      have hs6 := HM6.out
      by_cases hlt : k < m
      · obtain ⟨J2, hJ2⟩ : ∃ J2, J2 = J + 2 := ⟨_, rfl⟩
        obtain ⟨J6, hJ6⟩ : ∃ J6, J6 = J + 6 := ⟨_, rfl⟩
        have HJ6 := hide (show J6 = 6 * (k + 1) by omega)
        have e2 : IntKind.i64.wrap ((J : Int) + 2) = (J2 : Int) := by rw [IntWalk.i64_in _ (by omega)]; omega
        have e6 : IntKind.i64.wrap ((J : Int) + 6) = (J6 : Int) := by rw [IntWalk.i64_in _ (by omega)]; omega
        have j0 : (J : Int) < (x.size : Int) := by omega
        have j1 : (J : Int) ≤ (J2 : Int) := by omega
        have j2 : (J2 : Int) ≤ (J6 : Int) := by omega
        have j3 : (J6 : Int) ≤ (x.size : Int) := by omega
        have j4 : (J2 : Int) ≤ (x.size : Int) := by omega
        obtain ⟨X, hX⟩ : ∃ X, X = numL (bts (x.extract J J2)) := ⟨_, rfl⟩
        obtain ⟨V, hV⟩ : ∃ V, V = numL (bts (x.extract J2 J6)) := ⟨_, rfl⟩
        have HN1 := hide (fun w => rg_number (x.extract J J2) (by simp; omega) w)
        have HN2 := hide (fun w => rg_number (x.extract J2 J6) (by simp; omega) w)
        rw [← hX] at HN1
        rw [← hV] at HN2
        have hXB := numL_bd 2 (bts (x.extract J J2)) (bts_all _)
        have hVB := numL_bd 4 (bts (x.extract J2 J6)) (bts_all _)
        rw [List.take_of_length_le (by rw [bts_len]; simp; omega), ← hX] at hXB
        rw [List.take_of_length_le (by rw [bts_len]; simp; omega), ← hV] at hVB
        have HPA := hide (show prsL (bts x) k ++ [⟨X, V⟩] = prsL (bts x) (k + 1) by
          have hl := bts_len x
          have hx : X = (prAt (bts x) k).i := by rw [hX, bts_extract, hJ2, hJ, show 6 * k + 2 - 6 * k = 2 by omega]; exact num2 _ _ (by omega)
          have hv : V = (prAt (bts x) k).v := by rw [hV, bts_extract, hJ6, hJ2, hJ, show 6 * k + 6 - (6 * k + 2) = 4 by omega]; rfl
          rw [prsL_succ, hx, hv])
        have e16 : IntKind.u16.wrap X = X := IntWalk.u16_in _ (by omega)
        have e32 : IntKind.u32.wrap V = V := by rw [IntWalk.u32_in _ (by omega)]
        have HKM := hide (show (k : Int) ≤ 100000 by omega)
        have hl2 : (pcs (prsL (bts x) k)).length = k * 2 := by rw [pcs_len, prsL_len]
        have HLT := hide hlt
        clear hX hV hJ hJ2 hJ6 hs6 hlt hk hXB hVB
        go_wp2_with fail
        refine wp_region_noPanic ?_
        refine wp_region_held_drew (S := fun _ => True) (by kernel_rfl) trivial (fun hS => ?_)
        have Dh := hide KRh.out.drew
        have Da := hide KRa.out.drew
        have Db := hide KRb.out.drew
        have Dg := hide KRg.out.drew
        have DO := hide (own_keep2 HO.out (Below.refl _ _))
        have DB := hide ((Below.refl L wr).drew)
        generalize wr.drew = wd at Dh Da Db Dg DO DB ⊢
        refine wpAnyH_take (i := 0) (v := ?_) (by simp only [List.getElem?_toArray, List.getElem?_cons_zero] <;> exact rfl) (by kernel_rfl) (by kernel_rfl) (by kernel_rfl) (fun _ _ _ h => h) (Or.inl ⟨by rfl, ?_⟩) hS ?_
        rotate_left
        focus (intro w' hw'; go_simp; all_goals with_reducible rfl)
        try simp only [Act.put, List.setIfInBounds_toArray, List.set_cons_zero, List.set_cons_succ]
        refine wpAnyH_take (i := 2) (v := ?_) (by simp only [List.getElem?_toArray, List.getElem?_cons_succ, List.getElem?_cons_zero] <;> exact rfl) (by kernel_rfl) (by kernel_rfl) (by kernel_rfl) (fun _ _ _ h => h) (Or.inl ⟨by rfl, ?_⟩) hS ?_
        rotate_left
        focus (intro w' hw'; go_simp; all_goals with_reducible rfl)
        try simp only [Act.put, List.setIfInBounds_toArray, List.set_cons_zero, List.set_cons_succ]
        refine wpAnyH_take (i := 3) (v := ?_) (by simp only [List.getElem?_toArray, List.getElem?_cons_succ, List.getElem?_cons_zero] <;> exact rfl) (by kernel_rfl) (by kernel_rfl) (by kernel_rfl) (fun _ _ _ h => h) (Or.inl ⟨by rfl, ?_⟩) hS ?_
        rotate_left
        focus (intro w' hw'; go_simp; all_goals with_reducible rfl)
        try simp only [Act.put, List.setIfInBounds_toArray, List.set_cons_zero, List.set_cons_succ]
        refine wpAnyH_take (i := 4) (v := ?_) (by simp only [List.getElem?_toArray, List.getElem?_cons_succ, List.getElem?_cons_zero] <;> exact rfl) (by kernel_rfl) (by kernel_rfl) (by kernel_rfl) (fun _ _ _ h => h) (Or.inl ⟨by rfl, ?_⟩) hS ?_
        rotate_left
        focus (intro w' hw'; go_simp; all_goals with_reducible rfl)
        try simp only [Act.put, List.setIfInBounds_toArray, List.set_cons_zero, List.set_cons_succ]
        refine wpAnyH_take (i := 5) (v := ?_) (by simp only [List.getElem?_toArray, List.getElem?_cons_succ, List.getElem?_cons_zero] <;> exact rfl) (by kernel_rfl) (by kernel_rfl) (by kernel_rfl) (fun _ _ _ h => h) (Or.inl ⟨by rfl, ?_⟩) hS ?_
        rotate_left
        focus (intro w' hw'; go_simp; all_goals with_reducible rfl)
        try simp only [Act.put, List.setIfInBounds_toArray, List.set_cons_zero, List.set_cons_succ]
        refine wpAnyH_take (i := 6) (v := ?_) (by simp only [List.getElem?_toArray, List.getElem?_cons_succ, List.getElem?_cons_zero] <;> exact rfl) (by kernel_rfl) (by kernel_rfl) (by kernel_rfl) (fun _ _ _ h => h) (Or.inl ⟨by rfl, ?_⟩) hS ?_
        rotate_left
        focus (intro w' hw'; go_simp; all_goals with_reducible rfl)
        try simp only [Act.put, List.setIfInBounds_toArray, List.set_cons_zero, List.set_cons_succ]
        refine wpAnyH_take (i := 9) (v := ?_) (by simp only [List.getElem?_toArray, List.getElem?_cons_succ, List.getElem?_cons_zero] <;> exact rfl) (by kernel_rfl) (by kernel_rfl) (by kernel_rfl) (fun _ _ _ h => h) (Or.inl ⟨by rfl, ?_⟩) hS ?_
        rotate_left
        focus (intro w' hw'; go_simp; all_goals with_reducible rfl)
        try simp only [Act.put, List.setIfInBounds_toArray, List.set_cons_zero, List.set_cons_succ]
        refine wpAnyH_take (i := 10) (v := ?_) (by simp only [List.getElem?_toArray, List.getElem?_cons_succ, List.getElem?_cons_zero] <;> exact rfl) (by kernel_rfl) (by kernel_rfl) (by kernel_rfl) (fun _ _ _ h => h) (Or.inl ⟨by rfl, ?_⟩) hS ?_
        rotate_left
        focus (intro w' hw'; go_simp; all_goals with_reducible rfl)
        try simp only [Act.put, List.setIfInBounds_toArray, List.set_cons_zero, List.set_cons_succ]
        refine wpAnyH_take (i := 11) (v := ?_) (by simp only [List.getElem?_toArray, List.getElem?_cons_succ, List.getElem?_cons_zero] <;> exact rfl) (by kernel_rfl) (by kernel_rfl) (by kernel_rfl) (fun _ _ _ h => h) (Or.inl ⟨by rfl, ?_⟩) hS ?_
        rotate_left
        focus (intro w' hw'; go_simp; all_goals with_reducible rfl)
        try simp only [Act.put, List.setIfInBounds_toArray, List.set_cons_zero, List.set_cons_succ]
        refine wpAnyH_take (i := 12) (v := ?_) (by simp only [List.getElem?_toArray, List.getElem?_cons_succ, List.getElem?_cons_zero] <;> exact rfl) (by kernel_rfl) (by kernel_rfl) (by kernel_rfl) (fun _ _ _ h => h) (Or.inl ⟨by rfl, ?_⟩) hS ?_
        rotate_left
        focus (intro w' hw'; go_simp; all_goals with_reducible rfl)
        try simp only [Act.put, List.setIfInBounds_toArray, List.set_cons_zero, List.set_cons_succ]
        refine wpAnyH_take (i := 13) (v := ?_) (by simp only [List.getElem?_toArray, List.getElem?_cons_succ, List.getElem?_cons_zero] <;> exact rfl) (by kernel_rfl) (by kernel_rfl) (by kernel_rfl) (fun _ _ _ h => h) (Or.inl ⟨by rfl, ?_⟩) hS ?_
        rotate_left
        focus (intro w' hw'; go_simp; all_goals with_reducible rfl)
        try simp only [Act.put, List.setIfInBounds_toArray, List.set_cons_zero, List.set_cons_succ]
        refine wpAnyH_take (i := 14) (v := ?_) (by simp only [List.getElem?_toArray, List.getElem?_cons_succ, List.getElem?_cons_zero] <;> exact rfl) (by kernel_rfl) (by kernel_rfl) (by kernel_rfl) (fun _ _ _ h => h) (Or.inl ⟨by rfl, ?_⟩) hS ?_
        rotate_left
        focus (intro w' hw'; go_simp; all_goals with_reducible rfl)
        try simp only [Act.put, List.setIfInBounds_toArray, List.set_cons_zero, List.set_cons_succ]
        refine wpAnyH_ready (rs := [1, 7]) (by kernel_rfl) (by simp) ?_
        refine AllReadyH.cons (o := _) (by simp only [List.getElem?_toArray, List.getElem?_cons_succ, List.getElem?_cons_zero] <;> exact rfl) (fun K hK => ?_) ?_
        focus (
          have d11 := (Dg.out.cell 11).trans (show ((Fr.start 4 f s 0).cs A k c)[11]? = some (.slice A k c) from rfl)
          go_simp
          refine hK.out _ _ trivial (fun _ => ?_)
          clear d11
          clear hK K
          try simp only [Act.put, List.setIfInBounds_toArray, List.set_cons_zero, List.set_cons_succ]
          refine wpAnyH_ready (rs := [7]) (by kernel_rfl) (by simp) ?_
          refine AllReadyH.cons (o := _) (by simp only [List.getElem?_toArray, List.getElem?_cons_succ, List.getElem?_cons_zero] <;> exact rfl) (fun K hK => ?_) ?_
          focus (
            go_simp
            go_at_call 32
            refine (HN1.out _).mono ?_
            rintro e wc1 ⟨rfl, hb⟩
            have Ch1 := hide (Dh.out.keep hb)
            have Ca1 := hide (Da.out.keep hb)
            have Cb1 := hide (Db.out.keep hb)
            have Cg1 := hide (Dg.out.keep hb)
            have CO1 := hide (own_stay DO.out hb)
            have CB1 := hide (DB.out.trans (hb.mono (Nat.le_trans HL.out DB.out.size)))
            clear hb
            go_wp2_with fail
            refine hK.out _ _ trivial (fun _ => ?_)
            clear hK K
            try simp only [Act.put, List.setIfInBounds_toArray, List.set_cons_zero, List.set_cons_succ]
            refine wpAnyH_take (i := 8) (v := ?_) (by simp only [List.getElem?_toArray, List.getElem?_cons_succ, List.getElem?_cons_zero] <;> exact rfl) (by kernel_rfl) (by kernel_rfl) (by kernel_rfl) (fun _ _ _ h => h) (Or.inl ⟨by rfl, ?_⟩) hS ?_
            rotate_left
            focus (intro w' hw'; go_simp; all_goals with_reducible rfl)
            try simp only [Act.put, List.setIfInBounds_toArray, List.set_cons_zero, List.set_cons_succ]
            refine wpAnyH_ready (rs := [15]) (by kernel_rfl) (by simp) ?_
            refine AllReadyH.cons (o := _) (by simp only [List.getElem?_toArray, List.getElem?_cons_succ, List.getElem?_cons_zero] <;> exact rfl) (fun K hK => ?_) ?_
            focus (
              go_simp
              go_at_call 32
              refine (HN2.out _).mono ?_
              rintro e wc2 ⟨rfl, hb⟩
              have Ch2 := hide (Ch1.out.keep hb)
              have Ca2 := hide (Ca1.out.keep hb)
              have Cb2 := hide (Cb1.out.keep hb)
              have Cg2 := hide (Cg1.out.keep hb)
              have CO2 := hide (own_stay CO1.out hb)
              have CB2 := hide (CB1.out.trans (hb.mono (Nat.le_trans HL.out CB1.out.size)))
              clear hb
              go_wp2_with fail
              refine hK.out _ _ trivial (fun _ => ?_)
              clear hK K
              try simp only [Act.put, List.setIfInBounds_toArray, List.set_cons_zero, List.set_cons_succ]
              refine wpAnyH_take (i := 16) (v := ?_) (by simp only [List.getElem?_toArray, List.getElem?_cons_succ, List.getElem?_cons_zero] <;> exact rfl) (by kernel_rfl) (by kernel_rfl) (by kernel_rfl) (fun _ _ _ h => h) (Or.inl ⟨by rfl, ?_⟩) hS ?_
              rotate_left
              focus (intro w' hw'; go_simp; all_goals with_reducible rfl)
              try simp only [Act.put, List.setIfInBounds_toArray, List.set_cons_zero, List.set_cons_succ]
              refine wpAnyH_take (i := 17) (v := ?_) (by simp only [List.getElem?_toArray, List.getElem?_cons_succ, List.getElem?_cons_zero] <;> exact rfl) (by kernel_rfl) (by kernel_rfl) (by kernel_rfl) (fun _ _ _ h => h) (Or.inl ⟨by rfl, ?_⟩) hS ?_
              rotate_left
              focus (intro w' hw'; go_simp; all_goals with_reducible rfl)
              try simp only [Act.put, List.setIfInBounds_toArray, List.set_cons_zero, List.set_cons_succ]
              refine wpAnyH_ready (rs := [18]) (by kernel_rfl) (by simp) ?_
              refine AllReadyH.cons (o := _) (by simp only [List.getElem?_toArray, List.getElem?_cons_succ, List.getElem?_cons_zero] <;> exact rfl) (fun K hK => ?_) ?_
              focus (
                go_simp
                refine hK.out _ _ trivial (fun _ => ?_)
                have Ch3 := hide (Ch2.out.alloc (.cells #[.int .u16 X, .int .u32 V] 75))
                have Ca3 := hide (Ca2.out.alloc (.cells #[.int .u16 X, .int .u32 V] 75))
                have Cb3 := hide (Cb2.out.alloc (.cells #[.int .u16 X, .int .u32 V] 75))
                have Cg3 := hide (Cg2.out.alloc (.cells #[.int .u16 X, .int .u32 V] 75))
                have CO3 := hide (CO2.out.alloc (.cells #[.int .u16 X, .int .u32 V] 75))
                have CB3 := hide (CB2.out.alloc (Nat.le_trans HL.out CB2.out.size) (.cells #[.int .u16 X, .int .u32 V] 75))
                clear hK K
                try simp only [Act.put, List.setIfInBounds_toArray, List.set_cons_zero, List.set_cons_succ]
                refine wpAnyH_ready (rs := [19]) (by kernel_rfl) (by simp) ?_
                refine AllReadyH.cons (o := _) (by simp only [List.getElem?_toArray, List.getElem?_cons_succ, List.getElem?_cons_zero] <;> exact rfl) (fun K hK => ?_) ?_
                focus (
                  refine step_append_lies _ (by rfl) (.tmp 77) (.tmp 94) 26 (by rfl) L 75 i0 _ 2 8 Try.underlying26 hi0 hz0 hz1 hz2 rfl (by decide) (.slice A k c) k (pcs (prsL (bts x) k)) (by rfl) CO3.out ⟨wc2.heap.size, 0, none⟩ 1 1 [.int .u16 X, .int .u32 V] (by rfl) (by rfl) (World.news_of_block (cs := #[.int .u16 X, .int .u32 V]) (t := 75) (fr := (0, 0)) (heap_alloc_new wc2 _)) (by simp [Value.oneCell']) (by omega) (by have := HKM.out; unfold maxLen; omega) (by have := HKM.out; omega) (Nat.le_trans HL.out CB3.out.size) _ rfl ?_
                  intro gg cap w4 hown4 hgrow4 hat4 hlt4
                  have HO4 := hide hown4
                  have HB4 := hide (own_below' CO3.out CB3.out (Nat.le_refl _) HL.out hgrow4)
                  clear hown4 hgrow4 hat4 hlt4
                  have E4h := hide (KRh.out.under HB4.out Lh_.out)
                  have E4a := hide (KRa.out.under HB4.out La_.out)
                  have E4b := hide (KRb.out.under HB4.out Lb_.out)
                  have E4g := hide (KRg.out.under HB4.out Lg_.out)
                  refine hK.out _ _ trivial (fun _ => ?_)
                  clear hK K
                  try simp only [Act.put, List.setIfInBounds_toArray, List.set_cons_zero, List.set_cons_succ]
                  refine wpAnyH_take (i := 20) (v := ?_) (by simp only [List.getElem?_toArray, List.getElem?_cons_succ, List.getElem?_cons_zero] <;> exact rfl) (by kernel_rfl) (by kernel_rfl) (by kernel_rfl) (fun _ _ _ h => h) (Or.inl ⟨by rfl, ?_⟩) hS ?_
                  rotate_left
                  focus (intro w' hw'; go_simp; all_goals with_reducible rfl)
                  try simp only [Act.put, List.setIfInBounds_toArray, List.set_cons_zero, List.set_cons_succ]
                  refine wpAnyH_ready (rs := [21]) (by kernel_rfl) (by simp) ?_
                  refine AllReadyH.cons (o := _) (by simp only [List.getElem?_toArray, List.getElem?_cons_succ, List.getElem?_cons_zero] <;> exact rfl) (fun K hK => ?_) ?_
                  focus (
                    have d11 := (E4g.out.cell 11).trans (show ((Fr.start 4 f s 0).cs A k c)[11]? = some (.slice A k c) from rfl)
                    have z11 := E4g.out.frozen 11
                    go_simp
                    refine hK.out _ _ trivial (fun _ => ?_)
                    clear d11 z11
                    clear hK K
                    try simp only [Act.put]
                    refine wpAnyH_done (by kernel_rfl) ?_ _
                    refine NoPanic.normal ?_
                    clear hS
                    have G5 := hide (show BlkIs (w4.setCell ⟨g, 11, none⟩ (.slice (some ⟨gg, 0, none⟩) (k + 1) cap)) g _ ((Fr.start 4 f s 0).cs (some ⟨gg, 0, none⟩) (k + 1) cap) from E4g.out.put 11 (.slice (some ⟨gg, 0, none⟩) (k + 1) cap))
                    have H5 := hide (E4h.out.far (p := ⟨g, 11, none⟩) Nhg.out (.slice (some ⟨gg, 0, none⟩) (k + 1) cap))
                    have A5 := hide (E4a.out.far (p := ⟨g, 11, none⟩) Nag.out (.slice (some ⟨gg, 0, none⟩) (k + 1) cap))
                    have Bb5 := hide (E4b.out.far (p := ⟨g, 11, none⟩) Nbg.out (.slice (some ⟨gg, 0, none⟩) (k + 1) cap))
                    have O5 := hide (own_far (p := ⟨g, 11, none⟩) HO4.out Lg_.out (.slice (some ⟨gg, 0, none⟩) (k + 1) cap))
                    have B5 := hide ((BW.out.trans (HB4.out.mono HWL.out)).setCell (p := ⟨g, 11, none⟩) Lgw.out (.slice (some ⟨gg, 0, none⟩) (k + 1) cap))
                    have S5 := hide (show L ≤ (w4.setCell ⟨g, 11, none⟩ (.slice (some ⟨gg, 0, none⟩) (k + 1) cap)).heap.size from Nat.le_trans (Nat.le_trans HL.out HB4.out.size) ((Below.refl 0 w4).setCell (p := ⟨g, 11, none⟩) (Nat.zero_le _) (.slice (some ⟨gg, 0, none⟩) (k + 1) cap)).size)
                    go_wp2_with fail
                    go_roundw
                    case rel => exact ⟨k + 1, some ⟨gg, 0, none⟩, cap, by have := HLT.out; omega, by rw [HJ6.out], by rw [← HPA.out, pcs_append]; exact O5.out, G5.out, H5.out, A5.out, Bb5.out, B5.out, S5.out⟩
                    case measure => have h6_ := HJ6.out; have hj_ := HJ.out; simp [intOf]; omega)
                  exact AllReadyH.nil)
                exact AllReadyH.nil)
              exact AllReadyH.nil)
            exact AllReadyH.nil)
          exact AllReadyH.nil)
        refine AllReadyH.cons (o := _) (by simp only [List.getElem?_toArray, List.getElem?_cons_succ, List.getElem?_cons_zero] <;> exact rfl) (fun K hK => ?_) ?_
        focus (
          go_simp
          go_at_call 32
          refine (HN1.out _).mono ?_
          rintro e wc5 ⟨rfl, hb⟩
          have Ch5 := hide (Dh.out.keep hb)
          have Ca5 := hide (Da.out.keep hb)
          have Cb5 := hide (Db.out.keep hb)
          have Cg5 := hide (Dg.out.keep hb)
          have CO5 := hide (own_stay DO.out hb)
          have CB5 := hide (DB.out.trans (hb.mono (Nat.le_trans HL.out DB.out.size)))
          clear hb
          go_wp2_with fail
          refine hK.out _ _ trivial (fun _ => ?_)
          clear hK K
          try simp only [Act.put, List.setIfInBounds_toArray, List.set_cons_zero, List.set_cons_succ]
          refine wpAnyH_take (i := 8) (v := ?_) (by simp only [List.getElem?_toArray, List.getElem?_cons_succ, List.getElem?_cons_zero] <;> exact rfl) (by kernel_rfl) (by kernel_rfl) (by kernel_rfl) (fun _ _ _ h => h) (Or.inl ⟨by rfl, ?_⟩) hS ?_
          rotate_left
          focus (intro w' hw'; go_simp; all_goals with_reducible rfl)
          try simp only [Act.put, List.setIfInBounds_toArray, List.set_cons_zero, List.set_cons_succ]
          refine wpAnyH_ready (rs := [1, 15]) (by kernel_rfl) (by simp) ?_
          refine AllReadyH.cons (o := _) (by simp only [List.getElem?_toArray, List.getElem?_cons_succ, List.getElem?_cons_zero] <;> exact rfl) (fun K hK => ?_) ?_
          focus (
            have d11 := (Cg5.out.cell 11).trans (show ((Fr.start 4 f s 0).cs A k c)[11]? = some (.slice A k c) from rfl)
            go_simp
            refine hK.out _ _ trivial (fun _ => ?_)
            clear d11
            clear hK K
            try simp only [Act.put, List.setIfInBounds_toArray, List.set_cons_zero, List.set_cons_succ]
            refine wpAnyH_ready (rs := [15]) (by kernel_rfl) (by simp) ?_
            refine AllReadyH.cons (o := _) (by simp only [List.getElem?_toArray, List.getElem?_cons_succ, List.getElem?_cons_zero] <;> exact rfl) (fun K hK => ?_) ?_
            focus (
              go_simp
              go_at_call 32
              refine (HN2.out _).mono ?_
              rintro e wc6 ⟨rfl, hb⟩
              have Ch6 := hide (Ch5.out.keep hb)
              have Ca6 := hide (Ca5.out.keep hb)
              have Cb6 := hide (Cb5.out.keep hb)
              have Cg6 := hide (Cg5.out.keep hb)
              have CO6 := hide (own_stay CO5.out hb)
              have CB6 := hide (CB5.out.trans (hb.mono (Nat.le_trans HL.out CB5.out.size)))
              clear hb
              go_wp2_with fail
              refine hK.out _ _ trivial (fun _ => ?_)
              clear hK K
              try simp only [Act.put, List.setIfInBounds_toArray, List.set_cons_zero, List.set_cons_succ]
              refine wpAnyH_take (i := 16) (v := ?_) (by simp only [List.getElem?_toArray, List.getElem?_cons_succ, List.getElem?_cons_zero] <;> exact rfl) (by kernel_rfl) (by kernel_rfl) (by kernel_rfl) (fun _ _ _ h => h) (Or.inl ⟨by rfl, ?_⟩) hS ?_
              rotate_left
              focus (intro w' hw'; go_simp; all_goals with_reducible rfl)
              try simp only [Act.put, List.setIfInBounds_toArray, List.set_cons_zero, List.set_cons_succ]
              refine wpAnyH_take (i := 17) (v := ?_) (by simp only [List.getElem?_toArray, List.getElem?_cons_succ, List.getElem?_cons_zero] <;> exact rfl) (by kernel_rfl) (by kernel_rfl) (by kernel_rfl) (fun _ _ _ h => h) (Or.inl ⟨by rfl, ?_⟩) hS ?_
              rotate_left
              focus (intro w' hw'; go_simp; all_goals with_reducible rfl)
              try simp only [Act.put, List.setIfInBounds_toArray, List.set_cons_zero, List.set_cons_succ]
              refine wpAnyH_ready (rs := [18]) (by kernel_rfl) (by simp) ?_
              refine AllReadyH.cons (o := _) (by simp only [List.getElem?_toArray, List.getElem?_cons_succ, List.getElem?_cons_zero] <;> exact rfl) (fun K hK => ?_) ?_
              focus (
                go_simp
                refine hK.out _ _ trivial (fun _ => ?_)
                have Ch7 := hide (Ch6.out.alloc (.cells #[.int .u16 X, .int .u32 V] 75))
                have Ca7 := hide (Ca6.out.alloc (.cells #[.int .u16 X, .int .u32 V] 75))
                have Cb7 := hide (Cb6.out.alloc (.cells #[.int .u16 X, .int .u32 V] 75))
                have Cg7 := hide (Cg6.out.alloc (.cells #[.int .u16 X, .int .u32 V] 75))
                have CO7 := hide (CO6.out.alloc (.cells #[.int .u16 X, .int .u32 V] 75))
                have CB7 := hide (CB6.out.alloc (Nat.le_trans HL.out CB6.out.size) (.cells #[.int .u16 X, .int .u32 V] 75))
                clear hK K
                try simp only [Act.put, List.setIfInBounds_toArray, List.set_cons_zero, List.set_cons_succ]
                refine wpAnyH_ready (rs := [19]) (by kernel_rfl) (by simp) ?_
                refine AllReadyH.cons (o := _) (by simp only [List.getElem?_toArray, List.getElem?_cons_succ, List.getElem?_cons_zero] <;> exact rfl) (fun K hK => ?_) ?_
                focus (
                  refine step_append_lies _ (by rfl) (.tmp 77) (.tmp 94) 26 (by rfl) L 75 i0 _ 2 8 Try.underlying26 hi0 hz0 hz1 hz2 rfl (by decide) (.slice A k c) k (pcs (prsL (bts x) k)) (by rfl) CO7.out ⟨wc6.heap.size, 0, none⟩ 1 1 [.int .u16 X, .int .u32 V] (by rfl) (by rfl) (World.news_of_block (cs := #[.int .u16 X, .int .u32 V]) (t := 75) (fr := (0, 0)) (heap_alloc_new wc6 _)) (by simp [Value.oneCell']) (by omega) (by have := HKM.out; unfold maxLen; omega) (by have := HKM.out; omega) (Nat.le_trans HL.out CB7.out.size) _ rfl ?_
                  intro gg cap w4 hown4 hgrow4 hat4 hlt4
                  have HO4 := hide hown4
                  have HB4 := hide (own_below' CO7.out CB7.out (Nat.le_refl _) HL.out hgrow4)
                  clear hown4 hgrow4 hat4 hlt4
                  have E4h := hide (KRh.out.under HB4.out Lh_.out)
                  have E4a := hide (KRa.out.under HB4.out La_.out)
                  have E4b := hide (KRb.out.under HB4.out Lb_.out)
                  have E4g := hide (KRg.out.under HB4.out Lg_.out)
                  refine hK.out _ _ trivial (fun _ => ?_)
                  clear hK K
                  try simp only [Act.put, List.setIfInBounds_toArray, List.set_cons_zero, List.set_cons_succ]
                  refine wpAnyH_take (i := 20) (v := ?_) (by simp only [List.getElem?_toArray, List.getElem?_cons_succ, List.getElem?_cons_zero] <;> exact rfl) (by kernel_rfl) (by kernel_rfl) (by kernel_rfl) (fun _ _ _ h => h) (Or.inl ⟨by rfl, ?_⟩) hS ?_
                  rotate_left
                  focus (intro w' hw'; go_simp; all_goals with_reducible rfl)
                  try simp only [Act.put, List.setIfInBounds_toArray, List.set_cons_zero, List.set_cons_succ]
                  refine wpAnyH_ready (rs := [21]) (by kernel_rfl) (by simp) ?_
                  refine AllReadyH.cons (o := _) (by simp only [List.getElem?_toArray, List.getElem?_cons_succ, List.getElem?_cons_zero] <;> exact rfl) (fun K hK => ?_) ?_
                  focus (
                    have d11 := (E4g.out.cell 11).trans (show ((Fr.start 4 f s 0).cs A k c)[11]? = some (.slice A k c) from rfl)
                    have z11 := E4g.out.frozen 11
                    go_simp
                    refine hK.out _ _ trivial (fun _ => ?_)
                    clear d11 z11
                    clear hK K
                    try simp only [Act.put]
                    refine wpAnyH_done (by kernel_rfl) ?_ _
                    refine NoPanic.normal ?_
                    clear hS
                    have G5 := hide (show BlkIs (w4.setCell ⟨g, 11, none⟩ (.slice (some ⟨gg, 0, none⟩) (k + 1) cap)) g _ ((Fr.start 4 f s 0).cs (some ⟨gg, 0, none⟩) (k + 1) cap) from E4g.out.put 11 (.slice (some ⟨gg, 0, none⟩) (k + 1) cap))
                    have H5 := hide (E4h.out.far (p := ⟨g, 11, none⟩) Nhg.out (.slice (some ⟨gg, 0, none⟩) (k + 1) cap))
                    have A5 := hide (E4a.out.far (p := ⟨g, 11, none⟩) Nag.out (.slice (some ⟨gg, 0, none⟩) (k + 1) cap))
                    have Bb5 := hide (E4b.out.far (p := ⟨g, 11, none⟩) Nbg.out (.slice (some ⟨gg, 0, none⟩) (k + 1) cap))
                    have O5 := hide (own_far (p := ⟨g, 11, none⟩) HO4.out Lg_.out (.slice (some ⟨gg, 0, none⟩) (k + 1) cap))
                    have B5 := hide ((BW.out.trans (HB4.out.mono HWL.out)).setCell (p := ⟨g, 11, none⟩) Lgw.out (.slice (some ⟨gg, 0, none⟩) (k + 1) cap))
                    have S5 := hide (show L ≤ (w4.setCell ⟨g, 11, none⟩ (.slice (some ⟨gg, 0, none⟩) (k + 1) cap)).heap.size from Nat.le_trans (Nat.le_trans HL.out HB4.out.size) ((Below.refl 0 w4).setCell (p := ⟨g, 11, none⟩) (Nat.zero_le _) (.slice (some ⟨gg, 0, none⟩) (k + 1) cap)).size)
                    go_wp2_with fail
                    go_roundw
                    case rel => exact ⟨k + 1, some ⟨gg, 0, none⟩, cap, by have := HLT.out; omega, by rw [HJ6.out], by rw [← HPA.out, pcs_append]; exact O5.out, G5.out, H5.out, A5.out, Bb5.out, B5.out, S5.out⟩
                    case measure => have h6_ := HJ6.out; have hj_ := HJ.out; simp [intOf]; omega)
                  exact AllReadyH.nil)
                exact AllReadyH.nil)
              exact AllReadyH.nil)
            exact AllReadyH.nil)
          refine AllReadyH.cons (o := _) (by simp only [List.getElem?_toArray, List.getElem?_cons_succ, List.getElem?_cons_zero] <;> exact rfl) (fun K hK => ?_) ?_
          focus (
            go_simp
            go_at_call 32
            refine (HN2.out _).mono ?_
            rintro e wc9 ⟨rfl, hb⟩
            have Ch9 := hide (Ch5.out.keep hb)
            have Ca9 := hide (Ca5.out.keep hb)
            have Cb9 := hide (Cb5.out.keep hb)
            have Cg9 := hide (Cg5.out.keep hb)
            have CO9 := hide (own_stay CO5.out hb)
            have CB9 := hide (CB5.out.trans (hb.mono (Nat.le_trans HL.out CB5.out.size)))
            clear hb
            go_wp2_with fail
            refine hK.out _ _ trivial (fun _ => ?_)
            clear hK K
            try simp only [Act.put, List.setIfInBounds_toArray, List.set_cons_zero, List.set_cons_succ]
            refine wpAnyH_take (i := 16) (v := ?_) (by simp only [List.getElem?_toArray, List.getElem?_cons_succ, List.getElem?_cons_zero] <;> exact rfl) (by kernel_rfl) (by kernel_rfl) (by kernel_rfl) (fun _ _ _ h => h) (Or.inl ⟨by rfl, ?_⟩) hS ?_
            rotate_left
            focus (intro w' hw'; go_simp; all_goals with_reducible rfl)
            try simp only [Act.put, List.setIfInBounds_toArray, List.set_cons_zero, List.set_cons_succ]
            refine wpAnyH_take (i := 17) (v := ?_) (by simp only [List.getElem?_toArray, List.getElem?_cons_succ, List.getElem?_cons_zero] <;> exact rfl) (by kernel_rfl) (by kernel_rfl) (by kernel_rfl) (fun _ _ _ h => h) (Or.inl ⟨by rfl, ?_⟩) hS ?_
            rotate_left
            focus (intro w' hw'; go_simp; all_goals with_reducible rfl)
            try simp only [Act.put, List.setIfInBounds_toArray, List.set_cons_zero, List.set_cons_succ]
            refine wpAnyH_ready (rs := [1, 18]) (by kernel_rfl) (by simp) ?_
            refine AllReadyH.cons (o := _) (by simp only [List.getElem?_toArray, List.getElem?_cons_succ, List.getElem?_cons_zero] <;> exact rfl) (fun K hK => ?_) ?_
            focus (
              have d11 := (Cg9.out.cell 11).trans (show ((Fr.start 4 f s 0).cs A k c)[11]? = some (.slice A k c) from rfl)
              go_simp
              refine hK.out _ _ trivial (fun _ => ?_)
              clear d11
              clear hK K
              try simp only [Act.put, List.setIfInBounds_toArray, List.set_cons_zero, List.set_cons_succ]
              refine wpAnyH_ready (rs := [18]) (by kernel_rfl) (by simp) ?_
              refine AllReadyH.cons (o := _) (by simp only [List.getElem?_toArray, List.getElem?_cons_succ, List.getElem?_cons_zero] <;> exact rfl) (fun K hK => ?_) ?_
              focus (
                go_simp
                refine hK.out _ _ trivial (fun _ => ?_)
                have Ch10 := hide (Ch9.out.alloc (.cells #[.int .u16 X, .int .u32 V] 75))
                have Ca10 := hide (Ca9.out.alloc (.cells #[.int .u16 X, .int .u32 V] 75))
                have Cb10 := hide (Cb9.out.alloc (.cells #[.int .u16 X, .int .u32 V] 75))
                have Cg10 := hide (Cg9.out.alloc (.cells #[.int .u16 X, .int .u32 V] 75))
                have CO10 := hide (CO9.out.alloc (.cells #[.int .u16 X, .int .u32 V] 75))
                have CB10 := hide (CB9.out.alloc (Nat.le_trans HL.out CB9.out.size) (.cells #[.int .u16 X, .int .u32 V] 75))
                clear hK K
                try simp only [Act.put, List.setIfInBounds_toArray, List.set_cons_zero, List.set_cons_succ]
                refine wpAnyH_ready (rs := [19]) (by kernel_rfl) (by simp) ?_
                refine AllReadyH.cons (o := _) (by simp only [List.getElem?_toArray, List.getElem?_cons_succ, List.getElem?_cons_zero] <;> exact rfl) (fun K hK => ?_) ?_
                focus (
                  refine step_append_lies _ (by rfl) (.tmp 77) (.tmp 94) 26 (by rfl) L 75 i0 _ 2 8 Try.underlying26 hi0 hz0 hz1 hz2 rfl (by decide) (.slice A k c) k (pcs (prsL (bts x) k)) (by rfl) CO10.out ⟨wc9.heap.size, 0, none⟩ 1 1 [.int .u16 X, .int .u32 V] (by rfl) (by rfl) (World.news_of_block (cs := #[.int .u16 X, .int .u32 V]) (t := 75) (fr := (0, 0)) (heap_alloc_new wc9 _)) (by simp [Value.oneCell']) (by omega) (by have := HKM.out; unfold maxLen; omega) (by have := HKM.out; omega) (Nat.le_trans HL.out CB10.out.size) _ rfl ?_
                  intro gg cap w4 hown4 hgrow4 hat4 hlt4
                  have HO4 := hide hown4
                  have HB4 := hide (own_below' CO10.out CB10.out (Nat.le_refl _) HL.out hgrow4)
                  clear hown4 hgrow4 hat4 hlt4
                  have E4h := hide (KRh.out.under HB4.out Lh_.out)
                  have E4a := hide (KRa.out.under HB4.out La_.out)
                  have E4b := hide (KRb.out.under HB4.out Lb_.out)
                  have E4g := hide (KRg.out.under HB4.out Lg_.out)
                  refine hK.out _ _ trivial (fun _ => ?_)
                  clear hK K
                  try simp only [Act.put, List.setIfInBounds_toArray, List.set_cons_zero, List.set_cons_succ]
                  refine wpAnyH_take (i := 20) (v := ?_) (by simp only [List.getElem?_toArray, List.getElem?_cons_succ, List.getElem?_cons_zero] <;> exact rfl) (by kernel_rfl) (by kernel_rfl) (by kernel_rfl) (fun _ _ _ h => h) (Or.inl ⟨by rfl, ?_⟩) hS ?_
                  rotate_left
                  focus (intro w' hw'; go_simp; all_goals with_reducible rfl)
                  try simp only [Act.put, List.setIfInBounds_toArray, List.set_cons_zero, List.set_cons_succ]
                  refine wpAnyH_ready (rs := [21]) (by kernel_rfl) (by simp) ?_
                  refine AllReadyH.cons (o := _) (by simp only [List.getElem?_toArray, List.getElem?_cons_succ, List.getElem?_cons_zero] <;> exact rfl) (fun K hK => ?_) ?_
                  focus (
                    have d11 := (E4g.out.cell 11).trans (show ((Fr.start 4 f s 0).cs A k c)[11]? = some (.slice A k c) from rfl)
                    have z11 := E4g.out.frozen 11
                    go_simp
                    refine hK.out _ _ trivial (fun _ => ?_)
                    clear d11 z11
                    clear hK K
                    try simp only [Act.put]
                    refine wpAnyH_done (by kernel_rfl) ?_ _
                    refine NoPanic.normal ?_
                    clear hS
                    have G5 := hide (show BlkIs (w4.setCell ⟨g, 11, none⟩ (.slice (some ⟨gg, 0, none⟩) (k + 1) cap)) g _ ((Fr.start 4 f s 0).cs (some ⟨gg, 0, none⟩) (k + 1) cap) from E4g.out.put 11 (.slice (some ⟨gg, 0, none⟩) (k + 1) cap))
                    have H5 := hide (E4h.out.far (p := ⟨g, 11, none⟩) Nhg.out (.slice (some ⟨gg, 0, none⟩) (k + 1) cap))
                    have A5 := hide (E4a.out.far (p := ⟨g, 11, none⟩) Nag.out (.slice (some ⟨gg, 0, none⟩) (k + 1) cap))
                    have Bb5 := hide (E4b.out.far (p := ⟨g, 11, none⟩) Nbg.out (.slice (some ⟨gg, 0, none⟩) (k + 1) cap))
                    have O5 := hide (own_far (p := ⟨g, 11, none⟩) HO4.out Lg_.out (.slice (some ⟨gg, 0, none⟩) (k + 1) cap))
                    have B5 := hide ((BW.out.trans (HB4.out.mono HWL.out)).setCell (p := ⟨g, 11, none⟩) Lgw.out (.slice (some ⟨gg, 0, none⟩) (k + 1) cap))
                    have S5 := hide (show L ≤ (w4.setCell ⟨g, 11, none⟩ (.slice (some ⟨gg, 0, none⟩) (k + 1) cap)).heap.size from Nat.le_trans (Nat.le_trans HL.out HB4.out.size) ((Below.refl 0 w4).setCell (p := ⟨g, 11, none⟩) (Nat.zero_le _) (.slice (some ⟨gg, 0, none⟩) (k + 1) cap)).size)
                    go_wp2_with fail
                    go_roundw
                    case rel => exact ⟨k + 1, some ⟨gg, 0, none⟩, cap, by have := HLT.out; omega, by rw [HJ6.out], by rw [← HPA.out, pcs_append]; exact O5.out, G5.out, H5.out, A5.out, Bb5.out, B5.out, S5.out⟩
                    case measure => have h6_ := HJ6.out; have hj_ := HJ.out; simp [intOf]; omega)
                  exact AllReadyH.nil)
                exact AllReadyH.nil)
              exact AllReadyH.nil)
            refine AllReadyH.cons (o := _) (by simp only [List.getElem?_toArray, List.getElem?_cons_succ, List.getElem?_cons_zero] <;> exact rfl) (fun K hK => ?_) ?_
            focus (
              go_simp
              refine hK.out _ _ trivial (fun _ => ?_)
              have Ch12 := hide (Ch9.out.alloc (.cells #[.int .u16 X, .int .u32 V] 75))
              have Ca12 := hide (Ca9.out.alloc (.cells #[.int .u16 X, .int .u32 V] 75))
              have Cb12 := hide (Cb9.out.alloc (.cells #[.int .u16 X, .int .u32 V] 75))
              have Cg12 := hide (Cg9.out.alloc (.cells #[.int .u16 X, .int .u32 V] 75))
              have CO12 := hide (CO9.out.alloc (.cells #[.int .u16 X, .int .u32 V] 75))
              have CB12 := hide (CB9.out.alloc (Nat.le_trans HL.out CB9.out.size) (.cells #[.int .u16 X, .int .u32 V] 75))
              clear hK K
              try simp only [Act.put, List.setIfInBounds_toArray, List.set_cons_zero, List.set_cons_succ]
              refine wpAnyH_ready (rs := [1]) (by kernel_rfl) (by simp) ?_
              refine AllReadyH.cons (o := _) (by simp only [List.getElem?_toArray, List.getElem?_cons_succ, List.getElem?_cons_zero] <;> exact rfl) (fun K hK => ?_) ?_
              focus (
                have d11 := (Cg12.out.cell 11).trans (show ((Fr.start 4 f s 0).cs A k c)[11]? = some (.slice A k c) from rfl)
                go_simp
                refine hK.out _ _ trivial (fun _ => ?_)
                clear d11
                clear hK K
                try simp only [Act.put, List.setIfInBounds_toArray, List.set_cons_zero, List.set_cons_succ]
                refine wpAnyH_ready (rs := [19]) (by kernel_rfl) (by simp) ?_
                refine AllReadyH.cons (o := _) (by simp only [List.getElem?_toArray, List.getElem?_cons_succ, List.getElem?_cons_zero] <;> exact rfl) (fun K hK => ?_) ?_
                focus (
                  refine step_append_lies _ (by rfl) (.tmp 77) (.tmp 94) 26 (by rfl) L 75 i0 _ 2 8 Try.underlying26 hi0 hz0 hz1 hz2 rfl (by decide) (.slice A k c) k (pcs (prsL (bts x) k)) (by rfl) CO12.out ⟨wc9.heap.size, 0, none⟩ 1 1 [.int .u16 X, .int .u32 V] (by rfl) (by rfl) (World.news_of_block (cs := #[.int .u16 X, .int .u32 V]) (t := 75) (fr := (0, 0)) (heap_alloc_new wc9 _)) (by simp [Value.oneCell']) (by omega) (by have := HKM.out; unfold maxLen; omega) (by have := HKM.out; omega) (Nat.le_trans HL.out CB12.out.size) _ rfl ?_
                  intro gg cap w4 hown4 hgrow4 hat4 hlt4
                  have HO4 := hide hown4
                  have HB4 := hide (own_below' CO12.out CB12.out (Nat.le_refl _) HL.out hgrow4)
                  clear hown4 hgrow4 hat4 hlt4
                  have E4h := hide (KRh.out.under HB4.out Lh_.out)
                  have E4a := hide (KRa.out.under HB4.out La_.out)
                  have E4b := hide (KRb.out.under HB4.out Lb_.out)
                  have E4g := hide (KRg.out.under HB4.out Lg_.out)
                  refine hK.out _ _ trivial (fun _ => ?_)
                  clear hK K
                  try simp only [Act.put, List.setIfInBounds_toArray, List.set_cons_zero, List.set_cons_succ]
                  refine wpAnyH_take (i := 20) (v := ?_) (by simp only [List.getElem?_toArray, List.getElem?_cons_succ, List.getElem?_cons_zero] <;> exact rfl) (by kernel_rfl) (by kernel_rfl) (by kernel_rfl) (fun _ _ _ h => h) (Or.inl ⟨by rfl, ?_⟩) hS ?_
                  rotate_left
                  focus (intro w' hw'; go_simp; all_goals with_reducible rfl)
                  try simp only [Act.put, List.setIfInBounds_toArray, List.set_cons_zero, List.set_cons_succ]
                  refine wpAnyH_ready (rs := [21]) (by kernel_rfl) (by simp) ?_
                  refine AllReadyH.cons (o := _) (by simp only [List.getElem?_toArray, List.getElem?_cons_succ, List.getElem?_cons_zero] <;> exact rfl) (fun K hK => ?_) ?_
                  focus (
                    have d11 := (E4g.out.cell 11).trans (show ((Fr.start 4 f s 0).cs A k c)[11]? = some (.slice A k c) from rfl)
                    have z11 := E4g.out.frozen 11
                    go_simp
                    refine hK.out _ _ trivial (fun _ => ?_)
                    clear d11 z11
                    clear hK K
                    try simp only [Act.put]
                    refine wpAnyH_done (by kernel_rfl) ?_ _
                    refine NoPanic.normal ?_
                    clear hS
                    have G5 := hide (show BlkIs (w4.setCell ⟨g, 11, none⟩ (.slice (some ⟨gg, 0, none⟩) (k + 1) cap)) g _ ((Fr.start 4 f s 0).cs (some ⟨gg, 0, none⟩) (k + 1) cap) from E4g.out.put 11 (.slice (some ⟨gg, 0, none⟩) (k + 1) cap))
                    have H5 := hide (E4h.out.far (p := ⟨g, 11, none⟩) Nhg.out (.slice (some ⟨gg, 0, none⟩) (k + 1) cap))
                    have A5 := hide (E4a.out.far (p := ⟨g, 11, none⟩) Nag.out (.slice (some ⟨gg, 0, none⟩) (k + 1) cap))
                    have Bb5 := hide (E4b.out.far (p := ⟨g, 11, none⟩) Nbg.out (.slice (some ⟨gg, 0, none⟩) (k + 1) cap))
                    have O5 := hide (own_far (p := ⟨g, 11, none⟩) HO4.out Lg_.out (.slice (some ⟨gg, 0, none⟩) (k + 1) cap))
                    have B5 := hide ((BW.out.trans (HB4.out.mono HWL.out)).setCell (p := ⟨g, 11, none⟩) Lgw.out (.slice (some ⟨gg, 0, none⟩) (k + 1) cap))
                    have S5 := hide (show L ≤ (w4.setCell ⟨g, 11, none⟩ (.slice (some ⟨gg, 0, none⟩) (k + 1) cap)).heap.size from Nat.le_trans (Nat.le_trans HL.out HB4.out.size) ((Below.refl 0 w4).setCell (p := ⟨g, 11, none⟩) (Nat.zero_le _) (.slice (some ⟨gg, 0, none⟩) (k + 1) cap)).size)
                    go_wp2_with fail
                    go_roundw
                    case rel => exact ⟨k + 1, some ⟨gg, 0, none⟩, cap, by have := HLT.out; omega, by rw [HJ6.out], by rw [← HPA.out, pcs_append]; exact O5.out, G5.out, H5.out, A5.out, Bb5.out, B5.out, S5.out⟩
                    case measure => have h6_ := HJ6.out; have hj_ := HJ.out; simp [intOf]; omega)
                  exact AllReadyH.nil)
                exact AllReadyH.nil)
              exact AllReadyH.nil)
            exact AllReadyH.nil)
          exact AllReadyH.nil)
        exact AllReadyH.nil
      · have hkm : k = m := by omega
        subst hkm
        have j0 : ¬ (J : Int) < (x.size : Int) := by omega
        have hp := PL.of_own HO.out
        obtain ⟨LV, hLV⟩ : ∃ LV, LV = prsL (bts x) k := ⟨_, rfl⟩
        rw [← hLV] at HRV hp
        have hlen : k = LV.length := by rw [hLV, prsL_len]
        rw [hlen] at KRg hp
        clear hLV HO hs6 HJ hJ hk HM6 hlt hlen
        go_wp2_with (first
          | (refine wpList_load_blk rfl 35 (.tmp 6) rfl g rfl 35 ((Fr.start 4 f s 0).cs A LV.length c) _ KRg.out Try.underlying35 rfl rfr_sz ?_)
          | (refine wpList_store_blk rfl 35 (.tmp 4) (.tmp 122) rfl a ((Fr.start 4 f s 0).cs A LV.length c) (Fr.zero.cs none 0 0) 35 rfl rfl KRa.out rfr_sz rfl (Fr.cs_one _ _ _ _) ?_)
          | (refine wpList_store_blk rfl 37 (.tmp 5) (.tmp 123) rfl b #[.int .i64 0, .int .i64 0] #[.int .i64 0, .int .i64 0] 37 rfl rfl (KRb.out.row_other (KRb.out.ne_ KRa.out (by decide)) _) rfa_size rfl (fa_one _ _ rfl rfl) ?_))
        have hd := rr_done ⟨(Fr.start 4 f s 0), LV, 0, 0⟩ A c KRa.out KRb.out (i64_no16 0) (i64_no16 0) BW.out LA.out LB.out hp
        rw [HRV.out]
        exact bodyPost_ret (results_rffa rfl _ _ a b (Fr.start 4 f s 0) A LV.length c _ _ rfl rfl hd.1 hd.2.1) rfl hd.2.2
end Go.Proofs.Ytefdhbljcnpggaa
