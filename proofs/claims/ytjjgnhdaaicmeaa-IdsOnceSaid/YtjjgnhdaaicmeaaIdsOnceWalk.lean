/-
  IdsOnce: its walk (written by gen15once.py).
-/
import Derived.Test.YtjjgnhdaaicmeaaIdsOnceMath
import Derived.Test.YtjjgnhdaaicmeaaRegW
import Derived.BigGuardPart
namespace Go.Proofs.Ytjjgnhdaaicmeaa.idsOnce
set_option linter.unusedSimpArgs false
set_option linter.unusedVariables false
open Go.RowKit

set_option maxRecDepth 100000 in
set_option maxHeartbeats 6400000 in
theorem walk (A0 : Option Addr) (N c0 : Nat) (l : List Ac) (w : World) (hl : CL w A0 N c0 l) (hx : AllC l) :
    Calls Try.prog 4 #[.slice A0 N c0] w fun e w' => e = .returned (.bool true) ∧ Below w.heap.size w w' := by
  have HAW := hide (fun w => aw_ids w)
  by_cases hN : (N : Int) ≤ 80
  · have hN' : ¬ (80 : Int) < (N : Int) := by omega
    have HL := hide hl
    have HX := hide hx
    have hz := run_zero_is tb_zero
    obtain ⟨g, hg⟩ : ∃ g, g = w.heap.size := ⟨_, rfl⟩
    have HGE := hide (show w.heap.size ≤ g by rw [hg]; exact Nat.le_refl _)
    have HS0 := hide (show St w g (w.alloc (.cells #[.int .i64 0, .slice none 0 0, .slice none 0 0] 28)) 0 [] [] none 0 0 none 0 0 from ⟨by rw [hg]; exact BlkIs.new w _ _, tl_none _, ⟨.inl rfl, .inl rfl⟩, ok_zero, by decide, bel1 w _⟩)
    clear hl hx
    go_enter Try.func4, Try.ntmps4
    go_wp2_with fail
    rw [← hg]
    clear hg
    go_loopw [4, 5] (fun s4 s5 wr => ∃ (i : Nat) (L : Int) (op cu : List Int) (A : Option Addr) (n c : Nat) (B : Option Addr) (m d : Nat), i ≤ N ∧ s5 = .int .i64 (i : Int) ∧ s4 = .int .i64 L ∧ Hid (St w g wr L op cu A n c B m d)) (fun _ s5 _ => N - (intOf s5).toNat)
    case atStart => exact ⟨0, 0, [], [], none, 0, 0, none, 0, 0, by omega, rfl, rfl, HS0.out⟩
    case round =>
      clear HS0
      obtain ⟨i, L, op, cu, A, n, c, B, m, d, hi, rfl, rfl, HS⟩ := hrel
      by_cases hlt : i < N
      · have hlt' : (i : Int) < (N : Int) := by omega
        obtain ⟨⟨k, ev, cv⟩, b, off, hx, rfl, hbl, c0, c1, c2⟩ := HL.out.round hlt
        have hk := HX.out _ (List.mem_of_getElem? hx)
        simp only at hk c0 c1 c2
        have hk0 : 0 ≤ k := hk.1
        have hk1 : k ≤ 255 := hk.2
        have HBL := hide hbl
        have HCL1 := hide c1
        have HCL2 := hide c2
        have e0 := (HS.out.bel.cell (p := ⟨b, off + i * 3, none⟩) hbl).trans c0
        obtain ⟨u, hu⟩ : ∃ u, clsI ⟨L, op, cu⟩ k = u := ⟨_, rfl⟩
        have HU := hide hu
        have HC1 := hide (HS.out.cls k hu)
        obtain ⟨j0, j1, j2⟩ := cells3 HS.out.blk
        clear hk hx hbl c0 c1 c2 hu
        go_wp2_with fail
        refine HC1.out.mono ?_
        rintro e w2 ⟨rfl, hb2⟩
        have HS2 := hide (HS.out.keep hb2)
        clear j0 j1 j2 e0 hb2 HC1 HS
        obtain ⟨j0, j1, j2⟩ := cells3 HS2.out.blk
        have e1 := (HS2.out.bel.cell (p := ⟨b, off + i * 3 + 1, none⟩) HBL.out).trans HCL1.out
        cases ev with
        | true =>
          obtain ⟨⟨L2, op2, cu2⟩, hE⟩ : ∃ T2, endI ⟨L, op, cu⟩ k cv = T2 := ⟨_, rfl⟩
          obtain rfl : L2 = L := by have := end_l (T := ⟨L, op, cu⟩) (id := k) (cut := cv); rw [hE] at this; exact this
          have HE := hide hE
          have HOK2 := hide (show OkT ⟨L2, op2, cu2⟩ by rw [← hE]; exact end_ok HS2.out.ok)
          have HEN := hide (fun (wd : World) (h : St w g wd L2 op cu A n c B m d) => h.end_ k cv hk0 hk1 hE)
          clear hE
          go_upto_region 11 with (fail)
          clear j0 j1 j2 e1
          refine wp_region_noPanic ?_
          refine wp_region_held_drew (S := fun w' => Below w.heap.size w w') (by kernel_rfl) HS2.out.bel.drew (fun hS => ?_)
          have ES : St w g w2.drew L2 op cu A n c B m d := HS2.out.keep (Below.refl _ _).drew
          generalize w2.drew = wd at hS ES ⊢
          refine wpAnyH_take (i := 1) (v := ?_) (by simp only [List.getElem?_toArray, List.getElem?_cons_succ, List.getElem?_cons_zero] <;> exact rfl) (by kernel_rfl) (by kernel_rfl) (by kernel_rfl) (fun _ _ _ h => h) (Or.inl ⟨by rfl, ?_⟩) hS ?_
          rotate_left
          focus (intro w' hw'; go_simp; all_goals with_reducible rfl)
          try simp only [Act.put, List.setIfInBounds_toArray, List.set_cons_zero, List.set_cons_succ]
          refine wpAnyH_take (i := 2) (v := ?_) (by simp only [List.getElem?_toArray, List.getElem?_cons_succ, List.getElem?_cons_zero] <;> exact rfl) (by kernel_rfl) (by kernel_rfl) (by kernel_rfl) (fun _ _ _ h => h) (Or.inl ⟨by rfl, ?_⟩) hS ?_
          rotate_left
          focus (intro w' hw'; go_simp; all_goals with_reducible rfl)
          try simp only [Act.put, List.setIfInBounds_toArray, List.set_cons_zero, List.set_cons_succ]
          refine wpAnyH_take (i := 3) (v := ?_) (by simp only [List.getElem?_toArray, List.getElem?_cons_succ, List.getElem?_cons_zero] <;> exact rfl) (by kernel_rfl) (by kernel_rfl) (by kernel_rfl) (fun _ _ _ h => h) (Or.inl ⟨by rfl, ?_⟩) hS ?_
          rotate_left
          focus (intro w' hw'; go_simp; all_goals with_reducible rfl)
          try simp only [Act.put, List.setIfInBounds_toArray, List.set_cons_zero, List.set_cons_succ]
          refine wpAnyH_take (i := 4) (v := ?_) (by simp only [List.getElem?_toArray, List.getElem?_cons_succ, List.getElem?_cons_zero] <;> exact rfl) (by kernel_rfl) (by kernel_rfl) (by kernel_rfl) (fun _ _ _ h => h) (Or.inl ⟨by rfl, ?_⟩) hS ?_
          rotate_left
          focus (intro w' hw'; have kk : (i : Int) < (N : Int) := hlt'; go_simp; all_goals with_reducible rfl)
          try simp only [Act.put, List.setIfInBounds_toArray, List.set_cons_zero, List.set_cons_succ]
          refine wpAnyH_take (i := 5) (v := ?_) (by simp only [List.getElem?_toArray, List.getElem?_cons_succ, List.getElem?_cons_zero] <;> exact rfl) (by kernel_rfl) (by kernel_rfl) (by kernel_rfl) (fun _ _ _ h => h) (Or.inl ⟨by rfl, ?_⟩) hS ?_
          rotate_left
          focus (intro w' hw'; go_simp; all_goals with_reducible rfl)
          try simp only [Act.put, List.setIfInBounds_toArray, List.set_cons_zero, List.set_cons_succ]
          refine wpAnyH_take (i := 6) (v := ?_) (by simp only [List.getElem?_toArray, List.getElem?_cons_succ, List.getElem?_cons_zero] <;> exact rfl) (by kernel_rfl) (by kernel_rfl) (by kernel_rfl) (fun _ _ _ h => h) (Or.inl ⟨by rfl, ?_⟩) hS ?_
          rotate_left
          focus (intro w' hw'; have kk := (hw'.cell (p := ⟨b, off + i * 3 + 2, none⟩) HBL.out).trans HCL2.out; go_simp; all_goals with_reducible rfl)
          try simp only [Act.put, List.setIfInBounds_toArray, List.set_cons_zero, List.set_cons_succ]
          refine wpAnyH_ready (rs := [0]) (by kernel_rfl) (by simp) ?_
          refine AllReadyH.cons (o := _) (by simp only [List.getElem?_toArray, List.getElem?_cons_succ, List.getElem?_cons_zero] <;> exact rfl) (fun K hK => ?_) ?_
          focus (
            refine rgs_ld_blk (by rfl) 28 (.tmp 3) (by rfl) g (by rfl) 28 #[.int .i64 L2, .slice A n c, .slice B m d] _ ES.blk Try.underlying28 rfl tb_size ?_
            refine hK.out _ _ hS (fun _ => ?_)
            clear hK K
            try simp only [Act.put, List.setIfInBounds_toArray, List.set_cons_zero, List.set_cons_succ]
            refine wpAnyH_ready (rs := [7]) (by kernel_rfl) (by simp) ?_
            refine AllReadyH.cons (o := _) (by simp only [List.getElem?_toArray, List.getElem?_cons_succ, List.getElem?_cons_zero] <;> exact rfl) (fun K hK => ?_) ?_
            focus (
              go_simp
              go_at_call 13
              refine ((HEN.out _ ES)).mono ?_
              rintro e wc1 ⟨⟨A2, n2, c2, B2, m2, d2, rfl, ht2, hap2⟩, hb⟩
              have hS := hS.trans (hb.mono hS.size)
              have EG2 := ES.blk.keep hb
              have AP2 := hap2 g ES.blk.lt ES.ap
              clear hb
              go_wp2_with fail
              refine hK.out _ _ hS (fun _ => ?_)
              clear hK K
              try simp only [Act.put, List.setIfInBounds_toArray, List.set_cons_zero, List.set_cons_succ]
              refine wpAnyH_ready (rs := [8]) (by kernel_rfl) (by simp) ?_
              refine AllReadyH.cons (o := _) (by simp only [List.getElem?_toArray, List.getElem?_cons_succ, List.getElem?_cons_zero] <;> exact rfl) (fun K hK => ?_) ?_
              focus (
                refine rgs_store_blk (by rfl) 28 (.tmp 3) (.tmp 44) (by rfl) g #[.int .i64 L2, .slice A2 n2 c2, .slice B2 m2 d2] #[.int .i64 L2, .slice A n c, .slice B m d] 28 (by rfl) (by rfl) EG2 tb_size rfl (tb_one L2 A2 B2 n2 c2 m2 d2) ?_
                have EG3 := EG2.row #[.int .i64 L2, .slice A2 n2 c2, .slice B2 m2 d2]
                have ET3 := ht2.kbx AP2 ((KB.refl (· = g) wc1).setRow (fun _ => rfl) #[.int .i64 L2, .slice A2 n2 c2, .slice B2 m2 d2])
                have hS := below_setRow hS HGE.out #[.int .i64 L2, .slice A2 n2 c2, .slice B2 m2 d2]
                refine hK.out _ _ hS (fun _ => ?_)
                generalize wc1.setRow g #[.int .i64 L2, .slice A2 n2 c2, .slice B2 m2 d2] = w5 at hS EG3 ET3 ⊢
                clear hK K
                try simp only [Act.put, List.setIfInBounds_toArray, List.set_cons_zero, List.set_cons_succ]
                refine wpAnyH_done (by kernel_rfl) ?_ _
                refine NoPanic.normal ?_
                have HS5 := hide (show St w g w5 L2 op2 cu2 A2 n2 c2 B2 m2 d2 from ⟨EG3, ET3, AP2, HOK2.out, HS2.out.bd, hS⟩)
                obtain ⟨v, hv⟩ : ∃ v, clsI ⟨L2, op2, cu2⟩ k = v := ⟨_, rfl⟩
                have HC5 := hide (HS5.out.cls k hv)
                have HW := hide (end_ways HS2.out.ok HU.out (HE.out ▸ hv))
                clear EG3 ET3 AP2 hS hv
                obtain ⟨j0, j1, j2⟩ := cells3 HS5.out.blk
                go_wp2_with fail
                refine HC5.out.mono ?_
                rintro e w6 ⟨rfl, hb6⟩
                have HS6 := hide (HS5.out.keep hb6)
                clear j0 j1 j2 hb6 HC5
                obtain ⟨j0, j1, j2⟩ := cells3 HS6.out.blk
                have e2 := (HS6.out.bel.cell (p := ⟨b, off + i * 3 + 2, none⟩) HBL.out).trans HCL2.out
                rcases HW.out with ⟨rfl, rfl, rfl⟩ | ⟨rfl, rfl, rfl⟩ | ⟨hu2, rfl⟩
                · have hm8 : (m2 : Int) ≤ 8 := HS6.out.m8
                  go_wp2_with fail
                  refine HS6.out.chk.mono ?_
                  rintro e w8 ⟨rfl, hb8⟩
                  have HS8 := hide (HS6.out.keep hb8)
                  clear j0 j1 j2 hb8
                  obtain ⟨y0, y1, y2⟩ := cells3 HS8.out.blk
                  go_wp2_with fail
                  go_roundw
                  case rel => exact ⟨i + 1, L2, op2, cu2, A2, n2, c2, B2, m2, d2, by omega, by go_num, rfl, HS8.out⟩
                  case measure => simp [intOf]; omega
                · have hm8 : (m2 : Int) ≤ 8 := HS6.out.m8
                  go_wp2_with fail
                  refine HS6.out.chk.mono ?_
                  rintro e w8 ⟨rfl, hb8⟩
                  have HS8 := hide (HS6.out.keep hb8)
                  clear j0 j1 j2 hb8
                  obtain ⟨y0, y1, y2⟩ := cells3 HS8.out.blk
                  go_wp2_with fail
                  go_roundw
                  case rel => exact ⟨i + 1, L2, op2, cu2, A2, n2, c2, B2, m2, d2, by omega, by go_num, rfl, HS8.out⟩
                  case measure => simp [intOf]; omega
                · have hu2' : (v == 2) = false := beq_eq_false_iff_ne.2 hu2
                  have hm8 : (m2 : Int) ≤ 8 := HS6.out.m8
                  go_wp2_with fail
                  refine HS6.out.chk.mono ?_
                  rintro e w8 ⟨rfl, hb8⟩
                  have HS8 := hide (HS6.out.keep hb8)
                  clear j0 j1 j2 hb8
                  obtain ⟨y0, y1, y2⟩ := cells3 HS8.out.blk
                  go_wp2_with fail
                  go_roundw
                  case rel => exact ⟨i + 1, L2, op2, cu2, A2, n2, c2, B2, m2, d2, by omega, by go_num, rfl, HS8.out⟩
                  case measure => simp [intOf]; omega)
              exact AllReadyH.nil)
            exact AllReadyH.nil)
          exact AllReadyH.nil
        | false =>
          rcases beg_ways HS2.out.ok hk0 hk1 with ⟨h2, hLk, hn, hbe, hok, hcl⟩ | ⟨cd, hbe, hcd, hw⟩
          · have hn' : (n : Int) < 16 := by have := HS2.out.tl.op.len; simp only at this; omega
            have HOK := hide hok
            have HCLS := hide hcl
            have HBG := hide (HS2.out.beg_ k hk0 hk1 hbe)
            clear hn hbe hok hcl
            go_wp2_with fail
            refine HBG.out.mono ?_
            rintro e w3 ⟨⟨A2, n2, c2, B2, m2, d2, rfl, ht2, hap2⟩, hb3⟩
            have HAP := hide (hap2 g HS2.out.blk.lt HS2.out.ap)
            have HS3 := hide ((HS2.out.keep hb3).keep (bel1 w3 (.cells #[.int .i64 k, .slice A2 n2 c2, .slice B2 m2 d2] 28)))
            have HT3 := hide (ht2.keep (bel1 w3 (.cells #[.int .i64 k, .slice A2 n2 c2, .slice B2 m2 d2] 28)))
            have HX3 := hide (BlkIs.new w3 28 #[.int .i64 k, .slice A2 n2 c2, .slice B2 m2 d2])
            have HNM := hide (show (n2 : Int) ≤ 16 ∧ (m2 : Int) ≤ 8 by have h1 := ht2.op.len; have h2 := ht2.cu.len; have h3 := HOK.out.nop; have h4 := HOK.out.ncu; simp only at h1 h2 h3 h4; omega)
            have HCX := hide (id_Class ⟨k, op ++ [k], cu⟩ A2 n2 c2 B2 m2 d2 k _ HT3.out (by have := HNM.out; omega) (by have := HNM.out; omega))
            rw [HCLS.out] at HCX
            clear ht2 hap2 hb3 j0 j1 j2 HBG e1
            obtain ⟨j0, j1, j2⟩ := cells3 HS3.out.blk
            go_wp2_with fail
            refine HCX.out.mono ?_
            rintro e w7 ⟨rfl, hb7⟩
            have HS7 := hide (HS3.out.keep hb7)
            have HT7 := hide (HT3.out.keep hb7)
            clear j0 j1 j2
            obtain ⟨x0, x1, x2⟩ := cells3 (HX3.out.keep hb7)
            clear hb7 HCX
            go_wp2_with (refine wpList_tb_blk rfl (.tmp 3) (.tmp 106) g k A2 B2 n2 c2 m2 d2 _ _ _ rfl HS7.out.blk rfl rfl ?_; intro w9 hk9 kb9; have HS9 := hide (show St w g w9 k (op ++ [k]) cu A2 n2 c2 B2 m2 d2 from ⟨hk9, HT7.out.kbx HAP.out kb9, HAP.out, HOK.out, ⟨hk0, hk1⟩, below_kb HS7.out.bel kb9 (Nat.le_refl _) HGE.out⟩); obtain ⟨i0, i1, i2⟩ := cells3 hk9; clear hk9 kb9 x0 x1 x2)
            have hm8 : (m2 : Int) ≤ 8 := HS9.out.m8
            refine HS9.out.chk.mono ?_
            rintro e w8 ⟨rfl, hb8⟩
            have HS8 := hide (HS9.out.keep hb8)
            clear i0 i1 i2 hb8
            obtain ⟨y0, y1, y2⟩ := cells3 HS8.out.blk
            go_wp2_with fail
            go_roundw
            case rel => exact ⟨i + 1, k, op ++ [k], cu, A2, n2, c2, B2, m2, d2, by omega, by go_num, rfl, HS8.out⟩
            case measure => simp [intOf]; omega
          · have hcd' : (cd == 0) = false := beq_eq_false_iff_ne.2 hcd
            have HBG := hide (HS2.out.beg_ k hk0 hk1 hbe)
            have HNO := hide HS2.out.tl.op.len
            clear hbe hcd
            rcases hw with h2 | ⟨h2, hLk⟩ | ⟨h2, hLk, hn⟩
            · go_wp2_with fail
              refine HBG.out.mono ?_
              rintro e w3 ⟨⟨A2, n2, c2, B2, m2, d2, rfl, ht2, hap2⟩, hb3⟩
              have HAP := hide (hap2 g HS2.out.blk.lt HS2.out.ap)
              have HS3 := hide ((HS2.out.keep hb3).keep (bel1 w3 (.cells #[.int .i64 L, .slice A2 n2 c2, .slice B2 m2 d2] 28)))
              have HT3 := hide (ht2.keep (bel1 w3 (.cells #[.int .i64 L, .slice A2 n2 c2, .slice B2 m2 d2] 28)))
              clear ht2 hap2 hb3 j0 j1 j2 HBG e1
              obtain ⟨j0, j1, j2⟩ := cells3 HS3.out.blk
              go_wp2_with (refine wpList_tb_blk rfl (.tmp 3) (.tmp 106) g L A2 B2 n2 c2 m2 d2 _ _ _ rfl HS3.out.blk rfl rfl ?_; intro w9 hk9 kb9; have HS9 := hide (show St w g w9 L op cu A2 n2 c2 B2 m2 d2 from ⟨hk9, HT3.out.kbx HAP.out kb9, HAP.out, HS2.out.ok, HS2.out.bd, below_kb HS3.out.bel kb9 (Nat.le_refl _) HGE.out⟩); obtain ⟨i0, i1, i2⟩ := cells3 hk9; clear hk9 kb9 j0 j1 j2)
              have hm8 : (m2 : Int) ≤ 8 := HS9.out.m8
              refine HS9.out.chk.mono ?_
              rintro e w8 ⟨rfl, hb8⟩
              have HS8 := hide (HS9.out.keep hb8)
              clear i0 i1 i2 hb8
              obtain ⟨y0, y1, y2⟩ := cells3 HS8.out.blk
              go_wp2_with fail
              go_roundw
              case rel => exact ⟨i + 1, L, op, cu, A2, n2, c2, B2, m2, d2, by omega, by go_num, rfl, HS8.out⟩
              case measure => simp [intOf]; omega
            · go_wp2_with fail
              refine HBG.out.mono ?_
              rintro e w3 ⟨⟨A2, n2, c2, B2, m2, d2, rfl, ht2, hap2⟩, hb3⟩
              have HAP := hide (hap2 g HS2.out.blk.lt HS2.out.ap)
              have HS3 := hide ((HS2.out.keep hb3).keep (bel1 w3 (.cells #[.int .i64 L, .slice A2 n2 c2, .slice B2 m2 d2] 28)))
              have HT3 := hide (ht2.keep (bel1 w3 (.cells #[.int .i64 L, .slice A2 n2 c2, .slice B2 m2 d2] 28)))
              clear ht2 hap2 hb3 j0 j1 j2 HBG e1
              obtain ⟨j0, j1, j2⟩ := cells3 HS3.out.blk
              go_wp2_with (refine wpList_tb_blk rfl (.tmp 3) (.tmp 106) g L A2 B2 n2 c2 m2 d2 _ _ _ rfl HS3.out.blk rfl rfl ?_; intro w9 hk9 kb9; have HS9 := hide (show St w g w9 L op cu A2 n2 c2 B2 m2 d2 from ⟨hk9, HT3.out.kbx HAP.out kb9, HAP.out, HS2.out.ok, HS2.out.bd, below_kb HS3.out.bel kb9 (Nat.le_refl _) HGE.out⟩); obtain ⟨i0, i1, i2⟩ := cells3 hk9; clear hk9 kb9 j0 j1 j2)
              have hm8 : (m2 : Int) ≤ 8 := HS9.out.m8
              refine HS9.out.chk.mono ?_
              rintro e w8 ⟨rfl, hb8⟩
              have HS8 := hide (HS9.out.keep hb8)
              clear i0 i1 i2 hb8
              obtain ⟨y0, y1, y2⟩ := cells3 HS8.out.blk
              go_wp2_with fail
              go_roundw
              case rel => exact ⟨i + 1, L, op, cu, A2, n2, c2, B2, m2, d2, by omega, by go_num, rfl, HS8.out⟩
              case measure => simp [intOf]; omega
            · have hn' : ¬ (n : Int) < 16 := by have := HNO.out; simp only at this; omega
              clear hn
              go_wp2_with fail
              refine HBG.out.mono ?_
              rintro e w3 ⟨⟨A2, n2, c2, B2, m2, d2, rfl, ht2, hap2⟩, hb3⟩
              have HAP := hide (hap2 g HS2.out.blk.lt HS2.out.ap)
              have HS3 := hide ((HS2.out.keep hb3).keep (bel1 w3 (.cells #[.int .i64 L, .slice A2 n2 c2, .slice B2 m2 d2] 28)))
              have HT3 := hide (ht2.keep (bel1 w3 (.cells #[.int .i64 L, .slice A2 n2 c2, .slice B2 m2 d2] 28)))
              clear ht2 hap2 hb3 j0 j1 j2 HBG e1
              obtain ⟨j0, j1, j2⟩ := cells3 HS3.out.blk
              go_wp2_with (refine wpList_tb_blk rfl (.tmp 3) (.tmp 106) g L A2 B2 n2 c2 m2 d2 _ _ _ rfl HS3.out.blk rfl rfl ?_; intro w9 hk9 kb9; have HS9 := hide (show St w g w9 L op cu A2 n2 c2 B2 m2 d2 from ⟨hk9, HT3.out.kbx HAP.out kb9, HAP.out, HS2.out.ok, HS2.out.bd, below_kb HS3.out.bel kb9 (Nat.le_refl _) HGE.out⟩); obtain ⟨i0, i1, i2⟩ := cells3 hk9; clear hk9 kb9 j0 j1 j2)
              have hm8 : (m2 : Int) ≤ 8 := HS9.out.m8
              refine HS9.out.chk.mono ?_
              rintro e w8 ⟨rfl, hb8⟩
              have HS8 := hide (HS9.out.keep hb8)
              clear i0 i1 i2 hb8
              obtain ⟨y0, y1, y2⟩ := cells3 HS8.out.blk
              go_wp2_with fail
              go_roundw
              case rel => exact ⟨i + 1, L, op, cu, A2, n2, c2, B2, m2, d2, by omega, by go_num, rfl, HS8.out⟩
              case measure => simp [intOf]; omega
      · have hge : ¬ (i : Int) < (N : Int) := by omega
        go_wp2_with fail
        refine (HAW.out _).mono ?_
        rintro e w2 ⟨rfl, hb2⟩
        have HB2 := hide (HS.out.bel.trans (hb2.mono HS.out.bel.size))
        clear hb2
        go_wp2
        go_ret
        exact ⟨rfl, HB2.out⟩
  · have hN' : (80 : Int) < (N : Int) := by omega
    clear hl hx hN
    go_enter Try.func4, Try.ntmps4
    go_wp2_with fail
    refine (HAW.out _).mono ?_
    rintro e w2 ⟨rfl, hb2⟩
    have HB2 := hide hb2
    clear hb2
    go_wp2
    go_ret
    exact ⟨rfl, HB2.out⟩
end Go.Proofs.Ytjjgnhdaaicmeaa.idsOnce
