/-
  HeapChanges: its walk, way 2 (written by gen24changes.py).
-/
import Derived.Test.YtofnpmmbfcnlgaaHeapChangesMath
import Derived.BigGuardPart
import Derived.Deep.CutRange
namespace Go.Proofs.Ytofnpmmbfcnlgaa.heapChanges
set_option linter.unusedSimpArgs false
set_option linter.unusedVariables false
open Go.RowKit

theorem hp_none2 : Hp [] := fun j hj => by simp at hj
set_option maxRecDepth 100000 in
set_option maxHeartbeats 6400000 in
theorem walk2 (A : Option Addr) (n c : Nat) (l : List It) (x : It) (id : Int) (w : World) (hl : IL w A n c l) (hn : (n : Int) ≤ 60) (h0 : 0 < n) (k : Nat) (hf : fstI (ofL l) id = (k : Int)) (hp : plc (ofL l) id = k) (hk : k < n) (hd : (gt (ofL l) k).d = id) :
    Calls Try.prog 4 #[.slice A n c, .agg #[.int .i64 x.k, .int .i64 x.d], .int .i64 id] w fun e w' => e = .returned (.bool true) ∧ Below w.heap.size w w' := by
  have HLN := hide hl.len
  have HLE := hide hl.le
  have HBW := hide (bel1 w (.cells #[.int .i64 x.k, .int .i64 x.d] 24))
  have HX := hide (BlkIs.new w 24 #[.int .i64 x.k, .int .i64 x.d])
  have HL := hide (hl.keep HBW.out)
  have HN := hide (show (n : Int) ≤ 200 by omega)
  have HN0 := hide (show ((0 : Nat) : Int) ≤ 200 by omega)
  have HN1 := hide (show ((n - 1 : Nat) : Int) ≤ 200 by omega)
  have HNP := hide (show ((n + 1 : Nat) : Int) ≤ 200 by omega)
  clear hl
  have HZ := hide h0
  have HF := hide hf
  have HLO := hide (show (ofL l).length = n by rw [of_len, HLN.out])
  have HPB := hide (show Hp (takeL (ofL l) 0) from take_ok (of_ok l) (by rw [HLO.out]; exact h0))
  have HS0 := hide (pop_same (l := l) (by rw [HLN.out]; exact h0)).1
  have HPS := hide (pop_same (l := l) (by rw [HLN.out]; exact h0)).2
  have HP := hide hp
  have HKN := hide hk
  have HPC := hide (show Hp (fixL (ofL l) k x.k) from fix_ok (of_ok l) (by rw [HLO.out]; exact hk) x.k)
  have HPD := hide (show Hp (takeL (ofL l) k) from take_ok (of_ok l) (by rw [HLO.out]; exact hk))
  have HDS := hide (drop_same (l := ofL l) (i := k) (by rw [HLO.out]; exact hk))
  have HFS := hide (fix_same (l := ofL l) (i := k) (by rw [HLO.out]; exact hk) x.k id hd)
  have HWI := hide (fun (B : Option Addr) (d : Nat) (v : World) (h : IL v B (n - 1) d (woL (ofL l) k)) => (show Calls Try.prog 21 #[.slice B (n - 1) d, .agg #[.int .i64 x.k, .int .i64 id]] v (GivesN 24 n (withL (woL (ofL l) k) ⟨x.k, id⟩) v) from by
    have q := r_With B (n - 1) d (woL (ofL l) k) v h HN1.out ⟨x.k, id⟩
    rwa [show n - 1 + 1 = n by omega] at q))
  have hkz : (0 : Int) ≤ (k : Int) := by omega
  clear h0 hf hp hk hd
  go_enter Try.func4, Try.ntmps4
  go_upto_region 3 with (fail)
  obtain ⟨gx, hgx⟩ : ∃ g, w.heap.size = g := ⟨_, rfl⟩
  rw [hgx] at HX ⊢
  clear hgx
  generalize (w.alloc (.cells #[.int .i64 x.k, .int .i64 x.d] 24)) = w0 at HX HL HBW ⊢
  go_wp2_with fail
  refine (n_own _ _ _ _ _ HL.out HN.out).mono ?_
  rintro e w_1 ⟨A7, c7, rfl, ho, hb⟩
  have L_2 := hide (HL.out.keep hb)
  have X_3 := hide (HX.out.keep hb)
  have HB_4 := hide (HBW.out.trans (hb.mono HBW.out.size))
  clear HL HX HBW
  have h_5 := hide (own_ils ho)
  clear hb ho
  obtain ⟨u0, u1⟩ := it_two X_3.out
  go_wp2_with fail
  clear u0 u1
  refine (n_Push _ _ _ _ _ h_5.out HN.out x).mono ?_
  rintro e w_6 ⟨A8, c8, rfl, ho, hb⟩
  have L_7 := hide (L_2.out.keep hb)
  have X_8 := hide (X_3.out.keep hb)
  have HB_9 := hide (HB_4.out.trans (hb.mono HB_4.out.size))
  have h_10 := hide (h_5.out.keep hb)
  clear L_2 X_3 HB_4 h_5
  have a_11 := hide (own_ils ho)
  clear hb ho
  go_wp2_with fail
  refine (m_Pop _ _ _ _ _ h_10.out HN.out HZ.out).mono ?_
  rintro e w_12 ⟨A9, c9, rfl, ho, hb⟩
  have L_13 := hide (L_7.out.keep hb)
  have X_14 := hide (X_8.out.keep hb)
  have HB_15 := hide (HB_9.out.trans (hb.mono HB_9.out.size))
  have h_16 := hide (h_10.out.keep hb)
  have a_17 := hide (a_11.out.keep hb)
  clear L_7 X_8 HB_9 h_10 a_11
  have b_18 := hide (own_ils ho)
  clear hb ho
  have y_19 := hide (BlkIs.new w_12 38 #[.int .i64 (gt (ofL l) 0).k, .int .i64 (gt (ofL l) 0).d])
  have L_20 := hide (L_13.out.alloc (.cells #[.int .i64 (gt (ofL l) 0).k, .int .i64 (gt (ofL l) 0).d] 38))
  have X_21 := hide (X_14.out.alloc (.cells #[.int .i64 (gt (ofL l) 0).k, .int .i64 (gt (ofL l) 0).d] 38))
  have HB_22 := hide (HB_15.out.alloc HB_15.out.size (.cells #[.int .i64 (gt (ofL l) 0).k, .int .i64 (gt (ofL l) 0).d] 38))
  have h_23 := hide (h_16.out.alloc (.cells #[.int .i64 (gt (ofL l) 0).k, .int .i64 (gt (ofL l) 0).d] 38))
  have a_24 := hide (a_17.out.alloc (.cells #[.int .i64 (gt (ofL l) 0).k, .int .i64 (gt (ofL l) 0).d] 38))
  have b_25 := hide (b_18.out.alloc (.cells #[.int .i64 (gt (ofL l) 0).k, .int .i64 (gt (ofL l) 0).d] 38))
  clear L_13 X_14 HB_15 h_16 a_17 b_18
  obtain ⟨u0, u1⟩ := it_two X_21.out
  go_wp2_with fail
  clear u0 u1
  refine (m_Fix _ _ _ _ _ h_23.out HN.out id x.k k HF.out HP.out).mono ?_
  rintro e w_26 ⟨A12, c12, rfl, ho, hb⟩
  have L_27 := hide (L_20.out.keep hb)
  have X_28 := hide (X_21.out.keep hb)
  have HB_29 := hide (HB_22.out.trans (hb.mono HB_22.out.size))
  have h_30 := hide (h_23.out.keep hb)
  have a_31 := hide (a_24.out.keep hb)
  have b_32 := hide (b_25.out.keep hb)
  have y_33 := hide (y_19.out.keep hb)
  clear L_20 X_21 HB_22 h_23 a_24 b_25 y_19
  have c_34 := hide (own_ils ho)
  clear hb ho
  go_wp2_with fail
  refine (m_Drop _ _ _ _ _ h_30.out HN.out id k HF.out HP.out).mono ?_
  rintro e w_35 ⟨A14, c14, rfl, ho, hb⟩
  have L_36 := hide (L_27.out.keep hb)
  have X_37 := hide (X_28.out.keep hb)
  have HB_38 := hide (HB_29.out.trans (hb.mono HB_29.out.size))
  have h_39 := hide (h_30.out.keep hb)
  have a_40 := hide (a_31.out.keep hb)
  have b_41 := hide (b_32.out.keep hb)
  have y_42 := hide (y_33.out.keep hb)
  have c_43 := hide (c_34.out.keep hb)
  clear L_27 X_28 HB_29 h_30 a_31 b_32 y_33 c_34
  have d_44 := hide (own_ils ho)
  clear hb ho
  go_wp2_with fail
  refine (n_Check0 _ _ _ _ _ a_40.out HNP.out (push_ok _ _)).mono ?_
  rintro e w_45 ⟨rfl, hb⟩
  have L_46 := hide (L_36.out.keep hb)
  have X_47 := hide (X_37.out.keep hb)
  have HB_48 := hide (HB_38.out.trans (hb.mono HB_38.out.size))
  have h_49 := hide (h_39.out.keep hb)
  have a_50 := hide (a_40.out.keep hb)
  have b_51 := hide (b_41.out.keep hb)
  have y_52 := hide (y_42.out.keep hb)
  have c_53 := hide (c_43.out.keep hb)
  have d_54 := hide (d_44.out.keep hb)
  clear L_36 X_37 HB_38 h_39 a_40 b_41 y_42 c_43 d_44
  clear hb
  go_wp2_with fail
  refine (n_Check0 _ _ _ _ _ b_51.out HN1.out HPB.out).mono ?_
  rintro e w_55 ⟨rfl, hb⟩
  have L_56 := hide (L_46.out.keep hb)
  have X_57 := hide (X_47.out.keep hb)
  have HB_58 := hide (HB_48.out.trans (hb.mono HB_48.out.size))
  have h_59 := hide (h_49.out.keep hb)
  have a_60 := hide (a_50.out.keep hb)
  have b_61 := hide (b_51.out.keep hb)
  have y_62 := hide (y_52.out.keep hb)
  have c_63 := hide (c_53.out.keep hb)
  have d_64 := hide (d_54.out.keep hb)
  clear L_46 X_47 HB_48 h_49 a_50 b_51 y_52 c_53 d_54
  clear hb
  go_wp2_with fail
  refine (n_Check0 _ _ _ _ _ c_63.out HN.out HPC.out).mono ?_
  rintro e w_65 ⟨rfl, hb⟩
  have L_66 := hide (L_56.out.keep hb)
  have X_67 := hide (X_57.out.keep hb)
  have HB_68 := hide (HB_58.out.trans (hb.mono HB_58.out.size))
  have h_69 := hide (h_59.out.keep hb)
  have a_70 := hide (a_60.out.keep hb)
  have b_71 := hide (b_61.out.keep hb)
  have y_72 := hide (y_62.out.keep hb)
  have c_73 := hide (c_63.out.keep hb)
  have d_74 := hide (d_64.out.keep hb)
  clear L_56 X_57 HB_58 h_59 a_60 b_61 y_62 c_63 d_64
  clear hb
  go_wp2_with fail
  refine (n_Check0 _ _ _ _ _ d_74.out HN1.out HPD.out).mono ?_
  rintro e w_75 ⟨rfl, hb⟩
  have L_76 := hide (L_66.out.keep hb)
  have X_77 := hide (X_67.out.keep hb)
  have HB_78 := hide (HB_68.out.trans (hb.mono HB_68.out.size))
  have h_79 := hide (h_69.out.keep hb)
  have a_80 := hide (a_70.out.keep hb)
  have b_81 := hide (b_71.out.keep hb)
  have y_82 := hide (y_72.out.keep hb)
  have c_83 := hide (c_73.out.keep hb)
  have d_84 := hide (d_74.out.keep hb)
  clear L_66 X_67 HB_68 h_69 a_70 b_71 y_72 c_73 d_74
  clear hb
  go_wp2_with fail
  refine (n_back _ _ _ _ _ h_79.out HN.out).mono ?_
  rintro e w_85 ⟨A69, c69, rfl, ho, hb⟩
  have L_86 := hide (L_76.out.keep hb)
  have X_87 := hide (X_77.out.keep hb)
  have HB_88 := hide (HB_78.out.trans (hb.mono HB_78.out.size))
  have h_89 := hide (h_79.out.keep hb)
  have a_90 := hide (a_80.out.keep hb)
  have b_91 := hide (b_81.out.keep hb)
  have y_92 := hide (y_82.out.keep hb)
  have c_93 := hide (c_83.out.keep hb)
  have d_94 := hide (d_84.out.keep hb)
  clear L_76 X_77 HB_78 h_79 a_80 b_81 y_82 c_83 d_84
  have q_95 := hide (own_ils ho)
  clear hb ho
  clear h_89
  go_wp2_with fail
  refine (r_Same _ _ _ _ _ q_95.out HN.out _ _ _ _ L_86.out HN.out rfl).mono ?_
  rintro e w_96 ⟨rfl, hb⟩
  have L_97 := hide (L_86.out.keep hb)
  have X_98 := hide (X_87.out.keep hb)
  have HB_99 := hide (HB_88.out.trans (hb.mono HB_88.out.size))
  have a_100 := hide (a_90.out.keep hb)
  have b_101 := hide (b_91.out.keep hb)
  have y_102 := hide (y_92.out.keep hb)
  have c_103 := hide (c_93.out.keep hb)
  have d_104 := hide (d_94.out.keep hb)
  have q_105 := hide (q_95.out.keep hb)
  clear L_86 X_87 HB_88 a_90 b_91 y_92 c_93 d_94 q_95
  clear hb
  clear q_105
  go_wp2_with fail
  refine (r_Sorted _ _ _ _ _ L_97.out HN.out).mono ?_
  rintro e w_106 ⟨A16, c16, rfl, ho, hb⟩
  have L_107 := hide (L_97.out.keep hb)
  have X_108 := hide (X_98.out.keep hb)
  have HB_109 := hide (HB_99.out.trans (hb.mono HB_99.out.size))
  have a_110 := hide (a_100.out.keep hb)
  have b_111 := hide (b_101.out.keep hb)
  have y_112 := hide (y_102.out.keep hb)
  have c_113 := hide (c_103.out.keep hb)
  have d_114 := hide (d_104.out.keep hb)
  clear L_97 X_98 HB_99 a_100 b_101 y_102 c_103 d_104
  have s_115 := hide (own_ils ho)
  clear hb ho
  obtain ⟨z, bs, os, hz, rfl, hbs, s0, s1⟩ := s_115.out.round HZ.out
  obtain rfl : z = gt (ofL l) 0 := Option.some.inj (hz.symm.trans HS0.out)
  have HQ0 := hide (fun (w' : World) (hw' : Below w_106.heap.size w_106 w') => (hw'.cell (p := ⟨bs, os + 0 * 2, none⟩) hbs).trans s0)
  have HQ1 := hide (fun (w' : World) (hw' : Below w_106.heap.size w_106 w') => (hw'.cell (p := ⟨bs, os + 0 * 2 + 1, none⟩) hbs).trans s1)
  obtain ⟨AT, cT, htl, hit⟩ := il_tail isR s_115.out 1 HZ.out
  rw [show ((1 : Nat) : Int) = 1 from rfl] at htl
  have HIT := hide hit
  clear hit s0 s1 hz
  have hpos : 0 < n := HZ.out
  go_wp2_with fail
  refine wp_region_noPanic ?_
  refine wp_region_held_drew (S := fun w' => Below w_106.heap.size w_106 w') (by kernel_rfl) (Below.refl _ _).drew (fun hS => ?_)
  generalize w_106.drew = wd at hS ⊢
  refine wpAnyH_take (i := 0) (v := ?_) (by simp only [List.getElem?_toArray, List.getElem?_cons_succ, List.getElem?_cons_zero] <;> exact rfl) (by kernel_rfl) (by kernel_rfl) (by kernel_rfl) (fun _ _ _ h => h) (Or.inl ⟨by rfl, ?_⟩) hS ?_
  rotate_left
  focus (intro w' hw'; go_simp; all_goals with_reducible rfl)
  try simp only [Act.put, List.setIfInBounds_toArray, List.set_cons_zero, List.set_cons_succ]
  refine wpAnyH_take (i := 3) (v := ?_) (by simp only [List.getElem?_toArray, List.getElem?_cons_succ, List.getElem?_cons_zero] <;> exact rfl) (by kernel_rfl) (by kernel_rfl) (by kernel_rfl) (fun _ _ _ h => h) (Or.inl ⟨by rfl, ?_⟩) hS ?_
  rotate_left
  focus (intro w' hw'; go_simp; all_goals with_reducible rfl)
  try simp only [Act.put, List.setIfInBounds_toArray, List.set_cons_zero, List.set_cons_succ]
  refine wpAnyH_take (i := 4) (v := ?_) (by simp only [List.getElem?_toArray, List.getElem?_cons_succ, List.getElem?_cons_zero] <;> exact rfl) (by kernel_rfl) (by kernel_rfl) (by kernel_rfl) (fun _ _ _ h => h) (Or.inl ⟨by rfl, ?_⟩) hS ?_
  rotate_left
  focus (intro w' hw'; obtain ⟨p0, p1⟩ := it_two (X_108.out.keep hw'); go_simp; all_goals with_reducible rfl)
  try simp only [Act.put, List.setIfInBounds_toArray, List.set_cons_zero, List.set_cons_succ]
  refine wpAnyH_ready (rs := [1]) (by kernel_rfl) (by simp) ?_
  refine AllReadyH.cons (o := _) (by simp only [List.getElem?_toArray, List.getElem?_cons_succ, List.getElem?_cons_zero] <;> exact rfl) (fun K hK => ?_) ?_
  focus (
    go_simp
    go_at_call 10
    refine (n_back _ _ _ _ _ (a_110.out.keep hS) HNP.out).mono ?_
    rintro e wc12 ⟨B1, d1, rfl, ho, hb⟩
    have hS := hS.trans (hb.mono hS.size)
    have I1 := own_ils ho
    clear ho
    clear hb
    go_wp2_with fail
    refine hK.out _ _ hS (fun _ => ?_)
    clear hK K
    try simp only [Act.put, List.setIfInBounds_toArray, List.set_cons_zero, List.set_cons_succ]
    refine wpAnyH_ready (rs := [2]) (by kernel_rfl) (by simp) ?_
    refine AllReadyH.cons (o := _) (by simp only [List.getElem?_toArray, List.getElem?_cons_succ, List.getElem?_cons_zero] <;> exact rfl) (fun K hK => ?_) ?_
    focus (
      go_simp
      go_at_call 12
      refine (r_Sorted _ _ _ _ _ I1 HNP.out).mono ?_
      rintro e wc13 ⟨B2, d2, rfl, ho, hb⟩
      have hS := hS.trans (hb.mono hS.size)
      have I2 := own_ils ho
      clear ho
      clear I1
      clear hb
      go_wp2_with fail
      refine hK.out _ _ hS (fun _ => ?_)
      clear hK K
      try simp only [Act.put, List.setIfInBounds_toArray, List.set_cons_zero, List.set_cons_succ]
      refine wpAnyH_ready (rs := [5]) (by kernel_rfl) (by simp) ?_
      refine AllReadyH.cons (o := _) (by simp only [List.getElem?_toArray, List.getElem?_cons_succ, List.getElem?_cons_zero] <;> exact rfl) (fun K hK => ?_) ?_
      focus (
        go_simp
        go_at_call 21
        refine (r_With _ _ _ _ _ (L_107.out.keep hS) HN.out x).mono ?_
        rintro e wc14 ⟨B3, d3, rfl, ho, hb⟩
        have hS := hS.trans (hb.mono hS.size)
        have I2 := I2.keep hb
        have I3 := own_ils ho
        clear ho
        clear hb
        go_wp2_with fail
        refine hK.out _ _ hS (fun _ => ?_)
        clear hK K
        try simp only [Act.put, List.setIfInBounds_toArray, List.set_cons_zero, List.set_cons_succ]
        refine wpAnyH_ready (rs := [6]) (by kernel_rfl) (by simp) ?_
        refine AllReadyH.cons (o := _) (by simp only [List.getElem?_toArray, List.getElem?_cons_succ, List.getElem?_cons_zero] <;> exact rfl) (fun K hK => ?_) ?_
        focus (
          go_simp
          go_at_call 9
          refine (r_Same _ _ _ _ _ I2 HNP.out _ _ _ _ I3 HNP.out (push_same _ _)).mono ?_
          rintro e wc15 ⟨rfl, hb⟩
          have hS := hS.trans (hb.mono hS.size)
          clear I2
          clear I3
          clear hb
          go_wp2_with fail
          refine hK.out _ _ hS (fun _ => ?_)
          clear hK K
          try simp only [Act.put, List.setIfInBounds_toArray, List.set_cons_zero, List.set_cons_succ]
          refine wpAnyH_take (i := 7) (v := ?_) (by simp only [List.getElem?_toArray, List.getElem?_cons_succ, List.getElem?_cons_zero] <;> exact rfl) (by kernel_rfl) (by kernel_rfl) (by kernel_rfl) (fun _ _ _ h => h) (Or.inl ⟨by rfl, ?_⟩) hS ?_
          rotate_left
          focus (intro w' hw'; go_simp; all_goals with_reducible rfl)
          try simp only [Act.put, List.setIfInBounds_toArray, List.set_cons_zero, List.set_cons_succ]
          refine wpAnyH_take (i := 8) (v := ?_) (by simp only [List.getElem?_toArray, List.getElem?_cons_succ, List.getElem?_cons_zero] <;> exact rfl) (by kernel_rfl) (by kernel_rfl) (by kernel_rfl) (fun _ _ _ h => h) (Or.inl ⟨by rfl, ?_⟩) hS ?_
          rotate_left
          focus (intro w' hw'; go_simp; all_goals with_reducible rfl)
          try simp only [Act.put, List.setIfInBounds_toArray, List.set_cons_zero, List.set_cons_succ]
          refine wpAnyH_take (i := 9) (v := ?_) (by simp only [List.getElem?_toArray, List.getElem?_cons_succ, List.getElem?_cons_zero] <;> exact rfl) (by kernel_rfl) (by kernel_rfl) (by kernel_rfl) (fun _ _ _ h => h) (Or.inl ⟨by rfl, ?_⟩) hS ?_
          rotate_left
          focus (intro w' hw'; go_simp; all_goals with_reducible rfl)
          try simp only [Act.put, List.setIfInBounds_toArray, List.set_cons_zero, List.set_cons_succ]
          refine wpAnyH_take (i := 10) (v := ?_) (by simp only [List.getElem?_toArray, List.getElem?_cons_succ, List.getElem?_cons_zero] <;> exact rfl) (by kernel_rfl) (by kernel_rfl) (by kernel_rfl) (fun _ _ _ h => h) (Or.inl ⟨by rfl, ?_⟩) hS ?_
          rotate_left
          focus (intro w' hw'; go_simp; all_goals with_reducible rfl)
          try simp only [Act.put, List.setIfInBounds_toArray, List.set_cons_zero, List.set_cons_succ]
          refine wpAnyH_take (i := 11) (v := ?_) (by simp only [List.getElem?_toArray, List.getElem?_cons_succ, List.getElem?_cons_zero] <;> exact rfl) (by kernel_rfl) (by kernel_rfl) (by kernel_rfl) (fun _ _ _ h => h) (Or.inl ⟨by rfl, ?_⟩) hS ?_
          rotate_left
          focus (intro w' hw'; go_simp; all_goals with_reducible rfl)
          try simp only [Act.put, List.setIfInBounds_toArray, List.set_cons_zero, List.set_cons_succ]
          refine wpAnyH_take (i := 12) (v := ?_) (by simp only [List.getElem?_toArray, List.getElem?_cons_succ, List.getElem?_cons_zero] <;> exact rfl) (by kernel_rfl) (by kernel_rfl) (by kernel_rfl) (fun _ _ _ h => h) (Or.inl ⟨by rfl, ?_⟩) hS ?_
          rotate_left
          focus (intro w' hw'; go_simp; all_goals with_reducible rfl)
          try simp only [Act.put, List.setIfInBounds_toArray, List.set_cons_zero, List.set_cons_succ]
          refine wpAnyH_take (i := 13) (v := ?_) (by simp only [List.getElem?_toArray, List.getElem?_cons_succ, List.getElem?_cons_zero] <;> exact rfl) (by kernel_rfl) (by kernel_rfl) (by kernel_rfl) (fun _ _ _ h => h) (Or.inl ⟨by rfl, ?_⟩) hS ?_
          rotate_left
          focus (intro w' hw'; go_simp; all_goals with_reducible rfl)
          try simp only [Act.put, List.setIfInBounds_toArray, List.set_cons_zero, List.set_cons_succ]
          refine wpAnyH_take (i := 14) (v := ?_) (by simp only [List.getElem?_toArray, List.getElem?_cons_succ, List.getElem?_cons_zero] <;> exact rfl) (by kernel_rfl) (by kernel_rfl) (by kernel_rfl) (fun _ _ _ h => h) (Or.inl ⟨by rfl, ?_⟩) hS ?_
          rotate_left
          focus (intro w' hw'; go_simp; all_goals with_reducible rfl)
          try simp only [Act.put, List.setIfInBounds_toArray, List.set_cons_zero, List.set_cons_succ]
          refine wpAnyH_take (i := 15) (v := ?_) (by simp only [List.getElem?_toArray, List.getElem?_cons_succ, List.getElem?_cons_zero] <;> exact rfl) (by kernel_rfl) (by kernel_rfl) (by kernel_rfl) (fun _ _ _ h => h) (Or.inl ⟨by rfl, ?_⟩) hS ?_
          rotate_left
          focus (intro w' hw'; go_simp; all_goals with_reducible rfl)
          try simp only [Act.put, List.setIfInBounds_toArray, List.set_cons_zero, List.set_cons_succ]
          refine wpAnyH_take (i := 16) (v := ?_) (by simp only [List.getElem?_toArray, List.getElem?_cons_succ, List.getElem?_cons_zero] <;> exact rfl) (by kernel_rfl) (by kernel_rfl) (by kernel_rfl) (fun _ _ _ h => h) (Or.inl ⟨by rfl, ?_⟩) hS ?_
          rotate_left
          focus (intro w' hw'; go_simp; all_goals with_reducible rfl)
          try simp only [Act.put, List.setIfInBounds_toArray, List.set_cons_zero, List.set_cons_succ]
          refine wpAnyH_take (i := 17) (v := ?_) (by simp only [List.getElem?_toArray, List.getElem?_cons_succ, List.getElem?_cons_zero] <;> exact rfl) (by kernel_rfl) (by kernel_rfl) (by kernel_rfl) (fun _ _ _ h => h) (Or.inl ⟨by rfl, ?_⟩) hS ?_
          rotate_left
          focus (intro w' hw'; go_simp; all_goals with_reducible rfl)
          try simp only [Act.put, List.setIfInBounds_toArray, List.set_cons_zero, List.set_cons_succ]
          refine wpAnyH_take (i := 18) (v := ?_) (by simp only [List.getElem?_toArray, List.getElem?_cons_succ, List.getElem?_cons_zero] <;> exact rfl) (by kernel_rfl) (by kernel_rfl) (by kernel_rfl) (fun _ _ _ h => h) (Or.inl ⟨by rfl, ?_⟩) hS ?_
          rotate_left
          focus (intro w' hw'; obtain ⟨p0, p1⟩ := it_two (y_112.out.keep hw'); go_simp; all_goals with_reducible rfl)
          try simp only [Act.put, List.setIfInBounds_toArray, List.set_cons_zero, List.set_cons_succ]
          refine wpAnyH_take (i := 19) (v := ?_) (by simp only [List.getElem?_toArray, List.getElem?_cons_succ, List.getElem?_cons_zero] <;> exact rfl) (by kernel_rfl) (by kernel_rfl) (by kernel_rfl) (fun _ _ _ h => h) (Or.inl ⟨by rfl, ?_⟩) hS ?_
          rotate_left
          focus (intro w' hw'; go_simp; all_goals with_reducible rfl)
          try simp only [Act.put, List.setIfInBounds_toArray, List.set_cons_zero, List.set_cons_succ]
          refine wpAnyH_take (i := 20) (v := ?_) (by simp only [List.getElem?_toArray, List.getElem?_cons_succ, List.getElem?_cons_zero] <;> exact rfl) (by kernel_rfl) (by kernel_rfl) (by kernel_rfl) (fun _ _ _ h => h) (Or.inl ⟨by rfl, ?_⟩) hS ?_
          rotate_left
          focus (intro w' hw'; go_simp; all_goals with_reducible rfl)
          try simp only [Act.put, List.setIfInBounds_toArray, List.set_cons_zero, List.set_cons_succ]
          refine wpAnyH_take (i := 21) (v := ?_) (by simp only [List.getElem?_toArray, List.getElem?_cons_succ, List.getElem?_cons_zero] <;> exact rfl) (by kernel_rfl) (by kernel_rfl) (by kernel_rfl) (fun _ _ _ h => h) (Or.inl ⟨by rfl, ?_⟩) hS ?_
          rotate_left
          focus (intro w' hw'; have q0 := HQ0.out w' hw'; have q1 := HQ1.out w' hw'; simp only [Nat.zero_mul, Nat.add_zero, Nat.zero_add] at q0 q1; go_simp; all_goals with_reducible rfl)
          try simp only [Act.put, List.setIfInBounds_toArray, List.set_cons_zero, List.set_cons_succ]
          refine wpAnyH_take (i := 22) (v := ?_) (by simp only [List.getElem?_toArray, List.getElem?_cons_succ, List.getElem?_cons_zero] <;> exact rfl) (by kernel_rfl) (by kernel_rfl) (by kernel_rfl) (fun _ _ _ h => h) (Or.inl ⟨by rfl, ?_⟩) hS ?_
          rotate_left
          focus (intro w' hw'; go_simp; all_goals with_reducible rfl)
          try simp only [Act.put, List.setIfInBounds_toArray, List.set_cons_zero, List.set_cons_succ]
          refine wpAnyH_take (i := 23) (v := ?_) (by simp only [List.getElem?_toArray, List.getElem?_cons_succ, List.getElem?_cons_zero] <;> exact rfl) (by kernel_rfl) (by kernel_rfl) (by kernel_rfl) (fun _ _ _ h => h) (Or.inl ⟨by rfl, ?_⟩) hS ?_
          rotate_left
          focus (intro w' hw'; go_simp; all_goals with_reducible rfl)
          try simp only [Act.put, List.setIfInBounds_toArray, List.set_cons_zero, List.set_cons_succ]
          refine wpAnyH_take (i := 24) (v := ?_) (by simp only [List.getElem?_toArray, List.getElem?_cons_succ, List.getElem?_cons_zero] <;> exact rfl) (by kernel_rfl) (by kernel_rfl) (by kernel_rfl) (fun _ _ _ h => h) (Or.inl ⟨by rfl, ?_⟩) hS ?_
          rotate_left
          focus (intro w' hw'; go_simp; all_goals with_reducible rfl)
          try simp only [Act.put, List.setIfInBounds_toArray, List.set_cons_zero, List.set_cons_succ]
          refine wpAnyH_take (i := 27) (v := ?_) (by simp only [List.getElem?_toArray, List.getElem?_cons_succ, List.getElem?_cons_zero] <;> exact rfl) (by kernel_rfl) (by kernel_rfl) (by kernel_rfl) (fun _ _ _ h => h) (Or.inl ⟨by rfl, ?_⟩) hS ?_
          rotate_left
          focus (intro w' hw'; go_simp; all_goals with_reducible rfl)
          try simp only [Act.put, List.setIfInBounds_toArray, List.set_cons_zero, List.set_cons_succ]
          refine wpAnyH_take (i := 28) (v := ?_) (by simp only [List.getElem?_toArray, List.getElem?_cons_succ, List.getElem?_cons_zero] <;> exact rfl) (by kernel_rfl) (by kernel_rfl) (by kernel_rfl) (fun _ _ _ h => h) (Or.inl ⟨by rfl, ?_⟩) hS ?_
          rotate_left
          focus (intro w' hw'; go_simp; all_goals with_reducible rfl)
          try simp only [Act.put, List.setIfInBounds_toArray, List.set_cons_zero, List.set_cons_succ]
          refine wpAnyH_ready (rs := [25]) (by kernel_rfl) (by simp) ?_
          refine AllReadyH.cons (o := _) (by simp only [List.getElem?_toArray, List.getElem?_cons_succ, List.getElem?_cons_zero] <;> exact rfl) (fun K hK => ?_) ?_
          focus (
            go_simp
            go_at_call 10
            refine (n_back _ _ _ _ _ (b_111.out.keep hS) HN1.out).mono ?_
            rintro e wc16 ⟨B4, d4, rfl, ho, hb⟩
            have hS := hS.trans (hb.mono hS.size)
            have I4 := own_ils ho
            clear ho
            clear hb
            go_wp2_with fail
            refine hK.out _ _ hS (fun _ => ?_)
            clear hK K
            try simp only [Act.put, List.setIfInBounds_toArray, List.set_cons_zero, List.set_cons_succ]
            refine wpAnyH_ready (rs := [26]) (by kernel_rfl) (by simp) ?_
            refine AllReadyH.cons (o := _) (by simp only [List.getElem?_toArray, List.getElem?_cons_succ, List.getElem?_cons_zero] <;> exact rfl) (fun K hK => ?_) ?_
            focus (
              go_simp
              go_at_call 12
              refine (r_Sorted _ _ _ _ _ I4 HN1.out).mono ?_
              rintro e wc17 ⟨B5, d5, rfl, ho, hb⟩
              have hS := hS.trans (hb.mono hS.size)
              have I5 := own_ils ho
              clear ho
              clear I4
              clear hb
              go_wp2_with fail
              refine hK.out _ _ hS (fun _ => ?_)
              clear hK K
              try simp only [Act.put, List.setIfInBounds_toArray, List.set_cons_zero, List.set_cons_succ]
              refine wpAnyH_ready (rs := [29]) (by kernel_rfl) (by simp) ?_
              refine AllReadyH.cons (o := _) (by simp only [List.getElem?_toArray, List.getElem?_cons_succ, List.getElem?_cons_zero] <;> exact rfl) (fun K hK => ?_) ?_
              focus (
                go_simp
                go_at_call 9
                refine (r_Same _ _ _ _ _ I5 HN1.out _ _ _ _ (HIT.out.keep hS) HN1.out HPS.out).mono ?_
                rintro e wc18 ⟨rfl, hb⟩
                have hS := hS.trans (hb.mono hS.size)
                clear I5
                clear hb
                go_wp2_with fail
                refine hK.out _ _ hS (fun _ => ?_)
                clear hK K
                try simp only [Act.put, List.setIfInBounds_toArray, List.set_cons_zero, List.set_cons_succ]
                refine wpAnyH_take (i := 30) (v := ?_) (by simp only [List.getElem?_toArray, List.getElem?_cons_succ, List.getElem?_cons_zero] <;> exact rfl) (by kernel_rfl) (by kernel_rfl) (by kernel_rfl) (fun _ _ _ h => h) (Or.inl ⟨by rfl, ?_⟩) hS ?_
                rotate_left
                focus (intro w' hw'; go_simp; all_goals with_reducible rfl)
                try simp only [Act.put, List.setIfInBounds_toArray, List.set_cons_zero, List.set_cons_succ]
                refine wpAnyH_take (i := 31) (v := ?_) (by simp only [List.getElem?_toArray, List.getElem?_cons_succ, List.getElem?_cons_zero] <;> exact rfl) (by kernel_rfl) (by kernel_rfl) (by kernel_rfl) (fun _ _ _ h => h) (Or.inl ⟨by rfl, ?_⟩) hS ?_
                rotate_left
                focus (intro w' hw'; go_simp; all_goals with_reducible rfl)
                try simp only [Act.put, List.setIfInBounds_toArray, List.set_cons_zero, List.set_cons_succ]
                refine wpAnyH_take (i := 32) (v := ?_) (by simp only [List.getElem?_toArray, List.getElem?_cons_succ, List.getElem?_cons_zero] <;> exact rfl) (by kernel_rfl) (by kernel_rfl) (by kernel_rfl) (fun _ _ _ h => h) (Or.inl ⟨by rfl, ?_⟩) hS ?_
                rotate_left
                focus (intro w' hw'; go_simp; all_goals with_reducible rfl)
                try simp only [Act.put, List.setIfInBounds_toArray, List.set_cons_zero, List.set_cons_succ]
                refine wpAnyH_take (i := 33) (v := ?_) (by simp only [List.getElem?_toArray, List.getElem?_cons_succ, List.getElem?_cons_zero] <;> exact rfl) (by kernel_rfl) (by kernel_rfl) (by kernel_rfl) (fun _ _ _ h => h) (Or.inl ⟨by rfl, ?_⟩) hS ?_
                rotate_left
                focus (intro w' hw'; go_simp; all_goals with_reducible rfl)
                try simp only [Act.put, List.setIfInBounds_toArray, List.set_cons_zero, List.set_cons_succ]
                refine wpAnyH_take (i := 34) (v := ?_) (by simp only [List.getElem?_toArray, List.getElem?_cons_succ, List.getElem?_cons_zero] <;> exact rfl) (by kernel_rfl) (by kernel_rfl) (by kernel_rfl) (fun _ _ _ h => h) (Or.inl ⟨by rfl, ?_⟩) hS ?_
                rotate_left
                focus (intro w' hw'; go_simp; all_goals with_reducible rfl)
                try simp only [Act.put, List.setIfInBounds_toArray, List.set_cons_zero, List.set_cons_succ]
                refine wpAnyH_take (i := 35) (v := ?_) (by simp only [List.getElem?_toArray, List.getElem?_cons_succ, List.getElem?_cons_zero] <;> exact rfl) (by kernel_rfl) (by kernel_rfl) (by kernel_rfl) (fun _ _ _ h => h) (Or.inl ⟨by rfl, ?_⟩) hS ?_
                rotate_left
                focus (intro w' hw'; go_simp; all_goals with_reducible rfl)
                try simp only [Act.put, List.setIfInBounds_toArray, List.set_cons_zero, List.set_cons_succ]
                refine wpAnyH_take (i := 36) (v := ?_) (by simp only [List.getElem?_toArray, List.getElem?_cons_succ, List.getElem?_cons_zero] <;> exact rfl) (by kernel_rfl) (by kernel_rfl) (by kernel_rfl) (fun _ _ _ h => h) (Or.inl ⟨by rfl, ?_⟩) hS ?_
                rotate_left
                focus (intro w' hw'; go_simp; all_goals with_reducible rfl)
                try simp only [Act.put, List.setIfInBounds_toArray, List.set_cons_zero, List.set_cons_succ]
                refine wpAnyH_take (i := 37) (v := ?_) (by simp only [List.getElem?_toArray, List.getElem?_cons_succ, List.getElem?_cons_zero] <;> exact rfl) (by kernel_rfl) (by kernel_rfl) (by kernel_rfl) (fun _ _ _ h => h) (Or.inl ⟨by rfl, ?_⟩) hS ?_
                rotate_left
                focus (intro w' hw'; go_simp; all_goals with_reducible rfl)
                try simp only [Act.put, List.setIfInBounds_toArray, List.set_cons_zero, List.set_cons_succ]
                refine wpAnyH_take (i := 38) (v := undef) (by simp only [List.getElem?_toArray, List.getElem?_cons_succ, List.getElem?_cons_zero] <;> exact rfl) (by kernel_rfl) (by kernel_rfl) (by kernel_rfl) (fun _ _ _ h => h) (Or.inr ⟨by rfl, rfl⟩) hS ?_
                try simp only [Act.put, List.setIfInBounds_toArray, List.set_cons_zero, List.set_cons_succ]
                refine wpAnyH_take (i := 39) (v := undef) (by simp only [List.getElem?_toArray, List.getElem?_cons_succ, List.getElem?_cons_zero] <;> exact rfl) (by kernel_rfl) (by kernel_rfl) (by kernel_rfl) (fun _ _ _ h => h) (Or.inr ⟨by rfl, rfl⟩) hS ?_
                try simp only [Act.put, List.setIfInBounds_toArray, List.set_cons_zero, List.set_cons_succ]
                refine wpAnyH_take (i := 40) (v := undef) (by simp only [List.getElem?_toArray, List.getElem?_cons_succ, List.getElem?_cons_zero] <;> exact rfl) (by kernel_rfl) (by kernel_rfl) (by kernel_rfl) (fun _ _ _ h => h) (Or.inr ⟨by rfl, rfl⟩) hS ?_
                try simp only [Act.put, List.setIfInBounds_toArray, List.set_cons_zero, List.set_cons_succ]
                refine wpAnyH_take (i := 41) (v := ?_) (by simp only [List.getElem?_toArray, List.getElem?_cons_succ, List.getElem?_cons_zero] <;> exact rfl) (by kernel_rfl) (by kernel_rfl) (by kernel_rfl) (fun _ _ _ h => h) (Or.inl ⟨by rfl, ?_⟩) hS ?_
                rotate_left
                focus (intro w' hw'; go_simp; all_goals with_reducible rfl)
                try simp only [Act.put, List.setIfInBounds_toArray, List.set_cons_zero, List.set_cons_succ]
                refine wpAnyH_take (i := 42) (v := ?_) (by simp only [List.getElem?_toArray, List.getElem?_cons_succ, List.getElem?_cons_zero] <;> exact rfl) (by kernel_rfl) (by kernel_rfl) (by kernel_rfl) (fun _ _ _ h => h) (Or.inl ⟨by rfl, ?_⟩) hS ?_
                rotate_left
                focus (intro w' hw'; go_simp; all_goals with_reducible rfl)
                try simp only [Act.put, List.setIfInBounds_toArray, List.set_cons_zero, List.set_cons_succ]
                refine wpAnyH_done (by kernel_rfl) ?_ _
                refine NoPanic.normal ?_
                go_wp2_with fail
                have L_116 := hide (L_107.out.keep hS)
                have X_117 := hide (X_108.out.keep hS)
                have HB_118 := hide (HB_109.out.trans (hS.mono HB_109.out.size))
                have a_119 := hide (a_110.out.keep hS)
                have b_120 := hide (b_111.out.keep hS)
                have y_121 := hide (y_112.out.keep hS)
                have c_122 := hide (c_113.out.keep hS)
                have d_123 := hide (d_114.out.keep hS)
                have s_124 := hide (s_115.out.keep hS)
                clear L_107 X_108 HB_109 a_110 b_111 y_112 c_113 d_114 s_115
                clear hS htl hpos HIT HQ0 HQ1
                clear a_119
                clear b_120
                clear y_121
                by_cases hhp : Hp l
                · have HHP := hide hhp
                  clear hhp
                  go_wp2_with fail
                  refine (m_Check0 _ _ _ _ _ L_116.out HN.out HHP.out).mono ?_
                  rintro e w_125 ⟨rfl, hb⟩
                  have L_126 := hide (L_116.out.keep hb)
                  have X_127 := hide (X_117.out.keep hb)
                  have HB_128 := hide (HB_118.out.trans (hb.mono HB_118.out.size))
                  have c_129 := hide (c_122.out.keep hb)
                  have d_130 := hide (d_123.out.keep hb)
                  have s_131 := hide (s_124.out.keep hb)
                  clear L_116 X_117 HB_118 c_122 d_123 s_124
                  clear hb
                  have hof := L_126.out
                  rw [← of_hp HHP.out] at hof
                  have of_132 := hide hof
                  clear hof
                  go_wp2_with fail
                  refine (m_First _ _ _ _ _ of_132.out HN.out id _ HF.out).mono ?_
                  rintro e w_133 ⟨rfl, rfl⟩
                  go_wp2_with fail
                  refine (r_Without _ _ _ _ _ of_132.out HN.out k HKN.out).mono ?_
                  rintro e w_134 ⟨F1, f1, rfl, ho, hb⟩
                  have L_135 := hide (L_126.out.keep hb)
                  have X_136 := hide (X_127.out.keep hb)
                  have HB_137 := hide (HB_128.out.trans (hb.mono HB_128.out.size))
                  have c_138 := hide (c_129.out.keep hb)
                  have d_139 := hide (d_130.out.keep hb)
                  have s_140 := hide (s_131.out.keep hb)
                  have of_141 := hide (of_132.out.keep hb)
                  clear L_126 X_127 HB_128 c_129 d_130 s_131 of_132
                  have less_142 := hide (own_ils ho)
                  clear hb ho
                  go_wp2_with fail
                  refine wp_region_noPanic ?_
                  refine wp_region_held_drew (S := fun w' => Below w_134.heap.size w_134 w') (by kernel_rfl) (Below.refl _ _).drew (fun hS => ?_)
                  generalize w_134.drew = wd at hS ⊢
                  refine wpAnyH_take (i := 0) (v := ?_) (by simp only [List.getElem?_toArray, List.getElem?_cons_succ, List.getElem?_cons_zero] <;> exact rfl) (by kernel_rfl) (by kernel_rfl) (by kernel_rfl) (fun _ _ _ h => h) (Or.inl ⟨by rfl, ?_⟩) hS ?_
                  rotate_left
                  focus (intro w' hw'; go_simp; all_goals with_reducible rfl)
                  try simp only [Act.put, List.setIfInBounds_toArray, List.set_cons_zero, List.set_cons_succ]
                  refine wpAnyH_take (i := 3) (v := ?_) (by simp only [List.getElem?_toArray, List.getElem?_cons_succ, List.getElem?_cons_zero] <;> exact rfl) (by kernel_rfl) (by kernel_rfl) (by kernel_rfl) (fun _ _ _ h => h) (Or.inl ⟨by rfl, ?_⟩) hS ?_
                  rotate_left
                  focus (intro w' hw'; go_simp; all_goals with_reducible rfl)
                  try simp only [Act.put, List.setIfInBounds_toArray, List.set_cons_zero, List.set_cons_succ]
                  refine wpAnyH_ready (rs := [1]) (by kernel_rfl) (by simp) ?_
                  refine AllReadyH.cons (o := _) (by simp only [List.getElem?_toArray, List.getElem?_cons_succ, List.getElem?_cons_zero] <;> exact rfl) (fun K hK => ?_) ?_
                  focus (
                    go_simp
                    go_at_call 10
                    refine (n_back _ _ _ _ _ (d_139.out.keep hS) HN1.out).mono ?_
                    rintro e wc19 ⟨G1, g1, rfl, ho, hb⟩
                    have hS := hS.trans (hb.mono hS.size)
                    have I1 := own_ils ho
                    clear ho
                    clear hb
                    go_wp2_with fail
                    refine hK.out _ _ hS (fun _ => ?_)
                    clear hK K
                    try simp only [Act.put, List.setIfInBounds_toArray, List.set_cons_zero, List.set_cons_succ]
                    refine wpAnyH_ready (rs := [2]) (by kernel_rfl) (by simp) ?_
                    refine AllReadyH.cons (o := _) (by simp only [List.getElem?_toArray, List.getElem?_cons_succ, List.getElem?_cons_zero] <;> exact rfl) (fun K hK => ?_) ?_
                    focus (
                      go_simp
                      go_at_call 12
                      refine (r_Sorted _ _ _ _ _ I1 HN1.out).mono ?_
                      rintro e wc20 ⟨G2, g2, rfl, ho, hb⟩
                      have hS := hS.trans (hb.mono hS.size)
                      have I2 := own_ils ho
                      clear ho
                      clear I1
                      clear hb
                      go_wp2_with fail
                      refine hK.out _ _ hS (fun _ => ?_)
                      clear hK K
                      try simp only [Act.put, List.setIfInBounds_toArray, List.set_cons_zero, List.set_cons_succ]
                      refine wpAnyH_ready (rs := [4]) (by kernel_rfl) (by simp) ?_
                      refine AllReadyH.cons (o := _) (by simp only [List.getElem?_toArray, List.getElem?_cons_succ, List.getElem?_cons_zero] <;> exact rfl) (fun K hK => ?_) ?_
                      focus (
                        go_simp
                        go_at_call 12
                        refine (r_Sorted _ _ _ _ _ (less_142.out.keep hS) HN1.out).mono ?_
                        rintro e wc21 ⟨G3, g3, rfl, ho, hb⟩
                        have hS := hS.trans (hb.mono hS.size)
                        have I2 := I2.keep hb
                        have I3 := own_ils ho
                        clear ho
                        clear hb
                        go_wp2_with fail
                        refine hK.out _ _ hS (fun _ => ?_)
                        clear hK K
                        try simp only [Act.put, List.setIfInBounds_toArray, List.set_cons_zero, List.set_cons_succ]
                        refine wpAnyH_ready (rs := [5]) (by kernel_rfl) (by simp) ?_
                        refine AllReadyH.cons (o := _) (by simp only [List.getElem?_toArray, List.getElem?_cons_succ, List.getElem?_cons_zero] <;> exact rfl) (fun K hK => ?_) ?_
                        focus (
                          go_simp
                          go_at_call 9
                          refine (r_Same _ _ _ _ _ I2 HN1.out _ _ _ _ I3 HN1.out HDS.out).mono ?_
                          rintro e wc22 ⟨rfl, hb⟩
                          have hS := hS.trans (hb.mono hS.size)
                          clear I2
                          clear I3
                          clear hb
                          go_wp2_with fail
                          refine hK.out _ _ hS (fun _ => ?_)
                          clear hK K
                          try simp only [Act.put, List.setIfInBounds_toArray, List.set_cons_zero, List.set_cons_succ]
                          refine wpAnyH_take (i := 6) (v := ?_) (by simp only [List.getElem?_toArray, List.getElem?_cons_succ, List.getElem?_cons_zero] <;> exact rfl) (by kernel_rfl) (by kernel_rfl) (by kernel_rfl) (fun _ _ _ h => h) (Or.inl ⟨by rfl, ?_⟩) hS ?_
                          rotate_left
                          focus (intro w' hw'; go_simp; all_goals with_reducible rfl)
                          try simp only [Act.put, List.setIfInBounds_toArray, List.set_cons_zero, List.set_cons_succ]
                          refine wpAnyH_take (i := 7) (v := ?_) (by simp only [List.getElem?_toArray, List.getElem?_cons_succ, List.getElem?_cons_zero] <;> exact rfl) (by kernel_rfl) (by kernel_rfl) (by kernel_rfl) (fun _ _ _ h => h) (Or.inl ⟨by rfl, ?_⟩) hS ?_
                          rotate_left
                          focus (intro w' hw'; go_simp; all_goals with_reducible rfl)
                          try simp only [Act.put, List.setIfInBounds_toArray, List.set_cons_zero, List.set_cons_succ]
                          refine wpAnyH_take (i := 10) (v := ?_) (by simp only [List.getElem?_toArray, List.getElem?_cons_succ, List.getElem?_cons_zero] <;> exact rfl) (by kernel_rfl) (by kernel_rfl) (by kernel_rfl) (fun _ _ _ h => h) (Or.inl ⟨by rfl, ?_⟩) hS ?_
                          rotate_left
                          focus (intro w' hw'; go_simp; all_goals with_reducible rfl)
                          try simp only [Act.put, List.setIfInBounds_toArray, List.set_cons_zero, List.set_cons_succ]
                          refine wpAnyH_take (i := 11) (v := ?_) (by simp only [List.getElem?_toArray, List.getElem?_cons_succ, List.getElem?_cons_zero] <;> exact rfl) (by kernel_rfl) (by kernel_rfl) (by kernel_rfl) (fun _ _ _ h => h) (Or.inl ⟨by rfl, ?_⟩) hS ?_
                          rotate_left
                          focus (intro w' hw'; go_simp; all_goals with_reducible rfl)
                          try simp only [Act.put, List.setIfInBounds_toArray, List.set_cons_zero, List.set_cons_succ]
                          refine wpAnyH_take (i := 12) (v := ?_) (by simp only [List.getElem?_toArray, List.getElem?_cons_succ, List.getElem?_cons_zero] <;> exact rfl) (by kernel_rfl) (by kernel_rfl) (by kernel_rfl) (fun _ _ _ h => h) (Or.inl ⟨by rfl, ?_⟩) hS ?_
                          rotate_left
                          focus (intro w' hw'; obtain ⟨p0, p1⟩ := it_two (X_136.out.keep hw'); go_simp; all_goals with_reducible rfl)
                          try simp only [Act.put, List.setIfInBounds_toArray, List.set_cons_zero, List.set_cons_succ]
                          refine wpAnyH_take (i := 13) (v := ?_) (by simp only [List.getElem?_toArray, List.getElem?_cons_succ, List.getElem?_cons_zero] <;> exact rfl) (by kernel_rfl) (by kernel_rfl) (by kernel_rfl) (fun _ _ _ h => h) (Or.inl ⟨by rfl, ?_⟩) hS ?_
                          rotate_left
                          focus (intro w' hw'; go_simp; all_goals with_reducible rfl)
                          try simp only [Act.put, List.setIfInBounds_toArray, List.set_cons_zero, List.set_cons_succ]
                          refine wpAnyH_take (i := 14) (v := ?_) (by simp only [List.getElem?_toArray, List.getElem?_cons_succ, List.getElem?_cons_zero] <;> exact rfl) (by kernel_rfl) (by kernel_rfl) (by kernel_rfl) (fun _ _ _ h => h) (Or.inl ⟨by rfl, ?_⟩) hS ?_
                          rotate_left
                          focus (intro w' hw'; go_simp; all_goals with_reducible rfl)
                          try simp only [Act.put, List.setIfInBounds_toArray, List.set_cons_zero, List.set_cons_succ]
                          refine wpAnyH_ready (rs := [8]) (by kernel_rfl) (by simp) ?_
                          refine AllReadyH.cons (o := _) (by simp only [List.getElem?_toArray, List.getElem?_cons_succ, List.getElem?_cons_zero] <;> exact rfl) (fun K hK => ?_) ?_
                          focus (
                            go_simp
                            go_at_call 10
                            refine (n_back _ _ _ _ _ (c_138.out.keep hS) HN.out).mono ?_
                            rintro e wc23 ⟨G4, g4, rfl, ho, hb⟩
                            have hS := hS.trans (hb.mono hS.size)
                            have I4 := own_ils ho
                            clear ho
                            clear hb
                            go_wp2_with fail
                            refine hK.out _ _ hS (fun _ => ?_)
                            clear hK K
                            try simp only [Act.put, List.setIfInBounds_toArray, List.set_cons_zero, List.set_cons_succ]
                            refine wpAnyH_ready (rs := [9]) (by kernel_rfl) (by simp) ?_
                            refine AllReadyH.cons (o := _) (by simp only [List.getElem?_toArray, List.getElem?_cons_succ, List.getElem?_cons_zero] <;> exact rfl) (fun K hK => ?_) ?_
                            focus (
                              go_simp
                              go_at_call 12
                              refine (r_Sorted _ _ _ _ _ I4 HN.out).mono ?_
                              rintro e wc24 ⟨G5, g5, rfl, ho, hb⟩
                              have hS := hS.trans (hb.mono hS.size)
                              have I5 := own_ils ho
                              clear ho
                              clear I4
                              clear hb
                              go_wp2_with fail
                              refine hK.out _ _ hS (fun _ => ?_)
                              clear hK K
                              try simp only [Act.put, List.setIfInBounds_toArray, List.set_cons_zero, List.set_cons_succ]
                              refine wpAnyH_ready (rs := [15]) (by kernel_rfl) (by simp) ?_
                              refine AllReadyH.cons (o := _) (by simp only [List.getElem?_toArray, List.getElem?_cons_succ, List.getElem?_cons_zero] <;> exact rfl) (fun K hK => ?_) ?_
                              focus (
                                go_simp
                                go_at_call 21
                                refine (HWI.out _ _ _ (less_142.out.keep hS)).mono ?_
                                rintro e wc25 ⟨G6, g6, rfl, ho, hb⟩
                                have hS := hS.trans (hb.mono hS.size)
                                have I5 := I5.keep hb
                                have I6 := own_ils ho
                                clear ho
                                clear hb
                                go_wp2_with fail
                                refine hK.out _ _ hS (fun _ => ?_)
                                clear hK K
                                try simp only [Act.put, List.setIfInBounds_toArray, List.set_cons_zero, List.set_cons_succ]
                                refine wpAnyH_ready (rs := [16]) (by kernel_rfl) (by simp) ?_
                                refine AllReadyH.cons (o := _) (by simp only [List.getElem?_toArray, List.getElem?_cons_succ, List.getElem?_cons_zero] <;> exact rfl) (fun K hK => ?_) ?_
                                focus (
                                  go_simp
                                  go_at_call 9
                                  refine (r_Same _ _ _ _ _ I5 HN.out _ _ _ _ I6 HN.out HFS.out).mono ?_
                                  rintro e wc26 ⟨rfl, hb⟩
                                  have hS := hS.trans (hb.mono hS.size)
                                  clear I5
                                  clear I6
                                  clear hb
                                  go_wp2_with fail
                                  refine hK.out _ _ hS (fun _ => ?_)
                                  clear hK K
                                  try simp only [Act.put, List.setIfInBounds_toArray, List.set_cons_zero, List.set_cons_succ]
                                  refine wpAnyH_take (i := 17) (v := ?_) (by simp only [List.getElem?_toArray, List.getElem?_cons_succ, List.getElem?_cons_zero] <;> exact rfl) (by kernel_rfl) (by kernel_rfl) (by kernel_rfl) (fun _ _ _ h => h) (Or.inl ⟨by rfl, ?_⟩) hS ?_
                                  rotate_left
                                  focus (intro w' hw'; go_simp; all_goals with_reducible rfl)
                                  try simp only [Act.put, List.setIfInBounds_toArray, List.set_cons_zero, List.set_cons_succ]
                                  refine wpAnyH_take (i := 18) (v := ?_) (by simp only [List.getElem?_toArray, List.getElem?_cons_succ, List.getElem?_cons_zero] <;> exact rfl) (by kernel_rfl) (by kernel_rfl) (by kernel_rfl) (fun _ _ _ h => h) (Or.inl ⟨by rfl, ?_⟩) hS ?_
                                  rotate_left
                                  focus (intro w' hw'; go_simp; all_goals with_reducible rfl)
                                  try simp only [Act.put, List.setIfInBounds_toArray, List.set_cons_zero, List.set_cons_succ]
                                  refine wpAnyH_ready (rs := [19]) (by kernel_rfl) (by simp) ?_
                                  refine AllReadyH.cons (o := _) (by simp only [List.getElem?_toArray, List.getElem?_cons_succ, List.getElem?_cons_zero] <;> exact rfl) (fun K hK => ?_) ?_
                                  focus (
                                    go_simp
                                    go_at_call 6
                                    refine (aw_heap _).mono ?_
                                    rintro e wc27 ⟨rfl, hb⟩
                                    have hS := hS.trans (hb.mono hS.size)
                                    clear hb
                                    go_wp2_with fail
                                    refine hK.out _ _ hS (fun _ => ?_)
                                    clear hK K
                                    try simp only [Act.put, List.setIfInBounds_toArray, List.set_cons_zero, List.set_cons_succ]
                                    refine wpAnyH_take (i := 20) (v := ?_) (by simp only [List.getElem?_toArray, List.getElem?_cons_succ, List.getElem?_cons_zero] <;> exact rfl) (by kernel_rfl) (by kernel_rfl) (by kernel_rfl) (fun _ _ _ h => h) (Or.inl ⟨by rfl, ?_⟩) hS ?_
                                    rotate_left
                                    focus (intro w' hw'; go_simp; all_goals with_reducible rfl)
                                    try simp only [Act.put, List.setIfInBounds_toArray, List.set_cons_zero, List.set_cons_succ]
                                    refine wpAnyH_take (i := 21) (v := ?_) (by simp only [List.getElem?_toArray, List.getElem?_cons_succ, List.getElem?_cons_zero] <;> exact rfl) (by kernel_rfl) (by kernel_rfl) (by kernel_rfl) (fun _ _ _ h => h) (Or.inl ⟨by rfl, ?_⟩) hS ?_
                                    rotate_left
                                    focus (intro w' hw'; go_simp; all_goals with_reducible rfl)
                                    try simp only [Act.put, List.setIfInBounds_toArray, List.set_cons_zero, List.set_cons_succ]
                                    refine wpAnyH_done (by kernel_rfl) ?_ _
                                    refine NoPanic.normal ?_
                                    have HBE := hide (HB_137.out.trans (hS.mono HB_137.out.size))
                                    clear hS
                                    go_wp2_with fail
                                    go_ret
                                    exact ⟨rfl, HBE.out⟩)
                                  exact AllReadyH.nil)
                                exact AllReadyH.nil)
                              exact AllReadyH.nil)
                            exact AllReadyH.nil)
                          exact AllReadyH.nil)
                        exact AllReadyH.nil)
                      exact AllReadyH.nil)
                    exact AllReadyH.nil)
                  exact AllReadyH.nil
                · have HHP := hide hhp
                  clear hhp
                  go_wp2_with fail
                  refine (m_Check10 _ _ _ _ _ L_116.out HN.out HHP.out).mono ?_
                  rintro e w_625 ⟨rfl, hb⟩
                  have L_626 := hide (L_116.out.keep hb)
                  have X_627 := hide (X_117.out.keep hb)
                  have HB_628 := hide (HB_118.out.trans (hb.mono HB_118.out.size))
                  have c_629 := hide (c_122.out.keep hb)
                  have d_630 := hide (d_123.out.keep hb)
                  have s_631 := hide (s_124.out.keep hb)
                  clear L_116 X_117 HB_118 c_122 d_123 s_124
                  clear hb
                  go_wp2_with fail
                  refine (n_own _ _ _ _ _ L_626.out HN.out).mono ?_
                  rintro e w_632 ⟨O1, o1, rfl, ho, hb⟩
                  have L_633 := hide (L_626.out.keep hb)
                  have X_634 := hide (X_627.out.keep hb)
                  have HB_635 := hide (HB_628.out.trans (hb.mono HB_628.out.size))
                  have c_636 := hide (c_629.out.keep hb)
                  have d_637 := hide (d_630.out.keep hb)
                  have s_638 := hide (s_631.out.keep hb)
                  clear L_626 X_627 HB_628 c_629 d_630 s_631
                  have p_639 := hide (own_ils ho)
                  clear hb ho
                  go_wp2_with fail
                  refine (n_Of _ _ _ _ _ p_639.out HN.out).mono ?_
                  rintro e w_640 ⟨O2, o2, rfl, ho, hb⟩
                  have L_641 := hide (L_633.out.keep hb)
                  have X_642 := hide (X_634.out.keep hb)
                  have HB_643 := hide (HB_635.out.trans (hb.mono HB_635.out.size))
                  have c_644 := hide (c_636.out.keep hb)
                  have d_645 := hide (d_637.out.keep hb)
                  have s_646 := hide (s_638.out.keep hb)
                  have p_647 := hide (p_639.out.keep hb)
                  clear L_633 X_634 HB_635 c_636 d_637 s_638 p_639
                  have q_648 := hide (own_ils ho)
                  clear hb ho
                  clear p_647
                  go_wp2_with fail
                  refine (n_back _ _ _ _ _ q_648.out HN.out).mono ?_
                  rintro e w_649 ⟨O3, o3, rfl, ho, hb⟩
                  have L_650 := hide (L_641.out.keep hb)
                  have X_651 := hide (X_642.out.keep hb)
                  have HB_652 := hide (HB_643.out.trans (hb.mono HB_643.out.size))
                  have c_653 := hide (c_644.out.keep hb)
                  have d_654 := hide (d_645.out.keep hb)
                  have s_655 := hide (s_646.out.keep hb)
                  have q_656 := hide (q_648.out.keep hb)
                  clear L_641 X_642 HB_643 c_644 d_645 s_646 q_648
                  have of_657 := hide (own_ils ho)
                  clear hb ho
                  clear q_656
                  go_wp2_with fail
                  refine (m_First _ _ _ _ _ of_657.out HN.out id _ HF.out).mono ?_
                  rintro e w_658 ⟨rfl, rfl⟩
                  go_wp2_with fail
                  refine (r_Without _ _ _ _ _ of_657.out HN.out k HKN.out).mono ?_
                  rintro e w_659 ⟨F1, f1, rfl, ho, hb⟩
                  have L_660 := hide (L_650.out.keep hb)
                  have X_661 := hide (X_651.out.keep hb)
                  have HB_662 := hide (HB_652.out.trans (hb.mono HB_652.out.size))
                  have c_663 := hide (c_653.out.keep hb)
                  have d_664 := hide (d_654.out.keep hb)
                  have s_665 := hide (s_655.out.keep hb)
                  have of_666 := hide (of_657.out.keep hb)
                  clear L_650 X_651 HB_652 c_653 d_654 s_655 of_657
                  have less_667 := hide (own_ils ho)
                  clear hb ho
                  go_wp2_with fail
                  refine wp_region_noPanic ?_
                  refine wp_region_held_drew (S := fun w' => Below w_659.heap.size w_659 w') (by kernel_rfl) (Below.refl _ _).drew (fun hS => ?_)
                  generalize w_659.drew = wd at hS ⊢
                  refine wpAnyH_take (i := 0) (v := ?_) (by simp only [List.getElem?_toArray, List.getElem?_cons_succ, List.getElem?_cons_zero] <;> exact rfl) (by kernel_rfl) (by kernel_rfl) (by kernel_rfl) (fun _ _ _ h => h) (Or.inl ⟨by rfl, ?_⟩) hS ?_
                  rotate_left
                  focus (intro w' hw'; go_simp; all_goals with_reducible rfl)
                  try simp only [Act.put, List.setIfInBounds_toArray, List.set_cons_zero, List.set_cons_succ]
                  refine wpAnyH_take (i := 3) (v := ?_) (by simp only [List.getElem?_toArray, List.getElem?_cons_succ, List.getElem?_cons_zero] <;> exact rfl) (by kernel_rfl) (by kernel_rfl) (by kernel_rfl) (fun _ _ _ h => h) (Or.inl ⟨by rfl, ?_⟩) hS ?_
                  rotate_left
                  focus (intro w' hw'; go_simp; all_goals with_reducible rfl)
                  try simp only [Act.put, List.setIfInBounds_toArray, List.set_cons_zero, List.set_cons_succ]
                  refine wpAnyH_ready (rs := [1]) (by kernel_rfl) (by simp) ?_
                  refine AllReadyH.cons (o := _) (by simp only [List.getElem?_toArray, List.getElem?_cons_succ, List.getElem?_cons_zero] <;> exact rfl) (fun K hK => ?_) ?_
                  focus (
                    go_simp
                    go_at_call 10
                    refine (n_back _ _ _ _ _ (d_664.out.keep hS) HN1.out).mono ?_
                    rintro e wc28 ⟨G1, g1, rfl, ho, hb⟩
                    have hS := hS.trans (hb.mono hS.size)
                    have I1 := own_ils ho
                    clear ho
                    clear hb
                    go_wp2_with fail
                    refine hK.out _ _ hS (fun _ => ?_)
                    clear hK K
                    try simp only [Act.put, List.setIfInBounds_toArray, List.set_cons_zero, List.set_cons_succ]
                    refine wpAnyH_ready (rs := [2]) (by kernel_rfl) (by simp) ?_
                    refine AllReadyH.cons (o := _) (by simp only [List.getElem?_toArray, List.getElem?_cons_succ, List.getElem?_cons_zero] <;> exact rfl) (fun K hK => ?_) ?_
                    focus (
                      go_simp
                      go_at_call 12
                      refine (r_Sorted _ _ _ _ _ I1 HN1.out).mono ?_
                      rintro e wc29 ⟨G2, g2, rfl, ho, hb⟩
                      have hS := hS.trans (hb.mono hS.size)
                      have I2 := own_ils ho
                      clear ho
                      clear I1
                      clear hb
                      go_wp2_with fail
                      refine hK.out _ _ hS (fun _ => ?_)
                      clear hK K
                      try simp only [Act.put, List.setIfInBounds_toArray, List.set_cons_zero, List.set_cons_succ]
                      refine wpAnyH_ready (rs := [4]) (by kernel_rfl) (by simp) ?_
                      refine AllReadyH.cons (o := _) (by simp only [List.getElem?_toArray, List.getElem?_cons_succ, List.getElem?_cons_zero] <;> exact rfl) (fun K hK => ?_) ?_
                      focus (
                        go_simp
                        go_at_call 12
                        refine (r_Sorted _ _ _ _ _ (less_667.out.keep hS) HN1.out).mono ?_
                        rintro e wc30 ⟨G3, g3, rfl, ho, hb⟩
                        have hS := hS.trans (hb.mono hS.size)
                        have I2 := I2.keep hb
                        have I3 := own_ils ho
                        clear ho
                        clear hb
                        go_wp2_with fail
                        refine hK.out _ _ hS (fun _ => ?_)
                        clear hK K
                        try simp only [Act.put, List.setIfInBounds_toArray, List.set_cons_zero, List.set_cons_succ]
                        refine wpAnyH_ready (rs := [5]) (by kernel_rfl) (by simp) ?_
                        refine AllReadyH.cons (o := _) (by simp only [List.getElem?_toArray, List.getElem?_cons_succ, List.getElem?_cons_zero] <;> exact rfl) (fun K hK => ?_) ?_
                        focus (
                          go_simp
                          go_at_call 9
                          refine (r_Same _ _ _ _ _ I2 HN1.out _ _ _ _ I3 HN1.out HDS.out).mono ?_
                          rintro e wc31 ⟨rfl, hb⟩
                          have hS := hS.trans (hb.mono hS.size)
                          clear I2
                          clear I3
                          clear hb
                          go_wp2_with fail
                          refine hK.out _ _ hS (fun _ => ?_)
                          clear hK K
                          try simp only [Act.put, List.setIfInBounds_toArray, List.set_cons_zero, List.set_cons_succ]
                          refine wpAnyH_take (i := 6) (v := ?_) (by simp only [List.getElem?_toArray, List.getElem?_cons_succ, List.getElem?_cons_zero] <;> exact rfl) (by kernel_rfl) (by kernel_rfl) (by kernel_rfl) (fun _ _ _ h => h) (Or.inl ⟨by rfl, ?_⟩) hS ?_
                          rotate_left
                          focus (intro w' hw'; go_simp; all_goals with_reducible rfl)
                          try simp only [Act.put, List.setIfInBounds_toArray, List.set_cons_zero, List.set_cons_succ]
                          refine wpAnyH_take (i := 7) (v := ?_) (by simp only [List.getElem?_toArray, List.getElem?_cons_succ, List.getElem?_cons_zero] <;> exact rfl) (by kernel_rfl) (by kernel_rfl) (by kernel_rfl) (fun _ _ _ h => h) (Or.inl ⟨by rfl, ?_⟩) hS ?_
                          rotate_left
                          focus (intro w' hw'; go_simp; all_goals with_reducible rfl)
                          try simp only [Act.put, List.setIfInBounds_toArray, List.set_cons_zero, List.set_cons_succ]
                          refine wpAnyH_take (i := 10) (v := ?_) (by simp only [List.getElem?_toArray, List.getElem?_cons_succ, List.getElem?_cons_zero] <;> exact rfl) (by kernel_rfl) (by kernel_rfl) (by kernel_rfl) (fun _ _ _ h => h) (Or.inl ⟨by rfl, ?_⟩) hS ?_
                          rotate_left
                          focus (intro w' hw'; go_simp; all_goals with_reducible rfl)
                          try simp only [Act.put, List.setIfInBounds_toArray, List.set_cons_zero, List.set_cons_succ]
                          refine wpAnyH_take (i := 11) (v := ?_) (by simp only [List.getElem?_toArray, List.getElem?_cons_succ, List.getElem?_cons_zero] <;> exact rfl) (by kernel_rfl) (by kernel_rfl) (by kernel_rfl) (fun _ _ _ h => h) (Or.inl ⟨by rfl, ?_⟩) hS ?_
                          rotate_left
                          focus (intro w' hw'; go_simp; all_goals with_reducible rfl)
                          try simp only [Act.put, List.setIfInBounds_toArray, List.set_cons_zero, List.set_cons_succ]
                          refine wpAnyH_take (i := 12) (v := ?_) (by simp only [List.getElem?_toArray, List.getElem?_cons_succ, List.getElem?_cons_zero] <;> exact rfl) (by kernel_rfl) (by kernel_rfl) (by kernel_rfl) (fun _ _ _ h => h) (Or.inl ⟨by rfl, ?_⟩) hS ?_
                          rotate_left
                          focus (intro w' hw'; obtain ⟨p0, p1⟩ := it_two (X_661.out.keep hw'); go_simp; all_goals with_reducible rfl)
                          try simp only [Act.put, List.setIfInBounds_toArray, List.set_cons_zero, List.set_cons_succ]
                          refine wpAnyH_take (i := 13) (v := ?_) (by simp only [List.getElem?_toArray, List.getElem?_cons_succ, List.getElem?_cons_zero] <;> exact rfl) (by kernel_rfl) (by kernel_rfl) (by kernel_rfl) (fun _ _ _ h => h) (Or.inl ⟨by rfl, ?_⟩) hS ?_
                          rotate_left
                          focus (intro w' hw'; go_simp; all_goals with_reducible rfl)
                          try simp only [Act.put, List.setIfInBounds_toArray, List.set_cons_zero, List.set_cons_succ]
                          refine wpAnyH_take (i := 14) (v := ?_) (by simp only [List.getElem?_toArray, List.getElem?_cons_succ, List.getElem?_cons_zero] <;> exact rfl) (by kernel_rfl) (by kernel_rfl) (by kernel_rfl) (fun _ _ _ h => h) (Or.inl ⟨by rfl, ?_⟩) hS ?_
                          rotate_left
                          focus (intro w' hw'; go_simp; all_goals with_reducible rfl)
                          try simp only [Act.put, List.setIfInBounds_toArray, List.set_cons_zero, List.set_cons_succ]
                          refine wpAnyH_ready (rs := [8]) (by kernel_rfl) (by simp) ?_
                          refine AllReadyH.cons (o := _) (by simp only [List.getElem?_toArray, List.getElem?_cons_succ, List.getElem?_cons_zero] <;> exact rfl) (fun K hK => ?_) ?_
                          focus (
                            go_simp
                            go_at_call 10
                            refine (n_back _ _ _ _ _ (c_663.out.keep hS) HN.out).mono ?_
                            rintro e wc32 ⟨G4, g4, rfl, ho, hb⟩
                            have hS := hS.trans (hb.mono hS.size)
                            have I4 := own_ils ho
                            clear ho
                            clear hb
                            go_wp2_with fail
                            refine hK.out _ _ hS (fun _ => ?_)
                            clear hK K
                            try simp only [Act.put, List.setIfInBounds_toArray, List.set_cons_zero, List.set_cons_succ]
                            refine wpAnyH_ready (rs := [9]) (by kernel_rfl) (by simp) ?_
                            refine AllReadyH.cons (o := _) (by simp only [List.getElem?_toArray, List.getElem?_cons_succ, List.getElem?_cons_zero] <;> exact rfl) (fun K hK => ?_) ?_
                            focus (
                              go_simp
                              go_at_call 12
                              refine (r_Sorted _ _ _ _ _ I4 HN.out).mono ?_
                              rintro e wc33 ⟨G5, g5, rfl, ho, hb⟩
                              have hS := hS.trans (hb.mono hS.size)
                              have I5 := own_ils ho
                              clear ho
                              clear I4
                              clear hb
                              go_wp2_with fail
                              refine hK.out _ _ hS (fun _ => ?_)
                              clear hK K
                              try simp only [Act.put, List.setIfInBounds_toArray, List.set_cons_zero, List.set_cons_succ]
                              refine wpAnyH_ready (rs := [15]) (by kernel_rfl) (by simp) ?_
                              refine AllReadyH.cons (o := _) (by simp only [List.getElem?_toArray, List.getElem?_cons_succ, List.getElem?_cons_zero] <;> exact rfl) (fun K hK => ?_) ?_
                              focus (
                                go_simp
                                go_at_call 21
                                refine (HWI.out _ _ _ (less_667.out.keep hS)).mono ?_
                                rintro e wc34 ⟨G6, g6, rfl, ho, hb⟩
                                have hS := hS.trans (hb.mono hS.size)
                                have I5 := I5.keep hb
                                have I6 := own_ils ho
                                clear ho
                                clear hb
                                go_wp2_with fail
                                refine hK.out _ _ hS (fun _ => ?_)
                                clear hK K
                                try simp only [Act.put, List.setIfInBounds_toArray, List.set_cons_zero, List.set_cons_succ]
                                refine wpAnyH_ready (rs := [16]) (by kernel_rfl) (by simp) ?_
                                refine AllReadyH.cons (o := _) (by simp only [List.getElem?_toArray, List.getElem?_cons_succ, List.getElem?_cons_zero] <;> exact rfl) (fun K hK => ?_) ?_
                                focus (
                                  go_simp
                                  go_at_call 9
                                  refine (r_Same _ _ _ _ _ I5 HN.out _ _ _ _ I6 HN.out HFS.out).mono ?_
                                  rintro e wc35 ⟨rfl, hb⟩
                                  have hS := hS.trans (hb.mono hS.size)
                                  clear I5
                                  clear I6
                                  clear hb
                                  go_wp2_with fail
                                  refine hK.out _ _ hS (fun _ => ?_)
                                  clear hK K
                                  try simp only [Act.put, List.setIfInBounds_toArray, List.set_cons_zero, List.set_cons_succ]
                                  refine wpAnyH_take (i := 17) (v := ?_) (by simp only [List.getElem?_toArray, List.getElem?_cons_succ, List.getElem?_cons_zero] <;> exact rfl) (by kernel_rfl) (by kernel_rfl) (by kernel_rfl) (fun _ _ _ h => h) (Or.inl ⟨by rfl, ?_⟩) hS ?_
                                  rotate_left
                                  focus (intro w' hw'; go_simp; all_goals with_reducible rfl)
                                  try simp only [Act.put, List.setIfInBounds_toArray, List.set_cons_zero, List.set_cons_succ]
                                  refine wpAnyH_take (i := 18) (v := ?_) (by simp only [List.getElem?_toArray, List.getElem?_cons_succ, List.getElem?_cons_zero] <;> exact rfl) (by kernel_rfl) (by kernel_rfl) (by kernel_rfl) (fun _ _ _ h => h) (Or.inl ⟨by rfl, ?_⟩) hS ?_
                                  rotate_left
                                  focus (intro w' hw'; go_simp; all_goals with_reducible rfl)
                                  try simp only [Act.put, List.setIfInBounds_toArray, List.set_cons_zero, List.set_cons_succ]
                                  refine wpAnyH_ready (rs := [19]) (by kernel_rfl) (by simp) ?_
                                  refine AllReadyH.cons (o := _) (by simp only [List.getElem?_toArray, List.getElem?_cons_succ, List.getElem?_cons_zero] <;> exact rfl) (fun K hK => ?_) ?_
                                  focus (
                                    go_simp
                                    go_at_call 6
                                    refine (aw_heap _).mono ?_
                                    rintro e wc36 ⟨rfl, hb⟩
                                    have hS := hS.trans (hb.mono hS.size)
                                    clear hb
                                    go_wp2_with fail
                                    refine hK.out _ _ hS (fun _ => ?_)
                                    clear hK K
                                    try simp only [Act.put, List.setIfInBounds_toArray, List.set_cons_zero, List.set_cons_succ]
                                    refine wpAnyH_take (i := 20) (v := ?_) (by simp only [List.getElem?_toArray, List.getElem?_cons_succ, List.getElem?_cons_zero] <;> exact rfl) (by kernel_rfl) (by kernel_rfl) (by kernel_rfl) (fun _ _ _ h => h) (Or.inl ⟨by rfl, ?_⟩) hS ?_
                                    rotate_left
                                    focus (intro w' hw'; go_simp; all_goals with_reducible rfl)
                                    try simp only [Act.put, List.setIfInBounds_toArray, List.set_cons_zero, List.set_cons_succ]
                                    refine wpAnyH_take (i := 21) (v := ?_) (by simp only [List.getElem?_toArray, List.getElem?_cons_succ, List.getElem?_cons_zero] <;> exact rfl) (by kernel_rfl) (by kernel_rfl) (by kernel_rfl) (fun _ _ _ h => h) (Or.inl ⟨by rfl, ?_⟩) hS ?_
                                    rotate_left
                                    focus (intro w' hw'; go_simp; all_goals with_reducible rfl)
                                    try simp only [Act.put, List.setIfInBounds_toArray, List.set_cons_zero, List.set_cons_succ]
                                    refine wpAnyH_done (by kernel_rfl) ?_ _
                                    refine NoPanic.normal ?_
                                    have HBE := hide (HB_662.out.trans (hS.mono HB_662.out.size))
                                    clear hS
                                    go_wp2_with fail
                                    go_ret
                                    exact ⟨rfl, HBE.out⟩)
                                  exact AllReadyH.nil)
                                exact AllReadyH.nil)
                              exact AllReadyH.nil)
                            exact AllReadyH.nil)
                          exact AllReadyH.nil)
                        exact AllReadyH.nil)
                      exact AllReadyH.nil)
                    exact AllReadyH.nil)
                  exact AllReadyH.nil)
              exact AllReadyH.nil)
            exact AllReadyH.nil)
          exact AllReadyH.nil)
        exact AllReadyH.nil)
      exact AllReadyH.nil)
    exact AllReadyH.nil)
  exact AllReadyH.nil
end Go.Proofs.Ytofnpmmbfcnlgaa.heapChanges
