/-
  HeapChanges: its walk, way 0 (written by gen24changes.py).
-/
import Derived.Test.YtofnpmmbfcnlgaaHeapChangesMath
import Derived.BigGuardPart
import Derived.Deep.CutRange
namespace Go.Proofs.Ytofnpmmbfcnlgaa.heapChanges
set_option linter.unusedSimpArgs false
set_option linter.unusedVariables false
open Go.RowKit

theorem hp_none : Hp [] := fun j hj => by simp at hj
set_option maxRecDepth 100000 in
set_option maxHeartbeats 6400000 in
theorem walk0 (A : Option Addr) (n c : Nat) (l : List It) (x : It) (id : Int) (w : World) (hl : IL w A n c l) (hn : (n : Int) ≤ 60) (h0 : n = 0) (hf : fstI (ofL l) id = -1) :
    Calls Try.prog 4 #[.slice A n c, .agg #[.int .i64 x.k, .int .i64 x.d], .int .i64 id] w fun e w' => e = .returned (.bool true) ∧ Below w.heap.size w w' := by
  have HLN := hide hl.len
  have HLE := hide hl.le
  have HBW := hide (bel1 w (.cells #[.int .i64 x.k, .int .i64 x.d] 24))
  have HX := hide (BlkIs.new w 24 #[.int .i64 x.k, .int .i64 x.d])
  have HL := hide (hl.keep HBW.out)
  have HN := hide (show (n : Int) ≤ 200 by omega)
  have HN0 := hide (show ((0 : Nat) : Int) ≤ 200 by omega)
  have HN1 := hide (show ((n - 1 : Nat) : Int) ≤ 200 by omega)
  have HNP := hide (show ((n + 1 : Nat) : Int) ≤ 200 by omega)
  clear hl
  have HZ := hide h0
  have HF := hide hf
  have HLO := hide (show (ofL l).length = n by rw [of_len, HLN.out])
  clear h0 hf
  go_enter Try.func4, Try.ntmps4
  go_upto_region 3 with (fail)
  obtain ⟨gx, hgx⟩ : ∃ g, w.heap.size = g := ⟨_, rfl⟩
  rw [hgx] at HX ⊢
  clear hgx
  generalize (w.alloc (.cells #[.int .i64 x.k, .int .i64 x.d] 24)) = w0 at HX HL HBW ⊢
  go_wp2_with fail
  refine (n_own _ _ _ _ _ HL.out HN.out).mono ?_
  rintro e w_1 ⟨A7, c7, rfl, ho, hb⟩
  have L_2 := hide (HL.out.keep hb)
  have X_3 := hide (HX.out.keep hb)
  have HB_4 := hide (HBW.out.trans (hb.mono HBW.out.size))
  clear HL HX HBW
  have h_5 := hide (own_ils ho)
  clear hb ho
  obtain ⟨u0, u1⟩ := it_two X_3.out
  go_wp2_with fail
  clear u0 u1
  refine (n_Push _ _ _ _ _ h_5.out HN.out x).mono ?_
  rintro e w_6 ⟨A8, c8, rfl, ho, hb⟩
  have L_7 := hide (L_2.out.keep hb)
  have X_8 := hide (X_3.out.keep hb)
  have HB_9 := hide (HB_4.out.trans (hb.mono HB_4.out.size))
  have h_10 := hide (h_5.out.keep hb)
  clear L_2 X_3 HB_4 h_5
  have a_11 := hide (own_ils ho)
  clear hb ho
  go_wp2_with fail
  refine (m_Pop0 _ _ _ _ _ h_10.out HN.out HZ.out).mono ?_
  rintro e w_12 ⟨A9, c9, rfl, ho, hb⟩
  have L_13 := hide (L_7.out.keep hb)
  have X_14 := hide (X_8.out.keep hb)
  have HB_15 := hide (HB_9.out.trans (hb.mono HB_9.out.size))
  have h_16 := hide (h_10.out.keep hb)
  have a_17 := hide (a_11.out.keep hb)
  clear L_7 X_8 HB_9 h_10 a_11
  have b_18 := hide (own_ils ho)
  clear hb ho
  have y_19 := hide (BlkIs.new w_12 38 #[.int .i64 0, .int .i64 0])
  have L_20 := hide (L_13.out.alloc (.cells #[.int .i64 0, .int .i64 0] 38))
  have X_21 := hide (X_14.out.alloc (.cells #[.int .i64 0, .int .i64 0] 38))
  have HB_22 := hide (HB_15.out.alloc HB_15.out.size (.cells #[.int .i64 0, .int .i64 0] 38))
  have h_23 := hide (h_16.out.alloc (.cells #[.int .i64 0, .int .i64 0] 38))
  have a_24 := hide (a_17.out.alloc (.cells #[.int .i64 0, .int .i64 0] 38))
  have b_25 := hide (b_18.out.alloc (.cells #[.int .i64 0, .int .i64 0] 38))
  clear L_13 X_14 HB_15 h_16 a_17 b_18
  obtain ⟨u0, u1⟩ := it_two X_21.out
  go_wp2_with fail
  clear u0 u1
  refine (m_Fix0 _ _ _ _ _ h_23.out HN.out id x.k HF.out).mono ?_
  rintro e w_26 ⟨A12, c12, rfl, ho, hb⟩
  have L_27 := hide (L_20.out.keep hb)
  have X_28 := hide (X_21.out.keep hb)
  have HB_29 := hide (HB_22.out.trans (hb.mono HB_22.out.size))
  have h_30 := hide (h_23.out.keep hb)
  have a_31 := hide (a_24.out.keep hb)
  have b_32 := hide (b_25.out.keep hb)
  have y_33 := hide (y_19.out.keep hb)
  clear L_20 X_21 HB_22 h_23 a_24 b_25 y_19
  have c_34 := hide (own_ils ho)
  clear hb ho
  go_wp2_with fail
  refine (m_Drop0 _ _ _ _ _ h_30.out HN.out id HF.out).mono ?_
  rintro e w_35 ⟨A14, c14, rfl, ho, hb⟩
  have L_36 := hide (L_27.out.keep hb)
  have X_37 := hide (X_28.out.keep hb)
  have HB_38 := hide (HB_29.out.trans (hb.mono HB_29.out.size))
  have h_39 := hide (h_30.out.keep hb)
  have a_40 := hide (a_31.out.keep hb)
  have b_41 := hide (b_32.out.keep hb)
  have y_42 := hide (y_33.out.keep hb)
  have c_43 := hide (c_34.out.keep hb)
  clear L_27 X_28 HB_29 h_30 a_31 b_32 y_33 c_34
  have d_44 := hide (own_ils ho)
  clear hb ho
  go_wp2_with fail
  refine (n_Check0 _ _ _ _ _ a_40.out HNP.out (push_ok _ _)).mono ?_
  rintro e w_45 ⟨rfl, hb⟩
  have L_46 := hide (L_36.out.keep hb)
  have X_47 := hide (X_37.out.keep hb)
  have HB_48 := hide (HB_38.out.trans (hb.mono HB_38.out.size))
  have h_49 := hide (h_39.out.keep hb)
  have a_50 := hide (a_40.out.keep hb)
  have b_51 := hide (b_41.out.keep hb)
  have y_52 := hide (y_42.out.keep hb)
  have c_53 := hide (c_43.out.keep hb)
  have d_54 := hide (d_44.out.keep hb)
  clear L_36 X_37 HB_38 h_39 a_40 b_41 y_42 c_43 d_44
  clear hb
  go_wp2_with fail
  refine (n_Check0 _ _ _ _ _ b_51.out HN0.out hp_none).mono ?_
  rintro e w_55 ⟨rfl, hb⟩
  have L_56 := hide (L_46.out.keep hb)
  have X_57 := hide (X_47.out.keep hb)
  have HB_58 := hide (HB_48.out.trans (hb.mono HB_48.out.size))
  have h_59 := hide (h_49.out.keep hb)
  have a_60 := hide (a_50.out.keep hb)
  have b_61 := hide (b_51.out.keep hb)
  have y_62 := hide (y_52.out.keep hb)
  have c_63 := hide (c_53.out.keep hb)
  have d_64 := hide (d_54.out.keep hb)
  clear L_46 X_47 HB_48 h_49 a_50 b_51 y_52 c_53 d_54
  clear hb
  go_wp2_with fail
  refine (n_Check0 _ _ _ _ _ c_63.out HN.out (of_ok _)).mono ?_
  rintro e w_65 ⟨rfl, hb⟩
  have L_66 := hide (L_56.out.keep hb)
  have X_67 := hide (X_57.out.keep hb)
  have HB_68 := hide (HB_58.out.trans (hb.mono HB_58.out.size))
  have h_69 := hide (h_59.out.keep hb)
  have a_70 := hide (a_60.out.keep hb)
  have b_71 := hide (b_61.out.keep hb)
  have y_72 := hide (y_62.out.keep hb)
  have c_73 := hide (c_63.out.keep hb)
  have d_74 := hide (d_64.out.keep hb)
  clear L_56 X_57 HB_58 h_59 a_60 b_61 y_62 c_63 d_64
  clear hb
  go_wp2_with fail
  refine (n_Check0 _ _ _ _ _ d_74.out HN.out (of_ok _)).mono ?_
  rintro e w_75 ⟨rfl, hb⟩
  have L_76 := hide (L_66.out.keep hb)
  have X_77 := hide (X_67.out.keep hb)
  have HB_78 := hide (HB_68.out.trans (hb.mono HB_68.out.size))
  have h_79 := hide (h_69.out.keep hb)
  have a_80 := hide (a_70.out.keep hb)
  have b_81 := hide (b_71.out.keep hb)
  have y_82 := hide (y_72.out.keep hb)
  have c_83 := hide (c_73.out.keep hb)
  have d_84 := hide (d_74.out.keep hb)
  clear L_66 X_67 HB_68 h_69 a_70 b_71 y_72 c_73 d_74
  clear hb
  go_wp2_with fail
  refine (n_back _ _ _ _ _ h_79.out HN.out).mono ?_
  rintro e w_85 ⟨A69, c69, rfl, ho, hb⟩
  have L_86 := hide (L_76.out.keep hb)
  have X_87 := hide (X_77.out.keep hb)
  have HB_88 := hide (HB_78.out.trans (hb.mono HB_78.out.size))
  have h_89 := hide (h_79.out.keep hb)
  have a_90 := hide (a_80.out.keep hb)
  have b_91 := hide (b_81.out.keep hb)
  have y_92 := hide (y_82.out.keep hb)
  have c_93 := hide (c_83.out.keep hb)
  have d_94 := hide (d_84.out.keep hb)
  clear L_76 X_77 HB_78 h_79 a_80 b_81 y_82 c_83 d_84
  have q_95 := hide (own_ils ho)
  clear hb ho
  clear h_89
  go_wp2_with fail
  refine (r_Same _ _ _ _ _ q_95.out HN.out _ _ _ _ L_86.out HN.out rfl).mono ?_
  rintro e w_96 ⟨rfl, hb⟩
  have L_97 := hide (L_86.out.keep hb)
  have X_98 := hide (X_87.out.keep hb)
  have HB_99 := hide (HB_88.out.trans (hb.mono HB_88.out.size))
  have a_100 := hide (a_90.out.keep hb)
  have b_101 := hide (b_91.out.keep hb)
  have y_102 := hide (y_92.out.keep hb)
  have c_103 := hide (c_93.out.keep hb)
  have d_104 := hide (d_94.out.keep hb)
  have q_105 := hide (q_95.out.keep hb)
  clear L_86 X_87 HB_88 a_90 b_91 y_92 c_93 d_94 q_95
  clear hb
  clear q_105
  go_wp2_with fail
  refine (r_Sorted _ _ _ _ _ L_97.out HN.out).mono ?_
  rintro e w_106 ⟨A16, c16, rfl, ho, hb⟩
  have L_107 := hide (L_97.out.keep hb)
  have X_108 := hide (X_98.out.keep hb)
  have HB_109 := hide (HB_99.out.trans (hb.mono HB_99.out.size))
  have a_110 := hide (a_100.out.keep hb)
  have b_111 := hide (b_101.out.keep hb)
  have y_112 := hide (y_102.out.keep hb)
  have c_113 := hide (c_103.out.keep hb)
  have d_114 := hide (d_104.out.keep hb)
  clear L_97 X_98 HB_99 a_100 b_101 y_102 c_103 d_104
  have s_115 := hide (own_ils ho)
  clear hb ho
  have hpos : decide (0 < n) = false := by rw [HZ.out]; rfl
  go_wp2_with fail
  refine wp_region_noPanic ?_
  refine wp_region_held_drew (S := fun w' => Below w_106.heap.size w_106 w') (by kernel_rfl) (Below.refl _ _).drew (fun hS => ?_)
  generalize w_106.drew = wd at hS ⊢
  refine wpAnyH_take (i := 0) (v := ?_) (by simp only [List.getElem?_toArray, List.getElem?_cons_succ, List.getElem?_cons_zero] <;> exact rfl) (by kernel_rfl) (by kernel_rfl) (by kernel_rfl) (fun _ _ _ h => h) (Or.inl ⟨by rfl, ?_⟩) hS ?_
  rotate_left
  focus (intro w' hw'; go_simp; all_goals with_reducible rfl)
  try simp only [Act.put, List.setIfInBounds_toArray, List.set_cons_zero, List.set_cons_succ]
  refine wpAnyH_take (i := 3) (v := ?_) (by simp only [List.getElem?_toArray, List.getElem?_cons_succ, List.getElem?_cons_zero] <;> exact rfl) (by kernel_rfl) (by kernel_rfl) (by kernel_rfl) (fun _ _ _ h => h) (Or.inl ⟨by rfl, ?_⟩) hS ?_
  rotate_left
  focus (intro w' hw'; go_simp; all_goals with_reducible rfl)
  try simp only [Act.put, List.setIfInBounds_toArray, List.set_cons_zero, List.set_cons_succ]
  refine wpAnyH_take (i := 4) (v := ?_) (by simp only [List.getElem?_toArray, List.getElem?_cons_succ, List.getElem?_cons_zero] <;> exact rfl) (by kernel_rfl) (by kernel_rfl) (by kernel_rfl) (fun _ _ _ h => h) (Or.inl ⟨by rfl, ?_⟩) hS ?_
  rotate_left
  focus (intro w' hw'; obtain ⟨p0, p1⟩ := it_two (X_108.out.keep hw'); go_simp; all_goals with_reducible rfl)
  try simp only [Act.put, List.setIfInBounds_toArray, List.set_cons_zero, List.set_cons_succ]
  refine wpAnyH_ready (rs := [1]) (by kernel_rfl) (by simp) ?_
  refine AllReadyH.cons (o := _) (by simp only [List.getElem?_toArray, List.getElem?_cons_succ, List.getElem?_cons_zero] <;> exact rfl) (fun K hK => ?_) ?_
  focus (
    go_simp
    go_at_call 10
    refine (n_back _ _ _ _ _ (a_110.out.keep hS) HNP.out).mono ?_
    rintro e wc1 ⟨B1, d1, rfl, ho, hb⟩
    have hS := hS.trans (hb.mono hS.size)
    have I1 := own_ils ho
    clear ho
    clear hb
    go_wp2_with fail
    refine hK.out _ _ hS (fun _ => ?_)
    clear hK K
    try simp only [Act.put, List.setIfInBounds_toArray, List.set_cons_zero, List.set_cons_succ]
    refine wpAnyH_ready (rs := [2]) (by kernel_rfl) (by simp) ?_
    refine AllReadyH.cons (o := _) (by simp only [List.getElem?_toArray, List.getElem?_cons_succ, List.getElem?_cons_zero] <;> exact rfl) (fun K hK => ?_) ?_
    focus (
      go_simp
      go_at_call 12
      refine (r_Sorted _ _ _ _ _ I1 HNP.out).mono ?_
      rintro e wc2 ⟨B2, d2, rfl, ho, hb⟩
      have hS := hS.trans (hb.mono hS.size)
      have I2 := own_ils ho
      clear ho
      clear I1
      clear hb
      go_wp2_with fail
      refine hK.out _ _ hS (fun _ => ?_)
      clear hK K
      try simp only [Act.put, List.setIfInBounds_toArray, List.set_cons_zero, List.set_cons_succ]
      refine wpAnyH_ready (rs := [5]) (by kernel_rfl) (by simp) ?_
      refine AllReadyH.cons (o := _) (by simp only [List.getElem?_toArray, List.getElem?_cons_succ, List.getElem?_cons_zero] <;> exact rfl) (fun K hK => ?_) ?_
      focus (
        go_simp
        go_at_call 21
        refine (r_With _ _ _ _ _ (L_107.out.keep hS) HN.out x).mono ?_
        rintro e wc3 ⟨B3, d3, rfl, ho, hb⟩
        have hS := hS.trans (hb.mono hS.size)
        have I2 := I2.keep hb
        have I3 := own_ils ho
        clear ho
        clear hb
        go_wp2_with fail
        refine hK.out _ _ hS (fun _ => ?_)
        clear hK K
        try simp only [Act.put, List.setIfInBounds_toArray, List.set_cons_zero, List.set_cons_succ]
        refine wpAnyH_ready (rs := [6]) (by kernel_rfl) (by simp) ?_
        refine AllReadyH.cons (o := _) (by simp only [List.getElem?_toArray, List.getElem?_cons_succ, List.getElem?_cons_zero] <;> exact rfl) (fun K hK => ?_) ?_
        focus (
          go_simp
          go_at_call 9
          refine (r_Same _ _ _ _ _ I2 HNP.out _ _ _ _ I3 HNP.out (push_same _ _)).mono ?_
          rintro e wc4 ⟨rfl, hb⟩
          have hS := hS.trans (hb.mono hS.size)
          clear I2
          clear I3
          clear hb
          go_wp2_with fail
          refine hK.out _ _ hS (fun _ => ?_)
          clear hK K
          try simp only [Act.put, List.setIfInBounds_toArray, List.set_cons_zero, List.set_cons_succ]
          refine wpAnyH_take (i := 7) (v := ?_) (by simp only [List.getElem?_toArray, List.getElem?_cons_succ, List.getElem?_cons_zero] <;> exact rfl) (by kernel_rfl) (by kernel_rfl) (by kernel_rfl) (fun _ _ _ h => h) (Or.inl ⟨by rfl, ?_⟩) hS ?_
          rotate_left
          focus (intro w' hw'; go_simp; all_goals with_reducible rfl)
          try simp only [Act.put, List.setIfInBounds_toArray, List.set_cons_zero, List.set_cons_succ]
          refine wpAnyH_take (i := 8) (v := ?_) (by simp only [List.getElem?_toArray, List.getElem?_cons_succ, List.getElem?_cons_zero] <;> exact rfl) (by kernel_rfl) (by kernel_rfl) (by kernel_rfl) (fun _ _ _ h => h) (Or.inl ⟨by rfl, ?_⟩) hS ?_
          rotate_left
          focus (intro w' hw'; go_simp; all_goals with_reducible rfl)
          try simp only [Act.put, List.setIfInBounds_toArray, List.set_cons_zero, List.set_cons_succ]
          refine wpAnyH_take (i := 9) (v := ?_) (by simp only [List.getElem?_toArray, List.getElem?_cons_succ, List.getElem?_cons_zero] <;> exact rfl) (by kernel_rfl) (by kernel_rfl) (by kernel_rfl) (fun _ _ _ h => h) (Or.inl ⟨by rfl, ?_⟩) hS ?_
          rotate_left
          focus (intro w' hw'; go_simp; all_goals with_reducible rfl)
          try simp only [Act.put, List.setIfInBounds_toArray, List.set_cons_zero, List.set_cons_succ]
          refine wpAnyH_take (i := 10) (v := ?_) (by simp only [List.getElem?_toArray, List.getElem?_cons_succ, List.getElem?_cons_zero] <;> exact rfl) (by kernel_rfl) (by kernel_rfl) (by kernel_rfl) (fun _ _ _ h => h) (Or.inl ⟨by rfl, ?_⟩) hS ?_
          rotate_left
          focus (intro w' hw'; go_simp; all_goals with_reducible rfl)
          try simp only [Act.put, List.setIfInBounds_toArray, List.set_cons_zero, List.set_cons_succ]
          refine wpAnyH_take (i := 11) (v := ?_) (by simp only [List.getElem?_toArray, List.getElem?_cons_succ, List.getElem?_cons_zero] <;> exact rfl) (by kernel_rfl) (by kernel_rfl) (by kernel_rfl) (fun _ _ _ h => h) (Or.inl ⟨by rfl, ?_⟩) hS ?_
          rotate_left
          focus (intro w' hw'; go_simp; all_goals with_reducible rfl)
          try simp only [Act.put, List.setIfInBounds_toArray, List.set_cons_zero, List.set_cons_succ]
          refine wpAnyH_take (i := 12) (v := ?_) (by simp only [List.getElem?_toArray, List.getElem?_cons_succ, List.getElem?_cons_zero] <;> exact rfl) (by kernel_rfl) (by kernel_rfl) (by kernel_rfl) (fun _ _ _ h => h) (Or.inl ⟨by rfl, ?_⟩) hS ?_
          rotate_left
          focus (intro w' hw'; go_simp; all_goals with_reducible rfl)
          try simp only [Act.put, List.setIfInBounds_toArray, List.set_cons_zero, List.set_cons_succ]
          refine wpAnyH_take (i := 13) (v := ?_) (by simp only [List.getElem?_toArray, List.getElem?_cons_succ, List.getElem?_cons_zero] <;> exact rfl) (by kernel_rfl) (by kernel_rfl) (by kernel_rfl) (fun _ _ _ h => h) (Or.inl ⟨by rfl, ?_⟩) hS ?_
          rotate_left
          focus (intro w' hw'; go_simp; all_goals with_reducible rfl)
          try simp only [Act.put, List.setIfInBounds_toArray, List.set_cons_zero, List.set_cons_succ]
          refine wpAnyH_take (i := 14) (v := ?_) (by simp only [List.getElem?_toArray, List.getElem?_cons_succ, List.getElem?_cons_zero] <;> exact rfl) (by kernel_rfl) (by kernel_rfl) (by kernel_rfl) (fun _ _ _ h => h) (Or.inl ⟨by rfl, ?_⟩) hS ?_
          rotate_left
          focus (intro w' hw'; go_simp; all_goals with_reducible rfl)
          try simp only [Act.put, List.setIfInBounds_toArray, List.set_cons_zero, List.set_cons_succ]
          refine wpAnyH_take (i := 15) (v := ?_) (by simp only [List.getElem?_toArray, List.getElem?_cons_succ, List.getElem?_cons_zero] <;> exact rfl) (by kernel_rfl) (by kernel_rfl) (by kernel_rfl) (fun _ _ _ h => h) (Or.inl ⟨by rfl, ?_⟩) hS ?_
          rotate_left
          focus (intro w' hw'; go_simp; all_goals with_reducible rfl)
          try simp only [Act.put, List.setIfInBounds_toArray, List.set_cons_zero, List.set_cons_succ]
          refine wpAnyH_take (i := 16) (v := ?_) (by simp only [List.getElem?_toArray, List.getElem?_cons_succ, List.getElem?_cons_zero] <;> exact rfl) (by kernel_rfl) (by kernel_rfl) (by kernel_rfl) (fun _ _ _ h => h) (Or.inl ⟨by rfl, ?_⟩) hS ?_
          rotate_left
          focus (intro w' hw'; go_simp; all_goals with_reducible rfl)
          try simp only [Act.put, List.setIfInBounds_toArray, List.set_cons_zero, List.set_cons_succ]
          refine wpAnyH_take (i := 17) (v := ?_) (by simp only [List.getElem?_toArray, List.getElem?_cons_succ, List.getElem?_cons_zero] <;> exact rfl) (by kernel_rfl) (by kernel_rfl) (by kernel_rfl) (fun _ _ _ h => h) (Or.inl ⟨by rfl, ?_⟩) hS ?_
          rotate_left
          focus (intro w' hw'; go_simp; all_goals with_reducible rfl)
          try simp only [Act.put, List.setIfInBounds_toArray, List.set_cons_zero, List.set_cons_succ]
          refine wpAnyH_take (i := 18) (v := undef) (by simp only [List.getElem?_toArray, List.getElem?_cons_succ, List.getElem?_cons_zero] <;> exact rfl) (by kernel_rfl) (by kernel_rfl) (by kernel_rfl) (fun _ _ _ h => h) (Or.inr ⟨by rfl, rfl⟩) hS ?_
          try simp only [Act.put, List.setIfInBounds_toArray, List.set_cons_zero, List.set_cons_succ]
          refine wpAnyH_take (i := 19) (v := undef) (by simp only [List.getElem?_toArray, List.getElem?_cons_succ, List.getElem?_cons_zero] <;> exact rfl) (by kernel_rfl) (by kernel_rfl) (by kernel_rfl) (fun _ _ _ h => h) (Or.inr ⟨by rfl, rfl⟩) hS ?_
          try simp only [Act.put, List.setIfInBounds_toArray, List.set_cons_zero, List.set_cons_succ]
          refine wpAnyH_take (i := 20) (v := undef) (by simp only [List.getElem?_toArray, List.getElem?_cons_succ, List.getElem?_cons_zero] <;> exact rfl) (by kernel_rfl) (by kernel_rfl) (by kernel_rfl) (fun _ _ _ h => h) (Or.inr ⟨by rfl, rfl⟩) hS ?_
          try simp only [Act.put, List.setIfInBounds_toArray, List.set_cons_zero, List.set_cons_succ]
          refine wpAnyH_take (i := 21) (v := undef) (by simp only [List.getElem?_toArray, List.getElem?_cons_succ, List.getElem?_cons_zero] <;> exact rfl) (by kernel_rfl) (by kernel_rfl) (by kernel_rfl) (fun _ _ _ h => h) (Or.inr ⟨by rfl, rfl⟩) hS ?_
          try simp only [Act.put, List.setIfInBounds_toArray, List.set_cons_zero, List.set_cons_succ]
          refine wpAnyH_take (i := 22) (v := undef) (by simp only [List.getElem?_toArray, List.getElem?_cons_succ, List.getElem?_cons_zero] <;> exact rfl) (by kernel_rfl) (by kernel_rfl) (by kernel_rfl) (fun _ _ _ h => h) (Or.inr ⟨by rfl, rfl⟩) hS ?_
          try simp only [Act.put, List.setIfInBounds_toArray, List.set_cons_zero, List.set_cons_succ]
          refine wpAnyH_take (i := 23) (v := undef) (by simp only [List.getElem?_toArray, List.getElem?_cons_succ, List.getElem?_cons_zero] <;> exact rfl) (by kernel_rfl) (by kernel_rfl) (by kernel_rfl) (fun _ _ _ h => h) (Or.inr ⟨by rfl, rfl⟩) hS ?_
          try simp only [Act.put, List.setIfInBounds_toArray, List.set_cons_zero, List.set_cons_succ]
          refine wpAnyH_take (i := 24) (v := undef) (by simp only [List.getElem?_toArray, List.getElem?_cons_succ, List.getElem?_cons_zero] <;> exact rfl) (by kernel_rfl) (by kernel_rfl) (by kernel_rfl) (fun _ _ _ h => h) (Or.inr ⟨by rfl, rfl⟩) hS ?_
          try simp only [Act.put, List.setIfInBounds_toArray, List.set_cons_zero, List.set_cons_succ]
          refine wpAnyH_take (i := 25) (v := undef) (by simp only [List.getElem?_toArray, List.getElem?_cons_succ, List.getElem?_cons_zero] <;> exact rfl) (by kernel_rfl) (by kernel_rfl) (by kernel_rfl) (fun _ _ _ h => h) (Or.inr ⟨by rfl, rfl⟩) hS ?_
          try simp only [Act.put, List.setIfInBounds_toArray, List.set_cons_zero, List.set_cons_succ]
          refine wpAnyH_take (i := 26) (v := undef) (by simp only [List.getElem?_toArray, List.getElem?_cons_succ, List.getElem?_cons_zero] <;> exact rfl) (by kernel_rfl) (by kernel_rfl) (by kernel_rfl) (fun _ _ _ h => h) (Or.inr ⟨by rfl, rfl⟩) hS ?_
          try simp only [Act.put, List.setIfInBounds_toArray, List.set_cons_zero, List.set_cons_succ]
          refine wpAnyH_take (i := 27) (v := undef) (by simp only [List.getElem?_toArray, List.getElem?_cons_succ, List.getElem?_cons_zero] <;> exact rfl) (by kernel_rfl) (by kernel_rfl) (by kernel_rfl) (fun _ _ _ h => h) (Or.inr ⟨by rfl, rfl⟩) hS ?_
          try simp only [Act.put, List.setIfInBounds_toArray, List.set_cons_zero, List.set_cons_succ]
          refine wpAnyH_take (i := 28) (v := undef) (by simp only [List.getElem?_toArray, List.getElem?_cons_succ, List.getElem?_cons_zero] <;> exact rfl) (by kernel_rfl) (by kernel_rfl) (by kernel_rfl) (fun _ _ _ h => h) (Or.inr ⟨by rfl, rfl⟩) hS ?_
          try simp only [Act.put, List.setIfInBounds_toArray, List.set_cons_zero, List.set_cons_succ]
          refine wpAnyH_take (i := 29) (v := undef) (by simp only [List.getElem?_toArray, List.getElem?_cons_succ, List.getElem?_cons_zero] <;> exact rfl) (by kernel_rfl) (by kernel_rfl) (by kernel_rfl) (fun _ _ _ h => h) (Or.inr ⟨by rfl, rfl⟩) hS ?_
          try simp only [Act.put, List.setIfInBounds_toArray, List.set_cons_zero, List.set_cons_succ]
          refine wpAnyH_take (i := 30) (v := undef) (by simp only [List.getElem?_toArray, List.getElem?_cons_succ, List.getElem?_cons_zero] <;> exact rfl) (by kernel_rfl) (by kernel_rfl) (by kernel_rfl) (fun _ _ _ h => h) (Or.inr ⟨by rfl, rfl⟩) hS ?_
          try simp only [Act.put, List.setIfInBounds_toArray, List.set_cons_zero, List.set_cons_succ]
          refine wpAnyH_take (i := 31) (v := undef) (by simp only [List.getElem?_toArray, List.getElem?_cons_succ, List.getElem?_cons_zero] <;> exact rfl) (by kernel_rfl) (by kernel_rfl) (by kernel_rfl) (fun _ _ _ h => h) (Or.inr ⟨by rfl, rfl⟩) hS ?_
          try simp only [Act.put, List.setIfInBounds_toArray, List.set_cons_zero, List.set_cons_succ]
          refine wpAnyH_take (i := 32) (v := ?_) (by simp only [List.getElem?_toArray, List.getElem?_cons_succ, List.getElem?_cons_zero] <;> exact rfl) (by kernel_rfl) (by kernel_rfl) (by kernel_rfl) (fun _ _ _ h => h) (Or.inl ⟨by rfl, ?_⟩) hS ?_
          rotate_left
          focus (intro w' hw'; go_simp; all_goals with_reducible rfl)
          try simp only [Act.put, List.setIfInBounds_toArray, List.set_cons_zero, List.set_cons_succ]
          refine wpAnyH_take (i := 33) (v := ?_) (by simp only [List.getElem?_toArray, List.getElem?_cons_succ, List.getElem?_cons_zero] <;> exact rfl) (by kernel_rfl) (by kernel_rfl) (by kernel_rfl) (fun _ _ _ h => h) (Or.inl ⟨by rfl, ?_⟩) hS ?_
          rotate_left
          focus (intro w' hw'; go_simp; all_goals with_reducible rfl)
          try simp only [Act.put, List.setIfInBounds_toArray, List.set_cons_zero, List.set_cons_succ]
          refine wpAnyH_take (i := 34) (v := ?_) (by simp only [List.getElem?_toArray, List.getElem?_cons_succ, List.getElem?_cons_zero] <;> exact rfl) (by kernel_rfl) (by kernel_rfl) (by kernel_rfl) (fun _ _ _ h => h) (Or.inl ⟨by rfl, ?_⟩) hS ?_
          rotate_left
          focus (intro w' hw'; go_simp; all_goals with_reducible rfl)
          try simp only [Act.put, List.setIfInBounds_toArray, List.set_cons_zero, List.set_cons_succ]
          refine wpAnyH_take (i := 35) (v := ?_) (by simp only [List.getElem?_toArray, List.getElem?_cons_succ, List.getElem?_cons_zero] <;> exact rfl) (by kernel_rfl) (by kernel_rfl) (by kernel_rfl) (fun _ _ _ h => h) (Or.inl ⟨by rfl, ?_⟩) hS ?_
          rotate_left
          focus (intro w' hw'; go_simp; all_goals with_reducible rfl)
          try simp only [Act.put, List.setIfInBounds_toArray, List.set_cons_zero, List.set_cons_succ]
          refine wpAnyH_take (i := 36) (v := ?_) (by simp only [List.getElem?_toArray, List.getElem?_cons_succ, List.getElem?_cons_zero] <;> exact rfl) (by kernel_rfl) (by kernel_rfl) (by kernel_rfl) (fun _ _ _ h => h) (Or.inl ⟨by rfl, ?_⟩) hS ?_
          rotate_left
          focus (intro w' hw'; go_simp; all_goals with_reducible rfl)
          try simp only [Act.put, List.setIfInBounds_toArray, List.set_cons_zero, List.set_cons_succ]
          refine wpAnyH_take (i := 37) (v := ?_) (by simp only [List.getElem?_toArray, List.getElem?_cons_succ, List.getElem?_cons_zero] <;> exact rfl) (by kernel_rfl) (by kernel_rfl) (by kernel_rfl) (fun _ _ _ h => h) (Or.inl ⟨by rfl, ?_⟩) hS ?_
          rotate_left
          focus (intro w' hw'; go_simp; all_goals with_reducible rfl)
          try simp only [Act.put, List.setIfInBounds_toArray, List.set_cons_zero, List.set_cons_succ]
          refine wpAnyH_take (i := 38) (v := ?_) (by simp only [List.getElem?_toArray, List.getElem?_cons_succ, List.getElem?_cons_zero] <;> exact rfl) (by kernel_rfl) (by kernel_rfl) (by kernel_rfl) (fun _ _ _ h => h) (Or.inl ⟨by rfl, ?_⟩) hS ?_
          rotate_left
          focus (intro w' hw'; go_simp; all_goals with_reducible rfl)
          try simp only [Act.put, List.setIfInBounds_toArray, List.set_cons_zero, List.set_cons_succ]
          refine wpAnyH_take (i := 39) (v := ?_) (by simp only [List.getElem?_toArray, List.getElem?_cons_succ, List.getElem?_cons_zero] <;> exact rfl) (by kernel_rfl) (by kernel_rfl) (by kernel_rfl) (fun _ _ _ h => h) (Or.inl ⟨by rfl, ?_⟩) hS ?_
          rotate_left
          focus (intro w' hw'; go_simp; all_goals with_reducible rfl)
          try simp only [Act.put, List.setIfInBounds_toArray, List.set_cons_zero, List.set_cons_succ]
          refine wpAnyH_take (i := 40) (v := ?_) (by simp only [List.getElem?_toArray, List.getElem?_cons_succ, List.getElem?_cons_zero] <;> exact rfl) (by kernel_rfl) (by kernel_rfl) (by kernel_rfl) (fun _ _ _ h => h) (Or.inl ⟨by rfl, ?_⟩) hS ?_
          rotate_left
          focus (intro w' hw'; go_simp; all_goals with_reducible rfl)
          try simp only [Act.put, List.setIfInBounds_toArray, List.set_cons_zero, List.set_cons_succ]
          refine wpAnyH_take (i := 41) (v := ?_) (by simp only [List.getElem?_toArray, List.getElem?_cons_succ, List.getElem?_cons_zero] <;> exact rfl) (by kernel_rfl) (by kernel_rfl) (by kernel_rfl) (fun _ _ _ h => h) (Or.inl ⟨by rfl, ?_⟩) hS ?_
          rotate_left
          focus (intro w' hw'; go_simp; all_goals with_reducible rfl)
          try simp only [Act.put, List.setIfInBounds_toArray, List.set_cons_zero, List.set_cons_succ]
          refine wpAnyH_take (i := 42) (v := ?_) (by simp only [List.getElem?_toArray, List.getElem?_cons_succ, List.getElem?_cons_zero] <;> exact rfl) (by kernel_rfl) (by kernel_rfl) (by kernel_rfl) (fun _ _ _ h => h) (Or.inl ⟨by rfl, ?_⟩) hS ?_
          rotate_left
          focus (intro w' hw'; go_simp; all_goals with_reducible rfl)
          try simp only [Act.put, List.setIfInBounds_toArray, List.set_cons_zero, List.set_cons_succ]
          refine wpAnyH_done (by kernel_rfl) ?_ _
          refine NoPanic.normal ?_
          go_wp2_with fail
          have L_116 := hide (L_107.out.keep hS)
          have X_117 := hide (X_108.out.keep hS)
          have HB_118 := hide (HB_109.out.trans (hS.mono HB_109.out.size))
          have a_119 := hide (a_110.out.keep hS)
          have b_120 := hide (b_111.out.keep hS)
          have y_121 := hide (y_112.out.keep hS)
          have c_122 := hide (c_113.out.keep hS)
          have d_123 := hide (d_114.out.keep hS)
          have s_124 := hide (s_115.out.keep hS)
          clear L_107 X_108 HB_109 a_110 b_111 y_112 c_113 d_114 s_115
          clear hS hpos
          clear a_119
          clear b_120
          clear y_121
          have hhp : Hp l := by rw [show l = [] from List.eq_nil_of_length_eq_zero (by rw [HLN.out]; exact HZ.out)]; exact hp_none
          have HHP := hide hhp
          clear hhp
          go_wp2_with fail
          refine (m_Check0 _ _ _ _ _ L_116.out HN.out HHP.out).mono ?_
          rintro e w_125 ⟨rfl, hb⟩
          have L_126 := hide (L_116.out.keep hb)
          have X_127 := hide (X_117.out.keep hb)
          have HB_128 := hide (HB_118.out.trans (hb.mono HB_118.out.size))
          have c_129 := hide (c_122.out.keep hb)
          have d_130 := hide (d_123.out.keep hb)
          have s_131 := hide (s_124.out.keep hb)
          clear L_116 X_117 HB_118 c_122 d_123 s_124
          clear hb
          have hof := L_126.out
          rw [← of_hp HHP.out] at hof
          have of_132 := hide hof
          clear hof
          go_wp2_with fail
          refine (m_First _ _ _ _ _ of_132.out HN.out id _ HF.out).mono ?_
          rintro e w_133 ⟨rfl, rfl⟩
          go_wp2_with fail
          refine (n_back _ _ _ _ _ c_129.out HN.out).mono ?_
          rintro e w_134 ⟨F1, f1, rfl, ho, hb⟩
          have L_135 := hide (L_126.out.keep hb)
          have X_136 := hide (X_127.out.keep hb)
          have HB_137 := hide (HB_128.out.trans (hb.mono HB_128.out.size))
          have c_138 := hide (c_129.out.keep hb)
          have d_139 := hide (d_130.out.keep hb)
          have s_140 := hide (s_131.out.keep hb)
          have of_141 := hide (of_132.out.keep hb)
          clear L_126 X_127 HB_128 c_129 d_130 s_131 of_132
          have p_142 := hide (own_ils ho)
          clear hb ho
          go_wp2_with fail
          refine (r_Sorted _ _ _ _ _ p_142.out HN.out).mono ?_
          rintro e w_143 ⟨F2, f2, rfl, ho, hb⟩
          have L_144 := hide (L_135.out.keep hb)
          have X_145 := hide (X_136.out.keep hb)
          have HB_146 := hide (HB_137.out.trans (hb.mono HB_137.out.size))
          have c_147 := hide (c_138.out.keep hb)
          have d_148 := hide (d_139.out.keep hb)
          have s_149 := hide (s_140.out.keep hb)
          have of_150 := hide (of_141.out.keep hb)
          have p_151 := hide (p_142.out.keep hb)
          clear L_135 X_136 HB_137 c_138 d_139 s_140 of_141 p_142
          have q_152 := hide (own_ils ho)
          clear hb ho
          clear p_151
          go_wp2_with fail
          refine (r_Same _ _ _ _ _ q_152.out HN.out _ _ _ _ s_149.out HN.out (of_same _)).mono ?_
          rintro e w_153 ⟨rfl, hb⟩
          have L_154 := hide (L_144.out.keep hb)
          have X_155 := hide (X_145.out.keep hb)
          have HB_156 := hide (HB_146.out.trans (hb.mono HB_146.out.size))
          have c_157 := hide (c_147.out.keep hb)
          have d_158 := hide (d_148.out.keep hb)
          have s_159 := hide (s_149.out.keep hb)
          have of_160 := hide (of_150.out.keep hb)
          have q_161 := hide (q_152.out.keep hb)
          clear L_144 X_145 HB_146 c_147 d_148 s_149 of_150 q_152
          clear hb
          clear q_161
          go_wp2_with fail
          refine (n_back _ _ _ _ _ d_158.out HN.out).mono ?_
          rintro e w_162 ⟨F3, f3, rfl, ho, hb⟩
          have L_163 := hide (L_154.out.keep hb)
          have X_164 := hide (X_155.out.keep hb)
          have HB_165 := hide (HB_156.out.trans (hb.mono HB_156.out.size))
          have c_166 := hide (c_157.out.keep hb)
          have d_167 := hide (d_158.out.keep hb)
          have s_168 := hide (s_159.out.keep hb)
          have of_169 := hide (of_160.out.keep hb)
          clear L_154 X_155 HB_156 c_157 d_158 s_159 of_160
          have p_170 := hide (own_ils ho)
          clear hb ho
          go_wp2_with fail
          refine (r_Sorted _ _ _ _ _ p_170.out HN.out).mono ?_
          rintro e w_171 ⟨F4, f4, rfl, ho, hb⟩
          have L_172 := hide (L_163.out.keep hb)
          have X_173 := hide (X_164.out.keep hb)
          have HB_174 := hide (HB_165.out.trans (hb.mono HB_165.out.size))
          have c_175 := hide (c_166.out.keep hb)
          have d_176 := hide (d_167.out.keep hb)
          have s_177 := hide (s_168.out.keep hb)
          have of_178 := hide (of_169.out.keep hb)
          have p_179 := hide (p_170.out.keep hb)
          clear L_163 X_164 HB_165 c_166 d_167 s_168 of_169 p_170
          have q_180 := hide (own_ils ho)
          clear hb ho
          clear p_179
          go_wp2_with fail
          refine (r_Same _ _ _ _ _ q_180.out HN.out _ _ _ _ s_177.out HN.out (of_same _)).mono ?_
          rintro e w_181 ⟨rfl, hb⟩
          have L_182 := hide (L_172.out.keep hb)
          have X_183 := hide (X_173.out.keep hb)
          have HB_184 := hide (HB_174.out.trans (hb.mono HB_174.out.size))
          have c_185 := hide (c_175.out.keep hb)
          have d_186 := hide (d_176.out.keep hb)
          have s_187 := hide (s_177.out.keep hb)
          have of_188 := hide (of_178.out.keep hb)
          have q_189 := hide (q_180.out.keep hb)
          clear L_172 X_173 HB_174 c_175 d_176 s_177 of_178 q_180
          clear hb
          clear q_189
          go_wp2_with fail
          refine (aw_heap _).mono ?_
          rintro e w_190 ⟨rfl, hb⟩
          have L_191 := hide (L_182.out.keep hb)
          have X_192 := hide (X_183.out.keep hb)
          have HB_193 := hide (HB_184.out.trans (hb.mono HB_184.out.size))
          have c_194 := hide (c_185.out.keep hb)
          have d_195 := hide (d_186.out.keep hb)
          have s_196 := hide (s_187.out.keep hb)
          have of_197 := hide (of_188.out.keep hb)
          clear L_182 X_183 HB_184 c_185 d_186 s_187 of_188
          clear hb
          go_wp2_with fail
          go_ret
          exact ⟨rfl, HB_193.out⟩)
        exact AllReadyH.nil)
      exact AllReadyH.nil)
    exact AllReadyH.nil)
  exact AllReadyH.nil
end Go.Proofs.Ytofnpmmbfcnlgaa.heapChanges
