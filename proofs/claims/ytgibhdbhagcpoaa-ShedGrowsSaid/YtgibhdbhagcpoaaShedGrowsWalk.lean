/-
  ShedGrows: its walk.
-/
import Derived.Test.YtgibhdbhagcpoaaSdTwo
import Derived.Test.YtgibhdbhagcpoaaSdAwake
import Derived.Test.YtgibhdbhagcpoaaShedGrowsMath
import Derived.Test.YtgibhdbhagcpoaaPhase
import Derived.BigGuardPart
import Derived.Deep.QuietTactic
import Derived.BigQuiet
import Derived.Deep.CutRange
import Derived.Deep.DeepCutAuto
import Derived.Lib.MinMax
namespace Go.Proofs.Ytgibhdbhagcpoaa.shedGrows
set_option linter.unusedSimpArgs false
set_option linter.unusedVariables false
open Go.RowKit

set_option maxRecDepth 100000 in
set_option maxHeartbeats 6400000 in
theorem walk_at (x : Lk) (b : Bu) (n0 n1 n2 n3 : Int) (w : World) (hk0 : -9223372036854775808 ≤ x.k) (hk1 : x.k ≤ 9223372036854775807) (a0 : 0 ≤ n0) (b0 : n0 ≤ 255) (a1 : 0 ≤ n1) (b1 : n1 ≤ 255) (a2 : 0 ≤ n2) (b2 : n2 ≤ 255) (a3 : 0 ≤ n3) (b3 : n3 ≤ 255) :
    Calls Try.prog 6 #[.agg x.cs, .agg b.cs, .agg #[.int .u8 n0, .int .u8 n1, .int .u8 n2, .int .u8 n3]] w fun e w' => e = .returned (.bool true) ∧ Below w.heap.size w w' := by
  have HAW := hide aw_shed
  have QD := hide (fun w => sd_Decide x b w hk0 hk1)
  have QV := hide (fun w => sd_Decide (Lk.mk x.o x.t x.a true x.c x.b x.k x.i x.s) b w hk0 hk1)
  have QU := hide (fun w => sd_Decide (Lk.mk x.o x.t x.a x.w x.c x.b 0 x.i x.s) b w (by simp only; omega) (by simp only; omega))
  have NA := hide (away_no x b)
  have NF := hide (full_no x b)
  have AD := hide (fun h => adm_of (x := x) (b := b) h)
  have AN := hide (And.intro (And.intro (And.intro a0 b0) (And.intro a1 b1)) (And.intro (And.intro a2 b2) (And.intro a3 b3)))
  clear hk0 hk1 a0 b0 a1 b1 a2 b2 a3 b3
  obtain ⟨f, hf⟩ : ∃ f, f = (decD x b).1 := ⟨_, rfl⟩
  obtain ⟨c, hc⟩ : ∃ c, c = (decD x b).2.1 := ⟨_, rfl⟩
  obtain ⟨m, hm⟩ : ∃ m, m = (decD x b).2.2 := ⟨_, rfl⟩
  rw [← hf, ← hc, ← hm] at QD
  obtain ⟨fa, hfa⟩ : ∃ f, f = (decD (Lk.mk x.o x.t x.a true x.c x.b x.k x.i x.s) b).1 := ⟨_, rfl⟩
  obtain ⟨ca, hca⟩ : ∃ c, c = (decD (Lk.mk x.o x.t x.a true x.c x.b x.k x.i x.s) b).2.1 := ⟨_, rfl⟩
  obtain ⟨ma, hma⟩ : ∃ m, m = (decD (Lk.mk x.o x.t x.a true x.c x.b x.k x.i x.s) b).2.2 := ⟨_, rfl⟩
  rw [← hfa, ← hca, ← hma] at QV
  obtain ⟨fu, hfu⟩ : ∃ f, f = (decD (Lk.mk x.o x.t x.a x.w x.c x.b 0 x.i x.s) b).1 := ⟨_, rfl⟩
  obtain ⟨cu, hcu⟩ : ∃ c, c = (decD (Lk.mk x.o x.t x.a x.w x.c x.b 0 x.i x.s) b).2.1 := ⟨_, rfl⟩
  obtain ⟨mu, hmu⟩ : ∃ m, m = (decD (Lk.mk x.o x.t x.a x.w x.c x.b 0 x.i x.s) b).2.2 := ⟨_, rfl⟩
  rw [← hfu, ← hcu, ← hmu] at QU
  rw [← hfa] at NA
  rw [← hfu] at NF
  have HFF := hide hf
  have kg : (fa == 0) = false := by rw [beq_eq_false_iff_ne]; exact NA.out
  have kh : (fu == 0) = false := by rw [beq_eq_false_iff_ne]; exact NF.out
  clear hf hc hm hfa hca hma hfu hcu hmu NA NF
  obtain ⟨g, hg⟩ : ∃ g, g = w.heap.size := ⟨_, rfl⟩
  have HL := hide hg.symm
  obtain ⟨W, hW⟩ : ∃ W, ((w.alloc (.cells x.cs 23)).alloc (.cells b.cs 25)).alloc (.cells #[.int .u8 n0, .int .u8 n1, .int .u8 n2, .int .u8 n3] 45) = W := ⟨_, rfl⟩
  have HB := hide (show Below w.heap.size w W by rw [← hW]; exact bel3 w _ _ _)
  have HX := hide (show BlkIs W g 23 x.cs by rw [← hW, hg]; exact ((BlkIs.new w _ _).alloc _).alloc _)
  have HY := hide (show BlkIs W (g + 1) 25 b.cs by rw [← hW, hg]; exact (new2 w _ _ _).alloc _)
  have HR := hide (show BlkIs W (g + 1 + 1) 45 #[.int .u8 n0, .int .u8 n1, .int .u8 n2, .int .u8 n3] by rw [← hW, hg]; exact new3 w _ _ _ _)
  have HW := hide hW
  clear hg hW
  go_enter Try.func6, Try.ntmps6
  go_upto_region 1 with (fail)
  rw [HL.out, HW.out]
  go_cut [7, 8] from 23 to 25 (fun s5 s6 wx => TwoL W wx x b s5 s6)
  case first =>
    refine wp_region_noPanic ?_
    refine wp_region_held_drew (S := fun w' => Below W.heap.size W w') (by kernel_rfl) (Below.refl _ _).drew (fun hS => ?_)
    generalize W.drew = wd at hS  ⊢
    refine wpAnyH_take (i := 0) (by simp only [List.getElem?_toArray, List.getElem?_cons_zero] <;> exact rfl) (by kernel_rfl) (by kernel_rfl) (by kernel_rfl) (fun _ _ _ h => h) (rgs_yields_blk (by rfl) 23 (.tmp 3) (by rfl) g (by rfl) 23 x.cs _ (fun w' hw' => HX.out.keep hw') Try.underlying23 rfl rl_size) hS ?_
    try simp only [Act.put, List.setIfInBounds_toArray, List.set_cons_zero, List.set_cons_succ]
    refine wpAnyH_take (i := 1) (by simp only [List.getElem?_toArray, List.getElem?_cons_succ, List.getElem?_cons_zero] <;> exact rfl) (by kernel_rfl) (by kernel_rfl) (by kernel_rfl) (fun _ _ _ h => h) (rgs_yields_blk (by rfl) 25 (.tmp 4) (by rfl) (g + 1) (by rfl) 25 b.cs _ (fun w' hw' => HY.out.keep hw') Try.underlying25 rfl rb_size) hS ?_
    try simp only [Act.put, List.setIfInBounds_toArray, List.set_cons_zero, List.set_cons_succ]
    refine wpAnyH_ready (rs := [2, 3]) (by kernel_rfl) (by simp) ?_
    refine AllReadyH.cons (o := _) (by simp only [List.getElem?_toArray, List.getElem?_cons_succ, List.getElem?_cons_zero] <;> exact rfl) (fun K hK => ?_) ?_
    focus (
      go_simp
      have hz1 := hS.size
      have hS := hS.alloc hS.size (.cells #[.int .i64 0, .int .i64 0, .int .i64 0, .bool false, .int .i64 0, .int .i64 0, .int .i64 0, .int .i64 0, .int .i64 0] 29)
      refine hK.out _ _ hS (fun _ => ?_)
      have Ex'1 := BlkIs.new wd 29 #[.int .i64 0, .int .i64 0, .int .i64 0, .bool false, .int .i64 0, .int .i64 0, .int .i64 0, .int .i64 0, .int .i64 0]
      obtain ⟨x', hx'⟩ : ∃ g, g = wd.heap.size := ⟨_, rfl⟩
      have Mx' : W.heap.size ≤ x' := by rw [hx']; exact hz1
      rw [← hx'] at Ex'1 ⊢
      generalize wd.alloc (.cells #[.int .i64 0, .int .i64 0, .int .i64 0, .bool false, .int .i64 0, .int .i64 0, .int .i64 0, .int .i64 0, .int .i64 0] 29) = wa1 at hS Ex'1 ⊢
      clear hx' hz1
      clear hK K
      try simp only [Act.put, List.setIfInBounds_toArray, List.set_cons_zero, List.set_cons_succ]
      refine wpAnyH_ready (rs := [3]) (by kernel_rfl) (by simp) ?_
      refine AllReadyH.cons (o := _) (by simp only [List.getElem?_toArray, List.getElem?_cons_succ, List.getElem?_cons_zero] <;> exact rfl) (fun K hK => ?_) ?_
      focus (
        go_simp
        have hz2 := hS.size
        have hS := hS.alloc hS.size (.cells #[.int .i64 0, .int .i64 0, .int .i64 0, .int .i64 0, .int .i64 0] 26)
        refine hK.out _ _ hS (fun _ => ?_)
        have Ex'2 := Ex'1.alloc (.cells #[.int .i64 0, .int .i64 0, .int .i64 0, .int .i64 0, .int .i64 0] 26)
        have Ey'2 := BlkIs.new wa1 26 #[.int .i64 0, .int .i64 0, .int .i64 0, .int .i64 0, .int .i64 0]
        obtain ⟨y', hy'⟩ : ∃ g, g = wa1.heap.size := ⟨_, rfl⟩
        have My' : W.heap.size ≤ y' := by rw [hy']; exact hz2
        rw [← hy'] at Ey'2 ⊢
        have Nx'y' : x' ≠ y' := by have := Ex'1.lt; omega
        have Ny'x' : y' ≠ x' := by have := Ex'1.lt; omega
        generalize wa1.alloc (.cells #[.int .i64 0, .int .i64 0, .int .i64 0, .int .i64 0, .int .i64 0] 26) = wa2 at hS Ex'2 Ey'2 ⊢
        clear hy' hz2
        clear hK K
        try simp only [Act.put, List.setIfInBounds_toArray, List.set_cons_zero, List.set_cons_succ]
        refine wpAnyH_ready (rs := [4]) (by kernel_rfl) (by simp) ?_
        refine AllReadyH.cons (o := _) (by simp only [List.getElem?_toArray, List.getElem?_cons_succ, List.getElem?_cons_zero] <;> exact rfl) (fun K hK => ?_) ?_
        focus (
          refine rgs_store_blk (by rfl) 29 (.tmp 7) (.tmp 23) (by rfl) x' x.cs #[.int .i64 0, .int .i64 0, .int .i64 0, .bool false, .int .i64 0, .int .i64 0, .int .i64 0, .int .i64 0, .int .i64 0] 29 (by rfl) (by rfl) Ex'2 lk_size rfl (Lk.cs_one x) ?_
          have hS := below_setRow hS Mx' x.cs
          have Ex'3 := Ex'2.row x.cs
          have Ey'3 := Ey'2.row_other Ny'x' x.cs
          refine hK.out _ _ hS (fun _ => ?_)
          generalize wa2.setRow x' x.cs = ws3 at hS Ex'3 Ey'3 ⊢
          clear hK K
          try simp only [Act.put, List.setIfInBounds_toArray, List.set_cons_zero, List.set_cons_succ]
          refine wpAnyH_ready (rs := [5]) (by kernel_rfl) (by simp) ?_
          refine AllReadyH.cons (o := _) (by simp only [List.getElem?_toArray, List.getElem?_cons_succ, List.getElem?_cons_zero] <;> exact rfl) (fun K hK => ?_) ?_
          focus (
            refine rgs_store_blk (by rfl) 26 (.tmp 8) (.tmp 24) (by rfl) y' b.cs #[.int .i64 0, .int .i64 0, .int .i64 0, .int .i64 0, .int .i64 0] 26 (by rfl) (by rfl) Ey'3 bu_size rfl (Bu.cs_one b) ?_
            have hS := below_setRow hS My' b.cs
            have Ex'4 := Ex'3.row_other Nx'y' b.cs
            have Ey'4 := Ey'3.row b.cs
            refine hK.out _ _ hS (fun _ => ?_)
            generalize ws3.setRow y' b.cs = ws4 at hS Ex'4 Ey'4 ⊢
            clear hK K
            try simp only [Act.put, List.setIfInBounds_toArray, List.set_cons_zero, List.set_cons_succ]
            refine wpAnyH_done (by kernel_rfl) ?_ _
            refine NoPanic.normal ?_
            go_wp2_with fail
            go_meet
            exact ⟨x', y', rfl, rfl, Ex'4, Ey'4, Mx', My', by first | exact Nx'y' | exact fun e => Ny'x' e.symm, hS⟩)
          exact AllReadyH.nil)
        exact AllReadyH.nil)
      exact AllReadyH.nil)
    refine AllReadyH.cons (o := _) (by simp only [List.getElem?_toArray, List.getElem?_cons_succ, List.getElem?_cons_zero] <;> exact rfl) (fun K hK => ?_) ?_
    focus (
      go_simp
      have hz5 := hS.size
      have hS := hS.alloc hS.size (.cells #[.int .i64 0, .int .i64 0, .int .i64 0, .int .i64 0, .int .i64 0] 26)
      refine hK.out _ _ hS (fun _ => ?_)
      have Ey'5 := BlkIs.new wd 26 #[.int .i64 0, .int .i64 0, .int .i64 0, .int .i64 0, .int .i64 0]
      obtain ⟨y', hy'⟩ : ∃ g, g = wd.heap.size := ⟨_, rfl⟩
      have My' : W.heap.size ≤ y' := by rw [hy']; exact hz5
      rw [← hy'] at Ey'5 ⊢
      generalize wd.alloc (.cells #[.int .i64 0, .int .i64 0, .int .i64 0, .int .i64 0, .int .i64 0] 26) = wa5 at hS Ey'5 ⊢
      clear hy' hz5
      clear hK K
      try simp only [Act.put, List.setIfInBounds_toArray, List.set_cons_zero, List.set_cons_succ]
      refine wpAnyH_ready (rs := [2]) (by kernel_rfl) (by simp) ?_
      refine AllReadyH.cons (o := _) (by simp only [List.getElem?_toArray, List.getElem?_cons_succ, List.getElem?_cons_zero] <;> exact rfl) (fun K hK => ?_) ?_
      focus (
        go_simp
        have hz6 := hS.size
        have hS := hS.alloc hS.size (.cells #[.int .i64 0, .int .i64 0, .int .i64 0, .bool false, .int .i64 0, .int .i64 0, .int .i64 0, .int .i64 0, .int .i64 0] 29)
        refine hK.out _ _ hS (fun _ => ?_)
        have Ey'6 := Ey'5.alloc (.cells #[.int .i64 0, .int .i64 0, .int .i64 0, .bool false, .int .i64 0, .int .i64 0, .int .i64 0, .int .i64 0, .int .i64 0] 29)
        have Ex'6 := BlkIs.new wa5 29 #[.int .i64 0, .int .i64 0, .int .i64 0, .bool false, .int .i64 0, .int .i64 0, .int .i64 0, .int .i64 0, .int .i64 0]
        obtain ⟨x', hx'⟩ : ∃ g, g = wa5.heap.size := ⟨_, rfl⟩
        have Mx' : W.heap.size ≤ x' := by rw [hx']; exact hz6
        rw [← hx'] at Ex'6 ⊢
        have Ny'x' : y' ≠ x' := by have := Ey'5.lt; omega
        have Nx'y' : x' ≠ y' := by have := Ey'5.lt; omega
        generalize wa5.alloc (.cells #[.int .i64 0, .int .i64 0, .int .i64 0, .bool false, .int .i64 0, .int .i64 0, .int .i64 0, .int .i64 0, .int .i64 0] 29) = wa6 at hS Ex'6 Ey'6 ⊢
        clear hx' hz6
        clear hK K
        try simp only [Act.put, List.setIfInBounds_toArray, List.set_cons_zero, List.set_cons_succ]
        refine wpAnyH_ready (rs := [4]) (by kernel_rfl) (by simp) ?_
        refine AllReadyH.cons (o := _) (by simp only [List.getElem?_toArray, List.getElem?_cons_succ, List.getElem?_cons_zero] <;> exact rfl) (fun K hK => ?_) ?_
        focus (
          refine rgs_store_blk (by rfl) 29 (.tmp 7) (.tmp 23) (by rfl) x' x.cs #[.int .i64 0, .int .i64 0, .int .i64 0, .bool false, .int .i64 0, .int .i64 0, .int .i64 0, .int .i64 0, .int .i64 0] 29 (by rfl) (by rfl) Ex'6 lk_size rfl (Lk.cs_one x) ?_
          have hS := below_setRow hS Mx' x.cs
          have Ex'7 := Ex'6.row x.cs
          have Ey'7 := Ey'6.row_other Ny'x' x.cs
          refine hK.out _ _ hS (fun _ => ?_)
          generalize wa6.setRow x' x.cs = ws7 at hS Ex'7 Ey'7 ⊢
          clear hK K
          try simp only [Act.put, List.setIfInBounds_toArray, List.set_cons_zero, List.set_cons_succ]
          refine wpAnyH_ready (rs := [5]) (by kernel_rfl) (by simp) ?_
          refine AllReadyH.cons (o := _) (by simp only [List.getElem?_toArray, List.getElem?_cons_succ, List.getElem?_cons_zero] <;> exact rfl) (fun K hK => ?_) ?_
          focus (
            refine rgs_store_blk (by rfl) 26 (.tmp 8) (.tmp 24) (by rfl) y' b.cs #[.int .i64 0, .int .i64 0, .int .i64 0, .int .i64 0, .int .i64 0] 26 (by rfl) (by rfl) Ey'7 bu_size rfl (Bu.cs_one b) ?_
            have hS := below_setRow hS My' b.cs
            have Ex'8 := Ex'7.row_other Nx'y' b.cs
            have Ey'8 := Ey'7.row b.cs
            refine hK.out _ _ hS (fun _ => ?_)
            generalize ws7.setRow y' b.cs = ws8 at hS Ex'8 Ey'8 ⊢
            clear hK K
            try simp only [Act.put, List.setIfInBounds_toArray, List.set_cons_zero, List.set_cons_succ]
            refine wpAnyH_done (by kernel_rfl) ?_ _
            refine NoPanic.normal ?_
            go_wp2_with fail
            go_meet
            exact ⟨x', y', rfl, rfl, Ex'8, Ey'8, Mx', My', by first | exact Nx'y' | exact fun e => Ny'x' e.symm, hS⟩)
          exact AllReadyH.nil)
        exact AllReadyH.nil)
      exact AllReadyH.nil)
    exact AllReadyH.nil
  case rest =>
    obtain ⟨gl, ga, rfl, rfl, hl, ha, ml, ma, mn, hb⟩ := hcut
    have NX := hide hl
    have NA := hide ha
    have NB := hide (HB.out.trans (hb.mono HB.out.size))
    have HGl := hide (show w.heap.size ≤ gl from Nat.le_trans HB.out.size ml)
    have HGa := hide (show w.heap.size ≤ ga from Nat.le_trans HB.out.size ma)
    have HNE := hide mn
    have NR := hide (HR.out.keep hb)
    clear hl ha hb HX HY HR HB HW ml ma mn
    generalize wc = W2 at *
    go_wp2_with (first | (refine wpList_load_blk rfl 29 (.tmp 7) rfl gl rfl 29 x.cs _ NX.out Try.underlying29 rfl lk_size ?_) | (refine wpList_load_blk rfl 26 (.tmp 8) rfl ga rfl 26 b.cs _ NA.out Try.underlying26 rfl bu_size ?_))
    refine (QD.out _).mono ?_
    rintro e w_1 ⟨rfl, hb⟩
    have Hl_2 := hide (NX.out.keep hb)
    clear NX
    have Ha_2 := hide (NA.out.keep hb)
    clear NA
    have Hr_2 := hide (NR.out.keep hb)
    clear NR
    have HB_2 := hide (NB.out.trans (hb.mono NB.out.size))
    clear NB
    clear hb
    obtain ⟨gc, hg⟩ : ∃ g, g = w_1.heap.size := ⟨_, rfl⟩
    have Gc := hide hg.symm
    have Nc := hide (show BlkIs (w_1.alloc (.cells c.cs 26)) gc 26 c.cs by rw [hg]; exact BlkIs.new w_1 _ _)
    clear hg
    have Hl_4 := hide (Hl_2.out.alloc (.cells c.cs 26))
    clear Hl_2
    have Ha_4 := hide (Ha_2.out.alloc (.cells c.cs 26))
    clear Ha_2
    have Hr_4 := hide (Hr_2.out.alloc (.cells c.cs 26))
    clear Hr_2
    have HB_4 := hide (HB_2.out.alloc HB_2.out.size (.cells c.cs 26))
    clear HB_2
    go_upto_region 3 with (first | (refine wpList_store_new rfl 26 (.tmp 10) (.tmp 30) rfl c.cs _ 26 rfl rfl bu_size rfl (Bu.cs_one _) ?_))
    rw [Gc.out]
    generalize w_1.alloc (.cells c.cs 26) = v_3 at *
    clear Nc
    have OLD := hide Hl_4.out
    have LT := hide (Hl_4.out.lt)
    have SZ := hide (HB_4.out.size)
    obtain ⟨gv, hg⟩ : ∃ g, g = v_3.heap.size := ⟨_, rfl⟩
    have Gv := hide hg.symm
    have Nv := hide (show BlkIs (v_3.alloc (.cells x.cs 29)) gv 29 x.cs by rw [hg]; exact BlkIs.new v_3 _ _)
    clear hg
    have Hl_6 := hide (Hl_4.out.alloc (.cells x.cs 29))
    clear Hl_4
    have Ha_6 := hide (Ha_4.out.alloc (.cells x.cs 29))
    clear Ha_4
    have Hr_6 := hide (Hr_4.out.alloc (.cells x.cs 29))
    clear Hr_4
    have HB_6 := hide (HB_4.out.alloc HB_4.out.size (.cells x.cs 29))
    clear HB_4
    go_upto_region 4 with (first | (refine wpList_store_new rfl 29 (.tmp 12) (.tmp 32) rfl x.cs _ 29 rfl rfl lk_size rfl (Lk.cs_one x) ?_) | (refine wpList_load_blk rfl 29 (.tmp 7) rfl gl rfl 29 x.cs _ OLD.out Try.underlying29 rfl lk_size ?_))
    rw [Gv.out]
    generalize v_3.alloc (.cells x.cs 29) = v_5 at *
    have NElv := hide (show gl ≠ gv from by have h1 := LT.out; have h2 := Gv.out; omega)
    have HGv := hide (show w.heap.size ≤ gv from by have h1 := SZ.out; have h2 := Gv.out; omega)
    clear LT SZ OLD
    have dd := (Nv.out.cell 3).trans (show _ = some (Value.bool x.w) from rfl)
    have ff := Nv.out.frozen 3
    have Hl_7 := hide (Hl_6.out.far (p := ⟨gv, 3, none⟩) (NElv.out) (.bool true))
    have Ha_7 := hide (Ha_6.out.far (p := ⟨gv, 3, none⟩) (Ha_6.out.ne_ Nv.out (by decide)) (.bool true))
    have Hr_7 := hide (Hr_6.out.far (p := ⟨gv, 3, none⟩) (Hr_6.out.ne_ Nv.out (by decide)) (.bool true))
    have Hv_7 := hide (show BlkIs (v_5.setCell ⟨gv, 3, none⟩ (.bool true)) gv 29 (Lk.mk x.o x.t x.a true x.c x.b x.k x.i x.s).cs from Nv.out.put 3 (.bool true))
    have HB_7 := hide (HB_6.out.setCell (p := ⟨gv, 3, none⟩) (by have := HGv.out; exact this) (.bool true))
    clear HB_6
    go_upto_region 5 with (fail)
    clear ff
    generalize v_5.setCell ⟨gv, 3, none⟩ (.bool true) = v_7 at *
    clear dd
    go_wp2_with (first | (refine wpList_load_blk rfl 29 (.tmp 12) rfl gv rfl 29 (Lk.mk x.o x.t x.a true x.c x.b x.k x.i x.s).cs _ Hv_7.out Try.underlying29 rfl lk_size ?_) | (refine wpList_load_blk rfl 26 (.tmp 8) rfl ga rfl 26 b.cs _ Ha_7.out Try.underlying26 rfl bu_size ?_))
    refine (QV.out _).mono ?_
    rintro e w_8 ⟨rfl, hb⟩
    have Hl_9 := hide (Hl_7.out.keep hb)
    clear Hl_7
    have Ha_9 := hide (Ha_7.out.keep hb)
    clear Ha_7
    have Hr_9 := hide (Hr_7.out.keep hb)
    clear Hr_7
    have Hv_9 := hide (Hv_7.out.keep hb)
    clear Hv_7
    have HB_9 := hide (HB_7.out.trans (hb.mono HB_7.out.size))
    clear HB_7
    clear hb
    obtain ⟨gca, hg⟩ : ∃ g, g = w_8.heap.size := ⟨_, rfl⟩
    have Gca := hide hg.symm
    have Nca := hide (show BlkIs (w_8.alloc (.cells ca.cs 26)) gca 26 ca.cs by rw [hg]; exact BlkIs.new w_8 _ _)
    clear hg
    have Hl_11 := hide (Hl_9.out.alloc (.cells ca.cs 26))
    clear Hl_9
    have Ha_11 := hide (Ha_9.out.alloc (.cells ca.cs 26))
    clear Ha_9
    have Hr_11 := hide (Hr_9.out.alloc (.cells ca.cs 26))
    clear Hr_9
    have Hv_11 := hide (Hv_9.out.alloc (.cells ca.cs 26))
    clear Hv_9
    have HB_11 := hide (HB_9.out.alloc HB_9.out.size (.cells ca.cs 26))
    clear HB_9
    go_upto_region 6 with (first | (refine wpList_store_new rfl 26 (.tmp 14) (.tmp 39) rfl ca.cs _ 26 rfl rfl bu_size rfl (Bu.cs_one _) ?_))
    rw [Gca.out]
    generalize w_8.alloc (.cells ca.cs 26) = v_10 at *
    clear Nca
    clear Hv_11
    have OLD := hide Hl_11.out
    have LT := hide (Hl_11.out.lt)
    have SZ := hide (HB_11.out.size)
    obtain ⟨gu, hg⟩ : ∃ g, g = v_10.heap.size := ⟨_, rfl⟩
    have Gu := hide hg.symm
    have Nu := hide (show BlkIs (v_10.alloc (.cells x.cs 29)) gu 29 x.cs by rw [hg]; exact BlkIs.new v_10 _ _)
    clear hg
    have Hl_13 := hide (Hl_11.out.alloc (.cells x.cs 29))
    clear Hl_11
    have Ha_13 := hide (Ha_11.out.alloc (.cells x.cs 29))
    clear Ha_11
    have Hr_13 := hide (Hr_11.out.alloc (.cells x.cs 29))
    clear Hr_11
    have HB_13 := hide (HB_11.out.alloc HB_11.out.size (.cells x.cs 29))
    clear HB_11
    go_upto_region 7 with (first | (refine wpList_store_new rfl 29 (.tmp 16) (.tmp 41) rfl x.cs _ 29 rfl rfl lk_size rfl (Lk.cs_one x) ?_) | (refine wpList_load_blk rfl 29 (.tmp 7) rfl gl rfl 29 x.cs _ OLD.out Try.underlying29 rfl lk_size ?_))
    rw [Gu.out]
    generalize v_10.alloc (.cells x.cs 29) = v_12 at *
    have NElu := hide (show gl ≠ gu from by have h1 := LT.out; have h2 := Gu.out; omega)
    have HGu := hide (show w.heap.size ≤ gu from by have h1 := SZ.out; have h2 := Gu.out; omega)
    clear LT SZ OLD
    have dd := (Nu.out.cell 6).trans (show _ = some (Value.int .i64 x.k) from rfl)
    have ff := Nu.out.frozen 6
    have Hl_14 := hide (Hl_13.out.far (p := ⟨gu, 6, none⟩) (NElu.out) (.int .i64 0))
    have Ha_14 := hide (Ha_13.out.far (p := ⟨gu, 6, none⟩) (Ha_13.out.ne_ Nu.out (by decide)) (.int .i64 0))
    have Hr_14 := hide (Hr_13.out.far (p := ⟨gu, 6, none⟩) (Hr_13.out.ne_ Nu.out (by decide)) (.int .i64 0))
    have Hu_14 := hide (show BlkIs (v_12.setCell ⟨gu, 6, none⟩ (.int .i64 0)) gu 29 (Lk.mk x.o x.t x.a x.w x.c x.b 0 x.i x.s).cs from Nu.out.put 6 (.int .i64 0))
    have HB_14 := hide (HB_13.out.setCell (p := ⟨gu, 6, none⟩) (by have := HGu.out; exact this) (.int .i64 0))
    clear HB_13
    go_upto_region 8 with (fail)
    clear ff
    generalize v_12.setCell ⟨gu, 6, none⟩ (.int .i64 0) = v_14 at *
    clear dd
    go_wp2_with (first | (refine wpList_load_blk rfl 29 (.tmp 16) rfl gu rfl 29 (Lk.mk x.o x.t x.a x.w x.c x.b 0 x.i x.s).cs _ Hu_14.out Try.underlying29 rfl lk_size ?_) | (refine wpList_load_blk rfl 26 (.tmp 8) rfl ga rfl 26 b.cs _ Ha_14.out Try.underlying26 rfl bu_size ?_))
    refine (QU.out _).mono ?_
    rintro e w_15 ⟨rfl, hb⟩
    have Hl_16 := hide (Hl_14.out.keep hb)
    clear Hl_14
    have Ha_16 := hide (Ha_14.out.keep hb)
    clear Ha_14
    have Hr_16 := hide (Hr_14.out.keep hb)
    clear Hr_14
    have Hu_16 := hide (Hu_14.out.keep hb)
    clear Hu_14
    have HB_16 := hide (HB_14.out.trans (hb.mono HB_14.out.size))
    clear HB_14
    clear hb
    obtain ⟨gcu, hg⟩ : ∃ g, g = w_15.heap.size := ⟨_, rfl⟩
    have Gcu := hide hg.symm
    have Ncu := hide (show BlkIs (w_15.alloc (.cells cu.cs 26)) gcu 26 cu.cs by rw [hg]; exact BlkIs.new w_15 _ _)
    clear hg
    have Hl_18 := hide (Hl_16.out.alloc (.cells cu.cs 26))
    clear Hl_16
    have Ha_18 := hide (Ha_16.out.alloc (.cells cu.cs 26))
    clear Ha_16
    have Hr_18 := hide (Hr_16.out.alloc (.cells cu.cs 26))
    clear Hr_16
    have Hu_18 := hide (Hu_16.out.alloc (.cells cu.cs 26))
    clear Hu_16
    have HB_18 := hide (HB_16.out.alloc HB_16.out.size (.cells cu.cs 26))
    clear HB_16
    go_upto_region 9 with (first | (refine wpList_store_new rfl 26 (.tmp 18) (.tmp 48) rfl cu.cs _ 26 rfl rfl bu_size rfl (Bu.cs_one _) ?_))
    rw [Gcu.out]
    generalize w_15.alloc (.cells cu.cs 26) = v_17 at *
    clear Ncu
    clear Hu_18
    go_upto_region 11 with (fail)
    clear kg kh
    by_cases h0 : f = 0
    · have AD1 := hide (AD.out (by rw [← HFF.out]; exact h0))
      clear AD HFF
      subst h0
      by_cases q0 : 1000 < x.t
      · have k0 : decide (1000 < x.t) = true := decide_eq_true q0
        clear q0
        obtain ⟨x0, x1, x2, x3, x4, x5, x6, x7, x8⟩ := cells9 (x := x) Hl_18.out
        clear x3 x4 x5 x7 x8
        go_wp2_with fail
        refine (HAW.out _).mono ?_
        rintro e w_19 ⟨rfl, hb⟩
        have Hl_20 := hide (Hl_18.out.keep hb)
        clear Hl_18
        have Ha_20 := hide (Ha_18.out.keep hb)
        clear Ha_18
        have Hr_20 := hide (Hr_18.out.keep hb)
        clear Hr_18
        have HB_20 := hide (HB_18.out.trans (hb.mono HB_18.out.size))
        clear HB_18
        clear hb
        go_wp2
        go_ret
        exact ⟨rfl, HB_20.out⟩
      have k0 : decide (1000 < x.t) = false := decide_eq_false q0
      by_cases q1 : 1000 < x.a
      · have k1 : decide (1000 < x.a) = true := decide_eq_true q1
        clear q0 q1
        obtain ⟨x0, x1, x2, x3, x4, x5, x6, x7, x8⟩ := cells9 (x := x) Hl_18.out
        clear x3 x4 x5 x7 x8
        go_wp2_with fail
        refine (HAW.out _).mono ?_
        rintro e w_19 ⟨rfl, hb⟩
        have Hl_20 := hide (Hl_18.out.keep hb)
        clear Hl_18
        have Ha_20 := hide (Ha_18.out.keep hb)
        clear Ha_18
        have Hr_20 := hide (Hr_18.out.keep hb)
        clear Hr_18
        have HB_20 := hide (HB_18.out.trans (hb.mono HB_18.out.size))
        clear HB_18
        clear hb
        go_wp2
        go_ret
        exact ⟨rfl, HB_20.out⟩
      have k1 : decide (1000 < x.a) = false := decide_eq_false q1
      by_cases q2 : x.o < -1000
      · have k2 : decide (x.o < -1000) = true := decide_eq_true q2
        clear q0 q1 q2
        obtain ⟨x0, x1, x2, x3, x4, x5, x6, x7, x8⟩ := cells9 (x := x) Hl_18.out
        clear x3 x4 x5 x7 x8
        go_wp2_with fail
        refine (HAW.out _).mono ?_
        rintro e w_19 ⟨rfl, hb⟩
        have Hl_20 := hide (Hl_18.out.keep hb)
        clear Hl_18
        have Ha_20 := hide (Ha_18.out.keep hb)
        clear Ha_18
        have Hr_20 := hide (Hr_18.out.keep hb)
        clear Hr_18
        have HB_20 := hide (HB_18.out.trans (hb.mono HB_18.out.size))
        clear HB_18
        clear hb
        go_wp2
        go_ret
        exact ⟨rfl, HB_20.out⟩
      have k2 : decide (x.o < -1000) = false := decide_eq_false q2
      by_cases q3 : 1099511627776 < x.k
      · have k3 : decide (1099511627776 < x.k) = true := decide_eq_true q3
        clear q0 q1 q2 q3
        obtain ⟨x0, x1, x2, x3, x4, x5, x6, x7, x8⟩ := cells9 (x := x) Hl_18.out
        clear x3 x4 x5 x7 x8
        go_wp2_with fail
        refine (HAW.out _).mono ?_
        rintro e w_19 ⟨rfl, hb⟩
        have Hl_20 := hide (Hl_18.out.keep hb)
        clear Hl_18
        have Ha_20 := hide (Ha_18.out.keep hb)
        clear Ha_18
        have Hr_20 := hide (Hr_18.out.keep hb)
        clear Hr_18
        have HB_20 := hide (HB_18.out.trans (hb.mono HB_18.out.size))
        clear HB_18
        clear hb
        go_wp2
        go_ret
        exact ⟨rfl, HB_20.out⟩
      have k3 : decide (1099511627776 < x.k) = false := decide_eq_false q3
      obtain ⟨⟨⟨a0, b0⟩, ⟨a1, b1⟩⟩, ⟨⟨a2, b2⟩, ⟨a3, b3⟩⟩⟩ := AN.out
      have ok := AD1.out.ok
      have p0 := AD1.out.a
      have p1 := AD1.out.t
      obtain ⟨f1, f2, f3, f4⟩ := AD1.out.fit
      obtain ⟨M, hM⟩ : ∃ M, M = b.u * b.p := ⟨_, rfl⟩
      have hm := mul_in ok.1 ok.2.1 ok.2.2.2.2.1 ok.2.2.2.2.2.1
      have hl0 : 0 ≤ b.l := ok.2.2.2.2.2.2.2.2.1
      have hl1 : b.l ≤ M := by rw [hM]; exact ok.2.2.2.2.2.2.2.2.2
      rw [← hM] at hm
      have E1 := hide (show b.u * b.p = M from hM.symm)
      have WM := hide (show IntKind.i64.wrap M = M from IntWalk.i64_in _ (by omega))
      have WL := hide (show IntKind.i64.wrap (b.l + 1) = b.l + 1 from IntWalk.i64_in _ (by omega))
      have WB := hide (show IntKind.i64.wrap (x.b / 2) = x.b / 2 from IntWalk.i64_in _ (by omega))
      have DB := hide (show x.b.tdiv 2 = x.b / 2 from Int.tdiv_eq_ediv_of_nonneg (by omega))
      have w0 : IntKind.i64.wrap (x.o - n0) = x.o - n0 := IntWalk.i64_in _ (by omega)
      have w1 : IntKind.i64.wrap (x.t + n1) = x.t + n1 := IntWalk.i64_in _ (by omega)
      have w2 : IntKind.i64.wrap (x.a + n2) = x.a + n2 := IntWalk.i64_in _ (by omega)
      have w3 : IntKind.i64.wrap (x.k + n3) = x.k + n3 := IntWalk.i64_in _ (by omega)
      have v0 : IntKind.i64.wrap n0 = n0 := IntWalk.i64_in _ (by omega)
      have v1 : IntKind.i64.wrap n1 = n1 := IntWalk.i64_in _ (by omega)
      have v2 : IntKind.i64.wrap n2 = n2 := IntWalk.i64_in _ (by omega)
      have v3 : IntKind.i64.wrap n3 = n3 := IntWalk.i64_in _ (by omega)
      have X0 := hide (show -9223372036854775808 ≤ x.k + n3 from by omega)
      have X1 := hide (show x.k + n3 ≤ 9223372036854775807 from by omega)
      clear q0 q1 q2 q3 p0 p1 f1 f2 f3 f4 ok hm hl0 hl1 hM a0 b0 a1 b1 a2 b2 a3 b3
      obtain ⟨x0, x1, x2, x3, x4, x5, x6, x7, x8⟩ := cells9 (x := x) Hl_18.out
      clear x3 x4 x5 x7 x8
      have r0 := (Hr_18.out.cell 0).trans (show _ = some (Value.int .u8 n0) from rfl)
      have r1 := (Hr_18.out.cell 1).trans (show _ = some (Value.int .u8 n1) from rfl)
      have r2 := (Hr_18.out.cell 2).trans (show _ = some (Value.int .u8 n2) from rfl)
      have r3 := (Hr_18.out.cell 3).trans (show _ = some (Value.int .u8 n3) from rfl)
      have ff0 := Hl_18.out.frozen 0
      have ff1 := Hl_18.out.frozen 1
      have ff2 := Hl_18.out.frozen 2
      have ff6 := Hl_18.out.frozen 6
      go_upto_region 13 with (fail)
      clear k0 k1 k2 k3
      clear ff0 ff1 ff2 ff6
      clear x0 x1 x2 x6 r0 r1 r2 r3
      refine wp_region_noPanic ?_
      have X := Hl_18.out.drew
      have A := Ha_18.out.drew
      have R := Hr_18.out.drew
      have BB := HB_18.out.drew
      have hn := (Ha_18.out.ne_ Hl_18.out (by decide))
      have hr := (Hr_18.out.ne_ Hl_18.out (by decide))
      refine wp_region_ahead 25 (fun w' => w' = v_17.drew) (fun w' => KB (· = gl) v_17.drew w') (by kernel_rfl) rfl (fun _ => ?_)
      generalize v_17.drew = wd at X A R BB ⊢
      refine ahead_take (i := 0) (v := ?_) (by simp only [List.getElem?_toArray, List.getElem?_cons_succ, List.getElem?_cons_zero] <;> exact rfl) (by kernel_rfl) (by kernel_rfl) (by kernel_rfl) (by kernel_rfl) (by decide) (by kernel_rfl) (fun _ _ _ h => h) (Or.inl ⟨by rfl, ?_⟩) rfl ?_
      rotate_left
      focus (intro w' hw'; subst hw'; go_simp; all_goals with_reducible rfl)
      try simp only [Act.put, List.setIfInBounds_toArray, List.set_cons_zero, List.set_cons_succ]
      refine ahead_take (i := 1) (v := ?_) (by simp only [List.getElem?_toArray, List.getElem?_cons_succ, List.getElem?_cons_zero] <;> exact rfl) (by kernel_rfl) (by kernel_rfl) (by kernel_rfl) (by kernel_rfl) (by decide) (by kernel_rfl) (fun _ _ _ h => h) (Or.inl ⟨by rfl, ?_⟩) rfl ?_
      rotate_left
      focus (intro w' hw'; subst hw'; have kk := (X.cell 0).trans (show _ = some (Value.int .i64 x.o) from rfl); go_simp; all_goals with_reducible rfl)
      try simp only [Act.put, List.setIfInBounds_toArray, List.set_cons_zero, List.set_cons_succ]
      refine ahead_take (i := 2) (v := ?_) (by simp only [List.getElem?_toArray, List.getElem?_cons_succ, List.getElem?_cons_zero] <;> exact rfl) (by kernel_rfl) (by kernel_rfl) (by kernel_rfl) (by kernel_rfl) (by decide) (by kernel_rfl) (fun _ _ _ h => h) (Or.inl ⟨by rfl, ?_⟩) rfl ?_
      rotate_left
      focus (intro w' hw'; subst hw'; go_simp; all_goals with_reducible rfl)
      try simp only [Act.put, List.setIfInBounds_toArray, List.set_cons_zero, List.set_cons_succ]
      refine ahead_take (i := 3) (v := ?_) (by simp only [List.getElem?_toArray, List.getElem?_cons_succ, List.getElem?_cons_zero] <;> exact rfl) (by kernel_rfl) (by kernel_rfl) (by kernel_rfl) (by kernel_rfl) (by decide) (by kernel_rfl) (fun _ _ _ h => h) (Or.inl ⟨by rfl, ?_⟩) rfl ?_
      rotate_left
      focus (intro w' hw'; subst hw'; have kk := (R.cell 0).trans (show _ = some (Value.int .u8 n0) from rfl); go_simp; all_goals with_reducible rfl)
      try simp only [Act.put, List.setIfInBounds_toArray, List.set_cons_zero, List.set_cons_succ]
      refine ahead_take (i := 4) (v := ?_) (by simp only [List.getElem?_toArray, List.getElem?_cons_succ, List.getElem?_cons_zero] <;> exact rfl) (by kernel_rfl) (by kernel_rfl) (by kernel_rfl) (by kernel_rfl) (by decide) (by kernel_rfl) (fun _ _ _ h => h) (Or.inl ⟨by rfl, ?_⟩) rfl ?_
      rotate_left
      focus (intro w' hw'; subst hw'; go_simp; all_goals with_reducible rfl)
      try simp only [Act.put, List.setIfInBounds_toArray, List.set_cons_zero, List.set_cons_succ]
      refine ahead_take (i := 5) (v := ?_) (by simp only [List.getElem?_toArray, List.getElem?_cons_succ, List.getElem?_cons_zero] <;> exact rfl) (by kernel_rfl) (by kernel_rfl) (by kernel_rfl) (by kernel_rfl) (by decide) (by kernel_rfl) (fun _ _ _ h => h) (Or.inl ⟨by rfl, ?_⟩) rfl ?_
      rotate_left
      focus (intro w' hw'; subst hw'; go_simp; all_goals with_reducible rfl)
      try simp only [Act.put, List.setIfInBounds_toArray, List.set_cons_zero, List.set_cons_succ]
      refine ahead_take (i := 6) (v := ?_) (by simp only [List.getElem?_toArray, List.getElem?_cons_succ, List.getElem?_cons_zero] <;> exact rfl) (by kernel_rfl) (by kernel_rfl) (by kernel_rfl) (by kernel_rfl) (by decide) (by kernel_rfl) (fun _ _ _ h => h) (Or.inl ⟨by rfl, ?_⟩) rfl ?_
      rotate_left
      focus (intro w' hw'; subst hw'; go_simp; all_goals with_reducible rfl)
      try simp only [Act.put, List.setIfInBounds_toArray, List.set_cons_zero, List.set_cons_succ]
      refine ahead_take (i := 7) (v := ?_) (by simp only [List.getElem?_toArray, List.getElem?_cons_succ, List.getElem?_cons_zero] <;> exact rfl) (by kernel_rfl) (by kernel_rfl) (by kernel_rfl) (by kernel_rfl) (by decide) (by kernel_rfl) (fun _ _ _ h => h) (Or.inl ⟨by rfl, ?_⟩) rfl ?_
      rotate_left
      focus (intro w' hw'; subst hw'; have kk := (X.cell 1).trans (show _ = some (Value.int .i64 x.t) from rfl); go_simp; all_goals with_reducible rfl)
      try simp only [Act.put, List.setIfInBounds_toArray, List.set_cons_zero, List.set_cons_succ]
      refine ahead_take (i := 12) (v := ?_) (by simp only [List.getElem?_toArray, List.getElem?_cons_succ, List.getElem?_cons_zero] <;> exact rfl) (by kernel_rfl) (by kernel_rfl) (by kernel_rfl) (by kernel_rfl) (by decide) (by kernel_rfl) (fun _ _ _ h => h) (Or.inl ⟨by rfl, ?_⟩) rfl ?_
      rotate_left
      focus (intro w' hw'; subst hw'; go_simp; all_goals with_reducible rfl)
      try simp only [Act.put, List.setIfInBounds_toArray, List.set_cons_zero, List.set_cons_succ]
      refine ahead_take (i := 13) (v := ?_) (by simp only [List.getElem?_toArray, List.getElem?_cons_succ, List.getElem?_cons_zero] <;> exact rfl) (by kernel_rfl) (by kernel_rfl) (by kernel_rfl) (by kernel_rfl) (by decide) (by kernel_rfl) (fun _ _ _ h => h) (Or.inl ⟨by rfl, ?_⟩) rfl ?_
      rotate_left
      focus (intro w' hw'; subst hw'; have kk := (X.cell 2).trans (show _ = some (Value.int .i64 x.a) from rfl); go_simp; all_goals with_reducible rfl)
      try simp only [Act.put, List.setIfInBounds_toArray, List.set_cons_zero, List.set_cons_succ]
      refine ahead_take (i := 18) (v := ?_) (by simp only [List.getElem?_toArray, List.getElem?_cons_succ, List.getElem?_cons_zero] <;> exact rfl) (by kernel_rfl) (by kernel_rfl) (by kernel_rfl) (by kernel_rfl) (by decide) (by kernel_rfl) (fun _ _ _ h => h) (Or.inl ⟨by rfl, ?_⟩) rfl ?_
      rotate_left
      focus (intro w' hw'; subst hw'; go_simp; all_goals with_reducible rfl)
      try simp only [Act.put, List.setIfInBounds_toArray, List.set_cons_zero, List.set_cons_succ]
      refine ahead_take (i := 19) (v := ?_) (by simp only [List.getElem?_toArray, List.getElem?_cons_succ, List.getElem?_cons_zero] <;> exact rfl) (by kernel_rfl) (by kernel_rfl) (by kernel_rfl) (by kernel_rfl) (by decide) (by kernel_rfl) (fun _ _ _ h => h) (Or.inl ⟨by rfl, ?_⟩) rfl ?_
      rotate_left
      focus (intro w' hw'; subst hw'; have kk := (X.cell 6).trans (show _ = some (Value.int .i64 x.k) from rfl); go_simp; all_goals with_reducible rfl)
      try simp only [Act.put, List.setIfInBounds_toArray, List.set_cons_zero, List.set_cons_succ]
      refine ahead_take (i := 24) (v := ?_) (by simp only [List.getElem?_toArray, List.getElem?_cons_succ, List.getElem?_cons_zero] <;> exact rfl) (by kernel_rfl) (by kernel_rfl) (by kernel_rfl) (by kernel_rfl) (by decide) (by kernel_rfl) (fun _ _ _ h => h) (Or.inl ⟨by rfl, ?_⟩) rfl ?_
      rotate_left
      focus (intro w' hw'; subst hw'; go_simp; all_goals with_reducible rfl)
      try simp only [Act.put, List.setIfInBounds_toArray, List.set_cons_zero, List.set_cons_succ]
      refine ahead_any (i := 8) (v := ?_) (by rintro w rfl; exact KB.refl _ _) (by simp only [List.getElem?_toArray, List.getElem?_cons_succ, List.getElem?_cons_zero] <;> exact rfl) (by kernel_rfl) (by kernel_rfl) (by kernel_rfl) (by decide) (by kernel_rfl) (fun _ _ _ h => h) (Or.inl ⟨by rfl, ?_⟩) rfl ?_
      rotate_left
      focus (intro w' hw'; go_simp; all_goals with_reducible rfl)
      try simp only [Act.put, List.setIfInBounds_toArray, List.set_cons_zero, List.set_cons_succ]
      refine ahead_any (i := 9) (v := ?_) (by rintro w rfl; exact KB.refl _ _) (by simp only [List.getElem?_toArray, List.getElem?_cons_succ, List.getElem?_cons_zero] <;> exact rfl) (by kernel_rfl) (by kernel_rfl) (by kernel_rfl) (by decide) (by kernel_rfl) (fun _ _ _ h => h) (Or.inl ⟨by rfl, ?_⟩) rfl ?_
      rotate_left
      focus (intro w' hw'; have kk := ((hw'.blk R hr).cell 1).trans (show _ = some (Value.int .u8 n1) from rfl); go_simp; all_goals with_reducible rfl)
      try simp only [Act.put, List.setIfInBounds_toArray, List.set_cons_zero, List.set_cons_succ]
      refine ahead_any (i := 10) (v := ?_) (by rintro w rfl; exact KB.refl _ _) (by simp only [List.getElem?_toArray, List.getElem?_cons_succ, List.getElem?_cons_zero] <;> exact rfl) (by kernel_rfl) (by kernel_rfl) (by kernel_rfl) (by decide) (by kernel_rfl) (fun _ _ _ h => h) (Or.inl ⟨by rfl, ?_⟩) rfl ?_
      rotate_left
      focus (intro w' hw'; go_simp; all_goals with_reducible rfl)
      try simp only [Act.put, List.setIfInBounds_toArray, List.set_cons_zero, List.set_cons_succ]
      refine ahead_any (i := 11) (v := ?_) (by rintro w rfl; exact KB.refl _ _) (by simp only [List.getElem?_toArray, List.getElem?_cons_succ, List.getElem?_cons_zero] <;> exact rfl) (by kernel_rfl) (by kernel_rfl) (by kernel_rfl) (by decide) (by kernel_rfl) (fun _ _ _ h => h) (Or.inl ⟨by rfl, ?_⟩) rfl ?_
      rotate_left
      focus (intro w' hw'; go_simp; all_goals with_reducible rfl)
      try simp only [Act.put, List.setIfInBounds_toArray, List.set_cons_zero, List.set_cons_succ]
      refine ahead_any (i := 14) (v := ?_) (by rintro w rfl; exact KB.refl _ _) (by simp only [List.getElem?_toArray, List.getElem?_cons_succ, List.getElem?_cons_zero] <;> exact rfl) (by kernel_rfl) (by kernel_rfl) (by kernel_rfl) (by decide) (by kernel_rfl) (fun _ _ _ h => h) (Or.inl ⟨by rfl, ?_⟩) rfl ?_
      rotate_left
      focus (intro w' hw'; go_simp; all_goals with_reducible rfl)
      try simp only [Act.put, List.setIfInBounds_toArray, List.set_cons_zero, List.set_cons_succ]
      refine ahead_any (i := 15) (v := ?_) (by rintro w rfl; exact KB.refl _ _) (by simp only [List.getElem?_toArray, List.getElem?_cons_succ, List.getElem?_cons_zero] <;> exact rfl) (by kernel_rfl) (by kernel_rfl) (by kernel_rfl) (by decide) (by kernel_rfl) (fun _ _ _ h => h) (Or.inl ⟨by rfl, ?_⟩) rfl ?_
      rotate_left
      focus (intro w' hw'; have kk := ((hw'.blk R hr).cell 2).trans (show _ = some (Value.int .u8 n2) from rfl); go_simp; all_goals with_reducible rfl)
      try simp only [Act.put, List.setIfInBounds_toArray, List.set_cons_zero, List.set_cons_succ]
      refine ahead_any (i := 16) (v := ?_) (by rintro w rfl; exact KB.refl _ _) (by simp only [List.getElem?_toArray, List.getElem?_cons_succ, List.getElem?_cons_zero] <;> exact rfl) (by kernel_rfl) (by kernel_rfl) (by kernel_rfl) (by decide) (by kernel_rfl) (fun _ _ _ h => h) (Or.inl ⟨by rfl, ?_⟩) rfl ?_
      rotate_left
      focus (intro w' hw'; go_simp; all_goals with_reducible rfl)
      try simp only [Act.put, List.setIfInBounds_toArray, List.set_cons_zero, List.set_cons_succ]
      refine ahead_any (i := 17) (v := ?_) (by rintro w rfl; exact KB.refl _ _) (by simp only [List.getElem?_toArray, List.getElem?_cons_succ, List.getElem?_cons_zero] <;> exact rfl) (by kernel_rfl) (by kernel_rfl) (by kernel_rfl) (by decide) (by kernel_rfl) (fun _ _ _ h => h) (Or.inl ⟨by rfl, ?_⟩) rfl ?_
      rotate_left
      focus (intro w' hw'; go_simp; all_goals with_reducible rfl)
      try simp only [Act.put, List.setIfInBounds_toArray, List.set_cons_zero, List.set_cons_succ]
      refine ahead_any (i := 20) (v := ?_) (by rintro w rfl; exact KB.refl _ _) (by simp only [List.getElem?_toArray, List.getElem?_cons_succ, List.getElem?_cons_zero] <;> exact rfl) (by kernel_rfl) (by kernel_rfl) (by kernel_rfl) (by decide) (by kernel_rfl) (fun _ _ _ h => h) (Or.inl ⟨by rfl, ?_⟩) rfl ?_
      rotate_left
      focus (intro w' hw'; go_simp; all_goals with_reducible rfl)
      try simp only [Act.put, List.setIfInBounds_toArray, List.set_cons_zero, List.set_cons_succ]
      refine ahead_any (i := 21) (v := ?_) (by rintro w rfl; exact KB.refl _ _) (by simp only [List.getElem?_toArray, List.getElem?_cons_succ, List.getElem?_cons_zero] <;> exact rfl) (by kernel_rfl) (by kernel_rfl) (by kernel_rfl) (by decide) (by kernel_rfl) (fun _ _ _ h => h) (Or.inl ⟨by rfl, ?_⟩) rfl ?_
      rotate_left
      focus (intro w' hw'; have kk := ((hw'.blk R hr).cell 3).trans (show _ = some (Value.int .u8 n3) from rfl); go_simp; all_goals with_reducible rfl)
      try simp only [Act.put, List.setIfInBounds_toArray, List.set_cons_zero, List.set_cons_succ]
      refine ahead_any (i := 22) (v := ?_) (by rintro w rfl; exact KB.refl _ _) (by simp only [List.getElem?_toArray, List.getElem?_cons_succ, List.getElem?_cons_zero] <;> exact rfl) (by kernel_rfl) (by kernel_rfl) (by kernel_rfl) (by decide) (by kernel_rfl) (fun _ _ _ h => h) (Or.inl ⟨by rfl, ?_⟩) rfl ?_
      rotate_left
      focus (intro w' hw'; go_simp; all_goals with_reducible rfl)
      try simp only [Act.put, List.setIfInBounds_toArray, List.set_cons_zero, List.set_cons_succ]
      refine ahead_any (i := 23) (v := ?_) (by rintro w rfl; exact KB.refl _ _) (by simp only [List.getElem?_toArray, List.getElem?_cons_succ, List.getElem?_cons_zero] <;> exact rfl) (by kernel_rfl) (by kernel_rfl) (by kernel_rfl) (by decide) (by kernel_rfl) (fun _ _ _ h => h) (Or.inl ⟨by rfl, ?_⟩) rfl ?_
      rotate_left
      focus (intro w' hw'; go_simp; all_goals with_reducible rfl)
      try simp only [Act.put, List.setIfInBounds_toArray, List.set_cons_zero, List.set_cons_succ]
      refine ahead_last (by kernel_rfl) ?_
      refine AllReadyH.cons (o := _) (by simp only [List.getElem?_toArray, List.getElem?_cons_succ, List.getElem?_cons_zero] <;> exact rfl) (fun K hK => ?_) AllReadyH.nil
      have dd := (X.cell 0).trans (show _ = some (Value.int .i64 x.o) from rfl)
      have ff := X.frozen 0
      go_simp
      have hS := (KB.refl (· = gl) wd).setCell (p := ⟨gl, 0, none⟩) (fun _ => rfl) (.int .i64 (x.o - n0))
      have X := X.put 0 (.int .i64 (x.o - n0))
      have A := A.far (p := ⟨gl, 0, none⟩) hn (.int .i64 (x.o - n0))
      have BB := BB.setCell (p := ⟨gl, 0, none⟩) (by have := HGl.out; exact this) (.int .i64 (x.o - n0))
      refine hK.out _ _ hS (fun _ => ?_)
      generalize wd.setCell ⟨gl, 0, none⟩ (.int .i64 (x.o - n0)) = ws0 at hS X A BB ⊢
      clear dd ff
      clear hK K
      try simp only [Act.put, List.setIfInBounds_toArray, List.set_cons_zero, List.set_cons_succ]
      refine wpAnyH_take (i := 26) (v := ?_) (by simp only [List.getElem?_toArray, List.getElem?_cons_succ, List.getElem?_cons_zero] <;> exact rfl) (by kernel_rfl) (by kernel_rfl) (by kernel_rfl) (fun _ _ _ h => h) (Or.inl ⟨by rfl, ?_⟩) hS ?_
      rotate_left
      focus (intro w' hw'; go_simp; all_goals with_reducible rfl)
      try simp only [Act.put, List.setIfInBounds_toArray, List.set_cons_zero, List.set_cons_succ]
      refine wpAnyH_ready (rs := [27]) (by kernel_rfl) (by simp) ?_
      refine AllReadyH.cons (o := _) (by simp only [List.getElem?_toArray, List.getElem?_cons_succ, List.getElem?_cons_zero] <;> exact rfl) (fun K hK => ?_) AllReadyH.nil
      have dd := (X.cell 1).trans (show _ = some (Value.int .i64 x.t) from rfl)
      have ff := X.frozen 1
      go_simp
      have hS := hS.setCell (p := ⟨gl, 1, none⟩) (fun _ => rfl) (.int .i64 (x.t + n1))
      have X := X.put 1 (.int .i64 (x.t + n1))
      have A := A.far (p := ⟨gl, 1, none⟩) hn (.int .i64 (x.t + n1))
      have BB := BB.setCell (p := ⟨gl, 1, none⟩) (by have := HGl.out; exact this) (.int .i64 (x.t + n1))
      refine hK.out _ _ hS (fun _ => ?_)
      generalize ws0.setCell ⟨gl, 1, none⟩ (.int .i64 (x.t + n1)) = ws1 at hS X A BB ⊢
      clear dd ff
      clear hK K
      try simp only [Act.put, List.setIfInBounds_toArray, List.set_cons_zero, List.set_cons_succ]
      refine wpAnyH_take (i := 28) (v := ?_) (by simp only [List.getElem?_toArray, List.getElem?_cons_succ, List.getElem?_cons_zero] <;> exact rfl) (by kernel_rfl) (by kernel_rfl) (by kernel_rfl) (fun _ _ _ h => h) (Or.inl ⟨by rfl, ?_⟩) hS ?_
      rotate_left
      focus (intro w' hw'; go_simp; all_goals with_reducible rfl)
      try simp only [Act.put, List.setIfInBounds_toArray, List.set_cons_zero, List.set_cons_succ]
      refine wpAnyH_ready (rs := [29]) (by kernel_rfl) (by simp) ?_
      refine AllReadyH.cons (o := _) (by simp only [List.getElem?_toArray, List.getElem?_cons_succ, List.getElem?_cons_zero] <;> exact rfl) (fun K hK => ?_) AllReadyH.nil
      have dd := (X.cell 2).trans (show _ = some (Value.int .i64 x.a) from rfl)
      have ff := X.frozen 2
      go_simp
      have hS := hS.setCell (p := ⟨gl, 2, none⟩) (fun _ => rfl) (.int .i64 (x.a + n2))
      have X := X.put 2 (.int .i64 (x.a + n2))
      have A := A.far (p := ⟨gl, 2, none⟩) hn (.int .i64 (x.a + n2))
      have BB := BB.setCell (p := ⟨gl, 2, none⟩) (by have := HGl.out; exact this) (.int .i64 (x.a + n2))
      refine hK.out _ _ hS (fun _ => ?_)
      generalize ws1.setCell ⟨gl, 2, none⟩ (.int .i64 (x.a + n2)) = ws2 at hS X A BB ⊢
      clear dd ff
      clear hK K
      try simp only [Act.put, List.setIfInBounds_toArray, List.set_cons_zero, List.set_cons_succ]
      refine wpAnyH_take (i := 30) (v := ?_) (by simp only [List.getElem?_toArray, List.getElem?_cons_succ, List.getElem?_cons_zero] <;> exact rfl) (by kernel_rfl) (by kernel_rfl) (by kernel_rfl) (fun _ _ _ h => h) (Or.inl ⟨by rfl, ?_⟩) hS ?_
      rotate_left
      focus (intro w' hw'; go_simp; all_goals with_reducible rfl)
      try simp only [Act.put, List.setIfInBounds_toArray, List.set_cons_zero, List.set_cons_succ]
      refine wpAnyH_ready (rs := [31]) (by kernel_rfl) (by simp) ?_
      refine AllReadyH.cons (o := _) (by simp only [List.getElem?_toArray, List.getElem?_cons_succ, List.getElem?_cons_zero] <;> exact rfl) (fun K hK => ?_) AllReadyH.nil
      have dd := (X.cell 6).trans (show _ = some (Value.int .i64 x.k) from rfl)
      have ff := X.frozen 6
      go_simp
      have hS := hS.setCell (p := ⟨gl, 6, none⟩) (fun _ => rfl) (.int .i64 (x.k + n3))
      have X := X.put 6 (.int .i64 (x.k + n3))
      have A := A.far (p := ⟨gl, 6, none⟩) hn (.int .i64 (x.k + n3))
      have BB := BB.setCell (p := ⟨gl, 6, none⟩) (by have := HGl.out; exact this) (.int .i64 (x.k + n3))
      refine hK.out _ _ hS (fun _ => ?_)
      generalize ws2.setCell ⟨gl, 6, none⟩ (.int .i64 (x.k + n3)) = ws3 at hS X A BB ⊢
      clear dd ff
      clear hK K
      try simp only [Act.put, List.setIfInBounds_toArray, List.set_cons_zero, List.set_cons_succ]
      refine wpAnyH_done (by kernel_rfl) ?_ _
      refine NoPanic.normal ?_
      have HX9 := hide (show BlkIs ws3 gl 29 (Lk.mk (x.o - n0) (x.t + n1) (x.a + n2) x.w x.c x.b (x.k + n3) x.i x.s).cs from X)
      have HA9 := hide A
      have HB9 := hide BB
      clear X A R BB hS hn hr Hl_18 Ha_18 Hr_18 HB_18 w0 w1 w2 w3 v0 v1 v2 v3
      go_upto_region 14 with (fail)
      have dd := (HX9.out.cell 5).trans (show _ = some (Value.int .i64 x.b) from rfl)
      have db := DB.out
      have wb := WB.out
      have ff := HX9.out.frozen 5
      have Hl_19 := hide (show BlkIs (ws3.setCell ⟨gl, 5, none⟩ (.int .i64 (x.b / 2))) gl 29 (Lk.mk (x.o - n0) (x.t + n1) (x.a + n2) x.w x.c (x.b / 2) (x.k + n3) x.i x.s).cs from HX9.out.put 5 (.int .i64 (x.b / 2)))
      have Ha_19 := hide (HA9.out.far (p := ⟨gl, 5, none⟩) (HA9.out.ne_ HX9.out (by decide)) (.int .i64 (x.b / 2)))
      have HB_19 := hide (HB9.out.setCell (p := ⟨gl, 5, none⟩) (by have := HGl.out; exact this) (.int .i64 (x.b / 2)))
      clear HB9
      go_upto_region 15 with (fail)
      clear ff
      generalize ws3.setCell ⟨gl, 5, none⟩ (.int .i64 (x.b / 2)) = v_19 at *
      clear dd db wb
      obtain ⟨y0, y1, y2, y3, y4⟩ := cells5 (b := b) Ha_19.out
      clear y1 y4
      have e1 := E1.out
      have wm := WM.out
      by_cases hlt : b.l < M
      · have kl : decide (b.l < M) = true := decide_eq_true hlt
        have GR := hide (grows AD1.out AN.out.1.1.1 AN.out.1.2.1 AN.out.2.1.1 AN.out.2.2.1 (tak_more AD1.out.tak (by rw [E1.out]; exact hlt)))
        have QG := hide (fun w => sd_Decide (Lk.mk (x.o - n0) (x.t + n1) (x.a + n2) x.w x.c (x.b / 2) (x.k + n3) x.i x.s) (Bu.mk b.u b.r b.p (b.l + 1) b.n) w X0.out X1.out)
        rw [GR.out] at QG
        clear GR hlt
        go_upto_region 16 with (fail)
        clear y0 y2 y3 e1 wm kl
        have dd := (Ha_19.out.cell 3).trans (show _ = some (Value.int .i64 b.l) from rfl)
        have wl := WL.out
        have ff := Ha_19.out.frozen 3
        have Hl_20 := hide (Hl_19.out.far (p := ⟨ga, 3, none⟩) (Hl_19.out.ne_ Ha_19.out (by decide)) (.int .i64 (b.l + 1)))
        have Ha_20 := hide (show BlkIs (v_19.setCell ⟨ga, 3, none⟩ (.int .i64 (b.l + 1))) ga 26 (Bu.mk b.u b.r b.p (b.l + 1) b.n).cs from Ha_19.out.put 3 (.int .i64 (b.l + 1)))
        have HB_20 := hide (HB_19.out.setCell (p := ⟨ga, 3, none⟩) (by have := HGa.out; exact this) (.int .i64 (b.l + 1)))
        clear HB_19
        go_upto_region 17 with (fail)
        clear ff
        generalize v_19.setCell ⟨ga, 3, none⟩ (.int .i64 (b.l + 1)) = v_20 at *
        clear dd wl
        obtain ⟨z, hz⟩ : ∃ z, z = (takB (Bu.mk b.u b.r b.p (b.l + 1) b.n) x.i).1 := ⟨_, rfl⟩
        simp only at QG
        rw [← hz] at QG
        clear hz
        go_wp2_with (first | (refine wpList_load_blk rfl 29 (.tmp 7) rfl gl rfl 29 (Lk.mk (x.o - n0) (x.t + n1) (x.a + n2) x.w x.c (x.b / 2) (x.k + n3) x.i x.s).cs _ Hl_20.out Try.underlying29 rfl lk_size ?_) | (refine wpList_load_blk rfl 26 (.tmp 8) rfl ga rfl 26 (Bu.mk b.u b.r b.p (b.l + 1) b.n).cs _ Ha_20.out Try.underlying26 rfl bu_size ?_))
        refine (QG.out _).mono ?_
        rintro e w_21 ⟨rfl, hb⟩
        have Hl_22 := hide (Hl_20.out.keep hb)
        clear Hl_20
        have Ha_22 := hide (Ha_20.out.keep hb)
        clear Ha_20
        have HB_22 := hide (HB_20.out.trans (hb.mono HB_20.out.size))
        clear HB_20
        clear hb
        obtain ⟨gz, hg⟩ : ∃ g, g = w_21.heap.size := ⟨_, rfl⟩
        have Gz := hide hg.symm
        have Nz := hide (show BlkIs (w_21.alloc (.cells z.cs 26)) gz 26 z.cs by rw [hg]; exact BlkIs.new w_21 _ _)
        clear hg
        have Hl_24 := hide (Hl_22.out.alloc (.cells z.cs 26))
        clear Hl_22
        have Ha_24 := hide (Ha_22.out.alloc (.cells z.cs 26))
        clear Ha_22
        have HB_24 := hide (HB_22.out.alloc HB_22.out.size (.cells z.cs 26))
        clear HB_22
        go_upto_region 18 with (first | (refine wpList_store_new rfl 26 (.tmp 21) (.tmp 128) rfl z.cs _ 26 rfl rfl bu_size rfl (Bu.cs_one _) ?_))
        rw [Gz.out]
        generalize w_21.alloc (.cells z.cs 26) = v_23 at *
        go_wp2_with fail
        refine (HAW.out _).mono ?_
        rintro e w_25 ⟨rfl, hb⟩
        have Hl_26 := hide (Hl_24.out.keep hb)
        clear Hl_24
        have Ha_26 := hide (Ha_24.out.keep hb)
        clear Ha_24
        have Hz_26 := hide (Nz.out.keep hb)
        clear Nz
        have HB_26 := hide (HB_24.out.trans (hb.mono HB_24.out.size))
        clear HB_24
        clear hb
        go_wp2
        go_ret
        exact ⟨rfl, HB_26.out⟩
      · have kl : decide (b.l < M) = false := decide_eq_false hlt
        have GR := hide (grows AD1.out AN.out.1.1.1 AN.out.1.2.1 AN.out.2.1.1 AN.out.2.2.1 AD1.out.tak)
        have QG := hide (fun w => sd_Decide (Lk.mk (x.o - n0) (x.t + n1) (x.a + n2) x.w x.c (x.b / 2) (x.k + n3) x.i x.s) b w X0.out X1.out)
        rw [GR.out] at QG
        clear GR hlt
        go_upto_region 17 with (fail)
        clear y0 y2 y3 e1 wm kl
        obtain ⟨z, hz⟩ : ∃ z, z = (takB b x.i).1 := ⟨_, rfl⟩
        simp only at QG
        rw [← hz] at QG
        clear hz
        go_wp2_with (first | (refine wpList_load_blk rfl 29 (.tmp 7) rfl gl rfl 29 (Lk.mk (x.o - n0) (x.t + n1) (x.a + n2) x.w x.c (x.b / 2) (x.k + n3) x.i x.s).cs _ Hl_19.out Try.underlying29 rfl lk_size ?_) | (refine wpList_load_blk rfl 26 (.tmp 8) rfl ga rfl 26 b.cs _ Ha_19.out Try.underlying26 rfl bu_size ?_))
        refine (QG.out _).mono ?_
        rintro e w_20 ⟨rfl, hb⟩
        have Hl_21 := hide (Hl_19.out.keep hb)
        clear Hl_19
        have Ha_21 := hide (Ha_19.out.keep hb)
        clear Ha_19
        have HB_21 := hide (HB_19.out.trans (hb.mono HB_19.out.size))
        clear HB_19
        clear hb
        obtain ⟨gz, hg⟩ : ∃ g, g = w_20.heap.size := ⟨_, rfl⟩
        have Gz := hide hg.symm
        have Nz := hide (show BlkIs (w_20.alloc (.cells z.cs 26)) gz 26 z.cs by rw [hg]; exact BlkIs.new w_20 _ _)
        clear hg
        have Hl_23 := hide (Hl_21.out.alloc (.cells z.cs 26))
        clear Hl_21
        have Ha_23 := hide (Ha_21.out.alloc (.cells z.cs 26))
        clear Ha_21
        have HB_23 := hide (HB_21.out.alloc HB_21.out.size (.cells z.cs 26))
        clear HB_21
        go_upto_region 18 with (first | (refine wpList_store_new rfl 26 (.tmp 21) (.tmp 128) rfl z.cs _ 26 rfl rfl bu_size rfl (Bu.cs_one _) ?_))
        rw [Gz.out]
        generalize w_20.alloc (.cells z.cs 26) = v_22 at *
        go_wp2_with fail
        refine (HAW.out _).mono ?_
        rintro e w_24 ⟨rfl, hb⟩
        have Hl_25 := hide (Hl_23.out.keep hb)
        clear Hl_23
        have Ha_25 := hide (Ha_23.out.keep hb)
        clear Ha_23
        have Hz_25 := hide (Nz.out.keep hb)
        clear Nz
        have HB_25 := hide (HB_23.out.trans (hb.mono HB_23.out.size))
        clear HB_23
        clear hb
        go_wp2
        go_ret
        exact ⟨rfl, HB_25.out⟩
    · have kf : (f == 0) = false := by rw [beq_eq_false_iff_ne]; exact h0
      have kf2 : (f != 0) = true := by rw [bne_iff_ne]; exact h0
      clear h0
      go_wp2_with fail
      refine (HAW.out _).mono ?_
      rintro e w_19 ⟨rfl, hb⟩
      have Hl_20 := hide (Hl_18.out.keep hb)
      clear Hl_18
      have Ha_20 := hide (Ha_18.out.keep hb)
      clear Ha_18
      have Hr_20 := hide (Hr_18.out.keep hb)
      clear Hr_18
      have HB_20 := hide (HB_18.out.trans (hb.mono HB_18.out.size))
      clear HB_18
      clear hb
      go_wp2
      go_ret
      exact ⟨rfl, HB_20.out⟩

theorem walk (f0 f1 f2 : Int) (f3 : Bool) (f4 f5 f6 f7 f8 b0 b1 b2 b3 b4 : Int) (ns : List Int) (hl : ns.length = 4) (wn : ∀ x ∈ ns, (Lit.int .u8 x).wf = true) (w : World) (_ : (Lit.int .i64 f0).wf = true) (_ : (Lit.int .i64 f1).wf = true) (_ : (Lit.int .i64 f2).wf = true) (_ : (Lit.int .i64 f4).wf = true) (_ : (Lit.int .i64 f5).wf = true) (h6 : (Lit.int .i64 f6).wf = true) (_ : (Lit.int .i64 f7).wf = true) (_ : (Lit.int .i64 f8).wf = true) (_ : (Lit.int .i64 b0).wf = true) (_ : (Lit.int .i64 b1).wf = true) (_ : (Lit.int .i64 b2).wf = true) (_ : (Lit.int .i64 b3).wf = true) (_ : (Lit.int .i64 b4).wf = true) :
    Calls Try.prog 6 #[.agg #[.int .i64 f0, .int .i64 f1, .int .i64 f2, .bool f3, .int .i64 f4, .int .i64 f5, .int .i64 f6, .int .i64 f7, .int .i64 f8], .agg #[.int .i64 b0, .int .i64 b1, .int .i64 b2, .int .i64 b3, .int .i64 b4], .agg (ns.map (Value.int .u8)).toArray] w fun e w' => e = .returned (.bool true) ∧ Below w.heap.size w w' := by
  have h := bounds_i64 h6
  match ns, hl with
  | [n0, n1, n2, n3], _ =>
    have c0 := bounds_u8 (wn n0 (by simp))
    have c1 := bounds_u8 (wn n1 (by simp))
    have c2 := bounds_u8 (wn n2 (by simp))
    have c3 := bounds_u8 (wn n3 (by simp))
    exact walk_at ⟨f0, f1, f2, f3, f4, f5, f6, f7, f8⟩ ⟨b0, b1, b2, b3, b4⟩ n0 n1 n2 n3 w h.1 h.2 c0.1 c0.2 c1.1 c1.2 c2.1 c2.2 c3.1 c3.2
end Go.Proofs.Ytgibhdbhagcpoaa.shedGrows
