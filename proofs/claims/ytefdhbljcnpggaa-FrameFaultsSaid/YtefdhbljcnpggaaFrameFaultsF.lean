/-
  Layer 9: FrameFaults: the walk, without a stream.
-/
import Derived.Test.YtefdhbljcnpggaaFrZeros
import Derived.Test.YtefdhbljcnpggaaFrAwake
import Derived.BigGuardPart
import Derived.Deep.CutBlock
namespace Go.Proofs.Ytefdhbljcnpggaa.frameFaults
open Go.RowKit Go.Proofs.Ytefdhbljcnpggaa

set_option maxRecDepth 100000 in
set_option maxHeartbeats 3200000 in
theorem walk_f (n0 n1 : Int) (a0 : 0 ≤ n0) (a1 : n0 ≤ 255) (b0 : 0 ≤ n1) (b1 : n1 ≤ 255) (w : World) :
    Calls Try.prog 7 #[.int .u8 n0, .int .u8 n1, .bool false] w fun e w' => e = .returned (.bool true) ∧ Below w.heap.size w w' := by
  obtain ⟨i0, hi0, hz0, hz1, hz2⟩ := info_parts u8_info
  obtain ⟨N, hN⟩ : ∃ N : Nat, n1 % 61 = (N : Int) := ⟨(n1 % 61).toNat, by omega⟩
  have hN1 : (N : Int) ≤ 60 := by omega
  have hmk : ∀ w : World, (Instr.makeSlice 44 (.int .i64 (N : Int)) (.int .i64 (N : Int))).run Try.prog w = .ok (.slice (some ⟨w.heap.size, 0, none⟩) N N) (w.alloc (.cells (u8s (zs N)).toArray 5)) := fun w => by
    have h := run_make (P := Try.prog) w 44 5 i0 (.int .u8 0) Try.underlying44 hi0 hz0 .i64 .i64 (N : Int) (N : Int) (by omega) (by omega) (by rw [hz2]; omega) (by omega)
    rw [hz1, show ((N : Int).toNat * 1) = N by omega, made_zs, show (N : Int).toNat = N by omega] at h
    exact h
  have HMK := hide hmk
  clear hmk
  obtain ⟨Z, hZ⟩ : ∃ Z, Z = strOfNums (zs N) := ⟨_, rfl⟩
  have HZ := hide hZ
  have hzb : bts Z = zs N := by rw [hZ, bts_str _ (zs_all N)]
  have hzl : Z.size = N := by rw [hZ, strOfNums_size]; simp [zs]
  have HRd := hide (fun w => fr_Read (N : Int) (n0 % 14) 0 0 (by omega) Z (by omega) w)
  rw [hzb] at HRd
  obtain ⟨RV, hRV⟩ : ∃ RV, RV = readR (n0 % 14) 0 0 (zs N) := ⟨_, rfl⟩
  rw [← hRV] at HRd
  have HRV := hide hRV
  clear hRV hZ hzb hzl
  have hk0 : 0 ≤ n0 % 14 := by omega
  have hk1 : n0 % 14 ≤ 13 := by omega
  go_enter Try.func7, Try.ntmps7
  go_upto_region 5 with (fail)
  rw [show n1 % 61 = (N : Int) from hN]
  have B0 := hide (Below.refl w.heap.size w)
  have KN1 := hide (BlkIs.new w 34 #[.int .i64 (N : Int), .int .u8 (n0 % 14), .int .u8 0, .int .i64 0])
  obtain ⟨h, hh⟩ : ∃ g, g = w.heap.size := ⟨_, rfl⟩
  have Lh := hide (show w.heap.size ≤ h by rw [hh]; exact B0.out.size)
  have B1 := hide (B0.out.alloc B0.out.size (.cells #[.int .i64 (N : Int), .int .u8 (n0 % 14), .int .u8 0, .int .i64 0] 34))
  rw [← hh] at KN1 ⊢
  generalize w.alloc (.cells #[.int .i64 (N : Int), .int .u8 (n0 % 14), .int .u8 0, .int .i64 0] 34) = w1 at B1 KN1 ⊢
  clear hh B0
  generalize n0 % 14 = k at *
  clear a0 a1 b0 b1 hN
  go_cut [10, 11] (fun s10 s11 wx => ∃ u v A c, s10 = .pointer (some ⟨u, 0, none⟩) ∧ s11 = .pointer (some ⟨v, 0, none⟩) ∧ BlkIs wx h 34 #[.int .i64 (N : Int), .int .u8 k, .int .u8 0, .int .i64 0] ∧ BlkIs wx u 28 (RV.F.cs A RV.l.length c) ∧ BlkIs wx v 31 #[.int .u32 RV.code, .int .i64 RV.st] ∧ PL wx A RV.l.length c RV.l ∧ Below w.heap.size w wx)
  case first =>
    refine wp_region_noPanic ?_
    refine wp_region_held_drew (S := fun w' => BlkIs w' h 34 #[.int .i64 (N : Int), .int .u8 k, .int .u8 0, .int .i64 0]) (by kernel_rfl) KN1.out.drew (fun hS => ?_)
    have BB := B1.out.drew
    generalize w1.drew = v0 at hS BB ⊢
    refine wpAnyH_take (i := 0) (by simp only [List.getElem?_toArray, List.getElem?_cons_zero] <;> exact rfl) (by kernel_rfl) (by kernel_rfl) (by kernel_rfl) (fun _ _ _ h => h) (yields_blk (by rfl) 34 (.tmp 9) (by rfl) h (by rfl) 34 #[.int .i64 (N : Int), .int .u8 k, .int .u8 0, .int .i64 0] _ (fun w' hw' => hw') Try.underlying34 rfl hd_size) hS ?_
    try simp only [Act.put, List.setIfInBounds_toArray, List.set_cons_zero, List.set_cons_succ]
    refine wpAnyH_take (i := 1) (v := ?_) (by simp only [List.getElem?_toArray, List.getElem?_cons_succ, List.getElem?_cons_zero] <;> exact rfl) (by kernel_rfl) (by kernel_rfl) (by kernel_rfl) (fun _ _ _ h => h) (Or.inl ⟨by rfl, ?_⟩) hS ?_
    rotate_left
    focus (intro w' hw'; go_simp; all_goals with_reducible rfl)
    try simp only [Act.put, List.setIfInBounds_toArray, List.set_cons_zero, List.set_cons_succ]
    refine wpAnyH_ready (rs := [2, 8, 9]) (by kernel_rfl) (by simp) ?_
    refine AllReadyH.cons (o := _) (by simp only [List.getElem?_toArray, List.getElem?_cons_succ, List.getElem?_cons_zero] <;> exact rfl) (fun K hK => ?_) ?_
    focus (
      have hmk := HMK.out v0
      go_simp
      clear hmk
      refine hK.out _ _ (hS.alloc _) (fun _ => ?_)
      have RN := blk_rb (BlkIs.new v0 5 (u8s (zs N)).toArray) (n := N) (by simp [zs]) (zs_all N)
      obtain ⟨m, hm⟩ : ∃ g, g = v0.heap.size := ⟨_, rfl⟩
      have hS := hS.alloc (.cells (u8s (zs N)).toArray 5)
      have BB := BB.alloc BB.size (.cells (u8s (zs N)).toArray 5)
      rw [← hm] at RN ⊢
      generalize v0.alloc (.cells (u8s (zs N)).toArray 5) = wk64 at hS BB RN ⊢
      clear hm
      have RM := RN
      clear RN
      clear hK K
      try simp only [Act.put, List.setIfInBounds_toArray, List.set_cons_zero, List.set_cons_succ]
      refine wpAnyH_ready (rs := [3, 8, 9]) (by kernel_rfl) (by simp) ?_
      refine AllReadyH.cons (o := _) (by simp only [List.getElem?_toArray, List.getElem?_cons_succ, List.getElem?_cons_zero] <;> exact rfl) (fun K hK => ?_) ?_
      focus (
        have s1 := rb_string N RM
        rw [← HZ.out] at s1
        go_simp
        clear s1 RM
        refine hK.out _ _ hS (fun _ => ?_)
        clear hK K
        try simp only [Act.put, List.setIfInBounds_toArray, List.set_cons_zero, List.set_cons_succ]
        refine wpAnyH_ready (rs := [4, 8, 9]) (by kernel_rfl) (by simp) ?_
        refine AllReadyH.cons (o := _) (by simp only [List.getElem?_toArray, List.getElem?_cons_succ, List.getElem?_cons_zero] <;> exact rfl) (fun K hK => ?_) ?_
        focus (
          go_simp
          go_at_call 9
          refine (HRd.out _).mono ?_
          rintro e wk66 ⟨A, c, rfl, PV, hb⟩
          have hS := hS.keep hb
          have BB := BB.trans (hb.mono BB.size)
          clear hb
          go_wp2_with fail
          refine hK.out _ _ hS (fun _ => ?_)
          clear hK K
          try simp only [Act.put, List.setIfInBounds_toArray, List.set_cons_zero, List.set_cons_succ]
          refine wpAnyH_take (i := 5) (v := ?_) (by simp only [List.getElem?_toArray, List.getElem?_cons_succ, List.getElem?_cons_zero] <;> exact rfl) (by kernel_rfl) (by kernel_rfl) (by kernel_rfl) (fun _ _ _ h => h) (Or.inl ⟨by rfl, ?_⟩) hS ?_
          rotate_left
          focus (intro w' hw'; go_simp; all_goals with_reducible rfl)
          try simp only [Act.put, List.setIfInBounds_toArray, List.set_cons_zero, List.set_cons_succ]
          refine wpAnyH_take (i := 6) (v := ?_) (by simp only [List.getElem?_toArray, List.getElem?_cons_succ, List.getElem?_cons_zero] <;> exact rfl) (by kernel_rfl) (by kernel_rfl) (by kernel_rfl) (fun _ _ _ h => h) (Or.inl ⟨by rfl, ?_⟩) hS ?_
          rotate_left
          focus (intro w' hw'; go_simp; all_goals with_reducible rfl)
          try simp only [Act.put, List.setIfInBounds_toArray, List.set_cons_zero, List.set_cons_succ]
          refine wpAnyH_take (i := 7) (v := ?_) (by simp only [List.getElem?_toArray, List.getElem?_cons_succ, List.getElem?_cons_zero] <;> exact rfl) (by kernel_rfl) (by kernel_rfl) (by kernel_rfl) (fun _ _ _ h => h) (Or.inl ⟨by rfl, ?_⟩) hS ?_
          rotate_left
          focus (intro w' hw'; go_simp; all_goals with_reducible rfl)
          try simp only [Act.put, List.setIfInBounds_toArray, List.set_cons_zero, List.set_cons_succ]
          refine wpAnyH_ready (rs := [8, 9]) (by kernel_rfl) (by simp) ?_
          refine AllReadyH.cons (o := _) (by simp only [List.getElem?_toArray, List.getElem?_cons_succ, List.getElem?_cons_zero] <;> exact rfl) (fun K hK => ?_) ?_
          focus (
            go_simp
            refine hK.out _ _ (hS.alloc _) (fun _ => ?_)
            have KN := BlkIs.new wk66 28 #[.int .u8 0, .int .u8 0, .int .i64 0, .string ⟨#[]⟩, .int .i64 0, .int .i64 0, .bool false, .int .u8 0, .int .u32 0, .int .i64 0, .int .i64 0, .slice none 0 0]
            obtain ⟨u, hu⟩ : ∃ g, g = wk66.heap.size := ⟨_, rfl⟩
            have HUB := hide (show w.heap.size ≤ u by rw [hu]; exact BB.size)
            have hS := hS.alloc (.cells #[.int .u8 0, .int .u8 0, .int .i64 0, .string ⟨#[]⟩, .int .i64 0, .int .i64 0, .bool false, .int .u8 0, .int .u32 0, .int .i64 0, .int .i64 0, .slice none 0 0] 28)
            have BB := BB.alloc BB.size (.cells #[.int .u8 0, .int .u8 0, .int .i64 0, .string ⟨#[]⟩, .int .i64 0, .int .i64 0, .bool false, .int .u8 0, .int .u32 0, .int .i64 0, .int .i64 0, .slice none 0 0] 28)
            have PV := PV.alloc (.cells #[.int .u8 0, .int .u8 0, .int .i64 0, .string ⟨#[]⟩, .int .i64 0, .int .i64 0, .bool false, .int .u8 0, .int .u32 0, .int .i64 0, .int .i64 0, .slice none 0 0] 28)
            rw [← hu] at KN ⊢
            generalize wk66.alloc (.cells #[.int .u8 0, .int .u8 0, .int .i64 0, .string ⟨#[]⟩, .int .i64 0, .int .i64 0, .bool false, .int .u8 0, .int .u32 0, .int .i64 0, .int .i64 0, .slice none 0 0] 28) = wk67 at hS BB PV KN ⊢
            clear hu
            have KU := KN
            clear KN
            clear hK K
            try simp only [Act.put, List.setIfInBounds_toArray, List.set_cons_zero, List.set_cons_succ]
            refine wpAnyH_ready (rs := [9]) (by kernel_rfl) (by simp) ?_
            refine AllReadyH.cons (o := _) (by simp only [List.getElem?_toArray, List.getElem?_cons_succ, List.getElem?_cons_zero] <;> exact rfl) (fun K hK => ?_) ?_
            focus (
              go_simp
              refine hK.out _ _ (hS.alloc _) (fun _ => ?_)
              have KN := BlkIs.new wk67 31 #[.int .u32 0, .int .i64 0]
              obtain ⟨v, hv⟩ : ∃ g, g = wk67.heap.size := ⟨_, rfl⟩
              have HVB := hide (show w.heap.size ≤ v by rw [hv]; exact BB.size)
              have hS := hS.alloc (.cells #[.int .u32 0, .int .i64 0] 31)
              have BB := BB.alloc BB.size (.cells #[.int .u32 0, .int .i64 0] 31)
              have PV := PV.alloc (.cells #[.int .u32 0, .int .i64 0] 31)
              have KU := KU.alloc (.cells #[.int .u32 0, .int .i64 0] 31)
              rw [← hv] at KN ⊢
              generalize wk67.alloc (.cells #[.int .u32 0, .int .i64 0] 31) = wk68 at hS BB PV KU KN ⊢
              clear hv
              have KV := KN
              clear KN
              clear hK K
              try simp only [Act.put, List.setIfInBounds_toArray, List.set_cons_zero, List.set_cons_succ]
              refine wpAnyH_ready (rs := [10]) (by kernel_rfl) (by simp) ?_
              refine AllReadyH.cons (o := _) (by simp only [List.getElem?_toArray, List.getElem?_cons_succ, List.getElem?_cons_zero] <;> exact rfl) (fun K hK => ?_) ?_
              focus (
                refine step_store_blk rfl 28 (.tmp 10) (.tmp 30) rfl u (RV.F.cs A RV.l.length c) #[.int .u8 0, .int .u8 0, .int .i64 0, .string ⟨#[]⟩, .int .i64 0, .int .i64 0, .bool false, .int .u8 0, .int .u32 0, .int .i64 0, .int .i64 0, .slice none 0 0] 28 rfl rfl KU fr_sz rfl (Fr.cs_one _ _ _ _) ?_
                have hS := hS.row_other (hS.ne_ KU (by decide)) (RV.F.cs A RV.l.length c)
                have KV := KV.row_other (KV.ne_ KU (by decide)) (RV.F.cs A RV.l.length c)
                have PV := PV.farRow KU (fr_no16' Fr.zero none 0 0) (RV.F.cs A RV.l.length c)
                have BB := below_setRow BB HUB.out (RV.F.cs A RV.l.length c)
                have KU := KU.row (RV.F.cs A RV.l.length c)
                refine hK.out _ _ hS (fun _ => ?_)
                clear hK K
                try simp only [Act.put]
                refine wpAnyH_ready (rs := [11]) (by kernel_rfl) (by simp) ?_
                refine AllReadyH.cons (o := _) (by simp only [List.getElem?_toArray, List.getElem?_cons_succ, List.getElem?_cons_zero] <;> exact rfl) (fun K hK => ?_) ?_
                focus (
                  refine step_store_blk rfl 31 (.tmp 11) (.tmp 31) rfl v #[.int .u32 RV.code, .int .i64 RV.st] #[.int .u32 0, .int .i64 0] 31 rfl rfl KV fa_size rfl (fa_one _ _ rfl rfl) ?_
                  have hS := hS.row_other (hS.ne_ KV (by decide)) #[.int .u32 RV.code, .int .i64 RV.st]
                  have KU := KU.row_other (KU.ne_ KV (by decide)) #[.int .u32 RV.code, .int .i64 RV.st]
                  have PV := PV.farRow KV (by intro i x; match i with | 0 | 1 => simp | k + 2 => simp) #[.int .u32 RV.code, .int .i64 RV.st]
                  have BB := below_setRow BB HVB.out #[.int .u32 RV.code, .int .i64 RV.st]
                  have KV := KV.row #[.int .u32 RV.code, .int .i64 RV.st]
                  refine hK.out _ _ hS (fun _ => ?_)
                  clear hK K
                  try simp only [Act.put]
                  refine wpAnyH_done (by kernel_rfl) ?_ _
                  refine NoPanic.normal ?_
                  go_wp2_with fail
                  go_meet
                  exact ⟨u, v, A, c, rfl, rfl, hS, KU, KV, PV, BB⟩)
                exact AllReadyH.nil)
              exact AllReadyH.nil)
            exact AllReadyH.nil)
          refine AllReadyH.cons (o := _) (by simp only [List.getElem?_toArray, List.getElem?_cons_succ, List.getElem?_cons_zero] <;> exact rfl) (fun K hK => ?_) ?_
          focus (
            go_simp
            refine hK.out _ _ (hS.alloc _) (fun _ => ?_)
            have KN := BlkIs.new wk66 31 #[.int .u32 0, .int .i64 0]
            obtain ⟨v, hv⟩ : ∃ g, g = wk66.heap.size := ⟨_, rfl⟩
            have HVB := hide (show w.heap.size ≤ v by rw [hv]; exact BB.size)
            have hS := hS.alloc (.cells #[.int .u32 0, .int .i64 0] 31)
            have BB := BB.alloc BB.size (.cells #[.int .u32 0, .int .i64 0] 31)
            have PV := PV.alloc (.cells #[.int .u32 0, .int .i64 0] 31)
            rw [← hv] at KN ⊢
            generalize wk66.alloc (.cells #[.int .u32 0, .int .i64 0] 31) = wk69 at hS BB PV KN ⊢
            clear hv
            have KV := KN
            clear KN
            clear hK K
            try simp only [Act.put, List.setIfInBounds_toArray, List.set_cons_zero, List.set_cons_succ]
            refine wpAnyH_ready (rs := [8]) (by kernel_rfl) (by simp) ?_
            refine AllReadyH.cons (o := _) (by simp only [List.getElem?_toArray, List.getElem?_cons_succ, List.getElem?_cons_zero] <;> exact rfl) (fun K hK => ?_) ?_
            focus (
              go_simp
              refine hK.out _ _ (hS.alloc _) (fun _ => ?_)
              have KN := BlkIs.new wk69 28 #[.int .u8 0, .int .u8 0, .int .i64 0, .string ⟨#[]⟩, .int .i64 0, .int .i64 0, .bool false, .int .u8 0, .int .u32 0, .int .i64 0, .int .i64 0, .slice none 0 0]
              obtain ⟨u, hu⟩ : ∃ g, g = wk69.heap.size := ⟨_, rfl⟩
              have HUB := hide (show w.heap.size ≤ u by rw [hu]; exact BB.size)
              have hS := hS.alloc (.cells #[.int .u8 0, .int .u8 0, .int .i64 0, .string ⟨#[]⟩, .int .i64 0, .int .i64 0, .bool false, .int .u8 0, .int .u32 0, .int .i64 0, .int .i64 0, .slice none 0 0] 28)
              have BB := BB.alloc BB.size (.cells #[.int .u8 0, .int .u8 0, .int .i64 0, .string ⟨#[]⟩, .int .i64 0, .int .i64 0, .bool false, .int .u8 0, .int .u32 0, .int .i64 0, .int .i64 0, .slice none 0 0] 28)
              have PV := PV.alloc (.cells #[.int .u8 0, .int .u8 0, .int .i64 0, .string ⟨#[]⟩, .int .i64 0, .int .i64 0, .bool false, .int .u8 0, .int .u32 0, .int .i64 0, .int .i64 0, .slice none 0 0] 28)
              have KV := KV.alloc (.cells #[.int .u8 0, .int .u8 0, .int .i64 0, .string ⟨#[]⟩, .int .i64 0, .int .i64 0, .bool false, .int .u8 0, .int .u32 0, .int .i64 0, .int .i64 0, .slice none 0 0] 28)
              rw [← hu] at KN ⊢
              generalize wk69.alloc (.cells #[.int .u8 0, .int .u8 0, .int .i64 0, .string ⟨#[]⟩, .int .i64 0, .int .i64 0, .bool false, .int .u8 0, .int .u32 0, .int .i64 0, .int .i64 0, .slice none 0 0] 28) = wk70 at hS BB PV KV KN ⊢
              clear hu
              have KU := KN
              clear KN
              clear hK K
              try simp only [Act.put, List.setIfInBounds_toArray, List.set_cons_zero, List.set_cons_succ]
              refine wpAnyH_ready (rs := [10]) (by kernel_rfl) (by simp) ?_
              refine AllReadyH.cons (o := _) (by simp only [List.getElem?_toArray, List.getElem?_cons_succ, List.getElem?_cons_zero] <;> exact rfl) (fun K hK => ?_) ?_
              focus (
                refine step_store_blk rfl 28 (.tmp 10) (.tmp 30) rfl u (RV.F.cs A RV.l.length c) #[.int .u8 0, .int .u8 0, .int .i64 0, .string ⟨#[]⟩, .int .i64 0, .int .i64 0, .bool false, .int .u8 0, .int .u32 0, .int .i64 0, .int .i64 0, .slice none 0 0] 28 rfl rfl KU fr_sz rfl (Fr.cs_one _ _ _ _) ?_
                have hS := hS.row_other (hS.ne_ KU (by decide)) (RV.F.cs A RV.l.length c)
                have KV := KV.row_other (KV.ne_ KU (by decide)) (RV.F.cs A RV.l.length c)
                have PV := PV.farRow KU (fr_no16' Fr.zero none 0 0) (RV.F.cs A RV.l.length c)
                have BB := below_setRow BB HUB.out (RV.F.cs A RV.l.length c)
                have KU := KU.row (RV.F.cs A RV.l.length c)
                refine hK.out _ _ hS (fun _ => ?_)
                clear hK K
                try simp only [Act.put]
                refine wpAnyH_ready (rs := [11]) (by kernel_rfl) (by simp) ?_
                refine AllReadyH.cons (o := _) (by simp only [List.getElem?_toArray, List.getElem?_cons_succ, List.getElem?_cons_zero] <;> exact rfl) (fun K hK => ?_) ?_
                focus (
                  refine step_store_blk rfl 31 (.tmp 11) (.tmp 31) rfl v #[.int .u32 RV.code, .int .i64 RV.st] #[.int .u32 0, .int .i64 0] 31 rfl rfl KV fa_size rfl (fa_one _ _ rfl rfl) ?_
                  have hS := hS.row_other (hS.ne_ KV (by decide)) #[.int .u32 RV.code, .int .i64 RV.st]
                  have KU := KU.row_other (KU.ne_ KV (by decide)) #[.int .u32 RV.code, .int .i64 RV.st]
                  have PV := PV.farRow KV (by intro i x; match i with | 0 | 1 => simp | k + 2 => simp) #[.int .u32 RV.code, .int .i64 RV.st]
                  have BB := below_setRow BB HVB.out #[.int .u32 RV.code, .int .i64 RV.st]
                  have KV := KV.row #[.int .u32 RV.code, .int .i64 RV.st]
                  refine hK.out _ _ hS (fun _ => ?_)
                  clear hK K
                  try simp only [Act.put]
                  refine wpAnyH_done (by kernel_rfl) ?_ _
                  refine NoPanic.normal ?_
                  go_wp2_with fail
                  go_meet
                  exact ⟨u, v, A, c, rfl, rfl, hS, KU, KV, PV, BB⟩)
                exact AllReadyH.nil)
              exact AllReadyH.nil)
            exact AllReadyH.nil)
          exact AllReadyH.nil)
        refine AllReadyH.cons (o := _) (by simp only [List.getElem?_toArray, List.getElem?_cons_succ, List.getElem?_cons_zero] <;> exact rfl) (fun K hK => ?_) ?_
        focus (
          go_simp
          refine hK.out _ _ (hS.alloc _) (fun _ => ?_)
          have KN := BlkIs.new wk64 28 #[.int .u8 0, .int .u8 0, .int .i64 0, .string ⟨#[]⟩, .int .i64 0, .int .i64 0, .bool false, .int .u8 0, .int .u32 0, .int .i64 0, .int .i64 0, .slice none 0 0]
          obtain ⟨u, hu⟩ : ∃ g, g = wk64.heap.size := ⟨_, rfl⟩
          have HUB := hide (show w.heap.size ≤ u by rw [hu]; exact BB.size)
          have hS := hS.alloc (.cells #[.int .u8 0, .int .u8 0, .int .i64 0, .string ⟨#[]⟩, .int .i64 0, .int .i64 0, .bool false, .int .u8 0, .int .u32 0, .int .i64 0, .int .i64 0, .slice none 0 0] 28)
          have BB := BB.alloc BB.size (.cells #[.int .u8 0, .int .u8 0, .int .i64 0, .string ⟨#[]⟩, .int .i64 0, .int .i64 0, .bool false, .int .u8 0, .int .u32 0, .int .i64 0, .int .i64 0, .slice none 0 0] 28)
          rw [← hu] at KN ⊢
          generalize wk64.alloc (.cells #[.int .u8 0, .int .u8 0, .int .i64 0, .string ⟨#[]⟩, .int .i64 0, .int .i64 0, .bool false, .int .u8 0, .int .u32 0, .int .i64 0, .int .i64 0, .slice none 0 0] 28) = wk71 at hS BB KN ⊢
          clear hu
          have KU := KN
          clear KN
          clear hK K
          try simp only [Act.put, List.setIfInBounds_toArray, List.set_cons_zero, List.set_cons_succ]
          refine wpAnyH_ready (rs := [4, 9]) (by kernel_rfl) (by simp) ?_
          refine AllReadyH.cons (o := _) (by simp only [List.getElem?_toArray, List.getElem?_cons_succ, List.getElem?_cons_zero] <;> exact rfl) (fun K hK => ?_) ?_
          focus (
            go_simp
            go_at_call 9
            refine (HRd.out _).mono ?_
            rintro e wk72 ⟨A, c, rfl, PV, hb⟩
            have hS := hS.keep hb
            have BB := BB.trans (hb.mono BB.size)
            have KU := KU.keep hb
            clear hb
            go_wp2_with fail
            refine hK.out _ _ hS (fun _ => ?_)
            clear hK K
            try simp only [Act.put, List.setIfInBounds_toArray, List.set_cons_zero, List.set_cons_succ]
            refine wpAnyH_take (i := 5) (v := ?_) (by simp only [List.getElem?_toArray, List.getElem?_cons_succ, List.getElem?_cons_zero] <;> exact rfl) (by kernel_rfl) (by kernel_rfl) (by kernel_rfl) (fun _ _ _ h => h) (Or.inl ⟨by rfl, ?_⟩) hS ?_
            rotate_left
            focus (intro w' hw'; go_simp; all_goals with_reducible rfl)
            try simp only [Act.put, List.setIfInBounds_toArray, List.set_cons_zero, List.set_cons_succ]
            refine wpAnyH_take (i := 6) (v := ?_) (by simp only [List.getElem?_toArray, List.getElem?_cons_succ, List.getElem?_cons_zero] <;> exact rfl) (by kernel_rfl) (by kernel_rfl) (by kernel_rfl) (fun _ _ _ h => h) (Or.inl ⟨by rfl, ?_⟩) hS ?_
            rotate_left
            focus (intro w' hw'; go_simp; all_goals with_reducible rfl)
            try simp only [Act.put, List.setIfInBounds_toArray, List.set_cons_zero, List.set_cons_succ]
            refine wpAnyH_take (i := 7) (v := ?_) (by simp only [List.getElem?_toArray, List.getElem?_cons_succ, List.getElem?_cons_zero] <;> exact rfl) (by kernel_rfl) (by kernel_rfl) (by kernel_rfl) (fun _ _ _ h => h) (Or.inl ⟨by rfl, ?_⟩) hS ?_
            rotate_left
            focus (intro w' hw'; go_simp; all_goals with_reducible rfl)
            try simp only [Act.put, List.setIfInBounds_toArray, List.set_cons_zero, List.set_cons_succ]
            refine wpAnyH_ready (rs := [9]) (by kernel_rfl) (by simp) ?_
            refine AllReadyH.cons (o := _) (by simp only [List.getElem?_toArray, List.getElem?_cons_succ, List.getElem?_cons_zero] <;> exact rfl) (fun K hK => ?_) ?_
            focus (
              go_simp
              refine hK.out _ _ (hS.alloc _) (fun _ => ?_)
              have KN := BlkIs.new wk72 31 #[.int .u32 0, .int .i64 0]
              obtain ⟨v, hv⟩ : ∃ g, g = wk72.heap.size := ⟨_, rfl⟩
              have HVB := hide (show w.heap.size ≤ v by rw [hv]; exact BB.size)
              have hS := hS.alloc (.cells #[.int .u32 0, .int .i64 0] 31)
              have BB := BB.alloc BB.size (.cells #[.int .u32 0, .int .i64 0] 31)
              have PV := PV.alloc (.cells #[.int .u32 0, .int .i64 0] 31)
              have KU := KU.alloc (.cells #[.int .u32 0, .int .i64 0] 31)
              rw [← hv] at KN ⊢
              generalize wk72.alloc (.cells #[.int .u32 0, .int .i64 0] 31) = wk73 at hS BB PV KU KN ⊢
              clear hv
              have KV := KN
              clear KN
              clear hK K
              try simp only [Act.put, List.setIfInBounds_toArray, List.set_cons_zero, List.set_cons_succ]
              refine wpAnyH_ready (rs := [10]) (by kernel_rfl) (by simp) ?_
              refine AllReadyH.cons (o := _) (by simp only [List.getElem?_toArray, List.getElem?_cons_succ, List.getElem?_cons_zero] <;> exact rfl) (fun K hK => ?_) ?_
              focus (
                refine step_store_blk rfl 28 (.tmp 10) (.tmp 30) rfl u (RV.F.cs A RV.l.length c) #[.int .u8 0, .int .u8 0, .int .i64 0, .string ⟨#[]⟩, .int .i64 0, .int .i64 0, .bool false, .int .u8 0, .int .u32 0, .int .i64 0, .int .i64 0, .slice none 0 0] 28 rfl rfl KU fr_sz rfl (Fr.cs_one _ _ _ _) ?_
                have hS := hS.row_other (hS.ne_ KU (by decide)) (RV.F.cs A RV.l.length c)
                have KV := KV.row_other (KV.ne_ KU (by decide)) (RV.F.cs A RV.l.length c)
                have PV := PV.farRow KU (fr_no16' Fr.zero none 0 0) (RV.F.cs A RV.l.length c)
                have BB := below_setRow BB HUB.out (RV.F.cs A RV.l.length c)
                have KU := KU.row (RV.F.cs A RV.l.length c)
                refine hK.out _ _ hS (fun _ => ?_)
                clear hK K
                try simp only [Act.put]
                refine wpAnyH_ready (rs := [11]) (by kernel_rfl) (by simp) ?_
                refine AllReadyH.cons (o := _) (by simp only [List.getElem?_toArray, List.getElem?_cons_succ, List.getElem?_cons_zero] <;> exact rfl) (fun K hK => ?_) ?_
                focus (
                  refine step_store_blk rfl 31 (.tmp 11) (.tmp 31) rfl v #[.int .u32 RV.code, .int .i64 RV.st] #[.int .u32 0, .int .i64 0] 31 rfl rfl KV fa_size rfl (fa_one _ _ rfl rfl) ?_
                  have hS := hS.row_other (hS.ne_ KV (by decide)) #[.int .u32 RV.code, .int .i64 RV.st]
                  have KU := KU.row_other (KU.ne_ KV (by decide)) #[.int .u32 RV.code, .int .i64 RV.st]
                  have PV := PV.farRow KV (by intro i x; match i with | 0 | 1 => simp | k + 2 => simp) #[.int .u32 RV.code, .int .i64 RV.st]
                  have BB := below_setRow BB HVB.out #[.int .u32 RV.code, .int .i64 RV.st]
                  have KV := KV.row #[.int .u32 RV.code, .int .i64 RV.st]
                  refine hK.out _ _ hS (fun _ => ?_)
                  clear hK K
                  try simp only [Act.put]
                  refine wpAnyH_done (by kernel_rfl) ?_ _
                  refine NoPanic.normal ?_
                  go_wp2_with fail
                  go_meet
                  exact ⟨u, v, A, c, rfl, rfl, hS, KU, KV, PV, BB⟩)
                exact AllReadyH.nil)
              exact AllReadyH.nil)
            exact AllReadyH.nil)
          refine AllReadyH.cons (o := _) (by simp only [List.getElem?_toArray, List.getElem?_cons_succ, List.getElem?_cons_zero] <;> exact rfl) (fun K hK => ?_) ?_
          focus (
            go_simp
            refine hK.out _ _ (hS.alloc _) (fun _ => ?_)
            have KN := BlkIs.new wk71 31 #[.int .u32 0, .int .i64 0]
            obtain ⟨v, hv⟩ : ∃ g, g = wk71.heap.size := ⟨_, rfl⟩
            have HVB := hide (show w.heap.size ≤ v by rw [hv]; exact BB.size)
            have hS := hS.alloc (.cells #[.int .u32 0, .int .i64 0] 31)
            have BB := BB.alloc BB.size (.cells #[.int .u32 0, .int .i64 0] 31)
            have KU := KU.alloc (.cells #[.int .u32 0, .int .i64 0] 31)
            rw [← hv] at KN ⊢
            generalize wk71.alloc (.cells #[.int .u32 0, .int .i64 0] 31) = wk74 at hS BB KU KN ⊢
            clear hv
            have KV := KN
            clear KN
            clear hK K
            try simp only [Act.put, List.setIfInBounds_toArray, List.set_cons_zero, List.set_cons_succ]
            refine wpAnyH_ready (rs := [4]) (by kernel_rfl) (by simp) ?_
            refine AllReadyH.cons (o := _) (by simp only [List.getElem?_toArray, List.getElem?_cons_succ, List.getElem?_cons_zero] <;> exact rfl) (fun K hK => ?_) ?_
            focus (
              go_simp
              go_at_call 9
              refine (HRd.out _).mono ?_
              rintro e wk75 ⟨A, c, rfl, PV, hb⟩
              have hS := hS.keep hb
              have BB := BB.trans (hb.mono BB.size)
              have KU := KU.keep hb
              have KV := KV.keep hb
              clear hb
              go_wp2_with fail
              refine hK.out _ _ hS (fun _ => ?_)
              clear hK K
              try simp only [Act.put, List.setIfInBounds_toArray, List.set_cons_zero, List.set_cons_succ]
              refine wpAnyH_take (i := 5) (v := ?_) (by simp only [List.getElem?_toArray, List.getElem?_cons_succ, List.getElem?_cons_zero] <;> exact rfl) (by kernel_rfl) (by kernel_rfl) (by kernel_rfl) (fun _ _ _ h => h) (Or.inl ⟨by rfl, ?_⟩) hS ?_
              rotate_left
              focus (intro w' hw'; go_simp; all_goals with_reducible rfl)
              try simp only [Act.put, List.setIfInBounds_toArray, List.set_cons_zero, List.set_cons_succ]
              refine wpAnyH_take (i := 6) (v := ?_) (by simp only [List.getElem?_toArray, List.getElem?_cons_succ, List.getElem?_cons_zero] <;> exact rfl) (by kernel_rfl) (by kernel_rfl) (by kernel_rfl) (fun _ _ _ h => h) (Or.inl ⟨by rfl, ?_⟩) hS ?_
              rotate_left
              focus (intro w' hw'; go_simp; all_goals with_reducible rfl)
              try simp only [Act.put, List.setIfInBounds_toArray, List.set_cons_zero, List.set_cons_succ]
              refine wpAnyH_take (i := 7) (v := ?_) (by simp only [List.getElem?_toArray, List.getElem?_cons_succ, List.getElem?_cons_zero] <;> exact rfl) (by kernel_rfl) (by kernel_rfl) (by kernel_rfl) (fun _ _ _ h => h) (Or.inl ⟨by rfl, ?_⟩) hS ?_
              rotate_left
              focus (intro w' hw'; go_simp; all_goals with_reducible rfl)
              try simp only [Act.put, List.setIfInBounds_toArray, List.set_cons_zero, List.set_cons_succ]
              refine wpAnyH_ready (rs := [10]) (by kernel_rfl) (by simp) ?_
              refine AllReadyH.cons (o := _) (by simp only [List.getElem?_toArray, List.getElem?_cons_succ, List.getElem?_cons_zero] <;> exact rfl) (fun K hK => ?_) ?_
              focus (
                refine step_store_blk rfl 28 (.tmp 10) (.tmp 30) rfl u (RV.F.cs A RV.l.length c) #[.int .u8 0, .int .u8 0, .int .i64 0, .string ⟨#[]⟩, .int .i64 0, .int .i64 0, .bool false, .int .u8 0, .int .u32 0, .int .i64 0, .int .i64 0, .slice none 0 0] 28 rfl rfl KU fr_sz rfl (Fr.cs_one _ _ _ _) ?_
                have hS := hS.row_other (hS.ne_ KU (by decide)) (RV.F.cs A RV.l.length c)
                have KV := KV.row_other (KV.ne_ KU (by decide)) (RV.F.cs A RV.l.length c)
                have PV := PV.farRow KU (fr_no16' Fr.zero none 0 0) (RV.F.cs A RV.l.length c)
                have BB := below_setRow BB HUB.out (RV.F.cs A RV.l.length c)
                have KU := KU.row (RV.F.cs A RV.l.length c)
                refine hK.out _ _ hS (fun _ => ?_)
                clear hK K
                try simp only [Act.put]
                refine wpAnyH_ready (rs := [11]) (by kernel_rfl) (by simp) ?_
                refine AllReadyH.cons (o := _) (by simp only [List.getElem?_toArray, List.getElem?_cons_succ, List.getElem?_cons_zero] <;> exact rfl) (fun K hK => ?_) ?_
                focus (
                  refine step_store_blk rfl 31 (.tmp 11) (.tmp 31) rfl v #[.int .u32 RV.code, .int .i64 RV.st] #[.int .u32 0, .int .i64 0] 31 rfl rfl KV fa_size rfl (fa_one _ _ rfl rfl) ?_
                  have hS := hS.row_other (hS.ne_ KV (by decide)) #[.int .u32 RV.code, .int .i64 RV.st]
                  have KU := KU.row_other (KU.ne_ KV (by decide)) #[.int .u32 RV.code, .int .i64 RV.st]
                  have PV := PV.farRow KV (by intro i x; match i with | 0 | 1 => simp | k + 2 => simp) #[.int .u32 RV.code, .int .i64 RV.st]
                  have BB := below_setRow BB HVB.out #[.int .u32 RV.code, .int .i64 RV.st]
                  have KV := KV.row #[.int .u32 RV.code, .int .i64 RV.st]
                  refine hK.out _ _ hS (fun _ => ?_)
                  clear hK K
                  try simp only [Act.put]
                  refine wpAnyH_done (by kernel_rfl) ?_ _
                  refine NoPanic.normal ?_
                  go_wp2_with fail
                  go_meet
                  exact ⟨u, v, A, c, rfl, rfl, hS, KU, KV, PV, BB⟩)
                exact AllReadyH.nil)
              exact AllReadyH.nil)
            exact AllReadyH.nil)
          exact AllReadyH.nil)
        refine AllReadyH.cons (o := _) (by simp only [List.getElem?_toArray, List.getElem?_cons_succ, List.getElem?_cons_zero] <;> exact rfl) (fun K hK => ?_) ?_
        focus (
          go_simp
          refine hK.out _ _ (hS.alloc _) (fun _ => ?_)
          have KN := BlkIs.new wk64 31 #[.int .u32 0, .int .i64 0]
          obtain ⟨v, hv⟩ : ∃ g, g = wk64.heap.size := ⟨_, rfl⟩
          have HVB := hide (show w.heap.size ≤ v by rw [hv]; exact BB.size)
          have hS := hS.alloc (.cells #[.int .u32 0, .int .i64 0] 31)
          have BB := BB.alloc BB.size (.cells #[.int .u32 0, .int .i64 0] 31)
          rw [← hv] at KN ⊢
          generalize wk64.alloc (.cells #[.int .u32 0, .int .i64 0] 31) = wk76 at hS BB KN ⊢
          clear hv
          have KV := KN
          clear KN
          clear hK K
          try simp only [Act.put, List.setIfInBounds_toArray, List.set_cons_zero, List.set_cons_succ]
          refine wpAnyH_ready (rs := [4, 8]) (by kernel_rfl) (by simp) ?_
          refine AllReadyH.cons (o := _) (by simp only [List.getElem?_toArray, List.getElem?_cons_succ, List.getElem?_cons_zero] <;> exact rfl) (fun K hK => ?_) ?_
          focus (
            go_simp
            go_at_call 9
            refine (HRd.out _).mono ?_
            rintro e wk77 ⟨A, c, rfl, PV, hb⟩
            have hS := hS.keep hb
            have BB := BB.trans (hb.mono BB.size)
            have KV := KV.keep hb
            clear hb
            go_wp2_with fail
            refine hK.out _ _ hS (fun _ => ?_)
            clear hK K
            try simp only [Act.put, List.setIfInBounds_toArray, List.set_cons_zero, List.set_cons_succ]
            refine wpAnyH_take (i := 5) (v := ?_) (by simp only [List.getElem?_toArray, List.getElem?_cons_succ, List.getElem?_cons_zero] <;> exact rfl) (by kernel_rfl) (by kernel_rfl) (by kernel_rfl) (fun _ _ _ h => h) (Or.inl ⟨by rfl, ?_⟩) hS ?_
            rotate_left
            focus (intro w' hw'; go_simp; all_goals with_reducible rfl)
            try simp only [Act.put, List.setIfInBounds_toArray, List.set_cons_zero, List.set_cons_succ]
            refine wpAnyH_take (i := 6) (v := ?_) (by simp only [List.getElem?_toArray, List.getElem?_cons_succ, List.getElem?_cons_zero] <;> exact rfl) (by kernel_rfl) (by kernel_rfl) (by kernel_rfl) (fun _ _ _ h => h) (Or.inl ⟨by rfl, ?_⟩) hS ?_
            rotate_left
            focus (intro w' hw'; go_simp; all_goals with_reducible rfl)
            try simp only [Act.put, List.setIfInBounds_toArray, List.set_cons_zero, List.set_cons_succ]
            refine wpAnyH_take (i := 7) (v := ?_) (by simp only [List.getElem?_toArray, List.getElem?_cons_succ, List.getElem?_cons_zero] <;> exact rfl) (by kernel_rfl) (by kernel_rfl) (by kernel_rfl) (fun _ _ _ h => h) (Or.inl ⟨by rfl, ?_⟩) hS ?_
            rotate_left
            focus (intro w' hw'; go_simp; all_goals with_reducible rfl)
            try simp only [Act.put, List.setIfInBounds_toArray, List.set_cons_zero, List.set_cons_succ]
            refine wpAnyH_ready (rs := [8]) (by kernel_rfl) (by simp) ?_
            refine AllReadyH.cons (o := _) (by simp only [List.getElem?_toArray, List.getElem?_cons_succ, List.getElem?_cons_zero] <;> exact rfl) (fun K hK => ?_) ?_
            focus (
              go_simp
              refine hK.out _ _ (hS.alloc _) (fun _ => ?_)
              have KN := BlkIs.new wk77 28 #[.int .u8 0, .int .u8 0, .int .i64 0, .string ⟨#[]⟩, .int .i64 0, .int .i64 0, .bool false, .int .u8 0, .int .u32 0, .int .i64 0, .int .i64 0, .slice none 0 0]
              obtain ⟨u, hu⟩ : ∃ g, g = wk77.heap.size := ⟨_, rfl⟩
              have HUB := hide (show w.heap.size ≤ u by rw [hu]; exact BB.size)
              have hS := hS.alloc (.cells #[.int .u8 0, .int .u8 0, .int .i64 0, .string ⟨#[]⟩, .int .i64 0, .int .i64 0, .bool false, .int .u8 0, .int .u32 0, .int .i64 0, .int .i64 0, .slice none 0 0] 28)
              have BB := BB.alloc BB.size (.cells #[.int .u8 0, .int .u8 0, .int .i64 0, .string ⟨#[]⟩, .int .i64 0, .int .i64 0, .bool false, .int .u8 0, .int .u32 0, .int .i64 0, .int .i64 0, .slice none 0 0] 28)
              have PV := PV.alloc (.cells #[.int .u8 0, .int .u8 0, .int .i64 0, .string ⟨#[]⟩, .int .i64 0, .int .i64 0, .bool false, .int .u8 0, .int .u32 0, .int .i64 0, .int .i64 0, .slice none 0 0] 28)
              have KV := KV.alloc (.cells #[.int .u8 0, .int .u8 0, .int .i64 0, .string ⟨#[]⟩, .int .i64 0, .int .i64 0, .bool false, .int .u8 0, .int .u32 0, .int .i64 0, .int .i64 0, .slice none 0 0] 28)
              rw [← hu] at KN ⊢
              generalize wk77.alloc (.cells #[.int .u8 0, .int .u8 0, .int .i64 0, .string ⟨#[]⟩, .int .i64 0, .int .i64 0, .bool false, .int .u8 0, .int .u32 0, .int .i64 0, .int .i64 0, .slice none 0 0] 28) = wk78 at hS BB PV KV KN ⊢
              clear hu
              have KU := KN
              clear KN
              clear hK K
              try simp only [Act.put, List.setIfInBounds_toArray, List.set_cons_zero, List.set_cons_succ]
              refine wpAnyH_ready (rs := [10]) (by kernel_rfl) (by simp) ?_
              refine AllReadyH.cons (o := _) (by simp only [List.getElem?_toArray, List.getElem?_cons_succ, List.getElem?_cons_zero] <;> exact rfl) (fun K hK => ?_) ?_
              focus (
                refine step_store_blk rfl 28 (.tmp 10) (.tmp 30) rfl u (RV.F.cs A RV.l.length c) #[.int .u8 0, .int .u8 0, .int .i64 0, .string ⟨#[]⟩, .int .i64 0, .int .i64 0, .bool false, .int .u8 0, .int .u32 0, .int .i64 0, .int .i64 0, .slice none 0 0] 28 rfl rfl KU fr_sz rfl (Fr.cs_one _ _ _ _) ?_
                have hS := hS.row_other (hS.ne_ KU (by decide)) (RV.F.cs A RV.l.length c)
                have KV := KV.row_other (KV.ne_ KU (by decide)) (RV.F.cs A RV.l.length c)
                have PV := PV.farRow KU (fr_no16' Fr.zero none 0 0) (RV.F.cs A RV.l.length c)
                have BB := below_setRow BB HUB.out (RV.F.cs A RV.l.length c)
                have KU := KU.row (RV.F.cs A RV.l.length c)
                refine hK.out _ _ hS (fun _ => ?_)
                clear hK K
                try simp only [Act.put]
                refine wpAnyH_ready (rs := [11]) (by kernel_rfl) (by simp) ?_
                refine AllReadyH.cons (o := _) (by simp only [List.getElem?_toArray, List.getElem?_cons_succ, List.getElem?_cons_zero] <;> exact rfl) (fun K hK => ?_) ?_
                focus (
                  refine step_store_blk rfl 31 (.tmp 11) (.tmp 31) rfl v #[.int .u32 RV.code, .int .i64 RV.st] #[.int .u32 0, .int .i64 0] 31 rfl rfl KV fa_size rfl (fa_one _ _ rfl rfl) ?_
                  have hS := hS.row_other (hS.ne_ KV (by decide)) #[.int .u32 RV.code, .int .i64 RV.st]
                  have KU := KU.row_other (KU.ne_ KV (by decide)) #[.int .u32 RV.code, .int .i64 RV.st]
                  have PV := PV.farRow KV (by intro i x; match i with | 0 | 1 => simp | k + 2 => simp) #[.int .u32 RV.code, .int .i64 RV.st]
                  have BB := below_setRow BB HVB.out #[.int .u32 RV.code, .int .i64 RV.st]
                  have KV := KV.row #[.int .u32 RV.code, .int .i64 RV.st]
                  refine hK.out _ _ hS (fun _ => ?_)
                  clear hK K
                  try simp only [Act.put]
                  refine wpAnyH_done (by kernel_rfl) ?_ _
                  refine NoPanic.normal ?_
                  go_wp2_with fail
                  go_meet
                  exact ⟨u, v, A, c, rfl, rfl, hS, KU, KV, PV, BB⟩)
                exact AllReadyH.nil)
              exact AllReadyH.nil)
            exact AllReadyH.nil)
          refine AllReadyH.cons (o := _) (by simp only [List.getElem?_toArray, List.getElem?_cons_succ, List.getElem?_cons_zero] <;> exact rfl) (fun K hK => ?_) ?_
          focus (
            go_simp
            refine hK.out _ _ (hS.alloc _) (fun _ => ?_)
            have KN := BlkIs.new wk76 28 #[.int .u8 0, .int .u8 0, .int .i64 0, .string ⟨#[]⟩, .int .i64 0, .int .i64 0, .bool false, .int .u8 0, .int .u32 0, .int .i64 0, .int .i64 0, .slice none 0 0]
            obtain ⟨u, hu⟩ : ∃ g, g = wk76.heap.size := ⟨_, rfl⟩
            have HUB := hide (show w.heap.size ≤ u by rw [hu]; exact BB.size)
            have hS := hS.alloc (.cells #[.int .u8 0, .int .u8 0, .int .i64 0, .string ⟨#[]⟩, .int .i64 0, .int .i64 0, .bool false, .int .u8 0, .int .u32 0, .int .i64 0, .int .i64 0, .slice none 0 0] 28)
            have BB := BB.alloc BB.size (.cells #[.int .u8 0, .int .u8 0, .int .i64 0, .string ⟨#[]⟩, .int .i64 0, .int .i64 0, .bool false, .int .u8 0, .int .u32 0, .int .i64 0, .int .i64 0, .slice none 0 0] 28)
            have KV := KV.alloc (.cells #[.int .u8 0, .int .u8 0, .int .i64 0, .string ⟨#[]⟩, .int .i64 0, .int .i64 0, .bool false, .int .u8 0, .int .u32 0, .int .i64 0, .int .i64 0, .slice none 0 0] 28)
            rw [← hu] at KN ⊢
            generalize wk76.alloc (.cells #[.int .u8 0, .int .u8 0, .int .i64 0, .string ⟨#[]⟩, .int .i64 0, .int .i64 0, .bool false, .int .u8 0, .int .u32 0, .int .i64 0, .int .i64 0, .slice none 0 0] 28) = wk79 at hS BB KV KN ⊢
            clear hu
            have KU := KN
            clear KN
            clear hK K
            try simp only [Act.put, List.setIfInBounds_toArray, List.set_cons_zero, List.set_cons_succ]
            refine wpAnyH_ready (rs := [4]) (by kernel_rfl) (by simp) ?_
            refine AllReadyH.cons (o := _) (by simp only [List.getElem?_toArray, List.getElem?_cons_succ, List.getElem?_cons_zero] <;> exact rfl) (fun K hK => ?_) ?_
            focus (
              go_simp
              go_at_call 9
              refine (HRd.out _).mono ?_
              rintro e wk80 ⟨A, c, rfl, PV, hb⟩
              have hS := hS.keep hb
              have BB := BB.trans (hb.mono BB.size)
              have KU := KU.keep hb
              have KV := KV.keep hb
              clear hb
              go_wp2_with fail
              refine hK.out _ _ hS (fun _ => ?_)
              clear hK K
              try simp only [Act.put, List.setIfInBounds_toArray, List.set_cons_zero, List.set_cons_succ]
              refine wpAnyH_take (i := 5) (v := ?_) (by simp only [List.getElem?_toArray, List.getElem?_cons_succ, List.getElem?_cons_zero] <;> exact rfl) (by kernel_rfl) (by kernel_rfl) (by kernel_rfl) (fun _ _ _ h => h) (Or.inl ⟨by rfl, ?_⟩) hS ?_
              rotate_left
              focus (intro w' hw'; go_simp; all_goals with_reducible rfl)
              try simp only [Act.put, List.setIfInBounds_toArray, List.set_cons_zero, List.set_cons_succ]
              refine wpAnyH_take (i := 6) (v := ?_) (by simp only [List.getElem?_toArray, List.getElem?_cons_succ, List.getElem?_cons_zero] <;> exact rfl) (by kernel_rfl) (by kernel_rfl) (by kernel_rfl) (fun _ _ _ h => h) (Or.inl ⟨by rfl, ?_⟩) hS ?_
              rotate_left
              focus (intro w' hw'; go_simp; all_goals with_reducible rfl)
              try simp only [Act.put, List.setIfInBounds_toArray, List.set_cons_zero, List.set_cons_succ]
              refine wpAnyH_take (i := 7) (v := ?_) (by simp only [List.getElem?_toArray, List.getElem?_cons_succ, List.getElem?_cons_zero] <;> exact rfl) (by kernel_rfl) (by kernel_rfl) (by kernel_rfl) (fun _ _ _ h => h) (Or.inl ⟨by rfl, ?_⟩) hS ?_
              rotate_left
              focus (intro w' hw'; go_simp; all_goals with_reducible rfl)
              try simp only [Act.put, List.setIfInBounds_toArray, List.set_cons_zero, List.set_cons_succ]
              refine wpAnyH_ready (rs := [10]) (by kernel_rfl) (by simp) ?_
              refine AllReadyH.cons (o := _) (by simp only [List.getElem?_toArray, List.getElem?_cons_succ, List.getElem?_cons_zero] <;> exact rfl) (fun K hK => ?_) ?_
              focus (
                refine step_store_blk rfl 28 (.tmp 10) (.tmp 30) rfl u (RV.F.cs A RV.l.length c) #[.int .u8 0, .int .u8 0, .int .i64 0, .string ⟨#[]⟩, .int .i64 0, .int .i64 0, .bool false, .int .u8 0, .int .u32 0, .int .i64 0, .int .i64 0, .slice none 0 0] 28 rfl rfl KU fr_sz rfl (Fr.cs_one _ _ _ _) ?_
                have hS := hS.row_other (hS.ne_ KU (by decide)) (RV.F.cs A RV.l.length c)
                have KV := KV.row_other (KV.ne_ KU (by decide)) (RV.F.cs A RV.l.length c)
                have PV := PV.farRow KU (fr_no16' Fr.zero none 0 0) (RV.F.cs A RV.l.length c)
                have BB := below_setRow BB HUB.out (RV.F.cs A RV.l.length c)
                have KU := KU.row (RV.F.cs A RV.l.length c)
                refine hK.out _ _ hS (fun _ => ?_)
                clear hK K
                try simp only [Act.put]
                refine wpAnyH_ready (rs := [11]) (by kernel_rfl) (by simp) ?_
                refine AllReadyH.cons (o := _) (by simp only [List.getElem?_toArray, List.getElem?_cons_succ, List.getElem?_cons_zero] <;> exact rfl) (fun K hK => ?_) ?_
                focus (
                  refine step_store_blk rfl 31 (.tmp 11) (.tmp 31) rfl v #[.int .u32 RV.code, .int .i64 RV.st] #[.int .u32 0, .int .i64 0] 31 rfl rfl KV fa_size rfl (fa_one _ _ rfl rfl) ?_
                  have hS := hS.row_other (hS.ne_ KV (by decide)) #[.int .u32 RV.code, .int .i64 RV.st]
                  have KU := KU.row_other (KU.ne_ KV (by decide)) #[.int .u32 RV.code, .int .i64 RV.st]
                  have PV := PV.farRow KV (by intro i x; match i with | 0 | 1 => simp | k + 2 => simp) #[.int .u32 RV.code, .int .i64 RV.st]
                  have BB := below_setRow BB HVB.out #[.int .u32 RV.code, .int .i64 RV.st]
                  have KV := KV.row #[.int .u32 RV.code, .int .i64 RV.st]
                  refine hK.out _ _ hS (fun _ => ?_)
                  clear hK K
                  try simp only [Act.put]
                  refine wpAnyH_done (by kernel_rfl) ?_ _
                  refine NoPanic.normal ?_
                  go_wp2_with fail
                  go_meet
                  exact ⟨u, v, A, c, rfl, rfl, hS, KU, KV, PV, BB⟩)
                exact AllReadyH.nil)
              exact AllReadyH.nil)
            exact AllReadyH.nil)
          exact AllReadyH.nil)
        exact AllReadyH.nil)
      refine AllReadyH.cons (o := _) (by simp only [List.getElem?_toArray, List.getElem?_cons_succ, List.getElem?_cons_zero] <;> exact rfl) (fun K hK => ?_) ?_
      focus (
        go_simp
        refine hK.out _ _ (hS.alloc _) (fun _ => ?_)
        have KN := BlkIs.new wk64 28 #[.int .u8 0, .int .u8 0, .int .i64 0, .string ⟨#[]⟩, .int .i64 0, .int .i64 0, .bool false, .int .u8 0, .int .u32 0, .int .i64 0, .int .i64 0, .slice none 0 0]
        obtain ⟨u, hu⟩ : ∃ g, g = wk64.heap.size := ⟨_, rfl⟩
        have HUB := hide (show w.heap.size ≤ u by rw [hu]; exact BB.size)
        have hS := hS.alloc (.cells #[.int .u8 0, .int .u8 0, .int .i64 0, .string ⟨#[]⟩, .int .i64 0, .int .i64 0, .bool false, .int .u8 0, .int .u32 0, .int .i64 0, .int .i64 0, .slice none 0 0] 28)
        have BB := BB.alloc BB.size (.cells #[.int .u8 0, .int .u8 0, .int .i64 0, .string ⟨#[]⟩, .int .i64 0, .int .i64 0, .bool false, .int .u8 0, .int .u32 0, .int .i64 0, .int .i64 0, .slice none 0 0] 28)
        have RM := RM.below ((Below.refl _ _).alloc (Nat.le_refl _) (.cells #[.int .u8 0, .int .u8 0, .int .i64 0, .string ⟨#[]⟩, .int .i64 0, .int .i64 0, .bool false, .int .u8 0, .int .u32 0, .int .i64 0, .int .i64 0, .slice none 0 0] 28))
        rw [← hu] at KN ⊢
        generalize wk64.alloc (.cells #[.int .u8 0, .int .u8 0, .int .i64 0, .string ⟨#[]⟩, .int .i64 0, .int .i64 0, .bool false, .int .u8 0, .int .u32 0, .int .i64 0, .int .i64 0, .slice none 0 0] 28) = wk81 at hS BB RM KN ⊢
        clear hu
        have KU := KN
        clear KN
        clear hK K
        try simp only [Act.put, List.setIfInBounds_toArray, List.set_cons_zero, List.set_cons_succ]
        refine wpAnyH_ready (rs := [3, 9]) (by kernel_rfl) (by simp) ?_
        refine AllReadyH.cons (o := _) (by simp only [List.getElem?_toArray, List.getElem?_cons_succ, List.getElem?_cons_zero] <;> exact rfl) (fun K hK => ?_) ?_
        focus (
          have s1 := rb_string N RM
          rw [← HZ.out] at s1
          go_simp
          clear s1 RM
          refine hK.out _ _ hS (fun _ => ?_)
          clear hK K
          try simp only [Act.put, List.setIfInBounds_toArray, List.set_cons_zero, List.set_cons_succ]
          refine wpAnyH_ready (rs := [4, 9]) (by kernel_rfl) (by simp) ?_
          refine AllReadyH.cons (o := _) (by simp only [List.getElem?_toArray, List.getElem?_cons_succ, List.getElem?_cons_zero] <;> exact rfl) (fun K hK => ?_) ?_
          focus (
            go_simp
            go_at_call 9
            refine (HRd.out _).mono ?_
            rintro e wk83 ⟨A, c, rfl, PV, hb⟩
            have hS := hS.keep hb
            have BB := BB.trans (hb.mono BB.size)
            have KU := KU.keep hb
            clear hb
            go_wp2_with fail
            refine hK.out _ _ hS (fun _ => ?_)
            clear hK K
            try simp only [Act.put, List.setIfInBounds_toArray, List.set_cons_zero, List.set_cons_succ]
            refine wpAnyH_take (i := 5) (v := ?_) (by simp only [List.getElem?_toArray, List.getElem?_cons_succ, List.getElem?_cons_zero] <;> exact rfl) (by kernel_rfl) (by kernel_rfl) (by kernel_rfl) (fun _ _ _ h => h) (Or.inl ⟨by rfl, ?_⟩) hS ?_
            rotate_left
            focus (intro w' hw'; go_simp; all_goals with_reducible rfl)
            try simp only [Act.put, List.setIfInBounds_toArray, List.set_cons_zero, List.set_cons_succ]
            refine wpAnyH_take (i := 6) (v := ?_) (by simp only [List.getElem?_toArray, List.getElem?_cons_succ, List.getElem?_cons_zero] <;> exact rfl) (by kernel_rfl) (by kernel_rfl) (by kernel_rfl) (fun _ _ _ h => h) (Or.inl ⟨by rfl, ?_⟩) hS ?_
            rotate_left
            focus (intro w' hw'; go_simp; all_goals with_reducible rfl)
            try simp only [Act.put, List.setIfInBounds_toArray, List.set_cons_zero, List.set_cons_succ]
            refine wpAnyH_take (i := 7) (v := ?_) (by simp only [List.getElem?_toArray, List.getElem?_cons_succ, List.getElem?_cons_zero] <;> exact rfl) (by kernel_rfl) (by kernel_rfl) (by kernel_rfl) (fun _ _ _ h => h) (Or.inl ⟨by rfl, ?_⟩) hS ?_
            rotate_left
            focus (intro w' hw'; go_simp; all_goals with_reducible rfl)
            try simp only [Act.put, List.setIfInBounds_toArray, List.set_cons_zero, List.set_cons_succ]
            refine wpAnyH_ready (rs := [9]) (by kernel_rfl) (by simp) ?_
            refine AllReadyH.cons (o := _) (by simp only [List.getElem?_toArray, List.getElem?_cons_succ, List.getElem?_cons_zero] <;> exact rfl) (fun K hK => ?_) ?_
            focus (
              go_simp
              refine hK.out _ _ (hS.alloc _) (fun _ => ?_)
              have KN := BlkIs.new wk83 31 #[.int .u32 0, .int .i64 0]
              obtain ⟨v, hv⟩ : ∃ g, g = wk83.heap.size := ⟨_, rfl⟩
              have HVB := hide (show w.heap.size ≤ v by rw [hv]; exact BB.size)
              have hS := hS.alloc (.cells #[.int .u32 0, .int .i64 0] 31)
              have BB := BB.alloc BB.size (.cells #[.int .u32 0, .int .i64 0] 31)
              have PV := PV.alloc (.cells #[.int .u32 0, .int .i64 0] 31)
              have KU := KU.alloc (.cells #[.int .u32 0, .int .i64 0] 31)
              rw [← hv] at KN ⊢
              generalize wk83.alloc (.cells #[.int .u32 0, .int .i64 0] 31) = wk84 at hS BB PV KU KN ⊢
              clear hv
              have KV := KN
              clear KN
              clear hK K
              try simp only [Act.put, List.setIfInBounds_toArray, List.set_cons_zero, List.set_cons_succ]
              refine wpAnyH_ready (rs := [10]) (by kernel_rfl) (by simp) ?_
              refine AllReadyH.cons (o := _) (by simp only [List.getElem?_toArray, List.getElem?_cons_succ, List.getElem?_cons_zero] <;> exact rfl) (fun K hK => ?_) ?_
              focus (
                refine step_store_blk rfl 28 (.tmp 10) (.tmp 30) rfl u (RV.F.cs A RV.l.length c) #[.int .u8 0, .int .u8 0, .int .i64 0, .string ⟨#[]⟩, .int .i64 0, .int .i64 0, .bool false, .int .u8 0, .int .u32 0, .int .i64 0, .int .i64 0, .slice none 0 0] 28 rfl rfl KU fr_sz rfl (Fr.cs_one _ _ _ _) ?_
                have hS := hS.row_other (hS.ne_ KU (by decide)) (RV.F.cs A RV.l.length c)
                have KV := KV.row_other (KV.ne_ KU (by decide)) (RV.F.cs A RV.l.length c)
                have PV := PV.farRow KU (fr_no16' Fr.zero none 0 0) (RV.F.cs A RV.l.length c)
                have BB := below_setRow BB HUB.out (RV.F.cs A RV.l.length c)
                have KU := KU.row (RV.F.cs A RV.l.length c)
                refine hK.out _ _ hS (fun _ => ?_)
                clear hK K
                try simp only [Act.put]
                refine wpAnyH_ready (rs := [11]) (by kernel_rfl) (by simp) ?_
                refine AllReadyH.cons (o := _) (by simp only [List.getElem?_toArray, List.getElem?_cons_succ, List.getElem?_cons_zero] <;> exact rfl) (fun K hK => ?_) ?_
                focus (
                  refine step_store_blk rfl 31 (.tmp 11) (.tmp 31) rfl v #[.int .u32 RV.code, .int .i64 RV.st] #[.int .u32 0, .int .i64 0] 31 rfl rfl KV fa_size rfl (fa_one _ _ rfl rfl) ?_
                  have hS := hS.row_other (hS.ne_ KV (by decide)) #[.int .u32 RV.code, .int .i64 RV.st]
                  have KU := KU.row_other (KU.ne_ KV (by decide)) #[.int .u32 RV.code, .int .i64 RV.st]
                  have PV := PV.farRow KV (by intro i x; match i with | 0 | 1 => simp | k + 2 => simp) #[.int .u32 RV.code, .int .i64 RV.st]
                  have BB := below_setRow BB HVB.out #[.int .u32 RV.code, .int .i64 RV.st]
                  have KV := KV.row #[.int .u32 RV.code, .int .i64 RV.st]
                  refine hK.out _ _ hS (fun _ => ?_)
                  clear hK K
                  try simp only [Act.put]
                  refine wpAnyH_done (by kernel_rfl) ?_ _
                  refine NoPanic.normal ?_
                  go_wp2_with fail
                  go_meet
                  exact ⟨u, v, A, c, rfl, rfl, hS, KU, KV, PV, BB⟩)
                exact AllReadyH.nil)
              exact AllReadyH.nil)
            exact AllReadyH.nil)
          refine AllReadyH.cons (o := _) (by simp only [List.getElem?_toArray, List.getElem?_cons_succ, List.getElem?_cons_zero] <;> exact rfl) (fun K hK => ?_) ?_
          focus (
            go_simp
            refine hK.out _ _ (hS.alloc _) (fun _ => ?_)
            have KN := BlkIs.new wk81 31 #[.int .u32 0, .int .i64 0]
            obtain ⟨v, hv⟩ : ∃ g, g = wk81.heap.size := ⟨_, rfl⟩
            have HVB := hide (show w.heap.size ≤ v by rw [hv]; exact BB.size)
            have hS := hS.alloc (.cells #[.int .u32 0, .int .i64 0] 31)
            have BB := BB.alloc BB.size (.cells #[.int .u32 0, .int .i64 0] 31)
            have KU := KU.alloc (.cells #[.int .u32 0, .int .i64 0] 31)
            rw [← hv] at KN ⊢
            generalize wk81.alloc (.cells #[.int .u32 0, .int .i64 0] 31) = wk85 at hS BB KU KN ⊢
            clear hv
            have KV := KN
            clear KN
            clear hK K
            try simp only [Act.put, List.setIfInBounds_toArray, List.set_cons_zero, List.set_cons_succ]
            refine wpAnyH_ready (rs := [4]) (by kernel_rfl) (by simp) ?_
            refine AllReadyH.cons (o := _) (by simp only [List.getElem?_toArray, List.getElem?_cons_succ, List.getElem?_cons_zero] <;> exact rfl) (fun K hK => ?_) ?_
            focus (
              go_simp
              go_at_call 9
              refine (HRd.out _).mono ?_
              rintro e wk86 ⟨A, c, rfl, PV, hb⟩
              have hS := hS.keep hb
              have BB := BB.trans (hb.mono BB.size)
              have KU := KU.keep hb
              have KV := KV.keep hb
              clear hb
              go_wp2_with fail
              refine hK.out _ _ hS (fun _ => ?_)
              clear hK K
              try simp only [Act.put, List.setIfInBounds_toArray, List.set_cons_zero, List.set_cons_succ]
              refine wpAnyH_take (i := 5) (v := ?_) (by simp only [List.getElem?_toArray, List.getElem?_cons_succ, List.getElem?_cons_zero] <;> exact rfl) (by kernel_rfl) (by kernel_rfl) (by kernel_rfl) (fun _ _ _ h => h) (Or.inl ⟨by rfl, ?_⟩) hS ?_
              rotate_left
              focus (intro w' hw'; go_simp; all_goals with_reducible rfl)
              try simp only [Act.put, List.setIfInBounds_toArray, List.set_cons_zero, List.set_cons_succ]
              refine wpAnyH_take (i := 6) (v := ?_) (by simp only [List.getElem?_toArray, List.getElem?_cons_succ, List.getElem?_cons_zero] <;> exact rfl) (by kernel_rfl) (by kernel_rfl) (by kernel_rfl) (fun _ _ _ h => h) (Or.inl ⟨by rfl, ?_⟩) hS ?_
              rotate_left
              focus (intro w' hw'; go_simp; all_goals with_reducible rfl)
              try simp only [Act.put, List.setIfInBounds_toArray, List.set_cons_zero, List.set_cons_succ]
              refine wpAnyH_take (i := 7) (v := ?_) (by simp only [List.getElem?_toArray, List.getElem?_cons_succ, List.getElem?_cons_zero] <;> exact rfl) (by kernel_rfl) (by kernel_rfl) (by kernel_rfl) (fun _ _ _ h => h) (Or.inl ⟨by rfl, ?_⟩) hS ?_
              rotate_left
              focus (intro w' hw'; go_simp; all_goals with_reducible rfl)
              try simp only [Act.put, List.setIfInBounds_toArray, List.set_cons_zero, List.set_cons_succ]
              refine wpAnyH_ready (rs := [10]) (by kernel_rfl) (by simp) ?_
              refine AllReadyH.cons (o := _) (by simp only [List.getElem?_toArray, List.getElem?_cons_succ, List.getElem?_cons_zero] <;> exact rfl) (fun K hK => ?_) ?_
              focus (
                refine step_store_blk rfl 28 (.tmp 10) (.tmp 30) rfl u (RV.F.cs A RV.l.length c) #[.int .u8 0, .int .u8 0, .int .i64 0, .string ⟨#[]⟩, .int .i64 0, .int .i64 0, .bool false, .int .u8 0, .int .u32 0, .int .i64 0, .int .i64 0, .slice none 0 0] 28 rfl rfl KU fr_sz rfl (Fr.cs_one _ _ _ _) ?_
                have hS := hS.row_other (hS.ne_ KU (by decide)) (RV.F.cs A RV.l.length c)
                have KV := KV.row_other (KV.ne_ KU (by decide)) (RV.F.cs A RV.l.length c)
                have PV := PV.farRow KU (fr_no16' Fr.zero none 0 0) (RV.F.cs A RV.l.length c)
                have BB := below_setRow BB HUB.out (RV.F.cs A RV.l.length c)
                have KU := KU.row (RV.F.cs A RV.l.length c)
                refine hK.out _ _ hS (fun _ => ?_)
                clear hK K
                try simp only [Act.put]
                refine wpAnyH_ready (rs := [11]) (by kernel_rfl) (by simp) ?_
                refine AllReadyH.cons (o := _) (by simp only [List.getElem?_toArray, List.getElem?_cons_succ, List.getElem?_cons_zero] <;> exact rfl) (fun K hK => ?_) ?_
                focus (
                  refine step_store_blk rfl 31 (.tmp 11) (.tmp 31) rfl v #[.int .u32 RV.code, .int .i64 RV.st] #[.int .u32 0, .int .i64 0] 31 rfl rfl KV fa_size rfl (fa_one _ _ rfl rfl) ?_
                  have hS := hS.row_other (hS.ne_ KV (by decide)) #[.int .u32 RV.code, .int .i64 RV.st]
                  have KU := KU.row_other (KU.ne_ KV (by decide)) #[.int .u32 RV.code, .int .i64 RV.st]
                  have PV := PV.farRow KV (by intro i x; match i with | 0 | 1 => simp | k + 2 => simp) #[.int .u32 RV.code, .int .i64 RV.st]
                  have BB := below_setRow BB HVB.out #[.int .u32 RV.code, .int .i64 RV.st]
                  have KV := KV.row #[.int .u32 RV.code, .int .i64 RV.st]
                  refine hK.out _ _ hS (fun _ => ?_)
                  clear hK K
                  try simp only [Act.put]
                  refine wpAnyH_done (by kernel_rfl) ?_ _
                  refine NoPanic.normal ?_
                  go_wp2_with fail
                  go_meet
                  exact ⟨u, v, A, c, rfl, rfl, hS, KU, KV, PV, BB⟩)
                exact AllReadyH.nil)
              exact AllReadyH.nil)
            exact AllReadyH.nil)
          exact AllReadyH.nil)
        refine AllReadyH.cons (o := _) (by simp only [List.getElem?_toArray, List.getElem?_cons_succ, List.getElem?_cons_zero] <;> exact rfl) (fun K hK => ?_) ?_
        focus (
          go_simp
          refine hK.out _ _ (hS.alloc _) (fun _ => ?_)
          have KN := BlkIs.new wk81 31 #[.int .u32 0, .int .i64 0]
          obtain ⟨v, hv⟩ : ∃ g, g = wk81.heap.size := ⟨_, rfl⟩
          have HVB := hide (show w.heap.size ≤ v by rw [hv]; exact BB.size)
          have hS := hS.alloc (.cells #[.int .u32 0, .int .i64 0] 31)
          have BB := BB.alloc BB.size (.cells #[.int .u32 0, .int .i64 0] 31)
          have RM := RM.below ((Below.refl _ _).alloc (Nat.le_refl _) (.cells #[.int .u32 0, .int .i64 0] 31))
          have KU := KU.alloc (.cells #[.int .u32 0, .int .i64 0] 31)
          rw [← hv] at KN ⊢
          generalize wk81.alloc (.cells #[.int .u32 0, .int .i64 0] 31) = wk87 at hS BB RM KU KN ⊢
          clear hv
          have KV := KN
          clear KN
          clear hK K
          try simp only [Act.put, List.setIfInBounds_toArray, List.set_cons_zero, List.set_cons_succ]
          refine wpAnyH_ready (rs := [3]) (by kernel_rfl) (by simp) ?_
          refine AllReadyH.cons (o := _) (by simp only [List.getElem?_toArray, List.getElem?_cons_succ, List.getElem?_cons_zero] <;> exact rfl) (fun K hK => ?_) ?_
          focus (
            have s1 := rb_string N RM
            rw [← HZ.out] at s1
            go_simp
            clear s1 RM
            refine hK.out _ _ hS (fun _ => ?_)
            clear hK K
            try simp only [Act.put, List.setIfInBounds_toArray, List.set_cons_zero, List.set_cons_succ]
            refine wpAnyH_ready (rs := [4]) (by kernel_rfl) (by simp) ?_
            refine AllReadyH.cons (o := _) (by simp only [List.getElem?_toArray, List.getElem?_cons_succ, List.getElem?_cons_zero] <;> exact rfl) (fun K hK => ?_) ?_
            focus (
              go_simp
              go_at_call 9
              refine (HRd.out _).mono ?_
              rintro e wk89 ⟨A, c, rfl, PV, hb⟩
              have hS := hS.keep hb
              have BB := BB.trans (hb.mono BB.size)
              have KU := KU.keep hb
              have KV := KV.keep hb
              clear hb
              go_wp2_with fail
              refine hK.out _ _ hS (fun _ => ?_)
              clear hK K
              try simp only [Act.put, List.setIfInBounds_toArray, List.set_cons_zero, List.set_cons_succ]
              refine wpAnyH_take (i := 5) (v := ?_) (by simp only [List.getElem?_toArray, List.getElem?_cons_succ, List.getElem?_cons_zero] <;> exact rfl) (by kernel_rfl) (by kernel_rfl) (by kernel_rfl) (fun _ _ _ h => h) (Or.inl ⟨by rfl, ?_⟩) hS ?_
              rotate_left
              focus (intro w' hw'; go_simp; all_goals with_reducible rfl)
              try simp only [Act.put, List.setIfInBounds_toArray, List.set_cons_zero, List.set_cons_succ]
              refine wpAnyH_take (i := 6) (v := ?_) (by simp only [List.getElem?_toArray, List.getElem?_cons_succ, List.getElem?_cons_zero] <;> exact rfl) (by kernel_rfl) (by kernel_rfl) (by kernel_rfl) (fun _ _ _ h => h) (Or.inl ⟨by rfl, ?_⟩) hS ?_
              rotate_left
              focus (intro w' hw'; go_simp; all_goals with_reducible rfl)
              try simp only [Act.put, List.setIfInBounds_toArray, List.set_cons_zero, List.set_cons_succ]
              refine wpAnyH_take (i := 7) (v := ?_) (by simp only [List.getElem?_toArray, List.getElem?_cons_succ, List.getElem?_cons_zero] <;> exact rfl) (by kernel_rfl) (by kernel_rfl) (by kernel_rfl) (fun _ _ _ h => h) (Or.inl ⟨by rfl, ?_⟩) hS ?_
              rotate_left
              focus (intro w' hw'; go_simp; all_goals with_reducible rfl)
              try simp only [Act.put, List.setIfInBounds_toArray, List.set_cons_zero, List.set_cons_succ]
              refine wpAnyH_ready (rs := [10]) (by kernel_rfl) (by simp) ?_
              refine AllReadyH.cons (o := _) (by simp only [List.getElem?_toArray, List.getElem?_cons_succ, List.getElem?_cons_zero] <;> exact rfl) (fun K hK => ?_) ?_
              focus (
                refine step_store_blk rfl 28 (.tmp 10) (.tmp 30) rfl u (RV.F.cs A RV.l.length c) #[.int .u8 0, .int .u8 0, .int .i64 0, .string ⟨#[]⟩, .int .i64 0, .int .i64 0, .bool false, .int .u8 0, .int .u32 0, .int .i64 0, .int .i64 0, .slice none 0 0] 28 rfl rfl KU fr_sz rfl (Fr.cs_one _ _ _ _) ?_
                have hS := hS.row_other (hS.ne_ KU (by decide)) (RV.F.cs A RV.l.length c)
                have KV := KV.row_other (KV.ne_ KU (by decide)) (RV.F.cs A RV.l.length c)
                have PV := PV.farRow KU (fr_no16' Fr.zero none 0 0) (RV.F.cs A RV.l.length c)
                have BB := below_setRow BB HUB.out (RV.F.cs A RV.l.length c)
                have KU := KU.row (RV.F.cs A RV.l.length c)
                refine hK.out _ _ hS (fun _ => ?_)
                clear hK K
                try simp only [Act.put]
                refine wpAnyH_ready (rs := [11]) (by kernel_rfl) (by simp) ?_
                refine AllReadyH.cons (o := _) (by simp only [List.getElem?_toArray, List.getElem?_cons_succ, List.getElem?_cons_zero] <;> exact rfl) (fun K hK => ?_) ?_
                focus (
                  refine step_store_blk rfl 31 (.tmp 11) (.tmp 31) rfl v #[.int .u32 RV.code, .int .i64 RV.st] #[.int .u32 0, .int .i64 0] 31 rfl rfl KV fa_size rfl (fa_one _ _ rfl rfl) ?_
                  have hS := hS.row_other (hS.ne_ KV (by decide)) #[.int .u32 RV.code, .int .i64 RV.st]
                  have KU := KU.row_other (KU.ne_ KV (by decide)) #[.int .u32 RV.code, .int .i64 RV.st]
                  have PV := PV.farRow KV (by intro i x; match i with | 0 | 1 => simp | k + 2 => simp) #[.int .u32 RV.code, .int .i64 RV.st]
                  have BB := below_setRow BB HVB.out #[.int .u32 RV.code, .int .i64 RV.st]
                  have KV := KV.row #[.int .u32 RV.code, .int .i64 RV.st]
                  refine hK.out _ _ hS (fun _ => ?_)
                  clear hK K
                  try simp only [Act.put]
                  refine wpAnyH_done (by kernel_rfl) ?_ _
                  refine NoPanic.normal ?_
                  go_wp2_with fail
                  go_meet
                  exact ⟨u, v, A, c, rfl, rfl, hS, KU, KV, PV, BB⟩)
                exact AllReadyH.nil)
              exact AllReadyH.nil)
            exact AllReadyH.nil)
          exact AllReadyH.nil)
        exact AllReadyH.nil)
      refine AllReadyH.cons (o := _) (by simp only [List.getElem?_toArray, List.getElem?_cons_succ, List.getElem?_cons_zero] <;> exact rfl) (fun K hK => ?_) ?_
      focus (
        go_simp
        refine hK.out _ _ (hS.alloc _) (fun _ => ?_)
        have KN := BlkIs.new wk64 31 #[.int .u32 0, .int .i64 0]
        obtain ⟨v, hv⟩ : ∃ g, g = wk64.heap.size := ⟨_, rfl⟩
        have HVB := hide (show w.heap.size ≤ v by rw [hv]; exact BB.size)
        have hS := hS.alloc (.cells #[.int .u32 0, .int .i64 0] 31)
        have BB := BB.alloc BB.size (.cells #[.int .u32 0, .int .i64 0] 31)
        have RM := RM.below ((Below.refl _ _).alloc (Nat.le_refl _) (.cells #[.int .u32 0, .int .i64 0] 31))
        rw [← hv] at KN ⊢
        generalize wk64.alloc (.cells #[.int .u32 0, .int .i64 0] 31) = wk90 at hS BB RM KN ⊢
        clear hv
        have KV := KN
        clear KN
        clear hK K
        try simp only [Act.put, List.setIfInBounds_toArray, List.set_cons_zero, List.set_cons_succ]
        refine wpAnyH_ready (rs := [3, 8]) (by kernel_rfl) (by simp) ?_
        refine AllReadyH.cons (o := _) (by simp only [List.getElem?_toArray, List.getElem?_cons_succ, List.getElem?_cons_zero] <;> exact rfl) (fun K hK => ?_) ?_
        focus (
          have s1 := rb_string N RM
          rw [← HZ.out] at s1
          go_simp
          clear s1 RM
          refine hK.out _ _ hS (fun _ => ?_)
          clear hK K
          try simp only [Act.put, List.setIfInBounds_toArray, List.set_cons_zero, List.set_cons_succ]
          refine wpAnyH_ready (rs := [4, 8]) (by kernel_rfl) (by simp) ?_
          refine AllReadyH.cons (o := _) (by simp only [List.getElem?_toArray, List.getElem?_cons_succ, List.getElem?_cons_zero] <;> exact rfl) (fun K hK => ?_) ?_
          focus (
            go_simp
            go_at_call 9
            refine (HRd.out _).mono ?_
            rintro e wk92 ⟨A, c, rfl, PV, hb⟩
            have hS := hS.keep hb
            have BB := BB.trans (hb.mono BB.size)
            have KV := KV.keep hb
            clear hb
            go_wp2_with fail
            refine hK.out _ _ hS (fun _ => ?_)
            clear hK K
            try simp only [Act.put, List.setIfInBounds_toArray, List.set_cons_zero, List.set_cons_succ]
            refine wpAnyH_take (i := 5) (v := ?_) (by simp only [List.getElem?_toArray, List.getElem?_cons_succ, List.getElem?_cons_zero] <;> exact rfl) (by kernel_rfl) (by kernel_rfl) (by kernel_rfl) (fun _ _ _ h => h) (Or.inl ⟨by rfl, ?_⟩) hS ?_
            rotate_left
            focus (intro w' hw'; go_simp; all_goals with_reducible rfl)
            try simp only [Act.put, List.setIfInBounds_toArray, List.set_cons_zero, List.set_cons_succ]
            refine wpAnyH_take (i := 6) (v := ?_) (by simp only [List.getElem?_toArray, List.getElem?_cons_succ, List.getElem?_cons_zero] <;> exact rfl) (by kernel_rfl) (by kernel_rfl) (by kernel_rfl) (fun _ _ _ h => h) (Or.inl ⟨by rfl, ?_⟩) hS ?_
            rotate_left
            focus (intro w' hw'; go_simp; all_goals with_reducible rfl)
            try simp only [Act.put, List.setIfInBounds_toArray, List.set_cons_zero, List.set_cons_succ]
            refine wpAnyH_take (i := 7) (v := ?_) (by simp only [List.getElem?_toArray, List.getElem?_cons_succ, List.getElem?_cons_zero] <;> exact rfl) (by kernel_rfl) (by kernel_rfl) (by kernel_rfl) (fun _ _ _ h => h) (Or.inl ⟨by rfl, ?_⟩) hS ?_
            rotate_left
            focus (intro w' hw'; go_simp; all_goals with_reducible rfl)
            try simp only [Act.put, List.setIfInBounds_toArray, List.set_cons_zero, List.set_cons_succ]
            refine wpAnyH_ready (rs := [8]) (by kernel_rfl) (by simp) ?_
            refine AllReadyH.cons (o := _) (by simp only [List.getElem?_toArray, List.getElem?_cons_succ, List.getElem?_cons_zero] <;> exact rfl) (fun K hK => ?_) ?_
            focus (
              go_simp
              refine hK.out _ _ (hS.alloc _) (fun _ => ?_)
              have KN := BlkIs.new wk92 28 #[.int .u8 0, .int .u8 0, .int .i64 0, .string ⟨#[]⟩, .int .i64 0, .int .i64 0, .bool false, .int .u8 0, .int .u32 0, .int .i64 0, .int .i64 0, .slice none 0 0]
              obtain ⟨u, hu⟩ : ∃ g, g = wk92.heap.size := ⟨_, rfl⟩
              have HUB := hide (show w.heap.size ≤ u by rw [hu]; exact BB.size)
              have hS := hS.alloc (.cells #[.int .u8 0, .int .u8 0, .int .i64 0, .string ⟨#[]⟩, .int .i64 0, .int .i64 0, .bool false, .int .u8 0, .int .u32 0, .int .i64 0, .int .i64 0, .slice none 0 0] 28)
              have BB := BB.alloc BB.size (.cells #[.int .u8 0, .int .u8 0, .int .i64 0, .string ⟨#[]⟩, .int .i64 0, .int .i64 0, .bool false, .int .u8 0, .int .u32 0, .int .i64 0, .int .i64 0, .slice none 0 0] 28)
              have PV := PV.alloc (.cells #[.int .u8 0, .int .u8 0, .int .i64 0, .string ⟨#[]⟩, .int .i64 0, .int .i64 0, .bool false, .int .u8 0, .int .u32 0, .int .i64 0, .int .i64 0, .slice none 0 0] 28)
              have KV := KV.alloc (.cells #[.int .u8 0, .int .u8 0, .int .i64 0, .string ⟨#[]⟩, .int .i64 0, .int .i64 0, .bool false, .int .u8 0, .int .u32 0, .int .i64 0, .int .i64 0, .slice none 0 0] 28)
              rw [← hu] at KN ⊢
              generalize wk92.alloc (.cells #[.int .u8 0, .int .u8 0, .int .i64 0, .string ⟨#[]⟩, .int .i64 0, .int .i64 0, .bool false, .int .u8 0, .int .u32 0, .int .i64 0, .int .i64 0, .slice none 0 0] 28) = wk93 at hS BB PV KV KN ⊢
              clear hu
              have KU := KN
              clear KN
              clear hK K
              try simp only [Act.put, List.setIfInBounds_toArray, List.set_cons_zero, List.set_cons_succ]
              refine wpAnyH_ready (rs := [10]) (by kernel_rfl) (by simp) ?_
              refine AllReadyH.cons (o := _) (by simp only [List.getElem?_toArray, List.getElem?_cons_succ, List.getElem?_cons_zero] <;> exact rfl) (fun K hK => ?_) ?_
              focus (
                refine step_store_blk rfl 28 (.tmp 10) (.tmp 30) rfl u (RV.F.cs A RV.l.length c) #[.int .u8 0, .int .u8 0, .int .i64 0, .string ⟨#[]⟩, .int .i64 0, .int .i64 0, .bool false, .int .u8 0, .int .u32 0, .int .i64 0, .int .i64 0, .slice none 0 0] 28 rfl rfl KU fr_sz rfl (Fr.cs_one _ _ _ _) ?_
                have hS := hS.row_other (hS.ne_ KU (by decide)) (RV.F.cs A RV.l.length c)
                have KV := KV.row_other (KV.ne_ KU (by decide)) (RV.F.cs A RV.l.length c)
                have PV := PV.farRow KU (fr_no16' Fr.zero none 0 0) (RV.F.cs A RV.l.length c)
                have BB := below_setRow BB HUB.out (RV.F.cs A RV.l.length c)
                have KU := KU.row (RV.F.cs A RV.l.length c)
                refine hK.out _ _ hS (fun _ => ?_)
                clear hK K
                try simp only [Act.put]
                refine wpAnyH_ready (rs := [11]) (by kernel_rfl) (by simp) ?_
                refine AllReadyH.cons (o := _) (by simp only [List.getElem?_toArray, List.getElem?_cons_succ, List.getElem?_cons_zero] <;> exact rfl) (fun K hK => ?_) ?_
                focus (
                  refine step_store_blk rfl 31 (.tmp 11) (.tmp 31) rfl v #[.int .u32 RV.code, .int .i64 RV.st] #[.int .u32 0, .int .i64 0] 31 rfl rfl KV fa_size rfl (fa_one _ _ rfl rfl) ?_
                  have hS := hS.row_other (hS.ne_ KV (by decide)) #[.int .u32 RV.code, .int .i64 RV.st]
                  have KU := KU.row_other (KU.ne_ KV (by decide)) #[.int .u32 RV.code, .int .i64 RV.st]
                  have PV := PV.farRow KV (by intro i x; match i with | 0 | 1 => simp | k + 2 => simp) #[.int .u32 RV.code, .int .i64 RV.st]
                  have BB := below_setRow BB HVB.out #[.int .u32 RV.code, .int .i64 RV.st]
                  have KV := KV.row #[.int .u32 RV.code, .int .i64 RV.st]
                  refine hK.out _ _ hS (fun _ => ?_)
                  clear hK K
                  try simp only [Act.put]
                  refine wpAnyH_done (by kernel_rfl) ?_ _
                  refine NoPanic.normal ?_
                  go_wp2_with fail
                  go_meet
                  exact ⟨u, v, A, c, rfl, rfl, hS, KU, KV, PV, BB⟩)
                exact AllReadyH.nil)
              exact AllReadyH.nil)
            exact AllReadyH.nil)
          refine AllReadyH.cons (o := _) (by simp only [List.getElem?_toArray, List.getElem?_cons_succ, List.getElem?_cons_zero] <;> exact rfl) (fun K hK => ?_) ?_
          focus (
            go_simp
            refine hK.out _ _ (hS.alloc _) (fun _ => ?_)
            have KN := BlkIs.new wk90 28 #[.int .u8 0, .int .u8 0, .int .i64 0, .string ⟨#[]⟩, .int .i64 0, .int .i64 0, .bool false, .int .u8 0, .int .u32 0, .int .i64 0, .int .i64 0, .slice none 0 0]
            obtain ⟨u, hu⟩ : ∃ g, g = wk90.heap.size := ⟨_, rfl⟩
            have HUB := hide (show w.heap.size ≤ u by rw [hu]; exact BB.size)
            have hS := hS.alloc (.cells #[.int .u8 0, .int .u8 0, .int .i64 0, .string ⟨#[]⟩, .int .i64 0, .int .i64 0, .bool false, .int .u8 0, .int .u32 0, .int .i64 0, .int .i64 0, .slice none 0 0] 28)
            have BB := BB.alloc BB.size (.cells #[.int .u8 0, .int .u8 0, .int .i64 0, .string ⟨#[]⟩, .int .i64 0, .int .i64 0, .bool false, .int .u8 0, .int .u32 0, .int .i64 0, .int .i64 0, .slice none 0 0] 28)
            have KV := KV.alloc (.cells #[.int .u8 0, .int .u8 0, .int .i64 0, .string ⟨#[]⟩, .int .i64 0, .int .i64 0, .bool false, .int .u8 0, .int .u32 0, .int .i64 0, .int .i64 0, .slice none 0 0] 28)
            rw [← hu] at KN ⊢
            generalize wk90.alloc (.cells #[.int .u8 0, .int .u8 0, .int .i64 0, .string ⟨#[]⟩, .int .i64 0, .int .i64 0, .bool false, .int .u8 0, .int .u32 0, .int .i64 0, .int .i64 0, .slice none 0 0] 28) = wk94 at hS BB KV KN ⊢
            clear hu
            have KU := KN
            clear KN
            clear hK K
            try simp only [Act.put, List.setIfInBounds_toArray, List.set_cons_zero, List.set_cons_succ]
            refine wpAnyH_ready (rs := [4]) (by kernel_rfl) (by simp) ?_
            refine AllReadyH.cons (o := _) (by simp only [List.getElem?_toArray, List.getElem?_cons_succ, List.getElem?_cons_zero] <;> exact rfl) (fun K hK => ?_) ?_
            focus (
              go_simp
              go_at_call 9
              refine (HRd.out _).mono ?_
              rintro e wk95 ⟨A, c, rfl, PV, hb⟩
              have hS := hS.keep hb
              have BB := BB.trans (hb.mono BB.size)
              have KU := KU.keep hb
              have KV := KV.keep hb
              clear hb
              go_wp2_with fail
              refine hK.out _ _ hS (fun _ => ?_)
              clear hK K
              try simp only [Act.put, List.setIfInBounds_toArray, List.set_cons_zero, List.set_cons_succ]
              refine wpAnyH_take (i := 5) (v := ?_) (by simp only [List.getElem?_toArray, List.getElem?_cons_succ, List.getElem?_cons_zero] <;> exact rfl) (by kernel_rfl) (by kernel_rfl) (by kernel_rfl) (fun _ _ _ h => h) (Or.inl ⟨by rfl, ?_⟩) hS ?_
              rotate_left
              focus (intro w' hw'; go_simp; all_goals with_reducible rfl)
              try simp only [Act.put, List.setIfInBounds_toArray, List.set_cons_zero, List.set_cons_succ]
              refine wpAnyH_take (i := 6) (v := ?_) (by simp only [List.getElem?_toArray, List.getElem?_cons_succ, List.getElem?_cons_zero] <;> exact rfl) (by kernel_rfl) (by kernel_rfl) (by kernel_rfl) (fun _ _ _ h => h) (Or.inl ⟨by rfl, ?_⟩) hS ?_
              rotate_left
              focus (intro w' hw'; go_simp; all_goals with_reducible rfl)
              try simp only [Act.put, List.setIfInBounds_toArray, List.set_cons_zero, List.set_cons_succ]
              refine wpAnyH_take (i := 7) (v := ?_) (by simp only [List.getElem?_toArray, List.getElem?_cons_succ, List.getElem?_cons_zero] <;> exact rfl) (by kernel_rfl) (by kernel_rfl) (by kernel_rfl) (fun _ _ _ h => h) (Or.inl ⟨by rfl, ?_⟩) hS ?_
              rotate_left
              focus (intro w' hw'; go_simp; all_goals with_reducible rfl)
              try simp only [Act.put, List.setIfInBounds_toArray, List.set_cons_zero, List.set_cons_succ]
              refine wpAnyH_ready (rs := [10]) (by kernel_rfl) (by simp) ?_
              refine AllReadyH.cons (o := _) (by simp only [List.getElem?_toArray, List.getElem?_cons_succ, List.getElem?_cons_zero] <;> exact rfl) (fun K hK => ?_) ?_
              focus (
                refine step_store_blk rfl 28 (.tmp 10) (.tmp 30) rfl u (RV.F.cs A RV.l.length c) #[.int .u8 0, .int .u8 0, .int .i64 0, .string ⟨#[]⟩, .int .i64 0, .int .i64 0, .bool false, .int .u8 0, .int .u32 0, .int .i64 0, .int .i64 0, .slice none 0 0] 28 rfl rfl KU fr_sz rfl (Fr.cs_one _ _ _ _) ?_
                have hS := hS.row_other (hS.ne_ KU (by decide)) (RV.F.cs A RV.l.length c)
                have KV := KV.row_other (KV.ne_ KU (by decide)) (RV.F.cs A RV.l.length c)
                have PV := PV.farRow KU (fr_no16' Fr.zero none 0 0) (RV.F.cs A RV.l.length c)
                have BB := below_setRow BB HUB.out (RV.F.cs A RV.l.length c)
                have KU := KU.row (RV.F.cs A RV.l.length c)
                refine hK.out _ _ hS (fun _ => ?_)
                clear hK K
                try simp only [Act.put]
                refine wpAnyH_ready (rs := [11]) (by kernel_rfl) (by simp) ?_
                refine AllReadyH.cons (o := _) (by simp only [List.getElem?_toArray, List.getElem?_cons_succ, List.getElem?_cons_zero] <;> exact rfl) (fun K hK => ?_) ?_
                focus (
                  refine step_store_blk rfl 31 (.tmp 11) (.tmp 31) rfl v #[.int .u32 RV.code, .int .i64 RV.st] #[.int .u32 0, .int .i64 0] 31 rfl rfl KV fa_size rfl (fa_one _ _ rfl rfl) ?_
                  have hS := hS.row_other (hS.ne_ KV (by decide)) #[.int .u32 RV.code, .int .i64 RV.st]
                  have KU := KU.row_other (KU.ne_ KV (by decide)) #[.int .u32 RV.code, .int .i64 RV.st]
                  have PV := PV.farRow KV (by intro i x; match i with | 0 | 1 => simp | k + 2 => simp) #[.int .u32 RV.code, .int .i64 RV.st]
                  have BB := below_setRow BB HVB.out #[.int .u32 RV.code, .int .i64 RV.st]
                  have KV := KV.row #[.int .u32 RV.code, .int .i64 RV.st]
                  refine hK.out _ _ hS (fun _ => ?_)
                  clear hK K
                  try simp only [Act.put]
                  refine wpAnyH_done (by kernel_rfl) ?_ _
                  refine NoPanic.normal ?_
                  go_wp2_with fail
                  go_meet
                  exact ⟨u, v, A, c, rfl, rfl, hS, KU, KV, PV, BB⟩)
                exact AllReadyH.nil)
              exact AllReadyH.nil)
            exact AllReadyH.nil)
          exact AllReadyH.nil)
        refine AllReadyH.cons (o := _) (by simp only [List.getElem?_toArray, List.getElem?_cons_succ, List.getElem?_cons_zero] <;> exact rfl) (fun K hK => ?_) ?_
        focus (
          go_simp
          refine hK.out _ _ (hS.alloc _) (fun _ => ?_)
          have KN := BlkIs.new wk90 28 #[.int .u8 0, .int .u8 0, .int .i64 0, .string ⟨#[]⟩, .int .i64 0, .int .i64 0, .bool false, .int .u8 0, .int .u32 0, .int .i64 0, .int .i64 0, .slice none 0 0]
          obtain ⟨u, hu⟩ : ∃ g, g = wk90.heap.size := ⟨_, rfl⟩
          have HUB := hide (show w.heap.size ≤ u by rw [hu]; exact BB.size)
          have hS := hS.alloc (.cells #[.int .u8 0, .int .u8 0, .int .i64 0, .string ⟨#[]⟩, .int .i64 0, .int .i64 0, .bool false, .int .u8 0, .int .u32 0, .int .i64 0, .int .i64 0, .slice none 0 0] 28)
          have BB := BB.alloc BB.size (.cells #[.int .u8 0, .int .u8 0, .int .i64 0, .string ⟨#[]⟩, .int .i64 0, .int .i64 0, .bool false, .int .u8 0, .int .u32 0, .int .i64 0, .int .i64 0, .slice none 0 0] 28)
          have RM := RM.below ((Below.refl _ _).alloc (Nat.le_refl _) (.cells #[.int .u8 0, .int .u8 0, .int .i64 0, .string ⟨#[]⟩, .int .i64 0, .int .i64 0, .bool false, .int .u8 0, .int .u32 0, .int .i64 0, .int .i64 0, .slice none 0 0] 28))
          have KV := KV.alloc (.cells #[.int .u8 0, .int .u8 0, .int .i64 0, .string ⟨#[]⟩, .int .i64 0, .int .i64 0, .bool false, .int .u8 0, .int .u32 0, .int .i64 0, .int .i64 0, .slice none 0 0] 28)
          rw [← hu] at KN ⊢
          generalize wk90.alloc (.cells #[.int .u8 0, .int .u8 0, .int .i64 0, .string ⟨#[]⟩, .int .i64 0, .int .i64 0, .bool false, .int .u8 0, .int .u32 0, .int .i64 0, .int .i64 0, .slice none 0 0] 28) = wk96 at hS BB RM KV KN ⊢
          clear hu
          have KU := KN
          clear KN
          clear hK K
          try simp only [Act.put, List.setIfInBounds_toArray, List.set_cons_zero, List.set_cons_succ]
          refine wpAnyH_ready (rs := [3]) (by kernel_rfl) (by simp) ?_
          refine AllReadyH.cons (o := _) (by simp only [List.getElem?_toArray, List.getElem?_cons_succ, List.getElem?_cons_zero] <;> exact rfl) (fun K hK => ?_) ?_
          focus (
            have s1 := rb_string N RM
            rw [← HZ.out] at s1
            go_simp
            clear s1 RM
            refine hK.out _ _ hS (fun _ => ?_)
            clear hK K
            try simp only [Act.put, List.setIfInBounds_toArray, List.set_cons_zero, List.set_cons_succ]
            refine wpAnyH_ready (rs := [4]) (by kernel_rfl) (by simp) ?_
            refine AllReadyH.cons (o := _) (by simp only [List.getElem?_toArray, List.getElem?_cons_succ, List.getElem?_cons_zero] <;> exact rfl) (fun K hK => ?_) ?_
            focus (
              go_simp
              go_at_call 9
              refine (HRd.out _).mono ?_
              rintro e wk98 ⟨A, c, rfl, PV, hb⟩
              have hS := hS.keep hb
              have BB := BB.trans (hb.mono BB.size)
              have KU := KU.keep hb
              have KV := KV.keep hb
              clear hb
              go_wp2_with fail
              refine hK.out _ _ hS (fun _ => ?_)
              clear hK K
              try simp only [Act.put, List.setIfInBounds_toArray, List.set_cons_zero, List.set_cons_succ]
              refine wpAnyH_take (i := 5) (v := ?_) (by simp only [List.getElem?_toArray, List.getElem?_cons_succ, List.getElem?_cons_zero] <;> exact rfl) (by kernel_rfl) (by kernel_rfl) (by kernel_rfl) (fun _ _ _ h => h) (Or.inl ⟨by rfl, ?_⟩) hS ?_
              rotate_left
              focus (intro w' hw'; go_simp; all_goals with_reducible rfl)
              try simp only [Act.put, List.setIfInBounds_toArray, List.set_cons_zero, List.set_cons_succ]
              refine wpAnyH_take (i := 6) (v := ?_) (by simp only [List.getElem?_toArray, List.getElem?_cons_succ, List.getElem?_cons_zero] <;> exact rfl) (by kernel_rfl) (by kernel_rfl) (by kernel_rfl) (fun _ _ _ h => h) (Or.inl ⟨by rfl, ?_⟩) hS ?_
              rotate_left
              focus (intro w' hw'; go_simp; all_goals with_reducible rfl)
              try simp only [Act.put, List.setIfInBounds_toArray, List.set_cons_zero, List.set_cons_succ]
              refine wpAnyH_take (i := 7) (v := ?_) (by simp only [List.getElem?_toArray, List.getElem?_cons_succ, List.getElem?_cons_zero] <;> exact rfl) (by kernel_rfl) (by kernel_rfl) (by kernel_rfl) (fun _ _ _ h => h) (Or.inl ⟨by rfl, ?_⟩) hS ?_
              rotate_left
              focus (intro w' hw'; go_simp; all_goals with_reducible rfl)
              try simp only [Act.put, List.setIfInBounds_toArray, List.set_cons_zero, List.set_cons_succ]
              refine wpAnyH_ready (rs := [10]) (by kernel_rfl) (by simp) ?_
              refine AllReadyH.cons (o := _) (by simp only [List.getElem?_toArray, List.getElem?_cons_succ, List.getElem?_cons_zero] <;> exact rfl) (fun K hK => ?_) ?_
              focus (
                refine step_store_blk rfl 28 (.tmp 10) (.tmp 30) rfl u (RV.F.cs A RV.l.length c) #[.int .u8 0, .int .u8 0, .int .i64 0, .string ⟨#[]⟩, .int .i64 0, .int .i64 0, .bool false, .int .u8 0, .int .u32 0, .int .i64 0, .int .i64 0, .slice none 0 0] 28 rfl rfl KU fr_sz rfl (Fr.cs_one _ _ _ _) ?_
                have hS := hS.row_other (hS.ne_ KU (by decide)) (RV.F.cs A RV.l.length c)
                have KV := KV.row_other (KV.ne_ KU (by decide)) (RV.F.cs A RV.l.length c)
                have PV := PV.farRow KU (fr_no16' Fr.zero none 0 0) (RV.F.cs A RV.l.length c)
                have BB := below_setRow BB HUB.out (RV.F.cs A RV.l.length c)
                have KU := KU.row (RV.F.cs A RV.l.length c)
                refine hK.out _ _ hS (fun _ => ?_)
                clear hK K
                try simp only [Act.put]
                refine wpAnyH_ready (rs := [11]) (by kernel_rfl) (by simp) ?_
                refine AllReadyH.cons (o := _) (by simp only [List.getElem?_toArray, List.getElem?_cons_succ, List.getElem?_cons_zero] <;> exact rfl) (fun K hK => ?_) ?_
                focus (
                  refine step_store_blk rfl 31 (.tmp 11) (.tmp 31) rfl v #[.int .u32 RV.code, .int .i64 RV.st] #[.int .u32 0, .int .i64 0] 31 rfl rfl KV fa_size rfl (fa_one _ _ rfl rfl) ?_
                  have hS := hS.row_other (hS.ne_ KV (by decide)) #[.int .u32 RV.code, .int .i64 RV.st]
                  have KU := KU.row_other (KU.ne_ KV (by decide)) #[.int .u32 RV.code, .int .i64 RV.st]
                  have PV := PV.farRow KV (by intro i x; match i with | 0 | 1 => simp | k + 2 => simp) #[.int .u32 RV.code, .int .i64 RV.st]
                  have BB := below_setRow BB HVB.out #[.int .u32 RV.code, .int .i64 RV.st]
                  have KV := KV.row #[.int .u32 RV.code, .int .i64 RV.st]
                  refine hK.out _ _ hS (fun _ => ?_)
                  clear hK K
                  try simp only [Act.put]
                  refine wpAnyH_done (by kernel_rfl) ?_ _
                  refine NoPanic.normal ?_
                  go_wp2_with fail
                  go_meet
                  exact ⟨u, v, A, c, rfl, rfl, hS, KU, KV, PV, BB⟩)
                exact AllReadyH.nil)
              exact AllReadyH.nil)
            exact AllReadyH.nil)
          exact AllReadyH.nil)
        exact AllReadyH.nil)
      exact AllReadyH.nil)
    refine AllReadyH.cons (o := _) (by simp only [List.getElem?_toArray, List.getElem?_cons_succ, List.getElem?_cons_zero] <;> exact rfl) (fun K hK => ?_) ?_
    focus (
      go_simp
      refine hK.out _ _ (hS.alloc _) (fun _ => ?_)
      have KN := BlkIs.new v0 28 #[.int .u8 0, .int .u8 0, .int .i64 0, .string ⟨#[]⟩, .int .i64 0, .int .i64 0, .bool false, .int .u8 0, .int .u32 0, .int .i64 0, .int .i64 0, .slice none 0 0]
      obtain ⟨u, hu⟩ : ∃ g, g = v0.heap.size := ⟨_, rfl⟩
      have HUB := hide (show w.heap.size ≤ u by rw [hu]; exact BB.size)
      have hS := hS.alloc (.cells #[.int .u8 0, .int .u8 0, .int .i64 0, .string ⟨#[]⟩, .int .i64 0, .int .i64 0, .bool false, .int .u8 0, .int .u32 0, .int .i64 0, .int .i64 0, .slice none 0 0] 28)
      have BB := BB.alloc BB.size (.cells #[.int .u8 0, .int .u8 0, .int .i64 0, .string ⟨#[]⟩, .int .i64 0, .int .i64 0, .bool false, .int .u8 0, .int .u32 0, .int .i64 0, .int .i64 0, .slice none 0 0] 28)
      rw [← hu] at KN ⊢
      generalize v0.alloc (.cells #[.int .u8 0, .int .u8 0, .int .i64 0, .string ⟨#[]⟩, .int .i64 0, .int .i64 0, .bool false, .int .u8 0, .int .u32 0, .int .i64 0, .int .i64 0, .slice none 0 0] 28) = wk99 at hS BB KN ⊢
      clear hu
      have KU := KN
      clear KN
      clear hK K
      try simp only [Act.put, List.setIfInBounds_toArray, List.set_cons_zero, List.set_cons_succ]
      refine wpAnyH_ready (rs := [2, 9]) (by kernel_rfl) (by simp) ?_
      refine AllReadyH.cons (o := _) (by simp only [List.getElem?_toArray, List.getElem?_cons_succ, List.getElem?_cons_zero] <;> exact rfl) (fun K hK => ?_) ?_
      focus (
        have hmk := HMK.out wk99
        go_simp
        clear hmk
        refine hK.out _ _ (hS.alloc _) (fun _ => ?_)
        have RN := blk_rb (BlkIs.new wk99 5 (u8s (zs N)).toArray) (n := N) (by simp [zs]) (zs_all N)
        obtain ⟨m, hm⟩ : ∃ g, g = wk99.heap.size := ⟨_, rfl⟩
        have hS := hS.alloc (.cells (u8s (zs N)).toArray 5)
        have BB := BB.alloc BB.size (.cells (u8s (zs N)).toArray 5)
        have KU := KU.alloc (.cells (u8s (zs N)).toArray 5)
        rw [← hm] at RN ⊢
        generalize wk99.alloc (.cells (u8s (zs N)).toArray 5) = wk100 at hS BB KU RN ⊢
        clear hm
        have RM := RN
        clear RN
        clear hK K
        try simp only [Act.put, List.setIfInBounds_toArray, List.set_cons_zero, List.set_cons_succ]
        refine wpAnyH_ready (rs := [3, 9]) (by kernel_rfl) (by simp) ?_
        refine AllReadyH.cons (o := _) (by simp only [List.getElem?_toArray, List.getElem?_cons_succ, List.getElem?_cons_zero] <;> exact rfl) (fun K hK => ?_) ?_
        focus (
          have s1 := rb_string N RM
          rw [← HZ.out] at s1
          go_simp
          clear s1 RM
          refine hK.out _ _ hS (fun _ => ?_)
          clear hK K
          try simp only [Act.put, List.setIfInBounds_toArray, List.set_cons_zero, List.set_cons_succ]
          refine wpAnyH_ready (rs := [4, 9]) (by kernel_rfl) (by simp) ?_
          refine AllReadyH.cons (o := _) (by simp only [List.getElem?_toArray, List.getElem?_cons_succ, List.getElem?_cons_zero] <;> exact rfl) (fun K hK => ?_) ?_
          focus (
            go_simp
            go_at_call 9
            refine (HRd.out _).mono ?_
            rintro e wk102 ⟨A, c, rfl, PV, hb⟩
            have hS := hS.keep hb
            have BB := BB.trans (hb.mono BB.size)
            have KU := KU.keep hb
            clear hb
            go_wp2_with fail
            refine hK.out _ _ hS (fun _ => ?_)
            clear hK K
            try simp only [Act.put, List.setIfInBounds_toArray, List.set_cons_zero, List.set_cons_succ]
            refine wpAnyH_take (i := 5) (v := ?_) (by simp only [List.getElem?_toArray, List.getElem?_cons_succ, List.getElem?_cons_zero] <;> exact rfl) (by kernel_rfl) (by kernel_rfl) (by kernel_rfl) (fun _ _ _ h => h) (Or.inl ⟨by rfl, ?_⟩) hS ?_
            rotate_left
            focus (intro w' hw'; go_simp; all_goals with_reducible rfl)
            try simp only [Act.put, List.setIfInBounds_toArray, List.set_cons_zero, List.set_cons_succ]
            refine wpAnyH_take (i := 6) (v := ?_) (by simp only [List.getElem?_toArray, List.getElem?_cons_succ, List.getElem?_cons_zero] <;> exact rfl) (by kernel_rfl) (by kernel_rfl) (by kernel_rfl) (fun _ _ _ h => h) (Or.inl ⟨by rfl, ?_⟩) hS ?_
            rotate_left
            focus (intro w' hw'; go_simp; all_goals with_reducible rfl)
            try simp only [Act.put, List.setIfInBounds_toArray, List.set_cons_zero, List.set_cons_succ]
            refine wpAnyH_take (i := 7) (v := ?_) (by simp only [List.getElem?_toArray, List.getElem?_cons_succ, List.getElem?_cons_zero] <;> exact rfl) (by kernel_rfl) (by kernel_rfl) (by kernel_rfl) (fun _ _ _ h => h) (Or.inl ⟨by rfl, ?_⟩) hS ?_
            rotate_left
            focus (intro w' hw'; go_simp; all_goals with_reducible rfl)
            try simp only [Act.put, List.setIfInBounds_toArray, List.set_cons_zero, List.set_cons_succ]
            refine wpAnyH_ready (rs := [9]) (by kernel_rfl) (by simp) ?_
            refine AllReadyH.cons (o := _) (by simp only [List.getElem?_toArray, List.getElem?_cons_succ, List.getElem?_cons_zero] <;> exact rfl) (fun K hK => ?_) ?_
            focus (
              go_simp
              refine hK.out _ _ (hS.alloc _) (fun _ => ?_)
              have KN := BlkIs.new wk102 31 #[.int .u32 0, .int .i64 0]
              obtain ⟨v, hv⟩ : ∃ g, g = wk102.heap.size := ⟨_, rfl⟩
              have HVB := hide (show w.heap.size ≤ v by rw [hv]; exact BB.size)
              have hS := hS.alloc (.cells #[.int .u32 0, .int .i64 0] 31)
              have BB := BB.alloc BB.size (.cells #[.int .u32 0, .int .i64 0] 31)
              have PV := PV.alloc (.cells #[.int .u32 0, .int .i64 0] 31)
              have KU := KU.alloc (.cells #[.int .u32 0, .int .i64 0] 31)
              rw [← hv] at KN ⊢
              generalize wk102.alloc (.cells #[.int .u32 0, .int .i64 0] 31) = wk103 at hS BB PV KU KN ⊢
              clear hv
              have KV := KN
              clear KN
              clear hK K
              try simp only [Act.put, List.setIfInBounds_toArray, List.set_cons_zero, List.set_cons_succ]
              refine wpAnyH_ready (rs := [10]) (by kernel_rfl) (by simp) ?_
              refine AllReadyH.cons (o := _) (by simp only [List.getElem?_toArray, List.getElem?_cons_succ, List.getElem?_cons_zero] <;> exact rfl) (fun K hK => ?_) ?_
              focus (
                refine step_store_blk rfl 28 (.tmp 10) (.tmp 30) rfl u (RV.F.cs A RV.l.length c) #[.int .u8 0, .int .u8 0, .int .i64 0, .string ⟨#[]⟩, .int .i64 0, .int .i64 0, .bool false, .int .u8 0, .int .u32 0, .int .i64 0, .int .i64 0, .slice none 0 0] 28 rfl rfl KU fr_sz rfl (Fr.cs_one _ _ _ _) ?_
                have hS := hS.row_other (hS.ne_ KU (by decide)) (RV.F.cs A RV.l.length c)
                have KV := KV.row_other (KV.ne_ KU (by decide)) (RV.F.cs A RV.l.length c)
                have PV := PV.farRow KU (fr_no16' Fr.zero none 0 0) (RV.F.cs A RV.l.length c)
                have BB := below_setRow BB HUB.out (RV.F.cs A RV.l.length c)
                have KU := KU.row (RV.F.cs A RV.l.length c)
                refine hK.out _ _ hS (fun _ => ?_)
                clear hK K
                try simp only [Act.put]
                refine wpAnyH_ready (rs := [11]) (by kernel_rfl) (by simp) ?_
                refine AllReadyH.cons (o := _) (by simp only [List.getElem?_toArray, List.getElem?_cons_succ, List.getElem?_cons_zero] <;> exact rfl) (fun K hK => ?_) ?_
                focus (
                  refine step_store_blk rfl 31 (.tmp 11) (.tmp 31) rfl v #[.int .u32 RV.code, .int .i64 RV.st] #[.int .u32 0, .int .i64 0] 31 rfl rfl KV fa_size rfl (fa_one _ _ rfl rfl) ?_
                  have hS := hS.row_other (hS.ne_ KV (by decide)) #[.int .u32 RV.code, .int .i64 RV.st]
                  have KU := KU.row_other (KU.ne_ KV (by decide)) #[.int .u32 RV.code, .int .i64 RV.st]
                  have PV := PV.farRow KV (by intro i x; match i with | 0 | 1 => simp | k + 2 => simp) #[.int .u32 RV.code, .int .i64 RV.st]
                  have BB := below_setRow BB HVB.out #[.int .u32 RV.code, .int .i64 RV.st]
                  have KV := KV.row #[.int .u32 RV.code, .int .i64 RV.st]
                  refine hK.out _ _ hS (fun _ => ?_)
                  clear hK K
                  try simp only [Act.put]
                  refine wpAnyH_done (by kernel_rfl) ?_ _
                  refine NoPanic.normal ?_
                  go_wp2_with fail
                  go_meet
                  exact ⟨u, v, A, c, rfl, rfl, hS, KU, KV, PV, BB⟩)
                exact AllReadyH.nil)
              exact AllReadyH.nil)
            exact AllReadyH.nil)
          refine AllReadyH.cons (o := _) (by simp only [List.getElem?_toArray, List.getElem?_cons_succ, List.getElem?_cons_zero] <;> exact rfl) (fun K hK => ?_) ?_
          focus (
            go_simp
            refine hK.out _ _ (hS.alloc _) (fun _ => ?_)
            have KN := BlkIs.new wk100 31 #[.int .u32 0, .int .i64 0]
            obtain ⟨v, hv⟩ : ∃ g, g = wk100.heap.size := ⟨_, rfl⟩
            have HVB := hide (show w.heap.size ≤ v by rw [hv]; exact BB.size)
            have hS := hS.alloc (.cells #[.int .u32 0, .int .i64 0] 31)
            have BB := BB.alloc BB.size (.cells #[.int .u32 0, .int .i64 0] 31)
            have KU := KU.alloc (.cells #[.int .u32 0, .int .i64 0] 31)
            rw [← hv] at KN ⊢
            generalize wk100.alloc (.cells #[.int .u32 0, .int .i64 0] 31) = wk104 at hS BB KU KN ⊢
            clear hv
            have KV := KN
            clear KN
            clear hK K
            try simp only [Act.put, List.setIfInBounds_toArray, List.set_cons_zero, List.set_cons_succ]
            refine wpAnyH_ready (rs := [4]) (by kernel_rfl) (by simp) ?_
            refine AllReadyH.cons (o := _) (by simp only [List.getElem?_toArray, List.getElem?_cons_succ, List.getElem?_cons_zero] <;> exact rfl) (fun K hK => ?_) ?_
            focus (
              go_simp
              go_at_call 9
              refine (HRd.out _).mono ?_
              rintro e wk105 ⟨A, c, rfl, PV, hb⟩
              have hS := hS.keep hb
              have BB := BB.trans (hb.mono BB.size)
              have KU := KU.keep hb
              have KV := KV.keep hb
              clear hb
              go_wp2_with fail
              refine hK.out _ _ hS (fun _ => ?_)
              clear hK K
              try simp only [Act.put, List.setIfInBounds_toArray, List.set_cons_zero, List.set_cons_succ]
              refine wpAnyH_take (i := 5) (v := ?_) (by simp only [List.getElem?_toArray, List.getElem?_cons_succ, List.getElem?_cons_zero] <;> exact rfl) (by kernel_rfl) (by kernel_rfl) (by kernel_rfl) (fun _ _ _ h => h) (Or.inl ⟨by rfl, ?_⟩) hS ?_
              rotate_left
              focus (intro w' hw'; go_simp; all_goals with_reducible rfl)
              try simp only [Act.put, List.setIfInBounds_toArray, List.set_cons_zero, List.set_cons_succ]
              refine wpAnyH_take (i := 6) (v := ?_) (by simp only [List.getElem?_toArray, List.getElem?_cons_succ, List.getElem?_cons_zero] <;> exact rfl) (by kernel_rfl) (by kernel_rfl) (by kernel_rfl) (fun _ _ _ h => h) (Or.inl ⟨by rfl, ?_⟩) hS ?_
              rotate_left
              focus (intro w' hw'; go_simp; all_goals with_reducible rfl)
              try simp only [Act.put, List.setIfInBounds_toArray, List.set_cons_zero, List.set_cons_succ]
              refine wpAnyH_take (i := 7) (v := ?_) (by simp only [List.getElem?_toArray, List.getElem?_cons_succ, List.getElem?_cons_zero] <;> exact rfl) (by kernel_rfl) (by kernel_rfl) (by kernel_rfl) (fun _ _ _ h => h) (Or.inl ⟨by rfl, ?_⟩) hS ?_
              rotate_left
              focus (intro w' hw'; go_simp; all_goals with_reducible rfl)
              try simp only [Act.put, List.setIfInBounds_toArray, List.set_cons_zero, List.set_cons_succ]
              refine wpAnyH_ready (rs := [10]) (by kernel_rfl) (by simp) ?_
              refine AllReadyH.cons (o := _) (by simp only [List.getElem?_toArray, List.getElem?_cons_succ, List.getElem?_cons_zero] <;> exact rfl) (fun K hK => ?_) ?_
              focus (
                refine step_store_blk rfl 28 (.tmp 10) (.tmp 30) rfl u (RV.F.cs A RV.l.length c) #[.int .u8 0, .int .u8 0, .int .i64 0, .string ⟨#[]⟩, .int .i64 0, .int .i64 0, .bool false, .int .u8 0, .int .u32 0, .int .i64 0, .int .i64 0, .slice none 0 0] 28 rfl rfl KU fr_sz rfl (Fr.cs_one _ _ _ _) ?_
                have hS := hS.row_other (hS.ne_ KU (by decide)) (RV.F.cs A RV.l.length c)
                have KV := KV.row_other (KV.ne_ KU (by decide)) (RV.F.cs A RV.l.length c)
                have PV := PV.farRow KU (fr_no16' Fr.zero none 0 0) (RV.F.cs A RV.l.length c)
                have BB := below_setRow BB HUB.out (RV.F.cs A RV.l.length c)
                have KU := KU.row (RV.F.cs A RV.l.length c)
                refine hK.out _ _ hS (fun _ => ?_)
                clear hK K
                try simp only [Act.put]
                refine wpAnyH_ready (rs := [11]) (by kernel_rfl) (by simp) ?_
                refine AllReadyH.cons (o := _) (by simp only [List.getElem?_toArray, List.getElem?_cons_succ, List.getElem?_cons_zero] <;> exact rfl) (fun K hK => ?_) ?_
                focus (
                  refine step_store_blk rfl 31 (.tmp 11) (.tmp 31) rfl v #[.int .u32 RV.code, .int .i64 RV.st] #[.int .u32 0, .int .i64 0] 31 rfl rfl KV fa_size rfl (fa_one _ _ rfl rfl) ?_
                  have hS := hS.row_other (hS.ne_ KV (by decide)) #[.int .u32 RV.code, .int .i64 RV.st]
                  have KU := KU.row_other (KU.ne_ KV (by decide)) #[.int .u32 RV.code, .int .i64 RV.st]
                  have PV := PV.farRow KV (by intro i x; match i with | 0 | 1 => simp | k + 2 => simp) #[.int .u32 RV.code, .int .i64 RV.st]
                  have BB := below_setRow BB HVB.out #[.int .u32 RV.code, .int .i64 RV.st]
                  have KV := KV.row #[.int .u32 RV.code, .int .i64 RV.st]
                  refine hK.out _ _ hS (fun _ => ?_)
                  clear hK K
                  try simp only [Act.put]
                  refine wpAnyH_done (by kernel_rfl) ?_ _
                  refine NoPanic.normal ?_
                  go_wp2_with fail
                  go_meet
                  exact ⟨u, v, A, c, rfl, rfl, hS, KU, KV, PV, BB⟩)
                exact AllReadyH.nil)
              exact AllReadyH.nil)
            exact AllReadyH.nil)
          exact AllReadyH.nil)
        refine AllReadyH.cons (o := _) (by simp only [List.getElem?_toArray, List.getElem?_cons_succ, List.getElem?_cons_zero] <;> exact rfl) (fun K hK => ?_) ?_
        focus (
          go_simp
          refine hK.out _ _ (hS.alloc _) (fun _ => ?_)
          have KN := BlkIs.new wk100 31 #[.int .u32 0, .int .i64 0]
          obtain ⟨v, hv⟩ : ∃ g, g = wk100.heap.size := ⟨_, rfl⟩
          have HVB := hide (show w.heap.size ≤ v by rw [hv]; exact BB.size)
          have hS := hS.alloc (.cells #[.int .u32 0, .int .i64 0] 31)
          have BB := BB.alloc BB.size (.cells #[.int .u32 0, .int .i64 0] 31)
          have RM := RM.below ((Below.refl _ _).alloc (Nat.le_refl _) (.cells #[.int .u32 0, .int .i64 0] 31))
          have KU := KU.alloc (.cells #[.int .u32 0, .int .i64 0] 31)
          rw [← hv] at KN ⊢
          generalize wk100.alloc (.cells #[.int .u32 0, .int .i64 0] 31) = wk106 at hS BB RM KU KN ⊢
          clear hv
          have KV := KN
          clear KN
          clear hK K
          try simp only [Act.put, List.setIfInBounds_toArray, List.set_cons_zero, List.set_cons_succ]
          refine wpAnyH_ready (rs := [3]) (by kernel_rfl) (by simp) ?_
          refine AllReadyH.cons (o := _) (by simp only [List.getElem?_toArray, List.getElem?_cons_succ, List.getElem?_cons_zero] <;> exact rfl) (fun K hK => ?_) ?_
          focus (
            have s1 := rb_string N RM
            rw [← HZ.out] at s1
            go_simp
            clear s1 RM
            refine hK.out _ _ hS (fun _ => ?_)
            clear hK K
            try simp only [Act.put, List.setIfInBounds_toArray, List.set_cons_zero, List.set_cons_succ]
            refine wpAnyH_ready (rs := [4]) (by kernel_rfl) (by simp) ?_
            refine AllReadyH.cons (o := _) (by simp only [List.getElem?_toArray, List.getElem?_cons_succ, List.getElem?_cons_zero] <;> exact rfl) (fun K hK => ?_) ?_
            focus (
              go_simp
              go_at_call 9
              refine (HRd.out _).mono ?_
              rintro e wk108 ⟨A, c, rfl, PV, hb⟩
              have hS := hS.keep hb
              have BB := BB.trans (hb.mono BB.size)
              have KU := KU.keep hb
              have KV := KV.keep hb
              clear hb
              go_wp2_with fail
              refine hK.out _ _ hS (fun _ => ?_)
              clear hK K
              try simp only [Act.put, List.setIfInBounds_toArray, List.set_cons_zero, List.set_cons_succ]
              refine wpAnyH_take (i := 5) (v := ?_) (by simp only [List.getElem?_toArray, List.getElem?_cons_succ, List.getElem?_cons_zero] <;> exact rfl) (by kernel_rfl) (by kernel_rfl) (by kernel_rfl) (fun _ _ _ h => h) (Or.inl ⟨by rfl, ?_⟩) hS ?_
              rotate_left
              focus (intro w' hw'; go_simp; all_goals with_reducible rfl)
              try simp only [Act.put, List.setIfInBounds_toArray, List.set_cons_zero, List.set_cons_succ]
              refine wpAnyH_take (i := 6) (v := ?_) (by simp only [List.getElem?_toArray, List.getElem?_cons_succ, List.getElem?_cons_zero] <;> exact rfl) (by kernel_rfl) (by kernel_rfl) (by kernel_rfl) (fun _ _ _ h => h) (Or.inl ⟨by rfl, ?_⟩) hS ?_
              rotate_left
              focus (intro w' hw'; go_simp; all_goals with_reducible rfl)
              try simp only [Act.put, List.setIfInBounds_toArray, List.set_cons_zero, List.set_cons_succ]
              refine wpAnyH_take (i := 7) (v := ?_) (by simp only [List.getElem?_toArray, List.getElem?_cons_succ, List.getElem?_cons_zero] <;> exact rfl) (by kernel_rfl) (by kernel_rfl) (by kernel_rfl) (fun _ _ _ h => h) (Or.inl ⟨by rfl, ?_⟩) hS ?_
              rotate_left
              focus (intro w' hw'; go_simp; all_goals with_reducible rfl)
              try simp only [Act.put, List.setIfInBounds_toArray, List.set_cons_zero, List.set_cons_succ]
              refine wpAnyH_ready (rs := [10]) (by kernel_rfl) (by simp) ?_
              refine AllReadyH.cons (o := _) (by simp only [List.getElem?_toArray, List.getElem?_cons_succ, List.getElem?_cons_zero] <;> exact rfl) (fun K hK => ?_) ?_
              focus (
                refine step_store_blk rfl 28 (.tmp 10) (.tmp 30) rfl u (RV.F.cs A RV.l.length c) #[.int .u8 0, .int .u8 0, .int .i64 0, .string ⟨#[]⟩, .int .i64 0, .int .i64 0, .bool false, .int .u8 0, .int .u32 0, .int .i64 0, .int .i64 0, .slice none 0 0] 28 rfl rfl KU fr_sz rfl (Fr.cs_one _ _ _ _) ?_
                have hS := hS.row_other (hS.ne_ KU (by decide)) (RV.F.cs A RV.l.length c)
                have KV := KV.row_other (KV.ne_ KU (by decide)) (RV.F.cs A RV.l.length c)
                have PV := PV.farRow KU (fr_no16' Fr.zero none 0 0) (RV.F.cs A RV.l.length c)
                have BB := below_setRow BB HUB.out (RV.F.cs A RV.l.length c)
                have KU := KU.row (RV.F.cs A RV.l.length c)
                refine hK.out _ _ hS (fun _ => ?_)
                clear hK K
                try simp only [Act.put]
                refine wpAnyH_ready (rs := [11]) (by kernel_rfl) (by simp) ?_
                refine AllReadyH.cons (o := _) (by simp only [List.getElem?_toArray, List.getElem?_cons_succ, List.getElem?_cons_zero] <;> exact rfl) (fun K hK => ?_) ?_
                focus (
                  refine step_store_blk rfl 31 (.tmp 11) (.tmp 31) rfl v #[.int .u32 RV.code, .int .i64 RV.st] #[.int .u32 0, .int .i64 0] 31 rfl rfl KV fa_size rfl (fa_one _ _ rfl rfl) ?_
                  have hS := hS.row_other (hS.ne_ KV (by decide)) #[.int .u32 RV.code, .int .i64 RV.st]
                  have KU := KU.row_other (KU.ne_ KV (by decide)) #[.int .u32 RV.code, .int .i64 RV.st]
                  have PV := PV.farRow KV (by intro i x; match i with | 0 | 1 => simp | k + 2 => simp) #[.int .u32 RV.code, .int .i64 RV.st]
                  have BB := below_setRow BB HVB.out #[.int .u32 RV.code, .int .i64 RV.st]
                  have KV := KV.row #[.int .u32 RV.code, .int .i64 RV.st]
                  refine hK.out _ _ hS (fun _ => ?_)
                  clear hK K
                  try simp only [Act.put]
                  refine wpAnyH_done (by kernel_rfl) ?_ _
                  refine NoPanic.normal ?_
                  go_wp2_with fail
                  go_meet
                  exact ⟨u, v, A, c, rfl, rfl, hS, KU, KV, PV, BB⟩)
                exact AllReadyH.nil)
              exact AllReadyH.nil)
            exact AllReadyH.nil)
          exact AllReadyH.nil)
        exact AllReadyH.nil)
      refine AllReadyH.cons (o := _) (by simp only [List.getElem?_toArray, List.getElem?_cons_succ, List.getElem?_cons_zero] <;> exact rfl) (fun K hK => ?_) ?_
      focus (
        go_simp
        refine hK.out _ _ (hS.alloc _) (fun _ => ?_)
        have KN := BlkIs.new wk99 31 #[.int .u32 0, .int .i64 0]
        obtain ⟨v, hv⟩ : ∃ g, g = wk99.heap.size := ⟨_, rfl⟩
        have HVB := hide (show w.heap.size ≤ v by rw [hv]; exact BB.size)
        have hS := hS.alloc (.cells #[.int .u32 0, .int .i64 0] 31)
        have BB := BB.alloc BB.size (.cells #[.int .u32 0, .int .i64 0] 31)
        have KU := KU.alloc (.cells #[.int .u32 0, .int .i64 0] 31)
        rw [← hv] at KN ⊢
        generalize wk99.alloc (.cells #[.int .u32 0, .int .i64 0] 31) = wk109 at hS BB KU KN ⊢
        clear hv
        have KV := KN
        clear KN
        clear hK K
        try simp only [Act.put, List.setIfInBounds_toArray, List.set_cons_zero, List.set_cons_succ]
        refine wpAnyH_ready (rs := [2]) (by kernel_rfl) (by simp) ?_
        refine AllReadyH.cons (o := _) (by simp only [List.getElem?_toArray, List.getElem?_cons_succ, List.getElem?_cons_zero] <;> exact rfl) (fun K hK => ?_) ?_
        focus (
          have hmk := HMK.out wk109
          go_simp
          clear hmk
          refine hK.out _ _ (hS.alloc _) (fun _ => ?_)
          have RN := blk_rb (BlkIs.new wk109 5 (u8s (zs N)).toArray) (n := N) (by simp [zs]) (zs_all N)
          obtain ⟨m, hm⟩ : ∃ g, g = wk109.heap.size := ⟨_, rfl⟩
          have hS := hS.alloc (.cells (u8s (zs N)).toArray 5)
          have BB := BB.alloc BB.size (.cells (u8s (zs N)).toArray 5)
          have KU := KU.alloc (.cells (u8s (zs N)).toArray 5)
          have KV := KV.alloc (.cells (u8s (zs N)).toArray 5)
          rw [← hm] at RN ⊢
          generalize wk109.alloc (.cells (u8s (zs N)).toArray 5) = wk110 at hS BB KU KV RN ⊢
          clear hm
          have RM := RN
          clear RN
          clear hK K
          try simp only [Act.put, List.setIfInBounds_toArray, List.set_cons_zero, List.set_cons_succ]
          refine wpAnyH_ready (rs := [3]) (by kernel_rfl) (by simp) ?_
          refine AllReadyH.cons (o := _) (by simp only [List.getElem?_toArray, List.getElem?_cons_succ, List.getElem?_cons_zero] <;> exact rfl) (fun K hK => ?_) ?_
          focus (
            have s1 := rb_string N RM
            rw [← HZ.out] at s1
            go_simp
            clear s1 RM
            refine hK.out _ _ hS (fun _ => ?_)
            clear hK K
            try simp only [Act.put, List.setIfInBounds_toArray, List.set_cons_zero, List.set_cons_succ]
            refine wpAnyH_ready (rs := [4]) (by kernel_rfl) (by simp) ?_
            refine AllReadyH.cons (o := _) (by simp only [List.getElem?_toArray, List.getElem?_cons_succ, List.getElem?_cons_zero] <;> exact rfl) (fun K hK => ?_) ?_
            focus (
              go_simp
              go_at_call 9
              refine (HRd.out _).mono ?_
              rintro e wk112 ⟨A, c, rfl, PV, hb⟩
              have hS := hS.keep hb
              have BB := BB.trans (hb.mono BB.size)
              have KU := KU.keep hb
              have KV := KV.keep hb
              clear hb
              go_wp2_with fail
              refine hK.out _ _ hS (fun _ => ?_)
              clear hK K
              try simp only [Act.put, List.setIfInBounds_toArray, List.set_cons_zero, List.set_cons_succ]
              refine wpAnyH_take (i := 5) (v := ?_) (by simp only [List.getElem?_toArray, List.getElem?_cons_succ, List.getElem?_cons_zero] <;> exact rfl) (by kernel_rfl) (by kernel_rfl) (by kernel_rfl) (fun _ _ _ h => h) (Or.inl ⟨by rfl, ?_⟩) hS ?_
              rotate_left
              focus (intro w' hw'; go_simp; all_goals with_reducible rfl)
              try simp only [Act.put, List.setIfInBounds_toArray, List.set_cons_zero, List.set_cons_succ]
              refine wpAnyH_take (i := 6) (v := ?_) (by simp only [List.getElem?_toArray, List.getElem?_cons_succ, List.getElem?_cons_zero] <;> exact rfl) (by kernel_rfl) (by kernel_rfl) (by kernel_rfl) (fun _ _ _ h => h) (Or.inl ⟨by rfl, ?_⟩) hS ?_
              rotate_left
              focus (intro w' hw'; go_simp; all_goals with_reducible rfl)
              try simp only [Act.put, List.setIfInBounds_toArray, List.set_cons_zero, List.set_cons_succ]
              refine wpAnyH_take (i := 7) (v := ?_) (by simp only [List.getElem?_toArray, List.getElem?_cons_succ, List.getElem?_cons_zero] <;> exact rfl) (by kernel_rfl) (by kernel_rfl) (by kernel_rfl) (fun _ _ _ h => h) (Or.inl ⟨by rfl, ?_⟩) hS ?_
              rotate_left
              focus (intro w' hw'; go_simp; all_goals with_reducible rfl)
              try simp only [Act.put, List.setIfInBounds_toArray, List.set_cons_zero, List.set_cons_succ]
              refine wpAnyH_ready (rs := [10]) (by kernel_rfl) (by simp) ?_
              refine AllReadyH.cons (o := _) (by simp only [List.getElem?_toArray, List.getElem?_cons_succ, List.getElem?_cons_zero] <;> exact rfl) (fun K hK => ?_) ?_
              focus (
                refine step_store_blk rfl 28 (.tmp 10) (.tmp 30) rfl u (RV.F.cs A RV.l.length c) #[.int .u8 0, .int .u8 0, .int .i64 0, .string ⟨#[]⟩, .int .i64 0, .int .i64 0, .bool false, .int .u8 0, .int .u32 0, .int .i64 0, .int .i64 0, .slice none 0 0] 28 rfl rfl KU fr_sz rfl (Fr.cs_one _ _ _ _) ?_
                have hS := hS.row_other (hS.ne_ KU (by decide)) (RV.F.cs A RV.l.length c)
                have KV := KV.row_other (KV.ne_ KU (by decide)) (RV.F.cs A RV.l.length c)
                have PV := PV.farRow KU (fr_no16' Fr.zero none 0 0) (RV.F.cs A RV.l.length c)
                have BB := below_setRow BB HUB.out (RV.F.cs A RV.l.length c)
                have KU := KU.row (RV.F.cs A RV.l.length c)
                refine hK.out _ _ hS (fun _ => ?_)
                clear hK K
                try simp only [Act.put]
                refine wpAnyH_ready (rs := [11]) (by kernel_rfl) (by simp) ?_
                refine AllReadyH.cons (o := _) (by simp only [List.getElem?_toArray, List.getElem?_cons_succ, List.getElem?_cons_zero] <;> exact rfl) (fun K hK => ?_) ?_
                focus (
                  refine step_store_blk rfl 31 (.tmp 11) (.tmp 31) rfl v #[.int .u32 RV.code, .int .i64 RV.st] #[.int .u32 0, .int .i64 0] 31 rfl rfl KV fa_size rfl (fa_one _ _ rfl rfl) ?_
                  have hS := hS.row_other (hS.ne_ KV (by decide)) #[.int .u32 RV.code, .int .i64 RV.st]
                  have KU := KU.row_other (KU.ne_ KV (by decide)) #[.int .u32 RV.code, .int .i64 RV.st]
                  have PV := PV.farRow KV (by intro i x; match i with | 0 | 1 => simp | k + 2 => simp) #[.int .u32 RV.code, .int .i64 RV.st]
                  have BB := below_setRow BB HVB.out #[.int .u32 RV.code, .int .i64 RV.st]
                  have KV := KV.row #[.int .u32 RV.code, .int .i64 RV.st]
                  refine hK.out _ _ hS (fun _ => ?_)
                  clear hK K
                  try simp only [Act.put]
                  refine wpAnyH_done (by kernel_rfl) ?_ _
                  refine NoPanic.normal ?_
                  go_wp2_with fail
                  go_meet
                  exact ⟨u, v, A, c, rfl, rfl, hS, KU, KV, PV, BB⟩)
                exact AllReadyH.nil)
              exact AllReadyH.nil)
            exact AllReadyH.nil)
          exact AllReadyH.nil)
        exact AllReadyH.nil)
      exact AllReadyH.nil)
    refine AllReadyH.cons (o := _) (by simp only [List.getElem?_toArray, List.getElem?_cons_succ, List.getElem?_cons_zero] <;> exact rfl) (fun K hK => ?_) ?_
    focus (
      go_simp
      refine hK.out _ _ (hS.alloc _) (fun _ => ?_)
      have KN := BlkIs.new v0 31 #[.int .u32 0, .int .i64 0]
      obtain ⟨v, hv⟩ : ∃ g, g = v0.heap.size := ⟨_, rfl⟩
      have HVB := hide (show w.heap.size ≤ v by rw [hv]; exact BB.size)
      have hS := hS.alloc (.cells #[.int .u32 0, .int .i64 0] 31)
      have BB := BB.alloc BB.size (.cells #[.int .u32 0, .int .i64 0] 31)
      rw [← hv] at KN ⊢
      generalize v0.alloc (.cells #[.int .u32 0, .int .i64 0] 31) = wk113 at hS BB KN ⊢
      clear hv
      have KV := KN
      clear KN
      clear hK K
      try simp only [Act.put, List.setIfInBounds_toArray, List.set_cons_zero, List.set_cons_succ]
      refine wpAnyH_ready (rs := [2, 8]) (by kernel_rfl) (by simp) ?_
      refine AllReadyH.cons (o := _) (by simp only [List.getElem?_toArray, List.getElem?_cons_succ, List.getElem?_cons_zero] <;> exact rfl) (fun K hK => ?_) ?_
      focus (
        have hmk := HMK.out wk113
        go_simp
        clear hmk
        refine hK.out _ _ (hS.alloc _) (fun _ => ?_)
        have RN := blk_rb (BlkIs.new wk113 5 (u8s (zs N)).toArray) (n := N) (by simp [zs]) (zs_all N)
        obtain ⟨m, hm⟩ : ∃ g, g = wk113.heap.size := ⟨_, rfl⟩
        have hS := hS.alloc (.cells (u8s (zs N)).toArray 5)
        have BB := BB.alloc BB.size (.cells (u8s (zs N)).toArray 5)
        have KV := KV.alloc (.cells (u8s (zs N)).toArray 5)
        rw [← hm] at RN ⊢
        generalize wk113.alloc (.cells (u8s (zs N)).toArray 5) = wk114 at hS BB KV RN ⊢
        clear hm
        have RM := RN
        clear RN
        clear hK K
        try simp only [Act.put, List.setIfInBounds_toArray, List.set_cons_zero, List.set_cons_succ]
        refine wpAnyH_ready (rs := [3, 8]) (by kernel_rfl) (by simp) ?_
        refine AllReadyH.cons (o := _) (by simp only [List.getElem?_toArray, List.getElem?_cons_succ, List.getElem?_cons_zero] <;> exact rfl) (fun K hK => ?_) ?_
        focus (
          have s1 := rb_string N RM
          rw [← HZ.out] at s1
          go_simp
          clear s1 RM
          refine hK.out _ _ hS (fun _ => ?_)
          clear hK K
          try simp only [Act.put, List.setIfInBounds_toArray, List.set_cons_zero, List.set_cons_succ]
          refine wpAnyH_ready (rs := [4, 8]) (by kernel_rfl) (by simp) ?_
          refine AllReadyH.cons (o := _) (by simp only [List.getElem?_toArray, List.getElem?_cons_succ, List.getElem?_cons_zero] <;> exact rfl) (fun K hK => ?_) ?_
          focus (
            go_simp
            go_at_call 9
            refine (HRd.out _).mono ?_
            rintro e wk116 ⟨A, c, rfl, PV, hb⟩
            have hS := hS.keep hb
            have BB := BB.trans (hb.mono BB.size)
            have KV := KV.keep hb
            clear hb
            go_wp2_with fail
            refine hK.out _ _ hS (fun _ => ?_)
            clear hK K
            try simp only [Act.put, List.setIfInBounds_toArray, List.set_cons_zero, List.set_cons_succ]
            refine wpAnyH_take (i := 5) (v := ?_) (by simp only [List.getElem?_toArray, List.getElem?_cons_succ, List.getElem?_cons_zero] <;> exact rfl) (by kernel_rfl) (by kernel_rfl) (by kernel_rfl) (fun _ _ _ h => h) (Or.inl ⟨by rfl, ?_⟩) hS ?_
            rotate_left
            focus (intro w' hw'; go_simp; all_goals with_reducible rfl)
            try simp only [Act.put, List.setIfInBounds_toArray, List.set_cons_zero, List.set_cons_succ]
            refine wpAnyH_take (i := 6) (v := ?_) (by simp only [List.getElem?_toArray, List.getElem?_cons_succ, List.getElem?_cons_zero] <;> exact rfl) (by kernel_rfl) (by kernel_rfl) (by kernel_rfl) (fun _ _ _ h => h) (Or.inl ⟨by rfl, ?_⟩) hS ?_
            rotate_left
            focus (intro w' hw'; go_simp; all_goals with_reducible rfl)
            try simp only [Act.put, List.setIfInBounds_toArray, List.set_cons_zero, List.set_cons_succ]
            refine wpAnyH_take (i := 7) (v := ?_) (by simp only [List.getElem?_toArray, List.getElem?_cons_succ, List.getElem?_cons_zero] <;> exact rfl) (by kernel_rfl) (by kernel_rfl) (by kernel_rfl) (fun _ _ _ h => h) (Or.inl ⟨by rfl, ?_⟩) hS ?_
            rotate_left
            focus (intro w' hw'; go_simp; all_goals with_reducible rfl)
            try simp only [Act.put, List.setIfInBounds_toArray, List.set_cons_zero, List.set_cons_succ]
            refine wpAnyH_ready (rs := [8]) (by kernel_rfl) (by simp) ?_
            refine AllReadyH.cons (o := _) (by simp only [List.getElem?_toArray, List.getElem?_cons_succ, List.getElem?_cons_zero] <;> exact rfl) (fun K hK => ?_) ?_
            focus (
              go_simp
              refine hK.out _ _ (hS.alloc _) (fun _ => ?_)
              have KN := BlkIs.new wk116 28 #[.int .u8 0, .int .u8 0, .int .i64 0, .string ⟨#[]⟩, .int .i64 0, .int .i64 0, .bool false, .int .u8 0, .int .u32 0, .int .i64 0, .int .i64 0, .slice none 0 0]
              obtain ⟨u, hu⟩ : ∃ g, g = wk116.heap.size := ⟨_, rfl⟩
              have HUB := hide (show w.heap.size ≤ u by rw [hu]; exact BB.size)
              have hS := hS.alloc (.cells #[.int .u8 0, .int .u8 0, .int .i64 0, .string ⟨#[]⟩, .int .i64 0, .int .i64 0, .bool false, .int .u8 0, .int .u32 0, .int .i64 0, .int .i64 0, .slice none 0 0] 28)
              have BB := BB.alloc BB.size (.cells #[.int .u8 0, .int .u8 0, .int .i64 0, .string ⟨#[]⟩, .int .i64 0, .int .i64 0, .bool false, .int .u8 0, .int .u32 0, .int .i64 0, .int .i64 0, .slice none 0 0] 28)
              have PV := PV.alloc (.cells #[.int .u8 0, .int .u8 0, .int .i64 0, .string ⟨#[]⟩, .int .i64 0, .int .i64 0, .bool false, .int .u8 0, .int .u32 0, .int .i64 0, .int .i64 0, .slice none 0 0] 28)
              have KV := KV.alloc (.cells #[.int .u8 0, .int .u8 0, .int .i64 0, .string ⟨#[]⟩, .int .i64 0, .int .i64 0, .bool false, .int .u8 0, .int .u32 0, .int .i64 0, .int .i64 0, .slice none 0 0] 28)
              rw [← hu] at KN ⊢
              generalize wk116.alloc (.cells #[.int .u8 0, .int .u8 0, .int .i64 0, .string ⟨#[]⟩, .int .i64 0, .int .i64 0, .bool false, .int .u8 0, .int .u32 0, .int .i64 0, .int .i64 0, .slice none 0 0] 28) = wk117 at hS BB PV KV KN ⊢
              clear hu
              have KU := KN
              clear KN
              clear hK K
              try simp only [Act.put, List.setIfInBounds_toArray, List.set_cons_zero, List.set_cons_succ]
              refine wpAnyH_ready (rs := [10]) (by kernel_rfl) (by simp) ?_
              refine AllReadyH.cons (o := _) (by simp only [List.getElem?_toArray, List.getElem?_cons_succ, List.getElem?_cons_zero] <;> exact rfl) (fun K hK => ?_) ?_
              focus (
                refine step_store_blk rfl 28 (.tmp 10) (.tmp 30) rfl u (RV.F.cs A RV.l.length c) #[.int .u8 0, .int .u8 0, .int .i64 0, .string ⟨#[]⟩, .int .i64 0, .int .i64 0, .bool false, .int .u8 0, .int .u32 0, .int .i64 0, .int .i64 0, .slice none 0 0] 28 rfl rfl KU fr_sz rfl (Fr.cs_one _ _ _ _) ?_
                have hS := hS.row_other (hS.ne_ KU (by decide)) (RV.F.cs A RV.l.length c)
                have KV := KV.row_other (KV.ne_ KU (by decide)) (RV.F.cs A RV.l.length c)
                have PV := PV.farRow KU (fr_no16' Fr.zero none 0 0) (RV.F.cs A RV.l.length c)
                have BB := below_setRow BB HUB.out (RV.F.cs A RV.l.length c)
                have KU := KU.row (RV.F.cs A RV.l.length c)
                refine hK.out _ _ hS (fun _ => ?_)
                clear hK K
                try simp only [Act.put]
                refine wpAnyH_ready (rs := [11]) (by kernel_rfl) (by simp) ?_
                refine AllReadyH.cons (o := _) (by simp only [List.getElem?_toArray, List.getElem?_cons_succ, List.getElem?_cons_zero] <;> exact rfl) (fun K hK => ?_) ?_
                focus (
                  refine step_store_blk rfl 31 (.tmp 11) (.tmp 31) rfl v #[.int .u32 RV.code, .int .i64 RV.st] #[.int .u32 0, .int .i64 0] 31 rfl rfl KV fa_size rfl (fa_one _ _ rfl rfl) ?_
                  have hS := hS.row_other (hS.ne_ KV (by decide)) #[.int .u32 RV.code, .int .i64 RV.st]
                  have KU := KU.row_other (KU.ne_ KV (by decide)) #[.int .u32 RV.code, .int .i64 RV.st]
                  have PV := PV.farRow KV (by intro i x; match i with | 0 | 1 => simp | k + 2 => simp) #[.int .u32 RV.code, .int .i64 RV.st]
                  have BB := below_setRow BB HVB.out #[.int .u32 RV.code, .int .i64 RV.st]
                  have KV := KV.row #[.int .u32 RV.code, .int .i64 RV.st]
                  refine hK.out _ _ hS (fun _ => ?_)
                  clear hK K
                  try simp only [Act.put]
                  refine wpAnyH_done (by kernel_rfl) ?_ _
                  refine NoPanic.normal ?_
                  go_wp2_with fail
                  go_meet
                  exact ⟨u, v, A, c, rfl, rfl, hS, KU, KV, PV, BB⟩)
                exact AllReadyH.nil)
              exact AllReadyH.nil)
            exact AllReadyH.nil)
          refine AllReadyH.cons (o := _) (by simp only [List.getElem?_toArray, List.getElem?_cons_succ, List.getElem?_cons_zero] <;> exact rfl) (fun K hK => ?_) ?_
          focus (
            go_simp
            refine hK.out _ _ (hS.alloc _) (fun _ => ?_)
            have KN := BlkIs.new wk114 28 #[.int .u8 0, .int .u8 0, .int .i64 0, .string ⟨#[]⟩, .int .i64 0, .int .i64 0, .bool false, .int .u8 0, .int .u32 0, .int .i64 0, .int .i64 0, .slice none 0 0]
            obtain ⟨u, hu⟩ : ∃ g, g = wk114.heap.size := ⟨_, rfl⟩
            have HUB := hide (show w.heap.size ≤ u by rw [hu]; exact BB.size)
            have hS := hS.alloc (.cells #[.int .u8 0, .int .u8 0, .int .i64 0, .string ⟨#[]⟩, .int .i64 0, .int .i64 0, .bool false, .int .u8 0, .int .u32 0, .int .i64 0, .int .i64 0, .slice none 0 0] 28)
            have BB := BB.alloc BB.size (.cells #[.int .u8 0, .int .u8 0, .int .i64 0, .string ⟨#[]⟩, .int .i64 0, .int .i64 0, .bool false, .int .u8 0, .int .u32 0, .int .i64 0, .int .i64 0, .slice none 0 0] 28)
            have KV := KV.alloc (.cells #[.int .u8 0, .int .u8 0, .int .i64 0, .string ⟨#[]⟩, .int .i64 0, .int .i64 0, .bool false, .int .u8 0, .int .u32 0, .int .i64 0, .int .i64 0, .slice none 0 0] 28)
            rw [← hu] at KN ⊢
            generalize wk114.alloc (.cells #[.int .u8 0, .int .u8 0, .int .i64 0, .string ⟨#[]⟩, .int .i64 0, .int .i64 0, .bool false, .int .u8 0, .int .u32 0, .int .i64 0, .int .i64 0, .slice none 0 0] 28) = wk118 at hS BB KV KN ⊢
            clear hu
            have KU := KN
            clear KN
            clear hK K
            try simp only [Act.put, List.setIfInBounds_toArray, List.set_cons_zero, List.set_cons_succ]
            refine wpAnyH_ready (rs := [4]) (by kernel_rfl) (by simp) ?_
            refine AllReadyH.cons (o := _) (by simp only [List.getElem?_toArray, List.getElem?_cons_succ, List.getElem?_cons_zero] <;> exact rfl) (fun K hK => ?_) ?_
            focus (
              go_simp
              go_at_call 9
              refine (HRd.out _).mono ?_
              rintro e wk119 ⟨A, c, rfl, PV, hb⟩
              have hS := hS.keep hb
              have BB := BB.trans (hb.mono BB.size)
              have KU := KU.keep hb
              have KV := KV.keep hb
              clear hb
              go_wp2_with fail
              refine hK.out _ _ hS (fun _ => ?_)
              clear hK K
              try simp only [Act.put, List.setIfInBounds_toArray, List.set_cons_zero, List.set_cons_succ]
              refine wpAnyH_take (i := 5) (v := ?_) (by simp only [List.getElem?_toArray, List.getElem?_cons_succ, List.getElem?_cons_zero] <;> exact rfl) (by kernel_rfl) (by kernel_rfl) (by kernel_rfl) (fun _ _ _ h => h) (Or.inl ⟨by rfl, ?_⟩) hS ?_
              rotate_left
              focus (intro w' hw'; go_simp; all_goals with_reducible rfl)
              try simp only [Act.put, List.setIfInBounds_toArray, List.set_cons_zero, List.set_cons_succ]
              refine wpAnyH_take (i := 6) (v := ?_) (by simp only [List.getElem?_toArray, List.getElem?_cons_succ, List.getElem?_cons_zero] <;> exact rfl) (by kernel_rfl) (by kernel_rfl) (by kernel_rfl) (fun _ _ _ h => h) (Or.inl ⟨by rfl, ?_⟩) hS ?_
              rotate_left
              focus (intro w' hw'; go_simp; all_goals with_reducible rfl)
              try simp only [Act.put, List.setIfInBounds_toArray, List.set_cons_zero, List.set_cons_succ]
              refine wpAnyH_take (i := 7) (v := ?_) (by simp only [List.getElem?_toArray, List.getElem?_cons_succ, List.getElem?_cons_zero] <;> exact rfl) (by kernel_rfl) (by kernel_rfl) (by kernel_rfl) (fun _ _ _ h => h) (Or.inl ⟨by rfl, ?_⟩) hS ?_
              rotate_left
              focus (intro w' hw'; go_simp; all_goals with_reducible rfl)
              try simp only [Act.put, List.setIfInBounds_toArray, List.set_cons_zero, List.set_cons_succ]
              refine wpAnyH_ready (rs := [10]) (by kernel_rfl) (by simp) ?_
              refine AllReadyH.cons (o := _) (by simp only [List.getElem?_toArray, List.getElem?_cons_succ, List.getElem?_cons_zero] <;> exact rfl) (fun K hK => ?_) ?_
              focus (
                refine step_store_blk rfl 28 (.tmp 10) (.tmp 30) rfl u (RV.F.cs A RV.l.length c) #[.int .u8 0, .int .u8 0, .int .i64 0, .string ⟨#[]⟩, .int .i64 0, .int .i64 0, .bool false, .int .u8 0, .int .u32 0, .int .i64 0, .int .i64 0, .slice none 0 0] 28 rfl rfl KU fr_sz rfl (Fr.cs_one _ _ _ _) ?_
                have hS := hS.row_other (hS.ne_ KU (by decide)) (RV.F.cs A RV.l.length c)
                have KV := KV.row_other (KV.ne_ KU (by decide)) (RV.F.cs A RV.l.length c)
                have PV := PV.farRow KU (fr_no16' Fr.zero none 0 0) (RV.F.cs A RV.l.length c)
                have BB := below_setRow BB HUB.out (RV.F.cs A RV.l.length c)
                have KU := KU.row (RV.F.cs A RV.l.length c)
                refine hK.out _ _ hS (fun _ => ?_)
                clear hK K
                try simp only [Act.put]
                refine wpAnyH_ready (rs := [11]) (by kernel_rfl) (by simp) ?_
                refine AllReadyH.cons (o := _) (by simp only [List.getElem?_toArray, List.getElem?_cons_succ, List.getElem?_cons_zero] <;> exact rfl) (fun K hK => ?_) ?_
                focus (
                  refine step_store_blk rfl 31 (.tmp 11) (.tmp 31) rfl v #[.int .u32 RV.code, .int .i64 RV.st] #[.int .u32 0, .int .i64 0] 31 rfl rfl KV fa_size rfl (fa_one _ _ rfl rfl) ?_
                  have hS := hS.row_other (hS.ne_ KV (by decide)) #[.int .u32 RV.code, .int .i64 RV.st]
                  have KU := KU.row_other (KU.ne_ KV (by decide)) #[.int .u32 RV.code, .int .i64 RV.st]
                  have PV := PV.farRow KV (by intro i x; match i with | 0 | 1 => simp | k + 2 => simp) #[.int .u32 RV.code, .int .i64 RV.st]
                  have BB := below_setRow BB HVB.out #[.int .u32 RV.code, .int .i64 RV.st]
                  have KV := KV.row #[.int .u32 RV.code, .int .i64 RV.st]
                  refine hK.out _ _ hS (fun _ => ?_)
                  clear hK K
                  try simp only [Act.put]
                  refine wpAnyH_done (by kernel_rfl) ?_ _
                  refine NoPanic.normal ?_
                  go_wp2_with fail
                  go_meet
                  exact ⟨u, v, A, c, rfl, rfl, hS, KU, KV, PV, BB⟩)
                exact AllReadyH.nil)
              exact AllReadyH.nil)
            exact AllReadyH.nil)
          exact AllReadyH.nil)
        refine AllReadyH.cons (o := _) (by simp only [List.getElem?_toArray, List.getElem?_cons_succ, List.getElem?_cons_zero] <;> exact rfl) (fun K hK => ?_) ?_
        focus (
          go_simp
          refine hK.out _ _ (hS.alloc _) (fun _ => ?_)
          have KN := BlkIs.new wk114 28 #[.int .u8 0, .int .u8 0, .int .i64 0, .string ⟨#[]⟩, .int .i64 0, .int .i64 0, .bool false, .int .u8 0, .int .u32 0, .int .i64 0, .int .i64 0, .slice none 0 0]
          obtain ⟨u, hu⟩ : ∃ g, g = wk114.heap.size := ⟨_, rfl⟩
          have HUB := hide (show w.heap.size ≤ u by rw [hu]; exact BB.size)
          have hS := hS.alloc (.cells #[.int .u8 0, .int .u8 0, .int .i64 0, .string ⟨#[]⟩, .int .i64 0, .int .i64 0, .bool false, .int .u8 0, .int .u32 0, .int .i64 0, .int .i64 0, .slice none 0 0] 28)
          have BB := BB.alloc BB.size (.cells #[.int .u8 0, .int .u8 0, .int .i64 0, .string ⟨#[]⟩, .int .i64 0, .int .i64 0, .bool false, .int .u8 0, .int .u32 0, .int .i64 0, .int .i64 0, .slice none 0 0] 28)
          have RM := RM.below ((Below.refl _ _).alloc (Nat.le_refl _) (.cells #[.int .u8 0, .int .u8 0, .int .i64 0, .string ⟨#[]⟩, .int .i64 0, .int .i64 0, .bool false, .int .u8 0, .int .u32 0, .int .i64 0, .int .i64 0, .slice none 0 0] 28))
          have KV := KV.alloc (.cells #[.int .u8 0, .int .u8 0, .int .i64 0, .string ⟨#[]⟩, .int .i64 0, .int .i64 0, .bool false, .int .u8 0, .int .u32 0, .int .i64 0, .int .i64 0, .slice none 0 0] 28)
          rw [← hu] at KN ⊢
          generalize wk114.alloc (.cells #[.int .u8 0, .int .u8 0, .int .i64 0, .string ⟨#[]⟩, .int .i64 0, .int .i64 0, .bool false, .int .u8 0, .int .u32 0, .int .i64 0, .int .i64 0, .slice none 0 0] 28) = wk120 at hS BB RM KV KN ⊢
          clear hu
          have KU := KN
          clear KN
          clear hK K
          try simp only [Act.put, List.setIfInBounds_toArray, List.set_cons_zero, List.set_cons_succ]
          refine wpAnyH_ready (rs := [3]) (by kernel_rfl) (by simp) ?_
          refine AllReadyH.cons (o := _) (by simp only [List.getElem?_toArray, List.getElem?_cons_succ, List.getElem?_cons_zero] <;> exact rfl) (fun K hK => ?_) ?_
          focus (
            have s1 := rb_string N RM
            rw [← HZ.out] at s1
            go_simp
            clear s1 RM
            refine hK.out _ _ hS (fun _ => ?_)
            clear hK K
            try simp only [Act.put, List.setIfInBounds_toArray, List.set_cons_zero, List.set_cons_succ]
            refine wpAnyH_ready (rs := [4]) (by kernel_rfl) (by simp) ?_
            refine AllReadyH.cons (o := _) (by simp only [List.getElem?_toArray, List.getElem?_cons_succ, List.getElem?_cons_zero] <;> exact rfl) (fun K hK => ?_) ?_
            focus (
              go_simp
              go_at_call 9
              refine (HRd.out _).mono ?_
              rintro e wk122 ⟨A, c, rfl, PV, hb⟩
              have hS := hS.keep hb
              have BB := BB.trans (hb.mono BB.size)
              have KU := KU.keep hb
              have KV := KV.keep hb
              clear hb
              go_wp2_with fail
              refine hK.out _ _ hS (fun _ => ?_)
              clear hK K
              try simp only [Act.put, List.setIfInBounds_toArray, List.set_cons_zero, List.set_cons_succ]
              refine wpAnyH_take (i := 5) (v := ?_) (by simp only [List.getElem?_toArray, List.getElem?_cons_succ, List.getElem?_cons_zero] <;> exact rfl) (by kernel_rfl) (by kernel_rfl) (by kernel_rfl) (fun _ _ _ h => h) (Or.inl ⟨by rfl, ?_⟩) hS ?_
              rotate_left
              focus (intro w' hw'; go_simp; all_goals with_reducible rfl)
              try simp only [Act.put, List.setIfInBounds_toArray, List.set_cons_zero, List.set_cons_succ]
              refine wpAnyH_take (i := 6) (v := ?_) (by simp only [List.getElem?_toArray, List.getElem?_cons_succ, List.getElem?_cons_zero] <;> exact rfl) (by kernel_rfl) (by kernel_rfl) (by kernel_rfl) (fun _ _ _ h => h) (Or.inl ⟨by rfl, ?_⟩) hS ?_
              rotate_left
              focus (intro w' hw'; go_simp; all_goals with_reducible rfl)
              try simp only [Act.put, List.setIfInBounds_toArray, List.set_cons_zero, List.set_cons_succ]
              refine wpAnyH_take (i := 7) (v := ?_) (by simp only [List.getElem?_toArray, List.getElem?_cons_succ, List.getElem?_cons_zero] <;> exact rfl) (by kernel_rfl) (by kernel_rfl) (by kernel_rfl) (fun _ _ _ h => h) (Or.inl ⟨by rfl, ?_⟩) hS ?_
              rotate_left
              focus (intro w' hw'; go_simp; all_goals with_reducible rfl)
              try simp only [Act.put, List.setIfInBounds_toArray, List.set_cons_zero, List.set_cons_succ]
              refine wpAnyH_ready (rs := [10]) (by kernel_rfl) (by simp) ?_
              refine AllReadyH.cons (o := _) (by simp only [List.getElem?_toArray, List.getElem?_cons_succ, List.getElem?_cons_zero] <;> exact rfl) (fun K hK => ?_) ?_
              focus (
                refine step_store_blk rfl 28 (.tmp 10) (.tmp 30) rfl u (RV.F.cs A RV.l.length c) #[.int .u8 0, .int .u8 0, .int .i64 0, .string ⟨#[]⟩, .int .i64 0, .int .i64 0, .bool false, .int .u8 0, .int .u32 0, .int .i64 0, .int .i64 0, .slice none 0 0] 28 rfl rfl KU fr_sz rfl (Fr.cs_one _ _ _ _) ?_
                have hS := hS.row_other (hS.ne_ KU (by decide)) (RV.F.cs A RV.l.length c)
                have KV := KV.row_other (KV.ne_ KU (by decide)) (RV.F.cs A RV.l.length c)
                have PV := PV.farRow KU (fr_no16' Fr.zero none 0 0) (RV.F.cs A RV.l.length c)
                have BB := below_setRow BB HUB.out (RV.F.cs A RV.l.length c)
                have KU := KU.row (RV.F.cs A RV.l.length c)
                refine hK.out _ _ hS (fun _ => ?_)
                clear hK K
                try simp only [Act.put]
                refine wpAnyH_ready (rs := [11]) (by kernel_rfl) (by simp) ?_
                refine AllReadyH.cons (o := _) (by simp only [List.getElem?_toArray, List.getElem?_cons_succ, List.getElem?_cons_zero] <;> exact rfl) (fun K hK => ?_) ?_
                focus (
                  refine step_store_blk rfl 31 (.tmp 11) (.tmp 31) rfl v #[.int .u32 RV.code, .int .i64 RV.st] #[.int .u32 0, .int .i64 0] 31 rfl rfl KV fa_size rfl (fa_one _ _ rfl rfl) ?_
                  have hS := hS.row_other (hS.ne_ KV (by decide)) #[.int .u32 RV.code, .int .i64 RV.st]
                  have KU := KU.row_other (KU.ne_ KV (by decide)) #[.int .u32 RV.code, .int .i64 RV.st]
                  have PV := PV.farRow KV (by intro i x; match i with | 0 | 1 => simp | k + 2 => simp) #[.int .u32 RV.code, .int .i64 RV.st]
                  have BB := below_setRow BB HVB.out #[.int .u32 RV.code, .int .i64 RV.st]
                  have KV := KV.row #[.int .u32 RV.code, .int .i64 RV.st]
                  refine hK.out _ _ hS (fun _ => ?_)
                  clear hK K
                  try simp only [Act.put]
                  refine wpAnyH_done (by kernel_rfl) ?_ _
                  refine NoPanic.normal ?_
                  go_wp2_with fail
                  go_meet
                  exact ⟨u, v, A, c, rfl, rfl, hS, KU, KV, PV, BB⟩)
                exact AllReadyH.nil)
              exact AllReadyH.nil)
            exact AllReadyH.nil)
          exact AllReadyH.nil)
        exact AllReadyH.nil)
      refine AllReadyH.cons (o := _) (by simp only [List.getElem?_toArray, List.getElem?_cons_succ, List.getElem?_cons_zero] <;> exact rfl) (fun K hK => ?_) ?_
      focus (
        go_simp
        refine hK.out _ _ (hS.alloc _) (fun _ => ?_)
        have KN := BlkIs.new wk113 28 #[.int .u8 0, .int .u8 0, .int .i64 0, .string ⟨#[]⟩, .int .i64 0, .int .i64 0, .bool false, .int .u8 0, .int .u32 0, .int .i64 0, .int .i64 0, .slice none 0 0]
        obtain ⟨u, hu⟩ : ∃ g, g = wk113.heap.size := ⟨_, rfl⟩
        have HUB := hide (show w.heap.size ≤ u by rw [hu]; exact BB.size)
        have hS := hS.alloc (.cells #[.int .u8 0, .int .u8 0, .int .i64 0, .string ⟨#[]⟩, .int .i64 0, .int .i64 0, .bool false, .int .u8 0, .int .u32 0, .int .i64 0, .int .i64 0, .slice none 0 0] 28)
        have BB := BB.alloc BB.size (.cells #[.int .u8 0, .int .u8 0, .int .i64 0, .string ⟨#[]⟩, .int .i64 0, .int .i64 0, .bool false, .int .u8 0, .int .u32 0, .int .i64 0, .int .i64 0, .slice none 0 0] 28)
        have KV := KV.alloc (.cells #[.int .u8 0, .int .u8 0, .int .i64 0, .string ⟨#[]⟩, .int .i64 0, .int .i64 0, .bool false, .int .u8 0, .int .u32 0, .int .i64 0, .int .i64 0, .slice none 0 0] 28)
        rw [← hu] at KN ⊢
        generalize wk113.alloc (.cells #[.int .u8 0, .int .u8 0, .int .i64 0, .string ⟨#[]⟩, .int .i64 0, .int .i64 0, .bool false, .int .u8 0, .int .u32 0, .int .i64 0, .int .i64 0, .slice none 0 0] 28) = wk123 at hS BB KV KN ⊢
        clear hu
        have KU := KN
        clear KN
        clear hK K
        try simp only [Act.put, List.setIfInBounds_toArray, List.set_cons_zero, List.set_cons_succ]
        refine wpAnyH_ready (rs := [2]) (by kernel_rfl) (by simp) ?_
        refine AllReadyH.cons (o := _) (by simp only [List.getElem?_toArray, List.getElem?_cons_succ, List.getElem?_cons_zero] <;> exact rfl) (fun K hK => ?_) ?_
        focus (
          have hmk := HMK.out wk123
          go_simp
          clear hmk
          refine hK.out _ _ (hS.alloc _) (fun _ => ?_)
          have RN := blk_rb (BlkIs.new wk123 5 (u8s (zs N)).toArray) (n := N) (by simp [zs]) (zs_all N)
          obtain ⟨m, hm⟩ : ∃ g, g = wk123.heap.size := ⟨_, rfl⟩
          have hS := hS.alloc (.cells (u8s (zs N)).toArray 5)
          have BB := BB.alloc BB.size (.cells (u8s (zs N)).toArray 5)
          have KU := KU.alloc (.cells (u8s (zs N)).toArray 5)
          have KV := KV.alloc (.cells (u8s (zs N)).toArray 5)
          rw [← hm] at RN ⊢
          generalize wk123.alloc (.cells (u8s (zs N)).toArray 5) = wk124 at hS BB KU KV RN ⊢
          clear hm
          have RM := RN
          clear RN
          clear hK K
          try simp only [Act.put, List.setIfInBounds_toArray, List.set_cons_zero, List.set_cons_succ]
          refine wpAnyH_ready (rs := [3]) (by kernel_rfl) (by simp) ?_
          refine AllReadyH.cons (o := _) (by simp only [List.getElem?_toArray, List.getElem?_cons_succ, List.getElem?_cons_zero] <;> exact rfl) (fun K hK => ?_) ?_
          focus (
            have s1 := rb_string N RM
            rw [← HZ.out] at s1
            go_simp
            clear s1 RM
            refine hK.out _ _ hS (fun _ => ?_)
            clear hK K
            try simp only [Act.put, List.setIfInBounds_toArray, List.set_cons_zero, List.set_cons_succ]
            refine wpAnyH_ready (rs := [4]) (by kernel_rfl) (by simp) ?_
            refine AllReadyH.cons (o := _) (by simp only [List.getElem?_toArray, List.getElem?_cons_succ, List.getElem?_cons_zero] <;> exact rfl) (fun K hK => ?_) ?_
            focus (
              go_simp
              go_at_call 9
              refine (HRd.out _).mono ?_
              rintro e wk126 ⟨A, c, rfl, PV, hb⟩
              have hS := hS.keep hb
              have BB := BB.trans (hb.mono BB.size)
              have KU := KU.keep hb
              have KV := KV.keep hb
              clear hb
              go_wp2_with fail
              refine hK.out _ _ hS (fun _ => ?_)
              clear hK K
              try simp only [Act.put, List.setIfInBounds_toArray, List.set_cons_zero, List.set_cons_succ]
              refine wpAnyH_take (i := 5) (v := ?_) (by simp only [List.getElem?_toArray, List.getElem?_cons_succ, List.getElem?_cons_zero] <;> exact rfl) (by kernel_rfl) (by kernel_rfl) (by kernel_rfl) (fun _ _ _ h => h) (Or.inl ⟨by rfl, ?_⟩) hS ?_
              rotate_left
              focus (intro w' hw'; go_simp; all_goals with_reducible rfl)
              try simp only [Act.put, List.setIfInBounds_toArray, List.set_cons_zero, List.set_cons_succ]
              refine wpAnyH_take (i := 6) (v := ?_) (by simp only [List.getElem?_toArray, List.getElem?_cons_succ, List.getElem?_cons_zero] <;> exact rfl) (by kernel_rfl) (by kernel_rfl) (by kernel_rfl) (fun _ _ _ h => h) (Or.inl ⟨by rfl, ?_⟩) hS ?_
              rotate_left
              focus (intro w' hw'; go_simp; all_goals with_reducible rfl)
              try simp only [Act.put, List.setIfInBounds_toArray, List.set_cons_zero, List.set_cons_succ]
              refine wpAnyH_take (i := 7) (v := ?_) (by simp only [List.getElem?_toArray, List.getElem?_cons_succ, List.getElem?_cons_zero] <;> exact rfl) (by kernel_rfl) (by kernel_rfl) (by kernel_rfl) (fun _ _ _ h => h) (Or.inl ⟨by rfl, ?_⟩) hS ?_
              rotate_left
              focus (intro w' hw'; go_simp; all_goals with_reducible rfl)
              try simp only [Act.put, List.setIfInBounds_toArray, List.set_cons_zero, List.set_cons_succ]
              refine wpAnyH_ready (rs := [10]) (by kernel_rfl) (by simp) ?_
              refine AllReadyH.cons (o := _) (by simp only [List.getElem?_toArray, List.getElem?_cons_succ, List.getElem?_cons_zero] <;> exact rfl) (fun K hK => ?_) ?_
              focus (
                refine step_store_blk rfl 28 (.tmp 10) (.tmp 30) rfl u (RV.F.cs A RV.l.length c) #[.int .u8 0, .int .u8 0, .int .i64 0, .string ⟨#[]⟩, .int .i64 0, .int .i64 0, .bool false, .int .u8 0, .int .u32 0, .int .i64 0, .int .i64 0, .slice none 0 0] 28 rfl rfl KU fr_sz rfl (Fr.cs_one _ _ _ _) ?_
                have hS := hS.row_other (hS.ne_ KU (by decide)) (RV.F.cs A RV.l.length c)
                have KV := KV.row_other (KV.ne_ KU (by decide)) (RV.F.cs A RV.l.length c)
                have PV := PV.farRow KU (fr_no16' Fr.zero none 0 0) (RV.F.cs A RV.l.length c)
                have BB := below_setRow BB HUB.out (RV.F.cs A RV.l.length c)
                have KU := KU.row (RV.F.cs A RV.l.length c)
                refine hK.out _ _ hS (fun _ => ?_)
                clear hK K
                try simp only [Act.put]
                refine wpAnyH_ready (rs := [11]) (by kernel_rfl) (by simp) ?_
                refine AllReadyH.cons (o := _) (by simp only [List.getElem?_toArray, List.getElem?_cons_succ, List.getElem?_cons_zero] <;> exact rfl) (fun K hK => ?_) ?_
                focus (
                  refine step_store_blk rfl 31 (.tmp 11) (.tmp 31) rfl v #[.int .u32 RV.code, .int .i64 RV.st] #[.int .u32 0, .int .i64 0] 31 rfl rfl KV fa_size rfl (fa_one _ _ rfl rfl) ?_
                  have hS := hS.row_other (hS.ne_ KV (by decide)) #[.int .u32 RV.code, .int .i64 RV.st]
                  have KU := KU.row_other (KU.ne_ KV (by decide)) #[.int .u32 RV.code, .int .i64 RV.st]
                  have PV := PV.farRow KV (by intro i x; match i with | 0 | 1 => simp | k + 2 => simp) #[.int .u32 RV.code, .int .i64 RV.st]
                  have BB := below_setRow BB HVB.out #[.int .u32 RV.code, .int .i64 RV.st]
                  have KV := KV.row #[.int .u32 RV.code, .int .i64 RV.st]
                  refine hK.out _ _ hS (fun _ => ?_)
                  clear hK K
                  try simp only [Act.put]
                  refine wpAnyH_done (by kernel_rfl) ?_ _
                  refine NoPanic.normal ?_
                  go_wp2_with fail
                  go_meet
                  exact ⟨u, v, A, c, rfl, rfl, hS, KU, KV, PV, BB⟩)
                exact AllReadyH.nil)
              exact AllReadyH.nil)
            exact AllReadyH.nil)
          exact AllReadyH.nil)
        exact AllReadyH.nil)
      exact AllReadyH.nil)
    exact AllReadyH.nil
  obtain ⟨u, v, A, c, rfl, rfl, hh, hu, hv, hp, hbb⟩ := hcut
  have KH := hide hh
  have KUU := hide hu
  have KVV := hide hv
  have PVV := hide hp
  have BBB := hide hbb
  clear hh hu hv hp hbb KN1 B1 HMK HRd HZ
  have HRO := hide (rd_zs k 0 N)
  rw [← HRV.out] at HRO
  obtain ⟨OK, hOK⟩ : ∃ b, b = okZ k 0 N := ⟨_, rfl⟩
  rw [← hOK] at HRO
  have HOK := hide hOK
  clear hOK
  go_upto_region 6 with (fail)
  go_cut [12] (fun s12 wx => s12 = .bool OK ∧ BlkIs wx h 34 #[.int .i64 (N : Int), .int .u8 k, .int .u8 0, .int .i64 0] ∧ BlkIs wx u 28 (RV.F.cs A RV.l.length c) ∧ BlkIs wx v 31 #[.int .u32 RV.code, .int .i64 RV.st] ∧ PL wx A RV.l.length c RV.l ∧ Below w.heap.size w wx)
  case first =>
    have g0 := KVV.out.cell 0
    have g1 := KVV.out.cell 1
    simp only [List.getElem?_toArray, List.getElem?_cons_zero, List.getElem?_cons_succ] at g0 g1
    clear HOK
    cases OK with
    | true =>
      obtain ⟨rc, rs⟩ := HRO.out.1 rfl
      rw [rc] at g0
      rw [rs] at g1
      clear rc rs
      go_wp2
      go_meet
      exact ⟨rfl, KH.out, KUU.out, KVV.out, PVV.out, BBB.out⟩
    | false =>
      obtain ⟨rc, rt, hre, hc0, hrt⟩ := HRO.out.2 rfl
      rw [show RV.code = rc by rw [hre]; rfl] at g0
      rw [show RV.st = rt by rw [hre]; rfl] at g1
      have hcz : (rc == 0) = false := by simp; omega
      clear hre hc0 hrt
      go_wp2
      go_meet
      exact ⟨rfl, KH.out, KUU.out, KVV.out, PVV.out, BBB.out⟩
  obtain ⟨rfl, hh, hu, hv, hp, hbb⟩ := hcut
  clear KH KUU KVV PVV BBB
  have KH := hide hh
  have KUU := hide hu
  have KVV := hide hv
  have PVV := hide hp
  have BBB := hide hbb
  clear hh hu hv hp hbb
  go_upto_block 0 with (fail)
  go_cut [13] (fun s13 wx => s13 = .bool OK ∧ BlkIs wx h 34 #[.int .i64 (N : Int), .int .u8 k, .int .u8 0, .int .i64 0] ∧ BlkIs wx u 28 (RV.F.cs A RV.l.length c) ∧ BlkIs wx v 31 #[.int .u32 RV.code, .int .i64 RV.st] ∧ PL wx A RV.l.length c RV.l ∧ Below w.heap.size w wx)
  case first =>
    have hkk : k = 0 ∨ k = 1 ∨ k = 2 ∨ k = 3 ∨ k = 4 ∨ k = 5 ∨ k = 6 ∨ k = 7 ∨ k = 8 ∨ k = 9 ∨ k = 10 ∨ k = 11 ∨ k = 12 ∨ k = 13 := by omega
    clear hk0 hk1 HRV HRO
    rcases hkk with rfl | rfl | rfl | rfl | rfl | rfl | rfl | rfl | rfl | rfl | rfl | rfl | rfl | rfl
    · have hok : OK = false := HOK.out.trans ((ok0 _ _).trans (by simp))
      have HK := hide hok
      clear hok HOK
      go_wp2
      go_meet
      exact ⟨by rw [HK.out], KH.out, KUU.out, KVV.out, PVV.out, BBB.out⟩
    · have hok : OK = false := HOK.out.trans ((ok1 _ _).trans (by simp))
      have HK := hide hok
      clear hok HOK
      go_wp2
      go_meet
      exact ⟨by rw [HK.out], KH.out, KUU.out, KVV.out, PVV.out, BBB.out⟩
    · by_cases hc : (N : Int) = 5
      · have hcb : ((N : Int) == 5) = true := by rw [beqI]; exact decide_eq_true hc
        have hok : OK = false := HOK.out.trans ((ok2 _ _).trans (by simp [hc]))
        have HK := hide hok
        clear hok HOK
        clear hc
        go_wp2
        go_meet
        exact ⟨by rw [HK.out], KH.out, KUU.out, KVV.out, PVV.out, BBB.out⟩
      · have hcb : ((N : Int) == 5) = false := by rw [beqI]; exact decide_eq_false hc
        have hok : OK = false := HOK.out.trans ((ok2 _ _).trans (by simp [hc]))
        have HK := hide hok
        clear hok HOK
        clear hc
        go_wp2
        go_meet
        exact ⟨by rw [HK.out], KH.out, KUU.out, KVV.out, PVV.out, BBB.out⟩
    · by_cases hc : (N : Int) = 4
      · have hcb : ((N : Int) == 4) = true := by rw [beqI]; exact decide_eq_true hc
        have hok : OK = false := HOK.out.trans ((ok3 _ _).trans (by simp [hc]))
        have HK := hide hok
        clear hok HOK
        clear hc
        go_wp2
        go_meet
        exact ⟨by rw [HK.out], KH.out, KUU.out, KVV.out, PVV.out, BBB.out⟩
      · have hcb : ((N : Int) == 4) = false := by rw [beqI]; exact decide_eq_false hc
        have hok : OK = false := HOK.out.trans ((ok3 _ _).trans (by simp [hc]))
        have HK := hide hok
        clear hok HOK
        clear hc
        go_wp2
        go_meet
        exact ⟨by rw [HK.out], KH.out, KUU.out, KVV.out, PVV.out, BBB.out⟩
    · by_cases hc : (N : Int) % 6 = 0
      · have hcb : ((N : Int) % 6 == 0) = true := by rw [beqI]; exact decide_eq_true hc
        have hok : OK = true := HOK.out.trans ((ok4 _ _).trans (by simp [hc]))
        have HK := hide hok
        clear hok HOK
        clear hc
        go_wp2
        go_meet
        exact ⟨by rw [HK.out], KH.out, KUU.out, KVV.out, PVV.out, BBB.out⟩
      · have hcb : ((N : Int) % 6 == 0) = false := by rw [beqI]; exact decide_eq_false hc
        have hok : OK = false := HOK.out.trans ((ok4 _ _).trans (by simp [hc]))
        have HK := hide hok
        clear hok HOK
        clear hc
        go_wp2
        go_meet
        exact ⟨by rw [HK.out], KH.out, KUU.out, KVV.out, PVV.out, BBB.out⟩
    · have hok : OK = false := HOK.out.trans ((ok5 _ _).trans (by simp))
      have HK := hide hok
      clear hok HOK
      go_wp2
      go_meet
      exact ⟨by rw [HK.out], KH.out, KUU.out, KVV.out, PVV.out, BBB.out⟩
    · by_cases hc : (N : Int) = 8
      · have hcb : ((N : Int) == 8) = true := by rw [beqI]; exact decide_eq_true hc
        have hok : OK = true := HOK.out.trans ((ok6 _ _).trans (by simp [hc]))
        have HK := hide hok
        clear hok HOK
        clear hc
        go_wp2
        go_meet
        exact ⟨by rw [HK.out], KH.out, KUU.out, KVV.out, PVV.out, BBB.out⟩
      · have hcb : ((N : Int) == 8) = false := by rw [beqI]; exact decide_eq_false hc
        have hok : OK = false := HOK.out.trans ((ok6 _ _).trans (by simp [hc]))
        have HK := hide hok
        clear hok HOK
        clear hc
        go_wp2
        go_meet
        exact ⟨by rw [HK.out], KH.out, KUU.out, KVV.out, PVV.out, BBB.out⟩
    · by_cases hc : 8 ≤ (N : Int)
      · have hok : OK = true := HOK.out.trans ((ok7 _ _).trans (by simp [hc]))
        have HK := hide hok
        clear hok HOK
        go_wp2
        go_meet
        exact ⟨by rw [HK.out], KH.out, KUU.out, KVV.out, PVV.out, BBB.out⟩
      · have hok : OK = false := HOK.out.trans ((ok7 _ _).trans (by simp [hc]))
        have HK := hide hok
        clear hok HOK
        go_wp2
        go_meet
        exact ⟨by rw [HK.out], KH.out, KUU.out, KVV.out, PVV.out, BBB.out⟩
    · have hok : OK = false := HOK.out.trans ((ok8 _ _).trans (by simp))
      have HK := hide hok
      clear hok HOK
      go_wp2
      go_meet
      exact ⟨by rw [HK.out], KH.out, KUU.out, KVV.out, PVV.out, BBB.out⟩
    · have hok : OK = false := HOK.out.trans ((ok9 _ _).trans (by simp))
      have HK := hide hok
      clear hok HOK
      go_wp2
      go_meet
      exact ⟨by rw [HK.out], KH.out, KUU.out, KVV.out, PVV.out, BBB.out⟩
    · have hok : OK = true := HOK.out.trans (ok10 _ _ _ (by omega))
      have HK := hide hok
      clear hok HOK
      go_wp2
      go_meet
      exact ⟨by rw [HK.out], KH.out, KUU.out, KVV.out, PVV.out, BBB.out⟩
    · have hok : OK = true := HOK.out.trans (ok10 _ _ _ (by omega))
      have HK := hide hok
      clear hok HOK
      go_wp2
      go_meet
      exact ⟨by rw [HK.out], KH.out, KUU.out, KVV.out, PVV.out, BBB.out⟩
    · have hok : OK = true := HOK.out.trans (ok10 _ _ _ (by omega))
      have HK := hide hok
      clear hok HOK
      go_wp2
      go_meet
      exact ⟨by rw [HK.out], KH.out, KUU.out, KVV.out, PVV.out, BBB.out⟩
    · have hok : OK = true := HOK.out.trans (ok10 _ _ _ (by omega))
      have HK := hide hok
      clear hok HOK
      go_wp2
      go_meet
      exact ⟨by rw [HK.out], KH.out, KUU.out, KVV.out, PVV.out, BBB.out⟩
  obtain ⟨rfl, hh, hu, hv, hp, hbb⟩ := hcut
  clear KH KUU KVV PVV BBB
  have KH := hide hh
  have KUU := hide hu
  have KVV := hide hv
  have PVV := hide hp
  have BBB := hide hbb
  clear hh hu hv hp hbb
  clear HOK
  cases OK with
  | true =>
    obtain ⟨rc, rs⟩ := HRO.out.1 rfl
    have g0 := KVV.out.cell 0
    have g1 := KVV.out.cell 1
    simp only [List.getElem?_toArray, List.getElem?_cons_zero, List.getElem?_cons_succ] at g0 g1
    rw [rc] at g0
    rw [rs] at g1
    clear rc rs HRO HRV
    go_wp2_with fail
    refine (aw_frame _).mono ?_
    rintro e wz ⟨rfl, hbz⟩
    have BZ := hide (BBB.out.trans (hbz.mono BBB.out.size))
    clear hbz
    go_wp2_with fail
    go_ret
    exact ⟨rfl, BZ.out⟩
  | false =>
    obtain ⟨rc, rt, hre, hc0, hrt⟩ := HRO.out.2 rfl
    clear HRO HRV
    subst hre
    have KUU := hide (show BlkIs _ u 28 (Fr.zero.cs A 0 c) from KUU.out)
    have PVV := hide (show PL _ A 0 c [] from PVV.out)
    have HSM := hide (fun w h => fr_Same Fr.zero Fr.zero A none 0 c 0 0 [] [] w h (PL.none_ _) (by decide) (by decide))
    rw [show sameF Fr.zero Fr.zero [] [] = true by kernel_rfl] at HSM
    clear hc0
    obtain rfl : rt = 0 := by rcases hrt with h | h <;> exact h
    go_wp2_with (refine wpList_load_want (by rfl) 28 (.tmp 10) rfl u rfl 28 (Fr.zero.cs A 0 c) _ KUU.out Try.underlying28 rfl fr_sz ?_)
    refine (HSM.out _ PVV.out).mono ?_
    rintro e wy ⟨rfl, hby⟩
    have BY := hide (BBB.out.trans (hby.mono BBB.out.size))
    have KVY := hide (KVV.out.keep hby)
    have KHY := hide (KH.out.keep hby)
    clear hby
    have g1 := KVY.out.cell 1
    have h3 := KHY.out.cell 3
    simp only [List.getElem?_toArray, List.getElem?_cons_zero, List.getElem?_cons_succ, Rd.fault] at g1 h3
    go_wp2_with fail
    refine (aw_frame _).mono ?_
    rintro e wz ⟨rfl, hbz⟩
    have BZ := hide (BY.out.trans (hbz.mono BY.out.size))
    clear hbz
    go_wp2_with fail
    go_ret
    exact ⟨rfl, BZ.out⟩
end Go.Proofs.Ytefdhbljcnpggaa.frameFaults
