/-
  Layer 9: a frame read (Read, the program's): the walk.
-/
import Derived.Test.YtefdhbljcnpggaaFrRead0
import Derived.BigGuardPart
namespace Go.Proofs.Ytefdhbljcnpggaa
open Go.RowKit

set_option maxRecDepth 100000 in
set_option maxHeartbeats 3200000 in
theorem fr_Read_no (ln t f s : Int) (t0 : 0 ≤ t) (x : ByteArray) (hm : misB t s = true) (w : World) :
    Calls Try.prog 9 #[.agg #[.int .i64 ln, .int .u8 t, .int .u8 f, .int .i64 s], .string x] w (GivesRd (readR t f s (bts x)) w) := by
  have HM := hide (fun w => fr_misplaced ln t f s t0 w)
  rw [hm] at HM
  have HR := hide (show readR t f s (bts x) = Rd.fault 1 0 by rw [readR, if_pos hm])
  have HS := hide (rd_start w ln t f s)
  have HZC : Fr.zero.cs none 0 0 = #[.int .u8 0, .int .u8 0, .int .i64 0, .string ⟨#[]⟩, .int .i64 0, .int .i64 0, .bool false, .int .u8 0, .int .u32 0, .int .i64 0, .int .i64 0, .slice none 0 0] := rfl
  rw [HZC] at HS
  clear hm
  go_enter Try.func9, Try.ntmps9
  go_upto_region 1 with (fail)
  obtain ⟨h, hh⟩ : ∃ g, g = w.heap.size := ⟨_, rfl⟩
  have R0 := HS.out
  rw [← hh] at R0 ⊢
  generalize ((w.alloc (.cells #[.int .i64 ln, .int .u8 t, .int .u8 f, .int .i64 s] 34)).alloc (.cells #[.int .u8 0, .int .u8 0, .int .i64 0, .string ⟨#[]⟩, .int .i64 0, .int .i64 0, .bool false, .int .u8 0, .int .u32 0, .int .i64 0, .int .i64 0, .slice none 0 0] 28)).alloc (.cells #[.int .u32 0, .int .i64 0] 31) = w0 at R0 ⊢
  obtain ⟨b, hb⟩ : ∃ b, b = h + 1 + 1 := ⟨_, rfl⟩
  rw [← hb] at R0 ⊢
  obtain ⟨a, ha⟩ : ∃ a, a = h + 1 := ⟨_, rfl⟩
  rw [← ha] at R0 ⊢
  have HAB := hide (show a ≠ b by omega)
  have HHA := hide (show h ≠ a by omega)
  have HHB := hide (show h ≠ b by omega)
  have S0 := hide R0
  clear HS hh hb ha R0
  obtain ⟨k0, k1, k2, k3⟩ := hd_cells S0.out.hd
  go_wp2_with fail
  refine (HM.out _).mono ?_
  rintro e w1 ⟨rfl, hb1⟩
  have S1 := hide (S0.out.keep hb1)
  clear hb1 S0 k0 k1 k2 k3
  go_wp2_with (first
    | (refine wpList_store_blk rfl 28 (.tmp 4) (.tmp 12) rfl a (Fr.zero.cs none 0 0) (Fr.zero.cs none 0 0) 28 rfl rfl S1.out.fr fr_sz rfl (Fr.cs_one _ _ _ _) ?_)
    | (refine wpList_store_blk rfl 31 (.tmp 5) (.tmp 13) rfl b #[.int .u32 1, .int .i64 0] #[.int .u32 0, .int .i64 0] 31 rfl rfl (S1.out.fa.row_other (Ne.symm HAB.out) _) fa_size rfl (fa_one _ _ rfl rfl) ?_))
  have hd := rd_done S1.out (Rd.fault 1 0) none 0 (PL.none_ _) HAB.out
  rw [HR.out]
  exact bodyPost_ret (results_frfa rfl _ _ a b Fr.zero none 0 0 _ _ rfl rfl hd.1 hd.2.1) rfl hd.2.2

set_option maxRecDepth 100000 in
set_option maxHeartbeats 1600000 in
theorem fr_Read_yes (ln t f s : Int) (t0 : 0 ≤ t) (x : ByteArray) (hm : misB t s = false) (hx : (x.size : Int) ≤ 600000) (w : World) :
    Calls Try.prog 9 #[.agg #[.int .i64 ln, .int .u8 t, .int .u8 f, .int .i64 s], .string x] w (GivesRd (readR t f s (bts x)) w) := by
  have HM := hide (fun w => fr_misplaced ln t f s t0 w)
  rw [hm] at HM
  have HV : shV t f = #[.bool (shP t f), .bool (shD t f), .bool (shL t), .bool (shC t), .bool (shI t), .bool (shR t f), .bool (shX t)] := rfl
  have HSh := hide (fun w => fr_shapeOf ln t f s t0 w)
  rw [HV] at HSh
  have HS := hide (rd_start w ln t f s)
  have HZC : Fr.zero.cs none 0 0 = #[.int .u8 0, .int .u8 0, .int .i64 0, .string ⟨#[]⟩, .int .i64 0, .int .i64 0, .bool false, .int .u8 0, .int .u32 0, .int .i64 0, .int .i64 0, .slice none 0 0] := rfl
  rw [HZC] at HS
  have HMB := hide hm
  clear hm HZC HV
  have HRD := hide (show readR t f s (bts x) = if shP t f = true ∧ (bts x).length = 0 then Rd.fault 6 0 else if shP t f = true ∧ ((bts x).length : Int) - 1 < (bts x).getD 0 0 then Rd.fault 1 0 else if rightB t f (bodyR t f (bts x)).length = false then Rd.fault 6 (if t = 2 then s else 0) else if shI t = true ∧ (fillR t f s (bts x)).inc = 0 then Rd.fault 1 s else ⟨fillR t f s (bts x), prsRd t f (bts x), 0, 0⟩ by rw [readR, if_neg (by rw [HMB.out]; simp)])
  obtain ⟨RV, hRV⟩ : ∃ RV, RV = readR t f s (bts x) := ⟨_, rfl⟩
  rw [← hRV] at HRD ⊢
  clear hRV
  go_enter Try.func9, Try.ntmps9
  go_upto_region 1 with (fail)
  obtain ⟨h, hh⟩ : ∃ g, g = w.heap.size := ⟨_, rfl⟩
  have R0 := HS.out
  rw [← hh] at R0 ⊢
  generalize ((w.alloc (.cells #[.int .i64 ln, .int .u8 t, .int .u8 f, .int .i64 s] 34)).alloc (.cells #[.int .u8 0, .int .u8 0, .int .i64 0, .string ⟨#[]⟩, .int .i64 0, .int .i64 0, .bool false, .int .u8 0, .int .u32 0, .int .i64 0, .int .i64 0, .slice none 0 0] 28)).alloc (.cells #[.int .u32 0, .int .i64 0] 31) = w0 at R0 ⊢
  obtain ⟨b, hb⟩ : ∃ b, b = h + 1 + 1 := ⟨_, rfl⟩
  rw [← hb] at R0 ⊢
  obtain ⟨a, ha⟩ : ∃ a, a = h + 1 := ⟨_, rfl⟩
  rw [← ha] at R0 ⊢
  have HAB := hide (show a ≠ b by omega)
  have HHA := hide (show h ≠ a by omega)
  have HHB := hide (show h ≠ b by omega)
  have S0 := hide R0
  clear HS hh hb ha R0
  obtain ⟨k0, k1, k2, k3⟩ := hd_cells S0.out.hd
  go_wp2_with fail
  refine (HM.out _).mono ?_
  rintro e w1 ⟨rfl, hb1⟩
  have S1 := hide (S0.out.keep hb1)
  clear hb1 S0 k0 k1 k2 k3
  go_upto_region 3 with (fail)
  go_cut [6, 7, 8] (fun s6 s7 s8 wx => ∃ u v, s6 = .pointer (some ⟨u, 0, none⟩) ∧ s7 = .pointer (some ⟨v, 0, none⟩) ∧ s8 = .string x ∧ RdS h a b ln t f s w wx ∧ BlkIs wx u 28 ((Fr.start t f s 0).cs none 0 0) ∧ BlkIs wx v 62 #[.bool (shP t f), .bool (shD t f), .bool (shL t), .bool (shC t), .bool (shI t), .bool (shR t f), .bool (shX t)] ∧ a ≠ u ∧ w.heap.size ≤ u)
  case first =>
    refine wp_region_noPanic ?_
    refine wp_region_held_drew (S := fun w' => RdS h a b ln t f s w w') (by kernel_rfl) S1.out.drew (fun hS => ?_)
    generalize w1.drew = v0 at hS ⊢
    refine wpAnyH_take (i := 0) (v := ?_) (by simp only [List.getElem?_toArray, List.getElem?_cons_zero] <;> exact rfl) (by kernel_rfl) (by kernel_rfl) (by kernel_rfl) (fun _ _ _ h => h) (Or.inl ⟨by rfl, ?_⟩) hS ?_
    rotate_left
    focus (intro w' hw'; go_simp; all_goals with_reducible rfl)
    try simp only [Act.put, List.setIfInBounds_toArray, List.set_cons_zero, List.set_cons_succ]
    refine wpAnyH_take (i := 1) (v := ?_) (by simp only [List.getElem?_toArray, List.getElem?_cons_succ, List.getElem?_cons_zero] <;> exact rfl) (by kernel_rfl) (by kernel_rfl) (by kernel_rfl) (fun _ _ _ h => h) (Or.inl ⟨by rfl, ?_⟩) hS ?_
    rotate_left
    focus (intro w' hw'; have kk := hw'.hd.cell 1; simp only [List.getElem?_toArray, List.getElem?_cons_zero, List.getElem?_cons_succ] at kk; go_simp; all_goals with_reducible rfl)
    try simp only [Act.put, List.setIfInBounds_toArray, List.set_cons_zero, List.set_cons_succ]
    refine wpAnyH_take (i := 2) (v := ?_) (by simp only [List.getElem?_toArray, List.getElem?_cons_succ, List.getElem?_cons_zero] <;> exact rfl) (by kernel_rfl) (by kernel_rfl) (by kernel_rfl) (fun _ _ _ h => h) (Or.inl ⟨by rfl, ?_⟩) hS ?_
    rotate_left
    focus (intro w' hw'; go_simp; all_goals with_reducible rfl)
    try simp only [Act.put, List.setIfInBounds_toArray, List.set_cons_zero, List.set_cons_succ]
    refine wpAnyH_take (i := 3) (v := ?_) (by simp only [List.getElem?_toArray, List.getElem?_cons_succ, List.getElem?_cons_zero] <;> exact rfl) (by kernel_rfl) (by kernel_rfl) (by kernel_rfl) (fun _ _ _ h => h) (Or.inl ⟨by rfl, ?_⟩) hS ?_
    rotate_left
    focus (intro w' hw'; have kk := hw'.hd.cell 2; simp only [List.getElem?_toArray, List.getElem?_cons_zero, List.getElem?_cons_succ] at kk; go_simp; all_goals with_reducible rfl)
    try simp only [Act.put, List.setIfInBounds_toArray, List.set_cons_zero, List.set_cons_succ]
    refine wpAnyH_take (i := 4) (v := ?_) (by simp only [List.getElem?_toArray, List.getElem?_cons_succ, List.getElem?_cons_zero] <;> exact rfl) (by kernel_rfl) (by kernel_rfl) (by kernel_rfl) (fun _ _ _ h => h) (Or.inl ⟨by rfl, ?_⟩) hS ?_
    rotate_left
    focus (intro w' hw'; go_simp; all_goals with_reducible rfl)
    try simp only [Act.put, List.setIfInBounds_toArray, List.set_cons_zero, List.set_cons_succ]
    refine wpAnyH_take (i := 5) (v := ?_) (by simp only [List.getElem?_toArray, List.getElem?_cons_succ, List.getElem?_cons_zero] <;> exact rfl) (by kernel_rfl) (by kernel_rfl) (by kernel_rfl) (fun _ _ _ h => h) (Or.inl ⟨by rfl, ?_⟩) hS ?_
    rotate_left
    focus (intro w' hw'; have kk := hw'.hd.cell 3; simp only [List.getElem?_toArray, List.getElem?_cons_zero, List.getElem?_cons_succ] at kk; go_simp; all_goals with_reducible rfl)
    try simp only [Act.put, List.setIfInBounds_toArray, List.set_cons_zero, List.set_cons_succ]
    refine wpAnyH_take (i := 6) (v := ?_) (by simp only [List.getElem?_toArray, List.getElem?_cons_succ, List.getElem?_cons_zero] <;> exact rfl) (by kernel_rfl) (by kernel_rfl) (by kernel_rfl) (fun _ _ _ h => h) (Or.inl ⟨by rfl, ?_⟩) hS ?_
    rotate_left
    focus (intro w' hw'; go_simp; all_goals with_reducible rfl)
    try simp only [Act.put, List.setIfInBounds_toArray, List.set_cons_zero, List.set_cons_succ]
    refine wpAnyH_take (i := 7) (by simp only [List.getElem?_toArray, List.getElem?_cons_succ, List.getElem?_cons_zero] <;> exact rfl) (by kernel_rfl) (by kernel_rfl) (by kernel_rfl) (fun _ _ _ h => h) (yields_blk (by rfl) 34 (.tmp 2) (by rfl) h (by rfl) 34 #[.int .i64 ln, .int .u8 t, .int .u8 f, .int .i64 s] _ (fun w' hw' => hw'.hd) Try.underlying34 rfl hd_size) hS ?_
    try simp only [Act.put, List.setIfInBounds_toArray, List.set_cons_zero, List.set_cons_succ]
    refine wpAnyH_take (i := 9) (v := ?_) (by simp only [List.getElem?_toArray, List.getElem?_cons_succ, List.getElem?_cons_zero] <;> exact rfl) (by kernel_rfl) (by kernel_rfl) (by kernel_rfl) (fun _ _ _ h => h) (Or.inl ⟨by rfl, ?_⟩) hS ?_
    rotate_left
    focus (intro w' hw'; go_simp; all_goals with_reducible rfl)
    try simp only [Act.put, List.setIfInBounds_toArray, List.set_cons_zero, List.set_cons_succ]
    refine wpAnyH_ready (rs := [8, 10, 11]) (by kernel_rfl) (by simp) ?_
    refine AllReadyH.cons (o := _) (by simp only [List.getElem?_toArray, List.getElem?_cons_succ, List.getElem?_cons_zero] <;> exact rfl) (fun K hK => ?_) ?_
    focus (
      go_simp
      go_at_call 23
      refine (HSh.out _).mono ?_
      rintro e wk1 ⟨rfl, hb⟩
      have hS := hS.keep hb
      clear hb
      go_wp2_with fail
      refine hK.out _ _ hS (fun _ => ?_)
      clear hK K
      try simp only [Act.put, List.setIfInBounds_toArray, List.set_cons_zero, List.set_cons_succ]
      refine wpAnyH_ready (rs := [10, 11]) (by kernel_rfl) (by simp) ?_
      refine AllReadyH.cons (o := _) (by simp only [List.getElem?_toArray, List.getElem?_cons_succ, List.getElem?_cons_zero] <;> exact rfl) (fun K hK => ?_) ?_
      focus (
        go_simp
        refine hK.out _ _ (hS.alloc _) (fun _ => ?_)
        have KN := BlkIs.new wk1 28 #[.int .u8 0, .int .u8 0, .int .i64 0, .string ⟨#[]⟩, .int .i64 0, .int .i64 0, .bool false, .int .u8 0, .int .u32 0, .int .i64 0, .int .i64 0, .slice none 0 0]
        obtain ⟨u, hu⟩ : ∃ g, g = wk1.heap.size := ⟨_, rfl⟩
        have HUA := hide (show a ≠ u by have := hS.fr.lt; omega)
        have HUB := hide (show w.heap.size ≤ u by rw [hu]; exact hS.bel.size)
        have hS := hS.alloc (.cells #[.int .u8 0, .int .u8 0, .int .i64 0, .string ⟨#[]⟩, .int .i64 0, .int .i64 0, .bool false, .int .u8 0, .int .u32 0, .int .i64 0, .int .i64 0, .slice none 0 0] 28)
        rw [← hu] at KN ⊢
        generalize wk1.alloc (.cells #[.int .u8 0, .int .u8 0, .int .i64 0, .string ⟨#[]⟩, .int .i64 0, .int .i64 0, .bool false, .int .u8 0, .int .u32 0, .int .i64 0, .int .i64 0, .slice none 0 0] 28) = wk2 at hS KN ⊢
        clear hu
        have KU := KN
        clear KN
        clear hK K
        try simp only [Act.put, List.setIfInBounds_toArray, List.set_cons_zero, List.set_cons_succ]
        refine wpAnyH_ready (rs := [11]) (by kernel_rfl) (by simp) ?_
        refine AllReadyH.cons (o := _) (by simp only [List.getElem?_toArray, List.getElem?_cons_succ, List.getElem?_cons_zero] <;> exact rfl) (fun K hK => ?_) ?_
        focus (
          go_simp
          refine hK.out _ _ (hS.alloc _) (fun _ => ?_)
          have KN := BlkIs.new wk2 62 #[.bool false, .bool false, .bool false, .bool false, .bool false, .bool false, .bool false]
          obtain ⟨v, hv⟩ : ∃ g, g = wk2.heap.size := ⟨_, rfl⟩
          have HVB := hide (show w.heap.size ≤ v by rw [hv]; exact hS.bel.size)
          have hS := hS.alloc (.cells #[.bool false, .bool false, .bool false, .bool false, .bool false, .bool false, .bool false] 62)
          have KU := KU.alloc (.cells #[.bool false, .bool false, .bool false, .bool false, .bool false, .bool false, .bool false] 62)
          rw [← hv] at KN ⊢
          generalize wk2.alloc (.cells #[.bool false, .bool false, .bool false, .bool false, .bool false, .bool false, .bool false] 62) = wk3 at hS KN KU ⊢
          clear hv
          have KV := KN
          clear KN
          clear hK K
          try simp only [Act.put, List.setIfInBounds_toArray, List.set_cons_zero, List.set_cons_succ]
          refine wpAnyH_ready (rs := [12]) (by kernel_rfl) (by simp) ?_
          refine AllReadyH.cons (o := _) (by simp only [List.getElem?_toArray, List.getElem?_cons_succ, List.getElem?_cons_zero] <;> exact rfl) (fun K hK => ?_) ?_
          focus (
            refine step_store_blk rfl 28 (.tmp 6) (.tmp 20) rfl u ((Fr.start t f s 0).cs none 0 0) #[.int .u8 0, .int .u8 0, .int .i64 0, .string ⟨#[]⟩, .int .i64 0, .int .i64 0, .bool false, .int .u8 0, .int .u32 0, .int .i64 0, .int .i64 0, .slice none 0 0] 28 rfl rfl KU fr_sz rfl (Fr.cs_one _ _ _ _) ?_
            have hS := hS.row (hS.hd.ne_ KU (by decide)) HUA.out (hS.fa.ne_ KU (by decide)) HUB.out ((Fr.start t f s 0).cs none 0 0)
            have KV := KV.row_other (KV.ne_ KU (by decide)) ((Fr.start t f s 0).cs none 0 0)
            have KU := KU.row ((Fr.start t f s 0).cs none 0 0)
            refine hK.out _ _ hS (fun _ => ?_)
            clear hK K
            try simp only [Act.put]
            go_simp
            refine wpAnyH_ready (rs := [13]) (by kernel_rfl) (by simp) ?_
            refine AllReadyH.cons (o := _) (by simp only [List.getElem?_toArray, List.getElem?_cons_succ, List.getElem?_cons_zero] <;> exact rfl) (fun K hK => ?_) ?_
            focus (
              refine step_store_blk rfl 62 (.tmp 7) (.tmp 22) rfl v #[.bool (shP t f), .bool (shD t f), .bool (shL t), .bool (shC t), .bool (shI t), .bool (shR t f), .bool (shX t)] #[.bool false, .bool false, .bool false, .bool false, .bool false, .bool false, .bool false] 62 rfl rfl KV sh_size rfl (by simp [Value.oneCell']) ?_
              have hS := hS.row (hS.hd.ne_ KV (by decide)) (hS.fr.ne_ KV (by decide)) (hS.fa.ne_ KV (by decide)) HVB.out #[.bool (shP t f), .bool (shD t f), .bool (shL t), .bool (shC t), .bool (shI t), .bool (shR t f), .bool (shX t)]
              have KU := KU.row_other (KU.ne_ KV (by decide)) #[.bool (shP t f), .bool (shD t f), .bool (shL t), .bool (shC t), .bool (shI t), .bool (shR t f), .bool (shX t)]
              have KV := KV.row #[.bool (shP t f), .bool (shD t f), .bool (shL t), .bool (shC t), .bool (shI t), .bool (shR t f), .bool (shX t)]
              refine hK.out _ _ hS (fun _ => ?_)
              clear hK K
              try simp only [Act.put]
              refine wpAnyH_take (i := 14) (v := ?_) (by simp only [List.getElem?_toArray, List.getElem?_cons_succ, List.getElem?_cons_zero] <;> exact rfl) (by kernel_rfl) (by kernel_rfl) (by kernel_rfl) (fun _ _ _ h => h) (Or.inl ⟨by rfl, ?_⟩) hS ?_
              rotate_left
              focus (intro w' hw'; go_simp; all_goals with_reducible rfl)
              try simp only [Act.put, List.setIfInBounds_toArray, List.set_cons_zero, List.set_cons_succ]
              refine wpAnyH_done (by kernel_rfl) ?_ _
              refine NoPanic.normal ?_
              go_wp2_with fail
              go_meet
              exact ⟨u, v, rfl, rfl, rfl, hS, KU, KV, HUA.out, HUB.out⟩)
            exact AllReadyH.nil)
          exact AllReadyH.nil)
        exact AllReadyH.nil)
      refine AllReadyH.cons (o := _) (by simp only [List.getElem?_toArray, List.getElem?_cons_succ, List.getElem?_cons_zero] <;> exact rfl) (fun K hK => ?_) ?_
      focus (
        go_simp
        refine hK.out _ _ (hS.alloc _) (fun _ => ?_)
        have KN := BlkIs.new wk1 62 #[.bool false, .bool false, .bool false, .bool false, .bool false, .bool false, .bool false]
        obtain ⟨v, hv⟩ : ∃ g, g = wk1.heap.size := ⟨_, rfl⟩
        have HVB := hide (show w.heap.size ≤ v by rw [hv]; exact hS.bel.size)
        have hS := hS.alloc (.cells #[.bool false, .bool false, .bool false, .bool false, .bool false, .bool false, .bool false] 62)
        rw [← hv] at KN ⊢
        generalize wk1.alloc (.cells #[.bool false, .bool false, .bool false, .bool false, .bool false, .bool false, .bool false] 62) = wk4 at hS KN ⊢
        clear hv
        have KV := KN
        clear KN
        clear hK K
        try simp only [Act.put, List.setIfInBounds_toArray, List.set_cons_zero, List.set_cons_succ]
        refine wpAnyH_ready (rs := [10]) (by kernel_rfl) (by simp) ?_
        refine AllReadyH.cons (o := _) (by simp only [List.getElem?_toArray, List.getElem?_cons_succ, List.getElem?_cons_zero] <;> exact rfl) (fun K hK => ?_) ?_
        focus (
          go_simp
          refine hK.out _ _ (hS.alloc _) (fun _ => ?_)
          have KN := BlkIs.new wk4 28 #[.int .u8 0, .int .u8 0, .int .i64 0, .string ⟨#[]⟩, .int .i64 0, .int .i64 0, .bool false, .int .u8 0, .int .u32 0, .int .i64 0, .int .i64 0, .slice none 0 0]
          obtain ⟨u, hu⟩ : ∃ g, g = wk4.heap.size := ⟨_, rfl⟩
          have HUA := hide (show a ≠ u by have := hS.fr.lt; omega)
          have HUB := hide (show w.heap.size ≤ u by rw [hu]; exact hS.bel.size)
          have hS := hS.alloc (.cells #[.int .u8 0, .int .u8 0, .int .i64 0, .string ⟨#[]⟩, .int .i64 0, .int .i64 0, .bool false, .int .u8 0, .int .u32 0, .int .i64 0, .int .i64 0, .slice none 0 0] 28)
          have KV := KV.alloc (.cells #[.int .u8 0, .int .u8 0, .int .i64 0, .string ⟨#[]⟩, .int .i64 0, .int .i64 0, .bool false, .int .u8 0, .int .u32 0, .int .i64 0, .int .i64 0, .slice none 0 0] 28)
          rw [← hu] at KN ⊢
          generalize wk4.alloc (.cells #[.int .u8 0, .int .u8 0, .int .i64 0, .string ⟨#[]⟩, .int .i64 0, .int .i64 0, .bool false, .int .u8 0, .int .u32 0, .int .i64 0, .int .i64 0, .slice none 0 0] 28) = wk5 at hS KN KV ⊢
          clear hu
          have KU := KN
          clear KN
          clear hK K
          try simp only [Act.put, List.setIfInBounds_toArray, List.set_cons_zero, List.set_cons_succ]
          refine wpAnyH_ready (rs := [12]) (by kernel_rfl) (by simp) ?_
          refine AllReadyH.cons (o := _) (by simp only [List.getElem?_toArray, List.getElem?_cons_succ, List.getElem?_cons_zero] <;> exact rfl) (fun K hK => ?_) ?_
          focus (
            refine step_store_blk rfl 28 (.tmp 6) (.tmp 20) rfl u ((Fr.start t f s 0).cs none 0 0) #[.int .u8 0, .int .u8 0, .int .i64 0, .string ⟨#[]⟩, .int .i64 0, .int .i64 0, .bool false, .int .u8 0, .int .u32 0, .int .i64 0, .int .i64 0, .slice none 0 0] 28 rfl rfl KU fr_sz rfl (Fr.cs_one _ _ _ _) ?_
            have hS := hS.row (hS.hd.ne_ KU (by decide)) HUA.out (hS.fa.ne_ KU (by decide)) HUB.out ((Fr.start t f s 0).cs none 0 0)
            have KV := KV.row_other (KV.ne_ KU (by decide)) ((Fr.start t f s 0).cs none 0 0)
            have KU := KU.row ((Fr.start t f s 0).cs none 0 0)
            refine hK.out _ _ hS (fun _ => ?_)
            clear hK K
            try simp only [Act.put]
            go_simp
            refine wpAnyH_ready (rs := [13]) (by kernel_rfl) (by simp) ?_
            refine AllReadyH.cons (o := _) (by simp only [List.getElem?_toArray, List.getElem?_cons_succ, List.getElem?_cons_zero] <;> exact rfl) (fun K hK => ?_) ?_
            focus (
              refine step_store_blk rfl 62 (.tmp 7) (.tmp 22) rfl v #[.bool (shP t f), .bool (shD t f), .bool (shL t), .bool (shC t), .bool (shI t), .bool (shR t f), .bool (shX t)] #[.bool false, .bool false, .bool false, .bool false, .bool false, .bool false, .bool false] 62 rfl rfl KV sh_size rfl (by simp [Value.oneCell']) ?_
              have hS := hS.row (hS.hd.ne_ KV (by decide)) (hS.fr.ne_ KV (by decide)) (hS.fa.ne_ KV (by decide)) HVB.out #[.bool (shP t f), .bool (shD t f), .bool (shL t), .bool (shC t), .bool (shI t), .bool (shR t f), .bool (shX t)]
              have KU := KU.row_other (KU.ne_ KV (by decide)) #[.bool (shP t f), .bool (shD t f), .bool (shL t), .bool (shC t), .bool (shI t), .bool (shR t f), .bool (shX t)]
              have KV := KV.row #[.bool (shP t f), .bool (shD t f), .bool (shL t), .bool (shC t), .bool (shI t), .bool (shR t f), .bool (shX t)]
              refine hK.out _ _ hS (fun _ => ?_)
              clear hK K
              try simp only [Act.put]
              refine wpAnyH_take (i := 14) (v := ?_) (by simp only [List.getElem?_toArray, List.getElem?_cons_succ, List.getElem?_cons_zero] <;> exact rfl) (by kernel_rfl) (by kernel_rfl) (by kernel_rfl) (fun _ _ _ h => h) (Or.inl ⟨by rfl, ?_⟩) hS ?_
              rotate_left
              focus (intro w' hw'; go_simp; all_goals with_reducible rfl)
              try simp only [Act.put, List.setIfInBounds_toArray, List.set_cons_zero, List.set_cons_succ]
              refine wpAnyH_done (by kernel_rfl) ?_ _
              refine NoPanic.normal ?_
              go_wp2_with fail
              go_meet
              exact ⟨u, v, rfl, rfl, rfl, hS, KU, KV, HUA.out, HUB.out⟩)
            exact AllReadyH.nil)
          exact AllReadyH.nil)
        exact AllReadyH.nil)
      exact AllReadyH.nil)
    refine AllReadyH.cons (o := _) (by simp only [List.getElem?_toArray, List.getElem?_cons_succ, List.getElem?_cons_zero] <;> exact rfl) (fun K hK => ?_) ?_
    focus (
      go_simp
      refine hK.out _ _ (hS.alloc _) (fun _ => ?_)
      have KN := BlkIs.new v0 28 #[.int .u8 0, .int .u8 0, .int .i64 0, .string ⟨#[]⟩, .int .i64 0, .int .i64 0, .bool false, .int .u8 0, .int .u32 0, .int .i64 0, .int .i64 0, .slice none 0 0]
      obtain ⟨u, hu⟩ : ∃ g, g = v0.heap.size := ⟨_, rfl⟩
      have HUA := hide (show a ≠ u by have := hS.fr.lt; omega)
      have HUB := hide (show w.heap.size ≤ u by rw [hu]; exact hS.bel.size)
      have hS := hS.alloc (.cells #[.int .u8 0, .int .u8 0, .int .i64 0, .string ⟨#[]⟩, .int .i64 0, .int .i64 0, .bool false, .int .u8 0, .int .u32 0, .int .i64 0, .int .i64 0, .slice none 0 0] 28)
      rw [← hu] at KN ⊢
      generalize v0.alloc (.cells #[.int .u8 0, .int .u8 0, .int .i64 0, .string ⟨#[]⟩, .int .i64 0, .int .i64 0, .bool false, .int .u8 0, .int .u32 0, .int .i64 0, .int .i64 0, .slice none 0 0] 28) = wk6 at hS KN ⊢
      clear hu
      have KU := KN
      clear KN
      clear hK K
      try simp only [Act.put, List.setIfInBounds_toArray, List.set_cons_zero, List.set_cons_succ]
      refine wpAnyH_ready (rs := [8, 11]) (by kernel_rfl) (by simp) ?_
      refine AllReadyH.cons (o := _) (by simp only [List.getElem?_toArray, List.getElem?_cons_succ, List.getElem?_cons_zero] <;> exact rfl) (fun K hK => ?_) ?_
      focus (
        go_simp
        go_at_call 23
        refine (HSh.out _).mono ?_
        rintro e wk7 ⟨rfl, hb⟩
        have hS := hS.keep hb
        have KU := KU.keep hb
        clear hb
        go_wp2_with fail
        refine hK.out _ _ hS (fun _ => ?_)
        clear hK K
        try simp only [Act.put, List.setIfInBounds_toArray, List.set_cons_zero, List.set_cons_succ]
        refine wpAnyH_ready (rs := [11]) (by kernel_rfl) (by simp) ?_
        refine AllReadyH.cons (o := _) (by simp only [List.getElem?_toArray, List.getElem?_cons_succ, List.getElem?_cons_zero] <;> exact rfl) (fun K hK => ?_) ?_
        focus (
          go_simp
          refine hK.out _ _ (hS.alloc _) (fun _ => ?_)
          have KN := BlkIs.new wk7 62 #[.bool false, .bool false, .bool false, .bool false, .bool false, .bool false, .bool false]
          obtain ⟨v, hv⟩ : ∃ g, g = wk7.heap.size := ⟨_, rfl⟩
          have HVB := hide (show w.heap.size ≤ v by rw [hv]; exact hS.bel.size)
          have hS := hS.alloc (.cells #[.bool false, .bool false, .bool false, .bool false, .bool false, .bool false, .bool false] 62)
          have KU := KU.alloc (.cells #[.bool false, .bool false, .bool false, .bool false, .bool false, .bool false, .bool false] 62)
          rw [← hv] at KN ⊢
          generalize wk7.alloc (.cells #[.bool false, .bool false, .bool false, .bool false, .bool false, .bool false, .bool false] 62) = wk8 at hS KN KU ⊢
          clear hv
          have KV := KN
          clear KN
          clear hK K
          try simp only [Act.put, List.setIfInBounds_toArray, List.set_cons_zero, List.set_cons_succ]
          refine wpAnyH_ready (rs := [12]) (by kernel_rfl) (by simp) ?_
          refine AllReadyH.cons (o := _) (by simp only [List.getElem?_toArray, List.getElem?_cons_succ, List.getElem?_cons_zero] <;> exact rfl) (fun K hK => ?_) ?_
          focus (
            refine step_store_blk rfl 28 (.tmp 6) (.tmp 20) rfl u ((Fr.start t f s 0).cs none 0 0) #[.int .u8 0, .int .u8 0, .int .i64 0, .string ⟨#[]⟩, .int .i64 0, .int .i64 0, .bool false, .int .u8 0, .int .u32 0, .int .i64 0, .int .i64 0, .slice none 0 0] 28 rfl rfl KU fr_sz rfl (Fr.cs_one _ _ _ _) ?_
            have hS := hS.row (hS.hd.ne_ KU (by decide)) HUA.out (hS.fa.ne_ KU (by decide)) HUB.out ((Fr.start t f s 0).cs none 0 0)
            have KV := KV.row_other (KV.ne_ KU (by decide)) ((Fr.start t f s 0).cs none 0 0)
            have KU := KU.row ((Fr.start t f s 0).cs none 0 0)
            refine hK.out _ _ hS (fun _ => ?_)
            clear hK K
            try simp only [Act.put]
            go_simp
            refine wpAnyH_ready (rs := [13]) (by kernel_rfl) (by simp) ?_
            refine AllReadyH.cons (o := _) (by simp only [List.getElem?_toArray, List.getElem?_cons_succ, List.getElem?_cons_zero] <;> exact rfl) (fun K hK => ?_) ?_
            focus (
              refine step_store_blk rfl 62 (.tmp 7) (.tmp 22) rfl v #[.bool (shP t f), .bool (shD t f), .bool (shL t), .bool (shC t), .bool (shI t), .bool (shR t f), .bool (shX t)] #[.bool false, .bool false, .bool false, .bool false, .bool false, .bool false, .bool false] 62 rfl rfl KV sh_size rfl (by simp [Value.oneCell']) ?_
              have hS := hS.row (hS.hd.ne_ KV (by decide)) (hS.fr.ne_ KV (by decide)) (hS.fa.ne_ KV (by decide)) HVB.out #[.bool (shP t f), .bool (shD t f), .bool (shL t), .bool (shC t), .bool (shI t), .bool (shR t f), .bool (shX t)]
              have KU := KU.row_other (KU.ne_ KV (by decide)) #[.bool (shP t f), .bool (shD t f), .bool (shL t), .bool (shC t), .bool (shI t), .bool (shR t f), .bool (shX t)]
              have KV := KV.row #[.bool (shP t f), .bool (shD t f), .bool (shL t), .bool (shC t), .bool (shI t), .bool (shR t f), .bool (shX t)]
              refine hK.out _ _ hS (fun _ => ?_)
              clear hK K
              try simp only [Act.put]
              refine wpAnyH_take (i := 14) (v := ?_) (by simp only [List.getElem?_toArray, List.getElem?_cons_succ, List.getElem?_cons_zero] <;> exact rfl) (by kernel_rfl) (by kernel_rfl) (by kernel_rfl) (fun _ _ _ h => h) (Or.inl ⟨by rfl, ?_⟩) hS ?_
              rotate_left
              focus (intro w' hw'; go_simp; all_goals with_reducible rfl)
              try simp only [Act.put, List.setIfInBounds_toArray, List.set_cons_zero, List.set_cons_succ]
              refine wpAnyH_done (by kernel_rfl) ?_ _
              refine NoPanic.normal ?_
              go_wp2_with fail
              go_meet
              exact ⟨u, v, rfl, rfl, rfl, hS, KU, KV, HUA.out, HUB.out⟩)
            exact AllReadyH.nil)
          exact AllReadyH.nil)
        exact AllReadyH.nil)
      refine AllReadyH.cons (o := _) (by simp only [List.getElem?_toArray, List.getElem?_cons_succ, List.getElem?_cons_zero] <;> exact rfl) (fun K hK => ?_) ?_
      focus (
        go_simp
        refine hK.out _ _ (hS.alloc _) (fun _ => ?_)
        have KN := BlkIs.new wk6 62 #[.bool false, .bool false, .bool false, .bool false, .bool false, .bool false, .bool false]
        obtain ⟨v, hv⟩ : ∃ g, g = wk6.heap.size := ⟨_, rfl⟩
        have HVB := hide (show w.heap.size ≤ v by rw [hv]; exact hS.bel.size)
        have hS := hS.alloc (.cells #[.bool false, .bool false, .bool false, .bool false, .bool false, .bool false, .bool false] 62)
        have KU := KU.alloc (.cells #[.bool false, .bool false, .bool false, .bool false, .bool false, .bool false, .bool false] 62)
        rw [← hv] at KN ⊢
        generalize wk6.alloc (.cells #[.bool false, .bool false, .bool false, .bool false, .bool false, .bool false, .bool false] 62) = wk9 at hS KN KU ⊢
        clear hv
        have KV := KN
        clear KN
        clear hK K
        try simp only [Act.put, List.setIfInBounds_toArray, List.set_cons_zero, List.set_cons_succ]
        refine wpAnyH_ready (rs := [8]) (by kernel_rfl) (by simp) ?_
        refine AllReadyH.cons (o := _) (by simp only [List.getElem?_toArray, List.getElem?_cons_succ, List.getElem?_cons_zero] <;> exact rfl) (fun K hK => ?_) ?_
        focus (
          go_simp
          go_at_call 23
          refine (HSh.out _).mono ?_
          rintro e wk10 ⟨rfl, hb⟩
          have hS := hS.keep hb
          have KU := KU.keep hb
          have KV := KV.keep hb
          clear hb
          go_wp2_with fail
          refine hK.out _ _ hS (fun _ => ?_)
          clear hK K
          try simp only [Act.put, List.setIfInBounds_toArray, List.set_cons_zero, List.set_cons_succ]
          refine wpAnyH_ready (rs := [12]) (by kernel_rfl) (by simp) ?_
          refine AllReadyH.cons (o := _) (by simp only [List.getElem?_toArray, List.getElem?_cons_succ, List.getElem?_cons_zero] <;> exact rfl) (fun K hK => ?_) ?_
          focus (
            refine step_store_blk rfl 28 (.tmp 6) (.tmp 20) rfl u ((Fr.start t f s 0).cs none 0 0) #[.int .u8 0, .int .u8 0, .int .i64 0, .string ⟨#[]⟩, .int .i64 0, .int .i64 0, .bool false, .int .u8 0, .int .u32 0, .int .i64 0, .int .i64 0, .slice none 0 0] 28 rfl rfl KU fr_sz rfl (Fr.cs_one _ _ _ _) ?_
            have hS := hS.row (hS.hd.ne_ KU (by decide)) HUA.out (hS.fa.ne_ KU (by decide)) HUB.out ((Fr.start t f s 0).cs none 0 0)
            have KV := KV.row_other (KV.ne_ KU (by decide)) ((Fr.start t f s 0).cs none 0 0)
            have KU := KU.row ((Fr.start t f s 0).cs none 0 0)
            refine hK.out _ _ hS (fun _ => ?_)
            clear hK K
            try simp only [Act.put]
            go_simp
            refine wpAnyH_ready (rs := [13]) (by kernel_rfl) (by simp) ?_
            refine AllReadyH.cons (o := _) (by simp only [List.getElem?_toArray, List.getElem?_cons_succ, List.getElem?_cons_zero] <;> exact rfl) (fun K hK => ?_) ?_
            focus (
              refine step_store_blk rfl 62 (.tmp 7) (.tmp 22) rfl v #[.bool (shP t f), .bool (shD t f), .bool (shL t), .bool (shC t), .bool (shI t), .bool (shR t f), .bool (shX t)] #[.bool false, .bool false, .bool false, .bool false, .bool false, .bool false, .bool false] 62 rfl rfl KV sh_size rfl (by simp [Value.oneCell']) ?_
              have hS := hS.row (hS.hd.ne_ KV (by decide)) (hS.fr.ne_ KV (by decide)) (hS.fa.ne_ KV (by decide)) HVB.out #[.bool (shP t f), .bool (shD t f), .bool (shL t), .bool (shC t), .bool (shI t), .bool (shR t f), .bool (shX t)]
              have KU := KU.row_other (KU.ne_ KV (by decide)) #[.bool (shP t f), .bool (shD t f), .bool (shL t), .bool (shC t), .bool (shI t), .bool (shR t f), .bool (shX t)]
              have KV := KV.row #[.bool (shP t f), .bool (shD t f), .bool (shL t), .bool (shC t), .bool (shI t), .bool (shR t f), .bool (shX t)]
              refine hK.out _ _ hS (fun _ => ?_)
              clear hK K
              try simp only [Act.put]
              refine wpAnyH_take (i := 14) (v := ?_) (by simp only [List.getElem?_toArray, List.getElem?_cons_succ, List.getElem?_cons_zero] <;> exact rfl) (by kernel_rfl) (by kernel_rfl) (by kernel_rfl) (fun _ _ _ h => h) (Or.inl ⟨by rfl, ?_⟩) hS ?_
              rotate_left
              focus (intro w' hw'; go_simp; all_goals with_reducible rfl)
              try simp only [Act.put, List.setIfInBounds_toArray, List.set_cons_zero, List.set_cons_succ]
              refine wpAnyH_done (by kernel_rfl) ?_ _
              refine NoPanic.normal ?_
              go_wp2_with fail
              go_meet
              exact ⟨u, v, rfl, rfl, rfl, hS, KU, KV, HUA.out, HUB.out⟩)
            exact AllReadyH.nil)
          exact AllReadyH.nil)
        exact AllReadyH.nil)
      exact AllReadyH.nil)
    refine AllReadyH.cons (o := _) (by simp only [List.getElem?_toArray, List.getElem?_cons_succ, List.getElem?_cons_zero] <;> exact rfl) (fun K hK => ?_) ?_
    focus (
      go_simp
      refine hK.out _ _ (hS.alloc _) (fun _ => ?_)
      have KN := BlkIs.new v0 62 #[.bool false, .bool false, .bool false, .bool false, .bool false, .bool false, .bool false]
      obtain ⟨v, hv⟩ : ∃ g, g = v0.heap.size := ⟨_, rfl⟩
      have HVB := hide (show w.heap.size ≤ v by rw [hv]; exact hS.bel.size)
      have hS := hS.alloc (.cells #[.bool false, .bool false, .bool false, .bool false, .bool false, .bool false, .bool false] 62)
      rw [← hv] at KN ⊢
      generalize v0.alloc (.cells #[.bool false, .bool false, .bool false, .bool false, .bool false, .bool false, .bool false] 62) = wk11 at hS KN ⊢
      clear hv
      have KV := KN
      clear KN
      clear hK K
      try simp only [Act.put, List.setIfInBounds_toArray, List.set_cons_zero, List.set_cons_succ]
      refine wpAnyH_ready (rs := [8, 10]) (by kernel_rfl) (by simp) ?_
      refine AllReadyH.cons (o := _) (by simp only [List.getElem?_toArray, List.getElem?_cons_succ, List.getElem?_cons_zero] <;> exact rfl) (fun K hK => ?_) ?_
      focus (
        go_simp
        go_at_call 23
        refine (HSh.out _).mono ?_
        rintro e wk12 ⟨rfl, hb⟩
        have hS := hS.keep hb
        have KV := KV.keep hb
        clear hb
        go_wp2_with fail
        refine hK.out _ _ hS (fun _ => ?_)
        clear hK K
        try simp only [Act.put, List.setIfInBounds_toArray, List.set_cons_zero, List.set_cons_succ]
        refine wpAnyH_ready (rs := [10]) (by kernel_rfl) (by simp) ?_
        refine AllReadyH.cons (o := _) (by simp only [List.getElem?_toArray, List.getElem?_cons_succ, List.getElem?_cons_zero] <;> exact rfl) (fun K hK => ?_) ?_
        focus (
          go_simp
          refine hK.out _ _ (hS.alloc _) (fun _ => ?_)
          have KN := BlkIs.new wk12 28 #[.int .u8 0, .int .u8 0, .int .i64 0, .string ⟨#[]⟩, .int .i64 0, .int .i64 0, .bool false, .int .u8 0, .int .u32 0, .int .i64 0, .int .i64 0, .slice none 0 0]
          obtain ⟨u, hu⟩ : ∃ g, g = wk12.heap.size := ⟨_, rfl⟩
          have HUA := hide (show a ≠ u by have := hS.fr.lt; omega)
          have HUB := hide (show w.heap.size ≤ u by rw [hu]; exact hS.bel.size)
          have hS := hS.alloc (.cells #[.int .u8 0, .int .u8 0, .int .i64 0, .string ⟨#[]⟩, .int .i64 0, .int .i64 0, .bool false, .int .u8 0, .int .u32 0, .int .i64 0, .int .i64 0, .slice none 0 0] 28)
          have KV := KV.alloc (.cells #[.int .u8 0, .int .u8 0, .int .i64 0, .string ⟨#[]⟩, .int .i64 0, .int .i64 0, .bool false, .int .u8 0, .int .u32 0, .int .i64 0, .int .i64 0, .slice none 0 0] 28)
          rw [← hu] at KN ⊢
          generalize wk12.alloc (.cells #[.int .u8 0, .int .u8 0, .int .i64 0, .string ⟨#[]⟩, .int .i64 0, .int .i64 0, .bool false, .int .u8 0, .int .u32 0, .int .i64 0, .int .i64 0, .slice none 0 0] 28) = wk13 at hS KN KV ⊢
          clear hu
          have KU := KN
          clear KN
          clear hK K
          try simp only [Act.put, List.setIfInBounds_toArray, List.set_cons_zero, List.set_cons_succ]
          refine wpAnyH_ready (rs := [12]) (by kernel_rfl) (by simp) ?_
          refine AllReadyH.cons (o := _) (by simp only [List.getElem?_toArray, List.getElem?_cons_succ, List.getElem?_cons_zero] <;> exact rfl) (fun K hK => ?_) ?_
          focus (
            refine step_store_blk rfl 28 (.tmp 6) (.tmp 20) rfl u ((Fr.start t f s 0).cs none 0 0) #[.int .u8 0, .int .u8 0, .int .i64 0, .string ⟨#[]⟩, .int .i64 0, .int .i64 0, .bool false, .int .u8 0, .int .u32 0, .int .i64 0, .int .i64 0, .slice none 0 0] 28 rfl rfl KU fr_sz rfl (Fr.cs_one _ _ _ _) ?_
            have hS := hS.row (hS.hd.ne_ KU (by decide)) HUA.out (hS.fa.ne_ KU (by decide)) HUB.out ((Fr.start t f s 0).cs none 0 0)
            have KV := KV.row_other (KV.ne_ KU (by decide)) ((Fr.start t f s 0).cs none 0 0)
            have KU := KU.row ((Fr.start t f s 0).cs none 0 0)
            refine hK.out _ _ hS (fun _ => ?_)
            clear hK K
            try simp only [Act.put]
            go_simp
            refine wpAnyH_ready (rs := [13]) (by kernel_rfl) (by simp) ?_
            refine AllReadyH.cons (o := _) (by simp only [List.getElem?_toArray, List.getElem?_cons_succ, List.getElem?_cons_zero] <;> exact rfl) (fun K hK => ?_) ?_
            focus (
              refine step_store_blk rfl 62 (.tmp 7) (.tmp 22) rfl v #[.bool (shP t f), .bool (shD t f), .bool (shL t), .bool (shC t), .bool (shI t), .bool (shR t f), .bool (shX t)] #[.bool false, .bool false, .bool false, .bool false, .bool false, .bool false, .bool false] 62 rfl rfl KV sh_size rfl (by simp [Value.oneCell']) ?_
              have hS := hS.row (hS.hd.ne_ KV (by decide)) (hS.fr.ne_ KV (by decide)) (hS.fa.ne_ KV (by decide)) HVB.out #[.bool (shP t f), .bool (shD t f), .bool (shL t), .bool (shC t), .bool (shI t), .bool (shR t f), .bool (shX t)]
              have KU := KU.row_other (KU.ne_ KV (by decide)) #[.bool (shP t f), .bool (shD t f), .bool (shL t), .bool (shC t), .bool (shI t), .bool (shR t f), .bool (shX t)]
              have KV := KV.row #[.bool (shP t f), .bool (shD t f), .bool (shL t), .bool (shC t), .bool (shI t), .bool (shR t f), .bool (shX t)]
              refine hK.out _ _ hS (fun _ => ?_)
              clear hK K
              try simp only [Act.put]
              refine wpAnyH_take (i := 14) (v := ?_) (by simp only [List.getElem?_toArray, List.getElem?_cons_succ, List.getElem?_cons_zero] <;> exact rfl) (by kernel_rfl) (by kernel_rfl) (by kernel_rfl) (fun _ _ _ h => h) (Or.inl ⟨by rfl, ?_⟩) hS ?_
              rotate_left
              focus (intro w' hw'; go_simp; all_goals with_reducible rfl)
              try simp only [Act.put, List.setIfInBounds_toArray, List.set_cons_zero, List.set_cons_succ]
              refine wpAnyH_done (by kernel_rfl) ?_ _
              refine NoPanic.normal ?_
              go_wp2_with fail
              go_meet
              exact ⟨u, v, rfl, rfl, rfl, hS, KU, KV, HUA.out, HUB.out⟩)
            exact AllReadyH.nil)
          exact AllReadyH.nil)
        exact AllReadyH.nil)
      refine AllReadyH.cons (o := _) (by simp only [List.getElem?_toArray, List.getElem?_cons_succ, List.getElem?_cons_zero] <;> exact rfl) (fun K hK => ?_) ?_
      focus (
        go_simp
        refine hK.out _ _ (hS.alloc _) (fun _ => ?_)
        have KN := BlkIs.new wk11 28 #[.int .u8 0, .int .u8 0, .int .i64 0, .string ⟨#[]⟩, .int .i64 0, .int .i64 0, .bool false, .int .u8 0, .int .u32 0, .int .i64 0, .int .i64 0, .slice none 0 0]
        obtain ⟨u, hu⟩ : ∃ g, g = wk11.heap.size := ⟨_, rfl⟩
        have HUA := hide (show a ≠ u by have := hS.fr.lt; omega)
        have HUB := hide (show w.heap.size ≤ u by rw [hu]; exact hS.bel.size)
        have hS := hS.alloc (.cells #[.int .u8 0, .int .u8 0, .int .i64 0, .string ⟨#[]⟩, .int .i64 0, .int .i64 0, .bool false, .int .u8 0, .int .u32 0, .int .i64 0, .int .i64 0, .slice none 0 0] 28)
        have KV := KV.alloc (.cells #[.int .u8 0, .int .u8 0, .int .i64 0, .string ⟨#[]⟩, .int .i64 0, .int .i64 0, .bool false, .int .u8 0, .int .u32 0, .int .i64 0, .int .i64 0, .slice none 0 0] 28)
        rw [← hu] at KN ⊢
        generalize wk11.alloc (.cells #[.int .u8 0, .int .u8 0, .int .i64 0, .string ⟨#[]⟩, .int .i64 0, .int .i64 0, .bool false, .int .u8 0, .int .u32 0, .int .i64 0, .int .i64 0, .slice none 0 0] 28) = wk14 at hS KN KV ⊢
        clear hu
        have KU := KN
        clear KN
        clear hK K
        try simp only [Act.put, List.setIfInBounds_toArray, List.set_cons_zero, List.set_cons_succ]
        refine wpAnyH_ready (rs := [8]) (by kernel_rfl) (by simp) ?_
        refine AllReadyH.cons (o := _) (by simp only [List.getElem?_toArray, List.getElem?_cons_succ, List.getElem?_cons_zero] <;> exact rfl) (fun K hK => ?_) ?_
        focus (
          go_simp
          go_at_call 23
          refine (HSh.out _).mono ?_
          rintro e wk15 ⟨rfl, hb⟩
          have hS := hS.keep hb
          have KU := KU.keep hb
          have KV := KV.keep hb
          clear hb
          go_wp2_with fail
          refine hK.out _ _ hS (fun _ => ?_)
          clear hK K
          try simp only [Act.put, List.setIfInBounds_toArray, List.set_cons_zero, List.set_cons_succ]
          refine wpAnyH_ready (rs := [12]) (by kernel_rfl) (by simp) ?_
          refine AllReadyH.cons (o := _) (by simp only [List.getElem?_toArray, List.getElem?_cons_succ, List.getElem?_cons_zero] <;> exact rfl) (fun K hK => ?_) ?_
          focus (
            refine step_store_blk rfl 28 (.tmp 6) (.tmp 20) rfl u ((Fr.start t f s 0).cs none 0 0) #[.int .u8 0, .int .u8 0, .int .i64 0, .string ⟨#[]⟩, .int .i64 0, .int .i64 0, .bool false, .int .u8 0, .int .u32 0, .int .i64 0, .int .i64 0, .slice none 0 0] 28 rfl rfl KU fr_sz rfl (Fr.cs_one _ _ _ _) ?_
            have hS := hS.row (hS.hd.ne_ KU (by decide)) HUA.out (hS.fa.ne_ KU (by decide)) HUB.out ((Fr.start t f s 0).cs none 0 0)
            have KV := KV.row_other (KV.ne_ KU (by decide)) ((Fr.start t f s 0).cs none 0 0)
            have KU := KU.row ((Fr.start t f s 0).cs none 0 0)
            refine hK.out _ _ hS (fun _ => ?_)
            clear hK K
            try simp only [Act.put]
            go_simp
            refine wpAnyH_ready (rs := [13]) (by kernel_rfl) (by simp) ?_
            refine AllReadyH.cons (o := _) (by simp only [List.getElem?_toArray, List.getElem?_cons_succ, List.getElem?_cons_zero] <;> exact rfl) (fun K hK => ?_) ?_
            focus (
              refine step_store_blk rfl 62 (.tmp 7) (.tmp 22) rfl v #[.bool (shP t f), .bool (shD t f), .bool (shL t), .bool (shC t), .bool (shI t), .bool (shR t f), .bool (shX t)] #[.bool false, .bool false, .bool false, .bool false, .bool false, .bool false, .bool false] 62 rfl rfl KV sh_size rfl (by simp [Value.oneCell']) ?_
              have hS := hS.row (hS.hd.ne_ KV (by decide)) (hS.fr.ne_ KV (by decide)) (hS.fa.ne_ KV (by decide)) HVB.out #[.bool (shP t f), .bool (shD t f), .bool (shL t), .bool (shC t), .bool (shI t), .bool (shR t f), .bool (shX t)]
              have KU := KU.row_other (KU.ne_ KV (by decide)) #[.bool (shP t f), .bool (shD t f), .bool (shL t), .bool (shC t), .bool (shI t), .bool (shR t f), .bool (shX t)]
              have KV := KV.row #[.bool (shP t f), .bool (shD t f), .bool (shL t), .bool (shC t), .bool (shI t), .bool (shR t f), .bool (shX t)]
              refine hK.out _ _ hS (fun _ => ?_)
              clear hK K
              try simp only [Act.put]
              refine wpAnyH_take (i := 14) (v := ?_) (by simp only [List.getElem?_toArray, List.getElem?_cons_succ, List.getElem?_cons_zero] <;> exact rfl) (by kernel_rfl) (by kernel_rfl) (by kernel_rfl) (fun _ _ _ h => h) (Or.inl ⟨by rfl, ?_⟩) hS ?_
              rotate_left
              focus (intro w' hw'; go_simp; all_goals with_reducible rfl)
              try simp only [Act.put, List.setIfInBounds_toArray, List.set_cons_zero, List.set_cons_succ]
              refine wpAnyH_done (by kernel_rfl) ?_ _
              refine NoPanic.normal ?_
              go_wp2_with fail
              go_meet
              exact ⟨u, v, rfl, rfl, rfl, hS, KU, KV, HUA.out, HUB.out⟩)
            exact AllReadyH.nil)
          exact AllReadyH.nil)
        exact AllReadyH.nil)
      exact AllReadyH.nil)
    exact AllReadyH.nil
  obtain ⟨u, v, rfl, rfl, rfl, hS, hU, hV, hau, hub⟩ := hcut
  have S2 := hide hS
  have U2 := hide hU
  have V2 := hide hV
  have HAU := hide hau
  have HUB := hide hub
  clear hS hU hV hau hub S1 HM HSh
  have HX0 := hide (bts_len x)
  have HXA := hide (bts_all x)
  have y0 := V2.out.cell 0
  simp only [List.getElem?_toArray, List.getElem?_cons_zero] at y0
  have HB0 := hide (show bodyR t f (bts x) = if shP t f then ((bts x).drop 1).take ((bts x).length - 1 - ((bts x).getD 0 0).toNat) else bts x from rfl)
  have HP0 := hide (show padR t f (bts x) = if shP t f then (bts x).getD 0 0 else 0 from rfl)
  obtain ⟨P, hP⟩ : ∃ P, P = shP t f := ⟨_, rfl⟩
  rw [← hP] at y0 HRD HB0 HP0
  have HPP := hide hP
  clear hP
  go_upto_if 25 with (fail)
  go_cut [8] (fun s8 wx => ∃ z, s8 = .string z ∧ bts z = bodyR t f (bts x) ∧ RdS h a b ln t f s w wx ∧ BlkIs wx u 28 ((Fr.start t f s (padR t f (bts x))).cs none 0 0) ∧ BlkIs wx v 62 #[.bool (shP t f), .bool (shD t f), .bool (shL t), .bool (shC t), .bool (shI t), .bool (shR t f), .bool (shX t)] ∧ RV = if rightB t f (bodyR t f (bts x)).length = false then Rd.fault 6 (if t = 2 then s else 0) else if shI t = true ∧ (fillR t f s (bts x)).inc = 0 then Rd.fault 1 s else ⟨fillR t f s (bts x), prsRd t f (bts x), 0, 0⟩)
  case first =>
    cases P with
    | false =>
      have HRD2 := hide (HRD.out.trans ((if_neg (by simp)).trans (if_neg (by simp))))
      go_wp2
      go_meet
      exact ⟨x, rfl, by rw [HB0.out]; rfl, S2.out, by rw [HP0.out]; exact U2.out, V2.out, HRD2.out⟩
    | true =>
      by_cases h0 : x.size = 0
      · obtain rfl := ba_empty h0
        have HRD2 := hide (show RV = Rd.fault 6 0 from HRD.out.trans (if_pos ⟨rfl, rfl⟩))
        clear h0
        go_wp2_with fail
        refine (unpad_nil _).mono ?_
        rintro e w3 ⟨rfl, hb3⟩
        have S3 := hide (S2.out.keep hb3)
        have U3 := hide (U2.out.keep hb3)
        clear hb3 y0
        have d4 := (U3.out.cell 4).trans (show ((Fr.start t f s 0).cs none 0 0)[4]? = some (.int .i64 0) from rfl)
        have z4 := U3.out.frozen 4
        go_upto_region 8 with (fail)
        clear d4 z4
        have S4 := hide (S3.out.cell u HAU.out HUB.out U3.out 4 (.int .i64 0))
        generalize w3.setCell ⟨u, 4, none⟩ (.int .i64 0) = w4 at S4 ⊢
        go_wp2_with (first
          | (refine wpList_store_blk rfl 28 (.tmp 4) (.tmp 35) rfl a (Fr.zero.cs none 0 0) (Fr.zero.cs none 0 0) 28 rfl rfl S4.out.fr fr_sz rfl (Fr.cs_one _ _ _ _) ?_)
          | (refine wpList_store_blk rfl 31 (.tmp 5) (.tmp 37) rfl b #[.int .u32 6, .int .i64 0] #[.int .u32 0, .int .i64 0] 31 rfl rfl (S4.out.fa.row_other (Ne.symm HAB.out) _) fa_size rfl (fa_one _ _ rfl rfl) ?_))
        have hd := rd_done S4.out (Rd.fault 6 0) none 0 (PL.none_ _) HAB.out
        rw [HRD2.out]
        exact bodyPost_ret (results_frfa rfl _ _ a b Fr.zero none 0 0 _ _ rfl rfl hd.1 hd.2.1) rfl hd.2.2
      · by_cases hb : ((bts x).length : Int) - 1 < (bts x).getD 0 0
        · have HRD2 := hide (show RV = Rd.fault 1 0 from HRD.out.trans ((if_neg (by rw [HX0.out]; simp [h0])).trans (if_pos ⟨rfl, hb⟩)))
          have HUN := hide (unpad_bad x (by omega) (by omega) (by rw [HX0.out] at hb; exact hb))
          clear h0 hb
          go_wp2_with fail
          refine (HUN.out _).mono ?_
          rintro e w3 ⟨rfl, hb3⟩
          have S3 := hide (S2.out.keep hb3)
          have U3 := hide (U2.out.keep hb3)
          clear hb3 y0
          have d4 := (U3.out.cell 4).trans (show ((Fr.start t f s 0).cs none 0 0)[4]? = some (.int .i64 0) from rfl)
          have z4 := U3.out.frozen 4
          go_upto_region 8 with (fail)
          clear d4 z4
          have S4 := hide (S3.out.cell u HAU.out HUB.out U3.out 4 (.int .i64 0))
          generalize w3.setCell ⟨u, 4, none⟩ (.int .i64 0) = w4 at S4 ⊢
          go_wp2_with (first
            | (refine wpList_store_blk rfl 28 (.tmp 4) (.tmp 35) rfl a (Fr.zero.cs none 0 0) (Fr.zero.cs none 0 0) 28 rfl rfl S4.out.fr fr_sz rfl (Fr.cs_one _ _ _ _) ?_)
            | (refine wpList_store_blk rfl 31 (.tmp 5) (.tmp 37) rfl b #[.int .u32 1, .int .i64 0] #[.int .u32 0, .int .i64 0] 31 rfl rfl (S4.out.fa.row_other (Ne.symm HAB.out) _) fa_size rfl (fa_one _ _ rfl rfl) ?_))
          have hd := rd_done S4.out (Rd.fault 1 0) none 0 (PL.none_ _) HAB.out
          rw [HRD2.out]
          exact bodyPost_ret (results_frfa rfl _ _ a b Fr.zero none 0 0 _ _ rfl rfl hd.1 hd.2.1) rfl hd.2.2
        · have HRD2 := hide (HRD.out.trans ((if_neg (by rw [HX0.out]; simp [h0])).trans (if_neg (by rintro ⟨_, h⟩; exact hb h))))
          have HUN := hide (unpad_ok x (by omega) (by omega) (by rw [HX0.out] at hb; omega))
          clear h0 hb
          go_wp2_with fail
          refine (HUN.out _).mono ?_
          rintro e w3 ⟨z, rfl, hz, hb3⟩
          have S3 := hide (S2.out.keep hb3)
          have U3 := hide (U2.out.keep hb3)
          have V3 := hide (V2.out.keep hb3)
          have HZB := hide hz
          clear hb3 y0 hz
          have d4 := (U3.out.cell 4).trans (show ((Fr.start t f s 0).cs none 0 0)[4]? = some (.int .i64 0) from rfl)
          have z4 := U3.out.frozen 4
          generalize hpd : (bts x).getD 0 0 = pd at *
          go_wp2_with fail
          go_meet
          refine ⟨z, rfl, by rw [HB0.out, HX0.out]; exact HZB.out, S3.out.cell u HAU.out HUB.out U3.out 4 (.int .i64 pd), ?_, V3.out.far (p := ⟨u, 4, none⟩) (V3.out.ne_ U3.out (by decide)) _, HRD2.out⟩
          rw [HP0.out]
          exact U3.out.put 4 (.int .i64 pd)
  obtain ⟨z, rfl, hz, hS, hU, hV, hRV⟩ := hcut
  have S3 := hide hS
  have U3 := hide hU
  have V3 := hide hV
  have HRV := hide hRV
  have HFR := hide (show fillR t f s (bts x) = fillF (shD t f) (shL t) (shC t) (shI t) (shX t) (Fr.start t f s (padR t f (bts x))) (bodyR t f (bts x)) from rfl)
  have HPR := hide (show prsRd t f (bts x) = prsR (shR t f) (bodyR t f (bts x)) ((bodyR t f (bts x)).length / 6) from rfl)
  generalize bodyR t f (bts x) = ys at *
  generalize padR t f (bts x) = pd at *
  have hzl : z.size = ys.length := by rw [← hz, bts_len]
  have HZS := hide (show (z.size : Int) ≤ 600000 by
    have h1 := HB0.out
    have h2 := HX0.out
    rw [hzl, h1]
    split
    · rw [List.length_take, List.length_drop]; omega
    · omega)
  rw [← hzl] at HRV HPR
  have HZB := hide hz
  clear hS hU hV hRV S2 U2 V2 y0 hz hzl
  have HRS := hide (fun w => fr_rightSize t f (z.size : Int) t0 (by omega) (by have := HZS.out; omega) w)
  rw [show shV t f = #[.bool (shP t f), .bool (shD t f), .bool (shL t), .bool (shC t), .bool (shI t), .bool (shR t f), .bool (shX t)] from rfl] at HRS
  obtain ⟨k0, k1, k2, k3⟩ := hd_cells S3.out.hd
  obtain ⟨c0_, c1_, c2_, c3_, c4_, c5_, c6_⟩ := sh_cells V3.out
  go_wp2_with fail
  refine (HRS.out _).mono ?_
  rintro e w3 ⟨rfl, hb3⟩
  have S4 := hide (S3.out.keep hb3)
  have U4 := hide (U3.out.keep hb3)
  have V4 := hide (V3.out.keep hb3)
  clear hb3 S3 U3 V3 k0 k1 k2 k3 c0_ c1_ c2_ c3_ c4_ c5_ c6_ HRS
  cases hr : rightB t f (z.size : Int) with
  | false =>
    have HRV2 := hide (show RV = Rd.fault 6 (if t = 2 then s else 0) from HRV.out.trans (if_pos hr))
    clear hr HRV
    obtain ⟨k0, k1, k2, k3⟩ := hd_cells S4.out.hd
    go_wp2_with fail
    refine (fr_wrongSize ln t f s _).mono ?_
    rintro e w5 ⟨rfl, hb5⟩
    have S5 := hide (S4.out.keep hb5)
    clear hb5 k0 k1 k2 k3
    generalize (if t = 2 then s else 0) = fs at *
    go_wp2_with (first
      | (refine wpList_store_blk rfl 28 (.tmp 4) (.tmp 45) rfl a (Fr.zero.cs none 0 0) (Fr.zero.cs none 0 0) 28 rfl rfl S5.out.fr fr_sz rfl (Fr.cs_one _ _ _ _) ?_)
      | (refine wpList_store_blk rfl 31 (.tmp 5) (.tmp 47) rfl b #[.int .u32 6, .int .i64 fs] #[.int .u32 0, .int .i64 0] 31 rfl rfl (S5.out.fa.row_other (Ne.symm HAB.out) _) fa_size rfl (fa_one _ _ rfl rfl) ?_))
    have hd := rd_done S5.out (Rd.fault 6 fs) none 0 (PL.none_ _) HAB.out
    rw [HRV2.out]
    exact bodyPost_ret (results_frfa rfl _ _ a b Fr.zero none 0 0 _ _ rfl rfl hd.1 hd.2.1) rfl hd.2.2
  | true =>
    have HRV2 := hide (HRV.out.trans (if_neg (by rw [hr]; simp)))
    have HFill := hide (fun w => fr_fill (shP t f) (shD t f) (shL t) (shC t) (shI t) (shR t f) (shX t) (Fr.start t f s pd) z (z.size / 6) (rightB_fix t0 hr) (rightB_prs t0 hr) HZS.out w)
    rw [HZB.out, ← HFR.out, ← HPR.out] at HFill
    clear hr HRV
    obtain ⟨c0_, c1_, c2_, c3_, c4_, c5_, c6_⟩ := sh_cells V4.out
    go_wp2_with (refine wpList_load_blk rfl 28 (.tmp 6) rfl u rfl 28 ((Fr.start t f s pd).cs none 0 0) _ U4.out Try.underlying28 rfl fr_sz ?_)
    clear c0_ c1_ c2_ c3_ c4_ c5_ c6_
    refine (HFill.out _).mono ?_
    rintro e w5 ⟨A, c, rfl, hpl, hb5⟩
    have S5 := hide (S4.out.keep hb5)
    have U5 := hide (U4.out.keep hb5)
    have V5 := hide (V4.out.keep hb5)
    have P5 := hide hpl
    clear hb5 hpl S4 U4 V4
    generalize fillR t f s (bts x) = FV at *
    generalize prsRd t f (bts x) = LV at *
    have HZF := hide (show (Try.prog.info? 28).map (·.size) = some (FV.cs A LV.length c).size from fr_sz)
    go_upto_region 12 with (refine wpList_store_blk rfl 28 (.tmp 6) (.tmp 51) rfl u (FV.cs A LV.length c) ((Fr.start t f s pd).cs none 0 0) 28 rfl rfl U5.out HZF.out rfl (Fr.cs_one _ _ _ _) ?_; have S6 := hide (S5.out.row (S5.out.hd.ne_ U5.out (by decide)) HAU.out (S5.out.fa.ne_ U5.out (by decide)) HUB.out (FV.cs A LV.length c)); have U6 := hide (U5.out.row (FV.cs A LV.length c)); have V6 := hide (V5.out.row_other (V5.out.ne_ U5.out (by decide)) (FV.cs A LV.length c)); have P6 := hide (P5.out.farRow U5.out (fr_no16 (Fr.start t f s pd)) (FV.cs A LV.length c)); generalize w5.setRow u (FV.cs A LV.length c) = w6 at S6 U6 V6 P6 ⊢; clear S5 U5 V5 P5)
    have y4 := V6.out.cell 4
    have y10 := U6.out.cell 10
    simp only [List.getElem?_toArray, List.getElem?_cons_zero, List.getElem?_cons_succ] at y4
    rw [show (FV.cs A LV.length c)[10]? = some (.int .i64 FV.inc) from rfl] at y10
    cases hI : shI t with
    | false =>
      have HRV3 := hide (HRV2.out.trans (if_neg (by rw [hI]; simp)))
      rw [hI] at y4
      clear hI
      go_wp2_with (first
        | (refine wpList_load_blk rfl 28 (.tmp 6) rfl u rfl 28 (FV.cs A LV.length c) _ U6.out Try.underlying28 rfl HZF.out ?_)
        | (refine wpList_store_blk rfl 28 (.tmp 4) (.tmp 63) rfl a (FV.cs A LV.length c) (Fr.zero.cs none 0 0) 28 rfl rfl S6.out.fr HZF.out rfl (Fr.cs_one _ _ _ _) ?_)
        | (refine wpList_store_blk rfl 31 (.tmp 5) (.tmp 64) rfl b #[.int .u32 0, .int .i64 0] #[.int .u32 0, .int .i64 0] 31 rfl rfl (S6.out.fa.row_other (Ne.symm HAB.out) _) fa_size rfl (fa_one _ _ rfl rfl) ?_))
      have hd := rd_done S6.out ⟨FV, LV, 0, 0⟩ A c P6.out HAB.out
      rw [HRV3.out]
      exact bodyPost_ret (results_frfa rfl _ _ a b FV A LV.length c _ _ rfl rfl hd.1 hd.2.1) rfl hd.2.2
    | true =>
      rw [hI] at y4
      by_cases hz : FV.inc = 0
      · have HRV3 := hide (HRV2.out.trans (if_pos ⟨hI, hz⟩))
        rw [hz] at y10
        clear hI hz
        go_wp2_with fail
        refine wp_region_noPanic ?_
        refine wp_region_held_drew (S := fun w' => BlkIs w' h 34 #[.int .i64 ln, .int .u8 t, .int .u8 f, .int .i64 s]) (by kernel_rfl) S6.out.drew.hd (fun hS => ?_)
        have SX := hide S6.out.drew
        generalize w6.drew = w7 at hS SX ⊢
        refine wpAnyH_take (i := 0) (v := ?_) (by simp only [List.getElem?_toArray, List.getElem?_cons_zero] <;> exact rfl) (by kernel_rfl) (by kernel_rfl) (by kernel_rfl) (fun _ _ _ h => h) (Or.inl ⟨by rfl, ?_⟩) hS ?_
        rotate_left
        focus (intro w' hw'; go_simp; all_goals with_reducible rfl)
        try simp only [Act.put, List.setIfInBounds_toArray, List.set_cons_zero, List.set_cons_succ]
        refine wpAnyH_take (i := 1) (v := ?_) (by simp only [List.getElem?_toArray, List.getElem?_cons_succ, List.getElem?_cons_zero] <;> exact rfl) (by kernel_rfl) (by kernel_rfl) (by kernel_rfl) (fun _ _ _ h => h) (Or.inl ⟨by rfl, ?_⟩) hS ?_
        rotate_left
        focus (intro w' hw'; go_simp; all_goals with_reducible rfl)
        try simp only [Act.put, List.setIfInBounds_toArray, List.set_cons_zero, List.set_cons_succ]
        refine wpAnyH_take (i := 2) (v := ?_) (by simp only [List.getElem?_toArray, List.getElem?_cons_succ, List.getElem?_cons_zero] <;> exact rfl) (by kernel_rfl) (by kernel_rfl) (by kernel_rfl) (fun _ _ _ h => h) (Or.inl ⟨by rfl, ?_⟩) hS ?_
        rotate_left
        focus (intro w' hw'; have kk := hw'.cell 3; simp only [List.getElem?_toArray, List.getElem?_cons_zero, List.getElem?_cons_succ] at kk; go_simp; all_goals with_reducible rfl)
        try simp only [Act.put, List.setIfInBounds_toArray, List.set_cons_zero, List.set_cons_succ]
        refine wpAnyH_take (i := 3) (v := ?_) (by simp only [List.getElem?_toArray, List.getElem?_cons_succ, List.getElem?_cons_zero] <;> exact rfl) (by kernel_rfl) (by kernel_rfl) (by kernel_rfl) (fun _ _ _ h => h) (Or.inl ⟨by rfl, ?_⟩) hS ?_
        rotate_left
        focus (intro w' hw'; go_simp; all_goals with_reducible rfl)
        try simp only [Act.put, List.setIfInBounds_toArray, List.set_cons_zero, List.set_cons_succ]
        refine wpAnyH_ready (rs := [4]) (by kernel_rfl) (by simp) ?_
        refine AllReadyH.cons (o := _) (by simp only [List.getElem?_toArray, List.getElem?_cons_succ, List.getElem?_cons_zero] <;> exact rfl) (fun K hK => ?_) ?_
        focus (
          refine step_store_blk rfl 28 (.tmp 4) (.tmp 59) rfl a (Fr.zero.cs none 0 0) (Fr.zero.cs none 0 0) 28 rfl rfl SX.out.fr fr_sz rfl (Fr.cs_one _ _ _ _) ?_
          refine hK.out _ _ (SX.out.hd.row_other HHA.out _) (fun _ => ?_)
          have hS := SX.out.hd.row_other HHA.out (Fr.zero.cs none 0 0)
          clear hK K
          try simp only [Act.put])
        rotate_left
        focus (exact AllReadyH.nil)
        refine wpAnyH_ready (rs := [5]) (by kernel_rfl) (by simp) ?_
        refine AllReadyH.cons (o := _) (by simp only [List.getElem?_toArray, List.getElem?_cons_succ, List.getElem?_cons_zero] <;> exact rfl) (fun K hK => ?_) ?_
        focus (
          refine step_store_blk rfl 31 (.tmp 5) (.tmp 62) rfl b #[.int .u32 1, .int .i64 s] #[.int .u32 0, .int .i64 0] 31 rfl rfl (SX.out.fa.row_other (Ne.symm HAB.out) _) fa_size rfl (fa_one _ _ rfl rfl) ?_
          refine hK.out _ _ (hS.row_other HHB.out _) (fun _ => ?_)
          clear hK K
          try simp only [Act.put])
        rotate_left
        focus (exact AllReadyH.nil)
        refine wpAnyH_done (by kernel_rfl) ?_ _
        refine NoPanic.normal ?_
        go_wp2_with fail
        have hd := rd_done SX.out (Rd.fault 1 s) none 0 (PL.none_ _) HAB.out
        rw [HRV3.out]
        exact bodyPost_ret (results_frfa rfl _ _ a b Fr.zero none 0 0 _ _ rfl rfl hd.1 hd.2.1) rfl hd.2.2
      · have HRV3 := hide (HRV2.out.trans (if_neg (fun hh => hz hh.2)))
        have hzz : (FV.inc == 0) = false := by simp [hz]
        clear hI hz
        go_wp2_with (first
          | (refine wpList_load_blk rfl 28 (.tmp 6) rfl u rfl 28 (FV.cs A LV.length c) _ U6.out Try.underlying28 rfl HZF.out ?_)
          | (refine wpList_store_blk rfl 28 (.tmp 4) (.tmp 63) rfl a (FV.cs A LV.length c) (Fr.zero.cs none 0 0) 28 rfl rfl S6.out.fr HZF.out rfl (Fr.cs_one _ _ _ _) ?_)
          | (refine wpList_store_blk rfl 31 (.tmp 5) (.tmp 64) rfl b #[.int .u32 0, .int .i64 0] #[.int .u32 0, .int .i64 0] 31 rfl rfl (S6.out.fa.row_other (Ne.symm HAB.out) _) fa_size rfl (fa_one _ _ rfl rfl) ?_))
        have hd := rd_done S6.out ⟨FV, LV, 0, 0⟩ A c P6.out HAB.out
        rw [HRV3.out]
        exact bodyPost_ret (results_frfa rfl _ _ a b FV A LV.length c _ _ rfl rfl hd.1 hd.2.1) rfl hd.2.2
theorem fr_Read (ln t f s : Int) (t0 : 0 ≤ t) (x : ByteArray) (hx : (x.size : Int) ≤ 600000) (w : World) :
    Calls Try.prog 9 #[.agg #[.int .i64 ln, .int .u8 t, .int .u8 f, .int .i64 s], .string x] w (GivesRd (readR t f s (bts x)) w) := by
  cases hm : misB t s with
  | true => exact fr_Read_no ln t f s t0 x hm w
  | false => exact fr_Read_yes ln t f s t0 x hm hx w

end Go.Proofs.Ytefdhbljcnpggaa
