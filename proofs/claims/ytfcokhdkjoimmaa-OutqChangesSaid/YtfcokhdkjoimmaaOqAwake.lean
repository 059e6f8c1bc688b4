/-
  Layer 19: awake (written by gen19aw.py).
-/
import Derived.Test.YtfcokhdkjoimmaaOqVar
import Derived.Test.YtfcokhdkjoimmaaOqSame
import Derived.Test.YtfcokhdkjoimmaaRqLight
import Derived.Test.YtfcokhdkjoimmaaRegW
import Derived.Lib.SlBytesConst
import Derived.Deep.CutRange
import Derived.BigRegion
namespace Go.Proofs.Ytfcokhdkjoimmaa
set_option linter.unusedSimpArgs false
set_option linter.unusedVariables false
open Go.RowKit
def aw1 : Qu := ⟨[⟨#[97, 98]⟩], 2, 0⟩
def aw2 : Qu := ⟨[⟨#[97, 98]⟩, ⟨#[99, 100]⟩], 4, 0⟩
def awp : Qu := ⟨[⟨#[100]⟩], 4, 3⟩
def awo : Qu := ⟨[], 4, 4⟩
theorem aw_push1 : pushQ ⟨[], 0, 0⟩ [97, 98] = aw1 ∧ pushE ⟨[], 0, 0⟩ [97, 98] = 0 := ⟨by rfl, by rfl⟩
theorem aw_push2 : pushQ aw1 [99, 100] = aw2 ∧ pushE aw1 [99, 100] = 0 := ⟨by rfl, by rfl⟩
theorem aw_drain1 : drainQ aw2 3 = awp ∧ drainB aw2 3 = [97, 98, 99] := ⟨by rfl, by rfl⟩
theorem aw_drain2 : drainQ awp 9 = awo ∧ drainB awp 9 = [100] := ⟨by rfl, by rfl⟩
theorem aw_ok2 : chkQ aw2 = 0 := by rfl
theorem aw_push3 (xs : List Int) (h : xs.length = 65533) : pushQ aw2 xs = aw2 ∧ pushE aw2 xs = 7 := by
  have hf : fitsQ aw2 xs.length = false := by rw [h]; rfl
  refine ⟨?_, ?_⟩
  · unfold pushQ; rw [if_neg (by rw [hf]; simp)]
  · unfold pushE; rw [if_pos aw_ok2, hf]; rfl
theorem aw_lens : (lenL awp.ps = 1 ∧ roomQ aw2 = 65532 ∧ chkQ awp = 0) ∧ sameQ awp awp = true ∧ sameQ awp aw2 = false := ⟨⟨by rfl, by rfl, by rfl⟩, same_self _, by rfl⟩
def zrs (n : Nat) : List Int := List.replicate n 0
theorem made_zrs (n : Nat) : madeCells (Value.int .u8 0).cells n = (u8s (zrs n)).toArray := by
  apply Array.ext
  · simp [madeCells, u8s, zrs]
  · intro i h1 h2
    have e : u8s (zrs n) = List.replicate n (.int .u8 0) := by simp [u8s, zrs]
    simp only [madeCells, Value.cells, Array.getElem_map, Array.getElem_range, List.getElem_toArray, e, List.getElem_replicate]
    rw [show i % (#[Value.int .u8 0] : Array Value).size = 0 by simp; omega]
    rfl
theorem zrs_bd (n : Nat) : ∀ i, 0 ≤ (zrs n).getD i 0 ∧ (zrs n).getD i 0 ≤ 255 := fun i => by
  unfold zrs
  simp only [List.getD, List.getElem?_replicate]
  split <;> simp
theorem aw_two (w : World) (a b : Int) (fr : Nat × Nat) (ha : 0 ≤ a ∧ a ≤ 255) (hb : 0 ≤ b ∧ b ≤ 255) : RB (w.alloc (.cells #[.int .u8 a, .int .u8 b] 5 fr)) (some ⟨w.heap.size, 0, none⟩) 2 [a, b] := by
  refine ⟨rfl, fun _ => ⟨w.heap.size, 0, rfl, by simp, fun i hi => ?_⟩, fun i => ?_⟩
  · rw [Nat.zero_add, World.cell?_alloc_mark]
    match i, hi with
    | 0, _ => rfl
    | 1, _ => rfl
  · match i with
    | 0 => exact ha
    | 1 => exact hb
    | i + 2 => simp

set_option maxRecDepth 100000 in
set_option maxHeartbeats 3200000 in
theorem aw_outq (w : World) : Calls Try.prog 8 #[] w fun e w' => e = .returned (.bool true) ∧ Below w.heap.size w w' := by
  have hz := run_zero_is pq_zero
  have hb0 : Try.prog.built 28 [] = some #[.slice none 0 0, .int .i64 0, .int .i64 0] := by kernel_rfl
  go_enter Try.func8, Try.ntmps8
  have kc := Lib.run_convert_bytes_const (P := Try.prog) w 25 5 #[.int .u8 97, .int .u8 98] 2 2 Try.underlying25 Try.underlying5
  rw [show (#[Value.int .u8 97, .int .u8 98]).size = 2 from rfl] at kc
  have HB1 := hide (bel1 w (.cells #[.int .u8 97, .int .u8 98] 5 (2, 3)))
  have HR1 := hide (aw_two w 97 98 (2, 3) (by omega) (by omega))
  have HC1 := hide (oq_Push ⟨[], 0, 0⟩ none 0 0 (some ⟨w.heap.size, 0, none⟩) 2 2 [97, 98] _ ⟨TX.none_ _, by omega, by simp [lenL]⟩ HR1.out (by omega))
  rw [aw_push1.1, aw_push1.2] at HC1
  go_wp2_with fail
  clear kc
  refine HC1.out.mono ?_
  rintro e w2 ⟨⟨A1, n1, c1, rfl, ht⟩, hb⟩
  have HB2 := hide (HB1.out.trans (hb.mono HB1.out.size))
  have HT2 := hide ht
  clear hb ht HC1 HR1 HB1 hb0
  simp only [aw1]
  go_upto_region 2 with (refine wpList_q_blk 28 pq_size rfl (.tmp 1) (.tmp 15) w2.heap.size A1 n1 c1 2 0 _ _ _ rfl (BlkIs.new w2 28 #[.slice none 0 0, .int .i64 0, .int .i64 0]) rfl rfl ?_; intro w3 hk3 kb3; obtain ⟨hv, hb⟩ := VQ.new (q := aw1) (ql_mk aw1 HT2.out (by decide) (by decide)) hk3 kb3; have HV := hide hv; have HB3 := hide (HB2.out.trans (hb.mono HB2.out.size)); have HL1 := hide (show w2.heap.size < w3.heap.size from hk3.lt); clear hk3 kb3 hv hb)
  have HG1 := hide HB2.out.size
  obtain ⟨b1, hb1⟩ : ∃ b1, b1 = w2.heap.size := ⟨_, rfl⟩
  rw [← hb1] at HV HG1 ⊢
  clear hb1 HL1 HB2 HT2
  have kc := Lib.run_convert_bytes_const (P := Try.prog) w3 25 5 #[.int .u8 99, .int .u8 100] 2 2 Try.underlying25 Try.underlying5
  rw [show (#[Value.int .u8 99, .int .u8 100]).size = 2 from rfl] at kc
  have HB4 := hide (bel1 w3 (.cells #[.int .u8 99, .int .u8 100] 5 (2, 3)))
  have HR4 := hide (aw_two w3 99 100 (2, 3) (by omega) (by omega))
  have HV4 := hide (HV.out.keep HB4.out)
  have HC2 := hide (oq_Push aw1 A1 n1 c1 (some ⟨w3.heap.size, 0, none⟩) 2 2 [99, 100] _ HV4.out.ql HR4.out (by omega))
  rw [aw_push2.1, aw_push2.2] at HC2
  obtain ⟨k0, k1, k2⟩ := qcells HV.out.blk
  simp only [aw1, aw2] at HC2 k0 k1 k2
  go_wp2_with fail
  clear kc k0 k1 k2
  refine HC2.out.mono ?_
  rintro e w4 ⟨⟨A2, n2, c2, rfl, ht⟩, hb⟩
  have HB5 := hide (HB3.out.trans ((HB4.out.trans (hb.mono HB4.out.size)).mono HB3.out.size))
  have HV5 := hide (HV4.out.keep hb)
  have HT5 := hide ht
  clear hb ht HC2 HR4 HB4 HV4 HV HB3
  go_upto_region 3 with (refine wpList_q_blk 28 pq_size rfl (.tmp 1) (.tmp 22) b1 A2 n2 c2 4 0 _ _ _ rfl HV5.out.blk rfl rfl ?_; intro w6 hk6 kb6; have HB6 := hide (below_kbq HB5.out kb6 (Nat.le_refl _) HG1.out); have HV6 := hide (show VQ 28 w6 b1 A2 n2 c2 aw2 from ⟨hk6, ql_mk aw2 (HT5.out.onto HV5.out.blk (qc_tx _ _ _ _ _) kb6) (by decide) (by decide)⟩); clear hk6 kb6)
  clear HB5 HV5 HT5
  obtain ⟨k0, k1, k2⟩ := qcells HV6.out.blk
  have HD1 := hide (oq_Drain aw2 A2 n2 c2 3 _ HV6.out.ql)
  rw [aw_drain1.1, aw_drain1.2] at HD1
  simp only [aw2, awp] at HD1 k0 k1 k2
  go_wp2_with fail
  clear k0 k1 k2
  refine HD1.out.mono ?_
  rintro e w7 ⟨⟨A3, n3, c3, C3, m3, d3, rfl, ht, hr⟩, hb⟩
  have HB7 := hide (HB6.out.trans (hb.mono HB6.out.size))
  have HV7 := hide (HV6.out.keep hb)
  have HT7 := hide ht
  have HR7 := hide hr
  clear hb ht hr HD1 HB6 HV6
  go_upto_region 4 with (refine wpList_q_blk 28 pq_size rfl (.tmp 4) (.tmp 27) w7.heap.size A3 n3 c3 4 3 _ _ _ rfl (BlkIs.new w7 28 #[.slice none 0 0, .int .i64 0, .int .i64 0]) rfl rfl ?_; intro w8 hk8 kb8; obtain ⟨hv, hb⟩ := VQ.new (q := awp) (ql_mk awp HT7.out (by decide) (by decide)) hk8 kb8; have HP8 := hide hv; have HB8 := hide (HB7.out.trans (hb.mono HB7.out.size)); have HV8 := hide (HV7.out.keep hb); have HR8 := hide (HR7.out.below hb); clear hk8 kb8 hv hb)
  obtain ⟨b4, hb4⟩ : ∃ b4, b4 = w7.heap.size := ⟨_, rfl⟩
  rw [← hb4] at HP8 ⊢
  clear hb4 HB7 HV7 HT7 HR7
  obtain ⟨k0, k1, k2⟩ := qcells HP8.out.blk
  have HD2 := hide (oq_Drain awp A3 n3 c3 9 _ HP8.out.ql)
  rw [aw_drain2.1, aw_drain2.2] at HD2
  simp only [awp, awo] at HD2 k0 k1 k2
  go_wp2_with fail
  clear k0 k1 k2
  refine HD2.out.mono ?_
  rintro e w9 ⟨⟨A4, n4, c4, C4, m4, d4, rfl, ht, hr⟩, hb⟩
  have HB9 := hide (HB8.out.trans (hb.mono HB8.out.size))
  have HV9 := hide (HV8.out.keep hb)
  have HP9 := hide (HP8.out.keep hb)
  have HR9 := hide (HR8.out.below hb)
  have HT9 := hide ht
  have HS9 := hide hr
  have hn4 : n4 = 0 := ht.len.symm
  subst hn4
  clear hb ht hr HD2 HB8 HV8 HP8 HR8
  go_upto_region 5 with (refine wpList_q_blk 28 pq_size rfl (.tmp 6) (.tmp 32) w9.heap.size A4 0 c4 4 4 _ _ _ rfl (BlkIs.new w9 28 #[.slice none 0 0, .int .i64 0, .int .i64 0]) rfl rfl ?_; intro wA hkA kbA; obtain ⟨hv, hb⟩ := VQ.new (q := awo) (ql_mk awo HT9.out (by decide) (by decide)) hkA kbA; have HO := hide hv; have HBA := hide (HB9.out.trans (hb.mono HB9.out.size)); have HV := hide (HV9.out.keep hb); have HP := hide (HP9.out.keep hb); have HR := hide (HR9.out.below hb); have HS := hide (HS9.out.below hb); clear hkA kbA hv hb)
  obtain ⟨b6, hb6⟩ : ∃ b6, b6 = w9.heap.size := ⟨_, rfl⟩
  rw [← hb6] at HO ⊢
  clear hb6 HB9 HV9 HP9 HR9 HT9 HS9 HG1
  obtain ⟨zl, hzl⟩ : ∃ zl, zl = zrs 65533 := ⟨_, rfl⟩
  have HZL := hide (show zl.length = 65533 by rw [hzl]; exact List.length_replicate)
  obtain ⟨za, hza⟩ : ∃ za, za = (u8s zl).toArray := ⟨_, rfl⟩
  obtain ⟨i0, hi0, hz0, hz1, hz2⟩ := info_parts u8_info
  have hmk : ∀ w : World, (Instr.makeSlice 25 (.int .i64 65533) (.int .i64 65533)).run Try.prog w = .ok (.slice (some ⟨w.heap.size, 0, none⟩) 65533 65533) (w.alloc (.cells za 5)) := fun w => by
    have h := run_make (P := Try.prog) w 25 5 i0 (.int .u8 0) Try.underlying25 hi0 hz0 .i64 .i64 65533 65533 (by omega) (by omega) (by rw [hz2]; omega) (by omega)
    rw [hz1, show (65533 : Int).toNat * 1 = 65533 by omega, show (65533 : Int).toNat = 65533 by omega, made_zrs, ← hzl, ← hza] at h
    exact h
  have HZR := hide (fun w : World => show RB (w.alloc (.cells za 5)) (some ⟨w.heap.size, 0, none⟩) 65533 zl by
    rw [hza]
    exact rb_new w 5 zl 65533 HZL.out (by rw [hzl]; exact zrs_bd _))
  clear hzl hza hi0 hz0 hz1 hz2
  have HC5 := hide (fun (mb : Nat) (w' : World) (h : Below wA.heap.size wA w') hr => oq_Push aw2 A2 n2 c2 (some ⟨mb, 0, none⟩) 65533 65533 zl w' (HV.out.ql.keep h) hr (by omega))
  rw [(aw_push3 zl HZL.out).1, (aw_push3 zl HZL.out).2] at HC5
  go_cut [8, 9] from 34 to 39 (fun s8 s9 wx => s9 = .int .i64 7 ∧ Below wA.heap.size wA wx)
  case first =>
    have HVB := hide (show BlkIs wA b1 28 #[.slice A2 n2 c2, .int .i64 4, .int .i64 0] from HV.out.blk)
    refine wp_region_noPanic ?_
    refine wp_region_held_drew (S := fun w' => Below wA.heap.size wA w') (by kernel_rfl) (Below.refl _ _).drew (fun hS => ?_)
    generalize wA.drew = wd at hS ⊢
    refine wpAnyH_take (i := 0) (by simp only [List.getElem?_toArray, List.getElem?_cons_zero] <;> exact rfl) (by kernel_rfl) (by kernel_rfl) (by kernel_rfl) (fun _ _ _ h => h) (rgs_yields_blk (by rfl) 28 (.tmp 1) (by rfl) b1 (by rfl) 28 #[.slice A2 n2 c2, .int .i64 4, .int .i64 0] _ (fun w' hw' => HVB.out.keep hw') Try.underlying28 rfl pq_size) hS ?_
    try simp only [Act.put, List.setIfInBounds_toArray, List.set_cons_zero, List.set_cons_succ]
    refine wpAnyH_ready (rs := [1, 6]) (by kernel_rfl) (by simp) ?_
    refine AllReadyH.cons (o := _) (by simp only [List.getElem?_toArray, List.getElem?_cons_succ, List.getElem?_cons_zero] <;> exact rfl) (fun K hK => ?_) ?_
    focus (
      go_simp
      have hz1 := hS.size
      have hS := hS.alloc hS.size (.cells za 5)
      have er := HZR.out wd
      refine hK.out _ _ hS (fun _ => ?_)
      obtain ⟨mb, hmb⟩ : ∃ mb, mb = wd.heap.size := ⟨_, rfl⟩
      rw [← hmb] at er ⊢
      generalize wd.alloc (.cells za 5) = wm1 at hS er ⊢
      clear hmb hz1 hK K
      try simp only [Act.put, List.setIfInBounds_toArray, List.set_cons_zero, List.set_cons_succ]
      refine wpAnyH_ready (rs := [2, 6]) (by kernel_rfl) (by simp) ?_
      refine AllReadyH.cons (o := _) (by simp only [List.getElem?_toArray, List.getElem?_cons_succ, List.getElem?_cons_zero] <;> exact rfl) (fun K hK => ?_) ?_
      focus (
        go_simp
        go_at_call 9
        refine (HC5.out mb _ hS er).mono ?_
        rintro e wm2 ⟨⟨A5, n5, c5, rfl, et⟩, hb⟩
        have hS := hS.trans (hb.mono hS.size)
        clear hb er
        simp only [aw2]
        go_wp2_with fail
        refine hK.out _ _ hS (fun _ => ?_)
        clear hK K
        try simp only [Act.put, List.setIfInBounds_toArray, List.set_cons_zero, List.set_cons_succ]
        refine wpAnyH_take (i := 3) (v := ?_) (by simp only [List.getElem?_toArray, List.getElem?_cons_succ, List.getElem?_cons_zero] <;> exact rfl) (by kernel_rfl) (by kernel_rfl) (by kernel_rfl) (fun _ _ _ h => h) (Or.inl ⟨by rfl, ?_⟩) hS ?_
        rotate_left
        focus (intro w' hw'; go_simp; all_goals with_reducible rfl)
        try simp only [Act.put, List.setIfInBounds_toArray, List.set_cons_zero, List.set_cons_succ]
        refine wpAnyH_take (i := 4) (v := ?_) (by simp only [List.getElem?_toArray, List.getElem?_cons_succ, List.getElem?_cons_zero] <;> exact rfl) (by kernel_rfl) (by kernel_rfl) (by kernel_rfl) (fun _ _ _ h => h) (Or.inl ⟨by rfl, ?_⟩) hS ?_
        rotate_left
        focus (intro w' hw'; go_simp; all_goals with_reducible rfl)
        try simp only [Act.put, List.setIfInBounds_toArray, List.set_cons_zero, List.set_cons_succ]
        refine wpAnyH_take (i := 5) (v := ?_) (by simp only [List.getElem?_toArray, List.getElem?_cons_succ, List.getElem?_cons_zero] <;> exact rfl) (by kernel_rfl) (by kernel_rfl) (by kernel_rfl) (fun _ _ _ h => h) (Or.inl ⟨by rfl, ?_⟩) hS ?_
        rotate_left
        focus (intro w' hw'; go_simp; all_goals with_reducible rfl)
        try simp only [Act.put, List.setIfInBounds_toArray, List.set_cons_zero, List.set_cons_succ]
        refine wpAnyH_ready (rs := [6]) (by kernel_rfl) (by simp) ?_
        refine AllReadyH.cons (o := _) (by simp only [List.getElem?_toArray, List.getElem?_cons_succ, List.getElem?_cons_zero] <;> exact rfl) (fun K hK => ?_) ?_
        focus (
          go_simp
          have hz3 := hS.size
          have hS := hS.alloc hS.size (.cells #[.slice none 0 0, .int .i64 0, .int .i64 0] 28)
          have ea := BlkIs.new wm2 28 #[.slice none 0 0, .int .i64 0, .int .i64 0]
          have et := et.alloc (.cells #[.slice none 0 0, .int .i64 0, .int .i64 0] 28)
          obtain ⟨x, hx⟩ : ∃ x, x = wm2.heap.size := ⟨_, rfl⟩
          have hxl : wA.heap.size ≤ x := by rw [hx]; exact hz3
          rw [← hx] at ea ⊢
          refine hK.out _ _ hS (fun _ => ?_)
          generalize wm2.alloc (.cells #[.slice none 0 0, .int .i64 0, .int .i64 0] 28) = wm3 at hS ea et ⊢
          clear hx hz3 hK K
          try simp only [Act.put, List.setIfInBounds_toArray, List.set_cons_zero, List.set_cons_succ]
          refine wpAnyH_ready (rs := [7]) (by kernel_rfl) (by simp) ?_
          refine AllReadyH.cons (o := _) (by simp only [List.getElem?_toArray, List.getElem?_cons_succ, List.getElem?_cons_zero] <;> exact rfl) (fun K hK => ?_) ?_
          focus (
            refine rgs_store_blk (by rfl) 28 (.tmp 8) (.tmp 38) (by rfl) x #[.slice A5 n5 c5, .int .i64 4, .int .i64 0] #[.slice none 0 0, .int .i64 0, .int .i64 0] 28 (by rfl) (by rfl) ea pq_size rfl (by simp [Value.oneCell']) ?_
            have hS := below_setRow hS hxl #[.slice A5 n5 c5, .int .i64 4, .int .i64 0]
            refine hK.out _ _ hS (fun _ => ?_)
            clear hK K
            try simp only [Act.put, List.setIfInBounds_toArray, List.set_cons_zero, List.set_cons_succ]
            refine wpAnyH_take (i := 8) (v := ?_) (by simp only [List.getElem?_toArray, List.getElem?_cons_succ, List.getElem?_cons_zero] <;> exact rfl) (by kernel_rfl) (by kernel_rfl) (by kernel_rfl) (fun _ _ _ h => h) (Or.inl ⟨by rfl, ?_⟩) hS ?_
            rotate_left
            focus (intro w' hw'; go_simp; all_goals with_reducible rfl)
            try simp only [Act.put, List.setIfInBounds_toArray, List.set_cons_zero, List.set_cons_succ]
            refine wpAnyH_done (by kernel_rfl) ?_ _
            refine NoPanic.normal ?_
            go_wp2_with fail
            go_meet
            exact ⟨rfl, hS⟩)
          exact AllReadyH.nil)
        exact AllReadyH.nil)
      refine AllReadyH.cons (o := _) (by simp only [List.getElem?_toArray, List.getElem?_cons_succ, List.getElem?_cons_zero] <;> exact rfl) (fun K hK => ?_) ?_
      focus (
        go_simp
        have hz4 := hS.size
        have hS := hS.alloc hS.size (.cells #[.slice none 0 0, .int .i64 0, .int .i64 0] 28)
        have ea := BlkIs.new wm1 28 #[.slice none 0 0, .int .i64 0, .int .i64 0]
        have er := er.below (bel1 wm1 (.cells #[.slice none 0 0, .int .i64 0, .int .i64 0] 28))
        obtain ⟨x, hx⟩ : ∃ x, x = wm1.heap.size := ⟨_, rfl⟩
        have hxl : wA.heap.size ≤ x := by rw [hx]; exact hz4
        rw [← hx] at ea ⊢
        refine hK.out _ _ hS (fun _ => ?_)
        generalize wm1.alloc (.cells #[.slice none 0 0, .int .i64 0, .int .i64 0] 28) = wm4 at hS ea er ⊢
        clear hx hz4 hK K
        try simp only [Act.put, List.setIfInBounds_toArray, List.set_cons_zero, List.set_cons_succ]
        refine wpAnyH_ready (rs := [2]) (by kernel_rfl) (by simp) ?_
        refine AllReadyH.cons (o := _) (by simp only [List.getElem?_toArray, List.getElem?_cons_succ, List.getElem?_cons_zero] <;> exact rfl) (fun K hK => ?_) ?_
        focus (
          go_simp
          go_at_call 9
          refine (HC5.out mb _ hS er).mono ?_
          rintro e wm5 ⟨⟨A5, n5, c5, rfl, et⟩, hb⟩
          have ea := ea.keep hb
          have hS := hS.trans (hb.mono hS.size)
          clear hb er
          simp only [aw2]
          go_wp2_with fail
          refine hK.out _ _ hS (fun _ => ?_)
          clear hK K
          try simp only [Act.put, List.setIfInBounds_toArray, List.set_cons_zero, List.set_cons_succ]
          refine wpAnyH_take (i := 3) (v := ?_) (by simp only [List.getElem?_toArray, List.getElem?_cons_succ, List.getElem?_cons_zero] <;> exact rfl) (by kernel_rfl) (by kernel_rfl) (by kernel_rfl) (fun _ _ _ h => h) (Or.inl ⟨by rfl, ?_⟩) hS ?_
          rotate_left
          focus (intro w' hw'; go_simp; all_goals with_reducible rfl)
          try simp only [Act.put, List.setIfInBounds_toArray, List.set_cons_zero, List.set_cons_succ]
          refine wpAnyH_take (i := 4) (v := ?_) (by simp only [List.getElem?_toArray, List.getElem?_cons_succ, List.getElem?_cons_zero] <;> exact rfl) (by kernel_rfl) (by kernel_rfl) (by kernel_rfl) (fun _ _ _ h => h) (Or.inl ⟨by rfl, ?_⟩) hS ?_
          rotate_left
          focus (intro w' hw'; go_simp; all_goals with_reducible rfl)
          try simp only [Act.put, List.setIfInBounds_toArray, List.set_cons_zero, List.set_cons_succ]
          refine wpAnyH_take (i := 5) (v := ?_) (by simp only [List.getElem?_toArray, List.getElem?_cons_succ, List.getElem?_cons_zero] <;> exact rfl) (by kernel_rfl) (by kernel_rfl) (by kernel_rfl) (fun _ _ _ h => h) (Or.inl ⟨by rfl, ?_⟩) hS ?_
          rotate_left
          focus (intro w' hw'; go_simp; all_goals with_reducible rfl)
          try simp only [Act.put, List.setIfInBounds_toArray, List.set_cons_zero, List.set_cons_succ]
          refine wpAnyH_ready (rs := [7]) (by kernel_rfl) (by simp) ?_
          refine AllReadyH.cons (o := _) (by simp only [List.getElem?_toArray, List.getElem?_cons_succ, List.getElem?_cons_zero] <;> exact rfl) (fun K hK => ?_) ?_
          focus (
            refine rgs_store_blk (by rfl) 28 (.tmp 8) (.tmp 38) (by rfl) x #[.slice A5 n5 c5, .int .i64 4, .int .i64 0] #[.slice none 0 0, .int .i64 0, .int .i64 0] 28 (by rfl) (by rfl) ea pq_size rfl (by simp [Value.oneCell']) ?_
            have hS := below_setRow hS hxl #[.slice A5 n5 c5, .int .i64 4, .int .i64 0]
            refine hK.out _ _ hS (fun _ => ?_)
            clear hK K
            try simp only [Act.put, List.setIfInBounds_toArray, List.set_cons_zero, List.set_cons_succ]
            refine wpAnyH_take (i := 8) (v := ?_) (by simp only [List.getElem?_toArray, List.getElem?_cons_succ, List.getElem?_cons_zero] <;> exact rfl) (by kernel_rfl) (by kernel_rfl) (by kernel_rfl) (fun _ _ _ h => h) (Or.inl ⟨by rfl, ?_⟩) hS ?_
            rotate_left
            focus (intro w' hw'; go_simp; all_goals with_reducible rfl)
            try simp only [Act.put, List.setIfInBounds_toArray, List.set_cons_zero, List.set_cons_succ]
            refine wpAnyH_done (by kernel_rfl) ?_ _
            refine NoPanic.normal ?_
            go_wp2_with fail
            go_meet
            exact ⟨rfl, hS⟩)
          exact AllReadyH.nil)
        exact AllReadyH.nil)
      exact AllReadyH.nil)
    refine AllReadyH.cons (o := _) (by simp only [List.getElem?_toArray, List.getElem?_cons_succ, List.getElem?_cons_zero] <;> exact rfl) (fun K hK => ?_) ?_
    focus (
      go_simp
      have hz6 := hS.size
      have hS := hS.alloc hS.size (.cells #[.slice none 0 0, .int .i64 0, .int .i64 0] 28)
      have ea := BlkIs.new wd 28 #[.slice none 0 0, .int .i64 0, .int .i64 0]
      obtain ⟨x, hx⟩ : ∃ x, x = wd.heap.size := ⟨_, rfl⟩
      have hxl : wA.heap.size ≤ x := by rw [hx]; exact hz6
      rw [← hx] at ea ⊢
      refine hK.out _ _ hS (fun _ => ?_)
      generalize wd.alloc (.cells #[.slice none 0 0, .int .i64 0, .int .i64 0] 28) = wm6 at hS ea ⊢
      clear hx hz6 hK K
      try simp only [Act.put, List.setIfInBounds_toArray, List.set_cons_zero, List.set_cons_succ]
      refine wpAnyH_ready (rs := [1]) (by kernel_rfl) (by simp) ?_
      refine AllReadyH.cons (o := _) (by simp only [List.getElem?_toArray, List.getElem?_cons_succ, List.getElem?_cons_zero] <;> exact rfl) (fun K hK => ?_) ?_
      focus (
        go_simp
        have hz7 := hS.size
        have hS := hS.alloc hS.size (.cells za 5)
        have er := HZR.out wm6
        have ea := ea.alloc (.cells za 5)
        refine hK.out _ _ hS (fun _ => ?_)
        obtain ⟨mb, hmb⟩ : ∃ mb, mb = wm6.heap.size := ⟨_, rfl⟩
        rw [← hmb] at er ⊢
        generalize wm6.alloc (.cells za 5) = wm7 at hS er ea ⊢
        clear hmb hz7 hK K
        try simp only [Act.put, List.setIfInBounds_toArray, List.set_cons_zero, List.set_cons_succ]
        refine wpAnyH_ready (rs := [2]) (by kernel_rfl) (by simp) ?_
        refine AllReadyH.cons (o := _) (by simp only [List.getElem?_toArray, List.getElem?_cons_succ, List.getElem?_cons_zero] <;> exact rfl) (fun K hK => ?_) ?_
        focus (
          go_simp
          go_at_call 9
          refine (HC5.out mb _ hS er).mono ?_
          rintro e wm8 ⟨⟨A5, n5, c5, rfl, et⟩, hb⟩
          have ea := ea.keep hb
          have hS := hS.trans (hb.mono hS.size)
          clear hb er
          simp only [aw2]
          go_wp2_with fail
          refine hK.out _ _ hS (fun _ => ?_)
          clear hK K
          try simp only [Act.put, List.setIfInBounds_toArray, List.set_cons_zero, List.set_cons_succ]
          refine wpAnyH_take (i := 3) (v := ?_) (by simp only [List.getElem?_toArray, List.getElem?_cons_succ, List.getElem?_cons_zero] <;> exact rfl) (by kernel_rfl) (by kernel_rfl) (by kernel_rfl) (fun _ _ _ h => h) (Or.inl ⟨by rfl, ?_⟩) hS ?_
          rotate_left
          focus (intro w' hw'; go_simp; all_goals with_reducible rfl)
          try simp only [Act.put, List.setIfInBounds_toArray, List.set_cons_zero, List.set_cons_succ]
          refine wpAnyH_take (i := 4) (v := ?_) (by simp only [List.getElem?_toArray, List.getElem?_cons_succ, List.getElem?_cons_zero] <;> exact rfl) (by kernel_rfl) (by kernel_rfl) (by kernel_rfl) (fun _ _ _ h => h) (Or.inl ⟨by rfl, ?_⟩) hS ?_
          rotate_left
          focus (intro w' hw'; go_simp; all_goals with_reducible rfl)
          try simp only [Act.put, List.setIfInBounds_toArray, List.set_cons_zero, List.set_cons_succ]
          refine wpAnyH_take (i := 5) (v := ?_) (by simp only [List.getElem?_toArray, List.getElem?_cons_succ, List.getElem?_cons_zero] <;> exact rfl) (by kernel_rfl) (by kernel_rfl) (by kernel_rfl) (fun _ _ _ h => h) (Or.inl ⟨by rfl, ?_⟩) hS ?_
          rotate_left
          focus (intro w' hw'; go_simp; all_goals with_reducible rfl)
          try simp only [Act.put, List.setIfInBounds_toArray, List.set_cons_zero, List.set_cons_succ]
          refine wpAnyH_ready (rs := [7]) (by kernel_rfl) (by simp) ?_
          refine AllReadyH.cons (o := _) (by simp only [List.getElem?_toArray, List.getElem?_cons_succ, List.getElem?_cons_zero] <;> exact rfl) (fun K hK => ?_) ?_
          focus (
            refine rgs_store_blk (by rfl) 28 (.tmp 8) (.tmp 38) (by rfl) x #[.slice A5 n5 c5, .int .i64 4, .int .i64 0] #[.slice none 0 0, .int .i64 0, .int .i64 0] 28 (by rfl) (by rfl) ea pq_size rfl (by simp [Value.oneCell']) ?_
            have hS := below_setRow hS hxl #[.slice A5 n5 c5, .int .i64 4, .int .i64 0]
            refine hK.out _ _ hS (fun _ => ?_)
            clear hK K
            try simp only [Act.put, List.setIfInBounds_toArray, List.set_cons_zero, List.set_cons_succ]
            refine wpAnyH_take (i := 8) (v := ?_) (by simp only [List.getElem?_toArray, List.getElem?_cons_succ, List.getElem?_cons_zero] <;> exact rfl) (by kernel_rfl) (by kernel_rfl) (by kernel_rfl) (fun _ _ _ h => h) (Or.inl ⟨by rfl, ?_⟩) hS ?_
            rotate_left
            focus (intro w' hw'; go_simp; all_goals with_reducible rfl)
            try simp only [Act.put, List.setIfInBounds_toArray, List.set_cons_zero, List.set_cons_succ]
            refine wpAnyH_done (by kernel_rfl) ?_ _
            refine NoPanic.normal ?_
            go_wp2_with fail
            go_meet
            exact ⟨rfl, hS⟩)
          exact AllReadyH.nil)
        exact AllReadyH.nil)
      exact AllReadyH.nil)
    exact AllReadyH.nil
  case rest =>
    obtain ⟨rfl, hbx⟩ := hcut
    have HBX := hide hbx
    have HV1 := hide (HV.out.keep hbx)
    have HP1 := hide (HP.out.keep hbx)
    have HO1 := hide (HO.out.keep hbx)
    have HR1 := hide (HR.out.below hbx)
    have HS1 := hide (HS.out.below hbx)
    clear hbx hmk hz HC5 HZR HZL HV HP HO HR HS
    have HBA := hide (HBA.out.trans (HBX.out.mono HBA.out.size))
    have HV := HV1
    have HP := HP1
    have HO := HO1
    have hs1 := rb_string d3 HR1.out
    have hs2 := rb_string d4 HS1.out
    rw [show strOfNums [97, 98, 99] = ⟨#[97, 98, 99]⟩ from rfl] at hs1
    rw [show strOfNums [100] = ⟨#[100]⟩ from rfl] at hs2
    clear HBX HR1 HS1 HV1 HP1 HO1
    obtain ⟨p0, p1, p2⟩ := qcells HP.out.blk
    obtain ⟨v0, v1, v2⟩ := qcells HV.out.blk
    obtain ⟨o0, o1, o2⟩ := qcells HO.out.blk
    simp only [awp, aw2, awo] at p0 p1 p2 v0 v1 v2 o0 o1 o2
    have HC := hide (oq_Len awp A3 n3 c3 _ HP.out.ql)
    rw [aw_lens.1.1] at HC
    simp only [awp, aw2] at HC
    go_wp2_with fail
    refine HC.out.mono ?_
    rintro e x1 ⟨rfl, hb⟩
    have HBA := hide (HBA.out.trans (hb.mono HBA.out.size))
    have HV := hide (HV.out.keep hb)
    have HP := hide (HP.out.keep hb)
    have HO := hide (HO.out.keep hb)
    clear hb HC p0 p1 p2 v0 v1 v2 o0 o1 o2
    obtain ⟨p0, p1, p2⟩ := qcells HP.out.blk
    obtain ⟨v0, v1, v2⟩ := qcells HV.out.blk
    obtain ⟨o0, o1, o2⟩ := qcells HO.out.blk
    simp only [awp, aw2, awo] at p0 p1 p2 v0 v1 v2 o0 o1 o2
    clear hs1 hs2
    have HC := hide (oq_Room aw2 A2 n2 c2 _ HV.out.ql)
    rw [aw_lens.1.2.1] at HC
    simp only [awp, aw2] at HC
    go_wp2_with fail
    refine HC.out.mono ?_
    rintro e x2 ⟨rfl, hb⟩
    have HBA := hide (HBA.out.trans (hb.mono HBA.out.size))
    have HV := hide (HV.out.keep hb)
    have HP := hide (HP.out.keep hb)
    have HO := hide (HO.out.keep hb)
    clear hb HC p0 p1 p2 v0 v1 v2 o0 o1 o2
    obtain ⟨p0, p1, p2⟩ := qcells HP.out.blk
    obtain ⟨v0, v1, v2⟩ := qcells HV.out.blk
    obtain ⟨o0, o1, o2⟩ := qcells HO.out.blk
    simp only [awp, aw2, awo] at p0 p1 p2 v0 v1 v2 o0 o1 o2
    have HC := hide (oq_Check awp A3 n3 c3 _ HP.out.ql)
    rw [aw_lens.1.2.2] at HC
    simp only [awp, aw2] at HC
    go_wp2_with fail
    refine HC.out.mono ?_
    rintro e x3 ⟨rfl, hb⟩
    have HBA := hide (HBA.out.trans (hb.mono HBA.out.size))
    have HV := hide (HV.out.keep hb)
    have HP := hide (HP.out.keep hb)
    have HO := hide (HO.out.keep hb)
    clear hb HC p0 p1 p2 v0 v1 v2 o0 o1 o2
    obtain ⟨p0, p1, p2⟩ := qcells HP.out.blk
    obtain ⟨v0, v1, v2⟩ := qcells HV.out.blk
    obtain ⟨o0, o1, o2⟩ := qcells HO.out.blk
    simp only [awp, aw2, awo] at p0 p1 p2 v0 v1 v2 o0 o1 o2
    have HC := hide (oq_Same awp awp A3 n3 c3 A3 n3 c3 _ HP.out.ql HP.out.ql)
    rw [aw_lens.2.1] at HC
    simp only [awp, aw2] at HC
    go_wp2_with fail
    refine HC.out.mono ?_
    rintro e x4 ⟨rfl, hb⟩
    have HBA := hide (HBA.out.trans (hb.mono HBA.out.size))
    have HV := hide (HV.out.keep hb)
    have HP := hide (HP.out.keep hb)
    have HO := hide (HO.out.keep hb)
    clear hb HC p0 p1 p2 v0 v1 v2 o0 o1 o2
    obtain ⟨p0, p1, p2⟩ := qcells HP.out.blk
    obtain ⟨v0, v1, v2⟩ := qcells HV.out.blk
    obtain ⟨o0, o1, o2⟩ := qcells HO.out.blk
    simp only [awp, aw2, awo] at p0 p1 p2 v0 v1 v2 o0 o1 o2
    have HC := hide (oq_Same awp aw2 A3 n3 c3 A2 n2 c2 _ HP.out.ql HV.out.ql)
    rw [aw_lens.2.2] at HC
    simp only [awp, aw2] at HC
    go_wp2_with fail
    refine HC.out.mono ?_
    rintro e x5 ⟨rfl, hb⟩
    have HBA := hide (HBA.out.trans (hb.mono HBA.out.size))
    have HV := hide (HV.out.keep hb)
    have HP := hide (HP.out.keep hb)
    have HO := hide (HO.out.keep hb)
    clear hb HC p0 p1 p2 v0 v1 v2 o0 o1 o2
    obtain ⟨p0, p1, p2⟩ := qcells HP.out.blk
    obtain ⟨v0, v1, v2⟩ := qcells HV.out.blk
    obtain ⟨o0, o1, o2⟩ := qcells HO.out.blk
    simp only [awp, aw2, awo] at p0 p1 p2 v0 v1 v2 o0 o1 o2
    go_wp2
    go_ret
    exact ⟨rfl, HBA.out⟩
end Go.Proofs.Ytfcokhdkjoimmaa
