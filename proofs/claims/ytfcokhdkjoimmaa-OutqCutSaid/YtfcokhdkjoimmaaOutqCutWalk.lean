/-
  OutqCut: its walk (written by gen19cut.py).
-/
import Derived.Test.YtfcokhdkjoimmaaOqAwake
import Derived.Test.YtfcokhdkjoimmaaRqLight
import Derived.Test.YtfcokhdkjoimmaaOqSame
import Derived.Test.YtfcokhdkjoimmaaTxOpen
import Derived.Test.YtfcokhdkjoimmaaOutqCutMath
import Derived.BigGuardPart
namespace Go.Proofs.Ytfcokhdkjoimmaa.outqCut
set_option linter.unusedSimpArgs false
set_option linter.unusedVariables false
open Go.RowKit

set_option maxRecDepth 100000 in
set_option maxHeartbeats 6400000 in
theorem walk (A : Option Addr) (n c : Nat) (l : List ByteArray) (m g : Int) (x y : Int) (w : World)
    (hq : TX w A n c l) (_wm : (Lit.int .i64 m).wf = true) (_wg : (Lit.int .i64 g).wf = true) (hx : (Lit.int .u16 x).wf = true) (hy : (Lit.int .u16 y).wf = true) :
    Calls Try.prog 6 #[.agg #[.slice A n c, .int .i64 m, .int .i64 g], .int .u16 x, .int .u16 y] w fun e w' => e = .returned (.bool true) ∧ Below w.heap.size w w' := by
  clear _wm _wg
  have hx1 : 0 ≤ x ∧ x ≤ 65535 := bounds_u16 hx
  have hy1 : 0 ≤ y ∧ y ≤ 65535 := bounds_u16 hy
  obtain ⟨hx0, hx1⟩ := hx1
  obtain ⟨hy0, hy1⟩ := hy1
  clear hx hy
  have HAW := hide (fun w => aw_outq w)
  have hz := run_zero_is pq_zero
  have HB1 := hide (bel1 w (.cells #[.slice A n c, .int .i64 m, .int .i64 g] 24))
  have HT1 := hide (hq.keep HB1.out)
  have HX1 := hide (BlkIs.new w 24 #[.slice A n c, .int .i64 m, .int .i64 g])
  obtain ⟨k0, k1, k2⟩ := qcells HX1.out
  have HL := hide (fun w' (h : Below w.heap.size w w') => rq_Light A n c l m g w' (hq.keep h))
  go_enter Try.func6, Try.ntmps6
  go_upto_region 2 with (refine wpList_q_blk 28 pq_size rfl (.tmp 7) (.tmp 14) (w.heap.size + 1) A n c m g _ _ _ rfl (new2 w (.cells #[.slice A n c, .int .i64 m, .int .i64 g] 24) 28 #[.slice none 0 0, .int .i64 0, .int .i64 0]) rfl rfl ?_; intro w1 hk1 kb1; have HV1 := hide hk1; have HXB := hide (kb1.blk (HX1.out.alloc (.cells #[.slice none 0 0, .int .i64 0, .int .i64 0] 28)) (show ¬ w.heap.size = w.heap.size + 1 by omega)); have HB2 := hide (below_kbq (HB1.out.alloc HB1.out.size (.cells #[.slice none 0 0, .int .i64 0, .int .i64 0] 28)) kb1 (Nat.le_refl _) (show w.heap.size ≤ w.heap.size + 1 by omega)); clear hk1 kb1)
  clear k0 k1 k2 HX1 HB1 HT1
  obtain ⟨b3, hb3⟩ : ∃ b, b = w.heap.size := ⟨_, rfl⟩
  rw [← hb3] at HXB ⊢
  obtain ⟨b7, hb7⟩ : ∃ b, b = b3 + 1 := ⟨_, rfl⟩
  rw [show w.heap.size + 1 = b7 by rw [hb7, hb3]] at HV1
  rw [← hb7]
  clear hb3 hb7
  obtain ⟨k0, k1, k2⟩ := qcells HXB.out
  have HL1 := hide (HL.out _ HB2.out)
  clear HL
  cases h1 : lightQ l with
  | false =>
    rw [h1] at HL1
    clear h1
    go_wp2_with fail
    refine HL1.out.mono ?_
    rintro e w3 ⟨rfl, hb⟩
    have HB3 := hide (HB2.out.trans (hb.mono HB2.out.size))
    clear hb
    go_wp2_with fail
    refine (HAW.out _).mono ?_
    rintro e w4 ⟨rfl, hb⟩
    have HB4 := hide (HB3.out.trans (hb.mono HB3.out.size))
    clear hb
    go_wp2
    go_ret
    exact ⟨rfl, HB4.out⟩
  | true =>
    rw [h1] at HL1
    obtain ⟨hn1, hs1⟩ := light_is h1
    have hQ : QL w ⟨l, m, g⟩ A n c := ⟨hq, by have := hq.len; omega, by show lenL l ≤ _; omega⟩
    have HK := hide (fun w' (h : Below w.heap.size w w') => oq_Check ⟨l, m, g⟩ A n c w' (hQ.keep h))
    have HQ := hide hQ
    clear h1 hn1 hs1 hQ hq
    go_wp2_with fail
    refine HL1.out.mono ?_
    rintro e w2 ⟨rfl, hb⟩
    have HB3 := hide (HB2.out.trans (hb.mono HB2.out.size))
    have HX3 := hide (HXB.out.keep hb)
    have HV3 := hide (HV1.out.keep hb)
    clear hb k0 k1 k2 HL1 HXB HV1 HB2
    obtain ⟨k0, k1, k2⟩ := qcells HV3.out
    have HK3 := hide (HK.out _ HB3.out)
    clear HK
    go_wp2_with fail
    refine HK3.out.mono ?_
    rintro e w3 ⟨rfl, hb⟩
    have HB4 := hide (HB3.out.trans (hb.mono HB3.out.size))
    have HX4 := hide (HX3.out.keep hb)
    have HV4 := hide (HV3.out.keep hb)
    clear hb k0 k1 k2 HX3 HV3 HB3 HK3
    by_cases hck : chkQ ⟨l, m, g⟩ = 0
    · have HOK := hide ((chk_ok ⟨l, m, g⟩).1 hck)
      rw [hck]
      clear hck
      obtain ⟨q, hq⟩ : ∃ q : Qu, q = ⟨l, m, g⟩ := ⟨_, rfl⟩
      have hm : q.m = m := by rw [hq]
      have hg : q.g = g := by rw [hq]
      rw [← hq] at HQ HOK
      have HV := hide (show VQ 28 w3 b7 A n c q from ⟨by rw [hm, hg]; exact HV4.out, HQ.out.keep HB4.out⟩)
      have HVX := hide (show VQ 24 w3 b3 A n c q from ⟨by rw [hm, hg]; exact HX4.out, HQ.out.keep HB4.out⟩)
      have HM := hide hm
      clear hm hg hq HQ HV4 HX4
      have HTW := hide (drain_two HOK.out hx0 hy0)
      have HDM := hide (drain_m q (x + y))
      have HDR := hide (drain_room HOK.out (x + y))
      have HRB := hide (show 0 ≤ roomQ q ∧ roomQ q ≤ 65536 by
        unfold roomQ; split
        · have := HOK.out.len; omega
        · omega)
      have HLB := hide (show (drainB q (x + y)).length ≤ 65536 by rw [drainB_len]; have h1 := goes_le q (x + y); have h2 := HOK.out.len; omega)
      generalize hQA : drainQ q (x + y) = qa at *
      generalize hQB : drainQ q x = qb at *
      have HD2 := hide (fun (A1 : Option Addr) (n1 c1 : Nat) (w' : World) (h : QL w' qb A1 n1 c1) => oq_Drain qb A1 n1 c1 y w' h)
      have HOA := hide (show OkQ qa by rw [← hQA]; exact drain_ok HOK.out _)
      have HOB := hide (show OkQ qb by rw [← hQB]; exact drain_ok HOK.out _)
      have HPA := hide (show qa.ps.length ≤ 10000 ∧ lenL qa.ps ≤ 100000000 by
        refine ⟨?_, by have := HOA.out.len; omega⟩
        rw [← hQA, drain_is HOK.out]
        have h1 := dropP_count (goesN q (x + y)) q.ps
        have h2 := HV.out.ql.few
        have h3 := HV.out.ql.tx.len
        show (dropP _ _).length ≤ _; omega)
      have HPB := hide (show qb.ps.length ≤ 10000 ∧ lenL qb.ps ≤ 100000000 by
        refine ⟨?_, by have := HOB.out.len; omega⟩
        rw [← hQB, drain_is HOK.out]
        have h1 := dropP_count (goesN q x) q.ps
        have h2 := HV.out.ql.few
        have h3 := HV.out.ql.tx.len
        show (dropP _ _).length ≤ _; omega)
      have HDA := hide (oq_Drain q A n c (x + y) _ HV.out.ql)
      have HDB := hide (fun w' (h : QL w' q A n c) => oq_Drain q A n c x w' h)
      rw [hQA] at HDA
      rw [hQB] at HDB
      obtain ⟨ba, hba⟩ : ∃ b, b = drainB q (x + y) := ⟨_, rfl⟩
      obtain ⟨b1, hb1⟩ : ∃ b, b = drainB q x := ⟨_, rfl⟩
      obtain ⟨b2, hb2⟩ : ∃ b, b = drainB qb y := ⟨_, rfl⟩
      rw [← hba] at HDA HTW HDR HLB
      rw [← hb1] at HDB HTW
      rw [← hb2] at HD2 HTW
      rw [← HTW.out.1] at HD2
      clear hQA hQB hba hb1 hb2
      obtain ⟨k0, k1, k2⟩ := qcells HV.out.blk
      have hxy : x + y ≤ 131070 := by omega
      go_wp2_with fail
      refine HDA.out.mono ?_
      rintro e w5 ⟨⟨Aa, na, ca, Ca, ka, da, rfl, hta, hra⟩, hb⟩
      have HB5 := hide (HB4.out.trans (hb.mono HB4.out.size))
      have HV5 := hide (HV.out.keep hb)
      have HX5 := hide (HVX.out.keep hb)
      have HQ5 := hide (ql_mk qa hta HPA.out.1 HPA.out.2)
      have HR5 := hide hra
      clear hb k0 k1 k2 HV HVX HB4 hta hra HDA
      go_upto_region 5 with (refine wpList_q_blk 28 pq_size rfl (.tmp 8) (.tmp 32) w5.heap.size Aa na ca qa.m qa.g _ _ _ rfl (BlkIs.new w5 28 #[.slice none 0 0, .int .i64 0, .int .i64 0]) rfl rfl ?_; intro w6 hk kb; obtain ⟨hv, hb⟩ := VQ.new (q := qa) HQ5.out hk kb; have HA6 := hide hv; have HB6 := hide (HB5.out.trans (hb.mono HB5.out.size)); have HV6 := hide (HV5.out.keep hb); have HX6 := hide (HX5.out.keep hb); have HR6 := hide (HR5.out.below hb); clear hk kb hv hb)
      obtain ⟨b8, hb8⟩ : ∃ b, b = w5.heap.size := ⟨_, rfl⟩
      rw [← hb8] at HA6 ⊢
      clear hb8 HB5 HV5 HX5 HQ5 HR5
      obtain ⟨k0, k1, k2⟩ := qcells HV6.out.blk
      have HDB6 := hide (HDB.out _ HV6.out.ql)
      go_wp2_with fail
      refine HDB6.out.mono ?_
      rintro e w7 ⟨⟨Ab, nb, cb, Cb, kb, d1, rfl, htb, hrb⟩, hb⟩
      have HB7 := hide (HB6.out.trans (hb.mono HB6.out.size))
      have HV7 := hide (HV6.out.keep hb)
      have HX7 := hide (HX6.out.keep hb)
      have HA7 := hide (HA6.out.keep hb)
      have HRA7 := hide (HR6.out.below hb)
      have HQ7 := hide (ql_mk qb htb HPB.out.1 HPB.out.2)
      have HR7 := hide hrb
      clear hb k0 k1 k2 HB6 HV6 HX6 HA6 HR6 htb hrb HDB HDB6
      go_upto_region 6 with (refine wpList_q_blk 28 pq_size rfl (.tmp 10) (.tmp 39) w7.heap.size Ab nb cb qb.m qb.g _ _ _ rfl (BlkIs.new w7 28 #[.slice none 0 0, .int .i64 0, .int .i64 0]) rfl rfl ?_; intro w8 hk kb; obtain ⟨hv, hb⟩ := VQ.new (q := qb) HQ7.out hk kb; have HC8 := hide hv; have HB8 := hide (HB7.out.trans (hb.mono HB7.out.size)); have HV8 := hide (HV7.out.keep hb); have HX8 := hide (HX7.out.keep hb); have HA8 := hide (HA7.out.keep hb); have HRA8 := hide (HRA7.out.below hb); have HR8 := hide (HR7.out.below hb); clear hk kb hv hb)
      obtain ⟨b10, hb10⟩ : ∃ b, b = w7.heap.size := ⟨_, rfl⟩
      rw [← hb10] at HC8 ⊢
      clear hb10 HB7 HV7 HX7 HA7 HRA7 HQ7 HR7
      obtain ⟨k0, k1, k2⟩ := qcells HC8.out.blk
      have HD8 := hide (HD2.out Ab nb cb _ HC8.out.ql)
      go_wp2_with fail
      refine HD8.out.mono ?_
      rintro e w9 ⟨⟨Ac, nc, cc, Cc, kc, d2, rfl, htc, hrc⟩, hb⟩
      have HB9 := hide (HB8.out.trans (hb.mono HB8.out.size))
      have HV9 := hide (HV8.out.keep hb)
      have HX9 := hide (HX8.out.keep hb)
      have HA9 := hide (HA8.out.keep hb)
      have HRA9 := hide (HRA8.out.below hb)
      have HR19 := hide (HR8.out.below hb)
      have HQ9 := hide (ql_mk qa htc HPA.out.1 HPA.out.2)
      have HR9 := hide hrc
      clear hb k0 k1 k2 HB8 HV8 HX8 HA8 HRA8 HR8 HC8 htc hrc HD2 HD8
      go_upto_region 7 with (refine wpList_q_blk 28 pq_size rfl (.tmp 12) (.tmp 46) w9.heap.size Ac nc cc qa.m qa.g _ _ _ rfl (BlkIs.new w9 28 #[.slice none 0 0, .int .i64 0, .int .i64 0]) rfl rfl ?_; intro wD hk kb; obtain ⟨hv, hb⟩ := VQ.new (q := qa) HQ9.out hk kb; have HVC := hide hv; have HBD := hide (HB9.out.trans (hb.mono HB9.out.size)); have HV := hide (HV9.out.keep hb); have HVX := hide (HX9.out.keep hb); have HVA := hide (HA9.out.keep hb); have HRA := hide (HRA9.out.below hb); have HR1 := hide (HR19.out.below hb); have HR2 := hide (HR9.out.below hb); clear hk kb hv hb)
      obtain ⟨b12, hb12⟩ : ∃ b, b = w9.heap.size := ⟨_, rfl⟩
      rw [← hb12] at HVC ⊢
      have HLA := hide HRA.out.1
      clear hb12 HB9 HV9 HX9 HA9 HRA9 HR19 HQ9 HR9 hz
      have HSM := hide (fun w' (h : QL w' qa Aa na ca) (h' : QL w' qa Ac nc cc) => oq_Same qa qa Aa na ca Ac nc cc w' h h')
      rw [same_self] at HSM
      have HRM := hide (fun w' (h : QL w' qa Aa na ca) => oq_Room qa Aa na ca w' h)
      have HRQ := hide (fun w' (h : QL w' q A n c) => oq_Room q A n c w' h)
      rw [HDR.out, HLA.out] at HRM
      have HE := hide (str_same (show strOfNums ba = strOfNums b1 ++ strOfNums b2 by rw [HTW.out.2, str_app]))
      have HSZ := hide (show ¬ 9223372036854775807 < (strOfNums b1).size + (strOfNums b2).size by
        rw [strOfNums_size, strOfNums_size]
        have h1 := HTW.out.2
        have h2 := HLB.out
        rw [h1, List.length_append] at h2
        omega)
      have HWR := hide (show IntKind.i64.wrap (roomQ q + (ka : Int)) = roomQ q + (ka : Int) from IntWalk.i64_in _ (by have h1 := HRB.out; have h2 := HLB.out; have h3 := HLA.out; omega))
      refine wp_region_noPanic ?_
      refine wp_region_held_drew (S := fun w' => Below wD.heap.size wD w') (by kernel_rfl) (Below.refl _ _).drew (fun hS => ?_)
      generalize wD.drew = wd at hS ⊢
      refine wpAnyH_take (i := 0) (v := ?_) (by simp only [List.getElem?_toArray, List.getElem?_cons_succ, List.getElem?_cons_zero] <;> exact rfl) (by kernel_rfl) (by kernel_rfl) (by kernel_rfl) (fun _ _ _ h => h) (Or.inl ⟨by rfl, ?_⟩) hS ?_
      rotate_left
      focus (intro w' hw'; go_simp; all_goals with_reducible rfl)
      try simp only [Act.put, List.setIfInBounds_toArray, List.set_cons_zero, List.set_cons_succ]
      refine wpAnyH_take (i := 1) (v := ?_) (by simp only [List.getElem?_toArray, List.getElem?_cons_succ, List.getElem?_cons_zero] <;> exact rfl) (by kernel_rfl) (by kernel_rfl) (by kernel_rfl) (fun _ _ _ h => h) (Or.inl ⟨by rfl, ?_⟩) hS ?_
      rotate_left
      focus (intro w' hw'; have kk := rb_string da (HRA.out.below hw'); go_simp; all_goals with_reducible rfl)
      try simp only [Act.put, List.setIfInBounds_toArray, List.set_cons_zero, List.set_cons_succ]
      refine wpAnyH_take (i := 2) (v := ?_) (by simp only [List.getElem?_toArray, List.getElem?_cons_succ, List.getElem?_cons_zero] <;> exact rfl) (by kernel_rfl) (by kernel_rfl) (by kernel_rfl) (fun _ _ _ h => h) (Or.inl ⟨by rfl, ?_⟩) hS ?_
      rotate_left
      focus (intro w' hw'; go_simp; all_goals with_reducible rfl)
      try simp only [Act.put, List.setIfInBounds_toArray, List.set_cons_zero, List.set_cons_succ]
      refine wpAnyH_take (i := 3) (v := ?_) (by simp only [List.getElem?_toArray, List.getElem?_cons_succ, List.getElem?_cons_zero] <;> exact rfl) (by kernel_rfl) (by kernel_rfl) (by kernel_rfl) (fun _ _ _ h => h) (Or.inl ⟨by rfl, ?_⟩) hS ?_
      rotate_left
      focus (intro w' hw'; have kk := rb_string d1 (HR1.out.below hw'); go_simp; all_goals with_reducible rfl)
      try simp only [Act.put, List.setIfInBounds_toArray, List.set_cons_zero, List.set_cons_succ]
      refine wpAnyH_take (i := 4) (v := ?_) (by simp only [List.getElem?_toArray, List.getElem?_cons_succ, List.getElem?_cons_zero] <;> exact rfl) (by kernel_rfl) (by kernel_rfl) (by kernel_rfl) (fun _ _ _ h => h) (Or.inl ⟨by rfl, ?_⟩) hS ?_
      rotate_left
      focus (intro w' hw'; go_simp; all_goals with_reducible rfl)
      try simp only [Act.put, List.setIfInBounds_toArray, List.set_cons_zero, List.set_cons_succ]
      refine wpAnyH_take (i := 5) (v := ?_) (by simp only [List.getElem?_toArray, List.getElem?_cons_succ, List.getElem?_cons_zero] <;> exact rfl) (by kernel_rfl) (by kernel_rfl) (by kernel_rfl) (fun _ _ _ h => h) (Or.inl ⟨by rfl, ?_⟩) hS ?_
      rotate_left
      focus (intro w' hw'; have kk := rb_string d2 (HR2.out.below hw'); go_simp; all_goals with_reducible rfl)
      try simp only [Act.put, List.setIfInBounds_toArray, List.set_cons_zero, List.set_cons_succ]
      refine wpAnyH_take (i := 6) (v := ?_) (by simp only [List.getElem?_toArray, List.getElem?_cons_succ, List.getElem?_cons_zero] <;> exact rfl) (by kernel_rfl) (by kernel_rfl) (by kernel_rfl) (fun _ _ _ h => h) (Or.inl ⟨by rfl, ?_⟩) hS ?_
      rotate_left
      focus (intro w' hw'; have hh := HSZ.out; go_simp; all_goals with_reducible rfl)
      try simp only [Act.put, List.setIfInBounds_toArray, List.set_cons_zero, List.set_cons_succ]
      refine wpAnyH_take (i := 7) (v := ?_) (by simp only [List.getElem?_toArray, List.getElem?_cons_succ, List.getElem?_cons_zero] <;> exact rfl) (by kernel_rfl) (by kernel_rfl) (by kernel_rfl) (fun _ _ _ h => h) (Or.inl ⟨by rfl, ?_⟩) hS ?_
      rotate_left
      focus (intro w' hw'; have he := HE.out; go_simp; all_goals with_reducible rfl)
      try simp only [Act.put, List.setIfInBounds_toArray, List.set_cons_zero, List.set_cons_succ]
      refine wpAnyH_take (i := 8) (v := ?_) (by simp only [List.getElem?_toArray, List.getElem?_cons_succ, List.getElem?_cons_zero] <;> exact rfl) (by kernel_rfl) (by kernel_rfl) (by kernel_rfl) (fun _ _ _ h => h) (Or.inl ⟨by rfl, ?_⟩) hS ?_
      rotate_left
      focus (intro w' hw'; go_simp; all_goals with_reducible rfl)
      try simp only [Act.put, List.setIfInBounds_toArray, List.set_cons_zero, List.set_cons_succ]
      refine wpAnyH_take (i := 9) (v := ?_) (by simp only [List.getElem?_toArray, List.getElem?_cons_succ, List.getElem?_cons_zero] <;> exact rfl) (by kernel_rfl) (by kernel_rfl) (by kernel_rfl) (fun _ _ _ h => h) (Or.inl ⟨by rfl, ?_⟩) hS ?_
      rotate_left
      focus (intro w' hw'; obtain ⟨k0, k1, k2⟩ := qcells (HVA.out.blk.keep hw'); go_simp; all_goals with_reducible rfl)
      try simp only [Act.put, List.setIfInBounds_toArray, List.set_cons_zero, List.set_cons_succ]
      refine wpAnyH_take (i := 10) (v := ?_) (by simp only [List.getElem?_toArray, List.getElem?_cons_succ, List.getElem?_cons_zero] <;> exact rfl) (by kernel_rfl) (by kernel_rfl) (by kernel_rfl) (fun _ _ _ h => h) (Or.inl ⟨by rfl, ?_⟩) hS ?_
      rotate_left
      focus (intro w' hw'; obtain ⟨k0, k1, k2⟩ := qcells (HVC.out.blk.keep hw'); go_simp; all_goals with_reducible rfl)
      try simp only [Act.put, List.setIfInBounds_toArray, List.set_cons_zero, List.set_cons_succ]
      refine wpAnyH_ready (rs := [11]) (by kernel_rfl) (by simp) ?_
      refine AllReadyH.cons (o := _) (by simp only [List.getElem?_toArray, List.getElem?_cons_succ, List.getElem?_cons_zero] <;> exact rfl) (fun K hK => ?_) ?_
      focus (
        go_simp
        go_at_call 20
        refine (HSM.out _ (HVA.out.ql.keep hS) (HVC.out.ql.keep hS)).mono ?_
        rintro e wc1 ⟨rfl, hb⟩
        have hS := hS.trans (hb.mono hS.size)
        clear hb
        go_wp2_with fail
        refine hK.out _ _ hS (fun _ => ?_)
        clear hK K
        try simp only [Act.put, List.setIfInBounds_toArray, List.set_cons_zero, List.set_cons_succ]
        refine wpAnyH_take (i := 12) (v := ?_) (by simp only [List.getElem?_toArray, List.getElem?_cons_succ, List.getElem?_cons_zero] <;> exact rfl) (by kernel_rfl) (by kernel_rfl) (by kernel_rfl) (fun _ _ _ h => h) (Or.inl ⟨by rfl, ?_⟩) hS ?_
        rotate_left
        focus (intro w' hw'; go_simp; all_goals with_reducible rfl)
        try simp only [Act.put, List.setIfInBounds_toArray, List.set_cons_zero, List.set_cons_succ]
        refine wpAnyH_take (i := 13) (v := ?_) (by simp only [List.getElem?_toArray, List.getElem?_cons_succ, List.getElem?_cons_zero] <;> exact rfl) (by kernel_rfl) (by kernel_rfl) (by kernel_rfl) (fun _ _ _ h => h) (Or.inl ⟨by rfl, ?_⟩) hS ?_
        rotate_left
        focus (intro w' hw'; go_simp; all_goals with_reducible rfl)
        try simp only [Act.put, List.setIfInBounds_toArray, List.set_cons_zero, List.set_cons_succ]
        refine wpAnyH_take (i := 14) (v := ?_) (by simp only [List.getElem?_toArray, List.getElem?_cons_succ, List.getElem?_cons_zero] <;> exact rfl) (by kernel_rfl) (by kernel_rfl) (by kernel_rfl) (fun _ _ _ h => h) (Or.inl ⟨by rfl, ?_⟩) hS ?_
        rotate_left
        focus (intro w' hw'; go_simp; all_goals with_reducible rfl)
        try simp only [Act.put, List.setIfInBounds_toArray, List.set_cons_zero, List.set_cons_succ]
        refine wpAnyH_take (i := 15) (v := ?_) (by simp only [List.getElem?_toArray, List.getElem?_cons_succ, List.getElem?_cons_zero] <;> exact rfl) (by kernel_rfl) (by kernel_rfl) (by kernel_rfl) (fun _ _ _ h => h) (Or.inl ⟨by rfl, ?_⟩) hS ?_
        rotate_left
        focus (intro w' hw'; obtain ⟨k0, k1, k2⟩ := qcells (HVA.out.blk.keep hw'); go_simp; all_goals with_reducible rfl)
        try simp only [Act.put, List.setIfInBounds_toArray, List.set_cons_zero, List.set_cons_succ]
        refine wpAnyH_take (i := 16) (v := ?_) (by simp only [List.getElem?_toArray, List.getElem?_cons_succ, List.getElem?_cons_zero] <;> exact rfl) (by kernel_rfl) (by kernel_rfl) (by kernel_rfl) (fun _ _ _ h => h) (Or.inl ⟨by rfl, ?_⟩) hS ?_
        rotate_left
        focus (intro w' hw'; go_simp; all_goals with_reducible rfl)
        try simp only [Act.put, List.setIfInBounds_toArray, List.set_cons_zero, List.set_cons_succ]
        refine wpAnyH_take (i := 17) (v := ?_) (by simp only [List.getElem?_toArray, List.getElem?_cons_succ, List.getElem?_cons_zero] <;> exact rfl) (by kernel_rfl) (by kernel_rfl) (by kernel_rfl) (fun _ _ _ h => h) (Or.inl ⟨by rfl, ?_⟩) hS ?_
        rotate_left
        focus (intro w' hw'; obtain ⟨k0, k1, k2⟩ := qcells (HVX.out.blk.keep hw'); go_simp; all_goals with_reducible rfl)
        try simp only [Act.put, List.setIfInBounds_toArray, List.set_cons_zero, List.set_cons_succ]
        refine wpAnyH_take (i := 18) (v := ?_) (by simp only [List.getElem?_toArray, List.getElem?_cons_succ, List.getElem?_cons_zero] <;> exact rfl) (by kernel_rfl) (by kernel_rfl) (by kernel_rfl) (fun _ _ _ h => h) (Or.inl ⟨by rfl, ?_⟩) hS ?_
        rotate_left
        focus (intro w' hw'; have hh := HDM.out; go_simp; all_goals with_reducible rfl)
        try simp only [Act.put, List.setIfInBounds_toArray, List.set_cons_zero, List.set_cons_succ]
        refine wpAnyH_take (i := 19) (v := ?_) (by simp only [List.getElem?_toArray, List.getElem?_cons_succ, List.getElem?_cons_zero] <;> exact rfl) (by kernel_rfl) (by kernel_rfl) (by kernel_rfl) (fun _ _ _ h => h) (Or.inl ⟨by rfl, ?_⟩) hS ?_
        rotate_left
        focus (intro w' hw'; go_simp; all_goals with_reducible rfl)
        try simp only [Act.put, List.setIfInBounds_toArray, List.set_cons_zero, List.set_cons_succ]
        refine wpAnyH_take (i := 20) (v := ?_) (by simp only [List.getElem?_toArray, List.getElem?_cons_succ, List.getElem?_cons_zero] <;> exact rfl) (by kernel_rfl) (by kernel_rfl) (by kernel_rfl) (fun _ _ _ h => h) (Or.inl ⟨by rfl, ?_⟩) hS ?_
        rotate_left
        focus (intro w' hw'; go_simp; all_goals with_reducible rfl)
        try simp only [Act.put, List.setIfInBounds_toArray, List.set_cons_zero, List.set_cons_succ]
        refine wpAnyH_take (i := 21) (v := ?_) (by simp only [List.getElem?_toArray, List.getElem?_cons_succ, List.getElem?_cons_zero] <;> exact rfl) (by kernel_rfl) (by kernel_rfl) (by kernel_rfl) (fun _ _ _ h => h) (Or.inl ⟨by rfl, ?_⟩) hS ?_
        rotate_left
        focus (intro w' hw'; obtain ⟨k0, k1, k2⟩ := qcells (HVA.out.blk.keep hw'); go_simp; all_goals with_reducible rfl)
        try simp only [Act.put, List.setIfInBounds_toArray, List.set_cons_zero, List.set_cons_succ]
        refine wpAnyH_take (i := 23) (v := ?_) (by simp only [List.getElem?_toArray, List.getElem?_cons_succ, List.getElem?_cons_zero] <;> exact rfl) (by kernel_rfl) (by kernel_rfl) (by kernel_rfl) (fun _ _ _ h => h) (Or.inl ⟨by rfl, ?_⟩) hS ?_
        rotate_left
        focus (intro w' hw'; obtain ⟨k0, k1, k2⟩ := qcells (HV.out.blk.keep hw'); go_simp; all_goals with_reducible rfl)
        try simp only [Act.put, List.setIfInBounds_toArray, List.set_cons_zero, List.set_cons_succ]
        refine wpAnyH_take (i := 25) (v := ?_) (by simp only [List.getElem?_toArray, List.getElem?_cons_succ, List.getElem?_cons_zero] <;> exact rfl) (by kernel_rfl) (by kernel_rfl) (by kernel_rfl) (fun _ _ _ h => h) (Or.inl ⟨by rfl, ?_⟩) hS ?_
        rotate_left
        focus (intro w' hw'; go_simp; all_goals with_reducible rfl)
        try simp only [Act.put, List.setIfInBounds_toArray, List.set_cons_zero, List.set_cons_succ]
        refine wpAnyH_take (i := 26) (v := ?_) (by simp only [List.getElem?_toArray, List.getElem?_cons_succ, List.getElem?_cons_zero] <;> exact rfl) (by kernel_rfl) (by kernel_rfl) (by kernel_rfl) (fun _ _ _ h => h) (Or.inl ⟨by rfl, ?_⟩) hS ?_
        rotate_left
        focus (intro w' hw'; go_simp; all_goals with_reducible rfl)
        try simp only [Act.put, List.setIfInBounds_toArray, List.set_cons_zero, List.set_cons_succ]
        refine wpAnyH_ready (rs := [22]) (by kernel_rfl) (by simp) ?_
        refine AllReadyH.cons (o := _) (by simp only [List.getElem?_toArray, List.getElem?_cons_succ, List.getElem?_cons_zero] <;> exact rfl) (fun K hK => ?_) ?_
        focus (
          go_simp
          go_at_call 18
          refine (HRM.out _ (HVA.out.ql.keep hS)).mono ?_
          rintro e wc2 ⟨rfl, hb⟩
          have hS := hS.trans (hb.mono hS.size)
          clear hb
          go_wp2_with fail
          refine hK.out _ _ hS (fun _ => ?_)
          clear hK K
          try simp only [Act.put, List.setIfInBounds_toArray, List.set_cons_zero, List.set_cons_succ]
          refine wpAnyH_ready (rs := [24]) (by kernel_rfl) (by simp) ?_
          refine AllReadyH.cons (o := _) (by simp only [List.getElem?_toArray, List.getElem?_cons_succ, List.getElem?_cons_zero] <;> exact rfl) (fun K hK => ?_) ?_
          focus (
            go_simp
            go_at_call 18
            refine (HRQ.out _ (HV.out.ql.keep hS)).mono ?_
            rintro e wc3 ⟨rfl, hb⟩
            have hS := hS.trans (hb.mono hS.size)
            clear hb
            go_wp2_with fail
            refine hK.out _ _ hS (fun _ => ?_)
            clear hK K
            try simp only [Act.put, List.setIfInBounds_toArray, List.set_cons_zero, List.set_cons_succ]
            refine wpAnyH_take (i := 27) (v := ?_) (by simp only [List.getElem?_toArray, List.getElem?_cons_succ, List.getElem?_cons_zero] <;> exact rfl) (by kernel_rfl) (by kernel_rfl) (by kernel_rfl) (fun _ _ _ h => h) (Or.inl ⟨by rfl, ?_⟩) hS ?_
            rotate_left
            focus (intro w' hw'; have hh := HWR.out; go_simp; all_goals with_reducible rfl)
            try simp only [Act.put, List.setIfInBounds_toArray, List.set_cons_zero, List.set_cons_succ]
            refine wpAnyH_take (i := 28) (v := ?_) (by simp only [List.getElem?_toArray, List.getElem?_cons_succ, List.getElem?_cons_zero] <;> exact rfl) (by kernel_rfl) (by kernel_rfl) (by kernel_rfl) (fun _ _ _ h => h) (Or.inl ⟨by rfl, ?_⟩) hS ?_
            rotate_left
            focus (intro w' hw'; go_simp; all_goals with_reducible rfl)
            try simp only [Act.put, List.setIfInBounds_toArray, List.set_cons_zero, List.set_cons_succ]
            refine wpAnyH_take (i := 29) (v := ?_) (by simp only [List.getElem?_toArray, List.getElem?_cons_succ, List.getElem?_cons_zero] <;> exact rfl) (by kernel_rfl) (by kernel_rfl) (by kernel_rfl) (fun _ _ _ h => h) (Or.inl ⟨by rfl, ?_⟩) hS ?_
            rotate_left
            focus (intro w' hw'; go_simp; all_goals with_reducible rfl)
            try simp only [Act.put, List.setIfInBounds_toArray, List.set_cons_zero, List.set_cons_succ]
            refine wpAnyH_take (i := 30) (v := ?_) (by simp only [List.getElem?_toArray, List.getElem?_cons_succ, List.getElem?_cons_zero] <;> exact rfl) (by kernel_rfl) (by kernel_rfl) (by kernel_rfl) (fun _ _ _ h => h) (Or.inl ⟨by rfl, ?_⟩) hS ?_
            rotate_left
            focus (intro w' hw'; go_simp; all_goals with_reducible rfl)
            try simp only [Act.put, List.setIfInBounds_toArray, List.set_cons_zero, List.set_cons_succ]
            refine wpAnyH_ready (rs := [31]) (by kernel_rfl) (by simp) ?_
            refine AllReadyH.cons (o := _) (by simp only [List.getElem?_toArray, List.getElem?_cons_succ, List.getElem?_cons_zero] <;> exact rfl) (fun K hK => ?_) ?_
            focus (
              go_simp
              go_at_call 8
              refine (HAW.out _).mono ?_
              rintro e wc4 ⟨rfl, hb⟩
              have hS := hS.trans (hb.mono hS.size)
              clear hb
              go_wp2_with fail
              refine hK.out _ _ hS (fun _ => ?_)
              clear hK K
              try simp only [Act.put, List.setIfInBounds_toArray, List.set_cons_zero, List.set_cons_succ]
              refine wpAnyH_take (i := 32) (v := ?_) (by simp only [List.getElem?_toArray, List.getElem?_cons_succ, List.getElem?_cons_zero] <;> exact rfl) (by kernel_rfl) (by kernel_rfl) (by kernel_rfl) (fun _ _ _ h => h) (Or.inl ⟨by rfl, ?_⟩) hS ?_
              rotate_left
              focus (intro w' hw'; go_simp; all_goals with_reducible rfl)
              try simp only [Act.put, List.setIfInBounds_toArray, List.set_cons_zero, List.set_cons_succ]
              refine wpAnyH_take (i := 33) (v := ?_) (by simp only [List.getElem?_toArray, List.getElem?_cons_succ, List.getElem?_cons_zero] <;> exact rfl) (by kernel_rfl) (by kernel_rfl) (by kernel_rfl) (fun _ _ _ h => h) (Or.inl ⟨by rfl, ?_⟩) hS ?_
              rotate_left
              focus (intro w' hw'; go_simp; all_goals with_reducible rfl)
              try simp only [Act.put, List.setIfInBounds_toArray, List.set_cons_zero, List.set_cons_succ]
              refine wpAnyH_done (by kernel_rfl) ?_ _
              refine NoPanic.normal ?_
              go_wp2
              go_ret
              exact ⟨rfl, HBD.out.trans (hS.mono HBD.out.size)⟩)
            exact AllReadyH.nil)
          exact AllReadyH.nil)
        exact AllReadyH.nil)
      exact AllReadyH.nil
    · have hne : (chkQ ⟨l, m, g⟩ == 0) = false := beq_eq_false_iff_ne.2 hck
      have hne2 : (chkQ ⟨l, m, g⟩ != 0) = true := by simpa using hck
      have HB3 := HB4
      generalize chkQ ⟨l, m, g⟩ = ck at *
      clear hck
      go_wp2_with fail
      refine (HAW.out _).mono ?_
      rintro e w4 ⟨rfl, hb⟩
      have HB4 := hide (HB3.out.trans (hb.mono HB3.out.size))
      clear hb
      go_wp2
      go_ret
      exact ⟨rfl, HB4.out⟩
end Go.Proofs.Ytfcokhdkjoimmaa.outqCut
