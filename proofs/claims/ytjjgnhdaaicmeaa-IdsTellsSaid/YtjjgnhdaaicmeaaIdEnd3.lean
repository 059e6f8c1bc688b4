/-
  Layer 15: End, where a stream is cut off: of nine (written by gen15end.py).
-/
import Derived.Test.YtjjgnhdaaicmeaaIdEnd2
import Derived.Lib.MinMax
namespace Go.Proofs.Ytjjgnhdaaicmeaa
set_option linter.unusedSimpArgs false
set_option linter.unusedVariables false
open Go.RowKit

set_option maxRecDepth 100000 in
set_option maxHeartbeats 6400000 in
theorem id_end_d (T : Tb) (A : Option Addr) (n c : Nat) (B : Option Addr) (m d : Nat) (id : Int) (w : World) (hl : TL w T A n c B m d) (hn : (n : Int) ≤ 1000) (hm : (m : Int) ≤ 1000) (hck : chkI T = 0) (hcl : clsI T id = 2) (hid : (Lit.int .i64 id).wf = true) (h8 : m = 8) :
    Calls Try.prog 13 #[.agg #[.int .i64 T.l, .slice A n c, .slice B m d], .int .i64 id, .bool true] w (GivesT T A B ⟨T.l, T.op.filter (offP id), cutL (T.cu ++ [id])⟩ w) := by
  have HLM := hide (show T.cu.length = m from hl.cu.len)
  have H8 := hide h8
  have HID := hide hid
  clear h8 hid
  have HL := hide hl
  have HB2 := hide (bel2 w (.cells #[.int .i64 T.l, .slice A n c, .slice B m d] 28) (.cells #[.int .i64 0, .slice none 0 0, .slice none 0 0] 28))
  have HX := hide ((BlkIs.new w 28 #[.int .i64 T.l, .slice A n c, .slice B m d]).alloc (.cells #[.int .i64 0, .slice none 0 0, .slice none 0 0] 28))
  have HG := hide (new2 w (.cells #[.int .i64 T.l, .slice A n c, .slice B m d] 28) 28 #[.int .i64 0, .slice none 0 0, .slice none 0 0])
  have HC := hide (id_Check T A n c B m d _ (hl.keep HB2.out) (by omega) (by omega))
  have HCL := hide (fun w' (h : TL w' T A n c B m d) => id_Class T A n c B m d id w' h (by omega) (by omega))
  have hz := run_zero_is tb_zero
  obtain ⟨F, hF⟩ : ∃ F, F = T.op.filter (offP id) := ⟨_, rfl⟩
  obtain ⟨q1, hq1⟩ : ∃ q, F.length = q := ⟨_, rfl⟩
  obtain ⟨q2, hq2⟩ : ∃ q, T.cu.length = q := ⟨_, rfl⟩
  have HFE := hide hF
  have HALL1 := hide (show AllN F by rw [hF]; exact fun x hx => hl.op.all x (List.mem_filter.1 hx).1)
  have HALL2 := hide hl.cu.all
  have HM8 := hide (show q2 ≤ 8 by rw [← hq2]; exact (chk_ok.1 hck).ncu)
  have HQ2 := hide hq2
  have HW0 := hide (fun w' b0 (h : TL w' T A n c B m d) (hb : b0 ≤ w'.heap.size) => givesQ hq1 hb (hF ▸ id_without A n c T.op id w' h.op hn))
  have HV0 := hide (fun w' b0 (h : TL w' T A n c B m d) (hb : b0 ≤ w'.heap.size) => givesQ hq2 hb (id_Clone B m d T.cu w' h.cu (by omega)))
  have HBH := hide (fun w' (h : TL w' T A n c B m d) hid => id_behind B m d T.cu id w' h.cu hm hid)
  rw [hck] at HC
  clear hl hn hm hck hF hq1 hq2
  go_enter Try.func13, Try.ntmps13
  go_wp2_with fail
  refine HC.out.mono ?_
  rintro e w2 ⟨rfl, hb2⟩
  have HG2 := hide (HG.out.keep hb2)
  have HX2 := hide (HX.out.keep hb2)
  have HB3 := hide (HB2.out.trans (hb2.mono HB2.out.size))
  obtain ⟨k0, k1, k2⟩ := cells3 HX2.out
  clear hb2 HC HG HX HB2
  have HCD := hide (HCL.out w2 (HL.out.keep HB3.out))
  clear HCL
  rw [hcl] at HCD
  go_wp2_with fail
  refine HCD.out.mono ?_
  rintro e w3 ⟨rfl, hb3⟩
  have HG3 := hide (HG2.out.keep hb3)
  have HX3 := hide (HX2.out.keep hb3)
  have HB4 := hide (HB3.out.trans (hb3.mono HB3.out.size))
  clear k0 k1 k2
  obtain ⟨k0, k1, k2⟩ := cells3 HX3.out
  clear hb3 HCD HG2 HX2 HB3
  have HL3 := hide (HL.out.keep HB4.out)
  have HW := hide (fun w' (h : Below w3.heap.size w3 w') => HW0.out w' w3.heap.size (HL3.out.keep h) h.size)
  have HV := hide (fun w' (h : Below w3.heap.size w3 w') => HV0.out w' w3.heap.size (HL3.out.keep h) h.size)
  go_upto_region 3 with (fail)
  obtain ⟨gb, hgb⟩ : ∃ gb, gb = w.heap.size := ⟨_, rfl⟩
  have HGB := hide HX3.out.lt
  obtain ⟨L, hL⟩ : ∃ L, L = T.l := ⟨_, rfl⟩
  have HLE := hide hL
  rw [← hL] at k0 HX3 ⊢
  rw [← hgb] at k0 k1 k2 HGB HX3 HG3 ⊢
  have HGE := hide hgb
  clear hgb hL HW0 HV0
  go_cut [7] (fun s7 wx => LeftIs w3 L F T.cu q1 q2 s7 wx)
  case first =>
    refine wp_region_noPanic ?_
    refine wp_region_held_drew (S := fun w' => Below w3.heap.size w3 w') (by kernel_rfl) (Below.refl _ _).drew (fun hS => ?_)
    generalize w3.drew = wd at hS  ⊢
    refine wpAnyH_take (i := 0) (v := ?_) (by simp only [List.getElem?_toArray, List.getElem?_cons_succ, List.getElem?_cons_zero] <;> exact rfl) (by kernel_rfl) (by kernel_rfl) (by kernel_rfl) (fun _ _ _ h => h) (Or.inl ⟨by rfl, ?_⟩) hS ?_
    rotate_left
    focus (intro w' hw'; go_simp; all_goals with_reducible rfl)
    try simp only [Act.put, List.setIfInBounds_toArray, List.set_cons_zero, List.set_cons_succ]
    refine wpAnyH_take (i := 1) (v := ?_) (by simp only [List.getElem?_toArray, List.getElem?_cons_succ, List.getElem?_cons_zero] <;> exact rfl) (by kernel_rfl) (by kernel_rfl) (by kernel_rfl) (fun _ _ _ h => h) (Or.inl ⟨by rfl, ?_⟩) hS ?_
    rotate_left
    focus (intro w' hw'; have kk := (hw'.cell (p := ⟨gb, 0, none⟩) HGB.out).trans k0; go_simp; all_goals with_reducible rfl)
    try simp only [Act.put, List.setIfInBounds_toArray, List.set_cons_zero, List.set_cons_succ]
    refine wpAnyH_take (i := 2) (v := ?_) (by simp only [List.getElem?_toArray, List.getElem?_cons_succ, List.getElem?_cons_zero] <;> exact rfl) (by kernel_rfl) (by kernel_rfl) (by kernel_rfl) (fun _ _ _ h => h) (Or.inl ⟨by rfl, ?_⟩) hS ?_
    rotate_left
    focus (intro w' hw'; go_simp; all_goals with_reducible rfl)
    try simp only [Act.put, List.setIfInBounds_toArray, List.set_cons_zero, List.set_cons_succ]
    refine wpAnyH_take (i := 3) (v := ?_) (by simp only [List.getElem?_toArray, List.getElem?_cons_succ, List.getElem?_cons_zero] <;> exact rfl) (by kernel_rfl) (by kernel_rfl) (by kernel_rfl) (fun _ _ _ h => h) (Or.inl ⟨by rfl, ?_⟩) hS ?_
    rotate_left
    focus (intro w' hw'; have kk := (hw'.cell (p := ⟨gb, 1, none⟩) HGB.out).trans k1; go_simp; all_goals with_reducible rfl)
    try simp only [Act.put, List.setIfInBounds_toArray, List.set_cons_zero, List.set_cons_succ]
    refine wpAnyH_take (i := 4) (v := ?_) (by simp only [List.getElem?_toArray, List.getElem?_cons_succ, List.getElem?_cons_zero] <;> exact rfl) (by kernel_rfl) (by kernel_rfl) (by kernel_rfl) (fun _ _ _ h => h) (Or.inl ⟨by rfl, ?_⟩) hS ?_
    rotate_left
    focus (intro w' hw'; go_simp; all_goals with_reducible rfl)
    try simp only [Act.put, List.setIfInBounds_toArray, List.set_cons_zero, List.set_cons_succ]
    refine wpAnyH_take (i := 6) (v := ?_) (by simp only [List.getElem?_toArray, List.getElem?_cons_succ, List.getElem?_cons_zero] <;> exact rfl) (by kernel_rfl) (by kernel_rfl) (by kernel_rfl) (fun _ _ _ h => h) (Or.inl ⟨by rfl, ?_⟩) hS ?_
    rotate_left
    focus (intro w' hw'; go_simp; all_goals with_reducible rfl)
    try simp only [Act.put, List.setIfInBounds_toArray, List.set_cons_zero, List.set_cons_succ]
    refine wpAnyH_take (i := 7) (v := ?_) (by simp only [List.getElem?_toArray, List.getElem?_cons_succ, List.getElem?_cons_zero] <;> exact rfl) (by kernel_rfl) (by kernel_rfl) (by kernel_rfl) (fun _ _ _ h => h) (Or.inl ⟨by rfl, ?_⟩) hS ?_
    rotate_left
    focus (intro w' hw'; have kk := (hw'.cell (p := ⟨gb, 2, none⟩) HGB.out).trans k2; go_simp; all_goals with_reducible rfl)
    try simp only [Act.put, List.setIfInBounds_toArray, List.set_cons_zero, List.set_cons_succ]
    refine wpAnyH_ready (rs := [5, 10]) (by kernel_rfl) (by simp) ?_
    refine AllReadyH.cons (o := _) (by simp only [List.getElem?_toArray, List.getElem?_cons_succ, List.getElem?_cons_zero] <;> exact rfl) (fun K hK => ?_) ?_
    focus (
      go_simp
      go_at_call 26
      refine (HW.out _ hS).mono ?_
      rintro e wr1 ⟨⟨A1, c1, rfl, o1⟩, hb⟩
      have hS := hS.trans (hb.mono hS.size)
      clear hb
      go_wp2_with fail
      refine hK.out _ _ hS (fun _ => ?_)
      clear hK K
      try simp only [Act.put, List.setIfInBounds_toArray, List.set_cons_zero, List.set_cons_succ]
      refine wpAnyH_ready (rs := [8, 10]) (by kernel_rfl) (by simp) ?_
      refine AllReadyH.cons (o := _) (by simp only [List.getElem?_toArray, List.getElem?_cons_succ, List.getElem?_cons_zero] <;> exact rfl) (fun K hK => ?_) ?_
      focus (
        go_simp
        go_at_call 27
        refine (HV.out _ hS).mono ?_
        rintro e wr2 ⟨⟨B1, c2, rfl, o2⟩, hb⟩
        have hS := hS.trans (hb.mono hS.size)
        have Eo12 := o1.keep hb
        clear hb
        go_wp2_with fail
        refine hK.out _ _ hS (fun _ => ?_)
        clear hK K
        try simp only [Act.put, List.setIfInBounds_toArray, List.set_cons_zero, List.set_cons_succ]
        refine wpAnyH_take (i := 9) (v := ?_) (by simp only [List.getElem?_toArray, List.getElem?_cons_succ, List.getElem?_cons_zero] <;> exact rfl) (by kernel_rfl) (by kernel_rfl) (by kernel_rfl) (fun _ _ _ h => h) (Or.inl ⟨by rfl, ?_⟩) hS ?_
        rotate_left
        focus (intro w' hw'; go_simp; all_goals with_reducible rfl)
        try simp only [Act.put, List.setIfInBounds_toArray, List.set_cons_zero, List.set_cons_succ]
        refine wpAnyH_ready (rs := [10]) (by kernel_rfl) (by simp) ?_
        refine AllReadyH.cons (o := _) (by simp only [List.getElem?_toArray, List.getElem?_cons_succ, List.getElem?_cons_zero] <;> exact rfl) (fun K hK => ?_) ?_
        focus (
          go_simp
          have hz3 := hS.size
          have hS := hS.alloc hS.size (.cells #[.int .i64 0, .slice none 0 0, .slice none 0 0] 28)
          refine hK.out _ _ hS (fun _ => ?_)
          have Eo13 := Eo12.alloc (.cells #[.int .i64 0, .slice none 0 0, .slice none 0 0] 28)
          have Eo23 := o2.alloc (.cells #[.int .i64 0, .slice none 0 0, .slice none 0 0] 28)
          have Ex3 := BlkIs.new wr2 28 #[.int .i64 0, .slice none 0 0, .slice none 0 0]
          obtain ⟨x, hx⟩ : ∃ g, g = wr2.heap.size := ⟨_, rfl⟩
          have Mx : w3.heap.size ≤ x := by rw [hx]; exact hz3
          rw [← hx] at Ex3 ⊢
          generalize wr2.alloc (.cells #[.int .i64 0, .slice none 0 0, .slice none 0 0] 28) = wa3 at hS Ex3 Eo13 Eo23 ⊢
          clear hx hz3
          clear hK K
          try simp only [Act.put, List.setIfInBounds_toArray, List.set_cons_zero, List.set_cons_succ]
          refine wpAnyH_ready (rs := [11]) (by kernel_rfl) (by simp) ?_
          refine AllReadyH.cons (o := _) (by simp only [List.getElem?_toArray, List.getElem?_cons_succ, List.getElem?_cons_zero] <;> exact rfl) (fun K hK => ?_) ?_
          focus (
            refine rgs_store_blk (by rfl) 28 (.tmp 7) (.tmp 28) (by rfl) x #[.int .i64 L, .slice A1 q1 c1, .slice B1 q2 c2] #[.int .i64 0, .slice none 0 0, .slice none 0 0] 28 (by rfl) (by rfl) Ex3 tb_size rfl (tb_one L A1 B1 q1 c1 q2 c2) ?_
            have hS := below_setRow hS Mx #[.int .i64 L, .slice A1 q1 c1, .slice B1 q2 c2]
            have Ex4 := Ex3.row #[.int .i64 L, .slice A1 q1 c1, .slice B1 q2 c2]
            have Eo14 := Eo13.row Ex3 #[.int .i64 L, .slice A1 q1 c1, .slice B1 q2 c2]
            have Eo24 := Eo23.row Ex3 #[.int .i64 L, .slice A1 q1 c1, .slice B1 q2 c2]
            refine hK.out _ _ hS (fun _ => ?_)
            generalize wa3.setRow x #[.int .i64 L, .slice A1 q1 c1, .slice B1 q2 c2] = ws4 at hS Ex4 Eo14 Eo24 ⊢
            clear hK K
            try simp only [Act.put, List.setIfInBounds_toArray, List.set_cons_zero, List.set_cons_succ]
            refine wpAnyH_done (by kernel_rfl) ?_ _
            refine NoPanic.normal ?_
            go_wp2
            go_meet
            exact ⟨x, A1, c1, B1, c2, rfl, Ex4, Eo14, Eo24, Mx, hS⟩)
          exact AllReadyH.nil)
        exact AllReadyH.nil)
      refine AllReadyH.cons (o := _) (by simp only [List.getElem?_toArray, List.getElem?_cons_succ, List.getElem?_cons_zero] <;> exact rfl) (fun K hK => ?_) ?_
      focus (
        go_simp
        have hz5 := hS.size
        have hS := hS.alloc hS.size (.cells #[.int .i64 0, .slice none 0 0, .slice none 0 0] 28)
        refine hK.out _ _ hS (fun _ => ?_)
        have Eo15 := o1.alloc (.cells #[.int .i64 0, .slice none 0 0, .slice none 0 0] 28)
        have Ex5 := BlkIs.new wr1 28 #[.int .i64 0, .slice none 0 0, .slice none 0 0]
        obtain ⟨x, hx⟩ : ∃ g, g = wr1.heap.size := ⟨_, rfl⟩
        have Mx : w3.heap.size ≤ x := by rw [hx]; exact hz5
        rw [← hx] at Ex5 ⊢
        generalize wr1.alloc (.cells #[.int .i64 0, .slice none 0 0, .slice none 0 0] 28) = wa5 at hS Ex5 Eo15 ⊢
        clear hx hz5
        clear hK K
        try simp only [Act.put, List.setIfInBounds_toArray, List.set_cons_zero, List.set_cons_succ]
        refine wpAnyH_ready (rs := [8]) (by kernel_rfl) (by simp) ?_
        refine AllReadyH.cons (o := _) (by simp only [List.getElem?_toArray, List.getElem?_cons_succ, List.getElem?_cons_zero] <;> exact rfl) (fun K hK => ?_) ?_
        focus (
          go_simp
          go_at_call 27
          refine (HV.out _ hS).mono ?_
          rintro e wr6 ⟨⟨B1, c2, rfl, o2⟩, hb⟩
          have hS := hS.trans (hb.mono hS.size)
          have Ex6 := Ex5.keep hb
          have Eo16 := Eo15.keep hb
          clear hb
          go_wp2_with fail
          refine hK.out _ _ hS (fun _ => ?_)
          clear hK K
          try simp only [Act.put, List.setIfInBounds_toArray, List.set_cons_zero, List.set_cons_succ]
          refine wpAnyH_take (i := 9) (v := ?_) (by simp only [List.getElem?_toArray, List.getElem?_cons_succ, List.getElem?_cons_zero] <;> exact rfl) (by kernel_rfl) (by kernel_rfl) (by kernel_rfl) (fun _ _ _ h => h) (Or.inl ⟨by rfl, ?_⟩) hS ?_
          rotate_left
          focus (intro w' hw'; go_simp; all_goals with_reducible rfl)
          try simp only [Act.put, List.setIfInBounds_toArray, List.set_cons_zero, List.set_cons_succ]
          refine wpAnyH_ready (rs := [11]) (by kernel_rfl) (by simp) ?_
          refine AllReadyH.cons (o := _) (by simp only [List.getElem?_toArray, List.getElem?_cons_succ, List.getElem?_cons_zero] <;> exact rfl) (fun K hK => ?_) ?_
          focus (
            refine rgs_store_blk (by rfl) 28 (.tmp 7) (.tmp 28) (by rfl) x #[.int .i64 L, .slice A1 q1 c1, .slice B1 q2 c2] #[.int .i64 0, .slice none 0 0, .slice none 0 0] 28 (by rfl) (by rfl) Ex6 tb_size rfl (tb_one L A1 B1 q1 c1 q2 c2) ?_
            have hS := below_setRow hS Mx #[.int .i64 L, .slice A1 q1 c1, .slice B1 q2 c2]
            have Ex7 := Ex6.row #[.int .i64 L, .slice A1 q1 c1, .slice B1 q2 c2]
            have Eo17 := Eo16.row Ex6 #[.int .i64 L, .slice A1 q1 c1, .slice B1 q2 c2]
            have Eo27 := o2.row Ex6 #[.int .i64 L, .slice A1 q1 c1, .slice B1 q2 c2]
            refine hK.out _ _ hS (fun _ => ?_)
            generalize wr6.setRow x #[.int .i64 L, .slice A1 q1 c1, .slice B1 q2 c2] = ws7 at hS Ex7 Eo17 Eo27 ⊢
            clear hK K
            try simp only [Act.put, List.setIfInBounds_toArray, List.set_cons_zero, List.set_cons_succ]
            refine wpAnyH_done (by kernel_rfl) ?_ _
            refine NoPanic.normal ?_
            go_wp2
            go_meet
            exact ⟨x, A1, c1, B1, c2, rfl, Ex7, Eo17, Eo27, Mx, hS⟩)
          exact AllReadyH.nil)
        exact AllReadyH.nil)
      exact AllReadyH.nil)
    refine AllReadyH.cons (o := _) (by simp only [List.getElem?_toArray, List.getElem?_cons_succ, List.getElem?_cons_zero] <;> exact rfl) (fun K hK => ?_) ?_
    focus (
      go_simp
      have hz8 := hS.size
      have hS := hS.alloc hS.size (.cells #[.int .i64 0, .slice none 0 0, .slice none 0 0] 28)
      refine hK.out _ _ hS (fun _ => ?_)
      have Ex8 := BlkIs.new wd 28 #[.int .i64 0, .slice none 0 0, .slice none 0 0]
      obtain ⟨x, hx⟩ : ∃ g, g = wd.heap.size := ⟨_, rfl⟩
      have Mx : w3.heap.size ≤ x := by rw [hx]; exact hz8
      rw [← hx] at Ex8 ⊢
      generalize wd.alloc (.cells #[.int .i64 0, .slice none 0 0, .slice none 0 0] 28) = wa8 at hS Ex8 ⊢
      clear hx hz8
      clear hK K
      try simp only [Act.put, List.setIfInBounds_toArray, List.set_cons_zero, List.set_cons_succ]
      refine wpAnyH_ready (rs := [5]) (by kernel_rfl) (by simp) ?_
      refine AllReadyH.cons (o := _) (by simp only [List.getElem?_toArray, List.getElem?_cons_succ, List.getElem?_cons_zero] <;> exact rfl) (fun K hK => ?_) ?_
      focus (
        go_simp
        go_at_call 26
        refine (HW.out _ hS).mono ?_
        rintro e wr9 ⟨⟨A1, c1, rfl, o1⟩, hb⟩
        have hS := hS.trans (hb.mono hS.size)
        have Ex9 := Ex8.keep hb
        clear hb
        go_wp2_with fail
        refine hK.out _ _ hS (fun _ => ?_)
        clear hK K
        try simp only [Act.put, List.setIfInBounds_toArray, List.set_cons_zero, List.set_cons_succ]
        refine wpAnyH_ready (rs := [8]) (by kernel_rfl) (by simp) ?_
        refine AllReadyH.cons (o := _) (by simp only [List.getElem?_toArray, List.getElem?_cons_succ, List.getElem?_cons_zero] <;> exact rfl) (fun K hK => ?_) ?_
        focus (
          go_simp
          go_at_call 27
          refine (HV.out _ hS).mono ?_
          rintro e wr10 ⟨⟨B1, c2, rfl, o2⟩, hb⟩
          have hS := hS.trans (hb.mono hS.size)
          have Ex10 := Ex9.keep hb
          have Eo110 := o1.keep hb
          clear hb
          go_wp2_with fail
          refine hK.out _ _ hS (fun _ => ?_)
          clear hK K
          try simp only [Act.put, List.setIfInBounds_toArray, List.set_cons_zero, List.set_cons_succ]
          refine wpAnyH_take (i := 9) (v := ?_) (by simp only [List.getElem?_toArray, List.getElem?_cons_succ, List.getElem?_cons_zero] <;> exact rfl) (by kernel_rfl) (by kernel_rfl) (by kernel_rfl) (fun _ _ _ h => h) (Or.inl ⟨by rfl, ?_⟩) hS ?_
          rotate_left
          focus (intro w' hw'; go_simp; all_goals with_reducible rfl)
          try simp only [Act.put, List.setIfInBounds_toArray, List.set_cons_zero, List.set_cons_succ]
          refine wpAnyH_ready (rs := [11]) (by kernel_rfl) (by simp) ?_
          refine AllReadyH.cons (o := _) (by simp only [List.getElem?_toArray, List.getElem?_cons_succ, List.getElem?_cons_zero] <;> exact rfl) (fun K hK => ?_) ?_
          focus (
            refine rgs_store_blk (by rfl) 28 (.tmp 7) (.tmp 28) (by rfl) x #[.int .i64 L, .slice A1 q1 c1, .slice B1 q2 c2] #[.int .i64 0, .slice none 0 0, .slice none 0 0] 28 (by rfl) (by rfl) Ex10 tb_size rfl (tb_one L A1 B1 q1 c1 q2 c2) ?_
            have hS := below_setRow hS Mx #[.int .i64 L, .slice A1 q1 c1, .slice B1 q2 c2]
            have Ex11 := Ex10.row #[.int .i64 L, .slice A1 q1 c1, .slice B1 q2 c2]
            have Eo111 := Eo110.row Ex10 #[.int .i64 L, .slice A1 q1 c1, .slice B1 q2 c2]
            have Eo211 := o2.row Ex10 #[.int .i64 L, .slice A1 q1 c1, .slice B1 q2 c2]
            refine hK.out _ _ hS (fun _ => ?_)
            generalize wr10.setRow x #[.int .i64 L, .slice A1 q1 c1, .slice B1 q2 c2] = ws11 at hS Ex11 Eo111 Eo211 ⊢
            clear hK K
            try simp only [Act.put, List.setIfInBounds_toArray, List.set_cons_zero, List.set_cons_succ]
            refine wpAnyH_done (by kernel_rfl) ?_ _
            refine NoPanic.normal ?_
            go_wp2
            go_meet
            exact ⟨x, A1, c1, B1, c2, rfl, Ex11, Eo111, Eo211, Mx, hS⟩)
          exact AllReadyH.nil)
        exact AllReadyH.nil)
      exact AllReadyH.nil)
    exact AllReadyH.nil
  obtain ⟨x, A1, c1, B1, c2, rfl, kx, o1, o2, mx, hb⟩ := hcut
  have HKX := hide kx
  have HO1 := hide o1
  have HO2 := hide o2
  have HG4 := hide (HG3.out.keep hb)
  have HX4 := hide (HX3.out.keep hb)
  have HB5 := hide (HB4.out.trans (hb.mono HB4.out.size))
  have HXG := hide (show gb + 1 ≠ x by have := HG3.out.lt; omega)
  have HMX := hide (show w.heap.size ≤ x by have := HB4.out.size; omega)
  obtain ⟨j0, j1, j2⟩ := cells3 kx
  clear k0 k1 k2
  obtain ⟨k0, k1, k2⟩ := cells3 HX4.out
  clear kx o1 o2 mx hb HG3 HX3 HW HV
  have HBE := hide (HBH.out wc (HL.out.keep HB5.out) HID.out)
  obtain ⟨L5, hL5⟩ : ∃ L5, L5 = T.cu ++ [id] := ⟨_, rfl⟩
  obtain ⟨q5, hq5⟩ : ∃ q, L5.length = q := ⟨_, rfl⟩
  have HBE5 := hide (givesQ hq5 (Nat.le_refl wc.heap.size) (hL5 ▸ HBE.out))
  have HWC := hide HB5.out.size
  have HQ5 := hide (show q5 = m + 1 by rw [← hq5, hL5, List.length_append, HLM.out]; rfl)
  have HL5 := hide hL5
  have HLQ5 := hide hq5
  clear hL5 hq5 HBE HBH
  go_wp2_with fail
  refine HBE5.out.mono ?_
  rintro e w5 ⟨⟨A5, c5, rfl, o5⟩, hb5⟩
  obtain ⟨g5, rfl⟩ := o5.some_ (by have := HQ5.out; omega)
  have HO5 := hide o5
  have HCQ := hide (nl_own o5.own (HL5.out ▸ all_snoc HALL2.out HID.out)).le
  have HNL5 := hide (nl_own o5.own (HL5.out ▸ all_snoc HALL2.out HID.out))
  have HKX5 := hide (HKX.out.keep hb5)
  have HG5 := hide (HG4.out.keep hb5)
  have HO15 := hide (HO1.out.keep hb5)
  have HB6 := hide (HB5.out.trans (hb5.mono HB5.out.size))
  clear o5 hb5 HKX HG4 HO1 HO2 HX4 HB5 j0 j1 j2 k0 k1 k2
  have hq5 := HQ5.out
  have h8 := H8.out
  have hc5 : 9 ≤ c5 := by have := HCQ.out; omega
  have hc1 : ¬ c5 = 1 := by omega
  have hcz : (9 : Int) ≤ (c5 : Int) := by omega
  obtain rfl : q5 = 9 := by omega
  have hmx : max (0 : Int) 1 = 1 := by decide
  clear hq5 h8
  go_wp2_with (first
    | (refine wpList_put_cell rfl 22 (.tmp 40) (.tmp 39) rfl x 2 28 #[.int .i64 L, .slice A1 q1 c1, .slice B1 q2 c2] (.slice (some ⟨g5, 1, none⟩) 8 (c5 - 1)) rfl rfl rfl rfl HKX5.out (by simp) (by kernel_rfl) ?_; intro w6 hk6 kb6; have HKX6 := hide (show BlkIs w6 x 28 #[.int .i64 L, .slice A1 q1 c1, .slice (some ⟨g5, 1, none⟩) 8 (c5 - 1)] by simpa using hk6); have HO56 := hide (HO5.out.kb HKX5.out kb6); have HO16 := hide (HO15.out.kb HKX5.out kb6); have HG6 := hide (kb6.blk HG5.out HXG.out); have HB7 := hide (below_kb HB6.out kb6 (Nat.le_refl _) HMX.out); clear hk6 kb6; obtain ⟨j0, j1, j2⟩ := cells3 HKX6.out)
    | (refine wpList_tb_blk rfl (.tmp 6) (.tmp 41) (gb + 1) L A1 (some ⟨g5, 1, none⟩) q1 c1 8 (c5 - 1) _ _ _ rfl HG6.out rfl rfl ?_; intro w9 hk9 kb9; have HK9 := hide hk9; have HKB9 := hide kb9; have HB9 := hide (below_kb HB7.out kb9 (Nat.le_refl _) (by rw [HGE.out]; omega)); clear hk9 kb9))
  exact bodyPost_ret (results_tb rfl _ _ (gb + 1) _ _ _ rfl HK9.out) rfl ⟨A1, q1, c1, some ⟨g5, 1, none⟩, 8, (c5 - 1), by rw [HLE.out], ⟨nl_own (HFE.out ▸ (HO16.out.kb HG6.out HKB9.out).own) (HFE.out ▸ HALL1.out), by
    have h := nl_own (HO56.out.kb HG6.out HKB9.out).own (HL5.out ▸ all_snoc HALL2.out HID.out)
    rw [HL5.out] at h
    show NL .i64 w9 _ _ _ (cutL (T.cu ++ [id]))
    have h8 := H8.out
    have hlen : (T.cu ++ [id]).length = m + 1 := by rw [List.length_append, HLM.out]; rfl
    rw [show cutL (T.cu ++ [id]) = (T.cu ++ [id]).drop 1 by rw [cutL, hlen, h8]]
    exact h.drop (i := 1) (by omega)⟩, HB9.out, fun g hg _ => ⟨HFE.out ▸ HO16.out.ap (Nat.lt_of_lt_of_le hg HB4.out.size), .inr ⟨g5, 1, rfl, by have h1 := (own_lt HO5.out.own).1; have h2 := HWC.out; omega⟩⟩⟩
end Go.Proofs.Ytjjgnhdaaicmeaa
