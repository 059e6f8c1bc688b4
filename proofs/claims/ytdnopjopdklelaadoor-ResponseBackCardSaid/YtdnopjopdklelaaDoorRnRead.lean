/-
  Layer 18: Read.
-/
import Derived.Test.YtdnopjopdklelaaDoorRnOnly
import Derived.Test.YtdnopjopdklelaaDoorFdSlice
import Derived.Deep.CutRange
namespace Go.Proofs.YtdnopjopdklelaaDoor
set_option linter.unusedSimpArgs false
set_option linter.unusedVariables false
open Go.RowKit

theorem readP_name {f : Fd} {t : List Fd} (h : f.n ≠ nStat) : readP (f :: t) = none := by rw [readP_cons, if_neg]; rintro ⟨q, -⟩; exact h q
theorem readP_colon {f : Fd} {t : List Fd} (h : t.any psF = true) : readP (f :: t) = none := by rw [readP_cons, if_neg]; rintro ⟨-, q, -⟩; rw [h] at q; cases q
theorem readP_all {f : Fd} {t : List Fd} (h : f.n = nStat) (h2 : t.any psF = false) : readP (f :: t) = if (numB f.v && ((onlyP nLen t).isSome && ((onlyP nRetry t).isSome && okP ⟨numI f.v, (onlyP nLen t).getD 0, (onlyP nRetry t).getD 0⟩))) = true then some ⟨numI f.v, (onlyP nLen t).getD 0, (onlyP nRetry t).getD 0⟩ else none := by
  rw [readP_cons]
  simp only [h, h2, Bool.and_eq_true, true_and]
theorem ansP_none : ansP none = .tuple #[.agg #[.int .i64 0, .int .i64 0, .int .i64 0], .bool false] := rfl

/-- What stands all through Read. -/
structure RnR (w0 : World) (T : TypeId) (l : List Fd) (A : Option Addr) (n c : Nat) (w : World) : Prop where
  f : FL w A n c l
  r : BlkIs w w0.heap.size T #[.int .i64 0, .int .i64 0, .int .i64 0]
  b : Below w0.heap.size w0 w
section
variable {w0 w w' : World} {T : TypeId} {l : List Fd} {A : Option Addr} {n c : Nat}
theorem RnR.keep (h : RnR w0 T l A n c w) (hb : Below w.heap.size w w') : RnR w0 T l A n c w' := ⟨h.f.keep hb, h.r.keep hb, h.b.trans (hb.mono h.b.size)⟩
theorem RnR.new (w : World) (T : TypeId) (hf : FL w A n c l) : RnR w T l A n c (w.alloc (.cells #[.int .i64 0, .int .i64 0, .int .i64 0] T)) := ⟨hf.alloc _, BlkIs.new w _ _, bel1 w _⟩
end
theorem rn_size : (Tryd.prog.info? 28).map (·.size) = some 3 := by kernel_rfl
theorem rn_one3 (a b c : Int) : #[Value.int .i64 a, .int .i64 b, .int .i64 c].all (·.oneCell') = true := by simp [Value.oneCell']
/-- l[1:] of a list that has a first one, its address. -/
theorem fl_rest {w : World} {b off n c : Nat} {f : Fd} {t : List Fd} (h : FL w (some ⟨b, off, none⟩) n c (f :: t)) (hn : 1 ≤ n) :
    ∃ Q c', (∀ w', (Instr.slice 24 (.slice (some ⟨b, off, none⟩) n c) (some (.int .i64 1)) none none).run Tryd.prog w' = .ok (.slice Q (n - 1) c') w') ∧ ∀ w', FL w' (some ⟨b, off, none⟩) n c (f :: t) → FL w' Q (n - 1) c' t := by
  obtain ⟨Q, c', hr, -⟩ := fl_tail h 1 hn
  refine ⟨Q, c', hr, fun w' h' => ?_⟩
  obtain ⟨Q2, c2, hr2, hf2⟩ := fl_tail h' 1 hn
  have := (hr w').symm.trans (hr2 w')
  injection this with e1
  injection e1 with e2 e3 e4
  subst e2 e4
  exact hf2

theorem fl_first {w : World} {b off n c : Nat} {f : Fd} {t : List Fd} (h : FL w (some ⟨b, off, none⟩) n c (f :: t)) : w.cell? ⟨b, off, none⟩ = some (.string f.n) ∧ w.cell? ⟨b, off + 1, none⟩ = some (.string f.v) ∧ w.cell? ⟨b, off + 2, none⟩ = some (.bool f.x) := by
  obtain ⟨b', off', e, -, c0, c1, c2⟩ := h.at_ 0 f rfl
  injection e with e
  injection e with e1 e2
  subst e1 e2
  exact ⟨by simpa using c0, by simpa using c1, by simpa using c2⟩

set_option maxRecDepth 100000 in
set_option maxHeartbeats 3200000 in
theorem rn_Read (A : Option Addr) (n c : Nat) (l : List Fd) (w : World) (hfl : FL w A n c l) (hm : Mod l) :
    Calls Tryd.prog 15 #[.slice A n c] w fun e w' => e = .returned (ansP (readP l)) ∧ Below w.heap.size w w' := by
  have HS := hide (RnR.new w 28 hfl)
  have hln := hfl.len
  obtain ⟨V, hV⟩ : ∃ V, V = ansP (readP l) := ⟨_, rfl⟩
  rw [← hV]
  have HV := hide hV
  have hn0 : (n : Int) ≤ 1000 := by have := hm.1; omega
  match l, hm, HS, HV, hln with
  | [], hm, HS, HV, hln =>
    obtain rfl : n = 0 := by simpa using hln.symm
    have HE := hide (HV.out.trans ansP_none)
    clear hfl hV hm hln
    go_enter Tryd.func15, Tryd.ntmps15
    go_wp2_with (refine wpList_store_blk rfl 28 (.tmp 2) (.tmp 26) rfl w.heap.size #[.int .i64 0, .int .i64 0, .int .i64 0] #[.int .i64 0, .int .i64 0, .int .i64 0] 28 rfl rfl HS.out.r rn_size rfl (rn_one3 0 0 0) ?_)
    exact bodyPost_ret (results_cell_tmp_blk rfl _ _ w.heap.size 28 #[.int .i64 0, .int .i64 0, .int .i64 0] _ rfl (HS.out.r.row _) Tryd.underlying28 rfl rn_size _ rfl) rfl ⟨by rw [HE.out]; rfl, below_setRow HS.out.b (Nat.le_refl _) _⟩
  | f :: t, hm, HS, HV, hln =>
    have hn1 : 1 ≤ n := by rw [← hln]; simp
    obtain ⟨b, off, rfl, hbl, -⟩ := hfl.at_ 0 f rfl
    have hsz := hm.at (show (f :: t)[0]? = some f from rfl)
    have hmt : Mod t := hm.sub (List.sublist_cons_self _ _)
    obtain ⟨Q, c', hsl, hrest⟩ := fl_rest hfl hn1
    have HR := hide hrest
    have HM := hide hmt
    have d0 : ((n : Int) == 0) = false := beq_eq_false_iff_ne.2 (by omega)
    have hpos : (0 : Int) < (n : Int) := by omega
    have HC := hide (fun w => rq_Number f.v (by omega) w)
    unfold numEnd at HC
    clear hfl hV hm hln hrest hmt hn1
    obtain ⟨c0, c1, -⟩ := fl_first HS.out.f
    by_cases hf : f.n = nStat
    · have e1 : (f.n.toList == [58, 115, 116, 97, 116, 117, 115]) = true := lit_same hf
      have e1' : (f.n.toList != [58, 115, 116, 97, 116, 117, 115]) = false := by rw [bne, e1]; rfl
      have HF := hide hf
      cases hc : t.any psF with
      | true =>
        have HE := hide (HV.out.trans (by rw [readP_colon hc]))
        clear hf
        go_enter Tryd.func15, Tryd.ntmps15
        go_wp2_with fail
        refine (rq_ContainsFunc Q (n - 1) c' t _ #[] psF _ _ (HR.out _ HS.out.f) HM.out find_colon trivial).mono ?_
        rintro e w2 ⟨rfl, hb2⟩
        have HS2 := hide (HS.out.keep hb2)
        rw [hc]
        clear hb2 hc c0 c1
        go_wp2_with (refine wpList_store_blk rfl 28 (.tmp 2) (.tmp 26) rfl w.heap.size #[.int .i64 0, .int .i64 0, .int .i64 0] #[.int .i64 0, .int .i64 0, .int .i64 0] 28 rfl rfl HS2.out.r rn_size rfl (rn_one3 0 0 0) ?_)
        exact bodyPost_ret (results_cell_tmp_blk rfl _ _ w.heap.size 28 #[.int .i64 0, .int .i64 0, .int .i64 0] _ rfl (HS2.out.r.row _) Tryd.underlying28 rfl rn_size _ rfl) rfl ⟨by rw [HE.out]; rfl, below_setRow HS2.out.b (Nat.le_refl _) _⟩
      | false =>
        have HA := hide (readP_all hf hc)
        clear hf
        go_enter Tryd.func15, Tryd.ntmps15
        go_wp2_with fail
        refine (rq_ContainsFunc Q (n - 1) c' t _ #[] psF _ _ (HR.out _ HS.out.f) HM.out find_colon trivial).mono ?_
        rintro e w2 ⟨rfl, hb2⟩
        have HS2 := hide (HS.out.keep hb2)
        rw [hc]
        clear hb2 hc c0 c1 HS
        obtain ⟨-, c1, -⟩ := fl_first HS2.out.f
        obtain ⟨s, hs⟩ : ∃ s, s = numI f.v := ⟨_, rfl⟩
        obtain ⟨bs, hbs⟩ : ∃ b, b = numB f.v := ⟨_, rfl⟩
        rw [← hs, ← hbs] at HC
        rw [← hs, ← hbs] at HA
        clear hs hbs
        go_wp2_with fail
        refine (HC.out _).mono ?_
        rintro e w3 ⟨rfl, hb3⟩
        have HS3 := hide (HS2.out.keep hb3)
        clear hb3 HS2 HC c1
        go_wp2_with fail
        have HL1 := hide (fun w h => rn_only Q (n - 1) c' t nLen w h HM.out)
        have HL2 := hide (fun w h => rn_only Q (n - 1) c' t nRetry w h HM.out)
        unfold onlyEnd at HL1 HL2
        have hb1 := onlyP_bd nLen t
        have hb2 := onlyP_bd nRetry t
        obtain ⟨k1, hk1⟩ : ∃ k, k = (onlyP nLen t).getD 0 := ⟨_, rfl⟩
        obtain ⟨i1, hi1⟩ : ∃ k, k = (onlyP nLen t).isSome := ⟨_, rfl⟩
        obtain ⟨k2, hk2⟩ : ∃ k, k = (onlyP nRetry t).getD 0 := ⟨_, rfl⟩
        obtain ⟨i2, hi2⟩ : ∃ k, k = (onlyP nRetry t).isSome := ⟨_, rfl⟩
        rw [← hk1, ← hi1, ← hk2, ← hi2] at HA
        rw [← hk1, ← hi1] at HL1
        rw [← hk2, ← hi2] at HL2
        clear hb1 hb2 hk1 hi1 hk2 hi2
        refine (HL1.out _ (HR.out _ HS3.out.f)).mono ?_
        rintro e w4 ⟨rfl, hb4⟩
        have HS4 := hide (HS3.out.keep hb4)
        clear hb4 HS3 HL1
        go_wp2_with fail
        refine (HL2.out _ (HR.out _ HS4.out.f)).mono ?_
        rintro e w5 ⟨rfl, hb5⟩
        have HS5 := hide (HS4.out.keep hb5)
        clear hb5 HS4 HL2 hsl
        go_upto_region 7 with (fail)
        obtain ⟨G, hG⟩ : ∃ G, G = w5.heap.size := ⟨_, rfl⟩
        obtain ⟨W5, hW5⟩ : ∃ W, W = w5.alloc (.cells #[.int .i64 s, .int .i64 k1, .int .i64 k2] 28) := ⟨_, rfl⟩
        have HSW := hide (show RnR w 28 (f :: t) (some ⟨b, off, none⟩) n c W5 by rw [hW5]; exact HS5.out.keep (bel1 _ _))
        have HX := hide (show BlkIs W5 G 28 #[.int .i64 s, .int .i64 k1, .int .i64 k2] by rw [hW5, hG]; exact BlkIs.new w5 _ _)
        rw [← hW5, ← hG]
        clear hW5 hG HS5
        have g0 := HX.out.cell 0
        have g1 := HX.out.cell 1
        have g2 := HX.out.cell 2
        simp only [List.getElem?_toArray, List.getElem?_cons_zero, List.getElem?_cons_succ] at g0 g1 g2
        cases bs with
        | false =>
          have HE := hide (HV.out.trans (by rw [HA.out]))
          go_wp2_with (refine wpList_store_blk rfl 28 (.tmp 2) (.tmp 66) rfl w.heap.size #[.int .i64 0, .int .i64 0, .int .i64 0] #[.int .i64 0, .int .i64 0, .int .i64 0] 28 rfl rfl HSW.out.r rn_size rfl (rn_one3 0 0 0) ?_)
          exact bodyPost_ret (results_cell_tmp_blk rfl _ _ w.heap.size 28 #[.int .i64 0, .int .i64 0, .int .i64 0] _ rfl (HSW.out.r.row _) Tryd.underlying28 rfl rn_size _ rfl) rfl ⟨by rw [HE.out]; rfl, below_setRow HSW.out.b (Nat.le_refl _) _⟩
        | true =>
          cases i1 with
          | false =>
            have HE := hide (HV.out.trans (by rw [HA.out]))
            go_wp2_with (refine wpList_store_blk rfl 28 (.tmp 2) (.tmp 66) rfl w.heap.size #[.int .i64 0, .int .i64 0, .int .i64 0] #[.int .i64 0, .int .i64 0, .int .i64 0] 28 rfl rfl HSW.out.r rn_size rfl (rn_one3 0 0 0) ?_)
            exact bodyPost_ret (results_cell_tmp_blk rfl _ _ w.heap.size 28 #[.int .i64 0, .int .i64 0, .int .i64 0] _ rfl (HSW.out.r.row _) Tryd.underlying28 rfl rn_size _ rfl) rfl ⟨by rw [HE.out]; rfl, below_setRow HSW.out.b (Nat.le_refl _) _⟩
          | true =>
            cases i2 with
            | false =>
              have HE := hide (HV.out.trans (by rw [HA.out]))
              go_wp2_with (refine wpList_store_blk rfl 28 (.tmp 2) (.tmp 66) rfl w.heap.size #[.int .i64 0, .int .i64 0, .int .i64 0] #[.int .i64 0, .int .i64 0, .int .i64 0] 28 rfl rfl HSW.out.r rn_size rfl (rn_one3 0 0 0) ?_)
              exact bodyPost_ret (results_cell_tmp_blk rfl _ _ w.heap.size 28 #[.int .i64 0, .int .i64 0, .int .i64 0] _ rfl (HSW.out.r.row _) Tryd.underlying28 rfl rn_size _ rfl) rfl ⟨by rw [HE.out]; rfl, below_setRow HSW.out.b (Nat.le_refl _) _⟩
            | true =>
              cases ho : okP ⟨s, k1, k2⟩ with
              | false =>
                have HE := hide (HV.out.trans (by rw [HA.out, ho]))
                have HK := hide (chkP_no ho)
                go_wp2_with fail
                refine (rn_Check s k1 k2 _).mono ?_
                rintro e w6 ⟨rfl, hb6⟩
                have HS6 := hide (HSW.out.keep hb6)
                rw [HK.out]
                clear hb6 g0 g1 g2
                go_wp2_with (refine wpList_store_blk rfl 28 (.tmp 2) (.tmp 66) rfl w.heap.size #[.int .i64 0, .int .i64 0, .int .i64 0] #[.int .i64 0, .int .i64 0, .int .i64 0] 28 rfl rfl HS6.out.r rn_size rfl (rn_one3 0 0 0) ?_)
                exact bodyPost_ret (results_cell_tmp_blk rfl _ _ w.heap.size 28 #[.int .i64 0, .int .i64 0, .int .i64 0] _ rfl (HS6.out.r.row _) Tryd.underlying28 rfl rn_size _ rfl) rfl ⟨by rw [HE.out]; rfl, below_setRow HS6.out.b (Nat.le_refl _) _⟩
              | true =>
                have HE := hide (HV.out.trans (show ansP (readP (f :: t)) = .tuple #[.agg #[.int .i64 s, .int .i64 k1, .int .i64 k2], .bool true] by rw [HA.out, ho]; rfl))
                have HK := hide (chkP_yes ho)
                go_wp2_with fail
                refine (rn_Check s k1 k2 _).mono ?_
                rintro e w6 ⟨rfl, hb6⟩
                have HS6 := hide (HSW.out.keep hb6)
                have HX6 := hide (HX.out.keep hb6)
                rw [HK.out]
                clear hb6 g0 g1 g2
                have g0 := HX6.out.cell 0
                have g1 := HX6.out.cell 1
                have g2 := HX6.out.cell 2
                simp only [List.getElem?_toArray, List.getElem?_cons_zero, List.getElem?_cons_succ] at g0 g1 g2
                go_wp2_with (refine wpList_store_blk rfl 28 (.tmp 2) (.tmp 67) rfl w.heap.size #[.int .i64 s, .int .i64 k1, .int .i64 k2] #[.int .i64 0, .int .i64 0, .int .i64 0] 28 rfl rfl HS6.out.r rn_size rfl (rn_one3 s k1 k2) ?_)
                exact bodyPost_ret (results_cell_tmp_blk rfl _ _ w.heap.size 28 #[.int .i64 s, .int .i64 k1, .int .i64 k2] _ rfl (HS6.out.r.row _) Tryd.underlying28 rfl rn_size _ rfl) rfl ⟨by rw [HE.out]; rfl, below_setRow HS6.out.b (Nat.le_refl _) _⟩
    · have e1 : (f.n.toList == [58, 115, 116, 97, 116, 117, 115]) = false := lit_not hf
      have e1' : (f.n.toList != [58, 115, 116, 97, 116, 117, 115]) = true := by rw [bne, e1]; rfl
      have HE := hide (HV.out.trans (by rw [readP_name hf]))
      clear hf
      go_enter Tryd.func15, Tryd.ntmps15
      go_wp2_with (refine wpList_store_blk rfl 28 (.tmp 2) (.tmp 26) rfl w.heap.size #[.int .i64 0, .int .i64 0, .int .i64 0] #[.int .i64 0, .int .i64 0, .int .i64 0] 28 rfl rfl HS.out.r rn_size rfl (rn_one3 0 0 0) ?_)
      exact bodyPost_ret (results_cell_tmp_blk rfl _ _ w.heap.size 28 #[.int .i64 0, .int .i64 0, .int .i64 0] _ rfl (HS.out.r.row _) Tryd.underlying28 rfl rn_size _ rfl) rfl ⟨by rw [HE.out]; rfl, below_setRow HS.out.b (Nat.le_refl _) _⟩
end Go.Proofs.YtdnopjopdklelaaDoor
