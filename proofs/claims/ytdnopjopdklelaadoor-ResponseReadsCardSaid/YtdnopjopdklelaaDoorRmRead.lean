/-
  Layer 18: the document's Read.
-/
import Derived.Test.YtdnopjopdklelaaDoorRnRead
namespace Go.Proofs.YtdnopjopdklelaaDoor
set_option linter.unusedSimpArgs false
set_option linter.unusedVariables false
open Go.RowKit

theorem readP_three {f : Fd} {t : List Fd} (h : f.v.size ≠ 3) : readP (f :: t) = none := by
  rw [readP_cons, if_neg]
  rintro ⟨-, -, hb, -, -, ho⟩
  obtain ⟨h1, h2, -⟩ := okP_bd ho
  exact h (num_three hb h1 h2)
theorem colon_nil (v : ByteArray) (x : Bool) : psF ⟨⟨#[]⟩, v, x⟩ = false := rfl
theorem colon_at {g : Fd} {y : Int} (hp : 0 < g.n.size) (hy : (bts g.n).getD 0 0 = y) : psF g = decide (y = 58) := by unfold psF bColon; rw [pref_one 58 hp, hy]; rfl
/-- No colon ahead of the place i, but for the first field. -/
def NoCol (l : List Fd) (i : Nat) : Prop := ∀ (j : Nat) g, 1 ≤ j → j < i → l[j]? = some g → psF g = false
theorem NoCol.one (l : List Fd) : NoCol l 1 := fun _ _ h h' => absurd h (by omega)
theorem NoCol.succ {l : List Fd} {i : Nat} (h : NoCol l i) {g : Fd} (hg : l[i]? = some g) (hp : psF g = false) : NoCol l (i + 1) := fun j q h1 h2 hq => by
  by_cases e : j = i
  · subst e; rw [hg] at hq; injection hq with hq; subst hq; exact hp
  · exact h j q h1 (by omega) hq
theorem NoCol.none {f : Fd} {t : List Fd} {n : Nat} (h : NoCol (f :: t) n) (hn : (f :: t).length = n) : t.any psF = false := by
  rw [List.any_eq_false]
  intro g hg
  obtain ⟨j, hj, rfl⟩ := List.getElem_of_mem hg
  rw [h (j + 1) _ (by omega) (by rw [← hn]; simp; omega) (by rw [List.getElem?_cons_succ, List.getElem?_eq_getElem hj])]
  simp
theorem colon_some {f g : Fd} {t : List Fd} {i : Nat} (hi : 1 ≤ i) (hg : (f :: t)[i]? = some g) (hp : psF g = true) : t.any psF = true := by
  obtain ⟨j, rfl⟩ : ∃ j, i = j + 1 := ⟨i - 1, by omega⟩
  rw [List.getElem?_cons_succ] at hg
  exact List.any_eq_true.2 ⟨g, List.mem_of_getElem? hg, hp⟩
theorem okP_not {s a b : Int} (h : s < 100 ∨ 599 < s) : okP ⟨s, a, b⟩ = false := by
  unfold okP
  rcases h with h | h
  · simp only [inB_lo (show ¬ 100 ≤ s by omega), Bool.false_and]
  · simp only [inB_hi (show ¬ s ≤ 599 by omega), Bool.false_and]
theorem only_tail {f : Fd} {t : List Fd} {nm : ByteArray} (h : f.n = nStat) (hne : nStat ≠ nm) : onlyP nm (f :: t) = onlyP nm t := by
  unfold onlyP
  rw [show f :: t = [f] ++ t from rfl, vals_app, vals_one_no (by rw [h]; exact hne)]
  rfl
theorem rm_size : (Tryd.prog.info? 23).map (·.size) = some 3 := by kernel_rfl

set_option maxRecDepth 100000 in
set_option maxHeartbeats 3200000 in
theorem rm_Read (A : Option Addr) (n c : Nat) (l : List Fd) (w : World) (hfl : FL w A n c l) (hm : Mod l) :
    Calls Tryd.prog 16 #[.slice A n c] w fun e w' => e = .returned (ansP (readP l)) ∧ Below w.heap.size w w' := by
  have HS := hide (RnR.new w 23 hfl)
  have hln := hfl.len
  obtain ⟨V, hV⟩ : ∃ V, V = ansP (readP l) := ⟨_, rfl⟩
  rw [← hV]
  have HV := hide hV
  have hn0 : (n : Int) ≤ 1000 := by have := hm.1; omega
  match l, hm, HS, HV, hln with
  | [], hm, HS, HV, hln =>
    obtain rfl : n = 0 := by simpa using hln.symm
    have HE := hide (HV.out.trans ansP_none)
    clear hfl hV hm hln
    go_enter Tryd.func16, Tryd.ntmps16
    go_wp2_with (refine wpList_store_blk rfl 23 (.tmp 2) (.tmp 29) rfl w.heap.size #[.int .i64 0, .int .i64 0, .int .i64 0] #[.int .i64 0, .int .i64 0, .int .i64 0] 23 rfl rfl HS.out.r rm_size rfl (rn_one3 0 0 0) ?_)
    exact bodyPost_ret (results_cell_tmp_blk rfl _ _ w.heap.size 23 #[.int .i64 0, .int .i64 0, .int .i64 0] _ rfl (HS.out.r.row _) Tryd.underlying23 rfl rm_size _ rfl) rfl ⟨by rw [HE.out]; rfl, below_setRow HS.out.b (Nat.le_refl _) _⟩
  | f :: t, hm, HS, HV, hln =>
    have hn1 : 1 ≤ n := by rw [← hln]; simp
    obtain ⟨b, off, rfl, hbl, -⟩ := hfl.at_ 0 f rfl
    have hsz := hm.at (show (f :: t)[0]? = some f from rfl)
    have hmt : Mod t := hm.sub (List.sublist_cons_self _ _)
    obtain ⟨Q, c', -, hrest⟩ := fl_rest hfl hn1
    have HM := hide hm
    have HLN := hide hln
    have d0 : ((n : Int) == 0) = false := beq_eq_false_iff_ne.2 (by omega)
    have hpos : (0 : Int) < (n : Int) := by omega
    have HC := hide (fun w => rg_Number f.v (by omega) w)
    unfold numEnd at HC
    clear hfl hV hm hln hrest hmt
    obtain ⟨c0, c1, -⟩ := fl_first HS.out.f
    by_cases hf : f.n = nStat
    · have e1 : (f.n.toList == [58, 115, 116, 97, 116, 117, 115]) = true := lit_same hf
      have e1' : (f.n.toList != [58, 115, 116, 97, 116, 117, 115]) = false := by rw [bne, e1]; rfl
      have HF := hide hf
      clear hf
      by_cases h3 : f.v.size = 3
      · have d3 : ((f.v.size : Int) == 3) = true := by rw [h3]; rfl
        have d3' : ((f.v.size : Int) != 3) = false := by rw [bne, d3]; rfl
        clear h3
        go_enter Tryd.func16, Tryd.ntmps16
        go_wp2_with fail
        clear c0 c1 e1 e1' d3 d3'
        obtain ⟨W0, hW0⟩ : ∃ W0, W0 = w.alloc (.cells #[.int .i64 0, .int .i64 0, .int .i64 0] 23) := ⟨_, rfl⟩
        rw [← hW0] at HS ⊢
        clear hW0
        have HN1 := hide hn1
        go_loopw [4] (fun k wr => ∃ i : Nat, 1 ≤ i ∧ i ≤ n ∧ k = .int .i64 (i : Int) ∧ Hid (NoCol (f :: t) i) ∧ wr = W0) (fun k _ => n - (intOf k).toNat)
        case atStart => exact ⟨1, by omega, HN1.out, rfl, NoCol.one _, rfl⟩
        case round =>
          obtain ⟨i, hi1, hi, rfl, HNO, rfl⟩ := hrel
          by_cases hlt : i < n
          · have hlt' : (i : Int) < (n : Int) := by omega
            obtain ⟨g, b', off', hgd, hA, hbl', x0, x1, x2⟩ := HS.out.f.round hlt
            injection hA with hA
            injection hA with e1 e2
            subst e1 e2
            have HGD := hide hgd
            clear hgd x1 x2
            by_cases hz : g.n.size = 0
            · obtain ⟨gn, gv, gx⟩ := g
              simp only at hz x0
              obtain rfl := ba_empty hz
              clear hz
              go_wp2_with fail
              go_roundw
              case rel => exact ⟨i + 1, by omega, by omega, by go_num, HNO.out.succ HGD.out (colon_nil _ _), by first | rfl | trivial⟩
              case measure => simp [intOf]; omega
            · have hp : 0 < g.n.size := by omega
              have he := empty_no (s := g.n) hp
              have heq : (g.n.toList == []) = false := toList_no hp
              have hen : (g.n.toList != []) = true := by rw [bne, heq]; rfl
              have HB0 := bts_get g.n 0 hp
              obtain ⟨y, hy⟩ : ∃ y, y = ((g.n[0].toNat : Nat) : Int) := ⟨_, rfl⟩
              rw [← hy] at HB0
              have hy' := hy.symm
              have HT := hide (colon_at hp HB0)
              clear hy HB0 hz
              by_cases hy58 : y = 58
              · have d5 : (y == 58) = true := by simpa using hy58
                have HE := hide (HV.out.trans (by rw [readP_colon (colon_some hi1 HGD.out (by rw [HT.out]; exact decide_eq_true hy58))]))
                clear hy58
                go_wp2_with (refine wpList_store_blk rfl 23 (.tmp 2) (.tmp 51) rfl w.heap.size #[.int .i64 0, .int .i64 0, .int .i64 0] #[.int .i64 0, .int .i64 0, .int .i64 0] 23 rfl rfl HS.out.r rm_size rfl (rn_one3 0 0 0) ?_)
                exact bodyPost_ret (results_cell_tmp_blk rfl _ _ w.heap.size 23 #[.int .i64 0, .int .i64 0, .int .i64 0] _ rfl (HS.out.r.row _) Tryd.underlying23 rfl rm_size _ rfl) rfl ⟨by rw [HE.out]; rfl, below_setRow HS.out.b (Nat.le_refl _) _⟩
              · have d5 : (y == 58) = false := by simpa using hy58
                have HNX := hide (HNO.out.succ HGD.out (by rw [HT.out]; exact decide_eq_false hy58))
                clear hy58
                go_wp2_with fail
                go_roundw
                case rel => exact ⟨i + 1, by omega, by omega, by go_num, HNX.out, by first | rfl | trivial⟩
                case measure => simp [intOf]; omega
          · have hge : ¬ (i : Int) < (n : Int) := by omega
            obtain rfl : i = n := by omega
            have HA := hide (readP_all HF.out (HNO.out.none HLN.out))
            obtain ⟨-, c1, -⟩ := fl_first HS.out.f
            obtain ⟨s, hs⟩ : ∃ s, s = numI f.v := ⟨_, rfl⟩
            obtain ⟨bs, hbs⟩ : ∃ b, b = numB f.v := ⟨_, rfl⟩
            rw [← hs, ← hbs] at HC
            rw [← hs, ← hbs] at HA
            clear hs hbs HNO
            have HL1 := hide (fun w h => rm_one (some ⟨b, off, none⟩) i c (f :: t) nLen w h HM.out)
            have HL2 := hide (fun w h => rm_one (some ⟨b, off, none⟩) i c (f :: t) nRetry w h HM.out)
            rw [only_tail HF.out (by decide)] at HL1
            rw [only_tail HF.out (by decide)] at HL2
            unfold onlyEnd at HL1 HL2
            have hb1 := onlyP_bd nLen t
            have hb2 := onlyP_bd nRetry t
            obtain ⟨k1, hk1⟩ : ∃ k, k = (onlyP nLen t).getD 0 := ⟨_, rfl⟩
            obtain ⟨i1, hi1'⟩ : ∃ k, k = (onlyP nLen t).isSome := ⟨_, rfl⟩
            obtain ⟨k2, hk2⟩ : ∃ k, k = (onlyP nRetry t).getD 0 := ⟨_, rfl⟩
            obtain ⟨i2, hi2'⟩ : ∃ k, k = (onlyP nRetry t).isSome := ⟨_, rfl⟩
            rw [← hk1, ← hi1', ← hk2, ← hi2'] at HA
            rw [← hk1, ← hi1'] at HL1
            rw [← hk2, ← hi2'] at HL2
            rw [← hk1] at hb1
            rw [← hk2] at hb2
            have HKB := hide (And.intro hb1 hb2)
            clear hb1 hb2 hk1 hi1' hk2 hi2'
            go_wp2_with fail
            refine (HC.out _).mono ?_
            rintro e w3 ⟨rfl, rfl⟩
            clear c1 HC
            go_wp2_with fail
            refine (HL1.out _ HS.out.f).mono ?_
            rintro e w4 ⟨rfl, hb4⟩
            have HS4 := hide (HS.out.keep hb4)
            clear hb4 HL1
            go_wp2_with fail
            refine (HL2.out _ HS4.out.f).mono ?_
            rintro e w5 ⟨rfl, hb5⟩
            have HS5 := hide (HS4.out.keep hb5)
            clear hb5 HS4 HL2
            go_upto_region 11 with (fail)
            cases bs with
            | false =>
              have HE := hide (HV.out.trans (by rw [HA.out]))
              go_wp2_with (refine wpList_store_blk rfl 23 (.tmp 2) (.tmp 88) rfl w.heap.size #[.int .i64 0, .int .i64 0, .int .i64 0] #[.int .i64 0, .int .i64 0, .int .i64 0] 23 rfl rfl HS5.out.r rm_size rfl (rn_one3 0 0 0) ?_)
              exact bodyPost_ret (results_cell_tmp_blk rfl _ _ w.heap.size 23 #[.int .i64 0, .int .i64 0, .int .i64 0] _ rfl (HS5.out.r.row _) Tryd.underlying23 rfl rm_size _ rfl) rfl ⟨by rw [HE.out]; rfl, below_setRow HS5.out.b (Nat.le_refl _) _⟩
            | true =>
              cases i1 with
              | false =>
                have HE := hide (HV.out.trans (by rw [HA.out]))
                go_wp2_with (refine wpList_store_blk rfl 23 (.tmp 2) (.tmp 88) rfl w.heap.size #[.int .i64 0, .int .i64 0, .int .i64 0] #[.int .i64 0, .int .i64 0, .int .i64 0] 23 rfl rfl HS5.out.r rm_size rfl (rn_one3 0 0 0) ?_)
                exact bodyPost_ret (results_cell_tmp_blk rfl _ _ w.heap.size 23 #[.int .i64 0, .int .i64 0, .int .i64 0] _ rfl (HS5.out.r.row _) Tryd.underlying23 rfl rm_size _ rfl) rfl ⟨by rw [HE.out]; rfl, below_setRow HS5.out.b (Nat.le_refl _) _⟩
              | true =>
                cases i2 with
                | false =>
                  have HE := hide (HV.out.trans (by rw [HA.out]))
                  go_wp2_with (refine wpList_store_blk rfl 23 (.tmp 2) (.tmp 88) rfl w.heap.size #[.int .i64 0, .int .i64 0, .int .i64 0] #[.int .i64 0, .int .i64 0, .int .i64 0] 23 rfl rfl HS5.out.r rm_size rfl (rn_one3 0 0 0) ?_)
                  exact bodyPost_ret (results_cell_tmp_blk rfl _ _ w.heap.size 23 #[.int .i64 0, .int .i64 0, .int .i64 0] _ rfl (HS5.out.r.row _) Tryd.underlying23 rfl rm_size _ rfl) rfl ⟨by rw [HE.out]; rfl, below_setRow HS5.out.b (Nat.le_refl _) _⟩
                | true =>
                  rcases Int.lt_or_le s 100 with hs1 | hs1
                  · have HE := hide (HV.out.trans (by rw [HA.out, okP_not (Or.inl hs1)]))
                    go_wp2_with (refine wpList_store_blk rfl 23 (.tmp 2) (.tmp 88) rfl w.heap.size #[.int .i64 0, .int .i64 0, .int .i64 0] #[.int .i64 0, .int .i64 0, .int .i64 0] 23 rfl rfl HS5.out.r rm_size rfl (rn_one3 0 0 0) ?_)
                    exact bodyPost_ret (results_cell_tmp_blk rfl _ _ w.heap.size 23 #[.int .i64 0, .int .i64 0, .int .i64 0] _ rfl (HS5.out.r.row _) Tryd.underlying23 rfl rm_size _ rfl) rfl ⟨by rw [HE.out]; rfl, below_setRow HS5.out.b (Nat.le_refl _) _⟩
                  rcases Int.lt_or_le 599 s with hs2 | hs2
                  · have HE := hide (HV.out.trans (by rw [HA.out, okP_not (Or.inr hs2)]))
                    go_wp2_with (refine wpList_store_blk rfl 23 (.tmp 2) (.tmp 88) rfl w.heap.size #[.int .i64 0, .int .i64 0, .int .i64 0] #[.int .i64 0, .int .i64 0, .int .i64 0] 23 rfl rfl HS5.out.r rm_size rfl (rn_one3 0 0 0) ?_)
                    exact bodyPost_ret (results_cell_tmp_blk rfl _ _ w.heap.size 23 #[.int .i64 0, .int .i64 0, .int .i64 0] _ rfl (HS5.out.r.row _) Tryd.underlying23 rfl rm_size _ rfl) rfl ⟨by rw [HE.out]; rfl, below_setRow HS5.out.b (Nat.le_refl _) _⟩
                  have HE := hide (HV.out.trans (show ansP (readP (f :: t)) = .tuple #[.agg #[.int .i64 s, .int .i64 k1, .int .i64 k2], .bool true] by rw [HA.out, okP_of (x := ⟨s, k1, k2⟩) ⟨hs1, hs2, HKB.out.1.1, HKB.out.1.2, HKB.out.2.1, HKB.out.2.2⟩]; rfl))
                  go_wp2_with (refine wpList_store_blk rfl 23 (.tmp 2) (.tmp 92) rfl w.heap.size #[.int .i64 s, .int .i64 k1, .int .i64 k2] #[.int .i64 0, .int .i64 0, .int .i64 0] 23 rfl rfl HS5.out.r rm_size rfl (rn_one3 s k1 k2) ?_)
                  all_goals first | (exfalso; omega) | exact bodyPost_ret (results_cell_tmp_blk rfl _ _ w.heap.size 23 #[.int .i64 s, .int .i64 k1, .int .i64 k2] _ rfl (HS5.out.r.row _) Tryd.underlying23 rfl rm_size _ rfl) rfl ⟨by rw [HE.out]; rfl, below_setRow HS5.out.b (Nat.le_refl _) _⟩
      · have d3 : ((f.v.size : Int) == 3) = false := beq_eq_false_iff_ne.2 (by omega)
        have d3' : ((f.v.size : Int) != 3) = true := by rw [bne, d3]; rfl
        have HE := hide (HV.out.trans (by rw [readP_three h3]))
        clear h3
        go_enter Tryd.func16, Tryd.ntmps16
        go_wp2_with (refine wpList_store_blk rfl 23 (.tmp 2) (.tmp 29) rfl w.heap.size #[.int .i64 0, .int .i64 0, .int .i64 0] #[.int .i64 0, .int .i64 0, .int .i64 0] 23 rfl rfl HS.out.r rm_size rfl (rn_one3 0 0 0) ?_)
        exact bodyPost_ret (results_cell_tmp_blk rfl _ _ w.heap.size 23 #[.int .i64 0, .int .i64 0, .int .i64 0] _ rfl (HS.out.r.row _) Tryd.underlying23 rfl rm_size _ rfl) rfl ⟨by rw [HE.out]; rfl, below_setRow HS.out.b (Nat.le_refl _) _⟩
    · have e1 : (f.n.toList == [58, 115, 116, 97, 116, 117, 115]) = false := lit_not hf
      have e1' : (f.n.toList != [58, 115, 116, 97, 116, 117, 115]) = true := by rw [bne, e1]; rfl
      have HE := hide (HV.out.trans (by rw [readP_name hf]))
      clear hf
      go_enter Tryd.func16, Tryd.ntmps16
      go_wp2_with (refine wpList_store_blk rfl 23 (.tmp 2) (.tmp 29) rfl w.heap.size #[.int .i64 0, .int .i64 0, .int .i64 0] #[.int .i64 0, .int .i64 0, .int .i64 0] 23 rfl rfl HS.out.r rm_size rfl (rn_one3 0 0 0) ?_)
      exact bodyPost_ret (results_cell_tmp_blk rfl _ _ w.heap.size 23 #[.int .i64 0, .int .i64 0, .int .i64 0] _ rfl (HS.out.r.row _) Tryd.underlying23 rfl rm_size _ rfl) rfl ⟨by rw [HE.out]; rfl, below_setRow HS.out.b (Nat.le_refl _) _⟩
end Go.Proofs.YtdnopjopdklelaaDoor
