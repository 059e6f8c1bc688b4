/-
  Layer 17: Read (written by gen17read.py).
-/
import Derived.Test.YtlbhnbloanamfaaDoorRqTarget
import Derived.Test.YtlbhnbloanamfaaDoorRqLen
import Derived.Test.YtlbhnbloanamfaaDoorRqRank2
import Derived.Deep.CutRange
import Derived.BigGuardPart
namespace Go.Proofs.YtlbhnbloanamfaaDoor
set_option linter.unusedSimpArgs false
set_option linter.unusedVariables false
open Go.RowKit

/-- What stands all through Read. -/
structure RdS (w0 : World) (l : List Fd) (R mb : Nat) (A : Option Addr) (n c : Nat) (B : Option Addr) (m d : Nat) (w : World) : Prop where
  f : FL w A n c (hdL l)
  g : FL w B m d (tlL l)
  met : MetS w mb (hdL l)
  r : BlkIs w R 26 #[.string ⟨#[]⟩, .string ⟨#[]⟩, .string ⟨#[]⟩, .string ⟨#[]⟩, .int .i64 0, .int .i64 0]
  b : Below w0.heap.size w0 w
  lo : w0.heap.size ≤ R
theorem RdS.keep {w0 w w' : World} {l : List Fd} {R mb : Nat} {A : Option Addr} {n c : Nat} {B : Option Addr} {m d : Nat} (h : RdS w0 l R mb A n c B m d w) (hb : Below w.heap.size w w') : RdS w0 l R mb A n c B m d w' :=
  ⟨h.f.keep hb, h.g.keep hb, h.met.keep hb, h.r.keep hb, h.b.trans (hb.mono h.b.size), h.lo⟩

theorem rq_size : (Tryd.prog.info? 26).map (·.size) = some 6 := by kernel_rfl
def rq0 : Array Value := #[.string ⟨#[]⟩, .string ⟨#[]⟩, .string ⟨#[]⟩, .string ⟨#[]⟩, .int .i64 0, .int .i64 0]
theorem rq0_one : rq0.all (·.oneCell') = true := by simp [rq0, Value.oneCell']
/-- What length answers, parted. -/
structure LenIs (r : Option Int) (n : Int) (is : Bool) : Prop where
  lo : -1 ≤ n
  hi : n ≤ 999999999
  yes : is = true → r = some n
  no : is = false → r = none ∧ n = 0
theorem len_is (l : List Fd) : ∃ n is, lenEnd (lenR l) = .returned (.tuple #[.int .i64 n, .bool is]) ∧ LenIs (lenR l) n is := by
  cases h : lenR l with
  | none => exact ⟨0, false, rfl, by omega, by omega, fun e => (by cases e), fun _ => ⟨rfl, rfl⟩⟩
  | some n =>
    have := lenR_bd h
    exact ⟨n, true, rfl, this.1, this.2, fun _ => rfl, fun e => (by cases e)⟩
theorem ans_none {l : List Fd} {en : Bool} (h : lenR (tlL l) = none) : ansV (readR l en) = .tuple #[.agg noRq.cs, .bool false] := by
  unfold readR
  rw [h]
  rfl
theorem ans_no {l : List Fd} {en : Bool} {n : Int} (h : lenR (tlL l) = some n) (hk : okB (hdL l) (tlL l) en n = false) : ansV (readR l en) = .tuple #[.agg noRq.cs, .bool false] := by
  unfold readR
  rw [h]
  simp only [hk]
  rfl
theorem ans_yes {l : List Fd} {en : Bool} {n : Int} (h : lenR (tlL l) = some n) (hk : okB (hdL l) (tlL l) en n = true) : ansV (readR l en) = .tuple #[.agg (mkQ (hdL l) (tlL l) n).cs, .bool true] := by
  unfold readR
  rw [h]
  simp only [hk]
  rfl
theorem host_size {l : List Fd} (h : Mod l) : ((hostV (hdL l) (tlL l)).size : Int) ≤ 100000 := by
  unfold hostV
  split
  · exact h.tl.fst _
  · exact h.hd.fst _

/-- Up to the request as it is told ahead of all checks. -/
structure GotQ (w0 : World) (l : List Fd) (R mb G : Nat) (A : Option Addr) (n c : Nat) (B : Option Addr) (m d : Nat) (sz : Int) (w : World) : Prop where
  s : RdS w0 l R mb A n c B m d w
  q : BlkIs w G 26 (mkQ (hdL l) (tlL l) sz).cs
  ne : G ≠ R
  lo : w0.heap.size ≤ G
theorem GotQ.keep {w0 w w' : World} {l : List Fd} {R mb G : Nat} {A : Option Addr} {n c : Nat} {B : Option Addr} {m d : Nat} {sz : Int} (h : GotQ w0 l R mb G A n c B m d sz w) (hb : Below w.heap.size w w') : GotQ w0 l R mb G A n c B m d sz w' :=
  ⟨h.s.keep hb, h.q.keep hb, h.ne, h.lo⟩
theorem GotQ.cells {w0 w : World} {l : List Fd} {R mb G : Nat} {A : Option Addr} {n c : Nat} {B : Option Addr} {m d : Nat} {sz : Int} (h : GotQ w0 l R mb G A n c B m d sz w) (i : Nat) : w.cell? ⟨G, i, none⟩ = (mkQ (hdL l) (tlL l) sz).cs[i]? := h.q.cell i

set_option maxRecDepth 100000 in
set_option maxHeartbeats 3200000 in
theorem rq_Read (A : Option Addr) (n c : Nat) (l : List Fd) (en : Bool) (w : World) (hfl : FL w A n c l) (hm : Mod l) :
    Calls Tryd.prog 10 #[.slice A n c, .bool en] w fun e w' => e = .returned (ansV (readR l en)) ∧ Below w.heap.size w w' := by
  have HFL := hide (hfl.alloc (.cells noRq.cs 26))
  have HM := hide hm
  have HR := hide (BlkIs.new w 26 noRq.cs)
  have HB := hide (bel1 w (.cells noRq.cs 26))
  obtain ⟨V, hV⟩ : ∃ V, V = ansV (readR l en) := ⟨_, rfl⟩
  rw [← hV]
  have HV := hide hV
  clear hfl hm hV
  simp only [Rq.cs, noRq, bNil] at HFL HR HB
  go_enter Tryd.func10, Tryd.ntmps10
  go_wp2_with fail
  obtain ⟨R, hR⟩ : ∃ R, R = w.heap.size := ⟨_, rfl⟩
  rw [← hR] at HR ⊢
  have HRR := hide (show w.heap.size ≤ R by omega)
  clear hR
  refine (rq_parted A n c l _ HFL.out HM.out).mono ?_
  rintro e w1 ⟨A1, B1, n1, m1, c1, d1, rfl, hf1, hg1, hb1⟩
  have HF := hide hf1
  have HG := hide hg1
  have HB1 := hide (HB.out.trans (hb1.mono HB.out.size))
  have HR1 := hide (HR.out.keep hb1)
  clear hf1 hg1 hb1 HB HR HFL
  go_wp2_with fail
  refine (rq_counted A1 n1 c1 _ _ HF.out HM.out.hd).mono ?_
  rintro e w2 ⟨mb, rfl, hmet, hb2⟩
  have HS2 := hide (show RdS w l R mb A1 n1 c1 B1 m1 d1 w2 from ⟨HF.out.keep hb2, HG.out.keep hb2, hmet, HR1.out.keep hb2, HB1.out.trans (hb2.mono HB1.out.size), HRR.out⟩)
  clear hmet hb2 HF HG HB1 HR1 HRR
  go_wp2_with fail
  obtain ⟨sz, is, hE, hlen⟩ := len_is (tlL l)
  have HLEN := hide hlen
  have hz0 := hlen.lo
  have hz1 := hlen.hi
  have HC3 := hide (rq_length B1 m1 d1 _ _ HS2.out.g HM.out.tl)
  rw [hE] at HC3
  clear hE hlen
  refine HC3.out.mono ?_
  rintro e w3 ⟨rfl, hb3⟩
  have HS3 := hide (HS2.out.keep hb3)
  clear hb3 HC3 HS2
  go_wp2_with fail
  refine (rq_first A1 n1 c1 _ nM _ HS3.out.f HM.out.hd).mono ?_
  rintro e w4 ⟨rfl, hb4⟩
  have HS4 := hide (HS3.out.keep hb4)
  clear hb4 HS3
  go_wp2_with fail
  refine (rq_first A1 n1 c1 _ nS _ HS4.out.f HM.out.hd).mono ?_
  rintro e w5 ⟨rfl, hb5⟩
  have HS5 := hide (HS4.out.keep hb5)
  clear hb5 HS4
  go_wp2_with fail
  refine (rq_first A1 n1 c1 _ nP _ HS5.out.f HM.out.hd).mono ?_
  rintro e w6 ⟨rfl, hb6⟩
  have HS6 := hide (HS5.out.keep hb6)
  clear hb6 HS5
  go_wp2_with fail
  refine (rq_first A1 n1 c1 _ nA _ HS6.out.f HM.out.hd).mono ?_
  rintro e w7 ⟨rfl, hb7⟩
  have HS7 := hide (HS6.out.keep hb7)
  clear hb7 HS6
  go_wp2_with fail
  refine (rq_first B1 m1 d1 _ nPrio _ HS7.out.g HM.out.tl).mono ?_
  rintro e w8 ⟨rfl, hb8⟩
  have HS8 := hide (HS7.out.keep hb8)
  clear hb8 HS7
  go_wp2_with fail
  refine (rq_Rank (fst' nPrio (tlL l)) (by have := HM.out.tl.fst nPrio; omega) _).mono ?_
  rintro e w9 ⟨rfl, hb9⟩
  have HS9 := hide (HS8.out.keep hb9)
  clear hb9 HS8
  have hmetA := HS9.out.met
  obtain ⟨vM, hvM⟩ : ∃ v, v = fst' nM (hdL l) := ⟨_, rfl⟩
  obtain ⟨vS, hvS⟩ : ∃ v, v = fst' nS (hdL l) := ⟨_, rfl⟩
  obtain ⟨vP, hvP⟩ : ∃ v, v = fst' nP (hdL l) := ⟨_, rfl⟩
  obtain ⟨vA, hvA⟩ : ∃ v, v = fst' nA (hdL l) := ⟨_, rfl⟩
  obtain ⟨vR, hvR⟩ : ∃ v, v = rankI (fst' nPrio (tlL l)) := ⟨_, rfl⟩
  rw [← hvM, ← hvS, ← hvP, ← hvA, ← hvR]
  have HQ := hide (show ∀ h, h = hostV (hdL l) (tlL l) → #[Value.string vM, .string vS, .string vP, .string h, .int .i64 sz, .int .i64 vR] = (mkQ (hdL l) (tlL l) sz).cs by
    intro h hh
    rw [hvM, hvS, hvP, hh, hvR]
    rfl)
  have HVA := hide hvA
  clear hvM hvS hvP hvA hvR
  have hrun := (HS9.out.keep (bel1 w9 (.cells #[.string vM, .string vS, .string vP, .string vA, .int .i64 sz, .int .i64 vR] 26))).met.run nA (by unfold maxLen; decide)
  obtain ⟨na, hna⟩ : ∃ na, na = (vals nA (hdL l)).length := ⟨_, rfl⟩
  rw [← hna] at hrun
  simp only [nA] at hrun
  have HNA := hide hna
  clear hmetA hna
  have HGQ := hide (BlkIs.new w9 26 #[.string vM, .string vS, .string vP, .string vA, .int .i64 sz, .int .i64 vR])
  have HSQ := hide (HS9.out.keep (bel1 w9 (.cells #[.string vM, .string vS, .string vP, .string vA, .int .i64 sz, .int .i64 vR] 26)))
  have HNE := hide (show w9.heap.size ≠ R by have := HS9.out.r.lt; omega)
  have HLO := hide (show w.heap.size ≤ w9.heap.size from HS9.out.b.size)
  go_upto_region 5 with (fail)
  obtain ⟨W, hW⟩ : ∃ W, W = w9.alloc (.cells #[.string vM, .string vS, .string vP, .string vA, .int .i64 sz, .int .i64 vR] 26) := ⟨_, rfl⟩
  obtain ⟨G, hG⟩ : ∃ G, G = w9.heap.size := ⟨_, rfl⟩
  rw [← hW] at hrun HGQ HSQ ⊢
  rw [← hG] at HGQ HNE HLO ⊢
  have HGE := hide (show w9.heap.size ≤ G by omega)
  have HBW := hide (show Below w9.heap.size w9 W by rw [hW]; exact bel1 _ _)
  clear hW hG
  go_upto_if 40 with (fail)
  clear hrun
  go_cut [11] from 41 to 43 (fun s11 wx => s11 = .pointer (some ⟨G, 0, none⟩) ∧ Hid (GotQ w l R mb G A1 n1 c1 B1 m1 d1 sz wx))
  case first =>
    by_cases h0 : na = 0
    · subst h0
      have d0 : (((0 : Nat) : Int) == 0) = true := rfl
      have HH := hide (HQ.out (fst' nHost (tlL l)) (by unfold hostV; rw [if_pos HNA.out.symm]))
      clear HVA
      go_wp2_with fail
      refine (rq_first B1 m1 d1 _ nHost _ HSQ.out.g HM.out.tl).mono ?_
      rintro e w10 ⟨rfl, hb10⟩
      have HG10 := hide (HGQ.out.keep hb10)
      have HB10 := hide (HBW.out.trans (hb10.mono HBW.out.size))
      have k3 := HG10.out.cell 3
      have f3 := HG10.out.frozen 3
      simp only [List.getElem?_toArray, List.getElem?_cons_zero, List.getElem?_cons_succ] at k3
      obtain ⟨vH, hvH⟩ : ∃ v, v = fst' nHost (tlL l) := ⟨_, rfl⟩
      rw [← hvH] at HH ⊢
      clear hb10 hvH
      go_wp2_with fail
      go_meet
      refine ⟨rfl, HS9.out.keep (HB10.out.setCell HGE.out _), ?_, HNE.out, HLO.out⟩
      rw [← HH.out]
      exact HG10.out.put 3 _
    · have d0 : ((na : Int) == 0) = false := beq_eq_false_iff_ne.2 (by omega)
      have HH := hide (HQ.out vA (by unfold hostV; rw [if_neg (by rw [← HNA.out]; exact h0)]; exact HVA.out))
      clear h0
      go_wp2_with fail
      go_meet
      exact ⟨rfl, HSQ.out, by rw [← HH.out]; exact HGQ.out, HNE.out, HLO.out⟩
  case rest =>
    obtain ⟨rfl, HGOT⟩ := hcut
    have hZ0 : ¬ sz < -1 := by omega
    obtain ⟨x0, x1, x2, x3, x4, x5, hq1, hq2⟩ : ∃ x0 x1 x2 x3 x4 x5, (mkQ (hdL l) (tlL l) sz).cs = #[Value.string x0, .string x1, .string x2, .string x3, .int .i64 x4, .int .i64 x5] ∧ mkQ (hdL l) (tlL l) sz = ⟨x0, x1, x2, x3, x4, x5⟩ := ⟨_, _, _, _, _, _, rfl, rfl⟩
    have HQ1 := hide hq1
    have HQ2 := hide hq2
    have HOK := hide (fun h => ans_no (l := l) (en := en) (n := sz) h)
    obtain ⟨wh, hwh⟩ : ∃ x, x = headB (hdL l) := ⟨_, rfl⟩
    obtain ⟨tg, htg⟩ : ∃ x, x = tgtB (mkQ (hdL l) (tlL l) sz) := ⟨_, rfl⟩
    obtain ⟨rt, hrt⟩ : ∃ x, x = rightL (tlL l) := ⟨_, rfl⟩
    obtain ⟨te, hte⟩ : ∃ x, x = teB (tlL l) := ⟨_, rfl⟩
    obtain ⟨tm, htm⟩ : ∃ x, x = (en && decide (0 < sz)) := ⟨_, rfl⟩
    have HK := hide (show okB (hdL l) (tlL l) en sz = (!tm && (wh && (tg && (rt && !te)))) by rw [htm, hwh, htg, hrt, hte]; rfl)
    have HWH := hide hwh.symm
    have HTG := hide htg.symm
    have HRT := hide hrt.symm
    have HTE := hide hte.symm
    have HTM := hide htm
    clear hq1 hq2 hwh htg hrt hte htm HQ HNA HGE HBW HNE HLO
    cases en
    · obtain rfl : tm = false := HTM.out
      go_upto_region 8 with (fail)
      cases is
      · have HE := hide (HV.out.trans (ans_none (HLEN.out.no rfl).1))
        go_wp2_with (refine wpList_store_blk rfl 26 (.tmp 4) (.tmp 74) rfl R rq0 rq0 26 rfl rfl HGOT.out.s.r rq_size rfl rq0_one ?_)
        exact bodyPost_ret (results_cell_tmp_blk rfl _ _ R 26 rq0 _ rfl (HGOT.out.s.r.row _) Tryd.underlying26 rfl rq_size _ rfl) rfl ⟨by rw [HE.out]; rfl, below_setRow HGOT.out.s.b HGOT.out.s.lo _⟩
      · go_wp2_with fail
        refine (rq_isWhole A1 n1 c1 mb _ _ HGOT.out.s.f HM.out.hd HGOT.out.s.met).mono ?_
        rintro e w11 ⟨rfl, rfl⟩
        rw [HWH.out]
        cases wh
        · have HE := hide (HV.out.trans (HOK.out (HLEN.out.yes rfl) (by rw [HK.out]; rfl)))
          go_wp2_with (refine wpList_store_blk rfl 26 (.tmp 4) (.tmp 74) rfl R rq0 rq0 26 rfl rfl HGOT.out.s.r rq_size rfl rq0_one ?_)
          exact bodyPost_ret (results_cell_tmp_blk rfl _ _ R 26 rq0 _ rfl (HGOT.out.s.r.row _) Tryd.underlying26 rfl rq_size _ rfl) rfl ⟨by rw [HE.out]; rfl, below_setRow HGOT.out.s.b HGOT.out.s.lo _⟩
        · have hq := HGOT.out.q
          rw [HQ1.out] at hq
          have k0 := hq.cell 0
          have k1 := hq.cell 1
          have k2 := hq.cell 2
          have k3 := hq.cell 3
          have k4 := hq.cell 4
          have k5 := hq.cell 5
          simp only [List.getElem?_toArray, List.getElem?_cons_zero, List.getElem?_cons_succ] at k0 k1 k2 k3 k4 k5
          clear hq
          go_wp2_with fail
          refine (rq_isTarget ⟨x0, x1, x2, x3, x4, x5⟩ (by have h1 := HM.out.hd.fst nM; have h2 := congrArg Rq.m HQ2.out; exact h2 ▸ h1) (by have h1 := HM.out.hd.fst nP; have h2 := congrArg Rq.p HQ2.out; exact h2 ▸ h1) (by have h1 := host_size HM.out; have h2 := congrArg Rq.h HQ2.out; exact h2 ▸ h1) _).mono ?_
          rintro e w12 ⟨rfl, hb12⟩
          have HG12 := hide (HGOT.out.keep hb12)
          rw [← HQ2.out, HTG.out]
          clear hb12 k0 k1 k2 k3 k4 k5
          cases tg
          · have HE := hide (HV.out.trans (HOK.out (HLEN.out.yes rfl) (by rw [HK.out]; rfl)))
            go_wp2_with (refine wpList_store_blk rfl 26 (.tmp 4) (.tmp 74) rfl R rq0 rq0 26 rfl rfl HG12.out.s.r rq_size rfl rq0_one ?_)
            exact bodyPost_ret (results_cell_tmp_blk rfl _ _ R 26 rq0 _ rfl (HG12.out.s.r.row _) Tryd.underlying26 rfl rq_size _ rfl) rfl ⟨by rw [HE.out]; rfl, below_setRow HG12.out.s.b HG12.out.s.lo _⟩
          · go_wp2_with fail
            refine (rq_areRight B1 m1 d1 _ _ HG12.out.s.g HM.out.tl).mono ?_
            rintro e w13 ⟨rfl, hb13⟩
            have HG13 := hide (HG12.out.keep hb13)
            rw [HRT.out]
            clear hb13 HG12
            cases rt
            · have HE := hide (HV.out.trans (HOK.out (HLEN.out.yes rfl) (by rw [HK.out]; rfl)))
              go_wp2_with (refine wpList_store_blk rfl 26 (.tmp 4) (.tmp 74) rfl R rq0 rq0 26 rfl rfl HG13.out.s.r rq_size rfl rq0_one ?_)
              exact bodyPost_ret (results_cell_tmp_blk rfl _ _ R 26 rq0 _ rfl (HG13.out.s.r.row _) Tryd.underlying26 rfl rq_size _ rfl) rfl ⟨by rw [HE.out]; rfl, below_setRow HG13.out.s.b HG13.out.s.lo _⟩
            · go_wp2_with fail
              refine (rq_hasTE B1 m1 d1 _ _ HG13.out.s.g HM.out.tl).mono ?_
              rintro e w14 ⟨rfl, hb14⟩
              have HG14 := hide (HG13.out.keep hb14)
              rw [HTE.out]
              clear hb14 HG13
              cases te
              · have hq := HG14.out.q
                rw [HQ1.out] at hq
                have k0 := hq.cell 0
                have k1 := hq.cell 1
                have k2 := hq.cell 2
                have k3 := hq.cell 3
                have k4 := hq.cell 4
                have k5 := hq.cell 5
                simp only [List.getElem?_toArray, List.getElem?_cons_zero, List.getElem?_cons_succ] at k0 k1 k2 k3 k4 k5
                clear hq
                have HE := hide (HV.out.trans (ans_yes (HLEN.out.yes rfl) (by rw [HK.out]; rfl)))
                rw [HQ1.out] at HE
                go_wp2_with (refine wpList_store_blk rfl 26 (.tmp 4) (.tmp 75) rfl R #[.string x0, .string x1, .string x2, .string x3, .int .i64 x4, .int .i64 x5] rq0 26 rfl rfl HG14.out.s.r rq_size rfl (by simp [Value.oneCell']) ?_)
                exact bodyPost_ret (results_cell_tmp_blk rfl _ _ R 26 #[.string x0, .string x1, .string x2, .string x3, .int .i64 x4, .int .i64 x5] _ rfl (HG14.out.s.r.row _) Tryd.underlying26 rfl rq_size _ rfl) rfl ⟨by rw [HE.out]; rfl, below_setRow HG14.out.s.b HG14.out.s.lo _⟩
              · have HE := hide (HV.out.trans (HOK.out (HLEN.out.yes rfl) (by rw [HK.out]; rfl)))
                go_wp2_with (refine wpList_store_blk rfl 26 (.tmp 4) (.tmp 74) rfl R rq0 rq0 26 rfl rfl HG14.out.s.r rq_size rfl rq0_one ?_)
                exact bodyPost_ret (results_cell_tmp_blk rfl _ _ R 26 rq0 _ rfl (HG14.out.s.r.row _) Tryd.underlying26 rfl rq_size _ rfl) rfl ⟨by rw [HE.out]; rfl, below_setRow HG14.out.s.b HG14.out.s.lo _⟩
    · by_cases hpos : 0 < sz
      · obtain rfl : tm = true := by rw [HTM.out, decide_eq_true hpos]; rfl
        go_upto_region 8 with (fail)
        cases is
        · have HE := hide (HV.out.trans (ans_none (HLEN.out.no rfl).1))
          go_wp2_with (refine wpList_store_blk rfl 26 (.tmp 4) (.tmp 74) rfl R rq0 rq0 26 rfl rfl HGOT.out.s.r rq_size rfl rq0_one ?_)
          exact bodyPost_ret (results_cell_tmp_blk rfl _ _ R 26 rq0 _ rfl (HGOT.out.s.r.row _) Tryd.underlying26 rfl rq_size _ rfl) rfl ⟨by rw [HE.out]; rfl, below_setRow HGOT.out.s.b HGOT.out.s.lo _⟩
        · have HE := hide (HV.out.trans (HOK.out (HLEN.out.yes rfl) (by rw [HK.out]; rfl)))
          go_wp2_with (refine wpList_store_blk rfl 26 (.tmp 4) (.tmp 74) rfl R rq0 rq0 26 rfl rfl HGOT.out.s.r rq_size rfl rq0_one ?_)
          exact bodyPost_ret (results_cell_tmp_blk rfl _ _ R 26 rq0 _ rfl (HGOT.out.s.r.row _) Tryd.underlying26 rfl rq_size _ rfl) rfl ⟨by rw [HE.out]; rfl, below_setRow HGOT.out.s.b HGOT.out.s.lo _⟩
      · obtain rfl : tm = false := by rw [HTM.out, decide_eq_false hpos]; rfl
        go_upto_region 8 with (fail)
        cases is
        · have HE := hide (HV.out.trans (ans_none (HLEN.out.no rfl).1))
          go_wp2_with (refine wpList_store_blk rfl 26 (.tmp 4) (.tmp 74) rfl R rq0 rq0 26 rfl rfl HGOT.out.s.r rq_size rfl rq0_one ?_)
          exact bodyPost_ret (results_cell_tmp_blk rfl _ _ R 26 rq0 _ rfl (HGOT.out.s.r.row _) Tryd.underlying26 rfl rq_size _ rfl) rfl ⟨by rw [HE.out]; rfl, below_setRow HGOT.out.s.b HGOT.out.s.lo _⟩
        · go_wp2_with fail
          refine (rq_isWhole A1 n1 c1 mb _ _ HGOT.out.s.f HM.out.hd HGOT.out.s.met).mono ?_
          rintro e w11 ⟨rfl, rfl⟩
          rw [HWH.out]
          cases wh
          · have HE := hide (HV.out.trans (HOK.out (HLEN.out.yes rfl) (by rw [HK.out]; rfl)))
            go_wp2_with (refine wpList_store_blk rfl 26 (.tmp 4) (.tmp 74) rfl R rq0 rq0 26 rfl rfl HGOT.out.s.r rq_size rfl rq0_one ?_)
            exact bodyPost_ret (results_cell_tmp_blk rfl _ _ R 26 rq0 _ rfl (HGOT.out.s.r.row _) Tryd.underlying26 rfl rq_size _ rfl) rfl ⟨by rw [HE.out]; rfl, below_setRow HGOT.out.s.b HGOT.out.s.lo _⟩
          · have hq := HGOT.out.q
            rw [HQ1.out] at hq
            have k0 := hq.cell 0
            have k1 := hq.cell 1
            have k2 := hq.cell 2
            have k3 := hq.cell 3
            have k4 := hq.cell 4
            have k5 := hq.cell 5
            simp only [List.getElem?_toArray, List.getElem?_cons_zero, List.getElem?_cons_succ] at k0 k1 k2 k3 k4 k5
            clear hq
            go_wp2_with fail
            refine (rq_isTarget ⟨x0, x1, x2, x3, x4, x5⟩ (by have h1 := HM.out.hd.fst nM; have h2 := congrArg Rq.m HQ2.out; exact h2 ▸ h1) (by have h1 := HM.out.hd.fst nP; have h2 := congrArg Rq.p HQ2.out; exact h2 ▸ h1) (by have h1 := host_size HM.out; have h2 := congrArg Rq.h HQ2.out; exact h2 ▸ h1) _).mono ?_
            rintro e w12 ⟨rfl, hb12⟩
            have HG12 := hide (HGOT.out.keep hb12)
            rw [← HQ2.out, HTG.out]
            clear hb12 k0 k1 k2 k3 k4 k5
            cases tg
            · have HE := hide (HV.out.trans (HOK.out (HLEN.out.yes rfl) (by rw [HK.out]; rfl)))
              go_wp2_with (refine wpList_store_blk rfl 26 (.tmp 4) (.tmp 74) rfl R rq0 rq0 26 rfl rfl HG12.out.s.r rq_size rfl rq0_one ?_)
              exact bodyPost_ret (results_cell_tmp_blk rfl _ _ R 26 rq0 _ rfl (HG12.out.s.r.row _) Tryd.underlying26 rfl rq_size _ rfl) rfl ⟨by rw [HE.out]; rfl, below_setRow HG12.out.s.b HG12.out.s.lo _⟩
            · go_wp2_with fail
              refine (rq_areRight B1 m1 d1 _ _ HG12.out.s.g HM.out.tl).mono ?_
              rintro e w13 ⟨rfl, hb13⟩
              have HG13 := hide (HG12.out.keep hb13)
              rw [HRT.out]
              clear hb13 HG12
              cases rt
              · have HE := hide (HV.out.trans (HOK.out (HLEN.out.yes rfl) (by rw [HK.out]; rfl)))
                go_wp2_with (refine wpList_store_blk rfl 26 (.tmp 4) (.tmp 74) rfl R rq0 rq0 26 rfl rfl HG13.out.s.r rq_size rfl rq0_one ?_)
                exact bodyPost_ret (results_cell_tmp_blk rfl _ _ R 26 rq0 _ rfl (HG13.out.s.r.row _) Tryd.underlying26 rfl rq_size _ rfl) rfl ⟨by rw [HE.out]; rfl, below_setRow HG13.out.s.b HG13.out.s.lo _⟩
              · go_wp2_with fail
                refine (rq_hasTE B1 m1 d1 _ _ HG13.out.s.g HM.out.tl).mono ?_
                rintro e w14 ⟨rfl, hb14⟩
                have HG14 := hide (HG13.out.keep hb14)
                rw [HTE.out]
                clear hb14 HG13
                cases te
                · have hq := HG14.out.q
                  rw [HQ1.out] at hq
                  have k0 := hq.cell 0
                  have k1 := hq.cell 1
                  have k2 := hq.cell 2
                  have k3 := hq.cell 3
                  have k4 := hq.cell 4
                  have k5 := hq.cell 5
                  simp only [List.getElem?_toArray, List.getElem?_cons_zero, List.getElem?_cons_succ] at k0 k1 k2 k3 k4 k5
                  clear hq
                  have HE := hide (HV.out.trans (ans_yes (HLEN.out.yes rfl) (by rw [HK.out]; rfl)))
                  rw [HQ1.out] at HE
                  go_wp2_with (refine wpList_store_blk rfl 26 (.tmp 4) (.tmp 75) rfl R #[.string x0, .string x1, .string x2, .string x3, .int .i64 x4, .int .i64 x5] rq0 26 rfl rfl HG14.out.s.r rq_size rfl (by simp [Value.oneCell']) ?_)
                  exact bodyPost_ret (results_cell_tmp_blk rfl _ _ R 26 #[.string x0, .string x1, .string x2, .string x3, .int .i64 x4, .int .i64 x5] _ rfl (HG14.out.s.r.row _) Tryd.underlying26 rfl rq_size _ rfl) rfl ⟨by rw [HE.out]; rfl, below_setRow HG14.out.s.b HG14.out.s.lo _⟩
                · have HE := hide (HV.out.trans (HOK.out (HLEN.out.yes rfl) (by rw [HK.out]; rfl)))
                  go_wp2_with (refine wpList_store_blk rfl 26 (.tmp 4) (.tmp 74) rfl R rq0 rq0 26 rfl rfl HG14.out.s.r rq_size rfl rq0_one ?_)
                  exact bodyPost_ret (results_cell_tmp_blk rfl _ _ R 26 rq0 _ rfl (HG14.out.s.r.row _) Tryd.underlying26 rfl rq_size _ rfl) rfl ⟨by rw [HE.out]; rfl, below_setRow HG14.out.s.b HG14.out.s.lo _⟩
end Go.Proofs.YtlbhnbloanamfaaDoor
