/-
  Layer 12: Apply: the program's.
-/
import Derived.Test.YtlcnenkfineddaaSsMay
import Derived.Test.YtlcnenkfineddaaFrEqR
import Derived.Deep.CutRange
namespace Go.Proofs.Ytlcnenkfineddaa
set_option linter.unusedSimpArgs false
set_option linter.unusedVariables false
open Go.RowKit

/-- What Apply gives. -/
def GivesAp (k : IntKind) (r : Vs × Int) (w : World) (e : Ending) (w' : World) : Prop := e = .returned (.tuple #[.agg r.1.cs, .int k r.2]) ∧ Below w.heap.size w w'
/-- What Apply's walk knows of memory. -/
structure ApS (B : Nat) (tv tn : TypeId) (w0 w : World) (g gn : Nat) (v : Vs) (cs : Array Value) : Prop where
  st : BlkIs w g tv v.cs
  re : BlkIs w (g + 1) tv Vs.zero.cs
  nb : BlkIs w gn tn cs
  le : B ≤ g
  an : g + 1 < gn
  bl : Below B w0 w
section
variable {B : Nat} {tv tn : TypeId} {w0 w w' : World} {g gn : Nat} {v : Vs} {cs : Array Value}
theorem ApS.keep (h : ApS B tv tn w0 w g gn v cs) (hb : Below w.heap.size w w') (hB : w0.heap.size = B) : ApS B tv tn w0 w' g gn v cs :=
  ⟨h.st.keep hb, h.re.keep hb, h.nb.keep hb, h.le, h.an, h.bl.trans (hb.mono (by have := h.bl.size; omega))⟩
theorem ApS.alloc (h : ApS B tv tn w0 w g gn v cs) (hB : w0.heap.size = B) (o : Obj) : ApS B tv tn w0 (w.alloc o) g gn v cs := h.keep ((Below.refl _ _).alloc (Nat.le_refl _) o) hB
theorem ApS.put (h : ApS B tv tn w0 w g gn v cs) (i : Nat) (u : Value) : ApS B tv tn w0 (w.setCell ⟨gn, i, none⟩ u) g gn v (cs.setIfInBounds i u) :=
  ⟨h.st.far (by have := h.an; simp; omega) u, h.re.far (by have := h.an; simp; omega) u, h.nb.put i u, h.le, h.an, h.bl.setCell (by have := h.le; have := h.an; simp; omega) u⟩
end
theorem below_kb {B g : Nat} {a w w' : World} (h : Below B a w) (hk : KB (· = g) w w') (hg : B ≤ g) (hB : B ≤ a.heap.size) : Below B a w' :=
  h.trans (hk.below (by have := h.size; omega) (fun k e => by omega))

set_option maxRecDepth 100000 in
set_option maxHeartbeats 6400000 in
theorem ss_Apply (v : Vs) (A : Option Addr) (n c : Nat) (l : List Pr) (w : World) (hl : PL w A n c l) (ha : AllP l) (hn : (n : Int) ≤ 1000000000) :
    Calls Try.prog 8 #[.agg v.cs, .slice A n c] w (GivesAp .u32 (applyS v l) w) := by
  have HPL := hide hl
  have HAP := hide ha
  have HBN := hide (fun w => ss_byNumber v w)
  have HMB := hide (fun w => ss_mayBe v w)
  have HNO := hide (show okB v = false → applyS v l = (v, 0) from apply_bad l)
  have HYS := hide (show okB v = true → ∀ x, runS v l = (x, 0) → applyS v l = (x, 0) from fun h x hr => apply_all h hr)
  have HFA := hide (show okB v = true → ∀ (x : Vs) (a b : List Pr) (p : Pr), runS v a = (x, 0) → ¬ fltC p = 0 → l = a ++ p :: b → applyS v l = (v, fltC p) from fun h x a b p hr hp e => by rw [e]; exact apply_fault h hr hp)
  have HOK := hide (show ∀ b, okB v = b → okB v = b from fun _ h => h)
  clear hl ha
  generalize applyS v l = r at *
  obtain ⟨g, hg⟩ : ∃ g, g = w.heap.size := ⟨_, rfl⟩
  have HG := hide hg
  have HV0 := hide (show BlkIs ((w.alloc (.cells v.cs 26)).alloc (.cells #[.int .i64 0, .int .i64 0, .int .i64 0, .int .i64 0, .int .i64 0, .int .i64 0] 26)) g 26 v.cs by rw [hg]; exact (BlkIs.new w _ _).alloc _)
  have HR0 := hide (show BlkIs ((w.alloc (.cells v.cs 26)).alloc (.cells #[.int .i64 0, .int .i64 0, .int .i64 0, .int .i64 0, .int .i64 0, .int .i64 0] 26)) (g + 1) 26 Vs.zero.cs by rw [hg]; exact new2 w _ _ _)
  have HB0 := hide (show Below g w ((w.alloc (.cells v.cs 26)).alloc (.cells #[.int .i64 0, .int .i64 0, .int .i64 0, .int .i64 0, .int .i64 0, .int .i64 0] 26)) by rw [hg]; exact bel2 w _ _)
  have HZ0 := hide (show ((w.alloc (.cells v.cs 26)).alloc (.cells #[.int .i64 0, .int .i64 0, .int .i64 0, .int .i64 0, .int .i64 0, .int .i64 0] 26)).heap.size = g + 1 + 1 by rw [hg]; simp)
  clear hg
  go_enter Try.func8, Try.ntmps8
  go_upto_region 1 with (fail)
  rw [← HG.out]
  generalize (w.alloc (.cells v.cs 26)).alloc (.cells #[.int .i64 0, .int .i64 0, .int .i64 0, .int .i64 0, .int .i64 0, .int .i64 0] 26) = wa at *
  go_wp2_with (refine wpList_load_blk rfl 26 (.tmp 2) rfl g rfl 26 v.cs _ HV0.out Try.underlying26 rfl ss_size ?_)
  refine (HBN.out _).mono ?_
  rintro e w1 ⟨rfl, hb1⟩
  obtain ⟨gn, hgn⟩ : ∃ gn, gn = w1.heap.size := ⟨_, rfl⟩
  have HGN := hide hgn
  have HS1 := hide (show ApS g 26 50 w (w1.alloc (.cells v.arr 50)) g gn v v.arr from
    ⟨(HV0.out.keep hb1).alloc _, (HR0.out.keep hb1).alloc _, by rw [hgn]; exact BlkIs.new w1 _ _, Nat.le_refl _, by have := hb1.size; have := HZ0.out; omega,
     (HB0.out.trans (hb1.mono (by have := HZ0.out; omega))).alloc (by have := hb1.size; have := HZ0.out; omega) _⟩)
  clear hb1 HV0 HR0 HB0 HZ0 hgn HBN
  go_upto_region 2 with (refine wpList_store_new rfl 50 (.tmp 6) (.tmp 10) rfl v.arr _ 50 rfl rfl sn_size rfl (Vs.arr_one v) ?_; simp only [Act.put])
  rw [← HGN.out]
  generalize w1.alloc (.cells v.arr 50) = wb at *
  cases hok : okB v with
  | false =>
    rw [hok] at HMB
    have HC := hide (HNO.out hok)
    clear HNO HYS HFA HOK hok HPL HAP
    go_wp2_with (refine wpList_load_blk rfl 50 (.tmp 6) rfl gn rfl 50 v.arr _ HS1.out.nb Try.underlying50 rfl sn_size ?_)
    refine (HMB.out _).mono ?_
    rintro e w2 ⟨rfl, hb2⟩
    have HS2 := hide (HS1.out.keep hb2 HG.out.symm)
    clear hb2 HS1
    go_wp2_with (first
      | (refine wpList_load_blk rfl 26 (.tmp 2) rfl g rfl 26 v.cs _ HS2.out.st Try.underlying26 rfl ss_size ?_)
      | (refine wpList_store_blk rfl 26 (.tmp 4) (.tmp 14) rfl (g + 1) v.cs Vs.zero.cs 26 rfl rfl HS2.out.re ss_size rfl (Vs.cs_one v) ?_))
    exact bodyPost_ret (results_cell_tmp_blk rfl _ _ (g + 1) 26 v.cs _ rfl (HS2.out.re.row _) Try.underlying26 rfl ss_size _ rfl) rfl ⟨by rw [HC.out]; rfl, HG.out ▸ below_setRow HS2.out.bl (by omega) _⟩
  | true =>
    rw [hok] at HMB
    have HYS2 := hide (HYS.out hok)
    have HFA2 := hide (HFA.out hok)
    have HOK := hide hok
    clear HNO HYS HFA hok
    go_wp2_with (refine wpList_load_blk rfl 50 (.tmp 6) rfl gn rfl 50 v.arr _ HS1.out.nb Try.underlying50 rfl sn_size ?_)
    refine (HMB.out _).mono ?_
    rintro e w2 ⟨rfl, hb2⟩
    have HS2 := hide (HS1.out.keep hb2 HG.out.symm)
    clear hb2 HS1 HMB
    have HNM := hide (show n ≤ maxLen from Nat.le_trans HPL.out.le HPL.out.max)
    go_wp2_with fail
    go_loopw [17] (fun k wr => ∃ (i : Nat) (x : Vs), i ≤ n ∧ k = .int .i64 (i : Int) ∧ runS v (l.take i) = (x, 0) ∧ okB x = true ∧ ApS g 26 50 w wr g gn v x.arr) (fun k _ => n - (intOf k).toNat)
    case atStart => exact ⟨0, v, by omega, rfl, rfl, HOK.out, HS2.out⟩
    case round =>
      clear HS2
      obtain ⟨i, x, hi, rfl, hr, ho, hs⟩ := hrel
      have HR := hide hr
      have HO := hide ho
      have HS := hide hs
      clear hr ho hs
      by_cases hlt : i < n
      · have hlt' : (i : Int) < (n : Int) := by omega
        obtain ⟨f, b, off, hf, rfl, hbl, c0, c1⟩ := (HPL.out.keep (HG.out ▸ HS.out.bl)).round hlt
        obtain ⟨fi, fv⟩ := f
        have hfo := HAP.out ⟨fi, fv⟩ (List.mem_of_getElem? hf)
        obtain ⟨f0, f1, v0, v1⟩ := hfo
        simp only at f0 f1 v0 v1 c0 c1
        have HF := hide (take_pr hf)
        have HIS := hide (fun w => ss_isNumber fi w)
        obtain ⟨gp, hgp⟩ : ∃ gp, gp = wr.heap.size := ⟨_, rfl⟩
        have HGP := hide hgp
        have HS2 := hide (HS.out.alloc HG.out.symm (.cells #[.int .u16 fi, .int .u32 fv] 47))
        have HP := hide (show BlkIs (wr.alloc (.cells #[.int .u16 fi, .int .u32 fv] 47)) gp 47 #[.int .u16 fi, .int .u32 fv] by rw [hgp]; exact BlkIs.new wr _ _)
        have HNE := hide (show gn < gp by rw [hgp]; exact HS.out.nb.lt)
        clear hf hgp
        go_upto_region 7 with (fail)
        rw [← HGP.out]
        generalize wr.alloc (.cells #[.int .u16 fi, .int .u32 fv] 47) = wp at *
        have c2 := HP.out.cell 0
        have c3 := HP.out.cell 1
        simp only [List.getElem?_toArray, List.getElem?_cons_zero, List.getElem?_cons_succ] at c2 c3
        clear HS c0 c1
        cases hnb : isN fi with
        | false =>
          rw [hnb] at HIS
          have HNX := hide (show runS v (l.take (i + 1)) = (x, 0) by rw [HF.out.2, run_snoc HR.out (flt_other hnb), set_other hnb])
          clear hnb
          go_wp2_with fail
          refine (HIS.out _).mono ?_
          rintro e w' ⟨rfl, hw⟩
          subst hw
          go_wp2_with fail
          go_roundw
          case rel => exact ⟨i + 1, x, by omega, by go_num, HNX.out, HO.out, HS2.out⟩
          case measure => simp [intOf]; omega
        | true =>
          rw [hnb] at HIS
          obtain ⟨h1, h6⟩ := isN_yes.1 hnb
          obtain ⟨k, rfl⟩ : ∃ k : Nat, fi = (k : Int) := ⟨fi.toNat, by omega⟩
          have HSO := hide (set_ok HO.out (p := ⟨(k : Int), fv⟩) ⟨f0, f1, v0, v1⟩ hnb)
          have HSA := hide (set_arr x k fv (by omega) (by omega))
          have HMB2 := hide (fun w => ss_mayBe (x.set ⟨(k : Int), fv⟩) w)
          rw [HSO.out] at HMB2
          have z1 := HS2.out.nb.frozen k
          have d1 := (HS2.out.nb.cell k).trans (x.arr_at k (by omega))
          have h7 : (k : Int) < 7 := by omega
          clear hnb
          go_wp2_with fail
          refine (HIS.out _).mono ?_
          rintro e w' ⟨rfl, hw⟩
          subst hw
          go_upto_region 9 with (fail)
          have h3 := HS2.out.put k (.int .i64 fv)
          rw [HSA.out] at h3
          have HS3 := hide h3
          have HP3 := hide (HP.out.far (p := ⟨gn, k, none⟩) (by have := HNE.out; simp; omega) (.int .i64 fv))
          clear h3 HSA HS2 HP c2 c3 z1 d1 HIS
          generalize w'.setCell ⟨gn, k, none⟩ (.int .i64 fv) = wq at *
          by_cases hz : fltC ⟨(k : Int), fv⟩ = 0
          · rw [decide_eq_true hz] at HMB2 HSO
            have HNX := hide (show runS v (l.take (i + 1)) = (x.set ⟨(k : Int), fv⟩, 0) by rw [HF.out.2, run_snoc HR.out hz])
            clear hz HF
            generalize x.set ⟨(k : Int), fv⟩ = y at *
            go_wp2_with (refine wpList_load_blk rfl 50 (.tmp 6) rfl gn rfl 50 y.arr _ HS3.out.nb Try.underlying50 rfl sn_size ?_)
            refine (HMB2.out _).mono ?_
            rintro e w3 ⟨rfl, hb3⟩
            have HS4 := hide (HS3.out.keep hb3 HG.out.symm)
            clear hb3 HS3
            go_wp2_with fail
            go_roundw
            case rel => exact ⟨i + 1, y, by omega, by go_num, HNX.out, HSO.out, HS4.out⟩
            case measure => simp [intOf]; omega
          · rw [decide_eq_false hz] at HMB2 HSO
            have HF0 := hide (HFA2.out x (l.take i) (l.drop (i + 1)) ⟨(k : Int), fv⟩ HR.out hz HF.out.1)
            have HFL := hide (fun w => ss_fault hz w)
            clear hz HF HSO HFA2
            generalize x.set ⟨(k : Int), fv⟩ = y at *
            go_wp2_with (refine wpList_load_blk rfl 50 (.tmp 6) rfl gn rfl 50 y.arr _ HS3.out.nb Try.underlying50 rfl sn_size ?_)
            refine (HMB2.out _).mono ?_
            rintro e w3 ⟨rfl, hb3⟩
            have HS4 := hide (HS3.out.keep hb3 HG.out.symm)
            have HP4 := hide (HP3.out.keep hb3)
            clear hb3 HS3 HP3
            try simp only at HFL
            generalize fltC ⟨(k : Int), fv⟩ = fc at *
            have HE := hide (show g + 1 < gp by have := HS4.out.an; have := HNE.out; omega)
            go_upto_region 10 with (fail)
            refine wp_region_noPanic ?_
            refine wp_region_held_drew (S := fun w' => KB (· = g + 1) w3 w') (by kernel_rfl) (KB.refl _ _).drew (fun hS => ?_)
            have hre := HS4.out.re.drew
            generalize w3.drew = wd at hS hre ⊢
            refine wpAnyH_take (i := 0) (by simp only [List.getElem?_toArray, List.getElem?_cons_zero] <;> exact rfl) (by kernel_rfl) (by kernel_rfl) (by kernel_rfl) (fun _ _ _ h => h) (rgs_yields_blk (by rfl) 26 (.tmp 2) (by rfl) g (by rfl) 26 v.cs _ (fun w' hw' => hw'.blk HS4.out.st (by omega)) Try.underlying26 rfl ss_size) hS ?_
            try simp only [Act.put, List.setIfInBounds_toArray, List.set_cons_zero, List.set_cons_succ]
            refine wpAnyH_take (i := 1) (v := ?_) (by simp only [List.getElem?_toArray, List.getElem?_cons_succ, List.getElem?_cons_zero] <;> exact rfl) (by kernel_rfl) (by kernel_rfl) (by kernel_rfl) (fun _ _ _ h => h) (Or.inl ⟨by rfl, ?_⟩) hS ?_
            rotate_left
            focus (intro w' hw'; go_simp; all_goals with_reducible rfl)
            try simp only [Act.put, List.setIfInBounds_toArray, List.set_cons_zero, List.set_cons_succ]
            refine wpAnyH_take (i := 2) (v := ?_) (by simp only [List.getElem?_toArray, List.getElem?_cons_succ, List.getElem?_cons_zero] <;> exact rfl) (by kernel_rfl) (by kernel_rfl) (by kernel_rfl) (fun _ _ _ h => h) (Or.inl ⟨by rfl, ?_⟩) hS ?_
            rotate_left
            focus (intro w' hw'; have kk := (hw'.blk HP4.out (by have := HE.out; omega)).cell 0; simp only [List.getElem?_toArray, List.getElem?_cons_zero] at kk; go_simp; all_goals with_reducible rfl)
            try simp only [Act.put, List.setIfInBounds_toArray, List.set_cons_zero, List.set_cons_succ]
            refine wpAnyH_ready (rs := [3]) (by kernel_rfl) (by simp) ?_
            refine AllReadyH.cons (o := _) (by simp only [List.getElem?_toArray, List.getElem?_cons_succ, List.getElem?_cons_zero] <;> exact rfl) (fun K hK => ?_) ?_
            focus (
              go_simp
              go_at_call 22
              refine (HFL.out _).mono ?_
              rintro e wc ⟨rfl, hwc⟩
              subst hwc
              go_wp2_with fail
              refine hK.out _ _ hS (fun _ => ?_)
              clear hK K
              try simp only [Act.put, List.setIfInBounds_toArray, List.set_cons_zero, List.set_cons_succ]
              refine wpAnyH_ready (rs := [4]) (by kernel_rfl) (by simp) ?_
              refine AllReadyH.cons (o := _) (by simp only [List.getElem?_toArray, List.getElem?_cons_succ, List.getElem?_cons_zero] <;> exact rfl) (fun K hK => ?_) ?_
              focus (
                refine rgs_store_blk (by rfl) 26 (.tmp 4) (.tmp 34) (by rfl) (g + 1) v.cs Vs.zero.cs 26 (by rfl) (by rfl) hre ss_size rfl (Vs.cs_one v) ?_
                have hk2 := BlkIs.row hre v.cs
                have hS2 := hS.setRow (g := g + 1) (fun _ => rfl) v.cs
                clear hS
                have hS := hS2
                clear hS2
                refine hK.out _ _ hS (fun _ => ?_)
                clear hK K
                try simp only [Act.put, List.setIfInBounds_toArray, List.set_cons_zero, List.set_cons_succ]
                refine wpAnyH_take (i := 5) (v := ?_) (by simp only [List.getElem?_toArray, List.getElem?_cons_succ, List.getElem?_cons_zero] <;> exact rfl) (by kernel_rfl) (by kernel_rfl) (by kernel_rfl) (fun _ _ _ h => h) (Or.inl ⟨by rfl, ?_⟩) hS ?_
                rotate_left
                focus (intro w' hw'; go_simp; all_goals with_reducible rfl)
                try simp only [Act.put, List.setIfInBounds_toArray, List.set_cons_zero, List.set_cons_succ]
                refine wpAnyH_done (by kernel_rfl) ?_ _
                refine NoPanic.normal ?_
                go_wp2
                exact bodyPost_ret (results_cell_tmp_blk rfl _ _ (g + 1) 26 v.cs _ rfl hk2 Try.underlying26 rfl ss_size _ rfl) rfl ⟨by rw [HF0.out]; rfl, HG.out ▸ below_kb HS4.out.bl hS (by omega) (by have := HG.out; omega)⟩)
              exact AllReadyH.nil)
            exact AllReadyH.nil
      · obtain rfl : i = n := by omega
        have HX := hide (show r = (x, 0) from HYS2.out x (by have h := HR.out; rwa [← HPL.out.len, List.take_length] at h))
        have HBM := hide (fun w => ss_byName x w)
        go_wp2_with (refine wpList_load_blk rfl 50 (.tmp 6) rfl gn rfl 50 x.arr _ HS.out.nb Try.underlying50 rfl sn_size ?_)
        refine (HBM.out _).mono ?_
        rintro e w3 ⟨rfl, hb3⟩
        have HS4 := hide (HS.out.keep hb3 HG.out.symm)
        clear hb3 HS
        go_wp2_with (refine wpList_store_blk rfl 26 (.tmp 4) (.tmp 40) rfl (g + 1) x.cs Vs.zero.cs 26 rfl rfl HS4.out.re ss_size rfl (Vs.cs_one x) ?_)
        exact bodyPost_ret (results_cell_tmp_blk rfl _ _ (g + 1) 26 x.cs _ rfl (HS4.out.re.row _) Try.underlying26 rfl ss_size _ rfl) rfl ⟨by rw [HX.out]; rfl, HG.out ▸ below_setRow HS4.out.bl (by omega) _⟩
end Go.Proofs.Ytlcnenkfineddaa
