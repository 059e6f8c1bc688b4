/-
  Layer 12: Apply: the document's.
-/
import Derived.Test.YtlcnenkfineddaaSsApply
import Derived.Test.YtlcnenkfineddaaRsCheck
namespace Go.Proofs.Ytlcnenkfineddaa
set_option linter.unusedSimpArgs false
set_option linter.unusedVariables false
open Go.RowKit

/-- A whole variable loaded in a drawn region, as an event of its own. -/
theorem rgs_ld_blk {P : Program} {w : World} {ops : Array Oper} {o : Oper} {a : Act} {K : Act → World → Prop} {Q : Exit → Act → World → Prop} {E : Prop} (hgd : o.guard = none) (ty : TypeId) (x : Operand) (ho : o.op = .load ty x)
    (g : Nat) (hx : a.eval x = .pointer (some ⟨g, 0, none⟩)) (t : TypeId) (cs : Array Value) (d : TypeDesc) (hg : BlkIs w g t cs)
    (hu : P.underlying ty = some d) (hd : (match d with | .struct _ | .array _ _ => true | _ => false) = true) (hi : (P.info? ty).map (·.size) = some cs.size)
    (h : K (a.put o.dst (.agg cs)) w) : if Region.wanted o (yielded ops a.tmps) = true then Oper.wp P o a w K Q else E := by
  rw [if_pos (by simp [Region.wanted, hgd])]
  unfold Oper.wp execOp
  simp only [ho, hx, Instr.loadAt, Instr.sureAddr, Sem.run_bind, Sem.run_pure, Result.andThen_ok, run_loadVar_row w g t ty cs (0, 0) d hg hu hd hi]
  exact h
/-- What stands behind a store into the variable gn. -/
theorem ApS.kb {B : Nat} {tv tn : TypeId} {w0 w w' : World} {g gn : Nat} {v : Vs} {cs cs' : Array Value} (h : ApS B tv tn w0 w g gn v cs) (hk : KB (· = gn) w w') (hn : BlkIs w' gn tn cs') (hB : w0.heap.size = B) : ApS B tv tn w0 w' g gn v cs' :=
  ⟨hk.blk h.st (by have := h.an; omega), hk.blk h.re (by have := h.an; omega), hn, h.le, h.an, below_kb h.bl hk (by have := h.an; have := h.le; omega) (by omega)⟩

set_option maxRecDepth 100000 in
set_option maxHeartbeats 6400000 in
theorem rs_Apply (v : Vs) (A : Option Addr) (n c : Nat) (l : List Pr) (w : World) (hl : PL w A n c l) (ha : AllP l) (hn : (n : Int) ≤ 1000000000) :
    Calls Try.prog 9 #[.agg v.cs, .slice A n c] w (GivesAp .i64 (applyS v l) w) := by
  have HPL := hide hl
  have HAP := hide ha
  have HCK := hide (fun w => rs_Check v w)
  have HNO := hide (show okB v = false → applyS v l = (v, 0) from apply_bad l)
  have HYS := hide (show okB v = true → ∀ x, runS v l = (x, 0) → applyS v l = (x, 0) from fun h x hr => apply_all h hr)
  have HFA := hide (show okB v = true → ∀ (x : Vs) (a b : List Pr) (p : Pr), runS v a = (x, 0) → ¬ fltC p = 0 → l = a ++ p :: b → applyS v l = (v, fltC p) from fun h x a b p hr hp e => by rw [e]; exact apply_fault h hr hp)
  have HC0 := hide (show okB v = true → chkV v = 0 from chkV_yes)
  have HC8 := hide (show okB v = false → chkV v = 8 from chkV_no)
  clear hl ha
  generalize applyS v l = r at *
  generalize chkV v = ck at *
  obtain ⟨g, hg⟩ : ∃ g, g = w.heap.size := ⟨_, rfl⟩
  have HG := hide hg
  have HV0 := hide (show BlkIs ((w.alloc (.cells v.cs 23)).alloc (.cells #[.int .i64 0, .int .i64 0, .int .i64 0, .int .i64 0, .int .i64 0, .int .i64 0] 23)) g 23 v.cs by rw [hg]; exact (BlkIs.new w _ _).alloc _)
  have HR0 := hide (show BlkIs ((w.alloc (.cells v.cs 23)).alloc (.cells #[.int .i64 0, .int .i64 0, .int .i64 0, .int .i64 0, .int .i64 0, .int .i64 0] 23)) (g + 1) 23 Vs.zero.cs by rw [hg]; exact new2 w _ _ _)
  have HB0 := hide (show Below g w ((w.alloc (.cells v.cs 23)).alloc (.cells #[.int .i64 0, .int .i64 0, .int .i64 0, .int .i64 0, .int .i64 0, .int .i64 0] 23)) by rw [hg]; exact bel2 w _ _)
  have HZ0 := hide (show ((w.alloc (.cells v.cs 23)).alloc (.cells #[.int .i64 0, .int .i64 0, .int .i64 0, .int .i64 0, .int .i64 0, .int .i64 0] 23)).heap.size = g + 1 + 1 by rw [hg]; simp)
  clear hg
  go_enter Try.func9, Try.ntmps9
  go_upto_region 1 with (fail)
  rw [← HG.out]
  generalize (w.alloc (.cells v.cs 23)).alloc (.cells #[.int .i64 0, .int .i64 0, .int .i64 0, .int .i64 0, .int .i64 0, .int .i64 0] 23) = wa at *
  go_wp2_with (refine wpList_load_blk rfl 23 (.tmp 2) rfl g rfl 23 v.cs _ HV0.out Try.underlying23 rfl rs_size ?_)
  refine (HCK.out _).mono ?_
  rintro e w1 ⟨rfl, hb1⟩
  have HV1 := hide (HV0.out.keep hb1)
  have HR1 := hide (HR0.out.keep hb1)
  have HB1 := hide (HB0.out.trans (hb1.mono (by have := HZ0.out; omega)))
  have HZ1 := hide (show g + 1 < w1.heap.size by have := hb1.size; have := HZ0.out; omega)
  clear hb1 HV0 HR0 HB0 HZ0 HCK
  cases hok : okB v with
  | false =>
    obtain rfl : ck = 8 := HC8.out hok
    have HC := hide (HNO.out hok)
    clear HNO HYS HFA hok HPL HAP HC0 HC8
    go_wp2_with (first
      | (refine wpList_load_blk rfl 23 (.tmp 2) rfl g rfl 23 v.cs _ HV1.out Try.underlying23 rfl rs_size ?_)
      | (refine wpList_store_blk rfl 23 (.tmp 4) (.tmp 11) rfl (g + 1) v.cs Vs.zero.cs 23 rfl rfl HR1.out rs_size rfl (Vs.cs_one v) ?_))
    exact bodyPost_ret (results_cell_tmp_blk rfl _ _ (g + 1) 23 v.cs _ rfl (HR1.out.row _) Try.underlying23 rfl rs_size _ rfl) rfl ⟨by rw [HC.out]; rfl, HG.out ▸ below_setRow HB1.out (by omega) _⟩
  | true =>
    obtain rfl : ck = 0 := HC0.out hok
    have HYS2 := hide (HYS.out hok)
    have HFA2 := hide (HFA.out hok)
    have HOK := hide hok
    clear HNO HYS HFA hok HC0 HC8
    obtain ⟨gx, hgx⟩ : ∃ gx, gx = w1.heap.size := ⟨_, rfl⟩
    have HGX := hide hgx
    have HS2 := hide (show ApS g 23 23 w (w1.alloc (.cells v.cs 23)) g gx v v.cs from
      ⟨HV1.out.alloc _, HR1.out.alloc _, by rw [hgx]; exact BlkIs.new w1 _ _, Nat.le_refl _, by have := HZ1.out; omega, HB1.out.alloc (by have := HZ1.out; omega) _⟩)
    clear hgx HR1 HB1 HZ1
    have HNM := hide (show n ≤ maxLen from Nat.le_trans HPL.out.le HPL.out.max)
    go_upto_region 4 with (first
      | (refine wpList_load_blk rfl 23 (.tmp 2) rfl g rfl 23 v.cs _ HV1.out Try.underlying23 rfl rs_size ?_)
      | (refine wpList_store_new rfl 23 (.tmp 6) (.tmp 12) rfl v.cs _ 23 rfl rfl rs_size rfl (Vs.cs_one v) ?_; simp only [Act.put]))
    rw [← HGX.out]
    generalize w1.alloc (.cells v.cs 23) = wb at *
    go_wp2_with fail
    go_loopw [7] (fun k wr => ∃ (i : Nat) (x : Vs), i ≤ n ∧ k = .int .i64 (i : Int) ∧ runS v (l.take i) = (x, 0) ∧ okB x = true ∧ ApS g 23 23 w wr g gx v x.cs) (fun k _ => n - (intOf k).toNat)
    case atStart => exact ⟨0, v, by omega, rfl, rfl, HOK.out, HS2.out⟩
    case round =>
      clear HS2 HV1
      obtain ⟨i, x, hi, rfl, hr, ho, hs⟩ := hrel
      have HR := hide hr
      have HO := hide ho
      have HS := hide hs
      clear hr ho hs
      by_cases hlt : i < n
      · have hlt' : (i : Int) < (n : Int) := by omega
        obtain ⟨f, b, off, hf, rfl, hbl, c0, c1⟩ := (HPL.out.keep (HG.out ▸ HS.out.bl)).round hlt
        have HBW := hide (show b < g by rw [HG.out]; obtain ⟨b', off', e, h', _⟩ := HPL.out.at_ i f hf; injection e with e; injection e with e1 e2; subst e1; exact h')
        obtain ⟨fi, fv⟩ := f
        have hfo := HAP.out ⟨fi, fv⟩ (List.mem_of_getElem? hf)
        have HFL := hide (fun w => (show Calls Try.prog 24 #[.agg #[.int .u16 fi, .int .u32 fv]] w _ from rs_fault (p := ⟨fi, fv⟩) hfo w))
        have HST := hide (fun w => (show Calls Try.prog 25 #[.agg x.cs, .agg #[.int .u16 fi, .int .u32 fv]] w _ from rs_set x (p := ⟨fi, fv⟩) hfo w))
        have HOS := hide (fun h => ok_set HO.out hfo h)
        have HF := hide (take_pr hf)
        clear hf hfo
        go_wp2_with fail
        refine (HFL.out _).mono ?_
        rintro e w3 ⟨rfl, hb3⟩
        have HS4 := hide (HS.out.keep hb3 HG.out.symm)
        have d0 := (hb3.cell (p := ⟨b, off + i * 2, none⟩) hbl).trans c0
        have d1 := (hb3.cell (p := ⟨b, off + i * 2 + 1, none⟩) hbl).trans c1
        have hbl3 : b < w3.heap.size := by have := hb3.size; omega
        clear hb3 HS c0 c1 hbl
        have c0 := d0
        have c1 := d1
        have hbl := hbl3
        clear d0 d1 hbl3
        by_cases hz : fltC ⟨fi, fv⟩ = 0
        · have HNX := hide (show runS v (l.take (i + 1)) = (x.set ⟨fi, fv⟩, 0) by rw [HF.out.2, run_snoc HR.out hz])
          have HO2 := hide (HOS.out hz)
          have HNB := hide (show ¬ b = gx by have := HBW.out; have := HS4.out.an; omega)
          clear HF HFL HOS HFA2
          rw [hz]
          clear hz
          generalize x.set ⟨fi, fv⟩ = y at *
          go_upto_region 9 with (fail)
          refine wp_region_noPanic ?_
          refine wp_region_held_drew (S := fun w' => KB (· = gx) w3 w') (by kernel_rfl) (KB.refl _ _).drew (fun hS => ?_)
          have hre := HS4.out.nb.drew
          generalize w3.drew = wd at hS hre ⊢
          refine wpAnyH_take (i := 1) (v := ?_) (by simp only [List.getElem?_toArray, List.getElem?_cons_succ, List.getElem?_cons_zero] <;> exact rfl) (by kernel_rfl) (by kernel_rfl) (by kernel_rfl) (fun _ _ _ h => h) (Or.inl ⟨by rfl, ?_⟩) hS ?_
          rotate_left
          focus (intro w' hw'; go_simp; all_goals with_reducible rfl)
          try simp only [Act.put, List.setIfInBounds_toArray, List.set_cons_zero, List.set_cons_succ]
          refine wpAnyH_take (i := 2) (v := ?_) (by simp only [List.getElem?_toArray, List.getElem?_cons_succ, List.getElem?_cons_zero] <;> exact rfl) (by kernel_rfl) (by kernel_rfl) (by kernel_rfl) (fun _ _ _ h => h) (Or.inl ⟨by rfl, ?_⟩) hS ?_
          rotate_left
          focus (intro w' hw'; go_simp; all_goals with_reducible rfl)
          try simp only [Act.put, List.setIfInBounds_toArray, List.set_cons_zero, List.set_cons_succ]
          refine wpAnyH_take (i := 3) (v := ?_) (by simp only [List.getElem?_toArray, List.getElem?_cons_succ, List.getElem?_cons_zero] <;> exact rfl) (by kernel_rfl) (by kernel_rfl) (by kernel_rfl) (fun _ _ _ h => h) (Or.inl ⟨by rfl, ?_⟩) hS ?_
          rotate_left
          focus (intro w' hw'; go_simp; all_goals with_reducible rfl)
          try simp only [Act.put, List.setIfInBounds_toArray, List.set_cons_zero, List.set_cons_succ]
          refine wpAnyH_take (i := 4) (v := ?_) (by simp only [List.getElem?_toArray, List.getElem?_cons_succ, List.getElem?_cons_zero] <;> exact rfl) (by kernel_rfl) (by kernel_rfl) (by kernel_rfl) (fun _ _ _ h => h) (Or.inl ⟨by rfl, ?_⟩) hS ?_
          rotate_left
          focus (intro w' hw'; have k0 := (hw'.cell (p := ⟨b, _, none⟩) hbl HNB.out).trans c0; have k1 := (hw'.cell (p := ⟨b, _, none⟩) hbl HNB.out).trans c1; go_simp; all_goals with_reducible rfl)
          try simp only [Act.put, List.setIfInBounds_toArray, List.set_cons_zero, List.set_cons_succ]
          refine wpAnyH_ready (rs := [0]) (by kernel_rfl) (by simp) ?_
          refine AllReadyH.cons (o := _) (by simp only [List.getElem?_toArray, List.getElem?_cons_succ, List.getElem?_cons_zero] <;> exact rfl) (fun K hK => ?_) ?_
          focus (
            refine rgs_ld_blk (by rfl) 23 (.tmp 6) (by rfl) gx (by rfl) 23 x.cs _ hre Try.underlying23 rfl rs_size ?_
            refine hK.out _ _ hS (fun _ => ?_)
            clear hK K
            try simp only [Act.put, List.setIfInBounds_toArray, List.set_cons_zero, List.set_cons_succ]
            refine wpAnyH_ready (rs := [5]) (by kernel_rfl) (by simp) ?_
            refine AllReadyH.cons (o := _) (by simp only [List.getElem?_toArray, List.getElem?_cons_succ, List.getElem?_cons_zero] <;> exact rfl) (fun K hK => ?_) ?_
            focus (
              go_simp
              go_at_call 25
              refine (HST.out _).mono ?_
              rintro e wc ⟨rfl, hb⟩
              have hS := hS.trans' (KB.of_below (· = gx) hb) (fun _ _ h => h)
              have hre := hre.keep hb
              clear hb
              go_wp2_with fail
              refine hK.out _ _ hS (fun _ => ?_)
              clear hK K
              try simp only [Act.put, List.setIfInBounds_toArray, List.set_cons_zero, List.set_cons_succ]
              refine wpAnyH_ready (rs := [6]) (by kernel_rfl) (by simp) ?_
              refine AllReadyH.cons (o := _) (by simp only [List.getElem?_toArray, List.getElem?_cons_succ, List.getElem?_cons_zero] <;> exact rfl) (fun K hK => ?_) ?_
              focus (
                refine rgs_store_blk (by rfl) 23 (.tmp 6) (.tmp 36) (by rfl) gx y.cs x.cs 23 (by rfl) (by rfl) hre rs_size rfl (Vs.cs_one y) ?_
                have hk2 := BlkIs.row hre y.cs
                have hS2 := hS.setRow (g := gx) (fun _ => rfl) y.cs
                clear hS
                have hS := hS2
                clear hS2
                refine hK.out _ _ hS (fun _ => ?_)
                clear hK K
                try simp only [Act.put, List.setIfInBounds_toArray, List.set_cons_zero, List.set_cons_succ]
                refine wpAnyH_done (by kernel_rfl) ?_ _
                refine NoPanic.normal ?_
                have HS5 := hide (HS4.out.kb hS hk2 HG.out.symm)
                clear hS hk2
                generalize wc.setRow gx y.cs = w5 at *
                go_wp2
                go_roundw
                case rel => exact ⟨i + 1, y, by omega, by go_num, HNX.out, HO2.out, HS5.out⟩
                case measure => simp [intOf]; omega)
              exact AllReadyH.nil)
            exact AllReadyH.nil)
          exact AllReadyH.nil
        · have HF0 := hide (HFA2.out x (l.take i) (l.drop (i + 1)) ⟨fi, fv⟩ HR.out hz HF.out.1)
          have HNB := hide (show ¬ b = g + 1 by have := HBW.out; omega)
          clear HF HST HOS HFA2
          generalize fltC ⟨fi, fv⟩ = fc at *
          go_upto_region 8 with (fail)
          refine wp_region_noPanic ?_
          refine wp_region_held_drew (S := fun w' => KB (· = g + 1) w3 w') (by kernel_rfl) (KB.refl _ _).drew (fun hS => ?_)
          have hre := HS4.out.re.drew
          generalize w3.drew = wd at hS hre ⊢
          refine wpAnyH_take (i := 0) (by simp only [List.getElem?_toArray, List.getElem?_cons_zero] <;> exact rfl) (by kernel_rfl) (by kernel_rfl) (by kernel_rfl) (fun _ _ _ h => h) (rgs_yields_blk (by rfl) 23 (.tmp 2) (by rfl) g (by rfl) 23 v.cs _ (fun w' hw' => hw'.blk HS4.out.st (by omega)) Try.underlying23 rfl rs_size) hS ?_
          try simp only [Act.put, List.setIfInBounds_toArray, List.set_cons_zero, List.set_cons_succ]
          refine wpAnyH_take (i := 1) (v := ?_) (by simp only [List.getElem?_toArray, List.getElem?_cons_succ, List.getElem?_cons_zero] <;> exact rfl) (by kernel_rfl) (by kernel_rfl) (by kernel_rfl) (fun _ _ _ h => h) (Or.inl ⟨by rfl, ?_⟩) hS ?_
          rotate_left
          focus (intro w' hw'; go_simp; all_goals with_reducible rfl)
          try simp only [Act.put, List.setIfInBounds_toArray, List.set_cons_zero, List.set_cons_succ]
          refine wpAnyH_take (i := 2) (v := ?_) (by simp only [List.getElem?_toArray, List.getElem?_cons_succ, List.getElem?_cons_zero] <;> exact rfl) (by kernel_rfl) (by kernel_rfl) (by kernel_rfl) (fun _ _ _ h => h) (Or.inl ⟨by rfl, ?_⟩) hS ?_
          rotate_left
          focus (intro w' hw'; go_simp; all_goals with_reducible rfl)
          try simp only [Act.put, List.setIfInBounds_toArray, List.set_cons_zero, List.set_cons_succ]
          refine wpAnyH_take (i := 3) (v := ?_) (by simp only [List.getElem?_toArray, List.getElem?_cons_succ, List.getElem?_cons_zero] <;> exact rfl) (by kernel_rfl) (by kernel_rfl) (by kernel_rfl) (fun _ _ _ h => h) (Or.inl ⟨by rfl, ?_⟩) hS ?_
          rotate_left
          focus (intro w' hw'; go_simp; all_goals with_reducible rfl)
          try simp only [Act.put, List.setIfInBounds_toArray, List.set_cons_zero, List.set_cons_succ]
          refine wpAnyH_take (i := 4) (v := ?_) (by simp only [List.getElem?_toArray, List.getElem?_cons_succ, List.getElem?_cons_zero] <;> exact rfl) (by kernel_rfl) (by kernel_rfl) (by kernel_rfl) (fun _ _ _ h => h) (Or.inl ⟨by rfl, ?_⟩) hS ?_
          rotate_left
          focus (intro w' hw'; have k0 := (hw'.cell (p := ⟨b, _, none⟩) hbl HNB.out).trans c0; have k1 := (hw'.cell (p := ⟨b, _, none⟩) hbl HNB.out).trans c1; go_simp; all_goals with_reducible rfl)
          try simp only [Act.put, List.setIfInBounds_toArray, List.set_cons_zero, List.set_cons_succ]
          refine wpAnyH_ready (rs := [5]) (by kernel_rfl) (by simp) ?_
          refine AllReadyH.cons (o := _) (by simp only [List.getElem?_toArray, List.getElem?_cons_succ, List.getElem?_cons_zero] <;> exact rfl) (fun K hK => ?_) ?_
          focus (
            go_simp
            go_at_call 24
            refine (HFL.out _).mono ?_
            rintro e wc ⟨rfl, hb⟩
            have hS := hS.trans' (KB.of_below (· = g + 1) hb) (fun _ _ h => h)
            have hre := hre.keep hb
            clear hb
            go_wp2_with fail
            refine hK.out _ _ hS (fun _ => ?_)
            clear hK K
            try simp only [Act.put, List.setIfInBounds_toArray, List.set_cons_zero, List.set_cons_succ]
            refine wpAnyH_ready (rs := [6]) (by kernel_rfl) (by simp) ?_
            refine AllReadyH.cons (o := _) (by simp only [List.getElem?_toArray, List.getElem?_cons_succ, List.getElem?_cons_zero] <;> exact rfl) (fun K hK => ?_) ?_
            focus (
              refine rgs_store_blk (by rfl) 23 (.tmp 4) (.tmp 25) (by rfl) (g + 1) v.cs Vs.zero.cs 23 (by rfl) (by rfl) hre rs_size rfl (Vs.cs_one v) ?_
              have hk2 := BlkIs.row hre v.cs
              have hS2 := hS.setRow (g := g + 1) (fun _ => rfl) v.cs
              clear hS
              have hS := hS2
              clear hS2
              refine hK.out _ _ hS (fun _ => ?_)
              clear hK K
              try simp only [Act.put, List.setIfInBounds_toArray, List.set_cons_zero, List.set_cons_succ]
              refine wpAnyH_take (i := 7) (v := ?_) (by simp only [List.getElem?_toArray, List.getElem?_cons_succ, List.getElem?_cons_zero] <;> exact rfl) (by kernel_rfl) (by kernel_rfl) (by kernel_rfl) (fun _ _ _ h => h) (Or.inl ⟨by rfl, ?_⟩) hS ?_
              rotate_left
              focus (intro w' hw'; go_simp; all_goals with_reducible rfl)
              try simp only [Act.put, List.setIfInBounds_toArray, List.set_cons_zero, List.set_cons_succ]
              refine wpAnyH_done (by kernel_rfl) ?_ _
              refine NoPanic.normal ?_
              go_wp2
              exact bodyPost_ret (results_cell_tmp_blk rfl _ _ (g + 1) 23 v.cs _ rfl hk2 Try.underlying23 rfl rs_size _ rfl) rfl ⟨by rw [HF0.out]; rfl, HG.out ▸ below_kb HS4.out.bl hS (by omega) (by have := HG.out; omega)⟩)
            exact AllReadyH.nil)
          exact AllReadyH.nil
      · obtain rfl : i = n := by omega
        have HX := hide (show r = (x, 0) from HYS2.out x (by have h := HR.out; rwa [← HPL.out.len, List.take_length] at h))
        go_wp2_with (first
          | (refine wpList_load_blk rfl 23 (.tmp 6) rfl gx rfl 23 x.cs _ HS.out.nb Try.underlying23 rfl rs_size ?_)
          | (refine wpList_store_blk rfl 23 (.tmp 4) (.tmp 37) rfl (g + 1) x.cs Vs.zero.cs 23 rfl rfl HS.out.re rs_size rfl (Vs.cs_one x) ?_))
        exact bodyPost_ret (results_cell_tmp_blk rfl _ _ (g + 1) 23 x.cs _ rfl (HS.out.re.row _) Try.underlying23 rfl rs_size _ rfl) rfl ⟨by rw [HX.out]; rfl, HG.out ▸ below_setRow HS.out.bl (by omega) _⟩
end Go.Proofs.Ytlcnenkfineddaa
