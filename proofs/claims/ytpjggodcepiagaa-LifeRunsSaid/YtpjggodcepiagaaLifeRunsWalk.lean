/-
  LifeRuns: its walk (written by gen16runs.py).
-/
import Derived.Test.YtpjggodcepiagaaLfAwake
import Derived.Test.YtpjggodcepiagaaLfVerdict
import Derived.Test.YtpjggodcepiagaaRlRun
import Derived.Test.YtpjggodcepiagaaRegW
import Derived.BigGuardPart
import Derived.Deep.Cut
namespace Go.Proofs.Ytpjggodcepiagaa.lifeRuns
set_option linter.unusedSimpArgs false
set_option linter.unusedVariables false
open Go.RowKit

theorem run_wf : ∀ (l : List Ev) (s : Int), 0 ≤ s → AllE l → 0 ≤ (runR s l).1.c ∧ (runR s l).1.c ≤ 5
  | [], s, _, _ => ⟨Int.le_refl 0, by show (0 : Int) ≤ 5; decide⟩
  | x :: l, s, hs, ha => by
    have hx := (ha x (List.mem_cons_self ..)).1
    have hw := step_wf (b := x.b) hs hx
    rw [runR]
    split
    · exact run_wf l _ hw.1 (fun y hy => ha y (List.mem_cons_of_mem _ hy))
    · exact ⟨hw.2.2.1, hw.2.2.2⟩

set_option maxRecDepth 100000 in
set_option maxHeartbeats 6400000 in
theorem walk_at (s0 : Int) (A : Option Addr) (m cp : Nat) (l : List Ev) (w : World) (hl : EL w A m cp l) (hs0 : 0 ≤ s0) (ha : AllE l) :
    Calls Try.prog 4 #[.int .u8 s0, .slice A m cp] w fun e w' => e = .returned (.bool true) ∧ Below w.heap.size w w' := by
  have HAW := hide (fun w => aw_life w)
  obtain ⟨g, hg⟩ : ∃ g, g = w.heap.size := ⟨_, rfl⟩
  have HG := hide hg
  have HL := hide hl
  by_cases hm : (m : Int) ≤ 60
  · have hm' : ¬ (60 : Int) < (m : Int) := by omega
    have HR1 := hide (fun w' A' c' (h : EL w' A' m c' l) => lf_Run A' m c' l s0 w' h (by omega))
    have HR2 := hide (fun w' (h : EL w' A m cp l) => rf_Run A m cp l s0 w' h (by omega) hs0 ha)
    have hwf := run_wf l s0 hs0 ha
    generalize runR s0 l = q at *
    obtain ⟨⟨s1, c, n, d⟩, k⟩ := q
    simp only at hwf HR1 HR2
    have HLV := hide (fun w => lw_verdict c n d w hwf.1 hwf.2)
    clear hwf hl hs0 ha hg
    go_enter Try.func4, Try.ntmps4
    go_wp2_with fail
    go_loopw [5, 6] (fun s5 s6 wr => ∃ i : Nat, i ≤ m ∧ s6 = .int .i64 (i : Int) ∧ wr.ownsRow g 30 2 s5 i (ecs (l.take i)) ∧ Below g w wr) (fun _ s6 _ => m - (intOf s6).toNat)
    case atStart => exact ⟨0, by omega, rfl, World.ownsRow_nil _ _ _ _, Below.refl _ _⟩
    case round =>
      obtain ⟨i, hi, rfl, ho, hb⟩ := hrel
      have HO := hide ho
      have HB := hide hb
      have HZ := hide (show g ≤ wr.heap.size by rw [HG.out]; exact hb.size)
      have HLr := hide (HL.out.keep (show Below w.heap.size w wr by rw [← HG.out]; exact hb))
      clear ho hb
      by_cases hlt : i < m
      · have hlt' : (i : Int) < (m : Int) := by omega
        obtain ⟨x, b, off, hx, rfl, hbl, c0, c1⟩ := HLr.out.round hlt
        have HTK := hide (show l.take i ++ [x] = l.take (i + 1) by rw [List.take_add_one, hx]; rfl)
        have HB2 := hide (HB.out.alloc HZ.out (.cells #[.int .u8 x.k, .bool x.b] 30))
        have HO2 := hide (HO.out.alloc (.cells #[.int .u8 x.k, .bool x.b] 30))
        have HY := hide (el_blk (l := [x]) (BlkIs.new wr 30 #[.int .u8 x.k, .bool x.b]) (by unfold maxLen; simp))
        have HS := hide (show g ≤ (wr.alloc (.cells #[.int .u8 x.k, .bool x.b] 30)).heap.size by have := HZ.out; simp; omega)
        clear hx HO HB HZ
        go_wp2_with (at_builtin; refine wpList_append_el _ rfl (.tmp 23) (.tmp 28) rfl g _ i (l.take i) rfl HO2.out ⟨wr.heap.size, 0, none⟩ 1 1 [x] rfl HY.out (by omega) HS.out ?_; intro v1 w1 hown1 hg1; have HO1 := hide hown1; have HG1 := hide hg1; clear hown1 hg1)
        go_roundw
        case rel => exact ⟨i + 1, by omega, by go_num, by have h := HO1.out; rw [HTK.out] at h; exact h, own_bel HO2.out HB2.out (Nat.le_refl _) (by have := HG.out; omega) HG1.out⟩
        case measure => simp [intOf]; omega
      · have hge : ¬ (i : Int) < (m : Int) := by omega
        obtain rfl : i = m := by omega
        have HE := hide (show l.take i = l by rw [← HLr.out.len, List.take_length])
        rw [HE.out] at HO
        obtain ⟨A7, c7, e7, hw7⟩ := own_evs HO.out
        subst e7
        have HW7 := hide hw7
        clear hw7 HO HE
        go_wp2_with fail
        refine (HR1.out _ _ _ HW7.out).mono ?_
        rintro e w1 ⟨rfl, hb⟩
        have HB1 := hide (HB.out.trans (hb.mono HZ.out))
        have HL1 := hide (HLr.out.keep hb)
        clear hb HB HLr HW7
        have HB1a := hide (HB1.out.alloc (Nat.le_trans (by rw [HG.out]; exact Nat.le_refl _) HB1.out.size) (.cells #[.int .u32 c, .bool n, .bool d] 27))
        have HL1a := hide (HL1.out.alloc (.cells #[.int .u32 c, .bool n, .bool d] 27))
        have HV1 := hide (BlkIs.new w1 27 #[.int .u32 c, .bool n, .bool d])
        clear HB1 HL1
        go_wp2_with fail
        refine (HR2.out _ HL1a.out).mono ?_
        rintro e w2 ⟨rfl, hb⟩
        obtain ⟨gv, hgv⟩ : ∃ gv, gv = w1.heap.size := ⟨_, rfl⟩
        obtain ⟨gr, hgr⟩ : ∃ gr, gr = w2.heap.size := ⟨_, rfl⟩
        obtain ⟨w3, hw3⟩ : ∃ w3, w3 = w2.alloc (.cells #[.int .i64 c, .bool n, .bool d] 32) := ⟨_, rfl⟩
        have HV := hide (show BlkIs w3 gv 27 #[.int .u32 c, .bool n, .bool d] by rw [hw3, hgv]; exact (HV1.out.keep hb).alloc _)
        have HR := hide (show BlkIs w3 gr 32 #[.int .i64 c, .bool n, .bool d] by rw [hw3, hgr]; exact BlkIs.new w2 _ _)
        have HB2 := hide (HB1a.out.trans (hb.mono (Nat.le_trans (by rw [HG.out]; exact Nat.le_refl _) HB1a.out.size)))
        have HB3 := hide (show Below w.heap.size w w3 by rw [hw3, ← HG.out]; exact HB2.out.alloc (Nat.le_trans (by rw [HG.out]; exact Nat.le_refl _) HB2.out.size) _)
        have HW3 := hide hw3
        have HGV := hide hgv
        have HGR := hide hgr
        clear hb hw3 HB1a HL1a HV1 hgv hgr HR1 HR2 HB2
        have hee : (s1 == s1) = true := beq_self_eq_true s1
        go_upto_region 10 with (fail)
        rw [← HW3.out, ← HGV.out, ← HGR.out]
        refine wp_region_noPanic ?_
        refine wp_region_held_drew (S := fun w' => Below w3.heap.size w3 w') (by kernel_rfl) (Below.refl _ _).drew (fun hS => ?_)
        generalize w3.drew = wd at hS ⊢
        refine wpAnyH_take (i := 0) (v := ?_) (by simp only [List.getElem?_toArray, List.getElem?_cons_succ, List.getElem?_cons_zero] <;> exact rfl) (by kernel_rfl) (by kernel_rfl) (by kernel_rfl) (fun _ _ _ h => h) (Or.inl ⟨by rfl, ?_⟩) hS ?_
        rotate_left
        focus (intro w' hw'; go_simp; all_goals with_reducible rfl)
        try simp only [Act.put, List.setIfInBounds_toArray, List.set_cons_zero, List.set_cons_succ]
        refine wpAnyH_take (i := 1) (v := ?_) (by simp only [List.getElem?_toArray, List.getElem?_cons_succ, List.getElem?_cons_zero] <;> exact rfl) (by kernel_rfl) (by kernel_rfl) (by kernel_rfl) (fun _ _ _ h => h) (Or.inl ⟨by rfl, ?_⟩) hS ?_
        rotate_left
        focus (intro w' hw'; go_simp; all_goals with_reducible rfl)
        try simp only [Act.put, List.setIfInBounds_toArray, List.set_cons_zero, List.set_cons_succ]
        refine wpAnyH_take (i := 2) (v := ?_) (by simp only [List.getElem?_toArray, List.getElem?_cons_succ, List.getElem?_cons_zero] <;> exact rfl) (by kernel_rfl) (by kernel_rfl) (by kernel_rfl) (fun _ _ _ h => h) (Or.inl ⟨by rfl, ?_⟩) hS ?_
        rotate_left
        focus (intro w' hw'; go_simp; all_goals with_reducible rfl)
        try simp only [Act.put, List.setIfInBounds_toArray, List.set_cons_zero, List.set_cons_succ]
        refine wpAnyH_take (i := 3) (v := ?_) (by simp only [List.getElem?_toArray, List.getElem?_cons_succ, List.getElem?_cons_zero] <;> exact rfl) (by kernel_rfl) (by kernel_rfl) (by kernel_rfl) (fun _ _ _ h => h) (Or.inl ⟨by rfl, ?_⟩) hS ?_
        rotate_left
        focus (intro w' hw'; go_simp; all_goals with_reducible rfl)
        try simp only [Act.put, List.setIfInBounds_toArray, List.set_cons_zero, List.set_cons_succ]
        refine wpAnyH_take (i := 4) (by simp only [List.getElem?_toArray, List.getElem?_cons_succ, List.getElem?_cons_zero] <;> exact rfl) (by kernel_rfl) (by kernel_rfl) (by kernel_rfl) (fun _ _ _ h => h) (rgs_yields_blk (by rfl) 27 (.tmp 8) (by rfl) gv (by rfl) 27 #[.int .u32 c, .bool n, .bool d] _ (fun w' hw' => HV.out.keep hw') Try.underlying27 rfl vd_size) hS ?_
        try simp only [Act.put, List.setIfInBounds_toArray, List.set_cons_zero, List.set_cons_succ]
        refine wpAnyH_take (i := 6) (by simp only [List.getElem?_toArray, List.getElem?_cons_succ, List.getElem?_cons_zero] <;> exact rfl) (by kernel_rfl) (by kernel_rfl) (by kernel_rfl) (fun _ _ _ h => h) (rgs_yields_blk (by rfl) 32 (.tmp 11) (by rfl) gr (by rfl) 32 #[.int .i64 c, .bool n, .bool d] _ (fun w' hw' => HR.out.keep hw') Try.underlying32 rfl vr_size) hS ?_
        try simp only [Act.put, List.setIfInBounds_toArray, List.set_cons_zero, List.set_cons_succ]
        refine wpAnyH_ready (rs := [5]) (by kernel_rfl) (by simp) ?_
        refine AllReadyH.cons (o := _) (by simp only [List.getElem?_toArray, List.getElem?_cons_succ, List.getElem?_cons_zero] <;> exact rfl) (fun K hK => ?_) ?_
        focus (
          go_simp
          go_at_call 9
          refine (HLV.out _).mono ?_
          rintro e wc1 ⟨rfl, hb⟩
          have hS := hS.trans (hb.mono hS.size)
          clear hb
          go_wp2_with fail
          refine hK.out _ _ hS (fun _ => ?_)
          clear hK K
          try simp only [Act.put, List.setIfInBounds_toArray, List.set_cons_zero, List.set_cons_succ]
          refine wpAnyH_take (i := 7) (v := ?_) (by simp only [List.getElem?_toArray, List.getElem?_cons_succ, List.getElem?_cons_zero] <;> exact rfl) (by kernel_rfl) (by kernel_rfl) (by kernel_rfl) (fun _ _ _ h => h) (Or.inl ⟨by rfl, ?_⟩) hS ?_
          rotate_left
          focus (intro w' hw'; go_simp; all_goals with_reducible rfl)
          try simp only [Act.put, List.setIfInBounds_toArray, List.set_cons_zero, List.set_cons_succ]
          refine wpAnyH_take (i := 8) (v := ?_) (by simp only [List.getElem?_toArray, List.getElem?_cons_succ, List.getElem?_cons_zero] <;> exact rfl) (by kernel_rfl) (by kernel_rfl) (by kernel_rfl) (fun _ _ _ h => h) (Or.inl ⟨by rfl, ?_⟩) hS ?_
          rotate_left
          focus (intro w' hw'; go_simp; all_goals with_reducible rfl)
          try simp only [Act.put, List.setIfInBounds_toArray, List.set_cons_zero, List.set_cons_succ]
          refine wpAnyH_take (i := 9) (v := ?_) (by simp only [List.getElem?_toArray, List.getElem?_cons_succ, List.getElem?_cons_zero] <;> exact rfl) (by kernel_rfl) (by kernel_rfl) (by kernel_rfl) (fun _ _ _ h => h) (Or.inl ⟨by rfl, ?_⟩) hS ?_
          rotate_left
          focus (intro w' hw'; go_simp; all_goals with_reducible rfl)
          try simp only [Act.put, List.setIfInBounds_toArray, List.set_cons_zero, List.set_cons_succ]
          refine wpAnyH_take (i := 10) (v := ?_) (by simp only [List.getElem?_toArray, List.getElem?_cons_succ, List.getElem?_cons_zero] <;> exact rfl) (by kernel_rfl) (by kernel_rfl) (by kernel_rfl) (fun _ _ _ h => h) (Or.inl ⟨by rfl, ?_⟩) hS ?_
          rotate_left
          focus (intro w' hw'; go_simp; all_goals with_reducible rfl)
          try simp only [Act.put, List.setIfInBounds_toArray, List.set_cons_zero, List.set_cons_succ]
          refine wpAnyH_take (i := 11) (v := ?_) (by simp only [List.getElem?_toArray, List.getElem?_cons_succ, List.getElem?_cons_zero] <;> exact rfl) (by kernel_rfl) (by kernel_rfl) (by kernel_rfl) (fun _ _ _ h => h) (Or.inl ⟨by rfl, ?_⟩) hS ?_
          rotate_left
          focus (intro w' hw'; go_simp; all_goals with_reducible rfl)
          try simp only [Act.put, List.setIfInBounds_toArray, List.set_cons_zero, List.set_cons_succ]
          refine wpAnyH_take (i := 12) (v := ?_) (by simp only [List.getElem?_toArray, List.getElem?_cons_succ, List.getElem?_cons_zero] <;> exact rfl) (by kernel_rfl) (by kernel_rfl) (by kernel_rfl) (fun _ _ _ h => h) (Or.inl ⟨by rfl, ?_⟩) hS ?_
          rotate_left
          focus (intro w' hw'; go_simp; all_goals with_reducible rfl)
          try simp only [Act.put, List.setIfInBounds_toArray, List.set_cons_zero, List.set_cons_succ]
          refine wpAnyH_take (i := 13) (v := ?_) (by simp only [List.getElem?_toArray, List.getElem?_cons_succ, List.getElem?_cons_zero] <;> exact rfl) (by kernel_rfl) (by kernel_rfl) (by kernel_rfl) (fun _ _ _ h => h) (Or.inl ⟨by rfl, ?_⟩) hS ?_
          rotate_left
          focus (intro w' hw'; go_simp; all_goals with_reducible rfl)
          try simp only [Act.put, List.setIfInBounds_toArray, List.set_cons_zero, List.set_cons_succ]
          refine wpAnyH_take (i := 14) (v := ?_) (by simp only [List.getElem?_toArray, List.getElem?_cons_succ, List.getElem?_cons_zero] <;> exact rfl) (by kernel_rfl) (by kernel_rfl) (by kernel_rfl) (fun _ _ _ h => h) (Or.inl ⟨by rfl, ?_⟩) hS ?_
          rotate_left
          focus (intro w' hw'; go_simp; all_goals with_reducible rfl)
          try simp only [Act.put, List.setIfInBounds_toArray, List.set_cons_zero, List.set_cons_succ]
          refine wpAnyH_ready (rs := [15]) (by kernel_rfl) (by simp) ?_
          refine AllReadyH.cons (o := _) (by simp only [List.getElem?_toArray, List.getElem?_cons_succ, List.getElem?_cons_zero] <;> exact rfl) (fun K hK => ?_) ?_
          focus (
            go_simp
            go_at_call 13
            refine (HAW.out _).mono ?_
            rintro e wc2 ⟨rfl, hb⟩
            have hS := hS.trans (hb.mono hS.size)
            clear hb
            go_wp2_with fail
            refine hK.out _ _ hS (fun _ => ?_)
            clear hK K
            try simp only [Act.put, List.setIfInBounds_toArray, List.set_cons_zero, List.set_cons_succ]
            refine wpAnyH_take (i := 16) (v := ?_) (by simp only [List.getElem?_toArray, List.getElem?_cons_succ, List.getElem?_cons_zero] <;> exact rfl) (by kernel_rfl) (by kernel_rfl) (by kernel_rfl) (fun _ _ _ h => h) (Or.inl ⟨by rfl, ?_⟩) hS ?_
            rotate_left
            focus (intro w' hw'; go_simp; all_goals with_reducible rfl)
            try simp only [Act.put, List.setIfInBounds_toArray, List.set_cons_zero, List.set_cons_succ]
            refine wpAnyH_take (i := 17) (v := ?_) (by simp only [List.getElem?_toArray, List.getElem?_cons_succ, List.getElem?_cons_zero] <;> exact rfl) (by kernel_rfl) (by kernel_rfl) (by kernel_rfl) (fun _ _ _ h => h) (Or.inl ⟨by rfl, ?_⟩) hS ?_
            rotate_left
            focus (intro w' hw'; go_simp; all_goals with_reducible rfl)
            try simp only [Act.put, List.setIfInBounds_toArray, List.set_cons_zero, List.set_cons_succ]
            refine wpAnyH_done (by kernel_rfl) ?_ _
            refine NoPanic.normal ?_
            go_wp2
            go_ret
            exact ⟨rfl, HB3.out.trans (hS.mono HB3.out.size)⟩)
          exact AllReadyH.nil)
        exact AllReadyH.nil
  · have hm' : (60 : Int) < (m : Int) := by omega
    clear hl
    go_enter Try.func4, Try.ntmps4
    go_wp2_with fail
    refine (HAW.out _).mono ?_
    rintro e w4 ⟨rfl, hb4⟩
    have HB4 := hide hb4
    clear hb4
    go_wp2
    go_ret
    exact ⟨rfl, HB4.out⟩

theorem walk (s0 : Int) (A : Option Addr) (m cp : Nat) (l : List Ev) (w : World) (ws : (Lit.int .u8 s0).wf = true) (hl : EL w A m cp l) (ha : AllE l) :
    Calls Try.prog 4 #[.int .u8 s0, .slice A m cp] w fun e w' => e = .returned (.bool true) ∧ Below w.heap.size w w' :=
  walk_at s0 A m cp l w hl (bounds_u8 ws).1 ha
end Go.Proofs.Ytpjggodcepiagaa.lifeRuns
