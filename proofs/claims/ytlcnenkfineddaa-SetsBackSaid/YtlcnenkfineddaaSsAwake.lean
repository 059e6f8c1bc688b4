/-
  Layer 12: what every right program sets (awake).
-/
import Derived.Test.YtlcnenkfineddaaSsApply
import Derived.Test.YtlcnenkfineddaaSsPairs
import Derived.BigGuardPart
namespace Go.Proofs.Ytlcnenkfineddaa
set_option linter.unusedSimpArgs false
set_option linter.unusedVariables false
open Go.RowKit

def awV : Vs := ⟨4096, 1, 7, 65535, 16384, 4294967295⟩
theorem aw_a1 : applyS Vs.first [⟨3, 100⟩, ⟨99, 1⟩, ⟨3, 7⟩] = (awV, 0) := by decide
theorem aw_a2 : applyS awV [⟨1, 5⟩, ⟨4, 2147483648⟩] = (awV, 3) := by decide
theorem aw_a3 : applyS awV [⟨2, 2⟩] = (awV, 1) := by decide
theorem aw_p : pairsS Vs.first awV = [⟨3, 7⟩] := by decide
theorem aw_o : ownS 5 = [⟨3, 5⟩, ⟨6, 1024⟩] := by decide
theorem aw_c1 : chkV awV = 0 := by decide
theorem aw_c2 : chkV Vs.zero = 8 := by decide
theorem aw_all1 : AllP [⟨3, 100⟩, ⟨99, 1⟩, ⟨3, 7⟩] := by intro p hp; simp at hp; rcases hp with rfl | rfl | rfl <;> simp [Pr.ok]
theorem aw_all2 : AllP [⟨1, 5⟩, ⟨4, 2147483648⟩] := by intro p hp; simp at hp; rcases hp with rfl | rfl <;> simp [Pr.ok]
theorem aw_all3 : AllP [⟨2, 2⟩] := by intro p hp; simp at hp; rcases hp with rfl; simp [Pr.ok]
/-- Apply of a row just made. -/
theorem apply_row (v : Vs) (l : List Pr) (cs : Array Value) (hc : (pcs l).toArray = cs) (ha : AllP l) (hl : (l.length : Int) ≤ 1000) (n : Nat) (hn : l.length = n) (r : Vs × Int) (hr : applyS v l = r) (w : World) :
    Calls Try.prog 8 #[.agg v.cs, .slice (some ⟨w.heap.size, 0, none⟩) n n] (w.alloc (.cells cs 47)) (GivesAp .u32 r (w.alloc (.cells cs 47))) := by
  subst hn hr hc
  exact ss_Apply v _ _ _ l _ (pl_blk (BlkIs.new w _ _) (by unfold maxLen; omega)) ha (by omega)

set_option maxRecDepth 100000 in
set_option maxHeartbeats 6400000 in
theorem aw_sets (w : World) : Calls Try.prog 7 #[] w fun e w' => e = .returned (.bool true) ∧ Below w.heap.size w w' := by
  have HF := hide (fun w => ss_First w)
  have HF2 := HF
  have H1 := hide (fun w => apply_row Vs.first _ #[.int .u16 3, .int .u32 100, .int .u16 99, .int .u32 1, .int .u16 3, .int .u32 7] rfl aw_all1 (by simp) 3 rfl _ aw_a1 w)
  have H2 := hide (fun w => apply_row awV _ #[.int .u16 1, .int .u32 5, .int .u16 4, .int .u32 2147483648] rfl aw_all2 (by simp) 2 rfl _ aw_a2 w)
  have H3 := hide (fun w => apply_row awV _ #[.int .u16 2, .int .u32 2] rfl aw_all3 (by simp) 1 rfl _ aw_a3 w)
  have HP := hide (fun w => ss_Pairs Vs.first awV w)
  rw [aw_p] at HP
  have HO := hide (fun w => ss_Own 5 w)
  rw [aw_o] at HO
  have HC1 := hide (fun w => (show Calls Try.prog 10 #[.agg #[.int .i64 4096, .int .i64 1, .int .i64 7, .int .i64 65535, .int .i64 16384, .int .i64 4294967295]] w fun e w' => e = .returned (.int .i64 (chkV awV)) ∧ Below w.heap.size w w' from ss_Check awV w))
  rw [aw_c1] at HC1
  have HC2 := hide (fun w => (show Calls Try.prog 10 #[.agg #[.int .i64 0, .int .i64 0, .int .i64 0, .int .i64 0, .int .i64 0, .int .i64 0]] w fun e w' => e = .returned (.int .i64 (chkV Vs.zero)) ∧ Below w.heap.size w w' from ss_Check Vs.zero w))
  rw [aw_c2] at HC2
  go_enter Try.func7, Try.ntmps7
  go_wp2_with fail
  refine (HF.out _).mono ?_
  rintro e w1 ⟨rfl, hb1⟩
  have B1 := hide hb1
  clear hb1
  go_wp2_with fail
  refine (H1.out _).mono ?_
  rintro e w2 ⟨rfl, hb2⟩
  have B2 := hide ((B1.out.alloc B1.out.size (.cells #[.int .u16 3, .int .u32 100, .int .u16 99, .int .u32 1, .int .u16 3, .int .u32 7] 47)).trans (hb2.mono (by have := B1.out.size; simp; omega)))
  clear hb2 H1 B1
  go_upto_region 2 with (refine wpList_store_new rfl 26 (.tmp 1) (.tmp 16) rfl awV.cs _ 26 rfl rfl ss_size rfl (Vs.cs_one awV) ?_; simp only [Act.put])
  obtain ⟨p, hp⟩ : ∃ p, p = w2.heap.size := ⟨_, rfl⟩
  have P2 := hide (show BlkIs (w2.alloc (.cells awV.cs 26)) p 26 awV.cs by rw [hp]; exact BlkIs.new w2 _ _)
  have B2' := hide (B2.out.alloc B2.out.size (.cells awV.cs 26))
  rw [← hp]
  clear hp B2
  generalize w2.alloc (.cells awV.cs 26) = w2' at *
  go_wp2_with (refine wpList_load_blk rfl 26 (.tmp 1) rfl p rfl 26 awV.cs _ P2.out Try.underlying26 rfl ss_size ?_)
  refine (H2.out _).mono ?_
  rintro e w3 ⟨rfl, hb3⟩
  obtain ⟨q, hq⟩ : ∃ q, q = w3.heap.size := ⟨_, rfl⟩
  have P3 := hide (((P2.out.alloc (.cells #[.int .u16 1, .int .u32 5, .int .u16 4, .int .u32 2147483648] 47)).keep hb3).alloc (.cells awV.cs 26))
  have Q3 := hide (show BlkIs (w3.alloc (.cells awV.cs 26)) q 26 awV.cs by rw [hq]; exact BlkIs.new w3 _ _)
  have B3a := hide ((B2'.out.alloc B2'.out.size (.cells #[.int .u16 1, .int .u32 5, .int .u16 4, .int .u32 2147483648] 47)).trans (hb3.mono (by have := B2'.out.size; simp; omega)))
  have B3 := hide (B3a.out.alloc B3a.out.size (.cells awV.cs 26))
  clear hb3 P2 B2' B3a H2
  go_upto_region 3 with (refine wpList_store_new rfl 26 (.tmp 3) (.tmp 24) rfl awV.cs _ 26 rfl rfl ss_size rfl (Vs.cs_one awV) ?_; simp only [Act.put])
  rw [← hq]
  clear hq
  generalize w3.alloc (.cells awV.cs 26) = w3' at *
  go_wp2_with (refine wpList_load_blk rfl 26 (.tmp 1) rfl p rfl 26 awV.cs _ P3.out Try.underlying26 rfl ss_size ?_)
  refine (H3.out _).mono ?_
  rintro e w4' ⟨rfl, hb4⟩
  have P4 := hide (((P3.out.alloc (.cells #[.int .u16 2, .int .u32 2] 47)).keep hb4).alloc (.cells awV.cs 26))
  have Q4 := hide (((Q3.out.alloc (.cells #[.int .u16 2, .int .u32 2] 47)).keep hb4).alloc (.cells awV.cs 26))
  have B4a := hide ((B3.out.alloc B3.out.size (.cells #[.int .u16 2, .int .u32 2] 47)).trans (hb4.mono (by have := B3.out.size; simp; omega)))
  have B4 := hide (B4a.out.alloc B4a.out.size (.cells awV.cs 26))
  clear hb4 P3 Q3 B3 B4a H3
  go_upto_region 4 with (refine wpList_store_new rfl 26 (.tmp 5) (.tmp 31) rfl awV.cs _ 26 rfl rfl ss_size rfl (Vs.cs_one awV) ?_; simp only [Act.put])
  generalize w4'.alloc (.cells awV.cs 26) = w4 at *
  refine wp_region_noPanic ?_
  refine wp_region_held_drew (S := fun w' => Below w4.heap.size w4 w') (by kernel_rfl) (Below.refl _ _).drew (fun hS => ?_)
  generalize w4.drew = wd at hS ⊢
  refine wpAnyH_take (i := 1) (by simp only [List.getElem?_toArray, List.getElem?_cons_succ, List.getElem?_cons_zero] <;> exact rfl) (by kernel_rfl) (by kernel_rfl) (by kernel_rfl) (fun _ _ _ h => h) (rgs_yields_blk (by rfl) 26 (.tmp 1) (by rfl) p (by rfl) 26 awV.cs _ (fun w' hw' => P4.out.keep hw') Try.underlying26 rfl ss_size) hS ?_
  try simp only [Act.put, List.setIfInBounds_toArray, List.set_cons_zero, List.set_cons_succ]
  refine wpAnyH_ready (rs := [0]) (by kernel_rfl) (by simp) ?_
  refine AllReadyH.cons (o := _) (by simp only [List.getElem?_toArray, List.getElem?_cons_succ, List.getElem?_cons_zero] <;> exact rfl) (fun K hK => ?_) ?_
  focus (
    go_simp
    go_at_call 12
    refine (HF2.out _).mono ?_
    rintro e wr1 ⟨rfl, hb⟩
    have hS := hS.trans (hb.mono hS.size)
    clear hb
    go_wp2_with fail
    refine hK.out _ _ hS (fun _ => ?_)
    clear hK K
    try simp only [Act.put, List.setIfInBounds_toArray, List.set_cons_zero, List.set_cons_succ]
    refine wpAnyH_ready (rs := [2]) (by kernel_rfl) (by simp) ?_
    refine AllReadyH.cons (o := _) (by simp only [List.getElem?_toArray, List.getElem?_cons_succ, List.getElem?_cons_zero] <;> exact rfl) (fun K hK => ?_) ?_
    focus (
      go_simp
      go_at_call 15
      refine (HP.out _).mono ?_
      rintro e wr2 ⟨A1, c1, rfl, hl1, hb⟩
      have hS := hS.trans (hb.mono hS.size)
      clear hb
      go_wp2_with fail
      refine hK.out _ _ hS (fun _ => ?_)
      clear hK K
      try simp only [Act.put, List.setIfInBounds_toArray, List.set_cons_zero, List.set_cons_succ]
      refine wpAnyH_ready (rs := [3]) (by kernel_rfl) (by simp) ?_
      refine AllReadyH.cons (o := _) (by simp only [List.getElem?_toArray, List.getElem?_cons_succ, List.getElem?_cons_zero] <;> exact rfl) (fun K hK => ?_) ?_
      focus (
        go_simp
        go_at_call 17
        refine (HO.out _).mono ?_
        rintro e wr3 ⟨A2, c2, rfl, hl2, hb⟩
        have hS := hS.trans (hb.mono hS.size)
        have hl1' := hl1.keep hb
        clear hb
        go_wp2_with fail
        refine hK.out _ _ hS (fun _ => ?_)
        clear hK K
        try simp only [Act.put, List.setIfInBounds_toArray, List.set_cons_zero, List.set_cons_succ]
        refine wpAnyH_take (i := 4) (v := ?_) (by simp only [List.getElem?_toArray, List.getElem?_cons_succ, List.getElem?_cons_zero] <;> exact rfl) (by kernel_rfl) (by kernel_rfl) (by kernel_rfl) (fun _ _ _ h => h) (Or.inl ⟨by rfl, ?_⟩) hS ?_
        rotate_left
        focus (intro w' hw'; go_simp; all_goals with_reducible rfl)
        try simp only [Act.put, List.setIfInBounds_toArray, List.set_cons_zero, List.set_cons_succ]
        refine wpAnyH_take (i := 5) (v := ?_) (by simp only [List.getElem?_toArray, List.getElem?_cons_succ, List.getElem?_cons_zero] <;> exact rfl) (by kernel_rfl) (by kernel_rfl) (by kernel_rfl) (fun _ _ _ h => h) (Or.inl ⟨by rfl, ?_⟩) hS ?_
        rotate_left
        focus (intro w' hw'; go_simp; all_goals with_reducible rfl)
        try simp only [Act.put, List.setIfInBounds_toArray, List.set_cons_zero, List.set_cons_succ]
        refine wpAnyH_done (by kernel_rfl) ?_ _
        refine NoPanic.normal ?_
        have P5 := hide (P4.out.keep hS)
        have Q5 := hide (Q4.out.keep hS)
        have B5 := hide (B4.out.trans (hS.mono B4.out.size))
        obtain ⟨b1, o1, e1, hb1, x0, x1⟩ := hl1'.at_ 0 _ rfl
        obtain ⟨b2, o2, e2, hb2, y0, y1⟩ := hl2.at_ 0 _ rfl
        obtain ⟨b2', o2', e2', hb2', z0, z1⟩ := hl2.at_ 1 _ rfl
        rw [e2] at e2'
        injection e2' with e2'
        injection e2' with h1 h2
        subst h1 h2 e1 e2
        clear hS hl1 hl1' hl2 P4 Q4 B4
        simp only [Nat.zero_mul, Nat.add_zero, Nat.one_mul] at x0 x1 y0 y1 z0 z1
        have p0 := (P5.out.cell 0).trans (show awV.cs[0]? = some (.int .i64 4096) from rfl)
        have p1 := (P5.out.cell 1).trans (show awV.cs[1]? = some (.int .i64 1) from rfl)
        have p2 := (P5.out.cell 2).trans (show awV.cs[2]? = some (.int .i64 7) from rfl)
        have p3 := (P5.out.cell 3).trans (show awV.cs[3]? = some (.int .i64 65535) from rfl)
        have p4 := (P5.out.cell 4).trans (show awV.cs[4]? = some (.int .i64 16384) from rfl)
        have p5 := (P5.out.cell 5).trans (show awV.cs[5]? = some (.int .i64 4294967295) from rfl)
        have q0 := (Q5.out.cell 0).trans (show awV.cs[0]? = some (.int .i64 4096) from rfl)
        have q1 := (Q5.out.cell 1).trans (show awV.cs[1]? = some (.int .i64 1) from rfl)
        have q2 := (Q5.out.cell 2).trans (show awV.cs[2]? = some (.int .i64 7) from rfl)
        have q3 := (Q5.out.cell 3).trans (show awV.cs[3]? = some (.int .i64 65535) from rfl)
        have q4 := (Q5.out.cell 4).trans (show awV.cs[4]? = some (.int .i64 16384) from rfl)
        have q5 := (Q5.out.cell 5).trans (show awV.cs[5]? = some (.int .i64 4294967295) from rfl)
        go_wp2_with fail
        clear p0 p1 p2 p3 p4 p5 q0 q1 q2 q3 q4 q5 x0 x1 y0 y1 z0 z1
        refine (HC1.out _).mono ?_
        rintro e w6 ⟨rfl, hb6⟩
        have B6 := hide (B5.out.trans (hb6.mono B5.out.size))
        clear hb6
        go_wp2_with fail
        refine (HC2.out _).mono ?_
        rintro e w7 ⟨rfl, hb7⟩
        have B7 := hide (B6.out.trans (hb7.mono B6.out.size))
        clear hb7
        go_wp2_with fail
        go_ret
        exact ⟨rfl, B7.out⟩)
      exact AllReadyH.nil)
    exact AllReadyH.nil)
  exact AllReadyH.nil
end Go.Proofs.Ytlcnenkfineddaa
