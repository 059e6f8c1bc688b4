/-
  Layer 22: See: the program's.
-/
import Derived.Test.YtjcibpefbfengaaHyCalm
namespace Go.Proofs.Ytjcibpefbfengaa
set_option linter.unusedSimpArgs false
set_option linter.unusedVariables false
open Go.RowKit

theorem kb_belowy {g g' : Nat} {a w w' : World} (h : Below g a w) (hg : g ≤ g') (hgw : g ≤ w.heap.size) (hk : KB (· = g') w w') : Below g a w' :=
  ⟨hk.os.trans h.os, hk.tape.trans h.tape, hk.output.trans h.output, Nat.le_trans h.size hk.size, fun i hi => (hk.block i (by omega) (by omega)).trans (h.block i hi)⟩

set_option maxRecDepth 100000 in
set_option maxHeartbeats 3200000 in
theorem hy_See (x : Hy) (k : Int) (w : World) : Calls Try.prog 10 #[.agg x.cs, .int .i64 k] w fun e w' => e = .returned (.tuple #[.agg (stpH x k).cs, .bool (chgB x k)]) ∧ Below w.heap.size w w' := by
  have HC := hide (fun w => hy_Check x w)
  have HZ := hide (fun w => hy_Zone x k w)
  obtain ⟨g, hg⟩ : ∃ g, g = w.heap.size := ⟨_, rfl⟩
  have HL := hide hg.symm
  have HB := hide (bel2 w (.cells x.cs 24) (.cells nilH.cs 24))
  have HX := hide (show BlkIs _ g _ _ by rw [hg]; exact (BlkIs.new w 24 x.cs).alloc (.cells nilH.cs 24))
  have HN := hide (show BlkIs _ (g + 1) _ _ by rw [hg]; exact new2 w (.cells x.cs 24) 24 nilH.cs)
  simp only [nilH] at HB HX HN
  simp only [show Hy.cs ⟨0, 0, 0, 0, 0, 0, 0⟩ = #[.int .i64 0, .int .i64 0, .int .i64 0, .int .i64 0, .int .i64 0, .int .i64 0, .int .i64 0] from rfl] at HB HX HN
  obtain ⟨w0, hw0⟩ : ∃ w0, w0 = (w.alloc (.cells x.cs 24)).alloc (.cells #[.int .i64 0, .int .i64 0, .int .i64 0, .int .i64 0, .int .i64 0, .int .i64 0, .int .i64 0] 24) := ⟨_, rfl⟩
  rw [← hw0] at HB HX HN
  have HW := hide hw0.symm
  clear hg hw0
  obtain ⟨zs, hzs⟩ : ∃ zs, zs = #[Value.int .i64 0, .int .i64 0, .int .i64 0, .int .i64 0, .int .i64 0, .int .i64 0, .int .i64 0] := ⟨_, rfl⟩
  have hz7 : zs.size = 7 := by rw [hzs]; rfl
  rw [← hzs] at HN
  have HZS := hide hzs.symm
  clear hzs
  cases hok : okH x with
  | false =>
    have HE := hide (stpH_bad (k := k) hok)
    have HG := hide (show chgB x k = false by unfold chgB; rw [stpH_bad hok]; simp)
    rw [HE.out, HG.out]
    rw [chkH_no hok] at HC
    clear hok HZ
    go_enter Try.func10, Try.ntmps10
    go_upto_region 1 with (fail)
    rw [HW.out, HL.out]
    go_wp2_with (refine wpList_load_blk rfl 24 (.tmp 2) rfl g rfl 24 x.cs _ HX.out Try.underlying24 rfl hy_size ?_)
    refine (HC.out _).mono ?_
    rintro e w3 ⟨rfl, hb3⟩
    have HX3 := hide (HX.out.keep hb3)
    have HN3 := hide (HN.out.keep hb3)
    have HB3 := hide (HB.out.trans (hb3.mono HB.out.size))
    clear hb3 HX HN HB HC
    go_wp2_with (first
      | (refine wpList_load_blk rfl 24 (.tmp 2) rfl g rfl 24 x.cs _ HX3.out Try.underlying24 rfl hy_size ?_)
      | (refine wpList_store_blk rfl 24 (.tmp 4) (.tmp 10) rfl (g + 1) x.cs zs 24 rfl rfl HN3.out hy_size hz7 (Hy.cs_one x) ?_))
    exact bodyPost_ret (results_cell_tmp_blk rfl _ _ (g + 1) 24 x.cs _ rfl (HN3.out.row _) Try.underlying24 rfl hy_size _ rfl) rfl ⟨rfl, below_setRow HB3.out (by have := HL.out; omega) _⟩
  | true =>
    have HO := hide (okH_iff.1 hok)
    rw [chkH_yes hok] at HC
    have HOK := hide hok
    clear hok
    by_cases h1 : x.hi < k
    · have HE := hide (stpH_hi HOK.out h1)
      have hz := zonI_hi h1
      obtain ⟨y, hy⟩ : ∃ y, y = stpH x k := ⟨_, rfl⟩
      have HG := hide (show chgB x k = (y.l != x.l) by rw [hy]; rfl)
      rw [← hy]
      have HY := hide (hy.trans HE.out)
      clear hy HE h1
      rw [hz] at HZ
      go_enter Try.func10, Try.ntmps10
      go_upto_region 1 with (fail)
      rw [HW.out, HL.out]
      go_wp2_with (refine wpList_load_blk rfl 24 (.tmp 2) rfl g rfl 24 x.cs _ HX.out Try.underlying24 rfl hy_size ?_)
      refine (HC.out _).mono ?_
      rintro e w3 ⟨rfl, hb3⟩
      have HX3 := hide (HX.out.keep hb3)
      have HN3 := hide (HN.out.keep hb3)
      have HB3 := hide (HB.out.trans (hb3.mono HB.out.size))
      obtain ⟨d0, d1, d2, d3, d4, d5, d6⟩ := cells7 HX3.out
      clear hb3 HX HN HB HC d1 d2 d3 d4 d5 d6
      go_wp2_with (refine wpList_load_blk rfl 24 (.tmp 2) rfl g rfl 24 x.cs _ HX3.out Try.underlying24 rfl hy_size ?_)
      refine (HZ.out _).mono ?_
      rintro e w4 ⟨rfl, hb4⟩
      have HX4 := hide (HX3.out.keep hb4)
      have HN4 := hide (HN3.out.keep hb4)
      have HB4 := hide (HB3.out.trans (hb4.mono HB3.out.size))
      clear hb4 HX3 HN3 HB3 HZ d0
      obtain ⟨d0, d1, d2, d3, d4, d5, d6⟩ := cells7 HX4.out
      clear d2 d3 d4 d5 hz
      have f0 := HX4.out.frozen 0
      have f6 := HX4.out.frozen 6
      have hdv : x.l.tdiv 2 = x.l / 2 := Int.tdiv_eq_ediv_of_nonneg (by have := HO.out.1; have := HO.out.2.2.2.1; omega)
      have hl1 : x.a ≤ x.l := HO.out.2.2.2.1
      have hl2 : x.l ≤ x.b := HO.out.2.2.2.2.1
      have hl3 : x.b ≤ 16 := HO.out.2.2.1
      have hl4 : 1 ≤ x.a := HO.out.1
      have HX5 := hide (show BlkIs _ g _ y.cs by rw [HY.out]; exact ((HX4.out.put 0 (.int .i64 (max (x.l / 2) x.a))).put 6 (.int .i64 0)))
      have HN5 := hide ((HN4.out.far (p := ⟨g, 0, none⟩) (by simp) (.int .i64 (max (x.l / 2) x.a))).far (p := ⟨g, 6, none⟩) (by simp) (.int .i64 0))
      have HB5 := hide ((HB4.out.setCell (p := ⟨g, 0, none⟩) (by have := HL.out; simp; omega) (.int .i64 (max (x.l / 2) x.a))).setCell (p := ⟨g, 6, none⟩) (by have := HL.out; simp; omega) (.int .i64 0))
      go_upto_region 10 with (fail)
      generalize (w4.setCell ⟨g, 0, none⟩ (.int .i64 (max (x.l / 2) x.a))).setCell ⟨g, 6, none⟩ (.int .i64 0) = w5 at *
      clear d0 d1 d6 f0 f6 hdv hl1 hl2 hl3 hl4 HX4 HN4 HB4
      have DD := hide (cells7 (x := y) HX5.out).1
      have hne : ¬ g = g + 1 := by omega
      have hsz : w.heap.size ≤ w5.heap.size := HB5.out.size
      refine wp_region_noPanic ?_
      refine wp_region_held_drew (S := fun w' => KB (· = g + 1) w5 w') (by kernel_rfl) (KB.refl _ _).drew (fun hS => ?_)
      have EX := HN5.out.drew
      generalize hwd : (w5).drew = wd at hS EX ⊢
      clear hwd
      refine wpAnyH_take (i := 0) (by simp only [List.getElem?_toArray, List.getElem?_cons_succ, List.getElem?_cons_zero] <;> exact rfl) (by kernel_rfl) (by kernel_rfl) (by kernel_rfl) (fun _ _ _ h => h) (rgs_yields_blk (by rfl) 24 (.tmp 2) (by rfl) g (by rfl) 24 y.cs _ (fun w' hw' => hw'.blk HX5.out hne) Try.underlying24 rfl hy_size) hS ?_
      try simp only [Act.put, List.setIfInBounds_toArray, List.set_cons_zero, List.set_cons_succ]
      refine wpAnyH_take (i := 1) (v := ?_) (by simp only [List.getElem?_toArray, List.getElem?_cons_succ, List.getElem?_cons_zero] <;> exact rfl) (by kernel_rfl) (by kernel_rfl) (by kernel_rfl) (fun _ _ _ h => h) (Or.inl ⟨by rfl, ?_⟩) hS ?_
      rotate_left
      focus (intro w' hw'; go_simp; all_goals with_reducible rfl)
      try simp only [Act.put, List.setIfInBounds_toArray, List.set_cons_zero, List.set_cons_succ]
      refine wpAnyH_take (i := 2) (v := ?_) (by simp only [List.getElem?_toArray, List.getElem?_cons_succ, List.getElem?_cons_zero] <;> exact rfl) (by kernel_rfl) (by kernel_rfl) (by kernel_rfl) (fun _ _ _ h => h) (Or.inl ⟨by rfl, ?_⟩) hS ?_
      rotate_left
      focus (intro w' hw'; have kk := (hw'.cell (p := ⟨g, 0, none⟩) (HX5.out.lt) hne).trans DD.out; go_simp; all_goals with_reducible rfl)
      try simp only [Act.put, List.setIfInBounds_toArray, List.set_cons_zero, List.set_cons_succ]
      refine wpAnyH_take (i := 3) (v := ?_) (by simp only [List.getElem?_toArray, List.getElem?_cons_succ, List.getElem?_cons_zero] <;> exact rfl) (by kernel_rfl) (by kernel_rfl) (by kernel_rfl) (fun _ _ _ h => h) (Or.inl ⟨by rfl, ?_⟩) hS ?_
      rotate_left
      focus (intro w' hw'; go_simp; all_goals with_reducible rfl)
      try simp only [Act.put, List.setIfInBounds_toArray, List.set_cons_zero, List.set_cons_succ]
      refine wpAnyH_take (i := 4) (v := ?_) (by simp only [List.getElem?_toArray, List.getElem?_cons_succ, List.getElem?_cons_zero] <;> exact rfl) (by kernel_rfl) (by kernel_rfl) (by kernel_rfl) (fun _ _ _ h => h) (Or.inl ⟨by rfl, ?_⟩) hS ?_
      rotate_left
      focus (intro w' hw'; go_simp; all_goals with_reducible rfl)
      try simp only [Act.put, List.setIfInBounds_toArray, List.set_cons_zero, List.set_cons_succ]
      refine wpAnyH_ready (rs := [5]) (by kernel_rfl) (by simp) ?_
      refine AllReadyH.cons (o := _) (by simp only [List.getElem?_toArray, List.getElem?_cons_succ, List.getElem?_cons_zero] <;> exact rfl) (fun K hK => ?_) AllReadyH.nil
      refine rgs_store_blk (by rfl) 24 (.tmp 4) (.tmp 31) (by rfl) (g + 1) y.cs zs 24 (by rfl) (by rfl) EX hy_size hz7 (Hy.cs_one y) ?_
      have hS := hS.setRow (fun _ => rfl) y.cs
      have EX := EX.row y.cs
      refine hK.out _ _ hS (fun _ => ?_)
      generalize wd.setRow (g + 1) y.cs = ws at hS EX ⊢
      clear hK K
      try simp only [Act.put, List.setIfInBounds_toArray, List.set_cons_zero, List.set_cons_succ]
      refine wpAnyH_take (i := 6) (v := ?_) (by simp only [List.getElem?_toArray, List.getElem?_cons_succ, List.getElem?_cons_zero] <;> exact rfl) (by kernel_rfl) (by kernel_rfl) (by kernel_rfl) (fun _ _ _ h => h) (Or.inl ⟨by rfl, ?_⟩) hS ?_
      rotate_left
      focus (intro w' hw'; go_simp; all_goals with_reducible rfl)
      try simp only [Act.put, List.setIfInBounds_toArray, List.set_cons_zero, List.set_cons_succ]
      refine wpAnyH_done (by kernel_rfl) ?_ _
      refine NoPanic.normal ?_
      go_wp2
      refine bodyPost_ret (results_cell_tmp_blk rfl _ _ (g + 1) 24 y.cs _ rfl EX Try.underlying24 rfl hy_size _ rfl) rfl ?_
      exact ⟨by rw [HG.out]; rfl, kb_belowy HB5.out (by have := HL.out; omega) hsz hS⟩
    by_cases h2 : k < x.lo
    · have HE := hide (stpH_lo HOK.out h1 h2)
      have hz := zonI_lo h1 h2
      obtain ⟨y, hy⟩ : ∃ y, y = stpH x k := ⟨_, rfl⟩
      have HG := hide (show chgB x k = (y.l != x.l) by rw [hy]; rfl)
      rw [← hy]
      have HQ := hide (fun w => hy_calmer x w HO.out)
      rw [← HE.out, ← hy] at HQ
      clear hy HE h1 h2
      rw [hz] at HZ
      go_enter Try.func10, Try.ntmps10
      go_upto_region 1 with (fail)
      rw [HW.out, HL.out]
      go_wp2_with (refine wpList_load_blk rfl 24 (.tmp 2) rfl g rfl 24 x.cs _ HX.out Try.underlying24 rfl hy_size ?_)
      refine (HC.out _).mono ?_
      rintro e w3 ⟨rfl, hb3⟩
      have HX3 := hide (HX.out.keep hb3)
      have HN3 := hide (HN.out.keep hb3)
      have HB3 := hide (HB.out.trans (hb3.mono HB.out.size))
      obtain ⟨d0, d1, d2, d3, d4, d5, d6⟩ := cells7 HX3.out
      clear hb3 HX HN HB HC d1 d2 d3 d4 d5 d6
      go_wp2_with (refine wpList_load_blk rfl 24 (.tmp 2) rfl g rfl 24 x.cs _ HX3.out Try.underlying24 rfl hy_size ?_)
      refine (HZ.out _).mono ?_
      rintro e w4 ⟨rfl, hb4⟩
      have HX4 := hide (HX3.out.keep hb4)
      have HN4 := hide (HN3.out.keep hb4)
      have HB4 := hide (HB3.out.trans (hb4.mono HB3.out.size))
      clear hb4 HX3 HN3 HB3 HZ d0
      clear hz
      go_wp2_with (refine wpList_load_blk rfl 24 (.tmp 2) rfl g rfl 24 x.cs _ HX4.out Try.underlying24 rfl hy_size ?_)
      refine (HQ.out _).mono ?_
      rintro e w5 ⟨rfl, hb5⟩
      have HX5 := hide (HX4.out.keep hb5)
      have HN5 := hide ((HN4.out.keep hb5).row_other (g' := g) (by omega) y.cs)
      have HB5 := hide (below_setRow (HB4.out.trans (hb5.mono HB4.out.size)) (g := g) (by rw [HL.out]; exact Nat.le_refl _) y.cs)
      have HX6 := hide (HX5.out.row y.cs)
      clear hb5 HX4 HN4 HB4
      go_upto_region 10 with (refine wpList_store_blk rfl 24 (.tmp 2) (.tmp 30) rfl g y.cs x.cs 24 rfl rfl HX5.out hy_size rfl (Hy.cs_one y) ?_)
      generalize w5.setRow g y.cs = w6 at *
      clear HX5
      have DD := hide (cells7 (x := y) HX6.out).1
      have hne : ¬ g = g + 1 := by omega
      have hsz : w.heap.size ≤ w6.heap.size := HB5.out.size
      refine wp_region_noPanic ?_
      refine wp_region_held_drew (S := fun w' => KB (· = g + 1) w6 w') (by kernel_rfl) (KB.refl _ _).drew (fun hS => ?_)
      have EX := HN5.out.drew
      generalize hwd : (w6).drew = wd at hS EX ⊢
      clear hwd
      refine wpAnyH_take (i := 0) (by simp only [List.getElem?_toArray, List.getElem?_cons_succ, List.getElem?_cons_zero] <;> exact rfl) (by kernel_rfl) (by kernel_rfl) (by kernel_rfl) (fun _ _ _ h => h) (rgs_yields_blk (by rfl) 24 (.tmp 2) (by rfl) g (by rfl) 24 y.cs _ (fun w' hw' => hw'.blk HX6.out hne) Try.underlying24 rfl hy_size) hS ?_
      try simp only [Act.put, List.setIfInBounds_toArray, List.set_cons_zero, List.set_cons_succ]
      refine wpAnyH_take (i := 1) (v := ?_) (by simp only [List.getElem?_toArray, List.getElem?_cons_succ, List.getElem?_cons_zero] <;> exact rfl) (by kernel_rfl) (by kernel_rfl) (by kernel_rfl) (fun _ _ _ h => h) (Or.inl ⟨by rfl, ?_⟩) hS ?_
      rotate_left
      focus (intro w' hw'; go_simp; all_goals with_reducible rfl)
      try simp only [Act.put, List.setIfInBounds_toArray, List.set_cons_zero, List.set_cons_succ]
      refine wpAnyH_take (i := 2) (v := ?_) (by simp only [List.getElem?_toArray, List.getElem?_cons_succ, List.getElem?_cons_zero] <;> exact rfl) (by kernel_rfl) (by kernel_rfl) (by kernel_rfl) (fun _ _ _ h => h) (Or.inl ⟨by rfl, ?_⟩) hS ?_
      rotate_left
      focus (intro w' hw'; have kk := (hw'.cell (p := ⟨g, 0, none⟩) (HX6.out.lt) hne).trans DD.out; go_simp; all_goals with_reducible rfl)
      try simp only [Act.put, List.setIfInBounds_toArray, List.set_cons_zero, List.set_cons_succ]
      refine wpAnyH_take (i := 3) (v := ?_) (by simp only [List.getElem?_toArray, List.getElem?_cons_succ, List.getElem?_cons_zero] <;> exact rfl) (by kernel_rfl) (by kernel_rfl) (by kernel_rfl) (fun _ _ _ h => h) (Or.inl ⟨by rfl, ?_⟩) hS ?_
      rotate_left
      focus (intro w' hw'; go_simp; all_goals with_reducible rfl)
      try simp only [Act.put, List.setIfInBounds_toArray, List.set_cons_zero, List.set_cons_succ]
      refine wpAnyH_take (i := 4) (v := ?_) (by simp only [List.getElem?_toArray, List.getElem?_cons_succ, List.getElem?_cons_zero] <;> exact rfl) (by kernel_rfl) (by kernel_rfl) (by kernel_rfl) (fun _ _ _ h => h) (Or.inl ⟨by rfl, ?_⟩) hS ?_
      rotate_left
      focus (intro w' hw'; go_simp; all_goals with_reducible rfl)
      try simp only [Act.put, List.setIfInBounds_toArray, List.set_cons_zero, List.set_cons_succ]
      refine wpAnyH_ready (rs := [5]) (by kernel_rfl) (by simp) ?_
      refine AllReadyH.cons (o := _) (by simp only [List.getElem?_toArray, List.getElem?_cons_succ, List.getElem?_cons_zero] <;> exact rfl) (fun K hK => ?_) AllReadyH.nil
      refine rgs_store_blk (by rfl) 24 (.tmp 4) (.tmp 31) (by rfl) (g + 1) y.cs zs 24 (by rfl) (by rfl) EX hy_size hz7 (Hy.cs_one y) ?_
      have hS := hS.setRow (fun _ => rfl) y.cs
      have EX := EX.row y.cs
      refine hK.out _ _ hS (fun _ => ?_)
      generalize wd.setRow (g + 1) y.cs = ws at hS EX ⊢
      clear hK K
      try simp only [Act.put, List.setIfInBounds_toArray, List.set_cons_zero, List.set_cons_succ]
      refine wpAnyH_take (i := 6) (v := ?_) (by simp only [List.getElem?_toArray, List.getElem?_cons_succ, List.getElem?_cons_zero] <;> exact rfl) (by kernel_rfl) (by kernel_rfl) (by kernel_rfl) (fun _ _ _ h => h) (Or.inl ⟨by rfl, ?_⟩) hS ?_
      rotate_left
      focus (intro w' hw'; go_simp; all_goals with_reducible rfl)
      try simp only [Act.put, List.setIfInBounds_toArray, List.set_cons_zero, List.set_cons_succ]
      refine wpAnyH_done (by kernel_rfl) ?_ _
      refine NoPanic.normal ?_
      go_wp2
      refine bodyPost_ret (results_cell_tmp_blk rfl _ _ (g + 1) 24 y.cs _ rfl EX Try.underlying24 rfl hy_size _ rfl) rfl ?_
      exact ⟨by rw [HG.out]; rfl, kb_belowy HB5.out (by have := HL.out; omega) hsz hS⟩
    · have HE := hide (stpH_mid HOK.out h1 h2)
      have hz := zonI_mid h1 h2
      obtain ⟨y, hy⟩ : ∃ y, y = stpH x k := ⟨_, rfl⟩
      have HG := hide (show chgB x k = (y.l != x.l) by rw [hy]; rfl)
      rw [← hy]
      have HY := hide (hy.trans HE.out)
      clear hy HE h1 h2
      rw [hz] at HZ
      go_enter Try.func10, Try.ntmps10
      go_upto_region 1 with (fail)
      rw [HW.out, HL.out]
      go_wp2_with (refine wpList_load_blk rfl 24 (.tmp 2) rfl g rfl 24 x.cs _ HX.out Try.underlying24 rfl hy_size ?_)
      refine (HC.out _).mono ?_
      rintro e w3 ⟨rfl, hb3⟩
      have HX3 := hide (HX.out.keep hb3)
      have HN3 := hide (HN.out.keep hb3)
      have HB3 := hide (HB.out.trans (hb3.mono HB.out.size))
      obtain ⟨d0, d1, d2, d3, d4, d5, d6⟩ := cells7 HX3.out
      clear hb3 HX HN HB HC d1 d2 d3 d4 d5 d6
      go_wp2_with (refine wpList_load_blk rfl 24 (.tmp 2) rfl g rfl 24 x.cs _ HX3.out Try.underlying24 rfl hy_size ?_)
      refine (HZ.out _).mono ?_
      rintro e w4 ⟨rfl, hb4⟩
      have HX4 := hide (HX3.out.keep hb4)
      have HN4 := hide (HN3.out.keep hb4)
      have HB4 := hide (HB3.out.trans (hb4.mono HB3.out.size))
      clear hb4 HX3 HN3 HB3 HZ d0
      obtain ⟨d0, d1, d2, d3, d4, d5, d6⟩ := cells7 HX4.out
      clear d0 d1 d2 d3 d4 d5 hz
      have f6 := HX4.out.frozen 6
      have HX5 := hide (show BlkIs _ g _ y.cs by rw [HY.out]; exact HX4.out.put 6 (.int .i64 0))
      have HN5 := hide (HN4.out.far (p := ⟨g, 6, none⟩) (by simp) (.int .i64 0))
      have HB5 := hide (HB4.out.setCell (p := ⟨g, 6, none⟩) (by have := HL.out; simp; omega) (.int .i64 0))
      go_upto_region 10 with (fail)
      generalize w4.setCell ⟨g, 6, none⟩ (.int .i64 0) = w5 at *
      clear d6 f6 HX4 HN4 HB4
      have DD := hide (cells7 (x := y) HX5.out).1
      have hne : ¬ g = g + 1 := by omega
      have hsz : w.heap.size ≤ w5.heap.size := HB5.out.size
      refine wp_region_noPanic ?_
      refine wp_region_held_drew (S := fun w' => KB (· = g + 1) w5 w') (by kernel_rfl) (KB.refl _ _).drew (fun hS => ?_)
      have EX := HN5.out.drew
      generalize hwd : (w5).drew = wd at hS EX ⊢
      clear hwd
      refine wpAnyH_take (i := 0) (by simp only [List.getElem?_toArray, List.getElem?_cons_succ, List.getElem?_cons_zero] <;> exact rfl) (by kernel_rfl) (by kernel_rfl) (by kernel_rfl) (fun _ _ _ h => h) (rgs_yields_blk (by rfl) 24 (.tmp 2) (by rfl) g (by rfl) 24 y.cs _ (fun w' hw' => hw'.blk HX5.out hne) Try.underlying24 rfl hy_size) hS ?_
      try simp only [Act.put, List.setIfInBounds_toArray, List.set_cons_zero, List.set_cons_succ]
      refine wpAnyH_take (i := 1) (v := ?_) (by simp only [List.getElem?_toArray, List.getElem?_cons_succ, List.getElem?_cons_zero] <;> exact rfl) (by kernel_rfl) (by kernel_rfl) (by kernel_rfl) (fun _ _ _ h => h) (Or.inl ⟨by rfl, ?_⟩) hS ?_
      rotate_left
      focus (intro w' hw'; go_simp; all_goals with_reducible rfl)
      try simp only [Act.put, List.setIfInBounds_toArray, List.set_cons_zero, List.set_cons_succ]
      refine wpAnyH_take (i := 2) (v := ?_) (by simp only [List.getElem?_toArray, List.getElem?_cons_succ, List.getElem?_cons_zero] <;> exact rfl) (by kernel_rfl) (by kernel_rfl) (by kernel_rfl) (fun _ _ _ h => h) (Or.inl ⟨by rfl, ?_⟩) hS ?_
      rotate_left
      focus (intro w' hw'; have kk := (hw'.cell (p := ⟨g, 0, none⟩) (HX5.out.lt) hne).trans DD.out; go_simp; all_goals with_reducible rfl)
      try simp only [Act.put, List.setIfInBounds_toArray, List.set_cons_zero, List.set_cons_succ]
      refine wpAnyH_take (i := 3) (v := ?_) (by simp only [List.getElem?_toArray, List.getElem?_cons_succ, List.getElem?_cons_zero] <;> exact rfl) (by kernel_rfl) (by kernel_rfl) (by kernel_rfl) (fun _ _ _ h => h) (Or.inl ⟨by rfl, ?_⟩) hS ?_
      rotate_left
      focus (intro w' hw'; go_simp; all_goals with_reducible rfl)
      try simp only [Act.put, List.setIfInBounds_toArray, List.set_cons_zero, List.set_cons_succ]
      refine wpAnyH_take (i := 4) (v := ?_) (by simp only [List.getElem?_toArray, List.getElem?_cons_succ, List.getElem?_cons_zero] <;> exact rfl) (by kernel_rfl) (by kernel_rfl) (by kernel_rfl) (fun _ _ _ h => h) (Or.inl ⟨by rfl, ?_⟩) hS ?_
      rotate_left
      focus (intro w' hw'; go_simp; all_goals with_reducible rfl)
      try simp only [Act.put, List.setIfInBounds_toArray, List.set_cons_zero, List.set_cons_succ]
      refine wpAnyH_ready (rs := [5]) (by kernel_rfl) (by simp) ?_
      refine AllReadyH.cons (o := _) (by simp only [List.getElem?_toArray, List.getElem?_cons_succ, List.getElem?_cons_zero] <;> exact rfl) (fun K hK => ?_) AllReadyH.nil
      refine rgs_store_blk (by rfl) 24 (.tmp 4) (.tmp 31) (by rfl) (g + 1) y.cs zs 24 (by rfl) (by rfl) EX hy_size hz7 (Hy.cs_one y) ?_
      have hS := hS.setRow (fun _ => rfl) y.cs
      have EX := EX.row y.cs
      refine hK.out _ _ hS (fun _ => ?_)
      generalize wd.setRow (g + 1) y.cs = ws at hS EX ⊢
      clear hK K
      try simp only [Act.put, List.setIfInBounds_toArray, List.set_cons_zero, List.set_cons_succ]
      refine wpAnyH_take (i := 6) (v := ?_) (by simp only [List.getElem?_toArray, List.getElem?_cons_succ, List.getElem?_cons_zero] <;> exact rfl) (by kernel_rfl) (by kernel_rfl) (by kernel_rfl) (fun _ _ _ h => h) (Or.inl ⟨by rfl, ?_⟩) hS ?_
      rotate_left
      focus (intro w' hw'; go_simp; all_goals with_reducible rfl)
      try simp only [Act.put, List.setIfInBounds_toArray, List.set_cons_zero, List.set_cons_succ]
      refine wpAnyH_done (by kernel_rfl) ?_ _
      refine NoPanic.normal ?_
      go_wp2
      refine bodyPost_ret (results_cell_tmp_blk rfl _ _ (g + 1) 24 y.cs _ rfl EX Try.underlying24 rfl hy_size _ rfl) rfl ?_
      exact ⟨by rw [HG.out]; rfl, kb_belowy HB5.out (by have := HL.out; omega) hsz hS⟩
end Go.Proofs.Ytjcibpefbfengaa
