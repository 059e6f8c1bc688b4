/-
  Layer 25: New, Wake: the program's and the document's.
-/
import Derived.Test.YtlondjmklnehhaaTgSmall
import Derived.Lib.MinMax
import Derived.Test.YtlondjmklnehhaaRegW
import Derived.Deep.Cut
namespace Go.Proofs.Ytlondjmklnehhaa
set_option linter.unusedSimpArgs false
set_option linter.unusedVariables false
open Go.RowKit

set_option maxRecDepth 100000 in
set_option maxHeartbeats 1600000 in
theorem tg_New (a : Int) (w : World) : Calls Try.prog 11 #[.int .i64 a] w fun e w' => e = .returned (.tuple #[.agg (newT a).1.cs, .int .i64 (newT a).2]) ∧ Below w.heap.size w w' := by
  have HC := hide (fun w => tg_Check ⟨a, 0, 0, 0⟩ w)
  simp only [Tg.cs] at HC
  obtain ⟨g, hg⟩ : ∃ g, g = w.heap.size := ⟨_, rfl⟩
  have HL := hide hg.symm
  have HB := hide (bel2 w (.cells #[.int .i64 0, .int .i64 0, .int .i64 0, .int .i64 0] 24) (.cells #[.int .i64 a, .int .i64 0, .int .i64 0, .int .i64 0] 24))
  have HZ := hide (show BlkIs _ g _ _ by rw [hg]; exact (BlkIs.new w 24 #[.int .i64 0, .int .i64 0, .int .i64 0, .int .i64 0]).alloc (.cells #[.int .i64 a, .int .i64 0, .int .i64 0, .int .i64 0] 24))
  have HX := hide (show BlkIs _ (g + 1) _ _ by rw [hg]; exact new2 w (.cells #[.int .i64 0, .int .i64 0, .int .i64 0, .int .i64 0] 24) 24 #[.int .i64 a, .int .i64 0, .int .i64 0, .int .i64 0])
  clear hg
  by_cases h : WtI a
  · have HNN := hide (newT_yes h)
    rw [chkT_yes ((new_ok a).2 h)] at HC
    clear h
    go_enter Try.func11, Try.ntmps11
    go_wp2_with (refine wpList_load_blk rfl 24 (.tmp 4) rfl (g + 1) (by rw [← HL.out]; rfl) 24 #[.int .i64 a, .int .i64 0, .int .i64 0, .int .i64 0] _ HX.out Try.underlying24 rfl tg_size ?_)
    rw [HL.out]
    refine (HC.out _).mono ?_
    rintro e w3 ⟨rfl, hb3⟩
    have HX3 := hide (HX.out.keep hb3)
    have HZ3 := hide (HZ.out.keep hb3)
    have HB3 := hide (HB.out.trans (hb3.mono HB.out.size))
    clear hb3 HX HZ HB HC
    go_wp2_with (first
      | (refine wpList_load_blk rfl 24 (.tmp 4) rfl (g + 1) rfl 24 #[.int .i64 a, .int .i64 0, .int .i64 0, .int .i64 0] _ HX3.out Try.underlying24 rfl tg_size ?_)
      | (refine wpList_store_blk rfl 24 (.tmp 2) (.tmp 14) rfl g #[.int .i64 a, .int .i64 0, .int .i64 0, .int .i64 0] _ 24 rfl rfl HZ3.out tg_size rfl (by simp [Value.oneCell']) ?_))
    exact bodyPost_ret (results_cell_tmp_blk rfl _ _ g 24 #[.int .i64 a, .int .i64 0, .int .i64 0, .int .i64 0] _ rfl (HZ3.out.row _) Try.underlying24 rfl tg_size _ rfl) rfl ⟨by rw [HNN.out]; rfl, below_setRow HB3.out (by have := HL.out; omega) _⟩
  · have HNN := hide (newT_no h)
    rw [chkT_no (fun q => h ((new_ok a).1 q))] at HC
    clear h
    go_enter Try.func11, Try.ntmps11
    go_wp2_with (refine wpList_load_blk rfl 24 (.tmp 4) rfl (g + 1) (by rw [← HL.out]; rfl) 24 #[.int .i64 a, .int .i64 0, .int .i64 0, .int .i64 0] _ HX.out Try.underlying24 rfl tg_size ?_)
    rw [HL.out]
    refine (HC.out _).mono ?_
    rintro e w3 ⟨rfl, hb3⟩
    have HX3 := hide (HX.out.keep hb3)
    have HZ3 := hide (HZ.out.keep hb3)
    have HB3 := hide (HB.out.trans (hb3.mono HB.out.size))
    clear hb3 HX HZ HB HC
    go_wp2_with (first
      | (refine wpList_store_blk rfl 24 (.tmp 2) (.tmp 12) rfl g nilT.cs _ 24 rfl rfl HZ3.out tg_size rfl (Tg.cs_one nilT) ?_))
    exact bodyPost_ret (results_cell_tmp_blk rfl _ _ g 24 nilT.cs _ rfl (HZ3.out.row _) Try.underlying24 rfl tg_size _ rfl) rfl ⟨by rw [HNN.out]; rfl, below_setRow HB3.out (by have := HL.out; omega) _⟩

set_option maxRecDepth 100000 in
set_option maxHeartbeats 1600000 in
theorem rt_New (a : Int) (w : World) : Calls Try.prog 12 #[.int .i64 a] w fun e w' => e = .returned (.tuple #[.agg (newT a).1.cs, .int .i64 (newT a).2]) ∧ Below w.heap.size w w' := by
  have HC := hide (fun w => rt_Check ⟨a, 0, 0, 0⟩ w)
  simp only [Tg.cs] at HC
  obtain ⟨g, hg⟩ : ∃ g, g = w.heap.size := ⟨_, rfl⟩
  have HL := hide hg.symm
  have HB := hide (bel2 w (.cells #[.int .i64 0, .int .i64 0, .int .i64 0, .int .i64 0] 23) (.cells #[.int .i64 a, .int .i64 0, .int .i64 0, .int .i64 0] 23))
  have HZ := hide (show BlkIs _ g _ _ by rw [hg]; exact (BlkIs.new w 23 #[.int .i64 0, .int .i64 0, .int .i64 0, .int .i64 0]).alloc (.cells #[.int .i64 a, .int .i64 0, .int .i64 0, .int .i64 0] 23))
  have HX := hide (show BlkIs _ (g + 1) _ _ by rw [hg]; exact new2 w (.cells #[.int .i64 0, .int .i64 0, .int .i64 0, .int .i64 0] 23) 23 #[.int .i64 a, .int .i64 0, .int .i64 0, .int .i64 0])
  clear hg
  by_cases h : WtI a
  · have HNN := hide (newT_yes h)
    rw [chkT_yes ((new_ok a).2 h)] at HC
    clear h
    go_enter Try.func12, Try.ntmps12
    go_wp2_with (refine wpList_load_blk rfl 23 (.tmp 4) rfl (g + 1) (by rw [← HL.out]; rfl) 23 #[.int .i64 a, .int .i64 0, .int .i64 0, .int .i64 0] _ HX.out Try.underlying23 rfl rt_size ?_)
    rw [HL.out]
    refine (HC.out _).mono ?_
    rintro e w3 ⟨rfl, hb3⟩
    have HX3 := hide (HX.out.keep hb3)
    have HZ3 := hide (HZ.out.keep hb3)
    have HB3 := hide (HB.out.trans (hb3.mono HB.out.size))
    clear hb3 HX HZ HB HC
    go_wp2_with (first
      | (refine wpList_load_blk rfl 23 (.tmp 4) rfl (g + 1) rfl 23 #[.int .i64 a, .int .i64 0, .int .i64 0, .int .i64 0] _ HX3.out Try.underlying23 rfl rt_size ?_)
      | (refine wpList_store_blk rfl 23 (.tmp 2) (.tmp 14) rfl g #[.int .i64 a, .int .i64 0, .int .i64 0, .int .i64 0] _ 23 rfl rfl HZ3.out rt_size rfl (by simp [Value.oneCell']) ?_))
    exact bodyPost_ret (results_cell_tmp_blk rfl _ _ g 23 #[.int .i64 a, .int .i64 0, .int .i64 0, .int .i64 0] _ rfl (HZ3.out.row _) Try.underlying23 rfl rt_size _ rfl) rfl ⟨by rw [HNN.out]; rfl, below_setRow HB3.out (by have := HL.out; omega) _⟩
  · have HNN := hide (newT_no h)
    rw [chkT_no (fun q => h ((new_ok a).1 q))] at HC
    clear h
    go_enter Try.func12, Try.ntmps12
    go_wp2_with (refine wpList_load_blk rfl 23 (.tmp 4) rfl (g + 1) (by rw [← HL.out]; rfl) 23 #[.int .i64 a, .int .i64 0, .int .i64 0, .int .i64 0] _ HX.out Try.underlying23 rfl rt_size ?_)
    rw [HL.out]
    refine (HC.out _).mono ?_
    rintro e w3 ⟨rfl, hb3⟩
    have HX3 := hide (HX.out.keep hb3)
    have HZ3 := hide (HZ.out.keep hb3)
    have HB3 := hide (HB.out.trans (hb3.mono HB.out.size))
    clear hb3 HX HZ HB HC
    go_wp2_with (first
      | (refine wpList_store_blk rfl 23 (.tmp 2) (.tmp 12) rfl g nilT.cs _ 23 rfl rfl HZ3.out rt_size rfl (Tg.cs_one nilT) ?_))
    exact bodyPost_ret (results_cell_tmp_blk rfl _ _ g 23 nilT.cs _ rfl (HZ3.out.row _) Try.underlying23 rfl rt_size _ rfl) rfl ⟨by rw [HNN.out]; rfl, below_setRow HB3.out (by have := HL.out; omega) _⟩

set_option maxRecDepth 100000 in
set_option maxHeartbeats 1600000 in
theorem tg_Wake (v : Int) (t : Tg) (w : World) : Calls Try.prog 13 #[.int .i64 v, .agg t.cs] w fun e w' => e = .returned (.agg (wakT v t).cs) ∧ Below w.heap.size w w' := by
  have HC := hide (fun w => tg_Check t w)
  have HI := hide (fun n w => tg_isTime n w)
  obtain ⟨g, hg⟩ : ∃ g, g = w.heap.size := ⟨_, rfl⟩
  have HL := hide hg.symm
  obtain ⟨a, s, f, k⟩ := t
  simp only [Tg.cs] at HC ⊢
  have HB := hide (bel2 w (.cells #[.int .i64 a, .int .i64 s, .int .i64 f, .int .i64 k] 24) (.cells #[.int .i64 0, .int .i64 0, .int .i64 0, .int .i64 0] 24))
  have HX := hide (show BlkIs _ g _ _ by rw [hg]; exact (BlkIs.new w 24 #[.int .i64 a, .int .i64 s, .int .i64 f, .int .i64 k]).alloc (.cells #[.int .i64 0, .int .i64 0, .int .i64 0, .int .i64 0] 24))
  have HZ := hide (show BlkIs _ (g + 1) _ _ by rw [hg]; exact new2 w (.cells #[.int .i64 a, .int .i64 s, .int .i64 f, .int .i64 k] 24) 24 #[.int .i64 0, .int .i64 0, .int .i64 0, .int .i64 0])
  clear hg
  by_cases h : Tg.Ok ⟨a, s, f, k⟩
  · by_cases h2 : inT 0 2305843009213693952 v = true
    · have HNN := hide (wakT_yes (v := v) (t := ⟨a, s, f, k⟩) h (inT_yes.1 h2))
      rw [chkT_yes h] at HC
      clear h
      obtain ⟨m, hm⟩ : ∃ m, m = max v f := ⟨_, rfl⟩
      simp only at HNN
      rw [← hm] at HNN
      have HM := hide hm.symm
      clear hm
      go_enter Try.func13, Try.ntmps13
      go_wp2_with (refine wpList_load_blk rfl 24 (.tmp 3) rfl g (by rw [← HL.out]; rfl) 24 #[.int .i64 a, .int .i64 s, .int .i64 f, .int .i64 k] _ HX.out Try.underlying24 rfl tg_size ?_)
      rw [HL.out]
      refine (HC.out _).mono ?_
      rintro e w3 ⟨rfl, hb3⟩
      have HX3 := hide (HX.out.keep hb3)
      have HZ3 := hide (HZ.out.keep hb3)
      have HB3 := hide (HB.out.trans (hb3.mono HB.out.size))
      clear hb3 HX HZ HB HC
      have HX4 := hide (show BlkIs (w3.setCell ⟨g, 1, none⟩ (.int .i64 m)) g 24 #[.int .i64 a, .int .i64 m, .int .i64 f, .int .i64 k] from HX3.out.put 1 (.int .i64 m))
      have HZ4 := hide (HZ3.out.far (p := ⟨g, 1, none⟩) (by simp) (.int .i64 m))
      have HB4 := hide (HB3.out.setCell (p := ⟨g, 1, none⟩) (by rw [HL.out]; exact Nat.le_refl _) (.int .i64 m))
      obtain ⟨d0, d1, d2, d3⟩ := tcell4 (x := ⟨a, s, f, k⟩) HX3.out
      have ff := HX3.out.frozen 1
      clear HX3 HZ3 HB3
      have e1 : max v f = m := HM.out
      go_upto_region 3 with ((go_at_call 28; refine (HI.out _ _).mono ?_; rintro e w4 ⟨rfl, rfl⟩))
      clear d0 d1 d2 d3 ff e1
      generalize w3.setCell ⟨g, 1, none⟩ (.int .i64 m) = w5 at *
      go_wp2_with (first | (refine wpList_load_blk rfl 24 (.tmp 3) rfl g rfl 24 #[.int .i64 a, .int .i64 m, .int .i64 f, .int .i64 k] _ HX4.out Try.underlying24 rfl tg_size ?_) | (refine wpList_store_blk rfl 24 (.tmp 4) (.tmp 17) rfl (g + 1) #[.int .i64 a, .int .i64 m, .int .i64 f, .int .i64 k] _ 24 rfl rfl HZ4.out tg_size rfl (by simp [Value.oneCell']) ?_))
      exact bodyPost_ret (results_cell_blk rfl _ _ (g + 1) 24 #[.int .i64 a, .int .i64 m, .int .i64 f, .int .i64 k] _ rfl (HZ4.out.row _) Try.underlying24 rfl tg_size) rfl ⟨by rw [HNN.out], below_setRow HB4.out (by have := HL.out; omega) _⟩
    · have h2 : inT 0 2305843009213693952 v = false := by cases q : inT 0 2305843009213693952 v <;> simp_all
      have HNN := hide (wakT_no (v := v) (t := ⟨a, s, f, k⟩) (fun q => by have := inT_yes.2 q.2; rw [h2] at this; cases this))
      rw [chkT_yes h] at HC
      clear h
      go_enter Try.func13, Try.ntmps13
      go_wp2_with (refine wpList_load_blk rfl 24 (.tmp 3) rfl g (by rw [← HL.out]; rfl) 24 #[.int .i64 a, .int .i64 s, .int .i64 f, .int .i64 k] _ HX.out Try.underlying24 rfl tg_size ?_)
      rw [HL.out]
      refine (HC.out _).mono ?_
      rintro e w3 ⟨rfl, hb3⟩
      have HX3 := hide (HX.out.keep hb3)
      have HZ3 := hide (HZ.out.keep hb3)
      have HB3 := hide (HB.out.trans (hb3.mono HB.out.size))
      clear hb3 HX HZ HB HC
      go_wp2_with (first | (go_at_call 28; refine (HI.out _ _).mono ?_; rintro e w4 ⟨rfl, rfl⟩) | (refine wpList_load_blk rfl 24 (.tmp 3) rfl g rfl 24 #[.int .i64 a, .int .i64 s, .int .i64 f, .int .i64 k] _ HX3.out Try.underlying24 rfl tg_size ?_) | (refine wpList_store_blk rfl 24 (.tmp 4) (.tmp 17) rfl (g + 1) #[.int .i64 a, .int .i64 s, .int .i64 f, .int .i64 k] _ 24 rfl rfl HZ3.out tg_size rfl (by simp [Value.oneCell']) ?_))
      exact bodyPost_ret (results_cell_blk rfl _ _ (g + 1) 24 #[.int .i64 a, .int .i64 s, .int .i64 f, .int .i64 k] _ rfl (HZ3.out.row _) Try.underlying24 rfl tg_size) rfl ⟨by rw [HNN.out], below_setRow HB3.out (by have := HL.out; omega) _⟩
  · have HNN := hide (wakT_no (v := v) (t := ⟨a, s, f, k⟩) (fun q => h q.1))
    rw [chkT_no h] at HC
    clear h
    go_enter Try.func13, Try.ntmps13
    go_wp2_with (refine wpList_load_blk rfl 24 (.tmp 3) rfl g (by rw [← HL.out]; rfl) 24 #[.int .i64 a, .int .i64 s, .int .i64 f, .int .i64 k] _ HX.out Try.underlying24 rfl tg_size ?_)
    rw [HL.out]
    refine (HC.out _).mono ?_
    rintro e w3 ⟨rfl, hb3⟩
    have HX3 := hide (HX.out.keep hb3)
    have HZ3 := hide (HZ.out.keep hb3)
    have HB3 := hide (HB.out.trans (hb3.mono HB.out.size))
    clear hb3 HX HZ HB HC
    go_wp2_with (first | (go_at_call 28; refine (HI.out _ _).mono ?_; rintro e w4 ⟨rfl, rfl⟩) | (refine wpList_load_blk rfl 24 (.tmp 3) rfl g rfl 24 #[.int .i64 a, .int .i64 s, .int .i64 f, .int .i64 k] _ HX3.out Try.underlying24 rfl tg_size ?_) | (refine wpList_store_blk rfl 24 (.tmp 4) (.tmp 17) rfl (g + 1) #[.int .i64 a, .int .i64 s, .int .i64 f, .int .i64 k] _ 24 rfl rfl HZ3.out tg_size rfl (by simp [Value.oneCell']) ?_))
    exact bodyPost_ret (results_cell_blk rfl _ _ (g + 1) 24 #[.int .i64 a, .int .i64 s, .int .i64 f, .int .i64 k] _ rfl (HZ3.out.row _) Try.underlying24 rfl tg_size) rfl ⟨by rw [HNN.out], below_setRow HB3.out (by have := HL.out; omega) _⟩

set_option maxRecDepth 100000 in
set_option maxHeartbeats 1600000 in
theorem rt_Wake (v : Int) (t : Tg) (w : World) : Calls Try.prog 14 #[.int .i64 v, .agg t.cs] w fun e w' => e = .returned (.agg (wakT v t).cs) ∧ Below w.heap.size w w' := by
  have HC := hide (fun w => rt_Check t w)
  have HI := hide (fun n w => rt_in n 2305843009213693952 w)
  obtain ⟨g, hg⟩ : ∃ g, g = w.heap.size := ⟨_, rfl⟩
  have HL := hide hg.symm
  obtain ⟨a, s, f, k⟩ := t
  simp only [Tg.cs] at HC ⊢
  have HB := hide (bel2 w (.cells #[.int .i64 a, .int .i64 s, .int .i64 f, .int .i64 k] 23) (.cells #[.int .i64 0, .int .i64 0, .int .i64 0, .int .i64 0] 23))
  have HX := hide (show BlkIs _ g _ _ by rw [hg]; exact (BlkIs.new w 23 #[.int .i64 a, .int .i64 s, .int .i64 f, .int .i64 k]).alloc (.cells #[.int .i64 0, .int .i64 0, .int .i64 0, .int .i64 0] 23))
  have HZ := hide (show BlkIs _ (g + 1) _ _ by rw [hg]; exact new2 w (.cells #[.int .i64 a, .int .i64 s, .int .i64 f, .int .i64 k] 23) 23 #[.int .i64 0, .int .i64 0, .int .i64 0, .int .i64 0])
  clear hg
  by_cases h : Tg.Ok ⟨a, s, f, k⟩
  · by_cases h2 : inT 0 2305843009213693952 v = true
    · have HNN := hide (wakT_yes (v := v) (t := ⟨a, s, f, k⟩) h (inT_yes.1 h2))
      rw [chkT_yes h] at HC
      clear h
      obtain ⟨m, hm⟩ : ∃ m, m = max v f := ⟨_, rfl⟩
      simp only at HNN
      rw [← hm] at HNN
      have HM := hide hm.symm
      clear hm
      go_enter Try.func14, Try.ntmps14
      go_wp2_with (refine wpList_load_blk rfl 23 (.tmp 3) rfl g (by rw [← HL.out]; rfl) 23 #[.int .i64 a, .int .i64 s, .int .i64 f, .int .i64 k] _ HX.out Try.underlying23 rfl rt_size ?_)
      rw [HL.out]
      refine (HC.out _).mono ?_
      rintro e w3 ⟨rfl, hb3⟩
      have HX3 := hide (HX.out.keep hb3)
      have HZ3 := hide (HZ.out.keep hb3)
      have HB3 := hide (HB.out.trans (hb3.mono HB.out.size))
      clear hb3 HX HZ HB HC
      have HX4 := hide (show BlkIs (w3.setCell ⟨g, 1, none⟩ (.int .i64 m)) g 23 #[.int .i64 a, .int .i64 m, .int .i64 f, .int .i64 k] from HX3.out.put 1 (.int .i64 m))
      have HZ4 := hide (HZ3.out.far (p := ⟨g, 1, none⟩) (by simp) (.int .i64 m))
      have HB4 := hide (HB3.out.setCell (p := ⟨g, 1, none⟩) (by rw [HL.out]; exact Nat.le_refl _) (.int .i64 m))
      obtain ⟨d0, d1, d2, d3⟩ := tcell4 (x := ⟨a, s, f, k⟩) HX3.out
      have ff := HX3.out.frozen 1
      clear HX3 HZ3 HB3
      have e1 : max v f = m := HM.out
      go_upto_region 4 with ((go_at_call 31; refine (HI.out _ _).mono ?_; rintro e w4 ⟨rfl, rfl⟩))
      clear d0 d1 d2 d3 ff e1
      generalize w3.setCell ⟨g, 1, none⟩ (.int .i64 m) = w5 at *
      go_wp2_with (first | (refine wpList_load_blk rfl 23 (.tmp 3) rfl g rfl 23 #[.int .i64 a, .int .i64 m, .int .i64 f, .int .i64 k] _ HX4.out Try.underlying23 rfl rt_size ?_) | (refine wpList_store_blk rfl 23 (.tmp 4) (.tmp 19) rfl (g + 1) #[.int .i64 a, .int .i64 m, .int .i64 f, .int .i64 k] _ 23 rfl rfl HZ4.out rt_size rfl (by simp [Value.oneCell']) ?_))
      exact bodyPost_ret (results_cell_blk rfl _ _ (g + 1) 23 #[.int .i64 a, .int .i64 m, .int .i64 f, .int .i64 k] _ rfl (HZ4.out.row _) Try.underlying23 rfl rt_size) rfl ⟨by rw [HNN.out], below_setRow HB4.out (by have := HL.out; omega) _⟩
    · have h2 : inT 0 2305843009213693952 v = false := by cases q : inT 0 2305843009213693952 v <;> simp_all
      have HNN := hide (wakT_no (v := v) (t := ⟨a, s, f, k⟩) (fun q => by have := inT_yes.2 q.2; rw [h2] at this; cases this))
      rw [chkT_yes h] at HC
      clear h
      go_enter Try.func14, Try.ntmps14
      go_wp2_with (refine wpList_load_blk rfl 23 (.tmp 3) rfl g (by rw [← HL.out]; rfl) 23 #[.int .i64 a, .int .i64 s, .int .i64 f, .int .i64 k] _ HX.out Try.underlying23 rfl rt_size ?_)
      rw [HL.out]
      refine (HC.out _).mono ?_
      rintro e w3 ⟨rfl, hb3⟩
      have HX3 := hide (HX.out.keep hb3)
      have HZ3 := hide (HZ.out.keep hb3)
      have HB3 := hide (HB.out.trans (hb3.mono HB.out.size))
      clear hb3 HX HZ HB HC
      go_wp2_with (first | (go_at_call 31; refine (HI.out _ _).mono ?_; rintro e w4 ⟨rfl, rfl⟩) | (refine wpList_load_blk rfl 23 (.tmp 3) rfl g rfl 23 #[.int .i64 a, .int .i64 s, .int .i64 f, .int .i64 k] _ HX3.out Try.underlying23 rfl rt_size ?_) | (refine wpList_store_blk rfl 23 (.tmp 4) (.tmp 13) rfl (g + 1) #[.int .i64 a, .int .i64 s, .int .i64 f, .int .i64 k] _ 23 rfl rfl HZ3.out rt_size rfl (by simp [Value.oneCell']) ?_))
      exact bodyPost_ret (results_cell_blk rfl _ _ (g + 1) 23 #[.int .i64 a, .int .i64 s, .int .i64 f, .int .i64 k] _ rfl (HZ3.out.row _) Try.underlying23 rfl rt_size) rfl ⟨by rw [HNN.out], below_setRow HB3.out (by have := HL.out; omega) _⟩
  · have HNN := hide (wakT_no (v := v) (t := ⟨a, s, f, k⟩) (fun q => h q.1))
    rw [chkT_no h] at HC
    clear h
    go_enter Try.func14, Try.ntmps14
    go_wp2_with (refine wpList_load_blk rfl 23 (.tmp 3) rfl g (by rw [← HL.out]; rfl) 23 #[.int .i64 a, .int .i64 s, .int .i64 f, .int .i64 k] _ HX.out Try.underlying23 rfl rt_size ?_)
    rw [HL.out]
    refine (HC.out _).mono ?_
    rintro e w3 ⟨rfl, hb3⟩
    have HX3 := hide (HX.out.keep hb3)
    have HZ3 := hide (HZ.out.keep hb3)
    have HB3 := hide (HB.out.trans (hb3.mono HB.out.size))
    clear hb3 HX HZ HB HC
    go_wp2_with (first | (go_at_call 31; refine (HI.out _ _).mono ?_; rintro e w4 ⟨rfl, rfl⟩) | (refine wpList_load_blk rfl 23 (.tmp 3) rfl g rfl 23 #[.int .i64 a, .int .i64 s, .int .i64 f, .int .i64 k] _ HX3.out Try.underlying23 rfl rt_size ?_) | (refine wpList_store_blk rfl 23 (.tmp 4) (.tmp 13) rfl (g + 1) #[.int .i64 a, .int .i64 s, .int .i64 f, .int .i64 k] _ 23 rfl rfl HZ3.out rt_size rfl (by simp [Value.oneCell']) ?_))
    exact bodyPost_ret (results_cell_blk rfl _ _ (g + 1) 23 #[.int .i64 a, .int .i64 s, .int .i64 f, .int .i64 k] _ rfl (HZ3.out.row _) Try.underlying23 rfl rt_size) rfl ⟨by rw [HNN.out], below_setRow HB3.out (by have := HL.out; omega) _⟩
end Go.Proofs.Ytlondjmklnehhaa
