/-
  Layer 16: Step of the program (written by gen16step.py).
-/
import Derived.Test.YtpjggodcepiagaaLfPart
namespace Go.Proofs.Ytpjggodcepiagaa
set_option linter.unusedSimpArgs false
set_option linter.unusedVariables false
open Go.RowKit

theorem lf_Step_far (s : Int) (k : Int) (b : Bool) (w : World) (h5 : 5 < s) : Calls Try.prog 7 #[.int .u8 s, .agg #[.int .u8 k, .bool b]] w (GivesLr (stepR s k b) w) := by
  have HB := hide (bel2 w (.cells #[.int .u8 k, .bool b] 30) (.cells #[.int .u32 0, .bool false, .bool false] 27))
  have HK := hide (new2 w (.cells #[.int .u8 k, .bool b] 30) 27 #[.int .u32 0, .bool false, .bool false])
  go_enter Try.func7, Try.ntmps7
  go_wp2_with fail
  refine (lf_ofConn 2 _).mono ?_
  rintro e w1 ⟨rfl, hb⟩
  have HK1 := hide (HK.out.keep hb)
  have HB1 := hide (HB.out.trans (hb.mono HB.out.size))
  clear hb HK HB
  go_wp2_with (refine wpList_store_blk rfl 27 (.tmp 5) (.tmp 9) rfl (w.heap.size + 1) #[.int .u32 2, .bool true, .bool false] #[.int .u32 0, .bool false, .bool false] 27 rfl rfl HK1.out vd_size rfl (vd_one _ _ _) ?_)
  refine bodyPost_ret (results_sv rfl _ _ (w.heap.size + 1) _ _ _ _ rfl (HK1.out.row _) rfl) rfl ?_
  exact gives_lr (below_setRow HB1.out (by omega) _) (step_far (.inl h5))

theorem lf_Step_0idle (s : Int) (b : Bool) (w : World) (h0 : s = 0) : Calls Try.prog 7 #[.int .u8 s, .agg #[.int .u8 0, .bool b]] w (GivesLr (stepR s 0 b) w) := by
  have HB := hide (bel2 w (.cells #[.int .u8 0, .bool b] 30) (.cells #[.int .u32 0, .bool false, .bool false] 27))
  have HK := hide (new2 w (.cells #[.int .u8 0, .bool b] 30) 27 #[.int .u32 0, .bool false, .bool false])
  subst h0
  have HE := hide (show stepR 0 0 b = ⟨behR 1 b 2, 0, false, false⟩ by simp [stepR])
  go_enter Try.func7, Try.ntmps7
  go_wp2_with fail
  refine (lf_behind 1 b 2 _).mono ?_
  rintro e w1 ⟨rfl, rfl⟩
  go_wp2_with fail
  refine bodyPost_ret (results_sv rfl _ _ (w.heap.size + 1) _ _ _ _ rfl (new2 _ _ _ _) rfl) rfl ?_
  exact gives_lr (bel2 w _ _) HE.out

theorem lf_Step_0bad (s : Int) (w : World) (h5 : ¬ 5 < s) (h0 : ¬ s = 0) (ht : tkB s = true) : Calls Try.prog 7 #[.int .u8 s, .agg #[.int .u8 0, .bool false]] w (GivesLr (stepR s 0 false) w) := by
  have HB := hide (bel2 w (.cells #[.int .u8 0, .bool false] 30) (.cells #[.int .u32 0, .bool false, .bool false] 27))
  have HK := hide (new2 w (.cells #[.int .u8 0, .bool false] 30) 27 #[.int .u32 0, .bool false, .bool false])
  have HE := hide (show stepR s 0 false = ⟨5, 1, false, false⟩ by simp [stepR, h5, h0, ht])
  have HT := hide (fun w => lf_Takes s w)
  rw [ht] at HT
  clear ht
  go_enter Try.func7, Try.ntmps7
  go_wp2_with fail
  refine (HT.out _).mono ?_
  rintro e w1 ⟨rfl, rfl⟩
  go_wp2_with fail
  refine (lf_ofStream 1 _).mono ?_
  rintro e w1 ⟨rfl, hb⟩
  have HK1 := hide (HK.out.keep hb)
  have HB1 := hide (HB.out.trans (hb.mono HB.out.size))
  clear hb HK HB
  go_wp2_with (refine wpList_store_blk rfl 27 (.tmp 5) (.tmp 40) rfl (w.heap.size + 1) #[.int .u32 1, .bool false, .bool false] #[.int .u32 0, .bool false, .bool false] 27 rfl rfl HK1.out vd_size rfl (vd_one _ _ _) ?_)
  refine bodyPost_ret (results_sv rfl _ _ (w.heap.size + 1) _ _ _ _ rfl (HK1.out.row _) rfl) rfl ?_
  exact gives_lr (below_setRow HB1.out (by omega) _) HE.out

theorem lf_Step_0end (s : Int) (w : World) (h5 : ¬ 5 < s) (h0 : ¬ s = 0) (ht : tkB s = true) : Calls Try.prog 7 #[.int .u8 s, .agg #[.int .u8 0, .bool true]] w (GivesLr (stepR s 0 true) w) := by
  have HB := hide (bel2 w (.cells #[.int .u8 0, .bool true] 30) (.cells #[.int .u32 0, .bool false, .bool false] 27))
  have HK := hide (new2 w (.cells #[.int .u8 0, .bool true] 30) 27 #[.int .u32 0, .bool false, .bool false])
  have HE := hide (show stepR s 0 true = partR s true by simp [stepR, h5, h0])
  have HR := hide (fun w => lf_takePart s true w)
  generalize partR s true = r at HE HR
  have HT := hide (fun w => lf_Takes s w)
  rw [ht] at HT
  clear ht
  go_enter Try.func7, Try.ntmps7
  go_wp2_with fail
  refine (HT.out _).mono ?_
  rintro e w1 ⟨rfl, rfl⟩
  go_wp2_with fail
  refine (HR.out _).mono ?_
  rintro e w1 ⟨rfl, hb⟩
  have HK1 := hide (HK.out.keep hb)
  have HB1 := hide (HB.out.trans (hb.mono HB.out.size))
  clear hb HK HB
  go_wp2_with (refine wpList_store_blk rfl 27 (.tmp 5) (.tmp 46) rfl (w.heap.size + 1) #[.int .u32 r.c, .bool r.n, .bool r.d] #[.int .u32 0, .bool false, .bool false] 27 rfl rfl HK1.out vd_size rfl (vd_one _ _ _) ?_)
  refine bodyPost_ret (results_sv rfl _ _ (w.heap.size + 1) _ _ _ _ rfl (HK1.out.row _) rfl) rfl ?_
  exact gives_lr (below_setRow HB1.out (by omega) _) HE.out

theorem lf_Step_0no (s : Int) (b : Bool) (w : World) (h5 : ¬ 5 < s) (h0 : ¬ s = 0) (ht : tkB s = false) : Calls Try.prog 7 #[.int .u8 s, .agg #[.int .u8 0, .bool b]] w (GivesLr (stepR s 0 b) w) := by
  have HB := hide (bel2 w (.cells #[.int .u8 0, .bool b] 30) (.cells #[.int .u32 0, .bool false, .bool false] 27))
  have HK := hide (new2 w (.cells #[.int .u8 0, .bool b] 30) 27 #[.int .u32 0, .bool false, .bool false])
  have HE := hide (show stepR s 0 b = partR s b by simp [stepR, h5, h0, ht])
  have HR := hide (fun w => lf_takePart s b w)
  generalize partR s b = r at HE HR
  have HT := hide (fun w => lf_Takes s w)
  rw [ht] at HT
  clear ht
  go_enter Try.func7, Try.ntmps7
  go_wp2_with fail
  refine (HT.out _).mono ?_
  rintro e w1 ⟨rfl, rfl⟩
  go_wp2_with fail
  refine (HR.out _).mono ?_
  rintro e w1 ⟨rfl, hb⟩
  have HK1 := hide (HK.out.keep hb)
  have HB1 := hide (HB.out.trans (hb.mono HB.out.size))
  clear hb HK HB
  go_wp2_with (refine wpList_store_blk rfl 27 (.tmp 5) (.tmp 46) rfl (w.heap.size + 1) #[.int .u32 r.c, .bool r.n, .bool r.d] #[.int .u32 0, .bool false, .bool false] 27 rfl rfl HK1.out vd_size rfl (vd_one _ _ _) ?_)
  refine bodyPost_ret (results_sv rfl _ _ (w.heap.size + 1) _ _ _ _ rfl (HK1.out.row _) rfl) rfl ?_
  exact gives_lr (below_setRow HB1.out (by omega) _) HE.out

theorem lf_Step_1 (s : Int) (b : Bool) (w : World) (h5 : ¬ 5 < s) : Calls Try.prog 7 #[.int .u8 s, .agg #[.int .u8 1, .bool b]] w (GivesLr (stepR s 1 b) w) := by
  have HB := hide (bel2 w (.cells #[.int .u8 1, .bool b] 30) (.cells #[.int .u32 0, .bool false, .bool false] 27))
  have HK := hide (new2 w (.cells #[.int .u8 1, .bool b] 30) 27 #[.int .u32 0, .bool false, .bool false])
  have HE := hide (show stepR s 1 b = partR s b by simp [stepR, h5])
  have HR := hide (fun w => lf_takePart s b w)
  generalize partR s b = r at HE HR
  go_enter Try.func7, Try.ntmps7
  go_wp2_with fail
  refine (HR.out _).mono ?_
  rintro e w1 ⟨rfl, hb⟩
  have HK1 := hide (HK.out.keep hb)
  have HB1 := hide (HB.out.trans (hb.mono HB.out.size))
  clear hb HK HB
  go_wp2_with (refine wpList_store_blk rfl 27 (.tmp 5) (.tmp 46) rfl (w.heap.size + 1) #[.int .u32 r.c, .bool r.n, .bool r.d] #[.int .u32 0, .bool false, .bool false] 27 rfl rfl HK1.out vd_size rfl (vd_one _ _ _) ?_)
  refine bodyPost_ret (results_sv rfl _ _ (w.heap.size + 1) _ _ _ _ rfl (HK1.out.row _) rfl) rfl ?_
  exact gives_lr (below_setRow HB1.out (by omega) _) HE.out

theorem lf_Step_2live (s : Int) (b : Bool) (w : World) (h5 : ¬ 5 < s) (ht : lvB s = true) : Calls Try.prog 7 #[.int .u8 s, .agg #[.int .u8 2, .bool b]] w (GivesLr (stepR s 2 b) w) := by
  have HB := hide (bel2 w (.cells #[.int .u8 2, .bool b] 30) (.cells #[.int .u32 0, .bool false, .bool false] 27))
  have HK := hide (new2 w (.cells #[.int .u8 2, .bool b] 30) 27 #[.int .u32 0, .bool false, .bool false])
  have HE := hide (show stepR s 2 b = ⟨4, 0, false, false⟩ by simp [stepR, h5, ht])
  have HT := hide (fun w => lf_isLive s w)
  rw [ht] at HT
  clear ht
  go_enter Try.func7, Try.ntmps7
  go_wp2_with fail
  refine (HT.out _).mono ?_
  rintro e w1 ⟨rfl, rfl⟩
  go_wp2_with fail
  refine bodyPost_ret (results_sv rfl _ _ (w.heap.size + 1) _ _ _ _ rfl (new2 _ _ _ _) rfl) rfl ?_
  exact gives_lr (bel2 w _ _) HE.out

theorem lf_Step_2no (s : Int) (b : Bool) (w : World) (h5 : ¬ 5 < s) (ht : lvB s = false) : Calls Try.prog 7 #[.int .u8 s, .agg #[.int .u8 2, .bool b]] w (GivesLr (stepR s 2 b) w) := by
  have HB := hide (bel2 w (.cells #[.int .u8 2, .bool b] 30) (.cells #[.int .u32 0, .bool false, .bool false] 27))
  have HK := hide (new2 w (.cells #[.int .u8 2, .bool b] 30) 27 #[.int .u32 0, .bool false, .bool false])
  have HE := hide (show stepR s 2 b = winR s by simp [stepR, h5, ht])
  have HR := hide (fun w => lf_takeWindow s w)
  generalize winR s = r at HE HR
  have HT := hide (fun w => lf_isLive s w)
  rw [ht] at HT
  clear ht
  go_enter Try.func7, Try.ntmps7
  go_wp2_with fail
  refine (HT.out _).mono ?_
  rintro e w1 ⟨rfl, rfl⟩
  go_wp2_with fail
  refine (HR.out _).mono ?_
  rintro e w1 ⟨rfl, hb⟩
  have HK1 := hide (HK.out.keep hb)
  have HB1 := hide (HB.out.trans (hb.mono HB.out.size))
  clear hb HK HB
  go_wp2_with (refine wpList_store_blk rfl 27 (.tmp 5) (.tmp 53) rfl (w.heap.size + 1) #[.int .u32 r.c, .bool r.n, .bool r.d] #[.int .u32 0, .bool false, .bool false] 27 rfl rfl HK1.out vd_size rfl (vd_one _ _ _) ?_)
  refine bodyPost_ret (results_sv rfl _ _ (w.heap.size + 1) _ _ _ _ rfl (HK1.out.row _) rfl) rfl ?_
  exact gives_lr (below_setRow HB1.out (by omega) _) HE.out

theorem lf_Step_3 (s : Int) (b : Bool) (w : World) (h5 : ¬ 5 < s) : Calls Try.prog 7 #[.int .u8 s, .agg #[.int .u8 3, .bool b]] w (GivesLr (stepR s 3 b) w) := by
  have HB := hide (bel2 w (.cells #[.int .u8 3, .bool b] 30) (.cells #[.int .u32 0, .bool false, .bool false] 27))
  have HK := hide (new2 w (.cells #[.int .u8 3, .bool b] 30) 27 #[.int .u32 0, .bool false, .bool false])
  have HE := hide (show stepR s 3 b = winR s by simp [stepR, h5])
  have HR := hide (fun w => lf_takeWindow s w)
  generalize winR s = r at HE HR
  go_enter Try.func7, Try.ntmps7
  go_wp2_with fail
  refine (HR.out _).mono ?_
  rintro e w1 ⟨rfl, hb⟩
  have HK1 := hide (HK.out.keep hb)
  have HB1 := hide (HB.out.trans (hb.mono HB.out.size))
  clear hb HK HB
  go_wp2_with (refine wpList_store_blk rfl 27 (.tmp 5) (.tmp 53) rfl (w.heap.size + 1) #[.int .u32 r.c, .bool r.n, .bool r.d] #[.int .u32 0, .bool false, .bool false] 27 rfl rfl HK1.out vd_size rfl (vd_one _ _ _) ?_)
  refine bodyPost_ret (results_sv rfl _ _ (w.heap.size + 1) _ _ _ _ rfl (HK1.out.row _) rfl) rfl ?_
  exact gives_lr (below_setRow HB1.out (by omega) _) HE.out

theorem lf_Step_4 (s : Int) (b : Bool) (w : World) (h5 : ¬ 5 < s) : Calls Try.prog 7 #[.int .u8 s, .agg #[.int .u8 4, .bool b]] w (GivesLr (stepR s 4 b) w) := by
  have HB := hide (bel2 w (.cells #[.int .u8 4, .bool b] 30) (.cells #[.int .u32 0, .bool false, .bool false] 27))
  have HK := hide (new2 w (.cells #[.int .u8 4, .bool b] 30) 27 #[.int .u32 0, .bool false, .bool false])
  have HE := hide (show stepR s 4 b = ⟨s, 0, false, false⟩ by simp [stepR, h5])
  go_enter Try.func7, Try.ntmps7
  go_wp2_with fail
  refine bodyPost_ret (results_sv rfl _ _ (w.heap.size + 1) _ _ _ _ rfl (new2 _ _ _ _) rfl) rfl ?_
  exact gives_lr (bel2 w _ _) HE.out

theorem lf_Step_5 (s : Int) (b : Bool) (w : World) (h5 : ¬ 5 < s) : Calls Try.prog 7 #[.int .u8 s, .agg #[.int .u8 5, .bool b]] w (GivesLr (stepR s 5 b) w) := by
  have HB := hide (bel2 w (.cells #[.int .u8 5, .bool b] 30) (.cells #[.int .u32 0, .bool false, .bool false] 27))
  have HK := hide (new2 w (.cells #[.int .u8 5, .bool b] 30) 27 #[.int .u32 0, .bool false, .bool false])
  have HE := hide (show stepR s 5 b = sndR s b by simp [stepR, h5])
  have HR := hide (fun w => lf_sendPart s b w)
  generalize sndR s b = r at HE HR
  go_enter Try.func7, Try.ntmps7
  go_wp2_with fail
  refine (HR.out _).mono ?_
  rintro e w1 ⟨rfl, hb⟩
  have HK1 := hide (HK.out.keep hb)
  have HB1 := hide (HB.out.trans (hb.mono HB.out.size))
  clear hb HK HB
  go_wp2_with (refine wpList_store_blk rfl 27 (.tmp 5) (.tmp 61) rfl (w.heap.size + 1) #[.int .u32 r.c, .bool r.n, .bool r.d] #[.int .u32 0, .bool false, .bool false] 27 rfl rfl HK1.out vd_size rfl (vd_one _ _ _) ?_)
  refine bodyPost_ret (results_sv rfl _ _ (w.heap.size + 1) _ _ _ _ rfl (HK1.out.row _) rfl) rfl ?_
  exact gives_lr (below_setRow HB1.out (by omega) _) HE.out

theorem lf_Step_6 (s : Int) (b : Bool) (w : World) (h5 : ¬ 5 < s) : Calls Try.prog 7 #[.int .u8 s, .agg #[.int .u8 6, .bool b]] w (GivesLr (stepR s 6 b) w) := by
  have HB := hide (bel2 w (.cells #[.int .u8 6, .bool b] 30) (.cells #[.int .u32 0, .bool false, .bool false] 27))
  have HK := hide (new2 w (.cells #[.int .u8 6, .bool b] 30) 27 #[.int .u32 0, .bool false, .bool false])
  have HE := hide (show stepR s 6 b = sndR s b by simp [stepR, h5])
  have HR := hide (fun w => lf_sendPart s b w)
  generalize sndR s b = r at HE HR
  go_enter Try.func7, Try.ntmps7
  go_wp2_with fail
  refine (HR.out _).mono ?_
  rintro e w1 ⟨rfl, hb⟩
  have HK1 := hide (HK.out.keep hb)
  have HB1 := hide (HB.out.trans (hb.mono HB.out.size))
  clear hb HK HB
  go_wp2_with (refine wpList_store_blk rfl 27 (.tmp 5) (.tmp 61) rfl (w.heap.size + 1) #[.int .u32 r.c, .bool r.n, .bool r.d] #[.int .u32 0, .bool false, .bool false] 27 rfl rfl HK1.out vd_size rfl (vd_one _ _ _) ?_)
  refine bodyPost_ret (results_sv rfl _ _ (w.heap.size + 1) _ _ _ _ rfl (HK1.out.row _) rfl) rfl ?_
  exact gives_lr (below_setRow HB1.out (by omega) _) HE.out

theorem lf_Step_7 (s : Int) (b : Bool) (w : World) (h5 : ¬ 5 < s) : Calls Try.prog 7 #[.int .u8 s, .agg #[.int .u8 7, .bool b]] w (GivesLr (stepR s 7 b) w) := by
  have HB := hide (bel2 w (.cells #[.int .u8 7, .bool b] 30) (.cells #[.int .u32 0, .bool false, .bool false] 27))
  have HK := hide (new2 w (.cells #[.int .u8 7, .bool b] 30) 27 #[.int .u32 0, .bool false, .bool false])
  have HE := hide (show stepR s 7 b = rstR s by simp [stepR, h5])
  have HR := hide (fun w => lf_sendReset s w)
  generalize rstR s = r at HE HR
  go_enter Try.func7, Try.ntmps7
  go_wp2_with fail
  refine (HR.out _).mono ?_
  rintro e w1 ⟨rfl, hb⟩
  have HK1 := hide (HK.out.keep hb)
  have HB1 := hide (HB.out.trans (hb.mono HB.out.size))
  clear hb HK HB
  go_wp2_with (refine wpList_store_blk rfl 27 (.tmp 5) (.tmp 65) rfl (w.heap.size + 1) #[.int .u32 r.c, .bool r.n, .bool r.d] #[.int .u32 0, .bool false, .bool false] 27 rfl rfl HK1.out vd_size rfl (vd_one _ _ _) ?_)
  refine bodyPost_ret (results_sv rfl _ _ (w.heap.size + 1) _ _ _ _ rfl (HK1.out.row _) rfl) rfl ?_
  exact gives_lr (below_setRow HB1.out (by omega) _) HE.out

theorem lf_Step_no (s : Int) (k : Int) (b : Bool) (w : World) (h5 : ¬ 5 < s) (k0 : ¬ k = 0) (k1 : ¬ k = 1) (k2 : ¬ k = 2) (k3 : ¬ k = 3) (k4 : ¬ k = 4) (k5 : ¬ k = 5) (k6 : ¬ k = 6) (k7 : ¬ k = 7) : Calls Try.prog 7 #[.int .u8 s, .agg #[.int .u8 k, .bool b]] w (GivesLr (stepR s k b) w) := by
  have HB := hide (bel2 w (.cells #[.int .u8 k, .bool b] 30) (.cells #[.int .u32 0, .bool false, .bool false] 27))
  have HK := hide (new2 w (.cells #[.int .u8 k, .bool b] 30) 27 #[.int .u32 0, .bool false, .bool false])
  have HE := hide (show stepR s k b = ⟨s, 2, true, false⟩ by simp [stepR, h5, k0, k1, k2, k3, k4, k5, k6, k7])
  go_enter Try.func7, Try.ntmps7
  go_wp2_with fail
  refine (lf_ofConn 2 _).mono ?_
  rintro e w1 ⟨rfl, hb⟩
  have HK1 := hide (HK.out.keep hb)
  have HB1 := hide (HB.out.trans (hb.mono HB.out.size))
  clear hb HK HB
  go_wp2_with (refine wpList_store_blk rfl 27 (.tmp 5) (.tmp 67) rfl (w.heap.size + 1) #[.int .u32 2, .bool true, .bool false] #[.int .u32 0, .bool false, .bool false] 27 rfl rfl HK1.out vd_size rfl (vd_one _ _ _) ?_)
  refine bodyPost_ret (results_sv rfl _ _ (w.heap.size + 1) _ _ _ _ rfl (HK1.out.row _) rfl) rfl ?_
  exact gives_lr (below_setRow HB1.out (by omega) _) HE.out

/-- Step. -/
theorem lf_Step (s k : Int) (b : Bool) (w : World) : Calls Try.prog 7 #[.int .u8 s, .agg #[.int .u8 k, .bool b]] w (GivesLr (stepR s k b) w) := by
  by_cases h5 : 5 < s
  · exact lf_Step_far s k b w h5
  by_cases k0 : k = 0
  · subst k0
    by_cases h0 : s = 0
    · exact lf_Step_0idle s b w h0
    cases ht : tkB s
    · exact lf_Step_0no s b w h5 h0 ht
    · cases b
      · exact lf_Step_0bad s w h5 h0 ht
      · exact lf_Step_0end s w h5 h0 ht
  by_cases k1 : k = 1
  · subst k1; exact lf_Step_1 s b w h5
  by_cases k2 : k = 2
  · subst k2
    cases ht : lvB s
    · exact lf_Step_2no s b w h5 ht
    · exact lf_Step_2live s b w h5 ht
  by_cases k3 : k = 3
  · subst k3; exact lf_Step_3 s b w h5
  by_cases k4 : k = 4
  · subst k4; exact lf_Step_4 s b w h5
  by_cases k5 : k = 5
  · subst k5; exact lf_Step_5 s b w h5
  by_cases k6 : k = 6
  · subst k6; exact lf_Step_6 s b w h5
  by_cases k7 : k = 7
  · subst k7; exact lf_Step_7 s b w h5
  exact lf_Step_no s k b w h5 k0 k1 k2 k3 k4 k5 k6 k7
end Go.Proofs.Ytpjggodcepiagaa
