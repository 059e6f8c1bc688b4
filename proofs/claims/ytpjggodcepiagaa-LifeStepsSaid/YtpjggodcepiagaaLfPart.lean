/-
  Layer 16: takePart, takeWindow, sendPart, sendReset of the program (written by gen16part.py).
-/
import Derived.Test.YtpjggodcepiagaaLfSmall
namespace Go.Proofs.Ytpjggodcepiagaa
set_option linter.unusedSimpArgs false
set_option linter.unusedVariables false
open Go.RowKit

/-- What a step answers, and that old blocks stay. -/
def GivesLr (r : Lr) (w : World) (e : Ending) (w' : World) : Prop := e = .returned (.tuple #[.int .u8 r.s, .agg #[.int .u32 r.c, .bool r.n, .bool r.d]]) ∧ Below w.heap.size w w'

theorem vd_one (c : Int) (n d : Bool) : (#[.int .u32 c, .bool n, .bool d] : Array Value).all (·.oneCell') = true := by simp [Value.oneCell']
theorem gives_lr {r : Lr} {s c : Int} {n d : Bool} {w w' : World} (h : Below w.heap.size w w') (e : r = ⟨s, c, n, d⟩) : GivesLr r w (.returned (.tuple #[.int .u8 s, .agg #[.int .u32 c, .bool n, .bool d]])) w' := by subst e; exact ⟨rfl, h⟩

set_option maxHeartbeats 800000 in
theorem lf_takePart (s : Int) (b : Bool) (w : World) : Calls Try.prog 19 #[.int .u8 s, .bool b] w (GivesLr (partR s b) w) := by
  have HC := hide (fun c w => lf_ofConn c w)
  have HT := hide (fun c w => lf_ofStream c w)
  have HV := hide (fun w => lf_behind s b 2 w)
  have HB := hide (bel1 w (.cells #[.int .u32 0, .bool false, .bool false] 27))
  have HK := hide (BlkIs.new w 27 #[.int .u32 0, .bool false, .bool false])
  by_cases h0 : s = 0
  · subst h0
    go_enter Try.func19, Try.ntmps19
    go_wp2_with fail
    refine (HC.out 1 _).mono ?_
    rintro e w1 ⟨rfl, hb⟩
    have HK1 := hide (HK.out.keep hb)
    have HB1 := hide (HB.out.trans (hb.mono HB.out.size))
    clear hb HK HB
    go_wp2_with (refine wpList_store_blk rfl 27 (.tmp 5) (.tmp 10) rfl w.heap.size #[.int .u32 1, .bool true, .bool false] #[.int .u32 0, .bool false, .bool false] 27 rfl rfl HK1.out vd_size rfl (vd_one _ _ _) ?_)
    refine bodyPost_ret (results_sv rfl _ _ w.heap.size _ _ _ _ rfl (HK1.out.row _) rfl) rfl ?_
    exact gives_lr (below_setRow HB1.out (Nat.le_refl _) _) rfl
  by_cases h2 : s = 2
  · subst h2
    go_enter Try.func19, Try.ntmps19
    go_wp2_with fail
    refine (HT.out 5 _).mono ?_
    rintro e w1 ⟨rfl, hb⟩
    have HK1 := hide (HK.out.keep hb)
    have HB1 := hide (HB.out.trans (hb.mono HB.out.size))
    clear hb HK HB
    go_wp2_with (refine wpList_store_blk rfl 27 (.tmp 5) (.tmp 13) rfl w.heap.size #[.int .u32 5, .bool false, .bool false] #[.int .u32 0, .bool false, .bool false] 27 rfl rfl HK1.out vd_size rfl (vd_one _ _ _) ?_)
    refine bodyPost_ret (results_sv rfl _ _ w.heap.size _ _ _ _ rfl (HK1.out.row _) rfl) rfl ?_
    exact gives_lr (below_setRow HB1.out (Nat.le_refl _) _) rfl
  by_cases h4 : s = 4
  · subst h4
    go_enter Try.func19, Try.ntmps19
    go_wp2_with fail
    refine (HC.out 5 _).mono ?_
    rintro e w1 ⟨rfl, hb⟩
    have HK1 := hide (HK.out.keep hb)
    have HB1 := hide (HB.out.trans (hb.mono HB.out.size))
    clear hb HK HB
    go_wp2_with (refine wpList_store_blk rfl 27 (.tmp 5) (.tmp 17) rfl w.heap.size #[.int .u32 5, .bool true, .bool false] #[.int .u32 0, .bool false, .bool false] 27 rfl rfl HK1.out vd_size rfl (vd_one _ _ _) ?_)
    refine bodyPost_ret (results_sv rfl _ _ w.heap.size _ _ _ _ rfl (HK1.out.row _) rfl) rfl ?_
    exact gives_lr (below_setRow HB1.out (Nat.le_refl _) _) rfl
  by_cases h5 : s = 5
  · subst h5
    go_enter Try.func19, Try.ntmps19
    go_wp2_with fail
    refine bodyPost_ret (results_sv rfl _ _ w.heap.size _ _ _ _ rfl (BlkIs.new _ _ _) rfl) rfl ?_
    exact gives_lr (bel1 w _) rfl
  have HE := hide (show partR s b = ⟨behR s b 2, 0, false, false⟩ by unfold partR; rw [if_neg h0, if_neg h2, if_neg h4, if_neg h5])
  go_enter Try.func19, Try.ntmps19
  go_wp2_with fail
  refine (HV.out _).mono ?_
  rintro e w1 ⟨rfl, rfl⟩
  go_wp2_with fail
  refine bodyPost_ret (results_sv rfl _ _ w.heap.size _ _ _ _ rfl (BlkIs.new _ _ _) rfl) rfl ?_
  exact gives_lr (bel1 w _) HE.out

theorem lf_takeWindow (s : Int) (w : World) : Calls Try.prog 21 #[.int .u8 s] w (GivesLr (winR s) w) := by
  have HC := hide (fun c w => lf_ofConn c w)
  have HO := hide (fun w => lf_Over s w)
  have HB := hide (bel1 w (.cells #[.int .u32 0, .bool false, .bool false] 27))
  have HK := hide (BlkIs.new w 27 #[.int .u32 0, .bool false, .bool false])
  by_cases h0 : s = 0
  · subst h0
    go_enter Try.func21, Try.ntmps21
    go_wp2_with fail
    refine (HC.out 1 _).mono ?_
    rintro e w1 ⟨rfl, hb⟩
    have HK1 := hide (HK.out.keep hb)
    have HB1 := hide (HB.out.trans (hb.mono HB.out.size))
    clear hb HK HB
    go_wp2_with (refine wpList_store_blk rfl 27 (.tmp 3) (.tmp 8) rfl w.heap.size #[.int .u32 1, .bool true, .bool false] #[.int .u32 0, .bool false, .bool false] 27 rfl rfl HK1.out vd_size rfl (vd_one _ _ _) ?_)
    refine bodyPost_ret (results_sv rfl _ _ w.heap.size _ _ _ _ rfl (HK1.out.row _) rfl) rfl ?_
    exact gives_lr (below_setRow HB1.out (Nat.le_refl _) _) rfl
  unfold winR
  rw [if_neg h0]
  cases ho : ovB s
  · rw [ho] at HO
    clear ho
    rw [if_neg (by simp)]
    go_enter Try.func21, Try.ntmps21
    go_wp2_with fail
    refine (HO.out _).mono ?_
    rintro e w1 ⟨rfl, rfl⟩
    go_wp2_with fail
    refine bodyPost_ret (results_sv rfl _ _ w.heap.size _ _ _ _ rfl (BlkIs.new _ _ _) rfl) rfl ?_
    exact gives_lr (bel1 w _) rfl
  · rw [ho] at HO
    clear ho
    rw [if_pos (by simp)]
    go_enter Try.func21, Try.ntmps21
    go_wp2_with fail
    refine (HO.out _).mono ?_
    rintro e w1 ⟨rfl, rfl⟩
    go_wp2_with fail
    refine bodyPost_ret (results_sv rfl _ _ w.heap.size _ _ _ _ rfl (BlkIs.new _ _ _) rfl) rfl ?_
    exact gives_lr (bel1 w _) rfl

theorem lf_sendPart (s : Int) (b : Bool) (w : World) : Calls Try.prog 22 #[.int .u8 s, .bool b] w (GivesLr (sndR s b) w) := by
  have HT := hide (fun c w => lf_ofStream c w)
  have HV := hide (fun w => lf_behind s b 3 w)
  have HS := hide (fun w => lf_Sends s w)
  have HB := hide (bel1 w (.cells #[.int .u32 0, .bool false, .bool false] 27))
  have HK := hide (BlkIs.new w 27 #[.int .u32 0, .bool false, .bool false])
  unfold sndR
  cases ho : sdB s
  · rw [ho] at HS
    clear ho
    rw [if_pos rfl]
    go_enter Try.func22, Try.ntmps22
    go_wp2_with fail
    refine (HS.out _).mono ?_
    rintro e w2 ⟨rfl, rfl⟩
    go_wp2_with fail
    refine (HT.out 2 _).mono ?_
    rintro e w1 ⟨rfl, hb⟩
    have HK1 := hide (HK.out.keep hb)
    have HB1 := hide (HB.out.trans (hb.mono HB.out.size))
    clear hb HK HB
    go_wp2_with (refine wpList_store_blk rfl 27 (.tmp 5) (.tmp 10) rfl w.heap.size #[.int .u32 2, .bool false, .bool false] #[.int .u32 0, .bool false, .bool false] 27 rfl rfl HK1.out vd_size rfl (vd_one _ _ _) ?_)
    refine bodyPost_ret (results_sv rfl _ _ w.heap.size _ _ _ _ rfl (HK1.out.row _) rfl) rfl ?_
    exact gives_lr (below_setRow HB1.out (Nat.le_refl _) _) rfl
  · rw [ho] at HS
    clear ho
    rw [if_neg (by simp)]
    go_enter Try.func22, Try.ntmps22
    go_wp2_with fail
    refine (HS.out _).mono ?_
    rintro e w2 ⟨rfl, rfl⟩
    go_wp2_with fail
    refine (HV.out _).mono ?_
    rintro e w1 ⟨rfl, rfl⟩
    go_wp2_with fail
    refine bodyPost_ret (results_sv rfl _ _ w.heap.size _ _ _ _ rfl (BlkIs.new _ _ _) rfl) rfl ?_
    exact gives_lr (bel1 w _) rfl

theorem lf_sendReset (s : Int) (w : World) : Calls Try.prog 23 #[.int .u8 s] w (GivesLr (rstR s) w) := by
  have HT := hide (fun c w => lf_ofStream c w)
  have HS := hide (fun w => lf_isLive s w)
  have HB := hide (bel1 w (.cells #[.int .u32 0, .bool false, .bool false] 27))
  have HK := hide (BlkIs.new w 27 #[.int .u32 0, .bool false, .bool false])
  unfold rstR
  cases ho : lvB s
  · rw [ho] at HS
    clear ho
    rw [if_pos rfl]
    go_enter Try.func23, Try.ntmps23
    go_wp2_with fail
    refine (HS.out _).mono ?_
    rintro e w2 ⟨rfl, rfl⟩
    go_wp2_with fail
    refine (HT.out 2 _).mono ?_
    rintro e w1 ⟨rfl, hb⟩
    have HK1 := hide (HK.out.keep hb)
    have HB1 := hide (HB.out.trans (hb.mono HB.out.size))
    clear hb HK HB
    go_wp2_with (refine wpList_store_blk rfl 27 (.tmp 3) (.tmp 8) rfl w.heap.size #[.int .u32 2, .bool false, .bool false] #[.int .u32 0, .bool false, .bool false] 27 rfl rfl HK1.out vd_size rfl (vd_one _ _ _) ?_)
    refine bodyPost_ret (results_sv rfl _ _ w.heap.size _ _ _ _ rfl (HK1.out.row _) rfl) rfl ?_
    exact gives_lr (below_setRow HB1.out (Nat.le_refl _) _) rfl
  · rw [ho] at HS
    clear ho
    rw [if_neg (by simp)]
    go_enter Try.func23, Try.ntmps23
    go_wp2_with fail
    refine (HS.out _).mono ?_
    rintro e w2 ⟨rfl, rfl⟩
    go_wp2_with fail
    refine bodyPost_ret (results_sv rfl _ _ w.heap.size _ _ _ _ rfl (BlkIs.new _ _ _) rfl) rfl ?_
    exact gives_lr (bel1 w _) rfl
end Go.Proofs.Ytpjggodcepiagaa
