/-
  Layer 12: mayBe, Check: the program's.
-/
import Derived.Test.YtlcnenkfineddaaSsBound
import Derived.Test.YtlcnenkfineddaaRegW
namespace Go.Proofs.Ytlcnenkfineddaa
set_option linter.unusedSimpArgs false
set_option linter.unusedVariables false
open Go.RowKit

set_option maxRecDepth 100000 in
set_option maxHeartbeats 1600000 in
theorem ss_mayBe (v : Vs) (w : World) : Calls Try.prog 20 #[.agg v.arr] w fun e w' => e = .returned (.bool (okB v)) ∧ Below w.heap.size w w' := by
  have HB := hide (fun w => ss_bounded v w)
  have HE := hide (ok_cl v)
  have HB0 := hide (bel1 w (.cells v.arr 50))
  obtain ⟨g, hg⟩ : ∃ g, g = w.heap.size := ⟨_, rfl⟩
  have HK := hide (show BlkIs (w.alloc (.cells v.arr 50)) g 50 v.arr by rw [hg]; exact BlkIs.new w _ _)
  generalize clV v = cv at *
  generalize okB v = ok at *
  go_enter Try.func20, Try.ntmps20
  go_wp2_with fail
  rw [← hg]
  clear hg
  generalize w.alloc (.cells v.arr 50) = w0 at *
  refine wp_region_noPanic ?_
  refine wp_region_held_drew (S := fun w' => Below w0.heap.size w0 w') (by kernel_rfl) (Below.refl _ _).drew (fun hS => ?_)
  generalize w0.drew = wd at hS ⊢
  refine wpAnyH_take (i := 0) (by simp only [List.getElem?_toArray, List.getElem?_cons_zero] <;> exact rfl) (by kernel_rfl) (by kernel_rfl) (by kernel_rfl) (fun _ _ _ h => h) (rgs_yields_blk (by rfl) 50 (.tmp 1) (by rfl) g (by rfl) 50 v.arr _ (fun w' hw' => HK.out.keep hw') Try.underlying50 rfl sn_size) hS ?_
  try simp only [Act.put, List.setIfInBounds_toArray, List.set_cons_zero, List.set_cons_succ]
  refine wpAnyH_take (i := 1) (by simp only [List.getElem?_toArray, List.getElem?_cons_succ, List.getElem?_cons_zero] <;> exact rfl) (by kernel_rfl) (by kernel_rfl) (by kernel_rfl) (fun _ _ _ h => h) (rgs_yields_blk (by rfl) 50 (.tmp 1) (by rfl) g (by rfl) 50 v.arr _ (fun w' hw' => HK.out.keep hw') Try.underlying50 rfl sn_size) hS ?_
  try simp only [Act.put, List.setIfInBounds_toArray, List.set_cons_zero, List.set_cons_succ]
  refine wpAnyH_ready (rs := [2]) (by kernel_rfl) (by simp) ?_
  refine AllReadyH.cons (o := _) (by simp only [List.getElem?_toArray, List.getElem?_cons_succ, List.getElem?_cons_zero] <;> exact rfl) (fun K hK => ?_) ?_
  focus (
    go_simp
    go_at_call 27
    refine (HB.out _).mono ?_
    rintro e wc ⟨rfl, hb⟩
    have hS := hS.trans (hb.mono hS.size)
    clear hb
    go_wp2_with fail
    refine hK.out _ _ hS (fun _ => ?_)
    clear hK K
    try simp only [Act.put, List.setIfInBounds_toArray, List.set_cons_zero, List.set_cons_succ]
    refine wpAnyH_take (i := 3) (v := ?_) (by simp only [List.getElem?_toArray, List.getElem?_cons_succ, List.getElem?_cons_zero] <;> exact rfl) (by kernel_rfl) (by kernel_rfl) (by kernel_rfl) (fun _ _ _ h => h) (Or.inl ⟨by rfl, ?_⟩) hS ?_
    rotate_left
    focus (intro w' hw'; have kk := eq_arr v cv w'; go_simp; all_goals with_reducible rfl)
    try simp only [Act.put, List.setIfInBounds_toArray, List.set_cons_zero, List.set_cons_succ]
    refine wpAnyH_take (i := 4) (v := ?_) (by simp only [List.getElem?_toArray, List.getElem?_cons_succ, List.getElem?_cons_zero] <;> exact rfl) (by kernel_rfl) (by kernel_rfl) (by kernel_rfl) (fun _ _ _ h => h) (Or.inl ⟨by rfl, ?_⟩) hS ?_
    rotate_left
    focus (intro w' hw'; go_simp; all_goals with_reducible rfl)
    try simp only [Act.put, List.setIfInBounds_toArray, List.set_cons_zero, List.set_cons_succ]
    refine wpAnyH_done (by kernel_rfl) ?_ _
    refine NoPanic.normal ?_
    go_wp2
    go_ret
    exact ⟨by rw [HE.out]; rfl, (HB0.out.trans (hS.mono HB0.out.size))⟩)
  exact AllReadyH.nil

set_option maxHeartbeats 1600000 in
theorem ss_Check (v : Vs) (w : World) : Calls Try.prog 10 #[.agg v.cs] w fun e w' => e = .returned (.int .i64 (chkV v)) ∧ Below w.heap.size w w' := by
  have HN := hide (fun w => ss_byNumber v w)
  have HM := hide (fun w => ss_mayBe v w)
  have HB0 := hide (bel1 w (.cells v.cs 26))
  have HK := hide (BlkIs.new w 26 v.cs)
  have HY := hide (show okB v = true → chkV v = 0 from chkV_yes)
  have HO := hide (show okB v = false → chkV v = 8 from chkV_no)
  generalize okB v = ok at *
  generalize chkV v = c at *
  cases ok
  all_goals
    have HC := hide (by first | exact HY.out rfl | exact HO.out rfl)
    clear HY HO
    go_enter Try.func10, Try.ntmps10
    go_wp2_with (refine wpList_load_blk rfl 26 (.tmp 1) rfl w.heap.size rfl 26 v.cs _ HK.out Try.underlying26 rfl ss_size ?_)
    refine (HN.out _).mono ?_
    rintro e w1 ⟨rfl, hb1⟩
    go_wp2_with fail
    refine (HM.out _).mono ?_
    rintro e w2 ⟨rfl, hb2⟩
    have HB2 := hide ((HB0.out.trans (hb1.mono HB0.out.size)).trans (hb2.mono (by have := HB0.out.size; have := hb1.size; omega)))
    clear hb1 hb2
    go_wp2_with fail
    go_ret
    exact ⟨by rw [HC.out]; rfl, HB2.out⟩
end Go.Proofs.Ytlcnenkfineddaa
