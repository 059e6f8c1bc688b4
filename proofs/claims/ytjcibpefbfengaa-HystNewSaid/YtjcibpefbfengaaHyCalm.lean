/-
  Layer 22: calmer: one look more below Low.
-/
import Derived.Test.YtjcibpefbfengaaHyNew
import Derived.Test.YtjcibpefbfengaaRegW
import Derived.BigRegion
import Derived.BigQuiet
import Derived.Deep.QuietTactic
import Derived.Deep.RegionWith
import Derived.Deep.Cut
import Derived.Deep.CutRange
import Derived.Deep.DeepCutAuto
namespace Go.Proofs.Ytjcibpefbfengaa
set_option linter.unusedSimpArgs false
set_option linter.unusedVariables false
open Go.RowKit

set_option maxRecDepth 100000 in
set_option maxHeartbeats 1600000 in
theorem hy_calmer (x : Hy) (w : World) (hx : x.Ok) : Calls Try.prog 15 #[.agg x.cs] w fun e w' => e = .returned (.agg (calH x).cs) ∧ Below w.heap.size w w' := by
  obtain ⟨l, a, b, lo, hi, q, c⟩ := x
  obtain ⟨a1, a2, a3, a4, a5, a6, a7, a8, a9, a10, a11, a12⟩ := hx
  simp only at a1 a2 a3 a4 a5 a6 a7 a8 a9 a10 a11 a12
  obtain ⟨g, hg⟩ : ∃ g, g = w.heap.size := ⟨_, rfl⟩
  have HL := hide hg.symm
  have HB := hide (bel2 w (.cells #[.int .i64 l, .int .i64 a, .int .i64 b, .int .i64 lo, .int .i64 hi, .int .i64 q, .int .i64 c] 24) (.cells nilH.cs 24))
  have HX := hide (show BlkIs _ g _ _ by rw [hg]; exact (BlkIs.new w 24 #[.int .i64 l, .int .i64 a, .int .i64 b, .int .i64 lo, .int .i64 hi, .int .i64 q, .int .i64 c]).alloc (.cells nilH.cs 24))
  have HZ := hide (show BlkIs _ (g + 1) _ _ by rw [hg]; exact new2 w (.cells #[.int .i64 l, .int .i64 a, .int .i64 b, .int .i64 lo, .int .i64 hi, .int .i64 q, .int .i64 c] 24) 24 nilH.cs)
  have hcw : IntKind.i64.wrap (c + 1) = c + 1 := IntWalk.i64_in _ (by omega)
  have hlw : IntKind.i64.wrap (l + 1) = l + 1 := IntWalk.i64_in _ (by omega)
  simp only [Hy.cs, nilH] at HB HX HZ
  obtain ⟨w0, hw0⟩ : ∃ w0, w0 = (w.alloc (.cells #[.int .i64 l, .int .i64 a, .int .i64 b, .int .i64 lo, .int .i64 hi, .int .i64 q, .int .i64 c] 24)).alloc (.cells #[.int .i64 0, .int .i64 0, .int .i64 0, .int .i64 0, .int .i64 0, .int .i64 0, .int .i64 0] 24) := ⟨_, rfl⟩
  rw [← hw0] at HB HX HZ
  have HW := hide hw0.symm
  clear hg hw0
  have d6 := (HX.out.cell 6).trans (show _ = some (Value.int .i64 c) from rfl)
  have f6 := HX.out.frozen 6
  have HX1 := hide (HX.out.put 6 (.int .i64 (c + 1)))
  have HZ1 := hide (HZ.out.far (p := ⟨g, 6, none⟩) (by simp) (.int .i64 (c + 1)))
  have HB1 := hide (HB.out.setCell (p := ⟨g, 6, none⟩) (by have := HL.out; simp; omega) (.int .i64 (c + 1)))
  simp only [List.setIfInBounds_toArray, List.set_cons_zero, List.set_cons_succ] at HX1
  by_cases h : c + 1 = q
  · rw [calH_yes h]
    simp only [Hy.cs]
    subst h
    go_enter Try.func15, Try.ntmps15
    go_upto_region 1 with (fail)
    rw [HW.out, HL.out]
    go_upto_region 2 with (fail)
    generalize w0.setCell ⟨g, 6, none⟩ (.int .i64 (c + 1)) = w1 at *
    clear d6 f6 HX HZ HB
    obtain ⟨d0, d1, d2, d3, d4, d5, d6⟩ := cells7 (x := ⟨l, a, b, lo, hi, c + 1, c + 1⟩) HX1.out
    have f0 := HX1.out.frozen 0
    have f6 := HX1.out.frozen 6
    have HX2 := hide ((HX1.out.put 6 (.int .i64 0)).put 0 (.int .i64 (min (l + 1) b)))
    have HZ2 := hide ((HZ1.out.far (p := ⟨g, 6, none⟩) (by simp) (.int .i64 0)).far (p := ⟨g, 0, none⟩) (by simp) (.int .i64 (min (l + 1) b)))
    have HB2 := hide ((HB1.out.setCell (p := ⟨g, 6, none⟩) (by have := HL.out; simp; omega) (.int .i64 0)).setCell (p := ⟨g, 0, none⟩) (by have := HL.out; simp; omega) (.int .i64 (min (l + 1) b)))
    simp only [List.setIfInBounds_toArray, List.set_cons_zero, List.set_cons_succ] at HX2
    simp only at d0 d1 d2 d3 d4 d5 d6
    go_upto_region 4 with (fail)
    generalize (w1.setCell ⟨g, 6, none⟩ (.int .i64 0)).setCell ⟨g, 0, none⟩ (.int .i64 (min (l + 1) b)) = w2 at *
    clear d0 d1 d2 d3 d4 d5 d6 f0 f6 HX1 HZ1 HB1
    go_wp2_with (first
      | (refine wpList_load_blk rfl 24 (.tmp 1) rfl g rfl 24 #[.int .i64 (min (l + 1) b), .int .i64 a, .int .i64 b, .int .i64 lo, .int .i64 hi, .int .i64 (c + 1), .int .i64 0] _ HX2.out Try.underlying24 rfl hy_size ?_)
      | (refine wpList_store_blk rfl 24 (.tmp 2) (.tmp 20) rfl (g + 1) #[.int .i64 (min (l + 1) b), .int .i64 a, .int .i64 b, .int .i64 lo, .int .i64 hi, .int .i64 (c + 1), .int .i64 0] _ 24 rfl rfl HZ2.out hy_size rfl (by simp [Value.oneCell']) ?_))
    exact bodyPost_ret (results_cell_blk rfl _ _ (g + 1) 24 #[.int .i64 (min (l + 1) b), .int .i64 a, .int .i64 b, .int .i64 lo, .int .i64 hi, .int .i64 (c + 1), .int .i64 0] _ rfl (HZ2.out.row _) Try.underlying24 rfl hy_size) rfl ⟨rfl, below_setRow HB2.out (by have := HL.out; omega) _⟩
  · rw [calH_no h]
    simp only [Hy.cs]
    have hd : (c + 1 == q) = false := by simp [h]
    clear h
    go_enter Try.func15, Try.ntmps15
    go_upto_region 1 with (fail)
    rw [HW.out, HL.out]
    go_upto_region 2 with (fail)
    generalize w0.setCell ⟨g, 6, none⟩ (.int .i64 (c + 1)) = w1 at *
    clear d6 f6 HX HZ HB
    obtain ⟨d0, d1, d2, d3, d4, d5, d6⟩ := cells7 (x := ⟨l, a, b, lo, hi, q, c + 1⟩) HX1.out
    simp only at d0 d1 d2 d3 d4 d5 d6
    go_upto_region 4 with (fail)
    clear d0 d1 d2 d3 d4 d5 d6
    go_wp2_with (first
      | (refine wpList_load_blk rfl 24 (.tmp 1) rfl g rfl 24 #[.int .i64 l, .int .i64 a, .int .i64 b, .int .i64 lo, .int .i64 hi, .int .i64 q, .int .i64 (c + 1)] _ HX1.out Try.underlying24 rfl hy_size ?_)
      | (refine wpList_store_blk rfl 24 (.tmp 2) (.tmp 20) rfl (g + 1) #[.int .i64 l, .int .i64 a, .int .i64 b, .int .i64 lo, .int .i64 hi, .int .i64 q, .int .i64 (c + 1)] _ 24 rfl rfl HZ1.out hy_size rfl (by simp [Value.oneCell']) ?_))
    exact bodyPost_ret (results_cell_blk rfl _ _ (g + 1) 24 #[.int .i64 l, .int .i64 a, .int .i64 b, .int .i64 lo, .int .i64 hi, .int .i64 q, .int .i64 (c + 1)] _ rfl (HZ1.out.row _) Try.underlying24 rfl hy_size) rfl ⟨rfl, below_setRow HB1.out (by have := HL.out; omega) _⟩
end Go.Proofs.Ytjcibpefbfengaa
