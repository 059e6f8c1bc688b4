/-
  Layer 21: the document's Has, of any bucket.
-/
import Derived.Test.YtgibhdbhagcpoaaRuCheck
namespace Go.Proofs.Ytgibhdbhagcpoaa
set_option linter.unusedSimpArgs false
set_option linter.unusedVariables false
open Go.RowKit

set_option maxHeartbeats 1600000 in
theorem ru_Has (b : Bu) (w : World) : Calls Try.prog 28 #[.agg b.cs] w fun e w' => e = .returned (.int .i64 (hasB b)) ∧ Below w.heap.size w w' := by
  have HC := hide (fun w => ru_Check b w)
  have HB0 := hide (bel1 w (.cells b.cs 25))
  have HK := hide (BlkIs.new w 25 b.cs)
  cases hok : okB b with
  | false =>
    rw [chkB_no hok] at HC
    rw [hasB_no hok]
    clear hok
    go_enter Try.func28, Try.ntmps28
    go_wp2_with (refine wpList_load_blk rfl 25 (.tmp 1) rfl w.heap.size rfl 25 b.cs _ HK.out Try.underlying25 rfl rb_size ?_)
    refine (HC.out _).mono ?_
    rintro e w1 ⟨rfl, hb1⟩
    have HB1 := hide (HB0.out.trans (hb1.mono HB0.out.size))
    clear hb1
    go_wp2
    go_ret
    exact ⟨rfl, HB1.out⟩
  | true =>
    rw [chkB_yes hok] at HC
    rw [hasB_yes hok]
    obtain ⟨a1, a2, a3, a4, a5, a6, a7, a8, a9, a10⟩ := okB_iff.1 hok
    have hl : b.l ≤ 1000000 := Int.le_trans a10 (mul_in a1 a2 a5 a6).2
    clear hok a1 a2 a3 a4 a7 a8 a10
    go_enter Try.func28, Try.ntmps28
    go_wp2_with (refine wpList_load_blk rfl 25 (.tmp 1) rfl w.heap.size rfl 25 b.cs _ HK.out Try.underlying25 rfl rb_size ?_)
    refine (HC.out _).mono ?_
    rintro e w1 ⟨rfl, hb1⟩
    have HB1 := hide (HB0.out.trans (hb1.mono HB0.out.size))
    obtain ⟨d0, d1, d2, d3, d4⟩ := cells5 (HK.out.keep hb1)
    clear hb1
    go_wp2
    go_ret
    exact ⟨rfl, HB1.out⟩
end Go.Proofs.Ytgibhdbhagcpoaa
