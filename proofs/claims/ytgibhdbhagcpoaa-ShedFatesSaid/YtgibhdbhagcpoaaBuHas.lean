/-
  Layer 21: Has, At: the program's.
-/
import Derived.Test.YtgibhdbhagcpoaaBuCheck
namespace Go.Proofs.Ytgibhdbhagcpoaa
set_option linter.unusedSimpArgs false
set_option linter.unusedVariables false
open Go.RowKit

theorem cells5 {w : World} {g : Nat} {t : TypeId} {b : Bu} (h : BlkIs w g t b.cs) : w.cell? ⟨g, 0, none⟩ = some (.int .i64 b.u) ∧ w.cell? ⟨g, 1, none⟩ = some (.int .i64 b.r) ∧ w.cell? ⟨g, 2, none⟩ = some (.int .i64 b.p) ∧ w.cell? ⟨g, 3, none⟩ = some (.int .i64 b.l) ∧ w.cell? ⟨g, 4, none⟩ = some (.int .i64 b.n) :=
  ⟨(h.cell 0).trans rfl, (h.cell 1).trans rfl, (h.cell 2).trans rfl, (h.cell 3).trans rfl, (h.cell 4).trans rfl⟩

set_option maxHeartbeats 1600000 in
theorem bu_Has (b : Bu) (w : World) : Calls Try.prog 16 #[.agg b.cs] w fun e w' => e = .returned (.int .i64 (hasB b)) ∧ Below w.heap.size w w' := by
  have HC := hide (fun w => bu_Check b w)
  have HB0 := hide (bel1 w (.cells b.cs 26))
  have HK := hide (BlkIs.new w 26 b.cs)
  cases hok : okB b with
  | false =>
    rw [chkB_no hok] at HC
    rw [hasB_no hok]
    clear hok
    go_enter Try.func16, Try.ntmps16
    go_wp2_with (refine wpList_load_blk rfl 26 (.tmp 1) rfl w.heap.size rfl 26 b.cs _ HK.out Try.underlying26 rfl bu_size ?_)
    refine (HC.out _).mono ?_
    rintro e w1 ⟨rfl, hb1⟩
    have HB1 := hide (HB0.out.trans (hb1.mono HB0.out.size))
    clear hb1
    go_wp2
    go_ret
    exact ⟨rfl, HB1.out⟩
  | true =>
    rw [chkB_yes hok] at HC
    rw [hasB_yes hok]
    obtain ⟨a1, a2, a3, a4, a5, a6, a7, a8, a9, a10⟩ := okB_iff.1 hok
    have hl : b.l ≤ 1000000 := Int.le_trans a10 (mul_in a1 a2 a5 a6).2
    clear hok a1 a2 a3 a4 a7 a8 a10
    go_enter Try.func16, Try.ntmps16
    go_wp2_with (refine wpList_load_blk rfl 26 (.tmp 1) rfl w.heap.size rfl 26 b.cs _ HK.out Try.underlying26 rfl bu_size ?_)
    refine (HC.out _).mono ?_
    rintro e w1 ⟨rfl, hb1⟩
    have HB1 := hide (HB0.out.trans (hb1.mono HB0.out.size))
    obtain ⟨d0, d1, d2, d3, d4⟩ := cells5 (HK.out.keep hb1)
    clear hb1
    go_wp2
    go_ret
    exact ⟨rfl, HB1.out⟩
end Go.Proofs.Ytgibhdbhagcpoaa
