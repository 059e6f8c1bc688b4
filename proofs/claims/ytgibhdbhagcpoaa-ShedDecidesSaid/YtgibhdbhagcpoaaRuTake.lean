/-
  Layer 21: the document's Take, of any bucket.
-/
import Derived.Test.YtgibhdbhagcpoaaRuAt
namespace Go.Proofs.Ytgibhdbhagcpoaa
set_option linter.unusedSimpArgs false
set_option linter.unusedVariables false
open Go.RowKit

set_option maxRecDepth 100000 in
set_option maxHeartbeats 1600000 in
theorem ru_Take (b : Bu) (t : Int) (w : World) : Calls Try.prog 22 #[.agg b.cs, .int .i64 t] w fun e w' => e = .returned (.tuple #[.agg (takB b t).1.cs, .bool (takB b t).2]) ∧ Below w.heap.size w w' := by
  have HA := hide (fun w => ru_At b t w)
  have HH := hide (fun w => ru_Has (atB b t) w)
  obtain ⟨g, hg⟩ : ∃ g, g = w.heap.size := ⟨_, rfl⟩
  have HL := hide hg.symm
  have HB := hide (bel2 w (.cells b.cs 25) (.cells #[.int .i64 0, .int .i64 0, .int .i64 0, .int .i64 0, .int .i64 0] 25))
  have HX := hide (show BlkIs _ g _ _ by rw [hg]; exact (BlkIs.new w 25 b.cs).alloc (.cells #[.int .i64 0, .int .i64 0, .int .i64 0, .int .i64 0, .int .i64 0] 25))
  have HZ := hide (show BlkIs _ (g + 1) _ _ by rw [hg]; exact new2 w (.cells b.cs 25) 25 #[.int .i64 0, .int .i64 0, .int .i64 0, .int .i64 0, .int .i64 0])
  have HT := hide (fun h => takB_no (b := b) (t := t) h)
  have HY := hide (fun h => takB_yes (b := b) (t := t) h)
  have HO := hide (fun h => has_ok (b := atB b t) h)
  generalize atB b t = c at *
  by_cases h1 : hasB c < 1
  · rw [HT.out h1]
    generalize hasB c = k at *
    clear HT HY hg HO
    go_enter Try.func22, Try.ntmps22
    go_wp2_with (first | (rw [HL.out]; done) | (refine wpList_load_blk rfl 25 (.tmp 2) rfl g (by rw [← HL.out]; rfl) 25 b.cs _ HX.out Try.underlying25 rfl rb_size ?_))
    rw [HL.out]
    refine (HA.out _).mono ?_
    rintro e w1 ⟨rfl, hb1⟩
    have HX1 := hide (HX.out.keep hb1)
    have HZ1 := hide (HZ.out.keep hb1)
    have HB1 := hide (HB.out.trans (hb1.mono HB.out.size))
    clear hb1 HX HZ HB HA
    have HX2 := hide (HX1.out.row c.cs)
    have HZ2 := hide (HZ1.out.row_other (g' := g) (by omega) c.cs)
    have HB2 := hide (below_setRow HB1.out (g := g) (by rw [HL.out]; exact Nat.le_refl _) c.cs)
    go_wp2_with (first
      | (refine wpList_store_blk rfl 25 (.tmp 2) (.tmp 8) rfl g c.cs _ 25 rfl rfl HX1.out rb_size rfl (Bu.cs_one c) ?_; generalize w1.setRow g c.cs = w2 at *; clear HX1 HZ1 HB1)
      | (refine wpList_load_blk rfl 25 (.tmp 2) rfl g rfl 25 c.cs _ HX2.out Try.underlying25 rfl rb_size ?_))
    refine (HH.out _).mono ?_
    rintro e w3 ⟨rfl, hb3⟩
    have HX3 := hide (HX2.out.keep hb3)
    have HZ3 := hide (HZ2.out.keep hb3)
    have HB3 := hide (HB2.out.trans (hb3.mono HB2.out.size))
    clear hb3 HX2 HZ2 HB2 HH
    go_wp2_with (first
      | (refine wpList_store_blk rfl 25 (.tmp 4) (.tmp 12) rfl (g + 1) c.cs _ 25 rfl rfl HZ3.out rb_size rfl (Bu.cs_one c) ?_)
      | (refine wpList_load_blk rfl 25 (.tmp 2) rfl g rfl 25 c.cs _ HX3.out Try.underlying25 rfl rb_size ?_))
    exact bodyPost_ret (results_cell_tmp_blk rfl _ _ (g + 1) 25 c.cs _ rfl (HZ3.out.row _) Try.underlying25 rfl rb_size _ rfl) rfl ⟨rfl, below_setRow HB3.out (by have := HL.out; omega) _⟩
  · rw [HY.out h1]
    obtain ⟨a1, a2, a3, a4, a5, a6, a7, a8, a9, a10⟩ := HO.out h1
    have hl : c.l ≤ 1000000 := Int.le_trans a10 (mul_in a1 a2 a5 a6).2
    obtain ⟨d, hd⟩ : ∃ d : Bu, d = ⟨c.u, c.r, c.p, c.l - c.p, c.n⟩ := ⟨_, rfl⟩
    rw [← hd]
    have HD := hide hd
    generalize hasB c = k at *
    clear HT HY hg HO a1 a2 a3 a4 a7 a8 a10 hd
    go_enter Try.func22, Try.ntmps22
    go_wp2_with (first | (rw [HL.out]; done) | (refine wpList_load_blk rfl 25 (.tmp 2) rfl g (by rw [← HL.out]; rfl) 25 b.cs _ HX.out Try.underlying25 rfl rb_size ?_))
    rw [HL.out]
    refine (HA.out _).mono ?_
    rintro e w1 ⟨rfl, hb1⟩
    have HX1 := hide (HX.out.keep hb1)
    have HZ1 := hide (HZ.out.keep hb1)
    have HB1 := hide (HB.out.trans (hb1.mono HB.out.size))
    clear hb1 HX HZ HB HA
    have HX2 := hide (HX1.out.row c.cs)
    have HZ2 := hide (HZ1.out.row_other (g' := g) (by omega) c.cs)
    have HB2 := hide (below_setRow HB1.out (g := g) (by rw [HL.out]; exact Nat.le_refl _) c.cs)
    go_wp2_with (first
      | (refine wpList_store_blk rfl 25 (.tmp 2) (.tmp 8) rfl g c.cs _ 25 rfl rfl HX1.out rb_size rfl (Bu.cs_one c) ?_; generalize w1.setRow g c.cs = w2 at *; clear HX1 HZ1 HB1)
      | (refine wpList_load_blk rfl 25 (.tmp 2) rfl g rfl 25 c.cs _ HX2.out Try.underlying25 rfl rb_size ?_))
    refine (HH.out _).mono ?_
    rintro e w3 ⟨rfl, hb3⟩
    have HX3 := hide (HX2.out.keep hb3)
    have HZ3 := hide (HZ2.out.keep hb3)
    have HB3 := hide (HB2.out.trans (hb3.mono HB2.out.size))
    clear hb3 HX2 HZ2 HB2 HH
    obtain ⟨d0, d1, d2, d3, d4⟩ := cells5 HX3.out
    have f3 := HX3.out.frozen 3
    have HX4 := hide (show BlkIs (w3.setCell ⟨g, 3, none⟩ (.int .i64 (c.l - c.p))) g 25 d.cs by rw [HD.out]; exact HX3.out.put 3 (.int .i64 (c.l - c.p)))
    have HZ4 := hide (HZ3.out.far (p := ⟨g, 3, none⟩) (by simp) (.int .i64 (c.l - c.p)))
    have HB4 := hide (HB3.out.setCell (p := ⟨g, 3, none⟩) (by rw [HL.out]; exact Nat.le_refl _) (.int .i64 (c.l - c.p)))
    clear HX3 HZ3 HB3 HD
    go_upto_region 5 with (fail)
    generalize w3.setCell ⟨g, 3, none⟩ (.int .i64 (c.l - c.p)) = w4 at *
    clear d0 d1 d2 d3 d4 f3
    go_wp2_with (first
      | (refine wpList_store_blk rfl 25 (.tmp 4) (.tmp 19) rfl (g + 1) d.cs _ 25 rfl rfl HZ4.out rb_size rfl (Bu.cs_one d) ?_)
      | (refine wpList_load_blk rfl 25 (.tmp 2) rfl g rfl 25 d.cs _ HX4.out Try.underlying25 rfl rb_size ?_))
    exact bodyPost_ret (results_cell_tmp_blk rfl _ _ (g + 1) 25 d.cs _ rfl (HZ4.out.row _) Try.underlying25 rfl rb_size _ rfl) rfl ⟨rfl, below_setRow HB4.out (by have := HL.out; omega) _⟩
end Go.Proofs.Ytgibhdbhagcpoaa
