/-
  Layer 21: New: the program's.
-/
import Derived.Test.YtgibhdbhagcpoaaBuAt
namespace Go.Proofs.Ytgibhdbhagcpoaa
set_option linter.unusedSimpArgs false
set_option linter.unusedVariables false
open Go.RowKit

/-- A full bucket. -/
def fulB (u r p : Int) : Bu := ⟨u, r, p, u * p, 0⟩
def nilB : Bu := ⟨0, 0, 0, 0, 0⟩
/-- New. -/
def newB (u r p : Int) : Bu × Int := if okB (fulB u r p) then (fulB u r p, 0) else (nilB, 8)
theorem newB_yes {u r p : Int} (h : okB (fulB u r p) = true) : newB u r p = (fulB u r p, 0) := by rw [newB, h]; rfl
theorem newB_no {u r p : Int} (h : okB (fulB u r p) = false) : newB u r p = (nilB, 8) := by rw [newB, h]; rfl
theorem ful_level {u r p z : Int} (hz : 1 ≤ u ∧ u ≤ 1000 ∧ 1 ≤ p ∧ p ≤ 1000 → z = u * p) : okB ⟨u, r, p, z, 0⟩ = okB (fulB u r p) := by
  rw [Bool.eq_iff_iff, okB_iff, okB_iff]
  simp only [Bu.Ok, fulB]
  constructor
  · rintro ⟨a1, a2, a3, a4, a5, a6, a7, a8, a9, a10⟩
    have hm := mul_in a1 a2 a5 a6
    exact ⟨a1, a2, a3, a4, a5, a6, a7, a8, by omega, by omega⟩
  · rintro ⟨a1, a2, a3, a4, a5, a6, a7, a8, a9, a10⟩
    have hm := hz ⟨a1, a2, a5, a6⟩
    exact ⟨a1, a2, a3, a4, a5, a6, a7, a8, by omega, by omega⟩
theorem ful_zero (u r p : Int) : okB ⟨u, r, p, 0, 0⟩ = okB (fulB u r p) := by
  rw [Bool.eq_iff_iff, okB_iff, okB_iff]
  simp only [Bu.Ok, fulB]
  constructor
  · rintro ⟨a1, a2, a3, a4, a5, a6, a7, a8, a9, a10⟩
    have hm := mul_in a1 a2 a5 a6
    exact ⟨a1, a2, a3, a4, a5, a6, a7, a8, by omega, by omega⟩
  · rintro ⟨a1, a2, a3, a4, a5, a6, a7, a8, a9, a10⟩
    have hm := mul_in a1 a2 a5 a6
    exact ⟨a1, a2, a3, a4, a5, a6, a7, a8, by omega, by omega⟩

/-- What full gives, whatever the parts are. -/
def GivesFull (u p : Int) (w : World) (e : Ending) (w' : World) : Prop := ∃ z : Int, (1 ≤ u ∧ u ≤ 1000 ∧ 1 ≤ p ∧ p ≤ 1000 → z = u * p) ∧ e = .returned (.int .i64 z) ∧ Below w.heap.size w w'
theorem bu_full_is (b : Bu) (w : World) : Calls Try.prog 25 #[.agg b.cs] w (GivesFull b.u b.p w) := by
  by_cases h : 1 ≤ b.u ∧ b.u ≤ 1000 ∧ 1 ≤ b.p ∧ b.p ≤ 1000
  · obtain ⟨h1, h2, h3, h4⟩ := h
    obtain ⟨m0, m1⟩ := mul_in h1 h2 h3 h4
    exact (bu_full b w m0 m1).mono fun e w' ⟨he, hb⟩ => ⟨_, fun _ => rfl, he, hb⟩
  · exact (bu_full_any b w).mono fun e w' ⟨⟨z, he⟩, hb⟩ => ⟨z, fun hh => absurd hh h, he, hb⟩

set_option maxRecDepth 100000 in
set_option maxHeartbeats 1600000 in
theorem bu_New (u r p : Int) (w : World) : Calls Try.prog 24 #[.int .i64 u, .int .i64 r, .int .i64 p] w fun e w' => e = .returned (.tuple #[.agg (newB u r p).1.cs, .int .i64 (newB u r p).2]) ∧ Below w.heap.size w w' := by
  have HF := hide (fun w => bu_full_is ⟨u, r, p, 0, 0⟩ w)
  have HC := hide (fun z w => bu_Check ⟨u, r, p, z, 0⟩ w)
  have HFL := hide (fun z hz => ful_level (u := u) (r := r) (p := p) (z := z) hz)
  simp only [Bu.cs] at HF HC
  obtain ⟨g, hg⟩ : ∃ g, g = w.heap.size := ⟨_, rfl⟩
  have HL := hide hg.symm
  have HB := hide (bel2 w (.cells #[.int .i64 0, .int .i64 0, .int .i64 0, .int .i64 0, .int .i64 0] 26) (.cells #[.int .i64 u, .int .i64 r, .int .i64 p, .int .i64 0, .int .i64 0] 26))
  have HZ := hide (show BlkIs _ g _ _ by rw [hg]; exact (BlkIs.new w 26 #[.int .i64 0, .int .i64 0, .int .i64 0, .int .i64 0, .int .i64 0]).alloc (.cells #[.int .i64 u, .int .i64 r, .int .i64 p, .int .i64 0, .int .i64 0] 26))
  have HX := hide (show BlkIs _ (g + 1) _ _ by rw [hg]; exact new2 w (.cells #[.int .i64 0, .int .i64 0, .int .i64 0, .int .i64 0, .int .i64 0] 26) 26 #[.int .i64 u, .int .i64 r, .int .i64 p, .int .i64 0, .int .i64 0])
  clear hg
  go_enter Try.func24, Try.ntmps24
  go_wp2_with fail
  rw [HL.out]
  refine (HF.out _).mono ?_
  rintro e w1 ⟨z, hz, rfl, hb1⟩
  have HX1 := hide (HX.out.keep hb1)
  have HZ1 := hide (HZ.out.keep hb1)
  have HB1 := hide (HB.out.trans (hb1.mono HB.out.size))
  have HN := hide (HFL.out z hz)
  have HQ := hide hz
  clear hb1 HX HZ HB HF HFL hz
  have d3 := (HX1.out.cell 3).trans (show _ = some (Value.int .i64 0) from rfl)
  have f3 := HX1.out.frozen 3
  have HX2 := hide (HX1.out.put 3 (.int .i64 z))
  have HZ2 := hide (HZ1.out.far (p := ⟨g + 1, 3, none⟩) (by simp) (.int .i64 z))
  have HB2 := hide (HB1.out.setCell (p := ⟨g + 1, 3, none⟩) (by have := HL.out; simp; omega) (.int .i64 z))
  simp only [List.setIfInBounds_toArray, List.set_cons_zero, List.set_cons_succ] at HX2
  clear HX1 HZ1 HB1
  go_upto_region 3 with (fail)
  generalize w1.setCell ⟨g + 1, 3, none⟩ (.int .i64 z) = w2 at *
  clear d3 f3
  go_wp2_with (refine wpList_load_blk rfl 26 (.tmp 8) rfl (g + 1) rfl 26 #[.int .i64 u, .int .i64 r, .int .i64 p, .int .i64 z, .int .i64 0] _ HX2.out Try.underlying26 rfl bu_size ?_)
  refine (HC.out z _).mono ?_
  rintro e w3 ⟨rfl, hb3⟩
  have HX3 := hide (HX2.out.keep hb3)
  have HZ3 := hide (HZ2.out.keep hb3)
  have HB3 := hide (HB2.out.trans (hb3.mono HB2.out.size))
  clear hb3 HX2 HZ2 HB2 HC
  cases hok : okB (fulB u r p) with
  | false =>
    have hc : chkB ⟨u, r, p, z, 0⟩ = 8 := chkB_no (by rw [HN.out, hok])
    have HNN := hide (newB_no hok)
    rw [hc]
    clear hc hok HN HQ
    go_wp2_with (first
      | (refine wpList_store_blk rfl 26 (.tmp 6) (.tmp 21) rfl g nilB.cs _ 26 rfl rfl HZ3.out bu_size rfl (Bu.cs_one nilB) ?_))
    exact bodyPost_ret (results_cell_tmp_blk rfl _ _ g 26 nilB.cs _ rfl (HZ3.out.row _) Try.underlying26 rfl bu_size _ rfl) rfl ⟨by rw [HNN.out]; rfl, below_setRow HB3.out (by have := HL.out; omega) _⟩
  | true =>
    have hc : chkB ⟨u, r, p, z, 0⟩ = 0 := chkB_yes (by rw [HN.out, hok])
    have ho := okB_iff.1 hok
    obtain rfl : z = u * p := HQ.out ⟨ho.1, ho.2.1, ho.2.2.2.2.1, ho.2.2.2.2.2.1⟩
    have HNN := hide (newB_yes hok)
    rw [hc]
    clear hc hok HN HQ ho
    unfold fulB at HNN
    generalize u * p = z at *
    go_wp2_with (first
      | (refine wpList_load_blk rfl 26 (.tmp 8) rfl (g + 1) rfl 26 #[.int .i64 u, .int .i64 r, .int .i64 p, .int .i64 z, .int .i64 0] _ HX3.out Try.underlying26 rfl bu_size ?_)
      | (refine wpList_store_blk rfl 26 (.tmp 6) (.tmp 23) rfl g #[.int .i64 u, .int .i64 r, .int .i64 p, .int .i64 z, .int .i64 0] _ 26 rfl rfl HZ3.out bu_size rfl (by simp [Value.oneCell']) ?_))
    exact bodyPost_ret (results_cell_tmp_blk rfl _ _ g 26 #[.int .i64 u, .int .i64 r, .int .i64 p, .int .i64 z, .int .i64 0] _ rfl (HZ3.out.row _) Try.underlying26 rfl bu_size _ rfl) rfl ⟨by rw [HNN.out]; rfl, below_setRow HB3.out (by have := HL.out; omega) _⟩
end Go.Proofs.Ytgibhdbhagcpoaa
