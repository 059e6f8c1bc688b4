/-
  Layer 21: Wait: the program's.
-/
import Derived.Test.YtgibhdbhagcpoaaBuTake
namespace Go.Proofs.Ytgibhdbhagcpoaa
set_option linter.unusedSimpArgs false
set_option linter.unusedVariables false
open Go.RowKit

theorem wait_in {p l r : Int} (h0 : 0 ≤ l) (h1 : l < p) (h2 : p ≤ 1000) (h3 : 1 ≤ r) (h4 : r ≤ 1000) : 1 ≤ (p - l + r - 1) / r ∧ (p - l + r - 1) / r ≤ 2000 := by
  refine ⟨(Int.le_ediv_iff_mul_le (by omega)).2 (by omega), ?_⟩
  have : (p - l + r - 1) / r ≤ p - l + r - 1 := Int.ediv_le_self _ (by omega)
  omega
theorem has_lt {b : Bu} (h : b.Ok) (h1 : ¬ 0 < hasB b) : b.l < b.p := by
  have := has_pos h
  omega

set_option maxRecDepth 100000 in
set_option maxHeartbeats 3200000 in
theorem bu_Wait (b : Bu) (t : Int) (w : World) : Calls Try.prog 21 #[.agg b.cs, .int .i64 t] w fun e w' => e = .returned (.int .i64 (waitB b t)) ∧ Below w.heap.size w w' := by
  have HA := hide (fun w => bu_At b t w)
  have HH := hide (fun w => bu_Has (atB b t) w)
  have HC := hide (fun w => bu_Check (atB b t) w)
  obtain ⟨g, hg⟩ : ∃ g, g = w.heap.size := ⟨_, rfl⟩
  have HL := hide hg.symm
  have HB := hide (bel1 w (.cells b.cs 26))
  have HX := hide (show BlkIs _ g _ _ by rw [hg]; exact (BlkIs.new w 26 b.cs))
  have Y1 := hide (fun h => waitB_bad (b := b) (t := t) h)
  have Y2 := hide (fun h h1 => waitB_has (b := b) (t := t) h h1)
  have Y3 := hide (fun h h1 h2 => waitB_none (b := b) (t := t) h h1 h2)
  have Y4 := hide (fun h h1 h2 h3 => waitB_far (b := b) (t := t) h h1 h2 h3)
  have Y5 := hide (fun h h1 h2 h3 => waitB_near (b := b) (t := t) h h1 h2 h3)
  generalize waitB b t = z at *
  generalize atB b t = c at *
  clear hg
  cases hok : okB c with
  | false =>
    rw [chkB_no hok] at HC
    rw [Y1.out hok]
    clear Y1 Y2 Y3 Y4 Y5 HH hok
    go_enter Try.func21, Try.ntmps21
    go_wp2_with (refine wpList_load_blk rfl 26 (.tmp 2) rfl g (by rw [← HL.out]; rfl) 26 b.cs _ HX.out Try.underlying26 rfl bu_size ?_)
    rw [HL.out]
    refine (HA.out _).mono ?_
    rintro e w1 ⟨rfl, hb1⟩
    have HX1 := hide (HX.out.keep hb1)
    have HB1 := hide (HB.out.trans (hb1.mono HB.out.size))
    clear hb1 HX HB HA
    have HX2 := hide (HX1.out.row c.cs)
    have HB2 := hide (below_setRow HB1.out (g := g) (by rw [HL.out]; exact Nat.le_refl _) c.cs)
    go_wp2_with (first
      | (refine wpList_store_blk rfl 26 (.tmp 2) (.tmp 8) rfl g c.cs _ 26 rfl rfl HX1.out bu_size rfl (Bu.cs_one c) ?_; generalize w1.setRow g c.cs = w2 at *; clear HX1 HB1)
      | (refine wpList_load_blk rfl 26 (.tmp 2) rfl g rfl 26 c.cs _ HX2.out Try.underlying26 rfl bu_size ?_))
    refine (HC.out _).mono ?_
    rintro e w3 ⟨rfl, hb3⟩
    have HX3 := hide (HX2.out.keep hb3)
    have HB3 := hide (HB2.out.trans (hb3.mono HB2.out.size))
    clear hb3 HX2 HB2 HC
    go_wp2
    go_ret
    exact ⟨rfl, HB3.out⟩
  | true =>
    rw [chkB_yes hok] at HC
    obtain ⟨a1, a2, a3, a4, a5, a6, a7, a8, a9, a10⟩ := okB_iff.1 hok
    by_cases h1 : 0 < hasB c
    · rw [Y2.out hok h1]
      generalize hasB c = k at *
      clear Y1 Y2 Y3 Y4 Y5 hok a1 a2 a3 a4 a5 a6 a7 a8 a9 a10
      go_enter Try.func21, Try.ntmps21
      go_wp2_with (refine wpList_load_blk rfl 26 (.tmp 2) rfl g (by rw [← HL.out]; rfl) 26 b.cs _ HX.out Try.underlying26 rfl bu_size ?_)
      rw [HL.out]
      refine (HA.out _).mono ?_
      rintro e w1 ⟨rfl, hb1⟩
      have HX1 := hide (HX.out.keep hb1)
      have HB1 := hide (HB.out.trans (hb1.mono HB.out.size))
      clear hb1 HX HB HA
      have HX2 := hide (HX1.out.row c.cs)
      have HB2 := hide (below_setRow HB1.out (g := g) (by rw [HL.out]; exact Nat.le_refl _) c.cs)
      go_wp2_with (first
        | (refine wpList_store_blk rfl 26 (.tmp 2) (.tmp 8) rfl g c.cs _ 26 rfl rfl HX1.out bu_size rfl (Bu.cs_one c) ?_; generalize w1.setRow g c.cs = w2 at *; clear HX1 HB1)
        | (refine wpList_load_blk rfl 26 (.tmp 2) rfl g rfl 26 c.cs _ HX2.out Try.underlying26 rfl bu_size ?_))
      refine (HC.out _).mono ?_
      rintro e w3 ⟨rfl, hb3⟩
      have HX3 := hide (HX2.out.keep hb3)
      have HB3 := hide (HB2.out.trans (hb3.mono HB2.out.size))
      clear hb3 HX2 HB2 HC
      go_wp2_with (refine wpList_load_blk rfl 26 (.tmp 2) rfl g rfl 26 c.cs _ HX3.out Try.underlying26 rfl bu_size ?_)
      refine (HH.out _).mono ?_
      rintro e w4 ⟨rfl, hb4⟩
      have HX4 := hide (HX3.out.keep hb4)
      have HB4 := hide (HB3.out.trans (hb4.mono HB3.out.size))
      obtain ⟨d0, d1, d2, d3, d4⟩ := cells5 HX4.out
      clear hb4 HX3 HB3 HH
      go_wp2
      go_ret
      exact ⟨rfl, HB4.out⟩
    · by_cases h2 : c.r = 0
      · rw [Y3.out hok h1 h2]
        generalize hasB c = k at *
        have h1' : k ≤ 0 := by omega
        have H2 := hide h2
        clear Y1 Y2 Y3 Y4 Y5 hok a1 a2 a3 a4 a5 a6 a7 a8 a9 a10 h1 h2
        go_enter Try.func21, Try.ntmps21
        go_wp2_with (refine wpList_load_blk rfl 26 (.tmp 2) rfl g (by rw [← HL.out]; rfl) 26 b.cs _ HX.out Try.underlying26 rfl bu_size ?_)
        rw [HL.out]
        refine (HA.out _).mono ?_
        rintro e w1 ⟨rfl, hb1⟩
        have HX1 := hide (HX.out.keep hb1)
        have HB1 := hide (HB.out.trans (hb1.mono HB.out.size))
        clear hb1 HX HB HA
        have HX2 := hide (HX1.out.row c.cs)
        have HB2 := hide (below_setRow HB1.out (g := g) (by rw [HL.out]; exact Nat.le_refl _) c.cs)
        go_wp2_with (first
          | (refine wpList_store_blk rfl 26 (.tmp 2) (.tmp 8) rfl g c.cs _ 26 rfl rfl HX1.out bu_size rfl (Bu.cs_one c) ?_; generalize w1.setRow g c.cs = w2 at *; clear HX1 HB1)
          | (refine wpList_load_blk rfl 26 (.tmp 2) rfl g rfl 26 c.cs _ HX2.out Try.underlying26 rfl bu_size ?_))
        refine (HC.out _).mono ?_
        rintro e w3 ⟨rfl, hb3⟩
        have HX3 := hide (HX2.out.keep hb3)
        have HB3 := hide (HB2.out.trans (hb3.mono HB2.out.size))
        clear hb3 HX2 HB2 HC
        go_wp2_with (refine wpList_load_blk rfl 26 (.tmp 2) rfl g rfl 26 c.cs _ HX3.out Try.underlying26 rfl bu_size ?_)
        refine (HH.out _).mono ?_
        rintro e w4 ⟨rfl, hb4⟩
        have HX4 := hide (HX3.out.keep hb4)
        have HB4 := hide (HB3.out.trans (hb4.mono HB3.out.size))
        obtain ⟨d0, d1, d2, d3, d4⟩ := cells5 HX4.out
        clear hb4 HX3 HB3 HH
        rw [H2.out] at d1
        go_wp2
        go_ret
        exact ⟨rfl, HB4.out⟩
      · have hlt := has_lt (okB_iff.1 hok) h1
        have hr : 1 ≤ c.r := by omega
        obtain ⟨q0, q1⟩ := wait_in a9 hlt a6 hr a4
        obtain ⟨q, hq⟩ : ∃ q, q = (c.p - c.l + c.r - 1) / c.r := ⟨_, rfl⟩
        rw [← hq] at q0 q1 Y4 Y5
        have HQ := hide hq.symm
        by_cases h3 : 1099511627776 < c.n + q
        · rw [Y4.out hok h1 h2 h3]
          generalize hasB c = k at *
          have h1' : k ≤ 0 := by omega
          have h2' : (c.r == 0) = false := by simp; omega
          have h3' : ¬ c.n + q ≤ 1099511627776 := by omega
          clear Y1 Y2 Y3 Y4 Y5 hok a1 a2 a3 a10 h1 h2 hq
          go_enter Try.func21, Try.ntmps21
          go_wp2_with (refine wpList_load_blk rfl 26 (.tmp 2) rfl g (by rw [← HL.out]; rfl) 26 b.cs _ HX.out Try.underlying26 rfl bu_size ?_)
          rw [HL.out]
          refine (HA.out _).mono ?_
          rintro e w1 ⟨rfl, hb1⟩
          have HX1 := hide (HX.out.keep hb1)
          have HB1 := hide (HB.out.trans (hb1.mono HB.out.size))
          clear hb1 HX HB HA
          have HX2 := hide (HX1.out.row c.cs)
          have HB2 := hide (below_setRow HB1.out (g := g) (by rw [HL.out]; exact Nat.le_refl _) c.cs)
          go_wp2_with (first
            | (refine wpList_store_blk rfl 26 (.tmp 2) (.tmp 8) rfl g c.cs _ 26 rfl rfl HX1.out bu_size rfl (Bu.cs_one c) ?_; generalize w1.setRow g c.cs = w2 at *; clear HX1 HB1)
            | (refine wpList_load_blk rfl 26 (.tmp 2) rfl g rfl 26 c.cs _ HX2.out Try.underlying26 rfl bu_size ?_))
          refine (HC.out _).mono ?_
          rintro e w3 ⟨rfl, hb3⟩
          have HX3 := hide (HX2.out.keep hb3)
          have HB3 := hide (HB2.out.trans (hb3.mono HB2.out.size))
          clear hb3 HX2 HB2 HC
          go_wp2_with (refine wpList_load_blk rfl 26 (.tmp 2) rfl g rfl 26 c.cs _ HX3.out Try.underlying26 rfl bu_size ?_)
          refine (HH.out _).mono ?_
          rintro e w4 ⟨rfl, hb4⟩
          have HX4 := hide (HX3.out.keep hb4)
          have HB4 := hide (HB3.out.trans (hb4.mono HB3.out.size))
          obtain ⟨d0, d1, d2, d3, d4⟩ := cells5 HX4.out
          clear hb4 HX3 HB3 HH
          clear HL HX4
          go_upto_region 9 with (fail)
          rw [HQ.out]
          go_wp2
          go_ret
          exact ⟨rfl, HB4.out⟩
        · rw [Y5.out hok h1 h2 h3]
          generalize hasB c = k at *
          have h1' : k ≤ 0 := by omega
          have h2' : (c.r == 0) = false := by simp; omega
          have h3' : c.n + q ≤ 1099511627776 := by omega
          clear Y1 Y2 Y3 Y4 Y5 hok a1 a2 a3 a10 h1 h2 hq
          go_enter Try.func21, Try.ntmps21
          go_wp2_with (refine wpList_load_blk rfl 26 (.tmp 2) rfl g (by rw [← HL.out]; rfl) 26 b.cs _ HX.out Try.underlying26 rfl bu_size ?_)
          rw [HL.out]
          refine (HA.out _).mono ?_
          rintro e w1 ⟨rfl, hb1⟩
          have HX1 := hide (HX.out.keep hb1)
          have HB1 := hide (HB.out.trans (hb1.mono HB.out.size))
          clear hb1 HX HB HA
          have HX2 := hide (HX1.out.row c.cs)
          have HB2 := hide (below_setRow HB1.out (g := g) (by rw [HL.out]; exact Nat.le_refl _) c.cs)
          go_wp2_with (first
            | (refine wpList_store_blk rfl 26 (.tmp 2) (.tmp 8) rfl g c.cs _ 26 rfl rfl HX1.out bu_size rfl (Bu.cs_one c) ?_; generalize w1.setRow g c.cs = w2 at *; clear HX1 HB1)
            | (refine wpList_load_blk rfl 26 (.tmp 2) rfl g rfl 26 c.cs _ HX2.out Try.underlying26 rfl bu_size ?_))
          refine (HC.out _).mono ?_
          rintro e w3 ⟨rfl, hb3⟩
          have HX3 := hide (HX2.out.keep hb3)
          have HB3 := hide (HB2.out.trans (hb3.mono HB2.out.size))
          clear hb3 HX2 HB2 HC
          go_wp2_with (refine wpList_load_blk rfl 26 (.tmp 2) rfl g rfl 26 c.cs _ HX3.out Try.underlying26 rfl bu_size ?_)
          refine (HH.out _).mono ?_
          rintro e w4 ⟨rfl, hb4⟩
          have HX4 := hide (HX3.out.keep hb4)
          have HB4 := hide (HB3.out.trans (hb4.mono HB3.out.size))
          obtain ⟨d0, d1, d2, d3, d4⟩ := cells5 HX4.out
          clear hb4 HX3 HB3 HH
          clear HL HX4
          go_upto_region 9 with (fail)
          rw [HQ.out]
          go_wp2
          go_ret
          exact ⟨rfl, HB4.out⟩
end Go.Proofs.Ytgibhdbhagcpoaa
