/-
  Layer 21: the document's Wait, tick by tick.
-/
import Derived.Test.YtgibhdbhagcpoaaRuTake
import Derived.Test.YtgibhdbhagcpoaaBuWait
import Derived.Test.YtgibhdbhagcpoaaBuLater
namespace Go.Proofs.Ytgibhdbhagcpoaa
set_option linter.unusedSimpArgs false
set_option linter.unusedVariables false
open Go.RowKit

/-- Rounded up. -/
theorem up_of {x r : Int} (hr : 1 ≤ r) : x ≤ r * ((x + r - 1) / r) ∧ r * ((x + r - 1) / r - 1) < x := by
  have e := Int.mul_ediv_add_emod (x + r - 1) r
  have m0 := Int.emod_nonneg (x + r - 1) (show r ≠ 0 by omega)
  have m1 := Int.emod_lt_of_pos (x + r - 1) (show 0 < r by omega)
  rw [Int.mul_sub, Int.mul_one]
  omega
/-- How many ticks there are from a bucket's own tick to the next token. -/
def waitC (c : Bu) : Int :=
  if okB c = false then -1
  else if 0 < hasB c then 0
  else if c.r = 0 then -1
  else if 1099511627776 < c.n + (c.p - c.l + c.r - 1) / c.r then -1
  else (c.p - c.l + c.r - 1) / c.r
theorem waitB_is (b : Bu) (t : Int) : waitB b t = waitC (atB b t) := rfl
section
variable {c : Bu}
theorem waitC_zero (h : c.Ok) (h1 : c.p ≤ c.l) : waitC c = 0 := by
  rw [waitC, if_neg (by rw [okB_iff.2 h]; simp), if_pos (by have := (has_pos h).2 h1; omega)]
theorem waitC_none (h : c.Ok) (h1 : c.l < c.p) (h2 : c.r = 0) : waitC c = -1 := by
  rw [waitC, if_neg (by rw [okB_iff.2 h]; simp), if_neg (by have := mt (has_pos h).1 (by omega); omega), if_pos h2]
theorem waitC_far (h : c.Ok) (h1 : c.l < c.p) (h2 : 1 ≤ c.r) (h3 : 1099511627776 < c.n + (c.p - c.l + c.r - 1) / c.r) : waitC c = -1 := by
  rw [waitC, if_neg (by rw [okB_iff.2 h]; simp), if_neg (by have := mt (has_pos h).1 (by omega); omega), if_neg (by omega), if_pos h3]
theorem waitC_near (h : c.Ok) (h1 : c.l < c.p) (h2 : 1 ≤ c.r) (h3 : ¬ 1099511627776 < c.n + (c.p - c.l + c.r - 1) / c.r) : waitC c = (c.p - c.l + c.r - 1) / c.r := by
  rw [waitC, if_neg (by rw [okB_iff.2 h]; simp), if_neg (by have := mt (has_pos h).1 (by omega); omega), if_neg (by omega), if_neg h3]
/-- No token at the ticks ahead of the n-th. -/
def NoTok (c : Bu) (n : Int) : Prop := n = 0 ∨ c.l + c.r * (n - 1) < c.p
theorem notok_lt (h : c.Ok) {n : Int} (h0 : 1 ≤ n) (hn : NoTok c n) : c.l < c.p := by
  rcases hn with hn | hn
  · omega
  · have := Int.mul_nonneg h.2.2.1 (show 0 ≤ n - 1 by omega)
    omega
theorem notok_le (h : c.Ok) (hr : 1 ≤ c.r) {n : Int} (h0 : 1 ≤ n) (hn : NoTok c n) : n ≤ (c.p - c.l + c.r - 1) / c.r := by
  obtain ⟨u0, _⟩ := up_of (x := c.p - c.l) hr
  have h1 : c.l + c.r * (n - 1) < c.p := by rcases hn with hn | hn; · omega
                                            · exact hn
  have : c.r * (n - 1) < c.r * ((c.p - c.l + c.r - 1) / c.r) := by omega
  have := Int.lt_of_mul_lt_mul_left this (by omega)
  omega
theorem stop_far (h : c.Ok) {n : Int} (h0 : 0 ≤ n) (hn : NoTok c n) (hf : 1099511627776 - n < c.n) : waitC c = -1 := by
  have hc : c.n ≤ 1099511627776 := h.2.2.2.2.2.2.2.1
  have h1 := notok_lt h (by omega) hn
  by_cases hr : c.r = 0
  · exact waitC_none h h1 hr
  · have hr1 : 1 ≤ c.r := by have := h.2.2.1; omega
    have := notok_le h hr1 (by omega) hn
    exact waitC_far h h1 hr1 (by omega)
theorem stop_yes (h : c.Ok) {n : Int} (h0 : 0 ≤ n) (hn : NoTok c n) (hf : c.n + n ≤ 1099511627776) (ht : 0 < hasB (atB c (c.n + n))) : waitC c = n := by
  have hp := (has_later h h0 hf).1 ht
  by_cases hz : n = 0
  · subst hz
    rw [Int.mul_zero, Int.add_zero] at hp
    exact waitC_zero h hp
  · have h1 := notok_lt h (by omega) hn
    by_cases hr : c.r = 0
    · rw [hr] at hp; omega
    · have hr1 : 1 ≤ c.r := by have := h.2.2.1; omega
      have q0 := notok_le h hr1 (by omega) hn
      obtain ⟨_, u1⟩ := up_of (x := c.p - c.l) hr1
      have : c.r * ((c.p - c.l + c.r - 1) / c.r - 1) < c.r * n := by omega
      have := Int.lt_of_mul_lt_mul_left this (by omega)
      rw [waitC_near h h1 hr1 (by omega)]
      omega
theorem notok_next (h : c.Ok) {n : Int} (h0 : 0 ≤ n) (hf : c.n + n ≤ 1099511627776) (ht : ¬ 0 < hasB (atB c (c.n + n))) : NoTok c (n + 1) := by
  refine .inr ?_
  rw [show n + 1 - 1 = n by omega]
  have := mt (has_later h h0 hf).2 (by omega)
  omega
theorem notok_end (h : c.Ok) (hn : NoTok c 1001) : waitC c = -1 := by
  have h1 := notok_lt h (by omega) hn
  rcases hn with hn | hn
  · omega
  · refine waitC_none h h1 ?_
    obtain ⟨a1, a2, a3, a4, a5, a6, a7, a8, a9, a10⟩ := h
    omega
end

set_option maxRecDepth 100000 in
set_option maxHeartbeats 3200000 in
theorem ru_Wait (b : Bu) (t : Int) (w : World) : Calls Try.prog 30 #[.agg b.cs, .int .i64 t] w fun e w' => e = .returned (.int .i64 (waitB b t)) ∧ Below w.heap.size w w' := by
  have HC := hide (fun w => ru_Check b w)
  have HA := hide (fun w => ru_At b t w)
  rw [waitB_is]
  have HOK := hide (at_okB b t)
  obtain ⟨c, hc⟩ : ∃ c, c = atB b t := ⟨_, rfl⟩
  rw [← hc] at HA HOK ⊢
  clear hc
  obtain ⟨g, hg⟩ : ∃ g, g = w.heap.size := ⟨_, rfl⟩
  have HL := hide hg.symm
  have HB := hide (bel1 w (.cells b.cs 25))
  have HX := hide (show BlkIs _ g _ _ by rw [hg]; exact (BlkIs.new w 25 b.cs))
  clear hg
  cases hok : okB b with
  | false =>
    rw [chkB_no hok] at HC
    have HW := hide (show waitC c = -1 by rw [waitC, if_pos (by rw [HOK.out, hok])])
    rw [HW.out]
    clear hok HOK HW HA
    go_enter Try.func30, Try.ntmps30
    go_wp2_with (refine wpList_load_blk rfl 25 (.tmp 2) rfl g (by rw [← HL.out]; rfl) 25 b.cs _ HX.out Try.underlying25 rfl rb_size ?_)
    refine (HC.out _).mono ?_
    rintro e w1 ⟨rfl, hb1⟩
    have HB1 := hide (HB.out.trans (hb1.mono HB.out.size))
    clear hb1
    go_wp2
    go_ret
    exact ⟨rfl, HB1.out⟩
  | true =>
    rw [chkB_yes hok] at HC
    have HO := hide (okB_iff.1 (HOK.out.trans hok))
    clear hok HOK
    go_enter Try.func30, Try.ntmps30
    go_wp2_with (refine wpList_load_blk rfl 25 (.tmp 2) rfl g (by rw [← HL.out]; rfl) 25 b.cs _ HX.out Try.underlying25 rfl rb_size ?_)
    refine (HC.out _).mono ?_
    rintro e w1 ⟨rfl, hb1⟩
    have HB1 := hide (HB.out.trans (hb1.mono HB.out.size))
    have HX1 := hide (HX.out.keep hb1)
    clear hb1 HB HX
    rw [HL.out]
    go_wp2_with (refine wpList_load_blk rfl 25 (.tmp 2) rfl g rfl 25 b.cs _ HX1.out Try.underlying25 rfl rb_size ?_)
    refine (HA.out _).mono ?_
    rintro e w2 ⟨rfl, hb2⟩
    have HX2 := hide (HX1.out.keep hb2)
    have HB2 := hide (below_setRow (HB1.out.trans (hb2.mono HB1.out.size)) (g := g) (by rw [HL.out]; exact Nat.le_refl _) c.cs)
    have HX3 := hide (HX2.out.row c.cs)
    clear hb2 HX1 HB1 HA HC
    go_upto_region 4 with (refine wpList_store_blk rfl 25 (.tmp 2) (.tmp 11) rfl g c.cs _ 25 rfl rfl HX2.out rb_size rfl (Bu.cs_one c) ?_)
    generalize w2.setRow g c.cs = w3 at *
    clear HX2
    have hn0 : 0 ≤ c.n := HO.out.2.2.2.2.2.2.1
    have hn1 : c.n ≤ 1099511627776 := HO.out.2.2.2.2.2.2.2.1
    go_wp2_with fail
    go_loopw [5] (fun s5 wr => ∃ n : Nat, n ≤ 1001 ∧ s5 = .int .i64 (n : Int) ∧ Hid (BlkIs wr g 25 c.cs) ∧ Hid (Below w.heap.size w wr) ∧ Hid (NoTok c n)) (fun s5 _ => 1001 - (intOf s5).toNat)
    case atStart => exact ⟨0, by omega, rfl, HX3.out, HB2.out, .inl rfl⟩
    case round =>
      clear HX3 HB2
      obtain ⟨n, hn, rfl, HX, HB, HN⟩ := hrel
      obtain ⟨d0, d1, d2, d3, d4⟩ := cells5 HX.out
      clear d0 d1 d2 d3
      by_cases hlt : n ≤ 1000
      · have hlt' : (n : Int) ≤ 1000 := by omega
        by_cases hf : 1099511627776 - (n : Int) < c.n
        · have HW := hide (stop_far HO.out (by omega) HN.out hf)
          go_wp2
          go_ret
          exact ⟨by rw [HW.out]; rfl, HB.out⟩
        · have hf' : decide (1099511627776 - (n : Int) < c.n) = false := decide_eq_false hf
          have HA := hide (fun w => ru_At c (c.n + n) w)
          have HH := hide (fun w => ru_Has (atB c (c.n + n)) w)
          by_cases ht : 0 < hasB (atB c (c.n + n))
          · have HW := hide (stop_yes HO.out (by omega) HN.out (by omega) ht)
            generalize hasB (atB c (c.n + n)) = q at *
            generalize atB c (c.n + n) = y at *
            clear hf
            go_wp2_with (refine wpList_load_blk rfl 25 (.tmp 2) rfl g rfl 25 c.cs _ HX.out Try.underlying25 rfl rb_size ?_)
            refine (HA.out _).mono ?_
            rintro e w4 ⟨rfl, hb4⟩
            have HB4 := hide (HB.out.trans (hb4.mono HB.out.size))
            clear hb4 d4
            go_wp2_with fail
            refine (HH.out _).mono ?_
            rintro e w5 ⟨rfl, hb5⟩
            have HB5 := hide (HB4.out.trans (hb5.mono HB4.out.size))
            clear hb5
            go_wp2
            go_ret
            exact ⟨by rw [HW.out]; rfl, HB5.out⟩
          · have HNN := hide (notok_next HO.out (by omega) (by omega) ht)
            have ht' : decide (0 < hasB (atB c (c.n + n))) = false := decide_eq_false ht
            clear ht
            generalize hasB (atB c (c.n + n)) = q at *
            generalize atB c (c.n + n) = y at *
            clear hf
            go_wp2_with (refine wpList_load_blk rfl 25 (.tmp 2) rfl g rfl 25 c.cs _ HX.out Try.underlying25 rfl rb_size ?_)
            refine (HA.out _).mono ?_
            rintro e w4 ⟨rfl, hb4⟩
            have HB4 := hide (HB.out.trans (hb4.mono HB.out.size))
            have HX4 := hide (HX.out.keep hb4)
            clear hb4 d4
            go_wp2_with fail
            refine (HH.out _).mono ?_
            rintro e w5 ⟨rfl, hb5⟩
            have HB5 := hide (HB4.out.trans (hb5.mono HB4.out.size))
            have HX5 := hide (HX4.out.keep hb5)
            clear hb5
            go_wp2
            go_roundw
            case rel => exact ⟨n + 1, by omega, by go_num, HX5.out, HB5.out, HNN.out⟩
            case measure => simp [intOf]; omega
      · have hlt' : ¬ (n : Int) ≤ 1000 := by omega
        have HW := hide (notok_end HO.out (by have := HN.out; rwa [show (n : Int) = 1001 by omega] at this))
        go_wp2
        go_ret
        exact ⟨by rw [HW.out]; rfl, HB.out⟩
end Go.Proofs.Ytgibhdbhagcpoaa
