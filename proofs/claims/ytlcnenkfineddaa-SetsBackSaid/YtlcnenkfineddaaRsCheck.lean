/-
  Layer 12: Check: the document's.
-/
import Derived.Test.YtlcnenkfineddaaRsSmall
import Derived.BigGuardPart
import Derived.Deep.QuietTactic
import Derived.BigQuiet
namespace Go.Proofs.Ytlcnenkfineddaa
set_option linter.unusedSimpArgs false
set_option linter.unusedVariables false
open Go.RowKit

/-- All from 0 to 2^32 - 1, up to place k. -/
def inTo (v : Vs) (k : Nat) : Prop := ∀ j, 1 ≤ j → j ≤ k → 0 ≤ v.at j ∧ v.at j ≤ 4294967295
theorem inTo_next {v : Vs} {k : Nat} (h : inTo v k) (h0 : 0 ≤ v.at (k + 1)) (h1 : v.at (k + 1) ≤ 4294967295) : inTo v (k + 1) := fun j j1 jk => by
  by_cases e : j = k + 1
  · subst e; exact ⟨h0, h1⟩
  · exact h j j1 (by omega)
theorem no_at {v : Vs} {k : Nat} (h1 : 1 ≤ k) (h6 : k ≤ 6) (h : ¬ (0 ≤ v.at k ∧ v.at k ≤ 4294967295)) : okB v = false := by
  cases ho : okB v with
  | false => rfl
  | true => exact absurd (ok_at ho k) h
theorem ok_of_six {v : Vs} (h : inTo v 6) : okB v = (decide (v.p ≤ 1) && decide (v.w ≤ 2147483647) && decide (16384 ≤ v.f) && decide (v.f ≤ 16777215)) := by
  have a1 := h 1 (by omega) (by omega)
  have a2 := h 2 (by omega) (by omega)
  have a3 := h 3 (by omega) (by omega)
  have a4 := h 4 (by omega) (by omega)
  have a5 := h 5 (by omega) (by omega)
  have a6 := h 6 (by omega) (by omega)
  simp only [Vs.at] at a1 a2 a3 a4 a5 a6
  rw [Bool.eq_iff_iff, okB_iff]
  simp only [Bool.and_eq_true, decide_eq_true_iff]
  omega

set_option maxRecDepth 100000 in
set_option maxHeartbeats 3200000 in
theorem rs_Check (v : Vs) (w : World) : Calls Try.prog 11 #[.agg v.cs] w fun e w' => e = .returned (.int .i64 (chkV v)) ∧ Below w.heap.size w w' := by
  have HA := hide (fun w => rs_all v w)
  have HO6 := hide (fun h => ok_of_six (v := v) h)
  have HNO := hide (fun k h1 h6 h => no_at (v := v) (k := k) h1 h6 h)
  have HY := hide (show okB v = true → chkV v = 0 from chkV_yes)
  have HN := hide (show okB v = false → chkV v = 8 from chkV_no)
  have HB0 := hide (bel1 w (.cells v.cs 23))
  obtain ⟨g, hg⟩ : ∃ g, g = w.heap.size := ⟨_, rfl⟩
  have HK := hide (show BlkIs (w.alloc (.cells v.cs 23)) g 23 v.cs by rw [hg]; exact BlkIs.new w _ _)
  generalize okB v = ok at *
  generalize chkV v = c at *
  go_enter Try.func11, Try.ntmps11
  go_wp2_with (refine wpList_load_blk rfl 23 (.tmp 1) rfl w.heap.size rfl 23 v.cs _ (hg ▸ HK.out) Try.underlying23 rfl rs_size ?_)
  refine (HA.out _).mono ?_
  rintro e w1 ⟨h, rfl, hk, hle, hb⟩
  rw [← hg]
  clear hg
  have HK1 := hide (HK.out.keep hb)
  have HR1 := hide hk
  have HB1 := hide (HB0.out.trans (hb.mono HB0.out.size))
  clear hk hle hb HK HB0 HA
  go_wp2_with fail
  go_loopw [4] (fun k wr => ∃ i : Nat, i ≤ 6 ∧ k = .int .i64 (i : Int) ∧ inTo v i ∧ BlkIs wr g 23 v.cs ∧ BlkIs wr h 3 v.cs ∧ Below w.heap.size w wr) (fun k _ => 6 - (intOf k).toNat)
  case atStart => exact ⟨0, by omega, rfl, fun j j1 j0 => by omega, HK1.out, HR1.out, HB1.out⟩
  case round =>
    clear HK1 HR1 HB1
    obtain ⟨i, hi, rfl, hin, hk, hr, hb⟩ := hrel
    have HIN := hide hin
    have HK := hide hk
    have HR := hide hr
    have HB := hide hb
    clear hin hk hr hb
    by_cases hlt : i < 6
    · have hlt' : (i : Int) < 6 := by omega
      have h0 : (0 : Int) ≤ (i : Int) := by omega
      have c1 := (HR.out.cell i).trans (v.cs_at i (by omega))
      have HNI := hide (HNO.out (i + 1) (by omega) (by omega))
      have HNX := hide (inTo_next HIN.out)
      generalize v.at (i + 1) = x at *
      clear HNO HO6 HIN
      by_cases hx0 : x < 0
      · go_wp2
        go_ret
        exact ⟨by rw [HN.out (HNI.out (by omega))]; rfl, HB.out⟩
      · by_cases hx1 : 4294967295 < x
        · go_wp2
          go_ret
          exact ⟨by rw [HN.out (HNI.out (by omega))]; rfl, HB.out⟩
        · go_wp2
          go_roundw
          case rel => exact ⟨i + 1, by omega, by go_num, HNX.out (by omega) (by omega), HK.out, HR.out, HB.out⟩
          case measure => simp [intOf]; omega
    · obtain rfl : i = 6 := by omega
      have HO := hide (HO6.out HIN.out)
      clear HO6 HNO HIN HR
      have c1 := (HK.out.cell 1).trans (v.cs_at 1 (by omega))
      have c3 := (HK.out.cell 3).trans (v.cs_at 3 (by omega))
      have c4 := (HK.out.cell 4).trans (v.cs_at 4 (by omega))
      simp only [Vs.at] at c1 c3 c4
      generalize v.p = p at *
      generalize v.w = wn at *
      generalize v.f = f at *
      by_cases h1 : p ≤ 1
      · by_cases h2 : wn ≤ 2147483647
        · by_cases h3 : 16384 ≤ f
          · by_cases h4 : f ≤ 16777215
            · have HC := hide (HY.out (by rw [HO.out]; simp [h1, h2, h3, h4]))
              clear HO HY HN
              go_wp2
              all_goals first
                | (exfalso; omega)
                | (go_ret; exact ⟨by rw [HC.out]; rfl, HB.out⟩)
            · have HC := hide (HN.out (by rw [HO.out]; simp [h1, h2, h3, h4]))
              clear HO HY HN
              go_wp2
              all_goals first
                | (exfalso; omega)
                | (go_ret; exact ⟨by rw [HC.out]; rfl, HB.out⟩)
          · have HC := hide (HN.out (by rw [HO.out]; simp [h1, h2, h3]))
            clear HO HY HN
            go_wp2
            all_goals first
              | (exfalso; omega)
              | (go_ret; exact ⟨by rw [HC.out]; rfl, HB.out⟩)
        · have HC := hide (HN.out (by rw [HO.out]; simp [h1, h2]))
          clear HO HY HN
          go_wp2
          all_goals first
            | (exfalso; omega)
            | (go_ret; exact ⟨by rw [HC.out]; rfl, HB.out⟩)
      · have HC := hide (HN.out (by rw [HO.out]; simp [h1]))
        clear HO HY HN
        go_wp2
        all_goals first
          | (exfalso; omega)
          | (go_ret; exact ⟨by rw [HC.out]; rfl, HB.out⟩)
end Go.Proofs.Ytlcnenkfineddaa
