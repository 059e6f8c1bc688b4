/-
  RequestReads: its walk.
-/
import Derived.Test.YtlbhnbloanamfaaDoorRqAwake
import Derived.Test.YtlbhnbloanamfaaDoorRgRead
import Derived.Test.YtlbhnbloanamfaaDoorFdLight
import Derived.BigGuardPart
namespace Go.Proofs.YtlbhnbloanamfaaDoor.requestReads
set_option linter.unusedSimpArgs false
set_option linter.unusedVariables false
open Go.RowKit

theorem mod_light {l : List Fd} (h : lightB l = true) : Mod l := by
  unfold lightB at h
  rw [Bool.and_eq_true, decide_eq_true_eq, List.all_eq_true] at h
  refine ⟨by omega, fun f hf => ?_⟩
  have := h.2 f hf
  unfold smallB at this
  rw [Bool.and_eq_true, decide_eq_true_eq, decide_eq_true_eq] at this
  omega
/-- An answer of Read, its parts by names. -/
theorem ans_parts (l : List Fd) (en : Bool) : ∃ x0 x1 x2 x3 x4 x5 b, ansV (readR l en) = .tuple #[.agg #[.string x0, .string x1, .string x2, .string x3, .int .i64 x4, .int .i64 x5], .bool b] := ⟨_, _, _, _, _, _, _, rfl⟩

set_option maxRecDepth 100000 in
set_option maxHeartbeats 3200000 in
theorem walk (A : Option Addr) (n c : Nat) (l : List Fd) (en : Bool) (w : World) (ht : TabOk w) (hfl : FL w A n c l) :
    Calls Tryd.prog 3 #[.slice A n c, .bool en] w fun e w' => e = .returned (.bool true) ∧ Below w.heap.size w w' := by
  have HT := hide ht
  have HFL := hide hfl
  have HLT := hide (rf_Light A n c l w hfl)
  obtain ⟨lt, hlt⟩ : ∃ x, x = lightB l := ⟨_, rfl⟩
  rw [← hlt] at HLT
  have HLB := hide hlt.symm
  clear ht hfl hlt
  cases lt with
  | false =>
    go_enter Tryd.func3, Tryd.ntmps3
    go_wp2_with fail
    refine HLT.out.mono ?_
    rintro e w1 ⟨rfl, rfl⟩
    clear HLT HFL
    go_wp2_with fail
    refine (aw_awake _ HT.out).mono ?_
    rintro e w4 ⟨rfl, hb⟩
    have HB4 := hide hb
    clear hb
    go_wp2_with fail
    go_ret
    exact ⟨rfl, HB4.out⟩
  | true =>
    have HM := hide (mod_light HLB.out)
    obtain ⟨x0, x1, x2, x3, x4, x5, b, hq⟩ := ans_parts l en
    have HA := hide (fun w h => rq_Read A n c l en w h HM.out)
    have HG := hide (fun w h => rg_Read A n c l en w h HM.out)
    rw [hq] at HA HG
    have HTP := hide (fun w h => rq_Trailers A n c l w h HM.out)
    have HTD := hide (fun w h => rg_Trailers A n c l w h HM.out)
    generalize trailB l = t at HTP HTD
    have s0 := str_same (rfl : x0 = x0)
    have s1 := str_same (rfl : x1 = x1)
    have s2 := str_same (rfl : x2 = x2)
    have s3 := str_same (rfl : x3 = x3)
    clear hq HLB
    go_enter Tryd.func3, Tryd.ntmps3
    go_wp2_with fail
    refine HLT.out.mono ?_
    rintro e w1 ⟨rfl, rfl⟩
    clear HLT
    go_wp2_with fail
    refine (HA.out _ HFL.out).mono ?_
    rintro e w2 ⟨rfl, hb2⟩
    have HB2 := hide (hb2.trans ((bel1 w2 (.cells #[.string x0, .string x1, .string x2, .string x3, .int .i64 x4, .int .i64 x5] 26)).mono hb2.size))
    have HQ2 := hide (BlkIs.new w2 26 #[.string x0, .string x1, .string x2, .string x3, .int .i64 x4, .int .i64 x5])
    clear hb2 HA
    go_upto_region 4 with (fail)
    obtain ⟨W2, hW⟩ : ∃ W, W = w2.alloc (.cells #[.string x0, .string x1, .string x2, .string x3, .int .i64 x4, .int .i64 x5] 26) := ⟨_, rfl⟩
    obtain ⟨g2, hg⟩ : ∃ g, g = w2.heap.size := ⟨_, rfl⟩
    rw [← hW] at HB2 HQ2 ⊢
    rw [← hg] at HQ2 ⊢
    have HF2 := hide (HFL.out.keep HB2.out)
    clear hW hg
    go_wp2_with fail
    refine (HG.out _ HF2.out).mono ?_
    rintro e w3 ⟨rfl, hb3⟩
    have hb3' := hb3.trans ((bel1 w3 (.cells #[.string x0, .string x1, .string x2, .string x3, .int .i64 x4, .int .i64 x5] 29)).mono hb3.size)
    have HB3 := hide (HB2.out.trans (hb3'.mono HB2.out.size))
    have HQ3 := hide (HQ2.out.keep hb3')
    have HR3 := hide (BlkIs.new w3 29 #[.string x0, .string x1, .string x2, .string x3, .int .i64 x4, .int .i64 x5])
    clear hb3 hb3' HG HB2 HQ2 HF2
    go_upto_region 5 with (fail)
    obtain ⟨W3, hW⟩ : ∃ W, W = w3.alloc (.cells #[.string x0, .string x1, .string x2, .string x3, .int .i64 x4, .int .i64 x5] 29) := ⟨_, rfl⟩
    obtain ⟨g3, hg⟩ : ∃ g, g = w3.heap.size := ⟨_, rfl⟩
    rw [← hW] at HB3 HQ3 HR3 ⊢
    rw [← hg] at HR3 ⊢
    clear hW hg
    have HF3 := hide (HFL.out.keep HB3.out)
    have k0 := HQ3.out.cell 0
    have k1 := HQ3.out.cell 1
    have k2 := HQ3.out.cell 2
    have k3 := HQ3.out.cell 3
    have k4 := HQ3.out.cell 4
    have k5 := HQ3.out.cell 5
    have j0 := HR3.out.cell 0
    have j1 := HR3.out.cell 1
    have j2 := HR3.out.cell 2
    have j3 := HR3.out.cell 3
    have j4 := HR3.out.cell 4
    have j5 := HR3.out.cell 5
    simp only [List.getElem?_toArray, List.getElem?_cons_zero, List.getElem?_cons_succ] at k0 k1 k2 k3 k4 k5 j0 j1 j2 j3 j4 j5
    go_wp2_with fail
    refine (HTP.out _ HF3.out).mono ?_
    rintro e w4 ⟨rfl, hb4⟩
    have HB4 := hide (HB3.out.trans (hb4.mono HB3.out.size))
    have HF4 := hide (HFL.out.keep HB4.out)
    clear hb4 HB3 HF3 HQ3 HR3 k0 k1 k2 k3 k4 k5 j0 j1 j2 j3 j4 j5
    go_wp2_with fail
    refine (HTD.out _ HF4.out).mono ?_
    rintro e w5 ⟨rfl, rfl⟩
    go_wp2_with fail
    refine (aw_awake _ (HT.out.keep HB4.out)).mono ?_
    rintro e w6 ⟨rfl, hb⟩
    have HB6 := hide (HB4.out.trans (hb.mono HB4.out.size))
    clear hb
    go_wp2_with fail
    go_ret
    exact ⟨rfl, HB6.out⟩
end Go.Proofs.YtlbhnbloanamfaaDoor.requestReads
