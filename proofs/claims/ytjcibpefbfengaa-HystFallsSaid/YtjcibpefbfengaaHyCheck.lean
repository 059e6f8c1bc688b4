/-
  Layer 22: Check: the program's and the document's.
-/
import Derived.Test.YtjcibpefbfengaaHySmall
namespace Go.Proofs.Ytjcibpefbfengaa
set_option linter.unusedSimpArgs false
set_option linter.unusedVariables false
open Go.RowKit

set_option maxRecDepth 100000 in
set_option maxHeartbeats 1600000 in
theorem hy_Check (x : Hy) (w : World) : Calls Try.prog 9 #[.agg x.cs] w fun e w' => e = .returned (.int .i64 (chkH x)) ∧ Below w.heap.size w w' := by
  obtain ⟨l, a, b, lo, hi, q, c⟩ := x
  have H := hide hy_isFrom
  have HB := hide (bel1 w (.cells (Hy.cs ⟨l, a, b, lo, hi, q, c⟩) 24))
  simp only [Hy.cs] at HB ⊢
  by_cases k0 : decide (b ≤ 16) = false
  · rw [chkH_no (okH_no.2 (fun h => by obtain ⟨a1, a2, a3, a4, a5, a6, a7, a8, a9, a10, a11, a12⟩ := h; simp only at a1 a2 a3 a4 a5 a6 a7 a8 a9 a10 a11 a12; have j0 := decide_eq_false_iff_not.1 k0; omega))]
    go_enter Try.func9, Try.ntmps9
    go_wp2_with (go_at_call 14; refine (H.out _ _ _ _).mono ?_; rintro e w1 ⟨rfl, rfl⟩)
    go_ret
    exact ⟨rfl, HB.out⟩
  replace k0 : decide (b ≤ 16) = true := by cases h : decide (b ≤ 16) <;> simp_all
  by_cases k1 : inI 1 a b = false
  · rw [chkH_no (okH_no.2 (fun h => by obtain ⟨a1, a2, a3, a4, a5, a6, a7, a8, a9, a10, a11, a12⟩ := h; simp only at a1 a2 a3 a4 a5 a6 a7 a8 a9 a10 a11 a12; have j0 := decide_eq_true_iff.1 k0; have j1 := inI_no.1 k1; omega))]
    go_enter Try.func9, Try.ntmps9
    go_wp2_with (go_at_call 14; refine (H.out _ _ _ _).mono ?_; rintro e w1 ⟨rfl, rfl⟩)
    go_ret
    exact ⟨rfl, HB.out⟩
  replace k1 : inI 1 a b = true := by simpa using k1
  by_cases k2 : inI a l b = false
  · rw [chkH_no (okH_no.2 (fun h => by obtain ⟨a1, a2, a3, a4, a5, a6, a7, a8, a9, a10, a11, a12⟩ := h; simp only at a1 a2 a3 a4 a5 a6 a7 a8 a9 a10 a11 a12; have j0 := decide_eq_true_iff.1 k0; have j1 := inI_yes.1 k1; have j2 := inI_no.1 k2; omega))]
    go_enter Try.func9, Try.ntmps9
    go_wp2_with (go_at_call 14; refine (H.out _ _ _ _).mono ?_; rintro e w1 ⟨rfl, rfl⟩)
    go_ret
    exact ⟨rfl, HB.out⟩
  replace k2 : inI a l b = true := by simpa using k2
  by_cases k3 : decide (hi ≤ 1099511627776) = false
  · rw [chkH_no (okH_no.2 (fun h => by obtain ⟨a1, a2, a3, a4, a5, a6, a7, a8, a9, a10, a11, a12⟩ := h; simp only at a1 a2 a3 a4 a5 a6 a7 a8 a9 a10 a11 a12; have j0 := decide_eq_true_iff.1 k0; have j1 := inI_yes.1 k1; have j2 := inI_yes.1 k2; have j3 := decide_eq_false_iff_not.1 k3; omega))]
    go_enter Try.func9, Try.ntmps9
    go_wp2_with (go_at_call 14; refine (H.out _ _ _ _).mono ?_; rintro e w1 ⟨rfl, rfl⟩)
    go_ret
    exact ⟨rfl, HB.out⟩
  replace k3 : decide (hi ≤ 1099511627776) = true := by cases h : decide (hi ≤ 1099511627776) <;> simp_all
  by_cases k4 : inI 0 lo hi = false
  · rw [chkH_no (okH_no.2 (fun h => by obtain ⟨a1, a2, a3, a4, a5, a6, a7, a8, a9, a10, a11, a12⟩ := h; simp only at a1 a2 a3 a4 a5 a6 a7 a8 a9 a10 a11 a12; have j0 := decide_eq_true_iff.1 k0; have j1 := inI_yes.1 k1; have j2 := inI_yes.1 k2; have j3 := decide_eq_true_iff.1 k3; have j4 := inI_no.1 k4; omega))]
    go_enter Try.func9, Try.ntmps9
    go_wp2_with (go_at_call 14; refine (H.out _ _ _ _).mono ?_; rintro e w1 ⟨rfl, rfl⟩)
    go_ret
    exact ⟨rfl, HB.out⟩
  replace k4 : inI 0 lo hi = true := by simpa using k4
  by_cases k5 : inI 1 q 1000 = false
  · rw [chkH_no (okH_no.2 (fun h => by obtain ⟨a1, a2, a3, a4, a5, a6, a7, a8, a9, a10, a11, a12⟩ := h; simp only at a1 a2 a3 a4 a5 a6 a7 a8 a9 a10 a11 a12; have j0 := decide_eq_true_iff.1 k0; have j1 := inI_yes.1 k1; have j2 := inI_yes.1 k2; have j3 := decide_eq_true_iff.1 k3; have j4 := inI_yes.1 k4; have j5 := inI_no.1 k5; omega))]
    go_enter Try.func9, Try.ntmps9
    go_wp2_with (go_at_call 14; refine (H.out _ _ _ _).mono ?_; rintro e w1 ⟨rfl, rfl⟩)
    go_ret
    exact ⟨rfl, HB.out⟩
  replace k5 : inI 1 q 1000 = true := by simpa using k5
  by_cases k6 : inI 0 c (q - 1) = false
  · rw [chkH_no (okH_no.2 (fun h => by obtain ⟨a1, a2, a3, a4, a5, a6, a7, a8, a9, a10, a11, a12⟩ := h; simp only at a1 a2 a3 a4 a5 a6 a7 a8 a9 a10 a11 a12; have j0 := decide_eq_true_iff.1 k0; have j1 := inI_yes.1 k1; have j2 := inI_yes.1 k2; have j3 := decide_eq_true_iff.1 k3; have j4 := inI_yes.1 k4; have j5 := inI_yes.1 k5; have j6 := inI_no.1 k6; omega))]
    have hq := inI_yes.1 k5
    go_enter Try.func9, Try.ntmps9
    go_wp2_with (go_at_call 14; refine (H.out _ _ _ _).mono ?_; rintro e w1 ⟨rfl, rfl⟩)
    go_ret
    exact ⟨rfl, HB.out⟩
  replace k6 : inI 0 c (q - 1) = true := by simpa using k6
  rw [chkH_yes (okH_iff.2 (by have j0 := decide_eq_true_iff.1 k0; have j1 := inI_yes.1 k1; have j2 := inI_yes.1 k2; have j3 := decide_eq_true_iff.1 k3; have j4 := inI_yes.1 k4; have j5 := inI_yes.1 k5; have j6 := inI_yes.1 k6; simp only [Hy.Ok]; omega))]
  have hq := inI_yes.1 k5
  go_enter Try.func9, Try.ntmps9
  go_wp2_with (go_at_call 14; refine (H.out _ _ _ _).mono ?_; rintro e w1 ⟨rfl, rfl⟩)
  go_ret
  exact ⟨rfl, HB.out⟩

set_option maxRecDepth 100000 in
set_option maxHeartbeats 1600000 in
theorem rh_Check (x : Hy) (w : World) : Calls Try.prog 13 #[.agg x.cs] w fun e w' => e = .returned (.int .i64 (chkH x)) ∧ Below w.heap.size w w' := by
  obtain ⟨l, a, b, lo, hi, q, c⟩ := x
  have H := hide rh_in
  have HB := hide (bel1 w (.cells (Hy.cs ⟨l, a, b, lo, hi, q, c⟩) 28))
  simp only [Hy.cs] at HB ⊢
  by_cases k0 : inI 1 a b = false
  · rw [chkH_no (okH_no.2 (fun h => by obtain ⟨a1, a2, a3, a4, a5, a6, a7, a8, a9, a10, a11, a12⟩ := h; simp only at a1 a2 a3 a4 a5 a6 a7 a8 a9 a10 a11 a12; have j0 := inI_no.1 k0; omega))]
    go_enter Try.func13, Try.ntmps13
    go_wp2_with (go_at_call 17; refine (H.out _ _ _ _).mono ?_; rintro e w1 ⟨rfl, rfl⟩)
    go_ret
    exact ⟨rfl, HB.out⟩
  replace k0 : inI 1 a b = true := by simpa using k0
  by_cases k1 : decide (16 < b) = true
  · rw [chkH_no (okH_no.2 (fun h => by obtain ⟨a1, a2, a3, a4, a5, a6, a7, a8, a9, a10, a11, a12⟩ := h; simp only at a1 a2 a3 a4 a5 a6 a7 a8 a9 a10 a11 a12; have j0 := inI_yes.1 k0; have j1 := decide_eq_true_iff.1 k1; omega))]
    go_enter Try.func13, Try.ntmps13
    go_wp2_with (go_at_call 17; refine (H.out _ _ _ _).mono ?_; rintro e w1 ⟨rfl, rfl⟩)
    go_ret
    exact ⟨rfl, HB.out⟩
  replace k1 : decide (16 < b) = false := by cases h : decide (16 < b) <;> simp_all
  by_cases k2 : inI a l b = false
  · rw [chkH_no (okH_no.2 (fun h => by obtain ⟨a1, a2, a3, a4, a5, a6, a7, a8, a9, a10, a11, a12⟩ := h; simp only at a1 a2 a3 a4 a5 a6 a7 a8 a9 a10 a11 a12; have j0 := inI_yes.1 k0; have j1 := decide_eq_false_iff_not.1 k1; have j2 := inI_no.1 k2; omega))]
    go_enter Try.func13, Try.ntmps13
    go_wp2_with (go_at_call 17; refine (H.out _ _ _ _).mono ?_; rintro e w1 ⟨rfl, rfl⟩)
    go_ret
    exact ⟨rfl, HB.out⟩
  replace k2 : inI a l b = true := by simpa using k2
  by_cases k3 : inI 0 lo hi = false
  · rw [chkH_no (okH_no.2 (fun h => by obtain ⟨a1, a2, a3, a4, a5, a6, a7, a8, a9, a10, a11, a12⟩ := h; simp only at a1 a2 a3 a4 a5 a6 a7 a8 a9 a10 a11 a12; have j0 := inI_yes.1 k0; have j1 := decide_eq_false_iff_not.1 k1; have j2 := inI_yes.1 k2; have j3 := inI_no.1 k3; omega))]
    go_enter Try.func13, Try.ntmps13
    go_wp2_with (go_at_call 17; refine (H.out _ _ _ _).mono ?_; rintro e w1 ⟨rfl, rfl⟩)
    go_ret
    exact ⟨rfl, HB.out⟩
  replace k3 : inI 0 lo hi = true := by simpa using k3
  by_cases k4 : decide (1099511627776 < hi) = true
  · rw [chkH_no (okH_no.2 (fun h => by obtain ⟨a1, a2, a3, a4, a5, a6, a7, a8, a9, a10, a11, a12⟩ := h; simp only at a1 a2 a3 a4 a5 a6 a7 a8 a9 a10 a11 a12; have j0 := inI_yes.1 k0; have j1 := decide_eq_false_iff_not.1 k1; have j2 := inI_yes.1 k2; have j3 := inI_yes.1 k3; have j4 := decide_eq_true_iff.1 k4; omega))]
    go_enter Try.func13, Try.ntmps13
    go_wp2_with (go_at_call 17; refine (H.out _ _ _ _).mono ?_; rintro e w1 ⟨rfl, rfl⟩)
    go_ret
    exact ⟨rfl, HB.out⟩
  replace k4 : decide (1099511627776 < hi) = false := by cases h : decide (1099511627776 < hi) <;> simp_all
  by_cases k5 : inI 1 q 1000 = false
  · rw [chkH_no (okH_no.2 (fun h => by obtain ⟨a1, a2, a3, a4, a5, a6, a7, a8, a9, a10, a11, a12⟩ := h; simp only at a1 a2 a3 a4 a5 a6 a7 a8 a9 a10 a11 a12; have j0 := inI_yes.1 k0; have j1 := decide_eq_false_iff_not.1 k1; have j2 := inI_yes.1 k2; have j3 := inI_yes.1 k3; have j4 := decide_eq_false_iff_not.1 k4; have j5 := inI_no.1 k5; omega))]
    go_enter Try.func13, Try.ntmps13
    go_wp2_with (go_at_call 17; refine (H.out _ _ _ _).mono ?_; rintro e w1 ⟨rfl, rfl⟩)
    go_ret
    exact ⟨rfl, HB.out⟩
  replace k5 : inI 1 q 1000 = true := by simpa using k5
  by_cases k6 : decide (c < 0) = true
  · rw [chkH_no (okH_no.2 (fun h => by obtain ⟨a1, a2, a3, a4, a5, a6, a7, a8, a9, a10, a11, a12⟩ := h; simp only at a1 a2 a3 a4 a5 a6 a7 a8 a9 a10 a11 a12; have j0 := inI_yes.1 k0; have j1 := decide_eq_false_iff_not.1 k1; have j2 := inI_yes.1 k2; have j3 := inI_yes.1 k3; have j4 := decide_eq_false_iff_not.1 k4; have j5 := inI_yes.1 k5; have j6 := decide_eq_true_iff.1 k6; omega))]
    go_enter Try.func13, Try.ntmps13
    go_wp2_with (go_at_call 17; refine (H.out _ _ _ _).mono ?_; rintro e w1 ⟨rfl, rfl⟩)
    go_ret
    exact ⟨rfl, HB.out⟩
  replace k6 : decide (c < 0) = false := by cases h : decide (c < 0) <;> simp_all
  by_cases k7 : decide (q ≤ c) = true
  · rw [chkH_no (okH_no.2 (fun h => by obtain ⟨a1, a2, a3, a4, a5, a6, a7, a8, a9, a10, a11, a12⟩ := h; simp only at a1 a2 a3 a4 a5 a6 a7 a8 a9 a10 a11 a12; have j0 := inI_yes.1 k0; have j1 := decide_eq_false_iff_not.1 k1; have j2 := inI_yes.1 k2; have j3 := inI_yes.1 k3; have j4 := decide_eq_false_iff_not.1 k4; have j5 := inI_yes.1 k5; have j6 := decide_eq_false_iff_not.1 k6; have j7 := decide_eq_true_iff.1 k7; omega))]
    go_enter Try.func13, Try.ntmps13
    go_wp2_with (go_at_call 17; refine (H.out _ _ _ _).mono ?_; rintro e w1 ⟨rfl, rfl⟩)
    go_ret
    exact ⟨rfl, HB.out⟩
  replace k7 : decide (q ≤ c) = false := by cases h : decide (q ≤ c) <;> simp_all
  rw [chkH_yes (okH_iff.2 (by have j0 := inI_yes.1 k0; have j1 := decide_eq_false_iff_not.1 k1; have j2 := inI_yes.1 k2; have j3 := inI_yes.1 k3; have j4 := decide_eq_false_iff_not.1 k4; have j5 := inI_yes.1 k5; have j6 := decide_eq_false_iff_not.1 k6; have j7 := decide_eq_false_iff_not.1 k7; simp only [Hy.Ok]; omega))]
  go_enter Try.func13, Try.ntmps13
  go_wp2_with (go_at_call 17; refine (H.out _ _ _ _).mono ?_; rintro e w1 ⟨rfl, rfl⟩)
  go_ret
  exact ⟨rfl, HB.out⟩
end Go.Proofs.Ytjcibpefbfengaa
