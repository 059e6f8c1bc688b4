/-
  Layer 23: Fits, Status, Code, seconds: the program's and the document's.
-/
import Derived.Test.YtgibhdbhagcpoaaSdMath
namespace Go.Proofs.Ytgibhdbhagcpoaa
set_option linter.unusedSimpArgs false
set_option linter.unusedVariables false
open Go.RowKit

theorem lk_size : (Try.prog.info? 29).map (·.size) = some 9 := by kernel_rfl
theorem rl_size : (Try.prog.info? 23).map (·.size) = some 9 := by kernel_rfl

set_option maxRecDepth 100000 in
set_option maxHeartbeats 1600000 in
theorem sd_Fits (x : Lk) (W : World) (hk0 : -9223372036854775808 ≤ x.k) (hk1 : x.k ≤ 9223372036854775807) : Calls Try.prog 9 #[.agg x.cs] W fun e w' => e = .returned (.bool (fitB x)) ∧ Below W.heap.size W w' := by
  obtain ⟨o, t, a, w, c, b, k, i, s⟩ := x
  simp only at hk0 hk1
  have HB := hide (bel1 W (.cells #[.int .i64 o, .int .i64 t, .int .i64 a, .bool w, .int .i64 c, .int .i64 b, .int .i64 k, .int .i64 i, .int .i64 s] 29))
  simp only [Lk.cs]
  by_cases h0 : ¬ 1 ≤ c
  · rw [show fitB ⟨o, t, a, w, c, b, k, i, s⟩ = false from fitB_no.2 (fun h => by obtain ⟨a1, a2, a3, a4⟩ := h; simp only at a1 a2 a3 a4; omega)]
    have k0 : decide (1 ≤ c) = false := by rw [decide_eq_false_iff_not]; omega
    clear hk0 hk1 h0
    go_enter Try.func9, Try.ntmps9
    go_wp2
    go_ret
    exact ⟨rfl, HB.out⟩
  by_cases h1 : ¬ 0 ≤ b
  · rw [show fitB ⟨o, t, a, w, c, b, k, i, s⟩ = false from fitB_no.2 (fun h => by obtain ⟨a1, a2, a3, a4⟩ := h; simp only at a1 a2 a3 a4; omega)]
    have k0 : decide (1 ≤ c) = true := by rw [decide_eq_true_iff]; omega
    have k1 : decide (0 ≤ b) = false := by rw [decide_eq_false_iff_not]; omega
    clear hk0 hk1 h0 h1
    go_enter Try.func9, Try.ntmps9
    go_wp2
    go_ret
    exact ⟨rfl, HB.out⟩
  by_cases h2 : ¬ b ≤ k
  · rw [show fitB ⟨o, t, a, w, c, b, k, i, s⟩ = false from fitB_no.2 (fun h => by obtain ⟨a1, a2, a3, a4⟩ := h; simp only at a1 a2 a3 a4; omega)]
    have k0 : decide (1 ≤ c) = true := by rw [decide_eq_true_iff]; omega
    have k1 : decide (0 ≤ b) = true := by rw [decide_eq_true_iff]; omega
    have k2 : decide (b ≤ k) = false := by rw [decide_eq_false_iff_not]; omega
    clear hk0 hk1 h0 h1 h2
    go_enter Try.func9, Try.ntmps9
    go_wp2
    go_ret
    exact ⟨rfl, HB.out⟩
  by_cases h3 : ¬ (c ≤ k - b)
  · rw [show fitB ⟨o, t, a, w, c, b, k, i, s⟩ = false from fitB_no.2 (fun h => by obtain ⟨a1, a2, a3, a4⟩ := h; simp only at a1 a2 a3 a4; omega)]
    have k0 : decide (1 ≤ c) = true := by rw [decide_eq_true_iff]; omega
    have k1 : decide (0 ≤ b) = true := by rw [decide_eq_true_iff]; omega
    have k2 : decide (b ≤ k) = true := by rw [decide_eq_true_iff]; omega
    have k3 : decide (c ≤ k - b) = false := by rw [decide_eq_false_iff_not]; omega
    have hw : IntKind.i64.wrap (k - b) = k - b := IntWalk.i64_in _ (by omega)
    clear hk0 hk1 h0 h1 h2 h3
    go_enter Try.func9, Try.ntmps9
    go_wp2
    go_ret
    exact ⟨rfl, HB.out⟩
  rw [show fitB ⟨o, t, a, w, c, b, k, i, s⟩ = true from fitB_iff.2 ⟨by simp only; omega, by simp only; omega, by simp only; omega, by simp only; omega⟩]
  have k0 : decide (1 ≤ c) = true := by rw [decide_eq_true_iff]; omega
  have k1 : decide (0 ≤ b) = true := by rw [decide_eq_true_iff]; omega
  have k2 : decide (b ≤ k) = true := by rw [decide_eq_true_iff]; omega
  have k3 : decide (c ≤ k - b) = true := by rw [decide_eq_true_iff]; omega
  have hw : IntKind.i64.wrap (k - b) = k - b := IntWalk.i64_in _ (by omega)
  clear hk0 hk1 h0 h1 h2 h3
  go_enter Try.func9, Try.ntmps9
  go_wp2
  go_ret
  exact ⟨rfl, HB.out⟩

set_option maxRecDepth 100000 in
set_option maxHeartbeats 1600000 in
theorem rd_Fits (x : Lk) (W : World) (hk0 : -9223372036854775808 ≤ x.k) (hk1 : x.k ≤ 9223372036854775807) : Calls Try.prog 10 #[.agg x.cs] W fun e w' => e = .returned (.bool (fitB x)) ∧ Below W.heap.size W w' := by
  obtain ⟨o, t, a, w, c, b, k, i, s⟩ := x
  simp only at hk0 hk1
  have HB := hide (bel1 W (.cells #[.int .i64 o, .int .i64 t, .int .i64 a, .bool w, .int .i64 c, .int .i64 b, .int .i64 k, .int .i64 i, .int .i64 s] 23))
  simp only [Lk.cs]
  by_cases h0 : ¬ 1 ≤ c
  · rw [show fitB ⟨o, t, a, w, c, b, k, i, s⟩ = false from fitB_no.2 (fun h => by obtain ⟨a1, a2, a3, a4⟩ := h; simp only at a1 a2 a3 a4; omega)]
    have k0 : decide (1 ≤ c) = false := by rw [decide_eq_false_iff_not]; omega
    clear hk0 hk1 h0
    go_enter Try.func10, Try.ntmps10
    go_wp2
    go_ret
    exact ⟨rfl, HB.out⟩
  by_cases h1 : ¬ 0 ≤ b
  · rw [show fitB ⟨o, t, a, w, c, b, k, i, s⟩ = false from fitB_no.2 (fun h => by obtain ⟨a1, a2, a3, a4⟩ := h; simp only at a1 a2 a3 a4; omega)]
    have k0 : decide (1 ≤ c) = true := by rw [decide_eq_true_iff]; omega
    have k1 : decide (0 ≤ b) = false := by rw [decide_eq_false_iff_not]; omega
    clear hk0 hk1 h0 h1
    go_enter Try.func10, Try.ntmps10
    go_wp2
    go_ret
    exact ⟨rfl, HB.out⟩
  by_cases h2 : ¬ b ≤ k
  · rw [show fitB ⟨o, t, a, w, c, b, k, i, s⟩ = false from fitB_no.2 (fun h => by obtain ⟨a1, a2, a3, a4⟩ := h; simp only at a1 a2 a3 a4; omega)]
    have k0 : decide (1 ≤ c) = true := by rw [decide_eq_true_iff]; omega
    have k1 : decide (0 ≤ b) = true := by rw [decide_eq_true_iff]; omega
    have k2 : decide (b ≤ k) = false := by rw [decide_eq_false_iff_not]; omega
    clear hk0 hk1 h0 h1 h2
    go_enter Try.func10, Try.ntmps10
    go_wp2
    go_ret
    exact ⟨rfl, HB.out⟩
  by_cases h3 : ¬ (c ≤ k - b)
  · rw [show fitB ⟨o, t, a, w, c, b, k, i, s⟩ = false from fitB_no.2 (fun h => by obtain ⟨a1, a2, a3, a4⟩ := h; simp only at a1 a2 a3 a4; omega)]
    have k0 : decide (1 ≤ c) = true := by rw [decide_eq_true_iff]; omega
    have k1 : decide (0 ≤ b) = true := by rw [decide_eq_true_iff]; omega
    have k2 : decide (b ≤ k) = true := by rw [decide_eq_true_iff]; omega
    have k3 : decide (c ≤ k - b) = false := by rw [decide_eq_false_iff_not]; omega
    have hw : IntKind.i64.wrap (k - b) = k - b := IntWalk.i64_in _ (by omega)
    clear hk0 hk1 h0 h1 h2 h3
    go_enter Try.func10, Try.ntmps10
    go_wp2
    go_ret
    exact ⟨rfl, HB.out⟩
  rw [show fitB ⟨o, t, a, w, c, b, k, i, s⟩ = true from fitB_iff.2 ⟨by simp only; omega, by simp only; omega, by simp only; omega, by simp only; omega⟩]
  have k0 : decide (1 ≤ c) = true := by rw [decide_eq_true_iff]; omega
  have k1 : decide (0 ≤ b) = true := by rw [decide_eq_true_iff]; omega
  have k2 : decide (b ≤ k) = true := by rw [decide_eq_true_iff]; omega
  have k3 : decide (c ≤ k - b) = true := by rw [decide_eq_true_iff]; omega
  have hw : IntKind.i64.wrap (k - b) = k - b := IntWalk.i64_in _ (by omega)
  clear hk0 hk1 h0 h1 h2 h3
  go_enter Try.func10, Try.ntmps10
  go_wp2
  go_ret
  exact ⟨rfl, HB.out⟩

theorem sd_Status (n : Int) (w : World) : Calls Try.prog 11 #[.int .i64 n] w fun e w' => e = .returned (.int .i64 (staI n)) ∧ w = w' := by
  unfold staI
  by_cases h1 : n = 2
  · subst h1
    go_enter Try.func11, Try.ntmps11
    go_wp2
    go_ret
    exact ⟨rfl, rfl⟩
  · rw [if_neg h1]
    by_cases h2 : n = 3
    · subst h2
      go_enter Try.func11, Try.ntmps11
      go_wp2
      go_ret
      exact ⟨rfl, rfl⟩
    · rw [if_neg h2]
      have k1 : (n == 2) = false := by rw [beq_eq_false_iff_ne]; exact h1
      have k2 : (n == 3) = false := by rw [beq_eq_false_iff_ne]; exact h2
      clear h1 h2
      go_enter Try.func11, Try.ntmps11
      go_wp2
      go_ret
      exact ⟨rfl, rfl⟩

theorem rd_Status (n : Int) (w : World) : Calls Try.prog 12 #[.int .i64 n] w fun e w' => e = .returned (.int .i64 (staI n)) ∧ w = w' := by
  unfold staI
  by_cases h1 : n = 2
  · subst h1
    go_enter Try.func12, Try.ntmps12
    go_wp2
    go_ret
    exact ⟨rfl, rfl⟩
  · rw [if_neg h1]
    by_cases h2 : n = 3
    · subst h2
      go_enter Try.func12, Try.ntmps12
      go_wp2
      go_ret
      exact ⟨rfl, rfl⟩
    · rw [if_neg h2]
      have k1 : (n == 2) = false := by rw [beq_eq_false_iff_ne]; exact h1
      have k2 : (n == 3) = false := by rw [beq_eq_false_iff_ne]; exact h2
      clear h1 h2
      go_enter Try.func12, Try.ntmps12
      go_wp2
      go_ret
      exact ⟨rfl, rfl⟩

theorem sd_Code (n : Int) (w : World) : Calls Try.prog 13 #[.int .i64 n] w fun e w' => e = .returned (.int .u32 (codI n)) ∧ w = w' := by
  unfold codI
  by_cases h1 : n = 1
  · subst h1
    go_enter Try.func13, Try.ntmps13
    go_wp2
    go_ret
    exact ⟨rfl, rfl⟩
  · rw [if_neg h1]
    by_cases h2 : n = 4
    · subst h2
      go_enter Try.func13, Try.ntmps13
      go_wp2
      go_ret
      exact ⟨rfl, rfl⟩
    · rw [if_neg h2]
      have k1 : (n == 1) = false := by rw [beq_eq_false_iff_ne]; exact h1
      have k2 : (n == 4) = false := by rw [beq_eq_false_iff_ne]; exact h2
      clear h1 h2
      go_enter Try.func13, Try.ntmps13
      go_wp2
      go_ret
      exact ⟨rfl, rfl⟩

theorem rd_Code (n : Int) (w : World) : Calls Try.prog 14 #[.int .i64 n] w fun e w' => e = .returned (.int .i64 (codI n)) ∧ w = w' := by
  unfold codI
  by_cases h1 : n = 1
  · subst h1
    go_enter Try.func14, Try.ntmps14
    go_wp2
    go_ret
    exact ⟨rfl, rfl⟩
  · rw [if_neg h1]
    by_cases h2 : n = 4
    · subst h2
      go_enter Try.func14, Try.ntmps14
      go_wp2
      go_ret
      exact ⟨rfl, rfl⟩
    · rw [if_neg h2]
      have k1 : (n == 1) = false := by rw [beq_eq_false_iff_ne]; exact h1
      have k2 : (n == 4) = false := by rw [beq_eq_false_iff_ne]; exact h2
      clear h1 h2
      go_enter Try.func14, Try.ntmps14
      go_wp2
      go_ret
      exact ⟨rfl, rfl⟩

theorem secI_tdiv {n s : Int} (h0 : -1 ≤ n) : max 1 ((n - 1).tdiv (max 1 s) + 1) = secI n s := by
  obtain ⟨m, hm⟩ : ∃ m, m = max 1 s := ⟨_, rfl⟩
  have hm1 : 1 ≤ m := by omega
  unfold secI
  rw [← hm]
  by_cases h : 1 ≤ n
  · rw [if_pos h, Int.tdiv_eq_ediv_of_nonneg (by omega)]
    have : 0 ≤ (n - 1) / m := Int.ediv_nonneg (by omega) (by omega)
    omega
  · rw [if_neg h]
    have : (n - 1).tdiv m ≤ 0 := by
      have h2 : 0 ≤ (-(n - 1)).tdiv m := Int.tdiv_nonneg (by omega) (by omega)
      rw [Int.neg_tdiv] at h2
      omega
    omega
theorem sd_seconds (n s : Int) (h0 : -1 ≤ n) (h1 : n ≤ 2000) (w : World) : Calls Try.prog 20 #[.int .i64 n, .int .i64 s] w fun e w' => e = .returned (.int .i64 (secI n s)) ∧ w = w' := by
  have HS := hide (secI_tdiv (n := n) (s := s) h0)
  obtain ⟨m, hm⟩ : ∃ m, m = max 1 s := ⟨_, rfl⟩
  have hm1 : 1 ≤ m := by omega
  have e1 : max 1 s = m := hm.symm
  rw [e1] at HS
  obtain ⟨q, hq⟩ : ∃ q, q = (n - 1).tdiv m := ⟨_, rfl⟩
  have e2 : (n - 1).tdiv m = q := hq.symm
  rw [e2] at HS
  have q0 : -2 ≤ q ∧ q ≤ 2000 := by
    rw [hq]
    by_cases h : 1 ≤ n
    · rw [Int.tdiv_eq_ediv_of_nonneg (by omega)]
      have := Int.ediv_nonneg (show 0 ≤ n - 1 by omega) (show 0 ≤ m by omega)
      have := Int.ediv_le_self m (show 0 ≤ n - 1 by omega)
      omega
    · have h2 : (-(n - 1)).tdiv m = -(n - 1) / m := Int.tdiv_eq_ediv_of_nonneg (by omega)
      rw [Int.neg_tdiv] at h2
      have := Int.ediv_nonneg (show 0 ≤ -(n - 1) by omega) (show 0 ≤ m by omega)
      have := Int.ediv_le_self m (show 0 ≤ -(n - 1) by omega)
      omega
  have p0 : ¬ m = 0 := by omega
  have p1 : ¬ m = -1 := by omega
  obtain ⟨z, hz⟩ : ∃ z, z = secI n s := ⟨_, rfl⟩
  rw [← hz] at HS ⊢
  have e3 : max 1 (q + 1) = z := HS.out
  clear hm hq hz HS
  go_enter Try.func20, Try.ntmps20
  go_wp2
  go_ret
  exact ⟨rfl, rfl⟩
end Go.Proofs.Ytgibhdbhagcpoaa
