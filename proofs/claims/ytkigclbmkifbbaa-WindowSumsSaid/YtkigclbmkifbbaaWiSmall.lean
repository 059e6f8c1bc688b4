/-
  Layer 14: the functions on numbers alone: the program's and the document's.
-/
import Derived.Test.YtkigclbmkifbbaaWiMath
import Derived.Test.YtkigclbmkifbbaaRows
import Derived.Test.YtkigclbmkifbbaaChecked
import Derived.Lib.MinMax
namespace Go.Proofs.Ytkigclbmkifbbaa
set_option linter.unusedSimpArgs false
set_option linter.unusedVariables false
open Go.RowKit

theorem wi_isWindow (w0 : Int) (w : World) : Calls Try.prog 20 #[.int .i64 w0] w fun e w' => e = .returned (.bool (isW w0)) ∧ w = w' := by
  by_cases h1 : w0 < -2147483647
  · rw [isW_no.2 (.inl h1)]
    go_enter Try.func20, Try.ntmps20
    go_wp2
    go_ret
    exact ⟨rfl, rfl⟩
  by_cases h2 : 2147483647 < w0
  · rw [isW_no.2 (.inr h2)]
    have h1' : -2147483647 ≤ w0 := by omega
    have h2' : decide (w0 ≤ 2147483647) = false := by rw [decide_eq_false_iff_not]; omega
    clear h1
    go_enter Try.func20, Try.ntmps20
    go_wp2
    go_ret
    exact ⟨rfl, rfl⟩
  · rw [isW_yes.2 ⟨by omega, by omega⟩]
    have h1' : -2147483647 ≤ w0 := by omega
    have h2' : w0 ≤ 2147483647 := by omega
    clear h1 h2
    go_enter Try.func20, Try.ntmps20
    go_wp2
    go_ret
    exact ⟨rfl, rfl⟩

theorem wi_isFirst (w0 : Int) (w : World) : Calls Try.prog 23 #[.int .i64 w0] w fun e w' => e = .returned (.bool (isF w0)) ∧ w = w' := by
  by_cases h1 : w0 < 0
  · rw [isF_no.2 (.inl h1)]
    go_enter Try.func23, Try.ntmps23
    go_wp2
    go_ret
    exact ⟨rfl, rfl⟩
  by_cases h2 : 2147483647 < w0
  · rw [isF_no.2 (.inr h2)]
    have h1' : 0 ≤ w0 := by omega
    have h2' : decide (w0 ≤ 2147483647) = false := by rw [decide_eq_false_iff_not]; omega
    clear h1
    go_enter Try.func23, Try.ntmps23
    go_wp2
    go_ret
    exact ⟨rfl, rfl⟩
  · rw [isF_yes.2 ⟨by omega, by omega⟩]
    have h1' : 0 ≤ w0 := by omega
    have h2' : w0 ≤ 2147483647 := by omega
    clear h1 h2
    go_enter Try.func23, Try.ntmps23
    go_wp2
    go_ret
    exact ⟨rfl, rfl⟩

theorem rw_is (w0 : Int) (w : World) : Calls Try.prog 21 #[.int .i64 w0] w fun e w' => e = .returned (.bool (isW w0)) ∧ w = w' := by
  by_cases h1 : w0 < -2147483647
  · rw [isW_no.2 (.inl h1)]
    go_enter Try.func21, Try.ntmps21
    go_wp2
    go_ret
    exact ⟨rfl, rfl⟩
  by_cases h2 : 2147483647 < w0
  · rw [isW_no.2 (.inr h2)]
    have h1' : -2147483647 ≤ w0 := by omega
    have h2' : decide (w0 ≤ 2147483647) = false := by rw [decide_eq_false_iff_not]; omega
    clear h1
    go_enter Try.func21, Try.ntmps21
    go_wp2
    go_ret
    exact ⟨rfl, rfl⟩
  · rw [isW_yes.2 ⟨by omega, by omega⟩]
    have h1' : -2147483647 ≤ w0 := by omega
    have h2' : w0 ≤ 2147483647 := by omega
    clear h1 h2
    go_enter Try.func21, Try.ntmps21
    go_wp2
    go_ret
    exact ⟨rfl, rfl⟩

theorem wi_Check (w0 : Int) (w : World) : Calls Try.prog 13 #[.int .i64 w0] w fun e w' => e = .returned (.int .i64 (chkW w0)) ∧ w = w' := by
  have H := hide (fun w => wi_isWindow w0 w)
  unfold chkW
  cases hb : isW w0
  all_goals
    rw [hb] at H
    clear hb
    go_enter Try.func13, Try.ntmps13
    go_wp2_with fail
    refine (H.out _).mono ?_
    rintro e w1 ⟨rfl, rfl⟩
    go_wp2
    go_ret
    exact ⟨rfl, rfl⟩

theorem rw_Check (w0 : Int) (w : World) : Calls Try.prog 14 #[.int .i64 w0] w fun e w' => e = .returned (.int .i64 (chkW w0)) ∧ w = w' := by
  have H := hide (fun w => rw_is w0 w)
  unfold chkW
  cases hb : isW w0
  all_goals
    rw [hb] at H
    clear hb
    go_enter Try.func14, Try.ntmps14
    go_wp2_with fail
    refine (H.out _).mono ?_
    rintro e w1 ⟨rfl, rfl⟩
    go_wp2
    go_ret
    exact ⟨rfl, rfl⟩

theorem wi_Take (w0 n : Int) (w : World) : Calls Try.prog 7 #[.int .i64 w0, .int .i64 n] w fun e w' => e = .returned (.tuple #[.int .i64 (takeR w0 n).1, .bool (takeR w0 n).2]) ∧ w = w' := by
  have H := hide (fun w => wi_isWindow w0 w)
  cases hb : isW w0 with
  | false =>
    rw [hb] at H
    rw [takeR_no (.inl hb)]
    clear hb
    go_enter Try.func7, Try.ntmps7
    go_wp2_with fail
    refine (H.out _).mono ?_
    rintro e w1 ⟨rfl, rfl⟩
    go_wp2
    go_ret2
    exact ⟨rfl, rfl⟩
  | true =>
    rw [hb] at H
    obtain ⟨b0, b1⟩ := isW_yes.1 hb
    by_cases h1 : n < 0
    · rw [takeR_no (.inr (.inl h1))]
      clear hb b0 b1
      go_enter Try.func7, Try.ntmps7
      go_wp2_with fail
      refine (H.out _).mono ?_
      rintro e w1 ⟨rfl, rfl⟩
      go_wp2
      go_ret2
      exact ⟨rfl, rfl⟩
    by_cases h2 : w0 < n
    · rw [takeR_no (.inr (.inr h2))]
      clear hb b0 b1
      go_enter Try.func7, Try.ntmps7
      go_wp2_with fail
      refine (H.out _).mono ?_
      rintro e w1 ⟨rfl, rfl⟩
      go_wp2
      go_ret2
      exact ⟨rfl, rfl⟩
    · rw [takeR_yes hb (by omega) (by omega)]
      have h1' : 0 ≤ n := by omega
      have h2' : n ≤ w0 := by omega
      clear hb h1 h2
      go_enter Try.func7, Try.ntmps7
      go_wp2_with fail
      refine (H.out _).mono ?_
      rintro e w1 ⟨rfl, rfl⟩
      go_wp2
      go_ret2
      exact ⟨rfl, rfl⟩

theorem rw_Take (w0 n : Int) (w : World) : Calls Try.prog 8 #[.int .i64 w0, .int .i64 n] w fun e w' => e = .returned (.tuple #[.int .i64 (takeR w0 n).1, .bool (takeR w0 n).2]) ∧ w = w' := by
  have H := hide (fun w => rw_is w0 w)
  cases hb : isW w0 with
  | false =>
    rw [hb] at H
    rw [takeR_no (.inl hb)]
    clear hb
    go_enter Try.func8, Try.ntmps8
    go_wp2_with fail
    refine (H.out _).mono ?_
    rintro e w1 ⟨rfl, rfl⟩
    go_wp2
    go_ret2
    exact ⟨rfl, rfl⟩
  | true =>
    rw [hb] at H
    obtain ⟨b0, b1⟩ := isW_yes.1 hb
    by_cases h1 : n < 0
    · rw [takeR_no (.inr (.inl h1))]
      clear hb b0 b1
      go_enter Try.func8, Try.ntmps8
      go_wp2_with fail
      refine (H.out _).mono ?_
      rintro e w1 ⟨rfl, rfl⟩
      go_wp2
      go_ret2
      exact ⟨rfl, rfl⟩
    by_cases h2 : w0 < n
    · rw [takeR_no (.inr (.inr h2))]
      clear hb b0 b1
      go_enter Try.func8, Try.ntmps8
      go_wp2_with fail
      refine (H.out _).mono ?_
      rintro e w1 ⟨rfl, rfl⟩
      go_wp2
      go_ret2
      exact ⟨rfl, rfl⟩
    · rw [takeR_yes hb (by omega) (by omega)]
      have h1' : 0 ≤ n := by omega
      have h2' : n ≤ w0 := by omega
      clear hb h1 h2
      go_enter Try.func8, Try.ntmps8
      go_wp2_with fail
      refine (H.out _).mono ?_
      rintro e w1 ⟨rfl, rfl⟩
      go_wp2
      go_ret2
      exact ⟨rfl, rfl⟩

theorem wi_moved (w0 d : Int) (h0 : -9223372036854775808 ≤ w0 + d) (h1 : w0 + d ≤ 9223372036854775807) (w : World) : Calls Try.prog 22 #[.int .i64 w0, .int .i64 d] w fun e w' => e = .returned (.tuple #[.int .i64 (movR w0 d).1, .int .u32 (movR w0 d).2]) ∧ w = w' := by
  have H := hide (fun w => wi_isWindow (w0 + d) w)
  unfold movR
  cases hb : isW (w0 + d)
  all_goals
    rw [hb] at H
    clear hb
    go_enter Try.func22, Try.ntmps22
    go_wp2_with fail
    refine (H.out _).mono ?_
    rintro e w1 ⟨rfl, rfl⟩
    go_wp2
    go_ret2
    exact ⟨rfl, rfl⟩

theorem wi_Give (w0 n : Int) (w : World) : Calls Try.prog 9 #[.int .i64 w0, .int .i64 n] w fun e w' => e = .returned (.tuple #[.int .i64 (giveR w0 n).1, .int .u32 (giveR w0 n).2]) ∧ w = w' := by
  have H := hide (fun w => wi_isWindow w0 w)
  cases hb : isW w0 with
  | false =>
    rw [hb] at H
    rw [giveR_3 hb]
    clear hb
    go_enter Try.func9, Try.ntmps9
    go_wp2_with fail
    refine (H.out _).mono ?_
    rintro e w1 ⟨rfl, rfl⟩
    go_wp2
    go_ret2
    exact ⟨rfl, rfl⟩
  | true =>
    rw [hb] at H
    obtain ⟨b0, b1⟩ := isW_yes.1 hb
    by_cases h1 : n < 1
    · rw [giveR_1 hb (.inl h1)]
      clear hb b0 b1
      go_enter Try.func9, Try.ntmps9
      go_wp2_with fail
      refine (H.out _).mono ?_
      rintro e w1 ⟨rfl, rfl⟩
      go_wp2
      go_ret2
      exact ⟨rfl, rfl⟩
    by_cases h2 : 2147483647 < n
    · rw [giveR_1 hb (.inr h2)]
      have h1' : 1 ≤ n := by omega
      clear hb b0 b1 h1
      go_enter Try.func9, Try.ntmps9
      go_wp2_with fail
      refine (H.out _).mono ?_
      rintro e w1 ⟨rfl, rfl⟩
      go_wp2
      go_ret2
      exact ⟨rfl, rfl⟩
    · rw [giveR_mov hb (by omega) (by omega)]
      have M := hide (fun w => wi_moved w0 n (by omega) (by omega) w)
      have h1' : 1 ≤ n := by omega
      have h2' : n ≤ 2147483647 := by omega
      clear hb b0 b1 h1 h2
      go_enter Try.func9, Try.ntmps9
      go_wp2_with fail
      refine (H.out _).mono ?_
      rintro e w1 ⟨rfl, rfl⟩
      go_wp2_with fail
      refine (M.out _).mono ?_
      rintro e w1 ⟨rfl, rfl⟩
      go_wp2
      go_ret2
      exact ⟨rfl, rfl⟩

theorem wi_Shift (w0 a b : Int) (w : World) : Calls Try.prog 11 #[.int .i64 w0, .int .i64 a, .int .i64 b] w fun e w' => e = .returned (.tuple #[.int .i64 (shiftR w0 a b).1, .int .u32 (shiftR w0 a b).2]) ∧ w = w' := by
  have H := hide (fun w => wi_isWindow w0 w)
  have HA := hide (fun w => wi_isFirst a w)
  have HB := hide (fun w => wi_isFirst b w)
  cases hb : isW w0 with
  | false =>
    rw [hb] at H
    rw [shiftR_3 hb]
    clear hb
    go_enter Try.func11, Try.ntmps11
    go_wp2_with fail
    refine (H.out _).mono ?_
    rintro e w1 ⟨rfl, rfl⟩
    go_wp2
    go_ret2
    exact ⟨rfl, rfl⟩
  | true =>
    rw [hb] at H
    obtain ⟨b0, b1⟩ := isW_yes.1 hb
    cases ha : isF a with
    | false =>
      rw [ha] at HA
      rw [shiftR_1 hb (.inl ha)]
      clear hb b0 b1 ha
      go_enter Try.func11, Try.ntmps11
      go_wp2_with fail
      refine (H.out _).mono ?_
      rintro e w1 ⟨rfl, rfl⟩
      go_wp2_with fail
      refine (HA.out _).mono ?_
      rintro e w1 ⟨rfl, rfl⟩
      go_wp2
      go_ret2
      exact ⟨rfl, rfl⟩
    | true =>
      rw [ha] at HA
      cases hbb : isF b with
      | false =>
        rw [hbb] at HB
        rw [shiftR_1 hb (.inr hbb)]
        clear hb b0 b1 ha hbb
        go_enter Try.func11, Try.ntmps11
        go_wp2_with fail
        refine (H.out _).mono ?_
        rintro e w1 ⟨rfl, rfl⟩
        go_wp2_with fail
        refine (HA.out _).mono ?_
        rintro e w1 ⟨rfl, rfl⟩
        go_wp2_with fail
        refine (HB.out _).mono ?_
        rintro e w1 ⟨rfl, rfl⟩
        go_wp2
        go_ret2
        exact ⟨rfl, rfl⟩
      | true =>
        rw [hbb] at HB
        rw [shiftR_mov hb ha hbb]
        have ⟨a0, a1⟩ := isF_yes.1 ha
        have ⟨c0, c1⟩ := isF_yes.1 hbb
        have M := hide (fun w => wi_moved w0 (b - a) (by omega) (by omega) w)
        clear hb b0 b1 ha hbb
        go_enter Try.func11, Try.ntmps11
        go_wp2_with fail
        refine (H.out _).mono ?_
        rintro e w1 ⟨rfl, rfl⟩
        go_wp2_with fail
        refine (HA.out _).mono ?_
        rintro e w1 ⟨rfl, rfl⟩
        go_wp2_with fail
        refine (HB.out _).mono ?_
        rintro e w1 ⟨rfl, rfl⟩
        go_wp2_with fail
        refine (M.out _).mono ?_
        rintro e w1 ⟨rfl, rfl⟩
        go_wp2
        go_ret2
        exact ⟨rfl, rfl⟩

theorem rw_Give (w0 n : Int) (w : World) : Calls Try.prog 10 #[.int .i64 w0, .int .i64 n] w fun e w' => e = .returned (.tuple #[.int .i64 (giveR w0 n).1, .int .i64 (giveR w0 n).2]) ∧ w = w' := by
  have H := hide (fun w => rw_is w0 w)
  cases hb : isW w0 with
  | false =>
    rw [hb] at H
    rw [giveR_3 hb]
    clear hb
    go_enter Try.func10, Try.ntmps10
    go_wp2_with fail
    refine (H.out _).mono ?_
    rintro e w1 ⟨rfl, rfl⟩
    go_wp2
    go_ret2
    exact ⟨rfl, rfl⟩
  | true =>
    rw [hb] at H
    obtain ⟨b0, b1⟩ := isW_yes.1 hb
    by_cases h1 : n < 1
    · rw [giveR_1 hb (.inl h1)]
      clear hb b0 b1
      go_enter Try.func10, Try.ntmps10
      go_wp2_with fail
      refine (H.out _).mono ?_
      rintro e w1 ⟨rfl, rfl⟩
      go_wp2
      go_ret2
      exact ⟨rfl, rfl⟩
    by_cases h2 : 2147483647 < n
    · rw [giveR_1 hb (.inr h2)]
      have h1' : 1 ≤ n := by omega
      clear hb b0 b1 h1
      go_enter Try.func10, Try.ntmps10
      go_wp2_with fail
      refine (H.out _).mono ?_
      rintro e w1 ⟨rfl, rfl⟩
      go_wp2
      go_ret2
      exact ⟨rfl, rfl⟩
    have h1' : 1 ≤ n := by omega
    have h2' : n ≤ 2147483647 := by omega
    rw [giveR_mov hb h1' h2']
    by_cases h3 : 2147483647 < w0 + n
    · rw [movR_no (isW_no.2 (.inr h3))]
      clear hb h1 h2
      go_enter Try.func10, Try.ntmps10
      go_wp2_with fail
      refine (H.out _).mono ?_
      rintro e w1 ⟨rfl, rfl⟩
      go_wp2
      go_ret2
      exact ⟨rfl, rfl⟩
    · rw [movR_yes (isW_yes.2 ⟨by omega, by omega⟩)]
      have h3' : w0 + n ≤ 2147483647 := by omega
      clear hb h1 h2 h3
      go_enter Try.func10, Try.ntmps10
      go_wp2_with fail
      refine (H.out _).mono ?_
      rintro e w1 ⟨rfl, rfl⟩
      go_wp2
      go_ret2
      exact ⟨rfl, rfl⟩

theorem rw_Shift (w0 a b : Int) (w : World) : Calls Try.prog 12 #[.int .i64 w0, .int .i64 a, .int .i64 b] w fun e w' => e = .returned (.tuple #[.int .i64 (shiftR w0 a b).1, .int .i64 (shiftR w0 a b).2]) ∧ w = w' := by
  have H := hide (fun w => rw_is w0 w)
  cases hb : isW w0 with
  | false =>
    rw [hb] at H
    rw [shiftR_3 hb]
    clear hb
    go_enter Try.func12, Try.ntmps12
    go_wp2_with fail
    refine (H.out _).mono ?_
    rintro e w1 ⟨rfl, rfl⟩
    go_wp2
    go_ret2
    exact ⟨rfl, rfl⟩
  | true =>
    rw [hb] at H
    obtain ⟨b0, b1⟩ := isW_yes.1 hb
    by_cases h1 : a < 0
    · rw [shiftR_1 hb (.inl (isF_no.2 (.inl h1)))]
      clear hb b0 b1
      go_enter Try.func12, Try.ntmps12
      go_wp2_with fail
      refine (H.out _).mono ?_
      rintro e w1 ⟨rfl, rfl⟩
      go_wp2
      go_ret2
      exact ⟨rfl, rfl⟩
    have h1' : 0 ≤ a := by omega
    by_cases h2 : 2147483647 < a
    · rw [shiftR_1 hb (.inl (isF_no.2 (.inr h2)))]
      clear hb b0 b1 h1
      go_enter Try.func12, Try.ntmps12
      go_wp2_with fail
      refine (H.out _).mono ?_
      rintro e w1 ⟨rfl, rfl⟩
      go_wp2
      go_ret2
      exact ⟨rfl, rfl⟩
    have h2' : a ≤ 2147483647 := by omega
    by_cases h3 : b < 0
    · rw [shiftR_1 hb (.inr (isF_no.2 (.inl h3)))]
      clear hb b0 b1 h1 h2
      go_enter Try.func12, Try.ntmps12
      go_wp2_with fail
      refine (H.out _).mono ?_
      rintro e w1 ⟨rfl, rfl⟩
      go_wp2
      go_ret2
      exact ⟨rfl, rfl⟩
    have h3' : 0 ≤ b := by omega
    by_cases h4 : 2147483647 < b
    · rw [shiftR_1 hb (.inr (isF_no.2 (.inr h4)))]
      clear hb b0 b1 h1 h2 h3
      go_enter Try.func12, Try.ntmps12
      go_wp2_with fail
      refine (H.out _).mono ?_
      rintro e w1 ⟨rfl, rfl⟩
      go_wp2
      go_ret2
      exact ⟨rfl, rfl⟩
    have h4' : b ≤ 2147483647 := by omega
    rw [shiftR_mov hb (isF_yes.2 ⟨h1', h2'⟩) (isF_yes.2 ⟨h3', h4'⟩)]
    have HM := hide (fun w => rw_is (w0 + b - a) w)
    have HE := hide (show w0 + (b - a) = w0 + b - a by omega)
    unfold movR
    rw [HE.out]
    cases hm : isW (w0 + b - a)
    all_goals
      rw [hm] at HM
      clear hb hm h1 h2 h3 h4
      go_enter Try.func12, Try.ntmps12
      go_wp2_with fail
      refine (H.out _).mono ?_
      rintro e w1 ⟨rfl, rfl⟩
      go_wp2_with fail
      refine (HM.out _).mono ?_
      rintro e w1 ⟨rfl, rfl⟩
      go_wp2
      go_ret2
      exact ⟨rfl, rfl⟩

/-- min of four numbers. -/
theorem run_min4 {P : Program} (w : World) (ts : Array TypeId) (t : TypeId) (a b c d : Int) :
    (Builtin.min_ ts t #[.int .i64 a, .int .i64 b, .int .i64 c, .int .i64 d]).run P w = .ok (.int .i64 (min (min (min a b) c) d)) w := by
  have e : ∀ x y : Int, (if y < x then y else x) = min x y := by
    intro x y
    rw [Int.min_def]
    split <;> split <;> omega
  simp [Builtin.min_, Builtin.min2, e]
theorem wi_May (a b c d : Int) (w : World) : Calls Try.prog 18 #[.int .i64 a, .int .i64 b, .int .i64 c, .int .i64 d] w fun e w' => e = .returned (.int .i64 (mayR a b c d)) ∧ w = w' := by
  have hm := fun (w : World) (ts : Array TypeId) (t : TypeId) => run_min4 (P := Try.prog) w ts t a b c d
  unfold mayR
  generalize min (min (min a b) c) d = z at *
  go_enter Try.func18, Try.ntmps18
  go_wp2
  go_ret
  exact ⟨rfl, rfl⟩

/-- The document's least number, step by step. -/
theorem rw_May (a b c d : Int) (w : World) : Calls Try.prog 19 #[.int .i64 a, .int .i64 b, .int .i64 c, .int .i64 d] w fun e w' => e = .returned (.int .i64 (mayR a b c d)) ∧ w = w' := by
  by_cases h0 : b < a
  · skip
    by_cases h1 : c < b
    · skip
      by_cases h2 : d < c
      · skip
        by_cases h3 : d < 1
        · have HE := hide (show (0 : Int) = mayR a b c d by unfold mayR; omega)
          skip
          go_enter Try.func19, Try.ntmps19
          go_wp2
          go_ret
          exact ⟨by rw [← HE.out]; rfl, rfl⟩
        · have HE := hide (show d = mayR a b c d by unfold mayR; omega)
          have k3 : 1 ≤ d := by omega
          clear  h3
          go_enter Try.func19, Try.ntmps19
          go_wp2
          go_ret
          exact ⟨by rw [← HE.out]; rfl, rfl⟩
      · have k2 : c ≤ d := by omega
        by_cases h3 : c < 1
        · have HE := hide (show (0 : Int) = mayR a b c d by unfold mayR; omega)
          clear h2
          go_enter Try.func19, Try.ntmps19
          go_wp2
          go_ret
          exact ⟨by rw [← HE.out]; rfl, rfl⟩
        · have HE := hide (show c = mayR a b c d by unfold mayR; omega)
          have k3 : 1 ≤ c := by omega
          clear h2 h3
          go_enter Try.func19, Try.ntmps19
          go_wp2
          go_ret
          exact ⟨by rw [← HE.out]; rfl, rfl⟩
    · have k1 : b ≤ c := by omega
      by_cases h2 : d < b
      · skip
        by_cases h3 : d < 1
        · have HE := hide (show (0 : Int) = mayR a b c d by unfold mayR; omega)
          clear h1
          go_enter Try.func19, Try.ntmps19
          go_wp2
          go_ret
          exact ⟨by rw [← HE.out]; rfl, rfl⟩
        · have HE := hide (show d = mayR a b c d by unfold mayR; omega)
          have k3 : 1 ≤ d := by omega
          clear h1 h3
          go_enter Try.func19, Try.ntmps19
          go_wp2
          go_ret
          exact ⟨by rw [← HE.out]; rfl, rfl⟩
      · have k2 : b ≤ d := by omega
        by_cases h3 : b < 1
        · have HE := hide (show (0 : Int) = mayR a b c d by unfold mayR; omega)
          clear h1 h2
          go_enter Try.func19, Try.ntmps19
          go_wp2
          go_ret
          exact ⟨by rw [← HE.out]; rfl, rfl⟩
        · have HE := hide (show b = mayR a b c d by unfold mayR; omega)
          have k3 : 1 ≤ b := by omega
          clear h1 h2 h3
          go_enter Try.func19, Try.ntmps19
          go_wp2
          go_ret
          exact ⟨by rw [← HE.out]; rfl, rfl⟩
  · have k0 : a ≤ b := by omega
    by_cases h1 : c < a
    · skip
      by_cases h2 : d < c
      · skip
        by_cases h3 : d < 1
        · have HE := hide (show (0 : Int) = mayR a b c d by unfold mayR; omega)
          clear h0
          go_enter Try.func19, Try.ntmps19
          go_wp2
          go_ret
          exact ⟨by rw [← HE.out]; rfl, rfl⟩
        · have HE := hide (show d = mayR a b c d by unfold mayR; omega)
          have k3 : 1 ≤ d := by omega
          clear h0 h3
          go_enter Try.func19, Try.ntmps19
          go_wp2
          go_ret
          exact ⟨by rw [← HE.out]; rfl, rfl⟩
      · have k2 : c ≤ d := by omega
        by_cases h3 : c < 1
        · have HE := hide (show (0 : Int) = mayR a b c d by unfold mayR; omega)
          clear h0 h2
          go_enter Try.func19, Try.ntmps19
          go_wp2
          go_ret
          exact ⟨by rw [← HE.out]; rfl, rfl⟩
        · have HE := hide (show c = mayR a b c d by unfold mayR; omega)
          have k3 : 1 ≤ c := by omega
          clear h0 h2 h3
          go_enter Try.func19, Try.ntmps19
          go_wp2
          go_ret
          exact ⟨by rw [← HE.out]; rfl, rfl⟩
    · have k1 : a ≤ c := by omega
      by_cases h2 : d < a
      · skip
        by_cases h3 : d < 1
        · have HE := hide (show (0 : Int) = mayR a b c d by unfold mayR; omega)
          clear h0 h1
          go_enter Try.func19, Try.ntmps19
          go_wp2
          go_ret
          exact ⟨by rw [← HE.out]; rfl, rfl⟩
        · have HE := hide (show d = mayR a b c d by unfold mayR; omega)
          have k3 : 1 ≤ d := by omega
          clear h0 h1 h3
          go_enter Try.func19, Try.ntmps19
          go_wp2
          go_ret
          exact ⟨by rw [← HE.out]; rfl, rfl⟩
      · have k2 : a ≤ d := by omega
        by_cases h3 : a < 1
        · have HE := hide (show (0 : Int) = mayR a b c d by unfold mayR; omega)
          clear h0 h1 h2
          go_enter Try.func19, Try.ntmps19
          go_wp2
          go_ret
          exact ⟨by rw [← HE.out]; rfl, rfl⟩
        · have HE := hide (show a = mayR a b c d by unfold mayR; omega)
          have k3 : 1 ≤ a := by omega
          clear h0 h1 h2 h3
          go_enter Try.func19, Try.ntmps19
          go_wp2
          go_ret
          exact ⟨by rw [← HE.out]; rfl, rfl⟩

end Go.Proofs.Ytkigclbmkifbbaa
