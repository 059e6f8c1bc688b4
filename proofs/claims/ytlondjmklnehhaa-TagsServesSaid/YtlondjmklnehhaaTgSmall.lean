/-
  Layer 25: isWeight, isWork, isTime, in; Check, Charge: the program's and the document's.
-/
import Derived.Test.YtlondjmklnehhaaTgMath
import Derived.Test.YtlondjmklnehhaaMem
import Derived.Test.YtlondjmklnehhaaOps
import Derived.Test.YtlondjmklnehhaaRows
import Derived.Test.YtlondjmklnehhaaChecked
namespace Go.Proofs.Ytlondjmklnehhaa
set_option linter.unusedSimpArgs false
set_option linter.unusedVariables false
open Go.RowKit

theorem tg_size : (Try.prog.info? 24).map (·.size) = some 4 := by kernel_rfl
theorem rt_size : (Try.prog.info? 23).map (·.size) = some 4 := by kernel_rfl
theorem tcell4 {w : World} {g : Nat} {t : TypeId} {x : Tg} (h : BlkIs w g t x.cs) : w.cell? ⟨g, 0, none⟩ = some (.int .i64 x.w) ∧ w.cell? ⟨g, 1, none⟩ = some (.int .i64 x.s) ∧ w.cell? ⟨g, 2, none⟩ = some (.int .i64 x.f) ∧ w.cell? ⟨g, 3, none⟩ = some (.int .i64 x.k) :=
  ⟨(h.cell 0).trans rfl, (h.cell 1).trans rfl, (h.cell 2).trans rfl, (h.cell 3).trans rfl⟩
/-- A number lies from a to b. -/
def inT (a b n : Int) : Bool := decide (a ≤ n ∧ n ≤ b)
theorem inT_yes {a b n : Int} : inT a b n = true ↔ a ≤ n ∧ n ≤ b := decide_eq_true_iff
theorem inT_no {a b n : Int} : inT a b n = false ↔ ¬ (a ≤ n ∧ n ≤ b) := decide_eq_false_iff_not

theorem tg_isWeight (n : Int) (w : World) : Calls Try.prog 30 #[.int .i64 n] w fun e w' => e = .returned (.bool (inT 1 16 n)) ∧ w = w' := by
  by_cases h0 : 1 ≤ n
  · by_cases h1 : n ≤ 16
    · rw [inT_yes.2 ⟨h0, h1⟩]
      go_enter Try.func30, Try.ntmps30
      go_wp2
      go_ret
      exact ⟨rfl, rfl⟩
    · rw [inT_no.2 (fun q => h1 q.2)]
      have k0 : decide (1 ≤ n) = true := decide_eq_true h0
      have k1 : decide (n ≤ 16) = false := decide_eq_false h1
      clear h0 h1
      go_enter Try.func30, Try.ntmps30
      go_wp2
      go_ret
      exact ⟨rfl, rfl⟩
  · rw [inT_no.2 (fun q => h0 q.1)]
    have k0 : decide (1 ≤ n) = false := decide_eq_false h0
    clear h0
    go_enter Try.func30, Try.ntmps30
    go_wp2
    go_ret
    exact ⟨rfl, rfl⟩

theorem tg_isWork (n : Int) (w : World) : Calls Try.prog 29 #[.int .i64 n] w fun e w' => e = .returned (.bool (inT 0 1099511627776 n)) ∧ w = w' := by
  by_cases h0 : 0 ≤ n
  · by_cases h1 : n ≤ 1099511627776
    · rw [inT_yes.2 ⟨h0, h1⟩]
      go_enter Try.func29, Try.ntmps29
      go_wp2
      go_ret
      exact ⟨rfl, rfl⟩
    · rw [inT_no.2 (fun q => h1 q.2)]
      have k0 : decide (0 ≤ n) = true := decide_eq_true h0
      have k1 : decide (n ≤ 1099511627776) = false := decide_eq_false h1
      clear h0 h1
      go_enter Try.func29, Try.ntmps29
      go_wp2
      go_ret
      exact ⟨rfl, rfl⟩
  · rw [inT_no.2 (fun q => h0 q.1)]
    have k0 : decide (0 ≤ n) = false := decide_eq_false h0
    clear h0
    go_enter Try.func29, Try.ntmps29
    go_wp2
    go_ret
    exact ⟨rfl, rfl⟩

theorem tg_isTime (n : Int) (w : World) : Calls Try.prog 28 #[.int .i64 n] w fun e w' => e = .returned (.bool (inT 0 2305843009213693952 n)) ∧ w = w' := by
  by_cases h0 : 0 ≤ n
  · by_cases h1 : n ≤ 2305843009213693952
    · rw [inT_yes.2 ⟨h0, h1⟩]
      go_enter Try.func28, Try.ntmps28
      go_wp2
      go_ret
      exact ⟨rfl, rfl⟩
    · rw [inT_no.2 (fun q => h1 q.2)]
      have k0 : decide (0 ≤ n) = true := decide_eq_true h0
      have k1 : decide (n ≤ 2305843009213693952) = false := decide_eq_false h1
      clear h0 h1
      go_enter Try.func28, Try.ntmps28
      go_wp2
      go_ret
      exact ⟨rfl, rfl⟩
  · rw [inT_no.2 (fun q => h0 q.1)]
    have k0 : decide (0 ≤ n) = false := decide_eq_false h0
    clear h0
    go_enter Try.func28, Try.ntmps28
    go_wp2
    go_ret
    exact ⟨rfl, rfl⟩

theorem rt_in (n m : Int) (w : World) : Calls Try.prog 31 #[.int .i64 n, .int .i64 m] w fun e w' => e = .returned (.bool (inT 0 m n)) ∧ w = w' := by
  by_cases h0 : 0 ≤ n
  · by_cases h1 : n ≤ m
    · rw [inT_yes.2 ⟨h0, h1⟩]
      go_enter Try.func31, Try.ntmps31
      go_wp2
      go_ret
      exact ⟨rfl, rfl⟩
    · rw [inT_no.2 (fun q => h1 q.2)]
      have k0 : decide (0 ≤ n) = true := decide_eq_true h0
      have k1 : decide (n ≤ m) = false := decide_eq_false h1
      clear h0 h1
      go_enter Try.func31, Try.ntmps31
      go_wp2
      go_ret
      exact ⟨rfl, rfl⟩
  · rw [inT_no.2 (fun q => h0 q.1)]
    have k0 : decide (0 ≤ n) = false := decide_eq_false h0
    clear h0
    go_enter Try.func31, Try.ntmps31
    go_wp2
    go_ret
    exact ⟨rfl, rfl⟩

set_option maxRecDepth 100000 in
set_option maxHeartbeats 1600000 in
theorem tg_Check (x : Tg) (w : World) : Calls Try.prog 15 #[.agg x.cs] w fun e w' => e = .returned (.int .i64 (chkT x)) ∧ Below w.heap.size w w' := by
  obtain ⟨a, s, f, k⟩ := x
  have HB := hide (bel1 w (.cells (Tg.cs ⟨a, s, f, k⟩) 24))
  simp only [Tg.cs] at HB ⊢
  by_cases k0 : inT 1 16 a = false
  · rw [chkT_no (fun h => by obtain ⟨⟨a1, a2⟩, ⟨a3, a4⟩, ⟨a5, a6⟩, ⟨a7, a8⟩⟩ := h; simp only at a1 a2 a3 a4 a5 a6 a7 a8; have j0 := inT_no.1 k0; omega)]
    go_enter Try.func15, Try.ntmps15
    go_wp2_with (first | (go_at_call 30; refine (tg_isWeight _ _).mono ?_; rintro e w1 ⟨rfl, rfl⟩) | (go_at_call 28; refine (tg_isTime _ _).mono ?_; rintro e w1 ⟨rfl, rfl⟩) | (go_at_call 29; refine (tg_isWork _ _).mono ?_; rintro e w1 ⟨rfl, rfl⟩))
    go_ret
    exact ⟨rfl, HB.out⟩
  replace k0 : inT 1 16 a = true := by cases h : inT 1 16 a <;> simp_all
  by_cases k1 : inT 0 2305843009213693952 s = false
  · rw [chkT_no (fun h => by obtain ⟨⟨a1, a2⟩, ⟨a3, a4⟩, ⟨a5, a6⟩, ⟨a7, a8⟩⟩ := h; simp only at a1 a2 a3 a4 a5 a6 a7 a8; have j1 := inT_no.1 k1; omega)]
    go_enter Try.func15, Try.ntmps15
    go_wp2_with (first | (go_at_call 30; refine (tg_isWeight _ _).mono ?_; rintro e w1 ⟨rfl, rfl⟩) | (go_at_call 28; refine (tg_isTime _ _).mono ?_; rintro e w1 ⟨rfl, rfl⟩) | (go_at_call 29; refine (tg_isWork _ _).mono ?_; rintro e w1 ⟨rfl, rfl⟩))
    go_ret
    exact ⟨rfl, HB.out⟩
  replace k1 : inT 0 2305843009213693952 s = true := by cases h : inT 0 2305843009213693952 s <;> simp_all
  by_cases k2 : inT 0 2305843009213693952 f = false
  · rw [chkT_no (fun h => by obtain ⟨⟨a1, a2⟩, ⟨a3, a4⟩, ⟨a5, a6⟩, ⟨a7, a8⟩⟩ := h; simp only at a1 a2 a3 a4 a5 a6 a7 a8; have j2 := inT_no.1 k2; omega)]
    go_enter Try.func15, Try.ntmps15
    go_wp2_with (first | (go_at_call 30; refine (tg_isWeight _ _).mono ?_; rintro e w1 ⟨rfl, rfl⟩) | (go_at_call 28; refine (tg_isTime _ _).mono ?_; rintro e w1 ⟨rfl, rfl⟩) | (go_at_call 29; refine (tg_isWork _ _).mono ?_; rintro e w1 ⟨rfl, rfl⟩))
    go_ret
    exact ⟨rfl, HB.out⟩
  replace k2 : inT 0 2305843009213693952 f = true := by cases h : inT 0 2305843009213693952 f <;> simp_all
  by_cases k3 : inT 0 1099511627776 k = false
  · rw [chkT_no (fun h => by obtain ⟨⟨a1, a2⟩, ⟨a3, a4⟩, ⟨a5, a6⟩, ⟨a7, a8⟩⟩ := h; simp only at a1 a2 a3 a4 a5 a6 a7 a8; have j3 := inT_no.1 k3; omega)]
    go_enter Try.func15, Try.ntmps15
    go_wp2_with (first | (go_at_call 30; refine (tg_isWeight _ _).mono ?_; rintro e w1 ⟨rfl, rfl⟩) | (go_at_call 28; refine (tg_isTime _ _).mono ?_; rintro e w1 ⟨rfl, rfl⟩) | (go_at_call 29; refine (tg_isWork _ _).mono ?_; rintro e w1 ⟨rfl, rfl⟩))
    go_ret
    exact ⟨rfl, HB.out⟩
  replace k3 : inT 0 1099511627776 k = true := by cases h : inT 0 1099511627776 k <;> simp_all
  rw [chkT_yes (t := ⟨a, s, f, k⟩) (by have j0 := inT_yes.1 k0; have j1 := inT_yes.1 k1; have j2 := inT_yes.1 k2; have j3 := inT_yes.1 k3; exact ⟨⟨by simp only; omega, by simp only; omega⟩, ⟨by simp only; omega, by simp only; omega⟩, ⟨by simp only; omega, by simp only; omega⟩, ⟨by simp only; omega, by simp only; omega⟩⟩)]
  go_enter Try.func15, Try.ntmps15
  go_wp2_with (first | (go_at_call 30; refine (tg_isWeight _ _).mono ?_; rintro e w1 ⟨rfl, rfl⟩) | (go_at_call 28; refine (tg_isTime _ _).mono ?_; rintro e w1 ⟨rfl, rfl⟩) | (go_at_call 29; refine (tg_isWork _ _).mono ?_; rintro e w1 ⟨rfl, rfl⟩))
  go_ret
  exact ⟨rfl, HB.out⟩

set_option maxRecDepth 100000 in
set_option maxHeartbeats 1600000 in
theorem rt_Check (x : Tg) (w : World) : Calls Try.prog 16 #[.agg x.cs] w fun e w' => e = .returned (.int .i64 (chkT x)) ∧ Below w.heap.size w w' := by
  obtain ⟨a, s, f, k⟩ := x
  have HB := hide (bel1 w (.cells (Tg.cs ⟨a, s, f, k⟩) 23))
  simp only [Tg.cs] at HB ⊢
  by_cases k0 : decide (a < 1) = true
  · rw [chkT_no (fun h => by obtain ⟨⟨a1, a2⟩, ⟨a3, a4⟩, ⟨a5, a6⟩, ⟨a7, a8⟩⟩ := h; simp only at a1 a2 a3 a4 a5 a6 a7 a8; have j0 := decide_eq_true_iff.1 k0; omega)]
    go_enter Try.func16, Try.ntmps16
    go_wp2_with (first | (go_at_call 31; refine (rt_in _ _ _).mono ?_; rintro e w1 ⟨rfl, rfl⟩))
    go_ret
    exact ⟨rfl, HB.out⟩
  replace k0 : decide (a < 1) = false := by cases h : decide (a < 1) <;> simp_all
  by_cases k1 : decide (16 < a) = true
  · rw [chkT_no (fun h => by obtain ⟨⟨a1, a2⟩, ⟨a3, a4⟩, ⟨a5, a6⟩, ⟨a7, a8⟩⟩ := h; simp only at a1 a2 a3 a4 a5 a6 a7 a8; have j1 := decide_eq_true_iff.1 k1; omega)]
    go_enter Try.func16, Try.ntmps16
    go_wp2_with (first | (go_at_call 31; refine (rt_in _ _ _).mono ?_; rintro e w1 ⟨rfl, rfl⟩))
    go_ret
    exact ⟨rfl, HB.out⟩
  replace k1 : decide (16 < a) = false := by cases h : decide (16 < a) <;> simp_all
  by_cases k2 : inT 0 1099511627776 k = false
  · rw [chkT_no (fun h => by obtain ⟨⟨a1, a2⟩, ⟨a3, a4⟩, ⟨a5, a6⟩, ⟨a7, a8⟩⟩ := h; simp only at a1 a2 a3 a4 a5 a6 a7 a8; have j2 := inT_no.1 k2; omega)]
    go_enter Try.func16, Try.ntmps16
    go_wp2_with (first | (go_at_call 31; refine (rt_in _ _ _).mono ?_; rintro e w1 ⟨rfl, rfl⟩))
    go_ret
    exact ⟨rfl, HB.out⟩
  replace k2 : inT 0 1099511627776 k = true := by cases h : inT 0 1099511627776 k <;> simp_all
  by_cases k3 : inT 0 2305843009213693952 s = false
  · rw [chkT_no (fun h => by obtain ⟨⟨a1, a2⟩, ⟨a3, a4⟩, ⟨a5, a6⟩, ⟨a7, a8⟩⟩ := h; simp only at a1 a2 a3 a4 a5 a6 a7 a8; have j3 := inT_no.1 k3; omega)]
    go_enter Try.func16, Try.ntmps16
    go_wp2_with (first | (go_at_call 31; refine (rt_in _ _ _).mono ?_; rintro e w1 ⟨rfl, rfl⟩))
    go_ret
    exact ⟨rfl, HB.out⟩
  replace k3 : inT 0 2305843009213693952 s = true := by cases h : inT 0 2305843009213693952 s <;> simp_all
  by_cases k4 : inT 0 2305843009213693952 f = false
  · rw [chkT_no (fun h => by obtain ⟨⟨a1, a2⟩, ⟨a3, a4⟩, ⟨a5, a6⟩, ⟨a7, a8⟩⟩ := h; simp only at a1 a2 a3 a4 a5 a6 a7 a8; have j4 := inT_no.1 k4; omega)]
    go_enter Try.func16, Try.ntmps16
    go_wp2_with (first | (go_at_call 31; refine (rt_in _ _ _).mono ?_; rintro e w1 ⟨rfl, rfl⟩))
    go_ret
    exact ⟨rfl, HB.out⟩
  replace k4 : inT 0 2305843009213693952 f = true := by cases h : inT 0 2305843009213693952 f <;> simp_all
  rw [chkT_yes (t := ⟨a, s, f, k⟩) (by have j0 := decide_eq_false_iff_not.1 k0; have j1 := decide_eq_false_iff_not.1 k1; have j2 := inT_yes.1 k2; have j3 := inT_yes.1 k3; have j4 := inT_yes.1 k4; exact ⟨⟨by simp only; omega, by simp only; omega⟩, ⟨by simp only; omega, by simp only; omega⟩, ⟨by simp only; omega, by simp only; omega⟩, ⟨by simp only; omega, by simp only; omega⟩⟩)]
  go_enter Try.func16, Try.ntmps16
  go_wp2_with (first | (go_at_call 31; refine (rt_in _ _ _).mono ?_; rintro e w1 ⟨rfl, rfl⟩))
  go_ret
  exact ⟨rfl, HB.out⟩

set_option maxRecDepth 100000 in
set_option maxHeartbeats 1600000 in
theorem tg_Charge (c a : Int) (w : World) : Calls Try.prog 9 #[.int .i64 c, .int .i64 a] w fun e w' => e = .returned (.tuple #[.int .i64 (chgI c a).1, .int .i64 (chgI c a).2]) ∧ w = w' := by
  by_cases k0 : inT 0 1099511627776 c = false
  · rw [chgI_no (fun h => by obtain ⟨⟨a1, a2⟩, ⟨a3, a4⟩⟩ := h; have j0 := inT_no.1 k0; omega)]
    go_enter Try.func9, Try.ntmps9
    go_wp2_with (first | (go_at_call 30; refine (tg_isWeight _ _).mono ?_; rintro e w1 ⟨rfl, rfl⟩) | (go_at_call 28; refine (tg_isTime _ _).mono ?_; rintro e w1 ⟨rfl, rfl⟩) | (go_at_call 29; refine (tg_isWork _ _).mono ?_; rintro e w1 ⟨rfl, rfl⟩))
    go_ret2
    exact ⟨rfl, rfl⟩
  replace k0 : inT 0 1099511627776 c = true := by cases h : inT 0 1099511627776 c <;> simp_all
  by_cases k1 : inT 1 16 a = false
  · rw [chgI_no (fun h => by obtain ⟨⟨a1, a2⟩, ⟨a3, a4⟩⟩ := h; have j1 := inT_no.1 k1; omega)]
    go_enter Try.func9, Try.ntmps9
    go_wp2_with (first | (go_at_call 30; refine (tg_isWeight _ _).mono ?_; rintro e w1 ⟨rfl, rfl⟩) | (go_at_call 28; refine (tg_isTime _ _).mono ?_; rintro e w1 ⟨rfl, rfl⟩) | (go_at_call 29; refine (tg_isWork _ _).mono ?_; rintro e w1 ⟨rfl, rfl⟩))
    go_ret2
    exact ⟨rfl, rfl⟩
  replace k1 : inT 1 16 a = true := by cases h : inT 1 16 a <;> simp_all
  have j0 := inT_yes.1 k0
  have j1 := inT_yes.1 k1
  rw [chgI_yes (c := c) (w := a) ⟨by omega, by omega⟩ ⟨by omega, by omega⟩]
  have z := chg_in (c := c) (w := a) ⟨by omega, by omega⟩ ⟨by omega, by omega⟩
  unfold chg at z ⊢
  have e1 : IntKind.i64.wrap (c * 720720) = c * 720720 := IntWalk.i64_in _ (by omega)
  have e2 : (c * 720720).tdiv a = c * 720720 / a := Int.tdiv_eq_ediv_of_nonneg (by omega)
  have e3 : IntKind.i64.wrap (c * 720720 / a) = c * 720720 / a := IntWalk.i64_in _ (by omega)
  have p0 : ¬ a = 0 := by omega
  have p1 : ¬ a = -1 := by omega
  generalize c * 720720 / a = q at *
  clear z j0 j1
  go_enter Try.func9, Try.ntmps9
  go_wp2_with (first | (go_at_call 30; refine (tg_isWeight _ _).mono ?_; rintro e w1 ⟨rfl, rfl⟩) | (go_at_call 28; refine (tg_isTime _ _).mono ?_; rintro e w1 ⟨rfl, rfl⟩) | (go_at_call 29; refine (tg_isWork _ _).mono ?_; rintro e w1 ⟨rfl, rfl⟩))
  go_ret2
  exact ⟨rfl, rfl⟩

set_option maxRecDepth 100000 in
set_option maxHeartbeats 1600000 in
theorem rt_Charge (c a : Int) (w : World) : Calls Try.prog 10 #[.int .i64 c, .int .i64 a] w fun e w' => e = .returned (.tuple #[.int .i64 (chgI c a).1, .int .i64 (chgI c a).2]) ∧ w = w' := by
  by_cases k0 : inT 0 1099511627776 c = false
  · rw [chgI_no (fun h => by obtain ⟨⟨a1, a2⟩, ⟨a3, a4⟩⟩ := h; have j0 := inT_no.1 k0; omega)]
    go_enter Try.func10, Try.ntmps10
    go_wp2_with (first | (go_at_call 31; refine (rt_in _ _ _).mono ?_; rintro e w1 ⟨rfl, rfl⟩))
    go_ret2
    exact ⟨rfl, rfl⟩
  replace k0 : inT 0 1099511627776 c = true := by cases h : inT 0 1099511627776 c <;> simp_all
  by_cases k1 : decide (a < 1) = true
  · rw [chgI_no (fun h => by obtain ⟨⟨a1, a2⟩, ⟨a3, a4⟩⟩ := h; have j1 := decide_eq_true_iff.1 k1; omega)]
    go_enter Try.func10, Try.ntmps10
    go_wp2_with (first | (go_at_call 31; refine (rt_in _ _ _).mono ?_; rintro e w1 ⟨rfl, rfl⟩))
    go_ret2
    exact ⟨rfl, rfl⟩
  replace k1 : decide (a < 1) = false := by cases h : decide (a < 1) <;> simp_all
  by_cases k2 : decide (16 < a) = true
  · rw [chgI_no (fun h => by obtain ⟨⟨a1, a2⟩, ⟨a3, a4⟩⟩ := h; have j2 := decide_eq_true_iff.1 k2; omega)]
    go_enter Try.func10, Try.ntmps10
    go_wp2_with (first | (go_at_call 31; refine (rt_in _ _ _).mono ?_; rintro e w1 ⟨rfl, rfl⟩))
    go_ret2
    exact ⟨rfl, rfl⟩
  replace k2 : decide (16 < a) = false := by cases h : decide (16 < a) <;> simp_all
  have j0 := inT_yes.1 k0
  have j1 := decide_eq_false_iff_not.1 k1
  have j2 := decide_eq_false_iff_not.1 k2
  rw [chgI_yes (c := c) (w := a) ⟨by omega, by omega⟩ ⟨by omega, by omega⟩]
  have z := chg_in (c := c) (w := a) ⟨by omega, by omega⟩ ⟨by omega, by omega⟩
  unfold chg at z ⊢
  have e1 : IntKind.i64.wrap (c * 720720) = c * 720720 := IntWalk.i64_in _ (by omega)
  have e2 : (c * 720720).tdiv a = c * 720720 / a := Int.tdiv_eq_ediv_of_nonneg (by omega)
  have e3 : IntKind.i64.wrap (c * 720720 / a) = c * 720720 / a := IntWalk.i64_in _ (by omega)
  have p0 : ¬ a = 0 := by omega
  have p1 : ¬ a = -1 := by omega
  generalize c * 720720 / a = q at *
  clear z j0 j1 j2
  go_enter Try.func10, Try.ntmps10
  go_wp2_with (first | (go_at_call 31; refine (rt_in _ _ _).mono ?_; rintro e w1 ⟨rfl, rfl⟩))
  go_ret2
  exact ⟨rfl, rfl⟩
end Go.Proofs.Ytlondjmklnehhaa
