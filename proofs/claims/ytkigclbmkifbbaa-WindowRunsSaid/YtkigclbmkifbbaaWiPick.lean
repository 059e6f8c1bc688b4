/-
  Layer 14: Run of the program: acts by functions that a value picks.
-/
import Derived.Test.YtkigclbmkifbbaaWiSmall
import Derived.Test.YtkigclbmkifbbaaWiMem
import Derived.Deep.QuietTactic
import Derived.BigQuiet
import Derived.Shelf.Abstract
namespace Go.Proofs.Ytkigclbmkifbbaa
set_option linter.unusedSimpArgs false
set_option linter.unusedVariables false
open Go.RowKit

theorem wi_act1 (w0 n : Int) (w : World) : Calls Try.prog 25 #[.int .i64 w0, .int .i64 n] w fun e w' => e = .returned (.tuple #[.int .i64 (takA w0 n).1, .int .u32 (takA w0 n).2]) ∧ w = w' := by
  have H := hide (fun w => wi_Take w0 n w)
  unfold takA
  obtain ⟨r, hr⟩ : ∃ r, r = takeR w0 n := ⟨_, rfl⟩
  rw [← hr] at H ⊢
  clear hr
  obtain ⟨v, is⟩ := r
  cases is
  all_goals
    go_enter Try.func25, Try.ntmps25
    go_wp2_with fail
    refine (H.out _).mono ?_
    rintro e w1 ⟨rfl, rfl⟩
    go_wp2
    go_ret2
    exact ⟨rfl, rfl⟩
theorem wi_act2 (w0 n : Int) (w : World) : Calls Try.prog 26 #[.int .i64 w0, .int .i64 n] w fun e w' => e = .returned (.tuple #[.int .i64 (shiftR w0 0 n).1, .int .u32 (shiftR w0 0 n).2]) ∧ w = w' := by
  have H := hide (fun w => wi_Shift w0 0 n w)
  go_enter Try.func26, Try.ntmps26
  go_wp2_with fail
  refine (H.out _).mono ?_
  rintro e w1 ⟨rfl, rfl⟩
  go_wp2
  go_ret2
  exact ⟨rfl, rfl⟩
theorem wi_act3 (w0 n : Int) (w : World) : Calls Try.prog 27 #[.int .i64 w0, .int .i64 n] w fun e w' => e = .returned (.tuple #[.int .i64 (shiftR w0 n 0).1, .int .u32 (shiftR w0 n 0).2]) ∧ w = w' := by
  have H := hide (fun w => wi_Shift w0 n 0 w)
  go_enter Try.func27, Try.ntmps27
  go_wp2_with fail
  refine (H.out _).mono ?_
  rintro e w1 ⟨rfl, rfl⟩
  go_wp2
  go_ret2
  exact ⟨rfl, rfl⟩
theorem wi_act4 (w0 n : Int) (w : World) : Calls Try.prog 28 #[.int .i64 w0, .int .i64 n] w fun e w' => e = .returned (.tuple #[.int .i64 w0, .int .u32 0]) ∧ w = w' := by
  go_enter Try.func28, Try.ntmps28
  go_wp2
  go_ret2
  exact ⟨rfl, rfl⟩
theorem wi_doing0 (w : World) : Calls Try.prog 24 #[.int .u8 0] w fun e w' => e = .returned (.func (.func 25) #[] #[]) ∧ w = w' := by
  go_enter Try.func24, Try.ntmps24
  go_wp2
  go_ret
  exact ⟨rfl, rfl⟩
theorem wi_doing1 (w : World) : Calls Try.prog 24 #[.int .u8 1] w fun e w' => e = .returned (.func (.func 9) #[] #[]) ∧ w = w' := by
  go_enter Try.func24, Try.ntmps24
  go_wp2
  go_ret
  exact ⟨rfl, rfl⟩
theorem wi_doing2 (w : World) : Calls Try.prog 24 #[.int .u8 2] w fun e w' => e = .returned (.func (.func 26) #[] #[]) ∧ w = w' := by
  go_enter Try.func24, Try.ntmps24
  go_wp2
  go_ret
  exact ⟨rfl, rfl⟩
theorem wi_doing3 (w : World) : Calls Try.prog 24 #[.int .u8 3] w fun e w' => e = .returned (.func (.func 27) #[] #[]) ∧ w = w' := by
  go_enter Try.func24, Try.ntmps24
  go_wp2
  go_ret
  exact ⟨rfl, rfl⟩
theorem wi_doingx (k : Int) (h0 : ¬ k = 0) (h1 : ¬ k = 1) (h2 : ¬ k = 2) (h3 : ¬ k = 3) (w : World) : Calls Try.prog 24 #[.int .u8 k] w fun e w' => e = .returned (.func (.func 28) #[] #[]) ∧ w = w' := by
  have k0 : (k == 0) = false := by simp; omega
  have k1 : (k == 1) = false := by simp; omega
  have k2 : (k == 2) = false := by simp; omega
  have k3 : (k == 3) = false := by simp; omega
  clear h0 h1 h2 h3
  go_enter Try.func24, Try.ntmps24
  go_wp2
  go_ret
  exact ⟨rfl, rfl⟩

/-- A function of the program's own is entered. -/
theorem enters_fn {fn : FuncId} {f : Func} (hf : Try.prog.funcs[fn]? = some f) (h0 : (f.name == "runtime.NumGoroutine") = false) (h1 : f.body.isNone = false) (args : Array Value) (w : World) : (callFunc fn args).run Try.prog w = .ok (.enter fn args) w := by
  cases hb : f.body with
  | none => rw [hb] at h1; cases h1
  | some c => exact enters_of hf h0 hb args w
/-- A value picks the function that does the act. -/
def PickIs (k : Int) (fn : FuncId) : Prop :=
  (∀ W, Calls Try.prog 24 #[.int .u8 k] W fun e w' => e = .returned (.func (.func fn) #[] #[]) ∧ w' = W) ∧ (∀ args w, (callFunc fn args).run Try.prog w = .ok (.enter fn args) w) ∧ ∀ w0 n W, Calls Try.prog fn #[.int .i64 w0, .int .i64 n] W fun e w' => e = .returned (.tuple #[.int .i64 (actR k w0 n).1, .int .u32 (actR k w0 n).2]) ∧ w' = W
theorem pick_mk {k : Int} {fn : FuncId} (h1 : ∀ w, Calls Try.prog 24 #[.int .u8 k] w fun e w' => e = .returned (.func (.func fn) #[] #[]) ∧ w = w') (h2 : ∀ args w, (callFunc fn args).run Try.prog w = .ok (.enter fn args) w)
    (h3 : ∀ w0 n w, Calls Try.prog fn #[.int .i64 w0, .int .i64 n] w fun e w' => e = .returned (.tuple #[.int .i64 (actR k w0 n).1, .int .u32 (actR k w0 n).2]) ∧ w = w') : PickIs k fn :=
  ⟨fun W => (h1 W).mono fun e w' h => ⟨h.1, h.2.symm⟩, h2, fun w0 n W => (h3 w0 n W).mono fun e w' h => ⟨h.1, h.2.symm⟩⟩
theorem wi_pick (k : Int) : ∃ fn, PickIs k fn := by
  by_cases h0 : k = 0
  · subst h0; exact ⟨_, pick_mk wi_doing0 (enters_fn Try.func25 (by kernel_rfl) (by kernel_rfl)) fun w0 n w => wi_act1 w0 n w⟩
  by_cases h1 : k = 1
  · subst h1; exact ⟨_, pick_mk wi_doing1 (enters_fn Try.func9 (by kernel_rfl) (by kernel_rfl)) fun w0 n w => wi_Give w0 n w⟩
  by_cases h2 : k = 2
  · subst h2; exact ⟨_, pick_mk wi_doing2 (enters_fn Try.func26 (by kernel_rfl) (by kernel_rfl)) fun w0 n w => wi_act2 w0 n w⟩
  by_cases h3 : k = 3
  · subst h3; exact ⟨_, pick_mk wi_doing3 (enters_fn Try.func27 (by kernel_rfl) (by kernel_rfl)) fun w0 n w => wi_act3 w0 n w⟩
  · exact ⟨_, pick_mk (wi_doingx k h0 h1 h2 h3) (enters_fn Try.func28 (by kernel_rfl) (by kernel_rfl)) fun w0 n w => by rw [actR_x h0 h1 h2 h3]; exact wi_act4 w0 n w⟩
end Go.Proofs.Ytkigclbmkifbbaa
