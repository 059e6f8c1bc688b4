/-
  Layer 8: the program's Check.
-/
import Derived.Test.YtojcjmjohibpaaaFhMath
namespace Go.Proofs.Ytojcjmjohibpaaa
set_option linter.unusedSimpArgs false
set_option linter.unusedVariables false
open Go.RowKit

theorem fh_Check (l t f s : Int) (w : World) : Calls Try.prog 24 #[.agg #[.int .i64 l, .int .u8 t, .int .u8 f, .int .i64 s]] w fun e w' => e = .returned (.int .i64 (chkH l s)) ∧ Below w.heap.size w w' := by
  cases hk : okH l s with
  | true =>
    rw [chkH_yes hk]
    obtain ⟨h1, h2, h3, h4⟩ := (okH_iff l s).1 hk
    clear hk
    go_enter Try.func24, Try.ntmps24
    go_wp2
    go_ret
    exact ⟨rfl, (Below.refl _ _).alloc (Nat.le_refl _) _⟩
  | false =>
    rw [chkH_no hk]
    have h := (okH_no l s).1 hk
    clear hk
    by_cases h1 : l < 0
    · clear h
      go_enter Try.func24, Try.ntmps24
      go_wp2
      go_ret
      exact ⟨rfl, (Below.refl _ _).alloc (Nat.le_refl _) _⟩
    by_cases h2 : 16777215 < l
    · clear h
      go_enter Try.func24, Try.ntmps24
      go_wp2
      go_ret
      exact ⟨rfl, (Below.refl _ _).alloc (Nat.le_refl _) _⟩
    by_cases h3 : s < 0
    · clear h
      go_enter Try.func24, Try.ntmps24
      go_wp2
      go_ret
      exact ⟨rfl, (Below.refl _ _).alloc (Nat.le_refl _) _⟩
    · have h4 : 2147483647 < s := by omega
      clear h
      go_enter Try.func24, Try.ntmps24
      go_wp2
      go_ret
      exact ⟨rfl, (Below.refl _ _).alloc (Nat.le_refl _) _⟩
end Go.Proofs.Ytojcjmjohibpaaa
