/-
  Layer 8: the document's Number.
-/
import Derived.Test.YtojcjmjohibpaaaFhNum
namespace Go.Proofs.Ytojcjmjohibpaaa
set_option linter.unusedSimpArgs false
set_option linter.unusedVariables false
open Go.RowKit

set_option maxHeartbeats 800000 in
theorem rf_Number (A : Option Addr) (n cap : Nat) (xs : List Int) (w : World) (hr : RB w A n xs) (h4 : n ≤ 4) :
    Calls Try.prog 26 #[.slice A n cap] w fun e w' => e = .returned (.int .i64 (numL xs)) ∧ w = w' := by
  obtain ⟨hlen, hcell, hb⟩ := hr
  have hAB : AllB xs := fun x hx => by
    obtain ⟨i, hi, rfl⟩ := List.getElem_of_mem hx
    have := hb i
    simpa [List.getD, hi] using this
  have HC := hide hcell
  have HL := hide hlen
  have HB := hide hb
  have hd := hide (fun k (hk : k < n) => numL_take_succ xs k (by omega))
  have hbd := hide (fun k => numL_bd k _ hAB)
  obtain ⟨N, hN⟩ : ∃ N : Nat → Int, ∀ k, N k = numL (xs.take k) := ⟨_, fun _ => rfl⟩
  have HN := hide hN
  clear hcell hb hAB hN hlen
  have h4' : (n : Int) ≤ 4 := by omega
  go_enter Try.func26, Try.ntmps26
  go_wp2_with fail
  go_loop [3, 4] (fun m i => ∃ k : Nat, i = .int .i64 (k : Int) ∧ k ≤ n ∧ m = .int .i64 (N k)) (fun _ i => n - (intOf i).toNat)
  case atStart => exact ⟨0, rfl, by omega, by rw [HN.out]; rfl⟩
  case round =>
    obtain ⟨k, rfl, hk, rfl⟩ := hrel
    by_cases hlt : k < n
    · have hlt' : (k : Int) < (n : Int) := by omega
      obtain ⟨b, off, rfl, _, hcell⟩ := HC.out (by omega)
      have c1 := hcell k hlt
      have c2 := HB.out k
      have c3 := hbd.out k
      rw [← HN.out] at c3
      have hp : (256 : Int) ^ k ≤ 16777216 := by
        have : k = 0 ∨ k = 1 ∨ k = 2 ∨ k = 3 := by omega
        rcases this with rfl | rfl | rfl | rfl <;> decide
      have HE := hide (show N (k + 1) = 256 * N k + xs.getD k 0 by rw [HN.out, HN.out, hd.out k hlt])
      obtain ⟨c, hc⟩ : ∃ c, c = xs.getD k 0 := ⟨_, rfl⟩
      rw [← hc] at c1 c2 HE
      have n0 : 0 ≤ N k := c3.1
      have n1 : N k < 16777216 := by omega
      have b0 : 0 ≤ c := c2.1
      have b1 : c ≤ 255 := c2.2
      clear hc c3 hp hcell c2
      go_wp2
      go_round
      case rel => exact ⟨k + 1, by go_num, by omega, by rw [HE.out]⟩
      case measure => simp [intOf]; omega
    · obtain rfl : k = n := by omega
      have hge : ¬ (k : Int) < (k : Int) := by omega
      go_wp2
      go_ret
      exact ⟨ret_num (by rw [HN.out, ← HL.out, List.take_length]), rfl⟩
end Go.Proofs.Ytojcjmjohibpaaa
