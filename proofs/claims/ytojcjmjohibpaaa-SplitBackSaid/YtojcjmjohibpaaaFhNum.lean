/-
  Layer 8: numbers of bytes: number (the program's), Number, Wide, Has (the document's).
-/
import Derived.Test.YtojcjmjohibpaaaFhCheck
namespace Go.Proofs.Ytojcjmjohibpaaa
set_option linter.unusedSimpArgs false
set_option linter.unusedVariables false
open Go.RowKit

theorem take_drop_take (l : List Int) (a b : Nat) : ((l.drop a).take b).length = min b (l.length - a) := by simp
set_option maxHeartbeats 800000 in
theorem fh_number (xs : List Int) (hx : xs.length = 9) (hb : AllB xs) (a m b : Nat) (hab : b = a + m) (h9 : b ≤ 9) (ha : a < 9) (h4 : m ≤ 4) (w : World) :
    Calls Try.prog 28 #[.agg (u8s xs).toArray, .int .i64 a, .int .i64 b] w fun e w' => e = .returned (.int .i64 (numL ((xs.drop a).take m))) ∧ Below w.heap.size w w' := by
  have HC := hide (fun i (hi : i < 9) => cell_of_u8s w 72 xs i (by omega))
  have hd := hide (fun k (hk : k < m) => numL_take_succ (xs.drop a) k (by simp; omega))
  have hbd := hide (fun k => numL_bd k _ (hb.drop a))
  have hgd := hide (fun k => (hb.getD k))
  have i0 : (0 : Int) ≤ (a : Int) := by omega
  have i1 : (a : Int) ≤ (b : Int) := by omega
  have i2 : (b : Int) ≤ 9 := by omega
  have i3 : ¬ 9 = a := by omega
  have i4 : a + m ≤ 9 := by omega
  obtain ⟨N, hN⟩ : ∃ N : Nat → Int, ∀ k, N k = numL ((xs.drop a).take k) := ⟨_, fun _ => rfl⟩
  have HN := hide hN
  have HM := hide (show b - a = m by omega)
  have HG := hide (hN m)
  clear hb hx hab hN
  go_enter Try.func28, Try.ntmps28
  go_wp2_with fail
  rw [HM.out]
  go_loop [7, 14] (fun n i => ∃ k : Nat, i = .int .i64 (k : Int) ∧ k ≤ m ∧ n = .int .i64 (N k)) (fun _ i => m - (intOf i).toNat)
  case atStart => exact ⟨0, rfl, by omega, by rw [HN.out]; rfl⟩
  case round =>
    obtain ⟨k, rfl, hk, rfl⟩ := hrel
    by_cases hlt : k < m
    · have hlt' : (k : Int) < (m : Int) := by omega
      have c1 := HC.out (a + k) (by omega)
      have c2 := hgd.out (a + k)
      have c3 := hbd.out k
      rw [← HN.out] at c3
      have hp : (256 : Int) ^ k ≤ 16777216 := by
        have : k = 0 ∨ k = 1 ∨ k = 2 ∨ k = 3 := by omega
        rcases this with rfl | rfl | rfl | rfl <;> decide
      have HE := hide (show N (k + 1) = 256 * N k + xs.getD (a + k) 0 by rw [HN.out, HN.out, hd.out k hlt]; simp [List.getD])
      obtain ⟨c, hc⟩ : ∃ c, c = xs.getD (a + k) 0 := ⟨_, rfl⟩
      rw [← hc] at c1 c2 HE
      have hor := or_byte (N k) c c3.1 (by omega) c2.1 c2.2
      have n0 : 0 ≤ N k := c3.1
      have n1 : N k < 16777216 := by omega
      clear hc c3 hp
      go_wp2
      go_round
      case rel => exact ⟨k + 1, by go_num, by omega, by rw [HE.out]⟩
      case measure => simp [intOf]; omega
    · obtain rfl : k = m := by omega
      go_wp2
      go_ret
      exact ⟨ret_num (by rw [HN.out]), (Below.refl _ _).alloc (Nat.le_refl _) _⟩
end Go.Proofs.Ytojcjmjohibpaaa
