/-
  Layer 9: how many bytes the fields have that are as long in every frame (fixed); whether a payload may have its length (rightSize).
-/
import Derived.Test.YtighhdgaaelcdaaFrShape
namespace Go.Proofs.Ytighhdgaaelcdaa
set_option linter.unusedSimpArgs false
set_option linter.unusedVariables false
open Go.RowKit

def fixK (b0 b1 b2 : Bool) (k : Nat) : Int := (if 0 < k then b4 b0 else 0) + (if 1 < k then b4 b1 else 0) + (if 2 < k then b4 b2 else 0)
theorem b4_bd (b : Bool) : 0 ≤ b4 b ∧ b4 b ≤ 4 := by cases b <;> simp [b4]
theorem fixK_bd (a b c : Bool) (k : Nat) : 0 ≤ fixK a b c k ∧ fixK a b c k ≤ 12 := by
  have ha := b4_bd a
  have hb := b4_bd b
  have hc := b4_bd c
  unfold fixK
  split <;> split <;> split <;> omega

set_option maxHeartbeats 1600000 in
theorem fr_fixed (p d l c i r x : Bool) (w : World) :
    Calls Try.prog 32 #[.agg #[.bool p, .bool d, .bool l, .bool c, .bool i, .bool r, .bool x]] w fun e w' => e = .returned (.int .i64 (fixN d l c i)) ∧ Below w.heap.size w w' := by
  obtain ⟨D, hD⟩ : ∃ D : Int, D = if d then 5 else 0 := ⟨_, rfl⟩
  have hD0 : 0 ≤ D := by rw [hD]; split <;> omega
  have hD1 : D ≤ 5 := by rw [hD]; split <;> omega
  have HD := hide hD
  clear hD
  cases d
  all_goals
    go_enter Try.func32, Try.ntmps32
    go_wp2_with fail
    go_loop [3, 18] (fun n j => ∃ (k : Nat) (N : Int), j = .int .i64 (k : Int) ∧ k ≤ 3 ∧ n = .int .i64 N ∧ N = D + fixK l c i k) (fun _ j => 3 - (intOf j).toNat)
    case atStart => exact ⟨0, D, rfl, by omega, by rw [HD.out]; rfl, by simp [fixK]⟩
    case round =>
      obtain ⟨k, N, rfl, hk, rfl, hN⟩ := hrel
      have hb := fixK_bd l c i k
      have n0 : 0 ≤ N := by omega
      have n1 : N ≤ 17 := by omega
      have HN := hide hN
      clear hN hb
      have h3 : k = 0 ∨ k = 1 ∨ k = 2 ∨ k = 3 := by omega
      clear hk
      rcases h3 with rfl | rfl | rfl | rfl
      · cases l
        · go_wp2
          go_round
          case rel => exact ⟨1, N, rfl, by omega, rfl, by rw [HN.out]; simp [fixK, b4]⟩
          case measure => simp [intOf]
        · go_wp2
          go_round
          case rel => exact ⟨1, N + 4, rfl, by omega, rfl, by rw [HN.out]; simp [fixK, b4]⟩
          case measure => simp [intOf]
      · cases c
        · go_wp2
          go_round
          case rel => exact ⟨2, N, rfl, by omega, rfl, by rw [HN.out]; simp [fixK, b4]⟩
          case measure => simp [intOf]
        · go_wp2
          go_round
          case rel => exact ⟨2, N + 4, rfl, by omega, rfl, by rw [HN.out]; simp [fixK, b4]; omega⟩
          case measure => simp [intOf]
      · cases i
        · go_wp2
          go_round
          case rel => exact ⟨3, N, rfl, by omega, rfl, by rw [HN.out]; simp [fixK, b4]⟩
          case measure => simp [intOf]
        · go_wp2
          go_round
          case rel => exact ⟨3, N + 4, rfl, by omega, rfl, by rw [HN.out]; simp [fixK, b4]; omega⟩
          case measure => simp [intOf]
      · go_wp2
        go_ret
        exact ⟨ret_num (by rw [HN.out, HD.out]; simp [fixK, fixN]; try omega), below_two⟩

theorem fixN_bd (d l c i : Bool) : 0 ≤ fixN d l c i ∧ fixN d l c i ≤ 17 := by
  have ha := b4_bd l
  have hb := b4_bd c
  have hc := b4_bd i
  unfold fixN
  split <;> omega
end Go.Proofs.Ytighhdgaaelcdaa
