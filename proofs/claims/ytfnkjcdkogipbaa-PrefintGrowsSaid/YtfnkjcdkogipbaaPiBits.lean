/-
  Layer 1's operations on bits, as plain arithmetic.
-/
import Derived.Test.YtfnkjcdkogipbaaKit
namespace Go.Proofs.Ytfnkjcdkogipbaa

theorem bits_andNot_fin : ∀ c : Fin 256, ∀ k : Fin 9, bits .andNot .u8 (c.val : Int) (2 ^ k.val - 1) = ((c.val / 2 ^ k.val * 2 ^ k.val : Nat) : Int) := by decide +kernel
theorem bits_and_fin : ∀ c : Fin 256, ∀ k : Fin 9, bits .and .i64 (c.val : Int) (2 ^ k.val - 1) = ((c.val % 2 ^ k.val : Nat) : Int) := by decide +kernel
theorem bits_or128_fin : ∀ y : Fin 256, bits .or .u8 128 (y.val : Int) = ((128 + y.val % 128 : Nat) : Int) := by decide +kernel
theorem bits_andNot128_fin : ∀ y : Fin 256, bits .andNot .u8 (y.val : Int) 128 = ((y.val % 128 : Nat) : Int) := by decide +kernel
theorem bits_and128_fin : ∀ y : Fin 256, bits .and .u8 (y.val : Int) 128 = if y.val < 128 then 0 else 128 := by decide +kernel

/-- The other bits of a first byte. -/
def restN (c : Int) (k : Nat) : Int := c / 2 ^ k * 2 ^ k

theorem bits_andNot (c : Int) (h0 : 0 ≤ c) (h1 : c ≤ 255) (k : Nat) (h2 : k ≤ 8) : bits .andNot .u8 c (2 ^ k - 1) = restN c k := by
  have := bits_andNot_fin ⟨c.toNat, by omega⟩ ⟨k, by omega⟩
  simp only [Int.toNat_of_nonneg h0] at this
  rw [this]; unfold restN
  simp [Int.toNat_of_nonneg h0]
theorem bits_and (c : Int) (h0 : 0 ≤ c) (h1 : c ≤ 255) (k : Nat) (h2 : k ≤ 8) : bits .and .i64 c (2 ^ k - 1) = c % 2 ^ k := by
  have := bits_and_fin ⟨c.toNat, by omega⟩ ⟨k, by omega⟩
  simp only [Int.toNat_of_nonneg h0] at this
  rw [this]
  simp [Int.toNat_of_nonneg h0]
theorem bits_or128 (c : Int) (h0 : 0 ≤ c) (h1 : c ≤ 255) : bits .or .u8 128 c = 128 + c % 128 := by
  have := bits_or128_fin ⟨c.toNat, by omega⟩
  simp only [Int.toNat_of_nonneg h0] at this
  rw [this]
  simp [Int.toNat_of_nonneg h0]
theorem bits_andNot128 (c : Int) (h0 : 0 ≤ c) (h1 : c ≤ 255) : bits .andNot .u8 c 128 = c % 128 := by
  have := bits_andNot128_fin ⟨c.toNat, by omega⟩
  simp only [Int.toNat_of_nonneg h0] at this
  rw [this]
  simp [Int.toNat_of_nonneg h0]
theorem bits_and128 (c : Int) (h0 : 0 ≤ c) (h1 : c ≤ 255) : bits .and .u8 c 128 = if c < 128 then 0 else 128 := by
  have := bits_and128_fin ⟨c.toNat, by omega⟩
  simp only [Int.toNat_of_nonneg h0] at this
  rw [this]
  by_cases h : c < 128
  · rw [if_pos h, if_pos (by omega)]
  · rw [if_neg h, if_neg (by omega)]

theorem restN_bd (c : Int) (h0 : 0 ≤ c) (h1 : c ≤ 255) (k : Nat) (h2 : k ≤ 8) : 0 ≤ restN c k ∧ restN c k ≤ c ∧ restN c k % 2 ^ k = 0 ∧ restN c k + 2 ^ k ≤ 256 := by
  have key : ∀ c : Fin 256, ∀ k : Fin 9, 0 ≤ restN (c.val : Int) k.val ∧ restN (c.val : Int) k.val ≤ c.val ∧ restN (c.val : Int) k.val % 2 ^ k.val = 0 ∧ restN (c.val : Int) k.val + 2 ^ k.val ≤ 256 := by decide +kernel
  have := key ⟨c.toNat, by omega⟩ ⟨k, by omega⟩
  simpa only [Int.toNat_of_nonneg h0] using this

theorem bits_or_rest (c : Int) (h0 : 0 ≤ c) (h1 : c ≤ 255) (k : Nat) (h2 : k ≤ 8) (n : Int) (h3 : 0 ≤ n) (h4 : n < 2 ^ k) : bits .or .u8 (restN c k) n = restN c k + n := by
  obtain ⟨r1, r2, r3, r4⟩ := restN_bd c h0 h1 k h2
  exact bits_join .u8 8 (by decide) (fun n a b => IntWalk.u8_in n ⟨a, by omega⟩) k _ n r1 r3 (by omega) h3 h4 (by omega)
end Go.Proofs.Ytfnkjcdkogipbaa
