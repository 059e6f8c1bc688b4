/-
  Layer 2: the codes of all bytes, and Code.
-/
import Derived.Test.YtjnjganmdbkpoaaHfFirsts
namespace Go.Proofs.Ytjnjganmdbkpoaa
open Go.RowKit

/-- The codes' numbers. -/
def bitsL : List Nat := [
  8184, 8388568, 268435426, 268435427, 268435428, 268435429, 268435430, 268435431,
  268435432, 16777194, 1073741820, 268435433, 268435434, 1073741821, 268435435, 268435436,
  268435437, 268435438, 268435439, 268435440, 268435441, 268435442, 1073741822, 268435443,
  268435444, 268435445, 268435446, 268435447, 268435448, 268435449, 268435450, 268435451,
  20, 1016, 1017, 4090, 8185, 21, 248, 2042,
  1018, 1019, 249, 2043, 250, 22, 23, 24,
  0, 1, 2, 25, 26, 27, 28, 29,
  30, 31, 92, 251, 32764, 32, 4091, 1020,
  8186, 33, 93, 94, 95, 96, 97, 98,
  99, 100, 101, 102, 103, 104, 105, 106,
  107, 108, 109, 110, 111, 112, 113, 114,
  252, 115, 253, 8187, 524272, 8188, 16380, 34,
  32765, 3, 35, 4, 36, 5, 37, 38,
  39, 6, 116, 117, 40, 41, 42, 7,
  43, 118, 44, 8, 9, 45, 119, 120,
  121, 122, 123, 32766, 2044, 16381, 8189, 268435452,
  1048550, 4194258, 1048551, 1048552, 4194259, 4194260, 4194261, 8388569,
  4194262, 8388570, 8388571, 8388572, 8388573, 8388574, 16777195, 8388575,
  16777196, 16777197, 4194263, 8388576, 16777198, 8388577, 8388578, 8388579,
  8388580, 2097116, 4194264, 8388581, 4194265, 8388582, 8388583, 16777199,
  4194266, 2097117, 1048553, 4194267, 4194268, 8388584, 8388585, 2097118,
  8388586, 4194269, 4194270, 16777200, 2097119, 4194271, 8388587, 8388588,
  2097120, 2097121, 4194272, 2097122, 8388589, 4194273, 8388590, 8388591,
  1048554, 4194274, 4194275, 4194276, 8388592, 4194277, 4194278, 8388593,
  67108832, 67108833, 1048555, 524273, 4194279, 8388594, 4194280, 33554412,
  67108834, 67108835, 67108836, 134217694, 134217695, 67108837, 16777201, 33554413,
  524274, 2097123, 67108838, 134217696, 134217697, 67108839, 134217698, 16777202,
  2097124, 2097125, 67108840, 67108841, 268435453, 134217699, 134217700, 134217701,
  1048556, 16777203, 1048557, 2097126, 4194281, 2097127, 2097128, 8388595,
  4194282, 4194283, 33554414, 33554415, 16777204, 16777205, 67108842, 8388596,
  67108843, 134217702, 67108844, 67108845, 134217703, 134217704, 134217705, 134217706,
  134217707, 268435454, 134217708, 134217709, 134217710, 134217711, 134217712, 67108846]
theorem bitsL_len : bitsL.length = 256 := by decide +kernel

/-- What next holds behind k bytes. -/
def nxtL : Nat → List Nat
  | 0 => fstL 30
  | k + 1 => let c := nxtL k; let n := lensL.getD k 0; c.set n (c.getD n 0 + 1)
theorem nxtL_len (k : Nat) : (nxtL k).length = 31 := by
  induction k with
  | zero => exact fstL_len 30
  | succ k ih => simp [nxtL, ih]
theorem nxt_bits : ∀ k, k < 256 → (nxtL k).getD (lensL.getD k 0) 0 = bitsL.getD k 0 := by decide +kernel
theorem bits_lt : ∀ k, k < 256 → bitsL.getD k 0 < 2 ^ lensL.getD k 0 := by decide +kernel
theorem bits_bd (k : Nat) (h : k < 256) : bitsL.getD k 0 < 1073741824 := by
  have h1 := bits_lt k h
  have h2 := (lens_le k h).2
  exact Nat.lt_of_lt_of_le h1 (Nat.pow_le_pow_right (by omega) h2)

/-- What told holds behind k bytes. -/
def codesA (k : Nat) : Array Value := Array.ofFn (n := 512) fun i =>
  if i.val / 2 < k then (if i.val % 2 = 0 then .int .u32 (bitsL.getD (i.val / 2) 0 : Nat) else .int .i64 (lensL.getD (i.val / 2) 0 : Nat))
  else (if i.val % 2 = 0 then .int .u32 0 else .int .i64 0)
def codesV : Array Value := codesA 256
theorem codesA_size (k : Nat) : (codesA k).size = 512 := by simp [codesA]
theorem codesA_get (k i : Nat) (h : i < 512) : (codesA k)[i]? = some (if i / 2 < k then (if i % 2 = 0 then .int .u32 (bitsL.getD (i / 2) 0 : Nat) else .int .i64 (lensL.getD (i / 2) 0 : Nat))
  else (if i % 2 = 0 then .int .u32 0 else .int .i64 0)) := by
  simp [codesA, Array.getElem?_ofFn, h]
theorem codesA_step (k : Nat) : ((codesA k).setIfInBounds (k * 2) (.int .u32 (bitsL.getD k 0 : Nat))).setIfInBounds (k * 2 + 1) (.int .i64 (lensL.getD k 0 : Nat)) = codesA (k + 1) := by
  apply Array.ext_getElem?
  intro i
  simp only [Array.getElem?_setIfInBounds, Array.size_setIfInBounds, codesA_size]
  by_cases hi : i < 512
  · rw [codesA_get _ _ hi, codesA_get _ _ hi]
    by_cases h1 : k * 2 + 1 = i
    · subst h1
      rw [if_pos rfl, if_pos hi, if_pos (by omega), if_neg (by omega), show (k * 2 + 1) / 2 = k by omega]
    · rw [if_neg h1]
      by_cases h2 : k * 2 = i
      · subst h2
        rw [if_pos rfl, if_pos hi, if_pos (by omega), if_pos (by omega), show k * 2 / 2 = k by omega]
      · rw [if_neg h2]
        by_cases h3 : i / 2 < k
        · rw [if_pos h3, if_pos (show i / 2 < k + 1 by omega)]
        · rw [if_neg h3, if_neg (show ¬ i / 2 < k + 1 by omega)]
  · rw [Array.getElem?_eq_none (by rw [codesA_size]; omega), Array.getElem?_eq_none (by rw [codesA_size]; omega)]
    split <;> simp_all
theorem codesA_extract (c : Nat) (h : c < 256) : codesV.extract (c * 2) (c * 2 + 2) = #[.int .u32 (bitsL.getD c 0 : Nat), .int .i64 (lensL.getD c 0 : Nat)] := by
  have hs : codesV.size = 512 := codesA_size 256
  apply Array.ext_getElem?
  intro i
  rw [Array.getElem?_extract]
  match i with
  | 0 => rw [if_pos (by omega), Nat.add_zero, codesV, codesA_get _ _ (by omega), if_pos (by omega), if_pos (by omega), show c * 2 / 2 = c by omega]; rfl
  | 1 => rw [if_pos (by omega), codesV, codesA_get _ _ (by omega), if_pos (by omega), if_neg (by omega), show (c * 2 + 1) / 2 = c by omega]; rfl
  | i + 2 => rw [if_neg (by omega)]; rfl
theorem codesA_one (k : Nat) : (codesA k).all (·.oneCell') = true := by
  rw [Array.all_eq_true]
  intro i hi
  have := codesA_get k i (by rwa [codesA_size] at hi)
  rw [Array.getElem?_eq_getElem hi, Option.some.injEq] at this
  rw [this]
  split <;> split <;> rfl

theorem hf_zero_codes : (Try.prog.info? 46).bind (·.zero) = some (.agg (codesA 0)) := by kernel_rfl
theorem hf_size_codes : (Try.prog.info? 46).map (·.size) = some 512 := by kernel_rfl
theorem hf_size_code : (Try.prog.info? 45).map (·.size) = some 2 := by kernel_rfl

end Go.Proofs.Ytjnjganmdbkpoaa
