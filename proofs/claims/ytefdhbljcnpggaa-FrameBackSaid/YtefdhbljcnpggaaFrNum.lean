/-
  Layer 9: the number of four bytes; a text's copy.
-/
import Derived.Test.YtefdhbljcnpggaaFrStr
import Derived.Test.YtefdhbljcnpggaaFhMath
import Derived.BigQuiet
import Derived.WalkSpells
import Derived.Laws.BitsAllLaws
import Derived.Laws.Strings3
import Derived.Lib.Strings
import Derived.Lib.BufferWrite
import Derived.Lib.UnsafeStr
import Derived.Laws.MakeOwn
import Derived.Test.YtefdhbljcnpggaaFhPut
namespace Go.Proofs.Ytefdhbljcnpggaa
open Go.RowKit
theorem or32 (x c m : Int) (j : Nat) (hm : m = 2 ^ j) (h0 : 0 ≤ x) (h1 : x % m = 0) (h2 : x < 4294967296) (c0 : 0 ≤ c) (c1 : c < m) (hj : m ≤ 4294967296) : bits .or .u32 x c = x + c := by
  subst hm
  exact bits_join .u32 32 (by decide) (fun n a b => IntWalk.u32_in n ⟨by omega, by omega⟩) j x c h0 h1 (by omega) c0 c1 (by omega)
theorem or4 (a b c d : Int) (a0 : 0 ≤ a) (a1 : a ≤ 255) (b0 : 0 ≤ b) (b1 : b ≤ 255) (c0 : 0 ≤ c) (c1 : c ≤ 255) (d0 : 0 ≤ d) (d1 : d ≤ 255) :
    bits .or .u32 (bits .or .u32 (bits .or .u32 (a % 4294967296 * 16777216 % 4294967296) (b % 4294967296 * 65536 % 4294967296)) (c % 4294967296 * 256 % 4294967296)) (d % 4294967296) = 16777216 * a + 65536 * b + 256 * c + d := by
  rw [show a % 4294967296 * 16777216 % 4294967296 = 16777216 * a by omega, show b % 4294967296 * 65536 % 4294967296 = 65536 * b by omega, show c % 4294967296 * 256 % 4294967296 = 256 * c by omega, show d % 4294967296 = d by omega,
    or32 (16777216 * a) (65536 * b) 16777216 24 (by decide) (by omega) (by omega) (by omega) (by omega) (by omega) (by omega),
    or32 _ (256 * c) 65536 16 (by decide) (by omega) (by omega) (by omega) (by omega) (by omega) (by omega),
    or32 _ d 256 8 (by decide) (by omega) (by omega) (by omega) (by omega) (by omega) (by omega)]
theorem num4_of (s : ByteArray) (h0 : 0 < s.size) (h1 : 1 < s.size) (h2 : 2 < s.size) (h3 : 3 < s.size) : numL ((bts s).take 4) = 16777216 * (s[0].toNat : Int) + 65536 * (s[1].toNat : Int) + 256 * (s[2].toNat : Int) + (s[3].toNat : Int) := by
  have hl := bts_len s
  rw [numL_take_succ _ 3 (by omega), numL_take_succ _ 2 (by omega), numL_take_succ _ 1 (by omega), numL_take_succ _ 0 (by omega), bts_get s 0 h0, bts_get s 1 h1, bts_get s 2 h2, bts_get s 3 h3]
  simp only [List.take_zero, numL_nil]
  omega
theorem byte_bd (c : UInt8) : 0 ≤ (c.toNat : Int) ∧ (c.toNat : Int) ≤ 255 := by
  have := c.toNat_lt
  omega
theorem low31 (n : Int) (h0 : 0 ≤ n) (h1 : n ≤ 4294967295) : bits .andNot .u32 n 2147483648 = n % 2147483648 := by
  rw [u32_andNot n 2147483648 h0 (by omega) (by omega) (by omega)]
  have h := Nat.and_two_pow_sub_one_eq_mod n.toNat 31
  have e : (4294967295 - (2147483648 : Int).toNat) = 2 ^ 31 - 1 := by decide
  rw [e, h]
  omega
theorem and_top (n : Nat) (h : n < 4294967296) : n &&& 2147483648 = if 2147483648 ≤ n then 2147483648 else 0 := by
  have e : (2147483648 : Nat) = 2 ^ 31 := by decide
  have hb : n.testBit 31 = decide (2147483648 ≤ n) := by
    rw [Nat.testBit_eq_decide_div_mod_eq]
    by_cases hc : 2147483648 ≤ n
    · have : n / 2 ^ 31 % 2 = 1 := by omega
      simp [this, hc]
    · have : n / 2 ^ 31 % 2 = 0 := by omega
      simp [this, hc]
  apply Nat.eq_of_testBit_eq
  intro i
  rw [Nat.testBit_and]
  by_cases hi : 31 = i
  · subst hi
    rw [hb]
    by_cases hc : 2147483648 ≤ n
    · rw [if_pos hc]; simp [hc]
    · rw [if_neg hc]; simp [hc]
  · have h2 : (2147483648 : Nat).testBit i = false := by
      rw [e, Nat.testBit_two_pow]
      simp [hi]
    rw [h2, Bool.and_false]
    split
    · exact h2.symm
    · simp
theorem top31 (n : Int) (h0 : 0 ≤ n) (h1 : n ≤ 4294967295) : (bits .and .u32 n 2147483648 != 0) = decide (2147483648 ≤ n) := by
  have e1 : bits .and .u32 n 2147483648 = ((n.toNat &&& 2147483648 : Nat) : Int) := by
    have := u32_and_nat n.toNat 2147483648 (by omega) (by omega)
    rwa [show ((n.toNat : Nat) : Int) = n by omega] at this
  rw [e1, and_top _ (by omega)]
  by_cases hc : 2147483648 ≤ n
  · rw [if_pos (by omega)]
    simp [hc]
  · rw [if_neg (by omega)]
    simp [hc]

set_option maxHeartbeats 800000 in
theorem fr_number (s : ByteArray) (h4 : 4 ≤ s.size) (w : World) :
    Calls Try.prog 50 #[.string s] w fun e w' => e = .returned (.int .u32 (numL ((bts s).take 4))) ∧ Below w.heap.size w w' := by
  have h0 : 0 < s.size := by omega
  have h1 : 1 < s.size := by omega
  have h2 : 2 < s.size := by omega
  have h3 : 3 < s.size := by omega
  have i1 : (1 : Int) < (s.size : Int) := by omega
  have i2 : (2 : Int) < (s.size : Int) := by omega
  have i3 : (3 : Int) < (s.size : Int) := by omega
  go_enter Try.func50, Try.ntmps50
  go_wp2
  go_quiet (fail)
  go_wp2
  go_ret
  refine ⟨?_, below_drewN (Below.refl _ _) _⟩
  rw [num4_of s h0 h1 h2 h3]
  refine ret_num (or4 _ _ _ _ (byte_bd _).1 (byte_bd _).2 (byte_bd _).1 (byte_bd _).2 (byte_bd _).1 (byte_bd _).2 (byte_bd _).1 (byte_bd _).2)

set_option maxRecDepth 100000 in
set_option maxHeartbeats 1600000 in
theorem fr_slclone (s : ByteArray) (h : s.size ≤ 1000000) (w : World) :
    Calls Try.prog 61 #[.string s] w fun e w' => e = .returned (.string s) ∧ Below w.heap.size w w' := by
  by_cases h0 : s.size = 0
  · obtain rfl := ba_empty h0
    clear h h0
    go_enter Try.func61, Try.ntmps61
    go_wp2
    go_ret
    exact ⟨rfl, Below.refl _ _⟩
  · obtain ⟨i0, hi0, hz0, hz1, hz2⟩ := info_parts u8_info
    have hinfo : (Try.prog.info? 5).map (·.size) = some 1 := by rw [hi0]; simp [hz1]
    have hco : Try.prog.cellsOf 5 = 1 := by kernel_rfl
    obtain ⟨M, hM⟩ : ∃ M, M = madeCells (Value.int .u8 0).cells (((s.size : Nat) : Int).toNat * i0.size) := ⟨_, rfl⟩
    have hMs : M.size = s.size := by rw [hM, size_madeCells, hz1]; simp
    have hmk := run_make (P := Try.prog) w 44 5 i0 (.int .u8 0) Try.underlying44 hi0 hz0 .i64 .i64 (s.size : Int) (s.size : Int) (by omega) (by omega) (by rw [hz2]; omega) (by omega)
    rw [← hM] at hmk
    have hcp := Lib.run_copy_row_string (P := Try.prog) (w.alloc (.cells M 5)) 44 9 3 5 w.heap.size 0 s.size s.size s M 5 Try.underlying44 hinfo (heap_alloc_new w _) (Nat.le_refl _) (by omega)
    obtain ⟨Y, hY⟩ : ∃ Y, Y = (M.toList.take 0 ++ Lib.byteCells s.data.toList ++ M.toList.drop (0 + s.size)).toArray := ⟨_, rfl⟩
    rw [← hY] at hcp
    have hYl : Y.toList = Lib.byteCells s.data.toList := by
      rw [hY]
      simp only [List.take_zero, List.nil_append]
      rw [List.drop_of_length_le (by simp; omega), List.append_nil]
    have hYs : Y.size = s.size := by
      have := congrArg List.length hYl
      simpa [Lib.byteCells] using this
    have hgY : ((w.alloc (.cells M 5)).setRow w.heap.size Y).heap[w.heap.size]? = some (.cells Y 5 (0, 0)) := setRow_heap _ _ M _ _ (0, 0) (heap_alloc_new w _)
    have hls : s.data.toList.length = s.size := by simp
    have hne : s.data.toList ≠ [] := fun e => h0 (by rw [← hls, e]; rfl)
    have hUS := Lib.run_unsafeString_row (P := Try.prog) ((w.alloc (.cells M 5)).setRow w.heap.size Y) 103 3 9 5 Try.underlying103 hco w.heap.size Y.size (by unfold World.shape?; rw [hgY]) s.data.toList hne (by omega) (by omega)
      (fun j x hx => Lib.cells_of_row hgY Y.size j _ (by rw [List.take_of_length_le (by simp), hYl]; simp [Lib.byteCells, hx]))
    rw [hls] at hUS
    have HB := hide (Lib.below_freeze (below_setRow ((Below.refl w.heap.size w).alloc (Nat.le_refl _) (.cells M 5)) (Nat.le_refl _) Y) (p := ⟨w.heap.size, 0, none⟩) (Nat.le_refl _) s.size)
    have hp : 0 < s.size := by omega
    clear hY hM hMs hYl hYs hgY hne hls h h0
    go_enter Try.func61, Try.ntmps61
    go_wp2
    go_ret
    exact ⟨rfl, HB.out⟩

theorem fr_clone (s : ByteArray) (h : s.size ≤ 1000000) (w : World) :
    Calls Try.prog 52 #[.string s] w fun e w' => e = .returned (.string s) ∧ Below w.heap.size w w' := by
  have HC := hide (fr_slclone s h)
  clear h
  go_enter Try.func52, Try.ntmps52
  go_wp2_with fail
  refine (HC.out _).mono ?_
  rintro e w1 ⟨rfl, hb1⟩
  go_wp2
  go_ret
  exact ⟨rfl, hb1⟩
end Go.Proofs.Ytefdhbljcnpggaa
