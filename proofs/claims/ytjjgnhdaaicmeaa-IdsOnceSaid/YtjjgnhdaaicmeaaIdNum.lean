/-
  Layer 15: contracts of the small functions: numbers, lists of numbers; slices.Clone, slices.Equal.
-/
import Derived.Test.YtjjgnhdaaicmeaaIdMath
import Derived.Test.YtjjgnhdaaicmeaaNumRow
import Derived.BigRegion
import Derived.BigQuiet
import Derived.Deep.QuietTactic
namespace Go.Proofs.Ytjjgnhdaaicmeaa
set_option linter.unusedSimpArgs false
set_option linter.unusedVariables false
open Go.RowKit

theorem id_isNumber (n : Int) (w : World) : Calls Try.prog 15 #[.int .i64 n] w fun e w' => e = .returned (.bool (oddB n)) ∧ w = w' := by
  by_cases h : 1 ≤ n
  · by_cases h2 : n ≤ 2147483647
    · obtain ⟨i, hi⟩ : ∃ i : Nat, n % 2 = i := ⟨(n % 2).toNat, by omega⟩
      by_cases h3 : i = 1
      · subst h3
        rw [oddB_yes.2 ⟨h, h2, hi⟩]
        go_enter Try.func15, Try.ntmps15
        go_wp2
        go_ret
        exact ⟨rfl, rfl⟩
      · obtain rfl : i = 0 := by omega
        rw [oddB_no.2 (.inr (.inr (by omega)))]
        clear h3
        go_enter Try.func15, Try.ntmps15
        go_wp2
        go_ret
        exact ⟨rfl, rfl⟩
    · rw [oddB_no.2 (.inr (.inl (by omega)))]
      go_enter Try.func15, Try.ntmps15
      go_wp2
      go_ret
      exact ⟨rfl, rfl⟩
  · rw [oddB_no.2 (.inl (by omega))]
    go_enter Try.func15, Try.ntmps15
    go_wp2
    go_ret
    exact ⟨rfl, rfl⟩
theorem rd_odd (n : Int) (w : World) : Calls Try.prog 18 #[.int .i64 n] w fun e w' => e = .returned (.bool (oddB n)) ∧ w = w' := by
  by_cases h : 1 ≤ n
  · by_cases h2 : n ≤ 2147483647
    · obtain ⟨i, hi⟩ : ∃ i : Nat, n % 2 = i := ⟨(n % 2).toNat, by omega⟩
      by_cases h3 : i = 1
      · subst h3
        rw [oddB_yes.2 ⟨h, h2, hi⟩]
        go_enter Try.func18, Try.ntmps18
        go_wp2
        go_ret
        exact ⟨rfl, rfl⟩
      · obtain rfl : i = 0 := by omega
        rw [oddB_no.2 (.inr (.inr (by omega)))]
        clear h3
        go_enter Try.func18, Try.ntmps18
        go_wp2
        go_ret
        exact ⟨rfl, rfl⟩
    · rw [oddB_no.2 (.inr (.inl (by omega)))]
      go_enter Try.func18, Try.ntmps18
      go_wp2
      go_ret
      exact ⟨rfl, rfl⟩
  · rw [oddB_no.2 (.inl (by omega))]
    go_enter Try.func18, Try.ntmps18
    go_wp2
    go_ret
    exact ⟨rfl, rfl⟩

set_option maxRecDepth 100000 in
set_option maxHeartbeats 1600000 in
theorem id_rises (A : Option Addr) (n c : Nat) (l : List Int) (w : World) (hl : NL .i64 w A n c l) (hn : (n : Int) ≤ 1000000) :
    Calls Try.prog 20 #[.slice A n c] w fun e w' => e = .returned (.bool (riseB l)) ∧ w = w' := by
  have HL := hide hl
  have HNO := hide (fun k x y (hx : l[k]? = some x) (hy : l[k + 1]? = some y) (h : y ≤ x) => rise_no hx hy h)
  have HYE := hide (fun h => rise_yes (l := l) h)
  generalize riseB l = ob at *
  clear hl
  go_enter Try.func20, Try.ntmps20
  go_wp2_with fail
  go_loop [7] (fun k => ∃ i : Nat, i ≤ n ∧ k = .int .i64 (i : Int) ∧ Hid (∀ m x y, m + 1 < i → l[m]? = some x → l[m + 1]? = some y → x < y)) (fun k => n - (intOf k).toNat)
  case atStart => exact ⟨0, by omega, rfl, fun m x y hm => by omega⟩
  case round =>
    obtain ⟨i, hi, rfl, HO⟩ := hrel
    by_cases hlt : i < n
    · have hlt' : (i : Int) < (n : Int) := by omega
      rcases i with _ | i
      · obtain ⟨x, b, off, hx, rfl, hbl, c0, -⟩ := HL.out.round hlt
        rw [Nat.add_zero] at c0
        clear hx
        go_wp2
        go_round
        case rel => exact ⟨1, by omega, by go_num, fun m x y hm => by omega⟩
        case measure => simp [intOf]; omega
      · obtain ⟨y, b, off, hy, rfl, hbl, c1, -⟩ := HL.out.round hlt
        obtain ⟨x, b', off', hx, e, -, c0, -⟩ := HL.out.round (show i < n by omega)
        injection e with e
        injection e with e1 e2
        subst e1 e2
        have HX := hide hx
        have HY := hide hy
        clear hx hy
        have hpos : (0 : Int) < ((i + 1 : Nat) : Int) := by omega
        have hsub : ((i + 1 : Nat) : Int) - 1 = (i : Int) := by omega
        obtain ⟨z, hz⟩ : ∃ z : Int, z = ((i + 1 : Nat) : Int) := ⟨_, rfl⟩
        have hz1 : z - 1 = (i : Int) := by omega
        have hzn : z < (n : Int) := by omega
        have hz0 : 0 < z := by omega
        have hzt : z.toNat = i + 1 := by omega
        rw [← hz]
        clear hlt' hpos hsub hlt
        clear hz
        by_cases hyx : y ≤ x
        · have HE := hide (HNO.out i x y HX.out HY.out hyx)
          go_wp2
          go_ret
          exact ⟨by rw [HE.out]; rfl, rfl⟩
        · go_wp2
          go_round
          case rel => exact ⟨i + 1 + 1, by omega, by go_num, fun m a d hm ha hd => by
            by_cases e : m = i
            · subst e
              rw [HX.out] at ha; rw [HY.out] at hd
              injection ha with ha; injection hd with hd
              omega
            · exact HO.out m a d (by omega) ha hd⟩
          case measure => simp [intOf]; omega
    · have hge : ¬ (i : Int) < (n : Int) := by omega
      obtain rfl : i = n := by omega
      have HE := hide (HYE.out (fun k x y hx hy => HO.out k x y (by have := (List.getElem?_eq_some_iff.1 hy).1; rw [HL.out.len] at this; omega) hx hy))
      go_wp2
      go_ret
      exact ⟨by rw [HE.out]; rfl, rfl⟩
end Go.Proofs.Ytjjgnhdaaicmeaa
