/-
  Layer 18: Body, the program's and the document's; bytes.Equal; Whole.
-/
import Derived.Test.YtdnopjopdklelaaDoorRnMath
import Derived.Test.YtdnopjopdklelaaDoorBytes2
import Derived.Test.YtdnopjopdklelaaDoorOwnRow
import Derived.Test.YtdnopjopdklelaaDoorStrSame
import Derived.Test.YtdnopjopdklelaaDoorRegW
import Derived.Deep.CutRange
import Derived.IntWalk
namespace Go.Proofs.YtdnopjopdklelaaDoor
set_option linter.unusedSimpArgs false
set_option linter.unusedVariables false
open Go.RowKit

/-- What a call answers that makes a row of bytes. -/
def GivesB (w : World) (l : List Int) (e : Ending) (w' : World) : Prop := ∃ v, e = .returned v ∧ w'.ownsRow w.heap.size 5 1 v l.length (u8s l) ∧ Below w.heap.size w w'
def zrs (n : Nat) : List Int := List.replicate n 0
theorem made_zrs (n : Nat) : madeCells (Value.int .u8 0).cells n = (u8s (zrs n)).toArray := by
  apply Array.ext
  · simp [madeCells, u8s, zrs]
  · intro i h1 h2
    have e : u8s (zrs n) = List.replicate n (.int .u8 0) := by simp [u8s, zrs]
    simp only [madeCells, Value.cells, Array.getElem_map, Array.getElem_range, List.getElem_toArray, e, List.getElem_replicate]
    rw [show i % (#[Value.int .u8 0] : Array Value).size = 0 by simp; omega]
    rfl
theorem body_cell (f : Int) (n i : Nat) (h : i < n) : (u8s (bodyN f i ++ zrs (n - i))).toArray[i]? = some (.int .u8 0) := by
  have h1 : (bodyN f i).length = i := bodyN_len f i
  have h2 : (u8s (bodyN f i)).length = i := by simp [u8s, h1]
  have e : u8s (bodyN f i ++ zrs (n - i)) = u8s (bodyN f i) ++ List.replicate (n - i) (.int .u8 0) := by simp [u8s, zrs]
  rw [e, List.getElem?_toArray, List.getElem?_append_right (by omega), h2, Nat.sub_self, List.getElem?_replicate, if_pos (by omega)]
theorem body_put (f : Int) (n i : Nat) (h : i < n) : (u8s (bodyN f i ++ zrs (n - i))).toArray.setIfInBounds i (.int .u8 (lttI f i)) = (u8s (bodyN f (i + 1) ++ zrs (n - (i + 1)))).toArray := by
  obtain ⟨m, hm⟩ : ∃ m, n - i = m + 1 := ⟨n - i - 1, by omega⟩
  have hm2 : n - (i + 1) = m := by omega
  rw [hm, hm2, bodyN_succ]
  have h1 : (u8s (bodyN f i)).length = i := by simp [u8s, bodyN_len]
  have e : u8s (bodyN f i ++ zrs (m + 1)) = u8s (bodyN f i) ++ (.int .u8 0 :: u8s (zrs m)) := by simp [u8s, zrs, List.replicate_succ]
  have e2 : u8s (bodyN f i ++ [lttI f i] ++ zrs m) = u8s (bodyN f i) ++ (.int .u8 (lttI f i) :: u8s (zrs m)) := by simp [u8s]
  rw [e, e2, List.setIfInBounds_toArray, List.set_append_right _ _ (by omega), h1, Nat.sub_self, List.set_cons_zero]
theorem own_row {w : World} {h : Nat} (B : Nat) (xs : List Int) (n : Nat) (hn : xs.length = n) (h1 : n ≤ 100000) (hk : BlkIs w h 5 (u8s xs).toArray) (hB : B ≤ h) : w.ownsRow B 5 1 (.slice (some ⟨h, 0, none⟩) n n) n (u8s xs) :=
  ⟨by simp [u8s, hn], .inr ⟨h, n, _, rfl, hB, hk, Nat.le_refl _, by unfold maxLen; omega, by simp [u8s, hn], by rw [List.take_of_length_le (by simp [u8s, hn])]⟩⟩

set_option maxRecDepth 100000 in
set_option maxHeartbeats 1600000 in
theorem rn_Body (f n : Int) (w : World) :
    Calls Tryd.prog 17 #[.int .i64 f, .int .i64 n] w (GivesB w (bodyL f n)) := by
  rcases Int.lt_or_le f 0 with h1 | h1
  · have HE := hide (bodyL_no (f := f) (n := n) (by omega))
    go_enter Tryd.func17, Tryd.ntmps17
    go_wp2
    all_goals first | (exfalso; omega) | (go_ret; exact ⟨_, rfl, by rw [HE.out]; exact World.ownsRow_nil _ _ _ _, Below.refl _ _⟩)
  rcases Int.lt_or_le n 1 with h2 | h2
  · have HE := hide (bodyL_no (f := f) (n := n) (by omega))
    go_enter Tryd.func17, Tryd.ntmps17
    go_wp2
    all_goals first | (exfalso; omega) | (go_ret; exact ⟨_, rfl, by rw [HE.out]; exact World.ownsRow_nil _ _ _ _, Below.refl _ _⟩)
  rcases Int.lt_or_le 65536 n with h3 | h3
  · have HE := hide (bodyL_no (f := f) (n := n) (by omega))
    go_enter Tryd.func17, Tryd.ntmps17
    go_wp2
    all_goals first | (exfalso; omega) | (go_ret; exact ⟨_, rfl, by rw [HE.out]; exact World.ownsRow_nil _ _ _ _, Below.refl _ _⟩)
  obtain ⟨N, rfl⟩ : ∃ N : Nat, n = N := ⟨n.toNat, by omega⟩
  have HE := hide (show bodyL f (N : Int) = bodyN f N from bodyL_nat h1 (by omega))
  obtain ⟨i0, hi0, hz0, hz1, hz2⟩ := info_parts u8_info
  have hmk : ∀ w : World, (Instr.makeSlice 42 (.int .i64 (N : Int)) (.int .i64 (N : Int))).run Tryd.prog w = .ok (.slice (some ⟨w.heap.size, 0, none⟩) N N) (w.alloc (.cells (u8s (zrs N)).toArray 5)) := fun w => by
    have h := run_make (P := Tryd.prog) w 42 5 i0 (.int .u8 0) Tryd.underlying42 hi0 hz0 .i64 .i64 (N : Int) (N : Int) (by omega) (by omega) (by rw [hz2]; omega) (by omega)
    rw [hz1, show ((N : Int).toNat * 1) = N by omega, made_zrs, show (N : Int).toNat = N by omega] at h
    exact h
  obtain ⟨a, ha⟩ : ∃ a, a = f % 26 := ⟨_, rfl⟩
  have hr1 : f % 26 = a := ha.symm
  have hr2 : f.tmod 26 = a := by rw [Int.tmod_eq_emod_of_nonneg h1]; exact hr1
  have hb1 : 0 ≤ a := by omega
  have hb2 : a ≤ 25 := by omega
  have HA := hide ha
  have HN := hide h3
  have HB0 := hide (bel1 w (.cells (u8s (zrs N)).toArray 5))
  have HK0 := hide (BlkIs.new w 5 (u8s (zrs N)).toArray)
  clear hi0 hz0 hz1 hz2 ha
  go_enter Tryd.func17, Tryd.ntmps17
  go_upto_region 5 with (fail)
  clear hmk hr1 hr2 h1 h2 h3
  obtain ⟨g, hg⟩ : ∃ g, g = w.heap.size := ⟨_, rfl⟩
  have HG := hide hg
  rw [← hg] at HK0 ⊢
  generalize w.alloc (.cells (u8s (zrs N)).toArray 5) = w1 at HB0 HK0 ⊢
  clear hg
  go_wp2_with fail
  go_loopw [7, 23] (fun _ k wr => ∃ i : Nat, i ≤ N ∧ k = .int .i64 (i : Int) ∧ Hid (BlkIs wr g 5 (u8s (bodyN f i ++ zrs (N - i))).toArray) ∧ Hid (Below w.heap.size w wr)) (fun _ k _ => N - (intOf k).toNat)
  case atStart => exact ⟨0, by omega, rfl, HK0.out, HB0.out⟩
  case round =>
    obtain ⟨i, hi, rfl, HK, HB⟩ := hrel
    by_cases hlt : i < N
    · have hlt' : (i : Int) < (N : Int) := by omega
      have hN : (N : Int) ≤ 65536 := HN.out
      obtain ⟨m, hm⟩ : ∃ m, m = (a + (i : Int)) % 26 := ⟨_, rfl⟩
      have hm1 : (a + (i : Int)) % 26 = m := hm.symm
      have hm2 : (a + (i : Int)).tmod 26 = m := by rw [Int.tmod_eq_emod_of_nonneg (by omega)]; exact hm1
      have hm3 : 0 ≤ m := by omega
      have hm4 : m ≤ 25 := by omega
      have hw1 : IntKind.u8.wrap m = m := IntWalk.u8_in _ (by omega)
      have hw2 : IntKind.u8.wrap (97 + m) = 97 + m := IntWalk.u8_in _ (by omega)
      have HV := hide (show 97 + m = lttI f i by unfold lttI; have := HA.out; omega)
      have hc := (HK.out.cell i).trans (body_cell f N i hlt)
      have hfz := HK.out.frozen i
      have HG2 := hide (show w.heap.size ≤ g by rw [HG.out]; exact Nat.le_refl _)
      clear hm
      go_wp2
      go_roundw
      case rel => exact ⟨i + 1, by omega, by go_num, by rw [HV.out, ← body_put f N i hlt]; exact HK.out.put i _, HB.out.setCell HG2.out _⟩
      case measure => simp [intOf]; omega
    · have hge : ¬ (i : Int) < (N : Int) := by omega
      obtain rfl : i = N := by omega
      go_wp2
      go_ret
      refine ⟨_, rfl, ?_, HB.out⟩
      rw [HE.out, bodyN_len]
      refine own_row _ _ _ (bodyN_len f i) (by have := HN.out; omega) ?_ (by rw [HG.out]; exact Nat.le_refl _)
      have h := HK.out
      rw [Nat.sub_self, show zrs 0 = [] from rfl, List.append_nil] at h
      exact h
end Go.Proofs.YtdnopjopdklelaaDoor
