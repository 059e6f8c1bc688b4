/-
  Layer 17: the document's method: as a name, with great letters.
-/
import Derived.Test.YtlbhnbloanamfaaDoorRqTok
namespace Go.Proofs.YtlbhnbloanamfaaDoor
set_option linter.unusedSimpArgs false
set_option linter.unusedVariables false
open Go.RowKit

/-- A great letter's small one. -/
def lowI (z : Int) : Int := if 65 ≤ z ∧ z ≤ 90 then z + 32 else z
theorem low_fin : ∀ c : Fin 256, nameI (lowI (c.val : Int)) = methI (c.val : Int) := by decide +kernel
theorem low_is {z : Int} (h : 0 ≤ z ∧ z ≤ 255) : nameI (lowI z) = methI z := by
  have := low_fin ⟨z.toNat, by omega⟩
  simp only [Int.toNat_of_nonneg h.1] at this
  exact this
theorem low_bd {z : Int} (h : 0 ≤ z ∧ z ≤ 255) : 0 ≤ lowI z ∧ lowI z ≤ 255 := by unfold lowI; split <;> omega
theorem low_all {l : List Int} (h : AllB l) : AllB (l.map lowI) := by
  intro x hx
  obtain ⟨z, hz, rfl⟩ := List.mem_map.1 hx
  exact low_bd (h z hz)
theorem str_size (l : List Int) : (strOfNums l).size = l.length := by simp [strOfNums, ByteArray.size]
theorem met_low (s : ByteArray) : tokB (strOfNums ((bts s).map lowI)) = metB s := by
  have hall : ((bts s).map lowI).all nameI = (bts s).all methI := by
    have key : ∀ l : List Int, AllB l → (l.map lowI).all nameI = l.all methI := by
      intro l
      induction l with
      | nil => intro _; rfl
      | cons z l ih =>
        intro h
        simp only [List.map_cons, List.all_cons]
        rw [low_is (h z List.mem_cons_self), ih (fun x hx => h x (List.mem_cons_of_mem _ hx))]
    exact key _ (bts_all s)
  unfold tokB metB madeB
  rw [bts_str _ (low_all (bts_all s)), str_size, List.length_map, bts_len, hall]

theorem low_snoc {s : ByteArray} {i : Nat} (h : i < s.size) : ((bts s).take i).map lowI ++ [lowI ((bts s).getD i 0)] = ((bts s).take (i + 1)).map lowI := by
  rw [take_getD (by rw [bts_len]; exact h), List.map_append]
  rfl
theorem low_len {s : ByteArray} {i : Nat} (h : i ≤ s.size) : (((bts s).take i).map lowI).length = i := by
  rw [List.length_map, List.length_take, bts_len]; omega

set_option maxRecDepth 100000 in
set_option maxHeartbeats 3200000 in
theorem rg_method (s : ByteArray) (hs : (s.size : Int) ≤ 100000) (w : World) :
    Calls Tryd.prog 35 #[.string s] w fun e w' => e = .returned (.bool (metB s)) ∧ Below w.heap.size w w' := by
  obtain ⟨C, hC⟩ : ∃ C, C = metB s := ⟨_, rfl⟩
  rw [← hC]
  have HC := hide hC
  obtain ⟨i0, hi0, hz0', hz1', hz2⟩ := info_parts u8_info
  clear hC
  go_enter Tryd.func35, Tryd.ntmps35
  go_wp2_with fail
  go_loopw [3, 4, 5] (fun low k _ wr => ∃ (i : Nat) (l : List Int), i ≤ s.size ∧ k = .int .i64 (i : Int) ∧ ((bts s).take i).map lowI = l ∧ wr.ownsRow w.heap.size 5 1 low l.length (u8s l) ∧ Below w.heap.size w wr) (fun _ k _ _ => s.size - (intOf k).toNat)
  case atStart => exact ⟨0, [], by omega, rfl, rfl, World.ownsRow_nil _ _ _ _, Below.refl _ _⟩
  case round =>
    obtain ⟨i, l, hi, rfl, hl, hown, hb⟩ := hrel
    have HO := hide hown
    have HB := hide hb
    have HLL := hide hl
    have HLN := hide (show l.length = i by rw [← hl]; exact low_len hi)
    obtain ⟨A, c, rfl⟩ := own_form hown
    obtain ⟨n, hn⟩ : ∃ n, n = l.length := ⟨_, rfl⟩
    rw [← hn] at HO HLN ⊢
    have HN := hide hn
    have hni := HLN.out
    subst hni
    clear hown hb hl hn
    by_cases hlt : n < s.size
    · have hlt' : (n : Int) < (s.size : Int) := by omega
      have HZ := hide (bts_get s n hlt)
      have hbd := (bts_all s).getD n
      obtain ⟨z, hz⟩ : ∃ z, z = ((s[n].toNat : Nat) : Int) := ⟨_, rfl⟩
      rw [← hz] at HZ
      rw [HZ.out] at hbd
      have hz' := hz.symm
      clear hz
      have HBW := hide (show w.heap.size ≤ wr.heap.size from HB.out.size)
      have HS := hide (low_snoc (s := s) hlt)
      obtain ⟨y, hy⟩ : ∃ y, y = lowI z := ⟨_, rfl⟩
      have HY := hide hy
      rw [HZ.out, ← hy, HLL.out] at HS
      clear hy
      have hcz : (65 ≤ z ∧ z ≤ 90 ∧ y = z + 32) ∨ (¬ 65 ≤ z ∧ y = z) ∨ (65 ≤ z ∧ ¬ z ≤ 90 ∧ y = z) := by
        rw [HY.out]
        unfold lowI
        split <;> omega
      obtain ⟨hz0, hz1⟩ := hbd
      rcases hcz with ⟨h1, h2, rfl⟩ | ⟨h1, rfl⟩ | ⟨h1, h2, rfl⟩
      all_goals
        go_wp2_with (at_builtin; refine wpList_append_own _ rfl (.tmp 23) (.tmp 25) 59 rfl w.heap.size 5 i0 (.int .u8 0) 1 1 Tryd.underlying59 hi0 hz0' hz1' hz2 rfl (by decide) (.slice A n c) n (u8s l) rfl (HO.out.alloc _) ⟨wr.heap.size, 0, none⟩ 1 1 [.int .u8 _] rfl rfl (one_new _ _ _) (one_cell _ _) (by unfold maxLen; omega) (by omega) (by have := HBW.out; simp; omega) ?_; intro v1 w2 hown2 hg2 _; have HO2 := hide hown2; have HG2 := hide hg2; clear hown2 hg2)
        go_roundw
        case rel => exact ⟨n + 1, l ++ [_], by omega, by go_num, HS.out.symm, by rw [List.length_append, ← HN.out, u8s_snoc]; exact HO2.out, own_below (HO.out.alloc _) (HB.out.alloc HBW.out _) (Nat.le_refl _) HG2.out⟩
        case measure => simp [intOf]; omega
    · have hge : ¬ (n : Int) < (s.size : Int) := by omega
      obtain rfl : n = s.size := by omega
      have HST := hide (own_string (l := l) (by rw [← HN.out]; exact HO.out))
      have HME := hide (met_low s)
      have hfl : l = (bts s).map lowI := by rw [← HLL.out, List.take_of_length_le (by rw [bts_len]; exact Nat.le_refl _)]
      rw [← hfl] at HME
      have HT := hide (fun w => rg_Token (strOfNums l) (by rw [str_size, ← HN.out]; omega) w)
      obtain ⟨S, hS⟩ : ∃ S, S = strOfNums l := ⟨_, rfl⟩
      rw [← hS] at HST HT HME
      rw [HME.out, ← HC.out] at HT
      have hst := HST.out
      clear hfl hS
      go_wp2_with (go_at_call 17; refine (HT.out _).mono ?_; rintro e w3 ⟨rfl, rfl⟩)
      go_ret
      first | exact ⟨rfl, HB.out⟩ | exact ⟨trivial, HB.out⟩
end Go.Proofs.YtlbhnbloanamfaaDoor
