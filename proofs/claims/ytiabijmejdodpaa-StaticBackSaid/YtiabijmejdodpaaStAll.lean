/-
  Layer 3: All.
-/
import Derived.Test.YtiabijmejdodpaaStFind2
namespace Go.Proofs.Ytiabijmejdodpaa
open Go.RowKit

/-- One cell of the list of all fields, behind k rounds. -/
def allC (k i : Nat) : Value :=
  if i / 3 < k then (if i % 3 = 0 then .string (nm (i / 3)) else if i % 3 = 1 then .string (vl (i / 3)) else .bool false)
  else (if i % 3 = 2 then .bool false else .string ⟨#[]⟩)
def allA (k : Nat) : Array Value := Array.ofFn (n := 183) fun i => allC k i.val
theorem allA_size (k : Nat) : (allA k).size = 183 := by simp [allA]
theorem allA_get (k i : Nat) (h : i < 183) : (allA k)[i]? = some (allC k i) := by
  simp [allA, h]
theorem allA_step (k : Nat) : (((allA k).setIfInBounds (k * 3) (.string (nm k))).setIfInBounds (k * 3 + 1) (.string (vl k))).setIfInBounds (k * 3 + 2) (.bool false) = allA (k + 1) := by
  apply Array.ext_getElem?
  intro i
  simp only [Array.getElem?_setIfInBounds, Array.size_setIfInBounds, allA_size]
  by_cases hi : i < 183
  · rw [allA_get _ _ hi, allA_get _ _ hi]
    by_cases h2 : k * 3 + 2 = i
    · subst h2
      rw [if_pos rfl, if_pos (by omega)]
      unfold allC
      rw [show (k * 3 + 2) / 3 = k by omega, show (k * 3 + 2) % 3 = 2 by omega, if_pos (by omega)]
      rfl
    · rw [if_neg h2]
      by_cases h1 : k * 3 + 1 = i
      · subst h1
        rw [if_pos rfl, if_pos (by omega)]
        unfold allC
        rw [show (k * 3 + 1) / 3 = k by omega, show (k * 3 + 1) % 3 = 1 by omega, if_pos (by omega)]
        rfl
      · rw [if_neg h1]
        by_cases h0 : k * 3 = i
        · subst h0
          rw [if_pos rfl, if_pos (by omega)]
          unfold allC
          rw [show (k * 3) / 3 = k by omega, show (k * 3) % 3 = 0 by omega, if_pos (by omega)]
          rfl
        · rw [if_neg h0]
          unfold allC
          by_cases hk : i / 3 < k
          · rw [if_pos hk, if_pos (show i / 3 < k + 1 by omega)]
          · rw [if_neg hk, if_neg (show ¬ i / 3 < k + 1 by omega)]
  · rw [Array.getElem?_eq_none (by rw [allA_size]; omega), Array.getElem?_eq_none (by rw [allA_size]; omega)]
    split
    · rw [if_neg (by omega)]
    · split
      · rw [if_neg (by omega)]
      · split
        · rw [if_neg (by omega)]
        · rfl

theorem st_info_fld : (Try.prog.info? 23).map (fun i => (i.zero, i.size, i.bytes)) = some (some (.agg #[.string ⟨#[]⟩, .string ⟨#[]⟩, .bool false]), 3, 40) := by kernel_rfl
theorem made_all : madeCells #[Value.string ⟨#[]⟩, Value.string ⟨#[]⟩, Value.bool false] 183 = allA 0 := by
  apply Array.ext_getElem?
  intro i
  by_cases hi : i < 183
  · rw [allA_get 0 i hi]
    simp [madeCells, hi]
    unfold allC
    rw [if_neg (by omega)]
    have : i % 3 = 0 ∨ i % 3 = 1 ∨ i % 3 = 2 := by omega
    rcases this with h | h | h <;> simp [h]
  · rw [Array.getElem?_eq_none (by simp [madeCells]; omega), Array.getElem?_eq_none (by rw [allA_size]; omega)]

/-- What All leaves. -/
def Alls (w : World) (e : Ending) (w' : World) : Prop := ∃ g, e = .returned (.slice (some ⟨g, 0, none⟩) 61 61) ∧ w.heap.size ≤ g ∧ BlkIs w' g 23 (allA 61) ∧ Below w.heap.size w w'

set_option maxRecDepth 100000 in
set_option maxHeartbeats 1600000 in
theorem st_All (w : World) : Calls Try.prog 9 #[] w (Alls w) := by
  obtain ⟨i0, hi0, hz0, hz1, hz2⟩ := info_parts st_info_fld
  have hmk := fun W => @run_make Try.prog W 27 23 i0 _ Try.underlying27 hi0 hz0 .i64 .i64 61 61 (by omega) (by omega) (by rw [hz2]; omega) (by omega)
  simp only [hz1, show (61 : Int).toNat = 61 from rfl] at hmk
  have hmk' : ∀ W : World, (Instr.makeSlice 27 (.int .i64 61) (.int .i64 61)).run Try.prog W = .ok (.slice (some ⟨W.heap.size, 0, none⟩) 61 61) (W.alloc (.cells (allA 0) 23)) := by
    intro W; rw [hmk W, ← made_all]; rfl
  obtain ⟨A, hA⟩ : ∃ A, A = allA := ⟨_, rfl⟩
  have HA := hide hA
  rw [← hA] at hmk'
  have hz := run_zero_is st_zero_raw
  clear hmk hi0 hz0 hz1 hz2 hA
  go_enter Try.func9, Try.ntmps9
  go_wp2_with fail
  refine (st_names _).mono ?_
  rintro e w1 ⟨rfl, hb1⟩
  have HK := hide ((BlkIs.new w 23 (A 0)).keep hb1)
  have HB := hide ((((Below.refl w.heap.size w).alloc (Nat.le_refl _) (.cells (A 0) 23))).trans (hb1.mono (by simp)))
  clear hb1 hmk'
  obtain ⟨g, hg⟩ : ∃ g, g = w.heap.size := ⟨_, rfl⟩
  have HG := hide hg
  rw [← hg] at HK ⊢
  clear hg
  go_wp2_with fail
  go_loopw [6] (fun c wr => ∃ k : Nat, k ≤ 61 ∧ c = .int .i64 (k : Int) ∧ BlkIs wr g 23 (A k) ∧ Below w.heap.size w wr) (fun c _ => 61 - (intOf c).toNat)
  case atStart => exact ⟨0, by omega, rfl, HK.out, HB.out⟩
  case round =>
    obtain ⟨k, hk, rfl, hblk, hbel⟩ := hrel
    have HBLK := hide hblk
    have HBEL := hide hbel
    clear hblk hbel
    by_cases hlt : k < 61
    · have hlt' : (k : Int) < 61 := by omega
      have hidx := names_index k hlt .i64
      have hv := (show vlAt (1 + (k : Int)) = vl k by rw [Int.add_comm]; exact vlAt_nat k)
      have HC := hide (show ∀ w : World, Calls Try.prog 15 #[.int .i64 (1 + (k : Int))] w fun e w' => e = .returned (.string (vl k)) ∧ w = w' from fun w => by rw [← hv]; exact st_valueAt _ w)
      have hst := allA_step k
      obtain ⟨N, hN⟩ : ∃ N, N = nm k := ⟨_, rfl⟩
      obtain ⟨V, hV⟩ : ∃ V, V = vl k := ⟨_, rfl⟩
      rw [← hN] at hidx hst
      rw [← hV] at HC hst
      rw [← HA.out] at hst
      have hc0 : ∃ v, wr.cell? ⟨g, k * 3, none⟩ = some v := by rw [HBLK.out.cell, HA.out]; exact ⟨_, allA_get k _ (by omega)⟩
      have hc1 : ∃ v, wr.cell? ⟨g, k * 3 + 1, none⟩ = some v := by rw [HBLK.out.cell, HA.out]; exact ⟨_, allA_get k _ (by omega)⟩
      have hc2 : ∃ v, wr.cell? ⟨g, k * 3 + 2, none⟩ = some v := by rw [HBLK.out.cell, HA.out]; exact ⟨_, allA_get k _ (by omega)⟩
      obtain ⟨v0, hc0⟩ := hc0
      obtain ⟨v1, hc1⟩ := hc1
      obtain ⟨v2, hc2⟩ := hc2
      have hf0 := HBLK.out.frozen (k * 3)
      have hf1 := HBLK.out.frozen (k * 3 + 1)
      have hf2 := HBLK.out.frozen (k * 3 + 2)
      have HST := hide hst
      clear hN hV hst hv
      go_wp2_with (go_at_call 15; refine (HC.out _).mono ?_; rintro e w2 ⟨rfl, rfl⟩)
      go_roundw
      case rel =>
        have hgl := HG.out
        refine ⟨k + 1, by omega, by go_num, ?_, ((HBEL.out.setCell (by show w.heap.size ≤ g; omega) _).setCell (by show w.heap.size ≤ g; omega) _).setCell (by show w.heap.size ≤ g; omega) _⟩
        have := ((HBLK.out.put (k * 3) (.string N)).put (k * 3 + 1) (.string V)).put (k * 3 + 2) (.bool false)
        rw [HST.out] at this
        exact this
      case measure => simp [intOf]; omega
    · have hge : ¬ (k : Int) < 61 := by omega
      obtain rfl : k = 61 := by omega
      have hgl := HG.out
      have HGL := hide (show w.heap.size ≤ g by omega)
      clear hgl
      go_wp2
      go_ret
      exact ⟨g, rfl, HGL.out, by rw [← HA.out]; exact HBLK.out, HBEL.out⟩
end Go.Proofs.Ytiabijmejdodpaa
