/-
  Layer 9: the settings of a payload (pairs).
-/
import Derived.Test.YtefdhbljcnpggaaFrNum
import Derived.Test.YtefdhbljcnpggaaPrMem
import Derived.Deep.RegionHeld3
import Derived.Deep.AppendLies
namespace Go.Proofs.Ytefdhbljcnpggaa
open Go.RowKit

/-- The k-th setting of a payload; the first k of them. -/
def prAt (xs : List Int) (k : Nat) : Pr := ⟨256 * xs.getD (6 * k) 0 + xs.getD (6 * k + 1) 0, numL ((xs.drop (6 * k + 2)).take 4)⟩
def prsL (xs : List Int) (k : Nat) : List Pr := (List.range k).map (prAt xs)
theorem prsL_succ (xs : List Int) (k : Nat) : prsL xs (k + 1) = prsL xs k ++ [prAt xs k] := by simp [prsL, List.range_succ]
theorem prsL_len (xs : List Int) (k : Nat) : (prsL xs k).length = k := by simp [prsL]
def GivesPairs (l : List Pr) (w : World) (e : Ending) (w' : World) : Prop := ∃ A c, e = .returned (.slice A l.length c) ∧ PL w' A l.length c l ∧ Below w.heap.size w w'
theorem or16 (a b : Int) (a0 : 0 ≤ a) (a1 : a ≤ 255) (b0 : 0 ≤ b) (b1 : b ≤ 255) : bits .or .u16 (256 * a) b = 256 * a + b := by
  exact bits_join .u16 16 (by decide) (fun n a b => IntWalk.u16_in n ⟨by omega, by omega⟩) 8 (256 * a) b (by omega) (by omega) (by omega) b0 (by omega) (by omega)

theorem own_keep2 {w0 w' : World} {B n : Nat} {e : TypeId} {v : Value} {xs : List Value} (h : w0.ownsRow B e 2 v n xs) (hb : Below w0.drew.heap.size w0.drew w') : w'.ownsRow B e 2 v n xs := by
  refine ⟨h.1, ?_⟩
  rcases h.2 with h' | ⟨g, cap, cur, a, b, c, d⟩
  · exact .inl h'
  · exact .inr ⟨g, cap, cur, a, b, (hb.block g (Array.getElem?_eq_some_iff.1 c).1).trans c, d⟩

set_option maxRecDepth 100000 in
set_option maxHeartbeats 1600000 in
theorem fr_pairs (s : ByteArray) (m : Nat) (hm : s.size = 6 * m) (hs : (m : Int) ≤ 100000) (w : World) :
    Calls Try.prog 51 #[.string s] w (GivesPairs (prsL (bts s) m) w) := by
  obtain ⟨i0, hi0, hz0, hz1, hz2⟩ := info_parts pr_info
  have HM := hide hm
  clear hm
  go_enter Try.func51, Try.ntmps51
  go_wp2_with fail
  go_loopw [0, 3] (fun s0 v wr => ∃ (k : Nat) (t : ByteArray), k ≤ m ∧ s0 = .string t ∧ bts t = (bts s).drop (6 * k) ∧ wr.ownsRow w.heap.size 75 2 v k (pcs (prsL (bts s) k)) ∧ Below w.heap.size w wr) (fun s0 _ _ => match s0 with | .string t => t.size | _ => 0)
  case atStart => exact ⟨0, s, by omega, rfl, by simp, World.ownsRow_nil _ _ _ _, Below.refl _ _⟩
  case round =>
    obtain ⟨k, t, hk, rfl, ht, hown, hb⟩ := hrel
    have htl : t.size = 6 * (m - k) := by
      have h1 := bts_len t
      rw [ht, List.length_drop, bts_len, HM.out] at h1
      omega
    have HT := hide ht
    have HO := hide hown
    have HB := hide hb
    clear ht hown hb
    by_cases hlt : k < m
    · have g0 : 0 < t.size := by omega
      have g1 : 1 < t.size := by omega
      have g1i : (1 : Int) < (t.size : Int) := by omega
      have g2i : (2 : Int) ≤ (t.size : Int) := by omega
      have hne : t.toList.isEmpty = false := by rw [is_empty]; exact decide_eq_false (by omega)
      have HTL := hide htl
      clear htl
      obtain ⟨a0, a1⟩ := byte_bd t[0]
      obtain ⟨b0, b1⟩ := byte_bd t[1]
      obtain ⟨X, hX⟩ : ∃ X, X = (256 : Int) * (t[0].toNat : Int) + (t[1].toNat : Int) := ⟨_, rfl⟩
      have e0 : IntKind.u16.wrap (t[0].toNat : Int) = (t[0].toNat : Int) := IntWalk.u16_in _ (by omega)
      have e1 : IntKind.u16.wrap ((t[0].toNat : Int) * 256) = (256 : Int) * (t[0].toNat : Int) := by rw [IntWalk.u16_in _ (by omega)]; omega
      have e2 : IntKind.u16.wrap (t[1].toNat : Int) = (t[1].toNat : Int) := IntWalk.u16_in _ (by omega)
      have e3 : bits .or .u16 ((256 : Int) * (t[0].toNat : Int)) (t[1].toNat : Int) = X := by rw [or16 _ _ a0 a1 b0 b1, hX]
      obtain ⟨V, hV⟩ : ∃ V, V = numL ((bts (t.extract 2 t.size)).take 4) := ⟨_, rfl⟩
      have HN := hide (fun w => fr_number (t.extract 2 t.size) (by have := HTL.out; simp; omega) w)
      rw [← hV] at HN
      have HPA := hide (show prsL (bts s) k ++ [⟨X, V⟩] = prsL (bts s) (k + 1) by
        have h0 := bts_get t 0 (by have := HTL.out; omega)
        have h1 := bts_get t 1 (by have := HTL.out; omega)
        rw [HT.out] at h0 h1
        have hx : X = (prAt (bts s) k).i := by
          rw [hX, ← h0, ← h1]
          simp [prAt, List.getD]
        have hv : V = (prAt (bts s) k).v := by
          rw [hV, bts_drop, HT.out]
          simp [prAt, List.drop_drop]
        rw [prsL_succ, hx, hv])
      have hl2 : (pcs (prsL (bts s) k)).length = k * 2 := by rw [pcs_len, prsL_len]
      have HKM := hide (show (k : Int) ≤ 100000 by omega)
      clear hX hV
      go_wp2_with fail
      go_region_held3 (fun _ => True) (trivial)
        (first
          | (go_at_call 50; refine (HN.out _).mono ?_; rintro e w3 ⟨rfl, hb3⟩; have HB3 := hide (HB.out.drew.trans (hb3.mono HB.out.size)); have HO3 := hide (own_keep2 HO.out hb3); clear hb3)
          | (refine step_append_lies _ (by rfl) (.tmp 8) (.tmp 21) 26 (by rfl) w.heap.size 75 i0 _ 2 8 Try.underlying26 hi0 hz0 hz1 hz2 rfl (by decide) u3 k (pcs (prsL (bts s) k)) (by rfl) (HO3.out.alloc _) ⟨w3.heap.size, 0, none⟩ 1 1 [.int .u16 X, .int .u32 V] (by rfl) (by rfl) (World.news_of_block (cs := #[.int .u16 X, .int .u32 V]) (t := 75) (fr := (0, 0)) (heap_alloc_new w3 _)) (by simp [Value.oneCell']) (by omega) (by have := HKM.out; unfold maxLen; omega) (by have := HKM.out; omega) (Nat.le_trans HB3.out.size (by simp)) _ rfl ?_; intro gg cap w4 hown4 hgrow4 hat4 hlt4; have HO4 := hide hown4; have HB4 := hide (own_below' (HO3.out.alloc _) (HB3.out.alloc HB3.out.size _) (Nat.le_refl _) (Nat.le_refl _) hgrow4); clear hown4 hgrow4 hat4 hlt4))
      all_goals
        clear e0 e1 e2 e3
        have g6 : (6 : Int) ≤ (t.size : Int) := by have := HTL.out; omega
        go_wp2_with fail
        go_roundw
        case rel => exact ⟨k + 1, t.extract 6 t.size, by omega, rfl, by rw [bts_drop, HT.out, List.drop_drop]; congr 1, by rw [← HPA.out, pcs_append]; exact HO4.out, HB4.out⟩
        case measure =>
          show (t.extract 6 t.size).size < t.size
          have h1 := bts_len (t.extract 6 t.size)
          rw [bts_drop, List.length_drop, bts_len] at h1
          omega
    · have hne : t.toList.isEmpty = true := by rw [is_empty]; exact decide_eq_true (by omega)
      go_wp2_with fail
      obtain rfl : k = m := by omega
      obtain ⟨A, c, rfl, hpl⟩ := own_prs HO.out
      go_ret
      exact ⟨A, c, by rw [prsL_len]; rfl, by rw [prsL_len]; exact hpl, HB.out⟩
end Go.Proofs.Ytefdhbljcnpggaa
