/-
  Layer 8: Put (both), Wide.
-/
import Derived.Test.YtefdhbljcnpggaaFhRef
namespace Go.Proofs.Ytefdhbljcnpggaa
open Go.RowKit

/-- What a call leaves: a slice of its own, with these bytes. -/
def GivesRow (B : Nat) (l : List Int) (w : World) (e : Ending) (w' : World) : Prop :=
  ∃ v, e = .returned v ∧ w'.ownsRow B 5 1 v l.length (u8s l) ∧ Below B w w'
/-- What Put leaves. -/
def GivesPut (B : Nat) (l : List Int) (code : Int) (w : World) (e : Ending) (w' : World) : Prop :=
  ∃ v, e = .returned (.tuple #[v, .int .i64 code]) ∧ w'.ownsRow B 5 1 v l.length (u8s l) ∧ Below B w w'

theorem hdB_form (l t f s : Int) (h1 : 0 ≤ l) (h2 : l ≤ 16777215) (h3 : 0 ≤ s) (h4 : s ≤ 2147483647) :
    hdB l t f s = [l / 65536, l / 256 % 256, l % 256, t, f, s / 16777216, s / 65536 % 256, s / 256 % 256, s % 256] := by
  unfold hdB
  rw [show l / 65536 % 256 = l / 65536 by omega, show s / 16777216 % 256 = s / 16777216 by omega]
theorem hdB_len (l t f s : Int) : (hdB l t f s).length = 9 := rfl
theorem hdB_all (l t f s : Int) (ht0 : 0 ≤ t) (ht1 : t ≤ 255) (hf0 : 0 ≤ f) (hf1 : f ≤ 255) : AllB (hdB l t f s) := by
  intro x hx
  simp only [hdB, List.mem_cons, List.not_mem_nil, or_false] at hx
  omega

/-- What Put leaves, its block known whole. -/
def PutBlk (l t f s : Int) (w : World) (e : Ending) (w' : World) : Prop :=
  ∃ h, e = .returned (.tuple #[.slice (some ⟨h, 0, none⟩) 9 9, .int .i64 0]) ∧ BlkIs w' h 5 (u8s (hdB l t f s)).toArray ∧ w.heap.size ≤ h ∧ Below w.heap.size w w'

set_option maxHeartbeats 800000 in
theorem fh_Put_blk (l t f s : Int) (h1 : 0 ≤ l) (h2 : l ≤ 16777215) (h3 : 0 ≤ s) (h4 : s ≤ 2147483647) (w : World) :
    Calls Try.prog 37 #[.agg #[.int .i64 l, .int .u8 t, .int .u8 f, .int .i64 s]] w (PutBlk l t f s w) := by
  have HC := hide (fun w => fh_Check l t f s w)
  have HK := hide (chkH_yes ((okH_iff l s).2 ⟨h1, h2, h3, h4⟩))
  have HF := hide (hdB_form l t f s h1 h2 h3 h4)
  go_enter Try.func37, Try.ntmps37
  go_wp2_with fail
  refine (HC.out _).mono ?_
  rintro e w1 ⟨rfl, hb1⟩
  rw [HK.out]
  obtain ⟨c0, c1⟩ : w1.cell? ⟨w.heap.size, 0, none⟩ = some (.int .i64 l) ∧ w1.cell? ⟨w.heap.size, 1, none⟩ = some (.int .u8 t) := by
    constructor <;> (rw [hb1.cell (by simp)]; simp [World.cell?_alloc_at])
  obtain ⟨c2, c3⟩ : w1.cell? ⟨w.heap.size, 2, none⟩ = some (.int .u8 f) ∧ w1.cell? ⟨w.heap.size, 3, none⟩ = some (.int .i64 s) := by
    constructor <;> (rw [hb1.cell (by simp)]; simp [World.cell?_alloc_at])
  have HB := hide (((Below.refl _ _).alloc (Nat.le_refl _) _).trans (hb1.mono (by simp)))
  clear hb1
  go_wp2
  go_ret2
  refine ⟨w1.heap.size, rfl, ?_, HB.out.size, HB.out.alloc HB.out.size _⟩
  rw [HF.out]
  exact BlkIs.new w1 _ _

theorem fh_Put_yes (l t f s : Int) (h1 : 0 ≤ l) (h2 : l ≤ 16777215) (h3 : 0 ≤ s) (h4 : s ≤ 2147483647) (w : World) :
    Calls Try.prog 37 #[.agg #[.int .i64 l, .int .u8 t, .int .u8 f, .int .i64 s]] w (GivesPut w.heap.size (hdB l t f s) 0 w) :=
  (fh_Put_blk l t f s h1 h2 h3 h4 w).mono fun _ _ ⟨_, he, hk, hB, hb⟩ => ⟨_, he, own_blk _ _ 9 rfl (by omega) hk hB, hb⟩

theorem fh_Put_no (l t f s : Int) (h : okH l s = false) (w : World) :
    Calls Try.prog 37 #[.agg #[.int .i64 l, .int .u8 t, .int .u8 f, .int .i64 s]] w (GivesPut w.heap.size [] 8 w) := by
  have HC := hide (fun w => fh_Check l t f s w)
  have HK := hide (chkH_no h)
  clear h
  go_enter Try.func37, Try.ntmps37
  go_wp2_with fail
  refine (HC.out _).mono ?_
  rintro e w1 ⟨rfl, hb1⟩
  rw [HK.out]
  have HB := hide (((Below.refl _ _).alloc (Nat.le_refl _) _).trans (hb1.mono (by simp)))
  clear hb1
  go_wp2
  go_ret2
  exact ⟨_, rfl, World.ownsRow_nil _ _ _ _, HB.out⟩

/-- What Put answers. -/
def putH (l t f s : Int) : List Int := if okH l s then hdB l t f s else []
theorem putH_yes {l s : Int} (t f : Int) (h : okH l s = true) : putH l t f s = hdB l t f s := by simp [putH, h]
theorem putH_no {l s : Int} (t f : Int) (h : okH l s = false) : putH l t f s = [] := by simp [putH, h]
theorem fh_Put (l t f s : Int) (w : World) :
    Calls Try.prog 37 #[.agg #[.int .i64 l, .int .u8 t, .int .u8 f, .int .i64 s]] w (GivesPut w.heap.size (putH l t f s) (chkH l s) w) := by
  cases h : okH l s with
  | true =>
    rw [putH_yes t f h, chkH_yes h]
    obtain ⟨h1, h2, h3, h4⟩ := (okH_iff l s).1 h
    exact fh_Put_yes l t f s h1 h2 h3 h4 w
  | false =>
    rw [putH_no t f h, chkH_no h]
    exact fh_Put_no l t f s h w

/-- The bytes of a number, so many. -/
def wideL (n : Int) : Nat → List Int
  | 0 => []
  | k + 1 => wideL (n / 256) k ++ [n % 256]
theorem wideL_len (k : Nat) : ∀ n, (wideL n k).length = k := by
  induction k with
  | zero => intro n; rfl
  | succ k ih => intro n; simp [wideL, ih]

set_option maxHeartbeats 800000 in
theorem rf_Wide (n : Int) (m : Nat) (M : Int) (hM : M = m) (h0 : 0 ≤ n) (h1 : n ≤ 2147483647) (hm : m ≤ 4) (B : Nat) (w : World) (hB : B ≤ w.heap.size) :
    Calls Try.prog 59 #[.int .i64 n, .int .i64 M] w (GivesRow B (wideL n m) w) := by
  subst hM
  obtain ⟨i0, hi0, hz0, hz1, hz2⟩ := info_parts u8_info
  have hm' : (m : Int) ≤ 4 := by omega
  obtain ⟨W, hW⟩ : ∃ W, W = wideL n m := ⟨_, rfl⟩
  rw [← hW]
  have HW := hide hW
  clear hW
  go_enter Try.func59, Try.ntmps59
  go_wp2
  go_loopw [0, 5, 6] (fun x v i wr => ∃ (k : Nat) (q : Int) (ys : List Int), i = .int .i64 (k : Int) ∧ k ≤ m ∧ x = .int .i64 q ∧ 0 ≤ q ∧ q ≤ 2147483647 ∧ ys.length = k ∧ wr.ownsRow B 5 1 v ys.length (u8s ys) ∧ AllB ys ∧ W = wideL q (m - k) ++ ys ∧ Below B w wr) (fun _ _ i _ => m - (intOf i).toNat)
  case atStart => exact ⟨0, n, [], rfl, by omega, rfl, h0, h1, rfl, World.ownsRow_nil _ _ _ _, fun x hx => by simp at hx, by rw [HW.out]; simp, Below.refl _ _⟩
  case round =>
    obtain ⟨k, q, ys, rfl, hk, rfl, q0, q1, hy, hown, hall, hw, hbel⟩ := hrel
    obtain ⟨A, c, rfl⟩ := own_form hown
    have HR := hide (rb_of_own hown hall)
    have HY := hide hy
    have HO := hide hown
    have HA := hide hall
    have HV := hide hw
    have HB := hide hbel
    clear hy hown hall hw hbel
    by_cases hlt : k < m
    · have hlt' : (k : Int) < (m : Int) := by omega
      have hBr : B ≤ wr.heap.size := Nat.le_trans hB HB.out.size
      have hnil : Hid (A = none → ys.length = 0 ∧ c = 0) := hide (by
        intro hA
        subst hA
        rcases HO.out.2 with ⟨e, _⟩ | ⟨g, cap, cur, e, _⟩
        · injection e with e1 e2 e3; exact ⟨e2, e3⟩
        · injection e with e1; cases e1)
      go_wp2_with (at_builtin; refine wpList_append_rb _ rfl (.tmp 15) (.tmp 16) 44 rfl B 5 i0 Try.underlying44 hi0 hz0 hz1 hz2 _ [q % 256] rfl (own_one wr B (q % 256) hBr) A ys.length c ys rfl (HR.out.1.below ((Below.refl _ _).alloc (Nat.le_refl _) _)) hnil.out (by have := HY.out; simp; omega) (by simp; omega) ?_; intro v1 w1 hown1 hg1; have HO1 := hide hown1; have HG1 := hide (own_below (own_one wr B (q % 256) hBr) (HB.out.alloc hBr _) hB hg1); clear hown1 hg1)
      go_roundw
      case rel =>
        refine ⟨k + 1, q / 256, [q % 256] ++ ys, by go_num, by omega, rfl, by omega, by omega, by simp [HY.out], HO1.out, ?_, ?_, HG1.out⟩
        · intro x hx
          rcases List.mem_append.1 hx with hx | hx
          · simp at hx; omega
          · exact HA.out x hx
        · rw [HV.out, show m - k = (m - (k + 1)) + 1 by omega, wideL]
          simp
      case measure => simp [intOf]; omega
    · obtain rfl : k = m := by omega
      go_wp2
      go_ret
      refine ⟨_, rfl, ?_, HB.out⟩
      rw [HV.out]
      simpa [wideL] using HO.out
end Go.Proofs.Ytefdhbljcnpggaa
