/-
  Layer 24: Check.
-/
import Derived.Test.YtofnpmmbfcnlgaaHpLess
import Derived.Test.YtofnpmmbfcnlgaaHpAbove
import Derived.Deep.RegionHeld3
namespace Go.Proofs.Ytofnpmmbfcnlgaa
set_option linter.unusedSimpArgs false
set_option linter.unusedVariables false
open Go.RowKit

/-- What Check answers. -/
def chkL (l : List It) : Int := if hpB l = true then 0 else 10
def HpTo (l : List It) (k : Nat) : Prop := ∀ j, j < k → ltB (gt l j) (gt l (up j)) = false
theorem chk_no {l : List It} {k : Nat} (hk : k < l.length) (h : ltB (gt l k) (gt l (up k)) = true) : chkL l = 10 := if_neg (by
  intro q
  have := hpB_yes.1 q k hk
  unfold Le at this
  rw [h] at this; cases this)
theorem chk_yes {l : List It} {k : Nat} (hk : l.length ≤ k) (h : HpTo l k) : chkL l = 0 := if_pos (hpB_yes.2 fun j hj => h j (by omega))
theorem HpTo.step {l : List It} {k : Nat} (h : HpTo l k) (q : ltB (gt l k) (gt l (up k)) = false) : HpTo l (k + 1) := fun j hj => by
  rcases Nat.lt_or_eq_of_le (Nat.le_of_lt_succ hj) with h1 | rfl
  · exact h j h1
  · exact q
theorem HpTo.one (l : List It) : HpTo l 1 := fun j hj => by
  obtain rfl : j = 0 := by omega
  exact ltB_self _
theorem chk_hp {l : List It} (h : Hp l) : chkL l = 0 := if_pos (hpB_yes.2 h)
theorem hp_chk {l : List It} (h : chkL l = 0) : Hp l := by
  unfold chkL at h
  split at h
  · next q => exact hpB_yes.1 q
  · cases h

set_option maxRecDepth 100000 in
set_option maxHeartbeats 1600000 in
theorem hp_Check (A : Option Addr) (n c : Nat) (l : List It) (w : World) (hl : IL w A n c l) (hn : (n : Int) ≤ 1000) :
    Calls Try.prog 13 #[.slice A n c] w fun e w' => e = .returned (.int .i64 (chkL l)) ∧ Below w.heap.size w w' := by
  have HL := hide hl
  have HLN := hide hl.len
  clear hl
  go_enter Try.func13, Try.ntmps13
  go_wp2_with fail
  go_loopw [6] (fun s6 wr => ∃ k : Nat, s6 = .int .i64 (k : Int) ∧ k ≤ n ∧ Hid (HpTo l k) ∧ Hid (Below w.heap.size w wr)) (fun s6 _ => n - (intOf s6).toNat)
  case atStart => exact ⟨0, rfl, by omega, (fun j hj => by omega), Below.refl _ _⟩
  case round =>
    obtain ⟨k, rfl, hk, HP, HB⟩ := hrel
    by_cases h2 : k < n
    · have h2' : (k : Int) < (n : Int) := by omega
      have hu : up k < n := by have := up_le k; omega
      obtain ⟨x, b, off, hx, hA, hbl, c0, c1⟩ := (HL.out.keep HB.out).round h2
      obtain ⟨y, b', off', hy, hA', _, d0, d1⟩ := (HL.out.keep HB.out).round hu
      rw [hA] at hA'
      obtain ⟨rfl, rfl⟩ : b = b' ∧ off = off' := by injection hA' with e; injection e with e1 e2; exact ⟨e1, e2⟩
      clear hA'
      subst hA
      have HX := hide (gt_some hx)
      have HY := hide (gt_some hy)
      clear hx hy
      have HA := hide (fun w => hp_above k w (by omega))
      have hu0 : ((up k : Nat) : Int) < (n : Int) := by omega
      obtain ⟨u, hu⟩ : ∃ u, up k = u := ⟨_, rfl⟩
      rw [hu] at HA d0 d1 HY hu0
      have HU := hide hu
      clear hu
      have HC := hide (hp_Less x y)
      obtain ⟨z, hz⟩ : ∃ z, ltB x y = z := ⟨_, rfl⟩
      rw [hz] at HC
      have HZ := hide hz
      clear hz
      go_wp2_with fail
      go_region_held3 (fun w' => w'.cell? ⟨b, off + k * 2, none⟩ = some (.int .i64 x.k) ∧ w'.cell? ⟨b, off + k * 2 + 1, none⟩ = some (.int .i64 x.d) ∧ w'.cell? ⟨b, off + u * 2, none⟩ = some (.int .i64 y.k) ∧ w'.cell? ⟨b, off + u * 2 + 1, none⟩ = some (.int .i64 y.d))
        (first | exact ⟨c0, c1, d0, d1⟩ | exact ⟨k0, k1, k2, k3⟩)
        (first
          | (go_at_call 27; ((with_reducible refine (HA.out _).mono ?_); rintro e w3 ⟨rfl, rfl⟩))
          | (go_at_call 15; ((with_reducible refine (HC.out _).mono ?_); rintro e w3 ⟨rfl, hb3⟩; have k0 := (hb3.cell (p := ⟨b, _, none⟩) hbl).trans c0; have k1 := (hb3.cell (p := ⟨b, _, none⟩) hbl).trans c1; have k2 := (hb3.cell (p := ⟨b, _, none⟩) hbl).trans d0; have k3 := (hb3.cell (p := ⟨b, _, none⟩) hbl).trans d1; have HB3 := hide (HB.out.drew.trans (hb3.mono HB.out.size)); clear hb3)))
      have HIL := hide (show k < l.length by rw [HLN.out]; exact h2)
      clear HC HA c0 c1 d0 d1 k0 k1 k2 k3
      cases z with
      | true =>
        have HE := hide (chk_no HIL.out (by rw [HU.out, HX.out, HY.out]; exact HZ.out))
        go_wp2_with fail
        go_ret
        exact ⟨by rw [HE.out]; rfl, HB3.out⟩
      | false =>
        have HS := hide (HP.out.step (by rw [HU.out, HX.out, HY.out]; exact HZ.out))
        go_wp2_with fail
        go_roundw
        case rel => exact ⟨k + 1, by go_num, h2, HS.out, HB3.out⟩
        case measure => simp [intOf]; omega
    · have h2' : ¬ (k : Int) < (n : Int) := by omega
      have HE := hide (chk_yes (l := l) (k := k) (by rw [HLN.out]; omega) HP.out)
      go_wp2
      go_ret
      exact ⟨by rw [HE.out]; rfl, HB.out⟩

end Go.Proofs.Ytofnpmmbfcnlgaa
