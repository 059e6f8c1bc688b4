/-
  Layer 24: the document's Check.
-/
import Derived.Test.YtofnpmmbfcnlgaaHpCheck
import Derived.Test.YtofnpmmbfcnlgaaRhLess
import Derived.Deep.RegionHeld3
namespace Go.Proofs.Ytofnpmmbfcnlgaa
set_option linter.unusedSimpArgs false
set_option linter.unusedVariables false
open Go.RowKit

set_option maxRecDepth 100000 in
set_option maxHeartbeats 1600000 in
theorem rh_Check (A : Option Addr) (n c : Nat) (l : List It) (w : World) (hl : IL w A n c l) (hn : (n : Int) ≤ 1000) :
    Calls Try.prog 14 #[.slice A n c] w fun e w' => e = .returned (.int .i64 (chkL l)) ∧ Below w.heap.size w w' := by
  have HL := hide hl
  have HLN := hide hl.len
  clear hl
  go_enter Try.func14, Try.ntmps14
  go_wp2_with fail
  go_loopw [3] (fun s3 wr => ∃ k : Nat, s3 = .int .i64 (k : Int) ∧ 1 ≤ k ∧ k ≤ n + 1 ∧ Hid (HpTo l k) ∧ Hid (Below w.heap.size w wr)) (fun s3 _ => n - (intOf s3).toNat)
  case atStart => exact ⟨1, rfl, by omega, by omega, HpTo.one l, Below.refl _ _⟩
  case round =>
    obtain ⟨k, rfl, hk1, hk, HP, HB⟩ := hrel
    by_cases h2 : k < n
    · have h2' : (k : Int) < (n : Int) := by omega
      have hu : up k < n := by have := up_le k; omega
      obtain ⟨x, b, off, hx, hA, hbl, c0, c1⟩ := (HL.out.keep HB.out).round h2
      obtain ⟨y, b', off', hy, hA', _, d0, d1⟩ := (HL.out.keep HB.out).round hu
      rw [hA] at hA'
      obtain ⟨rfl, rfl⟩ : b = b' ∧ off = off' := by injection hA' with e; injection e with e1 e2; exact ⟨e1, e2⟩
      clear hA'
      subst hA
      have HX := hide (gt_some hx)
      have HY := hide (gt_some hy)
      clear hx hy
      have hu0 : ((up k : Nat) : Int) < (n : Int) := by omega
      have hue : ((k : Int) - 1).tdiv 2 = ((up k : Nat) : Int) := by
        rw [Int.tdiv_eq_ediv_of_nonneg (by omega)]; unfold up; omega
      have hue2 : ((k : Int) - 1) / 2 = ((up k : Nat) : Int) := by unfold up; omega
      have hw1 : IntKind.i64.wrap ((k : Int) - 1) = (k : Int) - 1 := IntWalk.i64_in _ (by omega)
      have hw2 : IntKind.i64.wrap ((up k : Nat) : Int) = ((up k : Nat) : Int) := IntWalk.i64_in _ (by omega)
      obtain ⟨u, hu⟩ : ∃ u, up k = u := ⟨_, rfl⟩
      rw [hu] at d0 d1 HY hu0 hue hue2 hw2
      have HU := hide hu
      clear hu
      have HC := hide (rh_Less x y)
      obtain ⟨z, hz⟩ : ∃ z, ltB x y = z := ⟨_, rfl⟩
      rw [hz] at HC
      have HZ := hide hz
      clear hz
      go_wp2_with fail
      go_region_held3 (fun w' => w'.cell? ⟨b, off + k * 2, none⟩ = some (.int .i64 x.k) ∧ w'.cell? ⟨b, off + k * 2 + 1, none⟩ = some (.int .i64 x.d) ∧ w'.cell? ⟨b, off + u * 2, none⟩ = some (.int .i64 y.k) ∧ w'.cell? ⟨b, off + u * 2 + 1, none⟩ = some (.int .i64 y.d))
        (first | exact ⟨c0, c1, d0, d1⟩ | exact ⟨k0, k1, k2, k3⟩)
        (first
          | (go_at_call 16; ((with_reducible refine (HC.out _).mono ?_); rintro e w3 ⟨rfl, hb3⟩; have k0 := (hb3.cell (p := ⟨b, _, none⟩) hbl).trans c0; have k1 := (hb3.cell (p := ⟨b, _, none⟩) hbl).trans c1; have k2 := (hb3.cell (p := ⟨b, _, none⟩) hbl).trans d0; have k3 := (hb3.cell (p := ⟨b, _, none⟩) hbl).trans d1; have HB3 := hide (HB.out.drew.trans (hb3.mono HB.out.size)); clear hb3)))
      have HIL := hide (show k < l.length by rw [HLN.out]; exact h2)
      clear HC c0 c1 d0 d1 k0 k1 k2 k3 hue hue2 hw1 hw2
      cases z with
      | true =>
        have HE := hide (chk_no HIL.out (by rw [HU.out, HX.out, HY.out]; exact HZ.out))
        go_wp2_with fail
        go_ret
        exact ⟨by rw [HE.out]; rfl, HB3.out⟩
      | false =>
        have HS := hide (HP.out.step (by rw [HU.out, HX.out, HY.out]; exact HZ.out))
        go_wp2_with fail
        go_roundw
        case rel => exact ⟨k + 1, by go_num, by omega, by omega, HS.out, HB3.out⟩
        case measure => simp [intOf]; omega
    · have h2' : ¬ (k : Int) < (n : Int) := by omega
      have HE := hide (chk_yes (l := l) (k := k) (by rw [HLN.out]; omega) HP.out)
      go_wp2
      go_ret
      exact ⟨by rw [HE.out]; rfl, HB.out⟩
end Go.Proofs.Ytofnpmmbfcnlgaa
