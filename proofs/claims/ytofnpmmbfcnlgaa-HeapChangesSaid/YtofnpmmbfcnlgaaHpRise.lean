/-
  Layer 24: rise, settle.
-/
import Derived.Test.YtofnpmmbfcnlgaaHpSink
import Derived.Test.YtofnpmmbfcnlgaaHpAbove
import Derived.Deep.RegionHeld3
import Derived.Test.YtofnpmmbfcnlgaaHpRow
import Derived.Test.YtofnpmmbfcnlgaaAgain
import Derived.WalkMore
import Derived.BigRegion
import Derived.Deep.CutRange
namespace Go.Proofs.Ytofnpmmbfcnlgaa
set_option linter.unusedSimpArgs false
set_option linter.unusedVariables false
open Go.RowKit

/-- Where an item rises. -/
structure RsJ (B : Nat) (w w' : World) (g n c : Nat) (l : List It) (i0 : Nat) (l' : List It) (i : Nat) : Prop where
  hi : i < n
  own : w'.ownsRow B 38 2 (.slice (some ⟨g, 0, none⟩) n c) n (ics l')
  same : riseL l' i = riseL l i0
  kb : KB (· = g) w w'
theorem rise_up {l : List It} {i : Nat} (h : ltB (gt l i) (gt l (up i)) = true) : up i < i := by
  rcases Nat.eq_zero_or_pos i with rfl | h0
  · rw [show up 0 = 0 from rfl, ltB_self] at h; cases h
  · exact up_lt h0
set_option maxRecDepth 100000 in
set_option maxHeartbeats 1600000 in
theorem hp_rise (g n c B : Nat) (l : List It) (i0 : Nat) (w : World) (ho : w.ownsRow B 38 2 (.slice (some ⟨g, 0, none⟩) n c) n (ics l)) (hi0 : i0 < n) (hn : (n : Int) ≤ 1000) :
    Calls Try.prog 28 #[.slice (some ⟨g, 0, none⟩) n c, .int .i64 (i0 : Int)] w fun e w' => e = .returned (.tuple #[]) ∧ w'.ownsRow B 38 2 (.slice (some ⟨g, 0, none⟩) n c) n (ics (riseL l i0)) ∧ KB (· = g) w w' := by
  have HST := hide (show RsJ B w w g n c l i0 l i0 from ⟨hi0, ho, rfl, KB.refl _ _⟩)
  clear ho hi0
  go_enter Try.func28, Try.ntmps28
  go_wp2_with fail
  refine wp_scope_again 0 (fun a' w' => ∃ (i : Nat) (l' : List It) (u2 u3 u4 u5 u6 u7 u8 u9 u10 u11 u12 u13 u14 u15 u16 u17 u18 u19 u20 u21 u22 u23 u24 u25 u26 u27 u28 u29 u30 : Value), a' = { tmps := #[.slice (some ⟨g, 0, none⟩) n c, .int .i64 (i : Int), u2, u3, u4, u5, u6, u7, u8, u9, u10, u11, u12, u13, u14, u15, u16, u17, u18, u19, u20, u21, u22, u23, u24, u25, u26, u27, u28, u29, u30], defers := [] } ∧ RsJ B w w' g n c l i0 l' i) (fun a' _ => (intOf (a'.tmps.getD 1 undef)).toNat) ⟨i0, l, _, _, _, _, _, _, _, _, _, _, _, _, _, _, _, _, _, _, _, _, _, _, _, _, _, _, _, _, _, rfl, HST.out⟩ ?_
  rintro a' ww ⟨i, l', u2, u3, u4, u5, u6, u7, u8, u9, u10, u11, u12, u13, u14, u15, u16, u17, u18, u19, u20, u21, u22, u23, u24, u25, u26, u27, u28, u29, u30, rfl, hst⟩
  have hi := hst.hi
  have HO := hide hst.own
  have HS := hide hst.same
  have HK := hide hst.kb
  clear hst HST
  have HLN := hide (own_len HO.out)
  have HB0 := hide (own_lt2 HO.out)
  have HA := hide (hp_above i ww (by omega))
  obtain ⟨d, hd⟩ : ∃ d, up i = d := ⟨_, rfl⟩
  rw [hd] at HA
  have hdi : d ≤ i := by rw [← hd]; exact up_le i
  have HDD := hide hd
  clear hd
  have hdn : d < n := by omega
  have HIX := hide (gt_get (l := l') (i := i) (by rw [HLN.out]; exact hi))
  have HDX := hide (gt_get (l := l') (i := d) (by rw [HLN.out]; exact hdn))
  obtain ⟨x, hx⟩ : ∃ x, gt l' i = x := ⟨_, rfl⟩
  obtain ⟨y, hy⟩ : ∃ y, gt l' d = y := ⟨_, rfl⟩
  rw [hx] at HIX
  rw [hy] at HDX
  have HX := hide hx
  have HY := hide hy
  clear hx hy
  have hii : (i : Int) < (n : Int) := by omega
  have hdd : (d : Int) < (n : Int) := by omega
  obtain ⟨q0, q1⟩ := ics_get l' i x HIX.out
  obtain ⟨q2, q3⟩ := ics_get l' d y HDX.out
  have c0 := HO.out.cells (g := g) rfl _ _ q0
  have c1 := HO.out.cells (g := g) rfl _ _ q1
  have d0 := HO.out.cells (g := g) rfl _ _ q2
  have d1 := HO.out.cells (g := g) rfl _ _ q3
  simp only [Addr.add_lit, Nat.zero_add] at c0 c1 d0 d1
  clear q0 q1 q2 q3
  have HC := hide (hp_Less x y)
  obtain ⟨z, hz⟩ : ∃ z, ltB x y = z := ⟨_, rfl⟩
  rw [hz] at HC
  have HZ := hide hz
  have hbl : g < ww.heap.size := HB0.out.2
  clear hz
  go_upto_region 1 with (go_at_call 27; (with_reducible refine HA.out.mono ?_); rintro e w1 ⟨rfl, rfl⟩)
  go_region_held3 (fun w' => w'.cell? ⟨g, i * 2, none⟩ = some (.int .i64 x.k) ∧ w'.cell? ⟨g, i * 2 + 1, none⟩ = some (.int .i64 x.d) ∧ w'.cell? ⟨g, d * 2, none⟩ = some (.int .i64 y.k) ∧ w'.cell? ⟨g, d * 2 + 1, none⟩ = some (.int .i64 y.d))
    (first | exact ⟨c0, c1, d0, d1⟩ | exact ⟨k0, k1, k2, k3⟩)
    (first
      | (go_at_call 15; ((with_reducible refine (HC.out _).mono ?_); rintro e w3 ⟨rfl, hb3⟩; have k0 := (hb3.cell (p := ⟨g, _, none⟩) hbl).trans c0; have k1 := (hb3.cell (p := ⟨g, _, none⟩) hbl).trans c1; have k2 := (hb3.cell (p := ⟨g, _, none⟩) hbl).trans d0; have k3 := (hb3.cell (p := ⟨g, _, none⟩) hbl).trans d1; have HB3 := hide (show Below ww.heap.size ww w3 from (Below.refl _ ww).drew.trans hb3); clear hb3)))
  have HO3 := hide (own_low HO.out HB3.out)
  have HK3 := hide (HK.out.trans (KB.of_below _ HB3.out))
  clear c0 c1 d0 d1 HC HA
  cases z with
  | false =>
    have HST := hide (rise_stop (l := l') (i := i) (by rw [HDD.out, HX.out, HY.out]; exact HZ.out))
    clear k0 k1 k2 k3
    go_wp2_with fail
    simp only [Exit.jump]
    go_end0
    exact ⟨rfl, by rw [← HS.out, HST.out]; exact HO3.out, HK3.out⟩
  | true =>
    have HZU := hide (show ltB (gt l' i) (gt l' (up i)) = true by rw [HDD.out, HX.out, HY.out]; exact HZ.out)
    have hlt : d < i := by have := rise_up HZU.out; rw [HDD.out] at this; exact this
    have f0 := own_frozen2 HO3.out (i * 2)
    have f1 := own_frozen2 HO3.out (i * 2 + 1)
    have f2 := own_frozen2 HO3.out (d * 2)
    have f3 := own_frozen2 HO3.out (d * 2 + 1)
    go_upto_region 2 with (fail)
    go_region
    have HO2 := hide (own_swap HO3.out i d hi hdn HX.out HY.out)
    have HK2 := hide (kb_item (kb_item HK3.out (i * 2) (i * 2 + 1) (.int .i64 y.k) (.int .i64 y.d)) (d * 2) (d * 2 + 1) (.int .i64 x.k) (.int .i64 x.d))
    generalize ((((w3.setCell ⟨g, i * 2, none⟩ (.int .i64 y.k)).setCell ⟨g, i * 2 + 1, none⟩ (.int .i64 y.d)).setCell ⟨g, d * 2, none⟩ (.int .i64 x.k)).setCell ⟨g, d * 2 + 1, none⟩ (.int .i64 x.d)) = w2 at HO2 HK2 ⊢
    clear k0 k1 k2 k3 f0 f1 f2 f3
    go_wp2_with fail
    go_step3
    refine ⟨rfl, ⟨d, swp l' i d, _, _, _, _, _, _, _, _, _, _, _, _, _, _, _, _, _, _, _, _, _, _, _, _, _, _, _, _, _, rfl, ⟨hdn, HO2.out, ?_, HK2.out.drew⟩⟩, ?_⟩
    · rw [← HS.out, rise_step HZU.out, HDD.out]
    · simp [intOf]; omega

set_option maxHeartbeats 1600000 in
theorem hp_settle (g n c B : Nat) (l : List It) (i : Nat) (w : World) (ho : w.ownsRow B 38 2 (.slice (some ⟨g, 0, none⟩) n c) n (ics l)) (hi : i < n) (hn : (n : Int) ≤ 1000) :
    Calls Try.prog 30 #[.slice (some ⟨g, 0, none⟩) n c, .int .i64 (i : Int)] w fun e w' => e = .returned (.tuple #[]) ∧ w'.ownsRow B 38 2 (.slice (some ⟨g, 0, none⟩) n c) n (ics (settleL l i)) ∧ KB (· = g) w w' := by
  have HR := hide (hp_rise g n c B l i w ho hi hn)
  clear ho
  go_enter Try.func30, Try.ntmps30
  go_wp2_with fail
  refine HR.out.mono ?_
  rintro e w1 ⟨rfl, ho1, hk1⟩
  have HS := hide (hp_sink g n c B (riseL l i) i w1 ho1 hi hn)
  have HK1 := hide hk1
  clear ho1 hk1 HR
  go_wp2_with fail
  refine HS.out.mono ?_
  rintro e w2 ⟨rfl, ho2, hk2⟩
  have HO2 := hide ho2
  have HK2 := hide (HK1.out.trans' hk2 (fun _ _ h => h))
  clear ho2 hk2 HS
  go_wp2_with fail
  go_end0
  exact ⟨rfl, HO2.out, HK2.out⟩
end Go.Proofs.Ytofnpmmbfcnlgaa
