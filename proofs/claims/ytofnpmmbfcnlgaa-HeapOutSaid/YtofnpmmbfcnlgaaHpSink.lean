/-
  Layer 24: sink.
-/
import Derived.Test.YtofnpmmbfcnlgaaHpLeast
import Derived.Test.YtofnpmmbfcnlgaaHpRow
import Derived.Test.YtofnpmmbfcnlgaaAgain
import Derived.WalkMore
import Derived.BigRegion
import Derived.Deep.CutRange
namespace Go.Proofs.Ytofnpmmbfcnlgaa
set_option linter.unusedSimpArgs false
set_option linter.unusedVariables false
open Go.RowKit

/-- Where an item sinks. -/
structure SkJ (B : Nat) (w w' : World) (g n c : Nat) (l : List It) (i0 : Nat) (l' : List It) (i : Nat) : Prop where
  hi : i < n
  own : w'.ownsRow B 38 2 (.slice (some ⟨g, 0, none⟩) n c) n (ics l')
  same : sinkL l' i = sinkL l i0
  kb : KB (· = g) w w'
set_option maxRecDepth 100000 in
set_option maxHeartbeats 1600000 in
theorem hp_sink (g n c B : Nat) (l : List It) (i0 : Nat) (w : World) (ho : w.ownsRow B 38 2 (.slice (some ⟨g, 0, none⟩) n c) n (ics l)) (hi0 : i0 < n) (hn : (n : Int) ≤ 1000) :
    Calls Try.prog 25 #[.slice (some ⟨g, 0, none⟩) n c, .int .i64 (i0 : Int)] w fun e w' => e = .returned (.tuple #[]) ∧ w'.ownsRow B 38 2 (.slice (some ⟨g, 0, none⟩) n c) n (ics (sinkL l i0)) ∧ KB (· = g) w w' := by
  have HST := hide (show SkJ B w w g n c l i0 l i0 from ⟨hi0, ho, rfl, KB.refl _ _⟩)
  clear ho hi0
  go_enter Try.func25, Try.ntmps25
  go_wp2_with fail
  refine wp_scope_again 0 (fun a' w' => ∃ (i : Nat) (l' : List It) (u2 u3 u4 u5 u6 u7 u8 u9 u10 u11 u12 u13 u14 u15 u16 u17 u18 u19 u20 u21 u22 u23 u24 u25 : Value), a' = { tmps := #[.slice (some ⟨g, 0, none⟩) n c, .int .i64 (i : Int), u2, u3, u4, u5, u6, u7, u8, u9, u10, u11, u12, u13, u14, u15, u16, u17, u18, u19, u20, u21, u22, u23, u24, u25], defers := [] } ∧ SkJ B w w' g n c l i0 l' i) (fun a' _ => n - (intOf (a'.tmps.getD 1 undef)).toNat) ⟨i0, l, _, _, _, _, _, _, _, _, _, _, _, _, _, _, _, _, _, _, _, _, _, _, _, _, rfl, HST.out⟩ ?_
  rintro a' ww ⟨i, l', u2, u3, u4, u5, u6, u7, u8, u9, u10, u11, u12, u13, u14, u15, u16, u17, u18, u19, u20, u21, u22, u23, u24, u25, rfl, hst⟩
  have hi := hst.hi
  have HO := hide hst.own
  have HS := hide hst.same
  have HK := hide hst.kb
  clear hst HST
  have HLN := hide (own_len HO.out)
  have HC := hide (hp_leastAt (some ⟨g, 0, none⟩) n c l' i ww (own_ils HO.out) hi hn)
  have HD := hide (least_len (l := l') (i := i) (by rw [HLN.out]; exact hi))
  obtain ⟨d, hd⟩ : ∃ d, leastL l' i = d := ⟨_, rfl⟩
  rw [hd] at HC HD
  have hdn : d < n := by have := HD.out; have := HLN.out; omega
  have HDD := hide hd
  clear hd
  by_cases he : d = i
  · subst he
    have HST := hide (sink_stop HDD.out)
    go_wp2_with (go_at_call 31; (with_reducible refine HC.out.mono ?_); rintro e w1 ⟨rfl, hb1⟩; have HB1 := hide hb1; clear hb1)
    simp only [Exit.jump]
    go_end0
    exact ⟨rfl, by rw [← HS.out, HST.out]; exact own_low HO.out HB1.out, HK.out.trans (KB.of_below _ HB1.out)⟩
  · have hne : (((d : Nat) : Int) != (i : Int)) = true := by simp; omega
    have hne2 : (((d : Nat) : Int) == (i : Int)) = false := by simp; omega
    have HIX := hide (gt_get (l := l') (i := i) (by rw [HLN.out]; exact hi))
    have HDX := hide (gt_get (l := l') (i := d) (by rw [HLN.out]; exact hdn))
    have HLT := hide (least_lt (l := l') (i := i) (by rw [HDD.out]; exact he))
    obtain ⟨x, hx⟩ : ∃ x, gt l' i = x := ⟨_, rfl⟩
    obtain ⟨y, hy⟩ : ∃ y, gt l' d = y := ⟨_, rfl⟩
    rw [hx] at HIX
    rw [hy] at HDX
    have HX := hide hx
    have HY := hide hy
    clear hx hy
    have hlt : i < d := by have := HLT.out; rw [HDD.out] at this; exact this.1
    clear HLT
    have hdi : (i : Int) < (n : Int) := by omega
    have hdd : (d : Int) < (n : Int) := by omega
    go_upto_region 2 with (go_at_call 31; (with_reducible refine HC.out.mono ?_); rintro e w1 ⟨rfl, hb1⟩; have HB1 := hide hb1; clear hb1)
    have HO1 := hide (own_low HO.out HB1.out)
    have HK1 := hide (HK.out.trans (KB.of_below _ HB1.out))
    obtain ⟨q0, q1⟩ := ics_get l' i x HIX.out
    obtain ⟨q2, q3⟩ := ics_get l' d y HDX.out
    have c0 := HO1.out.cells (g := g) rfl _ _ q0
    have c1 := HO1.out.cells (g := g) rfl _ _ q1
    have d0 := HO1.out.cells (g := g) rfl _ _ q2
    have d1 := HO1.out.cells (g := g) rfl _ _ q3
    simp only [Addr.add_lit, Nat.zero_add] at c0 c1 d0 d1
    have f0 := own_frozen2 HO1.out (i * 2)
    have f1 := own_frozen2 HO1.out (i * 2 + 1)
    have f2 := own_frozen2 HO1.out (d * 2)
    have f3 := own_frozen2 HO1.out (d * 2 + 1)
    clear q0 q1 q2 q3
    go_region
    have HO2 := hide (own_swap HO1.out i d hi hdn HX.out HY.out)
    have HK2 := hide (kb_item (kb_item HK1.out (i * 2) (i * 2 + 1) (.int .i64 y.k) (.int .i64 y.d)) (d * 2) (d * 2 + 1) (.int .i64 x.k) (.int .i64 x.d))
    generalize ((((w1.setCell ⟨g, i * 2, none⟩ (.int .i64 y.k)).setCell ⟨g, i * 2 + 1, none⟩ (.int .i64 y.d)).setCell ⟨g, d * 2, none⟩ (.int .i64 x.k)).setCell ⟨g, d * 2 + 1, none⟩ (.int .i64 x.d)) = w2 at HO2 HK2 ⊢
    clear c0 c1 d0 d1 f0 f1 f2 f3 hne hne2
    go_wp2_with fail
    go_step3
    refine ⟨rfl, ⟨d, swp l' i d, _, _, _, _, _, _, _, _, _, _, _, _, _, _, _, _, _, _, _, _, _, _, _, _, rfl, ⟨hdn, HO2.out, ?_, HK2.out.drew⟩⟩, ?_⟩
    · rw [← HS.out, sink_step (l := l') (i := i) (by rw [HDD.out]; exact he), HDD.out]
    · simp [intOf]; omega
end Go.Proofs.Ytofnpmmbfcnlgaa
