/-
  Layer 24: Push.
-/
import Derived.Test.YtofnpmmbfcnlgaaHpTake
import Derived.Deep.RegionHeld3
namespace Go.Proofs.Ytofnpmmbfcnlgaa
set_option linter.unusedSimpArgs false
set_option linter.unusedVariables false
open Go.RowKit

set_option maxRecDepth 100000 in
set_option maxHeartbeats 1600000 in
theorem hp_Push (A : Option Addr) (n c : Nat) (l : List It) (x : It) (w : World) (hl : IL w A n c l) (hn : (n : Int) ≤ 900) :
    Calls Try.prog 17 #[.slice A n c, .agg #[.int .i64 x.k, .int .i64 x.d]] w (GivesIt 38 (pushL l x) w) := by
  have HL := hide hl
  have hln := hl.len
  subst hln
  clear hl
  obtain ⟨N, hN⟩ : ∃ N, l.length = N := ⟨_, rfl⟩
  rw [hN] at hn HL ⊢
  have HNN := hide hN
  clear hN
  go_enter Try.func17, Try.ntmps17
  go_upto_region 1 with (fail)
  have K0 := hide (BlkIs.new w 38 #[.int .i64 x.k, .int .i64 x.d])
  have HB0 := hide (bel1 w (.cells #[.int .i64 x.k, .int .i64 x.d] 38))
  obtain ⟨g0, hg0⟩ : ∃ g0, w.heap.size = g0 := ⟨_, rfl⟩
  rw [hg0] at K0 ⊢
  have HG0 := hide hg0
  clear hg0
  have HL1 := hide (HL.out.keep HB0.out)
  generalize (w.alloc (.cells #[.int .i64 x.k, .int .i64 x.d] 38)) = w1 at K0 HB0 HL1 ⊢
  have HOF := hide (fun w' (hb : Below w1.heap.size w1 w') => (hp_Of A N c l w' (HL1.out.keep hb) (by omega)).mono fun e w2 h => gives_n (N := N) (by rw [of_len, HNN.out]) h)
  have HZ := hide HB0.out.size
  have HNO := hide hn
  clear HL hn
  go_region_held3 (fun w' => w'.cell? ⟨g0, 0, none⟩ = some (.int .i64 x.k) ∧ w'.cell? ⟨g0, 1, none⟩ = some (.int .i64 x.d))
    (first | exact it_two K0.out.drew | exact it_two (K0.out.drew.alloc _) | exact it_two (K0.out.alloc _).drew | exact it_two K3.out | exact it_two (K3.out.alloc _) | exact it_two K4.out)
    (first
      | (go_at_call 7; ((with_reducible refine (HOF.out _ (Below.refl _ _).drew).mono ?_); rintro e w3 ⟨A3, c3, rfl, ho3, hb3⟩; have K3 := hide (K0.out.drew.keep hb3); have KX := hide (BlkIs.new w3 38 #[.int .i64 x.k, .int .i64 x.d]); have KO := hide (K3.out.alloc (.cells #[.int .i64 x.k, .int .i64 x.d] 38)); have HB3 := hide (show Below w1.heap.size w1 w3 from (Below.refl _ w1).drew.trans hb3); have HOX := hide (show (w3.alloc (.cells #[.int .i64 x.k, .int .i64 x.d] 38)).ownsRow w1.heap.size 38 2 (.slice A3 N c3) N (ics (ofL l)) from own_alloc2 ho3 _); have HBX := hide (HB3.out.alloc HB3.out.size (.cells #[.int .i64 x.k, .int .i64 x.d] 38)); clear ho3 hb3))
      | (go_at_call 7; ((with_reducible refine (HOF.out _ (bel1 w1 _).drew).mono ?_); rintro e w3 ⟨A3, c3, rfl, ho3, hb3⟩; have K3 := hide ((K0.out.alloc _).drew.keep hb3); have KO := hide K3.out; have KX := hide ((BlkIs.new w1 38 #[.int .i64 x.k, .int .i64 x.d]).drew.keep hb3); have HBX := hide (show Below w1.heap.size w1 w3 from (bel1 w1 _).drew.trans (hb3.mono (by simp))); have HOX := hide (show w3.ownsRow w1.heap.size 38 2 (.slice A3 N c3) N (ics (ofL l)) from own_base ho3 (by simp)); clear ho3 hb3))
      | (refine step_append_il isH _ (by rfl) (.tmp 6) (.tmp 8) (by rfl) w1.heap.size _ N (ofL l) (by rfl) HOX.out (some ⟨w3.heap.size, 0, none⟩) 1 1 [x] (by rfl) (il_new1 KX.out) (by have := HNO.out; omega) (HBX.out.size) ?_; intro A4 c4 w4 ho4 hg4; have K4 := hide (show BlkIs w4 g0 38 #[.int .i64 x.k, .int .i64 x.d] from KO.out.grown hg4 (own_ne5 HOX.out K0.out.lt)); have HO4 := hide ho4; have HB4 := hide (own_bel HOX.out HBX.out (Nat.le_refl _) (Nat.le_refl _) hg4); clear ho4 hg4)
      | (refine step_append_il isH _ (by rfl) (.tmp 6) (.tmp 8) (by rfl) w1.heap.size _ N (ofL l) (by rfl) HOX.out (some ⟨w1.heap.size, 0, none⟩) 1 1 [x] (by rfl) (il_new1 KX.out) (by have := HNO.out; omega) (HBX.out.size) ?_; intro A4 c4 w4 ho4 hg4; have K4 := hide (show BlkIs w4 g0 38 #[.int .i64 x.k, .int .i64 x.d] from KO.out.grown hg4 (own_ne5 HOX.out K0.out.lt)); have HO4 := hide ho4; have HB4 := hide (own_bel HOX.out HBX.out (Nat.le_refl _) (Nat.le_refl _) hg4); clear ho4 hg4))
  all_goals
    obtain ⟨g4, rfl⟩ := own_some HO4.out (by omega)
    have HG4 := hide (own_lt2 HO4.out)
    have HR := hide (hp_rise g4 (N + 1) c4 w1.heap.size (ofL l ++ [x]) N w4 HO4.out (by omega) (by have := HNO.out; omega))
    have HBW := hide (HB0.out.trans (HB4.out.mono HB0.out.size))
    have hnn : (N : Int) ≤ 900 := HNO.out
    go_wp2_with (go_at_call 28; (with_reducible refine HR.out.mono ?_); rintro e w5 ⟨rfl, ho5, hk5⟩; have HO5 := hide ho5; have HB5 := hide (kb_belowB HBW.out (Nat.le_trans HZ.out HG4.out.1) hk5 HBW.out.size); clear ho5 hk5)
    go_ret
    refine ⟨some ⟨g4, 0, none⟩, c4, by rw [push_len, HNN.out]; rfl, ?_, HB5.out⟩
    rw [push_len, HNN.out, pushL, HNN.out]
    exact own_base HO5.out HZ.out
end Go.Proofs.Ytofnpmmbfcnlgaa
