/-
  Layer 24: slices.Clone, Of.
-/
import Derived.Test.YtofnpmmbfcnlgaaHpRise
import Derived.LoopTactic
namespace Go.Proofs.Ytofnpmmbfcnlgaa
set_option linter.unusedSimpArgs false
set_option linter.unusedVariables false
open Go.RowKit

set_option maxHeartbeats 1600000 in
theorem hp_Clone (A : Option Addr) (n c : Nat) (l : List It) (w : World) (hl : IL w A n c l) (hn : (n : Int) ≤ 1000) :
    Calls Try.prog 24 #[.slice A n c] w (GivesIt 38 l w) := by
  have hq := fun w => Lib.run_eql_slice_nil (P := Try.prog) w 26 38 A n c 0 0 Try.underlying26
  cases A with
  | none =>
    obtain ⟨rfl, rfl, rfl⟩ := il_nil hl
    clear hl
    go_enter Try.func24, Try.ntmps24
    go_wp2
    go_ret
    exact ⟨none, 0, rfl, World.ownsRow_nil _ _ _ _, Below.refl _ _⟩
  | some ad =>
    have HL := hide hl
    have HN := hide hn
    clear hl hn
    go_enter Try.func24, Try.ntmps24
    have HO := hide (World.ownsRow_lit (size := 2) (base := w.heap.size) (e := 38) w #[] 0 (Nat.le_refl _) (Nat.zero_le _) rfl)
    have HFA := hide (HL.out.keep (bel1 w (.cells #[] 38)))
    go_wp2_with (at_builtin; refine wpList_append_il isI _ rfl (.tmp 5) (.tmp 6) rfl w.heap.size _ 0 [] rfl HO.out (some ad) n c l rfl HFA.out (by have := HN.out; omega) (by simp) ?_; intro A1 c1 w1 hown1 hg1; have HO1 := hide hown1; have HG1 := hide hg1; clear hown1 hg1)
    go_ret
    have hlen := HL.out.len
    subst hlen
    exact ⟨A1, c1, by simp, by simpa using HO1.out, own_bel HO.out (bel1 _ _) (Nat.le_refl _) (Nat.le_refl _) HG1.out⟩

/-- Where Of stands: k places are still to be looked at. -/
structure OfJ (w w' : World) (A : Option Addr) (n c : Nat) (l l' : List It) (k : Nat) : Prop where
  hk : 2 * k ≤ n
  own : w'.ownsRow w.heap.size 38 2 (.slice A n c) n (ics l')
  same : ofF k l' = ofL l
  bel : Below w.heap.size w w'
set_option maxRecDepth 100000 in
set_option maxHeartbeats 1600000 in
theorem hp_Of (A : Option Addr) (n c : Nat) (l : List It) (w : World) (hl : IL w A n c l) (hn : (n : Int) ≤ 1000) :
    Calls Try.prog 7 #[.slice A n c] w (GivesIt 38 (ofL l) w) := by
  have HC := hide (hp_Clone A n c l w hl hn)
  have hln := hl.len
  subst hln
  clear hl
  obtain ⟨N, hN⟩ : ∃ N, l.length = N := ⟨_, rfl⟩
  rw [hN] at hn HC ⊢
  have HNN := hide hN
  clear hN
  go_enter Try.func7, Try.ntmps7
  go_wp2_with fail
  refine HC.out.mono ?_
  rintro e w1 ⟨A1, c1, rfl, ho1, hb1⟩
  rw [HNN.out] at ho1 ⊢
  have HST := hide (show OfJ w w1 A1 N c1 l l (N / 2) from ⟨by omega, ho1, by rw [ofL, HNN.out], hb1⟩)
  clear ho1 hb1 HC
  go_wp2_with fail
  go_loopw [4] (fun s4 wr => ∃ (k : Nat) (l' : List It), s4 = .int .i64 ((k : Int) - 1) ∧ Hid (OfJ w wr A1 N c1 l l' k)) (fun s4 _ => (intOf s4 + 1).toNat)
  case atStart => exact ⟨N / 2, l, by go_num, HST.out⟩
  case round =>
    clear HST
    obtain ⟨k, l', rfl, HJ⟩ := hrel
    cases k with
    | succ j =>
      have e1 : (((j + 1 : Nat) : Int) - 1) = (j : Int) := by omega
      rw [e1]
      have hjn : j < N := by have := HJ.out.hk; omega
      obtain ⟨g, rfl⟩ := own_some HJ.out.own (by omega)
      have HS := hide (hp_sink g N c1 w.heap.size l' j wr HJ.out.own hjn hn)
      have HG := hide (own_lt2 HJ.out.own)
      clear e1
      go_wp2_with (go_at_call 25; (with_reducible refine HS.out.mono ?_); rintro e w2 ⟨rfl, ho2, hk2⟩; have HO2 := hide ho2; have HB2 := hide (kb_belowB HJ.out.bel HG.out.1 hk2 HJ.out.bel.size); clear ho2 hk2)
      go_roundw
      case rel => exact ⟨j, sinkL l' j, rfl, ⟨by have := HJ.out.hk; omega, HO2.out, by rw [← HJ.out.same, ofF], HB2.out⟩⟩
      case measure => simp [intOf]
    | zero =>
      have HSM := hide HJ.out.same
      go_wp2_with fail
      go_ret
      refine ⟨A1, c1, by rw [of_len, HNN.out]; rfl, ?_, HJ.out.bel⟩
      rw [of_len, HNN.out, ← HSM.out]
      exact HJ.out.own
end Go.Proofs.Ytofnpmmbfcnlgaa
