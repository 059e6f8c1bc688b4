/-
  Layer 10, the document's: whole, Check, Left.
-/
import Derived.Test.YtojcjmjohibpaaaSpCheck
import Derived.Test.YtojcjmjohibpaaaFhGet2
namespace Go.Proofs.Ytojcjmjohibpaaa
set_option linter.unusedSimpArgs false
set_option linter.unusedVariables false
open Go.RowKit

def wholeI (xs : List Int) : Int := if 16384 < gL xs then -1 else if (xs.length : Int) < 9 + gL xs then 0 else 9 + gL xs
theorem wholeI_short {xs : List Int} (h : xs.length < 9) : wholeI xs = 0 := by
  rw [wholeI, gL_short h, if_neg (by omega), if_pos (by omega)]
theorem wholeI_bad {xs : List Int} (h : 16384 < gL xs) : wholeI xs = -1 := by rw [wholeI, if_pos h]
theorem wholeI_cut {xs : List Int} (h : ¬ 16384 < gL xs) (h2 : (xs.length : Int) < 9 + gL xs) : wholeI xs = 0 := by rw [wholeI, if_neg h, if_pos h2]
theorem wholeI_yes {xs : List Int} (h : ¬ 16384 < gL xs) (h2 : ¬ (xs.length : Int) < 9 + gL xs) : wholeI xs = 9 + gL xs := by rw [wholeI, if_neg h, if_neg h2]

/-- Get of a text's bytes. -/
theorem rf_GetS (B : ByteArray) (cap : Nat) (w : World) (A : Option Addr) (hr : RB w A B.size (bts B)) (hc : B.size ≤ cap) {L T F Z E : Int} (hL : L = gL (bts B)) (hT : T = gT (bts B)) (hF : F = gF (bts B)) (hZ : Z = gS (bts B)) (hE : E = gE (bts B)) :
    Calls Try.prog 22 #[.slice A B.size cap] w fun e w' => e = .returned (.tuple #[.agg #[.int .i64 L, .int .u8 T, .int .u8 F, .int .i64 Z], .int .i64 E]) ∧ Below w.heap.size w w' := by
  subst hL hT hF hZ hE
  exact rf_Get A B.size cap (bts B) w hr hc

set_option maxRecDepth 100000 in
set_option maxHeartbeats 1600000 in
theorem rf_whole (B : ByteArray) (hB : (B.size : Int) ≤ 1000000) (w : World) :
    Calls Try.prog 21 #[.string B] w fun e w' => e = .returned (.int .i64 (wholeI (bts B))) ∧ Below w.heap.size w w' := by
  have hz := run_zero_is rd_zero
  obtain ⟨cap, w1, hcv, hr, hb1, hcap, _, _⟩ := str_row w B
  obtain ⟨L, hL⟩ : ∃ L, L = gL (bts B) := ⟨_, rfl⟩
  obtain ⟨T, hT⟩ : ∃ L, L = gT (bts B) := ⟨_, rfl⟩
  obtain ⟨F, hF⟩ : ∃ L, L = gF (bts B) := ⟨_, rfl⟩
  obtain ⟨Z, hZ⟩ : ∃ L, L = gS (bts B) := ⟨_, rfl⟩
  obtain ⟨E, hE⟩ : ∃ L, L = gE (bts B) := ⟨_, rfl⟩
  have HG := hide (rf_GetS B cap w1 _ hr hcap hL hT hF hZ hE)
  have HB := hide hb1
  have hl0 : 0 ≤ L := by rw [hL]; exact (gL_bd (bts_all B)).1
  have hl1 : L < 16777216 := by rw [hL]; exact (gL_bd (bts_all B)).2
  obtain ⟨V, hV⟩ : ∃ V, V = wholeI (bts B) := ⟨_, rfl⟩
  rw [← hV]
  have hlen := bts_len B
  by_cases h9 : B.size < 9
  · have hE3 : E = 3 := by rw [hE, gE, if_pos (by omega)]
    have hV0 : V = 0 := by rw [hV, wholeI_short (by omega)]
    subst hE3 hV0
    clear hr hb1 hcap hL hT hF hZ hE hV hlen h9
    go_enter Try.func21, Try.ntmps21
    go_wp2_with fail
    clear hcv
    refine HG.out.mono ?_
    rintro e w2 ⟨rfl, hb2⟩
    have B2 := hide (HB.out.trans (hb2.mono HB.out.size))
    clear hb2 HB HG
    go_wp2_with fail
    go_ret
    exact ⟨rfl, B2.out.alloc B2.out.size _⟩
  · have hE0 : E = 0 := by rw [hE, gE, if_neg (by omega)]
    subst hE0
    have HV := hide hV
    have HL := hide hL
    have HLEN := hide hlen
    clear hr hb1 hcap hL hT hF hZ hE hV hlen h9
    go_enter Try.func21, Try.ntmps21
    go_wp2_with fail
    clear hcv
    refine HG.out.mono ?_
    rintro e w2 ⟨rfl, hb2⟩
    have B2 := hide ((HB.out.trans (hb2.mono HB.out.size)).alloc (HB.out.trans (hb2.mono HB.out.size)).size (.cells #[.int .i64 L, .int .u8 T, .int .u8 F, .int .i64 Z] 46))
    clear hb2 HB HG
    by_cases h1 : 16384 < L
    · have HR := hide (show V = -1 by rw [HV.out]; exact wholeI_bad (by rw [← HL.out]; exact h1))
      go_wp2_with fail
      go_ret
      exact ⟨by rw [HR.out]; rfl, B2.out⟩
    · by_cases h2 : (B.size : Int) < 9 + L
      · have HR := hide (show V = 0 by rw [HV.out]; exact wholeI_cut (by rw [← HL.out]; exact h1) (by rw [← HL.out, HLEN.out]; exact h2))
        go_wp2_with fail
        go_ret
        exact ⟨by rw [HR.out]; rfl, B2.out⟩
      · have HR := hide (show V = 9 + L by rw [HV.out, HL.out]; exact wholeI_yes (by rw [← HL.out]; exact h1) (by rw [← HL.out, HLEN.out]; exact h2))
        go_wp2_with fail
        go_ret
        exact ⟨by rw [HR.out]; rfl, B2.out⟩
end Go.Proofs.Ytojcjmjohibpaaa
