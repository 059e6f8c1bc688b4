/-
  Layer 10: begun (the head of the frame that a text begins with, and how many bytes it has).
-/
import Derived.Test.YtojcjmjohibpaaaSpMem
import Derived.Test.YtojcjmjohibpaaaStrRow
import Derived.Test.YtojcjmjohibpaaaFhGet
namespace Go.Proofs.Ytojcjmjohibpaaa
set_option linter.unusedSimpArgs false
set_option linter.unusedVariables false
open Go.RowKit

/-- The cells of the head that bytes begin with. -/
def hdOf (xs : List Int) : Array Value := #[.int .i64 (gL xs), .int .u8 (gT xs), .int .u8 (gF xs), .int .i64 (gS xs)]

theorem hdOf_take (xs : List Int) : hdOf (xs.take 9) = hdOf xs := by rw [hdOf, gL_take, gT_take, gF_take, gS_take]; rfl
theorem gives_hd {xs : List Int} {L T F Z : Int} (hL : L = gL xs) (hT : T = gT xs) (hF : F = gF xs) (hZ : Z = gS xs) {w : World} : ∀ (e : Ending) (w' : World), GivesHd (xs.take 9) w e w' → (∃ E, e = .returned (.tuple #[.agg #[.int .i64 L, .int .u8 T, .int .u8 F, .int .i64 Z], .int .i64 E])) ∧ Below w.heap.size w w' := by
  rintro e w' ⟨rfl, hb⟩
  subst hL hT hF hZ
  exact ⟨⟨_, by rw [gL_take, gT_take, gF_take, gS_take]⟩, hb⟩

set_option maxRecDepth 100000 in
set_option maxHeartbeats 1600000 in
theorem sp_begun (S : ByteArray) (w : World) :
    Calls Try.prog 23 #[.string S] w fun e w' => e = .returned (.tuple #[.agg (hdOf (bts S)), .int .i64 (9 + gL (bts S))]) ∧ Below w.heap.size w w' := by
  have hz := run_zero_is hd_zero
  have hbd := gL_bd (bts_all S)
  have h0 := hbd.1
  have h1 := hbd.2
  clear hbd
  rw [hdOf]
  obtain ⟨L, hL⟩ : ∃ L, L = gL (bts S) := ⟨_, rfl⟩
  obtain ⟨T, hT⟩ : ∃ L, L = gT (bts S) := ⟨_, rfl⟩
  obtain ⟨F, hF⟩ : ∃ L, L = gF (bts S) := ⟨_, rfl⟩
  obtain ⟨Z, hZ⟩ : ∃ L, L = gS (bts S) := ⟨_, rfl⟩
  rw [← hL] at h0 h1
  rw [← hL, ← hT, ← hF, ← hZ]
  have HL := hide hL
  have HT := hide hT
  have HF := hide hF
  have HS := hide hZ
  clear hL hT hF hZ
  by_cases h9 : (9 : Int) < (S.size : Int)
  · have hT : bts (S.extract 0 9) = (bts S).take 9 := by rw [bts_extract, List.drop_zero]
    have hc := Lib.run_convert_string_bytes (P := Try.prog) (w.alloc (.cells #[.int .i64 0, .int .u8 0, .int .u8 0, .int .i64 0] 49)) 9 24 5 (S.extract 0 9) Try.underlying9 Try.underlying24 Try.underlying5
    have HR := hide (bw_rb (w.alloc (.cells #[.int .i64 0, .int .u8 0, .int .u8 0, .int .i64 0] 49)) (S.extract 0 9))
    have B1 := hide (((Below.refl w.heap.size w).alloc (Nat.le_refl _) (.cells #[.int .i64 0, .int .u8 0, .int .u8 0, .int .i64 0] 49)).trans ((bw_below (w.alloc (.cells #[.int .i64 0, .int .u8 0, .int .u8 0, .int .i64 0] 49)) 5 (S.extract 0 9)).mono (by simp)))
    have K1 := hide ((BlkIs.new w 49 #[.int .i64 0, .int .u8 0, .int .u8 0, .int .i64 0]).keep (bw_below (w.alloc (.cells #[.int .i64 0, .int .u8 0, .int .u8 0, .int .i64 0] 49)) 5 (S.extract 0 9)))
    rw [hT, show (w.alloc (.cells #[.int .i64 0, .int .u8 0, .int .u8 0, .int .i64 0] 49)).heap.size = w.heap.size + 1 by simp] at HR
    obtain ⟨n9, hn9⟩ : ∃ n, n = (S.extract 0 9).size := ⟨_, rfl⟩
    rw [← hn9] at hc HR
    clear hn9 hT
    generalize Lib.bytesWorld (w.alloc (.cells #[.int .i64 0, .int .u8 0, .int .u8 0, .int .i64 0] 49)) 5 (S.extract 0 9) = w1 at hc HR B1 K1
    generalize grownCap (w.alloc (.cells #[.int .i64 0, .int .u8 0, .int .u8 0, .int .i64 0] 49)) n9 0 5 = cp at hc
    have HG := hide ((fh_Get (some ⟨w.heap.size + 1, 0, none⟩) n9 cp _ w1 HR.out).mono (gives_hd HL.out HT.out HF.out HS.out))
    go_enter Try.func23, Try.ntmps23
    go_wp2_with fail
    clear hc HR h9
    refine HG.out.mono ?_
    rintro e w2 ⟨⟨E, rfl⟩, hb2⟩
    have K2 := hide (K1.out.keep hb2)
    have B2 := hide (B1.out.trans (hb2.mono B1.out.size))
    obtain ⟨g, hg⟩ : ∃ g, g = w.heap.size := ⟨_, rfl⟩
    rw [← hg] at K2 ⊢
    have LG := hide (Nat.le_of_eq hg.symm)
    clear hb2 hg K1 B1 HG
    go_wp2_with fail
    have K3 := hide (K2.out.alloc (.cells #[.int .i64 L, .int .u8 T, .int .u8 F, .int .i64 Z] 49))
    have K4 := hide (BlkIs.new w2 49 #[.int .i64 L, .int .u8 T, .int .u8 F, .int .i64 Z])
    have B3 := hide (B2.out.alloc B2.out.size (.cells #[.int .i64 L, .int .u8 T, .int .u8 F, .int .i64 Z] 49))
    obtain ⟨y, hy⟩ : ∃ y, y = w2.heap.size := ⟨_, rfl⟩
    rw [← hy] at K4 ⊢
    have NE := hide (show g ≠ y by have := K2.out.lt; omega)
    generalize w2.alloc (.cells #[.int .i64 L, .int .u8 T, .int .u8 F, .int .i64 Z] 49) = w3 at K3 K4 B3 ⊢
    clear hy K2 B2
    obtain ⟨p0, p1, p2, p3⟩ := hd_cells K4.out
    obtain ⟨q0, q1, q2, q3⟩ := hd_cells K3.out
    have f0 := K3.out.frozen 0
    have f1 := K3.out.frozen 1
    have f2 := K3.out.frozen 2
    have f3 := K3.out.frozen 3
    have ne1 : g ≠ y := NE.out
    have ne2 : ¬ y = g := fun e => NE.out e.symm
    have ne3 : ¬ g = y := NE.out
    go_region
    all_goals
      have HK9 := hide (((((K3.out.put 0 (.int .i64 L)).put 1 (.int .u8 T)).put 2 (.int .u8 F)).put 3 (.int .i64 Z)).drew)
      have HB9 := hide (((((B3.out.setCell (p := ⟨g, 0, none⟩) LG.out (.int .i64 L)).setCell (p := ⟨g, 1, none⟩) LG.out (.int .u8 T)).setCell (p := ⟨g, 2, none⟩) LG.out (.int .u8 F)).setCell (p := ⟨g, 3, none⟩) LG.out (.int .i64 Z)).drew)
      clear p0 p1 p2 p3 q0 q1 q2 q3 f0 f1 f2 f3
      go_wp2_with fail
      exact bodyPost_ret (results_hd rfl _ _ g _ _ _ _ rfl HK9.out _ rfl) rfl ⟨rfl, HB9.out⟩
  · have h9 : (S.size : Int) ≤ 9 := by omega
    have hT : bts S = (bts S).take 9 := by rw [List.take_of_length_le (by rw [bts_len]; omega)]
    have hc := Lib.run_convert_string_bytes (P := Try.prog) (w.alloc (.cells #[.int .i64 0, .int .u8 0, .int .u8 0, .int .i64 0] 49)) 9 24 5 S Try.underlying9 Try.underlying24 Try.underlying5
    have HR := hide (bw_rb (w.alloc (.cells #[.int .i64 0, .int .u8 0, .int .u8 0, .int .i64 0] 49)) S)
    have B1 := hide (((Below.refl w.heap.size w).alloc (Nat.le_refl _) (.cells #[.int .i64 0, .int .u8 0, .int .u8 0, .int .i64 0] 49)).trans ((bw_below (w.alloc (.cells #[.int .i64 0, .int .u8 0, .int .u8 0, .int .i64 0] 49)) 5 S).mono (by simp)))
    have K1 := hide ((BlkIs.new w 49 #[.int .i64 0, .int .u8 0, .int .u8 0, .int .i64 0]).keep (bw_below (w.alloc (.cells #[.int .i64 0, .int .u8 0, .int .u8 0, .int .i64 0] 49)) 5 S))
    rw [hT, show (w.alloc (.cells #[.int .i64 0, .int .u8 0, .int .u8 0, .int .i64 0] 49)).heap.size = w.heap.size + 1 by simp] at HR
    obtain ⟨n9, hn9⟩ : ∃ n, n = S.size := ⟨_, rfl⟩
    rw [← hn9] at hc HR
    clear hn9 hT
    generalize Lib.bytesWorld (w.alloc (.cells #[.int .i64 0, .int .u8 0, .int .u8 0, .int .i64 0] 49)) 5 S = w1 at hc HR B1 K1
    generalize grownCap (w.alloc (.cells #[.int .i64 0, .int .u8 0, .int .u8 0, .int .i64 0] 49)) n9 0 5 = cp at hc
    have HG := hide ((fh_Get (some ⟨w.heap.size + 1, 0, none⟩) n9 cp _ w1 HR.out).mono (gives_hd HL.out HT.out HF.out HS.out))
    go_enter Try.func23, Try.ntmps23
    go_wp2_with fail
    clear hc HR h9
    refine HG.out.mono ?_
    rintro e w2 ⟨⟨E, rfl⟩, hb2⟩
    have K2 := hide (K1.out.keep hb2)
    have B2 := hide (B1.out.trans (hb2.mono B1.out.size))
    obtain ⟨g, hg⟩ : ∃ g, g = w.heap.size := ⟨_, rfl⟩
    rw [← hg] at K2 ⊢
    have LG := hide (Nat.le_of_eq hg.symm)
    clear hb2 hg K1 B1 HG
    go_wp2_with fail
    have K3 := hide (K2.out.alloc (.cells #[.int .i64 L, .int .u8 T, .int .u8 F, .int .i64 Z] 49))
    have K4 := hide (BlkIs.new w2 49 #[.int .i64 L, .int .u8 T, .int .u8 F, .int .i64 Z])
    have B3 := hide (B2.out.alloc B2.out.size (.cells #[.int .i64 L, .int .u8 T, .int .u8 F, .int .i64 Z] 49))
    obtain ⟨y, hy⟩ : ∃ y, y = w2.heap.size := ⟨_, rfl⟩
    rw [← hy] at K4 ⊢
    have NE := hide (show g ≠ y by have := K2.out.lt; omega)
    generalize w2.alloc (.cells #[.int .i64 L, .int .u8 T, .int .u8 F, .int .i64 Z] 49) = w3 at K3 K4 B3 ⊢
    clear hy K2 B2
    obtain ⟨p0, p1, p2, p3⟩ := hd_cells K4.out
    obtain ⟨q0, q1, q2, q3⟩ := hd_cells K3.out
    have f0 := K3.out.frozen 0
    have f1 := K3.out.frozen 1
    have f2 := K3.out.frozen 2
    have f3 := K3.out.frozen 3
    have ne1 : g ≠ y := NE.out
    have ne2 : ¬ y = g := fun e => NE.out e.symm
    have ne3 : ¬ g = y := NE.out
    go_region
    all_goals
      have HK9 := hide (((((K3.out.put 0 (.int .i64 L)).put 1 (.int .u8 T)).put 2 (.int .u8 F)).put 3 (.int .i64 Z)).drew)
      have HB9 := hide (((((B3.out.setCell (p := ⟨g, 0, none⟩) LG.out (.int .i64 L)).setCell (p := ⟨g, 1, none⟩) LG.out (.int .u8 T)).setCell (p := ⟨g, 2, none⟩) LG.out (.int .u8 F)).setCell (p := ⟨g, 3, none⟩) LG.out (.int .i64 Z)).drew)
      clear p0 p1 p2 p3 q0 q1 q2 q3 f0 f1 f2 f3
      go_wp2_with fail
      exact bodyPost_ret (results_hd rfl _ _ g _ _ _ _ rfl HK9.out _ rfl) rfl ⟨rfl, HB9.out⟩
end Go.Proofs.Ytojcjmjohibpaaa
