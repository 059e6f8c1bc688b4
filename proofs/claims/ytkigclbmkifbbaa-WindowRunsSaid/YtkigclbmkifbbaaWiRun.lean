/-
  Layer 14: Run of the program.
-/
import Derived.Test.YtkigclbmkifbbaaWiPick
import Derived.Deep.QuietTactic
import Derived.BigQuiet
import Derived.BigGuardPart
import Derived.Shelf.Abstract
import Derived.Deep.CutRange
import Derived.Deep.DeepCutAuto
import Derived.StillTailTactics
namespace Go.Proofs.Ytkigclbmkifbbaa
set_option linter.unusedSimpArgs false
set_option linter.unusedVariables false
open Go.RowKit

theorem drop_at {α : Type} {l : List α} {i : Nat} {x : α} (h : l[i]? = some x) : l.drop i = x :: l.drop (i + 1) := by
  obtain ⟨hi, rfl⟩ := List.getElem?_eq_some_iff.1 h
  exact List.drop_eq_getElem_cons hi

set_option maxRecDepth 100000 in
set_option maxHeartbeats 1600000 in
theorem wi_Run (A : Option Addr) (n c : Nat) (l : List Wa) (w0 : Int) (w : World) (hl : WL w A n c l) (hn : (n : Int) ≤ 1000000) :
    Calls Try.prog 16 #[.int .i64 w0, .slice A n c] w fun e w' => e = .returned (.tuple #[.int .i64 (runR w0 l).1, .int .u32 (runR w0 l).2]) ∧ Below w.heap.size w w' := by
  have HWL := hide hl
  have HN := hide hn
  clear hl hn
  go_enter Try.func16, Try.ntmps16
  go_wp2_with fail
  go_loopw [0, 12] (fun s0 s12 wr => ∃ (i : Nat) (v : Int), i ≤ n ∧ s12 = .int .i64 (i : Int) ∧ s0 = .int .i64 v ∧ runR w0 l = runR v (l.drop i) ∧ Below w.heap.size w wr) (fun _ s12 _ => n - (intOf s12).toNat)
  case atStart => exact ⟨0, w0, by omega, rfl, rfl, rfl, Below.refl _ _⟩
  case round =>
    obtain ⟨i, v, hi, rfl, rfl, hr, hb⟩ := hrel
    have HB := hide hb
    have HR := hide hr
    clear hb hr
    by_cases hlt : i < n
    · have hlt' : (i : Int) < (n : Int) := by omega
      have him : (i : Int) < 1000000 := by have := HN.out; omega
      obtain ⟨x, b, off, hx, rfl, hbl0, e0, e1⟩ := HWL.out.round hlt
      have hd := drop_at hx
      obtain ⟨fn, hf, hq, hc⟩ := wi_pick x.k
      have HF := hide hf
      have HC := hide (hc v x.n)
      have c0 := (HB.out.cell (p := ⟨b, off + i * 2, none⟩) hbl0).trans e0
      have c1 := (HB.out.cell (p := ⟨b, off + i * 2 + 1, none⟩) hbl0).trans e1
      have hbl : b < wr.heap.size := by have := HB.out.size; omega
      have HBK := hide (BlkIs.new wr 41 #[.int .u8 x.k, .int .i64 x.n])
      have HB2 := hide (HB.out.alloc HB.out.size (.cells #[.int .u8 x.k, .int .i64 x.n] 41))
      have HE1 := hide (fun h => hd ▸ runR_go (w := v) (x := x) (l := l.drop (i + 1)) h)
      have HE2 := hide (fun h => hd ▸ runR_stop (w := v) (x := x) (l := l.drop (i + 1)) h)
      have hcd := actR_code x.k v x.n
      generalize actR x.k v x.n = r at *
      obtain ⟨r1, r2⟩ := r
      simp only at hcd HE1 HE2 HC
      clear hx hd hf hc e0 e1 hbl0
      go_upto_region 4 with (fail)
      have k0 := HBK.out.cell 0
      have k1 := HBK.out.cell 1
      simp only [List.getElem?_toArray, List.getElem?_cons_zero, List.getElem?_cons_succ] at k0 k1
      clear c0 c1
      go_quiet (first | (go_at_call 24; exact Calls.quiet_of_same (HF.out _)) | (go_at_fn fn; exact Calls.quiet_of_same (HC.out _)))
      by_cases hz : r2 = 0
      · subst hz
        go_wp2
        go_roundw
        case rel => have hw := HN.out; exact ⟨i + 1, r1, by omega, by go_num, rfl, HR.out.trans (HE1.out rfl), by simpa using below_drewN HB2.out _⟩
        case measure => have hw := HN.out; simp [intOf]; omega
      · have hz' : (r2 != 0) = true := by simpa using hz
        have HE := hide (HR.out.trans (HE2.out hz))
        go_wp2
        go_ret2
        exact ⟨by rw [HE.out]; rfl, by simpa using below_drewN HB2.out _⟩
    · have hge : ¬ (i : Int) < (n : Int) := by omega
      obtain rfl : i = n := by omega
      have HE := hide (show runR w0 l = (v, 0) by rw [HR.out, ← HWL.out.len, List.drop_length]; rfl)
      go_wp2
      go_ret2
      exact ⟨by rw [HE.out]; rfl, HB.out⟩
end Go.Proofs.Ytkigclbmkifbbaa
