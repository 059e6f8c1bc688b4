/-
  Layer 9: whether two lists of settings are one: the program's (slices.Equal).
-/
import Derived.Test.YtjfdlgmdlfbeoaaFrEqR
namespace Go.Proofs.Ytjfdlgmdlfbeoaa
set_option linter.unusedSimpArgs false
set_option linter.unusedVariables false
open Go.RowKit

set_option maxRecDepth 100000 in
set_option maxHeartbeats 1600000 in
theorem sl_Equal (A A' : Option Addr) (n n' c c' : Nat) (l l' : List Pr) (w : World) (hfl : PL w A n c l) (hfl' : PL w A' n' c' l') (hn : (n : Int) ≤ 2000000) (hn' : (n' : Int) ≤ 2000000) :
    Calls Try.prog 41 #[.slice A n c, .slice A' n' c'] w fun e w' => e = .returned (.bool (sameP l l')) ∧ Below w.heap.size w w' := by
  obtain ⟨C, hC⟩ : ∃ C, C = sameP l l' := ⟨_, rfl⟩
  rw [← hC]
  have HCK := hide hC
  have HPL := hide hfl
  have HPL' := hide hfl'
  clear hC hfl hfl'
  by_cases hne : n = n'
  · subst hne
    have hnn : ((n : Int) == (n : Int)) = true := by simp
    go_enter Try.func41, Try.ntmps41
    go_wp2_with fail
    go_loopw [5, 13] (fun _ k wr => ∃ i : Nat, i ≤ n ∧ k = .int .i64 (i : Int) ∧ l.take i = l'.take i ∧ Below w.heap.size w wr) (fun _ k _ => n - (intOf k).toNat)
    case atStart => exact ⟨0, by omega, rfl, rfl, Below.refl _ _⟩
    case round =>
      obtain ⟨i, hi, rfl, hno, hb⟩ := hrel
      have HNO := hide hno
      have HB := hide hb
      clear hno hb
      by_cases hlt : i < n
      · have hlt' : (i : Int) < (n : Int) := by omega
        obtain ⟨f, b, off, hf, rfl, hbl, c0, c1⟩ := (HPL.out.keep HB.out).round hlt
        obtain ⟨f', b', off', hf', rfl, hbl', c0', c1'⟩ := (HPL'.out.keep HB.out).round hlt
        have HF := hide hf
        have HF' := hide hf'
        clear hf hf'
        by_cases hff : f = f'
        · subst hff
          have HT := hide (take_same HNO.out HF.out HF'.out rfl)
          go_wp2_with fail
          go_quiet (fail)
          go_wp2
          go_roundw
          case rel => exact ⟨i + 1, by omega, by go_num, HT.out, below_drewN HB.out _⟩
          case measure => simp [intOf]; omega
        · have HT := hide (take_not HF.out HF'.out hff)
          obtain h1 | ⟨h1, h2⟩ := pr_part hff
          all_goals
            clear hff
            go_wp2_with fail
            go_quiet (fail)
            go_wp2
            go_ret
            exact ⟨by rw [HCK.out, sameP_no HT.out]; rfl, below_drewN HB.out _⟩
      · have hge : ¬ (i : Int) < (n : Int) := by omega
        obtain rfl : i = n := by omega
        go_wp2
        go_ret
        refine ⟨?_, HB.out⟩
        have h1 := HNO.out
        rw [← HPL.out.len, List.take_length, HPL.out.len, ← HPL'.out.len, List.take_length] at h1
        rw [HCK.out, sameP_yes h1]; rfl
  · have hnn : ((n : Int) == (n' : Int)) = false := by simp; omega
    go_enter Try.func41, Try.ntmps41
    go_wp2
    go_ret
    refine ⟨?_, Below.refl _ _⟩
    rw [HCK.out, sameP_no (fun e => hne (by rw [← HPL.out.len, ← HPL'.out.len, e]))]
    rfl
end Go.Proofs.Ytjfdlgmdlfbeoaa
