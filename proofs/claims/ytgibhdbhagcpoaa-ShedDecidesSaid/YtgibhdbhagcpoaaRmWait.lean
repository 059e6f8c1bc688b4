/-
  Layer 18: the document's Wait.
-/
import Derived.Test.YtgibhdbhagcpoaaWaitMath
import Derived.Test.YtgibhdbhagcpoaaRows
import Derived.Test.YtgibhdbhagcpoaaChecked
namespace Go.Proofs.Ytgibhdbhagcpoaa
set_option linter.unusedSimpArgs false
set_option linter.unusedVariables false
open Go.RowKit

theorem rm_Wait (t p : Int) (ht : t ≤ 9223372036854775807) (w : World) :
    Calls Try.prog 29 #[.int .i64 t, .int .i64 p] w fun e w' => e = .returned (.int .i64 (waitI t p)) ∧ w = w' := by
  obtain ⟨C, hC⟩ : ∃ C, C = waitI t p := ⟨_, rfl⟩
  rw [← hC]
  have HC := hide hC
  clear hC
  rcases Int.lt_or_le t 1 with h1 | h1
  · go_enter Try.func29, Try.ntmps29
    clear ht
    go_wp2
    go_ret
    exact ⟨by rw [HC.out, waitI_no (by omega)]; rfl, rfl⟩
  · rcases Int.lt_or_le p 1 with h2 | h2
    · go_enter Try.func29, Try.ntmps29
      clear ht
      go_wp2
      all_goals first | (exfalso; omega) | (go_ret; exact ⟨by rw [HC.out, waitI_no (by omega)]; rfl, rfl⟩)
    · have hb := waitI_bd h1 h2
      have HE := hide (wait_doc h1 h2)
      obtain ⟨q, hq⟩ : ∃ q, q = t / p := ⟨_, rfl⟩
      obtain ⟨m, hm⟩ : ∃ m, m = t % p := ⟨_, rfl⟩
      have hd : t / p = q := hq.symm
      have hd2 : t.tdiv p = q := by rw [Int.tdiv_eq_ediv_of_nonneg (by omega)]; exact hd
      have hr : t % p = m := hm.symm
      have hr2 : t.tmod p = m := by rw [Int.tmod_eq_emod_of_nonneg (by omega)]; exact hr
      have hq9 := Int.ediv_le_self p (show 0 ≤ t by omega)
      have hq0 := Int.ediv_nonneg (show 0 ≤ t by omega) (show 0 ≤ p by omega)
      rw [hd] at hq9 hq0
      rw [hd, hr] at HE
      have hp0 : ¬ p = 0 := by omega
      have hp1 : ¬ p = -1 := by omega
      have hw0 : wrap64 q = q := by unfold wrap64; omega
      by_cases hm0 : m = 0
      · have HF := hide (show waitI t p = q by rw [HE.out, if_pos hm0])
        subst hm0
        clear hb hq hm HE
        go_enter Try.func29, Try.ntmps29
        go_wp2
        all_goals first | (exfalso; omega) | (go_ret; exact ⟨by rw [HC.out, HF.out]; first | rfl | simp_all, rfl⟩)
      · have HF := hide (show waitI t p = q + 1 by rw [HE.out, if_neg hm0])
        have d1 : (m == 0) = false := by simpa using hm0
        have d2 : (m != 0) = true := by simpa using hm0
        have hq1 : q + 1 ≤ t := by have := hb.2.1; rw [HF.out] at this; exact this
        have hw2 : wrap64 (q + 1) = q + 1 := by unfold wrap64; omega
        clear hb hq hm HE hm0
        go_enter Try.func29, Try.ntmps29
        go_wp2
        all_goals first | (exfalso; omega) | (go_ret; exact ⟨by rw [HC.out, HF.out]; first | rfl | simp_all, rfl⟩)
end Go.Proofs.Ytgibhdbhagcpoaa
