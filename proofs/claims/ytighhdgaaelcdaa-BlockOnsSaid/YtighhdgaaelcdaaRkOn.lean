/-
  Layer 11: On (the document's).
-/
import Derived.Test.YtighhdgaaelcdaaRkOnA
import Derived.Test.YtighhdgaaelcdaaRkOnB
import Derived.Test.YtighhdgaaelcdaaRkOnC
import Derived.Test.YtighhdgaaelcdaaRkOnD
import Derived.Test.YtighhdgaaelcdaaRkOnE
import Derived.Test.YtighhdgaaelcdaaRkOnF
import Derived.Test.YtighhdgaaelcdaaRkOnG
namespace Go.Proofs.Ytighhdgaaelcdaa
set_option linter.unusedSimpArgs false
set_option linter.unusedVariables false
open Go.RowKit

theorem rk_chk_zero {s : Int} {d : ByteArray} {e : Bool} (h : Bk.chk ⟨s, d, e⟩ = 0) : (d.size : Int) ≤ 5000 := by
  refine chk_cases s d e _ ?_ ?_ ?_ ?_ ?_ ?_
  · intro _ h'; omega
  · intro _ _ h'; omega
  · intro _ _ _ h'; omega
  · rintro rfl rfl rfl _
    simp [show (⟨#[]⟩ : ByteArray).size = 0 from rfl]
  · intro _ _ _ h'; omega
  · intro h0 _ hd _
    omega
theorem rk_On (s : Int) (d : ByteArray) (e : Bool) (F : Fr) (A : Option Addr) (n c : Nat) (f0 : 0 ≤ F.fl) (f1 : F.fl ≤ 255) (hfz : (F.data.size : Int) ≤ 5000) (w : World) :
    Calls Try.prog 8 #[.agg #[.int .i64 s, .string d, .bool e], .agg (F.cs A n c)] w (GivesOn .i64 (onB ⟨s, d, e⟩ F) w) := by
  obtain ⟨q0, q1, q2, q3, _⟩ := fr_qs F A n c
  have hcz : (F.cs A n c).size = 12 := rfl
  obtain ⟨a, ha⟩ : ∃ a : Nat, F.fl = (a : Int) := ⟨F.fl.toNat, by omega⟩
  have ha2 : a < 256 := by omega
  rw [ha] at q1
  have hgr : Bk.grow ⟨s, d, e⟩ F = ⟨F.st, d ++ F.data, if F.ty = 1 then hasB F.fl 1 else e⟩ := rfl
  rw [ha] at hgr
  have h4a : hasB F.fl 4 = hasB (a : Int) ((4 : Nat) : Int) := by rw [ha]; rfl
  generalize F.cs A n c = cs at *
  cases on_cases s d e F with
  | bad hc r =>
    rw [r]
    by_cases h1 : F.ty = 1
    · rw [h1] at q0; exact rk_bad_1 s F.st d F.data e cs hcz q0 q2 q3 hc w
    by_cases h9 : F.ty = 9
    · rw [h9] at q0; exact rk_bad_9 s F.st d F.data e cs hcz q0 q2 q3 hc w
    exact rk_bad_x s F.ty F.st d F.data e cs hcz q0 q2 q3 hc h1 h9 w
  | far hc hp hs r =>
    rw [r]
    have hs' := strB_no.1 hs
    rcases partB_yes.1 hp with h1 | h1
    · rw [h1] at q0
      by_cases hl : F.st < 1
      · exact rk_far_lo_1 s F.st d F.data e cs hcz q0 q2 q3 hc hl w
      · exact rk_far_hi_1 s F.st d F.data e cs hcz q0 q2 q3 hc (by omega) w
    · rw [h1] at q0
      by_cases hl : F.st < 1
      · exact rk_far_lo_9 s F.st d F.data e cs hcz q0 q2 q3 hc hl w
      · exact rk_far_hi_9 s F.st d F.data e cs hcz q0 q2 q3 hc (by omega) w
  | between hc hp hz h9 r =>
    rw [r]
    by_cases h1 : F.ty = 1
    · have hs' := strB_yes.1 (hp (partB_yes.2 (.inl h1)))
      rw [h1] at q0
      exact rk_between_1 s F.st d F.data e cs hcz q0 q2 q3 hc hz hs'.1 hs'.2 w
    · exact rk_between_x s F.ty F.st d F.data e cs hcz q0 q2 q3 hc hz h1 h9 w
  | other hc hs hz h9 hne r =>
    rw [r]
    have hs' := strB_yes.1 hs
    rw [h9] at q0
    exact rk_other s F.st d F.data e cs hcz q0 q2 q3 hc hz hs'.1 hs'.2 hne w
  | alone hc hs hz h9 r =>
    rw [r]
    have hs' := strB_yes.1 hs
    rw [h9] at q0
    subst hz
    exact rk_alone F.st d F.data e cs hcz q0 q2 q3 hc hs'.1 hs'.2 w
  | nothing hc hz h1 h9 r =>
    rw [r]
    subst hz
    exact rk_nothing F.ty F.st d F.data e cs hcz q0 q2 q3 hc h1 h9 w
  | long hc hs hk hl r =>
    rw [r]
    have hs' := strB_yes.1 hs
    rcases hk with ⟨hz, h1⟩ | ⟨hz, h9, hst⟩
    · subst hz
      rw [h1] at q0
      exact rk_long_new F.st d F.data e cs hcz q0 q2 q3 a ha2 q1 hc (rk_chk_zero hc) hfz hs'.1 hs'.2 hl w
    · rw [h9] at q0
      rw [hst] at q2 hs'
      exact rk_long_on s d F.data e cs hcz q0 q2 q3 a ha2 q1 hc hz (rk_chk_zero hc) hfz hs'.1 hs'.2 hl w
  | whole hc hs hk hl h4 r =>
    rw [r, hgr]
    rw [h4a] at h4
    have hs' := strB_yes.1 hs
    rcases hk with ⟨hz, h1⟩ | ⟨hz, h9, hst⟩
    · subst hz
      rw [if_pos h1]
      rw [h1] at q0
      exact rk_whole_new F.st d F.data e cs hcz q0 q2 q3 a ha2 q1 hc (rk_chk_zero hc) hfz hs'.1 hs'.2 hl h4 w
    · rw [if_neg (by omega), hst]
      rw [h9] at q0
      rw [hst] at q2 hs'
      exact rk_whole_on s d F.data e cs hcz q0 q2 q3 a ha2 q1 hc hz (rk_chk_zero hc) hfz hs'.1 hs'.2 hl h4 w
  | more hc hs hk hl h4 r =>
    rw [r, hgr]
    rw [h4a] at h4
    have hs' := strB_yes.1 hs
    rcases hk with ⟨hz, h1⟩ | ⟨hz, h9, hst⟩
    · subst hz
      rw [if_pos h1]
      rw [h1] at q0
      exact rk_more_new F.st d F.data e cs hcz q0 q2 q3 a ha2 q1 hc (rk_chk_zero hc) hfz hs'.1 hs'.2 hl h4 w
    · rw [if_neg (by omega), hst]
      rw [h9] at q0
      rw [hst] at q2 hs'
      exact rk_more_on s d F.data e cs hcz q0 q2 q3 a ha2 q1 hc hz (rk_chk_zero hc) hfz hs'.1 hs'.2 hl h4 w
end Go.Proofs.Ytighhdgaaelcdaa
