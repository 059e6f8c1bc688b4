/-
  Layer 17: prefixes: strings.HasPrefix.
-/
import Derived.Test.YtdnopjopdklelaaDoorRqMath
namespace Go.Proofs.YtdnopjopdklelaaDoor
set_option linter.unusedSimpArgs false
set_option linter.unusedVariables false
open Go.RowKit

/-! ## Prefixes -/
/-- Does a text begin with another one? -/
def prefB (p s : ByteArray) : Bool := decide (p.size ≤ s.size) && decide (s.extract 0 p.size = p)
theorem rq_slHas (p s : ByteArray) (hs : (s.size : Int) ≤ 1000000) (hp : (p.size : Int) ≤ 1000000) (w : World) :
    Calls Tryd.prog 36 #[.string s, .string p] w fun e w' => e = .returned (.bool (prefB p s)) ∧ w = w' := by
  by_cases h : (p.size : Int) ≤ (s.size : Int)
  · have he := str_eq (s.extract 0 p.size) p
    obtain ⟨d, hd⟩ : ∃ d, d = decide (s.extract 0 p.size = p) := ⟨_, rfl⟩
    have HC := hide (show prefB p s = d by unfold prefB; rw [decide_eq_true (by omega), hd]; rfl)
    rw [← hd] at he
    obtain ⟨C, hC⟩ : ∃ C, C = prefB p s := ⟨_, rfl⟩
    rw [← hC] at HC ⊢
    have hle : p.size ≤ s.size := by omega
    clear hd hC
    go_enter Tryd.func36, Tryd.ntmps36
    go_wp2
    go_ret
    exact ⟨by rw [HC.out]; simp [he], rfl⟩
  · have HC := hide (show prefB p s = false by unfold prefB; rw [decide_eq_false (by omega)]; rfl)
    rw [HC.out]
    go_enter Tryd.func36, Tryd.ntmps36
    go_wp2
    go_ret
    exact ⟨rfl, rfl⟩
theorem rq_HasPrefix (p s : ByteArray) (hs : (s.size : Int) ≤ 1000000) (hp : (p.size : Int) ≤ 1000000) (w : World) :
    Calls Tryd.prog 32 #[.string s, .string p] w fun e w' => e = .returned (.bool (prefB p s)) ∧ w = w' := by
  have HC := hide (rq_slHas p s hs hp w)
  obtain ⟨C, hC⟩ : ∃ C, C = prefB p s := ⟨_, rfl⟩
  rw [← hC] at HC ⊢
  clear hC hs hp
  go_enter Tryd.func32, Tryd.ntmps32
  go_wp2_with (go_at_call 36; refine HC.out.mono ?_; rintro e w2 ⟨rfl, rfl⟩)
  go_ret
  exact ⟨rfl, rfl⟩


theorem pref_one (c : UInt8) {s : ByteArray} (h : 0 < s.size) : prefB ⟨#[c]⟩ s = decide ((bts s).getD 0 0 = (c.toNat : Int)) := by
  unfold prefB
  have h1 : (⟨#[c]⟩ : ByteArray).size = 1 := rfl
  rw [h1, decide_eq_true (show 1 ≤ s.size by omega), Bool.true_and]
  refine decide_eq_decide.2 ⟨fun e => ?_, fun e => ?_⟩
  · have := congrArg bts e
    rw [bts_extract, List.drop_zero] at this
    have h2 : (bts s).length = s.size := bts_len s
    cases hb : bts s with
    | nil => rw [hb] at h2; simp at h2; omega
    | cons a r =>
      rw [hb] at this
      simp [bts] at this
      simp [this]
  · refine bts_inj ?_
    rw [bts_extract, List.drop_zero]
    have h2 : (bts s).length = s.size := bts_len s
    cases hb : bts s with
    | nil => rw [hb] at h2; simp at h2; omega
    | cons a r =>
      rw [hb] at e
      simp [bts] at e ⊢
      exact e
end Go.Proofs.YtdnopjopdklelaaDoor
