/-
  Layer 13: small functions: isLong, isTick, in, what Check asks of an item, the order of two ticks; slices.Clone of settings.
-/
import Derived.Test.YtjfdlgmdlfbeoaaUkMem
import Derived.Lib.MinMax
import Derived.IntWalk
namespace Go.Proofs.Ytjfdlgmdlfbeoaa
set_option linter.unusedSimpArgs false
set_option linter.unusedVariables false
open Go.RowKit

theorem longB_yes {l : List Pr} {n : Nat} (h : l.length = n) (h2 : 8 < (n : Int)) : longB l = true := by subst h; exact decide_eq_true h2
theorem longB_no {l : List Pr} {n : Nat} (h : l.length = n) (h2 : ¬ 8 < (n : Int)) : longB l = false := by subst h; exact decide_eq_false h2
theorem tickB_lo {n : Int} (h : ¬ 0 ≤ n) : tickB n = false := by simp [tickB]; omega
theorem tickB_hi {n : Int} (h : ¬ n ≤ 1099511627776) : tickB n = false := by simp [tickB]; omega
theorem tickB_in {n : Int} (h : 0 ≤ n) (h2 : n ≤ 1099511627776) : tickB n = true := by simp [tickB, h, h2]
theorem tickB_bd {n : Int} (h : tickB n = true) : 0 ≤ n ∧ n ≤ 1099511627776 := by simpa [tickB] using h

theorem uk_isLong (A : Option Addr) (n c : Nat) (l : List Pr) (w : World) (hl : PL w A n c l) :
    Calls Try.prog 26 #[.slice A n c] w fun e w' => e = .returned (.bool (longB l)) ∧ w = w' := by
  have hle := hl.len
  clear hl
  by_cases h : 8 < (n : Int)
  · rw [longB_yes hle h]
    clear hle
    go_enter Try.func26, Try.ntmps26
    go_wp2
    go_ret
    exact ⟨rfl, rfl⟩
  · rw [longB_no hle h]
    clear hle
    go_enter Try.func26, Try.ntmps26
    go_wp2
    go_ret
    exact ⟨rfl, rfl⟩
theorem uk_isTick (n : Int) (w : World) : Calls Try.prog 27 #[.int .i64 n] w fun e w' => e = .returned (.bool (tickB n)) ∧ w = w' := by
  by_cases h : 0 ≤ n
  · by_cases h2 : n ≤ 1099511627776
    · rw [tickB_in h h2]
      go_enter Try.func27, Try.ntmps27
      go_wp2
      go_ret
      exact ⟨rfl, rfl⟩
    · rw [tickB_hi h2]
      go_enter Try.func27, Try.ntmps27
      go_wp2
      go_ret
      exact ⟨rfl, rfl⟩
  · rw [tickB_lo h]
    go_enter Try.func27, Try.ntmps27
    go_wp2
    go_ret
    exact ⟨rfl, rfl⟩
theorem rk_in (n : Int) (w : World) : Calls Try.prog 30 #[.int .i64 n] w fun e w' => e = .returned (.bool (tickB n)) ∧ w = w' := by
  by_cases h : 0 ≤ n
  · by_cases h2 : n ≤ 1099511627776
    · rw [tickB_in h h2]
      go_enter Try.func30, Try.ntmps30
      go_wp2
      go_ret
      exact ⟨rfl, rfl⟩
    · rw [tickB_hi h2]
      go_enter Try.func30, Try.ntmps30
      go_wp2
      go_ret
      exact ⟨rfl, rfl⟩
  · rw [tickB_lo h]
    go_enter Try.func30, Try.ntmps30
    go_wp2
    go_ret
    exact ⟨rfl, rfl⟩

theorem uk_c1 (x : It) (A : Option Addr) (c : Nat) (w : World) (hl : PL w A x.ps.length c x.ps) :
    Calls Try.prog 32 #[.agg #[.slice A x.ps.length c, .int .i64 x.t]] w fun e w' => e = .returned (.bool (longB x.ps)) ∧ Below w.heap.size w w' := by
  have HL := hide (uk_isLong A x.ps.length c x.ps _ (hl.alloc (.cells #[.slice A x.ps.length c, .int .i64 x.t] 61)))
  clear hl
  generalize longB x.ps = b at *
  go_enter Try.func32, Try.ntmps32
  go_wp2_with (go_at_call 26; refine HL.out.mono ?_; rintro e w2 ⟨rfl, rfl⟩)
  go_ret
  exact ⟨rfl, bel1 _ _⟩
theorem uk_c2 (x : It) (A : Option Addr) (n c : Nat) (w : World) :
    Calls Try.prog 33 #[.agg #[.slice A n c, .int .i64 x.t]] w fun e w' => e = .returned (.bool (!tickB x.t)) ∧ Below w.heap.size w w' := by
  have HL := hide (fun w => uk_isTick x.t w)
  generalize tickB x.t = b at *
  go_enter Try.func33, Try.ntmps33
  go_wp2_with (go_at_call 27; refine (HL.out _).mono ?_; rintro e w2 ⟨rfl, rfl⟩)
  go_ret
  exact ⟨rfl, bel1 _ _⟩

def cmpI (a b : Int) : Int := if a < b then -1 else if b < a then 1 else 0
theorem cmp_isNaN (a : Int) (w : World) : Calls Try.prog 43 #[.int .i64 a] w fun e w' => e = .returned (.bool false) ∧ w = w' := by
  go_enter Try.func43, Try.ntmps43
  go_wp2
  go_ret
  exact ⟨by simp, rfl⟩
theorem uk_Compare (a b : Int) (w : World) : Calls Try.prog 36 #[.int .i64 a, .int .i64 b] w fun e w' => e = .returned (.int .i64 (cmpI a b)) ∧ w = w' := by
  have HA := hide (fun a w => cmp_isNaN a w)
  by_cases h : a < b
  · rw [show cmpI a b = -1 from if_pos h]
    go_enter Try.func36, Try.ntmps36
    go_wp2_with (go_at_call 43; refine (HA.out _ _).mono ?_; rintro e w2 ⟨rfl, rfl⟩)
    go_ret
    exact ⟨rfl, rfl⟩
  · by_cases h2 : b < a
    · rw [show cmpI a b = 1 by unfold cmpI; rw [if_neg h, if_pos h2]]
      go_enter Try.func36, Try.ntmps36
      go_wp2_with (go_at_call 43; refine (HA.out _ _).mono ?_; rintro e w2 ⟨rfl, rfl⟩)
      go_ret
      exact ⟨rfl, rfl⟩
    · rw [show cmpI a b = 0 by unfold cmpI; rw [if_neg h, if_neg h2]]
      go_enter Try.func36, Try.ntmps36
      go_wp2_with (go_at_call 43; refine (HA.out _ _).mono ?_; rintro e w2 ⟨rfl, rfl⟩)
      go_ret
      exact ⟨rfl, rfl⟩
theorem uk_c3 (A A' : Option Addr) (n n' c c' : Nat) (s t : Int) (w : World) :
    Calls Try.prog 35 #[.agg #[.slice A n c, .int .i64 s], .agg #[.slice A' n' c', .int .i64 t]] w fun e w' => e = .returned (.int .i64 (cmpI s t)) ∧ Below w.heap.size w w' := by
  have HL := hide (fun w => uk_Compare s t w)
  generalize cmpI s t = b at *
  go_enter Try.func35, Try.ntmps35
  go_wp2_with (go_at_call 36; refine (HL.out _).mono ?_; rintro e w2 ⟨rfl, rfl⟩)
  go_ret
  exact ⟨rfl, bel2 _ _ _⟩

/-- A call that answers a new list of settings. -/
def GivesNew (l : List Pr) (w : World) (e : Ending) (w' : World) : Prop := ∃ A c, e = .returned (.slice A l.length c) ∧ PL w' A l.length c l ∧ (∀ b off, A = some ⟨b, off, none⟩ → w.heap.size ≤ b) ∧ Below w.heap.size w w'
set_option maxHeartbeats 1600000 in
theorem uk_Clone (A : Option Addr) (n c : Nat) (l : List Pr) (w : World) (hl : PL w A n c l) (hn : (n : Int) ≤ 1000000) :
    Calls Try.prog 29 #[.slice A n c] w (GivesNew l w) := by
  have hq := fun w => Lib.run_eql_slice_nil (P := Try.prog) w 23 60 A n c 0 0 Try.underlying23
  cases A with
  | none =>
    have hc := hl.nil_ rfl
    subst hc
    have hn0 : n = 0 := by have := hl.le; omega
    subst hn0
    have hl0 := hl.len
    obtain rfl : l = [] := List.eq_nil_of_length_eq_zero hl0
    have HPL := hide hl
    clear hl
    go_enter Try.func29, Try.ntmps29
    go_wp2
    go_ret
    exact ⟨none, 0, rfl, HPL.out, (fun b off e => by cases e), Below.refl _ _⟩
  | some ad =>
    have HPL := hide hl
    have HN := hide hn
    clear hl hn
    go_enter Try.func29, Try.ntmps29
    have HO := hide (World.ownsRow_lit (size := 2) (base := w.heap.size) (e := 60) w #[] 0 (Nat.le_refl _) (Nat.zero_le _) rfl)
    have HFA := hide (HPL.out.alloc (.cells #[] 60))
    go_wp2_with (at_builtin; refine wpList_append_pl _ rfl (.tmp 5) (.tmp 6) rfl w.heap.size _ 0 [] rfl HO.out (some ad) n c l rfl HFA.out (by have := HN.out; omega) (by simp) ?_; intro v1 w1 hown1 hg1; have HO1 := hide hown1; have HG1 := hide hg1; clear hown1 hg1)
    go_ret
    obtain ⟨A1, c1, rfl, hf1⟩ := own_prs HO1.out
    have hlen := HPL.out.len
    subst hlen
    refine ⟨A1, c1, by simp, by simpa using hf1, fun b off e => ?_, own_bel HO.out (bel1 _ _) (Nat.le_refl _) (Nat.le_refl _) HG1.out⟩
    subst e
    exact (HO1.out.lt b rfl).1
end Go.Proofs.Ytjfdlgmdlfbeoaa
