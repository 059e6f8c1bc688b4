/-
  Layer 13: Late: the program's and the document's.
-/
import Derived.Test.YtjfdlgmdlfbeoaaUkSmall
import Derived.BigGuardPart
namespace Go.Proofs.Ytjfdlgmdlfbeoaa
set_option linter.unusedSimpArgs false
set_option linter.unusedVariables false
open Go.RowKit

def lateU (l : List It) (now most : Int) : Bool := match l with | [] => false | x :: _ => !decide (now < x.t) && !decide (most < 0) && decide (IntKind.u64.wrap most ≤ IntKind.u64.wrap (IntKind.u64.wrap now - IntKind.u64.wrap x.t))
theorem lateU_cons (x : It) (l : List It) (now most : Int) : lateU (x :: l) now most = (!decide (now < x.t) && !decide (most < 0) && decide (IntKind.u64.wrap most ≤ IntKind.u64.wrap (IntKind.u64.wrap now - IntKind.u64.wrap x.t))) := rfl
/-- Where no number is out of range. -/
theorem lateU_in {x : It} {l : List It} {now most : Int} (ht : tickB x.t = true) (hn : 0 ≤ now) (hn2 : now ≤ 9223372036854775807) (hm : 0 ≤ most) (hm2 : most ≤ 9223372036854775807) : lateU (x :: l) now most = decide (most ≤ now - x.t) := by
  obtain ⟨t0, t1⟩ := tickB_bd ht
  rw [lateU_cons, IntWalk.u64_in most (by omega), IntWalk.u64_in now (by omega), IntWalk.u64_in x.t (by omega)]
  by_cases h : now < x.t
  · have h2 : ¬ most ≤ now - x.t := by omega
    simp [h, h2]
  · rw [IntWalk.u64_in (now - x.t) (by omega)]
    have h3 : ¬ most < 0 := by omega
    simp [h, h3]

set_option maxRecDepth 100000 in
set_option maxHeartbeats 1600000 in
theorem uk_Late (A : Option Addr) (n c : Nat) (l : List It) (now most : Int) (w : World) (hl : IL w A n c l) (hn : (n : Int) ≤ 1000000) :
    Calls Try.prog 19 #[.slice A n c, .int .i64 now, .int .i64 most] w fun e w' => e = .returned (.bool (lateU l now most)) ∧ w = w' := by
  have hle := hl.len
  cases l with
  | nil =>
    obtain rfl : n = 0 := hle.symm
    clear hl hle
    go_enter Try.func19, Try.ntmps19
    go_wp2
    go_ret
    exact ⟨rfl, rfl⟩
  | cons x l =>
    have hpos : 0 < n := by simp at hle; omega
    obtain ⟨y, A', c', b, off, hx, rfl, hbl, c0, c1, hp⟩ := hl.round hpos
    have hxy : x = y := Option.some.inj hx
    subst hxy
    rw [show off + 0 * 2 = off by omega] at c0 c1
    have hnn : ((n : Int) == 0) = false := by simp; omega
    obtain ⟨t, ht⟩ : ∃ t, t = x.t := ⟨_, rfl⟩
    rw [← ht] at c1
    have HT := hide ht
    clear hl hle hx hp c0 ht
    by_cases h1 : now < t
    · have HE := hide (show lateU (x :: l) now most = false by rw [lateU_cons, ← HT.out]; simp [h1])
      go_enter Try.func19, Try.ntmps19
      go_wp2
      all_goals
        go_ret
        exact ⟨by rw [HE.out]; rfl, rfl⟩
    · by_cases h2 : most < 0
      · have HE := hide (show lateU (x :: l) now most = false by rw [lateU_cons]; simp [h2])
        go_enter Try.func19, Try.ntmps19
        go_wp2
        all_goals
          go_ret
          exact ⟨by rw [HE.out]; rfl, rfl⟩
      · have HE := hide (show lateU (x :: l) now most = decide (IntKind.u64.wrap most ≤ IntKind.u64.wrap (IntKind.u64.wrap now - IntKind.u64.wrap t)) by rw [lateU_cons, ← HT.out]; simp [h1, h2])
        go_enter Try.func19, Try.ntmps19
        go_wp2
        go_ret
        exact ⟨by rw [HE.out]; rfl, rfl⟩

set_option maxRecDepth 100000 in
set_option maxHeartbeats 1600000 in
theorem rk_Late (A : Option Addr) (n c : Nat) (l : List It) (now most : Int) (w : World) (hl : IL w A n c l) (hn : (n : Int) ≤ 1000000) :
    Calls Try.prog 20 #[.slice A n c, .int .i64 now, .int .i64 most] w fun e w' => e = .returned (.bool (lateU l now most)) ∧ w = w' := by
  have hle := hl.len
  cases l with
  | nil =>
    obtain rfl : n = 0 := hle.symm
    clear hl hle
    go_enter Try.func20, Try.ntmps20
    go_wp2
    go_ret
    exact ⟨rfl, rfl⟩
  | cons x l =>
    have hpos : 0 < n := by simp at hle; omega
    obtain ⟨y, A', c', b, off, hx, rfl, hbl, c0, c1, hp⟩ := hl.round hpos
    have hxy : x = y := Option.some.inj hx
    subst hxy
    rw [show off + 0 * 2 = off by omega] at c0 c1
    have hnn : ((n : Int) == 0) = false := by simp; omega
    obtain ⟨t, ht⟩ : ∃ t, t = x.t := ⟨_, rfl⟩
    rw [← ht] at c1
    have HT := hide ht
    clear hl hle hx hp c0 ht
    by_cases h1 : now < t
    · have HE := hide (show lateU (x :: l) now most = false by rw [lateU_cons, ← HT.out]; simp [h1])
      go_enter Try.func20, Try.ntmps20
      go_wp2
      all_goals
        go_ret
        exact ⟨by rw [HE.out]; rfl, rfl⟩
    · by_cases h2 : most < 0
      · have HE := hide (show lateU (x :: l) now most = false by rw [lateU_cons]; simp [h2])
        go_enter Try.func20, Try.ntmps20
        go_wp2
        all_goals
          go_ret
          exact ⟨by rw [HE.out]; rfl, rfl⟩
      · have HE := hide (show lateU (x :: l) now most = decide (IntKind.u64.wrap most ≤ IntKind.u64.wrap (IntKind.u64.wrap now - IntKind.u64.wrap t)) by rw [lateU_cons, ← HT.out]; simp [h1, h2])
        go_enter Try.func20, Try.ntmps20
        go_wp2
        go_ret
        exact ⟨by rw [HE.out]; rfl, rfl⟩
end Go.Proofs.Ytjfdlgmdlfbeoaa
