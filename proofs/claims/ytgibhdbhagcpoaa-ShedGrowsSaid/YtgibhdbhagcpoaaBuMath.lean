/-
  Layer 21: buckets as plain data: what the calls answer, and their laws. No program here.
-/
import Derived.Test.YtgibhdbhagcpoaaKit
import Derived.IntWalk
namespace Go.Proofs.Ytgibhdbhagcpoaa
set_option linter.unusedSimpArgs false
set_option linter.unusedVariables false
open Go.RowKit

/-- A bucket: burst, rate, per, level, now. -/
structure Bu where
  u : Int
  r : Int
  p : Int
  l : Int
  n : Int
deriving DecidableEq
/-- Its cells. -/
def Bu.cs (b : Bu) : Array Value := #[.int .i64 b.u, .int .i64 b.r, .int .i64 b.p, .int .i64 b.l, .int .i64 b.n]
theorem Bu.cs_one (b : Bu) : b.cs.all (·.oneCell') = true := by simp [Bu.cs, Value.oneCell']
/-- It may be. -/
def Bu.Ok (b : Bu) : Prop := 1 ≤ b.u ∧ b.u ≤ 1000 ∧ 0 ≤ b.r ∧ b.r ≤ 1000 ∧ 1 ≤ b.p ∧ b.p ≤ 1000 ∧ 0 ≤ b.n ∧ b.n ≤ 1099511627776 ∧ 0 ≤ b.l ∧ b.l ≤ b.u * b.p
instance (b : Bu) : Decidable b.Ok := by unfold Bu.Ok; infer_instance
def okB (b : Bu) : Bool := decide b.Ok
theorem okB_iff {b : Bu} : okB b = true ↔ b.Ok := decide_eq_true_iff
theorem okB_no {b : Bu} : okB b = false ↔ ¬ b.Ok := decide_eq_false_iff_not
def chkB (b : Bu) : Int := if okB b then 0 else 8
theorem chkB_yes {b : Bu} (h : okB b = true) : chkB b = 0 := by rw [chkB, h]; rfl
theorem chkB_no {b : Bu} (h : okB b = false) : chkB b = 8 := by rw [chkB, h]; rfl
/-- The number from a to b that is next to n. -/
def nearI (n a b : Int) : Int := min (max n a) b
/-- A bucket whose parts are drawn into their bounds. -/
def bndB (b : Bu) : Bu := ⟨nearI b.u 1 1000, nearI b.r 0 1000, nearI b.p 1 1000, nearI b.l 0 (nearI b.u 1 1000 * nearI b.p 1 1000), nearI b.n 0 1099511627776⟩
theorem near_in {n a b : Int} (h : a ≤ b) : a ≤ nearI n a b ∧ nearI n a b ≤ b := by unfold nearI; omega
theorem near_iff {n a b : Int} (h : a ≤ b) : n = nearI n a b ↔ a ≤ n ∧ n ≤ b := by unfold nearI; omega
theorem mul_in {u p : Int} (h1 : 1 ≤ u) (h2 : u ≤ 1000) (h3 : 1 ≤ p) (h4 : p ≤ 1000) : 1 ≤ u * p ∧ u * p ≤ 1000000 := by
  constructor
  · have : 1 * 1 ≤ u * p := Int.mul_le_mul h1 h3 (by omega) (by omega)
    omega
  · have : u * p ≤ 1000 * 1000 := Int.mul_le_mul h2 h4 (by omega) (by omega)
    omega
theorem ok_bnd (b : Bu) : okB b = decide (b = bndB b) := by
  rw [Bool.eq_iff_iff, okB_iff, decide_eq_true_iff]
  obtain ⟨u, r, p, l, n⟩ := b
  have hu := near_in (n := u) (show (1 : Int) ≤ 1000 by omega)
  have hp := near_in (n := p) (show (1 : Int) ≤ 1000 by omega)
  have hm := mul_in hu.1 hu.2 hp.1 hp.2
  simp only [bndB, Bu.mk.injEq, Bu.Ok]
  rw [near_iff (n := u) (by omega), near_iff (n := r) (by omega), near_iff (n := p) (by omega), near_iff (n := n) (by omega), near_iff (n := l) (by omega)]
  constructor
  · rintro ⟨a1, a2, a3, a4, a5, a6, a7, a8, a9, a10⟩
    rw [← (near_iff (n := u) (a := 1) (b := 1000) (by omega)).2 ⟨a1, a2⟩, ← (near_iff (n := p) (a := 1) (b := 1000) (by omega)).2 ⟨a5, a6⟩]
    exact ⟨⟨a1, a2⟩, ⟨a3, a4⟩, ⟨a5, a6⟩, ⟨a9, a10⟩, ⟨a7, a8⟩⟩
  · rintro ⟨⟨a1, a2⟩, ⟨a3, a4⟩, ⟨a5, a6⟩, ⟨a9, a10⟩, ⟨a7, a8⟩⟩
    rw [← (near_iff (n := u) (a := 1) (b := 1000) (by omega)).2 ⟨a1, a2⟩, ← (near_iff (n := p) (a := 1) (b := 1000) (by omega)).2 ⟨a5, a6⟩] at a10
    exact ⟨a1, a2, a3, a4, a5, a6, a7, a8, a9, a10⟩

/-- At: time goes on. -/
def Goes (b : Bu) (t : Int) : Prop := b.Ok ∧ b.n < t ∧ t ≤ 1099511627776
instance (b : Bu) (t : Int) : Decidable (Goes b t) := by unfold Goes; infer_instance
def atB (b : Bu) (t : Int) : Bu := if Goes b t then { b with l := min (b.l + b.r * (t - b.n)) (b.u * b.p), n := t } else b
theorem atB_yes {b : Bu} {t : Int} (h : Goes b t) : atB b t = ⟨b.u, b.r, b.p, min (b.l + b.r * (t - b.n)) (b.u * b.p), t⟩ := if_pos h
theorem atB_no {b : Bu} {t : Int} (h : ¬ Goes b t) : atB b t = b := if_neg h
/-- Has. -/
def hasB (b : Bu) : Int := if okB b then b.l / b.p else 0
theorem hasB_yes {b : Bu} (h : okB b = true) : hasB b = b.l / b.p := by rw [hasB, h]; rfl
theorem hasB_no {b : Bu} (h : okB b = false) : hasB b = 0 := by rw [hasB, h]; rfl
/-- Take. -/
def takB (b : Bu) (t : Int) : Bu × Bool := if hasB (atB b t) < 1 then (atB b t, false) else ({ atB b t with l := (atB b t).l - (atB b t).p }, true)
/-- Wait. -/
def waitB (b : Bu) (t : Int) : Int :=
  if okB (atB b t) = false then -1
  else if 0 < hasB (atB b t) then 0
  else if (atB b t).r = 0 then -1
  else if 1099511627776 < (atB b t).n + ((atB b t).p - (atB b t).l + (atB b t).r - 1) / (atB b t).r then -1
  else ((atB b t).p - (atB b t).l + (atB b t).r - 1) / (atB b t).r
theorem rate_in {r d : Int} (h0 : 0 ≤ r) (h1 : r ≤ 1000) (h2 : 0 ≤ d) (h3 : d ≤ 1099511627776) : 0 ≤ r * d ∧ r * d ≤ 1099511627776000 := by
  constructor
  · exact Int.mul_nonneg h0 h2
  · have : r * d ≤ 1000 * 1099511627776 := Int.mul_le_mul h1 h3 h2 (by omega)
    omega
/-- What may be still may be. -/
theorem at_ok {b : Bu} (t : Int) (h : b.Ok) : (atB b t).Ok := by
  by_cases hg : Goes b t
  · rw [atB_yes hg]
    obtain ⟨_, g1, g2⟩ := hg
    obtain ⟨a1, a2, a3, a4, a5, a6, a7, a8, a9, a10⟩ := h
    have hm := mul_in a1 a2 a5 a6
    have hr := rate_in (d := t - b.n) a3 a4 (by omega) (by omega)
    refine ⟨a1, a2, a3, a4, a5, a6, ?_, ?_, ?_, ?_⟩ <;> simp only <;> omega
  · rw [atB_no hg]; exact h
theorem at_same {b : Bu} (t : Int) : (atB b t).u = b.u ∧ (atB b t).r = b.r ∧ (atB b t).p = b.p := by
  unfold atB; split <;> exact ⟨rfl, rfl, rfl⟩
theorem at_okB (b : Bu) (t : Int) : okB (atB b t) = okB b := by
  by_cases h : b.Ok
  · rw [okB_iff.2 h, okB_iff.2 (at_ok t h)]
  · rw [atB_no (fun hg => h hg.1)]
theorem div_in {l p u : Int} (h0 : 0 ≤ l) (h1 : l ≤ u * p) (hp : 1 ≤ p) : 0 ≤ l / p ∧ l / p ≤ u := by
  refine ⟨Int.ediv_nonneg h0 (by omega), ?_⟩
  have : l / p ≤ (u * p) / p := Int.ediv_le_ediv (by omega) h1
  rwa [Int.mul_ediv_cancel _ (by omega)] at this
theorem has_pos {b : Bu} (h : b.Ok) : 1 ≤ hasB b ↔ b.p ≤ b.l := by
  rw [hasB_yes (okB_iff.2 h)]
  obtain ⟨a1, a2, a3, a4, a5, a6, a7, a8, a9, a10⟩ := h
  rw [Int.le_ediv_iff_mul_le (by omega)]
  omega
end Go.Proofs.Ytgibhdbhagcpoaa
