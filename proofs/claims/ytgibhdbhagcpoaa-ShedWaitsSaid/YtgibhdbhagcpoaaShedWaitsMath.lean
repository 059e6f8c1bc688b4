/-
  ShedWaits: its mathematics.
-/
import Derived.Test.YtgibhdbhagcpoaaSdTwo
import Derived.Test.YtgibhdbhagcpoaaRuWait
namespace Go.Proofs.Ytgibhdbhagcpoaa.shedWaits
set_option linter.unusedSimpArgs false
set_option linter.unusedVariables false
open Go.RowKit

theorem many_of {x : Lk} {b : Bu} (h : (decD x b).1 = 2) : (takB b x.i).2 = false ∧ decD x b = (2, atB b x.i, secI (waitB b x.i) x.s) := by
  cases way_of x b with
  | wrong _ e => rw [e] at h; cases h
  | told _ _ e => rw [e] at h; cases h
  | away _ _ _ e => rw [e] at h; cases h
  | busy _ _ _ _ e => rw [e] at h; cases h
  | many _ _ _ _ h4 e => exact ⟨h4, by rw [e, (tak_no h4).1]⟩
  | admit _ _ _ _ _ e => rw [e] at h; cases h
/-- What is asked of the seconds. -/
structure Late (b : Bu) (i s m : Int) : Prop where
  pos : 1 ≤ m
  most : m * s ≤ 3000
  nonneg : 0 ≤ m * s
  early0 : 0 ≤ (m - 1) * s
  early1 : (m - 1) * s ≤ 3000
  m2 : m ≤ 3000
  yes : 0 < hasB (atB b (max i b.n + m * s))
  no : m = 1 ∨ hasB (atB b (max i b.n + (m - 1) * s)) = 0
theorem late {b : Bu} (h : b.Ok) {i s : Int} (hn : b.n ≤ 1073741824) (h0 : 0 ≤ i) (h1 : i ≤ 1073741824) (s0 : 1 ≤ s) (s1 : s ≤ 1000) (ht : hasB (atB b i) ≤ 0) (hr : b.r ≠ 0) : Late b i s (secI (waitB b i) s) := by
  obtain ⟨d, hd⟩ : ∃ d, d = max i b.n - b.n := ⟨_, rfl⟩
  have hd0 : 0 ≤ d := by omega
  have hmx : max i b.n = b.n + d := by omega
  have hat : atB b i = atB b (b.n + d) := by
    by_cases hin : i ≤ b.n
    · rw [atB_no (fun hg => by have := hg.2.1; omega), atB_no (fun hg => by have := hg.2.1; omega)]
    · rw [show b.n + d = i by omega]
  obtain ⟨a1, a2, a3, a4, a5, a6, a7, a8, a9, a10⟩ := id h
  have hdm : b.n + d ≤ 1073741824 := by omega
  have hl := has_later h hd0 (by omega)
  rw [hat] at ht
  have hlt : b.l + b.r * d < b.p := by have := mt hl.2 (by omega : ¬ 1 ≤ hasB (atB b (b.n + d))); omega
  have hko := ok_later h d
  have hcl : (atB b (b.n + d)).l = b.l + b.r * d := by
    rw [at_later h hd0 (by omega)]
    have : b.p ≤ b.u * b.p := by
      have := Int.mul_le_mul_of_nonneg_right a1 (show 0 ≤ b.p by omega)
      omega
    simp only
    omega
  have hcn : (atB b (b.n + d)).n = b.n + d := by rw [at_later h hd0 (by omega)]
  obtain ⟨_, e2, e3⟩ := at_same (b := b) (b.n + d)
  have hr1 : 1 ≤ b.r := by omega
  have hrd := Int.mul_nonneg a3 hd0
  obtain ⟨q0, q1⟩ := wait_in (p := b.p) (l := b.l + b.r * d) (r := b.r) (by omega) hlt a6 hr1 a4
  obtain ⟨u0, u1⟩ := up_of (x := b.p - (b.l + b.r * d)) (r := b.r) hr1
  have hw : waitB b i = (b.p - (b.l + b.r * d) + b.r - 1) / b.r := by
    rw [waitB_is, hat]
    rw [waitC_near hko (by rw [hcl, e3]; exact hlt) (by rw [e2]; exact hr1) (by rw [hcl, hcn, e2, e3]; omega), hcl, e2, e3]
  rw [hw]
  generalize (b.p - (b.l + b.r * d) + b.r - 1) / b.r = q at *
  obtain ⟨v0, v1, v2⟩ := secI_up (n := q) (s := s) q0 s0
  obtain ⟨b0, b1⟩ := secI_bd q s
  have n1 : 0 ≤ (secI q s - 1) * s := Int.mul_nonneg (by omega) (by omega)
  refine ⟨b0, by omega, by omega, n1, by omega, by omega, ?_, .inr ?_⟩
  · rw [hmx, Int.add_assoc]
    refine (has_later h (d := d + secI q s * s) (by omega) (by omega)).2 ?_
    rw [Int.mul_add]
    have := Int.mul_le_mul_of_nonneg_left v0 a3
    omega
  · rw [hmx, Int.add_assoc]
    refine has_zero (fun hc => ?_)
    have := (has_later h (d := d + (secI q s - 1) * s) (by omega) (by omega)).1 hc
    rw [Int.mul_add] at this
    have := Int.mul_le_mul_of_nonneg_left v1 a3
    omega
end Go.Proofs.Ytgibhdbhagcpoaa.shedWaits
