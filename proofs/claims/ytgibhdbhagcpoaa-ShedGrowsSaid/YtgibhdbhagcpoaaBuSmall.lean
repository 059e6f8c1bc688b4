/-
  Layer 21: within, full, bounded, Check: the program's.
-/
import Derived.Test.YtgibhdbhagcpoaaBuMath
import Derived.Test.YtgibhdbhagcpoaaRegW
import Derived.Test.YtgibhdbhagcpoaaRows
import Derived.Test.YtgibhdbhagcpoaaChecked
import Derived.Lib.MinMax
import Derived.Laws.StructEq
namespace Go.Proofs.Ytgibhdbhagcpoaa
set_option linter.unusedSimpArgs false
set_option linter.unusedVariables false
open Go.RowKit

theorem bu_size : (Try.prog.info? 26).map (·.size) = some 5 := by kernel_rfl
theorem rb_size : (Try.prog.info? 25).map (·.size) = some 5 := by kernel_rfl

/-- '==' of two buckets. -/
theorem eq_bu (v w : Bu) (W : World) : (Op.equalIn 10000 26 (.agg v.cs) (.agg w.cs)).run Try.prog W = .ok (decide (v = w)) W := by
  obtain ⟨a, b, c, d, e⟩ := v
  obtain ⟨a', b', c', d', e'⟩ := w
  have u3 := Try.underlying3
  have a3 := Try.isAgg3
  have z3 := Try.sizeOf3
  have hS : Try.prog.underlying 26 = some (.struct (Try.prog.fieldsOf 26)) := by kernel_rfl
  have hp : Try.prog.stoodInHeld 26 = false := by kernel_rfl
  rw [show (10000 : Nat) = 9999 + 1 from rfl, run_equalIn_agg W 9999 26 _ _ hS hp]
  simp only [Program.fieldsOf, Try.underlying26, Bu.cs]
  go_simp
  by_cases h1 : a = a' <;> simp [h1]
  by_cases h2 : b = b' <;> simp [h2]
  by_cases h3 : c = c' <;> simp [h3]
  by_cases h4 : d = d' <;> simp [h4]
  by_cases h5 : e = e' <;> simp [h5]
theorem eq_rb (v w : Bu) (W : World) : (Op.equalIn 10000 25 (.agg v.cs) (.agg w.cs)).run Try.prog W = .ok (decide (v = w)) W := by
  obtain ⟨a, b, c, d, e⟩ := v
  obtain ⟨a', b', c', d', e'⟩ := w
  have u3 := Try.underlying3
  have a3 := Try.isAgg3
  have z3 := Try.sizeOf3
  have hS : Try.prog.underlying 25 = some (.struct (Try.prog.fieldsOf 25)) := by kernel_rfl
  have hp : Try.prog.stoodInHeld 25 = false := by kernel_rfl
  rw [show (10000 : Nat) = 9999 + 1 from rfl, run_equalIn_agg W 9999 25 _ _ hS hp]
  simp only [Program.fieldsOf, Try.underlying25, Bu.cs]
  go_simp
  by_cases h1 : a = a' <;> simp [h1]
  by_cases h2 : b = b' <;> simp [h2]
  by_cases h3 : c = c' <;> simp [h3]
  by_cases h4 : d = d' <;> simp [h4]
  by_cases h5 : e = e' <;> simp [h5]

theorem bu_within (n a b : Int) (w : World) : Calls Try.prog 31 #[.int .i64 n, .int .i64 a, .int .i64 b] w fun e w' => e = .returned (.int .i64 (nearI n a b)) ∧ w = w' := by
  go_enter Try.func31, Try.ntmps31
  go_wp2
  go_ret
  exact ⟨rfl, rfl⟩

theorem bu_full (b : Bu) (w : World) (h0 : 1 ≤ b.u * b.p) (h1 : b.u * b.p ≤ 1000000) : Calls Try.prog 25 #[.agg b.cs] w fun e w' => e = .returned (.int .i64 (b.u * b.p)) ∧ Below w.heap.size w w' := by
  obtain ⟨u, r, p, l, n⟩ := b
  simp only at h0 h1
  simp only [Bu.cs]
  go_enter Try.func25, Try.ntmps25
  go_wp2
  go_ret
  exact ⟨rfl, bel1 w _⟩

theorem bu_full_any (b : Bu) (w : World) : Calls Try.prog 25 #[.agg b.cs] w fun e w' => (∃ z : Int, e = .returned (.int .i64 z)) ∧ Below w.heap.size w w' := by
  obtain ⟨u, r, p, l, n⟩ := b
  simp only [Bu.cs]
  go_enter Try.func25, Try.ntmps25
  go_wp2
  go_ret
  exact ⟨⟨_, rfl⟩, bel1 w _⟩
end Go.Proofs.Ytgibhdbhagcpoaa
