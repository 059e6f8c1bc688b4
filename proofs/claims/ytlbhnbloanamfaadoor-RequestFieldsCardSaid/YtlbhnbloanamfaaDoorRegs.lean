/-
  Words for regions: a slice of bytes cut at its head.
-/
import Derived.Test.YtlbhnbloanamfaaDoorRegW
import Derived.Test.YtlbhnbloanamfaaDoorBytes2
namespace Go.Proofs.YtlbhnbloanamfaaDoor
set_option linter.unusedSimpArgs false
set_option linter.unusedVariables false
open Go.RowKit

theorem u8_size1 : (Tryd.prog.info? (Tryd.prog.elem 59)).map (·.size) = some 1 := by kernel_rfl
theorem u8_under : Tryd.prog.underlying 59 = some (.slice (Tryd.prog.elem 59)) := by kernel_rfl
/-- b[m:] of bytes that read as a list. -/
theorem slice_low {w : World} {A : Option Addr} {n cap : Nat} {xs : List Int} (h : RB w A n xs) (hc : n ≤ cap) (hnil : A = none → cap = 0) (m : Nat) (hm : m ≤ n) :
    ∃ Q, (∀ w', (Instr.slice 59 (.slice A n cap) (some (.int .i64 (m : Int))) none none).run Tryd.prog w' = .ok (.slice Q (n - m) (cap - m)) w') ∧ RB w Q (n - m) (xs.drop m) ∧ (Q = none → cap - m = 0) := by
  have hr : ∀ w', (Instr.slice 59 (.slice A n cap) (some (.int .i64 (m : Int))) none none).run Tryd.prog w' = .ok (sliced A m n cap 1) w' := by
    intro w'
    rw [run_slice_l w' 59 A n cap u8_under .i64 (m : Int) (by omega) (by omega), run_size_is u8_size1]
    rfl
  by_cases he : n = m
  · subst he
    have hx : xs.drop n = [] := List.drop_eq_nil_of_le (by rw [h.1]; exact Nat.le_refl _)
    rw [hx, Nat.sub_self]
    cases A with
    | none =>
      have := hnil rfl
      subst this
      have : n = 0 := by omega
      subst this
      exact ⟨none, fun w' => by rw [hr w']; rfl, RB.nothing _ _, fun _ => rfl⟩
    | some a =>
      by_cases hcm : cap = n
      · exact ⟨some a, fun w' => by rw [hr w']; simp [sliced, hcm], RB.nothing _ _, fun h => by cases h⟩
      · exact ⟨some (a.add n), fun w' => by rw [hr w']; simp [sliced, hcm], RB.nothing _ _, fun h => by cases h⟩
  · obtain ⟨b, off, rfl, _, _⟩ := h.2.1 (by omega)
    have hcm : ¬ cap = m := by omega
    exact ⟨some ⟨b, off + m, none⟩, fun w' => by rw [hr w']; simp [sliced, hcm, Addr.add], h.cut hm, fun h => by cases h⟩
end Go.Proofs.YtlbhnbloanamfaaDoor
