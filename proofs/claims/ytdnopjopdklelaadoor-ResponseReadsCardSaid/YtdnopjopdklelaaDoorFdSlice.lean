/-
  Slices of fields cut: l[:k], l[k:].
-/
import Derived.Test.YtdnopjopdklelaaDoorFdMem
import Derived.Laws.Rows
namespace Go.Proofs.YtdnopjopdklelaaDoor
set_option linter.unusedSimpArgs false
set_option linter.unusedVariables false
open Go.RowKit

theorem fd_size3 : (Tryd.prog.info? (Tryd.prog.elem 24)).map (·.size) = some 3 := by kernel_rfl
theorem fd_under : Tryd.prog.underlying 24 = some (.slice (Tryd.prog.elem 24)) := by kernel_rfl
theorem fl_nothing {w : World} {A : Option Addr} {c : Nat} (hn : A = none → c = 0) (hm : c ≤ maxLen) : FL w A 0 c [] := ⟨rfl, Nat.zero_le _, hm, hn, fun k p h => by simp at h⟩
/-- l[:k]. -/
theorem fl_head {w : World} {A : Option Addr} {n c : Nat} {l : List Fd} (h : FL w A n c l) (k : Nat) (hk : k ≤ n) :
    (∀ w', (Instr.slice 24 (.slice A n c) none (some (.int .i64 (k : Int))) none).run Tryd.prog w' = .ok (.slice A k c) w') ∧ FL w A k c (l.take k) := by
  have hle := h.le
  refine ⟨fun w' => ?_, h.take hk⟩
  rw [run_slice_h w' 24 A n c fd_under .i64 (k : Int) (by omega) (by omega), run_size_is fd_size3]
  simp only [sliced, Nat.zero_mul, Nat.sub_zero, Int.toNat_zero, Int.toNat_natCast]
  cases A with
  | none => simp
  | some a =>
    have ha : a.add 0 = a := by obtain ⟨b, off, sp⟩ := a; unfold Addr.add; cases sp <;> simp
    simp [ha]
/-- l[k:]. -/
theorem fl_tail {w : World} {A : Option Addr} {n c : Nat} {l : List Fd} (h : FL w A n c l) (k : Nat) (hk : k ≤ n) :
    ∃ Q c', (∀ w', (Instr.slice 24 (.slice A n c) (some (.int .i64 (k : Int))) none none).run Tryd.prog w' = .ok (.slice Q (n - k) c') w') ∧ FL w Q (n - k) c' (l.drop k) := by
  have hle := h.le
  have hmx := h.max
  have hr : ∀ w', (Instr.slice 24 (.slice A n c) (some (.int .i64 (k : Int))) none none).run Tryd.prog w' = .ok (sliced A k n c 3) w' := by
    intro w'
    rw [run_slice_l w' 24 A n c fd_under .i64 (k : Int) (by omega) (by omega), run_size_is fd_size3]
    rfl
  by_cases he : n = k
  · subst he
    have hx : l.drop n = [] := List.drop_eq_nil_of_le (by rw [h.len]; exact Nat.le_refl _)
    rw [hx, Nat.sub_self]
    cases A with
    | none =>
      have := h.nil_ rfl
      subst this
      have : n = 0 := by omega
      subst this
      exact ⟨none, 0, fun w' => by rw [hr w']; rfl, FL.none_ _⟩
    | some a =>
      by_cases hcm : c = n
      · exact ⟨some a, 0, fun w' => by rw [hr w']; simp [sliced, hcm], fl_nothing (fun e => by cases e) (Nat.zero_le _)⟩
      · exact ⟨some (a.add (n * 3)), c - n, fun w' => by rw [hr w']; simp [sliced, hcm], fl_nothing (fun e => by cases e) (by omega)⟩
  · obtain ⟨b, off, rfl, _, _⟩ := h.at_ 0 (l[0]'(by rw [h.len]; omega)) (List.getElem?_eq_getElem _)
    have hcm : ¬ c = k := by omega
    refine ⟨some ⟨b, off + k * 3, none⟩, c - k, fun w' => by rw [hr w']; simp [sliced, hcm, Addr.add], ⟨by rw [List.length_drop, h.len], by omega, by omega, (fun e => by cases e), fun j p hp => ?_⟩⟩
    rw [List.getElem?_drop] at hp
    obtain ⟨b', off', e, hlt, q0, q1, q2⟩ := h.at_ (k + j) p hp
    injection e with e
    injection e with e1 e2
    subst e1 e2
    refine ⟨b, off + k * 3, rfl, hlt, ?_, ?_, ?_⟩
    · rw [← q0]; congr 2; omega
    · rw [← q1]; congr 2; omega
    · rw [← q2]; congr 2; omega
end Go.Proofs.YtdnopjopdklelaaDoor
