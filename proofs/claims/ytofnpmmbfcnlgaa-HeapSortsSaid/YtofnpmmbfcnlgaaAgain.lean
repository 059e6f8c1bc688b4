/-
  A scope whose first statement is the label that its run jumps back to: one walk serves both ways in.
-/
import Derived.ScopeJumps
namespace Go.Proofs.Ytofnpmmbfcnlgaa
set_option linter.unusedSimpArgs false
set_option linter.unusedVariables false

theorem jump_mono {l : Nat} {J J' : Act → World → Prop} {Q : Exit → Act → World → Prop} (h : ∀ a w, J a w → J' a w) : ∀ e a w, Exit.jump l J Q e a w → Exit.jump l J' Q e a w := by
  intro e a w
  cases e <;> simp only [Exit.jump] <;> first | exact id | exact fun k => ⟨k.1, h _ _ k.2⟩
theorem wp_scope_again {P : Program} {X : Code} {a : Act} {w : World} {Q : Exit → Act → World → Prop} (l : Nat) (J : Act → World → Prop) (μ : Act → World → Nat) (hJ : J a w)
    (pass : ∀ a w, J a w → X.wp P (Exit.jump l (fun a' w' => J a' w' ∧ μ a' w' < μ a w) Q) a w) : (Code.scope ((Code.label l).seq X)).wp P Q a w :=
  wp_scope_jumps l J μ (rest := Code.skip.seq X) (by simp [findLabel])
    (wp_seq (wp_label (wp_mono (pass a w hJ) (jump_mono fun _ _ h => h.1))))
    (fun a w h => wp_seq (wp_skip (pass a w h)))
end Go.Proofs.Ytofnpmmbfcnlgaa
