/-
  Lists of settings that a call answers.
-/
import Derived.Test.YtjfdlgmdlfbeoaaPrMem
namespace Go.Proofs.Ytjfdlgmdlfbeoaa
set_option linter.unusedSimpArgs false
set_option linter.unusedVariables false
open Go.RowKit

/-- A call that answers a list of settings. -/
def GivesPrs (l : List Pr) (w : World) (e : Ending) (w' : World) : Prop := ∃ A c, e = .returned (.slice A l.length c) ∧ PL w' A l.length c l ∧ Below w.heap.size w w'
/-- A block that is a list of settings. -/
theorem pl_blk {w : World} {g : Nat} {t : TypeId} {l : List Pr} (h : BlkIs w g t (pcs l).toArray) (hm : l.length ≤ maxLen) : PL w (some ⟨g, 0, none⟩) l.length l.length l :=
  ⟨rfl, Nat.le_refl _, hm, (fun e => by cases e), fun k p hp => by
    obtain ⟨q0, q1⟩ := pcs_get l k p hp
    refine ⟨g, 0, rfl, h.lt, ?_, ?_⟩
    · rw [Nat.zero_add, h.cell]; simpa using q0
    · rw [Nat.zero_add, h.cell]; simpa using q1⟩
end Go.Proofs.Ytjfdlgmdlfbeoaa
