/-
  OutqCut: what is taken off at once, or in two goes.
-/
import Derived.Test.YtfcokhdkjoimmaaOqMath
namespace Go.Proofs.Ytfcokhdkjoimmaa
set_option linter.unusedSimpArgs false
set_option linter.unusedVariables false
open Go.RowKit

theorem str_app (a b : List Int) : strOfNums (a ++ b) = strOfNums a ++ strOfNums b := by
  apply Go.WideShapes.bytes_inj
  simp [strOfNums]
theorem goes_ok {q : Qu} (h : OkQ q) (x : Int) : goesN q x = min x.toNat (lenL q.ps) := by unfold goesN; rw [if_pos ((chk_ok q).2 h)]
/-- Drain of a queue that may be. -/
theorem drain_is {q : Qu} (h : OkQ q) (x : Int) : drainQ q x = ⟨dropP (goesN q x) q.ps, q.m, q.g + (goesN q x : Nat)⟩ := by
  unfold drainQ
  split
  · rename_i h0
    rw [h0, dropP_zero h.no]
    obtain ⟨ps, m, g⟩ := q
    simp
  · rfl
theorem drain_two {q : Qu} (h : OkQ q) {x y : Int} (hx : 0 ≤ x) (hy : 0 ≤ y) :
    drainQ q (x + y) = drainQ (drainQ q x) y ∧ drainB q (x + y) = drainB q x ++ drainB (drainQ q x) y := by
  have h2 := drain_ok h x
  have e1 := goes_ok h x
  have e2 := goes_ok h (x + y)
  have e3 := goes_ok h2 y
  have hd := drain_is h x
  have hl : lenL (drainQ q x).ps = lenL q.ps - goesN q x := by rw [hd]; exact dropP_len _ _
  rw [hl] at e3
  have hs : goesN q (x + y) = goesN q x + goesN (drainQ q x) y := by omega
  constructor
  · rw [drain_is h (x + y), drain_is h2 y, hs]
    rw [hd]
    simp only
    rw [dropP_two _ _ _ h.no]
    congr 1
    omega
  · unfold drainB
    rw [hs, List.take_add]
    congr 2
    rw [hd]
    exact (dropP_flat _ _).symm
theorem drain_m (q : Qu) (x : Int) : (drainQ q x).m = q.m := by unfold drainQ; split <;> rfl
theorem drain_room {q : Qu} (h : OkQ q) (x : Int) : roomQ (drainQ q x) = roomQ q + ((drainB q x).length : Nat) := by
  have h2 := drain_ok h x
  unfold roomQ
  rw [if_pos ((chk_ok _).2 h2), if_pos ((chk_ok _).2 h), drainB_len, drain_is h x]
  simp only
  rw [dropP_len]
  have := goes_le q x
  omega
end Go.Proofs.Ytfcokhdkjoimmaa
