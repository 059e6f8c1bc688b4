/-
  Layer 25: what Run answers, in memory: two rows.
-/
import Derived.Test.YtlondjmklnehhaaTgMem
import Derived.Test.YtlondjmklnehhaaNumLies
namespace Go.Proofs.Ytlondjmklnehhaa
set_option linter.unusedSimpArgs false
set_option linter.unusedVariables false
open Go.RowKit

theorem turn_who (l : List Tg) (c : Int) : -1 ≤ (turnT l c).2 ∧ (turnT l c).2 ≤ l.length := by
  by_cases h : l.length = 0 ∨ c < 1
  · rw [turn_no h]; simp only; omega
  · have h1 := fsN_lt l l.length (by omega)
    unfold turnT
    rw [if_neg h]
    split <;> simp only <;> omega
theorem run_who : ∀ (cs : List Int) (l : List Tg), ∀ x ∈ (runT l cs).2, -1 ≤ x ∧ x ≤ l.length
  | [], l, x, h => by cases h
  | c :: cs, l, x, h => by
    rw [run_cons] at h
    simp only [List.mem_cons] at h
    rcases h with rfl | h
    · exact turn_who l c
    · have := run_who cs (turnT l c).1 x h
      rwa [turn_len] at this
theorem run_take {l : List Tg} {cs : List Int} {i : Nat} {x : Int} (h : cs[i]? = some x) : runT l (cs.take (i + 1)) = ((turnT (runT l (cs.take i)).1 x).1, (runT l (cs.take i)).2 ++ [(turnT (runT l (cs.take i)).1 x).2]) := by
  rw [List.take_add_one, h]; exact run_snoc l (cs.take i) x
/-- The tags' row and the places' row. -/
structure RnJ (E : TypeId) (w wr : World) (vs : Value) (A : Option Addr) (n c : Nat) (l : List Tg) (cs : List Int) (i : Nat) : Prop where
  ol : wr.ownsRow w.heap.size 3 1 vs i (ncs (runT l (cs.take i)).2)
  oh : wr.ownsRow w.heap.size E 4 (.slice A n c) n (flc tgF (runT l (cs.take i)).1)
  ap : ∀ x, vs.ownBlock = some x → (Value.slice A n c).ownBlock ≠ some x
  bel : Below w.heap.size w wr
/-- What Run gives. -/
def GivesR (l : List Tg) (cs : List Int) (n N : Nat) (w : World) (e : Ending) (w' : World) : Prop :=
  ∃ A c B d, e = .returned (.tuple #[.slice A n c, .slice B N d]) ∧ SL tgF w' A n c (runT l cs).1 ∧ NL .i64 w' B N d (runT l cs).2 ∧ Below w.heap.size w w'
theorem RnJ.done {E : TypeId} {w wr : World} {A B : Option Addr} {n c N d : Nat} {l : List Tg} {cs : List Int} (h : RnJ E w wr (.slice B N d) A n c l cs N) (hN : cs.length = N) (hn : (l.length : Int) ≤ 1000) :
    SL tgF wr A n c (runT l cs).1 ∧ NL .i64 wr B N d (runT l cs).2 ∧ Below w.heap.size w wr := by
  have ho := h.ol
  have hh := h.oh
  rw [List.take_of_length_le (by omega)] at ho hh
  refine ⟨SL.of_own (F := tgF) hh, nl_own ho (fun x hx => ?_), h.bel⟩
  have := run_who cs l x hx
  exact WalkArith.wf_i64 (by omega)
end Go.Proofs.Ytlondjmklnehhaa
