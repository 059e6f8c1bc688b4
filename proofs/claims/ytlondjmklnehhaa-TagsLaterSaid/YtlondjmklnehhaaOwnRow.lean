/-
  Rows that a call made: what keeps them.
-/
import Derived.Test.YtlondjmklnehhaaOps
import Derived.OwnWalk
namespace Go.Proofs.Ytlondjmklnehhaa
set_option linter.unusedSimpArgs false
set_option linter.unusedVariables false
open Go.RowKit

/-- A block of another kind is not the row's. -/
theorem own_apartx {w : World} {B n x s : Nat} {e t : TypeId} {v : Value} {xs : List Value} {cs : Array Value} (h : w.ownsRow B e s v n xs) (hk : BlkIs w x t cs) (hne : t ≠ e) : v.ownBlock = none ∨ v.ownBlock ≠ some x := by
  rcases h.2 with ⟨rfl, _⟩ | ⟨g, cap, cur, rfl, _, hg, _⟩
  · exact .inl rfl
  · refine .inr fun he => ?_
    have : g = x := by simpa [Value.ownBlock] using he
    subst this
    exact hk.ne_ (show BlkIs w g e cur from hg) hne rfl
theorem own_kbx {w w' : World} {B n x s : Nat} {e : TypeId} {v : Value} {xs : List Value} (h : w.ownsRow B e s v n xs) (hk : KB (· = x) w w') (hne : v.ownBlock = none ∨ v.ownBlock ≠ some x) : w'.ownsRow B e s v n xs :=
  h.kept (row := some x) ⟨hk.os, hk.tape, hk.output, hk.size, fun k hl hn => hk.block k hl (fun e => hn (by rw [e]))⟩ hne
theorem own_low {w w' : World} {B n s : Nat} {e : TypeId} {v : Value} {xs : List Value} (h : w.ownsRow B e s v n xs) (hb : Below w.heap.size w w') : w'.ownsRow B e s v n xs :=
  h.kept (row := none) ⟨hb.os, hb.tape, hb.output, hb.size, fun i hi _ => hb.block i hi⟩ (by cases v.ownBlock <;> simp)
theorem own_bel {B B' : Nat} {e : TypeId} {size n : Nat} {v : Value} {xs : List Value} {w w' W : World} (h : W.ownsRow B e size v n xs) (hb : Below B' w W) (hB : B' ≤ B) (hB2 : B' ≤ w.heap.size) (hg : W.grownBy w' v.ownBlock) : Below B' w w' :=
  hb.grown hg (by have := hb.size; omega) fun k hk => Nat.le_trans hB (h.lt k hk).1
theorem blk_grown {w w' : World} {x : Nat} {t : TypeId} {cs : Array Value} {v : Value} (hk : BlkIs w x t cs) (hg : w.grownBy w' v.ownBlock) (hne : v.ownBlock = none ∨ v.ownBlock ≠ some x) : BlkIs w' x t cs :=
  hk.grown hg (fun e => by rcases hne with h | h <;> simp_all)

end Go.Proofs.Ytlondjmklnehhaa
