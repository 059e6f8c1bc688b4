/-
  Layer 19: variables that are queues (written by gen19aw.py).
-/
import Derived.Test.YtfcokhdkjoimmaaOqPush
import Derived.Test.YtfcokhdkjoimmaaOqDrain
namespace Go.Proofs.Ytfcokhdkjoimmaa
set_option linter.unusedSimpArgs false
set_option linter.unusedVariables false
open Go.RowKit
/-- No text, no byte among these cells. -/
def NoTx (cs : Array Value) : Prop := ∀ (i : Nat) (s : ByteArray), cs[i]? ≠ some (.string s)
def NoU8 (cs : Array Value) : Prop := ∀ (i : Nat) (z : Int), cs[i]? ≠ some (.int .u8 z)
theorem qc_tx (A : Option Addr) (n c : Nat) (m g : Int) : NoTx #[.slice A n c, .int .i64 m, .int .i64 g] := by
  intro i s h
  match i, h with
  | 0, h => simp at h
  | 1, h => simp at h
  | 2, h => simp at h
  | i + 3, h => simp at h
theorem qc_u8 (A : Option Addr) (n c : Nat) (m g : Int) : NoU8 #[.slice A n c, .int .i64 m, .int .i64 g] := by
  intro i s h
  match i, h with
  | 0, h => simp at h
  | 1, h => simp at h
  | 2, h => simp at h
  | i + 3, h => simp at h
/-- A list of texts is kept where a block without texts is written. -/
theorem TX.onto {w w' : World} {A : Option Addr} {n c g : Nat} {l : List ByteArray} {t : TypeId} {cs : Array Value} (h : TX w A n c l) (hk : BlkIs w g t cs) (hn : NoTx cs) (kb : KB (· = g) w w') : TX w' A n c l :=
  ⟨h.len, h.le, h.max, h.nil_, fun k s hs => by
    obtain ⟨b, off, e, hlt, c0⟩ := h.at_ k s hs
    have hb : b ≠ g := by
      rintro rfl
      rw [hk.cell] at c0
      exact hn _ _ c0
    exact ⟨b, off, e, by have := kb.size; omega, (kb.cell (p := ⟨b, off + k, none⟩) hlt hb).trans c0⟩⟩
theorem RB.onto {w w' : World} {A : Option Addr} {n g : Nat} {l : List Int} {t : TypeId} {cs : Array Value} (h : RB w A n l) (hk : BlkIs w g t cs) (hn : NoU8 cs) (kb : KB (· = g) w w') : RB w' A n l :=
  ⟨h.1, fun hp => by
    obtain ⟨b, off, e, hlt, c0⟩ := h.2.1 hp
    have hb : b ≠ g := by
      rintro rfl
      have := c0 0 hp
      rw [hk.cell] at this
      exact hn _ _ this
    exact ⟨b, off, e, by have := kb.size; omega, fun i hi => (kb.cell (p := ⟨b, off + i, none⟩) hlt hb).trans (c0 i hi)⟩, h.2.2⟩
/-- A variable that holds a queue. -/
structure VQ (T : TypeId) (w : World) (b : Nat) (A : Option Addr) (n c : Nat) (q : Qu) : Prop where
  blk : BlkIs w b T #[.slice A n c, .int .i64 q.m, .int .i64 q.g]
  ql : QL w q A n c
section
variable {T : TypeId} {w w' : World} {b : Nat} {A : Option Addr} {n c : Nat} {q : Qu}
theorem VQ.keep (h : VQ T w b A n c q) (hb : Below w.heap.size w w') : VQ T w' b A n c q := ⟨h.blk.keep hb, h.ql.keep hb⟩
theorem VQ.other {g : Nat} {t : TypeId} {cs : Array Value} (h : VQ T w b A n c q) (hk : BlkIs w g t cs) (hn : NoTx cs) (kb : KB (· = g) w w') (hne : b ≠ g) : VQ T w' b A n c q :=
  ⟨kb.blk h.blk hne, ⟨h.ql.tx.onto hk hn kb, h.ql.few, h.ql.sum⟩⟩
theorem QL.onto {g : Nat} {t : TypeId} {cs : Array Value} (h : QL w q A n c) (hk : BlkIs w g t cs) (hn : NoTx cs) (kb : KB (· = g) w w') : QL w' q A n c := ⟨h.tx.onto hk hn kb, h.few, h.sum⟩
/-- A new variable: what it holds, and what is kept. -/
theorem VQ.new {z : Array Value} (h : QL w q A n c) (hk : BlkIs w' w.heap.size T #[.slice A n c, .int .i64 q.m, .int .i64 q.g]) (kb : KB (· = w.heap.size) (w.alloc (.cells z T)) w') : VQ T w' w.heap.size A n c q ∧ Below w.heap.size w w' := by
  have hb := below_kbq (bel1 w (.cells z T)) kb (Nat.le_refl _) (Nat.le_refl _)
  exact ⟨⟨hk, h.keep hb⟩, hb⟩
end
/-- The list that a queue reads as, few and short. -/
theorem ql_mk {w : World} {A : Option Addr} {n c : Nat} (q : Qu) (h : TX w A n c q.ps) (h1 : q.ps.length ≤ 10000) (h2 : lenL q.ps ≤ 100000000) : QL w q A n c := ⟨h, by rw [← h.len]; exact h1, h2⟩
end Go.Proofs.Ytfcokhdkjoimmaa
