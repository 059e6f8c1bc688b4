/-
  HeapChanges: its walk, all ways.
-/
import Derived.Test.YtofnpmmbfcnlgaaHeapChangesWalk0
import Derived.Test.YtofnpmmbfcnlgaaHeapChangesWalk1
import Derived.Test.YtofnpmmbfcnlgaaHeapChangesWalk2
namespace Go.Proofs.Ytofnpmmbfcnlgaa.heapChanges
set_option linter.unusedSimpArgs false
set_option linter.unusedVariables false
open Go.RowKit

set_option maxRecDepth 100000 in
set_option maxHeartbeats 1600000 in
theorem walk_at (A : Option Addr) (n c : Nat) (l : List It) (x : It) (id : Int) (w : World) (hl : IL w A n c l) :
    Calls Try.prog 4 #[.slice A n c, .agg #[.int .i64 x.k, .int .i64 x.d], .int .i64 id] w fun e w' => e = .returned (.bool true) ∧ Below w.heap.size w w' := by
  have HBW := hide (bel1 w (.cells #[.int .i64 x.k, .int .i64 x.d] 24))
  have HMX := hide hl.max
  have HLE := hide hl.le
  by_cases hn : (n : Int) ≤ 60
  · rcases fst_or (ofL l) id with hf | ⟨k, hf, hp, hk, hd⟩
    · rcases Nat.eq_zero_or_pos n with h0 | h0
      · exact walk0 A n c l x id w hl hn h0 hf
      · exact walk1 A n c l x id w hl hn h0 hf
    · rw [of_len, hl.len] at hk
      exact walk2 A n c l x id w hl hn (by omega) k hf hp hk hd
  · have hn' : (60 : Int) < (n : Int) := by omega
    clear hl hn
    go_enter Try.func4, Try.ntmps4
    go_wp2_with fail
    refine (aw_heap _).mono ?_
    rintro e w2 ⟨rfl, hb⟩
    have HB2 := hide (HBW.out.trans (hb.mono HBW.out.size))
    clear hb
    go_wp2_with fail
    go_ret
    exact ⟨rfl, HB2.out⟩
theorem walk (A : Option Addr) (n c : Nat) (l : List It) (f1_0 f1_1 id : Int) (w : World) (hl : IL w A n c l) (_ : (Lit.int .i64 f1_0).wf = true) (_ : (Lit.int .i64 f1_1).wf = true) (_ : (Lit.int .i64 id).wf = true) :
    Calls Try.prog 4 #[.slice A n c, .agg #[.int .i64 f1_0, .int .i64 f1_1], .int .i64 id] w fun e w' => e = .returned (.bool true) ∧ Below w.heap.size w w' := walk_at A n c l ⟨f1_0, f1_1⟩ id w hl
end Go.Proofs.Ytofnpmmbfcnlgaa.heapChanges
