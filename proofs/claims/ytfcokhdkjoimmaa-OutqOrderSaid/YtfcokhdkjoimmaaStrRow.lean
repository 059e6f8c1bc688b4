/-
  A text turned into bytes: the new row.
-/
import Derived.Test.YtfcokhdkjoimmaaFrStr
import Derived.Lib.ConvBytes
namespace Go.Proofs.Ytfcokhdkjoimmaa
set_option linter.unusedSimpArgs false
set_option linter.unusedVariables false
open Go.RowKit

theorem bw_below (w : World) (e : TypeId) (s : ByteArray) : Below w.heap.size w (Lib.bytesWorld w e s) :=
  ⟨by simp [Lib.bytesWorld, World.freeze, World.alloc, World.drew, -World.alloc_eq, -World.drew_eq] <;> rfl, by simp [Lib.bytesWorld, World.freeze, World.alloc, World.drew, -World.alloc_eq, -World.drew_eq] <;> rfl, by simp [Lib.bytesWorld, World.freeze, World.alloc, World.drew, -World.alloc_eq, -World.drew_eq] <;> rfl, by rw [Lib.bytesWorld_size]; omega, fun k hk => Lib.bytesWorld_at_old w e s k hk⟩
theorem bw_rb (w : World) (s : ByteArray) : RB (Lib.bytesWorld w 5 s) (some ⟨w.heap.size, 0, none⟩) s.size (bts s) := by
  refine ⟨bts_len s, fun _ => ⟨w.heap.size, 0, rfl, by rw [Lib.bytesWorld_size]; omega, fun i hi => ?_⟩, (bts_all s).getD⟩
  rw [Nat.zero_add, Lib.bytesWorld_cell w 5 s i hi]
  have hk : i < s.data.toList.length := by simpa using hi
  simp [bts, List.getD, hi]
/-- A text turned into bytes, whatever the world. -/
theorem str_row (w : World) (s : ByteArray) : ∃ cap w1, (convert 9 25 (.string s)).run Try.prog w = .ok (.slice (some ⟨w.heap.size, 0, none⟩) s.size cap) w1 ∧ RB w1 (some ⟨w.heap.size, 0, none⟩) s.size (bts s) ∧ Below w.heap.size w w1 ∧ s.size ≤ cap ∧ (s.size ≤ maxLen → cap ≤ maxLen) ∧ w.heap.size < w1.heap.size :=
  ⟨_, _, Lib.run_convert_string_bytes (P := Try.prog) w 9 25 5 s Try.underlying9 Try.underlying25 Try.underlying5, bw_rb w s, bw_below w 5 s, grownCap_ge _ _ _ _, grownCap_le_maxLen _ _ _ _, by rw [Lib.bytesWorld_size]; omega⟩
end Go.Proofs.Ytfcokhdkjoimmaa
