/-
  Layer 8: the program's Has.
-/
import Derived.Test.YtighhdgaaelcdaaFhMath
import Derived.Test.YtighhdgaaelcdaaOps
namespace Go.Proofs.Ytighhdgaaelcdaa
set_option linter.unusedSimpArgs false
set_option linter.unusedVariables false
open Go.RowKit

theorem fh_Has (l t f s g : Int) (w : World) : Calls Try.prog 31 #[.agg #[.int .i64 l, .int .u8 t, .int .u8 f, .int .i64 s], .int .u8 g] w fun e w' => e = .returned (.bool (hasB f g)) ∧ Below w.heap.size w w' := by
  go_enter Try.func31, Try.ntmps31
  go_wp2
  go_ret
  exact ⟨rfl, (Below.refl _ _).alloc (Nat.le_refl _) _⟩
theorem hd_size : (Try.prog.info? 68).map (·.size) = some 4 := by kernel_rfl
theorem hd_zero : (Try.prog.info? 68).bind (·.zero) = some (.agg #[.int .i64 0, .int .u8 0, .int .u8 0, .int .i64 0]) := by kernel_rfl
theorem hd_cells {w : World} {g : Nat} {t : TypeId} {a b c d : Value} (h : BlkIs w g t #[a, b, c, d]) :
    w.cell? ⟨g, 0, none⟩ = some a ∧ w.cell? ⟨g, 1, none⟩ = some b ∧ w.cell? ⟨g, 2, none⟩ = some c ∧ w.cell? ⟨g, 3, none⟩ = some d :=
  ⟨h.cell 0, h.cell 1, h.cell 2, h.cell 3⟩
end Go.Proofs.Ytighhdgaaelcdaa
