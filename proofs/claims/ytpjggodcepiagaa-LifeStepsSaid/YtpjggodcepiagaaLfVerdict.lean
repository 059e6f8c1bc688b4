/-
  Layer 16: the statements' own 'verdict': a verdict in the document's words.
-/
import Derived.Test.YtpjggodcepiagaaLfPart
namespace Go.Proofs.Ytpjggodcepiagaa
set_option linter.unusedSimpArgs false
set_option linter.unusedVariables false
open Go.RowKit

theorem lw_verdict (c : Int) (n d : Bool) (w : World) (h0 : 0 ≤ c) (h5 : c ≤ 5) : Calls Try.prog 9 #[.agg #[.int .u32 c, .bool n, .bool d]] w fun e w' => e = .returned (.agg #[.int .i64 c, .bool n, .bool d]) ∧ Below w.heap.size w w' := by
  have hw : IntKind.i64.wrap c = c := by rw [IntKind.wrap_i64]; omega
  go_enter Try.func9, Try.ntmps9
  go_wp2_with fail
  exact bodyPost_ret (results_r rfl _ _ (w.heap.size + 1) _ _ _ rfl (new2 _ _ _ _)) rfl ⟨rfl, bel2 w _ _⟩
end Go.Proofs.Ytpjggodcepiagaa
