/-
  Layer 9: FrameFaults: the walk.
-/
import Derived.Test.YtefdhbljcnpggaaFrameFaultsT
import Derived.Test.YtefdhbljcnpggaaFrameFaultsF
import Derived.Test.YtefdhbljcnpggaaFrAwake
import Derived.BigGuardPart
import Derived.Deep.CutBlock
namespace Go.Proofs.Ytefdhbljcnpggaa.frameFaults
open Go.RowKit Go.Proofs.Ytefdhbljcnpggaa

theorem walk (n0 n1 : Int) (b : Bool) (w : World) (w0 : (Lit.int .u8 n0).wf = true) (w1 : (Lit.int .u8 n1).wf = true) :
    Calls Try.prog 7 #[.int .u8 n0, .int .u8 n1, .bool b] w fun e w' => e = .returned (.bool true) ∧ Below w.heap.size w w' := by
  obtain ⟨a0, a1⟩ := bounds_u8 w0
  obtain ⟨b0, b1⟩ := bounds_u8 w1
  cases b with
  | true => exact walk_t n0 n1 a0 a1 b0 b1 w
  | false => exact walk_f n0 n1 a0 a1 b0 b1 w
end Go.Proofs.Ytefdhbljcnpggaa.frameFaults
