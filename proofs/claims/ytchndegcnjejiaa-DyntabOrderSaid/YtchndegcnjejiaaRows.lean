/-
  No cell of these rows narrows 'for every input' (looked for: loops, veiled, ifaces, maps, wideKeys, modest, calm, conditions, laid).
  DERIVED. THE GIVEN ROWS OF THIS SEAT. 3 by the template 'for every input the law returns true; each argument reads behind the call as it read before'; 0 by the template 'total and deterministic' (their statements: YtchndegcnjejiaaTotals.lean).
  GIVEN WITH THE SEED: the statements are not yours to turn. If you find one false, say at which input.
  Laid BY PROGRAM, IN A SANDBOX (cutbox-rows.mjs): the forced cells as the released guide's own fill.sh prints them over the translation 0c284eb2baa6de62… (all of the seat's roots in one cut). By AI agents, Wed Nov 11 2026. No macro, syntax, notation, axiom, sorry.
-/
import Derived.Test.YtchndegcnjejiaaChecked
import GoSem.Claim
import GoSem.ClaimJoined
import GoSem.ClaimMapViews
import Derived.JoinedTies
import Derived.KernelRfl
namespace Go.Proofs.Ytchndegcnjejiaa
/- THE CELL 'sum', in the pinned program and in every row, IS THE sha256 OF THE DUMP (.gsa) THAT YtchndegcnjejiaaProg.lean LOADS. Nothing in Lean hashes anything: it is a label: what it is worth is what the hold of that sum in a sandbox is worth. -/
noncomputable def Try.pinned : Pinned := { name := "ytchndegcnjejiaa", sum := "0c284eb2baa6de629451291aab3dbf522eddcb25c004955e9e2cbd9ea689b1e3", checked := Try.checked }
namespace Rows
def none {H : Type} : Left H := { results := [], args := [] }

/-- 'footmanlaw04.DyntabFinds': WHATEVER THE INPUT: true; the input reads as it did. -/
def dyntabFindsSpec : ChangeSpec := { name := "dyntabFinds", fn := fun _ => fun
  | [d1, d2, d3] => { results := [.lit (.bool true)], args := [d1, d2, d3] }
  | _ => none }
def dyntabFindsRow : OpenClaim := { program := "ytchndegcnjejiaa", sum := "0c284eb2baa6de629451291aab3dbf522eddcb25c004955e9e2cbd9ea689b1e3", func := "footman/footmanlaw04.DyntabFinds", spec := "dyntabFinds", unfollowed := true, recurses := true, apart := false }
def DyntabFindsSaid : Prop := dyntabFindsRow.holds Try.pinned (OpenSpec.ofChange dyntabFindsSpec)

/-- ITS FALSE NEIGHBOUR: 'it returns false'. Refute it at one input. -/
def dyntabFindsWrong : ChangeSpec := { name := "dyntabFinds", fn := fun _ => fun
  | [d1, d2, d3] => { results := [.lit (.bool false)], args := [d1, d2, d3] }
  | _ => none }
def DyntabFindsWrongFalsely : Prop := dyntabFindsRow.holds Try.pinned (OpenSpec.ofChange dyntabFindsWrong)

/-- 'footmanlaw04.DyntabOrder': WHATEVER THE INPUT: true; the input reads as it did. -/
def dyntabOrderSpec : ChangeSpec := { name := "dyntabOrder", fn := fun _ => fun
  | [d1, d2] => { results := [.lit (.bool true)], args := [d1, d2] }
  | _ => none }
def dyntabOrderRow : OpenClaim := { program := "ytchndegcnjejiaa", sum := "0c284eb2baa6de629451291aab3dbf522eddcb25c004955e9e2cbd9ea689b1e3", func := "footman/footmanlaw04.DyntabOrder", spec := "dyntabOrder", unfollowed := true, recurses := true, apart := false }
def DyntabOrderSaid : Prop := dyntabOrderRow.holds Try.pinned (OpenSpec.ofChange dyntabOrderSpec)

/-- ITS FALSE NEIGHBOUR: 'it returns false'. Refute it at one input. -/
def dyntabOrderWrong : ChangeSpec := { name := "dyntabOrder", fn := fun _ => fun
  | [d1, d2] => { results := [.lit (.bool false)], args := [d1, d2] }
  | _ => none }
def DyntabOrderWrongFalsely : Prop := dyntabOrderRow.holds Try.pinned (OpenSpec.ofChange dyntabOrderWrong)

/-- 'footmanlaw04.DyntabPlaces': WHATEVER THE INPUT: true; the input reads as it did. -/
def dyntabPlacesSpec : ChangeSpec := { name := "dyntabPlaces", fn := fun _ => fun
  | [d1, d2] => { results := [.lit (.bool true)], args := [d1, d2] }
  | _ => none }
def dyntabPlacesRow : OpenClaim := { program := "ytchndegcnjejiaa", sum := "0c284eb2baa6de629451291aab3dbf522eddcb25c004955e9e2cbd9ea689b1e3", func := "footman/footmanlaw04.DyntabPlaces", spec := "dyntabPlaces", unfollowed := true, recurses := true, apart := false }
def DyntabPlacesSaid : Prop := dyntabPlacesRow.holds Try.pinned (OpenSpec.ofChange dyntabPlacesSpec)

/-- ITS FALSE NEIGHBOUR: 'it returns false'. Refute it at one input. -/
def dyntabPlacesWrong : ChangeSpec := { name := "dyntabPlaces", fn := fun _ => fun
  | [d1, d2] => { results := [.lit (.bool false)], args := [d1, d2] }
  | _ => none }
def DyntabPlacesWrongFalsely : Prop := dyntabPlacesRow.holds Try.pinned (OpenSpec.ofChange dyntabPlacesWrong)

/- THE SECOND FORM. 'bulk': how many values and letters a reading holds, each counted each time it is reached (what is shared counts as often as it is met; a slice's spare places count too). A statement '..UptoSaid' is the law's where the arguments, and the package variables that the reading takes, are together of bulk at most 1048576: NARROWER than '..Said'. Prove '..Said' where nothing that the law and all that it calls make is longer than what came in: it says more and counts as full. Else prove '..UptoSaid'. A law counts once. -/
mutual
def uptoBulk {H : Type} : DataW H → Nat
  | .lit (.string bytes) => bytes.length + 1
  | .lit _ => 1
  | .nil => 1
  | .ptr d => uptoBulk d + 1
  | .slice elems spare => uptoBulkAll elems + uptoBulkAll spare + 1
  | .agg parts => uptoBulkAll parts + 1
  | .iface _ d => uptoBulk d + 1
  | .map entries => uptoBulkEntries entries + 1
  | .held _ => 1
def uptoBulkAll {H : Type} : List (DataW H) → Nat
  | [] => 0
  | d :: r => uptoBulk d + uptoBulkAll r
def uptoBulkEntries {H : Type} : List (Lit × DataW H) → Nat
  | [] => 0
  | x :: r => uptoBulkEntry x + uptoBulkEntries r
def uptoBulkEntry {H : Type} : Lit × DataW H → Nat
  | (.string bytes, d) => bytes.length + uptoBulk d + 1
  | (_, d) => uptoBulk d + 1
 end
def uptoSmall : (H : Type) → List (DataW H) → Bool := fun _ ds => decide (uptoBulkAll ds ≤ 1048576)
def OpenSpec.upto (s : _root_.Go.ChangeSpec) : _root_.Go.OpenSpec := { _root_.Go.OpenSpec.ofChange s with cond := some uptoSmall }

/-- 'footmanlaw04.DyntabFinds', WHERE WHAT IT READS IS OF BULK AT MOST 1048576: true; the input reads as it did. -/
def dyntabFindsUptoRow : OpenClaim := { program := "ytchndegcnjejiaa", sum := "0c284eb2baa6de629451291aab3dbf522eddcb25c004955e9e2cbd9ea689b1e3", func := "footman/footmanlaw04.DyntabFinds", spec := "dyntabFinds", unfollowed := true, recurses := true, apart := false, narrowed := true }
def DyntabFindsUptoSaid : Prop := dyntabFindsUptoRow.holds Try.pinned (OpenSpec.upto dyntabFindsSpec)

/-- 'footmanlaw04.DyntabOrder', WHERE WHAT IT READS IS OF BULK AT MOST 1048576: true; the input reads as it did. -/
def dyntabOrderUptoRow : OpenClaim := { program := "ytchndegcnjejiaa", sum := "0c284eb2baa6de629451291aab3dbf522eddcb25c004955e9e2cbd9ea689b1e3", func := "footman/footmanlaw04.DyntabOrder", spec := "dyntabOrder", unfollowed := true, recurses := true, apart := false, narrowed := true }
def DyntabOrderUptoSaid : Prop := dyntabOrderUptoRow.holds Try.pinned (OpenSpec.upto dyntabOrderSpec)

/-- 'footmanlaw04.DyntabPlaces', WHERE WHAT IT READS IS OF BULK AT MOST 1048576: true; the input reads as it did. -/
def dyntabPlacesUptoRow : OpenClaim := { program := "ytchndegcnjejiaa", sum := "0c284eb2baa6de629451291aab3dbf522eddcb25c004955e9e2cbd9ea689b1e3", func := "footman/footmanlaw04.DyntabPlaces", spec := "dyntabPlaces", unfollowed := true, recurses := true, apart := false, narrowed := true }
def DyntabPlacesUptoSaid : Prop := dyntabPlacesUptoRow.holds Try.pinned (OpenSpec.upto dyntabPlacesSpec)

end Rows
end Go.Proofs.Ytchndegcnjejiaa
