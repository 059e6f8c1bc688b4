/-
  DERIVED. GIVEN WITH THE SEED: THE CARDS: each row of YtdnopjopdklelaaDoorRows.lean that lists a variable, with what it lists TIED to the program's text (the seventh form; the later family's looks); each row that meets fmt, with fmt's text TOLD by the authors' own Lean function (tested against real Go, not proved from fmt's source: count such statements apart). THE CARD IS WHAT COUNTS. Prove the row's statement (the work); the ties are given (YtdnopjopdklelaaDoorTie.lean); close each card by the builder's one call (the guide's Derived/Test/ToyasCard.lean, 'card_holds'). Laid BY PROGRAM, IN A SANDBOX (cutbox-door.mjs). By AI agents, Wed Nov 11 2026. No macro, syntax, notation, axiom, sorry.
-/
import Derived.Test.YtdnopjopdklelaaDoorRows
import GoSem.ClaimSeven
namespace Go.Proofs.YtdnopjopdklelaaDoor
namespace Rows

/-- THE TIED CARD OF 'footmanlaw18.ResponseFields'. -/
def responseFieldsCard : Claim7 := { stood := { row := responseFieldsRow, standIns := [], harness := (true, "4bae88dd134db892a735768a0ad0ea5160744c6c48a0f6796ebe38417dcc46f3"), looks := false }, kinds := [], alts := [], laidByText := true, laidKinds := [.data, .data, .data], laidTests := true, laidLooks := .later }
def ResponseFieldsCardSaid : Prop := Claim7.holds Tryd.pinned (.plain (OpenSpec.ofChange responseFieldsSpec)) responseFieldsCard

/-- THE TIED CARD OF 'footmanlaw18.ResponseReads'. -/
def responseReadsCard : Claim7 := { stood := { row := responseReadsRow, standIns := [], harness := (true, "4bae88dd134db892a735768a0ad0ea5160744c6c48a0f6796ebe38417dcc46f3"), looks := false }, kinds := [], alts := [], laidByText := true, laidKinds := [.data, .data, .data], laidTests := true, laidLooks := .later }
def ResponseReadsCardSaid : Prop := Claim7.holds Tryd.pinned (.plain (OpenSpec.ofChange responseReadsSpec)) responseReadsCard

/-- THE TIED CARD OF 'footmanlaw18.ResponseBack'. -/
def responseBackCard : Claim7 := { stood := { row := responseBackRow, standIns := [], harness := (true, "4bae88dd134db892a735768a0ad0ea5160744c6c48a0f6796ebe38417dcc46f3"), looks := false }, kinds := [], alts := [], laidByText := true, laidKinds := [.data, .data, .data], laidTests := true, laidLooks := .later }
def ResponseBackCardSaid : Prop := Claim7.holds Tryd.pinned (.plain (OpenSpec.ofChange responseBackSpec)) responseBackCard

/-- THE SECOND FORM's CARD OF 'footmanlaw18.ResponseFields'. -/
def responseFieldsUptoCard : Claim7 := { stood := { row := responseFieldsUptoRow, standIns := [], harness := (true, "4bae88dd134db892a735768a0ad0ea5160744c6c48a0f6796ebe38417dcc46f3"), looks := false }, kinds := [], alts := [], laidByText := true, laidKinds := [.data, .data, .data], laidTests := true, laidLooks := .later }
def ResponseFieldsUptoCardSaid : Prop := Claim7.holds Tryd.pinned (.plain (OpenSpec.upto responseFieldsSpec)) responseFieldsUptoCard

/-- THE SECOND FORM's CARD OF 'footmanlaw18.ResponseReads'. -/
def responseReadsUptoCard : Claim7 := { stood := { row := responseReadsUptoRow, standIns := [], harness := (true, "4bae88dd134db892a735768a0ad0ea5160744c6c48a0f6796ebe38417dcc46f3"), looks := false }, kinds := [], alts := [], laidByText := true, laidKinds := [.data, .data, .data], laidTests := true, laidLooks := .later }
def ResponseReadsUptoCardSaid : Prop := Claim7.holds Tryd.pinned (.plain (OpenSpec.upto responseReadsSpec)) responseReadsUptoCard

/-- THE SECOND FORM's CARD OF 'footmanlaw18.ResponseBack'. -/
def responseBackUptoCard : Claim7 := { stood := { row := responseBackUptoRow, standIns := [], harness := (true, "4bae88dd134db892a735768a0ad0ea5160744c6c48a0f6796ebe38417dcc46f3"), looks := false }, kinds := [], alts := [], laidByText := true, laidKinds := [.data, .data, .data], laidTests := true, laidLooks := .later }
def ResponseBackUptoCardSaid : Prop := Claim7.holds Tryd.pinned (.plain (OpenSpec.upto responseBackSpec)) responseBackUptoCard
end Rows
end Go.Proofs.YtdnopjopdklelaaDoor
