/-
  DERIVED. GIVEN WITH THE SEED: THE CARDS: each row of YteniahoehoncjaaGreatDoorRows.lean that lists a variable, with what it lists TIED to the program's text (the seventh form; the later family's looks); each row that meets fmt, with fmt's text TOLD by the authors' own Lean function (tested against real Go, not proved from fmt's source: count such statements apart). THE CARD IS WHAT COUNTS. Prove the row's statement (the work); the ties are given (YteniahoehoncjaaGreatDoorTie.lean); close each card by the builder's one call (the guide's Derived/Test/ToyasCard.lean, 'card_holds'). Laid BY PROGRAM, IN A SANDBOX (cutbox-door.mjs). By AI agents, Wed Nov 11 2026. No macro, syntax, notation, axiom, sorry.
-/
import Derived.Test.YteniahoehoncjaaGreatDoorRows
import GoSem.ClaimSeven
namespace Go.Proofs.YteniahoehoncjaaGreatDoor
namespace Rows

/-- THE TIED CARD OF 'quarrylaw.Refused'. -/
def refusedCard : Claim7 := { stood := { row := refusedRow, standIns := [], harness := (true, "fbcd417b381a92dd5ff0c3f83ba9afc2bc1529529dc6b29d23b01dd392bdacd6"), looks := true }, kinds := [], alts := [], laidByText := true, laidKinds := [.data, .data, .data, .data, .data, .sentinel, .sentinel, .data, .data, .data, .pinned], laidTests := true, laidLooks := .later }
def RefusedCardSaid : Prop := Claim7.holds Tryz.pinned (.plain (OpenSpec.ofChange refusedSpec)) refusedCard

/-- THE TIED CARD OF 'quarrylaw.Budget'. -/
def budgetCard : Claim7 := { stood := { row := budgetRow, standIns := [], harness := (true, "fbcd417b381a92dd5ff0c3f83ba9afc2bc1529529dc6b29d23b01dd392bdacd6"), looks := true }, kinds := [], alts := [], laidByText := true, laidKinds := [.data, .data, .data, .data, .data, .sentinel, .sentinel, .data, .data, .data, .pinned], laidTests := true, laidLooks := .later }
def BudgetCardSaid : Prop := Claim7.holds Tryz.pinned (.plain (OpenSpec.ofChange budgetSpec)) budgetCard

/-- THE TIED CARD OF 'quarrylaw.Layout'. -/
def layoutCard : Claim7 := { stood := { row := layoutRow, standIns := [], harness := (true, "fbcd417b381a92dd5ff0c3f83ba9afc2bc1529529dc6b29d23b01dd392bdacd6"), looks := true }, kinds := [], alts := [], laidByText := true, laidKinds := [.data, .data, .data, .data, .data, .sentinel, .sentinel, .data, .data, .data, .pinned], laidTests := true, laidLooks := .later }
def LayoutCardSaid : Prop := Claim7.holds Tryz.pinned (.plain (OpenSpec.ofChange layoutSpec)) layoutCard

/-- THE SECOND FORM's CARD OF 'quarrylaw.Refused'. -/
def refusedUptoCard : Claim7 := { stood := { row := refusedUptoRow, standIns := [], harness := (true, "fbcd417b381a92dd5ff0c3f83ba9afc2bc1529529dc6b29d23b01dd392bdacd6"), looks := true }, kinds := [], alts := [], laidByText := true, laidKinds := [.data, .data, .data, .data, .data, .sentinel, .sentinel, .data, .data, .data, .pinned], laidTests := true, laidLooks := .later }
def RefusedUptoCardSaid : Prop := Claim7.holds Tryz.pinned (.plain (OpenSpec.upto refusedSpec)) refusedUptoCard

/-- THE SECOND FORM's CARD OF 'quarrylaw.Budget'. -/
def budgetUptoCard : Claim7 := { stood := { row := budgetUptoRow, standIns := [], harness := (true, "fbcd417b381a92dd5ff0c3f83ba9afc2bc1529529dc6b29d23b01dd392bdacd6"), looks := true }, kinds := [], alts := [], laidByText := true, laidKinds := [.data, .data, .data, .data, .data, .sentinel, .sentinel, .data, .data, .data, .pinned], laidTests := true, laidLooks := .later }
def BudgetUptoCardSaid : Prop := Claim7.holds Tryz.pinned (.plain (OpenSpec.upto budgetSpec)) budgetUptoCard

/-- THE SECOND FORM's CARD OF 'quarrylaw.Layout'. -/
def layoutUptoCard : Claim7 := { stood := { row := layoutUptoRow, standIns := [], harness := (true, "fbcd417b381a92dd5ff0c3f83ba9afc2bc1529529dc6b29d23b01dd392bdacd6"), looks := true }, kinds := [], alts := [], laidByText := true, laidKinds := [.data, .data, .data, .data, .data, .sentinel, .sentinel, .data, .data, .data, .pinned], laidTests := true, laidLooks := .later }
def LayoutUptoCardSaid : Prop := Claim7.holds Tryz.pinned (.plain (OpenSpec.upto layoutSpec)) layoutUptoCard
end Rows
end Go.Proofs.YteniahoehoncjaaGreatDoor
