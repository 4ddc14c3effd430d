/-
  DERIVED. GIVEN WITH THE SEED: THE CARDS: each row of YtcoaphfimellcaaGreatDoorRows.lean that lists a variable, with what it lists TIED to the program's text (the seventh form; the later family's looks); each row that meets fmt, with fmt's text TOLD by the authors' own Lean function (tested against real Go, not proved from fmt's source: count such statements apart). THE CARD IS WHAT COUNTS. Prove the row's statement (the work); the ties are given (YtcoaphfimellcaaGreatDoorTie.lean); close each card by the builder's one call (the guide's Derived/Test/ToyasCard.lean, 'card_holds'). Laid BY PROGRAM, IN A SANDBOX (cutbox-door.mjs). By AI agents, Wed Nov 11 2026. No macro, syntax, notation, axiom, sorry.
-/
import Derived.Test.YtcoaphfimellcaaGreatDoorRows
import GoSem.ClaimSeven
namespace Go.Proofs.YtcoaphfimellcaaGreatDoor
namespace Rows

/-- THE TIED CARD OF 'quarrylaw.Refused'. -/
def refusedCard : Claim7 := { stood := { row := refusedRow, standIns := [], harness := (true, "edf7a1698e01d39896d768f83cba361f73f19809b6dd76e80683c98dd65e11fa"), looks := true }, kinds := [], alts := [], laidByText := true, laidKinds := [.data, .data, .data, .data, .data, .sentinel, .sentinel, .data, .data, .data, .pinned], laidTests := true, laidLooks := .later }
def RefusedCardSaid : Prop := Claim7.holds Tryz.pinned (.plain (OpenSpec.ofChange refusedSpec)) refusedCard

/-- THE TIED CARD OF 'quarrylaw.Filter'. -/
def filterCard : Claim7 := { stood := { row := filterRow, standIns := [], harness := (true, "edf7a1698e01d39896d768f83cba361f73f19809b6dd76e80683c98dd65e11fa"), looks := true }, kinds := [], alts := [], laidByText := true, laidKinds := [.data, .data, .data, .data, .data, .sentinel, .sentinel, .data, .data, .data, .pinned], laidTests := true, laidLooks := .later }
def FilterCardSaid : Prop := Claim7.holds Tryz.pinned (.plain (OpenSpec.ofChange filterSpec)) filterCard

/-- THE TIED CARD OF 'quarrylaw.Prefix'. -/
def prefixCard : Claim7 := { stood := { row := prefixRow, standIns := [], harness := (true, "edf7a1698e01d39896d768f83cba361f73f19809b6dd76e80683c98dd65e11fa"), looks := true }, kinds := [], alts := [], laidByText := true, laidKinds := [.data, .data, .data, .data, .data, .sentinel, .sentinel, .data, .data, .data, .pinned], laidTests := true, laidLooks := .later }
def PrefixCardSaid : Prop := Claim7.holds Tryz.pinned (.plain (OpenSpec.ofChange prefixSpec)) prefixCard

/-- THE TIED CARD OF 'quarrylaw.Budget'. -/
def budgetCard : Claim7 := { stood := { row := budgetRow, standIns := [], harness := (true, "edf7a1698e01d39896d768f83cba361f73f19809b6dd76e80683c98dd65e11fa"), looks := true }, kinds := [], alts := [], laidByText := true, laidKinds := [.data, .data, .data, .data, .data, .sentinel, .sentinel, .data, .data, .data, .pinned], laidTests := true, laidLooks := .later }
def BudgetCardSaid : Prop := Claim7.holds Tryz.pinned (.plain (OpenSpec.ofChange budgetSpec)) budgetCard

/-- THE TIED CARD OF 'quarrylaw.Layout'. -/
def layoutCard : Claim7 := { stood := { row := layoutRow, standIns := [], harness := (true, "edf7a1698e01d39896d768f83cba361f73f19809b6dd76e80683c98dd65e11fa"), looks := true }, kinds := [], alts := [], laidByText := true, laidKinds := [.data, .data, .data, .data, .data, .sentinel, .sentinel, .data, .data, .data, .pinned], laidTests := true, laidLooks := .later }
def LayoutCardSaid : Prop := Claim7.holds Tryz.pinned (.plain (OpenSpec.ofChange layoutSpec)) layoutCard

/-- THE SECOND FORM's CARD OF 'quarrylaw.Refused'. -/
def refusedUptoCard : Claim7 := { stood := { row := refusedUptoRow, standIns := [], harness := (true, "edf7a1698e01d39896d768f83cba361f73f19809b6dd76e80683c98dd65e11fa"), looks := true }, kinds := [], alts := [], laidByText := true, laidKinds := [.data, .data, .data, .data, .data, .sentinel, .sentinel, .data, .data, .data, .pinned], laidTests := true, laidLooks := .later }
def RefusedUptoCardSaid : Prop := Claim7.holds Tryz.pinned (.plain (OpenSpec.upto refusedSpec)) refusedUptoCard

/-- THE SECOND FORM's CARD OF 'quarrylaw.Filter'. -/
def filterUptoCard : Claim7 := { stood := { row := filterUptoRow, standIns := [], harness := (true, "edf7a1698e01d39896d768f83cba361f73f19809b6dd76e80683c98dd65e11fa"), looks := true }, kinds := [], alts := [], laidByText := true, laidKinds := [.data, .data, .data, .data, .data, .sentinel, .sentinel, .data, .data, .data, .pinned], laidTests := true, laidLooks := .later }
def FilterUptoCardSaid : Prop := Claim7.holds Tryz.pinned (.plain (OpenSpec.upto filterSpec)) filterUptoCard

/-- THE SECOND FORM's CARD OF 'quarrylaw.Prefix'. -/
def prefixUptoCard : Claim7 := { stood := { row := prefixUptoRow, standIns := [], harness := (true, "edf7a1698e01d39896d768f83cba361f73f19809b6dd76e80683c98dd65e11fa"), looks := true }, kinds := [], alts := [], laidByText := true, laidKinds := [.data, .data, .data, .data, .data, .sentinel, .sentinel, .data, .data, .data, .pinned], laidTests := true, laidLooks := .later }
def PrefixUptoCardSaid : Prop := Claim7.holds Tryz.pinned (.plain (OpenSpec.upto prefixSpec)) prefixUptoCard

/-- THE SECOND FORM's CARD OF 'quarrylaw.Budget'. -/
def budgetUptoCard : Claim7 := { stood := { row := budgetUptoRow, standIns := [], harness := (true, "edf7a1698e01d39896d768f83cba361f73f19809b6dd76e80683c98dd65e11fa"), looks := true }, kinds := [], alts := [], laidByText := true, laidKinds := [.data, .data, .data, .data, .data, .sentinel, .sentinel, .data, .data, .data, .pinned], laidTests := true, laidLooks := .later }
def BudgetUptoCardSaid : Prop := Claim7.holds Tryz.pinned (.plain (OpenSpec.upto budgetSpec)) budgetUptoCard

/-- THE SECOND FORM's CARD OF 'quarrylaw.Layout'. -/
def layoutUptoCard : Claim7 := { stood := { row := layoutUptoRow, standIns := [], harness := (true, "edf7a1698e01d39896d768f83cba361f73f19809b6dd76e80683c98dd65e11fa"), looks := true }, kinds := [], alts := [], laidByText := true, laidKinds := [.data, .data, .data, .data, .data, .sentinel, .sentinel, .data, .data, .data, .pinned], laidTests := true, laidLooks := .later }
def LayoutUptoCardSaid : Prop := Claim7.holds Tryz.pinned (.plain (OpenSpec.upto layoutSpec)) layoutUptoCard
end Rows
end Go.Proofs.YtcoaphfimellcaaGreatDoor
