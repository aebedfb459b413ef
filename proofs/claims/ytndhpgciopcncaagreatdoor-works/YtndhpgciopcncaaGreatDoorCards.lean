/-
  DERIVED. GIVEN WITH THE SEED: THE CARDS: each row of YtndhpgciopcncaaGreatDoorRows.lean that lists a variable, with what it lists TIED to the program's text (the seventh form; the later family's looks); each row that meets fmt, with fmt's text TOLD by the authors' own Lean function (tested against real Go, not proved from fmt's source: count such statements apart). THE CARD IS WHAT COUNTS. Prove the row's statement (the work); the ties are given (YtndhpgciopcncaaGreatDoorTie.lean); close each card by the builder's one call (the guide's Derived/Test/ToyasCard.lean, 'card_holds'). Laid BY PROGRAM, IN A SANDBOX (cutbox-door.mjs). By AI agents, Wed Nov 11 2026. No macro, syntax, notation, axiom, sorry.
-/
import Derived.Test.YtndhpgciopcncaaGreatDoorRows
import GoSem.ClaimSeven
namespace Go.Proofs.YtndhpgciopcncaaGreatDoor
namespace Rows

/-- THE TIED CARD OF 'milllaw.Takes'. -/
def takesCard : Claim7 := { stood := { row := takesRow, standIns := [], harness := (true, "e4703e471f700b14ef4f5b2136a5b11b72e3551741bf1531b3f191eeb70a92c1"), looks := true }, kinds := [], alts := [], laidByText := true, laidKinds := [.data, .data, .data, .sentinel, .sentinel, .listed, .data], laidTests := true, laidLooks := .later }
def TakesCardSaid : Prop := Claim7.holds Tryz.pinned (.plain (OpenSpec.ofChange takesSpec)) takesCard

/-- THE TIED CARD OF 'milllaw.Works'. -/
def worksCard : Claim7 := { stood := { row := worksRow, standIns := [], harness := (true, "e4703e471f700b14ef4f5b2136a5b11b72e3551741bf1531b3f191eeb70a92c1"), looks := true }, kinds := [], alts := [], laidByText := true, laidKinds := [.data, .data, .data, .sentinel, .sentinel, .listed, .data], laidTests := true, laidLooks := .later }
def WorksCardSaid : Prop := Claim7.holds Tryz.pinned (.plain (OpenSpec.ofChange worksSpec)) worksCard

/-- THE TIED CARD OF 'millkeep.Rolled'. -/
def rolledCard : Claim7 := { stood := { row := rolledRow, standIns := [], harness := (true, "e4703e471f700b14ef4f5b2136a5b11b72e3551741bf1531b3f191eeb70a92c1"), looks := true }, kinds := [], alts := [], laidByText := true, laidKinds := [.data, .data, .data, .sentinel, .sentinel, .listed, .data], laidTests := true, laidLooks := .later }
def RolledCardSaid : Prop := Claim7.holds Tryz.pinned (.plain (OpenSpec.ofChange rolledSpec)) rolledCard

/-- THE TIED CARD OF 'millkeep.Bounded'. -/
def boundedCard : Claim7 := { stood := { row := boundedRow, standIns := [], harness := (true, "e4703e471f700b14ef4f5b2136a5b11b72e3551741bf1531b3f191eeb70a92c1"), looks := true }, kinds := [], alts := [], laidByText := true, laidKinds := [.data, .data, .data, .sentinel, .sentinel, .listed, .data], laidTests := true, laidLooks := .later }
def BoundedCardSaid : Prop := Claim7.holds Tryz.pinned (.plain (OpenSpec.ofChange boundedSpec)) boundedCard

/-- THE TIED CARD OF 'millkeep.Driven'. -/
def drivenCard : Claim7 := { stood := { row := drivenRow, standIns := [], harness := (true, "e4703e471f700b14ef4f5b2136a5b11b72e3551741bf1531b3f191eeb70a92c1"), looks := true }, kinds := [], alts := [], laidByText := true, laidKinds := [.data, .data, .data, .sentinel, .sentinel, .listed, .data], laidTests := true, laidLooks := .later }
def DrivenCardSaid : Prop := Claim7.holds Tryz.pinned (.plain (OpenSpec.ofChange drivenSpec)) drivenCard

/-- THE TIED CARD OF 'millkeep.Fenced'. -/
def fencedCard : Claim7 := { stood := { row := fencedRow, standIns := [], harness := (true, "e4703e471f700b14ef4f5b2136a5b11b72e3551741bf1531b3f191eeb70a92c1"), looks := true }, kinds := [], alts := [], laidByText := true, laidKinds := [.data, .data, .data, .sentinel, .sentinel, .listed, .data], laidTests := true, laidLooks := .later }
def FencedCardSaid : Prop := Claim7.holds Tryz.pinned (.plain (OpenSpec.ofChange fencedSpec)) fencedCard

/-- THE TIED CARD OF 'millkeep.Reopened'. -/
def reopenedCard : Claim7 := { stood := { row := reopenedRow, standIns := [], harness := (true, "e4703e471f700b14ef4f5b2136a5b11b72e3551741bf1531b3f191eeb70a92c1"), looks := true }, kinds := [], alts := [], laidByText := true, laidKinds := [.data, .data, .data, .sentinel, .sentinel, .listed, .data], laidTests := true, laidLooks := .later }
def ReopenedCardSaid : Prop := Claim7.holds Tryz.pinned (.plain (OpenSpec.ofChange reopenedSpec)) reopenedCard

/-- THE TIED CARD OF 'millkeep.Halted'. -/
def haltedCard : Claim7 := { stood := { row := haltedRow, standIns := [], harness := (true, "e4703e471f700b14ef4f5b2136a5b11b72e3551741bf1531b3f191eeb70a92c1"), looks := true }, kinds := [], alts := [], laidByText := true, laidKinds := [.data, .data, .data, .sentinel, .sentinel, .listed, .data], laidTests := true, laidLooks := .later }
def HaltedCardSaid : Prop := Claim7.holds Tryz.pinned (.plain (OpenSpec.ofChange haltedSpec)) haltedCard

/-- THE SECOND FORM's CARD OF 'milllaw.Takes'. -/
def takesUptoCard : Claim7 := { stood := { row := takesUptoRow, standIns := [], harness := (true, "e4703e471f700b14ef4f5b2136a5b11b72e3551741bf1531b3f191eeb70a92c1"), looks := true }, kinds := [], alts := [], laidByText := true, laidKinds := [.data, .data, .data, .sentinel, .sentinel, .listed, .data], laidTests := true, laidLooks := .later }
def TakesUptoCardSaid : Prop := Claim7.holds Tryz.pinned (.plain (OpenSpec.upto takesSpec)) takesUptoCard

/-- THE SECOND FORM's CARD OF 'milllaw.Works'. -/
def worksUptoCard : Claim7 := { stood := { row := worksUptoRow, standIns := [], harness := (true, "e4703e471f700b14ef4f5b2136a5b11b72e3551741bf1531b3f191eeb70a92c1"), looks := true }, kinds := [], alts := [], laidByText := true, laidKinds := [.data, .data, .data, .sentinel, .sentinel, .listed, .data], laidTests := true, laidLooks := .later }
def WorksUptoCardSaid : Prop := Claim7.holds Tryz.pinned (.plain (OpenSpec.upto worksSpec)) worksUptoCard

/-- THE SECOND FORM's CARD OF 'millkeep.Rolled'. -/
def rolledUptoCard : Claim7 := { stood := { row := rolledUptoRow, standIns := [], harness := (true, "e4703e471f700b14ef4f5b2136a5b11b72e3551741bf1531b3f191eeb70a92c1"), looks := true }, kinds := [], alts := [], laidByText := true, laidKinds := [.data, .data, .data, .sentinel, .sentinel, .listed, .data], laidTests := true, laidLooks := .later }
def RolledUptoCardSaid : Prop := Claim7.holds Tryz.pinned (.plain (OpenSpec.upto rolledSpec)) rolledUptoCard

/-- THE SECOND FORM's CARD OF 'millkeep.Bounded'. -/
def boundedUptoCard : Claim7 := { stood := { row := boundedUptoRow, standIns := [], harness := (true, "e4703e471f700b14ef4f5b2136a5b11b72e3551741bf1531b3f191eeb70a92c1"), looks := true }, kinds := [], alts := [], laidByText := true, laidKinds := [.data, .data, .data, .sentinel, .sentinel, .listed, .data], laidTests := true, laidLooks := .later }
def BoundedUptoCardSaid : Prop := Claim7.holds Tryz.pinned (.plain (OpenSpec.upto boundedSpec)) boundedUptoCard

/-- THE SECOND FORM's CARD OF 'millkeep.Driven'. -/
def drivenUptoCard : Claim7 := { stood := { row := drivenUptoRow, standIns := [], harness := (true, "e4703e471f700b14ef4f5b2136a5b11b72e3551741bf1531b3f191eeb70a92c1"), looks := true }, kinds := [], alts := [], laidByText := true, laidKinds := [.data, .data, .data, .sentinel, .sentinel, .listed, .data], laidTests := true, laidLooks := .later }
def DrivenUptoCardSaid : Prop := Claim7.holds Tryz.pinned (.plain (OpenSpec.upto drivenSpec)) drivenUptoCard

/-- THE SECOND FORM's CARD OF 'millkeep.Fenced'. -/
def fencedUptoCard : Claim7 := { stood := { row := fencedUptoRow, standIns := [], harness := (true, "e4703e471f700b14ef4f5b2136a5b11b72e3551741bf1531b3f191eeb70a92c1"), looks := true }, kinds := [], alts := [], laidByText := true, laidKinds := [.data, .data, .data, .sentinel, .sentinel, .listed, .data], laidTests := true, laidLooks := .later }
def FencedUptoCardSaid : Prop := Claim7.holds Tryz.pinned (.plain (OpenSpec.upto fencedSpec)) fencedUptoCard

/-- THE SECOND FORM's CARD OF 'millkeep.Reopened'. -/
def reopenedUptoCard : Claim7 := { stood := { row := reopenedUptoRow, standIns := [], harness := (true, "e4703e471f700b14ef4f5b2136a5b11b72e3551741bf1531b3f191eeb70a92c1"), looks := true }, kinds := [], alts := [], laidByText := true, laidKinds := [.data, .data, .data, .sentinel, .sentinel, .listed, .data], laidTests := true, laidLooks := .later }
def ReopenedUptoCardSaid : Prop := Claim7.holds Tryz.pinned (.plain (OpenSpec.upto reopenedSpec)) reopenedUptoCard

/-- THE SECOND FORM's CARD OF 'millkeep.Halted'. -/
def haltedUptoCard : Claim7 := { stood := { row := haltedUptoRow, standIns := [], harness := (true, "e4703e471f700b14ef4f5b2136a5b11b72e3551741bf1531b3f191eeb70a92c1"), looks := true }, kinds := [], alts := [], laidByText := true, laidKinds := [.data, .data, .data, .sentinel, .sentinel, .listed, .data], laidTests := true, laidLooks := .later }
def HaltedUptoCardSaid : Prop := Claim7.holds Tryz.pinned (.plain (OpenSpec.upto haltedSpec)) haltedUptoCard
end Rows
end Go.Proofs.YtndhpgciopcncaaGreatDoor
