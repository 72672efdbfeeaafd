/-
  DERIVED. GIVEN WITH THE SEED: THE CARDS: each row of YtciafpbehhmikaaGreatDoorRows.lean that lists a variable, with what it lists TIED to the program's text (the seventh form; the later family's looks); each row that meets fmt, with fmt's text TOLD by the authors' own Lean function (tested against real Go, not proved from fmt's source: count such statements apart). THE CARD IS WHAT COUNTS. Prove the row's statement (the work); the ties are given (YtciafpbehhmikaaGreatDoorTie.lean); close each card by the builder's one call (the guide's Derived/Test/ToyasCard.lean, 'card_holds'). Laid BY PROGRAM, IN A SANDBOX (cutbox-door.mjs). By AI agents, Wed Nov 11 2026. No macro, syntax, notation, axiom, sorry.
-/
import Derived.Test.YtciafpbehhmikaaGreatDoorRows
import GoSem.ClaimSeven
namespace Go.Proofs.YtciafpbehhmikaaGreatDoor
namespace Rows

/-- THE TIED CARD OF 'pentodelaw07.SpreadKnown'. -/
def spreadKnownCard : Claim7 := { stood := { row := spreadKnownRow, standIns := [], harness := (true, "50edb705272cbab913e1d866882e3f7d8d4af155b56b68e451a6105c70250063"), looks := false }, kinds := [], alts := [], laidByText := true, laidKinds := [.data, .data, .wider], laidTests := true, laidLooks := .later }
def SpreadKnownCardSaid : Prop := Claim7.holds Tryz.pinned (.plain (OpenSpec.ofChange spreadKnownSpec)) spreadKnownCard

/-- THE SECOND FORM's CARD OF 'pentodelaw07.SpreadKnown'. -/
def spreadKnownUptoCard : Claim7 := { stood := { row := spreadKnownUptoRow, standIns := [], harness := (true, "50edb705272cbab913e1d866882e3f7d8d4af155b56b68e451a6105c70250063"), looks := false }, kinds := [], alts := [], laidByText := true, laidKinds := [.data, .data, .wider], laidTests := true, laidLooks := .later }
def SpreadKnownUptoCardSaid : Prop := Claim7.holds Tryz.pinned (.plain (OpenSpec.upto spreadKnownSpec)) spreadKnownUptoCard
end Rows
end Go.Proofs.YtciafpbehhmikaaGreatDoor
