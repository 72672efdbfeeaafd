/-
  DERIVED. GIVEN WITH THE SEED: THE CARDS: each row of YtohcfjmkfflkpaaGreatDoorRows.lean that lists a variable, with what it lists TIED to the program's text (the seventh form; the later family's looks); each row that meets fmt, with fmt's text TOLD by the authors' own Lean function (tested against real Go, not proved from fmt's source: count such statements apart). THE CARD IS WHAT COUNTS. Prove the row's statement (the work); the ties are given (YtohcfjmkfflkpaaGreatDoorTie.lean); close each card by the builder's one call (the guide's Derived/Test/ToyasCard.lean, 'card_holds'). Laid BY PROGRAM, IN A SANDBOX (cutbox-door.mjs). By AI agents, Wed Nov 11 2026. No macro, syntax, notation, axiom, sorry.
-/
import Derived.Test.YtohcfjmkfflkpaaGreatDoorRows
import GoSem.ClaimSeven
namespace Go.Proofs.YtohcfjmkfflkpaaGreatDoor
namespace Rows

/-- THE TIED CARD OF 'pentodelaw08.FilterFamilies'. -/
def filterFamiliesCard : Claim7 := { stood := { row := filterFamiliesRow, standIns := [], harness := (true, "2a2c3b062b62b52f0d8afb53b95bf6f07e34093a49fb91866faa566b71547bf8"), looks := false }, kinds := [], alts := [], laidByText := true, laidKinds := [.data, .data], laidTests := true, laidLooks := .later }
def FilterFamiliesCardSaid : Prop := Claim7.holds Tryz.pinned (.plain (OpenSpec.ofChange filterFamiliesSpec)) filterFamiliesCard

/-- THE SECOND FORM's CARD OF 'pentodelaw08.FilterFamilies'. -/
def filterFamiliesUptoCard : Claim7 := { stood := { row := filterFamiliesUptoRow, standIns := [], harness := (true, "2a2c3b062b62b52f0d8afb53b95bf6f07e34093a49fb91866faa566b71547bf8"), looks := false }, kinds := [], alts := [], laidByText := true, laidKinds := [.data, .data], laidTests := true, laidLooks := .later }
def FilterFamiliesUptoCardSaid : Prop := Claim7.holds Tryz.pinned (.plain (OpenSpec.upto filterFamiliesSpec)) filterFamiliesUptoCard
end Rows
end Go.Proofs.YtohcfjmkfflkpaaGreatDoor
