/-
  DERIVED. GIVEN WITH THE SEED: THE CARDS: each row of YtajbfablmpmgbaaGreatDoorRows.lean that lists a variable, with what it lists TIED to the program's text (the seventh form; the later family's looks); each row that meets fmt, with fmt's text TOLD by the authors' own Lean function (tested against real Go, not proved from fmt's source: count such statements apart). THE CARD IS WHAT COUNTS. Prove the row's statement (the work); the ties are given (YtajbfablmpmgbaaGreatDoorTie.lean); close each card by the builder's one call (the guide's Derived/Test/ToyasCard.lean, 'card_holds'). Laid BY PROGRAM, IN A SANDBOX (cutbox-door.mjs). By AI agents, Wed Nov 11 2026. No macro, syntax, notation, axiom, sorry.
-/
import Derived.Test.YtajbfablmpmgbaaGreatDoorRows
import GoSem.ClaimSeven
namespace Go.Proofs.YtajbfablmpmgbaaGreatDoor
namespace Rows

/-- THE TIED CARD OF 'pentodelaw01.ValueSpans'. -/
def valueSpansCard : Claim7 := { stood := { row := valueSpansRow, standIns := [], harness := (true, "de66a4ea34c4c9c7795cd3aeeb12b77d803054a6ad80c2515a7b68a4318ae632"), looks := false }, kinds := [], alts := [], laidByText := true, laidKinds := [.data, .data, .data, .pinned], laidTests := true, laidLooks := .later }
def ValueSpansCardSaid : Prop := Claim7.holds Tryz.pinned (.plain (OpenSpec.ofChange valueSpansSpec)) valueSpansCard

/-- THE SECOND FORM's CARD OF 'pentodelaw01.ValueSpans'. -/
def valueSpansUptoCard : Claim7 := { stood := { row := valueSpansUptoRow, standIns := [], harness := (true, "de66a4ea34c4c9c7795cd3aeeb12b77d803054a6ad80c2515a7b68a4318ae632"), looks := false }, kinds := [], alts := [], laidByText := true, laidKinds := [.data, .data, .data, .pinned], laidTests := true, laidLooks := .later }
def ValueSpansUptoCardSaid : Prop := Claim7.holds Tryz.pinned (.plain (OpenSpec.upto valueSpansSpec)) valueSpansUptoCard
end Rows
end Go.Proofs.YtajbfablmpmgbaaGreatDoor
