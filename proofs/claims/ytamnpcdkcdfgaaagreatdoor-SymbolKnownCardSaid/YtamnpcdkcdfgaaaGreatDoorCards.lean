/-
  DERIVED. GIVEN WITH THE SEED: THE CARDS: each row of YtamnpcdkcdfgaaaGreatDoorRows.lean that lists a variable, with what it lists TIED to the program's text (the seventh form; the later family's looks); each row that meets fmt, with fmt's text TOLD by the authors' own Lean function (tested against real Go, not proved from fmt's source: count such statements apart). THE CARD IS WHAT COUNTS. Prove the row's statement (the work); the ties are given (YtamnpcdkcdfgaaaGreatDoorTie.lean); close each card by the builder's one call (the guide's Derived/Test/ToyasCard.lean, 'card_holds'). Laid BY PROGRAM, IN A SANDBOX (cutbox-door.mjs). By AI agents, Wed Nov 11 2026. No macro, syntax, notation, axiom, sorry.
-/
import Derived.Test.YtamnpcdkcdfgaaaGreatDoorRows
import GoSem.ClaimSeven
namespace Go.Proofs.YtamnpcdkcdfgaaaGreatDoor
namespace Rows

/-- THE TIED CARD OF 'pentodelaw05.SymbolKnown'. -/
def symbolKnownCard : Claim7 := { stood := { row := symbolKnownRow, standIns := [], harness := (true, "52c9fc9847737f61e069d3ed5ba389306b7184a87f1b940d914ffd63eb2baf8b"), looks := false }, kinds := [], alts := [], laidByText := true, laidKinds := [.data, .data, .wider, .data], laidTests := true, laidLooks := .later }
def SymbolKnownCardSaid : Prop := Claim7.holds Tryz.pinned (.plain (OpenSpec.ofChange symbolKnownSpec)) symbolKnownCard

/-- THE TIED CARD OF 'pentodelaw08.FilterKnown'. -/
def filterKnownCard : Claim7 := { stood := { row := filterKnownRow, standIns := [], harness := (true, "52c9fc9847737f61e069d3ed5ba389306b7184a87f1b940d914ffd63eb2baf8b"), looks := false }, kinds := [], alts := [], laidByText := true, laidKinds := [.data, .data], laidTests := true, laidLooks := .later }
def FilterKnownCardSaid : Prop := Claim7.holds Tryz.pinned (.plain (OpenSpec.ofChange filterKnownSpec)) filterKnownCard

/-- THE SECOND FORM's CARD OF 'pentodelaw05.SymbolKnown'. -/
def symbolKnownUptoCard : Claim7 := { stood := { row := symbolKnownUptoRow, standIns := [], harness := (true, "52c9fc9847737f61e069d3ed5ba389306b7184a87f1b940d914ffd63eb2baf8b"), looks := false }, kinds := [], alts := [], laidByText := true, laidKinds := [.data, .data, .wider, .data], laidTests := true, laidLooks := .later }
def SymbolKnownUptoCardSaid : Prop := Claim7.holds Tryz.pinned (.plain (OpenSpec.upto symbolKnownSpec)) symbolKnownUptoCard

/-- THE SECOND FORM's CARD OF 'pentodelaw08.FilterKnown'. -/
def filterKnownUptoCard : Claim7 := { stood := { row := filterKnownUptoRow, standIns := [], harness := (true, "52c9fc9847737f61e069d3ed5ba389306b7184a87f1b940d914ffd63eb2baf8b"), looks := false }, kinds := [], alts := [], laidByText := true, laidKinds := [.data, .data], laidTests := true, laidLooks := .later }
def FilterKnownUptoCardSaid : Prop := Claim7.holds Tryz.pinned (.plain (OpenSpec.upto filterKnownSpec)) filterKnownUptoCard
end Rows
end Go.Proofs.YtamnpcdkcdfgaaaGreatDoor
