/-
  DERIVED. GIVEN WITH THE SEED: THE CARDS: each row of YtgpacgadpnpjjaaGreatDoorRows.lean that lists a variable, with what it lists TIED to the program's text (the seventh form; the later family's looks); each row that meets fmt, with fmt's text TOLD by the authors' own Lean function (tested against real Go, not proved from fmt's source: count such statements apart). THE CARD IS WHAT COUNTS. Prove the row's statement (the work); the ties are given (YtgpacgadpnpjjaaGreatDoorTie.lean); close each card by the builder's one call (the guide's Derived/Test/ToyasCard.lean, 'card_holds'). Laid BY PROGRAM, IN A SANDBOX (cutbox-door.mjs). By AI agents, Wed Nov 11 2026. No macro, syntax, notation, axiom, sorry.
-/
import Derived.Test.YtgpacgadpnpjjaaGreatDoorRows
import GoSem.ClaimSeven
namespace Go.Proofs.YtgpacgadpnpjjaaGreatDoor
namespace Rows

/-- THE TIED CARD OF 'pentodelaw01.ValueParses'. -/
def valueParsesCard : Claim7 := { stood := { row := valueParsesRow, standIns := [], harness := (true, "adbcdb6feafe44a8d47c56d4106d5d44d2667f4490123e39db767e3158e2cd3c"), looks := false }, kinds := [], alts := [], laidByText := true, laidKinds := [.data, .data, .data, .pinned], laidTests := true, laidLooks := .later }
def ValueParsesCardSaid : Prop := Claim7.holds Tryz.pinned (.plain (OpenSpec.ofChange valueParsesSpec)) valueParsesCard

/-- THE TIED CARD OF 'pentodelaw01.ValueReads'. -/
def valueReadsCard : Claim7 := { stood := { row := valueReadsRow, standIns := [], harness := (true, "adbcdb6feafe44a8d47c56d4106d5d44d2667f4490123e39db767e3158e2cd3c"), looks := false }, kinds := [], alts := [], laidByText := true, laidKinds := [.data, .data, .data, .pinned], laidTests := true, laidLooks := .later }
def ValueReadsCardSaid : Prop := Claim7.holds Tryz.pinned (.plain (OpenSpec.ofChange valueReadsSpec)) valueReadsCard

/-- THE TIED CARD OF 'pentodelaw01.ValueShows'. -/
def valueShowsCard : Claim7 := { stood := { row := valueShowsRow, standIns := [], harness := (true, "adbcdb6feafe44a8d47c56d4106d5d44d2667f4490123e39db767e3158e2cd3c"), looks := false }, kinds := [], alts := [], laidByText := true, laidKinds := [.data, .data, .data, .pinned], laidTests := true, laidLooks := .later }
def ValueShowsCardSaid : Prop := Claim7.holds Tryz.pinned (.plain (OpenSpec.ofChange valueShowsSpec)) valueShowsCard

/-- THE TIED CARD OF 'pentodelaw01.ValueRounds'. -/
def valueRoundsCard : Claim7 := { stood := { row := valueRoundsRow, standIns := [], harness := (true, "adbcdb6feafe44a8d47c56d4106d5d44d2667f4490123e39db767e3158e2cd3c"), looks := false }, kinds := [], alts := [], laidByText := true, laidKinds := [.data, .data, .data, .pinned], laidTests := true, laidLooks := .later }
def ValueRoundsCardSaid : Prop := Claim7.holds Tryz.pinned (.plain (OpenSpec.ofChange valueRoundsSpec)) valueRoundsCard

/-- THE TIED CARD OF 'pentodelaw01.ValueSpans'. -/
def valueSpansCard : Claim7 := { stood := { row := valueSpansRow, standIns := [], harness := (true, "adbcdb6feafe44a8d47c56d4106d5d44d2667f4490123e39db767e3158e2cd3c"), looks := false }, kinds := [], alts := [], laidByText := true, laidKinds := [.data, .data, .data, .pinned], laidTests := true, laidLooks := .later }
def ValueSpansCardSaid : Prop := Claim7.holds Tryz.pinned (.plain (OpenSpec.ofChange valueSpansSpec)) valueSpansCard

/-- THE TIED CARD OF 'pentodelaw01.ValueIncludes'. -/
def valueIncludesCard : Claim7 := { stood := { row := valueIncludesRow, standIns := [], harness := (true, "adbcdb6feafe44a8d47c56d4106d5d44d2667f4490123e39db767e3158e2cd3c"), looks := false }, kinds := [], alts := [], laidByText := true, laidKinds := [.data, .data, .data, .pinned], laidTests := true, laidLooks := .later }
def ValueIncludesCardSaid : Prop := Claim7.holds Tryz.pinned (.plain (OpenSpec.ofChange valueIncludesSpec)) valueIncludesCard

/-- THE SECOND FORM's CARD OF 'pentodelaw01.ValueParses'. -/
def valueParsesUptoCard : Claim7 := { stood := { row := valueParsesUptoRow, standIns := [], harness := (true, "adbcdb6feafe44a8d47c56d4106d5d44d2667f4490123e39db767e3158e2cd3c"), looks := false }, kinds := [], alts := [], laidByText := true, laidKinds := [.data, .data, .data, .pinned], laidTests := true, laidLooks := .later }
def ValueParsesUptoCardSaid : Prop := Claim7.holds Tryz.pinned (.plain (OpenSpec.upto valueParsesSpec)) valueParsesUptoCard

/-- THE SECOND FORM's CARD OF 'pentodelaw01.ValueReads'. -/
def valueReadsUptoCard : Claim7 := { stood := { row := valueReadsUptoRow, standIns := [], harness := (true, "adbcdb6feafe44a8d47c56d4106d5d44d2667f4490123e39db767e3158e2cd3c"), looks := false }, kinds := [], alts := [], laidByText := true, laidKinds := [.data, .data, .data, .pinned], laidTests := true, laidLooks := .later }
def ValueReadsUptoCardSaid : Prop := Claim7.holds Tryz.pinned (.plain (OpenSpec.upto valueReadsSpec)) valueReadsUptoCard

/-- THE SECOND FORM's CARD OF 'pentodelaw01.ValueShows'. -/
def valueShowsUptoCard : Claim7 := { stood := { row := valueShowsUptoRow, standIns := [], harness := (true, "adbcdb6feafe44a8d47c56d4106d5d44d2667f4490123e39db767e3158e2cd3c"), looks := false }, kinds := [], alts := [], laidByText := true, laidKinds := [.data, .data, .data, .pinned], laidTests := true, laidLooks := .later }
def ValueShowsUptoCardSaid : Prop := Claim7.holds Tryz.pinned (.plain (OpenSpec.upto valueShowsSpec)) valueShowsUptoCard

/-- THE SECOND FORM's CARD OF 'pentodelaw01.ValueRounds'. -/
def valueRoundsUptoCard : Claim7 := { stood := { row := valueRoundsUptoRow, standIns := [], harness := (true, "adbcdb6feafe44a8d47c56d4106d5d44d2667f4490123e39db767e3158e2cd3c"), looks := false }, kinds := [], alts := [], laidByText := true, laidKinds := [.data, .data, .data, .pinned], laidTests := true, laidLooks := .later }
def ValueRoundsUptoCardSaid : Prop := Claim7.holds Tryz.pinned (.plain (OpenSpec.upto valueRoundsSpec)) valueRoundsUptoCard

/-- THE SECOND FORM's CARD OF 'pentodelaw01.ValueSpans'. -/
def valueSpansUptoCard : Claim7 := { stood := { row := valueSpansUptoRow, standIns := [], harness := (true, "adbcdb6feafe44a8d47c56d4106d5d44d2667f4490123e39db767e3158e2cd3c"), looks := false }, kinds := [], alts := [], laidByText := true, laidKinds := [.data, .data, .data, .pinned], laidTests := true, laidLooks := .later }
def ValueSpansUptoCardSaid : Prop := Claim7.holds Tryz.pinned (.plain (OpenSpec.upto valueSpansSpec)) valueSpansUptoCard

/-- THE SECOND FORM's CARD OF 'pentodelaw01.ValueIncludes'. -/
def valueIncludesUptoCard : Claim7 := { stood := { row := valueIncludesUptoRow, standIns := [], harness := (true, "adbcdb6feafe44a8d47c56d4106d5d44d2667f4490123e39db767e3158e2cd3c"), looks := false }, kinds := [], alts := [], laidByText := true, laidKinds := [.data, .data, .data, .pinned], laidTests := true, laidLooks := .later }
def ValueIncludesUptoCardSaid : Prop := Claim7.holds Tryz.pinned (.plain (OpenSpec.upto valueIncludesSpec)) valueIncludesUptoCard
end Rows
end Go.Proofs.YtgpacgadpnpjjaaGreatDoor
