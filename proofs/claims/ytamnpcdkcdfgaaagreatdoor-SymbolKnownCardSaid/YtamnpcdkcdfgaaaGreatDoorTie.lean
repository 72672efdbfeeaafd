/-
  DERIVED. GIVEN WITH THE SEED: THE PROGRAM's TIES (one call each: nine closed facts by the kernel) AND EACH ROW's TIE, after the 31st guide's Derived/Test/Toyas{Tie, Card}.lean. No idea stands in it: it is a product of the set-up. Laid BY PROGRAM, IN A SANDBOX (cutbox-door.mjs). By AI agents, Wed Nov 11 2026. No macro, syntax, notation, axiom, sorry.
-/
import Derived.Test.YtamnpcdkcdfgaaaGreatDoorRows
import Derived.LaidByTextLater
import Derived.SevenTiedAt
import Derived.LaidSub
import Derived.LaidOnce
namespace Go.Proofs.YtamnpcdkcdfgaaaGreatDoor
open Go
set_option maxRecDepth 100000
theorem seatTie1 : Tryz.prog.laidByTextLater [("math/bits.deBruijn64tab", Rows.laid_math_bits_deBruijn64tab), ("pentode/value.prefixes", Rows.laid_pentode_value_prefixes), ("pentode/net.shapes", Rows.laid_pentode_net_shapes), ("pentode/symbol.descriptions", Rows.laid_pentode_symbol_descriptions)] [.data, .data, .wider, .data] true :=
  Program.laidByTextLater_by_one 70 8 113 (by kernel_rfl) (by kernel_rfl) (by kernel_rfl) (by kernel_rfl) (by kernel_rfl) (by kernel_rfl) (fun _ _ => by kernel_rfl)
theorem noOwnUnsafe : Tryz.pinned.checked.prog.headLifts.contains "ownunsafe" = false := by kernel_rfl
theorem tie : Tryz.prog.laidByTextLater [("math/bits.deBruijn64tab", Rows.laid_math_bits_deBruijn64tab), ("pentode/value.prefixes", Rows.laid_pentode_value_prefixes), ("pentode/net.shapes", Rows.laid_pentode_net_shapes), ("pentode/symbol.descriptions", Rows.laid_pentode_symbol_descriptions)] [.data, .data, .wider, .data] true :=
  Program.laidByTextLater.sub seatTie1 ["math/bits.deBruijn64tab", "pentode/value.prefixes", "pentode/net.shapes", "pentode/symbol.descriptions"] (by kernel_rfl) (by kernel_rfl)
theorem symbolKnown_row_tie : Rows.symbolKnownRow.laidByTextAt .later Tryz.pinned [.data, .data, .wider, .data] true :=
  OpenClaim.laidByTextAt_later rfl rfl tie noOwnUnsafe
theorem tie2 : Tryz.prog.laidByTextLater [("math/bits.deBruijn64tab", Rows.laid_math_bits_deBruijn64tab), ("pentode/value.prefixes", Rows.laid_pentode_value_prefixes)] [.data, .data] true :=
  Program.laidByTextLater.sub seatTie1 ["math/bits.deBruijn64tab", "pentode/value.prefixes"] (by kernel_rfl) (by kernel_rfl)
theorem filterKnown_row_tie : Rows.filterKnownRow.laidByTextAt .later Tryz.pinned [.data, .data] true :=
  OpenClaim.laidByTextAt_later rfl rfl tie2 noOwnUnsafe
theorem symbolKnownUpto_row_tie : Rows.symbolKnownUptoRow.laidByTextAt .later Tryz.pinned [.data, .data, .wider, .data] true :=
  OpenClaim.laidByTextAt_later rfl rfl tie noOwnUnsafe
theorem filterKnownUpto_row_tie : Rows.filterKnownUptoRow.laidByTextAt .later Tryz.pinned [.data, .data] true :=
  OpenClaim.laidByTextAt_later rfl rfl tie2 noOwnUnsafe
end Go.Proofs.YtamnpcdkcdfgaaaGreatDoor
