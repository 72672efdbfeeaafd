/- FilterKnown holds. No condition. -/
import Derived.Test.YtamnpcdkcdfgaaaGreatDoorQe19
namespace Go.Proofs.YtamnpcdkcdfgaaaGreatDoor.E
open Go Go.RowKit
open Ma Me K
noncomputable section
def kc0 : Kc := ⟨[.c true [.sl 4 0 1 (some 1), .sl 2 0 2 none, .sl 1 0 1 (some 1), .sl 0 0 1 (some 1)], .c false [.i .i64 20]], [⟨86, [.s [48], .s [49], .s [49, 47, 50], .s [49]]⟩, ⟨91, [.s [49, 47, 50], .s [49]]⟩, ⟨29, [.s [49], .sl 5 0 2 (some 2), .s [49], .sl 3 0 2 (some 2)]⟩, ⟨3, [.i .i64 1, .i .i64 1]⟩, ⟨29, [.s [49], .sl 5 0 2 (some 2)]⟩, ⟨3, [.i .i64 0, .i .i64 0]⟩], .t [(false, [.i .i64 1]), (false, [.i .i64 0]), (false, [.i .i64 0]), (false, [.i .i64 0])]⟩
def kc1 : Kc := ⟨[.c true [.sl 4 0 1 (some 1), .sl 2 0 2 none, .sl 1 0 1 (some 1), .sl 0 0 1 (some 1)], .c false [.i .i64 20]], [⟨86, [.s [48], .s [49], .s [49, 47, 50], .s [49]]⟩, ⟨91, [.s [49, 47, 50], .s [50]]⟩, ⟨29, [.s [49], .sl 5 0 2 (some 2), .s [49], .sl 3 0 2 (some 2)]⟩, ⟨3, [.i .i64 1, .i .i64 1]⟩, ⟨29, [.s [49], .sl 5 0 2 (some 2)]⟩, ⟨3, [.i .i64 0, .i .i64 0]⟩], .t [(false, [.i .i64 (-1)]), (false, [.i .i64 0]), (false, [.i .i64 1]), (false, [.i .i64 0])]⟩
def kc2 : Kc := ⟨[], [], .c false [.b true]⟩
end
theorem aGK : okK kc0 = true ∧ plA kc0.v = true := by decide +kernel
theorem aGL : okK kc1 = true ∧ plA kc1.v = true := by decide +kernel
theorem aGM : okK kc2 = true ∧ plA kc2.v = true := by decide +kernel
end Go.Proofs.YtamnpcdkcdfgaaaGreatDoor.E
