/- The examples of the document about polynomials. No condition. Part of the proof: texts Ey6. -/
import Derived.Test.YtcplpghmbahjdaaGreatDoorQk18
namespace Go.Proofs.YtcplpghmbahjdaaGreatDoor.E
open Go Go.RowKit
open Ma Me K
noncomputable section
def reL : List SV := [.b false, .m 1, .m 0, .b false, .m 0, .m 0, .b false, .m 1, .m 0]
def reA : AV := .c true [.b true, .m 1, .m 0, .b false, .m 1, .m 0]
def reB : AV := .c true [.b false, .m 1, .m 0, .b false, .m 2, .m 0]
def reV : AV := .t [(false, [.i .i64 0]), (false, [.i .i64 120])]
set_option maxRecDepth 1000000 in
theorem aJ1 : okV reV (aDx F0 100000 31 [sc (.sl 0 0 3 none), reA, reB] (xV 36 reL)) = true := by decide +kernel
end
end Go.Proofs.YtcplpghmbahjdaaGreatDoor.E
