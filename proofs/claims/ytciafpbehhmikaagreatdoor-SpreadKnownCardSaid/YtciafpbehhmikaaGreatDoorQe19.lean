/- SpreadKnown holds. No condition. -/
import Derived.Test.YtciafpbehhmikaaGreatDoorQe17
namespace Go.Proofs.YtciafpbehhmikaaGreatDoor.E
open Go Go.RowKit
open Ma Me K
set_option maxRecDepth 1000000 in
theorem aM8:okW dV2 (aY F3 (exec F3 100000) 11 (dvT 0 1 2::dR2) (mkH bs3))=true:=by decide+kernel
set_option maxRecDepth 1000000 in
theorem aM9:okW dV1 (aY F3 (exec F3 100000) 10 (dvT 0 1 2::dR1) (mkH bs3))=true:=by decide+kernel
end Go.Proofs.YtciafpbehhmikaaGreatDoor.E
