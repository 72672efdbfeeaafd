/- SpreadKnown holds. No condition. -/
import Derived.Test.YtciafpbehhmikaaGreatDoorQe17
namespace Go.Proofs.YtciafpbehhmikaaGreatDoor.E
open Go Go.RowKit
open Ma Me K
set_option maxRecDepth 1000000 in
theorem aM6:okW dV4 (aY F3 (exec F3 100000) 13 (dvT 0 1 2::dR4) (mkH bs3))=true:=by decide+kernel
set_option maxRecDepth 1000000 in
theorem aM7:okW dV0 (aY F3 (exec F3 100000) 6 (dvT 0 1 2::dR0) (mkH bs4))=true:=by decide+kernel
end Go.Proofs.YtciafpbehhmikaaGreatDoor.E
