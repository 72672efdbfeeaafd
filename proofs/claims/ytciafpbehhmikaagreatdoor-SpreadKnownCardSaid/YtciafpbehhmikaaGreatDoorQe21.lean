/- SpreadKnown holds. No condition. -/
import Derived.Test.YtciafpbehhmikaaGreatDoorQe17
namespace Go.Proofs.YtciafpbehhmikaaGreatDoor.E
open Go Go.RowKit
open Ma Me K
set_option maxRecDepth 1000000 in
theorem aNc:okW dV6 (aY F3 (exec F3 100000) 53 (dvT 0 1 2::dR6) (mkH bs3))=true:=by decide+kernel
set_option maxRecDepth 1000000 in
theorem aNd:okW dV5 (aY F3 (exec F3 100000) 13 (dvT 0 1 2::dR5) (mkH bs3))=true:=by decide+kernel
end Go.Proofs.YtciafpbehhmikaaGreatDoor.E
