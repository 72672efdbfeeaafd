/- SpreadKnown holds. No condition. -/
import Derived.Test.YtciafpbehhmikaaGreatDoorQe17
namespace Go.Proofs.YtciafpbehhmikaaGreatDoor.E
open Go Go.RowKit
open Ma Me K
set_option maxRecDepth 1000000 in
theorem aNa:okW dV7 (aY F3 (exec F3 100000) 11 (dvT 0 1 2::dR7) (mkH bs3))=true:=by decide+kernel
set_option maxRecDepth 1000000 in
theorem aNb:okW dV3 (aY F3 (exec F3 100000) 12 (dvT 0 1 2::dR3) (mkH bs3))=true:=by decide+kernel
end Go.Proofs.YtciafpbehhmikaaGreatDoor.E
