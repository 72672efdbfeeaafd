/- FilterKnown holds. No condition. -/
import Derived.Test.YtamnpcdkcdfgaaaGreatDoorQe20
namespace Go.Proofs.YtamnpcdkcdfgaaaGreatDoor.E
open Go Go.RowKit
open Ma Me K
set_option maxRecDepth 1000000 in
theorem aNK : okW kc1.v (bQ F0 (exec F0 100000) 38 kc1.args (mkH kc1.bs)) = true := by decide +kernel
end Go.Proofs.YtamnpcdkcdfgaaaGreatDoor.E
