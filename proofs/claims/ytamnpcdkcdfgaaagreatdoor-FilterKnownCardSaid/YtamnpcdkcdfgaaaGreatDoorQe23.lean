/- FilterKnown holds. No condition. -/
import Derived.Test.YtamnpcdkcdfgaaaGreatDoorQe20
namespace Go.Proofs.YtamnpcdkcdfgaaaGreatDoor.E
open Go Go.RowKit
open Ma Me K
set_option maxRecDepth 1000000 in
theorem aNL : okW kc2.v (bQ F0 (exec F0 100000) 39 kc2.args (mkH kc2.bs)) = true := by decide +kernel
end Go.Proofs.YtamnpcdkcdfgaaaGreatDoor.E
