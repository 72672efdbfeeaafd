/- SymbolKnown holds. No condition. -/
import Derived.Test.YtamnpcdkcdfgaaaGreatDoorQs21
namespace Go.Proofs.YtamnpcdkcdfgaaaGreatDoor
namespace E
open Go Go.RowKit
open Ma Me K
set_option maxRecDepth 1000000 in
theorem aOY:okW kc0.v (aU F7 (exec F7 100000) 20 kc0.args (mkH kc0.bs))=true:=by decide+kernel
end E
end Go.Proofs.YtamnpcdkcdfgaaaGreatDoor
