/- FilterFamilies holds. No condition. -/
import Derived.Test.YtohcfjmkfflkpaaGreatDoorQf17
namespace Go.Proofs.YtohcfjmkfflkpaaGreatDoor
namespace E
open Go Go.RowKit
open Ma Me K
set_option maxRecDepth 1000000 in
theorem aLd:okB (aDW F0 100000 5 [])=true:=by decide+kernel
theorem aLe(w:World)(hT:Tb w)(hP:Px w):Calls Tryz.prog 5 #[] w fun e w'=>e=.returned (.bool true)∧Q w w':=
 aPP aLd w hT hP
end E
end Go.Proofs.YtohcfjmkfflkpaaGreatDoor
