/- The laws of a ring, of values and of derivatives hold for poly's functions. No condition. -/
import Derived.Test.YthjhkhlafhjjmaaGreatDoorQa18
namespace Go.Proofs.YthjhkhlafhjjmaaGreatDoor.E
open Go Go.RowKit
open Ma Me K
set_option maxRecDepth 1000000 in
theorem aKG:okB (aEf F0 100000 6 [])=true:=by decide+kernel
theorem aKH(w:World)(hT:Tb w)(hP:Px w):Calls Tryz.prog 6 #[] w fun e w'=>e=.returned (.bool true)∧Q w w':=
 aOP aKG w hT hP
end Go.Proofs.YthjhkhlafhjjmaaGreatDoor.E
