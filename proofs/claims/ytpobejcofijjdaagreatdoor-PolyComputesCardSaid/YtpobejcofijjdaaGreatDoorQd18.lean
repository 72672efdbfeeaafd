/- PolyComputes is true for any two slices of strings and any two strings. No condition. -/
import Derived.Test.YtpobejcofijjdaaGreatDoorQd17
namespace Go.Proofs.YtpobejcofijjdaaGreatDoor.E
open Go Go.RowKit
open Ma Me K
set_option maxRecDepth 1000000 in
theorem aKH:okB (aDE F0 100000 6 [])=true:=by decide+kernel
theorem aKI(w:World)(hT:Tb w)(hP:Px w):Calls Tryz.prog 6 #[] w fun e w'=>e=.returned (.bool true)∧Q w w':=
 aO9 aKH w hT hP
end Go.Proofs.YtpobejcofijjdaaGreatDoor.E
