/- SpreadKnown holds. No condition. -/
import Derived.Test.YtciafpbehhmikaaGreatDoorQe22
namespace Go.Proofs.YtciafpbehhmikaaGreatDoor.E
open Go Go.RowKit
open Ma Me K
theorem aJr{F:Cf}(hF:FOk F)(hm:F.P.follows .mixedOrders=true){m fn:Nat}(hx:okB (aDi F m fn [])=true)(w:World)(hb:F.tb w):
  Calls F.P fn #[] w fun e w'=>e=.returned (.bool true)∧Q w w':=by
 unfold okB at hx;split at hx
 ·rename_i h' hc;refine (aJq hF hm hc w hb).mono ?_;rintro e w' ⟨u,d,h1,h2,h3,x,h4,h5⟩;injection h4 with h4;subst h4;rw[h1,show u=.bool true from h5];exact⟨rfl,h3⟩
 ·cases hx
set_option maxRecDepth 1000000 in
theorem zM:okB (aDi F4 100000 3 [])=true:=by decide+kernel
theorem q_SpreadKnown(w:World)(hT:Tb w)(hP:Px w)(hS:Sh w):Calls Tryz.prog 3 #[] w fun e w'=>e=.returned (.bool true)∧Q w w':=
 aJr f4 mixed zM w ⟨⟨hT,hP⟩,hS⟩
end Go.Proofs.YtciafpbehhmikaaGreatDoor.E
