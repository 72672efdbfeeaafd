/- SymbolKnown holds. No condition. -/
import Derived.Test.YtamnpcdkcdfgaaaGreatDoorQs24
namespace Go.Proofs.YtamnpcdkcdfgaaaGreatDoor
namespace E
open Go Go.RowKit
open Ma Me K
set_option maxRecDepth 1000000 in
theorem aAE:okB (aAI F8 100000 3 [])=true:=by decide+kernel
theorem q_SymbolKnown(w:World)(hT:Tb w)(hP:Px w)(hS:Sh w)(hD:Ds w):Calls Tryz.prog 3 #[] w fun e w'=>e=.returned (.bool true)∧Q w w':=
 aLv f8 mixed aAE w ⟨⟨⟨hT,hP⟩,hS⟩,hD⟩
end E
end Go.Proofs.YtamnpcdkcdfgaaaGreatDoor
