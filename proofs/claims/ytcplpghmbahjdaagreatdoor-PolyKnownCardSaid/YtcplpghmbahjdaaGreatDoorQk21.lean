/- The examples of the document about polynomials. No condition. Part of the proof: texts Ey9. -/
import Derived.Test.YtcplpghmbahjdaaGreatDoorQk20
namespace Go.Proofs.YtcplpghmbahjdaaGreatDoor.E
open Go Go.RowKit
open Ma Me K
set_option maxRecDepth 1000000 in
theorem aBK : okB (zS F1 100000 4 []) = true := by decide +kernel
theorem q_PolyKnown (w : World) (hT : Tb w) (hP : Px w) : Calls Tryz.prog 4 #[] w fun e w' => e = .returned (.bool true) ∧ Q w w' :=
 aIj f1 mixed aBK w ⟨hT, hP⟩
end Go.Proofs.YtcplpghmbahjdaaGreatDoor.E
