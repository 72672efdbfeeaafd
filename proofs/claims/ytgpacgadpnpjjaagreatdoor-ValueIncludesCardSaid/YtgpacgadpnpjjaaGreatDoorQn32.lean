/- ValueIncludes (a part of the proof): results of numbers are in the results of their spans. No condition. -/
import Derived.OpenShut
import Derived.ProofKit
import Derived.SevenTiedAt
import Derived.Test.YtgpacgadpnpjjaaGreatDoorCards

namespace Go.Proofs.YtgpacgadpnpjjaaGreatDoor
open Go.RowKit Go.ChangeShapes Go.WideShapes Go.ChangeAt
set_option maxRecDepth 100000 in
set_option maxHeartbeats 20000000 in
theorem aH9 : joinedFacts Tryz.prog 8 Tryz.f8 (OpenSpec.ofChange Rows.valueIncludesSpec).bare Rows.valueIncludesRow = true := by
 unfold joinedFacts
 repeat' (with_reducible refine Bool.and_eq_true_iff.2 ⟨?_, ?_⟩)
 all_goals (as_aux_lemma => kernel_rfl)
end Go.Proofs.YtgpacgadpnpjjaaGreatDoor
