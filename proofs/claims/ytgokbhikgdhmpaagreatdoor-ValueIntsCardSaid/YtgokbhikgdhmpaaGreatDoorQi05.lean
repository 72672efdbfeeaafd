/- ValueInts: for every two int64 and every int the law holds. Part of the proof: texts Jh7. -/
import Derived.OpenShut
import Derived.ProofKit
import Derived.SevenTiedAt
import Derived.Stop.Joined
import Derived.Test.YtgokbhikgdhmpaaGreatDoorCards

namespace Go.Proofs.YtgokbhikgdhmpaaGreatDoor
open Go.RowKit Go.ChangeShapes Go.WideShapes Go.ChangeAt
set_option maxRecDepth 100000 in
set_option maxHeartbeats 20000000 in
theorem bQ : joinedFacts Tryz.prog 7 Tryz.f7 (OpenSpec.ofChange Rows.valueIntsSpec).bare Rows.valueIntsRow = true := by
 unfold joinedFacts
 repeat' (with_reducible refine Bool.and_eq_true_iff.2 ⟨?_, ?_⟩)
 all_goals (as_aux_lemma => kernel_rfl)
end Go.Proofs.YtgokbhikgdhmpaaGreatDoor
