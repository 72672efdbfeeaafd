/- x. Part of the proof: texts Jh6. -/
import Derived.OpenShut
import Derived.ProofKit
import Derived.SevenTiedAt
import Derived.Stop.Joined
import Derived.Test.YtgokbhikgdhmpaaGreatDoorCards

namespace Go.Proofs.YtgokbhikgdhmpaaGreatDoor
open Go.RowKit Go.ChangeShapes Go.WideShapes Go.ChangeAt
set_option maxRecDepth 100000 in
set_option maxHeartbeats 20000000 in
theorem rX : joinedFacts Tryz.prog 6 Tryz.f6 (OpenSpec.ofChange Rows.valueComputesSpec).bare Rows.valueComputesRow = true := by
 unfold joinedFacts
 repeat' (with_reducible refine Bool.and_eq_true_iff.2 ⟨?_, ?_⟩)
 all_goals (as_aux_lemma => kernel_rfl)
end Go.Proofs.YtgokbhikgdhmpaaGreatDoor
