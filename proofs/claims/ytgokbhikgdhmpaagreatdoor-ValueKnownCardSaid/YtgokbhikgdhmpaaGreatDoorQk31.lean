/- ValueKnown (examples): the law holds. No condition.. Part of the proof: texts Jh4. -/
import Derived.OpenShut
import Derived.ProofKit
import Derived.SevenTiedAt
import Derived.Stop.Joined
import Derived.Test.YtgokbhikgdhmpaaGreatDoorCards

namespace Go.Proofs.YtgokbhikgdhmpaaGreatDoor
open Go.RowKit Go.ChangeShapes Go.WideShapes Go.ChangeAt
set_option maxRecDepth 100000 in
set_option maxHeartbeats 20000000 in
theorem facts_ValueKnown : joinedFacts Tryz.prog 15 Tryz.f15 (OpenSpec.ofChange Rows.valueKnownSpec).bare Rows.valueKnownRow = true := by
 unfold joinedFacts
 repeat' (with_reducible refine Bool.and_eq_true_iff.2 ⟨?_, ?_⟩)
 all_goals (as_aux_lemma => kernel_rfl)
end Go.Proofs.YtgokbhikgdhmpaaGreatDoor
