/- Laws of values (P1.7, P1.8), each for every three strings; no condition. Part of the proof: texts Jh1. -/
import Derived.OpenShut
import Derived.ProofKit
import Derived.SevenTiedAt
import Derived.Stop.Joined
import Derived.Test.YtimdddpfoagbjaaGreatDoorCards

namespace Go.Proofs.YtimdddpfoagbjaaGreatDoor
open Go.RowKit Go.ChangeShapes Go.WideShapes Go.ChangeAt
set_option maxRecDepth 100000 in
set_option maxHeartbeats 20000000 in
theorem facts_ValueOrder : joinedFacts Tryz.prog 11 Tryz.f11 (OpenSpec.ofChange Rows.valueOrderSpec).bare Rows.valueOrderRow = true := by
  unfold joinedFacts
  repeat' (with_reducible refine Bool.and_eq_true_iff.2 ⟨?_, ?_⟩)
  all_goals (as_aux_lemma => kernel_rfl)
end Go.Proofs.YtimdddpfoagbjaaGreatDoor
