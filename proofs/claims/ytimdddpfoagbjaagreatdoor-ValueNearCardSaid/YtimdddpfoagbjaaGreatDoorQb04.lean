/- ValueNear (P1.10) for every string and every uint16; no condition. Part of the proof: texts Jh3. -/
import Derived.OpenShut
import Derived.ProofKit
import Derived.SevenTiedAt
import Derived.Stop.Joined
import Derived.Test.YtimdddpfoagbjaaGreatDoorCards
import Derived.Test.YtimdddpfoagbjaaGreatDoorQa01
import Derived.Test.YtimdddpfoagbjaaGreatDoorQa02
import Derived.Test.YtimdddpfoagbjaaGreatDoorQa03
import Derived.Test.YtimdddpfoagbjaaGreatDoorQa04
import Derived.Test.YtimdddpfoagbjaaGreatDoorQa05
import Derived.Test.YtimdddpfoagbjaaGreatDoorQa06
import Derived.Test.YtimdddpfoagbjaaGreatDoorQa07
import Derived.Test.YtimdddpfoagbjaaGreatDoorQa08
import Derived.Test.YtimdddpfoagbjaaGreatDoorQa09
import Derived.Test.YtimdddpfoagbjaaGreatDoorQa10
import Derived.Test.YtimdddpfoagbjaaGreatDoorQa11
import Derived.Test.YtimdddpfoagbjaaGreatDoorQa12
import Derived.Test.YtimdddpfoagbjaaGreatDoorQa13
import Derived.Test.YtimdddpfoagbjaaGreatDoorQa14
import Derived.Test.YtimdddpfoagbjaaGreatDoorQa15
import Derived.Test.YtimdddpfoagbjaaGreatDoorQa16
import Derived.Test.YtimdddpfoagbjaaGreatDoorQa17
import Derived.Test.YtimdddpfoagbjaaGreatDoorQa18
import Derived.Test.YtimdddpfoagbjaaGreatDoorQa19
import Derived.Test.YtimdddpfoagbjaaGreatDoorQa20
import Derived.Test.YtimdddpfoagbjaaGreatDoorQa21
import Derived.Test.YtimdddpfoagbjaaGreatDoorQa22
import Derived.Test.YtimdddpfoagbjaaGreatDoorQa23
import Derived.Test.YtimdddpfoagbjaaGreatDoorQa24
import Derived.Test.YtimdddpfoagbjaaGreatDoorQa25
import Derived.Test.YtimdddpfoagbjaaGreatDoorQa26
import Derived.Test.YtimdddpfoagbjaaGreatDoorQa27
import Derived.Test.YtimdddpfoagbjaaGreatDoorQa29

namespace Go.Proofs.YtimdddpfoagbjaaGreatDoor
open Go.RowKit Go.ChangeShapes Go.WideShapes Go.ChangeAt
set_option maxRecDepth 100000 in
set_option maxHeartbeats 20000000 in
theorem facts_ValueNear : joinedFacts Tryz.prog 13 Tryz.f13 (OpenSpec.ofChange Rows.valueNearSpec).bare Rows.valueNearRow = true := by
  unfold joinedFacts
  repeat' (with_reducible refine Bool.and_eq_true_iff.2 ⟨?_, ?_⟩)
  all_goals (as_aux_lemma => kernel_rfl)
end Go.Proofs.YtimdddpfoagbjaaGreatDoor
