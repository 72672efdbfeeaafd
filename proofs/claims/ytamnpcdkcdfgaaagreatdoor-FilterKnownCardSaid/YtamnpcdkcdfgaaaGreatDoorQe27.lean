/- FilterKnown holds. No condition. -/
import Derived.OpenShut
import Derived.ProofKit
import Derived.SevenTiedAt
import Derived.Test.YtamnpcdkcdfgaaaGreatDoorCards
namespace Go.Proofs.YtamnpcdkcdfgaaaGreatDoor
open Go.RowKit Go.ChangeShapes Go.WideShapes Go.ChangeAt
set_option maxRecDepth 100000 in
set_option maxHeartbeats 20000000 in
theorem vM : joinedFacts Tryz.prog 4 Tryz.f4 (OpenSpec.ofChange Rows.filterKnownSpec).bare Rows.filterKnownRow = true := by
 unfold joinedFacts
 repeat' (with_reducible refine Bool.and_eq_true_iff.2 ⟨?_, ?_⟩)
 all_goals (as_aux_lemma => kernel_rfl)
end Go.Proofs.YtamnpcdkcdfgaaaGreatDoor
