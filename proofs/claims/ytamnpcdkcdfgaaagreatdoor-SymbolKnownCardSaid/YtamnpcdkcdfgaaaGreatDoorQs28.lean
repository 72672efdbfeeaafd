/- SymbolKnown holds. No condition. -/
import Derived.OpenShut
import Derived.ProofKit
import Derived.SevenTiedAt
import Derived.Test.YtamnpcdkcdfgaaaGreatDoorCards
namespace Go.Proofs.YtamnpcdkcdfgaaaGreatDoor
section
open Go.RowKit Go.ChangeShapes Go.WideShapes Go.ChangeAt
set_option maxRecDepth 100000 in
set_option maxHeartbeats 20000000 in
theorem wB:joinedFacts Tryz.prog 3 Tryz.f3 (OpenSpec.ofChange Rows.symbolKnownSpec).bare Rows.symbolKnownRow=true:=by
 unfold joinedFacts
 repeat' (with_reducible refine Bool.and_eq_true_iff.2 ⟨?_,?_⟩)
 all_goals (as_aux_lemma=>kernel_rfl)
end
end Go.Proofs.YtamnpcdkcdfgaaaGreatDoor
