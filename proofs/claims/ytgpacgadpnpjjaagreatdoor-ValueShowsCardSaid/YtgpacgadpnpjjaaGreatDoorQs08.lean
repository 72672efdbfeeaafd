/- ValueShows: for every two strings the law holds: Show of the number that the first one is, and of its product with the other one, is what the document says, or nothing if one is none. No condition.. Part of the proof: texts Jgb. -/
import Derived.Test.YtgpacgadpnpjjaaGreatDoorQp01
import Derived.Test.YtgpacgadpnpjjaaGreatDoorQp02
import Derived.Test.YtgpacgadpnpjjaaGreatDoorQp03
import Derived.Test.YtgpacgadpnpjjaaGreatDoorQp04
import Derived.Test.YtgpacgadpnpjjaaGreatDoorQp05
import Derived.Test.YtgpacgadpnpjjaaGreatDoorQp06
import Derived.Test.YtgpacgadpnpjjaaGreatDoorQp07
import Derived.Test.YtgpacgadpnpjjaaGreatDoorQp08
import Derived.Test.YtgpacgadpnpjjaaGreatDoorQp09
import Derived.Test.YtgpacgadpnpjjaaGreatDoorQp10
import Derived.Test.YtgpacgadpnpjjaaGreatDoorQp11
import Derived.Test.YtgpacgadpnpjjaaGreatDoorQp12
import Derived.Test.YtgpacgadpnpjjaaGreatDoorQp13
import Derived.Test.YtgpacgadpnpjjaaGreatDoorQp14
import Derived.Test.YtgpacgadpnpjjaaGreatDoorQp15
import Derived.Test.YtgpacgadpnpjjaaGreatDoorQp16
import Derived.Test.YtgpacgadpnpjjaaGreatDoorQp17
import Derived.Test.YtgpacgadpnpjjaaGreatDoorQp18
import Derived.Test.YtgpacgadpnpjjaaGreatDoorQp19
import Derived.Test.YtgpacgadpnpjjaaGreatDoorQp20
import Derived.Test.YtgpacgadpnpjjaaGreatDoorQp21
import Derived.Test.YtgpacgadpnpjjaaGreatDoorQp22
import Derived.Test.YtgpacgadpnpjjaaGreatDoorQp23
import Derived.Test.YtgpacgadpnpjjaaGreatDoorQp24
import Derived.Test.YtgpacgadpnpjjaaGreatDoorQp25
import Derived.Test.YtgpacgadpnpjjaaGreatDoorQp27
import Derived.Test.YtgpacgadpnpjjaaGreatDoorQs06
import Derived.Test.YtgpacgadpnpjjaaGreatDoorQs07
namespace Go.Proofs.YtgpacgadpnpjjaaGreatDoor.valueShows
open Go.RowKit Go.ChangeShapes Go.WideShapes Go.ChangeAt
open Ma Me
theorem said : Rows.ValueShowsSaid :=
 OpenClaim.holds_of_cond 5 Tryz.f5 rfl rfl rfl rfl rfl rfl rfl ⟨rfl, rfl, rfl, rfl, rfl⟩ rfl rfl rfl rfl rfl (by kernel_rfl) Tryz.func5 aHb
  (of_decide_eq_true (by kernel_rfl)) (by unfold Func.isWrapper; first | (rw [if_pos (by decide +kernel)]; kernel_rfl) | (rw [if_neg (by decide +kernel)]; exact ⟨rfl, rfl⟩))
  (fun os started H enc _ F => by rw [OpenClaim.pre_eq_preRow]; exact lifted os started H enc F)
theorem plain (f : FuncId) (fn : Func) (hf : Tryz.pinned.checked.prog.funcNamed "pentode/pentodelaw01.ValueShows" = some f) (hfn : Tryz.pinned.checked.prog.funcs[f]? = some fn) :
  false = Tryz.pinned.checked.prog.looks [] ∧ ∀ (j : Nat) t, fn.params[j]? = some t → Tryz.pinned.checked.prog.wantsStandIn t = false := by
 obtain rfl : f = 5 := Option.some.inj ((show Tryz.prog.funcNamed "pentode/pentodelaw01.ValueShows" = some 5 by kernel_rfl).symm.trans hf) |>.symm;obtain rfl : fn = Tryz.f5 := (Option.some.inj (Tryz.func5.symm.trans hfn)).symm;refine ⟨by kernel_rfl, fun j t ht => ?_⟩;rw [Tryz.params5] at ht;have hm : t ∈ ([29, 29] : List TypeId) := by simpa using Array.mem_of_getElem? ht
 have hall : (([29, 29] : List TypeId).all fun u => !Tryz.prog.wantsStandIn u) = true := by kernel_rfl
 exact (show Tryz.prog.wantsStandIn t = false by simpa using List.all_eq_true.1 hall t hm)
theorem card : Rows.ValueShowsCardSaid :=
 Claim7.holds_tied_plain_at .later [] _ _ _ _ said (fun _ h => by cases h) (by as_aux_lemma => kernel_rfl) (fun _ h => by cases h) valueShows_row_tie rfl ⟨rfl, rfl⟩ (by as_aux_lemma => kernel_rfl) rfl plain (by as_aux_lemma => kernel_rfl)
end Go.Proofs.YtgpacgadpnpjjaaGreatDoor.valueShows
