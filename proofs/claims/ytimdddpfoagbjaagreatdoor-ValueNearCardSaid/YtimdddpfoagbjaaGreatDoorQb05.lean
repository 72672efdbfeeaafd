/- ValueNear (P1.10) for every string and every uint16; no condition. Part of the proof: texts Jg3. -/
import Derived.BigQuiet
import Derived.Deep.DeepHandedRow
import Derived.LaidMore
import Derived.Lay
import Derived.Lib.IndexBytes
import Derived.Lib.IndexLaws
import Derived.OpenShut
import Derived.ProofKit
import Derived.SevenTiedAt
import Derived.Stop.Joined
import Derived.Test.YtimdddpfoagbjaaGreatDoorCards
import Derived.Test.YtimdddpfoagbjaaGreatDoorQa01
import Derived.Test.YtimdddpfoagbjaaGreatDoorQa02
import Derived.Test.YtimdddpfoagbjaaGreatDoorQa03
import Derived.Test.YtimdddpfoagbjaaGreatDoorQa04
import Derived.Test.YtimdddpfoagbjaaGreatDoorQa05
import Derived.Test.YtimdddpfoagbjaaGreatDoorQa06
import Derived.Test.YtimdddpfoagbjaaGreatDoorQa07
import Derived.Test.YtimdddpfoagbjaaGreatDoorQa08
import Derived.Test.YtimdddpfoagbjaaGreatDoorQa09
import Derived.Test.YtimdddpfoagbjaaGreatDoorQa10
import Derived.Test.YtimdddpfoagbjaaGreatDoorQa11
import Derived.Test.YtimdddpfoagbjaaGreatDoorQa12
import Derived.Test.YtimdddpfoagbjaaGreatDoorQa13
import Derived.Test.YtimdddpfoagbjaaGreatDoorQa14
import Derived.Test.YtimdddpfoagbjaaGreatDoorQa15
import Derived.Test.YtimdddpfoagbjaaGreatDoorQa16
import Derived.Test.YtimdddpfoagbjaaGreatDoorQa17
import Derived.Test.YtimdddpfoagbjaaGreatDoorQa18
import Derived.Test.YtimdddpfoagbjaaGreatDoorQa19
import Derived.Test.YtimdddpfoagbjaaGreatDoorQa20
import Derived.Test.YtimdddpfoagbjaaGreatDoorQa21
import Derived.Test.YtimdddpfoagbjaaGreatDoorQa22
import Derived.Test.YtimdddpfoagbjaaGreatDoorQa23
import Derived.Test.YtimdddpfoagbjaaGreatDoorQa24
import Derived.Test.YtimdddpfoagbjaaGreatDoorQa25
import Derived.Test.YtimdddpfoagbjaaGreatDoorQa26
import Derived.Test.YtimdddpfoagbjaaGreatDoorQa27
import Derived.Test.YtimdddpfoagbjaaGreatDoorQa29
import Derived.Test.YtimdddpfoagbjaaGreatDoorTie
import Derived.WalkSpells
import Derived.Test.YtimdddpfoagbjaaGreatDoorQb02
import Derived.Test.YtimdddpfoagbjaaGreatDoorQb03
import Derived.Test.YtimdddpfoagbjaaGreatDoorQb04
import Derived.Test.YtimdddpfoagbjaaGreatDoorQb05x
namespace Go.Proofs.YtimdddpfoagbjaaGreatDoor.valueNear
open Go.RowKit Go.ChangeShapes Go.WideShapes Go.ChangeAt
open Ma Me
theorem said : Rows.ValueNearSaid :=
  OpenClaim.holds_of_cond 13 Tryz.f13 rfl rfl rfl rfl rfl rfl rfl ⟨rfl, rfl, rfl, rfl, rfl⟩ rfl rfl rfl rfl rfl (by kernel_rfl) Tryz.func13 facts_ValueNear
    (of_decide_eq_true (by kernel_rfl)) (by unfold Func.isWrapper; first | (rw [if_pos (by decide +kernel)]; kernel_rfl) | (rw [if_neg (by decide +kernel)]; exact ⟨rfl, rfl⟩))
    (fun os started H enc _ F => by rw [OpenClaim.pre_eq_preRow]; exact lifted os started H enc F)
theorem plain (f : FuncId) (fn : Func) (hf : Tryz.pinned.checked.prog.funcNamed "pentode/pentodelaw01.ValueNear" = some f) (hfn : Tryz.pinned.checked.prog.funcs[f]? = some fn) :
    false = Tryz.pinned.checked.prog.looks [] ∧ ∀ (j : Nat) t, fn.params[j]? = some t → Tryz.pinned.checked.prog.wantsStandIn t = false := by
  obtain rfl : f = 13 := Option.some.inj ((show Tryz.prog.funcNamed "pentode/pentodelaw01.ValueNear" = some 13 by kernel_rfl).symm.trans hf) |>.symm
  obtain rfl : fn = Tryz.f13 := (Option.some.inj (Tryz.func13.symm.trans hfn)).symm
  refine ⟨by kernel_rfl, fun j t ht => ?_⟩
  rw [Tryz.params13] at ht
  have hm : t ∈ [29, 108] := by simpa using Array.mem_of_getElem? ht
  have hall : (([29, 108] : List TypeId).all fun u => !Tryz.prog.wantsStandIn u) = true := by kernel_rfl
  exact (show Tryz.prog.wantsStandIn t = false by simpa using List.all_eq_true.1 hall t hm)
theorem card : Rows.ValueNearCardSaid :=
  Claim7.holds_tied_plain_at .later [] _ _ _ _ said (fun _ h => by cases h) (by as_aux_lemma => kernel_rfl) (fun _ h => by cases h) valueNear_row_tie rfl ⟨rfl, rfl⟩ (by as_aux_lemma => kernel_rfl) rfl plain (by as_aux_lemma => kernel_rfl)
end Go.Proofs.YtimdddpfoagbjaaGreatDoor.valueNear
