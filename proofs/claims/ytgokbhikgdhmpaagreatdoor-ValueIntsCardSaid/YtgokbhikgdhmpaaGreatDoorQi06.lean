/- ValueInts: for every two int64 and every int the law holds. Part of the proof: texts Jg7. -/
import Derived.Test.YtgokbhikgdhmpaaGreatDoorQy01
import Derived.Test.YtgokbhikgdhmpaaGreatDoorQy02
import Derived.Test.YtgokbhikgdhmpaaGreatDoorQy03
import Derived.Test.YtgokbhikgdhmpaaGreatDoorQy04
import Derived.Test.YtgokbhikgdhmpaaGreatDoorQy05
import Derived.Test.YtgokbhikgdhmpaaGreatDoorQy06
import Derived.Test.YtgokbhikgdhmpaaGreatDoorQy07
import Derived.Test.YtgokbhikgdhmpaaGreatDoorQy08
import Derived.Test.YtgokbhikgdhmpaaGreatDoorQy09
import Derived.Test.YtgokbhikgdhmpaaGreatDoorQy10
import Derived.Test.YtgokbhikgdhmpaaGreatDoorQy11
import Derived.Test.YtgokbhikgdhmpaaGreatDoorQy12
import Derived.Test.YtgokbhikgdhmpaaGreatDoorQy13
import Derived.Test.YtgokbhikgdhmpaaGreatDoorQy14
import Derived.Test.YtgokbhikgdhmpaaGreatDoorQy15
import Derived.Test.YtgokbhikgdhmpaaGreatDoorQy16
import Derived.Test.YtgokbhikgdhmpaaGreatDoorQy17
import Derived.Test.YtgokbhikgdhmpaaGreatDoorQy18
import Derived.Test.YtgokbhikgdhmpaaGreatDoorQy19
import Derived.Test.YtgokbhikgdhmpaaGreatDoorQy20
import Derived.Test.YtgokbhikgdhmpaaGreatDoorQy21
import Derived.Test.YtgokbhikgdhmpaaGreatDoorQy22
import Derived.Test.YtgokbhikgdhmpaaGreatDoorQy23
import Derived.Test.YtgokbhikgdhmpaaGreatDoorQy24
import Derived.Test.YtgokbhikgdhmpaaGreatDoorQy25
import Derived.Test.YtgokbhikgdhmpaaGreatDoorQy26
import Derived.Test.YtgokbhikgdhmpaaGreatDoorQy27
import Derived.Test.YtgokbhikgdhmpaaGreatDoorQy28
import Derived.Test.YtgokbhikgdhmpaaGreatDoorQy29
import Derived.Test.YtgokbhikgdhmpaaGreatDoorQy32
import Derived.Test.YtgokbhikgdhmpaaGreatDoorQi04
import Derived.Test.YtgokbhikgdhmpaaGreatDoorQi05
namespace Go.Proofs.YtgokbhikgdhmpaaGreatDoor.valueInts
open Go.RowKit Go.ChangeShapes Go.WideShapes Go.ChangeAt
open Ma Me
theorem said : Rows.ValueIntsSaid :=
 OpenClaim.holds_of_cond 7 Tryz.f7 rfl rfl rfl rfl rfl rfl rfl ⟨rfl, rfl, rfl, rfl, rfl⟩ rfl rfl rfl rfl rfl (by kernel_rfl) Tryz.func7 bQ
  (of_decide_eq_true (by kernel_rfl)) (by unfold Func.isWrapper; first | (rw [if_pos (by decide +kernel)]; kernel_rfl) | (rw [if_neg (by decide +kernel)]; exact ⟨rfl, rfl⟩))
  (fun os started H enc _ F => by rw [OpenClaim.pre_eq_preRow]; exact lifted os started H enc F)
theorem plain (f : FuncId) (fn : Func) (hf : Tryz.pinned.checked.prog.funcNamed "pentode/pentodelaw01.ValueInts" = some f) (hfn : Tryz.pinned.checked.prog.funcs[f]? = some fn) :
  false = Tryz.pinned.checked.prog.looks [] ∧ ∀ (j : Nat) t, fn.params[j]? = some t → Tryz.pinned.checked.prog.wantsStandIn t = false := by
 obtain rfl : f = 7 := Option.some.inj ((show Tryz.prog.funcNamed "pentode/pentodelaw01.ValueInts" = some 7 by kernel_rfl).symm.trans hf) |>.symm;obtain rfl : fn = Tryz.f7 := (Option.some.inj (Tryz.func7.symm.trans hfn)).symm;refine ⟨by kernel_rfl, fun j t ht => ?_⟩;rw [Tryz.params7] at ht;have hm : t ∈ ([2, 2, 3] : List TypeId) := by simpa using Array.mem_of_getElem? ht
 have hall : (([2, 2, 3] : List TypeId).all fun u => !Tryz.prog.wantsStandIn u) = true := by kernel_rfl
 exact (show Tryz.prog.wantsStandIn t = false by simpa using List.all_eq_true.1 hall t hm)
theorem card : Rows.ValueIntsCardSaid :=
 Claim7.holds_tied_plain_at .later [] _ _ _ _ said (fun _ h => by cases h) (by as_aux_lemma => kernel_rfl) (fun _ h => by cases h) valueInts_row_tie rfl ⟨rfl, rfl⟩ (by as_aux_lemma => kernel_rfl) rfl plain (by as_aux_lemma => kernel_rfl)
end Go.Proofs.YtgokbhikgdhmpaaGreatDoor.valueInts
