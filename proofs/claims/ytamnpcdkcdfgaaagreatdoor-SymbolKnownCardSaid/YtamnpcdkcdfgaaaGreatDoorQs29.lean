/- SymbolKnown holds. No condition. -/
import Derived.OpenShut
import Derived.ProofKit
import Derived.SevenTiedAt
import Derived.Test.YtamnpcdkcdfgaaaGreatDoorCards
namespace Go.Proofs.YtamnpcdkcdfgaaaGreatDoor.symbolKnown
open Go.RowKit Go.ChangeShapes Go.WideShapes Go.ChangeAt
theorem wf : Rows.symbolKnownRow.wfByText (OpenSpec.ofChange Rows.symbolKnownSpec) = true := by kernel_rfl
theorem noneGoes : (Tryz.prog.funcs.toList.all fun fn => !fn.goes) = true := by kernel_rfl
theorem goesNone {P : Program} (h : (P.funcs.toList.all fun fn => !fn.goes) = true) (s : String) : P.goesAt .entering s = false := by
  have h0 : ∀ fn ∈ P.funcs.toList, fn.goes = false := fun fn hm => by simpa using List.all_eq_true.1 h fn hm
  have h1 : ∀ g : FuncId, (P.funcs[g]?).any Func.goes = false := fun g => by
    cases hg : P.funcs[(g : Nat)]? with
    | none => rfl
    | some fn => exact h0 fn (Array.mem_toList_iff.2 (Array.mem_of_getElem? hg))
  have h2 : P.funcs.any Func.goes = false := by
    rw [← Array.any_toList, List.any_eq_false]
    exact fun fn hm => by rw [h0 fn hm]; exact Bool.false_ne_true
  have h3 : ∀ f, P.goes f = false := fun f => by
    unfold Program.goes
    rw [h2, Bool.and_false, Bool.or_false]
    simp only [h1]
    simp
  unfold Program.goesAt Program.goesFrom
  cases P.funcNamed s with
  | none => rfl
  | some f => simp [h3]
theorem goes : false = Rows.symbolKnownRow.goesBy Tryz.pinned.checked.prog := (goesNone noneGoes Rows.symbolKnownRow.func).symm
end Go.Proofs.YtamnpcdkcdfgaaaGreatDoor.symbolKnown
