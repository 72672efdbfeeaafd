/- FilterKnown holds. No condition. -/
import Derived.Test.YtamnpcdkcdfgaaaGreatDoorQe21
import Derived.Test.YtamnpcdkcdfgaaaGreatDoorQe22
import Derived.Test.YtamnpcdkcdfgaaaGreatDoorQe23
namespace Go.Proofs.YtamnpcdkcdfgaaaGreatDoor.E
open Go Go.RowKit
open Ma Me K
noncomputable section
def ph8 : List (Nat × (H → List AV → Option AV)) := [
 (38, gKs [kc0, kc1]),
 (39, gKs [kc2])]
def F6 : Cf := ⟨F0.P, F0.tb, F0.nat, F0.pr, F0.pl, fun f => (T.ofL ph8 : T 3 _).get f, F0.ro, F0.ln, F0.pw⟩
end
theorem f6 : FOk F6 := by
 refine ⟨f0.ng, f0.tq, f0.pr, f0.ro, f0.ln, fun fn g h args v hg hx c wb vs R hz hb ha => ?_, f0.pw⟩;have hmem := qD (show (T.ofL ph8 : T 3 _).get fn = some g from hg);rcases List.mem_cons.1 hmem with he | hmem
 ·injection he with e1 e2;subst e1; subst e2;exact aGJ f0 mixed (m := 100000) (fun p hp => by
   rcases List.mem_cons.1 hp with rfl | hp
   ·exact ⟨aGK.1, aGK.2, aNJ⟩
   ·rcases List.mem_cons.1 hp with rfl | hp
    ·exact ⟨aGL.1, aGL.2, aNK⟩
    ·cases hp) hx R hz hb ha
 ·rcases List.mem_cons.1 hmem with he | hmem
  ·injection he with e1 e2;subst e1; subst e2;exact aGJ f0 mixed (m := 100000) (fun p hp => by
    rcases List.mem_cons.1 hp with rfl | hp
    ·exact ⟨aGM.1, aGM.2, aNL⟩
    ·cases hp) hx R hz hb ha
  ·cases hmem
theorem aKA {F : Cf} (hF : FOk F) (hm : F.P.follows .mixedOrders = true) {m fn : Nat} (hx : okB (aAo F m fn []) = true) (w : World) (hb : F.tb w) :
  Calls F.P fn #[] w fun e w' => e = .returned (.bool true) ∧ Q w w' := by
 unfold okB at hx;split at hx
 ·rename_i h' hc;refine (aDv hF hm hc w hb).mono ?_;rintro e w' ⟨u, d, h1, h2, h3, x, h4, h5⟩;injection h4 with h4;subst h4;rw [h1, show u = .bool true from h5];exact ⟨rfl, h3⟩
 ·cases hx
set_option maxRecDepth 1000000 in
theorem aAk : okB (aAo F6 100000 4 []) = true := by decide +kernel
theorem q_FilterKnown (w : World) (hT : Tb w) (hP : Px w) : Calls Tryz.prog 4 #[] w fun e w' => e = .returned (.bool true) ∧ Q w w' :=
 aKA f6 mixed aAk w ⟨hT, hP⟩
end Go.Proofs.YtamnpcdkcdfgaaaGreatDoor.E
