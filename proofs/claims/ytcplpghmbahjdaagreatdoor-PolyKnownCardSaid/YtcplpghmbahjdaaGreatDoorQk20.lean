/- The examples of the document about polynomials. No condition. Part of the proof: texts Ey7. -/
import Derived.Test.YtcplpghmbahjdaaGreatDoorQk19
namespace Go.Proofs.YtcplpghmbahjdaaGreatDoor.E
open Go Go.RowKit
open Ma Me K
noncomputable section
def aDy (h : H) (args : List AV) : Option AV := match args with
 | [.c false [.sl k 0 3 none], s1, s2] => ob (h.h.get k) fun b => cb (Nat.beq b.ty 36) (cb (svL b.c reL) (cb (avb s1 reA) (cb (avb s2 reB) (some reV) none) none) none) none
 | _ => none
def phT (f : Nat) : Option (H → List AV → Option AV) := cb (Nat.beq f 31) (some aDy) none
def F1 : Cf := ⟨F0.P, F0.tb, F0.nat, F0.pr, F0.pl, phT⟩
end
theorem aGx : ∃ h', fJ F0 (exec F0 100000) 31 [sc (.sl 0 0 3 none), reA, reB] (xV 36 reL) = some (reV, h') := aJ0 aJ1
theorem f1 : FOk F1 := by
 refine ⟨f0.ng, f0.tq, f0.pr, fun fn g h args v hg hx c wb vs R hz hb ha => ?_⟩;obtain ⟨h1, h2⟩ := aD.1 (show cb (Nat.beq fn 31) (some aDy) none = some g from hg);have h1 := aJ.1 h1;injection h2 with h2;subst h1; subst h2;unfold aDy at hx;split at hx
 ·rename_i k s1 s2;obtain ⟨b, hk, hx⟩ := aA.1 hx;obtain ⟨h3, hx⟩ := aD.1 hx;obtain ⟨h4, hx⟩ := aD.1 hx;obtain ⟨h5, hx⟩ := aD.1 hx;obtain ⟨h6, hx⟩ := aD.1 hx;injection hx with hvv;have h3 := aJ.1 h3;have h4 := aBd h4;have h5 := aBe h5;have h6 := aBe h6;subst h5; subst h6; subst hvv;obtain ⟨ty, cs⟩ := b;have h3 : ty = 36 := h3;have h4 : cs = reL := h4;subst h3; subst h4;obtain ⟨h', hrun⟩ := aGx;exact aGw f0 mixed (rest := [reA, reB]) rfl rfl rfl hrun (fun e => by cases e) R hz hb hk ha
 ·cases hx
end Go.Proofs.YtcplpghmbahjdaaGreatDoor.E
