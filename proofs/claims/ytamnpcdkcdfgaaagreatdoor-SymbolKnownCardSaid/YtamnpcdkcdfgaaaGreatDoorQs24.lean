/- SymbolKnown holds. No condition. -/
import Derived.Test.YtamnpcdkcdfgaaaGreatDoorQs22
import Derived.Test.YtamnpcdkcdfgaaaGreatDoorQs23
namespace Go.Proofs.YtamnpcdkcdfgaaaGreatDoor
namespace E
open Go Go.RowKit
open Ma Me K
noncomputable section
def phS(f:Nat):Option (H→List AV→Option AV):=cb (Nat.beq f 130) (some zZ) (cb (Nat.beq f 20) (some (gKs [kc0])) (cb (Nat.beq f 22) (some (gKs [kc1])) none))
def F8:Cf:=⟨F7.P,F7.tb,F7.nat,F7.pr,F7.pl,phS,roD,F7.ln,pwS⟩
end
theorem f8:FOk F8:=by
 refine⟨f7.ng,f7.tq,f7.pr,f7.ro,f7.ln,fun fn g h args v hg hx c wb vs R hz hb ha=>?_,f7.pw⟩;have hk:cb (Nat.beq fn 130) (some zZ) (cb (Nat.beq fn 20) (some (gKs [kc0])) (cb (Nat.beq fn 22) (some (gKs [kc1])) none))=some g:=hg;clear hg;rw[aL]at hk;split at hk
 ·rename_i h1;exact f7.ph fn g h args v (show cb (Nat.beq fn 130) (some zZ) none=some g by rw[aL,if_pos h1];exact hk) hx c wb vs R hz hb ha
 ·rw[aL]at hk;split at hk
  ·rename_i h1;have h1:=aH.1 h1;injection hk with hkk;subst h1;subst hkk;exact aHp f7 mixed (m:=100000) (fun p hp=>by
    rcases List.mem_cons.1 hp with rfl|hp
    ·exact⟨aHw.1,aHw.2,aOY⟩
    ·cases hp) hx R hz hb ha
  ·obtain⟨h1,hk⟩:=aB.1 hk;have h1:=aH.1 h1;injection hk with hkk;subst h1;subst hkk;exact aHp f7 mixed (m:=100000) (fun p hp=>by
    rcases List.mem_cons.1 hp with rfl|hp
    ·exact⟨aHx.1,aHx.2,aOZ⟩
    ·cases hp) hx R hz hb ha
theorem aLv{F:Cf}(hF:FOk F)(hm:F.P.follows .mixedOrders=true){m fn:Nat}(hx:okB (aAI F m fn [])=true)(w:World)(hb:F.tb w):
  Calls F.P fn #[] w fun e w'=>e=.returned (.bool true)∧Q w w':=by
 unfold okB at hx;split at hx
 ·rename_i h' hc;refine (aD4 hF hm hc w hb).mono ?_;rintro e w' ⟨u,d,h1,h2,h3,x,h4,h5⟩;injection h4 with h4;subst h4;rw[h1,show u=.bool true from h5];exact⟨rfl,h3⟩
 ·cases hx
end E
end Go.Proofs.YtamnpcdkcdfgaaaGreatDoor
