/- SymbolKnown holds. No condition. -/
import Derived.Test.YtamnpcdkcdfgaaaGreatDoorQs20
namespace Go.Proofs.YtamnpcdkcdfgaaaGreatDoor
namespace E
open Go Go.RowKit
open Ma Me K
noncomputable section
def pwS(f:Nat):Option (H→List AV→Option (B × Nat × Nat)):=cb (Nat.beq f 51) (some (aJe F5 10000 1000 51 aNJ)) (cb (Nat.beq f 227) (some (gDs aJf)) (cb (Nat.beq f 226) (some (gDs aJg)) none))
def F7:Cf:=⟨F5.P,F5.tb,F5.nat,F5.pr,F5.pl,phC,roD,F5.ln,pwS⟩
end
theorem f7:FOk F7:=by
 refine⟨f5.ng,f5.tq,f5.pr,f5.ro,f5.ln,f5.ph,fun fn g h args b n m hg hx c wb vs R hz hb ha=>?_⟩;have hk:cb (Nat.beq fn 51) (some (aJe F5 10000 1000 51 aNJ)) (cb (Nat.beq fn 227) (some (gDs aJf)) (cb (Nat.beq fn 226) (some (gDs aJg)) none))=some g:=hg;clear hg;rw[aL]at hk;split at hk
 ·rename_i h1;have h1:=aH.1 h1;injection hk with hkk;subst h1;subst hkk;exact aLm f5 mixed hx R hz hb ha
 ·rw[aL]at hk;split at hk
  ·rename_i h1;have h1:=aH.1 h1;injection hk with hkk;subst h1;subst hkk;exact aEc f5 mixed aLt hx R hz hb ha
  ·obtain⟨h1,hk⟩:=aB.1 hk;have h1:=aH.1 h1;injection hk with hkk;subst h1;subst hkk;exact aEc f5 mixed aLu hx R hz hb ha
noncomputable section
def kc0:Kc:=⟨[.c true [.i .i64 1,.sl 0 0 1 (some 1),.sl 0 0 1 (some 1),.sl 0 0 1 (some 1),.sl 0 0 1 (some 1),.sl 0 0 1 (some 1)],.c false [.i .i64 2]],[⟨26,[.s [49]]⟩],.t [(true,[.i .i64 0,.ns,.ns,.ns,.ns,.ns]),(false,[.i .i64 9])]⟩
def kc1:Kc:=⟨[],[],.c false [.b true]⟩
end
theorem aHw:okK kc0=true∧plA kc0.v=true:=by decide+kernel
theorem aHx:okK kc1=true∧plA kc1.v=true:=by decide+kernel
end E
end Go.Proofs.YtamnpcdkcdfgaaaGreatDoor
