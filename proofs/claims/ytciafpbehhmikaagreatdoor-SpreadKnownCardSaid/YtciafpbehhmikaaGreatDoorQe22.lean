/- SpreadKnown holds. No condition. -/
import Derived.Test.YtciafpbehhmikaaGreatDoorQe18
import Derived.Test.YtciafpbehhmikaaGreatDoorQe19
import Derived.Test.YtciafpbehhmikaaGreatDoorQe20
import Derived.Test.YtciafpbehhmikaaGreatDoorQe21
namespace Go.Proofs.YtciafpbehhmikaaGreatDoor.E
open Go Go.RowKit
open Ma Me K
noncomputable section
def yJ(h:H)(id:Nat)(b:B):Bool:=isS (h.h.get id) fun x=>cb (Nat.beq x.ty b.ty) (svL x.c b.c) false
def gT{α:Type}(h:H)(v:AV)(k:Nat→Nat→Nat→Option α):Option α:=match v with
 | .c true [_,.sl a _ _ _,_,.sl b _ _ _,.sl c _ _ _,_]=>cb (avE v (dvT a b c)) (cb (yJ h a dB0) (cb (yJ h b dB1) (cb (yJ h c dB2) (k a b c) none) none) none) none
 |_=>none
def aD0(l:List AV):List AV→Bool:=List.rec (motive:=fun _=>List AV→Bool) (fun m=>List.rec (motive:=fun _=>Bool) true (fun _ _ _=>false) m) (fun a _ r m=>List.rec (motive:=fun _=>Bool) false (fun b m _=>cb (avE a b) (r m) false) m) l
def gF(rest:List AV)(l:List (List AV × AV)):Option AV:=List.rec (motive:=fun _=>Option AV) none (fun p _ r=>cb (aD0 rest p.1) (some p.2) r) l
def gL(l:List (List AV × AV))(h:H)(args:List AV):Option AV:=match args with
 |v::rest=>gT h v fun _ _ _=>gF rest l
 |_=>none
def gA(h:H)(args:List AV):Option AV:=match args with
 | [v,.c false [.sl d 0 2 (some 2)]]=>gT h v fun _ _ _=>cb (yJ h d dB3) (some dV0) none
 |_=>none
def ph7:List (Nat × (H→List AV→Option AV)):=[
 (6,gA),
 (10,gL [(dR1,dV1)]),
 (11,gL [(dR2,dV2),(dR7,dV7)]),
 (12,gL [(dR3,dV3)]),
 (13,gL [(dR4,dV4),(dR5,dV5)]),
 (53,gL [(dR6,dV6)])]
def F4:Cf:=⟨F3.P,F3.tb,F3.nat,F3.pr,F3.pl,fun f=>(T.ofL ph7:T 3 _).get f,F3.ro,F3.ln⟩
end
theorem xB{h:H}{id:Nat}{b:B}(hx:yJ h id b=true):h.h.get id=some b:=by
 unfold yJ isS at hx;cases hg:h.h.get id with
 |none=>rw[hg]at hx;cases hx
 |some x=>
  rw[hg]at hx;obtain⟨h1,h2⟩:=aW.1 (show cb (Nat.beq x.ty b.ty) (svL x.c b.c) false=true from hx);obtain⟨t1,c1⟩:=x;obtain⟨t2,c2⟩:=b;have h1:t1=t2:=aJ.1 h1;have h2:c1=c2:=oW h2;rw[h1,h2]
theorem aLu{α:Type}{h:H}{v:AV}{k:Nat→Nat→Nat→Option α}{y:α}(hx:gT h v k=some y):∃a b c,v=dvT a b c∧h.h.get a=some dB0∧h.h.get b=some dB1∧h.h.get c=some dB2∧k a b c=some y:=by
 unfold gT at hx;split at hx
 ·obtain⟨h1,hx⟩:=aC.1 hx;obtain⟨h2,hx⟩:=aC.1 hx;obtain⟨h3,hx⟩:=aC.1 hx;obtain⟨h4,hx⟩:=aC.1 hx;exact⟨_,_,_,aBH h1,xB h2,xB h3,xB h4,hx⟩
 ·cases hx
theorem aCT:∀{l m:List AV},aD0 l m=true→l=m
 | [],[],_=>rfl
 | [],_::_,h=>by cases h
 |_::_,[],h=>by cases h
 |x::l,y::m,h=>by
  obtain⟨h1,h2⟩:=aW.1 (show cb (avE x y) (aD0 l m) false=true from h);rw[aBH h1,aCT h2]
theorem aLv{rest:List AV}{y:AV}:∀{l:List (List AV × AV)},gF rest l=some y→(rest,y)∈l
 | [],h=>by cases h
 |p::l,h=>by
  have h:cb (aD0 rest p.1) (some p.2) (gF rest l)=some y:=h;rw[aR]at h;split at h
  ·rename_i h1;injection h with h;rw[←h,aCT h1];exact List.mem_cons_self
  ·exact List.mem_cons_of_mem _ (aLv h)
def aHj(fn:Nat)(g:H→List AV→Option AV):Prop:=∀(h:H) (args:List AV) (v:AV),g h args=some v→∀(c:Cx) (wb:World) (vs:List Value),Rl c wb h→(∀t,c.z t=F4.P.cellsOf t)→F4.tb c.w→VL c args vs→
 Calls F4.P fn vs.toArray c.w fun e w'=>∃u,e=.returned u∧Q c.w w'∧VR ⟨c.n,c.k,c.r,w',c.z⟩ v u
theorem aHY{c:Cx}{a b d:Nat}{u:Value}(h:VR c (dvT a b d) u):c.k a∧c.k b∧c.k d∧∀(c0:Cx),c0.k 0→c0.k 1→c0.k 2→c0.r 0=c.r a→c0.r 1=c.r b→c0.r 2=c.r d→VR c0 (dvT 0 1 2) u:=by
 obtain⟨cs,rfl,h⟩:=h
 match cs,h with
 | [x0,x1,x2,x3,x4,x5],h=>
   obtain⟨h0,h1,h2,h3,h4,h5,-⟩:=h;exact⟨h1.1,h3.1,h4.1,fun c0 k0 k1 k2 r0 r1 r2=>⟨_,rfl,h0,⟨k0,by rw[r0];exact h1.2⟩,h2,⟨k1,by rw[r1];exact h3.2⟩,⟨k2,by rw[r2];exact h4.2⟩,h5,trivial⟩⟩
def aHk(a b d i:Nat):Nat:=match i with|0=>a|1=>b|_=>d
theorem xC{fn:Nat}{l:List (List AV × AV)}(hl:∀p∈l,plV p.1=true∧plA p.2=true∧∃h',aY F3 (exec F3 100000) fn (dvT 0 1 2::p.1) (mkH bs3)=some (p.2,h')):aHj fn (gL l):=by
 intro h args v hx c wb vs R hz hb ha;unfold gL at hx;split at hx
 ·rename_i v1 rest;obtain⟨a,b,d,rfl,k1,k2,k3,hx⟩:=aLu hx;obtain⟨h1,h2,h',hrun⟩:=hl _ (aLv hx)
  match vs,ha with
  |u::us,ha=>
   obtain⟨q1,q2,q3,q4⟩:=aHY ha.1;exact known f3 mixed (ρ:=aHk a b d) (by decide+kernel) (by decide+kernel) h2 hrun R hz hb (fun i x hi=>by
     match i,hi with
     |0,hi=>injection hi with hi;subst hi;exact⟨k1,q1⟩
     |1,hi=>injection hi with hi;subst hi;exact⟨k2,q2⟩
     |2,hi=>injection hi with hi;subst hi;exact⟨k3,q3⟩
     |i+3,hi=>cases hi) ⟨q4 _ (show (0:Nat)<3 by decide) (show (1:Nat)<3 by decide) (show (2:Nat)<3 by decide) rfl rfl rfl,show VL ⟨bs3.length,fun i=>i<bs3.length,fun i=>c.r (aHk a b d i),c.w,c.z⟩ rest us from aHX (c:=c) (d:=⟨bs3.length,fun i=>i<bs3.length,fun i=>c.r (aHk a b d i),c.w,c.z⟩) rfl (show plV rest=true from h1) ha.2⟩
 ·cases hx
def aNe(a b d e i:Nat):Nat:=match i with|0=>a|1=>b|2=>d|_=>e
theorem aMu:aHj 6 gA:=by
 intro h args v hx c wb vs R hz hb ha;unfold gA at hx;split at hx
 ·rename_i v1 e;obtain⟨a,b,d,rfl,k1,k2,k3,hx⟩:=aLu hx;obtain⟨h4,hx⟩:=aC.1 hx;have k4:=xB h4;injection hx with hx;subst hx;obtain⟨h',hrun⟩:=ran aM7
  match vs,ha with
  | [u,u2],ha=>
    obtain⟨q1,q2,q3,q4⟩:=aHY ha.1;obtain⟨x,hx1,hx2⟩:=ha.2.1;injection hx1 with hx1 _;subst hx1;exact known f3 mixed (ρ:=aNe a b d e) (by decide+kernel) (by decide+kernel) rfl hrun R hz hb (fun i x hi=>by
     match i,hi with
     |0,hi=>injection hi with hi;subst hi;exact⟨k1,q1⟩
     |1,hi=>injection hi with hi;subst hi;exact⟨k2,q2⟩
     |2,hi=>injection hi with hi;subst hi;exact⟨k3,q3⟩
     |3,hi=>injection hi with hi;subst hi;exact⟨k4,hx2.1⟩
     |i+4,hi=>cases hi) ⟨q4 _ (show (0:Nat)<4 by decide) (show (1:Nat)<4 by decide) (show (2:Nat)<4 by decide) rfl rfl rfl,⟨_,rfl,(show (3:Nat)<4 by decide),hx2.2⟩,trivial⟩
 ·cases hx
theorem aLw:∀p∈ph7,aHj p.1 p.2:=by
 unfold ph7;simp only[List.forall_mem_cons];have one:∀{fn:Nat} {r:List AV} {v:AV},plV r=true→plA v=true→(∃h',aY F3 (exec F3 100000) fn (dvT 0 1 2::r) (mkH bs3)=some (v,h'))→∀p∈[(r,v)],plV p.1=true∧plA p.2=true∧∃h',aY F3 (exec F3 100000) fn (dvT 0 1 2::p.1) (mkH bs3)=some (p.2,h'):=fun h1 h2 h3 p hp=>by
  rw[List.mem_singleton]at hp;subst hp;exact⟨h1,h2,h3⟩
 have two:∀{fn:Nat} {r r2:List AV} {v v2:AV},plV r=true→plA v=true→(∃h',aY F3 (exec F3 100000) fn (dvT 0 1 2::r) (mkH bs3)=some (v,h'))→plV r2=true→plA v2=true→(∃h',aY F3 (exec F3 100000) fn (dvT 0 1 2::r2) (mkH bs3)=some (v2,h'))→∀p∈[(r,v),(r2,v2)],plV p.1=true∧plA p.2=true∧∃h',aY F3 (exec F3 100000) fn (dvT 0 1 2::p.1) (mkH bs3)=some (p.2,h'):=fun h1 h2 h3 h4 h5 h6 p hp=>by
  rcases List.mem_cons.1 hp with rfl|hp
  ·exact⟨h1,h2,h3⟩
  ·exact one h4 h5 h6 p hp
 exact⟨aMu,xC (one rfl rfl (ran aM9)),xC (two rfl rfl (ran aM8) rfl rfl (ran aNa)),xC (one rfl rfl (ran aNb)),xC (two rfl rfl (ran aM6) rfl rfl (ran aNd)),xC (one rfl rfl (ran aNc)),fun x hx=>by cases hx⟩
theorem f4:FOk F4:=⟨f3.ng,f3.tq,f3.pr,f3.ro,f3.ln,fun _ _ h args v hg hx c wb vs R hz hb ha=>aLw _ (oZ hg) h args v hx c wb vs R hz hb ha⟩
end Go.Proofs.YtciafpbehhmikaaGreatDoor.E
