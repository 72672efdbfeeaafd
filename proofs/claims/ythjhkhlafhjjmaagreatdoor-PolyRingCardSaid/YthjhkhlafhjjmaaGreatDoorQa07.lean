/- The laws of a ring, of values and of derivatives hold for poly's functions. No condition. -/
import Derived.Test.YthjhkhlafhjjmaaGreatDoorQa06
namespace Go.Proofs.YthjhkhlafhjjmaaGreatDoor.E
open Go Go.RowKit
open Ma Me K
section
variable {F:Cf} {nt:Nat} {call:dL} {ops:Array Oper} {e e' e0 e1 e2:Env} {h0 h1 h2:H} {l1 l2:List Tp} {p:Tp} {trB:List (Tp × List Nat)} {c0:Cx} {wb:World} {a0 a:Act} {B:List (Nat × List Nat)} {L:Nat→Bool} {w:World}
theorem aGp{o:Oper}(k:∀t∈o.looksAt ops,e.get t=e'.get t):wanted ops.toList e o.guard=wanted ops.toList e' o.guard:=by
 cases hg:o.guard with
 |none=>rfl
 |some p=>
  obtain⟨j,w⟩:=p;show (ob (drp j ops.toList).head? fun o=>ob o.dst fun d=>isB (e.get d) w)=ob (drp j ops.toList).head? fun o2=>ob o2.dst fun d=>isB (e'.get d) w;cases h1:(drp j ops.toList).head? with
  |none=>rfl
  |some o2=>
   show (ob o2.dst fun d=>isB (e.get d) w)=ob o2.dst fun d=>isB (e'.get d) w;cases h2:o2.dst with
   |none=>rfl
   |some d=>
    have h3:ops[j]? =some o2:=(by simpa using eH h1);have h4:d∈o.looksAt ops:=(by simp[Oper.looksAt,hg,h3,h2]);show isB (e.get d) w=isB (e'.get d) w;rw[k d h4]
theorem aOf{o:Oper}(k:∀t∈o.looksAt ops,e.get t=e'.get t){x:Operand}(hx:x∈o.op.operands):ev e x=ev e' x:=by
 cases x with
 |tmp t=>exact k t (aDP hx rfl)
 |_=>rfl
theorem aLP{o:Op}{c1 c2:dL}{h:H}(hm:mkO F o=.n):op1 F c1 o e h=op1 F c2 o e h:=by
 cases o with
 |call c=>
  obtain⟨callee,xs,ats⟩:=c;cases callee with
  |value g=>
   cases g with
   |func f=>
    have hm:(Option.rec (motive:=fun _=>Mk) .c (fun _=>.p) (F.pr f))=Mk.n:=hm;cases hp:F.pr f with
    |none=>rw[hp]at hm;cases hm
    |some gg=>rw[hp]at hm;cases hm
   |_=>cases hm
  |invoke r m=>cases hm
  |builtin b=>cases b<;>cases hm
 |_=>first|rfl|cases hm
theorem aAQ{h:H}{x:E.B}{f:Nat→SV}{u:AV × H}(hx:(h.nw x fun a h=>vh (f a) h)=some u):u.2=⟨h.h.set x h.n,Nat.succ h.n,h.bar,h.l⟩∧u.1=sc (f h.n):=by
 unfold H.nw at hx;rw[bZ]at hx;injection hx with hx;rw[←hx];exact⟨rfl,rfl⟩
theorem aFf{o:Op}{h:H}{u:AV × H}(hm:mkO F o=.n)(hx:op1 F call o e h=some u):∃x,u.2=⟨h.h.set x h.n,Nat.succ h.n,h.bar,h.l⟩∧(u.1=sc (.p h.n 0)∨∃n m,u.1=sc (.sl h.n 0 n (some m))):=by
 cases o with
 |alloc t=>
  obtain⟨i,-,hx⟩:=aB.1 (show tQ F h t=some u from hx);obtain⟨k1,k2⟩:=aAQ hx;exact⟨_,k1,.inl k2⟩
 |box t x=>
  obtain⟨i,-,hx⟩:=aB.1 (show zD e h t x=some u from hx);obtain⟨g,c,-,hx⟩:=oD.1 hx;obtain⟨k1,k2⟩:=aAQ hx;exact⟨_,k1,.inl k2⟩
 |buildSlice t n ps=>
  obtain⟨i,-,hx⟩:=aB.1 (show iM F e h t n ps.toList=some u from hx);obtain⟨el,-,hx⟩:=aB.1 hx;obtain⟨j,-,hx⟩:=aB.1 hx;obtain⟨-,hx⟩:=aH.1 hx;obtain⟨c,-,hx⟩:=aB.1 hx;obtain⟨k1,k2⟩:=aAQ hx;exact⟨_,k1,.inr ⟨_,_,k2⟩⟩
 |makeSlice t l c=>
  obtain⟨i,-,hx⟩:=aB.1 (show uU F e h t l c=some u from hx);obtain⟨el,-,hx⟩:=aB.1 hx;obtain⟨j,-,hx⟩:=aB.1 hx;obtain⟨v,-,hx⟩:=aB.1 hx;obtain⟨s,-,hx⟩:=bE.1 hx;obtain⟨_,n,-,hx⟩:=jV hx;obtain⟨v2,-,hx⟩:=aB.1 hx;obtain⟨s2,-,hx⟩:=bE.1 hx;obtain⟨_,m,-,hx⟩:=jV hx;obtain⟨-,hx⟩:=aH.1 hx;obtain⟨-,hx⟩:=aH.1 hx;obtain⟨-,hx⟩:=aH.1 hx;obtain⟨k1,k2⟩:=aAQ hx;exact⟨_,k1,.inr ⟨_,_,k2⟩⟩
 |call c=>
  obtain⟨callee,xs,ats⟩:=c;cases callee with
  |value g=>
   cases g with
   |func f=>
    have hm:(Option.rec (motive:=fun _=>Mk) .c (fun _=>.p) (F.pr f))=Mk.n:=hm;cases hp:F.pr f with
    |none=>rw[hp]at hm;cases hm
    |some gg=>rw[hp]at hm;cases hm
   |_=>cases hm
  |invoke r m=>cases hm
  |builtin b=>cases b<;>cases hm
 |_=>cases hm
theorem aFg{q:Option Lp}{x y:Option E.B}(h:aEe q x y=true):q=none∧∃b,x=some b∧y=some b∧plS b.c=true:=by
 obtain⟨h0,h⟩:=dF.1 h;cases q with
 |some q=>cases h0
 |none=>
  cases x with
  |none=>cases h
  |some b=>
   cases y with
   |none=>cases h
   |some c=>
    obtain⟨h1,h2⟩:=dF.1 (show cb (Nat.beq b.ty c.ty) (cb (svL b.c c.c) (plS b.c) false) false=true from h);obtain⟨h3,h4⟩:=dF.1 h2;obtain⟨t1,l1⟩:=b;obtain⟨t2,l2⟩:=c;have e1:t1=t2:=aY.1 h1;have e2:l1=l2:=aFe h3;subst e1;subst e2;exact⟨rfl,_,rfl,rfl,h4⟩
theorem aLQ{h:H}{v:AV}{u:AV × H}(hs:lW h v u=true):∃k b,h.l.get k=none∧h.h.get k=some b∧u.2.h.get h.n=some b∧plS b.c=true∧((v=sc (.p k 0)∧u.1=sc (.p h.n 0))∨∃n m,v=sc (.sl k 0 n (some m))∧u.1=sc (.sl h.n 0 n (some m))):=by
 unfold lW at hs;split at hs
 ·rename_i k n hu;obtain⟨h1,h2⟩:=dF.1 hs;have h1:=aY.1 h1;subst h1;obtain⟨h3,b,h4,h5,h6⟩:=aFg h2;exact⟨k,b,h3,h4,h5,h6,.inl ⟨rfl,hu⟩⟩
 ·rename_i k m c n m' c' hu;obtain⟨h1,h2⟩:=dF.1 hs;obtain⟨q1,q0⟩:=dF.1 h2;obtain⟨q2,q3⟩:=dF.1 q0;obtain⟨h3,b,h4,h5,h6⟩:=aFg q3;have h1:=aY.1 h1;have q1:=aY.1 q1;have q2:=aY.1 q2;clear h2 q0 q3;subst h1;subst q1;subst q2;exact⟨k,b,h3,h4,h5,h6,.inr ⟨_,_,rfl,hu⟩⟩
 ·cases hs
structure Ag3 (d d' d2:Cx):Prop where
 k:∀id,d.k id→d2.k id∧d2.r id=d'.r id
 w:d2.w=d'.w
 z:d2.z=d'.z
theorem sr3{d d' d2:Cx}(A:Ag3 d d' d2){s:SV}{v0 v:Value}(h0:SR d s v0)(h:SR d' s v):SR d2 s v:=by
 cases s with
 |p id off=>exact⟨(A.k id h0.1).1,by rw[(A.k id h0.1).2];exact h.2⟩
 |sl id off len cap=>
  cases cap with
  |some cap=>exact⟨(A.k id h0.1).1,by rw[(A.k id h0.1).2];exact h.2⟩
  |none=>
   obtain⟨h1,cap,h2,h3,h4,t,cs,fr,h5,h6⟩:=h;exact⟨(A.k id h0.1).1,cap,h2,by rw[(A.k id h0.1).2];exact h3,h4,t,cs,fr,by rw[(A.k id h0.1).2,A.w];exact h5,by rw[A.z];exact h6⟩
 |m n=>show Nm d2.w v n;rw[A.w];exact h
 |f fn cs=>
  refine⟨fun p hp=>(A.k _ (h0.1 p hp)).1,h.2.trans ?_⟩;congr 2;exact List.map_congr_left fun p hp=>by unfold ptr;rw[(A.k _ (h0.1 p hp)).2]
 |y l=>exact⟨(A.k l h0.1).1,by rw[(A.k l h0.1).2];exact h.2⟩
 |_=>exact h
theorem cl3{d d' d2:Cx}(A:Ag3 d d' d2):∀{l:List SV} {r0 r:List Value},CL d l r0→CL d' l r→CL d2 l r
 | [],_,[],_,_=>trivial
 |_::_,_::_,_::_,h0,h=>⟨sr3 A h0.1 h.1,cl3 A h0.2 h.2⟩
theorem vc3{d d' d2:Cx}(A:Ag3 d d' d2){g:Bool}{l:List SV}{v0 v:Value}(h0:VC d g l v0)(h:VC d' g l v):VC d2 g l v:=by
 cases g with
 |true=>obtain⟨cs0,-,k0⟩:=h0;obtain⟨cs,h1,h2⟩:=h;exact⟨cs,h1,cl3 A k0 h2⟩
 |false=>
  obtain⟨s0,h1,k0⟩:=h0;obtain⟨s,h2,h3⟩:=h;rw[h1]at h2;cases h2;exact⟨_,h1,sr3 A k0 h3⟩
theorem tl3{d d' d2:Cx}(A:Ag3 d d' d2):∀{l:List (Bool × List SV)} {r0 r:List Value},TL d l r0→TL d' l r→TL d2 l r
 | [],_,[],_,_=>trivial
 |_::_,_::_,_::_,h0,h=>⟨vc3 A h0.1 h.1,tl3 A h0.2 h.2⟩
theorem vr3{d d' d2:Cx}(A:Ag3 d d' d2){a:AV}{v0 v:Value}(h0:VR d a v0)(h:VR d' a v):VR d2 a v:=by
 cases a with
 |c g l=>exact vc3 A h0 h
 |t l=>obtain⟨vs0,-,k0⟩:=h0;obtain⟨vs,h1,h2⟩:=h;exact⟨vs,h1,tl3 A k0 h2⟩
theorem aM8{d d2:Cx}(hw:d2.w=d.w):∀{l:List SV} {r:List Value},plS l=true→CL d l r→CL d2 l r
 | [],[],_,_=>trivial
 |s::l,v::r,hp,h=>by
  obtain⟨h1,h2⟩:=dF.1 (show cb (aPH s) (plS l) false=true from hp);refine⟨?_,aM8 hw h2 h.2⟩;have h3:=h.1;cases s with
  |m n=>show Nm d2.w v n;rw[hw];exact h3
  |u=>cases h1
  |p id off=>cases h1
  |sl id off len cap=>cases h1
  |f fn cs=>cases h1
  |y l=>cases h1
  |_=>exact h3
def Cx.also(d d':Cx)(k n:Nat):Cx:=⟨d.n,fun id=>d.k id∨id=k,fun id=>if id=k then d'.r n else d.r id,d'.w,d.z⟩
theorem aJ2{d d':Cx}{wb:World}{hB:H}{x:E.B}{k:Nat}(R:Rl d wb hB)(X:Xt d d')(R':Rl d' wb ⟨hB.h.set x hB.n,Nat.succ hB.n,hB.bar,hB.l⟩)(hk':d'.k hB.n)(hb:hB.h.get k=some x)(hp:plS x.c=true)(hk:¬d.k k)(hlp:hB.l.get k=none):
  Rl (d.also d' k hB.n) wb hB∧Xs d (d.also d' k hB.n):=by
 have hkn:k<hB.n:=(R.blk k x hb).1;have hget:∀id,id<hB.n→(T.set x hB.h hB.n).get id=hB.h.get id:=fun id h=>by
  rcases T.get_upd (x:=x) (t:=hB.h) (k:=hB.n) (j:=id) with h1|⟨h1,-⟩
  ·exact h1
  ·omega
 have hr:∀id,d.k id→(d.also d' k hB.n).r id=d'.r id:=fun id h=>by
  show (if id=k then _ else d.r id)=_;rw[if_neg (fun e=>hk (by rw[←e];exact h)),X.r id h]
 have hrk:(d.also d' k hB.n).r k=d'.r hB.n:=if_pos rfl;have A:Ag3 d d' (d.also d' k hB.n):=⟨fun id h=>⟨.inl h,hr id h⟩,rfl,by rw[X.z];rfl⟩
 have hx:Lv d' hB.n x↔x.c≠[]:=⟨fun h=>h.2,fun h=>⟨hk',h⟩⟩
 have hlt:∀id,d.k id→id<hB.n:=fun id h=>by have:=R.k id h;rw[R.n]at this;exact this
 refine⟨⟨R.n,fun id h=>h.elim (fun h=>R.k id h) fun h=>(by rw[h];show k<d.n;rw[R.n];exact hkn),R'.q,fun id b hg=>⟨(R.blk id b hg).1,fun hl=>?_⟩,fun i j b b2 hi hj hli hlj hij=>?_,fun id b hg hl hbar=>?_,fun l p hl=>⟨(R.lp l p hl).1,fun h=>?_⟩,fun i j p p2 hi hj ki kj hij=>?_⟩,⟨fun id h=>.inl h,fun id h=>(hr id h).trans (X.r id h),X.p.m,X.p.s,rfl⟩⟩
 ·by_cases hik:id=k
  ·subst hik;rw[hb]at hg;injection hg with hg;subst hg;rw[hrk];obtain⟨row,tail,h1,h2,h3⟩:=(R'.blk hB.n x T.get_same).2 ⟨hk',hl.2⟩;exact⟨row,tail,h1,aM8 (d:=d') (d2:=d.also d' id hB.n) rfl hp h2,h3⟩
  ·have hdk:d.k id:=hl.1.resolve_right hik;obtain⟨row0,tail0,-,k0,-⟩:=(R.blk id b hg).2 ⟨hdk,hl.2⟩;obtain⟨row,tail,h1,h2,h3⟩:=(R'.blk id b ((hget id (hlt id hdk)).trans hg)).2 ⟨X.k id hdk,hl.2⟩;rw[hr id hdk];exact⟨row,tail,h1,cl3 A k0 h2,h3⟩
 ·by_cases hik:i=k
  ·subst hik;have hjd:d.k j:=hlj.1.resolve_right fun e=>hij e.symm;rw[hb]at hi;injection hi with hi;subst hi;rw[hrk,hr j hjd];exact R'.inj hB.n j x b2 T.get_same ((hget j (hlt j hjd)).trans hj) ⟨hk',hli.2⟩ ⟨X.k j hjd,hlj.2⟩ (by have:=hlt j hjd;omega)
  ·have hid:d.k i:=hli.1.resolve_right hik;by_cases hjk:j=k
   ·subst hjk;rw[hb]at hj;injection hj with hj;subst hj;rw[hrk,hr i hid];exact R'.inj i hB.n b x ((hget i (hlt i hid)).trans hi) T.get_same ⟨X.k i hid,hli.2⟩ ⟨hk',hlj.2⟩ (by have:=hlt i hid;omega)
   ·have hjd:d.k j:=hlj.1.resolve_right hjk;rw[hr i hid,hr j hjd,X.r i hid,X.r j hjd];exact R.inj i j b b2 hi hj ⟨hid,hli.2⟩ ⟨hjd,hlj.2⟩ hij
 ·by_cases hik:id=k
  ·subst hik;rw[hb]at hg;injection hg with hg;subst hg;rw[hrk];exact R'.new hB.n x T.get_same ⟨hk',hl.2⟩ (by show hB.bar≤hB.n;omega)
  ·have hdk:d.k id:=hl.1.resolve_right hik;rw[hr id hdk,X.r id hdk];exact R.new id b hg ⟨hdk,hl.2⟩ hbar
 ·have hlk:d.k l:=h.resolve_right fun e=>by
   subst e;rw[hlp]at hl;cases hl
  obtain⟨⟨rc0,-,k0⟩,k1⟩:=(R.lp l p hl).2 hlk;obtain⟨⟨rc,k2,k3⟩,k4⟩:=(R'.lp l p hl).2 (X.k l hlk);rw[hr l hlk];refine⟨⟨rc,k2,fun hd=>?_⟩,k4⟩;obtain⟨D0,tm0,-,m0⟩:=k0 hd;obtain⟨D,tm,m1,m2⟩:=k3 hd;refine⟨D,tm,m1,m2.1,fun j v hv=>?_⟩;obtain⟨u0,-,n0⟩:=m0.2 j v hv;obtain⟨u,n1,n2⟩:=m2.2 j v hv;exact⟨u,n1,vr3 A n0 n2⟩
 ·have hid:d.k i:=ki.resolve_right fun e=>by
   subst e;rw[hlp]at hi;cases hi
  have hjd:d.k j:=kj.resolve_right fun e=>by
   subst e;rw[hlp]at hj;cases hj
  rw[hr i hid,hr j hjd,X.r i hid,X.r j hjd];exact R.li i j p p2 hi hj hid hjd hij
theorem JPg.late{s1 s2:List (Tp × List Nat)}{eB:Env}{hB:H}{d:Cx}(hc:fT call)(hc0:c0.n=h0.n)(hpr:aCg F call)(hopk:∀(j:Nat) (o:Oper) (e:Env) (h:H) (v:AV) (h':H),ops[j]? =some o→op1 F call o.op e h=some (v,h')→rQ F nt ops j o e h v h')
  (ht:Trace (St1 F nt call ops.toList H.lift) e0 h0 (l1++p::l2) e1 h1) (hP:Plan F ops ((l1++p::l2).map Tp.i) B) (hopA:∀q∈l1++p::l2,ops[q.i]? =some q.o) (hopB:∀q∈trB,ops[q.1.i]? =some q.1.o) (hmap:(trB.map fun q=>(q.1.i,q.2))=B)
  (hJ:JPg F nt call ops c0 wb a0 e1 (l1++p::l2) trB e2 h2 s1 s2 eB hB d L a w) (hS:Sm F ops B (l1++p::l2) eB hB L) (hi:L p.i=false) (hdep:∀e∈p.o.after,Region.binds .any e=true→L e.on=true) (b:Frame) (rest:List Nat) (k:List Item) (cs:List Frame):
  ∃a' w' d',Sm F ops B (l1++p::l2) eB hB (Ja.upd L p.i true)∧JPg F nt call ops c0 wb a0 e1 (l1++p::l2) trB e2 h2 s1 s2 eB hB d' (Ja.upd L p.i true) a' w'∧Steps F.P (lone (b.atR a (.inRegion ops (p.i::rest)::k)) cs w) (lone (b.atR a' (.inRegion ops rest::k)) cs w'):=by
 obtain⟨t1,hp,t2⟩:=ht.split;have hmem:p∈l1++p::l2:=List.mem_append_right _ List.mem_cons_self;have ho:ops[p.i]? =some p.o:=hopA p hmem;have hfst:B.map Prod.fst=trB.map fun q=>q.1.i:=by rw[←hmap,List.map_map];rfl
 have hnd0:=List.nodup_append.1 hP.nd;have hnd2:=hnd0.1;rw[List.map_append,List.map_cons]at hnd2;have hAB:∀q∈trB,q.1.i∉(l1++p::l2).map Tp.i:=fun q hq hm=>hnd0.2.2 q.1.i hm q.1.i (by rw[hfst];exact List.mem_map_of_mem (f:=fun q:Tp × List Nat=>q.1.i) hq) rfl;have hs1:∀q∈s1,q∈trB:=fun q hq=>by rw[hJ.sp];exact List.mem_append_left _ hq
 have hone:∀q∈l1++p::l2,q.i=p.i→q=p:=fun q hq hqi=>by
  rcases List.mem_append.1 hq with hq|hq
  ·exact absurd hqi ((List.nodup_append.1 hnd2).2.2 q.i (List.mem_map_of_mem hq) p.i List.mem_cons_self)
  ·rcases List.mem_cons.1 hq with rfl|hq
   ·rfl
   ·exact absurd (by rw[←hqi];exact List.mem_map_of_mem hq) (List.nodup_cons.1 (List.nodup_append.1 hnd2).2.1).1
 -- whoever writes what p looks at stands ahead of p
 obtain⟨hsame,qB,hqB,hpq⟩:=hS p hmem hi;obtain⟨o',ho',hlate⟩:=hP.late qB hqB p.i hpq;rw[ho]at ho';injection ho' with ho';subst ho';have hfirst:∀j,Reach ops p.i j→j∈l1.map Tp.i:=fun j hr=>by
  have hcl:∀i o e,ops[i]? =some o→i∈l1.map Tp.i→e∈o.after→Region.binds .any e=true→e.on∈l1.map Tp.i:=fun i o e ho2 him he2 hb=>by
   obtain⟨x1,x2,hx⟩:=List.append_of_mem him;obtain⟨o',k1,k2,-⟩:=(hP.a x1 i (x2++p.i::l2.map Tp.i) (by rw[List.map_append,List.map_cons,hx];simp)).o;rw[ho2]at k1;injection k1 with k1;subst k1;rw[hx];exact List.mem_append_left _ (k2 e he2 hb)
  obtain⟨o',k1,k2,-⟩:=(hP.a (l1.map Tp.i) p.i (l2.map Tp.i) (by simp)).o;obtain⟨o2,e3,m1,m2,m3,m4⟩:=hr.first;rw[k1]at m1;injection m1 with m1;subst m1;rcases m4 with rfl|m4
  ·exact k2 _ m2 m3
  ·exact m4.closed (S:=fun i=>i∈l1.map Tp.i) hcl (k2 _ m2 m3)
 have hcl2:∀{i j:Nat},Reach ops i j→L i=true→L j=true:=fun h hi=>h.closed (S:=fun i=>L i=true) (fun i o e ho hL he hb=>hJ.cl i o e ho hL he hb) hi;have heq:∀t∈p.o.looksAt ops,eB.get t=p.e.get t:=fun t htl=>by
  have h3:eB.get t=e1.get t:=hJ.en t fun q hq hd=>by
   rcases hlate t htl q.1.i q.1.o (hopB q (hs1 q hq)) hd with h4|⟨-,h4⟩
   ·have h4:=hfirst _ h4;exact hAB q (hs1 q hq) (by rw[List.map_append];exact List.mem_append_left _ h4)
   ·have:=hcl2 h4 (hJ.b1 q hq);rw[hi]at this;cases this
  have h5:e1.get t=p.e.get t:=(Trace.cons hp t2).ne (fun q hq=>hq.e) fun q hq hd=>by
   rcases hlate t htl q.i q.o (hopA q (List.mem_append_right _ hq)) hd with h4|⟨h4,-⟩
   ·have h4:=hfirst _ h4;rw[←List.map_cons]at hnd2;exact (List.nodup_append.1 hnd2).2.2 q.i h4 q.i (List.mem_map_of_mem hq) rfl
   ·exact hnd0.2.2 q.i (List.mem_map_of_mem (List.mem_append_right _ hq)) q.i h4 rfl
  exact h3.trans h5
 -- its own place
 have hown:∀x v,p.o.dst=some x→eB.get x=some v→v=p.v:=fun x v hd hv=>by
  have h3:eB.get x=e1.get x:=hJ.en x fun q hq hdq=>by
   have h4:=hP.un q.1.i p.i q.1.o p.o x (hopB q (hs1 q hq)) ho hdq hd;exact hAB q (hs1 q hq) (by rw[h4];exact List.mem_map_of_mem hmem)
  rw[h3]at hv;rcases ht.get (fun q hq=>hq.e) hv with⟨q,hq,hdq,rfl⟩|⟨hno,-⟩
  ·rw[hone q hq (hP.un q.i p.i q.o p.o x (hopA q hq) ho hdq hd)]
  ·exact absurd hd (hno p hmem)
 have hw:=hJ.w;subst hw;have hT:Tr d nt (eB.flt (look ops p.o)) a.tmps:=by
  refine⟨hJ.sz,fun t v hv=>?_⟩;rw[T.get_flt]at hv;split at hv
  ·rename_i hlk;have hlk:t∈p.o.looksAt ops:=(by simpa [look] using hlk);refine hJ.pl t v hv fun p' hp' hd=>?_;rcases hlate t hlk p'.i p'.o (hopA p' hp') hd with h4|⟨h4,-⟩
   ·exact reached hJ.cl ho hdep h4
   ·exact (hnd0.2.2 p'.i (List.mem_map_of_mem hp') p'.i h4 rfl).elim
  ·cases hv
 have f:Fr F d wb nt hB (eB.flt (look ops p.o)) a:=⟨hJ.r,hJ.z,hT,hJ.tb⟩
 have hwant:wanted ops.toList (eB.flt (look ops p.o)) p.o.guard=some p.b:=by rw[←xZ,aGp heq];exact hp.w
 have hW:=nN hwant hT;have fin0:∀{u:Value} {d2:Cx},Xs d d2→Xt c0 d2→(∀id,d2.k id→d.k id∨d.n≤id∨(p.h.n≤id∧id<p.h'.n))→Rl d2 wb hB→VR d2 p.v u→Sm F ops B (l1++p::l2) eB hB (Ja.upd L p.i true)∧JPg F nt call ops c0 wb a0 e1 (l1++p::l2) trB e2 h2 s1 s2 eB hB d2 (Ja.upd L p.i true) (a.put p.o.dst u) d2.w:=by
  intro u d2 X XX hkn R V;refine⟨fun p' hp' hL=>hS p' hp' (yB hL).2,⟨hJ.sp,hJ.t,hJ.en,R,fun t=>by rw[X.z];exact hJ.z t,hJ.tb,?_,fun t v hv hall=>?_,XX,rfl,?_,fun q hq=>mD (hJ.b1 q hq),fun q hq=>?_,fun i' o' e'' hio hL he hb=>?_,fun p' hp' hL id hk q=>?_,hJ.nb⟩⟩
  ·cases p.o.dst<;>simpa [Act.put] using hJ.sz
  ·by_cases hd:p.o.dst=some t
   ·have h6:=hp.e;rw[hd]at h6;rw[hown t v hd hv,hd];exact⟨u,aCe (by rw[hJ.sz];exact h6.1) rfl,V⟩
   ·obtain⟨u2,m1,m2⟩:=hJ.pl t v hv fun p' hp' hd'=>(yA (hall p' hp' hd')).resolve_left fun e=>hd (by rw[←hone p' hp' e];exact hd');exact⟨u2,by rw[zT hd];exact m1,m2.xs X⟩
  ·cases p.o.dst<;>exact hJ.df
  ·have h3:=hAB q (by rw[hJ.sp];exact List.mem_append_right _ hq);unfold Ja.upd;rw[if_neg (fun e=>h3 (by rw[show q.1.i=p.i from e];exact List.mem_map_of_mem hmem))];exact hJ.b2 q hq
  ·rcases yA hL with rfl|hL
   ·rw[ho]at hio;injection hio with hio;subst hio;exact mD (hdep _ he hb)
   ·exact mD (hJ.cl _ _ _ hio hL he hb)
  ·have hL2:=yB hL;rcases hkn id hk with k|k|k
   ·exact hJ.kn p' hp' hL2.2 id k q
   ·have h4:=hJ.nb p' hp';have h5:d.n=hB.n:=hJ.r.n;omega
   ·rcases apart hc ht hmem hp' (fun e=>hL2.1 (by rw[e])) with k3|k3<;>omega
 have fin:∀{u:Value} {d2:Cx},Xt d d2→Rl d2 wb hB→VR d2 p.v u→Sm F ops B (l1++p::l2) eB hB (Ja.upd L p.i true)∧JPg F nt call ops c0 wb a0 e1 (l1++p::l2) trB e2 h2 s1 s2 eB hB d2 (Ja.upd L p.i true) (a.put p.o.dst u) d2.w:=fun X R V=>fin0 X.xs (hJ.x.trans X) (fun j k=>(X.o j k).imp (fun q=>q) .inl) R V;cases hb:p.b with
 |true=>
  obtain⟨o2,m1,m2⟩:=hsame;have m1:ops[p.i]? =some o2:=(by simpa using eH m1);rw[ho]at m1;injection m1 with m1;subst m1;by_cases hmk:mkO F p.o.op=.n
  ·rcases m2 with m2|⟨m2,-⟩|⟨m2,-,x,v,u,m3,m4,m5,m6⟩
   ·rw[hmk]at m2;cases m2
   ·rw[hmk]at m2;cases m2
   have m5:op1 F call p.o.op eB hB=some u:=(aLP hmk).trans m5;obtain⟨k0,b0,n1,n2,n3,n4,n5⟩:=aLQ m6;obtain⟨x0,n6,-⟩:=aFf hmk m5;have hx0:x0=b0:=by
     rw[n6]at n3;have:(T.set x0 hB.h hB.n).get hB.n=some b0:=n3;rw[T.get_same]at this;injection this
   subst hx0;have hx:op1 F call p.o.op (eB.flt (look ops p.o)) hB=some (u.1,u.2):=(by rw[←tY (e:=eB) (fun x hx=>aCd hx),m5]);rw[n6]at hx;obtain⟨w,d',X,R,V,S⟩:=hopk p.i p.o _ _ _ _ ho hx d wb a f (hW.trans hb) b rest k cs;have hpv:v=p.v:=hown x v m3 m4;have hpy:=hp.y hb;obtain⟨x1,y1,y2⟩:=aFf hmk hpy;have hk0:k0=p.h.n:=by
     have y2:p.v=sc (.p p.h.n 0)∨∃n m,p.v=sc (.sl p.h.n 0 n (some m)):=y2;rcases n5 with⟨n5,-⟩|⟨n,m,n5,-⟩<;>rcases y2 with y2|⟨n',m',y2⟩<;>rw[hpv,y2]at n5<;>cases n5<;>rfl
   have y1:p.h'=⟨p.h.h.set x1 p.h.n,Nat.succ p.h.n,p.h.n,p.h.l⟩:=y1;have hhn:p.h'.n=p.h.n+1:=(by rw[y1]);have hnk:¬d.k k0:=fun q=>hJ.kn p hmem hi k0 q (by omega);have hkk:d'.k hB.n∧((p.v=sc (.p k0 0)∧w=.pointer (some ⟨d'.r hB.n,0,none⟩))∨∃n m,p.v=sc (.sl k0 0 n (some m))∧w=.slice (some ⟨d'.r hB.n,0,none⟩) n m):=by
     rcases n5 with⟨n5,n5'⟩|⟨n,m,n5,n5'⟩
     ·rw[n5']at V;obtain⟨z1,z2⟩:=aJ.1 V;exact⟨z1,.inl ⟨by rw[←hpv,n5],z2⟩⟩
     ·rw[n5']at V;obtain⟨z1,z2⟩:=aJ.1 V;exact⟨z1,.inr ⟨n,m,by rw[←hpv,n5],z2⟩⟩
   obtain⟨R2,X2⟩:=aJ2 hJ.r X R hkk.1 n2 n4 hnk n1;have V2:VR (d.also d' k0 hB.n) p.v w:=by
     have hrk:(d.also d' k0 hB.n).r k0=d'.r hB.n:=if_pos rfl;rcases hkk.2 with⟨z1,z2⟩|⟨n,m,z1,z2⟩
     ·rw[z1];exact aJ.2 ⟨.inr rfl,by rw[hrk];exact z2⟩
     ·rw[z1];exact aJ.2 ⟨.inr rfl,by rw[hrk];exact z2⟩
   have hc0n:c0.n≤p.h.n:=(by rw[hc0];exact (later hc ht p.h (jB hmem)).1);have XX:Xt c0 (d.also d' k0 hB.n):=⟨hJ.x.n,fun id q=>.inl (hJ.x.k id q),fun id q=>q.elim (hJ.x.o id) fun q=>.inr (by rw[q,hk0];exact hc0n),fun id q=>(X2.r id (hJ.x.k id q)).trans (hJ.x.r id q),hJ.x.p.trans X.p,hJ.x.z⟩
   obtain⟨m1,m2⟩:=fin0 X2 XX (fun j q=>q.imp (fun q=>q) fun q=>.inr (by rw[q,hk0];omega)) R2 V2;exact⟨_,_,_,m1,m2,S⟩
  have hx:op1 F call p.o.op (eB.flt (look ops p.o)) hB=some (p.v,hB):=by
    rw[←tY (e:=eB) (fun x hx=>aCd hx)];rcases m2 with m2|⟨m2,-,x,v,u,m3,m4,m5,m6⟩|⟨m2,-⟩
    rotate_left 2
    ·exact absurd m2 hmk
    ·rw[tY (e:=eB) (e':=p.e) (fun x hx=>aOf heq hx)];have h3:Pm hB (op1 F call p.o.op p.e hB) (op1 F call p.o.op p.e p.h.lift):=aP9 hpr m2;rw[h3,hp.y hb];rfl
    ·obtain⟨t,x2,hl⟩:=aJ1 m2;rw[hl]at m5⊢;have h3:u.2=hB:=aGS (v:=u.1) m5;have h4:u.1=p.v:=(by rw[←aQb m6];exact hown x v m3 m4);have h5:op1 F call (.load t x2) eB hB=some u:=m5;rw[h5,←h3,←h4]
  obtain⟨u,d2,X,R,V,S⟩:=hopk p.i p.o _ _ _ _ ho hx d wb a f (hW.trans hb) b rest k cs;obtain⟨m1,m2⟩:=fin X R V;exact⟨_,_,_,m1,m2,S⟩
 |false=>
  obtain⟨hv,hh⟩:=hp.n hb;have S:=stepR_op_skip (P:=F.P) (b:=b) (a:=a) (k:=k) (cs:=cs) (w:=d.w) (ops:=ops) (i:=p.i) (rest:=rest) (by simp[ho,hW.trans hb]);simp only[ho,Option.bind_some]at S;obtain⟨m1,m2⟩:=fin (Xt.refl d) hJ.r (by rw[hv];exact uX);exact⟨_,_,_,m1,m2,.one S⟩
end
end Go.Proofs.YthjhkhlafhjjmaaGreatDoor.E
namespace Go.Proofs.YthjhkhlafhjjmaaGreatDoor.E
open Go Go.RowKit
open Ma Me K
section
variable {F:Cf} {nt fn:Nat} {call:dL} {ops:Array Oper} {e e1 e2:Env} {h h1 h2:H} {tr:List Tp} {trB:List (Tp × List Nat)} {q:Bool} {r:R}
theorem aQc{id:Nat}{p:List Nat × List (Nat × List Nat)}(hF:FOk F)(hc:fT call)(hpr:aCg F call)(hm:F.P.follows .mixedOrders=true)(hopk:∀(j:Nat) (o:Oper) (e:Env) (h:H) (v:AV) (h':H),ops[j]? =some o→op1 F call o.op e h=some (v,h')→rQ F nt ops j o e h v h')
  (hx:vU F nt call ops p e h=some r):jO F q nt fn (.region id ops true) e h r:=by
 obtain⟨hpl,hx⟩:=aH.1 hx;rw[bZ]at hx;obtain⟨A,B⟩:=p;have hP:=aJ0 hpl;have hrm:=hP.rm;obtain⟨tr,e1,h1,hA0,ht,hx⟩:=aG2 hx;obtain⟨trB,e2,h2,hB0,htB,rfl⟩:=aG3 hx;have hA:tr.map Tp.i=A:=hA0;have hB:(trB.map fun q=>(q.1.i,q.2))=B:=hB0;clear hA0 hB0;subst hA;intro c wb a f b k cs _ _;have f1:Fr F c.drew wb nt h e a:=⟨f.r.drew,f.z,f.t.xt wY,f.b⟩
 have hopA:∀p∈tr,ops[p.i]? =some p.o:=fun p hp=>by
  obtain⟨s1,s2,he⟩:=List.append_of_mem hp;rw[he]at ht;simpa using eH ht.split.2.1.o
 have hfst:B.map Prod.fst=trB.map fun q=>q.1.i:=by rw[←hB,List.map_map];rfl
 have hltB:∀q∈trB,q.1.i<ops.size:=fun q hq=>by
  obtain⟨s1,s2,he⟩:=List.append_of_mem (show (q.1.i,q.2)∈B from by rw[←hB];exact List.mem_map_of_mem (f:=fun q:Tp × List Nat=>(q.1.i,q.2)) hq);obtain⟨o,ho,-⟩:=(hP.b s1 q.1.i q.2 s2 he).o;exact (Array.getElem?_eq_some_iff.1 ho).1
 have hopB:∀q∈trB,ops[q.1.i]? =some q.1.o:=by
  have key:∀{l:List (Tp × List Nat)} {eB:Env} {hB:H},TraceB F nt call ops.toList eB hB l e2 h2→∀q∈l,ops[q.1.i]? =some q.1.o:=by
   intro l
   induction l with
   |nil=>intro _ _ _ q hq;cases hq
   |cons x l ih=>
    intro eB hB ht q hq;cases ht with
    |cons hp hs ht2=>
     rcases List.mem_cons.1 hq with rfl|hq
     ·simpa using eH hp.o
     ·exact ih ht2 q hq
  exact key htB
 obtain⟨J,hJdef⟩:∃J:(Nat→Bool)→Act→World→Prop,J=fun L a' w'=>(∃g,JAg F nt ops c.drew wb a e h tr h1 h.bar (B.map Prod.fst) g L a' w')∨∃s1 s2 eB hB d,s1≠[]∧Sm F ops B tr eB hB L∧JPg F nt call ops c.drew wb a e1 tr trB e2 h2 s1 s2 eB hB d L a' w':=⟨_,rfl⟩
 have hstart:J (fun _=>false) a c.drew.w:=by
  rw[hJdef];exact .inl ⟨_,JAg.start hc ht f1⟩
 have hstep:∀(L:Nat→Bool) (a':Act) (w':World) (i:Nat) (o:Oper),ops[i]? =some o→L i=false→(∀e∈o.after,Region.binds .any e=true→L e.on=true)→J L a' w'→
     ∀rest,∃a'' w'',J (Ja.upd L i true) a'' w''∧Steps F.P (lone (b.atR a' (.inRegion ops (i::rest)::k)) cs w') (lone (b.atR a'' (.inRegion ops rest::k)) cs w''):=by
  intro L a' w' i o ho hi hdep hJ rest;rw[hJdef]at hJ⊢;have hbst:∀{s1 s2 eB hB d},JPg F nt call ops c.drew wb a e1 tr trB e2 h2 s1 s2 eB hB d L a' w'→i∈B.map Prod.fst→∃a'' w'',((∃g,JAg F nt ops c.drew wb a e h tr h1 h.bar (B.map Prod.fst) g (Ja.upd L i true) a'' w'')∨∃s1 s2 eB hB d,s1≠[]∧Sm F ops B tr eB hB (Ja.upd L i true)∧JPg F nt call ops c.drew wb a e1 tr trB e2 h2 s1 s2 eB hB d (Ja.upd L i true) a'' w'')∧Steps F.P (lone (b.atR a' (.inRegion ops (i::rest)::k)) cs w') (lone (b.atR a'' (.inRegion ops rest::k)) cs w''):=fun hJB hiB=>by
   obtain⟨a2,w2,s1',s2',eB',hB',d',m1,m2,k1,k2⟩:=hJB.step hopk hP hopA hB hrm ho hi hdep hiB b rest k cs;exact⟨a2,w2,.inr ⟨s1',s2',eB',hB',d',m1,m2,k1⟩,k2⟩
  have hmem:=hP.all i (Array.getElem?_eq_some_iff.1 ho).1;rcases hJ with⟨g,hJ⟩|⟨s1,s2,eB,hB',d,hne,hS,hJ⟩
  ·rcases List.mem_append.1 hmem with hiA|hiB
   ·obtain⟨p,hp,rfl⟩:=List.mem_map.1 hiA;have hoo:o=p.o:=by
     have:=hopA p hp;rw[ho]at this;injection this
    subst hoo;obtain⟨l1,l2,he⟩:=List.append_of_mem hp;rw[he]at ht hP hJ;obtain⟨a2,w2,g2,k1,k2⟩:=hJ.step hF f1.b hc hopk ht hP hi hdep b rest k cs;rw[←he]at k1;exact⟨a2,w2,.inl ⟨g2,k1⟩,k2⟩
   ·have hn:=(later hc ht h1 fH).1;have lt:∀id,c.drew.k id→id<h.n:=fun id k=>(by have:=f1.r.k id k;rw[f1.r.n]at this;exact this);have X:Xt c.drew (g.lo h1.n):=⟨by rw[f1.r.n];exact hn,fun id k=>⟨hJ.x.k id k,Nat.lt_of_lt_of_le (lt id k) hn⟩,fun id k=>by rw[f1.r.n];exact hJ.o id k.1,hJ.x.r,hJ.p,hJ.x.z⟩
    have hJP:JPg F nt call ops c.drew wb a e1 tr trB e2 h2 [] trB e1 (h1.back h.bar) (g.lo h1.n) L a' w':=by
     refine⟨rfl,htB,fun t _=>rfl,hJ.st h1 fH,hJ.z,f1.b,hJ.sz,fun t v hv hall=>?_,X,hJ.w,hJ.df,fun q hq=>(by cases hq),fun q hq=>hJ.nb _ (by rw[hfst];exact List.mem_map_of_mem (f:=fun q:Tp × List Nat=>q.1.i) hq),hJ.cl,fun p hp hL id hk q=>?_,fun p hp=>?_⟩
     rotate_left
     ·rcases hJ.kn id hk.1 with k1|⟨p',hp',hL',k1,k2⟩
      ·have:=(later hc ht p.h (jB hp)).1;omega
      ·rcases apart hc ht hp hp' (fun e=>by rw[e,hL']at hL;cases hL) with k3|k3<;>omega
     ·obtain⟨s1,s2,he⟩:=List.append_of_mem hp;rw[he]at ht;exact (later hc ht.split.2.2 h1 fH).1
     rcases ht.get (fun q hq=>hq.e) hv with⟨q,hq,hd,rfl⟩|⟨hno,hv⟩
     ·obtain⟨u,k1,k2⟩:=hJ.v q hq (hall q hq hd) t hd;refine⟨u,k1,k2.xs (aAP ?_)⟩;obtain⟨s1,s2,he⟩:=List.append_of_mem hq;rw[he]at ht;exact (later hc ht.split.2.2 h1 fH).1
     ·obtain⟨u,k1,k2⟩:=hJ.b t v hv (fun q hq hd=>absurd hd (hno q hq));exact⟨u,k1,k2.xs (aAP hn)⟩
    exact hbst hJP hiB
  ·rcases List.mem_append.1 hmem with hiA|hiB
   ·obtain⟨p,hp,rfl⟩:=List.mem_map.1 hiA;have hoo:o=p.o:=by
     have:=hopA p hp;rw[ho]at this;injection this
    subst hoo;obtain⟨l1,l2,he⟩:=List.append_of_mem hp;rw[he]at ht hP hJ hS hopA;obtain⟨a2,w2,d2,m1,k1,k2⟩:=hJ.late hc f1.r.n hpr hopk ht hP hopA hopB hB hS hi hdep b rest k cs;rw[←he]at k1 m1;exact⟨a2,w2,.inr ⟨s1,s2,eB,hB',d2,hne,m1,k1⟩,k2⟩
   ·exact hbst hJ hiB
 have hL0:(fun _:Nat=>false)=fun j=>(Array.replicate ops.size false).getD j false:=by
  funext j;simp[Array.getD]
 obtain⟨L',a',w',hdone,hJ',S⟩:=aP6 (P:=F.P) (b:=b) (k:=k) (cs:=cs) (fun L hL=>hP.ready hL) hstep ops.size (c.w.tape c.w.drawn (.order b.fn id)) (Array.replicate ops.size false) (fun _=>false) a c.drew.w hL0 (by simp) (Ja.left_le _) hstart;have S0:=stepR_region_draw (P:=F.P) (b:=b) (a:=a) (k:=k) (cs:=cs) (w:=c.w) (ops:=ops) (id:=id);have hsch:Region.schedule (F.P.follows .mixedOrders) ops (c.w.tape c.w.drawn (.order b.fn id))=Region.linearise.go .any ops ops.size (c.w.tape c.w.drawn (.order b.fn id)) (Array.replicate ops.size false) []:=by
  simp only[Region.schedule,hm,Bool.true_or,if_true];rfl
 rw[hsch]at S0;have key:∃d,Fr F d wb nt h2 e2 a'∧Xt c.drew d∧d.w=w'∧a'.defers=a.defers:=by
  rw[hJdef]at hJ';rcases hJ' with⟨g,hJ⟩|⟨s1,s2,eB,hB',d,-,-,hJ⟩
  ·obtain⟨f2,X,hw⟩:=hJ.finish hc ht f1 (fun p hp=>hdone _ (Array.getElem?_eq_some_iff.1 (hopA p hp)).1);have hnil:trB=[]:=by
    cases htr:trB with
    |nil=>rfl
    |cons x y=>
     have hx:x∈trB:=(by rw[htr];exact List.mem_cons_self);have h1:=hJ.nb x.1.i (by rw[hfst];exact List.mem_map_of_mem (f:=fun q:Tp × List Nat=>q.1.i) hx);rw[hdone _ (hltB x hx)]at h1;cases h1
   rw[hnil]at htB;obtain⟨q1,q2⟩:=aCf htB;rw[q1,q2];exact⟨_,f2,X,hw,hJ.df⟩
  ·have hnil:s2=[]:=by
    cases hs:s2 with
    |nil=>rfl
    |cons x y=>
     have hx:x∈s2:=(by rw[hs];exact List.mem_cons_self);have h1:=hJ.b2 x hx;rw[hdone _ (hltB x (by rw[hJ.sp];exact List.mem_append_right _ hx))]at h1;cases h1
   have ht2:=hJ.t;rw[hnil]at ht2;obtain⟨q1,q2⟩:=aCf ht2;rw[q1,q2];exact⟨d,⟨hJ.r,hJ.z,⟨hJ.sz,fun t v hv=>hJ.pl t v hv fun p hp _=>hdone _ (Array.getElem?_eq_some_iff.1 (hopA p hp)).1⟩,hJ.tb⟩,hJ.x,hJ.w,hJ.df⟩
 obtain⟨d,f2,X,hw,hdf⟩:=key;subst hw;exact⟨a',d,⟨wY.trans X,f2,[],hdf,trivial,fun _=>rfl⟩,.head S0 S⟩
end
end Go.Proofs.YthjhkhlafhjjmaaGreatDoor.E
namespace Go.Proofs.YthjhkhlafhjjmaaGreatDoor.E
open Go Go.RowKit
open Ma Me K
def aC6(F:Cf)(ex:eZ):Prop:=∀q nt fn (f:Operand) (ps:Array Tmp) (cs bd:Code) (e:Env) (h:H) (r:R),(ob (ev e f) fun f=>aBW F ex q nt fn f ps.toList cs bd e h)=some r→jO F q nt fn (.rangeFunc f ps cs bd) e h r
def aOg(F:Cf)(ex:eZ):Prop:=∀q nt fn (a:Code) (e:Env) (h:H) (r:R),ex q nt fn a e h=some r→jO F q nt fn (.scope a) e h r
theorem vX{P:Program}{b:Frame}{a:Act}{c:Code}{k:List Item}{cs:List Frame}{w:World}:step P (lone (b.atR a (.code (.scope c)::k)) cs w)=.next (lone (b.atR a (.code c::.inScope c::k)) cs w):=
 step_lone_go (by simp[stepG,stepG.exec,Frame.atR])
theorem aD5{P:Program}{b:Frame}{a:Act}{c:Code}{k:List Item}{cs:List Frame}{w:World}:step P (lone (b.atR a (.inScope c::k)) cs w)=.next (lone (b.atR a k) cs w):=
 step_lone_go (by simp[stepG,stepG.exec,Frame.atR])
theorem aOh{F:Cf}{ex:eZ}(hex:lH F ex):aOg F ex:=by
 intro q nt fn x e h r hx c wb a f b k cs hb hq;obtain⟨a1,d1,B1,A1⟩:=hex _ _ _ _ _ _ _ hx c wb a f b (.inScope x::k) cs hb hq;obtain⟨x1,e1,g1⟩:=r;refine⟨a1,d1,B1,?_⟩;cases x1 with
 |n=>exact .head vX (Steps.trans A1 (.one aD5))
 |x j=>
  obtain⟨k1,q1,q2⟩:=A1;exact⟨k1,q1.trans (by simp[exitTo]),.head vX q2⟩
 |r=>
  obtain⟨k1,q2⟩:=A1;exact⟨k1,.head vX q2⟩
def aEj(F:Cf)(ex:eZ):Prop:=∀q nt fn (x:Code) (e:Env) (h:H) (r:R),ex q nt fn (.loop x) e h=some r→zO F q nt fn x e h r
theorem aLR{F:Cf}{ex:eZ}(hF:FOk F)(hm:F.P.follows .mixedOrders=true)(hfr:xY ex)(hex:lH F ex)(hl:aEj F ex)(hY:xA F ex)(hR:aC6 F ex):lH F (aBY F ex)∧aEj F (aBY F ex):=by
 have hloop:aEj F (aBY F ex):=fun q nt fn x e h r hx=>x_loop' hex (fun e h r=>hl q nt fn x e h r) hx;refine⟨fun q nt fn c e h r hx=>?_,hloop⟩;cases c with
 |skip=>cases hx;exact aP2
 |label l=>cases hx;exact aN9
 |region id ops dr=>
  have hx:cb dr (ob (F.pl fn id) fun p=>vU F nt (dU F ex) ops p e h) (nZ F nt (dU F ex) ops.toList ops.toList e h)=some r:=hx;cases dr with
  |false=>exact aLN (fun j o e h v h' ho hx=>aJP hF hex hY ho hx) hx
  |true=>
   obtain⟨p,-,hx⟩:=aB.1 (show (ob (F.pl fn id) fun p=>vU F nt (dU F ex) ops p e h)=some r from hx);exact aQc hF (vW hfr) aGo hm (fun j o e h v h' ho hx=>aJP hF hex hY ho hx) hx
 |seq a b=>exact aRz hex hx
 |cond c a b=>exact aP4 hex hx
 |block id a=>exact aOa hex hx
 |loop a=>exact (hloop q nt fn a e h r hx).code
 |scope a=>exact aOh hex q nt fn a e h r hx
 |rangeFunc f ps cs bd=>exact hR q nt fn f ps cs bd e h r hx
 |exit id=>cases hx;exact aP3
 |ret=>cases hx;exact aRy
 |_=>cases hx
theorem aOi{F:Cf}(hF:FOk F)(hm:F.P.follows .mixedOrders=true)(hY:∀ex,lH F ex→xA F ex)(hR:∀ex,lH F ex→aC6 F ex)(m:Nat):lH F (exec F m)∧aEj F (exec F m):=by
 induction m with
 |zero=>exact⟨fun q nt fn c e h r hx=>(by cases hx),fun q nt fn c e h r hx=>(by cases hx)⟩
 |succ m ih=>exact aLR hF hm (aN2 F m) ih.1 ih.2 (hY _ ih.1) (hR _ ih.1)
end Go.Proofs.YthjhkhlafhjjmaaGreatDoor.E
namespace Go.Proofs.YthjhkhlafhjjmaaGreatDoor.E
open Go Go.RowKit
open Ma Me K
section
variable {F:Cf} {c d:Cx} {wb:World} {h h':H} {q:Bool} {nt fn:Nat} {e e':Env} {a a':Act} {b:Frame} {ex:eZ} {v:AV}
theorem aQd{w:World}{g:Nat}{o o':Obj}(hg:w.heap[g]? =some o)(hc:∀cs t fr,o≠.cells cs t fr)(hd:o≠.deferred (some [])):Ps w (w.putObj g o'):=
 ⟨fun v N hv=>aJJ hg hc hv,fun k t cs fr hk=>⟨cs,by
  rw[World.putObj_heap_other (fun e=>by rw[e,hg]at hk;injection hk with hk;exact hc _ _ _ hk)];exact hk,rfl⟩,by rw[World.putObj_size];exact Nat.le_refl _,fun k hk=>by
  rw[World.putObj_heap_other (fun e=>by rw[e,hg]at hk;injection hk with hk;exact hd hk)];exact hk⟩
theorem aCh{g:Nat}{rc:Loop}{o':Obj}(hg:c.w.heap[g]? =some (.loop rc)):Xt c (c.obj g o'):=
 ⟨Nat.le_refl _,fun _ h=>h,fun _ h=>.inl h,fun _ _=>rfl,aQd hg (fun _ _ _ e=>by cases e) (fun e=>by cases e),rfl⟩
theorem Rl.loop(hr:Rl c wb h){l:Nat}{p p':Lp}{rc:Loop}{o':Obj}(hl:h.l.get l=some p)(hk:c.k l)(hb:h.bar≤l)(hg:c.w.heap[c.r l]? =some (.loop rc))(hp:LpR (c.obj (c.r l) o') p' (c.r l)):
  Rl (c.obj (c.r l) o') wb (h.putLp l p'):=by
 have hwb:wb.heap.size≤c.r l:=((hr.lp l p hl).2 hk).2 hb;have X:Xt c (c.obj (c.r l) o'):=aCh hg;have hoth:∀k,k≠c.r l→(c.obj (c.r l) o').w.heap[k]? =c.w.heap[k]? :=fun k hk=>World.putObj_heap_other hk;have hne:∀{b:B} {k:Nat},Bl c b k→k≠c.r l:=fun {b k} hb e=>by
  obtain⟨row,tail,h1,-⟩:=hb;subst e;unfold Bx at h1;rw[h1]at hg;cases hg
 have hold:∀{j:Nat} {p2:Lp},(h.putLp l p').l.get j=some p2→∃p3,h.l.get j=some p3:=fun {j p2} hj=>by
  rcases T.get_set hj with⟨rfl,rfl⟩|⟨h1,h2⟩
  ·exact⟨_,hl⟩
  ·exact⟨_,h2⟩
 refine⟨hr.n,hr.k,aM5 hr.q hwb,fun id b hi=>⟨(hr.blk id b hi).1,fun hh=>((hr.blk id b hi).2 hh).xt X (hoth _ (hne ((hr.blk id b hi).2 hh)))⟩,hr.inj,hr.new,fun j p2 hj=>?_,fun i j p2 d2 hi hj ki kj hij=>?_⟩
 ·rcases T.get_set hj with⟨rfl,rfl⟩|⟨h1,h2⟩
  ·exact⟨(hr.lp _ p hl).1,fun _=>⟨hp,fun _=>hwb⟩⟩
  ·exact⟨(hr.lp j p2 h2).1,fun kj=>⟨((hr.lp j p2 h2).2 kj).1.xt X (hoth _ (hr.li j l p2 p h2 hl kj hk h1)),((hr.lp j p2 h2).2 kj).2⟩⟩
 ·obtain⟨p3,hi⟩:=hold hi;obtain⟨p4,hj⟩:=hold hj;exact hr.li i j p3 p4 hi hj ki kj hij
theorem aQe{tm:Array Value}{p:Nat}{u:Value}(ht:Tr c nt e tm)(hv:VR c v u)(hp:p<nt):Tr c nt (e.set v p) (tm.setIfInBounds p u):=by
 refine⟨by simpa using ht.1,fun j x hj=>?_⟩;have hsz:=ht.1;rcases T.get_set hj with⟨rfl,rfl⟩|⟨h3,h4⟩
 ·have hlt:j<tm.size:=(by omega);exact⟨u,by simp[hlt],hv⟩
 ·obtain⟨u2,k1,k2⟩:=ht.2 j x h4;refine⟨u2,?_,k2⟩;rw[Array.getElem?_setIfInBounds,if_neg (fun e=>h3 e.symm)];exact k1
theorem aLS{ps:List Nat}:∀{args:List AV} {vs:List Value} {e e':Env} {tm:Array Value},aH5 nt ps args e=some e'→VL c args vs→Tr c nt e tm→
  vs.length=ps.length∧Tr c nt e' ((ps.zip vs).foldl (fun tm x=>tm.setIfInBounds x.1 x.2) tm):=by
 induction ps with
 |nil=>
  intro args vs e e' tm h hv ht;cases args with
  |nil=>
   cases vs with
   |nil=>rw[←Option.some.inj (show some e=some e' from h)];exact⟨rfl,ht⟩
   |cons u vs=>exact hv.elim
  |cons x args=>cases (show (none:Option Env)=some e' from h)
 |cons p ps ih=>
  intro args vs e e' tm h hv ht;cases args with
  |nil=>cases (show (none:Option Env)=some e' from h)
  |cons x args=>
   cases vs with
   |nil=>exact hv.elim
   |cons u vs=>
    obtain⟨h1,h2⟩:=aH.1 (show cb (Nat.blt p nt) (aH5 nt ps args (e.set x p)) none=some e' from h);obtain⟨h3,h4⟩:=ih h2 hv.2 (aQe ht hv.1 (bV.1 h1));exact⟨by simp[h3],h4⟩
theorem aGq{bb:Bool}{pd:Option Code}{l:Nat}(hbb:bb=pd.isNone)(hx:pJ l bb pd h=some (v,h'))(hr:Rl c wb h)(hk:c.k l):
  ∃d,(Instr.endRound (c.r l) pd).run F.P c.w=.ok (.bool bb) d.w∧Xt c d∧Rl d wb h'∧VR d v (.bool bb):=by
 obtain⟨p,hl,h1⟩:=aB.1 hx;obtain⟨h2,h3⟩:=cbn.1 h1;obtain⟨h4,h5⟩:=aH.1 h3;injection h5 with h5;injection h5 with h5 h6;obtain⟨⟨rc,hg,hrc⟩,hlow⟩:=(hr.lp l p hl).2 hk;obtain⟨D,tm,rfl,htm⟩:=hrc h2;have hend:=run_endRound (P:=F.P) pd hg;rw[←hbb]at hend;have X:=aCh (c:=c) (o':=.loop {state:=if bb then .ready else .done,pending:=pd,fn:=p.fn,tmps:=tm,params:=p.ps.toArray,assign:=p.cs,body:=p.bd,defers:=D}) hg;refine⟨_,hend,X,?_,by subst h5;exact aJ.2 rfl⟩;subst h6;refine hr.loop hl hk (fA.1 h4) hg ⟨_,World.putObj_heap_same (Array.getElem?_eq_some_iff.1 hg).1,fun _=>⟨D,tm,?_,htm.xt X⟩⟩;subst hbb;cases pd<;>rfl
theorem aLT(hex:lH F ex):xA F ex:=by
 intro nt ops i o e h v h' g xs ats l args hoi ho h1 h3 h5 c wb a f hw b rest k cs;obtain⟨hk,hgv⟩:=aJ.1 (dP f.t h1);have hargs:=zL f.t h3;obtain⟨p,hl,h6⟩:=aB.1 h5;obtain⟨hdd,h7⟩:=cbn.1 h6;obtain⟨e1,h8,h9⟩:=aB.1 h7;obtain⟨r,h10,h11⟩:=aB.1 h9;obtain⟨⟨rc,hg,hrc⟩,hlow⟩:=(f.r.lp l p hl).2 hk;obtain⟨D,tm,rfl,htm⟩:=hrc hdd;obtain⟨hlen,htr⟩:=aLS h8 hargs htm;obtain⟨tm1,htm1⟩:∃tm1,tm1=(p.ps.zip (xs.toList.map a.eval)).foldl (fun tm x=>tm.setIfInBounds x.1 x.2) tm:=⟨_,rfl⟩
 rw[←htm1]at htr;have e1:xs.map a.eval=(xs.toList.map a.eval).toArray:=by
  apply Array.toList_inj.1;simp
 have hrun:(execOp a.eval o).run F.P c.w=.ok (.round (c.r l) p.fn tm1 p.cs p.bd) c.w:=by
  unfold execOp;rw[ho];simp only[resolve,hgv,Deferred.ofValue,Sem.run_bind,Sem.run_pure,Result.andThen_ok,invoke,Array.empty_append];rw[run_yield hg (by simpa using hlen),htm1,e1];simp
 have hnd:∀c,o.op≠.defer c:=fun c hc=>by rw[ho]at hc;cases hc
 have hg0:=stepGR_op (P:=F.P) (b:=b) (k:=k) (cs:=cs) (w:=c.w) (rest:=rest) hoi hw;rw[Oper.semAt_eq _ _ _ hnd]at hg0;have henter:step F.P (lone (b.atR a (.inRegion ops (i::rest)::k)) cs c.w)=.next (lone (Frame.round (c.r l) p.fn tm1 p.cs p.bd .normal) (b.atR a (.inRegion ops (i::rest)::k)::cs) c.w):=
  step_lone_go (by rw[hg0];simp[stepG.apply,Sem.runT_eq,hrun,Frame.atR,GStep.bare_after])
 obtain⟨bR,hbR⟩:∃bR:Frame,bR={fn:=p.fn,tmps:=#[],todo:=[],defers:=[],mode:=.run,kind:=.normal,roundOf:=some (c.r l)}:=⟨_,rfl⟩
 have b1:bR.fn=p.fn:=by rw[hbR]
 have b2:bR.roundOf=some (c.r l):=by rw[hbR]
 have b3:bR.kind=.normal:=by rw[hbR]
 have hround:Frame.round (c.r l) p.fn tm1 p.cs p.bd .normal=bR.atR {tmps:=tm1,defers:=[]} [.code p.cs,.beginRound,.code p.bd]:=by
  rw[hbR];simp[Frame.round,Frame.atR]
 rw[hround]at henter;obtain⟨x1,e2,g2⟩:=r;cases x1 with
 |x id=>cases h11
 |r=>cases h11
 |n=>
  obtain⟨p',hl',h12⟩:=aB.1 h11;obtain⟨hdd',h13⟩:=cbn.1 h12;obtain⟨hbar,h14⟩:=aH.1 h13;obtain⟨hst,h15⟩:=aH.1 h14;obtain⟨hpd,h16⟩:=aH.1 h15;obtain⟨r2,h17,h18⟩:=aB.1 h16;obtain⟨a1,d1,B1,A1⟩:=hex _ _ _ _ _ _ _ h10 c wb {tmps:=tm1,defers:=[]} ⟨f.r,f.z,htr,f.b⟩ bR [.beginRound,.code p.bd] (b.atR a (.inRegion ops (i::rest)::k)::cs) b1 (fun h=>by cases h);have hk1:d1.k l:=B1.x.k l hk;have hr1:d1.r l=c.r l:=B1.x.r l hk;obtain⟨⟨rc1,hg1,hrc1⟩,-⟩:=(B1.f.r.lp l p' hl').2 hk1;obtain⟨D1,tm2,rfl,htm2⟩:=hrc1 hdd';have hpn:p'.pd=none:=by
    cases hq:p'.pd with
    |none=>rfl
    |some x=>rw[hq]at hpd;cases hpd
  have hready:lst p'=.ready:=(by unfold lst;rw[hst];rfl);have hbegin:=run_beginRound (P:=F.P) hg1 hready;have X2:=aCh (c:=d1) (o':=.loop {state:=.busy,pending:=p'.pd,fn:=p'.fn,tmps:=tm2,params:=p'.ps.toArray,assign:=p'.cs,body:=p'.bd,defers:=D1}) hg1;have R2:=B1.f.r.loop (p':={p' with st:=false}) hl' hk1 (fA.1 hbar) hg1 ⟨_,World.putObj_heap_same (Array.getElem?_eq_some_iff.1 hg1).1,fun _=>⟨D1,tm2,by simp[lst,hpn],htm2.xt X2⟩⟩;have s2:=stepR_beginRound (P:=F.P) (b:=bR) (a:=a1) (k:=[.code p.bd]) (cs:=b.atR a (.inRegion ops (i::rest)::k)::cs) (b2.trans (by rw[hr1])) hbegin;obtain⟨a2,d3,B3,A3⟩:=hex _ _ _ _ _ _ _ h17 _ wb a1 ⟨R2,fun t=>(X2.z▸B1.f.z t),B1.f.t.xt X2,f.b⟩ bR [] (b.atR a (.inRegion ops (i::rest)::k)::cs) b1 (fun h=>by cases h);have hk3:d3.k l:=B3.x.k l hk1;have hr3:d3.r l=c.r l:=(B3.x.r l hk1).trans hr1;have XX:Xt c d3:=(B1.x.trans X2).trans B3.x;have key:∀(bb:Bool) (pd:Option Code),bb=pd.isNone→pJ l bb pd r2.h=some (v,h')→
      (∀w',(Instr.endRound (c.r l) pd).run F.P d3.w=.ok (.bool bb) w'→Steps F.P (lone (bR.atR a1 [.code p.bd]) (b.atR a (.inRegion ops (i::rest)::k)::cs) (d1.obj (d1.r l) (.loop {state:=.busy,pending:=p'.pd,fn:=p'.fn,tmps:=tm2,params:=p'.ps.toArray,assign:=p'.cs,body:=p'.bd,defers:=D1})).w) (lone ((b.atR a (.inRegion ops (i::rest)::k)).finish (.bool bb)) cs w'))→
      ∃u d,Xt c d∧Rl d wb h'∧VR d v u∧Steps F.P (lone (b.atR a (.inRegion ops (i::rest)::k)) cs c.w) (lone (b.atR (a.put o.dst u) (.inRegion ops rest::k)) cs d.w):=by
    intro bb pd hbb hput hsteps;obtain⟨d4,k1,k2,k3,k4⟩:=aGq (F:=F) hbb hput B3.f.r hk3;rw[hr3]at k1;refine⟨_,d4,XX.trans k2,k3,k4,?_⟩;rw[←fin (k:=k) hoi];exact .head henter (Steps.trans A1 (.head s2 (hsteps _ k1)))
  obtain⟨x3,e3,g3⟩:=r2;cases x3 with
  |n=>exact key true none rfl h18 fun w' hw'=>Steps.trans A3 (.one (stepR_round_end b2 b3 hw'))
  |r=>
   obtain⟨k1,A3⟩:=A3;exact key false (some .ret) rfl h18 fun w' hw'=>Steps.trans A3 (.one (stepR_round_ret b2 b3 hw'))
  |x id=>
   obtain⟨k1,hk1,A3⟩:=A3;exact key false (some (.exit id)) rfl h18 fun w' hw'=>Steps.trans A3 (.one (stepR_round_exit b2 b3 (hk1.trans rfl) hw'))
def Cx.lp(c:Cx)(o:Obj):Cx:=⟨c.n+1,fun id=>c.k id∨id=c.n,fun id=>if id=c.n then c.w.heap.size+1 else c.r id,(c.w.alloc (.deferred (some []))).alloc o,c.z⟩
theorem aM9(hk:∀id,c.k id→id<c.n)(o:Obj):Xt c (c.lp o):=⟨Nat.le_succ _,fun id hi=>.inl hi,fun id hi=>hi.elim .inl fun q=>.inr (by omega),fun id hi=>if_neg (by have:=hk id hi;omega),Ps.q (((Q.refl _).alloc _).alloc o),rfl⟩
theorem aFh(o:Obj):(c.lp o).r c.n=c.w.heap.size+1:=if_pos rfl
theorem oG(o:Obj){id:Nat}(hi:id<c.n):(c.lp o).r id=c.r id:=if_neg (by omega)
theorem aG5(o:Obj){k:Nat}(hk:k<c.w.heap.size):(c.lp o).w.heap[k]? =c.w.heap[k]? :=
 ((((Q.refl c.w).alloc (.deferred (some []))).alloc o).heap hk)
theorem Rl.lpn(hr:Rl c wb h){p:Lp}{o:Obj}(hp:LpR (c.lp o) p (c.w.heap.size+1)):Rl (c.lp o) wb ⟨h.h,Nat.succ h.n,h.bar,h.l.set p h.n⟩:=by
 have hn:=hr.n;have hsz:=hr.size;have X:=aM9 (c:=c) hr.k o;have key:∀id p',(T.set p h.l h.n).get id=some p'→(id=h.n∧p'=p)∨(id<h.n∧h.l.get id=some p'):=fun id p' hg=>by
  rcases T.get_set hg with⟨h1,h2⟩|⟨h1,h2⟩
  ·exact .inl ⟨h1,h2⟩
  ·exact .inr ⟨(hr.lp id p' h2).1,h2⟩
 have kk:∀{id},id<h.n→(c.lp o).k id→c.k id:=fun hi q=>q.elim (fun q=>q) fun q=>by omega
 have lv:∀{id b'},id<h.n→Lv (c.lp o) id b'→Lv c id b':=fun hi q=>⟨kk hi q.1,q.2⟩
 refine⟨by show c.n+1=h.n+1;rw[hn],fun id q=>by show id<c.n+1;exact q.elim (fun q=>Nat.lt_succ_of_lt (hr.k id q)) fun q=>by omega,(hr.q.alloc _).alloc _,fun id b' hg=>?_,fun i j b' d hi hj hb' hd hij=>?_,fun id b' hg hc hbar=>?_,fun l p' hl=>?_,fun i j p' d hi hj ki kj hij=>?_⟩
 ·have h1:=(hr.blk id b' hg).1;refine⟨Nat.lt_succ_of_lt h1,fun hc=>?_⟩;rw[oG _ (by omega)];have:=(hr.blk id b' hg).2 (lv h1 hc);exact this.xt X (aG5 _ this.lt)
 ·have h1:=(hr.blk i b' hi).1;have h3:=(hr.blk j d hj).1;rw[oG _ (by omega),oG _ (by omega)];exact hr.inj i j b' d hi hj (lv h1 hb') (lv h3 hd) hij
 ·have h1:=(hr.blk id b' hg).1;rw[oG _ (by omega)];exact hr.new id b' hg (lv h1 hc) hbar
 ·rcases key l p' hl with⟨rfl,rfl⟩|⟨h1,h2⟩
  ·refine⟨Nat.lt_succ_self _,fun _=>?_⟩;rw[←hn,aFh];exact⟨hp,fun _=>by omega⟩
  ·refine⟨Nat.lt_succ_of_lt h1,fun q=>?_⟩;rw[oG _ (by omega)];obtain⟨h3,h4⟩:=(hr.lp l p' h2).2 (kk h1 q);exact⟨h3.xt X (aG5 _ h3.lt),h4⟩
 ·rcases key i p' hi with⟨rfl,rfl⟩|⟨h1,h2⟩
  ·rcases key j d hj with⟨rfl,rfl⟩|⟨h3,h4⟩
   ·exact absurd rfl hij
   ·have:=((hr.lp j d h4).2 (kk h3 kj)).1.lt;rw[←hn,aFh,oG _ (by omega)];omega
  ·have h5:=((hr.lp i p' h2).2 (kk h1 ki)).1.lt;rcases key j d hj with⟨rfl,rfl⟩|⟨h3,h4⟩
   ·rw[oG _ (by omega),←hn,aFh];omega
   ·rw[oG _ (by omega),oG _ (by omega)];exact hr.li i j p' d h2 h4 (kk h1 ki) (kk h3 kj) hij
theorem aLU(hF:FOk F)(hex:lH F ex):aC6 F ex:=by
 intro q nt fn fo ps cd bd e h r hx;obtain⟨fv,h1,h2⟩:=aB.1 hx;obtain⟨hq,h3⟩:=cbn.1 (show cb q none (kQ h.n _)=some r from h2);rw[bZ]at h3;obtain⟨s,rfl,h5⟩:=bE.1 h3;split at h5
 rotate_left
 ·cases h5
 rename_i fn2 jN;obtain⟨⟨v,h'⟩,h6,h7⟩:=aB.1 h5;obtain⟨p,h8,h9⟩:=aB.1 h7;obtain⟨hdd,h10⟩:=cbn.1 h9;obtain⟨hbar,h11⟩:=aH.1 h10;obtain⟨hbusy,h12⟩:=aH.1 h11;intro c wb a f b k cs hb hqb;have hbn:=hqb hq;obtain⟨k1,k2⟩:=aJ.1 (dP f.t h1);have hn:=f.r.n;obtain⟨rc,hrc⟩:∃rc:Loop,rc={state:=.ready,pending:=none,fn:=b.fn,tmps:=a.tmps,params:=ps,assign:=cd,body:=bd,defers:=c.w.heap.size}:=⟨_,rfl⟩
 have he:(Instr.enterLoop b.fn a.tmps ps cd bd b.roundOf).run F.P c.w=.ok (c.w.heap.size+1,[{target:=.collected c.w.heap.size,args:=#[]}]) (c.lp (.loop rc)).w:=by
  rw[hbn,hrc];exact run_enterLoop_outer ..
 have X1:=aM9 (c:=c) f.r.k (.loop rc);have hl0:(c.lp (.loop rc)).w.heap[c.w.heap.size+1]? =some (.loop rc):=by
  have:=World.alloc_heap_new (c.w.alloc (.deferred (some []))) (.loop rc);rw[World.size_alloc]at this;exact this
 have hd0:(c.lp (.loop rc)).w.heap[c.w.heap.size]? =some (.deferred (some [])):=by
  have h0:=World.alloc_heap_new c.w (.deferred (some []));exact (((Q.refl (c.w.alloc (.deferred (some [])))).alloc (.loop rc)).heap (by rw[World.size_alloc];omega)).trans h0
 have R1:Rl (c.lp (.loop rc)) wb ⟨h.h,Nat.succ h.n,h.bar,h.l.set ⟨fn,nt,e,ps.toList,cd,bd,true,none,false⟩ h.n⟩:=
  f.r.lpn ⟨rc,hl0,fun _=>⟨c.w.heap.size,a.tmps,by rw[hrc,hb];simp[lst],f.t.xt X1⟩⟩
 have hy:VR (c.lp (.loop rc)) (sc (.y h.n)) (.func (.yield (c.w.heap.size+1)) #[] #[]):=
  aJ.2 ⟨.inr hn.symm,by rw[←hn,aFh]⟩
 obtain⟨⟨G,k3,k4⟩,k5⟩:=rJ (vs:=.func (.yield (c.w.heap.size+1)) #[] #[]::jN.map (ptr c)) hF hex h6 R1 (fun t=>f.z t) f.b ⟨hy,(aG0 k1).xt X1⟩;have hres:(resolve a.eval (rangeCall fo (c.w.heap.size+1)) 0).run F.P (c.lp (.loop rc)).w=.ok {target:=.fn (.func fn2) (jN.map (ptr c)).toArray,args:=#[.func (.yield (c.w.heap.size+1)) #[] #[]]} (c.lp (.loop rc)).w:=by
  simp only[resolve,k2,Deferred.ofValue,Sem.run_pure,Array.empty_append,List.map_toArray,List.map_cons,List.map_nil];rfl
 have hinv:(invoke (.fn (.func fn2) (jN.map (ptr c)).toArray) #[.func (.yield (c.w.heap.size+1)) #[] #[]]).run F.P (c.lp (.loop rc)).w=.ok (.enter fn2 (.func (.yield (c.w.heap.size+1)) #[] #[]::jN.map (ptr c)).toArray) (c.lp (.loop rc)).w:=by
  simp only[invoke];rw[zP k3 (hF.ng _ _ k3) k4];simp
 have henter:=stepR_rangeFunc (k:=k) (cs:=cs) he hres hinv;obtain⟨e3,w',fr,⟨u,d,rfl,rfl,X,R,V⟩,hs,hfn,hl⟩:=k5 (b.atR {a with defers:=[{target:=.collected c.w.heap.size,args:=#[]}]++a.defers} (.inRangeFunc (c.w.heap.size+1)::k)::cs);have hleave:=step_leave_returned (c:=b.atR {a with defers:=[{target:=.collected c.w.heap.size,args:=#[]}]++a.defers} (.inRangeFunc (c.w.heap.size+1)::k)) (cs:=cs) hl;rw[finish_atR_inRangeFunc]at hleave;have hkl:d.k h.n:=X.k _ (.inr hn.symm);have hrl:d.r h.n=c.w.heap.size+1:=(X.r _ (.inr hn.symm)).trans (by rw[←hn,aFh]);obtain⟨⟨rc2,hg,hrc2⟩,-⟩:=(R.lp h.n p h8).2 hkl;obtain⟨D,tm,rfl,htm⟩:=hrc2 hdd;have hnb:lst p≠.busy:=by
  unfold lst;cases hs:p.st with
  |true=>simp
  |false=>
   cases hp:p.pd with
   |none=>rw[hs,hp]at hbusy;cases hbusy
   |some x=>simp
 have hend:=run_endLoop (P:=F.P) hg hnb;have X2:=aCh (c:=d) (o':=.loop {state:=.exhausted,pending:=p.pd,fn:=p.fn,tmps:=tm,params:=p.ps.toArray,assign:=p.cs,body:=p.bd,defers:=D}) hg;have R2:=R.loop (p':={p with dd:=true}) (o':=.loop {state:=.exhausted,pending:=p.pd,fn:=p.fn,tmps:=tm,params:=p.ps.toArray,assign:=p.cs,body:=p.bd,defers:=D}) h8 hkl (fA.1 hbar) hg ⟨_,World.putObj_heap_same (Array.getElem?_eq_some_iff.1 hg).1,fun h=>by cases h⟩;have send:=stepR_endRangeFunc (b:=b) (a:={a with defers:=[{target:=.collected c.w.heap.size,args:=#[]}]++a.defers}) (k:=k) (cs:=cs) hend;have XX:=(X1.trans X).trans X2;have e5:lone (b.atR {a with defers:=[{target:=.collected c.w.heap.size,args:=#[]}]++a.defers} (.endRangeFunc (c.w.heap.size+1)::k)) cs d.w=lone (b.atR {a with defers:=[{target:=.collected c.w.heap.size,args:=#[]}]++a.defers} (.endRangeFunc (d.r h.n)::k)) cs d.w:=by rw[hrl]
 rw[e5]at hleave;have all:∀k2,(p.pd.map Item.code).toList++k=k2→Steps F.P (lone (b.atR a (.code (.rangeFunc fo ps cd bd)::k)) cs c.w) (lone (b.atR {a with defers:=[{target:=.collected c.w.heap.size,args:=#[]}]++a.defers} k2) cs (d.obj (d.r h.n) (.loop {state:=.exhausted,pending:=p.pd,fn:=p.fn,tmps:=tm,params:=p.ps.toArray,assign:=p.cs,body:=p.bd,defers:=D})).w):=by
  rintro k2 rfl;exact Steps.head henter (Steps.trans hs (.head hleave (.one send)))
 have be:Be F c wb nt b a (h'.putLp h.n {p with dd:=true}) e {a with defers:=[{target:=.collected c.w.heap.size,args:=#[]}]++a.defers} _:=
  ⟨XX,⟨R2,fun t=>XX.z▸f.z t,f.t.xt XX,f.b⟩,_,rfl,⟨⟨_,rfl,Nat.le_refl _,X2.p.d _ (X.p.d _ hd0),fun d' hd'=>by cases hd'⟩,trivial⟩,fun hn=>absurd hbn hn⟩
 split at h12
 ·rename_i hp;injection h12 with h12;subst h12;exact⟨_,_,be,all k (by rw[hp];rfl)⟩
 ·rename_i hp;injection h12 with h12;subst h12;exact⟨_,_,be,k,all (.code .ret::k) (by rw[hp];rfl)⟩
 ·rename_i id hp;injection h12 with h12;subst h12;exact⟨_,_,be,k,rfl,all (.code (.exit id)::k) (by rw[hp];rfl)⟩
 ·cases h12
theorem aBx(hF:FOk F)(hm:F.P.follows .mixedOrders=true)(m:Nat):lH F (exec F m):=
 (aOi hF hm (fun _ h=>aLT h) (fun _ h=>aLU hF h) m).1
end
end Go.Proofs.YthjhkhlafhjjmaaGreatDoor.E
namespace Go.Proofs.YthjhkhlafhjjmaaGreatDoor.E
open Go Go.RowKit
open Ma Me K
section
variable (F:Cf)
def Xop(o:Op)(e:Env)(h:H)(Q:AV→H→Prop):Prop:=∃v h',(∃m0,∀m,m0≤m→op1 F (dU F (exec F m)) o e h=some (v,h'))∧Q v h'
def Xr(nt:Nat)(ops l:List Oper)(e:Env)(h:H)(Q:Env→H→Prop):Prop:=∃e' h',(∃m0,∀m,m0≤m→nZ F nt (dU F (exec F m)) ops l e h=some ⟨.n,e',h'⟩)∧Q e' h'
def Xb(nt:Nat)(ops:List Oper)(B:List (Nat × List Nat))(e:Env)(h:H)(Q:Env→H→Prop):Prop:=∃e' h',(∃m0,∀m,m0≤m→aBs F nt (dU F (exec F m)) ops B e h=some ⟨.n,e',h'⟩)∧Q e' h'
def Xa(nt:Nat)(ops:List Oper)(b:Nat)(B:List (Nat × List Nat))(l:List Nat)(e:Env)(h:H)(Q:Env→H→Prop):Prop:=∃e' h',(∃m0,∀m,m0≤m→zI F nt (dU F (exec F m)) ops b (aBs F nt (dU F (exec F m)) ops B) l e h=some ⟨.n,e',h'⟩)∧Q e' h'
def Xw(nt fn:Nat)(c:Code)(e:Env)(h:H)(Q:Ex→Env→H→Prop):Prop:=∃x e' h',(∃m0,∀m,m0≤m→exec F m false nt fn c e h=some ⟨x,e',h'⟩)∧Q x e' h'
def Xc(fn:Nat)(args:List AV)(h:H)(Q:AV→H→Prop):Prop:=∃v h',(∃m0,∀m,m0≤m→iI F (exec F m) fn args h=some (v,h'))∧Q v h'
end
section
variable {F:Cf} {nt fn:Nat} {e:Env} {h:H}
theorem Xop.mono{o:Op}{Q R:AV→H→Prop}(x:Xop F o e h Q)(k:∀v h,Q v h→R v h):Xop F o e h R:=let ⟨v,h',a,b⟩:=x;⟨v,h',a,k v h' b⟩
theorem Xc.mono{args:List AV}{Q R:AV→H→Prop}(x:Xc F fn args h Q)(k:∀v h,Q v h→R v h):Xc F fn args h R:=let ⟨v,h',a,b⟩:=x;⟨v,h',a,k v h' b⟩
theorem Xw.mono{c:Code}{Q R:Ex→Env→H→Prop}(x:Xw F nt fn c e h Q)(k:∀x e h,Q x e h→R x e h):Xw F nt fn c e h R:=let ⟨y,e',h',a,b⟩:=x;⟨y,e',h',a,k y e' h' b⟩
theorem Xop.now{o:Op}{v:AV}{h':H}{Q:AV→H→Prop}(hx:∀call,op1 F call o e h=some (v,h'))(k:Q v h'):Xop F o e h Q:=⟨v,h',⟨0,fun _ _=>hx _⟩,k⟩
theorem dY{Q:Ex→Env→H→Prop}(k:Q .n e h):Xw F nt fn .skip e h Q:=⟨_,_,_,⟨1,fun m hm=>by cases m with|zero=>omega|succ m=>rfl⟩,k⟩
theorem jC{id:Nat}{Q:Ex→Env→H→Prop}(k:Q (.x id) e h):Xw F nt fn (.exit id) e h Q:=⟨_,_,_,⟨1,fun m hm=>by cases m with|zero=>omega|succ m=>rfl⟩,k⟩
theorem fJ{Q:Ex→Env→H→Prop}(k:Q .r e h):Xw F nt fn .ret e h Q:=⟨_,_,_,⟨1,fun m hm=>by cases m with|zero=>omega|succ m=>rfl⟩,k⟩
def sqn(x:Ex)(P q:Prop):Prop:=match x with| .n=>P|_=>q
theorem bF{a b:Code}{Q:Ex→Env→H→Prop}(k:Xw F nt fn a e h fun x e h=>sqn x (Xw F nt fn b e h Q) (Q x e h)):Xw F nt fn (.seq a b) e h Q:=by
 obtain⟨x,e1,h1,⟨m0,k1⟩,k2⟩:=k;cases x with
 |n=>
  obtain⟨y,e2,h2,⟨m1,k3⟩,k4⟩:=(show Xw F nt fn b e1 h1 Q from k2)
  refine⟨y,e2,h2,⟨m0+m1+1,fun m hm=>?_⟩,k4⟩;cases m with
  |zero=>omega
  |succ m=>
   show ob (exec F m false nt fn a e h) (pK (exec F m) false nt fn b)=_;rw[k1 m (by omega)];exact k3 m (by omega)
 |x id=>
  refine⟨_,e1,h1,⟨m0+1,fun m hm=>?_⟩,k2⟩;cases m with
  |zero=>omega
  |succ m=>
   show ob (exec F m false nt fn a e h) (pK (exec F m) false nt fn b)=_;rw[k1 m (by omega)];rfl
 |r=>
  refine⟨_,e1,h1,⟨m0+1,fun m hm=>?_⟩,k2⟩;cases m with
  |zero=>omega
  |succ m=>
   show ob (exec F m false nt fn a e h) (pK (exec F m) false nt fn b)=_;rw[k1 m (by omega)];rfl
theorem dO{id:Nat}{ops:Array Oper}{Q:Ex→Env→H→Prop}(k:Xr F nt ops.toList ops.toList e h (Q .n)):Xw F nt fn (.region id ops false) e h Q:=by
 obtain⟨e1,h1,⟨m0,k1⟩,k2⟩:=k;refine⟨.n,e1,h1,⟨m0+1,fun m hm=>?_⟩,k2⟩;cases m with
 |zero=>omega
 |succ m=>exact k1 m (by omega)
theorem aS{id:Nat}{ops:Array Oper}{b:Code}{Q:Ex→Env→H→Prop}(k:Xr F nt ops.toList ops.toList e h fun e h=>Xw F nt fn b e h Q):Xw F nt fn (.seq (.region id ops false) b) e h Q:=bF (dO k)
theorem aOj{call:dL}{ops:Array Oper}{p:List Nat × List (Nat × List Nat)}(hok:mY F ops p=true):vU F nt call ops p e h=zI F nt call ops.toList h.bar (aBs F nt call ops.toList p.2) p.1 e h:=by
 unfold vU;rw[hok,bZ];rfl
theorem aG6{id:Nat}{ops:Array Oper}{A:List Nat}{B:List (Nat × List Nat)}{Q:Ex→Env→H→Prop}(hp:F.pl fn id=some (A,B))(hok:mY F ops (A,B)=true)(k:Xa F nt ops.toList h.bar B A e h (Q .n)):Xw F nt fn (.region id ops true) e h Q:=by
 obtain⟨e1,h1,⟨m0,k1⟩,k2⟩:=k;refine⟨.n,e1,h1,⟨m0+1,fun m hm=>?_⟩,k2⟩;cases m with
 |zero=>omega
 |succ m=>
  show ob (F.pl fn id) (fun p=>vU F nt (dU F (exec F m)) ops p e h)=_;rw[hp];exact (aOj hok).trans (k1 m (by omega))
theorem aSz{id:Nat}{ops:Array Oper}{A:List Nat}{B:List (Nat × List Nat)}{b:Code}{Q:Ex→Env→H→Prop}(hp:F.pl fn id=some (A,B))(hok:mY F ops (A,B)=true)(k:Xa F nt ops.toList h.bar B A e h fun e h=>Xw F nt fn b e h Q):Xw F nt fn (.seq (.region id ops true) b) e h Q:=bF (aG6 hp hok k)
theorem bD{c:Operand}{a b:Code}{x:Bool}{Q:Ex→Env→H→Prop}(hc:ev e c=some (sc (.b x)))(k1:x=true→Xw F nt fn a e h Q)(k2:x=false→Xw F nt fn b e h Q):Xw F nt fn (.cond c a b) e h Q:=by
 have key:Xw F nt fn (cb x a b) e h Q:=by cases x with|true=>exact k1 rfl|false=>exact k2 rfl
 obtain⟨y,e1,h1,⟨m0,k3⟩,k4⟩:=key;refine⟨y,e1,h1,⟨m0+1,fun m hm=>?_⟩,k4⟩;cases m with
 |zero=>omega
 |succ m=>
  show ob (ev e c) (fun v=>one v (aBX (exec F m) false nt fn a b e h))=_;rw[hc];exact k3 m (by omega)
def bl(id:Nat)(x:Ex)(e:Env)(h:H)(Q:Ex→Env→H→Prop):Prop:=match x with| .x j=>cb (Nat.beq id j) (Q .n e h) (Q (.x j) e h)|x=>Q x e h
theorem dC{id:Nat}{a:Code}{Q:Ex→Env→H→Prop}(k:Xw F nt fn a e h fun x e h=>bl id x e h Q):Xw F nt fn (.block id a) e h Q:=by
 obtain⟨x,e1,h1,⟨m0,k1⟩,k2⟩:=k;have fin:∀y:R,zJ id ⟨x,e1,h1⟩=some y→Q y.x y.e y.h→Xw F nt fn (.block id a) e h Q:=fun y hy hq=>⟨y.x,y.e,y.h,⟨m0+1,fun m hm=>by
  cases m with
  |zero=>omega
  |succ m=>
   show ob (exec F m false nt fn a e h) (zJ id)=_;rw[k1 m (by omega)];exact hy⟩,hq⟩
 cases x with
 |n=>exact fin ⟨.n,e1,h1⟩ rfl k2
 |r=>exact fin ⟨.r,e1,h1⟩ rfl k2
 |x j=>
  have k2:cb (Nat.beq id j) (Q .n e1 h1) (Q (.x j) e1 h1):=k2;cases hb:Nat.beq id j with
  |true=>
   rw[hb]at k2;exact fin ⟨.n,e1,h1⟩ (by show cb (Nat.beq id j) _ _=_;rw[hb];rfl) k2
  |false=>
   rw[hb]at k2;exact fin ⟨.x j,e1,h1⟩ (by show cb (Nat.beq id j) _ _=_;rw[hb];rfl) k2
theorem aOk{a:Code}{Q:Ex→Env→H→Prop}(k:Xw F nt fn a e h fun x e h=>sqn x (Xw F nt fn (.loop a) e h Q) (Q x e h)):Xw F nt fn (.loop a) e h Q:=by
 obtain⟨x,e1,h1,⟨m0,k1⟩,k2⟩:=k;cases x with
 |n=>
  obtain⟨y,e2,h2,⟨m1,k3⟩,k4⟩:=(show Xw F nt fn (.loop a) e1 h1 Q from k2)
  refine⟨y,e2,h2,⟨m0+m1+1,fun m hm=>?_⟩,k4⟩;cases m with
  |zero=>omega
  |succ m=>
   show ob (exec F m false nt fn a e h) (pK (exec F m) false nt fn (.loop a))=_;rw[k1 m (by omega)];exact k3 m (by omega)
 |x id=>
  refine⟨_,e1,h1,⟨m0+1,fun m hm=>?_⟩,k2⟩;cases m with
  |zero=>omega
  |succ m=>
   show ob (exec F m false nt fn a e h) (pK (exec F m) false nt fn (.loop a))=_;rw[k1 m (by omega)];rfl
 |r=>
  refine⟨_,e1,h1,⟨m0+1,fun m hm=>?_⟩,k2⟩;cases m with
  |zero=>omega
  |succ m=>
   show ob (exec F m false nt fn a e h) (pK (exec F m) false nt fn (.loop a))=_;rw[k1 m (by omega)];rfl
theorem kK{a:Code}{Q:Ex→Env→H→Prop}(I:Nat→Env→H→Prop)(k:∀n e h,I n e h→Xw F nt fn a e h fun x e h=>sqn x (∃m,m<n∧I m e h) (Q x e h)):∀n e h,I n e h→Xw F nt fn (.loop a) e h Q:=by
 intro n
 induction n using Nat.strongRecOn with
 |ind n ih=>
  intro e h hI;refine aOk ((k n e h hI).mono fun x e h hx=>?_);cases x with
  |n=>obtain⟨m,h1,h2⟩:=hx;exact ih m h1 e h h2
  |x id=>exact hx
  |r=>exact hx
def Pk(d:Nat)(v:AV)(e:Env)(h:H)(C:Env→H→Prop):Prop:=C (T.set v e d) h
variable {ops l:List Oper} {o:Oper} {d:Nat} {Q:Env→H→Prop}
theorem aG(k:Q e h):Xr F nt ops [] e h Q:=⟨e,h,⟨0,fun _ _=>rfl⟩,k⟩
theorem pM{v:AV}{k:Env→Option R}(hn:Nat.blt d nt=true):put nt e (some d) v k=k (T.set v e d):=by
 show cb (Nat.blt d nt) _ none=_;rw[hn];rfl
theorem nO{call:dL}{rest:Env→H→Option R}{v:AV}{h1:H}(hw:wanted ops e o.guard=some true)(hx:op1 F call o.op e h=some (v,h1)):pI F nt call ops rest o e h=put nt e o.dst v fun e=>rest e h1:=by
 unfold pI;rw[hw,hx];rfl
theorem aBy{call:dL}{rest:Env→H→Option R}(hw:wanted ops e o.guard=some false):pI F nt call ops rest o e h=put nt e o.dst un fun e=>rest e h:=by
 unfold pI;rw[hw];rfl
theorem aK(hw:wanted ops e o.guard=some true)(hd:o.dst=some d)(hn:Nat.blt d nt=true)(k:Xop F o.op e h fun v h=>Pk d v e h fun e h=>Xr F nt ops l e h Q):Xr F nt ops (o::l) e h Q:=by
 obtain⟨v,h1,⟨m0,k1⟩,e2,h2,⟨m1,k2⟩,k3⟩:=k;refine⟨e2,h2,⟨m0+m1,fun m hm=>?_⟩,k3⟩;refine (nO hw (k1 m (by omega))).trans ?_;rw[hd,pM hn];exact k2 m (by omega)
theorem aA(hg:o.guard=none)(hd:o.dst=some d)(hn:Nat.blt d nt=true)(k:Xop F o.op e h fun v h=>Pk d v e h fun e h=>Xr F nt ops l e h Q):Xr F nt ops (o::l) e h Q:=aK (by rw[hg];rfl) hd hn k
theorem fO(hg:o.guard=none)(hd:o.dst=none)(k:Xop F o.op e h fun _ h=>Xr F nt ops l e h Q):Xr F nt ops (o::l) e h Q:=by
 obtain⟨v,h1,⟨m0,k1⟩,e2,h2,⟨m1,k2⟩,k3⟩:=k;refine⟨e2,h2,⟨m0+m1,fun m hm=>?_⟩,k3⟩;refine (nO (by rw[hg];rfl) (k1 m (by omega))).trans ?_;rw[hd];exact k2 m (by omega)
theorem aJ3(hw:wanted ops e o.guard=some false)(hd:o.dst=some d)(hn:Nat.blt d nt=true)(k:Pk d un e h fun e h=>Xr F nt ops l e h Q):Xr F nt ops (o::l) e h Q:=by
 obtain⟨e2,h2,⟨m1,k2⟩,k3⟩:=k;refine⟨e2,h2,⟨m1,fun m hm=>?_⟩,k3⟩;refine (aBy hw).trans ?_;rw[hd,pM hn];exact k2 m (by omega)
variable {b i:Nat} {A late:List Nat} {B:List (Nat × List Nat)}
theorem sQ{α:Type}{f:Oper→Option α}(ho:(drp i ops).head? =some o):ob (drp i ops).head? f=f o:=by rw[ho];rfl
theorem aJ4{h:H}(k:Xb F nt ops B e (h.back b) Q):Xa F nt ops b B [] e h Q:=k
theorem kL(k:Q e h):Xb F nt ops [] e h Q:=⟨e,h,⟨0,fun _ _=>rfl⟩,k⟩
theorem aC7(ho:(drp i ops).head? =some o)(hw:wanted ops e o.guard=some true)(hd:o.dst=some d)(hn:Nat.blt d nt=true)(k:Xop F o.op e h.lift fun v h=>Pk d v e h fun e h=>Xa F nt ops b B A e h Q):Xa F nt ops b B (i::A) e h Q:=by
 obtain⟨v,h1,⟨m0,k1⟩,e2,h2,⟨m1,k2⟩,k3⟩:=k;refine⟨e2,h2,⟨m0+m1,fun m hm=>?_⟩,k3⟩;refine (sQ ho).trans ?_;refine (nO hw (k1 m (by omega))).trans ?_;rw[hd,pM hn];exact k2 m (by omega)
theorem aOl(ho:(drp i ops).head? =some o)(hg:o.guard=none)(hd:o.dst=some d)(hn:Nat.blt d nt=true)(k:Xop F o.op e h.lift fun v h=>Pk d v e h fun e h=>Xa F nt ops b B A e h Q):Xa F nt ops b B (i::A) e h Q:=aC7 ho (by rw[hg];rfl) hd hn k
theorem aLV(ho:(drp i ops).head? =some o)(hg:o.guard=none)(hd:o.dst=none)(k:Xop F o.op e h.lift fun _ h=>Xa F nt ops b B A e h Q):Xa F nt ops b B (i::A) e h Q:=by
 obtain⟨v,h1,⟨m0,k1⟩,e2,h2,⟨m1,k2⟩,k3⟩:=k;refine⟨e2,h2,⟨m0+m1,fun m hm=>?_⟩,k3⟩;refine (sQ ho).trans ?_;refine (nO (by rw[hg];rfl) (k1 m (by omega))).trans ?_;rw[hd];exact k2 m (by omega)
theorem aQf(ho:(drp i ops).head? =some o)(hw:wanted ops e o.guard=some false)(hd:o.dst=some d)(hn:Nat.blt d nt=true)(k:Pk d un e h.lift fun e h=>Xa F nt ops b B A e h Q):Xa F nt ops b B (i::A) e h Q:=by
 obtain⟨e2,h2,⟨m1,k2⟩,k3⟩:=k;refine⟨e2,h2,⟨m1,fun m hm=>?_⟩,k3⟩;refine (sQ ho).trans ?_;refine (aBy hw).trans ?_;rw[hd,pM hn];exact k2 m (by omega)
def Ag(F:Cf)(ops:List Oper)(l:List Nat)(e:Env)(h:H):Prop:=∀k:Option R,again F ops e h k l=k
theorem iE:Ag F ops [] e h:=fun _=>rfl
theorem aLW{o:Oper}{l:List Nat}(ho:(drp i ops).head? =some o)(hm:mkO F o.op=.p)(k:Ag F ops l e h):Ag F ops (i::l) e h:=fun x=>by
 show ob (drp i ops).head? (fun o=>match mkO F o.op with| .p=>again F ops e h x l| .l=>_| .n=>_|_=>none)=x;rw[ho];show (match mkO F o.op with| .p=>again F ops e h x l| .l=>_| .n=>_|_=>none)=x;rw[hm];exact k x
theorem aLX{o:Oper}{l:List Nat}{v:AV}{h2:H}(ho:(drp i ops).head? =some o)(hm:mkO F o.op=.l)(hg:o.guard=none)(hd:o.dst=some d)(hv:e.get d=some v)(hr:op1 F (fun _ _ _=>none) o.op e h=some (v,h2))(ha:avb v v=true)(k:Ag F ops l e h):Ag F ops (i::l) e h:=fun x=>by
 show ob (drp i ops).head? (fun o=>match mkO F o.op with| .p=>again F ops e h x l| .l=>ob o.dst fun d=>ob (e.get d) fun v=>ob (op1 F (fun _ _ _=>none) o.op e h) fun u=>cb (isN o.guard) (cb (avb v u.1) (again F ops e h x l) none) none| .n=>ob o.dst fun d=>ob (e.get d) fun v=>ob (op1 F (fun _ _ _=>none) o.op e h) fun u=>cb (isN o.guard) (cb (lW h v u) (again F ops e h x l) none) none|_=>none)=x;rw[ho];show (match mkO F o.op with| .p=>again F ops e h x l| .l=>ob o.dst fun d=>ob (e.get d) fun v=>ob (op1 F (fun _ _ _=>none) o.op e h) fun u=>cb (isN o.guard) (cb (avb v u.1) (again F ops e h x l) none) none| .n=>ob o.dst fun d=>ob (e.get d) fun v=>ob (op1 F (fun _ _ _=>none) o.op e h) fun u=>cb (isN o.guard) (cb (lW h v u) (again F ops e h x l) none) none|_=>none)=x;rw[hm];show (ob o.dst fun d=>ob (e.get d) fun v=>ob (op1 F (fun _ _ _=>none) o.op e h) fun u=>cb (isN o.guard) (cb (avb v u.1) (again F ops e h x l) none) none)=x;rw[hd];show (ob (e.get d) fun v=>ob (op1 F (fun _ _ _=>none) o.op e h) fun u=>cb (isN o.guard) (cb (avb v u.1) (again F ops e h x l) none) none)=x;rw[hv];show (ob (op1 F (fun _ _ _=>none) o.op e h) fun u=>cb (isN o.guard) (cb (avb v u.1) (again F ops e h x l) none) none)=x;rw[hr,hg];show cb (avb v v) (again F ops e h x l) none=x;rw[ha];exact k x
theorem aQg{o:Oper}{l:List Nat}{v:AV}{u:AV × H}(ho:(drp i ops).head? =some o)(hm:mkO F o.op=.n)(hg:o.guard=none)(hd:o.dst=some d)(hv:e.get d=some v)(hr:op1 F (fun _ _ _=>none) o.op e h=some u)(ha:lW h v u=true)(k:Ag F ops l e h):Ag F ops (i::l) e h:=fun x=>by
 have e1:again F ops e h x (i::l)=ob (drp i ops).head? (fun o=>match mkO F o.op with| .p=>again F ops e h x l| .l=>ob o.dst fun d=>ob (e.get d) fun v=>ob (op1 F (fun _ _ _=>none) o.op e h) fun u=>cb (isN o.guard) (cb (avb v u.1) (again F ops e h x l) none) none| .n=>ob o.dst fun d=>ob (e.get d) fun v=>ob (op1 F (fun _ _ _=>none) o.op e h) fun u=>cb (isN o.guard) (cb (lW h v u) (again F ops e h x l) none) none|_=>none):=rfl;rw[e1,ho];show (match mkO F o.op with| .p=>again F ops e h x l| .l=>ob o.dst fun d=>ob (e.get d) fun v=>ob (op1 F (fun _ _ _=>none) o.op e h) fun u=>cb (isN o.guard) (cb (avb v u.1) (again F ops e h x l) none) none| .n=>ob o.dst fun d=>ob (e.get d) fun v=>ob (op1 F (fun _ _ _=>none) o.op e h) fun u=>cb (isN o.guard) (cb (lW h v u) (again F ops e h x l) none) none|_=>none)=x;rw[hm];show (ob o.dst fun d=>ob (e.get d) fun v=>ob (op1 F (fun _ _ _=>none) o.op e h) fun u=>cb (isN o.guard) (cb (lW h v u) (again F ops e h x l) none) none)=x;rw[hd];show (ob (e.get d) fun v=>ob (op1 F (fun _ _ _=>none) o.op e h) fun u=>cb (isN o.guard) (cb (lW h v u) (again F ops e h x l) none) none)=x;rw[hv,hr,hg];show cb (lW h v u) (again F ops e h x l) none=x;rw[ha];exact k x
theorem aC8(ho:(drp i ops).head? =some o)(hw:wanted ops e o.guard=some true)(hd:o.dst=some d)(hn:Nat.blt d nt=true)(k:Xop F o.op e h fun v h=>Pk d v e h fun e h=>Ag F ops late e h∧Xb F nt ops B e h Q):Xb F nt ops ((i,late)::B) e h Q:=by
 obtain⟨v,h1,⟨m0,k1⟩,ka,e2,h2,⟨m1,k2⟩,k3⟩:=k;refine⟨e2,h2,⟨m0+m1,fun m hm=>?_⟩,k3⟩;refine (sQ ho).trans ?_;refine (nO hw (k1 m (by omega))).trans ?_;rw[hd,pM hn];exact (ka _).trans (k2 m (by omega))
theorem nP(ho:(drp i ops).head? =some o)(hg:o.guard=none)(hd:o.dst=some d)(hn:Nat.blt d nt=true)(k:Xop F o.op e h fun v h=>Pk d v e h fun e h=>Ag F ops late e h∧Xb F nt ops B e h Q):Xb F nt ops ((i,late)::B) e h Q:=aC8 ho (by rw[hg];rfl) hd hn k
theorem jW(ho:(drp i ops).head? =some o)(hg:o.guard=none)(hd:o.dst=none)(k:Xop F o.op e h fun _ h=>Ag F ops late e h∧Xb F nt ops B e h Q):Xb F nt ops ((i,late)::B) e h Q:=by
 obtain⟨v,h1,⟨m0,k1⟩,ka,e2,h2,⟨m1,k2⟩,k3⟩:=k;refine⟨e2,h2,⟨m0+m1,fun m hm=>?_⟩,k3⟩;refine (sQ ho).trans ?_;refine (nO (by rw[hg];rfl) (k1 m (by omega))).trans ?_;rw[hd];exact (ka _).trans (k2 m (by omega))
end
end Go.Proofs.YthjhkhlafhjjmaaGreatDoor.E
namespace Go.Proofs.YthjhkhlafhjjmaaGreatDoor.E
open Go
open Ma Me
def aP(x:Rat):List SV:=[.b (decide (x.num<0)),.m x.num.natAbs,.m (bt x.den)]
end Go.Proofs.YthjhkhlafhjjmaaGreatDoor.E
namespace Go.Proofs.YthjhkhlafhjjmaaGreatDoor.E
open Go Go.RowKit
open Ma Me K
def bG:List Rat→List SV
 | []=>[]
 |x::l=>aP x++bG l
theorem pO:∀xs:List Rat,(bG xs).length=xs.length*3
 | []=>rfl
 |x::l=>by
  show (aP x++bG l).length=(l.length+1)*3;rw[List.length_append,pO l];show 3+_=_;omega
theorem zU:∀(xs:List Rat) (i:Nat),(bG xs).drop (i*3)=bG (xs.drop i)
 | [],i=>by simp[bG]
 |x::l,0=>rfl
 |x::l,i+1=>by
  have e:(i+1)*3=3+i*3:=(by omega);rw[e,←List.drop_drop];exact zU l i
theorem aG7{xs:List Rat}{c:List SV}{i:Nat}{x:Rat}(hp:bG xs<+:c)(hi:xs[i]? =some x):eX 3 (drp (i*3) c)=some (aP x):=by
 obtain⟨t,rfl⟩:=hp;have hlt:=(List.getElem?_eq_some_iff.1 hi).1;rw[wV,List.drop_append_of_le_length (by rw[pO];omega),zU,lX];have e:xs.drop i=x::xs.drop (i+1):=by
  rw[List.drop_eq_getElem_cons hlt];congr 1;exact (List.getElem?_eq_some_iff.1 hi).2
 rw[e];exact⟨by show 3≤(aP x++bG (xs.drop (i+1))++t).length;simp[aP],rfl⟩
theorem uC:∀xs ys:List Rat,bG (xs++ys)=bG xs++bG ys
 | [],_=>rfl
 |x::l,ys=>by show aP x++bG (l++ys)=aP x++bG l++bG ys;rw[uC l ys,List.append_assoc]
theorem aLY{xs:List Rat}{i:Nat}(y:Rat)(hi:i<xs.length):iR (i*3) (aP y) (bG xs)=some (bG (xs.set i y)):=by
 have h3:(aP y).length=3:=rfl;rw[uV,h3];refine⟨by rw[pO];omega,?_⟩;have e:i*3+3=(i+1)*3:=by omega
 rw[e,zU,List.set_eq_take_append_cons_drop,if_pos hi,uC];have e2:(bG xs).take (i*3)=bG (xs.take i):=by
  have e3:bG xs=bG (xs.take i)++bG (xs.drop i):=(by rw[←uC,List.take_append_drop]);rw[e3,List.take_append_of_le_length (by rw[pO,List.length_take];omega),List.take_of_length_le (by rw[pO,List.length_take];omega)]
 rw[e2];show _=bG (xs.take i)++aP y++bG (xs.drop (i+1));rw[List.append_assoc];rfl
theorem uZ{xs:List Rat}{c:List SV}(hp:bG xs<+:c)(n:Nat):bG (xs.take n)<+:c:=by
 refine List.IsPrefix.trans ?_ hp;have e:bG xs=bG (xs.take n)++bG (xs.drop n):=by rw[←uC,List.take_append_drop]
 rw[e];exact⟨_,rfl⟩
theorem zV:∀xs:List Rat,calm (bG xs)=true
 | []=>rfl
 |_::l=>zV l
theorem aDQ:∀n:Nat,nY [.b false,.m 0,.m 0] n=bG (List.replicate n 0)
 |0=>rfl
 |n+1=>by
  rw[List.replicate_succ];show app [.b false,.m 0,.m 0] (nY [.b false,.m 0,.m 0] n)=aP 0++bG (List.replicate n 0);rw[lD,aDQ n];rfl
noncomputable def lk (s:List (Nat × AV)) (k:Nat):Option AV:=List.rec (motive:=fun _=>Option AV) none (fun p _ r=>Prod.rec (motive:=fun _=>Option AV) (fun a b=>cb (Nat.beq a k) (some b) r) p) s
def Kn(e:Env)(s:List (Nat × AV)):Prop:=∀k v,lk s k=some v→e.get k=some v
theorem Kn.set{e:Env}{s:List (Nat × AV)}(h:Kn e s)(d:Nat)(v:AV):Kn (T.set v e d) ((d,v)::s):=fun k u hk=>by
 have hk:cb (Nat.beq d k) (some v) (lk s k)=some u:=hk;cases hb:Nat.beq d k with
 |true=>
  rw[hb]at hk;injection hk with hk;rw[←aY.1 hb,T.get_same,hk]
 |false=>
  rw[hb]at hk;rcases T.get_upd (x:=v) (t:=e) (k:=d) (j:=k) with h1|⟨h1,-⟩
  ·rw[h1];exact h k u hk
  ·exact absurd h1.symm (aBZ.1 hb)
noncomputable def evs (s:List (Nat × AV)) (x:Operand):Option AV:=Operand.rec (motive:=fun _=>Option AV) (fun t=>lk s t) ofV (fun _=>none) (fun f=>some (sc (.f f []))) x
theorem aN{e:Env}{s:List (Nat × AV)}{x:Operand}{v:AV}(h:Kn e s)(hx:evs s x=some v):ev e x=some v:=by
 cases x with
 |tmp t=>exact h t v hx
 |const k=>exact hx
 |global g=>cases hx
 |func f=>exact hx
noncomputable def aBz (s:List (Nat × AV)) (l:List Operand):Option (List AV):=List.rec (motive:=fun _=>Option (List AV)) (some []) (fun x _ r=>ob (evs s x) fun v=>ob r fun r=>some (v::r)) l
theorem aAR{e:Env}{s:List (Nat × AV)}(h:Kn e s):∀{l:List Operand} {v:List AV},aBz s l=some v→evL e l=some v
 | [],v,hx=>hx
 |x::l,v,hx=>by
  obtain⟨u,h1,h2⟩:=aB.1 (show ob (evs s x) (fun v=>ob (aBz s l) fun r=>some (v::r))=some v from hx);obtain⟨r,h3,h4⟩:=aB.1 h2;show ob (ev e x) (fun v=>ob (evL e l) fun r=>some (v::r))=some v;rw[aN h h1,aAR h h3];exact h4
def dW:Nat:=36
def Own(h0 h:H)(ws:List (Nat × B)):Prop:=(∀p∈ws,h0.n≤p.1∧p.1<h.n∧h.h.get p.1=some p.2)∧ws.Pairwise fun p q=>p.1≠q.1
def IsL(ws:List (Nat × B))(h:H)(v:AV)(xs:List Rat):Prop:=(v=sc .ns∧xs=[])∨∃id cap c,v=sc (.sl id 0 xs.length cap)∧(∀m,cap=some m→xs.length≤m)∧h.h.get id=some ⟨dW,c⟩∧bG xs<+:c∧id<h.n∧∀p∈ws,p.1≠id
def IsP(ws:List (Nat × B))(h:H)(v:AV)(x:Rat):Prop:=∃id off b,v=sc (.p id off)∧h.h.get id=some b∧eX 3 (drp off b.c)=some (aP x)∧id<h.n∧∀p∈ws,p.1≠id
structure St (β:Nat) (h0:H) (e:Env) (s:List (Nat × AV)) (h:H) (ws:List (Nat × B)) (ls:List (AV × List Rat)) (ps:List (AV × Rat)):Prop where
 k:Kn e s
 n:h0.n≤h.n
 bar:h.bar=β
 o:∀k,k<h0.n→h.h.get k=h0.h.get k
 l:h.l=h0.l
 w:Own h0 h ws
 ls:∀p∈ls,IsL ws h p.1 p.2
 ps:∀p∈ps,IsP ws h p.1 p.2
structure Xh (h h':H):Prop where
 n:h.n≤h'.n
 bar:h'.bar=h.bar
 o:∀k,k<h.n→h'.h.get k=h.h.get k
 l:h'.l=h.l
theorem Xh.refl(h:H):Xh h h:=⟨Nat.le_refl _,rfl,fun _ _=>rfl,rfl⟩
theorem Xh.trans{a b c:H}(x:Xh a b)(y:Xh b c):Xh a c:=⟨Nat.le_trans x.n y.n,y.bar.trans x.bar,fun k q=>(y.o k (Nat.lt_of_lt_of_le q x.n)).trans (x.o k q),y.l.trans x.l⟩
section
variable {F:Cf} {β:Nat} {h0 h h':H} {e:Env} {s:List (Nat × AV)} {ws:List (Nat × B)} {ls:List (AV × List Rat)} {ps:List (AV × Rat)} {v:AV} {xs:List Rat} {x:Rat} {C:Env→H→Prop} {d:Nat}
theorem St.pk(hS:St β h0 e s h ws ls ps)(k:∀e,St β h0 e ((d,v)::s) h ws ls ps→C e h):Pk d v e h C:=k _ ⟨hS.k.set d v,hS.n,hS.bar,hS.o,hS.l,hS.w,hS.ls,hS.ps⟩
theorem St.lift(hS:St β h0 e s h ws ls ps):St h.n h0 e s h.lift ws ls ps:=⟨hS.k,hS.n,rfl,hS.o,hS.l,hS.w,hS.ls,hS.ps⟩
theorem St.back(hS:St β h0 e s h ws ls ps)(b:Nat):St b h0 e s (h.back b) ws ls ps:=⟨hS.k,hS.n,rfl,hS.o,hS.l,hS.w,hS.ls,hS.ps⟩
theorem St.less(hS:St β h0 e s h ws ls ps){s':List (Nat × AV)}{ls':List (AV × List Rat)}{ps':List (AV × Rat)}(h1:∀k v,lk s' k=some v→lk s k=some v)(h2:∀p∈ls',p∈ls)(h3:∀p∈ps',p∈ps):St β h0 e s' h ws ls' ps':=
 ⟨fun k v hk=>hS.k k v (h1 k v hk),hS.n,hS.bar,hS.o,hS.l,hS.w,fun p hp=>hS.ls p (h2 p hp),fun p hp=>hS.ps p (h3 p hp)⟩
theorem IsL.xh{ws:List (Nat × B)}(hl:IsL ws h v xs)(x:Xh h h'):IsL ws h' v xs:=by
 rcases hl with hl|⟨id,cap,c,h1,h2,h3,h4,h5,h6⟩
 ·exact .inl hl
 ·exact .inr ⟨id,cap,c,h1,h2,(x.o id h5).trans h3,h4,Nat.lt_of_lt_of_le h5 x.n,h6⟩
theorem IsP.xh{ws:List (Nat × B)}(hl:IsP ws h v x)(y:Xh h h'):IsP ws h' v x:=by
 obtain⟨id,off,b,h1,h3,h4,h5,h6⟩:=hl;exact⟨id,off,b,h1,(y.o id h5).trans h3,h4,Nat.lt_of_lt_of_le h5 y.n,h6⟩
theorem St.xh(hS:St β h0 e s h ws ls ps)(x:Xh h h'):St β h0 e s h' ws ls ps:=
 ⟨hS.k,Nat.le_trans hS.n x.n,x.bar.trans hS.bar,fun k q=>(x.o k (Nat.lt_of_lt_of_le q hS.n)).trans (hS.o k q),x.l.trans hS.l,
  ⟨fun p hp=>let ⟨h1,h2,h3⟩:=hS.w.1 p hp;⟨h1,Nat.lt_of_lt_of_le h2 x.n,(x.o _ h2).trans h3⟩,hS.w.2⟩,fun p hp=>(hS.ls p hp).xh x,fun p hp=>(hS.ps p hp).xh x⟩
theorem St.al(hS:St β h0 e s h ws ls ps)(hl:IsL ws h v xs):St β h0 e s h ws ((v,xs)::ls) ps:=
 ⟨hS.k,hS.n,hS.bar,hS.o,hS.l,hS.w,fun p hp=>by rcases List.mem_cons.1 hp with rfl|hp;exact hl;exact hS.ls p hp,hS.ps⟩
theorem St.ap(hS:St β h0 e s h ws ls ps)(hl:IsP ws h v x):St β h0 e s h ws ls ((v,x)::ps):=
 ⟨hS.k,hS.n,hS.bar,hS.o,hS.l,hS.w,hS.ls,fun p hp=>by rcases List.mem_cons.1 hp with rfl|hp;exact hl;exact hS.ps p hp⟩
def IsF(h h':H)(v:AV)(xs:List Rat):Prop:=(v=sc .ns∧xs=[])∨∃id cap c,v=sc (.sl id 0 xs.length cap)∧(∀m,cap=some m→xs.length≤m)∧h'.h.get id=some ⟨dW,c⟩∧bG xs<+:c∧id<h'.n∧h.n≤id
theorem IsF.isL(hf:IsF h h' v xs){ws:List (Nat × B)}(hw:∀p∈ws,p.1<h.n):IsL ws h' v xs:=by
 rcases hf with hf|⟨id,cap,c,h1,h2,h3,h4,h5,h6⟩
 ·exact .inl hf
 ·exact .inr ⟨id,cap,c,h1,h2,h3,h4,h5,fun p hp q=>by have:=hw p hp;omega⟩
theorem St.call(hS:St β h0 e s h ws ls ps)(x:Xh h h')(hf:IsF h h' v xs):St β h0 e s h' ws ((v,xs)::ls) ps:=(hS.xh x).al (hf.isL fun p hp=>(hS.w.1 p hp).2.1)
theorem St.out(hS:St h0.bar h0 e s h ws ls ps):Xh h0 h:=⟨hS.n,hS.bar,hS.o,hS.l⟩
theorem St.new(hS:St β h0 e s h ws ls ps)(b:B):St β h0 e s ⟨h.h.set b h.n,Nat.succ h.n,h.bar,h.l⟩ ((h.n,b)::ws) ls ps:=by
 have key:∀k,k<h.n→(T.set b h.h h.n).get k=h.h.get k:=fun k q=>by
  rcases T.get_upd (x:=b) (t:=h.h) (k:=h.n) (j:=k) with h1|⟨h1,-⟩
  ·exact h1
  ·omega
 refine⟨hS.k,Nat.le_succ_of_le hS.n,hS.bar,fun k q=>(key k (Nat.lt_of_lt_of_le q hS.n)).trans (hS.o k q),hS.l,⟨fun p hp=>?_,List.pairwise_cons.2 ⟨fun p hp q=>?_,hS.w.2⟩⟩,fun p hp=>?_,fun p hp=>?_⟩
 ·rcases List.mem_cons.1 hp with rfl|hp
  ·exact⟨hS.n,Nat.lt_succ_self _,T.get_same⟩
  ·obtain⟨h1,h2,h3⟩:=hS.w.1 p hp;exact⟨h1,Nat.lt_succ_of_lt h2,(key _ h2).trans h3⟩
 ·have q:h.n=p.1:=q;have:=(hS.w.1 p hp).2.1;omega
 ·rcases hS.ls p hp with hl|⟨id,cap,c,h1,h2,h3,h4,h5,h6⟩
  ·exact .inl hl
  ·refine .inr ⟨id,cap,c,h1,h2,(key id h5).trans h3,h4,Nat.lt_succ_of_lt h5,fun p hp q=>?_⟩;rcases List.mem_cons.1 hp with rfl|hp
   ·have q:h.n=id:=q;omega
   ·exact h6 p hp q
 ·obtain⟨id,off,b2,h1,h3,h4,h5,h6⟩:=hS.ps p hp;refine⟨id,off,b2,h1,(key id h5).trans h3,h4,Nat.lt_succ_of_lt h5,fun p hp q=>?_⟩;rcases List.mem_cons.1 hp with rfl|hp
  ·have q:h.n=id:=q;omega
  ·exact h6 p hp q
theorem St.put(hS:St β h0 e s h ws ls ps){j id:Nat}{b b':B}(hj:ws[j]? =some (id,b)):St β h0 e s (h.put id b') (ws.set j (id,b')) ls ps:=by
 have hm:(id,b)∈ws:=List.mem_of_getElem? hj;obtain⟨w1,w2,w3⟩:=hS.w.1 _ hm;have w1:h0.n≤id:=w1;have w2:id<h.n:=w2;have key:∀k,k≠id→(T.set b' h.h id).get k=h.h.get k:=fun k q=>by
  rcases T.get_upd (x:=b') (t:=h.h) (k:=id) (j:=k) with h1|⟨h1,-⟩
  ·exact h1
  ·exact absurd h1 q
 have hmem:∀p∈ws.set j (id,b'),p.1=id∧p=(id,b')∨∃i,i≠j∧ws[i]? =some p:=fun p hp=>by
  obtain⟨i,hi⟩:=List.getElem?_of_mem hp;rw[List.getElem?_set]at hi;split at hi
  ·split at hi
   ·injection hi with hi;exact .inl ⟨by rw[←hi],hi.symm⟩
   ·cases hi
  ·rename_i hne;exact .inr ⟨i,fun q=>hne q.symm,hi⟩
 have hne:∀i p,i≠j→ws[i]? =some p→p.1≠id:=fun i p hij hi=>by
  have hpw:=List.pairwise_iff_getElem.1 hS.w.2;obtain⟨hi1,hi2⟩:=List.getElem?_eq_some_iff.1 hi;obtain⟨hj1,hj2⟩:=List.getElem?_eq_some_iff.1 hj;rcases Nat.lt_or_gt_of_ne hij with hlt|hgt
  ·have:=hpw i j hi1 hj1 hlt;rw[hi2,hj2]at this;exact this
  ·have:=hpw j i hj1 hi1 hgt;rw[hi2,hj2]at this;exact fun q=>this q.symm
 have hids:∀p∈ws.set j (id,b'),∃q∈ws,q.1=p.1:=fun p hp=>by
  rcases hmem p hp with⟨h1,-⟩|⟨i,-,hi⟩
  ·exact⟨_,hm,h1.symm⟩
  ·exact⟨p,List.mem_of_getElem? hi,rfl⟩
 refine⟨hS.k,hS.n,hS.bar,fun k q=>(key k (by omega)).trans (hS.o k q),hS.l,⟨fun p hp=>?_,?_⟩,fun p hp=>?_,fun p hp=>?_⟩
 ·rcases hmem p hp with⟨-,rfl⟩|⟨i,hij,hi⟩
  ·exact⟨w1,w2,T.get_same⟩
  ·obtain⟨h1,h2,h3⟩:=hS.w.1 p (List.mem_of_getElem? hi);exact⟨h1,h2,(key _ (hne i p hij hi)).trans h3⟩
 ·have e1:(ws.set j (id,b')).map Prod.fst=ws.map Prod.fst:=by
   apply List.ext_getElem?;intro i;rw[List.getElem?_map,List.getElem?_map,List.getElem?_set];split
   ·rename_i hji;subst hji;rw[hj,if_pos (List.getElem?_eq_some_iff.1 hj).1];rfl
   ·rfl
  have h1:=List.pairwise_map.2 (show ws.Pairwise fun p q=>p.1≠q.1 from hS.w.2);rw[show (ws.map fun p:Nat × B=>p.1)=ws.map Prod.fst from rfl,←e1]at h1;exact List.pairwise_map.1 h1
 ·rcases hS.ls p hp with hl|⟨i,cap,c,h1,h2,h3,h4,h5,h6⟩
  ·exact .inl hl
  ·have hi:i≠id:=fun q=>h6 _ hm q.symm;exact .inr ⟨i,cap,c,h1,h2,(key i hi).trans h3,h4,h5,fun p hp=>by obtain⟨q,q1,q2⟩:=hids p hp;exact q2▸h6 q q1⟩
 ·obtain⟨i,off,b2,h1,h3,h4,h5,h6⟩:=hS.ps p hp;have hi:i≠id:=fun q=>h6 _ hm q.symm;exact⟨i,off,b2,h1,(key i hi).trans h3,h4,h5,fun p hp=>by obtain⟨q,q1,q2⟩:=hids p hp;exact q2▸h6 q q1⟩
end
end Go.Proofs.YthjhkhlafhjjmaaGreatDoor.E
