/- SymbolKnown holds. No condition. -/
import Derived.Test.YtamnpcdkcdfgaaaGreatDoorQs07
namespace Go.Proofs.YtamnpcdkcdfgaaaGreatDoor
namespace E
open Go Go.RowKit
open Ma Me K
structure Wf (h:H):Prop where
 b:∀id b,h.h.get id=some b→id<h.n
 l:∀id b,h.l.get id=some b→id<h.n
section
variable {F:Cf} {nt:Nat} {call:bB} {ops:Array Oper} {e0 e1:Env} {h h0 h1 hq:H} {tr:List Tp} {p:Tp} {c c0 g d:Cx} {wb:World} {a0 a:Act} {b0:Nat} {B:List (Nat × List Nat)} {L:Nat→Bool} {w:World}
theorem aOg(hc:bZ call)(hp:St1 F nt call ops.toList H.lift p)(hw:Wf p.h):Wf p.h':=by
 cases hb:p.b with
 |true=>
  have k:=xY hc (Nat.le_refl _) (hp.y hb);exact⟨k.wb hw.b,k.wl hw.l⟩
 |false=>
  obtain⟨-,k⟩:=hp.n hb;rw[k];exact⟨hw.b,hw.l⟩
theorem aIk(hc:bZ call)(ht:Trace (St1 F nt call ops.toList H.lift) e0 h0 tr e1 h1):Wf h0→∀hq∈stages tr h1,Wf hq:=by
 induction ht with
 |nil e h=>
  intro hw hq hm;simp[stages]at hm;subst hm;exact hw
 | @cons p l e2 h2 hp ht ih=>
   intro hw hq hm;rcases List.mem_cons.1 (show hq∈p.h::stages l h2 from hm) with rfl|hm2
   ·exact hw
   ·exact ih (aOg hc hp hw) hq hm2
theorem Rl.wf(hr:Rl c wb h):Wf h:=⟨fun id b k=>(hr.blk id b k).1,fun id b k=>(hr.lp id b k).1⟩
theorem Rl.up(hr:Rl c wb h)(hn:h.n≤hq.n)(hl:Low h hq)(hw:Wf hq):Rl (c.lo hq.n) wb (hq.back h.bar):=by
 have lt:∀id,c.k id→id<h.n:=fun id k=>by have:=hr.k id k;rw[hr.n]at this;exact this
 have X:Xs c (c.lo hq.n):=⟨fun id k=>⟨k,Nat.lt_of_lt_of_le (lt id k) hn⟩,fun _ _=>rfl,fun _ _ k=>k,fun _ _ k=>k,fun _ _ cs _ k=>⟨cs,k,rfl⟩,rfl⟩
 exact⟨rfl,fun id q=>q.2,hr.q,fun id b hg=>⟨hw.b id b hg,fun q=>((hr.blk id b ((hl id (lt id q.1.1)).1 b hg)).2 ⟨q.1.1,q.2⟩).xs X rfl⟩,
  fun i j b b2 hi hj qi qj hij=>hr.inj i j b b2 ((hl i (lt i qi.1.1)).1 b hi) ((hl j (lt j qj.1.1)).1 b2 hj) ⟨qi.1.1,qi.2⟩ ⟨qj.1.1,qj.2⟩ hij,
  fun id b hg q hb=>hr.new id b ((hl id (lt id q.1.1)).1 b hg) ⟨q.1.1,q.2⟩ hb,
  fun l p hg=>⟨hw.l l p hg,fun q=>⟨((hr.lp l p ((hl l (lt l q.1)).2 p hg)).2 q.1).1.xs X rfl,((hr.lp l p ((hl l (lt l q.1)).2 p hg)).2 q.1).2⟩⟩,
  fun i j p p2 hi hj qi qj hij=>hr.li i j p p2 ((hl i (lt i qi.1)).2 p hi) ((hl j (lt j qj.1)).2 p2 hj) qi.1 qj.1 hij⟩
theorem JAg.start(hc:bZ call)(ht:Trace (St1 F nt call ops.toList H.lift) e0 h0 tr e1 h1)(f:Fr F c0 wb nt h0 e0 a0){Bs:List Nat}:JAg F nt ops c0 wb a0 e0 h0 tr h1 h0.bar Bs c0 (fun _=>false) a0 c0.w:=by
 have lt:∀id,c0.k id→id<h0.n:=fun id k=>by have:=f.r.k id k;rw[f.r.n]at this;exact this
 refine⟨rfl,f.z,fun hq hm=>?_,fun id k=>.inl (lt id k),(Xt.refl c0).xs,Ps.refl _,fun id k=>.inl k,fun p hp hL=>(by cases hL),fun t v hv _=>?_,f.t.1,rfl,fun i o e _ hL=>(by cases hL),fun _ _=>rfl⟩
 ·obtain⟨k1,k2⟩:=later hc ht hq hm;exact f.r.up k1 k2 (aIk hc ht f.r.wf hq hm)
 ·obtain⟨u,k1,k2⟩:=f.t.2 t v hv;exact⟨u,k1,k2.xs (show Xs c0 (c0.lo h0.n) from⟨fun id k=>⟨k,lt id k⟩,fun _ _=>rfl,fun _ _ k=>k,fun _ _ k=>k,fun _ _ cs _ k=>⟨cs,k,rfl⟩,rfl⟩)⟩
theorem JAg.finish{Bs:List Nat}(hc:bZ call)(ht:Trace (St1 F nt call ops.toList H.lift) e0 h0 tr e1 h1)(f:Fr F c0 wb nt h0 e0 a0)(hJ:JAg F nt ops c0 wb a0 e0 h0 tr h1 b0 Bs g L a w)(hall:∀p∈tr,L p.i=true):
  Fr F (g.lo h1.n) wb nt (h1.back b0) e1 a∧Xt c0 (g.lo h1.n)∧g.w=w:=by
 have hn:=(later hc ht h1 bT).1;have lt:∀id,c0.k id→id<h0.n:=fun id k=>by have:=f.r.k id k;rw[f.r.n]at this;exact this
 refine⟨⟨hJ.st h1 bT,hJ.z,⟨hJ.sz,fun t v hv=>?_⟩,f.b⟩,⟨by rw[f.r.n];exact hn,fun id k=>⟨hJ.x.k id k,Nat.lt_of_lt_of_le (lt id k) hn⟩,fun id k=>by rw[f.r.n];exact hJ.o id k.1,hJ.x.r,hJ.p,hJ.x.z⟩,hJ.w⟩;rcases ht.get (fun q hq=>hq.e) hv with⟨q,hq,hd,rfl⟩|⟨hno,hv⟩
 ·obtain⟨u,k1,k2⟩:=hJ.v q hq (hall q hq) t hd;refine⟨u,k1,k2.xs (vM ?_)⟩;obtain⟨s1,s2,he⟩:=List.append_of_mem hq;rw[he]at ht;exact (later hc ht.split.2.2 h1 bT).1
 ·obtain⟨u,k1,k2⟩:=hJ.b t v hv (fun q hq hd=>absurd hd (hno q hq));exact⟨u,k1,k2.xs (vM hn)⟩
theorem Plan.ready{A:List Nat}(hP:Plan F ops A B){L:Nat→Bool}(h:∃j,j<ops.size∧L j=false):∃i o,ops[i]? =some o∧L i=false∧∀e∈o.after,Region.binds .any e=true→L e.on=true:=hP.dn L h
end
section
variable {F:Cf} {nt:Nat} {call:bB} {ops:Array Oper} {e0 e1 e2:Env} {h0 h1 h2:H} {tr:List Tp} {trB:List (Tp × List Nat)} {c0:Cx} {wb:World} {a0 a:Act} {A:List Nat} {B:List (Nat × List Nat)} {L:Nat→Bool} {w:World}
def Cl(ops:Array Oper)(L:Nat→Bool):Prop:=∀i o e,ops[i]? =some o→L i=true→e∈o.after→keep o e=true→L e.on=true
structure JBg (F:Cf) (nt:Nat) (call:bB) (ops:Array Oper) (c0:Cx) (wb:World) (a0:Act) (tr:List Tp) (trB:List (Tp × List Nat)) (e2:Env) (h2:H) (s1 s2:List (Tp × List Nat)) (eB:Env) (hB:H) (d:Cx) (L:Nat→Bool) (a:Act) (w:World):Prop where
 sp:trB=s1++s2
 t:TraceB F nt call ops.toList eB hB s2 e2 h2
 f:Fr F d wb nt hB eB a
 x:Xt c0 d
 w:d.w=w
 df:a.defers=a0.defers
 a:∀p∈tr,L p.i=true
 b1:∀q∈s1,L q.1.i=true
 b2:∀q∈s2,L q.1.i=false
 cl:Cl ops L
theorem reached(hcl:Cl ops L){i:Nat}{o:Oper}(ho:ops[i]? =some o)(hdep:∀e∈o.after,keep o e=true→L e.on=true){j:Nat}(h:Reach ops i j):L j=true:=by
 obtain⟨o2,e,k1,k2,k3,k4⟩:=h.first;rw[ho]at k1;injection k1 with k1;subst k1;rcases k4 with rfl|k4
 ·exact hdep _ k2 k3
 ·exact k4.closed (S:=fun i=>L i=true) hcl (hdep _ k2 k3)
theorem aKG{j:Nat}:¬(msN []).testBit j=true:=by rw[yC];simp
theorem JBg.step{s1 s2:List (Tp × List Nat)}{eB:Env}{hB:H}{d:Cx}(hopk:∀(j:Nat) (o:Oper) (e:Env) (h:H) (v:AV) (h':H),ops[j]? =some o→op1 F call o.op e h=some (v,h')→kE F nt ops j o e h v h')
  (hP:Plan F ops A B) (hmap:(trB.map fun q=>(q.1.i,q.2))=B) (hno:∀q∈B,q.2=[]) (hJ:JBg F nt call ops c0 wb a0 tr trB e2 h2 s1 s2 eB hB d L a w) {i:Nat} {o:Oper} (ho:ops[i]? =some o) (hi:L i=false) (hdep:∀e∈o.after,keep o e=true→L e.on=true) (hiB:i∈B.map Prod.fst)
  (b:Frame) (rest:List Nat) (k:List Item) (cs:List Frame):
  ∃a' w' s1' s2' eB' hB' d',JBg F nt call ops c0 wb a0 tr trB e2 h2 s1' s2' eB' hB' d' (Ja.upd L i true) a' w'∧Steps F.P (lone (b.atR a (.inRegion ops (i::rest)::k)) cs w) (lone (b.atR a' (.inRegion ops rest::k)) cs w'):=by
 have hnd:(B.map Prod.fst).Nodup:=(List.nodup_append.1 hP.nd).2.1;have hfst:B.map Prod.fst=trB.map fun q=>q.1.i:=by rw[←hmap,List.map_map];rfl
 rw[hfst]at hnd hiB;obtain⟨q,hq,rfl⟩:=List.mem_map.1 hiB;rw[hJ.sp]at hq;have hq2:q∈s2:=by
  rcases List.mem_append.1 hq with hq|hq
  ·have:=hJ.b1 q hq;rw[hi]at this;cases this
  ·exact hq
 obtain⟨q0,s2',rfl⟩:∃q0 s2',s2=q0::s2':=by
  cases s2 with
  |nil=>cases hq2
  |cons x y=>exact⟨x,y,rfl⟩
 have hqq:q=q0:=by
  rcases List.mem_cons.1 hq2 with h|h
  ·exact h
  ·exfalso;obtain⟨x1,x2,he⟩:=List.append_of_mem h;have hB:B=((s1++q0::x1).map fun q=>(q.1.i,q.2))++(q.1.i,q.2)::(x2.map fun q=>(q.1.i,q.2)):=by
    rw[←hmap,hJ.sp,he];simp
   have hone:=hP.b _ _ _ _ hB;have h3:q.2=[]:=hno (q.1.i,q.2) (by rw[hB];simp);rcases hone.s rfl q0.1.i (by simp) with h4|h4
   ·have h5:=reached hJ.cl ho hdep h4;rw[hJ.b2 q0 List.mem_cons_self]at h5;cases h5
   ·rw[h3]at h4;exact aKG h4
 subst hqq;have hw:=hJ.w;subst hw;have ht:=hJ.t;obtain⟨p,rm⟩:=q;have fin:∀{u:Value} {d2:Cx} {e':Env} {hh:H},p.e'=e'→p.h'=hh→TraceB F nt call ops.toList p.e' p.h' s2' e2 h2→Xt d d2→Fr F d2 wb nt hh e' (a.put o.dst u)→
     JBg F nt call ops c0 wb a0 tr trB e2 h2 (s1++[(p,rm)]) s2' e' hh d2 (Ja.upd L p.i true) (a.put o.dst u) d2.w:=by
  rintro u d2 e' hh rfl rfl ht2 X f2;refine⟨by rw[hJ.sp];simp,ht2,f2,hJ.x.trans X,rfl,by cases o.dst<;>exact hJ.df,fun q hq=>iN (hJ.a q hq),fun q hq=>?_,fun q hq=>?_,fun i' o' e'' hio hL he hb=>?_⟩
  ·rcases List.mem_append.1 hq with hq|hq
   ·exact iN (hJ.b1 q hq)
   ·rw[List.mem_singleton]at hq;subst hq;exact aEU
  ·have h1:=hJ.b2 q (List.mem_cons_of_mem _ hq);rw[hJ.sp,List.map_append,List.map_cons]at hnd;have h2:=(List.nodup_cons.1 (List.nodup_append.1 hnd).2.1).1;unfold Ja.upd;rw[if_neg (fun e=>h2 (by rw[←show q.1.i=p.i from e];exact List.mem_map_of_mem (f:=fun q:Tp × List Nat=>q.1.i) hq))];exact h1
  ·rcases rJ hL with rfl|hL
   ·rw[ho]at hio;injection hio with hio;subst hio;exact iN (hdep _ he hb)
   ·exact iN (hJ.cl _ _ _ hio hL he hb)
 cases ht with
 |cons hp hs ht2=>
  have ho2:ops[p.i]? =some p.o:=(by simpa using bN hp.o);have ho3:ops[p.i]? =some o:=ho;have heq:o=p.o:=(by rw[ho2]at ho3;injection ho3 with ho3;exact ho3.symm);subst heq;have hW:=jM hp.w hJ.f.t;have htr:∀{d2:Cx} {u:Value},Tr d2 nt p.e a.tmps→VR d2 p.v u→Tr d2 nt p.e' (a.put p.o.dst u).tmps:=fun {d2 u} h1 h2=>by
    refine⟨by cases p.o.dst<;>simpa [Act.put] using h1.1,fun t v hv=>?_⟩;rcases hp.e.get hv with⟨k1,rfl⟩|⟨k1,k2⟩
    ·have h6:=hp.e;rw[k1]at h6⊢;exact⟨u,yE (by rw[h1.1];exact h6.1) rfl,h2⟩
    ·obtain⟨u2,m1,m2⟩:=h1.2 t v k2;exact⟨u2,by rw[uC k1];exact m1,m2⟩
  cases hb:p.b with
  |true=>
   obtain⟨u,d2,X,R,V,S⟩:=hopk p.i p.o _ _ _ _ ho2 (hp.y hb) d wb a hJ.f (hW.trans hb) b rest k cs;exact⟨_,_,_,_,_,_,_,fin rfl rfl ht2 X ⟨R,fun t=>by rw[X.z];exact hJ.f.z t,htr (hJ.f.t.xt X) V,hJ.f.b⟩,S⟩
  |false=>
   obtain⟨hv,hh⟩:=hp.n hb;have S:=stepR_op_skip (P:=F.P) (b:=b) (a:=a) (k:=k) (cs:=cs) (w:=d.w) (ops:=ops) (i:=p.i) (rest:=rest) (by simp[ho2,hW.trans hb]);simp only[ho2,Option.bind_some]at S;exact⟨_,_,_,_,_,_,_,fin rfl rfl ht2 (Xt.refl d) ⟨by rw[hh];exact hJ.f.r,hJ.f.z,htr hJ.f.t (by rw[hv];exact mW),hJ.f.b⟩,.one S⟩
end
section
variable {F:Cf} {nt fn:Nat} {call:bB} {ops:Array Oper} {e e1 e2:Env} {h h1 h2:H} {tr:List Tp} {trB:List (Tp × List Nat)} {q:Bool} {r:R}
theorem yF{eB:Env}{hB:H}(ht:TraceB F nt call ops.toList eB hB [] e2 h2):e2=eB∧h2=hB:=by
 cases ht;exact⟨rfl,rfl⟩
end
theorem T.get_ne{α:Type}{n:Nat}{x:α}{t:T n α}{k j:Nat}(hn:j≠k):(T.set x t k).get j=t.get j:=by
 rcases T.get_upd (x:=x) (t:=t) (k:=k) (j:=j) with h|⟨h,-⟩
 ·exact h
 ·exact absurd h hn
section
variable {F:Cf} {nt:Nat} {call:bB} {ops:Array Oper} {e e1:Env} {h h0 h1:H} {tr:List Tp}
theorem uB.ne{d:Option Nat}{v:AV}{e':Env}(hp:uB nt e d v e'){t:Nat}(ht:d≠some t):e'.get t=e.get t:=by
 cases d with
 |none=>rw[show e'=e from hp]
 |some k=>
  obtain⟨-,rfl⟩:=hp;exact T.get_ne fun q=>ht (by rw[q])
theorem Trace.ne{S:Tp→Prop}(hS:∀p,S p→uB nt p.e p.o.dst p.v p.e')(ht:Trace S e h tr e1 h1){t:Nat}(hno:∀p∈tr,p.o.dst≠some t):e1.get t=e.get t:=by
 induction ht with
 |nil e h=>rfl
 | @cons p l e2 h2 hp ht ih=>exact (ih fun q hq=>hno q (List.mem_cons_of_mem _ hq)).trans ((hS p hp).ne (hno p List.mem_cons_self))
def yG(F:Cf)(call:bB):Prop:=∀(f:Nat) (g:List AV→Option AV) (l:List AV) (h h0:H),F.pr f=some g→Pm h (call (sc (.f f [])) l h) (call (sc (.f f [])) l h0)
theorem aCY{ex:bG}:yG F (aY F ex):=by
 intro f g l h h0 hf;show Pm h (aU F ex f (app l (wM [])) h) (aU F ex f (app l (wM [])) h0);unfold aU;rw[hf];refine Pm.ob fun G=>Pm.ob fun c=>?_;exact Pm.ob (f:=fun v=>some (v,h)) (g:=fun v=>some (v,h0)) fun v=>Pm.ye
theorem aMD{o:Op}(hc:yG F call)(hm:mkO F o=.p):Pm h (op1 F call o e h) (op1 F call o e h0):=by
 cases o with
 |move x=>exact Pm.ob (f:=fun v=>some (v,h)) (g:=fun v=>some (v,h0)) fun v=>Pm.ye
 |assign x=>exact Pm.ob (f:=fun v=>some (v,h)) (g:=fun v=>some (v,h0)) fun v=>Pm.ye
 |pick c a d=>exact aDk
 |build t ps=>exact aBu
 |nilCheck x=>exact aFY
 |binOp op t x y t2=>exact aFZ
 |unOp op t x=>exact aJs
 |convert s t x=>exact aDl
 |makeFunc g x y=>exact aDm
 |makeInterface t x=>exact aJr
 |slice t x lo hi mx=>exact aBv
 |fieldAddr s x g=>exact aJt
 |field s x g=>exact aBw
 |indexAddr t x y=>exact aJu
 |index t x y=>exact aJv
 |extract x i=>exact aF3
 |call c=>
  obtain⟨callee,xs,ats⟩:=c;cases callee with
  |value g=>
   cases g with
   |func f=>
    have hm:(Option.rec (motive:=fun _=>Mk) .c (fun _=>.p) (F.pr f))=Mk.p:=hm;cases hp:F.pr f with
    |none=>rw[hp]at hm;cases hm
    |some gg=>
     show Pm h (ob (ev e (.func f)) fun v=>ob (evL e xs.toList) fun l=>call v l h) (ob (ev e (.func f)) fun v=>ob (evL e xs.toList) fun l=>call v l h0);exact Pm.ob (r:=evL e xs.toList) (f:=fun l=>call (sc (.f f [])) l h) (g:=fun l=>call (sc (.f f [])) l h0) fun l=>hc f gg l h h0 hp
   |_=>cases hm
  |invoke r m=>cases hm
  |builtin b=>
   refine Pm.ob (f:=fun l=>bi F h b ats.toList l) (g:=fun l=>bi F h0 b ats.toList l) fun l=>?_;cases b with
   |len=>
    have hnm:∀t i k e,ats.toList=[t]→F.ti t=some i→i.d≠.mp k e:=fun t i k e h1 h2 h3=>by
        have hm:mkL F {callee:=.builtin .len,args:=xs,argTypes:=ats}=.p:=hm;unfold mkL at hm;dsimp only at hm;rw[h1]at hm;dsimp only at hm;have:aH0 F t=true:=(by unfold aH0;rw[h2];dsimp only;rw[h3]);rw[this]at hm;cases hm
    unfold bi;dsimp only;split
    ·rename_i t x hats;cases hti:F.ti t with
     |none=>rfl
     |some i=>
      show Pm h (one x _) (one x _);refine Pm.one fun s=>?_;have hno:∀k e,i.d≠.mp k e:=fun k e=>hnm t i k e hats hti;split<;>first|exact absurd (by assumption) (hno _ _)|(repeat' (first|exact rfl|exact aF1|exact aF2|exact Pm.no|exact Pm.ye|exact Pm.vh|refine Pm.ob fun _=>?_|split))
    ·rfl
   |min=>exact Pm.ob (f:=fun v=>some (v,h)) (g:=fun v=>some (v,h0)) fun v=>Pm.ye
   |max=>exact Pm.ob (f:=fun v=>some (v,h)) (g:=fun v=>some (v,h0)) fun v=>Pm.ye
   |append=>cases hm
   |clear=>cases hm
   |copy=>cases hm
   |cap=>unfold bi;dsimp only;repeat' (first|exact rfl|exact Pm.no|exact Pm.ye|exact Pm.vh|refine Pm.ob fun _=>?_|refine Pm.cb ?_ ?_|refine Pm.one fun _=>?_|refine Pm.agg fun _=>?_|refine Pm.natOf fun _=>?_|refine Pm.bound fun _=>?_|refine Pm.chk ?_|refine Pm.opt ?_ fun _=>?_|split)
   |_=>exact Pm.no
 |_=>cases hm
theorem vN{x y:Bool}(h:cb x y (cO y)=true):x=y:=by cases x<;>cases y<;>first|rfl|cases h
theorem aME{x y:SV}(h:svb x y=true):x=y:=by
 unfold svb at h;split at h
 ·rw[vN h]
 ·obtain⟨h1,h2⟩:=aO.1 h;rw[lU]at h2;rw[of_decide_eq_true h1,of_decide_eq_true h2]
 ·rw[tX]at h;rw[of_decide_eq_true h]
 ·rfl
 ·obtain⟨h1,h2⟩:=aO.1 h;rw[aH.1 h1,aH.1 h2]
 ·rfl
 ·obtain⟨h1,h2⟩:=aO.1 h;obtain⟨h3,h4⟩:=aO.1 h2;obtain⟨h5,h6⟩:=aO.1 h4;rw[aH.1 h1,aH.1 h3,aH.1 h5,aH.1 h6]
 ·obtain⟨h1,h2⟩:=aO.1 h;obtain⟨h3,h4⟩:=aO.1 h2;rw[aH.1 h1,aH.1 h3,aH.1 h4]
 ·rw[aH.1 h]
 ·rfl
 ·rw[aH.1 h]
 ·rfl
 ·rw[aH.1 h]
 ·cases h
theorem lZ:∀{l m:List SV},svL l m=true→l=m
 | [],[],_=>rfl
 | [],_::_,h=>by cases h
 |_::_,[],h=>by cases h
 |a::l,b::m,h=>by
  obtain⟨h1,h2⟩:=aO.1 (show cb (svb a b) (svL l m) false=true from h);rw[aME h1,lZ h2]
theorem aMF{x y:AV}(h:avb x y=true):x=y:=by
 unfold avb at h;split at h
 ·obtain⟨h1,h2⟩:=aO.1 h;rw[vN h1,lZ h2]
 ·cases h
theorem zK{xs:Array Operand}{ats:Array TypeId}:mkO F (.call {callee:=.builtin .len,args:=xs,argTypes:=ats})=.c∨mkO F (.call {callee:=.builtin .len,args:=xs,argTypes:=ats})=.p:=by
 show mkL F {callee:=.builtin .len,args:=xs,argTypes:=ats}=.c∨mkL F {callee:=.builtin .len,args:=xs,argTypes:=ats}=.p;unfold mkL;dsimp only;split
 ·rw[aL];split
  ·exact .inl rfl
  ·exact .inr rfl
 ·exact .inr rfl
theorem aGE{o:Op}(hm:mkO F o=.l):∃t a,o=.load t a:=by
 cases o with
 |load t a=>exact⟨t,a,rfl⟩
 |call c=>
  obtain⟨callee,xs,ats⟩:=c;cases callee with
  |value g=>
   cases g with
   |func f=>
    have hm:(Option.rec (motive:=fun _=>Mk) .c (fun _=>.p) (F.pr f))=Mk.l:=hm;cases hp:F.pr f with
    |none=>rw[hp]at hm;cases hm
    |some gg=>rw[hp]at hm;cases hm
   |_=>cases hm
  |invoke r m=>cases hm
  |builtin b=>
   cases b with
   |len=>rcases zK (F:=F) (xs:=xs) (ats:=ats) with h|h<;>rw[h]at hm<;>cases hm
   |_=>cases hm
 |_=>cases hm
end
section
variable {F:Cf} {nt:Nat} {call:bB} {ops:Array Oper} {e e' e0 e1 e2:Env} {h0 h1 h2:H} {tr:List Tp} {trB:List (Tp × List Nat)} {c0:Cx} {wb:World} {a0 a:Act} {B:List (Nat × List Nat)} {L:Nat→Bool} {w:World}
structure JPg (F:Cf) (nt:Nat) (call:bB) (ops:Array Oper) (c0:Cx) (wb:World) (a0:Act) (e1:Env) (tr:List Tp) (trB:List (Tp × List Nat)) (e2:Env) (h2:H) (s1 s2:List (Tp × List Nat)) (eB:Env) (hB:H) (d:Cx) (L:Nat→Bool) (a:Act) (w:World):Prop where
 sp:trB=s1++s2
 t:TraceB F nt call ops.toList eB hB s2 e2 h2
 en:∀t,(∀q∈s1,q.1.o.dst≠some t)→eB.get t=e1.get t
 r:Rl d wb hB
 z:∀t,d.z t=F.P.cellsOf t
 tb:F.tb wb
 sz:a.tmps.size=nt
 pl:∀t v,eB.get t=some v→(∀p∈tr,p.o.dst=some t→L p.i=true)→∃u,a.tmps[t]? =some u∧VR d v u
 x:Xt c0 d
 w:d.w=w
 df:a.defers=a0.defers
 b1:∀q∈s1,L q.1.i=true
 b2:∀q∈s2,L q.1.i=false
 cl:Cl ops L
 /--what is not done has made nothing that is known -/
 kn:∀p∈tr,L p.i=false→∀id,d.k id→¬(p.h.n≤id∧id<p.h'.n)
 nb:∀p∈tr,p.h'.n≤hB.n
theorem apart(hc:bZ call){e1:Env}{h h1:H}(ht:Trace (St1 F nt call ops.toList H.lift) e h tr e1 h1){p p':Tp}(hp:p∈tr)(hp':p'∈tr)(hne:p≠p'):p'.h'.n≤p.h.n∨p.h'.n≤p'.h.n:=by
 obtain⟨l1,l2,rfl⟩:=List.append_of_mem hp;obtain⟨t1,-,t2⟩:=ht.split;rcases List.mem_append.1 hp' with h2|h2
 ·obtain⟨m1,m2,rfl⟩:=List.append_of_mem h2;exact .inl (later hc t1.split.2.2 p.h bT).1
 ·rcases List.mem_cons.1 h2 with h3|h3
  ·exact absurd h3.symm hne
  ·exact .inr (later hc t2 p'.h (fB h3)).1
def Sm(F:Cf)(ops:Array Oper)(B:List (Nat × List Nat))(tr:List Tp)(eB:Env)(hB:H)(L:Nat→Bool):Prop:=∀p∈tr,L p.i=false→Same F ops.toList eB hB p.i∧∃q∈B,p.i∈q.2
theorem Plan.inA(hP:Plan F ops (tr.map Tp.i) B){i j:Nat}(h:Reach ops i j)(hi:i∈tr.map Tp.i):j∈tr.map Tp.i:=by
 refine h.closed (S:=fun i=>i∈tr.map Tp.i) (fun i o e ho hm he hb=>?_) hi;obtain⟨s1,s2,hs⟩:=List.append_of_mem hm;obtain⟨o',k1,k2,-⟩:=(hP.a s1 i s2 hs).o;rw[ho]at k1;injection k1 with k1;subst k1;rw[hs];exact List.mem_append_left _ (k2 e he hb)
theorem JPg.step{s1 s2:List (Tp × List Nat)}{eB:Env}{hB:H}{d:Cx}(hopk:∀(j:Nat) (o:Oper) (e:Env) (h:H) (v:AV) (h':H),ops[j]? =some o→op1 F call o.op e h=some (v,h')→kE F nt ops j o e h v h')
  (hP:Plan F ops (tr.map Tp.i) B) (hopA:∀p∈tr,ops[p.i]? =some p.o) (hmap:(trB.map fun q=>(q.1.i,q.2))=B) (hrm:∀q∈B,∀j∈q.2,j∉B.map Prod.fst) (hJ:JPg F nt call ops c0 wb a0 e1 tr trB e2 h2 s1 s2 eB hB d L a w) {i:Nat} {o:Oper} (ho:ops[i]? =some o) (hi:L i=false) (hdep:∀e∈o.after,keep o e=true→L e.on=true) (hiB:i∈B.map Prod.fst)
  (b:Frame) (rest:List Nat) (k:List Item) (cs:List Frame):
  ∃a' w' s1' s2' eB' hB' d',s1'≠[]∧Sm F ops B tr eB' hB' (Ja.upd L i true)∧JPg F nt call ops c0 wb a0 e1 tr trB e2 h2 s1' s2' eB' hB' d' (Ja.upd L i true) a' w'∧Steps F.P (lone (b.atR a (.inRegion ops (i::rest)::k)) cs w) (lone (b.atR a' (.inRegion ops rest::k)) cs w'):=by
 have hnd0:=List.nodup_append.1 hP.nd;have hnd:(B.map Prod.fst).Nodup:=hnd0.2.1;have hfst:B.map Prod.fst=trB.map fun q=>q.1.i:=by rw[←hmap,List.map_map];rfl
 have hAB:∀p∈tr,p.i≠i:=fun p hp e=>hnd0.2.2 p.i (List.mem_map_of_mem hp) i hiB e;have hiB0:=hiB;rw[hfst]at hnd hiB;obtain⟨q,hq,rfl⟩:=List.mem_map.1 hiB;rw[hJ.sp]at hq;have hq2:q∈s2:=by
  rcases List.mem_append.1 hq with hq|hq
  ·have:=hJ.b1 q hq;rw[hi]at this;cases this
  ·exact hq
 obtain⟨q0,s2',rfl⟩:∃q0 s2',s2=q0::s2':=by
  cases s2 with
  |nil=>cases hq2
  |cons x y=>exact⟨x,y,rfl⟩
 have hqq:q=q0:=by
  rcases List.mem_cons.1 hq2 with h|h
  ·exact h
  ·exfalso;obtain⟨x1,x2,he⟩:=List.append_of_mem h;have hBB:B=((s1++q0::x1).map fun q=>(q.1.i,q.2))++(q.1.i,q.2)::(x2.map fun q=>(q.1.i,q.2)):=by
    rw[←hmap,hJ.sp,he];simp
   have hone:=hP.b _ _ _ _ hBB;rcases hone.s rfl q0.1.i (by simp) with h4|h4
   ·have h5:=reached hJ.cl ho hdep h4;rw[hJ.b2 q0 List.mem_cons_self]at h5;cases h5
   ·exact hrm (q.1.i,q.2) (by rw[hBB];simp) q0.1.i (yC.1 h4) (by rw[hfst,hJ.sp];simp)
 subst hqq;have hw:=hJ.w;subst hw;have ht:=hJ.t;obtain⟨p,rm⟩:=q;have hBB:B=(s1.map fun q=>(q.1.i,q.2))++(p.i,rm)::(s2'.map fun q=>(q.1.i,q.2)):=by
  rw[←hmap,hJ.sp];simp
 have hone:=hP.b _ _ _ _ hBB;cases ht with
 |cons hp hs ht2=>
  have ho2:ops[p.i]? =some p.o:=(by simpa using bN hp.o);have ho3:ops[p.i]? =some o:=ho;have heq:o=p.o:=(by rw[ho2]at ho3;injection ho3 with ho3;exact ho3.symm);subst heq;have hT:Tr d nt (p.e.flt (look ops p.o)) a.tmps:=by
    refine⟨hJ.sz,fun t v hv=>?_⟩;rw[T.get_flt]at hv;split at hv
    ·rename_i hlk;have hlk:t∈p.o.looksAt ops:=(by simpa [look] using hlk);refine hJ.pl t v hv fun p' hp' hd=>?_;rcases hP.wr p.i p.o t p'.i p'.o ho2 hlk (hopA p' hp') hd with k1|k1|k1
     ·exact absurd k1 (hAB p' hp')
     ·exact reached hJ.cl ho2 hdep k1
     ·obtain⟨p2,m1,m2⟩:=List.mem_map.1 (hP.inA k1 (List.mem_map_of_mem hp'));exact absurd m2 (hAB p2 m1)
    ·cases hv
  have f:Fr F d wb nt p.h (p.e.flt (look ops p.o)) a:=⟨hJ.r,hJ.z,hT,hJ.tb⟩
  have hwant:wanted ops.toList (p.e.flt (look ops p.o)) p.o.guard=some p.b:=(by rw[←rH];exact hp.w);have hW:=jM hwant hT;have fin:∀{u:Value} {d2:Cx},Xt d d2→Rl d2 wb p.h'→VR d2 p.v u→
      Sm F ops B tr p.e' p.h' (Ja.upd L p.i true)∧JPg F nt call ops c0 wb a0 e1 tr trB e2 h2 (s1++[(p,rm)]) s2' p.e' p.h' d2 (Ja.upd L p.i true) (a.put p.o.dst u) d2.w:=by
    intro u d2 X R V;refine⟨fun p' hp' hL=>⟨?_,(p.i,rm),by rw[hBB];simp,?_⟩,⟨by rw[hJ.sp];simp,ht2,fun t hno=>?_,R,fun t=>by rw[X.z];exact hJ.z t,hJ.tb,?_,fun t v hv hall=>?_,hJ.x.trans X,rfl,?_,fun q hq=>?_,fun q hq=>?_,fun i' o' e'' hio hL he hb=>?_,fun p' hp' hL id hk q=>?_,fun p' hp'=>?_⟩⟩
    ·have hL:=(rM hL).2;rcases hone.s rfl p'.i (List.mem_append_left _ (List.mem_map_of_mem hp')) with h4|h4
     ·rw[reached hJ.cl ho2 hdep h4]at hL;cases hL
     ·exact hs _ (yC.1 h4)
    ·have hL:=(rM hL).2;rcases hone.s rfl p'.i (List.mem_append_left _ (List.mem_map_of_mem hp')) with h4|h4
     ·rw[reached hJ.cl ho2 hdep h4]at hL;cases hL
     ·exact yC.1 h4
    ·rw[hp.e.ne (hno (p,rm) (by simp))];exact hJ.en t fun q hq=>hno q (List.mem_append_left _ hq)
    ·cases p.o.dst<;>simpa [Act.put] using hJ.sz
    ·rcases hp.e.get hv with⟨k1,rfl⟩|⟨k1,k2⟩
     ·have h6:=hp.e;rw[k1]at h6⊢;exact⟨u,yE (by rw[hJ.sz];exact h6.1) rfl,V⟩
     ·obtain⟨u2,m1,m2⟩:=hJ.pl t v k2 fun p' hp' hd=>(rJ (hall p' hp' hd)).resolve_left (hAB p' hp');exact⟨u2,by rw[uC k1];exact m1,m2.xt X⟩
    ·cases p.o.dst<;>exact hJ.df
    ·rcases List.mem_append.1 hq with hq|hq
     ·exact iN (hJ.b1 q hq)
     ·rw[List.mem_singleton]at hq;subst hq;exact aEU
    ·have h1:=hJ.b2 q (List.mem_cons_of_mem _ hq);rw[hJ.sp,List.map_append,List.map_cons]at hnd;have h2:=(List.nodup_cons.1 (List.nodup_append.1 hnd).2.1).1;unfold Ja.upd;rw[if_neg (fun e=>h2 (by rw[←show q.1.i=p.i from e];exact List.mem_map_of_mem (f:=fun q:Tp × List Nat=>q.1.i) hq))];exact h1
    ·rcases rJ hL with rfl|hL
     ·rw[ho2]at hio;injection hio with hio;subst hio;exact iN (hdep _ he hb)
     ·exact iN (hJ.cl _ _ _ hio hL he hb)
    ·exact (X.o id hk).elim (fun k=>hJ.kn p' hp' (rM hL).2 id k q) fun k=>by
      have h4:=hJ.nb p' hp';have h5:d.n=p.h.n:=hJ.r.n;omega
    ·have h4:=hJ.nb p' hp';have h5:d.n=p.h.n:=hJ.r.n;have h6:=X.n;have h7:=R.n;omega
  cases hb:p.b with
  |true=>
   have hx:op1 F call p.o.op (p.e.flt (look ops p.o)) p.h=some (p.v,p.h'):=by
      rw[←nT (e:=p.e) (fun x hx=>yD hx)];exact hp.y hb
   obtain⟨u,d2,X,R,V,S⟩:=hopk p.i p.o _ _ _ _ ho2 hx d wb a f (hW.trans hb) b rest k cs;obtain⟨m1,m2⟩:=fin X R V;exact⟨_,_,_,_,_,_,_,by simp,m1,m2,S⟩
  |false=>
   obtain⟨hv,hh⟩:=hp.n hb;have S:=stepR_op_skip (P:=F.P) (b:=b) (a:=a) (k:=k) (cs:=cs) (w:=d.w) (ops:=ops) (i:=p.i) (rest:=rest) (by simp[ho2,hW.trans hb]);simp only[ho2,Option.bind_some]at S;obtain⟨m1,m2⟩:=fin (Xt.refl d) (by rw[hh];exact hJ.r) (by rw[hv];exact mW);exact⟨_,_,_,_,_,_,_,by simp,m1,m2,.one S⟩
end
section
variable {F:Cf} {nt:Nat} {call:bB} {ops:Array Oper} {e e' e0 e1 e2:Env} {h0 h1 h2:H} {l1 l2:List Tp} {p:Tp} {trB:List (Tp × List Nat)} {c0:Cx} {wb:World} {a0 a:Act} {B:List (Nat × List Nat)} {L:Nat→Bool} {w:World}
theorem aCZ{o:Oper}(k:∀t∈o.looksAt ops,e.get t=e'.get t):wanted ops.toList e o.guard=wanted ops.toList e' o.guard:=by
 cases hg:o.guard with
 |none=>rfl
 |some p=>
  obtain⟨j,w⟩:=p;show (ob (drp j ops.toList).head? fun o=>ob o.dst fun d=>isB (e.get d) w)=ob (drp j ops.toList).head? fun o2=>ob o2.dst fun d=>isB (e'.get d) w;cases h1:(drp j ops.toList).head? with
  |none=>rfl
  |some o2=>
   show (ob o2.dst fun d=>isB (e.get d) w)=ob o2.dst fun d=>isB (e'.get d) w;cases h2:o2.dst with
   |none=>rfl
   |some d=>
    have h3:ops[j]? =some o2:=(by simpa using bN h1);have h4:d∈o.looksAt ops:=(by simp[Oper.looksAt,hg,h3,h2]);show isB (e.get d) w=isB (e'.get d) w;rw[k d h4]
theorem aKH{o:Oper}(k:∀t∈o.looksAt ops,e.get t=e'.get t){x:Operand}(hx:x∈o.op.operands):ev e x=ev e' x:=by
 cases x with
 |tmp t=>exact k t (aAn hx rfl)
 |_=>rfl
theorem aIl{o:Op}{c1 c2:bB}{h:H}(hm:mkO F o=.n):op1 F c1 o e h=op1 F c2 o e h:=by
 cases o with
 |call c=>
  obtain⟨callee,xs,ats⟩:=c;cases callee with
  |value g=>
   cases g with
   |func f=>
    have hm:(Option.rec (motive:=fun _=>Mk) .c (fun _=>.p) (F.pr f))=Mk.n:=hm;cases hp:F.pr f with
    |none=>rw[hp]at hm;cases hm
    |some gg=>rw[hp]at hm;cases hm
   |_=>cases hm
  |invoke r m=>cases hm
  |builtin b=>
   cases b with
   |len=>rcases zK (F:=F) (xs:=xs) (ats:=ats) with h|h<;>rw[h]at hm<;>cases hm
   |_=>cases hm
 |_=>first|rfl|cases hm
theorem vO{h:H}{x:E.B}{f:Nat→SV}{u:AV × H}(hx:(h.nw x fun a h=>vh (f a) h)=some u):u.2=⟨h.h.set x h.n,Nat.succ h.n,h.bar,h.l⟩∧u.1=sc (f h.n):=by
 unfold H.nw at hx;rw[aM]at hx;injection hx with hx;rw[←hx];exact⟨rfl,rfl⟩
theorem aBX{o:Op}{h:H}{u:AV × H}(hm:mkO F o=.n)(hx:op1 F call o e h=some u):∃x,u.2=⟨h.h.set x h.n,Nat.succ h.n,h.bar,h.l⟩∧(u.1=sc (.p h.n 0)∨∃n m,u.1=sc (.sl h.n 0 n (some m))):=by
 cases o with
 |alloc t=>
  obtain⟨i,-,hx⟩:=aA.1 (show nO F h t=some u from hx);obtain⟨k1,k2⟩:=vO hx;exact⟨_,k1,.inl k2⟩
 |box t x=>
  obtain⟨i,-,hx⟩:=aA.1 (show tF e h t x=some u from hx);obtain⟨g,c,-,hx⟩:=iL.1 hx;obtain⟨k1,k2⟩:=vO hx;exact⟨_,k1,.inl k2⟩
 |buildSlice t n ps=>
  obtain⟨i,-,hx⟩:=aA.1 (show gT F e h t n ps.toList=some u from hx);obtain⟨el,-,hx⟩:=aA.1 hx;obtain⟨j,-,hx⟩:=aA.1 hx;obtain⟨-,hx⟩:=aB.1 hx;obtain⟨c,-,hx⟩:=aA.1 hx;obtain⟨k1,k2⟩:=vO hx;exact⟨_,k1,.inr ⟨_,_,k2⟩⟩
 |makeSlice t l c=>
  obtain⟨i,-,hx⟩:=aA.1 (show vC F e h t l c=some u from hx);obtain⟨el,-,hx⟩:=aA.1 hx;obtain⟨j,-,hx⟩:=aA.1 hx;obtain⟨v,-,hx⟩:=aA.1 hx;obtain⟨s,-,hx⟩:=aI.1 hx;obtain⟨_,n,-,hx⟩:=fA hx;obtain⟨v2,-,hx⟩:=aA.1 hx;obtain⟨s2,-,hx⟩:=aI.1 hx;obtain⟨_,m,-,hx⟩:=fA hx;obtain⟨-,hx⟩:=aB.1 hx;obtain⟨-,hx⟩:=aB.1 hx;obtain⟨-,hx⟩:=aB.1 hx;obtain⟨k1,k2⟩:=vO hx;exact⟨_,k1,.inr ⟨_,_,k2⟩⟩
 |call c=>
  obtain⟨callee,xs,ats⟩:=c;cases callee with
  |value g=>
   cases g with
   |func f=>
    have hm:(Option.rec (motive:=fun _=>Mk) .c (fun _=>.p) (F.pr f))=Mk.n:=hm;cases hp:F.pr f with
    |none=>rw[hp]at hm;cases hm
    |some gg=>rw[hp]at hm;cases hm
   |_=>cases hm
  |invoke r m=>cases hm
  |builtin b=>
   cases b with
   |len=>rcases zK (F:=F) (xs:=xs) (ats:=ats) with h|h<;>rw[h]at hm<;>cases hm
   |_=>cases hm
 |_=>cases hm
theorem aBY{q:Option Lp}{x y:Option E.B}(h:aED q x y=true):q=none∧∃b,x=some b∧y=some b∧plS b.c=true:=by
 obtain⟨h0,h⟩:=aO.1 h;cases q with
 |some q=>cases h0
 |none=>
  cases x with
  |none=>cases h
  |some b=>
   cases y with
   |none=>cases h
   |some c=>
    obtain⟨h1,h2⟩:=aO.1 (show cb (Nat.beq b.ty c.ty) (cb (svL b.c c.c) (plS b.c) false) false=true from h);obtain⟨h3,h4⟩:=aO.1 h2;obtain⟨t1,l1⟩:=b;obtain⟨t2,l2⟩:=c;have e1:t1=t2:=aH.1 h1;have e2:l1=l2:=lZ h3;subst e1;subst e2;exact⟨rfl,_,rfl,rfl,h4⟩
theorem aIm{h:H}{v:AV}{u:AV × H}(hs:vD h v u=true):∃k b,h.l.get k=none∧h.h.get k=some b∧u.2.h.get h.n=some b∧plS b.c=true∧((v=sc (.p k 0)∧u.1=sc (.p h.n 0))∨∃n m,v=sc (.sl k 0 n (some m))∧u.1=sc (.sl h.n 0 n (some m))):=by
 unfold vD at hs;split at hs
 ·rename_i k n hu;obtain⟨h1,h2⟩:=aO.1 hs;have h1:=aH.1 h1;subst h1;obtain⟨h3,b,h4,h5,h6⟩:=aBY h2;exact⟨k,b,h3,h4,h5,h6,.inl ⟨rfl,hu⟩⟩
 ·rename_i k m c n m' c' hu;obtain⟨h1,h2⟩:=aO.1 hs;obtain⟨q1,q0⟩:=aO.1 h2;obtain⟨q2,q3⟩:=aO.1 q0;obtain⟨h3,b,h4,h5,h6⟩:=aBY q3;have h1:=aH.1 h1;have q1:=aH.1 q1;have q2:=aH.1 q2;clear h2 q0 q3;subst h1;subst q1;subst q2;exact⟨k,b,h3,h4,h5,h6,.inr ⟨_,_,rfl,hu⟩⟩
 ·cases hs
structure Ag3 (d d' d2:Cx):Prop where
 k:∀id,d.k id→d2.k id∧d2.r id=d'.r id
 w:d2.w=d'.w
 z:d2.z=d'.z
theorem sr3{d d' d2:Cx}(A:Ag3 d d' d2){s:SV}{v0 v:Value}(h0:SR d s v0)(h:SR d' s v):SR d2 s v:=by
 cases s with
 |p id off=>exact⟨(A.k id h0.1).1,by rw[(A.k id h0.1).2];exact h.2⟩
 |sl id off len cap=>
  cases cap with
  |some cap=>exact⟨(A.k id h0.1).1,by rw[(A.k id h0.1).2];exact h.2⟩
  |none=>
   obtain⟨h1,cap,o,h2,h3,h4,t,cs,fr,h5,h6⟩:=h;exact⟨(A.k id h0.1).1,cap,o,h2,by rw[(A.k id h0.1).2];exact h3,h4,t,cs,fr,by rw[(A.k id h0.1).2,A.w];exact h5,by rw[A.z];exact h6⟩
 |m n=>show Nm d2.w v n;rw[A.w];exact h
 |r n=>show Nr d2.w v n;rw[A.w];exact h
 |f fn cs=>
  refine⟨fun p hp=>(A.k _ (h0.1 p hp)).1,h.2.trans ?_⟩;congr 2;exact List.map_congr_left fun p hp=>by unfold ptr;rw[(A.k _ (h0.1 p hp)).2]
 |y l=>exact⟨(A.k l h0.1).1,by rw[(A.k l h0.1).2];exact h.2⟩
 |q l=>exact⟨(A.k l h0.1).1,by rw[(A.k l h0.1).2];exact h.2⟩
 |_=>exact h
theorem cl3{d d' d2:Cx}(A:Ag3 d d' d2):∀{l:List SV} {r0 r:List Value},CL d l r0→CL d' l r→CL d2 l r
 | [],_,[],_,_=>trivial
 |_::_,_::_,_::_,h0,h=>⟨sr3 A h0.1 h.1,cl3 A h0.2 h.2⟩
theorem vc3{d d' d2:Cx}(A:Ag3 d d' d2){g:Bool}{l:List SV}{v0 v:Value}(h0:VC d g l v0)(h:VC d' g l v):VC d2 g l v:=by
 cases g with
 |true=>obtain⟨cs0,-,k0⟩:=h0;obtain⟨cs,h1,h2⟩:=h;exact⟨cs,h1,cl3 A k0 h2⟩
 |false=>
  obtain⟨s0,h1,k0⟩:=h0;obtain⟨s,h2,h3⟩:=h;rw[h1]at h2;cases h2;exact⟨_,h1,sr3 A k0 h3⟩
theorem tl3{d d' d2:Cx}(A:Ag3 d d' d2):∀{l:List (Bool × List SV)} {r0 r:List Value},TL d l r0→TL d' l r→TL d2 l r
 | [],_,[],_,_=>trivial
 |_::_,_::_,_::_,h0,h=>⟨vc3 A h0.1 h.1,tl3 A h0.2 h.2⟩
theorem vr3{d d' d2:Cx}(A:Ag3 d d' d2){a:AV}{v0 v:Value}(h0:VR d a v0)(h:VR d' a v):VR d2 a v:=by
 cases a with
 |c g l=>exact vc3 A h0 h
 |t l=>obtain⟨vs0,-,k0⟩:=h0;obtain⟨vs,h1,h2⟩:=h;exact⟨vs,h1,tl3 A k0 h2⟩
theorem el3{d d' d2:Cx}(A:Ag3 d d' d2):∀{l:List (AV × AV)} {r0 r:List MapEntry},EL d l r0→EL d' l r→EL d2 l r
 | [],_,[],_,_=>trivial
 |_::_,_::_,_::_,h0,h=>⟨⟨vr3 A h0.1.1 h.1.1,vr3 A h0.1.2 h.1.2⟩,el3 A h0.2 h.2⟩
theorem aEV{d d2:Cx}(hw:d2.w=d.w):∀{l:List SV} {r:List Value},plS l=true→CL d l r→CL d2 l r
 | [],[],_,_=>trivial
 |s::l,v::r,hp,h=>by
  obtain⟨h1,h2⟩:=aO.1 (show cb (aLV s) (plS l) false=true from hp);refine⟨?_,aEV hw h2 h.2⟩;have h3:=h.1;cases s with
  |m n=>show Nm d2.w v n;rw[hw];exact h3
  |r n=>show Nr d2.w v n;rw[hw];exact h3
  |u=>cases h1
  |p id off=>cases h1
  |sl id off len cap=>cases h1
  |f fn cs=>cases h1
  |y l=>cases h1
  |q id=>cases h1
  |_=>exact h3
def Cx.also(d d':Cx)(k n:Nat):Cx:=⟨d.n,fun id=>d.k id∨id=k,fun id=>if id=k then d'.r n else d.r id,d'.w,d.z⟩
theorem aGF{d d':Cx}{wb:World}{hB:H}{x:E.B}{k:Nat}(R:Rl d wb hB)(X:Xt d d')(R':Rl d' wb ⟨hB.h.set x hB.n,Nat.succ hB.n,hB.bar,hB.l⟩)(hk':d'.k hB.n)(hb:hB.h.get k=some x)(hp:plS x.c=true)(hk:¬d.k k)(hlp:hB.l.get k=none):
  Rl (d.also d' k hB.n) wb hB∧Xs d (d.also d' k hB.n):=by
 have hkn:k<hB.n:=(R.blk k x hb).1;have hget:∀id,id<hB.n→(T.set x hB.h hB.n).get id=hB.h.get id:=fun id h=>by
  rcases T.get_upd (x:=x) (t:=hB.h) (k:=hB.n) (j:=id) with h1|⟨h1,-⟩
  ·exact h1
  ·omega
 have hr:∀id,d.k id→(d.also d' k hB.n).r id=d'.r id:=fun id h=>by
  show (if id=k then _ else d.r id)=_;rw[if_neg (fun e=>hk (by rw[←e];exact h)),X.r id h]
 have hrk:(d.also d' k hB.n).r k=d'.r hB.n:=if_pos rfl;have A:Ag3 d d' (d.also d' k hB.n):=⟨fun id h=>⟨.inl h,hr id h⟩,rfl,by rw[X.z];rfl⟩
 have hx:Lv d' hB.n x↔x.c≠[]:=⟨fun h=>h.2,fun h=>⟨hk',h⟩⟩
 have hlt:∀id,d.k id→id<hB.n:=fun id h=>by have:=R.k id h;rw[R.n]at this;exact this
 refine⟨⟨R.n,fun id h=>h.elim (fun h=>R.k id h) fun h=>(by rw[h];show k<d.n;rw[R.n];exact hkn),R'.q,fun id b hg=>⟨(R.blk id b hg).1,fun hl=>?_⟩,fun i j b b2 hi hj hli hlj hij=>?_,fun id b hg hl hbar=>?_,fun l p hl=>⟨(R.lp l p hl).1,fun h=>?_⟩,fun i j p p2 hi hj ki kj hij=>?_⟩,⟨fun id h=>.inl h,fun id h=>(hr id h).trans (X.r id h),X.p.m,X.p.mr,X.p.s,rfl⟩⟩
 ·by_cases hik:id=k
  ·subst hik;rw[hb]at hg;injection hg with hg;subst hg;rw[hrk];obtain⟨row,tail,h1,h2,h3⟩:=(R'.blk hB.n x T.get_same).2 ⟨hk',hl.2⟩;exact⟨row,tail,h1,aEV (d:=d') (d2:=d.also d' id hB.n) rfl hp h2,h3⟩
  ·have hdk:d.k id:=hl.1.resolve_right hik;obtain⟨row0,tail0,-,k0,-⟩:=(R.blk id b hg).2 ⟨hdk,hl.2⟩;obtain⟨row,tail,h1,h2,h3⟩:=(R'.blk id b ((hget id (hlt id hdk)).trans hg)).2 ⟨X.k id hdk,hl.2⟩;rw[hr id hdk];exact⟨row,tail,h1,cl3 A k0 h2,h3⟩
 ·by_cases hik:i=k
  ·subst hik;have hjd:d.k j:=hlj.1.resolve_right fun e=>hij e.symm;rw[hb]at hi;injection hi with hi;subst hi;rw[hrk,hr j hjd];exact R'.inj hB.n j x b2 T.get_same ((hget j (hlt j hjd)).trans hj) ⟨hk',hli.2⟩ ⟨X.k j hjd,hlj.2⟩ (by have:=hlt j hjd;omega)
  ·have hid:d.k i:=hli.1.resolve_right hik;by_cases hjk:j=k
   ·subst hjk;rw[hb]at hj;injection hj with hj;subst hj;rw[hrk,hr i hid];exact R'.inj i hB.n b x ((hget i (hlt i hid)).trans hi) T.get_same ⟨X.k i hid,hli.2⟩ ⟨hk',hlj.2⟩ (by have:=hlt i hid;omega)
   ·have hjd:d.k j:=hlj.1.resolve_right hjk;rw[hr i hid,hr j hjd,X.r i hid,X.r j hjd];exact R.inj i j b b2 hi hj ⟨hid,hli.2⟩ ⟨hjd,hlj.2⟩ hij
 ·by_cases hik:id=k
  ·subst hik;rw[hb]at hg;injection hg with hg;subst hg;rw[hrk];exact R'.new hB.n x T.get_same ⟨hk',hl.2⟩ (by show hB.bar≤hB.n;omega)
  ·have hdk:d.k id:=hl.1.resolve_right hik;rw[hr id hdk,X.r id hdk];exact R.new id b hg ⟨hdk,hl.2⟩ hbar
 ·have hlk:d.k l:=h.resolve_right fun e=>by
   subst e;rw[hlp]at hl;cases hl
  obtain⟨⟨rc0,-,-,-,k0,-,k8,k9⟩,k1⟩:=(R.lp l p hl).2 hlk;obtain⟨⟨rc,k2,k5,k6,k3,k7⟩,k4⟩:=(R'.lp l p hl).2 (X.k l hlk);rw[hr l hlk];refine⟨⟨rc,k2,k5,k6,fun hd=>?_,k7.1,fun l2 hl2=>?_,fun q hq=>?_⟩,k4⟩
  rotate_left
  ·obtain⟨es0,n0,-,e0,-⟩:=k8 l2 hl2;obtain⟨es,n,e1,e2,e3⟩:=k7.2.1 l2 hl2;exact⟨es,n,e1,el3 A e0 e2,e3⟩
  ·obtain⟨q1,q2⟩:=A.k q.m (k9 q hq).1;exact⟨q1,by rw[q2];exact (k7.2.2 q hq).2⟩
  obtain⟨D0,tm0,-,m0⟩:=k0 hd;obtain⟨D,tm,m1,m2⟩:=k3 hd;refine⟨D,tm,m1,m2.1,fun j v hv=>?_⟩;obtain⟨u0,-,n0⟩:=m0.2 j v hv;obtain⟨u,n1,n2⟩:=m2.2 j v hv;exact⟨u,n1,vr3 A n0 n2⟩
 ·have hid:d.k i:=ki.resolve_right fun e=>by
   subst e;rw[hlp]at hi;cases hi
  have hjd:d.k j:=kj.resolve_right fun e=>by
   subst e;rw[hlp]at hj;cases hj
  rw[hr i hid,hr j hjd,X.r i hid,X.r j hjd];exact R.li i j p p2 hi hj hid hjd hij
theorem JPg.late{s1 s2:List (Tp × List Nat)}{eB:Env}{hB:H}{d:Cx}(hc:bZ call)(hc0:c0.n=h0.n)(hpr:yG F call)(hopk:∀(j:Nat) (o:Oper) (e:Env) (h:H) (v:AV) (h':H),ops[j]? =some o→op1 F call o.op e h=some (v,h')→kE F nt ops j o e h v h')
  (ht:Trace (St1 F nt call ops.toList H.lift) e0 h0 (l1++p::l2) e1 h1) (hP:Plan F ops ((l1++p::l2).map Tp.i) B) (hopA:∀q∈l1++p::l2,ops[q.i]? =some q.o) (hopB:∀q∈trB,ops[q.1.i]? =some q.1.o) (hmap:(trB.map fun q=>(q.1.i,q.2))=B)
  (hJ:JPg F nt call ops c0 wb a0 e1 (l1++p::l2) trB e2 h2 s1 s2 eB hB d L a w) (hS:Sm F ops B (l1++p::l2) eB hB L) (hi:L p.i=false) (hdep:∀e∈p.o.after,keep p.o e=true→L e.on=true) (b:Frame) (rest:List Nat) (k:List Item) (cs:List Frame):
  ∃a' w' d',Sm F ops B (l1++p::l2) eB hB (Ja.upd L p.i true)∧JPg F nt call ops c0 wb a0 e1 (l1++p::l2) trB e2 h2 s1 s2 eB hB d' (Ja.upd L p.i true) a' w'∧Steps F.P (lone (b.atR a (.inRegion ops (p.i::rest)::k)) cs w) (lone (b.atR a' (.inRegion ops rest::k)) cs w'):=by
 obtain⟨t1,hp,t2⟩:=ht.split;have hmem:p∈l1++p::l2:=List.mem_append_right _ List.mem_cons_self;have ho:ops[p.i]? =some p.o:=hopA p hmem;have hfst:B.map Prod.fst=trB.map fun q=>q.1.i:=by rw[←hmap,List.map_map];rfl
 have hnd0:=List.nodup_append.1 hP.nd;have hnd2:=hnd0.1;rw[List.map_append,List.map_cons]at hnd2;have hAB:∀q∈trB,q.1.i∉(l1++p::l2).map Tp.i:=fun q hq hm=>hnd0.2.2 q.1.i hm q.1.i (by rw[hfst];exact List.mem_map_of_mem (f:=fun q:Tp × List Nat=>q.1.i) hq) rfl;have hs1:∀q∈s1,q∈trB:=fun q hq=>by rw[hJ.sp];exact List.mem_append_left _ hq
 have hone:∀q∈l1++p::l2,q.i=p.i→q=p:=fun q hq hqi=>by
  rcases List.mem_append.1 hq with hq|hq
  ·exact absurd hqi ((List.nodup_append.1 hnd2).2.2 q.i (List.mem_map_of_mem hq) p.i List.mem_cons_self)
  ·rcases List.mem_cons.1 hq with rfl|hq
   ·rfl
   ·exact absurd (by rw[←hqi];exact List.mem_map_of_mem hq) (List.nodup_cons.1 (List.nodup_append.1 hnd2).2.1).1
 -- whoever writes what p looks at stands ahead of p
 obtain⟨hsame,qB,hqB,hpq⟩:=hS p hmem hi;obtain⟨o',ho',hlate⟩:=hP.late qB hqB p.i hpq;rw[ho]at ho';injection ho' with ho';subst ho';have hfirst:∀j,Reach ops p.i j→j∈l1.map Tp.i:=fun j hr=>by
  have hcl:∀i o e,ops[i]? =some o→i∈l1.map Tp.i→e∈o.after→keep o e=true→e.on∈l1.map Tp.i:=fun i o e ho2 him he2 hb=>by
   obtain⟨x1,x2,hx⟩:=List.append_of_mem him;obtain⟨o',k1,k2,-⟩:=(hP.a x1 i (x2++p.i::l2.map Tp.i) (by rw[List.map_append,List.map_cons,hx];simp)).o;rw[ho2]at k1;injection k1 with k1;subst k1;rw[hx];exact List.mem_append_left _ (k2 e he2 hb)
  obtain⟨o',k1,k2,-⟩:=(hP.a (l1.map Tp.i) p.i (l2.map Tp.i) (by simp)).o;obtain⟨o2,e3,m1,m2,m3,m4⟩:=hr.first;rw[k1]at m1;injection m1 with m1;subst m1;rcases m4 with rfl|m4
  ·exact k2 _ m2 m3
  ·exact m4.closed (S:=fun i=>i∈l1.map Tp.i) hcl (k2 _ m2 m3)
 have hcl2:∀{i j:Nat},Reach ops i j→L i=true→L j=true:=fun h hi=>h.closed (S:=fun i=>L i=true) (fun i o e ho hL he hb=>hJ.cl i o e ho hL he hb) hi;have heq:∀t∈p.o.looksAt ops,eB.get t=p.e.get t:=fun t htl=>by
  have h3:eB.get t=e1.get t:=hJ.en t fun q hq hd=>by
   rcases hlate t htl q.1.i q.1.o (hopB q (hs1 q hq)) hd with h4|⟨-,h4⟩
   ·have h4:=hfirst _ h4;exact hAB q (hs1 q hq) (by rw[List.map_append];exact List.mem_append_left _ h4)
   ·have:=hcl2 h4 (hJ.b1 q hq);rw[hi]at this;cases this
  have h5:e1.get t=p.e.get t:=(Trace.cons hp t2).ne (fun q hq=>hq.e) fun q hq hd=>by
   rcases hlate t htl q.i q.o (hopA q (List.mem_append_right _ hq)) hd with h4|⟨h4,-⟩
   ·have h4:=hfirst _ h4;rw[←List.map_cons]at hnd2;exact (List.nodup_append.1 hnd2).2.2 q.i h4 q.i (List.mem_map_of_mem hq) rfl
   ·exact hnd0.2.2 q.i (List.mem_map_of_mem (List.mem_append_right _ hq)) q.i h4 rfl
  exact h3.trans h5
 -- its own place
 have hown:∀x v,p.o.dst=some x→eB.get x=some v→v=p.v:=fun x v hd hv=>by
  have h3:eB.get x=e1.get x:=hJ.en x fun q hq hdq=>by
   have h4:=hP.un q.1.i p.i q.1.o p.o x (hopB q (hs1 q hq)) ho hdq hd;exact hAB q (hs1 q hq) (by rw[h4];exact List.mem_map_of_mem hmem)
  rw[h3]at hv;rcases ht.get (fun q hq=>hq.e) hv with⟨q,hq,hdq,rfl⟩|⟨hno,-⟩
  ·rw[hone q hq (hP.un q.i p.i q.o p.o x (hopA q hq) ho hdq hd)]
  ·exact absurd hd (hno p hmem)
 have hw:=hJ.w;subst hw;have hT:Tr d nt (eB.flt (look ops p.o)) a.tmps:=by
  refine⟨hJ.sz,fun t v hv=>?_⟩;rw[T.get_flt]at hv;split at hv
  ·rename_i hlk;have hlk:t∈p.o.looksAt ops:=(by simpa [look] using hlk);refine hJ.pl t v hv fun p' hp' hd=>?_;rcases hlate t hlk p'.i p'.o (hopA p' hp') hd with h4|⟨h4,-⟩
   ·exact reached hJ.cl ho hdep h4
   ·exact (hnd0.2.2 p'.i (List.mem_map_of_mem hp') p'.i h4 rfl).elim
  ·cases hv
 have f:Fr F d wb nt hB (eB.flt (look ops p.o)) a:=⟨hJ.r,hJ.z,hT,hJ.tb⟩
 have hwant:wanted ops.toList (eB.flt (look ops p.o)) p.o.guard=some p.b:=by rw[←rH,aCZ heq];exact hp.w
 have hW:=jM hwant hT;have fin0:∀{u:Value} {d2:Cx},Xs d d2→Xt c0 d2→(∀id,d2.k id→d.k id∨d.n≤id∨(p.h.n≤id∧id<p.h'.n))→Rl d2 wb hB→VR d2 p.v u→Sm F ops B (l1++p::l2) eB hB (Ja.upd L p.i true)∧JPg F nt call ops c0 wb a0 e1 (l1++p::l2) trB e2 h2 s1 s2 eB hB d2 (Ja.upd L p.i true) (a.put p.o.dst u) d2.w:=by
  intro u d2 X XX hkn R V;refine⟨fun p' hp' hL=>hS p' hp' (rM hL).2,⟨hJ.sp,hJ.t,hJ.en,R,fun t=>by rw[X.z];exact hJ.z t,hJ.tb,?_,fun t v hv hall=>?_,XX,rfl,?_,fun q hq=>iN (hJ.b1 q hq),fun q hq=>?_,fun i' o' e'' hio hL he hb=>?_,fun p' hp' hL id hk q=>?_,hJ.nb⟩⟩
  ·cases p.o.dst<;>simpa [Act.put] using hJ.sz
  ·by_cases hd:p.o.dst=some t
   ·have h6:=hp.e;rw[hd]at h6;rw[hown t v hd hv,hd];exact⟨u,yE (by rw[hJ.sz];exact h6.1) rfl,V⟩
   ·obtain⟨u2,m1,m2⟩:=hJ.pl t v hv fun p' hp' hd'=>(rJ (hall p' hp' hd')).resolve_left fun e=>hd (by rw[←hone p' hp' e];exact hd');exact⟨u2,by rw[uC hd];exact m1,m2.xs X⟩
  ·cases p.o.dst<;>exact hJ.df
  ·have h3:=hAB q (by rw[hJ.sp];exact List.mem_append_right _ hq);unfold Ja.upd;rw[if_neg (fun e=>h3 (by rw[show q.1.i=p.i from e];exact List.mem_map_of_mem hmem))];exact hJ.b2 q hq
  ·rcases rJ hL with rfl|hL
   ·rw[ho]at hio;injection hio with hio;subst hio;exact iN (hdep _ he hb)
   ·exact iN (hJ.cl _ _ _ hio hL he hb)
  ·have hL2:=rM hL;rcases hkn id hk with k|k|k
   ·exact hJ.kn p' hp' hL2.2 id k q
   ·have h4:=hJ.nb p' hp';have h5:d.n=hB.n:=hJ.r.n;omega
   ·rcases apart hc ht hmem hp' (fun e=>hL2.1 (by rw[e])) with k3|k3<;>omega
 have fin:∀{u:Value} {d2:Cx},Xt d d2→Rl d2 wb hB→VR d2 p.v u→Sm F ops B (l1++p::l2) eB hB (Ja.upd L p.i true)∧JPg F nt call ops c0 wb a0 e1 (l1++p::l2) trB e2 h2 s1 s2 eB hB d2 (Ja.upd L p.i true) (a.put p.o.dst u) d2.w:=fun X R V=>fin0 X.xs (hJ.x.trans X) (fun j k=>(X.o j k).imp (fun q=>q) .inl) R V;cases hb:p.b with
 |true=>
  obtain⟨o2,m1,m2⟩:=hsame;have m1:ops[p.i]? =some o2:=(by simpa using bN m1);rw[ho]at m1;injection m1 with m1;subst m1;by_cases hmk:mkO F p.o.op=.n
  ·rcases m2 with m2|⟨m2,-⟩|⟨m2,-,x,v,u,m3,m4,m5,m6⟩
   ·rw[hmk]at m2;cases m2
   ·rw[hmk]at m2;cases m2
   have m5:op1 F call p.o.op eB hB=some u:=(aIl hmk).trans m5;obtain⟨k0,b0,n1,n2,n3,n4,n5⟩:=aIm m6;obtain⟨x0,n6,-⟩:=aBX hmk m5;have hx0:x0=b0:=by
     rw[n6]at n3;have:(T.set x0 hB.h hB.n).get hB.n=some b0:=n3;rw[T.get_same]at this;injection this
   subst hx0;have hx:op1 F call p.o.op (eB.flt (look ops p.o)) hB=some (u.1,u.2):=(by rw[←nT (e:=eB) (fun x hx=>yD hx),m5]);rw[n6]at hx;obtain⟨w,d',X,R,V,S⟩:=hopk p.i p.o _ _ _ _ ho hx d wb a f (hW.trans hb) b rest k cs;have hpv:v=p.v:=hown x v m3 m4;have hpy:=hp.y hb;obtain⟨x1,y1,y2⟩:=aBX hmk hpy;have hk0:k0=p.h.n:=by
     have y2:p.v=sc (.p p.h.n 0)∨∃n m,p.v=sc (.sl p.h.n 0 n (some m)):=y2;rcases n5 with⟨n5,-⟩|⟨n,m,n5,-⟩<;>rcases y2 with y2|⟨n',m',y2⟩<;>rw[hpv,y2]at n5<;>cases n5<;>rfl
   have y1:p.h'=⟨p.h.h.set x1 p.h.n,Nat.succ p.h.n,p.h.n,p.h.l⟩:=y1;have hhn:p.h'.n=p.h.n+1:=(by rw[y1]);have hnk:¬d.k k0:=fun q=>hJ.kn p hmem hi k0 q (by omega);have hkk:d'.k hB.n∧((p.v=sc (.p k0 0)∧w=.pointer (some ⟨d'.r hB.n,0,none⟩))∨∃n m,p.v=sc (.sl k0 0 n (some m))∧w=.slice (some ⟨d'.r hB.n,0,none⟩) n m):=by
     rcases n5 with⟨n5,n5'⟩|⟨n,m,n5,n5'⟩
     ·rw[n5']at V;obtain⟨z1,z2⟩:=aF.1 V;exact⟨z1,.inl ⟨by rw[←hpv,n5],z2⟩⟩
     ·rw[n5']at V;obtain⟨z1,z2⟩:=aF.1 V;exact⟨z1,.inr ⟨n,m,by rw[←hpv,n5],z2⟩⟩
   obtain⟨R2,X2⟩:=aGF hJ.r X R hkk.1 n2 n4 hnk n1;have V2:VR (d.also d' k0 hB.n) p.v w:=by
     have hrk:(d.also d' k0 hB.n).r k0=d'.r hB.n:=if_pos rfl;rcases hkk.2 with⟨z1,z2⟩|⟨n,m,z1,z2⟩
     ·rw[z1];exact aF.2 ⟨.inr rfl,by rw[hrk];exact z2⟩
     ·rw[z1];exact aF.2 ⟨.inr rfl,by rw[hrk];exact z2⟩
   have hc0n:c0.n≤p.h.n:=(by rw[hc0];exact (later hc ht p.h (fB hmem)).1);have XX:Xt c0 (d.also d' k0 hB.n):=⟨hJ.x.n,fun id q=>.inl (hJ.x.k id q),fun id q=>q.elim (hJ.x.o id) fun q=>.inr (by rw[q,hk0];exact hc0n),fun id q=>(X2.r id (hJ.x.k id q)).trans (hJ.x.r id q),hJ.x.p.trans X.p,hJ.x.z⟩
   obtain⟨m1,m2⟩:=fin0 X2 XX (fun j q=>q.imp (fun q=>q) fun q=>.inr (by rw[q,hk0];omega)) R2 V2;exact⟨_,_,_,m1,m2,S⟩
  have hx:op1 F call p.o.op (eB.flt (look ops p.o)) hB=some (p.v,hB):=by
    rw[←nT (e:=eB) (fun x hx=>yD hx)];rcases m2 with m2|⟨m2,-,x,v,u,m3,m4,m5,m6⟩|⟨m2,-⟩
    rotate_left 2
    ·exact absurd m2 hmk
    ·rw[nT (e:=eB) (e':=p.e) (fun x hx=>aKH heq hx)];have h3:Pm hB (op1 F call p.o.op p.e hB) (op1 F call p.o.op p.e p.h.lift):=aMD hpr m2;rw[h3,hp.y hb];rfl
    ·obtain⟨t,x2,hl⟩:=aGE m2;rw[hl]at m5⊢;have h3:u.2=hB:=aDp (v:=u.1) m5;have h4:u.1=p.v:=(by rw[←aMF m6];exact hown x v m3 m4);have h5:op1 F call (.load t x2) eB hB=some u:=m5;rw[h5,←h3,←h4]
  obtain⟨u,d2,X,R,V,S⟩:=hopk p.i p.o _ _ _ _ ho hx d wb a f (hW.trans hb) b rest k cs;obtain⟨m1,m2⟩:=fin X R V;exact⟨_,_,_,m1,m2,S⟩
 |false=>
  obtain⟨hv,hh⟩:=hp.n hb;have S:=stepR_op_skip (P:=F.P) (b:=b) (a:=a) (k:=k) (cs:=cs) (w:=d.w) (ops:=ops) (i:=p.i) (rest:=rest) (by simp[ho,hW.trans hb]);simp only[ho,Option.bind_some]at S;obtain⟨m1,m2⟩:=fin (Xt.refl d) hJ.r (by rw[hv];exact mW);exact⟨_,_,_,m1,m2,.one S⟩
end
section
variable {F:Cf} {nt fn:Nat} {call:bB} {ops:Array Oper} {e e1 e2:Env} {h h1 h2:H} {tr:List Tp} {trB:List (Tp × List Nat)} {q:Bool} {r:R}
theorem aMG{id:Nat}{p:List Nat × List (Nat × List Nat)}(hF:FOk F)(hc:bZ call)(hpr:yG F call)(hm:F.P.follows .mixedOrders=true)(hopk:∀(j:Nat) (o:Oper) (e:Env) (h:H) (v:AV) (h':H),ops[j]? =some o→op1 F call o.op e h=some (v,h')→kE F nt ops j o e h v h')
  (hx:pJ F nt call ops p e h=some r):fJ F q nt fn (.region id ops true) e h r:=by
 obtain⟨hpl,hx⟩:=aB.1 hx;rw[aM]at hx;obtain⟨A,B⟩:=p;have hP:=aGD hpl;have hrm:=hP.rm;obtain⟨tr,e1,h1,hA0,ht,hx⟩:=aDD hx;obtain⟨trB,e2,h2,hB0,htB,rfl⟩:=aDE hx;have hA:tr.map Tp.i=A:=hA0;have hB:(trB.map fun q=>(q.1.i,q.2))=B:=hB0;clear hA0 hB0;subst hA;intro c wb a f b k cs _ _;have f1:Fr F c.drew wb nt h e a:=⟨f.r.drew,f.z,f.t.xt nG,f.b⟩
 have hopA:∀p∈tr,ops[p.i]? =some p.o:=fun p hp=>by
  obtain⟨s1,s2,he⟩:=List.append_of_mem hp;rw[he]at ht;simpa using bN ht.split.2.1.o
 have hfst:B.map Prod.fst=trB.map fun q=>q.1.i:=by rw[←hB,List.map_map];rfl
 have hltB:∀q∈trB,q.1.i<ops.size:=fun q hq=>by
  obtain⟨s1,s2,he⟩:=List.append_of_mem (show (q.1.i,q.2)∈B from by rw[←hB];exact List.mem_map_of_mem (f:=fun q:Tp × List Nat=>(q.1.i,q.2)) hq);obtain⟨o,ho,-⟩:=(hP.b s1 q.1.i q.2 s2 he).o;exact (Array.getElem?_eq_some_iff.1 ho).1
 have hopB:∀q∈trB,ops[q.1.i]? =some q.1.o:=by
  have key:∀{l:List (Tp × List Nat)} {eB:Env} {hB:H},TraceB F nt call ops.toList eB hB l e2 h2→∀q∈l,ops[q.1.i]? =some q.1.o:=by
   intro l
   induction l with
   |nil=>intro _ _ _ q hq;cases hq
   |cons x l ih=>
    intro eB hB ht q hq;cases ht with
    |cons hp hs ht2=>
     rcases List.mem_cons.1 hq with rfl|hq
     ·simpa using bN hp.o
     ·exact ih ht2 q hq
  exact key htB
 obtain⟨J,hJdef⟩:∃J:(Nat→Bool)→Act→World→Prop,J=fun L a' w'=>(∃g,JAg F nt ops c.drew wb a e h tr h1 h.bar (B.map Prod.fst) g L a' w')∨∃s1 s2 eB hB d,s1≠[]∧Sm F ops B tr eB hB L∧JPg F nt call ops c.drew wb a e1 tr trB e2 h2 s1 s2 eB hB d L a' w':=⟨_,rfl⟩
 have hstart:J (fun _=>false) a c.drew.w:=by
  rw[hJdef];exact .inl ⟨_,JAg.start hc ht f1⟩
 have hstep:∀(L:Nat→Bool) (a':Act) (w':World) (i:Nat) (o:Oper),ops[i]? =some o→L i=false→(∀e∈o.after,Region.binds .any e=true→L e.on=true)→J L a' w'→
     ∀rest,∃a'' w'',J (Ja.upd L i true) a'' w''∧Steps F.P (lone (b.atR a' (.inRegion ops (i::rest)::k)) cs w') (lone (b.atR a'' (.inRegion ops rest::k)) cs w''):=by
  intro L a' w' i o ho hi hdep0 hJ rest;have hdep:∀e∈o.after,keep o e=true→L e.on=true:=fun e he hk=>hdep0 e he (aMB hk);rw[hJdef]at hJ⊢;have hbst:∀{s1 s2 eB hB d},JPg F nt call ops c.drew wb a e1 tr trB e2 h2 s1 s2 eB hB d L a' w'→i∈B.map Prod.fst→∃a'' w'',((∃g,JAg F nt ops c.drew wb a e h tr h1 h.bar (B.map Prod.fst) g (Ja.upd L i true) a'' w'')∨∃s1 s2 eB hB d,s1≠[]∧Sm F ops B tr eB hB (Ja.upd L i true)∧JPg F nt call ops c.drew wb a e1 tr trB e2 h2 s1 s2 eB hB d (Ja.upd L i true) a'' w'')∧Steps F.P (lone (b.atR a' (.inRegion ops (i::rest)::k)) cs w') (lone (b.atR a'' (.inRegion ops rest::k)) cs w''):=fun hJB hiB=>by
   obtain⟨a2,w2,s1',s2',eB',hB',d',m1,m2,k1,k2⟩:=hJB.step hopk hP hopA hB hrm ho hi hdep hiB b rest k cs;exact⟨a2,w2,.inr ⟨s1',s2',eB',hB',d',m1,m2,k1⟩,k2⟩
  have hmem:=hP.all i (Array.getElem?_eq_some_iff.1 ho).1;rcases hJ with⟨g,hJ⟩|⟨s1,s2,eB,hB',d,hne,hS,hJ⟩
  ·rcases List.mem_append.1 hmem with hiA|hiB
   ·obtain⟨p,hp,rfl⟩:=List.mem_map.1 hiA;have hoo:o=p.o:=by
     have:=hopA p hp;rw[ho]at this;injection this
    subst hoo;obtain⟨l1,l2,he⟩:=List.append_of_mem hp;rw[he]at ht hP hJ;obtain⟨a2,w2,g2,k1,k2⟩:=hJ.step hF f1.b hc hopk ht hP hi hdep b rest k cs;rw[←he]at k1;exact⟨a2,w2,.inl ⟨g2,k1⟩,k2⟩
   ·have hn:=(later hc ht h1 bT).1;have lt:∀id,c.drew.k id→id<h.n:=fun id k=>(by have:=f1.r.k id k;rw[f1.r.n]at this;exact this);have X:Xt c.drew (g.lo h1.n):=⟨by rw[f1.r.n];exact hn,fun id k=>⟨hJ.x.k id k,Nat.lt_of_lt_of_le (lt id k) hn⟩,fun id k=>by rw[f1.r.n];exact hJ.o id k.1,hJ.x.r,hJ.p,hJ.x.z⟩
    have hJP:JPg F nt call ops c.drew wb a e1 tr trB e2 h2 [] trB e1 (h1.back h.bar) (g.lo h1.n) L a' w':=by
     refine⟨rfl,htB,fun t _=>rfl,hJ.st h1 bT,hJ.z,f1.b,hJ.sz,fun t v hv hall=>?_,X,hJ.w,hJ.df,fun q hq=>(by cases hq),fun q hq=>hJ.nb _ (by rw[hfst];exact List.mem_map_of_mem (f:=fun q:Tp × List Nat=>q.1.i) hq),hJ.cl,fun p hp hL id hk q=>?_,fun p hp=>?_⟩
     rotate_left
     ·rcases hJ.kn id hk.1 with k1|⟨p',hp',hL',k1,k2⟩
      ·have:=(later hc ht p.h (fB hp)).1;omega
      ·rcases apart hc ht hp hp' (fun e=>by rw[e,hL']at hL;cases hL) with k3|k3<;>omega
     ·obtain⟨s1,s2,he⟩:=List.append_of_mem hp;rw[he]at ht;exact (later hc ht.split.2.2 h1 bT).1
     rcases ht.get (fun q hq=>hq.e) hv with⟨q,hq,hd,rfl⟩|⟨hno,hv⟩
     ·obtain⟨u,k1,k2⟩:=hJ.v q hq (hall q hq hd) t hd;refine⟨u,k1,k2.xs (vM ?_)⟩;obtain⟨s1,s2,he⟩:=List.append_of_mem hq;rw[he]at ht;exact (later hc ht.split.2.2 h1 bT).1
     ·obtain⟨u,k1,k2⟩:=hJ.b t v hv (fun q hq hd=>absurd hd (hno q hq));exact⟨u,k1,k2.xs (vM hn)⟩
    exact hbst hJP hiB
  ·rcases List.mem_append.1 hmem with hiA|hiB
   ·obtain⟨p,hp,rfl⟩:=List.mem_map.1 hiA;have hoo:o=p.o:=by
     have:=hopA p hp;rw[ho]at this;injection this
    subst hoo;obtain⟨l1,l2,he⟩:=List.append_of_mem hp;rw[he]at ht hP hJ hS hopA;obtain⟨a2,w2,d2,m1,k1,k2⟩:=hJ.late hc f1.r.n hpr hopk ht hP hopA hopB hB hS hi hdep b rest k cs;rw[←he]at k1 m1;exact⟨a2,w2,.inr ⟨s1,s2,eB,hB',d2,hne,m1,k1⟩,k2⟩
   ·exact hbst hJ hiB
 have hL0:(fun _:Nat=>false)=fun j=>(Array.replicate ops.size false).getD j false:=by
  funext j;simp[Array.getD]
 obtain⟨L',a',w',hdone,hJ',S⟩:=aMz (P:=F.P) (b:=b) (k:=k) (cs:=cs) (fun L hL=>hP.ready hL) hstep ops.size (c.w.tape c.w.drawn (.order b.fn id)) (Array.replicate ops.size false) (fun _=>false) a c.drew.w hL0 (by simp) (Ja.left_le _) hstart;have S0:=stepR_region_draw (P:=F.P) (b:=b) (a:=a) (k:=k) (cs:=cs) (w:=c.w) (ops:=ops) (id:=id);have hsch:Region.schedule (F.P.follows .mixedOrders) ops (c.w.tape c.w.drawn (.order b.fn id))=Region.linearise.go .any ops ops.size (c.w.tape c.w.drawn (.order b.fn id)) (Array.replicate ops.size false) []:=by
  simp only[Region.schedule,hm,Bool.true_or,if_true];rfl
 rw[hsch]at S0;have key:∃d,Fr F d wb nt h2 e2 a'∧Xt c.drew d∧d.w=w'∧a'.defers=a.defers:=by
  rw[hJdef]at hJ';rcases hJ' with⟨g,hJ⟩|⟨s1,s2,eB,hB',d,-,-,hJ⟩
  ·obtain⟨f2,X,hw⟩:=hJ.finish hc ht f1 (fun p hp=>hdone _ (Array.getElem?_eq_some_iff.1 (hopA p hp)).1);have hnil:trB=[]:=by
    cases htr:trB with
    |nil=>rfl
    |cons x y=>
     have hx:x∈trB:=(by rw[htr];exact List.mem_cons_self);have h1:=hJ.nb x.1.i (by rw[hfst];exact List.mem_map_of_mem (f:=fun q:Tp × List Nat=>q.1.i) hx);rw[hdone _ (hltB x hx)]at h1;cases h1
   rw[hnil]at htB;obtain⟨q1,q2⟩:=yF htB;rw[q1,q2];exact⟨_,f2,X,hw,hJ.df⟩
  ·have hnil:s2=[]:=by
    cases hs:s2 with
    |nil=>rfl
    |cons x y=>
     have hx:x∈s2:=(by rw[hs];exact List.mem_cons_self);have h1:=hJ.b2 x hx;rw[hdone _ (hltB x (by rw[hJ.sp];exact List.mem_append_right _ hx))]at h1;cases h1
   have ht2:=hJ.t;rw[hnil]at ht2;obtain⟨q1,q2⟩:=yF ht2;rw[q1,q2];exact⟨d,⟨hJ.r,hJ.z,⟨hJ.sz,fun t v hv=>hJ.pl t v hv fun p hp _=>hdone _ (Array.getElem?_eq_some_iff.1 (hopA p hp)).1⟩,hJ.tb⟩,hJ.x,hJ.w,hJ.df⟩
 obtain⟨d,f2,X,hw,hdf⟩:=key;subst hw;exact⟨a',d,⟨nG.trans X,f2,[],hdf,trivial,fun _=>rfl⟩,.head S0 S⟩
end
def zL(F:Cf)(ex:bG):Prop:=∀q nt fn (f:Operand) (ps:Array Tmp) (cs bd:Code) (e:Env) (h:H) (r:R),(ob (ev e f) fun f=>xN F ex q nt fn f ps.toList cs bd e h)=some r→fJ F q nt fn (.rangeFunc f ps cs bd) e h r
def aKI(F:Cf)(ex:bG):Prop:=∀q nt fn (a:Code) (e:Env) (h:H) (r:R),ex q nt fn a e h=some r→fJ F q nt fn (.scope a) e h r
theorem gU{P:Program}{b:Frame}{a:Act}{c:Code}{k:List Item}{cs:List Frame}{w:World}:step P (lone (b.atR a (.code (.scope c)::k)) cs w)=.next (lone (b.atR a (.code c::.inScope c::k)) cs w):=
 step_lone_go (by simp[stepG,stepG.exec,Frame.atR])
theorem sI{P:Program}{b:Frame}{a:Act}{c:Code}{k:List Item}{cs:List Frame}{w:World}:step P (lone (b.atR a (.inScope c::k)) cs w)=.next (lone (b.atR a k) cs w):=
 step_lone_go (by simp[stepG,stepG.exec,Frame.atR])
theorem aKJ{F:Cf}{ex:bG}(hex:fG F ex):aKI F ex:=by
 intro q nt fn x e h r hx c wb a f b k cs hb hq;obtain⟨a1,d1,B1,A1⟩:=hex _ _ _ _ _ _ _ hx c wb a f b (.inScope x::k) cs hb hq;obtain⟨x1,e1,g1⟩:=r;refine⟨a1,d1,B1,?_⟩;cases x1 with
 |n=>exact .head gU (Steps.trans A1 (.one sI))
 |x j=>
  obtain⟨k1,q1,q2⟩:=A1;exact⟨k1,q1.trans (by simp[exitTo]),.head gU q2⟩
 |r=>
  obtain⟨k1,q2⟩:=A1;exact⟨k1,.head gU q2⟩
def aAS(F:Cf)(ex:bG):Prop:=∀q nt fn (x:Code) (e:Env) (h:H) (r:R),ex q nt fn (.loop x) e h=some r→tZ F q nt fn x e h r
theorem aIn{F:Cf}{ex:bG}(hF:FOk F)(hm:F.P.follows .mixedOrders=true)(hfr:pM ex)(hex:fG F ex)(hl:aAS F ex)(hY:qO F ex)(hR:zL F ex):fG F (xP F ex)∧aAS F (xP F ex):=by
 have hloop:aAS F (xP F ex):=fun q nt fn x e h r hx=>x_loop' hex (fun e h r=>hl q nt fn x e h r) hx;refine⟨fun q nt fn c e h r hx=>?_,hloop⟩;cases c with
 |skip=>cases hx;exact aMo
 |label l=>cases hx;exact aKv
 |region id ops dr=>
  have hx:cb dr (ob (F.pl fn id) fun p=>pJ F nt (aY F ex) ops p e h) (gM F nt (aY F ex) ops.toList ops.toList e h)=some r:=hx;cases dr with
  |false=>exact aBQ (fun j o e h v h' ho hx=>aBU hF hex hY ho hx) hx
  |true=>
   obtain⟨p,-,hx⟩:=aA.1 (show (ob (F.pl fn id) fun p=>pJ F nt (aY F ex) ops p e h)=some r from hx);exact aMG hF (pQ hfr) aCY hm (fun j o e h v h' ho hx=>aBU hF hex hY ho hx) hx
 |seq a b=>exact aN8 hex hx
 |cond c a b=>exact aMq hex hx
 |block id a=>exact aKw hex hx
 |loop a=>exact (hloop q nt fn a e h r hx).code
 |scope a=>exact aKJ hex q nt fn a e h r hx
 |rangeFunc f ps cs bd=>exact hR q nt fn f ps cs bd e h r hx
 |exit id=>cases hx;exact aMp
 |ret=>cases hx;exact aN7
 |_=>cases hx
theorem aKK{F:Cf}(hF:FOk F)(hm:F.P.follows .mixedOrders=true)(hY:∀ex,fG F ex→qO F ex)(hR:∀ex,fG F ex→zL F ex)(m:Nat):fG F (exec F m)∧aAS F (exec F m):=by
 induction m with
 |zero=>exact⟨fun q nt fn c e h r hx=>(by cases hx),fun q nt fn c e h r hx=>(by cases hx)⟩
 |succ m ih=>exact aIn hF hm (aKo F m) ih.1 ih.2 (hY _ ih.1) (hR _ ih.1)
section
variable {F:Cf} {c d:Cx} {wb:World} {h h':H} {q:Bool} {nt fn:Nat} {e e':Env} {a a':Act} {b:Frame} {ex:bG} {v:AV}
theorem aMH{tm:Array Value}{p:Nat}{u:Value}(ht:Tr c nt e tm)(hv:VR c v u)(hp:p<nt):Tr c nt (e.set v p) (tm.setIfInBounds p u):=by
 refine⟨by simpa using ht.1,fun j x hj=>?_⟩;have hsz:=ht.1;rcases T.get_set hj with⟨rfl,rfl⟩|⟨h3,h4⟩
 ·have hlt:j<tm.size:=(by omega);exact⟨u,by simp[hlt],hv⟩
 ·obtain⟨u2,k1,k2⟩:=ht.2 j x h4;refine⟨u2,?_,k2⟩;rw[Array.getElem?_setIfInBounds,if_neg (fun e=>h3 e.symm)];exact k1
theorem aIo{ps:List Nat}:∀{args:List AV} {vs:List Value} {e e':Env} {tm:Array Value},aEE nt ps args e=some e'→VL c args vs→Tr c nt e tm→
  vs.length=ps.length∧Tr c nt e' ((ps.zip vs).foldl (fun tm x=>tm.setIfInBounds x.1 x.2) tm):=by
 induction ps with
 |nil=>
  intro args vs e e' tm h hv ht;cases args with
  |nil=>
   cases vs with
   |nil=>rw[←Option.some.inj (show some e=some e' from h)];exact⟨rfl,ht⟩
   |cons u vs=>exact hv.elim
  |cons x args=>cases (show (none:Option Env)=some e' from h)
 |cons p ps ih=>
  intro args vs e e' tm h hv ht;cases args with
  |nil=>cases (show (none:Option Env)=some e' from h)
  |cons x args=>
   cases vs with
   |nil=>exact hv.elim
   |cons u vs=>
    obtain⟨h1,h2⟩:=aB.1 (show cb (Nat.blt p nt) (aEE nt ps args (e.set x p)) none=some e' from h);obtain⟨h3,h4⟩:=ih h2 hv.2 (aMH ht hv.1 (aQ.1 h1));exact⟨by simp[h3],h4⟩
theorem aEW{q:Option (List Nat × Nat)}{rc:Loop}{o:Obj}{c d:Cx}{m:Option (List (AV × AV))}{mi:Option Mi}(h:(∀l k,q=some (l,k)→∃s,Obj.loop rc=.stringIter s k∧bytes s=l)∧(∀l,m=some l→MpR c l (Obj.loop rc))∧∀q,mi=some q→c.k q.m∧Obj.loop rc=.mapIter (some (c.r q.m)) q.n q.k.toArray q.s):
  (∀l k,q=some (l,k)→∃s,o=.stringIter s k∧bytes s=l)∧(∀l,m=some l→MpR d l o)∧∀q,mi=some q→d.k q.m∧o=.mapIter (some (d.r q.m)) q.n q.k.toArray q.s:=by
 refine⟨fun l k e=>?_,fun l e=>?_,fun q e=>?_⟩
 ·obtain⟨s,h1,-⟩:=h.1 l k e;cases h1
 ·obtain⟨es,n,h1,-⟩:=h.2.1 l e;cases h1
 ·have h1:=(h.2.2 q e).2;cases h1
theorem aC0{bb:Bool}{pd:Option Code}{l:Nat}(hbb:bb=pd.isNone)(hx:kU l bb pd h=some (v,h'))(hr:Rl c wb h)(hk:c.k l):
  ∃d,(Instr.endRound (c.r l) pd).run F.P c.w=.ok (.bool bb) d.w∧Xt c d∧Rl d wb h'∧VR d v (.bool bb):=by
 obtain⟨p,hl,h1⟩:=aA.1 hx;obtain⟨h2,h3⟩:=cbn.1 h1;obtain⟨h4,h5⟩:=aB.1 h3;injection h5 with h5;injection h5 with h5 h6;obtain⟨⟨rc,hg,hnc,hnd,hrc,hit⟩,hlow⟩:=(hr.lp l p hl).2 hk;obtain⟨D,tm,rfl,htm⟩:=hrc h2;have hend:=run_endRound (P:=F.P) pd hg;rw[←hbb]at hend;have X:=lX (c:=c) (o':=.loop {state:=if bb then .ready else .done,pending:=pd,fn:=p.fn,tmps:=tm,params:=p.ps.toArray,assign:=p.cs,body:=p.bd,defers:=D}) hg hnc hnd;refine⟨_,hend,X,?_,by subst h5;exact aF.2 rfl⟩;subst h6;refine hr.loop hl hk (bA.1 h4) hg hnc hnd ⟨_,World.putObj_heap_same (Array.getElem?_eq_some_iff.1 hg).1,(fun _ _ _ e=>by cases e),(fun _ e=>by cases e),fun _=>⟨D,tm,?_,htm.xt X⟩,aEW hit⟩;subst hbb;cases pd<;>rfl
theorem aBZ(hex:fG F ex):qO F ex:=by
 intro nt ops i o e h v h' g xs ats l args hoi ho h1 h3 h5 c wb a f hw b rest k cs;obtain⟨hk,hgv⟩:=aF.1 (aS f.t h1);have hargs:=nS f.t h3;obtain⟨p,hl,h6⟩:=aA.1 h5;obtain⟨hdd,h7⟩:=cbn.1 h6;obtain⟨e1,h8,h9⟩:=aA.1 h7;obtain⟨r,h10,h11⟩:=aA.1 h9;obtain⟨⟨rc,hg,hnc,hnd,hrc,hit⟩,hlow⟩:=(f.r.lp l p hl).2 hk;obtain⟨D,tm,rfl,htm⟩:=hrc hdd;obtain⟨hlen,htr⟩:=aIo h8 hargs htm;obtain⟨tm1,htm1⟩:∃tm1,tm1=(p.ps.zip (xs.toList.map a.eval)).foldl (fun tm x=>tm.setIfInBounds x.1 x.2) tm:=⟨_,rfl⟩
 rw[←htm1]at htr;have e1:xs.map a.eval=(xs.toList.map a.eval).toArray:=by
  apply Array.toList_inj.1;simp
 have hrun:(execOp a.eval o).run F.P c.w=.ok (.round (c.r l) p.fn tm1 p.cs p.bd) c.w:=by
  unfold execOp;rw[ho];simp only[resolve,hgv,Deferred.ofValue,Sem.run_bind,Sem.run_pure,Result.andThen_ok,invoke,Array.empty_append];rw[run_yield hg (by simpa using hlen),htm1,e1];simp
 have hnd:∀c,o.op≠.defer c:=fun c hc=>by rw[ho]at hc;cases hc
 have hg0:=stepGR_op (P:=F.P) (b:=b) (k:=k) (cs:=cs) (w:=c.w) (rest:=rest) hoi hw;rw[Oper.semAt_eq _ _ _ hnd]at hg0;have henter:step F.P (lone (b.atR a (.inRegion ops (i::rest)::k)) cs c.w)=.next (lone (Frame.round (c.r l) p.fn tm1 p.cs p.bd .normal) (b.atR a (.inRegion ops (i::rest)::k)::cs) c.w):=
  step_lone_go (by rw[hg0];simp[stepG.apply,Sem.runT_eq,hrun,Frame.atR,GStep.bare_after])
 obtain⟨bR,hbR⟩:∃bR:Frame,bR={fn:=p.fn,tmps:=#[],todo:=[],defers:=[],mode:=.run,kind:=.normal,roundOf:=some (c.r l)}:=⟨_,rfl⟩
 have b1:bR.fn=p.fn:=by rw[hbR]
 have b2:bR.roundOf=some (c.r l):=by rw[hbR]
 have b3:bR.kind=.normal:=by rw[hbR]
 have hround:Frame.round (c.r l) p.fn tm1 p.cs p.bd .normal=bR.atR {tmps:=tm1,defers:=[]} [.code p.cs,.beginRound,.code p.bd]:=by
  rw[hbR];simp[Frame.round,Frame.atR]
 rw[hround]at henter;obtain⟨x1,e2,g2⟩:=r;cases x1 with
 |x id=>cases h11
 |r=>cases h11
 |n=>
  obtain⟨p',hl',h12⟩:=aA.1 h11;obtain⟨hdd',h13⟩:=cbn.1 h12;obtain⟨hbar,h14⟩:=aB.1 h13;obtain⟨hst,h15⟩:=aB.1 h14;obtain⟨hpd,h16⟩:=aB.1 h15;obtain⟨r2,h17,h18⟩:=aA.1 h16;obtain⟨a1,d1,B1,A1⟩:=hex _ _ _ _ _ _ _ h10 c wb {tmps:=tm1,defers:=[]} ⟨f.r,f.z,htr,f.b⟩ bR [.beginRound,.code p.bd] (b.atR a (.inRegion ops (i::rest)::k)::cs) b1 (fun h=>by cases h);have hk1:d1.k l:=B1.x.k l hk;have hr1:d1.r l=c.r l:=B1.x.r l hk;obtain⟨⟨rc1,hg1,hnc1,hnd1,hrc1,hit1⟩,-⟩:=(B1.f.r.lp l p' hl').2 hk1;obtain⟨D1,tm2,rfl,htm2⟩:=hrc1 hdd';have hpn:p'.pd=none:=by
    cases hq:p'.pd with
    |none=>rfl
    |some x=>rw[hq]at hpd;cases hpd
  have hready:lst p'=.ready:=(by unfold lst;rw[hst];rfl);have hbegin:=run_beginRound (P:=F.P) hg1 hready;have X2:=lX (c:=d1) (o':=.loop {state:=.busy,pending:=p'.pd,fn:=p'.fn,tmps:=tm2,params:=p'.ps.toArray,assign:=p'.cs,body:=p'.bd,defers:=D1}) hg1 hnc1 hnd1;have R2:=B1.f.r.loop (p':={p' with st:=false}) hl' hk1 (bA.1 hbar) hg1 hnc1 hnd1 ⟨_,World.putObj_heap_same (Array.getElem?_eq_some_iff.1 hg1).1,(fun _ _ _ e=>by cases e),(fun _ e=>by cases e),fun _=>⟨D1,tm2,by simp[lst,hpn],htm2.xt X2⟩,aEW hit1⟩;have s2:=stepR_beginRound (P:=F.P) (b:=bR) (a:=a1) (k:=[.code p.bd]) (cs:=b.atR a (.inRegion ops (i::rest)::k)::cs) (b2.trans (by rw[hr1])) hbegin;obtain⟨a2,d3,B3,A3⟩:=hex _ _ _ _ _ _ _ h17 _ wb a1 ⟨R2,fun t=>(X2.z▸B1.f.z t),B1.f.t.xt X2,f.b⟩ bR [] (b.atR a (.inRegion ops (i::rest)::k)::cs) b1 (fun h=>by cases h);have hk3:d3.k l:=B3.x.k l hk1;have hr3:d3.r l=c.r l:=(B3.x.r l hk1).trans hr1;have XX:Xt c d3:=(B1.x.trans X2).trans B3.x;have key:∀(bb:Bool) (pd:Option Code),bb=pd.isNone→kU l bb pd r2.h=some (v,h')→
      (∀w',(Instr.endRound (c.r l) pd).run F.P d3.w=.ok (.bool bb) w'→Steps F.P (lone (bR.atR a1 [.code p.bd]) (b.atR a (.inRegion ops (i::rest)::k)::cs) (d1.obj (d1.r l) (.loop {state:=.busy,pending:=p'.pd,fn:=p'.fn,tmps:=tm2,params:=p'.ps.toArray,assign:=p'.cs,body:=p'.bd,defers:=D1})).w) (lone ((b.atR a (.inRegion ops (i::rest)::k)).finish (.bool bb)) cs w'))→
      ∃u d,Xt c d∧Rl d wb h'∧VR d v u∧Steps F.P (lone (b.atR a (.inRegion ops (i::rest)::k)) cs c.w) (lone (b.atR (a.put o.dst u) (.inRegion ops rest::k)) cs d.w):=by
    intro bb pd hbb hput hsteps;obtain⟨d4,k1,k2,k3,k4⟩:=aC0 (F:=F) hbb hput B3.f.r hk3;rw[hr3]at k1;refine⟨_,d4,XX.trans k2,k3,k4,?_⟩;rw[←fin (k:=k) hoi];exact .head henter (Steps.trans A1 (.head s2 (hsteps _ k1)))
  obtain⟨x3,e3,g3⟩:=r2;cases x3 with
  |n=>exact key true none rfl h18 fun w' hw'=>Steps.trans A3 (.one (stepR_round_end b2 b3 hw'))
  |r=>
   obtain⟨k1,A3⟩:=A3;exact key false (some .ret) rfl h18 fun w' hw'=>Steps.trans A3 (.one (stepR_round_ret b2 b3 hw'))
  |x id=>
   obtain⟨k1,hk1,A3⟩:=A3;exact key false (some (.exit id)) rfl h18 fun w' hw'=>Steps.trans A3 (.one (stepR_round_exit b2 b3 (hk1.trans rfl) hw'))
def Cx.lp(c:Cx)(o:Obj):Cx:=⟨c.n+1,fun id=>c.k id∨id=c.n,fun id=>if id=c.n then c.w.heap.size+1 else c.r id,(c.w.alloc (.deferred (some []))).alloc o,c.z⟩
theorem aJB(hk:∀id,c.k id→id<c.n)(o:Obj):Xt c (c.lp o):=⟨Nat.le_succ _,fun id hi=>.inl hi,fun id hi=>hi.elim .inl fun q=>.inr (by omega),fun id hi=>if_neg (by have:=hk id hi;omega),Ps.q (((Q.refl _).alloc _).alloc o),rfl⟩
theorem aB0(o:Obj):(c.lp o).r c.n=c.w.heap.size+1:=if_pos rfl
theorem kH(o:Obj){id:Nat}(hi:id<c.n):(c.lp o).r id=c.r id:=if_neg (by omega)
theorem aDF(o:Obj){k:Nat}(hk:k<c.w.heap.size):(c.lp o).w.heap[k]? =c.w.heap[k]? :=
 ((((Q.refl c.w).alloc (.deferred (some []))).alloc o).heap hk)
theorem Rl.lpn(hr:Rl c wb h){p:Lp}{o:Obj}(hp:LpR (c.lp o) p (c.w.heap.size+1)):Rl (c.lp o) wb ⟨h.h,Nat.succ h.n,h.bar,h.l.set p h.n⟩:=by
 have hn:=hr.n;have hsz:=hr.size;have X:=aJB (c:=c) hr.k o;have key:∀id p',(T.set p h.l h.n).get id=some p'→(id=h.n∧p'=p)∨(id<h.n∧h.l.get id=some p'):=fun id p' hg=>by
  rcases T.get_set hg with⟨h1,h2⟩|⟨h1,h2⟩
  ·exact .inl ⟨h1,h2⟩
  ·exact .inr ⟨(hr.lp id p' h2).1,h2⟩
 have kk:∀{id},id<h.n→(c.lp o).k id→c.k id:=fun hi q=>q.elim (fun q=>q) fun q=>by omega
 have lv:∀{id b'},id<h.n→Lv (c.lp o) id b'→Lv c id b':=fun hi q=>⟨kk hi q.1,q.2⟩
 refine⟨by show c.n+1=h.n+1;rw[hn],fun id q=>by show id<c.n+1;exact q.elim (fun q=>Nat.lt_succ_of_lt (hr.k id q)) fun q=>by omega,(hr.q.alloc _).alloc _,fun id b' hg=>?_,fun i j b' d hi hj hb' hd hij=>?_,fun id b' hg hc hbar=>?_,fun l p' hl=>?_,fun i j p' d hi hj ki kj hij=>?_⟩
 ·have h1:=(hr.blk id b' hg).1;refine⟨Nat.lt_succ_of_lt h1,fun hc=>?_⟩;rw[kH _ (by omega)];have:=(hr.blk id b' hg).2 (lv h1 hc);exact this.xt X (aDF _ this.lt)
 ·have h1:=(hr.blk i b' hi).1;have h3:=(hr.blk j d hj).1;rw[kH _ (by omega),kH _ (by omega)];exact hr.inj i j b' d hi hj (lv h1 hb') (lv h3 hd) hij
 ·have h1:=(hr.blk id b' hg).1;rw[kH _ (by omega)];exact hr.new id b' hg (lv h1 hc) hbar
 ·rcases key l p' hl with⟨rfl,rfl⟩|⟨h1,h2⟩
  ·refine⟨Nat.lt_succ_self _,fun _=>?_⟩;rw[←hn,aB0];exact⟨hp,fun _=>by omega⟩
  ·refine⟨Nat.lt_succ_of_lt h1,fun q=>?_⟩;rw[kH _ (by omega)];obtain⟨h3,h4⟩:=(hr.lp l p' h2).2 (kk h1 q);exact⟨h3.xt X (aDF _ h3.lt),h4⟩
 ·rcases key i p' hi with⟨rfl,rfl⟩|⟨h1,h2⟩
  ·rcases key j d hj with⟨rfl,rfl⟩|⟨h3,h4⟩
   ·exact absurd rfl hij
   ·have:=((hr.lp j d h4).2 (kk h3 kj)).1.lt;rw[←hn,aB0,kH _ (by omega)];omega
  ·have h5:=((hr.lp i p' h2).2 (kk h1 ki)).1.lt;rcases key j d hj with⟨rfl,rfl⟩|⟨h3,h4⟩
   ·rw[kH _ (by omega),←hn,aB0];omega
   ·rw[kH _ (by omega),kH _ (by omega)];exact hr.li i j p' d h2 h4 (kk h1 ki) (kk h3 kj) hij
theorem aIp(hF:FOk F)(hex:fG F ex):zL F ex:=by
 intro q nt fn fo ps cd bd e h r hx;obtain⟨fv,h1,h2⟩:=aA.1 hx;obtain⟨hq,h3⟩:=cbn.1 (show cb q none (dK h.n _)=some r from h2);rw[aM]at h3;obtain⟨s,rfl,h5⟩:=aI.1 h3;split at h5
 rotate_left
 ·cases h5
 rename_i fn2 fI;obtain⟨⟨v,h'⟩,h6,h7⟩:=aA.1 h5;obtain⟨p,h8,h9⟩:=aA.1 h7;obtain⟨hdd,h10⟩:=cbn.1 h9;obtain⟨hbar,h11⟩:=aB.1 h10;obtain⟨hbusy,h12⟩:=aB.1 h11;intro c wb a f b k cs hb hqb;have hbn:=hqb hq;obtain⟨k1,k2⟩:=aF.1 (aS f.t h1);have hn:=f.r.n;obtain⟨rc,hrc⟩:∃rc:Loop,rc={state:=.ready,pending:=none,fn:=b.fn,tmps:=a.tmps,params:=ps,assign:=cd,body:=bd,defers:=c.w.heap.size}:=⟨_,rfl⟩
 have he:(Instr.enterLoop b.fn a.tmps ps cd bd b.roundOf).run F.P c.w=.ok (c.w.heap.size+1,[{target:=.collected c.w.heap.size,args:=#[]}]) (c.lp (.loop rc)).w:=by
  rw[hbn,hrc];exact run_enterLoop_outer ..
 have X1:=aJB (c:=c) f.r.k (.loop rc);have hl0:(c.lp (.loop rc)).w.heap[c.w.heap.size+1]? =some (.loop rc):=by
  have:=World.alloc_heap_new (c.w.alloc (.deferred (some []))) (.loop rc);rw[World.size_alloc]at this;exact this
 have hd0:(c.lp (.loop rc)).w.heap[c.w.heap.size]? =some (.deferred (some [])):=by
  have h0:=World.alloc_heap_new c.w (.deferred (some []));exact (((Q.refl (c.w.alloc (.deferred (some [])))).alloc (.loop rc)).heap (by rw[World.size_alloc];omega)).trans h0
 have R1:Rl (c.lp (.loop rc)) wb ⟨h.h,Nat.succ h.n,h.bar,h.l.set ⟨fn,nt,e,ps.toList,cd,bd,true,none,false,none,none,none⟩ h.n⟩:=
  f.r.lpn ⟨_,hl0,(fun _ _ _ e=>by cases e),(fun _ e=>by cases e),fun _=>⟨c.w.heap.size,a.tmps,by rw[hrc,hb];simp[lst],f.t.xt X1⟩,(fun _ _ e=>by cases e),(fun _ e=>by cases e),fun _ e=>by cases e⟩
 have hy:VR (c.lp (.loop rc)) (sc (.y h.n)) (.func (.yield (c.w.heap.size+1)) #[] #[]):=
  aF.2 ⟨.inr hn.symm,by rw[←hn,aB0]⟩
 obtain⟨⟨G,k3,k4⟩,k5⟩:=fT (vs:=.func (.yield (c.w.heap.size+1)) #[] #[]::fI.map (ptr c)) hF hex h6 R1 (fun t=>f.z t) f.b ⟨hy,(aDy k1).xt X1⟩;have hres:(resolve a.eval (rangeCall fo (c.w.heap.size+1)) 0).run F.P (c.lp (.loop rc)).w=.ok {target:=.fn (.func fn2) (fI.map (ptr c)).toArray,args:=#[.func (.yield (c.w.heap.size+1)) #[] #[]]} (c.lp (.loop rc)).w:=by
  simp only[resolve,k2,Deferred.ofValue,Sem.run_pure,Array.empty_append,List.map_toArray,List.map_cons,List.map_nil];rfl
 have hinv:(invoke (.fn (.func fn2) (fI.map (ptr c)).toArray) #[.func (.yield (c.w.heap.size+1)) #[] #[]]).run F.P (c.lp (.loop rc)).w=.ok (.enter fn2 (.func (.yield (c.w.heap.size+1)) #[] #[]::fI.map (ptr c)).toArray) (c.lp (.loop rc)).w:=by
  simp only[invoke];rw[kF k3 (hF.ng _ _ k3) k4];simp
 have henter:=stepR_rangeFunc (k:=k) (cs:=cs) he hres hinv;obtain⟨e3,w',fr,⟨u,d,rfl,rfl,X,R,V⟩,hs,hfn,hl⟩:=k5 (b.atR {a with defers:=[{target:=.collected c.w.heap.size,args:=#[]}]++a.defers} (.inRangeFunc (c.w.heap.size+1)::k)::cs);have hleave:=step_leave_returned (c:=b.atR {a with defers:=[{target:=.collected c.w.heap.size,args:=#[]}]++a.defers} (.inRangeFunc (c.w.heap.size+1)::k)) (cs:=cs) hl;rw[finish_atR_inRangeFunc]at hleave;have hkl:d.k h.n:=X.k _ (.inr hn.symm);have hrl:d.r h.n=c.w.heap.size+1:=(X.r _ (.inr hn.symm)).trans (by rw[←hn,aB0]);obtain⟨⟨rc2,hg,hnc,hnd,hrc2,hit⟩,-⟩:=(R.lp h.n p h8).2 hkl;obtain⟨D,tm,rfl,htm⟩:=hrc2 hdd;have hnb:lst p≠.busy:=by
  unfold lst;cases hs:p.st with
  |true=>simp
  |false=>
   cases hp:p.pd with
   |none=>rw[hs,hp]at hbusy;cases hbusy
   |some x=>simp
 have hend:=run_endLoop (P:=F.P) hg hnb;have X2:=lX (c:=d) (o':=.loop {state:=.exhausted,pending:=p.pd,fn:=p.fn,tmps:=tm,params:=p.ps.toArray,assign:=p.cs,body:=p.bd,defers:=D}) hg hnc hnd;have R2:=R.loop (p':={p with dd:=true}) (o':=.loop {state:=.exhausted,pending:=p.pd,fn:=p.fn,tmps:=tm,params:=p.ps.toArray,assign:=p.cs,body:=p.bd,defers:=D}) h8 hkl (bA.1 hbar) hg hnc hnd ⟨_,World.putObj_heap_same (Array.getElem?_eq_some_iff.1 hg).1,(fun _ _ _ e=>by cases e),(fun _ e=>by cases e),fun h=>(by cases h),aEW hit⟩;have send:=stepR_endRangeFunc (b:=b) (a:={a with defers:=[{target:=.collected c.w.heap.size,args:=#[]}]++a.defers}) (k:=k) (cs:=cs) hend;have XX:=(X1.trans X).trans X2;have e5:lone (b.atR {a with defers:=[{target:=.collected c.w.heap.size,args:=#[]}]++a.defers} (.endRangeFunc (c.w.heap.size+1)::k)) cs d.w=lone (b.atR {a with defers:=[{target:=.collected c.w.heap.size,args:=#[]}]++a.defers} (.endRangeFunc (d.r h.n)::k)) cs d.w:=by rw[hrl]
 rw[e5]at hleave;have all:∀k2,(p.pd.map Item.code).toList++k=k2→Steps F.P (lone (b.atR a (.code (.rangeFunc fo ps cd bd)::k)) cs c.w) (lone (b.atR {a with defers:=[{target:=.collected c.w.heap.size,args:=#[]}]++a.defers} k2) cs (d.obj (d.r h.n) (.loop {state:=.exhausted,pending:=p.pd,fn:=p.fn,tmps:=tm,params:=p.ps.toArray,assign:=p.cs,body:=p.bd,defers:=D})).w):=by
  rintro k2 rfl;exact Steps.head henter (Steps.trans hs (.head hleave (.one send)))
 have be:Be F c wb nt b a (h'.putLp h.n {p with dd:=true}) e {a with defers:=[{target:=.collected c.w.heap.size,args:=#[]}]++a.defers} _:=
  ⟨XX,⟨R2,fun t=>XX.z▸f.z t,f.t.xt XX,f.b⟩,_,rfl,⟨⟨_,rfl,Nat.le_refl _,X2.p.d _ (X.p.d _ hd0),fun d' hd'=>by cases hd'⟩,trivial⟩,fun hn=>absurd hbn hn⟩
 split at h12
 ·rename_i hp;injection h12 with h12;subst h12;exact⟨_,_,be,all k (by rw[hp];rfl)⟩
 ·rename_i hp;injection h12 with h12;subst h12;exact⟨_,_,be,k,all (.code .ret::k) (by rw[hp];rfl)⟩
 ·rename_i id hp;injection h12 with h12;subst h12;exact⟨_,_,be,k,rfl,all (.code (.exit id)::k) (by rw[hp];rfl)⟩
 ·cases h12
theorem nX(hF:FOk F)(hm:F.P.follows .mixedOrders=true)(m:Nat):fG F (exec F m):=
 (aKK hF hm (fun _ h=>aBZ h) (fun _ h=>aIp hF h) m).1
end
section
variable (F:Cf)
def Xop(o:Op)(e:Env)(h:H)(Q:AV→H→Prop):Prop:=∃v h',(∃m0,∀m,m0≤m→op1 F (aY F (exec F m)) o e h=some (v,h'))∧Q v h'
def Xr(nt:Nat)(ops l:List Oper)(e:Env)(h:H)(Q:Env→H→Prop):Prop:=∃e' h',(∃m0,∀m,m0≤m→gM F nt (aY F (exec F m)) ops l e h=some ⟨.n,e',h'⟩)∧Q e' h'
def Xb(nt:Nat)(ops:List Oper)(B:List (Nat × List Nat))(e:Env)(h:H)(Q:Env→H→Prop):Prop:=∃e' h',(∃m0,∀m,m0≤m→wL F nt (aY F (exec F m)) ops B e h=some ⟨.n,e',h'⟩)∧Q e' h'
def Xa(nt:Nat)(ops:List Oper)(b:Nat)(B:List (Nat × List Nat))(l:List Nat)(e:Env)(h:H)(Q:Env→H→Prop):Prop:=∃e' h',(∃m0,∀m,m0≤m→tL F nt (aY F (exec F m)) ops b (wL F nt (aY F (exec F m)) ops B) l e h=some ⟨.n,e',h'⟩)∧Q e' h'
def Xw(nt fn:Nat)(c:Code)(e:Env)(h:H)(Q:Ex→Env→H→Prop):Prop:=∃x e' h',(∃m0,∀m,m0≤m→exec F m false nt fn c e h=some ⟨x,e',h'⟩)∧Q x e' h'
def Xc(fn:Nat)(args:List AV)(h:H)(Q:AV→H→Prop):Prop:=∃v h',(∃m0,∀m,m0≤m→aU F (exec F m) fn args h=some (v,h'))∧Q v h'
end
section
variable {F:Cf} {nt fn:Nat} {e:Env} {h:H}
theorem Xop.mono{o:Op}{Q R:AV→H→Prop}(x:Xop F o e h Q)(k:∀v h,Q v h→R v h):Xop F o e h R:=let ⟨v,h',a,b⟩:=x;⟨v,h',a,k v h' b⟩
theorem Xc.mono{args:List AV}{Q R:AV→H→Prop}(x:Xc F fn args h Q)(k:∀v h,Q v h→R v h):Xc F fn args h R:=let ⟨v,h',a,b⟩:=x;⟨v,h',a,k v h' b⟩
theorem Xw.mono{c:Code}{Q R:Ex→Env→H→Prop}(x:Xw F nt fn c e h Q)(k:∀x e h,Q x e h→R x e h):Xw F nt fn c e h R:=let ⟨y,e',h',a,b⟩:=x;⟨y,e',h',a,k y e' h' b⟩
theorem Xop.now{o:Op}{v:AV}{h':H}{Q:AV→H→Prop}(hx:∀call,op1 F call o e h=some (v,h'))(k:Q v h'):Xop F o e h Q:=⟨v,h',⟨0,fun _ _=>hx _⟩,k⟩
theorem aMI{Q:Ex→Env→H→Prop}(k:Q .n e h):Xw F nt fn .skip e h Q:=⟨_,_,_,⟨1,fun m hm=>by cases m with|zero=>omega|succ m=>rfl⟩,k⟩
theorem aMJ{id:Nat}{Q:Ex→Env→H→Prop}(k:Q (.x id) e h):Xw F nt fn (.exit id) e h Q:=⟨_,_,_,⟨1,fun m hm=>by cases m with|zero=>omega|succ m=>rfl⟩,k⟩
theorem aOh{Q:Ex→Env→H→Prop}(k:Q .r e h):Xw F nt fn .ret e h Q:=⟨_,_,_,⟨1,fun m hm=>by cases m with|zero=>omega|succ m=>rfl⟩,k⟩
def sqn(x:Ex)(P q:Prop):Prop:=match x with| .n=>P|_=>q
theorem aOi{a b:Code}{Q:Ex→Env→H→Prop}(k:Xw F nt fn a e h fun x e h=>sqn x (Xw F nt fn b e h Q) (Q x e h)):Xw F nt fn (.seq a b) e h Q:=by
 obtain⟨x,e1,h1,⟨m0,k1⟩,k2⟩:=k;cases x with
 |n=>
  obtain⟨y,e2,h2,⟨m1,k3⟩,k4⟩:=(show Xw F nt fn b e1 h1 Q from k2)
  refine⟨y,e2,h2,⟨m0+m1+1,fun m hm=>?_⟩,k4⟩;cases m with
  |zero=>omega
  |succ m=>
   show ob (exec F m false nt fn a e h) (kV (exec F m) false nt fn b)=_;rw[k1 m (by omega)];exact k3 m (by omega)
 |x id=>
  refine⟨_,e1,h1,⟨m0+1,fun m hm=>?_⟩,k2⟩;cases m with
  |zero=>omega
  |succ m=>
   show ob (exec F m false nt fn a e h) (kV (exec F m) false nt fn b)=_;rw[k1 m (by omega)];rfl
 |r=>
  refine⟨_,e1,h1,⟨m0+1,fun m hm=>?_⟩,k2⟩;cases m with
  |zero=>omega
  |succ m=>
   show ob (exec F m false nt fn a e h) (kV (exec F m) false nt fn b)=_;rw[k1 m (by omega)];rfl
theorem aIq{id:Nat}{ops:Array Oper}{Q:Ex→Env→H→Prop}(k:Xr F nt ops.toList ops.toList e h (Q .n)):Xw F nt fn (.region id ops false) e h Q:=by
 obtain⟨e1,h1,⟨m0,k1⟩,k2⟩:=k;refine⟨.n,e1,h1,⟨m0+1,fun m hm=>?_⟩,k2⟩;cases m with
 |zero=>omega
 |succ m=>exact k1 m (by omega)
theorem aKL{call:bB}{ops:Array Oper}{p:List Nat × List (Nat × List Nat)}(hok:lS F ops p=true):pJ F nt call ops p e h=tL F nt call ops.toList h.bar (wL F nt call ops.toList p.2) p.1 e h:=by
 unfold pJ;rw[hok,aM];rfl
theorem aKM{id:Nat}{ops:Array Oper}{A:List Nat}{B:List (Nat × List Nat)}{Q:Ex→Env→H→Prop}(hp:F.pl fn id=some (A,B))(hok:lS F ops (A,B)=true)(k:Xa F nt ops.toList h.bar B A e h (Q .n)):Xw F nt fn (.region id ops true) e h Q:=by
 obtain⟨e1,h1,⟨m0,k1⟩,k2⟩:=k;refine⟨.n,e1,h1,⟨m0+1,fun m hm=>?_⟩,k2⟩;cases m with
 |zero=>omega
 |succ m=>
  show ob (F.pl fn id) (fun p=>pJ F nt (aY F (exec F m)) ops p e h)=_;rw[hp];exact (aKL hok).trans (k1 m (by omega))
theorem aB1{c:Operand}{a b:Code}{x:Bool}{Q:Ex→Env→H→Prop}(hc:ev e c=some (sc (.b x)))(k1:x=true→Xw F nt fn a e h Q)(k2:x=false→Xw F nt fn b e h Q):Xw F nt fn (.cond c a b) e h Q:=by
 have key:Xw F nt fn (cb x a b) e h Q:=by cases x with|true=>exact k1 rfl|false=>exact k2 rfl
 obtain⟨y,e1,h1,⟨m0,k3⟩,k4⟩:=key;refine⟨y,e1,h1,⟨m0+1,fun m hm=>?_⟩,k4⟩;cases m with
 |zero=>omega
 |succ m=>
  show ob (ev e c) (fun v=>one v (xO (exec F m) false nt fn a b e h))=_;rw[hc];exact k3 m (by omega)
def bl(id:Nat)(x:Ex)(e:Env)(h:H)(Q:Ex→Env→H→Prop):Prop:=match x with| .x j=>cb (Nat.beq id j) (Q .n e h) (Q (.x j) e h)|x=>Q x e h
theorem aKN{id:Nat}{a:Code}{Q:Ex→Env→H→Prop}(k:Xw F nt fn a e h fun x e h=>bl id x e h Q):Xw F nt fn (.block id a) e h Q:=by
 obtain⟨x,e1,h1,⟨m0,k1⟩,k2⟩:=k;have fin:∀y:R,tN id ⟨x,e1,h1⟩=some y→Q y.x y.e y.h→Xw F nt fn (.block id a) e h Q:=fun y hy hq=>⟨y.x,y.e,y.h,⟨m0+1,fun m hm=>by
  cases m with
  |zero=>omega
  |succ m=>
   show ob (exec F m false nt fn a e h) (tN id)=_;rw[k1 m (by omega)];exact hy⟩,hq⟩
 cases x with
 |n=>exact fin ⟨.n,e1,h1⟩ rfl k2
 |r=>exact fin ⟨.r,e1,h1⟩ rfl k2
 |x j=>
  have k2:cb (Nat.beq id j) (Q .n e1 h1) (Q (.x j) e1 h1):=k2;cases hb:Nat.beq id j with
  |true=>
   rw[hb]at k2;exact fin ⟨.n,e1,h1⟩ (by show cb (Nat.beq id j) _ _=_;rw[hb];rfl) k2
  |false=>
   rw[hb]at k2;exact fin ⟨.x j,e1,h1⟩ (by show cb (Nat.beq id j) _ _=_;rw[hb];rfl) k2
theorem aKO{a:Code}{Q:Ex→Env→H→Prop}(k:Xw F nt fn a e h fun x e h=>sqn x (Xw F nt fn (.loop a) e h Q) (Q x e h)):Xw F nt fn (.loop a) e h Q:=by
 obtain⟨x,e1,h1,⟨m0,k1⟩,k2⟩:=k;cases x with
 |n=>
  obtain⟨y,e2,h2,⟨m1,k3⟩,k4⟩:=(show Xw F nt fn (.loop a) e1 h1 Q from k2)
  refine⟨y,e2,h2,⟨m0+m1+1,fun m hm=>?_⟩,k4⟩;cases m with
  |zero=>omega
  |succ m=>
   show ob (exec F m false nt fn a e h) (kV (exec F m) false nt fn (.loop a))=_;rw[k1 m (by omega)];exact k3 m (by omega)
 |x id=>
  refine⟨_,e1,h1,⟨m0+1,fun m hm=>?_⟩,k2⟩;cases m with
  |zero=>omega
  |succ m=>
   show ob (exec F m false nt fn a e h) (kV (exec F m) false nt fn (.loop a))=_;rw[k1 m (by omega)];rfl
 |r=>
  refine⟨_,e1,h1,⟨m0+1,fun m hm=>?_⟩,k2⟩;cases m with
  |zero=>omega
  |succ m=>
   show ob (exec F m false nt fn a e h) (kV (exec F m) false nt fn (.loop a))=_;rw[k1 m (by omega)];rfl
theorem aMK{a:Code}{Q:Ex→Env→H→Prop}(I:Nat→Env→H→Prop)(k:∀n e h,I n e h→Xw F nt fn a e h fun x e h=>sqn x (∃m,m<n∧I m e h) (Q x e h)):∀n e h,I n e h→Xw F nt fn (.loop a) e h Q:=by
 intro n
 induction n using Nat.strongRecOn with
 |ind n ih=>
  intro e h hI;refine aKO ((k n e h hI).mono fun x e h hx=>?_);cases x with
  |n=>obtain⟨m,h1,h2⟩:=hx;exact ih m h1 e h h2
  |x id=>exact hx
  |r=>exact hx
def Pk(d:Nat)(v:AV)(e:Env)(h:H)(C:Env→H→Prop):Prop:=C (T.set v e d) h
variable {ops l:List Oper} {o:Oper} {d:Nat} {Q:Env→H→Prop}
theorem aML(k:Q e h):Xr F nt ops [] e h Q:=⟨e,h,⟨0,fun _ _=>rfl⟩,k⟩
theorem kW{v:AV}{k:Env→Option R}(hn:Nat.blt d nt=true):put nt e (some d) v k=k (T.set v e d):=by
 show cb (Nat.blt d nt) _ none=_;rw[hn];rfl
theorem jN{call:bB}{rest:Env→H→Option R}{v:AV}{h1:H}(hw:wanted ops e o.guard=some true)(hx:op1 F call o.op e h=some (v,h1)):kT F nt call ops rest o e h=put nt e o.dst v fun e=>rest e h1:=by
 unfold kT;rw[hw,hx];rfl
theorem wR{call:bB}{rest:Env→H→Option R}(hw:wanted ops e o.guard=some false):kT F nt call ops rest o e h=put nt e o.dst un fun e=>rest e h:=by
 unfold kT;rw[hw];rfl
theorem aKP(hw:wanted ops e o.guard=some true)(hd:o.dst=some d)(hn:Nat.blt d nt=true)(k:Xop F o.op e h fun v h=>Pk d v e h fun e h=>Xr F nt ops l e h Q):Xr F nt ops (o::l) e h Q:=by
 obtain⟨v,h1,⟨m0,k1⟩,e2,h2,⟨m1,k2⟩,k3⟩:=k;refine⟨e2,h2,⟨m0+m1,fun m hm=>?_⟩,k3⟩;refine (jN hw (k1 m (by omega))).trans ?_;rw[hd,kW hn];exact k2 m (by omega)
theorem aIr(hg:o.guard=none)(hd:o.dst=none)(k:Xop F o.op e h fun _ h=>Xr F nt ops l e h Q):Xr F nt ops (o::l) e h Q:=by
 obtain⟨v,h1,⟨m0,k1⟩,e2,h2,⟨m1,k2⟩,k3⟩:=k;refine⟨e2,h2,⟨m0+m1,fun m hm=>?_⟩,k3⟩;refine (jN (by rw[hg];rfl) (k1 m (by omega))).trans ?_;rw[hd];exact k2 m (by omega)
theorem aMM(hw:wanted ops e o.guard=some false)(hd:o.dst=some d)(hn:Nat.blt d nt=true)(k:Pk d un e h fun e h=>Xr F nt ops l e h Q):Xr F nt ops (o::l) e h Q:=by
 obtain⟨e2,h2,⟨m1,k2⟩,k3⟩:=k;refine⟨e2,h2,⟨m1,fun m hm=>?_⟩,k3⟩;refine (wR hw).trans ?_;rw[hd,kW hn];exact k2 m (by omega)
variable {b i:Nat} {A late:List Nat} {B:List (Nat × List Nat)}
theorem nI{α:Type}{f:Oper→Option α}(ho:(drp i ops).head? =some o):ob (drp i ops).head? f=f o:=by rw[ho];rfl
theorem aMN{h:H}(k:Xb F nt ops B e (h.back b) Q):Xa F nt ops b B [] e h Q:=k
theorem aMO(k:Q e h):Xb F nt ops [] e h Q:=⟨e,h,⟨0,fun _ _=>rfl⟩,k⟩
theorem aKQ(ho:(drp i ops).head? =some o)(hw:wanted ops e o.guard=some true)(hd:o.dst=some d)(hn:Nat.blt d nt=true)(k:Xop F o.op e h.lift fun v h=>Pk d v e h fun e h=>Xa F nt ops b B A e h Q):Xa F nt ops b B (i::A) e h Q:=by
 obtain⟨v,h1,⟨m0,k1⟩,e2,h2,⟨m1,k2⟩,k3⟩:=k;refine⟨e2,h2,⟨m0+m1,fun m hm=>?_⟩,k3⟩;refine (nI ho).trans ?_;refine (jN hw (k1 m (by omega))).trans ?_;rw[hd,kW hn];exact k2 m (by omega)
theorem aIs(ho:(drp i ops).head? =some o)(hg:o.guard=none)(hd:o.dst=none)(k:Xop F o.op e h.lift fun _ h=>Xa F nt ops b B A e h Q):Xa F nt ops b B (i::A) e h Q:=by
 obtain⟨v,h1,⟨m0,k1⟩,e2,h2,⟨m1,k2⟩,k3⟩:=k;refine⟨e2,h2,⟨m0+m1,fun m hm=>?_⟩,k3⟩;refine (nI ho).trans ?_;refine (jN (by rw[hg];rfl) (k1 m (by omega))).trans ?_;rw[hd];exact k2 m (by omega)
theorem aMP(ho:(drp i ops).head? =some o)(hw:wanted ops e o.guard=some false)(hd:o.dst=some d)(hn:Nat.blt d nt=true)(k:Pk d un e h.lift fun e h=>Xa F nt ops b B A e h Q):Xa F nt ops b B (i::A) e h Q:=by
 obtain⟨e2,h2,⟨m1,k2⟩,k3⟩:=k;refine⟨e2,h2,⟨m1,fun m hm=>?_⟩,k3⟩;refine (nI ho).trans ?_;refine (wR hw).trans ?_;rw[hd,kW hn];exact k2 m (by omega)
def Ag(F:Cf)(ops:List Oper)(l:List Nat)(e:Env)(h:H):Prop:=∀k:Option R,again F ops e h k l=k
theorem aGG:Ag F ops [] e h:=fun _=>rfl
theorem aPe{o:Oper}{l:List Nat}(ho:(drp i ops).head? =some o)(hm:mkO F o.op=.p)(k:Ag F ops l e h):Ag F ops (i::l) e h:=fun x=>by
 show ob (drp i ops).head? (fun o=>match mkO F o.op with| .p=>again F ops e h x l| .l=>_| .n=>_|_=>none)=x;rw[ho];show (match mkO F o.op with| .p=>again F ops e h x l| .l=>_| .n=>_|_=>none)=x;rw[hm];exact k x
theorem aPf{o:Oper}{l:List Nat}{v:AV}{h2:H}(ho:(drp i ops).head? =some o)(hm:mkO F o.op=.l)(hg:o.guard=none)(hd:o.dst=some d)(hv:e.get d=some v)(hr:op1 F (fun _ _ _=>none) o.op e h=some (v,h2))(ha:avb v v=true)(k:Ag F ops l e h):Ag F ops (i::l) e h:=fun x=>by
 show ob (drp i ops).head? (fun o=>match mkO F o.op with| .p=>again F ops e h x l| .l=>ob o.dst fun d=>ob (e.get d) fun v=>ob (op1 F (fun _ _ _=>none) o.op e h) fun u=>cb (isN o.guard) (cb (avb v u.1) (again F ops e h x l) none) none| .n=>ob o.dst fun d=>ob (e.get d) fun v=>ob (op1 F (fun _ _ _=>none) o.op e h) fun u=>cb (isN o.guard) (cb (vD h v u) (again F ops e h x l) none) none|_=>none)=x;rw[ho];show (match mkO F o.op with| .p=>again F ops e h x l| .l=>ob o.dst fun d=>ob (e.get d) fun v=>ob (op1 F (fun _ _ _=>none) o.op e h) fun u=>cb (isN o.guard) (cb (avb v u.1) (again F ops e h x l) none) none| .n=>ob o.dst fun d=>ob (e.get d) fun v=>ob (op1 F (fun _ _ _=>none) o.op e h) fun u=>cb (isN o.guard) (cb (vD h v u) (again F ops e h x l) none) none|_=>none)=x;rw[hm];show (ob o.dst fun d=>ob (e.get d) fun v=>ob (op1 F (fun _ _ _=>none) o.op e h) fun u=>cb (isN o.guard) (cb (avb v u.1) (again F ops e h x l) none) none)=x;rw[hd];show (ob (e.get d) fun v=>ob (op1 F (fun _ _ _=>none) o.op e h) fun u=>cb (isN o.guard) (cb (avb v u.1) (again F ops e h x l) none) none)=x;rw[hv];show (ob (op1 F (fun _ _ _=>none) o.op e h) fun u=>cb (isN o.guard) (cb (avb v u.1) (again F ops e h x l) none) none)=x;rw[hr,hg];show cb (avb v v) (again F ops e h x l) none=x;rw[ha];exact k x
theorem aDG(ho:(drp i ops).head? =some o)(hw:wanted ops e o.guard=some true)(hd:o.dst=some d)(hn:Nat.blt d nt=true)(k:Xop F o.op e h fun v h=>Pk d v e h fun e h=>Ag F ops late e h∧Xb F nt ops B e h Q):Xb F nt ops ((i,late)::B) e h Q:=by
 obtain⟨v,h1,⟨m0,k1⟩,ka,e2,h2,⟨m1,k2⟩,k3⟩:=k;refine⟨e2,h2,⟨m0+m1,fun m hm=>?_⟩,k3⟩;refine (nI ho).trans ?_;refine (jN hw (k1 m (by omega))).trans ?_;rw[hd,kW hn];exact (ka _).trans (k2 m (by omega))
theorem aB2(ho:(drp i ops).head? =some o)(hg:o.guard=none)(hd:o.dst=none)(k:Xop F o.op e h fun _ h=>Ag F ops late e h∧Xb F nt ops B e h Q):Xb F nt ops ((i,late)::B) e h Q:=by
 obtain⟨v,h1,⟨m0,k1⟩,ka,e2,h2,⟨m1,k2⟩,k3⟩:=k;refine⟨e2,h2,⟨m0+m1,fun m hm=>?_⟩,k3⟩;refine (nI ho).trans ?_;refine (jN (by rw[hg];rfl) (k1 m (by omega))).trans ?_;rw[hd];exact (ka _).trans (k2 m (by omega))
end
def aB3:List Rat→List SV
 | []=>[]
 |x::l=>bS x++aB3 l
noncomputable def lk (s:List (Nat × AV)) (k:Nat):Option AV:=List.rec (motive:=fun _=>Option AV) none (fun p _ r=>Prod.rec (motive:=fun _=>Option AV) (fun a b=>cb (Nat.beq a k) (some b) r) p) s
def Kn(e:Env)(s:List (Nat × AV)):Prop:=∀k v,lk s k=some v→e.get k=some v
theorem Kn.set{e:Env}{s:List (Nat × AV)}(h:Kn e s)(d:Nat)(v:AV):Kn (T.set v e d) ((d,v)::s):=fun k u hk=>by
 have hk:cb (Nat.beq d k) (some v) (lk s k)=some u:=hk;cases hb:Nat.beq d k with
 |true=>
  rw[hb]at hk;injection hk with hk;rw[←aH.1 hb,T.get_same,hk]
 |false=>
  rw[hb]at hk;rcases T.get_upd (x:=v) (t:=e) (k:=d) (j:=k) with h1|⟨h1,-⟩
  ·rw[h1];exact h k u hk
  ·exact absurd h1.symm (aAK.1 hb)
noncomputable def evs (s:List (Nat × AV)) (x:Operand):Option AV:=Operand.rec (motive:=fun _=>Option AV) (fun t=>lk s t) ofV (fun _=>none) (fun f=>some (sc (.f f []))) x
theorem bU{e:Env}{s:List (Nat × AV)}{x:Operand}{v:AV}(h:Kn e s)(hx:evs s x=some v):ev e x=some v:=by
 cases x with
 |tmp t=>exact h t v hx
 |const k=>exact hx
 |global g=>cases hx
 |func f=>exact hx
noncomputable def zM (s:List (Nat × AV)) (l:List Operand):Option (List AV):=List.rec (motive:=fun _=>Option (List AV)) (some []) (fun x _ r=>ob (evs s x) fun v=>ob r fun r=>some (v::r)) l
theorem zN{e:Env}{s:List (Nat × AV)}(h:Kn e s):∀{l:List Operand} {v:List AV},zM s l=some v→evL e l=some v
 | [],v,hx=>hx
 |x::l,v,hx=>by
  obtain⟨u,h1,h2⟩:=aA.1 (show ob (evs s x) (fun v=>ob (zM s l) fun r=>some (v::r))=some v from hx);obtain⟨r,h3,h4⟩:=aA.1 h2;show ob (ev e x) (fun v=>ob (evL e l) fun r=>some (v::r))=some v;rw[bU h h1,zN h h3];exact h4
def aIt:Nat:=51
def Own(h0 h:H)(ws:List (Nat × B)):Prop:=(∀p∈ws,h0.n≤p.1∧p.1<h.n∧h.h.get p.1=some p.2)∧ws.Pairwise fun p q=>p.1≠q.1
def IsL(ws:List (Nat × B))(h:H)(v:AV)(xs:List Rat):Prop:=(v=sc .ns∧xs=[])∨∃id cap c,v=sc (.sl id 0 xs.length cap)∧(∀m,cap=some m→xs.length≤m)∧h.h.get id=some ⟨aIt,c⟩∧aB3 xs<+:c∧id<h.n∧∀p∈ws,p.1≠id
def IsP(ws:List (Nat × B))(h:H)(v:AV)(x:Rat):Prop:=∃id off b,v=sc (.p id off)∧h.h.get id=some b∧cZ 3 (drp off b.c)=some (bS x)∧id<h.n∧∀p∈ws,p.1≠id
structure St (β:Nat) (h0:H) (e:Env) (s:List (Nat × AV)) (h:H) (ws:List (Nat × B)) (ls:List (AV × List Rat)) (ps:List (AV × Rat)):Prop where
 k:Kn e s
 n:h0.n≤h.n
 bar:h.bar=β
 o:∀k,k<h0.n→h.h.get k=h0.h.get k
 l:h.l=h0.l
 w:Own h0 h ws
 ls:∀p∈ls,IsL ws h p.1 p.2
 ps:∀p∈ps,IsP ws h p.1 p.2
structure Xh (h h':H):Prop where
 n:h.n≤h'.n
 bar:h'.bar=h.bar
 o:∀k,k<h.n→h'.h.get k=h.h.get k
 l:h'.l=h.l
theorem Xh.refl(h:H):Xh h h:=⟨Nat.le_refl _,rfl,fun _ _=>rfl,rfl⟩
theorem Xh.trans{a b c:H}(x:Xh a b)(y:Xh b c):Xh a c:=⟨Nat.le_trans x.n y.n,y.bar.trans x.bar,fun k q=>(y.o k (Nat.lt_of_lt_of_le q x.n)).trans (x.o k q),y.l.trans x.l⟩
section
variable {F:Cf} {β:Nat} {h0 h h':H} {e:Env} {s:List (Nat × AV)} {ws:List (Nat × B)} {ls:List (AV × List Rat)} {ps:List (AV × Rat)} {v:AV} {xs:List Rat} {x:Rat} {C:Env→H→Prop} {d:Nat}
theorem St.pk(hS:St β h0 e s h ws ls ps)(k:∀e,St β h0 e ((d,v)::s) h ws ls ps→C e h):Pk d v e h C:=k _ ⟨hS.k.set d v,hS.n,hS.bar,hS.o,hS.l,hS.w,hS.ls,hS.ps⟩
theorem St.lift(hS:St β h0 e s h ws ls ps):St h.n h0 e s h.lift ws ls ps:=⟨hS.k,hS.n,rfl,hS.o,hS.l,hS.w,hS.ls,hS.ps⟩
theorem St.back(hS:St β h0 e s h ws ls ps)(b:Nat):St b h0 e s (h.back b) ws ls ps:=⟨hS.k,hS.n,rfl,hS.o,hS.l,hS.w,hS.ls,hS.ps⟩
theorem IsL.xh{ws:List (Nat × B)}(hl:IsL ws h v xs)(x:Xh h h'):IsL ws h' v xs:=by
 rcases hl with hl|⟨id,cap,c,h1,h2,h3,h4,h5,h6⟩
 ·exact .inl hl
 ·exact .inr ⟨id,cap,c,h1,h2,(x.o id h5).trans h3,h4,Nat.lt_of_lt_of_le h5 x.n,h6⟩
theorem IsP.xh{ws:List (Nat × B)}(hl:IsP ws h v x)(y:Xh h h'):IsP ws h' v x:=by
 obtain⟨id,off,b,h1,h3,h4,h5,h6⟩:=hl;exact⟨id,off,b,h1,(y.o id h5).trans h3,h4,Nat.lt_of_lt_of_le h5 y.n,h6⟩
theorem St.xh(hS:St β h0 e s h ws ls ps)(x:Xh h h'):St β h0 e s h' ws ls ps:=
 ⟨hS.k,Nat.le_trans hS.n x.n,x.bar.trans hS.bar,fun k q=>(x.o k (Nat.lt_of_lt_of_le q hS.n)).trans (hS.o k q),x.l.trans hS.l,
  ⟨fun p hp=>let ⟨h1,h2,h3⟩:=hS.w.1 p hp;⟨h1,Nat.lt_of_lt_of_le h2 x.n,(x.o _ h2).trans h3⟩,hS.w.2⟩,fun p hp=>(hS.ls p hp).xh x,fun p hp=>(hS.ps p hp).xh x⟩
theorem St.al(hS:St β h0 e s h ws ls ps)(hl:IsL ws h v xs):St β h0 e s h ws ((v,xs)::ls) ps:=
 ⟨hS.k,hS.n,hS.bar,hS.o,hS.l,hS.w,fun p hp=>by rcases List.mem_cons.1 hp with rfl|hp;exact hl;exact hS.ls p hp,hS.ps⟩
theorem St.ap(hS:St β h0 e s h ws ls ps)(hl:IsP ws h v x):St β h0 e s h ws ls ((v,x)::ps):=
 ⟨hS.k,hS.n,hS.bar,hS.o,hS.l,hS.w,hS.ls,fun p hp=>by rcases List.mem_cons.1 hp with rfl|hp;exact hl;exact hS.ps p hp⟩
def IsF(h h':H)(v:AV)(xs:List Rat):Prop:=(v=sc .ns∧xs=[])∨∃id cap c,v=sc (.sl id 0 xs.length cap)∧(∀m,cap=some m→xs.length≤m)∧h'.h.get id=some ⟨aIt,c⟩∧aB3 xs<+:c∧id<h'.n∧h.n≤id
theorem IsF.isL(hf:IsF h h' v xs){ws:List (Nat × B)}(hw:∀p∈ws,p.1<h.n):IsL ws h' v xs:=by
 rcases hf with hf|⟨id,cap,c,h1,h2,h3,h4,h5,h6⟩
 ·exact .inl hf
 ·exact .inr ⟨id,cap,c,h1,h2,h3,h4,h5,fun p hp q=>by have:=hw p hp;omega⟩
theorem St.call(hS:St β h0 e s h ws ls ps)(x:Xh h h')(hf:IsF h h' v xs):St β h0 e s h' ws ((v,xs)::ls) ps:=(hS.xh x).al (hf.isL fun p hp=>(hS.w.1 p hp).2.1)
theorem St.out(hS:St h0.bar h0 e s h ws ls ps):Xh h0 h:=⟨hS.n,hS.bar,hS.o,hS.l⟩
theorem St.new(hS:St β h0 e s h ws ls ps)(b:B):St β h0 e s ⟨h.h.set b h.n,Nat.succ h.n,h.bar,h.l⟩ ((h.n,b)::ws) ls ps:=by
 have key:∀k,k<h.n→(T.set b h.h h.n).get k=h.h.get k:=fun k q=>by
  rcases T.get_upd (x:=b) (t:=h.h) (k:=h.n) (j:=k) with h1|⟨h1,-⟩
  ·exact h1
  ·omega
 refine⟨hS.k,Nat.le_succ_of_le hS.n,hS.bar,fun k q=>(key k (Nat.lt_of_lt_of_le q hS.n)).trans (hS.o k q),hS.l,⟨fun p hp=>?_,List.pairwise_cons.2 ⟨fun p hp q=>?_,hS.w.2⟩⟩,fun p hp=>?_,fun p hp=>?_⟩
 ·rcases List.mem_cons.1 hp with rfl|hp
  ·exact⟨hS.n,Nat.lt_succ_self _,T.get_same⟩
  ·obtain⟨h1,h2,h3⟩:=hS.w.1 p hp;exact⟨h1,Nat.lt_succ_of_lt h2,(key _ h2).trans h3⟩
 ·have q:h.n=p.1:=q;have:=(hS.w.1 p hp).2.1;omega
 ·rcases hS.ls p hp with hl|⟨id,cap,c,h1,h2,h3,h4,h5,h6⟩
  ·exact .inl hl
  ·refine .inr ⟨id,cap,c,h1,h2,(key id h5).trans h3,h4,Nat.lt_succ_of_lt h5,fun p hp q=>?_⟩;rcases List.mem_cons.1 hp with rfl|hp
   ·have q:h.n=id:=q;omega
   ·exact h6 p hp q
 ·obtain⟨id,off,b2,h1,h3,h4,h5,h6⟩:=hS.ps p hp;refine⟨id,off,b2,h1,(key id h5).trans h3,h4,Nat.lt_succ_of_lt h5,fun p hp q=>?_⟩;rcases List.mem_cons.1 hp with rfl|hp
  ·have q:h.n=id:=q;omega
  ·exact h6 p hp q
theorem St.put(hS:St β h0 e s h ws ls ps){j id:Nat}{b b':B}(hj:ws[j]? =some (id,b)):St β h0 e s (h.put id b') (ws.set j (id,b')) ls ps:=by
 have hm:(id,b)∈ws:=List.mem_of_getElem? hj;obtain⟨w1,w2,w3⟩:=hS.w.1 _ hm;have w1:h0.n≤id:=w1;have w2:id<h.n:=w2;have key:∀k,k≠id→(T.set b' h.h id).get k=h.h.get k:=fun k q=>by
  rcases T.get_upd (x:=b') (t:=h.h) (k:=id) (j:=k) with h1|⟨h1,-⟩
  ·exact h1
  ·exact absurd h1 q
 have hmem:∀p∈ws.set j (id,b'),p.1=id∧p=(id,b')∨∃i,i≠j∧ws[i]? =some p:=fun p hp=>by
  obtain⟨i,hi⟩:=List.getElem?_of_mem hp;rw[List.getElem?_set]at hi;split at hi
  ·split at hi
   ·injection hi with hi;exact .inl ⟨by rw[←hi],hi.symm⟩
   ·cases hi
  ·rename_i hne;exact .inr ⟨i,fun q=>hne q.symm,hi⟩
 have hne:∀i p,i≠j→ws[i]? =some p→p.1≠id:=fun i p hij hi=>by
  have hpw:=List.pairwise_iff_getElem.1 hS.w.2;obtain⟨hi1,hi2⟩:=List.getElem?_eq_some_iff.1 hi;obtain⟨hj1,hj2⟩:=List.getElem?_eq_some_iff.1 hj;rcases Nat.lt_or_gt_of_ne hij with hlt|hgt
  ·have:=hpw i j hi1 hj1 hlt;rw[hi2,hj2]at this;exact this
  ·have:=hpw j i hj1 hi1 hgt;rw[hi2,hj2]at this;exact fun q=>this q.symm
 have hids:∀p∈ws.set j (id,b'),∃q∈ws,q.1=p.1:=fun p hp=>by
  rcases hmem p hp with⟨h1,-⟩|⟨i,-,hi⟩
  ·exact⟨_,hm,h1.symm⟩
  ·exact⟨p,List.mem_of_getElem? hi,rfl⟩
 refine⟨hS.k,hS.n,hS.bar,fun k q=>(key k (by omega)).trans (hS.o k q),hS.l,⟨fun p hp=>?_,?_⟩,fun p hp=>?_,fun p hp=>?_⟩
 ·rcases hmem p hp with⟨-,rfl⟩|⟨i,hij,hi⟩
  ·exact⟨w1,w2,T.get_same⟩
  ·obtain⟨h1,h2,h3⟩:=hS.w.1 p (List.mem_of_getElem? hi);exact⟨h1,h2,(key _ (hne i p hij hi)).trans h3⟩
 ·have e1:(ws.set j (id,b')).map Prod.fst=ws.map Prod.fst:=by
   apply List.ext_getElem?;intro i;rw[List.getElem?_map,List.getElem?_map,List.getElem?_set];split
   ·rename_i hji;subst hji;rw[hj,if_pos (List.getElem?_eq_some_iff.1 hj).1];rfl
   ·rfl
  have h1:=List.pairwise_map.2 (show ws.Pairwise fun p q=>p.1≠q.1 from hS.w.2);rw[show (ws.map fun p:Nat × B=>p.1)=ws.map Prod.fst from rfl,←e1]at h1;exact List.pairwise_map.1 h1
 ·rcases hS.ls p hp with hl|⟨i,cap,c,h1,h2,h3,h4,h5,h6⟩
  ·exact .inl hl
  ·have hi:i≠id:=fun q=>h6 _ hm q.symm;exact .inr ⟨i,cap,c,h1,h2,(key i hi).trans h3,h4,h5,fun p hp=>by obtain⟨q,q1,q2⟩:=hids p hp;exact q2▸h6 q q1⟩
 ·obtain⟨i,off,b2,h1,h3,h4,h5,h6⟩:=hS.ps p hp;have hi:i≠id:=fun q=>h6 _ hm q.symm;exact⟨i,off,b2,h1,(key i hi).trans h3,h4,h5,fun p hp=>by obtain⟨q,q1,q2⟩:=hids p hp;exact q2▸h6 q q1⟩
end
end E
end Go.Proofs.YtamnpcdkcdfgaaaGreatDoor
