/- FilterFamilies holds. No condition. -/
import Derived.Laws.RangeString
import Derived.RangeFuncRecord
import Derived.Test.YtohcfjmkfflkpaaGreatDoorQf05
namespace Go.Proofs.YtohcfjmkfflkpaaGreatDoor
namespace E
open Go Go.RowKit
open Ma Me K
def Dm(B:Nat)(w:World):List Deferred→Prop
 | []=>True
 |d::ds=>(∃r,d={target:=.collected r,args:=#[]}∧B≤r∧w.heap[r]? =some (.deferred (some []))∧∀d'∈ds,∀r',d'.target=.collected r'→r'≠r)∧Dm B w ds
theorem Dm.ps{B:Nat}{w w':World}(hp:Ps w w'):∀{l:List Deferred},Dm B w l→Dm B w' l
 | [],_=>trivial
 |_::_,⟨⟨r,h1,h2,h3,h4⟩,h5⟩=>⟨⟨r,h1,h2,hp.d r h3,h4⟩,Dm.ps hp h5⟩
theorem Dm.lt{B:Nat}{w:World}:∀{l:List Deferred},Dm B w l→∀d∈l,∀r,d.target=.collected r→r<w.heap.size∧B≤r
 |_::_,⟨⟨r,h1,h2,h3,_⟩,h5⟩,d,hd,r',hr=>by
  rcases List.mem_cons.1 hd with rfl|hd
  ·rw[h1]at hr;injection hr with hr;subst hr;exact⟨(Array.getElem?_eq_some_iff.1 h3).1,h2⟩
  ·exact Dm.lt h5 d hd r' hr
theorem Dm.app{B B':Nat}{w w0:World}(hB:B'≤B)(h0:w0.heap.size≤B):∀{l m:List Deferred},Dm B w l→Dm B' w m→(∀d∈m,∀r,d.target=.collected r→r<w0.heap.size)→Dm B' w (l++m)
 | [],_,_,k,_=>k
 |x::l,m,⟨⟨r,h1,h2,h3,h4⟩,h5⟩,k,hm=>by
  refine⟨⟨r,h1,Nat.le_trans hB h2,h3,fun d' hd' r' hr'=>?_⟩,Dm.app hB h0 h5 k hm⟩;rcases List.mem_append.1 hd' with hd' |hd'
  ·exact h4 d' hd' r' hr'
  ·have:=hm d' hd' r' hr';omega
def Arr(P:Program)(m:Machine)(b:Frame)(k:List Item)(cs:List Frame):Ex→Act→World→Prop
 | .n,a,w=>Steps P m (lone (b.atR a k) cs w)
 | .x id,a,w=>∃k1,exitTo id k1=exitTo id k∧Steps P m (lone (b.atR a (.code (.exit id)::k1)) cs w)
 | .r,a,w=>∃k1,Steps P m (lone (b.atR a (.code .ret::k1)) cs w)
theorem Arr.of_steps{P:Program}{m m1:Machine}{b:Frame}{k:List Item}{cs:List Frame}{x:Ex}{a:Act}{w:World}(h:Steps P m m1)(h':Arr P m1 b k cs x a w):Arr P m b k cs x a w:=by
 cases x with
 |n=>exact h.trans h'
 |x id=>obtain⟨k1,h1,h2⟩:=h';exact⟨k1,h1,h.trans h2⟩
 |r=>obtain⟨k1,h2⟩:=h';exact⟨k1,h.trans h2⟩
structure Fr (F:Cf) (c:Cx) (wb:World) (nt:Nat) (h:H) (e:Env) (a:Act):Prop where
 r:Rl c wb h
 z:∀t,c.z t=F.P.cellsOf t
 t:Tr c nt e a.tmps
 b:F.tb wb
structure Be (F:Cf) (c:Cx) (wb:World) (nt:Nat) (b:Frame) (a:Act) (h':H) (e':Env) (a':Act) (d:Cx):Prop where
 x:Xt c d
 f:Fr F d wb nt h' e' a'
 m:∃ms,a'.defers=ms++a.defers∧Dm c.w.heap.size d.w ms∧(b.roundOf≠none→ms=[])
def jH(F:Cf)(q:Bool)(nt fn:Nat)(cd:Code)(e:Env)(h:H)(r:R):Prop:=
 ∀(c:Cx) (wb:World) (a:Act),Fr F c wb nt h e a→∀(b:Frame) (k:List Item) (cs:List Frame),b.fn=fn→(q=false→b.roundOf=none)→
  ∃a' d,Be F c wb nt b a r.h r.e a' d∧Arr F.P (lone (b.atR a (.code cd::k)) cs c.w) b k cs r.x a' d.w
def kH(F:Cf)(ex:dO):Prop:=∀q nt fn cd e h r,ex q nt fn cd e h=some r→jH F q nt fn cd e h r
section
variable {F:Cf} {c d:Cx} {wb:World} {h h':H} {q:Bool} {nt fn:Nat} {e e':Env} {a a' a'':Act} {b:Frame} {ex:dO}
theorem Be.refl(f:Fr F c wb nt h e a):Be F c wb nt b a h e a c:=⟨Xt.refl c,f,[],rfl,trivial,fun _=>rfl⟩
theorem Be.trans{d2:Cx}{h'':H}{e'':Env}(x:Be F c wb nt b a h' e' a' d)(y:Be F d wb nt b a' h'' e'' a'' d2):Be F c wb nt b a h'' e'' a'' d2:=by
 obtain⟨m1,q1,q2,q3⟩:=x.m;obtain⟨m2,q4,q5,q6⟩:=y.m;refine⟨x.x.trans y.x,y.f,m2++m1,by rw[q4,q1,List.append_assoc],?_,fun hb=>by rw[q3 hb,q6 hb];rfl⟩;exact Dm.app x.x.p.n (Nat.le_refl _) q5 (q2.ps y.x.p) fun dd hd r hr=>(q2.lt dd hd r hr).1
theorem aRf:jH F q nt fn .skip e h ⟨.n,e,h⟩:=fun c _ a f _ _ _ _ _=>⟨a,c,Be.refl f,.one stepR_skip⟩
theorem aPd{l:Nat}:jH F q nt fn (.label l) e h ⟨.n,e,h⟩:=fun c _ a f _ _ _ _ _=>⟨a,c,Be.refl f,.one stepR_label⟩
theorem aRg{id:Nat}:jH F q nt fn (.exit id) e h ⟨.x id,e,h⟩:=fun c _ a f _ k _ _ _=>⟨a,c,Be.refl f,k,rfl,.refl _ _⟩
theorem aTc:jH F q nt fn .ret e h ⟨.r,e,h⟩:=fun c _ a f _ k _ _ _=>⟨a,c,Be.refl f,k,.refl _ _⟩
theorem aTd{x y:Code}{r:R}(hex:kH F ex)(hx:(ob (ex q nt fn x e h) (nY ex q nt fn y))=some r):jH F q nt fn (.seq x y) e h r:=by
 obtain⟨r1,h1,h2⟩:=aA.1 hx;intro c wb a f b k cs hb hq;obtain⟨a1,d1,B1,A1⟩:=hex _ _ _ _ _ _ _ h1 c wb a f b (.code y::k) cs hb hq;obtain⟨x1,e1,g1⟩:=r1;cases x1 with
 |n=>
  obtain⟨a2,d2,B2,A2⟩:=hex _ _ _ _ _ _ _ h2 d1 wb a1 B1.f b k cs hb hq;exact⟨a2,d2,B1.trans B2,.of_steps (.head stepR_seq A1) A2⟩
 |x id=>
  injection h2 with h2;subst h2;obtain⟨k1,q1,q2⟩:=A1;exact⟨a1,d1,B1,k1,q1.trans (exitTo_plain rfl id k),.head stepR_seq q2⟩
 |r=>
  injection h2 with h2;subst h2;obtain⟨k1,q2⟩:=A1;exact⟨a1,d1,B1,k1,.head stepR_seq q2⟩
theorem aRh{g:Operand}{x y:Code}{r:R}(hex:kH F ex)(hx:(ob (ev e g) fun v=>one v (aBT ex q nt fn x y e h))=some r):jH F q nt fn (.cond g x y) e h r:=by
 obtain⟨v,h1,h2⟩:=aA.1 hx;obtain⟨s,rfl,h3⟩:=aL.1 h2;unfold aBT at h3;split at h3
 ·rename_i t;intro c wb a f b k cs hb hq;have hg:a.eval g=.bool t:=aF.1 (bJ f.t h1);obtain⟨a1,d1,B1,A1⟩:=hex _ _ _ _ _ _ _ h3 c wb a f b k cs hb hq;refine⟨a1,d1,B1,.of_steps (.one (stepR_cond hg)) ?_⟩;rw[bU]at A1;exact A1
 ·cases h3
theorem aPe{id:Nat}{x:Code}{r:R}(hex:kH F ex)(hx:(ob (ex q nt fn x e h) (zC id))=some r):jH F q nt fn (.block id x) e h r:=by
 obtain⟨r1,h1,h2⟩:=aA.1 hx;intro c wb a f b k cs hb hq;obtain⟨a1,d1,B1,A1⟩:=hex _ _ _ _ _ _ _ h1 c wb a f b (.inBlock id::k) cs hb hq;obtain⟨x1,e1,g1⟩:=r1;cases x1 with
 |n=>
  injection h2 with h2;subst h2;exact⟨a1,d1,B1,.head stepR_block (Steps.trans A1 (.one stepR_inBlock))⟩
 |x j=>
  obtain⟨k1,q1,q2⟩:=A1;have h5:cb (Nat.beq id j) (some ⟨.n,e1,g1⟩) (some ⟨.x j,e1,g1⟩)=some r:=h2;rw[bU]at h5;split at h5<;>rename_i hj
  ·have hj:=aM.1 hj;subst hj;injection h5 with h5;subst h5;refine⟨a1,d1,B1,.head stepR_block (Steps.trans q2 (.one (stepR_exit (q1.trans ?_))))⟩;simp[exitTo]
  ·injection h5 with h5;subst h5;refine⟨a1,d1,B1,k1,q1.trans ?_,.head stepR_block q2⟩;have:(id == j)=false:=by
     have:=fun e=>hj (aM.2 e);simpa using this
   simp[exitTo,this]
 |r=>
  injection h2 with h2;subst h2;obtain⟨k1,q2⟩:=A1;exact⟨a1,d1,B1,k1,.head stepR_block q2⟩
def zI(F:Cf)(q:Bool)(nt fn:Nat)(cd:Code)(e:Env)(h:H)(r:R):Prop:=
 ∀(c:Cx) (wb:World) (a:Act),Fr F c wb nt h e a→∀(b:Frame) (k:List Item) (cs:List Frame),b.fn=fn→(q=false→b.roundOf=none)→
  ∃a' d,Be F c wb nt b a r.h r.e a' d∧Arr F.P (lone (b.atR a (.code cd::.inLoop cd::k)) cs c.w) b k cs r.x a' d.w
theorem x_loop'{x:Code}{r:R}(hex:kH F ex)(hrest:∀e h r,ex q nt fn (.loop x) e h=some r→zI F q nt fn x e h r)(hx:(ob (ex q nt fn x e h) (nY ex q nt fn (.loop x)))=some r):zI F q nt fn x e h r:=by
 obtain⟨r1,h1,h2⟩:=aA.1 hx;intro c wb a f b k cs hb hq;obtain⟨a1,d1,B1,A1⟩:=hex _ _ _ _ _ _ _ h1 c wb a f b (.inLoop x::k) cs hb hq;obtain⟨x1,e1,g1⟩:=r1;cases x1 with
 |n=>
  obtain⟨a2,d2,B2,A2⟩:=hrest _ _ _ h2 d1 wb a1 B1.f b k cs hb hq;exact⟨a2,d2,B1.trans B2,.of_steps (Steps.trans A1 (.one stepR_inLoop)) A2⟩
 |x id=>
  injection h2 with h2;subst h2;obtain⟨k1,q1,q2⟩:=A1;exact⟨a1,d1,B1,k1,q1.trans (exitTo_plain rfl id k),q2⟩
 |r=>
  injection h2 with h2;subst h2;obtain⟨k1,q2⟩:=A1;exact⟨a1,d1,B1,k1,q2⟩
theorem zI.code{x:Code}{r:R}(hl:zI F q nt fn x e h r):jH F q nt fn (.loop x) e h r:=fun c wb a f b k cs hb hq=>
 let ⟨a1,d1,B1,A1⟩:=hl c wb a f b k cs hb hq
 ⟨a1,d1,B1,.of_steps (.one stepR_loop) A1⟩
end
section
variable {F:Cf} {c d:Cx} {wb:World} {h h':H} {q:Bool} {nt fn:Nat} {e e':Env} {a a':Act} {b:Frame} {ex:dO} {P:Program}
theorem aE1:∀{l:List AV} {k:Nat} {e e':Env},qQ nt l k e=some e'→(l≠[]→k+l.length≤nt)∧∀j v,e'.get j=some v→(∃i,l[i]? =some v∧j=k+i)∨((∀i,i<l.length→j≠k+i)∧e.get j=some v)
 | [],k,e,e',h=>by
   injection h with h;subst h;exact⟨fun h=>absurd rfl h,fun j v hv=>.inr ⟨fun i hi=>by simp at hi,hv⟩⟩
 |x::l,k,e,e',h=>by
  have e1:qQ nt (x::l) k e=cb (Nat.blt k nt) (qQ nt l (Nat.succ k) (e.set x k)) none:=rfl;rw[e1]at h;obtain⟨h1,h2⟩:=aD.1 h;have h1:=aP.1 h1;obtain⟨h3,h4⟩:=aE1 h2;refine⟨fun _=>?_,fun j v hv=>?_⟩
  ·by_cases hl:l=[]
   ·subst hl;simp;omega
   ·have:=h3 hl;simp;omega
  ·rcases h4 j v hv with⟨i,h5,h6⟩|⟨h5,h6⟩
   ·exact .inl ⟨i+1,by simpa using h5,by omega⟩
   ·rcases T.get_set h6 with⟨rfl,rfl⟩|⟨h7,h8⟩
    ·exact .inl ⟨0,rfl,rfl⟩
    ·refine .inr ⟨fun i hi=>?_,h8⟩;cases i with
     |zero=>exact h7
     |succ i=>have:=h5 i (by simpa using hi);omega
theorem aE2:∀{n k:Nat} {e:Env} {j:Nat} {v:AV},(fill n k e).get j=some v→(v=un∧k≤j∧j<k+n)∨e.get j=some v
 |0,k,e,j,v,h=>.inr h
 |n+1,k,e,j,v,h=>by
  have e1:fill (n+1) k e=fill n (Nat.succ k) (e.set un k):=rfl;rw[e1]at h;rcases aE2 h with⟨h1,h2,h3⟩|h1
  ·exact .inl ⟨h1,by omega,by omega⟩
  ·rcases T.get_set h1 with⟨h2,h3⟩|⟨_,h3⟩
   ·exact .inl ⟨h3,by omega,by omega⟩
   ·exact .inr h3
theorem VL.len:∀{l:List AV} {r:List Value},VL c l r→r.length=l.length
 | [],[],_=>rfl
 |_::_,_::_,h=>by simp[VL.len h.2]
theorem VL.at_:∀{l:List AV} {r:List Value} {j:Nat} {x:AV},VL c l r→l[j]? =some x→∃v,r[j]? =some v∧VR c x v
 | [],[],_,_,_,h=>by simp at h
 |y::_,v::_,0,x,h,hx=>by simp at hx;subst hx;exact⟨v,rfl,h.1⟩
 |_::_,_::_,j+1,x,h,hx=>by
  obtain⟨v,h1,h2⟩:=VL.at_ (j:=j) h.2 (by simpa using hx);exact⟨v,by simpa using h1,h2⟩
theorem VL.app:∀{l m:List AV} {r s:List Value},VL c l r→VL c m s→VL c (l++m) (r++s)
 | [],_,[],_,_,k=>k
 |_::_,_,_::_,_,h,k=>⟨h.1,VL.app h.2 k⟩
theorem aMv{args:List AV}{vs:List Value}(ha:qQ nt args 0 (fill nt 0 .lf)=some e)(hv:VL c args vs):Tr c nt e (vs.toArray++Array.replicate (nt-vs.toArray.size) undef):=by
 obtain⟨h1,h2⟩:=aE1 ha;have hl:=hv.len;have hle:vs.length≤nt:=by
  by_cases hn:args=[]
  ·subst hn;simp at hl;rw[hl];exact Nat.zero_le _
  ·have:=h1 hn;omega
 refine⟨by simp;omega,fun k v hk=>?_⟩;rcases h2 k v hk with⟨i,h3,h4⟩|⟨h3,h4⟩
 ·obtain⟨u,h5,h6⟩:=hv.at_ h3;have hi:i<vs.length:=(List.getElem?_eq_some_iff.1 h5).1;refine⟨u,?_,h6⟩;rw[Array.getElem?_append_left (by simp;omega)];simpa [h4] using h5
 ·rcases aE2 h4 with⟨rfl,h5,h6⟩|h5
  ·refine⟨undef,?_,xD⟩;have hk2:vs.length≤k:=by
    rcases Nat.lt_or_ge k args.length with hlt|hge
    ·exact absurd (Nat.zero_add k).symm (h3 k hlt)
    ·omega
   rw[Array.getElem?_append_right (by simpa using hk2),Array.getElem?_replicate,if_pos];simp only[List.size_toArray];omega
  ·rw[T.get_lf]at h5;cases h5
theorem aJ9{w:World}{g:Nat}{o o':Obj}(hg:w.heap[g]? =some o)(hc:∀cs t fr,o≠.cells cs t fr){v:Value}{N:Nat}(hv:Nm w v N):Nm (w.putObj g o') v N:=by
 obtain⟨A,k,ws,h1,h2,h3,h4,h5⟩:=hv;refine⟨A,k,ws,h1,h2,fun hw=>?_,h4,h5⟩;obtain⟨b,o2,e,hlt,hcell⟩:=h3 hw;have hne:b≠g:=by
  intro e2;have h6:=hcell 0 _ (List.getElem?_eq_getElem hw);unfold World.cell? at h6;rw[e2,hg]at h6;cases o with
  |cells cs t fr=>exact hc _ _ _ rfl
  |_=>cases h6
 exact⟨b,o2,e,by rw[World.putObj_size];exact hlt,fun j u hu=>(pR (p:=⟨b,o2+j,none⟩) (World.putObj_heap_other hne)).trans (hcell j u hu)⟩
theorem aKa{w:World}{g:Nat}{o o':Obj}(hg:w.heap[g]? =some o)(hc:∀cs t fr,o≠.cells cs t fr){v:Value}{N:Nat}(hv:Nr w v N):Nr (w.putObj g o') v N:=by
 obtain⟨A,k,ws,h1,h2,h3,h4,h5⟩:=hv;refine⟨A,k,ws,h1,h2,fun hw=>?_,h4,h5⟩;obtain⟨ad,e,hlt,hcell,cs,fr,hb⟩:=h3 hw;have hne:ad.block≠g:=fun e2=>by
  rw[e2,hg]at hb;injection hb with hb;exact hc _ _ _ hb
 exact⟨ad,e,by rw[World.putObj_size];exact hlt,fun j d hd=>(pR (p:=ad.add j) (by unfold Addr.add;split<;>exact World.putObj_heap_other hne)).trans (hcell j d hd),cs,fr,(World.putObj_heap_other hne).trans hb⟩
def Cx.obj(c:Cx)(g:Nat)(o:Obj):Cx:=⟨c.n,c.k,c.r,c.w.putObj g o,c.z⟩
theorem aKb{g:Nat}{o o':Obj}(hg:c.w.heap[g]? =some o)(hc:∀cs t fr,o≠.cells cs t fr):Xs c (c.obj g o'):=
 ⟨fun _ h=>h,fun _ _=>rfl,fun _ _ hv=>aJ9 hg hc hv,fun _ _ hv=>aKa hg hc hv,fun k t cs fr hk=>⟨cs,by
  show (c.w.putObj g o').heap[k]? =_;rw[World.putObj_heap_other (fun e=>by rw[e,hg]at hk;injection hk with hk;exact hc _ _ _ hk)];exact hk,rfl⟩,rfl⟩
theorem aNN{w0 w:World}{g:Nat}{o:Obj}(hq:Q w0 w)(hg:w0.heap.size≤g):Q w0 (w.putObj g o):=
 ⟨hq.os,hq.tape,hq.output,by rw[World.putObj_size];exact hq.size,fun k hk=>(World.putObj_heap_other (by omega)).trans (hq.block k hk)⟩
theorem Rl.obj(hr:Rl c wb h){g:Nat}{o o':Obj}(hg:c.w.heap[g]? =some o)(hc:∀cs t fr,o≠.cells cs t fr)(hl:∃x,o=.deferred x)(hwb:wb.heap.size≤g):Rl (c.obj g o') wb h:=by
 have hoth:∀k,k≠g→(c.obj g o').w.heap[k]? =c.w.heap[k]? :=fun k hk=>World.putObj_heap_other hk;have hne:∀{b:B} {k:Nat},Bl c b k→k≠g:=fun {b k} hb e=>by
  obtain⟨row,tail,h1,-⟩:=hb;subst e;unfold Bx at h1;rw[h1]at hg;injection hg with hg;exact hc _ _ _ hg.symm
 have hnl:∀{p:Lp} {k:Nat},LpR c p k→k≠g:=fun {p k} hb e=>by
  obtain⟨rc,h1,-,h2,-⟩:=hb;subst e;rw[h1]at hg;injection hg with hg;obtain⟨x,hl⟩:=hl;exact h2 x (hg.trans hl)
 have X:Xs c (c.obj g o'):=aKb hg hc
 exact⟨hr.n,hr.k,aNN hr.q hwb,fun id b hi=>⟨(hr.blk id b hi).1,fun hh=>((hr.blk id b hi).2 hh).xs X (hoth _ (hne ((hr.blk id b hi).2 hh)))⟩,hr.inj,hr.new,
  fun l p hl=>⟨(hr.lp l p hl).1,fun q=>⟨((hr.lp l p hl).2 q).1.xs X (hoth _ (hnl ((hr.lp l p hl).2 q).1)),((hr.lp l p hl).2 q).2⟩⟩,hr.li⟩
theorem aKc{fr:Frame}{cs:List Frame}{w:World}{r:Nat}{ds:List Deferred}(hm:fr.mode=.returning)(hd:fr.defers={target:=.collected r,args:=#[]}::ds)(hg:w.heap[r]? =some (.deferred (some []))):
  step P (lone fr cs w)=.next (lone {fr with defers:=ds} cs (w.putObj r (.deferred none))):=
 step_lone_go (by simp[stepG,unwind,hm,hd,Sem.runT_eq,run_takeDeferred hg,GStep.bare_after])
theorem takes{w0:World}:∀{ms:List Deferred} {c:Cx} {fr:Frame} {cs:List Frame},Rl c wb h→fr.mode=.returning→fr.defers=ms→Dm w0.heap.size c.w ms→wb.heap.size≤w0.heap.size→Q w0 w0→∃d,Xs c d∧Rl d wb h∧d.w.heap.size=c.w.heap.size∧(∀k,k<w0.heap.size→d.w.heap[k]? =c.w.heap[k]?)∧d.n=c.n∧d.k=c.k∧Steps P (lone fr cs c.w) (lone {fr with defers:=[]} cs d.w)
 | [],c,fr,cs,hr,hm,hd,_,_,_=>⟨c,⟨fun _ h=>h,fun _ _=>rfl,fun _ _ h=>h,fun _ _ h=>h,fun _ _ cs _ h=>⟨cs,h,rfl⟩,rfl⟩,hr,rfl,fun _ _=>rfl,rfl,rfl,by rw[←hd];exact .refl _ _⟩
 |m::ms,c,fr,cs,hr,hm,hd,⟨⟨r,h1,h2,h3,h4⟩,h5⟩,hwb,hq=>by
  subst h1;have hs:=aKc (P:=P) (cs:=cs) hm hd h3;have X:Xs c (c.obj r (.deferred none)):=aKb h3 (fun _ _ _ e=>by cases e);have R:=hr.obj (o':=.deferred none) h3 (fun _ _ _ e=>by cases e) ⟨_,rfl⟩ (Nat.le_trans hwb h2);have h5':∀{l:List Deferred},(∀d'∈l,∀r',d'.target=.collected r'→r'≠r)→Dm w0.heap.size c.w l→Dm w0.heap.size (c.obj r (.deferred none)).w l:=fun {l}=>by
    induction l with
    |nil=>intro _ _;trivial
    |cons x l ih=>
     rintro hne ⟨⟨r2,k1,k2,k3,k4⟩,k5⟩;refine⟨⟨r2,k1,k2,?_,k4⟩,ih (fun d' hd'=>hne d' (List.mem_cons_of_mem _ hd')) k5⟩;have:=hne x (List.mem_cons_self ..) r2 (by rw[k1]);exact (World.putObj_heap_other this).trans k3
  obtain⟨d,q1,q2,q3,q4,q5,q7,q6⟩:=takes (fr:={fr with defers:=ms}) (cs:=cs) R hm rfl (h5' h4 h5) hwb hq;refine⟨d,⟨fun id hi=>q1.k id (X.k id hi),fun id hi=>(q1.r id hi).trans (X.r id hi),fun v N hv=>q1.m v N (X.m v N hv),fun v N hv=>q1.mr v N (X.mr v N hv),fun g t cs fr hg=>?_,q1.z.trans X.z⟩,q2,q3.trans (World.putObj_size),fun k hk=>(q4 k hk).trans (World.putObj_heap_other (by omega)),q5,q7,.head hs q6⟩;obtain⟨cs1,k1,k2⟩:=X.s g t cs fr hg;obtain⟨cs2,k3,k4⟩:=q1.s g t cs1 fr k1;exact⟨cs2,k3,k4.trans k2⟩
end
section
variable {F:Cf} {c d:Cx} {wb:World} {h h':H} {q:Bool} {nt fn:Nat} {e e':Env} {a a':Act} {b:Frame} {ex:dO}
theorem aB3{v:AV}{p:Bool × List SV}(h:fP v=some p):v=.c p.1 p.2:=by
 cases v with
 |c g l=>injection h with h;rw[←h]
 |t l=>cases h
def aDX(tm:Array Value):ResultVar→Sem Value
 | .tmp t=>pure (tm.getD t undef)
 | .cell a t=>do loadVar t (←asAddr (tm.getD a undef))
theorem aPf{tm:Array Value}{r:ResultVar}{p:Bool × List SV}(hr:Rl d wb h)(ht:Tr d nt e tm)(hx:aBq F e h r=some p):∃u,(aDX tm r).run F.P d.w=.ok u d.w∧VC d p.1 p.2 u:=by
 cases r with
 |tmp t=>
  obtain⟨v,h1,h2⟩:=aA.1 (show (ob (e.get t) fP)=some p from hx);have h3:=aB3 h2;subst h3;obtain⟨u,h4,h5⟩:=ht.2 t _ h1;refine⟨u,?_,h5⟩;show Result.ok (tm.getD t undef) d.w=_;rw[Array.getD_eq_getD_getElem?,h4];rfl
 |cell x t=>
  obtain⟨i,h1,h2⟩:=aA.1 (show (ob (F.ti t) _)=some p from hx);obtain⟨v,h3,h4⟩:=aA.1 h2;obtain⟨s,rfl,h5⟩:=aL.1 h4;split at h5
  ·rename_i id off;obtain⟨l,h6,h7⟩:=aA.1 h5;obtain⟨v2,h8,h9⟩:=aA.1 h7;have h10:=aB3 h9;subst h10;obtain⟨u0,k1,k2⟩:=ht.2 x _ h3;obtain⟨hkn,rfl⟩:=aF.1 k2;obtain⟨vs,hc,hl,hcell⟩:=aIl hr hkn h6;obtain⟨u,hu,k3,k4⟩:=aIn h8 hc;refine⟨u,?_,hu⟩;have k5:tm.getD x undef=.pointer (some ⟨d.r id,off,none⟩):=(by rw[Array.getD_eq_getD_getElem?,k1];rfl);simp only[aDX,k5,asAddr,Sem.run_bind,Sem.run_pure,Result.andThen_ok];exact aG5 (aO h1) hl hcell k3 k4
  ·cases h5
theorem aKd{tm:Array Value}(hr:Rl d wb h)(ht:Tr d nt e tm):∀{l:List ResultVar} {ps:List (Bool × List SV)},res F e h l=some ps→∃vs,(l.mapM (aDX tm)).run F.P d.w=.ok vs d.w∧TL d ps vs
 | [],ps,hx=>by injection hx with hx;subst hx;exact⟨[],rfl,trivial⟩
 |r::l,ps,hx=>by
  have e1:res F e h (r::l)=ob (aBq F e h r) fun v=>ob (res F e h l) fun l=>some (v::l):=rfl;rw[e1]at hx;obtain⟨p,h1,h2⟩:=aA.1 hx;obtain⟨ps2,h3,h4⟩:=aA.1 h2;injection h4 with h4;subst h4;obtain⟨u,h5,h6⟩:=aPf hr ht h1;obtain⟨vs,h7,h8⟩:=aKd hr ht h3;refine⟨u::vs,?_,h6,h8⟩;simp only[List.mapM_cons,Sem.run_bind,h5,Result.andThen_ok,h7,Sem.run_pure]
theorem aIt{tm:Array Value}{G:Func}{ps:List (Bool × List SV)}(hr:Rl d wb h)(ht:Tr d nt e tm)(hx:res F e h G.results.toList=some ps):∃u,(results G tm).run F.P d.w=.ok u d.w∧VR d (tup ps) u:=by
 obtain⟨vs,h1,h2⟩:=aKd hr ht hx;have e1:results G tm=(do let vs ←G.results.mapM (aDX tm);pure (if h:vs.size=1 then vs[0] else .tuple vs)):=by
  unfold results;rfl
 rw[e1,Sem.run_bind,Array.mapM_eq_mapM_toList,Sem.run_map,h1];simp only[Result.andThen_ok,Sem.run_pure]
 match ps,vs,h2 with
 | [],[],_=>exact⟨.tuple #[],rfl,[],rfl,trivial⟩
 | [p],[u],h2=>exact⟨u,rfl,h2.1⟩
 |p::p2::ps,u::u2::vs,h2=>
  exact⟨.tuple (u::u2::vs).toArray,rfl,_,rfl,h2⟩
def CR(F:Cf)(fn:Nat)(vs:List Value)(c:Cx)(wb:World)(v:AV)(h':H):Prop:=
 Calls F.P fn vs.toArray c.w fun e w'=>∃u d,e=.returned u∧d.w=w'∧Xt c d∧Rl d wb h'∧VR d v u
theorem aE3{G:Func}{cd:Code}{args:List AV}{vs:List Value}{v:AV}(hex:kH F ex)(hG:F.P.funcs[fn]? =some G)(hB:G.body=some cd)(hx:mJ F ex G cd fn args h=some (v,h'))(hr:Rl c wb h)(hz:∀t,c.z t=F.P.cellsOf t)(hb0:F.tb wb)(ha:VL c args vs):CR F fn vs c wb v h':=by
 obtain⟨e0,h1,h2⟩:=aA.1 hx;obtain⟨r,h3,h4⟩:=aA.1 h2;intro cs;obtain⟨b,hb⟩:∃b:Frame,b={fn:=fn,tmps:=#[],todo:=[],defers:=[],mode:=.run,kind:=.normal}:=⟨_,rfl⟩
 have hb1:b.fn=fn:=by rw[hb]
 have hb2:b.roundOf=none:=by rw[hb]
 have hb3:b.kind=.normal:=by rw[hb]
 obtain⟨a0,ha0⟩:∃a0:Act,a0={tmps:=vs.toArray++Array.replicate (G.ntmps-vs.toArray.size) undef,defers:=[]}:=⟨_,rfl⟩
 have henter:Frame.enter F.P fn vs.toArray .normal=b.atR a0 [.code cd]:=by
  rw[hb,ha0];simp[Frame.enter,Frame.atR,hG,hB]
 have hf:Fr F c wb G.ntmps h e0 a0:=⟨hr,hz,by rw[ha0];exact aMv h1 ha,hb0⟩
 obtain⟨a1,d1,B1,A1⟩:=hex _ _ _ _ _ _ _ h3 c wb a0 hf b [] cs hb1 (fun _=>hb2);obtain⟨ms,hm1,hm2,-⟩:=B1.m;rw[ha0,List.append_nil]at hm1;have key:∀(ps:List (Bool × List SV)),res F r.e r.h G.results.toList=some ps→v=tup ps→h'=r.h→(∃todo,Steps F.P (lone (b.atR a0 [.code cd]) cs c.w) (lone {b.atR a1 todo with mode:=.returning} cs d1.w))→∃e w' fr,(∃u d,e=.returned u∧d.w=w'∧Xt c d∧Rl d wb h'∧VR d v u)∧Comes F.P (lone (Frame.enter F.P fn vs.toArray .normal) cs c.w) (lone fr cs w') e∧fr.fn=fn∧fr.leaving F.P w' e:=by
  rintro ps hps rfl rfl ⟨todo,hs⟩;obtain⟨d2,q1,q2,q3,q4,q5,q7,q6⟩:=takes (P:=F.P) (w0:=c.w) (fr:={b.atR a1 todo with mode:=.returning}) (cs:=cs) B1.f.r rfl (show a1.defers=ms from hm1) hm2 hr.size (Q.refl _);have ht2:Tr d2 G.ntmps r.e a1.tmps:=B1.f.t.xs q1;obtain⟨u,k1,k2⟩:=aIt q2 ht2 hps
  have X:Xt c d2:=⟨by rw[q5];exact B1.x.n,fun id hi=>q1.k id (B1.x.k id hi),fun id hi=>B1.x.o id (by rw[←q7];exact hi),fun id hi=>(q1.r id (B1.x.k id hi)).trans (B1.x.r id hi),
   ⟨fun v N hv=>q1.m v N (B1.x.p.m v N hv),fun v N hv=>q1.mr v N (B1.x.p.mr v N hv),fun g t cs fr hg=>(by
    obtain⟨cs1,m1,m2⟩:=B1.x.p.s g t cs fr hg;obtain⟨cs2,m3,m4⟩:=q1.s g t cs1 fr m1;exact⟨cs2,m3,m4.trans m2⟩),by rw[q3];exact B1.x.p.n,fun g hg=>(q4 g (Array.getElem?_eq_some_iff.1 hg).1).trans (B1.x.p.d g hg)⟩,q1.z.trans B1.x.z⟩
  refine⟨.returned u,d2.w,{({b.atR a1 todo with mode:=.returning}:Frame) with defers:=[]},⟨u,d2,rfl,rfl,X,q2,k2⟩,?_,?_,?_⟩
  rotate_left
  rotate_left
  ·exact⟨rfl,rfl,hb3,G,by show F.P.funcs[b.fn]? =some G;rw[hb1];exact hG,k1⟩
  ·rw[henter];exact hs.trans q6
  ·exact hb1
 unfold leave at h4;obtain⟨x,e1,g1⟩:=r;cases x with
 |x id=>cases h4
 |n=>
  obtain⟨ps,h5,h6⟩:=aA.1 h4;injection h6 with h6;injection h6 with h6 h7;exact key ps h5 h6.symm h7.symm ⟨[],Steps.trans A1 (.one (stepR_end hb2))⟩
 |r=>
  obtain⟨ps,h5,h6⟩:=aA.1 h4;injection h6 with h6;injection h6 with h6 h7;obtain⟨k1,hs⟩:=A1;exact key ps h5 h6.symm h7.symm ⟨_,Steps.trans hs (.one (stepR_ret hb2))⟩
end
structure FOk (F:Cf):Prop where
 ng:∀(f:Nat) (G:Func),F.P.funcs[f]? =some G→(G.name == "runtime.NumGoroutine")=false
 tq:∀w w',Q w w'→F.tb w→F.tb w'
 pr:∀(fn:Nat) (g:List AV→Option AV) (args:List AV) (v:AV),F.pr fn=some g→g args=some v→∀(c:Cx) (vs:List Value),F.tb c.w→VL c args vs→
  Calls F.P fn vs.toArray c.w fun e w'=>∃u,e=.returned u∧Q c.w w'∧VR ⟨c.n,c.k,c.r,w',c.z⟩ v u
 ro:aMj F
 ln:aMt F
 ph:∀(fn:Nat) (g:H→List AV→Option AV) (h:H) (args:List AV) (v:AV),F.ph fn=some g→g h args=some v→∀(c:Cx) (wb:World) (vs:List Value),Rl c wb h→(∀t,c.z t=F.P.cellsOf t)→F.tb c.w→VL c args vs→
  Calls F.P fn vs.toArray c.w fun e w'=>∃u,e=.returned u∧Q c.w w'∧VR ⟨c.n,c.k,c.r,w',c.z⟩ v u
section
variable {F:Cf} {c d:Cx} {wb:World} {h h':H} {q:Bool} {nt fn:Nat} {e e':Env} {a a':Act} {b:Frame} {ex:dO} {o:Oper} {ops:Array Oper} {i:Nat} {v:AV}
def qH(F:Cf)(nt:Nat)(ops:Array Oper)(i:Nat)(o:Oper)(e:Env)(h:H)(v:AV)(h':H):Prop:=
 ∀(c:Cx) (wb:World) (a:Act),Fr F c wb nt h e a→Region.wanted o (yielded ops a.tmps)=true→∀(b:Frame) (rest:List Nat) (k:List Item) (cs:List Frame),
  ∃u d,Xt c d∧Rl d wb h'∧VR d v u∧Steps F.P (lone (b.atR a (.inRegion ops (i::rest)::k)) cs c.w) (lone (b.atR (a.put o.dst u) (.inRegion ops rest::k)) cs d.w)
theorem fin(ho:ops[i]? =some o){rest:List Nat}{k:List Item}{u:Value}:(b.atR a (.inRegion ops (i::rest)::k)).finish u=b.atR (a.put o.dst u) (.inRegion ops rest::k):=by
 rw[Frame.finish_atR,ho];rfl
theorem aMw{P:Program}(ho:ops[i]? =some o)(hw:Region.wanted o (yielded ops a.tmps)=true)(hnd:∀c,o.op≠.defer c){w w':World}{u:Value}(hr:OpR P a.eval o w u w'){rest:List Nat}{k:List Item}{cs:List Frame}:
  step P (lone (b.atR a (.inRegion ops (i::rest)::k)) cs w)=.next (lone (b.atR (a.put o.dst u) (.inRegion ops rest::k)) cs w'):=by
 have hg:=stepGR_op (P:=P) (b:=b) (k:=k) (cs:=cs) (w:=w) (rest:=rest) ho hw;rw[Oper.semAt_eq _ _ _ hnd]at hg;refine step_lone_go ?_;rw[hg,←fin (k:=k) ho];rcases hr with hr|⟨hr,rfl⟩
 ·simp[stepG.apply,Sem.runT_eq,hr,GStep.bare_after]
 ·simp[stepG.apply,Sem.runT_eq,hr,GStep.bare_after]
theorem dJ(ho:ops[i]? =some o)(hnd:∀c,o.op≠.defer c)(hx:∀(c:Cx) (wb:World) (a:Act),Fr F c wb nt h e a→∃u w',OpR F.P a.eval o c.w u w'∧Po c wb h' v u w'):qH F nt ops i o e h v h':=by
 intro c wb a f hw b rest k cs;obtain⟨u,w',h1,d,rfl,X,R,V⟩:=hx c wb a f;exact⟨u,d,X,R,V,.one (aMw ho hw hnd h1)⟩
theorem aCR(ho:ops[i]? =some o){f0:Nat}{args:Array Value}(hnd:∀c,o.op≠.defer c)(hw:Region.wanted o (yielded ops a.tmps)=true)(hrun:(execOp a.eval o).run F.P c.w=.ok (.enter f0 args) c.w)(hc:Calls F.P f0 args c.w fun e w'=>∃u d,e=.returned u∧d.w=w'∧Xt c d∧Rl d wb h'∧VR d v u)
  {rest:List Nat} {k:List Item} {cs:List Frame}:∃u d,Xt c d∧Rl d wb h'∧VR d v u∧Steps F.P (lone (b.atR a (.inRegion ops (i::rest)::k)) cs c.w) (lone (b.atR (a.put o.dst u) (.inRegion ops rest::k)) cs d.w):=by
 have hg:=stepGR_op (P:=F.P) (b:=b) (k:=k) (cs:=cs) (w:=c.w) (rest:=rest) ho hw;rw[Oper.semAt_eq _ _ _ hnd]at hg;obtain⟨e,w',fr,⟨u,d,rfl,rfl,X,R,V⟩,hs,hfn,hl⟩:=hc (b.atR a (.inRegion ops (i::rest)::k)::cs);have henter:step F.P (lone (b.atR a (.inRegion ops (i::rest)::k)) cs c.w)=.next (lone (Frame.enter F.P f0 args .normal) (b.atR a (.inRegion ops (i::rest)::k)::cs) c.w):=
  step_lone_go (by rw[hg];simp[stepG.apply,Sem.runT_eq,hrun,Frame.atR,GStep.bare_after])
 refine⟨u,d,X,R,V,.head henter (Steps.trans hs (.one ?_))⟩;rw[←fin (k:=k) ho];exact step_leave_returned hl
theorem aHe{cs:List (Nat × Nat)}(h:∀p∈cs,c.k p.1):VL c (uU cs) (cs.map (ptr c)):=by
 induction cs with
 |nil=>trivial
 |cons p cs ih=>exact⟨aF.2 ⟨h p (List.mem_cons_self ..),rfl⟩,ih fun q hq=>h q (List.mem_cons_of_mem _ hq)⟩
theorem Rl.q'(hr:Rl c wb h){w':World}(hq:Q c.w w'):Xt c ⟨c.n,c.k,c.r,w',c.z⟩∧Rl ⟨c.n,c.k,c.r,w',c.z⟩ wb h:=by
 have X:Xt c ⟨c.n,c.k,c.r,w',c.z⟩:=⟨Nat.le_refl _,fun _ h=>h,fun _ h=>.inl h,fun _ _=>rfl,Ps.q hq,rfl⟩
 exact⟨X,hr.n,hr.k,hr.q.trans hq,fun id b hg=>⟨(hr.blk id b hg).1,fun hc=>((hr.blk id b hg).2 hc).xt X (hq.heap ((hr.blk id b hg).2 hc).lt)⟩,hr.inj,hr.new,
  fun l p hl=>⟨(hr.lp l p hl).1,fun q=>⟨((hr.lp l p hl).2 q).1.xt X (hq.heap ((hr.lp l p hl).2 q).1.lt),((hr.lp l p hl).2 q).2⟩⟩,hr.li⟩
theorem jO(hF:FOk F)(hex:kH F ex){args:List AV}{vs:List Value}(hx:fU F ex fn args h=some (v,h'))(hr:Rl c wb h)(hz:∀t,c.z t=F.P.cellsOf t)(hb:F.tb wb)(ha:VL c args vs):
  (∃G,F.P.funcs[fn]? =some G∧G.body.isSome=true)∧CR F fn vs c wb v h':=by
 obtain⟨G,h1,h2⟩:=aA.1 hx;obtain⟨cd,h3,h4⟩:=aA.1 h2;refine⟨⟨G,h1,by rw[h3];rfl⟩,?_⟩;cases hp:F.pr fn with
 |none=>
  rw[hp]at h4;have h4:Option.rec (motive:=fun _=>Option VH) (mJ F ex G cd fn args h) (fun g=>Option.rec (motive:=fun _=>Option VH) (mJ F ex G cd fn args h) (fun v=>some (v,h)) (g h args)) (F.ph fn)=some (v,h'):=h4;cases hq:F.ph fn with
  |none=>
   rw[hq]at h4;exact aE3 hex h1 h3 h4 hr hz hb ha
  |some g=>
   rw[hq]at h4;have h4:Option.rec (motive:=fun _=>Option VH) (mJ F ex G cd fn args h) (fun v=>some (v,h)) (g h args)=some (v,h'):=h4;cases hv:g h args with
   |none=>
    rw[hv]at h4;exact aE3 hex h1 h3 h4 hr hz hb ha
   |some v1=>
    rw[hv]at h4;have h4:some (v1,h)=some (v,h'):=h4;injection h4 with h6;injection h6 with h6 h7;subst h6;subst h7;refine (hF.ph fn g h args v1 hq hv c wb vs hr hz (hF.tq _ _ hr.q hb) ha).mono ?_;rintro e w' ⟨u,rfl,hq2,hv2⟩;obtain⟨X,R⟩:=hr.q' hq2;exact⟨u,⟨c.n,c.k,c.r,w',c.z⟩,rfl,rfl,X,R,hv2⟩
 |some g=>
  rw[hp]at h4;obtain⟨v1,h5,h6⟩:=aA.1 (show (ob (g args) fun v=>some (v,h))=some (v,h') from h4);injection h6 with h6;injection h6 with h6 h7;subst h6;subst h7;refine (hF.pr fn g args v1 hp h5 c vs (hF.tq _ _ hr.q hb) ha).mono ?_;rintro e w' ⟨u,rfl,hq,hv⟩;obtain⟨X,R⟩:=hr.q' hq;exact⟨u,⟨c.n,c.k,c.r,w',c.z⟩,rfl,rfl,X,R,hv⟩
theorem nJ{P:Program}{f0:Nat}{G:Func}(hg:P.funcs[f0]? =some G)(hn:(G.name == "runtime.NumGoroutine")=false)(hb:G.body.isSome=true)(args:Array Value)(w:World):(callFunc f0 args).run P w=.ok (.enter f0 args) w:=by
 have hb':¬G.body=none:=fun e=>by rw[e]at hb;cases hb
 have hn':¬G.name="runtime.NumGoroutine":=by simpa using hn
 simp[callFunc,hg,hn',hb']
theorem aKe{P:Program}{f0:Nat}{G:Func}{g:Operand}{xs:Array Operand}{ats:Array TypeId}{dX:Array Value}(ho:o.op=.call {callee:=.value g,args:=xs,argTypes:=ats})(hv:a.eval g=.func (.func f0) #[] dX)(hg:P.funcs[f0]? =some G)(hn:(G.name == "runtime.NumGoroutine")=false)(hb:G.body.isSome=true)(w:World):
  (execOp a.eval o).run P w=.ok (.enter f0 (xs.map a.eval++dX)) w:=by
 unfold execOp;rw[ho];simp only[resolve,hv,Deferred.ofValue,Sem.run_bind,Sem.run_pure,Result.andThen_ok,invoke,Array.empty_append];exact nJ hg hn hb _ w
theorem aKf{d0:Option Nat}{α:Type}{kk:Env→Option α}{r:α}(h:put nt e d0 v kk=some r):∃e2,kk e2=some r∧∀(c:Cx) (a:Act) (u:Value),Tr c nt e a.tmps→VR c v u→Tr c nt e2 (a.put d0 u).tmps:=by
 cases d0 with
 |none=>exact⟨e,h,fun c a u ht _=>ht⟩
 |some k=>
  obtain⟨h1,h2⟩:=aD.1 (show cb (Nat.blt k nt) (kk (e.set v k)) none=some r from h);have h1:=aP.1 h1;refine⟨_,h2,fun c a u ht hv=>⟨by simpa [Act.put] using ht.1,fun j x hj=>?_⟩⟩;have hsz:=ht.1;rcases T.get_set hj with⟨rfl,rfl⟩|⟨h3,h4⟩
  ·refine⟨u,?_,hv⟩;have hlt:j<a.tmps.size:=(by omega);simp[Act.put,hlt]
  ·obtain⟨u2,k1,k2⟩:=ht.2 j x h4;refine⟨u2,?_,k2⟩;simp only[Act.put,Array.getElem?_setIfInBounds];rw[if_neg (fun e=>h3 e.symm)];exact k1
theorem aRi{x:Option AV}{w bb:Bool}(h:isB x w=some bb):∃av,x=some av∧((∃y,av=sc (.b y)∧bb=(y == w))∨(av=un∧bb=false)):=by
 obtain⟨av,h1,h2⟩:=aA.1 h;refine⟨av,h1,?_⟩;split at h2
 ·rename_i y;injection h2 with h2;refine .inl ⟨y,rfl,?_⟩;rw[←h2];cases w<;>cases y<;>rfl
 ·injection h2 with h2;exact .inr ⟨rfl,h2.symm⟩
 ·cases h2
theorem qA{bb:Bool}(hx:wanted ops.toList e o.guard=some bb)(ht:Tr c nt e a.tmps):Region.wanted o (yielded ops a.tmps)=bb:=by
 unfold Region.wanted;cases hg:o.guard with
 |none=>
  rw[hg]at hx;injection hx with hx
 |some p=>
  obtain⟨j,w⟩:=p;rw[hg]at hx;obtain⟨o2,h1,h2⟩:=aA.1 (show (ob (drp j ops.toList).head? fun o=>ob o.dst fun d=>isB (e.get d) w)=some bb from hx);obtain⟨k,h3,h4⟩:=aA.1 h2;have h5:ops[j]? =some o2:=(by simpa using dW h1);obtain⟨av,h6,h7⟩:=aRi h4;obtain⟨u,h8,h9⟩:=ht.2 k av h6;show (yielded ops a.tmps j == some w)=bb;rcases h7 with⟨y,rfl,rfl⟩|⟨rfl,rfl⟩
  ·have hu:u=.bool y:=aF.1 h9;subst hu;have:yielded ops a.tmps j=some y:=(by simp[yielded,h5,h3,h8]);rw[this];rfl
  ·obtain⟨vs,hu,hv⟩:=h9;have hv0:vs=[]:=by
     cases vs with
     |nil=>rfl
     |cons x l=>exact hv.elim
   subst hv0;subst hu;have:yielded ops a.tmps j=none:=(by simp[yielded,h5,h3,h8]);rw[this];rfl
theorem aE4{call:cZ}{r:R}(hop:∀(j:Nat) (o:Oper) (e:Env) (h:H) (v:AV) (h':H),ops[j]? =some o→op1 F call o.op e h=some (v,h')→qH F nt ops j o e h v h'):∀{l:List Oper} {j:Nat} {e:Env} {h:H},ops.toList.drop j=l→nH F nt call ops.toList l e h=some r→r.x=.n∧∀(c:Cx) (wb:World) (a:Act),Fr F c wb nt h e a→∀(b:Frame) (k:List Item) (cs:List Frame),∃a' d,Be F c wb nt b a r.h r.e a' d∧Steps F.P (lone (b.atR a (.inRegion ops (List.range' j l.length)::k)) cs c.w) (lone (b.atR a' k) cs d.w)
 | [],j,e,h,hl,hx=>by
   injection hx with hx;subst hx;exact⟨rfl,fun c wb a f b k cs=>⟨a,c,Be.refl f,.one stepR_region_end⟩⟩
 |o::l,j,e,h,hl,hx=>by
  have hj:j<ops.toList.length:=by
    rcases Nat.lt_or_ge j ops.toList.length with h1|h1
    ·exact h1
    ·rw[List.drop_eq_nil_of_le h1]at hl;cases hl
  have ho:ops[j]? =some o:=by
    have:=congrArg List.head? hl;simpa using this
  have hl2:ops.toList.drop (j+1)=l:=by
    rw[←List.tail_drop,hl];rfl
  have e1:nH F nt call ops.toList (o::l) e h=nW F nt call ops.toList (nH F nt call ops.toList l) o e h:=rfl;rw[e1]at hx;unfold nW at hx;obtain⟨bb,h1,h2⟩:=aA.1 hx;rw[bU]at h2;split at h2
  ·rename_i hbb;obtain⟨⟨v,h3⟩,h4,h5⟩:=aA.1 h2;obtain⟨e2,h6,h7⟩:=aKf h5;obtain⟨h8,h9⟩:=aE4 hop hl2 h6;refine⟨h8,fun c wb a f b k cs=>?_⟩;obtain⟨u,d,X,R,V,S⟩:=hop j o e h v h3 ho h4 c wb a f ((qA h1 f.t).trans hbb) b (List.range' (j+1) l.length) k cs;have f2:Fr F d wb nt h3 e2 (a.put o.dst u):=⟨R,fun t=>by rw[X.z];exact f.z t,h7 d a u (f.t.xt X) V,f.b⟩
   obtain⟨a',d2,B,S2⟩:=h9 d wb (a.put o.dst u) f2 b k cs;have B1:Be F c wb nt b a h3 e2 (a.put o.dst u) d:=⟨X,f2,[],by cases o.dst<;>rfl,trivial,fun _=>rfl⟩
   exact⟨a',d2,B1.trans B,S.trans S2⟩
  ·rename_i hbb;obtain⟨e2,h6,h7⟩:=aKf h2;obtain⟨h8,h9⟩:=aE4 hop hl2 h6;refine⟨h8,fun c wb a f b k cs=>?_⟩;have hw:Region.wanted o (yielded ops a.tmps)=false:=by
     rw[qA h1 f.t];cases bb<;>first|rfl|exact absurd rfl hbb
   have S:=stepR_op_skip (P:=F.P) (b:=b) (a:=a) (k:=k) (cs:=cs) (w:=c.w) (ops:=ops) (i:=j) (rest:=List.range' (j+1) l.length) (by simp[ho,hw]);simp only[ho,Option.bind_some]at S;have f2:Fr F c wb nt h e2 (a.put o.dst undef):=⟨f.r,f.z,h7 c a undef f.t xD,f.b⟩
   obtain⟨a',d2,B,S2⟩:=h9 c wb (a.put o.dst undef) f2 b k cs;have B1:Be F c wb nt b a h e2 (a.put o.dst undef) c:=⟨Xt.refl c,f2,[],by cases o.dst<;>rfl,trivial,fun _=>rfl⟩
   exact⟨a',d2,B1.trans B,.head S S2⟩
theorem aMx{id:Nat}{call:cZ}{r:R}(hop:∀(j:Nat) (o:Oper) (e:Env) (h:H) (v:AV) (h':H),ops[j]? =some o→op1 F call o.op e h=some (v,h')→qH F nt ops j o e h v h')(hx:nH F nt call ops.toList ops.toList e h=some r):jH F q nt fn (.region id ops false) e h r:=by
 obtain⟨h1,h2⟩:=aE4 hop (j:=0) (List.drop_zero) hx;intro c wb a f b k cs _ _;obtain⟨a',d,B,S⟩:=h2 c wb a f b k cs;refine⟨a',d,B,?_⟩;rw[h1];refine .head stepR_region ?_;rw[List.range_eq_range'];simpa using S
end
section
variable {F:Cf} {c d:Cx} {wb:World} {h h':H} {q:Bool} {nt fn:Nat} {e e':Env} {a a':Act} {b:Frame} {ex:dO} {v:AV} {o:Oper}
theorem aRj{w:World}{g:Nat}{o o':Obj}(hg:w.heap[g]? =some o)(hc:∀cs t fr,o≠.cells cs t fr)(hd:∀x,o≠.deferred x):Ps w (w.putObj g o'):=
 ⟨fun v N hv=>aJ9 hg hc hv,fun _ _ hv=>aKa hg hc hv,fun k t cs fr hk=>⟨cs,by
  rw[World.putObj_heap_other (fun e=>by rw[e,hg]at hk;injection hk with hk;exact hc _ _ _ hk)];exact hk,rfl⟩,by rw[World.putObj_size];exact Nat.le_refl _,fun k hk=>by
  rw[World.putObj_heap_other (fun e=>by rw[e,hg]at hk;injection hk with hk;exact hd _ hk)];exact hk⟩
theorem zJ{g:Nat}{o o':Obj}(hg:c.w.heap[g]? =some o)(hc:∀cs t fr,o≠.cells cs t fr)(hd:∀x,o≠.deferred x):Xt c (c.obj g o'):=
 ⟨Nat.le_refl _,fun _ h=>h,fun _ h=>.inl h,fun _ _=>rfl,aRj hg hc hd,rfl⟩
theorem Rl.loop(hr:Rl c wb h){l:Nat}{p p':Lp}{o o':Obj}(hl:h.l.get l=some p)(hk:c.k l)(hb:h.bar≤l)(hg:c.w.heap[c.r l]? =some o)(hc:∀cs t fr,o≠.cells cs t fr)(hd:∀x,o≠.deferred x)(hp:LpR (c.obj (c.r l) o') p' (c.r l)):
  Rl (c.obj (c.r l) o') wb (h.putLp l p'):=by
 have hwb:wb.heap.size≤c.r l:=((hr.lp l p hl).2 hk).2 hb;have X:Xt c (c.obj (c.r l) o'):=zJ hg hc hd;have hoth:∀k,k≠c.r l→(c.obj (c.r l) o').w.heap[k]? =c.w.heap[k]? :=fun k hk=>World.putObj_heap_other hk;have hne:∀{b:B} {k:Nat},Bl c b k→k≠c.r l:=fun {b k} hb e=>by
  obtain⟨row,tail,h1,-⟩:=hb;subst e;unfold Bx at h1;rw[h1]at hg;injection hg with hg;exact hc _ _ _ hg.symm
 have hold:∀{j:Nat} {p2:Lp},(h.putLp l p').l.get j=some p2→∃p3,h.l.get j=some p3:=fun {j p2} hj=>by
  rcases T.get_set hj with⟨rfl,rfl⟩|⟨h1,h2⟩
  ·exact⟨_,hl⟩
  ·exact⟨_,h2⟩
 refine⟨hr.n,hr.k,aNN hr.q hwb,fun id b hi=>⟨(hr.blk id b hi).1,fun hh=>((hr.blk id b hi).2 hh).xt X (hoth _ (hne ((hr.blk id b hi).2 hh)))⟩,hr.inj,hr.new,fun j p2 hj=>?_,fun i j p2 d2 hi hj ki kj hij=>?_⟩
 ·rcases T.get_set hj with⟨rfl,rfl⟩|⟨h1,h2⟩
  ·exact⟨(hr.lp _ p hl).1,fun _=>⟨hp,fun _=>hwb⟩⟩
  ·exact⟨(hr.lp j p2 h2).1,fun kj=>⟨((hr.lp j p2 h2).2 kj).1.xt X (hoth _ (hr.li j l p2 p h2 hl kj hk h1)),((hr.lp j p2 h2).2 kj).2⟩⟩
 ·obtain⟨p3,hi⟩:=hold hi;obtain⟨p4,hj⟩:=hold hj;exact hr.li i j p3 p4 hi hj ki kj hij
theorem Rl.itn(hr:Rl c wb h){p:Lp}{o:Obj}(hp:LpR (c.nw o) p c.w.heap.size):Rl (c.nw o) wb ⟨h.h,Nat.succ h.n,h.bar,h.l.set p h.n⟩:=by
 have hn:=hr.n;have hsz:=hr.size;have X:=aBW (c:=c) hr.k o;have hold:∀k,k<c.w.heap.size→(c.nw o).w.heap[k]? =c.w.heap[k]? :=fun k hk=>Below.heap_alloc _ _ k hk;have key:∀id p',(T.set p h.l h.n).get id=some p'→(id=h.n∧p'=p)∨(id<h.n∧h.l.get id=some p'):=fun id p' hg=>by
  rcases T.get_set hg with⟨h1,h2⟩|⟨h1,h2⟩
  ·exact .inl ⟨h1,h2⟩
  ·exact .inr ⟨(hr.lp id p' h2).1,h2⟩
 have kk:∀{id},id<h.n→(c.nw o).k id→c.k id:=fun hi q=>q.elim (fun q=>q) fun q=>by omega
 have lv:∀{id b'},id<h.n→Lv (c.nw o) id b'→Lv c id b':=fun hi q=>⟨kk hi q.1,q.2⟩
 refine⟨by show c.n+1=h.n+1;rw[hn],fun id q=>by show id<c.n+1;exact q.elim (fun q=>Nat.lt_succ_of_lt (hr.k id q)) fun q=>by omega,hr.q.alloc _,fun id b' hg=>?_,fun i j b' d hi hj hb' hd hij=>?_,fun id b' hg hc hbar=>?_,fun l p' hl=>?_,fun i j p' d hi hj ki kj hij=>?_⟩
 ·have h1:=(hr.blk id b' hg).1;refine⟨Nat.lt_succ_of_lt h1,fun hc=>?_⟩;rw[fV _ (by omega)];have:=(hr.blk id b' hg).2 (lv h1 hc);exact this.xt X (hold _ this.lt)
 ·have h1:=(hr.blk i b' hi).1;have h3:=(hr.blk j d hj).1;rw[fV _ (by omega),fV _ (by omega)];exact hr.inj i j b' d hi hj (lv h1 hb') (lv h3 hd) hij
 ·have h1:=(hr.blk id b' hg).1;rw[fV _ (by omega)];exact hr.new id b' hg (lv h1 hc) hbar
 ·rcases key l p' hl with⟨rfl,rfl⟩|⟨h1,h2⟩
  ·refine⟨Nat.lt_succ_self _,fun _=>?_⟩;rw[←hn,uV];exact⟨hp,fun _=>by omega⟩
  ·refine⟨Nat.lt_succ_of_lt h1,fun q=>?_⟩;rw[fV _ (by omega)];obtain⟨h3,h4⟩:=(hr.lp l p' h2).2 (kk h1 q);exact⟨h3.xt X (hold _ h3.lt),h4⟩
 ·rcases key i p' hi with⟨rfl,rfl⟩|⟨h1,h2⟩
  ·rcases key j d hj with⟨rfl,rfl⟩|⟨h3,h4⟩
   ·exact absurd rfl hij
   ·have:=((hr.lp j d h4).2 (kk h3 kj)).1.lt;rw[←hn,uV,fV _ (by omega)];omega
  ·have h5:=((hr.lp i p' h2).2 (kk h1 ki)).1.lt;rcases key j d hj with⟨rfl,rfl⟩|⟨h3,h4⟩
   ·rw[fV _ (by omega),←hn,uV];omega
   ·rw[fV _ (by omega),fV _ (by omega)];exact hr.li i j p' d h2 h4 (kk h1 ki) (kk h3 kj) hij
theorem aNO{g k:Nat}{s:ByteArray}{l:List Nat}(hg:c.w.heap[g]? =some (.stringIter s k))(hs:bytes s=l):LpR c (itL l k) g:=
 ⟨_,hg,fun _ _ _ e=>(by cases e),fun _ e=>(by cases e),fun e=>(by cases e),fun l' k' e=>(by
  injection e with e;injection e with e1 e2;subst e1;subst e2;exact⟨s,rfl,hs⟩)⟩
theorem aPg{t:Nat}{x:Operand}(hr:Rl c wb h)(ht:Tr c nt e a.tmps)(ho:o.op=.range t x)(hx:yX F e h t x=some (v,h')):∃u w',OpR F.P a.eval o c.w u w'∧Po c wb h' v u w':=by
 obtain⟨i,h1,h2⟩:=aA.1 hx;obtain⟨v1,h3,h4⟩:=aA.1 h2;obtain⟨s,rfl,h5⟩:=aL.1 h4;split at h5
 ·rename_i l hd;rw[aW]at h5;have h6:=bI h5;injection h6 with h6 h7;subst h6;subst h7;obtain⟨st,hs1,hs2⟩:=aF.1 (bJ ht h3);have hrun:=run_range_string (P:=F.P) c.w t st (sI (aO h1) hd);rw[←hs1]at hrun;have R:=hr.itn (p:=itL l 0) (o:=.stringIter st 0) (aNO (Array.getElem?_push_size ..) hs2);refine⟨_,_,OpR.vl (s:=Instr.range t (a.eval x)) (by unfold execOp;rw[ho]) hrun,_,rfl,aBW hr.k _,R,aF.2 ⟨.inr hr.n.symm,?_⟩⟩;rw[←hr.n,uV]
 ·cases h5
theorem run_next_at{P:Program}{w:World}{g pos:Nat}{s:ByteArray}(hg:w.heap[g]? =some (.stringIter s pos))(ty:TypeId)(h:pos<s.size)(ha:(s[pos]'h).toNat<128):
  (Instr.next (.pointer (some ⟨g,0,none⟩)) true ty).run P w=.ok (.tuple #[.bool true,.int .i64 pos,.int .i32 (s[pos]'h).toNat]) (w.putObj g (.stringIter s (pos+1))):=by
 simp only[Instr.next,getObj,setObj,Sem.run_bind,Sem.run,hg,Result.andThen,h,if_true,decode_ascii s pos h ha];simp[goInt,World.putObj]
theorem aDM{P:Program}{w:World}{g pos:Nat}{s:ByteArray}(hg:w.heap[g]? =some (.stringIter s pos))(ty:TypeId)(h:¬pos<s.size):(Instr.next (.pointer (some ⟨g,0,none⟩)) true ty).run P w=.ok (.tuple #[.bool false]) w:=by
 simp[Instr.next,getObj,Sem.run,hg,h]
theorem aRk{x:Operand}{bb:Bool}(hr:Rl c wb h)(ht:Tr c nt e a.tmps)(ho:o.op=.next x bb)(hx:aBQ e h x bb=some (v,h')):∃u w',OpR F.P a.eval o c.w u w'∧Po c wb h' v u w':=by
 obtain⟨rfl,h1⟩:=aD.1 hx;obtain⟨v1,h2,h3⟩:=aA.1 h1;obtain⟨s,rfl,h4⟩:=aL.1 h3;have he:execOp a.eval o=(do pure (Next.value (←Instr.next (a.eval x) true o.type))):=by unfold execOp;rw[ho]
 split at h4
 ·rename_i id off;obtain⟨h5,h6⟩:=aD.1 h4;obtain⟨h7,h8⟩:=aD.1 h6;obtain⟨p,h9,h10⟩:=aA.1 h8;obtain⟨⟨l,k⟩,h11,h12⟩:=aA.1 h10;have h5:=aM.1 h5;subst h5;obtain⟨hid,hp⟩:=aF.1 (bJ ht h2);obtain⟨ob,g1,g2,g3,g4,g5⟩:=((hr.lp id p h9).2 hid).1;obtain⟨st,rfl,hs⟩:=g5 l k h11;have h12:Option.rec (motive:=fun _=>Option VH) (some (.t [(false,[.b false])],h)) (nx1 h id l k) (drp k l).head? =some (v,h'):=h12;rw[jY,List.head?_drop]at h12;have hsz:l.length=st.size:=(by rw[←hs,bV]);cases hb:l[k]? with
  |none=>
   rw[hb]at h12;injection h12 with h12;injection h12 with h13 h14;subst h13;subst h14;have hk:¬k<st.size:=by
     have:=List.getElem?_eq_none_iff.1 hb;omega
   exact⟨_,c.w,OpR.vl he (by rw[hp];exact aDM g1 _ hk),Po.same hr ⟨[.bool false],rfl,⟨_,rfl,rfl⟩,trivial⟩⟩
  |some b=>
   rw[hb]at h12;obtain⟨h13,h14⟩:=aD.1 (show nx1 h id l k b=some (v,h') from h12);rw[aW]at h14;injection h14 with h14;injection h14 with h15 h16;subst h15;subst h16;have h13:=aP.1 h13;have hk:k<st.size:=by
     have:=(List.getElem?_eq_some_iff.1 hb).1;omega
   have hbb:(st[k]'hk).toNat=b:=by
     have h2:(bytes st)[k]? =some b:=(by rw[hs];exact hb);have h3:=(List.getElem?_eq_some_iff.1 h2).2;unfold bytes at h3;rw[List.getElem_map]at h3;exact h3
   have hrun:=run_next_at (P:=F.P) g1 o.type hk (by rw[hbb];exact h13);rw[←hp,hbb]at hrun;have X:Xt c (c.obj (c.r id) (.stringIter st (k+1))):=zJ g1 g2 g3;refine⟨_,_,OpR.vl he hrun,_,rfl,X,hr.loop h9 hid (bN.1 h7) g1 g2 g3 (aNO (World.putObj_heap_same (Array.getElem?_eq_some_iff.1 g1).1) hs),⟨[.bool true,.int .i64 k,.int .i32 b],rfl,⟨_,rfl,rfl⟩,⟨_,rfl,rfl⟩,⟨_,rfl,rfl⟩,trivial⟩⟩
 ·cases h4
theorem aTe{h:H}{at_:List Nat}{args:List AV}{args':List Value}{t2:TypeId}(hr:Rl c wb h)(hx:bi F h .cap at_ args=some (v,h'))(ha:VL c args args'):∃u w',(Builtin.cap_ at_.toArray t2 args'.toArray).run F.P c.w=.ok u w'∧Po c wb h' v u w':=by
 unfold bi at hx;dsimp only at hx;split at hx
 ·rename_i t x;obtain⟨i,h1,h2⟩:=aA.1 hx;obtain⟨s,rfl,h3⟩:=aL.1 h2;obtain⟨u,rfl,hu⟩:∃u,args'=[u]∧VR c (sc s) u:=by
   match args',ha with
   | [u],ha=>exact⟨u,rfl,ha.1⟩
  have hp:=aF.1 hu;split at h3
  ·rename_i el hd;have h4:=bI h3;injection h4 with h4 h5;subst h4;subst h5;cases hp;refine⟨.int .i64 0,c.w,?_,Po.same hr (aF.2 rfl)⟩;simp[Builtin.cap_,run_underlying (jR (aO h1) hd),goInt]
  ·rename_i el id off n cp hd;have h4:=bI h3;injection h4 with h4 h5;subst h4;subst h5;obtain⟨-,rfl⟩:=hp;refine⟨.int .i64 (cp:Int),c.w,?_,Po.same hr (aF.2 rfl)⟩;simp[Builtin.cap_,run_underlying (jR (aO h1) hd),goInt]
  ·cases h3
 ·cases hx
theorem aPh{h:H}{at_:List Nat}{args:List AV}{args':List Value}{t2:TypeId}(hr:Rl c wb h)(hx:bi F h .clear at_ args=some (v,h'))(ha:VL c args args'):∃u w',(Builtin.clear_ at_.toArray t2 args'.toArray).run F.P c.w=.ok u w'∧Po c wb h' v u w':=by
 unfold bi at hx;dsimp only at hx;split at hx
 ·rename_i t x;obtain⟨i,h1,h2⟩:=aA.1 hx;obtain⟨el,h3,h4⟩:=aA.1 h2;obtain⟨j,h7,h8⟩:=aA.1 h4;obtain⟨s,rfl,h9⟩:=aL.1 h8;obtain⟨p,rfl,hp⟩:∃p,args'=[p]∧SR c s p:=by
   match args',ha with
   | [p],ha=>exact⟨p,rfl,aF.1 ha.1⟩
  have hu:=vU (aO h1) h3;obtain⟨inf,d,z,g1,g2,g3,g4,g5,g6,g7,g8⟩:=(aO h7).ex;split at h9
  ·injection h9 with h9;injection h9 with h9 h10;subst h9;subst h10;have hp:p=.slice none 0 0:=hp;subst hp;exact⟨.tuple #[],c.w,by simp[Builtin.clear_,run_underlying hu],Po.same hr ⟨[],rfl,trivial⟩⟩
  ·rename_i id off n cap;have hk:c.k id:=by cases cap<;>exact hp.1
   obtain⟨o1,cp,rfl,-,-,ho⟩:=oC hp;rw[bU]at h9;split at h9
   ·rename_i hn;have hn:=aM.1 hn;subst hn;injection h9 with h9;injection h9 with h9 h10;subst h9;subst h10;exact⟨.tuple #[],c.w,by simp[Builtin.clear_,run_underlying hu],Po.same hr ⟨[],rfl,trivial⟩⟩
   ·rename_i hn;have hn:n≠0:=fun e=>hn (by rw[e];rfl);obtain⟨hs,h10⟩:=aD.1 h9;obtain⟨h2',k1,k2⟩:=aA.1 h10;injection k2 with k2;injection k2 with k2 k3;subst k2;subst k3;have ho:=ho (.inl hn);subst ho;obtain⟨m,rfl⟩:∃m,n=m+1:=⟨n-1,by omega⟩
    have hzc:CL c (fJ j.ze (m+1)) (Builtin.zeroCells z.cells (m+1)).toList:=by
     show CL c (fJ j.ze (m+1)) (madeCells z.cells ((m+1)*z.cells.size)).toList;rw[aAD];exact vX (lW g7) (m+1)
    have hne:fJ j.ze (m+1)≠[]:=fun e=>by
     have h5:=hzc.len;rw[e]at h5;have h6:0<j.sz:=aP.1 hs;have hzs:z.cells.size=inf.size:=(by rw[←Array.length_toList,g8]);have h7:0<(m+1)*inf.size:=Nat.mul_pos (Nat.succ_pos m) (by omega);simp[Builtin.zeroCells,hzs]at h5;omega
    obtain⟨dd,X,R,hst,-,-⟩:=aIm hr F.P hk k1 hzc hne;refine⟨.tuple #[],dd.w,?_,dd,rfl,X,R,⟨[],rfl,trivial⟩⟩;simp[Builtin.clear_,run_underlying hu,typeInfo,zeroValue,g1,g6,hst]
  ·cases h9
 ·cases hx
end
section
variable {F:Cf} {c d:Cx} {wb:World} {h h':H} {q:Bool} {nt fn:Nat} {e e':Env} {a a':Act} {b:Frame} {ex:dO} {o:Oper} {ops:Array Oper} {i:Nat} {v:AV}
theorem vY{P:Program}{bb:Builtin}{xs:Array Operand}{ats:Array TypeId}{w w':World}{u:Value}{s:Sem Value}(ho:o.op=.call {callee:=.builtin bb,args:=xs,argTypes:=ats})
  (hb:∀cs,builtin bb ats o.type cs (xs.map a.eval)=(do pure (Next.value (←s)))) (hs:s.run P w=.ok u w'):OpR P a.eval o w u w':=by
 left;unfold execOp;rw[ho];simp only[resolve,Sem.run_bind,Sem.run_pure,Result.andThen_ok,invoke,hb,hs]
theorem aTf(hln:aMt F){bb:Builtin}{xs:Array Operand}{ats:Array TypeId}(hz:∀(c:Cx) (wb:World) (a:Act),Fr F c wb nt h e a→∀t,c.z t=F.P.cellsOf t)(hoi:ops[i]? =some o)(ho:o.op=.call {callee:=.builtin bb,args:=xs,argTypes:=ats})
  (hx:(ob (evL e xs.toList) fun l=>bi F h bb ats.toList l)=some (v,h')):qH F nt ops i o e h v h':=by
 obtain⟨l,h1,h2⟩:=aA.1 hx;refine dJ hoi (fun c hc=>by rw[ho]at hc;cases hc) (fun c wb a f=>?_);have hv:=rX f.t h1;have e1:xs.map a.eval=(xs.toList.map a.eval).toArray:=by
  apply Array.toList_inj.1;simp
 have e2:ats=ats.toList.toArray:=by simp
 cases bb with
 |len=>
  obtain⟨u,w',k1,k2⟩:=aS8 hln (t2:=o.type) f.r h2 hv;exact⟨u,w',vY ho (fun cs=>rfl) (by rw[e1,e2];exact k1),k2⟩
 |min=>
  obtain⟨u,w',k1,k2⟩:=aS9 (t1:=ats) (t2:=o.type) f.r h2 hv;exact⟨u,w',vY ho (fun cs=>rfl) (by rw[e1];exact k1),k2⟩
 |max=>
  obtain⟨u,w',k1,k2⟩:=aTa (t1:=ats) (t2:=o.type) f.r h2 hv;exact⟨u,w',vY ho (fun cs=>rfl) (by rw[e1];exact k1),k2⟩
 |cap=>
  obtain⟨u,w',k1,k2⟩:=aTe (t2:=o.type) f.r h2 hv;exact⟨u,w',vY ho (fun cs=>rfl) (by rw[e1,e2];exact k1),k2⟩
 |clear=>
  obtain⟨u,w',k1,k2⟩:=aPh (t2:=o.type) f.r h2 hv;exact⟨u,w',vY ho (fun cs=>rfl) (by rw[e1,e2];exact k1),k2⟩
 |append=>
  obtain⟨u,w',k1,k2⟩:=aMu (t2:=o.type) f.r (hz c wb a f) h2 hv;exact⟨u,w',vY ho (fun cs=>rfl) (by rw[e1,e2];exact k1),k2⟩
 |_=>cases h2
def vZ(F:Cf)(ex:dO):Prop:=∀(nt:Nat) (ops:Array Oper) (i:Nat) (o:Oper) (e:Env) (h:H) (v:AV) (h':H) (g:Operand) (xs:Array Operand) (ats:Array TypeId) (l:Nat) (args:List AV),ops[i]? =some o→o.op=.call {callee:=.value g,args:=xs,argTypes:=ats}→ev e g=some (sc (.y l))→evL e xs.toList=some args→aIj ex l args h=some (v,h')→qH F nt ops i o e h v h'
theorem aKg{f0 t:Nat}{m:String}{G:Func}{g:Operand}{xs:Array Operand}{ats:Array TypeId}(ho:o.op=.call {callee:=.value g,args:=xs,argTypes:=ats})(hv:a.eval g=.func (.method m) #[.iface t (.agg #[])] #[])(hm:nV F t m=some f0)(hg:F.P.funcs[f0]? =some G)(hn:(G.name == "runtime.NumGoroutine")=false)(hb:G.body.isSome=true)(w:World):
  (execOp a.eval o).run F.P w=.ok (.enter f0 (.agg #[]::xs.toList.map a.eval).toArray) w:=by
 obtain⟨n,hn2⟩:=aBr F.P;have hrc:=nJ (P:=F.P) hg hn hb (.agg #[]::xs.toList.map a.eval).toArray w;obtain⟨A,hA⟩:∃A,xs.map a.eval=A:=⟨_,rfl⟩
 have hl:xs.toList.map a.eval=A.toList:=by rw[←hA,Array.toList_map]
 have e1:#[Value.agg #[]]++A=(.agg #[]::xs.toList.map a.eval).toArray:=by
  apply Array.toList_inj.1;rw[hl];simp
 have e2:∀r:Value,(#[r]++A)[0]? =some r:=fun r=>by
  rw[←Array.getElem?_toList];simp
 have e3:∀r:Value,(#[r]++A).extract 1 (#[r]++A).size=A:=fun r=>by
  apply Array.toList_inj.1;simp
 have hd:(Deferred.ofValue (.func (.method m) #[.iface t (.agg #[])] #[]) A)=pure {target:=.fn (.method m) #[],args:=#[.iface t (.agg #[])]++A}:=rfl;unfold execOp;rw[ho];simp only[resolve,hv,hA,hd,Sem.run_bind,Sem.run_pure,Result.andThen_ok,invoke,e2,e3,callMethod,run_program,hn2,aBY hm n w,e1];exact hrc
theorem aTg(hF:FOk F)(hex:kH F ex)(hY:vZ F ex){g:Operand}{xs:Array Operand}{ats:Array TypeId}(hoi:ops[i]? =some o)(ho:o.op=.call {callee:=.value g,args:=xs,argTypes:=ats})
  (hx:(ob (ev e g) fun f=>ob (evL e xs.toList) fun l=>bQ F ex f l h)=some (v,h')):qH F nt ops i o e h v h':=by
 obtain⟨fv,h1,h2⟩:=aA.1 hx;obtain⟨l,h3,h4⟩:=aA.1 h2;obtain⟨s,rfl,h5⟩:=aL.1 h4;split at h5
 rotate_left
 ·rename_i y;obtain⟨m,t,rfl,h6⟩:=aEU h5;obtain⟨f0,h7,h8⟩:=aA.1 h6;intro c wb a f hw b rest k cs;have k1:=(aF.1 (bJ f.t h1)).1;obtain⟨⟨G,k3,k4⟩,k5⟩:=jO (vs:=.agg #[]::xs.toList.map a.eval) hF hex h8 f.r f.z f.b ⟨⟨[],rfl,trivial⟩,rX f.t h3⟩;have hrun:=aKg (a:=a) ho k1 h7 k3 (hF.ng _ _ k3) k4 c.w;exact aCR hoi (fun c hc=>by rw[ho]at hc;cases hc) hw hrun k5
 rotate_left
 rotate_left
 ·rename_i f0 dX;intro c wb a f hw b rest k cs;obtain⟨k1,k2⟩:=aF.1 (bJ f.t h1);rw[iT]at h5;obtain⟨⟨G,k3,k4⟩,k5⟩:=jO hF hex h5 f.r f.z f.b ((rX f.t h3).app (aHe k1));have hrun:=aKe (P:=F.P) (a:=a) (g:=g) ho k2 k3 (hF.ng _ _ k3) k4 c.w;have e1:xs.map a.eval++(dX.map (ptr c)).toArray=(xs.toList.map a.eval++dX.map (ptr c)).toArray:=by
   apply Array.toList_inj.1;simp
  rw[e1]at hrun;exact aCR hoi (fun c hc=>by rw[ho]at hc;cases hc) hw hrun k5
 ·exact hY nt ops i o e h v h' g xs ats _ l hoi ho h1 h3 h5
 ·cases h5
theorem aKh{f0 t:Nat}{m:String}{G:Func}{g:Operand}{xs:Array Operand}{ats:Array TypeId}(ho:o.op=.call {callee:=.invoke g m,args:=xs,argTypes:=ats})(hv:a.eval g=.iface t (.agg #[]))(hm:nV F t m=some f0)(hg:F.P.funcs[f0]? =some G)(hn:(G.name == "runtime.NumGoroutine")=false)(hb:G.body.isSome=true)(w:World):
  (execOp a.eval o).run F.P w=.ok (.enter f0 (.agg #[]::xs.toList.map a.eval).toArray) w:=by
 obtain⟨n,hn2⟩:=aBr F.P;have hrc:=nJ (P:=F.P) hg hn hb (.agg #[]::xs.toList.map a.eval).toArray w;obtain⟨A,hA⟩:∃A,xs.map a.eval=A:=⟨_,rfl⟩
 have hl:xs.toList.map a.eval=A.toList:=by rw[←hA,Array.toList_map]
 have e1:#[Value.agg #[]]++A=(.agg #[]::xs.toList.map a.eval).toArray:=by
  apply Array.toList_inj.1;rw[hl];simp
 have e2:∀r:Value,(#[r]++A)[0]? =some r:=fun r=>by
  rw[←Array.getElem?_toList];simp
 have e3:∀r:Value,(#[r]++A).extract 1 (#[r]++A).size=A:=fun r=>by
  apply Array.toList_inj.1;simp
 unfold execOp;rw[ho];simp only[resolve,hv,hA,Sem.run_bind,Sem.run_pure,Result.andThen_ok,invoke,e2,e3,callMethod,run_program,hn2,aBY hm n w,e1];exact hrc
theorem aTh(hF:FOk F)(hex:kH F ex){g:Operand}{m:String}{xs:Array Operand}{ats:Array TypeId}(hoi:ops[i]? =some o)(ho:o.op=.call {callee:=.invoke g m,args:=xs,argTypes:=ats})
  (hx:op1 F (bQ F ex) (.call {callee:=.invoke g m,args:=xs,argTypes:=ats}) e h=some (v,h')):qH F nt ops i o e h v h':=by
 obtain⟨fv,h1,h2⟩:=aA.1 (show (ob (ev e g) fun v=>one v fun s=>match s with| .v x=>ifT x fun t=>ob (nV F t m) fun fn=>ob (evL e xs.toList) fun l=>bQ F ex (sc (.f fn [])) (.c true []::l) h|_=>none)=some (v,h') from hx);obtain⟨s,rfl,h5⟩:=aL.1 h2;split at h5
 ·obtain⟨t,rfl,h6⟩:=aET h5;obtain⟨f0,h7,h8⟩:=aA.1 h6;obtain⟨l,h3,h9⟩:=aA.1 h8;have h9:fU F ex f0 (app (.c true []::l) (uU [])) h=some (v,h'):=h9;rw[show app (AV.c true []::l) (uU [])=.c true []::l by rw[iT];exact List.append_nil _]at h9;intro c wb a f hw b rest k cs;have k1:=(aF.1 (bJ f.t h1)).1;obtain⟨⟨G,k3,k4⟩,k5⟩:=jO (vs:=.agg #[]::xs.toList.map a.eval) hF hex h9 f.r f.z f.b ⟨⟨[],rfl,trivial⟩,rX f.t h3⟩;have hrun:=aKh (a:=a) ho k1 h7 k3 (hF.ng _ _ k3) k4 c.w;exact aCR hoi (fun c hc=>by rw[ho]at hc;cases hc) hw hrun k5
 ·cases h5
theorem aKi(hF:FOk F)(hex:kH F ex)(hY:vZ F ex)(hoi:ops[i]? =some o)(hx:op1 F (bQ F ex) o.op e h=some (v,h')):qH F nt ops i o e h v h':=by
 have nd:∀{op:Op},o.op=op→(∀c,op≠.defer c)→∀c,o.op≠.defer c:=fun h1 h2 c h3=>h2 c (h1▸h3);cases ho:o.op with
 |move x=>rw[ho]at hx;exact dJ hoi (nd ho (by intro c h;cases h)) fun c wb a f=>aJ0 f.r f.t (.inl ho) hx
 |assign x=>rw[ho]at hx;exact dJ hoi (nd ho (by intro c h;cases h)) fun c wb a f=>aJ0 f.r f.t (.inr ho) hx
 |pick k x y=>rw[ho]at hx;exact dJ hoi (nd ho (by intro c h;cases h)) fun c wb a f=>aQT f.r f.t ho hx
 |alloc t=>rw[ho]at hx;exact dJ hoi (nd ho (by intro c h;cases h)) fun c wb a f=>aOX f.r ho hx
 |box t x=>rw[ho]at hx;exact dJ hoi (nd ho (by intro c h;cases h)) fun c wb a f=>aS2 f.r f.t ho hx
 |build t ps=>rw[ho]at hx;exact dJ hoi (nd ho (by intro c h;cases h)) fun c wb a f=>aPa f.r f.t ho hx
 |buildSlice t n ps=>rw[ho]at hx;exact dJ hoi (nd ho (by intro c h;cases h)) fun c wb a f=>aEY f.r f.t ho hx
 |load t x=>rw[ho]at hx;exact dJ hoi (nd ho (by intro c h;cases h)) fun c wb a f=>o_load hF.ro (hF.tq _ _ f.r.q f.b) f.r f.t ho hx
 |store t x y=>rw[ho]at hx;exact dJ hoi (nd ho (by intro c h;cases h)) fun c wb a f=>aOY f.r f.t ho hx
 |nilCheck x=>rw[ho]at hx;exact dJ hoi (nd ho (by intro c h;cases h)) fun c wb a f=>aS3 f.r f.t ho hx
 |binOp op t x y t2=>rw[ho]at hx;exact dJ hoi (nd ho (by intro c h;cases h)) fun c wb a f=>aS7 f.r f.t ho hx
 |unOp op t x=>rw[ho]at hx;exact dJ hoi (nd ho (by intro c h;cases h)) fun c wb a f=>aUt f.r f.t ho hx
 |makeInterface t x=>rw[ho]at hx;exact dJ hoi (nd ho (by intro c h;cases h)) fun c wb a f=>aUp f.r f.t ho hx
 |range t x=>rw[ho]at hx;exact dJ hoi (nd ho (by intro c h;cases h)) fun c wb a f=>aPg f.r f.t ho hx
 |next x b=>rw[ho]at hx;exact dJ hoi (nd ho (by intro c h;cases h)) fun c wb a f=>aRk f.r f.t ho hx
 |convert s t x=>rw[ho]at hx;exact dJ hoi (nd ho (by intro c h;cases h)) fun c wb a f=>aQ8 f.r f.t ho hx
 |makeFunc g x y=>rw[ho]at hx;exact dJ hoi (nd ho (by intro c h;cases h)) fun c wb a f=>aQ9 f.r f.t ho hx
 |makeSlice t x y=>rw[ho]at hx;exact dJ hoi (nd ho (by intro c h;cases h)) fun c wb a f=>aRa f.r f.t ho hx
 |slice t x lo hi mx=>rw[ho]at hx;exact dJ hoi (nd ho (by intro c h;cases h)) fun c wb a f=>aO9 f.r f.t ho hx
 |fieldAddr s x g=>rw[ho]at hx;exact dJ hoi (nd ho (by intro c h;cases h)) fun c wb a f=>aUq f.r f.t ho hx
 |field s x g=>rw[ho]at hx;exact dJ hoi (nd ho (by intro c h;cases h)) fun c wb a f=>aO8 f.r f.t ho hx
 |indexAddr t x y=>rw[ho]at hx;exact dJ hoi (nd ho (by intro c h;cases h)) fun c wb a f=>aUs f.r f.t ho hx
 |index t x y=>rw[ho]at hx;exact dJ hoi (nd ho (by intro c h;cases h)) fun c wb a f=>aUr f.r f.t ho hx
 |extract x ix=>rw[ho]at hx;exact dJ hoi (nd ho (by intro c h;cases h)) fun c wb a f=>aS6 f.r f.t ho hx
 |call cl=>
  rw[ho]at hx;obtain⟨callee,xs,ats⟩:=cl;cases callee with
  |value g=>exact aTg hF hex hY hoi ho hx
  |invoke r m=>exact aTh hF hex hoi ho hx
  |builtin bb=>exact aTf hF.ln (fun c wb a f=>f.z) hoi ho hx
 |_=>rw[ho]at hx;cases hx
end
def T0.flt{α:Type}:{n:Nat}→T0 n α→(Nat→Bool)→T0 n α
 |0,t,S=>if S 0 then t else (none:Option α)
 |n+1,t,S=>(⟨T0.flt (n:=n) (N.a t) fun k=>S (8*k),T0.flt (n:=n) (N.b t) fun k=>S (8*k+1),T0.flt (n:=n) (N.c t) fun k=>S (8*k+2),T0.flt (n:=n) (N.d t) fun k=>S (8*k+3),T0.flt (n:=n) (N.e t) fun k=>S (8*k+4),T0.flt (n:=n) (N.f t) fun k=>S (8*k+5),T0.flt (n:=n) (N.g t) fun k=>S (8*k+6),T0.flt (n:=n) (N.h t) fun k=>S (8*k+7)⟩:N (T0 n α))
theorem T0.pk_flt{α:Type}{n:Nat}(t:T0 (n+1) α)(S:Nat→Bool){d:Nat}(hd:d<8):(t.flt S).pk d=(t.pk d).flt fun k=>S (8*k+d):=by
 rcases (by omega:d=0∨d=1∨d=2∨d=3∨d=4∨d=5∨d=6∨d=7) with rfl|rfl|rfl|rfl|rfl|rfl|rfl|rfl<;>rfl
theorem T0.get_flt{α:Type}{n:Nat}(t:T0 n α):∀(S:Nat→Bool) (k:Nat),(t.flt S).g k=if S k then t.g k else none:=by
 induction n with
 |zero=>
  intro S k;by_cases hk:k=0
  ·subst hk;rw[T0.get_z,T0.get_z];show (if S 0=true then t else (none:Option α))=if S 0=true then t else (none:Option α)
   rfl
  ·rw[T0.get_z,T0.get_z,if_neg hk,if_neg hk];split<;>rfl
 |succ n ih=>
  intro S k;rw[T0.get_s,T0.get_s,T0.pk_flt t S (Nat.mod_lt k (by decide)),ih,show 8*(k/8)+k % 8=k from Nat.div_add_mod k 8]
noncomputable def T.flt {α:Type} {n:Nat} (t:T n α) (S:Nat→Bool):T n α:=⟨T0.flt t.t S,fun k=>if S k then t.o k else none⟩
theorem T.get_flt{α:Type}{n:Nat}(t:T n α)(S:Nat→Bool)(k:Nat):(t.flt S).get k=if S k then t.get k else none:=by
 by_cases h:k<Nat.pow 8 n
 ·rw[T.get_lt h,T.get_lt h];exact T0.get_flt t.t S k
 ·rw[T.get_ge h,T.get_ge h];rfl
section
variable {P:Program} {ops:Array Oper} {b:Frame} {k:List Item} {cs:List Frame}
theorem aRl{J:(Nat→Bool)→Act→World→Prop}(hr:∀L:Nat→Bool,(∃j,j<ops.size∧L j=false)→∃i o,ops[i]? =some o∧L i=false∧∀e∈o.after,Region.binds .any e=true→L e.on=true)(hstep:∀(L:Nat→Bool) (a:Act) (w:World) (i:Nat) (o:Oper),ops[i]? =some o→L i=false→(∀e∈o.after,Region.binds .any e=true→L e.on=true)→J L a w→∀rest,∃a' w',J (Ja.upd L i true) a' w'∧Steps P (lone (b.atR a (.inRegion ops (i::rest)::k)) cs w) (lone (b.atR a' (.inRegion ops rest::k)) cs w')):
  ∀(fuel t:Nat) (listed:Array Bool) (L:Nat→Bool) (a:Act) (w:World),L=(fun j=>listed.getD j false)→listed.size=ops.size→Ja.left L ops.size≤fuel→J L a w→
   ∃L' a' w',(∀j,j<ops.size→L' j=true)∧J L' a' w'∧Steps P (lone (b.atR a (.inRegion ops (Region.linearise.go .any ops fuel t listed [])::k)) cs w) (lone (b.atR a' k) cs w'):=by
 intro fuel
 induction fuel with
 |zero=>
  intro t listed L a w hL hs hle hJ;refine⟨L,a,w,Ja.left_zero ops.size (by omega),hJ,?_⟩;simp only[Region.linearise.go,List.reverse_nil];exact .one stepR_region_end
 |succ fuel ih=>
  intro t listed L a w hL hs hle hJ;simp only[Region.linearise.go]
  change ∃L' a' w',_∧_∧Steps P (lone (b.atR a (.inRegion ops (match (Region.ready .any ops listed)[t % (Region.ready .any ops listed).length]? with
    |some i=>Region.linearise.go .any ops fuel (t/(Region.ready .any ops listed).length) (listed.setIfInBounds i true) [i]
    |none=>[].reverse)::k)) cs w) _
  cases hi:(Region.ready .any ops listed)[t % (Region.ready .any ops listed).length]? with
  |none=>
   have hnil:Region.ready .any ops listed=[]:=by
      cases hr:Region.ready .any ops listed with
      |nil=>rfl
      |cons x xs=>
       rw[hr]at hi;have hlt:t % (x::xs).length<(x::xs).length:=Nat.mod_lt _ (by simp);simp at hi;simp at hlt;omega
   refine⟨L,a,w,fun j hj=>?_,hJ,.one stepR_region_end⟩;cases hLj:L j with
   |true=>rfl
   |false=>
    obtain⟨i,o,ho,hLi,hdep⟩:=hr L ⟨j,hj,hLj⟩;have hii:i<ops.size:=(Array.getElem?_eq_some_iff.1 ho).1;have:i∈Region.ready .any ops listed:=mem_ready.2 ⟨by
        have h1:listed.getD i false=false:=(by rw[hL]at hLi;exact hLi);have h2:i<listed.size:=(by omega);simp[h2]at h1⊢;exact h1,o,ho,fun e he hb=>by
         have:=hdep e he hb;rw[hL]at this;exact this⟩
    rw[hnil]at this;cases this
  |some i=>
   simp only[];rw[linearise_go_acc,List.reverse_singleton,List.singleton_append];obtain⟨h0,o,ho,hall⟩:=mem_ready.1 (List.mem_of_getElem? hi);have hii:i<ops.size:=(Array.getElem?_eq_some_iff.1 ho).1;have hil:i<listed.size:=(by omega);have hLi:L i=false:=(by rw[hL];simp[hil]at h0⊢;exact h0);obtain⟨a1,w1,hJ1,hS⟩:=hstep L a w i o ho hLi (fun e he hb=>by rw[hL];exact hall e he hb) hJ (Region.linearise.go .any ops fuel (t/(Region.ready .any ops listed).length) (listed.setIfInBounds i true) []);have hL2:Ja.upd L i true=fun j=>(listed.setIfInBounds i true).getD j false:=by
      funext j;unfold Ja.upd;by_cases hji:j=i
      ·subst hji;simp[hil]
      ·rw[if_neg hji,hL,getD_set_ne false (Ne.symm hji)]
   have hle2:Ja.left (Ja.upd L i true) ops.size≤fuel:=by
      have:=Ja.left_upd hLi ops.size hii;omega
   obtain⟨L',a',w',q1,q2,q3⟩:=ih (t/(Region.ready .any ops listed).length) (listed.setIfInBounds i true) (Ja.upd L i true) a1 w1 hL2 (by simp[hs]) hle2 hJ1;exact⟨L',a',w',q1,q2,hS.trans q3⟩
end
section
variable {F:Cf} {c d:Cx} {wb:World} {h h':H} {nt:Nat} {e e':Env} {a a':Act}
theorem Rl.lift(hr:Rl c wb h):Rl c c.w h.lift:=
 ⟨hr.n,hr.k,Q.refl _,hr.blk,hr.inj,fun id b hg _ hb=>absurd (hr.blk id b hg).1 (Nat.not_lt.2 hb),fun l p hl=>⟨(hr.lp l p hl).1,fun q=>⟨((hr.lp l p hl).2 q).1,fun hb=>absurd (hr.lp l p hl).1 (Nat.not_lt.2 hb)⟩⟩,hr.li⟩
def Cx.lo(c:Cx)(n:Nat):Cx:=⟨n,fun id=>c.k id∧id<n,c.r,c.w,c.z⟩
def Cx.mg(g d:Cx)(n0 n1:Nat):Cx:=⟨g.n,fun id=>g.k id∨(d.k id∧n0≤id),fun id=>if n0≤id∧id<n1 then d.r id else g.r id,d.w,g.z⟩
section
variable {g:Cx} {n0 n1 m:Nat}
theorem zK(hf:∀id,g.k id→n0≤id→n1≤id){id:Nat}(hk:g.k id):(g.mg d n0 n1).r id=g.r id:=if_neg fun q=>by have:=hf id hk q.1;omega
theorem aE5{id:Nat}(h0:n0≤id)(h1:id<n1):(g.mg d n0 n1).r id=d.r id:=if_pos ⟨h0,h1⟩
theorem aIu(hX:Xt (g.lo n0) d)(hf:∀id,g.k id→n0≤id→n1≤id):Xs (g.lo m) ((g.mg d n0 n1).lo m):=
 ⟨fun _ q=>⟨.inl q.1,q.2⟩,fun _ q=>zK hf q.1,hX.p.m,hX.p.mr,hX.p.s,rfl⟩
theorem aIv(hX:Xt (g.lo n0) d)(hd:Rl d wb h')(hn:h'.n=n1)(hf:∀id,g.k id→n0≤id→n1≤id)(hm:n1≤m):Xs d ((g.mg d n0 n1).lo m):=by
 have hlt:∀id,d.k id→id<n1:=fun id q=>by have:=hd.k id q;rw[hd.n,hn]at this;exact this
 refine⟨fun id q=>⟨?_,Nat.lt_of_lt_of_le (hlt id q) hm⟩,fun id q=>?_,fun _ _ k=>k,fun _ _ k=>k,fun _ _ cs _ k=>⟨cs,k,rfl⟩,hX.z.symm⟩
 ·rcases hX.o id q with k|k
  ·exact .inl k.1
  ·exact .inr ⟨q,k⟩
 ·rcases hX.o id q with k|k
  ·exact (zK hf k.1).trans (hX.r id k).symm
  ·exact aE5 k (hlt id q)
theorem Rl.merge{h2:H}(hX:Xt (g.lo n0) d)(hd:Rl d g.w h')(hn:h'.n=n1)(hbar:h'.bar=n0)(hf:∀id,g.k id→n0≤id→n1≤id)(hr:Rl (g.lo m) wb h2)
  (hc:m≤n0∨(n1≤m∧(∀id b,id<n1→h2.h.get id=some b→h'.h.get id=some b)∧∀id b,id<n1→h2.l.get id=some b→h'.l.get id=some b)):Rl ((g.mg d n0 n1).lo m) wb h2:=by
 have hlt:∀id,d.k id→id<n1:=fun id q=>by have:=hd.k id q;rw[hd.n,hn]at this;exact this
 have X:=aIu (m:=m) hX hf;have nw:∀{id:Nat},d.k id→n0≤id→id<m→n1≤m∧(∀b,h2.h.get id=some b→h'.h.get id=some b)∧∀b,h2.l.get id=some b→h'.l.get id=some b:=fun {id} q q0 q1=>by
  rcases hc with hc|⟨h1,h3,h4⟩
  ·omega
  ·exact⟨h1,fun b=>h3 id b (hlt id q),fun b=>h4 id b (hlt id q)⟩
 have hsz:wb.heap.size≤g.w.heap.size:=hr.q.size;have blk:∀{id b},h2.h.get id=some b→Lv ((g.mg d n0 n1).lo m) id b→(Lv (g.lo m) id b∧(g.mg d n0 n1).r id=g.r id∧g.r id<g.w.heap.size)∨(h'.h.get id=some b∧Lv d id b∧(g.mg d n0 n1).r id=d.r id∧g.w.heap.size≤d.r id∧n1≤m):=fun {id b} hg q=>by
  obtain⟨⟨q1,q2⟩,q3⟩:=q;rcases q1 with q1|⟨q1,q4⟩
  ·exact .inl ⟨⟨⟨q1,q2⟩,q3⟩,zK hf q1,((hr.blk id b hg).2 ⟨⟨q1,q2⟩,q3⟩).lt⟩
  ·obtain⟨k1,k2,-⟩:=nw q1 q4 q2;exact .inr ⟨k2 b hg,⟨q1,q3⟩,aE5 q4 (hlt id q1),hd.new id b (k2 b hg) ⟨q1,q3⟩ (by omega),k1⟩
 have lps:∀{id p},h2.l.get id=some p→((g.mg d n0 n1).lo m).k id→(((g.lo m).k id)∧(g.mg d n0 n1).r id=g.r id∧g.r id<g.w.heap.size)∨(h'.l.get id=some p∧d.k id∧(g.mg d n0 n1).r id=d.r id∧g.w.heap.size≤d.r id∧n1≤m):=fun {id p} hg q=>by
  obtain⟨q1,q2⟩:=q;rcases q1 with q1|⟨q1,q4⟩
  ·exact .inl ⟨⟨q1,q2⟩,zK hf q1,((hr.lp id p hg).2 ⟨q1,q2⟩).1.lt⟩
  ·obtain⟨k1,-,k2⟩:=nw q1 q4 q2;exact .inr ⟨k2 p hg,q1,aE5 q4 (hlt id q1),((hd.lp id p (k2 p hg)).2 q1).2 (by omega),k1⟩
 refine⟨hr.n,fun id q=>q.2,hr.q.trans hd.q,fun id b hg=>⟨(hr.blk id b hg).1,fun q=>?_⟩,fun i j b b2 hi hj qi qj hij=>?_,fun id b hg q hb=>?_,fun l p hl=>⟨(hr.lp l p hl).1,fun q=>?_⟩,fun i j p p2 hi hj qi qj hij=>?_⟩
 ·show Bl _ b ((g.mg d n0 n1).r id);rcases blk hg q with⟨k1,k2,k3⟩|⟨k1,k2,k3,k4,k5⟩
  ·rw[k2];exact ((hr.blk id b hg).2 k1).xs X (hd.q.heap k3)
  ·rw[k3];exact ((hd.blk id b k1).2 k2).xs (aIv hX hd hn hf k5) rfl
 ·show (g.mg d n0 n1).r i≠(g.mg d n0 n1).r j;rcases blk hi qi with⟨k1,k2,k3⟩|⟨k1,k2,k3,k4,k5⟩
  ·rcases blk hj qj with⟨m1,m2,m3⟩|⟨m1,m2,m3,m4,m5⟩
   ·rw[k2,m2];exact hr.inj i j b b2 hi hj k1 m1 hij
   ·rw[k2,m3];omega
  ·rcases blk hj qj with⟨m1,m2,m3⟩|⟨m1,m2,m3,m4,m5⟩
   ·rw[k3,m2];omega
   ·rw[k3,m3];exact hd.inj i j b b2 k1 m1 k2 m2 hij
 ·show wb.heap.size≤(g.mg d n0 n1).r id;rcases blk hg q with⟨k1,k2,k3⟩|⟨k1,k2,k3,k4,k5⟩
  ·rw[k2];exact hr.new id b hg k1 hb
  ·rw[k3];omega
 ·show LpR _ p ((g.mg d n0 n1).r l)∧(h2.bar≤l→wb.heap.size≤(g.mg d n0 n1).r l)
  rcases lps hl q with⟨k1,k2,k3⟩|⟨k1,k2,k3,k4,k5⟩
  ·rw[k2];exact⟨((hr.lp l p hl).2 k1).1.xs X (hd.q.heap k3),((hr.lp l p hl).2 k1).2⟩
  ·rw[k3];exact⟨((hd.lp l p k1).2 k2).1.xs (aIv hX hd hn hf k5) rfl,fun _=>by omega⟩
 ·show (g.mg d n0 n1).r i≠(g.mg d n0 n1).r j;rcases lps hi qi with⟨k1,k2,k3⟩|⟨k1,k2,k3,k4,k5⟩
  ·rcases lps hj qj with⟨m1,m2,m3⟩|⟨m1,m2,m3,m4,m5⟩
   ·rw[k2,m2];exact hr.li i j p p2 hi hj k1 m1 hij
   ·rw[k2,m3];omega
  ·rcases lps hj qj with⟨m1,m2,m3⟩|⟨m1,m2,m3,m4,m5⟩
   ·rw[k3,m2];omega
   ·rw[k3,m3];exact hd.li i j p p2 k1 m1 k2 m2 hij
end
end
structure Tp where
 i:Nat
 o:Oper
 e:Env
 h:H
 b:Bool
 v:AV
 e':Env
 h':H
def zL(nt:Nat)(e:Env)(d:Option Nat)(v:AV)(e':Env):Prop:=match d with|none=>e'=e|some k=>k<nt∧e'=e.set v k
inductive Trace (S:Tp→Prop):Env→H→List Tp→Env→H→Prop where
 |nil (e:Env) (h:H):Trace S e h [] e h
 |cons {p:Tp} {l:List Tp} {e2:Env} {h2:H} (hp:S p) (ht:Trace S p.e' p.h' l e2 h2):Trace S p.e p.h (p::l) e2 h2
structure St1 (F:Cf) (nt:Nat) (call:cZ) (ops:List Oper) (lf:H→H) (p:Tp):Prop where
 o:(drp p.i ops).head? =some p.o
 w:wanted ops p.e p.o.guard=some p.b
 y:p.b=true→op1 F call p.o.op p.e (lf p.h)=some (p.v,p.h')
 n:p.b=false→p.v=un∧p.h'=lf p.h
 e:zL nt p.e p.o.dst p.v p.e'
section
variable {F:Cf} {nt:Nat} {call:cZ} {ops:List Oper} {e:Env} {h:H} {r:R}
theorem aNP{α:Type}{d:Option Nat}{v:AV}{k:Env→Option α}{y:α}(hx:put nt e d v k=some y):∃e',zL nt e d v e'∧k e'=some y:=by
 cases d with
 |none=>exact⟨e,rfl,hx⟩
 |some d=>
  obtain⟨h1,h2⟩:=aD.1 (show cb (Nat.blt d nt) (k (e.set v d)) none=some y from hx);exact⟨_,⟨aP.1 h1,rfl⟩,h2⟩
theorem aHf{rest:Env→H→Option R}{i:Nat}{o:Oper}{lf:H→H}(ho:(drp i ops).head? =some o)(hx:nW F nt call ops rest o e (lf h)=some r):
  ∃p:Tp,p.i=i∧p.e=e∧p.h=h∧St1 F nt call ops lf p∧rest p.e' p.h'=some r:=by
 obtain⟨w,h1,hx⟩:=aA.1 hx;cases w with
 |true=>
  obtain⟨⟨v,h2⟩,h3,hx⟩:=aA.1 (show (ob (op1 F call o.op e (lf h)) fun r=>put nt e o.dst r.1 fun e=>rest e r.2)=some r from hx);obtain⟨e',h4,h5⟩:=aNP hx;exact⟨⟨i,o,e,h,true,v,e',h2⟩,rfl,rfl,rfl,⟨ho,h1,fun _=>h3,fun q=>Bool.noConfusion q,h4⟩,h5⟩
 |false=>
  obtain⟨e',h4,h5⟩:=aNP (show put nt e o.dst un (fun e=>rest e (lf h))=some r from hx);exact⟨⟨i,o,e,h,false,un,e',lf h⟩,rfl,rfl,rfl,⟨ho,h1,fun q=>Bool.noConfusion q,fun _=>⟨rfl,rfl⟩,h4⟩,h5⟩
theorem aHg{b:Nat}{k:Env→H→Option R}:∀{l:List Nat} {e:Env} {h:H},zA F nt call ops b k l e h=some r→∃tr e1 h1,tr.map Tp.i=l∧Trace (St1 F nt call ops H.lift) e h tr e1 h1∧k e1 (h1.back b)=some r
 | [],e,h,hx=>⟨[],e,h,rfl,.nil e h,hx⟩
 |i::l,e,h,hx=>by
  obtain⟨o,ho,hx⟩:=aA.1 (show (ob (drp i ops).head? fun o=>nW F nt call ops (zA F nt call ops b k l) o e h.lift)=some r from hx);obtain⟨p,rfl,rfl,rfl,h1,h2⟩:=aHf (lf:=H.lift) ho hx;obtain⟨tr,e1,g1,h3,h4,h5⟩:=aHg h2;exact⟨p::tr,e1,g1,by rw[List.map_cons,h3],.cons h1 h4,h5⟩
def Same(F:Cf)(ops:List Oper)(e:Env)(h:H)(j:Nat):Prop:=∃o,(drp j ops).head? =some o∧(mkO F o.op=.p∨(mkO F o.op=.l∧o.guard=none∧∃d v u,o.dst=some d∧e.get d=some v∧op1 F (fun _ _ _=>none) o.op e h=some u∧avb v u.1=true)∨(mkO F o.op=.n∧o.guard=none∧∃d v u,o.dst=some d∧e.get d=some v∧op1 F (fun _ _ _=>none) o.op e h=some u∧kX h v u=true))
theorem aE6{k:Option R}:∀{l:List Nat},again F ops e h k l=some r→(∀j∈l,Same F ops e h j)∧k=some r
 | [],hx=>⟨fun j hj=>(by cases hj),hx⟩
 |j::l,hx=>by
  obtain⟨o,ho,hx⟩:=aA.1 hx;have key:Same F ops e h j∧again F ops e h k l=some r:=by
    split at hx
    ·rename_i hm;exact⟨⟨o,ho,.inl hm⟩,hx⟩
    ·rename_i hm;obtain⟨d,h3,hx⟩:=aA.1 hx;obtain⟨v,h4,hx⟩:=aA.1 hx;obtain⟨u,h5,hx⟩:=aA.1 hx;obtain⟨h6,hx⟩:=aD.1 hx;obtain⟨h7,hx⟩:=aD.1 hx;refine⟨⟨o,ho,.inr (.inl ⟨hm,?_,d,v,u,h3,h4,h5,h7⟩)⟩,hx⟩;cases hg:o.guard with
     |none=>rfl
     |some g=>rw[hg]at h6;cases h6
    ·rename_i hm;obtain⟨d,h3,hx⟩:=aA.1 hx;obtain⟨v,h4,hx⟩:=aA.1 hx;obtain⟨u,h5,hx⟩:=aA.1 hx;obtain⟨h6,hx⟩:=aD.1 hx;obtain⟨h7,hx⟩:=aD.1 hx;refine⟨⟨o,ho,.inr (.inr ⟨hm,?_,d,v,u,h3,h4,h5,h7⟩)⟩,hx⟩;cases hg:o.guard with
     |none=>rfl
     |some g=>rw[hg]at h6;cases h6
    ·cases hx
  obtain⟨h1,h2⟩:=key;obtain⟨h7,h8⟩:=aE6 h2;refine⟨fun i hi=>?_,h8⟩;rcases List.mem_cons.1 hi with rfl|hi
  ·exact h1
  ·exact h7 i hi
inductive TraceB (F:Cf) (nt:Nat) (call:cZ) (ops:List Oper):Env→H→List (Tp × List Nat)→Env→H→Prop where
 |nil (e:Env) (h:H):TraceB F nt call ops e h [] e h
 |cons {p:Tp} {rm:List Nat} {l:List (Tp × List Nat)} {e2:Env} {h2:H} (hp:St1 F nt call ops id p) (hs:∀j∈rm,Same F ops p.e' p.h' j) (ht:TraceB F nt call ops p.e' p.h' l e2 h2):TraceB F nt call ops p.e p.h ((p,rm)::l) e2 h2
theorem aHh:∀{l:List (Nat × List Nat)} {e:Env} {h:H},aBp F nt call ops l e h=some r→
  ∃tr e1 h1,(tr.map fun q=>(q.1.i,q.2))=l∧TraceB F nt call ops e h tr e1 h1∧r=⟨.n,e1,h1⟩
 | [],e,h,hx=>⟨[],e,h,rfl,.nil e h,by injection hx with hx;exact hx.symm⟩
 |(i,rm)::l,e,h,hx=>by
  obtain⟨o,ho,hx⟩:=aA.1 (show (ob (drp i ops).head? fun o=>nW F nt call ops (fun e h=>again F ops e h (aBp F nt call ops l e h) rm) o e h)=some r from hx);obtain⟨p,rfl,rfl,rfl,h1,h2⟩:=aHf (lf:=id) ho hx;obtain⟨h3,h4⟩:=aE6 h2;obtain⟨tr,e1,g1,h5,h6,h7⟩:=aHh h4;exact⟨(p,rm)::tr,e1,g1,by rw[List.map_cons,h5],.cons h1 h3 h6,h7⟩
theorem zL.get{d:Option Nat}{v:AV}{e':Env}(hp:zL nt e d v e'){t:Nat}{x:AV}(hx:e'.get t=some x):(d=some t∧x=v)∨(d≠some t∧e.get t=some x):=by
 cases d with
 |none=>
  rw[show e'=e from hp]at hx;exact .inr ⟨by simp,hx⟩
 |some k=>
  obtain⟨-,rfl⟩:=hp;rcases T.get_set hx with⟨rfl,rfl⟩|⟨h1,h2⟩
  ·exact .inl ⟨rfl,rfl⟩
  ·exact .inr ⟨fun q=>h1 (by injection q with q;exact q.symm),h2⟩
theorem Trace.get{S:Tp→Prop}(hS:∀p,S p→zL nt p.e p.o.dst p.v p.e'){tr:List Tp}{e2:Env}{h2:H}(ht:Trace S e h tr e2 h2){t:Nat}{x:AV}(hx:e2.get t=some x):
  (∃p∈tr,p.o.dst=some t∧p.v=x)∨((∀p∈tr,p.o.dst≠some t)∧e.get t=some x):=by
 induction ht with
 |nil e h=>exact .inr ⟨fun p hp=>(by cases hp),hx⟩
 | @cons p l e2 h2 hp ht ih=>
   rcases ih hx with⟨q,h1,h3⟩|⟨h1,h3⟩
   ·exact .inl ⟨q,List.mem_cons_of_mem _ h1,h3⟩
   ·rcases (hS p hp).get h3 with⟨k1,k2⟩|⟨k1,k2⟩
    ·exact .inl ⟨p,List.mem_cons_self,k1,k2.symm⟩
    ·refine .inr ⟨fun q hq=>?_,k2⟩;rcases List.mem_cons.1 hq with rfl|hq
     ·exact k1
     ·exact h1 q hq
end
theorem mD{i j:Nat}:(bit i).testBit j=true↔i=j:=by
 have:bit i=2^i:=by show 1<<<i=2^i;rw[Nat.one_shiftLeft]
 rw[this,Nat.testBit_two_pow];simp
theorem sO{a c j:Nat}:(Nat.lor a c).testBit j=true↔a.testBit j=true∨c.testBit j=true:=by
 show (a |||c).testBit j=true↔_;rw[Nat.testBit_or];simp
theorem aDY{a c j:Nat}(h:sub a c=true)(hj:a.testBit j=true):c.testBit j=true:=by
 have h1:a &&& c=a:=aM.1 h;rw[←h1,Nat.testBit_and]at hj;simp at hj;exact hj.2
theorem aRm{a i:Nat}(h:Nat.beq (Nat.land a (bit i)) 0=true):a.testBit i≠true:=by
 intro q;have h1:a &&& bit i=0:=aM.1 h;have h2:(a &&& bit i).testBit i=true:=by rw[Nat.testBit_and,q,mD.2 rfl];rfl
 rw[h1]at h2;simp at h2
theorem aIw{fa:Bool}{f:Nat→Nat}{l:List Edge}{j:Nat}:(msk fa f l).testBit j=true↔∃e∈l,edg fa e=true∧(f e.on).testBit j=true:=by
 induction l with
 |nil=>simp[msk]
 |cons e l ih=>
  show (cb (edg fa e) (Nat.lor (f e.on) (msk fa f l)) (msk fa f l)).testBit j=true↔_;rw[bU];split
  ·rename_i h;rw[sO,ih];simp[h]
  ·rename_i h;rw[ih];simp[h]
theorem aDZ{l:List Nat}{j:Nat}:(msN l).testBit j=true↔j∈l:=by
 induction l with
 |nil=>simp[msN]
 |cons i l ih=>
  show (Nat.lor (bit i) (msN l)).testBit j=true↔_;rw[sO,ih,mD,List.mem_cons,eq_comm]
noncomputable abbrev keep (o:Oper) (e:Edge):Bool:=edg (aEM o.op) e
theorem aRn{o:Oper}{e:Edge}(h:keep o e=true):Region.binds .any e=true:=by
 obtain⟨on,g⟩:=e;cases g with
 |textOnly r=>cases h
 |gcOnly r=>cases h
 |_=>rfl
inductive Reach (ops:Array Oper):Nat→Nat→Prop where
 |one {i:Nat} {o:Oper} {e:Edge} (ho:ops[i]? =some o) (he:e∈o.after) (hb:keep o e=true):Reach ops i e.on
 |more {i j:Nat} {o:Oper} {e:Edge} (ho:ops[i]? =some o) (he:e∈o.after) (hb:keep o e=true) (h:Reach ops e.on j):Reach ops i j
theorem Reach.closed{ops:Array Oper}{S:Nat→Prop}(hS:∀i o e,ops[i]? =some o→S i→e∈o.after→keep o e=true→S e.on){i j:Nat}(h:Reach ops i j)(hi:S i):S j:=by
 induction h with
 |one ho he hb=>exact hS _ _ _ ho hi he hb
 |more ho he hb _ ih=>exact ih (hS _ _ _ ho hi he hb)
structure ScI (ops:Array Oper) (s:Sc) (l:List Nat):Prop where
 d:∀j,s.d.testBit j=true↔j∈l
 an:∀i a j,s.an.get i=some a→a.testBit j=true→Reach ops i j
 nd:l.Nodup
section
variable {F:Cf} {ops:Array Oper} {ph:Bool} {i rm:Nat} {s s':Sc} {l:List Nat}
theorem aTi{j t:Nat}(hI:ScI ops s l)(h:(anc s j).testBit t=true):j=t∨Reach ops j t:=by
 unfold anc at h;cases hg:s.an.get j with
 |none=>rw[hg]at h;exact .inl (mD.1 h)
 |some a=>
  rw[hg]at h;rcases sO.1 h with h|h
  ·exact .inl (mD.1 h)
  ·exact .inr (hI.an j a t hg h)
structure One (F:Cf) (ops:Array Oper) (ph:Bool) (l:List Nat) (i rm:Nat):Prop where
 o:∃o,ops[i]? =some o∧(∀e∈o.after,keep o e=true→e.on∈l)∧(ph=true→mkO F o.op≠.w)
 s:ph=false→∀j∈l,Reach ops i j∨rm.testBit j=true
theorem aKj(hI:ScI ops s l)(hx:sc1 F ops.toList ph i rm s=some s'):ScI ops s' (l++[i])∧One F ops ph l i rm:=by
 obtain⟨o,h1,hx⟩:=aA.1 hx;obtain⟨h2,hx⟩:=aD.1 hx;obtain⟨h3,hx⟩:=aD.1 hx;rw[aW]at hx;obtain⟨h4,hx⟩:=aD.1 hx;have ho:ops[i]? =some o:=by simpa using dW h1
 have hdep:∀e∈o.after,keep o e=true→e.on∈l:=fun e he hb=>(hI.d _).1 (aDY h3 (aIw.2 ⟨e,Array.mem_toList_iff.2 he,hb,mD.2 rfl⟩));have ham:∀t,(msk (aEM o.op) (anc s) o.after.toList).testBit t=true→Reach ops i t:=fun t ht=>by
  obtain⟨e,he,hb,h5⟩:=aIw.1 ht;have he:=Array.mem_toList_iff.1 he;rcases aTi hI h5 with rfl|h6
  ·exact .one ho he hb
  ·exact .more ho he hb h6
 refine⟨?_,⟨o,ho,hdep,fun q k=>?_⟩,fun q j hj=>?_⟩
 ·injection hx with hx;unfold scP at hx;rw[aW]at hx;subst hx;refine⟨fun j=>?_,fun k a j hk ha=>?_,?_⟩
  ·show (Nat.lor s.d (bit i)).testBit j=true↔_;rw[sO,hI.d,mD,List.mem_append,List.mem_singleton,eq_comm (a:=i)]
  ·rcases T.get_set hk with⟨rfl,rfl⟩|⟨-,hk⟩
   ·exact ham j ha
   ·exact hI.an k a j hk ha
  ·refine List.nodup_append.2 ⟨hI.nd,by simp,fun a ha b hb e=>?_⟩;rw[List.mem_singleton]at hb;subst hb;subst e;exact aRm h2 ((hI.d _).2 ha)
 ·subst q;rw[k]at h4;cases h4
 ·subst q;have h5:sub s.d (Nat.lor (msk (aEM o.op) (anc s) o.after.toList) rm)=true:=by
   cases hm:mkO F o.op<;>rw[hm]at h4<;>exact h4
  rcases sO.1 (aDY h5 ((hI.d j).2 hj)) with h6|h6
  ·exact .inl (ham j h6)
  ·exact .inr h6
theorem aKk:∀{A:List Nat} {s s':Sc} {l:List Nat},ScI ops s l→scA F ops.toList A s=some s'→ScI ops s' (l++A)∧∀l1 i l2,A=l1++i::l2→One F ops true (l++l1) i 0
 | [],s,s',l,hI,hx=>by
   injection hx with hx;subst hx;exact⟨by simpa using hI,fun l1 i l2 e=>by simp at e⟩
 |i::A,s,s',l,hI,hx=>by
  obtain⟨s1,h1,hx⟩:=aA.1 (show ob (sc1 F ops.toList true i 0 s) (scA F ops.toList A)=some s' from hx);obtain⟨h2,h3⟩:=aKj hI h1;obtain⟨h4,h5⟩:=aKk h2 hx;refine⟨by simpa using h4,fun l1 j l2 e=>?_⟩;cases l1 with
  |nil=>injection e with e1 e2;subst e1;simpa using h3
  |cons x l1=>
   injection e with e1 e2;subst e1;have:=h5 l1 j l2 e2;simpa using this
theorem aKl:∀{B:List (Nat × List Nat)} {s s':Sc} {l:List Nat},ScI ops s l→scB F ops.toList B s=some s'→ScI ops s' (l++B.map Prod.fst)∧∀l1 i rm l2,B=l1++(i,rm)::l2→One F ops false (l++l1.map Prod.fst) i (msN rm)
 | [],s,s',l,hI,hx=>by
   injection hx with hx;subst hx;exact⟨by simpa using hI,fun l1 i rm l2 e=>by simp at e⟩
 |(i,rm0)::B,s,s',l,hI,hx=>by
  obtain⟨s1,h1,hx⟩:=aA.1 (show ob (sc1 F ops.toList false i (msN rm0) s) (scB F ops.toList B)=some s' from hx);obtain⟨h2,h3⟩:=aKj hI h1;obtain⟨h4,h5⟩:=aKl h2 hx;refine⟨by simpa using h4,fun l1 j rm l2 e=>?_⟩;cases l1 with
  |nil=>injection e with e1 e2;injection e1 with e3 e4;subst e3;subst e4;simpa using h3
  |cons x l1=>
   injection e with e1 e2;subst e1;have:=h5 l1 j rm l2 e2;simpa using this
theorem aD0{an:T 3 Nat}{i j:Nat}{l:List Nat}{d:Nat}(hI:ScI ops ⟨d,an⟩ l)(h:has an i j=true):Reach ops i j:=by
 unfold has at h;cases hg:an.get i with
 |none=>rw[hg]at h;cases h
 |some a=>rw[hg]at h;exact hI.an i a j hg (aDY h (mD.2 rfl))
theorem bW{c x:Bool}:cb c x false=true↔c=true∧x=true:=by cases c<;>simp[cb]
theorem aKm{wt an:T 3 Nat}{i:Nat}:∀{l:List Tmp},shT wt an i l=true→∀t∈l,∀j,wt.get t=some j→j=i∨has an i j=true∨has an j i=true
 | [],_,t,ht,_,_=>by cases ht
 |x::l,h,t,ht,j,hj=>by
  obtain⟨h1,h2⟩:=bW.1 (show cb (Option.rec (motive:=fun _=>Bool) true (fun j=>cb (Nat.beq j i) true (cb (has an i j) true (has an j i))) (wt.get x)) (shT wt an i l) false=true from h);rcases List.mem_cons.1 ht with rfl|ht
  ·rw[hj]at h1;have h1:cb (Nat.beq j i) true (cb (has an i j) true (has an j i))=true:=h1;rw[bU,bU]at h1;split at h1
   ·rename_i q;exact .inl (aM.1 q)
   ·split at h1
    ·rename_i q;exact .inr (.inl q)
    ·exact .inr (.inr h1)
  ·exact aKm h2 t ht j hj
theorem aKn:∀{B:List (Nat × List Nat)} {j:Nat},inB B j=true→j∈B.map Prod.fst
 | [],_,h=>by cases h
 |p::B,j,h=>by
  have h:cb (Nat.beq p.1 j) true (inB B j)=true:=h;cases hb:Nat.beq p.1 j with
  |true=>rw[List.map_cons,←aM.1 hb];exact List.mem_cons_self
  |false=>
   rw[hb]at h;rw[List.map_cons];exact List.mem_cons_of_mem _ (aKn h)
theorem aPi{an:T 3 Nat}{B:List (Nat × List Nat)}{i j:Nat}(h:aIh an B i j=true):has an i j=true∨(j∈B.map Prod.fst∧has an j i=true):=by
 have h:cb (has an i j) true (cb (inB B j) (has an j i) false)=true:=h;cases h1:has an i j with
 |true=>exact .inl rfl
 |false=>
  rw[h1]at h;obtain⟨h2,h3⟩:=bW.1 (show cb (inB B j) (has an j i) false=true from h);exact .inr ⟨aKn h2,h3⟩
theorem aKo{wt an:T 3 Nat}{B:List (Nat × List Nat)}{i:Nat}:∀{l:List Tmp},shU wt an B i l=true→∀t∈l,∀j,wt.get t=some j→aIh an B i j=true
 | [],_,t,ht,_,_=>by cases ht
 |x::l,h,t,ht,j,hj=>by
  obtain⟨h1,h2⟩:=bW.1 (show cb (Option.rec (motive:=fun _=>Bool) true (aIh an B i) (wt.get x)) (shU wt an B i l) false=true from h);rcases List.mem_cons.1 ht with rfl|ht
  ·rw[hj]at h1;exact h1
  ·exact aKo h2 t ht j hj
theorem lT{wt an:T 3 Nat}:∀{l:List Oper} {k:Nat},shL ops wt an l k=true→∀j o,l[j]? =some o→shQ wt (k+j) o.dst=true∧shT wt an (k+j) (o.looksAt ops)=true
 | [],_,_,_,_,hj=>by simp at hj
 |x::l,k,h,j,o,hj=>by
  obtain⟨h1,h2⟩:=bW.1 (show cb (shQ wt k x.dst) (cb (shT wt an k (x.looksAt ops)) (shL ops wt an l (Nat.succ k)) false) false=true from h);obtain⟨h3,h4⟩:=bW.1 h2;cases j with
  |zero=>simp at hj;subst hj;exact⟨h1,h3⟩
  |succ j=>
   have:=lT h4 j o (by simpa using hj);rw[show k+(j+1)=Nat.succ k+j from by omega];exact this
theorem aRo{wt:T 3 Nat}{i d:Nat}(h:shQ wt i (some d)=true):wt.get d=some i:=by
 have h:Option.rec (motive:=fun _=>Bool) false (Nat.beq i) (wt.get d)=true:=h;cases hg:wt.get d with
 |none=>rw[hg]at h;cases h
 |some j=>rw[hg]at h;rw[aM.1 h]
theorem aKp{wt an:T 3 Nat}{B:List (Nat × List Nat)}:∀{l:List Nat},shV ops wt an B l=true→∀j∈l,∃o,ops[j]? =some o∧shU wt an B j (o.looksAt ops)=true
 | [],_,j,hj=>by cases hj
 |i::l,h,j,hj=>by
  obtain⟨h1,h2⟩:=bW.1 (show cb (Option.rec (motive:=fun _=>Bool) false (fun o=>shU wt an B i (o.looksAt ops)) (drp i ops.toList).head?) (shV ops wt an B l) false=true from h);rcases List.mem_cons.1 hj with rfl|hj
  ·cases hg:(drp j ops.toList).head? with
   |none=>rw[hg]at h1;cases h1
   |some o=>rw[hg]at h1;exact⟨o,by simpa using dW hg,h1⟩
  ·exact aKp h2 j hj
theorem aKq{wt an:T 3 Nat}{B:List (Nat × List Nat)}:∀{l:List (Nat × List Nat)},shW ops wt an B l=true→∀p∈l,shV ops wt an B p.2=true
 | [],_,p,hp=>by cases hp
 |q::l,h,p,hp=>by
  obtain⟨h1,h2⟩:=bW.1 (show cb (shV ops wt an B q.2) (shW ops wt an B l) false=true from h);rcases List.mem_cons.1 hp with rfl|hp
  ·exact h1
  ·exact aKq h2 p hp
def Rdy(ops:Array Oper)(L:Nat→Bool):Prop:=∃i o,ops[i]? =some o∧L i=false∧∀e∈o.after,Region.binds .any e=true→L e.on=true
structure Plan (F:Cf) (ops:Array Oper) (A:List Nat) (B:List (Nat × List Nat)):Prop where
 nd:(A++B.map Prod.fst).Nodup
 all:∀i,i<ops.size→i∈A++B.map Prod.fst
 a:∀l1 i l2,A=l1++i::l2→One F ops true l1 i 0
 b:∀l1 i rm l2,B=l1++(i,rm)::l2→One F ops false (A++l1.map Prod.fst) i (msN rm)
 wr:∀(i:Nat) (o:Oper) (t:Tmp) (j:Nat) (o':Oper),ops[i]? =some o→t∈o.looksAt ops→ops[j]? =some o'→o'.dst=some t→j=i∨Reach ops i j∨Reach ops j i
 un:∀(i j:Nat) (o o':Oper) (t:Tmp),ops[i]? =some o→ops[j]? =some o'→o.dst=some t→o'.dst=some t→i=j
 late:∀p∈B,∀j∈p.2,∃o,ops[j]? =some o∧∀t∈o.looksAt ops,∀(i:Nat) (o':Oper),ops[i]? =some o'→o'.dst=some t→Reach ops j i∨(i∈B.map Prod.fst∧Reach ops i j)
 ns:Region.noSelect ops=true
 dn:∀L:Nat→Bool,(∃j,j<ops.size∧L j=false)→Rdy ops L
 rm:∀q∈B,∀j∈q.2,j∉B.map Prod.fst
theorem aTj{l:List (Nat × List Nat)}{j:Nat}:(fsN l).testBit j=true↔j∈l.map Prod.fst:=by
 induction l with
 |nil=>simp[fsN]
 |cons p l ih=>
  show (Nat.lor (bit p.1) (fsN l)).testBit j=true↔_;rw[sO,ih,mD,List.map_cons,List.mem_cons,eq_comm]
theorem aKr{m:Nat}:∀{l:List (Nat × List Nat)},rmL m l=true→∀q∈l,∀j∈q.2,m.testBit j≠true
 | [],_,q,hq=>by cases hq
 |p::l,h,q,hq=>by
  obtain⟨h1,h2⟩:=bW.1 (show cb (Nat.beq (Nat.land (msN p.2) m) 0) (rmL m l) false=true from h);rcases List.mem_cons.1 hq with rfl|hq
  ·intro j hj hm;have h3:msN q.2 &&& m=0:=aM.1 h1;have h4:(msN q.2 &&& m).testBit j=true:=(by rw[Nat.testBit_and,aDZ.2 hj,hm];rfl);rw[h3]at h4;simp at h4
  ·exact aKr h2 q hq
theorem aTk{e:Edge}(h:Region.binds .any e=true):edg false e=true:=by
 obtain⟨on,g⟩:=e;cases g with
 |textOnly r=>cases h
 |gcOnly r=>cases h
 |_=>rfl
theorem aKs{L:Nat→Bool}:∀{l:List Oper} {k d:Nat},ops.toList.drop k=l→(∀j,d.testBit j=true→L j=false→Rdy ops L)→∀j,(tp1 l k d).testBit j=true→L j=false→Rdy ops L
 | [],k,d,_,h,j,hj,hL=>h j hj hL
 |o::l,k,d,hl,h,j,hj,hL=>by
  have e1:tp1 (o::l) k d=tp1 l (Nat.succ k) (cb (sub (msk false bit o.after.toList) d) (Nat.lor d (bit k)) d):=by
    show iL _ (tp1 l (Nat.succ k))=_;rw[aW]
  rw[e1]at hj;have ho:ops[k]? =some o:=by
    have:=congrArg List.head? hl;simpa using this
  have hl2:ops.toList.drop (k+1)=l:=by
    rw[←List.tail_drop,hl];rfl
  refine aKs hl2 (fun i hi hLi=>?_) j hj hL;rw[bU]at hi;split at hi
  ·rename_i hs;rcases sO.1 hi with hi|hi
   ·exact h i hi hLi
   ·have hk:=mD.1 hi;subst hk;by_cases hr:∃e∈o.after,Region.binds .any e=true∧L e.on=false
    ·obtain⟨e,he,hb,hLe⟩:=hr;exact h e.on (aDY hs (aIw.2 ⟨e,Array.mem_toList_iff.2 he,aTk hb,mD.2 rfl⟩)) hLe
    ·refine⟨k,o,ho,hLi,fun e he hb=>?_⟩;cases hLe:L e.on with
     |true=>rfl
     |false=>exact absurd ⟨e,he,hb,hLe⟩ hr
  ·exact h i hi hLi
theorem aKt{L:Nat→Bool}:∀{n d:Nat},(∀j,d.testBit j=true→L j=false→Rdy ops L)→∀j,(tpN ops.toList n d).testBit j=true→L j=false→Rdy ops L
 |0,_,h,j,hj,hL=>h j hj hL
 |n+1,d,h,j,hj,hL=>aKt (n:=n) (d:=tp1 ops.toList 0 d) (fun i hi hLi=>aKs (k:=0) List.drop_zero h i hi hLi) j hj hL
theorem aKu{A:List Nat}{B:List (Nat × List Nat)}(h:lU F ops (A,B)=true):Plan F ops A B:=by
 unfold lU at h;cases hs:ob (scA F ops.toList (A,B).1 ⟨0,.lf⟩) (scB F ops.toList (A,B).2) with
 |none=>rw[hs]at h;cases h
 |some s=>
  rw[hs]at h;obtain⟨h1,h2⟩:=bW.1 (show cb (Nat.beq (Nat.succ s.d) (bit (len ops.toList))) (cb (isS (wtL ops.toList 0 .lf) fun wt=>cb (shL ops wt s.an ops.toList 0) (shW ops wt s.an B B) false) (cb (rmL (fsN B) B) (cb (Nat.beq (Nat.succ (tpN ops.toList 8 0)) (bit (len ops.toList))) (Region.noSelect ops) false) false) false) false=true from h);obtain⟨h3,h40⟩:=bW.1 h2;obtain⟨h41,h42⟩:=bW.1 h40;obtain⟨h43,h4⟩:=bW.1 h42;obtain⟨s1,h5,h6⟩:=aA.1 hs;have h0:ScI ops ⟨0,.lf⟩ []:=⟨fun j=>by simp,fun i a j hk=>(by rw[T.get_lf]at hk;cases hk),List.nodup_nil⟩
  obtain⟨h7,h8⟩:=aKk h0 h5;obtain⟨h9,h10⟩:=aKl h7 h6;simp only[List.nil_append]at h8 h9 h10;cases hw:wtL ops.toList 0 .lf with
  |none=>rw[hw]at h3;cases h3
  |some wt=>
   rw[hw]at h3;obtain⟨h11,h12⟩:=bW.1 (show cb (shL ops wt s.an ops.toList 0) (shW ops wt s.an B B) false=true from h3);have hget:∀i o t,ops[i]? =some o→o.dst=some t→wt.get t=some i:=fun i o t ho hd=>by
      have:=(lT h11 i o (by simpa using ho)).1;rw[hd,Nat.zero_add]at this;exact aRo this
   refine⟨h9.nd,fun i hi=>(h9.d i).1 ?_,h8,h10,fun i o t j o' ho ht ho' hd=>?_,fun i j o o' t ho ho' hd hd'=>?_,fun p hp j hj=>?_,h4,fun L hL=>?_,fun q hq j hj hm=>aKr h41 q hq j hj (aTj.2 hm)⟩
   ·have h13:s.d+1=2^ops.size:=by
       have:=aM.1 h1;rw[show bit (len ops.toList)=2^(len ops.toList) from (by show 1<<<_=_;rw[Nat.one_shiftLeft]),aT]at this;simpa using this
    have h14:s.d=2^ops.size-1:=(by omega);rw[h14,Nat.testBit_two_pow_sub_one];simpa using hi
   ·have h13:=(lT h11 i o (by simpa using ho)).2;rw[Nat.zero_add]at h13;rcases aKm h13 t ht j (hget j o' t ho' hd) with q|q|q
    ·exact .inl q
    ·exact .inr (.inl (aD0 h9 q))
    ·exact .inr (.inr (aD0 h9 q))
   ·have:=(hget i o t ho hd).symm.trans (hget j o' t ho' hd');injection this
   ·obtain⟨o,k1,k2⟩:=aKp (aKq h12 p hp) j hj;exact⟨o,k1,fun t ht i o' ho' hd=>(aPi (aKo k2 t ht i (hget i o' t ho' hd))).imp (fun q=>aD0 h9 q) fun q=>⟨q.1,aD0 h9 q.2⟩⟩
   ·obtain⟨j,hj,hLj⟩:=hL;refine aKt (n:=8) (d:=0) (fun i hi=>by simp at hi) j ?_ hLj;have h13:tpN ops.toList 8 0+1=2^ops.size:=by
       have:=aM.1 h43;rw[show bit (len ops.toList)=2^(len ops.toList) from (by show 1<<<_=_;rw[Nat.one_shiftLeft]),aT]at this;simpa using this
    have h14:tpN ops.toList 8 0=2^ops.size-1:=(by omega);rw[h14,Nat.testBit_two_pow_sub_one];simpa using hj
end
end E
end Go.Proofs.YtohcfjmkfflkpaaGreatDoor
