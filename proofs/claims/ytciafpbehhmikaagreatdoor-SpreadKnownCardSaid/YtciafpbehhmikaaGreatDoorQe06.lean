/- SpreadKnown holds. No condition. -/
import Derived.Laws.RangeString
import Derived.Test.YtciafpbehhmikaaGreatDoorQe05
namespace Go.Proofs.YtciafpbehhmikaaGreatDoor.E
open Go Go.RowKit
open Ma Me K
structure FOk (F:Cf):Prop where
 ng:∀(f:Nat) (G:Func),F.P.funcs[f]? =some G→(G.name == "runtime.NumGoroutine")=false
 tq:∀w w',Q w w'→F.tb w→F.tb w'
 pr:∀(fn:Nat) (g:List AV→Option AV) (args:List AV) (v:AV),F.pr fn=some g→g args=some v→∀(c:Cx) (vs:List Value),F.tb c.w→VL c args vs→
  Calls F.P fn vs.toArray c.w fun e w'=>∃u,e=.returned u∧Q c.w w'∧VR ⟨c.n,c.k,c.r,w',c.z⟩ v u
 ro:aGg F
 ln:aGq F
 ph:∀(fn:Nat) (g:H→List AV→Option AV) (h:H) (args:List AV) (v:AV),F.ph fn=some g→g h args=some v→∀(c:Cx) (wb:World) (vs:List Value),Rl c wb h→(∀t,c.z t=F.P.cellsOf t)→F.tb c.w→VL c args vs→
  Calls F.P fn vs.toArray c.w fun e w'=>∃u,e=.returned u∧Q c.w w'∧VR ⟨c.n,c.k,c.r,w',c.z⟩ v u
section
variable {F:Cf} {c d:Cx} {wb:World} {h h':H} {q:Bool} {nt fn:Nat} {e e':Env} {a a':Act} {b:Frame} {ex:bL} {o:Oper} {ops:Array Oper} {i:Nat} {v:AV}
def kZ(F:Cf)(nt:Nat)(ops:Array Oper)(i:Nat)(o:Oper)(e:Env)(h:H)(v:AV)(h':H):Prop:=
 ∀(c:Cx) (wb:World) (a:Act),Fr F c wb nt h e a→Region.wanted o (yielded ops a.tmps)=true→∀(b:Frame) (rest:List Nat) (k:List Item) (cs:List Frame),
  ∃u d,Xt c d∧Rl d wb h'∧VR d v u∧Steps F.P (lone (b.atR a (.inRegion ops (i::rest)::k)) cs c.w) (lone (b.atR (a.put o.dst u) (.inRegion ops rest::k)) cs d.w)
theorem fin(ho:ops[i]? =some o){rest:List Nat}{k:List Item}{u:Value}:(b.atR a (.inRegion ops (i::rest)::k)).finish u=b.atR (a.put o.dst u) (.inRegion ops rest::k):=by
 rw[Frame.finish_atR,ho];rfl
theorem aGt{P:Program}(ho:ops[i]? =some o)(hw:Region.wanted o (yielded ops a.tmps)=true)(hnd:∀c,o.op≠.defer c){w w':World}{u:Value}(hr:OpR P a.eval o w u w'){rest:List Nat}{k:List Item}{cs:List Frame}:
  step P (lone (b.atR a (.inRegion ops (i::rest)::k)) cs w)=.next (lone (b.atR (a.put o.dst u) (.inRegion ops rest::k)) cs w'):=by
 have hg:=stepGR_op (P:=P) (b:=b) (k:=k) (cs:=cs) (w:=w) (rest:=rest) ho hw;rw[Oper.semAt_eq _ _ _ hnd]at hg;refine step_lone_go ?_;rw[hg,←fin (k:=k) ho];rcases hr with hr|⟨hr,rfl⟩
 ·simp[stepG.apply,Sem.runT_eq,hr,GStep.bare_after]
 ·simp[stepG.apply,Sem.runT_eq,hr,GStep.bare_after]
theorem bG(ho:ops[i]? =some o)(hnd:∀c,o.op≠.defer c)(hx:∀(c:Cx) (wb:World) (a:Act),Fr F c wb nt h e a→∃u w',OpR F.P a.eval o c.w u w'∧Po c wb h' v u w'):kZ F nt ops i o e h v h':=by
 intro c wb a f hw b rest k cs;obtain⟨u,w',h1,d,rfl,X,R,V⟩:=hx c wb a f;exact⟨u,d,X,R,V,.one (aGt ho hw hnd h1)⟩
theorem xU(ho:ops[i]? =some o){f0:Nat}{args:Array Value}(hnd:∀c,o.op≠.defer c)(hw:Region.wanted o (yielded ops a.tmps)=true)(hrun:(execOp a.eval o).run F.P c.w=.ok (.enter f0 args) c.w)(hc:Calls F.P f0 args c.w fun e w'=>∃u d,e=.returned u∧d.w=w'∧Xt c d∧Rl d wb h'∧VR d v u)
  {rest:List Nat} {k:List Item} {cs:List Frame}:∃u d,Xt c d∧Rl d wb h'∧VR d v u∧Steps F.P (lone (b.atR a (.inRegion ops (i::rest)::k)) cs c.w) (lone (b.atR (a.put o.dst u) (.inRegion ops rest::k)) cs d.w):=by
 have hg:=stepGR_op (P:=F.P) (b:=b) (k:=k) (cs:=cs) (w:=c.w) (rest:=rest) ho hw;rw[Oper.semAt_eq _ _ _ hnd]at hg;obtain⟨e,w',fr,⟨u,d,rfl,rfl,X,R,V⟩,hs,hfn,hl⟩:=hc (b.atR a (.inRegion ops (i::rest)::k)::cs);have henter:step F.P (lone (b.atR a (.inRegion ops (i::rest)::k)) cs c.w)=.next (lone (Frame.enter F.P f0 args .normal) (b.atR a (.inRegion ops (i::rest)::k)::cs) c.w):=
  step_lone_go (by rw[hg];simp[stepG.apply,Sem.runT_eq,hrun,Frame.atR,GStep.bare_after])
 refine⟨u,d,X,R,V,.head henter (Steps.trans hs (.one ?_))⟩;rw[←fin (k:=k) ho];exact step_leave_returned hl
theorem aCr{cs:List (Nat × Nat)}(h:∀p∈cs,c.k p.1):VL c (uU cs) (cs.map (ptr c)):=by
 induction cs with
 |nil=>trivial
 |cons p cs ih=>exact⟨aF.2 ⟨h p (List.mem_cons_self ..),rfl⟩,ih fun q hq=>h q (List.mem_cons_of_mem _ hq)⟩
theorem Rl.q'(hr:Rl c wb h){w':World}(hq:Q c.w w'):Xt c ⟨c.n,c.k,c.r,w',c.z⟩∧Rl ⟨c.n,c.k,c.r,w',c.z⟩ wb h:=by
 have X:Xt c ⟨c.n,c.k,c.r,w',c.z⟩:=⟨Nat.le_refl _,fun _ h=>h,fun _ h=>.inl h,fun _ _=>rfl,Ps.q hq,rfl⟩
 exact⟨X,hr.n,hr.k,hr.q.trans hq,fun id b hg=>⟨(hr.blk id b hg).1,fun hc=>((hr.blk id b hg).2 hc).xt X (hq.heap ((hr.blk id b hg).2 hc).lt)⟩,hr.inj,hr.new,
  fun l p hl=>⟨(hr.lp l p hl).1,fun q=>⟨((hr.lp l p hl).2 q).1.xt X (hq.heap ((hr.lp l p hl).2 q).1.lt),((hr.lp l p hl).2 q).2⟩⟩,hr.li⟩
theorem gQ(hF:FOk F)(hex:gH F ex){args:List AV}{vs:List Value}(hx:aY F ex fn args h=some (v,h'))(hr:Rl c wb h)(hz:∀t,c.z t=F.P.cellsOf t)(hb:F.tb wb)(ha:VL c args vs):
  (∃G,F.P.funcs[fn]? =some G∧G.body.isSome=true)∧CR F fn vs c wb v h':=by
 obtain⟨G,h1,h2⟩:=aA.1 hx;obtain⟨cd,h3,h4⟩:=aA.1 h2;refine⟨⟨G,h1,by rw[h3];rfl⟩,?_⟩;cases hp:F.pr fn with
 |none=>
  rw[hp]at h4;have h4:Option.rec (motive:=fun _=>Option VH) (iK F ex G cd fn args h) (fun g=>Option.rec (motive:=fun _=>Option VH) (iK F ex G cd fn args h) (fun v=>some (v,h)) (g h args)) (F.ph fn)=some (v,h'):=h4;cases hq:F.ph fn with
  |none=>
   rw[hq]at h4;exact aAW hex h1 h3 h4 hr hz hb ha
  |some g=>
   rw[hq]at h4;have h4:Option.rec (motive:=fun _=>Option VH) (iK F ex G cd fn args h) (fun v=>some (v,h)) (g h args)=some (v,h'):=h4;cases hv:g h args with
   |none=>
    rw[hv]at h4;exact aAW hex h1 h3 h4 hr hz hb ha
   |some v1=>
    rw[hv]at h4;have h4:some (v1,h)=some (v,h'):=h4;injection h4 with h6;injection h6 with h6 h7;subst h6;subst h7;refine (hF.ph fn g h args v1 hq hv c wb vs hr hz (hF.tq _ _ hr.q hb) ha).mono ?_;rintro e w' ⟨u,rfl,hq2,hv2⟩;obtain⟨X,R⟩:=hr.q' hq2;exact⟨u,⟨c.n,c.k,c.r,w',c.z⟩,rfl,rfl,X,R,hv2⟩
 |some g=>
  rw[hp]at h4;obtain⟨v1,h5,h6⟩:=aA.1 (show (ob (g args) fun v=>some (v,h))=some (v,h') from h4);injection h6 with h6;injection h6 with h6 h7;subst h6;subst h7;refine (hF.pr fn g args v1 hp h5 c vs (hF.tq _ _ hr.q hb) ha).mono ?_;rintro e w' ⟨u,rfl,hq,hv⟩;obtain⟨X,R⟩:=hr.q' hq;exact⟨u,⟨c.n,c.k,c.r,w',c.z⟩,rfl,rfl,X,R,hv⟩
theorem jF{P:Program}{f0:Nat}{G:Func}(hg:P.funcs[f0]? =some G)(hn:(G.name == "runtime.NumGoroutine")=false)(hb:G.body.isSome=true)(args:Array Value)(w:World):(callFunc f0 args).run P w=.ok (.enter f0 args) w:=by
 have hb':¬G.body=none:=fun e=>by rw[e]at hb;cases hb
 have hn':¬G.name="runtime.NumGoroutine":=by simpa using hn
 simp[callFunc,hg,hn',hb']
theorem aEP{P:Program}{f0:Nat}{G:Func}{g:Operand}{xs:Array Operand}{ats:Array TypeId}{fE:Array Value}(ho:o.op=.call {callee:=.value g,args:=xs,argTypes:=ats})(hv:a.eval g=.func (.func f0) #[] fE)(hg:P.funcs[f0]? =some G)(hn:(G.name == "runtime.NumGoroutine")=false)(hb:G.body.isSome=true)(w:World):
  (execOp a.eval o).run P w=.ok (.enter f0 (xs.map a.eval++fE)) w:=by
 unfold execOp;rw[ho];simp only[resolve,hv,Deferred.ofValue,Sem.run_bind,Sem.run_pure,Result.andThen_ok,invoke,Array.empty_append];exact jF hg hn hb _ w
theorem aEQ{d0:Option Nat}{α:Type}{kk:Env→Option α}{r:α}(h:put nt e d0 v kk=some r):∃e2,kk e2=some r∧∀(c:Cx) (a:Act) (u:Value),Tr c nt e a.tmps→VR c v u→Tr c nt e2 (a.put d0 u).tmps:=by
 cases d0 with
 |none=>exact⟨e,h,fun c a u ht _=>ht⟩
 |some k=>
  obtain⟨h1,h2⟩:=aC.1 (show cb (Nat.blt k nt) (kk (e.set v k)) none=some r from h);have h1:=aT.1 h1;refine⟨_,h2,fun c a u ht hv=>⟨by simpa [Act.put] using ht.1,fun j x hj=>?_⟩⟩;have hsz:=ht.1;rcases T.get_set hj with⟨rfl,rfl⟩|⟨h3,h4⟩
  ·refine⟨u,?_,hv⟩;have hlt:j<a.tmps.size:=(by omega);simp[Act.put,hlt]
  ·obtain⟨u2,k1,k2⟩:=ht.2 j x h4;refine⟨u2,?_,k2⟩;simp only[Act.put,Array.getElem?_setIfInBounds];rw[if_neg (fun e=>h3 e.symm)];exact k1
theorem aKr{x:Option AV}{w bb:Bool}(h:isB x w=some bb):∃av,x=some av∧((∃y,av=sc (.b y)∧bb=(y == w))∨(av=un∧bb=false)):=by
 obtain⟨av,h1,h2⟩:=aA.1 h;refine⟨av,h1,?_⟩;split at h2
 ·rename_i y;injection h2 with h2;refine .inl ⟨y,rfl,?_⟩;rw[←h2];cases w<;>cases y<;>rfl
 ·injection h2 with h2;exact .inr ⟨rfl,h2.symm⟩
 ·cases h2
theorem kU{bb:Bool}(hx:wanted ops.toList e o.guard=some bb)(ht:Tr c nt e a.tmps):Region.wanted o (yielded ops a.tmps)=bb:=by
 unfold Region.wanted;cases hg:o.guard with
 |none=>
  rw[hg]at hx;injection hx with hx
 |some p=>
  obtain⟨j,w⟩:=p;rw[hg]at hx;obtain⟨o2,h1,h2⟩:=aA.1 (show (ob (drp j ops.toList).head? fun o=>ob o.dst fun d=>isB (e.get d) w)=some bb from hx);obtain⟨k,h3,h4⟩:=aA.1 h2;have h5:ops[j]? =some o2:=(by simpa using bN h1);obtain⟨av,h6,h7⟩:=aKr h4;obtain⟨u,h8,h9⟩:=ht.2 k av h6;show (yielded ops a.tmps j == some w)=bb;rcases h7 with⟨y,rfl,rfl⟩|⟨rfl,rfl⟩
  ·have hu:u=.bool y:=aF.1 h9;subst hu;have:yielded ops a.tmps j=some y:=(by simp[yielded,h5,h3,h8]);rw[this];rfl
  ·obtain⟨vs,hu,hv⟩:=h9;have hv0:vs=[]:=by
     cases vs with
     |nil=>rfl
     |cons x l=>exact hv.elim
   subst hv0;subst hu;have:yielded ops a.tmps j=none:=(by simp[yielded,h5,h3,h8]);rw[this];rfl
theorem aAX{call:bD}{r:R}(hop:∀(j:Nat) (o:Oper) (e:Env) (h:H) (v:AV) (h':H),ops[j]? =some o→op1 F call o.op e h=some (v,h')→kZ F nt ops j o e h v h'):∀{l:List Oper} {j:Nat} {e:Env} {h:H},ops.toList.drop j=l→jB F nt call ops.toList l e h=some r→r.x=.n∧∀(c:Cx) (wb:World) (a:Act),Fr F c wb nt h e a→∀(b:Frame) (k:List Item) (cs:List Frame),∃a' d,Be F c wb nt b a r.h r.e a' d∧Steps F.P (lone (b.atR a (.inRegion ops (List.range' j l.length)::k)) cs c.w) (lone (b.atR a' k) cs d.w)
 | [],j,e,h,hl,hx=>by
   injection hx with hx;subst hx;exact⟨rfl,fun c wb a f b k cs=>⟨a,c,Be.refl f,.one stepR_region_end⟩⟩
 |o::l,j,e,h,hl,hx=>by
  have hj:j<ops.toList.length:=by
    rcases Nat.lt_or_ge j ops.toList.length with h1|h1
    ·exact h1
    ·rw[List.drop_eq_nil_of_le h1]at hl;cases hl
  have ho:ops[j]? =some o:=by
    have:=congrArg List.head? hl;simpa using this
  have hl2:ops.toList.drop (j+1)=l:=by
    rw[←List.tail_drop,hl];rfl
  have e1:jB F nt call ops.toList (o::l) e h=jR F nt call ops.toList (jB F nt call ops.toList l) o e h:=rfl;rw[e1]at hx;unfold jR at hx;obtain⟨bb,h1,h2⟩:=aA.1 hx;rw[aR]at h2;split at h2
  ·rename_i hbb;obtain⟨⟨v,h3⟩,h4,h5⟩:=aA.1 h2;obtain⟨e2,h6,h7⟩:=aEQ h5;obtain⟨h8,h9⟩:=aAX hop hl2 h6;refine⟨h8,fun c wb a f b k cs=>?_⟩;obtain⟨u,d,X,R,V,S⟩:=hop j o e h v h3 ho h4 c wb a f ((kU h1 f.t).trans hbb) b (List.range' (j+1) l.length) k cs;have f2:Fr F d wb nt h3 e2 (a.put o.dst u):=⟨R,fun t=>by rw[X.z];exact f.z t,h7 d a u (f.t.xt X) V,f.b⟩
   obtain⟨a',d2,B,S2⟩:=h9 d wb (a.put o.dst u) f2 b k cs;have B1:Be F c wb nt b a h3 e2 (a.put o.dst u) d:=⟨X,f2,[],by cases o.dst<;>rfl,trivial,fun _=>rfl⟩
   exact⟨a',d2,B1.trans B,S.trans S2⟩
  ·rename_i hbb;obtain⟨e2,h6,h7⟩:=aEQ h2;obtain⟨h8,h9⟩:=aAX hop hl2 h6;refine⟨h8,fun c wb a f b k cs=>?_⟩;have hw:Region.wanted o (yielded ops a.tmps)=false:=by
     rw[kU h1 f.t];cases bb<;>first|rfl|exact absurd rfl hbb
   have S:=stepR_op_skip (P:=F.P) (b:=b) (a:=a) (k:=k) (cs:=cs) (w:=c.w) (ops:=ops) (i:=j) (rest:=List.range' (j+1) l.length) (by simp[ho,hw]);simp only[ho,Option.bind_some]at S;have f2:Fr F c wb nt h e2 (a.put o.dst undef):=⟨f.r,f.z,h7 c a undef f.t pU,f.b⟩
   obtain⟨a',d2,B,S2⟩:=h9 c wb (a.put o.dst undef) f2 b k cs;have B1:Be F c wb nt b a h e2 (a.put o.dst undef) c:=⟨Xt.refl c,f2,[],by cases o.dst<;>rfl,trivial,fun _=>rfl⟩
   exact⟨a',d2,B1.trans B,.head S S2⟩
theorem aGu{id:Nat}{call:bD}{r:R}(hop:∀(j:Nat) (o:Oper) (e:Env) (h:H) (v:AV) (h':H),ops[j]? =some o→op1 F call o.op e h=some (v,h')→kZ F nt ops j o e h v h')(hx:jB F nt call ops.toList ops.toList e h=some r):fF F q nt fn (.region id ops false) e h r:=by
 obtain⟨h1,h2⟩:=aAX hop (j:=0) (List.drop_zero) hx;intro c wb a f b k cs _ _;obtain⟨a',d,B,S⟩:=h2 c wb a f b k cs;refine⟨a',d,B,?_⟩;rw[h1];refine .head stepR_region ?_;rw[List.range_eq_range'];simpa using S
end
end Go.Proofs.YtciafpbehhmikaaGreatDoor.E
namespace Go.Proofs.YtciafpbehhmikaaGreatDoor.E
open Go Go.RowKit
open Ma Me K
section
variable {F:Cf} {c d:Cx} {wb:World} {h h':H} {q:Bool} {nt fn:Nat} {e e':Env} {a a':Act} {b:Frame} {ex:bL} {v:AV} {o:Oper}
theorem aKs{w:World}{g:Nat}{o o':Obj}(hg:w.heap[g]? =some o)(hc:∀cs t fr,o≠.cells cs t fr)(hd:∀x,o≠.deferred x):Ps w (w.putObj g o'):=
 ⟨fun v N hv=>aEK hg hc hv,fun _ _ hv=>aEL hg hc hv,fun k t cs fr hk=>⟨cs,by
  rw[World.putObj_heap_other (fun e=>by rw[e,hg]at hk;injection hk with hk;exact hc _ _ _ hk)];exact hk,rfl⟩,by rw[World.putObj_size];exact Nat.le_refl _,fun k hk=>by
  rw[World.putObj_heap_other (fun e=>by rw[e,hg]at hk;injection hk with hk;exact hd _ hk)];exact hk⟩
theorem rO{g:Nat}{o o':Obj}(hg:c.w.heap[g]? =some o)(hc:∀cs t fr,o≠.cells cs t fr)(hd:∀x,o≠.deferred x):Xt c (c.obj g o'):=
 ⟨Nat.le_refl _,fun _ h=>h,fun _ h=>.inl h,fun _ _=>rfl,aKs hg hc hd,rfl⟩
theorem Rl.loop(hr:Rl c wb h){l:Nat}{p p':Lp}{o o':Obj}(hl:h.l.get l=some p)(hk:c.k l)(hb:h.bar≤l)(hg:c.w.heap[c.r l]? =some o)(hc:∀cs t fr,o≠.cells cs t fr)(hd:∀x,o≠.deferred x)(hp:LpR (c.obj (c.r l) o') p' (c.r l)):
  Rl (c.obj (c.r l) o') wb (h.putLp l p'):=by
 have hwb:wb.heap.size≤c.r l:=((hr.lp l p hl).2 hk).2 hb;have X:Xt c (c.obj (c.r l) o'):=rO hg hc hd;have hoth:∀k,k≠c.r l→(c.obj (c.r l) o').w.heap[k]? =c.w.heap[k]? :=fun k hk=>World.putObj_heap_other hk;have hne:∀{b:B} {k:Nat},Bl c b k→k≠c.r l:=fun {b k} hb e=>by
  obtain⟨row,tail,h1,-⟩:=hb;subst e;unfold Bx at h1;rw[h1]at hg;injection hg with hg;exact hc _ _ _ hg.symm
 have hold:∀{j:Nat} {p2:Lp},(h.putLp l p').l.get j=some p2→∃p3,h.l.get j=some p3:=fun {j p2} hj=>by
  rcases T.get_set hj with⟨rfl,rfl⟩|⟨h1,h2⟩
  ·exact⟨_,hl⟩
  ·exact⟨_,h2⟩
 refine⟨hr.n,hr.k,aHD hr.q hwb,fun id b hi=>⟨(hr.blk id b hi).1,fun hh=>((hr.blk id b hi).2 hh).xt X (hoth _ (hne ((hr.blk id b hi).2 hh)))⟩,hr.inj,hr.new,fun j p2 hj=>?_,fun i j p2 d2 hi hj ki kj hij=>?_⟩
 ·rcases T.get_set hj with⟨rfl,rfl⟩|⟨h1,h2⟩
  ·exact⟨(hr.lp _ p hl).1,fun _=>⟨hp,fun _=>hwb⟩⟩
  ·exact⟨(hr.lp j p2 h2).1,fun kj=>⟨((hr.lp j p2 h2).2 kj).1.xt X (hoth _ (hr.li j l p2 p h2 hl kj hk h1)),((hr.lp j p2 h2).2 kj).2⟩⟩
 ·obtain⟨p3,hi⟩:=hold hi;obtain⟨p4,hj⟩:=hold hj;exact hr.li i j p3 p4 hi hj ki kj hij
theorem Rl.itn(hr:Rl c wb h){p:Lp}{o:Obj}(hp:LpR (c.nw o) p c.w.heap.size):Rl (c.nw o) wb ⟨h.h,Nat.succ h.n,h.bar,h.l.set p h.n⟩:=by
 have hn:=hr.n;have hsz:=hr.size;have X:=vW (c:=c) hr.k o;have hold:∀k,k<c.w.heap.size→(c.nw o).w.heap[k]? =c.w.heap[k]? :=fun k hk=>Below.heap_alloc _ _ k hk;have key:∀id p',(T.set p h.l h.n).get id=some p'→(id=h.n∧p'=p)∨(id<h.n∧h.l.get id=some p'):=fun id p' hg=>by
  rcases T.get_set hg with⟨h1,h2⟩|⟨h1,h2⟩
  ·exact .inl ⟨h1,h2⟩
  ·exact .inr ⟨(hr.lp id p' h2).1,h2⟩
 have kk:∀{id},id<h.n→(c.nw o).k id→c.k id:=fun hi q=>q.elim (fun q=>q) fun q=>by omega
 have lv:∀{id b'},id<h.n→Lv (c.nw o) id b'→Lv c id b':=fun hi q=>⟨kk hi q.1,q.2⟩
 refine⟨by show c.n+1=h.n+1;rw[hn],fun id q=>by show id<c.n+1;exact q.elim (fun q=>Nat.lt_succ_of_lt (hr.k id q)) fun q=>by omega,hr.q.alloc _,fun id b' hg=>?_,fun i j b' d hi hj hb' hd hij=>?_,fun id b' hg hc hbar=>?_,fun l p' hl=>?_,fun i j p' d hi hj ki kj hij=>?_⟩
 ·have h1:=(hr.blk id b' hg).1;refine⟨Nat.lt_succ_of_lt h1,fun hc=>?_⟩;rw[dC _ (by omega)];have:=(hr.blk id b' hg).2 (lv h1 hc);exact this.xt X (hold _ this.lt)
 ·have h1:=(hr.blk i b' hi).1;have h3:=(hr.blk j d hj).1;rw[dC _ (by omega),dC _ (by omega)];exact hr.inj i j b' d hi hj (lv h1 hb') (lv h3 hd) hij
 ·have h1:=(hr.blk id b' hg).1;rw[dC _ (by omega)];exact hr.new id b' hg (lv h1 hc) hbar
 ·rcases key l p' hl with⟨rfl,rfl⟩|⟨h1,h2⟩
  ·refine⟨Nat.lt_succ_self _,fun _=>?_⟩;rw[←hn,nT];exact⟨hp,fun _=>by omega⟩
  ·refine⟨Nat.lt_succ_of_lt h1,fun q=>?_⟩;rw[dC _ (by omega)];obtain⟨h3,h4⟩:=(hr.lp l p' h2).2 (kk h1 q);exact⟨h3.xt X (hold _ h3.lt),h4⟩
 ·rcases key i p' hi with⟨rfl,rfl⟩|⟨h1,h2⟩
  ·rcases key j d hj with⟨rfl,rfl⟩|⟨h3,h4⟩
   ·exact absurd rfl hij
   ·have:=((hr.lp j d h4).2 (kk h3 kj)).1.lt;rw[←hn,nT,dC _ (by omega)];omega
  ·have h5:=((hr.lp i p' h2).2 (kk h1 ki)).1.lt;rcases key j d hj with⟨rfl,rfl⟩|⟨h3,h4⟩
   ·rw[dC _ (by omega),←hn,nT];omega
   ·rw[dC _ (by omega),dC _ (by omega)];exact hr.li i j p' d h2 h4 (kk h1 ki) (kk h3 kj) hij
theorem aHE{g k:Nat}{s:ByteArray}{l:List Nat}(hg:c.w.heap[g]? =some (.stringIter s k))(hs:bytes s=l):LpR c (itL l k) g:=
 ⟨_,hg,fun _ _ _ e=>(by cases e),fun _ e=>(by cases e),fun e=>(by cases e),fun l' k' e=>(by
  injection e with e;injection e with e1 e2;subst e1;subst e2;exact⟨s,rfl,hs⟩)⟩
theorem aIJ{t:Nat}{x:Operand}(hr:Rl c wb h)(ht:Tr c nt e a.tmps)(ho:o.op=.range t x)(hx:qZ F e h t x=some (v,h')):∃u w',OpR F.P a.eval o c.w u w'∧Po c wb h' v u w':=by
 obtain⟨i,h1,h2⟩:=aA.1 hx;obtain⟨v1,h3,h4⟩:=aA.1 h2;obtain⟨s,rfl,h5⟩:=aH.1 h4;split at h5
 ·rename_i l hd;rw[aO]at h5;have h6:=aS h5;injection h6 with h6 h7;subst h6;subst h7;obtain⟨st,hs1,hs2⟩:=aF.1 (aU ht h3);have hrun:=run_range_string (P:=F.P) c.w t st (mK (aK h1) hd);rw[←hs1]at hrun;have R:=hr.itn (p:=itL l 0) (o:=.stringIter st 0) (aHE (Array.getElem?_push_size ..) hs2);refine⟨_,_,OpR.vl (s:=Instr.range t (a.eval x)) (by unfold execOp;rw[ho]) hrun,_,rfl,vW hr.k _,R,aF.2 ⟨.inr hr.n.symm,?_⟩⟩;rw[←hr.n,nT]
 ·cases h5
theorem run_next_at{P:Program}{w:World}{g pos:Nat}{s:ByteArray}(hg:w.heap[g]? =some (.stringIter s pos))(ty:TypeId)(h:pos<s.size)(ha:(s[pos]'h).toNat<128):
  (Instr.next (.pointer (some ⟨g,0,none⟩)) true ty).run P w=.ok (.tuple #[.bool true,.int .i64 pos,.int .i32 (s[pos]'h).toNat]) (w.putObj g (.stringIter s (pos+1))):=by
 simp only[Instr.next,getObj,setObj,Sem.run_bind,Sem.run,hg,Result.andThen,h,if_true,decode_ascii s pos h ha];simp[goInt,World.putObj]
theorem zG{P:Program}{w:World}{g pos:Nat}{s:ByteArray}(hg:w.heap[g]? =some (.stringIter s pos))(ty:TypeId)(h:¬pos<s.size):(Instr.next (.pointer (some ⟨g,0,none⟩)) true ty).run P w=.ok (.tuple #[.bool false]) w:=by
 simp[Instr.next,getObj,Sem.run,hg,h]
theorem aKt{x:Operand}{bb:Bool}(hr:Rl c wb h)(ht:Tr c nt e a.tmps)(ho:o.op=.next x bb)(hx:vR e h x bb=some (v,h')):∃u w',OpR F.P a.eval o c.w u w'∧Po c wb h' v u w':=by
 obtain⟨rfl,h1⟩:=aC.1 hx;obtain⟨v1,h2,h3⟩:=aA.1 h1;obtain⟨s,rfl,h4⟩:=aH.1 h3;have he:execOp a.eval o=(do pure (Next.value (←Instr.next (a.eval x) true o.type))):=by unfold execOp;rw[ho]
 split at h4
 ·rename_i id off;obtain⟨h5,h6⟩:=aC.1 h4;obtain⟨h7,h8⟩:=aC.1 h6;obtain⟨p,h9,h10⟩:=aA.1 h8;obtain⟨⟨l,k⟩,h11,h12⟩:=aA.1 h10;have h5:=aJ.1 h5;subst h5;obtain⟨hid,hp⟩:=aF.1 (aU ht h2);obtain⟨ob,g1,g2,g3,g4,g5⟩:=((hr.lp id p h9).2 hid).1;obtain⟨st,rfl,hs⟩:=g5 l k h11;have h12:Option.rec (motive:=fun _=>Option VH) (some (.t [(false,[.b false])],h)) (nx1 h id l k) (drp k l).head? =some (v,h'):=h12;rw[kS,List.head?_drop]at h12;have hsz:l.length=st.size:=(by rw[←hs,aZ]);cases hb:l[k]? with
  |none=>
   rw[hb]at h12;injection h12 with h12;injection h12 with h13 h14;subst h13;subst h14;have hk:¬k<st.size:=by
     have:=List.getElem?_eq_none_iff.1 hb;omega
   exact⟨_,c.w,OpR.vl he (by rw[hp];exact zG g1 _ hk),Po.same hr ⟨[.bool false],rfl,⟨_,rfl,rfl⟩,trivial⟩⟩
  |some b=>
   rw[hb]at h12;obtain⟨h13,h14⟩:=aC.1 (show nx1 h id l k b=some (v,h') from h12);rw[aO]at h14;injection h14 with h14;injection h14 with h15 h16;subst h15;subst h16;have h13:=aT.1 h13;have hk:k<st.size:=by
     have:=(List.getElem?_eq_some_iff.1 hb).1;omega
   have hbb:(st[k]'hk).toNat=b:=by
     have h2:(bytes st)[k]? =some b:=(by rw[hs];exact hb);have h3:=(List.getElem?_eq_some_iff.1 h2).2;unfold bytes at h3;rw[List.getElem_map]at h3;exact h3
   have hrun:=run_next_at (P:=F.P) g1 o.type hk (by rw[hbb];exact h13);rw[←hp,hbb]at hrun;have X:Xt c (c.obj (c.r id) (.stringIter st (k+1))):=rO g1 g2 g3;refine⟨_,_,OpR.vl he hrun,_,rfl,X,hr.loop h9 hid (bM.1 h7) g1 g2 g3 (aHE (World.putObj_heap_same (Array.getElem?_eq_some_iff.1 g1).1) hs),⟨[.bool true,.int .i64 k,.int .i32 b],rfl,⟨_,rfl,rfl⟩,⟨_,rfl,rfl⟩,⟨_,rfl,rfl⟩,trivial⟩⟩
 ·cases h4
theorem aLL{h:H}{at_:List Nat}{args:List AV}{args':List Value}{t2:TypeId}(hr:Rl c wb h)(hx:bi F h .cap at_ args=some (v,h'))(ha:VL c args args'):∃u w',(Builtin.cap_ at_.toArray t2 args'.toArray).run F.P c.w=.ok u w'∧Po c wb h' v u w':=by
 unfold bi at hx;dsimp only at hx;split at hx
 ·rename_i t x;obtain⟨i,h1,h2⟩:=aA.1 hx;obtain⟨s,rfl,h3⟩:=aH.1 h2;obtain⟨u,rfl,hu⟩:∃u,args'=[u]∧VR c (sc s) u:=by
   match args',ha with
   | [u],ha=>exact⟨u,rfl,ha.1⟩
  have hp:=aF.1 hu;split at h3
  ·rename_i el hd;have h4:=aS h3;injection h4 with h4 h5;subst h4;subst h5;cases hp;refine⟨.int .i64 0,c.w,?_,Po.same hr (aF.2 rfl)⟩;simp[Builtin.cap_,run_underlying (fM (aK h1) hd),goInt]
  ·rename_i el id off n cp hd;have h4:=aS h3;injection h4 with h4 h5;subst h4;subst h5;obtain⟨-,rfl⟩:=hp;refine⟨.int .i64 (cp:Int),c.w,?_,Po.same hr (aF.2 rfl)⟩;simp[Builtin.cap_,run_underlying (fM (aK h1) hd),goInt]
  ·cases h3
 ·cases hx
end
end Go.Proofs.YtciafpbehhmikaaGreatDoor.E
namespace Go.Proofs.YtciafpbehhmikaaGreatDoor.E
open Go Go.RowKit
open Ma Me K
section
variable {F:Cf} {c d:Cx} {wb:World} {h h':H} {q:Bool} {nt fn:Nat} {e e':Env} {a a':Act} {b:Frame} {ex:bL} {o:Oper} {ops:Array Oper} {i:Nat} {v:AV}
theorem rP{P:Program}{bb:Builtin}{xs:Array Operand}{ats:Array TypeId}{w w':World}{u:Value}{s:Sem Value}(ho:o.op=.call {callee:=.builtin bb,args:=xs,argTypes:=ats})
  (hb:∀cs,builtin bb ats o.type cs (xs.map a.eval)=(do pure (Next.value (←s)))) (hs:s.run P w=.ok u w'):OpR P a.eval o w u w':=by
 left;unfold execOp;rw[ho];simp only[resolve,Sem.run_bind,Sem.run_pure,Result.andThen_ok,invoke,hb,hs]
theorem aLM(hln:aGq F){bb:Builtin}{xs:Array Operand}{ats:Array TypeId}(hz:∀(c:Cx) (wb:World) (a:Act),Fr F c wb nt h e a→∀t,c.z t=F.P.cellsOf t)(hoi:ops[i]? =some o)(ho:o.op=.call {callee:=.builtin bb,args:=xs,argTypes:=ats})
  (hx:(ob (evL e xs.toList) fun l=>bi F h bb ats.toList l)=some (v,h')):kZ F nt ops i o e h v h':=by
 obtain⟨l,h1,h2⟩:=aA.1 hx;refine bG hoi (fun c hc=>by rw[ho]at hc;cases hc) (fun c wb a f=>?_);have hv:=mH f.t h1;have e1:xs.map a.eval=(xs.toList.map a.eval).toArray:=by
  apply Array.toList_inj.1;simp
 have e2:ats=ats.toList.toArray:=by simp
 cases bb with
 |len=>
  obtain⟨u,w',k1,k2⟩:=aLF hln (t2:=o.type) f.r h2 hv;exact⟨u,w',rP ho (fun cs=>rfl) (by rw[e1,e2];exact k1),k2⟩
 |min=>
  obtain⟨u,w',k1,k2⟩:=aLG (t1:=ats) (t2:=o.type) f.r h2 hv;exact⟨u,w',rP ho (fun cs=>rfl) (by rw[e1];exact k1),k2⟩
 |max=>
  obtain⟨u,w',k1,k2⟩:=aLH (t1:=ats) (t2:=o.type) f.r h2 hv;exact⟨u,w',rP ho (fun cs=>rfl) (by rw[e1];exact k1),k2⟩
 |cap=>
  obtain⟨u,w',k1,k2⟩:=aLL (t2:=o.type) f.r h2 hv;exact⟨u,w',rP ho (fun cs=>rfl) (by rw[e1,e2];exact k1),k2⟩
 |append=>
  obtain⟨u,w',k1,k2⟩:=aGr (t2:=o.type) f.r (hz c wb a f) h2 hv;exact⟨u,w',rP ho (fun cs=>rfl) (by rw[e1,e2];exact k1),k2⟩
 |_=>cases h2
def oV(F:Cf)(ex:bL):Prop:=∀(nt:Nat) (ops:Array Oper) (i:Nat) (o:Oper) (e:Env) (h:H) (v:AV) (h':H) (g:Operand) (xs:Array Operand) (ats:Array TypeId) (l:Nat) (args:List AV),ops[i]? =some o→o.op=.call {callee:=.value g,args:=xs,argTypes:=ats}→ev e g=some (sc (.y l))→evL e xs.toList=some args→aDh ex l args h=some (v,h')→kZ F nt ops i o e h v h'
theorem aER{f0 t:Nat}{m:String}{G:Func}{g:Operand}{xs:Array Operand}{ats:Array TypeId}(ho:o.op=.call {callee:=.value g,args:=xs,argTypes:=ats})(hv:a.eval g=.func (.method m) #[.iface t (.agg #[])] #[])(hm:jQ F t m=some f0)(hg:F.P.funcs[f0]? =some G)(hn:(G.name == "runtime.NumGoroutine")=false)(hb:G.body.isSome=true)(w:World):
  (execOp a.eval o).run F.P w=.ok (.enter f0 (.agg #[]::xs.toList.map a.eval).toArray) w:=by
 obtain⟨n,hn2⟩:=uW F.P;have hrc:=jF (P:=F.P) hg hn hb (.agg #[]::xs.toList.map a.eval).toArray w;obtain⟨A,hA⟩:∃A,xs.map a.eval=A:=⟨_,rfl⟩
 have hl:xs.toList.map a.eval=A.toList:=by rw[←hA,Array.toList_map]
 have e1:#[Value.agg #[]]++A=(.agg #[]::xs.toList.map a.eval).toArray:=by
  apply Array.toList_inj.1;rw[hl];simp
 have e2:∀r:Value,(#[r]++A)[0]? =some r:=fun r=>by
  rw[←Array.getElem?_toList];simp
 have e3:∀r:Value,(#[r]++A).extract 1 (#[r]++A).size=A:=fun r=>by
  apply Array.toList_inj.1;simp
 have hd:(Deferred.ofValue (.func (.method m) #[.iface t (.agg #[])] #[]) A)=pure {target:=.fn (.method m) #[],args:=#[.iface t (.agg #[])]++A}:=rfl;unfold execOp;rw[ho];simp only[resolve,hv,hA,hd,Sem.run_bind,Sem.run_pure,Result.andThen_ok,invoke,e2,e3,callMethod,run_program,hn2,vY hm n w,e1];exact hrc
theorem aLN(hF:FOk F)(hex:gH F ex)(hY:oV F ex){g:Operand}{xs:Array Operand}{ats:Array TypeId}(hoi:ops[i]? =some o)(ho:o.op=.call {callee:=.value g,args:=xs,argTypes:=ats})
  (hx:(ob (ev e g) fun f=>ob (evL e xs.toList) fun l=>bC F ex f l h)=some (v,h')):kZ F nt ops i o e h v h':=by
 obtain⟨fv,h1,h2⟩:=aA.1 hx;obtain⟨l,h3,h4⟩:=aA.1 h2;obtain⟨s,rfl,h5⟩:=aH.1 h4;split at h5
 rotate_left
 ·rename_i y;obtain⟨m,t,rfl,h6⟩:=aAN h5;obtain⟨f0,h7,h8⟩:=aA.1 h6;intro c wb a f hw b rest k cs;have k1:=(aF.1 (aU f.t h1)).1;obtain⟨⟨G,k3,k4⟩,k5⟩:=gQ (vs:=.agg #[]::xs.toList.map a.eval) hF hex h8 f.r f.z f.b ⟨⟨[],rfl,trivial⟩,mH f.t h3⟩;have hrun:=aER (a:=a) ho k1 h7 k3 (hF.ng _ _ k3) k4 c.w;exact xU hoi (fun c hc=>by rw[ho]at hc;cases hc) hw hrun k5
 rotate_left
 rotate_left
 ·rename_i f0 fE;intro c wb a f hw b rest k cs;obtain⟨k1,k2⟩:=aF.1 (aU f.t h1);rw[jC]at h5;obtain⟨⟨G,k3,k4⟩,k5⟩:=gQ hF hex h5 f.r f.z f.b ((mH f.t h3).app (aCr k1));have hrun:=aEP (P:=F.P) (a:=a) (g:=g) ho k2 k3 (hF.ng _ _ k3) k4 c.w;have e1:xs.map a.eval++(fE.map (ptr c)).toArray=(xs.toList.map a.eval++fE.map (ptr c)).toArray:=by
   apply Array.toList_inj.1;simp
  rw[e1]at hrun;exact xU hoi (fun c hc=>by rw[ho]at hc;cases hc) hw hrun k5
 ·exact hY nt ops i o e h v h' g xs ats _ l hoi ho h1 h3 h5
 ·cases h5
theorem aES{f0 t:Nat}{m:String}{G:Func}{g:Operand}{xs:Array Operand}{ats:Array TypeId}(ho:o.op=.call {callee:=.invoke g m,args:=xs,argTypes:=ats})(hv:a.eval g=.iface t (.agg #[]))(hm:jQ F t m=some f0)(hg:F.P.funcs[f0]? =some G)(hn:(G.name == "runtime.NumGoroutine")=false)(hb:G.body.isSome=true)(w:World):
  (execOp a.eval o).run F.P w=.ok (.enter f0 (.agg #[]::xs.toList.map a.eval).toArray) w:=by
 obtain⟨n,hn2⟩:=uW F.P;have hrc:=jF (P:=F.P) hg hn hb (.agg #[]::xs.toList.map a.eval).toArray w;obtain⟨A,hA⟩:∃A,xs.map a.eval=A:=⟨_,rfl⟩
 have hl:xs.toList.map a.eval=A.toList:=by rw[←hA,Array.toList_map]
 have e1:#[Value.agg #[]]++A=(.agg #[]::xs.toList.map a.eval).toArray:=by
  apply Array.toList_inj.1;rw[hl];simp
 have e2:∀r:Value,(#[r]++A)[0]? =some r:=fun r=>by
  rw[←Array.getElem?_toList];simp
 have e3:∀r:Value,(#[r]++A).extract 1 (#[r]++A).size=A:=fun r=>by
  apply Array.toList_inj.1;simp
 unfold execOp;rw[ho];simp only[resolve,hv,hA,Sem.run_bind,Sem.run_pure,Result.andThen_ok,invoke,e2,e3,callMethod,run_program,hn2,vY hm n w,e1];exact hrc
theorem aLO(hF:FOk F)(hex:gH F ex){g:Operand}{m:String}{xs:Array Operand}{ats:Array TypeId}(hoi:ops[i]? =some o)(ho:o.op=.call {callee:=.invoke g m,args:=xs,argTypes:=ats})
  (hx:op1 F (bC F ex) (.call {callee:=.invoke g m,args:=xs,argTypes:=ats}) e h=some (v,h')):kZ F nt ops i o e h v h':=by
 obtain⟨fv,h1,h2⟩:=aA.1 (show (ob (ev e g) fun v=>one v fun s=>match s with| .v x=>ifT x fun t=>ob (jQ F t m) fun fn=>ob (evL e xs.toList) fun l=>bC F ex (sc (.f fn [])) (.c true []::l) h|_=>none)=some (v,h') from hx);obtain⟨s,rfl,h5⟩:=aH.1 h2;split at h5
 ·obtain⟨t,rfl,h6⟩:=aAM h5;obtain⟨f0,h7,h8⟩:=aA.1 h6;obtain⟨l,h3,h9⟩:=aA.1 h8;have h9:aY F ex f0 (app (.c true []::l) (uU [])) h=some (v,h'):=h9;rw[show app (AV.c true []::l) (uU [])=.c true []::l by rw[jC];exact List.append_nil _]at h9;intro c wb a f hw b rest k cs;have k1:=(aF.1 (aU f.t h1)).1;obtain⟨⟨G,k3,k4⟩,k5⟩:=gQ (vs:=.agg #[]::xs.toList.map a.eval) hF hex h9 f.r f.z f.b ⟨⟨[],rfl,trivial⟩,mH f.t h3⟩;have hrun:=aES (a:=a) ho k1 h7 k3 (hF.ng _ _ k3) k4 c.w;exact xU hoi (fun c hc=>by rw[ho]at hc;cases hc) hw hrun k5
 ·cases h5
theorem aET(hF:FOk F)(hex:gH F ex)(hY:oV F ex)(hoi:ops[i]? =some o)(hx:op1 F (bC F ex) o.op e h=some (v,h')):kZ F nt ops i o e h v h':=by
 have nd:∀{op:Op},o.op=op→(∀c,op≠.defer c)→∀c,o.op≠.defer c:=fun h1 h2 c h3=>h2 c (h1▸h3);cases ho:o.op with
 |move x=>rw[ho]at hx;exact bG hoi (nd ho (by intro c h;cases h)) fun c wb a f=>aEB f.r f.t (.inl ho) hx
 |assign x=>rw[ho]at hx;exact bG hoi (nd ho (by intro c h;cases h)) fun c wb a f=>aEB f.r f.t (.inr ho) hx
 |pick k x y=>rw[ho]at hx;exact bG hoi (nd ho (by intro c h;cases h)) fun c wb a f=>aJ2 f.r f.t ho hx
 |alloc t=>rw[ho]at hx;exact bG hoi (nd ho (by intro c h;cases h)) fun c wb a f=>aIq f.r ho hx
 |box t x=>rw[ho]at hx;exact bG hoi (nd ho (by intro c h;cases h)) fun c wb a f=>aLz f.r f.t ho hx
 |build t ps=>rw[ho]at hx;exact bG hoi (nd ho (by intro c h;cases h)) fun c wb a f=>aID f.r f.t ho hx
 |buildSlice t n ps=>rw[ho]at hx;exact bG hoi (nd ho (by intro c h;cases h)) fun c wb a f=>aAR f.r f.t ho hx
 |load t x=>rw[ho]at hx;exact bG hoi (nd ho (by intro c h;cases h)) fun c wb a f=>o_load hF.ro (hF.tq _ _ f.r.q f.b) f.r f.t ho hx
 |store t x y=>rw[ho]at hx;exact bG hoi (nd ho (by intro c h;cases h)) fun c wb a f=>aIr f.r f.t ho hx
 |nilCheck x=>rw[ho]at hx;exact bG hoi (nd ho (by intro c h;cases h)) fun c wb a f=>aLA f.r f.t ho hx
 |binOp op t x y t2=>rw[ho]at hx;exact bG hoi (nd ho (by intro c h;cases h)) fun c wb a f=>aLE f.r f.t ho hx
 |unOp op t x=>rw[ho]at hx;exact bG hoi (nd ho (by intro c h;cases h)) fun c wb a f=>aMI f.r f.t ho hx
 |makeInterface t x=>rw[ho]at hx;exact bG hoi (nd ho (by intro c h;cases h)) fun c wb a f=>aME f.r f.t ho hx
 |range t x=>rw[ho]at hx;exact bG hoi (nd ho (by intro c h;cases h)) fun c wb a f=>aIJ f.r f.t ho hx
 |next x b=>rw[ho]at hx;exact bG hoi (nd ho (by intro c h;cases h)) fun c wb a f=>aKt f.r f.t ho hx
 |convert s t x=>rw[ho]at hx;exact bG hoi (nd ho (by intro c h;cases h)) fun c wb a f=>aKh f.r f.t ho hx
 |makeFunc g x y=>rw[ho]at hx;exact bG hoi (nd ho (by intro c h;cases h)) fun c wb a f=>aKi f.r f.t ho hx
 |makeSlice t x y=>rw[ho]at hx;exact bG hoi (nd ho (by intro c h;cases h)) fun c wb a f=>aKj f.r f.t ho hx
 |slice t x lo hi mx=>rw[ho]at hx;exact bG hoi (nd ho (by intro c h;cases h)) fun c wb a f=>aIC f.r f.t ho hx
 |fieldAddr s x g=>rw[ho]at hx;exact bG hoi (nd ho (by intro c h;cases h)) fun c wb a f=>aMF f.r f.t ho hx
 |field s x g=>rw[ho]at hx;exact bG hoi (nd ho (by intro c h;cases h)) fun c wb a f=>aIB f.r f.t ho hx
 |indexAddr t x y=>rw[ho]at hx;exact bG hoi (nd ho (by intro c h;cases h)) fun c wb a f=>aMH f.r f.t ho hx
 |index t x y=>rw[ho]at hx;exact bG hoi (nd ho (by intro c h;cases h)) fun c wb a f=>aMG f.r f.t ho hx
 |extract x ix=>rw[ho]at hx;exact bG hoi (nd ho (by intro c h;cases h)) fun c wb a f=>aLD f.r f.t ho hx
 |call cl=>
  rw[ho]at hx;obtain⟨callee,xs,ats⟩:=cl;cases callee with
  |value g=>exact aLN hF hex hY hoi ho hx
  |invoke r m=>exact aLO hF hex hoi ho hx
  |builtin bb=>exact aLM hF.ln (fun c wb a f=>f.z) hoi ho hx
 |_=>rw[ho]at hx;cases hx
end
end Go.Proofs.YtciafpbehhmikaaGreatDoor.E
namespace Go.Proofs.YtciafpbehhmikaaGreatDoor.E
open Go Go.RowKit
open Ma Me K
def T0.flt{α:Type}:{n:Nat}→T0 n α→(Nat→Bool)→T0 n α
 |0,t,S=>if S 0 then t else (none:Option α)
 |n+1,t,S=>(⟨T0.flt (n:=n) (N.a t) fun k=>S (8*k),T0.flt (n:=n) (N.b t) fun k=>S (8*k+1),T0.flt (n:=n) (N.c t) fun k=>S (8*k+2),T0.flt (n:=n) (N.d t) fun k=>S (8*k+3),T0.flt (n:=n) (N.e t) fun k=>S (8*k+4),T0.flt (n:=n) (N.f t) fun k=>S (8*k+5),T0.flt (n:=n) (N.g t) fun k=>S (8*k+6),T0.flt (n:=n) (N.h t) fun k=>S (8*k+7)⟩:N (T0 n α))
theorem T0.pk_flt{α:Type}{n:Nat}(t:T0 (n+1) α)(S:Nat→Bool){d:Nat}(hd:d<8):(t.flt S).pk d=(t.pk d).flt fun k=>S (8*k+d):=by
 rcases (by omega:d=0∨d=1∨d=2∨d=3∨d=4∨d=5∨d=6∨d=7) with rfl|rfl|rfl|rfl|rfl|rfl|rfl|rfl<;>rfl
theorem T0.get_flt{α:Type}{n:Nat}(t:T0 n α):∀(S:Nat→Bool) (k:Nat),(t.flt S).g k=if S k then t.g k else none:=by
 induction n with
 |zero=>
  intro S k;by_cases hk:k=0
  ·subst hk;rw[T0.get_z,T0.get_z];show (if S 0=true then t else (none:Option α))=if S 0=true then t else (none:Option α)
   rfl
  ·rw[T0.get_z,T0.get_z,if_neg hk,if_neg hk];split<;>rfl
 |succ n ih=>
  intro S k;rw[T0.get_s,T0.get_s,T0.pk_flt t S (Nat.mod_lt k (by decide)),ih,show 8*(k/8)+k % 8=k from Nat.div_add_mod k 8]
noncomputable def T.flt {α:Type} {n:Nat} (t:T n α) (S:Nat→Bool):T n α:=⟨T0.flt t.t S,fun k=>if S k then t.o k else none⟩
theorem T.get_flt{α:Type}{n:Nat}(t:T n α)(S:Nat→Bool)(k:Nat):(t.flt S).get k=if S k then t.get k else none:=by
 by_cases h:k<Nat.pow 8 n
 ·rw[T.get_lt h,T.get_lt h];exact T0.get_flt t.t S k
 ·rw[T.get_ge h,T.get_ge h];rfl
section
variable {P:Program} {ops:Array Oper} {b:Frame} {k:List Item} {cs:List Frame}
theorem aKu{J:(Nat→Bool)→Act→World→Prop}(hr:∀L:Nat→Bool,(∃j,j<ops.size∧L j=false)→∃i o,ops[i]? =some o∧L i=false∧∀e∈o.after,Region.binds .any e=true→L e.on=true)(hstep:∀(L:Nat→Bool) (a:Act) (w:World) (i:Nat) (o:Oper),ops[i]? =some o→L i=false→(∀e∈o.after,Region.binds .any e=true→L e.on=true)→J L a w→∀rest,∃a' w',J (Ja.upd L i true) a' w'∧Steps P (lone (b.atR a (.inRegion ops (i::rest)::k)) cs w) (lone (b.atR a' (.inRegion ops rest::k)) cs w')):
  ∀(fuel t:Nat) (listed:Array Bool) (L:Nat→Bool) (a:Act) (w:World),L=(fun j=>listed.getD j false)→listed.size=ops.size→Ja.left L ops.size≤fuel→J L a w→
   ∃L' a' w',(∀j,j<ops.size→L' j=true)∧J L' a' w'∧Steps P (lone (b.atR a (.inRegion ops (Region.linearise.go .any ops fuel t listed [])::k)) cs w) (lone (b.atR a' k) cs w'):=by
 intro fuel
 induction fuel with
 |zero=>
  intro t listed L a w hL hs hle hJ;refine⟨L,a,w,Ja.left_zero ops.size (by omega),hJ,?_⟩;simp only[Region.linearise.go,List.reverse_nil];exact .one stepR_region_end
 |succ fuel ih=>
  intro t listed L a w hL hs hle hJ;simp only[Region.linearise.go]
  change ∃L' a' w',_∧_∧Steps P (lone (b.atR a (.inRegion ops (match (Region.ready .any ops listed)[t % (Region.ready .any ops listed).length]? with
    |some i=>Region.linearise.go .any ops fuel (t/(Region.ready .any ops listed).length) (listed.setIfInBounds i true) [i]
    |none=>[].reverse)::k)) cs w) _
  cases hi:(Region.ready .any ops listed)[t % (Region.ready .any ops listed).length]? with
  |none=>
   have hnil:Region.ready .any ops listed=[]:=by
      cases hr:Region.ready .any ops listed with
      |nil=>rfl
      |cons x xs=>
       rw[hr]at hi;have hlt:t % (x::xs).length<(x::xs).length:=Nat.mod_lt _ (by simp);simp at hi;simp at hlt;omega
   refine⟨L,a,w,fun j hj=>?_,hJ,.one stepR_region_end⟩;cases hLj:L j with
   |true=>rfl
   |false=>
    obtain⟨i,o,ho,hLi,hdep⟩:=hr L ⟨j,hj,hLj⟩;have hii:i<ops.size:=(Array.getElem?_eq_some_iff.1 ho).1;have:i∈Region.ready .any ops listed:=mem_ready.2 ⟨by
        have h1:listed.getD i false=false:=(by rw[hL]at hLi;exact hLi);have h2:i<listed.size:=(by omega);simp[h2]at h1⊢;exact h1,o,ho,fun e he hb=>by
         have:=hdep e he hb;rw[hL]at this;exact this⟩
    rw[hnil]at this;cases this
  |some i=>
   simp only[];rw[linearise_go_acc,List.reverse_singleton,List.singleton_append];obtain⟨h0,o,ho,hall⟩:=mem_ready.1 (List.mem_of_getElem? hi);have hii:i<ops.size:=(Array.getElem?_eq_some_iff.1 ho).1;have hil:i<listed.size:=(by omega);have hLi:L i=false:=(by rw[hL];simp[hil]at h0⊢;exact h0);obtain⟨a1,w1,hJ1,hS⟩:=hstep L a w i o ho hLi (fun e he hb=>by rw[hL];exact hall e he hb) hJ (Region.linearise.go .any ops fuel (t/(Region.ready .any ops listed).length) (listed.setIfInBounds i true) []);have hL2:Ja.upd L i true=fun j=>(listed.setIfInBounds i true).getD j false:=by
      funext j;unfold Ja.upd;by_cases hji:j=i
      ·subst hji;simp[hil]
      ·rw[if_neg hji,hL,getD_set_ne false (Ne.symm hji)]
   have hle2:Ja.left (Ja.upd L i true) ops.size≤fuel:=by
      have:=Ja.left_upd hLi ops.size hii;omega
   obtain⟨L',a',w',q1,q2,q3⟩:=ih (t/(Region.ready .any ops listed).length) (listed.setIfInBounds i true) (Ja.upd L i true) a1 w1 hL2 (by simp[hs]) hle2 hJ1;exact⟨L',a',w',q1,q2,hS.trans q3⟩
end
section
variable {F:Cf} {c d:Cx} {wb:World} {h h':H} {nt:Nat} {e e':Env} {a a':Act}
theorem Rl.lift(hr:Rl c wb h):Rl c c.w h.lift:=
 ⟨hr.n,hr.k,Q.refl _,hr.blk,hr.inj,fun id b hg _ hb=>absurd (hr.blk id b hg).1 (Nat.not_lt.2 hb),fun l p hl=>⟨(hr.lp l p hl).1,fun q=>⟨((hr.lp l p hl).2 q).1,fun hb=>absurd (hr.lp l p hl).1 (Nat.not_lt.2 hb)⟩⟩,hr.li⟩
def Cx.lo(c:Cx)(n:Nat):Cx:=⟨n,fun id=>c.k id∧id<n,c.r,c.w,c.z⟩
def Cx.mg(g d:Cx)(n0 n1:Nat):Cx:=⟨g.n,fun id=>g.k id∨(d.k id∧n0≤id),fun id=>if n0≤id∧id<n1 then d.r id else g.r id,d.w,g.z⟩
section
variable {g:Cx} {n0 n1 m:Nat}
theorem rQ(hf:∀id,g.k id→n0≤id→n1≤id){id:Nat}(hk:g.k id):(g.mg d n0 n1).r id=g.r id:=if_neg fun q=>by have:=hf id hk q.1;omega
theorem aAY{id:Nat}(h0:n0≤id)(h1:id<n1):(g.mg d n0 n1).r id=d.r id:=if_pos ⟨h0,h1⟩
theorem aDs(hX:Xt (g.lo n0) d)(hf:∀id,g.k id→n0≤id→n1≤id):Xs (g.lo m) ((g.mg d n0 n1).lo m):=
 ⟨fun _ q=>⟨.inl q.1,q.2⟩,fun _ q=>rQ hf q.1,hX.p.m,hX.p.mr,hX.p.s,rfl⟩
theorem aDt(hX:Xt (g.lo n0) d)(hd:Rl d wb h')(hn:h'.n=n1)(hf:∀id,g.k id→n0≤id→n1≤id)(hm:n1≤m):Xs d ((g.mg d n0 n1).lo m):=by
 have hlt:∀id,d.k id→id<n1:=fun id q=>by have:=hd.k id q;rw[hd.n,hn]at this;exact this
 refine⟨fun id q=>⟨?_,Nat.lt_of_lt_of_le (hlt id q) hm⟩,fun id q=>?_,fun _ _ k=>k,fun _ _ k=>k,fun _ _ cs _ k=>⟨cs,k,rfl⟩,hX.z.symm⟩
 ·rcases hX.o id q with k|k
  ·exact .inl k.1
  ·exact .inr ⟨q,k⟩
 ·rcases hX.o id q with k|k
  ·exact (rQ hf k.1).trans (hX.r id k).symm
  ·exact aAY k (hlt id q)
theorem Rl.merge{h2:H}(hX:Xt (g.lo n0) d)(hd:Rl d g.w h')(hn:h'.n=n1)(hbar:h'.bar=n0)(hf:∀id,g.k id→n0≤id→n1≤id)(hr:Rl (g.lo m) wb h2)
  (hc:m≤n0∨(n1≤m∧(∀id b,id<n1→h2.h.get id=some b→h'.h.get id=some b)∧∀id b,id<n1→h2.l.get id=some b→h'.l.get id=some b)):Rl ((g.mg d n0 n1).lo m) wb h2:=by
 have hlt:∀id,d.k id→id<n1:=fun id q=>by have:=hd.k id q;rw[hd.n,hn]at this;exact this
 have X:=aDs (m:=m) hX hf;have nw:∀{id:Nat},d.k id→n0≤id→id<m→n1≤m∧(∀b,h2.h.get id=some b→h'.h.get id=some b)∧∀b,h2.l.get id=some b→h'.l.get id=some b:=fun {id} q q0 q1=>by
  rcases hc with hc|⟨h1,h3,h4⟩
  ·omega
  ·exact⟨h1,fun b=>h3 id b (hlt id q),fun b=>h4 id b (hlt id q)⟩
 have hsz:wb.heap.size≤g.w.heap.size:=hr.q.size;have blk:∀{id b},h2.h.get id=some b→Lv ((g.mg d n0 n1).lo m) id b→(Lv (g.lo m) id b∧(g.mg d n0 n1).r id=g.r id∧g.r id<g.w.heap.size)∨(h'.h.get id=some b∧Lv d id b∧(g.mg d n0 n1).r id=d.r id∧g.w.heap.size≤d.r id∧n1≤m):=fun {id b} hg q=>by
  obtain⟨⟨q1,q2⟩,q3⟩:=q;rcases q1 with q1|⟨q1,q4⟩
  ·exact .inl ⟨⟨⟨q1,q2⟩,q3⟩,rQ hf q1,((hr.blk id b hg).2 ⟨⟨q1,q2⟩,q3⟩).lt⟩
  ·obtain⟨k1,k2,-⟩:=nw q1 q4 q2;exact .inr ⟨k2 b hg,⟨q1,q3⟩,aAY q4 (hlt id q1),hd.new id b (k2 b hg) ⟨q1,q3⟩ (by omega),k1⟩
 have lps:∀{id p},h2.l.get id=some p→((g.mg d n0 n1).lo m).k id→(((g.lo m).k id)∧(g.mg d n0 n1).r id=g.r id∧g.r id<g.w.heap.size)∨(h'.l.get id=some p∧d.k id∧(g.mg d n0 n1).r id=d.r id∧g.w.heap.size≤d.r id∧n1≤m):=fun {id p} hg q=>by
  obtain⟨q1,q2⟩:=q;rcases q1 with q1|⟨q1,q4⟩
  ·exact .inl ⟨⟨q1,q2⟩,rQ hf q1,((hr.lp id p hg).2 ⟨q1,q2⟩).1.lt⟩
  ·obtain⟨k1,-,k2⟩:=nw q1 q4 q2;exact .inr ⟨k2 p hg,q1,aAY q4 (hlt id q1),((hd.lp id p (k2 p hg)).2 q1).2 (by omega),k1⟩
 refine⟨hr.n,fun id q=>q.2,hr.q.trans hd.q,fun id b hg=>⟨(hr.blk id b hg).1,fun q=>?_⟩,fun i j b b2 hi hj qi qj hij=>?_,fun id b hg q hb=>?_,fun l p hl=>⟨(hr.lp l p hl).1,fun q=>?_⟩,fun i j p p2 hi hj qi qj hij=>?_⟩
 ·show Bl _ b ((g.mg d n0 n1).r id);rcases blk hg q with⟨k1,k2,k3⟩|⟨k1,k2,k3,k4,k5⟩
  ·rw[k2];exact ((hr.blk id b hg).2 k1).xs X (hd.q.heap k3)
  ·rw[k3];exact ((hd.blk id b k1).2 k2).xs (aDt hX hd hn hf k5) rfl
 ·show (g.mg d n0 n1).r i≠(g.mg d n0 n1).r j;rcases blk hi qi with⟨k1,k2,k3⟩|⟨k1,k2,k3,k4,k5⟩
  ·rcases blk hj qj with⟨m1,m2,m3⟩|⟨m1,m2,m3,m4,m5⟩
   ·rw[k2,m2];exact hr.inj i j b b2 hi hj k1 m1 hij
   ·rw[k2,m3];omega
  ·rcases blk hj qj with⟨m1,m2,m3⟩|⟨m1,m2,m3,m4,m5⟩
   ·rw[k3,m2];omega
   ·rw[k3,m3];exact hd.inj i j b b2 k1 m1 k2 m2 hij
 ·show wb.heap.size≤(g.mg d n0 n1).r id;rcases blk hg q with⟨k1,k2,k3⟩|⟨k1,k2,k3,k4,k5⟩
  ·rw[k2];exact hr.new id b hg k1 hb
  ·rw[k3];omega
 ·show LpR _ p ((g.mg d n0 n1).r l)∧(h2.bar≤l→wb.heap.size≤(g.mg d n0 n1).r l)
  rcases lps hl q with⟨k1,k2,k3⟩|⟨k1,k2,k3,k4,k5⟩
  ·rw[k2];exact⟨((hr.lp l p hl).2 k1).1.xs X (hd.q.heap k3),((hr.lp l p hl).2 k1).2⟩
  ·rw[k3];exact⟨((hd.lp l p k1).2 k2).1.xs (aDt hX hd hn hf k5) rfl,fun _=>by omega⟩
 ·show (g.mg d n0 n1).r i≠(g.mg d n0 n1).r j;rcases lps hi qi with⟨k1,k2,k3⟩|⟨k1,k2,k3,k4,k5⟩
  ·rcases lps hj qj with⟨m1,m2,m3⟩|⟨m1,m2,m3,m4,m5⟩
   ·rw[k2,m2];exact hr.li i j p p2 hi hj k1 m1 hij
   ·rw[k2,m3];omega
  ·rcases lps hj qj with⟨m1,m2,m3⟩|⟨m1,m2,m3,m4,m5⟩
   ·rw[k3,m2];omega
   ·rw[k3,m3];exact hd.li i j p p2 k1 m1 k2 m2 hij
end
end
end Go.Proofs.YtciafpbehhmikaaGreatDoor.E
namespace Go.Proofs.YtciafpbehhmikaaGreatDoor.E
open Go Go.RowKit
open Ma Me K
structure Tp where
 i:Nat
 o:Oper
 e:Env
 h:H
 b:Bool
 v:AV
 e':Env
 h':H
def rR(nt:Nat)(e:Env)(d:Option Nat)(v:AV)(e':Env):Prop:=match d with|none=>e'=e|some k=>k<nt∧e'=e.set v k
inductive Trace (S:Tp→Prop):Env→H→List Tp→Env→H→Prop where
 |nil (e:Env) (h:H):Trace S e h [] e h
 |cons {p:Tp} {l:List Tp} {e2:Env} {h2:H} (hp:S p) (ht:Trace S p.e' p.h' l e2 h2):Trace S p.e p.h (p::l) e2 h2
structure St1 (F:Cf) (nt:Nat) (call:bD) (ops:List Oper) (lf:H→H) (p:Tp):Prop where
 o:(drp p.i ops).head? =some p.o
 w:wanted ops p.e p.o.guard=some p.b
 y:p.b=true→op1 F call p.o.op p.e (lf p.h)=some (p.v,p.h')
 n:p.b=false→p.v=un∧p.h'=lf p.h
 e:rR nt p.e p.o.dst p.v p.e'
section
variable {F:Cf} {nt:Nat} {call:bD} {ops:List Oper} {e:Env} {h:H} {r:R}
theorem aHF{α:Type}{d:Option Nat}{v:AV}{k:Env→Option α}{y:α}(hx:put nt e d v k=some y):∃e',rR nt e d v e'∧k e'=some y:=by
 cases d with
 |none=>exact⟨e,rfl,hx⟩
 |some d=>
  obtain⟨h1,h2⟩:=aC.1 (show cb (Nat.blt d nt) (k (e.set v d)) none=some y from hx);exact⟨_,⟨aT.1 h1,rfl⟩,h2⟩
theorem aCs{rest:Env→H→Option R}{i:Nat}{o:Oper}{lf:H→H}(ho:(drp i ops).head? =some o)(hx:jR F nt call ops rest o e (lf h)=some r):
  ∃p:Tp,p.i=i∧p.e=e∧p.h=h∧St1 F nt call ops lf p∧rest p.e' p.h'=some r:=by
 obtain⟨w,h1,hx⟩:=aA.1 hx;cases w with
 |true=>
  obtain⟨⟨v,h2⟩,h3,hx⟩:=aA.1 (show (ob (op1 F call o.op e (lf h)) fun r=>put nt e o.dst r.1 fun e=>rest e r.2)=some r from hx);obtain⟨e',h4,h5⟩:=aHF hx;exact⟨⟨i,o,e,h,true,v,e',h2⟩,rfl,rfl,rfl,⟨ho,h1,fun _=>h3,fun q=>Bool.noConfusion q,h4⟩,h5⟩
 |false=>
  obtain⟨e',h4,h5⟩:=aHF (show put nt e o.dst un (fun e=>rest e (lf h))=some r from hx);exact⟨⟨i,o,e,h,false,un,e',lf h⟩,rfl,rfl,rfl,⟨ho,h1,fun q=>Bool.noConfusion q,fun _=>⟨rfl,rfl⟩,h4⟩,h5⟩
theorem aCt{b:Nat}{k:Env→H→Option R}:∀{l:List Nat} {e:Env} {h:H},rC F nt call ops b k l e h=some r→∃tr e1 h1,tr.map Tp.i=l∧Trace (St1 F nt call ops H.lift) e h tr e1 h1∧k e1 (h1.back b)=some r
 | [],e,h,hx=>⟨[],e,h,rfl,.nil e h,hx⟩
 |i::l,e,h,hx=>by
  obtain⟨o,ho,hx⟩:=aA.1 (show (ob (drp i ops).head? fun o=>jR F nt call ops (rC F nt call ops b k l) o e h.lift)=some r from hx);obtain⟨p,rfl,rfl,rfl,h1,h2⟩:=aCs (lf:=H.lift) ho hx;obtain⟨tr,e1,g1,h3,h4,h5⟩:=aCt h2;exact⟨p::tr,e1,g1,by rw[List.map_cons,h3],.cons h1 h4,h5⟩
def Same(F:Cf)(ops:List Oper)(e:Env)(h:H)(j:Nat):Prop:=∃o,(drp j ops).head? =some o∧(mkO F o.op=.p∨(mkO F o.op=.l∧o.guard=none∧∃d v u,o.dst=some d∧e.get d=some v∧op1 F (fun _ _ _=>none) o.op e h=some u∧avb v u.1=true)∨(mkO F o.op=.n∧o.guard=none∧∃d v u,o.dst=some d∧e.get d=some v∧op1 F (fun _ _ _=>none) o.op e h=some u∧tH h v u=true))
theorem aAZ{k:Option R}:∀{l:List Nat},again F ops e h k l=some r→(∀j∈l,Same F ops e h j)∧k=some r
 | [],hx=>⟨fun j hj=>(by cases hj),hx⟩
 |j::l,hx=>by
  obtain⟨o,ho,hx⟩:=aA.1 hx;have key:Same F ops e h j∧again F ops e h k l=some r:=by
    split at hx
    ·rename_i hm;exact⟨⟨o,ho,.inl hm⟩,hx⟩
    ·rename_i hm;obtain⟨d,h3,hx⟩:=aA.1 hx;obtain⟨v,h4,hx⟩:=aA.1 hx;obtain⟨u,h5,hx⟩:=aA.1 hx;obtain⟨h6,hx⟩:=aC.1 hx;obtain⟨h7,hx⟩:=aC.1 hx;refine⟨⟨o,ho,.inr (.inl ⟨hm,?_,d,v,u,h3,h4,h5,h7⟩)⟩,hx⟩;cases hg:o.guard with
     |none=>rfl
     |some g=>rw[hg]at h6;cases h6
    ·rename_i hm;obtain⟨d,h3,hx⟩:=aA.1 hx;obtain⟨v,h4,hx⟩:=aA.1 hx;obtain⟨u,h5,hx⟩:=aA.1 hx;obtain⟨h6,hx⟩:=aC.1 hx;obtain⟨h7,hx⟩:=aC.1 hx;refine⟨⟨o,ho,.inr (.inr ⟨hm,?_,d,v,u,h3,h4,h5,h7⟩)⟩,hx⟩;cases hg:o.guard with
     |none=>rfl
     |some g=>rw[hg]at h6;cases h6
    ·cases hx
  obtain⟨h1,h2⟩:=key;obtain⟨h7,h8⟩:=aAZ h2;refine⟨fun i hi=>?_,h8⟩;rcases List.mem_cons.1 hi with rfl|hi
  ·exact h1
  ·exact h7 i hi
inductive TraceB (F:Cf) (nt:Nat) (call:bD) (ops:List Oper):Env→H→List (Tp × List Nat)→Env→H→Prop where
 |nil (e:Env) (h:H):TraceB F nt call ops e h [] e h
 |cons {p:Tp} {rm:List Nat} {l:List (Tp × List Nat)} {e2:Env} {h2:H} (hp:St1 F nt call ops id p) (hs:∀j∈rm,Same F ops p.e' p.h' j) (ht:TraceB F nt call ops p.e' p.h' l e2 h2):TraceB F nt call ops p.e p.h ((p,rm)::l) e2 h2
theorem aCu:∀{l:List (Nat × List Nat)} {e:Env} {h:H},uT F nt call ops l e h=some r→
  ∃tr e1 h1,(tr.map fun q=>(q.1.i,q.2))=l∧TraceB F nt call ops e h tr e1 h1∧r=⟨.n,e1,h1⟩
 | [],e,h,hx=>⟨[],e,h,rfl,.nil e h,by injection hx with hx;exact hx.symm⟩
 |(i,rm)::l,e,h,hx=>by
  obtain⟨o,ho,hx⟩:=aA.1 (show (ob (drp i ops).head? fun o=>jR F nt call ops (fun e h=>again F ops e h (uT F nt call ops l e h) rm) o e h)=some r from hx);obtain⟨p,rfl,rfl,rfl,h1,h2⟩:=aCs (lf:=id) ho hx;obtain⟨h3,h4⟩:=aAZ h2;obtain⟨tr,e1,g1,h5,h6,h7⟩:=aCu h4;exact⟨(p,rm)::tr,e1,g1,by rw[List.map_cons,h5],.cons h1 h3 h6,h7⟩
theorem rR.get{d:Option Nat}{v:AV}{e':Env}(hp:rR nt e d v e'){t:Nat}{x:AV}(hx:e'.get t=some x):(d=some t∧x=v)∨(d≠some t∧e.get t=some x):=by
 cases d with
 |none=>
  rw[show e'=e from hp]at hx;exact .inr ⟨by simp,hx⟩
 |some k=>
  obtain⟨-,rfl⟩:=hp;rcases T.get_set hx with⟨rfl,rfl⟩|⟨h1,h2⟩
  ·exact .inl ⟨rfl,rfl⟩
  ·exact .inr ⟨fun q=>h1 (by injection q with q;exact q.symm),h2⟩
theorem Trace.get{S:Tp→Prop}(hS:∀p,S p→rR nt p.e p.o.dst p.v p.e'){tr:List Tp}{e2:Env}{h2:H}(ht:Trace S e h tr e2 h2){t:Nat}{x:AV}(hx:e2.get t=some x):
  (∃p∈tr,p.o.dst=some t∧p.v=x)∨((∀p∈tr,p.o.dst≠some t)∧e.get t=some x):=by
 induction ht with
 |nil e h=>exact .inr ⟨fun p hp=>(by cases hp),hx⟩
 | @cons p l e2 h2 hp ht ih=>
   rcases ih hx with⟨q,h1,h3⟩|⟨h1,h3⟩
   ·exact .inl ⟨q,List.mem_cons_of_mem _ h1,h3⟩
   ·rcases (hS p hp).get h3 with⟨k1,k2⟩|⟨k1,k2⟩
    ·exact .inl ⟨p,List.mem_cons_self,k1,k2.symm⟩
    ·refine .inr ⟨fun q hq=>?_,k2⟩;rcases List.mem_cons.1 hq with rfl|hq
     ·exact k1
     ·exact h1 q hq
end
end Go.Proofs.YtciafpbehhmikaaGreatDoor.E
namespace Go.Proofs.YtciafpbehhmikaaGreatDoor.E
open Go Go.RowKit
open Ma Me K
theorem iI{i j:Nat}:(bit i).testBit j=true↔i=j:=by
 have:bit i=2^i:=by show 1<<<i=2^i;rw[Nat.one_shiftLeft]
 rw[this,Nat.testBit_two_pow];simp
theorem mQ{a c j:Nat}:(Nat.lor a c).testBit j=true↔a.testBit j=true∨c.testBit j=true:=by
 show (a |||c).testBit j=true↔_;rw[Nat.testBit_or];simp
theorem zT{a c j:Nat}(h:sub a c=true)(hj:a.testBit j=true):c.testBit j=true:=by
 have h1:a &&& c=a:=aJ.1 h;rw[←h1,Nat.testBit_and]at hj;simp at hj;exact hj.2
theorem aKv{a i:Nat}(h:Nat.beq (Nat.land a (bit i)) 0=true):a.testBit i≠true:=by
 intro q;have h1:a &&& bit i=0:=aJ.1 h;have h2:(a &&& bit i).testBit i=true:=by rw[Nat.testBit_and,q,iI.2 rfl];rfl
 rw[h1]at h2;simp at h2
theorem aDu{fa:Bool}{f:Nat→Nat}{l:List Edge}{j:Nat}:(msk fa f l).testBit j=true↔∃e∈l,edg fa e=true∧(f e.on).testBit j=true:=by
 induction l with
 |nil=>simp[msk]
 |cons e l ih=>
  show (cb (edg fa e) (Nat.lor (f e.on) (msk fa f l)) (msk fa f l)).testBit j=true↔_;rw[aR];split
  ·rename_i h;rw[mQ,ih];simp[h]
  ·rename_i h;rw[ih];simp[h]
theorem zU{l:List Nat}{j:Nat}:(msN l).testBit j=true↔j∈l:=by
 induction l with
 |nil=>simp[msN]
 |cons i l ih=>
  show (Nat.lor (bit i) (msN l)).testBit j=true↔_;rw[mQ,ih,iI,List.mem_cons,eq_comm]
noncomputable abbrev keep (o:Oper) (e:Edge):Bool:=edg (aAE o.op) e
theorem aKw{o:Oper}{e:Edge}(h:keep o e=true):Region.binds .any e=true:=by
 obtain⟨on,g⟩:=e;cases g with
 |textOnly r=>cases h
 |gcOnly r=>cases h
 |_=>rfl
inductive Reach (ops:Array Oper):Nat→Nat→Prop where
 |one {i:Nat} {o:Oper} {e:Edge} (ho:ops[i]? =some o) (he:e∈o.after) (hb:keep o e=true):Reach ops i e.on
 |more {i j:Nat} {o:Oper} {e:Edge} (ho:ops[i]? =some o) (he:e∈o.after) (hb:keep o e=true) (h:Reach ops e.on j):Reach ops i j
theorem Reach.closed{ops:Array Oper}{S:Nat→Prop}(hS:∀i o e,ops[i]? =some o→S i→e∈o.after→keep o e=true→S e.on){i j:Nat}(h:Reach ops i j)(hi:S i):S j:=by
 induction h with
 |one ho he hb=>exact hS _ _ _ ho hi he hb
 |more ho he hb _ ih=>exact ih (hS _ _ _ ho hi he hb)
structure ScI (ops:Array Oper) (s:Sc) (l:List Nat):Prop where
 d:∀j,s.d.testBit j=true↔j∈l
 an:∀i a j,s.an.get i=some a→a.testBit j=true→Reach ops i j
 nd:l.Nodup
section
variable {F:Cf} {ops:Array Oper} {ph:Bool} {i rm:Nat} {s s':Sc} {l:List Nat}
theorem aLP{j t:Nat}(hI:ScI ops s l)(h:(anc s j).testBit t=true):j=t∨Reach ops j t:=by
 unfold anc at h;cases hg:s.an.get j with
 |none=>rw[hg]at h;exact .inl (iI.1 h)
 |some a=>
  rw[hg]at h;rcases mQ.1 h with h|h
  ·exact .inl (iI.1 h)
  ·exact .inr (hI.an j a t hg h)
structure One (F:Cf) (ops:Array Oper) (ph:Bool) (l:List Nat) (i rm:Nat):Prop where
 o:∃o,ops[i]? =some o∧(∀e∈o.after,keep o e=true→e.on∈l)∧(ph=true→mkO F o.op≠.w)
 s:ph=false→∀j∈l,Reach ops i j∨rm.testBit j=true
theorem aEU(hI:ScI ops s l)(hx:sc1 F ops.toList ph i rm s=some s'):ScI ops s' (l++[i])∧One F ops ph l i rm:=by
 obtain⟨o,h1,hx⟩:=aA.1 hx;obtain⟨h2,hx⟩:=aC.1 hx;obtain⟨h3,hx⟩:=aC.1 hx;rw[aO]at hx;obtain⟨h4,hx⟩:=aC.1 hx;have ho:ops[i]? =some o:=by simpa using bN h1
 have hdep:∀e∈o.after,keep o e=true→e.on∈l:=fun e he hb=>(hI.d _).1 (zT h3 (aDu.2 ⟨e,Array.mem_toList_iff.2 he,hb,iI.2 rfl⟩));have ham:∀t,(msk (aAE o.op) (anc s) o.after.toList).testBit t=true→Reach ops i t:=fun t ht=>by
  obtain⟨e,he,hb,h5⟩:=aDu.1 ht;have he:=Array.mem_toList_iff.1 he;rcases aLP hI h5 with rfl|h6
  ·exact .one ho he hb
  ·exact .more ho he hb h6
 refine⟨?_,⟨o,ho,hdep,fun q k=>?_⟩,fun q j hj=>?_⟩
 ·injection hx with hx;unfold scP at hx;rw[aO]at hx;subst hx;refine⟨fun j=>?_,fun k a j hk ha=>?_,?_⟩
  ·show (Nat.lor s.d (bit i)).testBit j=true↔_;rw[mQ,hI.d,iI,List.mem_append,List.mem_singleton,eq_comm (a:=i)]
  ·rcases T.get_set hk with⟨rfl,rfl⟩|⟨-,hk⟩
   ·exact ham j ha
   ·exact hI.an k a j hk ha
  ·refine List.nodup_append.2 ⟨hI.nd,by simp,fun a ha b hb e=>?_⟩;rw[List.mem_singleton]at hb;subst hb;subst e;exact aKv h2 ((hI.d _).2 ha)
 ·subst q;rw[k]at h4;cases h4
 ·subst q;have h5:sub s.d (Nat.lor (msk (aAE o.op) (anc s) o.after.toList) rm)=true:=by
   cases hm:mkO F o.op<;>rw[hm]at h4<;>exact h4
  rcases mQ.1 (zT h5 ((hI.d j).2 hj)) with h6|h6
  ·exact .inl (ham j h6)
  ·exact .inr h6
theorem aEV:∀{A:List Nat} {s s':Sc} {l:List Nat},ScI ops s l→scA F ops.toList A s=some s'→ScI ops s' (l++A)∧∀l1 i l2,A=l1++i::l2→One F ops true (l++l1) i 0
 | [],s,s',l,hI,hx=>by
   injection hx with hx;subst hx;exact⟨by simpa using hI,fun l1 i l2 e=>by simp at e⟩
 |i::A,s,s',l,hI,hx=>by
  obtain⟨s1,h1,hx⟩:=aA.1 (show ob (sc1 F ops.toList true i 0 s) (scA F ops.toList A)=some s' from hx);obtain⟨h2,h3⟩:=aEU hI h1;obtain⟨h4,h5⟩:=aEV h2 hx;refine⟨by simpa using h4,fun l1 j l2 e=>?_⟩;cases l1 with
  |nil=>injection e with e1 e2;subst e1;simpa using h3
  |cons x l1=>
   injection e with e1 e2;subst e1;have:=h5 l1 j l2 e2;simpa using this
theorem aEW:∀{B:List (Nat × List Nat)} {s s':Sc} {l:List Nat},ScI ops s l→scB F ops.toList B s=some s'→ScI ops s' (l++B.map Prod.fst)∧∀l1 i rm l2,B=l1++(i,rm)::l2→One F ops false (l++l1.map Prod.fst) i (msN rm)
 | [],s,s',l,hI,hx=>by
   injection hx with hx;subst hx;exact⟨by simpa using hI,fun l1 i rm l2 e=>by simp at e⟩
 |(i,rm0)::B,s,s',l,hI,hx=>by
  obtain⟨s1,h1,hx⟩:=aA.1 (show ob (sc1 F ops.toList false i (msN rm0) s) (scB F ops.toList B)=some s' from hx);obtain⟨h2,h3⟩:=aEU hI h1;obtain⟨h4,h5⟩:=aEW h2 hx;refine⟨by simpa using h4,fun l1 j rm l2 e=>?_⟩;cases l1 with
  |nil=>injection e with e1 e2;injection e1 with e3 e4;subst e3;subst e4;simpa using h3
  |cons x l1=>
   injection e with e1 e2;subst e1;have:=h5 l1 j rm l2 e2;simpa using this
theorem zV{an:T 3 Nat}{i j:Nat}{l:List Nat}{d:Nat}(hI:ScI ops ⟨d,an⟩ l)(h:has an i j=true):Reach ops i j:=by
 unfold has at h;cases hg:an.get i with
 |none=>rw[hg]at h;cases h
 |some a=>rw[hg]at h;exact hI.an i a j hg (zT h (iI.2 rfl))
theorem aW{c x:Bool}:cb c x false=true↔c=true∧x=true:=by cases c<;>simp[cb]
theorem aEX{wt an:T 3 Nat}{i:Nat}:∀{l:List Tmp},shT wt an i l=true→∀t∈l,∀j,wt.get t=some j→j=i∨has an i j=true∨has an j i=true
 | [],_,t,ht,_,_=>by cases ht
 |x::l,h,t,ht,j,hj=>by
  obtain⟨h1,h2⟩:=aW.1 (show cb (Option.rec (motive:=fun _=>Bool) true (fun j=>cb (Nat.beq j i) true (cb (has an i j) true (has an j i))) (wt.get x)) (shT wt an i l) false=true from h);rcases List.mem_cons.1 ht with rfl|ht
  ·rw[hj]at h1;have h1:cb (Nat.beq j i) true (cb (has an i j) true (has an j i))=true:=h1;rw[aR,aR]at h1;split at h1
   ·rename_i q;exact .inl (aJ.1 q)
   ·split at h1
    ·rename_i q;exact .inr (.inl q)
    ·exact .inr (.inr h1)
  ·exact aEX h2 t ht j hj
theorem aEY:∀{B:List (Nat × List Nat)} {j:Nat},inB B j=true→j∈B.map Prod.fst
 | [],_,h=>by cases h
 |p::B,j,h=>by
  have h:cb (Nat.beq p.1 j) true (inB B j)=true:=h;cases hb:Nat.beq p.1 j with
  |true=>rw[List.map_cons,←aJ.1 hb];exact List.mem_cons_self
  |false=>
   rw[hb]at h;rw[List.map_cons];exact List.mem_cons_of_mem _ (aEY h)
theorem aIK{an:T 3 Nat}{B:List (Nat × List Nat)}{i j:Nat}(h:aDd an B i j=true):has an i j=true∨(j∈B.map Prod.fst∧has an j i=true):=by
 have h:cb (has an i j) true (cb (inB B j) (has an j i) false)=true:=h;cases h1:has an i j with
 |true=>exact .inl rfl
 |false=>
  rw[h1]at h;obtain⟨h2,h3⟩:=aW.1 (show cb (inB B j) (has an j i) false=true from h);exact .inr ⟨aEY h2,h3⟩
theorem aEZ{wt an:T 3 Nat}{B:List (Nat × List Nat)}{i:Nat}:∀{l:List Tmp},shU wt an B i l=true→∀t∈l,∀j,wt.get t=some j→aDd an B i j=true
 | [],_,t,ht,_,_=>by cases ht
 |x::l,h,t,ht,j,hj=>by
  obtain⟨h1,h2⟩:=aW.1 (show cb (Option.rec (motive:=fun _=>Bool) true (aDd an B i) (wt.get x)) (shU wt an B i l) false=true from h);rcases List.mem_cons.1 ht with rfl|ht
  ·rw[hj]at h1;exact h1
  ·exact aEZ h2 t ht j hj
theorem kN{wt an:T 3 Nat}:∀{l:List Oper} {k:Nat},shL ops wt an l k=true→∀j o,l[j]? =some o→shQ wt (k+j) o.dst=true∧shT wt an (k+j) (o.looksAt ops)=true
 | [],_,_,_,_,hj=>by simp at hj
 |x::l,k,h,j,o,hj=>by
  obtain⟨h1,h2⟩:=aW.1 (show cb (shQ wt k x.dst) (cb (shT wt an k (x.looksAt ops)) (shL ops wt an l (Nat.succ k)) false) false=true from h);obtain⟨h3,h4⟩:=aW.1 h2;cases j with
  |zero=>simp at hj;subst hj;exact⟨h1,h3⟩
  |succ j=>
   have:=kN h4 j o (by simpa using hj);rw[show k+(j+1)=Nat.succ k+j from by omega];exact this
theorem aKx{wt:T 3 Nat}{i d:Nat}(h:shQ wt i (some d)=true):wt.get d=some i:=by
 have h:Option.rec (motive:=fun _=>Bool) false (Nat.beq i) (wt.get d)=true:=h;cases hg:wt.get d with
 |none=>rw[hg]at h;cases h
 |some j=>rw[hg]at h;rw[aJ.1 h]
theorem aE0{wt an:T 3 Nat}{B:List (Nat × List Nat)}:∀{l:List Nat},shV ops wt an B l=true→∀j∈l,∃o,ops[j]? =some o∧shU wt an B j (o.looksAt ops)=true
 | [],_,j,hj=>by cases hj
 |i::l,h,j,hj=>by
  obtain⟨h1,h2⟩:=aW.1 (show cb (Option.rec (motive:=fun _=>Bool) false (fun o=>shU wt an B i (o.looksAt ops)) (drp i ops.toList).head?) (shV ops wt an B l) false=true from h);rcases List.mem_cons.1 hj with rfl|hj
  ·cases hg:(drp j ops.toList).head? with
   |none=>rw[hg]at h1;cases h1
   |some o=>rw[hg]at h1;exact⟨o,by simpa using bN hg,h1⟩
  ·exact aE0 h2 j hj
theorem aE1{wt an:T 3 Nat}{B:List (Nat × List Nat)}:∀{l:List (Nat × List Nat)},shW ops wt an B l=true→∀p∈l,shV ops wt an B p.2=true
 | [],_,p,hp=>by cases hp
 |q::l,h,p,hp=>by
  obtain⟨h1,h2⟩:=aW.1 (show cb (shV ops wt an B q.2) (shW ops wt an B l) false=true from h);rcases List.mem_cons.1 hp with rfl|hp
  ·exact h1
  ·exact aE1 h2 p hp
def Rdy(ops:Array Oper)(L:Nat→Bool):Prop:=∃i o,ops[i]? =some o∧L i=false∧∀e∈o.after,Region.binds .any e=true→L e.on=true
structure Plan (F:Cf) (ops:Array Oper) (A:List Nat) (B:List (Nat × List Nat)):Prop where
 nd:(A++B.map Prod.fst).Nodup
 all:∀i,i<ops.size→i∈A++B.map Prod.fst
 a:∀l1 i l2,A=l1++i::l2→One F ops true l1 i 0
 b:∀l1 i rm l2,B=l1++(i,rm)::l2→One F ops false (A++l1.map Prod.fst) i (msN rm)
 wr:∀(i:Nat) (o:Oper) (t:Tmp) (j:Nat) (o':Oper),ops[i]? =some o→t∈o.looksAt ops→ops[j]? =some o'→o'.dst=some t→j=i∨Reach ops i j∨Reach ops j i
 un:∀(i j:Nat) (o o':Oper) (t:Tmp),ops[i]? =some o→ops[j]? =some o'→o.dst=some t→o'.dst=some t→i=j
 late:∀p∈B,∀j∈p.2,∃o,ops[j]? =some o∧∀t∈o.looksAt ops,∀(i:Nat) (o':Oper),ops[i]? =some o'→o'.dst=some t→Reach ops j i∨(i∈B.map Prod.fst∧Reach ops i j)
 ns:Region.noSelect ops=true
 dn:∀L:Nat→Bool,(∃j,j<ops.size∧L j=false)→Rdy ops L
 rm:∀q∈B,∀j∈q.2,j∉B.map Prod.fst
theorem aLQ{l:List (Nat × List Nat)}{j:Nat}:(fsN l).testBit j=true↔j∈l.map Prod.fst:=by
 induction l with
 |nil=>simp[fsN]
 |cons p l ih=>
  show (Nat.lor (bit p.1) (fsN l)).testBit j=true↔_;rw[mQ,ih,iI,List.map_cons,List.mem_cons,eq_comm]
theorem aE2{m:Nat}:∀{l:List (Nat × List Nat)},rmL m l=true→∀q∈l,∀j∈q.2,m.testBit j≠true
 | [],_,q,hq=>by cases hq
 |p::l,h,q,hq=>by
  obtain⟨h1,h2⟩:=aW.1 (show cb (Nat.beq (Nat.land (msN p.2) m) 0) (rmL m l) false=true from h);rcases List.mem_cons.1 hq with rfl|hq
  ·intro j hj hm;have h3:msN q.2 &&& m=0:=aJ.1 h1;have h4:(msN q.2 &&& m).testBit j=true:=(by rw[Nat.testBit_and,zU.2 hj,hm];rfl);rw[h3]at h4;simp at h4
  ·exact aE2 h2 q hq
theorem aLR{e:Edge}(h:Region.binds .any e=true):edg false e=true:=by
 obtain⟨on,g⟩:=e;cases g with
 |textOnly r=>cases h
 |gcOnly r=>cases h
 |_=>rfl
theorem aE3{L:Nat→Bool}:∀{l:List Oper} {k d:Nat},ops.toList.drop k=l→(∀j,d.testBit j=true→L j=false→Rdy ops L)→∀j,(tp1 l k d).testBit j=true→L j=false→Rdy ops L
 | [],k,d,_,h,j,hj,hL=>h j hj hL
 |o::l,k,d,hl,h,j,hj,hL=>by
  have e1:tp1 (o::l) k d=tp1 l (Nat.succ k) (cb (sub (msk false bit o.after.toList) d) (Nat.lor d (bit k)) d):=by
    show eF _ (tp1 l (Nat.succ k))=_;rw[aO]
  rw[e1]at hj;have ho:ops[k]? =some o:=by
    have:=congrArg List.head? hl;simpa using this
  have hl2:ops.toList.drop (k+1)=l:=by
    rw[←List.tail_drop,hl];rfl
  refine aE3 hl2 (fun i hi hLi=>?_) j hj hL;rw[aR]at hi;split at hi
  ·rename_i hs;rcases mQ.1 hi with hi|hi
   ·exact h i hi hLi
   ·have hk:=iI.1 hi;subst hk;by_cases hr:∃e∈o.after,Region.binds .any e=true∧L e.on=false
    ·obtain⟨e,he,hb,hLe⟩:=hr;exact h e.on (zT hs (aDu.2 ⟨e,Array.mem_toList_iff.2 he,aLR hb,iI.2 rfl⟩)) hLe
    ·refine⟨k,o,ho,hLi,fun e he hb=>?_⟩;cases hLe:L e.on with
     |true=>rfl
     |false=>exact absurd ⟨e,he,hb,hLe⟩ hr
  ·exact h i hi hLi
theorem aE4{L:Nat→Bool}:∀{n d:Nat},(∀j,d.testBit j=true→L j=false→Rdy ops L)→∀j,(tpN ops.toList n d).testBit j=true→L j=false→Rdy ops L
 |0,_,h,j,hj,hL=>h j hj hL
 |n+1,d,h,j,hj,hL=>aE4 (n:=n) (d:=tp1 ops.toList 0 d) (fun i hi hLi=>aE3 (k:=0) List.drop_zero h i hi hLi) j hj hL
theorem aE5{A:List Nat}{B:List (Nat × List Nat)}(h:kR F ops (A,B)=true):Plan F ops A B:=by
 unfold kR at h;cases hs:ob (scA F ops.toList (A,B).1 ⟨0,.lf⟩) (scB F ops.toList (A,B).2) with
 |none=>rw[hs]at h;cases h
 |some s=>
  rw[hs]at h;obtain⟨h1,h2⟩:=aW.1 (show cb (Nat.beq (Nat.succ s.d) (bit (len ops.toList))) (cb (isS (wtL ops.toList 0 .lf) fun wt=>cb (shL ops wt s.an ops.toList 0) (shW ops wt s.an B B) false) (cb (rmL (fsN B) B) (cb (Nat.beq (Nat.succ (tpN ops.toList 8 0)) (bit (len ops.toList))) (Region.noSelect ops) false) false) false) false=true from h);obtain⟨h3,h40⟩:=aW.1 h2;obtain⟨h41,h42⟩:=aW.1 h40;obtain⟨h43,h4⟩:=aW.1 h42;obtain⟨s1,h5,h6⟩:=aA.1 hs;have h0:ScI ops ⟨0,.lf⟩ []:=⟨fun j=>by simp,fun i a j hk=>(by rw[T.get_lf]at hk;cases hk),List.nodup_nil⟩
  obtain⟨h7,h8⟩:=aEV h0 h5;obtain⟨h9,h10⟩:=aEW h7 h6;simp only[List.nil_append]at h8 h9 h10;cases hw:wtL ops.toList 0 .lf with
  |none=>rw[hw]at h3;cases h3
  |some wt=>
   rw[hw]at h3;obtain⟨h11,h12⟩:=aW.1 (show cb (shL ops wt s.an ops.toList 0) (shW ops wt s.an B B) false=true from h3);have hget:∀i o t,ops[i]? =some o→o.dst=some t→wt.get t=some i:=fun i o t ho hd=>by
      have:=(kN h11 i o (by simpa using ho)).1;rw[hd,Nat.zero_add]at this;exact aKx this
   refine⟨h9.nd,fun i hi=>(h9.d i).1 ?_,h8,h10,fun i o t j o' ho ht ho' hd=>?_,fun i j o o' t ho ho' hd hd'=>?_,fun p hp j hj=>?_,h4,fun L hL=>?_,fun q hq j hj hm=>aE2 h41 q hq j hj (aLQ.2 hm)⟩
   ·have h13:s.d+1=2^ops.size:=by
       have:=aJ.1 h1;rw[show bit (len ops.toList)=2^(len ops.toList) from (by show 1<<<_=_;rw[Nat.one_shiftLeft]),dO]at this;simpa using this
    have h14:s.d=2^ops.size-1:=(by omega);rw[h14,Nat.testBit_two_pow_sub_one];simpa using hi
   ·have h13:=(kN h11 i o (by simpa using ho)).2;rw[Nat.zero_add]at h13;rcases aEX h13 t ht j (hget j o' t ho' hd) with q|q|q
    ·exact .inl q
    ·exact .inr (.inl (zV h9 q))
    ·exact .inr (.inr (zV h9 q))
   ·have:=(hget i o t ho hd).symm.trans (hget j o' t ho' hd');injection this
   ·obtain⟨o,k1,k2⟩:=aE0 (aE1 h12 p hp) j hj;exact⟨o,k1,fun t ht i o' ho' hd=>(aIK (aEZ k2 t ht i (hget i o' t ho' hd))).imp (fun q=>zV h9 q) fun q=>⟨q.1,zV h9 q.2⟩⟩
   ·obtain⟨j,hj,hLj⟩:=hL;refine aE4 (n:=8) (d:=0) (fun i hi=>by simp at hi) j ?_ hLj;have h13:tpN ops.toList 8 0+1=2^ops.size:=by
       have:=aJ.1 h43;rw[show bit (len ops.toList)=2^(len ops.toList) from (by show 1<<<_=_;rw[Nat.one_shiftLeft]),dO]at this;simpa using this
    have h14:tpN ops.toList 8 0=2^ops.size-1:=(by omega);rw[h14,Nat.testBit_two_pow_sub_one];simpa using hj
end
end Go.Proofs.YtciafpbehhmikaaGreatDoor.E
namespace Go.Proofs.YtciafpbehhmikaaGreatDoor.E
open Go Go.RowKit
open Ma Me K
def Low(h hq:H):Prop:=∀id,id<h.n→(∀b,hq.h.get id=some b→h.h.get id=some b)∧∀p,hq.l.get id=some p→h.l.get id=some p
theorem Low.refl(h:H):Low h h:=fun _ _=>⟨fun _ k=>k,fun _ k=>k⟩
theorem Low.trans{a b c:H}(h:Low a b)(hn:a.n≤b.n)(k:Low b c):Low a c:=fun id hi=>⟨fun x q=>(h id hi).1 x ((k id (Nat.lt_of_lt_of_le hi hn)).1 x q),fun x q=>(h id hi).2 x ((k id (Nat.lt_of_lt_of_le hi hn)).2 x q)⟩
def stages(tr:List Tp)(h1:H):List H:=tr.map Tp.h++[h1]
section
variable {F:Cf} {nt:Nat} {call:bD} {ops:Array Oper} {e e1:Env} {h h1:H} {tr l1 l2:List Tp} {p:Tp}
theorem Trace.split{S:Tp→Prop}:∀{l1:List Tp} {e:Env} {h:H},Trace S e h (l1++p::l2) e1 h1→Trace S e h l1 p.e p.h∧S p∧Trace S p.e' p.h' l2 e1 h1
 | [],e,h,ht=>by
   cases ht with
   |cons hp ht=>exact⟨.nil _ _,hp,ht⟩
 |q::l1,e,h,ht=>by
  cases ht with
  |cons hp ht=>
   obtain⟨k1,k2,k3⟩:=Trace.split ht;exact⟨.cons hp k1,k2,k3⟩
theorem aDv(hc:bT call)(hp:St1 F nt call ops.toList H.lift p):p.h.n≤p.h'.n∧Low p.h p.h'∧p.h'.bar=p.h.n:=by
 cases hb:p.b with
 |true=>
  have k:=vZ hc (Nat.le_refl _) (hp.y hb);exact⟨k.n,fun id hi=>⟨fun b q=>k.b id b hi q,fun b q=>k.lo id b hi q⟩,k.bar⟩
 |false=>
  obtain⟨-,k⟩:=hp.n hb;rw[k];exact⟨Nat.le_refl _,fun _ _=>⟨fun _ q=>q,fun _ q=>q⟩,rfl⟩
theorem later(hc:bT call)(ht:Trace (St1 F nt call ops.toList H.lift) e h tr e1 h1):∀hq∈stages tr h1,h.n≤hq.n∧Low h hq:=by
 induction ht with
 |nil e h=>
  intro hq hm;simp[stages]at hm;subst hm;exact⟨Nat.le_refl _,Low.refl _⟩
 | @cons p l e2 h2 hp ht ih=>
   intro hq hm;obtain⟨k1,k2,-⟩:=aDv hc hp;rcases List.mem_cons.1 (show hq∈p.h::stages l h2 from hm) with rfl|hm
   ·exact⟨Nat.le_refl _,Low.refl _⟩
   ·obtain⟨k3,k4⟩:=ih hq hm;exact⟨Nat.le_trans k1 k3,k2.trans k1 k4⟩
theorem eZ(hp:p∈tr):p.h∈stages tr h1:=List.mem_append_left _ (List.mem_map_of_mem hp)
theorem bQ:h1∈stages tr h1:=List.mem_append_right _ List.mem_cons_self
theorem sides(hc:bT call)(ht:Trace (St1 F nt call ops.toList H.lift) e h tr e1 h1):∀p∈tr,∀hq∈stages tr h1,hq.n≤p.h.n∨(p.h'.n≤hq.n∧Low p.h' hq):=by
 induction ht with
 |nil e h=>intro p hp;cases hp
 | @cons p0 l e2 h2 hp ht ih=>
   intro p hpm hq hm;obtain⟨k1,k2,-⟩:=aDv hc hp;have hl:=later hc ht;rcases List.mem_cons.1 (show hq∈p0.h::stages l h2 from hm) with rfl|hm2
   ·rcases List.mem_cons.1 hpm with rfl|hpm
    ·exact .inl (Nat.le_refl _)
    ·exact .inl (Nat.le_trans k1 (hl _ (eZ hpm)).1)
   ·rcases List.mem_cons.1 hpm with rfl|hpm
    ·exact .inr (hl hq hm2)
    ·exact ih p hpm hq hm2
structure JAg (F:Cf) (nt:Nat) (ops:Array Oper) (c0:Cx) (wb:World) (a0:Act) (e0:Env) (h0:H) (tr:List Tp) (h1:H) (b0:Nat) (B:List Nat) (g:Cx) (L:Nat→Bool) (a:Act) (w:World):Prop where
 w:g.w=w
 z:∀t,g.z t=F.P.cellsOf t
 st:∀hq∈stages tr h1,Rl (g.lo hq.n) wb (hq.back b0)
 kn:∀id,g.k id→id<h0.n∨∃p∈tr,L p.i=true∧p.h.n≤id∧id<p.h'.n
 x:Xs c0 g
 p:Ps c0.w g.w
 o:∀id,g.k id→c0.k id∨h0.n≤id
 v:∀p∈tr,L p.i=true→∀d,p.o.dst=some d→∃u,a.tmps[d]? =some u∧VR (g.lo p.h'.n) p.v u
 b:∀t v,e0.get t=some v→(∀p∈tr,p.o.dst=some t→L p.i=false)→∃u,a.tmps[t]? =some u∧VR (g.lo h0.n) v u
 sz:a.tmps.size=nt
 df:a.defers=a0.defers
 cl:∀i o e,ops[i]? =some o→L i=true→e∈o.after→keep o e=true→L e.on=true
 nb:∀i∈B,L i=false
theorem tX{g:Cx}{m m':Nat}(h:m≤m'):Xs (g.lo m) (g.lo m'):=⟨fun _ q=>⟨q.1,Nat.lt_of_lt_of_le q.2 h⟩,fun _ _=>rfl,fun _ _ k=>k,fun _ _ k=>k,fun _ _ cs _ k=>⟨cs,k,rfl⟩,rfl⟩
theorem yT{o:Oper}{x:Operand}{t:Tmp}(hx:x∈o.op.operands)(ht:x=.tmp t):t∈o.looksAt ops:=by
 subst ht;exact List.mem_append_left _ (List.mem_filterMap.2 ⟨.tmp t,by simpa using hx,rfl⟩)
theorem Reach.first{i j:Nat}(h:Reach ops i j):∃o e,ops[i]? =some o∧e∈o.after∧keep o e=true∧(e.on=j∨Reach ops e.on j):=by
 cases h with
 |one ho he hb=>exact⟨_,_,ho,he,hb,.inl rfl⟩
 |more ho he hb hr=>exact⟨_,_,ho,he,hb,.inr hr⟩
def look(ops:Array Oper)(o:Oper):Nat→Bool:=fun t=>decide (t∈o.looksAt ops)
theorem wG{o:Oper}{x:Operand}(hx:x∈o.op.operands):ev e x=ev (e.flt (look ops o)) x:=by
 cases x with
 |tmp t=>
  show e.get t=(e.flt (look ops o)).get t;rw[T.get_flt,if_pos (by simpa [look] using yT (ops:=ops) hx rfl)]
 |_=>rfl
theorem pW{o:Oper}:wanted ops.toList e o.guard=wanted ops.toList (e.flt (look ops o)) o.guard:=by
 cases hg:o.guard with
 |none=>rfl
 |some p=>
  obtain⟨j,w⟩:=p;show (ob (drp j ops.toList).head? fun o=>ob o.dst fun d=>isB (e.get d) w)=ob (drp j ops.toList).head? fun o2=>ob o2.dst fun d=>isB ((e.flt (look ops o)).get d) w;cases h1:(drp j ops.toList).head? with
  |none=>rfl
  |some o2=>
   show (ob o2.dst fun d=>isB (e.get d) w)=ob o2.dst fun d=>isB ((e.flt (look ops o)).get d) w;cases h2:o2.dst with
   |none=>rfl
   |some d=>
    have h3:ops[j]? =some o2:=(by simpa using bN h1);have h4:d∈o.looksAt ops:=(by simp[Oper.looksAt,hg,h3,h2]);show isB (e.get d) w=isB ((e.flt (look ops o)).get d) w;rw[T.get_flt,if_pos (by simpa [look] using h4)]
theorem JAg.looks{c0 g:Cx}{wb:World}{a0 a:Act}{w:World}{e0:Env}{h0:H}{b0:Nat}{B:List (Nat × List Nat)}{L:Nat→Bool}(hc:bT call)(ht:Trace (St1 F nt call ops.toList H.lift) e0 h0 (l1++p::l2) e1 h1)
  (hP:Plan F ops ((l1++p::l2).map Tp.i) B) (hJ:JAg F nt ops c0 wb a0 e0 h0 (l1++p::l2) h1 b0 (B.map Prod.fst) g L a w) (hi:L p.i=false) (hdep:∀e∈p.o.after,keep p.o e=true→L e.on=true):Tr (g.lo p.h.n) nt (p.e.flt (look ops p.o)) a.tmps:=by
 refine⟨hJ.sz,fun t v hv=>?_⟩;rw[T.get_flt]at hv;split at hv
 ·rename_i hlk;have hlk:t∈p.o.looksAt ops:=(by simpa [look] using hlk);obtain⟨t1,hp,t2⟩:=ht.split;have ho:ops[p.i]? =some p.o:=(by simpa using bN hp.o);have hmem:p∈l1++p::l2:=List.mem_append_right _ List.mem_cons_self
  --what the operation reaches is done
  have hreach:∀j,Reach ops p.i j→L j=true:=fun j hr=>by
   cases hr with
   |one ho2 he hb=>rw[ho]at ho2;injection ho2 with ho2;subst ho2;exact hdep _ he hb
   |more ho2 he hb hr=>rw[ho]at ho2;injection ho2 with ho2;subst ho2;exact hr.closed (S:=fun i=>L i=true) hJ.cl (hdep _ he hb)
  have hback:∀j,Reach ops j p.i→L j=false:=fun j hr=>by
   cases hL:L j with
   |false=>rfl
   |true=>
    have:=hr.closed (S:=fun i=>L i=true) hJ.cl hL;rw[hi]at this;cases this
  have hop:∀q∈l1++p::l2,ops[q.i]? =some q.o:=fun q hq=>by
   obtain⟨s1,s2,he⟩:=List.append_of_mem hq;rw[he]at ht;simpa using bN ht.split.2.1.o
  rcases t1.get (fun q hq=>hq.e) hv with⟨q,hq,hd,rfl⟩|⟨hno,hv⟩
  ·have hqm:q∈l1++p::l2:=List.mem_append_left _ hq;have hdone:L q.i=true:=by
    rcases hP.wr p.i p.o t q.i q.o ho hlk (hop q hqm) hd with k|k|k
    ·have hnd:=hP.nd;rw[List.map_append,List.map_cons]at hnd;have:=(List.nodup_append.1 (List.nodup_append.1 hnd).1).2.2 q.i (List.mem_map_of_mem hq) p.i List.mem_cons_self;exact absurd k this
    ·exact hreach _ k
    ·exfalso
     --q stands ahead of p in the order
     obtain⟨s1,s2,he⟩:=List.append_of_mem hq;have hone:∀s1 q s2,(l1++p::l2).map Tp.i=s1++q::s2→∀o e,ops[q]? =some o→e∈o.after→keep o e=true→e.on∈s1:=fun s1 q s2 hs o e ho2 he hb=>by
      obtain⟨o',k1,k2,-⟩:=(hP.a s1 q s2 hs).o;rw[ho2]at k1;injection k1 with k1;subst k1;exact k2 e he hb
     have hS:∀i o e,ops[i]? =some o→i∈l1.map Tp.i→e∈o.after→keep o e=true→e.on∈l1.map Tp.i:=fun i o e ho2 him he2 hb=>by
      obtain⟨x1,x2,hx⟩:=List.append_of_mem him;have:=hone x1 i (x2++p.i::l2.map Tp.i) (by rw[List.map_append,List.map_cons,hx];simp) o e ho2 he2 hb;rw[hx];exact List.mem_append_left _ this
     have h2:=k.closed (S:=fun i=>i∈l1.map Tp.i) hS (List.mem_map_of_mem hq);have hnd:=hP.nd;rw[List.map_append,List.map_cons]at hnd;exact (List.nodup_append.1 (List.nodup_append.1 hnd).1).2.2 p.i h2 p.i List.mem_cons_self rfl
   obtain⟨u,k1,k2⟩:=hJ.v q hqm hdone t hd;refine⟨u,k1,k2.xs (tX ?_)⟩;obtain⟨s1,s2,he⟩:=List.append_of_mem hq;rw[he]at t1;exact (later hc t1.split.2.2 p.h bQ).1
  ·obtain⟨u,k1,k2⟩:=hJ.b t v hv (fun q hq hd=>by
    rcases hP.wr p.i p.o t q.i q.o ho hlk (hop q hq) hd with k|k|k
    ·rw[k];exact hi
    ·exfalso
     --what p waits for stands ahead of it
     have h2:q.i∈l1.map Tp.i:=by
      have hone:∀s1 i s2,(l1++p::l2).map Tp.i=s1++i::s2→∀o e,ops[i]? =some o→e∈o.after→keep o e=true→e.on∈s1:=fun s1 i s2 hs o e ho2 he hb=>by
       obtain⟨o',k1,k2,-⟩:=(hP.a s1 i s2 hs).o;rw[ho2]at k1;injection k1 with k1;subst k1;exact k2 e he hb
      have hS:∀i o e,ops[i]? =some o→i∈l1.map Tp.i→e∈o.after→keep o e=true→e.on∈l1.map Tp.i:=fun i o e ho2 him he2 hb=>by
       obtain⟨x1,x2,hx⟩:=List.append_of_mem him;have:=hone x1 i (x2++p.i::l2.map Tp.i) (by rw[List.map_append,List.map_cons,hx];simp) o e ho2 he2 hb;rw[hx];exact List.mem_append_left _ this
      have hp1:=hone (l1.map Tp.i) p.i (l2.map Tp.i) (by simp);obtain⟨o2,e2,ho2,he,hb,hr⟩:=k.first;rcases hr with hr|hr
      ·rw[←hr];exact hp1 _ _ ho2 he hb
      ·exact hr.closed (S:=fun i=>i∈l1.map Tp.i) hS (hp1 _ _ ho2 he hb)
     obtain⟨q2,hq2,hqi⟩:=List.mem_map.1 h2;have:q2.o=q.o:=by
      have m1:=hop q2 (List.mem_append_left _ hq2);have m2:=hop q hq;rw[hqi,m2]at m1;injection m1 with m1;exact m1.symm
     exact hno q2 hq2 (by rw[this];exact hd)
    ·exact hback _ k)
   exact⟨u,k1,k2.xs (tX (later hc t1 p.h bQ).1)⟩
 ·cases hv
end
end Go.Proofs.YtciafpbehhmikaaGreatDoor.E
namespace Go.Proofs.YtciafpbehhmikaaGreatDoor.E
open Go Go.RowKit
open Ma Me K
section
variable {F:Cf} {nt:Nat} {call:bD} {ops:Array Oper} {e0 e1:Env} {h0 h1:H} {l1 l2:List Tp} {p:Tp} {c0 g d:Cx} {wb:World} {a0 a:Act} {b0:Nat} {B:List (Nat × List Nat)} {L:Nat→Bool} {w:World}
theorem aA0{u:Value}{t:Tmp}{x:Nat}(h:x<a.tmps.size)(ht:t=x):(a.put (some x) u).tmps[t]? =some u:=by
 subst ht;simp[Act.put,h]
theorem wH{u:Value}{t:Tmp}{d0:Option Tmp}(h:d0≠some t):(a.put d0 u).tmps[t]? =a.tmps[t]? :=by
 cases d0 with
 |none=>rfl
 |some k=>
  simp only[Act.put,Array.getElem?_setIfInBounds];rw[if_neg (fun e=>h (by rw[e]))]
theorem tY{i j:Nat}(h:Ja.upd L i true j=true):j=i∨L j=true:=by
 unfold Ja.upd at h;split at h
 ·rename_i q;exact .inl q
 ·exact .inr h
theorem lN{i j:Nat}(h:L j=true):Ja.upd L i true j=true:=by
 unfold Ja.upd;split
 ·rfl
 ·exact h
theorem aHG{i:Nat}:Ja.upd L i true i=true:=by unfold Ja.upd;rw[if_pos rfl]
theorem pX{i j:Nat}(h:Ja.upd L i true j=false):j≠i∧L j=false:=by
 unfold Ja.upd at h;split at h
 ·cases h
 ·rename_i q;exact⟨q,h⟩
theorem JAg.next{u:Value}(hc:bT call)(ht:Trace (St1 F nt call ops.toList H.lift) e0 h0 (l1++p::l2) e1 h1)(hP:Plan F ops ((l1++p::l2).map Tp.i) B)(hJ:JAg F nt ops c0 wb a0 e0 h0 (l1++p::l2) h1 b0 (B.map Prod.fst) g L a w)(hi:L p.i=false)(hdep:∀e∈p.o.after,keep p.o e=true→L e.on=true)
  (X:Xt (g.lo p.h.n) d) (R:Rl d g.w p.h') (V:VR d p.v u):JAg F nt ops c0 wb a0 e0 h0 (l1++p::l2) h1 b0 (B.map Prod.fst) (g.mg d p.h.n p.h'.n) (Ja.upd L p.i true) (a.put p.o.dst u) d.w:=by
 obtain⟨t1,hp,t2⟩:=ht.split;have ho:ops[p.i]? =some p.o:=by simpa using bN hp.o
 have hmem:p∈l1++p::l2:=List.mem_append_right _ List.mem_cons_self;obtain⟨hn,-,hbar⟩:=aDv hc hp;have hnd:=hP.nd;have hnd2:=(List.nodup_append.1 hnd).1;rw[List.map_append,List.map_cons]at hnd2;have hone:∀q∈l1++p::l2,q.i=p.i→q=p:=fun q hq hqi=>by
  rcases List.mem_append.1 hq with hq|hq
  ·exact absurd hqi ((List.nodup_append.1 hnd2).2.2 q.i (List.mem_map_of_mem hq) p.i List.mem_cons_self)
  ·rcases List.mem_cons.1 hq with rfl|hq
   ·rfl
   ·exact absurd (by rw[←hqi];exact List.mem_map_of_mem hq) (List.nodup_cons.1 (List.nodup_append.1 hnd2).2.1).1
 have hop:∀q∈l1++p::l2,ops[q.i]? =some q.o:=fun q hq=>by
  obtain⟨s1,s2,he⟩:=List.append_of_mem hq;rw[he]at ht;simpa using bN ht.split.2.1.o
 have hlow:h0.n≤p.h.n:=(later hc ht _ (eZ hmem)).1;have hf:∀id,g.k id→p.h.n≤id→p.h'.n≤id:=fun id hk hge=>by
  rcases hJ.kn id hk with q|⟨q,hq,hL,q1,q2⟩
  ·omega
  ·rcases sides hc ht p hmem q.h (eZ hq) with k|k
   ·--q stands ahead of p,or is p
    rcases List.mem_append.1 hq with hq|hq
    ·obtain⟨s1,s2,he⟩:=List.append_of_mem hq;rw[he]at t1;have:=(later hc t1.split.2.2 p.h bQ).1;omega
    ·rcases List.mem_cons.1 hq with rfl|hq
     ·rw[hi]at hL;cases hL
     ·obtain⟨s1,s2,he⟩:=List.append_of_mem hq;rw[he]at t2;have h5:=(later hc t2 q.h (eZ (List.mem_append_right _ List.mem_cons_self))).1;omega
   ·omega
 have hlt:∀id,d.k id→id<p.h'.n:=fun id q=>by have:=R.k id q;rw[R.n]at this;exact this
 refine⟨rfl,hJ.z,fun hq hm=>?_,fun id hk=>?_,?_,hJ.p.trans X.p,fun id hk=>?_,fun q hq hL x hd=>?_,fun t v hv hno=>?_,?_,?_,fun i o e hio hL he hb=>?_,fun i hiB=>?_⟩
 ·refine Rl.merge X R rfl hbar hf (hJ.st hq hm) ?_;rcases sides hc ht p hmem hq hm with k|⟨k1,k2⟩
  ·exact .inl k
  ·exact .inr ⟨k1,fun id b hlt=>(k2 id hlt).1 b,fun id b hlt=>(k2 id hlt).2 b⟩
 ·rcases hk with hk|⟨hk,hge⟩
  ·rcases hJ.kn id hk with q|⟨q,hq,hL,q1,q2⟩
   ·exact .inl q
   ·exact .inr ⟨q,hq,lN hL,q1,q2⟩
  ·exact .inr ⟨p,hmem,aHG,hge,hlt id hk⟩
 ·exact⟨fun id hk=>.inl (hJ.x.k id hk),fun id hk=>(rQ hf (hJ.x.k id hk)).trans (hJ.x.r id hk),fun v N q=>X.p.m v N (hJ.x.m v N q),fun v N q=>X.p.mr v N (hJ.x.mr v N q),fun gg t cs fr q=>by
   obtain⟨cs1,k1,k2⟩:=hJ.x.s gg t cs fr q;obtain⟨cs2,k3,k4⟩:=X.p.s gg t cs1 fr k1;exact⟨cs2,k3,k4.trans k2⟩,hJ.x.z⟩
 ·rcases hk with hk|⟨hk,hge⟩
  ·exact hJ.o id hk
  ·exact .inr (Nat.le_trans hlow hge)
 ·by_cases hqi:q.i=p.i
  ·have:=hone q hq hqi;subst this;have hlt2:x<a.tmps.size:=by
    have h6:=hp.e;rw[hd]at h6;rw[hJ.sz];exact h6.1
   rw[hd];exact⟨u,aA0 hlt2 rfl,V.xs (aDt X R rfl hf (Nat.le_refl _))⟩
  ·have hL2:L q.i=true:=(tY hL).resolve_left hqi;obtain⟨u2,k1,k2⟩:=hJ.v q hq hL2 x hd;refine⟨u2,?_,k2.xs (aDs X hf)⟩;rw[wH (fun hd2=>hqi (hP.un q.i p.i q.o p.o x (hop q hq) ho hd hd2))];exact k1
 ·obtain⟨u2,k1,k2⟩:=hJ.b t v hv (fun q hq hd=>(pX (hno q hq hd)).2);refine⟨u2,?_,k2.xs (aDs X hf)⟩;rw[wH (fun hd2=>(pX (hno p hmem hd2)).1 rfl)];exact k1
 ·cases p.o.dst with
  |none=>exact hJ.sz
  |some x=>simpa [Act.put] using hJ.sz
 ·cases p.o.dst<;>exact hJ.df
 ·rcases tY hL with rfl|hL
  ·rw[ho]at hio;injection hio with hio;subst hio;exact lN (hdep e he hb)
  ·exact lN (hJ.cl i o e hio hL he hb)
 ·have hne:i≠p.i:=fun e=>(List.nodup_append.1 hnd).2.2 p.i (List.mem_map_of_mem hmem) i hiB e.symm;unfold Ja.upd;rw[if_neg hne];exact hJ.nb i hiB
theorem JAg.step(hF:FOk F)(htb:F.tb wb)(hc:bT call)(hopk:∀(j:Nat) (o:Oper) (e:Env) (h:H) (v:AV) (h':H),ops[j]? =some o→op1 F call o.op e h=some (v,h')→kZ F nt ops j o e h v h')(ht:Trace (St1 F nt call ops.toList H.lift) e0 h0 (l1++p::l2) e1 h1)(hP:Plan F ops ((l1++p::l2).map Tp.i) B)(hJ:JAg F nt ops c0 wb a0 e0 h0 (l1++p::l2) h1 b0 (B.map Prod.fst) g L a w)(hi:L p.i=false)(hdep:∀e∈p.o.after,keep p.o e=true→L e.on=true)(b:Frame)(rest:List Nat)(k:List Item)(cs:List Frame):
  ∃a' w' g',JAg F nt ops c0 wb a0 e0 h0 (l1++p::l2) h1 b0 (B.map Prod.fst) g' (Ja.upd L p.i true) a' w'∧Steps F.P (lone (b.atR a (.inRegion ops (p.i::rest)::k)) cs w) (lone (b.atR a' (.inRegion ops rest::k)) cs w'):=by
 have hT:=hJ.looks hc ht hP hi hdep;obtain⟨t1,hp,t2⟩:=ht.split;have ho:ops[p.i]? =some p.o:=by simpa using bN hp.o
 have hmem:p∈l1++p::l2:=List.mem_append_right _ List.mem_cons_self;have hR:=hJ.st p.h (eZ hmem);have hw:=hJ.w;subst hw;have hRl:Rl (g.lo p.h.n) g.w p.h.lift:=hR.lift;have f:Fr F (g.lo p.h.n) g.w nt p.h.lift (p.e.flt (look ops p.o)) a:=⟨hRl,hJ.z,hT,hF.tq _ _ hR.q htb⟩
 have hwant:wanted ops.toList (p.e.flt (look ops p.o)) p.o.guard=some p.b:=by rw[←pW];exact hp.w
 have hW:=kU hwant hT;cases hb:p.b with
 |true=>
  have hx:op1 F call p.o.op (p.e.flt (look ops p.o)) p.h.lift=some (p.v,p.h'):=by
    rw[←mJ (e:=p.e) (fun x hx=>wG hx)];exact hp.y hb
  obtain⟨u,d,X,R,V,S⟩:=hopk p.i p.o _ _ _ _ ho hx (g.lo p.h.n) g.w a f (hW.trans hb) b rest k cs;exact⟨_,_,_,hJ.next hc ht hP hi hdep X R V,S⟩
 |false=>
  obtain⟨hv,hh⟩:=hp.n hb;have S:=stepR_op_skip (P:=F.P) (b:=b) (a:=a) (k:=k) (cs:=cs) (w:=g.w) (ops:=ops) (i:=p.i) (rest:=rest) (by simp[ho,hW.trans hb]);simp only[ho,Option.bind_some]at S;have V:VR (g.lo p.h.n) p.v undef:=(by rw[hv];exact pU);have R:Rl (g.lo p.h.n) g.w p.h':=(by rw[hh];exact hRl);exact⟨_,_,_,hJ.next hc ht hP hi hdep (Xt.refl _) R V,.one S⟩
end
end Go.Proofs.YtciafpbehhmikaaGreatDoor.E
namespace Go.Proofs.YtciafpbehhmikaaGreatDoor.E
open Go Go.RowKit
open Ma Me K
structure Wf (h:H):Prop where
 b:∀id b,h.h.get id=some b→id<h.n
 l:∀id b,h.l.get id=some b→id<h.n
section
variable {F:Cf} {nt:Nat} {call:bD} {ops:Array Oper} {e0 e1:Env} {h h0 h1 hq:H} {tr:List Tp} {p:Tp} {c c0 g d:Cx} {wb:World} {a0 a:Act} {b0:Nat} {B:List (Nat × List Nat)} {L:Nat→Bool} {w:World}
theorem aLS(hc:bT call)(hp:St1 F nt call ops.toList H.lift p)(hw:Wf p.h):Wf p.h':=by
 cases hb:p.b with
 |true=>
  have k:=vZ hc (Nat.le_refl _) (hp.y hb);exact⟨k.wb hw.b,k.wl hw.l⟩
 |false=>
  obtain⟨-,k⟩:=hp.n hb;rw[k];exact⟨hw.b,hw.l⟩
theorem aGv(hc:bT call)(ht:Trace (St1 F nt call ops.toList H.lift) e0 h0 tr e1 h1):Wf h0→∀hq∈stages tr h1,Wf hq:=by
 induction ht with
 |nil e h=>
  intro hw hq hm;simp[stages]at hm;subst hm;exact hw
 | @cons p l e2 h2 hp ht ih=>
   intro hw hq hm;rcases List.mem_cons.1 (show hq∈p.h::stages l h2 from hm) with rfl|hm2
   ·exact hw
   ·exact ih (aLS hc hp hw) hq hm2
theorem Rl.wf(hr:Rl c wb h):Wf h:=⟨fun id b k=>(hr.blk id b k).1,fun id b k=>(hr.lp id b k).1⟩
theorem Rl.up(hr:Rl c wb h)(hn:h.n≤hq.n)(hl:Low h hq)(hw:Wf hq):Rl (c.lo hq.n) wb (hq.back h.bar):=by
 have lt:∀id,c.k id→id<h.n:=fun id k=>by have:=hr.k id k;rw[hr.n]at this;exact this
 have X:Xs c (c.lo hq.n):=⟨fun id k=>⟨k,Nat.lt_of_lt_of_le (lt id k) hn⟩,fun _ _=>rfl,fun _ _ k=>k,fun _ _ k=>k,fun _ _ cs _ k=>⟨cs,k,rfl⟩,rfl⟩
 exact⟨rfl,fun id q=>q.2,hr.q,fun id b hg=>⟨hw.b id b hg,fun q=>((hr.blk id b ((hl id (lt id q.1.1)).1 b hg)).2 ⟨q.1.1,q.2⟩).xs X rfl⟩,
  fun i j b b2 hi hj qi qj hij=>hr.inj i j b b2 ((hl i (lt i qi.1.1)).1 b hi) ((hl j (lt j qj.1.1)).1 b2 hj) ⟨qi.1.1,qi.2⟩ ⟨qj.1.1,qj.2⟩ hij,
  fun id b hg q hb=>hr.new id b ((hl id (lt id q.1.1)).1 b hg) ⟨q.1.1,q.2⟩ hb,
  fun l p hg=>⟨hw.l l p hg,fun q=>⟨((hr.lp l p ((hl l (lt l q.1)).2 p hg)).2 q.1).1.xs X rfl,((hr.lp l p ((hl l (lt l q.1)).2 p hg)).2 q.1).2⟩⟩,
  fun i j p p2 hi hj qi qj hij=>hr.li i j p p2 ((hl i (lt i qi.1)).2 p hi) ((hl j (lt j qj.1)).2 p2 hj) qi.1 qj.1 hij⟩
theorem JAg.start(hc:bT call)(ht:Trace (St1 F nt call ops.toList H.lift) e0 h0 tr e1 h1)(f:Fr F c0 wb nt h0 e0 a0){Bs:List Nat}:JAg F nt ops c0 wb a0 e0 h0 tr h1 h0.bar Bs c0 (fun _=>false) a0 c0.w:=by
 have lt:∀id,c0.k id→id<h0.n:=fun id k=>by have:=f.r.k id k;rw[f.r.n]at this;exact this
 refine⟨rfl,f.z,fun hq hm=>?_,fun id k=>.inl (lt id k),(Xt.refl c0).xs,Ps.refl _,fun id k=>.inl k,fun p hp hL=>(by cases hL),fun t v hv _=>?_,f.t.1,rfl,fun i o e _ hL=>(by cases hL),fun _ _=>rfl⟩
 ·obtain⟨k1,k2⟩:=later hc ht hq hm;exact f.r.up k1 k2 (aGv hc ht f.r.wf hq hm)
 ·obtain⟨u,k1,k2⟩:=f.t.2 t v hv;exact⟨u,k1,k2.xs (show Xs c0 (c0.lo h0.n) from⟨fun id k=>⟨k,lt id k⟩,fun _ _=>rfl,fun _ _ k=>k,fun _ _ k=>k,fun _ _ cs _ k=>⟨cs,k,rfl⟩,rfl⟩)⟩
theorem JAg.finish{Bs:List Nat}(hc:bT call)(ht:Trace (St1 F nt call ops.toList H.lift) e0 h0 tr e1 h1)(f:Fr F c0 wb nt h0 e0 a0)(hJ:JAg F nt ops c0 wb a0 e0 h0 tr h1 b0 Bs g L a w)(hall:∀p∈tr,L p.i=true):
  Fr F (g.lo h1.n) wb nt (h1.back b0) e1 a∧Xt c0 (g.lo h1.n)∧g.w=w:=by
 have hn:=(later hc ht h1 bQ).1;have lt:∀id,c0.k id→id<h0.n:=fun id k=>by have:=f.r.k id k;rw[f.r.n]at this;exact this
 refine⟨⟨hJ.st h1 bQ,hJ.z,⟨hJ.sz,fun t v hv=>?_⟩,f.b⟩,⟨by rw[f.r.n];exact hn,fun id k=>⟨hJ.x.k id k,Nat.lt_of_lt_of_le (lt id k) hn⟩,fun id k=>by rw[f.r.n];exact hJ.o id k.1,hJ.x.r,hJ.p,hJ.x.z⟩,hJ.w⟩;rcases ht.get (fun q hq=>hq.e) hv with⟨q,hq,hd,rfl⟩|⟨hno,hv⟩
 ·obtain⟨u,k1,k2⟩:=hJ.v q hq (hall q hq) t hd;refine⟨u,k1,k2.xs (tX ?_)⟩;obtain⟨s1,s2,he⟩:=List.append_of_mem hq;rw[he]at ht;exact (later hc ht.split.2.2 h1 bQ).1
 ·obtain⟨u,k1,k2⟩:=hJ.b t v hv (fun q hq hd=>absurd hd (hno q hq));exact⟨u,k1,k2.xs (tX hn)⟩
theorem Plan.ready{A:List Nat}(hP:Plan F ops A B){L:Nat→Bool}(h:∃j,j<ops.size∧L j=false):∃i o,ops[i]? =some o∧L i=false∧∀e∈o.after,Region.binds .any e=true→L e.on=true:=hP.dn L h
end
end Go.Proofs.YtciafpbehhmikaaGreatDoor.E
namespace Go.Proofs.YtciafpbehhmikaaGreatDoor.E
open Go Go.RowKit
open Ma Me K
section
variable {F:Cf} {nt:Nat} {call:bD} {ops:Array Oper} {e0 e1 e2:Env} {h0 h1 h2:H} {tr:List Tp} {trB:List (Tp × List Nat)} {c0:Cx} {wb:World} {a0 a:Act} {A:List Nat} {B:List (Nat × List Nat)} {L:Nat→Bool} {w:World}
def Cl(ops:Array Oper)(L:Nat→Bool):Prop:=∀i o e,ops[i]? =some o→L i=true→e∈o.after→keep o e=true→L e.on=true
theorem reached(hcl:Cl ops L){i:Nat}{o:Oper}(ho:ops[i]? =some o)(hdep:∀e∈o.after,keep o e=true→L e.on=true){j:Nat}(h:Reach ops i j):L j=true:=by
 obtain⟨o2,e,k1,k2,k3,k4⟩:=h.first;rw[ho]at k1;injection k1 with k1;subst k1;rcases k4 with rfl|k4
 ·exact hdep _ k2 k3
 ·exact k4.closed (S:=fun i=>L i=true) hcl (hdep _ k2 k3)
end
end Go.Proofs.YtciafpbehhmikaaGreatDoor.E
namespace Go.Proofs.YtciafpbehhmikaaGreatDoor.E
open Go Go.RowKit
open Ma Me K
section
variable {F:Cf} {nt fn:Nat} {call:bD} {ops:Array Oper} {e e1 e2:Env} {h h1 h2:H} {tr:List Tp} {trB:List (Tp × List Nat)} {q:Bool} {r:R}
theorem wJ{eB:Env}{hB:H}(ht:TraceB F nt call ops.toList eB hB [] e2 h2):e2=eB∧h2=hB:=by
 cases ht;exact⟨rfl,rfl⟩
end
end Go.Proofs.YtciafpbehhmikaaGreatDoor.E
namespace Go.Proofs.YtciafpbehhmikaaGreatDoor.E
open Go Go.RowKit
open Ma Me K
theorem T.get_ne{α:Type}{n:Nat}{x:α}{t:T n α}{k j:Nat}(hn:j≠k):(T.set x t k).get j=t.get j:=by
 rcases T.get_upd (x:=x) (t:=t) (k:=k) (j:=j) with h|⟨h,-⟩
 ·exact h
 ·exact absurd h hn
section
variable {F:Cf} {nt:Nat} {call:bD} {ops:Array Oper} {e e1:Env} {h h0 h1:H} {tr:List Tp}
theorem rR.ne{d:Option Nat}{v:AV}{e':Env}(hp:rR nt e d v e'){t:Nat}(ht:d≠some t):e'.get t=e.get t:=by
 cases d with
 |none=>rw[show e'=e from hp]
 |some k=>
  obtain⟨-,rfl⟩:=hp;exact T.get_ne fun q=>ht (by rw[q])
theorem Trace.ne{S:Tp→Prop}(hS:∀p,S p→rR nt p.e p.o.dst p.v p.e')(ht:Trace S e h tr e1 h1){t:Nat}(hno:∀p∈tr,p.o.dst≠some t):e1.get t=e.get t:=by
 induction ht with
 |nil e h=>rfl
 | @cons p l e2 h2 hp ht ih=>exact (ih fun q hq=>hno q (List.mem_cons_of_mem _ hq)).trans ((hS p hp).ne (hno p List.mem_cons_self))
def wK(F:Cf)(call:bD):Prop:=∀(f:Nat) (g:List AV→Option AV) (l:List AV) (h h0:H),F.pr f=some g→Pm h (call (sc (.f f [])) l h) (call (sc (.f f [])) l h0)
theorem aBT{ex:bL}:wK F (bC F ex):=by
 intro f g l h h0 hf;show Pm h (aY F ex f (app l (uU [])) h) (aY F ex f (app l (uU [])) h0);unfold aY;rw[hf];refine Pm.ob fun G=>Pm.ob fun c=>?_;exact Pm.ob (f:=fun v=>some (v,h)) (g:=fun v=>some (v,h0)) fun v=>Pm.ye
theorem aKy{o:Op}(hc:wK F call)(hm:mkO F o=.p):Pm h (op1 F call o e h) (op1 F call o e h0):=by
 cases o with
 |move x=>exact Pm.ob (f:=fun v=>some (v,h)) (g:=fun v=>some (v,h0)) fun v=>Pm.ye
 |assign x=>exact Pm.ob (f:=fun v=>some (v,h)) (g:=fun v=>some (v,h0)) fun v=>Pm.ye
 |pick c a d=>exact aCf
 |build t ps=>exact aAG
 |nilCheck x=>exact aEu
 |binOp op t x y t2=>exact aEv
 |unOp op t x=>exact aHx
 |convert s t x=>exact aCg
 |makeFunc g x y=>exact aCh
 |makeInterface t x=>exact aHw
 |slice t x lo hi mx=>exact aAH
 |fieldAddr s x g=>exact aHy
 |field s x g=>exact aAI
 |indexAddr t x y=>exact aHz
 |index t x y=>exact aHA
 |extract x i=>exact aEz
 |call c=>
  obtain⟨callee,xs,ats⟩:=c;cases callee with
  |value g=>
   cases g with
   |func f=>
    have hm:(Option.rec (motive:=fun _=>Mk) .c (fun _=>.p) (F.pr f))=Mk.p:=hm;cases hp:F.pr f with
    |none=>rw[hp]at hm;cases hm
    |some gg=>
     show Pm h (ob (ev e (.func f)) fun v=>ob (evL e xs.toList) fun l=>call v l h) (ob (ev e (.func f)) fun v=>ob (evL e xs.toList) fun l=>call v l h0);exact Pm.ob (r:=evL e xs.toList) (f:=fun l=>call (sc (.f f [])) l h) (g:=fun l=>call (sc (.f f [])) l h0) fun l=>hc f gg l h h0 hp
   |_=>cases hm
  |invoke r m=>cases hm
  |builtin b=>
   refine Pm.ob (f:=fun l=>bi F h b ats.toList l) (g:=fun l=>bi F h0 b ats.toList l) fun l=>?_;cases b with
   |len=>unfold bi;dsimp only;repeat' (first|exact rfl|exact aEx|exact aEy|exact Pm.no|exact Pm.ye|exact Pm.vh|refine Pm.ob fun _=>?_|refine Pm.cb ?_ ?_|refine Pm.one fun _=>?_|refine Pm.agg fun _=>?_|refine Pm.natOf fun _=>?_|refine Pm.bound fun _=>?_|refine Pm.chk ?_|refine Pm.opt ?_ fun _=>?_|split)
   |min=>exact Pm.ob (f:=fun v=>some (v,h)) (g:=fun v=>some (v,h0)) fun v=>Pm.ye
   |max=>exact Pm.ob (f:=fun v=>some (v,h)) (g:=fun v=>some (v,h0)) fun v=>Pm.ye
   |append=>cases hm
   |cap=>unfold bi;dsimp only;repeat' (first|exact rfl|exact Pm.no|exact Pm.ye|exact Pm.vh|refine Pm.ob fun _=>?_|refine Pm.cb ?_ ?_|refine Pm.one fun _=>?_|refine Pm.agg fun _=>?_|refine Pm.natOf fun _=>?_|refine Pm.bound fun _=>?_|refine Pm.chk ?_|refine Pm.opt ?_ fun _=>?_|split)
   |_=>exact Pm.no
 |_=>cases hm
theorem tZ{x y:Bool}(h:cb x y (cO y)=true):x=y:=by cases x<;>cases y<;>first|rfl|cases h
theorem aKz{x y:SV}(h:svb x y=true):x=y:=by
 unfold svb at h;split at h
 ·rw[tZ h]
 ·obtain⟨h1,h2⟩:=aW.1 h;rw[mO]at h2;rw[of_decide_eq_true h1,of_decide_eq_true h2]
 ·rw[wC]at h;rw[of_decide_eq_true h]
 ·rfl
 ·obtain⟨h1,h2⟩:=aW.1 h;rw[aJ.1 h1,aJ.1 h2]
 ·rfl
 ·obtain⟨h1,h2⟩:=aW.1 h;obtain⟨h3,h4⟩:=aW.1 h2;obtain⟨h5,h6⟩:=aW.1 h4;rw[aJ.1 h1,aJ.1 h3,aJ.1 h5,aJ.1 h6]
 ·obtain⟨h1,h2⟩:=aW.1 h;obtain⟨h3,h4⟩:=aW.1 h2;rw[aJ.1 h1,aJ.1 h3,aJ.1 h4]
 ·rw[aJ.1 h]
 ·rfl
 ·rw[aJ.1 h]
 ·cases h
theorem oW:∀{l m:List SV},svL l m=true→l=m
 | [],[],_=>rfl
 | [],_::_,h=>by cases h
 |_::_,[],h=>by cases h
 |a::l,b::m,h=>by
  obtain⟨h1,h2⟩:=aW.1 (show cb (svb a b) (svL l m) false=true from h);rw[aKz h1,oW h2]
theorem aKA{x y:AV}(h:avb x y=true):x=y:=by
 unfold avb at h;split at h
 ·obtain⟨h1,h2⟩:=aW.1 h;rw[tZ h1,oW h2]
 ·cases h
theorem aE6{o:Op}(hm:mkO F o=.l):∃t a,o=.load t a:=by
 cases o with
 |load t a=>exact⟨t,a,rfl⟩
 |call c=>
  obtain⟨callee,xs,ats⟩:=c;cases callee with
  |value g=>
   cases g with
   |func f=>
    have hm:(Option.rec (motive:=fun _=>Mk) .c (fun _=>.p) (F.pr f))=Mk.l:=hm;cases hp:F.pr f with
    |none=>rw[hp]at hm;cases hm
    |some gg=>rw[hp]at hm;cases hm
   |_=>cases hm
  |invoke r m=>cases hm
  |builtin b=>cases b<;>cases hm
 |_=>cases hm
end
end Go.Proofs.YtciafpbehhmikaaGreatDoor.E
