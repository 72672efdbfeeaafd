/- PolyComputes is true for any two slices of strings and any two strings. No condition. -/
import Derived.Test.YtpobejcofijjdaaGreatDoorQd06
namespace Go.Proofs.YtpobejcofijjdaaGreatDoor.E
open Go Go.RowKit
open Ma Me K
def aCE(F:Cf)(ex:dX):Prop:=∀q nt fn (f:Operand) (ps:Array Tmp) (cs bd:Code) (e:Env) (h:H) (r:R),(ob (ev e f) fun f=>aBJ F ex q nt fn f ps.toList cs bd e h)=some r→iZ F q nt fn (.rangeFunc f ps cs bd) e h r
def aOz(F:Cf)(ex:dX):Prop:=∀q nt fn (a:Code) (e:Env) (h:H) (r:R),ex q nt fn a e h=some r→iZ F q nt fn (.scope a) e h r
theorem uO{P:Program}{b:Frame}{a:Act}{c:Code}{k:List Item}{cs:List Frame}{w:World}:step P (lone (b.atR a (.code (.scope c)::k)) cs w)=.next (lone (b.atR a (.code c::.inScope c::k)) cs w):=
 step_lone_go (by simp[stepG,stepG.exec,Frame.atR])
theorem aDv{P:Program}{b:Frame}{a:Act}{c:Code}{k:List Item}{cs:List Frame}{w:World}:step P (lone (b.atR a (.inScope c::k)) cs w)=.next (lone (b.atR a k) cs w):=
 step_lone_go (by simp[stepG,stepG.exec,Frame.atR])
theorem aOA{F:Cf}{ex:dX}(hex:kK F ex):aOz F ex:=by
 intro q nt fn x e h r hx c wb a f b k cs hb hq;obtain⟨a1,d1,B1,A1⟩:=hex _ _ _ _ _ _ _ hx c wb a f b (.inScope x::k) cs hb hq;obtain⟨x1,e1,g1⟩:=r;refine⟨a1,d1,B1,?_⟩;cases x1 with
 |n=>exact .head uO (Steps.trans A1 (.one aDv))
 |x j=>
  obtain⟨k1,q1,q2⟩:=A1;exact⟨k1,q1.trans (by simp[exitTo]),.head uO q2⟩
 |r=>
  obtain⟨k1,q2⟩:=A1;exact⟨k1,.head uO q2⟩
def aDJ(F:Cf)(ex:dX):Prop:=∀q nt fn (x:Code) (e:Env) (h:H) (r:R),ex q nt fn (.loop x) e h=some r→yU F q nt fn x e h r
theorem aL3{F:Cf}{ex:dX}(hF:FOk F)(hm:F.P.follows .mixedOrders=true)(hfr:wW ex)(hex:kK F ex)(hl:aDJ F ex)(hY:vS F ex)(hR:aCE F ex):kK F (aBL F ex)∧aDJ F (aBL F ex):=by
 have hloop:aDJ F (aBL F ex):=fun q nt fn x e h r hx=>x_loop' hex (fun e h r=>hl q nt fn x e h r) hx;refine⟨fun q nt fn c e h r hx=>?_,hloop⟩;cases c with
 |skip=>cases hx;exact aQA
 |label l=>cases hx;exact aOt
 |region id ops dr=>
  have hx:cb dr (ob (F.pl fn id) fun p=>uL F nt (dJ F ex) ops p e h) (mP F nt (dJ F ex) ops.toList ops.toList e h)=some r:=hx;cases dr with
  |false=>exact aLZ (fun j o e h v h' ho hx=>aJK hF hex hY ho hx) hx
  |true=>
   obtain⟨p,-,hx⟩:=aA.1 (show (ob (F.pl fn id) fun p=>uL F nt (dJ F ex) ops p e h)=some r from hx);exact aQK hF (uN hfr) aFX hm (fun j o e h v h' ho hx=>aJK hF hex hY ho hx) hx
 |seq a b=>exact aSr hex hx
 |cond c a b=>exact aQC hex hx
 |block id a=>exact aOu hex hx
 |loop a=>exact (hloop q nt fn a e h r hx).code
 |scope a=>exact aOA hex q nt fn a e h r hx
 |rangeFunc f ps cs bd=>exact hR q nt fn f ps cs bd e h r hx
 |exit id=>cases hx;exact aQB
 |ret=>cases hx;exact aSq
 |_=>cases hx
theorem aOB{F:Cf}(hF:FOk F)(hm:F.P.follows .mixedOrders=true)(hY:∀ex,kK F ex→vS F ex)(hR:∀ex,kK F ex→aCE F ex)(m:Nat):kK F (exec F m)∧aDJ F (exec F m):=by
 induction m with
 |zero=>exact⟨fun q nt fn c e h r hx=>(by cases hx),fun q nt fn c e h r hx=>(by cases hx)⟩
 |succ m ih=>exact aL3 hF hm (aOm F m) ih.1 ih.2 (hY _ ih.1) (hR _ ih.1)
end Go.Proofs.YtpobejcofijjdaaGreatDoor.E
namespace Go.Proofs.YtpobejcofijjdaaGreatDoor.E
open Go Go.RowKit
open Ma Me K
section
variable {F:Cf} {c d:Cx} {wb:World} {h h':H} {q:Bool} {nt fn:Nat} {e e':Env} {a a':Act} {b:Frame} {ex:dX} {v:AV}
theorem aQL{w:World}{g:Nat}{o o':Obj}(hg:w.heap[g]? =some o)(hc:∀cs t fr,o≠.cells cs t fr)(hd:o≠.deferred (some [])):Ps w (w.putObj g o'):=
 ⟨fun v N hv=>aJD hg hc hv,fun _ _ hv=>aJE hg hc hv,fun k t cs fr hk=>⟨cs,by
  rw[World.putObj_heap_other (fun e=>by rw[e,hg]at hk;injection hk with hk;exact hc _ _ _ hk)];exact hk,rfl⟩,by rw[World.putObj_size];exact Nat.le_refl _,fun k hk=>by
  rw[World.putObj_heap_other (fun e=>by rw[e,hg]at hk;injection hk with hk;exact hd hk)];exact hk⟩
theorem aBY{g:Nat}{rc:Loop}{o':Obj}(hg:c.w.heap[g]? =some (.loop rc)):Xt c (c.obj g o'):=
 ⟨Nat.le_refl _,fun _ h=>h,fun _ h=>.inl h,fun _ _=>rfl,aQL hg (fun _ _ _ e=>by cases e) (fun e=>by cases e),rfl⟩
theorem Rl.loop(hr:Rl c wb h){l:Nat}{p p':Lp}{rc:Loop}{o':Obj}(hl:h.l.get l=some p)(hk:c.k l)(hb:h.bar≤l)(hg:c.w.heap[c.r l]? =some (.loop rc))(hp:LpR (c.obj (c.r l) o') p' (c.r l)):
  Rl (c.obj (c.r l) o') wb (h.putLp l p'):=by
 have hwb:wb.heap.size≤c.r l:=((hr.lp l p hl).2 hk).2 hb;have X:Xt c (c.obj (c.r l) o'):=aBY hg;have hoth:∀k,k≠c.r l→(c.obj (c.r l) o').w.heap[k]? =c.w.heap[k]? :=fun k hk=>World.putObj_heap_other hk;have hne:∀{b:B} {k:Nat},Bl c b k→k≠c.r l:=fun {b k} hb e=>by
  obtain⟨row,tail,h1,-⟩:=hb;subst e;unfold Bx at h1;rw[h1]at hg;cases hg
 have hold:∀{j:Nat} {p2:Lp},(h.putLp l p').l.get j=some p2→∃p3,h.l.get j=some p3:=fun {j p2} hj=>by
  rcases T.get_set hj with⟨rfl,rfl⟩|⟨h1,h2⟩
  ·exact⟨_,hl⟩
  ·exact⟨_,h2⟩
 refine⟨hr.n,hr.k,aM7 hr.q hwb,fun id b hi=>⟨(hr.blk id b hi).1,fun hh=>((hr.blk id b hi).2 hh).xt X (hoth _ (hne ((hr.blk id b hi).2 hh)))⟩,hr.inj,hr.new,fun j p2 hj=>?_,fun i j p2 d2 hi hj ki kj hij=>?_⟩
 ·rcases T.get_set hj with⟨rfl,rfl⟩|⟨h1,h2⟩
  ·exact⟨(hr.lp _ p hl).1,fun _=>⟨hp,fun _=>hwb⟩⟩
  ·exact⟨(hr.lp j p2 h2).1,fun kj=>⟨((hr.lp j p2 h2).2 kj).1.xt X (hoth _ (hr.li j l p2 p h2 hl kj hk h1)),((hr.lp j p2 h2).2 kj).2⟩⟩
 ·obtain⟨p3,hi⟩:=hold hi;obtain⟨p4,hj⟩:=hold hj;exact hr.li i j p3 p4 hi hj ki kj hij
theorem aQM{tm:Array Value}{p:Nat}{u:Value}(ht:Tr c nt e tm)(hv:VR c v u)(hp:p<nt):Tr c nt (e.set v p) (tm.setIfInBounds p u):=by
 refine⟨by simpa using ht.1,fun j x hj=>?_⟩;have hsz:=ht.1;rcases T.get_set hj with⟨rfl,rfl⟩|⟨h3,h4⟩
 ·have hlt:j<tm.size:=(by omega);exact⟨u,by simp[hlt],hv⟩
 ·obtain⟨u2,k1,k2⟩:=ht.2 j x h4;refine⟨u2,?_,k2⟩;rw[Array.getElem?_setIfInBounds,if_neg (fun e=>h3 e.symm)];exact k1
theorem aL4{ps:List Nat}:∀{args:List AV} {vs:List Value} {e e':Env} {tm:Array Value},aHN nt ps args e=some e'→VL c args vs→Tr c nt e tm→
  vs.length=ps.length∧Tr c nt e' ((ps.zip vs).foldl (fun tm x=>tm.setIfInBounds x.1 x.2) tm):=by
 induction ps with
 |nil=>
  intro args vs e e' tm h hv ht;cases args with
  |nil=>
   cases vs with
   |nil=>rw[←Option.some.inj (show some e=some e' from h)];exact⟨rfl,ht⟩
   |cons u vs=>exact hv.elim
  |cons x args=>cases (show (none:Option Env)=some e' from h)
 |cons p ps ih=>
  intro args vs e e' tm h hv ht;cases args with
  |nil=>cases (show (none:Option Env)=some e' from h)
  |cons x args=>
   cases vs with
   |nil=>exact hv.elim
   |cons u vs=>
    obtain⟨h1,h2⟩:=aD.1 (show cb (Nat.blt p nt) (aHN nt ps args (e.set x p)) none=some e' from h);obtain⟨h3,h4⟩:=ih h2 hv.2 (aQM ht hv.1 (aZ.1 h1));exact⟨by simp[h3],h4⟩
theorem aFZ{bb:Bool}{pd:Option Code}{l:Nat}(hbb:bb=pd.isNone)(hx:nP l bb pd h=some (v,h'))(hr:Rl c wb h)(hk:c.k l):
  ∃d,(Instr.endRound (c.r l) pd).run F.P c.w=.ok (.bool bb) d.w∧Xt c d∧Rl d wb h'∧VR d v (.bool bb):=by
 obtain⟨p,hl,h1⟩:=aA.1 hx;obtain⟨h2,h3⟩:=cbn.1 h1;obtain⟨h4,h5⟩:=aD.1 h3;injection h5 with h5;injection h5 with h5 h6;obtain⟨⟨rc,hg,hrc⟩,hlow⟩:=(hr.lp l p hl).2 hk;obtain⟨D,tm,rfl,htm⟩:=hrc h2;have hend:=run_endRound (P:=F.P) pd hg;rw[←hbb]at hend;have X:=aBY (c:=c) (o':=.loop {state:=if bb then .ready else .done,pending:=pd,fn:=p.fn,tmps:=tm,params:=p.ps.toArray,assign:=p.cs,body:=p.bd,defers:=D}) hg;refine⟨_,hend,X,?_,by subst h5;exact aG.2 rfl⟩;subst h6;refine hr.loop hl hk (dL.1 h4) hg ⟨_,World.putObj_heap_same (Array.getElem?_eq_some_iff.1 hg).1,fun _=>⟨D,tm,?_,htm.xt X⟩⟩;subst hbb;cases pd<;>rfl
theorem aL5(hex:kK F ex):vS F ex:=by
 intro nt ops i o e h v h' g xs ats l args hoi ho h1 h3 h5 c wb a f hw b rest k cs;obtain⟨hk,hgv⟩:=aG.1 (bW f.t h1);have hargs:=yQ f.t h3;obtain⟨p,hl,h6⟩:=aA.1 h5;obtain⟨hdd,h7⟩:=cbn.1 h6;obtain⟨e1,h8,h9⟩:=aA.1 h7;obtain⟨r,h10,h11⟩:=aA.1 h9;obtain⟨⟨rc,hg,hrc⟩,hlow⟩:=(f.r.lp l p hl).2 hk;obtain⟨D,tm,rfl,htm⟩:=hrc hdd;obtain⟨hlen,htr⟩:=aL4 h8 hargs htm;obtain⟨tm1,htm1⟩:∃tm1,tm1=(p.ps.zip (xs.toList.map a.eval)).foldl (fun tm x=>tm.setIfInBounds x.1 x.2) tm:=⟨_,rfl⟩
 rw[←htm1]at htr;have e1:xs.map a.eval=(xs.toList.map a.eval).toArray:=by
  apply Array.toList_inj.1;simp
 have hrun:(execOp a.eval o).run F.P c.w=.ok (.round (c.r l) p.fn tm1 p.cs p.bd) c.w:=by
  unfold execOp;rw[ho];simp only[resolve,hgv,Deferred.ofValue,Sem.run_bind,Sem.run_pure,Result.andThen_ok,invoke,Array.empty_append];rw[run_yield hg (by simpa using hlen),htm1,e1];simp
 have hnd:∀c,o.op≠.defer c:=fun c hc=>by rw[ho]at hc;cases hc
 have hg0:=stepGR_op (P:=F.P) (b:=b) (k:=k) (cs:=cs) (w:=c.w) (rest:=rest) hoi hw;rw[Oper.semAt_eq _ _ _ hnd]at hg0;have henter:step F.P (lone (b.atR a (.inRegion ops (i::rest)::k)) cs c.w)=.next (lone (Frame.round (c.r l) p.fn tm1 p.cs p.bd .normal) (b.atR a (.inRegion ops (i::rest)::k)::cs) c.w):=
  step_lone_go (by rw[hg0];simp[stepG.apply,Sem.runT_eq,hrun,Frame.atR,GStep.bare_after])
 obtain⟨bR,hbR⟩:∃bR:Frame,bR={fn:=p.fn,tmps:=#[],todo:=[],defers:=[],mode:=.run,kind:=.normal,roundOf:=some (c.r l)}:=⟨_,rfl⟩
 have b1:bR.fn=p.fn:=by rw[hbR]
 have b2:bR.roundOf=some (c.r l):=by rw[hbR]
 have b3:bR.kind=.normal:=by rw[hbR]
 have hround:Frame.round (c.r l) p.fn tm1 p.cs p.bd .normal=bR.atR {tmps:=tm1,defers:=[]} [.code p.cs,.beginRound,.code p.bd]:=by
  rw[hbR];simp[Frame.round,Frame.atR]
 rw[hround]at henter;obtain⟨x1,e2,g2⟩:=r;cases x1 with
 |x id=>cases h11
 |r=>cases h11
 |n=>
  obtain⟨p',hl',h12⟩:=aA.1 h11;obtain⟨hdd',h13⟩:=cbn.1 h12;obtain⟨hbar,h14⟩:=aD.1 h13;obtain⟨hst,h15⟩:=aD.1 h14;obtain⟨hpd,h16⟩:=aD.1 h15;obtain⟨r2,h17,h18⟩:=aA.1 h16;obtain⟨a1,d1,B1,A1⟩:=hex _ _ _ _ _ _ _ h10 c wb {tmps:=tm1,defers:=[]} ⟨f.r,f.z,htr,f.b⟩ bR [.beginRound,.code p.bd] (b.atR a (.inRegion ops (i::rest)::k)::cs) b1 (fun h=>by cases h);have hk1:d1.k l:=B1.x.k l hk;have hr1:d1.r l=c.r l:=B1.x.r l hk;obtain⟨⟨rc1,hg1,hrc1⟩,-⟩:=(B1.f.r.lp l p' hl').2 hk1;obtain⟨D1,tm2,rfl,htm2⟩:=hrc1 hdd';have hpn:p'.pd=none:=by
    cases hq:p'.pd with
    |none=>rfl
    |some x=>rw[hq]at hpd;cases hpd
  have hready:lst p'=.ready:=(by unfold lst;rw[hst];rfl);have hbegin:=run_beginRound (P:=F.P) hg1 hready;have X2:=aBY (c:=d1) (o':=.loop {state:=.busy,pending:=p'.pd,fn:=p'.fn,tmps:=tm2,params:=p'.ps.toArray,assign:=p'.cs,body:=p'.bd,defers:=D1}) hg1;have R2:=B1.f.r.loop (p':={p' with st:=false}) hl' hk1 (dL.1 hbar) hg1 ⟨_,World.putObj_heap_same (Array.getElem?_eq_some_iff.1 hg1).1,fun _=>⟨D1,tm2,by simp[lst,hpn],htm2.xt X2⟩⟩;have s2:=stepR_beginRound (P:=F.P) (b:=bR) (a:=a1) (k:=[.code p.bd]) (cs:=b.atR a (.inRegion ops (i::rest)::k)::cs) (b2.trans (by rw[hr1])) hbegin;obtain⟨a2,d3,B3,A3⟩:=hex _ _ _ _ _ _ _ h17 _ wb a1 ⟨R2,fun t=>(X2.z▸B1.f.z t),B1.f.t.xt X2,f.b⟩ bR [] (b.atR a (.inRegion ops (i::rest)::k)::cs) b1 (fun h=>by cases h);have hk3:d3.k l:=B3.x.k l hk1;have hr3:d3.r l=c.r l:=(B3.x.r l hk1).trans hr1;have XX:Xt c d3:=(B1.x.trans X2).trans B3.x;have key:∀(bb:Bool) (pd:Option Code),bb=pd.isNone→nP l bb pd r2.h=some (v,h')→
      (∀w',(Instr.endRound (c.r l) pd).run F.P d3.w=.ok (.bool bb) w'→Steps F.P (lone (bR.atR a1 [.code p.bd]) (b.atR a (.inRegion ops (i::rest)::k)::cs) (d1.obj (d1.r l) (.loop {state:=.busy,pending:=p'.pd,fn:=p'.fn,tmps:=tm2,params:=p'.ps.toArray,assign:=p'.cs,body:=p'.bd,defers:=D1})).w) (lone ((b.atR a (.inRegion ops (i::rest)::k)).finish (.bool bb)) cs w'))→
      ∃u d,Xt c d∧Rl d wb h'∧VR d v u∧Steps F.P (lone (b.atR a (.inRegion ops (i::rest)::k)) cs c.w) (lone (b.atR (a.put o.dst u) (.inRegion ops rest::k)) cs d.w):=by
    intro bb pd hbb hput hsteps;obtain⟨d4,k1,k2,k3,k4⟩:=aFZ (F:=F) hbb hput B3.f.r hk3;rw[hr3]at k1;refine⟨_,d4,XX.trans k2,k3,k4,?_⟩;rw[←fin (k:=k) hoi];exact .head henter (Steps.trans A1 (.head s2 (hsteps _ k1)))
  obtain⟨x3,e3,g3⟩:=r2;cases x3 with
  |n=>exact key true none rfl h18 fun w' hw'=>Steps.trans A3 (.one (stepR_round_end b2 b3 hw'))
  |r=>
   obtain⟨k1,A3⟩:=A3;exact key false (some .ret) rfl h18 fun w' hw'=>Steps.trans A3 (.one (stepR_round_ret b2 b3 hw'))
  |x id=>
   obtain⟨k1,hk1,A3⟩:=A3;exact key false (some (.exit id)) rfl h18 fun w' hw'=>Steps.trans A3 (.one (stepR_round_exit b2 b3 (hk1.trans rfl) hw'))
def Cx.lp(c:Cx)(o:Obj):Cx:=⟨c.n+1,fun id=>c.k id∨id=c.n,fun id=>if id=c.n then c.w.heap.size+1 else c.r id,(c.w.alloc (.deferred (some []))).alloc o,c.z⟩
theorem aNb(hk:∀id,c.k id→id<c.n)(o:Obj):Xt c (c.lp o):=⟨Nat.le_succ _,fun id hi=>.inl hi,fun id hi=>hi.elim .inl fun q=>.inr (by omega),fun id hi=>if_neg (by have:=hk id hi;omega),Ps.q (((Q.refl _).alloc _).alloc o),rfl⟩
theorem aEL(o:Obj):(c.lp o).r c.n=c.w.heap.size+1:=if_pos rfl
theorem mU(o:Obj){id:Nat}(hi:id<c.n):(c.lp o).r id=c.r id:=if_neg (by omega)
theorem aGF(o:Obj){k:Nat}(hk:k<c.w.heap.size):(c.lp o).w.heap[k]? =c.w.heap[k]? :=
 ((((Q.refl c.w).alloc (.deferred (some []))).alloc o).heap hk)
theorem Rl.lpn(hr:Rl c wb h){p:Lp}{o:Obj}(hp:LpR (c.lp o) p (c.w.heap.size+1)):Rl (c.lp o) wb ⟨h.h,Nat.succ h.n,h.bar,h.l.set p h.n⟩:=by
 have hn:=hr.n;have hsz:=hr.size;have X:=aNb (c:=c) hr.k o;have key:∀id p',(T.set p h.l h.n).get id=some p'→(id=h.n∧p'=p)∨(id<h.n∧h.l.get id=some p'):=fun id p' hg=>by
  rcases T.get_set hg with⟨h1,h2⟩|⟨h1,h2⟩
  ·exact .inl ⟨h1,h2⟩
  ·exact .inr ⟨(hr.lp id p' h2).1,h2⟩
 have kk:∀{id},id<h.n→(c.lp o).k id→c.k id:=fun hi q=>q.elim (fun q=>q) fun q=>by omega
 have lv:∀{id b'},id<h.n→Lv (c.lp o) id b'→Lv c id b':=fun hi q=>⟨kk hi q.1,q.2⟩
 refine⟨by show c.n+1=h.n+1;rw[hn],fun id q=>by show id<c.n+1;exact q.elim (fun q=>Nat.lt_succ_of_lt (hr.k id q)) fun q=>by omega,(hr.q.alloc _).alloc _,fun id b' hg=>?_,fun i j b' d hi hj hb' hd hij=>?_,fun id b' hg hc hbar=>?_,fun l p' hl=>?_,fun i j p' d hi hj ki kj hij=>?_⟩
 ·have h1:=(hr.blk id b' hg).1;refine⟨Nat.lt_succ_of_lt h1,fun hc=>?_⟩;rw[mU _ (by omega)];have:=(hr.blk id b' hg).2 (lv h1 hc);exact this.xt X (aGF _ this.lt)
 ·have h1:=(hr.blk i b' hi).1;have h3:=(hr.blk j d hj).1;rw[mU _ (by omega),mU _ (by omega)];exact hr.inj i j b' d hi hj (lv h1 hb') (lv h3 hd) hij
 ·have h1:=(hr.blk id b' hg).1;rw[mU _ (by omega)];exact hr.new id b' hg (lv h1 hc) hbar
 ·rcases key l p' hl with⟨rfl,rfl⟩|⟨h1,h2⟩
  ·refine⟨Nat.lt_succ_self _,fun _=>?_⟩;rw[←hn,aEL];exact⟨hp,fun _=>by omega⟩
  ·refine⟨Nat.lt_succ_of_lt h1,fun q=>?_⟩;rw[mU _ (by omega)];obtain⟨h3,h4⟩:=(hr.lp l p' h2).2 (kk h1 q);exact⟨h3.xt X (aGF _ h3.lt),h4⟩
 ·rcases key i p' hi with⟨rfl,rfl⟩|⟨h1,h2⟩
  ·rcases key j d hj with⟨rfl,rfl⟩|⟨h3,h4⟩
   ·exact absurd rfl hij
   ·have:=((hr.lp j d h4).2 (kk h3 kj)).1.lt;rw[←hn,aEL,mU _ (by omega)];omega
  ·have h5:=((hr.lp i p' h2).2 (kk h1 ki)).1.lt;rcases key j d hj with⟨rfl,rfl⟩|⟨h3,h4⟩
   ·rw[mU _ (by omega),←hn,aEL];omega
   ·rw[mU _ (by omega),mU _ (by omega)];exact hr.li i j p' d h2 h4 (kk h1 ki) (kk h3 kj) hij
theorem aL6(hF:FOk F)(hex:kK F ex):aCE F ex:=by
 intro q nt fn fo ps cd bd e h r hx;obtain⟨fv,h1,h2⟩:=aA.1 hx;obtain⟨hq,h3⟩:=cbn.1 (show cb q none (jV h.n _)=some r from h2);rw[bM]at h3;obtain⟨s,rfl,h5⟩:=aR.1 h3;split at h5
 rotate_left
 ·cases h5
 rename_i fn2 iY;obtain⟨⟨v,h'⟩,h6,h7⟩:=aA.1 h5;obtain⟨p,h8,h9⟩:=aA.1 h7;obtain⟨hdd,h10⟩:=cbn.1 h9;obtain⟨hbar,h11⟩:=aD.1 h10;obtain⟨hbusy,h12⟩:=aD.1 h11;intro c wb a f b k cs hb hqb;have hbn:=hqb hq;obtain⟨k1,k2⟩:=aG.1 (bW f.t h1);have hn:=f.r.n;obtain⟨rc,hrc⟩:∃rc:Loop,rc={state:=.ready,pending:=none,fn:=b.fn,tmps:=a.tmps,params:=ps,assign:=cd,body:=bd,defers:=c.w.heap.size}:=⟨_,rfl⟩
 have he:(Instr.enterLoop b.fn a.tmps ps cd bd b.roundOf).run F.P c.w=.ok (c.w.heap.size+1,[{target:=.collected c.w.heap.size,args:=#[]}]) (c.lp (.loop rc)).w:=by
  rw[hbn,hrc];exact run_enterLoop_outer ..
 have X1:=aNb (c:=c) f.r.k (.loop rc);have hl0:(c.lp (.loop rc)).w.heap[c.w.heap.size+1]? =some (.loop rc):=by
  have:=World.alloc_heap_new (c.w.alloc (.deferred (some []))) (.loop rc);rw[World.size_alloc]at this;exact this
 have hd0:(c.lp (.loop rc)).w.heap[c.w.heap.size]? =some (.deferred (some [])):=by
  have h0:=World.alloc_heap_new c.w (.deferred (some []));exact (((Q.refl (c.w.alloc (.deferred (some [])))).alloc (.loop rc)).heap (by rw[World.size_alloc];omega)).trans h0
 have R1:Rl (c.lp (.loop rc)) wb ⟨h.h,Nat.succ h.n,h.bar,h.l.set ⟨fn,nt,e,ps.toList,cd,bd,true,none,false⟩ h.n⟩:=
  f.r.lpn ⟨rc,hl0,fun _=>⟨c.w.heap.size,a.tmps,by rw[hrc,hb];simp[lst],f.t.xt X1⟩⟩
 have hy:VR (c.lp (.loop rc)) (sc (.y h.n)) (.func (.yield (c.w.heap.size+1)) #[] #[]):=
  aG.2 ⟨.inr hn.symm,by rw[←hn,aEL]⟩
 obtain⟨⟨G,k3,k4⟩,k5⟩:=lX (vs:=.func (.yield (c.w.heap.size+1)) #[] #[]::iY.map (ptr c)) hF hex h6 R1 (fun t=>f.z t) f.b ⟨hy,(aGA k1).xt X1⟩;have hres:(resolve a.eval (rangeCall fo (c.w.heap.size+1)) 0).run F.P (c.lp (.loop rc)).w=.ok {target:=.fn (.func fn2) (iY.map (ptr c)).toArray,args:=#[.func (.yield (c.w.heap.size+1)) #[] #[]]} (c.lp (.loop rc)).w:=by
  simp only[resolve,k2,Deferred.ofValue,Sem.run_pure,Array.empty_append,List.map_toArray,List.map_cons,List.map_nil];rfl
 have hinv:(invoke (.fn (.func fn2) (iY.map (ptr c)).toArray) #[.func (.yield (c.w.heap.size+1)) #[] #[]]).run F.P (c.lp (.loop rc)).w=.ok (.enter fn2 (.func (.yield (c.w.heap.size+1)) #[] #[]::iY.map (ptr c)).toArray) (c.lp (.loop rc)).w:=by
  simp only[invoke];rw[yV k3 (hF.ng _ _ k3) k4];simp
 have henter:=stepR_rangeFunc (k:=k) (cs:=cs) he hres hinv;obtain⟨e3,w',fr,⟨u,d,rfl,rfl,X,R,V⟩,hs,hfn,hl⟩:=k5 (b.atR {a with defers:=[{target:=.collected c.w.heap.size,args:=#[]}]++a.defers} (.inRangeFunc (c.w.heap.size+1)::k)::cs);have hleave:=step_leave_returned (c:=b.atR {a with defers:=[{target:=.collected c.w.heap.size,args:=#[]}]++a.defers} (.inRangeFunc (c.w.heap.size+1)::k)) (cs:=cs) hl;rw[finish_atR_inRangeFunc]at hleave;have hkl:d.k h.n:=X.k _ (.inr hn.symm);have hrl:d.r h.n=c.w.heap.size+1:=(X.r _ (.inr hn.symm)).trans (by rw[←hn,aEL]);obtain⟨⟨rc2,hg,hrc2⟩,-⟩:=(R.lp h.n p h8).2 hkl;obtain⟨D,tm,rfl,htm⟩:=hrc2 hdd;have hnb:lst p≠.busy:=by
  unfold lst;cases hs:p.st with
  |true=>simp
  |false=>
   cases hp:p.pd with
   |none=>rw[hs,hp]at hbusy;cases hbusy
   |some x=>simp
 have hend:=run_endLoop (P:=F.P) hg hnb;have X2:=aBY (c:=d) (o':=.loop {state:=.exhausted,pending:=p.pd,fn:=p.fn,tmps:=tm,params:=p.ps.toArray,assign:=p.cs,body:=p.bd,defers:=D}) hg;have R2:=R.loop (p':={p with dd:=true}) (o':=.loop {state:=.exhausted,pending:=p.pd,fn:=p.fn,tmps:=tm,params:=p.ps.toArray,assign:=p.cs,body:=p.bd,defers:=D}) h8 hkl (dL.1 hbar) hg ⟨_,World.putObj_heap_same (Array.getElem?_eq_some_iff.1 hg).1,fun h=>by cases h⟩;have send:=stepR_endRangeFunc (b:=b) (a:={a with defers:=[{target:=.collected c.w.heap.size,args:=#[]}]++a.defers}) (k:=k) (cs:=cs) hend;have XX:=(X1.trans X).trans X2;have e5:lone (b.atR {a with defers:=[{target:=.collected c.w.heap.size,args:=#[]}]++a.defers} (.endRangeFunc (c.w.heap.size+1)::k)) cs d.w=lone (b.atR {a with defers:=[{target:=.collected c.w.heap.size,args:=#[]}]++a.defers} (.endRangeFunc (d.r h.n)::k)) cs d.w:=by rw[hrl]
 rw[e5]at hleave;have all:∀k2,(p.pd.map Item.code).toList++k=k2→Steps F.P (lone (b.atR a (.code (.rangeFunc fo ps cd bd)::k)) cs c.w) (lone (b.atR {a with defers:=[{target:=.collected c.w.heap.size,args:=#[]}]++a.defers} k2) cs (d.obj (d.r h.n) (.loop {state:=.exhausted,pending:=p.pd,fn:=p.fn,tmps:=tm,params:=p.ps.toArray,assign:=p.cs,body:=p.bd,defers:=D})).w):=by
  rintro k2 rfl;exact Steps.head henter (Steps.trans hs (.head hleave (.one send)))
 have be:Be F c wb nt b a (h'.putLp h.n {p with dd:=true}) e {a with defers:=[{target:=.collected c.w.heap.size,args:=#[]}]++a.defers} _:=
  ⟨XX,⟨R2,fun t=>XX.z▸f.z t,f.t.xt XX,f.b⟩,_,rfl,⟨⟨_,rfl,Nat.le_refl _,X2.p.d _ (X.p.d _ hd0),fun d' hd'=>by cases hd'⟩,trivial⟩,fun hn=>absurd hbn hn⟩
 split at h12
 ·rename_i hp;injection h12 with h12;subst h12;exact⟨_,_,be,all k (by rw[hp];rfl)⟩
 ·rename_i hp;injection h12 with h12;subst h12;exact⟨_,_,be,k,all (.code .ret::k) (by rw[hp];rfl)⟩
 ·rename_i id hp;injection h12 with h12;subst h12;exact⟨_,_,be,k,rfl,all (.code (.exit id)::k) (by rw[hp];rfl)⟩
 ·cases h12
theorem wZ(hF:FOk F)(hm:F.P.follows .mixedOrders=true)(m:Nat):kK F (exec F m):=
 (aOB hF hm (fun _ h=>aL5 h) (fun _ h=>aL6 hF h) m).1
end
end Go.Proofs.YtpobejcofijjdaaGreatDoor.E
namespace Go.Proofs.YtpobejcofijjdaaGreatDoor.E
open Go Go.RowKit
open Ma Me K
section
variable (F:Cf)
def Xop(o:Op)(e:Env)(h:H)(Q:AV→H→Prop):Prop:=∃v h',(∃m0,∀m,m0≤m→op1 F (dJ F (exec F m)) o e h=some (v,h'))∧Q v h'
def Xr(nt:Nat)(ops l:List Oper)(e:Env)(h:H)(Q:Env→H→Prop):Prop:=∃e' h',(∃m0,∀m,m0≤m→mP F nt (dJ F (exec F m)) ops l e h=some ⟨.n,e',h'⟩)∧Q e' h'
def Xb(nt:Nat)(ops:List Oper)(B:List (Nat × List Nat))(e:Env)(h:H)(Q:Env→H→Prop):Prop:=∃e' h',(∃m0,∀m,m0≤m→aBg F nt (dJ F (exec F m)) ops B e h=some ⟨.n,e',h'⟩)∧Q e' h'
def Xa(nt:Nat)(ops:List Oper)(b:Nat)(B:List (Nat × List Nat))(l:List Nat)(e:Env)(h:H)(Q:Env→H→Prop):Prop:=∃e' h',(∃m0,∀m,m0≤m→yO F nt (dJ F (exec F m)) ops b (aBg F nt (dJ F (exec F m)) ops B) l e h=some ⟨.n,e',h'⟩)∧Q e' h'
def Xw(nt fn:Nat)(c:Code)(e:Env)(h:H)(Q:Ex→Env→H→Prop):Prop:=∃x e' h',(∃m0,∀m,m0≤m→exec F m false nt fn c e h=some ⟨x,e',h'⟩)∧Q x e' h'
def Xc(fn:Nat)(args:List AV)(h:H)(Q:AV→H→Prop):Prop:=∃v h',(∃m0,∀m,m0≤m→iD F (exec F m) fn args h=some (v,h'))∧Q v h'
end
section
variable {F:Cf} {nt fn:Nat} {e:Env} {h:H}
theorem Xop.mono{o:Op}{Q R:AV→H→Prop}(x:Xop F o e h Q)(k:∀v h,Q v h→R v h):Xop F o e h R:=let ⟨v,h',a,b⟩:=x;⟨v,h',a,k v h' b⟩
theorem Xc.mono{args:List AV}{Q R:AV→H→Prop}(x:Xc F fn args h Q)(k:∀v h,Q v h→R v h):Xc F fn args h R:=let ⟨v,h',a,b⟩:=x;⟨v,h',a,k v h' b⟩
theorem Xw.mono{c:Code}{Q R:Ex→Env→H→Prop}(x:Xw F nt fn c e h Q)(k:∀x e h,Q x e h→R x e h):Xw F nt fn c e h R:=let ⟨y,e',h',a,b⟩:=x;⟨y,e',h',a,k y e' h' b⟩
theorem Xop.now{o:Op}{v:AV}{h':H}{Q:AV→H→Prop}(hx:∀call,op1 F call o e h=some (v,h'))(k:Q v h'):Xop F o e h Q:=⟨v,h',⟨0,fun _ _=>hx _⟩,k⟩
theorem aJY{Q:Ex→Env→H→Prop}(k:Q .n e h):Xw F nt fn .skip e h Q:=⟨_,_,_,⟨1,fun m hm=>by cases m with|zero=>omega|succ m=>rfl⟩,k⟩
theorem aJZ{id:Nat}{Q:Ex→Env→H→Prop}(k:Q (.x id) e h):Xw F nt fn (.exit id) e h Q:=⟨_,_,_,⟨1,fun m hm=>by cases m with|zero=>omega|succ m=>rfl⟩,k⟩
theorem aNc{Q:Ex→Env→H→Prop}(k:Q .r e h):Xw F nt fn .ret e h Q:=⟨_,_,_,⟨1,fun m hm=>by cases m with|zero=>omega|succ m=>rfl⟩,k⟩
def sqn(x:Ex)(P q:Prop):Prop:=match x with| .n=>P|_=>q
theorem aNd{a b:Code}{Q:Ex→Env→H→Prop}(k:Xw F nt fn a e h fun x e h=>sqn x (Xw F nt fn b e h Q) (Q x e h)):Xw F nt fn (.seq a b) e h Q:=by
 obtain⟨x,e1,h1,⟨m0,k1⟩,k2⟩:=k;cases x with
 |n=>
  obtain⟨y,e2,h2,⟨m1,k3⟩,k4⟩:=(show Xw F nt fn b e1 h1 Q from k2)
  refine⟨y,e2,h2,⟨m0+m1+1,fun m hm=>?_⟩,k4⟩;cases m with
  |zero=>omega
  |succ m=>
   show ob (exec F m false nt fn a e h) (nQ (exec F m) false nt fn b)=_;rw[k1 m (by omega)];exact k3 m (by omega)
 |x id=>
  refine⟨_,e1,h1,⟨m0+1,fun m hm=>?_⟩,k2⟩;cases m with
  |zero=>omega
  |succ m=>
   show ob (exec F m false nt fn a e h) (nQ (exec F m) false nt fn b)=_;rw[k1 m (by omega)];rfl
 |r=>
  refine⟨_,e1,h1,⟨m0+1,fun m hm=>?_⟩,k2⟩;cases m with
  |zero=>omega
  |succ m=>
   show ob (exec F m false nt fn a e h) (nQ (exec F m) false nt fn b)=_;rw[k1 m (by omega)];rfl
theorem aEM{id:Nat}{ops:Array Oper}{Q:Ex→Env→H→Prop}(k:Xr F nt ops.toList ops.toList e h (Q .n)):Xw F nt fn (.region id ops false) e h Q:=by
 obtain⟨e1,h1,⟨m0,k1⟩,k2⟩:=k;refine⟨.n,e1,h1,⟨m0+1,fun m hm=>?_⟩,k2⟩;cases m with
 |zero=>omega
 |succ m=>exact k1 m (by omega)
theorem aOC{call:dD}{ops:Array Oper}{p:List Nat × List (Nat × List Nat)}(hok:lG F ops p=true):uL F nt call ops p e h=yO F nt call ops.toList h.bar (aBg F nt call ops.toList p.2) p.1 e h:=by
 unfold uL;rw[hok,bM];rfl
theorem aOD{id:Nat}{ops:Array Oper}{A:List Nat}{B:List (Nat × List Nat)}{Q:Ex→Env→H→Prop}(hp:F.pl fn id=some (A,B))(hok:lG F ops (A,B)=true)(k:Xa F nt ops.toList h.bar B A e h (Q .n)):Xw F nt fn (.region id ops true) e h Q:=by
 obtain⟨e1,h1,⟨m0,k1⟩,k2⟩:=k;refine⟨.n,e1,h1,⟨m0+1,fun m hm=>?_⟩,k2⟩;cases m with
 |zero=>omega
 |succ m=>
  show ob (F.pl fn id) (fun p=>uL F nt (dJ F (exec F m)) ops p e h)=_;rw[hp];exact (aOC hok).trans (k1 m (by omega))
theorem vU{c:Operand}{a b:Code}{x:Bool}{Q:Ex→Env→H→Prop}(hc:ev e c=some (sc (.b x)))(k1:x=true→Xw F nt fn a e h Q)(k2:x=false→Xw F nt fn b e h Q):Xw F nt fn (.cond c a b) e h Q:=by
 have key:Xw F nt fn (cb x a b) e h Q:=by cases x with|true=>exact k1 rfl|false=>exact k2 rfl
 obtain⟨y,e1,h1,⟨m0,k3⟩,k4⟩:=key;refine⟨y,e1,h1,⟨m0+1,fun m hm=>?_⟩,k4⟩;cases m with
 |zero=>omega
 |succ m=>
  show ob (ev e c) (fun v=>one v (aBK (exec F m) false nt fn a b e h))=_;rw[hc];exact k3 m (by omega)
def bl(id:Nat)(x:Ex)(e:Env)(h:H)(Q:Ex→Env→H→Prop):Prop:=match x with| .x j=>cb (Nat.beq id j) (Q .n e h) (Q (.x j) e h)|x=>Q x e h
theorem aGG{id:Nat}{a:Code}{Q:Ex→Env→H→Prop}(k:Xw F nt fn a e h fun x e h=>bl id x e h Q):Xw F nt fn (.block id a) e h Q:=by
 obtain⟨x,e1,h1,⟨m0,k1⟩,k2⟩:=k;have fin:∀y:R,yP id ⟨x,e1,h1⟩=some y→Q y.x y.e y.h→Xw F nt fn (.block id a) e h Q:=fun y hy hq=>⟨y.x,y.e,y.h,⟨m0+1,fun m hm=>by
  cases m with
  |zero=>omega
  |succ m=>
   show ob (exec F m false nt fn a e h) (yP id)=_;rw[k1 m (by omega)];exact hy⟩,hq⟩
 cases x with
 |n=>exact fin ⟨.n,e1,h1⟩ rfl k2
 |r=>exact fin ⟨.r,e1,h1⟩ rfl k2
 |x j=>
  have k2:cb (Nat.beq id j) (Q .n e1 h1) (Q (.x j) e1 h1):=k2;cases hb:Nat.beq id j with
  |true=>
   rw[hb]at k2;exact fin ⟨.n,e1,h1⟩ (by show cb (Nat.beq id j) _ _=_;rw[hb];rfl) k2
  |false=>
   rw[hb]at k2;exact fin ⟨.x j,e1,h1⟩ (by show cb (Nat.beq id j) _ _=_;rw[hb];rfl) k2
theorem aOE{a:Code}{Q:Ex→Env→H→Prop}(k:Xw F nt fn a e h fun x e h=>sqn x (Xw F nt fn (.loop a) e h Q) (Q x e h)):Xw F nt fn (.loop a) e h Q:=by
 obtain⟨x,e1,h1,⟨m0,k1⟩,k2⟩:=k;cases x with
 |n=>
  obtain⟨y,e2,h2,⟨m1,k3⟩,k4⟩:=(show Xw F nt fn (.loop a) e1 h1 Q from k2)
  refine⟨y,e2,h2,⟨m0+m1+1,fun m hm=>?_⟩,k4⟩;cases m with
  |zero=>omega
  |succ m=>
   show ob (exec F m false nt fn a e h) (nQ (exec F m) false nt fn (.loop a))=_;rw[k1 m (by omega)];exact k3 m (by omega)
 |x id=>
  refine⟨_,e1,h1,⟨m0+1,fun m hm=>?_⟩,k2⟩;cases m with
  |zero=>omega
  |succ m=>
   show ob (exec F m false nt fn a e h) (nQ (exec F m) false nt fn (.loop a))=_;rw[k1 m (by omega)];rfl
 |r=>
  refine⟨_,e1,h1,⟨m0+1,fun m hm=>?_⟩,k2⟩;cases m with
  |zero=>omega
  |succ m=>
   show ob (exec F m false nt fn a e h) (nQ (exec F m) false nt fn (.loop a))=_;rw[k1 m (by omega)];rfl
theorem aJ0{a:Code}{Q:Ex→Env→H→Prop}(I:Nat→Env→H→Prop)(k:∀n e h,I n e h→Xw F nt fn a e h fun x e h=>sqn x (∃m,m<n∧I m e h) (Q x e h)):∀n e h,I n e h→Xw F nt fn (.loop a) e h Q:=by
 intro n
 induction n using Nat.strongRecOn with
 |ind n ih=>
  intro e h hI;refine aOE ((k n e h hI).mono fun x e h hx=>?_);cases x with
  |n=>obtain⟨m,h1,h2⟩:=hx;exact ih m h1 e h h2
  |x id=>exact hx
  |r=>exact hx
def Pk(d:Nat)(v:AV)(e:Env)(h:H)(C:Env→H→Prop):Prop:=C (T.set v e d) h
variable {ops l:List Oper} {o:Oper} {d:Nat} {Q:Env→H→Prop}
theorem aJ1(k:Q e h):Xr F nt ops [] e h Q:=⟨e,h,⟨0,fun _ _=>rfl⟩,k⟩
theorem nS{v:AV}{k:Env→Option R}(hn:Nat.blt d nt=true):put nt e (some d) v k=k (T.set v e d):=by
 show cb (Nat.blt d nt) _ none=_;rw[hn];rfl
theorem lZ{call:dD}{rest:Env→H→Option R}{v:AV}{h1:H}(hw:wanted ops e o.guard=some true)(hx:op1 F call o.op e h=some (v,h1)):nO F nt call ops rest o e h=put nt e o.dst v fun e=>rest e h1:=by
 unfold nO;rw[hw,hx];rfl
theorem aBj{call:dD}{rest:Env→H→Option R}(hw:wanted ops e o.guard=some false):nO F nt call ops rest o e h=put nt e o.dst un fun e=>rest e h:=by
 unfold nO;rw[hw];rfl
theorem aGH(hw:wanted ops e o.guard=some true)(hd:o.dst=some d)(hn:Nat.blt d nt=true)(k:Xop F o.op e h fun v h=>Pk d v e h fun e h=>Xr F nt ops l e h Q):Xr F nt ops (o::l) e h Q:=by
 obtain⟨v,h1,⟨m0,k1⟩,e2,h2,⟨m1,k2⟩,k3⟩:=k;refine⟨e2,h2,⟨m0+m1,fun m hm=>?_⟩,k3⟩;refine (lZ hw (k1 m (by omega))).trans ?_;rw[hd,nS hn];exact k2 m (by omega)
theorem aEN(hg:o.guard=none)(hd:o.dst=none)(k:Xop F o.op e h fun _ h=>Xr F nt ops l e h Q):Xr F nt ops (o::l) e h Q:=by
 obtain⟨v,h1,⟨m0,k1⟩,e2,h2,⟨m1,k2⟩,k3⟩:=k;refine⟨e2,h2,⟨m0+m1,fun m hm=>?_⟩,k3⟩;refine (lZ (by rw[hg];rfl) (k1 m (by omega))).trans ?_;rw[hd];exact k2 m (by omega)
theorem aJ2(hw:wanted ops e o.guard=some false)(hd:o.dst=some d)(hn:Nat.blt d nt=true)(k:Pk d un e h fun e h=>Xr F nt ops l e h Q):Xr F nt ops (o::l) e h Q:=by
 obtain⟨e2,h2,⟨m1,k2⟩,k3⟩:=k;refine⟨e2,h2,⟨m1,fun m hm=>?_⟩,k3⟩;refine (aBj hw).trans ?_;rw[hd,nS hn];exact k2 m (by omega)
variable {b i:Nat} {A late:List Nat} {B:List (Nat × List Nat)}
theorem qY{α:Type}{f:Oper→Option α}(ho:(drp i ops).head? =some o):ob (drp i ops).head? f=f o:=by rw[ho];rfl
theorem aJ3{h:H}(k:Xb F nt ops B e (h.back b) Q):Xa F nt ops b B [] e h Q:=k
theorem aJ4(k:Q e h):Xb F nt ops [] e h Q:=⟨e,h,⟨0,fun _ _=>rfl⟩,k⟩
theorem aGI(ho:(drp i ops).head? =some o)(hw:wanted ops e o.guard=some true)(hd:o.dst=some d)(hn:Nat.blt d nt=true)(k:Xop F o.op e h.lift fun v h=>Pk d v e h fun e h=>Xa F nt ops b B A e h Q):Xa F nt ops b B (i::A) e h Q:=by
 obtain⟨v,h1,⟨m0,k1⟩,e2,h2,⟨m1,k2⟩,k3⟩:=k;refine⟨e2,h2,⟨m0+m1,fun m hm=>?_⟩,k3⟩;refine (qY ho).trans ?_;refine (lZ hw (k1 m (by omega))).trans ?_;rw[hd,nS hn];exact k2 m (by omega)
theorem aEO(ho:(drp i ops).head? =some o)(hg:o.guard=none)(hd:o.dst=none)(k:Xop F o.op e h.lift fun _ h=>Xa F nt ops b B A e h Q):Xa F nt ops b B (i::A) e h Q:=by
 obtain⟨v,h1,⟨m0,k1⟩,e2,h2,⟨m1,k2⟩,k3⟩:=k;refine⟨e2,h2,⟨m0+m1,fun m hm=>?_⟩,k3⟩;refine (qY ho).trans ?_;refine (lZ (by rw[hg];rfl) (k1 m (by omega))).trans ?_;rw[hd];exact k2 m (by omega)
theorem aJ5(ho:(drp i ops).head? =some o)(hw:wanted ops e o.guard=some false)(hd:o.dst=some d)(hn:Nat.blt d nt=true)(k:Pk d un e h.lift fun e h=>Xa F nt ops b B A e h Q):Xa F nt ops b B (i::A) e h Q:=by
 obtain⟨e2,h2,⟨m1,k2⟩,k3⟩:=k;refine⟨e2,h2,⟨m1,fun m hm=>?_⟩,k3⟩;refine (qY ho).trans ?_;refine (aBj hw).trans ?_;rw[hd,nS hn];exact k2 m (by omega)
def Ag(F:Cf)(ops:List Oper)(l:List Nat)(e:Env)(h:H):Prop:=∀k:Option R,again F ops e h k l=k
theorem aBZ:Ag F ops [] e h:=fun _=>rfl
theorem aBk{o:Oper}{l:List Nat}(ho:(drp i ops).head? =some o)(hm:mkO F o.op=.p)(k:Ag F ops l e h):Ag F ops (i::l) e h:=fun x=>by
 show ob (drp i ops).head? (fun o=>match mkO F o.op with| .p=>again F ops e h x l| .l=>_| .n=>_|_=>none)=x;rw[ho];show (match mkO F o.op with| .p=>again F ops e h x l| .l=>_| .n=>_|_=>none)=x;rw[hm];exact k x
theorem aQN{o:Oper}{l:List Nat}{v:AV}{h2:H}(ho:(drp i ops).head? =some o)(hm:mkO F o.op=.l)(hg:o.guard=none)(hd:o.dst=some d)(hv:e.get d=some v)(hr:op1 F (fun _ _ _=>none) o.op e h=some (v,h2))(ha:avb v v=true)(k:Ag F ops l e h):Ag F ops (i::l) e h:=fun x=>by
 show ob (drp i ops).head? (fun o=>match mkO F o.op with| .p=>again F ops e h x l| .l=>ob o.dst fun d=>ob (e.get d) fun v=>ob (op1 F (fun _ _ _=>none) o.op e h) fun u=>cb (isN o.guard) (cb (avb v u.1) (again F ops e h x l) none) none| .n=>ob o.dst fun d=>ob (e.get d) fun v=>ob (op1 F (fun _ _ _=>none) o.op e h) fun u=>cb (isN o.guard) (cb (kP h v u) (again F ops e h x l) none) none|_=>none)=x;rw[ho];show (match mkO F o.op with| .p=>again F ops e h x l| .l=>ob o.dst fun d=>ob (e.get d) fun v=>ob (op1 F (fun _ _ _=>none) o.op e h) fun u=>cb (isN o.guard) (cb (avb v u.1) (again F ops e h x l) none) none| .n=>ob o.dst fun d=>ob (e.get d) fun v=>ob (op1 F (fun _ _ _=>none) o.op e h) fun u=>cb (isN o.guard) (cb (kP h v u) (again F ops e h x l) none) none|_=>none)=x;rw[hm];show (ob o.dst fun d=>ob (e.get d) fun v=>ob (op1 F (fun _ _ _=>none) o.op e h) fun u=>cb (isN o.guard) (cb (avb v u.1) (again F ops e h x l) none) none)=x;rw[hd];show (ob (e.get d) fun v=>ob (op1 F (fun _ _ _=>none) o.op e h) fun u=>cb (isN o.guard) (cb (avb v u.1) (again F ops e h x l) none) none)=x;rw[hv];show (ob (op1 F (fun _ _ _=>none) o.op e h) fun u=>cb (isN o.guard) (cb (avb v u.1) (again F ops e h x l) none) none)=x;rw[hr,hg];show cb (avb v v) (again F ops e h x l) none=x;rw[ha];exact k x
theorem aTC{o:Oper}{l:List Nat}{v:AV}{u:AV × H}(ho:(drp i ops).head? =some o)(hm:mkO F o.op=.n)(hg:o.guard=none)(hd:o.dst=some d)(hv:e.get d=some v)(hr:op1 F (fun _ _ _=>none) o.op e h=some u)(ha:kP h v u=true)(k:Ag F ops l e h):Ag F ops (i::l) e h:=fun x=>by
 have e1:again F ops e h x (i::l)=ob (drp i ops).head? (fun o=>match mkO F o.op with| .p=>again F ops e h x l| .l=>ob o.dst fun d=>ob (e.get d) fun v=>ob (op1 F (fun _ _ _=>none) o.op e h) fun u=>cb (isN o.guard) (cb (avb v u.1) (again F ops e h x l) none) none| .n=>ob o.dst fun d=>ob (e.get d) fun v=>ob (op1 F (fun _ _ _=>none) o.op e h) fun u=>cb (isN o.guard) (cb (kP h v u) (again F ops e h x l) none) none|_=>none):=rfl;rw[e1,ho];show (match mkO F o.op with| .p=>again F ops e h x l| .l=>ob o.dst fun d=>ob (e.get d) fun v=>ob (op1 F (fun _ _ _=>none) o.op e h) fun u=>cb (isN o.guard) (cb (avb v u.1) (again F ops e h x l) none) none| .n=>ob o.dst fun d=>ob (e.get d) fun v=>ob (op1 F (fun _ _ _=>none) o.op e h) fun u=>cb (isN o.guard) (cb (kP h v u) (again F ops e h x l) none) none|_=>none)=x;rw[hm];show (ob o.dst fun d=>ob (e.get d) fun v=>ob (op1 F (fun _ _ _=>none) o.op e h) fun u=>cb (isN o.guard) (cb (kP h v u) (again F ops e h x l) none) none)=x;rw[hd];show (ob (e.get d) fun v=>ob (op1 F (fun _ _ _=>none) o.op e h) fun u=>cb (isN o.guard) (cb (kP h v u) (again F ops e h x l) none) none)=x;rw[hv,hr,hg];show cb (kP h v u) (again F ops e h x l) none=x;rw[ha];exact k x
theorem aAv(ho:(drp i ops).head? =some o)(hw:wanted ops e o.guard=some true)(hd:o.dst=some d)(hn:Nat.blt d nt=true)(k:Xop F o.op e h fun v h=>Pk d v e h fun e h=>Ag F ops late e h∧Xb F nt ops B e h Q):Xb F nt ops ((i,late)::B) e h Q:=by
 obtain⟨v,h1,⟨m0,k1⟩,ka,e2,h2,⟨m1,k2⟩,k3⟩:=k;refine⟨e2,h2,⟨m0+m1,fun m hm=>?_⟩,k3⟩;refine (qY ho).trans ?_;refine (lZ hw (k1 m (by omega))).trans ?_;rw[hd,nS hn];exact (ka _).trans (k2 m (by omega))
theorem xA(ho:(drp i ops).head? =some o)(hg:o.guard=none)(hd:o.dst=none)(k:Xop F o.op e h fun _ h=>Ag F ops late e h∧Xb F nt ops B e h Q):Xb F nt ops ((i,late)::B) e h Q:=by
 obtain⟨v,h1,⟨m0,k1⟩,ka,e2,h2,⟨m1,k2⟩,k3⟩:=k;refine⟨e2,h2,⟨m0+m1,fun m hm=>?_⟩,k3⟩;refine (qY ho).trans ?_;refine (lZ (by rw[hg];rfl) (k1 m (by omega))).trans ?_;rw[hd];exact (ka _).trans (k2 m (by omega))
end
end Go.Proofs.YtpobejcofijjdaaGreatDoor.E
namespace Go.Proofs.YtpobejcofijjdaaGreatDoor.E
open Go
open Ma Me
def aO(x:Rat):List SV:=[.b (decide (x.num<0)),.m x.num.natAbs,.m (bt x.den)]
end Go.Proofs.YtpobejcofijjdaaGreatDoor.E
namespace Go.Proofs.YtpobejcofijjdaaGreatDoor.E
open Go Go.RowKit
open Ma Me K
def aQO:List Rat→List SV
 | []=>[]
 |x::l=>aO x++aQO l
noncomputable def lk (s:List (Nat × AV)) (k:Nat):Option AV:=List.rec (motive:=fun _=>Option AV) none (fun p _ r=>Prod.rec (motive:=fun _=>Option AV) (fun a b=>cb (Nat.beq a k) (some b) r) p) s
def Kn(e:Env)(s:List (Nat × AV)):Prop:=∀k v,lk s k=some v→e.get k=some v
theorem Kn.set{e:Env}{s:List (Nat × AV)}(h:Kn e s)(d:Nat)(v:AV):Kn (T.set v e d) ((d,v)::s):=fun k u hk=>by
 have hk:cb (Nat.beq d k) (some v) (lk s k)=some u:=hk;cases hb:Nat.beq d k with
 |true=>
  rw[hb]at hk;injection hk with hk;rw[←aM.1 hb,T.get_same,hk]
 |false=>
  rw[hb]at hk;rcases T.get_upd (x:=v) (t:=e) (k:=d) (j:=k) with h1|⟨h1,-⟩
  ·rw[h1];exact h k u hk
  ·exact absurd h1.symm (tO.1 hb)
noncomputable def evs (s:List (Nat × AV)) (x:Operand):Option AV:=Operand.rec (motive:=fun _=>Option AV) (fun t=>lk s t) ofV (fun _=>none) (fun f=>some (sc (.f f []))) x
theorem bG{e:Env}{s:List (Nat × AV)}{x:Operand}{v:AV}(h:Kn e s)(hx:evs s x=some v):ev e x=some v:=by
 cases x with
 |tmp t=>exact h t v hx
 |const k=>exact hx
 |global g=>cases hx
 |func f=>exact hx
noncomputable def nT (s:List (Nat × AV)) (l:List Operand):Option (List AV):=List.rec (motive:=fun _=>Option (List AV)) (some []) (fun x _ r=>ob (evs s x) fun v=>ob r fun r=>some (v::r)) l
theorem aAw{e:Env}{s:List (Nat × AV)}(h:Kn e s):∀{l:List Operand} {v:List AV},nT s l=some v→evL e l=some v
 | [],v,hx=>hx
 |x::l,v,hx=>by
  obtain⟨u,h1,h2⟩:=aA.1 (show ob (evs s x) (fun v=>ob (nT s l) fun r=>some (v::r))=some v from hx);obtain⟨r,h3,h4⟩:=aA.1 h2;show ob (ev e x) (fun v=>ob (evL e l) fun r=>some (v::r))=some v;rw[bG h h1,aAw h h3];exact h4
def aV:Nat:=34
def Own(h0 h:H)(ws:List (Nat × B)):Prop:=(∀p∈ws,h0.n≤p.1∧p.1<h.n∧h.h.get p.1=some p.2)∧ws.Pairwise fun p q=>p.1≠q.1
def IsL(ws:List (Nat × B))(h:H)(v:AV)(xs:List Rat):Prop:=(v=sc .ns∧xs=[])∨∃id cap c,v=sc (.sl id 0 xs.length cap)∧(∀m,cap=some m→xs.length≤m)∧h.h.get id=some ⟨aV,c⟩∧aQO xs<+:c∧id<h.n∧∀p∈ws,p.1≠id
def IsP(ws:List (Nat × B))(h:H)(v:AV)(x:Rat):Prop:=∃id off b,v=sc (.p id off)∧h.h.get id=some b∧dP 3 (drp off b.c)=some (aO x)∧id<h.n∧∀p∈ws,p.1≠id
structure St (β:Nat) (h0:H) (e:Env) (s:List (Nat × AV)) (h:H) (ws:List (Nat × B)) (ls:List (AV × List Rat)) (ps:List (AV × Rat)):Prop where
 k:Kn e s
 n:h0.n≤h.n
 bar:h.bar=β
 o:∀k,k<h0.n→h.h.get k=h0.h.get k
 l:h.l=h0.l
 w:Own h0 h ws
 ls:∀p∈ls,IsL ws h p.1 p.2
 ps:∀p∈ps,IsP ws h p.1 p.2
structure Xh (h h':H):Prop where
 n:h.n≤h'.n
 bar:h'.bar=h.bar
 o:∀k,k<h.n→h'.h.get k=h.h.get k
 l:h'.l=h.l
theorem Xh.refl(h:H):Xh h h:=⟨Nat.le_refl _,rfl,fun _ _=>rfl,rfl⟩
section
variable {F:Cf} {β:Nat} {h0 h h':H} {e:Env} {s:List (Nat × AV)} {ws:List (Nat × B)} {ls:List (AV × List Rat)} {ps:List (AV × Rat)} {v:AV} {xs:List Rat} {x:Rat} {C:Env→H→Prop} {d:Nat}
theorem St.pk(hS:St β h0 e s h ws ls ps)(k:∀e,St β h0 e ((d,v)::s) h ws ls ps→C e h):Pk d v e h C:=k _ ⟨hS.k.set d v,hS.n,hS.bar,hS.o,hS.l,hS.w,hS.ls,hS.ps⟩
theorem St.lift(hS:St β h0 e s h ws ls ps):St h.n h0 e s h.lift ws ls ps:=⟨hS.k,hS.n,rfl,hS.o,hS.l,hS.w,hS.ls,hS.ps⟩
theorem St.back(hS:St β h0 e s h ws ls ps)(b:Nat):St b h0 e s (h.back b) ws ls ps:=⟨hS.k,hS.n,rfl,hS.o,hS.l,hS.w,hS.ls,hS.ps⟩
theorem IsL.xh{ws:List (Nat × B)}(hl:IsL ws h v xs)(x:Xh h h'):IsL ws h' v xs:=by
 rcases hl with hl|⟨id,cap,c,h1,h2,h3,h4,h5,h6⟩
 ·exact .inl hl
 ·exact .inr ⟨id,cap,c,h1,h2,(x.o id h5).trans h3,h4,Nat.lt_of_lt_of_le h5 x.n,h6⟩
theorem IsP.xh{ws:List (Nat × B)}(hl:IsP ws h v x)(y:Xh h h'):IsP ws h' v x:=by
 obtain⟨id,off,b,h1,h3,h4,h5,h6⟩:=hl;exact⟨id,off,b,h1,(y.o id h5).trans h3,h4,Nat.lt_of_lt_of_le h5 y.n,h6⟩
theorem St.xh(hS:St β h0 e s h ws ls ps)(x:Xh h h'):St β h0 e s h' ws ls ps:=
 ⟨hS.k,Nat.le_trans hS.n x.n,x.bar.trans hS.bar,fun k q=>(x.o k (Nat.lt_of_lt_of_le q hS.n)).trans (hS.o k q),x.l.trans hS.l,
  ⟨fun p hp=>let ⟨h1,h2,h3⟩:=hS.w.1 p hp;⟨h1,Nat.lt_of_lt_of_le h2 x.n,(x.o _ h2).trans h3⟩,hS.w.2⟩,fun p hp=>(hS.ls p hp).xh x,fun p hp=>(hS.ps p hp).xh x⟩
theorem St.out(hS:St h0.bar h0 e s h ws ls ps):Xh h0 h:=⟨hS.n,hS.bar,hS.o,hS.l⟩
theorem St.new(hS:St β h0 e s h ws ls ps)(b:B):St β h0 e s ⟨h.h.set b h.n,Nat.succ h.n,h.bar,h.l⟩ ((h.n,b)::ws) ls ps:=by
 have key:∀k,k<h.n→(T.set b h.h h.n).get k=h.h.get k:=fun k q=>by
  rcases T.get_upd (x:=b) (t:=h.h) (k:=h.n) (j:=k) with h1|⟨h1,-⟩
  ·exact h1
  ·omega
 refine⟨hS.k,Nat.le_succ_of_le hS.n,hS.bar,fun k q=>(key k (Nat.lt_of_lt_of_le q hS.n)).trans (hS.o k q),hS.l,⟨fun p hp=>?_,List.pairwise_cons.2 ⟨fun p hp q=>?_,hS.w.2⟩⟩,fun p hp=>?_,fun p hp=>?_⟩
 ·rcases List.mem_cons.1 hp with rfl|hp
  ·exact⟨hS.n,Nat.lt_succ_self _,T.get_same⟩
  ·obtain⟨h1,h2,h3⟩:=hS.w.1 p hp;exact⟨h1,Nat.lt_succ_of_lt h2,(key _ h2).trans h3⟩
 ·have q:h.n=p.1:=q;have:=(hS.w.1 p hp).2.1;omega
 ·rcases hS.ls p hp with hl|⟨id,cap,c,h1,h2,h3,h4,h5,h6⟩
  ·exact .inl hl
  ·refine .inr ⟨id,cap,c,h1,h2,(key id h5).trans h3,h4,Nat.lt_succ_of_lt h5,fun p hp q=>?_⟩;rcases List.mem_cons.1 hp with rfl|hp
   ·have q:h.n=id:=q;omega
   ·exact h6 p hp q
 ·obtain⟨id,off,b2,h1,h3,h4,h5,h6⟩:=hS.ps p hp;refine⟨id,off,b2,h1,(key id h5).trans h3,h4,Nat.lt_succ_of_lt h5,fun p hp q=>?_⟩;rcases List.mem_cons.1 hp with rfl|hp
  ·have q:h.n=id:=q;omega
  ·exact h6 p hp q
theorem St.put(hS:St β h0 e s h ws ls ps){j id:Nat}{b b':B}(hj:ws[j]? =some (id,b)):St β h0 e s (h.put id b') (ws.set j (id,b')) ls ps:=by
 have hm:(id,b)∈ws:=List.mem_of_getElem? hj;obtain⟨w1,w2,w3⟩:=hS.w.1 _ hm;have w1:h0.n≤id:=w1;have w2:id<h.n:=w2;have key:∀k,k≠id→(T.set b' h.h id).get k=h.h.get k:=fun k q=>by
  rcases T.get_upd (x:=b') (t:=h.h) (k:=id) (j:=k) with h1|⟨h1,-⟩
  ·exact h1
  ·exact absurd h1 q
 have hmem:∀p∈ws.set j (id,b'),p.1=id∧p=(id,b')∨∃i,i≠j∧ws[i]? =some p:=fun p hp=>by
  obtain⟨i,hi⟩:=List.getElem?_of_mem hp;rw[List.getElem?_set]at hi;split at hi
  ·split at hi
   ·injection hi with hi;exact .inl ⟨by rw[←hi],hi.symm⟩
   ·cases hi
  ·rename_i hne;exact .inr ⟨i,fun q=>hne q.symm,hi⟩
 have hne:∀i p,i≠j→ws[i]? =some p→p.1≠id:=fun i p hij hi=>by
  have hpw:=List.pairwise_iff_getElem.1 hS.w.2;obtain⟨hi1,hi2⟩:=List.getElem?_eq_some_iff.1 hi;obtain⟨hj1,hj2⟩:=List.getElem?_eq_some_iff.1 hj;rcases Nat.lt_or_gt_of_ne hij with hlt|hgt
  ·have:=hpw i j hi1 hj1 hlt;rw[hi2,hj2]at this;exact this
  ·have:=hpw j i hj1 hi1 hgt;rw[hi2,hj2]at this;exact fun q=>this q.symm
 have hids:∀p∈ws.set j (id,b'),∃q∈ws,q.1=p.1:=fun p hp=>by
  rcases hmem p hp with⟨h1,-⟩|⟨i,-,hi⟩
  ·exact⟨_,hm,h1.symm⟩
  ·exact⟨p,List.mem_of_getElem? hi,rfl⟩
 refine⟨hS.k,hS.n,hS.bar,fun k q=>(key k (by omega)).trans (hS.o k q),hS.l,⟨fun p hp=>?_,?_⟩,fun p hp=>?_,fun p hp=>?_⟩
 ·rcases hmem p hp with⟨-,rfl⟩|⟨i,hij,hi⟩
  ·exact⟨w1,w2,T.get_same⟩
  ·obtain⟨h1,h2,h3⟩:=hS.w.1 p (List.mem_of_getElem? hi);exact⟨h1,h2,(key _ (hne i p hij hi)).trans h3⟩
 ·have e1:(ws.set j (id,b')).map Prod.fst=ws.map Prod.fst:=by
   apply List.ext_getElem?;intro i;rw[List.getElem?_map,List.getElem?_map,List.getElem?_set];split
   ·rename_i hji;subst hji;rw[hj,if_pos (List.getElem?_eq_some_iff.1 hj).1];rfl
   ·rfl
  have h1:=List.pairwise_map.2 (show ws.Pairwise fun p q=>p.1≠q.1 from hS.w.2);rw[show (ws.map fun p:Nat × B=>p.1)=ws.map Prod.fst from rfl,←e1]at h1;exact List.pairwise_map.1 h1
 ·rcases hS.ls p hp with hl|⟨i,cap,c,h1,h2,h3,h4,h5,h6⟩
  ·exact .inl hl
  ·have hi:i≠id:=fun q=>h6 _ hm q.symm;exact .inr ⟨i,cap,c,h1,h2,(key i hi).trans h3,h4,h5,fun p hp=>by obtain⟨q,q1,q2⟩:=hids p hp;exact q2▸h6 q q1⟩
 ·obtain⟨i,off,b2,h1,h3,h4,h5,h6⟩:=hS.ps p hp;have hi:i≠id:=fun q=>h6 _ hm q.symm;exact⟨i,off,b2,h1,(key i hi).trans h3,h4,h5,fun p hp=>by obtain⟨q,q1,q2⟩:=hids p hp;exact q2▸h6 q q1⟩
end
end Go.Proofs.YtpobejcofijjdaaGreatDoor.E
namespace Go.Proofs.YtpobejcofijjdaaGreatDoor.E
open Go Go.RowKit
open Ma Me K
section
variable {F:Cf} {β:Nat} {h0 h h':H} {e:Env} {s:List (Nat × AV)} {ws:List (Nat × B)} {ls:List (AV × List Rat)} {ps:List (AV × Rat)} {v u:AV} {xs:List Rat} {q:Rat} {C:Env→H→Prop} {d t:Nat} {i:TI} {x y:Operand} {Q:AV→H→Prop}
theorem aQP(hS:St β h0 e s h ws ls ps)(hx:evs s x=some v)(k:Q v h):Xop F (.move x) e h Q:=
 .now (fun _=>by show ob (ev e x) (fun v=>some (v,h))=_;rw[bG hS.k hx];rfl) k
theorem aQQ(hS:St β h0 e s h ws ls ps)(hx:evs s x=some v)(k:Q v h):Xop F (.assign x) e h Q:=
 .now (fun _=>by show ob (ev e x) (fun v=>some (v,h))=_;rw[bG hS.k hx];rfl) k
theorem aNe{op:BinOp}{t2:TypeId}{a c r:SV}(hS:St β h0 e s h ws ls ps)(ht:F.ti t=some i)(hg:i.d.ag=false)(hx:evs s x=some (sc a))(hy:evs s y=some (sc c))(hb:bop i.d op a c=some r)(k:Q (sc r) h):Xop F (.binOp op t x y t2) e h Q:=
 .now (fun _=>by
  show yM F e h op t x y=_;unfold yM;rw[ht,bG hS.k hx,bG hS.k hy];show cb i.d.ag _ (ob (bop i.d op a c) fun r=>vh r h)=_;rw[hg,hb];rfl) k
theorem aCF{n:Nat}(h:n<9223372036854775808):mkI .i64 n=some (.i .i64 (.ofNat n)):=by
 unfold mkI;rw[bM,aZ.2 (show n<lim .i64 from h)];rfl
theorem nU{n:Int}(h1:-9223372036854775808≤n)(h2:n<9223372036854775808):mkZ .i64 n=some (.i .i64 n):=by
 unfold mkZ;rw[vO];have e:IntKind.i64.wrap n=n:=by rw[IntKind.wrap_i64];omega
 rw[e]
theorem aSx{dd:Dk}{a c:Int}(h1:-9223372036854775808≤a+c)(h2:a+c<9223372036854775808):bop dd .add (.i .i64 a) (.i .i64 c)=some (.i .i64 (a+c)):=by
 show cb (decide (IntKind.i64=IntKind.i64)) (aLI .i64 a c) none=_;rw[show decide (IntKind.i64=IntKind.i64)=true from rfl];show aLI .i64 a c=_;cases a with
 |ofNat a=>
  cases c with
  |ofNat c=>
   have h2:(a:Int)+(c:Int)<9223372036854775808:=h2;exact aCF (n:=Nat.add a c) (by show a+c<_;omega)
  |negSucc c=>exact nU h1 h2
 |negSucc a=>exact nU h1 h2
theorem aSy{dd:Dk}{a c:Int}(h1:-9223372036854775808≤a-c)(h2:a-c<9223372036854775808):bop dd .sub (.i .i64 a) (.i .i64 c)=some (.i .i64 (a-c)):=by
 show cb (decide (IntKind.i64=IntKind.i64)) (aLJ .i64 a c) none=_;rw[show decide (IntKind.i64=IntKind.i64)=true from rfl];show aLJ .i64 a c=_;cases a with
 |ofNat a=>
  cases c with
  |ofNat c=>
   show cb (Nat.ble c a) (mkI .i64 (Nat.sub a c)) (mkZ .i64 ((a:Int)-(c:Int)))=_;have h2:(a:Int)-(c:Int)<9223372036854775808:=h2;cases hb:Nat.ble c a with
   |true=>
    have hle:=dL.1 hb;refine (aCF (n:=Nat.sub a c) (by show a-c<_;omega)).trans ?_;show some (SV.i .i64 ((a-c:Nat):Int))=some (SV.i .i64 ((a:Int)-(c:Int)));rw[Int.ofNat_sub hle]
   |false=>exact nU h1 h2
  |negSucc c=>exact nU h1 h2
 |negSucc a=>exact nU h1 h2
theorem aAx{dd:Dk}{op:BinOp}{kk:IntKind}{a c:Int}{r:Bool}(h:iop op kk a c=some (.b r)):bop dd op (.i kk a) (.i kk c)=some (.b r):=by
 show cb (decide (kk=kk)) (iop op kk a c) none=_;rw[decide_eq_true rfl];exact h
theorem aTD{dd:Dk}{kk:IntKind}{a c:Int}:bop dd .lss (.i kk a) (.i kk c)=some (.b (decide (a<c))):=aAx (by show bo (iLt a c)=_;rw[kI];rfl)
theorem aTE{dd:Dk}{kk:IntKind}{a c:Int}:bop dd .gtr (.i kk a) (.i kk c)=some (.b (decide (c<a))):=aAx (by show bo (iLt c a)=_;rw[kI];rfl)
theorem aTF{dd:Dk}{kk:IntKind}{a c:Int}:bop dd .leq (.i kk a) (.i kk c)=some (.b (decide (a≤c))):=aAx (by
 show bo (eQ (iLt c a))=_;rw[kI,show eQ (decide (c<a))=decide (a≤c) from by by_cases h:c<a<;>simp[h,eQ,cb]<;>omega];rfl)
theorem aTG{dd:Dk}{kk:IntKind}{a c:Int}:bop dd .geq (.i kk a) (.i kk c)=some (.b (decide (c≤a))):=aAx (by
 show bo (eQ (iLt a c))=_;rw[kI,show eQ (decide (a<c))=decide (c≤a) from by by_cases h:a<c<;>simp[h,eQ,cb]<;>omega];rfl)
theorem aH1{dd:Dk}{kk:IntKind}{a c:Int}:bop dd .eql (.i kk a) (.i kk c)=some (.b (decide (a=c))):=aAx (by show bo (iEq a c)=_;rw[rQ];rfl)
theorem aTH{dd:Dk}{kk:IntKind}{a c:Int}:bop dd .neq (.i kk a) (.i kk c)=some (.b (decide (a≠c))):=aAx (by
 show bo (eQ (iEq a c))=_;rw[rQ,show eQ (decide (a=c))=decide (a≠c) from by by_cases h:a=c<;>simp[h,eQ,cb]];rfl)
theorem aJ6{c a d:Operand}{b:Bool}(hS:St β h0 e s h ws ls ps)(hc:evs s c=some (sc (.b b)))(hv:evs s (cb b a d)=some v)(k:Q v h):Xop F (.pick c a d) e h Q:=
 .now (fun _=>by show tJ e h c a d=_;unfold tJ;rw[bG hS.k hc];show ob (ev e (cb b a d)) _=_;rw[bG hS.k hv];rfl) k
theorem aNf{t:Nat}{b:Bool}(hS:St β h0 e s h ws ls ps)(hx:evs s x=some (sc (.b b)))(k:Q (sc (.b (eQ b))) h):Xop F (.unOp .not t x) e h Q:=
 .now (fun _=>by show oUn e h .not x=_;unfold oUn;rw[bG hS.k hx];rfl) k
theorem u_conv{s1 d1:Nat}{i j:TI}{kk:IntKind}{n:Int}{k1:IntKind}(hS:St β h0 e s h ws ls ps)(h1:F.ti s1=some i)(h2:F.ti d1=some j)(hi:i.d=.int k1)(hj:j.d=.int .i64)(hx:evs s x=some (sc (.i kk n)))(n1:-9223372036854775808≤n)(n2:n<9223372036854775808)(k:Q (sc (.i .i64 n)) h):Xop F (.convert s1 d1 x) e h Q:=
 .now (fun _=>by
  show tK F e h s1 d1 x=_;unfold tK;rw[h1,h2,bG hS.k hx]
  show (match i.d,j.d,SV.i kk n with
   | .int _,.int k,.i _ n=>ob (Int.rec (motive:=fun _=>Option SV) (fun m=>mkI k m) (fun _=>mkZ k n) n) fun r=>vh r h
   | .str,.str,.s l=>vh (.s l) h
   |_,_,_=>none)=_
  rw[hi,hj];show (ob (Int.rec (motive:=fun _=>Option SV) (fun m=>mkI .i64 m) (fun _=>mkZ .i64 n) n) fun r=>vh r h)=_;cases n with
  |ofNat m=>
   have n2:(m:Int)<9223372036854775808:=n2;show ob (mkI .i64 m) _=_;rw[aCF (by omega)];rfl
  |negSucc m=>
   show ob (mkZ .i64 (Int.negSucc m)) _=_;rw[nU n1 n2];rfl) k
theorem aEP{t:Nat}{i:TI}{el:Nat}{sv:SV}{n:Nat}(ht:F.ti t=some i)(hd:i.d=.sl el)(hn:(sv=.ns∧n=0)∨(∃id off c,sv=.sl id off n c)∨∃a c,sv=.v (.slice (some a) n c)):bi F h .len [t] [sc sv]=some (sc (.i .i64 (n:Int)),h):=by
 show ob (F.ti t) (fun i=>one (sc sv) fun s=>(match i.d,s with| .str,.s l=>vh (.i .i64 (.ofNat (len l))) h| .sl _,.ns=>vh (.i .i64 0) h| .sl _,.sl _ _ n _=>vh (.i .i64 (.ofNat n)) h| .sl _,.v x=>roN h x| .sl _,.m n=>ob (F.ln false n) fun k=>vh (.i .i64 (.ofNat k)) h| .sl _,.r n=>ob (F.ln true n) fun k=>vh (.i .i64 (.ofNat k)) h|_,_=>none))=_;rw[ht];show (match i.d,sv with| .str,.s l=>vh (.i .i64 (.ofNat (len l))) h| .sl _,.ns=>vh (.i .i64 0) h| .sl _,.sl _ _ n _=>vh (.i .i64 (.ofNat n)) h| .sl _,.v x=>roN h x| .sl _,.m n=>ob (F.ln false n) fun k=>vh (.i .i64 (.ofNat k)) h| .sl _,.r n=>ob (F.ln true n) fun k=>vh (.i .i64 (.ofNat k)) h|_,_=>none)=_;rw[hd];rcases hn with⟨rfl,rfl⟩|⟨id,off,c,rfl⟩|⟨a,c,rfl⟩<;>rfl
theorem rU{b:Builtin}{xs:Array Operand}{ats:Array TypeId}{args:List AV}(hS:St β h0 e s h ws ls ps)(ha:nT s xs.toList=some args)(hb:bi F h b ats.toList args=some (v,h'))(k:Q v h'):Xop F (.call {callee:=.builtin b,args:=xs,argTypes:=ats}) e h Q:=
 .now (fun _=>by
  show ob (evL e xs.toList) (fun l=>bi F h b ats.toList l)=_;rw[aAw hS.k ha];exact hb) k
theorem aEQ{el id off n:Nat}{c:Option Nat}(hS:St β h0 e s h ws ls ps)(ht:F.ti t=some i)(hd:i.d=.sl el)(hx:evs s x=some (sc (.sl id off n c)))(k:Q (sc (.i .i64 (n:Int))) h):Xop F (.call {callee:=.builtin .len,args:=#[x],argTypes:=#[t]}) e h Q:=
 rU hS (args:=[_]) (by show ob (evs s x) _=_;rw[hx];rfl) (aEP ht hd (.inr (.inl ⟨_,_,_,rfl⟩))) k
theorem aER{el:Nat}(hS:St β h0 e s h ws ls ps)(ht:F.ti t=some i)(hd:i.d=.sl el)(hx:evs s x=some (sc .ns))(k:Q (sc (.i .i64 ((0:Nat):Int))) h):Xop F (.call {callee:=.builtin .len,args:=#[x],argTypes:=#[t]}) e h Q:=
 rU hS (args:=[_]) (by show ob (evs s x) _=_;rw[hx];rfl) (aEP ht hd (.inl ⟨rfl,rfl⟩)) k
theorem aJ7{el n c:Nat}{a:Addr}(hS:St β h0 e s h ws ls ps)(ht:F.ti t=some i)(hd:i.d=.sl el)(hx:evs s x=some (sc (.v (.slice (some a) n c))))(k:Q (sc (.i .i64 (n:Int))) h):Xop F (.call {callee:=.builtin .len,args:=#[x],argTypes:=#[t]}) e h Q:=
 rU hS (args:=[_]) (by show ob (evs s x) _=_;rw[hx];rfl) (aEP ht hd (.inr (.inr ⟨_,_,rfl⟩))) k
theorem aJ8{l:List Nat}(hS:St β h0 e s h ws ls ps)(ht:F.ti t=some i)(hd:i.d=.str)(hx:evs s x=some (sc (.s l)))(k:Q (sc (.i .i64 (l.length:Int))) h):Xop F (.call {callee:=.builtin .len,args:=#[x],argTypes:=#[t]}) e h Q:=
 rU hS (args:=[_]) (by show ob (evs s x) _=_;rw[hx];rfl) (by
  show ob (F.ti t) (fun i=>one (sc (.s l)) fun s=>(match i.d,s with| .str,.s l=>vh (.i .i64 (.ofNat (len l))) h| .sl _,.ns=>vh (.i .i64 0) h| .sl _,.sl _ _ n _=>vh (.i .i64 (.ofNat n)) h| .sl _,.v x=>roN h x| .sl _,.m n=>ob (F.ln false n) fun k=>vh (.i .i64 (.ofNat k)) h| .sl _,.r n=>ob (F.ln true n) fun k=>vh (.i .i64 (.ofNat k)) h|_,_=>none))=some (sc (.i .i64 (l.length:Int)),h);rw[ht];show (match i.d,SV.s l with| .str,.s l=>vh (.i .i64 (.ofNat (len l))) h| .sl _,.ns=>vh (.i .i64 0) h| .sl _,.sl _ _ n _=>vh (.i .i64 (.ofNat n)) h| .sl _,.v x=>roN h x| .sl _,.m n=>ob (F.ln false n) fun k=>vh (.i .i64 (.ofNat k)) h| .sl _,.r n=>ob (F.ln true n) fun k=>vh (.i .i64 (.ofNat k)) h|_,_=>none)=_;rw[hd];show vh (.i .i64 (.ofNat (len l))) h=_;rw[aY];rfl) k
theorem aSz{x y:Operand}{ats:Array TypeId}{kk:IntKind}{a c:Int}(hS:St β h0 e s h ws ls ps)(hx:evs s x=some (sc (.i kk a)))(hy:evs s y=some (sc (.i kk c)))(k:Q (sc (.i kk (max a c))) h):Xop F (.call {callee:=.builtin .max,args:=#[x,y],argTypes:=ats}) e h Q:=
 rU hS (args:=[_,_]) (by show ob (evs s x) (fun v=>ob (ob (evs s y) fun v=>some [v]) fun r=>some (v::r))=_;rw[hx,hy];rfl) (by
  show ob (mm false (sc (.i kk a)) (sc (.i kk c))) (fun v=>some (v,h))=_;show ob (cb (decide (kk=kk)) (some (sc (.i kk (cb false (cb (iLt c a) c a) (cb (iLt a c) c a))))) none) (fun v=>some (v,h))=_;rw[decide_eq_true rfl];show some (sc (.i kk (cb (iLt a c) c a)),h)=_;rw[kI,bN];congr 4;by_cases hac:a<c
  ·rw[if_pos (decide_eq_true hac)];omega
  ·rw[if_neg (by simpa using hac)];omega) k
theorem aNg{el j z id off n:Nat}{c:Option Nat}{kk:IntKind}(hS:St β h0 e s h ws ls ps)(ht:F.ti t=some i)(hd:i.d=.sl el)(hz:sz F el=some z)(hx:evs s x=some (sc (.sl id off n c)))(hy:evs s y=some (sc (.i kk (j:Int))))(hj:j<n):oIA F e h t x y=some (sc (.p id (off+j*z)),h):=by
 unfold oIA;rw[ht,bG hS.k hy]
 show ob (ev e x) (fun v=>one v fun s=>(match i.d,s with
  | .sl el,.sl id off n _=>ob (sz F el) fun z=>cb (Nat.blt j n) (vh (.p id (Nat.add off (Nat.mul j z))) h) none
  | .ar n el,.p id off=>ob (sz F el) fun z=>cb (Nat.blt j n) (vh (.p id (Nat.add off (Nat.mul j z))) h) none
  | .sl el,.v x=>ob (sz F el) fun z=>roA h j z x
  |_,_=>none))=_
 rw[bG hS.k hx]
 show (match i.d,SV.sl id off n c with
  | .sl el,.sl id off n _=>ob (sz F el) fun z=>cb (Nat.blt j n) (vh (.p id (Nat.add off (Nat.mul j z))) h) none
  | .ar n el,.p id off=>ob (sz F el) fun z=>cb (Nat.blt j n) (vh (.p id (Nat.add off (Nat.mul j z))) h) none
  | .sl el,.v x=>ob (sz F el) fun z=>roA h j z x
  |_,_=>none)=_
 rw[hd];show ob (sz F el) (fun z=>cb (Nat.blt j n) (vh (.p id (Nat.add off (Nat.mul j z))) h) none)=_;rw[hz];show cb (Nat.blt j n) _ none=_;rw[aZ.2 hj];rfl
theorem aSA{el z n cp:Nat}{j:Nat}{a:Addr}{kk:IntKind}{jz:Int}(hS:St β h0 e s h ws ls ps)(ht:F.ti t=some i)(hd:i.d=.sl el)(hz:sz F el=some z)(hx:evs s x=some (sc (.v (.slice (some a) n cp))))(hy:evs s y=some (sc (.i kk jz)))(hjz:jz=(j:Int))(hj:j<n)(k:Q (sc (.v (.pointer (some (a.add (j*z)))))) h):Xop F (.indexAddr t x y) e h Q:=by
 subst hjz;refine .now (fun _=>?_) k;show oIA F e h t x y=_;unfold oIA;rw[ht,bG hS.k hy]
 show ob (ev e x) (fun v=>one v fun s=>(match i.d,s with
  | .sl el,.sl id off n _=>ob (sz F el) fun z=>cb (Nat.blt j n) (vh (.p id (Nat.add off (Nat.mul j z))) h) none
  | .ar n el,.p id off=>ob (sz F el) fun z=>cb (Nat.blt j n) (vh (.p id (Nat.add off (Nat.mul j z))) h) none
  | .sl el,.v x=>ob (sz F el) fun z=>roA h j z x
  |_,_=>none))=_
 rw[bG hS.k hx]
 show (match i.d,SV.v (.slice (some a) n cp) with
  | .sl el,.sl id off n _=>ob (sz F el) fun z=>cb (Nat.blt j n) (vh (.p id (Nat.add off (Nat.mul j z))) h) none
  | .ar n el,.p id off=>ob (sz F el) fun z=>cb (Nat.blt j n) (vh (.p id (Nat.add off (Nat.mul j z))) h) none
  | .sl el,.v x=>ob (sz F el) fun z=>roA h j z x
  |_,_=>none)=_
 rw[hd];show ob (sz F el) (fun z=>roA h j z (.slice (some a) n cp))=_;rw[hz];show cb (Nat.blt j n) _ none=_;rw[aZ.2 hj];rfl
theorem aES{a:Operand}{id off:Nat}{b:B}{l:List SV}(hS:St β h0 e s h ws ls ps)(ht:F.ti t=some i)(hx:evs s a=some (sc (.p id off)))(hb:h.h.get id=some b)(hl:dP i.sz (drp off b.c)=some l)(hv:av i.d.ag l=some v):oM F e h t a=some (v,h):=by
 unfold oM;rw[ht,bG hS.k hx];show ob (rd h id off i.sz) (fun l=>ob (av i.d.ag l) fun v=>some (v,h))=_;unfold rd;rw[hb];show ob (dP i.sz (drp off b.c)) _=_;rw[hl];show ob (av i.d.ag l) _=_;rw[hv];rfl
theorem aTI{a:Operand}{j id off:Nat}{b:B}{l:List SV}(hS:St β h0 e s h ws ls ps)(ht:F.ti t=some i)(hx:evs s a=some (sc (.p id off)))(hj:ws[j]? =some (id,b))(hl:dP i.sz (drp off b.c)=some l)(hv:av i.d.ag l=some v)(k:Q v h):Xop F (.load t a) e h Q:=
 .now (fun _=>aES hS ht hx (hS.w.1 _ (List.mem_of_getElem? hj)).2.2 hl hv) k
theorem aTJ{a:Operand}{j id off z:Nat}{b:B}{g:Bool}{l c:List SV}(hS:St β h0 e s h ws ls ps)(hβ:β≤h0.n)(ht:sz F t=some z)(ha:evs s a=some (sc (.p id off)))(hx:evs s x=some (.c g l))(hl:l.length=z)(hj:ws[j]? =some (id,b))(hc:dV off l b.c=some c)(hk:iX b=true)(k:∀h',St β h0 e s h' (ws.set j (id,⟨b.ty,c⟩)) ls ps→Q un h'):Xop F (.store t a x) e h Q:=by
 obtain⟨w1,w2,w3⟩:=hS.w.1 _ (List.mem_of_getElem? hj);have w1:h0.n≤id:=w1;have w3:h.h.get id=some b:=w3;refine .now (fun _=>?_) (k _ (hS.put hj));show mO F e h t a x=_;unfold mO;rw[ht,bG hS.k ha];show ob (ev e x) (fun u=>cells u fun c=>cb (Nat.beq (len c) z) (ob (wr h id off c) fun h=>some (un,h)) none)=_;rw[bG hS.k hx];show cb (Nat.beq (len l) z) (ob (wr h id off l) fun h=>some (un,h)) none=_;rw[aY,hl,Nat.beq_refl];show ob (wr h id off l) (fun h=>some (un,h))=_;have e1:wr h id off l=some (h.put id ⟨b.ty,c⟩):=by
  unfold wr;rw[dL.2 (show h.bar≤id by rw[hS.bar];omega),w3];show ob (dV off l b.c) (fun c=>cb (iX b) (some (h.put id ⟨b.ty,c⟩)) none)=_;rw[hc];show cb (iX b) _ none=_;rw[hk];rfl
 rw[e1];rfl
theorem qI{α:Type}{b:B}{f:Nat→H→α}:h.nw b f=f h.n ⟨h.h.set b h.n,Nat.succ h.n,h.bar,h.l⟩:=by
 unfold H.nw;rw[bM]
theorem aOF(hS:St β h0 e s h ws ls ps)(ht:F.ti t=some i)(k:∀id h',St β h0 e s h' ((id,⟨t,i.ze⟩)::ws) ls ps→Q (sc (.p id 0)) h'):Xop F (.alloc t) e h Q:=
 .now (fun _=>by show mM F h t=_;unfold mM;rw[ht];exact qI) (k _ _ (hS.new _))
theorem aSB{g:Bool}{l:List SV}(hS:St β h0 e s h ws ls ps)(hx:evs s x=some (.c g l))(k:∀id h',St β h0 e s h' ((id,⟨t,l⟩)::ws) ls ps→Q (sc (.p id 0)) h'):Xop F (.box t x) e h Q:=
 .now (fun _=>by show uK e h t x=_;unfold uK;rw[bG hS.k hx];exact (show (h.nw ⟨t,l⟩ fun a h=>vh (.p a 0) h)=_ from qI)) (k _ _ (hS.new _))
def Ct(v u:AV)(n:Nat):Prop:=(v=sc .ns∧u=sc .ns)∨∃id len cap,v=sc (.sl id 0 len cap)∧u=sc (.sl id 0 n cap)
theorem aH2{n:Nat}{l:List (Bool × List SV)}{p:Bool × List SV}(hS:St β h0 e s h ws ls ps)(hx:evs s x=some (.t l))(hp:(drp n l).head? =some p)(k:Q (.c p.1 p.2) h):Xop F (.extract x n) e h Q:=
 .now (fun _=>by show yN e h x n=_;unfold yN;rw[bG hS.k hx];show ob (drp n l).head? _=_;rw[hp];rfl) k
noncomputable def gQ (pl:Nat→Option (Nat × Nat)) (s:List (Nat × AV)) (l:List (Nat × Operand)):List SV→Option (List SV):=
 List.rec (motive:=fun _=>List SV→Option (List SV)) some (fun p _ r acc=>ob (pl p.1) fun q=>ob (evs s p.2) fun v=>cells v fun c=>cb (Nat.beq (len c) q.2) (ob (dV q.1 c acc) r) none) l
theorem aAy{pl:Nat→Option (Nat × Nat)}(hk:Kn e s):∀{l:List (Nat × Operand)} {a c:List SV},gQ pl s l a=some c→parts pl e l a=some c
 | [],a,c,hx=>hx
 |p::l,a,c,hx=>by
  obtain⟨q,h1,h2⟩:=aA.1 (show ob (pl p.1) (fun q=>ob (evs s p.2) fun v=>cells v fun c=>cb (Nat.beq (len c) q.2) (ob (dV q.1 c a) (gQ pl s l)) none)=some c from hx);obtain⟨w,h3,h4⟩:=aA.1 h2;show ob (pl p.1) (fun q=>ob (ev e p.2) fun v=>cells v fun c=>cb (Nat.beq (len c) q.2) (ob (dV q.1 c a) (parts pl e l)) none)=some c;rw[h1];show ob (ev e p.2) (fun v=>cells v fun c=>cb (Nat.beq (len c) q.2) (ob (dV q.1 c a) (parts pl e l)) none)=some c;rw[bG hk h3];obtain⟨g,m,rfl,h5⟩:=mR.1 h4;show cb (Nat.beq (len m) q.2) (ob (dV q.1 m a) (parts pl e l)) none=some c;obtain⟨h6,h7⟩:=aD.1 h5;obtain⟨a2,h8,h9⟩:=aA.1 h7;rw[h6];show ob (dV q.1 m a) (parts pl e l)=some c;rw[h8];exact aAy hk h9
theorem aGJ{pr:Array (Nat × Operand)}{fs pl:List (Nat × Nat)}{c:List SV}(hS:St β h0 e s h ws ls ps)(ht:F.ti t=some i)(hd:i.d=.st fs)(hp:szs F fs=some pl)(hc:gQ (fun f=>(drp f pl).head?) s pr.toList i.ze=some c)(k:Q (.c true c) h):Xop F (.build t pr) e h Q:=
 .now (fun _=>by
  show pJ F e h t pr.toList=_;unfold pJ;rw[ht]
  show (match i.d with
   | .st fs=>ob (szs F fs) fun pl=>ob (parts (fun f=>(drp f pl).head?) e pr.toList i.ze) fun c=>some (AV.c true c,h)
   | .ar _ el=>ob (sz F el) fun s=>ob (parts (fun f=>some (Nat.mul f s,s)) e pr.toList i.ze) fun c=>some (AV.c true c,h)
   |_=>none)=_
  rw[hd];show ob (szs F fs) _=_;rw[hp];show ob (parts (fun f=>(drp f pl).head?) e pr.toList i.ze) _=_;rw[aAy hS.k hc];rfl) k
theorem aQR{sT f id off:Nat}{q:Nat × Nat}{z:Nat}(hS:St β h0 e s h ws ls ps)(ht:F.ti sT=some i)(hq:fields i.d f=some q)(hz:sz F q.2=some z)(h0z:Nat.blt 0 z=true)(hx:evs s x=some (sc (.p id off)))(k:Q (sc (.p id (off+q.1))) h):Xop F (.fieldAddr sT x f) e h Q:=
 .now (fun _=>by
  show oFA F e h sT x f=_;unfold oFA;rw[ht];show ob (fields i.d f) _=_;rw[hq];show ob (sz F q.2) _=_;rw[hz];show cb (Nat.blt 0 z) _ none=_;rw[h0z];show ob (ev e x) _=_;rw[bG hS.k hx];rfl) k
theorem aTK{f:Nat}{xs:Array Operand}{ats:Array TypeId}{args:List AV}(hS:St β h0 e s h ws ls ps)(ha:nT s xs.toList=some args)(hc:Xc F f args h Q):Xop F (.call {callee:=.value (.func f),args:=xs,argTypes:=ats}) e h Q:=by
 obtain⟨v,h1,⟨m0,k1⟩,k2⟩:=hc;refine⟨v,h1,⟨m0,fun m hm=>?_⟩,k2⟩;show ob (evL e xs.toList) (fun l=>iD F (exec F m) f (app l []) h)=_;rw[aAw hS.k ha];show iD F (exec F m) f (app args []) h=_;rw[jQ,List.append_nil];exact k1 m hm
theorem aNh{f:Nat}{G:Func}{cd:Code}{g:List AV→Option AV}{args:List AV}(hG:F.P.funcs[f]? =some G)(hb:G.body=some cd)(hp:F.pr f=some g)(hg:g args=some v)(k:Q v h):Xc F f args h Q:=by
 refine⟨v,h,⟨0,fun m _=>?_⟩,k⟩;unfold iD;rw[hG];show ob G.body _=_;rw[hb];show (Option.rec (motive:=fun _=>Option VH) _ _ (F.pr f):Option VH)=_;rw[hp];show ob (g args) _=_;rw[hg];rfl
theorem aSC{f:Nat}{G:Func}{cd:Code}{g:H→List AV→Option AV}{args:List AV}(hG:F.P.funcs[f]? =some G)(hb:G.body=some cd)(hp:F.pr f=none)(hh:F.ph f=some g)(hg:g h args=some v)(k:Q v h):Xc F f args h Q:=by
 refine⟨v,h,⟨0,fun m _=>?_⟩,k⟩;unfold iD;rw[hG];show ob G.body _=_;rw[hb];show (Option.rec (motive:=fun _=>Option VH) _ _ (F.pr f):Option VH)=_;rw[hp];show aBI F (exec F m) G cd f args h=_;unfold aBI;rw[hh];show (Option.rec (motive:=fun _=>Option VH) _ _ (g h args):Option VH)=_;rw[hg]
theorem aL7{f:Nat}{G:Func}{cd:Code}{args:List AV}{e0:Env}(hG:F.P.funcs[f]? =some G)(hb:G.body=some cd)(hp:F.pr f=none)(hh:F.ph f=none)(he:qF G.ntmps args 0 (fill G.ntmps 0 .lf)=some e0)(k:Xw F G.ntmps f cd e0 h fun x e h=>∃v,leave F G ⟨x,e,h⟩=some (v,h)∧Q v h):Xc F f args h Q:=by
 obtain⟨x,e1,h1,⟨m0,k1⟩,v,k2,k3⟩:=k;refine⟨v,h1,⟨m0,fun m hm=>?_⟩,k3⟩;unfold iD;rw[hG];show ob G.body _=_;rw[hb];show (Option.rec (motive:=fun _=>Option VH) _ _ (F.pr f):Option VH)=_;rw[hp];show aBI F (exec F m) G cd f args h=_;unfold aBI;rw[hh];show lK F (exec F m) G cd f args h=_;unfold lK;rw[he];show ob (exec F m false G.ntmps f cd e0 h) _=_;rw[k1 m hm];exact k2
theorem St.start{e0:Env}{s:List (Nat × AV)}(hs:∀k v,lk s k=some v→e0.get k=some v)(hl:∀p∈ls,IsL [] h p.1 p.2):St h.bar h e0 s h [] ls []:=
 ⟨hs,Nat.le_refl _,rfl,fun _ _=>rfl,rfl,⟨fun _ hp=>(by cases hp),List.Pairwise.nil⟩,hl,fun _ hp=>(by cases hp)⟩
theorem nV{ops:List Oper}{o:Oper}{g j:Nat}{w b:Bool}(hS:St β h0 e s h ws ls ps)(ho:(drp g ops).head? =some o)(hd:o.dst=some j)(hb:lk s j=some (sc (.b b))):wanted ops e (some (g,w))=some (cb w b (eQ b)):=by
 show (ob (drp g ops).head? fun o=>ob o.dst fun d=>isB (e.get d) w)=_;rw[ho];show (ob o.dst fun d=>isB (e.get d) w)=_;rw[hd];show isB (e.get j) w=_;rw[hS.k j _ hb];rfl
end
end Go.Proofs.YtpobejcofijjdaaGreatDoor.E
namespace Go.Proofs.YtpobejcofijjdaaGreatDoor.E
open Go Go.RowKit
open Ma Me K
theorem vV{n:Nat}{α:Type}:∀{l:List (Nat × α)} {k:Nat} {x:α},(T.ofL l:T n α).get k=some x→(k,x)∈l
 | [],k,x,h=>by rw[show (T.ofL []:T n α)=T.lf from rfl,T.get_lf]at h;cases h
 |p::l,k,x,h=>by
  rcases T.get_set (show (T.set p.2 (T.ofL l:T n α) p.1).get k=some x from h) with⟨rfl,rfl⟩|⟨-,h2⟩
  ·exact List.mem_cons_self ..
  ·exact List.mem_cons_of_mem _ (vV h2)
theorem aCG{α:Type}{p:α→Bool}{l:Array α}(h:l.toList.all p=true){i:Nat}{x:α}(hi:l[i]? =some x):p x=true:=
 List.all_eq_true.1 h x (by have:=Array.mem_of_getElem? hi;exact Array.mem_toList_iff.2 this)
def ngB(G:Func):Bool:=!(G.name == "runtime.NumGoroutine")
theorem aET:Tryz.prog.funcs.toList.all ngB=true:=by decide+kernel
theorem xB(z:TypeId→Nat)(w:World):Rl ⟨0,fun _=>False,fun _=>0,w,z⟩ w ⟨.lf,0,0,.lf⟩:=
 ⟨rfl,fun _ h=>h.elim,Q.refl w,fun _ _ h=>(by rw[T.get_lf]at h;cases h),fun _ _ _ _ h=>(by rw[T.get_lf]at h;cases h),fun _ _ h=>(by rw[T.get_lf]at h;cases h),fun _ _ h=>(by rw[T.get_lf]at h;cases h),fun _ _ _ _ h=>(by rw[T.get_lf]at h;cases h)⟩
noncomputable def nm (q:Rat):AV:=.c true (aO q)
end Go.Proofs.YtpobejcofijjdaaGreatDoor.E
namespace Go.Proofs.YtpobejcofijjdaaGreatDoor.E
open Go Go.RowKit
open Ma Me K
section
variable {F:Cf} {nt fn:Nat} {β:Nat} {h0 h h':H} {e:Env} {s:List (Nat × AV)} {ws:List (Nat × B)} {ls:List (AV × List Rat)} {ps:List (AV × Rat)} {v:AV} {xs:List Rat} {ops:List Oper} {o:Oper} {i d b:Nat} {A late:List Nat} {M:List (Nat × List Nat)} {Q:Env→H→Prop}
theorem St.bl(hS:St β h0 e s h ws ls ps)(hb:β≤h.n):h.bar≤h.n:=by rw[hS.bar];exact hb
theorem aQS{id:Nat}{ops:Array Oper}{Q:Ex→Env→H→Prop}(hS:St β h0 e s h ws ls ps)(hp:F.pl fn id=some (A,M))(hok:lG F ops (A,M)=true)(k:Xa F nt ops.toList β M A e h (Q .n)):Xw F nt fn (.region id ops true) e h Q:=aOD hp hok (by rw[hS.bar];exact k)
theorem St.drop(hS:St β h0 e s h ws ls ps){ws':List (Nat × B)}(hw:ws'.Sublist ws):St β h0 e s h ws' ls ps:=
 ⟨hS.k,hS.n,hS.bar,hS.o,hS.l,⟨fun p hp=>hS.w.1 p (hw.subset hp),hS.w.2.sublist hw⟩,fun p hp=>(hS.ls p hp).imp id fun ⟨id,cap,c,h1,h2,h3,h4,h5,h6⟩=>⟨id,cap,c,h1,h2,h3,h4,h5,fun q hq=>h6 q (hw.subset hq)⟩,
  fun p hp=>let ⟨id,off,b,h1,h3,h4,h5,h6⟩:=hS.ps p hp;⟨id,off,b,h1,h3,h4,h5,fun q hq=>h6 q (hw.subset hq)⟩⟩
theorem kn1{v:AV}{k:Nat}(hv:e.get k=some v){s:List (Nat × AV)}(hs:Kn e s):Kn e ((k,v)::s):=fun j u hj=>by
 have hj:cb (Nat.beq k j) (some v) (lk s j)=some u:=hj;cases hb:Nat.beq k j with
 |true=>
  rw[hb]at hj;injection hj with hj;rw[←aM.1 hb,hv,hj]
 |false=>
  rw[hb]at hj;exact hs j u hj
theorem aQT:∀p∈([]:List (AV × List Rat)),IsL [] h p.1 p.2:=fun _ h=>by cases h
theorem aNi{f:Nat}{G:Func}{cd:Code}{args:List AV}{e0:Env}{Q:AV→H→Prop}(hG:F.P.funcs[f]? =some G)(hb:G.body=some cd)(hp:F.pr f=none)(hh:F.ph f=none)(he:qF G.ntmps args 0 (fill G.ntmps 0 .lf)=some e0)(hs:Kn e0 s)(hl:∀p∈ls,IsL [] h p.1 p.2)
  (k:∀β e,β=h.bar→St β h e s h [] ls []→Xw F G.ntmps f cd e h fun x e h=>∃v,leave F G ⟨x,e,h⟩=some (v,h)∧Q v h):Xc F f args h Q:=aL7 hG hb hp hh he (k _ _ rfl (St.start hs hl))
end
end Go.Proofs.YtpobejcofijjdaaGreatDoor.E
