/- PolyComputes is true for any two slices of strings and any two strings. No condition. -/
import Derived.Test.YtpobejcofijjdaaGreatDoorQd05
namespace Go.Proofs.YtpobejcofijjdaaGreatDoor.E
open Go Go.RowKit
open Ma Me K
def T0.flt{α:Type}:{n:Nat}→T0 n α→(Nat→Bool)→T0 n α
 |0,t,S=>if S 0 then t else (none:Option α)
 |n+1,t,S=>(⟨T0.flt (n:=n) (N.a t) fun k=>S (8*k),T0.flt (n:=n) (N.b t) fun k=>S (8*k+1),T0.flt (n:=n) (N.c t) fun k=>S (8*k+2),T0.flt (n:=n) (N.d t) fun k=>S (8*k+3),T0.flt (n:=n) (N.e t) fun k=>S (8*k+4),T0.flt (n:=n) (N.f t) fun k=>S (8*k+5),T0.flt (n:=n) (N.g t) fun k=>S (8*k+6),T0.flt (n:=n) (N.h t) fun k=>S (8*k+7)⟩:N (T0 n α))
theorem T0.pk_flt{α:Type}{n:Nat}(t:T0 (n+1) α)(S:Nat→Bool){d:Nat}(hd:d<8):(t.flt S).pk d=(t.pk d).flt fun k=>S (8*k+d):=by
 rcases (by omega:d=0∨d=1∨d=2∨d=3∨d=4∨d=5∨d=6∨d=7) with rfl|rfl|rfl|rfl|rfl|rfl|rfl|rfl<;>rfl
theorem T0.get_flt{α:Type}{n:Nat}(t:T0 n α):∀(S:Nat→Bool) (k:Nat),(t.flt S).g k=if S k then t.g k else none:=by
 induction n with
 |zero=>
  intro S k;by_cases hk:k=0
  ·subst hk;rw[T0.get_z,T0.get_z];show (if S 0=true then t else (none:Option α))=if S 0=true then t else (none:Option α)
   rfl
  ·rw[T0.get_z,T0.get_z,if_neg hk,if_neg hk];split<;>rfl
 |succ n ih=>
  intro S k;rw[T0.get_s,T0.get_s,T0.pk_flt t S (Nat.mod_lt k (by decide)),ih,show 8*(k/8)+k % 8=k from Nat.div_add_mod k 8]
noncomputable def T.flt {α:Type} {n:Nat} (t:T n α) (S:Nat→Bool):T n α:=⟨T0.flt t.t S,fun k=>if S k then t.o k else none⟩
theorem T.get_flt{α:Type}{n:Nat}(t:T n α)(S:Nat→Bool)(k:Nat):(t.flt S).get k=if S k then t.get k else none:=by
 by_cases h:k<Nat.pow 8 n
 ·rw[T.get_lt h,T.get_lt h];exact T0.get_flt t.t S k
 ·rw[T.get_ge h,T.get_ge h];rfl
section
variable {P:Program} {ops:Array Oper} {b:Frame} {k:List Item} {cs:List Frame}
theorem aQE{J:(Nat→Bool)→Act→World→Prop}(hr:∀L:Nat→Bool,(∃j,j<ops.size∧L j=false)→∃i o,ops[i]? =some o∧L i=false∧∀e∈o.after,Region.binds .any e=true→L e.on=true)(hstep:∀(L:Nat→Bool) (a:Act) (w:World) (i:Nat) (o:Oper),ops[i]? =some o→L i=false→(∀e∈o.after,Region.binds .any e=true→L e.on=true)→J L a w→∀rest,∃a' w',J (Ja.upd L i true) a' w'∧Steps P (lone (b.atR a (.inRegion ops (i::rest)::k)) cs w) (lone (b.atR a' (.inRegion ops rest::k)) cs w')):
  ∀(fuel t:Nat) (listed:Array Bool) (L:Nat→Bool) (a:Act) (w:World),L=(fun j=>listed.getD j false)→listed.size=ops.size→Ja.left L ops.size≤fuel→J L a w→
   ∃L' a' w',(∀j,j<ops.size→L' j=true)∧J L' a' w'∧Steps P (lone (b.atR a (.inRegion ops (Region.linearise.go .any ops fuel t listed [])::k)) cs w) (lone (b.atR a' k) cs w'):=by
 intro fuel
 induction fuel with
 |zero=>
  intro t listed L a w hL hs hle hJ;refine⟨L,a,w,Ja.left_zero ops.size (by omega),hJ,?_⟩;simp only[Region.linearise.go,List.reverse_nil];exact .one stepR_region_end
 |succ fuel ih=>
  intro t listed L a w hL hs hle hJ;simp only[Region.linearise.go]
  change ∃L' a' w',_∧_∧Steps P (lone (b.atR a (.inRegion ops (match (Region.ready .any ops listed)[t % (Region.ready .any ops listed).length]? with
    |some i=>Region.linearise.go .any ops fuel (t/(Region.ready .any ops listed).length) (listed.setIfInBounds i true) [i]
    |none=>[].reverse)::k)) cs w) _
  cases hi:(Region.ready .any ops listed)[t % (Region.ready .any ops listed).length]? with
  |none=>
   have hnil:Region.ready .any ops listed=[]:=by
      cases hr:Region.ready .any ops listed with
      |nil=>rfl
      |cons x xs=>
       rw[hr]at hi;have hlt:t % (x::xs).length<(x::xs).length:=Nat.mod_lt _ (by simp);simp at hi;simp at hlt;omega
   refine⟨L,a,w,fun j hj=>?_,hJ,.one stepR_region_end⟩;cases hLj:L j with
   |true=>rfl
   |false=>
    obtain⟨i,o,ho,hLi,hdep⟩:=hr L ⟨j,hj,hLj⟩;have hii:i<ops.size:=(Array.getElem?_eq_some_iff.1 ho).1;have:i∈Region.ready .any ops listed:=mem_ready.2 ⟨by
        have h1:listed.getD i false=false:=(by rw[hL]at hLi;exact hLi);have h2:i<listed.size:=(by omega);simp[h2]at h1⊢;exact h1,o,ho,fun e he hb=>by
         have:=hdep e he hb;rw[hL]at this;exact this⟩
    rw[hnil]at this;cases this
  |some i=>
   simp only[];rw[linearise_go_acc,List.reverse_singleton,List.singleton_append];obtain⟨h0,o,ho,hall⟩:=mem_ready.1 (List.mem_of_getElem? hi);have hii:i<ops.size:=(Array.getElem?_eq_some_iff.1 ho).1;have hil:i<listed.size:=(by omega);have hLi:L i=false:=(by rw[hL];simp[hil]at h0⊢;exact h0);obtain⟨a1,w1,hJ1,hS⟩:=hstep L a w i o ho hLi (fun e he hb=>by rw[hL];exact hall e he hb) hJ (Region.linearise.go .any ops fuel (t/(Region.ready .any ops listed).length) (listed.setIfInBounds i true) []);have hL2:Ja.upd L i true=fun j=>(listed.setIfInBounds i true).getD j false:=by
      funext j;unfold Ja.upd;by_cases hji:j=i
      ·subst hji;simp[hil]
      ·rw[if_neg hji,hL,getD_set_ne false (Ne.symm hji)]
   have hle2:Ja.left (Ja.upd L i true) ops.size≤fuel:=by
      have:=Ja.left_upd hLi ops.size hii;omega
   obtain⟨L',a',w',q1,q2,q3⟩:=ih (t/(Region.ready .any ops listed).length) (listed.setIfInBounds i true) (Ja.upd L i true) a1 w1 hL2 (by simp[hs]) hle2 hJ1;exact⟨L',a',w',q1,q2,hS.trans q3⟩
end
section
variable {F:Cf} {c d:Cx} {wb:World} {h h':H} {nt:Nat} {e e':Env} {a a':Act}
theorem Rl.lift(hr:Rl c wb h):Rl c c.w h.lift:=
 ⟨hr.n,hr.k,Q.refl _,hr.blk,hr.inj,fun id b hg _ hb=>absurd (hr.blk id b hg).1 (Nat.not_lt.2 hb),fun l p hl=>⟨(hr.lp l p hl).1,fun q=>⟨((hr.lp l p hl).2 q).1,fun hb=>absurd (hr.lp l p hl).1 (Nat.not_lt.2 hb)⟩⟩,hr.li⟩
def Cx.lo(c:Cx)(n:Nat):Cx:=⟨n,fun id=>c.k id∧id<n,c.r,c.w,c.z⟩
def Cx.mg(g d:Cx)(n0 n1:Nat):Cx:=⟨g.n,fun id=>g.k id∨(d.k id∧n0≤id),fun id=>if n0≤id∧id<n1 then d.r id else g.r id,d.w,g.z⟩
section
variable {g:Cx} {n0 n1 m:Nat}
theorem yX(hf:∀id,g.k id→n0≤id→n1≤id){id:Nat}(hk:g.k id):(g.mg d n0 n1).r id=g.r id:=if_neg fun q=>by have:=hf id hk q.1;omega
theorem aEF{id:Nat}(h0:n0≤id)(h1:id<n1):(g.mg d n0 n1).r id=d.r id:=if_pos ⟨h0,h1⟩
theorem aHX(hX:Xt (g.lo n0) d)(hf:∀id,g.k id→n0≤id→n1≤id):Xs (g.lo m) ((g.mg d n0 n1).lo m):=
 ⟨fun _ q=>⟨.inl q.1,q.2⟩,fun _ q=>yX hf q.1,hX.p.m,hX.p.mr,hX.p.s,rfl⟩
theorem aHY(hX:Xt (g.lo n0) d)(hd:Rl d wb h')(hn:h'.n=n1)(hf:∀id,g.k id→n0≤id→n1≤id)(hm:n1≤m):Xs d ((g.mg d n0 n1).lo m):=by
 have hlt:∀id,d.k id→id<n1:=fun id q=>by have:=hd.k id q;rw[hd.n,hn]at this;exact this
 refine⟨fun id q=>⟨?_,Nat.lt_of_lt_of_le (hlt id q) hm⟩,fun id q=>?_,fun _ _ k=>k,fun _ _ k=>k,fun _ _ cs _ k=>⟨cs,k,rfl⟩,hX.z.symm⟩
 ·rcases hX.o id q with k|k
  ·exact .inl k.1
  ·exact .inr ⟨q,k⟩
 ·rcases hX.o id q with k|k
  ·exact (yX hf k.1).trans (hX.r id k).symm
  ·exact aEF k (hlt id q)
theorem Rl.merge{h2:H}(hX:Xt (g.lo n0) d)(hd:Rl d g.w h')(hn:h'.n=n1)(hbar:h'.bar=n0)(hf:∀id,g.k id→n0≤id→n1≤id)(hr:Rl (g.lo m) wb h2)
  (hc:m≤n0∨(n1≤m∧(∀id b,id<n1→h2.h.get id=some b→h'.h.get id=some b)∧∀id b,id<n1→h2.l.get id=some b→h'.l.get id=some b)):Rl ((g.mg d n0 n1).lo m) wb h2:=by
 have hlt:∀id,d.k id→id<n1:=fun id q=>by have:=hd.k id q;rw[hd.n,hn]at this;exact this
 have X:=aHX (m:=m) hX hf;have nw:∀{id:Nat},d.k id→n0≤id→id<m→n1≤m∧(∀b,h2.h.get id=some b→h'.h.get id=some b)∧∀b,h2.l.get id=some b→h'.l.get id=some b:=fun {id} q q0 q1=>by
  rcases hc with hc|⟨h1,h3,h4⟩
  ·omega
  ·exact⟨h1,fun b=>h3 id b (hlt id q),fun b=>h4 id b (hlt id q)⟩
 have hsz:wb.heap.size≤g.w.heap.size:=hr.q.size;have blk:∀{id b},h2.h.get id=some b→Lv ((g.mg d n0 n1).lo m) id b→(Lv (g.lo m) id b∧(g.mg d n0 n1).r id=g.r id∧g.r id<g.w.heap.size)∨(h'.h.get id=some b∧Lv d id b∧(g.mg d n0 n1).r id=d.r id∧g.w.heap.size≤d.r id∧n1≤m):=fun {id b} hg q=>by
  obtain⟨⟨q1,q2⟩,q3⟩:=q;rcases q1 with q1|⟨q1,q4⟩
  ·exact .inl ⟨⟨⟨q1,q2⟩,q3⟩,yX hf q1,((hr.blk id b hg).2 ⟨⟨q1,q2⟩,q3⟩).lt⟩
  ·obtain⟨k1,k2,-⟩:=nw q1 q4 q2;exact .inr ⟨k2 b hg,⟨q1,q3⟩,aEF q4 (hlt id q1),hd.new id b (k2 b hg) ⟨q1,q3⟩ (by omega),k1⟩
 have lps:∀{id p},h2.l.get id=some p→((g.mg d n0 n1).lo m).k id→(((g.lo m).k id)∧(g.mg d n0 n1).r id=g.r id∧g.r id<g.w.heap.size)∨(h'.l.get id=some p∧d.k id∧(g.mg d n0 n1).r id=d.r id∧g.w.heap.size≤d.r id∧n1≤m):=fun {id p} hg q=>by
  obtain⟨q1,q2⟩:=q;rcases q1 with q1|⟨q1,q4⟩
  ·exact .inl ⟨⟨q1,q2⟩,yX hf q1,((hr.lp id p hg).2 ⟨q1,q2⟩).1.lt⟩
  ·obtain⟨k1,-,k2⟩:=nw q1 q4 q2;exact .inr ⟨k2 p hg,q1,aEF q4 (hlt id q1),((hd.lp id p (k2 p hg)).2 q1).2 (by omega),k1⟩
 refine⟨hr.n,fun id q=>q.2,hr.q.trans hd.q,fun id b hg=>⟨(hr.blk id b hg).1,fun q=>?_⟩,fun i j b b2 hi hj qi qj hij=>?_,fun id b hg q hb=>?_,fun l p hl=>⟨(hr.lp l p hl).1,fun q=>?_⟩,fun i j p p2 hi hj qi qj hij=>?_⟩
 ·show Bl _ b ((g.mg d n0 n1).r id);rcases blk hg q with⟨k1,k2,k3⟩|⟨k1,k2,k3,k4,k5⟩
  ·rw[k2];exact ((hr.blk id b hg).2 k1).xs X (hd.q.heap k3)
  ·rw[k3];exact ((hd.blk id b k1).2 k2).xs (aHY hX hd hn hf k5) rfl
 ·show (g.mg d n0 n1).r i≠(g.mg d n0 n1).r j;rcases blk hi qi with⟨k1,k2,k3⟩|⟨k1,k2,k3,k4,k5⟩
  ·rcases blk hj qj with⟨m1,m2,m3⟩|⟨m1,m2,m3,m4,m5⟩
   ·rw[k2,m2];exact hr.inj i j b b2 hi hj k1 m1 hij
   ·rw[k2,m3];omega
  ·rcases blk hj qj with⟨m1,m2,m3⟩|⟨m1,m2,m3,m4,m5⟩
   ·rw[k3,m2];omega
   ·rw[k3,m3];exact hd.inj i j b b2 k1 m1 k2 m2 hij
 ·show wb.heap.size≤(g.mg d n0 n1).r id;rcases blk hg q with⟨k1,k2,k3⟩|⟨k1,k2,k3,k4,k5⟩
  ·rw[k2];exact hr.new id b hg k1 hb
  ·rw[k3];omega
 ·show LpR _ p ((g.mg d n0 n1).r l)∧(h2.bar≤l→wb.heap.size≤(g.mg d n0 n1).r l)
  rcases lps hl q with⟨k1,k2,k3⟩|⟨k1,k2,k3,k4,k5⟩
  ·rw[k2];exact⟨((hr.lp l p hl).2 k1).1.xs X (hd.q.heap k3),((hr.lp l p hl).2 k1).2⟩
  ·rw[k3];exact⟨((hd.lp l p k1).2 k2).1.xs (aHY hX hd hn hf k5) rfl,fun _=>by omega⟩
 ·show (g.mg d n0 n1).r i≠(g.mg d n0 n1).r j;rcases lps hi qi with⟨k1,k2,k3⟩|⟨k1,k2,k3,k4,k5⟩
  ·rcases lps hj qj with⟨m1,m2,m3⟩|⟨m1,m2,m3,m4,m5⟩
   ·rw[k2,m2];exact hr.li i j p p2 hi hj k1 m1 hij
   ·rw[k2,m3];omega
  ·rcases lps hj qj with⟨m1,m2,m3⟩|⟨m1,m2,m3,m4,m5⟩
   ·rw[k3,m2];omega
   ·rw[k3,m3];exact hd.li i j p p2 k1 m1 k2 m2 hij
end
end
end Go.Proofs.YtpobejcofijjdaaGreatDoor.E
namespace Go.Proofs.YtpobejcofijjdaaGreatDoor.E
open Go Go.RowKit
open Ma Me K
structure Tp where
 i:Nat
 o:Oper
 e:Env
 h:H
 b:Bool
 v:AV
 e':Env
 h':H
def yY(nt:Nat)(e:Env)(d:Option Nat)(v:AV)(e':Env):Prop:=match d with|none=>e'=e|some k=>k<nt∧e'=e.set v k
inductive Trace (S:Tp→Prop):Env→H→List Tp→Env→H→Prop where
 |nil (e:Env) (h:H):Trace S e h [] e h
 |cons {p:Tp} {l:List Tp} {e2:Env} {h2:H} (hp:S p) (ht:Trace S p.e' p.h' l e2 h2):Trace S p.e p.h (p::l) e2 h2
structure St1 (F:Cf) (nt:Nat) (call:dD) (ops:List Oper) (lf:H→H) (p:Tp):Prop where
 o:(drp p.i ops).head? =some p.o
 w:wanted ops p.e p.o.guard=some p.b
 y:p.b=true→op1 F call p.o.op p.e (lf p.h)=some (p.v,p.h')
 n:p.b=false→p.v=un∧p.h'=lf p.h
 e:yY nt p.e p.o.dst p.v p.e'
section
variable {F:Cf} {nt:Nat} {call:dD} {ops:List Oper} {e:Env} {h:H} {r:R}
theorem aM8{α:Type}{d:Option Nat}{v:AV}{k:Env→Option α}{y:α}(hx:put nt e d v k=some y):∃e',yY nt e d v e'∧k e'=some y:=by
 cases d with
 |none=>exact⟨e,rfl,hx⟩
 |some d=>
  obtain⟨h1,h2⟩:=aD.1 (show cb (Nat.blt d nt) (k (e.set v d)) none=some y from hx);exact⟨_,⟨aZ.1 h1,rfl⟩,h2⟩
theorem aGB{rest:Env→H→Option R}{i:Nat}{o:Oper}{lf:H→H}(ho:(drp i ops).head? =some o)(hx:nO F nt call ops rest o e (lf h)=some r):
  ∃p:Tp,p.i=i∧p.e=e∧p.h=h∧St1 F nt call ops lf p∧rest p.e' p.h'=some r:=by
 obtain⟨w,h1,hx⟩:=aA.1 hx;cases w with
 |true=>
  obtain⟨⟨v,h2⟩,h3,hx⟩:=aA.1 (show (ob (op1 F call o.op e (lf h)) fun r=>put nt e o.dst r.1 fun e=>rest e r.2)=some r from hx);obtain⟨e',h4,h5⟩:=aM8 hx;exact⟨⟨i,o,e,h,true,v,e',h2⟩,rfl,rfl,rfl,⟨ho,h1,fun _=>h3,fun q=>Bool.noConfusion q,h4⟩,h5⟩
 |false=>
  obtain⟨e',h4,h5⟩:=aM8 (show put nt e o.dst un (fun e=>rest e (lf h))=some r from hx);exact⟨⟨i,o,e,h,false,un,e',lf h⟩,rfl,rfl,rfl,⟨ho,h1,fun q=>Bool.noConfusion q,fun _=>⟨rfl,rfl⟩,h4⟩,h5⟩
theorem aGC{b:Nat}{k:Env→H→Option R}:∀{l:List Nat} {e:Env} {h:H},yO F nt call ops b k l e h=some r→∃tr e1 h1,tr.map Tp.i=l∧Trace (St1 F nt call ops H.lift) e h tr e1 h1∧k e1 (h1.back b)=some r
 | [],e,h,hx=>⟨[],e,h,rfl,.nil e h,hx⟩
 |i::l,e,h,hx=>by
  obtain⟨o,ho,hx⟩:=aA.1 (show (ob (drp i ops).head? fun o=>nO F nt call ops (yO F nt call ops b k l) o e h.lift)=some r from hx);obtain⟨p,rfl,rfl,rfl,h1,h2⟩:=aGB (lf:=H.lift) ho hx;obtain⟨tr,e1,g1,h3,h4,h5⟩:=aGC h2;exact⟨p::tr,e1,g1,by rw[List.map_cons,h3],.cons h1 h4,h5⟩
def Same(F:Cf)(ops:List Oper)(e:Env)(h:H)(j:Nat):Prop:=∃o,(drp j ops).head? =some o∧(mkO F o.op=.p∨(mkO F o.op=.l∧o.guard=none∧∃d v u,o.dst=some d∧e.get d=some v∧op1 F (fun _ _ _=>none) o.op e h=some u∧avb v u.1=true)∨(mkO F o.op=.n∧o.guard=none∧∃d v u,o.dst=some d∧e.get d=some v∧op1 F (fun _ _ _=>none) o.op e h=some u∧kP h v u=true))
theorem aEG{k:Option R}:∀{l:List Nat},again F ops e h k l=some r→(∀j∈l,Same F ops e h j)∧k=some r
 | [],hx=>⟨fun j hj=>(by cases hj),hx⟩
 |j::l,hx=>by
  obtain⟨o,ho,hx⟩:=aA.1 hx;have key:Same F ops e h j∧again F ops e h k l=some r:=by
    split at hx
    ·rename_i hm;exact⟨⟨o,ho,.inl hm⟩,hx⟩
    ·rename_i hm;obtain⟨d,h3,hx⟩:=aA.1 hx;obtain⟨v,h4,hx⟩:=aA.1 hx;obtain⟨u,h5,hx⟩:=aA.1 hx;obtain⟨h6,hx⟩:=aD.1 hx;obtain⟨h7,hx⟩:=aD.1 hx;refine⟨⟨o,ho,.inr (.inl ⟨hm,?_,d,v,u,h3,h4,h5,h7⟩)⟩,hx⟩;cases hg:o.guard with
     |none=>rfl
     |some g=>rw[hg]at h6;cases h6
    ·rename_i hm;obtain⟨d,h3,hx⟩:=aA.1 hx;obtain⟨v,h4,hx⟩:=aA.1 hx;obtain⟨u,h5,hx⟩:=aA.1 hx;obtain⟨h6,hx⟩:=aD.1 hx;obtain⟨h7,hx⟩:=aD.1 hx;refine⟨⟨o,ho,.inr (.inr ⟨hm,?_,d,v,u,h3,h4,h5,h7⟩)⟩,hx⟩;cases hg:o.guard with
     |none=>rfl
     |some g=>rw[hg]at h6;cases h6
    ·cases hx
  obtain⟨h1,h2⟩:=key;obtain⟨h7,h8⟩:=aEG h2;refine⟨fun i hi=>?_,h8⟩;rcases List.mem_cons.1 hi with rfl|hi
  ·exact h1
  ·exact h7 i hi
inductive TraceB (F:Cf) (nt:Nat) (call:dD) (ops:List Oper):Env→H→List (Tp × List Nat)→Env→H→Prop where
 |nil (e:Env) (h:H):TraceB F nt call ops e h [] e h
 |cons {p:Tp} {rm:List Nat} {l:List (Tp × List Nat)} {e2:Env} {h2:H} (hp:St1 F nt call ops id p) (hs:∀j∈rm,Same F ops p.e' p.h' j) (ht:TraceB F nt call ops p.e' p.h' l e2 h2):TraceB F nt call ops p.e p.h ((p,rm)::l) e2 h2
theorem aGD:∀{l:List (Nat × List Nat)} {e:Env} {h:H},aBg F nt call ops l e h=some r→
  ∃tr e1 h1,(tr.map fun q=>(q.1.i,q.2))=l∧TraceB F nt call ops e h tr e1 h1∧r=⟨.n,e1,h1⟩
 | [],e,h,hx=>⟨[],e,h,rfl,.nil e h,by injection hx with hx;exact hx.symm⟩
 |(i,rm)::l,e,h,hx=>by
  obtain⟨o,ho,hx⟩:=aA.1 (show (ob (drp i ops).head? fun o=>nO F nt call ops (fun e h=>again F ops e h (aBg F nt call ops l e h) rm) o e h)=some r from hx);obtain⟨p,rfl,rfl,rfl,h1,h2⟩:=aGB (lf:=id) ho hx;obtain⟨h3,h4⟩:=aEG h2;obtain⟨tr,e1,g1,h5,h6,h7⟩:=aGD h4;exact⟨(p,rm)::tr,e1,g1,by rw[List.map_cons,h5],.cons h1 h3 h6,h7⟩
theorem yY.get{d:Option Nat}{v:AV}{e':Env}(hp:yY nt e d v e'){t:Nat}{x:AV}(hx:e'.get t=some x):(d=some t∧x=v)∨(d≠some t∧e.get t=some x):=by
 cases d with
 |none=>
  rw[show e'=e from hp]at hx;exact .inr ⟨by simp,hx⟩
 |some k=>
  obtain⟨-,rfl⟩:=hp;rcases T.get_set hx with⟨rfl,rfl⟩|⟨h1,h2⟩
  ·exact .inl ⟨rfl,rfl⟩
  ·exact .inr ⟨fun q=>h1 (by injection q with q;exact q.symm),h2⟩
theorem Trace.get{S:Tp→Prop}(hS:∀p,S p→yY nt p.e p.o.dst p.v p.e'){tr:List Tp}{e2:Env}{h2:H}(ht:Trace S e h tr e2 h2){t:Nat}{x:AV}(hx:e2.get t=some x):
  (∃p∈tr,p.o.dst=some t∧p.v=x)∨((∀p∈tr,p.o.dst≠some t)∧e.get t=some x):=by
 induction ht with
 |nil e h=>exact .inr ⟨fun p hp=>(by cases hp),hx⟩
 | @cons p l e2 h2 hp ht ih=>
   rcases ih hx with⟨q,h1,h3⟩|⟨h1,h3⟩
   ·exact .inl ⟨q,List.mem_cons_of_mem _ h1,h3⟩
   ·rcases (hS p hp).get h3 with⟨k1,k2⟩|⟨k1,k2⟩
    ·exact .inl ⟨p,List.mem_cons_self,k1,k2.symm⟩
    ·refine .inr ⟨fun q hq=>?_,k2⟩;rcases List.mem_cons.1 hq with rfl|hq
     ·exact k1
     ·exact h1 q hq
end
end Go.Proofs.YtpobejcofijjdaaGreatDoor.E
namespace Go.Proofs.YtpobejcofijjdaaGreatDoor.E
open Go Go.RowKit
open Ma Me K
theorem pQ{i j:Nat}:(bit i).testBit j=true↔i=j:=by
 have:bit i=2^i:=by show 1<<<i=2^i;rw[Nat.one_shiftLeft]
 rw[this,Nat.testBit_two_pow];simp
theorem vT{a c j:Nat}:(Nat.lor a c).testBit j=true↔a.testBit j=true∨c.testBit j=true:=by
 show (a |||c).testBit j=true↔_;rw[Nat.testBit_or];simp
theorem aHZ{a c j:Nat}(h:sub a c=true)(hj:a.testBit j=true):c.testBit j=true:=by
 have h1:a &&& c=a:=aM.1 h;rw[←h1,Nat.testBit_and]at hj;simp at hj;exact hj.2
theorem aQF{a i:Nat}(h:Nat.beq (Nat.land a (bit i)) 0=true):a.testBit i≠true:=by
 intro q;have h1:a &&& bit i=0:=aM.1 h;have h2:(a &&& bit i).testBit i=true:=by rw[Nat.testBit_and,q,pQ.2 rfl];rfl
 rw[h1]at h2;simp at h2
theorem aM9{f:Nat→Nat}{l:List Edge}{j:Nat}:(msk f l).testBit j=true↔∃e∈l,edg e=true∧(f e.on).testBit j=true:=by
 induction l with
 |nil=>simp[msk]
 |cons e l ih=>
  show (cb (edg e) (Nat.lor (f e.on) (msk f l)) (msk f l)).testBit j=true↔_;rw[bN];split
  ·rename_i h;rw[vT,ih];simp[h]
  ·rename_i h;rw[ih];simp[h]
theorem aDH{l:List Nat}{j:Nat}:(msN l).testBit j=true↔j∈l:=by
 induction l with
 |nil=>simp[msN]
 |cons i l ih=>
  show (Nat.lor (bit i) (msN l)).testBit j=true↔_;rw[vT,ih,pQ,List.mem_cons,eq_comm]
theorem aJL(e:Edge):edg e=Region.binds .any e:=by
 obtain⟨on,g⟩:=e;cases g<;>rfl
inductive Reach (ops:Array Oper):Nat→Nat→Prop where
 |one {i:Nat} {o:Oper} {e:Edge} (ho:ops[i]? =some o) (he:e∈o.after) (hb:Region.binds .any e=true):Reach ops i e.on
 |more {i j:Nat} {o:Oper} {e:Edge} (ho:ops[i]? =some o) (he:e∈o.after) (hb:Region.binds .any e=true) (h:Reach ops e.on j):Reach ops i j
theorem Reach.closed{ops:Array Oper}{S:Nat→Prop}(hS:∀i o e,ops[i]? =some o→S i→e∈o.after→Region.binds .any e=true→S e.on){i j:Nat}(h:Reach ops i j)(hi:S i):S j:=by
 induction h with
 |one ho he hb=>exact hS _ _ _ ho hi he hb
 |more ho he hb _ ih=>exact ih (hS _ _ _ ho hi he hb)
structure ScI (ops:Array Oper) (s:Sc) (l:List Nat):Prop where
 d:∀j,s.d.testBit j=true↔j∈l
 an:∀i a j,s.an.get i=some a→a.testBit j=true→Reach ops i j
 nd:l.Nodup
section
variable {F:Cf} {ops:Array Oper} {ph:Bool} {i rm:Nat} {s s':Sc} {l:List Nat}
theorem aSu{j t:Nat}(hI:ScI ops s l)(h:(anc s j).testBit t=true):j=t∨Reach ops j t:=by
 unfold anc at h;cases hg:s.an.get j with
 |none=>rw[hg]at h;exact .inl (pQ.1 h)
 |some a=>
  rw[hg]at h;rcases vT.1 h with h|h
  ·exact .inl (pQ.1 h)
  ·exact .inr (hI.an j a t hg h)
structure One (F:Cf) (ops:Array Oper) (ph:Bool) (l:List Nat) (i rm:Nat):Prop where
 o:∃o,ops[i]? =some o∧(∀e∈o.after,Region.binds .any e=true→e.on∈l)∧(ph=true→mkO F o.op≠.w)
 s:ph=false→∀j∈l,Reach ops i j∨rm.testBit j=true
theorem aJM(hI:ScI ops s l)(hx:sc1 F ops.toList ph i rm s=some s'):ScI ops s' (l++[i])∧One F ops ph l i rm:=by
 obtain⟨o,h1,hx⟩:=aA.1 hx;obtain⟨h2,hx⟩:=aD.1 hx;obtain⟨h3,hx⟩:=aD.1 hx;rw[bM]at hx;obtain⟨h4,hx⟩:=aD.1 hx;have ho:ops[i]? =some o:=by simpa using dW h1
 have hdep:∀e∈o.after,Region.binds .any e=true→e.on∈l:=fun e he hb=>(hI.d _).1 (aHZ h3 (aM9.2 ⟨e,Array.mem_toList_iff.2 he,by rw[aJL];exact hb,pQ.2 rfl⟩));have ham:∀t,(msk (anc s) o.after.toList).testBit t=true→Reach ops i t:=fun t ht=>by
  obtain⟨e,he,hb,h5⟩:=aM9.1 ht;rw[aJL]at hb;have he:=Array.mem_toList_iff.1 he;rcases aSu hI h5 with rfl|h6
  ·exact .one ho he hb
  ·exact .more ho he hb h6
 refine⟨?_,⟨o,ho,hdep,fun q k=>?_⟩,fun q j hj=>?_⟩
 ·injection hx with hx;unfold scP at hx;rw[bM]at hx;subst hx;refine⟨fun j=>?_,fun k a j hk ha=>?_,?_⟩
  ·show (Nat.lor s.d (bit i)).testBit j=true↔_;rw[vT,hI.d,pQ,List.mem_append,List.mem_singleton,eq_comm (a:=i)]
  ·rcases T.get_set hk with⟨rfl,rfl⟩|⟨-,hk⟩
   ·exact ham j ha
   ·exact hI.an k a j hk ha
  ·refine List.nodup_append.2 ⟨hI.nd,by simp,fun a ha b hb e=>?_⟩;rw[List.mem_singleton]at hb;subst hb;subst e;exact aQF h2 ((hI.d _).2 ha)
 ·subst q;rw[k]at h4;cases h4
 ·subst q;have h5:sub s.d (Nat.lor (msk (anc s) o.after.toList) rm)=true:=by
   cases hm:mkO F o.op<;>rw[hm]at h4<;>exact h4
  rcases vT.1 (aHZ h5 ((hI.d j).2 hj)) with h6|h6
  ·exact .inl (ham j h6)
  ·exact .inr h6
theorem aJN:∀{A:List Nat} {s s':Sc} {l:List Nat},ScI ops s l→scA F ops.toList A s=some s'→ScI ops s' (l++A)∧∀l1 i l2,A=l1++i::l2→One F ops true (l++l1) i 0
 | [],s,s',l,hI,hx=>by
   injection hx with hx;subst hx;exact⟨by simpa using hI,fun l1 i l2 e=>by simp at e⟩
 |i::A,s,s',l,hI,hx=>by
  obtain⟨s1,h1,hx⟩:=aA.1 (show ob (sc1 F ops.toList true i 0 s) (scA F ops.toList A)=some s' from hx);obtain⟨h2,h3⟩:=aJM hI h1;obtain⟨h4,h5⟩:=aJN h2 hx;refine⟨by simpa using h4,fun l1 j l2 e=>?_⟩;cases l1 with
  |nil=>injection e with e1 e2;subst e1;simpa using h3
  |cons x l1=>
   injection e with e1 e2;subst e1;have:=h5 l1 j l2 e2;simpa using this
theorem aJO:∀{B:List (Nat × List Nat)} {s s':Sc} {l:List Nat},ScI ops s l→scB F ops.toList B s=some s'→ScI ops s' (l++B.map Prod.fst)∧∀l1 i rm l2,B=l1++(i,rm)::l2→One F ops false (l++l1.map Prod.fst) i (msN rm)
 | [],s,s',l,hI,hx=>by
   injection hx with hx;subst hx;exact⟨by simpa using hI,fun l1 i rm l2 e=>by simp at e⟩
 |(i,rm0)::B,s,s',l,hI,hx=>by
  obtain⟨s1,h1,hx⟩:=aA.1 (show ob (sc1 F ops.toList false i (msN rm0) s) (scB F ops.toList B)=some s' from hx);obtain⟨h2,h3⟩:=aJM hI h1;obtain⟨h4,h5⟩:=aJO h2 hx;refine⟨by simpa using h4,fun l1 j rm l2 e=>?_⟩;cases l1 with
  |nil=>injection e with e1 e2;injection e1 with e3 e4;subst e3;subst e4;simpa using h3
  |cons x l1=>
   injection e with e1 e2;subst e1;have:=h5 l1 j rm l2 e2;simpa using this
theorem aDI{an:T 3 Nat}{i j:Nat}{l:List Nat}{d:Nat}(hI:ScI ops ⟨d,an⟩ l)(h:has an i j=true):Reach ops i j:=by
 unfold has at h;cases hg:an.get i with
 |none=>rw[hg]at h;cases h
 |some a=>rw[hg]at h;exact hI.an i a j hg (aHZ h (pQ.2 rfl))
theorem dF{c x:Bool}:cb c x false=true↔c=true∧x=true:=by cases c<;>simp[cb]
theorem aJP{wt an:T 3 Nat}{i:Nat}:∀{l:List Tmp},shT wt an i l=true→∀t∈l,∀j,wt.get t=some j→j=i∨has an i j=true∨has an j i=true
 | [],_,t,ht,_,_=>by cases ht
 |x::l,h,t,ht,j,hj=>by
  obtain⟨h1,h2⟩:=dF.1 (show cb (Option.rec (motive:=fun _=>Bool) true (fun j=>cb (Nat.beq j i) true (cb (has an i j) true (has an j i))) (wt.get x)) (shT wt an i l) false=true from h);rcases List.mem_cons.1 ht with rfl|ht
  ·rw[hj]at h1;have h1:cb (Nat.beq j i) true (cb (has an i j) true (has an j i))=true:=h1;rw[bN,bN]at h1;split at h1
   ·rename_i q;exact .inl (aM.1 q)
   ·split at h1
    ·rename_i q;exact .inr (.inl q)
    ·exact .inr (.inr h1)
  ·exact aJP h2 t ht j hj
theorem aJQ:∀{B:List (Nat × List Nat)} {j:Nat},inB B j=true→j∈B.map Prod.fst
 | [],_,h=>by cases h
 |p::B,j,h=>by
  have h:cb (Nat.beq p.1 j) true (inB B j)=true:=h;cases hb:Nat.beq p.1 j with
  |true=>rw[List.map_cons,←aM.1 hb];exact List.mem_cons_self
  |false=>
   rw[hb]at h;rw[List.map_cons];exact List.mem_cons_of_mem _ (aJQ h)
theorem aOx{an:T 3 Nat}{B:List (Nat × List Nat)}{i j:Nat}(h:aHM an B i j=true):has an i j=true∨(j∈B.map Prod.fst∧has an j i=true):=by
 have h:cb (has an i j) true (cb (inB B j) (has an j i) false)=true:=h;cases h1:has an i j with
 |true=>exact .inl rfl
 |false=>
  rw[h1]at h;obtain⟨h2,h3⟩:=dF.1 (show cb (inB B j) (has an j i) false=true from h);exact .inr ⟨aJQ h2,h3⟩
theorem aJR{wt an:T 3 Nat}{B:List (Nat × List Nat)}{i:Nat}:∀{l:List Tmp},shU wt an B i l=true→∀t∈l,∀j,wt.get t=some j→aHM an B i j=true
 | [],_,t,ht,_,_=>by cases ht
 |x::l,h,t,ht,j,hj=>by
  obtain⟨h1,h2⟩:=dF.1 (show cb (Option.rec (motive:=fun _=>Bool) true (aHM an B i) (wt.get x)) (shU wt an B i l) false=true from h);rcases List.mem_cons.1 ht with rfl|ht
  ·rw[hj]at h1;exact h1
  ·exact aJR h2 t ht j hj
theorem pI{wt an:T 3 Nat}:∀{l:List Oper} {k:Nat},shL ops wt an l k=true→∀j o,l[j]? =some o→shQ wt (k+j) o.dst=true∧shT wt an (k+j) (o.looksAt ops)=true
 | [],_,_,_,_,hj=>by simp at hj
 |x::l,k,h,j,o,hj=>by
  obtain⟨h1,h2⟩:=dF.1 (show cb (shQ wt k x.dst) (cb (shT wt an k (x.looksAt ops)) (shL ops wt an l (Nat.succ k)) false) false=true from h);obtain⟨h3,h4⟩:=dF.1 h2;cases j with
  |zero=>simp at hj;subst hj;exact⟨h1,h3⟩
  |succ j=>
   have:=pI h4 j o (by simpa using hj);rw[show k+(j+1)=Nat.succ k+j from by omega];exact this
theorem aQG{wt:T 3 Nat}{i d:Nat}(h:shQ wt i (some d)=true):wt.get d=some i:=by
 have h:Option.rec (motive:=fun _=>Bool) false (Nat.beq i) (wt.get d)=true:=h;cases hg:wt.get d with
 |none=>rw[hg]at h;cases h
 |some j=>rw[hg]at h;rw[aM.1 h]
theorem aJS{wt an:T 3 Nat}{B:List (Nat × List Nat)}:∀{l:List Nat},shV ops wt an B l=true→∀j∈l,∃o,ops[j]? =some o∧shU wt an B j (o.looksAt ops)=true
 | [],_,j,hj=>by cases hj
 |i::l,h,j,hj=>by
  obtain⟨h1,h2⟩:=dF.1 (show cb (Option.rec (motive:=fun _=>Bool) false (fun o=>shU wt an B i (o.looksAt ops)) (drp i ops.toList).head?) (shV ops wt an B l) false=true from h);rcases List.mem_cons.1 hj with rfl|hj
  ·cases hg:(drp j ops.toList).head? with
   |none=>rw[hg]at h1;cases h1
   |some o=>rw[hg]at h1;exact⟨o,by simpa using dW hg,h1⟩
  ·exact aJS h2 j hj
theorem aJT{wt an:T 3 Nat}{B:List (Nat × List Nat)}:∀{l:List (Nat × List Nat)},shW ops wt an B l=true→∀p∈l,shV ops wt an B p.2=true
 | [],_,p,hp=>by cases hp
 |q::l,h,p,hp=>by
  obtain⟨h1,h2⟩:=dF.1 (show cb (shV ops wt an B q.2) (shW ops wt an B l) false=true from h);rcases List.mem_cons.1 hp with rfl|hp
  ·exact h1
  ·exact aJT h2 p hp
structure Plan (F:Cf) (ops:Array Oper) (A:List Nat) (B:List (Nat × List Nat)):Prop where
 nd:(A++B.map Prod.fst).Nodup
 all:∀i,i<ops.size→i∈A++B.map Prod.fst
 a:∀l1 i l2,A=l1++i::l2→One F ops true l1 i 0
 b:∀l1 i rm l2,B=l1++(i,rm)::l2→One F ops false (A++l1.map Prod.fst) i (msN rm)
 wr:∀(i:Nat) (o:Oper) (t:Tmp) (j:Nat) (o':Oper),ops[i]? =some o→t∈o.looksAt ops→ops[j]? =some o'→o'.dst=some t→j=i∨Reach ops i j∨Reach ops j i
 un:∀(i j:Nat) (o o':Oper) (t:Tmp),ops[i]? =some o→ops[j]? =some o'→o.dst=some t→o'.dst=some t→i=j
 late:∀p∈B,∀j∈p.2,∃o,ops[j]? =some o∧∀t∈o.looksAt ops,∀(i:Nat) (o':Oper),ops[i]? =some o'→o'.dst=some t→Reach ops j i∨(i∈B.map Prod.fst∧Reach ops i j)
 ns:Region.noSelect ops=true
 rm:∀q∈B,∀j∈q.2,j∉B.map Prod.fst
theorem aSv{l:List (Nat × List Nat)}{j:Nat}:(fsN l).testBit j=true↔j∈l.map Prod.fst:=by
 induction l with
 |nil=>simp[fsN]
 |cons p l ih=>
  show (Nat.lor (bit p.1) (fsN l)).testBit j=true↔_;rw[vT,ih,pQ,List.map_cons,List.mem_cons,eq_comm]
theorem aJU{m:Nat}:∀{l:List (Nat × List Nat)},rmL m l=true→∀q∈l,∀j∈q.2,m.testBit j≠true
 | [],_,q,hq=>by cases hq
 |p::l,h,q,hq=>by
  obtain⟨h1,h2⟩:=dF.1 (show cb (Nat.beq (Nat.land (msN p.2) m) 0) (rmL m l) false=true from h);rcases List.mem_cons.1 hq with rfl|hq
  ·intro j hj hm;have h3:msN q.2 &&& m=0:=aM.1 h1;have h4:(msN q.2 &&& m).testBit j=true:=(by rw[Nat.testBit_and,aDH.2 hj,hm];rfl);rw[h3]at h4;simp at h4
  ·exact aJU h2 q hq
theorem aJV{A:List Nat}{B:List (Nat × List Nat)}(h:lG F ops (A,B)=true):Plan F ops A B:=by
 unfold lG at h;cases hs:ob (scA F ops.toList (A,B).1 ⟨0,.lf⟩) (scB F ops.toList (A,B).2) with
 |none=>rw[hs]at h;cases h
 |some s=>
  rw[hs]at h;obtain⟨h1,h2⟩:=dF.1 (show cb (Nat.beq (Nat.succ s.d) (bit (len ops.toList))) (cb (isS (wtL ops.toList 0 .lf) fun wt=>cb (shL ops wt s.an ops.toList 0) (shW ops wt s.an B B) false) (cb (rmL (fsN B) B) (Region.noSelect ops) false) false) false=true from h);obtain⟨h3,h40⟩:=dF.1 h2;obtain⟨h41,h4⟩:=dF.1 h40;obtain⟨s1,h5,h6⟩:=aA.1 hs;have h0:ScI ops ⟨0,.lf⟩ []:=⟨fun j=>by simp,fun i a j hk=>(by rw[T.get_lf]at hk;cases hk),List.nodup_nil⟩
  obtain⟨h7,h8⟩:=aJN h0 h5;obtain⟨h9,h10⟩:=aJO h7 h6;simp only[List.nil_append]at h8 h9 h10;cases hw:wtL ops.toList 0 .lf with
  |none=>rw[hw]at h3;cases h3
  |some wt=>
   rw[hw]at h3;obtain⟨h11,h12⟩:=dF.1 (show cb (shL ops wt s.an ops.toList 0) (shW ops wt s.an B B) false=true from h3);have hget:∀i o t,ops[i]? =some o→o.dst=some t→wt.get t=some i:=fun i o t ho hd=>by
      have:=(pI h11 i o (by simpa using ho)).1;rw[hd,Nat.zero_add]at this;exact aQG this
   refine⟨h9.nd,fun i hi=>(h9.d i).1 ?_,h8,h10,fun i o t j o' ho ht ho' hd=>?_,fun i j o o' t ho ho' hd hd'=>?_,fun p hp j hj=>?_,h4,fun q hq j hj hm=>aJU h41 q hq j hj (aSv.2 hm)⟩
   ·have h13:s.d+1=2^ops.size:=by
       have:=aM.1 h1;rw[show bit (len ops.toList)=2^(len ops.toList) from (by show 1<<<_=_;rw[Nat.one_shiftLeft]),aY]at this;simpa using this
    have h14:s.d=2^ops.size-1:=(by omega);rw[h14,Nat.testBit_two_pow_sub_one];simpa using hi
   ·have h13:=(pI h11 i o (by simpa using ho)).2;rw[Nat.zero_add]at h13;rcases aJP h13 t ht j (hget j o' t ho' hd) with q|q|q
    ·exact .inl q
    ·exact .inr (.inl (aDI h9 q))
    ·exact .inr (.inr (aDI h9 q))
   ·have:=(hget i o t ho hd).symm.trans (hget j o' t ho' hd');injection this
   ·obtain⟨o,k1,k2⟩:=aJS (aJT h12 p hp) j hj;exact⟨o,k1,fun t ht i o' ho' hd=>(aOx (aJR k2 t ht i (hget i o' t ho' hd))).imp (fun q=>aDI h9 q) fun q=>⟨q.1,aDI h9 q.2⟩⟩
end
end Go.Proofs.YtpobejcofijjdaaGreatDoor.E
namespace Go.Proofs.YtpobejcofijjdaaGreatDoor.E
open Go Go.RowKit
open Ma Me K
def Low(h hq:H):Prop:=∀id,id<h.n→(∀b,hq.h.get id=some b→h.h.get id=some b)∧∀p,hq.l.get id=some p→h.l.get id=some p
theorem Low.refl(h:H):Low h h:=fun _ _=>⟨fun _ k=>k,fun _ k=>k⟩
theorem Low.trans{a b c:H}(h:Low a b)(hn:a.n≤b.n)(k:Low b c):Low a c:=fun id hi=>⟨fun x q=>(h id hi).1 x ((k id (Nat.lt_of_lt_of_le hi hn)).1 x q),fun x q=>(h id hi).2 x ((k id (Nat.lt_of_lt_of_le hi hn)).2 x q)⟩
def stages(tr:List Tp)(h1:H):List H:=tr.map Tp.h++[h1]
section
variable {F:Cf} {nt:Nat} {call:dD} {ops:Array Oper} {e e1:Env} {h h1:H} {tr l1 l2:List Tp} {p:Tp}
theorem Trace.split{S:Tp→Prop}:∀{l1:List Tp} {e:Env} {h:H},Trace S e h (l1++p::l2) e1 h1→Trace S e h l1 p.e p.h∧S p∧Trace S p.e' p.h' l2 e1 h1
 | [],e,h,ht=>by
   cases ht with
   |cons hp ht=>exact⟨.nil _ _,hp,ht⟩
 |q::l1,e,h,ht=>by
  cases ht with
  |cons hp ht=>
   obtain⟨k1,k2,k3⟩:=Trace.split ht;exact⟨.cons hp k1,k2,k3⟩
theorem aH0(hc:fE call)(hp:St1 F nt call ops.toList H.lift p):p.h.n≤p.h'.n∧Low p.h p.h'∧p.h'.bar=p.h.n:=by
 cases hb:p.b with
 |true=>
  have k:=aBP hc (Nat.le_refl _) (hp.y hb);exact⟨k.n,fun id hi=>⟨fun b q=>k.b id b hi q,fun b q=>k.lo id b hi q⟩,k.bar⟩
 |false=>
  obtain⟨-,k⟩:=hp.n hb;rw[k];exact⟨Nat.le_refl _,fun _ _=>⟨fun _ q=>q,fun _ q=>q⟩,rfl⟩
theorem later(hc:fE call)(ht:Trace (St1 F nt call ops.toList H.lift) e h tr e1 h1):∀hq∈stages tr h1,h.n≤hq.n∧Low h hq:=by
 induction ht with
 |nil e h=>
  intro hq hm;simp[stages]at hm;subst hm;exact⟨Nat.le_refl _,Low.refl _⟩
 | @cons p l e2 h2 hp ht ih=>
   intro hq hm;obtain⟨k1,k2,-⟩:=aH0 hc hp;rcases List.mem_cons.1 (show hq∈p.h::stages l h2 from hm) with rfl|hm
   ·exact⟨Nat.le_refl _,Low.refl _⟩
   ·obtain⟨k3,k4⟩:=ih hq hm;exact⟨Nat.le_trans k1 k3,k2.trans k1 k4⟩
theorem iL(hp:p∈tr):p.h∈stages tr h1:=List.mem_append_left _ (List.mem_map_of_mem hp)
theorem eU:h1∈stages tr h1:=List.mem_append_right _ List.mem_cons_self
theorem sides(hc:fE call)(ht:Trace (St1 F nt call ops.toList H.lift) e h tr e1 h1):∀p∈tr,∀hq∈stages tr h1,hq.n≤p.h.n∨(p.h'.n≤hq.n∧Low p.h' hq):=by
 induction ht with
 |nil e h=>intro p hp;cases hp
 | @cons p0 l e2 h2 hp ht ih=>
   intro p hpm hq hm;obtain⟨k1,k2,-⟩:=aH0 hc hp;have hl:=later hc ht;rcases List.mem_cons.1 (show hq∈p0.h::stages l h2 from hm) with rfl|hm2
   ·rcases List.mem_cons.1 hpm with rfl|hpm
    ·exact .inl (Nat.le_refl _)
    ·exact .inl (Nat.le_trans k1 (hl _ (iL hpm)).1)
   ·rcases List.mem_cons.1 hpm with rfl|hpm
    ·exact .inr (hl hq hm2)
    ·exact ih p hpm hq hm2
structure JAg (F:Cf) (nt:Nat) (ops:Array Oper) (c0:Cx) (wb:World) (a0:Act) (e0:Env) (h0:H) (tr:List Tp) (h1:H) (b0:Nat) (B:List Nat) (g:Cx) (L:Nat→Bool) (a:Act) (w:World):Prop where
 w:g.w=w
 z:∀t,g.z t=F.P.cellsOf t
 st:∀hq∈stages tr h1,Rl (g.lo hq.n) wb (hq.back b0)
 kn:∀id,g.k id→id<h0.n∨∃p∈tr,L p.i=true∧p.h.n≤id∧id<p.h'.n
 x:Xs c0 g
 p:Ps c0.w g.w
 o:∀id,g.k id→c0.k id∨h0.n≤id
 v:∀p∈tr,L p.i=true→∀d,p.o.dst=some d→∃u,a.tmps[d]? =some u∧VR (g.lo p.h'.n) p.v u
 b:∀t v,e0.get t=some v→(∀p∈tr,p.o.dst=some t→L p.i=false)→∃u,a.tmps[t]? =some u∧VR (g.lo h0.n) v u
 sz:a.tmps.size=nt
 df:a.defers=a0.defers
 cl:∀i o e,ops[i]? =some o→L i=true→e∈o.after→Region.binds .any e=true→L e.on=true
 nb:∀i∈B,L i=false
theorem aAr{g:Cx}{m m':Nat}(h:m≤m'):Xs (g.lo m) (g.lo m'):=⟨fun _ q=>⟨q.1,Nat.lt_of_lt_of_le q.2 h⟩,fun _ _=>rfl,fun _ _ k=>k,fun _ _ k=>k,fun _ _ cs _ k=>⟨cs,k,rfl⟩,rfl⟩
theorem aDf{o:Oper}{x:Operand}{t:Tmp}(hx:x∈o.op.operands)(ht:x=.tmp t):t∈o.looksAt ops:=by
 subst ht;exact List.mem_append_left _ (List.mem_filterMap.2 ⟨.tmp t,by simpa using hx,rfl⟩)
theorem Reach.first{i j:Nat}(h:Reach ops i j):∃o e,ops[i]? =some o∧e∈o.after∧Region.binds .any e=true∧(e.on=j∨Reach ops e.on j):=by
 cases h with
 |one ho he hb=>exact⟨_,_,ho,he,hb,.inl rfl⟩
 |more ho he hb hr=>exact⟨_,_,ho,he,hb,.inr hr⟩
def look(ops:Array Oper)(o:Oper):Nat→Bool:=fun t=>decide (t∈o.looksAt ops)
theorem aBU{o:Oper}{x:Operand}(hx:x∈o.op.operands):ev e x=ev (e.flt (look ops o)) x:=by
 cases x with
 |tmp t=>
  show e.get t=(e.flt (look ops o)).get t;rw[T.get_flt,if_pos (by simpa [look] using aDf (ops:=ops) hx rfl)]
 |_=>rfl
theorem wX{o:Oper}:wanted ops.toList e o.guard=wanted ops.toList (e.flt (look ops o)) o.guard:=by
 cases hg:o.guard with
 |none=>rfl
 |some p=>
  obtain⟨j,w⟩:=p;show (ob (drp j ops.toList).head? fun o=>ob o.dst fun d=>isB (e.get d) w)=ob (drp j ops.toList).head? fun o2=>ob o2.dst fun d=>isB ((e.flt (look ops o)).get d) w;cases h1:(drp j ops.toList).head? with
  |none=>rfl
  |some o2=>
   show (ob o2.dst fun d=>isB (e.get d) w)=ob o2.dst fun d=>isB ((e.flt (look ops o)).get d) w;cases h2:o2.dst with
   |none=>rfl
   |some d=>
    have h3:ops[j]? =some o2:=(by simpa using dW h1);have h4:d∈o.looksAt ops:=(by simp[Oper.looksAt,hg,h3,h2]);show isB (e.get d) w=isB ((e.flt (look ops o)).get d) w;rw[T.get_flt,if_pos (by simpa [look] using h4)]
theorem JAg.looks{c0 g:Cx}{wb:World}{a0 a:Act}{w:World}{e0:Env}{h0:H}{b0:Nat}{B:List (Nat × List Nat)}{L:Nat→Bool}(hc:fE call)(ht:Trace (St1 F nt call ops.toList H.lift) e0 h0 (l1++p::l2) e1 h1)
  (hP:Plan F ops ((l1++p::l2).map Tp.i) B) (hJ:JAg F nt ops c0 wb a0 e0 h0 (l1++p::l2) h1 b0 (B.map Prod.fst) g L a w) (hi:L p.i=false) (hdep:∀e∈p.o.after,Region.binds .any e=true→L e.on=true):Tr (g.lo p.h.n) nt (p.e.flt (look ops p.o)) a.tmps:=by
 refine⟨hJ.sz,fun t v hv=>?_⟩;rw[T.get_flt]at hv;split at hv
 ·rename_i hlk;have hlk:t∈p.o.looksAt ops:=(by simpa [look] using hlk);obtain⟨t1,hp,t2⟩:=ht.split;have ho:ops[p.i]? =some p.o:=(by simpa using dW hp.o);have hmem:p∈l1++p::l2:=List.mem_append_right _ List.mem_cons_self
  --what the operation reaches is done
  have hreach:∀j,Reach ops p.i j→L j=true:=fun j hr=>by
   cases hr with
   |one ho2 he hb=>rw[ho]at ho2;injection ho2 with ho2;subst ho2;exact hdep _ he hb
   |more ho2 he hb hr=>rw[ho]at ho2;injection ho2 with ho2;subst ho2;exact hr.closed (S:=fun i=>L i=true) hJ.cl (hdep _ he hb)
  have hback:∀j,Reach ops j p.i→L j=false:=fun j hr=>by
   cases hL:L j with
   |false=>rfl
   |true=>
    have:=hr.closed (S:=fun i=>L i=true) hJ.cl hL;rw[hi]at this;cases this
  have hop:∀q∈l1++p::l2,ops[q.i]? =some q.o:=fun q hq=>by
   obtain⟨s1,s2,he⟩:=List.append_of_mem hq;rw[he]at ht;simpa using dW ht.split.2.1.o
  rcases t1.get (fun q hq=>hq.e) hv with⟨q,hq,hd,rfl⟩|⟨hno,hv⟩
  ·have hqm:q∈l1++p::l2:=List.mem_append_left _ hq;have hdone:L q.i=true:=by
    rcases hP.wr p.i p.o t q.i q.o ho hlk (hop q hqm) hd with k|k|k
    ·have hnd:=hP.nd;rw[List.map_append,List.map_cons]at hnd;have:=(List.nodup_append.1 (List.nodup_append.1 hnd).1).2.2 q.i (List.mem_map_of_mem hq) p.i List.mem_cons_self;exact absurd k this
    ·exact hreach _ k
    ·exfalso
     --q stands ahead of p in the order
     obtain⟨s1,s2,he⟩:=List.append_of_mem hq;have hone:∀s1 q s2,(l1++p::l2).map Tp.i=s1++q::s2→∀o e,ops[q]? =some o→e∈o.after→Region.binds .any e=true→e.on∈s1:=fun s1 q s2 hs o e ho2 he hb=>by
      obtain⟨o',k1,k2,-⟩:=(hP.a s1 q s2 hs).o;rw[ho2]at k1;injection k1 with k1;subst k1;exact k2 e he hb
     have hS:∀i o e,ops[i]? =some o→i∈l1.map Tp.i→e∈o.after→Region.binds .any e=true→e.on∈l1.map Tp.i:=fun i o e ho2 him he2 hb=>by
      obtain⟨x1,x2,hx⟩:=List.append_of_mem him;have:=hone x1 i (x2++p.i::l2.map Tp.i) (by rw[List.map_append,List.map_cons,hx];simp) o e ho2 he2 hb;rw[hx];exact List.mem_append_left _ this
     have h2:=k.closed (S:=fun i=>i∈l1.map Tp.i) hS (List.mem_map_of_mem hq);have hnd:=hP.nd;rw[List.map_append,List.map_cons]at hnd;exact (List.nodup_append.1 (List.nodup_append.1 hnd).1).2.2 p.i h2 p.i List.mem_cons_self rfl
   obtain⟨u,k1,k2⟩:=hJ.v q hqm hdone t hd;refine⟨u,k1,k2.xs (aAr ?_)⟩;obtain⟨s1,s2,he⟩:=List.append_of_mem hq;rw[he]at t1;exact (later hc t1.split.2.2 p.h eU).1
  ·obtain⟨u,k1,k2⟩:=hJ.b t v hv (fun q hq hd=>by
    rcases hP.wr p.i p.o t q.i q.o ho hlk (hop q hq) hd with k|k|k
    ·rw[k];exact hi
    ·exfalso
     --what p waits for stands ahead of it
     have h2:q.i∈l1.map Tp.i:=by
      have hone:∀s1 i s2,(l1++p::l2).map Tp.i=s1++i::s2→∀o e,ops[i]? =some o→e∈o.after→Region.binds .any e=true→e.on∈s1:=fun s1 i s2 hs o e ho2 he hb=>by
       obtain⟨o',k1,k2,-⟩:=(hP.a s1 i s2 hs).o;rw[ho2]at k1;injection k1 with k1;subst k1;exact k2 e he hb
      have hS:∀i o e,ops[i]? =some o→i∈l1.map Tp.i→e∈o.after→Region.binds .any e=true→e.on∈l1.map Tp.i:=fun i o e ho2 him he2 hb=>by
       obtain⟨x1,x2,hx⟩:=List.append_of_mem him;have:=hone x1 i (x2++p.i::l2.map Tp.i) (by rw[List.map_append,List.map_cons,hx];simp) o e ho2 he2 hb;rw[hx];exact List.mem_append_left _ this
      have hp1:=hone (l1.map Tp.i) p.i (l2.map Tp.i) (by simp);obtain⟨o2,e2,ho2,he,hb,hr⟩:=k.first;rcases hr with hr|hr
      ·rw[←hr];exact hp1 _ _ ho2 he hb
      ·exact hr.closed (S:=fun i=>i∈l1.map Tp.i) hS (hp1 _ _ ho2 he hb)
     obtain⟨q2,hq2,hqi⟩:=List.mem_map.1 h2;have:q2.o=q.o:=by
      have m1:=hop q2 (List.mem_append_left _ hq2);have m2:=hop q hq;rw[hqi,m2]at m1;injection m1 with m1;exact m1.symm
     exact hno q2 hq2 (by rw[this];exact hd)
    ·exact hback _ k)
   exact⟨u,k1,k2.xs (aAr (later hc t1 p.h eU).1)⟩
 ·cases hv
end
end Go.Proofs.YtpobejcofijjdaaGreatDoor.E
namespace Go.Proofs.YtpobejcofijjdaaGreatDoor.E
open Go Go.RowKit
open Ma Me K
section
variable {F:Cf} {nt:Nat} {call:dD} {ops:Array Oper} {e0 e1:Env} {h0 h1:H} {l1 l2:List Tp} {p:Tp} {c0 g d:Cx} {wb:World} {a0 a:Act} {b0:Nat} {B:List (Nat × List Nat)} {L:Nat→Bool} {w:World}
theorem aEH{u:Value}{t:Tmp}{x:Nat}(h:x<a.tmps.size)(ht:t=x):(a.put (some x) u).tmps[t]? =some u:=by
 subst ht;simp[Act.put,h]
theorem aBV{u:Value}{t:Tmp}{d0:Option Tmp}(h:d0≠some t):(a.put d0 u).tmps[t]? =a.tmps[t]? :=by
 cases d0 with
 |none=>rfl
 |some k=>
  simp only[Act.put,Array.getElem?_setIfInBounds];rw[if_neg (fun e=>h (by rw[e]))]
theorem aAs{i j:Nat}(h:Ja.upd L i true j=true):j=i∨L j=true:=by
 unfold Ja.upd at h;split at h
 ·rename_i q;exact .inl q
 ·exact .inr h
theorem qH{i j:Nat}(h:L j=true):Ja.upd L i true j=true:=by
 unfold Ja.upd;split
 ·rfl
 ·exact h
theorem aNa{i:Nat}:Ja.upd L i true i=true:=by unfold Ja.upd;rw[if_pos rfl]
theorem wY{i j:Nat}(h:Ja.upd L i true j=false):j≠i∧L j=false:=by
 unfold Ja.upd at h;split at h
 ·cases h
 ·rename_i q;exact⟨q,h⟩
theorem JAg.next{u:Value}(hc:fE call)(ht:Trace (St1 F nt call ops.toList H.lift) e0 h0 (l1++p::l2) e1 h1)(hP:Plan F ops ((l1++p::l2).map Tp.i) B)(hJ:JAg F nt ops c0 wb a0 e0 h0 (l1++p::l2) h1 b0 (B.map Prod.fst) g L a w)(hi:L p.i=false)(hdep:∀e∈p.o.after,Region.binds .any e=true→L e.on=true)
  (X:Xt (g.lo p.h.n) d) (R:Rl d g.w p.h') (V:VR d p.v u):JAg F nt ops c0 wb a0 e0 h0 (l1++p::l2) h1 b0 (B.map Prod.fst) (g.mg d p.h.n p.h'.n) (Ja.upd L p.i true) (a.put p.o.dst u) d.w:=by
 obtain⟨t1,hp,t2⟩:=ht.split;have ho:ops[p.i]? =some p.o:=by simpa using dW hp.o
 have hmem:p∈l1++p::l2:=List.mem_append_right _ List.mem_cons_self;obtain⟨hn,-,hbar⟩:=aH0 hc hp;have hnd:=hP.nd;have hnd2:=(List.nodup_append.1 hnd).1;rw[List.map_append,List.map_cons]at hnd2;have hone:∀q∈l1++p::l2,q.i=p.i→q=p:=fun q hq hqi=>by
  rcases List.mem_append.1 hq with hq|hq
  ·exact absurd hqi ((List.nodup_append.1 hnd2).2.2 q.i (List.mem_map_of_mem hq) p.i List.mem_cons_self)
  ·rcases List.mem_cons.1 hq with rfl|hq
   ·rfl
   ·exact absurd (by rw[←hqi];exact List.mem_map_of_mem hq) (List.nodup_cons.1 (List.nodup_append.1 hnd2).2.1).1
 have hop:∀q∈l1++p::l2,ops[q.i]? =some q.o:=fun q hq=>by
  obtain⟨s1,s2,he⟩:=List.append_of_mem hq;rw[he]at ht;simpa using dW ht.split.2.1.o
 have hlow:h0.n≤p.h.n:=(later hc ht _ (iL hmem)).1;have hf:∀id,g.k id→p.h.n≤id→p.h'.n≤id:=fun id hk hge=>by
  rcases hJ.kn id hk with q|⟨q,hq,hL,q1,q2⟩
  ·omega
  ·rcases sides hc ht p hmem q.h (iL hq) with k|k
   ·--q stands ahead of p,or is p
    rcases List.mem_append.1 hq with hq|hq
    ·obtain⟨s1,s2,he⟩:=List.append_of_mem hq;rw[he]at t1;have:=(later hc t1.split.2.2 p.h eU).1;omega
    ·rcases List.mem_cons.1 hq with rfl|hq
     ·rw[hi]at hL;cases hL
     ·obtain⟨s1,s2,he⟩:=List.append_of_mem hq;rw[he]at t2;have h5:=(later hc t2 q.h (iL (List.mem_append_right _ List.mem_cons_self))).1;omega
   ·omega
 have hlt:∀id,d.k id→id<p.h'.n:=fun id q=>by have:=R.k id q;rw[R.n]at this;exact this
 refine⟨rfl,hJ.z,fun hq hm=>?_,fun id hk=>?_,?_,hJ.p.trans X.p,fun id hk=>?_,fun q hq hL x hd=>?_,fun t v hv hno=>?_,?_,?_,fun i o e hio hL he hb=>?_,fun i hiB=>?_⟩
 ·refine Rl.merge X R rfl hbar hf (hJ.st hq hm) ?_;rcases sides hc ht p hmem hq hm with k|⟨k1,k2⟩
  ·exact .inl k
  ·exact .inr ⟨k1,fun id b hlt=>(k2 id hlt).1 b,fun id b hlt=>(k2 id hlt).2 b⟩
 ·rcases hk with hk|⟨hk,hge⟩
  ·rcases hJ.kn id hk with q|⟨q,hq,hL,q1,q2⟩
   ·exact .inl q
   ·exact .inr ⟨q,hq,qH hL,q1,q2⟩
  ·exact .inr ⟨p,hmem,aNa,hge,hlt id hk⟩
 ·exact⟨fun id hk=>.inl (hJ.x.k id hk),fun id hk=>(yX hf (hJ.x.k id hk)).trans (hJ.x.r id hk),fun v N q=>X.p.m v N (hJ.x.m v N q),fun v N q=>X.p.mr v N (hJ.x.mr v N q),fun gg t cs fr q=>by
   obtain⟨cs1,k1,k2⟩:=hJ.x.s gg t cs fr q;obtain⟨cs2,k3,k4⟩:=X.p.s gg t cs1 fr k1;exact⟨cs2,k3,k4.trans k2⟩,hJ.x.z⟩
 ·rcases hk with hk|⟨hk,hge⟩
  ·exact hJ.o id hk
  ·exact .inr (Nat.le_trans hlow hge)
 ·by_cases hqi:q.i=p.i
  ·have:=hone q hq hqi;subst this;have hlt2:x<a.tmps.size:=by
    have h6:=hp.e;rw[hd]at h6;rw[hJ.sz];exact h6.1
   rw[hd];exact⟨u,aEH hlt2 rfl,V.xs (aHY X R rfl hf (Nat.le_refl _))⟩
  ·have hL2:L q.i=true:=(aAs hL).resolve_left hqi;obtain⟨u2,k1,k2⟩:=hJ.v q hq hL2 x hd;refine⟨u2,?_,k2.xs (aHX X hf)⟩;rw[aBV (fun hd2=>hqi (hP.un q.i p.i q.o p.o x (hop q hq) ho hd hd2))];exact k1
 ·obtain⟨u2,k1,k2⟩:=hJ.b t v hv (fun q hq hd=>(wY (hno q hq hd)).2);refine⟨u2,?_,k2.xs (aHX X hf)⟩;rw[aBV (fun hd2=>(wY (hno p hmem hd2)).1 rfl)];exact k1
 ·cases p.o.dst with
  |none=>exact hJ.sz
  |some x=>simpa [Act.put] using hJ.sz
 ·cases p.o.dst<;>exact hJ.df
 ·rcases aAs hL with rfl|hL
  ·rw[ho]at hio;injection hio with hio;subst hio;exact qH (hdep e he hb)
  ·exact qH (hJ.cl i o e hio hL he hb)
 ·have hne:i≠p.i:=fun e=>(List.nodup_append.1 hnd).2.2 p.i (List.mem_map_of_mem hmem) i hiB e.symm;unfold Ja.upd;rw[if_neg hne];exact hJ.nb i hiB
theorem JAg.step(hF:FOk F)(htb:F.tb wb)(hc:fE call)(hopk:∀(j:Nat) (o:Oper) (e:Env) (h:H) (v:AV) (h':H),ops[j]? =some o→op1 F call o.op e h=some (v,h')→rT F nt ops j o e h v h')(ht:Trace (St1 F nt call ops.toList H.lift) e0 h0 (l1++p::l2) e1 h1)(hP:Plan F ops ((l1++p::l2).map Tp.i) B)(hJ:JAg F nt ops c0 wb a0 e0 h0 (l1++p::l2) h1 b0 (B.map Prod.fst) g L a w)(hi:L p.i=false)(hdep:∀e∈p.o.after,Region.binds .any e=true→L e.on=true)(b:Frame)(rest:List Nat)(k:List Item)(cs:List Frame):
  ∃a' w' g',JAg F nt ops c0 wb a0 e0 h0 (l1++p::l2) h1 b0 (B.map Prod.fst) g' (Ja.upd L p.i true) a' w'∧Steps F.P (lone (b.atR a (.inRegion ops (p.i::rest)::k)) cs w) (lone (b.atR a' (.inRegion ops rest::k)) cs w'):=by
 have hT:=hJ.looks hc ht hP hi hdep;obtain⟨t1,hp,t2⟩:=ht.split;have ho:ops[p.i]? =some p.o:=by simpa using dW hp.o
 have hmem:p∈l1++p::l2:=List.mem_append_right _ List.mem_cons_self;have hR:=hJ.st p.h (iL hmem);have hw:=hJ.w;subst hw;have hRl:Rl (g.lo p.h.n) g.w p.h.lift:=hR.lift;have f:Fr F (g.lo p.h.n) g.w nt p.h.lift (p.e.flt (look ops p.o)) a:=⟨hRl,hJ.z,hT,hF.tq _ _ hR.q htb⟩
 have hwant:wanted ops.toList (p.e.flt (look ops p.o)) p.o.guard=some p.b:=by rw[←wX];exact hp.w
 have hW:=pO hwant hT;cases hb:p.b with
 |true=>
  have hx:op1 F call p.o.op (p.e.flt (look ops p.o)) p.h.lift=some (p.v,p.h'):=by
    rw[←rO (e:=p.e) (fun x hx=>aBU hx)];exact hp.y hb
  obtain⟨u,d,X,R,V,S⟩:=hopk p.i p.o _ _ _ _ ho hx (g.lo p.h.n) g.w a f (hW.trans hb) b rest k cs;exact⟨_,_,_,hJ.next hc ht hP hi hdep X R V,S⟩
 |false=>
  obtain⟨hv,hh⟩:=hp.n hb;have S:=stepR_op_skip (P:=F.P) (b:=b) (a:=a) (k:=k) (cs:=cs) (w:=g.w) (ops:=ops) (i:=p.i) (rest:=rest) (by simp[ho,hW.trans hb]);simp only[ho,Option.bind_some]at S;have V:VR (g.lo p.h.n) p.v undef:=(by rw[hv];exact wV);have R:Rl (g.lo p.h.n) g.w p.h':=(by rw[hh];exact hRl);exact⟨_,_,_,hJ.next hc ht hP hi hdep (Xt.refl _) R V,.one S⟩
end
end Go.Proofs.YtpobejcofijjdaaGreatDoor.E
namespace Go.Proofs.YtpobejcofijjdaaGreatDoor.E
open Go Go.RowKit
open Ma Me K
structure Wf (h:H):Prop where
 b:∀id b,h.h.get id=some b→id<h.n
 l:∀id b,h.l.get id=some b→id<h.n
section
variable {F:Cf} {nt:Nat} {call:dD} {ops:Array Oper} {e0 e1:Env} {h h0 h1 hq:H} {tr:List Tp} {p:Tp} {c c0 g d:Cx} {wb:World} {a0 a:Act} {b0:Nat} {B:List (Nat × List Nat)} {L:Nat→Bool} {w:World}
theorem aSw(hc:fE call)(hp:St1 F nt call ops.toList H.lift p)(hw:Wf p.h):Wf p.h':=by
 cases hb:p.b with
 |true=>
  have k:=aBP hc (Nat.le_refl _) (hp.y hb);exact⟨k.wb hw.b,k.wl hw.l⟩
 |false=>
  obtain⟨-,k⟩:=hp.n hb;rw[k];exact⟨hw.b,hw.l⟩
theorem aL0(hc:fE call)(ht:Trace (St1 F nt call ops.toList H.lift) e0 h0 tr e1 h1):Wf h0→∀hq∈stages tr h1,Wf hq:=by
 induction ht with
 |nil e h=>
  intro hw hq hm;simp[stages]at hm;subst hm;exact hw
 | @cons p l e2 h2 hp ht ih=>
   intro hw hq hm;rcases List.mem_cons.1 (show hq∈p.h::stages l h2 from hm) with rfl|hm2
   ·exact hw
   ·exact ih (aSw hc hp hw) hq hm2
theorem Rl.wf(hr:Rl c wb h):Wf h:=⟨fun id b k=>(hr.blk id b k).1,fun id b k=>(hr.lp id b k).1⟩
theorem Rl.up(hr:Rl c wb h)(hn:h.n≤hq.n)(hl:Low h hq)(hw:Wf hq):Rl (c.lo hq.n) wb (hq.back h.bar):=by
 have lt:∀id,c.k id→id<h.n:=fun id k=>by have:=hr.k id k;rw[hr.n]at this;exact this
 have X:Xs c (c.lo hq.n):=⟨fun id k=>⟨k,Nat.lt_of_lt_of_le (lt id k) hn⟩,fun _ _=>rfl,fun _ _ k=>k,fun _ _ k=>k,fun _ _ cs _ k=>⟨cs,k,rfl⟩,rfl⟩
 exact⟨rfl,fun id q=>q.2,hr.q,fun id b hg=>⟨hw.b id b hg,fun q=>((hr.blk id b ((hl id (lt id q.1.1)).1 b hg)).2 ⟨q.1.1,q.2⟩).xs X rfl⟩,
  fun i j b b2 hi hj qi qj hij=>hr.inj i j b b2 ((hl i (lt i qi.1.1)).1 b hi) ((hl j (lt j qj.1.1)).1 b2 hj) ⟨qi.1.1,qi.2⟩ ⟨qj.1.1,qj.2⟩ hij,
  fun id b hg q hb=>hr.new id b ((hl id (lt id q.1.1)).1 b hg) ⟨q.1.1,q.2⟩ hb,
  fun l p hg=>⟨hw.l l p hg,fun q=>⟨((hr.lp l p ((hl l (lt l q.1)).2 p hg)).2 q.1).1.xs X rfl,((hr.lp l p ((hl l (lt l q.1)).2 p hg)).2 q.1).2⟩⟩,
  fun i j p p2 hi hj qi qj hij=>hr.li i j p p2 ((hl i (lt i qi.1)).2 p hi) ((hl j (lt j qj.1)).2 p2 hj) qi.1 qj.1 hij⟩
theorem JAg.start(hc:fE call)(ht:Trace (St1 F nt call ops.toList H.lift) e0 h0 tr e1 h1)(f:Fr F c0 wb nt h0 e0 a0){Bs:List Nat}:JAg F nt ops c0 wb a0 e0 h0 tr h1 h0.bar Bs c0 (fun _=>false) a0 c0.w:=by
 have lt:∀id,c0.k id→id<h0.n:=fun id k=>by have:=f.r.k id k;rw[f.r.n]at this;exact this
 refine⟨rfl,f.z,fun hq hm=>?_,fun id k=>.inl (lt id k),(Xt.refl c0).xs,Ps.refl _,fun id k=>.inl k,fun p hp hL=>(by cases hL),fun t v hv _=>?_,f.t.1,rfl,fun i o e _ hL=>(by cases hL),fun _ _=>rfl⟩
 ·obtain⟨k1,k2⟩:=later hc ht hq hm;exact f.r.up k1 k2 (aL0 hc ht f.r.wf hq hm)
 ·obtain⟨u,k1,k2⟩:=f.t.2 t v hv;exact⟨u,k1,k2.xs (show Xs c0 (c0.lo h0.n) from⟨fun id k=>⟨k,lt id k⟩,fun _ _=>rfl,fun _ _ k=>k,fun _ _ k=>k,fun _ _ cs _ k=>⟨cs,k,rfl⟩,rfl⟩)⟩
theorem JAg.finish{Bs:List Nat}(hc:fE call)(ht:Trace (St1 F nt call ops.toList H.lift) e0 h0 tr e1 h1)(f:Fr F c0 wb nt h0 e0 a0)(hJ:JAg F nt ops c0 wb a0 e0 h0 tr h1 b0 Bs g L a w)(hall:∀p∈tr,L p.i=true):
  Fr F (g.lo h1.n) wb nt (h1.back b0) e1 a∧Xt c0 (g.lo h1.n)∧g.w=w:=by
 have hn:=(later hc ht h1 eU).1;have lt:∀id,c0.k id→id<h0.n:=fun id k=>by have:=f.r.k id k;rw[f.r.n]at this;exact this
 refine⟨⟨hJ.st h1 eU,hJ.z,⟨hJ.sz,fun t v hv=>?_⟩,f.b⟩,⟨by rw[f.r.n];exact hn,fun id k=>⟨hJ.x.k id k,Nat.lt_of_lt_of_le (lt id k) hn⟩,fun id k=>by rw[f.r.n];exact hJ.o id k.1,hJ.x.r,hJ.p,hJ.x.z⟩,hJ.w⟩;rcases ht.get (fun q hq=>hq.e) hv with⟨q,hq,hd,rfl⟩|⟨hno,hv⟩
 ·obtain⟨u,k1,k2⟩:=hJ.v q hq (hall q hq) t hd;refine⟨u,k1,k2.xs (aAr ?_)⟩;obtain⟨s1,s2,he⟩:=List.append_of_mem hq;rw[he]at ht;exact (later hc ht.split.2.2 h1 eU).1
 ·obtain⟨u,k1,k2⟩:=hJ.b t v hv (fun q hq hd=>absurd hd (hno q hq));exact⟨u,k1,k2.xs (aAr hn)⟩
theorem aA4{L:Nat→Bool}:∀{O:List Nat},(∃j∈O,L j=false)→∃s1 i s2,O=s1++i::s2∧L i=false∧∀j∈s1,L j=true
 | [],h=>by obtain⟨j,hj,-⟩:=h;cases hj
 |x::O,h=>by
  cases hx:L x with
  |false=>exact⟨[],x,O,rfl,hx,fun j hj=>(by cases hj)⟩
  |true=>
   obtain⟨s1,i,s2,k1,k2,k3⟩:=aA4 (O:=O) (by
      obtain⟨j,hj,hL⟩:=h;rcases List.mem_cons.1 hj with rfl|hj
      ·rw[hx]at hL;cases hL
      ·exact⟨j,hj,hL⟩)
   refine⟨x::s1,i,s2,by rw[k1];rfl,k2,fun j hj=>?_⟩;rcases List.mem_cons.1 hj with rfl|hj
   ·exact hx
   ·exact k3 j hj
theorem Plan.ready{A:List Nat}(hP:Plan F ops A B){L:Nat→Bool}(h:∃j,j<ops.size∧L j=false):∃i o,ops[i]? =some o∧L i=false∧∀e∈o.after,Region.binds .any e=true→L e.on=true:=by
 obtain⟨j,hj,hL⟩:=h;obtain⟨s1,i,s2,he,hi,hs⟩:=aA4 ⟨j,hP.all j hj,hL⟩;have key:∃o,ops[i]? =some o∧∀e∈o.after,Region.binds .any e=true→e.on∈s1:=by
  rcases List.append_eq_append_iff.1 he with⟨x,k1,k2⟩|⟨x,k1,k2⟩
  ·--A is a beginning of s1
   obtain⟨y,z,k3,k4,k5⟩:=List.map_eq_append_iff.1 k2;obtain⟨q,z',k6,k7,k8⟩:=List.map_eq_cons_iff.1 k5;subst k6;obtain⟨o,m1,m2,-⟩:=(hP.b y q.1 q.2 z' k3).o;rw[k7]at m1;rw[k4,←k1]at m2;exact⟨o,m1,m2⟩
  ·cases x with
   |nil=>
    rw[List.append_nil]at k1;obtain⟨q,z',k6,k7,k8⟩:=List.map_eq_cons_iff.1 (show B.map Prod.fst=i::s2 from by simpa using k2.symm);obtain⟨o,m1,m2,-⟩:=(hP.b [] q.1 q.2 z' k6).o;rw[k7]at m1;simp only[List.map_nil,List.append_nil,k1]at m2;exact⟨o,m1,m2⟩
   |cons y x=>
    injection k2 with k2 k3;subst k2;obtain⟨o,m1,m2,-⟩:=(hP.a s1 i x k1).o;exact⟨o,m1,m2⟩
 obtain⟨o,k1,k2⟩:=key;exact⟨i,o,k1,hi,fun e he hb=>hs _ (k2 e he hb)⟩
end
end Go.Proofs.YtpobejcofijjdaaGreatDoor.E
namespace Go.Proofs.YtpobejcofijjdaaGreatDoor.E
open Go Go.RowKit
open Ma Me K
section
variable {F:Cf} {nt:Nat} {call:dD} {ops:Array Oper} {e0 e1 e2:Env} {h0 h1 h2:H} {tr:List Tp} {trB:List (Tp × List Nat)} {c0:Cx} {wb:World} {a0 a:Act} {A:List Nat} {B:List (Nat × List Nat)} {L:Nat→Bool} {w:World}
def Cl(ops:Array Oper)(L:Nat→Bool):Prop:=∀i o e,ops[i]? =some o→L i=true→e∈o.after→Region.binds .any e=true→L e.on=true
theorem reached(hcl:Cl ops L){i:Nat}{o:Oper}(ho:ops[i]? =some o)(hdep:∀e∈o.after,Region.binds .any e=true→L e.on=true){j:Nat}(h:Reach ops i j):L j=true:=by
 obtain⟨o2,e,k1,k2,k3,k4⟩:=h.first;rw[ho]at k1;injection k1 with k1;subst k1;rcases k4 with rfl|k4
 ·exact hdep _ k2 k3
 ·exact k4.closed (S:=fun i=>L i=true) hcl (hdep _ k2 k3)
end
end Go.Proofs.YtpobejcofijjdaaGreatDoor.E
namespace Go.Proofs.YtpobejcofijjdaaGreatDoor.E
open Go Go.RowKit
open Ma Me K
section
variable {F:Cf} {nt fn:Nat} {call:dD} {ops:Array Oper} {e e1 e2:Env} {h h1 h2:H} {tr:List Tp} {trB:List (Tp × List Nat)} {q:Bool} {r:R}
theorem aBW{eB:Env}{hB:H}(ht:TraceB F nt call ops.toList eB hB [] e2 h2):e2=eB∧h2=hB:=by
 cases ht;exact⟨rfl,rfl⟩
end
end Go.Proofs.YtpobejcofijjdaaGreatDoor.E
namespace Go.Proofs.YtpobejcofijjdaaGreatDoor.E
open Go Go.RowKit
open Ma Me K
theorem T.get_ne{α:Type}{n:Nat}{x:α}{t:T n α}{k j:Nat}(hn:j≠k):(T.set x t k).get j=t.get j:=by
 rcases T.get_upd (x:=x) (t:=t) (k:=k) (j:=j) with h|⟨h,-⟩
 ·exact h
 ·exact absurd h hn
section
variable {F:Cf} {nt:Nat} {call:dD} {ops:Array Oper} {e e1:Env} {h h0 h1:H} {tr:List Tp}
theorem yY.ne{d:Option Nat}{v:AV}{e':Env}(hp:yY nt e d v e'){t:Nat}(ht:d≠some t):e'.get t=e.get t:=by
 cases d with
 |none=>rw[show e'=e from hp]
 |some k=>
  obtain⟨-,rfl⟩:=hp;exact T.get_ne fun q=>ht (by rw[q])
theorem Trace.ne{S:Tp→Prop}(hS:∀p,S p→yY nt p.e p.o.dst p.v p.e')(ht:Trace S e h tr e1 h1){t:Nat}(hno:∀p∈tr,p.o.dst≠some t):e1.get t=e.get t:=by
 induction ht with
 |nil e h=>rfl
 | @cons p l e2 h2 hp ht ih=>exact (ih fun q hq=>hno q (List.mem_cons_of_mem _ hq)).trans ((hS p hp).ne (hno p List.mem_cons_self))
def aBX(F:Cf)(call:dD):Prop:=∀(f:Nat) (g:List AV→Option AV) (l:List AV) (h h0:H),F.pr f=some g→Pm h (call (sc (.f f [])) l h) (call (sc (.f f [])) l h0)
theorem aFX{ex:dX}:aBX F (dJ F ex):=by
 intro f g l h h0 hf;show Pm h (iD F ex f (app l (aEq [])) h) (iD F ex f (app l (aEq [])) h0);unfold iD;rw[hf];refine Pm.ob fun G=>Pm.ob fun c=>?_;exact Pm.ob (f:=fun v=>some (v,h)) (g:=fun v=>some (v,h0)) fun v=>Pm.ye
theorem aQH{o:Op}(hc:aBX F call)(hm:mkO F o=.p):Pm h (op1 F call o e h) (op1 F call o e h0):=by
 cases o with
 |move x=>exact Pm.ob (f:=fun v=>some (v,h)) (g:=fun v=>some (v,h0)) fun v=>Pm.ye
 |assign x=>exact Pm.ob (f:=fun v=>some (v,h)) (g:=fun v=>some (v,h0)) fun v=>Pm.ye
 |pick c a d=>exact aGn
 |build t ps=>exact aEr
 |nilCheck x=>exact aJo
 |binOp op t x y t2=>exact aJp
 |unOp op t x=>exact aM1
 |convert s t x=>exact aGo
 |makeFunc g x y=>exact aGp
 |slice t x lo hi mx=>exact aEs
 |fieldAddr s x g=>exact aM2
 |field s x g=>exact aEt
 |indexAddr t x y=>exact aM3
 |index t x y=>exact aM4
 |extract x i=>exact aJs
 |call c=>
  obtain⟨callee,xs,ats⟩:=c;cases callee with
  |value g=>
   cases g with
   |func f=>
    have hm:(Option.rec (motive:=fun _=>Mk) .c (fun _=>.p) (F.pr f))=Mk.p:=hm;cases hp:F.pr f with
    |none=>rw[hp]at hm;cases hm
    |some gg=>
     show Pm h (ob (ev e (.func f)) fun v=>ob (evL e xs.toList) fun l=>call v l h) (ob (ev e (.func f)) fun v=>ob (evL e xs.toList) fun l=>call v l h0);exact Pm.ob (r:=evL e xs.toList) (f:=fun l=>call (sc (.f f [])) l h) (g:=fun l=>call (sc (.f f [])) l h0) fun l=>hc f gg l h h0 hp
   |_=>cases hm
  |invoke r m=>cases hm
  |builtin b=>
   refine Pm.ob (f:=fun l=>bi F h b ats.toList l) (g:=fun l=>bi F h0 b ats.toList l) fun l=>?_;cases b with
   |len=>unfold bi;dsimp only;repeat' (first|exact rfl|exact aJq|exact aJr|exact Pm.no|exact Pm.ye|exact Pm.vh|refine Pm.ob fun _=>?_|refine Pm.cb ?_ ?_|refine Pm.one fun _=>?_|refine Pm.agg fun _=>?_|refine Pm.natOf fun _=>?_|refine Pm.bound fun _=>?_|refine Pm.chk ?_|refine Pm.opt ?_ fun _=>?_|split)
   |min=>exact Pm.ob (f:=fun v=>some (v,h)) (g:=fun v=>some (v,h0)) fun v=>Pm.ye
   |max=>exact Pm.ob (f:=fun v=>some (v,h)) (g:=fun v=>some (v,h0)) fun v=>Pm.ye
   |append=>cases hm
   |_=>exact Pm.no
 |_=>cases hm
theorem aGE{x y:Bool}(h:cb x y (eQ y)=true):x=y:=by cases x<;>cases y<;>first|rfl|cases h
theorem aQI{x y:SV}(h:svb x y=true):x=y:=by
 unfold svb at h;split at h
 ·rw[aGE h]
 ·obtain⟨h1,h2⟩:=dF.1 h;rw[rQ]at h2;rw[of_decide_eq_true h1,of_decide_eq_true h2]
 ·rw[vR]at h;rw[of_decide_eq_true h]
 ·rfl
 ·obtain⟨h1,h2⟩:=dF.1 h;rw[aM.1 h1,aM.1 h2]
 ·rfl
 ·obtain⟨h1,h2⟩:=dF.1 h;obtain⟨h3,h4⟩:=dF.1 h2;obtain⟨h5,h6⟩:=dF.1 h4;rw[aM.1 h1,aM.1 h3,aM.1 h5,aM.1 h6]
 ·obtain⟨h1,h2⟩:=dF.1 h;obtain⟨h3,h4⟩:=dF.1 h2;rw[aM.1 h1,aM.1 h3,aM.1 h4]
 ·rw[aM.1 h]
 ·rfl
 ·rw[aM.1 h]
 ·cases h
theorem aEI:∀{l m:List SV},svL l m=true→l=m
 | [],[],_=>rfl
 | [],_::_,h=>by cases h
 |_::_,[],h=>by cases h
 |a::l,b::m,h=>by
  obtain⟨h1,h2⟩:=dF.1 (show cb (svb a b) (svL l m) false=true from h);rw[aQI h1,aEI h2]
theorem aQJ{x y:AV}(h:avb x y=true):x=y:=by
 unfold avb at h;split at h
 ·obtain⟨h1,h2⟩:=dF.1 h;rw[aGE h1,aEI h2]
 ·cases h
theorem aJW{o:Op}(hm:mkO F o=.l):∃t a,o=.load t a:=by
 cases o with
 |load t a=>exact⟨t,a,rfl⟩
 |call c=>
  obtain⟨callee,xs,ats⟩:=c;cases callee with
  |value g=>
   cases g with
   |func f=>
    have hm:(Option.rec (motive:=fun _=>Mk) .c (fun _=>.p) (F.pr f))=Mk.l:=hm;cases hp:F.pr f with
    |none=>rw[hp]at hm;cases hm
    |some gg=>rw[hp]at hm;cases hm
   |_=>cases hm
  |invoke r m=>cases hm
  |builtin b=>cases b<;>cases hm
 |_=>cases hm
end
end Go.Proofs.YtpobejcofijjdaaGreatDoor.E
namespace Go.Proofs.YtpobejcofijjdaaGreatDoor.E
open Go Go.RowKit
open Ma Me K
section
variable {F:Cf} {nt:Nat} {call:dD} {ops:Array Oper} {e e' e0 e1 e2:Env} {h0 h1 h2:H} {tr:List Tp} {trB:List (Tp × List Nat)} {c0:Cx} {wb:World} {a0 a:Act} {B:List (Nat × List Nat)} {L:Nat→Bool} {w:World}
structure JPg (F:Cf) (nt:Nat) (call:dD) (ops:Array Oper) (c0:Cx) (wb:World) (a0:Act) (e1:Env) (tr:List Tp) (trB:List (Tp × List Nat)) (e2:Env) (h2:H) (s1 s2:List (Tp × List Nat)) (eB:Env) (hB:H) (d:Cx) (L:Nat→Bool) (a:Act) (w:World):Prop where
 sp:trB=s1++s2
 t:TraceB F nt call ops.toList eB hB s2 e2 h2
 en:∀t,(∀q∈s1,q.1.o.dst≠some t)→eB.get t=e1.get t
 r:Rl d wb hB
 z:∀t,d.z t=F.P.cellsOf t
 tb:F.tb wb
 sz:a.tmps.size=nt
 pl:∀t v,eB.get t=some v→(∀p∈tr,p.o.dst=some t→L p.i=true)→∃u,a.tmps[t]? =some u∧VR d v u
 x:Xt c0 d
 w:d.w=w
 df:a.defers=a0.defers
 b1:∀q∈s1,L q.1.i=true
 b2:∀q∈s2,L q.1.i=false
 cl:Cl ops L
 /--what is not done has made nothing that is known -/
 kn:∀p∈tr,L p.i=false→∀id,d.k id→¬(p.h.n≤id∧id<p.h'.n)
 nb:∀p∈tr,p.h'.n≤hB.n
theorem apart(hc:fE call){e1:Env}{h h1:H}(ht:Trace (St1 F nt call ops.toList H.lift) e h tr e1 h1){p p':Tp}(hp:p∈tr)(hp':p'∈tr)(hne:p≠p'):p'.h'.n≤p.h.n∨p.h'.n≤p'.h.n:=by
 obtain⟨l1,l2,rfl⟩:=List.append_of_mem hp;obtain⟨t1,-,t2⟩:=ht.split;rcases List.mem_append.1 hp' with h2|h2
 ·obtain⟨m1,m2,rfl⟩:=List.append_of_mem h2;exact .inl (later hc t1.split.2.2 p.h eU).1
 ·rcases List.mem_cons.1 h2 with h3|h3
  ·exact absurd h3.symm hne
  ·exact .inr (later hc t2 p'.h (iL h3)).1
def Sm(F:Cf)(ops:Array Oper)(B:List (Nat × List Nat))(tr:List Tp)(eB:Env)(hB:H)(L:Nat→Bool):Prop:=∀p∈tr,L p.i=false→Same F ops.toList eB hB p.i∧∃q∈B,p.i∈q.2
theorem Plan.inA(hP:Plan F ops (tr.map Tp.i) B){i j:Nat}(h:Reach ops i j)(hi:i∈tr.map Tp.i):j∈tr.map Tp.i:=by
 refine h.closed (S:=fun i=>i∈tr.map Tp.i) (fun i o e ho hm he hb=>?_) hi;obtain⟨s1,s2,hs⟩:=List.append_of_mem hm;obtain⟨o',k1,k2,-⟩:=(hP.a s1 i s2 hs).o;rw[ho]at k1;injection k1 with k1;subst k1;rw[hs];exact List.mem_append_left _ (k2 e he hb)
theorem JPg.step{s1 s2:List (Tp × List Nat)}{eB:Env}{hB:H}{d:Cx}(hopk:∀(j:Nat) (o:Oper) (e:Env) (h:H) (v:AV) (h':H),ops[j]? =some o→op1 F call o.op e h=some (v,h')→rT F nt ops j o e h v h')
  (hP:Plan F ops (tr.map Tp.i) B) (hopA:∀p∈tr,ops[p.i]? =some p.o) (hmap:(trB.map fun q=>(q.1.i,q.2))=B) (hrm:∀q∈B,∀j∈q.2,j∉B.map Prod.fst) (hJ:JPg F nt call ops c0 wb a0 e1 tr trB e2 h2 s1 s2 eB hB d L a w) {i:Nat} {o:Oper} (ho:ops[i]? =some o) (hi:L i=false) (hdep:∀e∈o.after,Region.binds .any e=true→L e.on=true) (hiB:i∈B.map Prod.fst)
  (b:Frame) (rest:List Nat) (k:List Item) (cs:List Frame):
  ∃a' w' s1' s2' eB' hB' d',s1'≠[]∧Sm F ops B tr eB' hB' (Ja.upd L i true)∧JPg F nt call ops c0 wb a0 e1 tr trB e2 h2 s1' s2' eB' hB' d' (Ja.upd L i true) a' w'∧Steps F.P (lone (b.atR a (.inRegion ops (i::rest)::k)) cs w) (lone (b.atR a' (.inRegion ops rest::k)) cs w'):=by
 have hnd0:=List.nodup_append.1 hP.nd;have hnd:(B.map Prod.fst).Nodup:=hnd0.2.1;have hfst:B.map Prod.fst=trB.map fun q=>q.1.i:=by rw[←hmap,List.map_map];rfl
 have hAB:∀p∈tr,p.i≠i:=fun p hp e=>hnd0.2.2 p.i (List.mem_map_of_mem hp) i hiB e;have hiB0:=hiB;rw[hfst]at hnd hiB;obtain⟨q,hq,rfl⟩:=List.mem_map.1 hiB;rw[hJ.sp]at hq;have hq2:q∈s2:=by
  rcases List.mem_append.1 hq with hq|hq
  ·have:=hJ.b1 q hq;rw[hi]at this;cases this
  ·exact hq
 obtain⟨q0,s2',rfl⟩:∃q0 s2',s2=q0::s2':=by
  cases s2 with
  |nil=>cases hq2
  |cons x y=>exact⟨x,y,rfl⟩
 have hqq:q=q0:=by
  rcases List.mem_cons.1 hq2 with h|h
  ·exact h
  ·exfalso;obtain⟨x1,x2,he⟩:=List.append_of_mem h;have hBB:B=((s1++q0::x1).map fun q=>(q.1.i,q.2))++(q.1.i,q.2)::(x2.map fun q=>(q.1.i,q.2)):=by
    rw[←hmap,hJ.sp,he];simp
   have hone:=hP.b _ _ _ _ hBB;rcases hone.s rfl q0.1.i (by simp) with h4|h4
   ·have h5:=reached hJ.cl ho hdep h4;rw[hJ.b2 q0 List.mem_cons_self]at h5;cases h5
   ·exact hrm (q.1.i,q.2) (by rw[hBB];simp) q0.1.i (aDH.1 h4) (by rw[hfst,hJ.sp];simp)
 subst hqq;have hw:=hJ.w;subst hw;have ht:=hJ.t;obtain⟨p,rm⟩:=q;have hBB:B=(s1.map fun q=>(q.1.i,q.2))++(p.i,rm)::(s2'.map fun q=>(q.1.i,q.2)):=by
  rw[←hmap,hJ.sp];simp
 have hone:=hP.b _ _ _ _ hBB;cases ht with
 |cons hp hs ht2=>
  have ho2:ops[p.i]? =some p.o:=(by simpa using dW hp.o);have ho3:ops[p.i]? =some o:=ho;have heq:o=p.o:=(by rw[ho2]at ho3;injection ho3 with ho3;exact ho3.symm);subst heq;have hT:Tr d nt (p.e.flt (look ops p.o)) a.tmps:=by
    refine⟨hJ.sz,fun t v hv=>?_⟩;rw[T.get_flt]at hv;split at hv
    ·rename_i hlk;have hlk:t∈p.o.looksAt ops:=(by simpa [look] using hlk);refine hJ.pl t v hv fun p' hp' hd=>?_;rcases hP.wr p.i p.o t p'.i p'.o ho2 hlk (hopA p' hp') hd with k1|k1|k1
     ·exact absurd k1 (hAB p' hp')
     ·exact reached hJ.cl ho2 hdep k1
     ·obtain⟨p2,m1,m2⟩:=List.mem_map.1 (hP.inA k1 (List.mem_map_of_mem hp'));exact absurd m2 (hAB p2 m1)
    ·cases hv
  have f:Fr F d wb nt p.h (p.e.flt (look ops p.o)) a:=⟨hJ.r,hJ.z,hT,hJ.tb⟩
  have hwant:wanted ops.toList (p.e.flt (look ops p.o)) p.o.guard=some p.b:=(by rw[←wX];exact hp.w);have hW:=pO hwant hT;have fin:∀{u:Value} {d2:Cx},Xt d d2→Rl d2 wb p.h'→VR d2 p.v u→
      Sm F ops B tr p.e' p.h' (Ja.upd L p.i true)∧JPg F nt call ops c0 wb a0 e1 tr trB e2 h2 (s1++[(p,rm)]) s2' p.e' p.h' d2 (Ja.upd L p.i true) (a.put p.o.dst u) d2.w:=by
    intro u d2 X R V;refine⟨fun p' hp' hL=>⟨?_,(p.i,rm),by rw[hBB];simp,?_⟩,⟨by rw[hJ.sp];simp,ht2,fun t hno=>?_,R,fun t=>by rw[X.z];exact hJ.z t,hJ.tb,?_,fun t v hv hall=>?_,hJ.x.trans X,rfl,?_,fun q hq=>?_,fun q hq=>?_,fun i' o' e'' hio hL he hb=>?_,fun p' hp' hL id hk q=>?_,fun p' hp'=>?_⟩⟩
    ·have hL:=(wY hL).2;rcases hone.s rfl p'.i (List.mem_append_left _ (List.mem_map_of_mem hp')) with h4|h4
     ·rw[reached hJ.cl ho2 hdep h4]at hL;cases hL
     ·exact hs _ (aDH.1 h4)
    ·have hL:=(wY hL).2;rcases hone.s rfl p'.i (List.mem_append_left _ (List.mem_map_of_mem hp')) with h4|h4
     ·rw[reached hJ.cl ho2 hdep h4]at hL;cases hL
     ·exact aDH.1 h4
    ·rw[hp.e.ne (hno (p,rm) (by simp))];exact hJ.en t fun q hq=>hno q (List.mem_append_left _ hq)
    ·cases p.o.dst<;>simpa [Act.put] using hJ.sz
    ·rcases hp.e.get hv with⟨k1,rfl⟩|⟨k1,k2⟩
     ·have h6:=hp.e;rw[k1]at h6⊢;exact⟨u,aEH (by rw[hJ.sz];exact h6.1) rfl,V⟩
     ·obtain⟨u2,m1,m2⟩:=hJ.pl t v k2 fun p' hp' hd=>(aAs (hall p' hp' hd)).resolve_left (hAB p' hp');exact⟨u2,by rw[aBV k1];exact m1,m2.xt X⟩
    ·cases p.o.dst<;>exact hJ.df
    ·rcases List.mem_append.1 hq with hq|hq
     ·exact qH (hJ.b1 q hq)
     ·rw[List.mem_singleton]at hq;subst hq;exact aNa
    ·have h1:=hJ.b2 q (List.mem_cons_of_mem _ hq);rw[hJ.sp,List.map_append,List.map_cons]at hnd;have h2:=(List.nodup_cons.1 (List.nodup_append.1 hnd).2.1).1;unfold Ja.upd;rw[if_neg (fun e=>h2 (by rw[←show q.1.i=p.i from e];exact List.mem_map_of_mem (f:=fun q:Tp × List Nat=>q.1.i) hq))];exact h1
    ·rcases aAs hL with rfl|hL
     ·rw[ho2]at hio;injection hio with hio;subst hio;exact qH (hdep _ he hb)
     ·exact qH (hJ.cl _ _ _ hio hL he hb)
    ·exact (X.o id hk).elim (fun k=>hJ.kn p' hp' (wY hL).2 id k q) fun k=>by
      have h4:=hJ.nb p' hp';have h5:d.n=p.h.n:=hJ.r.n;omega
    ·have h4:=hJ.nb p' hp';have h5:d.n=p.h.n:=hJ.r.n;have h6:=X.n;have h7:=R.n;omega
  cases hb:p.b with
  |true=>
   have hx:op1 F call p.o.op (p.e.flt (look ops p.o)) p.h=some (p.v,p.h'):=by
      rw[←rO (e:=p.e) (fun x hx=>aBU hx)];exact hp.y hb
   obtain⟨u,d2,X,R,V,S⟩:=hopk p.i p.o _ _ _ _ ho2 hx d wb a f (hW.trans hb) b rest k cs;obtain⟨m1,m2⟩:=fin X R V;exact⟨_,_,_,_,_,_,_,by simp,m1,m2,S⟩
  |false=>
   obtain⟨hv,hh⟩:=hp.n hb;have S:=stepR_op_skip (P:=F.P) (b:=b) (a:=a) (k:=k) (cs:=cs) (w:=d.w) (ops:=ops) (i:=p.i) (rest:=rest) (by simp[ho2,hW.trans hb]);simp only[ho2,Option.bind_some]at S;obtain⟨m1,m2⟩:=fin (Xt.refl d) (by rw[hh];exact hJ.r) (by rw[hv];exact wV);exact⟨_,_,_,_,_,_,_,by simp,m1,m2,.one S⟩
end
end Go.Proofs.YtpobejcofijjdaaGreatDoor.E
namespace Go.Proofs.YtpobejcofijjdaaGreatDoor.E
open Go Go.RowKit
open Ma Me K
section
variable {F:Cf} {nt:Nat} {call:dD} {ops:Array Oper} {e e' e0 e1 e2:Env} {h0 h1 h2:H} {l1 l2:List Tp} {p:Tp} {trB:List (Tp × List Nat)} {c0:Cx} {wb:World} {a0 a:Act} {B:List (Nat × List Nat)} {L:Nat→Bool} {w:World}
theorem aFY{o:Oper}(k:∀t∈o.looksAt ops,e.get t=e'.get t):wanted ops.toList e o.guard=wanted ops.toList e' o.guard:=by
 cases hg:o.guard with
 |none=>rfl
 |some p=>
  obtain⟨j,w⟩:=p;show (ob (drp j ops.toList).head? fun o=>ob o.dst fun d=>isB (e.get d) w)=ob (drp j ops.toList).head? fun o2=>ob o2.dst fun d=>isB (e'.get d) w;cases h1:(drp j ops.toList).head? with
  |none=>rfl
  |some o2=>
   show (ob o2.dst fun d=>isB (e.get d) w)=ob o2.dst fun d=>isB (e'.get d) w;cases h2:o2.dst with
   |none=>rfl
   |some d=>
    have h3:ops[j]? =some o2:=(by simpa using dW h1);have h4:d∈o.looksAt ops:=(by simp[Oper.looksAt,hg,h3,h2]);show isB (e.get d) w=isB (e'.get d) w;rw[k d h4]
theorem aOy{o:Oper}(k:∀t∈o.looksAt ops,e.get t=e'.get t){x:Operand}(hx:x∈o.op.operands):ev e x=ev e' x:=by
 cases x with
 |tmp t=>exact k t (aDf hx rfl)
 |_=>rfl
theorem aL1{o:Op}{c1 c2:dD}{h:H}(hm:mkO F o=.n):op1 F c1 o e h=op1 F c2 o e h:=by
 cases o with
 |call c=>
  obtain⟨callee,xs,ats⟩:=c;cases callee with
  |value g=>
   cases g with
   |func f=>
    have hm:(Option.rec (motive:=fun _=>Mk) .c (fun _=>.p) (F.pr f))=Mk.n:=hm;cases hp:F.pr f with
    |none=>rw[hp]at hm;cases hm
    |some gg=>rw[hp]at hm;cases hm
   |_=>cases hm
  |invoke r m=>cases hm
  |builtin b=>cases b<;>cases hm
 |_=>first|rfl|cases hm
theorem aAt{h:H}{x:E.B}{f:Nat→SV}{u:AV × H}(hx:(h.nw x fun a h=>vh (f a) h)=some u):u.2=⟨h.h.set x h.n,Nat.succ h.n,h.bar,h.l⟩∧u.1=sc (f h.n):=by
 unfold H.nw at hx;rw[bM]at hx;injection hx with hx;rw[←hx];exact⟨rfl,rfl⟩
theorem aEJ{o:Op}{h:H}{u:AV × H}(hm:mkO F o=.n)(hx:op1 F call o e h=some u):∃x,u.2=⟨h.h.set x h.n,Nat.succ h.n,h.bar,h.l⟩∧(u.1=sc (.p h.n 0)∨∃n m,u.1=sc (.sl h.n 0 n (some m))):=by
 cases o with
 |alloc t=>
  obtain⟨i,-,hx⟩:=aA.1 (show mM F h t=some u from hx);obtain⟨k1,k2⟩:=aAt hx;exact⟨_,k1,.inl k2⟩
 |box t x=>
  obtain⟨i,-,hx⟩:=aA.1 (show uK e h t x=some u from hx);obtain⟨g,c,-,hx⟩:=mR.1 hx;obtain⟨k1,k2⟩:=aAt hx;exact⟨_,k1,.inl k2⟩
 |buildSlice t n ps=>
  obtain⟨i,-,hx⟩:=aA.1 (show fH F e h t n ps.toList=some u from hx);obtain⟨el,-,hx⟩:=aA.1 hx;obtain⟨j,-,hx⟩:=aA.1 hx;obtain⟨-,hx⟩:=aD.1 hx;obtain⟨c,-,hx⟩:=aA.1 hx;obtain⟨k1,k2⟩:=aAt hx;exact⟨_,k1,.inr ⟨_,_,k2⟩⟩
 |makeSlice t l c=>
  obtain⟨i,-,hx⟩:=aA.1 (show tL F e h t l c=some u from hx);obtain⟨el,-,hx⟩:=aA.1 hx;obtain⟨j,-,hx⟩:=aA.1 hx;obtain⟨v,-,hx⟩:=aA.1 hx;obtain⟨s,-,hx⟩:=aR.1 hx;obtain⟨_,n,-,hx⟩:=jJ hx;obtain⟨v2,-,hx⟩:=aA.1 hx;obtain⟨s2,-,hx⟩:=aR.1 hx;obtain⟨_,m,-,hx⟩:=jJ hx;obtain⟨-,hx⟩:=aD.1 hx;obtain⟨-,hx⟩:=aD.1 hx;obtain⟨-,hx⟩:=aD.1 hx;obtain⟨k1,k2⟩:=aAt hx;exact⟨_,k1,.inr ⟨_,_,k2⟩⟩
 |call c=>
  obtain⟨callee,xs,ats⟩:=c;cases callee with
  |value g=>
   cases g with
   |func f=>
    have hm:(Option.rec (motive:=fun _=>Mk) .c (fun _=>.p) (F.pr f))=Mk.n:=hm;cases hp:F.pr f with
    |none=>rw[hp]at hm;cases hm
    |some gg=>rw[hp]at hm;cases hm
   |_=>cases hm
  |invoke r m=>cases hm
  |builtin b=>cases b<;>cases hm
 |_=>cases hm
theorem aEK{q:Option Lp}{x y:Option E.B}(h:aDD q x y=true):q=none∧∃b,x=some b∧y=some b∧plS b.c=true:=by
 obtain⟨h0,h⟩:=dF.1 h;cases q with
 |some q=>cases h0
 |none=>
  cases x with
  |none=>cases h
  |some b=>
   cases y with
   |none=>cases h
   |some c=>
    obtain⟨h1,h2⟩:=dF.1 (show cb (Nat.beq b.ty c.ty) (cb (svL b.c c.c) (plS b.c) false) false=true from h);obtain⟨h3,h4⟩:=dF.1 h2;obtain⟨t1,l1⟩:=b;obtain⟨t2,l2⟩:=c;have e1:t1=t2:=aM.1 h1;have e2:l1=l2:=aEI h3;subst e1;subst e2;exact⟨rfl,_,rfl,rfl,h4⟩
theorem aL2{h:H}{v:AV}{u:AV × H}(hs:kP h v u=true):∃k b,h.l.get k=none∧h.h.get k=some b∧u.2.h.get h.n=some b∧plS b.c=true∧((v=sc (.p k 0)∧u.1=sc (.p h.n 0))∨∃n m,v=sc (.sl k 0 n (some m))∧u.1=sc (.sl h.n 0 n (some m))):=by
 unfold kP at hs;split at hs
 ·rename_i k n hu;obtain⟨h1,h2⟩:=dF.1 hs;have h1:=aM.1 h1;subst h1;obtain⟨h3,b,h4,h5,h6⟩:=aEK h2;exact⟨k,b,h3,h4,h5,h6,.inl ⟨rfl,hu⟩⟩
 ·rename_i k m c n m' c' hu;obtain⟨h1,h2⟩:=dF.1 hs;obtain⟨q1,q0⟩:=dF.1 h2;obtain⟨q2,q3⟩:=dF.1 q0;obtain⟨h3,b,h4,h5,h6⟩:=aEK q3;have h1:=aM.1 h1;have q1:=aM.1 q1;have q2:=aM.1 q2;clear h2 q0 q3;subst h1;subst q1;subst q2;exact⟨k,b,h3,h4,h5,h6,.inr ⟨_,_,rfl,hu⟩⟩
 ·cases hs
structure Ag3 (d d' d2:Cx):Prop where
 k:∀id,d.k id→d2.k id∧d2.r id=d'.r id
 w:d2.w=d'.w
 z:d2.z=d'.z
theorem sr3{d d' d2:Cx}(A:Ag3 d d' d2){s:SV}{v0 v:Value}(h0:SR d s v0)(h:SR d' s v):SR d2 s v:=by
 cases s with
 |p id off=>exact⟨(A.k id h0.1).1,by rw[(A.k id h0.1).2];exact h.2⟩
 |sl id off len cap=>
  cases cap with
  |some cap=>exact⟨(A.k id h0.1).1,by rw[(A.k id h0.1).2];exact h.2⟩
  |none=>
   obtain⟨h1,cap,h2,h3,h4,t,cs,fr,h5,h6⟩:=h;exact⟨(A.k id h0.1).1,cap,h2,by rw[(A.k id h0.1).2];exact h3,h4,t,cs,fr,by rw[(A.k id h0.1).2,A.w];exact h5,by rw[A.z];exact h6⟩
 |m n=>show Nm d2.w v n;rw[A.w];exact h
 |r n=>show Nr d2.w v n;rw[A.w];exact h
 |f fn cs=>
  refine⟨fun p hp=>(A.k _ (h0.1 p hp)).1,h.2.trans ?_⟩;congr 2;exact List.map_congr_left fun p hp=>by unfold ptr;rw[(A.k _ (h0.1 p hp)).2]
 |y l=>exact⟨(A.k l h0.1).1,by rw[(A.k l h0.1).2];exact h.2⟩
 |_=>exact h
theorem cl3{d d' d2:Cx}(A:Ag3 d d' d2):∀{l:List SV} {r0 r:List Value},CL d l r0→CL d' l r→CL d2 l r
 | [],_,[],_,_=>trivial
 |_::_,_::_,_::_,h0,h=>⟨sr3 A h0.1 h.1,cl3 A h0.2 h.2⟩
theorem vc3{d d' d2:Cx}(A:Ag3 d d' d2){g:Bool}{l:List SV}{v0 v:Value}(h0:VC d g l v0)(h:VC d' g l v):VC d2 g l v:=by
 cases g with
 |true=>obtain⟨cs0,-,k0⟩:=h0;obtain⟨cs,h1,h2⟩:=h;exact⟨cs,h1,cl3 A k0 h2⟩
 |false=>
  obtain⟨s0,h1,k0⟩:=h0;obtain⟨s,h2,h3⟩:=h;rw[h1]at h2;cases h2;exact⟨_,h1,sr3 A k0 h3⟩
theorem tl3{d d' d2:Cx}(A:Ag3 d d' d2):∀{l:List (Bool × List SV)} {r0 r:List Value},TL d l r0→TL d' l r→TL d2 l r
 | [],_,[],_,_=>trivial
 |_::_,_::_,_::_,h0,h=>⟨vc3 A h0.1 h.1,tl3 A h0.2 h.2⟩
theorem vr3{d d' d2:Cx}(A:Ag3 d d' d2){a:AV}{v0 v:Value}(h0:VR d a v0)(h:VR d' a v):VR d2 a v:=by
 cases a with
 |c g l=>exact vc3 A h0 h
 |t l=>obtain⟨vs0,-,k0⟩:=h0;obtain⟨vs,h1,h2⟩:=h;exact⟨vs,h1,tl3 A k0 h2⟩
theorem aAu{d d2:Cx}(hw:d2.w=d.w):∀{l:List SV} {r:List Value},plS l=true→CL d l r→CL d2 l r
 | [],[],_,_=>trivial
 |s::l,v::r,hp,h=>by
  obtain⟨h1,h2⟩:=dF.1 (show cb (aQh s) (plS l) false=true from hp);refine⟨?_,aAu hw h2 h.2⟩;have h3:=h.1;cases s with
  |m n=>show Nm d2.w v n;rw[hw];exact h3
  |r n=>show Nr d2.w v n;rw[hw];exact h3
  |u=>cases h1
  |p id off=>cases h1
  |sl id off len cap=>cases h1
  |f fn cs=>cases h1
  |y l=>cases h1
  |_=>exact h3
def Cx.also(d d':Cx)(k n:Nat):Cx:=⟨d.n,fun id=>d.k id∨id=k,fun id=>if id=k then d'.r n else d.r id,d'.w,d.z⟩
theorem aJX{d d':Cx}{wb:World}{hB:H}{x:E.B}{k:Nat}(R:Rl d wb hB)(X:Xt d d')(R':Rl d' wb ⟨hB.h.set x hB.n,Nat.succ hB.n,hB.bar,hB.l⟩)(hk':d'.k hB.n)(hb:hB.h.get k=some x)(hp:plS x.c=true)(hk:¬d.k k)(hlp:hB.l.get k=none):
  Rl (d.also d' k hB.n) wb hB∧Xs d (d.also d' k hB.n):=by
 have hkn:k<hB.n:=(R.blk k x hb).1;have hget:∀id,id<hB.n→(T.set x hB.h hB.n).get id=hB.h.get id:=fun id h=>by
  rcases T.get_upd (x:=x) (t:=hB.h) (k:=hB.n) (j:=id) with h1|⟨h1,-⟩
  ·exact h1
  ·omega
 have hr:∀id,d.k id→(d.also d' k hB.n).r id=d'.r id:=fun id h=>by
  show (if id=k then _ else d.r id)=_;rw[if_neg (fun e=>hk (by rw[←e];exact h)),X.r id h]
 have hrk:(d.also d' k hB.n).r k=d'.r hB.n:=if_pos rfl;have A:Ag3 d d' (d.also d' k hB.n):=⟨fun id h=>⟨.inl h,hr id h⟩,rfl,by rw[X.z];rfl⟩
 have hx:Lv d' hB.n x↔x.c≠[]:=⟨fun h=>h.2,fun h=>⟨hk',h⟩⟩
 have hlt:∀id,d.k id→id<hB.n:=fun id h=>by have:=R.k id h;rw[R.n]at this;exact this
 refine⟨⟨R.n,fun id h=>h.elim (fun h=>R.k id h) fun h=>(by rw[h];show k<d.n;rw[R.n];exact hkn),R'.q,fun id b hg=>⟨(R.blk id b hg).1,fun hl=>?_⟩,fun i j b b2 hi hj hli hlj hij=>?_,fun id b hg hl hbar=>?_,fun l p hl=>⟨(R.lp l p hl).1,fun h=>?_⟩,fun i j p p2 hi hj ki kj hij=>?_⟩,⟨fun id h=>.inl h,fun id h=>(hr id h).trans (X.r id h),X.p.m,X.p.mr,X.p.s,rfl⟩⟩
 ·by_cases hik:id=k
  ·subst hik;rw[hb]at hg;injection hg with hg;subst hg;rw[hrk];obtain⟨row,tail,h1,h2,h3⟩:=(R'.blk hB.n x T.get_same).2 ⟨hk',hl.2⟩;exact⟨row,tail,h1,aAu (d:=d') (d2:=d.also d' id hB.n) rfl hp h2,h3⟩
  ·have hdk:d.k id:=hl.1.resolve_right hik;obtain⟨row0,tail0,-,k0,-⟩:=(R.blk id b hg).2 ⟨hdk,hl.2⟩;obtain⟨row,tail,h1,h2,h3⟩:=(R'.blk id b ((hget id (hlt id hdk)).trans hg)).2 ⟨X.k id hdk,hl.2⟩;rw[hr id hdk];exact⟨row,tail,h1,cl3 A k0 h2,h3⟩
 ·by_cases hik:i=k
  ·subst hik;have hjd:d.k j:=hlj.1.resolve_right fun e=>hij e.symm;rw[hb]at hi;injection hi with hi;subst hi;rw[hrk,hr j hjd];exact R'.inj hB.n j x b2 T.get_same ((hget j (hlt j hjd)).trans hj) ⟨hk',hli.2⟩ ⟨X.k j hjd,hlj.2⟩ (by have:=hlt j hjd;omega)
  ·have hid:d.k i:=hli.1.resolve_right hik;by_cases hjk:j=k
   ·subst hjk;rw[hb]at hj;injection hj with hj;subst hj;rw[hrk,hr i hid];exact R'.inj i hB.n b x ((hget i (hlt i hid)).trans hi) T.get_same ⟨X.k i hid,hli.2⟩ ⟨hk',hlj.2⟩ (by have:=hlt i hid;omega)
   ·have hjd:d.k j:=hlj.1.resolve_right hjk;rw[hr i hid,hr j hjd,X.r i hid,X.r j hjd];exact R.inj i j b b2 hi hj ⟨hid,hli.2⟩ ⟨hjd,hlj.2⟩ hij
 ·by_cases hik:id=k
  ·subst hik;rw[hb]at hg;injection hg with hg;subst hg;rw[hrk];exact R'.new hB.n x T.get_same ⟨hk',hl.2⟩ (by show hB.bar≤hB.n;omega)
  ·have hdk:d.k id:=hl.1.resolve_right hik;rw[hr id hdk,X.r id hdk];exact R.new id b hg ⟨hdk,hl.2⟩ hbar
 ·have hlk:d.k l:=h.resolve_right fun e=>by
   subst e;rw[hlp]at hl;cases hl
  obtain⟨⟨rc0,-,k0⟩,k1⟩:=(R.lp l p hl).2 hlk;obtain⟨⟨rc,k2,k3⟩,k4⟩:=(R'.lp l p hl).2 (X.k l hlk);rw[hr l hlk];refine⟨⟨rc,k2,fun hd=>?_⟩,k4⟩;obtain⟨D0,tm0,-,m0⟩:=k0 hd;obtain⟨D,tm,m1,m2⟩:=k3 hd;refine⟨D,tm,m1,m2.1,fun j v hv=>?_⟩;obtain⟨u0,-,n0⟩:=m0.2 j v hv;obtain⟨u,n1,n2⟩:=m2.2 j v hv;exact⟨u,n1,vr3 A n0 n2⟩
 ·have hid:d.k i:=ki.resolve_right fun e=>by
   subst e;rw[hlp]at hi;cases hi
  have hjd:d.k j:=kj.resolve_right fun e=>by
   subst e;rw[hlp]at hj;cases hj
  rw[hr i hid,hr j hjd,X.r i hid,X.r j hjd];exact R.li i j p p2 hi hj hid hjd hij
theorem JPg.late{s1 s2:List (Tp × List Nat)}{eB:Env}{hB:H}{d:Cx}(hc:fE call)(hc0:c0.n=h0.n)(hpr:aBX F call)(hopk:∀(j:Nat) (o:Oper) (e:Env) (h:H) (v:AV) (h':H),ops[j]? =some o→op1 F call o.op e h=some (v,h')→rT F nt ops j o e h v h')
  (ht:Trace (St1 F nt call ops.toList H.lift) e0 h0 (l1++p::l2) e1 h1) (hP:Plan F ops ((l1++p::l2).map Tp.i) B) (hopA:∀q∈l1++p::l2,ops[q.i]? =some q.o) (hopB:∀q∈trB,ops[q.1.i]? =some q.1.o) (hmap:(trB.map fun q=>(q.1.i,q.2))=B)
  (hJ:JPg F nt call ops c0 wb a0 e1 (l1++p::l2) trB e2 h2 s1 s2 eB hB d L a w) (hS:Sm F ops B (l1++p::l2) eB hB L) (hi:L p.i=false) (hdep:∀e∈p.o.after,Region.binds .any e=true→L e.on=true) (b:Frame) (rest:List Nat) (k:List Item) (cs:List Frame):
  ∃a' w' d',Sm F ops B (l1++p::l2) eB hB (Ja.upd L p.i true)∧JPg F nt call ops c0 wb a0 e1 (l1++p::l2) trB e2 h2 s1 s2 eB hB d' (Ja.upd L p.i true) a' w'∧Steps F.P (lone (b.atR a (.inRegion ops (p.i::rest)::k)) cs w) (lone (b.atR a' (.inRegion ops rest::k)) cs w'):=by
 obtain⟨t1,hp,t2⟩:=ht.split;have hmem:p∈l1++p::l2:=List.mem_append_right _ List.mem_cons_self;have ho:ops[p.i]? =some p.o:=hopA p hmem;have hfst:B.map Prod.fst=trB.map fun q=>q.1.i:=by rw[←hmap,List.map_map];rfl
 have hnd0:=List.nodup_append.1 hP.nd;have hnd2:=hnd0.1;rw[List.map_append,List.map_cons]at hnd2;have hAB:∀q∈trB,q.1.i∉(l1++p::l2).map Tp.i:=fun q hq hm=>hnd0.2.2 q.1.i hm q.1.i (by rw[hfst];exact List.mem_map_of_mem (f:=fun q:Tp × List Nat=>q.1.i) hq) rfl;have hs1:∀q∈s1,q∈trB:=fun q hq=>by rw[hJ.sp];exact List.mem_append_left _ hq
 have hone:∀q∈l1++p::l2,q.i=p.i→q=p:=fun q hq hqi=>by
  rcases List.mem_append.1 hq with hq|hq
  ·exact absurd hqi ((List.nodup_append.1 hnd2).2.2 q.i (List.mem_map_of_mem hq) p.i List.mem_cons_self)
  ·rcases List.mem_cons.1 hq with rfl|hq
   ·rfl
   ·exact absurd (by rw[←hqi];exact List.mem_map_of_mem hq) (List.nodup_cons.1 (List.nodup_append.1 hnd2).2.1).1
 -- whoever writes what p looks at stands ahead of p
 obtain⟨hsame,qB,hqB,hpq⟩:=hS p hmem hi;obtain⟨o',ho',hlate⟩:=hP.late qB hqB p.i hpq;rw[ho]at ho';injection ho' with ho';subst ho';have hfirst:∀j,Reach ops p.i j→j∈l1.map Tp.i:=fun j hr=>by
  have hcl:∀i o e,ops[i]? =some o→i∈l1.map Tp.i→e∈o.after→Region.binds .any e=true→e.on∈l1.map Tp.i:=fun i o e ho2 him he2 hb=>by
   obtain⟨x1,x2,hx⟩:=List.append_of_mem him;obtain⟨o',k1,k2,-⟩:=(hP.a x1 i (x2++p.i::l2.map Tp.i) (by rw[List.map_append,List.map_cons,hx];simp)).o;rw[ho2]at k1;injection k1 with k1;subst k1;rw[hx];exact List.mem_append_left _ (k2 e he2 hb)
  obtain⟨o',k1,k2,-⟩:=(hP.a (l1.map Tp.i) p.i (l2.map Tp.i) (by simp)).o;obtain⟨o2,e3,m1,m2,m3,m4⟩:=hr.first;rw[k1]at m1;injection m1 with m1;subst m1;rcases m4 with rfl|m4
  ·exact k2 _ m2 m3
  ·exact m4.closed (S:=fun i=>i∈l1.map Tp.i) hcl (k2 _ m2 m3)
 have hcl2:∀{i j:Nat},Reach ops i j→L i=true→L j=true:=fun h hi=>h.closed (S:=fun i=>L i=true) (fun i o e ho hL he hb=>hJ.cl i o e ho hL he hb) hi;have heq:∀t∈p.o.looksAt ops,eB.get t=p.e.get t:=fun t htl=>by
  have h3:eB.get t=e1.get t:=hJ.en t fun q hq hd=>by
   rcases hlate t htl q.1.i q.1.o (hopB q (hs1 q hq)) hd with h4|⟨-,h4⟩
   ·have h4:=hfirst _ h4;exact hAB q (hs1 q hq) (by rw[List.map_append];exact List.mem_append_left _ h4)
   ·have:=hcl2 h4 (hJ.b1 q hq);rw[hi]at this;cases this
  have h5:e1.get t=p.e.get t:=(Trace.cons hp t2).ne (fun q hq=>hq.e) fun q hq hd=>by
   rcases hlate t htl q.i q.o (hopA q (List.mem_append_right _ hq)) hd with h4|⟨h4,-⟩
   ·have h4:=hfirst _ h4;rw[←List.map_cons]at hnd2;exact (List.nodup_append.1 hnd2).2.2 q.i h4 q.i (List.mem_map_of_mem hq) rfl
   ·exact hnd0.2.2 q.i (List.mem_map_of_mem (List.mem_append_right _ hq)) q.i h4 rfl
  exact h3.trans h5
 -- its own place
 have hown:∀x v,p.o.dst=some x→eB.get x=some v→v=p.v:=fun x v hd hv=>by
  have h3:eB.get x=e1.get x:=hJ.en x fun q hq hdq=>by
   have h4:=hP.un q.1.i p.i q.1.o p.o x (hopB q (hs1 q hq)) ho hdq hd;exact hAB q (hs1 q hq) (by rw[h4];exact List.mem_map_of_mem hmem)
  rw[h3]at hv;rcases ht.get (fun q hq=>hq.e) hv with⟨q,hq,hdq,rfl⟩|⟨hno,-⟩
  ·rw[hone q hq (hP.un q.i p.i q.o p.o x (hopA q hq) ho hdq hd)]
  ·exact absurd hd (hno p hmem)
 have hw:=hJ.w;subst hw;have hT:Tr d nt (eB.flt (look ops p.o)) a.tmps:=by
  refine⟨hJ.sz,fun t v hv=>?_⟩;rw[T.get_flt]at hv;split at hv
  ·rename_i hlk;have hlk:t∈p.o.looksAt ops:=(by simpa [look] using hlk);refine hJ.pl t v hv fun p' hp' hd=>?_;rcases hlate t hlk p'.i p'.o (hopA p' hp') hd with h4|⟨h4,-⟩
   ·exact reached hJ.cl ho hdep h4
   ·exact (hnd0.2.2 p'.i (List.mem_map_of_mem hp') p'.i h4 rfl).elim
  ·cases hv
 have f:Fr F d wb nt hB (eB.flt (look ops p.o)) a:=⟨hJ.r,hJ.z,hT,hJ.tb⟩
 have hwant:wanted ops.toList (eB.flt (look ops p.o)) p.o.guard=some p.b:=by rw[←wX,aFY heq];exact hp.w
 have hW:=pO hwant hT;have fin0:∀{u:Value} {d2:Cx},Xs d d2→Xt c0 d2→(∀id,d2.k id→d.k id∨d.n≤id∨(p.h.n≤id∧id<p.h'.n))→Rl d2 wb hB→VR d2 p.v u→Sm F ops B (l1++p::l2) eB hB (Ja.upd L p.i true)∧JPg F nt call ops c0 wb a0 e1 (l1++p::l2) trB e2 h2 s1 s2 eB hB d2 (Ja.upd L p.i true) (a.put p.o.dst u) d2.w:=by
  intro u d2 X XX hkn R V;refine⟨fun p' hp' hL=>hS p' hp' (wY hL).2,⟨hJ.sp,hJ.t,hJ.en,R,fun t=>by rw[X.z];exact hJ.z t,hJ.tb,?_,fun t v hv hall=>?_,XX,rfl,?_,fun q hq=>qH (hJ.b1 q hq),fun q hq=>?_,fun i' o' e'' hio hL he hb=>?_,fun p' hp' hL id hk q=>?_,hJ.nb⟩⟩
  ·cases p.o.dst<;>simpa [Act.put] using hJ.sz
  ·by_cases hd:p.o.dst=some t
   ·have h6:=hp.e;rw[hd]at h6;rw[hown t v hd hv,hd];exact⟨u,aEH (by rw[hJ.sz];exact h6.1) rfl,V⟩
   ·obtain⟨u2,m1,m2⟩:=hJ.pl t v hv fun p' hp' hd'=>(aAs (hall p' hp' hd')).resolve_left fun e=>hd (by rw[←hone p' hp' e];exact hd');exact⟨u2,by rw[aBV hd];exact m1,m2.xs X⟩
  ·cases p.o.dst<;>exact hJ.df
  ·have h3:=hAB q (by rw[hJ.sp];exact List.mem_append_right _ hq);unfold Ja.upd;rw[if_neg (fun e=>h3 (by rw[show q.1.i=p.i from e];exact List.mem_map_of_mem hmem))];exact hJ.b2 q hq
  ·rcases aAs hL with rfl|hL
   ·rw[ho]at hio;injection hio with hio;subst hio;exact qH (hdep _ he hb)
   ·exact qH (hJ.cl _ _ _ hio hL he hb)
  ·have hL2:=wY hL;rcases hkn id hk with k|k|k
   ·exact hJ.kn p' hp' hL2.2 id k q
   ·have h4:=hJ.nb p' hp';have h5:d.n=hB.n:=hJ.r.n;omega
   ·rcases apart hc ht hmem hp' (fun e=>hL2.1 (by rw[e])) with k3|k3<;>omega
 have fin:∀{u:Value} {d2:Cx},Xt d d2→Rl d2 wb hB→VR d2 p.v u→Sm F ops B (l1++p::l2) eB hB (Ja.upd L p.i true)∧JPg F nt call ops c0 wb a0 e1 (l1++p::l2) trB e2 h2 s1 s2 eB hB d2 (Ja.upd L p.i true) (a.put p.o.dst u) d2.w:=fun X R V=>fin0 X.xs (hJ.x.trans X) (fun j k=>(X.o j k).imp (fun q=>q) .inl) R V;cases hb:p.b with
 |true=>
  obtain⟨o2,m1,m2⟩:=hsame;have m1:ops[p.i]? =some o2:=(by simpa using dW m1);rw[ho]at m1;injection m1 with m1;subst m1;by_cases hmk:mkO F p.o.op=.n
  ·rcases m2 with m2|⟨m2,-⟩|⟨m2,-,x,v,u,m3,m4,m5,m6⟩
   ·rw[hmk]at m2;cases m2
   ·rw[hmk]at m2;cases m2
   have m5:op1 F call p.o.op eB hB=some u:=(aL1 hmk).trans m5;obtain⟨k0,b0,n1,n2,n3,n4,n5⟩:=aL2 m6;obtain⟨x0,n6,-⟩:=aEJ hmk m5;have hx0:x0=b0:=by
     rw[n6]at n3;have:(T.set x0 hB.h hB.n).get hB.n=some b0:=n3;rw[T.get_same]at this;injection this
   subst hx0;have hx:op1 F call p.o.op (eB.flt (look ops p.o)) hB=some (u.1,u.2):=(by rw[←rO (e:=eB) (fun x hx=>aBU hx),m5]);rw[n6]at hx;obtain⟨w,d',X,R,V,S⟩:=hopk p.i p.o _ _ _ _ ho hx d wb a f (hW.trans hb) b rest k cs;have hpv:v=p.v:=hown x v m3 m4;have hpy:=hp.y hb;obtain⟨x1,y1,y2⟩:=aEJ hmk hpy;have hk0:k0=p.h.n:=by
     have y2:p.v=sc (.p p.h.n 0)∨∃n m,p.v=sc (.sl p.h.n 0 n (some m)):=y2;rcases n5 with⟨n5,-⟩|⟨n,m,n5,-⟩<;>rcases y2 with y2|⟨n',m',y2⟩<;>rw[hpv,y2]at n5<;>cases n5<;>rfl
   have y1:p.h'=⟨p.h.h.set x1 p.h.n,Nat.succ p.h.n,p.h.n,p.h.l⟩:=y1;have hhn:p.h'.n=p.h.n+1:=(by rw[y1]);have hnk:¬d.k k0:=fun q=>hJ.kn p hmem hi k0 q (by omega);have hkk:d'.k hB.n∧((p.v=sc (.p k0 0)∧w=.pointer (some ⟨d'.r hB.n,0,none⟩))∨∃n m,p.v=sc (.sl k0 0 n (some m))∧w=.slice (some ⟨d'.r hB.n,0,none⟩) n m):=by
     rcases n5 with⟨n5,n5'⟩|⟨n,m,n5,n5'⟩
     ·rw[n5']at V;obtain⟨z1,z2⟩:=aG.1 V;exact⟨z1,.inl ⟨by rw[←hpv,n5],z2⟩⟩
     ·rw[n5']at V;obtain⟨z1,z2⟩:=aG.1 V;exact⟨z1,.inr ⟨n,m,by rw[←hpv,n5],z2⟩⟩
   obtain⟨R2,X2⟩:=aJX hJ.r X R hkk.1 n2 n4 hnk n1;have V2:VR (d.also d' k0 hB.n) p.v w:=by
     have hrk:(d.also d' k0 hB.n).r k0=d'.r hB.n:=if_pos rfl;rcases hkk.2 with⟨z1,z2⟩|⟨n,m,z1,z2⟩
     ·rw[z1];exact aG.2 ⟨.inr rfl,by rw[hrk];exact z2⟩
     ·rw[z1];exact aG.2 ⟨.inr rfl,by rw[hrk];exact z2⟩
   have hc0n:c0.n≤p.h.n:=(by rw[hc0];exact (later hc ht p.h (iL hmem)).1);have XX:Xt c0 (d.also d' k0 hB.n):=⟨hJ.x.n,fun id q=>.inl (hJ.x.k id q),fun id q=>q.elim (hJ.x.o id) fun q=>.inr (by rw[q,hk0];exact hc0n),fun id q=>(X2.r id (hJ.x.k id q)).trans (hJ.x.r id q),hJ.x.p.trans X.p,hJ.x.z⟩
   obtain⟨m1,m2⟩:=fin0 X2 XX (fun j q=>q.imp (fun q=>q) fun q=>.inr (by rw[q,hk0];omega)) R2 V2;exact⟨_,_,_,m1,m2,S⟩
  have hx:op1 F call p.o.op (eB.flt (look ops p.o)) hB=some (p.v,hB):=by
    rw[←rO (e:=eB) (fun x hx=>aBU hx)];rcases m2 with m2|⟨m2,-,x,v,u,m3,m4,m5,m6⟩|⟨m2,-⟩
    rotate_left 2
    ·exact absurd m2 hmk
    ·rw[rO (e:=eB) (e':=p.e) (fun x hx=>aOy heq hx)];have h3:Pm hB (op1 F call p.o.op p.e hB) (op1 F call p.o.op p.e p.h.lift):=aQH hpr m2;rw[h3,hp.y hb];rfl
    ·obtain⟨t,x2,hl⟩:=aJW m2;rw[hl]at m5⊢;have h3:u.2=hB:=aGs (v:=u.1) m5;have h4:u.1=p.v:=(by rw[←aQJ m6];exact hown x v m3 m4);have h5:op1 F call (.load t x2) eB hB=some u:=m5;rw[h5,←h3,←h4]
  obtain⟨u,d2,X,R,V,S⟩:=hopk p.i p.o _ _ _ _ ho hx d wb a f (hW.trans hb) b rest k cs;obtain⟨m1,m2⟩:=fin X R V;exact⟨_,_,_,m1,m2,S⟩
 |false=>
  obtain⟨hv,hh⟩:=hp.n hb;have S:=stepR_op_skip (P:=F.P) (b:=b) (a:=a) (k:=k) (cs:=cs) (w:=d.w) (ops:=ops) (i:=p.i) (rest:=rest) (by simp[ho,hW.trans hb]);simp only[ho,Option.bind_some]at S;obtain⟨m1,m2⟩:=fin (Xt.refl d) hJ.r (by rw[hv];exact wV);exact⟨_,_,_,m1,m2,.one S⟩
end
end Go.Proofs.YtpobejcofijjdaaGreatDoor.E
namespace Go.Proofs.YtpobejcofijjdaaGreatDoor.E
open Go Go.RowKit
open Ma Me K
section
variable {F:Cf} {nt fn:Nat} {call:dD} {ops:Array Oper} {e e1 e2:Env} {h h1 h2:H} {tr:List Tp} {trB:List (Tp × List Nat)} {q:Bool} {r:R}
theorem aQK{id:Nat}{p:List Nat × List (Nat × List Nat)}(hF:FOk F)(hc:fE call)(hpr:aBX F call)(hm:F.P.follows .mixedOrders=true)(hopk:∀(j:Nat) (o:Oper) (e:Env) (h:H) (v:AV) (h':H),ops[j]? =some o→op1 F call o.op e h=some (v,h')→rT F nt ops j o e h v h')
  (hx:uL F nt call ops p e h=some r):iZ F q nt fn (.region id ops true) e h r:=by
 obtain⟨hpl,hx⟩:=aD.1 hx;rw[bM]at hx;obtain⟨A,B⟩:=p;have hP:=aJV hpl;have hrm:=hP.rm;obtain⟨tr,e1,h1,hA0,ht,hx⟩:=aGC hx;obtain⟨trB,e2,h2,hB0,htB,rfl⟩:=aGD hx;have hA:tr.map Tp.i=A:=hA0;have hB:(trB.map fun q=>(q.1.i,q.2))=B:=hB0;clear hA0 hB0;subst hA;intro c wb a f b k cs _ _;have f1:Fr F c.drew wb nt h e a:=⟨f.r.drew,f.z,f.t.xt vP,f.b⟩
 have hopA:∀p∈tr,ops[p.i]? =some p.o:=fun p hp=>by
  obtain⟨s1,s2,he⟩:=List.append_of_mem hp;rw[he]at ht;simpa using dW ht.split.2.1.o
 have hfst:B.map Prod.fst=trB.map fun q=>q.1.i:=by rw[←hB,List.map_map];rfl
 have hltB:∀q∈trB,q.1.i<ops.size:=fun q hq=>by
  obtain⟨s1,s2,he⟩:=List.append_of_mem (show (q.1.i,q.2)∈B from by rw[←hB];exact List.mem_map_of_mem (f:=fun q:Tp × List Nat=>(q.1.i,q.2)) hq);obtain⟨o,ho,-⟩:=(hP.b s1 q.1.i q.2 s2 he).o;exact (Array.getElem?_eq_some_iff.1 ho).1
 have hopB:∀q∈trB,ops[q.1.i]? =some q.1.o:=by
  have key:∀{l:List (Tp × List Nat)} {eB:Env} {hB:H},TraceB F nt call ops.toList eB hB l e2 h2→∀q∈l,ops[q.1.i]? =some q.1.o:=by
   intro l
   induction l with
   |nil=>intro _ _ _ q hq;cases hq
   |cons x l ih=>
    intro eB hB ht q hq;cases ht with
    |cons hp hs ht2=>
     rcases List.mem_cons.1 hq with rfl|hq
     ·simpa using dW hp.o
     ·exact ih ht2 q hq
  exact key htB
 obtain⟨J,hJdef⟩:∃J:(Nat→Bool)→Act→World→Prop,J=fun L a' w'=>(∃g,JAg F nt ops c.drew wb a e h tr h1 h.bar (B.map Prod.fst) g L a' w')∨∃s1 s2 eB hB d,s1≠[]∧Sm F ops B tr eB hB L∧JPg F nt call ops c.drew wb a e1 tr trB e2 h2 s1 s2 eB hB d L a' w':=⟨_,rfl⟩
 have hstart:J (fun _=>false) a c.drew.w:=by
  rw[hJdef];exact .inl ⟨_,JAg.start hc ht f1⟩
 have hstep:∀(L:Nat→Bool) (a':Act) (w':World) (i:Nat) (o:Oper),ops[i]? =some o→L i=false→(∀e∈o.after,Region.binds .any e=true→L e.on=true)→J L a' w'→
     ∀rest,∃a'' w'',J (Ja.upd L i true) a'' w''∧Steps F.P (lone (b.atR a' (.inRegion ops (i::rest)::k)) cs w') (lone (b.atR a'' (.inRegion ops rest::k)) cs w''):=by
  intro L a' w' i o ho hi hdep hJ rest;rw[hJdef]at hJ⊢;have hbst:∀{s1 s2 eB hB d},JPg F nt call ops c.drew wb a e1 tr trB e2 h2 s1 s2 eB hB d L a' w'→i∈B.map Prod.fst→∃a'' w'',((∃g,JAg F nt ops c.drew wb a e h tr h1 h.bar (B.map Prod.fst) g (Ja.upd L i true) a'' w'')∨∃s1 s2 eB hB d,s1≠[]∧Sm F ops B tr eB hB (Ja.upd L i true)∧JPg F nt call ops c.drew wb a e1 tr trB e2 h2 s1 s2 eB hB d (Ja.upd L i true) a'' w'')∧Steps F.P (lone (b.atR a' (.inRegion ops (i::rest)::k)) cs w') (lone (b.atR a'' (.inRegion ops rest::k)) cs w''):=fun hJB hiB=>by
   obtain⟨a2,w2,s1',s2',eB',hB',d',m1,m2,k1,k2⟩:=hJB.step hopk hP hopA hB hrm ho hi hdep hiB b rest k cs;exact⟨a2,w2,.inr ⟨s1',s2',eB',hB',d',m1,m2,k1⟩,k2⟩
  have hmem:=hP.all i (Array.getElem?_eq_some_iff.1 ho).1;rcases hJ with⟨g,hJ⟩|⟨s1,s2,eB,hB',d,hne,hS,hJ⟩
  ·rcases List.mem_append.1 hmem with hiA|hiB
   ·obtain⟨p,hp,rfl⟩:=List.mem_map.1 hiA;have hoo:o=p.o:=by
     have:=hopA p hp;rw[ho]at this;injection this
    subst hoo;obtain⟨l1,l2,he⟩:=List.append_of_mem hp;rw[he]at ht hP hJ;obtain⟨a2,w2,g2,k1,k2⟩:=hJ.step hF f1.b hc hopk ht hP hi hdep b rest k cs;rw[←he]at k1;exact⟨a2,w2,.inl ⟨g2,k1⟩,k2⟩
   ·have hn:=(later hc ht h1 eU).1;have lt:∀id,c.drew.k id→id<h.n:=fun id k=>(by have:=f1.r.k id k;rw[f1.r.n]at this;exact this);have X:Xt c.drew (g.lo h1.n):=⟨by rw[f1.r.n];exact hn,fun id k=>⟨hJ.x.k id k,Nat.lt_of_lt_of_le (lt id k) hn⟩,fun id k=>by rw[f1.r.n];exact hJ.o id k.1,hJ.x.r,hJ.p,hJ.x.z⟩
    have hJP:JPg F nt call ops c.drew wb a e1 tr trB e2 h2 [] trB e1 (h1.back h.bar) (g.lo h1.n) L a' w':=by
     refine⟨rfl,htB,fun t _=>rfl,hJ.st h1 eU,hJ.z,f1.b,hJ.sz,fun t v hv hall=>?_,X,hJ.w,hJ.df,fun q hq=>(by cases hq),fun q hq=>hJ.nb _ (by rw[hfst];exact List.mem_map_of_mem (f:=fun q:Tp × List Nat=>q.1.i) hq),hJ.cl,fun p hp hL id hk q=>?_,fun p hp=>?_⟩
     rotate_left
     ·rcases hJ.kn id hk.1 with k1|⟨p',hp',hL',k1,k2⟩
      ·have:=(later hc ht p.h (iL hp)).1;omega
      ·rcases apart hc ht hp hp' (fun e=>by rw[e,hL']at hL;cases hL) with k3|k3<;>omega
     ·obtain⟨s1,s2,he⟩:=List.append_of_mem hp;rw[he]at ht;exact (later hc ht.split.2.2 h1 eU).1
     rcases ht.get (fun q hq=>hq.e) hv with⟨q,hq,hd,rfl⟩|⟨hno,hv⟩
     ·obtain⟨u,k1,k2⟩:=hJ.v q hq (hall q hq hd) t hd;refine⟨u,k1,k2.xs (aAr ?_)⟩;obtain⟨s1,s2,he⟩:=List.append_of_mem hq;rw[he]at ht;exact (later hc ht.split.2.2 h1 eU).1
     ·obtain⟨u,k1,k2⟩:=hJ.b t v hv (fun q hq hd=>absurd hd (hno q hq));exact⟨u,k1,k2.xs (aAr hn)⟩
    exact hbst hJP hiB
  ·rcases List.mem_append.1 hmem with hiA|hiB
   ·obtain⟨p,hp,rfl⟩:=List.mem_map.1 hiA;have hoo:o=p.o:=by
     have:=hopA p hp;rw[ho]at this;injection this
    subst hoo;obtain⟨l1,l2,he⟩:=List.append_of_mem hp;rw[he]at ht hP hJ hS hopA;obtain⟨a2,w2,d2,m1,k1,k2⟩:=hJ.late hc f1.r.n hpr hopk ht hP hopA hopB hB hS hi hdep b rest k cs;rw[←he]at k1 m1;exact⟨a2,w2,.inr ⟨s1,s2,eB,hB',d2,hne,m1,k1⟩,k2⟩
   ·exact hbst hJ hiB
 have hL0:(fun _:Nat=>false)=fun j=>(Array.replicate ops.size false).getD j false:=by
  funext j;simp[Array.getD]
 obtain⟨L',a',w',hdone,hJ',S⟩:=aQE (P:=F.P) (b:=b) (k:=k) (cs:=cs) (fun L hL=>hP.ready hL) hstep ops.size (c.w.tape c.w.drawn (.order b.fn id)) (Array.replicate ops.size false) (fun _=>false) a c.drew.w hL0 (by simp) (Ja.left_le _) hstart;have S0:=stepR_region_draw (P:=F.P) (b:=b) (a:=a) (k:=k) (cs:=cs) (w:=c.w) (ops:=ops) (id:=id);have hsch:Region.schedule (F.P.follows .mixedOrders) ops (c.w.tape c.w.drawn (.order b.fn id))=Region.linearise.go .any ops ops.size (c.w.tape c.w.drawn (.order b.fn id)) (Array.replicate ops.size false) []:=by
  simp only[Region.schedule,hm,Bool.true_or,if_true];rfl
 rw[hsch]at S0;have key:∃d,Fr F d wb nt h2 e2 a'∧Xt c.drew d∧d.w=w'∧a'.defers=a.defers:=by
  rw[hJdef]at hJ';rcases hJ' with⟨g,hJ⟩|⟨s1,s2,eB,hB',d,-,-,hJ⟩
  ·obtain⟨f2,X,hw⟩:=hJ.finish hc ht f1 (fun p hp=>hdone _ (Array.getElem?_eq_some_iff.1 (hopA p hp)).1);have hnil:trB=[]:=by
    cases htr:trB with
    |nil=>rfl
    |cons x y=>
     have hx:x∈trB:=(by rw[htr];exact List.mem_cons_self);have h1:=hJ.nb x.1.i (by rw[hfst];exact List.mem_map_of_mem (f:=fun q:Tp × List Nat=>q.1.i) hx);rw[hdone _ (hltB x hx)]at h1;cases h1
   rw[hnil]at htB;obtain⟨q1,q2⟩:=aBW htB;rw[q1,q2];exact⟨_,f2,X,hw,hJ.df⟩
  ·have hnil:s2=[]:=by
    cases hs:s2 with
    |nil=>rfl
    |cons x y=>
     have hx:x∈s2:=(by rw[hs];exact List.mem_cons_self);have h1:=hJ.b2 x hx;rw[hdone _ (hltB x (by rw[hJ.sp];exact List.mem_append_right _ hx))]at h1;cases h1
   have ht2:=hJ.t;rw[hnil]at ht2;obtain⟨q1,q2⟩:=aBW ht2;rw[q1,q2];exact⟨d,⟨hJ.r,hJ.z,⟨hJ.sz,fun t v hv=>hJ.pl t v hv fun p hp _=>hdone _ (Array.getElem?_eq_some_iff.1 (hopA p hp)).1⟩,hJ.tb⟩,hJ.x,hJ.w,hJ.df⟩
 obtain⟨d,f2,X,hw,hdf⟩:=key;subst hw;exact⟨a',d,⟨vP.trans X,f2,[],hdf,trivial,fun _=>rfl⟩,.head S0 S⟩
end
end Go.Proofs.YtpobejcofijjdaaGreatDoor.E
