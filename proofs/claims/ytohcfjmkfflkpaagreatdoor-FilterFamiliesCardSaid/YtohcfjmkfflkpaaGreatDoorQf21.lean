/- FilterFamilies holds. No condition. -/
import Derived.Test.YtohcfjmkfflkpaaGreatDoorQf18
import Derived.Test.YtohcfjmkfflkpaaGreatDoorQf20
set_option maxRecDepth 100000
namespace Go.Proofs.YtohcfjmkfflkpaaGreatDoor
namespace J
open Go Go.RowKit
open Ma Me K E
section
variable {F:Cf} {tys:List (Nat × TI)} {nt fn β:Nat} {g h h':H} {vs:List AV} {e:Env} {sy:List (Nat × Y)} {s:List (Nat × AV)} {ws ws':List W} {ids ids':List Nat} {zs zs':List (Nat × B)} {y:Y} {v u:AV} {st:Bool} {k:Y→List W→Prop}
theorem aLo:∀l:List SV,(l.map fun x=>[x]).flatten=l
 | []=>rfl
 |x::l=>congrArg (x::·) (aLo l)
theorem aP3{ze:List SV}(n:Nat):(fJ ze n).length=n*ze.length:=by
 rw[aF0,tJ fun x hx=>by rw[(List.mem_replicate.1 hx).2],List.length_replicate]
theorem aDa{α γ:Type}{P:α→γ→Prop}:∀{l:List α} {m:List γ},All P l m→l.length=m.length
 | [],[],_=>rfl
 |_::_,_::_,h=>congrArg Nat.succ (aDa h.2)
theorem gQ.sc{ty n:Nat}{L:List (List SV)}{P:Nat→Prop}(hl:gQ F ty n L h P v):∃x,v=E.sc x:=by
 rcases hl with⟨h1,-⟩|⟨_,_,_,_,h1,-⟩|⟨_,_,_,h1,-⟩<;>exact⟨_,h1⟩
theorem aLp{q:(Nat × Nat × List (List SV)) × List W}(hS:Sy F β g vs e h sy ws ids s)(hy:YR F g vs h (zl ids ws) ws ids y v)(hx:lsP ws y=some q):Sy F β g vs e h sy q.2 ids s∧(∀id,id<h.n→Fr (zl ids ws) id→Fr (zl ids q.2) id)∧gQ F q.1.1 q.1.2.1 q.1.2.2 h (Fr (zl ids q.2)) v:=by
 unfold lsP at hx;split at hx
 ·cases hx;exact⟨hS,fun _ _ h=>h,hy.1.to (Nat.le_refl _) fun _ _ q=>⟨rfl,q.1⟩⟩
 ·obtain⟨w,h1,hx⟩:=aA.1 hx;split at hx
  ·cases hx;obtain⟨id,n',ha,rfl,h2,-,h3⟩:=hy;have:=h3 _ _ _ h1;subst this;obtain⟨j,k1,-,k3,-,-,-⟩:=hS.own ha h1 rfl;obtain⟨h4,h5⟩:=hS.pub0 ha h1 rfl;refine⟨h4,fun i _ hf p hp=>?_,(hS.lst ha h1 h2).to (Nat.le_refl _) fun q _ hq=>⟨rfl,hq▸h5⟩⟩;rw[k3 .x rfl]at hp;exact hf p (List.mem_of_mem_eraseIdx hp)
  ·cases hx
 ·cases hx
theorem aSp:∀{l:List (Nat × Operand)} {i:Nat} {ws:List W} {r:List (Nat × Nat × List (List SV)) × List W},Sy F β g vs e h sy ws ids s→lsY sy i ws l=some r→∀id,id<h.n→Fr (zl ids ws) id→Fr (zl ids r.2) id:=by
 intro l
 induction l with
 |nil=>
  intro i ws r hS hx;cases hx;exact fun _ _ h=>h
 |cons p l ih=>
  intro i ws r hS hx;obtain⟨-,hx⟩:=aD.1 (show cb (Nat.beq p.1 i) (ob (yv sy p.2) fun y=>ob (lsP ws y) fun q=>ob (lsY sy (Nat.succ i) q.2 l) fun r=>some (q.1::r.1,r.2)) none=some r from hx);obtain⟨y,h2,hx⟩:=aA.1 hx;obtain⟨q,h3,hx⟩:=aA.1 hx;obtain⟨r2,h4,hx⟩:=aA.1 hx;cases hx;obtain⟨v,h5,h6⟩:=hS.r.ev h2;obtain⟨hS2,h7,h8⟩:=aLp hS h6 h3;exact fun id q1 q2=>ih hS2 h4 id q1 (h7 id q1 q2)
theorem aSq:∀{l:List (Nat × Operand)} {i:Nat} {ws:List W} {r:List (Nat × Nat × List (List SV)) × List W},Sy F β g vs e h sy ws ids s→lsY sy i ws l=some r→∃svs,Sy F β g vs e h sy r.2 ids s∧All (fun p x=>gQ F p.1 p.2.1 p.2.2 h (Fr (zl ids r.2)) (sc x)) r.1 svs∧∀pre rest:List SV,pre.length=i→rest.length=r.1.length→gU (fun f=>some (Nat.mul f 1,1)) s l (pre++rest)=some (pre++svs):=by
 intro l
 induction l with
 |nil=>
  intro i ws r hS hx;cases hx;exact⟨[],hS,trivial,fun pre rest _ h2=>by rw[List.eq_nil_of_length_eq_zero h2];rfl⟩
 |cons p l ih=>
  intro i ws r hS hx;obtain⟨h1,hx⟩:=aD.1 (show cb (Nat.beq p.1 i) (ob (yv sy p.2) fun y=>ob (lsP ws y) fun q=>ob (lsY sy (Nat.succ i) q.2 l) fun r=>some (q.1::r.1,r.2)) none=some r from hx);obtain⟨y,h2,hx⟩:=aA.1 hx;obtain⟨q,h3,hx⟩:=aA.1 hx;obtain⟨r2,h4,hx⟩:=aA.1 hx;cases hx;obtain⟨v,h5,h6⟩:=hS.r.ev h2;obtain⟨hS2,h7,h8⟩:=aLp hS h6 h3;obtain⟨svs,hS3,h9,h10⟩:=ih hS2 h4;obtain⟨x,rfl⟩:=h8.sc;have hf:=aSp hS2 h4;refine⟨x::svs,hS3,⟨h8.to (Nat.le_refl _) fun id q1 q2=>⟨rfl,hf id q1 q2⟩,h9⟩,fun pre rest e1 e2=>?_⟩
  match rest,e2 with
  |z::rest,e2=>
   show ob (some (Nat.mul p.1 1,1)) (fun q=>ob (evs s p.2) fun v=>cells v fun c=>cb (Nat.beq (len c) q.2) (ob (dU q.1 c (pre++z::rest)) (gU (fun f=>some (Nat.mul f 1,1)) s l)) none)=_;rw[h5];show ob (dU (Nat.mul p.1 1) [x] (pre++z::rest)) (gU (fun f=>some (Nat.mul f 1,1)) s l)=_;have e3:dU (Nat.mul p.1 1) [x] (pre++z::rest)=some (pre++x::rest):=by
      have e4:Nat.mul p.1 1=pre.length:=(by rw[show Nat.mul p.1 1=p.1 from Nat.mul_one _,aM.1 h1,e1]);rw[e4,pW];refine⟨by simp,?_⟩;rw[List.take_left' rfl,show pre++z::rest=(pre++[z])++rest by simp,List.drop_left' (by simp)];simp
   rw[e3];have e5:=h10 (pre++[x]) rest (by rw[List.length_append,e1];rfl) (Nat.succ.inj e2);rw[show (pre++[x])++rest=pre++x::rest by simp,show (pre++[x])++svs=pre++x::svs by simp]at e5;exact e5
theorem RS.cons{d:Nat}(hr:RS F g vs h zs ws ids sy s)(hy:YR F g vs h zs ws ids y v):RS F g vs h zs ws ids ((d,y)::sy) ((d,v)::s):=⟨rfl,hy,hr⟩
theorem Sy.newp{w:W}{b:B}(hS:Sy F β g vs e h sy ws ids s)(hb:w.b=some b)(hw:WOk F w)(hx:k (.p (E.len ws) 0) (w::ws)):Aft F β g vs e sy k (sc (.p h.n 0)) (nwH h b):=(hS.new hb hw).keep hx ⟨h.n,at_new hS.len,rfl⟩
theorem Sy.news{ty n:Nat}{L:List (List SV)}{b:B}(hS:Sy F β g vs e h sy ws ids s)(hb:(W.l ty n L).b=some b)(hw:WOk F (.l ty n L))(hx:k (.s (E.len ws) (some n)) (.l ty n L::ws)):Aft F β g vs e sy k (sc (.sl h.n 0 n (some n))) (nwH h b):=
 (hS.new hb hw).keep hx ⟨h.n,n,at_new hS.len,rfl,fun _ q=>by injection q with q;exact Nat.le_of_eq q,fun q=>(by cases q),fun ty m L hq=>by rw[aI7]at hq;cases hq;rfl⟩
theorem PtE.imp{ty:Nat}{c:List SV}{P:Nat→Prop}(hp:(∃id off b,v=sc (.p id off)∧h.h.get id=some b∧dG c.length (drp off b.c)=some c∧id<h.n∧P id)∨∃ad x i,v=sc (.v (.pointer (some ad)))∧c=[x]∧F.ro ty ad=some (sc x)∧F.ti ty=some i∧i.d.ag=false)(k:∀id,id<h.n→P id→Fr zs id):PtE F h zs ty c v:=by
 rcases hp with⟨id,off,b,h1,h2,h3,h4,h5⟩|hp
 ·exact .inl ⟨id,off,b,h1,h2,h3,h4,k id h4 h5⟩
 ·exact .inr hp
theorem aP4{el m:Nat}{gg:TI}(ht:F.ti el=some gg)(hg:gg.d.ag=true)(he:elY el y=true)(hy:YR F g vs h (zl ids ws) ws ids y v)(hx:aAf ws y m k):J.noC v:=by
 unfold aAf at hx;split at hx
 ·exact hy.1.noC (by rw[aM.1 (show Nat.beq _ el=true from he)];exact ht) hg
 ·obtain⟨id,n,-,rfl,-⟩:=hy;exact fun a n cap q=>by cases q
 ·have hy:v=sc .ns:=hy;subst hy;exact fun a n cap q=>by cases q
 ·exact hx.elim
theorem aTQ{t el m j id off z:Nat}{i:TI}{x w:Operand}{kk:IntKind}{Q:AV→H→Prop}(hS:St β g e s h zs [] [])(ht:F.ti t=some i)(hd:i.d=.ar m el)(hz:sz F el=some z)(hx:evs s x=some (sc (.p id off)))(hy:evs s w=some (sc (.i kk (.ofNat j))))(hj:Nat.blt j m=true)(kq:Q (sc (.p id (off+j*z))) h):Xop F (.indexAddr t x w) e h Q:=
 .now (fun _=>by
  show oIA F e h t x w=_;unfold oIA;rw[ht,aZ hS.k hy]
  show ob (ev e x) (fun v=>one v fun s=>(match i.d,s with
   | .sl el,.sl id off n _=>ob (sz F el) fun z=>cb (Nat.blt j n) (vh (.p id (Nat.add off (Nat.mul j z))) h) none
   | .ar n el,.p id off=>ob (sz F el) fun z=>cb (Nat.blt j n) (vh (.p id (Nat.add off (Nat.mul j z))) h) none
   | .sl el,.v x=>ob (sz F el) fun z=>roA h j z x
   | .ar n el,.v x=>ob (sz F el) fun z=>cb (Nat.blt j n) (roF h (Nat.mul j z) x) none
   |_,_=>none))=_
  rw[aZ hS.k hx,hd];show ob (sz F el) (fun z=>cb (Nat.blt j m) (vh (.p id (Nat.add off (Nat.mul j z))) h) none)=_;rw[hz];show cb (Nat.blt j m) _ none=_;rw[hj];rfl) kq
theorem aOf{t ty n j:Nat}{L:List (List SV)}{P:Nat→Prop}{i:TI}{x z:Operand}{kk:IntKind}{c:List SV}(hS:St β g e s h zs [] [])(ht:F.ti t=some i)(hd:i.d=.sl ty)(hx:evs s x=some v)(hz:evs s z=some (sc (.i kk (j:Int))))(hl:gQ F ty n L h P v)(hj:L[j]? =some c):∃u,oIA F e h t x z=some (u,h)∧((∃id off b,u=sc (.p id off)∧h.h.get id=some b∧dG c.length (drp off b.c)=some c∧id<h.n∧P id)∨∃ad x i,u=sc (.v (.pointer (some ad)))∧c=[x]∧F.ro ty ad=some (sc x)∧F.ti ty=some i∧i.d.ag=false):=by
 have hlt:=(List.getElem?_eq_some_iff.1 hj).1;rcases hl with⟨-,-,r1⟩|⟨id,cap,c2,i2,rfl,-,r3,r4,r5,r6,r7,r8,r9⟩|⟨a,cap,i2,rfl,r3,r4,r5,r6,r7⟩
 ·rw[r1]at hlt;cases hlt
 ·refine⟨_,aNW hS ht hd (szF r7) hx hz (by rw[←r3];exact hlt),.inl ⟨id,_,_,rfl,r4,?_,r6,r9⟩⟩;rw[Nat.zero_add,r8 c (List.mem_of_getElem? hj)];exact aN9 r8 r5 hj
 ·obtain⟨y,rfl,k1⟩:=r7 j c hj;obtain⟨u,h',⟨m,k2⟩,k3⟩:=aTp (F:=F) (j:=j) (Q:=fun u h'=>u=sc (.v (.pointer (some (a.add (j*1)))))∧h'=h) hS ht hd (by rw[szF r4,r6]) hx hz rfl (by rw[←r3];exact hlt) ⟨rfl,rfl⟩;obtain⟨rfl,rfl⟩:=k3;exact⟨_,k2 m (Nat.le_refl _),.inr ⟨_,y,i2,rfl,rfl,k1,r4,r5⟩⟩
theorem zP{o:Op}(ht:∀p∈tys,F.ti p.1=some p.2)(hlk:Lk g)(hS:Sy F β g vs e h sy ws ids s)(hb:β≤h.n)(hw:st=true→β≤g.n)(hx:vop F tys st o sy ws k):Xop F o e h (Aft F β g vs e sy k):=by
 unfold vop at hx;split at hx
 ·obtain⟨y,h1,h2⟩:=aG hx;obtain⟨v,h3,h4⟩:=hS.r.ev h1;exact aRw hS.st h3 (hS.keep h2 h4)
 ·obtain⟨y,h1,h2⟩:=aG hx;obtain⟨v,h3,h4⟩:=hS.r.ev h1;exact aRx hS.st h3 (hS.keep h2 h4)
 ·obtain⟨y1,h1,hx⟩:=aG hx;obtain⟨v1,h3,h4⟩:=hS.r.ev h1;split at hx
  ·obtain⟨y,h5,hx⟩:=aG hx;obtain⟨v,h6,h7⟩:=hS.r.ev h5;have h4:v1=_:=h4;subst h4;exact aKF hS.st h3 h6 (hS.keep hx h7)
  ·exact hx.elim
 ·obtain⟨y1,h1,hx⟩:=aG hx;obtain⟨v1,h3,h4⟩:=hS.r.ev h1;split at hx
  ·obtain⟨p,h5,hx⟩:=aG hx;have h4:v1=_:=h4;subst h4;exact aIA hS.st h3 h5 (hS.keep hx rfl)
  ·obtain⟨r,h5,hx⟩:=aG hx;obtain⟨ps,h6,rfl⟩:=h4;rw[jY,List.head?_drop]at h5;obtain⟨p,h7,h8⟩:=aF2 h6 h5;exact aIA hS.st h3 (by rw[jY,List.head?_drop];exact h7) (hS.keep hx (aOc h8))
  ·exact hx.elim
 ·obtain⟨i,h1,hx⟩:=tyL'_ok ht hx;obtain⟨q,h2,hx⟩:=aG hx;obtain⟨j,h3,hx⟩:=tyL'_ok ht hx;obtain⟨h4,hx⟩:=cbT hx;obtain⟨y,h5,hx⟩:=aG hx;obtain⟨v,h6,h7⟩:=hS.r.ev h5;split at hx
  ·obtain⟨id,ha,rfl⟩:=h7;exact aRy hS.st h1 h2 (szF h3) h4 h6 (hS.keep hx ⟨id,ha,rfl⟩)
  ·exact hx.elim
 ·obtain⟨i,h1,hx⟩:=tyL'_ok ht hx;obtain⟨y,h5,hx⟩:=aG hx;obtain⟨v,h6,h7⟩:=hS.r.ev h5;split at hx
  ·obtain⟨rfl,hk⟩:=cbE hx;obtain⟨h8,hk⟩:=cbF hk;obtain⟨h9,hk⟩:=cbT hk;obtain⟨x,h10,h11⟩:=h7;exact .now (fun _=>aSi hS.st h10 h1 (aM.1 h9).symm (by rw[h8];rfl) h6) (hS.keep hk ⟨h11.to (Nat.le_refl _) fun id _ q=>⟨rfl,q,fun q=>by cases q⟩,fun i q=>by cases q⟩)
  ·obtain⟨c,hx,h8⟩:=aF5 hS h1 h7 hx;obtain⟨u,h10,hx⟩:=aG hx;exact .now (fun _=>h8 _ _ h6 h10) (hS.keep hx rfl)
 ·obtain⟨hst,hx⟩:=cbT hx;obtain⟨i,h1,hx⟩:=tyL'_ok ht hx;obtain⟨y2,h10,hx⟩:=aG hx;obtain⟨v2,h11,hx⟩:=aG hx;obtain⟨v3,h12,h13⟩:=hS.r.ev h10;have:=nL h11 h13;subst this;split at hx
  ·obtain⟨h15,hx⟩:=cbT hx;rw[aT]at h15;obtain⟨y,h5,hx⟩:=aG hx;obtain⟨v,h6,h7⟩:=hS.r.ev h5;split at hx
   ·obtain⟨w,h14,hx⟩:=aG hx;split at hx
    ·obtain⟨c,h16,hx⟩:=aG hx;obtain⟨h17,hx⟩:=cbT hx;obtain⟨id,ha,rfl⟩:=h7;obtain⟨-,-,-,-,h18,-,h19⟩:=hS.own ha h14 rfl;exact aSj hS.st (Nat.le_trans (hw hst) h18) (szF h1) h6 h12 (aM.1 h15) h19 h16 h17 ((hS.put ha h14 rfl (w':=.c ⟨_,c⟩) rfl trivial (fun _ _ _ q=>by cases q)).keep hx rfl)
    ·exact hx.elim
   ·obtain⟨w,h14,hx⟩:=aG hx;split at hx
    ·obtain⟨rfl,hk⟩:=cbE hx;have hx:=hk;obtain⟨h17,h20,hx⟩:=cbT hx;obtain⟨id,off,ha,rfl,h21⟩:=h7;obtain⟨-,-,-,-,h18,-,h19⟩:=hS.own ha h14 rfl;obtain⟨r1,r2,i3,r3,r4⟩:=hS.ok _ (List.mem_of_getElem? h14);rw[h1]at r3;injection r3 with r3;subst r3;obtain⟨rfl,-⟩:=h21 _ _ _ _ h14 h1
     exact aSj hS.st (Nat.le_trans (hw hst) h18) (szF h1) h6 h12 (aM.1 h15) h19 (aSh (fun x hx=>(r4 x hx).1) (by rw[r1];exact h20) (aM.1 h15)) (aF6 r2 (aA0.2 fun x hx=>(r4 x hx).2))
      ((hS.put ha h14 rfl (w':=.l _ _ _) rfl ⟨by rw[List.length_set];exact r1,r2,i,h1,fun x hx=>by
       rcases List.mem_or_eq_of_mem_set hx with hx|rfl
       ·exact r4 x hx
       ·exact⟨aM.1 h15,h17⟩⟩ (fun _ _ _ q=>by cases q;exact⟨_,rfl⟩)).keep hx rfl)
    ·exact hx.elim
   ·exact hx.elim
  ·exact hx.elim
 ·obtain⟨i,h1,hx⟩:=tyL'_ok ht hx;exact .now (fun _=>by show nE F h _=_;unfold nE;rw[h1];exact qV) (hS.newp (w:=.c ⟨_,i.ze⟩) rfl trivial hx)
 ·obtain⟨y,h1,hx⟩:=aG hx;obtain⟨v,h2,hx⟩:=aG hx;obtain⟨v3,h3,h4⟩:=hS.r.ev h1;have:=nL h2 h4;subst this;split at hx
  ·exact .now (fun _=>by show uS e h _ _=_;unfold uS;rw[aZ hS.st.k h3];exact (show (h.nw _ fun a h=>vh (.p a 0) h)=_ from qV)) (hS.newp (w:=.c ⟨_,_⟩) rfl trivial hx)
  ·exact hx.elim
 ·obtain⟨i,h1,hx⟩:=tyL'_ok ht hx;split at hx
  ·rename_i fs hd;obtain⟨pl,h2,hx⟩:=aFk ht hx;obtain⟨c,h3,hx⟩:=aG hx;exact aHn hS.st h1 hd h2 (kS hS.r h3) (hS.keep hx rfl)
  ·exact hx.elim
 ·obtain⟨i,h1,hx⟩:=tyL'_ok ht hx;obtain⟨el,h2,hx⟩:=aG hx;obtain⟨j,h3,hx⟩:=tyL'_ok ht hx;obtain⟨h4,hx⟩:=cbT hx;split at hx
  ·rename_i q l ws' hl;obtain⟨h5,hk⟩:=cbT hx;obtain⟨h6,hk⟩:=cbT hk;obtain⟨h7,hk⟩:=cbT hk;rw[aT]at h6 h7;have h5:=aM.1 h5;obtain⟨svs,hS2,h8,h9⟩:=aSq hS hl;have hn:=aM.1 h6;have hlen:svs.length=(q::l).length:=(aDa h8).symm;have hc:=h9 [] (fJ j.ze (q::l).length) rfl (by rw[aP3,(aM.1 h7),Nat.mul_one]);rw[hn,←h5]at hc;refine aSl hS.st h1 h2 h3 h4 hc ((hS2.xh (aOd _)).keep hk ⟨svs,.inr (.inl ⟨h.n,some _,svs,j,by rw[hn],fun q hq=>(by injection hq with hq;exact Nat.le_of_eq (hn.trans hq)),by rw[List.length_map,hlen],T.get_same,by rw[aLo];exact List.prefix_refl _,Nat.lt_succ_self _,h3,fun x hx=>?_,fun p hp q=>?_⟩),h8.imp fun _ _ q=>q.to (Nat.le_succ _) fun id q1 q2=>⟨aAg (Nat.ne_of_lt q1),q2⟩⟩)
   ·obtain⟨a,-,rfl⟩:=List.mem_map.1 hx;exact h5.symm
   ·have:=(hS2.st.w.1 p hp).2.1;omega
  obtain⟨c,h5,hx⟩:=aG hx;obtain⟨h6,hx⟩:=cbT hx;obtain⟨h7,hx⟩:=cbF hx;obtain⟨h8,hx⟩:=cbT hx;rw[aT]at h8;obtain⟨q1,q2,q3⟩:=aF1 (aM.1 h8);refine aSl hS.st h1 h2 h3 h4 (kS hS.r h5) (hS.news (b:=⟨el,c⟩) (by show some (B.mk el (rA j.sz _ c).flatten)=_;rw[q1]) ⟨q2,uA.1 h7,j,h3,fun x hx=>⟨q3 x hx,?_⟩⟩ hx);exact aA0.1 (by rw[q1];exact h6) x hx
 ·obtain⟨i,h1,hx⟩:=tyL'_ok ht hx;obtain⟨el,h2,hx⟩:=aG hx;obtain⟨j,h3,hx⟩:=tyL'_ok ht hx;obtain⟨y1,h4,hx⟩:=aG hx;obtain⟨y2,h5,hx⟩:=aG hx;obtain⟨v1,h6,h7⟩:=hS.r.ev h4;obtain⟨v2,h8,h9⟩:=hS.r.ev h5;obtain⟨x1,rfl,hx⟩:=dY hx h7;obtain⟨x2,rfl,hx⟩:=dY hx h9;split at hx
  ·obtain⟨rfl,n,rfl,⟨h10,h11⟩,hk⟩:=hx;have hx:=hk;obtain⟨h12,hx⟩:=cbT hx;obtain⟨h13,hx⟩:=cbF hx;obtain⟨h14,hx⟩:=cbT hx;rw[aT]at h14;exact aSk hS.st h1 h2 h3 h6 h8 h10 h11 (hS.news (b:=⟨el,fJ j.ze n⟩) (by show some (B.mk el (List.replicate n j.ze).flatten)=_;rw[aF0]) ⟨List.length_replicate,uA.1 h13,j,h3,fun x hx=>by
    have:=(List.mem_replicate.1 hx).2;subst this;exact⟨aM.1 h14,h12⟩⟩ hx)
  ·exact hx.elim
 ·obtain⟨i,h1,hx⟩:=tyL'_ok ht hx;split at hx
  ·rename_i el hd;obtain⟨y1,h4,hx⟩:=aG hx;obtain⟨v1,h6,h7⟩:=hS.r.ev h4;obtain⟨x1,rfl,hx⟩:=dY hx h7;obtain⟨y2,h5,hx⟩:=aG hx;obtain⟨v2,h8,h9⟩:=hS.r.ev h5;split at hx
   ·obtain⟨j,rfl,hk⟩:=hx;have hx:=hk;split at hx
    ·obtain⟨rfl,c,q2,hk⟩:=cbE hx;have hx:=hk;have hlt:=(List.getElem?_eq_some_iff.1 q2).1;rcases aOf hS.st h1 hd h8 h6 h9.1 q2 with⟨w,k1,k2⟩
     exact .now (fun _=>k1) (hS.keep hx (PtE.imp k2 fun _ _ q=>q.1))
    ·obtain⟨rfl,p,q2,hz⟩:=cbE hx;obtain⟨svs,r1,r2⟩:=h9;obtain⟨x,r3,r4⟩:=aF2 r2 q2;rcases aOf hS.st h1 hd h8 h6 r1 (show (svs.map fun x=>[x])[j]? =some [x] by rw[List.getElem?_map,r3];rfl) with⟨w,k1,k2⟩
     exact .now (fun _=>k1) (hS.keep hz ⟨x,PtE.imp k2 fun _ _ q=>q,r4⟩)
    ·obtain⟨w,q2,hx⟩:=aG hx;split at hx
     ·obtain⟨rfl,q3,hz⟩:=cbE hx;obtain⟨id,n',ha,rfl,-,-,hn⟩:=h9;have:=hn _ _ _ q2;subst this;obtain⟨-,-,i2,r3,-⟩:=hS.ok _ (List.mem_of_getElem? q2);refine .now (fun _=>aNW hS.st h1 hd (szF r3) h8 h6 q3) (hS.keep hz ⟨id,_,ha,rfl,fun ty m L i hq hi=>?_⟩);rw[q2]at hq;cases hq;rw[r3]at hi;cases hi;exact⟨Nat.zero_add _,q3⟩
     ·exact hx.elim
    ·exact hx.elim
   ·exact hx.elim
  ·rename_i m el hd;obtain⟨gg,h3,hx⟩:=tyL'_ok ht hx;obtain⟨y1,h4,hx⟩:=aG hx;obtain⟨v1,h6,h7⟩:=hS.r.ev h4;obtain⟨x1,rfl,hx⟩:=dY hx h7;obtain⟨y2,h5,hx⟩:=aG hx;obtain⟨v2,h8,h9⟩:=hS.r.ev h5;split at hx
   ·obtain⟨h10,hx⟩:=cbT hx;obtain⟨id,ha,rfl⟩:=h9;exact aTQ hS.st h1 hd (szF h3) h8 h6 h10 (hS.keep hx ⟨id,ha,rfl⟩)
   ·exact hx.elim
  ·exact hx.elim
 ·obtain⟨i,h1,hx⟩:=tyL'_ok ht hx;split at hx
  ·rename_i el hd;obtain⟨j,h3,hx⟩:=tyL'_ok ht hx;obtain⟨h2,hx⟩:=cbT hx;obtain⟨y1,h4,hx⟩:=aG hx;obtain⟨v1,h6,h7⟩:=hS.r.ev h4;obtain⟨x1,rfl,hx⟩:=dY hx h7;obtain⟨y2,h5,hx⟩:=aG hx;obtain⟨v2,h8,h9⟩:=hS.r.ev h5;split at hx
   ·obtain⟨m,rfl,hk⟩:=hx;obtain⟨he,hx⟩:=cbT hk;exact aUL hS.st h1 hd (szF h3) h8 (aNl (aP4 h3 h2 he h9 hx) h9 hx) h6 fun u hc=>aHK hS h9 (.inl hc) hx
   ·exact hx.elim
  ·exact hx.elim
 ·obtain⟨i,h1,hx⟩:=tyL'_ok ht hx;obtain⟨h2,hx⟩:=cbF hx;obtain⟨y1,h3,hx⟩:=aG hx;obtain⟨v1,h4,h5⟩:=hS.r.ev h3;obtain⟨x1,rfl,hx⟩:=dY hx h5;obtain⟨y2,h6,hx⟩:=aG hx;obtain⟨v2,h7,h8⟩:=hS.r.ev h6;obtain⟨x2,rfl,hx⟩:=dY hx h8;obtain⟨r,h9,hx⟩:=aHo hx;exact aNU hS.st h1 h2 h4 h7 h9 (hS.keep hx rfl)
 ·obtain⟨y1,h3,hx⟩:=aG hx;obtain⟨v1,h4,h5⟩:=hS.r.ev h3;obtain⟨x1,rfl,hx⟩:=dY hx h5;split at hx
  ·exact aNV hS.st h4 (hS.keep hx rfl)
  ·exact hx.elim
 ·obtain⟨y1,h3,hx⟩:=aG hx;obtain⟨v1,h4,h5⟩:=hS.r.ev h3;obtain⟨x1,rfl,hx⟩:=dY hx h5;split at hx
  ·exact aNZ hS.st h4 hx.1.1 hx.1.2 (hS.keep hx.2 rfl)
  ·exact hx.elim
 ·obtain⟨i,h1,hx⟩:=tyL'_ok ht hx;split at hx
  ·rename_i hd;obtain⟨y,h2,hx⟩:=aG hx;obtain⟨v,h3,h4⟩:=hS.r.ev h2;obtain⟨x1,rfl,hx⟩:=dY hx h4;split at hx
   ·obtain⟨y2,h5,hx⟩:=aG hx;obtain⟨v2,h6,h7⟩:=hS.r.ev h5;obtain⟨x2,rfl,hx⟩:=dY hx h7;obtain⟨j,h8,b,h9,hx⟩:=aG hx;exact aN0 hS.st h1 hd h3 h6 h8 h9 (hS.keep hx rfl)
   ·exact hx.elim
  ·exact hx.elim
 ·split at hx
  ·rename_i h0;obtain⟨ks,h1,hx⟩:=aG hx;obtain⟨us,cp,h2,h3,h4⟩:=aLn hS h1;exact aUK hS.st h0 h2 h3 (hS.keep hx ⟨cp,rfl,h4⟩)
  ·exact hx.elim
 ·exact aCU ht hS hlk hb hw hx
 ·exact hx.elim
variable {ops l:List Oper} {o:Oper}
theorem aP5{k n el:Nat}{c:List SV}(hl:h.l.get k=none)(hb:h.h.get k=some ⟨el,c⟩)(hp:plS c=true)(hs:svL c c=true):kX h (sc (.sl k 0 n (some n))) (sc (.sl h.n 0 n (some n)),nwH h ⟨el,c⟩)=true:=by
 show cb (Nat.beq h.n h.n) (cb (Nat.beq n n) (cb (Nat.beq n n) (aDV (h.l.get k) (h.h.get k) ((T.set ⟨el,c⟩ h.h h.n).get h.n)) false) false) false=true;rw[Nat.beq_refl,Nat.beq_refl,hl,hb,T.get_same];show cb (Nat.beq el el) (cb (svL c c) (plS c) false) false=true;rw[Nat.beq_refl,hs,hp];rfl
theorem aTR{t el n:Nat}{i j:TI}{pr:Array (Nat × Operand)}{c:List SV}{call:cZ}(hS:St β g e s h zs [] [])(ht:F.ti t=some i)(hd:elem i.d=some el)(hj:F.ti el=some j)(hn:Nat.blt (Nat.mul n j.sz) 16777216=true)(hc:gU (fun f=>some (Nat.mul f j.sz,j.sz)) s pr.toList (fJ j.ze n)=some c):op1 F call (.buildSlice t n pr) e h=some (sc (.sl h.n 0 n (some n)),nwH h ⟨el,c⟩):=by
 show fD F e h t n pr.toList=_;unfold fD;rw[ht];show ob (elem i.d) _=_;rw[hd];show ob (F.ti el) _=_;rw[hj];show cb (Nat.blt (Nat.mul n j.sz) 16777216) (ob (parts (fun f=>some (Nat.mul f j.sz,j.sz)) e pr.toList (fJ j.ze n)) fun c=>h.nw ⟨el,c⟩ fun a h=>vh (.sl a 0 n (some n)) h) none=_;rw[hn,aAN hS.k hc];exact (show (h.nw ⟨el,c⟩ fun a h=>vh (.sl a 0 n (some n)) h)=_ from qV)
theorem aFl{gd:Option (Nat × Bool)}{k:Bool→List (Nat × Y)→Prop}(hS:Sy F β g vs e h sy ws ids s)(hx:vgd ops sy gd k):∃t sy s,wanted ops e gd=some t∧k t sy∧Sy F β g vs e h sy ws ids s:=by
 unfold vgd at hx;split at hx
 ·exact⟨_,_,_,rfl,hx,hS⟩
 ·rename_i gi w;obtain⟨o,h1,hx⟩:=aG hx;obtain⟨j,h2,hx⟩:=aG hx;obtain⟨y,h3,hx⟩:=aG hx;obtain⟨v,h4,h5⟩:=hS.r.lk h3;split at hx
  ·rename_i x;have h5:v=sc (.b x):=h5;subst h5;exact⟨_,_,_,oF hS.st h1 h2 h4,hx,hS⟩
  ·rename_i x;have h5:v=sc (.b x):=h5;subst h5;have key:Sy F β g vs e h ((j,.b x)::sy) ws ids ((j,sc (.b x))::s):=⟨⟨rfl,rfl,hS.r⟩,hS.len,hS.ok,⟨kn1 (hS.st.k j _ h4) hS.st.k,hS.st.n,hS.st.bar,hS.st.o,hS.st.l,hS.st.w,hS.st.ls,hS.st.ps⟩⟩
   cases x with
   |true=>exact⟨_,_,_,oF hS.st h1 h2 h4,hx.1 rfl,key⟩
   |false=>exact⟨_,_,_,oF hS.st h1 h2 h4,hx.2 rfl,key⟩
  ·have h5:v=.t []:=h5;subst h5;refine⟨_,_,_,?_,hx,hS⟩;show (ob (drp gi ops).head? fun o=>ob o.dst fun d=>isB (e.get d) w)=_;rw[h1];show (ob o.dst fun d=>isB (e.get d) w)=_;rw[h2];show isB (e.get j) w=_;rw[hS.st.k j _ h4];rfl
  ·exact hx.elim
theorem nM{C:Env→H→Prop}{Go:Prop}{k:List (Nat × Y)→List W→Prop}(ht:∀p∈tys,F.ti p.1=some p.2)(hlk:Lk g)(hS:Sy F β g vs e h sy ws ids s)(hb:β≤h.n)(hw:st=true→β≤g.n)(hx:vst F tys st nt ops o sy ws k)
  (p1:∀d,wanted ops e o.guard=some true→o.dst=some d→Nat.blt d nt=true→Xop F o.op e h (fun v h=>Pk d v e h C)→Go)
  (p2:∀d,wanted ops e o.guard=some false→o.dst=some d→Nat.blt d nt=true→Pk d E.un e h C→Go)
  (p3:o.guard=none→o.dst=none→Xop F o.op e h (fun _ h=>C e h)→Go)
  (kk:∀e h sy ws ids s,Sy F β g vs e h sy ws ids s→k sy ws→C e h):Go:=by
 unfold vst at hx;split at hx
 ·rename_i hd;split at hx
  ·rename_i hg;refine p3 hg hd ((zP ht hlk hS hb hw hx).mono fun v h' hq=>?_);obtain⟨y,ws,ids,s,h1,h2,h3⟩:=hq;exact kk _ _ _ _ _ _ h3 h1
  ·exact hx.elim
 ·rename_i d hd;obtain⟨hn,hx⟩:=cbT hx;obtain⟨t,sy,s,h1,hx,hS⟩:=aFl hS hx;cases t with
  |true=>
   refine p1 d h1 hd hn ((zP ht hlk hS hb hw hx).mono fun v h' hq=>?_);obtain⟨y,ws,ids,s,h1,h2,h3⟩:=hq;exact h3.st.pk fun e hS2=>kk _ _ _ _ _ _ ⟨h3.r.cons h2,h3.len,h3.ok,hS2⟩ h1
  |false=>exact p2 d h1 hd hn (hS.st.pk fun e hS2=>kk _ _ _ _ _ _ ⟨hS.r.cons (y:=.a E.un) rfl,hS.len,hS.ok,hS2⟩ hx)
variable {Q:Env→H→Prop} {k:List (Nat × Y)→List W→Prop}
theorem wD(ht:∀p∈tys,F.ti p.1=some p.2)(hlk:Lk g)(hg:β≤g.n):∀{l:List Oper} {e:Env} {h:H} {sy:List (Nat × Y)} {ws:List W} {ids:List Nat} {s:List (Nat × AV)},Sy F β g vs e h sy ws ids s→xL F tys nt ops l sy ws k→(∀e h sy ws ids s,Sy F β g vs e h sy ws ids s→k sy ws→Q e h)→Xr F nt ops l e h Q
 | [],_,_,_,_,_,_,hS,hx,kk=>aKA (kk _ _ _ _ _ _ hS hx)
 |_::_,_,_,_,_,_,_,hS,hx,kk=>nM ht hlk hS (Nat.le_trans hg hS.st.n) (fun _=>hg) hx (fun _ a b c x=>aHl a b c x) (fun _ a b c x=>aKB a b c x) (fun a b x=>aFd a b x) fun _ _ _ _ _ _ hS hx=>wD ht hlk hg hS hx kk
theorem jJ(ht:∀p∈tys,F.ti p.1=some p.2)(hlk:Lk g)(hS:Sy F β g vs e h sy ws ids s):∀{l:List Nat},vag tys ops sy ws l→Ag F ops l e h
 | [],_=>aB8
 |i::l,hx=>by
  obtain⟨o,h1,hx⟩:=aG hx;split at hx
  ·rename_i e1;exact aBt h1 (by rw[e1];rfl) (jJ ht hlk hS hx)
  ·rename_i e1;exact aBt h1 (by rw[e1];rfl) (jJ ht hlk hS hx)
  ·rename_i e1;exact aBt h1 (by rw[e1];rfl) (jJ ht hlk hS hx)
  ·rename_i e1;exact aBt h1 (by rw[e1];rfl) (jJ ht hlk hS hx)
  ·rename_i e1;exact aBt h1 (by rw[e1];rfl) (jJ ht hlk hS hx)
  ·rename_i e1;exact aBt h1 (by rw[e1];rfl) (jJ ht hlk hS hx)
  ·rename_i e1;obtain⟨j,h2,hx⟩:=tyL'_ok ht hx;obtain⟨y,h3,hx⟩:=aG hx;obtain⟨v,h4,h5⟩:=hS.r.ev h3;obtain⟨c,hx,h8⟩:=aF5 hS h2 h5 hx;obtain⟨u,h12,hx⟩:=aG hx;obtain⟨d,h13,hx⟩:=aG hx;obtain⟨y2,h14,hx⟩:=aG hx;obtain⟨h15,rfl,h16,hz⟩:=hx;obtain⟨v2,h17,h18⟩:=hS.r.lk h14;have h18:v2=u:=h18;subst h18;exact aRu h1 (by rw[e1];rfl) h15 h13 (hS.st.k _ _ h17) (by rw[e1];exact h8 _ _ h4 h12) h16 (jJ ht hlk hS hz)
  ·rename_i t n pr e1;obtain⟨i,h2,hx⟩:=tyL'_ok ht hx;obtain⟨el,h3,hx⟩:=aG hx;obtain⟨j,h4,hx⟩:=tyL'_ok ht hx;obtain⟨h5,hx⟩:=cbT hx;obtain⟨c,h6,hx⟩:=aG hx;obtain⟨d,h7,hx⟩:=aG hx;obtain⟨y,h8,hx⟩:=aG hx;obtain⟨v,h9,h10⟩:=hS.r.lk h8;split at hx
   ·obtain⟨w,h11,hx⟩:=aG hx;split at hx
    ·obtain⟨q1,hk⟩:=cbE hx;obtain⟨q2,hk1⟩:=cbE hk;obtain⟨q3,hk2⟩:=cbE hk1;obtain⟨⟨h12,q4,h13,h14⟩,hz⟩:=hk2;subst q1;subst q2;subst q3;subst q4;obtain⟨id,n',ha,rfl,-,-,hn⟩:=h10;have:=hn _ _ _ h11;subst this;obtain⟨-,-,-,-,hg,-,hget⟩:=hS.own ha h11 rfl;refine aUu h1 (by rw[e1];rfl) h12 h7 (hS.st.k _ _ h9) (u:=(sc (.sl h.n 0 _ (some _)),nwH h ⟨_,_⟩)) (by rw[e1];exact aTR hS.st h2 h3 h4 h5 (kS hS.r h6)) (aP5 (by rw[hS.st.l];exact hlk _ hg) hget h13 h14) (jJ ht hlk hS hz)
    ·exact hx.elim
   ·exact hx.elim
  ·exact hx.elim
theorem xM(ht:∀p∈tys,F.ti p.1=some p.2)(hlk:Lk g)(hg:β≤g.n):∀{l:List (Nat × List Nat)} {e:Env} {h:H} {sy:List (Nat × Y)} {ws:List W} {ids:List Nat} {s:List (Nat × AV)},Sy F β g vs e h sy ws ids s→vB F tys nt ops l sy ws k→(∀e h sy ws ids s,Sy F β g vs e h sy ws ids s→k sy ws→Q e h)→Xb F nt ops l e h Q
 | [],_,_,_,_,_,_,hS,hx,kk=>aKD (kk _ _ _ _ _ _ hS hx)
 |(_,[])::_,_,_,_,_,_,_,hS,hx,kk=>by
  obtain⟨o,h1,hx⟩:=aG hx;exact nM ht hlk hS (Nat.le_trans hg hS.st.n) (fun _=>hg) hx (fun _ a b c x=>aAK h1 a b c x) (fun _ a b c x=>aCb h1 a b c x) (fun a b x=>xJ h1 a b x) fun _ _ _ _ _ _ hS hx=>⟨aB8,xM ht hlk hg hS hx kk⟩
 |(_,_::_)::_,_,_,_,_,_,_,hS,hx,kk=>by
  obtain⟨o,h1,hx⟩:=aG hx;exact nM ht hlk hS (Nat.le_trans hg hS.st.n) (fun _=>hg) hx (fun _ a b c x=>aAK h1 a b c x) (fun _ a b c x=>aCb h1 a b c x) (fun a b x=>xJ h1 a b x) fun _ _ _ _ _ _ hS hx=>⟨jJ ht hlk hS hx.1,xM ht hlk hg hS hx.2 kk⟩
theorem aCc{b:Nat}{M:List (Nat × List Nat)}(ht:∀p∈tys,F.ti p.1=some p.2)(hlk:Lk g):∀{l:List Nat} {β:Nat} {e:Env} {h:H} {sy:List (Nat × Y)} {ws:List W} {ids:List Nat} {s:List (Nat × AV)},Sy F β g vs e h sy ws ids s→vA F tys nt ops l sy ws k→(∀e h sy ws ids s,Sy F b g vs e h sy ws ids s→k sy ws→Xb F nt ops M e h Q)→Xa F nt ops b M l e h Q
 | [],_,_,_,_,_,_,_,hS,hx,kk=>aKC (kk _ _ _ _ _ _ (hS.back b) hx)
 |_::_,_,_,_,_,_,_,_,hS,hx,kk=>by
  obtain⟨o,h1,hx⟩:=aG hx;exact nM (st:=false) ht hlk hS.lift (Nat.le_refl _) (fun h=>by cases h) hx (fun _ a b c x=>aHm h1 a b c x) (fun _ a b c x=>aKE h1 a b c x) (fun a b x=>aFe h1 a b x) fun _ _ _ _ _ _ hS hx=>aCc ht hlk hS hx kk
theorem rO{α:Type}:∀{m:List Bool} {l:List α},m.length=l.length→(dF m l).length=cnt m
 | [],[],_=>rfl
 |true::m,a::l,h=>congrArg Nat.succ (rO (m:=m) (l:=l) (Nat.succ.inj h))
 |false::m,a::l,h=>rO (m:=m) (l:=l) (Nat.succ.inj h)
 | [],_::_,h=>by cases h
 |_::_,[],h=>by cases h
theorem aF7{α:Type}:∀{m:List Bool} {l:List α} {k k':Nat},m.length=l.length→rnm m k=some k'→k' <cnt m∧k<l.length∧(dF m l)[cnt m-1-k']? =l[l.length-1-k]?
 | [],_,_,_,_,h=>by cases h
 |b::m,a::l,k,k',hl,h=>by
  have hl:m.length=l.length:=Nat.succ.inj hl;have h:cb (Nat.beq k (len m)) (cb b (some (cnt m)) none) (rnm m k)=some k':=h;cases hb:Nat.beq k (len m) with
  |true=>
   rw[hb]at h;have hk:=aM.1 hb;rw[aT,hl]at hk;subst hk;cases b with
   |false=>cases h
   |true=>
    cases h;refine⟨Nat.lt_succ_self _,Nat.lt_succ_self _,?_⟩;show (a::dF m l)[Nat.succ (cnt m)-1-cnt m]? =(a::l)[l.length+1-1-l.length]?;rw[show Nat.succ (cnt m)-1-cnt m=0 by omega,show l.length+1-1-l.length=0 by omega];rfl
  |false=>
   rw[hb]at h;obtain⟨h1,h2,h3⟩:=aF7 (l:=l) hl h;refine⟨?_,Nat.lt_succ_of_lt h2,?_⟩
   ·cases b with
    |true=>exact Nat.lt_succ_of_lt h1
    |false=>exact h1
   ·have e1:(a::l)[(a::l).length-1-k]? =l[l.length-1-k]? :=by
       rw[List.length_cons,show l.length+1-1-k=(l.length-1-k)+1 by omega];rfl
    rw[e1,←h3];cases b with
    |true=>
     show (a::dF m l)[Nat.succ (cnt m)-1-k']? =_;rw[show Nat.succ (cnt m)-1-k'=(cnt m-1-k')+1 by omega];rfl
    |false=>rfl
 |_::_,[],_,_,h,_=>by cases h
theorem aF8:∀{m:List Bool} {ids:List Nat} {ws:List W},(zl (dF m ids) (dF m ws)).Sublist (zl ids ws)
 | [],ids,ws=>by
   have:zl (dF [] ids) (dF [] ws)=[]:=by cases ids<;>cases ws<;>rfl
   rw[this];exact List.nil_sublist _
 |b::m,i::ids,w::ws=>by
  have ih:=aF8 (m:=m) (ids:=ids) (ws:=ws);cases b with
  |true=>
   show (zc w.b i (zl (dF m ids) (dF m ws))).Sublist (zc w.b i (zl ids ws));cases w.b with
   |none=>exact ih
   |some b=>exact ih.cons_cons _
  |false=>
   show (zl (dF m ids) (dF m ws)).Sublist (zc w.b i (zl ids ws));cases w.b with
   |none=>exact ih
   |some b=>exact ih.cons _
 |b::m,[],ws=>by
  have:zl (dF (b::m) []) (dF (b::m) ws)=[]:=by
    show zl [] (dF (b::m) ws)=[]
    cases dF (b::m) ws<;>rfl
  rw[this];exact List.nil_sublist _
 |b::m,i::ids,[]=>by
  have:zl (dF (b::m) (i::ids)) (dF (b::m) [])=[]:=by
    show zl (dF (b::m) (i::ids)) []=[]
    cases dF (b::m) (i::ids)<;>rfl
  rw[this];exact List.nil_sublist _
theorem YR.drop{m:List Bool}{y':Y}(hm:m.length=ws.length)(hl:ids.length=ws.length)(hk:rnY m y=some y')(hy:YR F g vs h (zl ids ws) ws ids y v):YR F g vs h (zl (dF m ids) (dF m ws)) (dF m ws) (dF m ids) y' v:=by
 have hz:∀id,Fr (zl ids ws) id→Fr (zl (dF m ids) (dF m ws)) id:=fun id hf p hp=>hf p (aF8.subset hp);have ha:∀k k' id,rnm m k=some k'→At ids k id→At (dF m ids) k' id:=fun k k' id q ha=>by
  obtain⟨h1,h2,h3⟩:=aF7 (l:=ids) (by omega) q;unfold At;rw[rO (l:=ids) (by omega)];exact⟨h1,h3.trans ha.2⟩
 have hw:∀k k',rnm m k=some k'→(dF m ws)[atW (dF m ws) k']? =ws[atW ws k]? :=fun k k' q=>by
  obtain⟨-,-,h3⟩:=aF7 (l:=ws) hm q;unfold atW;rw[aT,aT,rO hm];exact h3
 cases y with
 |a u=>cases hk;exact hy
 |b x=>cases hk;exact hy
 |p k off=>
  obtain⟨k',h0,hk⟩:=aA.1 (show ob (rnm m k) (fun k=>some (Y.p k off))=some y' from hk);cases hk;obtain⟨id,h1,h2⟩:=hy;exact⟨id,ha _ _ _ h0 h1,h2⟩
 |l ty o n L=>cases hk;exact⟨hy.1.to (Nat.le_refl _) fun id q1 q2=>⟨rfl,hz id q2.1,q2.2⟩,hy.2⟩
 |s k cap=>
  obtain⟨k',h0,hk⟩:=aA.1 (show ob (rnm m k) (fun k=>some (Y.s k cap))=some y' from hk);cases hk;obtain⟨id,n,h1,h2,h3,h4,h5⟩:=hy;exact⟨id,n,ha _ _ _ h0 h1,h2,h3,h4,fun ty q L hq=>h5 ty q L (by rw[←hw k k' h0];exact hq)⟩
 |e ty c=>cases hk;exact PtE.imp hy fun id _ q=>hz id q
 |q k j=>
  obtain⟨k',h0,hk⟩:=aA.1 (show ob (rnm m k) (fun k=>some (Y.q k j))=some y' from hk);cases hk;obtain⟨id,off,h1,h2,h3⟩:=hy;exact⟨id,off,ha _ _ _ h0 h1,h2,fun ty q L i hq hi=>h3 ty q L i (by rw[←hw k k' h0];exact hq) hi⟩
 |t l=>
  cases hk;obtain⟨ps,h1,h2⟩:=hy;refine⟨ps,h1.imp fun r p hr=>?_,h2⟩;cases r with
  |a x c=>exact hr
  |l ty n L=>
   obtain⟨h1,s,h2,h3⟩:=hr;exact⟨h1,s,h2,h3.to (Nat.le_refl _) fun id q1 q2=>⟨rfl,hz id q2.1,q2.2⟩⟩
 |ls ty l=>cases hk;exact xZ.to hy (Nat.le_refl _) fun id _ q=>⟨rfl,hz id q⟩
 |el t0 ty n L=>cases hk;obtain⟨x,h1,h2⟩:=hy;exact⟨x,PtE.imp h1 fun id _ q=>hz id q,h2.to (Nat.le_refl _) fun id _ q=>⟨rfl,hz id q⟩⟩
 |f fn cs=>cases hk;exact yB.to hy (Nat.le_refl _) fun id _ q=>⟨rfl,hz id q⟩
 |g fn ks=>
  obtain⟨ks',h0,hk⟩:=aA.1 (show ob (aFZ m ks) (fun ks=>some (Y.g fn ks))=some y' from hk);cases hk;obtain⟨cp,h1,h2⟩:=hy;have hL:∀{ks ks':List Nat} {cp:List (Nat × Nat)},aFZ m ks=some ks'→All (fun k p=>At ids k p.1∧p.2=0) ks cp→All (fun k p=>At (dF m ids) k p.1∧p.2=0) ks' cp:=fun {ks}=>by
    induction ks with
    |nil=>intro ks' cp q hq;cases q;cases cp with|nil=>trivial|cons=>exact hq.elim
    |cons k l ih=>
     intro ks' cp q hq;obtain⟨k',q1,q2⟩:=aA.1 (show ob (rnm m k) (fun k=>ob (aFZ m l) fun r=>some (k::r))=some ks' from q);obtain⟨r,q3,q4⟩:=aA.1 q2;injection q4 with q4;subst q4;cases cp with
     |nil=>exact hq.elim
     |cons p cp=>exact⟨⟨ha _ _ _ q1 hq.1.1,hq.1.2⟩,ih q3 hq.2⟩
  exact⟨cp,h1,hL h0 h2⟩
theorem wE{m:List Bool}(hm:m.length=ws.length)(hl:ids.length=ws.length)(hr:RS F g vs h (zl ids ws) ws ids sy s):∀{t:List (Nat × Y)},aBv m sy t→∃s2,RS F g vs h (zl (dF m ids) (dF m ws)) (dF m ws) (dF m ids) t s2∧∀k v,E.lk s2 k=some v→E.lk s k=some v
 | [],_=>⟨[],trivial,fun _ _ h=>by cases h⟩
 |p::l,hx=>by
  obtain⟨h1,h3⟩:=hx;obtain⟨y,h1,h2⟩:=aA.1 h1;obtain⟨s2,h4,h5⟩:=wE hm hl hr h3;obtain⟨v,h6,h7⟩:=hr.lk h1;refine⟨(p.1,v)::s2,⟨rfl,YR.drop hm hl h2 h7,h4⟩,fun k u hk=>?_⟩;have hk:cb (Nat.beq p.1 k) (some v) (E.lk s2 k)=some u:=hk;cases hb:Nat.beq p.1 k with
  |true=>
   rw[hb]at hk;injection hk with hk;rw[←aM.1 hb,←hk];exact h6
  |false=>
   rw[hb]at hk;exact h5 k u hk
theorem aDb{α:Type}:∀{m:List Bool} {l:List α} {x:α},x∈dF m l→x∈l
 |true::m,a::l,x,h=>by
  rcases List.mem_cons.1 (show x∈a::dF m l from h) with rfl|h
  ·exact List.mem_cons_self ..
  ·exact List.mem_cons_of_mem _ (aDb h)
 |false::m,a::l,x,h=>List.mem_cons_of_mem _ (aDb (show x∈dF m l from h))
 | [],_,_,h=>by cases h
 |_::_,[],_,h=>by cases h
theorem Sy.fit{t:List (Nat × Y) × List W}(hS:Sy F β g vs e h sy ws ids s)(hf:fits sy ws t):∃ids s,Sy F β g vs e h t.1 t.2 ids s:=by
 obtain⟨m,h1,h2,h3⟩:=hf;rw[aT,aT]at h1;obtain⟨s2,h4,h5⟩:=wE h1 hS.len hS.r h3;have st2:=hS.st.drop (aF8 (m:=m));rw[←h2];exact⟨dF m ids,s2,h4,by rw[rO (by rw[h1,hS.len]),rO h1],fun w hw=>hS.ok w (aDb hw),⟨fun k v hk=>st2.k k v (h5 k v hk),st2.n,st2.bar,st2.o,st2.l,st2.w,st2.ls,st2.ps⟩⟩
theorem aIC(ht:∀p∈tys,F.ti p.1=some p.2)(hlk:Lk g)(hg:β≤g.n)(c:Code):∀{e:Env} {h:H} {sy:List (Nat × Y)} {ws:List W} {ids:List Nat} {s:List (Nat × AV)} {k:Ex→List (Nat × Y)→List W→Prop},Sy F β g vs e h sy ws ids s→vc F tys nt fn c sy ws k→Xw F nt fn c e h fun x e h=>∃sy ws ids s,k x sy ws∧Sy F β g vs e h sy ws ids s:=by
 induction c with
 |skip=>exact fun hS hx=>aKx ⟨_,_,_,_,hx,hS⟩
 |ret=>exact fun hS hx=>aNS ⟨_,_,_,_,hx,hS⟩
 |exit id=>exact fun hS hx=>aKy ⟨_,_,_,_,hx,hS⟩
 |seq a b iha ihb=>
  intro e h sy ws ids s k hS hx;refine aNT ((iha hS hx).mono fun x e h hq=>?_);obtain⟨sy,ws,ids,s,hk,hS⟩:=hq;cases x with
  |n=>exact ihb hS hk
  |x id=>exact⟨_,_,_,_,hk,hS⟩
  |r=>exact⟨_,_,_,_,hk,hS⟩
 |region id ops dr=>
  intro e h sy ws ids s k hS hx;cases dr with
  |true=>
   obtain⟨p,h1,h2,hx⟩:=aG (show oo (F.pl fn id) fun p=>lU F ops p=true∧vA F tys nt ops.toList p.1 sy ws fun s ws=>vB F tys nt ops.toList p.2 s ws (k .n) from hx);exact aRz hS.st h1 h2 (aCc ht hlk hS hx fun _ _ _ _ _ _ hS hx=>xM ht hlk hg hS hx fun _ _ _ _ _ _ hS hx=>⟨_,_,_,_,hx,hS⟩)
  |false=>exact aFc (wD ht hlk hg hS (show xL F tys nt ops.toList ops.toList sy ws (k .n) from hx) fun _ _ _ _ _ _ hS hx=>⟨_,_,_,_,hx,hS⟩)
 |cond c a b iha ihb=>
  intro e h sy ws ids s k hS hx;obtain⟨y,h1,hx⟩:=aG (show oo (yv sy c) fun y=>(match y with| .b x=>cb x (vc F tys nt fn a sy ws k) (vc F tys nt fn b sy ws k)| .a (.c false [.b x])=>(x=true→vc F tys nt fn a sy ws k)∧(x=false→vc F tys nt fn b sy ws k)|_=>False) from hx);obtain⟨v,h2,h3⟩:=hS.r.ev h1;split at hx
  ·rename_i x;have h3:v=sc (.b x):=h3;subst h3;cases x with
   |true=>exact wB (aZ hS.st.k h2) (fun _=>iha hS hx) fun e=>by cases e
   |false=>exact wB (aZ hS.st.k h2) (fun e=>by cases e) fun _=>ihb hS hx
  ·rename_i x;have h3:v=sc (.b x):=h3;subst h3;exact wB (aZ hS.st.k h2) (fun e=>iha hS (hx.1 e)) fun e=>ihb hS (hx.2 e)
  ·exact hx.elim
 |block id a iha=>
  intro e h sy ws ids s k hS hx;refine aHk ((iha hS (show vc F tys nt fn a sy ws (fun x s ws=>(match x with| .x j=>cb (Nat.beq id j) (k .n s ws) (k (.x j) s ws)|x=>k x s ws)) from hx)).mono fun x e h hq=>?_);obtain⟨sy,ws,ids,s,hk,hS⟩:=hq;cases x with
  |n=>exact⟨_,_,_,_,hk,hS⟩
  |r=>exact⟨_,_,_,_,hk,hS⟩
  |x j=>
   show cb (Nat.beq id j) _ _;have hk:cb (Nat.beq id j) _ _:=hk;cases hb:Nat.beq id j with
   |true=>rw[hb]at hk;exact⟨_,_,_,_,hk,hS⟩
   |false=>rw[hb]at hk;exact⟨_,_,_,_,hk,hS⟩
 |loop a iha=>
  intro e h sy ws ids s k hS hx;obtain⟨ι,I,m,⟨i,hi⟩,hk⟩:=hx;obtain⟨ids,s,hS⟩:=hS.fit hi;refine aKz (fun n e h=>∃i ids s,m i=n∧Sy F β g vs e h (I i).1 (I i).2 ids s) (fun n e h hI=>?_) (m i) e h ⟨i,ids,s,rfl,hS⟩;obtain⟨i,ids,s,rfl,hS⟩:=hI;refine (iha hS (hk i)).mono fun x e h hq=>?_;obtain⟨sy,ws,ids,s,hq,hS⟩:=hq;cases x with
  |n=>
   obtain⟨j,hj,hf⟩:=hq;obtain⟨ids,s,hS⟩:=hS.fit hf;exact⟨m j,hj,j,ids,s,rfl,hS⟩
  |x id=>exact⟨_,_,_,_,hq,hS⟩
  |r=>exact⟨_,_,_,_,hq,hS⟩
 |_=>exact fun _ hx=>hx.elim
theorem aNm{r:ResultVar}{k:Y→Prop}(ht:∀p∈tys,F.ti p.1=some p.2)(hS:Sy F β g vs e h sy ws ids s)(hx:aI5 tys r sy ws k):∃y v,aBq F e h r=fP v∧YR F g vs h (zl ids ws) ws ids y v∧k y:=by
 unfold aI5 at hx;split at hx
 ·obtain⟨y,h1,hx⟩:=aG hx;obtain⟨u,h3,h4⟩:=hS.r.lk h1;refine⟨y,u,?_,h4,hx⟩;show ob (e.get _) fP=_;rw[hS.st.k _ _ h3];rfl
 ·obtain⟨i,h1,hx⟩:=tyL'_ok ht hx;obtain⟨y,h2,hx⟩:=aG hx;obtain⟨v,h3,h4⟩:=hS.r.lk h2;split at hx
  ·obtain⟨w,h5,hx⟩:=aG hx;split at hx
   ·obtain⟨l,h6,hx⟩:=aG hx;obtain⟨h7,hx⟩:=cbT hx;obtain⟨id,ha,rfl⟩:=h4;obtain⟨-,-,-,-,-,-,h8⟩:=hS.own ha h5 rfl;refine⟨.a (.c true l),.c true l,?_,rfl,hx⟩;show (ob (F.ti _) fun i=>ob (e.get _) fun v=>one v fun s=>match s with| .p id off=>ob (rd h id off i.sz) fun c=>ob (av i.d.ag c) fP|_=>none)=_;rw[h1,hS.st.k _ _ h3];show (ob (rd h id _ i.sz) fun c=>ob (av i.d.ag c) fP)=_;unfold rd;rw[h8];show (ob (dG i.sz (drp _ _)) fun c=>ob (av i.d.ag c) fP)=_;rw[h6];show ob (av i.d.ag l) fP=_;rw[h7];rfl
   ·exact hx.elim
  ·exact hx.elim
theorem oG(ht:∀p∈tys,F.ti p.1=some p.2)(hS:Sy F β g vs e h sy ws ids s):∀{l:List ResultVar} {k:List Y→Prop},uC tys l sy ws k→∃ys us,All (YR F g vs h (zl ids ws) ws ids) ys us∧k ys∧∀ps,All (fun v p=>fP v=some p) us ps→res F e h l=some ps
 | [],_,hx=>⟨[],[],trivial,hx,fun ps hp=>by cases ps with|nil=>rfl|cons=>exact hp.elim⟩
 |r::l,k,hx=>by
  obtain⟨y,v,h1,h2,hx⟩:=aNm ht hS hx;obtain⟨ys,us,h3,h4,h5⟩:=oG ht hS hx;refine⟨y::ys,v::us,⟨h2,h3⟩,h4,fun ps hp=>?_⟩
  match ps,hp with
  |p::ps,hp=>
   show ob (aBq F e h r) (fun v=>ob (res F e h l) fun l=>some (v::l))=_;rw[h1,hp.1,h5 ps hp.2];rfl
theorem aF9:∀{ys:List Y} {us:List AV} {ps:List (Bool × List SV)},All (YR F g vs h zs ws ids) ys us→plain ys=some ps→All (fun v p=>fP v=some p) us ps
 | [],[],_,_,hx=>by injection hx with hx;subst hx;trivial
 |y::ys,u::us,ps,hy,hx=>by
  obtain⟨v,h1,hx⟩:=aA.1 (show ob (rl y) (fun v=>ob (fP v) fun p=>ob (plain ys) fun r=>some (p::r))=some ps from hx);obtain⟨p,h2,hx⟩:=aA.1 hx;obtain⟨r,h3,hx⟩:=aA.1 hx;injection hx with hx;subst hx;have:=nL h1 hy.1;subst this;exact⟨h2,aF9 hy.2 h3⟩
theorem aHN(hS:Sy F β g vs e h sy ws ids s):∀{l:List R} {ys:List Y} {us:List AV},All (YR F g vs h (zl ids ws) ws ids) ys us→aNi ws l ys→∃ps,All (fun v p=>fP v=some p) us ps∧All (RR F g h) l ps
 | [],[],[],_,_=>⟨[],trivial,trivial⟩
 |r::l,y::ys,u::us,hy,hx=>by
  obtain⟨hx,hz⟩:=hx;obtain⟨ps,h1,h2⟩:=aHN hS hy.2 hz;have hy:=hy.1;have key:∀sv,u=sc sv→(∃ty n L,r=.l ty n L∧gQ F ty n L h (fun id=>g.n≤id) (sc sv))→∃ps,All (fun v p=>fP v=some p) (u::us) ps∧All (RR F g h) (r::l) ps:=fun sv hu hr=>by
    subst hu;obtain⟨ty,n,L,rfl,hr⟩:=hr;exact⟨(false,[sv])::ps,⟨rfl,h1⟩,⟨rfl,sv,rfl,hr⟩,h2⟩
  split at hx
  ·obtain⟨v,h3,rfl⟩:=aG hx;have:=nL h3 hy;subst this;exact⟨_::ps,⟨rfl,h1⟩,rfl,h2⟩
  ·split at hx
   ·obtain⟨rfl,rfl,rfl⟩:=hx;have h3:=hy.1.to (P':=fun id=>g.n≤id) (Nat.le_refl _) fun id q1 q2=>⟨rfl,q2.2 rfl⟩
    obtain⟨sv,h4⟩:=h3.sc;exact key _ h4 ⟨_,_,_,rfl,h4▸h3⟩
   ·obtain⟨w,h4,hx⟩:=aG hx;split at hx
    ·obtain⟨rfl,rfl,rfl⟩:=hx;obtain⟨id,n',ha,hu,hc,-,hn⟩:=hy;have:=hn _ _ _ h4;subst this;obtain⟨-,-,-,-,hg,-,-⟩:=hS.own ha h4 rfl;exact key _ hu ⟨_,_,_,rfl,(hS.lst ha h4 hc).to (Nat.le_refl _) fun q _ hq=>⟨rfl,hq▸hg⟩⟩
    ·exact hx.elim
   ·obtain⟨rfl,rfl⟩:=hx;have hy:u=_:=hy;exact key _ hy ⟨_,_,_,rfl,.inl ⟨rfl,rfl,rfl⟩⟩
   ·exact hx.elim
theorem aP6{r:X}{ys:List Y}{us:List AV}(hS:Sy F β g vs e h sy ws ids s)(hy:All (YR F g vs h (zl ids ws) ws ids) ys us)(hx:aI6 ws ys r):∃ps,All (fun v p=>fP v=some p) us ps∧XR F g h vs r (tup ps):=by
 cases r with
 |v v=>
  obtain⟨l,h1,h2⟩:=aG (show oo (plain ys) fun l=>tup l=v from hx);exact⟨l,aF9 hy h1,h2⟩
 |r l=>
  obtain⟨ps,h1,h2⟩:=aHN hS hy hx;exact⟨ps,h1,ps,h2,rfl⟩
 |cut i m=>
  unfold aI6 at hx;split at hx
  ·rename_i hq;cases hq
  ·rename_i hq;cases hq
  ·rename_i hq;cases hq;split at hx
   ·obtain⟨rfl,rfl⟩:=cbE hx
    match us,hy with
    | [u],hy=>
      obtain⟨w,h2,h3⟩:=hy.1.2 _ rfl;obtain⟨sv,rfl⟩:=hy.1.1.sc;exact⟨[(false,[_])],⟨rfl,trivial⟩,w,h2,h3⟩
   ·exact hx.elim
theorem aCd:∀{l:List A} {us:List AV} {k:Nat},All (AR F h) l us→(∀i u,us[i]? =some u→vs[k+i]? =some u)→RS F h vs h [] [] [] (ixY k l) (E.ix k us)
 | [],[],_,_,_=>trivial
 |a::l,u::us,k,ha,hk=>by
  have hr:RS F h vs h [] [] [] (ixY (k+1) l) (E.ix (k+1) us):=aCd ha.2 fun i u hu=>by
    have:=hk (i+1) u hu
    rwa [show k+(i+1)=k+1+i by omega]at this
  have ha:=ha.1;cases a with
  |v v=>exact⟨rfl,ha,hr⟩
  |l ty n L=>
   refine⟨rfl,⟨gQ.to (h:=h) ha (Nat.le_refl _) fun id q _=>⟨rfl,fun _ q=>(by cases q),fun q=>(by cases q)⟩,fun i hi=>?_⟩,hr⟩;cases hi;refine⟨u,hk 0 u rfl,?_⟩;rcases ha with⟨rfl,-⟩|⟨id,cap,c,i,rfl,-⟩|⟨a,cap,i,rfl,-⟩
   ·exact .inl (.inl ⟨rfl,rfl⟩)
   ·exact .inl (.inr ⟨_,_,_,rfl,rfl⟩)
   ·exact .inr ⟨_,_,rfl,rfl⟩
  |ls ty l=>exact⟨rfl,xZ.to (h:=h) ha (Nat.le_refl _) fun id q _=>⟨rfl,fun _ q=>(by cases q)⟩,hr⟩
  |e ty c=>
   obtain⟨p,rfl,b,h1,h2,h3,-⟩:=ha;exact⟨rfl,.inl ⟨p.1,p.2,b,rfl,h1,h2,h3,fun _ q=>(by cases q)⟩,hr⟩
  |f fn cs=>exact⟨rfl,yB.to (h:=h) ha (Nat.le_refl _) fun id q _=>⟨rfl,fun _ q=>(by cases q)⟩,hr⟩
theorem Fx.by_{G:Func}{f:Nat}{cd:Code}{args:List A}{r:X}(tys:List (Nat × TI))(ht:∀p∈tys,F.ti p.1=some p.2)(hG:F.P.funcs[f]? =some G)(hb:G.body=some cd)(hp:F.pr f=none)(hh:F.ph f=none)(hn:Nat.ble args.length G.ntmps=true)(hx:vfn F tys G f cd args r):Fx F f args r:=fun h vs hbar hlk ha=>by
 have hlen:=aDa ha;obtain⟨e0,h1,-,h2⟩:=aCV (nt:=G.ntmps) (l:=vs) (k:=0) (e:=fill G.ntmps 0 .lf) (by have:=bN.1 hn;omega);refine aNY hG hb hp hh h1 (s:=E.ix 0 vs) (ls:=[]) h2 aRA fun β e eβ hS=>?_;subst eβ;refine (aIC ht hlk hbar cd (ids:=[]) (ws:=[]) (vs:=vs) ⟨aCd ha fun i u hu=>by rwa [Nat.zero_add],rfl,fun _ h=>(by cases h),hS⟩ hx).mono fun x e h' hq=>?_;obtain⟨sy,ws,ids,s,hk,hS⟩:=hq;have fin:∀x:Ex,(∀id,x≠.x id)→uC tys G.results.toList sy ws (fun l=>aI6 ws l r)→∃v,leave F G ⟨x,e,h'⟩=some (v,h')∧Xh h h'∧XR F h h' vs r v:=fun x hne hk=>by
  obtain⟨ys,us,h3,h4,h5⟩:=oG ht hS hk;obtain⟨ps,h6,h7⟩:=aP6 hS h3 h4;refine⟨tup ps,?_,hS.st.out,h7⟩;have e1:(ob (res F e h' G.results.toList) fun l=>some (tup l,h'))=some (tup ps,h'):=(by rw[h5 ps h6];rfl);cases x with
  |x id=>exact absurd rfl (hne id)
  |n=>exact e1
  |r=>exact e1
 cases x with
 |x id=>exact hk.elim
 |n=>exact fin _ (fun _ q=>by cases q) hk
 |r=>exact fin _ (fun _ q=>by cases q) hk
theorem all_v:∀{l:List AV} {vs:List AV},All (AR F h) (l.map .v) vs→vs=l
 | [],[],_=>rfl
 |x::l,v::vs,ha=>by rw[all_v (l:=l) ha.2,show v=x from ha.1]
theorem v_all:∀l:List AV,All (AR F h) (l.map .v) l
 | []=>trivial
 |_::l=>⟨rfl,v_all l⟩
theorem Fx.pr{f:Nat}{G:Func}{cd:Code}{gg:List AV→Option AV}{args:List AV}{v:AV}(hG:F.P.funcs[f]? =some G)(hb:G.body=some cd)(hp:F.pr f=some gg)(hg:gg args=some v):Fx F f (args.map .v) (.v v):=fun h vs _ _ ha=>by
 have:=all_v ha;subst this;exact aNX hG hb hp hg ⟨Xh.refl _,rfl⟩
end
end J
namespace E
open Go Go.RowKit
open Ma Me K
theorem Fc.x{F:Cf}{f:Nat}{args:List AV}{v:AV}(hf:Fc F f args v):J.Fx F f (args.map .v) (.v v):=fun h vs hb _ ha=>by
 have:=J.all_v ha;subst this;exact (hf h hb).mono fun u h' hq=>⟨hq.2,hq.1⟩
end E
namespace J
open Go Go.RowKit
open Ma Me K E
def tR:List (Nat × TI):=
 (3,⟨.int .i64,1,8,[.i .i64 0]⟩)::
 (2,⟨.int .i64,1,8,[.i .i64 0]⟩)::
 (4,⟨.bool,1,1,[.b false]⟩)::
 (43,⟨.sl 2,1,24,[.r 0]⟩)::
 (45,⟨.st [(0,3),(1,43),(2,43)],3,56,[.i .i64 0,.r 0,.r 0]⟩)::
 (31,⟨.sl 45,1,24,[.ns]⟩)::
 (9,⟨.str,1,16,[.s []]⟩)::
 []
theorem aAh:∀p∈tR,FR.ti p.1=some p.2:=by
 unfold tR;simp only[List.forall_mem_cons]
 repeat' first|exact fun _ h=>(by cases h)|refine⟨by kernel_rfl,?_⟩
section
variable {a b:Nat} {p q r t:Rat}
theorem mZ(h:cR a b):Fc FR 76 [rn a,rn b] (rn (a*b)):=.pr Tryz.func76 rfl (by kernel_rfl:FR.pr 76=some (q2 cR fun a b=>rn (a*b))) (if_pos h)
theorem aAi(h:cR a b):Fc FR 131 [rn a,rn b] (rn (a+b)):=.pr Tryz.func131 rfl (by kernel_rfl:FR.pr 131=some (q2 cR fun a b=>rn (a+b))) (if_pos h)
theorem rP(h:cR a b)(h2:b≤a):Fc FR 150 [rn a,rn b] (rn (a-b)):=.pr Tryz.func150 rfl (by kernel_rfl:FR.pr 150=some (q2 (fun a b=>cR a b∧b≤a) fun a b=>rn (a-b))) (if_pos ⟨h,h2⟩)
theorem aDc(h:cR a b):Fc FR 149 [rn a,rn b] (sc (.i .i64 (cmp a b))):=.pr Tryz.func149 rfl (by kernel_rfl:FR.pr 149=some (q2 cR fun a b=>sc (.i .i64 (cmp a b)))) (if_pos h)
theorem aA1{n:Nat}(h:n≤9223372036854775807):Fc FR 132 [sc (.i .i64 (n:Int))] (rn n):=.pr Tryz.func132 rfl (by kernel_rfl:FR.pr 132=some aFW) (if_pos ⟨by omega,by omega⟩)
theorem aDG(h:dg B30 a+1≤LIM):Fc FR 133 [rn a] (ss (dec a)):=.pr Tryz.func133 rfl (by kernel_rfl:FR.pr 133=some (q1 (fun n=>dg B30 n+1≤LIM) fun n=>ss (dec n))) (if_pos h)
theorem sn1(p:Rat):sn p=-1∨sn p=0∨sn p=1:=by rcases bZ p with⟨-,h⟩|⟨-,h⟩|⟨-,h⟩<;>rw[h]<;>decide
theorem aAj(p:Rat):p*(p.den:Rat)=(sn p:Rat)*(p.num.natAbs:Rat):=by
 have h1:((p.num:Int):Rat)=(sn p:Rat)*(p.num.natAbs:Rat):=by
  rw[nA];have:=Int.sign_mul_natAbs p.num;exact (congrArg (fun z:Int=>(z:Rat)) this.symm).trans (by push_cast;rfl)
 rw[←h1];exact (nS p).symm
theorem lS(p:Rat):1≤dg W64 p.den:=Nat.pos_of_ne_zero fun e=>absurd (bM aC e) (Nat.ne_of_gt p.den_pos)
theorem rd_d(h:p≠0):rd_ p=p.den:=if_neg h
theorem fB(h:cmp a b<0):a≤b:=by unfold cmp at h;split at h<;>omega
theorem wK(h:¬cmp a b<0):b≤a:=by unfold cmp at h;split at h<;>omega
structure AddF (p q:Rat) (A B D:Nat):Prop where
 d:0<D
 hp:p*(D:Rat)=(sn p:Rat)*(A:Rat)
 hq:q*(D:Rat)=(sn q:Rat)*(B:Rat)
 c:cR A B
 c2:cR B A
 cs:cR (A+B) D
 cm:cR (A-B) D
 cm2:cR (B-A) D
theorem AddF.same{A B D:Nat}(h:AddF p q A B D)(e:sn p=sn q):(p+q)*(D:Rat)=(sn p:Rat)*((A+B:Nat):Rat):=by
 rw[Rat.add_mul,h.hp,h.hq,←e];push_cast;grind
theorem aLq(h1:p≠0)(h2:q≠0)(e:¬sn p=sn q):sn q=-sn p:=by
 rcases bZ p with⟨-,h⟩|⟨h,-⟩|⟨-,h⟩<;>rcases bZ q with⟨-,k⟩|⟨k,-⟩|⟨-,k⟩<;>first|exact absurd h h1|exact absurd k h2|(rw[h,k]at e;exact absurd rfl e)|(rw[h,k];done)|(rw[h,k];decide)
theorem AddF.more{A B D:Nat}(h:AddF p q A B D)(h1:p≠0)(h2:q≠0)(e:¬sn p=sn q)(l:B≤A):(p+q)*(D:Rat)=(sn p:Rat)*((A-B:Nat):Rat):=by
 obtain⟨C,rfl⟩:∃C,A=C+B:=⟨A-B,by omega⟩
 rw[Rat.add_mul,h.hp,h.hq,aLq h1 h2 e,Nat.add_sub_cancel];push_cast;grind
theorem AddF.less{A B D:Nat}(h:AddF p q A B D)(h1:p≠0)(h2:q≠0)(e:¬sn p=sn q)(l:A≤B):(p+q)*(D:Rat)=(sn q:Rat)*((B-A:Nat):Rat):=by
 obtain⟨C,rfl⟩:∃C,B=C+A:=⟨B-A,by omega⟩
 rw[Rat.add_mul,h.hp,h.hq,aLq h1 h2 e,Nat.add_sub_cancel];push_cast;grind
theorem aSr{A B D N:Nat}(h1:p*(D:Rat)=(sn p:Rat)*(A:Rat))(h2:q*(D:Rat)=(sn q:Rat)*(B:Rat))(hd:0<D)(hA:dg B30 A≤N)(hB:dg B30 B≤N)(hD:dg B30 D≤N)(hN:100*N+300≤LIM):AddF p q A B D:=by
 have s1:=vG aI A B;have s2:=dQ aI (Nat.sub_le A B);have s3:=dQ aI (Nat.sub_le B A);exact⟨hd,h1,h2,by unfold cR;omega,by unfold cR;omega,by unfold cR;omega,by unfold cR;omega,by unfold cR;omega⟩
theorem k_Sign:Fx FR 47 [.v (rm p)] (.v (sc (.i .i64 (sn p)))):=Fx.by_ tR aAh Tryz.func47 rfl (by kernel_rfl) (by kernel_rfl) rfl rfl
theorem k_Mul(hB:200*(Ma.sz p+Ma.sz q)+1000≤LIM):Fx FR 31 [.v (rm p),.v (rm q)] (.v (rm (p*q))):=by
 have d1:=qJ p.num.natAbs;have d2:=qJ p.den;have d3:=qJ q.num.natAbs;have d4:=qJ q.den;have e1:=fO p;have e2:=fO q;have m1:=dC aI p.num.natAbs q.num.natAbs;have m2:=dC aI p.den q.den;refine Fx.by_ tR aAh Tryz.func31 rfl (by kernel_rfl) (by kernel_rfl) rfl ⟨_,aFK (aCm _) (aCm _),dt (fun h=>?_) fun h=>?_⟩
 ·exact rm0.trans (congrArg rm (aX.1 ((aJK p q).trans h)).symm)
 ·have hp:p≠0:=fun e=>h (by rw[aX.2 e,Int.zero_mul]);have hq:q≠0:=fun e=>h (by rw[aX.2 e,Int.mul_zero]);exact⟨by kernel_rfl,_,aFK (aCm _) (aCm _),_,(mZ (by unfold cR;omega)).x,_,(mZ (by rw[rd_d hp,rd_d hq];unfold cR;omega)).x,_,(iY (q:=p*q) (fun _=>by rw[rd_d hp,rd_d hq];exact Nat.mul_pos p.den_pos q.den_pos) (by rw[←aJK];exact sn1 _) (by
   rw[rd_d hp,rd_d hq];have h1:=aAj p;have h2:=aAj q
   push_cast
   grind) (fun e=>absurd e (by rw[rd_d hp,rd_d hq];exact Nat.ne_of_gt (Nat.mul_pos p.den_pos q.den_pos))) (by rw[rd_d hp,rd_d hq];unfold cR;omega)).x,rfl⟩
theorem k_Add(hB:400*(Ma.sz p+Ma.sz q)+1000≤LIM):Fx FR 99 [.v (rm p),.v (rm q)] (.v (rm (p+q))):=by
 have d1:=qJ p.num.natAbs;have d2:=qJ p.den;have d3:=qJ q.num.natAbs;have d4:=qJ q.den;have e1:=fO p;have e2:=fO q;have m1:=dC aI p.num.natAbs q.den;have m2:=dC aI q.num.natAbs p.den;have m3:=dC aI p.den q.den;refine Fx.by_ tR aAh Tryz.func99 rfl (by kernel_rfl) (by kernel_rfl) rfl (dt (fun h=>congrArg rm (show q=p+q by rw[aX.1 h,Rat.zero_add])) fun h1=>dt (fun h=>congrArg rm (show p=p+q by rw[aX.1 h,Rat.add_zero])) fun h2=>?_);have h1:p≠0:=fun e=>h1 (aX.2 e);have h2:q≠0:=fun e=>h2 (aX.2 e);have s1:=aAj p;have s2:=aAj q;have F1:AddF p q (p.num.natAbs*rd_ q) (q.num.natAbs*rd_ p) (rd_ p*rd_ q):=by
  rw[rd_d h1,rd_d h2];exact aSr (N:=3*(Ma.sz p+Ma.sz q)) (by push_cast;grind) (by push_cast;grind) (Nat.mul_pos p.den_pos q.den_pos) (by omega) (by omega) (by omega) (by omega)
 have F2:rd_ p=1→rd_ q=1→AddF p q p.num.natAbs q.num.natAbs (rd_ p):=fun x y=>by
  rw[rd_d h1]at x⊢;rw[rd_d h2]at y;rw[y]at s2;rw[x]at s1⊢;exact aSr (N:=3*(Ma.sz p+Ma.sz q)) s1 s2 Nat.zero_lt_one (by omega) (by omega) (by have e9:dg B30 1≤1:=(by decide+kernel);have:=lS p;omega) (by omega)
 have c1:cR (p.num.natAbs) (rd_ q):=by rw[rd_d h2];unfold cR;omega
 have c2:cR (q.num.natAbs) (rd_ p):=by rw[rd_d h1];unfold cR;omega
 have c3:cR (rd_ p) (rd_ q):=by rw[rd_d h1,rd_d h2];unfold cR;omega
 refine⟨by kernel_rfl,_,uO.x,dn (fun _=>⟨by kernel_rfl,_,(mZ c1).x,_,(mZ c2).x,_,(mZ c3).x,?_⟩) fun x=>⟨_,uO.x,dn (fun _=>⟨by kernel_rfl,_,(mZ c1).x,_,(mZ c2).x,_,(mZ c3).x,?_⟩) fun y=>?_⟩⟩
 ·exact dt (fun e=>⟨by kernel_rfl,_,(aAi F1.c).x,_,(iY (q:=p+q) (fun _=>F1.d) (sn1 p) (F1.same e) (fun h=>absurd h (Nat.ne_of_gt F1.d)) F1.cs).x,rfl⟩) fun e=>⟨_,(aDc F1.c).x,dt (fun l=>⟨by kernel_rfl,_,(rP F1.c2 (fB l)).x,_,(iY (q:=p+q) (fun _=>F1.d) (sn1 q) (F1.less h1 h2 e (fB l)) (fun h=>absurd h (Nat.ne_of_gt F1.d)) F1.cm2).x,rfl⟩) fun l=>⟨by kernel_rfl,_,(rP F1.c (wK l)).x,_,(iY (q:=p+q) (fun _=>F1.d) (sn1 p) (F1.more h1 h2 e (wK l)) (fun h=>absurd h (Nat.ne_of_gt F1.d)) F1.cm).x,rfl⟩⟩
 ·exact dt (fun e=>⟨by kernel_rfl,_,(aAi F1.c).x,_,(iY (q:=p+q) (fun _=>F1.d) (sn1 p) (F1.same e) (fun h=>absurd h (Nat.ne_of_gt F1.d)) F1.cs).x,rfl⟩) fun e=>⟨_,(aDc F1.c).x,dt (fun l=>⟨by kernel_rfl,_,(rP F1.c2 (fB l)).x,_,(iY (q:=p+q) (fun _=>F1.d) (sn1 q) (F1.less h1 h2 e (fB l)) (fun h=>absurd h (Nat.ne_of_gt F1.d)) F1.cm2).x,rfl⟩) fun l=>⟨by kernel_rfl,_,(rP F1.c (wK l)).x,_,(iY (q:=p+q) (fun _=>F1.d) (sn1 p) (F1.more h1 h2 e (wK l)) (fun h=>absurd h (Nat.ne_of_gt F1.d)) F1.cm).x,rfl⟩⟩
 ·exact dt (fun e=>⟨by kernel_rfl,_,(aAi (F2 x y).c).x,_,(iY (q:=p+q) (fun _=>(F2 x y).d) (sn1 p) ((F2 x y).same e) (fun h=>absurd h (Nat.ne_of_gt (F2 x y).d)) (F2 x y).cs).x,rfl⟩) fun e=>⟨_,(aDc (F2 x y).c).x,dt (fun l=>⟨by kernel_rfl,_,(rP (F2 x y).c2 (fB l)).x,_,(iY (q:=p+q) (fun _=>(F2 x y).d) (sn1 q) ((F2 x y).less h1 h2 e (fB l)) (fun h=>absurd h (Nat.ne_of_gt (F2 x y).d)) (F2 x y).cm2).x,rfl⟩) fun l=>⟨by kernel_rfl,_,(rP (F2 x y).c (wK l)).x,_,(iY (q:=p+q) (fun _=>(F2 x y).d) (sn1 p) ((F2 x y).more h1 h2 e (wK l)) (fun h=>absurd h (Nat.ne_of_gt (F2 x y).d)) (F2 x y).cm).x,rfl⟩⟩
end
section
variable {a b:Nat} {p q r t:Rat}
theorem aI8{n m:Nat}(hn:n≤1000000)(hm:m≤1000000):cR n m:=by
 have h1:=dQ aI hn;have h2:=dQ aI hm;have h3:dg B30 1000000≤1:=by decide+kernel
 have L:=aB;unfold cR;omega
theorem k_Int{n:Nat}(h:n≤1000000):Fx FR 78 [.v (sc (.i .i64 (n:Int)))] (.v (rm (((n:Nat):Int):Rat))):=
 Fx.by_ tR aAh Tryz.func78 rfl (by kernel_rfl) (by kernel_rfl) rfl (dt (fun h=>absurd h (by omega)) fun _=>⟨_,(aA1 (n:=n) (by omega)).x,_,aI1.x,_,(iY (q:=(((n:Nat):Int):Rat)) (s:=1) (M:=n) (N:=1) (fun _=>Nat.zero_lt_one) (by decide) (by push_cast;grind) (fun e=>absurd e (by decide)) (aI8 h (by decide))).x,rfl⟩)
theorem k_IntM:Fx FR 78 [.v (sc (.i .i64 (-1)))] (.v (rm (-1))):=
 Fx.by_ tR aAh Tryz.func78 rfl (by kernel_rfl) (by kernel_rfl) rfl (dt (fun _=>⟨.i .i64 0,by kernel_rfl,⟨by decide,by decide⟩,_,(aA1 (n:=0) (by decide)).x,⟨by decide,by decide⟩,_,(aA1 (n:=0) (by decide)).x,_,(aAi (a:=0) (b:=0) (aI8 (by decide) (by decide))).x,.i .i64 0,by kernel_rfl,⟨by decide,by decide⟩,⟨by decide,by decide⟩,_,(aA1 (n:=1) (by decide)).x,_,(aAi (a:=0) (b:=1) (aI8 (by decide) (by decide))).x,_,aI1.x,_,(iY (q:=(-1:Rat)) (s:=-1) (M:=1) (N:=1) (fun _=>Nat.zero_lt_one) (by decide) (by decide+kernel) (fun e=>absurd e (by decide)) (aI8 (by decide) (by decide))).x,rfl⟩) fun h=>absurd (by decide) h)
theorem aTS:sn q<0↔q.num<0:=by
 rw[iR];rcases bZ q with⟨h,k⟩|⟨h,k⟩|⟨h,k⟩<;>rw[k]
 ·exact⟨fun _=>h,fun _=>by decide⟩
 ·exact⟨fun e=>absurd e (by decide),fun e=>by rw[h]at e;exact absurd e (by decide)⟩
 ·exact⟨fun e=>absurd e (by decide),fun e=>absurd h (Rat.not_lt.2 (Rat.le_of_lt e))⟩
theorem aCt{dd:Dk}{l m:List UInt8}(h:l.length+m.length<9223372036854775808):bop dd .add (.s (un8 l)) (.s (un8 m))=some (SV.s (un8 (l++m))):=by
 show cb (Nat.blt (Nat.add (len (un8 l)) (len (un8 m))) 9223372036854775808) (some (SV.s (app (un8 l) (un8 m)))) none=_;rw[aT,aT,mY,mY,aP.2 (show Nat.add l.length m.length<9223372036854775808 from h),iT];show some (SV.s (un8 l++un8 m))=_;unfold un8;rw[List.map_append]
theorem k_Text(hB:Ma.sz q≤1000000000):Fx FR 80 [.v (rm q)] (.v (ss (gH q))):=by
 have L:=aB;have e1:=fO q;have d1:=qJ q.num.natAbs;have d2:=qJ q.den;have l1:=xQ (N:=q.num.natAbs);have l2:=xQ (N:=rd_ q);have hr:dg W64 (rd_ q)≤1000000000∧dg B30 (rd_ q)≤3000000000:=by
  unfold rd_;split
  ·have:=aU W64;have:=aU B30;omega
  ·omega
 have hs:(sn q<0)=(q.num<0):=propext aTS;have k1:=aDG (a:=q.num.natAbs) (by omega);have k2:=aDG (a:=rd_ q) (by omega);have T1:∀h:rd_ q=1,(if q.den=1 then [] else 47::dec q.den)=([]:List UInt8):=fun h=>if_pos (by by_cases hq:q=0;rw[hq];rfl;rw[←rd_d hq];exact h);have T0:q=0→(if q.den=1 then [] else 47::dec q.den)=([]:List UInt8):=fun h=>by rw[h];rfl
 have T2:∀(h0:q≠0) (h:¬rd_ q=1),(if q.den=1 then [] else 47::dec q.den)=47::dec (rd_ q):=fun h0 h=>by rw[rd_d h0]at h⊢;exact if_neg h
 have fin:∀s:List UInt8,(if q.num<0 then [45] else [])++dec q.num.natAbs=s→∀e,(if q.den=1 then [] else 47::dec q.den)=e→sc (.s (un8 (s++e)))=ss (gH q):=fun s h1 e h2=>by
  unfold gH;rw[h1,h2];rfl
 refine Fx.by_ tR aAh Tryz.func80 rfl (by kernel_rfl) (by kernel_rfl) rfl ⟨_,k1.x,dt (fun h=>⟨_,aCt (l:=[45]) (m:=dec q.num.natAbs) (by simp;omega),?_⟩) fun h=>?_⟩
 ·have hn:(if q.num<0 then [45] else [])++dec q.num.natAbs=45::dec q.num.natAbs:=(by rw[if_pos (hs▸h)];rfl);exact dt (fun h1=>⟨_,uO.x,dn (fun h2=>⟨_,aCt (l:=45::dec q.num.natAbs) (m:=[47]) (by simp;omega),_,k2.x,_,aCt (l:=(45::dec q.num.natAbs)++[47]) (m:=dec (rd_ q)) (by simp;omega),by rw[List.append_assoc];exact fin _ hn _ (T2 (fun e=>h1 (aX.2 e)) h2)⟩) fun h2=>by have:=fin _ hn _ (T1 h2);rwa [List.append_nil]at this⟩) fun h1=>by have:=fin _ hn _ (T0 (aX.1 (Classical.not_not.1 h1)));rwa [List.append_nil]at this
 ·have hn:(if q.num<0 then [45] else [])++dec q.num.natAbs=dec q.num.natAbs:=(by rw[if_neg (hs▸h)];rfl);exact dt (fun h1=>⟨_,uO.x,dn (fun h2=>⟨_,aCt (l:=dec q.num.natAbs) (m:=[47]) (by simp;omega),_,k2.x,_,aCt (l:=(dec q.num.natAbs)++[47]) (m:=dec (rd_ q)) (by simp;omega),by rw[List.append_assoc];exact fin _ hn _ (T2 (fun e=>h1 (aX.2 e)) h2)⟩) fun h2=>by have:=fin _ hn _ (T1 h2);rwa [List.append_nil]at this⟩) fun h1=>by have:=fin _ hn _ (T0 (aX.1 (Classical.not_not.1 h1)));rwa [List.append_nil]at this
theorem aSs{k:Nat}(hk:k≤1000)(h:dg B30 a≤3000000000):Fc FR 77 [rn a,sc (.i .i64 (k:Int))] (rn (a*2^k)):=.pr Tryz.func77 rfl (by kernel_rfl:FR.pr 77=some aIZ) (if_pos ⟨by omega,by omega,h⟩)
theorem aSt(k:Nat):dg B30 (2^k)≤k+1:=(aK aI _ _).2 (Nat.lt_of_le_of_lt (Nat.pow_le_pow_left (show 2≤B30 by decide+kernel) k) (Nat.pow_lt_pow_right aI (Nat.lt_succ_self k)))
theorem k_Shift{k:Nat}(hB:Ma.sz p≤1000000000)(hk:k≤1000):Fx FR 32 [.v (rm p),.v (sc (.i .i64 (k:Int)))] (.v (rm (p*((2^k:Nat):Rat)))):=by
 have L:=aB;have d1:=qJ p.num.natAbs;have d2:=qJ p.den;have e1:=fO p;have m1:=dC aI p.num.natAbs (2^k);have m2:=aSt k;refine Fx.by_ tR aAh Tryz.func32 rfl (by kernel_rfl) (by kernel_rfl) rfl (dt (fun h=>congrArg rm (show p=p*((2^k:Nat):Rat) by rw[aX.1 h,Rat.zero_mul])) fun h=>dt (fun h1=>absurd h1 (by omega)) fun _=>?_);have hp:p≠0:=fun e=>h (aX.2 e);exact⟨by kernel_rfl,_,(aSs hk (by omega)).x,_,(iY (q:=p*((2^k:Nat):Rat)) (fun _=>by rw[rd_d hp];exact p.den_pos) (sn1 _) (by
  rw[rd_d hp,Rat.natCast_mul,Rat.mul_assoc,Rat.mul_comm _ (p.den:Rat),←Rat.mul_assoc,aAj,Rat.mul_assoc]) (fun e=>by rw[rd_d hp]at e;exact absurd e (Nat.ne_of_gt p.den_pos)) (by rw[rd_d hp];unfold cR;omega)).x,rfl⟩
theorem k_Div(h1:Ma.sz p≤1000000000)(h2:Ma.sz q≤1000000000):Fx FR 79 [.v (rm p),.v (rm q)] (.v (.t [(true,encR (gY p q).2),(false,[.i .i64 (gY p q).1])])):=by
 have L:=aB;refine Fx.by_ tR aAh Tryz.func79 rfl (by kernel_rfl) (by kernel_rfl) rfl (dt (fun h=>?_) fun h=>?_)
 ·rw[show gY p q=(8,0) from if_pos (aX.1 h),aCs];rfl
 ·have hq:q≠0:=fun e=>h (aX.2 e);have hi:q⁻¹≠0:=fun e=>hq (by rw[←Rat.inv_inv q,e,Rat.inv_zero]);have e:AV.c true [.i .i64 (sn q),.r (rd_ q),.r q.num.natAbs]=rm q⁻¹:=aD7 hi (by
   rw[nA,nA,Rat.num_inv,Int.sign_mul,Int.sign_sign,Int.sign_eq_one_of_pos (show (0:Int)<(q.den:Int) by have:=q.den_pos;omega),Int.mul_one]) (by rw[rd_d hq,Rat.num_inv,Int.natAbs_mul,Int.natAbs_sign_of_ne_zero (fun e=>hq (Rat.num_eq_zero.1 e)),Nat.one_mul];rfl) (aHx hq)
  have hm:=k_Mul (p:=p) (q:=q⁻¹) (by have:=rV q;omega);rw[←e]at hm;rw[show gY p q=(0,p*q⁻¹) from if_neg hq];exact⟨_,hm,rfl⟩
end
end J
namespace E
open Go Go.RowKit
open Ma Me K
noncomputable section
def aJ:Nat:=1000000000
def aUM:Nat:=2000000
theorem aSu{a b:Nat}(ha:0<a)(hb:0<b)(h:bt a=bt b):a=b:=by
 unfold bt at h;split at h<;>split at h<;>omega
theorem aNn{p q:Rat}(h:bC p=bC q):p=q:=by
 unfold bC at h;injection h with h1 h;injection h with h2 h;injection h with h3 _;injection h1 with h1;injection h2 with h2;injection h3 with h3;refine Rat.ext ?_ (aSu p.den_pos q.den_pos h3);have h1:=decide_eq_decide.1 h1;omega
open Classical in
def nO{α:Type}(v:AV)(k:Rat→Option α):Option α:=if h:∃q,v=nm q∧Ma.sz q≤aJ then k (Classical.choose h) else none
theorem aA2{α:Type}{q:Rat}{k:Rat→Option α}(hs:Ma.sz q≤aJ):nO (nm q) k=k q:=by
 have h:∃p,nm q=nm p∧Ma.sz p≤aJ:=⟨q,rfl,hs⟩
 unfold nO;rw[dif_pos h];have h1:=(Classical.choose_spec h).1;unfold nm at h1;injection h1 with _ h1;exact congrArg k (aNn h1).symm
theorem qC{α:Type}{v:AV}{k:Rat→Option α}{y:α}(h:nO v k=some y):∃q,v=nm q∧Ma.sz q≤aJ∧k q=some y:=by
 unfold nO at h;split at h
 ·rename_i hx;exact⟨_,(Classical.choose_spec hx).1,(Classical.choose_spec hx).2,h⟩
 ·cases h
def o1(f:Rat→AV)(l:List AV):Option AV:=match l with| [x]=>nO x fun p=>some (f p)|_=>none
def o2(f:Rat→Rat→AV)(l:List AV):Option AV:=match l with| [x,y]=>nO x fun p=>nO y fun q=>some (f p q)|_=>none
def inR(n:Int):Bool:=decide (-9223372036854775808≤n) && decide (n≤9223372036854775807)
def aNo(l:List AV):Option AV:=match l with| [x]=>int x fun n=>cb (inR n) (some (nm (n:Rat))) none|_=>none
def aCu(l:List AV):Option AV:=match l with| [.c false [.s l]]=>cb (okS l) (some (.t [(true,bC (bO (by8 l)).2),(false,[.i .i64 (bO (by8 l)).1])])) none|_=>none
def uP(l:List AV):Option AV:=match l with| [.c false [.s l]]=>cb (okS l) (some (.t [(true,encR (bO (by8 l)).2),(false,[.i .i64 (bO (by8 l)).1])])) none|_=>none
theorem aOg{f:Rat→AV}{p:Rat}(h1:Ma.sz p≤aJ):o1 f [nm p]=some (f p):=aA2 (k:=fun p=>some (f p)) h1
theorem aI9{f:Rat→Rat→AV}{p q:Rat}(h1:Ma.sz p≤aJ)(h2:Ma.sz q≤aJ):o2 f [nm p,nm q]=some (f p q):=(aA2 (k:=fun p=>nO (nm q) fun q=>some (f p q)) h1).trans (aA2 (k:=fun q=>some (f p q)) h2)
theorem aNp{p q:Rat}(h:encR p=encR q):p=q:=by
 unfold encR at h;injection h with h1 h;injection h with h2 h;injection h with h3 _;injection h1 with _ h1;injection h2 with h2;injection h3 with h3;by_cases hp:p=0
 ·rw[hp,sn0]at h1;rw[hp,aX.1 h1.symm]
 ·have hq:q≠0:=fun e=>hp (aX.1 (h1.trans (aX.2 e)));rw[J.rd_d hp,J.rd_d hq]at h3;refine Rat.ext ?_ h3;have e1:=Int.sign_mul_natAbs p.num;have e2:=Int.sign_mul_natAbs q.num;rw[←nA,h1,h2,nA,e2]at e1;exact e1.symm
open Classical in
def oL{α:Type}(v:AV)(k:Rat→Option α):Option α:=if h:∃q,v=rm q∧Ma.sz q≤aJ then k (Classical.choose h) else none
theorem aA3{α:Type}{q:Rat}{k:Rat→Option α}(hs:Ma.sz q≤aJ):oL (rm q) k=k q:=by
 have h:∃p,rm q=rm p∧Ma.sz p≤aJ:=⟨q,rfl,hs⟩
 unfold oL;rw[dif_pos h];have h1:=(Classical.choose_spec h).1;unfold rm at h1;injection h1 with _ h1;exact congrArg k (aNp h1).symm
theorem uQ{α:Type}{v:AV}{k:Rat→Option α}{y:α}(h:oL v k=some y):∃q,v=rm q∧Ma.sz q≤aJ∧k q=some y:=by
 unfold oL at h;split at h
 ·rename_i hx;exact⟨_,(Classical.choose_spec hx).1,(Classical.choose_spec hx).2,h⟩
 ·cases h
def r1(f:Rat→AV)(l:List AV):Option AV:=match l with| [x]=>oL x fun p=>some (f p)|_=>none
def r2(f:Rat→Rat→AV)(l:List AV):Option AV:=match l with| [x,y]=>oL x fun p=>oL y fun q=>some (f p q)|_=>none
def aJa(l:List AV):Option AV:=match l with| [x]=>int x fun n=>cb (decide (0≤n) && decide (n≤1000000) || decide (n=-1)) (some (rm (n:Rat))) none|_=>none
theorem aOh{f:Rat→AV}{p:Rat}(h1:Ma.sz p≤aJ):r1 f [rm p]=some (f p):=aA3 (k:=fun p=>some (f p)) h1
theorem aJb{f:Rat→Rat→AV}{p q:Rat}(h1:Ma.sz p≤aJ)(h2:Ma.sz q≤aJ):r2 f [rm p,rm q]=some (f p q):=(aA3 (k:=fun p=>oL (rm q) fun q=>some (f p q)) h1).trans (aA3 (k:=fun q=>some (f p q)) h2)
def aNq(l:List AV):Option AV:=match l with| [x,y]=>nO x fun p=>int y fun n=>some (.t [(true,bC (jC p n).2),(false,[.i .i64 (jC p n).1])])|_=>none
def aGa(l:List AV):Option AV:=match l with| [x,y]=>oL x fun p=>int y fun n=>cb (decide (0≤n) && decide (n≤1000)) (some (rm (p*((2^n.toNat:Nat):Rat)))) none|_=>none
def gs:List (Nat × (List AV→Option AV)):=
 (105,o2 fun p q=>nm (p+q))::
 (103,o2 fun p q=>nm (p-q))::
 (27,o2 fun p q=>nm (p*q))::
 (264,o2 fun p q=>nm (wX p q))::
 (65,o2 fun p q=>sc (.i .i64 (rc p q)))::
 (94,o1 fun p=>sc (.i .i64 (sn p)))::
 (43,aNo)::
 (39,aCu)::
 (40,uP)::
 (24,o1 fun p=>ss (gH p))::
 (80,r1 fun p=>ss (gH p))::
 (47,r1 fun p=>sc (.i .i64 (sn p)))::
 (99,r2 fun p q=>rm (p+q))::
 (31,r2 fun p q=>rm (p*q))::
 (78,aJa)::
 (74,o2 fun p q=>.t [(true,bC (gY p q).2),(false,[.i .i64 (gY p q).1])])::
 (73,aNq)::
 (79,r2 fun p q=>.t [(true,encR (gY p q).2),(false,[.i .i64 (gY p q).1])])::
 (32,aGa)::
 []
def gT:T 3 (List AV→Option AV):=T.ofL gs
def aCv(_:H)(l:List AV):Option AV:=match l with| []=>some (sc (.b true))|_=>none
def phA(f:Nat):Option (H→List AV→Option AV):=cb (Nat.beq f 5) (some aCv) none
def aUN(W0:World)(t:Nat)(a:Addr):Option AV:=cb (Nat.beq t 23) (match W0.cell? a with|some (.string s)=>some (sc (.s (bytes s)))|_=>none) none
def F2(W0:World):Cf:=⟨Tryz.prog,fun w=>Tb w∧Px w∧Q W0 w,39,fun f=>gT.get f,aD2,phA,aUN W0,fun _ _=>none⟩
def GOk(fn:Nat)(g:List AV→Option AV):Prop:=∀(args:List AV) (v:AV),g args=some v→∀(c:Cx) (vs:List Value),Tb c.w→Px c.w→VL c args vs→
 Calls Tryz.prog fn vs.toArray c.w fun e w'=>∃u,e=.returned u∧Q c.w w'∧VR ⟨c.n,c.k,c.r,w',c.z⟩ v u
def Wl(v:AV):Prop:=∀(c d:Cx) (u:Value),c.w=d.w→VR c v u→VR d v u
theorem wN{q:Rat}:Wl (nm q):=fun _ _ _ h k=>iW.2 (h▸iW.1 k)
theorem wI{n:Int}:Wl (sc (.i .i64 n)):=fun c _ u _ k=>aF.2 (show u=.int .i64 n from (aF (c:=c)).1 k)
theorem toG{fn:Nat}{args:List AV}{vs:List Value}{v:AV}{c:Cx}(hw:Wl v)(hx:Fc (FN true) fn args v)(hT:Tb c.w)(ha:∀d:Cx,d.w=c.w→VL d args vs):Calls Tryz.prog fn vs.toArray c.w fun e w'=>∃u,e=.returned u∧Q c.w w'∧VR ⟨c.n,c.k,c.r,w',c.z⟩ v u:=by
 refine (toF hx (fun _=>hT) ha).mono ?_;rintro e w' ⟨u,d,rfl,hq,rfl,hv⟩;exact⟨u,rfl,hq,hw d _ _ rfl hv⟩
theorem g1{fn:Nat}{f:Rat→AV}(hw:∀p,Wl (f p))(h:∀p,Ma.sz p≤aJ→Fc (FN true) fn [nm p] (f p)):GOk fn (o1 f):=by
 intro args v hx c vs hT hP hv
 match args,vs,hx,hv with
 | [x],[u],hx,hv=>
   obtain⟨q,rfl,h1,h2⟩:=qC (show nO x (fun p=>some (f p))=some v from hx);injection h2 with h2;subst h2;exact toG (vs:=[u]) (hw q) (h q h1) hT (vl1 (iW.1 hv.1))
theorem g2{fn:Nat}{f:Rat→Rat→AV}(hw:∀p q,Wl (f p q))(h:∀p q,Ma.sz p≤aJ→Ma.sz q≤aJ→Fc (FN true) fn [nm p,nm q] (f p q)):GOk fn (o2 f):=by
 intro args v hx c vs hT hP hv
 match args,vs,hx,hv with
 | [x,y],[u,u2],hx,hv=>
   obtain⟨p,rfl,h1,h2⟩:=qC (show nO x (fun p=>nO y fun q=>some (f p q))=some v from hx);obtain⟨q,rfl,h3,h4⟩:=qC h2;injection h4 with h4;subst h4;exact toG (vs:=[u,u2]) (hw p q) (h p q h1 h3) hT (vl2 (iW.1 hv.1) (iW.1 hv.2.1))
theorem aLr{n:Int}(h:inR n=true):-9223372036854775808≤n∧n≤9223372036854775807:=by
 obtain⟨h1,h2⟩:=(Bool.and_eq_true _ _).mp h;exact⟨of_decide_eq_true h1,of_decide_eq_true h2⟩
theorem aTT:GOk 43 aNo:=by
 intro args v hx c vs hT hP hv
 match args,vs,hx,hv with
 | [x],[u],hx,hv=>
   obtain⟨n,rfl,h0⟩:=mP (show int x (fun n=>cb (inR n) (some (nm (n:Rat))) none)=some v from hx);obtain⟨h1,h2⟩:=aD.1 h0;injection h2 with h2;subst h2;have hu:u=.int .i64 n:=aF.1 hv.1;subst hu;exact toG (vs:=[.int .i64 n]) wN (aTz (aLr h1).1 (aLr h1).2) hT fun _ _=>⟨aF.2 rfl,trivial⟩
theorem aSv{s:ByteArray}{l:List Nat}(h:bytes s=l)(hk:okS l=true):s.size≤9223372036854775806:=by
 have:=(iH h).2;have:=aP.1 hk;omega
theorem aP7:GOk 39 aCu:=by
 intro args v hx c vs hT hP hv;unfold aCu at hx;split at hx
 ·rename_i l
  match vs,hv with
  | [u],hv=>
    obtain⟨s,rfl,hs⟩:=aF.1 (show VR c (sc (.s l)) u from hv.1);obtain⟨h1,h2⟩:=aD.1 hx;have e:=(iH hs).1;rw[e]at h2;exact aCr (by rw[←h2];unfold er;rw[aC7]) (aC5 s c.w hT (aSv hs h1))
 ·cases hx
theorem aJc:∀{l:List (Bool × List SV)},(l.all fun p=>plS p.2)=true→Wl (.t l):=fun {l} hl c d u hw hv=>by
 obtain⟨vs,rfl,h⟩:=hv;refine⟨vs,rfl,?_⟩
 induction l generalizing vs with
 |nil=>cases vs with|nil=>trivial|cons v vs=>exact h.elim
 |cons p l ih=>
  cases vs with
  |nil=>exact h.elim
  |cons v vs=>
   obtain⟨h1,h2⟩:=(Bool.and_eq_true _ _).mp (show (plS p.2 && l.all fun p=>plS p.2)=true from hl);refine⟨?_,ih h2 vs h.2⟩;obtain⟨g,k⟩:=p;cases g with
   |true=>obtain⟨cs,h3,h4⟩:=h.1;exact⟨cs,h3,aAJ hw.symm h1 h4⟩
   |false=>
    obtain⟨x,h3,h4⟩:=h.1;have h3:k=[x]:=h3;subst h3;exact⟨x,rfl,(aAJ (r:=[v]) hw.symm h1 ⟨h4,trivial⟩).1⟩
theorem aLs:FR.P.follows .mixedOrders=true:=by kernel_rfl
theorem aJd:GOk 40 uP:=by
 intro args v hx c vs hT hP hv;unfold uP at hx;split at hx
 ·rename_i l
  match vs,hv with
  | [u],hv=>
    obtain⟨s,rfl,hs⟩:=aF.1 (show VR c (sc (.s l)) u from hv.1);obtain⟨h1,h2⟩:=aD.1 hx;injection h2 with h2;subst h2;have e:=iH hs;have:=aP.1 h1;refine (toX aSa aLs (vs:=[.string s]) (aPY (l:=by8 l) (by rw[e.1,tC];omega)) trivial fun d hd=>⟨aF.2 ⟨s,rfl,(iX e.1.symm)⟩,trivial⟩).mono ?_;rintro e w' ⟨u,d,rfl,hq,rfl,hv⟩;exact⟨u,rfl,hq,aJc rfl d _ _ rfl hv⟩
 ·cases hx
theorem tK{g:Bool}{l:List SV}(hl:plS l=true):Wl (.c g l):=fun c d u hw hv=>by
 cases g with
 |true=>obtain⟨cs,h3,h4⟩:=hv;exact⟨cs,h3,aAJ hw.symm hl h4⟩
 |false=>
  obtain⟨x,h3,h4⟩:=hv;subst h3;exact⟨x,rfl,(aAJ (r:=[u]) hw.symm hl ⟨h4,trivial⟩).1⟩
theorem aUO{F:Cf}(hF:FOk F)(hm:F.P.follows .mixedOrders=true){fn:Nat}{args:List AV}{vs:List Value}{v:AV}{w:World}(hx:J.Fx F fn (args.map .v) (.v v))(hT:F.tb w)(hv:∀d:Cx,d.w=w→VL d args vs):Calls F.P fn vs.toArray w fun e w'=>∃u d,e=.returned u∧Me.Q w w'∧d.w=w'∧VR d v u:=by
 obtain⟨_,h',⟨m0,k0⟩,-,rfl⟩:=hx ⟨.lf,0,0,.lf⟩ args (Nat.le_refl 0) (fun _ _=>T.get_lf) (J.v_all args);obtain⟨-,hcr⟩:=jO (vs:=vs) hF (xI hF hm m0) (k0 m0 (Nat.le_refl m0)) (xK F.P.cellsOf w) (fun _=>rfl) hT (hv _ rfl);refine Calls.mono hcr ?_;rintro e w' ⟨u,d,k1,k2,k3,k4,k5⟩;exact⟨u,d,k1,k2▸k4.q,k2,k5⟩
theorem toR{fn:Nat}{args:List AV}{vs:List Value}{v:AV}{c:Cx}(hw:Wl v)(hx:J.Fx FR fn (args.map .v) (.v v))(ha:∀d:Cx,d.w=c.w→VL d args vs):Calls Tryz.prog fn vs.toArray c.w fun e w'=>∃u,e=.returned u∧Q c.w w'∧VR ⟨c.n,c.k,c.r,w',c.z⟩ v u:=by
 refine (aUO aSa aLs hx trivial ha).mono ?_;rintro e w' ⟨u,d,rfl,hq,rfl,hv⟩;exact⟨u,rfl,hq,hw d _ _ rfl hv⟩
theorem g1R{fn:Nat}{f:Rat→AV}(hw:∀p,Wl (f p))(h:∀p,Ma.sz p≤aJ→J.Fx FR fn [.v (rm p)] (.v (f p))):GOk fn (r1 f):=by
 intro args v hx c vs hT hP hv
 match args,vs,hx,hv with
 | [x],[u],hx,hv=>
   obtain⟨q,rfl,h1,h2⟩:=uQ (show oL x (fun p=>some (f p))=some v from hx);injection h2 with h2;subst h2;exact toR (args:=[rm q]) (vs:=[u]) (hw q) (h q h1) fun d hd=>⟨tK rfl _ _ _ hd.symm hv.1,trivial⟩
theorem g2R{fn:Nat}{f:Rat→Rat→AV}(hw:∀p q,Wl (f p q))(h:∀p q,Ma.sz p≤aJ→Ma.sz q≤aJ→J.Fx FR fn [.v (rm p),.v (rm q)] (.v (f p q))):GOk fn (r2 f):=by
 intro args v hx c vs hT hP hv
 match args,vs,hx,hv with
 | [x,y],[u,u2],hx,hv=>
   obtain⟨p,rfl,h1,h2⟩:=uQ (show oL x (fun p=>oL y fun q=>some (f p q))=some v from hx);obtain⟨q,rfl,h3,h4⟩:=uQ h2;injection h4 with h4;subst h4;exact toR (args:=[rm p,rm q]) (vs:=[u,u2]) (hw p q) (h p q h1 h3) fun d hd=>⟨tK rfl _ _ _ hd.symm hv.1,tK rfl _ _ _ hd.symm hv.2.1,trivial⟩
theorem aSw:GOk 78 aJa:=by
 intro args v hx c vs hT hP hv
 match args,vs,hx,hv with
 | [x],[u],hx,hv=>
   obtain⟨n,rfl,h0⟩:=mP (show int x (fun n=>cb (decide (0≤n) && decide (n≤1000000) || decide (n=-1)) (some (rm (n:Rat))) none)=some v from hx);obtain⟨h1,h2⟩:=aD.1 h0;injection h2 with h2;subst h2;refine toR (args:=[sc (.i .i64 n)]) (vs:=[u]) (tK rfl) ?_ fun d hd=>⟨tK (g:=false) rfl _ _ _ hd.symm hv.1,trivial⟩
   rcases (Bool.or_eq_true _ _).mp h1 with h1|h1
   ·obtain⟨h3,h4⟩:=(Bool.and_eq_true _ _).mp h1;have h3:=of_decide_eq_true h3;have h4:=of_decide_eq_true h4;obtain⟨m,rfl⟩:∃m:Nat,n=m:=⟨n.toNat,by omega⟩
    exact J.k_Int (by omega)
   ·obtain rfl:=of_decide_eq_true h1;exact J.k_IntM
theorem aSx:GOk 24 (o1 fun p=>ss (gH p)):=by
 intro args v hx c vs hT hP hv
 match args,vs,hx,hv with
 | [x],[u],hx,hv=>
   obtain⟨q,rfl,h1,h2⟩:=qC (show nO x (fun p=>some (ss (gH p)))=some v from hx);injection h2 with h2;subst h2;refine (aK4 u q c.w (iW.1 hv.1) h1).mono ?_;rintro e w' ⟨t,h3,h4,h5⟩;exact⟨_,h3,h5,aF.2 ⟨t,rfl,iX h4⟩⟩
theorem aTU:GOk 73 aNq:=by
 intro args v hx c vs hT hP hv
 match args,vs,hx,hv with
 | [x,y],[u,u2],hx,hv=>
   obtain⟨p,rfl,h1,h2⟩:=qC (show nO x (fun p=>int y fun n=>some (.t [(true,bC (jC p n).2),(false,[.i .i64 (jC p n).1])]))=some v from hx);obtain⟨n,rfl,h3⟩:=mP h2;injection h3 with h3;subst h3;have b1:(1099511627776:Nat)=LIM:=aB.symm;have b2:(1000000000:Nat)=aJ:=rfl;exact toG (args:=[nm p,sc (.i .i64 n)]) (vs:=[u,u2]) (aJc rfl) (aN5 (by omega)) hT fun d hd=>⟨wN _ _ _ hd.symm hv.1,wI _ _ _ hd.symm hv.2.1,trivial⟩
theorem aP8:GOk 32 aGa:=by
 intro args v hx c vs hT hP hv
 match args,vs,hx,hv with
 | [x,y],[u,u2],hx,hv=>
   obtain⟨p,rfl,h1,h2⟩:=uQ (show oL x (fun p=>int y fun n=>cb (decide (0≤n) && decide (n≤1000)) (some (rm (p*((2^n.toNat:Nat):Rat)))) none)=some v from hx);obtain⟨n,rfl,h3⟩:=mP h2;obtain⟨h4,h5⟩:=aD.1 h3;injection h5 with h5;subst h5;obtain⟨h6,h7⟩:=(Bool.and_eq_true _ _).mp h4;have h6:=of_decide_eq_true h6;have h7:=of_decide_eq_true h7;obtain⟨m,rfl⟩:∃m:Nat,n=m:=⟨n.toNat,by omega⟩
   exact toR (args:=[rm p,sc (.i .i64 (m:Int))]) (vs:=[u,u2]) (tK rfl) (J.k_Shift h1 (by omega)) fun d hd=>⟨tK rfl _ _ _ hd.symm hv.1,tK (g:=false) rfl _ _ _ hd.symm hv.2.1,trivial⟩
theorem aTV:∀p∈gs,GOk p.1 p.2:=by
 unfold gs;simp only[List.forall_mem_cons];have b1:(1099511627776:Nat)=LIM:=aB.symm;have b2:(1000000000:Nat)=aJ:=rfl;have b3:(2000000:Nat)=aUM:=rfl;refine⟨g2 (fun _ _=>wN) fun p q h1 h2=>aIQ (by omega),?_⟩;refine⟨g2 (fun _ _=>wN) fun p q h1 h2=>aN3 (by omega),?_⟩;refine⟨g2 (fun _ _=>wN) fun p q h1 h2=>aIP (by omega),?_⟩;refine⟨g2 (fun _ _=>wN) fun p q h1 h2=>aTy (by omega),?_⟩;refine⟨g2 (fun _ _=>wI) fun p q h1 h2=>aIR (by omega),?_⟩;refine⟨g1 (fun _=>wI) fun p h1=>aCn,?_⟩;refine⟨aTT,?_⟩;refine⟨aP7,?_⟩;refine⟨aJd,?_⟩;refine⟨aSx,?_⟩;refine⟨g1R (fun _=>tK rfl) fun p h1=>J.k_Text (by omega),?_⟩;refine⟨g1R (fun _=>wI) fun p _=>J.k_Sign,?_⟩;refine⟨g2R (fun _ _=>tK rfl) fun p q h1 h2=>J.k_Add (by omega),?_⟩;refine⟨g2R (fun _ _=>tK rfl) fun p q h1 h2=>J.k_Mul (by omega),?_⟩;refine⟨aSw,?_⟩;refine⟨g2 (fun _ _=>aJc rfl) fun p q h1 h2=>aN4 (by omega),?_⟩;refine⟨aTU,?_⟩;refine⟨g2R (fun _ _=>aJc rfl) fun p q h1 h2=>J.k_Div h1 h2,?_⟩;refine⟨aP8,?_⟩;exact fun x hx=>by cases hx
theorem aTW(W0:World):aMj (F2 W0):=by
 intro t a v hx c hb;obtain⟨h1,h2⟩:=aD.1 (show cb (Nat.beq t 23) (match W0.cell? a with|some (.string s)=>some (sc (.s (bytes s)))|_=>none) none=some v from hx);have h1:=aM.1 h1;subst h1;split at h2
 ·rename_i s hc;injection h2 with h2;subst h2;have hc2:c.w.cell? a=some (.string s):=by
   refine (hb.2.2.cell ?_).trans hc;rcases Nat.lt_or_ge a.block W0.heap.size with h|h
   ·exact h
   ·unfold World.cell? at hc;rw[Array.getElem?_eq_none h]at hc;cases hc
  refine⟨.string s,?_,aF.2 ⟨s,rfl,rfl⟩⟩;have hi:Ty Tryz.prog 23 _:=aO (F:=F2 W0) (i:=⟨.str,1,16,[.s []]⟩) (by kernel_rfl);unfold loadVar;rw[show (F2 W0).P=Tryz.prog from rfl,Sem.run_bind,aAA hi c.w];simp[Dk.ag,run_load,hc2]
 ·cases h2
theorem f2(W0:World):FOk (F2 W0):=by
 refine⟨f0.ng,fun _ _ hq h=>⟨h.1.q hq,h.2.1.q hq,h.2.2.trans hq⟩,fun fn g args v hg hx c vs hb hv=>aTV _ (wC (show (T.ofL gs:T 3 _).get fn=some g from hg)) args v hx c vs hb.1 hb.2.1 hv,aTW W0,fun _ _=>⟨fun h=>(by cases h),fun h=>(by cases h)⟩,fun fn g h args v hg hx c wb vs R hz hb ha=>?_⟩;obtain⟨h1,h2⟩:=aD.1 (show cb (Nat.beq fn 5) (some aCv) none=some g from hg);have h1:=aM.1 h1;injection h2 with h2;subst h1;subst h2;unfold aCv at hx;split at hx
 ·injection hx with hx;subst hx
  match vs,ha with
  | [],_=>
    refine (aLe c.w hb.1 hb.2.1).mono ?_;rintro e w' ⟨h1,h2⟩;exact⟨_,h1,h2,aF.2 rfl⟩
 ·cases hx
end
end E
namespace J
open Go Go.RowKit
open Ma Me K E Po
theorem fG(xs:List Rat):(ct xs).length≤xs.length:=aEH (nD xs) (fun n=>gV xs n)
theorem aHO{xs:List Rat}{n i:Nat}(hi:i<n):cf (xs.take n) i=cf xs i:=by unfold cf;rw[List.getElem?_take,if_pos hi]
theorem aNr{xs:List Rat}{n i:Nat}(hi:n≤i):cf (xs.take n) i=0:=by unfold cf;rw[List.getElem?_take,if_neg (by omega)];rfl
theorem aA4(xs:List Rat):xs.take (ct xs).length=ct xs:=by
 have hle:=fG xs;have hl:(xs.take (ct xs).length).length=(ct xs).length:=by rw[List.length_take];omega
 refine xA ?_ (nD xs) fun k=>?_
 ·rcases nD xs with h1|h1
  ·exact .inl (List.eq_nil_of_length_eq_zero (by rw[hl,h1];rfl))
  ·by_cases h0:(ct xs).length=0
   ·exact .inl (List.eq_nil_of_length_eq_zero (by omega))
   ·refine .inr ?_;rw[hl,aHO (by omega),←gV];exact h1
 ·by_cases hk:k<(ct xs).length
  ·rw[aHO hk,gV]
  ·rw[aNr (by omega),dS (by omega)]
def pf(n i:Nat)(f:Nat→Rat):List Rat:=mkP n fun k=>if k<i then f k else 0
theorem tL{n:Nat}{f:Nat→Rat}{k:Nat}(hk:k<n):(mkP n f)[k]? =some (f k):=by
 unfold mkP;rw[List.getElem?_map,List.getElem?_range hk];rfl
theorem aHP{n k:Nat}{f g:Nat→Rat}{x:Rat}(hx:k<n→g k=x)(hg:∀j,j<n→j≠k→g j=f j):(mkP n f).set k x=mkP n g:=by
 apply List.ext_getElem?;intro j;rw[List.getElem?_set];by_cases hj:j<n
 ·by_cases hk:k=j
  ·subst hk;rw[if_pos rfl,if_pos (by rw[bH];exact hj),tL hj,hx hj]
  ·rw[if_neg hk,tL hj,tL hj,hg j hj (fun q=>hk q.symm)]
 ·have e:∀f':Nat→Rat,(mkP n f')[j]? =none:=fun f'=>List.getElem?_eq_none (by rw[bH];omega);rw[e,e];split
  ·rw[if_neg (by rw[bH];omega)]
  ·rfl
theorem qD{n:Nat}{f g:Nat→Rat}(h:∀k,k<n→f k=g k):mkP n f=mkP n g:=List.map_congr_left fun k hk=>h k (List.mem_range.1 hk)
theorem aBC{n:Nat}:mkP n (fun _=>0)=List.replicate n 0:=by
 apply List.ext_getElem?;intro j;by_cases hj:j<n
 ·rw[tL hj,List.getElem?_replicate,if_pos hj]
 ·rw[List.getElem?_eq_none (by rw[bH];omega),List.getElem?_eq_none (by rw[List.length_replicate];omega)]
theorem aDd{n:Nat}{f:Nat→Rat}:pf n 0 f=List.replicate n 0:=aBC
theorem aGb{n i:Nat}{f:Nat→Rat}:(pf n i f).set i (f i)=pf n (i+1) f:=aHP (fun _=>if_pos (Nat.lt_succ_self i)) fun j _ hne=>by
 by_cases h:j<i
 ·rw[if_pos h,if_pos (by omega)]
 ·rw[if_neg h,if_neg (by omega)]
theorem tO{n:Nat}{f:Nat→Rat}:pf n n f=mkP n f:=qD fun _ hk=>if_pos hk
theorem aSy(xs:List Rat):mkP xs.length (cf xs)=xs:=by
 apply List.ext_getElem?;intro j;by_cases hj:j<xs.length
 ·rw[tL hj];unfold cf;rw[List.getElem?_eq_getElem hj];rfl
 ·rw[List.getElem?_eq_none (by rw[bH];omega),List.getElem?_eq_none (by omega)]
theorem sz0:Ma.sz 0≤aJ:=by decide+kernel
theorem iA{xs:List Rat}{i:Nat}(hi:i<xs.length):xs[i]? =some (cf xs i):=by
 unfold cf;rw[List.getElem?_eq_getElem hi];rfl
theorem aUP{i:Nat}(h:i<1000000):Ma.sz (((i:Nat):Int):Rat)≤2:=jX _ (by simp[W64];omega)
section
variable {p q:List Rat} {i j k n m N A B':Nat}
def mB(p q:List Rat)(i k:Nat):Rat:=sm (fun a=>if a≤k then cf p a*cf q (k-a) else 0) i
def mF(p q:List Rat)(i j k:Nat):Rat:=mB p q i k+(if i≤k∧k<i+j then cf p i*cf q (k-i) else 0)
theorem aHQ:mF p q 0 0 k=0:=by
 unfold mF;rw[if_neg (by omega),Rat.add_zero];rfl
theorem aLt:(mkP N (mF p q i j)).set (i+j) (mF p q i j (i+j)+cf p i*cf q j)=mkP N (mF p q i (j+1)):=aHP (fun _=>by
  unfold mF;rw[if_pos (by omega),if_neg (by omega),Rat.add_zero,Nat.add_sub_cancel_left]) fun k _ hne=>by
  unfold mF;congr 1;by_cases h:i≤k∧k<i+j
  ·rw[if_pos h,if_pos (by omega)]
  ·rw[if_neg h,if_neg (by omega)]
theorem aHR:mkP N (mF p q i q.length)=mkP N (mF p q (i+1) 0):=qD fun k _=>by
 unfold mF;rw[if_neg (c:=i+1≤k∧k<i+1+0) (by omega),Rat.add_zero];show mB p q i k+_=mB p q i k+(if i≤k then cf p i*cf q (k-i) else 0)
 congr 1;by_cases h:i≤k
 ·rw[if_pos h];by_cases h2:k<i+q.length
  ·rw[if_pos ⟨h,h2⟩]
  ·rw[if_neg (by omega),dS (p:=q) (n:=k-i) (by omega),Rat.mul_zero]
 ·rw[if_neg h,if_neg (by omega)]
theorem aGc:mkP N (mF p q p.length 0)=mkP N (cv (cf p) (cf q)):=qD fun k _=>by
 unfold mF;rw[if_neg (by omega),Rat.add_zero];obtain⟨G,hG⟩:∃G:Nat→Rat,G=fun a=>if a≤k then cf p a*cf q (k-a) else 0:=⟨_,rfl⟩
 have h1:sm G (p.length+(k+1))=sm G p.length:=aCK (k+1) fun a ha=>by rw[hG];dsimp only;rw[dS ha,Rat.zero_mul];split<;>rfl
 have h2:sm G ((k+1)+p.length)=sm G (k+1):=aCK p.length fun a ha=>by rw[hG];dsimp only;rw[if_neg (by omega)]
 show sm _ p.length=sm _ (k+1);rw[←hG,←h1,Nat.add_comm,h2,hG];exact eD fun a ha=>if_pos (by omega)
theorem aOi(hA:∀a,Ma.sz (cf p a)≤A)(hB:∀a,Ma.sz (cf q a)≤B')(h2:2≤A):Ma.sz (mF p q i j k)≤2*((i+1)*(A+B'))+(A+B')+(i+1)+2:=by
 have e:mF p q i j k=sm (fun a=>if a<i then (if a≤k then cf p a*cf q (k-a) else 0) else if i≤k∧k<i+j then cf p i*cf q (k-i) else 0) (i+1):=by
  show mB p q i k+_=sm _ i+_;congr 1
  ·exact eD fun a ha=>by rw[if_pos ha]
  ·exact (if_neg (Nat.lt_irrefl i)).symm
 rw[e];have hm:∀a b,Ma.sz (cf p a*cf q b)≤A+B':=fun a b=>Nat.le_trans (dI _ _) (Nat.add_le_add (hA a) (hB b));have h0:Ma.sz 0≤A+B':=Nat.le_trans aOO (by omega);refine aD5 fun a _=>?_;by_cases h1:a<i
 ·rw[if_pos h1];split
  ·exact hm _ _
  ·exact h0
 ·rw[if_neg h1];split
  ·exact hm _ _
  ·exact h0
end
def nOf(s:List Nat):Rat:=(bO (by8 s)).2
section
variable {p q:List Rat} {A0 B0 C0 n:Nat} {x y:Rat}
theorem aCw(p q:List Rat):(bL p q).length≤p.length+q.length:=by
 have h1:=fG p;have h2:=fG q;unfold bL;split
 ·exact Nat.zero_le _
 ·rw[bH];omega
theorem aP9(hp:∀i,Ma.sz (cf p i)≤A0)(hq:∀i,Ma.sz (cf q i)≤B0)(n:Nat)(hl:p.length+q.length≤n)(hC:2*(n*(A0+B0))+(A0+B0)+n+2≤C0):∀i,Ma.sz (cf (bL p q) i)≤C0:=fun i=>
 Nat.le_trans (aPG (n:=n) hp hq (by have:=fG p;have:=fG q;omega) i) hC
theorem aLu(p q:List Rat):(lK p q).length≤max p.length q.length:=by
 unfold lK;refine Nat.le_trans (fG _) ?_;rw[bH];exact Nat.le_refl _
end
end J
namespace J
open Go Go.RowKit
open Ma Me K E
def tG:List (Nat × TI):=
 (3,⟨.int .i64,1,8,[.i .i64 0]⟩)::
 (4,⟨.bool,1,1,[.b false]⟩)::
 (41,⟨.st [(0,4),(1,39),(2,39)],3,56,[.b false,.m 0,.m 0]⟩)::
 (27,⟨.sl 41,1,24,[.ns]⟩)::
 (45,⟨.st [(0,3),(1,43),(2,43)],3,56,[.i .i64 0,.r 0,.r 0]⟩)::
 (31,⟨.sl 45,1,24,[.ns]⟩)::
 (99,⟨.st [(0,41),(3,41)],6,112,[.b false,.m 0,.m 0,.b false,.m 0,.m 0]⟩)::
 (23,⟨.str,1,16,[.s []]⟩)::
 (22,⟨.sl 23,1,24,[.ns]⟩)::
 (51,⟨.sl 22,1,24,[.ns]⟩)::
 (24,⟨.ar 2 23,2,32,[.s [],.s []]⟩)::
 (2,⟨.int .i64,1,8,[.i .i64 0]⟩)::
 (28,⟨.int .i64,1,8,[.i .i64 0]⟩)::
 (39,⟨.sl 133,1,24,[.m 0]⟩)::
 (43,⟨.sl 2,1,24,[.r 0]⟩)::
 []
section
variable {W0:World} {p q r t:Rat}
theorem aV:∀p∈tG,(F2 W0).ti p.1=some p.2:=by
 unfold tG;simp only[List.forall_mem_cons]
 repeat' first|exact fun _ h=>(by cases h)|refine⟨by kernel_rfl,?_⟩
theorem aSz{n:Int}(h1:-9223372036854775808≤n)(h2:n≤9223372036854775807):inR n=true:=by
 unfold inR;rw[decide_eq_true h1,decide_eq_true h2];rfl
theorem aOj(h1:Ma.sz p≤aJ)(h2:Ma.sz q≤aJ):Fx (F2 W0) 105 [.v (nm p),.v (nm q)] (.v (nm (p+q))):=Fx.pr (args:=[nm p,nm q]) Tryz.func105 rfl (by kernel_rfl:(F2 W0).pr 105=some (o2 fun p q=>nm (p+q))) (aI9 h1 h2)
theorem aA5(h1:Ma.sz p≤aJ)(h2:Ma.sz q≤aJ):Fx (F2 W0) 27 [.v (nm p),.v (nm q)] (.v (nm (p*q))):=Fx.pr (args:=[nm p,nm q]) Tryz.func27 rfl (by kernel_rfl:(F2 W0).pr 27=some (o2 fun p q=>nm (p*q))) (aI9 h1 h2)
theorem aLv(h1:Ma.sz p≤aJ):Fx (F2 W0) 94 [.v (nm p)] (.v (sc (.i .i64 (sn p)))):=Fx.pr (args:=[nm p]) Tryz.func94 rfl (by kernel_rfl:(F2 W0).pr 94=some (o1 fun p=>sc (.i .i64 (sn p)))) (aOg h1)
theorem aSA(h1:Ma.sz p≤aJ):Fx (F2 W0) 24 [.v (nm p)] (.v (ss (gH p))):=Fx.pr (args:=[nm p]) Tryz.func24 rfl (by kernel_rfl:(F2 W0).pr 24=some (o1 fun p=>ss (gH p))) (aOg h1)
theorem lH{n:Int}(h1:-9223372036854775808≤n)(h2:n≤9223372036854775807):Fx (F2 W0) 43 [.v (sc (.i .i64 n))] (.v (nm (n:Rat))):=Fx.pr (args:=[sc (.i .i64 n)]) Tryz.func43 rfl (by kernel_rfl:(F2 W0).pr 43=some (aNo)) (by show cb (inR n) _ none=_;rw[aSz h1 h2];rfl)
theorem aHS{l:List Nat}(h1:okS l=true):Fx (F2 W0) 39 [.v (sc (.s l))] (.v (.t [(true,bC (bO (by8 l)).2),(false,[.i .i64 (bO (by8 l)).1])])):=Fx.pr (args:=[sc (.s l)]) Tryz.func39 rfl (by kernel_rfl:(F2 W0).pr 39=some (aCu)) (by show cb (okS l) _ none=_;rw[h1];rfl)
theorem aGd{l:List Nat}(h1:okS l=true):Fx (F2 W0) 40 [.v (sc (.s l))] (.v (.t [(true,encR (bO (by8 l)).2),(false,[.i .i64 (bO (by8 l)).1])])):=Fx.pr (args:=[sc (.s l)]) Tryz.func40 rfl (by kernel_rfl:(F2 W0).pr 40=some (uP)) (by show cb (okS l) _ none=_;rw[h1];rfl)
theorem aQa(h1:Ma.sz p≤aJ):Fx (F2 W0) 80 [.v (rm p)] (.v (ss (gH p))):=Fx.pr (args:=[rm p]) Tryz.func80 rfl (by kernel_rfl:(F2 W0).pr 80=some (r1 fun p=>ss (gH p))) (aOh h1)
theorem iQ(h1:Ma.sz p≤aJ):Fx (F2 W0) 47 [.v (rm p)] (.v (sc (.i .i64 (sn p)))):=Fx.pr (args:=[rm p]) Tryz.func47 rfl (by kernel_rfl:(F2 W0).pr 47=some (r1 fun p=>sc (.i .i64 (sn p)))) (aOh h1)
theorem aGe(h1:Ma.sz p≤aJ)(h2:Ma.sz q≤aJ):Fx (F2 W0) 99 [.v (rm p),.v (rm q)] (.v (rm (p+q))):=Fx.pr (args:=[rm p,rm q]) Tryz.func99 rfl (by kernel_rfl:(F2 W0).pr 99=some (r2 fun p q=>rm (p+q))) (aJb h1 h2)
theorem nP(h1:Ma.sz p≤aJ)(h2:Ma.sz q≤aJ):Fx (F2 W0) 31 [.v (rm p),.v (rm q)] (.v (rm (p*q))):=Fx.pr (args:=[rm p,rm q]) Tryz.func31 rfl (by kernel_rfl:(F2 W0).pr 31=some (r2 fun p q=>rm (p*q))) (aJb h1 h2)
theorem aLw{n:Nat}(h1:n≤1000000):Fx (F2 W0) 78 [.v (sc (.i .i64 (n:Int)))] (.v (rm (((n:Nat):Int):Rat))):=Fx.pr (args:=[sc (.i .i64 (n:Int))]) Tryz.func78 rfl (by kernel_rfl:(F2 W0).pr 78=some (aJa)) (by show cb (decide (0≤((n:Nat):Int)) && decide (((n:Nat):Int)≤1000000) || decide (((n:Nat):Int)=-1)) _ none=_;rw[decide_eq_true (Int.natCast_nonneg n),decide_eq_true (show ((n:Nat):Int)≤1000000 by omega)];rfl)
theorem aTX(h1:Ma.sz p≤aJ)(h2:Ma.sz q≤aJ):Fx (F2 W0) 74 [.v (nm p),.v (nm q)] (.v (.t [(true,bC (gY p q).2),(false,[.i .i64 (gY p q).1])])):=Fx.pr (args:=[nm p,nm q]) Tryz.func74 rfl (by kernel_rfl:(F2 W0).pr 74=some (o2 fun p q=>.t [(true,bC (gY p q).2),(false,[.i .i64 (gY p q).1])])) (aI9 h1 h2)
theorem aTY{n:Int}(h1:Ma.sz p≤aJ):Fx (F2 W0) 73 [.v (nm p),.v (sc (.i .i64 n))] (.v (.t [(true,bC (jC p n).2),(false,[.i .i64 (jC p n).1])])):=Fx.pr (args:=[nm p,sc (.i .i64 n)]) Tryz.func73 rfl (by kernel_rfl:(F2 W0).pr 73=some aNq) ((aA2 (α:=AV) (k:=fun p=>int (sc (.i .i64 n)) fun n=>some (.t [(true,bC (jC p n).2),(false,[.i .i64 (jC p n).1])])) h1).trans rfl)
theorem aSB(h1:Ma.sz p≤aJ)(h2:Ma.sz q≤aJ):Fx (F2 W0) 79 [.v (rm p),.v (rm q)] (.v (.t [(true,encR (gY p q).2),(false,[.i .i64 (gY p q).1])])):=Fx.pr (args:=[rm p,rm q]) Tryz.func79 rfl (by kernel_rfl:(F2 W0).pr 79=some (r2 fun p q=>.t [(true,encR (gY p q).2),(false,[.i .i64 (gY p q).1])])) (aJb h1 h2)
theorem aNs{n:Nat}(h1:Ma.sz p≤aJ)(h2:n≤1000):Fx (F2 W0) 32 [.v (rm p),.v (sc (.i .i64 (n:Int)))] (.v (rm (p*((2^n:Nat):Rat)))):=Fx.pr (args:=[rm p,sc (.i .i64 (n:Int))]) Tryz.func32 rfl (by kernel_rfl:(F2 W0).pr 32=some aGa) ((aA3 (k:=fun p=>int (sc (.i .i64 (n:Int))) fun n=>cb (decide (0≤n) && decide (n≤1000)) (some (rm (p*((2^n.toNat:Nat):Rat)))) none) h1).trans (by show cb (decide (0≤(n:Int)) && decide ((n:Int)≤1000)) _ none=_;rw[decide_eq_true (Int.natCast_nonneg n),decide_eq_true (show (n:Int)≤1000 by omega)];rfl))
theorem aQb:Fx (F2 W0) 5 [] (.v (sc (.b true))):=fun h vs _ _ ha=>by
 cases vs with
 |nil=>exact aTr Tryz.func5 rfl (by kernel_rfl) (by kernel_rfl:(F2 W0).ph 5=some aCv) rfl ⟨Xh.refl _,rfl⟩
 |cons=>exact ha.elim
end
end J
namespace J
open Go Go.RowKit
open Ma Me K E Po
def C(xs:List Rat):List (List SV):=xs.map bC
theorem yD{xs:List Rat}{j:Nat}{x:Rat}(h:xs[j]? =some x):(C xs)[j]? =some (bC x):=by unfold C;rw[List.getElem?_map,h];rfl
theorem aEc{xs:List Rat}{j:Nat}{x:Rat}:(C xs).set j (bC x)=C (xs.set j x):=by unfold C;rw[List.map_set]
theorem aGf{xs:List Rat}{n:Nat}:(C xs).take n=C (xs.take n):=by unfold C;rw[List.map_take]
theorem aEd{n:Nat}:List.replicate n [SV.b false,.m 0,.m 0]=C (List.replicate n 0):=by unfold C;rw[List.map_replicate];rfl
theorem aTZ:([SV.b false,.m 0,.m 0]:List SV)=bC 0:=rfl
theorem aDe{i:Nat}(h:i≤1000000):-9223372036854775808≤(i:Int)-1∧(i:Int)-1<9223372036854775808:=⟨by omega,by omega⟩
theorem add1{i:Nat}(h:i≤1000000):-9223372036854775808≤(i:Int)+1∧(i:Int)+1<9223372036854775808:=⟨by omega,by omega⟩
theorem yi{a b:Int}(h:a=b):some (Y.a (sc (.i .i64 a)))=some (Y.a (sc (.i .i64 b))):=by rw[h]
section
variable {W0:World} {xs ys:List Rat} {x:Rat}
theorem aA6(hn:xs.length<1000000)(hz:∀i,Ma.sz (cf xs i)≤aJ):Fx (F2 W0) 45 [.l aN xs.length (C xs)] (.v (sc (.i .i64 (((ct xs).length:Int)-1)))):=by
 have hc:=fG xs;refine Fx.by_ tG aV Tryz.func45 rfl (by kernel_rfl) (by kernel_rfl) rfl ⟨{i:Nat // i≤xs.length∧∀k,i≤k→cf xs k=0},fun i=>([(0,.l aN (.ar 0) xs.length (C xs)),(3,.a (sc (.i .i64 (i.1:Int))))],[]),fun i=>i.1,⟨⟨xs.length,Nat.le_refl _,fun k hk=>dS hk⟩,[],rfl,rfl,rfl,rfl,trivial⟩,fun i=>?_⟩;obtain⟨i,hi,h0⟩:=i;have fin:i=0∨cf xs (i-1)≠0→sc (.i .i64 ((i:Int)-1))=sc (.i .i64 (((ct xs).length:Int)-1)):=fun h=>by rw[aDC hi h0 h]
 refine dt (fun h=>?_) fun h=>?_
 ·have hp:0<i:=(by have h:(0:Int)<(i:Int):=h;omega);have e1:(i:Int)-1=((i-1:Nat):Int):=(by omega);exact⟨aDe (i:=i) (by omega),i-1,e1,_,yD (iA (by omega)),_,aLv (hz _),dt (fun h1=>⟨aDe (i:=i) (by omega),⟨i-1,by omega,fun k hk=>by
   rcases Nat.eq_or_lt_of_le hk with rfl|hk
   ·exact aX.1 h1
   ·exact h0 k (by omega)⟩,(show i-1<i by omega),[],rfl,rfl,rfl,yi e1,trivial⟩) fun h1=>⟨aDe (i:=i) (by omega),fin (.inr fun e=>h1 (aX.2 e))⟩⟩
 ·have h:¬(0:Int)<(i:Int):=h;exact⟨aDe (i:=i) (by omega),fin (.inl (by omega))⟩
theorem aEe(hn:xs.length<1000000)(hz:∀i,Ma.sz (cf xs i)≤aJ):Fx (F2 W0) 104 [.l aN xs.length (C xs)] (.cut 0 (ct xs).length):=
 have hc:=fG xs
 Fx.by_ tG aV Tryz.func104 rfl (by kernel_rfl) (by kernel_rfl) rfl ⟨_,aA6 hn hz,⟨by omega,by omega⟩,(ct xs).length,by omega,hc,rfl⟩
theorem yI{i:Nat}:Fx (F2 W0) 153 [.l aN xs.length (C xs),.v (sc (.i .i64 (i:Int)))] (.v (nm (cf xs i))):=
 Fx.by_ tG aV Tryz.func153 rfl (by kernel_rfl) (by kernel_rfl) rfl (dt (fun h=>⟨i,rfl,_,yD (iA (by omega)),rfl⟩) fun h=>(congrArg (AV.c true) aTZ).trans (congrArg nm (show (0:Rat)=cf xs i from (dS (by omega)).symm)))
theorem aJe{f:Nat}{op:Rat→Rat→Rat}(hop:∀p q:Rat,Ma.sz p≤aJ→Ma.sz q≤aJ→Fx (F2 W0) f [.v (nm p),.v (nm q)] (.v (nm (op p q))))(hn1:xs.length<1000000)(hn2:ys.length<1000000)(hz1:∀i,Ma.sz (cf xs i)≤aJ)(hz2:∀i,Ma.sz (cf ys i)≤aJ)(hz:∀i,Ma.sz (op (cf xs i) (cf ys i))≤aJ):
  Fx (F2 W0) 102 [.l aN xs.length (C xs),.l aN ys.length (C ys),.v (sc (.f f []))] (.r [.l aN (ct (mkP (max xs.length ys.length) fun i=>op (cf xs i) (cf ys i))).length (C (ct (mkP (max xs.length ys.length) fun i=>op (cf xs i) (cf ys i))))]):=by
 obtain⟨m,hm⟩:∃m,max xs.length ys.length=m:=⟨_,rfl⟩
 obtain⟨g,hg⟩:∃g:Nat→Rat,(fun i=>op (cf xs i) (cf ys i))=g:=⟨_,rfl⟩
 have hgi:∀i,op (cf xs i) (cf ys i)=g i:=fun i=>congrFun hg i;rw[hm,hg];have hM:(max (xs.length:Int) (ys.length:Int))=(m:Int):=by omega
 have hS:∀i,(C (pf m i g)).set i (bC (g i))=C (pf m (i+1) g):=fun i=>by rw[aEc,aGb]
 have hcut:=aEe (W0:=W0) (xs:=mkP m g) (by rw[bH];omega) (fun i=>by
  rw[fT];split
  ·rw[←hgi];exact hz i
  ·exact sz0)
 have hc:=fG (mkP m g);rw[bH]at hcut hc;refine Fx.by_ tG aV Tryz.func102 rfl (by kernel_rfl) (by kernel_rfl) rfl ⟨rfl,m,hM,⟨(show m*56≤_ by omega),by omega⟩,{i:Nat // i≤m},fun i=>([(0,.l aN (.ar 0) xs.length (C xs)),(1,.l aN (.ar 1) ys.length (C ys)),(2,.a (sc (.f f []))),(7,.s 0 (some m)),(16,.a (sc (.i .i64 (m:Int)))),(17,.a (sc (.i .i64 (i.1:Int))))],[.l aN m (C (pf m i.1 g))]),fun i=>m-i.1,⟨⟨0,Nat.zero_le _⟩,[true],rfl,(show [W.l aN m (List.replicate m [SV.b false,.m 0,.m 0])]=[W.l aN m (C (pf m 0 g))] by rw[aEd,aDd]),rfl,rfl,rfl,rfl,rfl,rfl,trivial⟩,fun i=>?_⟩;obtain⟨i,hi⟩:=i;refine dt (fun h=>?_) fun h=>?_
 ·have hlt:i<m:=(by have h:(i:Int)<(m:Int):=h;omega);have hx:=hop _ _ (hz1 i) (hz2 i);rw[hgi]at hx;exact⟨_,yI,_,yI,_,hx,i,rfl,hlt,hlt,⟨by omega,by omega⟩,⟨i+1,hlt⟩,(show m-(i+1)<m-i by omega),[true],rfl,congrArg (fun z=>[W.l aN m z]) (hS i),rfl,rfl,rfl,rfl,rfl,rfl,trivial⟩
 ·have h:¬(i:Int)<(m:Int):=h;obtain rfl:i=m:=(by omega);rw[←tO]at hcut hc;exact⟨_,hcut,hc,⟨rfl,by rw[tO],by rw[aGf,aA4,tO]⟩,trivial⟩
theorem aT0(hn1:xs.length<1000000)(hn2:ys.length<1000000)(hz1:∀i,Ma.sz (cf xs i)≤aJ)(hz2:∀i,Ma.sz (cf ys i)≤aJ)(hz:∀i,Ma.sz (cf xs i+cf ys i)≤aJ):Fx (F2 W0) 97 [.l aN xs.length (C xs),.l aN ys.length (C ys)] (.r [.l aN (lK xs ys).length (C (lK xs ys))]):=
 Fx.by_ tG aV Tryz.func97 rfl (by kernel_rfl) (by kernel_rfl) rfl ⟨_,aJe (op:=(·+·)) (fun _ _ h1 h2=>aOj h1 h2) hn1 hn2 hz1 hz2 hz,⟨rfl,rfl,rfl⟩,trivial⟩
def fK(xs:List Rat)(x:Rat):List Rat:=ct (mkP xs.length fun i=>cf xs i*x)
theorem aQc(hn:xs.length<1000000)(hz1:∀i,Ma.sz (cf xs i)≤aJ)(hx:Ma.sz x≤aJ)(hz:∀i,Ma.sz (cf xs i*x)≤aJ):Fx (F2 W0) 58 [.l aN xs.length (C xs),.v (nm x)] (.r [.l aN (fK xs x).length (C (fK xs x))]):=by
 unfold fK;obtain⟨m,hm⟩:∃m,xs.length=m:=⟨_,rfl⟩
 obtain⟨g,hg⟩:∃g:Nat→Rat,(fun i=>cf xs i*x)=g:=⟨_,rfl⟩
 have hgi:∀i,cf xs i*x=g i:=fun i=>congrFun hg i;have hL:∀i,i<m→(C xs)[i]? =some (bC (cf xs i)):=fun i hi=>yD (iA (by omega));rw[hm,hg];have hS:∀i,(C (pf m i g)).set i (bC (g i))=C (pf m (i+1) g):=fun i=>by rw[aEc,aGb]
 have hcut:=aEe (W0:=W0) (xs:=mkP m g) (by rw[bH];omega) (fun i=>by
  rw[fT];split
  ·rw[←hgi];exact hz i
  ·exact sz0)
 have hc:=fG (mkP m g);rw[bH]at hcut hc;refine Fx.by_ tG aV Tryz.func58 rfl (by kernel_rfl) (by kernel_rfl) rfl ⟨rfl,m,rfl,⟨(show m*56≤_ by omega),by omega⟩,{i:Nat // i≤m},fun i=>([(3,.p 0 0),(5,.s 1 (some m)),(11,.l aN (.ar 0) m (C xs)),(12,.a (sc (.i .i64 (m:Int)))),(13,.a (sc (.i .i64 (i.1:Int))))],[.l aN m (C (pf m i.1 g)),.c ⟨41,bC x⟩]),fun i=>m-i.1,⟨⟨0,Nat.zero_le _⟩,[true,true],rfl,(show [W.l aN m (List.replicate m [SV.b false,.m 0,.m 0]),W.c _]=[W.l aN m (C (pf m 0 g)),W.c _] by rw[aEd,aDd]),rfl,rfl,rfl,rfl,rfl,trivial⟩,fun i=>?_⟩;obtain⟨i,hi⟩:=i;refine dt (fun h=>?_) fun h=>?_
 ·have hlt:i<m:=(by have h:(i:Int)<(m:Int):=h;omega);have hx:=aA5 (W0:=W0) (hz1 i) hx;rw[hgi]at hx;exact⟨i,rfl,_,hL i hlt,_,hx,i,rfl,hlt,hlt,⟨by omega,by omega⟩,⟨i+1,hlt⟩,(show m-(i+1)<m-i by omega),[false,true,true],rfl,congrArg (fun z=>[W.l aN m z,W.c ⟨41,bC x⟩]) (hS i),rfl,rfl,rfl,rfl,rfl,trivial⟩
 ·have h:¬(i:Int)<(m:Int):=h;obtain rfl:i=m:=(by omega);rw[←tO]at hcut hc;exact⟨_,hcut,hc,⟨rfl,by rw[tO],by rw[aGf,aA4,tO]⟩,trivial⟩
end
end J
end Go.Proofs.YtohcfjmkfflkpaaGreatDoor
