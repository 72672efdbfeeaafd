/- PolyComputes is true for any two slices of strings and any two strings. No condition. -/
import Derived.Test.YtpobejcofijjdaaGreatDoorQd18
import Derived.Test.YtpobejcofijjdaaGreatDoorQd20
set_option maxRecDepth 100000
namespace Go.Proofs.YtpobejcofijjdaaGreatDoor.J
open Go Go.RowKit
open Ma Me K E
section
variable {F:Cf} {tys:List (Nat × TI)} {nt fn β:Nat} {g h h':H} {vs:List AV} {e:Env} {sy:List (Nat × Y)} {s:List (Nat × AV)} {ws ws':List W} {ids ids':List Nat} {zs zs':List (Nat × B)} {y:Y} {v u:AV} {st:Bool} {k:Y→List W→Prop}
theorem aKX:∀l:List SV,(l.map fun x=>[x]).flatten=l
 | []=>rfl
 |x::l=>congrArg (x::·) (aKX l)
theorem aPo{ze:List SV}(n:Nat):(iU ze n).length=n*ze.length:=by
 rw[aFw,sQ fun x hx=>by rw[(List.mem_replicate.1 hx).2],List.length_replicate]
theorem aCV{α γ:Type}{P:α→γ→Prop}:∀{l:List α} {m:List γ},All P l m→l.length=m.length
 | [],[],_=>rfl
 |_::_,_::_,h=>congrArg Nat.succ (aCV h.2)
theorem gN.sc{ty n:Nat}{L:List (List SV)}{P:Nat→Prop}(hl:gN F ty n L h P v):∃x,v=E.sc x:=by
 rcases hl with⟨h1,-⟩|⟨_,_,_,_,h1,-⟩|⟨_,_,_,h1,-⟩<;>exact⟨_,h1⟩
theorem aKY{q:(Nat × Nat × List (List SV)) × List W}(hS:Sy F β g vs e h sy ws ids s)(hy:YR F g vs h (zl ids ws) ws ids y v)(hx:lsP ws y=some q):Sy F β g vs e h sy q.2 ids s∧(∀id,id<h.n→Fr (zl ids ws) id→Fr (zl ids q.2) id)∧gN F q.1.1 q.1.2.1 q.1.2.2 h (Fr (zl ids q.2)) v:=by
 unfold lsP at hx;split at hx
 ·cases hx;exact⟨hS,fun _ _ h=>h,hy.1.to (Nat.le_refl _) fun _ _ q=>⟨rfl,q.1⟩⟩
 ·obtain⟨w,h1,hx⟩:=aA.1 hx;split at hx
  ·cases hx;obtain⟨id,n',ha,rfl,h2,-,h3⟩:=hy;have:=h3 _ _ _ h1;subst this;obtain⟨j,k1,-,k3,-,-,-⟩:=hS.own ha h1 rfl;obtain⟨h4,h5⟩:=hS.pub0 ha h1 rfl;refine⟨h4,fun i _ hf p hp=>?_,(hS.lst ha h1 h2).to (Nat.le_refl _) fun q _ hq=>⟨rfl,hq▸h5⟩⟩;rw[k3 .x rfl]at hp;exact hf p (List.mem_of_mem_eraseIdx hp)
  ·cases hx
 ·cases hx
theorem aRM:∀{l:List (Nat × Operand)} {i:Nat} {ws:List W} {r:List (Nat × Nat × List (List SV)) × List W},Sy F β g vs e h sy ws ids s→lsY sy i ws l=some r→∀id,id<h.n→Fr (zl ids ws) id→Fr (zl ids r.2) id:=by
 intro l
 induction l with
 |nil=>
  intro i ws r hS hx;cases hx;exact fun _ _ h=>h
 |cons p l ih=>
  intro i ws r hS hx;obtain⟨-,hx⟩:=aD.1 (show cb (Nat.beq p.1 i) (ob (yv sy p.2) fun y=>ob (lsP ws y) fun q=>ob (lsY sy (Nat.succ i) q.2 l) fun r=>some (q.1::r.1,r.2)) none=some r from hx);obtain⟨y,h2,hx⟩:=aA.1 hx;obtain⟨q,h3,hx⟩:=aA.1 hx;obtain⟨r2,h4,hx⟩:=aA.1 hx;cases hx;obtain⟨v,h5,h6⟩:=hS.r.ev h2;obtain⟨hS2,h7,h8⟩:=aKY hS h6 h3;exact fun id q1 q2=>ih hS2 h4 id q1 (h7 id q1 q2)
theorem aRN:∀{l:List (Nat × Operand)} {i:Nat} {ws:List W} {r:List (Nat × Nat × List (List SV)) × List W},Sy F β g vs e h sy ws ids s→lsY sy i ws l=some r→∃svs,Sy F β g vs e h sy r.2 ids s∧All (fun p x=>gN F p.1 p.2.1 p.2.2 h (Fr (zl ids r.2)) (sc x)) r.1 svs∧∀pre rest:List SV,pre.length=i→rest.length=r.1.length→gQ (fun f=>some (Nat.mul f 1,1)) s l (pre++rest)=some (pre++svs):=by
 intro l
 induction l with
 |nil=>
  intro i ws r hS hx;cases hx;exact⟨[],hS,trivial,fun pre rest _ h2=>by rw[List.eq_nil_of_length_eq_zero h2];rfl⟩
 |cons p l ih=>
  intro i ws r hS hx;obtain⟨h1,hx⟩:=aD.1 (show cb (Nat.beq p.1 i) (ob (yv sy p.2) fun y=>ob (lsP ws y) fun q=>ob (lsY sy (Nat.succ i) q.2 l) fun r=>some (q.1::r.1,r.2)) none=some r from hx);obtain⟨y,h2,hx⟩:=aA.1 hx;obtain⟨q,h3,hx⟩:=aA.1 hx;obtain⟨r2,h4,hx⟩:=aA.1 hx;cases hx;obtain⟨v,h5,h6⟩:=hS.r.ev h2;obtain⟨hS2,h7,h8⟩:=aKY hS h6 h3;obtain⟨svs,hS3,h9,h10⟩:=ih hS2 h4;obtain⟨x,rfl⟩:=h8.sc;have hf:=aRM hS2 h4;refine⟨x::svs,hS3,⟨h8.to (Nat.le_refl _) fun id q1 q2=>⟨rfl,hf id q1 q2⟩,h9⟩,fun pre rest e1 e2=>?_⟩
  match rest,e2 with
  |z::rest,e2=>
   show ob (some (Nat.mul p.1 1,1)) (fun q=>ob (evs s p.2) fun v=>cells v fun c=>cb (Nat.beq (len c) q.2) (ob (dV q.1 c (pre++z::rest)) (gQ (fun f=>some (Nat.mul f 1,1)) s l)) none)=_;rw[h5];show ob (dV (Nat.mul p.1 1) [x] (pre++z::rest)) (gQ (fun f=>some (Nat.mul f 1,1)) s l)=_;have e3:dV (Nat.mul p.1 1) [x] (pre++z::rest)=some (pre++x::rest):=by
      have e4:Nat.mul p.1 1=pre.length:=(by rw[show Nat.mul p.1 1=p.1 from Nat.mul_one _,aM.1 h1,e1]);rw[e4,pK];refine⟨by simp,?_⟩;rw[List.take_left' rfl,show pre++z::rest=(pre++[z])++rest by simp,List.drop_left' (by simp)];simp
   rw[e3];have e5:=h10 (pre++[x]) rest (by rw[List.length_append,e1];rfl) (Nat.succ.inj e2);rw[show (pre++[x])++rest=pre++x::rest by simp,show (pre++[x])++svs=pre++x::svs by simp]at e5;exact e5
theorem RS.cons{d:Nat}(hr:RS F g vs h zs ws ids sy s)(hy:YR F g vs h zs ws ids y v):RS F g vs h zs ws ids ((d,y)::sy) ((d,v)::s):=⟨rfl,hy,hr⟩
theorem Sy.newp{w:W}{b:B}(hS:Sy F β g vs e h sy ws ids s)(hb:w.b=some b)(hw:WOk F w)(hx:k (.p (E.len ws) 0) (w::ws)):Aft F β g vs e sy k (sc (.p h.n 0)) (nwH h b):=(hS.new hb hw).keep hx ⟨h.n,at_new hS.len,rfl⟩
theorem Sy.news{ty n:Nat}{L:List (List SV)}{b:B}(hS:Sy F β g vs e h sy ws ids s)(hb:(W.l ty n L).b=some b)(hw:WOk F (.l ty n L))(hx:k (.s (E.len ws) (some n)) (.l ty n L::ws)):Aft F β g vs e sy k (sc (.sl h.n 0 n (some n))) (nwH h b):=
 (hS.new hb hw).keep hx ⟨h.n,n,at_new hS.len,rfl,fun _ q=>by injection q with q;exact Nat.le_of_eq q,fun q=>(by cases q),fun ty m L hq=>by rw[aIA]at hq;cases hq;rfl⟩
theorem PtE.imp{ty:Nat}{c:List SV}{P:Nat→Prop}(hp:(∃id off b,v=sc (.p id off)∧h.h.get id=some b∧dP c.length (drp off b.c)=some c∧id<h.n∧P id)∨∃ad x i,v=sc (.v (.pointer (some ad)))∧c=[x]∧F.ro ty ad=some (sc x)∧F.ti ty=some i∧i.d.ag=false)(k:∀id,id<h.n→P id→Fr zs id):PtE F h zs ty c v:=by
 rcases hp with⟨id,off,b,h1,h2,h3,h4,h5⟩|hp
 ·exact .inl ⟨id,off,b,h1,h2,h3,h4,k id h4 h5⟩
 ·exact .inr hp
theorem aPp{el m:Nat}{gg:TI}(ht:F.ti el=some gg)(hg:gg.d.ag=true)(he:elY el y=true)(hy:YR F g vs h (zl ids ws) ws ids y v)(hx:zS ws y m k):J.noC v:=by
 unfold zS at hx;split at hx
 ·exact hy.1.noC (by rw[aM.1 (show Nat.beq _ el=true from he)];exact ht) hg
 ·obtain⟨id,n,-,rfl,-⟩:=hy;exact fun a n cap q=>by cases q
 ·have hy:v=sc .ns:=hy;subst hy;exact fun a n cap q=>by cases q
 ·exact hx.elim
theorem aS8{t el m j id off z:Nat}{i:TI}{x w:Operand}{kk:IntKind}{Q:AV→H→Prop}(hS:St β g e s h zs [] [])(ht:F.ti t=some i)(hd:i.d=.ar m el)(hz:sz F el=some z)(hx:evs s x=some (sc (.p id off)))(hy:evs s w=some (sc (.i kk (.ofNat j))))(hj:Nat.blt j m=true)(kq:Q (sc (.p id (off+j*z))) h):Xop F (.indexAddr t x w) e h Q:=
 .now (fun _=>by
  show oIA F e h t x w=_;unfold oIA;rw[ht,bG hS.k hy]
  show ob (ev e x) (fun v=>one v fun s=>(match i.d,s with
   | .sl el,.sl id off n _=>ob (sz F el) fun z=>cb (Nat.blt j n) (vh (.p id (Nat.add off (Nat.mul j z))) h) none
   | .ar n el,.p id off=>ob (sz F el) fun z=>cb (Nat.blt j n) (vh (.p id (Nat.add off (Nat.mul j z))) h) none
   | .sl el,.v x=>ob (sz F el) fun z=>roA h j z x
   |_,_=>none))=_
  rw[bG hS.k hx,hd];show ob (sz F el) (fun z=>cb (Nat.blt j m) (vh (.p id (Nat.add off (Nat.mul j z))) h) none)=_;rw[hz];show cb (Nat.blt j m) _ none=_;rw[hj];rfl) kq
theorem aNB{t ty n j:Nat}{L:List (List SV)}{P:Nat→Prop}{i:TI}{x z:Operand}{kk:IntKind}{c:List SV}(hS:St β g e s h zs [] [])(ht:F.ti t=some i)(hd:i.d=.sl ty)(hx:evs s x=some v)(hz:evs s z=some (sc (.i kk (j:Int))))(hl:gN F ty n L h P v)(hj:L[j]? =some c):∃u,oIA F e h t x z=some (u,h)∧((∃id off b,u=sc (.p id off)∧h.h.get id=some b∧dP c.length (drp off b.c)=some c∧id<h.n∧P id)∨∃ad x i,u=sc (.v (.pointer (some ad)))∧c=[x]∧F.ro ty ad=some (sc x)∧F.ti ty=some i∧i.d.ag=false):=by
 have hlt:=(List.getElem?_eq_some_iff.1 hj).1;rcases hl with⟨-,-,r1⟩|⟨id,cap,c2,i2,rfl,-,r3,r4,r5,r6,r7,r8,r9⟩|⟨a,cap,i2,rfl,r3,r4,r5,r6,r7⟩
 ·rw[r1]at hlt;cases hlt
 ·refine⟨_,aNg hS ht hd (szF r7) hx hz (by rw[←r3];exact hlt),.inl ⟨id,_,_,rfl,r4,?_,r6,r9⟩⟩;rw[Nat.zero_add,r8 c (List.mem_of_getElem? hj)];exact aNw r8 r5 hj
 ·obtain⟨y,rfl,k1⟩:=r7 j c hj;obtain⟨u,h',⟨m,k2⟩,k3⟩:=aSA (F:=F) (j:=j) (Q:=fun u h'=>u=sc (.v (.pointer (some (a.add (j*1)))))∧h'=h) hS ht hd (by rw[szF r4,r6]) hx hz rfl (by rw[←r3];exact hlt) ⟨rfl,rfl⟩;obtain⟨rfl,rfl⟩:=k3;exact⟨_,k2 m (Nat.le_refl _),.inr ⟨_,y,i2,rfl,rfl,k1,r4,r5⟩⟩
theorem zC{o:Op}(ht:∀p∈tys,F.ti p.1=some p.2)(hlk:Lk g)(hS:Sy F β g vs e h sy ws ids s)(hb:β≤h.n)(hw:st=true→β≤g.n)(hx:vop F tys st o sy ws k):Xop F o e h (Aft F β g vs e sy k):=by
 unfold vop at hx;split at hx
 ·obtain⟨y,h1,h2⟩:=aF hx;obtain⟨v,h3,h4⟩:=hS.r.ev h1;exact aQP hS.st h3 (hS.keep h2 h4)
 ·obtain⟨y,h1,h2⟩:=aF hx;obtain⟨v,h3,h4⟩:=hS.r.ev h1;exact aQQ hS.st h3 (hS.keep h2 h4)
 ·obtain⟨y1,h1,hx⟩:=aF hx;obtain⟨v1,h3,h4⟩:=hS.r.ev h1;split at hx
  ·obtain⟨y,h5,hx⟩:=aF hx;obtain⟨v,h6,h7⟩:=hS.r.ev h5;have h4:v1=_:=h4;subst h4;exact aJ6 hS.st h3 h6 (hS.keep hx h7)
  ·exact hx.elim
 ·obtain⟨y1,h1,hx⟩:=aF hx;obtain⟨v1,h3,h4⟩:=hS.r.ev h1;split at hx
  ·obtain⟨p,h5,hx⟩:=aF hx;have h4:v1=_:=h4;subst h4;exact aH2 hS.st h3 h5 (hS.keep hx rfl)
  ·obtain⟨r,h5,hx⟩:=aF hx;obtain⟨ps,h6,rfl⟩:=h4;rw[kH,List.head?_drop]at h5;obtain⟨p,h7,h8⟩:=aFy h6 h5;exact aH2 hS.st h3 (by rw[kH,List.head?_drop];exact h7) (hS.keep hx (aNz h8))
  ·exact hx.elim
 ·obtain⟨i,h1,hx⟩:=tyL'_ok ht hx;obtain⟨q,h2,hx⟩:=aF hx;obtain⟨j,h3,hx⟩:=tyL'_ok ht hx;obtain⟨h4,hx⟩:=cbT hx;obtain⟨y,h5,hx⟩:=aF hx;obtain⟨v,h6,h7⟩:=hS.r.ev h5;split at hx
  ·obtain⟨id,ha,rfl⟩:=h7;exact aQR hS.st h1 h2 (szF h3) h4 h6 (hS.keep hx ⟨id,ha,rfl⟩)
  ·exact hx.elim
 ·obtain⟨i,h1,hx⟩:=tyL'_ok ht hx;obtain⟨y,h5,hx⟩:=aF hx;obtain⟨v,h6,h7⟩:=hS.r.ev h5;split at hx
  ·obtain⟨rfl,hk⟩:=cbE hx;obtain⟨h8,hk⟩:=cbF hk;obtain⟨h9,hk⟩:=cbT hk;obtain⟨x,h10,h11⟩:=h7;exact .now (fun _=>aRF hS.st h10 h1 (aM.1 h9).symm (by rw[h8];rfl) h6) (hS.keep hk ⟨h11.to (Nat.le_refl _) fun id _ q=>⟨rfl,q,fun q=>by cases q⟩,fun i q=>by cases q⟩)
  ·obtain⟨c,hx,h8⟩:=aFz hS h1 h7 hx;obtain⟨u,h10,hx⟩:=aF hx;exact .now (fun _=>h8 _ _ h6 h10) (hS.keep hx rfl)
 ·obtain⟨hst,hx⟩:=cbT hx;obtain⟨i,h1,hx⟩:=tyL'_ok ht hx;obtain⟨y2,h10,hx⟩:=aF hx;obtain⟨v2,h11,hx⟩:=aF hx;obtain⟨v3,h12,h13⟩:=hS.r.ev h10;have:=mV h11 h13;subst this;split at hx
  ·obtain⟨h15,hx⟩:=cbT hx;rw[aY]at h15;obtain⟨y,h5,hx⟩:=aF hx;obtain⟨v,h6,h7⟩:=hS.r.ev h5;split at hx
   ·obtain⟨w,h14,hx⟩:=aF hx;split at hx
    ·obtain⟨c,h16,hx⟩:=aF hx;obtain⟨h17,hx⟩:=cbT hx;obtain⟨id,ha,rfl⟩:=h7;obtain⟨-,-,-,-,h18,-,h19⟩:=hS.own ha h14 rfl;exact aRG hS.st (Nat.le_trans (hw hst) h18) (szF h1) h6 h12 (aM.1 h15) h19 h16 h17 ((hS.put ha h14 rfl (w':=.c ⟨_,c⟩) rfl trivial (fun _ _ _ q=>by cases q)).keep hx rfl)
    ·exact hx.elim
   ·obtain⟨w,h14,hx⟩:=aF hx;split at hx
    ·obtain⟨rfl,hk⟩:=cbE hx;have hx:=hk;obtain⟨h17,h20,hx⟩:=cbT hx;obtain⟨id,off,ha,rfl,h21⟩:=h7;obtain⟨-,-,-,-,h18,-,h19⟩:=hS.own ha h14 rfl;obtain⟨r1,r2,i3,r3,r4⟩:=hS.ok _ (List.mem_of_getElem? h14);rw[h1]at r3;injection r3 with r3;subst r3;obtain⟨rfl,-⟩:=h21 _ _ _ _ h14 h1
     exact aRG hS.st (Nat.le_trans (hw hst) h18) (szF h1) h6 h12 (aM.1 h15) h19 (aRE (fun x hx=>(r4 x hx).1) (by rw[r1];exact h20) (aM.1 h15)) (aFA r2 (aAN.2 fun x hx=>(r4 x hx).2))
      ((hS.put ha h14 rfl (w':=.l _ _ _) rfl ⟨by rw[List.length_set];exact r1,r2,i,h1,fun x hx=>by
       rcases List.mem_or_eq_of_mem_set hx with hx|rfl
       ·exact r4 x hx
       ·exact⟨aM.1 h15,h17⟩⟩ (fun _ _ _ q=>by cases q;exact⟨_,rfl⟩)).keep hx rfl)
    ·exact hx.elim
   ·exact hx.elim
  ·exact hx.elim
 ·obtain⟨i,h1,hx⟩:=tyL'_ok ht hx;exact .now (fun _=>by show mM F h _=_;unfold mM;rw[h1];exact qI) (hS.newp (w:=.c ⟨_,i.ze⟩) rfl trivial hx)
 ·obtain⟨y,h1,hx⟩:=aF hx;obtain⟨v,h2,hx⟩:=aF hx;obtain⟨v3,h3,h4⟩:=hS.r.ev h1;have:=mV h2 h4;subst this;split at hx
  ·exact .now (fun _=>by show uK e h _ _=_;unfold uK;rw[bG hS.st.k h3];exact (show (h.nw _ fun a h=>vh (.p a 0) h)=_ from qI)) (hS.newp (w:=.c ⟨_,_⟩) rfl trivial hx)
  ·exact hx.elim
 ·obtain⟨i,h1,hx⟩:=tyL'_ok ht hx;split at hx
  ·rename_i fs hd;obtain⟨pl,h2,hx⟩:=aEU ht hx;obtain⟨c,h3,hx⟩:=aF hx;exact aGJ hS.st h1 hd h2 (kL hS.r h3) (hS.keep hx rfl)
  ·exact hx.elim
 ·obtain⟨i,h1,hx⟩:=tyL'_ok ht hx;obtain⟨el,h2,hx⟩:=aF hx;obtain⟨j,h3,hx⟩:=tyL'_ok ht hx;obtain⟨h4,hx⟩:=cbT hx;split at hx
  ·rename_i q l ws' hl;obtain⟨h5,hk⟩:=cbT hx;obtain⟨h6,hk⟩:=cbT hk;obtain⟨h7,hk⟩:=cbT hk;rw[aY]at h6 h7;have h5:=aM.1 h5;obtain⟨svs,hS2,h8,h9⟩:=aRN hS hl;have hn:=aM.1 h6;have hlen:svs.length=(q::l).length:=(aCV h8).symm;have hc:=h9 [] (iU j.ze (q::l).length) rfl (by rw[aPo,(aM.1 h7),Nat.mul_one]);rw[hn,←h5]at hc;refine aRI hS.st h1 h2 h3 h4 hc ((hS2.xh (aNA _)).keep hk ⟨svs,.inr (.inl ⟨h.n,some _,svs,j,by rw[hn],fun q hq=>(by injection hq with hq;exact Nat.le_of_eq (hn.trans hq)),by rw[List.length_map,hlen],T.get_same,by rw[aKX];exact List.prefix_refl _,Nat.lt_succ_self _,h3,fun x hx=>?_,fun p hp q=>?_⟩),h8.imp fun _ _ q=>q.to (Nat.le_succ _) fun id q1 q2=>⟨zT (Nat.ne_of_lt q1),q2⟩⟩)
   ·obtain⟨a,-,rfl⟩:=List.mem_map.1 hx;exact h5.symm
   ·have:=(hS2.st.w.1 p hp).2.1;omega
  obtain⟨c,h5,hx⟩:=aF hx;obtain⟨h6,hx⟩:=cbT hx;obtain⟨h7,hx⟩:=cbF hx;obtain⟨h8,hx⟩:=cbT hx;rw[aY]at h8;obtain⟨q1,q2,q3⟩:=aFx (aM.1 h8);refine aRI hS.st h1 h2 h3 h4 (kL hS.r h5) (hS.news (b:=⟨el,c⟩) (by show some (B.mk el (qP j.sz _ c).flatten)=_;rw[q1]) ⟨q2,tO.1 h7,j,h3,fun x hx=>⟨q3 x hx,?_⟩⟩ hx);exact aAN.1 (by rw[q1];exact h6) x hx
 ·obtain⟨i,h1,hx⟩:=tyL'_ok ht hx;obtain⟨el,h2,hx⟩:=aF hx;obtain⟨j,h3,hx⟩:=tyL'_ok ht hx;obtain⟨y1,h4,hx⟩:=aF hx;obtain⟨y2,h5,hx⟩:=aF hx;obtain⟨v1,h6,h7⟩:=hS.r.ev h4;obtain⟨v2,h8,h9⟩:=hS.r.ev h5;obtain⟨x1,rfl,hx⟩:=eD hx h7;obtain⟨x2,rfl,hx⟩:=eD hx h9;split at hx
  ·obtain⟨rfl,n,rfl,⟨h10,h11⟩,hk⟩:=hx;have hx:=hk;obtain⟨h12,hx⟩:=cbT hx;obtain⟨h13,hx⟩:=cbF hx;obtain⟨h14,hx⟩:=cbT hx;rw[aY]at h14;exact aRH hS.st h1 h2 h3 h6 h8 h10 h11 (hS.news (b:=⟨el,iU j.ze n⟩) (by show some (B.mk el (List.replicate n j.ze).flatten)=_;rw[aFw]) ⟨List.length_replicate,tO.1 h13,j,h3,fun x hx=>by
    have:=(List.mem_replicate.1 hx).2;subst this;exact⟨aM.1 h14,h12⟩⟩ hx)
  ·exact hx.elim
 ·obtain⟨i,h1,hx⟩:=tyL'_ok ht hx;split at hx
  ·rename_i el hd;obtain⟨y1,h4,hx⟩:=aF hx;obtain⟨v1,h6,h7⟩:=hS.r.ev h4;obtain⟨x1,rfl,hx⟩:=eD hx h7;obtain⟨y2,h5,hx⟩:=aF hx;obtain⟨v2,h8,h9⟩:=hS.r.ev h5;split at hx
   ·obtain⟨j,rfl,hk⟩:=hx;have hx:=hk;split at hx
    ·obtain⟨rfl,c,q2,hk⟩:=cbE hx;have hx:=hk;have hlt:=(List.getElem?_eq_some_iff.1 q2).1;rcases aNB hS.st h1 hd h8 h6 h9.1 q2 with⟨w,k1,k2⟩
     exact .now (fun _=>k1) (hS.keep hx (PtE.imp k2 fun _ _ q=>q.1))
    ·obtain⟨rfl,p,q2,hz⟩:=cbE hx;obtain⟨svs,r1,r2⟩:=h9;obtain⟨x,r3,r4⟩:=aFy r2 q2;rcases aNB hS.st h1 hd h8 h6 r1 (show (svs.map fun x=>[x])[j]? =some [x] by rw[List.getElem?_map,r3];rfl) with⟨w,k1,k2⟩
     exact .now (fun _=>k1) (hS.keep hz ⟨x,PtE.imp k2 fun _ _ q=>q,r4⟩)
    ·obtain⟨w,q2,hx⟩:=aF hx;split at hx
     ·obtain⟨rfl,q3,hz⟩:=cbE hx;obtain⟨id,n',ha,rfl,-,-,hn⟩:=h9;have:=hn _ _ _ q2;subst this;obtain⟨-,-,i2,r3,-⟩:=hS.ok _ (List.mem_of_getElem? q2);refine .now (fun _=>aNg hS.st h1 hd (szF r3) h8 h6 q3) (hS.keep hz ⟨id,_,ha,rfl,fun ty m L i hq hi=>?_⟩);rw[q2]at hq;cases hq;rw[r3]at hi;cases hi;exact⟨Nat.zero_add _,q3⟩
     ·exact hx.elim
    ·exact hx.elim
   ·exact hx.elim
  ·rename_i m el hd;obtain⟨gg,h3,hx⟩:=tyL'_ok ht hx;obtain⟨y1,h4,hx⟩:=aF hx;obtain⟨v1,h6,h7⟩:=hS.r.ev h4;obtain⟨x1,rfl,hx⟩:=eD hx h7;obtain⟨y2,h5,hx⟩:=aF hx;obtain⟨v2,h8,h9⟩:=hS.r.ev h5;split at hx
   ·obtain⟨h10,hx⟩:=cbT hx;obtain⟨id,ha,rfl⟩:=h9;exact aS8 hS.st h1 hd (szF h3) h8 h6 h10 (hS.keep hx ⟨id,ha,rfl⟩)
   ·exact hx.elim
  ·exact hx.elim
 ·obtain⟨i,h1,hx⟩:=tyL'_ok ht hx;split at hx
  ·rename_i el hd;obtain⟨j,h3,hx⟩:=tyL'_ok ht hx;obtain⟨h2,hx⟩:=cbT hx;obtain⟨y1,h4,hx⟩:=aF hx;obtain⟨v1,h6,h7⟩:=hS.r.ev h4;obtain⟨x1,rfl,hx⟩:=eD hx h7;obtain⟨y2,h5,hx⟩:=aF hx;obtain⟨v2,h8,h9⟩:=hS.r.ev h5;split at hx
   ·obtain⟨m,rfl,hk⟩:=hx;obtain⟨he,hx⟩:=cbT hk;exact aTS hS.st h1 hd (szF h3) h8 (aMP (aPp h3 h2 he h9 hx) h9 hx) h6 fun u hc=>aHa hS h9 (.inl hc) hx
   ·exact hx.elim
  ·exact hx.elim
 ·obtain⟨i,h1,hx⟩:=tyL'_ok ht hx;obtain⟨h2,hx⟩:=cbF hx;obtain⟨y1,h3,hx⟩:=aF hx;obtain⟨v1,h4,h5⟩:=hS.r.ev h3;obtain⟨x1,rfl,hx⟩:=eD hx h5;obtain⟨y2,h6,hx⟩:=aF hx;obtain⟨v2,h7,h8⟩:=hS.r.ev h6;obtain⟨x2,rfl,hx⟩:=eD hx h8;obtain⟨r,h9,hx⟩:=aGK hx;exact aNe hS.st h1 h2 h4 h7 h9 (hS.keep hx rfl)
 ·obtain⟨y1,h3,hx⟩:=aF hx;obtain⟨v1,h4,h5⟩:=hS.r.ev h3;obtain⟨x1,rfl,hx⟩:=eD hx h5;split at hx
  ·exact aNf hS.st h4 (hS.keep hx rfl)
  ·exact hx.elim
 ·obtain⟨y1,h3,hx⟩:=aF hx;obtain⟨v1,h4,h5⟩:=hS.r.ev h3;obtain⟨x1,rfl,hx⟩:=eD hx h5;split at hx
  ·exact aNj hS.st h4 hx.1.1 hx.1.2 (hS.keep hx.2 rfl)
  ·exact hx.elim
 ·obtain⟨i,h1,hx⟩:=tyL'_ok ht hx;split at hx
  ·rename_i hd;obtain⟨y,h2,hx⟩:=aF hx;obtain⟨v,h3,h4⟩:=hS.r.ev h2;obtain⟨x1,rfl,hx⟩:=eD hx h4;split at hx
   ·obtain⟨y2,h5,hx⟩:=aF hx;obtain⟨v2,h6,h7⟩:=hS.r.ev h5;obtain⟨x2,rfl,hx⟩:=eD hx h7;obtain⟨j,h8,b,h9,hx⟩:=aF hx;exact aNk hS.st h1 hd h3 h6 h8 h9 (hS.keep hx rfl)
   ·exact hx.elim
  ·exact hx.elim
 ·exact aCH ht hS hlk hb hw hx
 ·exact hx.elim
variable {ops l:List Oper} {o:Oper}
theorem aPq{k n el:Nat}{c:List SV}(hl:h.l.get k=none)(hb:h.h.get k=some ⟨el,c⟩)(hp:plS c=true)(hs:svL c c=true):kP h (sc (.sl k 0 n (some n))) (sc (.sl h.n 0 n (some n)),nwH h ⟨el,c⟩)=true:=by
 show cb (Nat.beq h.n h.n) (cb (Nat.beq n n) (cb (Nat.beq n n) (aDD (h.l.get k) (h.h.get k) ((T.set ⟨el,c⟩ h.h h.n).get h.n)) false) false) false=true;rw[Nat.beq_refl,Nat.beq_refl,hl,hb,T.get_same];show cb (Nat.beq el el) (cb (svL c c) (plS c) false) false=true;rw[Nat.beq_refl,hs,hp];rfl
theorem aS9{t el n:Nat}{i j:TI}{pr:Array (Nat × Operand)}{c:List SV}{call:dD}(hS:St β g e s h zs [] [])(ht:F.ti t=some i)(hd:elem i.d=some el)(hj:F.ti el=some j)(hn:Nat.blt (Nat.mul n j.sz) 16777216=true)(hc:gQ (fun f=>some (Nat.mul f j.sz,j.sz)) s pr.toList (iU j.ze n)=some c):op1 F call (.buildSlice t n pr) e h=some (sc (.sl h.n 0 n (some n)),nwH h ⟨el,c⟩):=by
 show fH F e h t n pr.toList=_;unfold fH;rw[ht];show ob (elem i.d) _=_;rw[hd];show ob (F.ti el) _=_;rw[hj];show cb (Nat.blt (Nat.mul n j.sz) 16777216) (ob (parts (fun f=>some (Nat.mul f j.sz,j.sz)) e pr.toList (iU j.ze n)) fun c=>h.nw ⟨el,c⟩ fun a h=>vh (.sl a 0 n (some n)) h) none=_;rw[hn,aAy hS.k hc];exact (show (h.nw ⟨el,c⟩ fun a h=>vh (.sl a 0 n (some n)) h)=_ from qI)
theorem aEV{gd:Option (Nat × Bool)}{k:Bool→List (Nat × Y)→Prop}(hS:Sy F β g vs e h sy ws ids s)(hx:vgd ops sy gd k):∃t sy s,wanted ops e gd=some t∧k t sy∧Sy F β g vs e h sy ws ids s:=by
 unfold vgd at hx;split at hx
 ·exact⟨_,_,_,rfl,hx,hS⟩
 ·rename_i gi w;obtain⟨o,h1,hx⟩:=aF hx;obtain⟨j,h2,hx⟩:=aF hx;obtain⟨y,h3,hx⟩:=aF hx;obtain⟨v,h4,h5⟩:=hS.r.lk h3;split at hx
  ·rename_i x;have h5:v=sc (.b x):=h5;subst h5;exact⟨_,_,_,nV hS.st h1 h2 h4,hx,hS⟩
  ·rename_i x;have h5:v=sc (.b x):=h5;subst h5;have key:Sy F β g vs e h ((j,.b x)::sy) ws ids ((j,sc (.b x))::s):=⟨⟨rfl,rfl,hS.r⟩,hS.len,hS.ok,⟨kn1 (hS.st.k j _ h4) hS.st.k,hS.st.n,hS.st.bar,hS.st.o,hS.st.l,hS.st.w,hS.st.ls,hS.st.ps⟩⟩
   cases x with
   |true=>exact⟨_,_,_,nV hS.st h1 h2 h4,hx.1 rfl,key⟩
   |false=>exact⟨_,_,_,nV hS.st h1 h2 h4,hx.2 rfl,key⟩
  ·have h5:v=.t []:=h5;subst h5;refine⟨_,_,_,?_,hx,hS⟩;show (ob (drp gi ops).head? fun o=>ob o.dst fun d=>isB (e.get d) w)=_;rw[h1];show (ob o.dst fun d=>isB (e.get d) w)=_;rw[h2];show isB (e.get j) w=_;rw[hS.st.k j _ h4];rfl
  ·exact hx.elim
theorem mW{C:Env→H→Prop}{Go:Prop}{k:List (Nat × Y)→List W→Prop}(ht:∀p∈tys,F.ti p.1=some p.2)(hlk:Lk g)(hS:Sy F β g vs e h sy ws ids s)(hb:β≤h.n)(hw:st=true→β≤g.n)(hx:vst F tys st nt ops o sy ws k)
  (p1:∀d,wanted ops e o.guard=some true→o.dst=some d→Nat.blt d nt=true→Xop F o.op e h (fun v h=>Pk d v e h C)→Go)
  (p2:∀d,wanted ops e o.guard=some false→o.dst=some d→Nat.blt d nt=true→Pk d E.un e h C→Go)
  (p3:o.guard=none→o.dst=none→Xop F o.op e h (fun _ h=>C e h)→Go)
  (kk:∀e h sy ws ids s,Sy F β g vs e h sy ws ids s→k sy ws→C e h):Go:=by
 unfold vst at hx;split at hx
 ·rename_i hd;split at hx
  ·rename_i hg;refine p3 hg hd ((zC ht hlk hS hb hw hx).mono fun v h' hq=>?_);obtain⟨y,ws,ids,s,h1,h2,h3⟩:=hq;exact kk _ _ _ _ _ _ h3 h1
  ·exact hx.elim
 ·rename_i d hd;obtain⟨hn,hx⟩:=cbT hx;obtain⟨t,sy,s,h1,hx,hS⟩:=aEV hS hx;cases t with
  |true=>
   refine p1 d h1 hd hn ((zC ht hlk hS hb hw hx).mono fun v h' hq=>?_);obtain⟨y,ws,ids,s,h1,h2,h3⟩:=hq;exact h3.st.pk fun e hS2=>kk _ _ _ _ _ _ ⟨h3.r.cons h2,h3.len,h3.ok,hS2⟩ h1
  |false=>exact p2 d h1 hd hn (hS.st.pk fun e hS2=>kk _ _ _ _ _ _ ⟨hS.r.cons (y:=.a E.un) rfl,hS.len,hS.ok,hS2⟩ hx)
variable {Q:Env→H→Prop} {k:List (Nat × Y)→List W→Prop}
theorem vW(ht:∀p∈tys,F.ti p.1=some p.2)(hlk:Lk g)(hg:β≤g.n):∀{l:List Oper} {e:Env} {h:H} {sy:List (Nat × Y)} {ws:List W} {ids:List Nat} {s:List (Nat × AV)},Sy F β g vs e h sy ws ids s→xC F tys nt ops l sy ws k→(∀e h sy ws ids s,Sy F β g vs e h sy ws ids s→k sy ws→Q e h)→Xr F nt ops l e h Q
 | [],_,_,_,_,_,_,hS,hx,kk=>aJ1 (kk _ _ _ _ _ _ hS hx)
 |_::_,_,_,_,_,_,_,hS,hx,kk=>mW ht hlk hS (Nat.le_trans hg hS.st.n) (fun _=>hg) hx (fun _ a b c x=>aGH a b c x) (fun _ a b c x=>aJ2 a b c x) (fun a b x=>aEN a b x) fun _ _ _ _ _ _ hS hx=>vW ht hlk hg hS hx kk
theorem jB(ht:∀p∈tys,F.ti p.1=some p.2)(hlk:Lk g)(hS:Sy F β g vs e h sy ws ids s):∀{l:List Nat},vag tys ops sy ws l→Ag F ops l e h
 | [],_=>aBZ
 |i::l,hx=>by
  obtain⟨o,h1,hx⟩:=aF hx;split at hx
  ·rename_i e1;exact aBk h1 (by rw[e1];rfl) (jB ht hlk hS hx)
  ·rename_i e1;exact aBk h1 (by rw[e1];rfl) (jB ht hlk hS hx)
  ·rename_i e1;exact aBk h1 (by rw[e1];rfl) (jB ht hlk hS hx)
  ·rename_i e1;exact aBk h1 (by rw[e1];rfl) (jB ht hlk hS hx)
  ·rename_i e1;exact aBk h1 (by rw[e1];rfl) (jB ht hlk hS hx)
  ·rename_i e1;exact aBk h1 (by rw[e1];rfl) (jB ht hlk hS hx)
  ·rename_i e1;obtain⟨j,h2,hx⟩:=tyL'_ok ht hx;obtain⟨y,h3,hx⟩:=aF hx;obtain⟨v,h4,h5⟩:=hS.r.ev h3;obtain⟨c,hx,h8⟩:=aFz hS h2 h5 hx;obtain⟨u,h12,hx⟩:=aF hx;obtain⟨d,h13,hx⟩:=aF hx;obtain⟨y2,h14,hx⟩:=aF hx;obtain⟨h15,rfl,h16,hz⟩:=hx;obtain⟨v2,h17,h18⟩:=hS.r.lk h14;have h18:v2=u:=h18;subst h18;exact aQN h1 (by rw[e1];rfl) h15 h13 (hS.st.k _ _ h17) (by rw[e1];exact h8 _ _ h4 h12) h16 (jB ht hlk hS hz)
  ·rename_i t n pr e1;obtain⟨i,h2,hx⟩:=tyL'_ok ht hx;obtain⟨el,h3,hx⟩:=aF hx;obtain⟨j,h4,hx⟩:=tyL'_ok ht hx;obtain⟨h5,hx⟩:=cbT hx;obtain⟨c,h6,hx⟩:=aF hx;obtain⟨d,h7,hx⟩:=aF hx;obtain⟨y,h8,hx⟩:=aF hx;obtain⟨v,h9,h10⟩:=hS.r.lk h8;split at hx
   ·obtain⟨w,h11,hx⟩:=aF hx;split at hx
    ·obtain⟨q1,hk⟩:=cbE hx;obtain⟨q2,hk1⟩:=cbE hk;obtain⟨q3,hk2⟩:=cbE hk1;obtain⟨⟨h12,q4,h13,h14⟩,hz⟩:=hk2;subst q1;subst q2;subst q3;subst q4;obtain⟨id,n',ha,rfl,-,-,hn⟩:=h10;have:=hn _ _ _ h11;subst this;obtain⟨-,-,-,-,hg,-,hget⟩:=hS.own ha h11 rfl;refine aTC h1 (by rw[e1];rfl) h12 h7 (hS.st.k _ _ h9) (u:=(sc (.sl h.n 0 _ (some _)),nwH h ⟨_,_⟩)) (by rw[e1];exact aS9 hS.st h2 h3 h4 h5 (kL hS.r h6)) (aPq (by rw[hS.st.l];exact hlk _ hg) hget h13 h14) (jB ht hlk hS hz)
    ·exact hx.elim
   ·exact hx.elim
  ·exact hx.elim
theorem xD(ht:∀p∈tys,F.ti p.1=some p.2)(hlk:Lk g)(hg:β≤g.n):∀{l:List (Nat × List Nat)} {e:Env} {h:H} {sy:List (Nat × Y)} {ws:List W} {ids:List Nat} {s:List (Nat × AV)},Sy F β g vs e h sy ws ids s→vB F tys nt ops l sy ws k→(∀e h sy ws ids s,Sy F β g vs e h sy ws ids s→k sy ws→Q e h)→Xb F nt ops l e h Q
 | [],_,_,_,_,_,_,hS,hx,kk=>aJ4 (kk _ _ _ _ _ _ hS hx)
 |(_,[])::_,_,_,_,_,_,_,hS,hx,kk=>by
  obtain⟨o,h1,hx⟩:=aF hx;exact mW ht hlk hS (Nat.le_trans hg hS.st.n) (fun _=>hg) hx (fun _ a b c x=>aAv h1 a b c x) (fun _ a b c x=>aB2 h1 a b c x) (fun a b x=>xA h1 a b x) fun _ _ _ _ _ _ hS hx=>⟨aBZ,xD ht hlk hg hS hx kk⟩
 |(_,_::_)::_,_,_,_,_,_,_,hS,hx,kk=>by
  obtain⟨o,h1,hx⟩:=aF hx;exact mW ht hlk hS (Nat.le_trans hg hS.st.n) (fun _=>hg) hx (fun _ a b c x=>aAv h1 a b c x) (fun _ a b c x=>aB2 h1 a b c x) (fun a b x=>xA h1 a b x) fun _ _ _ _ _ _ hS hx=>⟨jB ht hlk hS hx.1,xD ht hlk hg hS hx.2 kk⟩
theorem aB3{b:Nat}{M:List (Nat × List Nat)}(ht:∀p∈tys,F.ti p.1=some p.2)(hlk:Lk g):∀{l:List Nat} {β:Nat} {e:Env} {h:H} {sy:List (Nat × Y)} {ws:List W} {ids:List Nat} {s:List (Nat × AV)},Sy F β g vs e h sy ws ids s→vA F tys nt ops l sy ws k→(∀e h sy ws ids s,Sy F b g vs e h sy ws ids s→k sy ws→Xb F nt ops M e h Q)→Xa F nt ops b M l e h Q
 | [],_,_,_,_,_,_,_,hS,hx,kk=>aJ3 (kk _ _ _ _ _ _ (hS.back b) hx)
 |_::_,_,_,_,_,_,_,_,hS,hx,kk=>by
  obtain⟨o,h1,hx⟩:=aF hx;exact mW (st:=false) ht hlk hS.lift (Nat.le_refl _) (fun h=>by cases h) hx (fun _ a b c x=>aGI h1 a b c x) (fun _ a b c x=>aJ5 h1 a b c x) (fun a b x=>aEO h1 a b x) fun _ _ _ _ _ _ hS hx=>aB3 ht hlk hS hx kk
theorem rA{α:Type}:∀{m:List Bool} {l:List α},m.length=l.length→(dK m l).length=cnt m
 | [],[],_=>rfl
 |true::m,a::l,h=>congrArg Nat.succ (rA (m:=m) (l:=l) (Nat.succ.inj h))
 |false::m,a::l,h=>rA (m:=m) (l:=l) (Nat.succ.inj h)
 | [],_::_,h=>by cases h
 |_::_,[],h=>by cases h
theorem aFB{α:Type}:∀{m:List Bool} {l:List α} {k k':Nat},m.length=l.length→rnm m k=some k'→k' <cnt m∧k<l.length∧(dK m l)[cnt m-1-k']? =l[l.length-1-k]?
 | [],_,_,_,_,h=>by cases h
 |b::m,a::l,k,k',hl,h=>by
  have hl:m.length=l.length:=Nat.succ.inj hl;have h:cb (Nat.beq k (len m)) (cb b (some (cnt m)) none) (rnm m k)=some k':=h;cases hb:Nat.beq k (len m) with
  |true=>
   rw[hb]at h;have hk:=aM.1 hb;rw[aY,hl]at hk;subst hk;cases b with
   |false=>cases h
   |true=>
    cases h;refine⟨Nat.lt_succ_self _,Nat.lt_succ_self _,?_⟩;show (a::dK m l)[Nat.succ (cnt m)-1-cnt m]? =(a::l)[l.length+1-1-l.length]?;rw[show Nat.succ (cnt m)-1-cnt m=0 by omega,show l.length+1-1-l.length=0 by omega];rfl
  |false=>
   rw[hb]at h;obtain⟨h1,h2,h3⟩:=aFB (l:=l) hl h;refine⟨?_,Nat.lt_succ_of_lt h2,?_⟩
   ·cases b with
    |true=>exact Nat.lt_succ_of_lt h1
    |false=>exact h1
   ·have e1:(a::l)[(a::l).length-1-k]? =l[l.length-1-k]? :=by
       rw[List.length_cons,show l.length+1-1-k=(l.length-1-k)+1 by omega];rfl
    rw[e1,←h3];cases b with
    |true=>
     show (a::dK m l)[Nat.succ (cnt m)-1-k']? =_;rw[show Nat.succ (cnt m)-1-k'=(cnt m-1-k')+1 by omega];rfl
    |false=>rfl
 |_::_,[],_,_,h,_=>by cases h
theorem aFC:∀{m:List Bool} {ids:List Nat} {ws:List W},(zl (dK m ids) (dK m ws)).Sublist (zl ids ws)
 | [],ids,ws=>by
   have:zl (dK [] ids) (dK [] ws)=[]:=by cases ids<;>cases ws<;>rfl
   rw[this];exact List.nil_sublist _
 |b::m,i::ids,w::ws=>by
  have ih:=aFC (m:=m) (ids:=ids) (ws:=ws);cases b with
  |true=>
   show (zc w.b i (zl (dK m ids) (dK m ws))).Sublist (zc w.b i (zl ids ws));cases w.b with
   |none=>exact ih
   |some b=>exact ih.cons_cons _
  |false=>
   show (zl (dK m ids) (dK m ws)).Sublist (zc w.b i (zl ids ws));cases w.b with
   |none=>exact ih
   |some b=>exact ih.cons _
 |b::m,[],ws=>by
  have:zl (dK (b::m) []) (dK (b::m) ws)=[]:=by
    show zl [] (dK (b::m) ws)=[]
    cases dK (b::m) ws<;>rfl
  rw[this];exact List.nil_sublist _
 |b::m,i::ids,[]=>by
  have:zl (dK (b::m) (i::ids)) (dK (b::m) [])=[]:=by
    show zl (dK (b::m) (i::ids)) []=[]
    cases dK (b::m) (i::ids)<;>rfl
  rw[this];exact List.nil_sublist _
theorem YR.drop{m:List Bool}{y':Y}(hm:m.length=ws.length)(hl:ids.length=ws.length)(hk:rnY m y=some y')(hy:YR F g vs h (zl ids ws) ws ids y v):YR F g vs h (zl (dK m ids) (dK m ws)) (dK m ws) (dK m ids) y' v:=by
 have hz:∀id,Fr (zl ids ws) id→Fr (zl (dK m ids) (dK m ws)) id:=fun id hf p hp=>hf p (aFC.subset hp);have ha:∀k k' id,rnm m k=some k'→At ids k id→At (dK m ids) k' id:=fun k k' id q ha=>by
  obtain⟨h1,h2,h3⟩:=aFB (l:=ids) (by omega) q;unfold At;rw[rA (l:=ids) (by omega)];exact⟨h1,h3.trans ha.2⟩
 have hw:∀k k',rnm m k=some k'→(dK m ws)[atW (dK m ws) k']? =ws[atW ws k]? :=fun k k' q=>by
  obtain⟨-,-,h3⟩:=aFB (l:=ws) hm q;unfold atW;rw[aY,aY,rA hm];exact h3
 cases y with
 |a u=>cases hk;exact hy
 |b x=>cases hk;exact hy
 |p k off=>
  obtain⟨k',h0,hk⟩:=aA.1 (show ob (rnm m k) (fun k=>some (Y.p k off))=some y' from hk);cases hk;obtain⟨id,h1,h2⟩:=hy;exact⟨id,ha _ _ _ h0 h1,h2⟩
 |l ty o n L=>cases hk;exact⟨hy.1.to (Nat.le_refl _) fun id q1 q2=>⟨rfl,hz id q2.1,q2.2⟩,hy.2⟩
 |s k cap=>
  obtain⟨k',h0,hk⟩:=aA.1 (show ob (rnm m k) (fun k=>some (Y.s k cap))=some y' from hk);cases hk;obtain⟨id,n,h1,h2,h3,h4,h5⟩:=hy;exact⟨id,n,ha _ _ _ h0 h1,h2,h3,h4,fun ty q L hq=>h5 ty q L (by rw[←hw k k' h0];exact hq)⟩
 |e ty c=>cases hk;exact PtE.imp hy fun id _ q=>hz id q
 |q k j=>
  obtain⟨k',h0,hk⟩:=aA.1 (show ob (rnm m k) (fun k=>some (Y.q k j))=some y' from hk);cases hk;obtain⟨id,off,h1,h2,h3⟩:=hy;exact⟨id,off,ha _ _ _ h0 h1,h2,fun ty q L i hq hi=>h3 ty q L i (by rw[←hw k k' h0];exact hq) hi⟩
 |t l=>
  cases hk;obtain⟨ps,h1,h2⟩:=hy;refine⟨ps,h1.imp fun r p hr=>?_,h2⟩;cases r with
  |a x c=>exact hr
  |l ty n L=>
   obtain⟨h1,s,h2,h3⟩:=hr;exact⟨h1,s,h2,h3.to (Nat.le_refl _) fun id q1 q2=>⟨rfl,hz id q2.1,q2.2⟩⟩
 |ls ty l=>cases hk;exact xU.to hy (Nat.le_refl _) fun id _ q=>⟨rfl,hz id q⟩
 |el t0 ty n L=>cases hk;obtain⟨x,h1,h2⟩:=hy;exact⟨x,PtE.imp h1 fun id _ q=>hz id q,h2.to (Nat.le_refl _) fun id _ q=>⟨rfl,hz id q⟩⟩
theorem vX{m:List Bool}(hm:m.length=ws.length)(hl:ids.length=ws.length)(hr:RS F g vs h (zl ids ws) ws ids sy s):∀{t:List (Nat × Y)},aBm m sy t→∃s2,RS F g vs h (zl (dK m ids) (dK m ws)) (dK m ws) (dK m ids) t s2∧∀k v,E.lk s2 k=some v→E.lk s k=some v
 | [],_=>⟨[],trivial,fun _ _ h=>by cases h⟩
 |p::l,hx=>by
  obtain⟨h1,h3⟩:=hx;obtain⟨y,h1,h2⟩:=aA.1 h1;obtain⟨s2,h4,h5⟩:=vX hm hl hr h3;obtain⟨v,h6,h7⟩:=hr.lk h1;refine⟨(p.1,v)::s2,⟨rfl,YR.drop hm hl h2 h7,h4⟩,fun k u hk=>?_⟩;have hk:cb (Nat.beq p.1 k) (some v) (E.lk s2 k)=some u:=hk;cases hb:Nat.beq p.1 k with
  |true=>
   rw[hb]at hk;injection hk with hk;rw[←aM.1 hb,←hk];exact h6
  |false=>
   rw[hb]at hk;exact h5 k u hk
theorem aCW{α:Type}:∀{m:List Bool} {l:List α} {x:α},x∈dK m l→x∈l
 |true::m,a::l,x,h=>by
  rcases List.mem_cons.1 (show x∈a::dK m l from h) with rfl|h
  ·exact List.mem_cons_self ..
  ·exact List.mem_cons_of_mem _ (aCW h)
 |false::m,a::l,x,h=>List.mem_cons_of_mem _ (aCW (show x∈dK m l from h))
 | [],_,_,h=>by cases h
 |_::_,[],_,h=>by cases h
theorem Sy.fit{t:List (Nat × Y) × List W}(hS:Sy F β g vs e h sy ws ids s)(hf:fits sy ws t):∃ids s,Sy F β g vs e h t.1 t.2 ids s:=by
 obtain⟨m,h1,h2,h3⟩:=hf;rw[aY,aY]at h1;obtain⟨s2,h4,h5⟩:=vX h1 hS.len hS.r h3;have st2:=hS.st.drop (aFC (m:=m));rw[←h2];exact⟨dK m ids,s2,h4,by rw[rA (by rw[h1,hS.len]),rA h1],fun w hw=>hS.ok w (aCW hw),⟨fun k v hk=>st2.k k v (h5 k v hk),st2.n,st2.bar,st2.o,st2.l,st2.w,st2.ls,st2.ps⟩⟩
theorem aH4(ht:∀p∈tys,F.ti p.1=some p.2)(hlk:Lk g)(hg:β≤g.n)(c:Code):∀{e:Env} {h:H} {sy:List (Nat × Y)} {ws:List W} {ids:List Nat} {s:List (Nat × AV)} {k:Ex→List (Nat × Y)→List W→Prop},Sy F β g vs e h sy ws ids s→vc F tys nt fn c sy ws k→Xw F nt fn c e h fun x e h=>∃sy ws ids s,k x sy ws∧Sy F β g vs e h sy ws ids s:=by
 induction c with
 |skip=>exact fun hS hx=>aJY ⟨_,_,_,_,hx,hS⟩
 |ret=>exact fun hS hx=>aNc ⟨_,_,_,_,hx,hS⟩
 |exit id=>exact fun hS hx=>aJZ ⟨_,_,_,_,hx,hS⟩
 |seq a b iha ihb=>
  intro e h sy ws ids s k hS hx;refine aNd ((iha hS hx).mono fun x e h hq=>?_);obtain⟨sy,ws,ids,s,hk,hS⟩:=hq;cases x with
  |n=>exact ihb hS hk
  |x id=>exact⟨_,_,_,_,hk,hS⟩
  |r=>exact⟨_,_,_,_,hk,hS⟩
 |region id ops dr=>
  intro e h sy ws ids s k hS hx;cases dr with
  |true=>
   obtain⟨p,h1,h2,hx⟩:=aF (show oo (F.pl fn id) fun p=>lG F ops p=true∧vA F tys nt ops.toList p.1 sy ws fun s ws=>vB F tys nt ops.toList p.2 s ws (k .n) from hx);exact aQS hS.st h1 h2 (aB3 ht hlk hS hx fun _ _ _ _ _ _ hS hx=>xD ht hlk hg hS hx fun _ _ _ _ _ _ hS hx=>⟨_,_,_,_,hx,hS⟩)
  |false=>exact aEM (vW ht hlk hg hS (show xC F tys nt ops.toList ops.toList sy ws (k .n) from hx) fun _ _ _ _ _ _ hS hx=>⟨_,_,_,_,hx,hS⟩)
 |cond c a b iha ihb=>
  intro e h sy ws ids s k hS hx;obtain⟨y,h1,hx⟩:=aF (show oo (yv sy c) fun y=>(match y with| .b x=>cb x (vc F tys nt fn a sy ws k) (vc F tys nt fn b sy ws k)| .a (.c false [.b x])=>(x=true→vc F tys nt fn a sy ws k)∧(x=false→vc F tys nt fn b sy ws k)|_=>False) from hx);obtain⟨v,h2,h3⟩:=hS.r.ev h1;split at hx
  ·rename_i x;have h3:v=sc (.b x):=h3;subst h3;cases x with
   |true=>exact vU (bG hS.st.k h2) (fun _=>iha hS hx) fun e=>by cases e
   |false=>exact vU (bG hS.st.k h2) (fun e=>by cases e) fun _=>ihb hS hx
  ·rename_i x;have h3:v=sc (.b x):=h3;subst h3;exact vU (bG hS.st.k h2) (fun e=>iha hS (hx.1 e)) fun e=>ihb hS (hx.2 e)
  ·exact hx.elim
 |block id a iha=>
  intro e h sy ws ids s k hS hx;refine aGG ((iha hS (show vc F tys nt fn a sy ws (fun x s ws=>(match x with| .x j=>cb (Nat.beq id j) (k .n s ws) (k (.x j) s ws)|x=>k x s ws)) from hx)).mono fun x e h hq=>?_);obtain⟨sy,ws,ids,s,hk,hS⟩:=hq;cases x with
  |n=>exact⟨_,_,_,_,hk,hS⟩
  |r=>exact⟨_,_,_,_,hk,hS⟩
  |x j=>
   show cb (Nat.beq id j) _ _;have hk:cb (Nat.beq id j) _ _:=hk;cases hb:Nat.beq id j with
   |true=>rw[hb]at hk;exact⟨_,_,_,_,hk,hS⟩
   |false=>rw[hb]at hk;exact⟨_,_,_,_,hk,hS⟩
 |loop a iha=>
  intro e h sy ws ids s k hS hx;obtain⟨ι,I,m,⟨i,hi⟩,hk⟩:=hx;obtain⟨ids,s,hS⟩:=hS.fit hi;refine aJ0 (fun n e h=>∃i ids s,m i=n∧Sy F β g vs e h (I i).1 (I i).2 ids s) (fun n e h hI=>?_) (m i) e h ⟨i,ids,s,rfl,hS⟩;obtain⟨i,ids,s,rfl,hS⟩:=hI;refine (iha hS (hk i)).mono fun x e h hq=>?_;obtain⟨sy,ws,ids,s,hq,hS⟩:=hq;cases x with
  |n=>
   obtain⟨j,hj,hf⟩:=hq;obtain⟨ids,s,hS⟩:=hS.fit hf;exact⟨m j,hj,j,ids,s,rfl,hS⟩
  |x id=>exact⟨_,_,_,_,hq,hS⟩
  |r=>exact⟨_,_,_,_,hq,hS⟩
 |_=>exact fun _ hx=>hx.elim
theorem aMQ{r:ResultVar}{k:Y→Prop}(ht:∀p∈tys,F.ti p.1=some p.2)(hS:Sy F β g vs e h sy ws ids s)(hx:aIy tys r sy ws k):∃y v,aBh F e h r=fT v∧YR F g vs h (zl ids ws) ws ids y v∧k y:=by
 unfold aIy at hx;split at hx
 ·obtain⟨y,h1,hx⟩:=aF hx;obtain⟨u,h3,h4⟩:=hS.r.lk h1;refine⟨y,u,?_,h4,hx⟩;show ob (e.get _) fT=_;rw[hS.st.k _ _ h3];rfl
 ·obtain⟨i,h1,hx⟩:=tyL'_ok ht hx;obtain⟨y,h2,hx⟩:=aF hx;obtain⟨v,h3,h4⟩:=hS.r.lk h2;split at hx
  ·obtain⟨w,h5,hx⟩:=aF hx;split at hx
   ·obtain⟨l,h6,hx⟩:=aF hx;obtain⟨h7,hx⟩:=cbT hx;obtain⟨id,ha,rfl⟩:=h4;obtain⟨-,-,-,-,-,-,h8⟩:=hS.own ha h5 rfl;refine⟨.a (.c true l),.c true l,?_,rfl,hx⟩;show (ob (F.ti _) fun i=>ob (e.get _) fun v=>one v fun s=>match s with| .p id off=>ob (rd h id off i.sz) fun c=>ob (av i.d.ag c) fT|_=>none)=_;rw[h1,hS.st.k _ _ h3];show (ob (rd h id _ i.sz) fun c=>ob (av i.d.ag c) fT)=_;unfold rd;rw[h8];show (ob (dP i.sz (drp _ _)) fun c=>ob (av i.d.ag c) fT)=_;rw[h6];show ob (av i.d.ag l) fT=_;rw[h7];rfl
   ·exact hx.elim
  ·exact hx.elim
theorem nW(ht:∀p∈tys,F.ti p.1=some p.2)(hS:Sy F β g vs e h sy ws ids s):∀{l:List ResultVar} {k:List Y→Prop},tT tys l sy ws k→∃ys us,All (YR F g vs h (zl ids ws) ws ids) ys us∧k ys∧∀ps,All (fun v p=>fT v=some p) us ps→res F e h l=some ps
 | [],_,hx=>⟨[],[],trivial,hx,fun ps hp=>by cases ps with|nil=>rfl|cons=>exact hp.elim⟩
 |r::l,k,hx=>by
  obtain⟨y,v,h1,h2,hx⟩:=aMQ ht hS hx;obtain⟨ys,us,h3,h4,h5⟩:=nW ht hS hx;refine⟨y::ys,v::us,⟨h2,h3⟩,h4,fun ps hp=>?_⟩
  match ps,hp with
  |p::ps,hp=>
   show ob (aBh F e h r) (fun v=>ob (res F e h l) fun l=>some (v::l))=_;rw[h1,hp.1,h5 ps hp.2];rfl
theorem aFD:∀{ys:List Y} {us:List AV} {ps:List (Bool × List SV)},All (YR F g vs h zs ws ids) ys us→plain ys=some ps→All (fun v p=>fT v=some p) us ps
 | [],[],_,_,hx=>by injection hx with hx;subst hx;trivial
 |y::ys,u::us,ps,hy,hx=>by
  obtain⟨v,h1,hx⟩:=aA.1 (show ob (rl y) (fun v=>ob (fT v) fun p=>ob (plain ys) fun r=>some (p::r))=some ps from hx);obtain⟨p,h2,hx⟩:=aA.1 hx;obtain⟨r,h3,hx⟩:=aA.1 hx;injection hx with hx;subst hx;have:=mV h1 hy.1;subst this;exact⟨h2,aFD hy.2 h3⟩
theorem aHb(hS:Sy F β g vs e h sy ws ids s):∀{l:List R} {ys:List Y} {us:List AV},All (YR F g vs h (zl ids ws) ws ids) ys us→aMM ws l ys→∃ps,All (fun v p=>fT v=some p) us ps∧All (RR F g h) l ps
 | [],[],[],_,_=>⟨[],trivial,trivial⟩
 |r::l,y::ys,u::us,hy,hx=>by
  obtain⟨hx,hz⟩:=hx;obtain⟨ps,h1,h2⟩:=aHb hS hy.2 hz;have hy:=hy.1;have key:∀sv,u=sc sv→(∃ty n L,r=.l ty n L∧gN F ty n L h (fun id=>g.n≤id) (sc sv))→∃ps,All (fun v p=>fT v=some p) (u::us) ps∧All (RR F g h) (r::l) ps:=fun sv hu hr=>by
    subst hu;obtain⟨ty,n,L,rfl,hr⟩:=hr;exact⟨(false,[sv])::ps,⟨rfl,h1⟩,⟨rfl,sv,rfl,hr⟩,h2⟩
  split at hx
  ·obtain⟨v,h3,rfl⟩:=aF hx;have:=mV h3 hy;subst this;exact⟨_::ps,⟨rfl,h1⟩,rfl,h2⟩
  ·split at hx
   ·obtain⟨rfl,rfl,rfl⟩:=hx;have h3:=hy.1.to (P':=fun id=>g.n≤id) (Nat.le_refl _) fun id q1 q2=>⟨rfl,q2.2 rfl⟩
    obtain⟨sv,h4⟩:=h3.sc;exact key _ h4 ⟨_,_,_,rfl,h4▸h3⟩
   ·obtain⟨w,h4,hx⟩:=aF hx;split at hx
    ·obtain⟨rfl,rfl,rfl⟩:=hx;obtain⟨id,n',ha,hu,hc,-,hn⟩:=hy;have:=hn _ _ _ h4;subst this;obtain⟨-,-,-,-,hg,-,-⟩:=hS.own ha h4 rfl;exact key _ hu ⟨_,_,_,rfl,(hS.lst ha h4 hc).to (Nat.le_refl _) fun q _ hq=>⟨rfl,hq▸hg⟩⟩
    ·exact hx.elim
   ·obtain⟨rfl,rfl⟩:=hx;have hy:u=_:=hy;exact key _ hy ⟨_,_,_,rfl,.inl ⟨rfl,rfl,rfl⟩⟩
   ·exact hx.elim
theorem aPr{r:X}{ys:List Y}{us:List AV}(hS:Sy F β g vs e h sy ws ids s)(hy:All (YR F g vs h (zl ids ws) ws ids) ys us)(hx:aIz ws ys r):∃ps,All (fun v p=>fT v=some p) us ps∧XR F g h vs r (tup ps):=by
 cases r with
 |v v=>
  obtain⟨l,h1,h2⟩:=aF (show oo (plain ys) fun l=>tup l=v from hx);exact⟨l,aFD hy h1,h2⟩
 |r l=>
  obtain⟨ps,h1,h2⟩:=aHb hS hy hx;exact⟨ps,h1,ps,h2,rfl⟩
 |cut i m=>
  unfold aIz at hx;split at hx
  ·rename_i hq;cases hq
  ·rename_i hq;cases hq
  ·rename_i hq;cases hq;split at hx
   ·obtain⟨rfl,rfl⟩:=cbE hx
    match us,hy with
    | [u],hy=>
      obtain⟨w,h2,h3⟩:=hy.1.2 _ rfl;obtain⟨sv,rfl⟩:=hy.1.1.sc;exact⟨[(false,[_])],⟨rfl,trivial⟩,w,h2,h3⟩
   ·exact hx.elim
theorem aB4:∀{l:List A} {us:List AV} {k:Nat},All (AR F h) l us→(∀i u,us[i]? =some u→vs[k+i]? =some u)→RS F h vs h [] [] [] (ixY k l) (E.ix k us)
 | [],[],_,_,_=>trivial
 |a::l,u::us,k,ha,hk=>by
  have hr:RS F h vs h [] [] [] (ixY (k+1) l) (E.ix (k+1) us):=aB4 ha.2 fun i u hu=>by
    have:=hk (i+1) u hu
    rwa [show k+(i+1)=k+1+i by omega]at this
  have ha:=ha.1;cases a with
  |v v=>exact⟨rfl,ha,hr⟩
  |l ty n L=>
   refine⟨rfl,⟨gN.to (h:=h) ha (Nat.le_refl _) fun id q _=>⟨rfl,fun _ q=>(by cases q),fun q=>(by cases q)⟩,fun i hi=>?_⟩,hr⟩;cases hi;refine⟨u,hk 0 u rfl,?_⟩;rcases ha with⟨rfl,-⟩|⟨id,cap,c,i,rfl,-⟩|⟨a,cap,i,rfl,-⟩
   ·exact .inl (.inl ⟨rfl,rfl⟩)
   ·exact .inl (.inr ⟨_,_,_,rfl,rfl⟩)
   ·exact .inr ⟨_,_,rfl,rfl⟩
  |ls ty l=>exact⟨rfl,xU.to (h:=h) ha (Nat.le_refl _) fun id q _=>⟨rfl,fun _ q=>(by cases q)⟩,hr⟩
theorem Fx.by_{G:Func}{f:Nat}{cd:Code}{args:List A}{r:X}(tys:List (Nat × TI))(ht:∀p∈tys,F.ti p.1=some p.2)(hG:F.P.funcs[f]? =some G)(hb:G.body=some cd)(hp:F.pr f=none)(hh:F.ph f=none)(hn:Nat.ble args.length G.ntmps=true)(hx:vfn F tys G f cd args r):Fx F f args r:=fun h vs hbar hlk ha=>by
 have hlen:=aCV ha;obtain⟨e0,h1,-,h2⟩:=aCI (nt:=G.ntmps) (l:=vs) (k:=0) (e:=fill G.ntmps 0 .lf) (by have:=dL.1 hn;omega);refine aNi hG hb hp hh h1 (s:=E.ix 0 vs) (ls:=[]) h2 aQT fun β e eβ hS=>?_;subst eβ;refine (aH4 ht hlk hbar cd (ids:=[]) (ws:=[]) (vs:=vs) ⟨aB4 ha fun i u hu=>by rwa [Nat.zero_add],rfl,fun _ h=>(by cases h),hS⟩ hx).mono fun x e h' hq=>?_;obtain⟨sy,ws,ids,s,hk,hS⟩:=hq;have fin:∀x:Ex,(∀id,x≠.x id)→tT tys G.results.toList sy ws (fun l=>aIz ws l r)→∃v,leave F G ⟨x,e,h'⟩=some (v,h')∧Xh h h'∧XR F h h' vs r v:=fun x hne hk=>by
  obtain⟨ys,us,h3,h4,h5⟩:=nW ht hS hk;obtain⟨ps,h6,h7⟩:=aPr hS h3 h4;refine⟨tup ps,?_,hS.st.out,h7⟩;have e1:(ob (res F e h' G.results.toList) fun l=>some (tup l,h'))=some (tup ps,h'):=(by rw[h5 ps h6];rfl);cases x with
  |x id=>exact absurd rfl (hne id)
  |n=>exact e1
  |r=>exact e1
 cases x with
 |x id=>exact hk.elim
 |n=>exact fin _ (fun _ q=>by cases q) hk
 |r=>exact fin _ (fun _ q=>by cases q) hk
theorem aNC:∀{l:List AV} {vs:List AV},All (AR F h) (l.map .v) vs→vs=l
 | [],[],_=>rfl
 |x::l,v::vs,ha=>by rw[aNC (l:=l) ha.2,show v=x from ha.1]
theorem v_all:∀l:List AV,All (AR F h) (l.map .v) l
 | []=>trivial
 |_::l=>⟨rfl,v_all l⟩
theorem Fx.pr{f:Nat}{G:Func}{cd:Code}{gg:List AV→Option AV}{args:List AV}{v:AV}(hG:F.P.funcs[f]? =some G)(hb:G.body=some cd)(hp:F.pr f=some gg)(hg:gg args=some v):Fx F f (args.map .v) (.v v):=fun h vs _ _ ha=>by
 have:=aNC ha;subst this;exact aNh hG hb hp hg ⟨Xh.refl _,rfl⟩
end
end Go.Proofs.YtpobejcofijjdaaGreatDoor.J
namespace Go.Proofs.YtpobejcofijjdaaGreatDoor.E
open Go Go.RowKit
open Ma Me K
theorem Fc.x{F:Cf}{f:Nat}{args:List AV}{v:AV}(hf:Fc F f args v):J.Fx F f (args.map .v) (.v v):=fun h vs hb _ ha=>by
 have:=J.aNC ha;subst this;exact (hf h hb).mono fun u h' hq=>⟨hq.2,hq.1⟩
end Go.Proofs.YtpobejcofijjdaaGreatDoor.E
namespace Go.Proofs.YtpobejcofijjdaaGreatDoor.J
open Go Go.RowKit
open Ma Me K E
def tR:List (Nat × TI):=[(3,⟨.int .i64,1,8,[.i .i64 0]⟩),(2,⟨.int .i64,1,8,[.i .i64 0]⟩),(4,⟨.bool,1,1,[.b false]⟩),(37,⟨.sl 2,1,24,[.r 0]⟩),(39,⟨.st [(0,3),(1,37),(2,37)],3,56,[.i .i64 0,.r 0,.r 0]⟩),(41,⟨.st [(0,39),(3,39)],6,112,[.i .i64 0,.r 0,.r 0,.i .i64 0,.r 0,.r 0]⟩),(28,⟨.sl 39,1,24,[.ns]⟩),(9,⟨.str,1,16,[.s []]⟩)]
theorem nD:∀p∈tR,FR.ti p.1=some p.2:=fun p hp=>by
 unfold tR at hp;simp only[List.mem_cons,List.not_mem_nil,or_false]at hp;rcases hp with rfl|rfl|rfl|rfl|rfl|rfl|rfl|rfl<;>kernel_rfl
def rsp(p q:Rat):AV:=.c true (encR p++encR q)
section
variable {a b:Nat} {p q r t:Rat}
theorem jU(h:cR a b):Fc FR 112 [rn a,rn b] (rn (a*b)):=.pr Tryz.func112 rfl (by kernel_rfl:FR.pr 112=some (q2 cR fun a b=>rn (a*b))) (if_pos h)
theorem zU(h:cR a b):Fc FR 113 [rn a,rn b] (rn (a+b)):=.pr Tryz.func113 rfl (by kernel_rfl:FR.pr 113=some (q2 cR fun a b=>rn (a+b))) (if_pos h)
theorem rC(h:cR a b)(h2:b≤a):Fc FR 115 [rn a,rn b] (rn (a-b)):=.pr Tryz.func115 rfl (by kernel_rfl:FR.pr 115=some (q2 (fun a b=>cR a b∧b≤a) fun a b=>rn (a-b))) (if_pos ⟨h,h2⟩)
theorem aAO(h:cR a b):Fc FR 114 [rn a,rn b] (sc (.i .i64 (cmp a b))):=.pr Tryz.func114 rfl (by kernel_rfl:FR.pr 114=some (q2 cR fun a b=>sc (.i .i64 (cmp a b)))) (if_pos h)
theorem aAP{n:Nat}(h:n≤9223372036854775807):Fc FR 117 [sc (.i .i64 (n:Int))] (rn n):=.pr Tryz.func117 rfl (by kernel_rfl:FR.pr 117=some aFt) (if_pos ⟨by omega,by omega⟩)
theorem aDr(h:dg B30 a+1≤LIM):Fc FR 118 [rn a] (ss (dec a)):=.pr Tryz.func118 rfl (by kernel_rfl:FR.pr 118=some (q1 (fun n=>dg B30 n+1≤LIM) fun n=>ss (dec n))) (if_pos h)
theorem sn1(p:Rat):sn p=-1∨sn p=0∨sn p=1:=by rcases dG p with⟨-,h⟩|⟨-,h⟩|⟨-,h⟩<;>rw[h]<;>decide
theorem aCm(p:Rat):p*(p.den:Rat)=(sn p:Rat)*(p.num.natAbs:Rat):=by
 have h1:((p.num:Int):Rat)=(sn p:Rat)*(p.num.natAbs:Rat):=by
  rw[rH];have:=Int.sign_mul_natAbs p.num;exact (congrArg (fun z:Int=>(z:Rat)) this.symm).trans (by push_cast;rfl)
 rw[←h1];exact (nH p).symm
theorem lF(p:Rat):1≤dg W64 p.den:=Nat.pos_of_ne_zero fun e=>absurd (bK aC e) (Nat.ne_of_gt p.den_pos)
theorem rd_d(h:p≠0):rd_ p=p.den:=if_neg h
theorem fD(h:cmp a b<0):a≤b:=by unfold cmp at h;split at h<;>omega
theorem wF(h:¬cmp a b<0):b≤a:=by unfold cmp at h;split at h<;>omega
structure AddF (p q:Rat) (A B D:Nat):Prop where
 d:0<D
 hp:p*(D:Rat)=(sn p:Rat)*(A:Rat)
 hq:q*(D:Rat)=(sn q:Rat)*(B:Rat)
 c:cR A B
 c2:cR B A
 cs:cR (A+B) D
 cm:cR (A-B) D
 cm2:cR (B-A) D
theorem AddF.same{A B D:Nat}(h:AddF p q A B D)(e:sn p=sn q):(p+q)*(D:Rat)=(sn p:Rat)*((A+B:Nat):Rat):=by
 rw[Rat.add_mul,h.hp,h.hq,←e];push_cast;grind
theorem aKZ(h1:p≠0)(h2:q≠0)(e:¬sn p=sn q):sn q=-sn p:=by
 rcases dG p with⟨-,h⟩|⟨h,-⟩|⟨-,h⟩<;>rcases dG q with⟨-,k⟩|⟨k,-⟩|⟨-,k⟩<;>first|exact absurd h h1|exact absurd k h2|(rw[h,k]at e;exact absurd rfl e)|(rw[h,k];done)|(rw[h,k];decide)
theorem AddF.more{A B D:Nat}(h:AddF p q A B D)(h1:p≠0)(h2:q≠0)(e:¬sn p=sn q)(l:B≤A):(p+q)*(D:Rat)=(sn p:Rat)*((A-B:Nat):Rat):=by
 obtain⟨C,rfl⟩:∃C,A=C+B:=⟨A-B,by omega⟩
 rw[Rat.add_mul,h.hp,h.hq,aKZ h1 h2 e,Nat.add_sub_cancel];push_cast;grind
theorem AddF.less{A B D:Nat}(h:AddF p q A B D)(h1:p≠0)(h2:q≠0)(e:¬sn p=sn q)(l:A≤B):(p+q)*(D:Rat)=(sn q:Rat)*((B-A:Nat):Rat):=by
 obtain⟨C,rfl⟩:∃C,B=C+A:=⟨B-A,by omega⟩
 rw[Rat.add_mul,h.hp,h.hq,aKZ h1 h2 e,Nat.add_sub_cancel];push_cast;grind
theorem aRO{A B D N:Nat}(h1:p*(D:Rat)=(sn p:Rat)*(A:Rat))(h2:q*(D:Rat)=(sn q:Rat)*(B:Rat))(hd:0<D)(hA:dg B30 A≤N)(hB:dg B30 B≤N)(hD:dg B30 D≤N)(hN:100*N+300≤LIM):AddF p q A B D:=by
 have s1:=rD aK A B;have s2:=dI aK (Nat.sub_le A B);have s3:=dI aK (Nat.sub_le B A);exact⟨hd,h1,h2,by unfold cR;omega,by unfold cR;omega,by unfold cR;omega,by unfold cR;omega,by unfold cR;omega⟩
theorem k_Sign:Fx FR 46 [.v (rm p)] (.v (sc (.i .i64 (sn p)))):=Fx.by_ tR nD Tryz.func46 rfl (by kernel_rfl) (by kernel_rfl) rfl rfl
theorem k_Mul(hB:200*(Ma.sz p+Ma.sz q)+1000≤LIM):Fx FR 53 [.v (rm p),.v (rm q)] (.v (rm (p*q))):=by
 have d1:=nC p.num.natAbs;have d2:=nC p.den;have d3:=nC q.num.natAbs;have d4:=nC q.den;have e1:=fF p;have e2:=fF q;have m1:=bQ aK p.num.natAbs q.num.natAbs;have m2:=bQ aK p.den q.den;refine Fx.by_ tR nD Tryz.func53 rfl (by kernel_rfl) (by kernel_rfl) rfl ⟨_,aCe (aAF _) (aAF _),dt (fun h=>?_) fun h=>?_⟩
 ·exact rm0.trans (congrArg rm (bI.1 ((aI9 p q).trans h)).symm)
 ·have hp:p≠0:=fun e=>h (by rw[bI.2 e,Int.zero_mul]);have hq:q≠0:=fun e=>h (by rw[bI.2 e,Int.mul_zero]);exact⟨by kernel_rfl,_,aCe (aAF _) (aAF _),_,(jU (by unfold cR;omega)).x,_,(jU (by rw[rd_d hp,rd_d hq];unfold cR;omega)).x,_,(jG (q:=p*q) (fun _=>by rw[rd_d hp,rd_d hq];exact Nat.mul_pos p.den_pos q.den_pos) (by rw[←aI9];exact sn1 _) (by
   rw[rd_d hp,rd_d hq];have h1:=aCm p;have h2:=aCm q
   push_cast
   grind) (fun e=>absurd e (by rw[rd_d hp,rd_d hq];exact Nat.ne_of_gt (Nat.mul_pos p.den_pos q.den_pos))) (by rw[rd_d hp,rd_d hq];unfold cR;omega)).x,rfl⟩
theorem k_Add(hB:400*(Ma.sz p+Ma.sz q)+1000≤LIM):Fx FR 49 [.v (rm p),.v (rm q)] (.v (rm (p+q))):=by
 have d1:=nC p.num.natAbs;have d2:=nC p.den;have d3:=nC q.num.natAbs;have d4:=nC q.den;have e1:=fF p;have e2:=fF q;have m1:=bQ aK p.num.natAbs q.den;have m2:=bQ aK q.num.natAbs p.den;have m3:=bQ aK p.den q.den;refine Fx.by_ tR nD Tryz.func49 rfl (by kernel_rfl) (by kernel_rfl) rfl (dt (fun h=>congrArg rm (show q=p+q by rw[bI.1 h,Rat.zero_add])) fun h1=>dt (fun h=>congrArg rm (show p=p+q by rw[bI.1 h,Rat.add_zero])) fun h2=>?_);have h1:p≠0:=fun e=>h1 (bI.2 e);have h2:q≠0:=fun e=>h2 (bI.2 e);have s1:=aCm p;have s2:=aCm q;have F1:AddF p q (p.num.natAbs*rd_ q) (q.num.natAbs*rd_ p) (rd_ p*rd_ q):=by
  rw[rd_d h1,rd_d h2];exact aRO (N:=3*(Ma.sz p+Ma.sz q)) (by push_cast;grind) (by push_cast;grind) (Nat.mul_pos p.den_pos q.den_pos) (by omega) (by omega) (by omega) (by omega)
 have F2:rd_ p=1→rd_ q=1→AddF p q p.num.natAbs q.num.natAbs (rd_ p):=fun x y=>by
  rw[rd_d h1]at x⊢;rw[rd_d h2]at y;rw[y]at s2;rw[x]at s1⊢;exact aRO (N:=3*(Ma.sz p+Ma.sz q)) s1 s2 Nat.zero_lt_one (by omega) (by omega) (by have e9:dg B30 1≤1:=(by decide+kernel);have:=lF p;omega) (by omega)
 have c1:cR (p.num.natAbs) (rd_ q):=by rw[rd_d h2];unfold cR;omega
 have c2:cR (q.num.natAbs) (rd_ p):=by rw[rd_d h1];unfold cR;omega
 have c3:cR (rd_ p) (rd_ q):=by rw[rd_d h1,rd_d h2];unfold cR;omega
 refine⟨by kernel_rfl,_,uH.x,dn (fun _=>⟨by kernel_rfl,_,(jU c1).x,_,(jU c2).x,_,(jU c3).x,?_⟩) fun x=>⟨_,uH.x,dn (fun _=>⟨by kernel_rfl,_,(jU c1).x,_,(jU c2).x,_,(jU c3).x,?_⟩) fun y=>?_⟩⟩
 ·exact dt (fun e=>⟨by kernel_rfl,_,(zU F1.c).x,_,(jG (q:=p+q) (fun _=>F1.d) (sn1 p) (F1.same e) (fun h=>absurd h (Nat.ne_of_gt F1.d)) F1.cs).x,rfl⟩) fun e=>⟨_,(aAO F1.c).x,dt (fun l=>⟨by kernel_rfl,_,(rC F1.c2 (fD l)).x,_,(jG (q:=p+q) (fun _=>F1.d) (sn1 q) (F1.less h1 h2 e (fD l)) (fun h=>absurd h (Nat.ne_of_gt F1.d)) F1.cm2).x,rfl⟩) fun l=>⟨by kernel_rfl,_,(rC F1.c (wF l)).x,_,(jG (q:=p+q) (fun _=>F1.d) (sn1 p) (F1.more h1 h2 e (wF l)) (fun h=>absurd h (Nat.ne_of_gt F1.d)) F1.cm).x,rfl⟩⟩
 ·exact dt (fun e=>⟨by kernel_rfl,_,(zU F1.c).x,_,(jG (q:=p+q) (fun _=>F1.d) (sn1 p) (F1.same e) (fun h=>absurd h (Nat.ne_of_gt F1.d)) F1.cs).x,rfl⟩) fun e=>⟨_,(aAO F1.c).x,dt (fun l=>⟨by kernel_rfl,_,(rC F1.c2 (fD l)).x,_,(jG (q:=p+q) (fun _=>F1.d) (sn1 q) (F1.less h1 h2 e (fD l)) (fun h=>absurd h (Nat.ne_of_gt F1.d)) F1.cm2).x,rfl⟩) fun l=>⟨by kernel_rfl,_,(rC F1.c (wF l)).x,_,(jG (q:=p+q) (fun _=>F1.d) (sn1 p) (F1.more h1 h2 e (wF l)) (fun h=>absurd h (Nat.ne_of_gt F1.d)) F1.cm).x,rfl⟩⟩
 ·exact dt (fun e=>⟨by kernel_rfl,_,(zU (F2 x y).c).x,_,(jG (q:=p+q) (fun _=>(F2 x y).d) (sn1 p) ((F2 x y).same e) (fun h=>absurd h (Nat.ne_of_gt (F2 x y).d)) (F2 x y).cs).x,rfl⟩) fun e=>⟨_,(aAO (F2 x y).c).x,dt (fun l=>⟨by kernel_rfl,_,(rC (F2 x y).c2 (fD l)).x,_,(jG (q:=p+q) (fun _=>(F2 x y).d) (sn1 q) ((F2 x y).less h1 h2 e (fD l)) (fun h=>absurd h (Nat.ne_of_gt (F2 x y).d)) (F2 x y).cm2).x,rfl⟩) fun l=>⟨by kernel_rfl,_,(rC (F2 x y).c (wF l)).x,_,(jG (q:=p+q) (fun _=>(F2 x y).d) (sn1 p) ((F2 x y).more h1 h2 e (wF l)) (fun h=>absurd h (Nat.ne_of_gt (F2 x y).d)) (F2 x y).cm).x,rfl⟩⟩
theorem aND(hB:400*(Ma.sz p+Ma.sz q)+1000≤LIM):Fx FR 216 [.v (rm p),.v (rm q)] (.v (sc (.i .i64 (rc p q)))):=by
 have d1:=nC p.num.natAbs;have d2:=nC p.den;have d3:=nC q.num.natAbs;have d4:=nC q.den;have e1:=fF p;have e2:=fF q;have m1:=bQ aK p.num.natAbs q.den;have m2:=bQ aK q.num.natAbs p.den;refine Fx.by_ tR nD Tryz.func216 rfl (by kernel_rfl) (by kernel_rfl) rfl (dt (fun h=>congrArg (fun n=>sc (.i .i64 n)) (xN.1 h).symm) fun h1=>dt (fun h=>congrArg (fun n=>sc (.i .i64 n)) (xN.2 h).symm) fun h2=>dt (fun h=>?_) fun h=>?_)
 ·have h3:sn p=sn q:=(by omega);exact congrArg (fun n=>sc (.i .i64 n)) (show (0:Int)=rc p q by rw[aBc h3,h,Int.zero_mul])
 ·have h3:sn p=sn q:=(by omega);have hp:p≠0:=fun e=>h (bI.2 e);have hq:q≠0:=fun e=>h (h3.trans (bI.2 e));exact⟨by kernel_rfl,_,(jU (by rw[rd_d hq];unfold cR;omega)).x,_,(jU (by rw[rd_d hp];unfold cR;omega)).x,_,(aAO (by rw[rd_d hp,rd_d hq];unfold cR;omega)).x,_,aCe (aAF _) (aKp _ _),congrArg (fun n=>sc (.i .i64 n)) (show sn p*cmp (p.num.natAbs*rd_ q) (q.num.natAbs*rd_ p)=rc p q by rw[rd_d hp,rd_d hq,aBc h3])⟩
theorem aNE(hB:400*(Ma.sz p+Ma.sz q)+1000≤LIM):Fx FR 179 [.v (rm p),.v (rm q)] (.v (rm (aL p q))):=
 Fx.by_ tR nD Tryz.func179 rfl (by kernel_rfl) (by kernel_rfl) rfl ⟨_,aND hB,dt (fun h=>congrArg rm (show p=aL p q from (if_pos ((oL p q).1 h)).symm)) fun h=>congrArg rm (show q=aL p q from (if_neg fun x=>h ((oL p q).2 x)).symm)⟩
theorem aNF(hB:400*(Ma.sz p+Ma.sz q)+1000≤LIM):Fx FR 180 [.v (rm p),.v (rm q)] (.v (rm (aJ p q))):=
 Fx.by_ tR nD Tryz.func180 rfl (by kernel_rfl) (by kernel_rfl) rfl ⟨_,aND hB,dt (fun h=>congrArg rm (show p=aJ p q from (if_pos ((aBD p q).1 h)).symm)) fun h=>congrArg rm (show q=aJ p q from (if_neg fun x=>h ((aBD p q).2 x)).symm)⟩
theorem k_Point:Fx FR 58 [.v (rm p)] (.v (rsp p p)):=Fx.by_ tR nD Tryz.func58 rfl (by kernel_rfl) (by kernel_rfl) rfl rfl
theorem aK0(hB:400*(Ma.sz p+Ma.sz q)+1000≤LIM):Fx FR 121 [.v (rsp p q)] (.v (rsp (aL p q) (aJ p q))):=
 Fx.by_ tR nD Tryz.func121 rfl (by kernel_rfl) (by kernel_rfl) rfl ⟨by kernel_rfl,_,aNE hB,_,aNF hB,rfl⟩
theorem k_SpanAdd(hB:Ma.sz p+Ma.sz q+Ma.sz r+Ma.sz t≤10000000):Fx FR 59 [.v (rsp p q),.v (rsp r t)] (.v (rsp (aL p q+aL r t) (aJ p q+aJ r t))):=by
 have e1:=jE p q;have e2:=iK p q;have e3:=jE r t;have e4:=iK r t;have L:=aB;exact Fx.by_ tR nD Tryz.func59 rfl (by kernel_rfl) (by kernel_rfl) rfl ⟨by kernel_rfl,_,aK0 (p:=p) (q:=q) (by omega),_,aK0 (p:=r) (q:=t) (by omega),by kernel_rfl,_,k_Add (p:=aL p q) (q:=aL r t) (by omega),_,k_Add (p:=aJ p q) (q:=aJ r t) (by omega),rfl⟩
theorem aK1(hB:Ma.sz p+Ma.sz q+Ma.sz r+Ma.sz t≤10000000)(hh:∀a b c d:Rat,Ma.sz a+Ma.sz b+Ma.sz c+Ma.sz d≤100000000→Fx FR 122 [.l 39 4 [encR a,encR b,encR c,encR d]] (.v (rsp (aL (aL (aL a b) c) d) (aJ (aJ (aJ a b) c) d)))):Fx FR 60 [.v (rsp p q),.v (rsp r t)] (.v (rsp (cZ p q r t) (dC p q r t))):=by
 have L:=aB;have m1:=fJ p r;have m2:=fJ p t;have m3:=fJ q r;have m4:=fJ q t;exact Fx.by_ tR nD Tryz.func60 rfl (by kernel_rfl) (by kernel_rfl) rfl ⟨by kernel_rfl,_,k_Mul (p:=p) (q:=r) (by omega),_,k_Mul (p:=p) (q:=t) (by omega),_,k_Mul (p:=q) (q:=r) (by omega),_,k_Mul (p:=q) (q:=t) (by omega),_,hh _ _ _ _ (by omega),rfl⟩
end
end Go.Proofs.YtpobejcofijjdaaGreatDoor.J
namespace Go.Proofs.YtpobejcofijjdaaGreatDoor.J
open Go Go.RowKit
open Ma Me K E
section
variable {a b:Nat} {p q r t:Rat}
theorem aIB{n m:Nat}(hn:n≤1000000)(hm:m≤1000000):cR n m:=by
 have h1:=dI aK hn;have h2:=dI aK hm;have h3:dg B30 1000000≤1:=by decide+kernel
 have L:=aB;unfold cR;omega
theorem k_Int{n:Nat}(h:n≤1000000):Fx FR 52 [.v (sc (.i .i64 (n:Int)))] (.v (rm (((n:Nat):Int):Rat))):=
 Fx.by_ tR nD Tryz.func52 rfl (by kernel_rfl) (by kernel_rfl) rfl (dt (fun h=>absurd h (by omega)) fun _=>⟨_,(aAP (n:=n) (by omega)).x,_,aIv.x,_,(jG (q:=(((n:Nat):Int):Rat)) (s:=1) (M:=n) (N:=1) (fun _=>Nat.zero_lt_one) (by decide) (by push_cast;grind) (fun e=>absurd e (by decide)) (aIB h (by decide))).x,rfl⟩)
theorem k_IntM:Fx FR 52 [.v (sc (.i .i64 (-1)))] (.v (rm (-1))):=
 Fx.by_ tR nD Tryz.func52 rfl (by kernel_rfl) (by kernel_rfl) rfl (dt (fun _=>⟨.i .i64 0,by kernel_rfl,⟨by decide,by decide⟩,_,(aAP (n:=0) (by decide)).x,⟨by decide,by decide⟩,_,(aAP (n:=0) (by decide)).x,_,(zU (a:=0) (b:=0) (aIB (by decide) (by decide))).x,.i .i64 0,by kernel_rfl,⟨by decide,by decide⟩,⟨by decide,by decide⟩,_,(aAP (n:=1) (by decide)).x,_,(zU (a:=0) (b:=1) (aIB (by decide) (by decide))).x,_,aIv.x,_,(jG (q:=(-1:Rat)) (s:=-1) (M:=1) (N:=1) (fun _=>Nat.zero_lt_one) (by decide) (by decide+kernel) (fun e=>absurd e (by decide)) (aIB (by decide) (by decide))).x,rfl⟩) fun h=>absurd (by decide) h)
theorem aTa:sn q<0↔q.num<0:=by
 rw[bL];rcases dG q with⟨h,k⟩|⟨h,k⟩|⟨h,k⟩<;>rw[k]
 ·exact⟨fun _=>h,fun _=>by decide⟩
 ·exact⟨fun e=>absurd e (by decide),fun e=>by rw[h]at e;exact absurd e (by decide)⟩
 ·exact⟨fun e=>absurd e (by decide),fun e=>absurd h (Rat.not_lt.2 (Rat.le_of_lt e))⟩
theorem aCn{dd:Dk}{l m:List UInt8}(h:l.length+m.length<9223372036854775808):bop dd .add (.s (un8 l)) (.s (un8 m))=some (SV.s (un8 (l++m))):=by
 show cb (Nat.blt (Nat.add (len (un8 l)) (len (un8 m))) 9223372036854775808) (some (SV.s (app (un8 l) (un8 m)))) none=_;rw[aY,aY,mH,mH,aZ.2 (show Nat.add l.length m.length<9223372036854775808 from h),jQ];show some (SV.s (un8 l++un8 m))=_;unfold un8;rw[List.map_append]
theorem k_Text(hB:Ma.sz q≤1000000000):Fx FR 54 [.v (rm q)] (.v (ss (gF q))):=by
 have L:=aB;have e1:=fF q;have d1:=nC q.num.natAbs;have d2:=nC q.den;have l1:=xI (N:=q.num.natAbs);have l2:=xI (N:=rd_ q);have hr:dg W64 (rd_ q)≤1000000000∧dg B30 (rd_ q)≤3000000000:=by
  unfold rd_;split
  ·have:=aX W64;have:=aX B30;omega
  ·omega
 have hs:(sn q<0)=(q.num<0):=propext aTa;have k1:=aDr (a:=q.num.natAbs) (by omega);have k2:=aDr (a:=rd_ q) (by omega);have T1:∀h:rd_ q=1,(if q.den=1 then [] else 47::dec q.den)=([]:List UInt8):=fun h=>if_pos (by by_cases hq:q=0;rw[hq];rfl;rw[←rd_d hq];exact h);have T0:q=0→(if q.den=1 then [] else 47::dec q.den)=([]:List UInt8):=fun h=>by rw[h];rfl
 have T2:∀(h0:q≠0) (h:¬rd_ q=1),(if q.den=1 then [] else 47::dec q.den)=47::dec (rd_ q):=fun h0 h=>by rw[rd_d h0]at h⊢;exact if_neg h
 have fin:∀s:List UInt8,(if q.num<0 then [45] else [])++dec q.num.natAbs=s→∀e,(if q.den=1 then [] else 47::dec q.den)=e→sc (.s (un8 (s++e)))=ss (gF q):=fun s h1 e h2=>by
  unfold gF;rw[h1,h2];rfl
 refine Fx.by_ tR nD Tryz.func54 rfl (by kernel_rfl) (by kernel_rfl) rfl ⟨_,k1.x,dt (fun h=>⟨_,aCn (l:=[45]) (m:=dec q.num.natAbs) (by simp;omega),?_⟩) fun h=>?_⟩
 ·have hn:(if q.num<0 then [45] else [])++dec q.num.natAbs=45::dec q.num.natAbs:=(by rw[if_pos (hs▸h)];rfl);exact dt (fun h1=>⟨_,uH.x,dn (fun h2=>⟨_,aCn (l:=45::dec q.num.natAbs) (m:=[47]) (by simp;omega),_,k2.x,_,aCn (l:=(45::dec q.num.natAbs)++[47]) (m:=dec (rd_ q)) (by simp;omega),by rw[List.append_assoc];exact fin _ hn _ (T2 (fun e=>h1 (bI.2 e)) h2)⟩) fun h2=>by have:=fin _ hn _ (T1 h2);rwa [List.append_nil]at this⟩) fun h1=>by have:=fin _ hn _ (T0 (bI.1 (Classical.not_not.1 h1)));rwa [List.append_nil]at this
 ·have hn:(if q.num<0 then [45] else [])++dec q.num.natAbs=dec q.num.natAbs:=(by rw[if_neg (hs▸h)];rfl);exact dt (fun h1=>⟨_,uH.x,dn (fun h2=>⟨_,aCn (l:=dec q.num.natAbs) (m:=[47]) (by simp;omega),_,k2.x,_,aCn (l:=(dec q.num.natAbs)++[47]) (m:=dec (rd_ q)) (by simp;omega),by rw[List.append_assoc];exact fin _ hn _ (T2 (fun e=>h1 (bI.2 e)) h2)⟩) fun h2=>by have:=fin _ hn _ (T1 h2);rwa [List.append_nil]at this⟩) fun h1=>by have:=fin _ hn _ (T0 (bI.1 (Classical.not_not.1 h1)));rwa [List.append_nil]at this
theorem cW2{a b c d:Rat}{z:B}(h1:a=c)(h2:b=d):[W.c ⟨41,encR a++encR b⟩,W.c z]=[W.c ⟨41,encR c++encR d⟩,W.c z]:=by rw[h1,h2]
theorem aPs{n:Nat}{L:List (List SV)}{x lo hi:Nat→Rat}(hn:0<n)(hn2:n<1000000)(hL:∀i,i<n→L[i]? =some (encR (x i)))(h0:lo 1=x 0)(h1:hi 1=x 0)(hlo:∀i,0<i→i<n→lo (i+1)=aL (lo i) (x i))(hhi:∀i,0<i→i<n→hi (i+1)=aJ (hi i) (x i))(hB:∀i,0<i→i<n→Ma.sz (lo i)+Ma.sz (hi i)+Ma.sz (x i)≤1000000000):Fx FR 122 [.l 39 n L] (.v (rsp (lo n) (hi n))):=by
 have LL:=aB;refine Fx.by_ tR nD Tryz.func122 rfl (by kernel_rfl) (by kernel_rfl) rfl ⟨by kernel_rfl,0,rfl,_,hL 0 hn,0,rfl,_,hL 0 hn,{i:Nat // 1≤i∧i≤n},fun i=>([(0,.l 39 (.ar 0) n L),(2,.p 0 0),(3,.p 1 0),(4,.a (sc (.i .i64 (i.1:Int))))],[.c ⟨41,encR (lo i.1)++encR (hi i.1)⟩,.c ⟨41,[.i .i64 0,.r 0,.r 0,.i .i64 0,.r 0,.r 0]⟩]),fun i=>n-i.1,⟨⟨1,Nat.le_refl _,hn⟩,[true,true],rfl,cW2 (a:=x 0) (b:=x 0) h0.symm h1.symm,rfl,rfl,rfl,rfl,trivial⟩,fun i=>?_⟩;obtain⟨i,hi1,hi2⟩:=i;refine dt (fun h=>?_) fun h=>?_
 ·have hlt:i<n:=(by have h:(i:Int)<(n:Int):=h;omega);have hb:=hB i hi1 hlt;exact⟨by kernel_rfl,i,rfl,_,hL i hlt,i,rfl,_,hL i hlt,_,aNE (p:=lo i) (q:=x i) (by omega),_,aNF (p:=hi i) (q:=x i) (by omega),⟨by omega,by omega⟩,⟨i+1,by omega,hlt⟩,(show n-(i+1)<n-i by omega),[true,true],rfl,cW2 (a:=aL (lo i) (x i)) (b:=aJ (hi i) (x i)) (hlo i hi1 hlt).symm (hhi i hi1 hlt).symm,rfl,rfl,rfl,rfl,trivial⟩
 ·have h:¬(i:Int)<(n:Int):=h;obtain rfl:i=n:=(by omega);rfl
def p4(a b c d:Rat):Nat→Rat
 |0=>a
 |1=>b
 |2=>c
 |_=>d
def m4(m:Rat→Rat→Rat)(a b c d:Rat):Nat→Rat
 |0=>a
 |1=>a
 |2=>m a b
 |3=>m (m a b) c
 |_=>m (m (m a b) c) d
theorem aRP{a b c d:Rat}(hB:Ma.sz a+Ma.sz b+Ma.sz c+Ma.sz d≤100000000):Fx FR 122 [.l 39 4 [encR a,encR b,encR c,encR d]] (.v (rsp (aL (aL (aL a b) c) d) (aJ (aJ (aJ a b) c) d))):=by
 have e1:=jE a b;have e2:=iK a b;have e3:=jE (aL a b) c;have e4:=iK (aJ a b) c;have c3:∀{P:Nat→Prop},P 1→P 2→P 3→∀i,0<i→i<4→P i:=fun h1 h2 h3 i hi hj=>by
  rcases (show i=1∨i=2∨i=3 by omega) with rfl|rfl|rfl<;>assumption
 exact aPs (n:=4) (x:=p4 a b c d) (lo:=m4 aL a b c d) (hi:=m4 aJ a b c d) (by decide) (by decide) (fun i hi=>by
  rcases (show i=0∨i=1∨i=2∨i=3 by omega) with rfl|rfl|rfl|rfl<;>rfl) rfl rfl (c3 rfl rfl rfl) (c3 rfl rfl rfl) (c3 (show Ma.sz a+Ma.sz a+Ma.sz b≤_ by omega) (show Ma.sz (aL a b)+Ma.sz (aJ a b)+Ma.sz c≤_ by omega) (show Ma.sz (aL (aL a b) c)+Ma.sz (aJ (aJ a b) c)+Ma.sz d≤_ by omega))
theorem k_SpanMul'(hB:Ma.sz p+Ma.sz q+Ma.sz r+Ma.sz t≤10000000):Fx FR 60 [.v (rsp p q),.v (rsp r t)] (.v (rsp (cZ p q r t) (dC p q r t))):=aK1 hB fun _ _ _ _ h=>aRP h
end
end Go.Proofs.YtpobejcofijjdaaGreatDoor.J
namespace Go.Proofs.YtpobejcofijjdaaGreatDoor.E
open Go Go.RowKit
open Ma Me K
noncomputable section
def aI:Nat:=1000000000
def aQ:Nat:=2000000
theorem aRQ{a b:Nat}(ha:0<a)(hb:0<b)(h:bt a=bt b):a=b:=by
 unfold bt at h;split at h<;>split at h<;>omega
theorem aBu{p q:Rat}(h:aO p=aO q):p=q:=by
 unfold aO at h;injection h with h1 h;injection h with h2 h;injection h with h3 _;injection h1 with h1;injection h2 with h2;injection h3 with h3;refine Rat.ext ?_ (aRQ p.den_pos q.den_pos h3);have h1:=decide_eq_decide.1 h1;omega
theorem aK2{p q r t:Rat}(h:aO p++aO q=aO r++aO t):p=r∧q=t:=by
 obtain⟨h1,h2⟩:=List.append_inj h rfl;exact⟨aBu h1,aBu h2⟩
open Classical in
def nE{α:Type}(v:AV)(k:Rat→Option α):Option α:=if h:∃q,v=nm q∧Ma.sz q≤aI then k (Classical.choose h) else none
open Classical in
def sS{α:Type}(v:AV)(k:Rat→Rat→Option α):Option α:=if h:∃p:Rat × Rat,v=sp p.1 p.2∧Ma.sz p.1≤aQ∧Ma.sz p.2≤aQ then k (Classical.choose h).1 (Classical.choose h).2 else none
theorem aCX{α:Type}{q:Rat}{k:Rat→Option α}(hs:Ma.sz q≤aI):nE (nm q) k=k q:=by
 have h:∃p,nm q=nm p∧Ma.sz p≤aI:=⟨q,rfl,hs⟩
 unfold nE;rw[dif_pos h];have h1:=(Classical.choose_spec h).1;unfold nm at h1;injection h1 with _ h1;exact congrArg k (aBu h1).symm
theorem pU{α:Type}{v:AV}{k:Rat→Option α}{y:α}(h:nE v k=some y):∃q,v=nm q∧Ma.sz q≤aI∧k q=some y:=by
 unfold nE at h;split at h
 ·rename_i hx;exact⟨_,(Classical.choose_spec hx).1,(Classical.choose_spec hx).2,h⟩
 ·cases h
theorem aHc{α:Type}{p q:Rat}{k:Rat→Rat→Option α}(hp:Ma.sz p≤aQ)(hq:Ma.sz q≤aQ):sS (sp p q) k=k p q:=by
 have h:∃r:Rat × Rat,sp p q=sp r.1 r.2∧Ma.sz r.1≤aQ∧Ma.sz r.2≤aQ:=⟨(p,q),rfl,hp,hq⟩
 unfold sS;rw[dif_pos h];have h1:=(Classical.choose_spec h).1;unfold sp at h1;injection h1 with _ h1;obtain⟨h2,h3⟩:=aK2 h1;exact (congrArg (fun a=>k a (Classical.choose h).2) h2.symm).trans (congrArg (fun a=>k p a) h3.symm)
theorem zV{α:Type}{v:AV}{k:Rat→Rat→Option α}{y:α}(h:sS v k=some y):∃p q,v=sp p q∧Ma.sz p≤aQ∧Ma.sz q≤aQ∧k p q=some y:=by
 unfold sS at h;split at h
 ·rename_i hx;exact⟨_,_,(Classical.choose_spec hx).1,(Classical.choose_spec hx).2.1,(Classical.choose_spec hx).2.2,h⟩
 ·cases h
theorem aHd{c:Cx}{p q:Rat}{u:Value}:VR c (sp p q) u↔Ns c.w u p q:=by
 constructor
 ·rintro⟨cs,rfl,h⟩
  match cs,h with
  | [x1,x2,x3,y1,y2,y3],h=>
    obtain⟨h1,h2,h3,h4,h5,h6,-⟩:=h;cases h1;cases h4;obtain⟨A1,c1,e1,-⟩:=Me.Nm.parts (w:=c.w) h2;obtain⟨A2,c2,e2,-⟩:=Me.Nm.parts (w:=c.w) h3;obtain⟨A3,c3,e3,-⟩:=Me.Nm.parts (w:=c.w) h5;obtain⟨A4,c4,e4,-⟩:=Me.Nm.parts (w:=c.w) h6;subst e1;subst e2;subst e3;subst e4;exact⟨_,_,_,_,_,_,_,_,_,_,_,_,_,_,rfl,⟨_,_,rfl,h2,h3⟩,⟨_,_,rfl,h5,h6⟩⟩
 ·rintro⟨s1,A1,n1,c1,A2,n2,c2,s2,A3,n3,c3,A4,n4,c4,rfl,⟨t1,b1,e1,h1,h2⟩,⟨t2,b2,e2,h3,h4⟩⟩;injection e1 with e1;injection e1 with e1;injection e1 with e1 e1';injection e1' with e2' e3';injection e3' with e3' _;injection e2 with e2;injection e2 with e2;injection e2 with e4 e5;injection e5 with e5 e6;injection e6 with e6 _;subst e2';subst e3';subst e5;subst e6;exact⟨[_,_,_,_,_,_],rfl,e1,h1,h2,e4,h3,h4,trivial⟩
def o1(f:Rat→AV)(l:List AV):Option AV:=match l with| [x]=>nE x fun p=>some (f p)|_=>none
def o2(f:Rat→Rat→AV)(l:List AV):Option AV:=match l with| [x,y]=>nE x fun p=>nE y fun q=>some (f p q)|_=>none
def s2(f:Rat→Rat→Rat→Rat→AV)(l:List AV):Option AV:=match l with| [x,y]=>sS x fun p q=>sS y fun r t=>some (f p q r t)|_=>none
def inR(n:Int):Bool:=decide (-9223372036854775808≤n) && decide (n≤9223372036854775807)
def aMR(l:List AV):Option AV:=match l with| [x]=>int x fun n=>cb (inR n) (some (nm (n:Rat))) none|_=>none
def aK3(l:List AV):Option AV:=match l with| [x,y]=>int x fun a=>int y fun b=>cb (inR a) (cb (inR b) (some (.t [(true,aO (lC a b).2),(false,[.i .i64 (lC a b).1])])) none) none|_=>none
def aRR(l:List AV):Option AV:=match l with| [x,y]=>sS x fun p q=>nE y fun r=>some (sc (.b (decide (aL p q≤r∧r≤aJ p q))))|_=>none
def aCo(l:List AV):Option AV:=match l with| [.c false [.s l]]=>cb (okS l) (some (.t [(true,aO (bV (by8 l)).2),(false,[.i .i64 (bV (by8 l)).1])])) none|_=>none
def uI(l:List AV):Option AV:=match l with| [.c false [.s l]]=>cb (okS l) (some (.t [(true,encR (bV (by8 l)).2),(false,[.i .i64 (bV (by8 l)).1])])) none|_=>none
theorem aIC{f:Rat→AV}{p:Rat}(h1:Ma.sz p≤aI):o1 f [nm p]=some (f p):=aCX (k:=fun p=>some (f p)) h1
theorem aDT{f:Rat→Rat→AV}{p q:Rat}(h1:Ma.sz p≤aI)(h2:Ma.sz q≤aI):o2 f [nm p,nm q]=some (f p q):=(aCX (k:=fun p=>nE (nm q) fun q=>some (f p q)) h1).trans (aCX (k:=fun q=>some (f p q)) h2)
theorem aNG{f:Rat→Rat→Rat→Rat→AV}{p q r t:Rat}(h1:Ma.sz p≤aQ)(h2:Ma.sz q≤aQ)(h3:Ma.sz r≤aQ)(h4:Ma.sz t≤aQ):s2 f [sp p q,sp r t]=some (f p q r t):=(aHc (k:=fun p q=>sS (sp r t) fun r t=>some (f p q r t)) h1 h2).trans (aHc (k:=fun r t=>some (f p q r t)) h3 h4)
theorem aBv{p q:Rat}(h:encR p=encR q):p=q:=by
 unfold encR at h;injection h with h1 h;injection h with h2 h;injection h with h3 _;injection h1 with _ h1;injection h2 with h2;injection h3 with h3;by_cases hp:p=0
 ·rw[hp,sn0]at h1;rw[hp,bI.1 h1.symm]
 ·have hq:q≠0:=fun e=>hp (bI.1 (h1.trans (bI.2 e)));rw[J.rd_d hp,J.rd_d hq]at h3;refine Rat.ext ?_ h3;have e1:=Int.sign_mul_natAbs p.num;have e2:=Int.sign_mul_natAbs q.num;rw[←rH,h1,h2,rH,e2]at e1;exact e1.symm
open Classical in
def sU{α:Type}(v:AV)(k:Rat→Option α):Option α:=if h:∃q,v=rm q∧Ma.sz q≤aI then k (Classical.choose h) else none
open Classical in
def xV{α:Type}(v:AV)(k:Rat→Rat→Option α):Option α:=if h:∃p:Rat × Rat,v=J.rsp p.1 p.2∧Ma.sz p.1≤aQ∧Ma.sz p.2≤aQ then k (Classical.choose h).1 (Classical.choose h).2 else none
theorem aCY{α:Type}{q:Rat}{k:Rat→Option α}(hs:Ma.sz q≤aI):sU (rm q) k=k q:=by
 have h:∃p,rm q=rm p∧Ma.sz p≤aI:=⟨q,rfl,hs⟩
 unfold sU;rw[dif_pos h];have h1:=(Classical.choose_spec h).1;unfold rm at h1;injection h1 with _ h1;exact congrArg k (aBv h1).symm
theorem zW{α:Type}{v:AV}{k:Rat→Option α}{y:α}(h:sU v k=some y):∃q,v=rm q∧Ma.sz q≤aI∧k q=some y:=by
 unfold sU at h;split at h
 ·rename_i hx;exact⟨_,(Classical.choose_spec hx).1,(Classical.choose_spec hx).2,h⟩
 ·cases h
theorem aHe{α:Type}{p q:Rat}{k:Rat→Rat→Option α}(hp:Ma.sz p≤aQ)(hq:Ma.sz q≤aQ):xV (J.rsp p q) k=k p q:=by
 have h:∃r:Rat × Rat,J.rsp p q=J.rsp r.1 r.2∧Ma.sz r.1≤aQ∧Ma.sz r.2≤aQ:=⟨(p,q),rfl,hp,hq⟩
 unfold xV;rw[dif_pos h];have h1:=(Classical.choose_spec h).1;unfold J.rsp at h1;injection h1 with _ h1;obtain⟨h2,h3⟩:=List.append_inj h1 rfl;exact (congrArg (fun a=>k a (Classical.choose h).2) (aBv h2).symm).trans (congrArg (fun a=>k p a) (aBv h3).symm)
theorem aDs{α:Type}{v:AV}{k:Rat→Rat→Option α}{y:α}(h:xV v k=some y):∃p q,v=J.rsp p q∧Ma.sz p≤aQ∧Ma.sz q≤aQ∧k p q=some y:=by
 unfold xV at h;split at h
 ·rename_i hx;exact⟨_,_,(Classical.choose_spec hx).1,(Classical.choose_spec hx).2.1,(Classical.choose_spec hx).2.2,h⟩
 ·cases h
def r1(f:Rat→AV)(l:List AV):Option AV:=match l with| [x]=>sU x fun p=>some (f p)|_=>none
def r2(f:Rat→Rat→AV)(l:List AV):Option AV:=match l with| [x,y]=>sU x fun p=>sU y fun q=>some (f p q)|_=>none
def t2(f:Rat→Rat→Rat→Rat→AV)(l:List AV):Option AV:=match l with| [x,y]=>xV x fun p q=>xV y fun r t=>some (f p q r t)|_=>none
def aDU(l:List AV):Option AV:=match l with| [x]=>int x fun n=>cb (decide (0≤n) && decide (n≤1000000) || decide (n=-1)) (some (rm (n:Rat))) none|_=>none
theorem aID{f:Rat→AV}{p:Rat}(h1:Ma.sz p≤aI):r1 f [rm p]=some (f p):=aCY (k:=fun p=>some (f p)) h1
theorem aNH{f:Rat→Rat→AV}{p q:Rat}(h1:Ma.sz p≤aI)(h2:Ma.sz q≤aI):r2 f [rm p,rm q]=some (f p q):=(aCY (k:=fun p=>sU (rm q) fun q=>some (f p q)) h1).trans (aCY (k:=fun q=>some (f p q)) h2)
theorem aNI{f:Rat→Rat→Rat→Rat→AV}{p q r t:Rat}(h1:Ma.sz p≤aQ)(h2:Ma.sz q≤aQ)(h3:Ma.sz r≤aQ)(h4:Ma.sz t≤aQ):t2 f [J.rsp p q,J.rsp r t]=some (f p q r t):=(aHe (k:=fun p q=>xV (J.rsp r t) fun r t=>some (f p q r t)) h1 h2).trans (aHe (k:=fun r t=>some (f p q r t)) h3 h4)
def gs:List (Nat × (List AV→Option AV)):=
 [(31,o2 fun p q=>nm (p+q)),
  (51,o2 fun p q=>nm (p-q)),
  (34,o2 fun p q=>nm (p*q)),
  (45,o2 fun p q=>nm (aJ p q)),
  (33,o2 fun p q=>sc (.i .i64 (rc p q))),
  (47,o1 fun p=>sc (.i .i64 (sn p))),
  (57,o1 fun p=>sp p p),
  (55,s2 fun p q r t=>sp (aL p q+aL r t) (aJ p q+aJ r t)),
  (56,s2 fun p q r t=>sp (cZ (aL p q) (aJ p q) (aL r t) (aJ r t)) (dC (aL p q) (aJ p q) (aL r t) (aJ r t))),
  (35,aRR),
  (32,aMR),
  (30,aK3),
  (42,aCo),
  (43,uI),
  (41,o1 fun p=>ss (gF p)),
  (54,r1 fun p=>ss (gF p)),
  (46,r1 fun p=>sc (.i .i64 (sn p))),
  (49,r2 fun p q=>rm (p+q)),
  (53,r2 fun p q=>rm (p*q)),
  (58,r1 fun p=>J.rsp p p),
  (59,t2 fun p q r t=>J.rsp (aL p q+aL r t) (aJ p q+aJ r t)),
  (60,t2 fun p q r t=>J.rsp (cZ p q r t) (dC p q r t)),
  (52,aDU)]
def gT:T 3 (List AV→Option AV):=T.ofL gs
def aCp(_:H)(l:List AV):Option AV:=match l with| []=>some (sc (.b true))|_=>none
def phA(f:Nat):Option (H→List AV→Option AV):=cb (Nat.beq f 6) (some aCp) none
def aTT(W0:World)(t:Nat)(a:Addr):Option AV:=cb (Nat.beq t 23) (match W0.cell? a with|some (.string s)=>some (sc (.s (bytes s)))|_=>none) none
def F2(W0:World):Cf:=⟨Tryz.prog,fun w=>Tb w∧Px w∧Q W0 w,32,fun f=>gT.get f,aDK,phA,aTT W0,fun _ _=>none⟩
def GOk(fn:Nat)(g:List AV→Option AV):Prop:=∀(args:List AV) (v:AV),g args=some v→∀(c:Cx) (vs:List Value),Tb c.w→Px c.w→VL c args vs→
 Calls Tryz.prog fn vs.toArray c.w fun e w'=>∃u,e=.returned u∧Q c.w w'∧VR ⟨c.n,c.k,c.r,w',c.z⟩ v u
def Wl(v:AV):Prop:=∀(c d:Cx) (u:Value),c.w=d.w→VR c v u→VR d v u
theorem wN{q:Rat}:Wl (nm q):=fun _ _ _ h k=>iN.2 (h▸iN.1 k)
theorem wS{p q:Rat}:Wl (sp p q):=fun _ _ _ h k=>aHd.2 (h▸aHd.1 k)
theorem wI{n:Int}:Wl (sc (.i .i64 n)):=fun c _ u _ k=>aG.2 (show u=.int .i64 n from (aG (c:=c)).1 k)
theorem wB{b:Bool}:Wl (sc (.b b)):=fun c _ u _ k=>aG.2 (show u=.bool b from (aG (c:=c)).1 k)
theorem toG{fn:Nat}{args:List AV}{vs:List Value}{v:AV}{c:Cx}(hw:Wl v)(hx:Fc (FN true) fn args v)(hT:Tb c.w)(ha:∀d:Cx,d.w=c.w→VL d args vs):Calls Tryz.prog fn vs.toArray c.w fun e w'=>∃u,e=.returned u∧Q c.w w'∧VR ⟨c.n,c.k,c.r,w',c.z⟩ v u:=by
 refine (toF hx (fun _=>hT) ha).mono ?_;rintro e w' ⟨u,d,rfl,hq,rfl,hv⟩;exact⟨u,rfl,hq,hw d _ _ rfl hv⟩
theorem g1{fn:Nat}{f:Rat→AV}(hw:∀p,Wl (f p))(h:∀p,Ma.sz p≤aI→Fc (FN true) fn [nm p] (f p)):GOk fn (o1 f):=by
 intro args v hx c vs hT hP hv
 match args,vs,hx,hv with
 | [x],[u],hx,hv=>
   obtain⟨q,rfl,h1,h2⟩:=pU (show nE x (fun p=>some (f p))=some v from hx);injection h2 with h2;subst h2;exact toG (vs:=[u]) (hw q) (h q h1) hT (vl1 (iN.1 hv.1))
theorem g2{fn:Nat}{f:Rat→Rat→AV}(hw:∀p q,Wl (f p q))(h:∀p q,Ma.sz p≤aI→Ma.sz q≤aI→Fc (FN true) fn [nm p,nm q] (f p q)):GOk fn (o2 f):=by
 intro args v hx c vs hT hP hv
 match args,vs,hx,hv with
 | [x,y],[u,u2],hx,hv=>
   obtain⟨p,rfl,h1,h2⟩:=pU (show nE x (fun p=>nE y fun q=>some (f p q))=some v from hx);obtain⟨q,rfl,h3,h4⟩:=pU h2;injection h4 with h4;subst h4;exact toG (vs:=[u,u2]) (hw p q) (h p q h1 h3) hT (vl2 (iN.1 hv.1) (iN.1 hv.2.1))
theorem g3{fn:Nat}{f:Rat→Rat→Rat→Rat→AV}(hw:∀p q r t,Wl (f p q r t))(h:∀p q r t,Ma.sz p≤aQ→Ma.sz q≤aQ→Ma.sz r≤aQ→Ma.sz t≤aQ→Fc (FN true) fn [sp p q,sp r t] (f p q r t)):GOk fn (s2 f):=by
 intro args v hx c vs hT hP hv
 match args,vs,hx,hv with
 | [x,y],[u,u2],hx,hv=>
   obtain⟨p,q,rfl,h1,h2,h3⟩:=zV (show sS x (fun p q=>sS y fun r t=>some (f p q r t))=some v from hx);obtain⟨r,t,rfl,h4,h5,h6⟩:=zV h3;injection h6 with h6;subst h6;exact toG (vs:=[u,u2]) (hw p q r t) (h p q r t h1 h2 h4 h5) hT fun d hd=>⟨wS _ _ _ hd.symm hv.1,wS _ _ _ hd.symm hv.2.1,trivial⟩
theorem wG{n:Int}(h:inR n=true):-9223372036854775808≤n∧n≤9223372036854775807:=by
 obtain⟨h1,h2⟩:=(Bool.and_eq_true _ _).mp h;exact⟨of_decide_eq_true h1,of_decide_eq_true h2⟩
theorem aTb:GOk 32 aMR:=by
 intro args v hx c vs hT hP hv
 match args,vs,hx,hv with
 | [x],[u],hx,hv=>
   obtain⟨n,rfl,h0⟩:=oD (show int x (fun n=>cb (inR n) (some (nm (n:Rat))) none)=some v from hx);obtain⟨h1,h2⟩:=aD.1 h0;injection h2 with h2;subst h2;have hu:u=.int .i64 n:=aG.1 hv.1;subst hu;exact toG (vs:=[.int .i64 n]) wN (aIg (wG h1).1 (wG h1).2) hT fun _ _=>⟨aG.2 rfl,trivial⟩
theorem aPt:GOk 30 aK3:=by
 intro args v hx c vs hT hP hv
 match args,vs,hx,hv with
 | [x,y],[u,u2],hx,hv=>
   obtain⟨a,rfl,h0⟩:=oD (show int x (fun a=>int y fun b=>cb (inR a) (cb (inR b) (some (.t [(true,aO (lC a b).2),(false,[.i .i64 (lC a b).1])])) none) none)=some v from hx);obtain⟨b,rfl,h0⟩:=oD h0;obtain⟨h1,h0⟩:=aD.1 h0;obtain⟨h2,h0⟩:=aD.1 h0;have hu:u=.int .i64 a:=aG.1 hv.1;have hu2:u2=.int .i64 b:=aG.1 hv.2.1;subst hu;subst hu2;exact aCk (q:=lC a b) (by rw[←h0];unfold er;rw[wC]) (aOV a b c.w hT (wG h1).1 (wG h1).2 (wG h2).1 (wG h2).2)
theorem aTc:GOk 35 aRR:=by
 intro args v hx c vs hT hP hv
 match args,vs,hx,hv with
 | [x,y],[u,u2],hx,hv=>
   obtain⟨p,q,rfl,h1,h2,h3⟩:=zV (show sS x (fun p q=>nE y fun r=>some (sc (.b (decide (aL p q≤r∧r≤aJ p q)))))=some v from hx);obtain⟨r,rfl,h4,h5⟩:=pU h3;injection h5 with h5;subst h5;exact toG (vs:=[u,u2]) wB (aKK (by rw[aB];unfold aI at h4;unfold aQ at h1 h2;omega)) hT fun d hd=>⟨wS _ _ _ hd.symm hv.1,wN _ _ _ hd.symm hv.2.1,trivial⟩
theorem aRS{s:ByteArray}{l:List Nat}(h:bytes s=l)(hk:okS l=true):s.size≤9223372036854775806:=by
 have:=(iO h).2;have:=aZ.1 hk;omega
theorem aPu:GOk 42 aCo:=by
 intro args v hx c vs hT hP hv;unfold aCo at hx;split at hx
 ·rename_i l
  match vs,hv with
  | [u],hv=>
    obtain⟨s,rfl,hs⟩:=aG.1 (show VR c (sc (.s l)) u from hv.1);obtain⟨h1,h2⟩:=aD.1 hx;have e:=(iO hs).1;rw[e]at h2;exact aCk (by rw[←h2];unfold er;rw[wC]) (aGW s c.w hT (aRS hs h1))
 ·cases hx
theorem aTU:∀{l:List (Bool × List SV)},(l.all fun p=>plS p.2)=true→Wl (.t l):=fun {l} hl c d u hw hv=>by
 obtain⟨vs,rfl,h⟩:=hv;refine⟨vs,rfl,?_⟩
 induction l generalizing vs with
 |nil=>cases vs with|nil=>trivial|cons v vs=>exact h.elim
 |cons p l ih=>
  cases vs with
  |nil=>exact h.elim
  |cons v vs=>
   obtain⟨h1,h2⟩:=(Bool.and_eq_true _ _).mp (show (plS p.2 && l.all fun p=>plS p.2)=true from hl);refine⟨?_,ih h2 vs h.2⟩;obtain⟨g,k⟩:=p;cases g with
   |true=>obtain⟨cs,h3,h4⟩:=h.1;exact⟨cs,h3,aAu hw.symm h1 h4⟩
   |false=>
    obtain⟨x,h3,h4⟩:=h.1;have h3:k=[x]:=h3;subst h3;exact⟨x,rfl,(aAu (r:=[v]) hw.symm h1 ⟨h4,trivial⟩).1⟩
theorem aK4:FR.P.follows .mixedOrders=true:=by kernel_rfl
theorem aIE:GOk 43 uI:=by
 intro args v hx c vs hT hP hv;unfold uI at hx;split at hx
 ·rename_i l
  match vs,hv with
  | [u],hv=>
    obtain⟨s,rfl,hs⟩:=aG.1 (show VR c (sc (.s l)) u from hv.1);obtain⟨h1,h2⟩:=aD.1 hx;injection h2 with h2;subst h2;have e:=iO hs;have:=aZ.1 h1;refine (toX aRx aK4 (vs:=[.string s]) (aPj (l:=by8 l) (by rw[e.1,sO];omega)) trivial fun d hd=>⟨aG.2 ⟨s,rfl,(iP e.1.symm)⟩,trivial⟩).mono ?_;rintro e w' ⟨u,d,rfl,hq,rfl,hv⟩;exact⟨u,rfl,hq,aTU rfl d _ _ rfl hv⟩
 ·cases hx
theorem oG{g:Bool}{l:List SV}(hl:plS l=true):Wl (.c g l):=fun c d u hw hv=>by
 cases g with
 |true=>obtain⟨cs,h3,h4⟩:=hv;exact⟨cs,h3,aAu hw.symm hl h4⟩
 |false=>
  obtain⟨x,h3,h4⟩:=hv;subst h3;exact⟨x,rfl,(aAu (r:=[u]) hw.symm hl ⟨h4,trivial⟩).1⟩
theorem aTV{F:Cf}(hF:FOk F)(hm:F.P.follows .mixedOrders=true){fn:Nat}{args:List AV}{vs:List Value}{v:AV}{w:World}(hx:J.Fx F fn (args.map .v) (.v v))(hT:F.tb w)(hv:∀d:Cx,d.w=w→VL d args vs):Calls F.P fn vs.toArray w fun e w'=>∃u d,e=.returned u∧Me.Q w w'∧d.w=w'∧VR d v u:=by
 obtain⟨_,h',⟨m0,k0⟩,-,rfl⟩:=hx ⟨.lf,0,0,.lf⟩ args (Nat.le_refl 0) (fun _ _=>T.get_lf) (J.v_all args);obtain⟨-,hcr⟩:=lX (vs:=vs) hF (wZ hF hm m0) (k0 m0 (Nat.le_refl m0)) (xB F.P.cellsOf w) (fun _=>rfl) hT (hv _ rfl);refine Calls.mono hcr ?_;rintro e w' ⟨u,d,k1,k2,k3,k4,k5⟩;exact⟨u,d,k1,k2▸k4.q,k2,k5⟩
theorem toR{fn:Nat}{args:List AV}{vs:List Value}{v:AV}{c:Cx}(hw:Wl v)(hx:J.Fx FR fn (args.map .v) (.v v))(ha:∀d:Cx,d.w=c.w→VL d args vs):Calls Tryz.prog fn vs.toArray c.w fun e w'=>∃u,e=.returned u∧Q c.w w'∧VR ⟨c.n,c.k,c.r,w',c.z⟩ v u:=by
 refine (aTV aRx aK4 hx trivial ha).mono ?_;rintro e w' ⟨u,d,rfl,hq,rfl,hv⟩;exact⟨u,rfl,hq,hw d _ _ rfl hv⟩
theorem g1R{fn:Nat}{f:Rat→AV}(hw:∀p,Wl (f p))(h:∀p,Ma.sz p≤aI→J.Fx FR fn [.v (rm p)] (.v (f p))):GOk fn (r1 f):=by
 intro args v hx c vs hT hP hv
 match args,vs,hx,hv with
 | [x],[u],hx,hv=>
   obtain⟨q,rfl,h1,h2⟩:=zW (show sU x (fun p=>some (f p))=some v from hx);injection h2 with h2;subst h2;exact toR (args:=[rm q]) (vs:=[u]) (hw q) (h q h1) fun d hd=>⟨oG rfl _ _ _ hd.symm hv.1,trivial⟩
theorem g2R{fn:Nat}{f:Rat→Rat→AV}(hw:∀p q,Wl (f p q))(h:∀p q,Ma.sz p≤aI→Ma.sz q≤aI→J.Fx FR fn [.v (rm p),.v (rm q)] (.v (f p q))):GOk fn (r2 f):=by
 intro args v hx c vs hT hP hv
 match args,vs,hx,hv with
 | [x,y],[u,u2],hx,hv=>
   obtain⟨p,rfl,h1,h2⟩:=zW (show sU x (fun p=>sU y fun q=>some (f p q))=some v from hx);obtain⟨q,rfl,h3,h4⟩:=zW h2;injection h4 with h4;subst h4;exact toR (args:=[rm p,rm q]) (vs:=[u,u2]) (hw p q) (h p q h1 h3) fun d hd=>⟨oG rfl _ _ _ hd.symm hv.1,oG rfl _ _ _ hd.symm hv.2.1,trivial⟩
theorem g3R{fn:Nat}{f:Rat→Rat→Rat→Rat→AV}(hw:∀p q r t,Wl (f p q r t))(h:∀p q r t,Ma.sz p≤aQ→Ma.sz q≤aQ→Ma.sz r≤aQ→Ma.sz t≤aQ→J.Fx FR fn [.v (J.rsp p q),.v (J.rsp r t)] (.v (f p q r t))):GOk fn (t2 f):=by
 intro args v hx c vs hT hP hv
 match args,vs,hx,hv with
 | [x,y],[u,u2],hx,hv=>
   obtain⟨p,q,rfl,h1,h2,h3⟩:=aDs (show xV x (fun p q=>xV y fun r t=>some (f p q r t))=some v from hx);obtain⟨r,t,rfl,h4,h5,h6⟩:=aDs h3;injection h6 with h6;subst h6;exact toR (args:=[J.rsp p q,J.rsp r t]) (vs:=[u,u2]) (hw p q r t) (h p q r t h1 h2 h4 h5) fun d hd=>⟨oG rfl _ _ _ hd.symm hv.1,oG rfl _ _ _ hd.symm hv.2.1,trivial⟩
theorem aRT:GOk 52 aDU:=by
 intro args v hx c vs hT hP hv
 match args,vs,hx,hv with
 | [x],[u],hx,hv=>
   obtain⟨n,rfl,h0⟩:=oD (show int x (fun n=>cb (decide (0≤n) && decide (n≤1000000) || decide (n=-1)) (some (rm (n:Rat))) none)=some v from hx);obtain⟨h1,h2⟩:=aD.1 h0;injection h2 with h2;subst h2;refine toR (args:=[sc (.i .i64 n)]) (vs:=[u]) (oG rfl) ?_ fun d hd=>⟨oG (g:=false) rfl _ _ _ hd.symm hv.1,trivial⟩
   rcases (Bool.or_eq_true _ _).mp h1 with h1|h1
   ·obtain⟨h3,h4⟩:=(Bool.and_eq_true _ _).mp h1;have h3:=of_decide_eq_true h3;have h4:=of_decide_eq_true h4;obtain⟨m,rfl⟩:∃m:Nat,n=m:=⟨n.toNat,by omega⟩
    exact J.k_Int (by omega)
   ·obtain rfl:=of_decide_eq_true h1;exact J.k_IntM
theorem aRU:GOk 41 (o1 fun p=>ss (gF p)):=by
 intro args v hx c vs hT hP hv
 match args,vs,hx,hv with
 | [x],[u],hx,hv=>
   obtain⟨q,rfl,h1,h2⟩:=pU (show nE x (fun p=>some (ss (gF p)))=some v from hx);injection h2 with h2;subst h2;refine (aKy u q c.w (iN.1 hv.1) h1).mono ?_;rintro e w' ⟨t,h3,h4,h5⟩;exact⟨_,h3,h5,aG.2 ⟨t,rfl,iP h4⟩⟩
theorem aTd:∀p∈gs,GOk p.1 p.2:=by
 unfold gs;simp only[List.forall_mem_cons];have b1:(1099511627776:Nat)=LIM:=aB.symm;have b2:(1000000000:Nat)=aI:=rfl;have b3:(2000000:Nat)=aQ:=rfl;refine⟨g2 (fun _ _=>wN) fun p q h1 h2=>aCf (by omega),g2 (fun _ _=>wN) fun p q h1 h2=>aNo (by omega),g2 (fun _ _=>wN) fun p q h1 h2=>jO (by omega),g2 (fun _ _=>wN) fun p q h1 h2=>aNn (by omega),g2 (fun _ _=>wI) fun p q h1 h2=>xO (by omega),g1 (fun _=>wI) fun p h1=>aCg,g1 (fun _=>wS) fun p h1=>aPa (by omega),g3 (fun _ _ _ _=>wS) fun p q r t h1 h2 h3 h4=>aKL (by omega),g3 (fun _ _ _ _=>wS) fun p q r t h1 h2 h3 h4=>aKM (by omega),?_⟩;refine⟨aTc,aTb,aPt,aPu,aIE,aRU,g1R (fun _=>oG rfl) fun p h1=>J.k_Text (by omega),g1R (fun _=>wI) fun p _=>J.k_Sign,g2R (fun _ _=>oG rfl) fun p q h1 h2=>J.k_Add (by omega),g2R (fun _ _=>oG rfl) fun p q h1 h2=>J.k_Mul (by omega),g1R (fun _=>oG rfl) fun p _=>J.k_Point,g3R (fun _ _ _ _=>oG rfl) fun p q r t h1 h2 h3 h4=>J.k_SpanAdd (by omega),g3R (fun _ _ _ _=>oG rfl) fun p q r t h1 h2 h3 h4=>J.k_SpanMul' (by omega),aRT,fun x hx=>by cases hx⟩
theorem aTe(W0:World):aLO (F2 W0):=by
 intro t a v hx c hb;obtain⟨h1,h2⟩:=aD.1 (show cb (Nat.beq t 23) (match W0.cell? a with|some (.string s)=>some (sc (.s (bytes s)))|_=>none) none=some v from hx);have h1:=aM.1 h1;subst h1;split at h2
 ·rename_i s hc;injection h2 with h2;subst h2;have hc2:c.w.cell? a=some (.string s):=by
   refine (hb.2.2.cell ?_).trans hc;rcases Nat.lt_or_ge a.block W0.heap.size with h|h
   ·exact h
   ·unfold World.cell? at hc;rw[Array.getElem?_eq_none h]at hc;cases hc
  refine⟨.string s,?_,aG.2 ⟨s,rfl,rfl⟩⟩;have hi:Ty Tryz.prog 23 _:=bC (F:=F2 W0) (i:=⟨.str,1,16,[.s []]⟩) (by kernel_rfl);unfold loadVar;rw[show (F2 W0).P=Tryz.prog from rfl,Sem.run_bind,aAl hi c.w];simp[Dk.ag,run_load,hc2]
 ·cases h2
theorem f2(W0:World):FOk (F2 W0):=by
 refine⟨f0.ng,fun _ _ hq h=>⟨h.1.q hq,h.2.1.q hq,h.2.2.trans hq⟩,fun fn g args v hg hx c vs hb hv=>aTd _ (vV (show (T.ofL gs:T 3 _).get fn=some g from hg)) args v hx c vs hb.1 hb.2.1 hv,aTe W0,fun _ _=>⟨fun h=>(by cases h),fun h=>(by cases h)⟩,fun fn g h args v hg hx c wb vs R hz hb ha=>?_⟩;obtain⟨h1,h2⟩:=aD.1 (show cb (Nat.beq fn 6) (some aCp) none=some g from hg);have h1:=aM.1 h1;injection h2 with h2;subst h1;subst h2;unfold aCp at hx;split at hx
 ·injection hx with hx;subst hx
  match vs,ha with
  | [],_=>
    refine (aKI c.w hb.1 hb.2.1).mono ?_;rintro e w' ⟨h1,h2⟩;exact⟨_,h1,h2,aG.2 rfl⟩
 ·cases hx
end
end Go.Proofs.YtpobejcofijjdaaGreatDoor.E
