/- SymbolKnown holds. No condition. -/
import Derived.WideKeyRuns
import Derived.Test.YtamnpcdkcdfgaaaGreatDoorQs06
namespace Go.Proofs.YtamnpcdkcdfgaaaGreatDoor
namespace E
open Go Go.RowKit
open Ma Me K
section
variable {F:Cf} {c d:Cx} {wb:World} {h h':H} {q:Bool} {nt fn:Nat} {e e':Env} {a a':Act} {b:Frame} {ex:bG} {v:AV} {o:Oper}
theorem cba{c x:Bool}:cb c x false=true↔c=true∧x=true:=by cases c<;>simp[cb]
theorem gm{P:Program}{w:World}{r:Nat}{es:Array MapEntry}{clock:Nat}(hb:w.heap[r]? =some (.map es clock)):(getObj r).run P w=.ok (.map es clock) w:=by
 simp[getObj,Sem.run,hb]
theorem aGl{α:Type}(f:α→α)(m:α)(e2:List α):∀e1:List α,(e1++m::e2).modify e1.length f=e1++f m::e2
 | []=>rfl
 |x::e1=>congrArg (x::·) (aGl f m e2 e1)
theorem fK{P:Program}{w:World}{kt:TypeId}{d:TypeDesc}{k:Value}{l:List MapEntry}{a:Option (Nat × Value)}(hd:P.underlying kt=some d)(h:Instr.findNow d k l 0=some a):(Instr.findKey kt k l).run P w=.ok a w:=by
 simp[Instr.findKey,run_underlying hd,Result.andThen,h]
theorem EL.split:∀{l1:List (AV × AV)} {p:AV × AV} {l2:List (AV × AV)} {es:List MapEntry},EL c (l1++p::l2) es→∃e1 m e2,es=e1++m::e2∧EL c l1 e1∧(VR c p.1 m.key∧VR c p.2 m.val)∧EL c l2 e2
 | [],_,_,[],h=>by cases h
 | [],_,_,m::es,h=>⟨[],m,es,rfl,trivial,h.1,h.2⟩
 |_::_,_,_,[],h=>by cases h
 |_::l1,_,_,m::es,h=>by
  obtain⟨e1,m',e2,rfl,h1,h2,h3⟩:=EL.split (l1:=l1) h.2;exact⟨m::e1,m',e2,rfl,⟨h.1,h1⟩,h2,h3⟩
theorem EL.app:∀{l m:List (AV × AV)} {r s:List MapEntry},EL c l r→EL c m s→EL c (l++m) (r++s)
 | [],_,[],_,_,k=>k
 |_::_,_,_::_,_,h,k=>⟨h.1,EL.app h.2 k⟩
theorem aMu{q:AV→Option Bool}{l:List (AV × AV)}{r:Option AV}(h:fnd q l=some r):(r=none∧∀p∈l,q p.1=some false)∨∃l1 p l2,l=l1++p::l2∧(∀x∈l1,q x.1=some false)∧q p.1=some true∧r=some p.2:=by
 induction l with
 |nil=>injection h with h;exact .inl ⟨h.symm,fun p hp=>by cases hp⟩
 |cons p l ih=>
  obtain⟨b,h1,h2⟩:=aA.1 (show (ob (q p.1) fun b=>cb b (some (some p.2)) (fnd q l))=some r from h);cases b with
  |true=>injection h2 with h2;exact .inr ⟨[],p,l,rfl,(fun x hx=>by cases hx),h1,h2.symm⟩
  |false=>
   rcases ih h2 with⟨h3,h4⟩|⟨l1,p',l2,rfl,h4,h5,h6⟩
   ·refine .inl ⟨h3,fun x hx=>?_⟩;rcases List.mem_cons.1 hx with rfl|hx
    ·exact h1
    ·exact h4 x hx
   ·refine .inr ⟨p::l1,p',l2,rfl,fun x hx=>?_,h5,h6⟩;rcases List.mem_cons.1 hx with rfl|hx
    ·exact h1
    ·exact h4 x hx
theorem aKz{q:AV→Option Bool}{k u:AV}{l l':List (AV × AV)}(h:aEy q k u l=some l'):((∀p∈l,q p.1=some false)∧l'=l++[(k,u)])∨∃l1 p l2,l=l1++p::l2∧(∀x∈l1,q x.1=some false)∧q p.1=some true∧l'=l1++(k,u)::l2:=by
 induction l generalizing l' with
 |nil=>injection h with h;exact .inl ⟨(fun p hp=>by cases hp),h.symm⟩
 |cons p l ih=>
  obtain⟨b,h1,h2⟩:=aA.1 (show (ob (q p.1) fun b=>cb b (some ((k,u)::l)) (ob (aEy q k u l) fun y=>some (p::y)))=some l' from h);cases b with
  |true=>injection h2 with h2;exact .inr ⟨[],p,l,rfl,(fun x hx=>by cases hx),h1,h2.symm⟩
  |false=>
   obtain⟨y,h3,h4⟩:=aA.1 (show (ob (aEy q k u l) fun y=>some (p::y))=some l' from h2);injection h4 with h4;subst h4;rcases ih h3 with⟨h5,rfl⟩|⟨l1,p',l2,rfl,h5,h6,rfl⟩
   ·refine .inl ⟨fun x hx=>?_,rfl⟩;rcases List.mem_cons.1 hx with rfl|hx
    ·exact h1
    ·exact h5 x hx
   ·refine .inr ⟨p::l1,p',l2,rfl,fun x hx=>?_,h6,rfl⟩;rcases List.mem_cons.1 hx with rfl|hx
    ·exact h1
    ·exact h5 x hx
theorem aDz:∀{l:List SV} {r:List Value},isI l=true→CL c l r→∀u∈r,∃k n,u=.int k n
 | [],[],_,_,_,hu=>by cases hu
 |s::l,v::r,h,hc,u,hu=>by
  obtain⟨h1,h2⟩:=cba.1 (show cb (aLU s) (isI l) false=true from h);rcases List.mem_cons.1 hu with rfl|hu
  ·cases s with
   |i k n=>exact⟨k,n,hc.1⟩
   |_=>cases h1
  ·exact aDz h2 hc.2 u hu
inductive KR (P:Program) (kt:TypeId):Value→Prop where
 |i {kk k n} (hu:P.underlying kt=some (.int kk)):KR P kt (.int k n)
 |s {s} (hu:P.underlying kt=some .string):KR P kt (.string s)
 |a {n el inf kk} {xs:List Value} (hu:P.underlying kt=some (.array n el)) (hi:P.info? el=some inf) (he:P.underlying el=some (.int kk)) (hc:P.cellsOf el=1) (hp:∀j,j<n→∃u,xs[j]? =some u) (ha:∀(w:World) j u,xs[j]? =some u→(part el xs.toArray j).run P w=.ok u w) (hs:∀u∈xs,∃k n,u=.int k n):KR P kt (.agg xs.toArray)
theorem aGm{kt:Nat}{kj:TI}{x:AV}{u:Value}(hj:Ty F.P kt kj)(h:kok F kj.d x=true)(hv:VR c x u):KR F.P kt u:=by
 unfold kok at h;split at h
 ·rename_i kk k n hd;rw[show u=.int k n from aF.1 hv];exact .i (lT hj hd)
 ·rename_i l hd;obtain⟨s,rfl,-⟩:=aF.1 hv;exact .s (jZ hj hd)
 ·rename_i n el l hd;split at h
  ·rename_i j hl;split at h
   ·rename_i kk hk;obtain⟨h1,h2⟩:=cba.1 h;obtain⟨h3,h4⟩:=cba.1 h2;obtain⟨cs,rfl,hc⟩:=hv;have h1:=aH.1 h1;have h3:=aH.1 h3;rw[bH]at h3;have hT:=aJ hl;obtain⟨inf,-,-,k1,-,-,k2,-⟩:=hT.ex;have hlen:=hc.len;exact .a (mX hj hd) k1 (lT hT hk) (by rw[←h1,k2];simp[Program.cellsOf,k1]) (fun j hj=>⟨_,List.getElem?_eq_getElem (by omega)⟩) (fun w j u hu=>lW hT (by rw[hk];rfl) hu) (aDz h4 hc)
   ·cases h
  ·cases h
 ·cases h
theorem KR.chk1{P:Program}{kt:Nat}{u:Value}(h:KR P kt u)(em:Bool)(n:Nat)(w:World):(Instr.checkKey em (n+2) kt u).run P w=.ok () w:=by
 cases h with
 |i hu=>rw[Instr.checkKey];simp[run_underlying hu]
 |s hu=>rw[Instr.checkKey];simp[run_underlying hu]
 | @a n2 el inf kk xs hu hi he hc hp ha hs=>
   rw[Instr.checkKey];simp only[Sem.run_bind,run_underlying hu,Result.andThen_ok];simp only[Std.Legacy.Range.forIn_eq_forIn_range',Std.Legacy.Range.size,Nat.sub_zero,Nat.add_one_sub_one,Nat.div_one];have each:∀j∈List.range' 0 n2,∃u,xs[j]? =some u:=fun j hj=>hp j (by simpa using hj);generalize List.range' 0 n2=is at each
   induction is with
   |nil=>simp
   |cons j is ih=>
    obtain⟨u,hu2⟩:=each j (by simp);have p2:(Instr.checkKey em (n+1) el u).run P w=.ok () w:=by
      obtain⟨k,m,rfl⟩:=hs u (List.mem_of_getElem? hu2);rw[Instr.checkKey];simp[run_underlying he]
    have p1:=ha w j u hu2;simp only[List.forIn_cons,Sem.run_bind,run_sizeOf w hi,hc,Nat.mul_one,Result.andThen_ok,p1,p2,Sem.run_pure];exact ih fun y hy=>each y (by simp[hy])
theorem KR.chk{P:Program}{kt:Nat}{u:Value}(h:KR P kt u)(em:Bool)(w:World):(Instr.checkKey em 10000 kt u).run P w=.ok () w:=h.chk1 em 9998 w
theorem KR.same{P:Program}{kt:Nat}{u:Value}(h:KR P kt u)(n:Nat):Instr.sameBits (n+2) u u=true:=by
 cases h with
 |i hu=>simp[Instr.sameBits]
 |s hu=>simp[Instr.sameBits,MapKept.bytes_beq]
 | @a n2 el inf kk xs hu hi he hc hp ha hs=>
   simp only[Instr.sameBits,Bool.and_eq_true,beq_self_eq_true,true_and,List.all_eq_true];rintro⟨x,y⟩ hxy;obtain⟨i,hi2⟩:=List.mem_iff_getElem?.1 hxy;rw[List.getElem?_zip_eq_some]at hi2;obtain⟨h1,h2⟩:=hi2;rw[h1]at h2;injection h2 with h2;have h2:x=y:=h2;subst h2;obtain⟨k,m,rfl⟩:=hs x (by simpa using List.mem_of_getElem? h1);simp[Instr.sameBits]
theorem KR.stays{P:Program}{kt:Nat}{u:Value}(h:KR P kt u)(w:World):(Instr.keyThatStays u u).run P w=.ok u w:=by
 have:=h.same 9998;simp[Instr.keyThatStays,this]
theorem aGn:∀{l m:List SV} {xs ys:List Value},eqI l m=some true→CL c l xs→CL c m ys→xs=ys
 | [],[],[],[],_,_,_=>rfl
 | [],_::_,_,_,h,_,_=>by cases h
 |_::_,[],_,_,h,_,_=>by cases h
 |x::l,y::m,u::xs,u2::ys,h,hx,hy=>by
  obtain⟨k,a,b,rfl,rfl,h2⟩:=aAl (show aEv x y (eqI l m)=some true from h);rcases h2 with⟨rfl,h2⟩|⟨-,h2⟩
  ·rw[show u=.int k a from hx.1,show u2=.int k a from hy.1,aGn h2 hx.2 hy.2]
  ·cases h2
def Cmp(P:Program)(kt:TypeId)(u u2:Value)(r:Bool):Prop:=
 (∃d,P.underlying kt=some d∧Instr.sameNow d u u2=some r)∨((match P.underlying kt with|some (.array _ _)|some (.struct _)=>true|_=>false)=true∧∀w,(Op.equal kt u u2).run P w=.ok r w)
theorem aEO{kt:Nat}{kj:TI}{x y:AV}{u u2:Value}{r:Bool}(hj:Ty F.P kt kj)(hk:kok F kj.d x=true)(h:kq x y=some r)(hx:VR c x u)(hy:VR c y u2):Cmp F.P kt u u2 r∧(r=true→u=u2):=by
 unfold kok at hk;split at hk
 ·rename_i kk k n hd;have hu:u=.int k n:=aF.1 hx;subst hu;unfold kq at h;split at h
  ·rename_i j a j2 b e;injection e with e1 e2;injection e2 with e2;injection e2 with e2 e3;subst e2;subst e3;obtain⟨h1,h2⟩:=aB.1 h;have h1:=of_decide_eq_true h1;subst h1;injection h2 with h2;have hu2:u2=.int k b:=aF.1 hy;subst hu2;rw[lU]at h2;subst h2;refine⟨.inl ⟨_,lT hj hd,?_⟩,fun h=>by rw[of_decide_eq_true h]⟩;simp only[Instr.sameNow,if_true];congr 1
  ·rename_i a b e;injection e with e1 e2;injection e2 with e2;cases e2
  ·rename_i a b e;injection e with e1 e2;cases e1
  ·cases h
 ·rename_i l hd;obtain⟨s,rfl,hs⟩:=aF.1 hx;unfold kq at h;split at h
  ·rename_i j a j2 b e;injection e with e1 e2;injection e2 with e2;cases e2
  ·rename_i a b e;injection e with e1 e2;injection e2 with e2;injection e2 with e2;subst e2;injection h with h;rw[tX]at h;subst h;obtain⟨t,rfl,ht⟩:=aF.1 hy;refine⟨.inl ⟨_,jZ hj hd,?_⟩,fun h=>?_⟩
   ·simp only[Instr.sameNow];congr 1;by_cases hst:s=t
    ·subst hst;rw[←ht,hs];simp[MapKept.bytes_beq]
    ·have h1:¬l=b:=fun e=>hst (bytes_inj (by rw[hs,ht,e]));rw[decide_eq_false h1];cases hh:s == t
     ·rfl
     ·exact absurd ((MapKept.bytes_beq s t).1 hh) hst
   ·rw[bytes_inj (show bytes s=bytes t by rw[hs,ht,of_decide_eq_true h])]
  ·rename_i a b e;injection e with e1 e2;cases e1
  ·cases h
 ·rename_i n el l hd;split at hk
  ·rename_i j hl;split at hk
   ·rename_i kk hkk;obtain⟨h1,h2⟩:=cba.1 hk;obtain⟨h3,h4⟩:=cba.1 h2;obtain⟨xs,rfl,hc⟩:=hx;have h1:=aH.1 h1;have h3:=aH.1 h3;rw[bH]at h3;have hT:=aJ hl;obtain⟨inf,-,-,k1,-,-,k2,-⟩:=hT.ex;have hcc:F.P.cellsOf el=1:=(by rw[←h1,k2];simp[Program.cellsOf,k1]);unfold kq at h;split at h
    ·rename_i a b c d e;injection e with e1 e2;cases e1
    ·rename_i a b e;injection e with e1 e2;cases e1
    ·rename_i l2 m e;injection e with e1 e2;subst e2;obtain⟨h5,h6⟩:=aB.1 h;have h5:=aH.1 h5;rw[bH,bH]at h5;obtain⟨ys,rfl,hcy⟩:=hy;refine⟨.inr ⟨by rw[mX hj hd],fun w=>?_⟩,fun hr=>?_⟩
     ·have:=aBF (n:=0) (w:=w) (dp:=9998) (xs:=xs) (ys:=ys) hT hkk hcc hc hcy h6;rw[←List.range_eq_range',h3]at this;show (Op.equalIn (9999+1) kt (.agg xs.toArray) (.agg ys.toArray)).run F.P w=.ok r w;rw[run_equalIn_array (w:=w) 9999 _ _ (mX hj hd) k1];exact this
     ·subst hr;rw[aGn h6 hc hcy]
    ·cases h
   ·cases hk
  ·cases hk
 ·cases hk
theorem aDA{P:Program}{kt:Nat}{u:Value}(hk:KR P kt u)(w:World){es:List MapEntry}(h:∀m∈es,Cmp P kt u m.key false):(Instr.findKey kt u es).run P w=.ok none w:=by
 have now:∀{d:TypeDesc},P.underlying kt=some d→∀(es:List MapEntry) (i:Nat),(∀m∈es,Instr.sameNow d u m.key=some false)→Instr.findNow d u es i=some none:=fun {d} hd es=>by
  induction es with
  |nil=>intro i _;rfl
  |cons m es ih=>intro i h;simp[Instr.findNow,h m (by simp),ih (i+1) fun x hx=>h x (by simp[hx])]
 have ask:∀(es:List MapEntry) (i:Nat),(∀m∈es,∀w,(Op.equal kt u m.key).run P w=.ok false w)→(Instr.findAsking kt u es i).run P w=.ok none w:=fun es=>by
  induction es with
  |nil=>intro i _;simp[Instr.findAsking]
  |cons m es ih=>intro i h;simp[Instr.findAsking,h m (by simp) w,ih (i+1) fun x hx=>h x (by simp[hx])]
 cases hw:(match P.underlying kt with|some (.array _ _)|some (.struct _)=>true|_=>false) with
 |true=>
  rw[run_findKey_eq w hw];refine ask es 0 fun m hm=>?_;rcases h m hm with⟨d,h1,h2⟩|⟨-,h2⟩
  ·rw[h1]at hw;cases d<;>first|(cases hw;done)|skip
   all_goals cases hk<;>rename_i hu<;>simp_all [Instr.sameNow]
  ·exact h2
 |false=>
  have hd:∃d,P.underlying kt=some d:=by cases hk<;>exact⟨_,by assumption⟩
  obtain⟨d,hd⟩:=hd;refine fK hd (now hd es 0 fun m hm=>?_);rcases h m hm with⟨d2,h1,h2⟩|⟨h1,-⟩
  ·rw[hd]at h1;injection h1 with h1;subst h1;exact h2
  ·rw[hw]at h1;cases h1
theorem aBR{P:Program}{kt:Nat}{u:Value}(hk:KR P kt u)(w:World){e1 e2:List MapEntry}{m:MapEntry}(h:∀m∈e1,Cmp P kt u m.key false)(hm:Cmp P kt u m.key true):(Instr.findKey kt u (e1++m::e2)).run P w=.ok (some (e1.length,m.val)) w:=by
 have now:∀{d:TypeDesc},Instr.sameNow d u m.key=some true→∀(es:List MapEntry) (i:Nat),(∀m∈es,Instr.sameNow d u m.key=some false)→Instr.findNow d u (es++m::e2) i=some (some (i+es.length,m.val)):=fun {d} hm es=>by
  induction es with
  |nil=>intro i _;simp[Instr.findNow,hm]
  |cons m2 es ih=>intro i h;simp[Instr.findNow,h m2 (by simp),ih (i+1) fun x hx=>h x (by simp[hx])];omega
 have ask:(∀w,(Op.equal kt u m.key).run P w=.ok true w)→∀(es:List MapEntry) (i:Nat),(∀m∈es,∀w,(Op.equal kt u m.key).run P w=.ok false w)→(Instr.findAsking kt u (es++m::e2) i).run P w=.ok (some (i+es.length,m.val)) w:=fun hm es=>by
  induction es with
  |nil=>intro i _;simp[Instr.findAsking,hm w]
  |cons m2 es ih=>intro i h;simp[Instr.findAsking,h m2 (by simp) w,ih (i+1) fun x hx=>h x (by simp[hx])];omega
 have nz:∀n:Nat,0+n=n:=Nat.zero_add;cases hw:(match P.underlying kt with|some (.array _ _)|some (.struct _)=>true|_=>false) with
 |true=>
  rw[run_findKey_eq w hw];have key:∀{m:MapEntry} {r:Bool},Cmp P kt u m.key r→∀w,(Op.equal kt u m.key).run P w=.ok r w:=fun {m r} hc=>by
    rcases hc with⟨d,h1,h2⟩|⟨-,h2⟩
    ·rw[h1]at hw;cases d<;>first|(cases hw;done)|skip
     all_goals cases hk<;>rename_i hu<;>simp_all [Instr.sameNow]
    ·exact h2
  rw[ask (key hm) e1 0 fun m hm=>key (h m hm),nz]
 |false=>
  have hd:∃d,P.underlying kt=some d:=by cases hk<;>exact⟨_,by assumption⟩
  obtain⟨d,hd⟩:=hd;have key:∀{m:MapEntry} {r:Bool},Cmp P kt u m.key r→Instr.sameNow d u m.key=some r:=fun {m r} hc=>by
    rcases hc with⟨d2,h1,h2⟩|⟨h1,-⟩
    ·rw[hd]at h1;injection h1 with h1;subst h1;exact h2
    ·rw[hw]at h1;cases h1
  rw[fK hd (now (key hm) e1 0 fun m hm=>key (h m hm)),nz]
theorem EL.no{kt:Nat}{kj:TI}{x:AV}{u:Value}(hj:Ty F.P kt kj)(hk:kok F kj.d x=true)(hx:VR c x u):∀{l:List (AV × AV)} {es:List MapEntry},EL c l es→(∀p∈l,kq x p.1=some false)→∀m∈es,Cmp F.P kt u m.key false
 | [],[],_,_,_,hm=>by cases hm
 |p::l,m::es,h,hq,m2,hm=>by
  rcases List.mem_cons.1 hm with rfl|hm
  ·exact (aEO hj hk (hq p (by simp)) hx h.1.1).1
  ·exact EL.no hj hk hx h.2 (fun x hx=>hq x (by simp[hx])) m2 hm
theorem aMv{t:Nat}{z:AV}(h:zav F t=some z):∃inf u,F.P.info? t=some inf∧inf.zero=some u∧VR c z u:=by
 obtain⟨j,h1,h2⟩:=aA.1 h;obtain⟨i,h3,h4⟩:=aA.1 h2;obtain⟨u,h5,h6⟩:=aA.1 h4;obtain⟨inf,d,zz,g1,g2,g3,g4,g5,g6,g7,g8⟩:=(aJ h1).ex;rw[h3]at g1;injection g1 with g1;subst g1;rw[h5]at g6;injection g6 with g6;subst g6;refine⟨i,u,h3,h5,?_⟩;have hc:CL c j.ze u.cells.toList:=iD g7;have one:∀{x:SV},j.ze=[x]→u.cells=#[u]→VR c (sc x) u:=fun hz hu=>by
  rw[hz,hu]at hc;exact aF.2 hc.1
 split at h6
 ·rename_i cs;injection h6 with h6;subst h6;exact⟨cs.toList,by simp,hc⟩
 ·cases h6
 ·rename_i h7 h8;have hu:u.cells=#[u]:=by cases u<;>first|rfl|exact absurd rfl (h7 _)|exact absurd rfl (h8 _)
  cases hz:j.ze with
  |nil=>rw[hz]at h6;cases h6
  |cons x l=>
   cases l with
   |nil=>rw[hz]at h6;injection h6 with h6;subst h6;exact one hz hu
   |cons y l=>rw[hz]at h6;cases h6
theorem aJz{g n:Nat}{es:Array MapEntry}{l:List (AV × AV)}(hg:c.w.heap[g]? =some (.map es n))(hl:EL c l es.toList)(hn:es.toList.map (·.born)=List.range es.size)(hb:n=es.size):LpR c (mpL l) g:=
 ⟨_,hg,(fun _ _ _ e=>(by cases e)),(fun _ e=>(by cases e)),(fun e=>(by cases e)),(fun _ _ e=>(by cases e)),(fun l' e=>(by
  injection e with e;subst e;exact⟨es,n,rfl,hl,hn,hb⟩)),fun _ e=>(by cases e)⟩
theorem aEP{g m n s:Nat}{k:List Nat}(hm:c.k m)(hg:c.w.heap[g]? =some (.mapIter (some (c.r m)) n k.toArray s)):LpR c (miL m k n s) g:=
 ⟨_,hg,(fun _ _ _ e=>(by cases e)),(fun _ e=>(by cases e)),(fun e=>(by cases e)),(fun _ _ e=>(by cases e)),(fun _ e=>(by cases e)),fun q e=>(by
  injection e with e;subst e;exact⟨hm,rfl⟩)⟩
theorem aKA{t:Nat}{r:Option Operand}(hr:Rl c wb h)(ho:o.op=.makeMap t r)(hx:aBr F h t r=some (v,h')):∃u w',OpR F.P a.eval o c.w u w'∧Po c wb h' v u w':=by
 obtain⟨i,h1,h2⟩:=aA.1 hx;obtain⟨kt,el,hd,h3⟩:=jL h2;cases r with
 |some r=>cases h3
 |none=>
  have h4:dK h.n (fun n=>vh (.q n) ⟨h.h,Nat.succ n,h.bar,h.l.set (mpL []) n⟩)=some (v,h'):=h3;rw[aM]at h4;have h6:=aN h4;injection h6 with h6 h7;subst h6;subst h7;have hrun:(Instr.makeMap t none).run F.P c.w=.ok (.map (some c.w.heap.size)) (c.w.alloc (.map #[] 0)):=rfl;have R:=hr.itn (p:=mpL []) (o:=.map #[] 0) (aJz (Array.getElem?_push_size ..) trivial (by simp) (by simp));refine⟨_,_,OpR.vl (s:=Instr.makeMap t none) (by unfold execOp;rw[ho];rfl) hrun,_,rfl,rD hr.k _,R,aF.2 ⟨.inr hr.n.symm,?_⟩⟩;rw[←hr.n,mK]
theorem aMw{ok bb:Bool}{z v:AV}{u:Value}(hx:lkR h ok z bb=some (v,h'))(hz:VR c z u):h'=h∧VR c v (if ok=true then .tuple #[u,.bool bb] else u):=by
 unfold lkR at hx;rw[aL]at hx;cases ok with
 |true=>
  rw[if_pos rfl]at hx;cases z with
  |c g l=>
   injection hx with hx;injection hx with h1 h2;subst h1;subst h2;exact⟨rfl,[u,.bool bb],rfl,hz,⟨_,rfl,rfl⟩,trivial⟩
  |t l=>cases hx
 |false=>
  rw[if_neg (by simp)]at hx;injection hx with hx;injection hx with h1 h2;subst h1;subst h2;exact⟨rfl,hz⟩
theorem aMx{t:Nat}{x ix:Operand}{ok:Bool}(hr:Rl c wb h)(ht:Tr c nt e a.tmps)(ho:o.op=.lookup t x ix ok)(hx:aAH F e h t x ix ok=some (v,h')):∃u w',OpR F.P a.eval o c.w u w'∧Po c wb h' v u w':=by
 obtain⟨i,h1,h2⟩:=aA.1 hx;obtain⟨kt,el,hd,h3⟩:=jL h2;obtain⟨kj,h4,h5⟩:=aA.1 h3;obtain⟨z,h6,h7⟩:=aA.1 h5;obtain⟨v1,h8,h9⟩:=aA.1 h7;obtain⟨s,rfl,h10⟩:=aI.1 h9;obtain⟨l,h11,h12⟩:=aA.1 h10;obtain⟨kv,h13,h14⟩:=aA.1 h12;obtain⟨h15,h16⟩:=aB.1 h14;obtain⟨r,h17,h18⟩:=aA.1 h16;obtain⟨inf,zu,hi,hz,hzv⟩:=aMv (c:=c) h6;have hkv:=aS ht h13;have hK:=aGm (aJ h4) h15 hkv;have hm:=aF.1 (aS ht h8);have hu:=aAN (aJ h1) hd;have hes:∃es:Array MapEntry,EL c l es.toList∧((a.eval x=.map none∧es=#[])∨∃r n,a.eval x=.map (some r)∧c.w.heap[r]? =some (.map es n)):=by
  unfold mpE at h11;split at h11
  ·injection h11 with h11;subst h11;exact⟨#[],trivial,.inl ⟨hm,rfl⟩⟩
  ·rename_i id;obtain⟨p,hp,hmp⟩:=aA.1 h11;obtain⟨hid,hm⟩:=hm;obtain⟨ob,g1,-,-,-,-,g5,-⟩:=((hr.lp id p hp).2 hid).1;obtain⟨es,n,rfl,hel,-,-⟩:=g5 l hmp;exact⟨es,hel,.inr ⟨_,n,hm,g1⟩⟩
  ·cases h11
 obtain⟨es,hel,hes⟩:=hes;have key:∀(w1:AV) (bb:Bool) (fr:Option (Nat × Value)) (uu:Value),lkR h ok w1 bb=some (v,h')→VR c w1 uu→(Instr.findKey kt (a.eval ix) es.toList).run F.P c.w=.ok fr c.w→
     (fr=none∧bb=false∧(zeroValue el).run F.P c.w=.ok uu c.w)∨(∃i,fr=some (i,uu)∧bb=true)→∃u w',OpR F.P a.eval o c.w u w'∧Po c wb h' v u w':=fun w1 bb fr uu hl hv hf hg=>by
  obtain⟨rfl,hvv⟩:=aMw hl hv;refine⟨_,c.w,OpR.vl (s:=Instr.lookup t (a.eval x) (a.eval ix) ok) (by unfold execOp;rw[ho]) ?_,Po.same hr hvv⟩;have hK:=fun em=>hK.chk em c.w;rcases hes with⟨hm,rfl⟩|⟨r,n,hm,g1⟩
  ·unfold Instr.lookup;rw[hm];simp only[Sem.run_bind,run_underlying hu,Result.andThen_ok,Sem.run_pure,hK,hf];rcases hg with⟨rfl,rfl,hg⟩|⟨i,rfl,rfl⟩
   ·simp only[Sem.run_bind,hg,Result.andThen_ok,Sem.run_pure]
   ·simp only[Sem.run_bind,Result.andThen_ok,Sem.run_pure]
  ·unfold Instr.lookup;rw[hm];simp only[Sem.run_bind,run_underlying hu,Result.andThen_ok,Sem.run_pure,gm g1,hK,hf];rcases hg with⟨rfl,rfl,hg⟩|⟨i,rfl,rfl⟩
   ·simp only[Sem.run_bind,hg,Result.andThen_ok,Sem.run_pure]
   ·simp only[Sem.run_bind,Result.andThen_ok,Sem.run_pure]
 rcases aMu h17 with⟨rfl,h19⟩|⟨l1,p,l2,rfl,h19,h20,rfl⟩
 ·exact key z false none zu h18 hzv (aDA hK c.w (hel.no (aJ h4) h15 hkv h19)) (.inl ⟨rfl,rfl,by simp[zeroValue,typeInfo,hi,hz]⟩)
 ·obtain⟨e1,m,e2,he,k1,k2,k3⟩:=hel.split;refine key p.2 true (some (e1.length,m.val)) m.val h18 k2.2 ?_ (.inr ⟨_,rfl,rfl⟩);rw[he];exact aBR hK c.w (k1.no (aJ h4) h15 hkv h19) (aEO (aJ h4) h15 h20 hkv k2.1).1
theorem aGo{t:Nat}{m k x:Operand}(hr:Rl c wb h)(ht:Tr c nt e a.tmps)(ho:o.op=.mapUpdate t m k x∨o.op=.insert t m k x)(hx:uY F e h t m k x=some (v,h')):∃u w',OpR F.P a.eval o c.w u w'∧Po c wb h' v u w':=by
 obtain⟨i,h1,h2⟩:=aA.1 hx;obtain⟨kt,el,hd,h3⟩:=jL h2;obtain⟨kj,h4,h5⟩:=aA.1 h3;obtain⟨v1,h8,h9⟩:=aA.1 h5;obtain⟨s,rfl,h10⟩:=aI.1 h9;have hu:=aAN (aJ h1) hd;have he:execOp a.eval o=(do Instr.mapUpdate t (a.eval m) (a.eval k) (a.eval x);pure Next.skip):=by
  unfold execOp;rcases ho with ho|ho<;>rw[ho]
 split at h10
 ·rename_i id;obtain⟨hbar,h11⟩:=aB.1 h10;obtain⟨p,hp,h12⟩:=aA.1 h11;obtain⟨l,hmp,h13⟩:=aA.1 h12;obtain⟨kv,hk1,h14⟩:=aA.1 h13;obtain⟨xv,hx1,h15⟩:=aA.1 h14;obtain⟨hok,h16⟩:=aB.1 h15;obtain⟨gg,ll,rfl,h17⟩:=iL.1 h16;obtain⟨l',h18,h19⟩:=aA.1 h17;injection h19 with h19;injection h19 with e1 e2;subst e1;subst e2;obtain⟨hid,hm⟩:=aF.1 (aS ht h8);obtain⟨ob,g1,g2,g3,-,-,g5,-⟩:=((hr.lp id p hp).2 hid).1;obtain⟨es,n,rfl,hel,hnd,hbn⟩:=g5 l hmp;have hkv:=aS ht hk1;have hxv:=aS ht hx1;have hK:=aGm (aJ h4) hok hkv;have fin:∀(es':Array MapEntry) (n':Nat),(Instr.mapUpdate t (a.eval m) (a.eval k) (a.eval x)).run F.P c.w=.ok () (c.w.putObj (c.r id) (.map es' n'))→EL c l' es'.toList→es'.toList.map (·.born)=List.range es'.size→n'=es'.size→∃u w',OpR F.P a.eval o c.w u w'∧Po c wb (h.putLp id (mpL l')) un u w':=fun es' n' hrun hel' hnd' hbn'=>by
   have X:Xt c (c.obj (c.r id) (.map es' n')):=lX g1 g2 g3;exact⟨_,_,OpR.sk he hrun,_,rfl,X,hr.loop hp hid (bA.1 hbar) g1 g2 g3 (aJz (World.putObj_heap_same (Array.getElem?_eq_some_iff.1 g1).1) (hel'.xs X.xs) hnd' hbn'),mW⟩
  have hset:∀ob:Obj,(setObj (c.r id) ob).run F.P c.w=.ok () (c.w.putObj (c.r id) ob):=fun ob=>by
   simp[setObj,Sem.run,g1,World.putObj]
  rcases aKz h18 with⟨h20,rfl⟩|⟨l1,p0,l2,rfl,h20,h21,rfl⟩
  ·refine fin (es.push {key:=a.eval k,val:=a.eval x,born:=n}) (n+1) ?_ ?_ ?_ ?_
   ·have hf:=aDA hK c.w (hel.no (aJ h4) hok hkv h20);unfold Instr.mapUpdate;rw[hm];simp only[Sem.run_bind,run_underlying hu,Result.andThen_ok,gm g1,hK.chk,hf,hset]
   ·rw[Array.toList_push];exact hel.app ⟨⟨hkv,hxv⟩,trivial⟩
   ·rw[Array.toList_push,List.map_append,hnd,Array.size_push,List.range_succ,hbn];rfl
   ·rw[Array.size_push,hbn]
  ·obtain⟨e1,m0,e2,hes,k1,k2,k3⟩:=hel.split;have hq:=aEO (aJ h4) hok h21 hkv k2.1;have hkey:a.eval k=m0.key:=hq.2 rfl;have hf:=aBR (e2:=e2) hK c.w (k1.no (aJ h4) hok hkv h20) hq.1;rw[←hes]at hf;have hget:es[e1.length]? =some m0:=(by rw[←Array.getElem?_toList,hes];simp);have hmod:(es.modify e1.length fun e=>{e with key:=a.eval k,val:=a.eval x}).toList=e1++{m0 with key:=a.eval k,val:=a.eval x}::e2:=by
    rw[Array.toList_modify,hes];exact aGl _ _ _ _
   refine fin (es.modify e1.length fun e=>{e with key:=a.eval k,val:=a.eval x}) n ?_ ?_ ?_ ?_
   ·have hst:(Instr.keyThatStays (((es[e1.length]?).map (·.key)).getD (a.eval k)) (a.eval k)).run F.P c.w=.ok (a.eval k) c.w:=by
     rw[hget];show (Instr.keyThatStays m0.key (a.eval k)).run F.P c.w=_;rw[←hkey];exact hK.stays c.w
    unfold Instr.mapUpdate;rw[hm];simp only[Sem.run_bind,run_underlying hu,Result.andThen_ok,gm g1,hK.chk,hf,hst,hset]
   ·rw[hmod];exact k1.app ⟨⟨hkv,hxv⟩,k3⟩
   ·rw[hmod,Array.size_modify,←hnd,hes];simp
   ·rw[Array.size_modify];exact hbn
 ·cases h10
theorem qL{v:AV}{p:Bool × List SV}{u:Value}(h:prt v=some p)(hv:VR c v u):VC c p.1 p.2 u:=by
 cases v with
 |c g l=>injection h with h;subst h;exact hv
 |t l=>cases h
theorem jA{P:Program}{w:World}{r:Nat}{m:Option Nat}{s:Nat}{sn:Array Nat}{st:Nat}(hb:w.heap[r]? =some (.mapIter m s sn st)):(getObj r).run P w=.ok (.mapIter m s sn st) w:=by
 simp[getObj,Sem.run,hb]
theorem aBS{x:Operand}{α:Type}{k:Nat→Mi→List (AV × AV)→Option α}{y:α}(hr:Rl c wb h)(ht:Tr c nt e a.tmps)(hx:itM e h x k=some y):
  ∃id p q l es,c.k id∧h.l.get id=some p∧a.eval x=.pointer (some ⟨c.r id,0,none⟩)∧c.w.heap[c.r id]? =some (.mapIter (some (c.r q.m)) q.n q.k.toArray q.s)∧c.k q.m∧c.w.heap[c.r q.m]? =some (.map es es.size)∧EL c l es.toList∧es.toList.map (·.born)=List.range es.size∧k id q l=some y:=by
 obtain⟨id,p,q,r,l,h0,h2,h3,h4,h5,hx⟩:=wQ hx;obtain⟨hid,hp⟩:=aF.1 (aS ht h0);obtain⟨ob,g1,-,-,-,-,-,g6⟩:=((hr.lp id p h2).2 hid).1;obtain⟨hm,rfl⟩:=g6 q h3;obtain⟨ob2,k1,-,-,-,-,k5,-⟩:=((hr.lp q.m r h4).2 hm).1;obtain⟨es,n,rfl,k6,k7,rfl⟩:=k5 l h5;exact⟨id,p,q,l,es,hid,h2,hp,g1,hm,k1,k6,k7,hx⟩
theorem aGp{l:List (AV × AV)}{p:AV × AV}{es:Array MapEntry}(hl:l=[p])(hel:EL c l es.toList)(hb:es.toList.map (·.born)=List.range es.size):∃m:MapEntry,es=#[m]∧m.born=0∧VR c p.1 m.key∧VR c p.2 m.val:=by
 subst hl;have h1:=hel.len
 match hm:es.toList,h1 with
 | [m],_=>
   have he:es=#[m]:=by
    apply Array.toList_inj.1;rw[hm]
   subst he;rw[hm]at hel;refine⟨m,rfl,?_,hel.1⟩;simpa using hb
theorem aIi{es:Array MapEntry}(hel:EL c [] es.toList):es=#[]:=by
 have h1:=hel.len;apply Array.toList_inj.1;exact List.eq_nil_of_length_eq_zero h1
theorem aIj{t:Nat}{x:Operand}(hr:Rl c wb h)(ht:Tr c nt e a.tmps)(ho:o.op=.range t x){i:TI}{kt el id:Nat}{p:Lp}{l:List (AV × AV)}(h1:F.ti t=some i)(hd:i.d=.mp kt el)(h3:ev e x=some (sc (.q id)))(hp:h.l.get id=some p)(hl:p.mp=some l):
  ∃u w',OpR F.P a.eval o c.w u w'∧Po c wb ⟨h.h,Nat.succ h.n,h.bar,h.l.set (miL id [] (len l) (len l)) h.n⟩ (sc (.p h.n 0)) u w':=by
 obtain⟨hid,hm⟩:=aF.1 (aS ht h3);obtain⟨ob,g1,-,-,-,-,g5,-⟩:=((hr.lp id p hp).2 hid).1;obtain⟨es,n,rfl,k6,k7,rfl⟩:=g5 l hl;have hsz:len l=es.size:=by rw[bH,←k6.len,Array.length_toList]
 have hrun:(Instr.range t (a.eval x)).run F.P c.w=.ok (.pointer (some ⟨c.w.heap.size,0,none⟩)) (c.w.alloc (.mapIter (some (c.r id)) es.size #[] es.size)):=by
  rw[hm];unfold Instr.range;simp only[Sem.run_bind,run_underlying (aAN (aJ h1) hd),gm g1,Result.andThen_ok];rfl
 have X:=rD (c:=c) hr.k (.mapIter (some (c.r id)) es.size #[] es.size);have R:=hr.itn (p:=miL id [] (len l) (len l)) (o:=.mapIter (some (c.r id)) es.size #[] es.size) (aEP (X.k _ hid) (by rw[X.r _ hid,hsz];exact Array.getElem?_push_size ..));refine⟨_,_,OpR.vl (s:=Instr.range t (a.eval x)) (by unfold execOp;rw[ho]) hrun,_,rfl,X,R,aF.2 ⟨.inr hr.n.symm,?_⟩⟩;rw[←hr.n,mK]
theorem aBT:∀l:List Nat,aEz l=l.getLast?
 | []=>rfl
 | [x]=>rfl
 |x::y::l=>by
  show Option.rec (motive:=fun _=>Option Nat) (some x) some (aEz (y::l))=_;rw[aBT (y::l)];cases h:(y::l).getLast? with
  |none=>simp at h
  |some z=>rw[List.getLast?_cons_cons,h]
theorem aDB:∀(l:List MapEntry) (s j:Nat),l.map (·.born)=List.range' s l.length→s≤j→l.find? (fun e=>e.born == j)=l[j-s]?
 | [],_,_,_,_=>by simp
 |m::l,s,j,h,hj=>by
  rw[List.map_cons,List.length_cons,List.range'_succ]at h;injection h with h1 h2;by_cases he:s=j
  ·subst he;rw[List.find?_cons_of_pos (by simp[h1])];simp
  ·rw[List.find?_cons_of_neg (by simp[h1,he]),aDB l (s+1) j h2 (by omega)];rw[show j-s=(j-(s+1))+1 from by omega,List.getElem?_cons_succ]
theorem find_born{es:Array MapEntry}(hb:es.toList.map (·.born)=List.range es.size)(j:Nat):es.find? (fun e=>e.born == j)=es[j]? :=by
 have:=aDB es.toList 0 j (by rw[hb,List.range_eq_range',Array.length_toList]) (Nat.zero_le _);rw[←Array.find?_toList,this,Nat.sub_zero,Array.getElem?_toList]
theorem EL.at_:∀{l:List (AV × AV)} {r:List MapEntry} {j:Nat} {p:AV × AV},EL c l r→l[j]? =some p→∃m,r[j]? =some m∧VR c p.1 m.key∧VR c p.2 m.val
 | [],[],_,_,_,h=>by simp at h
 |y::_,v::_,0,p,h,hx=>by simp at hx;subst hx;exact⟨v,rfl,h.1⟩
 |_::_,_::_,j+1,p,h,hx=>by
  obtain⟨m,h1,h2⟩:=EL.at_ (j:=j) h.2 (by simpa using hx);exact⟨m,by simpa using h1,h2⟩
theorem aKB{x:Operand}(hr:Rl c wb h)(ht:Tr c nt e a.tmps)(ho:o.op=.entry x)(hx:xK e h x=some (v,h')):∃u w',OpR F.P a.eval o c.w u w'∧Po c wb h' v u w':=by
 obtain⟨id,p,q,l,es,hid,hp,hv,g1,hm,k1,k6,k7,hx⟩:=aBS hr ht hx;unfold enM at hx;obtain⟨j,h0,hx⟩:=aA.1 hx;obtain⟨h2,hx⟩:=aB.1 hx;obtain⟨p0,h1,hx⟩:=aA.1 hx;obtain⟨pa,h3,hx⟩:=aA.1 hx;obtain⟨pc,h4,hx⟩:=aA.1 hx;injection hx with hx;injection hx with e1 e2;subst e1;subst e2;rw[aBT]at h0;rw[gN,List.head?_drop]at h1;obtain⟨m,hm1,hk1,hk2⟩:=k6.at_ h1;have hsz:es.size=len l:=by rw[bH,←k6.len,Array.length_toList]
 have hs:=aH.1 h2;rw[←hsz]at hs;have hf:=find_born k7 j;rw[←Array.getElem?_toList,hm1]at hf;have hb:q.k.toArray.back? =some j:=by rw[List.back?_toArray];exact h0
 refine⟨.tuple #[m.key,m.val],c.w,OpR.vl (s:=Instr.entry (a.eval x)) (by unfold execOp;rw[ho]) ?_,Po.same hr ⟨[m.key,m.val],rfl,qL h3 hk1,qL h4 hk2,trivial⟩⟩;rw[hv];unfold Instr.entry;simp only[Sem.run_bind,jA g1,Result.andThen_ok,hb,gm k1,hs,bne_self_eq_false,Bool.false_eq_true,if_false,Sem.run_pure,hf]
theorem aKC{x:Operand}(hr:Rl c wb h)(ht:Tr c nt e a.tmps)(ho:o.op=.next x false)(hx:xL e h x=some (v,h')):∃u w',OpR F.P a.eval o c.w u w'∧Po c wb h' v u w':=by
 obtain⟨id,p,q,l,es,hid,hp,hv,g1,hm,k1,k6,k7,hx⟩:=aBS hr ht hx;obtain⟨hbar,hx⟩:=aB.1 hx;have he:execOp a.eval o=(do pure (Next.value (←Instr.next (a.eval x) false o.type))):=by unfold execOp;rw[ho]
 have over:(Instr.next (a.eval x) false o.type).run F.P c.w=.ok (.tuple #[.bool false]) c.w→∃u w',OpR F.P a.eval o c.w u w'∧Po c wb h (.t [(false,[.b false])]) u w':=fun hrun=>
  ⟨_,c.w,OpR.vl he hrun,Po.same hr ⟨[.bool false],rfl,⟨_,rfl,rfl⟩,trivial⟩⟩
 unfold nxM at hx;split at hx
 ·split at hx
  ·rename_i hk;injection hx with hx;injection hx with e1 e2;subst e1;subst e2;have hes:=aIi k6;subst hes;refine over ?_;rw[hv];rw[hk]at g1;unfold Instr.next;simp[jA g1,gm k1,choose,Sem.run,Question.forced]
  ·cases hx
 ·rename_i p0;obtain⟨m,rfl,hb,hk1,hk2⟩:=aGp rfl k6 k7;split at hx
  ·rename_i hk;obtain⟨h1,hx⟩:=aB.1 hx;obtain⟨pa,h3,hx⟩:=aA.1 hx;obtain⟨pc,h4,hx⟩:=aA.1 hx;injection hx with hx;injection hx with e1 e2;subst e1;subst e2;rw[hk,aH.1 h1]at g1;have hrun:(Instr.next (a.eval x) false o.type).run F.P c.w=.ok (.tuple #[.bool true,m.key,m.val]) (c.w.putObj (c.r id) (.mapIter (some (c.r q.m)) 1 #[0] 1)):=by
    rw[hv];unfold Instr.next;simp[jA g1,gm k1,choose,Sem.run,Question.forced,hb,setObj,g1,World.putObj]
   have X:Xt c (c.obj (c.r id) (.mapIter (some (c.r q.m)) 1 #[0] 1)):=lX g1 (fun _ _ _ e=>(by cases e)) (fun _ e=>(by cases e));exact⟨_,_,OpR.vl he hrun,_,rfl,X,hr.loop hp hid (bA.1 hbar) g1 (fun _ _ _ e=>(by cases e)) (fun _ e=>(by cases e)) (aEP hm (World.putObj_heap_same (Array.getElem?_eq_some_iff.1 g1).1)),⟨[.bool true,m.key,m.val],rfl,⟨_,rfl,rfl⟩,(qL h3 hk1).xs X.xs,(qL h4 hk2).xs X.xs,trivial⟩⟩
  ·rename_i j hk;obtain⟨h1,hx⟩:=aB.1 hx;obtain⟨h2,hx⟩:=aB.1 hx;injection hx with hx;injection hx with e1 e2;subst e1;subst e2;rw[hk,aH.1 h1]at g1;have h2:=aQ.1 h2;refine over ?_;rw[hv];unfold Instr.next;have h3:¬q.s≤0:=(by omega);simp[jA g1,gm k1,choose,Sem.run,Question.forced,hb,h3]
  ·cases hx
 ·cases hx
theorem aKD{t:Nat}{x:Operand}(hr:Rl c wb h)(ht:Tr c nt e a.tmps)(ho:o.op=.range t x)(hx:tJ F e h t x=some (v,h')):∃u w',OpR F.P a.eval o c.w u w'∧Po c wb h' v u w':=by
 obtain⟨i,h1,h2⟩:=aA.1 hx;obtain⟨v1,h3,h4⟩:=aA.1 h2;obtain⟨s,rfl,h5⟩:=aI.1 h4;split at h5
 ·rename_i l hd;rw[aM]at h5;have h6:=aN h5;injection h6 with h6 h7;subst h6;subst h7;obtain⟨st,hs1,hs2⟩:=aF.1 (aS ht h3);have hrun:=run_range_string (P:=F.P) c.w t st (jZ (aJ h1) hd);rw[←hs1]at hrun;have R:=hr.itn (p:=itL l 0) (o:=.stringIter st 0) (aJy (Array.getElem?_push_size ..) hs2);refine⟨_,_,OpR.vl (s:=Instr.range t (a.eval x)) (by unfold execOp;rw[ho]) hrun,_,rfl,rD hr.k _,R,aF.2 ⟨.inr hr.n.symm,?_⟩⟩;rw[←hr.n,mK]
 ·obtain⟨p,h6,h7⟩:=aA.1 h5;obtain⟨l,h8,h9⟩:=aA.1 h7;rename_i kt el id hd;rw[aM,aM]at h9;have h9:=aN h9;injection h9 with h9 h10;subst h9;subst h10;exact aIj hr ht ho h1 hd h3 h6 h8
 ·cases h5
theorem aKE{x:Operand}(hr:Rl c wb h)(ht:Tr c nt e a.tmps)(ho:o.op=.next x true)(hx:uZ e h x true=some (v,h')):∃u w',OpR F.P a.eval o c.w u w'∧Po c wb h' v u w':=by
 have h1:=hx;obtain⟨v1,h2,h3⟩:=aA.1 h1;obtain⟨s,rfl,h4⟩:=aI.1 h3;have he:execOp a.eval o=(do pure (Next.value (←Instr.next (a.eval x) true o.type))):=by unfold execOp;rw[ho]
 split at h4
 ·rename_i id off;obtain⟨h5,h6⟩:=aB.1 h4;obtain⟨h7,h8⟩:=aB.1 h6;obtain⟨p,h9,h10⟩:=aA.1 h8;obtain⟨⟨l,k⟩,h11,h12⟩:=aA.1 h10;have h5:=aH.1 h5;subst h5;obtain⟨hid,hp⟩:=aF.1 (aS ht h2);obtain⟨ob,g1,g2,g3,g4,g5,-⟩:=((hr.lp id p h9).2 hid).1;obtain⟨st,rfl,hs⟩:=g5 l k h11;have h12:Option.rec (motive:=fun _=>Option VH) (some (.t [(false,[.b false])],h)) (nx1 h id l k) (drp k l).head? =some (v,h'):=h12;rw[gN,List.head?_drop]at h12;have hsz:l.length=st.size:=(by rw[←hs,bC]);cases hb:l[k]? with
  |none=>
   rw[hb]at h12;injection h12 with h12;injection h12 with h13 h14;subst h13;subst h14;have hk:¬k<st.size:=by
     have:=List.getElem?_eq_none_iff.1 hb;omega
   exact⟨_,c.w,OpR.vl he (by rw[hp];exact aAz g1 _ hk),Po.same hr ⟨[.bool false],rfl,⟨_,rfl,rfl⟩,trivial⟩⟩
  |some b=>
   rw[hb]at h12;obtain⟨h13,h14⟩:=aB.1 (show nx1 h id l k b=some (v,h') from h12);rw[aM]at h14;injection h14 with h14;injection h14 with h15 h16;subst h15;subst h16;have h13:=aQ.1 h13;have hk:k<st.size:=by
     have:=(List.getElem?_eq_some_iff.1 hb).1;omega
   have hbb:(st[k]'hk).toNat=b:=by
     have h2:(bytes st)[k]? =some b:=(by rw[hs];exact hb);have h3:=(List.getElem?_eq_some_iff.1 h2).2;unfold bytes at h3;rw[List.getElem_map]at h3;exact h3
   have hrun:=run_next_at (P:=F.P) g1 o.type hk (by rw[hbb];exact h13);rw[←hp,hbb]at hrun;have X:Xt c (c.obj (c.r id) (.stringIter st (k+1))):=lX g1 g2 g3;refine⟨_,_,OpR.vl he hrun,_,rfl,X,hr.loop h9 hid (bA.1 h7) g1 g2 g3 (aJy (World.putObj_heap_same (Array.getElem?_eq_some_iff.1 g1).1) hs),⟨[.bool true,.int .i64 k,.int .i32 b],rfl,⟨_,rfl,rfl⟩,⟨_,rfl,rfl⟩,⟨_,rfl,rfl⟩,trivial⟩⟩
 ·cases h4
theorem aMy{x:Operand}{bb:Bool}(hr:Rl c wb h)(ht:Tr c nt e a.tmps)(ho:o.op=.next x bb)(hx:uZ e h x bb=some (v,h')):∃u w',OpR F.P a.eval o c.w u w'∧Po c wb h' v u w':=by
 cases bb with
 |false=>exact aKC hr ht ho hx
 |true=>exact aKE hr ht ho hx
end
section
variable {F:Cf} {c d:Cx} {wb:World} {h h':H} {q:Bool} {nt fn:Nat} {e e':Env} {a a':Act} {b:Frame} {ex:bG} {o:Oper} {ops:Array Oper} {i:Nat} {v:AV}
theorem nV{P:Program}{bb:Builtin}{xs:Array Operand}{ats:Array TypeId}{w w':World}{u:Value}{s:Sem Value}(ho:o.op=.call {callee:=.builtin bb,args:=xs,argTypes:=ats})
  (hb:∀cs,builtin bb ats o.type cs (xs.map a.eval)=(do pure (Next.value (←s)))) (hs:s.run P w=.ok u w'):OpR P a.eval o w u w':=by
 left;unfold execOp;rw[ho];simp only[resolve,Sem.run_bind,Sem.run_pure,Result.andThen_ok,invoke,hb,hs]
theorem aOa(hln:aIg F){bb:Builtin}{xs:Array Operand}{ats:Array TypeId}(hz:∀(c:Cx) (wb:World) (a:Act),Fr F c wb nt h e a→∀t,c.z t=F.P.cellsOf t)(hoi:ops[i]? =some o)(ho:o.op=.call {callee:=.builtin bb,args:=xs,argTypes:=ats})
  (hx:(ob (evL e xs.toList) fun l=>bi F h bb ats.toList l)=some (v,h')):kE F nt ops i o e h v h':=by
 obtain⟨l,h1,h2⟩:=aA.1 hx;refine bD hoi (fun c hc=>by rw[ho]at hc;cases hc) (fun c wb a f=>?_);have hv:=nS f.t h1;have e1:xs.map a.eval=(xs.toList.map a.eval).toArray:=by
  apply Array.toList_inj.1;simp
 have e2:ats=ats.toList.toArray:=by simp
 cases bb with
 |len=>
  obtain⟨u,w',k1,k2⟩:=aN3 hln (t2:=o.type) f.r h2 hv;exact⟨u,w',nV ho (fun cs=>rfl) (by rw[e1,e2];exact k1),k2⟩
 |min=>
  obtain⟨u,w',k1,k2⟩:=aN4 (t1:=ats) (t2:=o.type) f.r h2 hv;exact⟨u,w',nV ho (fun cs=>rfl) (by rw[e1];exact k1),k2⟩
 |max=>
  obtain⟨u,w',k1,k2⟩:=aN5 (t1:=ats) (t2:=o.type) f.r h2 hv;exact⟨u,w',nV ho (fun cs=>rfl) (by rw[e1];exact k1),k2⟩
 |cap=>
  obtain⟨u,w',k1,k2⟩:=aN9 (t2:=o.type) f.r h2 hv;exact⟨u,w',nV ho (fun cs=>rfl) (by rw[e1,e2];exact k1),k2⟩
 |copy=>
  obtain⟨u,w',k1,k2⟩:=aMt (t2:=o.type) f.r h2 hv;exact⟨u,w',nV ho (fun cs=>rfl) (by rw[e1,e2];exact k1),k2⟩
 |clear=>
  obtain⟨u,w',k1,k2⟩:=aKy (t2:=o.type) f.r h2 hv;exact⟨u,w',nV ho (fun cs=>rfl) (by rw[e1,e2];exact k1),k2⟩
 |append=>
  obtain⟨u,w',k1,k2⟩:=aIh (t2:=o.type) f.r (hz c wb a f) h2 hv;exact⟨u,w',nV ho (fun cs=>rfl) (by rw[e1,e2];exact k1),k2⟩
 |_=>cases h2
def qO(F:Cf)(ex:bG):Prop:=∀(nt:Nat) (ops:Array Oper) (i:Nat) (o:Oper) (e:Env) (h:H) (v:AV) (h':H) (g:Operand) (xs:Array Operand) (ats:Array TypeId) (l:Nat) (args:List AV),ops[i]? =some o→o.op=.call {callee:=.value g,args:=xs,argTypes:=ats}→ev e g=some (sc (.y l))→evL e xs.toList=some args→aEG ex l args h=some (v,h')→kE F nt ops i o e h v h'
theorem aGq{f0 t:Nat}{m:String}{G:Func}{g:Operand}{xs:Array Operand}{ats:Array TypeId}(ho:o.op=.call {callee:=.value g,args:=xs,argTypes:=ats})(hv:a.eval g=.func (.method m) #[.iface t (.agg #[])] #[])(hm:kS F t m=some f0)(hg:F.P.funcs[f0]? =some G)(hn:(G.name == "runtime.NumGoroutine")=false)(hb:G.body.isSome=true)(w:World):
  (execOp a.eval o).run F.P w=.ok (.enter f0 (.agg #[]::xs.toList.map a.eval).toArray) w:=by
 obtain⟨n,hn2⟩:=wP F.P;have hrc:=kF (P:=F.P) hg hn hb (.agg #[]::xs.toList.map a.eval).toArray w;obtain⟨A,hA⟩:∃A,xs.map a.eval=A:=⟨_,rfl⟩
 have hl:xs.toList.map a.eval=A.toList:=by rw[←hA,Array.toList_map]
 have e1:#[Value.agg #[]]++A=(.agg #[]::xs.toList.map a.eval).toArray:=by
  apply Array.toList_inj.1;rw[hl];simp
 have e2:∀r:Value,(#[r]++A)[0]? =some r:=fun r=>by
  rw[←Array.getElem?_toList];simp
 have e3:∀r:Value,(#[r]++A).extract 1 (#[r]++A).size=A:=fun r=>by
  apply Array.toList_inj.1;simp
 have hd:(Deferred.ofValue (.func (.method m) #[.iface t (.agg #[])] #[]) A)=pure {target:=.fn (.method m) #[],args:=#[.iface t (.agg #[])]++A}:=rfl;unfold execOp;rw[ho];simp only[resolve,hv,hA,hd,Sem.run_bind,Sem.run_pure,Result.andThen_ok,invoke,e2,e3,callMethod,run_program,hn2,xX hm n w,e1];exact hrc
theorem aOb(hF:FOk F)(hex:fG F ex)(hY:qO F ex){g:Operand}{xs:Array Operand}{ats:Array TypeId}(hoi:ops[i]? =some o)(ho:o.op=.call {callee:=.value g,args:=xs,argTypes:=ats})
  (hx:(ob (ev e g) fun f=>ob (evL e xs.toList) fun l=>aY F ex f l h)=some (v,h')):kE F nt ops i o e h v h':=by
 obtain⟨fv,h1,h2⟩:=aA.1 hx;obtain⟨l,h3,h4⟩:=aA.1 h2;obtain⟨s,rfl,h5⟩:=aI.1 h4;split at h5
 rotate_left
 ·rename_i y;obtain⟨m,t,rfl,h6⟩:=aBB h5;obtain⟨f0,h7,h8⟩:=aA.1 h6;intro c wb a f hw b rest k cs;have k1:=(aF.1 (aS f.t h1)).1;obtain⟨⟨G,k3,k4⟩,k5⟩:=fT (vs:=.agg #[]::xs.toList.map a.eval) hF hex h8 f.r f.z f.b ⟨⟨[],rfl,trivial⟩,nS f.t h3⟩;have hrun:=aGq (a:=a) ho k1 h7 k3 (hF.ng _ _ k3) k4 c.w;exact zJ hoi (fun c hc=>by rw[ho]at hc;cases hc) hw hrun k5
 rotate_left
 rotate_left
 ·rename_i f0 fI;intro c wb a f hw b rest k cs;obtain⟨k1,k2⟩:=aF.1 (aS f.t h1);rw[iY]at h5;obtain⟨⟨G,k3,k4⟩,k5⟩:=fT hF hex h5 f.r f.z f.b ((nS f.t h3).app (aDy k1));have hrun:=aGk (P:=F.P) (a:=a) (g:=g) ho k2 k3 (hF.ng _ _ k3) k4 c.w;have e1:xs.map a.eval++(fI.map (ptr c)).toArray=(xs.toList.map a.eval++fI.map (ptr c)).toArray:=by
   apply Array.toList_inj.1;simp
  rw[e1]at hrun;exact zJ hoi (fun c hc=>by rw[ho]at hc;cases hc) hw hrun k5
 ·exact hY nt ops i o e h v h' g xs ats _ l hoi ho h1 h3 h5
 ·cases h5
theorem aGr{f0 t:Nat}{m:String}{G:Func}{g:Operand}{xs:Array Operand}{ats:Array TypeId}(ho:o.op=.call {callee:=.invoke g m,args:=xs,argTypes:=ats})(hv:a.eval g=.iface t (.agg #[]))(hm:kS F t m=some f0)(hg:F.P.funcs[f0]? =some G)(hn:(G.name == "runtime.NumGoroutine")=false)(hb:G.body.isSome=true)(w:World):
  (execOp a.eval o).run F.P w=.ok (.enter f0 (.agg #[]::xs.toList.map a.eval).toArray) w:=by
 obtain⟨n,hn2⟩:=wP F.P;have hrc:=kF (P:=F.P) hg hn hb (.agg #[]::xs.toList.map a.eval).toArray w;obtain⟨A,hA⟩:∃A,xs.map a.eval=A:=⟨_,rfl⟩
 have hl:xs.toList.map a.eval=A.toList:=by rw[←hA,Array.toList_map]
 have e1:#[Value.agg #[]]++A=(.agg #[]::xs.toList.map a.eval).toArray:=by
  apply Array.toList_inj.1;rw[hl];simp
 have e2:∀r:Value,(#[r]++A)[0]? =some r:=fun r=>by
  rw[←Array.getElem?_toList];simp
 have e3:∀r:Value,(#[r]++A).extract 1 (#[r]++A).size=A:=fun r=>by
  apply Array.toList_inj.1;simp
 unfold execOp;rw[ho];simp only[resolve,hv,hA,Sem.run_bind,Sem.run_pure,Result.andThen_ok,invoke,e2,e3,callMethod,run_program,hn2,xX hm n w,e1];exact hrc
theorem aOc(hF:FOk F)(hex:fG F ex){g:Operand}{m:String}{xs:Array Operand}{ats:Array TypeId}(hoi:ops[i]? =some o)(ho:o.op=.call {callee:=.invoke g m,args:=xs,argTypes:=ats})
  (hx:op1 F (aY F ex) (.call {callee:=.invoke g m,args:=xs,argTypes:=ats}) e h=some (v,h')):kE F nt ops i o e h v h':=by
 obtain⟨fv,h1,h2⟩:=aA.1 (show (ob (ev e g) fun v=>one v fun s=>match s with| .v x=>ifT x fun t=>ob (kS F t m) fun fn=>ob (evL e xs.toList) fun l=>aY F ex (sc (.f fn [])) (.c true []::l) h|_=>none)=some (v,h') from hx);obtain⟨s,rfl,h5⟩:=aI.1 h2;split at h5
 ·obtain⟨t,rfl,h6⟩:=aBA h5;obtain⟨f0,h7,h8⟩:=aA.1 h6;obtain⟨l,h3,h9⟩:=aA.1 h8;have h9:aU F ex f0 (app (.c true []::l) (wM [])) h=some (v,h'):=h9;rw[show app (AV.c true []::l) (wM [])=.c true []::l by rw[iY];exact List.append_nil _]at h9;intro c wb a f hw b rest k cs;have k1:=(aF.1 (aS f.t h1)).1;obtain⟨⟨G,k3,k4⟩,k5⟩:=fT (vs:=.agg #[]::xs.toList.map a.eval) hF hex h9 f.r f.z f.b ⟨⟨[],rfl,trivial⟩,nS f.t h3⟩;have hrun:=aGr (a:=a) ho k1 h7 k3 (hF.ng _ _ k3) k4 c.w;exact zJ hoi (fun c hc=>by rw[ho]at hc;cases hc) hw hrun k5
 ·cases h5
theorem aBU(hF:FOk F)(hex:fG F ex)(hY:qO F ex)(hoi:ops[i]? =some o)(hx:op1 F (aY F ex) o.op e h=some (v,h')):kE F nt ops i o e h v h':=by
 have nd:∀{op:Op},o.op=op→(∀c,op≠.defer c)→∀c,o.op≠.defer c:=fun h1 h2 c h3=>h2 c (h1▸h3);cases ho:o.op with
 |move x=>rw[ho]at hx;exact bD hoi (nd ho (by intro c h;cases h)) fun c wb a f=>aF8 f.r f.t (.inl ho) hx
 |assign x=>rw[ho]at hx;exact bD hoi (nd ho (by intro c h;cases h)) fun c wb a f=>aF8 f.r f.t (.inr ho) hx
 |pick k x y=>rw[ho]at hx;exact bD hoi (nd ho (by intro c h;cases h)) fun c wb a f=>aL1 f.r f.t ho hx
 |alloc t=>rw[ho]at hx;exact bD hoi (nd ho (by intro c h;cases h)) fun c wb a f=>aKe f.r ho hx
 |box t x=>rw[ho]at hx;exact bD hoi (nd ho (by intro c h;cases h)) fun c wb a f=>aNX f.r f.t ho hx
 |build t ps=>rw[ho]at hx;exact bD hoi (nd ho (by intro c h;cases h)) fun c wb a f=>aKs f.r f.t ho hx
 |buildSlice t n ps=>rw[ho]at hx;exact bD hoi (nd ho (by intro c h;cases h)) fun c wb a f=>aBH f.r f.t ho hx
 |load t x=>rw[ho]at hx;exact bD hoi (nd ho (by intro c h;cases h)) fun c wb a f=>o_load hF.ro (hF.tq _ _ f.r.q f.b) f.r f.t ho hx
 |store t x y=>rw[ho]at hx;exact bD hoi (nd ho (by intro c h;cases h)) fun c wb a f=>aKf f.r f.t ho hx
 |nilCheck x=>rw[ho]at hx;exact bD hoi (nd ho (by intro c h;cases h)) fun c wb a f=>aNY f.r f.t ho hx
 |binOp op t x y t2=>rw[ho]at hx;exact bD hoi (nd ho (by intro c h;cases h)) fun c wb a f=>aN2 f.r f.t ho hx
 |unOp op t x=>rw[ho]at hx;exact bD hoi (nd ho (by intro c h;cases h)) fun c wb a f=>aPd f.r f.t ho hx
 |makeInterface t x=>rw[ho]at hx;exact bD hoi (nd ho (by intro c h;cases h)) fun c wb a f=>aO9 f.r f.t ho hx
 |makeMap t r=>rw[ho]at hx;exact bD hoi (nd ho (by intro c h;cases h)) fun c wb a f=>aKA f.r ho hx
 |lookup t x ix ok=>rw[ho]at hx;exact bD hoi (nd ho (by intro c h;cases h)) fun c wb a f=>aMx f.r f.t ho hx
 |mapUpdate t m k x=>rw[ho]at hx;exact bD hoi (nd ho (by intro c h;cases h)) fun c wb a f=>aGo f.r f.t (.inl ho) hx
 |insert t m k x=>rw[ho]at hx;exact bD hoi (nd ho (by intro c h;cases h)) fun c wb a f=>aGo f.r f.t (.inr ho) hx
 |range t x=>rw[ho]at hx;exact bD hoi (nd ho (by intro c h;cases h)) fun c wb a f=>aKD f.r f.t ho hx
 |entry x=>rw[ho]at hx;exact bD hoi (nd ho (by intro c h;cases h)) fun c wb a f=>aKB f.r f.t ho hx
 |next x b=>rw[ho]at hx;exact bD hoi (nd ho (by intro c h;cases h)) fun c wb a f=>aMy f.r f.t ho hx
 |convert s t x=>rw[ho]at hx;exact bD hoi (nd ho (by intro c h;cases h)) fun c wb a f=>aMh f.r f.t ho hx
 |makeFunc g x y=>rw[ho]at hx;exact bD hoi (nd ho (by intro c h;cases h)) fun c wb a f=>aMi f.r f.t ho hx
 |makeSlice t x y=>rw[ho]at hx;exact bD hoi (nd ho (by intro c h;cases h)) fun c wb a f=>aMj f.r f.t ho hx
 |slice t x lo hi mx=>rw[ho]at hx;exact bD hoi (nd ho (by intro c h;cases h)) fun c wb a f=>aKr f.r f.t ho hx
 |fieldAddr s x g=>rw[ho]at hx;exact bD hoi (nd ho (by intro c h;cases h)) fun c wb a f=>aPa f.r f.t ho hx
 |field s x g=>rw[ho]at hx;exact bD hoi (nd ho (by intro c h;cases h)) fun c wb a f=>aKq f.r f.t ho hx
 |indexAddr t x y=>rw[ho]at hx;exact bD hoi (nd ho (by intro c h;cases h)) fun c wb a f=>aPc f.r f.t ho hx
 |index t x y=>rw[ho]at hx;exact bD hoi (nd ho (by intro c h;cases h)) fun c wb a f=>aPb f.r f.t ho hx
 |extract x ix=>rw[ho]at hx;exact bD hoi (nd ho (by intro c h;cases h)) fun c wb a f=>aN1 f.r f.t ho hx
 |call cl=>
  rw[ho]at hx;obtain⟨callee,xs,ats⟩:=cl;cases callee with
  |value g=>exact aOb hF hex hY hoi ho hx
  |invoke r m=>exact aOc hF hex hoi ho hx
  |builtin bb=>exact aOa hF.ln (fun c wb a f=>f.z) hoi ho hx
 |_=>rw[ho]at hx;cases hx
end
def T0.flt{α:Type}:{n:Nat}→T0 n α→(Nat→Bool)→T0 n α
 |0,t,S=>if S 0 then t else (none:Option α)
 |n+1,t,S=>(⟨T0.flt (n:=n) (N.a t) fun k=>S (8*k),T0.flt (n:=n) (N.b t) fun k=>S (8*k+1),T0.flt (n:=n) (N.c t) fun k=>S (8*k+2),T0.flt (n:=n) (N.d t) fun k=>S (8*k+3),T0.flt (n:=n) (N.e t) fun k=>S (8*k+4),T0.flt (n:=n) (N.f t) fun k=>S (8*k+5),T0.flt (n:=n) (N.g t) fun k=>S (8*k+6),T0.flt (n:=n) (N.h t) fun k=>S (8*k+7)⟩:N (T0 n α))
theorem T0.pk_flt{α:Type}{n:Nat}(t:T0 (n+1) α)(S:Nat→Bool){d:Nat}(hd:d<8):(t.flt S).pk d=(t.pk d).flt fun k=>S (8*k+d):=by
 rcases (by omega:d=0∨d=1∨d=2∨d=3∨d=4∨d=5∨d=6∨d=7) with rfl|rfl|rfl|rfl|rfl|rfl|rfl|rfl<;>rfl
theorem T0.get_flt{α:Type}{n:Nat}(t:T0 n α):∀(S:Nat→Bool) (k:Nat),(t.flt S).g k=if S k then t.g k else none:=by
 induction n with
 |zero=>
  intro S k;by_cases hk:k=0
  ·subst hk;rw[T0.get_z,T0.get_z];show (if S 0=true then t else (none:Option α))=if S 0=true then t else (none:Option α)
   rfl
  ·rw[T0.get_z,T0.get_z,if_neg hk,if_neg hk];split<;>rfl
 |succ n ih=>
  intro S k;rw[T0.get_s,T0.get_s,T0.pk_flt t S (Nat.mod_lt k (by decide)),ih,show 8*(k/8)+k % 8=k from Nat.div_add_mod k 8]
noncomputable def T.flt {α:Type} {n:Nat} (t:T n α) (S:Nat→Bool):T n α:=⟨T0.flt t.t S,fun k=>if S k then t.o k else none⟩
theorem T.get_flt{α:Type}{n:Nat}(t:T n α)(S:Nat→Bool)(k:Nat):(t.flt S).get k=if S k then t.get k else none:=by
 by_cases h:k<Nat.pow 8 n
 ·rw[T.get_lt h,T.get_lt h];exact T0.get_flt t.t S k
 ·rw[T.get_ge h,T.get_ge h];rfl
section
variable {P:Program} {ops:Array Oper} {b:Frame} {k:List Item} {cs:List Frame}
theorem aMz{J:(Nat→Bool)→Act→World→Prop}(hr:∀L:Nat→Bool,(∃j,j<ops.size∧L j=false)→∃i o,ops[i]? =some o∧L i=false∧∀e∈o.after,Region.binds .any e=true→L e.on=true)(hstep:∀(L:Nat→Bool) (a:Act) (w:World) (i:Nat) (o:Oper),ops[i]? =some o→L i=false→(∀e∈o.after,Region.binds .any e=true→L e.on=true)→J L a w→∀rest,∃a' w',J (Ja.upd L i true) a' w'∧Steps P (lone (b.atR a (.inRegion ops (i::rest)::k)) cs w) (lone (b.atR a' (.inRegion ops rest::k)) cs w')):
  ∀(fuel t:Nat) (listed:Array Bool) (L:Nat→Bool) (a:Act) (w:World),L=(fun j=>listed.getD j false)→listed.size=ops.size→Ja.left L ops.size≤fuel→J L a w→
   ∃L' a' w',(∀j,j<ops.size→L' j=true)∧J L' a' w'∧Steps P (lone (b.atR a (.inRegion ops (Region.linearise.go .any ops fuel t listed [])::k)) cs w) (lone (b.atR a' k) cs w'):=by
 intro fuel
 induction fuel with
 |zero=>
  intro t listed L a w hL hs hle hJ;refine⟨L,a,w,Ja.left_zero ops.size (by omega),hJ,?_⟩;simp only[Region.linearise.go,List.reverse_nil];exact .one stepR_region_end
 |succ fuel ih=>
  intro t listed L a w hL hs hle hJ;simp only[Region.linearise.go]
  change ∃L' a' w',_∧_∧Steps P (lone (b.atR a (.inRegion ops (match (Region.ready .any ops listed)[t % (Region.ready .any ops listed).length]? with
    |some i=>Region.linearise.go .any ops fuel (t/(Region.ready .any ops listed).length) (listed.setIfInBounds i true) [i]
    |none=>[].reverse)::k)) cs w) _
  cases hi:(Region.ready .any ops listed)[t % (Region.ready .any ops listed).length]? with
  |none=>
   have hnil:Region.ready .any ops listed=[]:=by
      cases hr:Region.ready .any ops listed with
      |nil=>rfl
      |cons x xs=>
       rw[hr]at hi;have hlt:t % (x::xs).length<(x::xs).length:=Nat.mod_lt _ (by simp);simp at hi;simp at hlt;omega
   refine⟨L,a,w,fun j hj=>?_,hJ,.one stepR_region_end⟩;cases hLj:L j with
   |true=>rfl
   |false=>
    obtain⟨i,o,ho,hLi,hdep⟩:=hr L ⟨j,hj,hLj⟩;have hii:i<ops.size:=(Array.getElem?_eq_some_iff.1 ho).1;have:i∈Region.ready .any ops listed:=mem_ready.2 ⟨by
        have h1:listed.getD i false=false:=(by rw[hL]at hLi;exact hLi);have h2:i<listed.size:=(by omega);simp[h2]at h1⊢;exact h1,o,ho,fun e he hb=>by
         have:=hdep e he hb;rw[hL]at this;exact this⟩
    rw[hnil]at this;cases this
  |some i=>
   simp only[];rw[linearise_go_acc,List.reverse_singleton,List.singleton_append];obtain⟨h0,o,ho,hall⟩:=mem_ready.1 (List.mem_of_getElem? hi);have hii:i<ops.size:=(Array.getElem?_eq_some_iff.1 ho).1;have hil:i<listed.size:=(by omega);have hLi:L i=false:=(by rw[hL];simp[hil]at h0⊢;exact h0);obtain⟨a1,w1,hJ1,hS⟩:=hstep L a w i o ho hLi (fun e he hb=>by rw[hL];exact hall e he hb) hJ (Region.linearise.go .any ops fuel (t/(Region.ready .any ops listed).length) (listed.setIfInBounds i true) []);have hL2:Ja.upd L i true=fun j=>(listed.setIfInBounds i true).getD j false:=by
      funext j;unfold Ja.upd;by_cases hji:j=i
      ·subst hji;simp[hil]
      ·rw[if_neg hji,hL,getD_set_ne false (Ne.symm hji)]
   have hle2:Ja.left (Ja.upd L i true) ops.size≤fuel:=by
      have:=Ja.left_upd hLi ops.size hii;omega
   obtain⟨L',a',w',q1,q2,q3⟩:=ih (t/(Region.ready .any ops listed).length) (listed.setIfInBounds i true) (Ja.upd L i true) a1 w1 hL2 (by simp[hs]) hle2 hJ1;exact⟨L',a',w',q1,q2,hS.trans q3⟩
end
section
variable {F:Cf} {c d:Cx} {wb:World} {h h':H} {nt:Nat} {e e':Env} {a a':Act}
theorem Rl.lift(hr:Rl c wb h):Rl c c.w h.lift:=
 ⟨hr.n,hr.k,Q.refl _,hr.blk,hr.inj,fun id b hg _ hb=>absurd (hr.blk id b hg).1 (Nat.not_lt.2 hb),fun l p hl=>⟨(hr.lp l p hl).1,fun q=>⟨((hr.lp l p hl).2 q).1,fun hb=>absurd (hr.lp l p hl).1 (Nat.not_lt.2 hb)⟩⟩,hr.li⟩
def Cx.lo(c:Cx)(n:Nat):Cx:=⟨n,fun id=>c.k id∧id<n,c.r,c.w,c.z⟩
def Cx.mg(g d:Cx)(n0 n1:Nat):Cx:=⟨g.n,fun id=>g.k id∨(d.k id∧n0≤id),fun id=>if n0≤id∧id<n1 then d.r id else g.r id,d.w,g.z⟩
section
variable {g:Cx} {n0 n1 m:Nat}
theorem uA(hf:∀id,g.k id→n0≤id→n1≤id){id:Nat}(hk:g.k id):(g.mg d n0 n1).r id=g.r id:=if_neg fun q=>by have:=hf id hk q.1;omega
theorem aBV{id:Nat}(h0:n0≤id)(h1:id<n1):(g.mg d n0 n1).r id=d.r id:=if_pos ⟨h0,h1⟩
theorem aEQ(hX:Xt (g.lo n0) d)(hf:∀id,g.k id→n0≤id→n1≤id):Xs (g.lo m) ((g.mg d n0 n1).lo m):=
 ⟨fun _ q=>⟨.inl q.1,q.2⟩,fun _ q=>uA hf q.1,hX.p.m,hX.p.mr,hX.p.s,rfl⟩
theorem aER(hX:Xt (g.lo n0) d)(hd:Rl d wb h')(hn:h'.n=n1)(hf:∀id,g.k id→n0≤id→n1≤id)(hm:n1≤m):Xs d ((g.mg d n0 n1).lo m):=by
 have hlt:∀id,d.k id→id<n1:=fun id q=>by have:=hd.k id q;rw[hd.n,hn]at this;exact this
 refine⟨fun id q=>⟨?_,Nat.lt_of_lt_of_le (hlt id q) hm⟩,fun id q=>?_,fun _ _ k=>k,fun _ _ k=>k,fun _ _ cs _ k=>⟨cs,k,rfl⟩,hX.z.symm⟩
 ·rcases hX.o id q with k|k
  ·exact .inl k.1
  ·exact .inr ⟨q,k⟩
 ·rcases hX.o id q with k|k
  ·exact (uA hf k.1).trans (hX.r id k).symm
  ·exact aBV k (hlt id q)
theorem Rl.merge{h2:H}(hX:Xt (g.lo n0) d)(hd:Rl d g.w h')(hn:h'.n=n1)(hbar:h'.bar=n0)(hf:∀id,g.k id→n0≤id→n1≤id)(hr:Rl (g.lo m) wb h2)
  (hc:m≤n0∨(n1≤m∧(∀id b,id<n1→h2.h.get id=some b→h'.h.get id=some b)∧∀id b,id<n1→h2.l.get id=some b→h'.l.get id=some b)):Rl ((g.mg d n0 n1).lo m) wb h2:=by
 have hlt:∀id,d.k id→id<n1:=fun id q=>by have:=hd.k id q;rw[hd.n,hn]at this;exact this
 have X:=aEQ (m:=m) hX hf;have nw:∀{id:Nat},d.k id→n0≤id→id<m→n1≤m∧(∀b,h2.h.get id=some b→h'.h.get id=some b)∧∀b,h2.l.get id=some b→h'.l.get id=some b:=fun {id} q q0 q1=>by
  rcases hc with hc|⟨h1,h3,h4⟩
  ·omega
  ·exact⟨h1,fun b=>h3 id b (hlt id q),fun b=>h4 id b (hlt id q)⟩
 have hsz:wb.heap.size≤g.w.heap.size:=hr.q.size;have blk:∀{id b},h2.h.get id=some b→Lv ((g.mg d n0 n1).lo m) id b→(Lv (g.lo m) id b∧(g.mg d n0 n1).r id=g.r id∧g.r id<g.w.heap.size)∨(h'.h.get id=some b∧Lv d id b∧(g.mg d n0 n1).r id=d.r id∧g.w.heap.size≤d.r id∧n1≤m):=fun {id b} hg q=>by
  obtain⟨⟨q1,q2⟩,q3⟩:=q;rcases q1 with q1|⟨q1,q4⟩
  ·exact .inl ⟨⟨⟨q1,q2⟩,q3⟩,uA hf q1,((hr.blk id b hg).2 ⟨⟨q1,q2⟩,q3⟩).lt⟩
  ·obtain⟨k1,k2,-⟩:=nw q1 q4 q2;exact .inr ⟨k2 b hg,⟨q1,q3⟩,aBV q4 (hlt id q1),hd.new id b (k2 b hg) ⟨q1,q3⟩ (by omega),k1⟩
 have lps:∀{id p},h2.l.get id=some p→((g.mg d n0 n1).lo m).k id→(((g.lo m).k id)∧(g.mg d n0 n1).r id=g.r id∧g.r id<g.w.heap.size)∨(h'.l.get id=some p∧d.k id∧(g.mg d n0 n1).r id=d.r id∧g.w.heap.size≤d.r id∧n1≤m):=fun {id p} hg q=>by
  obtain⟨q1,q2⟩:=q;rcases q1 with q1|⟨q1,q4⟩
  ·exact .inl ⟨⟨q1,q2⟩,uA hf q1,((hr.lp id p hg).2 ⟨q1,q2⟩).1.lt⟩
  ·obtain⟨k1,-,k2⟩:=nw q1 q4 q2;exact .inr ⟨k2 p hg,q1,aBV q4 (hlt id q1),((hd.lp id p (k2 p hg)).2 q1).2 (by omega),k1⟩
 refine⟨hr.n,fun id q=>q.2,hr.q.trans hd.q,fun id b hg=>⟨(hr.blk id b hg).1,fun q=>?_⟩,fun i j b b2 hi hj qi qj hij=>?_,fun id b hg q hb=>?_,fun l p hl=>⟨(hr.lp l p hl).1,fun q=>?_⟩,fun i j p p2 hi hj qi qj hij=>?_⟩
 ·show Bl _ b ((g.mg d n0 n1).r id);rcases blk hg q with⟨k1,k2,k3⟩|⟨k1,k2,k3,k4,k5⟩
  ·rw[k2];exact ((hr.blk id b hg).2 k1).xs X (hd.q.heap k3)
  ·rw[k3];exact ((hd.blk id b k1).2 k2).xs (aER hX hd hn hf k5) rfl
 ·show (g.mg d n0 n1).r i≠(g.mg d n0 n1).r j;rcases blk hi qi with⟨k1,k2,k3⟩|⟨k1,k2,k3,k4,k5⟩
  ·rcases blk hj qj with⟨m1,m2,m3⟩|⟨m1,m2,m3,m4,m5⟩
   ·rw[k2,m2];exact hr.inj i j b b2 hi hj k1 m1 hij
   ·rw[k2,m3];omega
  ·rcases blk hj qj with⟨m1,m2,m3⟩|⟨m1,m2,m3,m4,m5⟩
   ·rw[k3,m2];omega
   ·rw[k3,m3];exact hd.inj i j b b2 k1 m1 k2 m2 hij
 ·show wb.heap.size≤(g.mg d n0 n1).r id;rcases blk hg q with⟨k1,k2,k3⟩|⟨k1,k2,k3,k4,k5⟩
  ·rw[k2];exact hr.new id b hg k1 hb
  ·rw[k3];omega
 ·show LpR _ p ((g.mg d n0 n1).r l)∧(h2.bar≤l→wb.heap.size≤(g.mg d n0 n1).r l)
  rcases lps hl q with⟨k1,k2,k3⟩|⟨k1,k2,k3,k4,k5⟩
  ·rw[k2];exact⟨((hr.lp l p hl).2 k1).1.xs X (hd.q.heap k3),((hr.lp l p hl).2 k1).2⟩
  ·rw[k3];exact⟨((hd.lp l p k1).2 k2).1.xs (aER hX hd hn hf k5) rfl,fun _=>by omega⟩
 ·show (g.mg d n0 n1).r i≠(g.mg d n0 n1).r j;rcases lps hi qi with⟨k1,k2,k3⟩|⟨k1,k2,k3,k4,k5⟩
  ·rcases lps hj qj with⟨m1,m2,m3⟩|⟨m1,m2,m3,m4,m5⟩
   ·rw[k2,m2];exact hr.li i j p p2 hi hj k1 m1 hij
   ·rw[k2,m3];omega
  ·rcases lps hj qj with⟨m1,m2,m3⟩|⟨m1,m2,m3,m4,m5⟩
   ·rw[k3,m2];omega
   ·rw[k3,m3];exact hd.li i j p p2 k1 m1 k2 m2 hij
end
end
structure Tp where
 i:Nat
 o:Oper
 e:Env
 h:H
 b:Bool
 v:AV
 e':Env
 h':H
def uB(nt:Nat)(e:Env)(d:Option Nat)(v:AV)(e':Env):Prop:=match d with|none=>e'=e|some k=>k<nt∧e'=e.set v k
inductive Trace (S:Tp→Prop):Env→H→List Tp→Env→H→Prop where
 |nil (e:Env) (h:H):Trace S e h [] e h
 |cons {p:Tp} {l:List Tp} {e2:Env} {h2:H} (hp:S p) (ht:Trace S p.e' p.h' l e2 h2):Trace S p.e p.h (p::l) e2 h2
structure St1 (F:Cf) (nt:Nat) (call:bB) (ops:List Oper) (lf:H→H) (p:Tp):Prop where
 o:(drp p.i ops).head? =some p.o
 w:wanted ops p.e p.o.guard=some p.b
 y:p.b=true→op1 F call p.o.op p.e (lf p.h)=some (p.v,p.h')
 n:p.b=false→p.v=un∧p.h'=lf p.h
 e:uB nt p.e p.o.dst p.v p.e'
section
variable {F:Cf} {nt:Nat} {call:bB} {ops:List Oper} {e:Env} {h:H} {r:R}
theorem aJA{α:Type}{d:Option Nat}{v:AV}{k:Env→Option α}{y:α}(hx:put nt e d v k=some y):∃e',uB nt e d v e'∧k e'=some y:=by
 cases d with
 |none=>exact⟨e,rfl,hx⟩
 |some d=>
  obtain⟨h1,h2⟩:=aB.1 (show cb (Nat.blt d nt) (k (e.set v d)) none=some y from hx);exact⟨_,⟨aQ.1 h1,rfl⟩,h2⟩
theorem aDC{rest:Env→H→Option R}{i:Nat}{o:Oper}{lf:H→H}(ho:(drp i ops).head? =some o)(hx:kT F nt call ops rest o e (lf h)=some r):
  ∃p:Tp,p.i=i∧p.e=e∧p.h=h∧St1 F nt call ops lf p∧rest p.e' p.h'=some r:=by
 obtain⟨w,h1,hx⟩:=aA.1 hx;cases w with
 |true=>
  obtain⟨⟨v,h2⟩,h3,hx⟩:=aA.1 (show (ob (op1 F call o.op e (lf h)) fun r=>put nt e o.dst r.1 fun e=>rest e r.2)=some r from hx);obtain⟨e',h4,h5⟩:=aJA hx;exact⟨⟨i,o,e,h,true,v,e',h2⟩,rfl,rfl,rfl,⟨ho,h1,fun _=>h3,fun q=>Bool.noConfusion q,h4⟩,h5⟩
 |false=>
  obtain⟨e',h4,h5⟩:=aJA (show put nt e o.dst un (fun e=>rest e (lf h))=some r from hx);exact⟨⟨i,o,e,h,false,un,e',lf h⟩,rfl,rfl,rfl,⟨ho,h1,fun q=>Bool.noConfusion q,fun _=>⟨rfl,rfl⟩,h4⟩,h5⟩
theorem aDD{b:Nat}{k:Env→H→Option R}:∀{l:List Nat} {e:Env} {h:H},tL F nt call ops b k l e h=some r→∃tr e1 h1,tr.map Tp.i=l∧Trace (St1 F nt call ops H.lift) e h tr e1 h1∧k e1 (h1.back b)=some r
 | [],e,h,hx=>⟨[],e,h,rfl,.nil e h,hx⟩
 |i::l,e,h,hx=>by
  obtain⟨o,ho,hx⟩:=aA.1 (show (ob (drp i ops).head? fun o=>kT F nt call ops (tL F nt call ops b k l) o e h.lift)=some r from hx);obtain⟨p,rfl,rfl,rfl,h1,h2⟩:=aDC (lf:=H.lift) ho hx;obtain⟨tr,e1,g1,h3,h4,h5⟩:=aDD h2;exact⟨p::tr,e1,g1,by rw[List.map_cons,h3],.cons h1 h4,h5⟩
def Same(F:Cf)(ops:List Oper)(e:Env)(h:H)(j:Nat):Prop:=∃o,(drp j ops).head? =some o∧(mkO F o.op=.p∨(mkO F o.op=.l∧o.guard=none∧∃d v u,o.dst=some d∧e.get d=some v∧op1 F (fun _ _ _=>none) o.op e h=some u∧avb v u.1=true)∨(mkO F o.op=.n∧o.guard=none∧∃d v u,o.dst=some d∧e.get d=some v∧op1 F (fun _ _ _=>none) o.op e h=some u∧vD h v u=true))
theorem aBW{k:Option R}:∀{l:List Nat},again F ops e h k l=some r→(∀j∈l,Same F ops e h j)∧k=some r
 | [],hx=>⟨fun j hj=>(by cases hj),hx⟩
 |j::l,hx=>by
  obtain⟨o,ho,hx⟩:=aA.1 hx;have key:Same F ops e h j∧again F ops e h k l=some r:=by
    split at hx
    ·rename_i hm;exact⟨⟨o,ho,.inl hm⟩,hx⟩
    ·rename_i hm;obtain⟨d,h3,hx⟩:=aA.1 hx;obtain⟨v,h4,hx⟩:=aA.1 hx;obtain⟨u,h5,hx⟩:=aA.1 hx;obtain⟨h6,hx⟩:=aB.1 hx;obtain⟨h7,hx⟩:=aB.1 hx;refine⟨⟨o,ho,.inr (.inl ⟨hm,?_,d,v,u,h3,h4,h5,h7⟩)⟩,hx⟩;cases hg:o.guard with
     |none=>rfl
     |some g=>rw[hg]at h6;cases h6
    ·rename_i hm;obtain⟨d,h3,hx⟩:=aA.1 hx;obtain⟨v,h4,hx⟩:=aA.1 hx;obtain⟨u,h5,hx⟩:=aA.1 hx;obtain⟨h6,hx⟩:=aB.1 hx;obtain⟨h7,hx⟩:=aB.1 hx;refine⟨⟨o,ho,.inr (.inr ⟨hm,?_,d,v,u,h3,h4,h5,h7⟩)⟩,hx⟩;cases hg:o.guard with
     |none=>rfl
     |some g=>rw[hg]at h6;cases h6
    ·cases hx
  obtain⟨h1,h2⟩:=key;obtain⟨h7,h8⟩:=aBW h2;refine⟨fun i hi=>?_,h8⟩;rcases List.mem_cons.1 hi with rfl|hi
  ·exact h1
  ·exact h7 i hi
inductive TraceB (F:Cf) (nt:Nat) (call:bB) (ops:List Oper):Env→H→List (Tp × List Nat)→Env→H→Prop where
 |nil (e:Env) (h:H):TraceB F nt call ops e h [] e h
 |cons {p:Tp} {rm:List Nat} {l:List (Tp × List Nat)} {e2:Env} {h2:H} (hp:St1 F nt call ops id p) (hs:∀j∈rm,Same F ops p.e' p.h' j) (ht:TraceB F nt call ops p.e' p.h' l e2 h2):TraceB F nt call ops p.e p.h ((p,rm)::l) e2 h2
theorem aDE:∀{l:List (Nat × List Nat)} {e:Env} {h:H},wL F nt call ops l e h=some r→
  ∃tr e1 h1,(tr.map fun q=>(q.1.i,q.2))=l∧TraceB F nt call ops e h tr e1 h1∧r=⟨.n,e1,h1⟩
 | [],e,h,hx=>⟨[],e,h,rfl,.nil e h,by injection hx with hx;exact hx.symm⟩
 |(i,rm)::l,e,h,hx=>by
  obtain⟨o,ho,hx⟩:=aA.1 (show (ob (drp i ops).head? fun o=>kT F nt call ops (fun e h=>again F ops e h (wL F nt call ops l e h) rm) o e h)=some r from hx);obtain⟨p,rfl,rfl,rfl,h1,h2⟩:=aDC (lf:=id) ho hx;obtain⟨h3,h4⟩:=aBW h2;obtain⟨tr,e1,g1,h5,h6,h7⟩:=aDE h4;exact⟨(p,rm)::tr,e1,g1,by rw[List.map_cons,h5],.cons h1 h3 h6,h7⟩
theorem uB.get{d:Option Nat}{v:AV}{e':Env}(hp:uB nt e d v e'){t:Nat}{x:AV}(hx:e'.get t=some x):(d=some t∧x=v)∨(d≠some t∧e.get t=some x):=by
 cases d with
 |none=>
  rw[show e'=e from hp]at hx;exact .inr ⟨by simp,hx⟩
 |some k=>
  obtain⟨-,rfl⟩:=hp;rcases T.get_set hx with⟨rfl,rfl⟩|⟨h1,h2⟩
  ·exact .inl ⟨rfl,rfl⟩
  ·exact .inr ⟨fun q=>h1 (by injection q with q;exact q.symm),h2⟩
theorem Trace.get{S:Tp→Prop}(hS:∀p,S p→uB nt p.e p.o.dst p.v p.e'){tr:List Tp}{e2:Env}{h2:H}(ht:Trace S e h tr e2 h2){t:Nat}{x:AV}(hx:e2.get t=some x):
  (∃p∈tr,p.o.dst=some t∧p.v=x)∨((∀p∈tr,p.o.dst≠some t)∧e.get t=some x):=by
 induction ht with
 |nil e h=>exact .inr ⟨fun p hp=>(by cases hp),hx⟩
 | @cons p l e2 h2 hp ht ih=>
   rcases ih hx with⟨q,h1,h3⟩|⟨h1,h3⟩
   ·exact .inl ⟨q,List.mem_cons_of_mem _ h1,h3⟩
   ·rcases (hS p hp).get h3 with⟨k1,k2⟩|⟨k1,k2⟩
    ·exact .inl ⟨p,List.mem_cons_self,k1,k2.symm⟩
    ·refine .inr ⟨fun q hq=>?_,k2⟩;rcases List.mem_cons.1 hq with rfl|hq
     ·exact k1
     ·exact h1 q hq
end
theorem jB{i j:Nat}:(bit i).testBit j=true↔i=j:=by
 have:bit i=2^i:=by show 1<<<i=2^i;rw[Nat.one_shiftLeft]
 rw[this,Nat.testBit_two_pow];simp
theorem nW{a c j:Nat}:(Nat.lor a c).testBit j=true↔a.testBit j=true∨c.testBit j=true:=by
 show (a |||c).testBit j=true↔_;rw[Nat.testBit_or];simp
theorem aAQ{a c j:Nat}(h:sub a c=true)(hj:a.testBit j=true):c.testBit j=true:=by
 have h1:a &&& c=a:=aH.1 h;rw[←h1,Nat.testBit_and]at hj;simp at hj;exact hj.2
theorem aMA{a i:Nat}(h:Nat.beq (Nat.land a (bit i)) 0=true):a.testBit i≠true:=by
 intro q;have h1:a &&& bit i=0:=aH.1 h;have h2:(a &&& bit i).testBit i=true:=by rw[Nat.testBit_and,q,jB.2 rfl];rfl
 rw[h1]at h2;simp at h2
theorem aES{fa:Bool}{f:Nat→Nat}{l:List Edge}{j:Nat}:(msk fa f l).testBit j=true↔∃e∈l,edg fa e=true∧(f e.on).testBit j=true:=by
 induction l with
 |nil=>simp[msk]
 |cons e l ih=>
  show (cb (edg fa e) (Nat.lor (f e.on) (msk fa f l)) (msk fa f l)).testBit j=true↔_;rw[aL];split
  ·rename_i h;rw[nW,ih];simp[h]
  ·rename_i h;rw[ih];simp[h]
theorem yC{l:List Nat}{j:Nat}:(msN l).testBit j=true↔j∈l:=by
 induction l with
 |nil=>simp[msN]
 |cons i l ih=>
  show (Nat.lor (bit i) (msN l)).testBit j=true↔_;rw[nW,ih,jB,List.mem_cons,eq_comm]
noncomputable abbrev keep (o:Oper) (e:Edge):Bool:=edg (aBs o.op) e
theorem aMB{o:Oper}{e:Edge}(h:keep o e=true):Region.binds .any e=true:=by
 obtain⟨on,g⟩:=e;cases g with
 |textOnly r=>cases h
 |gcOnly r=>cases h
 |_=>rfl
inductive Reach (ops:Array Oper):Nat→Nat→Prop where
 |one {i:Nat} {o:Oper} {e:Edge} (ho:ops[i]? =some o) (he:e∈o.after) (hb:keep o e=true):Reach ops i e.on
 |more {i j:Nat} {o:Oper} {e:Edge} (ho:ops[i]? =some o) (he:e∈o.after) (hb:keep o e=true) (h:Reach ops e.on j):Reach ops i j
theorem Reach.closed{ops:Array Oper}{S:Nat→Prop}(hS:∀i o e,ops[i]? =some o→S i→e∈o.after→keep o e=true→S e.on){i j:Nat}(h:Reach ops i j)(hi:S i):S j:=by
 induction h with
 |one ho he hb=>exact hS _ _ _ ho hi he hb
 |more ho he hb _ ih=>exact ih (hS _ _ _ ho hi he hb)
structure ScI (ops:Array Oper) (s:Sc) (l:List Nat):Prop where
 d:∀j,s.d.testBit j=true↔j∈l
 an:∀i a j,s.an.get i=some a→a.testBit j=true→Reach ops i j
 nd:l.Nodup
section
variable {F:Cf} {ops:Array Oper} {ph:Bool} {i rm:Nat} {s s':Sc} {l:List Nat}
theorem aOd{j t:Nat}(hI:ScI ops s l)(h:(anc s j).testBit t=true):j=t∨Reach ops j t:=by
 unfold anc at h;cases hg:s.an.get j with
 |none=>rw[hg]at h;exact .inl (jB.1 h)
 |some a=>
  rw[hg]at h;rcases nW.1 h with h|h
  ·exact .inl (jB.1 h)
  ·exact .inr (hI.an j a t hg h)
structure One (F:Cf) (ops:Array Oper) (ph:Bool) (l:List Nat) (i rm:Nat):Prop where
 o:∃o,ops[i]? =some o∧(∀e∈o.after,keep o e=true→e.on∈l)∧(ph=true→mkO F o.op≠.w)
 s:ph=false→∀j∈l,Reach ops i j∨rm.testBit j=true
theorem aGs(hI:ScI ops s l)(hx:sc1 F ops.toList ph i rm s=some s'):ScI ops s' (l++[i])∧One F ops ph l i rm:=by
 obtain⟨o,h1,hx⟩:=aA.1 hx;obtain⟨h2,hx⟩:=aB.1 hx;obtain⟨h3,hx⟩:=aB.1 hx;rw[aM]at hx;obtain⟨h4,hx⟩:=aB.1 hx;have ho:ops[i]? =some o:=by simpa using bN h1
 have hdep:∀e∈o.after,keep o e=true→e.on∈l:=fun e he hb=>(hI.d _).1 (aAQ h3 (aES.2 ⟨e,Array.mem_toList_iff.2 he,hb,jB.2 rfl⟩));have ham:∀t,(msk (aBs o.op) (anc s) o.after.toList).testBit t=true→Reach ops i t:=fun t ht=>by
  obtain⟨e,he,hb,h5⟩:=aES.1 ht;have he:=Array.mem_toList_iff.1 he;rcases aOd hI h5 with rfl|h6
  ·exact .one ho he hb
  ·exact .more ho he hb h6
 refine⟨?_,⟨o,ho,hdep,fun q k=>?_⟩,fun q j hj=>?_⟩
 ·injection hx with hx;unfold scP at hx;rw[aM]at hx;subst hx;refine⟨fun j=>?_,fun k a j hk ha=>?_,?_⟩
  ·show (Nat.lor s.d (bit i)).testBit j=true↔_;rw[nW,hI.d,jB,List.mem_append,List.mem_singleton,eq_comm (a:=i)]
  ·rcases T.get_set hk with⟨rfl,rfl⟩|⟨-,hk⟩
   ·exact ham j ha
   ·exact hI.an k a j hk ha
  ·refine List.nodup_append.2 ⟨hI.nd,by simp,fun a ha b hb e=>?_⟩;rw[List.mem_singleton]at hb;subst hb;subst e;exact aMA h2 ((hI.d _).2 ha)
 ·subst q;rw[k]at h4;cases h4
 ·subst q;have h5:sub s.d (Nat.lor (msk (aBs o.op) (anc s) o.after.toList) rm)=true:=by
   cases hm:mkO F o.op<;>rw[hm]at h4<;>exact h4
  rcases nW.1 (aAQ h5 ((hI.d j).2 hj)) with h6|h6
  ·exact .inl (ham j h6)
  ·exact .inr h6
theorem aGt:∀{A:List Nat} {s s':Sc} {l:List Nat},ScI ops s l→scA F ops.toList A s=some s'→ScI ops s' (l++A)∧∀l1 i l2,A=l1++i::l2→One F ops true (l++l1) i 0
 | [],s,s',l,hI,hx=>by
   injection hx with hx;subst hx;exact⟨by simpa using hI,fun l1 i l2 e=>by simp at e⟩
 |i::A,s,s',l,hI,hx=>by
  obtain⟨s1,h1,hx⟩:=aA.1 (show ob (sc1 F ops.toList true i 0 s) (scA F ops.toList A)=some s' from hx);obtain⟨h2,h3⟩:=aGs hI h1;obtain⟨h4,h5⟩:=aGt h2 hx;refine⟨by simpa using h4,fun l1 j l2 e=>?_⟩;cases l1 with
  |nil=>injection e with e1 e2;subst e1;simpa using h3
  |cons x l1=>
   injection e with e1 e2;subst e1;have:=h5 l1 j l2 e2;simpa using this
theorem aGu:∀{B:List (Nat × List Nat)} {s s':Sc} {l:List Nat},ScI ops s l→scB F ops.toList B s=some s'→ScI ops s' (l++B.map Prod.fst)∧∀l1 i rm l2,B=l1++(i,rm)::l2→One F ops false (l++l1.map Prod.fst) i (msN rm)
 | [],s,s',l,hI,hx=>by
   injection hx with hx;subst hx;exact⟨by simpa using hI,fun l1 i rm l2 e=>by simp at e⟩
 |(i,rm0)::B,s,s',l,hI,hx=>by
  obtain⟨s1,h1,hx⟩:=aA.1 (show ob (sc1 F ops.toList false i (msN rm0) s) (scB F ops.toList B)=some s' from hx);obtain⟨h2,h3⟩:=aGs hI h1;obtain⟨h4,h5⟩:=aGu h2 hx;refine⟨by simpa using h4,fun l1 j rm l2 e=>?_⟩;cases l1 with
  |nil=>injection e with e1 e2;injection e1 with e3 e4;subst e3;subst e4;simpa using h3
  |cons x l1=>
   injection e with e1 e2;subst e1;have:=h5 l1 j rm l2 e2;simpa using this
theorem aAR{an:T 3 Nat}{i j:Nat}{l:List Nat}{d:Nat}(hI:ScI ops ⟨d,an⟩ l)(h:has an i j=true):Reach ops i j:=by
 unfold has at h;cases hg:an.get i with
 |none=>rw[hg]at h;cases h
 |some a=>rw[hg]at h;exact hI.an i a j hg (aAQ h (jB.2 rfl))
theorem aO{c x:Bool}:cb c x false=true↔c=true∧x=true:=by cases c<;>simp[cb]
theorem aGv{wt an:T 3 Nat}{i:Nat}:∀{l:List Tmp},shT wt an i l=true→∀t∈l,∀j,wt.get t=some j→j=i∨has an i j=true∨has an j i=true
 | [],_,t,ht,_,_=>by cases ht
 |x::l,h,t,ht,j,hj=>by
  obtain⟨h1,h2⟩:=aO.1 (show cb (Option.rec (motive:=fun _=>Bool) true (fun j=>cb (Nat.beq j i) true (cb (has an i j) true (has an j i))) (wt.get x)) (shT wt an i l) false=true from h);rcases List.mem_cons.1 ht with rfl|ht
  ·rw[hj]at h1;have h1:cb (Nat.beq j i) true (cb (has an i j) true (has an j i))=true:=h1;rw[aL,aL]at h1;split at h1
   ·rename_i q;exact .inl (aH.1 q)
   ·split at h1
    ·rename_i q;exact .inr (.inl q)
    ·exact .inr (.inr h1)
  ·exact aGv h2 t ht j hj
theorem aGw:∀{B:List (Nat × List Nat)} {j:Nat},inB B j=true→j∈B.map Prod.fst
 | [],_,h=>by cases h
 |p::B,j,h=>by
  have h:cb (Nat.beq p.1 j) true (inB B j)=true:=h;cases hb:Nat.beq p.1 j with
  |true=>rw[List.map_cons,←aH.1 hb];exact List.mem_cons_self
  |false=>
   rw[hb]at h;rw[List.map_cons];exact List.mem_cons_of_mem _ (aGw h)
theorem aKF{an:T 3 Nat}{B:List (Nat × List Nat)}{i j:Nat}(h:aEC an B i j=true):has an i j=true∨(j∈B.map Prod.fst∧has an j i=true):=by
 have h:cb (has an i j) true (cb (inB B j) (has an j i) false)=true:=h;cases h1:has an i j with
 |true=>exact .inl rfl
 |false=>
  rw[h1]at h;obtain⟨h2,h3⟩:=aO.1 (show cb (inB B j) (has an j i) false=true from h);exact .inr ⟨aGw h2,h3⟩
theorem aGx{wt an:T 3 Nat}{B:List (Nat × List Nat)}{i:Nat}:∀{l:List Tmp},shU wt an B i l=true→∀t∈l,∀j,wt.get t=some j→aEC an B i j=true
 | [],_,t,ht,_,_=>by cases ht
 |x::l,h,t,ht,j,hj=>by
  obtain⟨h1,h2⟩:=aO.1 (show cb (Option.rec (motive:=fun _=>Bool) true (aEC an B i) (wt.get x)) (shU wt an B i l) false=true from h);rcases List.mem_cons.1 ht with rfl|ht
  ·rw[hj]at h1;exact h1
  ·exact aGx h2 t ht j hj
theorem lL{wt an:T 3 Nat}:∀{l:List Oper} {k:Nat},shL ops wt an l k=true→∀j o,l[j]? =some o→shQ wt (k+j) o.dst=true∧shT wt an (k+j) (o.looksAt ops)=true
 | [],_,_,_,_,hj=>by simp at hj
 |x::l,k,h,j,o,hj=>by
  obtain⟨h1,h2⟩:=aO.1 (show cb (shQ wt k x.dst) (cb (shT wt an k (x.looksAt ops)) (shL ops wt an l (Nat.succ k)) false) false=true from h);obtain⟨h3,h4⟩:=aO.1 h2;cases j with
  |zero=>simp at hj;subst hj;exact⟨h1,h3⟩
  |succ j=>
   have:=lL h4 j o (by simpa using hj);rw[show k+(j+1)=Nat.succ k+j from by omega];exact this
theorem aMC{wt:T 3 Nat}{i d:Nat}(h:shQ wt i (some d)=true):wt.get d=some i:=by
 have h:Option.rec (motive:=fun _=>Bool) false (Nat.beq i) (wt.get d)=true:=h;cases hg:wt.get d with
 |none=>rw[hg]at h;cases h
 |some j=>rw[hg]at h;rw[aH.1 h]
theorem aGy{wt an:T 3 Nat}{B:List (Nat × List Nat)}:∀{l:List Nat},shV ops wt an B l=true→∀j∈l,∃o,ops[j]? =some o∧shU wt an B j (o.looksAt ops)=true
 | [],_,j,hj=>by cases hj
 |i::l,h,j,hj=>by
  obtain⟨h1,h2⟩:=aO.1 (show cb (Option.rec (motive:=fun _=>Bool) false (fun o=>shU wt an B i (o.looksAt ops)) (drp i ops.toList).head?) (shV ops wt an B l) false=true from h);rcases List.mem_cons.1 hj with rfl|hj
  ·cases hg:(drp j ops.toList).head? with
   |none=>rw[hg]at h1;cases h1
   |some o=>rw[hg]at h1;exact⟨o,by simpa using bN hg,h1⟩
  ·exact aGy h2 j hj
theorem aGz{wt an:T 3 Nat}{B:List (Nat × List Nat)}:∀{l:List (Nat × List Nat)},shW ops wt an B l=true→∀p∈l,shV ops wt an B p.2=true
 | [],_,p,hp=>by cases hp
 |q::l,h,p,hp=>by
  obtain⟨h1,h2⟩:=aO.1 (show cb (shV ops wt an B q.2) (shW ops wt an B l) false=true from h);rcases List.mem_cons.1 hp with rfl|hp
  ·exact h1
  ·exact aGz h2 p hp
def Rdy(ops:Array Oper)(L:Nat→Bool):Prop:=∃i o,ops[i]? =some o∧L i=false∧∀e∈o.after,Region.binds .any e=true→L e.on=true
structure Plan (F:Cf) (ops:Array Oper) (A:List Nat) (B:List (Nat × List Nat)):Prop where
 nd:(A++B.map Prod.fst).Nodup
 all:∀i,i<ops.size→i∈A++B.map Prod.fst
 a:∀l1 i l2,A=l1++i::l2→One F ops true l1 i 0
 b:∀l1 i rm l2,B=l1++(i,rm)::l2→One F ops false (A++l1.map Prod.fst) i (msN rm)
 wr:∀(i:Nat) (o:Oper) (t:Tmp) (j:Nat) (o':Oper),ops[i]? =some o→t∈o.looksAt ops→ops[j]? =some o'→o'.dst=some t→j=i∨Reach ops i j∨Reach ops j i
 un:∀(i j:Nat) (o o':Oper) (t:Tmp),ops[i]? =some o→ops[j]? =some o'→o.dst=some t→o'.dst=some t→i=j
 late:∀p∈B,∀j∈p.2,∃o,ops[j]? =some o∧∀t∈o.looksAt ops,∀(i:Nat) (o':Oper),ops[i]? =some o'→o'.dst=some t→Reach ops j i∨(i∈B.map Prod.fst∧Reach ops i j)
 ns:Region.noSelect ops=true
 dn:∀L:Nat→Bool,(∃j,j<ops.size∧L j=false)→Rdy ops L
 rm:∀q∈B,∀j∈q.2,j∉B.map Prod.fst
theorem aOe{l:List (Nat × List Nat)}{j:Nat}:(fsN l).testBit j=true↔j∈l.map Prod.fst:=by
 induction l with
 |nil=>simp[fsN]
 |cons p l ih=>
  show (Nat.lor (bit p.1) (fsN l)).testBit j=true↔_;rw[nW,ih,jB,List.map_cons,List.mem_cons,eq_comm]
theorem aGA{m:Nat}:∀{l:List (Nat × List Nat)},rmL m l=true→∀q∈l,∀j∈q.2,m.testBit j≠true
 | [],_,q,hq=>by cases hq
 |p::l,h,q,hq=>by
  obtain⟨h1,h2⟩:=aO.1 (show cb (Nat.beq (Nat.land (msN p.2) m) 0) (rmL m l) false=true from h);rcases List.mem_cons.1 hq with rfl|hq
  ·intro j hj hm;have h3:msN q.2 &&& m=0:=aH.1 h1;have h4:(msN q.2 &&& m).testBit j=true:=(by rw[Nat.testBit_and,yC.2 hj,hm];rfl);rw[h3]at h4;simp at h4
  ·exact aGA h2 q hq
theorem aOf{e:Edge}(h:Region.binds .any e=true):edg false e=true:=by
 obtain⟨on,g⟩:=e;cases g with
 |textOnly r=>cases h
 |gcOnly r=>cases h
 |_=>rfl
theorem aGB{L:Nat→Bool}:∀{l:List Oper} {k d:Nat},ops.toList.drop k=l→(∀j,d.testBit j=true→L j=false→Rdy ops L)→∀j,(tp1 l k d).testBit j=true→L j=false→Rdy ops L
 | [],k,d,_,h,j,hj,hL=>h j hj hL
 |o::l,k,d,hl,h,j,hj,hL=>by
  have e1:tp1 (o::l) k d=tp1 l (Nat.succ k) (cb (sub (msk false bit o.after.toList) d) (Nat.lor d (bit k)) d):=by
    show dK _ (tp1 l (Nat.succ k))=_;rw[aM]
  rw[e1]at hj;have ho:ops[k]? =some o:=by
    have:=congrArg List.head? hl;simpa using this
  have hl2:ops.toList.drop (k+1)=l:=by
    rw[←List.tail_drop,hl];rfl
  refine aGB hl2 (fun i hi hLi=>?_) j hj hL;rw[aL]at hi;split at hi
  ·rename_i hs;rcases nW.1 hi with hi|hi
   ·exact h i hi hLi
   ·have hk:=jB.1 hi;subst hk;by_cases hr:∃e∈o.after,Region.binds .any e=true∧L e.on=false
    ·obtain⟨e,he,hb,hLe⟩:=hr;exact h e.on (aAQ hs (aES.2 ⟨e,Array.mem_toList_iff.2 he,aOf hb,jB.2 rfl⟩)) hLe
    ·refine⟨k,o,ho,hLi,fun e he hb=>?_⟩;cases hLe:L e.on with
     |true=>rfl
     |false=>exact absurd ⟨e,he,hb,hLe⟩ hr
  ·exact h i hi hLi
theorem aGC{L:Nat→Bool}:∀{n d:Nat},(∀j,d.testBit j=true→L j=false→Rdy ops L)→∀j,(tpN ops.toList n d).testBit j=true→L j=false→Rdy ops L
 |0,_,h,j,hj,hL=>h j hj hL
 |n+1,d,h,j,hj,hL=>aGC (n:=n) (d:=tp1 ops.toList 0 d) (fun i hi hLi=>aGB (k:=0) List.drop_zero h i hi hLi) j hj hL
theorem aGD{A:List Nat}{B:List (Nat × List Nat)}(h:lS F ops (A,B)=true):Plan F ops A B:=by
 unfold lS at h;cases hs:ob (scA F ops.toList (A,B).1 ⟨0,.lf⟩) (scB F ops.toList (A,B).2) with
 |none=>rw[hs]at h;cases h
 |some s=>
  rw[hs]at h;obtain⟨h1,h2⟩:=aO.1 (show cb (Nat.beq (Nat.succ s.d) (bit (len ops.toList))) (cb (isS (wtL ops.toList 0 .lf) fun wt=>cb (shL ops wt s.an ops.toList 0) (shW ops wt s.an B B) false) (cb (rmL (fsN B) B) (cb (Nat.beq (Nat.succ (tpN ops.toList 8 0)) (bit (len ops.toList))) (Region.noSelect ops) false) false) false) false=true from h);obtain⟨h3,h40⟩:=aO.1 h2;obtain⟨h41,h42⟩:=aO.1 h40;obtain⟨h43,h4⟩:=aO.1 h42;obtain⟨s1,h5,h6⟩:=aA.1 hs;have h0:ScI ops ⟨0,.lf⟩ []:=⟨fun j=>by simp,fun i a j hk=>(by rw[T.get_lf]at hk;cases hk),List.nodup_nil⟩
  obtain⟨h7,h8⟩:=aGt h0 h5;obtain⟨h9,h10⟩:=aGu h7 h6;simp only[List.nil_append]at h8 h9 h10;cases hw:wtL ops.toList 0 .lf with
  |none=>rw[hw]at h3;cases h3
  |some wt=>
   rw[hw]at h3;obtain⟨h11,h12⟩:=aO.1 (show cb (shL ops wt s.an ops.toList 0) (shW ops wt s.an B B) false=true from h3);have hget:∀i o t,ops[i]? =some o→o.dst=some t→wt.get t=some i:=fun i o t ho hd=>by
      have:=(lL h11 i o (by simpa using ho)).1;rw[hd,Nat.zero_add]at this;exact aMC this
   refine⟨h9.nd,fun i hi=>(h9.d i).1 ?_,h8,h10,fun i o t j o' ho ht ho' hd=>?_,fun i j o o' t ho ho' hd hd'=>?_,fun p hp j hj=>?_,h4,fun L hL=>?_,fun q hq j hj hm=>aGA h41 q hq j hj (aOe.2 hm)⟩
   ·have h13:s.d+1=2^ops.size:=by
       have:=aH.1 h1;rw[show bit (len ops.toList)=2^(len ops.toList) from (by show 1<<<_=_;rw[Nat.one_shiftLeft]),bH]at this;simpa using this
    have h14:s.d=2^ops.size-1:=(by omega);rw[h14,Nat.testBit_two_pow_sub_one];simpa using hi
   ·have h13:=(lL h11 i o (by simpa using ho)).2;rw[Nat.zero_add]at h13;rcases aGv h13 t ht j (hget j o' t ho' hd) with q|q|q
    ·exact .inl q
    ·exact .inr (.inl (aAR h9 q))
    ·exact .inr (.inr (aAR h9 q))
   ·have:=(hget i o t ho hd).symm.trans (hget j o' t ho' hd');injection this
   ·obtain⟨o,k1,k2⟩:=aGy (aGz h12 p hp) j hj;exact⟨o,k1,fun t ht i o' ho' hd=>(aKF (aGx k2 t ht i (hget i o' t ho' hd))).imp (fun q=>aAR h9 q) fun q=>⟨q.1,aAR h9 q.2⟩⟩
   ·obtain⟨j,hj,hLj⟩:=hL;refine aGC (n:=8) (d:=0) (fun i hi=>by simp at hi) j ?_ hLj;have h13:tpN ops.toList 8 0+1=2^ops.size:=by
       have:=aH.1 h43;rw[show bit (len ops.toList)=2^(len ops.toList) from (by show 1<<<_=_;rw[Nat.one_shiftLeft]),bH]at this;simpa using this
    have h14:tpN ops.toList 8 0=2^ops.size-1:=(by omega);rw[h14,Nat.testBit_two_pow_sub_one];simpa using hj
end
def Low(h hq:H):Prop:=∀id,id<h.n→(∀b,hq.h.get id=some b→h.h.get id=some b)∧∀p,hq.l.get id=some p→h.l.get id=some p
theorem Low.refl(h:H):Low h h:=fun _ _=>⟨fun _ k=>k,fun _ k=>k⟩
theorem Low.trans{a b c:H}(h:Low a b)(hn:a.n≤b.n)(k:Low b c):Low a c:=fun id hi=>⟨fun x q=>(h id hi).1 x ((k id (Nat.lt_of_lt_of_le hi hn)).1 x q),fun x q=>(h id hi).2 x ((k id (Nat.lt_of_lt_of_le hi hn)).2 x q)⟩
def stages(tr:List Tp)(h1:H):List H:=tr.map Tp.h++[h1]
section
variable {F:Cf} {nt:Nat} {call:bB} {ops:Array Oper} {e e1:Env} {h h1:H} {tr l1 l2:List Tp} {p:Tp}
theorem Trace.split{S:Tp→Prop}:∀{l1:List Tp} {e:Env} {h:H},Trace S e h (l1++p::l2) e1 h1→Trace S e h l1 p.e p.h∧S p∧Trace S p.e' p.h' l2 e1 h1
 | [],e,h,ht=>by
   cases ht with
   |cons hp ht=>exact⟨.nil _ _,hp,ht⟩
 |q::l1,e,h,ht=>by
  cases ht with
  |cons hp ht=>
   obtain⟨k1,k2,k3⟩:=Trace.split ht;exact⟨.cons hp k1,k2,k3⟩
theorem aET(hc:bZ call)(hp:St1 F nt call ops.toList H.lift p):p.h.n≤p.h'.n∧Low p.h p.h'∧p.h'.bar=p.h.n:=by
 cases hb:p.b with
 |true=>
  have k:=xY hc (Nat.le_refl _) (hp.y hb);exact⟨k.n,fun id hi=>⟨fun b q=>k.b id b hi q,fun b q=>k.lo id b hi q⟩,k.bar⟩
 |false=>
  obtain⟨-,k⟩:=hp.n hb;rw[k];exact⟨Nat.le_refl _,fun _ _=>⟨fun _ q=>q,fun _ q=>q⟩,rfl⟩
theorem later(hc:bZ call)(ht:Trace (St1 F nt call ops.toList H.lift) e h tr e1 h1):∀hq∈stages tr h1,h.n≤hq.n∧Low h hq:=by
 induction ht with
 |nil e h=>
  intro hq hm;simp[stages]at hm;subst hm;exact⟨Nat.le_refl _,Low.refl _⟩
 | @cons p l e2 h2 hp ht ih=>
   intro hq hm;obtain⟨k1,k2,-⟩:=aET hc hp;rcases List.mem_cons.1 (show hq∈p.h::stages l h2 from hm) with rfl|hm
   ·exact⟨Nat.le_refl _,Low.refl _⟩
   ·obtain⟨k3,k4⟩:=ih hq hm;exact⟨Nat.le_trans k1 k3,k2.trans k1 k4⟩
theorem fB(hp:p∈tr):p.h∈stages tr h1:=List.mem_append_left _ (List.mem_map_of_mem hp)
theorem bT:h1∈stages tr h1:=List.mem_append_right _ List.mem_cons_self
theorem sides(hc:bZ call)(ht:Trace (St1 F nt call ops.toList H.lift) e h tr e1 h1):∀p∈tr,∀hq∈stages tr h1,hq.n≤p.h.n∨(p.h'.n≤hq.n∧Low p.h' hq):=by
 induction ht with
 |nil e h=>intro p hp;cases hp
 | @cons p0 l e2 h2 hp ht ih=>
   intro p hpm hq hm;obtain⟨k1,k2,-⟩:=aET hc hp;have hl:=later hc ht;rcases List.mem_cons.1 (show hq∈p0.h::stages l h2 from hm) with rfl|hm2
   ·rcases List.mem_cons.1 hpm with rfl|hpm
    ·exact .inl (Nat.le_refl _)
    ·exact .inl (Nat.le_trans k1 (hl _ (fB hpm)).1)
   ·rcases List.mem_cons.1 hpm with rfl|hpm
    ·exact .inr (hl hq hm2)
    ·exact ih p hpm hq hm2
structure JAg (F:Cf) (nt:Nat) (ops:Array Oper) (c0:Cx) (wb:World) (a0:Act) (e0:Env) (h0:H) (tr:List Tp) (h1:H) (b0:Nat) (B:List Nat) (g:Cx) (L:Nat→Bool) (a:Act) (w:World):Prop where
 w:g.w=w
 z:∀t,g.z t=F.P.cellsOf t
 st:∀hq∈stages tr h1,Rl (g.lo hq.n) wb (hq.back b0)
 kn:∀id,g.k id→id<h0.n∨∃p∈tr,L p.i=true∧p.h.n≤id∧id<p.h'.n
 x:Xs c0 g
 p:Ps c0.w g.w
 o:∀id,g.k id→c0.k id∨h0.n≤id
 v:∀p∈tr,L p.i=true→∀d,p.o.dst=some d→∃u,a.tmps[d]? =some u∧VR (g.lo p.h'.n) p.v u
 b:∀t v,e0.get t=some v→(∀p∈tr,p.o.dst=some t→L p.i=false)→∃u,a.tmps[t]? =some u∧VR (g.lo h0.n) v u
 sz:a.tmps.size=nt
 df:a.defers=a0.defers
 cl:∀i o e,ops[i]? =some o→L i=true→e∈o.after→keep o e=true→L e.on=true
 nb:∀i∈B,L i=false
theorem vM{g:Cx}{m m':Nat}(h:m≤m'):Xs (g.lo m) (g.lo m'):=⟨fun _ q=>⟨q.1,Nat.lt_of_lt_of_le q.2 h⟩,fun _ _=>rfl,fun _ _ k=>k,fun _ _ k=>k,fun _ _ cs _ k=>⟨cs,k,rfl⟩,rfl⟩
theorem aAn{o:Oper}{x:Operand}{t:Tmp}(hx:x∈o.op.operands)(ht:x=.tmp t):t∈o.looksAt ops:=by
 subst ht;exact List.mem_append_left _ (List.mem_filterMap.2 ⟨.tmp t,by simpa using hx,rfl⟩)
theorem Reach.first{i j:Nat}(h:Reach ops i j):∃o e,ops[i]? =some o∧e∈o.after∧keep o e=true∧(e.on=j∨Reach ops e.on j):=by
 cases h with
 |one ho he hb=>exact⟨_,_,ho,he,hb,.inl rfl⟩
 |more ho he hb hr=>exact⟨_,_,ho,he,hb,.inr hr⟩
def look(ops:Array Oper)(o:Oper):Nat→Bool:=fun t=>decide (t∈o.looksAt ops)
theorem yD{o:Oper}{x:Operand}(hx:x∈o.op.operands):ev e x=ev (e.flt (look ops o)) x:=by
 cases x with
 |tmp t=>
  show e.get t=(e.flt (look ops o)).get t;rw[T.get_flt,if_pos (by simpa [look] using aAn (ops:=ops) hx rfl)]
 |_=>rfl
theorem rH{o:Oper}:wanted ops.toList e o.guard=wanted ops.toList (e.flt (look ops o)) o.guard:=by
 cases hg:o.guard with
 |none=>rfl
 |some p=>
  obtain⟨j,w⟩:=p;show (ob (drp j ops.toList).head? fun o=>ob o.dst fun d=>isB (e.get d) w)=ob (drp j ops.toList).head? fun o2=>ob o2.dst fun d=>isB ((e.flt (look ops o)).get d) w;cases h1:(drp j ops.toList).head? with
  |none=>rfl
  |some o2=>
   show (ob o2.dst fun d=>isB (e.get d) w)=ob o2.dst fun d=>isB ((e.flt (look ops o)).get d) w;cases h2:o2.dst with
   |none=>rfl
   |some d=>
    have h3:ops[j]? =some o2:=(by simpa using bN h1);have h4:d∈o.looksAt ops:=(by simp[Oper.looksAt,hg,h3,h2]);show isB (e.get d) w=isB ((e.flt (look ops o)).get d) w;rw[T.get_flt,if_pos (by simpa [look] using h4)]
theorem JAg.looks{c0 g:Cx}{wb:World}{a0 a:Act}{w:World}{e0:Env}{h0:H}{b0:Nat}{B:List (Nat × List Nat)}{L:Nat→Bool}(hc:bZ call)(ht:Trace (St1 F nt call ops.toList H.lift) e0 h0 (l1++p::l2) e1 h1)
  (hP:Plan F ops ((l1++p::l2).map Tp.i) B) (hJ:JAg F nt ops c0 wb a0 e0 h0 (l1++p::l2) h1 b0 (B.map Prod.fst) g L a w) (hi:L p.i=false) (hdep:∀e∈p.o.after,keep p.o e=true→L e.on=true):Tr (g.lo p.h.n) nt (p.e.flt (look ops p.o)) a.tmps:=by
 refine⟨hJ.sz,fun t v hv=>?_⟩;rw[T.get_flt]at hv;split at hv
 ·rename_i hlk;have hlk:t∈p.o.looksAt ops:=(by simpa [look] using hlk);obtain⟨t1,hp,t2⟩:=ht.split;have ho:ops[p.i]? =some p.o:=(by simpa using bN hp.o);have hmem:p∈l1++p::l2:=List.mem_append_right _ List.mem_cons_self
  --what the operation reaches is done
  have hreach:∀j,Reach ops p.i j→L j=true:=fun j hr=>by
   cases hr with
   |one ho2 he hb=>rw[ho]at ho2;injection ho2 with ho2;subst ho2;exact hdep _ he hb
   |more ho2 he hb hr=>rw[ho]at ho2;injection ho2 with ho2;subst ho2;exact hr.closed (S:=fun i=>L i=true) hJ.cl (hdep _ he hb)
  have hback:∀j,Reach ops j p.i→L j=false:=fun j hr=>by
   cases hL:L j with
   |false=>rfl
   |true=>
    have:=hr.closed (S:=fun i=>L i=true) hJ.cl hL;rw[hi]at this;cases this
  have hop:∀q∈l1++p::l2,ops[q.i]? =some q.o:=fun q hq=>by
   obtain⟨s1,s2,he⟩:=List.append_of_mem hq;rw[he]at ht;simpa using bN ht.split.2.1.o
  rcases t1.get (fun q hq=>hq.e) hv with⟨q,hq,hd,rfl⟩|⟨hno,hv⟩
  ·have hqm:q∈l1++p::l2:=List.mem_append_left _ hq;have hdone:L q.i=true:=by
    rcases hP.wr p.i p.o t q.i q.o ho hlk (hop q hqm) hd with k|k|k
    ·have hnd:=hP.nd;rw[List.map_append,List.map_cons]at hnd;have:=(List.nodup_append.1 (List.nodup_append.1 hnd).1).2.2 q.i (List.mem_map_of_mem hq) p.i List.mem_cons_self;exact absurd k this
    ·exact hreach _ k
    ·exfalso
     --q stands ahead of p in the order
     obtain⟨s1,s2,he⟩:=List.append_of_mem hq;have hone:∀s1 q s2,(l1++p::l2).map Tp.i=s1++q::s2→∀o e,ops[q]? =some o→e∈o.after→keep o e=true→e.on∈s1:=fun s1 q s2 hs o e ho2 he hb=>by
      obtain⟨o',k1,k2,-⟩:=(hP.a s1 q s2 hs).o;rw[ho2]at k1;injection k1 with k1;subst k1;exact k2 e he hb
     have hS:∀i o e,ops[i]? =some o→i∈l1.map Tp.i→e∈o.after→keep o e=true→e.on∈l1.map Tp.i:=fun i o e ho2 him he2 hb=>by
      obtain⟨x1,x2,hx⟩:=List.append_of_mem him;have:=hone x1 i (x2++p.i::l2.map Tp.i) (by rw[List.map_append,List.map_cons,hx];simp) o e ho2 he2 hb;rw[hx];exact List.mem_append_left _ this
     have h2:=k.closed (S:=fun i=>i∈l1.map Tp.i) hS (List.mem_map_of_mem hq);have hnd:=hP.nd;rw[List.map_append,List.map_cons]at hnd;exact (List.nodup_append.1 (List.nodup_append.1 hnd).1).2.2 p.i h2 p.i List.mem_cons_self rfl
   obtain⟨u,k1,k2⟩:=hJ.v q hqm hdone t hd;refine⟨u,k1,k2.xs (vM ?_)⟩;obtain⟨s1,s2,he⟩:=List.append_of_mem hq;rw[he]at t1;exact (later hc t1.split.2.2 p.h bT).1
  ·obtain⟨u,k1,k2⟩:=hJ.b t v hv (fun q hq hd=>by
    rcases hP.wr p.i p.o t q.i q.o ho hlk (hop q hq) hd with k|k|k
    ·rw[k];exact hi
    ·exfalso
     --what p waits for stands ahead of it
     have h2:q.i∈l1.map Tp.i:=by
      have hone:∀s1 i s2,(l1++p::l2).map Tp.i=s1++i::s2→∀o e,ops[i]? =some o→e∈o.after→keep o e=true→e.on∈s1:=fun s1 i s2 hs o e ho2 he hb=>by
       obtain⟨o',k1,k2,-⟩:=(hP.a s1 i s2 hs).o;rw[ho2]at k1;injection k1 with k1;subst k1;exact k2 e he hb
      have hS:∀i o e,ops[i]? =some o→i∈l1.map Tp.i→e∈o.after→keep o e=true→e.on∈l1.map Tp.i:=fun i o e ho2 him he2 hb=>by
       obtain⟨x1,x2,hx⟩:=List.append_of_mem him;have:=hone x1 i (x2++p.i::l2.map Tp.i) (by rw[List.map_append,List.map_cons,hx];simp) o e ho2 he2 hb;rw[hx];exact List.mem_append_left _ this
      have hp1:=hone (l1.map Tp.i) p.i (l2.map Tp.i) (by simp);obtain⟨o2,e2,ho2,he,hb,hr⟩:=k.first;rcases hr with hr|hr
      ·rw[←hr];exact hp1 _ _ ho2 he hb
      ·exact hr.closed (S:=fun i=>i∈l1.map Tp.i) hS (hp1 _ _ ho2 he hb)
     obtain⟨q2,hq2,hqi⟩:=List.mem_map.1 h2;have:q2.o=q.o:=by
      have m1:=hop q2 (List.mem_append_left _ hq2);have m2:=hop q hq;rw[hqi,m2]at m1;injection m1 with m1;exact m1.symm
     exact hno q2 hq2 (by rw[this];exact hd)
    ·exact hback _ k)
   exact⟨u,k1,k2.xs (vM (later hc t1 p.h bT).1)⟩
 ·cases hv
end
section
variable {F:Cf} {nt:Nat} {call:bB} {ops:Array Oper} {e0 e1:Env} {h0 h1:H} {l1 l2:List Tp} {p:Tp} {c0 g d:Cx} {wb:World} {a0 a:Act} {b0:Nat} {B:List (Nat × List Nat)} {L:Nat→Bool} {w:World}
theorem yE{u:Value}{t:Tmp}{x:Nat}(h:x<a.tmps.size)(ht:t=x):(a.put (some x) u).tmps[t]? =some u:=by
 subst ht;simp[Act.put,h]
theorem uC{u:Value}{t:Tmp}{d0:Option Tmp}(h:d0≠some t):(a.put d0 u).tmps[t]? =a.tmps[t]? :=by
 cases d0 with
 |none=>rfl
 |some k=>
  simp only[Act.put,Array.getElem?_setIfInBounds];rw[if_neg (fun e=>h (by rw[e]))]
theorem rJ{i j:Nat}(h:Ja.upd L i true j=true):j=i∨L j=true:=by
 unfold Ja.upd at h;split at h
 ·rename_i q;exact .inl q
 ·exact .inr h
theorem iN{i j:Nat}(h:L j=true):Ja.upd L i true j=true:=by
 unfold Ja.upd;split
 ·rfl
 ·exact h
theorem aEU{i:Nat}:Ja.upd L i true i=true:=by unfold Ja.upd;rw[if_pos rfl]
theorem rM{i j:Nat}(h:Ja.upd L i true j=false):j≠i∧L j=false:=by
 unfold Ja.upd at h;split at h
 ·cases h
 ·rename_i q;exact⟨q,h⟩
theorem JAg.next{u:Value}(hc:bZ call)(ht:Trace (St1 F nt call ops.toList H.lift) e0 h0 (l1++p::l2) e1 h1)(hP:Plan F ops ((l1++p::l2).map Tp.i) B)(hJ:JAg F nt ops c0 wb a0 e0 h0 (l1++p::l2) h1 b0 (B.map Prod.fst) g L a w)(hi:L p.i=false)(hdep:∀e∈p.o.after,keep p.o e=true→L e.on=true)
  (X:Xt (g.lo p.h.n) d) (R:Rl d g.w p.h') (V:VR d p.v u):JAg F nt ops c0 wb a0 e0 h0 (l1++p::l2) h1 b0 (B.map Prod.fst) (g.mg d p.h.n p.h'.n) (Ja.upd L p.i true) (a.put p.o.dst u) d.w:=by
 obtain⟨t1,hp,t2⟩:=ht.split;have ho:ops[p.i]? =some p.o:=by simpa using bN hp.o
 have hmem:p∈l1++p::l2:=List.mem_append_right _ List.mem_cons_self;obtain⟨hn,-,hbar⟩:=aET hc hp;have hnd:=hP.nd;have hnd2:=(List.nodup_append.1 hnd).1;rw[List.map_append,List.map_cons]at hnd2;have hone:∀q∈l1++p::l2,q.i=p.i→q=p:=fun q hq hqi=>by
  rcases List.mem_append.1 hq with hq|hq
  ·exact absurd hqi ((List.nodup_append.1 hnd2).2.2 q.i (List.mem_map_of_mem hq) p.i List.mem_cons_self)
  ·rcases List.mem_cons.1 hq with rfl|hq
   ·rfl
   ·exact absurd (by rw[←hqi];exact List.mem_map_of_mem hq) (List.nodup_cons.1 (List.nodup_append.1 hnd2).2.1).1
 have hop:∀q∈l1++p::l2,ops[q.i]? =some q.o:=fun q hq=>by
  obtain⟨s1,s2,he⟩:=List.append_of_mem hq;rw[he]at ht;simpa using bN ht.split.2.1.o
 have hlow:h0.n≤p.h.n:=(later hc ht _ (fB hmem)).1;have hf:∀id,g.k id→p.h.n≤id→p.h'.n≤id:=fun id hk hge=>by
  rcases hJ.kn id hk with q|⟨q,hq,hL,q1,q2⟩
  ·omega
  ·rcases sides hc ht p hmem q.h (fB hq) with k|k
   ·--q stands ahead of p,or is p
    rcases List.mem_append.1 hq with hq|hq
    ·obtain⟨s1,s2,he⟩:=List.append_of_mem hq;rw[he]at t1;have:=(later hc t1.split.2.2 p.h bT).1;omega
    ·rcases List.mem_cons.1 hq with rfl|hq
     ·rw[hi]at hL;cases hL
     ·obtain⟨s1,s2,he⟩:=List.append_of_mem hq;rw[he]at t2;have h5:=(later hc t2 q.h (fB (List.mem_append_right _ List.mem_cons_self))).1;omega
   ·omega
 have hlt:∀id,d.k id→id<p.h'.n:=fun id q=>by have:=R.k id q;rw[R.n]at this;exact this
 refine⟨rfl,hJ.z,fun hq hm=>?_,fun id hk=>?_,?_,hJ.p.trans X.p,fun id hk=>?_,fun q hq hL x hd=>?_,fun t v hv hno=>?_,?_,?_,fun i o e hio hL he hb=>?_,fun i hiB=>?_⟩
 ·refine Rl.merge X R rfl hbar hf (hJ.st hq hm) ?_;rcases sides hc ht p hmem hq hm with k|⟨k1,k2⟩
  ·exact .inl k
  ·exact .inr ⟨k1,fun id b hlt=>(k2 id hlt).1 b,fun id b hlt=>(k2 id hlt).2 b⟩
 ·rcases hk with hk|⟨hk,hge⟩
  ·rcases hJ.kn id hk with q|⟨q,hq,hL,q1,q2⟩
   ·exact .inl q
   ·exact .inr ⟨q,hq,iN hL,q1,q2⟩
  ·exact .inr ⟨p,hmem,aEU,hge,hlt id hk⟩
 ·exact⟨fun id hk=>.inl (hJ.x.k id hk),fun id hk=>(uA hf (hJ.x.k id hk)).trans (hJ.x.r id hk),fun v N q=>X.p.m v N (hJ.x.m v N q),fun v N q=>X.p.mr v N (hJ.x.mr v N q),fun gg t cs fr q=>by
   obtain⟨cs1,k1,k2⟩:=hJ.x.s gg t cs fr q;obtain⟨cs2,k3,k4⟩:=X.p.s gg t cs1 fr k1;exact⟨cs2,k3,k4.trans k2⟩,hJ.x.z⟩
 ·rcases hk with hk|⟨hk,hge⟩
  ·exact hJ.o id hk
  ·exact .inr (Nat.le_trans hlow hge)
 ·by_cases hqi:q.i=p.i
  ·have:=hone q hq hqi;subst this;have hlt2:x<a.tmps.size:=by
    have h6:=hp.e;rw[hd]at h6;rw[hJ.sz];exact h6.1
   rw[hd];exact⟨u,yE hlt2 rfl,V.xs (aER X R rfl hf (Nat.le_refl _))⟩
  ·have hL2:L q.i=true:=(rJ hL).resolve_left hqi;obtain⟨u2,k1,k2⟩:=hJ.v q hq hL2 x hd;refine⟨u2,?_,k2.xs (aEQ X hf)⟩;rw[uC (fun hd2=>hqi (hP.un q.i p.i q.o p.o x (hop q hq) ho hd hd2))];exact k1
 ·obtain⟨u2,k1,k2⟩:=hJ.b t v hv (fun q hq hd=>(rM (hno q hq hd)).2);refine⟨u2,?_,k2.xs (aEQ X hf)⟩;rw[uC (fun hd2=>(rM (hno p hmem hd2)).1 rfl)];exact k1
 ·cases p.o.dst with
  |none=>exact hJ.sz
  |some x=>simpa [Act.put] using hJ.sz
 ·cases p.o.dst<;>exact hJ.df
 ·rcases rJ hL with rfl|hL
  ·rw[ho]at hio;injection hio with hio;subst hio;exact iN (hdep e he hb)
  ·exact iN (hJ.cl i o e hio hL he hb)
 ·have hne:i≠p.i:=fun e=>(List.nodup_append.1 hnd).2.2 p.i (List.mem_map_of_mem hmem) i hiB e.symm;unfold Ja.upd;rw[if_neg hne];exact hJ.nb i hiB
theorem JAg.step(hF:FOk F)(htb:F.tb wb)(hc:bZ call)(hopk:∀(j:Nat) (o:Oper) (e:Env) (h:H) (v:AV) (h':H),ops[j]? =some o→op1 F call o.op e h=some (v,h')→kE F nt ops j o e h v h')(ht:Trace (St1 F nt call ops.toList H.lift) e0 h0 (l1++p::l2) e1 h1)(hP:Plan F ops ((l1++p::l2).map Tp.i) B)(hJ:JAg F nt ops c0 wb a0 e0 h0 (l1++p::l2) h1 b0 (B.map Prod.fst) g L a w)(hi:L p.i=false)(hdep:∀e∈p.o.after,keep p.o e=true→L e.on=true)(b:Frame)(rest:List Nat)(k:List Item)(cs:List Frame):
  ∃a' w' g',JAg F nt ops c0 wb a0 e0 h0 (l1++p::l2) h1 b0 (B.map Prod.fst) g' (Ja.upd L p.i true) a' w'∧Steps F.P (lone (b.atR a (.inRegion ops (p.i::rest)::k)) cs w) (lone (b.atR a' (.inRegion ops rest::k)) cs w'):=by
 have hT:=hJ.looks hc ht hP hi hdep;obtain⟨t1,hp,t2⟩:=ht.split;have ho:ops[p.i]? =some p.o:=by simpa using bN hp.o
 have hmem:p∈l1++p::l2:=List.mem_append_right _ List.mem_cons_self;have hR:=hJ.st p.h (fB hmem);have hw:=hJ.w;subst hw;have hRl:Rl (g.lo p.h.n) g.w p.h.lift:=hR.lift;have f:Fr F (g.lo p.h.n) g.w nt p.h.lift (p.e.flt (look ops p.o)) a:=⟨hRl,hJ.z,hT,hF.tq _ _ hR.q htb⟩
 have hwant:wanted ops.toList (p.e.flt (look ops p.o)) p.o.guard=some p.b:=by rw[←rH];exact hp.w
 have hW:=jM hwant hT;cases hb:p.b with
 |true=>
  have hx:op1 F call p.o.op (p.e.flt (look ops p.o)) p.h.lift=some (p.v,p.h'):=by
    rw[←nT (e:=p.e) (fun x hx=>yD hx)];exact hp.y hb
  obtain⟨u,d,X,R,V,S⟩:=hopk p.i p.o _ _ _ _ ho hx (g.lo p.h.n) g.w a f (hW.trans hb) b rest k cs;exact⟨_,_,_,hJ.next hc ht hP hi hdep X R V,S⟩
 |false=>
  obtain⟨hv,hh⟩:=hp.n hb;have S:=stepR_op_skip (P:=F.P) (b:=b) (a:=a) (k:=k) (cs:=cs) (w:=g.w) (ops:=ops) (i:=p.i) (rest:=rest) (by simp[ho,hW.trans hb]);simp only[ho,Option.bind_some]at S;have V:VR (g.lo p.h.n) p.v undef:=(by rw[hv];exact mW);have R:Rl (g.lo p.h.n) g.w p.h':=(by rw[hh];exact hRl);exact⟨_,_,_,hJ.next hc ht hP hi hdep (Xt.refl _) R V,.one S⟩
end
end E
end Go.Proofs.YtamnpcdkcdfgaaaGreatDoor
