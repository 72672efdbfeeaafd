/- PolyComputes is true for any two slices of strings and any two strings. No condition. -/
import Derived.Test.YtpobejcofijjdaaGreatDoorQd16
namespace Go.Proofs.YtpobejcofijjdaaGreatDoor.E
open Go Go.RowKit
open Ma Me K
theorem wC{α:Type}(x:Rat)(k:List SV→α):aMx x k=k (aO x):=by
 obtain⟨n,d,h1,h2⟩:=x;show cb (Nat.beq d 1) _ _=k [.b (decide (n<0)),.m n.natAbs,.m (bt d)];unfold bt;by_cases hd:d=1
 ·rw[aM.2 hd,if_pos hd,bN,if_pos rfl];cases n with
  |ofNat m=>exact bM (n:=m) (f:=fun m=>k [.b false,.m m,.m 0])
  |negSucc m=>rw[show decide (Int.negSucc m<0)=true from decide_eq_true (Int.negSucc_lt_zero m)];exact bM (n:=m) (f:=fun m=>k [.b true,.m (Nat.succ m),.m 0])
 ·rw[show Nat.beq d 1=false from Bool.eq_false_iff.2 fun h=>hd (aM.1 h),if_neg hd,bN,if_neg (by decide),bM];cases n with
  |ofNat m=>exact bM (n:=m) (f:=fun m=>k [.b false,.m m,.m d])
  |negSucc m=>rw[show decide (Int.negSucc m<0)=true from decide_eq_true (Int.negSucc_lt_zero m)];exact bM (n:=m) (f:=fun m=>k [.b true,.m (Nat.succ m),.m d])
theorem mY{c:Cx}{q:Rat}{u:Value}:VR c (.c true (aO q)) u↔Nq c.w u q:=by
 constructor
 ·rintro⟨cs,rfl,h⟩
  match cs,h with
  | [x,y,z],h=>
    obtain⟨h1,h2,h3,-⟩:=h;cases h1;exact⟨y,z,rfl,h2,h3⟩
 ·rintro⟨t,b,rfl,h2,h3⟩;exact⟨[_,t,b],rfl,rfl,h2,h3,trivial⟩
theorem aBs{n:Nat}(h:small n=true):dg W64 n≤1024:=by
 unfold small at h;have h1:=aZ.1 h;rw[big.eq_1]at h1;exact (aN aC n aRj).2 h1
theorem aMB{α:Type}{c:Bool}{f:c=false→Option α}{g:c=true→Option α}{y:α}(h:Bool.rec (motive:=fun b=>c=b→Option α) f g c rfl=some y):(∃e,f e=some y)∨∃e,g e=some y:=by
 cases c with
 |false=>exact .inl ⟨rfl,h⟩
 |true=>exact .inr ⟨rfl,h⟩
theorem aO2{s:Bool}{n m:Nat}{q:Rat}(h:aRl s n m=some q):aO q=[.b s,.m n,.m m]∧Ma.sz q≤2048:=by
 obtain⟨h1,h2⟩:=cbn.1 h;obtain⟨h3,h4⟩:=aD.1 h2;obtain⟨h5,h6⟩:=aD.1 h4;obtain⟨d,hd⟩:∃d,d=cb (Nat.beq m 0) 1 m:=⟨_,rfl⟩
 rw[←hd]at h6;have hm1:m≠1:=fun e=>by rw[e]at h1;cases h1
 have hdm:bt d=m:=by
  rw[hd,bN];unfold bt;by_cases hm:m=0
  ·rw[if_pos (aM.2 hm),if_pos rfl,hm]
  ·rw[if_neg (fun e=>hm (aM.1 e)),if_neg hm1]
 have hds:dg W64 d≤1024:=by
  rw[hd,bN];split
  ·rw[gP aC];decide
  ·exact aBs h5
 have hns:=aBs h3;have key:q.num.natAbs=n∧q.den=d∧decide (q.num<0)=s:=by
  rcases aMB h6 with⟨e1,h7⟩|⟨e1,h7⟩
  ·rcases aMB h7 with⟨e2,h8⟩|⟨e2,h8⟩
   ·cases h8
   ·cases s with
    |false=>
     injection h8 with h8;subst h8;exact⟨rfl,rfl,decide_eq_false (Int.not_lt.2 (Int.natCast_nonneg n))⟩
    |true=>
     rcases aMB (show aRk n d e1 e2=some q from h8) with⟨e3,h9⟩|⟨e3,h9⟩
     ·injection h9 with h9;subst h9;refine⟨?_,rfl,decide_eq_true (Int.negSucc_lt_zero _)⟩;show (Int.negSucc (Nat.pred n)).natAbs=n;cases n with
      |zero=>cases e3
      |succ n=>rfl
     ·cases h9
  ·cases h7
 obtain⟨k1,k2,k3⟩:=key;refine⟨by unfold aO;rw[k1,k2,k3,hdm],?_⟩;have:=fF q;rw[k1,k2]at this;omega
theorem xP{α:Type}{v:AV}{k:Rat→Option α}{y:α}(h:num v k=some y):∃q,v=.c true (aO q)∧Ma.sz q≤2048∧k q=some y:=by
 unfold num at h;split at h
 ·rename_i s n m;obtain⟨q,h1,h2⟩:=aA.1 h;obtain⟨h3,h4⟩:=aO2 h1;exact⟨q,by rw[h3],h4,h2⟩
 ·cases h
def mZ(fn:Nat)(g:List AV→Option AV):Prop:=∀(args:List AV) (v:AV),g args=some v→∀(c:Cx) (vs:List Value),Tb c.w→Px c.w→VL c args vs→
 Calls Tryz.prog fn vs.toArray c.w fun e w'=>∃u,e=.returned u∧Q c.w w'∧VR ⟨c.n,c.k,c.r,w',c.z⟩ v u
theorem aMC{x:Rat}{v:AV}(h:enc x=some v):v=.c true (aO x):=by
 unfold enc at h;rw[wC]at h;injection h with h;exact h.symm
theorem aO3{r:Int × Rat}{v:AV}(h:er r=some v):v=.t [(true,aO r.2),(false,[.i .i64 r.1])]:=by
 unfold er at h;rw[wC]at h;injection h with h;exact h.symm
theorem aSY{c:Cx}{r:Int × Rat}{u:Value}(h:Nq c.w u r.2):VR c (.t [(true,aO r.2),(false,[.i .i64 r.1])]) (.tuple #[u,.int .i64 r.1]):=
 ⟨[u,.int .i64 r.1],rfl,mY.2 h,⟨_,rfl,rfl⟩,trivial⟩
theorem pr1{fn:Nat}{f:Rat→Option AV}(h:∀(x:Value) (p:Rat) (v:AV) (c:Cx),f p=some v→Tb c.w→Px c.w→Nq c.w x p→Ma.sz p≤2048→Calls Tryz.prog fn #[x] c.w fun e w'=>∃u,e=.returned u∧Q c.w w'∧VR ⟨c.n,c.k,c.r,w',c.z⟩ v u):mZ fn (p1 f):=by
 intro args v hx c vs hT hP hv
 match args,vs,hx,hv with
 | [x],[u],hx,hv=>
   obtain⟨q,rfl,h1,h2⟩:=xP (show num x f=some v from hx);exact h u q v c h2 hT hP (mY.1 hv.1) h1
theorem pr2{fn:Nat}{f:Rat→Rat→Option AV}(h:∀(x y:Value) (p q:Rat) (v:AV) (c:Cx),f p q=some v→Tb c.w→Px c.w→Nq c.w x p→Nq c.w y q→Ma.sz p≤2048→Ma.sz q≤2048→Calls Tryz.prog fn #[x,y] c.w fun e w'=>∃u,e=.returned u∧Q c.w w'∧VR ⟨c.n,c.k,c.r,w',c.z⟩ v u):mZ fn (p2 f):=by
 intro args v hx c vs hT hP hv
 match args,vs,hx,hv with
 | [x,y],[u,u2],hx,hv=>
   obtain⟨p,rfl,h1,h2⟩:=xP (show num x (fun p=>num y fun q=>f p q)=some v from hx);obtain⟨q,rfl,h3,h4⟩:=xP h2;exact h u u2 p q v c h4 hT hP (mY.1 hv.1) (mY.1 hv.2.1) h1 h3
theorem jF{fn:Nat}{args:Array Value}{c:Cx}{q:Rat}{v:AV}(hv:enc q=some v)(h:Calls Tryz.prog fn args c.w fun e w'=>∃r,e=.returned r∧Nq w' r q∧Q c.w w'):Calls Tryz.prog fn args c.w fun e w'=>∃u,e=.returned u∧Q c.w w'∧VR ⟨c.n,c.k,c.r,w',c.z⟩ v u:=by
 refine h.mono ?_;rintro e w' ⟨r,h1,h2,h3⟩;rw[aMC hv];exact⟨r,h1,h3,mY.2 h2⟩
theorem aCk{fn:Nat}{args:Array Value}{c:Cx}{q:Int × Rat}{v:AV}(hv:er q=some v)(h:Calls Tryz.prog fn args c.w fun e w'=>∃r,e=.returned (.tuple #[r,.int .i64 q.1])∧Nq w' r q.2∧Q c.w w'):Calls Tryz.prog fn args c.w fun e w'=>∃u,e=.returned u∧Q c.w w'∧VR ⟨c.n,c.k,c.r,w',c.z⟩ v u:=by
 refine h.mono ?_;rintro e w' ⟨r,h1,h2,h3⟩;rw[aO3 hv];exact⟨_,h1,h3,aSY (c:=⟨c.n,c.k,c.r,w',c.z⟩) h2⟩
theorem aKE{fn:Nat}{args:Array Value}{c:Cx}{s:SV}{u:Value}{v:AV}(hv:some (sc s)=some v)(hs:∀w',SR ⟨c.n,c.k,c.r,w',c.z⟩ s u)(h:Calls Tryz.prog fn args c.w fun e w'=>e=.returned u∧Q c.w w'):Calls Tryz.prog fn args c.w fun e w'=>∃u,e=.returned u∧Q c.w w'∧VR ⟨c.n,c.k,c.r,w',c.z⟩ v u:=by
 refine h.mono ?_;rintro e w' ⟨h1,h2⟩;injection hv with hv;subst hv;exact⟨u,h1,h2,aG.2 (hs w')⟩
theorem iO{s:ByteArray}{l:List Nat}(h:bytes s=l):by8 l=s.data.toList∧len l=s.size:=by
 subst h;refine⟨?_,(aY _).trans (by unfold bytes;rw[List.length_map,Array.length_toList];rfl)⟩;unfold by8 bytes;rw[List.map_map];exact (List.map_congr_left fun x _=>(UInt8.ofNat_toNat:UInt8.ofNat x.toNat=x)).trans (List.map_id _)
theorem iP{t:ByteArray}{l:List UInt8}(h:t.data.toList=l):bytes t=un8 l:=by
 subst h;rfl
theorem oD{α:Type}{v:AV}{k:Int→Option α}{y:α}(h:int v k=some y):∃n,v=sc (.i .i64 n)∧k n=some y:=by
 unfold int at h;split at h
 ·exact⟨_,rfl,h⟩
 ·cases h
theorem aRp:mZ 32 aRm:=by
 intro args v hx c vs hT hP hv
 match args,vs,hx,hv with
 | [x],[u],hx,hv=>
   obtain⟨n,rfl,h0⟩:=oD (show int x (fun n=>cb (decide (-9223372036854775808≤n) && decide (n≤9223372036854775807)) (enc (n:Rat)) none)=some v from hx);obtain⟨h1,h2⟩:=aD.1 h0;obtain⟨h3,h4⟩:=(Bool.and_eq_true _ _).mp h1;have hu:u=.int .i64 n:=aG.1 hv.1;subst hu;exact jF h2 (aSG n c.w (of_decide_eq_true h3) (of_decide_eq_true h4))
theorem aO4:mZ 71 aIn:=by
 intro args v hx c vs hT hP hv;unfold aIn at hx;split at hx
 ·rename_i n
  match vs,hv with
  | [u],hv=>
    have hu:u=.int .u64 (Int.ofNat n):=aG.1 (show VR c (sc (.i .u64 (.ofNat n))) u from hv.1);subst hu;obtain⟨h1,h2⟩:=aD.1 hx;injection h2 with h2;subst h2;refine (iM (Int.ofNat n) n c.w rfl (aZ.1 h1)).mono ?_;rintro e w' ⟨r,h3,h4,h5,-⟩;exact⟨r,h3,h5,aG.2 h4⟩
 ·cases hx
theorem aGa:mZ 70 zP:=by
 intro args v hx c vs hT hP hv;unfold zP at hx;split at hx
 ·rename_i s n m
  match vs,hv with
  | [u1,u2,u3],hv=>
    have h1:u1=.bool s:=aG.1 (show VR c (sc (.b s)) u1 from hv.1);have h2:Nm c.w u2 n:=aG.1 (show VR c (sc (.m n)) u2 from hv.2.1);have h3:Nm c.w u3 m:=aG.1 (show VR c (sc (.m m)) u3 from hv.2.2.1);subst h1;injection hx with hx;refine (mX s u2 u3 n m c.w h2 h3).mono ?_;rintro e w' ⟨r,h4,⟨t,b,h5,h6,h7⟩,h8⟩;refine⟨r,h4,h8,?_⟩;rw[←hx,bN];by_cases hn:n=0
    ·rw[if_pos (aM.2 hn)];subst hn;rw[if_pos rfl]at h7;exact⟨[.bool false,t,b],h5,rfl,h6,h7,trivial⟩
    ·rw[if_neg (fun h=>hn (aM.1 h))];rw[if_neg hn]at h7;have h9:(decide (0<n) && s)=s:=(by rw[decide_eq_true (Nat.pos_of_ne_zero hn)];rfl);rw[h9]at h5;exact⟨[.bool s,t,b],h5,rfl,h6,h7,trivial⟩
 ·cases hx
theorem aRq:mZ 241 aRn:=by
 intro args v hx c vs hT hP hv
 match args,vs,hx,hv with
 | [x,y],[u,u2],hx,hv=>
   obtain⟨q,rfl,h1,h2⟩:=xP (show num x (fun p=>int y fun n=>er (rZ p n))=some v from hx);obtain⟨n,rfl,h3⟩:=oD h2;have hu:u2=.int .i64 n:=aG.1 hv.2.1;subst hu;exact aCk h3 (aST u q n c.w (mY.1 hv.1) (by rw[aB];omega))
theorem aO5:mZ 243 aIm:=by
 intro args v hx c vs hT hP hv;unfold aIm at hx;split at hx
 ·rename_i l
  match vs,hv with
  | [u],hv=>
    obtain⟨s,rfl,hs⟩:=aG.1 (show VR c (sc (.s l)) u from hv.1);obtain⟨h1,h2⟩:=aD.1 hx;have h1:=aZ.1 h1;obtain⟨k1,k2⟩:=iO hs;rw[k1]at h2;exact aCk h2 (aRi s c.w hT hP (by omega))
 ·cases hx
theorem aRr:mZ 98 aMy:=by
 intro args v hx c vs hT hP hv;unfold aMy at hx;split at hx
 ·rename_i l ch
  match vs,hv with
  | [u,u2],hv=>
    obtain⟨s,rfl,hs⟩:=aG.1 (show VR c (sc (.s l)) u from hv.1);obtain⟨s2,rfl,hs2⟩:=aG.1 (show VR c (sc (.s [ch])) u2 from hv.2.1);obtain⟨h1,h2⟩:=aD.1 hx;injection h2 with h2;have h1:=aZ.1 h1;obtain⟨k1,k2⟩:=iO hs;obtain⟨k3,-⟩:=iO hs2;have e2:s2=⟨#[UInt8.ofNat ch]⟩:=by
     obtain⟨a⟩:=s2;congr 1;apply Array.toList_inj.1;exact k3.symm
    subst e2;rw[k1]at h2;refine (aIi s (UInt8.ofNat ch) c.w (by omega)).mono ?_;rintro e w' ⟨a,b,h3,h4,h5,h6⟩;subst h2;exact⟨_,h3,h6,[.string a,.string b,.bool (decide (UInt8.ofNat ch∈s.data.toList))],rfl,⟨_,rfl,a,rfl,iP h4⟩,⟨_,rfl,b,rfl,iP h5⟩,⟨_,rfl,rfl⟩,trivial⟩
 ·cases hx
theorem aKF:mZ 244 aCR:=by
 intro args v hx c vs hT hP hv;unfold aCR at hx;split at hx
 ·rename_i l n
  match vs,hv with
  | [u,u2],hv=>
    obtain⟨s,rfl,hs⟩:=aG.1 (show VR c (sc (.s l)) u from hv.1);have hu2:u2=.int .i64 (Int.ofNat n):=aG.1 (show VR c (sc (.i .i64 (.ofNat n))) u2 from hv.2.1);subst hu2;obtain⟨h1,h2⟩:=aD.1 hx;simp only[Bool.and_eq_true,decide_eq_true_eq]at h1;obtain⟨⟨⟨h3,h4⟩,h5⟩,h6⟩:=h1;have h3:=aZ.1 h3;obtain⟨k1,k2⟩:=iO hs;injection h2 with h2;rw[k1]at h2;have hm:s.size*n≤1000000*1000000:=Nat.mul_le_mul (by omega) h6;refine (Tryz.strings_Repeat_main s n c.w h5 (by omega) (by omega) (by omega)).mono ?_;rintro e w' ⟨h7,h8⟩;subst h2;exact⟨_,h7,h8,aG.2 ⟨_,rfl,rfl⟩⟩
 ·cases hx
def sg(s:Bool)(n:Nat):Int:=if s=true then -(n:Int) else n
theorem encZ(z:Int):aO (z:Rat)=[.b (decide (z<0)),.m z.natAbs,.m 0]:=by
 unfold aO;rw[Rat.num_intCast,Rat.den_intCast];rfl
theorem aRs{k:ZF}{fb:Option AV}{s:Bool}{n m:Nat}:zz6 k fb s n m=cb (Nat.beq m 0) (cb (small n) (cb s (cb (Nat.beq n 0) fb (k true n)) (k false n)) fb) fb:=by
 unfold zz6 zz7;generalize small n=b;cases b<;>rfl
theorem aSZ{v:AV}{k:ZF}{fb:Option AV}:zz v k fb=fb∨∃s n m,v=.c true [.b s,.m n,.m m]∧zz v k fb=cb (Nat.beq m 0) (cb (small n) (cb s (cb (Nat.beq n 0) fb (k true n)) (k false n)) fb) fb:=by
 cases v with
 |t l=>exact .inl rfl
 |c g l=>
  cases g with
  |false=>exact .inl rfl
  |true=>
   match l with
   | []=>exact .inl rfl
   |x::l=>
    cases x with
    |b s=>
     match l with
     | []=>exact .inl rfl
     |y::l=>
      cases y with
      |m n=>
       match l with
       | []=>exact .inl rfl
       |z::l=>
        cases z with
        |m m=>
         cases l with
         |nil=>
          refine .inr ⟨s,n,m,rfl,?_⟩;simp only[zz,zzg,zzl,zz0,zz1,zz2,zz3,zz4,zz5];exact aRs
         |cons _ _=>exact .inl rfl
        |_=>exact .inl rfl
      |_=>exact .inl rfl
    |_=>exact .inl rfl
theorem aIq{v:AV}{k:ZF}{fb:Option AV}{y:AV}(h:zz v k fb=some y):(∃s n,v=.c true (aO ((sg s n:Int):Rat))∧Ma.sz ((sg s n:Int):Rat)≤2048∧(s=true→n≠0)∧k s n=some y)∨fb=some y:=by
 rcases aSZ (v:=v) (k:=k) (fb:=fb) with h1|⟨s,n,m,hv,h1⟩
 rotate_left
 ·subst hv;rw[h1,bN]at h;split at h
  ·rename_i hm;rw[bN]at h;split at h
   ·rename_i hn;have hd:=aBs hn;have hsz:∀t,Ma.sz ((sg t n:Int):Rat)≤2048:=fun t=>by
     have h1:=fF ((sg t n:Int):Rat);rw[Rat.num_intCast,Rat.den_intCast,gP aC]at h1;have h2:(sg t n).natAbs=n:=by unfold sg;split<;>simp
     rw[h2]at h1;omega
    have hm:=aM.1 hm;subst hm;rw[bN]at h;split at h
    ·rename_i hs;subst hs;rw[bN]at h;split at h
     ·exact .inr h
     ·rename_i h0;have h0:n≠0:=fun e=>h0 (aM.2 e);refine .inl ⟨true,n,?_,hsz _,fun _=>h0,h⟩;rw[encZ];have e1:sg true n=-(n:Int):=rfl;rw[e1,Int.natAbs_neg,decide_eq_true (by omega)];rfl
    ·rename_i hs;have hs:s=false:=(by simpa using hs);subst hs;refine .inl ⟨false,n,?_,hsz _,fun e=>(by cases e),h⟩;rw[encZ];have e1:sg false n=(n:Int):=rfl;rw[e1,decide_eq_false (by omega)];rfl
   ·exact .inr h
  ·exact .inr h
 ·exact .inr (h1▸h)
theorem kW{s:Bool}{n:Nat}{v:AV}(h:sJ s n=some v){z:Int}(hs:decide (z<0)=s)(hn:z.natAbs=n):v=.c true (aO (z:Rat)):=by
 unfold sJ at h;rw[bM]at h;injection h with h;rw[encZ,hs,hn,h]
theorem aG0{s t:Bool}{n m:Nat}{v:AV}(hs:s=true→n≠0)(ht:t=true→m≠0)(h:aMz s n t m=some v):v=.c true (aO ((sg s n+sg t m:Int):Rat)):=by
 have dif:∀s t:Bool,aIo s t n m=some v→(s=true∧t=false∨s=false∧t=true)→v=.c true (aO ((sg s n+sg t m:Int):Rat)):=by
  intro s t h hst;unfold aIo at h;rw[bN]at h;split at h
  ·rename_i e;have e:=aM.1 e;rcases hst with⟨rfl,rfl⟩|⟨rfl,rfl⟩<;>exact kW h (by simp only[sg];exact decide_eq_false (by simp;omega)) (by simp[sg];omega)
  ·rename_i e;have e:n≠m:=fun q=>e (aM.2 q);rw[bN]at h;split at h
   ·rename_i hb;have hb:=aZ.1 hb;have e1:Nat.sub m n=m-n:=rfl;rcases hst with⟨rfl,rfl⟩|⟨rfl,rfl⟩
    ·exact kW h (decide_eq_false (by simp[sg];omega)) (by simp[sg];omega)
    ·exact kW h (decide_eq_true (by simp[sg];omega)) (by simp[sg];omega)
   ·rename_i hb;have hb:¬n<m:=fun q=>hb (aZ.2 q);have e1:Nat.sub n m=n-m:=rfl;rcases hst with⟨rfl,rfl⟩|⟨rfl,rfl⟩
    ·exact kW h (decide_eq_true (by simp[sg];omega)) (by simp[sg];omega)
    ·exact kW h (decide_eq_false (by simp[sg];omega)) (by simp[sg];omega)
 have e1:Nat.add n m=n+m:=rfl;cases s<;>cases t
 ·exact kW (show sJ false (Nat.add n m)=some v from h) (decide_eq_false (by simp[sg];omega)) (by simp[sg];omega)
 ·exact dif false true h (.inr ⟨rfl,rfl⟩)
 ·exact dif true false h (.inl ⟨rfl,rfl⟩)
 ·have:=hs rfl;exact kW (show sJ true (Nat.add n m)=some v from h) (decide_eq_true (by simp[sg];omega)) (by simp[sg];omega)
theorem aG1{t:Bool}{m:Nat}(ht:t=true→m≠0):(aIp t m=true→m≠0)∧sg (aIp t m) m=-sg t m:=by
 cases t with
 |true=>exact⟨fun e=>(by cases e),(by show sg false m=-sg true m;simp[sg])⟩
 |false=>
  by_cases h:m=0
  ·subst h;exact⟨fun e=>(by cases e),rfl⟩
  ·have e:aIp false m=true:=by
     show cb (Nat.beq m 0) false true=true;rw[bN,if_neg (fun q=>h (aM.1 q))]
   exact⟨fun _=>h,by rw[e];simp[sg]⟩
theorem aO6{s t:Bool}{n m:Nat}{v:AV}(h:aMA s n t m=some v):v=.c true (aO ((sg s n*sg t m:Int):Rat)):=by
 have hz:∀{s t:Bool},(sg s n*sg t m).natAbs=n*m:=fun {s t}=>by
  rw[Int.natAbs_mul];congr 1<;>(unfold sg;split<;>simp)
 unfold aMA aNs at h;rw[bN]at h;have e1:Nat.mul n m=n*m:=rfl;rw[e1]at h;split at h
 ·rename_i h0;have h0:=aM.1 h0;have h2:=hz (s:=s) (t:=t);rw[h0]at h2;have h3:sg s n*sg t m=0:=Int.natAbs_eq_zero.1 h2;rw[h3];exact kW h rfl rfl
 ·rename_i h0;have h0:n*m≠0:=fun e=>h0 (aM.2 e);have hp:(0:Int)<(n:Int)*(m:Int):=by
   rw[←Int.natCast_mul];omega
  refine kW h ?_ hz;cases s<;>cases t
  ·exact decide_eq_false (by show ¬((n:Int)*(m:Int)<0);omega)
  ·exact decide_eq_true (by show (n:Int)*-(m:Int)<0;rw[Int.mul_neg];omega)
  ·exact decide_eq_true (by show -(n:Int)*(m:Int)<0;rw[Int.neg_mul];omega)
  ·exact decide_eq_false (by show ¬(-(n:Int)*-(m:Int)<0);rw[Int.neg_mul_neg];omega)
theorem aRt(a b:Int):rc (a:Rat) (b:Rat)=if a<b then -1 else if b<a then 1 else 0:=by
 unfold rc;simp only[Rat.intCast_lt_intCast]
theorem aRu(a:Int):sn (a:Rat)=if a<0 then -1 else if a=0 then 0 else 1:=by
 unfold sn;have e1:((a:Rat)<0)↔a<0:=by rw[←Rat.intCast_zero,Rat.intCast_lt_intCast]
 have e2:((a:Rat)=0)↔a=0:=by rw[←Rat.intCast_zero,Rat.intCast_inj]
 simp only[e1,e2]
theorem aKG{n m:Nat}{v:AV}(h:zLt n m=some v):v=sc (.i .i64 (if n<m then -1 else if m<n then 1 else 0)):=by
 unfold zLt at h;rw[bN]at h;split at h
 ·rename_i e;have e:=aM.1 e;injection h with h;rw[←h,if_neg (by omega),if_neg (by omega)]
 ·rename_i e;have e:n≠m:=fun q=>e (aM.2 q);rw[bN]at h;split at h<;>rename_i hb<;>injection h with h<;>rw[←h]
  ·have hb:=aZ.1 hb;rw[if_pos hb];rfl
  ·have hb:¬n<m:=fun q=>hb (aZ.2 q);rw[if_neg hb,if_pos (by omega)]
theorem aO7{s t:Bool}{n m:Nat}{v:AV}(hs:s=true→n≠0)(ht:t=true→m≠0)(h:aRo s n t m=some v):some (sc (.i .i64 (rc ((sg s n:Int):Rat) ((sg t m:Int):Rat))))=some v:=by
 rw[aRt];cases s<;>cases t
 ·rw[aKG (show zLt n m=some v from h)];simp only[sg,Bool.false_eq_true,if_false,Int.ofNat_lt]
 ·have:=ht rfl;injection (show some (sc (.i .i64 1))=some v from h) with h;rw[←h,if_neg (by show ¬((n:Int)< -(m:Int));omega),if_pos (by show -(m:Int)<(n:Int);omega)]
 ·have:=hs rfl;injection (show some (sc (.i .i64 (.negSucc 0)))=some v from h) with h;rw[←h,if_pos (by show -(n:Int)<(m:Int);omega)];rfl
 ·rw[aKG (show zLt m n=some v from h)];have e1:(sg true n<sg true m)↔m<n:=(by show -(n:Int)< -(m:Int)↔m<n;omega);have e2:(sg true m<sg true n)↔n<m:=(by show -(m:Int)< -(n:Int)↔n<m;omega);simp only[e1,e2]
theorem aMD{s:Bool}{n:Nat}{v:AV}(hs:s=true→n≠0)(h:aNt s n=some v):some (sc (.i .i64 (sn ((sg s n:Int):Rat))))=some v:=by
 rw[aRu];cases s
 ·have h:cb (Nat.beq n 0) (some (sc (.i .i64 0))) (some (sc (.i .i64 1)))=some v:=h;rw[bN]at h;have e1:sg false n=(n:Int):=rfl;rw[e1,if_neg (by omega)];split at h<;>rename_i h0<;>injection h with h<;>rw[←h]
  ·rw[if_pos (by have:=aM.1 h0;omega)]
  ·have h0:n≠0:=fun e=>h0 (aM.2 e);rw[if_neg (by omega)]
 ·have:=hs rfl;injection (show some (sc (.i .i64 (.negSucc 0)))=some v from h) with h;rw[←h,if_pos (by simp[sg];omega)];rfl
theorem aDP{fn:Nat}{f:Bool→Nat→Bool→Nat→Option AV}{g:Rat→Rat→Option AV}(hg:mZ fn (p2 g))(hf:∀s n t m v,(s=true→n≠0)→(t=true→m≠0)→f s n t m=some v→g ((sg s n:Int):Rat) ((sg t m:Int):Rat)=some v)
  (h:∀(x y:Value) (p q:Rat) (v:AV) (c:Cx),g p q=some v→Tb c.w→Px c.w→Nq c.w x p→Nq c.w y q→Ma.sz p≤2048→Ma.sz q≤2048→Calls Tryz.prog fn #[x,y] c.w fun e w'=>∃u,e=.returned u∧Q c.w w'∧VR ⟨c.n,c.k,c.r,w',c.z⟩ v u):mZ fn (z2 f g):=by
 intro args v hx c vs hT hP hv
 match args,vs,hx,hv with
 | [x,y],[u,u2],hx,hv=>
   rcases aIq (show zz x (fun s n=>zz y (fun t m=>f s n t m) (p2 g [x,y])) (p2 g [x,y])=some v from hx) with⟨s,n,h1,h2,h3,h4⟩|h1
   ·rcases aIq h4 with⟨t,m,h5,h6,h7,h8⟩|h5
    ·subst h1;subst h5;exact h u u2 _ _ v c (hf s n t m v h3 h7 h8) hT hP (mY.1 hv.1) (mY.1 hv.2.1) h2 h6
    ·exact hg [x,y] v h5 c [u,u2] hT hP hv
   ·exact hg [x,y] v h1 c [u,u2] hT hP hv
theorem aS0{fn:Nat}{f:Bool→Nat→Option AV}{g:Rat→Option AV}(hg:mZ fn (p1 g))(hf:∀s n v,(s=true→n≠0)→f s n=some v→g ((sg s n:Int):Rat)=some v)
  (h:∀(x:Value) (p:Rat) (v:AV) (c:Cx),g p=some v→Tb c.w→Px c.w→Nq c.w x p→Ma.sz p≤2048→Calls Tryz.prog fn #[x] c.w fun e w'=>∃u,e=.returned u∧Q c.w w'∧VR ⟨c.n,c.k,c.r,w',c.z⟩ v u):mZ fn (z1 f g):=by
 intro args v hx c vs hT hP hv
 match args,vs,hx,hv with
 | [x],[u],hx,hv=>
   rcases aIq (show zz x f (p1 g [x])=some v from hx) with⟨s,n,h1,h2,h3,h4⟩|h1
   ·subst h1;exact h u _ v c (hf s n v h3 h4) hT hP (mY.1 hv.1) h2
   ·exact hg [x] v h1 c [u] hT hP hv
theorem aFq(q:Rat):enc q=some (.c true (aO q)):=by unfold enc;rw[wC]
theorem aME:∀p∈aDO,mZ p.1 p.2:=by
 unfold aDO;simp only[List.forall_mem_cons];have b1:(1099511627776:Nat)=LIM:=aB.symm;refine⟨pr1 fun x p v c hf hT hP hx hs=>jF hf (aMs x p c.w hx (by rw[aB];omega)),?_⟩;refine⟨pr1 fun x p v c hf hT hP hx hs=>jF hf (aRc x p c.w hx),?_⟩;refine⟨pr1 fun x p v c hf hT hP hx hs=>jF hf (aIe x p c.w hx),?_⟩;refine⟨aO4,?_⟩;refine⟨aGa,?_⟩;refine⟨pr2 fun x y p q v c hf hT hP hx hy hs ht=>jF hf (aMt x y p q c.w hx hy (by rw[aB];omega)),?_⟩;refine⟨pr2 fun x y p q v c hf hT hP hx hy hs ht=>jF hf (aKr x y p q c.w hx hy (by rw[aB];omega)),?_⟩;refine⟨aRp,?_⟩;have kAdd:=fun (x y:Value) (p q:Rat) (v:AV) (c:Cx) (hf:enc (p+q)=some v) (hT:Tb c.w) (_:Px c.w) (hx:Nq c.w x p) (hy:Nq c.w y q) (_:Ma.sz p≤2048) (_:Ma.sz q≤2048)=>(jF hf (aSM x y p q c.w hT hx hy (by rw[aB];omega)))
 refine⟨aDP (pr2 kAdd) (fun s n t m v h1 h2 h3=>by rw[aFq,←Rat.intCast_add,aG0 h1 h2 h3]) kAdd,?_⟩;have kSub:=fun (x y:Value) (p q:Rat) (v:AV) (c:Cx) (hf:enc (p-q)=some v) (hT:Tb c.w) (_:Px c.w) (hx:Nq c.w x p) (hy:Nq c.w y q) (_:Ma.sz p≤2048) (_:Ma.sz q≤2048)=>(jF hf (aSN x y p q c.w hT hx hy (by rw[aB];omega)))
 refine⟨aDP (pr2 kSub) (fun s n t m v h1 h2 h3=>by rw[aFq,←Rat.intCast_sub,aG0 h1 (aG1 h2).1 h3,(aG1 h2).2,←Int.sub_eq_add_neg]) kSub,?_⟩;have kMul:=fun (x y:Value) (p q:Rat) (v:AV) (c:Cx) (hf:enc (p*q)=some v) (hT:Tb c.w) (_:Px c.w) (hx:Nq c.w x p) (hy:Nq c.w y q) (_:Ma.sz p≤2048) (_:Ma.sz q≤2048)=>(jF hf (aIh x y p q c.w hT hx hy (by rw[aB];omega)))
 refine⟨aDP (pr2 kMul) (fun s n t m v h1 h2 h3=>by rw[aFq,←Rat.intCast_mul,aO6 h3]) kMul,?_⟩;refine⟨pr2 fun x y p q v c hf hT hP hx hy hs ht=>aCk hf (aSS x y p q c.w hT hx hy (by rw[aB];omega)),?_⟩;refine⟨pr1 fun x p v c hf hT hP hx hs=>jF hf (aSP x p c.w hx (by rw[aB];omega)),?_⟩;refine⟨pr1 fun x p v c hf hT hP hx hs=>jF hf (aSQ x p c.w hx (by rw[aB];omega)),?_⟩;refine⟨pr2 fun x y p q v c hf hT hP hx hy hs ht=>jF hf (aSO x y p q c.w hx hy (by rw[aB];omega)),?_⟩;refine⟨pr1 fun x p v c hf hT hP hx hs=>jF hf (aOW x p c.w hT hx (by rw[aB];omega)),?_⟩;have kSign:=fun (x:Value) (p:Rat) (v:AV) (c:Cx) (hf:some (sc (.i .i64 (sn p)))=some v) (_:Tb c.w) (_:Px c.w) (hx:Nq c.w x p) (_:Ma.sz p≤2048)=>aKE hf (fun _=>rfl) (aRd x p c.w hx);refine⟨aS0 (pr1 kSign) (fun s n v h1 h3=>aMD h1 h3) kSign,?_⟩;have kCmp:=fun (x y:Value) (p q:Rat) (v:AV) (c:Cx) (hf:some (sc (.i .i64 (rc p q)))=some v) (_:Tb c.w) (_:Px c.w) (hx:Nq c.w x p) (hy:Nq c.w y q) (_:Ma.sz p≤2048) (_:Ma.sz q≤2048)=>aKE hf (fun _=>rfl) (aSR x y p q c.w hx hy (by rw[aB];omega));refine⟨aDP (pr2 kCmp) (fun s n t m v h1 h2 h3=>aO7 h1 h2 h3) kCmp,?_⟩;refine⟨aRq,?_⟩;refine⟨pr1 fun x p v c hf hT hP hx hs=>?_,?_⟩
 ·injection hf with hf;refine (aKy x p c.w hx (by omega)).mono ?_;rintro e w' ⟨t,h1,h2,h3⟩;subst hf;exact⟨_,h1,h3,aG.2 ⟨t,rfl,iP h2⟩⟩
 exact⟨aO5,aRr,aKF,fun x hx=>by cases hx⟩
theorem aS1(hng:∀(f:Nat) (G:Func),Tryz.prog.funcs[f]? =some G→(G.name == "runtime.NumGoroutine")=false):FOk F0:=by
 refine⟨hng,fun _ _ hq h=>⟨h.1.q hq,h.2.q hq⟩,fun fn g args v hg hx c vs hb hv=>?_,fun _ _ _ h=>(by cases h),fun _ _=>⟨fun h=>(by cases h),fun h=>(by cases h)⟩,fun _ _ _ _ _ h=>(by cases h)⟩;exact aME _ (vV (show (T.ofL aDO:T 3 _).get fn=some g from hg)) args v hx c vs hb.1 hb.2 hv
theorem f0:FOk F0:=aS1 fun f G h=>by
 have:=aCG aET h;unfold ngB at this;simpa using this
theorem mixed:F0.P.follows .mixedOrders=true:=by decide+kernel
theorem aO8{F:Cf}(hF:FOk F)(hm:F.P.follows .mixedOrders=true){m fn:Nat}{v:AV}{h':H}(hx:aDE F m fn []=some (v,h'))(w:World)(hb:F.tb w):
  Calls F.P fn #[] w fun e w'=>∃u d,e=.returned u∧d.w=w'∧Q w w'∧VR d v u:=by
 have hx2:iD F (exec F m) fn [] ⟨.lf,0,0,.lf⟩=some (v,h'):=hx;obtain⟨-,hcr⟩:=lX (vs:=[]) hF (wZ hF hm m) hx2 (xB F.P.cellsOf w) (fun _=>rfl) hb trivial;refine Calls.mono hcr ?_;rintro e w' ⟨u,d,h1,h2,h3,h4,h5⟩;exact⟨u,d,h1,h2,h2▸h4.q,h5⟩
theorem closed{m fn:Nat}{v:AV}{h':H}(hx:aDE F0 m fn []=some (v,h'))(w:World)(hT:Tb w)(hP:Px w):
  Calls Tryz.prog fn #[] w fun e w'=>∃u d,e=.returned u∧d.w=w'∧Q w w'∧VR d v u:=
 aO8 f0 mixed hx w ⟨hT,hP⟩
def okB(r:Option VH):Bool:=match r with|some (.c false [.b true],_)=>true|_=>false
theorem aO9{m fn:Nat}(hx:okB (aDE F0 m fn [])=true)(w:World)(hT:Tb w)(hP:Px w):
  Calls Tryz.prog fn #[] w fun e w'=>e=.returned (.bool true)∧Q w w':=by
 unfold okB at hx;split at hx
 ·rename_i h' hc;refine (closed hc w hT hP).mono ?_;rintro e w' ⟨u,d,h1,h2,h3,x,h4,h5⟩;injection h4 with h4;subst h4;rw[h1,show u=.bool true from h5];exact⟨rfl,h3⟩
 ·cases hx
end Go.Proofs.YtpobejcofijjdaaGreatDoor.E
