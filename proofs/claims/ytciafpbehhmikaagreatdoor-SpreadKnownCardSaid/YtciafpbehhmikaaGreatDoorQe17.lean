/- SpreadKnown holds. No condition. -/
import Derived.Test.YtciafpbehhmikaaGreatDoorQe16
namespace Go.Proofs.YtciafpbehhmikaaGreatDoor.E
open Go Go.RowKit
open Ma Me K
theorem yI{α:Type}(x:Rat)(k:List SV→α):aG9 x k=k (dI x):=by
 obtain⟨n,d,h1,h2⟩:=x;show cb (Nat.beq d 1) _ _=k [.b (decide (n<0)),.m n.natAbs,.m (bt d)];unfold bt;by_cases hd:d=1
 ·rw[aJ.2 hd,if_pos hd,aR,if_pos rfl];cases n with
  |ofNat m=>exact aO (n:=m) (f:=fun m=>k [.b false,.m m,.m 0])
  |negSucc m=>rw[show decide (Int.negSucc m<0)=true from decide_eq_true (Int.negSucc_lt_zero m)];exact aO (n:=m) (f:=fun m=>k [.b true,.m (Nat.succ m),.m 0])
 ·rw[show Nat.beq d 1=false from Bool.eq_false_iff.2 fun h=>hd (aJ.1 h),if_neg hd,aR,if_neg (by decide),aO];cases n with
  |ofNat m=>exact aO (n:=m) (f:=fun m=>k [.b false,.m m,.m d])
  |negSucc m=>rw[show decide (Int.negSucc m<0)=true from decide_eq_true (Int.negSucc_lt_zero m)];exact aO (n:=m) (f:=fun m=>k [.b true,.m (Nat.succ m),.m d])
theorem kW{c:Cx}{q:Rat}{u:Value}:VR c (.c true (dI q)) u↔Nq c.w u q:=by
 constructor
 ·rintro⟨cs,rfl,h⟩
  match cs,h with
  | [x,y,z],h=>
    obtain⟨h1,h2,h3,-⟩:=h;cases h1;exact⟨y,z,rfl,h2,h3⟩
 ·rintro⟨t,b,rfl,h2,h3⟩;exact⟨[_,t,b],rfl,rfl,h2,h3,trivial⟩
theorem vK{n:Nat}(h:small n=true):dg W64 n≤1024:=by
 unfold small at h;have h1:=aT.1 h;rw[big.eq_1]at h1;exact (aI aD n aLh).2 h1
theorem aHd{α:Type}{c:Bool}{f:c=false→Option α}{g:c=true→Option α}{y:α}(h:Bool.rec (motive:=fun b=>c=b→Option α) f g c rfl=some y):(∃e,f e=some y)∨∃e,g e=some y:=by
 cases c with
 |false=>exact .inl ⟨rfl,h⟩
 |true=>exact .inr ⟨rfl,h⟩
theorem aJk{s:Bool}{n m:Nat}{q:Rat}(h:aLj s n m=some q):dI q=[.b s,.m n,.m m]∧Ma.sz q≤2048:=by
 obtain⟨h1,h2⟩:=cbn.1 h;obtain⟨h3,h4⟩:=aC.1 h2;obtain⟨h5,h6⟩:=aC.1 h4;obtain⟨d,hd⟩:∃d,d=cb (Nat.beq m 0) 1 m:=⟨_,rfl⟩
 rw[←hd]at h6;have hm1:m≠1:=fun e=>by rw[e]at h1;cases h1
 have hdm:bt d=m:=by
  rw[hd,aR];unfold bt;by_cases hm:m=0
  ·rw[if_pos (aJ.2 hm),if_pos rfl,hm]
  ·rw[if_neg (fun e=>hm (aJ.1 e)),if_neg hm1]
 have hds:dg W64 d≤1024:=by
  rw[hd,aR];split
  ·rw[gJ aD];decide
  ·exact vK h5
 have hns:=vK h3;have key:q.num.natAbs=n∧q.den=d∧decide (q.num<0)=s:=by
  rcases aHd h6 with⟨e1,h7⟩|⟨e1,h7⟩
  ·rcases aHd h7 with⟨e2,h8⟩|⟨e2,h8⟩
   ·cases h8
   ·cases s with
    |false=>
     injection h8 with h8;subst h8;exact⟨rfl,rfl,decide_eq_false (Int.not_lt.2 (Int.natCast_nonneg n))⟩
    |true=>
     rcases aHd (show aLi n d e1 e2=some q from h8) with⟨e3,h9⟩|⟨e3,h9⟩
     ·injection h9 with h9;subst h9;refine⟨?_,rfl,decide_eq_true (Int.negSucc_lt_zero _)⟩;show (Int.negSucc (Nat.pred n)).natAbs=n;cases n with
      |zero=>cases e3
      |succ n=>rfl
     ·cases h9
  ·cases h7
 obtain⟨k1,k2,k3⟩:=key;refine⟨by unfold dI;rw[k1,k2,k3,hdm],?_⟩;have:=gI q;rw[k1,k2]at this;omega
theorem vM{α:Type}{v:AV}{k:Rat→Option α}{y:α}(h:num v k=some y):∃q,v=.c true (dI q)∧Ma.sz q≤2048∧k q=some y:=by
 unfold num at h;split at h
 ·rename_i s n m;obtain⟨q,h1,h2⟩:=aA.1 h;obtain⟨h3,h4⟩:=aJk h1;exact⟨q,by rw[h3],h4,h2⟩
 ·cases h
def iO(fn:Nat)(g:List AV→Option AV):Prop:=∀(args:List AV) (v:AV),g args=some v→∀(c:Cx) (vs:List Value),Tb c.w→Px c.w→VL c args vs→
 Calls Tryz.prog fn vs.toArray c.w fun e w'=>∃u,e=.returned u∧Q c.w w'∧VR ⟨c.n,c.k,c.r,w',c.z⟩ v u
theorem aHe{x:Rat}{v:AV}(h:enc x=some v):v=.c true (dI x):=by
 unfold enc at h;rw[yI]at h;injection h with h;exact h.symm
theorem aJl{r:Int × Rat}{v:AV}(h:er r=some v):v=.t [(true,dI r.2),(false,[.i .i64 r.1])]:=by
 unfold er at h;rw[yI]at h;injection h with h;exact h.symm
theorem aMp{c:Cx}{r:Int × Rat}{u:Value}(h:Nq c.w u r.2):VR c (.t [(true,dI r.2),(false,[.i .i64 r.1])]) (.tuple #[u,.int .i64 r.1]):=
 ⟨[u,.int .i64 r.1],rfl,kW.2 h,⟨_,rfl,rfl⟩,trivial⟩
theorem pr1{fn:Nat}{f:Rat→Option AV}(h:∀(x:Value) (p:Rat) (v:AV) (c:Cx),f p=some v→Tb c.w→Px c.w→Nq c.w x p→Ma.sz p≤2048→Calls Tryz.prog fn #[x] c.w fun e w'=>∃u,e=.returned u∧Q c.w w'∧VR ⟨c.n,c.k,c.r,w',c.z⟩ v u):iO fn (p1 f):=by
 intro args v hx c vs hT hP hv
 match args,vs,hx,hv with
 | [x],[u],hx,hv=>
   obtain⟨q,rfl,h1,h2⟩:=vM (show num x f=some v from hx);exact h u q v c h2 hT hP (kW.1 hv.1) h1
theorem pr2{fn:Nat}{f:Rat→Rat→Option AV}(h:∀(x y:Value) (p q:Rat) (v:AV) (c:Cx),f p q=some v→Tb c.w→Px c.w→Nq c.w x p→Nq c.w y q→Ma.sz p≤2048→Ma.sz q≤2048→Calls Tryz.prog fn #[x,y] c.w fun e w'=>∃u,e=.returned u∧Q c.w w'∧VR ⟨c.n,c.k,c.r,w',c.z⟩ v u):iO fn (p2 f):=by
 intro args v hx c vs hT hP hv
 match args,vs,hx,hv with
 | [x,y],[u,u2],hx,hv=>
   obtain⟨p,rfl,h1,h2⟩:=vM (show num x (fun p=>num y fun q=>f p q)=some v from hx);obtain⟨q,rfl,h3,h4⟩:=vM h2;exact h u u2 p q v c h4 hT hP (kW.1 hv.1) (kW.1 hv.2.1) h1 h3
theorem fV{fn:Nat}{args:Array Value}{c:Cx}{q:Rat}{v:AV}(hv:enc q=some v)(h:Calls Tryz.prog fn args c.w fun e w'=>∃r,e=.returned r∧Nq w' r q∧Q c.w w'):Calls Tryz.prog fn args c.w fun e w'=>∃u,e=.returned u∧Q c.w w'∧VR ⟨c.n,c.k,c.r,w',c.z⟩ v u:=by
 refine h.mono ?_;rintro e w' ⟨r,h1,h2,h3⟩;rw[aHe hv];exact⟨r,h1,h3,kW.2 h2⟩
theorem aDX{fn:Nat}{args:Array Value}{c:Cx}{q:Int × Rat}{v:AV}(hv:er q=some v)(h:Calls Tryz.prog fn args c.w fun e w'=>∃r,e=.returned (.tuple #[r,.int .i64 q.1])∧Nq w' r q.2∧Q c.w w'):Calls Tryz.prog fn args c.w fun e w'=>∃u,e=.returned u∧Q c.w w'∧VR ⟨c.n,c.k,c.r,w',c.z⟩ v u:=by
 refine h.mono ?_;rintro e w' ⟨r,h1,h2,h3⟩;rw[aJl hv];exact⟨_,h1,h3,aMp (c:=⟨c.n,c.k,c.r,w',c.z⟩) h2⟩
theorem aBF{fn:Nat}{args:Array Value}{c:Cx}{s:SV}{u:Value}{v:AV}(hv:some (sc s)=some v)(hs:∀w',SR ⟨c.n,c.k,c.r,w',c.z⟩ s u)(h:Calls Tryz.prog fn args c.w fun e w'=>e=.returned u∧Q c.w w'):Calls Tryz.prog fn args c.w fun e w'=>∃u,e=.returned u∧Q c.w w'∧VR ⟨c.n,c.k,c.r,w',c.z⟩ v u:=by
 refine h.mono ?_;rintro e w' ⟨h1,h2⟩;injection hv with hv;subst hv;exact⟨u,h1,h2,aF.2 (hs w')⟩
theorem iV{s:ByteArray}{l:List Nat}(h:bytes s=l):by8 l=s.data.toList∧len l=s.size:=by
 subst h;refine⟨?_,(dO _).trans (by unfold bytes;rw[List.length_map,Array.length_toList];rfl)⟩;unfold by8 bytes;rw[List.map_map];exact (List.map_congr_left fun x _=>(UInt8.ofNat_toNat:UInt8.ofNat x.toNat=x)).trans (List.map_id _)
theorem sQ{t:ByteArray}{l:List UInt8}(h:t.data.toList=l):bytes t=un8 l:=by
 subst h;rfl
theorem aHf{α:Type}{v:AV}{k:Int→Option α}{y:α}(h:int v k=some y):∃n,v=sc (.i .i64 n)∧k n=some y:=by
 unfold int at h;split at h
 ·exact⟨_,rfl,h⟩
 ·cases h
theorem aLm:iO 5 aLk:=by
 intro args v hx c vs hT hP hv
 match args,vs,hx,hv with
 | [x],[u],hx,hv=>
   obtain⟨n,rfl,h0⟩:=aHf (show int x (fun n=>cb (decide (-9223372036854775808≤n) && decide (n≤9223372036854775807)) (enc (n:Rat)) none)=some v from hx);obtain⟨h1,h2⟩:=aC.1 h0;obtain⟨h3,h4⟩:=(Bool.and_eq_true _ _).mp h1;have hu:u=.int .i64 n:=aF.1 hv.1;subst hu;exact fV h2 (aL9 n c.w (of_decide_eq_true h3) (of_decide_eq_true h4))
theorem aJm:iO 17 aDU:=by
 intro args v hx c vs hT hP hv;unfold aDU at hx;split at hx
 ·rename_i n
  match vs,hv with
  | [u],hv=>
    have hu:u=.int .u64 (Int.ofNat n):=aF.1 (show VR c (sc (.i .u64 (.ofNat n))) u from hv.1);subst hu;obtain⟨h1,h2⟩:=aC.1 hx;injection h2 with h2;subst h2;refine (fA (Int.ofNat n) n c.w rfl (aT.1 h1)).mono ?_;rintro e w' ⟨r,h3,h4,h5,-⟩;exact⟨r,h3,h5,aF.2 h4⟩
 ·cases hx
theorem aB7:iO 55 sP:=by
 intro args v hx c vs hT hP hv;unfold sP at hx;split at hx
 ·rename_i s n m
  match vs,hv with
  | [u1,u2,u3],hv=>
    have h1:u1=.bool s:=aF.1 (show VR c (sc (.b s)) u1 from hv.1);have h2:Nm c.w u2 n:=aF.1 (show VR c (sc (.m n)) u2 from hv.2.1);have h3:Nm c.w u3 m:=aF.1 (show VR c (sc (.m m)) u3 from hv.2.2.1);subst h1;injection hx with hx;refine (jH s u2 u3 n m c.w h2 h3).mono ?_;rintro e w' ⟨r,h4,⟨t,b,h5,h6,h7⟩,h8⟩;refine⟨r,h4,h8,?_⟩;rw[←hx,aR];by_cases hn:n=0
    ·rw[if_pos (aJ.2 hn)];subst hn;rw[if_pos rfl]at h7;exact⟨[.bool false,t,b],h5,rfl,h6,h7,trivial⟩
    ·rw[if_neg (fun h=>hn (aJ.1 h))];rw[if_neg hn]at h7;have h9:(decide (0<n) && s)=s:=(by rw[decide_eq_true (Nat.pos_of_ne_zero hn)];rfl);rw[h9]at h5;exact⟨[.bool s,t,b],h5,rfl,h6,h7,trivial⟩
 ·cases hx
theorem aJn:iO 215 aDT:=by
 intro args v hx c vs hT hP hv;unfold aDT at hx;split at hx
 ·rename_i l
  match vs,hv with
  | [u],hv=>
    obtain⟨s,rfl,hs⟩:=aF.1 (show VR c (sc (.s l)) u from hv.1);obtain⟨h1,h2⟩:=aC.1 hx;have h1:=aT.1 h1;obtain⟨k1,k2⟩:=iV hs;rw[k1]at h2;exact aDX h2 (aLg s c.w hT hP (by omega))
 ·cases hx
theorem aHg:iO 108 aBE:=by
 intro args v hx c vs hT hP hv;unfold aBE at hx;split at hx
 ·rename_i l
  match vs,hv with
  | [u],hv=>
    obtain⟨s,rfl,hs⟩:=aF.1 (show VR c (sc (.s l)) u from hv.1);obtain⟨h1,h2⟩:=aC.1 hx;have h1:=aT.1 h1;obtain⟨k1,k2⟩:=iV hs;rw[k1]at h2;exact aDX h2 (yF s c.w hT (by omega))
 ·cases hx
theorem aFF:iO 255 yG:=by
 intro args v hx c vs hT hP hv;unfold yG at hx;split at hx
 ·rename_i l ch
  match vs,hv with
  | [u,u2],hv=>
    obtain⟨s,rfl,hs⟩:=aF.1 (show VR c (sc (.s l)) u from hv.1);have hu2:u2=.int .u8 (Int.ofNat ch):=aF.1 (show VR c (sc (.i .u8 (.ofNat ch))) u2 from hv.2.1);subst hu2;obtain⟨h1,h2⟩:=aC.1 hx;injection h2 with h2;subst h2;obtain⟨k1,k2⟩:=iV hs;rw[k1];refine (Tryz.stringslite_IndexByte s (Int.ofNat ch) c.w).mono ?_;rintro e w' ⟨rfl,rfl⟩;exact⟨_,rfl,Q.refl _,aF.2 rfl⟩
 ·cases hx
theorem aLn:iO 161 aHa:=by
 intro args v hx c vs hT hP hv;unfold aHa at hx;split at hx
 ·rename_i l ch
  match vs,hv with
  | [u,u2],hv=>
    obtain⟨s,rfl,hs⟩:=aF.1 (show VR c (sc (.s l)) u from hv.1);obtain⟨s2,rfl,hs2⟩:=aF.1 (show VR c (sc (.s [ch])) u2 from hv.2.1);obtain⟨h1,h2⟩:=aC.1 hx;injection h2 with h2;have h1:=aT.1 h1;obtain⟨k1,k2⟩:=iV hs;obtain⟨k3,-⟩:=iV hs2;have e2:s2=⟨#[UInt8.ofNat ch]⟩:=by
     obtain⟨a⟩:=s2;congr 1;apply Array.toList_inj.1;exact k3.symm
    subst e2;rw[k1]at h2;refine (aDP s (UInt8.ofNat ch) c.w (by omega)).mono ?_;rintro e w' ⟨a,b,h3,h4,h5,h6⟩;subst h2;exact⟨_,h3,h6,[.string a,.string b,.bool (decide (UInt8.ofNat ch∈s.data.toList))],rfl,⟨_,rfl,a,rfl,sQ h4⟩,⟨_,rfl,b,rfl,sQ h5⟩,⟨_,rfl,rfl⟩,trivial⟩
 ·cases hx
theorem aFG:iO 216 yH:=by
 intro args v hx c vs hT hP hv;unfold yH at hx;split at hx
 ·rename_i l n
  match vs,hv with
  | [u,u2],hv=>
    obtain⟨s,rfl,hs⟩:=aF.1 (show VR c (sc (.s l)) u from hv.1);have hu2:u2=.int .i64 (Int.ofNat n):=aF.1 (show VR c (sc (.i .i64 (.ofNat n))) u2 from hv.2.1);subst hu2;obtain⟨h1,h2⟩:=aC.1 hx;simp only[Bool.and_eq_true,decide_eq_true_eq]at h1;obtain⟨⟨⟨h3,h4⟩,h5⟩,h6⟩:=h1;have h3:=aT.1 h3;obtain⟨k1,k2⟩:=iV hs;injection h2 with h2;rw[k1]at h2;have hm:s.size*n≤1000000*1000000:=Nat.mul_le_mul (by omega) h6;refine (Tryz.strings_Repeat_main s n c.w h5 (by omega) (by omega) (by omega)).mono ?_;rintro e w' ⟨h7,h8⟩;subst h2;exact⟨_,h7,h8,aF.2 ⟨_,rfl,rfl⟩⟩
 ·cases hx
def sg(s:Bool)(n:Nat):Int:=if s=true then -(n:Int) else n
theorem encZ(z:Int):dI (z:Rat)=[.b (decide (z<0)),.m z.natAbs,.m 0]:=by
 unfold dI;rw[Rat.num_intCast,Rat.den_intCast];rfl
theorem aLo{k:ZF}{fb:Option AV}{s:Bool}{n m:Nat}:zz6 k fb s n m=cb (Nat.beq m 0) (cb (small n) (cb s (cb (Nat.beq n 0) fb (k true n)) (k false n)) fb) fb:=by
 unfold zz6 zz7;generalize small n=b;cases b<;>rfl
theorem aMq{v:AV}{k:ZF}{fb:Option AV}:zz v k fb=fb∨∃s n m,v=.c true [.b s,.m n,.m m]∧zz v k fb=cb (Nat.beq m 0) (cb (small n) (cb s (cb (Nat.beq n 0) fb (k true n)) (k false n)) fb) fb:=by
 cases v with
 |t l=>exact .inl rfl
 |c g l=>
  cases g with
  |false=>exact .inl rfl
  |true=>
   match l with
   | []=>exact .inl rfl
   |x::l=>
    cases x with
    |b s=>
     match l with
     | []=>exact .inl rfl
     |y::l=>
      cases y with
      |m n=>
       match l with
       | []=>exact .inl rfl
       |z::l=>
        cases z with
        |m m=>
         cases l with
         |nil=>
          refine .inr ⟨s,n,m,rfl,?_⟩;simp only[zz,zzg,zzl,zz0,zz1,zz2,zz3,zz4,zz5];exact aLo
         |cons _ _=>exact .inl rfl
        |_=>exact .inl rfl
      |_=>exact .inl rfl
    |_=>exact .inl rfl
theorem aDY{v:AV}{k:ZF}{fb:Option AV}{y:AV}(h:zz v k fb=some y):(∃s n,v=.c true (dI ((sg s n:Int):Rat))∧Ma.sz ((sg s n:Int):Rat)≤2048∧(s=true→n≠0)∧k s n=some y)∨fb=some y:=by
 rcases aMq (v:=v) (k:=k) (fb:=fb) with h1|⟨s,n,m,hv,h1⟩
 rotate_left
 ·subst hv;rw[h1,aR]at h;split at h
  ·rename_i hm;rw[aR]at h;split at h
   ·rename_i hn;have hd:=vK hn;have hsz:∀t,Ma.sz ((sg t n:Int):Rat)≤2048:=fun t=>by
     have h1:=gI ((sg t n:Int):Rat);rw[Rat.num_intCast,Rat.den_intCast,gJ aD]at h1;have h2:(sg t n).natAbs=n:=by unfold sg;split<;>simp
     rw[h2]at h1;omega
    have hm:=aJ.1 hm;subst hm;rw[aR]at h;split at h
    ·rename_i hs;subst hs;rw[aR]at h;split at h
     ·exact .inr h
     ·rename_i h0;have h0:n≠0:=fun e=>h0 (aJ.2 e);refine .inl ⟨true,n,?_,hsz _,fun _=>h0,h⟩;rw[encZ];have e1:sg true n=-(n:Int):=rfl;rw[e1,Int.natAbs_neg,decide_eq_true (by omega)];rfl
    ·rename_i hs;have hs:s=false:=(by simpa using hs);subst hs;refine .inl ⟨false,n,?_,hsz _,fun e=>(by cases e),h⟩;rw[encZ];have e1:sg false n=(n:Int):=rfl;rw[e1,decide_eq_false (by omega)];rfl
   ·exact .inr h
  ·exact .inr h
 ·exact .inr (h1▸h)
theorem gZ{s:Bool}{n:Nat}{v:AV}(h:mX s n=some v){z:Int}(hs:decide (z<0)=s)(hn:z.natAbs=n):v=.c true (dI (z:Rat)):=by
 unfold mX at h;rw[aO]at h;injection h with h;rw[encZ,hs,hn,h]
theorem aCR{s t:Bool}{n m:Nat}{v:AV}(hs:s=true→n≠0)(ht:t=true→m≠0)(h:aHb s n t m=some v):v=.c true (dI ((sg s n+sg t m:Int):Rat)):=by
 have dif:∀s t:Bool,aDV s t n m=some v→(s=true∧t=false∨s=false∧t=true)→v=.c true (dI ((sg s n+sg t m:Int):Rat)):=by
  intro s t h hst;unfold aDV at h;rw[aR]at h;split at h
  ·rename_i e;have e:=aJ.1 e;rcases hst with⟨rfl,rfl⟩|⟨rfl,rfl⟩<;>exact gZ h (by simp only[sg];exact decide_eq_false (by simp;omega)) (by simp[sg];omega)
  ·rename_i e;have e:n≠m:=fun q=>e (aJ.2 q);rw[aR]at h;split at h
   ·rename_i hb;have hb:=aT.1 hb;have e1:Nat.sub m n=m-n:=rfl;rcases hst with⟨rfl,rfl⟩|⟨rfl,rfl⟩
    ·exact gZ h (decide_eq_false (by simp[sg];omega)) (by simp[sg];omega)
    ·exact gZ h (decide_eq_true (by simp[sg];omega)) (by simp[sg];omega)
   ·rename_i hb;have hb:¬n<m:=fun q=>hb (aT.2 q);have e1:Nat.sub n m=n-m:=rfl;rcases hst with⟨rfl,rfl⟩|⟨rfl,rfl⟩
    ·exact gZ h (decide_eq_true (by simp[sg];omega)) (by simp[sg];omega)
    ·exact gZ h (decide_eq_false (by simp[sg];omega)) (by simp[sg];omega)
 have e1:Nat.add n m=n+m:=rfl;cases s<;>cases t
 ·exact gZ (show mX false (Nat.add n m)=some v from h) (decide_eq_false (by simp[sg];omega)) (by simp[sg];omega)
 ·exact dif false true h (.inr ⟨rfl,rfl⟩)
 ·exact dif true false h (.inl ⟨rfl,rfl⟩)
 ·have:=hs rfl;exact gZ (show mX true (Nat.add n m)=some v from h) (decide_eq_true (by simp[sg];omega)) (by simp[sg];omega)
theorem aCS{t:Bool}{m:Nat}(ht:t=true→m≠0):(aDW t m=true→m≠0)∧sg (aDW t m) m=-sg t m:=by
 cases t with
 |true=>exact⟨fun e=>(by cases e),(by show sg false m=-sg true m;simp[sg])⟩
 |false=>
  by_cases h:m=0
  ·subst h;exact⟨fun e=>(by cases e),rfl⟩
  ·have e:aDW false m=true:=by
     show cb (Nat.beq m 0) false true=true;rw[aR,if_neg (fun q=>h (aJ.1 q))]
   exact⟨fun _=>h,by rw[e];simp[sg]⟩
theorem aJo{s t:Bool}{n m:Nat}{v:AV}(h:aHc s n t m=some v):v=.c true (dI ((sg s n*sg t m:Int):Rat)):=by
 have hz:∀{s t:Bool},(sg s n*sg t m).natAbs=n*m:=fun {s t}=>by
  rw[Int.natAbs_mul];congr 1<;>(unfold sg;split<;>simp)
 unfold aHc aHQ at h;rw[aR]at h;have e1:Nat.mul n m=n*m:=rfl;rw[e1]at h;split at h
 ·rename_i h0;have h0:=aJ.1 h0;have h2:=hz (s:=s) (t:=t);rw[h0]at h2;have h3:sg s n*sg t m=0:=Int.natAbs_eq_zero.1 h2;rw[h3];exact gZ h rfl rfl
 ·rename_i h0;have h0:n*m≠0:=fun e=>h0 (aJ.2 e);have hp:(0:Int)<(n:Int)*(m:Int):=by
   rw[←Int.natCast_mul];omega
  refine gZ h ?_ hz;cases s<;>cases t
  ·exact decide_eq_false (by show ¬((n:Int)*(m:Int)<0);omega)
  ·exact decide_eq_true (by show (n:Int)*-(m:Int)<0;rw[Int.mul_neg];omega)
  ·exact decide_eq_true (by show -(n:Int)*(m:Int)<0;rw[Int.neg_mul];omega)
  ·exact decide_eq_false (by show ¬(-(n:Int)*-(m:Int)<0);rw[Int.neg_mul_neg];omega)
theorem aLp(a b:Int):rc (a:Rat) (b:Rat)=if a<b then -1 else if b<a then 1 else 0:=by
 unfold rc;simp only[Rat.intCast_lt_intCast]
theorem aLq(a:Int):sn (a:Rat)=if a<0 then -1 else if a=0 then 0 else 1:=by
 unfold sn;have e1:((a:Rat)<0)↔a<0:=by rw[←Rat.intCast_zero,Rat.intCast_lt_intCast]
 have e2:((a:Rat)=0)↔a=0:=by rw[←Rat.intCast_zero,Rat.intCast_inj]
 simp only[e1,e2]
theorem aFH{n m:Nat}{v:AV}(h:zLt n m=some v):v=sc (.i .i64 (if n<m then -1 else if m<n then 1 else 0)):=by
 unfold zLt at h;rw[aR]at h;split at h
 ·rename_i e;have e:=aJ.1 e;injection h with h;rw[←h,if_neg (by omega),if_neg (by omega)]
 ·rename_i e;have e:n≠m:=fun q=>e (aJ.2 q);rw[aR]at h;split at h<;>rename_i hb<;>injection h with h<;>rw[←h]
  ·have hb:=aT.1 hb;rw[if_pos hb];rfl
  ·have hb:¬n<m:=fun q=>hb (aT.2 q);rw[if_neg hb,if_pos (by omega)]
theorem aJp{s t:Bool}{n m:Nat}{v:AV}(hs:s=true→n≠0)(ht:t=true→m≠0)(h:aLl s n t m=some v):some (sc (.i .i64 (rc ((sg s n:Int):Rat) ((sg t m:Int):Rat))))=some v:=by
 rw[aLp];cases s<;>cases t
 ·rw[aFH (show zLt n m=some v from h)];simp only[sg,Bool.false_eq_true,if_false,Int.ofNat_lt]
 ·have:=ht rfl;injection (show some (sc (.i .i64 1))=some v from h) with h;rw[←h,if_neg (by show ¬((n:Int)< -(m:Int));omega),if_pos (by show -(m:Int)<(n:Int);omega)]
 ·have:=hs rfl;injection (show some (sc (.i .i64 (.negSucc 0)))=some v from h) with h;rw[←h,if_pos (by show -(n:Int)<(m:Int);omega)];rfl
 ·rw[aFH (show zLt m n=some v from h)];have e1:(sg true n<sg true m)↔m<n:=(by show -(n:Int)< -(m:Int)↔m<n;omega);have e2:(sg true m<sg true n)↔n<m:=(by show -(m:Int)< -(n:Int)↔n<m;omega);simp only[e1,e2]
theorem aHh{s:Bool}{n:Nat}{v:AV}(hs:s=true→n≠0)(h:aHR s n=some v):some (sc (.i .i64 (sn ((sg s n:Int):Rat))))=some v:=by
 rw[aLq];cases s
 ·have h:cb (Nat.beq n 0) (some (sc (.i .i64 0))) (some (sc (.i .i64 1)))=some v:=h;rw[aR]at h;have e1:sg false n=(n:Int):=rfl;rw[e1,if_neg (by omega)];split at h<;>rename_i h0<;>injection h with h<;>rw[←h]
  ·rw[if_pos (by have:=aJ.1 h0;omega)]
  ·have h0:n≠0:=fun e=>h0 (aJ.2 e);rw[if_neg (by omega)]
 ·have:=hs rfl;injection (show some (sc (.i .i64 (.negSucc 0)))=some v from h) with h;rw[←h,if_pos (by simp[sg];omega)];rfl
theorem aAb{fn:Nat}{f:Bool→Nat→Bool→Nat→Option AV}{g:Rat→Rat→Option AV}(hg:iO fn (p2 g))(hf:∀s n t m v,(s=true→n≠0)→(t=true→m≠0)→f s n t m=some v→g ((sg s n:Int):Rat) ((sg t m:Int):Rat)=some v)
  (h:∀(x y:Value) (p q:Rat) (v:AV) (c:Cx),g p q=some v→Tb c.w→Px c.w→Nq c.w x p→Nq c.w y q→Ma.sz p≤2048→Ma.sz q≤2048→Calls Tryz.prog fn #[x,y] c.w fun e w'=>∃u,e=.returned u∧Q c.w w'∧VR ⟨c.n,c.k,c.r,w',c.z⟩ v u):iO fn (z2 f g):=by
 intro args v hx c vs hT hP hv
 match args,vs,hx,hv with
 | [x,y],[u,u2],hx,hv=>
   rcases aDY (show zz x (fun s n=>zz y (fun t m=>f s n t m) (p2 g [x,y])) (p2 g [x,y])=some v from hx) with⟨s,n,h1,h2,h3,h4⟩|h1
   ·rcases aDY h4 with⟨t,m,h5,h6,h7,h8⟩|h5
    ·subst h1;subst h5;exact h u u2 _ _ v c (hf s n t m v h3 h7 h8) hT hP (kW.1 hv.1) (kW.1 hv.2.1) h2 h6
    ·exact hg [x,y] v h5 c [u,u2] hT hP hv
   ·exact hg [x,y] v h1 c [u,u2] hT hP hv
theorem aMr{fn:Nat}{f:Bool→Nat→Option AV}{g:Rat→Option AV}(hg:iO fn (p1 g))(hf:∀s n v,(s=true→n≠0)→f s n=some v→g ((sg s n:Int):Rat)=some v)
  (h:∀(x:Value) (p:Rat) (v:AV) (c:Cx),g p=some v→Tb c.w→Px c.w→Nq c.w x p→Ma.sz p≤2048→Calls Tryz.prog fn #[x] c.w fun e w'=>∃u,e=.returned u∧Q c.w w'∧VR ⟨c.n,c.k,c.r,w',c.z⟩ v u):iO fn (z1 f g):=by
 intro args v hx c vs hT hP hv
 match args,vs,hx,hv with
 | [x],[u],hx,hv=>
   rcases aDY (show zz x f (p1 g [x])=some v from hx) with⟨s,n,h1,h2,h3,h4⟩|h1
   ·subst h1;exact h u _ v c (hf s n v h3 h4) hT hP (kW.1 hv.1) h2
   ·exact hg [x] v h1 c [u] hT hP hv
theorem aBG(q:Rat):enc q=some (.c true (dI q)):=by unfold enc;rw[yI]
theorem aHi:∀p∈aAa,iO p.1 p.2:=by
 unfold aAa;simp only[List.forall_mem_cons];have b1:(1099511627776:Nat)=LIM:=aB.symm;refine⟨pr1 fun x p v c hf hT hP hx hs=>fV hf (aG3 x p c.w hx (by rw[aB];omega)),?_⟩;refine⟨pr1 fun x p v c hf hT hP hx hs=>fV hf (aLa x p c.w hx),?_⟩;refine⟨pr1 fun x p v c hf hT hP hx hs=>fV hf (aDK x p c.w hx),?_⟩;refine⟨aJm,?_⟩;refine⟨aB7,?_⟩;refine⟨pr2 fun x y p q v c hf hT hP hx hy hs ht=>fV hf (aG4 x y p q c.w hx hy (by rw[aB];omega)),?_⟩;refine⟨pr2 fun x y p q v c hf hT hP hx hy hs ht=>fV hf (aFu x y p q c.w hx hy (by rw[aB];omega)),?_⟩;refine⟨aLm,?_⟩;have kAdd:=fun (x y:Value) (p q:Rat) (v:AV) (c:Cx) (hf:enc (p+q)=some v) (hT:Tb c.w) (_:Px c.w) (hx:Nq c.w x p) (hy:Nq c.w y q) (_:Ma.sz p≤2048) (_:Ma.sz q≤2048)=>(fV hf (aMh x y p q c.w hT hx hy (by rw[aB];omega)))
 refine⟨aAb (pr2 kAdd) (fun s n t m v h1 h2 h3=>by rw[aBG,←Rat.intCast_add,aCR h1 h2 h3]) kAdd,?_⟩;have kSub:=fun (x y:Value) (p q:Rat) (v:AV) (c:Cx) (hf:enc (p-q)=some v) (hT:Tb c.w) (_:Px c.w) (hx:Nq c.w x p) (hy:Nq c.w y q) (_:Ma.sz p≤2048) (_:Ma.sz q≤2048)=>(fV hf (aMi x y p q c.w hT hx hy (by rw[aB];omega)))
 refine⟨aAb (pr2 kSub) (fun s n t m v h1 h2 h3=>by rw[aBG,←Rat.intCast_sub,aCR h1 (aCS h2).1 h3,(aCS h2).2,←Int.sub_eq_add_neg]) kSub,?_⟩;have kMul:=fun (x y:Value) (p q:Rat) (v:AV) (c:Cx) (hf:enc (p*q)=some v) (hT:Tb c.w) (_:Px c.w) (hx:Nq c.w x p) (hy:Nq c.w y q) (_:Ma.sz p≤2048) (_:Ma.sz q≤2048)=>(fV hf (aDO x y p q c.w hT hx hy (by rw[aB];omega)))
 refine⟨aAb (pr2 kMul) (fun s n t m v h1 h2 h3=>by rw[aBG,←Rat.intCast_mul,aJo h3]) kMul,?_⟩;refine⟨pr2 fun x y p q v c hf hT hP hx hy hs ht=>aDX hf (aMm x y p q c.w hT hx hy (by rw[aB];omega)),?_⟩;refine⟨pr1 fun x p v c hf hT hP hx hs=>fV hf (aMk x p c.w hx (by rw[aB];omega)),?_⟩;refine⟨pr2 fun x y p q v c hf hT hP hx hy hs ht=>fV hf (aMj x y p q c.w hx hy (by rw[aB];omega)),?_⟩;refine⟨pr1 fun x p v c hf hT hP hx hs=>fV hf (aJe x p c.w hT hx (by rw[aB];omega)),?_⟩;have kSign:=fun (x:Value) (p:Rat) (v:AV) (c:Cx) (hf:some (sc (.i .i64 (sn p)))=some v) (_:Tb c.w) (_:Px c.w) (hx:Nq c.w x p) (_:Ma.sz p≤2048)=>aBF hf (fun _=>rfl) (aLb x p c.w hx);refine⟨aMr (pr1 kSign) (fun s n v h1 h3=>aHh h1 h3) kSign,?_⟩;have kCmp:=fun (x y:Value) (p q:Rat) (v:AV) (c:Cx) (hf:some (sc (.i .i64 (rc p q)))=some v) (_:Tb c.w) (_:Px c.w) (hx:Nq c.w x p) (hy:Nq c.w y q) (_:Ma.sz p≤2048) (_:Ma.sz q≤2048)=>aBF hf (fun _=>rfl) (aMl x y p q c.w hx hy (by rw[aB];omega));refine⟨aAb (pr2 kCmp) (fun s n t m v h1 h2 h3=>aJp h1 h2 h3) kCmp,?_⟩;refine⟨pr1 fun x p v c hf hT hP hx hs=>?_,?_⟩
 ·injection hf with hf;refine (aLe x p c.w hx (by omega)).mono ?_;rintro e w' ⟨t,h1,h2,h3⟩;subst hf;exact⟨_,h1,h3,aF.2 ⟨t,rfl,sQ h2⟩⟩
 refine⟨aJn,?_⟩;refine⟨aLn,?_⟩;refine⟨aFG,?_⟩;refine⟨aHg,?_⟩;refine⟨pr1 fun x p v c hf hT hP hx hs=>aBF hf (fun _=>rfl) (aG5 x p c.w hx (by rw[aB];omega)),?_⟩;refine⟨aFF,?_⟩;exact fun x hx=>by cases hx
theorem aMs(hng:∀(f:Nat) (G:Func),Tryz.prog.funcs[f]? =some G→(G.name == "runtime.NumGoroutine")=false):FOk F0:=by
 refine⟨hng,fun _ _ hq h=>⟨h.1.q hq,h.2.q hq⟩,fun fn g args v hg hx c vs hb hv=>?_,fun _ _ _ h=>(by cases h),fun _ _=>⟨fun h=>(by cases h),fun h=>(by cases h)⟩,fun _ _ _ _ _ h=>(by cases h)⟩;exact aHi _ (oZ (show (T.ofL aAa:T 3 _).get fn=some g from hg)) args v hx c vs hb.1 hb.2 hv
theorem f0:FOk F0:=aMs fun f G h=>by
 have:=aCy aE9 h;unfold ngB at this;simpa using this
theorem mixed:F0.P.follows .mixedOrders=true:=by decide+kernel
theorem aJq{F:Cf}(hF:FOk F)(hm:F.P.follows .mixedOrders=true){m fn:Nat}{v:AV}{h':H}(hx:aDi F m fn []=some (v,h'))(w:World)(hb:F.tb w):
  Calls F.P fn #[] w fun e w'=>∃u d,e=.returned u∧d.w=w'∧Q w w'∧VR d v u:=by
 have hx2:aY F (exec F m) fn [] ⟨.lf,0,0,.lf⟩=some (v,h'):=hx;obtain⟨-,hcr⟩:=gQ (vs:=[]) hF (uX hF hm m) hx2 (aA6 F.P.cellsOf w) (fun _=>rfl) hb trivial;refine Calls.mono hcr ?_;rintro e w' ⟨u,d,h1,h2,h3,h4,h5⟩;exact⟨u,d,h1,h2,h2▸h4.q,h5⟩
def okB(r:Option VH):Bool:=match r with|some (.c false [.b true],_)=>true|_=>false
def pl1(x:SV):Bool:=match x with
 | .b _=>true
 | .i _ _=>true
 | .s _=>true
 | .np=>true
 | .ns=>true
 | .m _=>true
 | .nf=>true
 |_=>false
def plL(l:List SV):Bool:=match l with| []=>true|x::l=>pl1 x && plL l
def plT(l:List (Bool × List SV)):Bool:=match l with| []=>true|p::l=>plL p.2 && plT l
def plA(v:AV):Bool:=match v with| .c _ l=>plL l| .t l=>plT l
section
variable {c d:Cx}
theorem aHT(hw:d.w=c.w){x:SV}{u:Value}(hp:pl1 x=true)(h:SR c x u):SR d x u:=by
 cases x with
 |m n=>show Nm d.w u n;rw[hw];exact h
 |b x=>exact h
 |i k n=>exact h
 |s l=>exact h
 |np=>exact h
 |ns=>exact h
 |nf=>exact h
 |_=>cases hp
theorem aDZ(hw:d.w=c.w):∀{l:List SV} {r:List Value},plL l=true→CL c l r→CL d l r
 | [],[],_,_=>trivial
 |x::l,v::r,hp,h=>by
  obtain⟨h1,h2⟩:=(Bool.and_eq_true _ _).mp (show (pl1 x && plL l)=true from hp);exact⟨aHT hw h1 h.1,aDZ hw h2 h.2⟩
theorem aHU(hw:d.w=c.w){g:Bool}{l:List SV}{v:Value}(hp:plL l=true)(h:VC c g l v):VC d g l v:=by
 cases g with
 |true=>obtain⟨cs,h1,h2⟩:=h;exact⟨cs,h1,aDZ hw hp h2⟩
 |false=>
  obtain⟨x,h1,h2⟩:=h;subst h1;obtain⟨h3,-⟩:=(Bool.and_eq_true _ _).mp (show (pl1 x && plL [])=true from hp);exact⟨x,rfl,aHT hw h3 h2⟩
theorem aHV(hw:d.w=c.w):∀{l:List (Bool × List SV)} {r:List Value},plT l=true→TL c l r→TL d l r
 | [],[],_,_=>trivial
 |p::l,v::r,hp,h=>by
  obtain⟨h1,h2⟩:=(Bool.and_eq_true _ _).mp (show (plL p.2 && plT l)=true from hp);exact⟨aHU hw h1 h.1,aHV hw h2 h.2⟩
theorem aHW(hw:d.w=c.w){v:AV}{u:Value}(hp:plA v=true)(h:VR c v u):VR d v u:=by
 cases v with
 |c g l=>exact aHU hw hp h
 |t l=>obtain⟨vs,h1,h2⟩:=h;exact⟨vs,h1,aHV hw hp h2⟩
def plV(l:List AV):Bool:=match l with| []=>true|p::l=>plA p && plV l
theorem aHX(hw:d.w=c.w):∀{l:List AV} {r:List Value},plV l=true→VL c l r→VL d l r
 | [],[],_,_=>trivial
 |p::l,v::r,hp,h=>by
  obtain⟨h1,h2⟩:=(Bool.and_eq_true _ _).mp (show (plA p && plV l)=true from hp);exact⟨aHW hw h1 h.1,aHX hw h2 h.2⟩
end
noncomputable def mkH (bs:List B):H:=⟨T.ofL ((List.range bs.length).zip bs),bs.length,bs.length,.lf⟩
theorem uH{bs:List B}{id:Nat}{b:B}(h:(mkH bs).h.get id=some b):bs[id]? =some b:=by
 have h2:=oZ h;obtain⟨k,hk,h3⟩:=List.getElem_of_mem h2;rw[List.getElem_zip,List.getElem_range]at h3;injection h3 with h3 h4;subst h3;rw[List.getElem?_eq_getElem (by simp at hk;omega),h4]
theorem known{F:Cf}(hF:FOk F)(hm:F.P.follows .mixedOrders=true){m fn:Nat}{bs:List B}{args:List AV}{v:AV}{h':H}(hp:∀b∈bs,plL b.c=true)(hd:(bs.map B.ty).Nodup)(hv:plA v=true)(hx:aY F (exec F m) fn args (mkH bs)=some (v,h')){c:Cx}{wb:World}{h:H}{ρ:Nat→Nat}(R:Rl c wb h)(hz:∀t,c.z t=F.P.cellsOf t)(hb:F.tb c.w)(hg:∀i b,bs[i]? =some b→h.h.get (ρ i)=some b∧c.k (ρ i))
  {vs:List Value} (ha:VL ⟨bs.length,fun i=>i<bs.length,fun i=>c.r (ρ i),c.w,c.z⟩ args vs):
  Calls F.P fn vs.toArray c.w fun e w'=>∃u,e=.returned u∧Q c.w w'∧VR ⟨c.n,c.k,c.r,w',c.z⟩ v u:=by
 obtain⟨c0,h0⟩:∃c0:Cx,c0=⟨bs.length,fun i=>i<bs.length,fun i=>c.r (ρ i),c.w,c.z⟩:=⟨_,rfl⟩
 rw[←h0]at ha;have e1:c0.w=c.w:=by rw[h0]
 have e2:∀i,c0.r i=c.r (ρ i):=fun i=>by rw[h0]
 have e4:c0.z=c.z:=by rw[h0]
 have hlp:∀l p,(mkH bs).l.get l=some p→False:=fun l p hg=>by
  have:(T.lf:T 5 Lp).get l=some p:=hg;rw[T.get_lf]at this;cases this
 have hlt:∀{i b},bs[i]? =some b→i<bs.length:=fun h=>(List.getElem?_eq_some_iff.1 h).1;have R0:Rl c0 c.w (mkH bs):=by
  refine⟨by rw[h0];rfl,fun id q=>?_,by rw[e1];exact Q.refl _,fun id b hi=>?_,fun i j b d hi hj hb' hd' hij=>?_,fun id b hi _ hbar=>?_,fun l p hl=>(hlp l p hl).elim,fun i j p d hi=>(hlp i p hi).elim⟩
  ·rw[h0]at q⊢;exact q
  ·have hi:=uH hi;obtain⟨h1,h2⟩:=hg id b hi;refine⟨hlt hi,fun hl=>?_⟩;obtain⟨row,tail,b1,b2,b3⟩:=(R.blk (ρ id) b h1).2 ⟨h2,hl.2⟩;exact⟨row,tail,by rw[e1,e2];exact b1,aDZ e1 (hp b (List.mem_of_getElem? hi)) b2,b3⟩
  ·have hi:=uH hi;have hj:=uH hj;obtain⟨h1,h2⟩:=hg i b hi;obtain⟨h3,h4⟩:=hg j d hj;rw[e2,e2];refine R.inj _ _ b d h1 h3 ⟨h2,hb'.2⟩ ⟨h4,hd'.2⟩ fun e=>?_;rw[e,h3]at h1;injection h1 with h1;subst h1;have k1:(bs.map B.ty)[i]? =some d.ty:=(by rw[List.getElem?_map,hi];rfl);have k2:(bs.map B.ty)[j]? =some d.ty:=(by rw[List.getElem?_map,hj];rfl);obtain⟨k3,k4⟩:=List.getElem?_eq_some_iff.1 k1;obtain⟨k5,k6⟩:=List.getElem?_eq_some_iff.1 k2;exact hij ((List.getElem_inj hd).1 (k4.trans k6.symm))
  ·have h1:=hlt (uH hi);have hbar:bs.length≤id:=hbar;omega
 obtain⟨-,hcr⟩:=gQ hF (uX hF hm m) hx R0 (fun t=>by rw[e4];exact hz t) hb ha;have hcr:Calls F.P fn vs.toArray c.w fun e w'=>∃u d,e=.returned u∧d.w=w'∧Xt c0 d∧Rl d c.w h'∧VR d v u:=by
  rw[←e1];rw[←e1]at hcr;exact hcr
 refine hcr.mono ?_;rintro e w' ⟨u,d,q1,q2,q3,q4,q5⟩;exact⟨u,q1,q2▸q4.q,aHW (c:=d) (d:=⟨c.n,c.k,c.r,w',c.z⟩) q2.symm hv q5⟩
noncomputable def tpE (l:List (Bool × List SV)):List (Bool × List SV)→Bool:=List.rec (motive:=fun _=>List (Bool × List SV)→Bool) (fun m=>List.rec (motive:=fun _=>Bool) true (fun _ _ _=>false) m) (fun a _ r m=>List.rec (motive:=fun _=>Bool) false (fun b m _=>cb (cb a.1 b.1 (cO b.1)) (cb (svL a.2 b.2) (r m) false) false) m) l
noncomputable def avE (x y:AV):Bool:=match x,y with
 | .c g l,.c k m=>cb (cb g k (cO k)) (svL l m) false
 | .t l,.t m=>tpE l m
 |_,_=>false
theorem aFI:∀{l m:List (Bool × List SV)},tpE l m=true→l=m
 | [],[],_=>rfl
 | [],_::_,h=>by cases h
 |_::_,[],h=>by cases h
 |(g,x)::l,(k,y)::m,h=>by
  obtain⟨h1,h2⟩:=aW.1 (show cb (cb g k (cO k)) (cb (svL x y) (tpE l m) false) false=true from h);obtain⟨h3,h4⟩:=aW.1 h2;rw[tZ h1,oW h3,aFI h4]
theorem aBH{x y:AV}(h:avE x y=true):x=y:=by
 unfold avE at h;split at h
 ·obtain⟨h1,h2⟩:=aW.1 h;rw[tZ h1,oW h2]
 ·rw[aFI h]
 ·cases h
noncomputable def okW (v:AV) (r:Option VH):Bool:=Option.rec (motive:=fun _=>Bool) false (fun p=>avE p.1 v) r
theorem aMt{v:AV}{r:Option VH}(h:okW v r=true):∃h',r=some (v,h'):=by
 cases r with
 |none=>cases h
 |some p=>exact⟨p.2,by rw[←aBH (show avE p.1 v=true from h)]⟩
theorem ran{F:Cf}{m fn:Nat}{args:List AV}{h:H}{v:AV}(hx:okW v (aY F (exec F m) fn args h)=true):∃h',aY F (exec F m) fn args h=some (v,h'):=aMt hx
end Go.Proofs.YtciafpbehhmikaaGreatDoor.E
namespace Go.Proofs.YtciafpbehhmikaaGreatDoor.E
open Go Go.RowKit
open Ma Me K
noncomputable section
def aBI:List SV:=[
 .s [],.s [],.i .i64 0,.i .i64 0,.i .i64 0,.b false,.i .i64 0,.i .i64 0,
 .s [114],.s [65,66],.i .i64 0,.i .i64 2,.i .i64 0,.b false,.i .i64 0,.i .i64 0,
 .s [99],.s [65,66],.i .i64 0,.i .i64 2,.i .i64 0,.b false,.i .i64 0,.i .i64 2,
 .s [108],.s [65,66],.i .i64 0,.i .i64 2,.i .i64 0,.b true,.i .i64 2,.i .i64 0,
 .s [118],.s [65,66],.i .i64 0,.i .i64 1,.i .i64 0,.b true,.i .i64 1,.i .i64 0,
 .s [105],.s [65,66],.i .i64 0,.i .i64 1,.i .i64 0,.b false,.i .i64 0,.i .i64 1,
 .s [101],.s [65,66,67,68],.i .i64 0,.i .i64 1,.i .i64 0,.b true,.i .i64 1,.i .i64 0,
 .s [103],.s [65,66,67,68],.i .i64 0,.i .i64 1,.i .i64 0,.b false,.i .i64 0,.i .i64 1,
 .s [102],.s [65,66],.i .i64 1,.i .i64 1,.i .i64 0,.b false,.i .i64 0,.i .i64 1,
 .s [104],.s [65,66],.i .i64 1,.i .i64 1,.i .i64 0,.b true,.i .i64 1,.i .i64 0,
 .s [100],.s [65,66],.i .i64 0,.i .i64 0,.i .i64 1,.b false,.i .i64 0,.i .i64 0,
 .s [109],.s [65,67,66],.i .i64 0,.i .i64 0,.i .i64 2,.b false,.i .i64 0,.i .i64 1,
 .s [113],.s [65,66],.i .i64 0,.i .i64 0,.i .i64 1,.b false,.i .i64 0,.i .i64 2,
 .s [115],.s [65,66],.i .i64 2,.i .i64 2,.i .i64 0,.b false,.i .i64 0,.i .i64 3]
def roS(t:Nat)(a:Addr):Option AV:=Addr.rec (motive:=fun _=>Option AV) (fun b o s=>Option.rec (motive:=fun _=>Option AV) (cb (Nat.beq b 0) (ob (F0.ti t) fun i=>ob (eH i.sz (drp o aBI)) fun l=>av i.d.ag l) none) (fun _=>none) s) a
def valOf(x:SV):Value:=match x with
 | .s l=>.string ⟨(l.map UInt8.ofNat).toArray⟩
 | .i k n=>.int k n
 | .b x=>.bool x
 |_=>.nilFunc
def shaV:List Value:=aBI.map valOf
end
def Sh(w:World):Prop:=∃t fr,w.heap[(0:Nat)]? =some (.cells shaV.toArray t fr)
theorem Sh.q{w w':World}(h:Sh w)(hq:Q w w'):Sh w':=by
 obtain⟨t,fr,h⟩:=h;have hlt:(0:Nat)<w.heap.size:=by
  rcases Nat.lt_or_ge (0:Nat) w.heap.size with hlt|hge
  ·exact hlt
  ·rw[Array.getElem?_eq_none hge]at h;cases h
 exact⟨t,fr,(hq.heap hlt).trans h⟩
def okL(x:SV):Bool:=match x with
 | .s l=>l.all (·<256)
 | .i _ _=>true
 | .b _=>true
 |_=>false
theorem aLr{c:Cx}{x:SV}(h:okL x=true):SR c x (valOf x):=by
 cases x with
 |s l=>
  refine⟨_,rfl,?_⟩;show (((l.map UInt8.ofNat).toArray).toList).map UInt8.toNat=l;simp only[List.map_map];refine (List.map_congr_left fun n hn=>?_).trans (List.map_id l);have hn:=of_decide_eq_true (List.all_eq_true.1 h n hn);show (UInt8.ofNat n).toNat=n;rw[UInt8.toNat_ofNat'];exact Nat.mod_eq_of_lt hn
 |i k n=>exact rfl
 |b x=>exact rfl
 |_=>cases h
theorem aFJ{c:Cx}:∀{l:List SV},l.all okL=true→CL c l (l.map valOf)
 | [],_=>trivial
 |x::l,h=>by
  obtain⟨h1,h2⟩:=(Bool.and_eq_true _ _).mp (show (okL x && l.all okL)=true from h);exact⟨aLr h1,aFJ h2⟩
theorem aLs:aBI.all okL=true:=by decide+kernel
noncomputable def F3:Cf:=⟨Tryz.prog,fun w=>(Tb w∧Px w)∧Sh w,32,fun f=>aHS.get f,aDj,fun _=>none,roS,fun _ _=>none⟩
theorem aLt:aGg F3:=by
 intro t a v h c hb;obtain⟨b,o,s⟩:=a;cases s with
 |some s=>cases h
 |none=>
  obtain⟨h1,h2⟩:=aC.1 (show cb (Nat.beq b 0) (ob (F0.ti t) fun i=>ob (eH i.sz (drp o aBI)) fun l=>av i.d.ag l) none=some v from h);obtain⟨i,h3,h4⟩:=aA.1 h2;obtain⟨l,h5,h6⟩:=aA.1 h4;have h1:=aJ.1 h1;subst h1;rw[kS]at h5;obtain⟨h7,rfl⟩:=lL.1 h5;have hc:CL c ((aBI.drop o).take i.sz) ((shaV.drop o).take i.sz):=((aFJ aLs).drop o).take i.sz;obtain⟨u,k1,k2,k3⟩:=zR h6 hc;obtain⟨tt,fr,hh⟩:=hb.2;refine⟨u,?_,k1⟩;refine xP (P:=F3.P) (aK (F:=F0) h3) (g:=0) (off:=o) (vs:=(shaV.drop o).take i.sz) ?_ (fun j x hx=>?_) k2 k3
  ·have:=hc.len;rw[this,List.length_take];omega
  ·rw[List.getElem?_take]at hx;split at hx
   ·rw[List.getElem?_drop]at hx;show c.w.cell? _=_;simp[World.cell?,hh,hx]
   ·cases hx
theorem f3:FOk F3:=⟨f0.ng,fun _ _ hq h=>⟨f0.tq _ _ hq h.1,h.2.q hq⟩,fun fn g args v hg hx c vs hb hv=>f0.pr fn g args v hg hx c vs hb.1 hv,aLt,fun _ _=>⟨fun h=>(by cases h),fun h=>(by cases h)⟩,fun _ _ _ _ _ h=>(by cases h)⟩
end Go.Proofs.YtciafpbehhmikaaGreatDoor.E
namespace Go.Proofs.YtciafpbehhmikaaGreatDoor.E
open Go Go.RowKit
open Ma Me K
noncomputable section
def dB0:B:=⟨56,[.i .i64 4,.i .i64 1,.i .i64 0,.i .i64 0,.i .i64 0,.i .i64 0,.i .i64 0,.s [49,50],.i .i64 1,.i .i64 1,.i .i64 2,.i .i64 0,.i .i64 0,.i .i64 0,.i .i64 0,.s [50],.i .i64 1,.i .i64 2,.i .i64 0,.i .i64 0,.i .i64 0,.i .i64 0,.i .i64 0,.s [49]]⟩
def dB1:B:=⟨3,[.i .i64 1,.i .i64 2]⟩
def dB2:B:=⟨51,[.s [49],.s [51],.s [49,47,50],.s [51,47,50]]⟩
def dB3:B:=⟨34,[.b false,.m 2,.m 0,.b false,.m 1,.m 0]⟩
def dvT(a b c:Nat):AV:=.c true [.i .i64 2,.sl a 0 3 (some 3),.ns,.sl b 0 2 (some 2),.sl c 0 2 (some 2),.i .i64 1]
def bs3:List B:=[dB0,dB1,dB2]
def bs4:List B:=[dB0,dB1,dB2,dB3]
def dR0:List AV:=[.c false [.sl 3 0 2 (some 2)]]
def dV0:AV:=.t [(true,[.b false,.m 4,.m 0]),(false,[.i .i64 0])]
def dR1:List AV:=[]
def dV1:AV:=.t [(true,[.b false,.m 4,.m 0]),(true,[.b false,.m 32,.m 27]),(false,[.i .i64 0])]
def dR2:List AV:=[.c true [.s [49],.s [56]],.c false [.i .i64 0]]
def dV2:AV:=.t [(true,[.s [49],.s [49],.i .i64 1]),(false,[.i .i64 0])]
def dR3:List AV:=[.c true [.s [52],.s [56]],.c false [.i .i64 2]]
def dV3:AV:=.t [(false,[.i .i64 3]),(false,[.i .i64 4]),(false,[.i .i64 0])]
def dR4:List AV:=[.c true [.s [50],.s [54]],.c false [.i .i64 2]]
def dV4:AV:=.t [(true,[.b false,.m 1,.m 2]),(false,[.i .i64 0])]
def dR5:List AV:=[.c true [.s [53],.s [54]],.c false [.i .i64 2]]
def dV5:AV:=.t [(true,[.b false,.m 0,.m 0]),(false,[.i .i64 4])]
def dR6:List AV:=[]
def dV6:AV:=.t [(true,[.s [49,50,47,55],.s [51,54,47,53],.i .i64 1,.i .i64 2]),(false,[.i .i64 0])]
def dR7:List AV:=[.c true [.s [52],.s [56]],.c false [.i .i64 0]]
def dV7:AV:=.t [(true,[.s [48],.s [49],.i .i64 1]),(false,[.i .i64 0])]
end
end Go.Proofs.YtciafpbehhmikaaGreatDoor.E
