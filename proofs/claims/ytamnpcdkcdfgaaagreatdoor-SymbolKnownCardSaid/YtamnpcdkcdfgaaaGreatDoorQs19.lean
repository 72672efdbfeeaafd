/- SymbolKnown holds. No condition. -/
import Derived.Test.YtamnpcdkcdfgaaaGreatDoorQs18
namespace Go.Proofs.YtamnpcdkcdfgaaaGreatDoor
namespace E
open Go Go.RowKit
open Ma Me K
theorem zX{α:Type}(x:Rat)(k:List SV→α):aIZ x k=k (bS x):=by
 obtain⟨n,d,h1,h2⟩:=x;show cb (Nat.beq d 1) _ _=k [.b (decide (n<0)),.m n.natAbs,.m (bt d)];unfold bt;by_cases hd:d=1
 ·rw[aH.2 hd,if_pos hd,aL,if_pos rfl];cases n with
  |ofNat m=>exact aM (n:=m) (f:=fun m=>k [.b false,.m m,.m 0])
  |negSucc m=>rw[show decide (Int.negSucc m<0)=true from decide_eq_true (Int.negSucc_lt_zero m)];exact aM (n:=m) (f:=fun m=>k [.b true,.m (Nat.succ m),.m 0])
 ·rw[show Nat.beq d 1=false from Bool.eq_false_iff.2 fun h=>hd (aH.1 h),if_neg hd,aL,if_neg (by decide),aM];cases n with
  |ofNat m=>exact aM (n:=m) (f:=fun m=>k [.b false,.m m,.m d])
  |negSucc m=>rw[show decide (Int.negSucc m<0)=true from decide_eq_true (Int.negSucc_lt_zero m)];exact aM (n:=m) (f:=fun m=>k [.b true,.m (Nat.succ m),.m d])
theorem jC{c:Cx}{q:Rat}{u:Value}:VR c (.c true (bS q)) u↔Nq c.w u q:=by
 constructor
 ·rintro⟨cs,rfl,h⟩
  match cs,h with
  | [x,y,z],h=>
    obtain⟨h1,h2,h3,-⟩:=h;cases h1;exact⟨y,z,rfl,h2,h3⟩
 ·rintro⟨t,b,rfl,h2,h3⟩;exact⟨[_,t,b],rfl,rfl,h2,h3,trivial⟩
theorem xA{n:Nat}(h:small n=true):dg W64 n≤1024:=by
 unfold small at h;have h1:=aQ.1 h;rw[big.eq_1]at h1;exact (aK aD n aNo).2 h1
theorem aI3{α:Type}{c:Bool}{f:c=false→Option α}{g:c=true→Option α}{y:α}(h:Bool.rec (motive:=fun b=>c=b→Option α) f g c rfl=some y):(∃e,f e=some y)∨∃e,g e=some y:=by
 cases c with
 |false=>exact .inl ⟨rfl,h⟩
 |true=>exact .inr ⟨rfl,h⟩
theorem aLg{s:Bool}{n m:Nat}{q:Rat}(h:aNq s n m=some q):bS q=[.b s,.m n,.m m]∧Ma.sz q≤2048:=by
 obtain⟨h1,h2⟩:=cbn.1 h;obtain⟨h3,h4⟩:=aB.1 h2;obtain⟨h5,h6⟩:=aB.1 h4;obtain⟨d,hd⟩:∃d,d=cb (Nat.beq m 0) 1 m:=⟨_,rfl⟩
 rw[←hd]at h6;have hm1:m≠1:=fun e=>by rw[e]at h1;cases h1
 have hdm:bt d=m:=by
  rw[hd,aL];unfold bt;by_cases hm:m=0
  ·rw[if_pos (aH.2 hm),if_pos rfl,hm]
  ·rw[if_neg (fun e=>hm (aH.1 e)),if_neg hm1]
 have hds:dg W64 d≤1024:=by
  rw[hd,aL];split
  ·rw[iA aD];decide
  ·exact xA h5
 have hns:=xA h3;have key:q.num.natAbs=n∧q.den=d∧decide (q.num<0)=s:=by
  rcases aI3 h6 with⟨e1,h7⟩|⟨e1,h7⟩
  ·rcases aI3 h7 with⟨e2,h8⟩|⟨e2,h8⟩
   ·cases h8
   ·cases s with
    |false=>
     injection h8 with h8;subst h8;exact⟨rfl,rfl,decide_eq_false (Int.not_lt.2 (Int.natCast_nonneg n))⟩
    |true=>
     rcases aI3 (show aNp n d e1 e2=some q from h8) with⟨e3,h9⟩|⟨e3,h9⟩
     ·injection h9 with h9;subst h9;refine⟨?_,rfl,decide_eq_true (Int.negSucc_lt_zero _)⟩;show (Int.negSucc (Nat.pred n)).natAbs=n;cases n with
      |zero=>cases e3
      |succ n=>rfl
     ·cases h9
  ·cases h7
 obtain⟨k1,k2,k3⟩:=key;refine⟨by unfold bS;rw[k1,k2,k3,hdm],?_⟩;have:=fZ q;rw[k1,k2]at this;omega
theorem oH{α:Type}{v:AV}{k:Rat→Option α}{y:α}(h:num v k=some y):∃q,v=.c true (bS q)∧Ma.sz q≤2048∧k q=some y:=by
 unfold num at h;split at h
 ·rename_i s n m;obtain⟨q,h1,h2⟩:=aA.1 h;obtain⟨h3,h4⟩:=aLg h1;exact⟨q,by rw[h3],h4,h2⟩
 ·cases h
def iI(fn:Nat)(g:List AV→Option AV):Prop:=∀(args:List AV) (v:AV),g args=some v→∀(c:Cx) (vs:List Value),Tb c.w→Px c.w→VL c args vs→
 Calls Tryz.prog fn vs.toArray c.w fun e w'=>∃u,e=.returned u∧Q c.w w'∧VR ⟨c.n,c.k,c.r,w',c.z⟩ v u
theorem aI4{x:Rat}{v:AV}(h:enc x=some v):v=.c true (bS x):=by
 unfold enc at h;rw[zX]at h;injection h with h;exact h.symm
theorem aLh{r:Int × Rat}{v:AV}(h:er r=some v):v=.t [(true,bS r.2),(false,[.i .i64 r.1])]:=by
 unfold er at h;rw[zX]at h;injection h with h;exact h.symm
theorem aOR{c:Cx}{r:Int × Rat}{u:Value}(h:Nq c.w u r.2):VR c (.t [(true,bS r.2),(false,[.i .i64 r.1])]) (.tuple #[u,.int .i64 r.1]):=
 ⟨[u,.int .i64 r.1],rfl,jC.2 h,⟨_,rfl,rfl⟩,trivial⟩
theorem pr1{fn:Nat}{f:Rat→Option AV}(h:∀(x:Value) (p:Rat) (v:AV) (c:Cx),f p=some v→Tb c.w→Px c.w→Nq c.w x p→Ma.sz p≤2048→Calls Tryz.prog fn #[x] c.w fun e w'=>∃u,e=.returned u∧Q c.w w'∧VR ⟨c.n,c.k,c.r,w',c.z⟩ v u):iI fn (p1 f):=by
 intro args v hx c vs hT hP hv
 match args,vs,hx,hv with
 | [x],[u],hx,hv=>
   obtain⟨q,rfl,h1,h2⟩:=oH (show num x f=some v from hx);exact h u q v c h2 hT hP (jC.1 hv.1) h1
theorem pr2{fn:Nat}{f:Rat→Rat→Option AV}(h:∀(x y:Value) (p q:Rat) (v:AV) (c:Cx),f p q=some v→Tb c.w→Px c.w→Nq c.w x p→Nq c.w y q→Ma.sz p≤2048→Ma.sz q≤2048→Calls Tryz.prog fn #[x,y] c.w fun e w'=>∃u,e=.returned u∧Q c.w w'∧VR ⟨c.n,c.k,c.r,w',c.z⟩ v u):iI fn (p2 f):=by
 intro args v hx c vs hT hP hv
 match args,vs,hx,hv with
 | [x,y],[u,u2],hx,hv=>
   obtain⟨p,rfl,h1,h2⟩:=oH (show num x (fun p=>num y fun q=>f p q)=some v from hx);obtain⟨q,rfl,h3,h4⟩:=oH h2;exact h u u2 p q v c h4 hT hP (jC.1 hv.1) (jC.1 hv.2.1) h1 h3
theorem fD{fn:Nat}{args:Array Value}{c:Cx}{q:Rat}{v:AV}(hv:enc q=some v)(h:Calls Tryz.prog fn args c.w fun e w'=>∃r,e=.returned r∧Nq w' r q∧Q c.w w'):Calls Tryz.prog fn args c.w fun e w'=>∃u,e=.returned u∧Q c.w w'∧VR ⟨c.n,c.k,c.r,w',c.z⟩ v u:=by
 refine h.mono ?_;rintro e w' ⟨r,h1,h2,h3⟩;rw[aI4 hv];exact⟨r,h1,h3,jC.2 h2⟩
theorem aAX{fn:Nat}{args:Array Value}{c:Cx}{q:Int × Rat}{v:AV}(hv:er q=some v)(h:Calls Tryz.prog fn args c.w fun e w'=>∃r,e=.returned (.tuple #[r,.int .i64 q.1])∧Nq w' r q.2∧Q c.w w'):Calls Tryz.prog fn args c.w fun e w'=>∃u,e=.returned u∧Q c.w w'∧VR ⟨c.n,c.k,c.r,w',c.z⟩ v u:=by
 refine h.mono ?_;rintro e w' ⟨r,h1,h2,h3⟩;rw[aLh hv];exact⟨_,h1,h3,aOR (c:=⟨c.n,c.k,c.r,w',c.z⟩) h2⟩
theorem aCD{fn:Nat}{args:Array Value}{c:Cx}{s:SV}{u:Value}{v:AV}(hv:some (sc s)=some v)(hs:∀w',SR ⟨c.n,c.k,c.r,w',c.z⟩ s u)(h:Calls Tryz.prog fn args c.w fun e w'=>e=.returned u∧Q c.w w'):Calls Tryz.prog fn args c.w fun e w'=>∃u,e=.returned u∧Q c.w w'∧VR ⟨c.n,c.k,c.r,w',c.z⟩ v u:=by
 refine h.mono ?_;rintro e w' ⟨h1,h2⟩;injection hv with hv;subst hv;exact⟨u,h1,h2,aF.2 (hs w')⟩
theorem jP{s:ByteArray}{l:List Nat}(h:bytes s=l):by8 l=s.data.toList∧len l=s.size:=by
 subst h;refine⟨?_,(bH _).trans (by unfold bytes;rw[List.length_map,Array.length_toList];rfl)⟩;unfold by8 bytes;rw[List.map_map];exact (List.map_congr_left fun x _=>(UInt8.ofNat_toNat:UInt8.ofNat x.toNat=x)).trans (List.map_id _)
theorem uO{t:ByteArray}{l:List UInt8}(h:t.data.toList=l):bytes t=un8 l:=by
 subst h;rfl
theorem xB{α:Type}{v:AV}{k:Int→Option α}{y:α}(h:int v k=some y):∃n,v=sc (.i .i64 n)∧k n=some y:=by
 unfold int at h;split at h
 ·exact⟨_,rfl,h⟩
 ·cases h
theorem aNu:iI 17 aNr:=by
 intro args v hx c vs hT hP hv
 match args,vs,hx,hv with
 | [x],[u],hx,hv=>
   obtain⟨n,rfl,h0⟩:=xB (show int x (fun n=>cb (decide (-9223372036854775808≤n) && decide (n≤9223372036854775807)) (enc (n:Rat)) none)=some v from hx);obtain⟨h1,h2⟩:=aB.1 h0;obtain⟨h3,h4⟩:=(Bool.and_eq_true _ _).mp h1;have hu:u=.int .i64 n:=aF.1 hv.1;subst hu;exact fD h2 (aOx n c.w (of_decide_eq_true h3) (of_decide_eq_true h4))
theorem aLi:iI 60 aFk:=by
 intro args v hx c vs hT hP hv;unfold aFk at hx;split at hx
 ·rename_i n
  match vs,hv with
  | [u],hv=>
    have hu:u=.int .u64 (Int.ofNat n):=aF.1 (show VR c (sc (.i .u64 (.ofNat n))) u from hv.1);subst hu;obtain⟨h1,h2⟩:=aB.1 hx;injection h2 with h2;subst h2;refine (fC (Int.ofNat n) n c.w rfl (aQ.1 h1)).mono ?_;rintro e w' ⟨r,h3,h4,h5,-⟩;exact⟨r,h3,h5,aF.2 h4⟩
 ·cases hx
theorem aDc:iI 136 uN:=by
 intro args v hx c vs hT hP hv;unfold uN at hx;split at hx
 ·rename_i s n m
  match vs,hv with
  | [u1,u2,u3],hv=>
    have h1:u1=.bool s:=aF.1 (show VR c (sc (.b s)) u1 from hv.1);have h2:Nm c.w u2 n:=aF.1 (show VR c (sc (.m n)) u2 from hv.2.1);have h3:Nm c.w u3 m:=aF.1 (show VR c (sc (.m m)) u3 from hv.2.2.1);subst h1;injection hx with hx;refine (kI s u2 u3 n m c.w h2 h3).mono ?_;rintro e w' ⟨r,h4,⟨t,b,h5,h6,h7⟩,h8⟩;refine⟨r,h4,h8,?_⟩;rw[←hx,aL];by_cases hn:n=0
    ·rw[if_pos (aH.2 hn)];subst hn;rw[if_pos rfl]at h7;exact⟨[.bool false,t,b],h5,rfl,h6,h7,trivial⟩
    ·rw[if_neg (fun h=>hn (aH.1 h))];rw[if_neg hn]at h7;have h9:(decide (0<n) && s)=s:=(by rw[decide_eq_true (Nat.pos_of_ne_zero hn)];rfl);rw[h9]at h5;exact⟨[.bool s,t,b],h5,rfl,h6,h7,trivial⟩
 ·cases hx
theorem aNv:iI 156 aNs:=by
 intro args v hx c vs hT hP hv
 match args,vs,hx,hv with
 | [x,y],[u,u2],hx,hv=>
   obtain⟨q,rfl,h1,h2⟩:=oH (show num x (fun p=>int y fun n=>er (oF p n))=some v from hx);obtain⟨n,rfl,h3⟩:=xB h2;have hu:u2=.int .i64 n:=aF.1 hv.2.1;subst hu;exact aAX h3 (aOO u q n c.w (jC.1 hv.1) (by rw[aC];omega))
theorem aI5:iI 237 aHd:=by
 intro args v hx c vs hT hP hv
 match args,vs,hx,hv with
 | [x,y],[u,u2],hx,hv=>
   obtain⟨q,rfl,h1,h2⟩:=oH (show num x (fun p=>int y fun n=>cb (decide (0≤n) && decide (n≤64)) (enc (p^n.toNat)) none)=some v from hx);obtain⟨n,rfl,h3⟩:=xB h2;obtain⟨h4,h5⟩:=aB.1 h3;obtain⟨h6,h7⟩:=(Bool.and_eq_true _ _).mp h4;have h6:=of_decide_eq_true h6;have h7:=of_decide_eq_true h7;obtain⟨m,rfl⟩:∃m:Nat,n=m:=⟨n.toNat,by omega⟩
   have hu:u2=.int .i64 (m:Int):=aF.1 hv.2.1;subst hu;exact fD h5 (aIU u q m c.w (jC.1 hv.1) (by omega) (by rw[aC];omega))
theorem aLj:iI 387 aFj:=by
 intro args v hx c vs hT hP hv;unfold aFj at hx;split at hx
 ·rename_i l
  match vs,hv with
  | [u],hv=>
    obtain⟨s,rfl,hs⟩:=aF.1 (show VR c (sc (.s l)) u from hv.1);obtain⟨h1,h2⟩:=aB.1 hx;have h1:=aQ.1 h1;obtain⟨k1,k2⟩:=jP hs;rw[k1]at h2;exact aAX h2 (aNn s c.w hT hP (by omega))
 ·cases hx
theorem aI6:iI 143 aCC:=by
 intro args v hx c vs hT hP hv;unfold aCC at hx;split at hx
 ·rename_i l
  match vs,hv with
  | [u],hv=>
    obtain⟨s,rfl,hs⟩:=aF.1 (show VR c (sc (.s l)) u from hv.1);obtain⟨h1,h2⟩:=aB.1 hx;have h1:=aQ.1 h1;obtain⟨k1,k2⟩:=jP hs;rw[k1]at h2;exact aAX h2 (aDY s c.w hT (by omega))
 ·cases hx
theorem aHe:iI 410 zV:=by
 intro args v hx c vs hT hP hv;unfold zV at hx;split at hx
 ·rename_i l ch
  match vs,hv with
  | [u,u2],hv=>
    obtain⟨s,rfl,hs⟩:=aF.1 (show VR c (sc (.s l)) u from hv.1);have hu2:u2=.int .u8 (Int.ofNat ch):=aF.1 (show VR c (sc (.i .u8 (.ofNat ch))) u2 from hv.2.1);subst hu2;obtain⟨h1,h2⟩:=aB.1 hx;injection h2 with h2;subst h2;obtain⟨k1,k2⟩:=jP hs;rw[k1];refine (Tryz.stringslite_IndexByte s (Int.ofNat ch) c.w).mono ?_;rintro e w' ⟨rfl,rfl⟩;exact⟨_,rfl,Q.refl _,aF.2 rfl⟩
 ·cases hx
theorem aNw:iI 219 aI0:=by
 intro args v hx c vs hT hP hv;unfold aI0 at hx;split at hx
 ·rename_i l ch
  match vs,hv with
  | [u,u2],hv=>
    obtain⟨s,rfl,hs⟩:=aF.1 (show VR c (sc (.s l)) u from hv.1);obtain⟨s2,rfl,hs2⟩:=aF.1 (show VR c (sc (.s [ch])) u2 from hv.2.1);obtain⟨h1,h2⟩:=aB.1 hx;injection h2 with h2;have h1:=aQ.1 h1;obtain⟨k1,k2⟩:=jP hs;obtain⟨k3,-⟩:=jP hs2;have e2:s2=⟨#[UInt8.ofNat ch]⟩:=by
     obtain⟨a⟩:=s2;congr 1;apply Array.toList_inj.1;exact k3.symm
    subst e2;rw[k1]at h2;refine (aFf s (UInt8.ofNat ch) c.w (by omega)).mono ?_;rintro e w' ⟨a,b,h3,h4,h5,h6⟩;subst h2;exact⟨_,h3,h6,[.string a,.string b,.bool (decide (UInt8.ofNat ch∈s.data.toList))],rfl,⟨_,rfl,a,rfl,uO h4⟩,⟨_,rfl,b,rfl,uO h5⟩,⟨_,rfl,rfl⟩,trivial⟩
 ·cases hx
theorem aHf:iI 388 zW:=by
 intro args v hx c vs hT hP hv;unfold zW at hx;split at hx
 ·rename_i l n
  match vs,hv with
  | [u,u2],hv=>
    obtain⟨s,rfl,hs⟩:=aF.1 (show VR c (sc (.s l)) u from hv.1);have hu2:u2=.int .i64 (Int.ofNat n):=aF.1 (show VR c (sc (.i .i64 (.ofNat n))) u2 from hv.2.1);subst hu2;obtain⟨h1,h2⟩:=aB.1 hx;simp only[Bool.and_eq_true,decide_eq_true_eq]at h1;obtain⟨⟨⟨h3,h4⟩,h5⟩,h6⟩:=h1;have h3:=aQ.1 h3;obtain⟨k1,k2⟩:=jP hs;injection h2 with h2;rw[k1]at h2;have hm:s.size*n≤1000000*1000000:=Nat.mul_le_mul (by omega) h6;refine (Tryz.strings_Repeat_main s n c.w h5 (by omega) (by omega) (by omega)).mono ?_;rintro e w' ⟨h7,h8⟩;subst h2;exact⟨_,h7,h8,aF.2 ⟨_,rfl,rfl⟩⟩
 ·cases hx
def sg(s:Bool)(n:Nat):Int:=if s=true then -(n:Int) else n
theorem encZ(z:Int):bS (z:Rat)=[.b (decide (z<0)),.m z.natAbs,.m 0]:=by
 unfold bS;rw[Rat.num_intCast,Rat.den_intCast];rfl
theorem aNx{k:ZF}{fb:Option AV}{s:Bool}{n m:Nat}:zz6 k fb s n m=cb (Nat.beq m 0) (cb (small n) (cb s (cb (Nat.beq n 0) fb (k true n)) (k false n)) fb) fb:=by
 unfold zz6 zz7;generalize small n=b;cases b<;>rfl
theorem aOS{v:AV}{k:ZF}{fb:Option AV}:zz v k fb=fb∨∃s n m,v=.c true [.b s,.m n,.m m]∧zz v k fb=cb (Nat.beq m 0) (cb (small n) (cb s (cb (Nat.beq n 0) fb (k true n)) (k false n)) fb) fb:=by
 cases v with
 |t l=>exact .inl rfl
 |c g l=>
  cases g with
  |false=>exact .inl rfl
  |true=>
   match l with
   | []=>exact .inl rfl
   |x::l=>
    cases x with
    |b s=>
     match l with
     | []=>exact .inl rfl
     |y::l=>
      cases y with
      |m n=>
       match l with
       | []=>exact .inl rfl
       |z::l=>
        cases z with
        |m m=>
         cases l with
         |nil=>
          refine .inr ⟨s,n,m,rfl,?_⟩;simp only[zz,zzg,zzl,zz0,zz1,zz2,zz3,zz4,zz5];exact aNx
         |cons _ _=>exact .inl rfl
        |_=>exact .inl rfl
      |_=>exact .inl rfl
    |_=>exact .inl rfl
theorem aFo{v:AV}{k:ZF}{fb:Option AV}{y:AV}(h:zz v k fb=some y):(∃s n,v=.c true (bS ((sg s n:Int):Rat))∧Ma.sz ((sg s n:Int):Rat)≤2048∧(s=true→n≠0)∧k s n=some y)∨fb=some y:=by
 rcases aOS (v:=v) (k:=k) (fb:=fb) with h1|⟨s,n,m,hv,h1⟩
 rotate_left
 ·subst hv;rw[h1,aL]at h;split at h
  ·rename_i hm;rw[aL]at h;split at h
   ·rename_i hn;have hd:=xA hn;have hsz:∀t,Ma.sz ((sg t n:Int):Rat)≤2048:=fun t=>by
     have h1:=fZ ((sg t n:Int):Rat);rw[Rat.num_intCast,Rat.den_intCast,iA aD]at h1;have h2:(sg t n).natAbs=n:=by unfold sg;split<;>simp
     rw[h2]at h1;omega
    have hm:=aH.1 hm;subst hm;rw[aL]at h;split at h
    ·rename_i hs;subst hs;rw[aL]at h;split at h
     ·exact .inr h
     ·rename_i h0;have h0:n≠0:=fun e=>h0 (aH.2 e);refine .inl ⟨true,n,?_,hsz _,fun _=>h0,h⟩;rw[encZ];have e1:sg true n=-(n:Int):=rfl;rw[e1,Int.natAbs_neg,decide_eq_true (by omega)];rfl
    ·rename_i hs;have hs:s=false:=(by simpa using hs);subst hs;refine .inl ⟨false,n,?_,hsz _,fun e=>(by cases e),h⟩;rw[encZ];have e1:sg false n=(n:Int):=rfl;rw[e1,decide_eq_false (by omega)];rfl
   ·exact .inr h
  ·exact .inr h
 ·exact .inr (h1▸h)
theorem iQ{s:Bool}{n:Nat}{v:AV}(h:oG s n=some v){z:Int}(hs:decide (z<0)=s)(hn:z.natAbs=n):v=.c true (bS (z:Rat)):=by
 unfold oG at h;rw[aM]at h;injection h with h;rw[encZ,hs,hn,h]
theorem aD2{s t:Bool}{n m:Nat}{v:AV}(hs:s=true→n≠0)(ht:t=true→m≠0)(h:aI1 s n t m=some v):v=.c true (bS ((sg s n+sg t m:Int):Rat)):=by
 have dif:∀s t:Bool,aFl s t n m=some v→(s=true∧t=false∨s=false∧t=true)→v=.c true (bS ((sg s n+sg t m:Int):Rat)):=by
  intro s t h hst;unfold aFl at h;rw[aL]at h;split at h
  ·rename_i e;have e:=aH.1 e;rcases hst with⟨rfl,rfl⟩|⟨rfl,rfl⟩<;>exact iQ h (by simp only[sg];exact decide_eq_false (by simp;omega)) (by simp[sg];omega)
  ·rename_i e;have e:n≠m:=fun q=>e (aH.2 q);rw[aL]at h;split at h
   ·rename_i hb;have hb:=aQ.1 hb;have e1:Nat.sub m n=m-n:=rfl;rcases hst with⟨rfl,rfl⟩|⟨rfl,rfl⟩
    ·exact iQ h (decide_eq_false (by simp[sg];omega)) (by simp[sg];omega)
    ·exact iQ h (decide_eq_true (by simp[sg];omega)) (by simp[sg];omega)
   ·rename_i hb;have hb:¬n<m:=fun q=>hb (aQ.2 q);have e1:Nat.sub n m=n-m:=rfl;rcases hst with⟨rfl,rfl⟩|⟨rfl,rfl⟩
    ·exact iQ h (decide_eq_true (by simp[sg];omega)) (by simp[sg];omega)
    ·exact iQ h (decide_eq_false (by simp[sg];omega)) (by simp[sg];omega)
 have e1:Nat.add n m=n+m:=rfl;cases s<;>cases t
 ·exact iQ (show oG false (Nat.add n m)=some v from h) (decide_eq_false (by simp[sg];omega)) (by simp[sg];omega)
 ·exact dif false true h (.inr ⟨rfl,rfl⟩)
 ·exact dif true false h (.inl ⟨rfl,rfl⟩)
 ·have:=hs rfl;exact iQ (show oG true (Nat.add n m)=some v from h) (decide_eq_true (by simp[sg];omega)) (by simp[sg];omega)
theorem aD3{t:Bool}{m:Nat}(ht:t=true→m≠0):(aFm t m=true→m≠0)∧sg (aFm t m) m=-sg t m:=by
 cases t with
 |true=>exact⟨fun e=>(by cases e),(by show sg false m=-sg true m;simp[sg])⟩
 |false=>
  by_cases h:m=0
  ·subst h;exact⟨fun e=>(by cases e),rfl⟩
  ·have e:aFm false m=true:=by
     show cb (Nat.beq m 0) false true=true;rw[aL,if_neg (fun q=>h (aH.1 q))]
   exact⟨fun _=>h,by rw[e];simp[sg]⟩
theorem aLk{s t:Bool}{n m:Nat}{v:AV}(h:aI2 s n t m=some v):v=.c true (bS ((sg s n*sg t m:Int):Rat)):=by
 have hz:∀{s t:Bool},(sg s n*sg t m).natAbs=n*m:=fun {s t}=>by
  rw[Int.natAbs_mul];congr 1<;>(unfold sg;split<;>simp)
 unfold aI2 aJJ at h;rw[aL]at h;have e1:Nat.mul n m=n*m:=rfl;rw[e1]at h;split at h
 ·rename_i h0;have h0:=aH.1 h0;have h2:=hz (s:=s) (t:=t);rw[h0]at h2;have h3:sg s n*sg t m=0:=Int.natAbs_eq_zero.1 h2;rw[h3];exact iQ h rfl rfl
 ·rename_i h0;have h0:n*m≠0:=fun e=>h0 (aH.2 e);have hp:(0:Int)<(n:Int)*(m:Int):=by
   rw[←Int.natCast_mul];omega
  refine iQ h ?_ hz;cases s<;>cases t
  ·exact decide_eq_false (by show ¬((n:Int)*(m:Int)<0);omega)
  ·exact decide_eq_true (by show (n:Int)*-(m:Int)<0;rw[Int.mul_neg];omega)
  ·exact decide_eq_true (by show -(n:Int)*(m:Int)<0;rw[Int.neg_mul];omega)
  ·exact decide_eq_false (by show ¬(-(n:Int)*-(m:Int)<0);rw[Int.neg_mul_neg];omega)
theorem aNy(a b:Int):rc (a:Rat) (b:Rat)=if a<b then -1 else if b<a then 1 else 0:=by
 unfold rc;simp only[Rat.intCast_lt_intCast]
theorem aNz(a:Int):sn (a:Rat)=if a<0 then -1 else if a=0 then 0 else 1:=by
 unfold sn;have e1:((a:Rat)<0)↔a<0:=by rw[←Rat.intCast_zero,Rat.intCast_lt_intCast]
 have e2:((a:Rat)=0)↔a=0:=by rw[←Rat.intCast_zero,Rat.intCast_inj]
 simp only[e1,e2]
theorem aHg{n m:Nat}{v:AV}(h:zLt n m=some v):v=sc (.i .i64 (if n<m then -1 else if m<n then 1 else 0)):=by
 unfold zLt at h;rw[aL]at h;split at h
 ·rename_i e;have e:=aH.1 e;injection h with h;rw[←h,if_neg (by omega),if_neg (by omega)]
 ·rename_i e;have e:n≠m:=fun q=>e (aH.2 q);rw[aL]at h;split at h<;>rename_i hb<;>injection h with h<;>rw[←h]
  ·have hb:=aQ.1 hb;rw[if_pos hb];rfl
  ·have hb:¬n<m:=fun q=>hb (aQ.2 q);rw[if_neg hb,if_pos (by omega)]
theorem aLl{s t:Bool}{n m:Nat}{v:AV}(hs:s=true→n≠0)(ht:t=true→m≠0)(h:aNt s n t m=some v):some (sc (.i .i64 (rc ((sg s n:Int):Rat) ((sg t m:Int):Rat))))=some v:=by
 rw[aNy];cases s<;>cases t
 ·rw[aHg (show zLt n m=some v from h)];simp only[sg,Bool.false_eq_true,if_false,Int.ofNat_lt]
 ·have:=ht rfl;injection (show some (sc (.i .i64 1))=some v from h) with h;rw[←h,if_neg (by show ¬((n:Int)< -(m:Int));omega),if_pos (by show -(m:Int)<(n:Int);omega)]
 ·have:=hs rfl;injection (show some (sc (.i .i64 (.negSucc 0)))=some v from h) with h;rw[←h,if_pos (by show -(n:Int)<(m:Int);omega)];rfl
 ·rw[aHg (show zLt m n=some v from h)];have e1:(sg true n<sg true m)↔m<n:=(by show -(n:Int)< -(m:Int)↔m<n;omega);have e2:(sg true m<sg true n)↔n<m:=(by show -(m:Int)< -(n:Int)↔n<m;omega);simp only[e1,e2]
theorem aI7{s:Bool}{n:Nat}{v:AV}(hs:s=true→n≠0)(h:aJK s n=some v):some (sc (.i .i64 (sn ((sg s n:Int):Rat))))=some v:=by
 rw[aNz];cases s
 ·have h:cb (Nat.beq n 0) (some (sc (.i .i64 0))) (some (sc (.i .i64 1)))=some v:=h;rw[aL]at h;have e1:sg false n=(n:Int):=rfl;rw[e1,if_neg (by omega)];split at h<;>rename_i h0<;>injection h with h<;>rw[←h]
  ·rw[if_pos (by have:=aH.1 h0;omega)]
  ·have h0:n≠0:=fun e=>h0 (aH.2 e);rw[if_neg (by omega)]
 ·have:=hs rfl;injection (show some (sc (.i .i64 (.negSucc 0)))=some v from h) with h;rw[←h,if_pos (by simp[sg];omega)];rfl
theorem aAY{fn:Nat}{f:Bool→Nat→Bool→Nat→Option AV}{g:Rat→Rat→Option AV}(hg:iI fn (p2 g))(hf:∀s n t m v,(s=true→n≠0)→(t=true→m≠0)→f s n t m=some v→g ((sg s n:Int):Rat) ((sg t m:Int):Rat)=some v)
  (h:∀(x y:Value) (p q:Rat) (v:AV) (c:Cx),g p q=some v→Tb c.w→Px c.w→Nq c.w x p→Nq c.w y q→Ma.sz p≤2048→Ma.sz q≤2048→Calls Tryz.prog fn #[x,y] c.w fun e w'=>∃u,e=.returned u∧Q c.w w'∧VR ⟨c.n,c.k,c.r,w',c.z⟩ v u):iI fn (z2 f g):=by
 intro args v hx c vs hT hP hv
 match args,vs,hx,hv with
 | [x,y],[u,u2],hx,hv=>
   rcases aFo (show zz x (fun s n=>zz y (fun t m=>f s n t m) (p2 g [x,y])) (p2 g [x,y])=some v from hx) with⟨s,n,h1,h2,h3,h4⟩|h1
   ·rcases aFo h4 with⟨t,m,h5,h6,h7,h8⟩|h5
    ·subst h1;subst h5;exact h u u2 _ _ v c (hf s n t m v h3 h7 h8) hT hP (jC.1 hv.1) (jC.1 hv.2.1) h2 h6
    ·exact hg [x,y] v h5 c [u,u2] hT hP hv
   ·exact hg [x,y] v h1 c [u,u2] hT hP hv
theorem aOT{fn:Nat}{f:Bool→Nat→Option AV}{g:Rat→Option AV}(hg:iI fn (p1 g))(hf:∀s n v,(s=true→n≠0)→f s n=some v→g ((sg s n:Int):Rat)=some v)
  (h:∀(x:Value) (p:Rat) (v:AV) (c:Cx),g p=some v→Tb c.w→Px c.w→Nq c.w x p→Ma.sz p≤2048→Calls Tryz.prog fn #[x] c.w fun e w'=>∃u,e=.returned u∧Q c.w w'∧VR ⟨c.n,c.k,c.r,w',c.z⟩ v u):iI fn (z1 f g):=by
 intro args v hx c vs hT hP hv
 match args,vs,hx,hv with
 | [x],[u],hx,hv=>
   rcases aFo (show zz x f (p1 g [x])=some v from hx) with⟨s,n,h1,h2,h3,h4⟩|h1
   ·subst h1;exact h u _ v c (hf s n v h3 h4) hT hP (jC.1 hv.1) h2
   ·exact hg [x] v h1 c [u] hT hP hv
theorem aCE(q:Rat):enc q=some (.c true (bS q)):=by unfold enc;rw[zX]
theorem aI8:∀p∈aAW,iI p.1 p.2:=by
 unfold aAW;simp only[List.forall_mem_cons];have b1:(1099511627776:Nat)=LIM:=aC.symm;refine⟨pr1 fun x p v c hf hT hP hx hs=>fD hf (aIS x p c.w hx (by rw[aC];omega)),?_⟩;refine⟨pr1 fun x p v c hf hT hP hx hs=>fD hf (aNh x p c.w hx),?_⟩;refine⟨pr1 fun x p v c hf hT hP hx hs=>fD hf (aFa x p c.w hx),?_⟩;refine⟨aLi,?_⟩;refine⟨aDc,?_⟩;refine⟨pr2 fun x y p q v c hf hT hP hx hy hs ht=>fD hf (aIT x y p q c.w hx hy (by rw[aC];omega)),?_⟩;refine⟨pr2 fun x y p q v c hf hT hP hx hy hs ht=>fD hf (aG2 x y p q c.w hx hy (by rw[aC];omega)),?_⟩;refine⟨aNu,?_⟩;have kAdd:=fun (x y:Value) (p q:Rat) (v:AV) (c:Cx) (hf:enc (p+q)=some v) (hT:Tb c.w) (_:Px c.w) (hx:Nq c.w x p) (hy:Nq c.w y q) (_:Ma.sz p≤2048) (_:Ma.sz q≤2048)=>(fD hf (aOH x y p q c.w hT hx hy (by rw[aC];omega)))
 refine⟨aAY (pr2 kAdd) (fun s n t m v h1 h2 h3=>by rw[aCE,←Rat.intCast_add,aD2 h1 h2 h3]) kAdd,?_⟩;have kSub:=fun (x y:Value) (p q:Rat) (v:AV) (c:Cx) (hf:enc (p-q)=some v) (hT:Tb c.w) (_:Px c.w) (hx:Nq c.w x p) (hy:Nq c.w y q) (_:Ma.sz p≤2048) (_:Ma.sz q≤2048)=>(fD hf (aOI x y p q c.w hT hx hy (by rw[aC];omega)))
 refine⟨aAY (pr2 kSub) (fun s n t m v h1 h2 h3=>by rw[aCE,←Rat.intCast_sub,aD2 h1 (aD3 h2).1 h3,(aD3 h2).2,←Int.sub_eq_add_neg]) kSub,?_⟩;have kMul:=fun (x y:Value) (p q:Rat) (v:AV) (c:Cx) (hf:enc (p*q)=some v) (hT:Tb c.w) (_:Px c.w) (hx:Nq c.w x p) (hy:Nq c.w y q) (_:Ma.sz p≤2048) (_:Ma.sz q≤2048)=>(fD hf (aFe x y p q c.w hT hx hy (by rw[aC];omega)))
 refine⟨aAY (pr2 kMul) (fun s n t m v h1 h2 h3=>by rw[aCE,←Rat.intCast_mul,aLk h3]) kMul,?_⟩;refine⟨pr2 fun x y p q v c hf hT hP hx hy hs ht=>aAX hf (aON x y p q c.w hT hx hy (by rw[aC];omega)),?_⟩;refine⟨pr1 fun x p v c hf hT hP hx hs=>fD hf (aOK x p c.w hx (by rw[aC];omega)),?_⟩;refine⟨pr1 fun x p v c hf hT hP hx hs=>fD hf (aOL x p c.w hx (by rw[aC];omega)),?_⟩;refine⟨pr2 fun x y p q v c hf hT hP hx hy hs ht=>fD hf (aOJ x y p q c.w hx hy (by rw[aC];omega)),?_⟩;refine⟨pr1 fun x p v c hf hT hP hx hs=>fD hf (aLa x p c.w hT hx (by rw[aC];omega)),?_⟩;have kSign:=fun (x:Value) (p:Rat) (v:AV) (c:Cx) (hf:some (sc (.i .i64 (sn p)))=some v) (_:Tb c.w) (_:Px c.w) (hx:Nq c.w x p) (_:Ma.sz p≤2048)=>aCD hf (fun _=>rfl) (aNi x p c.w hx);refine⟨aOT (pr1 kSign) (fun s n v h1 h3=>aI7 h1 h3) kSign,?_⟩;have kCmp:=fun (x y:Value) (p q:Rat) (v:AV) (c:Cx) (hf:some (sc (.i .i64 (rc p q)))=some v) (_:Tb c.w) (_:Px c.w) (hx:Nq c.w x p) (hy:Nq c.w y q) (_:Ma.sz p≤2048) (_:Ma.sz q≤2048)=>aCD hf (fun _=>rfl) (aOM x y p q c.w hx hy (by rw[aC];omega));refine⟨aAY (pr2 kCmp) (fun s n t m v h1 h2 h3=>aLl h1 h2 h3) kCmp,?_⟩;refine⟨aNv,?_⟩;refine⟨aI5,?_⟩;refine⟨pr1 fun x p v c hf hT hP hx hs=>?_,?_⟩
 ·injection hf with hf;refine (aNl x p c.w hx (by omega)).mono ?_;rintro e w' ⟨t,h1,h2,h3⟩;subst hf;exact⟨_,h1,h3,aF.2 ⟨t,rfl,uO h2⟩⟩
 refine⟨aLj,?_⟩;refine⟨aNw,?_⟩;refine⟨aHf,?_⟩;refine⟨aI6,?_⟩;refine⟨pr1 fun x p v c hf hT hP hx hs=>aCD hf (fun _=>rfl) (aIV x p c.w hx (by rw[aC];omega)),?_⟩;refine⟨aHe,?_⟩;exact fun x hx=>by cases hx
theorem aOU(hng:∀(f:Nat) (G:Func),Tryz.prog.funcs[f]? =some G→(G.name == "runtime.NumGoroutine")=false):FOk F0:=by
 refine⟨hng,fun _ _ hq h=>⟨h.1.q hq,h.2.q hq⟩,fun fn g args v hg hx c vs hb hv=>?_,fun _ _ _ h=>(by cases h),fun _ _=>⟨fun h=>(by cases h),fun h=>(by cases h)⟩,fun _ _ _ _ _ h=>(by cases h),fun _ _ _ _ _ _ _ h=>(by cases h)⟩;exact aI8 _ (vQ (show (T.ofL aAW:T 3 _).get fn=some g from hg)) args v hx c vs hb.1 hb.2 hv
theorem f0:FOk F0:=aOU fun f G h=>by
 have:=aDJ aGH h;unfold ngB at this;simpa using this
theorem mixed:F0.P.follows .mixedOrders=true:=by decide+kernel
theorem aD4{F:Cf}(hF:FOk F)(hm:F.P.follows .mixedOrders=true){m fn:Nat}{v:AV}{h':H}(hx:aAI F m fn []=some (v,h'))(w:World)(hb:F.tb w):
  Calls F.P fn #[] w fun e w'=>∃u d,e=.returned u∧d.w=w'∧Q w w'∧VR d v u:=by
 have hx2:aU F (exec F m) fn [] ⟨.lf,0,0,.lf⟩=some (v,h'):=hx;obtain⟨-,hcr⟩:=fT (vs:=[]) hF (nX hF hm m) hx2 (aB4 F.P.cellsOf w) (fun _=>rfl) hb trivial;refine Calls.mono hcr ?_;rintro e w' ⟨u,d,h1,h2,h3,h4,h5⟩;exact⟨u,d,h1,h2,h2▸h4.q,h5⟩
theorem closed{m fn:Nat}{v:AV}{h':H}(hx:aAI F0 m fn []=some (v,h'))(w:World)(hT:Tb w)(hP:Px w):
  Calls Tryz.prog fn #[] w fun e w'=>∃u d,e=.returned u∧d.w=w'∧Q w w'∧VR d v u:=
 aD4 f0 mixed hx w ⟨hT,hP⟩
def okB(r:Option VH):Bool:=match r with|some (.c false [.b true],_)=>true|_=>false
def pl1(x:SV):Bool:=match x with
 | .b _=>true
 | .i _ _=>true
 | .s _=>true
 | .np=>true
 | .ns=>true
 | .m _=>true
 | .nf=>true
 |_=>false
def plL(l:List SV):Bool:=match l with| []=>true|x::l=>pl1 x && plL l
def plT(l:List (Bool × List SV)):Bool:=match l with| []=>true|p::l=>plL p.2 && plT l
def plA(v:AV):Bool:=match v with| .c _ l=>plL l| .t l=>plT l
section
variable {c d:Cx}
theorem aFp(hw:d.w=c.w){x:SV}{u:Value}(hp:pl1 x=true)(h:SR c x u):SR d x u:=by
 cases x with
 |m n=>show Nm d.w u n;rw[hw];exact h
 |b x=>exact h
 |i k n=>exact h
 |s l=>exact h
 |np=>exact h
 |ns=>exact h
 |nf=>exact h
 |_=>cases hp
theorem aFq(hw:d.w=c.w):∀{l:List SV} {r:List Value},plL l=true→CL c l r→CL d l r
 | [],[],_,_=>trivial
 |x::l,v::r,hp,h=>by
  obtain⟨h1,h2⟩:=(Bool.and_eq_true _ _).mp (show (pl1 x && plL l)=true from hp);exact⟨aFp hw h1 h.1,aFq hw h2 h.2⟩
theorem aJL(hw:d.w=c.w){g:Bool}{l:List SV}{v:Value}(hp:plL l=true)(h:VC c g l v):VC d g l v:=by
 cases g with
 |true=>obtain⟨cs,h1,h2⟩:=h;exact⟨cs,h1,aFq hw hp h2⟩
 |false=>
  obtain⟨x,h1,h2⟩:=h;subst h1;obtain⟨h3,-⟩:=(Bool.and_eq_true _ _).mp (show (pl1 x && plL [])=true from hp);exact⟨x,rfl,aFp hw h3 h2⟩
theorem aJM(hw:d.w=c.w):∀{l:List (Bool × List SV)} {r:List Value},plT l=true→TL c l r→TL d l r
 | [],[],_,_=>trivial
 |p::l,v::r,hp,h=>by
  obtain⟨h1,h2⟩:=(Bool.and_eq_true _ _).mp (show (plL p.2 && plT l)=true from hp);exact⟨aJL hw h1 h.1,aJM hw h2 h.2⟩
theorem aJN(hw:d.w=c.w){v:AV}{u:Value}(hp:plA v=true)(h:VR c v u):VR d v u:=by
 cases v with
 |c g l=>exact aJL hw hp h
 |t l=>obtain⟨vs,h1,h2⟩:=h;exact⟨vs,h1,aJM hw hp h2⟩
end
noncomputable def mkH (bs:List B):H:=⟨T.ofL ((List.range bs.length).zip bs),bs.length,bs.length,.lf⟩
theorem jQ{bs:List B}{id:Nat}{b:B}(h:(mkH bs).h.get id=some b):bs[id]? =some b:=by
 have h2:=vQ h;obtain⟨k,hk,h3⟩:=List.getElem_of_mem h2;rw[List.getElem_zip,List.getElem_range]at h3;injection h3 with h3 h4;subst h3;rw[List.getElem?_eq_getElem (by simp at hk;omega),h4]
theorem known{F:Cf}(hF:FOk F)(hm:F.P.follows .mixedOrders=true){m fn:Nat}{bs:List B}{args:List AV}{v:AV}{h':H}(hp:∀b∈bs,plL b.c=true)(hd:(bs.map B.ty).Nodup)(hv:plA v=true)(hx:aU F (exec F m) fn args (mkH bs)=some (v,h')){c:Cx}{wb:World}{h:H}{ρ:Nat→Nat}(R:Rl c wb h)(hz:∀t,c.z t=F.P.cellsOf t)(hb:F.tb c.w)(hg:∀i b,bs[i]? =some b→h.h.get (ρ i)=some b∧c.k (ρ i))
  {vs:List Value} (ha:VL ⟨bs.length,fun i=>i<bs.length,fun i=>c.r (ρ i),c.w,c.z⟩ args vs):
  Calls F.P fn vs.toArray c.w fun e w'=>∃u,e=.returned u∧Q c.w w'∧VR ⟨c.n,c.k,c.r,w',c.z⟩ v u:=by
 obtain⟨c0,h0⟩:∃c0:Cx,c0=⟨bs.length,fun i=>i<bs.length,fun i=>c.r (ρ i),c.w,c.z⟩:=⟨_,rfl⟩
 rw[←h0]at ha;have e1:c0.w=c.w:=by rw[h0]
 have e2:∀i,c0.r i=c.r (ρ i):=fun i=>by rw[h0]
 have e4:c0.z=c.z:=by rw[h0]
 have hlp:∀l p,(mkH bs).l.get l=some p→False:=fun l p hg=>by
  have:(T.lf:T 5 Lp).get l=some p:=hg;rw[T.get_lf]at this;cases this
 have hlt:∀{i b},bs[i]? =some b→i<bs.length:=fun h=>(List.getElem?_eq_some_iff.1 h).1;have R0:Rl c0 c.w (mkH bs):=by
  refine⟨by rw[h0];rfl,fun id q=>?_,by rw[e1];exact Q.refl _,fun id b hi=>?_,fun i j b d hi hj hb' hd' hij=>?_,fun id b hi _ hbar=>?_,fun l p hl=>(hlp l p hl).elim,fun i j p d hi=>(hlp i p hi).elim⟩
  ·rw[h0]at q⊢;exact q
  ·have hi:=jQ hi;obtain⟨h1,h2⟩:=hg id b hi;refine⟨hlt hi,fun hl=>?_⟩;obtain⟨row,tail,b1,b2,b3⟩:=(R.blk (ρ id) b h1).2 ⟨h2,hl.2⟩;exact⟨row,tail,by rw[e1,e2];exact b1,aFq e1 (hp b (List.mem_of_getElem? hi)) b2,b3⟩
  ·have hi:=jQ hi;have hj:=jQ hj;obtain⟨h1,h2⟩:=hg i b hi;obtain⟨h3,h4⟩:=hg j d hj;rw[e2,e2];refine R.inj _ _ b d h1 h3 ⟨h2,hb'.2⟩ ⟨h4,hd'.2⟩ fun e=>?_;rw[e,h3]at h1;injection h1 with h1;subst h1;have k1:(bs.map B.ty)[i]? =some d.ty:=(by rw[List.getElem?_map,hi];rfl);have k2:(bs.map B.ty)[j]? =some d.ty:=(by rw[List.getElem?_map,hj];rfl);obtain⟨k3,k4⟩:=List.getElem?_eq_some_iff.1 k1;obtain⟨k5,k6⟩:=List.getElem?_eq_some_iff.1 k2;exact hij ((List.getElem_inj hd).1 (k4.trans k6.symm))
  ·have h1:=hlt (jQ hi);have hbar:bs.length≤id:=hbar;omega
 obtain⟨-,hcr⟩:=fT hF (nX hF hm m) hx R0 (fun t=>by rw[e4];exact hz t) hb ha;have hcr:Calls F.P fn vs.toArray c.w fun e w'=>∃u d,e=.returned u∧d.w=w'∧Xt c0 d∧Rl d c.w h'∧VR d v u:=by
  rw[←e1];rw[←e1]at hcr;exact hcr
 refine hcr.mono ?_;rintro e w' ⟨u,d,q1,q2,q3,q4,q5⟩;exact⟨u,q1,q2▸q4.q,aJN (c:=d) (d:=⟨c.n,c.k,c.r,w',c.z⟩) q2.symm hv q5⟩
noncomputable def tpE (l:List (Bool × List SV)):List (Bool × List SV)→Bool:=List.rec (motive:=fun _=>List (Bool × List SV)→Bool) (fun m=>List.rec (motive:=fun _=>Bool) true (fun _ _ _=>false) m) (fun a _ r m=>List.rec (motive:=fun _=>Bool) false (fun b m _=>cb (cb a.1 b.1 (cO b.1)) (cb (svL a.2 b.2) (r m) false) false) m) l
noncomputable def avE (x y:AV):Bool:=match x,y with
 | .c g l,.c k m=>cb (cb g k (cO k)) (svL l m) false
 | .t l,.t m=>tpE l m
 |_,_=>false
theorem aHh:∀{l m:List (Bool × List SV)},tpE l m=true→l=m
 | [],[],_=>rfl
 | [],_::_,h=>by cases h
 |_::_,[],h=>by cases h
 |(g,x)::l,(k,y)::m,h=>by
  obtain⟨h1,h2⟩:=aO.1 (show cb (cb g k (cO k)) (cb (svL x y) (tpE l m) false) false=true from h);obtain⟨h3,h4⟩:=aO.1 h2;rw[vN h1,lZ h3,aHh h4]
theorem aHi{x y:AV}(h:avE x y=true):x=y:=by
 unfold avE at h;split at h
 ·obtain⟨h1,h2⟩:=aO.1 h;rw[vN h1,lZ h2]
 ·rw[aHh h]
 ·cases h
noncomputable def okW (v:AV) (r:Option VH):Bool:=Option.rec (motive:=fun _=>Bool) false (fun p=>avE p.1 v) r
theorem aOV{v:AV}{r:Option VH}(h:okW v r=true):∃h',r=some (v,h'):=by
 cases r with
 |none=>cases h
 |some p=>exact⟨p.2,by rw[←aHi (show avE p.1 v=true from h)]⟩
noncomputable section
def aFr(r:Nat→Nat)(x:SV):SV:=match x with
 | .p i o=>.p (r i) o
 | .sl i o n c=>.sl (r i) o n c
 |x=>x
def iV(r:Nat→Nat)(l:List SV):List SV:=List.rec (motive:=fun _=>List SV) [] (fun x _ l=>aFr r x::l) l
def aPB(r:Nat→Nat)(l:List (Bool × List SV)):List (Bool × List SV):=List.rec (motive:=fun _=>List (Bool × List SV)) [] (fun x _ l=>(x.1,iV r x.2)::l) l
def aPC(r:Nat→Nat)(v:AV):AV:=match v with| .c g l=>.c g (iV r l)| .t l=>.t (aPB r l)
def aI9(r:Nat→Nat)(l:List AV):List AV:=List.rec (motive:=fun _=>List AV) [] (fun x _ l=>aPC r x::l) l
def rf1(x:SV)(k:List Nat):List Nat:=match x with| .p i _=>i::k| .sl i _ _ _=>i::k|_=>k
def rfs(l:List SV)(k:List Nat):List Nat:=List.rec (motive:=fun _=>List Nat) k (fun x _ r=>rf1 x r) l
def rk1(n:Nat)(x:SV):Bool:=match x with| .p i _=>Nat.blt i n| .sl i _ _ _=>Nat.blt i n|x=>pl1 x
def rks(n:Nat)(l:List SV):Bool:=List.rec (motive:=fun _=>Bool) true (fun x _ r=>cb (rk1 n x) r false) l
def rkA(n:Nat)(v:AV):Bool:=match v with| .c _ l=>rks n l| .t _=>false
def rkV(n:Nat)(l:List AV):Bool:=List.rec (motive:=fun _=>Bool) true (fun x _ r=>cb (rkA n x) r false) l
def rfA(v:AV)(k:List Nat):List Nat:=match v with| .c _ l=>rfs l k| .t _=>k
def rfV(l:List AV):List Nat:=List.rec (motive:=fun _=>List Nat) [] (fun x _ r=>rfA x r) l
def uP(n:Nat)(l:List Nat):Bool:=List.rec (motive:=fun _=>Bool) false (fun x _ r=>cb (Nat.beq n x) true r) l
structure Kc where
 args:List AV
 bs:List B
 v:AV
def aJa(n:Nat):List B→Nat→List Nat→Bool:=fun l=>List.rec (motive:=fun _=>Nat→List Nat→Bool) (fun _ _=>true) (fun b _ r k s=>cb (uP k s) (cb (rks n b.c) (r (Nat.succ k) (rfs b.c s)) false) false) l
def okK(p:Kc):Bool:=cb (rkV (len p.bs) p.args) (aJa (len p.bs) p.bs 0 (rfV p.args)) false
def mt1(x y:SV)(t:T 3 Nat):T 3 Nat:=match x,y with| .p i _,.p a _=>t.set a i| .sl i _ _ _,.sl a _ _ _=>t.set a i|_,_=>t
def mtL(l:List SV):List SV→T 3 Nat→T 3 Nat:=List.rec (motive:=fun _=>List SV→T 3 Nat→T 3 Nat) (fun _ t=>t) (fun x _ r m t=>match m with| []=>t|y::m=>r m (mt1 x y t)) l
def mtA(v u:AV)(t:T 3 Nat):T 3 Nat:=match v,u with| .c _ l,.c _ m=>mtL l m t|_,_=>t
def mtV(l:List AV):List AV→T 3 Nat→T 3 Nat:=List.rec (motive:=fun _=>List AV→T 3 Nat→T 3 Nat) (fun _ t=>t) (fun x _ r m t=>match m with| []=>t|y::m=>r m (mtA x y t)) l
def mtB(h:H)(l:List B):Nat→T 3 Nat→T 3 Nat:=List.rec (motive:=fun _=>Nat→T 3 Nat→T 3 Nat) (fun _ t=>t) (fun b _ r k t=>r (Nat.succ k) (match t.get k with|some a=>(match h.h.get a with|some d=>mtL b.c d.c t|none=>t)|none=>t)) l
def rho(p:Kc)(h:H)(args:List AV):List Nat:=match mtB h p.bs 0 (mtV p.args args .lf) with
 |t=>List.rec (motive:=fun _=>Nat→List Nat) (fun _=>[]) (fun _ _ r k=>Option.rec (motive:=fun _=>List Nat) [] (fun a=>a::r (Nat.succ k)) (t.get k)) p.bs 0
def aJb(l:List Nat):Bool:=List.rec (motive:=fun _=>Bool) true (fun x l r=>cb (uP x l) false r) l
def ixN(l:List Nat)(i:Nat):Nat:=Option.rec (motive:=fun _=>Nat) 0 (fun x=>x) (drp i l).head?
def aJc(l:List AV):List AV→Bool:=List.rec (motive:=fun _=>List AV→Bool) (fun m=>List.rec (motive:=fun _=>Bool) true (fun _ _ _=>false) m) (fun a _ r m=>List.rec (motive:=fun _=>Bool) false (fun b m _=>cb (avE a b) (r m) false) m) l
def aFs(h:H)(id:Nat)(b:B):Bool:=isS (h.h.get id) fun x=>cb (Nat.beq x.ty b.ty) (svL x.c b.c) false
def bkK(h:H)(r:Nat→Nat)(l:List B):Nat→Bool:=List.rec (motive:=fun _=>Nat→Bool) (fun _=>true) (fun b _ q k=>cb (aFs h (r k) ⟨b.ty,iV r b.c⟩) (q (Nat.succ k)) false) l
def xC(p:Kc)(l:List Nat)(h:H)(args:List AV):Bool:=cb (Nat.beq (len l) (len p.bs)) (cb (aJb l) (cb (aJc args (aI9 (ixN l) p.args)) (bkK h (ixN l) p.bs 0) false) false) false
def gKs(l:List Kc)(h:H)(args:List AV):Option AV:=List.rec (motive:=fun _=>Option AV) none (fun p _ r=>cb (xC p (rho p h args) h args) (some p.v) r) l
end
theorem aD5{n:Nat}:∀{l:List Nat},uP n l=true→n∈l
 | [],h=>by cases h
 |x::l,h=>by
  have h:cb (Nat.beq n x) true (uP n l)=true:=h;rw[aL]at h;split at h
  ·rename_i h1;rw[aH.1 h1];exact List.mem_cons_self
  ·exact List.mem_cons_of_mem _ (aD5 h)
theorem aD6{n:Nat}:∀{l:List Nat},uP n l=false→n∉l
 | [],_=>List.not_mem_nil
 |x::l,h=>by
  have h:cb (Nat.beq n x) true (uP n l)=false:=h;rw[aL]at h;split at h
  ·cases h
  ·rename_i h1;intro hm;rcases List.mem_cons.1 hm with rfl|hm
   ·exact h1 (Nat.beq_refl n)
   ·exact aD6 h hm
theorem aD7:∀{l:List Nat},aJb l=true→l.Nodup
 | [],_=>List.nodup_nil
 |x::l,h=>by
  have h:cb (uP x l) false (aJb l)=true:=h;rw[aL]at h;split at h
  ·cases h
  ·rename_i h1;exact List.nodup_cons.2 ⟨aD6 (by simpa using h1),aD7 h⟩
theorem aD8:∀{l m:List AV},aJc l m=true→l=m
 | [],[],_=>rfl
 | [],_::_,h=>by cases h
 |_::_,[],h=>by cases h
 |x::l,y::m,h=>by
  obtain⟨h1,h2⟩:=aO.1 (show cb (avE x y) (aJc l m) false=true from h);rw[aHi h1,aD8 h2]
theorem aNA{h:H}{id:Nat}{b:B}(hx:aFs h id b=true):h.h.get id=some b:=by
 unfold aFs isS at hx;cases hg:h.h.get id with
 |none=>rw[hg]at hx;cases hx
 |some x=>
  rw[hg]at hx;obtain⟨h1,h2⟩:=aO.1 (show cb (Nat.beq x.ty b.ty) (svL x.c b.c) false=true from hx);obtain⟨t1,c1⟩:=x;obtain⟨t2,c2⟩:=b;have h1:t1=t2:=aH.1 h1;have h2:c1=c2:=lZ h2;rw[h1,h2]
theorem aHj{h:H}{r:Nat→Nat}:∀{l:List B} {k:Nat},bkK h r l k=true→∀i b,l[i]? =some b→h.h.get (r (k+i))=some ⟨b.ty,iV r b.c⟩
 | [],_,_,_,_,hi=>by simp at hi
 |x::l,k,hx,i,b,hi=>by
  obtain⟨h1,h2⟩:=aO.1 (show cb (aFs h (r k) ⟨x.ty,iV r x.c⟩) (bkK h r l (Nat.succ k)) false=true from hx);cases i with
  |zero=>simp at hi;subst hi;exact aNA h1
  |succ i=>
   have:=aHj h2 i b (by simpa using hi);rw[show k+(i+1)=Nat.succ k+i from by omega];exact this
theorem aHk{l:List Nat}{i:Nat}(hi:i<l.length):ixN l i=l[i]:=by
 unfold ixN;rw[gN,List.head?_drop,List.getElem?_eq_getElem hi]
section
variable {c:Cx} {r:Nat→Nat} {n:Nat}
theorem aD9{x:SV}{k:List Nat}{i:Nat}(h:i∈rf1 x k):(∃o,x=.p i o)∨(∃o m cp,x=.sl i o m cp)∨i∈k:=by
 unfold rf1 at h;split at h
 ·rcases List.mem_cons.1 h with rfl|h
  ·exact .inl ⟨_,rfl⟩
  ·exact .inr (.inr h)
 ·rcases List.mem_cons.1 h with rfl|h
  ·exact .inr (.inl ⟨_,_,_,rfl⟩)
  ·exact .inr (.inr h)
 ·exact .inr (.inr h)
theorem aCF:∀{l:List SV} {vs:List Value} {k:List Nat} {i:Nat},CL c (iV r l) vs→i∈rfs l k→i∈k∨c.k (r i)
 | [],[],_,_,_,h=>.inl h
 |x::l,v::vs,k,i,hc,h=>by
  rcases aD9 (show i∈rf1 x (rfs l k) from h) with⟨o,rfl⟩|⟨o,m,cp,rfl⟩|h
  ·exact .inr hc.1.1
  ·cases cp with
   |none=>exact .inr hc.1.1
   |some cp=>exact .inr hc.1.1
  ·exact aCF hc.2 h
theorem aHl:∀{l:List AV} {vs:List Value} {i:Nat},rkV n l=true→VL c (aI9 r l) vs→i∈rfV l→c.k (r i)
 | [],[],_,_,_,h=>by cases h
 |x::l,v::vs,i,hk,hc,h=>by
  obtain⟨k1,k2⟩:=aO.1 (show cb (rkA n x) (rkV n l) false=true from hk);cases x with
  |t l2=>cases k1
  |c g l2=>
   obtain⟨row,hrow⟩:∃row,CL c (iV r l2) row:=by
      have h1:VC c g (iV r l2) v:=hc.1;exact⟨_,cells_ok (show VR c (.c g (iV r l2)) v from h1)⟩
   rcases aCF hrow (show i∈rfs l2 (rfV l) from h) with h|h
   ·exact aHl k2 hc.2 h
   ·exact h
theorem aHm{d:Cx}(hw:d.w=c.w)(hz:d.z=c.z)(hk:∀i,i<n→d.k i∧d.r i=c.r (r i)){x:SV}{v:Value}(hp:rk1 n x=true)(h:SR c (aFr r x) v):SR d x v:=by
 cases x with
 |p i o=>
  obtain⟨k1,k2⟩:=hk i (aQ.1 hp);exact⟨k1,by rw[k2];exact h.2⟩
 |sl i o m cp=>
  obtain⟨k1,k2⟩:=hk i (aQ.1 hp);cases cp with
  |some cp=>exact⟨k1,by rw[k2];exact h.2⟩
  |none=>
   obtain⟨-,cap,o2,h2,h3,h4,t,cs,fr,h5,h6⟩:=h;exact⟨k1,cap,o2,h2,by rw[k2];exact h3,h4,t,cs,fr,by rw[k2,hw];exact h5,by rw[hz];exact h6⟩
 |_=>exact aFp hw hp h
theorem aCG{d:Cx}(hw:d.w=c.w)(hz:d.z=c.z)(hk:∀i,i<n→d.k i∧d.r i=c.r (r i)):∀{l:List SV} {vs:List Value},rks n l=true→CL c (iV r l) vs→CL d l vs
 | [],[],_,_=>trivial
 |x::l,v::vs,hp,h=>by
  obtain⟨h1,h2⟩:=aO.1 (show cb (rk1 n x) (rks n l) false=true from hp);exact⟨aHm hw hz hk h1 h.1,aCG hw hz hk h2 h.2⟩
theorem aHn{d:Cx}(hw:d.w=c.w)(hz:d.z=c.z)(hk:∀i,i<n→d.k i∧d.r i=c.r (r i)):∀{l:List AV} {vs:List Value},rkV n l=true→VL c (aI9 r l) vs→VL d l vs
 | [],[],_,_=>trivial
 |x::l,v::vs,hp,h=>by
  obtain⟨h1,h2⟩:=aO.1 (show cb (rkA n x) (rkV n l) false=true from hp);refine⟨?_,aHn hw hz hk h2 h.2⟩;cases x with
  |t l2=>cases h1
  |c g l2=>
   have h3:VC c g (iV r l2) v:=h.1;cases g with
   |true=>obtain⟨cs,e,h4⟩:=h3;exact⟨cs,e,aCG hw hz hk h1 h4⟩
   |false=>
    obtain⟨y,e,h4⟩:=h3
    match l2,e,h1 with
    | [z],e,h1=>
      injection e with e _;subst e;obtain⟨h5,-⟩:=aO.1 (show cb (rk1 n z) (rks n []) false=true from h1);exact⟨z,rfl,aHm hw hz hk h5 h4⟩
end
theorem aEa{n:Nat}:∀{l:List B} {k:Nat} {s:List Nat},aJa n l k s=true→∀i b,l[i]? =some b→rks n b.c=true∧(k+i∈s∨∃j d,j<i∧l[j]? =some d∧k+i∈rfs d.c [])
 | [],_,_,_,_,_,hi=>by simp at hi
 |x::l,k,s,h,i,b,hi=>by
  obtain⟨h1,h2⟩:=aO.1 (show cb (uP k s) (cb (rks n x.c) (aJa n l (Nat.succ k) (rfs x.c s)) false) false=true from h);obtain⟨h3,h4⟩:=aO.1 h2;cases i with
  |zero=>simp at hi;subst hi;exact⟨h3,.inl (aD5 h1)⟩
  |succ i=>
   obtain⟨h5,h6⟩:=aEa h4 i b (by simpa using hi);refine⟨h5,?_⟩;rw[show k+(i+1)=Nat.succ k+i from by omega];have split:∀{m:List SV} {y:Nat},y∈rfs m s→y∈s∨y∈rfs m []:=fun {m}=>by
      induction m with
      |nil=>intro y hy;exact .inl hy
      |cons z m ih=>
       intro y hy;rcases aD9 (show y∈rf1 z (rfs m s) from hy) with⟨o,rfl⟩|⟨o,m2,cp,rfl⟩|hy2
       ·exact .inr List.mem_cons_self
       ·exact .inr List.mem_cons_self
       ·clear hy;rcases ih hy2 with hy3|hy3
        ·exact .inl hy3
        ·refine .inr ?_;show y∈rf1 z (rfs m []);unfold rf1;split
         ·exact List.mem_cons_of_mem _ hy3
         ·exact List.mem_cons_of_mem _ hy3
         ·exact hy3
   rcases h6 with h6|⟨j,d,hj,hd,h6⟩
   ·rcases split h6 with h6|h6
    ·exact .inl h6
    ·exact .inr ⟨0,x,by omega,rfl,h6⟩
   ·exact .inr ⟨j+1,d,by omega,by simpa using hd,h6⟩
theorem aHo{F:Cf}(hF:FOk F)(hm:F.P.follows .mixedOrders=true){m fn:Nat}{p:Kc}{v:AV}{h':H}(hs:okK p=true)(hx:aU F (exec F m) fn p.args (mkH p.bs)=some (v,h')){h:H}{l:List Nat}{args:List AV}(hck:xC p l h args=true){c:Cx}{wb:World}(R:Rl c wb h)(hz:∀t,c.z t=F.P.cellsOf t)(hb:F.tb c.w){vs:List Value}(ha:VL c args vs):
  Calls F.P fn vs.toArray c.w fun e w'=>∃u d,e=.returned u∧d.w=w'∧Rl d c.w h'∧VR d v u:=by
 obtain⟨k1,hck⟩:=aO.1 hck;obtain⟨k2,hck⟩:=aO.1 hck;obtain⟨k3,k4⟩:=aO.1 hck;have k1:=aH.1 k1;rw[bH,bH]at k1;have k2:=aD7 k2;have k3:=aD8 k3;have k4:=aHj k4;obtain⟨ρ,hρ⟩:∃ρ,ρ=ixN l:=⟨_,rfl⟩
 rw[←hρ]at k3 k4;subst k3;have hblk:∀i b,p.bs[i]? =some b→h.h.get (ρ i)=some ⟨b.ty,iV ρ b.c⟩:=fun i b hi=>by
  have:=k4 i b hi
  rwa [Nat.zero_add]at this
 have hne:∀i j,i<p.bs.length→j<p.bs.length→i≠j→ρ i≠ρ j:=fun i j hi hj hij e=>by
  rw[hρ,aHk (by omega),aHk (by omega)]at e;exact hij ((List.getElem_inj k2).1 e)
 obtain⟨s1,s2⟩:=aO.1 hs;rw[bH]at s1 s2;have s3:=aEa s2;have hk:∀n i,i<n→i<p.bs.length→c.k (ρ i):=fun n=>by
  induction n with
  |zero=>intro i hi;omega
  |succ n ih=>
   intro i hi hl;obtain⟨-,h6⟩:=s3 i p.bs[i] (List.getElem?_eq_getElem hl);rw[Nat.zero_add]at h6;rcases h6 with h6|⟨j,d,hj,hd,h6⟩
   ·exact aHl s1 ha h6
   ·have hjl:=(List.getElem?_eq_some_iff.1 hd).1;have hkj:=ih j (by omega) hjl;have hdc:d.c≠[]:=fun e=>(by rw[e]at h6;cases h6);have hrc:iV ρ d.c≠[]:=by
      cases hdd:d.c with
      |nil=>exact absurd hdd hdc
      |cons x t=>intro e;cases e
    obtain⟨row,tail,-,hcl,-⟩:=(R.blk _ _ (hblk j d hd)).2 ⟨hkj,hrc⟩;rcases aCF hcl h6 with h7|h7
    ·cases h7
    ·exact h7
 have hk:∀i,i<p.bs.length→c.k (ρ i):=fun i hi=>hk (i+1) i (Nat.lt_succ_self i) hi;obtain⟨c0,h0⟩:∃c0:Cx,c0=⟨p.bs.length,fun i=>i<p.bs.length,fun i=>c.r (ρ i),c.w,c.z⟩:=⟨_,rfl⟩
 have e1:c0.w=c.w:=by rw[h0]
 have e2:∀i,c0.r i=c.r (ρ i):=fun i=>by rw[h0]
 have e4:c0.z=c.z:=by rw[h0]
 have e5:∀i,i<p.bs.length→c0.k i∧c0.r i=c.r (ρ i):=fun i hi=>by rw[h0];exact⟨hi,rfl⟩
 have hlp:∀l q,(mkH p.bs).l.get l=some q→False:=fun l q hg=>by
  have:(T.lf:T 5 Lp).get l=some q:=hg;rw[T.get_lf]at this;cases this
 have hlt:∀{i b},p.bs[i]? =some b→i<p.bs.length:=fun h=>(List.getElem?_eq_some_iff.1 h).1;have hrne:∀{b:B},b.c≠[]→iV ρ b.c≠[]:=fun {b} hb e=>by
  cases hdd:b.c with
  |nil=>exact hb hdd
  |cons x t=>rw[hdd]at e;cases e
 have R0:Rl c0 c.w (mkH p.bs):=by
  refine⟨by rw[h0];rfl,fun id q=>?_,by rw[e1];exact Q.refl _,fun id b hi=>?_,fun i j b d hi hj hb' hd' hij=>?_,fun id b hi _ hbar=>?_,fun l q hl=>(hlp l q hl).elim,fun i j q d hi=>(hlp i q hi).elim⟩
  ·rw[h0]at q⊢;exact q
  ·have hi:=jQ hi;refine⟨hlt hi,fun hl=>?_⟩;obtain⟨row,tail,b1,b2,b3⟩:=(R.blk (ρ id) _ (hblk id b hi)).2 ⟨hk id (hlt hi),hrne hl.2⟩;refine⟨row,tail,by rw[e1,e2];exact b1,aCG e1 e4 e5 (s3 id b hi).1 b2,fun hc=>b3 ?_⟩;have key:∀m:List SV,E.calm m=true→E.calm (iV ρ m)=true:=fun m=>by
    induction m with
    |nil=>intro _;rfl
    |cons x m ih=>
     intro h;obtain⟨h1,h2⟩:=aO.1 (show cb (uW x) (E.calm m) false=true from h);show cb (uW (aFr ρ x)) (E.calm (iV ρ m)) false=true;rw[ih h2];have:uW (aFr ρ x)=uW x:=by cases x<;>rfl
     rw[this,h1];rfl
   exact key _ hc
  ·have hi:=jQ hi;have hj:=jQ hj;rw[e2,e2];exact R.inj _ _ _ _ (hblk i b hi) (hblk j d hj) ⟨hk i (hlt hi),hrne hb'.2⟩ ⟨hk j (hlt hj),hrne hd'.2⟩ (hne i j (hlt hi) (hlt hj) hij)
  ·have h1:=hlt (jQ hi);have hbar:p.bs.length≤id:=hbar;omega
 have ha0:VL c0 p.args vs:=aHn e1 e4 e5 s1 ha;obtain⟨-,hcr⟩:=fT hF (nX hF hm m) hx R0 (fun t=>by rw[e4];exact hz t) (by first|exact hb|(rw[←e1]at hb;exact hb)) ha0;have hcr:Calls F.P fn vs.toArray c.w fun e w'=>∃u d,e=.returned u∧d.w=w'∧Xt c0 d∧Rl d c.w h'∧VR d v u:=by
  rw[←e1];rw[←e1]at hcr;exact hcr
 refine hcr.mono ?_;rintro e w' ⟨u,d,q1,q2,-,q4,q5⟩;exact⟨u,d,q1,q2,q4,q5⟩
theorem aNB{F:Cf}(hF:FOk F)(hm:F.P.follows .mixedOrders=true){m fn:Nat}{p:Kc}{h':H}(hs:okK p=true)(hv:plA p.v=true)(hx:aU F (exec F m) fn p.args (mkH p.bs)=some (p.v,h')){h:H}{l:List Nat}{args:List AV}(hck:xC p l h args=true){c:Cx}{wb:World}(R:Rl c wb h)(hz:∀t,c.z t=F.P.cellsOf t)(hb:F.tb c.w){vs:List Value}(ha:VL c args vs):
  Calls F.P fn vs.toArray c.w fun e w'=>∃u,e=.returned u∧Q c.w w'∧VR ⟨c.n,c.k,c.r,w',c.z⟩ p.v u:=by
 refine (aHo hF hm hs hx hck R hz hb ha).mono ?_;rintro e w' ⟨u,d,q1,q2,q4,q5⟩;exact⟨u,q1,q2▸q4.q,aJN (c:=d) (d:=⟨c.n,c.k,c.r,w',c.z⟩) q2.symm hv q5⟩
theorem aHp{F:Cf}(hF:FOk F)(hm:F.P.follows .mixedOrders=true){m fn:Nat}{L:List Kc}(hL:∀p∈L,okK p=true∧plA p.v=true∧okW p.v (aU F (exec F m) fn p.args (mkH p.bs))=true){h:H}{args:List AV}{v:AV}(hg:gKs L h args=some v){c:Cx}{wb:World}(R:Rl c wb h)(hz:∀t,c.z t=F.P.cellsOf t)(hb:F.tb c.w){vs:List Value}(ha:VL c args vs):
  Calls F.P fn vs.toArray c.w fun e w'=>∃u,e=.returned u∧Q c.w w'∧VR ⟨c.n,c.k,c.r,w',c.z⟩ v u:=by
 induction L with
 |nil=>cases hg
 |cons p L ih=>
  have hg:cb (xC p (rho p h args) h args) (some p.v) (gKs L h args)=some v:=hg;rw[aL]at hg;split at hg
  ·rename_i hck;injection hg with hg;subst hg;obtain⟨h1,h2,h3⟩:=hL p List.mem_cons_self;obtain⟨h',h4⟩:=aOV h3;exact aNB hF hm h1 h2 h4 hck R hz hb ha
  ·exact ih (fun q hq=>hL q (List.mem_cons_of_mem _ hq)) hg
noncomputable section
def rX(k:List Nat)(n:Nat):List Nat:=(List.range n).filter fun j=>!k.contains j
def ndE(h:H)(id:Nat)(q:Mi)(l:List (AV × AV))(k:AV→H→Bool)(j:Nat):Bool:=isS (drp j l).head? fun p=>isS (prt p.1) fun a=>isS (prt p.2) fun c=>k (.t [(false,[.b true]),a,c]) (h.putLp id (miL q.m (app q.k [j]) q.n (len l)))
def aFt(f:Nat→Bool)(l:List Nat):Bool:=List.rec (motive:=fun _=>Bool) true (fun x _ r=>cb (f x) r false) l
def ndF(h:H)(id:Nat)(q:Mi)(l:List (AV × AV))(k:AV→H→Bool)(f:List Nat):Bool:=List.rec (motive:=fun _=>Bool) (k (.t [(false,[.b false])]) h) (fun j r _=>aFt (ndE h id q l k) (j::r)) f
def ndN(e:Env)(h:H)(x:Operand)(k:AV→H→Bool):Bool:=isS (itM e h x fun id q l=>some (id,q,l)) fun p=>
 cb (Nat.ble h.bar p.1) (cb (Nat.beq p.2.1.n (len p.2.2)) (cb (Nat.ble (len p.2.1.k) p.2.1.s) (ndF h p.1 p.2.1 p.2.2 k (rX p.2.1.k (len p.2.2))) false) false) false
def aFu(o:Oper):Option (Operand × Nat):=match o.op,o.dst,o.guard with| .next x false,some d,none=>some (x,d)|_,_,_=>none
variable (F:Cf)
def ndD(nt:Nat)(call:bB)(ops:Array Oper)(e:Env)(h:H)(k:R→Bool):Bool:=isS (gM F nt call ops.toList ops.toList e h) k
def ndR(nt:Nat)(call:bB)(ops:Array Oper)(e:Env)(h:H)(k:R→Bool):Bool:=match ops.toList with
 |o::l=>Option.rec (motive:=fun _=>Bool) (ndD F nt call ops e h k) (fun p=>ndN e h p.1 fun v h=>isS (put nt e (some p.2) v fun e=>gM F nt call ops.toList l e h) k) (aFu o)
 | []=>ndD F nt call ops e h k
def toB(v:AV):Option Bool:=one v fun s=>match s with| .b x=>some x|_=>none
def nd(ex:bG)(nt fn:Nat)(m:Nat):Code→Env→H→(R→Bool)→Bool:=Nat.rec (motive:=fun _=>Code→Env→H→(R→Bool)→Bool) (fun _ _ _ _=>false) (fun _ nd c e h k=>match c with
 | .seq a b=>nd a e h fun r=>match r with|⟨.n,e,h⟩=>nd b e h k|r=>k r
 | .block id a=>nd a e h fun r=>match r with|⟨.x j,e,h⟩=>cb (Nat.beq id j) (k ⟨.n,e,h⟩) (k ⟨.x j,e,h⟩)|r=>k r
 | .loop a=>nd a e h fun r=>match r with|⟨.n,e,h⟩=>nd (.loop a) e h k|r=>k r
 | .scope a=>nd a e h k
 | .cond g a b=>isS (ob (ev e g) toB) fun x=>nd (cb x a b) e h k
 | .region _ ops false=>ndR F nt (aY F ex) ops e h k
 |c=>isS (ex false nt fn c e h) k) m
end
theorem gY{α:Type}{x:Option α}{f:α→Bool}(h:isS x f=true):∃y,x=some y∧f y=true:=by
 cases x with
 |none=>cases h
 |some y=>exact⟨y,rfl,h⟩
theorem aHq{f:Nat→Bool}:∀{l:List Nat},aFt f l=true→∀x∈l,f x=true
 | [],_,_,hx=>by cases hx
 |y::l,h,x,hx=>by
  obtain⟨h1,h2⟩:=cba.1 (show cb (f y) (aFt f l) false=true from h);rcases List.mem_cons.1 hx with rfl|hx
  ·exact h1
  ·exact aHq h2 x hx
theorem zY(P:Program)(n:Nat)(hn:0<n)(w:World):∃i w1,i<n∧(w1=w∨w1=w.drew)∧(choose (.mapNext n)).run P w=.ok i w1:=by
 by_cases h:n≤1
 ·refine⟨0,w,hn,.inl rfl,?_⟩;simp[choose,Sem.run,Question.forced,h]
 ·refine⟨w.tape w.drawn (.mapNext n) % n,w.drew,Nat.mod_lt _ hn,.inr rfl,?_⟩;have hf:(Question.mapNext n).forced=false:=(by simp[Question.forced,h]);unfold choose;rw[Sem.run,hf];rfl
theorem run_next_map{P:Program}{w:World}{g m st:Nat}{sn:List Nat}{es:Array MapEntry}(hg:w.heap[g]? =some (.mapIter (some m) es.size sn.toArray st))(hm:w.heap[m]? =some (.map es es.size))(hb:es.toList.map (·.born)=List.range es.size)(hst:sn.length≤st)(ty:TypeId):((∀j,j<es.size→j∈sn)∧(Instr.next (.pointer (some ⟨g,0,none⟩)) false ty).run P w=.ok (.tuple #[.bool false]) w)∨
  ∃j e w1,es[j]? =some e∧j∉sn∧(w1=w∨w1=w.drew)∧(Instr.next (.pointer (some ⟨g,0,none⟩)) false ty).run P w=.ok (.tuple #[.bool true,e.key,e.val]) (w1.putObj g (.mapIter (some m) es.size (sn++[j]).toArray es.size)):=by
 have hborn:∀(j:Nat) (e:MapEntry),es[j]? =some e→e.born=j:=fun j e he=>by
  have h1:(es.toList.map (·.born))[j]? =some e.born:=(by rw[List.getElem?_map,Array.getElem?_toList,he];rfl);rw[hb,List.getElem?_range (Array.getElem?_eq_some_iff.1 he).1]at h1;injection h1 with h1;exact h1.symm
 have hlt:∀e:MapEntry,e∈es→e.born<es.size:=fun e he=>by
  obtain⟨j,hj⟩:=Array.mem_iff_getElem?.1 he;rw[hborn j e hj];exact (Array.getElem?_eq_some_iff.1 hj).1
 obtain⟨left,hleft⟩:∃left:Array MapEntry,left=es.filter fun e=>!sn.toArray.contains e.born:=⟨_,rfl⟩
 have hmem:∀e:MapEntry,e∈left→e∈es∧e.born∉sn:=fun e he=>by
  rw[hleft,Array.mem_filter]at he;exact⟨he.1,by simpa using he.2⟩
 have hold:left.filter (fun e=>decide (e.born<es.size))=left:=Array.filter_eq_self.2 fun e he=>decide_eq_true (hlt e (hmem e he).1);have hnew:left.filter (fun e=>decide (e.born≥es.size))=#[]:=by
  rw[Array.filter_eq_empty_iff];intro e he;have:=hlt e (hmem e he).1;simp;omega
 have hguard:(!sn.toArray.isEmpty && !es.isEmpty && es.all fun e=>decide (e.born≥st))=false:=by
  cases hs:sn with
  |nil=>simp
  |cons x l=>
   have h1:0<st:=(by rw[hs]at hst;simp at hst;omega);cases he:es[0]? with
   |none=>
    have h2:es=#[]:=by
       have:=Array.getElem?_eq_none_iff.1 he;exact Array.eq_empty_of_size_eq_zero (by omega)
    simp[h2]
   |some e=>
    have h2:=hborn 0 e he;have h3:(es.all fun e=>decide (e.born≥st))=false:=by
       rw[Array.all_eq_false];obtain⟨h4,h5⟩:=Array.getElem?_eq_some_iff.1 he;exact⟨0,h4,by rw[h5];simp;omega⟩
    rw[h3];simp
 have hG:(getObj g).run P w=.ok (.mapIter (some m) es.size sn.toArray st) w:=jA hg;have hM:(getObj m).run P w=.ok (.map es es.size) w:=gm hm;by_cases hl:left=#[]
 ·refine .inl ⟨fun j hj=>?_,?_⟩
  ·by_cases hjs:j∈sn
   ·exact hjs
   ·exfalso;have h1:es[j]∈left:=by
     rw[hleft,Array.mem_filter];refine⟨Array.getElem_mem _,?_⟩;rw[hborn j es[j] (Array.getElem?_eq_getElem hj)];simpa using hjs
    rw[hl]at h1;cases h1;contradiction
  ·unfold Instr.next;simp only[Sem.run_bind,hG,hM,Result.andThen_ok,hguard,Bool.false_eq_true,if_false,←hleft,hl];simp[choose,Sem.run,Question.forced]
 ·have hsz:0<left.size:=by
   rcases Nat.eq_zero_or_pos left.size with h|h
   ·exact absurd (Array.eq_empty_of_size_eq_zero h) hl
   ·exact h
  obtain⟨i,w1,hi,hw1,hrun⟩:=zY P left.size hsz w;have he:left[i]? =some left[i]:=Array.getElem?_eq_getElem hi;obtain⟨h1,h2⟩:=hmem left[i] (Array.getElem_mem _);obtain⟨j,hj⟩:=Array.mem_iff_getElem?.1 h1;have hbj:=hborn j _ hj;refine .inr ⟨j,left[i],w1,hj,by rw[←hbj];exact h2,hw1,?_⟩;have hemp:left.isEmpty=false:=(by simpa using hl);have hg1:w1.heap[g]? =some (.mapIter (some m) es.size sn.toArray st):=by rcases hw1 with rfl|rfl<;>exact hg
  have hset:∀ob:Obj,(setObj g ob).run P w1=.ok () (w1.putObj g ob):=fun ob=>(by simp[setObj,Sem.run,hg1,World.putObj]);unfold Instr.next;simp only[Sem.run_bind,hG,hM,Result.andThen_ok,hguard,Bool.false_eq_true,if_false,←hleft,hold,hnew,hemp,Array.append_empty,Array.empty_append,Array.size_map,hrun,Array.getElem?_map,he,Option.map_some,hset,Sem.run_pure,hbj];simp
section
variable {F:Cf} {c:Cx} {wb:World} {h:H} {nt fn:Nat} {e:Env} {a:Act} {o:Oper} {ex:bG}
theorem aNC{x:Operand}{k:AV→H→Bool}(ho:o.op=.next x false)(hx:ndN e h x k=true)(hr:Rl c wb h)(ht:Tr c nt e a.tmps):∃v h',k v h'=true∧∃u w',OpR F.P a.eval o c.w u w'∧Po c wb h' v u w':=by
 obtain⟨y,h1,hx⟩:=gY hx;obtain⟨id,p,q,l,es,hid,hp,hv,g1,hm,k1,k6,k7,hy⟩:=aBS hr ht h1;injection hy with hy;subst hy;obtain⟨hbar,hx⟩:=cba.1 hx;obtain⟨hn,hx⟩:=cba.1 hx;obtain⟨hst,hx⟩:=cba.1 hx;have hn:q.n=len l:=aH.1 hn;have hst:len q.k≤q.s:=bA.1 hst;rw[bH]at hst;have hsz:es.size=len l:=by rw[bH,←k6.len,Array.length_toList]
 rw[hn,←hsz]at g1;have he:execOp a.eval o=(do pure (Next.value (←Instr.next (a.eval x) false o.type))):=by unfold execOp;rw[ho]
 have hfree:∀j,j∈rX q.k (len l)↔j<es.size∧j∉q.k:=fun j=>by
  unfold rX;rw[hsz];simp
 rcases run_next_map (P:=F.P) g1 k1 k7 hst o.type with⟨hall,hrun⟩|⟨j,en,w1,hj,hjk,hw1,hrun⟩
 ·have hf:rX q.k (len l)=[]:=by
   apply List.eq_nil_iff_forall_not_mem.2;intro j hj;obtain⟨m1,m2⟩:=(hfree j).1 hj;exact m2 (hall j m1)
  have hx:ndF h id q l k (rX q.k (len l))=true:=hx;rw[hf]at hx;rw[←hv]at hrun;exact⟨_,h,hx,_,c.w,OpR.vl he hrun,Po.same hr ⟨[.bool false],rfl,⟨_,rfl,rfl⟩,trivial⟩⟩
 ·have hjl:=(Array.getElem?_eq_some_iff.1 hj).1;have hjf:=(hfree j).2 ⟨hjl,hjk⟩;have hx:ndF h id q l k (rX q.k (len l))=true:=hx;have hk:ndE h id q l k j=true:=by
   cases hf:rX q.k (len l) with
   |nil=>rw[hf]at hjf;cases hjf
   |cons y r=>
    rw[hf]at hx hjf;exact aHq (show aFt (ndE h id q l k) (y::r)=true from hx) j hjf
  obtain⟨pe,q1,hk⟩:=gY hk;obtain⟨pa,q2,hk⟩:=gY hk;obtain⟨pc,q3,hk⟩:=gY hk;rw[gN,List.head?_drop]at q1;obtain⟨m2,hm2,hk1,hk2⟩:=k6.at_ q1;rw[Array.getElem?_toList,hj]at hm2;injection hm2 with hm2;subst hm2;rw[←hv]at hrun;rw[iY]at hk;have hfin:∀(c1:Cx),c1.w=w1→Xt c c1→Rl c1 wb h→c1.r=c.r→w1.heap=c.w.heap→∃u w',OpR F.P a.eval o c.w u w'∧Po c wb (h.putLp id (miL q.m (q.k++[j]) q.n (len l))) (.t [(false,[.b true]),pa,pc]) u w':=fun c1 e1 X1 R1 r1 hh=>by
   have g2:c1.w.heap[c1.r id]? =some (.mapIter (some (c.r q.m)) es.size q.k.toArray q.s):=(by rw[e1,hh,r1];exact g1);have X:Xt c1 (c1.obj (c1.r id) (.mapIter (some (c.r q.m)) es.size (q.k++[j]).toArray es.size)):=lX g2 (fun _ _ _ e=>(by cases e)) (fun _ e=>(by cases e));have L:LpR (c1.obj (c1.r id) (.mapIter (some (c.r q.m)) es.size (q.k++[j]).toArray es.size)) (miL q.m (q.k++[j]) q.n (len l)) (c1.r id):=by
    refine aEP (X.k _ (X1.k _ hm)) ?_;show (c1.w.putObj (c1.r id) (Obj.mapIter (some (c.r q.m)) es.size (q.k++[j]).toArray es.size)).heap[c1.r id]? =some (Obj.mapIter (some (c1.r q.m)) q.n (q.k++[j]).toArray (len l));rw[r1,hn,←hsz];rw[r1]at g2;exact World.putObj_heap_same (Array.getElem?_eq_some_iff.1 g2).1
   have R:=R1.loop hp (X1.k _ hid) (bA.1 hbar) g2 (fun _ _ _ e=>(by cases e)) (fun _ e=>(by cases e)) L;have hrun2:(Instr.next (a.eval x) false o.type).run F.P c.w=.ok (.tuple #[.bool true,en.key,en.val]) (c1.obj (c1.r id) (.mapIter (some (c.r q.m)) es.size (q.k++[j]).toArray es.size)).w:=by
    rw[hrun,←e1,←r1];rfl
   exact⟨_,_,OpR.vl he hrun2,_,rfl,X1.trans X,R,⟨[.bool true,en.key,en.val],rfl,⟨_,rfl,rfl⟩,((qL q2 hk1).xs X1.xs).xs X.xs,((qL q3 hk2).xs X1.xs).xs X.xs,trivial⟩⟩
  refine⟨_,_,hk,?_⟩;rcases hw1 with rfl|rfl
  ·exact hfin c rfl (Xt.refl c) hr rfl rfl
  ·exact hfin c.drew rfl nG hr.drew rfl rfl
def nL(F:Cf)(nt fn:Nat)(cd:Code)(e:Env)(h:H)(P:R→Prop):Prop:=
 ∀(c:Cx) (wb:World) (a:Act),Fr F c wb nt h e a→∀(b:Frame) (k:List Item) (cs:List Frame),b.fn=fn→b.roundOf=none→
  ∃r,P r∧∃a' d,Be F c wb nt b a r.h r.e a' d∧Arr F.P (lone (b.atR a (.code cd::k)) cs c.w) b k cs r.x a' d.w
def aEb(F:Cf)(nt fn:Nat)(cd:Code)(e:Env)(h:H)(P:R→Prop):Prop:=
 ∀(c:Cx) (wb:World) (a:Act),Fr F c wb nt h e a→∀(b:Frame) (k:List Item) (cs:List Frame),b.fn=fn→b.roundOf=none→
  ∃r,P r∧∃a' d,Be F c wb nt b a r.h r.e a' d∧Arr F.P (lone (b.atR a (.code cd::.inLoop cd::k)) cs c.w) b k cs r.x a' d.w
theorem aND{o:Oper}{x:Operand}{d:Nat}(h:aFu o=some (x,d)):o.op=.next x false∧o.dst=some d∧o.guard=none:=by
 unfold aFu at h;split at h
 ·rename_i h1 h2 h3;injection h with h;injection h with h4 h5;subst h4;subst h5;exact⟨h1,h2,h3⟩
 ·cases h
theorem aHr(hF:FOk F)(hex:fG F ex){id:Nat}{ops:Array Oper}{k:R→Bool}(hx:ndR F nt (aY F ex) ops e h k=true):nL F nt fn (.region id ops false) e h fun r=>k r=true:=by
 have hop:∀(j:Nat) (o:Oper) (e:Env) (h:H) (v:AV) (h':H),ops[j]? =some o→op1 F (aY F ex) o.op e h=some (v,h')→kE F nt ops j o e h v h':=fun j o e h v h' ho hx=>aBU hF hex (aBZ hex) ho hx;have det:ndD F nt (aY F ex) ops e h k=true→nL F nt fn (.region id ops false) e h fun r=>k r=true:=fun hx=>by
  obtain⟨r,h1,h2⟩:=gY hx;intro c wb a f b kk cs hb hq;exact⟨r,h2,aBQ (q:=false) (fn:=fn) (id:=id) hop h1 c wb a f b kk cs hb fun _=>hq⟩
 unfold ndR at hx;split at hx
 ·rename_i o l hl;cases hn:aFu o with
  |none=>rw[hn]at hx;exact det hx
  |some p=>
   obtain⟨x,d⟩:=p;rw[hn]at hx;have hx:ndN e h x (fun v h=>isS (put nt e (some d) v fun e=>gM F nt (aY F ex) ops.toList l e h) k)=true:=hx;obtain⟨ho,hd,hg⟩:=aND hn;have ho0:ops[0]? =some o:=(by rw[←Array.getElem?_toList,hl];rfl);have hdrop:ops.toList.drop 1=l:=(by rw[hl];rfl);intro c wb a f b kk cs hb hq;obtain⟨v,h',hk,u,w',hrun,dd,rfl,X,R,V⟩:=aNC (F:=F) (a:=a) ho hx f.r f.t;obtain⟨r,h1,h2⟩:=gY hk;obtain⟨e2,h6,h7⟩:=aBP h1;obtain⟨h8,h9⟩:=yB hop (j:=1) hdrop h6;have f2:Fr F dd wb nt h' e2 (a.put o.dst u):=⟨R,fun t=>by rw[X.z];exact f.z t,by rw[hd];exact h7 dd a u (f.t.xt X) V,f.b⟩
   obtain⟨a',d2,B,S2⟩:=h9 dd wb (a.put o.dst u) f2 b kk cs;have hw:Region.wanted o (yielded ops a.tmps)=true:=(by unfold Region.wanted;rw[hg]);have S1:=aBN (b:=b) (k:=kk) (cs:=cs) (rest:=List.range' 1 l.length) ho0 hw (fun c hc=>by rw[ho]at hc;cases hc) hrun;have B1:Be F c wb nt b a h' e2 (a.put o.dst u) dd:=⟨X,f2,[],by rw[hd];rfl,trivial,fun _=>rfl⟩
   refine⟨r,h2,a',d2,B1.trans B,?_⟩;rw[h8];refine .head stepR_region ?_;have hsz:List.range ops.size=0::List.range' 1 l.length:=by
     rw[←Array.length_toList,hl,List.length_cons,List.range_eq_range',List.range'_succ]
   rw[hsz];exact .head S1 S2
 ·exact det hx
theorem pF(hF:FOk F)(hex:fG F ex):∀(m:Nat) (c:Code) (e:Env) (h:H) (k:R→Bool),nd F ex nt fn m c e h k=true→nL F nt fn c e h (fun r=>k r=true)∧∀x,c=.loop x→aEb F nt fn x e h fun r=>k r=true
 |0,_,_,_,_,hx=>by cases hx
 |m+1,cd,e,h,k,hx=>by
  have det:(isS (ex false nt fn cd e h) k=true)→nL F nt fn cd e h fun r=>k r=true:=fun hx=>by
    obtain⟨r,h1,h2⟩:=gY hx;intro c wb a f b kk cs hb hq;exact⟨r,h2,hex _ _ _ _ _ _ _ h1 c wb a f b kk cs hb fun _=>hq⟩
  cases cd with
  |seq x y=>
   have ih:=(pF hF hex m x e h _ hx).1;refine⟨fun c wb a f b kk cs hb hq=>?_,fun _ e=>(by cases e)⟩;obtain⟨r1,hP,a1,d1,B1,A1⟩:=ih c wb a f b (.code y::kk) cs hb hq;obtain⟨x1,e1,g1⟩:=r1;cases x1 with
   |n=>
    obtain⟨r2,hP2,a2,d2,B2,A2⟩:=(pF hF hex m y e1 g1 k hP).1 d1 wb a1 B1.f b kk cs hb hq;exact⟨r2,hP2,a2,d2,B1.trans B2,.of_steps (.head stepR_seq A1) A2⟩
   |x id=>
    obtain⟨k1,q1,q2⟩:=A1;exact⟨_,hP,a1,d1,B1,k1,q1.trans (exitTo_plain rfl id kk),.head stepR_seq q2⟩
   |r=>
    obtain⟨k1,q2⟩:=A1;exact⟨_,hP,a1,d1,B1,k1,.head stepR_seq q2⟩
  |block id x=>
   have ih:=(pF hF hex m x e h _ hx).1;refine⟨fun c wb a f b kk cs hb hq=>?_,fun _ e=>(by cases e)⟩;obtain⟨r1,hP,a1,d1,B1,A1⟩:=ih c wb a f b (.inBlock id::kk) cs hb hq;obtain⟨x1,e1,g1⟩:=r1;cases x1 with
   |n=>exact⟨_,hP,a1,d1,B1,.head stepR_block (Steps.trans A1 (.one stepR_inBlock))⟩
   |x j=>
    obtain⟨k1,q1,q2⟩:=A1;have hQ:cb (Nat.beq id j) (k ⟨.n,e1,g1⟩) (k ⟨.x j,e1,g1⟩)=true:=hP;clear hP;rw[aL]at hQ;split at hQ<;>rename_i hj
    ·have hj:=aH.1 hj;subst hj;refine⟨_,hQ,a1,d1,B1,.head stepR_block (Steps.trans q2 (.one (stepR_exit (q1.trans ?_))))⟩;simp[exitTo]
    ·refine⟨_,hQ,a1,d1,B1,k1,q1.trans ?_,.head stepR_block q2⟩;have:(id == j)=false:=by
         have:=fun e=>hj (aH.2 e);simpa using this
     simp[exitTo,this]
   |r=>
    obtain⟨k1,q2⟩:=A1;exact⟨_,hP,a1,d1,B1,k1,.head stepR_block q2⟩
  |loop x=>
   have ih:=(pF hF hex m x e h _ hx).1;have hL:aEb F nt fn x e h fun r=>k r=true:=fun c wb a f b kk cs hb hq=>by
      obtain⟨r1,hP,a1,d1,B1,A1⟩:=ih c wb a f b (.inLoop x::kk) cs hb hq;obtain⟨x1,e1,g1⟩:=r1;cases x1 with
      |n=>
       obtain⟨r2,hP2,a2,d2,B2,A2⟩:=(pF hF hex m (.loop x) e1 g1 k hP).2 x rfl d1 wb a1 B1.f b kk cs hb hq;exact⟨r2,hP2,a2,d2,B1.trans B2,.of_steps (Steps.trans A1 (.one stepR_inLoop)) A2⟩
      |x id=>
       obtain⟨k1,q1,q2⟩:=A1;exact⟨_,hP,a1,d1,B1,k1,q1.trans (exitTo_plain rfl id kk),q2⟩
      |r=>
       obtain⟨k1,q2⟩:=A1;exact⟨_,hP,a1,d1,B1,k1,q2⟩
   refine⟨fun c wb a f b kk cs hb hq=>?_,fun y e=>by injection e with e;subst e;exact hL⟩;obtain⟨r,hP,a1,d1,B1,A1⟩:=hL c wb a f b kk cs hb hq;exact⟨r,hP,a1,d1,B1,.of_steps (.one stepR_loop) A1⟩
  |scope x=>
   have ih:=(pF hF hex m x e h _ hx).1;refine⟨fun c wb a f b kk cs hb hq=>?_,fun _ e=>(by cases e)⟩;obtain⟨r1,hP,a1,d1,B1,A1⟩:=ih c wb a f b (.inScope x::kk) cs hb hq;refine⟨r1,hP,a1,d1,B1,?_⟩;obtain⟨x1,e1,g1⟩:=r1;cases x1 with
   |n=>exact .head gU (Steps.trans A1 (.one sI))
   |x j=>
    obtain⟨k1,q1,q2⟩:=A1;exact⟨k1,q1.trans (by simp[exitTo]),.head gU q2⟩
   |r=>
    obtain⟨k1,q2⟩:=A1;exact⟨k1,.head gU q2⟩
  |cond g x y=>
   obtain⟨t,h1,hx⟩:=gY (show isS (ob (ev e g) toB) (fun t=>nd F ex nt fn m (cb t x y) e h k)=true from hx);obtain⟨v,h2,h3⟩:=aA.1 h1;obtain⟨s,rfl,h4⟩:=aI.1 h3;have ih:=(pF hF hex m (cb t x y) e h _ hx).1;refine⟨fun c wb a f b kk cs hb hq=>?_,fun _ e=>(by cases e)⟩;have hg:a.eval g=.bool t:=by
      have h5:=aF.1 (aS f.t h2);split at h4
      ·injection h4 with h4;subst h4;exact h5
      ·cases h4
   obtain⟨r1,hP,a1,d1,B1,A1⟩:=ih c wb a f b kk cs hb hq;refine⟨r1,hP,a1,d1,B1,.of_steps (.one (stepR_cond hg)) ?_⟩;rw[aL]at A1;exact A1
  |region id ops dr=>
   cases dr with
   |false=>exact⟨aHr hF hex hx,fun _ e=>(by cases e)⟩
   |true=>exact⟨det hx,fun _ e=>(by cases e)⟩
  |_=>exact⟨det hx,fun _ e=>(by cases e)⟩
end
section
variable {F:Cf} {c:Cx} {wb:World} {h h':H} {nt fn:Nat} {e:Env} {a:Act} {ex:bG}
theorem aJd{G:Func}{cd:Code}{args:List AV}{vs:List Value}{e0:Env}{P:AV→H→Prop}(hG:F.P.funcs[fn]? =some G)(hB:G.body=some cd)(h1:jX G.ntmps args 0 (fill G.ntmps 0 .lf)=some e0)
  (hA:nL F G.ntmps fn cd e0 h fun r=>∃v h',leave F G r=some (v,h')∧P v h') (hr:Rl c wb h) (hz:∀t,c.z t=F.P.cellsOf t) (hb0:F.tb wb) (ha:VL c args vs):
  Calls F.P fn vs.toArray c.w fun e w'=>∃v h' u d,P v h'∧e=.returned u∧d.w=w'∧Xt c d∧Rl d wb h'∧VR d v u:=by
 intro cs;obtain⟨b,hb⟩:∃b:Frame,b={fn:=fn,tmps:=#[],todo:=[],defers:=[],mode:=.run,kind:=.normal}:=⟨_,rfl⟩
 have hb1:b.fn=fn:=by rw[hb]
 have hb2:b.roundOf=none:=by rw[hb]
 have hb3:b.kind=.normal:=by rw[hb]
 obtain⟨a0,ha0⟩:∃a0:Act,a0={tmps:=vs.toArray++Array.replicate (G.ntmps-vs.toArray.size) undef,defers:=[]}:=⟨_,rfl⟩
 have henter:Frame.enter F.P fn vs.toArray .normal=b.atR a0 [.code cd]:=by
  rw[hb,ha0];simp[Frame.enter,Frame.atR,hG,hB]
 have hf:Fr F c wb G.ntmps h e0 a0:=⟨hr,hz,by rw[ha0];exact aBL h1 ha,hb0⟩
 obtain⟨r,⟨v,h',h4,hP⟩,a1,d1,B1,A1⟩:=hA c wb a0 hf b [] cs hb1 hb2;obtain⟨ms,hm1,hm2,-⟩:=B1.m;rw[ha0,List.append_nil]at hm1;have key:∀(ps:List (Bool × List SV)),res F r.e r.h G.results.toList=some ps→v=tup ps→h'=r.h→(∃todo,Steps F.P (lone (b.atR a0 [.code cd]) cs c.w) (lone {b.atR a1 todo with mode:=.returning} cs d1.w))→∃e w' fr,(∃v h' u d,P v h'∧e=.returned u∧d.w=w'∧Xt c d∧Rl d wb h'∧VR d v u)∧Comes F.P (lone (Frame.enter F.P fn vs.toArray .normal) cs c.w) (lone fr cs w') e∧fr.fn=fn∧fr.leaving F.P w' e:=by
  rintro ps hps rfl rfl ⟨todo,hs⟩;obtain⟨d2,q1,q2,q3,q4,q5,q7,q6⟩:=takes (P:=F.P) (w0:=c.w) (fr:={b.atR a1 todo with mode:=.returning}) (cs:=cs) B1.f.r rfl (show a1.defers=ms from hm1) hm2 hr.size (Q.refl _);have ht2:Tr d2 G.ntmps r.e a1.tmps:=B1.f.t.xs q1;obtain⟨u,k1,k2⟩:=yA q2 ht2 hps
  have X:Xt c d2:=⟨by rw[q5];exact B1.x.n,fun id hi=>q1.k id (B1.x.k id hi),fun id hi=>B1.x.o id (by rw[←q7];exact hi),fun id hi=>(q1.r id (B1.x.k id hi)).trans (B1.x.r id hi),
   ⟨fun v N hv=>q1.m v N (B1.x.p.m v N hv),fun v N hv=>q1.mr v N (B1.x.p.mr v N hv),fun g t cs fr hg=>(by
    obtain⟨cs1,m1,m2⟩:=B1.x.p.s g t cs fr hg;obtain⟨cs2,m3,m4⟩:=q1.s g t cs1 fr m1;exact⟨cs2,m3,m4.trans m2⟩),by rw[q3];exact B1.x.p.n,fun g hg=>(q4 g (Array.getElem?_eq_some_iff.1 hg).1).trans (B1.x.p.d g hg)⟩,q1.z.trans B1.x.z⟩
  refine⟨.returned u,d2.w,{({b.atR a1 todo with mode:=.returning}:Frame) with defers:=[]},⟨_,_,u,d2,hP,rfl,rfl,X,q2,k2⟩,?_,?_,?_⟩
  rotate_left
  rotate_left
  ·exact⟨rfl,rfl,hb3,G,by show F.P.funcs[b.fn]? =some G;rw[hb1];exact hG,k1⟩
  ·rw[henter];exact hs.trans q6
  ·exact hb1
 unfold leave at h4;obtain⟨x,e1,g1⟩:=r;cases x with
 |x id=>cases h4
 |n=>
  obtain⟨ps,h5,h6⟩:=aA.1 h4;injection h6 with h6;injection h6 with h6 h7;exact key ps h5 h6.symm h7.symm ⟨[],Steps.trans A1 (.one (stepR_end hb2))⟩
 |r=>
  obtain⟨ps,h5,h6⟩:=aA.1 h4;injection h6 with h6;injection h6 with h6 h7;obtain⟨k1,hs⟩:=A1;exact key ps h5 h6.symm h7.symm ⟨_,Steps.trans hs (.one (stepR_ret hb2))⟩
theorem Rl.own(hr:Rl c wb h):Rl c c.w h.lift:=
 ⟨hr.n,hr.k,Q.refl _,hr.blk,hr.inj,fun id b hg hl hb=>absurd (hr.k id hl.1) (by have hb:h.n≤id:=hb;have:=hr.n;omega),
  fun l p hl=>⟨(hr.lp l p hl).1,fun hk=>⟨((hr.lp l p hl).2 hk).1,fun hb=>absurd (hr.k l hk) (by have hb:h.n≤l:=hb;have:=hr.n;omega)⟩⟩,hr.li⟩
theorem Rl.left(hr:Rl c wb h){w':World}(hq:Q c.w w'){b:B}{g:Nat}(hg:c.w.heap.size≤g){d:Cx}(hd:d.w=w')(hb:Bl d b g)(hp:plS b.c=true):
  ∃d2,d2.w=w'∧Xt c d2∧Rl d2 wb ⟨h.h.set b h.n,Nat.succ h.n,h.bar,h.l⟩∧d2.k h.n∧d2.r h.n=g:=by
 obtain⟨X1,R1⟩:=hr.q' hq;have hn:=hr.n
 let d2:Cx:=⟨c.n+1,fun i=>c.k i∨i=c.n,fun i=>if i=c.n then g else c.r i,w',c.z⟩
 have hdr:d2.r c.n=g:=if_pos rfl;have hold:∀i,i<c.n→d2.r i=c.r i:=fun i hi=>if_neg (by omega);have X:Xt ⟨c.n,c.k,c.r,w',c.z⟩ d2:=⟨Nat.le_succ _,fun i hi=>.inl hi,fun i hi=>hi.elim .inl fun q=>.inr (by show c.n≤i;omega),fun i hi=>hold i (hr.k i hi),Ps.refl _,rfl⟩
 have kk:∀{i},i<h.n→d2.k i→c.k i:=fun hi q=>q.elim (fun q=>q) fun q=>by omega
 have lv:∀{i b'},i<h.n→Lv d2 i b'→Lv ⟨c.n,c.k,c.r,w',c.z⟩ i b':=fun hi q=>⟨kk hi q.1,q.2⟩
 have hnew:Bl d2 b (d2.r h.n):=by
  rw[←hn,hdr];obtain⟨row,tail,m1,m2,m3⟩:=hb;exact⟨row,tail,by rw[hd]at m1;exact m1,aEV (d:=d) (d2:=d2) hd.symm hp m2,m3⟩
 have key:∀i b',(T.set b h.h h.n).get i=some b'→(i=h.n∧b'=b)∨(i<h.n∧h.h.get i=some b'):=fun i b' hi=>by
  rcases T.get_set hi with⟨h1,h2⟩|⟨h1,h2⟩
  ·exact .inl ⟨h1,h2⟩
  ·exact .inr ⟨(hr.blk i b' h2).1,h2⟩
 have low:∀{i b'},i<h.n→h.h.get i=some b'→Lv d2 i b'→c.r i<c.w.heap.size:=fun hi hg hl=>((hr.blk _ _ hg).2 ⟨kk hi hl.1,hl.2⟩).lt;refine⟨d2,rfl,X1.trans X,⟨by show c.n+1=h.n+1;rw[hn],fun i q=>by show i<c.n+1;exact q.elim (fun q=>Nat.lt_succ_of_lt (hr.k i q)) fun q=>by omega,R1.q,fun i b' hi=>?_,fun i j b' d hi hj hb' hd' hij=>?_,fun i b' hi hl hba=>?_,fun l p hl=>?_,fun i j p d hi hj ki kj hij=>?_⟩,by rw[←hn];exact .inr rfl,by rw[←hn];exact hdr⟩
 ·rcases key i b' hi with⟨rfl,rfl⟩|⟨h1,h2⟩
  ·exact⟨Nat.lt_succ_self _,fun _=>hnew⟩
  ·refine⟨Nat.lt_succ_of_lt h1,fun hl=>?_⟩;rw[hold _ (by omega)];exact ((R1.blk i b' h2).2 (lv h1 hl)).xt X rfl
 ·rcases key i b' hi with⟨rfl,rfl⟩|⟨h1,h2⟩
  ·rcases key j d hj with⟨rfl,rfl⟩|⟨h3,h4⟩
   ·exact absurd rfl hij
   ·have:=low h3 h4 hd';rw[←hn,hdr,hold _ (by omega)];omega
  ·rcases key j d hj with⟨rfl,rfl⟩|⟨h3,h4⟩
   ·have:=low h1 h2 hb';rw[←hn,hdr,hold _ (by omega)];omega
   ·rw[hold _ (by omega),hold _ (by omega)];exact R1.inj i j b' d h2 h4 (lv h1 hb') (lv h3 hd') hij
 ·rcases key i b' hi with⟨rfl,rfl⟩|⟨h1,h2⟩
  ·rw[←hn,hdr];exact Nat.le_trans hr.size hg
  ·rw[hold _ (by omega)];exact R1.new i b' h2 (lv h1 hl) hba
 ·obtain⟨h1,h23⟩:=R1.lp l p hl;rw[hold _ (by omega)];exact⟨Nat.lt_succ_of_lt h1,fun q=>let ⟨h2,h3⟩:=h23 (kk h1 q);⟨h2.xt X rfl,h3⟩⟩
 ·rw[hold _ (by have:=(hr.lp i p hi).1;omega),hold _ (by have:=(hr.lp j d hj).1;omega)];exact R1.li i j p d hi hj (kk (hr.lp i p hi).1 ki) (kk (hr.lp j d hj).1 kj) hij
end
noncomputable section
def asS(n m:Nat)(s:SV):Option Nat:=match s with| .sl k 0 n' (some m')=>cb (Nat.beq n n') (cb (Nat.beq m m') (some k) none) none|_=>none
theorem aHs{n m k:Nat}{s:SV}(h:asS n m s=some k):s=.sl k 0 n (some m):=by
 unfold asS at h;split at h
 ·obtain⟨h1,h⟩:=aB.1 h;obtain⟨h2,h⟩:=aB.1 h;injection h with h;rw[h,aH.1 h1,aH.1 h2]
 ·cases h
def aOW(F:Cf)(G:Func)(n0:Nat)(b:B)(n m:Nat)(r:R):Bool:=isS (leave F G r) fun p=>isS (one p.1 (asS n m)) fun k=>
 cb (Nat.ble n0 k) (cb (Nat.beq p.2.bar n0) (isS (p.2.h.get k) fun d=>cb (Nat.beq d.ty b.ty) (svL d.c b.c) false) false) false
def qW(b:B):Bool:=match b.c with| []=>false|_=>true
def aJe(F:Cf)(M m fn:Nat)(exp:H→List AV→Option (B × Nat × Nat))(h:H)(args:List AV):Option (B × Nat × Nat):=
 ob (exp h args) fun p=>ob (F.P.funcs[fn]?) fun G=>ob G.body fun cd=>ob (jX G.ntmps args 0 (fill G.ntmps 0 .lf)) fun e0=>
  cb (qW p.1) (cb (plS p.1.c) (cb (nd F (exec F M) G.ntmps fn m cd e0 h.lift (aOW F G h.n p.1 p.2.1 p.2.2)) (some p) none) none) none
end
theorem aLm{F:Cf}(hF:FOk F)(hm:F.P.follows .mixedOrders=true){M m fn:Nat}{exp:H→List AV→Option (B × Nat × Nat)}{h:H}{args:List AV}{b:B}{n mm:Nat}(hx:aJe F M m fn exp h args=some (b,n,mm)){c:Cx}{wb:World}{vs:List Value}(hr:Rl c wb h)(hz:∀t,c.z t=F.P.cellsOf t)(hb:F.tb c.w)(ha:VL c args vs):
  Calls F.P fn vs.toArray c.w fun e w'=>∃u d,e=.returned u∧d.w=w'∧Xt c d∧Rl d wb ⟨h.h.set b h.n,Nat.succ h.n,h.bar,h.l⟩∧VR d (sc (.sl h.n 0 n (some mm))) u:=by
 obtain⟨p,h1,hx⟩:=aA.1 hx;obtain⟨G,h2,hx⟩:=aA.1 hx;obtain⟨cd,h3,hx⟩:=aA.1 hx;obtain⟨e0,h4,hx⟩:=aA.1 hx;obtain⟨h5,hx⟩:=aB.1 hx;obtain⟨h6,hx⟩:=aB.1 hx;obtain⟨h7,hx⟩:=aB.1 hx;injection hx with hx;subst hx;have hA:=(pF (fn:=fn) hF (nX hF hm M) m cd e0 h.lift _ h7).1;have hA2:nL F G.ntmps fn cd e0 h.lift fun r=>∃v h',leave F G r=some (v,h')∧∃k,v=sc (.sl k 0 n (some mm))∧h.n≤k∧h'.bar=h.n∧h'.h.get k=some b:=fun c wb a f bb kk cs hb hq=>by
  obtain⟨r,hk,rest⟩:=hA c wb a f bb kk cs hb hq;refine⟨r,?_,rest⟩;obtain⟨⟨v,h'⟩,k1,hk⟩:=gY hk;obtain⟨k,k2,hk⟩:=gY hk;obtain⟨s,rfl,k3⟩:=aI.1 k2;obtain⟨k4,hk⟩:=cba.1 hk;obtain⟨k5,hk⟩:=cba.1 hk;obtain⟨d,k6,hk⟩:=gY hk;obtain⟨k7,k8⟩:=cba.1 hk;refine⟨_,h',k1,k,?_,bA.1 k4,aH.1 k5,?_⟩
  ·rw[aHs k3]
  ·obtain⟨t1,c1⟩:=d;obtain⟨t2,c2⟩:=b;have k7:t1=t2:=aH.1 k7;have k8:c1=c2:=lZ k8;rw[k6,k7,k8]
 refine (aJd h2 h3 h4 hA2 hr.own hz hb ha).mono ?_;rintro e w' ⟨v,h',u,d,⟨k,rfl,q1,q2,q3⟩,rfl,rfl,X,R,V⟩;obtain⟨hk,hu⟩:=aF.1 V;have hne:b.c≠[]:=fun e=>by
  have:qW b=true:=h5;unfold qW at this;rw[e]at this;cases this
 have hB:=(R.blk k b q3).2 ⟨hk,hne⟩;have hg:=R.new k b q3 ⟨hk,hne⟩ (by rw[q2];exact q1);obtain⟨d2,m1,m2,m3,m4,m5⟩:=hr.left R.q hg (d:=d) rfl hB h6;refine⟨_,d2,rfl,m1,m2,m3,aF.2 ⟨m4,?_⟩⟩;rw[hu,m5]
noncomputable section
structure Kd where
 k:Kc
 b:B
 n:Nat
 m:Nat
def okD(p:Kd):Bool:=cb (okK p.k) (cb (qW p.b) (plS p.b.c) false) false
def fP(p:Kd)(r:Option VH):Bool:=isS r fun q=>isS (one q.1 (asS p.n p.m)) fun k=>cb (Nat.ble (len p.k.bs) k) (cb (Nat.beq q.2.bar (len p.k.bs)) (isS (q.2.h.get k) fun d=>cb (Nat.beq d.ty p.b.ty) (svL d.c p.b.c) false) false) false
def gDs(l:List Kd)(h:H)(args:List AV):Option (B × Nat × Nat):=List.rec (motive:=fun _=>Option (B × Nat × Nat)) none (fun p _ r=>cb (xC p.k (rho p.k h args) h args) (some (p.b,p.n,p.m)) r) l
end
theorem aNE{F:Cf}(hF:FOk F)(hm:F.P.follows .mixedOrders=true){m fn:Nat}{p:Kd}(hs:okD p=true)(hx:fP p (aU F (exec F m) fn p.k.args (mkH p.k.bs))=true){h:H}{l:List Nat}{args:List AV}(hck:xC p.k l h args=true){c:Cx}{wb:World}(R:Rl c wb h)(hz:∀t,c.z t=F.P.cellsOf t)(hb:F.tb c.w){vs:List Value}(ha:VL c args vs):
  Calls F.P fn vs.toArray c.w fun e w'=>∃u d,e=.returned u∧d.w=w'∧Xt c d∧Rl d wb ⟨h.h.set p.b h.n,Nat.succ h.n,h.bar,h.l⟩∧VR d (sc (.sl h.n 0 p.n (some p.m))) u:=by
 obtain⟨o1,hs⟩:=cba.1 hs;obtain⟨o2,o3⟩:=cba.1 hs;obtain⟨⟨v,h'⟩,k1,hk⟩:=gY hx;obtain⟨k,k2,hk⟩:=gY hk;obtain⟨s,rfl,k3⟩:=aI.1 k2;obtain⟨k4,hk⟩:=cba.1 hk;obtain⟨k5,hk⟩:=cba.1 hk;obtain⟨d,k6,hk⟩:=gY hk;obtain⟨k7,k8⟩:=cba.1 hk;have g6:h'.h.get k=some p.b:=by
  obtain⟨t1,c1⟩:=d;have k7:t1=p.b.ty:=aH.1 k7;have k8:c1=p.b.c:=lZ k8;rw[k6,k7,k8]
 have g3:=aHs k3;subst g3;have g4:=bA.1 k4;have g5:h'.bar=_:=aH.1 k5;refine (aHo hF hm o1 k1 hck R hz hb ha).mono ?_;rintro e w' ⟨u,d,rfl,rfl,R2,V⟩;obtain⟨hk,hu⟩:=aF.1 V;have hne:p.b.c≠[]:=fun e=>by
  have:qW p.b=true:=o2;unfold qW at this;rw[e]at this;cases this
 have hB:=(R2.blk k p.b g6).2 ⟨hk,hne⟩;have hg:=R2.new k p.b g6 ⟨hk,hne⟩ (by rw[g5];exact g4);obtain⟨d2,m1,m2,m3,m4,m5⟩:=R.left R2.q hg (d:=d) rfl hB o3;refine⟨_,d2,rfl,m1,m2,m3,aF.2 ⟨m4,?_⟩⟩;rw[hu,m5]
theorem aEc{F:Cf}(hF:FOk F)(hm:F.P.follows .mixedOrders=true){m fn:Nat}{L:List Kd}(hL:∀p∈L,okD p=true∧fP p (aU F (exec F m) fn p.k.args (mkH p.k.bs))=true){h:H}{args:List AV}{b:B}{n mm:Nat}(hg:gDs L h args=some (b,n,mm)){c:Cx}{wb:World}(R:Rl c wb h)(hz:∀t,c.z t=F.P.cellsOf t)(hb:F.tb c.w){vs:List Value}(ha:VL c args vs):
  Calls F.P fn vs.toArray c.w fun e w'=>∃u d,e=.returned u∧d.w=w'∧Xt c d∧Rl d wb ⟨h.h.set b h.n,Nat.succ h.n,h.bar,h.l⟩∧VR d (sc (.sl h.n 0 n (some mm))) u:=by
 induction L with
 |nil=>cases hg
 |cons p L ih=>
  have hg:cb (xC p.k (rho p.k h args) h args) (some (p.b,p.n,p.m)) (gDs L h args)=some (b,n,mm):=hg;rw[aL]at hg;split at hg
  ·rename_i hck;injection hg with hg;injection hg with g1 hg;injection hg with g2 g3;subst g1;subst g2;subst g3;obtain⟨h1,h2⟩:=hL p List.mem_cons_self;exact aNE hF hm h1 h2 hck R hz hb ha
  ·exact ih (fun q hq=>hL q (List.mem_cons_of_mem _ hq)) hg
noncomputable section
def xD:List SV:=[
 .s [],.s [],.i .i64 0,.i .i64 0,.i .i64 0,.b false,.i .i64 0,.i .i64 0,
 .s [114],.s [65,66],.i .i64 0,.i .i64 2,.i .i64 0,.b false,.i .i64 0,.i .i64 0,
 .s [99],.s [65,66],.i .i64 0,.i .i64 2,.i .i64 0,.b false,.i .i64 0,.i .i64 2,
 .s [108],.s [65,66],.i .i64 0,.i .i64 2,.i .i64 0,.b true,.i .i64 2,.i .i64 0,
 .s [118],.s [65,66],.i .i64 0,.i .i64 1,.i .i64 0,.b true,.i .i64 1,.i .i64 0,
 .s [105],.s [65,66],.i .i64 0,.i .i64 1,.i .i64 0,.b false,.i .i64 0,.i .i64 1,
 .s [101],.s [65,66,67,68],.i .i64 0,.i .i64 1,.i .i64 0,.b true,.i .i64 1,.i .i64 0,
 .s [103],.s [65,66,67,68],.i .i64 0,.i .i64 1,.i .i64 0,.b false,.i .i64 0,.i .i64 1,
 .s [102],.s [65,66],.i .i64 1,.i .i64 1,.i .i64 0,.b false,.i .i64 0,.i .i64 1,
 .s [104],.s [65,66],.i .i64 1,.i .i64 1,.i .i64 0,.b true,.i .i64 1,.i .i64 0,
 .s [100],.s [65,66],.i .i64 0,.i .i64 0,.i .i64 1,.b false,.i .i64 0,.i .i64 0,
 .s [109],.s [65,67,66],.i .i64 0,.i .i64 0,.i .i64 2,.b false,.i .i64 0,.i .i64 1,
 .s [113],.s [65,66],.i .i64 0,.i .i64 0,.i .i64 1,.b false,.i .i64 0,.i .i64 2,
 .s [115],.s [65,66],.i .i64 2,.i .i64 2,.i .i64 0,.b false,.i .i64 0,.i .i64 3]
def roS(t:Nat)(a:Addr):Option AV:=Addr.rec (motive:=fun _=>Option AV) (fun b o s=>Option.rec (motive:=fun _=>Option AV) (cb (Nat.beq b 1) (ob (F0.ti t) fun i=>ob (cZ i.sz (drp o xD)) fun l=>av i.d.ag l) none) (fun _=>none) s) a
def valOf(x:SV):Value:=match x with
 | .s l=>.string ⟨(l.map UInt8.ofNat).toArray⟩
 | .i k n=>.int k n
 | .b x=>.bool x
 |_=>.nilFunc
def shaV:List Value:=xD.map valOf
end
def Sh(w:World):Prop:=∃t fr,w.heap[(1:Nat)]? =some (.cells shaV.toArray t fr)
theorem Sh.q{w w':World}(h:Sh w)(hq:Q w w'):Sh w':=by
 obtain⟨t,fr,h⟩:=h;have hlt:(1:Nat)<w.heap.size:=by
  rcases Nat.lt_or_ge (1:Nat) w.heap.size with hlt|hge
  ·exact hlt
  ·rw[Array.getElem?_eq_none hge]at h;cases h
 exact⟨t,fr,(hq.heap hlt).trans h⟩
def okL(x:SV):Bool:=match x with
 | .s l=>l.all (·<256)
 | .i _ _=>true
 | .b _=>true
 |_=>false
theorem aNF{c:Cx}{x:SV}(h:okL x=true):SR c x (valOf x):=by
 cases x with
 |s l=>
  refine⟨_,rfl,?_⟩;show (((l.map UInt8.ofNat).toArray).toList).map UInt8.toNat=l;simp only[List.map_map];refine (List.map_congr_left fun n hn=>?_).trans (List.map_id l);have hn:=of_decide_eq_true (List.all_eq_true.1 h n hn);show (UInt8.ofNat n).toNat=n;rw[UInt8.toNat_ofNat'];exact Nat.mod_eq_of_lt hn
 |i k n=>exact rfl
 |b x=>exact rfl
 |_=>cases h
theorem aCH{c:Cx}:∀{l:List SV},l.all okL=true→CL c l (l.map valOf)
 | [],_=>trivial
 |x::l,h=>by
  obtain⟨h1,h2⟩:=(Bool.and_eq_true _ _).mp (show (okL x && l.all okL)=true from h);exact⟨aNF h1,aCH h2⟩
theorem aHt:xD.all okL=true:=by decide+kernel
noncomputable def F3:Cf:=⟨Tryz.prog,fun w=>(Tb w∧Px w)∧Sh w,49,fun f=>aFn.get f,aAJ,fun _=>none,roS,fun _ _=>none,fun _=>none⟩
theorem aNG:aEJ F3:=by
 intro t a v h c hb;obtain⟨b,o,s⟩:=a;cases s with
 |some s=>cases h
 |none=>
  obtain⟨h1,h2⟩:=aB.1 (show cb (Nat.beq b 1) (ob (F0.ti t) fun i=>ob (cZ i.sz (drp o xD)) fun l=>av i.d.ag l) none=some v from h);obtain⟨i,h3,h4⟩:=aA.1 h2;obtain⟨l,h5,h6⟩:=aA.1 h4;have h1:=aH.1 h1;subst h1;rw[gN]at h5;obtain⟨h7,rfl⟩:=jY.1 h5;have hc:CL c ((xD.drop o).take i.sz) ((shaV.drop o).take i.sz):=((aCH aHt).drop o).take i.sz;obtain⟨u,k1,k2,k3⟩:=xW h6 hc;obtain⟨tt,fr,hh⟩:=hb.2;refine⟨u,?_,k1⟩;refine vF (P:=F3.P) (aJ (F:=F0) h3) (g:=1) (off:=o) (vs:=(shaV.drop o).take i.sz) ?_ (fun j x hx=>?_) k2 k3
  ·have:=hc.len;rw[this,List.length_take];omega
  ·rw[List.getElem?_take]at hx;split at hx
   ·rw[List.getElem?_drop]at hx;show c.w.cell? _=_;simp[World.cell?,hh,hx]
   ·cases hx
theorem f3:FOk F3:=⟨f0.ng,fun _ _ hq h=>⟨f0.tq _ _ hq h.1,h.2.q hq⟩,fun fn g args v hg hx c vs hb hv=>f0.pr fn g args v hg hx c vs hb.1 hv,aNG,fun _ _=>⟨fun h=>(by cases h),fun h=>(by cases h)⟩,fun _ _ _ _ _ h=>(by cases h),fun _ _ _ _ _ _ _ h=>(by cases h)⟩
noncomputable section
def aFv:List SV:=[
 .i .i64 0,.i .i64 0,.i .i64 0,.i .i64 0,.b false,
 .i .i64 0,.i .i64 2,.i .i64 1,.i .i64 3,.b false,
 .i .i64 1,.i .i64 3,.i .i64 0,.i .i64 2,.b false,
 .i .i64 0,.i .i64 3,.i .i64 1,.i .i64 2,.b false,
 .i .i64 1,.i .i64 2,.i .i64 0,.i .i64 3,.b false,
 .i .i64 0,.i .i64 1,.i .i64 2,.i .i64 3,.b true,
 .i .i64 2,.i .i64 3,.i .i64 0,.i .i64 1,.b true]
def desV:List Value:=aFv.map valOf
def roD(t:Nat)(a:Addr):Option AV:=Addr.rec (motive:=fun _=>Option AV) (fun b o s=>Option.rec (motive:=fun _=>Option AV) (cb (Nat.beq b 1) (ob (F0.ti t) fun i=>ob (cZ i.sz (drp o xD)) fun l=>av i.d.ag l) (cb (Nat.beq b 0) (ob (F0.ti t) fun i=>ob (cZ i.sz (drp o aFv)) fun l=>av i.d.ag l) none)) (fun _=>none) s) a
def isU(x:SV):Bool:=match x with| .i .u8 _=>true|_=>false
def aCI(l:List SV):Bool:=List.rec (motive:=fun _=>Bool) true (fun x _ r=>cb (isU x) r false) l
def byN(x:SV):UInt8:=match x with| .i _ n=>n.toNat.toUInt8|_=>0
def byL(acc:ByteArray):List SV→ByteArray
 | []=>acc
 |x::l=>byL (acc.push (byN x)) l
def zZ(h:H)(args:List AV):Option AV:=match args with
 | [.c false [.sl i o n _],.c false [.sl j p m _]]=>cb (Nat.blt 0 n) (cb (Nat.blt 0 m) (ob (rd h i o n) fun l=>ob (rd h j p m) fun r=>cb (aCI l) (cb (aCI r) (some (sc (.i .i64 (Extern.BytealgCompare.cmp (byL .empty l) (byL .empty r))))) none) none) none) none
 |_=>none
def phC(f:Nat):Option (H→List AV→Option AV):=cb (Nat.beq f 130) (some zZ) none
def Ds(w:World):Prop:=∃t fr,w.heap[(0:Nat)]? =some (.cells desV.toArray t fr)
def F5:Cf:=⟨Tryz.prog,fun w=>((Tb w∧Px w)∧Sh w)∧Ds w,49,fun f=>aFn.get f,aAJ,phC,roD,fun _ _=>none,fun _=>none⟩
end
theorem Ds.q{w w':World}(h:Ds w)(hq:Q w w'):Ds w':=by
 obtain⟨t,fr,h⟩:=h;have hlt:(0:Nat)<w.heap.size:=by
  rcases Nat.lt_or_ge (0:Nat) w.heap.size with hlt|hge
  ·exact hlt
  ·rw[Array.getElem?_eq_none hge]at h;cases h
 exact⟨t,fr,(hq.heap hlt).trans h⟩
theorem aNH:aFv.all okL=true:=by decide+kernel
theorem aHu{V:List Value}{L:List SV}{g:Nat}(hok:L.all okL=true){t o:Nat}{v:AV}{c:Cx}(h:(ob (F0.ti t) fun i=>ob (cZ i.sz (drp o L)) fun l=>av i.d.ag l)=some v)(X:V=L.map valOf)(hh:∃tt fr,c.w.heap[g]? =some (.cells V.toArray tt fr)):∃u,(loadVar t ⟨g,o,none⟩).run Tryz.prog c.w=.ok u c.w∧VR c v u:=by
 subst X;obtain⟨i,h3,h4⟩:=aA.1 h;obtain⟨l,h5,h6⟩:=aA.1 h4;rw[gN]at h5;obtain⟨h7,rfl⟩:=jY.1 h5;have hc:CL c ((L.drop o).take i.sz) (((L.map valOf).drop o).take i.sz):=((aCH hok).drop o).take i.sz;obtain⟨u,k1,k2,k3⟩:=xW h6 hc;obtain⟨tt,fr,hh⟩:=hh;refine⟨u,?_,k1⟩;refine vF (P:=F3.P) (aJ (F:=F0) h3) (g:=g) (off:=o) (vs:=((L.map valOf).drop o).take i.sz) ?_ (fun j x hx=>?_) k2 k3
 ·have:=hc.len;rw[this,List.length_take];omega
 ·rw[List.getElem?_take]at hx;split at hx
  ·rw[List.getElem?_drop]at hx;show c.w.cell? _=_;simp[World.cell?,hh,hx]
  ·cases hx
theorem aNI:aEJ F5:=by
 intro t a v h c hb;obtain⟨b,o,s⟩:=a;have hb:((Tb c.w∧Px c.w)∧Sh c.w)∧Ds c.w:=hb;have hs:Sh c.w:=hb.1.2;have hd:Ds c.w:=hb.2;unfold Sh at hs;unfold Ds at hd;cases s with
 |some s=>cases h
 |none=>
  have hx:cb (Nat.beq b 1) (ob (F0.ti t) fun i=>ob (cZ i.sz (drp o xD)) fun l=>av i.d.ag l) (cb (Nat.beq b 0) (ob (F0.ti t) fun i=>ob (cZ i.sz (drp o aFv)) fun l=>av i.d.ag l) none)=some v:=h;clear h;rw[aL]at hx;split at hx
  ·rename_i h1;have h1:=aH.1 h1;subst h1;exact aHu aHt hx rfl hs
  ·obtain⟨h1,h2⟩:=aB.1 hx;have h1:=aH.1 h1;subst h1;exact aHu aNH h2 rfl hd
theorem aJO{P:Program}{w:World}{g:Nat}:∀{l:List SV} {c:Cx} {vs:List Value} {o:Nat} {acc:ByteArray},aCI l=true→CL c l vs→(∀j v,vs[j]? =some v→w.cell? ⟨g,o+j,none⟩=some v)→(Extern.Bytes.loadBytes ⟨g,o,none⟩ l.length acc).run P w=.ok (byL acc l) w
 | [],_,[],_,_,_,_,_=>rfl
 |x::l,c,v::vs,o,acc,hu,hc,hr=>by
  obtain⟨h1,h2⟩:=cba.1 (show cb (isU x) (aCI l) false=true from hu);unfold isU at h1;split at h1
  ·rename_i n;have hv:v=.int .u8 n:=hc.1;subst hv;have hcell:=hr 0 _ rfl;rw[Nat.add_zero]at hcell;have ih:=aJO (P:=P) (acc:=acc.push n.toNat.toUInt8) h2 hc.2 (o:=o+1) fun j v hj=>by
     have:=hr (j+1) v (by simpa using hj);rw[show o+1+j=o+(j+1) from by omega];exact this
   show (Extern.Bytes.loadBytes ⟨g,o,none⟩ (l.length+1) acc).run P w=_;rw[Extern.Bytes.loadBytes];simp only[load,Sem.run_bind,Sem.run,hcell,Result.andThen_ok];exact ih
  ·cases h1
set_option maxHeartbeats 1000000 in
set_option maxRecDepth 100000 in
theorem aHv(a b:Value)(x y:ByteArray)(w:World)(ha:(Extern.Bytes.bytesOf a).run Tryz.prog w=.ok x w)(hb:(Extern.Bytes.bytesOf b).run Tryz.prog w=.ok y w):
  Calls Tryz.prog 130 #[a,b] w fun e w'=>e=.returned (.int .i64 (Extern.BytealgCompare.cmp x y))∧w'=w:=by
 have hrun:(Extern.BytealgCompare.compare #[a,b]).run Tryz.prog w=.ok (.int .i64 (Extern.BytealgCompare.cmp x y)) w:=by
  change Sem.run Tryz.prog (do pure (goInt (Extern.BytealgCompare.cmp (←Extern.Bytes.bytesOf a) (←Extern.Bytes.bytesOf b)))) w=_;simp only[Sem.run_bind,ha,hb,Result.andThen_ok,Sem.run_pure,goInt]
 clear ha hb;generalize Extern.BytealgCompare.cmp x y=r at hrun⊢;go_enter Tryz.func130,Tryz.ntmps130
 go_wp2
 rw[run_callFunc_extern Tryz.func201 (by kernel_rfl) (by kernel_rfl) (by kernel_rfl) (e:=Extern.BytealgCompare.compare) (by kernel_rfl),hrun];simp only[Result.andThen];rw[Oper.upon_value];go_wp2
 go_ret
 exact⟨rfl,rfl⟩
theorem f5:FOk F5:=by
 refine⟨f0.ng,fun _ _ hq h=>⟨⟨f0.tq _ _ hq h.1.1,h.1.2.q hq⟩,h.2.q hq⟩,fun fn g args v hg hx c vs hb hv=>f0.pr fn g args v hg hx c vs hb.1.1 hv,aNI,fun _ _=>⟨fun h=>(by cases h),fun h=>(by cases h)⟩,fun fn g h args v hg hx c wb vs R hz hb ha=>?_,fun _ _ _ _ _ _ _ h=>(by cases h)⟩;obtain⟨h1,h2⟩:=aB.1 (show cb (Nat.beq fn 130) (some zZ) none=some g from hg);have h1:=aH.1 h1;injection h2 with h2;subst h1;subst h2;unfold zZ at hx;split at hx
 ·rename_i i o n c1 j p m c2;obtain⟨h3,hx⟩:=aB.1 hx;obtain⟨h4,hx⟩:=aB.1 hx;obtain⟨l,h5,hx⟩:=aA.1 hx;obtain⟨r,h6,hx⟩:=aA.1 hx;obtain⟨h7,hx⟩:=aB.1 hx;obtain⟨h8,hx⟩:=aB.1 hx;injection hx with hx;subst hx
  match vs,ha with
  | [u1,u2],ha=>
    have key:∀{i o n:Nat} {c1:Option Nat} {l:List SV} {u:Value},SR c (.sl i o n c1) u→0<n→rd h i o n=some l→aCI l=true→(Extern.Bytes.bytesOf u).run Tryz.prog c.w=.ok (byL .empty l) c.w:=fun {i o n c1 l u} hs hn hr hu=>by
     have hkn:c.k i:=by cases c1<;>exact hs.1
     obtain⟨vs,q1,q2,q3⟩:=xU R hkn hr;obtain⟨o1,cp,rfl,-,-,ho⟩:=gD hs;have ho:=ho (.inl (by omega));subst ho;have hlen:l.length=n:=(by rw[←q1.len,q2]);have:=aJO (P:=Tryz.prog) (w:=c.w) (g:=c.r i) (o:=o1) (acc:=.empty) hu q1 q3;rw[hlen]at this;exact this
    refine (aHv u1 u2 _ _ c.w (key (aF.1 ha.1) (aQ.1 h3) h5 h7) (key (aF.1 ha.2.1) (aQ.1 h4) h6 h8)).mono ?_;rintro e w' ⟨rfl,rfl⟩;exact⟨_,rfl,Q.refl _,aF.2 rfl⟩
 ·cases hx
noncomputable section
def aPD(l:List SV):List SV→Bool:=List.rec (motive:=fun _=>List SV→Bool) (fun _=>false) (fun x _ r m=>match x,m with| .i _ a,.i _ b::m=>cb (iLt a b) true (cb (iEq a b) (r m) false)|_,_=>false) l
def aPE(p:List SV × List SV)(l:List (List SV × List SV)):List (List SV × List SV):=List.rec (motive:=fun _=>List (List SV × List SV)) [p] (fun q l r=>cb (aPD p.1 q.1) (p::q::l) (q::r)) l
def nzT(l:List SV):Bool:=match l with| [_,.m n,_]=>cb (Nat.beq n 0) false true|_=>true
def aPF(l:List (AV × AV)):Option (List (List SV × List SV)):=List.rec (motive:=fun _=>Option (List (List SV × List SV))) (some []) (fun p _ r=>agg p.1 fun a=>agg p.2 fun b=>ob r fun r=>some (cb (nzT b) (aPE (a,b) r) r)) l
def aOX(l:List (List SV × List SV)):List SV:=List.rec (motive:=fun _=>List SV) [] (fun p _ r=>app p.1 (app p.2 r)) l
def aNJ(h:H)(args:List AV):Option (B × Nat × Nat):=match args with
 | [.c false [s]]=>ob (mpE h s) fun l=>cb (Nat.ble 2 (len l)) (ob (aPF l) fun t=>ob (F0.ti 118) fun i=>some (⟨118,app (aOX t) (iU i.ze (Nat.sub (len l) (len t)))⟩,len t,len l)) none
 |_=>none
end
end E
end Go.Proofs.YtamnpcdkcdfgaaaGreatDoor
