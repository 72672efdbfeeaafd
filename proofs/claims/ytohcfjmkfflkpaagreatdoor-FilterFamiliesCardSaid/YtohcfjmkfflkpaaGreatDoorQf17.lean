/- FilterFamilies holds. No condition. -/
import Derived.Test.YtohcfjmkfflkpaaGreatDoorQf16
namespace Go.Proofs.YtohcfjmkfflkpaaGreatDoor
namespace E
open Go Go.RowKit
open Ma Me K
theorem aC7{α:Type}(x:Rat)(k:List SV→α):aM4 x k=k (bC x):=by
 obtain⟨n,d,h1,h2⟩:=x;show cb (Nat.beq d 1) _ _=k [.b (decide (n<0)),.m n.natAbs,.m (bt d)];unfold bt;by_cases hd:d=1
 ·rw[aM.2 hd,if_pos hd,bU,if_pos rfl];cases n with
  |ofNat m=>exact aW (n:=m) (f:=fun m=>k [.b false,.m m,.m 0])
  |negSucc m=>rw[show decide (Int.negSucc m<0)=true from decide_eq_true (Int.negSucc_lt_zero m)];exact aW (n:=m) (f:=fun m=>k [.b true,.m (Nat.succ m),.m 0])
 ·rw[show Nat.beq d 1=false from Bool.eq_false_iff.2 fun h=>hd (aM.1 h),if_neg hd,bU,if_neg (by decide),aW];cases n with
  |ofNat m=>exact aW (n:=m) (f:=fun m=>k [.b false,.m m,.m d])
  |negSucc m=>rw[show decide (Int.negSucc m<0)=true from decide_eq_true (Int.negSucc_lt_zero m)];exact aW (n:=m) (f:=fun m=>k [.b true,.m (Nat.succ m),.m d])
theorem sV{c:Cx}{q:Rat}{u:Value}:VR c (.c true (bC q)) u↔Nq c.w u q:=by
 constructor
 ·rintro⟨cs,rfl,h⟩
  match cs,h with
  | [x,y,z],h=>
    obtain⟨h1,h2,h3,-⟩:=h;cases h1;exact⟨y,z,rfl,h2,h3⟩
 ·rintro⟨t,b,rfl,h2,h3⟩;exact⟨[_,t,b],rfl,rfl,h2,h3,trivial⟩
theorem aFT{n:Nat}(h:small n=true):dg W64 n≤1024:=by
 unfold small at h;have h1:=aP.1 h;rw[big.eq_1]at h1;exact (aK aC n aR1).2 h1
theorem aM6{α:Type}{c:Bool}{f:c=false→Option α}{g:c=true→Option α}{y:α}(h:Bool.rec (motive:=fun b=>c=b→Option α) f g c rfl=some y):(∃e,f e=some y)∨∃e,g e=some y:=by
 cases c with
 |false=>exact .inl ⟨rfl,h⟩
 |true=>exact .inr ⟨rfl,h⟩
theorem aPL{s:Bool}{n m:Nat}{q:Rat}(h:aR3 s n m=some q):bC q=[.b s,.m n,.m m]∧Ma.sz q≤2048:=by
 obtain⟨h1,h2⟩:=cbn.1 h;obtain⟨h3,h4⟩:=aD.1 h2;obtain⟨h5,h6⟩:=aD.1 h4;obtain⟨d,hd⟩:∃d,d=cb (Nat.beq m 0) 1 m:=⟨_,rfl⟩
 rw[←hd]at h6;have hm1:m≠1:=fun e=>by rw[e]at h1;cases h1
 have hdm:bt d=m:=by
  rw[hd,bU];unfold bt;by_cases hm:m=0
  ·rw[if_pos (aM.2 hm),if_pos rfl,hm]
  ·rw[if_neg (fun e=>hm (aM.1 e)),if_neg hm1]
 have hds:dg W64 d≤1024:=by
  rw[hd,bU];split
  ·rw[iK aC];decide
  ·exact aFT h5
 have hns:=aFT h3;have key:q.num.natAbs=n∧q.den=d∧decide (q.num<0)=s:=by
  rcases aM6 h6 with⟨e1,h7⟩|⟨e1,h7⟩
  ·rcases aM6 h7 with⟨e2,h8⟩|⟨e2,h8⟩
   ·cases h8
   ·cases s with
    |false=>
     injection h8 with h8;subst h8;exact⟨rfl,rfl,decide_eq_false (Int.not_lt.2 (Int.natCast_nonneg n))⟩
    |true=>
     rcases aM6 (show aR2 n d e1 e2=some q from h8) with⟨e3,h9⟩|⟨e3,h9⟩
     ·injection h9 with h9;subst h9;refine⟨?_,rfl,decide_eq_true (Int.negSucc_lt_zero _)⟩;show (Int.negSucc (Nat.pred n)).natAbs=n;cases n with
      |zero=>cases e3
      |succ n=>rfl
     ·cases h9
  ·cases h7
 obtain⟨k1,k2,k3⟩:=key;refine⟨by unfold bC;rw[k1,k2,k3,hdm],?_⟩;have:=fO q;rw[k1,k2]at this;omega
theorem sW{α:Type}{v:AV}{k:Rat→Option α}{y:α}(h:num v k=some y):∃q,v=.c true (bC q)∧Ma.sz q≤2048∧k q=some y:=by
 unfold num at h;split at h
 ·rename_i s n m;obtain⟨q,h1,h2⟩:=aA.1 h;obtain⟨h3,h4⟩:=aPL h1;exact⟨q,by rw[h3],h4,h2⟩
 ·cases h
def vD(fn:Nat)(g:List AV→Option AV):Prop:=∀(args:List AV) (v:AV),g args=some v→∀(c:Cx) (vs:List Value),Tb c.w→Px c.w→VL c args vs→
 Calls Tryz.prog fn vs.toArray c.w fun e w'=>∃u,e=.returned u∧Q c.w w'∧VR ⟨c.n,c.k,c.r,w',c.z⟩ v u
theorem aM7{x:Rat}{v:AV}(h:enc x=some v):v=.c true (bC x):=by
 unfold enc at h;rw[aC7]at h;injection h with h;exact h.symm
theorem aPM{r:Int × Rat}{v:AV}(h:er r=some v):v=.t [(true,bC r.2),(false,[.i .i64 r.1])]:=by
 unfold er at h;rw[aC7]at h;injection h with h;exact h.symm
theorem aTJ{c:Cx}{r:Int × Rat}{u:Value}(h:Nq c.w u r.2):VR c (.t [(true,bC r.2),(false,[.i .i64 r.1])]) (.tuple #[u,.int .i64 r.1]):=
 ⟨[u,.int .i64 r.1],rfl,sV.2 h,⟨_,rfl,rfl⟩,trivial⟩
theorem pr1{fn:Nat}{f:Rat→Option AV}(h:∀(x:Value) (p:Rat) (v:AV) (c:Cx),f p=some v→Tb c.w→Px c.w→Nq c.w x p→Ma.sz p≤2048→Calls Tryz.prog fn #[x] c.w fun e w'=>∃u,e=.returned u∧Q c.w w'∧VR ⟨c.n,c.k,c.r,w',c.z⟩ v u):vD fn (p1 f):=by
 intro args v hx c vs hT hP hv
 match args,vs,hx,hv with
 | [x],[u],hx,hv=>
   obtain⟨q,rfl,h1,h2⟩:=sW (show num x f=some v from hx);exact h u q v c h2 hT hP (sV.1 hv.1) h1
theorem pr2{fn:Nat}{f:Rat→Rat→Option AV}(h:∀(x y:Value) (p q:Rat) (v:AV) (c:Cx),f p q=some v→Tb c.w→Px c.w→Nq c.w x p→Nq c.w y q→Ma.sz p≤2048→Ma.sz q≤2048→Calls Tryz.prog fn #[x,y] c.w fun e w'=>∃u,e=.returned u∧Q c.w w'∧VR ⟨c.n,c.k,c.r,w',c.z⟩ v u):vD fn (p2 f):=by
 intro args v hx c vs hT hP hv
 match args,vs,hx,hv with
 | [x,y],[u,u2],hx,hv=>
   obtain⟨p,rfl,h1,h2⟩:=sW (show num x (fun p=>num y fun q=>f p q)=some v from hx);obtain⟨q,rfl,h3,h4⟩:=sW h2;exact h u u2 p q v c h4 hT hP (sV.1 hv.1) (sV.1 hv.2.1) h1 h3
theorem sZ{fn:Nat}{args:Array Value}{c:Cx}{q:Rat}{v:AV}(hv:enc q=some v)(h:Calls Tryz.prog fn args c.w fun e w'=>∃r,e=.returned r∧Nq w' r q∧Q c.w w'):Calls Tryz.prog fn args c.w fun e w'=>∃u,e=.returned u∧Q c.w w'∧VR ⟨c.n,c.k,c.r,w',c.z⟩ v u:=by
 refine h.mono ?_;rintro e w' ⟨r,h1,h2,h3⟩;rw[aM7 hv];exact⟨r,h1,h3,sV.2 h2⟩
theorem aCr{fn:Nat}{args:Array Value}{c:Cx}{q:Int × Rat}{v:AV}(hv:er q=some v)(h:Calls Tryz.prog fn args c.w fun e w'=>∃r,e=.returned (.tuple #[r,.int .i64 q.1])∧Nq w' r q.2∧Q c.w w'):Calls Tryz.prog fn args c.w fun e w'=>∃u,e=.returned u∧Q c.w w'∧VR ⟨c.n,c.k,c.r,w',c.z⟩ v u:=by
 refine h.mono ?_;rintro e w' ⟨r,h1,h2,h3⟩;rw[aPM hv];exact⟨_,h1,h3,aTJ (c:=⟨c.n,c.k,c.r,w',c.z⟩) h2⟩
theorem aLb{fn:Nat}{args:Array Value}{c:Cx}{s:SV}{u:Value}{v:AV}(hv:some (sc s)=some v)(hs:∀w',SR ⟨c.n,c.k,c.r,w',c.z⟩ s u)(h:Calls Tryz.prog fn args c.w fun e w'=>e=.returned u∧Q c.w w'):Calls Tryz.prog fn args c.w fun e w'=>∃u,e=.returned u∧Q c.w w'∧VR ⟨c.n,c.k,c.r,w',c.z⟩ v u:=by
 refine h.mono ?_;rintro e w' ⟨h1,h2⟩;injection hv with hv;subst hv;exact⟨u,h1,h2,aF.2 (hs w')⟩
theorem iH{s:ByteArray}{l:List Nat}(h:bytes s=l):by8 l=s.data.toList∧len l=s.size:=by
 subst h;refine⟨?_,(aT _).trans (by unfold bytes;rw[List.length_map,Array.length_toList];rfl)⟩;unfold by8 bytes;rw[List.map_map];exact (List.map_congr_left fun x _=>(UInt8.ofNat_toNat:UInt8.ofNat x.toNat=x)).trans (List.map_id _)
theorem iX{t:ByteArray}{l:List UInt8}(h:t.data.toList=l):bytes t=un8 l:=by
 subst h;rfl
theorem mP{α:Type}{v:AV}{k:Int→Option α}{y:α}(h:int v k=some y):∃n,v=sc (.i .i64 n)∧k n=some y:=by
 unfold int at h;split at h
 ·exact⟨_,rfl,h⟩
 ·cases h
theorem aR6:vD 43 aR4:=by
 intro args v hx c vs hT hP hv
 match args,vs,hx,hv with
 | [x],[u],hx,hv=>
   obtain⟨n,rfl,h0⟩:=mP (show int x (fun n=>cb (decide (-9223372036854775808≤n) && decide (n≤9223372036854775807)) (enc (n:Rat)) none)=some v from hx);obtain⟨h1,h2⟩:=aD.1 h0;obtain⟨h3,h4⟩:=(Bool.and_eq_true _ _).mp h1;have hu:u=.int .i64 n:=aF.1 hv.1;subst hu;exact sZ h2 (aTv n c.w (of_decide_eq_true h3) (of_decide_eq_true h4))
theorem aR7:vD 73 aR5:=by
 intro args v hx c vs hT hP hv
 match args,vs,hx,hv with
 | [x,y],[u,u2],hx,hv=>
   obtain⟨q,rfl,h1,h2⟩:=sW (show num x (fun p=>int y fun n=>er (jC p n))=some v from hx);obtain⟨n,rfl,h3⟩:=mP h2;have hu:u2=.int .i64 n:=aF.1 hv.2.1;subst hu;exact aCr h3 (aTE u q n c.w (sV.1 hv.1) (by rw[aB];omega))
theorem aM8:vD 127 aLa:=by
 intro args v hx c vs hT hP hv
 match args,vs,hx,hv with
 | [x,y],[u,u2],hx,hv=>
   obtain⟨q,rfl,h1,h2⟩:=sW (show num x (fun p=>int y fun n=>cb (decide (0≤n) && decide (n≤64)) (enc (p^n.toNat)) none)=some v from hx);obtain⟨n,rfl,h3⟩:=mP h2;obtain⟨h4,h5⟩:=aD.1 h3;obtain⟨h6,h7⟩:=(Bool.and_eq_true _ _).mp h4;have h6:=of_decide_eq_true h6;have h7:=of_decide_eq_true h7;obtain⟨m,rfl⟩:∃m:Nat,n=m:=⟨n.toNat,by omega⟩
   have hu:u2=.int .i64 (m:Int):=aF.1 hv.2.1;subst hu;exact sZ h5 (aM0 u q m c.w (sV.1 hv.1) (by omega) (by rw[aB];omega))
theorem aPN:vD 218 aIX:=by
 intro args v hx c vs hT hP hv;unfold aIX at hx;split at hx
 ·rename_i l
  match vs,hv with
  | [u],hv=>
    obtain⟨s,rfl,hs⟩:=aF.1 (show VR c (sc (.s l)) u from hv.1);obtain⟨h1,h2⟩:=aD.1 hx;have h1:=aP.1 h1;obtain⟨k1,k2⟩:=iH hs;rw[k1]at h2;exact aCr h2 (aR0 s c.w hT hP (by omega))
 ·cases hx
theorem aM9:vD 39 aFS:=by
 intro args v hx c vs hT hP hv;unfold aFS at hx;split at hx
 ·rename_i l
  match vs,hv with
  | [u],hv=>
    obtain⟨s,rfl,hs⟩:=aF.1 (show VR c (sc (.s l)) u from hv.1);obtain⟨h1,h2⟩:=aD.1 hx;have h1:=aP.1 h1;obtain⟨k1,k2⟩:=iH hs;rw[k1]at h2;exact aCr h2 (aC5 s c.w hT (by omega))
 ·cases hx
theorem aR8:vD 82 aM5:=by
 intro args v hx c vs hT hP hv;unfold aM5 at hx;split at hx
 ·rename_i l ch
  match vs,hv with
  | [u,u2],hv=>
    obtain⟨s,rfl,hs⟩:=aF.1 (show VR c (sc (.s l)) u from hv.1);obtain⟨s2,rfl,hs2⟩:=aF.1 (show VR c (sc (.s [ch])) u2 from hv.2.1);obtain⟨h1,h2⟩:=aD.1 hx;injection h2 with h2;have h1:=aP.1 h1;obtain⟨k1,k2⟩:=iH hs;obtain⟨k3,-⟩:=iH hs2;have e2:s2=⟨#[UInt8.ofNat ch]⟩:=by
     obtain⟨a⟩:=s2;congr 1;apply Array.toList_inj.1;exact k3.symm
    subst e2;rw[k1]at h2;refine (aIT s (UInt8.ofNat ch) c.w (by omega)).mono ?_;rintro e w' ⟨a,b,h3,h4,h5,h6⟩;subst h2;exact⟨_,h3,h6,[.string a,.string b,.bool (decide (UInt8.ofNat ch∈s.data.toList))],rfl,⟨_,rfl,a,rfl,iX h4⟩,⟨_,rfl,b,rfl,iX h5⟩,⟨_,rfl,rfl⟩,trivial⟩
 ·cases hx
theorem aLc:vD 219 aC6:=by
 intro args v hx c vs hT hP hv;unfold aC6 at hx;split at hx
 ·rename_i l n
  match vs,hv with
  | [u,u2],hv=>
    obtain⟨s,rfl,hs⟩:=aF.1 (show VR c (sc (.s l)) u from hv.1);have hu2:u2=.int .i64 (Int.ofNat n):=aF.1 (show VR c (sc (.i .i64 (.ofNat n))) u2 from hv.2.1);subst hu2;obtain⟨h1,h2⟩:=aD.1 hx;simp only[Bool.and_eq_true,decide_eq_true_eq]at h1;obtain⟨⟨⟨h3,h4⟩,h5⟩,h6⟩:=h1;have h3:=aP.1 h3;obtain⟨k1,k2⟩:=iH hs;injection h2 with h2;rw[k1]at h2;have hm:s.size*n≤1000000*1000000:=Nat.mul_le_mul (by omega) h6;refine (Tryz.strings_Repeat_main s n c.w h5 (by omega) (by omega) (by omega)).mono ?_;rintro e w' ⟨h7,h8⟩;subst h2;exact⟨_,h7,h8,aF.2 ⟨_,rfl,rfl⟩⟩
 ·cases hx
theorem aNa:∀p∈aD6,vD p.1 p.2:=by
 unfold aD6;simp only[List.forall_mem_cons];have b1:(1099511627776:Nat)=LIM:=aB.symm;refine⟨pr1 fun x p v c hf hT hP hx hs=>sZ hf (aRU x p c.w hx),?_⟩;refine⟨aR6,?_⟩;have kAdd:=fun (x y:Value) (p q:Rat) (v:AV) (c:Cx) (hf:enc (p+q)=some v) (hT:Tb c.w) (_:Px c.w) (hx:Nq c.w x p) (hy:Nq c.w y q) (_:Ma.sz p≤2048) (_:Ma.sz q≤2048)=>(sZ hf (aTA x y p q c.w hT hx hy (by rw[aB];omega)))
 refine⟨pr2 kAdd,?_⟩;have kSub:=fun (x y:Value) (p q:Rat) (v:AV) (c:Cx) (hf:enc (p-q)=some v) (hT:Tb c.w) (_:Px c.w) (hx:Nq c.w x p) (hy:Nq c.w y q) (_:Ma.sz p≤2048) (_:Ma.sz q≤2048)=>(sZ hf (aTB x y p q c.w hT hx hy (by rw[aB];omega)))
 refine⟨pr2 kSub,?_⟩;have kMul:=fun (x y:Value) (p q:Rat) (v:AV) (c:Cx) (hf:enc (p*q)=some v) (hT:Tb c.w) (_:Px c.w) (hx:Nq c.w x p) (hy:Nq c.w y q) (_:Ma.sz p≤2048) (_:Ma.sz q≤2048)=>(sZ hf (aIS x y p q c.w hT hx hy (by rw[aB];omega)))
 refine⟨pr2 kMul,?_⟩;refine⟨pr2 fun x y p q v c hf hT hP hx hy hs ht=>aCr hf (aTD x y p q c.w hT hx hy (by rw[aB];omega)),?_⟩;refine⟨pr1 fun x p v c hf hT hP hx hs=>sZ hf (aPF x p c.w hT hx (by rw[aB];omega)),?_⟩;have kSign:=fun (x:Value) (p:Rat) (v:AV) (c:Cx) (hf:some (sc (.i .i64 (sn p)))=some v) (_:Tb c.w) (_:Px c.w) (hx:Nq c.w x p) (_:Ma.sz p≤2048)=>aLb hf (fun _=>rfl) (aRV x p c.w hx);refine⟨pr1 kSign,?_⟩;have kCmp:=fun (x y:Value) (p q:Rat) (v:AV) (c:Cx) (hf:some (sc (.i .i64 (rc p q)))=some v) (_:Tb c.w) (_:Px c.w) (hx:Nq c.w x p) (hy:Nq c.w y q) (_:Ma.sz p≤2048) (_:Ma.sz q≤2048)=>aLb hf (fun _=>rfl) (aTC x y p q c.w hx hy (by rw[aB];omega));refine⟨pr2 kCmp,?_⟩;refine⟨aR7,?_⟩;refine⟨aM8,?_⟩;refine⟨pr1 fun x p v c hf hT hP hx hs=>?_,?_⟩
 ·injection hf with hf;refine (aK4 x p c.w hx (by omega)).mono ?_;rintro e w' ⟨t,h1,h2,h3⟩;subst hf;exact⟨_,h1,h3,aF.2 ⟨t,rfl,iX h2⟩⟩
 refine⟨aPN,?_⟩;refine⟨aR8,?_⟩;refine⟨aLc,?_⟩;refine⟨aM9,?_⟩;exact fun x hx=>by cases hx
theorem aTK(hng:∀(f:Nat) (G:Func),Tryz.prog.funcs[f]? =some G→(G.name == "runtime.NumGoroutine")=false):FOk F0:=by
 refine⟨hng,fun _ _ hq h=>⟨h.1.q hq,h.2.q hq⟩,fun fn g args v hg hx c vs hb hv=>?_,fun _ _ _ h=>(by cases h),fun _ _=>⟨fun h=>(by cases h),fun h=>(by cases h)⟩,fun _ _ _ _ _ h=>(by cases h)⟩;exact aNa _ (wC (show (T.ofL aD6:T 3 _).get fn=some g from hg)) args v hx c vs hb.1 hb.2 hv
theorem f0:FOk F0:=aTK fun f G h=>by
 have:=aCT aFj h;unfold ngB at this;simpa using this
theorem mixed:F0.P.follows .mixedOrders=true:=by decide+kernel
theorem aPO{F:Cf}(hF:FOk F)(hm:F.P.follows .mixedOrders=true){m fn:Nat}{v:AV}{h':H}(hx:aDW F m fn []=some (v,h'))(w:World)(hb:F.tb w):
  Calls F.P fn #[] w fun e w'=>∃u d,e=.returned u∧d.w=w'∧Q w w'∧VR d v u:=by
 have hx2:fU F (exec F m) fn [] ⟨.lf,0,0,.lf⟩=some (v,h'):=hx;obtain⟨-,hcr⟩:=jO (vs:=[]) hF (xI hF hm m) hx2 (xK F.P.cellsOf w) (fun _=>rfl) hb trivial;refine Calls.mono hcr ?_;rintro e w' ⟨u,d,h1,h2,h3,h4,h5⟩;exact⟨u,d,h1,h2,h2▸h4.q,h5⟩
theorem closed{m fn:Nat}{v:AV}{h':H}(hx:aDW F0 m fn []=some (v,h'))(w:World)(hT:Tb w)(hP:Px w):
  Calls Tryz.prog fn #[] w fun e w'=>∃u d,e=.returned u∧d.w=w'∧Q w w'∧VR d v u:=
 aPO f0 mixed hx w ⟨hT,hP⟩
def okB(r:Option VH):Bool:=match r with|some (.c false [.b true],_)=>true|_=>false
theorem aPP{m fn:Nat}(hx:okB (aDW F0 m fn [])=true)(w:World)(hT:Tb w)(hP:Px w):
  Calls Tryz.prog fn #[] w fun e w'=>e=.returned (.bool true)∧Q w w':=by
 unfold okB at hx;split at hx
 ·rename_i h' hc;refine (closed hc w hT hP).mono ?_;rintro e w' ⟨u,d,h1,h2,h3,x,h4,h5⟩;injection h4 with h4;subst h4;rw[h1,show u=.bool true from h5];exact⟨rfl,h3⟩
 ·cases hx
end E
end Go.Proofs.YtohcfjmkfflkpaaGreatDoor
