/- FilterFamilies holds. No condition. -/
import Derived.Test.YtohcfjmkfflkpaaGreatDoorQf21
set_option maxRecDepth 100000
namespace Go.Proofs.YtohcfjmkfflkpaaGreatDoor
namespace J
open Go Go.RowKit
open Ma Me K E Po
section
variable {W0:World} {xs ys:List Rat} {x:Rat}
theorem tk{i:Nat}(hi:i<(ct xs).length):((C xs).take (ct xs).length)[i]? =some (bC (cf (ct xs) i)):=by
 rw[aGf,aA4];exact yD (iA hi)
theorem aOk{A0 B0:Nat}(hn1:xs.length<1000000)(hn2:ys.length<1000000)(hA:∀i,Ma.sz (cf xs i)≤A0)(hB:∀i,Ma.sz (cf ys i)≤B0)(hA2:2≤A0)(hz:2*(xs.length*(A0+B0))+(A0+B0)+xs.length+2≤aJ):Fx (F2 W0) 59 [.l aN xs.length (C xs),.l aN ys.length (C ys)] (.r [.l aN (bL xs ys).length (C (bL xs ys))]):=by
 have hc1:=fG xs;have hc2:=fG ys;have hcut1:=aEe (W0:=W0) hn1 fun i=>Nat.le_trans (hA i) (by omega);have hcut2:=aEe (W0:=W0) hn2 fun i=>Nat.le_trans (hB i) (by omega);obtain⟨p,hp⟩:∃p,ct xs=p:=⟨_,rfl⟩
 obtain⟨q,hq⟩:∃q,ct ys=q:=⟨_,rfl⟩
 have hLp:∀i,i<p.length→((C xs).take p.length)[i]? =some (bC (cf p i)):=fun i hi=>by rw[←hp]at hi⊢;exact tk hi
 have hLq:∀i,i<q.length→((C ys).take q.length)[i]? =some (bC (cf q i)):=fun i hi=>by rw[←hq]at hi⊢;exact tk hi
 have hA':∀i,Ma.sz (cf p i)≤A0:=fun i=>by rw[←hp,gV];exact hA i
 have hB':∀i,Ma.sz (cf q i)≤B0:=fun i=>by rw[←hq,gV];exact hB i
 have hE:p=[]∨q=[]→bL xs ys=[]:=fun h=>by unfold bL;rw[hp,hq,if_pos h]
 have hR:¬(p=[]∨q=[])→bL xs ys=mkP (p.length+q.length-1) (cv (cf p) (cf q)):=fun h=>by unfold bL;rw[hp,hq,if_neg h]
 rw[hp]at hcut1 hc1;rw[hq]at hcut2 hc2;have nil:p=[]∨q=[]→(bL xs ys).length=0∧C (bL xs ys)=[]:=fun h=>by rw[hE h];exact⟨rfl,rfl⟩
 refine Fx.by_ tG aV Tryz.func59 rfl (by kernel_rfl) (by kernel_rfl) rfl ⟨_,hcut1,hc1,_,hcut2,hc2,dt (fun h=>⟨nil (.inl (List.eq_nil_of_length_eq_zero (by omega))),trivial⟩) fun h1=>dt (fun h=>⟨nil (.inr (List.eq_nil_of_length_eq_zero (by omega))),trivial⟩) fun h2=>?_⟩;have z1:0<p.length:=by omega
 have z2:0<q.length:=by omega
 rw[hR fun h=>h.elim (fun e=>by rw[e]at z1;cases z1) fun e=>by rw[e]at z2;cases z2];obtain⟨N,hN⟩:∃N,p.length+q.length-1=N:=⟨_,rfl⟩
 rw[hN,bH];have hM:∀i j,i<p.length→j<q.length→((i:Int)+(j:Int))=((i+j:Nat):Int)∧i+j<N:=fun i j _ _=>⟨by omega,by omega⟩
 have hF:∀i j,i<p.length→j<q.length→(C (mkP N (mF p q i j)))[i+j]? =some (bC (mF p q i j (i+j))):=fun i j h1 h2=>yD (tL (hM i j h1 h2).2);have hS:∀i j,(C (mkP N (mF p q i j))).set (i+j) (bC (mF p q i j (i+j)+cf p i*cf q j))=C (mkP N (mF p q i (j+1))):=fun i j=>by rw[aEc,aLt]
 have hX:∀i:Nat,C (mkP N (mF p q i q.length))=C (mkP N (mF p q (i+1) 0)):=fun i=>by rw[aHR]
 have s1:∀i j,i<p.length→Ma.sz (mF p q i j (i+j))≤aJ:=fun i j hi=>Nat.le_trans (aOi hA' hB' hA2) (by
  have h1:=Nat.mul_le_mul_right (A0+B0) (show i+1≤xs.length by omega);omega)
 have s2:∀i j,Ma.sz (cf p i*cf q j)≤aJ:=fun i j=>Nat.le_trans (dI _ _) (by have:=hA' i;have:=hB' j;omega);refine⟨⟨by omega,by omega⟩,⟨by omega,by omega⟩,rfl,N,by omega,⟨(show N*56≤_ by omega),by omega⟩,{i:Nat // i≤p.length},fun i=>([(1,.l aN (.ar 1) q.length ((C ys).take q.length)),(5,.s 0 (some N)),(29,.l aN (.ar 0) p.length ((C xs).take p.length)),(30,.a (sc (.i .i64 (p.length:Int)))),(31,.a (sc (.i .i64 (i.1:Int))))],[.l aN N (C (mkP N (mF p q i.1 0)))]),fun i=>p.length-i.1,⟨⟨0,Nat.zero_le _⟩,[true],rfl,(show [W.l aN N (List.replicate N [SV.b false,.m 0,.m 0])]=[W.l aN N (C (mkP N (mF p q 0 0)))] by rw[aEd,←aBC,qD fun k _=>(aHQ (p:=p) (q:=q) (k:=k)).symm]),rfl,rfl,rfl,rfl,rfl,trivial⟩,fun i=>?_⟩;obtain⟨i,hi⟩:=i;refine dt (fun h=>?_) fun h=>?_
 ·have hlt:i<p.length:=(by have h:(i:Int)<(p.length:Int):=h;omega);refine⟨i,rfl,_,hLp i hlt,{j:Nat // j≤q.length},fun j=>([(1,.l aN (.ar 1) q.length ((C ys).take q.length)),(5,.s 0 (some N)),(29,.l aN (.ar 0) p.length ((C xs).take p.length)),(30,.a (sc (.i .i64 (p.length:Int)))),(31,.a (sc (.i .i64 (i:Int)))),(6,.a (sc (.i .i64 (i:Int)))),(7,.p 1 0),(36,.l aN (.ar 1) q.length ((C ys).take q.length)),(37,.a (sc (.i .i64 (q.length:Int)))),(38,.a (sc (.i .i64 (j.1:Int))))],[.c ⟨41,bC (cf p i)⟩,.l aN N (C (mkP N (mF p q i j.1)))]),fun j=>q.length-j.1,⟨⟨0,Nat.zero_le _⟩,[true,true],rfl,rfl,rfl,rfl,rfl,rfl,rfl,rfl,rfl,rfl,rfl,rfl,trivial⟩,fun j=>?_⟩;obtain⟨j,hj⟩:=j;refine dt (fun h=>?_) fun h=>?_
  ·have hlj:j<q.length:=(by have h:(j:Int)<(q.length:Int):=h;omega);obtain⟨e1,e2⟩:=hM i j hlt hlj;exact⟨j,rfl,_,hLq j hlj,by kernel_rfl,⟨by omega,by omega⟩,⟨by omega,by omega⟩,i+j,e1,e2,_,hF i j hlt hlj,_,aA5 (Nat.le_trans (hA' i) (by omega)) (Nat.le_trans (hB' j) (by omega)),_,aOj (s1 i j hlt) (s2 i j),i+j,e1,e2,e2,⟨by omega,by omega⟩,⟨j+1,hlj⟩,(show q.length-(j+1)<q.length-j by omega),[false,true,true],rfl,congrArg (fun z=>[W.c ⟨41,bC (cf p i)⟩,W.l aN N z]) (hS i j),rfl,rfl,rfl,rfl,rfl,rfl,rfl,rfl,rfl,rfl,trivial⟩
  ·have h:¬(j:Int)<(q.length:Int):=h;obtain rfl:j=q.length:=(by omega);exact⟨⟨by omega,by omega⟩,⟨i+1,hlt⟩,(show p.length-(i+1)<p.length-i by omega),[false,true],rfl,congrArg (fun z=>[W.l aN N z]) (hX i),rfl,rfl,rfl,rfl,rfl,trivial⟩
 ·have h:¬(i:Int)<(p.length:Int):=h;obtain rfl:i=p.length:=(by omega);exact⟨⟨rfl,rfl,by rw[aGc]⟩,trivial⟩
theorem aJf{k:Nat}(h:k≤1000000):-9223372036854775808≤((k+1:Nat):Int)-1-1∧((k+1:Nat):Int)-1-1<9223372036854775808:=⟨by omega,by omega⟩
theorem yk{k:Nat}:some (Y.a (sc (.i .i64 (((k+1:Nat):Int)-1-1))))=some (Y.a (sc (.i .i64 ((k:Int)-1)))):=yi (by omega)
theorem cN{a b:Rat}{l:List W}(h:a=b):W.c ⟨41,bC a⟩::l=W.c ⟨41,bC b⟩::l:=by rw[h]
end
def CR(xs:List Rat):List (List SV):=xs.map encR
theorem pK{xs:List Rat}{j:Nat}{x:Rat}(h:xs[j]? =some x):(CR xs)[j]? =some (encR x):=by unfold CR;rw[List.getElem?_map,h];rfl
theorem aSC{xs:List Rat}{j:Nat}{x:Rat}:(CR xs).set j (encR x)=CR (xs.set j x):=by unfold CR;rw[List.map_set]
theorem aQd{xs:List Rat}{n:Nat}:(CR xs).take n=CR (xs.take n):=by unfold CR;rw[List.map_take]
theorem aSD{n:Nat}:List.replicate n [SV.i .i64 0,.r 0,.r 0]=CR (List.replicate n 0):=by unfold CR;rw[List.map_replicate,aCs]
theorem aQe{xs:List Rat}:∀x∈CR xs,calm x=true:=fun x hx=>by
 obtain⟨q,-,rfl⟩:=List.mem_map.1 hx;rfl
theorem aGg{n:Nat}{g:Nat→Rat}:mkP n g++[g n]=mkP (n+1) g:=by unfold mkP;rw[List.range_succ,List.map_append];rfl
theorem aDf{n:Nat}{g:Nat→Rat}:CR (mkP n g)++[encR (g n)]=CR (mkP (n+1) g):=by rw[←aGg];unfold CR;rw[List.map_append];rfl
theorem Fx.ns{F:Cf}{f ty:Nat}{r:X}(h:Fx F f [.l ty 0 []] r):Fx F f [.v (sc .ns)] r:=fun g vs hb hl ha=>h g vs hb hl (match vs,ha with| [_],ha=>⟨.inl ⟨ha.1,rfl,rfl⟩,trivial⟩)
section
variable {W0:World} {xs ys:List Rat} {x:Rat}
theorem qE(hn:xs.length<1000000)(hz:∀i,Ma.sz (cf xs i)≤aJ):Fx (F2 W0) 50 [.l 45 xs.length (CR xs)] (.r [.l 45 (ct xs).length (CR (ct xs))]):=by
 have hc:=fG xs;refine Fx.by_ tG aV Tryz.func50 rfl (by kernel_rfl) (by kernel_rfl) rfl ⟨{i:Nat // i≤xs.length∧∀k,i≤k→cf xs k=0},fun i=>([(0,.l 45 (.ar 0) xs.length (CR xs)),(3,.a (sc (.i .i64 (i.1:Int))))],[]),fun i=>i.1,⟨⟨xs.length,Nat.le_refl _,fun k hk=>dS hk⟩,[],rfl,rfl,rfl,rfl,trivial⟩,fun i=>?_⟩;obtain⟨i,hi,h0⟩:=i;have fin:i=0∨cf xs (i-1)≠0→i=(ct xs).length∧(CR xs).take i=CR (ct xs):=fun h=>by
  have e:=aDC hi h0 h;exact⟨e.symm,by rw[←e,aQd,aA4]⟩
 have hcal:∀x∈(CR xs).take i,calm x=true:=fun x hx=>aQe x (List.mem_of_mem_take hx);refine dt (fun h=>?_) fun h=>?_
 ·have hp:0<i:=(by have h:(0:Int)<(i:Int):=h;omega);have e1:(i:Int)-1=((i-1:Nat):Int):=(by omega);refine⟨aDe (i:=i) (by omega),i-1,e1,_,pK (iA (by omega)),_,iQ (hz _),dt (fun h1=>⟨aDe (i:=i) (by omega),⟨i-1,by omega,fun k hk=>by
   rcases Nat.eq_or_lt_of_le hk with rfl|hk
   ·exact aX.1 h1
   ·exact h0 k (by omega)⟩,(show i-1<i by omega),[],rfl,rfl,rfl,yi e1,trivial⟩) fun h1=>?_⟩
  obtain⟨f1,f2⟩:=fin (.inr fun e=>h1 (aX.2 e));exact⟨i,rfl,hi,⟨(show i*56<_ by omega),(show i<_ by omega),hcal⟩,⟨rfl,f1,f2⟩,trivial⟩
 ·have h:¬(0:Int)<(i:Int):=h;obtain⟨f1,f2⟩:=fin (.inl (by omega));exact⟨i,rfl,hi,⟨(show i*56<_ by omega),(show i<_ by omega),hcal⟩,⟨rfl,f1,f2⟩,trivial⟩
theorem aT1(hn:xs.length<1000000)(hz:∀i,Ma.sz (cf xs i)≤aJ):Fx (F2 W0) 98 [.l 45 xs.length (CR xs)] (.v (sc (.i .i64 (((ct xs).length:Int)-1)))):=
 have hc:=fG xs
 Fx.by_ tG aV Tryz.func98 rfl (by kernel_rfl) (by kernel_rfl) rfl ⟨_,qE hn hz,⟨by omega,by omega⟩,rfl⟩
theorem aJg{i:Nat}:Fx (F2 W0) 100 [.l 45 xs.length (CR xs),.v (sc (.i .i64 (i:Int)))] (.v (rm (cf xs i))):=
 Fx.by_ tG aV Tryz.func100 rfl (by kernel_rfl) (by kernel_rfl) rfl (dt (fun h=>⟨i,rfl,_,pK (iA (by omega)),rfl⟩) fun h=>rm0.trans (congrArg rm (show (0:Rat)=cf xs i from (dS (by omega)).symm)))
def gro(sl k:Nat)(rest:List (Nat × Y))(bs:List W)(g:Nat→Rat):List (Nat × Y) × List W:=match k with
 |0=>((sl,.a (sc .ns))::rest,bs)
 |k+1=>((sl,.s bs.length none)::rest,.l 45 (k+1) (CR (mkP (k+1) g))::bs)
theorem g1{g:Nat→Rat}{x:Rat}{bs:List W}(h:x=g 0):W.l 45 1 [encR x]::bs=W.l 45 1 (CR (mkP 1 g))::bs:=by rw[h];rfl
theorem g2{g:Nat→Rat}{x:Rat}{bs:List W}{k:Nat}(h:x=g k):W.l 45 (k+1) (CR (mkP k g)++[encR x])::bs=W.l 45 (k+1) (CR (mkP (k+1) g))::bs:=by rw[h,aDf]
theorem aT2(hn1:xs.length<1000000)(hn2:ys.length<1000000)(hz1:∀i,Ma.sz (cf xs i)≤aJ)(hz2:∀i,Ma.sz (cf ys i)≤aJ)(hz:∀i,Ma.sz (cf xs i+cf ys i)≤aJ):Fx (F2 W0) 52 [.l 45 xs.length (CR xs),.l 45 ys.length (CR ys)] (.r [.l 45 (lK xs ys).length (CR (lK xs ys))]):=by
 unfold lK;obtain⟨M,hM⟩:∃m,max xs.length ys.length=m:=⟨_,rfl⟩
 obtain⟨g,hg⟩:∃g:Nat→Rat,(fun i=>cf xs i+cf ys i)=g:=⟨_,rfl⟩
 have hgi:∀i,cf xs i+cf ys i=g i:=fun i=>congrFun hg i;rw[hM,hg];have hT:=qE (W0:=W0) (xs:=mkP M g) (by rw[bH];omega) (fun i=>by
  rw[fT];split
  ·rw[←hgi];exact hz i
  ·exact sz0)
 rw[bH]at hT;refine Fx.by_ tG aV Tryz.func52 rfl (by kernel_rfl) (by kernel_rfl) rfl ⟨{i:Nat // i≤M},fun i=>gro 5 i.1 [(0,.l 45 (.ar 0) xs.length (CR xs)),(1,.l 45 (.ar 1) ys.length (CR ys)),(6,.a (sc (.i .i64 (i.1:Int))))] [] g,fun i=>M-i.1,⟨⟨0,Nat.zero_le _⟩,[],rfl,rfl,rfl,rfl,rfl,rfl,trivial⟩,fun i=>?_⟩;obtain⟨i,hi⟩:=i;cases i with
 |zero=>
  have go:∀h:0<M,True:=fun _=>trivial;refine dt (fun h=>?_) fun h=>dt (fun h2=>?_) fun h2=>?_
  rotate_left 2
  ·obtain rfl:M=0:=by
     have h:¬((0:Nat):Int)<(xs.length:Int):=h;have h2:¬((0:Nat):Int)<(ys.length:Int):=h2;omega
   exact⟨_,hT.ns,⟨rfl,rfl,rfl⟩,trivial⟩
  all_goals
    have hlt:0<M:=by
     first
      |(have h2:((0:Nat):Int)<(ys.length:Int):=h2;omega)
      |(have h:((0:Nat):Int)<(xs.length:Int):=h;omega)
    exact⟨_,aJg (i:=0),_,aJg (i:=0),_,aGe (hz1 0) (hz2 0),(by decide),add1 (i:=0) (by decide),⟨1,hlt⟩,(show M-1<M-0 by omega),[true,false],rfl,g1 (hgi 0),rfl,rfl,rfl,rfl,trivial⟩
 |succ i=>
  refine dt (fun h=>?_) fun h=>dt (fun h2=>?_) fun h2=>?_
  rotate_left 2
  ·obtain rfl:i+1=M:=by
     have h:¬((i+1:Nat):Int)<(xs.length:Int):=h;have h2:¬((i+1:Nat):Int)<(ys.length:Int):=h2;omega
   exact⟨_,hT,⟨rfl,rfl,rfl⟩,trivial⟩
  all_goals
    have hlt:i+1<M:=by
     first
      |(have h2:((i+1:Nat):Int)<(ys.length:Int):=h2;omega)
      |(have h:((i+1:Nat):Int)<(xs.length:Int):=h;omega)
    exact⟨_,aJg (i:=i+1),_,aJg (i:=i+1),_,aGe (hz1 _) (hz2 _),⟨(show (i+1+1)*56<_ by omega),(show i+1+1<_ by omega)⟩,add1 (i:=i+1) (by omega),⟨i+2,hlt⟩,(show M-(i+2)<M-(i+1) by omega),[true,false,false],rfl,g2 (hgi (i+1)),rfl,rfl,rfl,rfl,trivial⟩
theorem aQf(hn:xs.length<1000000)(hz1:∀i,Ma.sz (cf xs i)≤aJ)(hx:Ma.sz x≤aJ)(hz:∀i,Ma.sz (cf xs i*x)≤aJ):Fx (F2 W0) 53 [.l 45 xs.length (CR xs),.v (rm x)] (.r [.l 45 (fK xs x).length (CR (fK xs x))]):=by
 unfold fK;obtain⟨M,hM⟩:∃m,xs.length=m:=⟨_,rfl⟩
 obtain⟨g,hg⟩:∃g:Nat→Rat,(fun i=>cf xs i*x)=g:=⟨_,rfl⟩
 have hgi:∀i,cf xs i*x=g i:=fun i=>congrFun hg i;have hL:∀i,i<M→(CR xs)[i]? =some (encR (cf xs i)):=fun i hi=>pK (iA (by omega));rw[hM,hg];have hT:=qE (W0:=W0) (xs:=mkP M g) (by rw[bH];omega) (fun i=>by
  rw[fT];split
  ·rw[←hgi];exact hz i
  ·exact sz0)
 rw[bH]at hT;refine Fx.by_ tG aV Tryz.func53 rfl (by kernel_rfl) (by kernel_rfl) rfl ⟨{i:Nat // i≤M},fun i=>gro 5 i.1 [(0,.l 45 (.ar 0) M (CR xs)),(3,.p 0 0),(6,.a (sc (.i .i64 (i.1:Int))))] [.c ⟨45,encR x⟩] g,fun i=>M-i.1,⟨⟨0,Nat.zero_le _⟩,[true],rfl,rfl,rfl,rfl,rfl,rfl,trivial⟩,fun i=>?_⟩;obtain⟨i,hi⟩:=i;cases i with
 |zero=>
  refine dt (fun h=>?_) fun h=>?_
  ·have hlt:0<M:=(by have h:((0:Nat):Int)<(M:Int):=h;omega);exact⟨by kernel_rfl,0,rfl,_,hL 0 hlt,_,nP (hz1 0) hx,(by decide),add1 (i:=0) (by decide),⟨1,hlt⟩,(show M-1<M-0 by omega),[true,false,true],rfl,g1 (hgi 0),rfl,rfl,rfl,rfl,trivial⟩
  ·obtain rfl:M=0:=(by have h:¬((0:Nat):Int)<(M:Int):=h;omega);exact⟨_,hT.ns,⟨rfl,rfl,rfl⟩,trivial⟩
 |succ i=>
  refine dt (fun h=>?_) fun h=>?_
  ·have hlt:i+1<M:=(by have h:((i+1:Nat):Int)<(M:Int):=h;omega);exact⟨by kernel_rfl,i+1,rfl,_,hL (i+1) hlt,_,nP (hz1 _) hx,⟨(show (i+1+1)*56<_ by omega),(show i+1+1<_ by omega)⟩,add1 (i:=i+1) (by omega),⟨i+2,hlt⟩,(show M-(i+2)<M-(i+1) by omega),[true,false,false,true],rfl,g2 (hgi (i+1)),rfl,rfl,rfl,rfl,trivial⟩
  ·obtain rfl:i+1=M:=(by have h:¬((i+1:Nat):Int)<(M:Int):=h;omega);exact⟨_,hT,⟨rfl,rfl,rfl⟩,trivial⟩
end
section
variable {W0:World} {xs ys:List Rat} {x:Rat}
theorem aCx(ys:List Rat)(x:Rat)(i:Nat):cf (fK ys x) i=cf ys i*x:=by
 unfold fK;rw[gV,fT];split
 ·rfl
 ·rw[dS (by omega),Rat.zero_mul]
theorem aCy(ys:List Rat)(x:Rat):(fK ys x).length≤ys.length:=by
 have:=fG (mkP ys.length fun i=>cf ys i*x);rw[bH]at this;exact this
theorem aSE(xs ys:List Rat):ct (mkP (xs.length+ys.length) (cv (cf xs) (cf ys)))=bL xs ys:=xA (nD _) (aGY _ _) fun n=>by
 rw[gV,mkP_cf' fun i hi=>aGX (by omega),nU]
theorem aOl{A0 B0:Nat}(hn1:xs.length<100000)(hn2:ys.length<100000)(hA:∀i,Ma.sz (cf xs i)≤A0)(hB:∀i,Ma.sz (cf ys i)≤B0)(hA2:2≤A0)(hz:2*((xs.length+1)*(A0+B0))+(A0+B0)+xs.length+3≤aJ):Fx (F2 W0) 51 [.l 45 xs.length (CR xs),.l 45 ys.length (CR ys)] (.r [.l 45 (bL xs ys).length (CR (bL xs ys))]):=by
 obtain⟨N,hN⟩:∃N,xs.length+ys.length=N:=⟨_,rfl⟩
 have hLp:∀i,i<xs.length→(CR xs)[i]? =some (encR (cf xs i)):=fun i hi=>pK (iA hi);have hLq:∀i,i<ys.length→(CR ys)[i]? =some (encR (cf ys i)):=fun i hi=>pK (iA hi);have s0:∀i j k,i≤xs.length→Ma.sz (mF xs ys i j k)≤aJ:=fun i j k hi=>Nat.le_trans (aOi hA hB hA2) (by
  have h1:=Nat.mul_le_mul_right (A0+B0) (show i+1≤xs.length+1 by omega);omega)
 have hT:=qE (W0:=W0) (xs:=mkP N (mF xs ys xs.length 0)) (by rw[bH];omega) (fun i=>by
  rw[fT];split
  ·exact s0 _ _ _ (Nat.le_refl _)
  ·exact sz0)
 rw[bH,aGc,←hN,aSE,hN]at hT;have hM:∀i j,i<xs.length→j<ys.length→((i:Int)+(j:Int))=((i+j:Nat):Int)∧i+j<N:=fun i j _ _=>⟨by omega,by omega⟩
 have hF:∀i j,i<xs.length→j<ys.length→(CR (mkP N (mF xs ys i j)))[i+j]? =some (encR (mF xs ys i j (i+j))):=fun i j h1 h2=>pK (tL (hM i j h1 h2).2);have hS:∀i j,(CR (mkP N (mF xs ys i j))).set (i+j) (encR (mF xs ys i j (i+j)+cf xs i*cf ys j))=CR (mkP N (mF xs ys i (j+1))):=fun i j=>by rw[aSC,aLt]
 have hX:∀i,CR (mkP N (mF xs ys i ys.length))=CR (mkP N (mF xs ys (i+1) 0)):=fun i=>by rw[aHR]
 have s2:∀i j,Ma.sz (cf xs i*cf ys j)≤aJ:=fun i j=>Nat.le_trans (dI _ _) (by have:=hA i;have:=hB j;omega);refine Fx.by_ tG aV Tryz.func51 rfl (by kernel_rfl) (by kernel_rfl) rfl ⟨⟨by omega,by omega⟩,rfl,N,by omega,⟨(show N*56≤_ by omega),by omega⟩,{i:Nat // i≤xs.length},fun i=>([(0,.l 45 (.ar 0) xs.length (CR xs)),(1,.l 45 (.ar 1) ys.length (CR ys)),(5,.s 0 (some N)),(6,.a (sc (.i .i64 (i.1:Int))))],[.l 45 N (CR (mkP N (mF xs ys i.1 0)))]),fun i=>xs.length-i.1,⟨⟨0,Nat.zero_le _⟩,[true],rfl,(show [W.l 45 N (List.replicate N [SV.i .i64 0,.r 0,.r 0])]=[W.l 45 N (CR (mkP N (mF xs ys 0 0)))] by rw[aSD,←aBC,qD fun k _=>(aHQ (p:=xs) (q:=ys) (k:=k)).symm]),rfl,rfl,rfl,rfl,trivial⟩,fun i=>?_⟩;obtain⟨i,hi⟩:=i;refine dt (fun h=>?_) fun h=>?_
 ·have hlt:i<xs.length:=(by have h:(i:Int)<(xs.length:Int):=h;omega);refine⟨{j:Nat // j≤ys.length},fun j=>([(0,.l 45 (.ar 0) xs.length (CR xs)),(1,.l 45 (.ar 1) ys.length (CR ys)),(5,.s 0 (some N)),(6,.a (sc (.i .i64 (i:Int)))),(7,.a (sc (.i .i64 (j.1:Int))))],[.l 45 N (CR (mkP N (mF xs ys i j.1)))]),fun j=>ys.length-j.1,⟨⟨0,Nat.zero_le _⟩,[true],rfl,rfl,rfl,rfl,rfl,rfl,rfl,trivial⟩,fun j=>?_⟩;obtain⟨j,hj⟩:=j;refine dt (fun h=>?_) fun h=>?_
  ·have hlj:j<ys.length:=(by have h:(j:Int)<(ys.length:Int):=h;omega);obtain⟨e1,e2⟩:=hM i j hlt hlj;exact⟨by kernel_rfl,⟨by omega,by omega⟩,⟨by omega,by omega⟩,i+j,e1,e2,i,rfl,_,hLp i hlt,j,rfl,_,hLq j hlj,_,hF i j hlt hlj,_,nP (Nat.le_trans (hA i) (by omega)) (Nat.le_trans (hB j) (by omega)),_,aGe (s0 i j _ hi) (s2 i j),i+j,e1,e2,e2,add1 (i:=j) (by omega),⟨j+1,hlj⟩,(show ys.length-(j+1)<ys.length-j by omega),[true],rfl,congrArg (fun z=>[W.l 45 N z]) (hS i j),rfl,rfl,rfl,rfl,rfl,trivial⟩
  ·have h:¬(j:Int)<(ys.length:Int):=h;obtain rfl:j=ys.length:=(by omega);exact⟨add1 (i:=i) (by omega),⟨i+1,hlt⟩,(show xs.length-(i+1)<xs.length-i by omega),[true],rfl,congrArg (fun z=>[W.l 45 N z]) (hX i),rfl,rfl,rfl,rfl,trivial⟩
 ·have h:¬(i:Int)<(xs.length:Int):=h;obtain rfl:i=xs.length:=(by omega);have hT':=hT;rw[←aGc]at hT';exact⟨_,hT',⟨rfl,rfl,rfl⟩,trivial⟩
theorem cNR{a b:Rat}{l:List W}(h:a=b):W.c ⟨45,encR a⟩::l=W.c ⟨45,encR b⟩::l:=by rw[h]
end
def nQ(ss:List (List Nat)):Bool:=decide (60<ss.length) || ss.any fun s=>decide (60<s.length)
def aDg(sss:List (List (List Nat))):Bool:=sss.any nQ
theorem aQg{ss:List (List Nat)}(h1:ss.length≤60)(h2:∀(j:Nat) s,ss[j]? =some s→s.length≤60):nQ ss=false:=by
 unfold nQ;rw[decide_eq_false (by omega),Bool.false_or,List.any_eq_false];intro s hs;obtain⟨j,hj⟩:=List.getElem?_of_mem hs;have:=h2 j s hj;simp;omega
theorem aBD{ss:List (List Nat)}(h:60<ss.length):nQ ss=true:=by
 unfold nQ;rw[decide_eq_true h];rfl
theorem aQh{ss:List (List Nat)}{j:Nat}{s:List Nat}(hj:ss[j]? =some s)(h:60<s.length):nQ ss=true:=by
 unfold nQ;rw[Bool.or_eq_true];exact .inr (List.any_eq_true.2 ⟨s,List.mem_of_getElem? hj,decide_eq_true h⟩)
theorem aHT{sss:List (List (List Nat))}{j:Nat}{ss:List (List Nat)}(hj:sss[j]? =some ss)(h:nQ ss=true):aDg sss=true:=List.any_eq_true.2 ⟨ss,List.mem_of_getElem? hj,h⟩
theorem aQi{sss:List (List (List Nat))}(h:∀(j:Nat) ss,sss[j]? =some ss→nQ ss=false):aDg sss=false:=by
 unfold aDg;rw[List.any_eq_false];intro ss hs;obtain⟨j,hj⟩:=List.getElem?_of_mem hs;rw[h j ss hj];decide
theorem aNt{q:Rat}:svL (encR q) (encR q)=true:=by
 show cb (cb (decide (IntKind.i64=IntKind.i64)) (iEq (sn q) (sn q)) false) (cb (Nat.beq q.num.natAbs q.num.natAbs) (cb (Nat.beq (rd_ q) (rd_ q)) true false) false) false=true;rw[(show iEq (sn q) (sn q)=true by rw[pY];exact decide_eq_true rfl),Nat.beq_refl,Nat.beq_refl];rfl
theorem aHU{q:Rat}:avb (.c true (encR q)) (.c true (encR q))=true:=aNt
def S(ss:List (List Nat)):List (List SV):=ss.map fun s=>[.s s]
theorem aDh{ss:List (List Nat)}{j:Nat}{s:List Nat}(h:ss[j]? =some s):(S ss)[j]? =some [.s s]:=by unfold S;rw[List.getElem?_map,h];rfl
def LL(sss:List (List (List Nat))):List (Nat × Nat × List (List SV)):=sss.map fun ss=>(23,ss.length,S ss)
theorem aOm{sss:List (List (List Nat))}{j:Nat}{ss:List (List Nat)}(h:sss[j]? =some ss):(LL sss)[j]? =some (23,ss.length,S ss):=by unfold LL;rw[List.getElem?_map,h];rfl
theorem bT{b:Bool}(h:b=true):sc (.b true)=sc (.b b):=by rw[h]
theorem bF{b:Bool}(h:b=false):sc (.b false)=sc (.b b):=by rw[h]
section
variable {W0:World}
theorem aQj{sss:List (List (List Nat))}(hn:(LL sss).length<1000):Fx (F2 W0) 18 [.ls 22 (LL sss)] (.v (sc (.b (aDg sss)))):=by
 obtain⟨n,hN⟩:∃n,(LL sss).length=n:=⟨_,rfl⟩
 have hN2:sss.length=n:=by rw[←hN];unfold LL;rw[List.length_map]
 refine Fx.by_ tG aV Tryz.func18 rfl (by kernel_rfl) (by kernel_rfl) rfl ⟨{i:Nat // i≤n∧∀(j:Nat) ss,j<i→sss[j]? =some ss→nQ ss=false},fun i=>([(0,.ls 22 (LL sss)),(3,.a (sc (.i .i64 (i.1:Int))))],[]),fun i=>n-i.1,⟨⟨0,Nat.zero_le _,fun _ _ h=>by cases h⟩,[],rfl,rfl,rfl,rfl,trivial⟩,fun i=>?_⟩;obtain⟨i,hi,hb⟩:=i;refine dt (fun h=>?_) fun h=>?_
 ·have hlt:i<n:=(by have h:(i:Int)<((LL sss).length:Int):=h;omega);obtain⟨ss,hss⟩:∃ss,sss[i]? =some ss:=⟨_,List.getElem?_eq_getElem (by omega)⟩
  have hp:=aOm hss;refine⟨i,rfl,_,hp,dt (fun h1=>bT (aHT hss (aBD (by have h1:(60:Int)<(ss.length:Int):=h1;omega)))) fun h1=>⟨{k:Nat // k≤ss.length∧∀(j:Nat) s,j<k→ss[j]? =some s→s.length≤60},fun k=>([(0,.ls 22 (LL sss)),(3,.a (sc (.i .i64 (i:Int)))),(4,.a (sc (.i .i64 (k.1:Int))))],[]),fun k=>ss.length-k.1,⟨⟨0,Nat.zero_le _,fun _ _ h=>by cases h⟩,[],rfl,rfl,rfl,rfl,rfl,trivial⟩,fun k=>?_⟩⟩;obtain⟨k,hk,hs⟩:=k;refine⟨i,rfl,_,hp,dt (fun h2=>?_) fun h2=>?_⟩
  ·have h1':¬(60:Int)<(ss.length:Int):=h1;have hlk:k<ss.length:=(by have h2:(k:Int)<(ss.length:Int):=h2;omega);obtain⟨s,hsk⟩:∃s,ss[k]? =some s:=⟨_,List.getElem?_eq_getElem hlk⟩
   exact⟨i,rfl,_,hp,k,rfl,_,aDh hsk,dt (fun h3=>bT (aHT hss (aQh hsk (by have h3:(60:Int)<(s.length:Int):=h3;omega)))) fun h3=>⟨add1 (i:=k) (by omega),⟨k+1,hlk,fun j t hj ht=>by
    rcases Nat.lt_or_ge j k with hjk|hjk
    ·exact hs j t hjk ht
    ·obtain rfl:j=k:=(by omega);rw[hsk]at ht;cases ht;have h3:¬(60:Int)<(s.length:Int):=h3;omega⟩,(show ss.length-(k+1)<ss.length-k by omega),[],rfl,rfl,rfl,rfl,rfl,trivial⟩⟩
  ·have h2:¬(k:Int)<(ss.length:Int):=h2;have h1:¬(60:Int)<(ss.length:Int):=h1;exact⟨add1 (i:=i) (by omega),⟨i+1,hlt,fun j t hj ht=>by
    rcases Nat.lt_or_ge j i with hjk|hjk
    ·exact hb j t hjk ht
    ·obtain rfl:j=i:=(by omega);rw[hss]at ht;cases ht;exact aQg (by omega) fun j s hj=>hs j s (by have:=(List.getElem?_eq_some_iff.1 hj).1;omega) hj⟩,(show n-(i+1)<n-i by omega),[],rfl,rfl,rfl,rfl,trivial⟩
 ·have h:¬(i:Int)<((LL sss).length:Int):=h;exact bF (aQi fun j ss hj=>hb j ss (by have:=(List.getElem?_eq_some_iff.1 hj).1;omega) hj)
theorem eqS{dd:Dk}{l:List Nat}:bop dd .eql (.s l) (.s l)=some (.b true):=by
 show eqv .eql (eqL l l)=_;rw[sK,decide_eq_true rfl];rfl
theorem aQk{p:Rat}(hp:Ma.sz p≤aJ):Fx (F2 W0) 35 [.v (nm p),.v (rm p)] (.v (sc (.b true))):=
 Fx.by_ tG aV Tryz.func35 rfl (by kernel_rfl) (by kernel_rfl) rfl ⟨by kernel_rfl,_,aSA hp,_,aQa hp,_,eqS,rfl⟩
theorem aAk{xs:List Rat}{n:Nat}(hn:xs.length=n)(hn2:n<1000000)(hz:∀i,Ma.sz (cf xs i)≤aJ):Fx (F2 W0) 8 [.l aN n (C xs),.l 45 n (CR xs)] (.v (sc (.b true))):=by
 refine Fx.by_ tG aV Tryz.func8 rfl (by kernel_rfl) (by kernel_rfl) rfl (dt (fun h=>absurd rfl h) fun _=>⟨{i:Nat // i≤n},fun i=>([(0,.l aN (.ar 0) n (C xs)),(1,.l 45 (.ar 1) n (CR xs)),(5,.a (sc (.i .i64 (i.1:Int))))],[]),fun i=>n-i.1,⟨⟨0,Nat.zero_le _⟩,[],rfl,rfl,rfl,rfl,rfl,trivial⟩,fun i=>?_⟩);obtain⟨i,hi⟩:=i;refine dt (fun h=>?_) fun h=>rfl;have hlt:i<n:=by have h:(i:Int)<(n:Int):=h;omega
 exact⟨by kernel_rfl,i,rfl,_,yD (iA (by omega)),i,rfl,_,pK (iA (by omega)),_,aQk (hz i),fun h=>(by cases h),fun _=>⟨add1 (i:=i) (by omega),⟨i+1,hlt⟩,(show n-(i+1)<n-i by omega),[],rfl,rfl,rfl,rfl,rfl,trivial⟩⟩
theorem aSF{n:Nat}{g:Nat→Rat}:C (mkP n g)++[bC (g n)]=C (mkP (n+1) g):=by rw[←aGg];unfold C;rw[List.map_append];rfl
def aUQ(k:Nat)(rest:List (Nat × Y))(g:Nat→Rat):List (Nat × Y) × List W:=match k with
 |0=>((4,.a (sc .ns))::(5,.a (sc .ns))::rest,[])
 |k+1=>((4,.s 0 none)::(5,.s 1 none)::rest,[.l 45 (k+1) (CR (mkP (k+1) g)),.l aN (k+1) (C (mkP (k+1) g))])
theorem h1{g:Nat→Rat}{x:Rat}(h:x=g 0):[W.l 45 1 [encR x],W.l aN 1 [bC x]]=[W.l 45 1 (CR (mkP 1 g)),W.l aN 1 (C (mkP 1 g))]:=by rw[h];rfl
theorem h2{g:Nat→Rat}{x:Rat}{k:Nat}(h:x=g k):[W.l 45 (k+1) (CR (mkP k g)++[encR x]),W.l aN (k+1) (C (mkP k g)++[bC x])]=[W.l 45 (k+1) (CR (mkP (k+1) g)),W.l aN (k+1) (C (mkP (k+1) g))]:=by rw[h,aDf,aSF]
theorem aLx{ss:List (List Nat)}{n:Nat}(hn:ss.length=n)(hn2:n<1000000)(hs0:∀s∈ss,okS s=true):Fx (F2 W0) 11 [.l 23 n (S ss)] (.r [.l aN n (C (ss.map nOf)),.l 45 n (CR (ss.map nOf))]):=by
 obtain⟨g,hg⟩:∃g:Nat→Rat,cf (ss.map nOf)=g:=⟨_,rfl⟩
 have hgi:∀i s,ss[i]? =some s→nOf s=g i:=fun i s h=>by rw[←hg];unfold cf;rw[List.getElem?_map,h];rfl
 have hE:mkP n g=ss.map nOf:=by rw[←hg];have:=aSy (ss.map nOf);rwa [List.length_map,hn]at this
 refine Fx.by_ tG aV Tryz.func11 rfl (by kernel_rfl) (by kernel_rfl) rfl ⟨{i:Nat // i≤n},fun i=>aUQ i.1 [(0,.l 23 (.ar 0) n (S ss)),(6,.a (sc (.i .i64 (i.1:Int))))] g,fun i=>n-i.1,⟨⟨0,Nat.zero_le _⟩,[],rfl,rfl,rfl,rfl,rfl,rfl,trivial⟩,fun i=>?_⟩;obtain⟨i,hi⟩:=i;cases i with
 |zero=>
  refine dt (fun h=>?_) fun h=>?_
  ·have hlt:0<n:=(by have h:((0:Nat):Int)<(n:Int):=h;omega);obtain⟨s,hsk⟩:∃s,ss[0]? =some s:=⟨_,List.getElem?_eq_getElem (by omega)⟩
   have hk:=hs0 s (List.mem_of_getElem? hsk);exact⟨0,rfl,_,aDh hsk,_,aHS hk,0,rfl,_,aDh hsk,_,aGd hk,by kernel_rfl,(by decide),⟨rfl,rfl,aHU,⟨rfl,rfl,rfl,aNt⟩,trivial⟩,(by decide),add1 (i:=0) (by decide),⟨1,hlt⟩,(show n-1<n-0 by omega),[true,true,false,false,false,false],rfl,h1 (hgi 0 s hsk),rfl,rfl,rfl,rfl,trivial⟩
  ·obtain rfl:n=0:=(by have h:¬((0:Nat):Int)<(n:Int):=h;omega);exact⟨⟨rfl,(show C (ss.map nOf)=[] by rw[←hE];rfl)⟩,⟨rfl,(show CR (ss.map nOf)=[] by rw[←hE];rfl)⟩,trivial⟩
 |succ i=>
  refine dt (fun h=>?_) fun h=>?_
  ·have hlt:i+1<n:=(by have h:((i+1:Nat):Int)<(n:Int):=h;omega);obtain⟨s,hsk⟩:∃s,ss[i+1]? =some s:=⟨_,List.getElem?_eq_getElem (by omega)⟩
   have hk:=hs0 s (List.mem_of_getElem? hsk);exact⟨i+1,rfl,_,aDh hsk,_,aHS hk,i+1,rfl,_,aDh hsk,_,aGd hk,by kernel_rfl,⟨(show (i+1+1)*56<_ by omega),(show i+1+1<_ by omega)⟩,⟨rfl,rfl,aHU,⟨rfl,rfl,rfl,aNt⟩,trivial⟩,⟨(show (i+1+1)*56<_ by omega),(show i+1+1<_ by omega)⟩,add1 (i:=i+1) (by omega),⟨i+2,hlt⟩,(show n-(i+2)<n-(i+1) by omega),[true,true,false,false,false,false,false,false],rfl,h2 (hgi (i+1) s hsk),rfl,rfl,rfl,rfl,trivial⟩
  ·obtain rfl:i+1=n:=(by have h:¬((i+1:Nat):Int)<(n:Int):=h;omega);exact⟨⟨rfl,rfl,by rw[hE]⟩,⟨rfl,rfl,by rw[hE]⟩,trivial⟩
end
end J
namespace Po
open Ma Me
theorem vF:sz 0≤2:=jX 0 (by decide)
theorem aCz:∀n:Nat,(1:Rat)^n=1
 |0=>Rat.pow_zero _
 |n+1=>by rw[Rat.pow_succ,aCz n,Rat.mul_one]
theorem aGh{n j:Nat}{f:Nat→Rat}(hj:j<n)(h:∀i,i<n→i≠j→f i=0):sm f n=f j:=by
 induction n with
 |zero=>cases hj
 |succ n ih=>
  show sm f n+f n=f j;by_cases e:j=n
  ·subst e;rw[jF _ fun i hi=>h i (by omega) (by omega),Rat.zero_add]
  ·rw[ih (by omega) fun i hi=>h i (by omega),h n (by omega) (fun q=>e q.symm),Rat.add_zero]
def mon(k:Nat)(c:Rat)(m:Nat):Rat:=if m=k then c else 0
section
variable {f g x y a:Nat→Rat} {b:Nat→Nat→Rat} {c d w:Rat}
theorem wL{k m:Nat}:cv f (mon k c) m=if k≤m then f (m-k)*c else 0:=by
 unfold cv;split
 ·rename_i h;rw[aGh (j:=m-k) (by omega) fun i hi hne=>by unfold mon;rw[if_neg (by omega),Rat.mul_zero]];unfold mon;rw[if_pos (by omega)]
 ·rename_i h;exact jF _ fun i hi=>by unfold mon;rw[if_neg (by omega),Rat.mul_zero]
theorem aAc{m:Nat}:cv f (mon 0 1) m=f m:=by rw[wL,if_pos (Nat.zero_le _),Rat.mul_one];rfl
theorem aOn{i k m:Nat}:cv (mon i c) (mon k d) m=mon (i+k) (c*d) m:=by
 rw[wL];unfold mon;split
 ·split
  ·rw[if_pos (by omega)]
  ·rw[if_neg (by omega),Rat.zero_mul]
 ·rw[if_neg (by omega)]
theorem aSG{m:Nat}:cv (fun i=>c*f i) g m=c*cv f g m:=by
 unfold cv;rw[←aED];exact eD fun i _=>by grind
theorem aOo{m:Nat}:∀j:Nat,cv (fun m=>sm (fun i=>a i*b i m) j) x m=sm (fun i=>a i*cv (b i) x m) j
 |0=>jF _ fun i _=>by show (0:Rat)*_=0;rw[Rat.zero_mul]
 |j+1=>by
  show cv (fun m=>sm (fun i=>a i*b i m) j+a j*b j m) x m=sm (fun i=>a i*cv (b i) x m) j+a j*cv (b j) x m;rw[aEF,aOo j,aSG]
def pwP(p:List Rat):Nat→List Rat
 |0=>[1]
 |k+1=>bL (pwP p k) p
def pw(f:Nat→Rat):Nat→Nat→Rat
 |0=>mon 0 1
 |k+1=>cv (pw f k) f
theorem iZ{p:List Rat}:∀(k m:Nat),cf (pwP p k) m=pw (cf p) k m
 |0,m=>by
  cases m with
  |zero=>rfl
  |succ m=>rw[show pwP p 0=[1] from rfl,dS (Nat.succ_le_succ (Nat.zero_le m))];rfl
 |k+1,m=>by
  rw[show pwP p (k+1)=bL (pwP p k) p from rfl,nU];exact eU (fun i=>iZ k i) (fun _=>rfl) m
theorem jD(h:∀i,f i=g i):∀k m:Nat,pw f k m=pw g k m
 |0,_=>rfl
 |k+1,m=>eU (fun i=>jD h k i) h m
theorem aAl{e:Nat}:∀k m:Nat,pw (mon e c) k m=mon (k*e) (c^k) m
 |0,m=>by rw[Nat.zero_mul,Rat.pow_zero];rfl
 |k+1,m=>by
  rw[show pw (mon e c) (k+1) m=cv (pw (mon e c) k) (mon e c) m from rfl,eU (fun i=>aAl k i) (fun _=>rfl) m,aOn,Nat.succ_mul,Rat.pow_succ]
theorem aSH{k:Nat}{f:Nat→Rat}(m:Nat):cv (cv (pw f k) g) f m=cv (pw f (k+1)) g m:=by
 rw[aEG,show pw f (k+1)=cv (pw f k) f from rfl,aEG];exact eU (fun _=>rfl) (fun i=>mU i) m
def ho(a x y:Nat→Rat):Nat→Nat→Rat
 |0=>fun _=>0
 |j+1=>fun m=>cv (ho a x y j) x m+pw y j m*a j
theorem aCA:∀j m:Nat,ho a x y j m=sm (fun i=>a i*cv (pw x (j-1-i)) (pw y i) m) j
 |0,_=>rfl
 |j+1,m=>by
  show cv (ho a x y j) x m+pw y j m*a j=sm (fun i=>a i*cv (pw x (j+1-1-i)) (pw y i) m) j+a j*cv (pw x (j+1-1-j)) (pw y j) m;rw[eU (fun i=>aCA j i) (fun _=>rfl) m,aOo,show j+1-1-j=0 by omega];have e1:cv (pw x 0) (pw y j) m=pw y j m:=(by rw[mU];exact aAc);rw[e1,eD fun i hi=>by rw[show a i*cv (cv (pw x (j-1-i)) (pw y i)) x m=a i*cv (pw x (j+1-1-i)) (pw y i) m by rw[aSH,show j-1-i+1=j+1-1-i by omega]],Rat.mul_comm (pw y j m)]
theorem aT3{B j m:Nat}(h:∀i,i<j→sz (a i*cv (pw x (j-1-i)) (pw y i) m)≤B):sz (ho a x y j m)≤2*(j*B)+B+j+2:=by
 rw[aCA];exact aD5 h
theorem tQ{a' x' y':Nat→Rat}(h1:∀i,a i=a' i)(h2:∀i,x i=x' i)(h3:∀i,y i=y' i):∀j m:Nat,ho a x y j m=ho a' x' y' j m
 |0,_=>rfl
 |j+1,m=>by
  show cv (ho a x y j) x m+pw y j m*a j=cv (ho a' x' y' j) x' m+pw y' j m*a' j;rw[eU (fun i=>tQ h1 h2 h3 j i) h2 m,jD h3,h1]
theorem aJh{e e' k i m:Nat}:cv (pw (mon e c) k) (pw (mon e' d) i) m=mon (k*e+i*e') (c^k*d^i) m:=by
 rw[eU (fun i=>aAl k i) (fun j=>aAl i j) m,aOn]
theorem aAm{k B m:Nat}(h:sz c≤B)(hB:2≤B):sz (mon k c m)≤B:=by
 unfold mon;split
 ·exact h
 ·exact Nat.le_trans vF hB
theorem aUR{P:Nat→Rat}{n m:Nat}:ho (fun i=>P (n-i)) (mon 1 c) (mon 0 1) (n+1) m=if m≤n then P m*c^m else 0:=by
 have e:∀i,i<n+1→(fun i=>P (n-i)*cv (pw (mon 1 c) (n+1-1-i)) (pw (mon 0 1) i) m) i=if i=n-m∧m≤n then P m*c^m else 0:=fun i hi=>by
  show P (n-i)*cv (pw (mon 1 c) (n+1-1-i)) (pw (mon 0 1) i) m=_;rw[aJh];unfold mon;split
  ·rw[if_pos ⟨by omega,by omega⟩,show n-i=m by omega,show n+1-1-i=m by omega,aCz,Rat.mul_one]
  ·rw[if_neg (by omega),Rat.mul_zero]
 rw[aCA,eD e];split
 ·rename_i h;rw[aGh (j:=n-m) (by omega) fun i hi hne=>if_neg fun q=>hne q.1,if_pos ⟨rfl,h⟩]
 ·rename_i h;exact jF _ fun i _=>if_neg fun q=>h q.2
theorem aUS{P:Nat→Rat}{n m:Nat}:ho (fun i=>P (n-i)) (mon 0 1) (mon 1 1) (n+1) m=if m≤n then P (n-m) else 0:=by
 have e:∀i,i<n+1→(fun i=>P (n-i)*cv (pw (mon 0 1) (n+1-1-i)) (pw (mon 1 1) i) m) i=if i=m then P (n-m) else 0:=fun i hi=>by
  show P (n-i)*cv (pw (mon 0 1) (n+1-1-i)) (pw (mon 1 1) i) m=_;rw[aJh];unfold mon;split
  ·rw[if_pos (by omega),aCz,aCz,Rat.mul_one,Rat.mul_one,show n-i=n-m by omega]
  ·rw[if_neg (by omega),Rat.mul_zero]
 rw[aCA,eD e];split
 ·rw[aGh (j:=m) (by omega) fun i hi hne=>if_neg hne,if_pos rfl]
 ·exact jF _ fun i _=>if_neg (by omega)
theorem aSI{P:Nat→Rat}{n m:Nat}:ho (fun i=>P (n-i)) x y (n+1) m=sm (fun k=>cv (pw x k) (pw y (n-k)) m*P k) (n+1):=by
 rw[aCA,aEE];exact eD fun i hi=>by
  rw[show n-(n+1-1-i)=i by omega,show n+1-1-(n+1-1-i)=i by omega,show n+1-1-i=n-i by omega,Rat.mul_comm]
def ch:Nat→Nat→Nat
 |_,0=>1
 |0,_+1=>0
 |n+1,k+1=>ch n k+ch n (k+1)
theorem rQ(n:Nat):ch n 0=1:=by cases n<;>rfl
theorem wM:∀{n k:Nat},n<k→ch n k=0
 |0,_+1,_=>rfl
 |n+1,k+1,h=>by show ch n k+ch n (k+1)=0;rw[wM (by omega),wM (by omega)]
theorem aJi:∀n k:Nat,ch n k≤2^n
 |n,0=>by rw[rQ];exact Nat.one_le_two_pow
 |0,_+1=>Nat.zero_le _
 |n+1,k+1=>by
  have h1:=aJi n k;have h2:=aJi n (k+1);show ch n k+ch n (k+1)≤2^(n+1);rw[Nat.pow_succ];omega
def fac:Nat→Nat
 |0=>1
 |n+1=>fac n*(n+1)
theorem aCB:∀{n k:Nat},k≤n→ch n k*(fac k*fac (n-k))=fac n
 |n,0,_=>by rw[rQ,Nat.sub_zero,Nat.one_mul];exact Nat.one_mul _
 |n+1,k+1,h=>by
  have h1:=aCB (n:=n) (k:=k) (by omega);show (ch n k+ch n (k+1))*(fac k*(k+1)*fac (n+1-(k+1)))=fac n*(n+1)
  rw[Nat.add_sub_add_right];rcases Nat.eq_or_lt_of_le (Nat.le_of_succ_le_succ h) with rfl|hlt
  ·rw[wM (Nat.lt_succ_self k),Nat.add_zero,show ch k k*(fac k*(k+1)*fac (k-k))=ch k k*(fac k*fac (k-k))*(k+1) by grind,h1]
  ·have h2:=aCB (n:=n) (k:=k+1) hlt;obtain⟨d,rfl⟩:∃d,n=k+1+d:=⟨n-(k+1),by omega⟩
   rw[show k+1+d-(k+1)=d by omega]at h2;rw[show k+1+d-k=d+1 by omega]at h1⊢;have e1:fac (k+1)=fac k*(k+1):=rfl;have e2:fac (d+1)=fac d*(d+1):=rfl;rw[e1]at h2;rw[e2]at h1⊢;generalize ch (k+1+d) k=u at*
   generalize ch (k+1+d) (k+1)=v at*
   generalize fac (k+1+d)=z at*
   generalize fac k=s at*
   generalize fac d=t at*
   have e3:(u+v)*(s*(k+1)*(t*(d+1)))=(k+1)*(u*(s*(t*(d+1))))+(d+1)*(v*(s*(k+1)*t)):=by
     rw[Nat.add_mul];congr 1<;>grind
   rw[e3,h1,h2,←Nat.add_mul,Nat.mul_comm z];congr 1
def on2(m:Nat):Rat:=if m=0∨m=1 then 1 else 0
theorem aSJ{m:Nat}:cv f on2 m=f m+if 1≤m then f (m-1) else 0:=by
 have e:∀i,on2 i=mon 0 1 i+mon 1 1 i:=fun i=>by
  unfold on2 mon;by_cases h0:i=0
  ·rw[if_pos (.inl h0),if_pos h0,if_neg (by omega),Rat.add_zero]
  ·by_cases h1:i=1
   ·rw[if_pos (.inr h1),if_neg h0,if_pos h1,Rat.zero_add]
   ·rw[if_neg (by omega),if_neg h0,if_neg h1,Rat.add_zero]
 rw[eU (fun _=>rfl) e m,mU,aEF,mU,aAc,mU (g:=f),wL];congr 1;split
 ·rw[Rat.mul_one]
 ·rfl
theorem aCC:∀n m:Nat,pw on2 n m=(ch n m:Nat)
 |0,0=>rfl
 |0,m+1=>rfl
 |n+1,m=>by
  rw[show pw on2 (n+1) m=cv (pw on2 n) on2 m from rfl,aSJ,aCC n m];cases m with
  |zero=>rw[if_neg (by decide),Rat.add_zero,rQ,rQ]
  |succ m=>rw[if_pos (by omega),Nat.add_sub_cancel,aCC n m,show ch (n+1) (m+1)=ch n m+ch n (m+1) from rfl,Rat.natCast_add,Rat.add_comm]
def sq2(w:Rat)(m:Nat):Rat:=if m=0 then w else if m=2 then 1 else 0
theorem aSK{m:Nat}:cv f (sq2 w) m=f m*w+if 2≤m then f (m-2) else 0:=by
 have e:∀i,sq2 w i=mon 0 w i+mon 2 1 i:=fun i=>by
  unfold sq2 mon;by_cases h0:i=0
  ·rw[if_pos h0,if_pos h0,if_neg (by omega),Rat.add_zero]
  ·rw[if_neg h0,if_neg h0,Rat.zero_add]
 rw[eU (fun _=>rfl) e m,mU,aEF,mU,wL,mU (g:=f),wL,if_pos (Nat.zero_le _),Nat.sub_zero];congr 1;split
 ·rw[Rat.mul_one]
 ·rfl
theorem aAn:∀n l:Nat,pw (sq2 w) n (2*l)=(ch n l:Nat)*w^(n-l)∧pw (sq2 w) n (2*l+1)=0
 |0,l=>by
  cases l with
  |zero=>exact⟨by rw[Nat.sub_zero,Rat.pow_zero,Rat.mul_one];rfl,rfl⟩
  |succ l=>exact⟨by rw[show ch 0 (l+1)=0 from rfl];exact (show mon 0 1 (2*(l+1))=0 from if_neg (by omega)).trans (Rat.zero_mul _).symm,rfl⟩
 |n+1,l=>by
  obtain⟨h1,h2⟩:=aAn n l;have e:∀m,pw (sq2 w) (n+1) m=pw (sq2 w) n m*w+if 2≤m then pw (sq2 w) n (m-2) else 0:=fun m=>aSK;refine⟨?_,?_⟩
  ·rw[e,h1];cases l with
   |zero=>rw[if_neg (by omega),Rat.add_zero,rQ,rQ,Nat.sub_zero,Nat.sub_zero,Rat.pow_succ,Rat.mul_assoc]
   |succ l=>
    rw[if_pos (by omega),show 2*(l+1)-2=2*l by omega,(aAn n l).1,show ch (n+1) (l+1)=ch n l+ch n (l+1) from rfl,Nat.add_sub_add_right,Rat.natCast_add,Rat.add_mul,Rat.add_comm];congr 1;rcases Nat.lt_or_ge n (l+1) with h|h
    ·rw[wM h];show (0:Rat)*_*w=0*_;rw[Rat.zero_mul,Rat.zero_mul,Rat.zero_mul]
    ·rw[show n-l=n-(l+1)+1 by omega,Rat.pow_succ,Rat.mul_assoc]
  ·rw[e,h2,Rat.zero_mul,Rat.zero_add];cases l with
   |zero=>rw[if_neg (by omega)]
   |succ l=>rw[if_pos (by omega),show 2*(l+1)+1-2=2*l+1 by omega,(aAn n l).2]
theorem aJj{n k:Nat}(h:n≤40):sz ((ch n k:Nat):Rat)≤2:=by
 have h1:=aJi n k;have h2:2^n≤2^40:=Nat.pow_le_pow_right (by decide) h;have h3:(2:Nat)^40<W64:=by decide+kernel
 exact jX ((ch n k:Nat):Int) (by simp;omega)
theorem aSL{n m:Nat}(h:n≤40):sz (pw (sq2 w) n m)≤40*sz w+4:=by
 rcases Nat.mod_two_eq_zero_or_one m with e|e
 ·obtain⟨l,rfl⟩:∃l,m=2*l:=⟨m/2,by omega⟩
  rw[(aAn n l).1];have h1:=dI ((ch n l:Nat):Rat) (w^(n-l));have h2:=aJj (k:=l) h;have h3:=yT w (n-l);have h4:(n-l)*sz w≤40*sz w:=Nat.mul_le_mul_right _ (by omega);omega
 ·obtain⟨l,rfl⟩:∃l,m=2*l+1:=⟨m/2,by omega⟩
  rw[(aAn n l).2];have:=vF;omega
theorem wO:∀n:Nat,0<fac n
 |0=>Nat.zero_lt_one
 |n+1=>Nat.mul_pos (wO n) (Nat.succ_pos n)
theorem aNu(n:Nat):((fac n:Nat):Rat)*(((n+1:Nat):Int):Rat)=((fac (n+1):Nat):Rat):=by
 rw[show fac (n+1)=fac n*(n+1) from rfl,Rat.natCast_mul];rfl
theorem kV:∀{n:Nat},n≤1000→sz ((fac n:Nat):Rat)≤2*n+2
 |0,_=>jX 1 (by decide+kernel)
 |n+1,h=>by
  have h1:=kV (n:=n) (by omega);have h2:=dI ((fac n:Nat):Rat) (((n+1:Nat):Int):Rat);have h3:sz (((n+1:Nat):Int):Rat)≤2:=jX _ (by simp[W64];omega);rw[←aNu];omega
theorem aQl{n k:Nat}(h:k≤n):((fac n:Nat):Rat)*(((fac k:Nat):Rat)*((fac (n-k):Nat):Rat))⁻¹=((ch n k:Nat):Rat):=by
 rw[←aCB h,Rat.natCast_mul,Rat.natCast_mul,Rat.mul_assoc,Rat.mul_inv_cancel,Rat.mul_one];intro e;rw[←Rat.natCast_mul]at e;have:=Nat.mul_pos (wO k) (wO (n-k));have e:fac k*fac (n-k)=0:=by exact_mod_cast e
 omega
end
end Po
namespace J
open Go Go.RowKit
open Ma Me K E Po
theorem aCD{dd:Dk}{a c:Int}(h1:-9223372036854775808≤a*c)(h2:a*c<9223372036854775808):bop dd .mul (.i .i64 a) (.i .i64 c)=some (.i .i64 (a*c)):=by
 show cb (decide (IntKind.i64=IntKind.i64)) (aMe .i64 a c) none=_;rw[show decide (IntKind.i64=IntKind.i64)=true from rfl];show aMe .i64 a c=_;cases a with
 |ofNat m=>
  cases c with
  |ofNat n=>
   show mkI .i64 (Nat.mul m n)=_;have h3:((m*n:Nat):Int)<9223372036854775808:=(by rw[Int.natCast_mul];exact h2);have h4:m*n<9223372036854775808:=(by omega);rw[aAL (show Nat.mul m n<9223372036854775808 from h4)];rfl
  |negSucc n=>exact lC h1 h2
 |negSucc m=>exact lC h1 h2
theorem Fx.ns1{F:Cf}{f ty:Nat}{r:X}{l:List A}(h:Fx F f (.l ty 0 []::l) r):Fx F f (.v (sc .ns)::l) r:=fun g vs hb hl ha=>h g vs hb hl (match vs,ha with|_::_,ha=>⟨.inl ⟨ha.1,rfl,rfl⟩,ha.2⟩)
theorem jN{q:Rat}:sn q≤0↔¬0<q:=by
 rcases bZ q with⟨h,k⟩|⟨h,k⟩|⟨h,k⟩<;>rw[k]
 ·exact⟨fun _=>Rat.not_lt.2 (Rat.le_of_lt h),fun _=>by decide⟩
 ·exact⟨fun _=>by rw[h];exact Rat.lt_irrefl,fun _=>by decide⟩
 ·exact⟨fun e=>absurd e (by decide),fun e=>absurd h e⟩
theorem bE{a b:Bool}(h:a=b):sc (.b a)=sc (.b b):=by rw[h]
theorem iE{a b:Int}(h:a=b):sc (.i .i64 a)=sc (.i .i64 b):=by rw[h]
def ab(xs:List Rat):Bool:=xs.all fun x=>decide (0<x)
theorem aT4{xs:List Rat}{i:Nat}(h:i<xs.length)(h0:¬0<cf xs i):ab xs=false:=by
 unfold ab;rw[List.all_eq_false];exact⟨_,List.mem_of_getElem? (iA h),by simpa using h0⟩
theorem aSM{xs:List Rat}(h:∀i,i<xs.length→0<cf xs i):ab xs=true:=by
 unfold ab;rw[List.all_eq_true];intro x hx;obtain⟨i,hi⟩:=List.getElem?_of_mem hx;have hl:=(List.getElem?_eq_some_iff.1 hi).1;have:=iA hl;rw[hi]at this;injection this with this;rw[this];exact decide_eq_true (h i hl)
def chE(xs:List Rat):Int:=if 41<(ct xs).length then 3 else if (ct xs).length=0 then 8 else 0
def bes(n k:Nat):Rat:=((fac (2*n-k):Nat):Rat)*((2:Rat)^(n-k)*(((fac k:Nat):Rat)*((fac (n-k):Nat):Rat)))⁻¹
def hoP(a:Nat→Rat)(x y:List Rat):Nat→List Rat
 |0=>[]
 |j+1=>lK (bL (hoP a x y j) x) (fK (pwP y j) (a j))
theorem wP{a:Nat→Rat}{x y:List Rat}:∀j m:Nat,cf (hoP a x y j) m=ho a (cf x) (cf y) j m
 |0,m=>nC m
 |j+1,m=>by
  rw[show hoP a x y (j+1)=lK (bL (hoP a x y j) x) (fK (pwP y j) (a j)) from rfl,aAx,nU,aCx,iZ];show cv (cf (hoP a x y j)) (cf x) m+_=cv (ho a (cf x) (cf y) j) (cf x) m+_;rw[eU (fun i=>wP j i) (fun _=>rfl) m]
theorem aGi{a:Nat→Rat}{x y:List Rat}:∀j:Nat,Nz (hoP a x y j)
 |0=>.inl rfl
 |_+1=>aGZ _ _
theorem qF{y:List Rat}{L:Nat}(h:y.length≤L):∀j:Nat,(pwP y j).length≤1+j*L
 |0=>by rw[show pwP y 0=[1] from rfl];show 1≤_;omega
 |j+1=>by
  have h1:=qF h j;have h2:=aCw (pwP y j) y;rw[show pwP y (j+1)=bL (pwP y j) y from rfl,Nat.succ_mul];omega
theorem aCE{a:Nat→Rat}{x y:List Rat}{L:Nat}(h1:x.length≤L)(h2:y.length≤L):∀j:Nat,(hoP a x y j).length≤1+j*L
 |0=>Nat.zero_le _
 |j+1=>by
  have k1:=aCE (a:=a) h1 h2 j;have k2:=aCw (hoP a x y j) x;have k3:=aLu (bL (hoP a x y j) x) (fK (pwP y j) (a j));have k4:=aCy (pwP y j) (a j);have k5:=qF h2 j;rw[show hoP a x y (j+1)=lK (bL (hoP a x y j) x) (fK (pwP y j) (a j)) from rfl,Nat.succ_mul];omega
section
variable {W0:World} {xs ys:List Rat} {x y:Rat}
theorem aBE(hn:xs.length<1000000)(hz:∀i,Ma.sz (cf xs i)≤aJ):Fx (F2 W0) 41 [.l aN xs.length (C xs)] (.v (sc (.b (decide (41<(ct xs).length))))):=
 Fx.by_ tG aV Tryz.func41 rfl (by kernel_rfl) (by kernel_rfl) rfl ⟨_,aA6 hn hz,bE (decide_eq_decide.2 (by omega))⟩
theorem aCF{n:Nat}(hl:xs.length=n)(hn:n<1000000)(hz:∀i,Ma.sz (cf xs i)≤aJ):Fx (F2 W0) 42 [.l aN n (C xs)] (.v (sc (.b (ab xs)))):=by
 refine Fx.by_ tG aV Tryz.func42 rfl (by kernel_rfl) (by kernel_rfl) rfl ⟨{i:Nat // i≤n∧∀j,j<i→0<cf xs j},fun i=>([(5,.l aN (.ar 0) n (C xs)),(6,.a (sc (.i .i64 (n:Int)))),(7,.a (sc (.i .i64 (i.1:Int))))],[]),fun i=>n-i.1,⟨⟨0,Nat.zero_le _,fun _ h=>by cases h⟩,[],rfl,rfl,rfl,rfl,rfl,trivial⟩,fun i=>?_⟩;obtain⟨i,hi,h0⟩:=i;refine dt (fun h=>?_) fun h=>?_
 ·have hlt:i<n:=(by have h:(i:Int)<(n:Int):=h;omega);exact⟨i,rfl,_,yD (iA (by omega)),_,aLv (hz i),dt (fun h1=>bE (aT4 (by omega) (jN.1 h1)).symm) fun h1=>⟨add1 (i:=i) (by omega),⟨i+1,hlt,fun j hj=>by
   rcases Nat.lt_or_ge j i with hjk|hjk
   ·exact h0 j hjk
   ·obtain rfl:j=i:=(by omega);exact Classical.not_not.1 fun e=>h1 (jN.2 e)⟩,(show n-(i+1)<n-i by omega),[false],rfl,rfl,rfl,rfl,rfl,trivial⟩⟩
 ·have h:¬(i:Int)<(n:Int):=h;exact bE (aSM fun j hj=>h0 j (by omega)).symm
theorem aLy(hn:xs.length<1000000)(hz:∀i,Ma.sz (cf xs i)≤aJ):Fx (F2 W0) 49 [.l aN xs.length (C xs)] (.v (sc (.i .i64 (chE xs)))):=
 Fx.by_ tG aV Tryz.func49 rfl (by kernel_rfl) (by kernel_rfl) rfl ⟨_,aBE hn hz,dt (fun h=>iE (by unfold chE;rw[if_pos h])) fun h=>⟨_,aA6 hn hz,dt (fun h1=>iE (by unfold chE;rw[if_neg h,if_pos (by omega)])) fun h1=>iE (by unfold chE;rw[if_neg h,if_neg (by omega)])⟩⟩
theorem aLz(h:y≠0):gY x y=(0,x*y⁻¹):=if_neg h
theorem aGj(h0:y≠0)(h1:Ma.sz x≤aJ)(h2:Ma.sz y≤aJ):Fx (F2 W0) 30 [.v (nm x),.v (nm y)] (.v (nm (x*y⁻¹))):=by
 have hd:=aTX (W0:=W0) h1 h2;rw[aLz h0]at hd;exact Fx.by_ tG aV Tryz.func30 rfl (by kernel_rfl) (by kernel_rfl) rfl ⟨_,hd,rfl⟩
theorem oM{n:Nat}(h:n≤1000):Ma.sz ((fac n:Nat):Rat)≤aJ:=Nat.le_trans (kV h) (by simp only[aJ];omega)
theorem kE{n:Nat}(hn:n≤100):Fx (F2 W0) 29 [.v (sc (.i .i64 (n:Int)))] (.v (nm ((fac n:Nat):Rat))):=by
 refine Fx.by_ tG aV Tryz.func29 rfl (by kernel_rfl) (by kernel_rfl) rfl ⟨_,lH (n:=1) (by decide) (by decide),{k:Nat // k≤n},fun k=>([(2,.p 0 0),(3,.p 1 0),(6,.a (sc (.i .i64 (n:Int)))),(7,.a (sc (.i .i64 (k.1:Int))))],[.c ⟨41,bC ((fac k.1:Nat):Rat)⟩,.c ⟨41,[SV.b false,.m 0,.m 0]⟩]),fun k=>n-k.1,⟨⟨0,Nat.zero_le _⟩,[true,true],rfl,cN (show ((1:Int):Rat)=((fac 0:Nat):Rat) from rfl),rfl,rfl,rfl,rfl,trivial⟩,fun k=>?_⟩;obtain⟨k,hk⟩:=k;refine dt (fun h=>?_) fun h=>?_
 ·have hlt:k<n:=(by have h:(k:Int)<(n:Int):=h;omega);have hm:((fac k:Nat):Rat)*(((k:Int)+1:Int):Rat)=((fac (k+1):Nat):Rat):=aNu k;exact⟨by kernel_rfl,add1 (i:=k) (by omega),_,lH (n:=(k:Int)+1) (by omega) (by omega),_,aA5 (oM (by omega)) (Nat.le_trans (jX ((k:Int)+1) (by simp[W64];omega)) (by decide)),add1 (i:=k) (by omega),⟨k+1,hlt⟩,(show n-(k+1)<n-k by omega),[true,true],rfl,cN hm,rfl,rfl,rfl,rfl,trivial⟩
 ·have h:¬(k:Int)<(n:Int):=h;obtain rfl:k=n:=(by omega);rfl
theorem aSN{p:Rat}{n:Nat}(h:n≤64):jC p (n:Int)=(0,p^n):=by
 unfold jC;rw[if_neg (by omega),if_neg (by omega)];rfl
theorem aQm{n:Nat}(hn:n≤64):Fx (F2 W0) 28 [.v (sc (.i .i64 (n:Int)))] (.v (nm ((2:Rat)^n))):=by
 have hd:=aTY (W0:=W0) (p:=((2:Int):Rat)) (n:=(n:Int)) (Nat.le_trans (jX 2 (by decide)) (by decide));rw[aSN hn]at hd;exact Fx.by_ tG aV Tryz.func28 rfl (by kernel_rfl) (by kernel_rfl) rfl ⟨_,lH (n:=2) (by decide) (by decide),_,hd,rfl⟩
theorem wQ(n:Nat):((fac n:Nat):Rat)≠0:=fun e=>by
 have e:fac n=0:=by exact_mod_cast e
 have:=wO n;omega
theorem wR{p q:Rat}(h1:p≠0)(h2:q≠0):p*q≠0:=fun e=>(Rat.mul_eq_zero.1 e).elim h1 h2
theorem aGk{p:Rat}(h:p≠0):∀n:Nat,p^n≠0
 |0=>by rw[Rat.pow_zero];decide
 |n+1=>by rw[Rat.pow_succ];exact wR (aGk h n) h
theorem aGl(n:Nat):Ma.sz ((2:Rat)^n)≤n*2+2:=Nat.le_trans (yT _ _) (Nat.add_le_add_right (Nat.mul_le_mul_left n (jX 2 (by decide))) 2)
end
section
variable {W0:World} {xs ys:List Rat} {x y:Rat}
theorem aEf{n k:Nat}(h:k≤n):(n:Int)-(k:Int)=((n-k:Nat):Int):=by omega
theorem aLA{n k:Nat}(hn:n≤20)(hk:k≤n):Fx (F2 W0) 26 [.v (sc (.i .i64 (k:Int))),.e 3 [.i .i64 (n:Int)]] (.v (nm (bes n k))):=by
 have e1:=aEf hk;have e2:2*(n:Int)-(k:Int)=((2*n-k:Nat):Int):=by omega
 have h1:=aQm (W0:=W0) (n:=n-k) (by omega);have h2:=kE (W0:=W0) (n:=n-k) (by omega);have h3:=kE (W0:=W0) (n:=2*n-k) (by omega);rw[←e1]at h1 h2;rw[←e2]at h3;have s1:=kV (n:=k) (by omega);have s2:=kV (n:=n-k) (by omega);have s3:=dI ((fac k:Nat):Rat) ((fac (n-k):Nat):Rat);have s4:=aGl (n-k);have s5:=dI ((2:Rat)^(n-k)) (((fac k:Nat):Rat)*((fac (n-k):Nat):Rat));have lim:1000≤aJ:=by decide
 exact Fx.by_ tG aV Tryz.func26 rfl (by kernel_rfl) (by kernel_rfl) rfl ⟨by kernel_rfl,⟨by omega,by omega⟩,⟨by omega,by omega⟩,_,h1,_,kE (by omega),_,h2,_,aA5 (by omega) (by omega),_,aA5 (by omega) (by omega),by kernel_rfl,_,aCD (by omega) (by omega),⟨by omega,by omega⟩,_,h3,_,aGj (wR (aGk (by decide) _) (wR (wQ _) (wQ _))) (oM (by omega)) (by omega),rfl⟩
theorem aGP{n k:Nat}(hn:n≤20)(hk:k≤n):Fx (F2 W0) 36 [.v (sc (.i .i64 (k:Int))),.e 3 [.i .i64 (n:Int)]] (.v (nm ((ch n k:Nat):Rat))):=by
 have e1:=aEf hk;have h2:=kE (W0:=W0) (n:=n-k) (by omega);rw[←e1]at h2;have s1:=kV (n:=k) (by omega);have s2:=kV (n:=n-k) (by omega);have s3:=dI ((fac k:Nat):Rat) ((fac (n-k):Nat):Rat);have lim:1000≤aJ:=by decide
 have ho:=aGj (W0:=W0) (x:=((fac n:Nat):Rat)) (wR (wQ k) (wQ (n-k))) (oM (by omega)) (by omega);rw[aQl hk]at ho;exact Fx.by_ tG aV Tryz.func36 rfl (by kernel_rfl) (by kernel_rfl) rfl ⟨by kernel_rfl,⟨by omega,by omega⟩,_,kE (by omega),_,kE (by omega),_,h2,_,aA5 (by omega) (by omega),_,ho,rfl⟩
theorem aDH{n:Int}{f:Nat}{cs:List (Nat × List SV)}(hn:n<0∨20<n):Fx (F2 W0) 25 [.v (sc (.i .i64 n)),.f f cs] (.r [.l aN 0 [],.a false [.i .i64 7]]):=
 Fx.by_ tG aV Tryz.func25 rfl (by kernel_rfl) (by kernel_rfl) rfl (dt (fun _=>⟨⟨rfl,rfl⟩,rfl,trivial⟩) fun h=>dt (fun _=>⟨⟨rfl,rfl⟩,rfl,trivial⟩) fun h2=>absurd hn (by omega))
theorem aDI{n f:Nat}{cs:List (Nat × List SV)}{g:Nat→Rat}(hn:n≤20)(hc:∀k:Nat,k≤n→Fx (F2 W0) f ([.v (sc (.i .i64 (k:Int)))]++cs.map fun q=>A.e q.1 q.2) (.v (nm (g k)))):Fx (F2 W0) 25 [.v (sc (.i .i64 (n:Int))),.f f cs] (.r [.l aN (n+1) (C (mkP (n+1) g)),.a false [.i .i64 0]]):=by
 have hS:∀i,(C (pf (n+1) i g)).set i (bC (g i))=C (pf (n+1) (i+1) g):=fun i=>by rw[aEc,aGb]
 refine Fx.by_ tG aV Tryz.func25 rfl (by kernel_rfl) (by kernel_rfl) rfl (dt (fun h=>absurd h (by omega)) fun h=>dt (fun h=>absurd h (by omega)) fun h2=>⟨add1 (i:=n) (by omega),rfl,n+1,rfl,⟨(show (n+1)*56≤_ by omega),by omega⟩,{i:Nat // i≤n+1},fun i=>([(1,.f f cs),(6,.s 0 (some (n+1))),(18,.a (sc (.i .i64 ((n+1:Nat):Int)))),(19,.a (sc (.i .i64 (i.1:Int))))],[.l aN (n+1) (C (pf (n+1) i.1 g))]),fun i=>n+1-i.1,⟨⟨0,Nat.zero_le _⟩,[true],rfl,(show [W.l aN (n+1) (List.replicate (n+1) [SV.b false,.m 0,.m 0])]=[W.l aN (n+1) (C (pf (n+1) 0 g))] by rw[aEd,aDd]),rfl,rfl,rfl,rfl,trivial⟩,fun i=>?_⟩);obtain⟨i,hi⟩:=i;refine dt (fun h=>?_) fun h=>?_
 ·have hlt:i<n+1:=(by have h:(i:Int)<((n+1:Nat):Int):=h;omega);exact⟨_,hc i (by omega),i,rfl,hlt,hlt,add1 (i:=i) (by omega),⟨i+1,hlt⟩,(show n+1-(i+1)<n+1-i by omega),[true],rfl,congrArg (fun z=>[W.l aN (n+1) z]) (hS i),rfl,rfl,rfl,rfl,trivial⟩
 ·have h:¬(i:Int)<((n+1:Nat):Int):=h;obtain rfl:i=n+1:=(by omega);exact⟨⟨rfl,rfl,by rw[tO]⟩,rfl,trivial⟩
def beS(n:Int):List Rat × Int:=if n<0∨20<n then ([],7) else (mkP (n.toNat+1) (bes n.toNat),0)
def biS(n:Int):List Rat × Int:=if n<0∨20<n then ([],7) else (mkP (n.toNat+1) fun k=>((ch n.toNat k:Nat):Rat),0)
theorem aNv{n:Int}:Fx (F2 W0) 6 [.v (sc (.i .i64 n))] (.r [.l aN (beS n).1.length (C (beS n).1),.a false [.i .i64 (beS n).2]]):=by
 unfold beS;split
 ·rename_i h;exact Fx.by_ tG aV Tryz.func6 rfl (by kernel_rfl) (by kernel_rfl) rfl ⟨_,aDH h,⟨rfl,rfl,rfl⟩,rfl,trivial⟩
 ·obtain⟨m,rfl⟩:∃m:Nat,n=m:=⟨n.toNat,by omega⟩
  rw[show ((m:Int)).toNat=m from rfl,bH];exact Fx.by_ tG aV Tryz.func6 rfl (by kernel_rfl) (by kernel_rfl) rfl ⟨_,aDI (n:=m) (by omega) (fun k hk=>aLA (by omega) hk),⟨rfl,rfl,rfl⟩,rfl,trivial⟩
theorem aJk{n:Int}:Fx (F2 W0) 9 [.v (sc (.i .i64 n))] (.r [.l aN (biS n).1.length (C (biS n).1),.a false [.i .i64 (biS n).2]]):=by
 unfold biS;split
 ·rename_i h;exact Fx.by_ tG aV Tryz.func9 rfl (by kernel_rfl) (by kernel_rfl) rfl ⟨_,aDH h,⟨rfl,rfl,rfl⟩,rfl,trivial⟩
 ·obtain⟨m,rfl⟩:∃m:Nat,n=m:=⟨n.toNat,by omega⟩
  rw[show ((m:Int)).toNat=m from rfl,bH];exact Fx.by_ tG aV Tryz.func9 rfl (by kernel_rfl) (by kernel_rfl) rfl ⟨_,aDI (n:=m) (g:=fun k=>((ch m k:Nat):Rat)) (by omega) (fun k hk=>aGP (by omega) hk),⟨rfl,rfl,rfl⟩,rfl,trivial⟩
structure HoS (a:Nat→Rat) (x y:List Rat) (N:Nat):Prop where
 hN:N≤41
 hlx:x.length≤3
 hly:y.length≤3
 hx:∀m,Ma.sz (cf x m)≤1000000
 hy:∀m,Ma.sz (cf y m)≤1000000
 ha:∀j,j<N→Ma.sz (a j)≤1000000
 hh:∀j m,j≤N→Ma.sz (cf (hoP a x y j) m)≤1000000
 hp:∀j m,j≤N→Ma.sz (cf (pwP y j) m)≤1000000
def coS(xs x y:List Rat)(a:Nat→Rat)(j m:Nat):List (Nat × Y) × List W:=match j with
 |0=>([(0,.l aN (.ar 0) xs.length (C xs)),(2,.l aN (.ar 2) x.length (C x)),(3,.l aN (.ar 3) y.length (C y)),(11,.a (sc (.i .i64 ((m:Int)-1)))),(9,.a (sc .ns)),(10,.s 0 (some 1))],[.l aN 1 (C [1])])
 |j+1=>([(0,.l aN (.ar 0) xs.length (C xs)),(2,.l aN (.ar 2) x.length (C x)),(3,.l aN (.ar 3) y.length (C y)),(11,.a (sc (.i .i64 ((m:Int)-1)))),(9,.l aN .nw (hoP a x y (j+1)).length (C (hoP a x y (j+1)))),(10,.l aN .nw (pwP y (j+1)).length (C (pwP y (j+1))))],[])
theorem yE{xs x y:List Rat}{a:Nat→Rat}{N:Nat}(hN:N≤xs.length)(ha:∀j m,j+m+1=N→cf xs m=a j)(hs:HoS a x y N):Fx (F2 W0) 44 [.l aN xs.length (C xs),.v (sc (.i .i64 ((N:Int)-1))),.l aN x.length (C x),.l aN y.length (C y)] (.r [.l aN (hoP a x y N).length (C (hoP a x y N))]):=by
 obtain⟨n41,lx,ly,sx,sy,sa,sh,sp⟩:=hs;have lim:aJ=1000000000:=rfl;have mul1:∀j,j≤N→Fx (F2 W0) 59 [.l aN (hoP a x y j).length (C (hoP a x y j)),.l aN x.length (C x)] (.r [.l aN (bL (hoP a x y j) x).length (C (bL (hoP a x y j) x))]):=fun j hj=>by
  have h1:=aCE (a:=a) lx ly j;exact aOk (A0:=1000000) (B0:=1000000) (by omega) (by omega) (fun m=>sh j m hj) sx (by decide) (by omega)
 have mul2:∀j,j≤N→Fx (F2 W0) 59 [.l aN (pwP y j).length (C (pwP y j)),.l aN y.length (C y)] (.r [.l aN (pwP y (j+1)).length (C (pwP y (j+1)))]):=fun j hj=>by
  have h1:=qF ly j;exact aOk (A0:=1000000) (B0:=1000000) (by omega) (by omega) (fun m=>sp j m hj) sy (by decide) (by omega)
 have scl:∀j,j<N→Fx (F2 W0) 58 [.l aN (pwP y j).length (C (pwP y j)),.v (nm (a j))] (.r [.l aN (fK (pwP y j) (a j)).length (C (fK (pwP y j) (a j)))]):=fun j hj=>by
  have h1:=qF ly j;have h2:=sa j hj;exact aQc (by omega) (fun i=>Nat.le_trans (sp j i (by omega)) (by omega)) (by omega) fun i=>Nat.le_trans (dI _ _) (by have:=sp j i (by omega);omega)
 have add:∀j,j<N→Fx (F2 W0) 97 [.l aN (bL (hoP a x y j) x).length (C (bL (hoP a x y j) x)),.l aN (fK (pwP y j) (a j)).length (C (fK (pwP y j) (a j)))] (.r [.l aN (hoP a x y (j+1)).length (C (hoP a x y (j+1)))]):=fun j hj=>by
  have h1:=aCE (a:=a) lx ly j;have h2:=aCw (hoP a x y j) x;have h3:=aCy (pwP y j) (a j);have h4:=qF ly j;have h5:=sa j hj;have k1:∀i,Ma.sz (cf (bL (hoP a x y j) x) i)≤aJ:=aP9 (A0:=1000000) (B0:=1000000) (fun m=>sh j m (by omega)) sx 130 (by omega) (by rw[lim];decide);have k2:∀i,Ma.sz (cf (fK (pwP y j) (a j)) i)≤aJ:=fun i=>(by rw[aCx];exact Nat.le_trans (dI _ _) (by have:=sp j i (by omega);omega));exact aT0 (by omega) (by omega) k1 k2 fun i=>by
   have e:cf (bL (hoP a x y j) x) i+cf (fK (pwP y j) (a j)) i=cf (hoP a x y (j+1)) i:=(aAx _ _ i).symm;rw[e];exact Nat.le_trans (sh (j+1) i (by omega)) (by omega)
 refine Fx.by_ tG aV Tryz.func44 rfl (by kernel_rfl) (by kernel_rfl) rfl ⟨_,lH (n:=1) (by decide) (by decide),{p:Nat × Nat // p.1+p.2=N},fun p=>coS xs x y a p.1.1 p.1.2,fun p=>p.1.2,⟨⟨(0,N),Nat.zero_add N⟩,[true],rfl,rfl,rfl,rfl,rfl,rfl,rfl,rfl,trivial⟩,fun p=>?_⟩;obtain⟨⟨j,m⟩,hjm⟩:=p;have hjm:j+m=N:=hjm;cases j with
 |zero=>
  refine dt (fun h=>?_) fun h=>?_
  ·obtain⟨m,rfl⟩:∃k,m=k+1:=⟨m-1,by have h:(0:Int)≤(m:Int)-1:=h;omega⟩
   have hel:(C xs)[m]? =some (bC (a 0)):=(by rw[←ha 0 m (by omega)];exact yD (iA (by omega)));exact⟨_,Fx.ns1 (mul1 0 (by omega)),dt (fun _=>⟨m,(show ((m+1:Nat):Int)-1=(m:Int) by omega),_,hel,_,scl 0 (by omega),_,add 0 (by omega),_,mul2 0 (by omega),aJf (k:=m) (by omega),⟨(1,m),by omega⟩,Nat.lt_succ_self m,[false],rfl,rfl,rfl,rfl,rfl,yk,rfl,rfl,trivial⟩) fun h=>absurd (show ((m+1:Nat):Int)-1<(xs.length:Int) by omega) h⟩
  ·obtain rfl:m=0:=(by have h:¬(0:Int)≤(m:Int)-1:=h;omega);obtain rfl:N=0:=(by omega);exact⟨⟨rfl,rfl⟩,trivial⟩
 |succ j=>
  refine dt (fun h=>?_) fun h=>?_
  ·obtain⟨m,rfl⟩:∃k,m=k+1:=⟨m-1,by have h:(0:Int)≤(m:Int)-1:=h;omega⟩
   have hel:(C xs)[m]? =some (bC (a (j+1))):=(by rw[←ha (j+1) m (by omega)];exact yD (iA (by omega)));exact⟨_,mul1 (j+1) (by omega),dt (fun _=>⟨m,(show ((m+1:Nat):Int)-1=(m:Int) by omega),_,hel,_,scl (j+1) (by omega),_,add (j+1) (by omega),_,mul2 (j+1) (by omega),aJf (k:=m) (by omega),⟨(j+2,m),by omega⟩,Nat.lt_succ_self m,[],rfl,rfl,rfl,rfl,rfl,yk,rfl,rfl,trivial⟩) fun h=>absurd (show ((m+1:Nat):Int)-1<(xs.length:Int) by omega) h⟩
  ·obtain rfl:m=0:=(by have h:¬(0:Int)≤(m:Int)-1:=h;omega);obtain rfl:N=j+1:=(by omega);exact⟨⟨rfl,rfl,rfl⟩,trivial⟩
end
section
variable {W0:World} {xs ys:List Rat} {x y:Rat}
theorem aGm(hn:xs.length<1000000)(hz:∀i,Ma.sz (cf xs i)≤aJ):Fx (F2 W0) 46 [.l 45 xs.length (CR xs)] (.v (sc (.b (decide (41<(ct xs).length))))):=
 Fx.by_ tG aV Tryz.func46 rfl (by kernel_rfl) (by kernel_rfl) rfl ⟨_,aT1 hn hz,bE (decide_eq_decide.2 (by omega))⟩
theorem aLB(h0:y≠0)(h1:Ma.sz x≤aJ)(h2:Ma.sz y≤aJ):Fx (F2 W0) 34 [.v (rm x),.v (rm y)] (.v (rm (x*y⁻¹))):=by
 have hd:=aSB (W0:=W0) h1 h2;rw[aLz h0]at hd;exact Fx.by_ tG aV Tryz.func34 rfl (by kernel_rfl) (by kernel_rfl) rfl ⟨_,hd,rfl⟩
theorem pJ:Fx (F2 W0) 38 [] (.v (rm (((1:Nat):Int):Rat))):=
 Fx.by_ tG aV Tryz.func38 rfl (by kernel_rfl) (by kernel_rfl) rfl ⟨_,aLw (n:=1) (by decide),rfl⟩
theorem pM{n:Nat}(hn:n≤100):Fx (F2 W0) 33 [.v (sc (.i .i64 (n:Int)))] (.v (rm ((fac n:Nat):Rat))):=by
 have nx:∀k,2≤k→((fac (k-1):Nat):Rat)*(((k:Nat):Int):Rat)=((fac k:Nat):Rat):=fun k hk=>by
  have:=aNu (k-1)
  rwa [show k-1+1=k by omega]at this
 refine Fx.by_ tG aV Tryz.func33 rfl (by kernel_rfl) (by kernel_rfl) rfl ⟨_,pJ,{k:Nat // 2≤k∧(k≤n+1∨k=2)},fun k=>([(0,.a (sc (.i .i64 (n:Int)))),(2,.p 0 0),(3,.p 1 0),(4,.a (sc (.i .i64 (k.1:Int))))],[.c ⟨45,encR ((fac (k.1-1):Nat):Rat)⟩,.c ⟨45,[SV.i .i64 0,.r 0,.r 0]⟩]),fun k=>n+1-k.1,⟨⟨2,Nat.le_refl _,.inr rfl⟩,[true,true],rfl,cNR (show (((1:Nat):Int):Rat)=((fac (2-1):Nat):Rat) from rfl),rfl,rfl,rfl,rfl,trivial⟩,fun k=>?_⟩;obtain⟨k,hk,hk2⟩:=k;refine dt (fun h=>?_) fun h=>?_
 ·have hlt:k≤n:=(by have h:(k:Int)≤(n:Int):=h;omega);have hm:((fac (k-1):Nat):Rat)*(((k:Nat):Int):Rat)=((fac (k+1-1):Nat):Rat):=nx k hk;exact⟨by kernel_rfl,_,aLw (n:=k) (by omega),_,nP (oM (by omega)) (Nat.le_trans (aUP (i:=k) (by omega)) (by decide)),add1 (i:=k) (by omega),⟨k+1,by omega,.inl (by omega)⟩,(show n+1-(k+1)<n+1-k by omega),[true,true],rfl,cNR hm,rfl,rfl,rfl,rfl,trivial⟩
 ·have h:¬(k:Int)≤(n:Int):=h;have e:fac (k-1)=fac n:=by
   rcases hk2 with hk2|rfl
   ·rw[show k-1=n by omega]
   ·rcases (show n=0∨n=1 by omega) with rfl|rfl<;>rfl
  exact congrArg (fun z:Nat=>rm ((z:Nat):Rat)) e
def poS(xs:List Rat)(n j:Nat):List (Nat × Y) × List W:=match j with
 |0=>([(0,.l 45 (.ar 0) xs.length (CR xs)),(1,.a (sc (.i .i64 (n:Int)))),(6,.a (sc (.i .i64 ((0:Nat):Int)))),(5,.s 0 (some 1))],[.l 45 1 (CR [1])])
 |j+1=>([(0,.l 45 (.ar 0) xs.length (CR xs)),(1,.a (sc (.i .i64 (n:Int)))),(6,.a (sc (.i .i64 ((j+1:Nat):Int)))),(5,.l 45 .nw (pwP xs (j+1)).length (CR (pwP xs (j+1))))],[])
theorem aDi{n L:Nat}(hn:n≤100)(hl:xs.length≤L)(hL:L≤10)(hx:∀m,Ma.sz (cf xs m)≤100000)(hp:∀j m,j≤n→Ma.sz (cf (pwP xs j) m)≤100000):Fx (F2 W0) 37 [.l 45 xs.length (CR xs),.v (sc (.i .i64 (n:Int)))] (.r [.l 45 (pwP xs n).length (CR (pwP xs n))]):=by
 have mul2:∀j,j≤n→Fx (F2 W0) 51 [.l 45 (pwP xs j).length (CR (pwP xs j)),.l 45 xs.length (CR xs)] (.r [.l 45 (pwP xs (j+1)).length (CR (pwP xs (j+1)))]):=fun j hj=>by
  have h1:=qF (Nat.le_trans hl hL) j;have lim:aJ=1000000000:=rfl;exact aOl (A0:=100000) (B0:=100000) (by omega) (by omega) (fun m=>hp j m hj) hx (by decide) (by omega)
 refine Fx.by_ tG aV Tryz.func37 rfl (by kernel_rfl) (by kernel_rfl) rfl ⟨_,pJ,{j:Nat // j≤n},fun j=>poS xs n j.1,fun j=>n-j.1,⟨⟨0,Nat.zero_le _⟩,[true],rfl,rfl,rfl,rfl,rfl,rfl,trivial⟩,fun j=>?_⟩;obtain⟨j,hj⟩:=j;cases j with
 |zero=>
  refine dt (fun h=>?_) fun h=>?_
  ·have hlt:0<n:=(by have h:((0:Nat):Int)<(n:Int):=h;omega);exact⟨_,mul2 0 (by omega),add1 (i:=0) (by decide),⟨1,hlt⟩,(show n-1<n-0 by omega),[false],rfl,rfl,rfl,rfl,rfl,rfl,trivial⟩
  ·obtain rfl:n=0:=(by have h:¬((0:Nat):Int)<(n:Int):=h;omega);exact⟨⟨rfl,rfl,rfl⟩,trivial⟩
 |succ j=>
  refine dt (fun h=>?_) fun h=>?_
  ·have hlt:j+1<n:=(by have h:((j+1:Nat):Int)<(n:Int):=h;omega);exact⟨_,mul2 (j+1) (by omega),add1 (i:=j+1) (by omega),⟨j+2,hlt⟩,(show n-(j+2)<n-(j+1) by omega),[],rfl,rfl,rfl,rfl,rfl,rfl,trivial⟩
  ·obtain rfl:n=j+1:=(by have h:¬((j+1:Nat):Int)<(n:Int):=h;omega);exact⟨⟨rfl,rfl,rfl⟩,trivial⟩
end
def dnL(xs:List Rat)(w:Rat):List Rat:=ct (mkP xs.length fun i=>cf xs i*(w⁻¹)^i)
def dnS(xs:List Rat)(w:Rat):List Rat × Int:=if 41<(ct xs).length then ([],3) else if 0<w then (dnL xs w,0) else ([],7)
def hiL(xs:List Rat):List Rat:=ct (mkP (ct xs).length fun i=>cf xs ((ct xs).length-1-i))
def hiS(xs:List Rat):List Rat × Int:=if 41<(ct xs).length then ([],3) else if (ct xs).length=0 then ([],8) else (hiL xs,0)
def baP(p x y:List Rat)(n:Nat):Nat→List Rat
 |0=>[]
 |k+1=>lK (baP p x y n k) (fK (bL (pwP x k) (pwP y (n-k))) (cf p k))
def baS(xs:List Rat)(b w:Rat):List Rat × Int:=if 41<(ct xs).length then ([],3) else if 0<b∧0<w then (if (ct xs).length=0 then ([],8) else if 21<(ct xs).length then ([],3) else (baP xs [w,0,1] [0,b] ((ct xs).length-1) (ct xs).length,0)) else ([],7)
theorem wT{c:Rat}(m:Nat):cf [c] m=mon 0 c m:=by
 cases m with
 |zero=>rfl
 |succ m=>rw[dS (Nat.succ_le_succ (Nat.zero_le m))];rfl
theorem kF{c:Rat}(m:Nat):cf [0,c] m=mon 1 c m:=by
 match m with
 |0=>rfl
 |1=>rfl
 |m+2=>rw[dS (Nat.le_add_left 2 m)];exact (if_neg (by omega)).symm
theorem aAo{w:Rat}(m:Nat):cf [w,0,1] m=sq2 w m:=by
 match m with
 |0=>rfl
 |1=>rfl
 |2=>rfl
 |m+3=>rw[dS (Nat.le_add_left 3 m)];unfold sq2;rw[if_neg (by omega),if_neg (by omega)]
theorem aGn(m:Nat):cf [1,1] m=on2 m:=by
 match m with
 |0=>rfl
 |1=>rfl
 |m+2=>rw[dS (Nat.le_add_left 2 m)];unfold on2;rw[if_neg (by omega)]
theorem aOp{xs:List Rat}{m:Nat}(h:(ct xs).length≤m):cf xs m=0:=by rw[←gV];exact dS h
section
variable {xs:List Rat} {c d w b:Rat} {a:Nat→Rat} {n:Nat}
theorem aA7{k:Nat}(hc:Ma.sz c≤90)(hk:k≤41):Ma.sz (c^k)≤3692:=by
 have h1:=yT c k;have h2:k*Ma.sz c≤41*90:=Nat.mul_le_mul hk hc;omega
theorem aJl{e k m:Nat}(hc:Ma.sz c≤90)(hk:k≤41):Ma.sz (pw (mon e c) k m)≤3692:=by
 rw[aAl];exact aAm (aA7 hc hk) (by decide)
def CvS(x y:Nat→Rat):Prop:=∀k i m,k≤41→i≤41→Ma.sz (cv (pw x k) (pw y i) m)≤7400
theorem aSO{e e':Nat}(hc:Ma.sz c≤90)(hd:Ma.sz d≤90):CvS (mon e c) (mon e' d):=fun k i m hk hi=>by
 rw[aJh];refine aAm (Nat.le_trans (dI _ _) ?_) (by decide);have h1:=aA7 hc hk;have h2:=aA7 hd hi;omega
theorem aOq{k m:Nat}(hw:Ma.sz w≤90)(hk:k≤40):Ma.sz (pw (sq2 w) k m)≤3604:=by
 have:=aSL (w:=w) (m:=m) hk;omega
theorem aLC{x y:Nat→Rat}{j m N:Nat}(hN:N≤41)(hj:j≤N)(ha:∀j,j<N→Ma.sz (a j)≤90)(hv:∀k i m,k+i<N→Ma.sz (cv (pw x k) (pw y i) m)≤7400):Ma.sz (ho a x y j m)≤1000000:=by
 have h:=aT3 (a:=a) (x:=x) (y:=y) (j:=j) (m:=m) (B:=7490) fun i hi=>Nat.le_trans (dI _ _) (by
  have h1:=ha i (by omega);have h2:=hv (j-1-i) i m (by omega);omega)
 omega
theorem aOr{k i m:Nat}(hw:Ma.sz w≤90)(hb:Ma.sz b≤90)(hk:k≤40)(hi:i≤41):Ma.sz (cv (pw (sq2 w) k) (pw (mon 1 b) i) m)≤7400:=by
 rw[eU (fun _=>rfl) (fun j=>aAl i j) m,wL];have h1:=aA7 hb hi;split
 ·have h2:=aOq (m:=m-i*1) hw hk;exact Nat.le_trans (dI _ _) (by omega)
 ·exact Nat.le_trans vF (by decide)
theorem qG:Ma.sz (1:Rat)≤90:=Nat.le_trans (jX 1 (by decide)) (by decide)
theorem aGo{e m:Nat}(hc:Ma.sz c≤90):Ma.sz (mon e c m)≤1000000:=aAm (Nat.le_trans hc (by decide)) (by decide)
theorem aLD{x y:List Rat}{e e' N:Nat}(hN:N≤41)(lx:x.length≤3)(ly:y.length≤3)(hx:∀m,cf x m=mon e c m)(hy:∀m,cf y m=mon e' d m)(hc:Ma.sz c≤90)(hd:Ma.sz d≤90)(ha:∀j,j<N→Ma.sz (a j)≤90):HoS a x y N:=
 ⟨hN,lx,ly,fun m=>by rw[hx];exact aGo hc,fun m=>by rw[hy];exact aGo hd,fun j hj=>Nat.le_trans (ha j hj) (by decide),fun j m hj=>by
  rw[wP,tQ (fun _=>rfl) hx hy];exact aLC hN hj ha fun k i m hk=>aSO hc hd k i m (by omega) (by omega),fun j m hj=>by
  rw[iZ,jD hy];exact Nat.le_trans (aJl hd (by omega)) (by decide)⟩
theorem aLE{N:Nat}(hN:N≤41)(hw:Ma.sz w≤90)(hb:Ma.sz b≤90)(ha:∀j,j<N→Ma.sz (a j)≤90):HoS a [w,0,1] [0,b] N:=
 ⟨hN,Nat.le_refl 3,Nat.le_succ 2,fun m=>by
  rw[aAo];unfold sq2;split
  ·omega
  ·split
   ·exact Nat.le_trans qG (by decide)
   ·exact Nat.le_trans vF (by decide),fun m=>by rw[kF];exact aGo hb,fun j hj=>Nat.le_trans (ha j hj) (by decide),fun j m hj=>by
  rw[wP,tQ (fun _=>rfl) aAo kF];exact aLC hN hj ha fun k i m hk=>aOr hw hb (by omega) (by omega),fun j m hj=>by
  rw[iZ,jD kF];exact Nat.le_trans (aJl hb (by omega)) (by decide)⟩
theorem aT5(hN:(ct xs).length=n)(hc:c=w⁻¹):hoP (fun j=>cf xs (n-1-j)) [0,c] [1] n=dnL xs w:=xA (aGi _) (nD _) fun m=>by
 unfold dnL;rw[wP,tQ (fun _=>rfl) kF wT,gV,fT,←hc];cases n with
 |zero=>
  show (0:Rat)=_;split
  ·rw[aOp (by omega),Rat.zero_mul]
  ·rfl
 |succ n=>
  rw[show (fun j=>cf xs (n+1-1-j))=fun j=>cf xs (n-j) from rfl,aUR (P:=cf xs)];have:=fG xs;split
  ·rw[if_pos (by omega)]
  ·split
   ·rw[aOp (by omega),Rat.zero_mul]
   ·rfl
theorem aT6(hN:(ct xs).length=n+1):hoP (fun j=>cf xs (n+1-1-j)) [1] [0,1] (n+1)=hiL xs:=xA (aGi _) (nD _) fun m=>by
 unfold hiL;rw[wP,tQ (fun _=>rfl) wT kF,gV,fT,hN];rw[show (fun j=>cf xs (n+1-1-j))=fun j=>cf xs (n-j) from rfl,aUS (P:=cf xs)];split
 ·rw[if_pos (by omega)];rfl
 ·rw[if_neg (by omega)]
theorem aGp{p x y:List Rat}{n:Nat}:∀k m:Nat,cf (baP p x y n k) m=sm (fun i=>cv (pw (cf x) i) (pw (cf y) (n-i)) m*cf p i) k
 |0,m=>nC m
 |k+1,m=>by
  rw[show baP p x y n (k+1)=lK (baP p x y n k) (fK (bL (pwP x k) (pwP y (n-k))) (cf p k)) from rfl,aAx,aCx,nU,aGp k,eU (fun i=>iZ k i) (fun i=>iZ (n-k) i) m];rfl
theorem aSP{p x y:List Rat}{n:Nat}:∀k:Nat,Nz (baP p x y n k)
 |0=>.inl rfl
 |_+1=>aGZ _ _
theorem aOs{x y:List Rat}(n:Nat):hoP (fun j=>cf xs (n+1-1-j)) x y (n+1)=baP xs x y n (n+1):=xA (aGi _) (aSP _) fun m=>by
 rw[wP,aGp,show (fun j=>cf xs (n+1-1-j))=fun j=>cf xs (n-j) from rfl,aSI (P:=cf xs)]
theorem aSQ{n:Nat}:pwP [1,1] n=mkP (n+1) fun k=>((ch n k:Nat):Rat):=xA (by
  cases n with
  |zero=>exact .inr (by decide+kernel)
  |succ n=>exact aGY _ _) (.inr (by
  have e:ch n n=1:=by
   have h1:=aCB (Nat.le_refl n);rw[Nat.sub_self]at h1;have h2:=wO n;have h3:ch n n*fac n=1*fac n:=(by rw[Nat.one_mul];exact (by simpa [fac] using h1));exact Nat.eq_of_mul_eq_mul_right h2 h3
  rw[bH,Nat.add_sub_cancel,fT,if_pos (Nat.lt_succ_self n),e];decide)) fun m=>by
 rw[iZ,jD aGn,aCC,fT];split
 ·rfl
 ·rw[wM (by omega)];rfl
end
section
variable {W0:World} {xs:List Rat} {w b:Rat}
theorem aSR(h:Ma.sz w≤80):Ma.sz (((1:Int):Rat)*w⁻¹)≤90:=by
 have h1:=dI ((1:Int):Rat) w⁻¹;have h2:=rV w;have h3:Ma.sz ((1:Int):Rat)≤2:=jX 1 (by decide);omega
theorem aT7:((1:Int):Rat)*w⁻¹=w⁻¹:=Rat.one_mul _
theorem aLF(h:0<w):w≠0:=fun e=>by rw[e]at h;exact absurd h Rat.lt_irrefl
theorem ab1(h:0<w):ab [w]=true:=by unfold ab;simp[h]
theorem aUT(h:¬0<w):ab [w]=false:=by unfold ab;simp[h]
theorem ab2(h:0<b∧0<w):ab [b,w]=true:=by unfold ab;simp[h.1,h.2]
theorem aUU(h:¬(0<b∧0<w)):ab [b,w]=false:=by
 unfold ab;by_cases h1:0<b
 ·by_cases h2:0<w
  ·exact absurd ⟨h1,h2⟩ h
  ·simp[h2]
 ·simp[h1]
theorem aT8{B:Nat}(h:Ma.sz w≤B)(hB:2≤B)(i:Nat):Ma.sz (cf [w] i)≤B:=by rw[wT];exact aAm h hB
theorem aT9{B:Nat}(h:Ma.sz b≤B)(h2:Ma.sz w≤B)(hB:2≤B)(i:Nat):Ma.sz (cf [b,w] i)≤B:=by
 match i with
 |0=>exact h
 |1=>exact h2
 |i+2=>rw[dS (Nat.le_add_left 2 i)];exact Nat.le_trans vF hB
theorem bt{A B:Prop}(a:A):(true=true→A)∧(true=false→B):=⟨fun _=>a,fun h=>by cases h⟩
theorem bf{A B:Prop}(b:B):(false=true→A)∧(false=false→B):=⟨fun h=>(by cases h),fun _=>b⟩
theorem aNw(hl:xs.length≤60)(hz:∀i,Ma.sz (cf xs i)≤80)(hw:Ma.sz w≤80):Fx (F2 W0) 12 [.l aN xs.length (C xs),.v (nm w)] (.r [.l aN (dnS xs w).1.length (C (dnS xs w).1),.a false [.i .i64 (dnS xs w).2]]):=by
 have lim:aJ=1000000000:=rfl;have zS:∀i,Ma.sz (cf xs i)≤aJ:=fun i=>Nat.le_trans (hz i) (by rw[lim];decide);have hL:=aBE (W0:=W0) (xs:=xs) (by omega) zS;have hD:=aA6 (W0:=W0) (xs:=xs) (by omega) zS;have hA:=aCF (W0:=W0) (xs:=[w]) (n:=1) rfl (by decide) (aT8 (Nat.le_trans hw (by rw[lim];decide)) (by rw[lim];decide));have hc:=fG xs;obtain⟨n,hn⟩:∃n,(ct xs).length=n:=⟨_,rfl⟩
 unfold dnS;rw[hn]at hL hD hc⊢;by_cases h1:41<n
 ·rw[decide_eq_true h1]at hL;rw[if_pos h1];exact Fx.by_ tG aV Tryz.func12 rfl (by kernel_rfl) (by kernel_rfl) rfl ⟨_,hL,bt ⟨⟨rfl,rfl⟩,rfl,trivial⟩⟩
 ·rw[decide_eq_false h1]at hL;rw[if_neg h1];by_cases h2:0<w
  ·rw[ab1 h2]at hA;rw[if_pos h2];have hK:=yE (W0:=W0) (xs:=xs) (x:=[((0:Int):Rat),((1:Int):Rat)*w⁻¹]) (y:=[((1:Int):Rat)]) (a:=fun j=>cf xs (n-1-j)) (N:=n) hc (fun j m e=>by show cf xs m=cf xs (n-1-j);rw[show n-1-j=m by omega]) (aLD (c:=((1:Int):Rat)*w⁻¹) (d:=1) (e:=1) (e':=0) (by omega) (by simp) (by simp) kF wT (aSR hw) qG fun j _=>Nat.le_trans (hz _) (by decide));have e:hoP (fun j=>cf xs (n-1-j)) [((0:Int):Rat),((1:Int):Rat)*w⁻¹] [((1:Int):Rat)] n=dnL xs w:=aT5 hn aT7;rw[e]at hK;exact Fx.by_ tG aV Tryz.func12 rfl (by kernel_rfl) (by kernel_rfl) rfl ⟨_,hL,bf ⟨_,hA,bf ⟨by kernel_rfl,_,lH (n:=0) (by decide) (by decide),_,lH (n:=1) (by decide) (by decide),_,aGj (aLF h2) (Nat.le_trans qG (by rw[lim];decide)) (by omega),_,hD,_,lH (n:=1) (by decide) (by decide),_,hK,⟨rfl,rfl,rfl⟩,rfl,trivial⟩⟩⟩
  ·rw[aUT h2]at hA;rw[if_neg h2];exact Fx.by_ tG aV Tryz.func12 rfl (by kernel_rfl) (by kernel_rfl) rfl ⟨_,hL,bf ⟨_,hA,bt ⟨⟨rfl,rfl⟩,rfl,trivial⟩⟩⟩
theorem aSS(hl:xs.length≤60)(hz:∀i,Ma.sz (cf xs i)≤80):Fx (F2 W0) 14 [.l aN xs.length (C xs)] (.r [.l aN (hiS xs).1.length (C (hiS xs).1),.a false [.i .i64 (hiS xs).2]]):=by
 have lim:aJ=1000000000:=rfl;have zS:∀i,Ma.sz (cf xs i)≤aJ:=fun i=>Nat.le_trans (hz i) (by rw[lim];decide);have hE:=aLy (W0:=W0) (xs:=xs) (by omega) zS;have hD:=aA6 (W0:=W0) (xs:=xs) (by omega) zS;have hc:=fG xs;unfold chE at hE;obtain⟨n,hn⟩:∃n,(ct xs).length=n:=⟨_,rfl⟩
 unfold hiS;rw[hn]at hE hD hc⊢;by_cases h1:41<n
 ·rw[if_pos h1]at hE⊢;exact Fx.by_ tG aV Tryz.func14 rfl (by kernel_rfl) (by kernel_rfl) rfl ⟨_,hE,dt (fun _=>⟨⟨rfl,rfl⟩,rfl,trivial⟩) fun h=>absurd (by decide) h⟩
 ·rw[if_neg h1]at hE⊢;by_cases h2:n=0
  ·rw[if_pos h2]at hE⊢;exact Fx.by_ tG aV Tryz.func14 rfl (by kernel_rfl) (by kernel_rfl) rfl ⟨_,hE,dt (fun _=>⟨⟨rfl,rfl⟩,rfl,trivial⟩) fun h=>absurd (by decide) h⟩
  ·rw[if_neg h2]at hE⊢;obtain⟨m,rfl⟩:∃m,n=m+1:=⟨n-1,by omega⟩
   have hK:=yE (W0:=W0) (xs:=xs) (x:=[((1:Int):Rat)]) (y:=[((0:Int):Rat),((1:Int):Rat)]) (a:=fun j=>cf xs (m+1-1-j)) (N:=m+1) hc (fun j k e=>by show cf xs k=cf xs (m+1-1-j);rw[show m+1-1-j=k by omega]) (aLD (c:=1) (d:=1) (e:=0) (e':=1) (by omega) (by simp) (by simp) wT kF qG qG fun j _=>Nat.le_trans (hz _) (by decide));have e:hoP (fun j=>cf xs (m+1-1-j)) [((1:Int):Rat)] [((0:Int):Rat),((1:Int):Rat)] (m+1)=hiL xs:=aT6 hn;rw[e]at hK;exact Fx.by_ tG aV Tryz.func14 rfl (by kernel_rfl) (by kernel_rfl) rfl ⟨_,hE,dt (fun h=>absurd rfl h) fun _=>⟨_,lH (n:=0) (by decide) (by decide),_,lH (n:=1) (by decide) (by decide),_,hD,_,lH (n:=1) (by decide) (by decide),_,hK,⟨rfl,rfl,rfl⟩,rfl,trivial⟩⟩
theorem aST(hl:xs.length≤60)(hz:∀i,Ma.sz (cf xs i)≤80)(hb:Ma.sz b≤80)(hw:Ma.sz w≤80):Fx (F2 W0) 16 [.l aN xs.length (C xs),.v (nm b),.v (nm w)] (.r [.l aN (baS xs b w).1.length (C (baS xs b w).1),.a false [.i .i64 (baS xs b w).2]]):=by
 have lim:aJ=1000000000:=rfl;have zS:∀i,Ma.sz (cf xs i)≤aJ:=fun i=>Nat.le_trans (hz i) (by rw[lim];decide);have hL:=aBE (W0:=W0) (xs:=xs) (by omega) zS;have hD:=aA6 (W0:=W0) (xs:=xs) (by omega) zS;have hA:=aCF (W0:=W0) (xs:=[b,w]) (n:=2) rfl (by decide) (aT9 (Nat.le_trans hb (by rw[lim];decide)) (Nat.le_trans hw (by rw[lim];decide)) (by rw[lim];decide));have hc:=fG xs;obtain⟨n,hn⟩:∃n,(ct xs).length=n:=⟨_,rfl⟩
 unfold baS;rw[hn]at hL hD hc⊢;by_cases h1:41<n
 ·rw[decide_eq_true h1]at hL;rw[if_pos h1];exact Fx.by_ tG aV Tryz.func16 rfl (by kernel_rfl) (by kernel_rfl) rfl ⟨_,hD,_,hL,bt ⟨⟨rfl,rfl⟩,rfl,trivial⟩⟩
 ·rw[decide_eq_false h1]at hL;rw[if_neg h1];by_cases h2:0<b∧0<w
  ·rw[ab2 h2]at hA;rw[if_pos h2];by_cases h3:n=0
   ·rw[if_pos h3];exact Fx.by_ tG aV Tryz.func16 rfl (by kernel_rfl) (by kernel_rfl) rfl ⟨_,hD,_,hL,bf ⟨_,hA,bf (dt (fun _=>⟨⟨rfl,rfl⟩,rfl,trivial⟩) fun h=>absurd (show (n:Int)-1<0 by omega) h)⟩⟩
   ·rw[if_neg h3];by_cases h4:21<n
    ·rw[if_pos h4];exact Fx.by_ tG aV Tryz.func16 rfl (by kernel_rfl) (by kernel_rfl) rfl ⟨_,hD,_,hL,bf ⟨_,hA,bf (dt (fun h=>absurd h (show ¬(n:Int)-1<0 by omega)) fun _=>⟨_,aCD (by omega) (by omega),dt (fun _=>⟨⟨rfl,rfl⟩,rfl,trivial⟩) fun h=>absurd (show (40:Int)<2*((n:Int)-1) by omega) h⟩)⟩⟩
    ·rw[if_neg h4];obtain⟨m,rfl⟩:∃m,n=m+1:=⟨n-1,by omega⟩
     have hK:=yE (W0:=W0) (xs:=xs) (x:=[w,((0:Int):Rat),((1:Int):Rat)]) (y:=[((0:Int):Rat),b]) (a:=fun j=>cf xs (m+1-1-j)) (N:=m+1) hc (fun j k e=>by show cf xs k=cf xs (m+1-1-j);rw[show m+1-1-j=k by omega]) (aLE (w:=w) (b:=b) (by omega) (by omega) (by omega) fun j _=>Nat.le_trans (hz _) (by decide));have e:hoP (fun j=>cf xs (m+1-1-j)) [w,((0:Int):Rat),((1:Int):Rat)] [((0:Int):Rat),b] (m+1)=baP xs [w,0,1] [0,b] (m+1-1) (m+1):=aOs m;rw[e]at hK;exact Fx.by_ tG aV Tryz.func16 rfl (by kernel_rfl) (by kernel_rfl) rfl ⟨_,hD,_,hL,bf ⟨_,hA,bf (dt (fun h=>absurd h (show ¬((m+1:Nat):Int)-1<0 by omega)) fun _=>⟨_,aCD (by omega) (by omega),dt (fun h=>absurd h (show ¬(40:Int)<2*(((m+1:Nat):Int)-1) by omega)) fun _=>⟨by kernel_rfl,_,lH (n:=0) (by decide) (by decide),_,lH (n:=1) (by decide) (by decide),by kernel_rfl,_,lH (n:=0) (by decide) (by decide),_,hK,⟨rfl,rfl,rfl⟩,rfl,trivial⟩⟩)⟩⟩
  ·rw[aUU h2]at hA;rw[if_neg h2];exact Fx.by_ tG aV Tryz.func16 rfl (by kernel_rfl) (by kernel_rfl) rfl ⟨_,hD,_,hL,bf ⟨_,hA,bt ⟨⟨rfl,rfl⟩,rfl,trivial⟩⟩⟩
end
theorem aBF:∀m:Nat,((2^m:Nat):Rat)=(2:Rat)^m
 |0=>by rw[Rat.pow_zero];rfl
 |m+1=>by rw[Nat.pow_succ,Rat.natCast_mul,aBF m,Rat.pow_succ];rfl
theorem aOt{n k:Nat}:((fac k:Nat):Rat)*((2^(n-k):Nat):Rat)*((fac (n-k):Nat):Rat)=(2:Rat)^(n-k)*(((fac k:Nat):Rat)*((fac (n-k):Nat):Rat)):=by
 rw[aBF,Rat.mul_comm ((fac k:Nat):Rat),Rat.mul_assoc]
section
variable {W0:World} {xs:List Rat} {w b x:Rat}
theorem aNx{n:Int}:Fx (F2 W0) 7 [.v (sc (.i .i64 n))] (.r [.l 45 (beS n).1.length (CR (beS n).1),.a false [.i .i64 (beS n).2]]):=by
 have lim:aJ=1000000000:=rfl;unfold beS;split
 ·rename_i h;exact Fx.by_ tG aV Tryz.func7 rfl (by kernel_rfl) (by kernel_rfl) rfl (dt (fun _=>⟨⟨rfl,rfl⟩,rfl,trivial⟩) fun h1=>dt (fun _=>⟨⟨rfl,rfl⟩,rfl,trivial⟩) fun h2=>absurd h (by omega))
 ·rename_i hn;obtain⟨n,rfl⟩:∃m:Nat,n=m:=⟨n.toNat,by omega⟩
  rw[show ((n:Int)).toNat=n from rfl,bH];have hS:∀i,i≤n→Fx (F2 W0) 32 [.v (rm ((fac i:Nat):Rat)),.v (sc (.i .i64 ((n:Int)-(i:Int))))] (.v (rm (((fac i:Nat):Rat)*((2^(n-i):Nat):Rat)))):=fun i hi=>(by rw[aEf hi];exact aNs (oM (by omega)) (by omega));have hF:∀i,i≤n→Fx (F2 W0) 33 [.v (sc (.i .i64 ((n:Int)-(i:Int))))] (.v (rm ((fac (n-i):Nat):Rat))):=fun i hi=>(by rw[aEf hi];exact pM (by omega));have hG:∀i,i≤n→Fx (F2 W0) 33 [.v (sc (.i .i64 (2*(n:Int)-(i:Int))))] (.v (rm ((fac (2*n-i):Nat):Rat))):=fun i hi=>(by rw[show 2*(n:Int)-(i:Int)=((2*n-i:Nat):Int) by omega];exact pM (by omega));have z1:∀i,i≤n→Ma.sz (((fac i:Nat):Rat)*((2^(n-i):Nat):Rat))≤1000:=fun i hi=>by
   have h1:=dI ((fac i:Nat):Rat) ((2^(n-i):Nat):Rat);have h2:=kV (n:=i) (by omega);have h3:=aGl (n-i);rw[←aBF]at h3;omega
  have z2:∀i,i≤n→Ma.sz (((fac i:Nat):Rat)*((2^(n-i):Nat):Rat)*((fac (n-i):Nat):Rat))≤10000:=fun i hi=>by
   have h1:=dI (((fac i:Nat):Rat)*((2^(n-i):Nat):Rat)) ((fac (n-i):Nat):Rat);have h2:=kV (n:=n-i) (by omega);have h3:=z1 i hi;omega
  have hM:∀i,i≤n→Fx (F2 W0) 31 [.v (rm (((fac i:Nat):Rat)*((2^(n-i):Nat):Rat))),.v (rm ((fac (n-i):Nat):Rat))] (.v (rm (((fac i:Nat):Rat)*((2^(n-i):Nat):Rat)*((fac (n-i):Nat):Rat)))):=fun i hi=>nP (by have:=z1 i hi;omega) (oM (by omega));have hO:∀i,i≤n→Fx (F2 W0) 34 [.v (rm ((fac (2*n-i):Nat):Rat)),.v (rm (((fac i:Nat):Rat)*((2^(n-i):Nat):Rat)*((fac (n-i):Nat):Rat)))] (.v (rm (bes n i))):=fun i hi=>by
   have:=aLB (W0:=W0) (x:=((fac (2*n-i):Nat):Rat)) (y:=((fac i:Nat):Rat)*((2^(n-i):Nat):Rat)*((fac (n-i):Nat):Rat)) (by rw[aOt];exact wR (aGk (by decide) _) (wR (wQ _) (wQ _))) (oM (by omega)) (by have:=z2 i hi;omega);rw[show bes n i=((fac (2*n-i):Nat):Rat)*(((fac i:Nat):Rat)*((2^(n-i):Nat):Rat)*((fac (n-i):Nat):Rat))⁻¹ by rw[aOt];rfl];exact this
  refine Fx.by_ tG aV Tryz.func7 rfl (by kernel_rfl) (by kernel_rfl) rfl (dt (fun h=>absurd h (by omega)) fun h1=>dt (fun h=>absurd h (by omega)) fun h2=>⟨{i:Nat // i≤n+1},fun i=>gro 4 i.1 [(0,.a (sc (.i .i64 (n:Int)))),(5,.a (sc (.i .i64 (i.1:Int))))] [] (bes n),fun i=>n+1-i.1,⟨⟨0,Nat.zero_le _⟩,[],rfl,rfl,rfl,rfl,rfl,trivial⟩,fun i=>?_⟩);obtain⟨i,hi⟩:=i;cases i with
  |zero=>
   refine dt (fun h=>?_) fun h=>absurd (show ((0:Nat):Int)≤(n:Int) by omega) h;exact⟨_,pM (n:=0) (by decide),⟨by omega,by omega⟩,_,hS 0 (by omega),⟨by omega,by omega⟩,_,hF 0 (by omega),_,hM 0 (by omega),by kernel_rfl,_,aCD (by omega) (by omega),⟨by omega,by omega⟩,_,hG 0 (by omega),_,hO 0 (by omega),(by decide),add1 (i:=0) (by decide),⟨1,by omega⟩,(show n+1-1<n+1-0 by omega),[true,false,false],rfl,g1 rfl,rfl,rfl,rfl,trivial⟩
  |succ i=>
   refine dt (fun h=>?_) fun h=>?_
   ·have hlt:i+1≤n:=(by have h:((i+1:Nat):Int)≤(n:Int):=h;omega);exact⟨_,pM (n:=i+1) (by omega),⟨by omega,by omega⟩,_,hS (i+1) hlt,⟨by omega,by omega⟩,_,hF (i+1) hlt,_,hM (i+1) hlt,by kernel_rfl,_,aCD (by omega) (by omega),⟨by omega,by omega⟩,_,hG (i+1) hlt,_,hO (i+1) hlt,⟨(show (i+1+1)*56<_ by omega),(show i+1+1<_ by omega)⟩,add1 (i:=i+1) (by omega),⟨i+2,by omega⟩,(show n+1-(i+2)<n+1-(i+1) by omega),[true,false,false,false],rfl,g2 rfl,rfl,rfl,rfl,trivial⟩
   ·obtain rfl:i=n:=(by have h:¬((i+1:Nat):Int)≤(n:Int):=h;omega);exact⟨⟨rfl,rfl,rfl⟩,rfl,trivial⟩
theorem aJm{n:Int}:Fx (F2 W0) 10 [.v (sc (.i .i64 n))] (.r [.l 45 (biS n).1.length (CR (biS n).1),.a false [.i .i64 (biS n).2]]):=by
 unfold biS;split
 ·rename_i h;exact Fx.by_ tG aV Tryz.func10 rfl (by kernel_rfl) (by kernel_rfl) rfl (dt (fun _=>⟨⟨rfl,rfl⟩,rfl,trivial⟩) fun h1=>dt (fun _=>⟨⟨rfl,rfl⟩,rfl,trivial⟩) fun h2=>absurd h (by omega))
 ·rename_i hn;obtain⟨n,rfl⟩:∃m:Nat,n=m:=⟨n.toNat,by omega⟩
  have hP:=aDi (W0:=W0) (xs:=[1,1]) (n:=n) (L:=2) (by omega) (Nat.le_refl 2) (by decide) (fun m=>by
   rw[aGn];unfold on2;split
   ·exact Nat.le_trans qG (by decide)
   ·exact Nat.le_trans vF (by decide)) fun j m hj=>by
   rw[iZ,jD aGn,aCC];exact Nat.le_trans (aJj (by omega)) (by decide)
  rw[aSQ]at hP;rw[show ((n:Int)).toNat=n from rfl];exact Fx.by_ tG aV Tryz.func10 rfl (by kernel_rfl) (by kernel_rfl) rfl (dt (fun h=>absurd h (by omega)) fun h1=>dt (fun h=>absurd h (by omega)) fun h2=>⟨_,pJ,_,pJ,_,hP,⟨rfl,rfl,rfl⟩,rfl,trivial⟩)
theorem gS1{g:Nat→Rat}{q r r':Rat}{bs:List W}(h:q=g 0)(h2:r=r'):W.l 45 1 [encR q]::W.c ⟨45,encR r⟩::bs=W.l 45 1 (CR (mkP 1 g))::W.c ⟨45,encR r'⟩::bs:=by rw[h,h2];rfl
theorem gS2{g:Nat→Rat}{q r r':Rat}{bs:List W}{k:Nat}(h:q=g k)(h2:r=r'):W.l 45 (k+1) (CR (mkP k g)++[encR q])::W.c ⟨45,encR r⟩::bs=W.l 45 (k+1) (CR (mkP (k+1) g))::W.c ⟨45,encR r'⟩::bs:=by rw[h,h2,aDf]
theorem aNy(hl:xs.length≤60)(hz:∀i,Ma.sz (cf xs i)≤80)(hx:Ma.sz x≤90):Fx (F2 W0) 48 [.l 45 xs.length (CR xs),.v (rm x)] (.r [.l 45 (ct (mkP xs.length fun i=>cf xs i*x^i)).length (CR (ct (mkP xs.length fun i=>cf xs i*x^i)))]):=by
 have lim:aJ=1000000000:=rfl;have zp:∀i,i≤60→Ma.sz (x^i)≤5402:=fun i hi=>by
  have h1:=yT x i;have h2:i*Ma.sz x≤60*90:=Nat.mul_le_mul hi hx;omega
 have zq:∀i,i≤60→Ma.sz (x^i)≤aJ:=fun i hi=>Nat.le_trans (zp i hi) (by rw[lim];decide);obtain⟨M,hM⟩:∃m,xs.length=m:=⟨_,rfl⟩
 obtain⟨g,hg⟩:∃g:Nat→Rat,(fun i=>cf xs i*x^i)=g:=⟨_,rfl⟩
 have hgi:∀i,cf xs i*x^i=g i:=fun i=>congrFun hg i;have hL:∀i,i<M→(CR xs)[i]? =some (encR (cf xs i)):=fun i hi=>pK (iA (by omega));rw[hM,hg];have hT:=qE (W0:=W0) (xs:=mkP M g) (by rw[bH];omega) (fun i=>by
  rw[fT];split
  ·rw[←hgi];exact Nat.le_trans (dI _ _) (by have:=hz i;have:=zp i (by omega);omega)
  ·exact sz0)
 rw[bH]at hT;refine Fx.by_ tG aV Tryz.func48 rfl (by kernel_rfl) (by kernel_rfl) rfl ⟨_,pJ,{i:Nat // i≤M},fun i=>gro 5 i.1 [(0,.l 45 (.ar 0) M (CR xs)),(3,.p 0 0),(6,.p 1 0),(7,.a (sc (.i .i64 (i.1:Int))))] [.c ⟨45,encR (x^i.1)⟩,.c ⟨45,encR x⟩] g,fun i=>M-i.1,⟨⟨0,Nat.zero_le _⟩,[true,true],rfl,cNR (show (((1:Nat):Int):Rat)=x^0 by rw[Rat.pow_zero];rfl),rfl,rfl,rfl,rfl,rfl,trivial⟩,fun i=>?_⟩;obtain⟨i,hi⟩:=i;cases i with
 |zero=>
  refine dt (fun h=>?_) fun h=>?_
  ·have hlt:0<M:=(by have h:((0:Nat):Int)<(M:Int):=h;omega);exact⟨by kernel_rfl,0,rfl,_,hL 0 hlt,_,nP (by have:=hz 0;omega) (zq 0 (by omega)),(by decide),_,nP (zq 0 (by omega)) (by omega),add1 (i:=0) (by decide),⟨1,hlt⟩,(show M-1<M-0 by omega),[true,false,true,true],rfl,gS1 (hgi 0) (Rat.pow_succ x 0).symm,rfl,rfl,rfl,rfl,rfl,trivial⟩
  ·obtain rfl:M=0:=(by have h:¬((0:Nat):Int)<(M:Int):=h;omega);exact⟨_,hT.ns,⟨rfl,rfl,rfl⟩,trivial⟩
 |succ i=>
  refine dt (fun h=>?_) fun h=>?_
  ·have hlt:i+1<M:=(by have h:((i+1:Nat):Int)<(M:Int):=h;omega);exact⟨by kernel_rfl,i+1,rfl,_,hL (i+1) hlt,_,nP (by have:=hz (i+1);omega) (zq (i+1) (by omega)),⟨(show (i+1+1)*56<_ by omega),(show i+1+1<_ by omega)⟩,_,nP (zq (i+1) (by omega)) (by omega),add1 (i:=i+1) (by omega),⟨i+2,hlt⟩,(show M-(i+2)<M-(i+1) by omega),[true,false,false,true,true],rfl,gS2 (hgi (i+1)) (Rat.pow_succ x (i+1)).symm,rfl,rfl,rfl,rfl,rfl,trivial⟩
  ·obtain rfl:i+1=M:=(by have h:¬((i+1:Nat):Int)<(M:Int):=h;omega);exact⟨_,hT,⟨rfl,rfl,rfl⟩,trivial⟩
end
end J
end Go.Proofs.YtohcfjmkfflkpaaGreatDoor
