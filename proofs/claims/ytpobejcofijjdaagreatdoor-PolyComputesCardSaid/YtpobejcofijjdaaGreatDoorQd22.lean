/- PolyComputes is true for any two slices of strings and any two strings. No condition. -/
import Derived.Deep.DeepHandedRow
import Derived.LaidMore
import Derived.Lay
import Derived.OpenShut
import Derived.ProofKit
import Derived.Test.YtpobejcofijjdaaGreatDoorCards
import Derived.Test.YtpobejcofijjdaaGreatDoorTie
import Derived.Test.YtpobejcofijjdaaGreatDoorQd21
set_option maxHeartbeats 20000000
set_option maxRecDepth 100000
namespace Go.Proofs.YtpobejcofijjdaaGreatDoor.J
open Go Go.RowKit
open Ma Me K E Go.Proofs.YtpobejcofijjdaaGreatDoor.Po
theorem eZ(xs:List Rat):(ct xs).length≤xs.length:=aEl (lJ xs) (fun n=>fG xs n)
theorem aHf{xs:List Rat}{n i:Nat}(hi:i<n):cf (xs.take n) i=cf xs i:=by unfold cf;rw[List.getElem?_take,if_pos hi]
theorem aMS{xs:List Rat}{n i:Nat}(hi:n≤i):cf (xs.take n) i=0:=by unfold cf;rw[List.getElem?_take,if_neg (by omega)];rfl
theorem aAQ(xs:List Rat):xs.take (ct xs).length=ct xs:=by
 have hle:=eZ xs;have hl:(xs.take (ct xs).length).length=(ct xs).length:=by rw[List.length_take];omega
 refine aBE ?_ (lJ xs) fun k=>?_
 ·rcases lJ xs with h1|h1
  ·exact .inl (List.eq_nil_of_length_eq_zero (by rw[hl,h1];rfl))
  ·by_cases h0:(ct xs).length=0
   ·exact .inl (List.eq_nil_of_length_eq_zero (by omega))
   ·refine .inr ?_;rw[hl,aHf (by omega),←fG];exact h1
 ·by_cases hk:k<(ct xs).length
  ·rw[aHf hk,fG]
  ·rw[aMS (by omega),dY (by omega)]
def pf(n i:Nat)(f:Nat→Rat):List Rat:=mkP n fun k=>if k<i then f k else 0
theorem sV{n:Nat}{f:Nat→Rat}{k:Nat}(hk:k<n):(mkP n f)[k]? =some (f k):=by
 unfold mkP;rw[List.getElem?_map,List.getElem?_range hk];rfl
theorem aHg{n k:Nat}{f g:Nat→Rat}{x:Rat}(hx:k<n→g k=x)(hg:∀j,j<n→j≠k→g j=f j):(mkP n f).set k x=mkP n g:=by
 apply List.ext_getElem?;intro j;rw[List.getElem?_set];by_cases hj:j<n
 ·by_cases hk:k=j
  ·subst hk;rw[if_pos rfl,if_pos (by rw[bO];exact hj),sV hj,hx hj]
  ·rw[if_neg hk,sV hj,sV hj,hg j hj (fun q=>hk q.symm)]
 ·have e:∀f':Nat→Rat,(mkP n f')[j]? =none:=fun f'=>List.getElem?_eq_none (by rw[bO];omega);rw[e,e];split
  ·rw[if_neg (by rw[bO];omega)]
  ·rfl
theorem mJ{n:Nat}{f g:Nat→Rat}(h:∀k,k<n→f k=g k):mkP n f=mkP n g:=List.map_congr_left fun k hk=>h k (List.mem_range.1 hk)
theorem aBw{n:Nat}:mkP n (fun _=>0)=List.replicate n 0:=by
 apply List.ext_getElem?;intro j;by_cases hj:j<n
 ·rw[sV hj,List.getElem?_replicate,if_pos hj]
 ·rw[List.getElem?_eq_none (by rw[bO];omega),List.getElem?_eq_none (by rw[List.length_replicate];omega)]
theorem aAR{n:Nat}{f:Nat→Rat}:pf n 0 f=List.replicate n 0:=aBw
theorem aCq{n i:Nat}{f:Nat→Rat}:(pf n i f).set i (f i)=pf n (i+1) f:=aHg (fun _=>if_pos (Nat.lt_succ_self i)) fun j _ hne=>by
 by_cases h:j<i
 ·rw[if_pos h,if_pos (by omega)]
 ·rw[if_neg h,if_neg (by omega)]
theorem pV{n:Nat}{f:Nat→Rat}:pf n n f=mkP n f:=mJ fun _ hk=>if_pos hk
theorem aK5(xs:List Rat):mkP xs.length (cf xs)=xs:=by
 apply List.ext_getElem?;intro j;by_cases hj:j<xs.length
 ·rw[sV hj];unfold cf;rw[List.getElem?_eq_getElem hj];rfl
 ·rw[List.getElem?_eq_none (by rw[bO];omega),List.getElem?_eq_none (by omega)]
theorem sz0:Ma.sz 0≤aI:=by decide+kernel
theorem iQ{xs:List Rat}{i:Nat}(hi:i<xs.length):xs[i]? =some (cf xs i):=by
 unfold cf;rw[List.getElem?_eq_getElem hi];rfl
theorem ct_cf'(xs:List Rat)(i:Nat):cf (ct xs) i=cf xs i:=fG xs i
theorem aMT{i:Nat}(h:i<1000000):Ma.sz (((i:Nat):Int):Rat)≤2:=vH _ (by simp[W64];omega)
section
variable {p q:List Rat} {i j k n m N A B':Nat}
def mB(p q:List Rat)(i k:Nat):Rat:=sm (fun a=>if a≤k then cf p a*cf q (k-a) else 0) i
def mF(p q:List Rat)(i j k:Nat):Rat:=mB p q i k+(if i≤k∧k<i+j then cf p i*cf q (k-i) else 0)
theorem aHh:mF p q 0 0 k=0:=by
 unfold mF;rw[if_neg (by omega),Rat.add_zero];rfl
theorem aK6:(mkP N (mF p q i j)).set (i+j) (mF p q i j (i+j)+cf p i*cf q j)=mkP N (mF p q i (j+1)):=aHg (fun _=>by
  unfold mF;rw[if_pos (by omega),if_neg (by omega),Rat.add_zero,Nat.add_sub_cancel_left]) fun k _ hne=>by
  unfold mF;congr 1;by_cases h:i≤k∧k<i+j
  ·rw[if_pos h,if_pos (by omega)]
  ·rw[if_neg h,if_neg (by omega)]
theorem aHi:mkP N (mF p q i q.length)=mkP N (mF p q (i+1) 0):=mJ fun k _=>by
 unfold mF;rw[if_neg (c:=i+1≤k∧k<i+1+0) (by omega),Rat.add_zero];show mB p q i k+_=mB p q i k+(if i≤k then cf p i*cf q (k-i) else 0)
 congr 1;by_cases h:i≤k
 ·rw[if_pos h];by_cases h2:k<i+q.length
  ·rw[if_pos ⟨h,h2⟩]
  ·rw[if_neg (by omega),dY (p:=q) (n:=k-i) (by omega),Rat.mul_zero]
 ·rw[if_neg h,if_neg (by omega)]
theorem aFE:mkP N (mF p q p.length 0)=mkP N (cv (cf p) (cf q)):=mJ fun k _=>by
 unfold mF;rw[if_neg (by omega),Rat.add_zero];obtain⟨G,hG⟩:∃G:Nat→Rat,G=fun a=>if a≤k then cf p a*cf q (k-a) else 0:=⟨_,rfl⟩
 have h1:sm G (p.length+(k+1))=sm G p.length:=qW (k+1) fun a ha=>by rw[hG];dsimp only;rw[dY ha,Rat.zero_mul];split<;>rfl
 have h2:sm G ((k+1)+p.length)=sm G (k+1):=qW p.length fun a ha=>by rw[hG];dsimp only;rw[if_neg (by omega)]
 show sm _ p.length=sm _ (k+1);rw[←hG,←h1,Nat.add_comm,h2,hG];exact iC fun a ha=>if_pos (by omega)
theorem aNJ(hA:∀a,Ma.sz (cf p a)≤A)(hB:∀a,Ma.sz (cf q a)≤B')(h2:2≤A):Ma.sz (mF p q i j k)≤2*((i+1)*(A+B'))+(A+B')+(i+1)+2:=by
 have e:mF p q i j k=sm (fun a=>if a<i then (if a≤k then cf p a*cf q (k-a) else 0) else if i≤k∧k<i+j then cf p i*cf q (k-i) else 0) (i+1):=by
  show mB p q i k+_=sm _ i+_;congr 1
  ·exact iC fun a ha=>by rw[if_pos ha]
  ·exact (if_neg (Nat.lt_irrefl i)).symm
 rw[e];have hm:∀a b,Ma.sz (cf p a*cf q b)≤A+B':=fun a b=>Nat.le_trans (fJ _ _) (Nat.add_le_add (hA a) (hB b));have h0:Ma.sz 0≤A+B':=Nat.le_trans aAj (by omega);refine aDN fun a _=>?_;by_cases h1:a<i
 ·rw[if_pos h1];split
  ·exact hm _ _
  ·exact h0
 ·rw[if_neg h1];split
  ·exact hm _ _
  ·exact h0
end
def esM(a b:Rat)(s:Rat × Rat):Rat × Rat:=(cZ (aL s.1 s.2) (aJ s.1 s.2) (aL a b) (aJ a b),dC (aL s.1 s.2) (aJ s.1 s.2) (aL a b) (aJ a b))
def nOf(s:List Nat):Rat:=(bV (by8 s)).2
theorem aFF{ps:List Rat}{k:Nat}{x:Rat}(hk:k<ps.length):evP (ps.drop k) x=evP (ps.drop (k+1)) x*x+cf ps k:=by
 rw[List.drop_eq_getElem_cons hk,show cf ps k=ps[k] from by unfold cf;rw[List.getElem?_eq_getElem hk];rfl];rfl
theorem aHj{ps:List Rat}{k:Nat}{a b:Rat}(hk:k<ps.length):(ps.drop k).foldr (esS a b) (0,0)=esS a b (cf ps k) ((ps.drop (k+1)).foldr (esS a b) (0,0)):=by
 rw[List.drop_eq_getElem_cons hk,show cf ps k=ps[k] from by unfold cf;rw[List.getElem?_eq_getElem hk];rfl];rfl
section
variable {p q:List Rat} {A0 B0 C0 n:Nat} {x y:Rat}
theorem aRV{xs:List Rat}{B:Nat}(h:∀i,Ma.sz (cf xs i)≤B):∀x∈xs,Ma.sz x≤B:=fun x hx=>by
 obtain⟨i,hi⟩:=List.getElem?_of_mem hx;have:=h i;unfold cf at this;rw[hi]at this;exact this
theorem aRW(p q:List Rat):(iH p q).length≤p.length+q.length:=by
 have h1:=eZ p;have h2:=eZ q;unfold iH;split
 ·exact Nat.zero_le _
 ·rw[bO];omega
theorem aPv(hp:∀i,Ma.sz (cf p i)≤A0)(hq:∀i,Ma.sz (cf q i)≤B0)(n:Nat)(hl:p.length+q.length≤n)(hC:2*(n*(A0+B0))+(A0+B0)+n+2≤C0):∀i,Ma.sz (cf (iH p q) i)≤C0:=fun i=>
 Nat.le_trans (aOX (n:=n) hp hq (by have:=eZ p;have:=eZ q;omega) i) hC
theorem aRX(p q:List Rat):(nN p q).length≤max p.length q.length:=by
 unfold nN;refine Nat.le_trans (eZ _) ?_;rw[bO];exact Nat.le_refl _
theorem sub_le(p q:List Rat):(pW p q).length≤max p.length q.length:=by
 unfold pW;refine Nat.le_trans (eZ _) ?_;rw[bO];exact Nat.le_refl _
theorem aHk(hp:∀i,Ma.sz (cf p i)≤A0)(hq:∀i,Ma.sz (cf q i)≤B0)(i:Nat):Ma.sz (cf p i+cf q i)≤2*(A0+B0)+1:=Nat.le_trans (aJf _ _) (by have:=hp i;have:=hq i;omega)
theorem aHl(hp:∀i,Ma.sz (cf p i)≤A0)(hq:∀i,Ma.sz (cf q i)≤B0)(i:Nat):Ma.sz (cf p i-cf q i)≤2*(A0+B0)+1:=Nat.le_trans (aP7 _ _) (by have:=hp i;have:=hq i;omega)
theorem aPw(hp:∀i,Ma.sz (cf p i)≤A0)(hq:∀i,Ma.sz (cf q i)≤B0)(i:Nat):Ma.sz (cf (nN p q) i)≤2*(A0+B0)+1:=by rw[aGh];exact aHk hp hq i
theorem aPx(hp:∀i,Ma.sz (cf p i)≤A0)(hq:∀i,Ma.sz (cf q i)≤B0)(i:Nat):Ma.sz (cf (pW p q) i)≤2*(A0+B0)+1:=by rw[aGi];exact aHl hp hq i
theorem aRY(p:List Rat):(kZ p).length≤p.length:=by
 unfold kZ;rw[bO];have:=eZ p;omega
theorem aPy(hp:∀i,Ma.sz (cf p i)≤A0)(hl:p.length<1000000)(i:Nat):Ma.sz (cf (kZ p) i)≤A0+2:=by
 rw[aGl];by_cases h:i+1<p.length
 ·refine Nat.le_trans (fJ _ _) ?_;have h1:=hp (i+1);have h2:=aMT (i:=i+1) (by omega);have h3:Ma.sz ((i+1:Nat):Rat)≤2:=h2;omega
 ·rw[dY (p:=p) (n:=i+1) (by omega),Rat.mul_zero];exact Nat.le_trans aAj (by omega)
theorem aHm(p:List Rat)(k i:Nat):cf (p.drop k) i=cf p (k+i):=by unfold cf;rw[List.getElem?_drop]
theorem aK7{X L:Nat}(hp:∀i,Ma.sz (cf p i)≤A0)(hx:Ma.sz x≤X)(hl:p.length≤L):Ma.sz (evP p x)≤2*(L*(A0+(L*X+2)))+(A0+(L*X+2))+L+2:=by
 rw[aEm x hl];refine aDN fun i hi=>Nat.le_trans (fJ _ _) (Nat.add_le_add (hp i) (Nat.le_trans (aP8 x i) ?_));have:i*Ma.sz x≤L*X:=Nat.mul_le_mul (by omega) hx;omega
theorem aRZ{X L:Nat}(hp:∀i,Ma.sz (cf p i)≤A0)(hx:Ma.sz x≤X)(hl:p.length≤L)(hC:2*(L*(A0+(L*X+2)))+(A0+(L*X+2))+L+2+X≤aI):∀k,Ma.sz (evP ((ct p).drop k) x)≤aI∧Ma.sz (evP ((ct p).drop k) x*x)≤aI:=fun k=>by
 have h1:Ma.sz (evP ((ct p).drop k) x)≤_:=aK7 (p:=(ct p).drop k) (A0:=A0) (L:=L) (fun i=>by rw[aHm,ct_cf'];exact hp _) hx (by rw[List.length_drop];have:=eZ p;omega);have h2:=fJ (evP ((ct p).drop k) x) x;exact⟨by omega,by omega⟩
def SmN(n B:Nat)(q:Rat):Prop:=∃f:Nat→Rat,(∀i,i<n→Ma.sz (f i)≤B)∧q=sm f n
theorem SmN.sz(h:SmN n A0 x):Ma.sz x≤2*(n*A0)+A0+n+2:=by
 obtain⟨f,h1,rfl⟩:=h;exact aDN h1
theorem SmN.mul{X:Nat}(h:SmN n A0 x)(hy:Ma.sz y≤X):SmN n (A0+X) (x*y):=by
 obtain⟨f,h1,rfl⟩:=h;exact⟨fun i=>f i*y,fun i hi=>Nat.le_trans (fJ _ _) (Nat.add_le_add (h1 i hi) hy),(vJ y n).symm⟩
theorem SmN.add(h:SmN n A0 x)(hy:Ma.sz y≤A0):SmN (n+1) A0 (x+y):=by
 obtain⟨f,h1,rfl⟩:=h;refine⟨fun i=>if i<n then f i else y,fun i hi=>?_,?_⟩
 ·dsimp only;split
  ·rename_i h;exact h1 i h
  ·exact hy
 ·show sm f n+y=sm (fun i=>if i<n then f i else y) n+(if n<n then f n else y)
  rw[if_neg (Nat.lt_irrefl n),iC (f:=f) (g:=fun i=>if i<n then f i else y) fun i hi=>(if_pos hi).symm]
theorem wH{P:Rat→Prop}(hx:P x)(hy:P y):P (aL x y):=by unfold aL;split;exact hx;exact hy
theorem wJ{P:Rat→Prop}(hx:P x)(hy:P y):P (aJ x y):=by unfold aJ;split;exact hx;exact hy
theorem aNK{X:Nat}{a b:Rat}{s:Rat × Rat}(ha:Ma.sz a≤X)(hb:Ma.sz b≤X)(h1:SmN n A0 s.1)(h2:SmN n A0 s.2):SmN n (A0+X) (esM a b s).1∧SmN n (A0+X) (esM a b s).2:=by
 have hlo:SmN n A0 (aL s.1 s.2):=wH h1 h2;have hhi:SmN n A0 (aJ s.1 s.2):=wJ h1 h2;have kl:Ma.sz (aL a b)≤X:=wH (P:=fun x=>Ma.sz x≤X) ha hb;have kh:Ma.sz (aJ a b)≤X:=wJ (P:=fun x=>Ma.sz x≤X) ha hb;unfold esM cZ dC;exact⟨wH (wH (wH (hlo.mul kl) (hlo.mul kh)) (hhi.mul kl)) (hhi.mul kh),wJ (wJ (wJ (hlo.mul kl) (hlo.mul kh)) (hhi.mul kl)) (hhi.mul kh)⟩
theorem aR0{X:Nat}{a b:Rat}(ha:Ma.sz a≤X)(hb:Ma.sz b≤X):∀l:List Rat,(∀x∈l,Ma.sz x≤A0)→SmN l.length (A0+l.length*X) (l.foldr (esS a b) (0,0)).1∧SmN l.length (A0+l.length*X) (l.foldr (esS a b) (0,0)).2
 | [],_=>⟨⟨fun _=>0,fun i hi=>(by cases hi),rfl⟩,⟨fun _=>0,fun i hi=>(by cases hi),rfl⟩⟩
 |c::l,h=>by
  obtain⟨i1,i2⟩:=aR0 ha hb l fun x hx=>h x (List.mem_cons_of_mem _ hx);obtain⟨m1,m2⟩:=aNK ha hb i1 i2;have hc:=h c List.mem_cons_self;have e:A0+l.length*X+X=A0+(l.length+1)*X:=(by rw[Nat.succ_mul];omega);rw[e]at m1 m2;have kc:Ma.sz (aL c c)≤A0+(l.length+1)*X:=(by rw[aKs];omega);have kd:Ma.sz (aJ c c)≤A0+(l.length+1)*X:=(by rw[zN];omega);exact⟨(wH m1 m2).add kc,(wJ m1 m2).add kd⟩
theorem aTf{X L:Nat}{a b:Rat}(hp:∀i,Ma.sz (cf p i)≤A0)(ha:Ma.sz a≤X)(hb:Ma.sz b≤X)(hl:p.length≤L)(hC:2*(L*(A0+L*X+X))+(A0+L*X+X)+L+2≤aQ)(k:Nat):
  Ma.sz (((ct p).drop k).foldr (esS a b) (0,0)).1≤aQ∧Ma.sz (((ct p).drop k).foldr (esS a b) (0,0)).2≤aQ∧Ma.sz (esM a b (((ct p).drop k).foldr (esS a b) (0,0))).1≤aQ∧Ma.sz (esM a b (((ct p).drop k).foldr (esS a b) (0,0))).2≤aQ:=by
 have hm:∀x∈(ct p).drop k,Ma.sz x≤A0:=fun x hx=>aRV (xs:=ct p) (fun i=>by rw[ct_cf'];exact hp i) x (List.mem_of_mem_drop hx);have hlen:((ct p).drop k).length≤L:=by rw[List.length_drop];have:=eZ p;omega
 obtain⟨i1,i2⟩:=aR0 ha hb _ hm;obtain⟨m1,m2⟩:=aNK ha hb i1 i2;generalize ((ct p).drop k).foldr (esS a b) (0,0)=s at i1 i2 m1 m2⊢;generalize ((ct p).drop k).length=l at hlen i1 i2 m1 m2;have hX:l*X≤L*X:=Nat.mul_le_mul_right _ hlen;have h1:∀B,B≤A0+L*X+X→2*(l*B)+B+l+2≤aQ:=fun B hB=>by
  have:l*B≤L*(A0+L*X+X):=Nat.mul_le_mul hlen hB;omega
 exact⟨Nat.le_trans i1.sz (h1 _ (by omega)),Nat.le_trans i2.sz (h1 _ (by omega)),Nat.le_trans m1.sz (h1 _ (by omega)),Nat.le_trans m2.sz (h1 _ (by omega))⟩
end
end Go.Proofs.YtpobejcofijjdaaGreatDoor.J
namespace Go.Proofs.YtpobejcofijjdaaGreatDoor.J
open Go Go.RowKit
open Ma Me K E
def tG:List (Nat × TI):=[(3,⟨.int .i64,1,8,[.i .i64 0]⟩),(4,⟨.bool,1,1,[.b false]⟩),(34,⟨.st [(0,4),(1,32),(2,32)],3,56,[.b false,.m 0,.m 0]⟩),(27,⟨.sl 34,1,24,[.ns]⟩),(39,⟨.st [(0,3),(1,37),(2,37)],3,56,[.i .i64 0,.r 0,.r 0]⟩),(28,⟨.sl 39,1,24,[.ns]⟩),(36,⟨.st [(0,34),(3,34)],6,112,[.b false,.m 0,.m 0,.b false,.m 0,.m 0]⟩),(41,⟨.st [(0,39),(3,39)],6,112,[.i .i64 0,.r 0,.r 0,.i .i64 0,.r 0,.r 0]⟩),(23,⟨.str,1,16,[.s []]⟩),(22,⟨.sl 23,1,24,[.ns]⟩),(67,⟨.sl 22,1,24,[.ns]⟩),(24,⟨.ar 2 23,2,32,[.s [],.s []]⟩),(2,⟨.int .i64,1,8,[.i .i64 0]⟩),(59,⟨.int .i64,1,8,[.i .i64 0]⟩),(32,⟨.sl 101,1,24,[.m 0]⟩),(37,⟨.sl 2,1,24,[.r 0]⟩)]
section
variable {W0:World} {p q r t:Rat}
theorem fP:∀p∈tG,(F2 W0).ti p.1=some p.2:=fun p hp=>by
 unfold tG at hp;simp only[List.mem_cons,List.not_mem_nil,or_false]at hp;rcases hp with rfl|rfl|rfl|rfl|rfl|rfl|rfl|rfl|rfl|rfl|rfl|rfl|rfl|rfl|rfl|rfl<;>kernel_rfl
theorem aR1{n:Int}(h1:-9223372036854775808≤n)(h2:n≤9223372036854775807):inR n=true:=by
 unfold inR;rw[decide_eq_true h1,decide_eq_true h2];rfl
theorem aIF(h1:Ma.sz p≤aI)(h2:Ma.sz q≤aI):Fx (F2 W0) 31 [.v (nm p),.v (nm q)] (.v (nm (p+q))):=Fx.pr (args:=[nm p,nm q]) Tryz.func31 rfl (by kernel_rfl:(F2 W0).pr 31=some (o2 fun p q=>nm (p+q))) (aDT h1 h2)
theorem aTg(h1:Ma.sz p≤aI)(h2:Ma.sz q≤aI):Fx (F2 W0) 51 [.v (nm p),.v (nm q)] (.v (nm (p-q))):=Fx.pr (args:=[nm p,nm q]) Tryz.func51 rfl (by kernel_rfl:(F2 W0).pr 51=some (o2 fun p q=>nm (p-q))) (aDT h1 h2)
theorem aDV(h1:Ma.sz p≤aI)(h2:Ma.sz q≤aI):Fx (F2 W0) 34 [.v (nm p),.v (nm q)] (.v (nm (p*q))):=Fx.pr (args:=[nm p,nm q]) Tryz.func34 rfl (by kernel_rfl:(F2 W0).pr 34=some (o2 fun p q=>nm (p*q))) (aDT h1 h2)
theorem aTh(h1:Ma.sz p≤aI)(h2:Ma.sz q≤aI):Fx (F2 W0) 45 [.v (nm p),.v (nm q)] (.v (nm (aJ p q))):=Fx.pr (args:=[nm p,nm q]) Tryz.func45 rfl (by kernel_rfl:(F2 W0).pr 45=some (o2 fun p q=>nm (aJ p q))) (aDT h1 h2)
theorem aR2(h1:Ma.sz p≤aI):Fx (F2 W0) 47 [.v (nm p)] (.v (sc (.i .i64 (sn p)))):=Fx.pr (args:=[nm p]) Tryz.func47 rfl (by kernel_rfl:(F2 W0).pr 47=some (o1 fun p=>sc (.i .i64 (sn p)))) (aIC h1)
theorem aPz(h1:Ma.sz p≤aI):Fx (F2 W0) 57 [.v (nm p)] (.v (sp p p)):=Fx.pr (args:=[nm p]) Tryz.func57 rfl (by kernel_rfl:(F2 W0).pr 57=some (o1 fun p=>sp p p)) (aIC h1)
theorem aR3(h1:Ma.sz p≤aI):Fx (F2 W0) 41 [.v (nm p)] (.v (ss (gF p))):=Fx.pr (args:=[nm p]) Tryz.func41 rfl (by kernel_rfl:(F2 W0).pr 41=some (o1 fun p=>ss (gF p))) (aIC h1)
theorem aK8(h1:Ma.sz p≤aQ)(h2:Ma.sz q≤aQ)(h3:Ma.sz r≤aQ)(h4:Ma.sz t≤aQ):Fx (F2 W0) 55 [.v (sp p q),.v (sp r t)] (.v (sp (aL p q+aL r t) (aJ p q+aJ r t))):=Fx.pr (args:=[sp p q,sp r t]) Tryz.func55 rfl (by kernel_rfl:(F2 W0).pr 55=some (s2 fun p q r t=>sp (aL p q+aL r t) (aJ p q+aJ r t))) (aNG h1 h2 h3 h4)
theorem aK9(h1:Ma.sz p≤aQ)(h2:Ma.sz q≤aQ)(h3:Ma.sz r≤aQ)(h4:Ma.sz t≤aQ):Fx (F2 W0) 56 [.v (sp p q),.v (sp r t)] (.v (sp (cZ (aL p q) (aJ p q) (aL r t) (aJ r t)) (dC (aL p q) (aJ p q) (aL r t) (aJ r t)))):=Fx.pr (args:=[sp p q,sp r t]) Tryz.func56 rfl (by kernel_rfl:(F2 W0).pr 56=some (s2 fun p q r t=>sp (cZ (aL p q) (aJ p q) (aL r t) (aJ r t)) (dC (aL p q) (aJ p q) (aL r t) (aJ r t)))) (aNG h1 h2 h3 h4)
theorem aTi{n:Int}(h1:-9223372036854775808≤n)(h2:n≤9223372036854775807):Fx (F2 W0) 32 [.v (sc (.i .i64 n))] (.v (nm (n:Rat))):=Fx.pr (args:=[sc (.i .i64 n)]) Tryz.func32 rfl (by kernel_rfl:(F2 W0).pr 32=some (aMR)) (by show cb (inR n) _ none=_;rw[aR1 h1 h2];rfl)
theorem aHn{l:List Nat}(h1:okS l=true):Fx (F2 W0) 42 [.v (sc (.s l))] (.v (.t [(true,aO (bV (by8 l)).2),(false,[.i .i64 (bV (by8 l)).1])])):=Fx.pr (args:=[sc (.s l)]) Tryz.func42 rfl (by kernel_rfl:(F2 W0).pr 42=some (aCo)) (by show cb (okS l) _ none=_;rw[h1];rfl)
theorem aFG{l:List Nat}(h1:okS l=true):Fx (F2 W0) 43 [.v (sc (.s l))] (.v (.t [(true,encR (bV (by8 l)).2),(false,[.i .i64 (bV (by8 l)).1])])):=Fx.pr (args:=[sc (.s l)]) Tryz.func43 rfl (by kernel_rfl:(F2 W0).pr 43=some (uI)) (by show cb (okS l) _ none=_;rw[h1];rfl)
theorem aPA(h1:Ma.sz p≤aI):Fx (F2 W0) 54 [.v (rm p)] (.v (ss (gF p))):=Fx.pr (args:=[rm p]) Tryz.func54 rfl (by kernel_rfl:(F2 W0).pr 54=some (r1 fun p=>ss (gF p))) (aID h1)
theorem aPB(h1:Ma.sz p≤aI):Fx (F2 W0) 46 [.v (rm p)] (.v (sc (.i .i64 (sn p)))):=Fx.pr (args:=[rm p]) Tryz.func46 rfl (by kernel_rfl:(F2 W0).pr 46=some (r1 fun p=>sc (.i .i64 (sn p)))) (aID h1)
theorem aCr(h1:Ma.sz p≤aI)(h2:Ma.sz q≤aI):Fx (F2 W0) 49 [.v (rm p),.v (rm q)] (.v (rm (p+q))):=Fx.pr (args:=[rm p,rm q]) Tryz.func49 rfl (by kernel_rfl:(F2 W0).pr 49=some (r2 fun p q=>rm (p+q))) (aNH h1 h2)
theorem wK(h1:Ma.sz p≤aI)(h2:Ma.sz q≤aI):Fx (F2 W0) 53 [.v (rm p),.v (rm q)] (.v (rm (p*q))):=Fx.pr (args:=[rm p,rm q]) Tryz.func53 rfl (by kernel_rfl:(F2 W0).pr 53=some (r2 fun p q=>rm (p*q))) (aNH h1 h2)
theorem aFH(h1:Ma.sz p≤aI):Fx (F2 W0) 58 [.v (rm p)] (.v (rsp p p)):=Fx.pr (args:=[rm p]) Tryz.func58 rfl (by kernel_rfl:(F2 W0).pr 58=some (r1 fun p=>rsp p p)) (aID h1)
theorem aIG(h1:Ma.sz p≤aQ)(h2:Ma.sz q≤aQ)(h3:Ma.sz r≤aQ)(h4:Ma.sz t≤aQ):Fx (F2 W0) 59 [.v (rsp p q),.v (rsp r t)] (.v (rsp (aL p q+aL r t) (aJ p q+aJ r t))):=Fx.pr (args:=[rsp p q,rsp r t]) Tryz.func59 rfl (by kernel_rfl:(F2 W0).pr 59=some (t2 fun p q r t=>rsp (aL p q+aL r t) (aJ p q+aJ r t))) (aNI h1 h2 h3 h4)
theorem aIH(h1:Ma.sz p≤aQ)(h2:Ma.sz q≤aQ)(h3:Ma.sz r≤aQ)(h4:Ma.sz t≤aQ):Fx (F2 W0) 60 [.v (rsp p q),.v (rsp r t)] (.v (rsp (cZ p q r t) (dC p q r t))):=Fx.pr (args:=[rsp p q,rsp r t]) Tryz.func60 rfl (by kernel_rfl:(F2 W0).pr 60=some (t2 fun p q r t=>rsp (cZ p q r t) (dC p q r t))) (aNI h1 h2 h3 h4)
theorem aLa{n:Nat}(h1:n≤1000000):Fx (F2 W0) 52 [.v (sc (.i .i64 (n:Int)))] (.v (rm (((n:Nat):Int):Rat))):=Fx.pr (args:=[sc (.i .i64 (n:Int))]) Tryz.func52 rfl (by kernel_rfl:(F2 W0).pr 52=some (aDU)) (by show cb (decide (0≤((n:Nat):Int)) && decide (((n:Nat):Int)≤1000000) || decide (((n:Nat):Int)=-1)) _ none=_;rw[decide_eq_true (Int.natCast_nonneg n),decide_eq_true (show ((n:Nat):Int)≤1000000 by omega)];rfl)
theorem aPC:Fx (F2 W0) 52 [.v (sc (.i .i64 (-1)))] (.v (rm (-1))):=Fx.pr (args:=[sc (.i .i64 (-1))]) Tryz.func52 rfl (by kernel_rfl:(F2 W0).pr 52=some aDU) rfl
theorem aHo:Fx (F2 W0) 6 [] (.v (sc (.b true))):=fun h vs _ _ ha=>by
 cases vs with
 |nil=>exact aSC Tryz.func6 rfl (by kernel_rfl) (by kernel_rfl:(F2 W0).ph 6=some aCp) rfl ⟨Xh.refl _,rfl⟩
 |cons=>exact ha.elim
end
end Go.Proofs.YtpobejcofijjdaaGreatDoor.J
namespace Go.Proofs.YtpobejcofijjdaaGreatDoor.J
open Go Go.RowKit
open Ma Me K E Go.Proofs.YtpobejcofijjdaaGreatDoor.Po
def C(xs:List Rat):List (List SV):=xs.map aO
theorem xW{xs:List Rat}{j:Nat}{x:Rat}(h:xs[j]? =some x):(C xs)[j]? =some (aO x):=by unfold C;rw[List.getElem?_map,h];rfl
theorem aCs{xs:List Rat}{j:Nat}{x:Rat}:(C xs).set j (aO x)=C (xs.set j x):=by unfold C;rw[List.map_set]
theorem aCt{xs:List Rat}{n:Nat}:(C xs).take n=C (xs.take n):=by unfold C;rw[List.map_take]
theorem aCu{n:Nat}:List.replicate n [SV.b false,.m 0,.m 0]=C (List.replicate n 0):=by unfold C;rw[List.map_replicate];rfl
theorem aTj:([SV.b false,.m 0,.m 0]:List SV)=aO 0:=rfl
theorem zY{i:Nat}(h:i≤1000000):-9223372036854775808≤(i:Int)-1∧(i:Int)-1<9223372036854775808:=⟨by omega,by omega⟩
theorem add1{i:Nat}(h:i≤1000000):-9223372036854775808≤(i:Int)+1∧(i:Int)+1<9223372036854775808:=⟨by omega,by omega⟩
theorem yi{a b:Int}(h:a=b):some (Y.a (sc (.i .i64 a)))=some (Y.a (sc (.i .i64 b))):=by rw[h]
section
variable {W0:World} {xs ys:List Rat} {x:Rat}
theorem aDW(hn:xs.length<1000000)(hz:∀i,Ma.sz (cf xs i)≤aI):Fx (F2 W0) 11 [.l aV xs.length (C xs)] (.v (sc (.i .i64 (((ct xs).length:Int)-1)))):=by
 have hc:=eZ xs;refine Fx.by_ tG fP Tryz.func11 rfl (by kernel_rfl) (by kernel_rfl) rfl ⟨{i:Nat // i≤xs.length∧∀k,i≤k→cf xs k=0},fun i=>([(0,.l aV (.ar 0) xs.length (C xs)),(3,.a (sc (.i .i64 (i.1:Int))))],[]),fun i=>i.1,⟨⟨xs.length,Nat.le_refl _,fun k hk=>dY hk⟩,[],rfl,rfl,rfl,rfl,trivial⟩,fun i=>?_⟩;obtain⟨i,hi,h0⟩:=i;have fin:i=0∨cf xs (i-1)≠0→sc (.i .i64 ((i:Int)-1))=sc (.i .i64 (((ct xs).length:Int)-1)):=fun h=>by rw[aDn hi h0 h]
 refine dt (fun h=>?_) fun h=>?_
 ·have hp:0<i:=(by have h:(0:Int)<(i:Int):=h;omega);have e1:(i:Int)-1=((i-1:Nat):Int):=(by omega);exact⟨zY (i:=i) (by omega),i-1,e1,_,xW (iQ (by omega)),_,aR2 (hz _),dt (fun h1=>⟨zY (i:=i) (by omega),⟨i-1,by omega,fun k hk=>by
   rcases Nat.eq_or_lt_of_le hk with rfl|hk
   ·exact bI.1 h1
   ·exact h0 k (by omega)⟩,(show i-1<i by omega),[],rfl,rfl,rfl,yi e1,trivial⟩) fun h1=>⟨zY (i:=i) (by omega),fin (.inr fun e=>h1 (bI.2 e))⟩⟩
 ·have h:¬(0:Int)<(i:Int):=h;exact⟨zY (i:=i) (by omega),fin (.inl (by omega))⟩
theorem aAS(hn:xs.length<1000000)(hz:∀i,Ma.sz (cf xs i)≤aI):Fx (F2 W0) 44 [.l aV xs.length (C xs)] (.cut 0 (ct xs).length):=
 have hc:=eZ xs
 Fx.by_ tG fP Tryz.func44 rfl (by kernel_rfl) (by kernel_rfl) rfl ⟨_,aDW hn hz,⟨by omega,by omega⟩,(ct xs).length,by omega,hc,rfl⟩
theorem xZ{i:Nat}:Fx (F2 W0) 111 [.l aV xs.length (C xs),.v (sc (.i .i64 (i:Int)))] (.v (nm (cf xs i))):=
 Fx.by_ tG fP Tryz.func111 rfl (by kernel_rfl) (by kernel_rfl) rfl (dt (fun h=>⟨i,rfl,_,xW (iQ (by omega)),rfl⟩) fun h=>(congrArg (AV.c true) aTj).trans (congrArg nm (show (0:Rat)=cf xs i from (dY (by omega)).symm)))
theorem aR4(hn:xs.length<1000000)(hz:∀i,Ma.sz (cf xs i)≤aI):Fx (F2 W0) 9 [.l aV xs.length (C xs)] (.r [.l aV (ct xs).length (C (ct xs))]):=by
 have hc:=eZ xs;obtain⟨m,hm⟩:∃m,(ct xs).length=m:=⟨_,rfl⟩
 have hcut:=aAS (W0:=W0) hn hz;rw[hm]at hc hcut⊢;have hL:∀i,i<m→((C xs).take m)[i]? =some (aO (cf xs i)):=fun i hi=>by rw[aCt];exact xW (by rw[List.getElem?_take,if_pos hi];exact iQ (by omega))
 have hS:∀i,(C (pf m i (cf xs))).set i (aO (cf xs i))=C (pf m (i+1) (cf xs)):=fun i=>by rw[aCs,aCq]
 have hE:pf m m (cf xs)=ct xs:=by rw[pV,←hm,←mJ fun k _=>fG xs k,aK5]
 refine Fx.by_ tG fP Tryz.func9 rfl (by kernel_rfl) (by kernel_rfl) rfl ⟨_,hcut,hc,rfl,m,rfl,⟨(show m*56≤_ by omega),by omega⟩,{i:Nat // i≤m},fun i=>([(3,.s 0 (some m)),(11,.l aV (.ar 0) m ((C xs).take m)),(12,.a (sc (.i .i64 (m:Int)))),(13,.a (sc (.i .i64 (i.1:Int))))],[.l aV m (C (pf m i.1 (cf xs)))]),fun i=>m-i.1,⟨⟨0,Nat.zero_le _⟩,[true],rfl,(show [W.l aV m (List.replicate m [SV.b false,.m 0,.m 0])]=[W.l aV m (C (pf m 0 (cf xs)))] by rw[aCu,aAR]),rfl,rfl,rfl,rfl,trivial⟩,fun i=>?_⟩;obtain⟨i,hi⟩:=i;refine dt (fun h=>?_) fun h=>?_
 ·have hlt:i<m:=(by have h:(i:Int)<(m:Int):=h;omega);have hx:=aTh (W0:=W0) (hz i) (hz i);rw[zN]at hx;exact⟨i,rfl,_,hL i hlt,_,hx,i,rfl,hlt,hlt,⟨by omega,by omega⟩,⟨i+1,hlt⟩,(show m-(i+1)<m-i by omega),[false,true],rfl,congrArg (fun z=>[W.l aV m z]) (hS i),rfl,rfl,rfl,rfl,trivial⟩
 ·have h:¬(i:Int)<(m:Int):=h;obtain rfl:i=m:=(by omega);exact⟨⟨rfl,rfl,by rw[hE]⟩,trivial⟩
theorem aCv{f:Nat}{op:Rat→Rat→Rat}(hop:∀p q:Rat,Ma.sz p≤aI→Ma.sz q≤aI→Fx (F2 W0) f [.v (nm p),.v (nm q)] (.v (nm (op p q))))(hn1:xs.length<1000000)(hn2:ys.length<1000000)(hz1:∀i,Ma.sz (cf xs i)≤aI)(hz2:∀i,Ma.sz (cf ys i)≤aI)(hz:∀i,Ma.sz (op (cf xs i) (cf ys i))≤aI):
  Fx (F2 W0) 48 [.l aV xs.length (C xs),.l aV ys.length (C ys),.v (sc (.f f []))] (.r [.l aV (ct (mkP (max xs.length ys.length) fun i=>op (cf xs i) (cf ys i))).length (C (ct (mkP (max xs.length ys.length) fun i=>op (cf xs i) (cf ys i))))]):=by
 obtain⟨m,hm⟩:∃m,max xs.length ys.length=m:=⟨_,rfl⟩
 obtain⟨g,hg⟩:∃g:Nat→Rat,(fun i=>op (cf xs i) (cf ys i))=g:=⟨_,rfl⟩
 have hgi:∀i,op (cf xs i) (cf ys i)=g i:=fun i=>congrFun hg i;rw[hm,hg];have hM:(max (xs.length:Int) (ys.length:Int))=(m:Int):=by omega
 have hS:∀i,(C (pf m i g)).set i (aO (g i))=C (pf m (i+1) g):=fun i=>by rw[aCs,aCq]
 have hcut:=aAS (W0:=W0) (xs:=mkP m g) (by rw[bO];omega) (fun i=>by
  rw[kD];split
  ·rw[←hgi];exact hz i
  ·exact sz0)
 have hc:=eZ (mkP m g);rw[bO]at hcut hc;refine Fx.by_ tG fP Tryz.func48 rfl (by kernel_rfl) (by kernel_rfl) rfl ⟨rfl,m,hM,⟨(show m*56≤_ by omega),by omega⟩,{i:Nat // i≤m},fun i=>([(0,.l aV (.ar 0) xs.length (C xs)),(1,.l aV (.ar 1) ys.length (C ys)),(2,.a (sc (.f f []))),(7,.s 0 (some m)),(16,.a (sc (.i .i64 (m:Int)))),(17,.a (sc (.i .i64 (i.1:Int))))],[.l aV m (C (pf m i.1 g))]),fun i=>m-i.1,⟨⟨0,Nat.zero_le _⟩,[true],rfl,(show [W.l aV m (List.replicate m [SV.b false,.m 0,.m 0])]=[W.l aV m (C (pf m 0 g))] by rw[aCu,aAR]),rfl,rfl,rfl,rfl,rfl,rfl,trivial⟩,fun i=>?_⟩;obtain⟨i,hi⟩:=i;refine dt (fun h=>?_) fun h=>?_
 ·have hlt:i<m:=(by have h:(i:Int)<(m:Int):=h;omega);have hx:=hop _ _ (hz1 i) (hz2 i);rw[hgi]at hx;exact⟨_,xZ,_,xZ,_,hx,i,rfl,hlt,hlt,⟨by omega,by omega⟩,⟨i+1,hlt⟩,(show m-(i+1)<m-i by omega),[true],rfl,congrArg (fun z=>[W.l aV m z]) (hS i),rfl,rfl,rfl,rfl,rfl,rfl,trivial⟩
 ·have h:¬(i:Int)<(m:Int):=h;obtain rfl:i=m:=(by omega);rw[←pV]at hcut hc;exact⟨_,hcut,hc,⟨rfl,by rw[pV],by rw[aCt,aAQ,pV]⟩,trivial⟩
theorem aTk(hn1:xs.length<1000000)(hn2:ys.length<1000000)(hz1:∀i,Ma.sz (cf xs i)≤aI)(hz2:∀i,Ma.sz (cf ys i)≤aI)(hz:∀i,Ma.sz (cf xs i+cf ys i)≤aI):Fx (F2 W0) 13 [.l aV xs.length (C xs),.l aV ys.length (C ys)] (.r [.l aV (nN xs ys).length (C (nN xs ys))]):=
 Fx.by_ tG fP Tryz.func13 rfl (by kernel_rfl) (by kernel_rfl) rfl ⟨_,aCv (op:=(·+·)) (fun _ _ h1 h2=>aIF h1 h2) hn1 hn2 hz1 hz2 hz,⟨rfl,rfl,rfl⟩,trivial⟩
theorem aTl(hn1:xs.length<1000000)(hn2:ys.length<1000000)(hz1:∀i,Ma.sz (cf xs i)≤aI)(hz2:∀i,Ma.sz (cf ys i)≤aI)(hz:∀i,Ma.sz (cf xs i-cf ys i)≤aI):Fx (F2 W0) 15 [.l aV xs.length (C xs),.l aV ys.length (C ys)] (.r [.l aV (pW xs ys).length (C (pW xs ys))]):=
 Fx.by_ tG fP Tryz.func15 rfl (by kernel_rfl) (by kernel_rfl) rfl ⟨_,aCv (op:=(·- ·)) (fun _ _ h1 h2=>aTg h1 h2) hn1 hn2 hz1 hz2 hz,⟨rfl,rfl,rfl⟩,trivial⟩
def pY(xs:List Rat)(x:Rat):List Rat:=ct (mkP xs.length fun i=>cf xs i*x)
theorem aPD(hn:xs.length<1000000)(hz1:∀i,Ma.sz (cf xs i)≤aI)(hx:Ma.sz x≤aI)(hz:∀i,Ma.sz (cf xs i*x)≤aI):Fx (F2 W0) 19 [.l aV xs.length (C xs),.v (nm x)] (.r [.l aV (pY xs x).length (C (pY xs x))]):=by
 unfold pY;obtain⟨m,hm⟩:∃m,xs.length=m:=⟨_,rfl⟩
 obtain⟨g,hg⟩:∃g:Nat→Rat,(fun i=>cf xs i*x)=g:=⟨_,rfl⟩
 have hgi:∀i,cf xs i*x=g i:=fun i=>congrFun hg i;have hL:∀i,i<m→(C xs)[i]? =some (aO (cf xs i)):=fun i hi=>xW (iQ (by omega));rw[hm,hg];have hS:∀i,(C (pf m i g)).set i (aO (g i))=C (pf m (i+1) g):=fun i=>by rw[aCs,aCq]
 have hcut:=aAS (W0:=W0) (xs:=mkP m g) (by rw[bO];omega) (fun i=>by
  rw[kD];split
  ·rw[←hgi];exact hz i
  ·exact sz0)
 have hc:=eZ (mkP m g);rw[bO]at hcut hc;refine Fx.by_ tG fP Tryz.func19 rfl (by kernel_rfl) (by kernel_rfl) rfl ⟨rfl,m,rfl,⟨(show m*56≤_ by omega),by omega⟩,{i:Nat // i≤m},fun i=>([(3,.p 0 0),(5,.s 1 (some m)),(11,.l aV (.ar 0) m (C xs)),(12,.a (sc (.i .i64 (m:Int)))),(13,.a (sc (.i .i64 (i.1:Int))))],[.l aV m (C (pf m i.1 g)),.c ⟨34,aO x⟩]),fun i=>m-i.1,⟨⟨0,Nat.zero_le _⟩,[true,true],rfl,(show [W.l aV m (List.replicate m [SV.b false,.m 0,.m 0]),W.c _]=[W.l aV m (C (pf m 0 g)),W.c _] by rw[aCu,aAR]),rfl,rfl,rfl,rfl,rfl,trivial⟩,fun i=>?_⟩;obtain⟨i,hi⟩:=i;refine dt (fun h=>?_) fun h=>?_
 ·have hlt:i<m:=(by have h:(i:Int)<(m:Int):=h;omega);have hx:=aDV (W0:=W0) (hz1 i) hx;rw[hgi]at hx;exact⟨i,rfl,_,hL i hlt,_,hx,i,rfl,hlt,hlt,⟨by omega,by omega⟩,⟨i+1,hlt⟩,(show m-(i+1)<m-i by omega),[false,true,true],rfl,congrArg (fun z=>[W.l aV m z,W.c ⟨34,aO x⟩]) (hS i),rfl,rfl,rfl,rfl,rfl,trivial⟩
 ·have h:¬(i:Int)<(m:Int):=h;obtain rfl:i=m:=(by omega);rw[←pV]at hcut hc;exact⟨_,hcut,hc,⟨rfl,by rw[pV],by rw[aCt,aAQ,pV]⟩,trivial⟩
end
end Go.Proofs.YtpobejcofijjdaaGreatDoor.J
namespace Go.Proofs.YtpobejcofijjdaaGreatDoor.J
open Go Go.RowKit
open Ma Me K E Go.Proofs.YtpobejcofijjdaaGreatDoor.Po
section
variable {W0:World} {xs ys:List Rat} {x:Rat}
theorem tk{i:Nat}(hi:i<(ct xs).length):((C xs).take (ct xs).length)[i]? =some (aO (cf (ct xs) i)):=by
 rw[aCt,aAQ];exact xW (iQ hi)
theorem aTm{A0 B0:Nat}(hn1:xs.length<1000000)(hn2:ys.length<1000000)(hA:∀i,Ma.sz (cf xs i)≤A0)(hB:∀i,Ma.sz (cf ys i)≤B0)(hA2:2≤A0)(hz:2*(xs.length*(A0+B0))+(A0+B0)+xs.length+2≤aI):Fx (F2 W0) 17 [.l aV xs.length (C xs),.l aV ys.length (C ys)] (.r [.l aV (iH xs ys).length (C (iH xs ys))]):=by
 have hc1:=eZ xs;have hc2:=eZ ys;have hcut1:=aAS (W0:=W0) hn1 fun i=>Nat.le_trans (hA i) (by omega);have hcut2:=aAS (W0:=W0) hn2 fun i=>Nat.le_trans (hB i) (by omega);obtain⟨p,hp⟩:∃p,ct xs=p:=⟨_,rfl⟩
 obtain⟨q,hq⟩:∃q,ct ys=q:=⟨_,rfl⟩
 have hLp:∀i,i<p.length→((C xs).take p.length)[i]? =some (aO (cf p i)):=fun i hi=>by rw[←hp]at hi⊢;exact tk hi
 have hLq:∀i,i<q.length→((C ys).take q.length)[i]? =some (aO (cf q i)):=fun i hi=>by rw[←hq]at hi⊢;exact tk hi
 have hA':∀i,Ma.sz (cf p i)≤A0:=fun i=>by rw[←hp,fG];exact hA i
 have hB':∀i,Ma.sz (cf q i)≤B0:=fun i=>by rw[←hq,fG];exact hB i
 have hE:p=[]∨q=[]→iH xs ys=[]:=fun h=>by unfold iH;rw[hp,hq,if_pos h]
 have hR:¬(p=[]∨q=[])→iH xs ys=mkP (p.length+q.length-1) (cv (cf p) (cf q)):=fun h=>by unfold iH;rw[hp,hq,if_neg h]
 rw[hp]at hcut1 hc1;rw[hq]at hcut2 hc2;have nil:p=[]∨q=[]→(iH xs ys).length=0∧C (iH xs ys)=[]:=fun h=>by rw[hE h];exact⟨rfl,rfl⟩
 refine Fx.by_ tG fP Tryz.func17 rfl (by kernel_rfl) (by kernel_rfl) rfl ⟨_,hcut1,hc1,_,hcut2,hc2,dt (fun h=>⟨nil (.inl (List.eq_nil_of_length_eq_zero (by omega))),trivial⟩) fun h1=>dt (fun h=>⟨nil (.inr (List.eq_nil_of_length_eq_zero (by omega))),trivial⟩) fun h2=>?_⟩;have z1:0<p.length:=by omega
 have z2:0<q.length:=by omega
 rw[hR fun h=>h.elim (fun e=>by rw[e]at z1;cases z1) fun e=>by rw[e]at z2;cases z2];obtain⟨N,hN⟩:∃N,p.length+q.length-1=N:=⟨_,rfl⟩
 rw[hN,bO];have hM:∀i j,i<p.length→j<q.length→((i:Int)+(j:Int))=((i+j:Nat):Int)∧i+j<N:=fun i j _ _=>⟨by omega,by omega⟩
 have hF:∀i j,i<p.length→j<q.length→(C (mkP N (mF p q i j)))[i+j]? =some (aO (mF p q i j (i+j))):=fun i j h1 h2=>xW (sV (hM i j h1 h2).2);have hS:∀i j,(C (mkP N (mF p q i j))).set (i+j) (aO (mF p q i j (i+j)+cf p i*cf q j))=C (mkP N (mF p q i (j+1))):=fun i j=>by rw[aCs,aK6]
 have hX:∀i:Nat,C (mkP N (mF p q i q.length))=C (mkP N (mF p q (i+1) 0)):=fun i=>by rw[aHi]
 have s1:∀i j,i<p.length→Ma.sz (mF p q i j (i+j))≤aI:=fun i j hi=>Nat.le_trans (aNJ hA' hB' hA2) (by
  have h1:=Nat.mul_le_mul_right (A0+B0) (show i+1≤xs.length by omega);omega)
 have s2:∀i j,Ma.sz (cf p i*cf q j)≤aI:=fun i j=>Nat.le_trans (fJ _ _) (by have:=hA' i;have:=hB' j;omega);refine⟨⟨by omega,by omega⟩,⟨by omega,by omega⟩,rfl,N,by omega,⟨(show N*56≤_ by omega),by omega⟩,{i:Nat // i≤p.length},fun i=>([(1,.l aV (.ar 1) q.length ((C ys).take q.length)),(5,.s 0 (some N)),(29,.l aV (.ar 0) p.length ((C xs).take p.length)),(30,.a (sc (.i .i64 (p.length:Int)))),(31,.a (sc (.i .i64 (i.1:Int))))],[.l aV N (C (mkP N (mF p q i.1 0)))]),fun i=>p.length-i.1,⟨⟨0,Nat.zero_le _⟩,[true],rfl,(show [W.l aV N (List.replicate N [SV.b false,.m 0,.m 0])]=[W.l aV N (C (mkP N (mF p q 0 0)))] by rw[aCu,←aBw,mJ fun k _=>(aHh (p:=p) (q:=q) (k:=k)).symm]),rfl,rfl,rfl,rfl,rfl,trivial⟩,fun i=>?_⟩;obtain⟨i,hi⟩:=i;refine dt (fun h=>?_) fun h=>?_
 ·have hlt:i<p.length:=(by have h:(i:Int)<(p.length:Int):=h;omega);refine⟨i,rfl,_,hLp i hlt,{j:Nat // j≤q.length},fun j=>([(1,.l aV (.ar 1) q.length ((C ys).take q.length)),(5,.s 0 (some N)),(29,.l aV (.ar 0) p.length ((C xs).take p.length)),(30,.a (sc (.i .i64 (p.length:Int)))),(31,.a (sc (.i .i64 (i:Int)))),(6,.a (sc (.i .i64 (i:Int)))),(7,.p 1 0),(36,.l aV (.ar 1) q.length ((C ys).take q.length)),(37,.a (sc (.i .i64 (q.length:Int)))),(38,.a (sc (.i .i64 (j.1:Int))))],[.c ⟨34,aO (cf p i)⟩,.l aV N (C (mkP N (mF p q i j.1)))]),fun j=>q.length-j.1,⟨⟨0,Nat.zero_le _⟩,[true,true],rfl,rfl,rfl,rfl,rfl,rfl,rfl,rfl,rfl,rfl,rfl,rfl,trivial⟩,fun j=>?_⟩;obtain⟨j,hj⟩:=j;refine dt (fun h=>?_) fun h=>?_
  ·have hlj:j<q.length:=(by have h:(j:Int)<(q.length:Int):=h;omega);obtain⟨e1,e2⟩:=hM i j hlt hlj;exact⟨j,rfl,_,hLq j hlj,by kernel_rfl,⟨by omega,by omega⟩,⟨by omega,by omega⟩,i+j,e1,e2,_,hF i j hlt hlj,_,aDV (Nat.le_trans (hA' i) (by omega)) (Nat.le_trans (hB' j) (by omega)),_,aIF (s1 i j hlt) (s2 i j),i+j,e1,e2,e2,⟨by omega,by omega⟩,⟨j+1,hlj⟩,(show q.length-(j+1)<q.length-j by omega),[false,true,true],rfl,congrArg (fun z=>[W.c ⟨34,aO (cf p i)⟩,W.l aV N z]) (hS i j),rfl,rfl,rfl,rfl,rfl,rfl,rfl,rfl,rfl,rfl,trivial⟩
  ·have h:¬(j:Int)<(q.length:Int):=h;obtain rfl:j=q.length:=(by omega);exact⟨⟨by omega,by omega⟩,⟨i+1,hlt⟩,(show p.length-(i+1)<p.length-i by omega),[false,true],rfl,congrArg (fun z=>[W.l aV N z]) (hX i),rfl,rfl,rfl,rfl,rfl,trivial⟩
 ·have h:¬(i:Int)<(p.length:Int):=h;obtain rfl:i=p.length:=(by omega);exact⟨⟨rfl,rfl,by rw[aFE]⟩,trivial⟩
theorem aPE(hn:xs.length<1000000)(hz:∀i,Ma.sz (cf xs i)≤aQ):Fx (F2 W0) 21 [.l aV xs.length (C xs)] (.r [.l aV (kZ xs).length (C (kZ xs))]):=by
 have hc:=eZ xs;have hP:aQ≤aI:=by decide
 have hcut:=aAS (W0:=W0) hn fun i=>Nat.le_trans (hz i) hP;have hL:∀i,i<(ct xs).length→((C xs).take (ct xs).length)[i]? =some (aO (cf xs i)):=fun i hi=>by rw[tk hi,fG]
 unfold kZ;obtain⟨g,hg⟩:∃g:Nat→Rat,(fun i=>((i+1:Nat):Rat)*cf xs (i+1))=g:=⟨_,rfl⟩
 have hgi:∀i:Nat,cf xs (i+1)*((((i:Int)+1:Int)):Rat)=g i:=fun i=>by rw[←hg];push_cast;grind
 rw[hg,bO];obtain⟨m,hm⟩:∃m,(ct xs).length=m:=⟨_,rfl⟩
 rw[hm]at hcut hc hL⊢;have hS:∀i,(C (pf (m-1) i g)).set i (aO (g i))=C (pf (m-1) (i+1) g):=fun i=>by rw[aCs,aCq]
 refine Fx.by_ tG fP Tryz.func21 rfl (by kernel_rfl) (by kernel_rfl) rfl ⟨_,hcut,hc,dt (fun h=>⟨⟨by omega,(show C (mkP (m-1) g)=[] by rw[show m-1=0 by omega];rfl)⟩,trivial⟩) fun h1=>⟨⟨by omega,by omega⟩,rfl,m-1,by omega,⟨(show (m-1)*56≤_ by omega),by omega⟩,{i:Nat // i≤m-1},fun i=>([(0,.l aV (.ar 0) m ((C xs).take m)),(3,.s 0 (some (m-1))),(15,.a (sc (.i .i64 ((m-1:Nat):Int)))),(16,.a (sc (.i .i64 (i.1:Int))))],[.l aV (m-1) (C (pf (m-1) i.1 g))]),fun i=>m-1-i.1,⟨⟨0,Nat.zero_le _⟩,[true],rfl,(show [W.l aV (m-1) (List.replicate (m-1) [SV.b false,.m 0,.m 0])]=[W.l aV (m-1) (C (pf (m-1) 0 g))] by rw[aCu,aAR]),rfl,rfl,rfl,rfl,trivial⟩,fun i=>?_⟩⟩;obtain⟨i,hi⟩:=i;refine dt (fun h=>?_) fun h=>?_
 ·have hlt:i<m-1:=(by have h:(i:Int)<((m-1:Nat):Int):=h;omega);have hx:=aDV (W0:=W0) (Nat.le_trans (hz (i+1)) hP) (show Ma.sz ((((i:Int)+1:Int)):Rat)≤aI from Nat.le_trans (aMT (i:=i+1) (by omega)) (by decide));rw[hgi]at hx;exact⟨by kernel_rfl,⟨by omega,by omega⟩,i+1,rfl,_,hL (i+1) (by omega),⟨by omega,by omega⟩,_,aTi (by omega) (by omega),_,hx,i,rfl,hlt,hlt,⟨by omega,by omega⟩,⟨i+1,hlt⟩,(show m-1-(i+1)<m-1-i by omega),[true],rfl,congrArg (fun z=>[W.l aV (m-1) z]) (hS i),rfl,rfl,rfl,rfl,trivial⟩
 ·have h:¬(i:Int)<((m-1:Nat):Int):=h;obtain rfl:i=m-1:=(by omega);exact⟨⟨rfl,rfl,by rw[pV]⟩,trivial⟩
theorem aII{k:Nat}(h:k≤1000000):-9223372036854775808≤((k+1:Nat):Int)-1-1∧((k+1:Nat):Int)-1-1<9223372036854775808:=⟨by omega,by omega⟩
theorem yk{k:Nat}:some (Y.a (sc (.i .i64 (((k+1:Nat):Int)-1-1))))=some (Y.a (sc (.i .i64 ((k:Int)-1)))):=yi (by omega)
theorem cN{a b:Rat}{l:List W}(h:a=b):W.c ⟨34,aO a⟩::l=W.c ⟨34,aO b⟩::l:=by rw[h]
theorem cS{a b c d:Rat}{l:List W}(h:a=c)(h2:b=d):W.c ⟨36,aO a++aO b⟩::l=W.c ⟨36,aO c++aO d⟩::l:=by rw[h,h2]
theorem aR5{y:Rat}(hn:xs.length<1000000)(hz:∀i,Ma.sz (cf xs i)≤aI)(hy:Ma.sz y≤aI)(hE:∀k,Ma.sz (evP ((ct xs).drop k) y)≤aI∧Ma.sz (evP ((ct xs).drop k) y*y)≤aI):Fx (F2 W0) 24 [.l aV xs.length (C xs),.v (nm y)] (.v (nm (evP xs y))):=by
 have hc:=eZ xs;have hD:=aDW (W0:=W0) hn hz;have hst:∀k,k<(ct xs).length→evP ((ct xs).drop (k+1)) y*y+cf xs k=evP ((ct xs).drop k) y:=fun k hk=>by rw[aFF hk,fG]
 have h0:evP ((ct xs).drop 0) y=evP xs y:=aJm y fun n=>fG xs n;obtain⟨m,hm⟩:∃m,(ct xs).length=m:=⟨_,rfl⟩
 have hend:(0:Rat)=evP ((ct xs).drop m) y:=by rw[List.drop_of_length_le (by omega)];rfl
 obtain⟨E,hEE⟩:∃E:Nat→Rat,(fun k=>evP ((ct xs).drop k) y)=E:=⟨_,rfl⟩
 have he:∀k,evP ((ct xs).drop k) y=E k:=fun k=>congrFun hEE k;simp only[he]at hE hst h0 hend;rw[hm]at hD hst hc;refine Fx.by_ tG fP Tryz.func24 rfl (by kernel_rfl) (by kernel_rfl) rfl ⟨_,hD,{k:Nat // k≤m},fun k=>([(0,.l aV (.ar 0) xs.length (C xs)),(3,.p 0 0),(4,.p 1 0),(5,.p 2 0),(6,.a (sc (.i .i64 ((k.1:Int)-1))))],[.c ⟨34,aO (E k.1)⟩,.c ⟨34,[SV.b false,.m 0,.m 0]⟩,.c ⟨34,aO y⟩]),fun k=>k.1,⟨⟨m,Nat.le_refl _⟩,[true,true,true],rfl,cN hend,rfl,rfl,rfl,rfl,rfl,trivial⟩,fun k=>?_⟩;obtain⟨k,hk⟩:=k;refine dt (fun h=>?_) fun h=>?_
 ·have hp:0<k:=(by have h:(0:Int)≤(k:Int)-1:=h;omega);obtain⟨k,rfl⟩:∃j,k=j+1:=⟨k-1,by omega⟩
  have e1:((k+1:Nat):Int)-1=(k:Int):=(by omega);exact⟨by kernel_rfl,k,e1,_,xW (iQ (by omega)),_,aDV (hE _).1 hy,_,aIF (hE _).2 (hz _),aII (by omega),⟨k,by omega⟩,Nat.lt_succ_self k,[true,true,true],rfl,cN (hst k (by omega)),rfl,rfl,rfl,rfl,yk,trivial⟩
 ·have h:¬(0:Int)≤(k:Int)-1:=h;obtain rfl:k=0:=(by omega);exact congrArg nm h0
theorem aIJ{a b:Rat}(hn:xs.length<1000000)(hz:∀i,Ma.sz (cf xs i)≤aQ)(ha:Ma.sz a≤aQ)(hb:Ma.sz b≤aQ)(hE:∀k,Ma.sz (((ct xs).drop k).foldr (esS a b) (0,0)).1≤aQ∧Ma.sz (((ct xs).drop k).foldr (esS a b) (0,0)).2≤aQ∧Ma.sz (esM a b (((ct xs).drop k).foldr (esS a b) (0,0))).1≤aQ∧Ma.sz (esM a b (((ct xs).drop k).foldr (esS a b) (0,0))).2≤aQ):Fx (F2 W0) 27 [.l aV xs.length (C xs),.v (sp a b)] (.v (sp (esP xs a b).1 (esP xs a b).2)):=by
 have hc:=eZ xs;have hP:aQ≤aI:=by decide
 have hD:=aDW (W0:=W0) hn fun i=>Nat.le_trans (hz i) hP;have hst:∀k,k<(ct xs).length→((ct xs).drop k).foldr (esS a b) (0,0)=esS a b (cf xs k) (((ct xs).drop (k+1)).foldr (esS a b) (0,0)):=fun k hk=>by rw[aHj hk,fG]
 obtain⟨m,hm⟩:∃m,(ct xs).length=m:=⟨_,rfl⟩
 have hend:((0:Rat),(0:Rat))=((ct xs).drop m).foldr (esS a b) (0,0):=by rw[List.drop_of_length_le (by omega)];rfl
 obtain⟨E,hEE⟩:∃E:Nat→Rat × Rat,(fun k=>((ct xs).drop k).foldr (esS a b) (0,0))=E:=⟨_,rfl⟩
 have he:∀k,((ct xs).drop k).foldr (esS a b) (0,0)=E k:=fun k=>congrFun hEE k;have h0:E 0=esP xs a b:=(he 0).symm;simp only[he]at hE hst hend;rw[hm]at hD hst hc;rw[←h0];refine Fx.by_ tG fP Tryz.func27 rfl (by kernel_rfl) (by kernel_rfl) rfl ⟨_,hD,{k:Nat // k≤m},fun k=>([(0,.l aV (.ar 0) xs.length (C xs)),(3,.p 0 0),(4,.p 1 0),(5,.p 2 0),(6,.a (sc (.i .i64 ((k.1:Int)-1))))],[.c ⟨36,aO (E k.1).1++aO (E k.1).2⟩,.c ⟨36,[SV.b false,.m 0,.m 0,.b false,.m 0,.m 0]⟩,.c ⟨36,aO a++aO b⟩]),fun k=>k.1,⟨⟨m,Nat.le_refl _⟩,[true,true,true],rfl,cS (congrArg Prod.fst hend) (congrArg Prod.snd hend),rfl,rfl,rfl,rfl,rfl,trivial⟩,fun k=>?_⟩;obtain⟨k,hk⟩:=k;refine dt (fun h=>?_) fun h=>?_
 ·have hp:0<k:=(by have h:(0:Int)≤(k:Int)-1:=h;omega);obtain⟨k,rfl⟩:∃j,k=j+1:=⟨k-1,by omega⟩
  have e1:((k+1:Nat):Int)-1=(k:Int):=(by omega);obtain⟨b1,b2,b3,b4⟩:=hE (k+1);exact⟨by kernel_rfl,k,e1,_,xW (iQ (by omega)),_,aK9 b1 b2 ha hb,_,aPz (Nat.le_trans (hz _) hP),_,aK8 b3 b4 (hz _) (hz _),aII (by omega),⟨k,by omega⟩,Nat.lt_succ_self k,[true,true,true],rfl,cS (congrArg Prod.fst (hst k (by omega)).symm) (congrArg Prod.snd (hst k (by omega)).symm),rfl,rfl,rfl,rfl,yk,trivial⟩
 ·have h:¬(0:Int)≤(k:Int)-1:=h;obtain rfl:k=0:=(by omega);rfl
end
end Go.Proofs.YtpobejcofijjdaaGreatDoor.J
namespace Go.Proofs.YtpobejcofijjdaaGreatDoor.J
open Go Go.RowKit
open Ma Me K E Go.Proofs.YtpobejcofijjdaaGreatDoor.Po
def CR(xs:List Rat):List (List SV):=xs.map encR
theorem oZ{xs:List Rat}{j:Nat}{x:Rat}(h:xs[j]? =some x):(CR xs)[j]? =some (encR x):=by unfold CR;rw[List.getElem?_map,h];rfl
theorem aR6{xs:List Rat}{j:Nat}{x:Rat}:(CR xs).set j (encR x)=CR (xs.set j x):=by unfold CR;rw[List.map_set]
theorem aPF{xs:List Rat}{n:Nat}:(CR xs).take n=CR (xs.take n):=by unfold CR;rw[List.map_take]
theorem aR7{n:Nat}:List.replicate n [SV.i .i64 0,.r 0,.r 0]=CR (List.replicate n 0):=by unfold CR;rw[List.map_replicate,aDQ]
theorem aPG{xs:List Rat}:∀x∈CR xs,calm x=true:=fun x hx=>by
 obtain⟨q,-,rfl⟩:=List.mem_map.1 hx;rfl
theorem aFI{n:Nat}{g:Nat→Rat}:mkP n g++[g n]=mkP (n+1) g:=by unfold mkP;rw[List.range_succ,List.map_append];rfl
theorem aHp{n:Nat}{g:Nat→Rat}:CR (mkP n g)++[encR (g n)]=CR (mkP (n+1) g):=by rw[←aFI];unfold CR;rw[List.map_append];rfl
theorem Fx.ns{F:Cf}{f ty:Nat}{r:X}(h:Fx F f [.l ty 0 []] r):Fx F f [.v (sc .ns)] r:=fun g vs hb hl ha=>h g vs hb hl (match vs,ha with| [_],ha=>⟨.inl ⟨ha.1,rfl,rfl⟩,trivial⟩)
section
variable {W0:World} {xs ys:List Rat} {x:Rat}
theorem sW(hn:xs.length<1000000)(hz:∀i,Ma.sz (cf xs i)≤aI):Fx (F2 W0) 10 [.l 39 xs.length (CR xs)] (.r [.l 39 (ct xs).length (CR (ct xs))]):=by
 have hc:=eZ xs;refine Fx.by_ tG fP Tryz.func10 rfl (by kernel_rfl) (by kernel_rfl) rfl ⟨{i:Nat // i≤xs.length∧∀k,i≤k→cf xs k=0},fun i=>([(0,.l 39 (.ar 0) xs.length (CR xs)),(3,.a (sc (.i .i64 (i.1:Int))))],[]),fun i=>i.1,⟨⟨xs.length,Nat.le_refl _,fun k hk=>dY hk⟩,[],rfl,rfl,rfl,rfl,trivial⟩,fun i=>?_⟩;obtain⟨i,hi,h0⟩:=i;have fin:i=0∨cf xs (i-1)≠0→i=(ct xs).length∧(CR xs).take i=CR (ct xs):=fun h=>by
  have e:=aDn hi h0 h;exact⟨e.symm,by rw[←e,aPF,aAQ]⟩
 have hcal:∀x∈(CR xs).take i,calm x=true:=fun x hx=>aPG x (List.mem_of_mem_take hx);refine dt (fun h=>?_) fun h=>?_
 ·have hp:0<i:=(by have h:(0:Int)<(i:Int):=h;omega);have e1:(i:Int)-1=((i-1:Nat):Int):=(by omega);refine⟨zY (i:=i) (by omega),i-1,e1,_,oZ (iQ (by omega)),_,aPB (hz _),dt (fun h1=>⟨zY (i:=i) (by omega),⟨i-1,by omega,fun k hk=>by
   rcases Nat.eq_or_lt_of_le hk with rfl|hk
   ·exact bI.1 h1
   ·exact h0 k (by omega)⟩,(show i-1<i by omega),[],rfl,rfl,rfl,yi e1,trivial⟩) fun h1=>?_⟩
  obtain⟨f1,f2⟩:=fin (.inr fun e=>h1 (bI.2 e));exact⟨i,rfl,hi,⟨(show i*56<_ by omega),(show i<_ by omega),hcal⟩,⟨rfl,f1,f2⟩,trivial⟩
 ·have h:¬(0:Int)<(i:Int):=h;obtain⟨f1,f2⟩:=fin (.inl (by omega));exact⟨i,rfl,hi,⟨(show i*56<_ by omega),(show i<_ by omega),hcal⟩,⟨rfl,f1,f2⟩,trivial⟩
theorem aTn(hn:xs.length<1000000)(hz:∀i,Ma.sz (cf xs i)≤aI):Fx (F2 W0) 12 [.l 39 xs.length (CR xs)] (.v (sc (.i .i64 (((ct xs).length:Int)-1)))):=
 have hc:=eZ xs
 Fx.by_ tG fP Tryz.func12 rfl (by kernel_rfl) (by kernel_rfl) rfl ⟨_,sW hn hz,⟨by omega,by omega⟩,rfl⟩
theorem aIK{i:Nat}:Fx (F2 W0) 50 [.l 39 xs.length (CR xs),.v (sc (.i .i64 (i:Int)))] (.v (rm (cf xs i))):=
 Fx.by_ tG fP Tryz.func50 rfl (by kernel_rfl) (by kernel_rfl) rfl (dt (fun h=>⟨i,rfl,_,oZ (iQ (by omega)),rfl⟩) fun h=>rm0.trans (congrArg rm (show (0:Rat)=cf xs i from (dY (by omega)).symm)))
def gro(sl k:Nat)(rest:List (Nat × Y))(bs:List W)(g:Nat→Rat):List (Nat × Y) × List W:=match k with
 |0=>((sl,.a (sc .ns))::rest,bs)
 |k+1=>((sl,.s bs.length none)::rest,.l 39 (k+1) (CR (mkP (k+1) g))::bs)
theorem g1{g:Nat→Rat}{x:Rat}{bs:List W}(h:x=g 0):W.l 39 1 [encR x]::bs=W.l 39 1 (CR (mkP 1 g))::bs:=by rw[h];rfl
theorem g2{g:Nat→Rat}{x:Rat}{bs:List W}{k:Nat}(h:x=g k):W.l 39 (k+1) (CR (mkP k g)++[encR x])::bs=W.l 39 (k+1) (CR (mkP (k+1) g))::bs:=by rw[h,aHp]
theorem aNL(hn1:xs.length<1000000)(hn2:ys.length<1000000)(hz1:∀i,Ma.sz (cf xs i)≤aI)(hz2:∀i,Ma.sz (cf ys i)≤aI)(hz:∀i,Ma.sz (cf xs i+cf ys i)≤aI):Fx (F2 W0) 14 [.l 39 xs.length (CR xs),.l 39 ys.length (CR ys)] (.r [.l 39 (nN xs ys).length (CR (nN xs ys))]):=by
 unfold nN;obtain⟨M,hM⟩:∃m,max xs.length ys.length=m:=⟨_,rfl⟩
 obtain⟨g,hg⟩:∃g:Nat→Rat,(fun i=>cf xs i+cf ys i)=g:=⟨_,rfl⟩
 have hgi:∀i,cf xs i+cf ys i=g i:=fun i=>congrFun hg i;rw[hM,hg];have hT:=sW (W0:=W0) (xs:=mkP M g) (by rw[bO];omega) (fun i=>by
  rw[kD];split
  ·rw[←hgi];exact hz i
  ·exact sz0)
 rw[bO]at hT;refine Fx.by_ tG fP Tryz.func14 rfl (by kernel_rfl) (by kernel_rfl) rfl ⟨{i:Nat // i≤M},fun i=>gro 5 i.1 [(0,.l 39 (.ar 0) xs.length (CR xs)),(1,.l 39 (.ar 1) ys.length (CR ys)),(6,.a (sc (.i .i64 (i.1:Int))))] [] g,fun i=>M-i.1,⟨⟨0,Nat.zero_le _⟩,[],rfl,rfl,rfl,rfl,rfl,rfl,trivial⟩,fun i=>?_⟩;obtain⟨i,hi⟩:=i;cases i with
 |zero=>
  have go:∀h:0<M,True:=fun _=>trivial;refine dt (fun h=>?_) fun h=>dt (fun h2=>?_) fun h2=>?_
  rotate_left 2
  ·obtain rfl:M=0:=by
     have h:¬((0:Nat):Int)<(xs.length:Int):=h;have h2:¬((0:Nat):Int)<(ys.length:Int):=h2;omega
   exact⟨_,hT.ns,⟨rfl,rfl,rfl⟩,trivial⟩
  all_goals
    have hlt:0<M:=by
     first
      |(have h2:((0:Nat):Int)<(ys.length:Int):=h2;omega)
      |(have h:((0:Nat):Int)<(xs.length:Int):=h;omega)
    exact⟨_,aIK (i:=0),_,aIK (i:=0),_,aCr (hz1 0) (hz2 0),(by decide),add1 (i:=0) (by decide),⟨1,hlt⟩,(show M-1<M-0 by omega),[true,false],rfl,g1 (hgi 0),rfl,rfl,rfl,rfl,trivial⟩
 |succ i=>
  refine dt (fun h=>?_) fun h=>dt (fun h2=>?_) fun h2=>?_
  rotate_left 2
  ·obtain rfl:i+1=M:=by
     have h:¬((i+1:Nat):Int)<(xs.length:Int):=h;have h2:¬((i+1:Nat):Int)<(ys.length:Int):=h2;omega
   exact⟨_,hT,⟨rfl,rfl,rfl⟩,trivial⟩
  all_goals
    have hlt:i+1<M:=by
     first
      |(have h2:((i+1:Nat):Int)<(ys.length:Int):=h2;omega)
      |(have h:((i+1:Nat):Int)<(xs.length:Int):=h;omega)
    exact⟨_,aIK (i:=i+1),_,aIK (i:=i+1),_,aCr (hz1 _) (hz2 _),⟨(show (i+1+1)*56<_ by omega),(show i+1+1<_ by omega)⟩,add1 (i:=i+1) (by omega),⟨i+2,hlt⟩,(show M-(i+2)<M-(i+1) by omega),[true,false,false],rfl,g2 (hgi (i+1)),rfl,rfl,rfl,rfl,trivial⟩
theorem aHq(hn:xs.length<1000000)(hz1:∀i,Ma.sz (cf xs i)≤aI)(hx:Ma.sz x≤aI)(hz:∀i,Ma.sz (cf xs i*x)≤aI):Fx (F2 W0) 20 [.l 39 xs.length (CR xs),.v (rm x)] (.r [.l 39 (pY xs x).length (CR (pY xs x))]):=by
 unfold pY;obtain⟨M,hM⟩:∃m,xs.length=m:=⟨_,rfl⟩
 obtain⟨g,hg⟩:∃g:Nat→Rat,(fun i=>cf xs i*x)=g:=⟨_,rfl⟩
 have hgi:∀i,cf xs i*x=g i:=fun i=>congrFun hg i;have hL:∀i,i<M→(CR xs)[i]? =some (encR (cf xs i)):=fun i hi=>oZ (iQ (by omega));rw[hM,hg];have hT:=sW (W0:=W0) (xs:=mkP M g) (by rw[bO];omega) (fun i=>by
  rw[kD];split
  ·rw[←hgi];exact hz i
  ·exact sz0)
 rw[bO]at hT;refine Fx.by_ tG fP Tryz.func20 rfl (by kernel_rfl) (by kernel_rfl) rfl ⟨{i:Nat // i≤M},fun i=>gro 5 i.1 [(0,.l 39 (.ar 0) M (CR xs)),(3,.p 0 0),(6,.a (sc (.i .i64 (i.1:Int))))] [.c ⟨39,encR x⟩] g,fun i=>M-i.1,⟨⟨0,Nat.zero_le _⟩,[true],rfl,rfl,rfl,rfl,rfl,rfl,trivial⟩,fun i=>?_⟩;obtain⟨i,hi⟩:=i;cases i with
 |zero=>
  refine dt (fun h=>?_) fun h=>?_
  ·have hlt:0<M:=(by have h:((0:Nat):Int)<(M:Int):=h;omega);exact⟨by kernel_rfl,0,rfl,_,hL 0 hlt,_,wK (hz1 0) hx,(by decide),add1 (i:=0) (by decide),⟨1,hlt⟩,(show M-1<M-0 by omega),[true,false,true],rfl,g1 (hgi 0),rfl,rfl,rfl,rfl,trivial⟩
  ·obtain rfl:M=0:=(by have h:¬((0:Nat):Int)<(M:Int):=h;omega);exact⟨_,hT.ns,⟨rfl,rfl,rfl⟩,trivial⟩
 |succ i=>
  refine dt (fun h=>?_) fun h=>?_
  ·have hlt:i+1<M:=(by have h:((i+1:Nat):Int)<(M:Int):=h;omega);exact⟨by kernel_rfl,i+1,rfl,_,hL (i+1) hlt,_,wK (hz1 _) hx,⟨(show (i+1+1)*56<_ by omega),(show i+1+1<_ by omega)⟩,add1 (i:=i+1) (by omega),⟨i+2,hlt⟩,(show M-(i+2)<M-(i+1) by omega),[true,false,false,true],rfl,g2 (hgi (i+1)),rfl,rfl,rfl,rfl,trivial⟩
  ·obtain rfl:i+1=M:=(by have h:¬((i+1:Nat):Int)<(M:Int):=h;omega);exact⟨_,hT,⟨rfl,rfl,rfl⟩,trivial⟩
end
end Go.Proofs.YtpobejcofijjdaaGreatDoor.J
namespace Go.Proofs.YtpobejcofijjdaaGreatDoor.J
open Go Go.RowKit
open Ma Me K E Go.Proofs.YtpobejcofijjdaaGreatDoor.Po
section
variable {W0:World} {xs ys:List Rat} {x:Rat}
theorem aCw(ys:List Rat)(x:Rat)(i:Nat):cf (pY ys x) i=cf ys i*x:=by
 unfold pY;rw[fG,kD];split
 ·rfl
 ·rw[dY (by omega),Rat.zero_mul]
theorem aLb(ys:List Rat)(x:Rat):(pY ys x).length≤ys.length:=by
 have:=eZ (mkP ys.length fun i=>cf ys i*x);rw[bO]at this;exact this
theorem aPH(xs ys:List Rat):nN xs (pY ys (-1))=pW xs ys:=aBE (aN7 _ _) (aN8 _ _) fun n=>by
 rw[aGh,aGi,aCw];grind
theorem aTo:Ma.sz (-1)≤aI:=by decide+kernel
theorem aTp(hn1:xs.length<1000000)(hn2:ys.length<1000000)(hz1:∀i,Ma.sz (cf xs i)≤aI)(hz2:∀i,Ma.sz (cf ys i)≤aI)(hz:∀i,Ma.sz (cf xs i-cf ys i)≤aI):Fx (F2 W0) 16 [.l 39 xs.length (CR xs),.l 39 ys.length (CR ys)] (.r [.l 39 (pW xs ys).length (CR (pW xs ys))]):=by
 have e:∀i,cf ys i*(-1)=-cf ys i:=fun i=>by grind
 have hA:=aNL (W0:=W0) (xs:=xs) (ys:=pY ys (-1)) hn1 (Nat.lt_of_le_of_lt (aLb ys _) hn2) hz1 (fun i=>by rw[aCw,e,mK];exact hz2 i) (fun i=>by rw[aCw,e,←Rat.sub_eq_add_neg];exact hz i);rw[aPH]at hA;exact Fx.by_ tG fP Tryz.func16 rfl (by kernel_rfl) (by kernel_rfl) rfl ⟨_,aPC,_,aHq hn2 hz2 aTo (fun i=>by rw[e,mK];exact hz2 i),_,hA,⟨rfl,rfl,rfl⟩,trivial⟩
theorem aR8(xs ys:List Rat):ct (mkP (xs.length+ys.length) (cv (cf xs) (cf ys)))=iH xs ys:=aBE (lJ _) (aN6 _ _) fun n=>by
 rw[fG,mkP_cf' fun i hi=>aGj (by omega),aGk]
theorem aTq{A0 B0:Nat}(hn1:xs.length<100000)(hn2:ys.length<100000)(hA:∀i,Ma.sz (cf xs i)≤A0)(hB:∀i,Ma.sz (cf ys i)≤B0)(hA2:2≤A0)(hz:2*((xs.length+1)*(A0+B0))+(A0+B0)+xs.length+3≤aI):Fx (F2 W0) 18 [.l 39 xs.length (CR xs),.l 39 ys.length (CR ys)] (.r [.l 39 (iH xs ys).length (CR (iH xs ys))]):=by
 obtain⟨N,hN⟩:∃N,xs.length+ys.length=N:=⟨_,rfl⟩
 have hLp:∀i,i<xs.length→(CR xs)[i]? =some (encR (cf xs i)):=fun i hi=>oZ (iQ hi);have hLq:∀i,i<ys.length→(CR ys)[i]? =some (encR (cf ys i)):=fun i hi=>oZ (iQ hi);have s0:∀i j k,i≤xs.length→Ma.sz (mF xs ys i j k)≤aI:=fun i j k hi=>Nat.le_trans (aNJ hA hB hA2) (by
  have h1:=Nat.mul_le_mul_right (A0+B0) (show i+1≤xs.length+1 by omega);omega)
 have hT:=sW (W0:=W0) (xs:=mkP N (mF xs ys xs.length 0)) (by rw[bO];omega) (fun i=>by
  rw[kD];split
  ·exact s0 _ _ _ (Nat.le_refl _)
  ·exact sz0)
 rw[bO,aFE,←hN,aR8,hN]at hT;have hM:∀i j,i<xs.length→j<ys.length→((i:Int)+(j:Int))=((i+j:Nat):Int)∧i+j<N:=fun i j _ _=>⟨by omega,by omega⟩
 have hF:∀i j,i<xs.length→j<ys.length→(CR (mkP N (mF xs ys i j)))[i+j]? =some (encR (mF xs ys i j (i+j))):=fun i j h1 h2=>oZ (sV (hM i j h1 h2).2);have hS:∀i j,(CR (mkP N (mF xs ys i j))).set (i+j) (encR (mF xs ys i j (i+j)+cf xs i*cf ys j))=CR (mkP N (mF xs ys i (j+1))):=fun i j=>by rw[aR6,aK6]
 have hX:∀i,CR (mkP N (mF xs ys i ys.length))=CR (mkP N (mF xs ys (i+1) 0)):=fun i=>by rw[aHi]
 have s2:∀i j,Ma.sz (cf xs i*cf ys j)≤aI:=fun i j=>Nat.le_trans (fJ _ _) (by have:=hA i;have:=hB j;omega);refine Fx.by_ tG fP Tryz.func18 rfl (by kernel_rfl) (by kernel_rfl) rfl ⟨⟨by omega,by omega⟩,rfl,N,by omega,⟨(show N*56≤_ by omega),by omega⟩,{i:Nat // i≤xs.length},fun i=>([(0,.l 39 (.ar 0) xs.length (CR xs)),(1,.l 39 (.ar 1) ys.length (CR ys)),(5,.s 0 (some N)),(6,.a (sc (.i .i64 (i.1:Int))))],[.l 39 N (CR (mkP N (mF xs ys i.1 0)))]),fun i=>xs.length-i.1,⟨⟨0,Nat.zero_le _⟩,[true],rfl,(show [W.l 39 N (List.replicate N [SV.i .i64 0,.r 0,.r 0])]=[W.l 39 N (CR (mkP N (mF xs ys 0 0)))] by rw[aR7,←aBw,mJ fun k _=>(aHh (p:=xs) (q:=ys) (k:=k)).symm]),rfl,rfl,rfl,rfl,trivial⟩,fun i=>?_⟩;obtain⟨i,hi⟩:=i;refine dt (fun h=>?_) fun h=>?_
 ·have hlt:i<xs.length:=(by have h:(i:Int)<(xs.length:Int):=h;omega);refine⟨{j:Nat // j≤ys.length},fun j=>([(0,.l 39 (.ar 0) xs.length (CR xs)),(1,.l 39 (.ar 1) ys.length (CR ys)),(5,.s 0 (some N)),(6,.a (sc (.i .i64 (i:Int)))),(7,.a (sc (.i .i64 (j.1:Int))))],[.l 39 N (CR (mkP N (mF xs ys i j.1)))]),fun j=>ys.length-j.1,⟨⟨0,Nat.zero_le _⟩,[true],rfl,rfl,rfl,rfl,rfl,rfl,rfl,trivial⟩,fun j=>?_⟩;obtain⟨j,hj⟩:=j;refine dt (fun h=>?_) fun h=>?_
  ·have hlj:j<ys.length:=(by have h:(j:Int)<(ys.length:Int):=h;omega);obtain⟨e1,e2⟩:=hM i j hlt hlj;exact⟨by kernel_rfl,⟨by omega,by omega⟩,⟨by omega,by omega⟩,i+j,e1,e2,i,rfl,_,hLp i hlt,j,rfl,_,hLq j hlj,_,hF i j hlt hlj,_,wK (Nat.le_trans (hA i) (by omega)) (Nat.le_trans (hB j) (by omega)),_,aCr (s0 i j _ hi) (s2 i j),i+j,e1,e2,e2,add1 (i:=j) (by omega),⟨j+1,hlj⟩,(show ys.length-(j+1)<ys.length-j by omega),[true],rfl,congrArg (fun z=>[W.l 39 N z]) (hS i j),rfl,rfl,rfl,rfl,rfl,trivial⟩
  ·have h:¬(j:Int)<(ys.length:Int):=h;obtain rfl:j=ys.length:=(by omega);exact⟨add1 (i:=i) (by omega),⟨i+1,hlt⟩,(show xs.length-(i+1)<xs.length-i by omega),[true],rfl,congrArg (fun z=>[W.l 39 N z]) (hX i),rfl,rfl,rfl,rfl,trivial⟩
 ·have h:¬(i:Int)<(xs.length:Int):=h;obtain rfl:i=xs.length:=(by omega);have hT':=hT;rw[←aFE]at hT';exact⟨_,hT',⟨rfl,rfl,rfl⟩,trivial⟩
theorem aR9(xs:List Rat):ct (mkP (xs.length-1) fun j=>cf xs (j+1)*((((j:Int)+1:Int)):Rat))=kZ xs:=aBE (lJ _) (aN9 _) fun n=>by
 rw[fG,aGl,kD];split
 ·push_cast;grind
 ·rw[dY (by omega),Rat.mul_zero]
theorem aPI(hn:xs.length<1000000)(hz:∀i,Ma.sz (cf xs i)≤aQ):Fx (F2 W0) 22 [.l 39 xs.length (CR xs)] (.r [.l 39 (kZ xs).length (CR (kZ xs))]):=by
 have hP:aQ≤aI:=by decide
 have hP2:aQ+2≤aI:=by decide
 have sI:∀i:Nat,i<1000000→Ma.sz ((((i:Int)+1:Int)):Rat)≤2:=fun i hi=>by
  have:=aMT (i:=i+1-1) (by omega);exact vH _ (by simp[W64];omega)
 obtain⟨M,hM⟩:∃m,xs.length-1=m:=⟨_,rfl⟩
 obtain⟨g,hg⟩:∃g:Nat→Rat,(fun j:Nat=>cf xs (j+1)*((((j:Int)+1:Int)):Rat))=g:=⟨_,rfl⟩
 have hgi:∀j:Nat,cf xs (j+1)*((((j:Int)+1:Int)):Rat)=g j:=fun i=>congrFun hg i;have hL:∀i,i<xs.length→(CR xs)[i]? =some (encR (cf xs i)):=fun i hi=>oZ (iQ hi);have hT:=sW (W0:=W0) (xs:=mkP M g) (by rw[bO];omega) (fun i=>by
  rw[kD];split
  ·rename_i h;rw[←hgi];exact Nat.le_trans (fJ _ _) (by have:=hz (i+1);have:=sI i (by omega);omega)
  ·exact sz0)
 have hder:ct (mkP M g)=kZ xs:=by rw[←hM,←hg];exact aR9 xs
 rw[bO,hder]at hT;refine Fx.by_ tG fP Tryz.func22 rfl (by kernel_rfl) (by kernel_rfl) rfl ⟨{i:Nat // i≤M},fun i=>gro 3 i.1 [(0,.l 39 (.ar 0) xs.length (CR xs)),(4,.a (sc (.i .i64 ((i.1:Int)+1))))] [] g,fun i=>M-i.1,⟨⟨0,Nat.zero_le _⟩,[],rfl,rfl,rfl,rfl,rfl,trivial⟩,fun i=>?_⟩;obtain⟨i,hi⟩:=i;cases i with
 |zero=>
  refine dt (fun h=>?_) fun h=>?_
  ·have hlt:0<M:=(by have h:((0:Nat):Int)+1<(xs.length:Int):=h;omega);have hx:=wK (W0:=W0) (Nat.le_trans (hz (0+1)) hP) (Nat.le_trans (sI 0 (by omega)) (show 2≤aI by decide));rw[hgi]at hx;exact⟨by kernel_rfl,1,rfl,_,hL 1 (by omega),_,aLa (n:=1) (by decide),_,hx,(by decide),add1 (i:=1) (by decide),⟨1,hlt⟩,(show M-1<M-0 by omega),[true,false],rfl,g1 rfl,rfl,rfl,rfl,trivial⟩
  ·obtain rfl:M=0:=(by have h:¬((0:Nat):Int)+1<(xs.length:Int):=h;omega);exact⟨_,hT.ns,⟨rfl,rfl,rfl⟩,trivial⟩
 |succ i=>
  refine dt (fun h=>?_) fun h=>?_
  ·have hlt:i+1<M:=(by have h:((i+1:Nat):Int)+1<(xs.length:Int):=h;omega);have hx:=wK (W0:=W0) (Nat.le_trans (hz (i+1+1)) hP) (Nat.le_trans (sI (i+1) (by omega)) (show 2≤aI by decide));rw[hgi]at hx;exact⟨by kernel_rfl,i+2,rfl,_,hL (i+2) (by omega),_,aLa (n:=i+2) (by omega),_,hx,⟨(show (i+1+1)*56<_ by omega),(show i+1+1<_ by omega)⟩,add1 (i:=i+2) (by omega),⟨i+2,hlt⟩,(show M-(i+2)<M-(i+1) by omega),[true,false,false],rfl,g2 rfl,rfl,rfl,rfl,trivial⟩
  ·obtain rfl:i+1=M:=(by have h:¬((i+1:Nat):Int)+1<(xs.length:Int):=h;omega);exact⟨_,hT,⟨rfl,rfl,rfl⟩,trivial⟩
theorem cNR{a b:Rat}{l:List W}(h:a=b):W.c ⟨39,encR a⟩::l=W.c ⟨39,encR b⟩::l:=by rw[h]
theorem aTW{b:Rat}{l:List W}(h:0=b):W.c ⟨39,[SV.i .i64 0,.r 0,.r 0]⟩::l=W.c ⟨39,encR b⟩::l:=by rw[←h,aDQ]
theorem cSR{a b c d:Rat}{l:List W}(h:a=c)(h2:b=d):W.c ⟨41,encR a++encR b⟩::l=W.c ⟨41,encR c++encR d⟩::l:=by rw[h,h2]
theorem aSa{y:Rat}(hn:xs.length<1000000)(hz:∀i,Ma.sz (cf xs i)≤aI)(hy:Ma.sz y≤aI)(hE:∀k,Ma.sz (evP (xs.drop k) y)≤aI∧Ma.sz (evP (xs.drop k) y*y)≤aI):Fx (F2 W0) 25 [.l 39 xs.length (CR xs),.v (rm y)] (.v (rm (evP xs y))):=by
 have hst:∀k,k<xs.length→evP (xs.drop (k+1)) y*y+cf xs k=evP (xs.drop k) y:=fun k hk=>by rw[aFF hk]
 have h0:evP (xs.drop 0) y=evP xs y:=rfl;obtain⟨m,hm⟩:∃m,xs.length=m:=⟨_,rfl⟩
 have hend:(0:Rat)=evP (xs.drop m) y:=by rw[List.drop_of_length_le (by omega)];rfl
 have hL:∀i,i<m→(CR xs)[i]? =some (encR (cf xs i)):=fun i hi=>oZ (iQ (by omega));obtain⟨E,hEE⟩:∃E:Nat→Rat,(fun k=>evP (xs.drop k) y)=E:=⟨_,rfl⟩
 have he:∀k,evP (xs.drop k) y=E k:=fun k=>congrFun hEE k;rw[he]at h0 hend;simp only[he]at hE hst;rw[hm]at hst⊢;refine Fx.by_ tG fP Tryz.func25 rfl (by kernel_rfl) (by kernel_rfl) rfl ⟨zY (i:=m) (by omega),{k:Nat // k≤m},fun k=>([(0,.l 39 (.ar 0) m (CR xs)),(3,.p 0 0),(4,.p 1 0),(5,.p 2 0),(6,.a (sc (.i .i64 ((k.1:Int)-1))))],[.c ⟨39,encR (E k.1)⟩,.c ⟨39,[SV.i .i64 0,.r 0,.r 0]⟩,.c ⟨39,encR y⟩]),fun k=>k.1,⟨⟨m,Nat.le_refl _⟩,[true,true,true],rfl,aTW hend,rfl,rfl,rfl,rfl,rfl,trivial⟩,fun k=>?_⟩;obtain⟨k,hk⟩:=k;refine dt (fun h=>?_) fun h=>?_
 ·have hp:0<k:=(by have h:(0:Int)≤(k:Int)-1:=h;omega);obtain⟨k,rfl⟩:∃j,k=j+1:=⟨k-1,by omega⟩
  have e1:((k+1:Nat):Int)-1=(k:Int):=(by omega);exact⟨by kernel_rfl,k,e1,_,hL k (by omega),_,wK (hE _).1 hy,_,aCr (hE _).2 (hz _),aII (by omega),⟨k,by omega⟩,Nat.lt_succ_self k,[true,true,true],rfl,cNR (hst k (by omega)),rfl,rfl,rfl,rfl,yk,trivial⟩
 ·have h:¬(0:Int)≤(k:Int)-1:=h;obtain rfl:k=0:=(by omega);exact congrArg rm h0
theorem aNM(a b c d:Rat):cZ (aL a b) (aJ a b) (aL c d) (aJ c d)=cZ a b c d∧dC (aL a b) (aJ a b) (aL c d) (aJ c d)=dC a b c d:=by
 have o1:(aL a b=a∧aJ a b=b)∨(aL a b=b∧aJ a b=a):=by unfold aL aJ;grind
 have o2:(aL c d=c∧aJ c d=d)∨(aL c d=d∧aJ c d=c):=by unfold aL aJ;grind
 rcases o1 with⟨e1,e2⟩|⟨e1,e2⟩<;>rcases o2 with⟨e3,e4⟩|⟨e3,e4⟩<;>rw[e1,e2,e3,e4]
 ·exact⟨rfl,rfl⟩
 ·exact aA1 a b c d
 ·exact aA0 a b c d
 ·have h1:=aA0 a b d c;have h2:=aA1 a b c d;exact⟨h1.1.trans h2.1,h1.2.trans h2.2⟩
theorem aPJ(a b c:Rat):esS a b c (0,0)=(c,c):=by
 have h:aL (0:Rat) 0=0∧aJ (0:Rat) 0=0:=⟨by decide+kernel,by decide+kernel⟩
 have e:∀y z:Rat,cZ 0 0 y z=0∧dC 0 0 y z=0:=fun y z=>by
  unfold cZ dC;simp only[Rat.zero_mul,h.1,h.2];exact⟨trivial,trivial⟩
 unfold esS;simp only[h.1,h.2,(e _ _).1,(e _ _).2,Rat.zero_add];rw[zN,show aL c c=c by unfold aL;split<;>rfl]
theorem aIL{a b:Rat}(hn:xs.length<1000000)(hz:∀i,Ma.sz (cf xs i)≤aQ)(ha:Ma.sz a≤aQ)(hb:Ma.sz b≤aQ)(hE:∀k,Ma.sz (((ct xs).drop k).foldr (esS a b) (0,0)).1≤aQ∧Ma.sz (((ct xs).drop k).foldr (esS a b) (0,0)).2≤aQ∧Ma.sz (esM a b (((ct xs).drop k).foldr (esS a b) (0,0))).1≤aQ∧Ma.sz (esM a b (((ct xs).drop k).foldr (esS a b) (0,0))).2≤aQ):Fx (F2 W0) 28 [.l 39 xs.length (CR xs),.v (rsp a b)] (.v (rsp (esP xs a b).1 (esP xs a b).2)):=by
 have hP:aQ≤aI:=by decide
 have hc:=eZ xs;have hT:=sW (W0:=W0) hn fun i=>Nat.le_trans (hz i) hP;have hst:∀k,k<(ct xs).length→((ct xs).drop k).foldr (esS a b) (0,0)=esS a b (cf (ct xs) k) (((ct xs).drop (k+1)).foldr (esS a b) (0,0)):=fun k hk=>aHj hk;obtain⟨p,hp⟩:∃p,ct xs=p:=⟨_,rfl⟩
 have hz':∀i,Ma.sz (cf p i)≤aQ:=fun i=>by rw[←hp,fG];exact hz i
 unfold esP;rw[hp]at hT hst hE hc⊢;have hL:∀i,i<p.length→(CR p)[i]? =some (encR (cf p i)):=fun i hi=>oZ (iQ hi);obtain⟨E,hEE⟩:∃E:Nat→Rat × Rat,(fun k=>(p.drop k).foldr (esS a b) (0,0))=E:=⟨_,rfl⟩
 have he:∀k,(p.drop k).foldr (esS a b) (0,0)=E k:=fun k=>congrFun hEE k;have hend:E p.length=(0,0):=by rw[←he,List.drop_of_length_le (Nat.le_refl _)];rfl
 have h0:p.foldr (esS a b) (0,0)=E 0:=he 0;simp only[he]at hE hst;rw[h0];refine Fx.by_ tG fP Tryz.func28 rfl (by kernel_rfl) (by kernel_rfl) rfl ⟨_,hT,dt (fun h=>?_) fun h=>?_⟩
 ·have h:(p.length:Int)=0:=h;have e:E 0=(0,0):=(by rw[←hend];congr 1;omega);exact (show AV.c true [.i .i64 0,.r 0,.r 0,.i .i64 0,.r 0,.r 0]=rsp (E 0).1 (E 0).2 by rw[e];unfold rsp;rw[aDQ];rfl)
 ·have h:¬(p.length:Int)=0:=h;obtain⟨m,hm⟩:∃m,p.length=m+1:=⟨p.length-1,by omega⟩
  rw[hm];have hlast:E m=(cf p m,cf p m):=(by rw[hst m (by omega),←hm,hend,aPJ]);have b0:-9223372036854775808≤((m+1:Nat):Int)-2∧((m+1:Nat):Int)-2<9223372036854775808:=⟨by omega,by omega⟩
  refine⟨zY (i:=m+1) (by omega),m,(by omega),_,hL m (by omega),_,aFH (Nat.le_trans (hz' m) hP),b0,{k:Nat // k≤m},fun k=>([(0,.l 39 .nw (m+1) (CR p)),(3,.p 0 0),(4,.p 1 0),(5,.p 2 0),(6,.a (sc (.i .i64 ((k.1:Int)-1))))],[.c ⟨41,encR (E k.1).1++encR (E k.1).2⟩,.c ⟨41,[.i .i64 0,.r 0,.r 0,.i .i64 0,.r 0,.r 0]⟩,.c ⟨41,encR a++encR b⟩]),fun k=>k.1,⟨⟨m,Nat.le_refl _⟩,[true,true,true],rfl,cSR (congrArg Prod.fst hlast).symm (congrArg Prod.snd hlast).symm,rfl,rfl,rfl,rfl,yi (a:=((m+1:Nat):Int)-2) (b:=(m:Int)-1) (by omega),trivial⟩,fun k=>?_⟩;obtain⟨k,hk⟩:=k;refine dt (fun h=>?_) fun h=>?_
  ·have hp:0<k:=(by have h:(0:Int)≤(k:Int)-1:=h;omega);obtain⟨k,rfl⟩:∃j,k=j+1:=⟨k-1,by omega⟩
   have e1:((k+1:Nat):Int)-1=(k:Int):=(by omega);obtain⟨b1,b2,b3,b4⟩:=hE (k+1);have hm1:=aIH (W0:=W0) b1 b2 ha hb;rw[←(aNM _ _ _ _).1,←(aNM _ _ _ _).2]at hm1;exact⟨by kernel_rfl,k,e1,_,hL k (by omega),_,hm1,_,aFH (Nat.le_trans (hz' _) hP),_,aIG b3 b4 (hz' _) (hz' _),aII (by omega),⟨k,by omega⟩,Nat.lt_succ_self k,[true,true,true],rfl,cSR (congrArg Prod.fst (hst k (by omega)).symm) (congrArg Prod.snd (hst k (by omega)).symm),rfl,rfl,rfl,rfl,yk,trivial⟩
  ·have h:¬(0:Int)≤(k:Int)-1:=h;obtain rfl:k=0:=(by omega);rfl
end
end Go.Proofs.YtpobejcofijjdaaGreatDoor.J
namespace Go.Proofs.YtpobejcofijjdaaGreatDoor.J
open Go Go.RowKit
open Ma Me K E Go.Proofs.YtpobejcofijjdaaGreatDoor.Po
def oH(ss:List (List Nat)):Bool:=decide (60<ss.length) || ss.any fun s=>decide (60<s.length)
def aCZ(sss:List (List (List Nat))):Bool:=sss.any oH
theorem aPK{ss:List (List Nat)}(h1:ss.length≤60)(h2:∀(j:Nat) s,ss[j]? =some s→s.length≤60):oH ss=false:=by
 unfold oH;rw[decide_eq_false (by omega),Bool.false_or,List.any_eq_false];intro s hs;obtain⟨j,hj⟩:=List.getElem?_of_mem hs;have:=h2 j s hj;simp;omega
theorem aMU{ss:List (List Nat)}(h:60<ss.length):oH ss=true:=by
 unfold oH;rw[decide_eq_true h];rfl
theorem aPL{ss:List (List Nat)}{j:Nat}{s:List Nat}(hj:ss[j]? =some s)(h:60<s.length):oH ss=true:=by
 unfold oH;rw[Bool.or_eq_true];exact .inr (List.any_eq_true.2 ⟨s,List.mem_of_getElem? hj,decide_eq_true h⟩)
theorem aHr{sss:List (List (List Nat))}{j:Nat}{ss:List (List Nat)}(hj:sss[j]? =some ss)(h:oH ss=true):aCZ sss=true:=List.any_eq_true.2 ⟨ss,List.mem_of_getElem? hj,h⟩
theorem aPM{sss:List (List (List Nat))}(h:∀(j:Nat) ss,sss[j]? =some ss→oH ss=false):aCZ sss=false:=by
 unfold aCZ;rw[List.any_eq_false];intro ss hs;obtain⟨j,hj⟩:=List.getElem?_of_mem hs;rw[h j ss hj];decide
theorem aMV{q:Rat}:svL (encR q) (encR q)=true:=by
 show cb (cb (decide (IntKind.i64=IntKind.i64)) (iEq (sn q) (sn q)) false) (cb (Nat.beq q.num.natAbs q.num.natAbs) (cb (Nat.beq (rd_ q) (rd_ q)) true false) false) false=true;rw[(show iEq (sn q) (sn q)=true by rw[rQ];exact decide_eq_true rfl),Nat.beq_refl,Nat.beq_refl];rfl
theorem aAT{q:Rat}:avb (.c true (encR q)) (.c true (encR q))=true:=aMV
def S(ss:List (List Nat)):List (List SV):=ss.map fun s=>[.s s]
theorem aFJ{ss:List (List Nat)}{j:Nat}{s:List Nat}(h:ss[j]? =some s):(S ss)[j]? =some [.s s]:=by unfold S;rw[List.getElem?_map,h];rfl
def LL(sss:List (List (List Nat))):List (Nat × Nat × List (List SV)):=sss.map fun ss=>(23,ss.length,S ss)
theorem aTr{sss:List (List (List Nat))}{j:Nat}{ss:List (List Nat)}(h:sss[j]? =some ss):(LL sss)[j]? =some (23,ss.length,S ss):=by unfold LL;rw[List.getElem?_map,h];rfl
theorem bT{b:Bool}(h:b=true):sc (.b true)=sc (.b b):=by rw[h]
theorem bF{b:Bool}(h:b=false):sc (.b false)=sc (.b b):=by rw[h]
section
variable {W0:World}
theorem aPN{sss:List (List (List Nat))}(hn:(LL sss).length<1000):Fx (F2 W0) 5 [.ls 22 (LL sss)] (.v (sc (.b (aCZ sss)))):=by
 obtain⟨n,hN⟩:∃n,(LL sss).length=n:=⟨_,rfl⟩
 have hN2:sss.length=n:=by rw[←hN];unfold LL;rw[List.length_map]
 refine Fx.by_ tG fP Tryz.func5 rfl (by kernel_rfl) (by kernel_rfl) rfl ⟨{i:Nat // i≤n∧∀(j:Nat) ss,j<i→sss[j]? =some ss→oH ss=false},fun i=>([(0,.ls 22 (LL sss)),(3,.a (sc (.i .i64 (i.1:Int))))],[]),fun i=>n-i.1,⟨⟨0,Nat.zero_le _,fun _ _ h=>by cases h⟩,[],rfl,rfl,rfl,rfl,trivial⟩,fun i=>?_⟩;obtain⟨i,hi,hb⟩:=i;refine dt (fun h=>?_) fun h=>?_
 ·have hlt:i<n:=(by have h:(i:Int)<((LL sss).length:Int):=h;omega);obtain⟨ss,hss⟩:∃ss,sss[i]? =some ss:=⟨_,List.getElem?_eq_getElem (by omega)⟩
  have hp:=aTr hss;refine⟨i,rfl,_,hp,dt (fun h1=>bT (aHr hss (aMU (by have h1:(60:Int)<(ss.length:Int):=h1;omega)))) fun h1=>⟨{k:Nat // k≤ss.length∧∀(j:Nat) s,j<k→ss[j]? =some s→s.length≤60},fun k=>([(0,.ls 22 (LL sss)),(3,.a (sc (.i .i64 (i:Int)))),(4,.a (sc (.i .i64 (k.1:Int))))],[]),fun k=>ss.length-k.1,⟨⟨0,Nat.zero_le _,fun _ _ h=>by cases h⟩,[],rfl,rfl,rfl,rfl,rfl,trivial⟩,fun k=>?_⟩⟩;obtain⟨k,hk,hs⟩:=k;refine⟨i,rfl,_,hp,dt (fun h2=>?_) fun h2=>?_⟩
  ·have h1':¬(60:Int)<(ss.length:Int):=h1;have hlk:k<ss.length:=(by have h2:(k:Int)<(ss.length:Int):=h2;omega);obtain⟨s,hsk⟩:∃s,ss[k]? =some s:=⟨_,List.getElem?_eq_getElem hlk⟩
   exact⟨i,rfl,_,hp,k,rfl,_,aFJ hsk,dt (fun h3=>bT (aHr hss (aPL hsk (by have h3:(60:Int)<(s.length:Int):=h3;omega)))) fun h3=>⟨add1 (i:=k) (by omega),⟨k+1,hlk,fun j t hj ht=>by
    rcases Nat.lt_or_ge j k with hjk|hjk
    ·exact hs j t hjk ht
    ·obtain rfl:j=k:=(by omega);rw[hsk]at ht;cases ht;have h3:¬(60:Int)<(s.length:Int):=h3;omega⟩,(show ss.length-(k+1)<ss.length-k by omega),[],rfl,rfl,rfl,rfl,rfl,trivial⟩⟩
  ·have h2:¬(k:Int)<(ss.length:Int):=h2;have h1:¬(60:Int)<(ss.length:Int):=h1;exact⟨add1 (i:=i) (by omega),⟨i+1,hlt,fun j t hj ht=>by
    rcases Nat.lt_or_ge j i with hjk|hjk
    ·exact hb j t hjk ht
    ·obtain rfl:j=i:=(by omega);rw[hss]at ht;cases ht;exact aPK (by omega) fun j s hj=>hs j s (by have:=(List.getElem?_eq_some_iff.1 hj).1;omega) hj⟩,(show n-(i+1)<n-i by omega),[],rfl,rfl,rfl,rfl,trivial⟩
 ·have h:¬(i:Int)<((LL sss).length:Int):=h;exact bF (aPM fun j ss hj=>hb j ss (by have:=(List.getElem?_eq_some_iff.1 hj).1;omega) hj)
theorem eqS{dd:Dk}{l:List Nat}:bop dd .eql (.s l) (.s l)=some (.b true):=by
 show eqv .eql (eqL l l)=_;rw[vR,decide_eq_true rfl];rfl
theorem aAU{p:Rat}(hp:Ma.sz p≤aI):Fx (F2 W0) 23 [.v (nm p),.v (rm p)] (.v (sc (.b true))):=
 Fx.by_ tG fP Tryz.func23 rfl (by kernel_rfl) (by kernel_rfl) rfl ⟨by kernel_rfl,_,aR3 hp,_,aPA hp,_,eqS,rfl⟩
theorem aPO{p q:Rat}(hp:Ma.sz p≤aI)(hq:Ma.sz q≤aI):Fx (F2 W0) 26 [.v (sp p q),.v (rsp p q)] (.v (sc (.b true))):=
 Fx.by_ tG fP Tryz.func26 rfl (by kernel_rfl) (by kernel_rfl) rfl ⟨_,aAU hp,fun _=>⟨_,aAU hq,rfl⟩,fun h=>by cases h⟩
theorem wL{xs:List Rat}{n:Nat}(hn:xs.length=n)(hn2:n<1000000)(hz:∀i,Ma.sz (cf xs i)≤aI):Fx (F2 W0) 8 [.l aV n (C xs),.l 39 n (CR xs)] (.v (sc (.b true))):=by
 refine Fx.by_ tG fP Tryz.func8 rfl (by kernel_rfl) (by kernel_rfl) rfl (dt (fun h=>absurd rfl h) fun _=>⟨{i:Nat // i≤n},fun i=>([(0,.l aV (.ar 0) n (C xs)),(1,.l 39 (.ar 1) n (CR xs)),(5,.a (sc (.i .i64 (i.1:Int))))],[]),fun i=>n-i.1,⟨⟨0,Nat.zero_le _⟩,[],rfl,rfl,rfl,rfl,rfl,trivial⟩,fun i=>?_⟩);obtain⟨i,hi⟩:=i;refine dt (fun h=>?_) fun h=>rfl;have hlt:i<n:=by have h:(i:Int)<(n:Int):=h;omega
 exact⟨by kernel_rfl,i,rfl,_,xW (iQ (by omega)),i,rfl,_,oZ (iQ (by omega)),_,aAU (hz i),fun h=>(by cases h),fun _=>⟨add1 (i:=i) (by omega),⟨i+1,hlt⟩,(show n-(i+1)<n-i by omega),[],rfl,rfl,rfl,rfl,rfl,trivial⟩⟩
theorem aSb{n:Nat}{g:Nat→Rat}:C (mkP n g)++[aO (g n)]=C (mkP (n+1) g):=by rw[←aFI];unfold C;rw[List.map_append];rfl
def aTX(k:Nat)(rest:List (Nat × Y))(g:Nat→Rat):List (Nat × Y) × List W:=match k with
 |0=>((4,.a (sc .ns))::(5,.a (sc .ns))::rest,[])
 |k+1=>((4,.s 0 none)::(5,.s 1 none)::rest,[.l 39 (k+1) (CR (mkP (k+1) g)),.l aV (k+1) (C (mkP (k+1) g))])
theorem h1{g:Nat→Rat}{x:Rat}(h:x=g 0):[W.l 39 1 [encR x],W.l aV 1 [aO x]]=[W.l 39 1 (CR (mkP 1 g)),W.l aV 1 (C (mkP 1 g))]:=by rw[h];rfl
theorem h2{g:Nat→Rat}{x:Rat}{k:Nat}(h:x=g k):[W.l 39 (k+1) (CR (mkP k g)++[encR x]),W.l aV (k+1) (C (mkP k g)++[aO x])]=[W.l 39 (k+1) (CR (mkP (k+1) g)),W.l aV (k+1) (C (mkP (k+1) g))]:=by rw[h,aHp,aSb]
theorem aFK{ss:List (List Nat)}{n:Nat}(hn:ss.length=n)(hn2:n<1000000)(hs0:∀s∈ss,okS s=true):Fx (F2 W0) 7 [.l 23 n (S ss)] (.r [.l aV n (C (ss.map nOf)),.l 39 n (CR (ss.map nOf))]):=by
 obtain⟨g,hg⟩:∃g:Nat→Rat,cf (ss.map nOf)=g:=⟨_,rfl⟩
 have hgi:∀i s,ss[i]? =some s→nOf s=g i:=fun i s h=>by rw[←hg];unfold cf;rw[List.getElem?_map,h];rfl
 have hE:mkP n g=ss.map nOf:=by rw[←hg];have:=aK5 (ss.map nOf);rwa [List.length_map,hn]at this
 refine Fx.by_ tG fP Tryz.func7 rfl (by kernel_rfl) (by kernel_rfl) rfl ⟨{i:Nat // i≤n},fun i=>aTX i.1 [(0,.l 23 (.ar 0) n (S ss)),(6,.a (sc (.i .i64 (i.1:Int))))] g,fun i=>n-i.1,⟨⟨0,Nat.zero_le _⟩,[],rfl,rfl,rfl,rfl,rfl,rfl,trivial⟩,fun i=>?_⟩;obtain⟨i,hi⟩:=i;cases i with
 |zero=>
  refine dt (fun h=>?_) fun h=>?_
  ·have hlt:0<n:=(by have h:((0:Nat):Int)<(n:Int):=h;omega);obtain⟨s,hsk⟩:∃s,ss[0]? =some s:=⟨_,List.getElem?_eq_getElem (by omega)⟩
   have hk:=hs0 s (List.mem_of_getElem? hsk);exact⟨0,rfl,_,aFJ hsk,_,aHn hk,0,rfl,_,aFJ hsk,_,aFG hk,by kernel_rfl,(by decide),⟨rfl,rfl,aAT,⟨rfl,rfl,rfl,aMV⟩,trivial⟩,(by decide),add1 (i:=0) (by decide),⟨1,hlt⟩,(show n-1<n-0 by omega),[true,true,false,false,false,false],rfl,h1 (hgi 0 s hsk),rfl,rfl,rfl,rfl,trivial⟩
  ·obtain rfl:n=0:=(by have h:¬((0:Nat):Int)<(n:Int):=h;omega);exact⟨⟨rfl,(show C (ss.map nOf)=[] by rw[←hE];rfl)⟩,⟨rfl,(show CR (ss.map nOf)=[] by rw[←hE];rfl)⟩,trivial⟩
 |succ i=>
  refine dt (fun h=>?_) fun h=>?_
  ·have hlt:i+1<n:=(by have h:((i+1:Nat):Int)<(n:Int):=h;omega);obtain⟨s,hsk⟩:∃s,ss[i+1]? =some s:=⟨_,List.getElem?_eq_getElem (by omega)⟩
   have hk:=hs0 s (List.mem_of_getElem? hsk);exact⟨i+1,rfl,_,aFJ hsk,_,aHn hk,i+1,rfl,_,aFJ hsk,_,aFG hk,by kernel_rfl,⟨(show (i+1+1)*56<_ by omega),(show i+1+1<_ by omega)⟩,⟨rfl,rfl,aAT,⟨rfl,rfl,rfl,aMV⟩,trivial⟩,⟨(show (i+1+1)*56<_ by omega),(show i+1+1<_ by omega)⟩,add1 (i:=i+1) (by omega),⟨i+2,hlt⟩,(show n-(i+2)<n-(i+1) by omega),[true,true,false,false,false,false,false,false],rfl,h2 (hgi (i+1) s hsk),rfl,rfl,rfl,rfl,trivial⟩
  ·obtain rfl:i+1=n:=(by have h:¬((i+1:Nat):Int)<(n:Int):=h;omega);exact⟨⟨rfl,rfl,by rw[hE]⟩,⟨rfl,rfl,by rw[hE]⟩,trivial⟩
end
end Go.Proofs.YtpobejcofijjdaaGreatDoor.J
namespace Go.Proofs.YtpobejcofijjdaaGreatDoor.J
open Go Go.RowKit
open Ma Me K E Go.Proofs.YtpobejcofijjdaaGreatDoor.Po
section
variable {W0:World}
theorem evs_ok'{p:List Rat}{x:Rat}{A0 X L:Nat}(hp:∀i,Ma.sz (cf p i)≤A0)(hx:Ma.sz x≤X)(hl:p.length≤L)(hC:2*(L*(A0+(L*X+2)))+(A0+(L*X+2))+L+2+X≤aI):∀k,Ma.sz (evP (p.drop k) x)≤aI∧Ma.sz (evP (p.drop k) x*x)≤aI:=fun k=>by
 have h:=aK7 (A0:=A0) (p:=p.drop k) (x:=x) (X:=X) (L:=L) (fun i=>by rw[aHm];exact hp _) hx (by rw[List.length_drop];omega);exact⟨by omega,Nat.le_trans (fJ _ _) (by omega)⟩
theorem aSc{sss:List (List (List Nat))}(h:aCZ sss=false):∀ss∈sss,ss.length≤60∧∀s∈ss,s.length≤60:=fun ss hss=>by
 have h1:oH ss=false:=by
  cases hb:oH ss with
  |false=>rfl
  |true=>rw[show aCZ sss=true from List.any_eq_true.2 ⟨ss,hss,hb⟩]at h;cases h
 unfold oH at h1;obtain⟨h2,h3⟩:=Bool.or_eq_false_iff.1 h1;refine⟨Nat.not_lt.1 (of_decide_eq_false h2),fun s hs=>?_⟩;rw[List.any_eq_false]at h3;have:=h3 s hs;simp at this;omega
theorem aFL{s:List Nat}(h:s.length≤60):Ma.sz (nOf s)≤120:=by
 unfold nOf;rcases aLC (by8 s) with h1|h1
 ·have h2:bV (by8 s)=(0,(bV (by8 s)).2):=(by rw[←h1]);have h4:=congrArg List.length (aHE h2);have h5:=aP9 (bV (by8 s)).2;generalize (bV (by8 s)).2=q at h4 h5⊢;have hl:(by8 s).length=s.length:=List.length_map _;have hd:aHF q≤60:=by
   unfold gF at h4;rw[List.length_append,List.length_append,hl]at h4;have p1:=aA6 q.num.natAbs;unfold aHF;split at h4
   ·split at h4<;>rename_i e<;>simp at h4<;>first|(rw[e,show (dec 1).length=1 by decide+kernel];omega)|omega
   ·split at h4<;>rename_i e<;>simp at h4<;>first|(rw[e,show (dec 1).length=1 by decide+kernel];omega)|omega
  omega
 ·rw[h1];have:=aAj;omega
theorem aLc{ss:List (List Nat)}(h:∀s∈ss,s.length≤60):∀i,Ma.sz (cf (ss.map nOf) i)≤120:=fun i=>by
 unfold cf;rw[List.getElem?_map];cases hi:ss[i]? with
 |none=>exact Nat.le_trans aAj (by decide)
 |some s=>exact aFL (h s (List.mem_of_getElem? hi))
theorem aFM{s:List Nat}(h:s.length≤60):okS s=true:=aZ.2 (by rw[aY];omega)
theorem aC0{s1 s2:List (List Nat)}{c0 c1:List Nat}:Fx (F2 W0) 3 [.l 23 s1.length (S s1),.l 23 s2.length (S s2),.v (.c true [.s c0,.s c1])] (.v (sc (.b true))):=by
 refine Fx.by_ tG fP Tryz.func3 rfl (by kernel_rfl) (by kernel_rfl) rfl ⟨_,aPN (sss:=[s1,s2,[c0,c1]]) (show 3<1000 by decide),fun _=>⟨_,aHo,rfl⟩,fun hb=>?_⟩;have hb:=aSc hb;obtain⟨b1,k1⟩:=hb s1 (by simp);obtain⟨b2,k2⟩:=hb s2 (by simp);obtain⟨-,k3⟩:=hb [c0,c1] (by simp);obtain⟨a,ha⟩:∃a,s1.map nOf=a:=⟨_,rfl⟩
 obtain⟨b,hbb⟩:∃b,s2.map nOf=b:=⟨_,rfl⟩
 have La:=aFK (W0:=W0) (ss:=s1) rfl (by omega) fun s hs=>aFM (k1 s hs);have Lb:=aFK (W0:=W0) (ss:=s2) rfl (by omega) fun s hs=>aFM (k2 s hs);have Lc:=aFK (W0:=W0) (ss:=[c0,c1]) rfl (show 2<1000000 by decide) fun s hs=>aFM (k3 s hs);have ca:=aLc (ss:=s1) k1;have cb':=aLc (ss:=s2) k2;have la:(s1.map nOf).length=s1.length:=List.length_map _;have lb:(s2.map nOf).length=s2.length:=List.length_map _;rw[ha]at La ca la;rw[hbb]at Lb cb' lb;rw[←la]at b1;rw[←lb]at b2;have La:Fx (F2 W0) 7 [.l 23 s1.length (S s1)] (.r [.l aV a.length (C a),.l 39 a.length (CR a)]):=by rw[la];exact La
 have Lb:Fx (F2 W0) 7 [.l 23 s2.length (S s2)] (.r [.l aV b.length (C b),.l 39 b.length (CR b)]):=by rw[lb];exact Lb
 obtain⟨x,hx⟩:∃x,nOf c0=x:=⟨_,rfl⟩
 obtain⟨y,hy⟩:∃y,nOf c1=y:=⟨_,rfl⟩
 have sx:Ma.sz x≤120:=hx▸aFL (k3 c0 (by simp));have sy:Ma.sz y≤120:=hy▸aFL (k3 c1 (by simp));have Lc:Fx (F2 W0) 7 [.l 23 2 (S [c0,c1])] (.r [.l aV 2 (C [x,y]),.l 39 2 (CR [x,y])]):=by rw[←hx,←hy];exact Lc
 have S1:120≤aI:=by decide
 have P1:120≤aQ:=by decide
 have aS:∀i,Ma.sz (cf a i)≤aI:=fun i=>Nat.le_trans (ca i) S1;have bS:∀i,Ma.sz (cf b i)≤aI:=fun i=>Nat.le_trans (cb' i) S1;have aP:∀i,Ma.sz (cf a i)≤aQ:=fun i=>Nat.le_trans (ca i) P1;have xS:=Nat.le_trans sx S1;have na:a.length<100000:=by omega
 have nb:b.length<100000:=by omega
 have na2:a.length<1000000:=by omega
 have nb2:b.length<1000000:=by omega
 have zA:∀i,Ma.sz (cf a i+cf b i)≤aI:=fun i=>Nat.le_trans (aHk (p:=a) (q:=b) ca cb' i) (by decide);have zD:∀i,Ma.sz (cf a i-cf b i)≤aI:=fun i=>Nat.le_trans (aHl (p:=a) (q:=b) ca cb' i) (by decide);have zX:∀i,Ma.sz (cf a i*x)≤aI:=fun i=>Nat.le_trans (fJ _ _) (by have:=ca i;simp only[aI];omega);have hM1:2*(a.length*(120+120))+(120+120)+a.length+2≤aI:=by simp only[aI];omega
 have hM2:2*((a.length+1)*(120+120))+(120+120)+a.length+3≤aI:=by simp only[aI];omega
 have r1:∀i,Ma.sz (cf (ct a) i)≤aI:=fun i=>by rw[fG];exact aS i
 have r2:∀i,Ma.sz (cf (nN a b) i)≤aI:=fun i=>Nat.le_trans (aPw (p:=a) (q:=b) ca cb' i) (by decide);have r3:∀i,Ma.sz (cf (pW a b) i)≤aI:=fun i=>Nat.le_trans (aPx (p:=a) (q:=b) ca cb' i) (by decide);have r4:∀i,Ma.sz (cf (iH a b) i)≤aI:=aPv (p:=a) (q:=b) ca cb' 120 (by omega) (by decide);have r5:∀i,Ma.sz (cf (pY a x) i)≤aI:=fun i=>by rw[aCw];exact zX i
 have r6:∀i,Ma.sz (cf (kZ a) i)≤aI:=fun i=>Nat.le_trans (aPy (p:=a) ca na2 i) (by decide);have v1:=aRZ (p:=a) (x:=x) (A0:=120) (X:=120) (L:=60) ca sx b1 (by decide);have v2:=evs_ok' (p:=a) (x:=x) (A0:=120) (X:=120) (L:=60) ca sx b1 (by decide);have w:=aTf (p:=a) (A0:=120) (X:=120) (L:=60) (a:=x) (b:=y) ca sx sy b1 (by decide);have l1:=eZ a;have l2:=aRX a b;have l3:=sub_le a b;have l4:=aRW a b;have l5:=aLb a x;have l6:=aRY a;have hP:aQ≤aI:=by decide
 have sE:Ma.sz (evP a x)≤aI:=(v2 0).1;have sL:Ma.sz (esP a x y).1≤aI∧Ma.sz (esP a x y).2≤aI:=⟨Nat.le_trans (w 0).1 hP,Nat.le_trans (w 0).2.1 hP⟩
 exact⟨_,La,_,Lb,_,Lc,by kernel_rfl,0,rfl,_,rfl,1,rfl,_,rfl,0,rfl,_,rfl,1,rfl,_,rfl,⟨rfl,rfl,aAT,rfl,rfl,aAT,trivial⟩,
  _,aR4 na2 aS,_,sW na2 aS,_,wL rfl (by omega) r1,fun h=>(by cases h),fun _=>⟨_,aDW na2 aS,_,aTn na2 aS,dt (fun h=>absurd rfl h) fun _=>⟨_,aTk na2 nb2 aS bS zA,_,aNL na2 nb2 aS bS zA,_,wL rfl (by omega) r2,fun h=>(by cases h),fun _=>⟨_,aTl na2 nb2 aS bS zD,_,aTp na2 nb2 aS bS zD,_,wL rfl (by omega) r3,fun h=>(by cases h),fun _=>⟨_,aTm na2 nb2 ca cb' (by decide) hM1,_,aTq na nb ca cb' (by decide) hM2,_,wL rfl (by omega) r4,fun h=>(by cases h),fun _=>⟨by kernel_rfl,0,rfl,_,rfl,0,rfl,_,rfl,_,aPD na2 aS xS zX,_,aHq na2 aS xS zX,_,wL rfl (by omega) r5,fun _=>⟨_,aPE na2 aP,_,aPI na2 aP,_,wL rfl (by omega) r6,fun _=>⟨0,rfl,_,rfl,0,rfl,_,rfl,_,aR5 na2 aS xS v1,_,aSa na2 aS xS v2,_,aAU sE,fun _=>⟨_,aIJ na2 aP (Nat.le_trans sx P1) (Nat.le_trans sy P1) w,_,aIL na2 aP (Nat.le_trans sx P1) (Nat.le_trans sy P1) w,_,aPO sL.1 sL.2,fun _=>⟨_,aHo,rfl⟩,fun h=>(by cases h)⟩,fun h=>(by cases h)⟩,fun h=>(by cases h)⟩,fun h=>(by cases h)⟩⟩⟩⟩⟩⟩
end
end Go.Proofs.YtpobejcofijjdaaGreatDoor.J
namespace Go.Proofs.YtpobejcofijjdaaGreatDoor.J
open Go Go.RowKit
open Ma Me K E
structure Ar (W:World) (x:Value) (v:AV) (ss:List (List Nat)):Prop where
 iv:∀h,gN (F2 W) 23 ss.length (S ss) h (fun _=>True) v
 r:∀c:Cx,VR c v x
theorem ar_nil(W:World):Ar W (.slice none 0 0) (sc .ns) []:=⟨fun _=>.inl ⟨rfl,rfl,rfl⟩,fun _=>aG.2 rfl⟩
theorem ar_some{W:World}{a:Addr}{len cap:Nat}{ss:List ByteArray}(hl:len≤ss.length)(hc:∀i,i<ss.length→W.cell? (a.add i)=some (.string (ss.getD i ByteArray.empty))):
  Ar W (.slice (some a) len cap) (sc (.v (.slice (some a) len cap))) ((ss.take len).map E.bytes):=by
 have hlen:((ss.take len).map E.bytes).length=len:=by rw[List.length_map,List.length_take];omega
 refine⟨fun _=>.inr (.inr ⟨a,cap,⟨.str,1,16,[.s []]⟩,by rw[hlen],by unfold S;rw[List.length_map],by kernel_rfl,rfl,rfl,fun j c hj=>?_⟩),fun _=>aG.2 ⟨rfl,rfl⟩⟩;unfold S at hj;rw[List.getElem?_map]at hj;obtain⟨s,hs,rfl⟩:=Option.map_eq_some_iff.1 hj;rw[List.getElem?_map]at hs;obtain⟨t,ht,rfl⟩:=Option.map_eq_some_iff.1 hs;rw[List.getElem?_take]at ht;split at ht
 ·have hlt:=(List.getElem?_eq_some_iff.1 ht).1;have h1:=hc j hlt;rw[List.getD,ht]at h1;refine⟨_,rfl,?_⟩;show cb (Nat.beq 23 23) (match W.cell? (a.add (j*1)) with|some (.string s)=>some (sc (.s (E.bytes s)))|_=>none) none=_;rw[Nat.beq_refl,Nat.mul_one,h1];rfl
 ·cases ht
theorem aSd(W:World):(F2 W).P.follows .mixedOrders=true:=by kernel_rfl
theorem q_PolyComputes(W:World)(hT:Tb W)(hP:Px W){x1 x2:Value}{v1 v2:AV}{s1 s2:List (List Nat)}(h1:Ar W x1 v1 s1)(h2:Ar W x2 v2 s2)(c0 c1:ByteArray):
  Calls Tryz.prog 3 #[x1,x2,.agg #[.string c0,.string c1]] W fun e w'=>e=.returned (.bool true)∧Q W w':=by
 obtain⟨v,h',⟨m0,hx⟩,-,hv⟩:=aC0 (W0:=W) (s1:=s1) (s2:=s2) (c0:=E.bytes c0) (c1:=E.bytes c1) ⟨.lf,0,0,.lf⟩ [v1,v2,.c true [.s (E.bytes c0),.s (E.bytes c1)]] (Nat.le_refl 0) (fun _ _=>T.get_lf) ⟨h1.iv _,h2.iv _,rfl,trivial⟩;have hv:v=sc (.b true):=hv;subst hv;have hx:=hx m0 (Nat.le_refl m0);obtain⟨-,hcr⟩:=lX (vs:=[x1,x2,.agg #[.string c0,.string c1]]) (f2 W) (wZ (f2 W) (aSd W) m0) hx (xB Tryz.prog.cellsOf W) (fun _=>rfl) ⟨hT,hP,Q.refl W⟩ ⟨h1.r _,h2.r _,⟨[_,_],rfl,⟨c0,rfl,rfl⟩,⟨c1,rfl,rfl⟩,trivial⟩,trivial⟩;refine Calls.mono hcr ?_;rintro e w' ⟨u,d,k1,k2,-,k4,k5⟩;have hu:u=.bool true:=aG.1 k5;rw[k1,hu];exact⟨rfl,k2▸k4.q⟩
end Go.Proofs.YtpobejcofijjdaaGreatDoor.J
namespace Go.Proofs.YtpobejcofijjdaaGreatDoor
open Go.RowKit Go.ChangeShapes Go.WideShapes Go.ChangeAt
open Ma Me
theorem own:ownKnob Tryz.prog.godebug=none:=by kernel_rfl
def qQ:List (String × DataW Unit):=[("math/bits.deBruijn64tab",Rows.laid_math_bits_deBruijn64tab),("pentode/value.prefixes",Rows.laid_pentode_value_prefixes)]
theorem aPP:Rows.laid_math_bits_deBruijn64tab (H:=Unit)=.agg (Lib.deBruijn64tab.map fun (n:Nat)=>(DataW.lit (.int .u8 (n:Int)):DataW Unit)):=by kernel_rfl
theorem aTs{W:World}(h:laidMetH Tryz.prog qQ W):Tb W:=by
 rw[MakeChecks.laidMetH_plain _ _ _ (by kernel_rfl)]at h;obtain⟨ps,⟨g,t,cs,fuel,p,q,hg,ht,hv,hd,_,_⟩,_,_⟩:=h;obtain rfl:=Option.some.inj ((show Tryz.prog.globalNamed "math/bits.deBruijn64tab"=some 0 by kernel_rfl).symm.trans hg);obtain⟨t',ht'⟩:∃t',(Tryz.prog.globals[(0:Nat)]?).map (·.type)=some t'∧(∃e,Tryz.prog.underlying t'=some (.array 64 e)∧Tryz.prog.cellsOf e=1∧Tryz.prog.underlying e=some (.int .u8)):=
  ⟨225,by kernel_rfl,⟨5,by kernel_rfl,by kernel_rfl,by kernel_rfl⟩⟩
 obtain⟨ht1,e,hu,c5,hue⟩:=ht';obtain rfl:=Option.some.inj (ht1.symm.trans ht);obtain⟨xs,m,_,ex,_,hl,hel⟩:=DataW.trod_array hu hd;intro r hr;have hlen:Lib.deBruijn64tab.length=64:=by kernel_rfl
 have hE:=hel r (by omega);rw[c5,Nat.mul_one,List.getElem?_eq_getElem (by omega)]at hE;obtain⟨z,e1,e2,_⟩:=DataW.trod_int hue hE;rw[aPP]at ex;have e3:=(DataW.agg.inj (Prod.mk.inj ex).1).symm;have e4:(xs.map (·.1))[r]? =(Lib.deBruijn64tab.map fun (n:Nat)=>(DataW.lit (.int .u8 (n:Int)):DataW Unit))[r]? :=by rw[e3]
 rw[List.getElem?_map,List.getElem?_map,List.getElem?_eq_getElem (by omega:r<xs.length),List.getElem?_eq_getElem hr,e2]at e4;have hz:z=((Lib.deBruijn64tab.getD r 0:Nat):Int):=by
  simp only[Option.map_some,Option.some.injEq,DataW.lit.injEq,Lit.int.injEq,true_and]at e4;rw[e4,List.getD,List.getElem?_eq_getElem hr];rfl
 rw[World.var?_cell hg hv r,←hz];have:cs.toList[r]? =some (.int .u8 z):=by
  have h0:((cs.toList.drop r).take 1)[0]? =some (.int .u8 z):=(by rw[e1];rfl);simpa using h0
 simpa using this
theorem aPQ:Rows.laid_pentode_value_prefixes (H:=Unit)=.agg ((List.range 10).map fun k=>.agg [.lit (.string (letter k)),.lit (.int .i64 (gU k))]):=by kernel_rfl
theorem aHs(k:Nat)(hk:k<10):kV.toList[k*2]? =some (.string (iG k))∧kV.toList[k*2+1]? =some (.int .i64 (gU k)):=by
 rcases (by omega:k=0∨k=1∨k=2∨k=3∨k=4∨k=5∨k=6∨k=7∨k=8∨k=9) with h|h|h|h|h|h|h|h|h|h<;>subst h<;>exact⟨rfl,rfl⟩
theorem aTt{W:World}(h:laidMetH Tryz.prog qQ W):Px W:=by
 rw[MakeChecks.laidMetH_plain _ _ _ (by kernel_rfl)]at h;obtain⟨ps,⟨_,_,_,_,_,_,_,_,_,_,⟨g,t,cs,fuel,p,q,hg,ht,hv,hd,_,_⟩,_⟩,_,_⟩:=h;obtain rfl:=Option.some.inj ((show Tryz.prog.globalNamed "pentode/value.prefixes"=some 4 by kernel_rfl).symm.trans hg);obtain rfl:=Option.some.inj ((show (Tryz.prog.globals[(4:Nat)]?).map (·.type)=some 255 by kernel_rfl).symm.trans ht);obtain⟨f0,f1,hu2,hf0,hf1,ho0,ho1,hc0,hc1⟩:∃f0 f1:Field,Tryz.prog.underlying 254=some (.struct #[f0,f1])∧Tryz.prog.underlying f0.type=some .string∧Tryz.prog.underlying f1.type=some (.int .i64)∧f0.offset=0∧f1.offset=1∧Tryz.prog.cellsOf f0.type=1∧Tryz.prog.cellsOf f1.type=1:=
  ⟨_,_,rfl,by kernel_rfl,by kernel_rfl,by kernel_rfl,by kernel_rfl,by kernel_rfl,by kernel_rfl⟩
 have hu:Tryz.prog.underlying 255=some (.array 10 254):=by kernel_rfl
 have c2:Tryz.prog.cellsOf 254=2:=by kernel_rfl
 have c20:Tryz.prog.cellsOf 255=20:=by kernel_rfl
 obtain⟨xs,m,_,ex,hcl,hl,hel⟩:=DataW.trod_array hu hd;rw[aPQ]at ex;have e3:=(DataW.agg.inj (Prod.mk.inj ex).1).symm;have key:∀k,k<10→cs.toList[k*2]? =some (.string (iG k))∧cs.toList[k*2+1]? =some (.int .i64 (gU k)):=by
  intro k hk;have hE:=hel k hk;rw[c2,List.getElem?_eq_getElem (by omega)]at hE;obtain⟨y0,y1,n,e5,_,h0,h1⟩:=trod_struct2 hu2 hE;rw[ho0,hc0]at h0;rw[ho1,hc1]at h1;obtain⟨s,a1,a2,_⟩:=DataW.trod_string hf0 h0;obtain⟨z,b1,b2,_⟩:=DataW.trod_int hf1 h1;have e4:(xs.map (·.1))[k]? =((List.range 10).map fun k=>(DataW.agg [.lit (.string (letter k)),.lit (.int .i64 (gU k))]:DataW Unit))[k]? :=(by rw[e3]);rw[List.getElem?_map,List.getElem?_map,List.getElem?_eq_getElem (by omega:k<xs.length),List.getElem?_eq_getElem (by simpa using hk),e5,a2,b2]at e4;simp only[Option.map_some,Option.some.injEq,DataW.agg.injEq,List.cons.injEq,DataW.lit.injEq,Lit.string.injEq,Lit.int.injEq,true_and,and_true,List.getElem_range]at e4;obtain⟨e6,e7⟩:=e4;have hs:s=iG k:=by
   unfold iG;rw[←e6]
  constructor
  ·have h2:(((((cs.toList.drop (k*2)).take 2).drop 0).take 1))[0]? =some (.string s):=(by rw[a1];rfl);rw[←hs];simpa [List.getElem?_take,List.getElem?_drop] using h2
  ·have h2:(((((cs.toList.drop (k*2)).take 2).drop 1).take 1))[0]? =some (.int .i64 z):=(by rw[b1];rfl);rw[←e7];simpa [List.getElem?_take,List.getElem?_drop] using h2
 have hcs:cs=kV:=by
  apply Array.ext';apply List.ext_getElem?;intro j;by_cases hj:j<20
  ·obtain⟨k,hk,h2⟩:∃k,k<10∧(j=k*2∨j=k*2+1):=⟨j/2,by omega,by omega⟩
   rcases h2 with rfl|rfl
   ·rw[(key k hk).1,(aHs k hk).1]
   ·rw[(key k hk).2,(aHs k hk).2]
  ·rw[c20]at hcl;rw[List.getElem?_eq_none (by omega),List.getElem?_eq_none (by have:kV.toList.length=20:=rfl;omega)]
 simp only[World.var?,hg,Option.bind_some]at hv;unfold Px;split at hv
 ·rename_i c t fr hh;injection hv with hv;subst hv;rw[←hcs];exact⟨t,fr,hh⟩
 ·cases hv
end Go.Proofs.YtpobejcofijjdaaGreatDoor
namespace Go.Proofs.YtpobejcofijjdaaGreatDoor.polyComputes
open Go.RowKit Go.ChangeShapes Go.WideShapes Go.ChangeAt
open Ma Me
theorem laidOut:laidOutB Tryz.prog=true:=by kernel_rfl
theorem aLd:Tryz.prog.cellsOf 23=1:=by kernel_rfl
theorem opened{H:Type}{enc:TypeId × Value→H}{W:World}{base:Nat}{v:Value}{d:DataW H}{p:List MemPlace}(hk:Value.okWide Tryz.prog W .any base 22 v)(h:DataW.Trod enc Tryz.prog W 0 (fun _=>true) true 22 v d p):∃a ss,J.Ar W v a ss:=by
 obtain⟨a0,len,cap,rfl⟩:=okWide_slice Tryz.underlying22 hk;obtain⟨fuel,hf⟩:=h;rcases open_strings Tryz.underlying22 Tryz.underlying23 aLd hf with⟨hcs,-⟩|⟨a,len',cap',ss,hcs,-,hl,-,hz,-,hcell,-⟩
 ·simp[Value.cells]at hcs;obtain⟨rfl,rfl,rfl⟩:=hcs;exact⟨_,_,J.ar_nil W⟩
 ·simp[Value.cells]at hcs;obtain⟨rfl,rfl,rfl⟩:=hcs;exact⟨_,_,J.ar_some (ss:=ss) (by simp only[if_true]at hz;omega) hcell⟩
theorem aPR{H:Type}{enc:TypeId × Value→H}{W:World}{base:Nat}{v:Value}{d:DataW H}{p:List MemPlace}(hk:Value.okWide Tryz.prog W .any base 24 v)(h:DataW.Trod enc Tryz.prog W 0 (fun _=>true) true 24 v d p):∃c0 c1:ByteArray,v=.agg #[.string c0,.string c1]:=by
 have hu:Tryz.prog.underlying 24=some (.array 2 23):=by kernel_rfl
 have hc:Tryz.prog.cellsOf 24=2:=by kernel_rfl
 simp only[Value.okWide,hu]at hk;obtain⟨cs,rfl,hsz,-⟩:=hk;obtain⟨v0,v1,rfl⟩:∃v0 v1,cs=#[v0,v1]:=by
  obtain⟨l⟩:=cs;have hl:l.length=2:=hsz.trans hc
  match l,hl with
  | [v0,v1],_=>exact⟨v0,v1,rfl⟩
 obtain⟨fuel,hf⟩:=h;obtain⟨xs,m,-,-,-,hl,he⟩:=DataW.trod_array hu hf;rw[aLd]at he;have e0:=he 0 (by decide);have e1:=he 1 (by decide);rw[List.getElem?_eq_getElem (by omega)]at e0 e1;obtain⟨s0,h0,-⟩:=DataW.trod_string Tryz.underlying23 e0;obtain⟨s1,h1,-⟩:=DataW.trod_string Tryz.underlying23 e1;have h0:[v0]=[.string s0]:=h0;have h1:[v1]=[.string s1]:=h1;injection h0 with h0 _;injection h1 with h1 _;exact⟨s0,s1,by rw[h0,h1]⟩
theorem contract(H:Type)(enc:TypeId × Value→H)(W:World)(base:Nat)(args:Array Value)(ds gs:List (DataW H))(before:List MemPlace)(hval:∀(j:Nat) t v,Tryz.f3.params[j]? =some t→args[j]? =some v→Value.okWide Tryz.prog W .any base t v)(hW:DataW.Whole enc Tryz.prog Tryz.f3.params.toList Rows.polyComputesSpec.vars false W args.toList ds gs before)(hL:laidMetH Tryz.prog qQ W):
  Calls Tryz.prog 3 args W fun e W'=>∃v,e=.returned v∧Rows.polyComputesSpec.post enc Tryz.prog Tryz.f3 false true false false W args v W':=by
 have hW':=hW;obtain⟨p,q,hA0,X,rfl,hfz,hnd⟩:=hW;have hA:DataW.TrodAll enc Tryz.prog W 0 (fun _=>true) true Tryz.f3.params.toList args.toList ds p:=hA0;rw[Tryz.params3]at hA hval;obtain⟨x1,x2,x3,d1,d2,d3,p1,p2,p3,rfl,rfl,rfl,h1,h2,h3⟩:=trodAll_three hA;obtain⟨rfl,rfl⟩:=trodVars_none X;clear hA0;obtain⟨a1,s1,r1⟩:=opened (hval 0 _ x1 rfl rfl) h1;obtain⟨a2,s2,r2⟩:=opened (hval 1 _ x2 rfl rfl) h2;obtain⟨c0,c1,rfl⟩:=aPR (hval 2 _ x3 rfl rfl) h3;simp only[List.append_nil,List.append_assoc]at hW';have hlt:∀x∈p1++(p2++p3),x.block<W.heap.size:=fun x hx=>by simpa using hW'.lt x hx
 have back2:∀{W':World} {v:Value} {d:DataW H} {p:List MemPlace},Q W W'→DataW.Trod enc Tryz.prog W 0 (fun _=>true) true 24 v d p→(∀x∈p,x.block<W.heap.size)→DataW.Trod enc Tryz.prog W' 0 (fun b=>decide (b<W.heap.size)) true 24 v d p:=fun hq h hl=>
  Below.trod laidOut (by kernel_rfl) (of_decide_eq_true (by kernel_rfl)) h hq hl
 have back:∀{W':World} {v:Value} {d:DataW H} {p:List MemPlace},Q W W'→DataW.Trod enc Tryz.prog W 0 (fun _=>true) true 22 v d p→(∀x∈p,x.block<W.heap.size)→DataW.Trod enc Tryz.prog W' 0 (fun b=>decide (b<W.heap.size)) true 22 v d p:=fun hq h hl=>
  Below.trod laidOut (by kernel_rfl) (of_decide_eq_true (by kernel_rfl)) h hq hl
 refine (J.q_PolyComputes W (aTs hL) (aTt hL) r1 r2 c0 c1).mono fun e W' ⟨he,hq⟩=>?_;subst he;refine⟨_,rfl,_,_,_,[]++[],p1++(p2++p3),[],hW',?_,?_,rfl,hq.frame _,fun h=>by cases h⟩
 ·exact trodAll_mk1 (shut_bool Tryz.underlying4 _)
 ·exact trodAll_mk3 (back hq h1 fun x hx=>hlt x (by simp[hx])) (back hq h2 fun x hx=>hlt x (by simp[hx])) (back2 hq h3 fun x hx=>hlt x (by simp[hx]))
abbrev inp:Input:=⟨#[],#[.slice none 0 0,.slice none 0 0,.agg #[.string ⟨#[]⟩,.string ⟨#[]⟩]],[]⟩
theorem aLe(os:Os):laidMet Tryz.prog qQ ((World.laidAll Tryz.prog os qQ).forCall (fun _ _=>0) inp).memory:=laidMet_laidAll _ (by kernel_rfl) (by kernel_rfl)
theorem reads(os:Os){H:Type}(enc:TypeId × Value→H):∃ds places,DataW.whole enc Tryz.prog ((World.laidAll Tryz.prog os qQ).forCall (fun _ _=>0) inp).memory Tryz.f3.params.toList Rows.polyComputesSpec.vars false inp.args.toList 8=some (ds,[],places):=
 ⟨[.nil,.nil,.agg [.lit (.string []),.lit (.string [])]],[],by kernel_rfl⟩
theorem aNN(os:Os):Input.okWideB Tryz.checked.prog ((World.laidAll Tryz.prog os qQ).forCall (fun _ _=>0) inp) 3 inp=true:=by kernel_rfl
theorem lifted(os:Os)(started:os.Started)(H:Type)(enc:TypeId × Value→H)(F:Stop.Interp):
  ReturnsInHanded {} Tryz.checked os 3 .any ((OpenSpec.ofChange Rows.polyComputesSpec).preRow enc Tryz.prog Tryz.f3 Rows.polyComputesRow.domain false qQ) (((OpenSpec.ofChange Rows.polyComputesSpec).at F).post enc Tryz.prog Tryz.f3 false true false false):=by
 obtain⟨ds,places,hx⟩:=reads os enc
 refine returnsInHanded_of_row (C:=Tryz.checked) (s:=OpenSpec.ofChange Rows.polyComputesSpec) own started (by kernel_rfl) Tryz.func3
  ⟨World.laidAll Tryz.prog os qQ,fun _ _=>0,inp,World.laidAll_os _ _ _,World.shaped_of_ZipB (by kernel_rfl) (by kernel_rfl),(Input.okWide_of_okWideB (base:=0) (aNN os)).1,(Input.okWide_of_okWideB (aNN os)).2,
   OpenSpec.preRow_of_cond 8 hx (by kernel_rfl) (fun k hk=>by cases hk) (by kernel_rfl) (aLe os),by
    simp only[Assume.holds];exact⟨by simp,by simp,fun _=>Modest.zero,by simp,by simp⟩⟩ ?_
 intro W base args ds gs before hval hW _ _ hz hL _ _;exact contract H enc W base args ds gs before hval hW hL
end Go.Proofs.YtpobejcofijjdaaGreatDoor.polyComputes
namespace Go.Proofs.YtpobejcofijjdaaGreatDoor
open Go.RowKit Go.ChangeShapes Go.WideShapes Go.ChangeAt
theorem zZ:joinedFacts Tryz.prog 3 Tryz.f3 (OpenSpec.ofChange Rows.polyComputesSpec).bare Rows.polyComputesRow=true:=by
 unfold joinedFacts
 repeat' (with_reducible refine Bool.and_eq_true_iff.2 ⟨?_,?_⟩)
 all_goals (as_aux_lemma=>kernel_rfl)
end Go.Proofs.YtpobejcofijjdaaGreatDoor
