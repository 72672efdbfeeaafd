/- The laws of a ring, of values and of derivatives hold for poly's functions. No condition. -/
import Derived.Test.YthjhkhlafhjjmaaGreatDoorQa21
set_option maxRecDepth 100000
namespace Go.Proofs.YthjhkhlafhjjmaaGreatDoor.Po
def sm(f:Nat→Rat):Nat→Rat
 |0=>0
 |n+1=>sm f n+f n
section
variable {f g h:Nat→Rat} {n m k:Nat} {c:Rat}
theorem dH:∀{n:Nat},(∀i,i<n→f i=g i)→sm f n=sm g n
 |0,_=>rfl
 |n+1,hh=>by
  unfold sm;rw[dH (n:=n) (fun i hi=>hh i (by omega)),hh n (by omega)]
theorem aAt:∀n:Nat,sm (fun i=>f i+g i) n=sm f n+sm g n
 |0=>by unfold sm;grind
 |n+1=>by unfold sm;rw[aAt n];grind
theorem aCN(c:Rat):∀n:Nat,sm (fun i=>c*f i) n=c*sm f n
 |0=>by unfold sm;grind
 |n+1=>by unfold sm;rw[aCN c n];grind
theorem sW(c:Rat):∀n:Nat,sm (fun i=>f i*c) n=sm f n*c
 |0=>by unfold sm;grind
 |n+1=>by unfold sm;rw[sW c n];grind
theorem qE:∀n:Nat,(∀i,i<n→f i=0)→sm f n=0
 |0,_=>rfl
 |n+1,hh=>by unfold sm;rw[qE n (fun i hi=>hh i (by omega)),hh n (by omega)];grind
theorem uN:∀n:Nat,sm f (n+1)=f 0+sm (fun i=>f (i+1)) n
 |0=>by simp only[sm];grind
 |n+1=>by
  rw[show sm f (n+1+1)=sm f (n+1)+f (n+1) from rfl,uN n];rw[show sm (fun i=>f (i+1)) (n+1)=sm (fun i=>f (i+1)) n+f (n+1) from rfl];grind
theorem aKW:∀{n:Nat} {f:Nat→Rat},sm f n=sm (fun i=>f (n-1-i)) n
 |0,_=>rfl
 |n+1,f=>by
  rw[uN n (f:=fun i=>f (n+1-1-i))];rw[show sm f (n+1)=sm f n+f n from rfl,aKW (n:=n) (f:=f)];have e:sm (fun i=>f (n+1-1-(i+1))) n=sm (fun i=>f (n-1-i)) n:=dH (fun i hi=>by congr 1;omega);rw[e];have:f (n+1-1-0)=f n:=(by congr 1);rw[this];grind
theorem aF3(F:Nat→Nat→Rat):∀n:Nat,sm (fun i=>sm (fun j=>F j (i-j)) (i+1)) n=sm (fun j=>sm (fun l=>F j l) (n-j)) n
 |0=>rfl
 |n+1=>by
  rw[show sm (fun i=>sm (fun j=>F j (i-j)) (i+1)) (n+1)=sm (fun i=>sm (fun j=>F j (i-j)) (i+1)) n+sm (fun j=>F j (n-j)) (n+1) from rfl,aF3 F n];rw[show sm (fun j=>sm (fun l=>F j l) (n+1-j)) (n+1)=sm (fun j=>sm (fun l=>F j l) (n+1-j)) n+sm (fun l=>F n l) (n+1-n) from rfl];have e:sm (fun j=>sm (fun l=>F j l) (n+1-j)) n=sm (fun j=>sm (fun l=>F j l) (n-j)+F j (n-j)) n:=dH (fun j hj=>by
    rw[show n+1-j=(n-j)+1 by omega];rfl)
  rw[e,aAt];rw[show sm (fun j=>F j (n-j)) (n+1)=sm (fun j=>F j (n-j)) n+F n (n-n) from rfl];rw[show n+1-n=0+1 by omega,Nat.sub_self];have:sm (fun l=>F n l) (0+1)=F n 0:=(by simp only[sm];grind);rw[this];grind
theorem sZ:∀{n:Nat} (d:Nat),(∀i,n≤i→f i=0)→sm f (n+d)=sm f n
 |n,0,_=>rfl
 |n,d+1,hh=>by
  rw[show sm f (n+(d+1))=sm f (n+d)+f (n+d) from rfl,sZ d hh,hh _ (by omega)];grind
end
theorem aF4(x:Rat)(a:Nat):∀b:Nat,x^(a+b)=x^a*x^b
 |0=>by rw[Nat.add_zero,Rat.pow_zero];grind
 |b+1=>by rw[←Nat.add_assoc,Rat.pow_succ,Rat.pow_succ,aF4 x a b];grind
def cv(f g:Nat→Rat)(k:Nat):Rat:=sm (fun i=>f i*g (k-i)) (k+1)
section
variable {f g h:Nat→Rat}
theorem aO0(k:Nat):cv f g k=cv g f k:=by
 unfold cv;rw[aKW];exact dH (fun i hi=>by
  rw[show k+1-1-i=k-i by omega,show k-(k-i)=i by omega];grind)
theorem qF{f' g':Nat→Rat}(h1:∀i,f i=f' i)(h2:∀i,g i=g' i)(k:Nat):cv f g k=cv f' g' k:=dH (fun i _=>by rw[h1,h2])
theorem aQ6(k:Nat):cv (fun i=>f i+g i) h k=cv f h k+cv g h k:=by
 unfold cv;rw[←aAt];exact dH (fun i _=>by grind)
theorem aML(k:Nat):cv (cv f g) h k=cv f (cv g h) k:=by
 unfold cv;have e1:sm (fun i=>sm (fun i_1=>f i_1*g (i-i_1)) (i+1)*h (k-i)) (k+1)=sm (fun i=>sm (fun j=>f j*(g (i-j)*h (k-j-(i-j)))) (i+1)) (k+1):=dH (fun i hi=>by
  rw[←sW];exact dH (fun j hj=>by rw[show k-j-(i-j)=k-i by omega];grind))
 rw[e1,aF3 (fun j l=>f j*(g l*h (k-j-l)))];exact dH (fun j hj=>by
  rw[aCN,show k+1-j=k-j+1 by omega])
theorem aMM(k:Nat):((k+1:Nat):Rat)*cv f g (k+1)=cv (fun i=>((i+1:Nat):Rat)*f (i+1)) g k+cv f (fun i=>((i+1:Nat):Rat)*g (i+1)) k:=by
 unfold cv;have e1:((k+1:Nat):Rat)*sm (fun i=>f i*g (k+1-i)) (k+1+1)=sm (fun i=>(i:Rat)*(f i*g (k+1-i))) (k+1+1)+sm (fun i=>((k+1-i:Nat):Rat)*(f i*g (k+1-i))) (k+1+1):=by
  rw[←aCN,←aAt];exact dH (fun i hi=>by
   have:((k+1:Nat):Rat)=(i:Rat)+((k+1-i:Nat):Rat):=(by rw[←Rat.natCast_add];congr 1;omega);rw[this];grind)
 rw[e1,uN (k+1)];rw[show sm (fun i=>((k+1-i:Nat):Rat)*(f i*g (k+1-i))) (k+1+1)=sm (fun i=>((k+1-i:Nat):Rat)*(f i*g (k+1-i))) (k+1)+((k+1-(k+1):Nat):Rat)*(f (k+1)*g (k+1-(k+1))) from rfl];rw[Nat.sub_self];have e2:sm (fun i=>((i+1:Nat):Rat)*(f (i+1)*g (k+1-(i+1)))) (k+1)=sm (fun i=>((i+1:Nat):Rat)*f (i+1)*g (k-i)) (k+1):=dH (fun i hi=>by rw[show k+1-(i+1)=k-i by omega];grind);have e3:sm (fun i=>((k+1-i:Nat):Rat)*(f i*g (k+1-i))) (k+1)=sm (fun i=>f i*(((k-i+1:Nat):Rat)*g (k-i+1))) (k+1):=dH (fun i hi=>by rw[show k+1-i=k-i+1 by omega];grind);rw[e2,e3];have z:((0:Nat):Rat)=0:=rfl;rw[z];grind
theorem aO1{n m:Nat}(x:Rat)(hf:∀i,n≤i→f i=0)(hg:∀i,m≤i→g i=0):
  sm (fun k=>cv f g k*x^k) (n+m)=sm (fun i=>f i*x^i) n*sm (fun i=>g i*x^i) m:=by
 have e1:sm (fun k=>cv f g k*x^k) (n+m)=sm (fun k=>sm (fun j=>f j*x^j*(g (k-j)*x^(k-j))) (k+1)) (n+m):=dH (fun k _=>by
  unfold cv;rw[←sW];exact dH (fun j hj=>by
   have:x^k=x^j*x^(k-j):=(by rw[←aF4];congr 1;omega);rw[this];grind))
 rw[e1,aF3 (fun j l=>f j*x^j*(g l*x^l))];have e2:sm (fun j=>sm (fun l=>f j*x^j*(g l*x^l)) (n+m-j)) (n+m)=sm (fun j=>sm (fun l=>f j*x^j*(g l*x^l)) (n+m-j)) n:=sZ m (fun j hj=>qE _ (fun l _=>by rw[hf j hj];grind));rw[e2,←sW];exact dH (fun j hj=>by
  rw[aCN];congr 1;rw[show n+m-j=m+(n-j) by omega];exact sZ (n-j) (fun i hi=>by rw[hg i hi];grind))
end
def cf(p:List Rat)(n:Nat):Rat:=(p[n]?).getD 0
def ct:List Rat→List Rat
 | []=>[]
 |a::t=>match ct t with
  | []=>if a=0 then [] else [a]
  |b::l=>a::b::l
def Nz(p:List Rat):Prop:=p=[]∨cf p (p.length-1)≠0
theorem xL(n:Nat):cf [] n=0:=by simp[cf]
theorem tC(a:Rat)(t:List Rat):cf (a::t) 0=a:=by simp[cf]
theorem qG(a:Rat)(t:List Rat)(n:Nat):cf (a::t) (n+1)=cf t n:=by simp[cf]
theorem fI{p:List Rat}{n:Nat}(h:p.length≤n):cf p n=0:=by unfold cf;rw[List.getElem?_eq_none h];rfl
theorem iV:∀(p:List Rat) (n:Nat),cf (ct p) n=cf p n
 | [],n=>rfl
 |a::t,n=>by
  have ih:=iV t;unfold ct;cases e:ct t with
  |nil=>
   rw[e]at ih;dsimp only;by_cases ha:a=0
   ·rw[if_pos ha];cases n with
    |zero=>rw[xL,tC,ha]
    |succ n=>rw[qG,←ih n,xL,xL]
   ·rw[if_neg ha];cases n with
    |zero=>rw[tC,tC]
    |succ n=>rw[qG,qG,←ih n]
  |cons b l=>
   rw[e]at ih;dsimp only;cases n with
   |zero=>rw[tC,tC]
   |succ n=>rw[qG,qG,ih n]
theorem kH:∀p:List Rat,Nz (ct p)
 | []=>Or.inl rfl
 |a::t=>by
  have ih:=kH t;unfold ct;cases e:ct t with
  |nil=>
   dsimp only;by_cases ha:a=0
   ·rw[if_pos ha];exact Or.inl rfl
   ·rw[if_neg ha];exact Or.inr (by simpa [cf] using ha)
  |cons b l=>
   rw[e]at ih;refine Or.inr ?_;rcases ih with ih|ih
   ·cases ih
   ·dsimp only;rw[show (a::b::l).length-1=((b::l).length-1)+1 by simp,qG];exact ih
theorem xM{p q:List Rat}(hp:Nz p)(h:∀n,cf p n=cf q n):p.length≤q.length:=by
 rcases hp with rfl|hp
 ·exact Nat.zero_le _
 ·rcases Nat.lt_or_ge q.length p.length with hlt|hge
  ·exact absurd ((h _).trans (fI (by omega))) hp
  ·exact hge
theorem vR{p q:List Rat}(hp:Nz p)(hq:Nz q)(h:∀n,cf p n=cf q n):p=q:=by
 have hl:p.length=q.length:=Nat.le_antisymm (xM hp h) (xM hq (fun n=>(h n).symm));refine List.ext_getElem hl (fun i h1 h2=>?_);have:=h i;unfold cf at this;rw[List.getElem?_eq_getElem h1,List.getElem?_eq_getElem h2]at this;exact this
theorem aMN{p:List Rat}(h:Nz p):ct p=p:=vR (kH p) h (iV p)
def mkP(n:Nat)(f:Nat→Rat):List Rat:=(List.range n).map f
theorem dD{n:Nat}{f:Nat→Rat}:(mkP n f).length=n:=by simp[mkP]
theorem aF5{n:Nat}{f:Nat→Rat}(k:Nat):cf (mkP n f) k=if k<n then f k else 0:=by
 unfold cf mkP;split
 ·rename_i h;simp[h]
 ·rename_i h;rw[List.getElem?_eq_none (by simp;omega)];rfl
theorem mkP_cf'{n:Nat}{f:Nat→Rat}(h:∀i,n≤i→f i=0)(k:Nat):cf (mkP n f) k=f k:=by
 rw[aF5];split
 ·rfl
 ·exact (h k (by omega)).symm
def dX(p q:List Rat):List Rat:=ct (mkP (max p.length q.length) fun i=>cf p i+cf q i)
def uO(p q:List Rat):List Rat:=ct (mkP (max p.length q.length) fun i=>cf p i-cf q i)
def aL(p q:List Rat):List Rat:=if ct p=[]∨ct q=[] then [] else mkP ((ct p).length+(ct q).length-1) (cv (cf (ct p)) (cf (ct q)))
def bL(p:List Rat):List Rat:=mkP ((ct p).length-1) fun i=>((i+1:Nat):Rat)*cf p (i+1)
def evP(p:List Rat)(x:Rat):Rat:=p.foldr (fun a s=>s*x+a) 0
theorem tF(p q:List Rat)(n:Nat):cf (dX p q) n=cf p n+cf q n:=by
 unfold dX;rw[iV,mkP_cf' (fun i hi=>by rw[fI (by omega),fI (by omega)];grind)]
theorem aHC(p q:List Rat)(n:Nat):cf (uO p q) n=cf p n-cf q n:=by
 unfold uO;rw[iV,mkP_cf' (fun i hi=>by rw[fI (by omega),fI (by omega)];grind)]
theorem aO2{p q:List Rat}{k:Nat}(h:p.length+q.length≤k+1):cv (cf p) (cf q) k=0:=by
 refine qE _ (fun i hi=>?_);rcases Nat.lt_or_ge i p.length with h1|h1
 ·rw[fI (p:=q) (by omega)];grind
 ·rw[fI (p:=p) h1];grind
theorem iG(p q:List Rat)(n:Nat):cf (aL p q) n=cv (cf p) (cf q) n:=by
 unfold aL;have hc:cv (cf p) (cf q) n=cv (cf (ct p)) (cf (ct q)) n:=qF (fun i=>(iV p i).symm) (fun i=>(iV q i).symm) n;rw[hc];split
 ·rename_i h;rw[xL];rcases h with h|h
  ·rw[h];exact (qE _ (fun i _=>by rw[xL];grind)).symm
  ·rw[h];exact (qE _ (fun i _=>by rw[xL];grind)).symm
 ·rename_i h;exact mkP_cf' (fun i hi=>aO2 (by omega)) n
theorem aQ7{p q:List Rat}(hp:0<p.length)(hq:0<q.length):cv (cf p) (cf q) (p.length+q.length-2)=cf p (p.length-1)*cf q (q.length-1):=by
 unfold cv;have e:p.length+q.length-2+1=(p.length-1)+((q.length-1)+1):=by omega
 rw[e];have split:∀(d a:Nat) (F:Nat→Rat),sm F (a+(d+1))=sm F a+sm (fun i=>F (a+i)) (d+1):=by
  intro d a F
  induction d with
  |zero=>simp only[sm];grind
  |succ d ih=>
   rw[show sm F (a+(d+1+1))=sm F (a+(d+1))+F (a+(d+1)) from rfl,ih];rw[show sm (fun i=>F (a+i)) (d+1+1)=sm (fun i=>F (a+i)) (d+1)+F (a+(d+1)) from rfl];grind
 rw[split,uN];rw[qE (f:=fun i=>cf p i*cf q (p.length+q.length-2-i)) (p.length-1) (fun i hi=>by rw[fI (p:=q) (by omega)];grind)];rw[qE (f:=fun i=>(fun i=>cf p (p.length-1+i)*cf q (p.length+q.length-2-(p.length-1+i))) (i+1)) (q.length-1) (fun i hi=>by
  show cf p (p.length-1+(i+1))*_=0;rw[fI (p:=p) (by omega)];grind)]
 rw[Nat.add_zero,show p.length+q.length-2-(p.length-1)=q.length-1 by omega];grind
theorem tH(p q:List Rat):Nz (aL p q):=by
 unfold aL;split
 ·exact Or.inl rfl
 ·rename_i h;have hp:0<(ct p).length:=by
   rcases Nat.eq_zero_or_pos (ct p).length with e|e
   ·exact absurd (Or.inl (List.eq_nil_of_length_eq_zero e)) h
   ·exact e
  have hq:0<(ct q).length:=by
   rcases Nat.eq_zero_or_pos (ct q).length with e|e
   ·exact absurd (Or.inr (List.eq_nil_of_length_eq_zero e)) h
   ·exact e
  refine Or.inr ?_;rw[dD,aF5,if_pos (by omega),show (ct p).length+(ct q).length-1-1=(ct p).length+(ct q).length-2 by omega,aQ7 hp hq];have h1:cf (ct p) ((ct p).length-1)≠0:=(kH p).resolve_left (fun e=>h (Or.inl e));have h2:cf (ct q) ((ct q).length-1)≠0:=(kH q).resolve_left (fun e=>h (Or.inr e));exact fun e=>(Rat.mul_eq_zero.1 e).elim h1 h2
theorem aHD(p q:List Rat):Nz (dX p q):=kH _
theorem aO3(p q:List Rat):Nz (uO p q):=kH _
theorem aBa(p:List Rat)(n:Nat):cf (bL p) n=((n+1:Nat):Rat)*cf p (n+1):=by
 unfold bL;exact mkP_cf' (fun i hi=>by rw[←iV p,fI (by omega)];grind) n
theorem aO4(p:List Rat):Nz (bL p):=by
 rcases Nat.lt_or_ge 1 (ct p).length with h|h
 ·refine Or.inr ?_;unfold bL;rw[dD,aF5,if_pos (by omega),show (ct p).length-1-1+1=(ct p).length-1 by omega];have h1:cf (ct p) ((ct p).length-1)≠0:=(kH p).resolve_left (fun e=>by rw[e]at h;simp at h);rw[iV]at h1;intro e;rcases Rat.mul_eq_zero.1 e with e|e
  ·have:(((ct p).length-1:Nat):Rat)≠0:=by
    intro e2;have:=Rat.natCast_inj.1 (e2.trans (show (0:Rat)=((0:Nat):Rat) from rfl));omega
   exact this e
  ·exact h1 e
 ·refine Or.inl ?_;unfold bL;rw[show (ct p).length-1=0 by omega];rfl
theorem aCO(x:Rat):∀p:List Rat,evP p x=sm (fun i=>cf p i*x^i) p.length
 | []=>rfl
 |a::t=>by
  rw[List.length_cons,uN];have ih:=aCO x t;unfold evP at ih⊢;rw[List.foldr_cons,ih,←sW];have e:sm (fun i=>cf t i*x^i*x) t.length=sm (fun i=>cf (a::t) (i+1)*x^(i+1)) t.length:=dH (fun i _=>by
    rw[qG,Rat.pow_succ];grind)
  rw[e,tC,Rat.pow_zero];grind
theorem uP{p:List Rat}{n:Nat}(x:Rat)(h:p.length≤n):evP p x=sm (fun i=>cf p i*x^i) n:=by
 rw[aCO,show n=p.length+(n-p.length) by omega,sZ (n-p.length) (fun i hi=>by rw[fI hi];grind)]
theorem aKX{p q:List Rat}(x:Rat)(h:∀n,cf p n=cf q n):evP p x=evP q x:=by
 rw[uP (n:=max p.length q.length) x (Nat.le_max_left _ _),uP (p:=q) (n:=max p.length q.length) x (Nat.le_max_right _ _)];exact dH (fun i _=>by rw[h])
theorem aO5(p q:List Rat)(x:Rat):evP (aL p q) x=evP p x*evP q x:=by
 have hl:(aL p q).length≤p.length+q.length:=by
  have h1:=xM (kH p) (iV p);have h2:=xM (kH q) (iV q);unfold aL;split
  ·exact Nat.zero_le _
  ·rw[dD];omega
 rw[uP x hl,aCO x p,aCO x q,←aO1 x (fun i hi=>fI hi) (fun i hi=>fI hi)];exact dH (fun i _=>by rw[iG])
theorem aO6(p q:List Rat)(x:Rat):evP (dX p q) x=evP p x+evP q x:=by
 have hl:(dX p q).length≤max p.length q.length:=by
  have:=xM (kH (mkP (max p.length q.length) fun i=>cf p i+cf q i)) (iV _);rw[dD]at this;exact this
 rw[uP x hl,uP (p:=p) (n:=max p.length q.length) x (Nat.le_max_left _ _),uP (p:=q) (n:=max p.length q.length) x (Nat.le_max_right _ _),←aAt];exact dH (fun i _=>by rw[tF];grind)
theorem aKY(p q:List Rat):aL p q=aL q p:=vR (tH _ _) (tH _ _) (fun n=>by rw[iG,iG,aO0])
theorem aIX(p q r:List Rat):aL (aL p q) r=aL p (aL q r):=vR (tH _ _) (tH _ _) (fun n=>by
 rw[iG,iG,qF (fun i=>iG p q i) (fun _=>rfl),aML,qF (fun _=>rfl) (fun i=>(iG q r i).symm)])
theorem aKZ(p q r:List Rat):aL (dX p q) r=dX (aL p r) (aL q r):=vR (tH _ _) (aHD _ _) (fun n=>by
 rw[iG,tF,iG,iG,qF (fun i=>tF p q i) (fun _=>rfl),aQ6])
theorem aMO(p q:List Rat):uO (dX p q) q=ct p:=vR (aO3 _ _) (kH _) (fun n=>by rw[aHC,tF,iV];grind)
theorem aBK(p q:List Rat):bL (aL p q)=dX (aL (bL p) q) (aL p (bL q)):=vR (aO4 _) (aHD _ _) (fun n=>by
 rw[aBa,tF,iG,iG,iG,aMM,qF (fun i=>(aBa p i).symm) (fun _=>rfl),qF (f:=cf p) (fun _=>rfl) (fun i=>(aBa q i).symm)])
theorem aMP{p q:List Rat}(hp:ct p≠[])(hq:ct q≠[]):(aL p q).length=(ct p).length+(ct q).length-1:=by
 unfold aL;rw[if_neg (fun h=>h.elim hp hq),dD]
end Go.Proofs.YthjhkhlafhjjmaaGreatDoor.Po
namespace Go.Proofs.YthjhkhlafhjjmaaGreatDoor.K
open Go.RowKit
open Ma Me
def Tq(w:World)(v0 v1 v2:Value)(x:Rat):Prop:=Sh [.b,.s,.s] [v0,v1,v2]∧Nq w (.agg #[v0,v1,v2]) x
section
variable {w w':World} {v0 v1 v2:Value} {x:Rat} {g:Nat}
theorem Tq.q(h:Tq w v0 v1 v2 x)(hq:Q w w'):Tq w' v0 v1 v2 x:=⟨h.1,h.2.q hq⟩
theorem Tq.ap(h:Tq w v0 v1 v2 x)(ha:Ap w w' g):Tq w' v0 v1 v2 x:=by
 obtain⟨t,b,h1,h2,h3⟩:=h.2;exact⟨h.1,t,b,h1,ha.nm h2,ha.nm h3⟩
theorem Tq.of{v:Value}(h:Nq w v x):∃v0 v1 v2,v=.agg #[v0,v1,v2]∧Tq w v0 v1 v2 x:=by
 obtain⟨s,A1,n1,c1,A2,n2,c2,rfl,-⟩:=Nq.form h;exact⟨_,_,_,rfl,⟨⟨_,rfl⟩,⟨_,_,_,rfl⟩,⟨_,_,_,rfl⟩,trivial⟩,h⟩
theorem Tq.zero:Tq w (.bool false) (.slice none 0 0) (.slice none 0 0) 0:=by
 refine⟨⟨⟨_,rfl⟩,⟨_,_,_,rfl⟩,⟨_,_,_,rfl⟩,trivial⟩,_,_,rfl,?_,?_⟩
 ·exact Nm.zero _ _
 ·exact Nm.zero _ _
end
def Lq(w:World)(A:Option Addr)(xs:List Rat):Prop:=
 0<xs.length→∃b o,A=some ⟨b,o,none⟩∧b<w.heap.size∧∀(j:Nat) (x:Rat),xs[j]? =some x→
  ∃v0 v1 v2,w.cell? ⟨b,o+j*3,none⟩=some v0∧w.cell? ⟨b,o+j*3+1,none⟩=some v1∧w.cell? ⟨b,o+j*3+2,none⟩=some v2∧Tq w v0 v1 v2 x
section
variable {w w':World} {A:Option Addr} {xs:List Rat}
theorem Lq.nil:Lq w A []:=fun h=>absurd h (by simp)
theorem Lq.q(h:Lq w A xs)(hq:Q w w'):Lq w' A xs:=fun hn=>by
 obtain⟨b,o,e,hb,hc⟩:=h hn;refine⟨b,o,e,Nat.lt_of_lt_of_le hb hq.size,fun j x hx=>?_⟩;obtain⟨v0,v1,v2,h0,h1,h2,h3⟩:=hc j x hx;exact⟨v0,v1,v2,(hq.cell hb).trans h0,(hq.cell hb).trans h1,(hq.cell hb).trans h2,h3.q hq⟩
theorem Lq.at_{k:Nat}(h:Lq w A xs)(hk:k<xs.length):∃b o,A=some ⟨b,o,none⟩∧b<w.heap.size∧
  ∃v0 v1 v2,w.cell? ⟨b,o+k*3,none⟩=some v0∧w.cell? ⟨b,o+k*3+1,none⟩=some v1∧w.cell? ⟨b,o+k*3+2,none⟩=some v2∧Tq w v0 v1 v2 xs[k]:=by
 obtain⟨b,o,e,hb,hc⟩:=h (by omega);exact⟨b,o,e,hb,hc k _ (List.getElem?_eq_getElem hk)⟩
theorem Lq.take(h:Lq w A xs)(k:Nat):Lq w A (xs.take k):=fun hn=>by
 rw[List.length_take]at hn;obtain⟨b,o,e,hb,hc⟩:=h (by omega);refine⟨b,o,e,hb,fun j x hx=>hc j x ?_⟩;rw[List.getElem?_take]at hx;split at hx
 ·exact hx
 ·cases hx
end
def Nl(w:World)(v:Value)(xs:List Rat):Prop:=∃A c,v=.slice A xs.length c∧xs.length≤c∧Lq w A xs
theorem Nl.q{w w':World}{v:Value}{xs:List Rat}(h:Nl w v xs)(hq:Q w w'):Nl w' v xs:=by
 obtain⟨A,c,h1,h2,h3⟩:=h;exact⟨A,c,h1,h2,h3.q hq⟩
theorem Nl.nil{w:World}{A:Option Addr}{c:Nat}:Nl w (.slice A 0 c) []:=⟨A,c,rfl,Nat.zero_le _,Lq.nil⟩
theorem Nl.take{w:World}{A:Option Addr}{n c k:Nat}{xs:List Rat}(h:Nl w (.slice A n c) xs)(hk:k≤n):Nl w (.slice A k c) (xs.take k):=by
 obtain⟨A',c',h1,h2,h3⟩:=h;injection h1 with e1 e2 e3;subst e1;subst e3;have hl:(xs.take k).length=k:=by rw[List.length_take];omega
 exact⟨A,c,by rw[hl],by rw[hl];omega,h3.take k⟩
def Lr(w:World):List Value→List Rat→Prop
 | [],[]=>True
 |v0::v1::v2::r,x::xs=>Tq w v0 v1 v2 x∧Lr w r xs
 |_,_=>False
section
variable {w w':World} {g:Nat}
theorem Lr.q:∀{r:List Value} {xs:List Rat},Lr w r xs→Q w w'→Lr w' r xs
 | [],[],_,_=>trivial
 |_::_::_::_,_::_,h,hq=>⟨h.1.q hq,Lr.q h.2 hq⟩
theorem Lr.ap:∀{r:List Value} {xs:List Rat},Lr w r xs→Ap w w' g→Lr w' r xs
 | [],[],_,_=>trivial
 |_::_::_::_,_::_,h,ha=>⟨h.1.ap ha,Lr.ap h.2 ha⟩
theorem Lr.len:∀{r:List Value} {xs:List Rat},Lr w r xs→r.length=xs.length*3
 | [],[],_=>rfl
 |_::_::_::_,_::_,h=>by simp only[List.length_cons,Lr.len h.2];omega
theorem Lr.no:∀{r:List Value} {xs:List Rat},Lr w r xs→∀y∈r,∀z,y≠.int .u64 z
 | [],[],_,_,h,_=>by cases h
 |v0::v1::v2::r,_::_,h,y,hy,z=>by
  rcases (by simpa [or_assoc] using hy:y=v0∨y=v1∨y=v2∨y∈r) with e|e|e|e
  ·exact Sh.no h.1.1 y (by simp[e]) z
  ·exact Sh.no h.1.1 y (by simp[e]) z
  ·exact Sh.no h.1.1 y (by simp[e]) z
  ·exact Lr.no h.2 y e z
theorem Lr.at_:∀{r:List Value} {xs:List Rat} {j:Nat} {x:Rat},Lr w r xs→xs[j]? =some x→∃v0 v1 v2,r[j*3]? =some v0∧r[j*3+1]? =some v1∧r[j*3+2]? =some v2∧Tq w v0 v1 v2 x
 | [],[],j,_,_,h=>by simp at h
 |v0::v1::v2::r,y::xs,0,x,h,hx=>by
  simp at hx;subst hx;exact⟨v0,v1,v2,rfl,rfl,rfl,h.1⟩
 |v0::v1::v2::r,y::xs,j+1,x,h,hx=>by
  obtain⟨u0,u1,u2,h0,h1,h2,h3⟩:=Lr.at_ (j:=j) h.2 (by simpa using hx);refine⟨u0,u1,u2,?_,?_,?_,h3⟩
  ·rw[show (j+1)*3=j*3+3 from by omega];simpa using h0
  ·rw[show (j+1)*3+1=j*3+1+3 from by omega];simpa using h1
  ·rw[show (j+1)*3+2=j*3+2+3 from by omega];simpa using h2
def set3(r:List Value)(j:Nat)(v0 v1 v2:Value):List Value:=((r.set (j*3) v0).set (j*3+1) v1).set (j*3+2) v2
theorem Lr.set{v0 v1 v2:Value}{x:Rat}(ht:Tq w v0 v1 v2 x):∀{r:List Value} {xs:List Rat} {j:Nat},Lr w r xs→Lr w (set3 r j v0 v1 v2) (xs.set j x)
 | [],[],_,_=>by simp[set3,Lr]
 |_::_::_::r,_::xs,0,h=>⟨ht,h.2⟩
 |u0::u1::u2::r,y::xs,j+1,h=>by
  have h1:=Lr.set ht (j:=j) h.2;have e:set3 (u0::u1::u2::r) (j+1) v0 v1 v2=u0::u1::u2::set3 r j v0 v1 v2:=by
    unfold set3;rw[show (j+1)*3=j*3+1+1+1 from by omega];simp only[List.set_cons_succ]
  rw[e];exact⟨h.1,h1⟩
theorem Lr.zeros:∀n:Nat,Lr w ((List.replicate n [Value.bool false,.slice none 0 0,.slice none 0 0]).flatten) (List.replicate n 0)
 |0=>trivial
 |n+1=>⟨Tq.zero,Lr.zeros n⟩
theorem Lr.lq{t:TypeId}{r:List Value}{xs:List Rat}(h:Lr w r xs)(hb:Bx w g t r):Lq w (some ⟨g,0,none⟩) xs:=fun _=>
 ⟨g,0,rfl,hb.lt,fun j x hx=>by
  obtain⟨v0,v1,v2,h0,h1,h2,h3⟩:=h.at_ hx;rw[Nat.zero_add];exact⟨v0,v1,v2,hb.cell _ h0,hb.cell _ h1,hb.cell _ h2,h3⟩⟩
theorem Lr.nl{t:TypeId}{r:List Value}{xs:List Rat}{k c:Nat}(h:Lr w r xs)(hb:Bx w g t r)(hk:k≤xs.length)(hc:k≤c):Nl w (.slice (some ⟨g,0,none⟩) k c) (xs.take k):=by
 have hl:(xs.take k).length=k:=by rw[List.length_take];omega
 exact⟨_,c,by rw[hl],by rw[hl];exact hc,(h.lq hb).take k⟩
end
end Go.Proofs.YthjhkhlafhjjmaaGreatDoor.K
namespace Go.Proofs.YthjhkhlafhjjmaaGreatDoor.K
open Go.RowKit
open Ma Me Po
theorem aD0{xs:List Rat}{n:Nat}(hn:n≤xs.length)(h0:∀i,n≤i→cf xs i=0)(h1:n=0∨cf xs (n-1)≠0):(ct xs).length=n:=by
 have e:ct xs=xs.take n:=by
  refine vR (kH xs) ?_ (fun k=>?_)
  ·rcases h1 with rfl|h1
   ·exact Or.inl rfl
   ·refine Or.inr ?_;rw[List.length_take,Nat.min_eq_left hn];have:cf (xs.take n) (n-1)=cf xs (n-1):=by
     unfold cf;rw[List.getElem?_take];split
     ·rfl
     ·by_cases hz:n=0
      ·subst hz;exact absurd (h0 0 (Nat.le_refl _)) (by simpa using h1)
      ·omega
    rw[this];exact h1
  ·rw[iV];by_cases hk:k<n
   ·unfold cf;rw[List.getElem?_take,if_pos hk]
   ·rw[h0 k (by omega)];unfold cf;rw[List.getElem?_take,if_neg hk];rfl
 rw[e,List.length_take,Nat.min_eq_left hn]
end Go.Proofs.YthjhkhlafhjjmaaGreatDoor.K
namespace Go.Proofs.YthjhkhlafhjjmaaGreatDoor.E
open Go Go.RowKit
open Ma Me K Go.Proofs.YthjhkhlafhjjmaaGreatDoor.Po
section
variable {W0:World} {g:H}
theorem gP(xs:List Rat):(ct xs).length≤xs.length:=xM (kH xs) (fun n=>iV xs n)
theorem aHE{xs:List Rat}{n i:Nat}(hi:i<n):cf (xs.take n) i=cf xs i:=by unfold cf;rw[List.getElem?_take,if_pos hi]
theorem aMQ{xs:List Rat}{n i:Nat}(hi:n≤i):cf (xs.take n) i=0:=by unfold cf;rw[List.getElem?_take,if_neg (by omega)];rfl
theorem aDv(xs:List Rat):xs.take (ct xs).length=ct xs:=by
 have hle:=gP xs;have hl:(xs.take (ct xs).length).length=(ct xs).length:=by rw[List.length_take];omega
 refine vR ?_ (kH xs) fun k=>?_
 ·rcases kH xs with h1|h1
  ·exact .inl (List.eq_nil_of_length_eq_zero (by rw[hl,h1];rfl))
  ·by_cases h0:(ct xs).length=0
   ·exact .inl (List.eq_nil_of_length_eq_zero (by omega))
   ·refine .inr ?_;rw[hl,aHE (by omega),←iV];exact h1
 ·by_cases hk:k<(ct xs).length
  ·rw[aHE hk,iV]
  ·rw[aMQ (by omega),fI (by omega)]
theorem oU{v:AV}{xs:List Rat}(hb:g.bar≤g.n)(hl:IsL [] g v xs)(hn:xs.length<1000000)(hz:∀x∈xs,Ma.sz x≤aX):
  Xc (F2 W0) 13 [v] g fun u h'=>u=sc (.i .i64 (((ct xs).length:Int)-1))∧Xh g h':=by
 refine jL Tryz.func13 rfl (by kernel_rfl) (by kernel_rfl) (s:=[(0,v)]) rfl (kn1 rfl kn0) (lI hl mV) fun β e eβ hS=>?_;have hβ:β≤g.n:=by omega
 refine aS ?_;refine aA rfl rfl rfl (bK hS rfl (hS.pk fun e hS=>?_));refine aG ?_;refine aS ?_;refine aA rfl rfl rfl (aM hS rfl (hS.pk fun e hS=>?_));refine aA rfl rfl rfl (fK hS tiL rfl rfl (by repeat constructor) (hS.pk fun e hS=>?_));refine aA rfl rfl rfl (bK hS rfl (hS.pk fun e hS=>?_));refine aG ?_;refine bF (dC (Xw.mono (Q:=fun x e h'=>x=.x 0∧∃n,n=(ct xs).length∧St β g e [(0,v),(3,sc (.i .i64 (n:Int)))] h' [] [(v,xs)] []) (kK (fun n e h'=>n≤xs.length∧(∀i,n≤i→cf xs i=0)∧St β g e [(0,v),(3,sc (.i .i64 (n:Int)))] h' [] [(v,xs)] []) ?_ xs.length _ _ ⟨Nat.le_refl _,fun i hi=>fI hi,hS.inv _ [] ⟨rfl,rfl,trivial⟩ (List.Sublist.refl _)⟩) ?_))
 ·rintro n e h1 ⟨hle,hzero,hS⟩;refine bF (bF ?_);rcases Nat.eq_zero_or_pos n with h0|h0
  ·subst h0;refine dO ?_;refine aA rfl rfl rfl (aM hS rfl (hS.pk fun e hS=>?_));refine aA rfl rfl rfl (aT hS tiI rfl rfl rfl (aIl (by omega)) (hS.pk fun e hS=>?_));refine bJ [0,0,0,0,0,0,0,0,0] ty0 hS rfl ⟨⟩ fun e hS=>?_;refine aG ?_;refine bD (aN hS.k rfl) (fun q=>by cases q) fun _=>?_;refine jC ?_;exact⟨rfl,0,(aD0 (Nat.zero_le _) hzero (.inl rfl)).symm,hS.inv _ [] ⟨rfl,rfl,trivial⟩ (List.Sublist.refl _)⟩
  ·obtain⟨m,rfl⟩:∃m,n=m+1:=⟨n-1,by omega⟩
   have hx:xs[m]? =some (xs[m]'(by omega)):=List.getElem?_eq_getElem (by omega);have hsz:=hz _ (List.getElem_mem (l:=xs) (n:=m) (by omega));have hcf:cf xs m=xs[m]'(by omega):=(by unfold cf;rw[hx];rfl);generalize xs[m]'(by omega)=x at hx hsz hcf;by_cases hx0:x=0
   ·have hsn:sn x=0:=(by rw[hx0];rfl);refine dO ?_;refine aA rfl rfl rfl (aM hS rfl (hS.pk fun e hS=>?_));refine aA rfl rfl rfl (aT hS tiI rfl rfl rfl (aEl (by omega)) (hS.pk fun e hS=>?_));refine bJ [0,0,0] ty0 hS rfl ⟨⟩ fun e hS=>?_;refine aK (aF (b:=true) hS rfl rfl rfl) rfl rfl (aT hS tiI rfl rfl rfl (qK (by omega) (by omega)) (hS.pk fun e hS=>?_));refine aK (aF (b:=true) hS rfl rfl rfl) rfl rfl (pQ (j:=m) hS tiL rfl szN rfl (by repeat constructor) rfl (by omega) hx fun pv hS=>(hS.pk fun e hS=>?_));refine aK (aF (b:=true) hS rfl rfl rfl) rfl rfl (mG hS tiN rfl rfl rfl (by repeat constructor) (hS.pk fun e hS=>?_));refine aK (aF (b:=true) hS rfl rfl rfl) rfl rfl (aV hS rfl (aKQ hsz (hS.pk fun e hS=>?_)));refine aK (aF (b:=true) hS rfl rfl rfl) rfl rfl (aT hS tiI rfl rfl rfl (aAU hsn) (hS.pk fun e hS=>?_));refine aA rfl rfl rfl (jP hS rfl rfl (hS.pk fun e hS=>?_));refine aG ?_;refine bD (aN hS.k rfl) (fun _=>?_) fun q=>(by cases q);refine dY ?_;refine dC ?_;refine dO ?_;refine aA rfl rfl rfl (aM hS rfl (hS.pk fun e hS=>?_));refine aA rfl rfl rfl (aT hS tiI rfl rfl rfl (qK (by omega) (by omega)) (hS.pk fun e hS=>?_));refine aA rfl rfl rfl (bK hS rfl (hS.pk fun e hS=>?_));refine aG ?_;have hv:((m+1:Nat):Int)-1=(m:Int):=(by omega);rw[hv]at hS;exact⟨m,by omega,by omega,fun i hi=>by rcases Nat.eq_or_lt_of_le hi with rfl|hi;exact hcf.trans hx0;exact hzero i hi,hS.inv _ [] ⟨rfl,rfl,trivial⟩ (List.Sublist.refl _)⟩
   ·have hsn:¬sn x=0:=by unfold sn;split<;>(try split)<;>simp_all
    refine dO ?_;refine aA rfl rfl rfl (aM hS rfl (hS.pk fun e hS=>?_));refine aA rfl rfl rfl (aT hS tiI rfl rfl rfl (aEl (by omega)) (hS.pk fun e hS=>?_));refine bJ [0,0,0] ty0 hS rfl ⟨⟩ fun e hS=>?_;refine aK (aF (b:=true) hS rfl rfl rfl) rfl rfl (aT hS tiI rfl rfl rfl (qK (by omega) (by omega)) (hS.pk fun e hS=>?_));refine aK (aF (b:=true) hS rfl rfl rfl) rfl rfl (pQ (j:=m) hS tiL rfl szN rfl (by repeat constructor) rfl (by omega) hx fun pv hS=>(hS.pk fun e hS=>?_));refine aK (aF (b:=true) hS rfl rfl rfl) rfl rfl (mG hS tiN rfl rfl rfl (by repeat constructor) (hS.pk fun e hS=>?_));refine aK (aF (b:=true) hS rfl rfl rfl) rfl rfl (aV hS rfl (aKQ hsz (hS.pk fun e hS=>?_)));refine aK (aF (b:=true) hS rfl rfl rfl) rfl rfl (aT hS tiI rfl rfl rfl (aCm hsn) (hS.pk fun e hS=>?_));refine aA rfl rfl rfl (jP hS rfl rfl (hS.pk fun e hS=>?_));refine aG ?_;refine bD (aN hS.k rfl) (fun q=>by cases q) fun _=>?_;refine jC ?_;exact⟨rfl,m+1,(aD0 hle hzero (.inr (by rw[Nat.add_sub_cancel,hcf];exact hx0))).symm,hS.inv _ [] ⟨rfl,rfl,trivial⟩ (List.Sublist.refl _)⟩
 ·rintro x e h1 ⟨rfl,n,rfl,hS⟩;show Xw (F2 W0) _ _ _ e h1 _;have hlen:=gP xs;refine aS ?_;refine aA rfl rfl rfl (aM hS rfl (hS.pk fun e hS=>?_));refine aA rfl rfl rfl (aT hS tiI rfl rfl rfl (qK (by omega) (by omega)) (hS.pk fun e hS=>?_));refine aA rfl rfl rfl (bK hS rfl (hS.pk fun e hS=>?_));refine aG ?_;refine fJ ⟨_,leave1 hS (.inr rfl) rfl rfl,rfl,?_⟩;rw[eβ]at hS;exact hS.out
theorem aCP{v:AV}{xs:List Rat}(hb:g.bar≤g.n)(hl:IsL [] g v xs)(hn:xs.length<1000000)(hz:∀x∈xs,Ma.sz x≤aX):
  Xc (F2 W0) 36 [v] g fun u h'=>Xh g h'∧Ct v u (ct xs).length:=by
 refine jL Tryz.func36 rfl (by kernel_rfl) (by kernel_rfl) (s:=[(0,v)]) rfl (kn1 rfl kn0) (lI hl mV) fun β e eβ hS=>?_;have hβ:β≤g.n:=by omega
 have hlen:=gP xs;refine aS ?_;refine aA rfl rfl rfl (bK hS rfl (hS.pk fun e hS=>?_));refine aG ?_;refine aS ?_;refine bJ [0,0] ty0 hS rfl ⟨⟩ fun e hS=>?_;refine aA rfl rfl rfl (aV hS rfl ((oU (xs:=xs) (hS.bl (by have:=hS.n;omega)) (hS.ls _ (.head _)).nil hn hz).mono fun u h hq=>?_));obtain⟨rfl,hx⟩:=hq;have hS:=hS.xh hx;refine hS.pk fun e hS=>?_;refine aA rfl rfl rfl (aT hS tiI rfl rfl rfl (iJ (by omega) (by omega)) (hS.pk fun e hS=>?_));refine aA rfl rfl rfl (aSB (n:=(ct xs).length) hS tiL rfl szN rfl (by repeat constructor) rfl (by omega) (by omega) fun v4 hct hS=>(hS.pk fun e hS=>?_));refine aA rfl rfl rfl (bK hS rfl (hS.pk fun e hS=>?_));refine aG ?_;obtain⟨sv,hsv⟩:∃sv,v4=sc sv:=by
  rcases hct with⟨-,h2⟩|⟨id,len,cap,-,h2⟩<;>exact⟨_,h2⟩
 subst hsv;rw[eβ]at hS;exact fJ ⟨_,leave1 hS (.inr rfl) rfl rfl,hS.out,hct⟩
theorem aBb{h:H}{ws:List (Nat × B)}{v u:AV}{xs:List Rat}(hl:IsL ws h v xs)(hc:Ct v u (ct xs).length):IsL ws h u (ct xs):=by
 have:=hl.ct (gP xs) hc;rw[aDv]at this;exact this
theorem aO7{h0 h:H}{v u:AV}{xs:List Rat}(hl:IsF h0 h v xs)(hc:Ct v u (ct xs).length):IsF h0 h u (ct xs):=by
 have:=hl.ct (gP xs) hc;rw[aDv]at this;exact this
theorem aQ8{h0 h h1:H}{v:AV}{xs:List Rat}(hl:IsF h0 h v xs)(x:Xh h h1):IsF h0 h1 v xs:=by
 rcases hl with hl|⟨id,cap,c,q1,q2,q3,q4,q5,q6⟩
 ·exact .inl hl
 ·exact .inr ⟨id,cap,c,q1,q2,(x.o id q5).trans q3,q4,Nat.lt_of_lt_of_le q5 x.n,q6⟩
theorem yR{v:AV}{xs:List Rat}{i:Nat}(hb:g.bar≤g.n)(hl:IsL [] g v xs):
  Xc (F2 W0) 99 [v,sc (.i .i64 (i:Int))] g fun u h'=>u=nm (cf xs i)∧Xh g h':=by
 refine jL Tryz.func99 rfl (by kernel_rfl) (by kernel_rfl) (s:=[(0,v),(1,sc (.i .i64 (i:Int)))]) rfl (kn1 rfl (kn1 rfl kn0)) (lI hl mV) fun β e eβ hS=>?_;have hβ:β≤g.n:=by omega
 refine aS ?_;refine aA rfl rfl rfl (fU hS tiN fun id0 h hS=>(hS.pk fun e hS=>?_));refine aG ?_;refine bF (bF (dO ?_));by_cases hi:i<xs.length
 ·have hx:xs[i]? =some (xs[i]'hi):=List.getElem?_eq_getElem hi;have hcf:cf xs i=xs[i]'hi:=(by unfold cf;rw[hx];rfl);generalize xs[i]'hi=x at hx hcf;subst hcf;refine bJ [0,0] ty0 hS rfl ⟨⟩ fun e hS=>?_;refine aA rfl rfl rfl (fK hS tiL rfl rfl (by repeat constructor) (hS.pk fun e hS=>?_));refine aA rfl rfl rfl (aT hS tiI rfl rfl rfl (oJ (by omega)) (hS.pk fun e hS=>?_));refine aG ?_;refine bD (aN hS.k rfl) (fun _=>?_) fun q=>(by cases q);refine aS ?_;refine bJ [0,0] ty0 hS rfl ⟨⟩ fun e hS=>?_;refine aA rfl rfl rfl (pQ (j:=i) hS tiL rfl szN rfl (by repeat constructor) rfl (by omega) hx fun pv hS=>(hS.pk fun e hS=>?_));refine aA rfl rfl rfl (mG hS tiN rfl rfl rfl (by repeat constructor) (hS.pk fun e hS=>?_));refine fO rfl rfl (jX (j:=0) hS hβ szN rfl rfl rfl rfl rfl rfl fun h hS=>?_);refine aG ?_;rw[eβ]at hS;exact fJ ⟨_,aCn (j:=0) hS (.inr rfl) rfl rfl tiN rfl rfl rfl,rfl,hS.out⟩
 ·have hcf:cf xs i=0:=fI (by omega);rw[hcf];refine bJ [0,0] ty0 hS rfl ⟨⟩ fun e hS=>?_;refine aA rfl rfl rfl (fK hS tiL rfl rfl (by repeat constructor) (hS.pk fun e hS=>?_));refine aA rfl rfl rfl (aT hS tiI rfl rfl rfl (qL (by omega)) (hS.pk fun e hS=>?_));refine aG ?_;refine bD (aN hS.k rfl) (fun q=>by cases q) fun _=>?_;refine dY ?_;refine aS ?_;refine aA rfl rfl rfl (aDb hS tiN rfl aSK rfl (hS.pk fun e hS=>?_));refine fO rfl rfl (jX (j:=0) hS hβ szN rfl rfl rfl rfl rfl rfl fun h hS=>?_);refine aG ?_;rw[eβ]at hS;exact fJ ⟨_,aCn (j:=0) hS (.inr rfl) rfl rfl tiN rfl rfl rfl,rfl,hS.out⟩
end
end Go.Proofs.YthjhkhlafhjjmaaGreatDoor.E
namespace Go.Proofs.YthjhkhlafhjjmaaGreatDoor.Po
open Ma Me
theorem aQ9{a b m:Nat}(ha:dg W64 a≤m)(hb:dg W64 b≤m):dg W64 (a+b)≤m+1:=by
 rw[aU aD]at ha hb⊢;rw[Nat.pow_succ];have:2≤W64:=by decide
 have:=Nat.mul_le_mul_left (W64^m) this;omega
theorem aRa(x y:Rat):dg W64 (x+y).den≤dg W64 x.den+dg W64 y.den∧∀m,dg W64 x.num.natAbs+dg W64 y.den≤m→dg W64 y.num.natAbs+dg W64 x.den≤m→dg W64 (x+y).num.natAbs≤m+1:=by
 obtain⟨h1,h2,-,-,h5,-⟩:=wG (x:=x) (y:=y) rfl rfl rfl rfl rfl;rw[h1,h2,Int.natAbs_ediv_of_dvd h5];simp only[Int.natAbs_natCast];generalize Nat.gcd x.den y.den=d;generalize hg:Nat.gcd (x.num*((y.den/d:Nat):Int)+y.num*((x.den/d:Nat):Int)).natAbs d=c;have a1:(x.num*((y.den/d:Nat):Int)+y.num*((x.den/d:Nat):Int)).natAbs≤x.num.natAbs*(y.den/d)+y.num.natAbs*(x.den/d):=by
  have:=Int.natAbs_add_le (x.num*((y.den/d:Nat):Int)) (y.num*((x.den/d:Nat):Int))
  rwa [Int.natAbs_mul,Int.natAbs_mul,Int.natAbs_natCast,Int.natAbs_natCast]at this
 have a2:=fG aD (Nat.le_trans (Nat.div_le_self _ c) a1);have a4:=eO aD x.num.natAbs (y.den/d);have a5:=eO aD y.num.natAbs (x.den/d);have a6:=fG aD (Nat.div_le_self x.den d);have a7:=fG aD (Nat.div_le_self y.den d);have a8:=eO aD (x.den/d) (y.den/c);have a9:=fG aD (Nat.div_le_self y.den c);exact⟨by omega,fun m hx hy=>Nat.le_trans a2 (aQ9 (m:=m) (by omega) (by omega))⟩
theorem aNt{f:Nat→Rat}{B:Nat}:∀n:Nat,(∀i,i<n→sz (f i)≤B)→dg W64 (sm f n).den≤n*B+1∧dg W64 (sm f n).num.natAbs≤n*B+B+n+1
 |0,_=>by
  have h1:(sm f 0).den=1:=rfl;have h2:(sm f 0).num.natAbs=0:=rfl;rw[h1,h2,gQ aD,bT];omega
 |n+1,h=>by
  obtain⟨i1,i2⟩:=aNt n (fun i hi=>h i (by omega));have hb:=h n (by omega);have h1:=aPx (f n);have h2:=aJo (f n);have e:=jA (f n);obtain⟨j1,j2⟩:=aRa (sm f n) (f n);have hm:(n+1)*B=n*B+B:=Nat.succ_mul n B;rw[show sm f (n+1)=sm f n+f n from rfl,hm];exact⟨by omega,by have:=j2 (n*B+B+B+n+1) (by omega) (by omega);omega⟩
theorem aEu{f:Nat→Rat}{B n:Nat}(h:∀i,i<n→sz (f i)≤B):sz (sm f n)≤2*(n*B)+B+n+2:=by
 obtain⟨h1,h2⟩:=aNt n h;rw[←jA];omega
def Sz(B:Nat)(p:List Rat):Prop:=∀i,sz (cf p i)≤B
theorem aSk{f g:Nat→Rat}{A B k:Nat}(hf:∀i,sz (f i)≤A)(hg:∀i,sz (g i)≤B):sz (cv f g k)≤2*((k+1)*(A+B))+(A+B)+(k+1)+2:=
 aEu (fun i _=>Nat.le_trans (kJ _ _) (Nat.add_le_add (hf i) (hg _)))
theorem aO8{p q:List Rat}{A B n:Nat}(hp:Sz A p)(hq:Sz B q)(hl:(ct p).length+(ct q).length≤n):Sz (2*(n*(A+B))+(A+B)+n+2) (aL p q):=by
 intro i;rcases Nat.lt_or_ge i n with h|h
 ·rw[iG];refine Nat.le_trans (aSk hp hq) ?_;have h1:(i+1)*(A+B)≤n*(A+B):=Nat.mul_le_mul_right _ h;omega
 ·have:cf (aL p q) i=0:=fI (by
   unfold aL;split
   ·exact Nat.zero_le _
   ·rw[dD];omega)
  rw[this];have:sz (0:Rat)≤2:=nX 0 (by decide);omega
end Go.Proofs.YthjhkhlafhjjmaaGreatDoor.Po
namespace Go.Proofs.YthjhkhlafhjjmaaGreatDoor.E
open Go Go.RowKit
open Ma Me K Go.Proofs.YthjhkhlafhjjmaaGreatDoor.Po
section
variable {W0:World} {g:H}
def pf(n i:Nat)(f:Nat→Rat):List Rat:=mkP n fun k=>if k<i then f k else 0
theorem xN{n:Nat}{f:Nat→Rat}{k:Nat}(hk:k<n):(mkP n f)[k]? =some (f k):=by
 unfold mkP;rw[List.getElem?_map,List.getElem?_range hk];rfl
theorem aHF{n k:Nat}{f g:Nat→Rat}{x:Rat}(hx:k<n→g k=x)(hg:∀j,j<n→j≠k→g j=f j):(mkP n f).set k x=mkP n g:=by
 apply List.ext_getElem?;intro j;rw[List.getElem?_set];by_cases hj:j<n
 ·by_cases hk:k=j
  ·subst hk;rw[if_pos rfl,if_pos (by rw[dD];exact hj),xN hj,hx hj]
  ·rw[if_neg hk,xN hj,xN hj,hg j hj (fun q=>hk q.symm)]
 ·have e:∀f':Nat→Rat,(mkP n f')[j]? =none:=fun f'=>List.getElem?_eq_none (by rw[dD];omega);rw[e,e];split
  ·rw[if_neg (by rw[dD];omega)]
  ·rfl
theorem nU{n:Nat}{f g:Nat→Rat}(h:∀k,k<n→f k=g k):mkP n f=mkP n g:=List.map_congr_left fun k hk=>h k (List.mem_range.1 hk)
theorem aF6{n:Nat}:mkP n (fun _=>0)=List.replicate n 0:=by
 apply List.ext_getElem?;intro j;by_cases hj:j<n
 ·rw[xN hj,List.getElem?_replicate,if_pos hj]
 ·rw[List.getElem?_eq_none (by rw[dD];omega),List.getElem?_eq_none (by rw[List.length_replicate];omega)]
theorem aDw{n:Nat}{f:Nat→Rat}:pf n 0 f=List.replicate n 0:=aF6
theorem aF7{n i:Nat}{f:Nat→Rat}:(pf n i f).length=n:=dD
theorem aF8{n i:Nat}{f:Nat→Rat}:(pf n i f).set i (f i)=pf n (i+1) f:=aHF (fun _=>if_pos (Nat.lt_succ_self i)) fun j _ hne=>by
 by_cases h:j<i
 ·rw[if_pos h,if_pos (by omega)]
 ·rw[if_neg h,if_neg (by omega)]
theorem aF9{n:Nat}{f:Nat→Rat}:pf n n f=mkP n f:=nU fun _ hk=>if_pos hk
theorem aGa(xs:List Rat):mkP xs.length (cf xs)=xs:=by
 apply List.ext_getElem?;intro j;by_cases hj:j<xs.length
 ·rw[xN hj];unfold cf;rw[List.getElem?_eq_getElem hj];rfl
 ·rw[List.getElem?_eq_none (by rw[dD];omega),List.getElem?_eq_none (by omega)]
theorem sz0:Ma.sz 0≤aX:=by decide+kernel
theorem kT{xs:List Rat}{B:Nat}(h0:Ma.sz 0≤B)(hz:∀x∈xs,Ma.sz x≤B)(i:Nat):Ma.sz (cf xs i)≤B:=by
 by_cases hi:i<xs.length
 ·unfold cf;rw[List.getElem?_eq_getElem hi];exact hz _ (List.getElem_mem hi)
 ·rw[fI (by omega)];exact h0
theorem aCQ{xs:List Rat}{B:Nat}(hz:∀x∈xs,Ma.sz x≤B):∀x∈ct xs,Ma.sz x≤B:=fun x hx=>by
 rw[←aDv]at hx;exact hz x (List.mem_of_mem_take hx)
theorem qW{xs:List Rat}{i:Nat}(hi:i<xs.length):xs[i]? =some (cf xs i):=by
 unfold cf;rw[List.getElem?_eq_getElem hi];rfl
theorem aRb{v:AV}{xs:List Rat}(hb:g.bar≤g.n)(hl:IsL [] g v xs)(hn:xs.length<1000000)(hz:∀x∈xs,Ma.sz x≤aX):
  Xc (F2 W0) 12 [v] g fun u h'=>Xh g h'∧IsF g h' u (ct xs):=by
 refine jL Tryz.func12 rfl (by kernel_rfl) (by kernel_rfl) (s:=[(0,v)]) rfl (kn1 rfl kn0) (lI hl mV) fun β e eβ hS=>?_;have hβ:β≤g.n:=by omega
 have hlen:=gP xs;refine aS ?_;refine aA rfl rfl rfl (bK hS rfl (hS.pk fun e hS=>?_));refine aG ?_;refine aS ?_;refine aA rfl rfl rfl (aM hS rfl (hS.pk fun e hS=>?_));refine aA rfl rfl rfl (aV hS rfl ((aCP (xs:=xs) (hS.bl (by have:=hS.n;omega)) (hS.ls _ (.head _)).nil hn hz).mono fun u h hq=>?_));obtain⟨hx,hct⟩:=hq;have hl0:=aBb (xs:=xs) ((hS.xh hx).ls _ (.head _)) hct;have hS:=(hS.xh hx).al hl0;refine hS.pk fun e hS=>?_;refine aA rfl rfl rfl (bK hS rfl (hS.pk fun e hS=>?_));refine aG ?_;have hz2:=aCQ hz;generalize hys:ct xs=ys at hS hz2 hlen⊢;obtain⟨n,hn2⟩:∃n,n=ys.length:=⟨_,rfl⟩
 refine aS ?_;refine aA rfl rfl rfl (aM hS rfl (hS.pk fun e hS=>?_));refine aA rfl rfl rfl (fK hS tiL rfl rfl (by repeat constructor) (hS.pk fun e hS=>?_));refine aA rfl rfl rfl (aCk (n:=n) hS tiL rfl tiN rfl rfl (by omega) (by show _*56≤_;omega) (by omega) fun id h hS=>(hS.pk fun e hS=>?_));refine aA rfl rfl rfl (bK hS rfl (hS.pk fun e hS=>?_));refine aG ?_;rw[←hn2,←aDw (f:=cf ys)]at hS;refine bF (aS ?_);refine aA rfl rfl rfl (aM hS rfl (hS.pk fun e hS=>?_));refine aA rfl rfl rfl (fK hS tiL rfl rfl (by repeat constructor) (hS.pk fun e hS=>?_));refine aA rfl rfl rfl (aM hS rfl (hS.pk fun e hS=>?_));refine aG ?_;rw[←hn2]at hS;have hI:=hS.inv [(3,sc (.sl id 0 n (some n))),(11,u),(12,sc (.i .i64 (n:Int))),(13,sc (.i .i64 ((0:Nat):Int)))] [(id,⟨dW,bG (pf n (0) (cf ys))⟩)] ⟨rfl,rfl,rfl,rfl,trivial⟩ (List.Sublist.refl _);refine dC (Xw.mono (Q:=fun x e h'=>x=.x 0∧St β g e [(3,sc (.sl id 0 n (some n))),(11,u),(12,sc (.i .i64 (n:Int)))] h' [(id,⟨dW,bG (pf n (n) (cf ys))⟩)] [(u,ys),(v,xs)] []) (kK (fun r e h'=>∃i,i+r=n∧St β g e [(3,sc (.sl id 0 n (some n))),(11,u),(12,sc (.i .i64 (n:Int))),(13,sc (.i .i64 ((i:Nat):Int)))] h' [(id,⟨dW,bG (pf n (i) (cf ys))⟩)] [(u,ys),(v,xs)] []) ?_ (n) _ _ ⟨0,by omega,hI⟩) ?_)
 ·rintro r e h1 ⟨i,hi_i,hS⟩;by_cases hlt_i:i<n
  ·refine aS ?_;refine aA rfl rfl rfl (aT hS tiI rfl rfl rfl (oJ (by omega)) (hS.pk fun e hS=>?_));refine aG ?_;refine bF (bD (aN hS.k rfl) (fun _=>?_) fun q=>by cases q);refine dY ?_;refine bF (dC ?_);refine aS ?_;refine aA rfl rfl rfl (aM hS rfl (hS.pk fun e hS=>?_));refine aA rfl rfl rfl (pQ (j:=i) hS tiL rfl szN rfl (by repeat constructor) rfl (by omega) (qW (by omega)) fun pv hS=>(hS.pk fun e hS=>?_));refine aA rfl rfl rfl (mG hS tiN rfl rfl rfl (by repeat constructor) (hS.pk fun e hS=>?_));refine aA rfl rfl rfl (fU hS tiN fun id5 h hS=>(hS.pk fun e hS=>?_));refine aA rfl rfl rfl (bK hS rfl (hS.pk fun e hS=>?_));refine fO rfl rfl (jX (j:=0) hS hβ szN rfl rfl rfl rfl rfl rfl fun h hS=>?_);refine aG ?_;refine dO ?_;refine bJ [0,0] ty0 hS rfl ⟨⟩ fun e hS=>?_;refine aA rfl rfl rfl (gG (j:=0) hS tiN rfl rfl rfl rfl (hS.pk fun e hS=>?_));refine aA rfl rfl rfl (gG (j:=0) hS tiN rfl rfl rfl rfl (hS.pk fun e hS=>?_));refine aA rfl rfl rfl (aV hS rfl (aSj (kT sz0 hz2 i) (kT sz0 hz2 i) (hS.pk fun e hS=>?_)));refine aA rfl rfl rfl (oH (j:=i) hS tiL rfl szN rfl rfl (by omega) (by omega) (hS.pk fun e hS=>?_));refine fO rfl rfl (aEk (j:=1) hS hβ szN rfl rfl rfl (by rw[aF7];omega) fun h hS=>?_);refine aG ?_;rw[show aR (cf ys i) (cf ys i)=cf ys i from by unfold aR;split<;>rfl,aF8]at hS;refine dO ?_;refine aA rfl rfl rfl (aT hS tiI rfl rfl rfl (iJ (by omega) (by omega)) (hS.pk fun e hS=>?_));refine aA rfl rfl rfl (aM hS rfl (hS.pk fun e hS=>?_));refine aG ?_;have hv:((i:Nat):Int)+1=((i+1:Nat):Int):=(by omega);rw[hv]at hS;exact⟨r-1,by omega,i+1,by omega,hS.inv [(3,sc (.sl id 0 n (some n))),(11,u),(12,sc (.i .i64 (n:Int))),(13,sc (.i .i64 ((i+1:Nat):Int)))] [(id,⟨dW,bG (pf n (i+1) (cf ys))⟩)] ⟨rfl,rfl,rfl,rfl,trivial⟩ (by simp)⟩
  ·have hie:i=n:=(by omega);rw[hie]at hS;clear hlt_i;have hlt_i:¬n<n:=(by omega);refine aS ?_;refine aA rfl rfl rfl (aT hS tiI rfl rfl rfl (qL (by omega)) (hS.pk fun e hS=>?_));refine aG ?_;refine bF (bD (aN hS.k rfl) (fun q=>by cases q) fun _=>?_);refine jC ?_;exact⟨rfl,hS.inv [(3,sc (.sl id 0 n (some n))),(11,u),(12,sc (.i .i64 (n:Int)))] [(id,⟨dW,bG (pf n (n) (cf ys))⟩)] ⟨rfl,rfl,rfl,trivial⟩ (List.Sublist.refl _)⟩
 ·rintro x e h1 ⟨rfl,hS⟩;show Xw (F2 W0) _ _ _ e h1 _;refine aS ?_;refine bJ [0,0] ty0 hS rfl ⟨⟩ fun e hS=>?_;refine aG ?_;rw[aF9,hn2,aGa]at hS;rw[eβ]at hS;exact fJ ⟨_,leave1 hS (.inr rfl) rfl rfl,hS.out,hS.res (j:=0) rfl rfl (fun m q=>by injection q with q;omega)⟩
theorem aCR{v1 v2:AV}{xs ys:List Rat}{f:Nat}{op:Rat→Rat→Rat}(hop:∀(h:H) (Q:AV→H→Prop) (p q:Rat),Ma.sz p≤aX→Ma.sz q≤aX→Q (nm (op p q)) h→Xc (F2 W0) f [nm p,nm q] h Q)(hb:g.bar≤g.n)(hl1:IsL [] g v1 xs)(hl2:IsL [] g v2 ys)(hn1:xs.length<1000000)(hn2:ys.length<1000000)(hz1:∀x∈xs,Ma.sz x≤aX)(hz2:∀x∈ys,Ma.sz x≤aX)(hz:∀i,Ma.sz (op (cf xs i) (cf ys i))≤aX):
  Xc (F2 W0) 37 [v1,v2,sc (.f f [])] g fun u h'=>Xh g h'∧IsF g h' u (ct (mkP (max xs.length ys.length) fun i=>op (cf xs i) (cf ys i))):=by
 refine jL Tryz.func37 rfl (by kernel_rfl) (by kernel_rfl) (s:=[(0,v1),(1,v2),(2,sc (.f f []))]) rfl (kn1 rfl (kn1 rfl (kn1 rfl kn0))) (lI hl1 (lI hl2 mV)) fun β e eβ hS=>?_;have hβ:β≤g.n:=by omega
 obtain⟨n,hn⟩:∃n,n=max xs.length ys.length:=⟨_,rfl⟩
 rw[←hn];refine aS ?_;refine aA rfl rfl rfl (bK hS rfl (hS.pk fun e hS=>?_));refine aG ?_;refine aS ?_;refine aA rfl rfl rfl (aM hS rfl (hS.pk fun e hS=>?_));refine aA rfl rfl rfl (fK hS tiL rfl rfl (by repeat constructor) (hS.pk fun e hS=>?_));refine aA rfl rfl rfl (aM hS rfl (hS.pk fun e hS=>?_));refine aA rfl rfl rfl (fK hS tiL rfl rfl (by repeat constructor) (hS.pk fun e hS=>?_));refine aA rfl rfl rfl (aRF hS rfl rfl (hS.pk fun e hS=>?_));refine aA rfl rfl rfl (aCk (n:=n) hS tiL rfl tiN rfl rfl (by omega) (by show _*56≤_;omega) (by omega) fun id h hS=>(hS.pk fun e hS=>?_));refine aA rfl rfl rfl (bK hS rfl (hS.pk fun e hS=>?_));refine aG ?_;rw[←aDw (f:=fun i=>op (cf xs i) (cf ys i))]at hS;refine bF (aS ?_);refine aA rfl rfl rfl (aM hS rfl (hS.pk fun e hS=>?_));refine aA rfl rfl rfl (aCi hS tiL rfl rfl (hS.pk fun e hS=>?_));refine aA rfl rfl rfl (aM hS rfl (hS.pk fun e hS=>?_));refine aG ?_;have hI:=hS.inv [(0,v1),(1,v2),(2,sc (.f f [])),(7,sc (.sl id 0 n (some n))),(16,sc (.i .i64 (n:Int))),(17,sc (.i .i64 ((0:Nat):Int)))] [(id,⟨dW,bG (pf n (0) (fun i=>op (cf xs i) (cf ys i)))⟩)] ⟨rfl,rfl,rfl,rfl,rfl,rfl,trivial⟩ (List.Sublist.refl _);refine dC (Xw.mono (Q:=fun x e h'=>x=.x 0∧St β g e [(0,v1),(1,v2),(2,sc (.f f [])),(7,sc (.sl id 0 n (some n))),(16,sc (.i .i64 (n:Int)))] h' [(id,⟨dW,bG (pf n (n) (fun i=>op (cf xs i) (cf ys i)))⟩)] [(v1,xs),(v2,ys)] []) (kK (fun r e h'=>∃i,i+r=n∧St β g e [(0,v1),(1,v2),(2,sc (.f f [])),(7,sc (.sl id 0 n (some n))),(16,sc (.i .i64 (n:Int))),(17,sc (.i .i64 ((i:Nat):Int)))] h' [(id,⟨dW,bG (pf n (i) (fun i=>op (cf xs i) (cf ys i)))⟩)] [(v1,xs),(v2,ys)] []) ?_ (n) _ _ ⟨0,by omega,hI⟩) ?_)
 ·rintro r e h1 ⟨i,hi_i,hS⟩;by_cases hlt_i:i<n
  ·refine aS ?_;refine aA rfl rfl rfl (aT hS tiI rfl rfl rfl (oJ (by omega)) (hS.pk fun e hS=>?_));refine aG ?_;refine bF (bD (aN hS.k rfl) (fun _=>?_) fun q=>by cases q);refine dY ?_;refine bF (dC ?_);refine aS ?_;refine bJ [0,0] ty0 hS rfl ⟨⟩ fun e hS=>?_;refine aG ?_;refine dO ?_;refine bJ [0,0,0,0,0] ty0 hS rfl ⟨⟩ fun e hS=>?_;refine aA rfl rfl rfl (aV hS rfl ((yR (xs:=xs) (i:=i) (hS.bl (by have:=hS.n;omega)) (hS.ls _ (.head _)).nil).mono fun u h hq=>?_));obtain⟨rfl,hx⟩:=hq;have hS:=hS.xh hx;refine hS.pk fun e hS=>?_;refine bJ [0,0] ty0 hS rfl ⟨⟩ fun e hS=>?_;refine aA rfl rfl rfl (aV hS rfl ((yR (xs:=ys) (i:=i) (hS.bl (by have:=hS.n;omega)) (hS.ls _ (.tail _ (.head _))).nil).mono fun u h hq=>?_));obtain⟨rfl,hx⟩:=hq;have hS:=hS.xh hx;refine hS.pk fun e hS=>?_;refine aA rfl rfl rfl (aRK hS rfl rfl (hop _ _ _ _ (kT sz0 hz1 i) (kT sz0 hz2 i) (hS.pk fun e hS=>?_)));refine aA rfl rfl rfl (oH (j:=i) hS tiL rfl szN rfl rfl (by omega) (by omega) (hS.pk fun e hS=>?_));refine fO rfl rfl (aEk (j:=0) hS hβ szN rfl rfl rfl (by rw[aF7];omega) fun h hS=>?_);refine aG ?_;rw[aF8 (f:=fun i=>op (cf xs i) (cf ys i))]at hS;refine dO ?_;refine aA rfl rfl rfl (aT hS tiI rfl rfl rfl (iJ (by omega) (by omega)) (hS.pk fun e hS=>?_));refine aA rfl rfl rfl (aM hS rfl (hS.pk fun e hS=>?_));refine aG ?_;have hv:((i:Nat):Int)+1=((i+1:Nat):Int):=(by omega);rw[hv]at hS;exact⟨r-1,by omega,i+1,by omega,hS.inv [(0,v1),(1,v2),(2,sc (.f f [])),(7,sc (.sl id 0 n (some n))),(16,sc (.i .i64 (n:Int))),(17,sc (.i .i64 ((i+1:Nat):Int)))] [(id,⟨dW,bG (pf n (i+1) (fun i=>op (cf xs i) (cf ys i)))⟩)] ⟨rfl,rfl,rfl,rfl,rfl,rfl,trivial⟩ (by simp)⟩
  ·have hie:i=n:=(by omega);rw[hie]at hS;clear hlt_i;have hlt_i:¬n<n:=(by omega);refine aS ?_;refine aA rfl rfl rfl (aT hS tiI rfl rfl rfl (qL (by omega)) (hS.pk fun e hS=>?_));refine aG ?_;refine bF (bD (aN hS.k rfl) (fun q=>by cases q) fun _=>?_);refine jC ?_;exact⟨rfl,hS.inv [(0,v1),(1,v2),(2,sc (.f f [])),(7,sc (.sl id 0 n (some n))),(16,sc (.i .i64 (n:Int)))] [(id,⟨dW,bG (pf n (n) (fun i=>op (cf xs i) (cf ys i)))⟩)] ⟨rfl,rfl,rfl,rfl,rfl,trivial⟩ (List.Sublist.refl _)⟩
 ·rintro x e h1 ⟨rfl,hS⟩;show Xw (F2 W0) _ _ _ e h1 _;rw[aF9]at hS;have hzz:∀x∈mkP n fun i=>op (cf xs i) (cf ys i),Ma.sz x≤aX:=fun x hx=>by
   obtain⟨i,-,rfl⟩:=List.mem_map.1 hx;exact hz i
  refine aS ?_;refine aA rfl rfl rfl (aM hS rfl (hS.pk fun e hS=>?_));refine aA rfl rfl rfl (aV hS rfl ((aCP (xs:=mkP n fun i=>op (cf xs i) (cf ys i)) (hS.bl (by have:=hS.n;omega)) (hS.res (j:=0) rfl dD.symm (fun m q=>by injection q with q;rw[dD];omega)).nl (by rw[dD];omega) hzz).mono fun u h hq=>?_));obtain⟨hx,hct⟩:=hq;have hf:=aO7 (aQ8 (hS.res (j:=0) rfl dD.symm (fun m q=>by injection q with q;rw[dD];omega)) hx) hct;have hS:=hS.xh hx;refine hS.pk fun e hS=>?_;refine aA rfl rfl rfl (bK hS rfl (hS.pk fun e hS=>?_));refine aG ?_;obtain⟨sv,rfl⟩:=hf.sc;rw[eβ]at hS;exact fJ ⟨_,leave1 hS (.inr rfl) rfl rfl,hS.out,hf⟩
theorem yO{v1 v2:AV}{xs ys:List Rat}(hb:g.bar≤g.n)(hl1:IsL [] g v1 xs)(hl2:IsL [] g v2 ys)(hn1:xs.length<1000000)(hn2:ys.length<1000000)(hz1:∀x∈xs,Ma.sz x≤aX)(hz2:∀x∈ys,Ma.sz x≤aX)(hz:∀i,Ma.sz (cf xs i+cf ys i)≤aX):
  Xc (F2 W0) 10 [v1,v2] g fun u h'=>Xh g h'∧IsF g h' u (dX xs ys):=by
 refine jL Tryz.func10 rfl (by kernel_rfl) (by kernel_rfl) (s:=[(0,v1),(1,v2)]) rfl (kn1 rfl (kn1 rfl kn0)) (lI hl1 (lI hl2 mV)) fun β e eβ hS=>?_;have hβ:β≤g.n:=by omega
 refine aS ?_;refine aA rfl rfl rfl (bK hS rfl (hS.pk fun e hS=>?_));refine aG ?_;refine aS ?_;refine bJ [0,0] ty0 hS rfl ⟨⟩ fun e hS=>?_;refine aA rfl rfl rfl (aV hS rfl ((aCR (op:=fun p q=>p+q) (fun h Q p q h1 h2 k=>aCL h1 h2 k) (hS.bl (by have:=hS.n;omega)) (hS.ls _ (.head _)).nil (hS.ls _ (.tail _ (.head _))).nil hn1 hn2 hz1 hz2 hz).mono fun u h hq=>?_));obtain⟨hx,hf⟩:=hq;have hf:=hf;have hS0:=hS;have hS:=hS.xh hx;refine hS.pk fun e hS=>?_;refine aA rfl rfl rfl (bK hS rfl (hS.pk fun e hS=>?_));refine aG ?_;have hf:=hf.le hS0.n;obtain⟨sv,rfl⟩:=hf.sc;rw[eβ]at hS;exact fJ ⟨_,leave1 hS (.inr rfl) rfl rfl,hS.out,hf⟩
theorem aSl{v1 v2:AV}{xs ys:List Rat}(hb:g.bar≤g.n)(hl1:IsL [] g v1 xs)(hl2:IsL [] g v2 ys)(hn1:xs.length<1000000)(hn2:ys.length<1000000)(hz1:∀x∈xs,Ma.sz x≤aX)(hz2:∀x∈ys,Ma.sz x≤aX)(hz:∀i,Ma.sz (cf xs i-cf ys i)≤aX):
  Xc (F2 W0) 11 [v1,v2] g fun u h'=>Xh g h'∧IsF g h' u (uO xs ys):=by
 refine jL Tryz.func11 rfl (by kernel_rfl) (by kernel_rfl) (s:=[(0,v1),(1,v2)]) rfl (kn1 rfl (kn1 rfl kn0)) (lI hl1 (lI hl2 mV)) fun β e eβ hS=>?_;have hβ:β≤g.n:=by omega
 refine aS ?_;refine aA rfl rfl rfl (bK hS rfl (hS.pk fun e hS=>?_));refine aG ?_;refine aS ?_;refine bJ [0,0] ty0 hS rfl ⟨⟩ fun e hS=>?_;refine aA rfl rfl rfl (aV hS rfl ((aCR (op:=fun p q=>p-q) (fun h Q p q h1 h2 k=>aSi h1 h2 k) (hS.bl (by have:=hS.n;omega)) (hS.ls _ (.head _)).nil (hS.ls _ (.tail _ (.head _))).nil hn1 hn2 hz1 hz2 hz).mono fun u h hq=>?_));obtain⟨hx,hf⟩:=hq;have hf:=hf;have hS0:=hS;have hS:=hS.xh hx;refine hS.pk fun e hS=>?_;refine aA rfl rfl rfl (bK hS rfl (hS.pk fun e hS=>?_));refine aG ?_;have hf:=hf.le hS0.n;obtain⟨sv,rfl⟩:=hf.sc;rw[eβ]at hS;exact fJ ⟨_,leave1 hS (.inr rfl) rfl rfl,hS.out,hf⟩
end
end Go.Proofs.YthjhkhlafhjjmaaGreatDoor.E
namespace Go.Proofs.YthjhkhlafhjjmaaGreatDoor.E
open Go Go.RowKit
open Ma Me K Go.Proofs.YthjhkhlafhjjmaaGreatDoor.Po
section
variable {W0:World} {g:H}
theorem ct_cf'(xs:List Rat)(i:Nat):cf (ct xs) i=cf xs i:=iV xs i
theorem aRc{i:Nat}(h:i<1000000):Ma.sz (((i:Nat):Int):Rat)≤2:=nX _ (by simp[W64];omega)
theorem mP{v:AV}{xs:List Rat}(hb:g.bar≤g.n)(hl:IsL [] g v xs)(hn:xs.length<1000000)(hz:∀x∈xs,Ma.sz x≤aX):
  Xc (F2 W0) 14 [v] g fun u h'=>Xh g h'∧IsF g h' u (bL xs):=by
 refine jL Tryz.func14 rfl (by kernel_rfl) (by kernel_rfl) (s:=[(0,v)]) rfl (kn1 rfl kn0) (lI hl mV) fun β e eβ hS=>?_;have hβ:β≤g.n:=by omega
 have hlen:=gP xs;refine aS ?_;refine aA rfl rfl rfl (bK hS rfl (hS.pk fun e hS=>?_));refine aG ?_;refine aS ?_;refine aA rfl rfl rfl (aM hS rfl (hS.pk fun e hS=>?_));refine aA rfl rfl rfl (aV hS rfl ((aCP (xs:=xs) (hS.bl (by have:=hS.n;omega)) (hS.ls _ (.head _)).nil hn hz).mono fun u h hq=>?_));obtain⟨hx,hct⟩:=hq;have hl0:=aBb (xs:=xs) ((hS.xh hx).ls _ (.head _)) hct;have hS:=(hS.xh hx).al hl0;refine hS.pk fun e hS=>?_;refine aA rfl rfl rfl (bK hS rfl (hS.pk fun e hS=>?_));refine aG ?_;have hz2:=aCQ hz;unfold bL;rw[nU (g:=fun i=>cf (ct xs) (i+1)*((((i:Nat):Int)+1:Int):Rat)) fun k _=>by rw[ct_cf',Rat.mul_comm];rfl];generalize hys:ct xs=ys at hS hz2 hlen⊢;refine bF (aS ?_);by_cases h0:ys.length=0
 ·refine aA rfl rfl rfl (aM hS rfl (hS.pk fun e hS=>?_));refine aA rfl rfl rfl (fK hS tiL rfl rfl (by repeat constructor) (hS.pk fun e hS=>?_));refine aA rfl rfl rfl (aT hS tiI rfl rfl rfl (aAU (by omega)) (hS.pk fun e hS=>?_));refine aG ?_;refine bD (aN hS.k rfl) (fun _=>?_) fun q=>(by cases q);refine aS ?_;refine aA rfl rfl rfl (bK hS rfl (hS.pk fun e hS=>?_));refine aG ?_;rw[eβ]at hS;exact fJ ⟨_,leave1 hS (.inr rfl) rfl rfl,hS.out,.inl ⟨rfl,by rw[h0];rfl⟩⟩
 ·refine aA rfl rfl rfl (aM hS rfl (hS.pk fun e hS=>?_));refine aA rfl rfl rfl (fK hS tiL rfl rfl (by repeat constructor) (hS.pk fun e hS=>?_));refine aA rfl rfl rfl (aT hS tiI rfl rfl rfl (aCm (by omega)) (hS.pk fun e hS=>?_));refine aG ?_;refine bD (aN hS.k rfl) (fun q=>by cases q) fun _=>?_;refine dY ?_;show Xw (F2 W0) _ _ _ e _ _;obtain⟨n,hn2⟩:∃n,n=ys.length-1:=⟨_,rfl⟩
  rw[←hn2];refine aS ?_;refine aA rfl rfl rfl (aM hS rfl (hS.pk fun e hS=>?_));refine aA rfl rfl rfl (fK hS tiL rfl rfl (by repeat constructor) (hS.pk fun e hS=>?_));refine aA rfl rfl rfl (aT hS tiI rfl rfl rfl (qK (by omega) (by omega)) (hS.pk fun e hS=>?_));refine aA rfl rfl rfl (aCk (n:=n) hS tiL rfl tiN rfl rfl (by omega) (by show _*56≤_;omega) (by omega) fun id h hS=>(hS.pk fun e hS=>?_));refine aA rfl rfl rfl (bK hS rfl (hS.pk fun e hS=>?_));refine aG ?_;rw[←aDw (f:=fun i=>cf ys (i+1)*((((i:Nat):Int)+1:Int):Rat))]at hS;refine bF (aS ?_);refine aA rfl rfl rfl (aM hS rfl (hS.pk fun e hS=>?_));refine aA rfl rfl rfl (aCi hS tiL rfl rfl (hS.pk fun e hS=>?_));refine aA rfl rfl rfl (aM hS rfl (hS.pk fun e hS=>?_));refine aG ?_;have hI:=hS.inv [(3,sc (.sl id 0 n (some n))),(0,u),(15,sc (.i .i64 (n:Int))),(16,sc (.i .i64 ((0:Nat):Int)))] [(id,⟨dW,bG (pf n (0) (fun i=>cf ys (i+1)*((((i:Nat):Int)+1:Int):Rat)))⟩)] ⟨rfl,rfl,rfl,rfl,trivial⟩ (List.Sublist.refl _);refine dC (Xw.mono (Q:=fun x e h'=>x=.x 0∧St β g e [(3,sc (.sl id 0 n (some n))),(0,u),(15,sc (.i .i64 (n:Int)))] h' [(id,⟨dW,bG (pf n (n) (fun i=>cf ys (i+1)*((((i:Nat):Int)+1:Int):Rat)))⟩)] [(u,ys),(v,xs)] []) (kK (fun r e h'=>∃i,i+r=n∧St β g e [(3,sc (.sl id 0 n (some n))),(0,u),(15,sc (.i .i64 (n:Int))),(16,sc (.i .i64 ((i:Nat):Int)))] h' [(id,⟨dW,bG (pf n (i) (fun i=>cf ys (i+1)*((((i:Nat):Int)+1:Int):Rat)))⟩)] [(u,ys),(v,xs)] []) ?_ (n) _ _ ⟨0,by omega,hI⟩) ?_)
  ·rintro r e h1 ⟨i,hi_i,hS⟩;by_cases hlt_i:i<n
   ·refine aS ?_;refine aA rfl rfl rfl (aT hS tiI rfl rfl rfl (oJ (by omega)) (hS.pk fun e hS=>?_));refine aG ?_;refine bF (bD (aN hS.k rfl) (fun _=>?_) fun q=>by cases q);refine dY ?_;refine bF (dC ?_);refine aS ?_;refine bJ [0,0] ty0 hS rfl ⟨⟩ fun e hS=>?_;refine aG ?_;refine aBB hS (show (F2 W0).pl 14 8=some ([0,1,2,3,4,5,7,8,6,9,10,11],[(12,[])]) from by kernel_rfl) (by kernel_rfl) ?_;refine aQ hS rfl rfl rfl rfl fun h hS=>aM hS rfl (hS.pk fun e hS=>?_);refine aQ hS rfl rfl rfl rfl fun h hS=>aM hS rfl (hS.pk fun e hS=>?_);refine aQ hS rfl rfl rfl rfl fun h hS=>aM hS rfl (hS.pk fun e hS=>?_);refine aQ hS rfl rfl rfl rfl fun h hS=>aM hS rfl (hS.pk fun e hS=>?_);refine aQ hS rfl rfl rfl rfl fun h hS=>aT hS tiI rfl rfl rfl (iJ (by omega) (by omega)) (hS.pk fun e hS=>?_);refine aQ hS rfl rfl rfl rfl fun h hS=>pQ (j:=i+1) hS tiL rfl szN rfl (by repeat constructor) rfl (by omega) (qW (by omega)) fun pv hS=>(hS.pk fun e hS=>?_)
    refine aQ hS rfl rfl rfl rfl fun h hS=>aM hS rfl (hS.pk fun e hS=>?_);refine aQ hS rfl rfl rfl rfl fun h hS=>aT hS tiI rfl rfl rfl (iJ (by omega) (by omega)) (hS.pk fun e hS=>?_);refine aQ hS rfl rfl rfl rfl fun h hS=>mG hS tiN rfl rfl rfl (by repeat constructor) (hS.pk fun e hS=>?_);refine aQ hS rfl rfl rfl rfl fun h hS=>aV hS rfl (aNs (by omega) (by omega) (hS.pk fun e hS=>?_));refine aQ hS rfl rfl rfl rfl fun h hS=>aV hS rfl (aEs (kT sz0 hz2 _) (Nat.le_trans (aRc (i:=i+1) (by omega)) (by decide)) (hS.pk fun e hS=>?_));refine aQ hS rfl rfl rfl rfl fun h hS=>oH (j:=i) hS tiL rfl szN rfl rfl (by omega) (by omega) (hS.pk fun e hS=>?_);refine uD hS fun h hS=>?_;refine jW rfl rfl rfl (aEk (j:=0) hS hβ szN rfl rfl rfl (by rw[aF7];omega) fun h hS=>?_);refine⟨iE,?_⟩;refine kL ?_;rw[aF8 (f:=fun i=>cf ys (i+1)*((((i:Nat):Int)+1:Int):Rat))]at hS;refine dO ?_;refine aA rfl rfl rfl (aT hS tiI rfl rfl rfl (iJ (by omega) (by omega)) (hS.pk fun e hS=>?_));refine aA rfl rfl rfl (aM hS rfl (hS.pk fun e hS=>?_));refine aG ?_;have hv:((i:Nat):Int)+1=((i+1:Nat):Int):=(by omega);rw[hv]at hS;exact⟨r-1,by omega,i+1,by omega,hS.inv [(3,sc (.sl id 0 n (some n))),(0,u),(15,sc (.i .i64 (n:Int))),(16,sc (.i .i64 ((i+1:Nat):Int)))] [(id,⟨dW,bG (pf n (i+1) (fun i=>cf ys (i+1)*((((i:Nat):Int)+1:Int):Rat)))⟩)] ⟨rfl,rfl,rfl,rfl,trivial⟩ (by simp)⟩
   ·have hie:i=n:=(by omega);rw[hie]at hS;clear hlt_i;have hlt_i:¬n<n:=(by omega);refine aS ?_;refine aA rfl rfl rfl (aT hS tiI rfl rfl rfl (qL (by omega)) (hS.pk fun e hS=>?_));refine aG ?_;refine bF (bD (aN hS.k rfl) (fun q=>by cases q) fun _=>?_);refine jC ?_;exact⟨rfl,hS.inv [(3,sc (.sl id 0 n (some n))),(0,u),(15,sc (.i .i64 (n:Int)))] [(id,⟨dW,bG (pf n (n) (fun i=>cf ys (i+1)*((((i:Nat):Int)+1:Int):Rat)))⟩)] ⟨rfl,rfl,rfl,trivial⟩ (List.Sublist.refl _)⟩
  ·rintro x e h1 ⟨rfl,hS⟩;show Xw (F2 W0) _ _ _ e h1 _;refine aS ?_;refine bJ [0,0] ty0 hS rfl ⟨⟩ fun e hS=>?_;refine aG ?_;rw[aF9]at hS;rw[eβ]at hS;exact fJ ⟨_,leave1 hS (.inr rfl) rfl rfl,hS.out,hS.res (j:=0) rfl dD.symm (fun m q=>by injection q with q;rw[dD];omega)⟩
end
end Go.Proofs.YthjhkhlafhjjmaaGreatDoor.E
namespace Go.Proofs.YthjhkhlafhjjmaaGreatDoor.E
open Go Go.RowKit
open Ma Me K Go.Proofs.YthjhkhlafhjjmaaGreatDoor.Po
section
variable {W0:World} {g:H}
section
variable {p q:List Rat} {i j k n m N A B':Nat}
def mB(p q:List Rat)(i k:Nat):Rat:=sm (fun a=>if a≤k then cf p a*cf q (k-a) else 0) i
def mF(p q:List Rat)(i j k:Nat):Rat:=mB p q i k+(if i≤k∧k<i+j then cf p i*cf q (k-i) else 0)
theorem aO9:mF p q 0 0 k=0:=by
 unfold mF;rw[if_neg (by omega),Rat.add_zero];rfl
theorem aRd:(mkP N (mF p q i j)).set (i+j) (mF p q i j (i+j)+cf p i*cf q j)=mkP N (mF p q i (j+1)):=aHF (fun _=>by
  unfold mF;rw[if_pos (by omega),if_neg (by omega),Rat.add_zero,Nat.add_sub_cancel_left]) fun k _ hne=>by
  unfold mF;congr 1;by_cases h:i≤k∧k<i+j
  ·rw[if_pos h,if_pos (by omega)]
  ·rw[if_neg h,if_neg (by omega)]
theorem aPa:mkP N (mF p q i q.length)=mkP N (mF p q (i+1) 0):=nU fun k _=>by
 unfold mF;rw[if_neg (c:=i+1≤k∧k<i+1+0) (by omega),Rat.add_zero];show mB p q i k+_=mB p q i k+(if i≤k then cf p i*cf q (k-i) else 0)
 congr 1;by_cases h:i≤k
 ·rw[if_pos h];by_cases h2:k<i+q.length
  ·rw[if_pos ⟨h,h2⟩]
  ·rw[if_neg (by omega),fI (p:=q) (n:=k-i) (by omega),Rat.mul_zero]
 ·rw[if_neg h,if_neg (by omega)]
theorem aRe:mkP N (mF p q p.length 0)=mkP N (cv (cf p) (cf q)):=nU fun k _=>by
 unfold mF;rw[if_neg (by omega),Rat.add_zero];obtain⟨G,hG⟩:∃G:Nat→Rat,G=fun a=>if a≤k then cf p a*cf q (k-a) else 0:=⟨_,rfl⟩
 have h1:sm G (p.length+(k+1))=sm G p.length:=sZ (k+1) fun a ha=>by rw[hG];dsimp only;rw[fI ha,Rat.zero_mul];split<;>rfl
 have h2:sm G ((k+1)+p.length)=sm G (k+1):=sZ p.length fun a ha=>by rw[hG];dsimp only;rw[if_neg (by omega)]
 show sm _ p.length=sm _ (k+1);rw[←hG,←h1,Nat.add_comm,h2,hG];exact dH fun a ha=>if_pos (by omega)
theorem aSm(hA:∀a,Ma.sz (cf p a)≤A)(hB:∀a,Ma.sz (cf q a)≤B')(h2:2≤A):Ma.sz (mF p q i j k)≤2*((i+1)*(A+B'))+(A+B')+(i+1)+2:=by
 have e:mF p q i j k=sm (fun a=>if a<i then (if a≤k then cf p a*cf q (k-a) else 0) else if i≤k∧k<i+j then cf p i*cf q (k-i) else 0) (i+1):=by
  show mB p q i k+_=sm _ i+_;congr 1
  ·exact dH fun a ha=>by rw[if_pos ha]
  ·exact (if_neg (Nat.lt_irrefl i)).symm
 rw[e];have hm:∀a b,Ma.sz (cf p a*cf q b)≤A+B':=fun a b=>Nat.le_trans (kJ _ _) (Nat.add_le_add (hA a) (hB b));have h0:Ma.sz 0≤A+B':=Nat.le_trans pG (by omega);refine aEu fun a _=>?_;by_cases h1:a<i
 ·rw[if_pos h1];split
  ·exact hm _ _
  ·exact h0
 ·rw[if_neg h1];split
  ·exact hm _ _
  ·exact h0
end
theorem kU{v1 v2:AV}{xs ys:List Rat}{A0 B0:Nat}(hb:g.bar≤g.n)(hl1:IsL [] g v1 xs)(hl2:IsL [] g v2 ys)(hn1:xs.length<1000000)(hn2:ys.length<1000000)(hA:∀x∈xs,Ma.sz x≤A0)(hB:∀x∈ys,Ma.sz x≤B0)(hA2:2≤A0)(hB2:2≤B0)(hz:2*(xs.length*(A0+B0))+(A0+B0)+xs.length+2≤aX):
  Xc (F2 W0) 8 [v1,v2] g fun u h'=>Xh g h'∧IsF g h' u (aL xs ys):=by
 refine jL Tryz.func8 rfl (by kernel_rfl) (by kernel_rfl) (s:=[(0,v1),(1,v2)]) rfl (kn1 rfl (kn1 rfl kn0)) (lI hl1 (lI hl2 mV)) fun β e eβ hS=>?_;have hβ:β≤g.n:=by omega
 have hlen1:=gP xs;have hlen2:=gP ys;have hz1:∀x∈xs,Ma.sz x≤aX:=fun x hx=>Nat.le_trans (hA x hx) (by omega);have hz2:∀x∈ys,Ma.sz x≤aX:=fun x hx=>Nat.le_trans (hB x hx) (by omega);refine aS ?_;refine aA rfl rfl rfl (bK hS rfl (hS.pk fun e hS=>?_));refine aG ?_;refine aS ?_;refine aA rfl rfl rfl (aM hS rfl (hS.pk fun e hS=>?_));refine aA rfl rfl rfl (aV hS rfl ((aCP (xs:=xs) (hS.bl (by have:=hS.n;omega)) (hS.ls _ (.head _)).nil hn1 hz1).mono fun u1 h hq=>?_));obtain⟨hx,hct⟩:=hq;have hl0:=aBb (xs:=xs) ((hS.xh hx).ls _ (.head _)) hct;have hS:=(hS.xh hx).al hl0;refine hS.pk fun e hS=>?_;refine aA rfl rfl rfl (aM hS rfl (hS.pk fun e hS=>?_));refine aA rfl rfl rfl (aV hS rfl ((aCP (xs:=ys) (hS.bl (by have:=hS.n;omega)) (hS.ls _ (.tail _ (.tail _ (.head _)))).nil hn2 hz2).mono fun u2 h hq=>?_));obtain⟨hx,hct⟩:=hq;have hl0:=aBb (xs:=ys) ((hS.xh hx).ls _ (.tail _ (.tail _ (.head _)))) hct;have hS:=(hS.xh hx).al hl0;refine hS.pk fun e hS=>?_;refine bJ [0,0] ty0 hS rfl ⟨⟩ fun e hS=>?_;refine aG ?_;have hA:=aCQ hA;have hB:=aCQ hB;unfold aL;generalize hps:ct xs=ps at hS hA hlen1⊢;generalize hqs:ct ys=qs at hS hB hlen2⊢;have hcA:∀a,Ma.sz (cf ps a)≤A0:=kT (Nat.le_trans pG hA2) hA;have hcB:∀a,Ma.sz (cf qs a)≤B0:=kT (Nat.le_trans pG hB2) hB;have hmul:∀a b,Ma.sz (cf ps a*cf qs b)≤aX:=fun a b=>Nat.le_trans (kJ _ _) (Nat.le_trans (Nat.add_le_add (hcA a) (hcB b)) (by omega));have hsum:∀i j k,i<ps.length→Ma.sz (mF ps qs i j k)≤aX:=fun i j k hi=>Nat.le_trans (aSm hcA hcB hA2) (by
  have:(i+1)*(A0+B0)≤xs.length*(A0+B0):=Nat.mul_le_mul_right _ (by omega);omega)
 refine bF (aS ?_);by_cases h0:ps.length=0
 ·refine aA rfl rfl rfl (aM hS rfl (hS.pk fun e hS=>?_));refine aA rfl rfl rfl (fK hS tiL rfl rfl (by repeat constructor) (hS.pk fun e hS=>?_));refine aA rfl rfl rfl (aT hS tiI rfl rfl rfl (aAU (by omega)) (hS.pk fun e hS=>?_));refine bJ [0,0,0,0,0] ty0 hS rfl ⟨⟩ fun e hS=>?_;refine aG ?_;refine bD (aN hS.k rfl) (fun _=>?_) fun q=>(by cases q);refine aS ?_;refine aA rfl rfl rfl (bK hS rfl (hS.pk fun e hS=>?_));refine aG ?_;rw[eβ]at hS;exact fJ ⟨_,leave1 hS (.inr rfl) rfl rfl,hS.out,.inl ⟨rfl,if_pos (.inl (List.eq_nil_of_length_eq_zero h0))⟩⟩
 by_cases h02:qs.length=0
 ·refine aA rfl rfl rfl (aM hS rfl (hS.pk fun e hS=>?_));refine aA rfl rfl rfl (fK hS tiL rfl rfl (by repeat constructor) (hS.pk fun e hS=>?_));refine aA rfl rfl rfl (aT hS tiI rfl rfl rfl (aCm (by omega)) (hS.pk fun e hS=>?_));refine bJ [0,0] ty0 hS rfl ⟨⟩ fun e hS=>?_;refine aK (aF (b:=false) hS rfl rfl rfl) rfl rfl (fK hS tiL rfl rfl (by repeat constructor) (hS.pk fun e hS=>?_));refine aK (aF (b:=false) hS rfl rfl rfl) rfl rfl (aT hS tiI rfl rfl rfl (aAU (by omega)) (hS.pk fun e hS=>?_));refine aA rfl rfl rfl (jP hS rfl rfl (hS.pk fun e hS=>?_));refine aG ?_;refine bD (aN hS.k rfl) (fun _=>?_) fun q=>(by cases q);refine aS ?_;refine aA rfl rfl rfl (bK hS rfl (hS.pk fun e hS=>?_));refine aG ?_;rw[eβ]at hS;exact fJ ⟨_,leave1 hS (.inr rfl) rfl rfl,hS.out,.inl ⟨rfl,if_pos (.inr (List.eq_nil_of_length_eq_zero h02))⟩⟩
 rw[if_neg (fun q=>q.elim (fun q=>h0 (by rw[q];rfl)) fun q=>h02 (by rw[q];rfl))];refine aA rfl rfl rfl (aM hS rfl (hS.pk fun e hS=>?_));refine aA rfl rfl rfl (fK hS tiL rfl rfl (by repeat constructor) (hS.pk fun e hS=>?_));refine aA rfl rfl rfl (aT hS tiI rfl rfl rfl (aCm (by omega)) (hS.pk fun e hS=>?_));refine bJ [0,0] ty0 hS rfl ⟨⟩ fun e hS=>?_;refine aK (aF (b:=false) hS rfl rfl rfl) rfl rfl (fK hS tiL rfl rfl (by repeat constructor) (hS.pk fun e hS=>?_));refine aK (aF (b:=false) hS rfl rfl rfl) rfl rfl (aT hS tiI rfl rfl rfl (aCm (by omega)) (hS.pk fun e hS=>?_));refine aA rfl rfl rfl (jP hS rfl rfl (hS.pk fun e hS=>?_));refine aG ?_;refine bD (aN hS.k rfl) (fun q=>by cases q) fun _=>?_;refine dY ?_;show Xw (F2 W0) _ _ _ e _ _;obtain⟨n,hn⟩:∃n,n=ps.length:=⟨_,rfl⟩
 obtain⟨m,hm⟩:∃m,m=qs.length:=⟨_,rfl⟩
 obtain⟨N,hN⟩:∃N,N=ps.length+qs.length-1:=⟨_,rfl⟩
 rw[←hN];refine aS ?_;refine aA rfl rfl rfl (aM hS rfl (hS.pk fun e hS=>?_));refine aA rfl rfl rfl (fK hS tiL rfl rfl (by repeat constructor) (hS.pk fun e hS=>?_));refine aA rfl rfl rfl (aM hS rfl (hS.pk fun e hS=>?_));refine aA rfl rfl rfl (fK hS tiL rfl rfl (by repeat constructor) (hS.pk fun e hS=>?_));refine aA rfl rfl rfl (aT hS tiI rfl rfl rfl (iJ (by omega) (by omega)) (hS.pk fun e hS=>?_));refine aA rfl rfl rfl (aT hS tiI rfl rfl rfl (qK (by omega) (by omega)) (hS.pk fun e hS=>?_));refine aA rfl rfl rfl (aCk (n:=N) hS tiL rfl tiN rfl rfl (by omega) (by show _*56≤_;omega) (by omega) fun id h hS=>(hS.pk fun e hS=>?_));refine aA rfl rfl rfl (bK hS rfl (hS.pk fun e hS=>?_));refine aG ?_;rw[←aF6,nU (g:=mF ps qs 0 0) fun k _=>aO9.symm]at hS;refine bF (aS ?_);refine aA rfl rfl rfl (aM hS rfl (hS.pk fun e hS=>?_));refine aA rfl rfl rfl (fK hS tiL rfl rfl (by repeat constructor) (hS.pk fun e hS=>?_));refine aA rfl rfl rfl (aM hS rfl (hS.pk fun e hS=>?_));refine aG ?_;rw[←hn]at hS;have hI:=hS.inv [(1,u2),(5,sc (.sl id 0 N (some N))),(29,u1),(30,sc (.i .i64 (n:Int))),(31,sc (.i .i64 ((0:Nat):Int)))] [(id,⟨dW,bG (mkP N (mF ps qs (0) 0))⟩)] ⟨rfl,rfl,rfl,rfl,rfl,trivial⟩ (List.Sublist.refl _);refine dC (Xw.mono (Q:=fun x e h'=>x=.x 0∧St β g e [(1,u2),(5,sc (.sl id 0 N (some N))),(29,u1),(30,sc (.i .i64 (n:Int)))] h' [(id,⟨dW,bG (mkP N (mF ps qs (n) 0))⟩)] [(u2,qs),(u1,ps),(v1,xs),(v2,ys)] []) (kK (fun r e h'=>∃i,i+r=n∧St β g e [(1,u2),(5,sc (.sl id 0 N (some N))),(29,u1),(30,sc (.i .i64 (n:Int))),(31,sc (.i .i64 ((i:Nat):Int)))] h' [(id,⟨dW,bG (mkP N (mF ps qs (i) 0))⟩)] [(u2,qs),(u1,ps),(v1,xs),(v2,ys)] []) ?_ (n) _ _ ⟨0,by omega,hI⟩) ?_)
 ·rintro r e h1 ⟨i,hi_i,hS⟩;by_cases hlt_i:i<n
  ·refine aS ?_;refine aA rfl rfl rfl (aT hS tiI rfl rfl rfl (oJ (by omega)) (hS.pk fun e hS=>?_));refine aG ?_;refine bF (bD (aN hS.k rfl) (fun _=>?_) fun q=>by cases q);refine dY ?_;refine bF (dC ?_);refine aS ?_;refine aA rfl rfl rfl (aM hS rfl (hS.pk fun e hS=>?_));refine aA rfl rfl rfl (pQ (j:=i) hS tiL rfl szN rfl (by repeat constructor) rfl (by omega) (qW (by omega)) fun pv hS=>(hS.pk fun e hS=>?_));refine aA rfl rfl rfl (mG hS tiN rfl rfl rfl (by repeat constructor) (hS.pk fun e hS=>?_));refine aA rfl rfl rfl (fU hS tiN fun id7 h hS=>(hS.pk fun e hS=>?_));refine aA rfl rfl rfl (bK hS rfl (hS.pk fun e hS=>?_));refine fO rfl rfl (jX (j:=0) hS hβ szN rfl rfl rfl rfl rfl rfl fun h hS=>?_);refine aG ?_;refine aS ?_;refine aA rfl rfl rfl (aM hS rfl (hS.pk fun e hS=>?_));refine aA rfl rfl rfl (fK hS tiL rfl rfl (by repeat constructor) (hS.pk fun e hS=>?_));refine aA rfl rfl rfl (aM hS rfl (hS.pk fun e hS=>?_));refine aG ?_;rw[←hm]at hS;have hI:=hS.inv [(1,u2),(5,sc (.sl id 0 N (some N))),(6,sc (.i .i64 (i:Int))),(7,sc (.p id7 0)),(29,u1),(30,sc (.i .i64 (n:Int))),(31,sc (.i .i64 (i:Int))),(36,u2),(37,sc (.i .i64 (m:Int))),(38,sc (.i .i64 ((0:Nat):Int)))] [(id7,⟨dW,aP (cf ps i)⟩),(id,⟨dW,bG (mkP N (mF ps qs i (0)))⟩)] ⟨rfl,rfl,rfl,rfl,rfl,rfl,rfl,rfl,rfl,rfl,trivial⟩ (List.Sublist.refl _);refine dC (Xw.mono (Q:=fun x e h'=>x=.x 2∧St β g e [(1,u2),(5,sc (.sl id 0 N (some N))),(6,sc (.i .i64 (i:Int))),(7,sc (.p id7 0)),(29,u1),(30,sc (.i .i64 (n:Int))),(31,sc (.i .i64 (i:Int))),(36,u2),(37,sc (.i .i64 (m:Int)))] h' [(id7,⟨dW,aP (cf ps i)⟩),(id,⟨dW,bG (mkP N (mF ps qs i (m)))⟩)] [(u2,qs),(u1,ps),(v1,xs),(v2,ys)] []) (kK (fun r e h'=>∃j,j+r=m∧St β g e [(1,u2),(5,sc (.sl id 0 N (some N))),(6,sc (.i .i64 (i:Int))),(7,sc (.p id7 0)),(29,u1),(30,sc (.i .i64 (n:Int))),(31,sc (.i .i64 (i:Int))),(36,u2),(37,sc (.i .i64 (m:Int))),(38,sc (.i .i64 ((j:Nat):Int)))] h' [(id7,⟨dW,aP (cf ps i)⟩),(id,⟨dW,bG (mkP N (mF ps qs i (j)))⟩)] [(u2,qs),(u1,ps),(v1,xs),(v2,ys)] []) ?_ (m) _ _ ⟨0,by omega,hI⟩) ?_)
   ·rintro r e h1 ⟨j,hi_j,hS⟩;by_cases hlt_j:j<m
    ·refine aS ?_;refine aA rfl rfl rfl (aT hS tiI rfl rfl rfl (oJ (by omega)) (hS.pk fun e hS=>?_));refine aG ?_;refine bF (bD (aN hS.k rfl) (fun _=>?_) fun q=>by cases q);refine dY ?_;refine bF (dC ?_);refine aS ?_;refine aA rfl rfl rfl (aM hS rfl (hS.pk fun e hS=>?_));refine aA rfl rfl rfl (pQ (j:=j) hS tiL rfl szN rfl (by repeat constructor) rfl (by omega) (qW (by omega)) fun pv hS=>(hS.pk fun e hS=>?_));refine aA rfl rfl rfl (mG hS tiN rfl rfl rfl (by repeat constructor) (hS.pk fun e hS=>?_));refine aA rfl rfl rfl (fU hS tiN fun id9 h hS=>(hS.pk fun e hS=>?_));refine aA rfl rfl rfl (bK hS rfl (hS.pk fun e hS=>?_));refine fO rfl rfl (jX (j:=0) hS hβ szN rfl rfl rfl rfl rfl rfl fun h hS=>?_);refine aG ?_;refine aBB hS (show (F2 W0).pl 8 11=some ([0,1,2,3,4,5,6,7,8,9,10,11,12,13,14],[(15,[])]) from by kernel_rfl) (by kernel_rfl) ?_;refine aQ hS rfl rfl rfl rfl fun h hS=>aM hS rfl (hS.pk fun e hS=>?_);refine aQ hS rfl rfl rfl rfl fun h hS=>aM hS rfl (hS.pk fun e hS=>?_);refine aQ hS rfl rfl rfl rfl fun h hS=>aM hS rfl (hS.pk fun e hS=>?_);refine aQ hS rfl rfl rfl rfl fun h hS=>aT hS tiI rfl rfl rfl (iJ (by omega) (by omega)) (hS.pk fun e hS=>?_);refine aQ hS rfl rfl rfl rfl fun h hS=>aM hS rfl (hS.pk fun e hS=>?_);refine aQ hS rfl rfl rfl rfl fun h hS=>aM hS rfl (hS.pk fun e hS=>?_);refine aQ hS rfl rfl rfl rfl fun h hS=>aM hS rfl (hS.pk fun e hS=>?_);refine aQ hS rfl rfl rfl rfl fun h hS=>aT hS tiI rfl rfl rfl (iJ (by omega) (by omega)) (hS.pk fun e hS=>?_);refine aQ hS rfl rfl rfl rfl fun h hS=>oH (j:=i+j) hS tiL rfl szN rfl rfl (by omega) (by omega) (hS.pk fun e hS=>?_);refine aQ hS rfl rfl rfl rfl fun h hS=>aRI (j:=2) hS tiN rfl rfl rfl rfl (xN (by omega)) (hS.pk fun e hS=>?_);refine aQ hS rfl rfl rfl rfl fun h hS=>gG (j:=1) hS tiN rfl rfl rfl rfl (hS.pk fun e hS=>?_);refine aQ hS rfl rfl rfl rfl fun h hS=>gG (j:=0) hS tiN rfl rfl rfl rfl (hS.pk fun e hS=>?_);refine aQ hS rfl rfl rfl rfl fun h hS=>aV hS rfl (aEs (Nat.le_trans (hcA _) (by omega)) (Nat.le_trans (hcB _) (by omega)) (hS.pk fun e hS=>?_));refine aQ hS rfl rfl rfl rfl fun h hS=>aV hS rfl (aCL (hsum _ _ _ (by omega)) (hmul _ _) (hS.pk fun e hS=>?_));refine aQ hS rfl rfl rfl rfl fun h hS=>oH (j:=i+j) hS tiL rfl szN rfl rfl (by omega) (by omega) (hS.pk fun e hS=>?_);refine uD hS fun h hS=>?_;refine jW rfl rfl rfl (aEk (j:=2) hS hβ szN rfl rfl rfl (by rw[dD];omega) fun h hS=>?_);refine⟨iE,?_⟩;refine kL ?_;rw[aRd]at hS;refine dO ?_;refine aA rfl rfl rfl (aT hS tiI rfl rfl rfl (iJ (by omega) (by omega)) (hS.pk fun e hS=>?_));refine aA rfl rfl rfl (aM hS rfl (hS.pk fun e hS=>?_));refine aG ?_;have hv:((j:Nat):Int)+1=((j+1:Nat):Int):=(by omega);rw[hv]at hS;exact⟨r-1,by omega,j+1,by omega,hS.inv [(1,u2),(5,sc (.sl id 0 N (some N))),(6,sc (.i .i64 (i:Int))),(7,sc (.p id7 0)),(29,u1),(30,sc (.i .i64 (n:Int))),(31,sc (.i .i64 (i:Int))),(36,u2),(37,sc (.i .i64 (m:Int))),(38,sc (.i .i64 ((j+1:Nat):Int)))] [(id7,⟨dW,aP (cf ps i)⟩),(id,⟨dW,bG (mkP N (mF ps qs i (j+1)))⟩)] ⟨rfl,rfl,rfl,rfl,rfl,rfl,rfl,rfl,rfl,rfl,trivial⟩ (by simp)⟩
    ·have hie:j=m:=(by omega);rw[hie]at hS;clear hlt_j;have hlt_j:¬m<m:=(by omega);refine aS ?_;refine aA rfl rfl rfl (aT hS tiI rfl rfl rfl (qL (by omega)) (hS.pk fun e hS=>?_));refine aG ?_;refine bF (bD (aN hS.k rfl) (fun q=>by cases q) fun _=>?_);refine jC ?_;exact⟨rfl,hS.inv [(1,u2),(5,sc (.sl id 0 N (some N))),(6,sc (.i .i64 (i:Int))),(7,sc (.p id7 0)),(29,u1),(30,sc (.i .i64 (n:Int))),(31,sc (.i .i64 (i:Int))),(36,u2),(37,sc (.i .i64 (m:Int)))] [(id7,⟨dW,aP (cf ps i)⟩),(id,⟨dW,bG (mkP N (mF ps qs i (m)))⟩)] ⟨rfl,rfl,rfl,rfl,rfl,rfl,rfl,rfl,rfl,trivial⟩ (List.Sublist.refl _)⟩
   ·rintro x e h1 ⟨rfl,hS⟩;rw[hm,aPa]at hS;refine dO ?_;refine aA rfl rfl rfl (aT hS tiI rfl rfl rfl (iJ (by omega) (by omega)) (hS.pk fun e hS=>?_));refine aA rfl rfl rfl (aM hS rfl (hS.pk fun e hS=>?_));refine aG ?_;have hv:((i:Nat):Int)+1=((i+1:Nat):Int):=(by omega);rw[hv]at hS;exact⟨r-1,by omega,i+1,by omega,hS.inv [(1,u2),(5,sc (.sl id 0 N (some N))),(29,u1),(30,sc (.i .i64 (n:Int))),(31,sc (.i .i64 ((i+1:Nat):Int)))] [(id,⟨dW,bG (mkP N (mF ps qs (i+1) 0))⟩)] ⟨rfl,rfl,rfl,rfl,rfl,trivial⟩ (by simp)⟩
  ·have hie:i=n:=(by omega);rw[hie]at hS;clear hlt_i;have hlt_i:¬n<n:=(by omega);refine aS ?_;refine aA rfl rfl rfl (aT hS tiI rfl rfl rfl (qL (by omega)) (hS.pk fun e hS=>?_));refine aG ?_;refine bF (bD (aN hS.k rfl) (fun q=>by cases q) fun _=>?_);refine jC ?_;exact⟨rfl,hS.inv [(1,u2),(5,sc (.sl id 0 N (some N))),(29,u1),(30,sc (.i .i64 (n:Int)))] [(id,⟨dW,bG (mkP N (mF ps qs (n) 0))⟩)] ⟨rfl,rfl,rfl,rfl,trivial⟩ (List.Sublist.refl _)⟩
 ·rintro x e h1 ⟨rfl,hS⟩;show Xw (F2 W0) _ _ _ e h1 _;refine aS ?_;refine bJ [0,0] ty0 hS rfl ⟨⟩ fun e hS=>?_;refine aG ?_;rw[hn,aRe]at hS;rw[eβ]at hS;exact fJ ⟨_,leave1 hS (.inr rfl) rfl rfl,hS.out,hS.res (j:=0) rfl dD.symm (fun m q=>by injection q with q;rw[dD];omega)⟩
end
end Go.Proofs.YthjhkhlafhjjmaaGreatDoor.E
namespace Go.Proofs.YthjhkhlafhjjmaaGreatDoor.Po
open Ma
def esS(a b c:Rat)(s:Rat × Rat):Rat × Rat:=
 (aW (eQ (aW s.1 s.2) (aR s.1 s.2) (aW a b) (aR a b)) (eU (aW s.1 s.2) (aR s.1 s.2) (aW a b) (aR a b))+aW c c,
  aR (eQ (aW s.1 s.2) (aR s.1 s.2) (aW a b) (aR a b)) (eU (aW s.1 s.2) (aR s.1 s.2) (aW a b) (aR a b))+aR c c)
def esP(p:List Rat)(a b:Rat):Rat × Rat:=(ct p).foldr (esS a b) (0,0)
theorem aAu(c:Rat):aW c c=c:=by unfold aW;split<;>rfl
theorem aAv(c:Rat):aR c c=c:=by unfold aR;split<;>rfl
theorem aNu{a b x:Rat}(h1:aW a b≤x)(h2:x≤aR a b):∀p:List Rat,aW (p.foldr (esS a b) (0,0)).1 (p.foldr (esS a b) (0,0)).2≤evP p x∧evP p x≤aR (p.foldr (esS a b) (0,0)).1 (p.foldr (esS a b) (0,0)).2
 | []=>by
   show aW 0 0≤0∧(0:Rat)≤aR 0 0;rw[aAu,aAv];exact⟨Rat.le_refl,Rat.le_refl⟩
 |c::t=>by
  obtain⟨i1,i2⟩:=aNu h1 h2 t;rw[List.foldr_cons];obtain⟨s,hs⟩:∃s,t.foldr (esS a b) (0,0)=s:=⟨_,rfl⟩
  rw[hs]at i1 i2⊢;have hp:=aNH i1 i2 h1 h2;have e:evP (c::t) x=evP t x*x+c:=rfl;rw[e];unfold esS;dsimp only;rw[aAu,aAv];have hle:eQ (aW s.1 s.2) (aR s.1 s.2) (aW a b) (aR a b)≤eU (aW s.1 s.2) (aR s.1 s.2) (aW a b) (aR a b):=Rat.le_trans hp.1 hp.2;rw[aCZ hle,aC0 hle];have k1:eQ (aW s.1 s.2) (aR s.1 s.2) (aW a b) (aR a b)+c≤eU (aW s.1 s.2) (aR s.1 s.2) (aW a b) (aR a b)+c:=(Rat.add_le_add_right).2 hle;rw[aCZ k1,aC0 k1];exact⟨(Rat.add_le_add_right).2 hp.1,(Rat.add_le_add_right).2 hp.2⟩
theorem rP(p:List Rat)(x:Rat):evP (ct p) x=evP p x:=aKX x (iV p)
theorem aRf{a b x:Rat}(h1:aW a b≤x)(h2:x≤aR a b)(p:List Rat):aW (esP p a b).1 (esP p a b).2≤evP p x∧evP p x≤aR (esP p a b).1 (esP p a b).2:=by
 rw[←rP];exact aNu h1 h2 (ct p)
end Go.Proofs.YthjhkhlafhjjmaaGreatDoor.Po
namespace Go.Proofs.YthjhkhlafhjjmaaGreatDoor.E
open Go Go.RowKit
open Ma Me K Go.Proofs.YthjhkhlafhjjmaaGreatDoor.Po
section
variable {W0:World} {g:H}
theorem aMR{ps:List Rat}{k:Nat}{x:Rat}(hk:k<ps.length):evP (ps.drop k) x=evP (ps.drop (k+1)) x*x+cf ps k:=by
 rw[List.drop_eq_getElem_cons hk,show cf ps k=ps[k] from by unfold cf;rw[List.getElem?_eq_getElem hk];rfl];rfl
theorem aPb{ps:List Rat}{k:Nat}{a b:Rat}(hk:k<ps.length):(ps.drop k).foldr (esS a b) (0,0)=esS a b (cf ps k) ((ps.drop (k+1)).foldr (esS a b) (0,0)):=by
 rw[List.drop_eq_getElem_cons hk,show cf ps k=ps[k] from by unfold cf;rw[List.getElem?_eq_getElem hk];rfl];rfl
theorem aCS{v:AV}{xs:List Rat}{y:Rat}(hb:g.bar≤g.n)(hl:IsL [] g v xs)(hn:xs.length<1000000)(hz:∀x∈xs,Ma.sz x≤aX)(hy:Ma.sz y≤aX)(hE:∀k,Ma.sz (evP ((ct xs).drop k) y)≤aX∧Ma.sz (evP ((ct xs).drop k) y*y)≤aX):
  Xc (F2 W0) 16 [v,nm y] g fun u h'=>u=nm (evP (ct xs) y)∧Xh g h':=by
 refine jL Tryz.func16 rfl (by kernel_rfl) (by kernel_rfl) (s:=[(0,v),(1,nm y)]) rfl (kn1 rfl (kn1 rfl kn0)) (lI hl mV) fun β e eβ hS=>?_;have hβ:β≤g.n:=by omega
 have hlen:=gP xs;have hcz:∀i,Ma.sz (cf xs i)≤aX:=kT sz0 hz;refine aS ?_;refine aA rfl rfl rfl (aIk hS rfl fun ia h hS=>(hS.pk fun e hS=>?_));refine aA rfl rfl rfl (fU hS tiN fun ib h hS=>(hS.pk fun e hS=>?_));refine aG ?_;refine aS ?_;refine aA rfl rfl rfl (fU hS tiN fun ic h hS=>(hS.pk fun e hS=>?_));refine aG ?_;refine bF (aS ?_);refine aA rfl rfl rfl (aM hS rfl (hS.pk fun e hS=>?_));refine aA rfl rfl rfl (aV hS rfl ((oU (xs:=xs) (hS.bl (by have:=hS.n;omega)) (hS.ls _ (.head _)).nil hn hz).mono fun u h hq=>?_));obtain⟨rfl,hx⟩:=hq;have hS:=hS.xh hx;refine hS.pk fun e hS=>?_;refine aA rfl rfl rfl (bK hS rfl (hS.pk fun e hS=>?_));refine aG ?_;generalize hps:ct xs=ps at hS hlen hE⊢;have hcf:∀i,cf xs i=cf ps i:=fun i=>by rw[←hps,ct_cf']
 have hI:=hS.inv [(0,v),(3,sc (.p ia 0)),(4,sc (.p ib 0)),(5,sc (.p ic 0)),(6,sc (.i .i64 (((ps.length:Nat):Int)-1)))] [(ic,⟨36,aP 0⟩),(ib,⟨36,aP 0⟩),(ia,⟨36,aP y⟩)] ⟨rfl,rfl,rfl,rfl,rfl,trivial⟩ (List.Sublist.refl _);refine dC (Xw.mono (Q:=fun x e h'=>x=.x 0∧St β g e [(4,sc (.p ib 0)),(5,sc (.p ic 0))] h' [(ic,⟨36,aP (evP (ps.drop (0)) y)⟩),(ib,⟨36,aP 0⟩),(ia,⟨36,aP y⟩)] [(v,xs)] []) (kK (fun r e h'=>r≤ps.length∧St β g e [(0,v),(3,sc (.p ia 0)),(4,sc (.p ib 0)),(5,sc (.p ic 0)),(6,sc (.i .i64 (((r:Nat):Int)-1)))] h' [(ic,⟨36,aP (evP (ps.drop (r)) y)⟩),(ib,⟨36,aP 0⟩),(ia,⟨36,aP y⟩)] [(v,xs)] []) ?_ ps.length _ _ ⟨Nat.le_refl _,by rw[List.drop_length];exact hI⟩) ?_)
 ·rintro r e h1 ⟨hr,hS⟩;rcases Nat.eq_zero_or_pos r with h0|h0
  ·subst h0;refine bF (aS ?_);refine aA rfl rfl rfl (aM hS rfl (hS.pk fun e hS=>?_));refine aA rfl rfl rfl (aT hS tiI rfl rfl rfl (aEm (by omega)) (hS.pk fun e hS=>?_));refine aG ?_;refine bD (aN hS.k rfl) (fun q=>by cases q) fun _=>?_;refine jC ?_;exact⟨rfl,hS.inv [(4,sc (.p ib 0)),(5,sc (.p ic 0))] [(ic,⟨36,aP (evP (ps.drop (0)) y)⟩),(ib,⟨36,aP 0⟩),(ia,⟨36,aP y⟩)] ⟨rfl,rfl,trivial⟩ (List.Sublist.refl _)⟩
  ·obtain⟨k,rfl⟩:∃k,r=k+1:=⟨r-1,by omega⟩
   have hx1:xs[k]? =some (cf ps k):=(by rw[←hcf];exact qW (by omega));have hck:=hcz k;rw[hcf]at hck;refine bF (aS ?_);refine aA rfl rfl rfl (aM hS rfl (hS.pk fun e hS=>?_));refine aA rfl rfl rfl (aT hS tiI rfl rfl rfl (aCl (by omega)) (hS.pk fun e hS=>?_));refine aG ?_;refine bD (aN hS.k rfl) (fun _=>?_) fun q=>(by cases q);refine dY ?_;refine bF (dC ?_);refine aBB hS (show (F2 W0).pl 16 5=some ([3,4,5,0,1,6,2,7],[(8,[])]) from by kernel_rfl) (by kernel_rfl) ?_;refine aQ hS rfl rfl rfl rfl fun h hS=>aM hS rfl (hS.pk fun e hS=>?_);refine aQ hS rfl rfl rfl rfl fun h hS=>aM hS rfl (hS.pk fun e hS=>?_);refine aQ hS rfl rfl rfl rfl fun h hS=>pQ (j:=k) hS tiL rfl szN rfl (by repeat constructor) rfl (by omega) hx1 fun pv hS=>(hS.pk fun e hS=>?_)
   refine aQ hS rfl rfl rfl rfl fun h hS=>gG (j:=0) hS tiN rfl rfl rfl rfl (hS.pk fun e hS=>?_);refine aQ hS rfl rfl rfl rfl fun h hS=>gG (j:=2) hS tiN rfl rfl rfl rfl (hS.pk fun e hS=>?_);refine aQ hS rfl rfl rfl rfl fun h hS=>mG hS tiN rfl rfl rfl (by repeat constructor) (hS.pk fun e hS=>?_);refine aQ hS rfl rfl rfl rfl fun h hS=>aV hS rfl (aEs (hE _).1 hy (hS.pk fun e hS=>?_));refine aQ hS rfl rfl rfl rfl fun h hS=>aV hS rfl (aCL (hE _).2 hck (hS.pk fun e hS=>?_));refine uD hS fun h hS=>?_;refine jW rfl rfl rfl (jX (j:=0) hS hβ szN rfl rfl rfl rfl rfl rfl fun h hS=>?_);refine⟨iE,?_⟩;refine kL ?_;refine dO ?_;refine aA rfl rfl rfl (aM hS rfl (hS.pk fun e hS=>?_));refine aA rfl rfl rfl (aT hS tiI rfl rfl rfl (qK (by omega) (by omega)) (hS.pk fun e hS=>?_));refine aA rfl rfl rfl (bK hS rfl (hS.pk fun e hS=>?_));refine aG ?_;rw[show ((k+1:Nat):Int)-1-1=((k:Nat):Int)-1 from by omega]at hS;exact⟨k,by omega,by omega,by rw[aMR (by omega)];exact hS.inv _ _ ⟨rfl,rfl,rfl,rfl,rfl,trivial⟩ (List.Sublist.refl _)⟩
 ·rintro x e h1 ⟨rfl,hS⟩;show Xw (F2 W0) _ _ _ e h1 _;refine aS ?_;refine aA rfl rfl rfl (gG (j:=0) hS tiN rfl rfl rfl rfl (hS.pk fun e hS=>?_));refine fO rfl rfl (jX (j:=1) hS hβ szN rfl rfl rfl rfl rfl rfl fun h hS=>?_);refine aG ?_;rw[eβ]at hS;refine fJ ⟨_,aCn (j:=1) hS (.inr rfl) rfl rfl tiN rfl rfl rfl,rfl,hS.out⟩
def esM(a b:Rat)(s:Rat × Rat):Rat × Rat:=(eQ (aW s.1 s.2) (aR s.1 s.2) (aW a b) (aR a b),eU (aW s.1 s.2) (aR s.1 s.2) (aW a b) (aR a b))
theorem aIY{v:AV}{xs:List Rat}{a b:Rat}(hb:g.bar≤g.n)(hl:IsL [] g v xs)(hn:xs.length<1000000)(hz:∀x∈xs,Ma.sz x≤aX)(hzP:∀i,Ma.sz (cf xs i)≤dG)(ha:Ma.sz a≤dG)(hb2:Ma.sz b≤dG)(hE:∀k,Ma.sz (List.foldr (esS a b) (0,0) ((ct xs).drop k)).1≤dG∧Ma.sz (List.foldr (esS a b) (0,0) ((ct xs).drop k)).2≤dG∧Ma.sz (esM a b (List.foldr (esS a b) (0,0) ((ct xs).drop k))).1≤dG∧Ma.sz (esM a b (List.foldr (esS a b) (0,0) ((ct xs).drop k))).2≤dG):
  Xc (F2 W0) 17 [v,sp a b] g fun u h'=>u=sp (esP xs a b).1 (esP xs a b).2∧Xh g h':=by
 unfold esP;refine jL Tryz.func17 rfl (by kernel_rfl) (by kernel_rfl) (s:=[(0,v),(1,sp a b)]) rfl (kn1 rfl (kn1 rfl kn0)) (lI hl mV) fun β e eβ hS=>?_;have hβ:β≤g.n:=by omega
 have hlen:=gP xs;have hcz:∀i,Ma.sz (cf xs i)≤aX:=kT sz0 hz;refine aS ?_;refine aA rfl rfl rfl (aIk hS rfl fun ia h hS=>(hS.pk fun e hS=>?_));refine aA rfl rfl rfl (fU hS tiS fun ib h hS=>(hS.pk fun e hS=>?_));refine aG ?_;refine aS ?_;refine aA rfl rfl rfl (fU hS tiS fun ic h hS=>(hS.pk fun e hS=>?_));refine aG ?_;refine bF (aS ?_);refine aA rfl rfl rfl (aM hS rfl (hS.pk fun e hS=>?_));refine aA rfl rfl rfl (aV hS rfl ((oU (xs:=xs) (hS.bl (by have:=hS.n;omega)) (hS.ls _ (.head _)).nil hn hz).mono fun u h hq=>?_));obtain⟨rfl,hx⟩:=hq;have hS:=hS.xh hx;refine hS.pk fun e hS=>?_;refine aA rfl rfl rfl (bK hS rfl (hS.pk fun e hS=>?_));refine aG ?_;generalize hps:ct xs=ps at hS hlen hE⊢;have hcf:∀i,cf xs i=cf ps i:=fun i=>by rw[←hps,ct_cf']
 have hI:=hS.inv [(0,v),(3,sc (.p ia 0)),(4,sc (.p ib 0)),(5,sc (.p ic 0)),(6,sc (.i .i64 (((ps.length:Nat):Int)-1)))] [(ic,⟨42,aP 0++aP 0⟩),(ib,⟨42,aP 0++aP 0⟩),(ia,⟨42,aP a++aP b⟩)] ⟨rfl,rfl,rfl,rfl,rfl,trivial⟩ (List.Sublist.refl _);refine dC (Xw.mono (Q:=fun x e h'=>x=.x 0∧St β g e [(4,sc (.p ib 0)),(5,sc (.p ic 0))] h' [(ic,⟨42,aP (List.foldr (esS a b) (0,0) (ps.drop (0))).1++aP (List.foldr (esS a b) (0,0) (ps.drop (0))).2⟩),(ib,⟨42,aP 0++aP 0⟩),(ia,⟨42,aP a++aP b⟩)] [(v,xs)] []) (kK (fun r e h'=>r≤ps.length∧St β g e [(0,v),(3,sc (.p ia 0)),(4,sc (.p ib 0)),(5,sc (.p ic 0)),(6,sc (.i .i64 (((r:Nat):Int)-1)))] h' [(ic,⟨42,aP (List.foldr (esS a b) (0,0) (ps.drop (r))).1++aP (List.foldr (esS a b) (0,0) (ps.drop (r))).2⟩),(ib,⟨42,aP 0++aP 0⟩),(ia,⟨42,aP a++aP b⟩)] [(v,xs)] []) ?_ ps.length _ _ ⟨Nat.le_refl _,by rw[List.drop_length];exact hI⟩) ?_)
 ·rintro r e h1 ⟨hr,hS⟩;rcases Nat.eq_zero_or_pos r with h0|h0
  ·subst h0;refine bF (aS ?_);refine aA rfl rfl rfl (aM hS rfl (hS.pk fun e hS=>?_));refine aA rfl rfl rfl (aT hS tiI rfl rfl rfl (aEm (by omega)) (hS.pk fun e hS=>?_));refine aG ?_;refine bD (aN hS.k rfl) (fun q=>by cases q) fun _=>?_;refine jC ?_;exact⟨rfl,hS.inv [(4,sc (.p ib 0)),(5,sc (.p ic 0))] [(ic,⟨42,aP (List.foldr (esS a b) (0,0) (ps.drop (0))).1++aP (List.foldr (esS a b) (0,0) (ps.drop (0))).2⟩),(ib,⟨42,aP 0++aP 0⟩),(ia,⟨42,aP a++aP b⟩)] ⟨rfl,rfl,trivial⟩ (List.Sublist.refl _)⟩
  ·obtain⟨k,rfl⟩:∃k,r=k+1:=⟨r-1,by omega⟩
   have hx1:xs[k]? =some (cf ps k):=(by rw[←hcf];exact qW (by omega));have hck:=hcz k;rw[hcf]at hck;refine bF (aS ?_);refine aA rfl rfl rfl (aM hS rfl (hS.pk fun e hS=>?_));refine aA rfl rfl rfl (aT hS tiI rfl rfl rfl (aCl (by omega)) (hS.pk fun e hS=>?_));refine aG ?_;refine bD (aN hS.k rfl) (fun _=>?_) fun q=>(by cases q);refine dY ?_;refine bF (dC ?_);refine aBB hS (show (F2 W0).pl 17 5=some ([3,4,5,0,1,6,2,7,8],[(9,[])]) from by kernel_rfl) (by kernel_rfl) ?_;refine aQ hS rfl rfl rfl rfl fun h hS=>aM hS rfl (hS.pk fun e hS=>?_);refine aQ hS rfl rfl rfl rfl fun h hS=>aM hS rfl (hS.pk fun e hS=>?_);refine aQ hS rfl rfl rfl rfl fun h hS=>pQ (j:=k) hS tiL rfl szN rfl (by repeat constructor) rfl (by omega) hx1 fun pv hS=>(hS.pk fun e hS=>?_)
   refine aQ hS rfl rfl rfl rfl fun h hS=>gG (j:=0) hS tiS rfl rfl rfl rfl (hS.pk fun e hS=>?_);refine aQ hS rfl rfl rfl rfl fun h hS=>gG (j:=2) hS tiS rfl rfl rfl rfl (hS.pk fun e hS=>?_);refine aQ hS rfl rfl rfl rfl fun h hS=>mG hS tiN rfl rfl rfl (by repeat constructor) (hS.pk fun e hS=>?_);refine aQ hS rfl rfl rfl rfl fun h hS=>aV hS rfl (aKS (hE _).1 (hE _).2.1 ha hb2 (hS.pk fun e hS=>?_));refine aQ hS rfl rfl rfl rfl fun h hS=>aV hS rfl (aOY hck (hS.pk fun e hS=>?_));refine aQ hS rfl rfl rfl rfl fun h hS=>aV hS rfl (aKR (hE _).2.2.1 (hE _).2.2.2 (hcf k▸hzP k) (hcf k▸hzP k) (hS.pk fun e hS=>?_));refine uD hS fun h hS=>?_;refine jW rfl rfl rfl (jX (j:=0) hS hβ szS rfl rfl rfl rfl rfl rfl fun h hS=>?_);refine⟨iE,?_⟩;refine kL ?_;refine dO ?_;refine aA rfl rfl rfl (aM hS rfl (hS.pk fun e hS=>?_));refine aA rfl rfl rfl (aT hS tiI rfl rfl rfl (qK (by omega) (by omega)) (hS.pk fun e hS=>?_));refine aA rfl rfl rfl (bK hS rfl (hS.pk fun e hS=>?_));refine aG ?_;rw[show ((k+1:Nat):Int)-1-1=((k:Nat):Int)-1 from by omega]at hS;exact⟨k,by omega,by omega,by rw[aPb (by omega)];exact hS.inv _ _ ⟨rfl,rfl,rfl,rfl,rfl,trivial⟩ (List.Sublist.refl _)⟩
 ·rintro x e h1 ⟨rfl,hS⟩;show Xw (F2 W0) _ _ _ e h1 _;refine aS ?_;refine aA rfl rfl rfl (gG (j:=0) hS tiS rfl rfl rfl rfl (hS.pk fun e hS=>?_));refine fO rfl rfl (jX (j:=1) hS hβ szS rfl rfl rfl rfl rfl rfl fun h hS=>?_);refine aG ?_;rw[eβ]at hS;refine fJ ⟨_,aCn (j:=1) hS (.inr rfl) rfl rfl tiS rfl rfl rfl,rfl,hS.out⟩
end
end Go.Proofs.YthjhkhlafhjjmaaGreatDoor.E
namespace Go.Proofs.YthjhkhlafhjjmaaGreatDoor.E
open Go Go.RowKit
open Ma Me K Go.Proofs.YthjhkhlafhjjmaaGreatDoor.Po
section
variable {W0:World} {g:H}
theorem aSn{xs ys:List Rat}(hl:xs.length=ys.length)(h:∀j,j<xs.length→cf xs j=cf ys j):xs=ys:=by
 rw[←aGa xs,←aGa ys,←hl];exact nU h
theorem aSo{x y:Rat}(h:x≠y):rc x y≠0:=by
 rcases aBp x y with⟨h1,h2⟩|⟨h1,h2⟩|⟨h1,h2⟩
 ·rw[h2];decide
 ·exact absurd h1 h
 ·rw[h2];decide
theorem aPc{v1 v2:AV}{xs ys:List Rat}(hl1:IsL [] g v1 xs)(hl2:IsL [] g v2 ys)(hn1:xs.length<1000000)(hz1:∀x∈xs,Ma.sz x≤aX)(hz2:∀x∈ys,Ma.sz x≤aX):
  Xc (F2 W0) 9 [v1,v2] g fun u h'=>u=sc (.b (decide (xs=ys)))∧Xh g h':=by
 refine jL Tryz.func9 rfl (by kernel_rfl) (by kernel_rfl) (s:=[(0,v1),(1,v2)]) rfl (kn1 rfl (kn1 rfl kn0)) (lI hl1 (lI hl2 mV)) fun β e eβ hS=>?_;refine aS ?_;refine aA rfl rfl rfl (bK hS rfl (hS.pk fun e hS=>?_));refine aG ?_;refine bF (aS ?_);by_cases hlen:xs.length=ys.length
 rotate_left
 ·refine aA rfl rfl rfl (aM hS rfl (hS.pk fun e hS=>?_));refine aA rfl rfl rfl (fK hS tiL rfl rfl (by repeat constructor) (hS.pk fun e hS=>?_));refine aA rfl rfl rfl (aM hS rfl (hS.pk fun e hS=>?_));refine aA rfl rfl rfl (fK hS tiL rfl rfl (by repeat constructor) (hS.pk fun e hS=>?_));refine aA rfl rfl rfl (aT hS tiI rfl rfl rfl (aNc (by omega)) (hS.pk fun e hS=>?_));refine aG ?_;refine bD (aN hS.k rfl) (fun _=>?_) fun q=>(by cases q);refine aS ?_;refine aA rfl rfl rfl (bK hS rfl (hS.pk fun e hS=>?_));refine aG ?_;rw[eβ]at hS;refine fJ ⟨_,leave1 hS (.inr rfl) rfl rfl,?_,hS.out⟩;rw[decide_eq_false fun q=>hlen (by rw[q])];rfl
 refine aA rfl rfl rfl (aM hS rfl (hS.pk fun e hS=>?_));refine aA rfl rfl rfl (fK hS tiL rfl rfl (by repeat constructor) (hS.pk fun e hS=>?_));refine aA rfl rfl rfl (aM hS rfl (hS.pk fun e hS=>?_));refine aA rfl rfl rfl (fK hS tiL rfl rfl (by repeat constructor) (hS.pk fun e hS=>?_));refine aA rfl rfl rfl (aT hS tiI rfl rfl rfl (aIm (by omega)) (hS.pk fun e hS=>?_));refine aG ?_;refine bD (aN hS.k rfl) (fun q=>by cases q) fun _=>?_;refine dY ?_;show Xw (F2 W0) _ _ _ e _ _;refine bF (aS ?_);refine aA rfl rfl rfl (bK hS rfl (hS.pk fun e hS=>?_));refine aG ?_;have hI:=hS.inv [(0,v1),(1,v2),(5,sc (.i .i64 ((0:Nat):Int)))] [] ⟨rfl,rfl,rfl,trivial⟩ (List.Sublist.refl _);refine dC (Xw.mono (Q:=fun x e h'=>(x=.x 0∧xs=ys∧St β g e [(0,v1)] h' [] [(v1,xs),(v2,ys)] [])∨(x=.r∧xs≠ys∧St β g e [(4,sc (.b false))] h' [] [(v1,xs),(v2,ys)] [])) (kK (fun r e h'=>∃i,i+r=xs.length∧(∀j,j<i→cf xs j=cf ys j)∧St β g e [(0,v1),(1,v2),(5,sc (.i .i64 ((i:Nat):Int)))] h' [] [(v1,xs),(v2,ys)] []) ?_ xs.length _ _ ⟨0,by omega,fun j hj=>by omega,hI⟩) ?_)
 ·rintro r e h1 ⟨i,hi,heq,hS⟩;by_cases hlt:i<xs.length
  ·refine bF (aS ?_);refine bJ [0,0] ty0 hS rfl ⟨⟩ fun e hS=>?_;refine aA rfl rfl rfl (fK hS tiL rfl rfl (by repeat constructor) (hS.pk fun e hS=>?_));refine aA rfl rfl rfl (aT hS tiI rfl rfl rfl (oJ (by omega)) (hS.pk fun e hS=>?_));refine aG ?_;refine bD (aN hS.k rfl) (fun _=>?_) fun q=>(by cases q);refine dY ?_;refine bF (dC ?_);refine w_d hS (show (F2 W0).pl 9 6=some ([0,1,2,4,5,6,3,7,8,9],[]) from by kernel_rfl) (by kernel_rfl) ?_;by_cases hc:cf xs i=cf ys i
   ·have hrc:rc (cf xs i) (cf ys i)=0:=(by rw[hc];exact aEb _);refine aQ hS rfl rfl rfl rfl fun h hS=>aM hS rfl (hS.pk fun e hS=>?_);refine aQ hS rfl rfl rfl rfl fun h hS=>aM hS rfl (hS.pk fun e hS=>?_);refine aQ hS rfl rfl rfl rfl fun h hS=>pQ (j:=i) hS tiL rfl szN rfl (by repeat constructor) rfl (by omega) (qW hlt) fun pv hS=>(hS.pk fun e hS=>?_)
    refine aQ hS rfl rfl rfl rfl fun h hS=>aM hS rfl (hS.pk fun e hS=>?_);refine aQ hS rfl rfl rfl rfl fun h hS=>aM hS rfl (hS.pk fun e hS=>?_);refine aQ hS rfl rfl rfl rfl fun h hS=>pQ (j:=i) hS tiL rfl szN rfl (by repeat constructor) rfl (by omega) (qW (by omega)) fun pv hS=>(hS.pk fun e hS=>?_)
    refine aQ hS rfl rfl rfl rfl fun h hS=>mG hS tiN rfl rfl rfl (by repeat constructor) (hS.pk fun e hS=>?_);refine aQ hS rfl rfl rfl rfl fun h hS=>mG hS tiN rfl rfl rfl (by repeat constructor) (hS.pk fun e hS=>?_);refine aQ hS rfl rfl rfl rfl fun h hS=>aV hS rfl (aEt (kT sz0 hz1 _) (kT sz0 hz2 _) (hS.pk fun e hS=>?_));refine aQ hS rfl rfl rfl rfl fun h hS=>aT hS tiI rfl rfl rfl (aIm hrc) (hS.pk fun e hS=>?_);refine uD hS fun h hS=>?_;refine kL ?_;refine bD (aN hS.k rfl) (fun q=>by cases q) fun _=>?_;refine dY ?_;refine dO ?_;refine aA rfl rfl rfl (aM hS rfl (hS.pk fun e hS=>?_));refine aA rfl rfl rfl (aT hS tiI rfl rfl rfl (iJ (by omega) (by omega)) (hS.pk fun e hS=>?_));refine aA rfl rfl rfl (bK hS rfl (hS.pk fun e hS=>?_));refine aG ?_;rw[show ((i:Nat):Int)+1=((i+1:Nat):Int) from by omega]at hS;exact⟨r-1,by omega,i+1,by omega,fun j hj=>by rcases Nat.lt_succ_iff_lt_or_eq.1 hj with h|h;exact heq j h;rw[h];exact hc,hS.inv [(0,v1),(1,v2),(5,sc (.i .i64 ((i+1:Nat):Int)))] [] ⟨rfl,rfl,rfl,trivial⟩ (List.Sublist.refl _)⟩
   ·have hrc:rc (cf xs i) (cf ys i)≠0:=aSo hc;refine aQ hS rfl rfl rfl rfl fun h hS=>aM hS rfl (hS.pk fun e hS=>?_);refine aQ hS rfl rfl rfl rfl fun h hS=>aM hS rfl (hS.pk fun e hS=>?_);refine aQ hS rfl rfl rfl rfl fun h hS=>pQ (j:=i) hS tiL rfl szN rfl (by repeat constructor) rfl (by omega) (qW hlt) fun pv hS=>(hS.pk fun e hS=>?_)
    refine aQ hS rfl rfl rfl rfl fun h hS=>aM hS rfl (hS.pk fun e hS=>?_);refine aQ hS rfl rfl rfl rfl fun h hS=>aM hS rfl (hS.pk fun e hS=>?_);refine aQ hS rfl rfl rfl rfl fun h hS=>pQ (j:=i) hS tiL rfl szN rfl (by repeat constructor) rfl (by omega) (qW (by omega)) fun pv hS=>(hS.pk fun e hS=>?_)
    refine aQ hS rfl rfl rfl rfl fun h hS=>mG hS tiN rfl rfl rfl (by repeat constructor) (hS.pk fun e hS=>?_);refine aQ hS rfl rfl rfl rfl fun h hS=>mG hS tiN rfl rfl rfl (by repeat constructor) (hS.pk fun e hS=>?_);refine aQ hS rfl rfl rfl rfl fun h hS=>aV hS rfl (aEt (kT sz0 hz1 _) (kT sz0 hz2 _) (hS.pk fun e hS=>?_));refine aQ hS rfl rfl rfl rfl fun h hS=>aT hS tiI rfl rfl rfl (aNc hrc) (hS.pk fun e hS=>?_);refine uD hS fun h hS=>?_;refine kL ?_;refine bD (aN hS.k rfl) (fun _=>?_) fun q=>(by cases q);refine aS ?_;refine aA rfl rfl rfl (bK hS rfl (hS.pk fun e hS=>?_));refine aG ?_;refine fJ ?_;exact .inr ⟨rfl,fun q=>hc (by rw[q]),hS.inv [(4,sc (.b false))] [] ⟨rfl,trivial⟩ (List.Sublist.refl _)⟩
  ·refine bF (aS ?_);refine bJ [0,0] ty0 hS rfl ⟨⟩ fun e hS=>?_;refine aA rfl rfl rfl (fK hS tiL rfl rfl (by repeat constructor) (hS.pk fun e hS=>?_));refine aA rfl rfl rfl (aT hS tiI rfl rfl rfl (qL (by omega)) (hS.pk fun e hS=>?_));refine aG ?_;refine bD (aN hS.k rfl) (fun q=>by cases q) fun _=>?_;refine jC ?_;exact .inl ⟨rfl,aSn hlen fun j hj=>heq j (by omega),hS.inv [(0,v1)] [] ⟨rfl,trivial⟩ (List.Sublist.refl _)⟩
 ·rintro x e h1 (⟨rfl,hxy,hS⟩|⟨rfl,hxy,hS⟩)
  ·show Xw (F2 W0) _ _ _ e h1 _;refine aS ?_;refine aA rfl rfl rfl (bK hS rfl (hS.pk fun e hS=>?_));refine aG ?_;rw[eβ]at hS;refine fJ ⟨_,leave1 hS (.inr rfl) rfl rfl,?_,hS.out⟩;rw[decide_eq_true hxy];rfl
  ·rw[eβ]at hS;refine⟨_,leave1 hS (.inr rfl) rfl rfl,?_,hS.out⟩;rw[decide_eq_false hxy];rfl
end
end Go.Proofs.YthjhkhlafhjjmaaGreatDoor.E
