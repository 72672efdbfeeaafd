/- FilterFamilies holds. No condition. -/
import Derived.Deep.RegionHeld
import Derived.IntWalk
import Derived.Maps.AppendAt
import Derived.OwnWalk
import Derived.Test.YtohcfjmkfflkpaaGreatDoorProg
import Derived.Test.YtohcfjmkfflkpaaGreatDoorQf02
namespace Go.Proofs.YtohcfjmkfflkpaaGreatDoor
namespace Po
def sm(f:Nat→Rat):Nat→Rat
 |0=>0
 |n+1=>sm f n+f n
section
variable {f g h:Nat→Rat} {n m k:Nat} {c:Rat}
theorem eD:∀{n:Nat},(∀i,i<n→f i=g i)→sm f n=sm g n
 |0,_=>rfl
 |n+1,hh=>by
  unfold sm;rw[eD (n:=n) (fun i hi=>hh i (by omega)),hh n (by omega)]
theorem aEC:∀n:Nat,sm (fun i=>f i+g i) n=sm f n+sm g n
 |0=>by unfold sm;grind
 |n+1=>by unfold sm;rw[aEC n];grind
theorem aED(c:Rat):∀n:Nat,sm (fun i=>c*f i) n=c*sm f n
 |0=>by unfold sm;grind
 |n+1=>by unfold sm;rw[aED c n];grind
theorem aGW(c:Rat):∀n:Nat,sm (fun i=>f i*c) n=sm f n*c
 |0=>by unfold sm;grind
 |n+1=>by unfold sm;rw[aGW c n];grind
theorem jF:∀n:Nat,(∀i,i<n→f i=0)→sm f n=0
 |0,_=>rfl
 |n+1,hh=>by unfold sm;rw[jF n (fun i hi=>hh i (by omega)),hh n (by omega)];grind
theorem aBn:∀n:Nat,sm f (n+1)=f 0+sm (fun i=>f (i+1)) n
 |0=>by simp only[sm];grind
 |n+1=>by
  rw[show sm f (n+1+1)=sm f (n+1)+f (n+1) from rfl,aBn n];rw[show sm (fun i=>f (i+1)) (n+1)=sm (fun i=>f (i+1)) n+f (n+1) from rfl];grind
theorem aEE:∀{n:Nat} {f:Nat→Rat},sm f n=sm (fun i=>f (n-1-i)) n
 |0,_=>rfl
 |n+1,f=>by
  rw[aBn n (f:=fun i=>f (n+1-1-i))];rw[show sm f (n+1)=sm f n+f n from rfl,aEE (n:=n) (f:=f)];have e:sm (fun i=>f (n+1-1-(i+1))) n=sm (fun i=>f (n-1-i)) n:=eD (fun i hi=>by congr 1;omega);rw[e];have:f (n+1-1-0)=f n:=(by congr 1);rw[this];grind
theorem aJR(F:Nat→Nat→Rat):∀n:Nat,sm (fun i=>sm (fun j=>F j (i-j)) (i+1)) n=sm (fun j=>sm (fun l=>F j l) (n-j)) n
 |0=>rfl
 |n+1=>by
  rw[show sm (fun i=>sm (fun j=>F j (i-j)) (i+1)) (n+1)=sm (fun i=>sm (fun j=>F j (i-j)) (i+1)) n+sm (fun j=>F j (n-j)) (n+1) from rfl,aJR F n];rw[show sm (fun j=>sm (fun l=>F j l) (n+1-j)) (n+1)=sm (fun j=>sm (fun l=>F j l) (n+1-j)) n+sm (fun l=>F n l) (n+1-n) from rfl];have e:sm (fun j=>sm (fun l=>F j l) (n+1-j)) n=sm (fun j=>sm (fun l=>F j l) (n-j)+F j (n-j)) n:=eD (fun j hj=>by
    rw[show n+1-j=(n-j)+1 by omega];rfl)
  rw[e,aEC];rw[show sm (fun j=>F j (n-j)) (n+1)=sm (fun j=>F j (n-j)) n+F n (n-n) from rfl];rw[show n+1-n=0+1 by omega,Nat.sub_self];have:sm (fun l=>F n l) (0+1)=F n 0:=(by simp only[sm];grind);rw[this];grind
theorem aCK:∀{n:Nat} (d:Nat),(∀i,n≤i→f i=0)→sm f (n+d)=sm f n
 |n,0,_=>rfl
 |n,d+1,hh=>by
  rw[show sm f (n+(d+1))=sm f (n+d)+f (n+d) from rfl,aCK d hh,hh _ (by omega)];grind
end
theorem aL6(x:Rat)(a:Nat):∀b:Nat,x^(a+b)=x^a*x^b
 |0=>by rw[Nat.add_zero,Rat.pow_zero];grind
 |b+1=>by rw[←Nat.add_assoc,Rat.pow_succ,Rat.pow_succ,aL6 x a b];grind
def cv(f g:Nat→Rat)(k:Nat):Rat:=sm (fun i=>f i*g (k-i)) (k+1)
section
variable {f g h:Nat→Rat}
theorem mU(k:Nat):cv f g k=cv g f k:=by
 unfold cv;rw[aEE];exact eD (fun i hi=>by
  rw[show k+1-1-i=k-i by omega,show k-(k-i)=i by omega];grind)
theorem eU{f' g':Nat→Rat}(h1:∀i,f i=f' i)(h2:∀i,g i=g' i)(k:Nat):cv f g k=cv f' g' k:=eD (fun i _=>by rw[h1,h2])
theorem aEF(k:Nat):cv (fun i=>f i+g i) h k=cv f h k+cv g h k:=by
 unfold cv;rw[←aEC];exact eD (fun i _=>by grind)
theorem aEG(k:Nat):cv (cv f g) h k=cv f (cv g h) k:=by
 unfold cv;have e1:sm (fun i=>sm (fun i_1=>f i_1*g (i-i_1)) (i+1)*h (k-i)) (k+1)=sm (fun i=>sm (fun j=>f j*(g (i-j)*h (k-j-(i-j)))) (i+1)) (k+1):=eD (fun i hi=>by
  rw[←aGW];exact eD (fun j hj=>by rw[show k-j-(i-j)=k-i by omega];grind))
 rw[e1,aJR (fun j l=>f j*(g l*h (k-j-l)))];exact eD (fun j hj=>by
  rw[aED,show k+1-j=k-j+1 by omega])
end
def cf(p:List Rat)(n:Nat):Rat:=(p[n]?).getD 0
def ct:List Rat→List Rat
 | []=>[]
 |a::t=>match ct t with
  | []=>if a=0 then [] else [a]
  |b::l=>a::b::l
def Nz(p:List Rat):Prop:=p=[]∨cf p (p.length-1)≠0
theorem nC(n:Nat):cf [] n=0:=by simp[cf]
theorem vP(a:Rat)(t:List Rat):cf (a::t) 0=a:=by simp[cf]
theorem rG(a:Rat)(t:List Rat)(n:Nat):cf (a::t) (n+1)=cf t n:=by simp[cf]
theorem dS{p:List Rat}{n:Nat}(h:p.length≤n):cf p n=0:=by unfold cf;rw[List.getElem?_eq_none h];rfl
theorem gV:∀(p:List Rat) (n:Nat),cf (ct p) n=cf p n
 | [],n=>rfl
 |a::t,n=>by
  have ih:=gV t;unfold ct;cases e:ct t with
  |nil=>
   rw[e]at ih;dsimp only;by_cases ha:a=0
   ·rw[if_pos ha];cases n with
    |zero=>rw[nC,vP,ha]
    |succ n=>rw[rG,←ih n,nC,nC]
   ·rw[if_neg ha];cases n with
    |zero=>rw[vP,vP]
    |succ n=>rw[rG,rG,←ih n]
  |cons b l=>
   rw[e]at ih;dsimp only;cases n with
   |zero=>rw[vP,vP]
   |succ n=>rw[rG,rG,ih n]
theorem nD:∀p:List Rat,Nz (ct p)
 | []=>Or.inl rfl
 |a::t=>by
  have ih:=nD t;unfold ct;cases e:ct t with
  |nil=>
   dsimp only;by_cases ha:a=0
   ·rw[if_pos ha];exact Or.inl rfl
   ·rw[if_neg ha];exact Or.inr (by simpa [cf] using ha)
  |cons b l=>
   rw[e]at ih;refine Or.inr ?_;rcases ih with ih|ih
   ·cases ih
   ·dsimp only;rw[show (a::b::l).length-1=((b::l).length-1)+1 by simp,rG];exact ih
theorem aEH{p q:List Rat}(hp:Nz p)(h:∀n,cf p n=cf q n):p.length≤q.length:=by
 rcases hp with rfl|hp
 ·exact Nat.zero_le _
 ·rcases Nat.lt_or_ge q.length p.length with hlt|hge
  ·exact absurd ((h _).trans (dS (by omega))) hp
  ·exact hge
theorem xA{p q:List Rat}(hp:Nz p)(hq:Nz q)(h:∀n,cf p n=cf q n):p=q:=by
 have hl:p.length=q.length:=Nat.le_antisymm (aEH hp h) (aEH hq (fun n=>(h n).symm));refine List.ext_getElem hl (fun i h1 h2=>?_);have:=h i;unfold cf at this;rw[List.getElem?_eq_getElem h1,List.getElem?_eq_getElem h2]at this;exact this
def mkP(n:Nat)(f:Nat→Rat):List Rat:=(List.range n).map f
theorem bH{n:Nat}{f:Nat→Rat}:(mkP n f).length=n:=by simp[mkP]
theorem fT{n:Nat}{f:Nat→Rat}(k:Nat):cf (mkP n f) k=if k<n then f k else 0:=by
 unfold cf mkP;split
 ·rename_i h;simp[h]
 ·rename_i h;rw[List.getElem?_eq_none (by simp;omega)];rfl
theorem mkP_cf'{n:Nat}{f:Nat→Rat}(h:∀i,n≤i→f i=0)(k:Nat):cf (mkP n f) k=f k:=by
 rw[fT];split
 ·rfl
 ·exact (h k (by omega)).symm
def lK(p q:List Rat):List Rat:=ct (mkP (max p.length q.length) fun i=>cf p i+cf q i)
def bL(p q:List Rat):List Rat:=if ct p=[]∨ct q=[] then [] else mkP ((ct p).length+(ct q).length-1) (cv (cf (ct p)) (cf (ct q)))
theorem aAx(p q:List Rat)(n:Nat):cf (lK p q) n=cf p n+cf q n:=by
 unfold lK;rw[gV,mkP_cf' (fun i hi=>by rw[dS (by omega),dS (by omega)];grind)]
theorem aGX{p q:List Rat}{k:Nat}(h:p.length+q.length≤k+1):cv (cf p) (cf q) k=0:=by
 refine jF _ (fun i hi=>?_);rcases Nat.lt_or_ge i p.length with h1|h1
 ·rw[dS (p:=q) (by omega)];grind
 ·rw[dS (p:=p) h1];grind
theorem nU(p q:List Rat)(n:Nat):cf (bL p q) n=cv (cf p) (cf q) n:=by
 unfold bL;have hc:cv (cf p) (cf q) n=cv (cf (ct p)) (cf (ct q)) n:=eU (fun i=>(gV p i).symm) (fun i=>(gV q i).symm) n;rw[hc];split
 ·rename_i h;rw[nC];rcases h with h|h
  ·rw[h];exact (jF _ (fun i _=>by rw[nC];grind)).symm
  ·rw[h];exact (jF _ (fun i _=>by rw[nC];grind)).symm
 ·rename_i h;exact mkP_cf' (fun i hi=>aGX (by omega)) n
theorem aQJ{p q:List Rat}(hp:0<p.length)(hq:0<q.length):cv (cf p) (cf q) (p.length+q.length-2)=cf p (p.length-1)*cf q (q.length-1):=by
 unfold cv;have e:p.length+q.length-2+1=(p.length-1)+((q.length-1)+1):=by omega
 rw[e];have split:∀(d a:Nat) (F:Nat→Rat),sm F (a+(d+1))=sm F a+sm (fun i=>F (a+i)) (d+1):=by
  intro d a F
  induction d with
  |zero=>simp only[sm];grind
  |succ d ih=>
   rw[show sm F (a+(d+1+1))=sm F (a+(d+1))+F (a+(d+1)) from rfl,ih];rw[show sm (fun i=>F (a+i)) (d+1+1)=sm (fun i=>F (a+i)) (d+1)+F (a+(d+1)) from rfl];grind
 rw[split,aBn];rw[jF (f:=fun i=>cf p i*cf q (p.length+q.length-2-i)) (p.length-1) (fun i hi=>by rw[dS (p:=q) (by omega)];grind)];rw[jF (f:=fun i=>(fun i=>cf p (p.length-1+i)*cf q (p.length+q.length-2-(p.length-1+i))) (i+1)) (q.length-1) (fun i hi=>by
  show cf p (p.length-1+(i+1))*_=0;rw[dS (p:=p) (by omega)];grind)]
 rw[Nat.add_zero,show p.length+q.length-2-(p.length-1)=q.length-1 by omega];grind
theorem aGY(p q:List Rat):Nz (bL p q):=by
 unfold bL;split
 ·exact Or.inl rfl
 ·rename_i h;have hp:0<(ct p).length:=by
   rcases Nat.eq_zero_or_pos (ct p).length with e|e
   ·exact absurd (Or.inl (List.eq_nil_of_length_eq_zero e)) h
   ·exact e
  have hq:0<(ct q).length:=by
   rcases Nat.eq_zero_or_pos (ct q).length with e|e
   ·exact absurd (Or.inr (List.eq_nil_of_length_eq_zero e)) h
   ·exact e
  refine Or.inr ?_;rw[bH,fT,if_pos (by omega),show (ct p).length+(ct q).length-1-1=(ct p).length+(ct q).length-2 by omega,aQJ hp hq];have h1:cf (ct p) ((ct p).length-1)≠0:=(nD p).resolve_left (fun e=>h (Or.inl e));have h2:cf (ct q) ((ct q).length-1)≠0:=(nD q).resolve_left (fun e=>h (Or.inr e));exact fun e=>(Rat.mul_eq_zero.1 e).elim h1 h2
theorem aGZ(p q:List Rat):Nz (lK p q):=nD _
end Po
section
namespace Ja
open Go
section
variable {P:Program} {ops:Array Oper} {Q:Exit→Act→World→Prop}
def aDU(ops:Array Oper)(j:Nat):Option Tmp:=(ops[j]?).bind (·.dst)
def kN(ops:Array Oper)(L:Nat→Bool)(vals:Nat→Value):Nat→Act→Act
 |0,a=>a
 |n+1,a=>if L n=true then (kN ops L vals n a).put (aDU ops n) (vals n) else kN ops L vals n a
def upd{α:Type}(f:Nat→α)(i:Nat)(v:α):Nat→α:=fun j=>if j=i then v else f j
theorem yU{L L':Nat→Bool}{vals vals':Nat→Value}{a:Act}:∀n,(∀j,j<n→L j=L' j)→(∀j,j<n→L j=true→vals j=vals' j)→kN ops L vals n a=kN ops L' vals' n a
 |0,_,_=>rfl
 |n+1,h,h2=>by
  unfold kN;rw[yU n (fun j hj=>h j (by omega)) (fun j hj=>h2 j (by omega)),h n (by omega)];split
  ·rename_i hl;rw[h2 n (by omega) ((h n (by omega)).trans hl)]
  ·rfl
theorem aIc{L:Nat→Bool}{vals:Nat→Value}{a:Act}{i:Nat}{v:Value}(hi:L i=false)(hd:∀j,j≠i→∀d,aDU ops j=some d→aDU ops i≠some d):∀n,i<n→(kN ops L vals n a).put (aDU ops i) v=kN ops (upd L i true) (upd vals i v) n a
 |0,h=>absurd h (by omega)
 |n+1,h=>by
  by_cases hin:i=n
  ·subst hin;unfold kN;rw[if_neg (by simp[hi]),if_pos (by simp[upd])];rw[yU (L:=upd L i true) (L':=L) (vals:=upd vals i v) (vals':=vals) i (fun j hj=>by simp[upd,Nat.ne_of_lt hj]) (fun j hj _=>by simp[upd,Nat.ne_of_lt hj])];simp[upd]
  ·have ih:=aIc (vals:=vals) (a:=a) (v:=v) hi hd n (by omega);unfold kN;have hn:n≠i:=fun e=>hin e.symm;have h1:upd L i true n=L n:=(by simp[upd,hn]);have h2:upd vals i v n=vals n:=(by simp[upd,hn]);rw[h1,h2];split
   ·rw[←ih];exact Act.put_comm _ _ _ (fun d hd'=>hd n hn d hd')
   ·exact ih
theorem aL7(a:Act)(d:Option Tmp)(v:Value):(a.put d v).tmps.size=a.tmps.size:=by
 cases d<;>simp[Act.put]
theorem aJS{L:Nat→Bool}{vals:Nat→Value}{a:Act}:∀n,(kN ops L vals n a).tmps.size=a.tmps.size
 |0=>rfl
 |n+1=>by unfold kN;split<;>simp[aL7,aJS n]
def left(L:Nat→Bool):Nat→Nat
 |0=>0
 |n+1=>left L n+if L n=true then 0 else 1
theorem aBN{L L':Nat→Bool}:∀n,(∀j,j<n→L j=L' j)→left L n=left L' n
 |0,_=>rfl
 |n+1,h=>by unfold left;rw[aBN n (fun j hj=>h j (by omega)),h n (by omega)]
theorem left_upd{L:Nat→Bool}{i:Nat}(hi:L i=false):∀n,i<n→left (upd L i true) n+1=left L n
 |0,h=>absurd h (by omega)
 |n+1,h=>by
  unfold left;by_cases hin:i=n
  ·subst hin;rw[aBN (L:=upd L i true) (L':=L) i (fun j hj=>by simp[upd,Nat.ne_of_lt hj])];simp[upd,hi]
  ·have ih:=left_upd hi n (by omega);have hn:n≠i:=fun e=>hin e.symm;have h1:upd L i true n=L n:=(by simp[upd,hn]);rw[h1];omega
theorem left_zero{L:Nat→Bool}:∀n,left L n=0→∀j,j<n→L j=true
 |0,_,j,hj=>absurd hj (by omega)
 |n+1,h,j,hj=>by
  unfold left at h;by_cases hL:L n=true
  ·by_cases hjn:j=n
   ·subst hjn;exact hL
   ·exact left_zero n (by omega) j (by omega)
  ·rw[if_neg hL]at h;omega
theorem left_le{L:Nat→Bool}:∀n,left L n≤n
 |0=>Nat.le_refl _
 |n+1=>by unfold left;have:=left_le (L:=L) n;split<;>omega
end
end Ja
end
namespace Me
open Go.RowKit
open Ma
theorem aL8{P:Program}{κ:IntKind}{w:World}{g n cap:Nat}{e:TypeId}{ds:List Nat}(hb:Blk κ w g e ds)(hl:ds.length=cap)(hn:n<cap)(t ty:TypeId)(i:TypeInfo)(ht:P.underlying t=some (.slice e))(hi:P.info? e=some i)(hs:i.size=1)(ad:Addr)(c:Nat)(x:Int)(d:Nat)(hx:x=(d:Int))(hc:w.cell? ad=some (.int κ x)):∃w',(Builtin.append_ #[t,t] ty #[.slice (some ⟨g,0,none⟩) n cap,.slice (some ad) 1 c]).run P w=.ok (.slice (some ⟨g,0,none⟩) (n+1) cap) w'∧
   Blk κ w' g e (ds.set n d)∧w.grownBy w' (some g):=by
 subst hx
 have hr:=run_append_room (P:=P) w t ty e i ht hi g n cap (nums κ ds).toArray hb ad 1 c [.int κ (d:Int)] (by rw[hs];rfl)
  (by intro j u hu
      rcases j with _|j
      ·simp only[List.getElem?_cons_zero,Option.some.injEq]at hu;subst hu;simpa [Addr.add] using hc
      ·simp at hu)
  (by simp[Value.oneCell']) (by omega) (by rw[hs];simp[nums];omega)
 rw[hs,Nat.mul_one]at hr;refine⟨_,hr,?_,⟨rfl,rfl,rfl,by simp,fun k _ hk=>setRow_other w g k _ (fun e=>hk (by simp[e]))⟩⟩;have h:=setRow_heap w g (nums κ ds).toArray ((List.take n (nums κ ds).toArray.toList++[Value.int κ (d:Int)]++List.drop (n+1) (nums κ ds).toArray.toList)).toArray e (0,0) hb;refine h.trans ?_;have e1:List.take n (nums κ ds).toArray.toList++[Value.int κ (d:Int)]++List.drop (n+1) (nums κ ds).toArray.toList=nums κ (ds.set n d):=by
  rw[←aEi,List.set_eq_take_append_cons_drop,if_pos (by simp[nums];omega)];simp
 rw[e1]
theorem aBd{P:Program}{κ:IntKind}{w:World}{ops:Array Oper}{rest:List Oper}{o:Oper}{a:Act}{Q:Exit→Act→World→Prop}(hg:o.guard=none)(s x:Operand)(t:TypeId)(hop:o.op=Op.call {callee:=Callee.builtin Builtin.append,args:=#[s,x],argTypes:=#[t,t]})
  (e:TypeId) (i:TypeInfo) (h1:P.underlying t=some (.slice e)) (h2:P.info? e=some i) (h4:i.size=1)
  (g n cap:Nat) (ds:List Nat) (hs:a.eval s=.slice (some ⟨g,0,none⟩) n cap) (ad:Addr) (c:Nat) (hx:a.eval x=.slice (some ad) 1 c)
  (hb:Blk κ w g e ds) (hl:ds.length=cap) (hn:n<cap) (y:Int) (d:Nat) (hy:y=(d:Int)) (hc:w.cell? ad=some (.int κ y))
  (hK:∀w',Blk κ w' g e (ds.set n d)→w.grownBy w' (some g)→wpList P ops Q rest (a.put o.dst (.slice (some ⟨g,0,none⟩) (n+1) cap)) w'):
  wpList P ops Q (o::rest) a w:=by
 refine wpList_plain hg fun K hK'=>?_;obtain⟨w',hrun,r1,r2⟩:=aL8 (P:=P) hb hl hn t o.type i h1 h2 h4 ad c y d hy hc;unfold Oper.wp;simp[execOp,hop,resolve,invoke,builtin,hs,hx,hrun,Result.andThen];exact hK' _ _ (hK w' r1 r2)
theorem aAy{k:IntKind}{a b:Int}(h:a=b):Ending.returned (.int k a)=.returned (.int k b):=by rw[h]
theorem aBo{a b:Bool}(h:a=b):Ending.returned (.bool a)=.returned (.bool b):=by rw[h]
theorem eX(w:World)(v:Value)(t:TypeId):(w.alloc (.cells #[v] t)).cell? ⟨w.heap.size,0,none⟩=some v:=by
 rw[cell_of_row _ _ 0 _ t (0,0) (heap_alloc_new w _)];rfl
theorem aEI(j:Nat)(hj:j≤62):wrap64 ((2:Int)^j)=((2^j:Nat):Int):=by
 have h1:2^j≤2^62:=Nat.pow_le_pow_right (by decide) hj;have h2:2^j≤4611686018427387904:=h1;rw[show ((2:Int)^j)=((2^j:Nat):Int) from (Int.natCast_pow _ _).symm];generalize 2^j=f at*
 exact IntWalk.wrap64_in _ ⟨by omega,by omega⟩
theorem aGA{P:Program}(w:World)(base:Nat)(t ty e:TypeId)(i:TypeInfo)(size:Nat)(ht:P.underlying t=some (.slice e))(hi:P.info? e=some i)
  (v:Value) (n:Nat) (xs:List Value) (hown:w.ownsRow base e size v n xs) (c:Nat):(Builtin.append_ #[t,t] ty #[v,.slice none 0 c]).run P w=.ok v w:=by
 rcases hown.2 with⟨rfl,rfl⟩|⟨g,cap,cur,rfl,_,_,hnc,_⟩
 ·simp[Builtin.append_,run_underlying ht,sizeOf,typeInfo,hi,Builtin.lenOf,Builtin.firstCells]
 ·simp[Builtin.append_,run_underlying ht,sizeOf,typeInfo,hi,Builtin.lenOf,Builtin.firstCells,hnc,storeCells]
theorem aOQ{P:Program}{κ:IntKind}{w:World}(base:Nat)(t ty e:TypeId)(i:TypeInfo)(z:Value)(bytes:Nat)(ht:P.underlying t=some (.slice e))(hi:P.info? e=some i)(hz:i.zero=some z)(hsize:i.size=1)(hby:i.bytes=bytes)(hzs:z.cells.size=1)(v:Value)(n:Nat)(xs:List Nat)(hown:w.ownsRow base e 1 v n (nums κ xs))(B:Nat)(A:Option Addr)(m c:Nat)(ds:List Nat)(hm:ds.length=m)(hr:Rd κ w B A ds)(h63:n+m≤maxLen)(hbytes:(n+m)*bytes≤140737488355328)(hbase:base≤w.heap.size):∃v' w',(Builtin.append_ #[t,t] ty #[v,.slice A m c]).run P w=.ok v' w'∧w'.ownsRow base e 1 v' (n+m) (nums κ (xs++ds))∧w.grownBy w' v.ownBlock∧
   (v'.ownBlock=v.ownBlock∨v'.ownBlock=some w.heap.size):=by
 subst hm;rcases Nat.eq_zero_or_pos ds.length with h0|h0
 ·have hn:ds=[]:=List.eq_nil_of_length_eq_zero h0;subst hn;rcases A with _|ad
  ·exact⟨v,w,aGA w base t ty e i 1 ht hi v n _ hown c,by simpa using hown,World.grownBy.refl w _,.inl rfl⟩
  ·obtain⟨v',w',hrun,h2,h3,_,h5⟩:=run_append_own_at (P:=P) w base t ty e i z 1 bytes ht hi hz hsize hby hzs (by decide) v n _ hown ad 0 c [] rfl (by simp) (by simp) h63 hbytes hbase;exact⟨v',w',hrun,by simpa using h2,h3,h5⟩
 ·obtain⟨ad,rfl,_,hc,-⟩:=hr h0
  obtain⟨v',w',hrun,h2,h3,_,h5⟩:=run_append_own_at (P:=P) w base t ty e i z 1 bytes ht hi hz hsize hby hzs (by decide) v n _ hown ad ds.length c (nums κ ds) (by simp[nums])
   (by intro j u hu
       rw[aBi]at hu;obtain⟨d,hd,rfl⟩:=Option.map_eq_some_iff.1 hu;exact hc j d hd)
   (by intro u hu
       simp only[nums,List.mem_map]at hu;obtain⟨d,_,rfl⟩:=hu;rfl) h63 hbytes hbase
  exact⟨v',w',hrun,by simpa [nums] using h2,h3,h5⟩
theorem aBO{P:Program}{κ:IntKind}{w:World}{ops:Array Oper}{rest:List Oper}{o:Oper}{a:Act}{Q:Exit→Act→World→Prop}(hg:o.guard=none)(s x:Operand)(t:TypeId)(hop:o.op=Op.call {callee:=Callee.builtin Builtin.append,args:=#[s,x],argTypes:=#[t,t]})
  (base:Nat) (e:TypeId) (i:TypeInfo) (z:Value) (bytes:Nat) (ht:P.underlying t=some (.slice e)) (hi:P.info? e=some i) (hz:i.zero=some z)
  (hsize:i.size=1) (hby:i.bytes=bytes) (hzs:z.cells.size=1)
  (v:Value) (n:Nat) (xs:List Nat) (hs:a.eval s=v) (hown:w.ownsRow base e 1 v n (nums κ xs))
  (B:Nat) (A:Option Addr) (m c:Nat) (ds:List Nat) (hx:a.eval x=.slice A m c) (hm:ds.length=m) (hr:Rd κ w B A ds)
  (h63:n+m≤maxLen) (hbytes:(n+m)*bytes≤140737488355328) (hbase:base≤w.heap.size)
  (hK:∀v' w',w'.ownsRow base e 1 v' (n+m) (nums κ (xs++ds))→w.grownBy w' v.ownBlock→(v'.ownBlock=v.ownBlock∨v'.ownBlock=some w.heap.size)→wpList P ops Q rest (a.put o.dst v') w'):
  wpList P ops Q (o::rest) a w:=by
 refine wpList_plain hg fun K hK'=>?_;obtain⟨v',w',hrun,r1,r2,r3⟩:=aOQ (P:=P) base t o.type e i z bytes ht hi hz hsize hby hzs v n xs hown B A m c ds hm hr h63 hbytes hbase;unfold Oper.wp;simp[execOp,hop,resolve,invoke,builtin,hs,hx,hrun,Result.andThen];exact hK' _ _ (hK v' w' r1 r2 r3)
theorem aG0{κ:IntKind}{w:World}{base:Nat}{e:TypeId}{v:Value}{n:Nat}{ds:List Nat}(h:w.ownsRow base e 1 v n (nums κ ds))(hn:0<n)(he:e=aHY κ:=by rfl):
  ∃g cap,v=.slice (some ⟨g,0,none⟩) n cap∧base≤g∧g<w.heap.size∧n≤cap∧cap≤maxLen∧ds.length=n∧Rd κ w w.heap.size (some ⟨g,0,none⟩) ds:=by
 rcases h.2 with⟨_,rfl⟩|⟨g,cap,cur,rfl,hb,hh,hnc,hcm,hcs,htake⟩
 ·omega
 ·have hlt:g<w.heap.size:=by
   rcases Nat.lt_or_ge g w.heap.size with hlt|hge
   ·exact hlt
   ·rw[Array.getElem?_eq_none hge]at hh;cases hh
  refine⟨g,cap,rfl,hb,hlt,hnc,hcm,by have:=h.1;simpa [nums] using this,fun _=>⟨_,rfl,hlt,fun j d hd=>?_,_,_,by rw[←he];exact hh⟩⟩;have:=h.cells (g:=g) rfl j (.int κ (d:Int)) (by rw[aBi,hd];rfl);exact this
theorem aL9{κ:IntKind}(w:World){base:Nat}(e:TypeId)(x:Int)(d:Nat)(hx:x=(d:Int))(hb:base≤w.heap.size):
  (w.alloc (.cells #[.int κ x] e)).ownsRow base e 1 (.slice (some ⟨w.heap.size,0,none⟩) 1 1) 1 (nums κ [d]):=by
 subst hx;exact World.ownsRow_lit w #[.int κ (d:Int)] 1 hb (by unfold maxLen;omega) rfl
theorem Q.grown{a w w':World}{row:Option Nat}(h:Q a w)(hg:w.grownBy w' row)(hr:∀k,row=some k→a.heap.size≤k):Q a w':=Below.grown h hg (Below.size h) hr
section
variable {a b c w w':World} {g:Nat}
theorem Gr.refl(w:World)(g:Nat):w.grownBy w (some g):=World.grownBy.refl w _
theorem Gr.trans(h:a.grownBy b (some g))(k:b.grownBy c (some g)):a.grownBy c (some g):=World.grownBy.trans h k
theorem Gr.q(h:a.grownBy b (some g))(k:Q b c):a.grownBy c (some g):=
 ⟨k.os.trans h.os,k.tape.trans h.tape,k.output.trans h.output,Nat.le_trans h.size k.size,fun i hi hn=>(k.block i (Nat.lt_of_lt_of_le hi h.size)).trans (h.block i hi hn)⟩
theorem Gr.drewN(h:a.grownBy b (some g))(n:Nat):a.grownBy (b.drewN n) (some g):=⟨h.os,h.tape,h.output,h.size,h.block⟩
theorem Gr.alloc(h:a.grownBy b (some g))(o:Obj):a.grownBy (b.alloc o) (some g):=Gr.q h ((Q.refl _).alloc o)
theorem Gr.setCell(h:a.grownBy b (some g))(o:Nat)(u:Value):a.grownBy (b.setCell ⟨g,o,none⟩ u) (some g):=
 ⟨h.os,h.tape,h.output,by simpa [World.setCell] using h.size,fun i hi hn=>(Below.heap_setCell b _ u i (fun e=>hn (by rw[e]))).trans (h.block i hi hn)⟩
theorem Gr.cell(h:a.grownBy b (some g)){p:Addr}(hp:p.block<a.heap.size)(hg:p.block≠g):b.cell? p=a.cell? p:=
 World.cell?_of_block (h.block _ hp (fun e=>hg (by injection e)))
theorem Gr.heap(h:a.grownBy b (some g)){i:Nat}(hp:i<a.heap.size)(hg:i≠g):b.heap[i]? =a.heap[i]? :=h.block _ hp (fun e=>hg (by injection e))
theorem Q.gr(h:Q a b)(k:b.grownBy c (some g))(hg:a.heap.size≤g):Q a c:=Q.grown h k (fun i e=>by injection e with e;omega)
end
def Src(w:World)(g off:Nat)(A:Option Addr)(xs:List Nat):Prop:=
 0<xs.length→∃b o,A=some ⟨b,o,none⟩∧b<w.heap.size∧(b≠g∨b=g∧o=off)∧∀(j d:Nat),xs[j]? =some d→w.cell? ⟨b,o+j,none⟩=some (.int .u64 (d:Int))
structure Part (w w':World) (g t off k:Nat) (cs o:List Nat):Prop where
 blk:Blk .u64 w' g t (cs.take off++o++cs.drop (off+k))
 gr:w.grownBy w' (some g)
theorem Src.at_{w w':World}{g t off k n:Nat}{A:Option Addr}{xs cs o:List Nat}(h:Src w g off A xs)(hb:Blk .u64 w g t cs)(hp:Part w w' g t off k cs o)(ho:o.length=k)(hn:off+n≤cs.length)(hx:xs.length=n)(hk:k<n):
  ∃b q,A=some ⟨b,q,none⟩∧w'.cell? ⟨b,q+k,none⟩=some (.int .u64 ((xs[k]'(by omega):Nat):Int)):=by
 obtain⟨b,q,rfl,hlt,hcase,hc⟩:=h (by omega);refine⟨b,q,rfl,?_⟩;have h0:=hc k _ (List.getElem?_eq_getElem (by omega));rcases hcase with hne|⟨rfl,rfl⟩
 ·rw[Gr.cell hp.gr (p:=⟨b,q+k,none⟩) hlt hne];exact h0
 ·rw[←h0,cell_of_row w' b (q+k) _ t (0,0) hp.blk,cell_of_row w b (q+k) _ t (0,0) hb];simp only[nums,List.getElem?_toArray,List.getElem?_map];rw[wV ho (by omega) (by omega)]
theorem Src.nil{w:World}{g off:Nat}{A:Option Addr}:Src w g off A []:=fun h=>absurd h (by simp)
theorem Src.after{w w1:World}{g t off k cap:Nat}{A:Option Addr}{xs cs o:List Nat}(h:Src w g off A xs)(hb:Blk .u64 w g t cs)(hp1:Blk .u64 w1 g t (cs.take off++o++cs.drop (off+k)))(hp2:w.grownBy w1 (some g))(ho:o.length=k)(hk:k≤xs.length)(hoff:off+xs.length≤cs.length)(hc:xs.length≤cap):
  Src w1 g (off+k) (if cap=k then A else A.map (·.add k)) (xs.drop k):=by
 intro hn;rw[List.length_drop]at hn;obtain⟨b,q,rfl,hlt,hcase,hcell⟩:=h (by omega);rw[if_neg (by omega)];refine⟨b,q+k,by simp[jW],Nat.lt_of_lt_of_le hlt hp2.size,?_,fun j d hd=>?_⟩
 ·rcases hcase with h1|⟨rfl,rfl⟩
  ·exact Or.inl h1
  ·exact Or.inr ⟨rfl,rfl⟩
 ·rw[List.getElem?_drop]at hd;have h0:=hcell (k+j) d hd;have hkj:k+j<xs.length:=(List.getElem?_eq_some_iff.1 hd).1;rw[Nat.add_assoc];rcases hcase with hne|⟨rfl,rfl⟩
  ·rw[Gr.cell hp2 (p:=⟨b,q+(k+j),none⟩) hlt hne];exact h0
  ·rw[←h0,cell_of_row w1 b (q+(k+j)) _ t (0,0) hp1,cell_of_row w b (q+(k+j)) _ t (0,0) hb];simp only[nums,List.getElem?_toArray,List.getElem?_map];rw[wV ho (by omega) (by omega)]
theorem Src.q{w w':World}{g off:Nat}{A:Option Addr}{xs:List Nat}(h:Src w g off A xs)(hq:Q w w'):Src w' g off A xs:=fun hn=>by
 obtain⟨b,o,e,hlt,hcase,hc⟩:=h hn;exact⟨b,o,e,Nat.lt_of_lt_of_le hlt hq.size,hcase,fun j d hd=>(hq.cell hlt).trans (hc j d hd)⟩
def Rw(w:World)(A:Option Addr)(xs:List Nat):Prop:=
 0<xs.length→∃b o,A=some ⟨b,o,none⟩∧b<w.heap.size∧∀(j d:Nat),xs[j]? =some d→w.cell? ⟨b,o+j,none⟩=some (.int .u64 (d:Int))
section
variable {w w':World} {A:Option Addr} {xs:List Nat}
theorem Rw.nil:Rw w A []:=fun h=>absurd h (by simp)
theorem Rw.at_{k:Nat}(h:Rw w A xs)(hk:k<xs.length):∃b o,A=some ⟨b,o,none⟩∧b<w.heap.size∧w.cell? ⟨b,o+k,none⟩=some (.int .u64 (xs[k]:Int)):=by
 obtain⟨b,o,e,hb,hc⟩:=h (by omega);exact⟨b,o,e,hb,hc k _ (List.getElem?_eq_getElem hk)⟩
theorem Rw.head(h:Rw w A xs)(hk:0<xs.length):∃b o,A=some ⟨b,o,none⟩∧b<w.heap.size∧w.cell? ⟨b,o,none⟩=some (.int .u64 (xs[0]:Int)):=h.at_ hk
theorem Rw.q(h:Rw w A xs)(hq:Q w w'):Rw w' A xs:=fun hn=>by
 obtain⟨b,o,e,hb,hc⟩:=h hn;exact⟨b,o,e,Nat.lt_of_lt_of_le hb hq.size,fun j d hd=>(hq.cell hb).trans (hc j d hd)⟩
theorem Rw.drop(h:Rw w A xs){k cap:Nat}(hc:xs.length≤cap):Rw w (if cap=k then A else A.map (·.add k)) (xs.drop k):=by
 intro hn;rw[List.length_drop]at hn;obtain⟨b,o,rfl,hb,hcell⟩:=h (by omega);rw[if_neg (by omega)];refine⟨b,o+k,by simp[jW],hb,fun j d hd=>?_⟩;rw[List.getElem?_drop]at hd;rw[Nat.add_assoc];exact hcell _ d hd
theorem Rw.take(h:Rw w A xs)(k:Nat):Rw w A (xs.take k):=by
 intro hn;rw[List.length_take]at hn;obtain⟨b,o,rfl,hb,hcell⟩:=h (by omega);refine⟨b,o,rfl,hb,fun j d hd=>hcell j d ?_⟩;rw[List.getElem?_take]at hd;split at hd
 ·exact hd
 ·cases hd
theorem Rw.of_blk{g t:Nat}(h:Blk .u64 w g t xs):Rw w (some ⟨g,0,none⟩) xs:=fun _=>
 ⟨g,0,rfl,h.lt,fun j d hd=>by
  obtain⟨hj,rfl⟩:=List.getElem?_eq_some_iff.1 hd;rw[Nat.zero_add];exact h.cell hj⟩
theorem Rw.gr{g:Nat}(h:Rw w A xs)(hg:w.grownBy w' (some g))(hne:∀b o,A=some ⟨b,o,none⟩→b≠g):Rw w' A xs:=fun hn=>by
 obtain⟨b,o,rfl,hb,hc⟩:=h hn;exact⟨b,o,rfl,Nat.lt_of_lt_of_le hb hg.size,fun j d hd=>(Gr.cell hg (p:=⟨b,o+j,none⟩) hb (hne b o rfl)).trans (hc j d hd)⟩
theorem Src.of_rw{g off:Nat}(h:Rw w A xs)(hne:∀b o,A=some ⟨b,o,none⟩→b≠g):Src w g off A xs:=fun hn=>by
 obtain⟨b,o,rfl,hb,hc⟩:=h hn;exact⟨b,o,rfl,hb,Or.inl (hne b o rfl),hc⟩
theorem Src.old{g off:Nat}(h:Rw w A xs)(hq:Q w w')(hg:w.heap.size≤g):Src w' g off A xs:=fun hn=>by
 obtain⟨b,o,rfl,hb,hc⟩:=h hn;exact⟨b,o,rfl,Nat.lt_of_lt_of_le hb hq.size,Or.inl (by omega),fun j d hd=>(hq.cell hb).trans (hc j d hd)⟩
end
def Nm(w:World)(v:Value)(N:Nat):Prop:=
 ∃A c ws,v=.slice A ws.length c∧ws.length≤c∧Rw w A ws∧Wf W64 ws∧vl W64 ws=N
theorem Nm.q{w w':World}{v:Value}{N:Nat}(h:Nm w v N)(hq:Q w w'):Nm w' v N:=by
 obtain⟨A,c,ws,h1,h2,h3,h4,h5⟩:=h;exact⟨A,c,ws,h1,h2,h3.q hq,h4,h5⟩
theorem Nm.zero{w:World}(A:Option Addr)(c:Nat):Nm w (.slice A 0 c) 0:=⟨A,c,[],rfl,by simp,Rw.nil,Wf.nil,rfl⟩
theorem Nm.of_rw{w:World}{A:Option Addr}{k c N:Nat}{ds:List Nat}(h:Rw w A ds)(hk:k≤ds.length)(hc:k≤c)(hz:Nz (ds.take k))
  (hd:∀d∈ds,d<W64) (hv:vl W64 (ds.take k)=N):Nm w (.slice A k c) N:=by
 have hl:(ds.take k).length=k:=by rw[List.length_take,Nat.min_eq_left hk]
 exact⟨A,c,ds.take k,by rw[hl],by rw[hl];exact hc,h.take k,⟨aQ hd,hz⟩,hv⟩
def iN(N:Nat)(w:World)(e:Ending)(w':World):Prop:=∃v,e=.returned v∧Nm w' v N∧Q w w'∧Nw w.heap.size v
theorem Src.take{w:World}{g off:Nat}{A:Option Addr}{xs:List Nat}(h:Src w g off A xs)(k:Nat):Src w g off A (xs.take k):=by
 intro hn;rw[List.length_take]at hn;obtain⟨b,o,rfl,hlt,hcase,hc⟩:=h (by omega);refine⟨b,o,rfl,hlt,hcase,fun j d hd=>hc j d ?_⟩;rw[List.getElem?_take]at hd;split at hd
 ·exact hd
 ·cases hd
theorem Src.own{w:World}{g t off n:Nat}{cs:List Nat}(hb:Blk .u64 w g t cs):Src w g off (some ⟨g,off,none⟩) ((cs.drop off).take n):=by
 intro _;refine⟨g,off,rfl,hb.lt,Or.inr ⟨rfl,rfl⟩,fun j d hd=>?_⟩;rw[List.getElem?_take]at hd;split at hd
 ·rw[List.getElem?_drop]at hd;obtain⟨hj,rfl⟩:=List.getElem?_eq_some_iff.1 hd;exact hb.cell hj
 ·cases hd
end Me
namespace K
open Go.RowKit
open Ma Me
def Bx(w:World)(g:Nat)(t:TypeId)(row:List Value):Prop:=w.heap[g]? =some (.cells row.toArray t (0,0))
section
variable {w w' a:World} {g k i:Nat} {t:TypeId} {row l:List Value} {x:Value}
theorem Bx.lt(h:Bx w g t row):g<w.heap.size:=by
 rcases Nat.lt_or_ge g w.heap.size with hlt|hge
 ·exact hlt
 ·unfold Bx at h;rw[Array.getElem?_eq_none hge]at h;cases h
theorem Bx.cell(h:Bx w g t row)(i:Nat)(hx:row[i]? =some x):w.cell? ⟨g,i,none⟩=some x:=by
 unfold Bx at h;simp[World.cell?,h,hx]
theorem Bx.new(w:World)(t:TypeId)(row:List Value):Bx (w.alloc (.cells row.toArray t)) w.heap.size t row:=heap_alloc_new w _
end
def waits(ops:Array Oper)(i j:Nat):Bool:=match ops[i]? with|none=>false|some o=>o.after.any fun e=>Region.binds .any e && e.on == j
theorem aX{q:Rat}:sn q=0↔q=0:=by
 rcases bZ q with⟨h,e⟩|⟨h,e⟩|⟨h,e⟩
 ·rw[e];constructor
  ·intro h;omega
  ·rintro rfl;exact absurd h (by decide)
 ·rw[e];exact⟨fun _=>h,fun _=>rfl⟩
 ·rw[e];constructor
  ·intro h;omega
  ·rintro rfl;exact absurd h (by decide)
end K
section
open Go.RowKit
open Ma Me
section
variable {fn:Func} {R:Ending→World→Prop} {a:Act} {w:World} {g:Nat} {T:TypeId} {c t:Nat} {v0 v1 v2:Value}
theorem rz3(h0:w.cell? ⟨g,0,none⟩=some v0)(h1:w.cell? ⟨g,1,none⟩=some v1)(h2:w.cell? ⟨g,2,none⟩=some v2)(hR:R (.returned (.agg #[v0,v1,v2])) w)
  (hres:fn.results=#[.cell c T]:=by rfl) (hslot:a.tmps.getD c undef=.pointer (some ⟨g,0,none⟩):=by kernel_rfl) (hT:∀w,Sem.run Tryz.prog (isAgg T) w=.ok true w:=by intro _;kernel_rfl) (hS:∀w,Sem.run Tryz.prog (sizeOf T) w=.ok 3 w:=by intro _;kernel_rfl)
  (hd:a.defers=[]:=by rfl):bodyPost Tryz.prog fn R .ret a w:=by
 refine bodyPost_ret (v:=.agg #[v0,v1,v2]) ?_ hd hR;unfold results;rw[hres];rw[Array.getD_eq_getD_getElem?]at hslot;simp[go_sem,hslot,hT,hS,loadVar,loadCells,loadCellsFrom,Addr.add,h0,h1,h2]
theorem rt3(u:Value)(h0:w.cell? ⟨g,0,none⟩=some v0)(h1:w.cell? ⟨g,1,none⟩=some v1)(h2:w.cell? ⟨g,2,none⟩=some v2)(hR:R (.returned (.tuple #[.agg #[v0,v1,v2],u])) w)
  (hres:fn.results=#[.cell c T,.tmp t]:=by rfl) (hu:a.tmps.getD t undef=u:=by rfl) (hslot:a.tmps.getD c undef=.pointer (some ⟨g,0,none⟩):=by kernel_rfl) (hT:∀w,Sem.run Tryz.prog (isAgg T) w=.ok true w:=by intro _;kernel_rfl) (hS:∀w,Sem.run Tryz.prog (sizeOf T) w=.ok 3 w:=by intro _;kernel_rfl)
  (hd:a.defers=[]:=by rfl):bodyPost Tryz.prog fn R .ret a w:=by
 refine bodyPost_ret (v:=.tuple #[.agg #[v0,v1,v2],u]) ?_ hd hR;unfold results;rw[hres];rw[Array.getD_eq_getD_getElem?]at hslot hu;simp[go_sem,hslot,hu,hT,hS,loadVar,loadCells,loadCellsFrom,Addr.add,h0,h1,h2]
end
def bt(d:Nat):Nat:=if d=1 then 0 else d
theorem Me.Nm.parts{w:World}{x:Value}{N:Nat}(h:Nm w x N):∃A c,x=.slice A (dg W64 N) c∧dg W64 N≤c:=by
 obtain⟨A,c,xs,rfl,hc,rx,wx,rfl⟩:=h;rw[←wx.len aC];exact⟨A,c,rfl,hc⟩
def Nf(w:World)(v:Value)(s:Bool)(N D:Nat):Prop:=∃t b,v=.agg #[.bool s,t,b]∧Nm w t N∧Nm w b D
theorem Nf.q{w w':World}{v:Value}{s:Bool}{N D:Nat}(h:Nf w v s N D)(hq:Q w w'):Nf w' v s N D:=by
 obtain⟨t,b,h1,h2,h3⟩:=h;exact⟨t,b,h1,h2.q hq,h3.q hq⟩
theorem Nf.form{w:World}{v:Value}{s:Bool}{N D:Nat}(h:Nf w v s N D):∃A c A2 c2,v=.agg #[.bool s,.slice A (dg W64 N) c,.slice A2 (dg W64 D) c2]∧Nm w (.slice A (dg W64 N) c) N∧Nm w (.slice A2 (dg W64 D) c2) D:=by
 obtain⟨t,b,rfl,h2,h3⟩:=h;obtain⟨A,c,rfl,hc⟩:=h2.parts;obtain⟨A2,c2,rfl,hc2⟩:=h3.parts;exact⟨A,c,A2,c2,rfl,h2,h3⟩
theorem aCL{D:Nat}:dg W64 D=0↔D=0:=⟨fun h=>bM aC h,fun h=>by rw[h,aU]⟩
def Nq(w:World)(v:Value)(q:Rat):Prop:=Nf w v (decide (q.num<0)) q.num.natAbs (bt q.den)
theorem Nq.q{w w':World}{v:Value}{q:Rat}(h:Nq w v q)(hq:Q w w'):Nq w' v q:=Nf.q h hq
theorem aBe(q:Rat):bt q.den=0↔q.den=1:=by
 have:=q.den_pos;unfold bt;split<;>omega
theorem Nq.form{w:World}{v:Value}{q:Rat}(h:Nq w v q):∃s A1 n1 c1 A2 n2 c2,v=.agg #[.bool s,.slice A1 n1 c1,.slice A2 n2 c2]∧Hid (s=decide (q.num<0))∧Hid (n1=0↔q=0)∧Hid (n2=0↔q.den=1)∧Nm w (.slice A1 n1 c1) q.num.natAbs∧Nm w (.slice A2 n2 c2) (bt q.den):=by
 obtain⟨A1,c1,A2,c2,rfl,h1,h2⟩:=Nf.form h;refine⟨_,_,_,_,_,_,_,rfl,hZ rfl,hZ ?_,hZ ?_,h1,h2⟩
 ·rw[aCL];constructor
  ·intro h3;exact Rat.num_eq_zero.1 (by omega)
  ·intro h3;rw[h3];rfl
 ·rw[aCL,aBe]
end
namespace E
open Go
noncomputable section
inductive SV where
 |u
 |b (x:Bool)
 |i (k:IntKind) (n:Int)
 |s (l:List Nat)
 |np
 |p (id off:Nat)
 |ns
 |sl (id off len:Nat) (cap:Option Nat)
 |m (n:Nat)
 |nf
 |f (fn:Nat) (dX:List (Nat × Nat))
 |y (l:Nat)
 /--a natural number of the reference -/
 |r (n:Nat)
 /-- a value of the machine -/
 |v (x:Value)
inductive AV where
 |c (g:Bool) (l:List SV)
 |t (l:List (Bool × List SV))
instance:Inhabited AV:=⟨.t []⟩
def sc(x:SV):AV:=.c false [x]
def un:AV:=.t []
def cb{α:Type}(c:Bool)(x y:α):α:=Bool.rec (motive:=fun _=>α) y x c
def ob{α β:Type}(r:Option α)(f:α→Option β):Option β:=Option.rec (motive:=fun _=>Option β) none f r
structure N (α:Type) where
 a:α
 b:α
 c:α
 d:α
 e:α
 f:α
 g:α
 h:α
structure Ls (X Y:Type) where
 g:X→Y
 u:(Y→Y)→X→X
section
variable {X:Type}
def sA(k:X→X)(x:N X):N X:=N.rec (motive:=fun _=>N X) (fun a b c d e f g h=>⟨k a,b,c,d,e,f,g,h⟩) x
def sB(k:X→X)(x:N X):N X:=N.rec (motive:=fun _=>N X) (fun a b c d e f g h=>⟨a,k b,c,d,e,f,g,h⟩) x
def sC(k:X→X)(x:N X):N X:=N.rec (motive:=fun _=>N X) (fun a b c d e f g h=>⟨a,b,k c,d,e,f,g,h⟩) x
def sD(k:X→X)(x:N X):N X:=N.rec (motive:=fun _=>N X) (fun a b c d e f g h=>⟨a,b,c,k d,e,f,g,h⟩) x
def sE(k:X→X)(x:N X):N X:=N.rec (motive:=fun _=>N X) (fun a b c d e f g h=>⟨a,b,c,d,k e,f,g,h⟩) x
def sF(k:X→X)(x:N X):N X:=N.rec (motive:=fun _=>N X) (fun a b c d e f g h=>⟨a,b,c,d,e,k f,g,h⟩) x
def sG(k:X→X)(x:N X):N X:=N.rec (motive:=fun _=>N X) (fun a b c d e f g h=>⟨a,b,c,d,e,f,k g,h⟩) x
def sH(k:X→X)(x:N X):N X:=N.rec (motive:=fun _=>N X) (fun a b c d e f g h=>⟨a,b,c,d,e,f,g,k h⟩) x
def ls1(d:Nat):Ls (N X) X:=Nat.rec (motive:=fun _=>Ls (N X) X) ⟨N.a,sA⟩ (fun d _=>Nat.rec (motive:=fun _=>Ls (N X) X) ⟨N.b,sB⟩ (fun d _=>Nat.rec (motive:=fun _=>Ls (N X) X) ⟨N.c,sC⟩ (fun d _=>Nat.rec (motive:=fun _=>Ls (N X) X) ⟨N.d,sD⟩ (fun d _=>Nat.rec (motive:=fun _=>Ls (N X) X) ⟨N.e,sE⟩ (fun d _=>Nat.rec (motive:=fun _=>Ls (N X) X) ⟨N.f,sF⟩ (fun d _=>Nat.rec (motive:=fun _=>Ls (N X) X) ⟨N.g,sG⟩ (fun _ _=>⟨N.h,sH⟩) d) d) d) d) d) d) d
def Ls.cmp{Y Z:Type}(l:Ls X Y)(m:Ls Y Z):Ls X Z:=Ls.rec (motive:=fun _=>Ls X Z) (fun g u=>Ls.rec (motive:=fun _=>Ls X Z) (fun g2 u2=>⟨fun x=>g2 (g x),fun k x=>u (u2 k) x⟩) m) l
end
def T0(n:Nat)(α:Type):Type:=Nat.rec (motive:=fun _=>Type) (Option α) (fun _ X=>N X) n
def T0.ls(α:Type)(n:Nat):Nat→Ls (T0 n α) (Option α):=
 Nat.rec (motive:=fun n=>Nat→Ls (T0 n α) (Option α)) (fun k=>cb (Nat.beq k 0) ⟨fun x=>x,fun f x=>f x⟩ ⟨fun _=>none,fun _ x=>x⟩) (fun n ih k=>Ls.cmp (Y:=T0 n α) (ls1 (X:=T0 n α) (Nat.mod k 8)) (ih (Nat.div k 8))) n
def T0.lf{n:Nat}{α:Type}:T0 n α:=Nat.rec (motive:=fun n=>T0 n α) (none:Option α) (fun _ t=>(⟨t,t,t,t,t,t,t,t⟩:N _)) n
structure T (n:Nat) (α:Type) where
 t:T0 n α
 o:Nat→Option α
def T.u1{n:Nat}{α:Type}(k:T0 n α→T0 n α)(x:T n α):T n α:=T.rec (motive:=fun _=>T n α) (fun t o=>⟨k t,o⟩) x
def T.u2{n:Nat}{α:Type}(j:Nat)(f:Option α→Option α)(x:T n α):T n α:=T.rec (motive:=fun _=>T n α) (fun t o=>⟨t,fun i=>cb (Nat.beq i j) (f (o i)) (o i)⟩) x
def T.ls(α:Type)(n k:Nat):Ls (T n α) (Option α):=cb (Nat.blt k (Nat.pow 8 n)) (Ls.cmp (Y:=T0 n α) ⟨T.t,T.u1⟩ (T0.ls α n k)) ⟨fun x=>x.o k,T.u2 k⟩
def T.get{n:Nat}{α:Type}(t:T n α)(k:Nat):Option α:=Ls.rec (motive:=fun _=>Option α) (fun g _=>g t) (T.ls α n k)
def T.set{n:Nat}{α:Type}(x:α)(t:T n α)(k:Nat):T n α:=Ls.rec (motive:=fun _=>T n α) (fun _ u=>u (fun _=>some x) t) (T.ls α n k)
def T.lf{n:Nat}{α:Type}:T n α:=⟨T0.lf,fun _=>none⟩
def T.ofL{n:Nat}{α:Type}(l:List (Nat × α)):T n α:=List.rec (motive:=fun _=>T n α) .lf (fun p _ t=>T.set p.2 t p.1) l
def iL{α:Type}(n:Nat)(f:Nat→α):α:=Nat.rec (motive:=fun _=>α) (f 0) (fun m _=>f (Nat.succ m)) n
def aEJ{α:Type}(n:Int)(f:Int→α):α:=Int.rec (motive:=fun _=>α) (fun m=>iL m fun m=>f (.ofNat m)) (fun m=>iL m fun m=>f (.negSucc m)) n
inductive Dk where
 |int (k:IntKind)
 |str
 |bool
 |sl (e:Nat)
 |st (fs:List (Nat × Nat))
 |ar (n e:Nat)
 |pt
 |fn
 |no
structure TI where
 d:Dk
 sz:Nat
 by_:Nat
 ze:List SV
structure B where
 ty:Nat
 c:List SV
abbrev Env:=T 3 AV
structure Lp where
 fn:Nat
 nt:Nat
 e:Env
 ps:List Nat
 cs:Code
 bd:Code
 st:Bool
 pd:Option Code
 dd:Bool
 /-- an iterator of a string:its bytes,the place -/
 it:Option (List Nat × Nat)
structure H where
 h:T 5 B
 n:Nat
 bar:Nat
 l:T 5 Lp
structure Cf where
 P:Program
 /-- what is known of the start -/
 tb:World→Prop
 /-- the type of a natural number of package value -/
 nat:Nat
 pr:Nat→Option (List AV→Option AV)
 /-- the order in which a region that draws is computed:first what makes and reads,then what writes (with the loads that are read again) -/
 pl:Nat→Nat→Option (List Nat × List (Nat × List Nat))
 /-- calls that read lists:their results are known -/
 ph:Nat→Option (H→List AV→Option AV)
 /-- what is read of memory that is only read -/
 ro:Nat→Addr→Option AV
 /-- how many words a number has -/
 ln:Bool→Nat→Option Nat
def dk(d:TypeDesc):Dk:=match d with
 | .int k=>.int k
 | .string=>.str
 | .bool=>.bool
 | .slice e=>.sl e
 | .struct fs=>.st (fs.toList.map fun f=>(f.offset,f.type))
 | .array n e=>.ar n e
 | .pointer _=>.pt
 | .func _ _ _=>.fn
 |_=>.no
def aUo:Nat:=43
def tyR:Nat:=2
def zer(F:Cf)(d:Nat):Nat→List SV:=
 Nat.rec (motive:=fun _=>Nat→List SV) (fun _=>[]) (fun _ r t=>match F.P.underlying t with
  |none=>[]
  |some d=>match dk d with
   | .int k=>[.i k 0]
   | .str=>[.s []]
   | .bool=>[.b false]
   | .sl _=>cb (Nat.beq t F.nat) [.m 0] (cb (Nat.beq t aUo) [.r 0] [.ns])
   | .st fs=>(fs.map fun p=>r p.2).flatten
   | .ar n e=>(List.replicate n (r e)).flatten
   | .pt=>[.np]
   | .fn=>[.nf]
   | .no=>[]) d
def aId(x:SV)(v:Value):Bool:=match x,v with
 | .i k (.ofNat 0),.int j (.ofNat 0)=>decide (k=j)
 | .s [],.string s=>decide (s.data.toList=[])
 | .b false,.bool false=>true
 | .m 0,.slice none 0 0=>true
 | .r 0,.slice none 0 0=>true
 | .ns,.slice none 0 0=>true
 | .np,.pointer none=>true
 | .nf,.nilFunc=>true
 |_,_=>false
def zok:List SV→List Value→Bool
 | [],[]=>true
 |x::l,v::r=>aId x v && zok l r
 |_,_=>false
def Cf.ti(F:Cf)(t:Nat):Option TI:=match F.P.info? t,F.P.underlying t with
 |some i,some d=>match i.zero with
  |some z=>cb (zok (zer F 8 t) z.cells.toList && Nat.beq z.cells.toList.length i.size) (some ⟨dk d,i.size,i.bytes,zer F 8 t⟩) none
  |none=>none
 |_,_=>none
def H.nw{α:Type}(h:H)(x:B)(f:Nat→H→α):α:=iL h.n fun n=>f n ⟨h.h.set x n,Nat.succ n,h.bar,h.l⟩
def H.put(h:H)(k:Nat)(x:B):H:=⟨h.h.set x k,h.n,h.bar,h.l⟩
def bytes(s:ByteArray):List Nat:=s.data.toList.map UInt8.toNat
def isF(v:Value):Bool:=match v with| .bool false=>true|_=>false
def isZ(v:Value):Bool:=match v with| .slice none 0 0=>true|_=>false
def ofA(l:List Value):Option AV:=match l with| [x,y,z]=>cb (isF x) (cb (isZ y) (cb (isZ z) (some (.c true [.b false,.m 0,.m 0])) none) none) none|_=>none
def ofV(v:Value):Option AV:=match v with
 | .int k n=>some (sc (.i k n))
 | .bool x=>some (sc (.b x))
 | .string s=>some (sc (.s (bytes s)))
 | .pointer none=>some (sc .np)
 | .slice none 0 0=>some (sc .ns)
 | .nilFunc=>some (sc .nf)
 | .agg cs=>ofA cs.toList
 | .tuple vs=>(match vs.toList with| []=>some un|_=>none)
 |_=>none
def ev(e:Env)(x:Operand):Option AV:=Operand.rec (motive:=fun _=>Option AV) (fun t=>e.get t) ofV (fun g=>some (sc (.v (.pointer (some ⟨g,0,none⟩))))) (fun f=>some (sc (.f f []))) x
def evL(e:Env)(l:List Operand):Option (List AV):=List.rec (motive:=fun _=>Option (List AV)) (some []) (fun x _ r=>ob (ev e x) fun v=>ob r fun r=>some (v::r)) l
def cells{α:Type}(v:AV)(k:List SV→Option α):Option α:=AV.rec (motive:=fun _=>Option α) (fun _ l=>k l) (fun _=>none) v
def hd1{α:Type}(l:List SV)(k:SV→Option α):Option α:=List.rec (motive:=fun _=>Option α) none (fun x r _=>List.rec (motive:=fun _=>Option α) (k x) (fun _ _ _=>none) r) l
def one{α:Type}(v:AV)(k:SV→Option α):Option α:=AV.rec (motive:=fun _=>Option α) (fun g l=>cb g none (hd1 l k)) (fun _=>none) v
def agg{α:Type}(v:AV)(k:List SV→Option α):Option α:=AV.rec (motive:=fun _=>Option α) (fun g l=>cb g (k l) none) (fun _=>none) v
def app{α:Type}(l m:List α):List α:=List.rec (motive:=fun _=>List α) m (fun x _ r=>x::r) l
def len{α:Type}(l:List α):Nat:=List.rec (motive:=fun _=>Nat) 0 (fun _ _ r=>Nat.succ r) l
def dG{α:Type}(n:Nat):List α→Option (List α):=
 Nat.rec (motive:=fun _=>List α→Option (List α)) (fun _=>some []) (fun _ r l=>List.rec (motive:=fun _=>Option (List α)) none (fun x l _=>ob (r l) fun m=>some (x::m)) l) n
def drp{α:Type}(n:Nat):List α→List α:=
 Nat.rec (motive:=fun _=>List α→List α) (fun l=>l) (fun _ r l=>List.rec (motive:=fun _=>List α) [] (fun _ l _=>r l) l) n
def ovr{α:Type}(xs:List α):List α→Option (List α):=
 List.rec (motive:=fun _=>List α→Option (List α)) some (fun x _ r l=>List.rec (motive:=fun _=>Option (List α)) none (fun _ l _=>ob (r l) fun m=>some (x::m)) l) xs
def dU{α:Type}(off:Nat)(xs:List α):List α→Option (List α):=
 Nat.rec (motive:=fun _=>List α→Option (List α)) (ovr xs) (fun _ r l=>List.rec (motive:=fun _=>Option (List α)) none (fun y l _=>ob (r l) fun m=>some (y::m)) l) off
def rd(h:H)(id off n:Nat):Option (List SV):=ob (h.h.get id) fun b=>dG n (drp off b.c)
def aEK(x:Value):Bool:=match x with| .iface _ (.agg cs)=>(match cs.toList with| []=>true|_=>false)|_=>false
def aMa(x:Value):Bool:=match x with| .func (.method _) a c=>(match a.toList,c.toList with| [r],[]=>aEK r|_,_=>false)|_=>false
def aMb(x:Value):Bool:=match x with| .slice ..=>true| .pointer (some _)=>true|x=>aEK x || aMa x
def aBP(x:SV):Bool:=match x with| .i .u64 _=>false| .u=>false|_=>true
def calm(l:List SV):Bool:=List.rec (motive:=fun _=>Bool) true (fun x _ r=>cb (aBP x) r false) l
def jE(b:B):Bool:=cb (Nat.beq b.ty tyR) false (calm b.c)
def wr(h:H)(id off:Nat)(l:List SV):Option H:=cb (Nat.ble h.bar id) (ob (h.h.get id) fun b=>ob (dU off l b.c) fun c=>cb (jE b) (some (h.put id ⟨b.ty,c⟩)) none) none
def lim(k:IntKind):Nat:=IntKind.rec (motive:=fun _=>Nat) 128 32768 2147483648 9223372036854775808 256 65536 4294967296 18446744073709551616 k
def mkI(k:IntKind)(n:Nat):Option SV:=iL n fun n=>cb (Nat.blt n (lim k)) (some (.i k (.ofNat n))) (aEJ (k.wrap (.ofNat n)) fun n=>some (.i k n))
def mkZ(k:IntKind)(n:Int):Option SV:=aEJ (k.wrap n) fun n=>some (.i k n)
def two{α:Type}(a c:Int)(f:Nat→Nat→α)(g:α):α:=Int.rec (motive:=fun _=>α) (fun a=>Int.rec (motive:=fun _=>α) (fun c=>f a c) (fun _=>g) c) (fun _=>g) a
def aMc(k:IntKind)(a c:Int):Option SV:=two a c (fun a c=>mkI k (Nat.add a c)) (mkZ k (a+c))
def aMd(k:IntKind)(a c:Int):Option SV:=two a c (fun x y=>cb (Nat.ble y x) (mkI k (Nat.sub x y)) (mkZ k (a-c))) (mkZ k (a-c))
def aMe(k:IntKind)(a c:Int):Option SV:=two a c (fun a c=>mkI k (Nat.mul a c)) (mkZ k (a*c))
def aQK(k:IntKind)(a c:Int):Option SV:=cb (decide (c=0)) none (mkZ k (a.tdiv c))
def aMf(k:IntKind)(a c:Int):Option SV:=cb (decide (c=0)) none (aEJ (a.tmod c) fun n=>some (.i k n))
def aCM(f:Nat→Nat→Nat)(k:IntKind)(a c:Int):Option SV:=two a c (fun a c=>cb (Nat.blt a (lim k)) (cb (Nat.blt c (lim k)) (mkI k (f a c)) none) none) none
def aQL(k:IntKind)(a c:Int):Option SV:=two a c (fun a c=>cb (Nat.ble c k.bits) (mkI k (Nat.mul a (Nat.pow 2 c))) none) none
def aQM(k:IntKind)(a c:Int):Option SV:=two a c (fun a c=>cb (Nat.ble c k.bits) (iL (Nat.div a (Nat.pow 2 c)) fun n=>some (.i k (.ofNat n))) none) none
def iEq(a c:Int):Bool:=two a c Nat.beq (decide (a=c))
def iLt(a c:Int):Bool:=two a c Nat.blt (decide (a<c))
def dV(b:Bool):Bool:=cb b false true
def bo(b:Bool):Option SV:=some (.b b)
def iop(op:BinOp)(k:IntKind)(a c:Int):Option SV:=
 match op with
 | .add=>aMc k a c
 | .sub=>aMd k a c
 | .mul=>aMe k a c
 | .quo=>aQK k a c
 | .rem=>aMf k a c
 | .eql=>bo (iEq a c)
 | .neq=>bo (dV (iEq a c))
 | .lss=>bo (iLt a c)
 | .leq=>bo (dV (iLt c a))
 | .gtr=>bo (iLt c a)
 | .geq=>bo (dV (iLt a c))
 | .and=>aCM Nat.land k a c
 | .or=>aCM Nat.lor k a c
 | .xor=>aCM Nat.xor k a c
 | .shl=>aQL k a c
 | .shr=>aQM k a c
 |_=>none
def eqL(l:List Nat):List Nat→Bool:=
 List.rec (motive:=fun _=>List Nat→Bool) (fun m=>List.rec (motive:=fun _=>Bool) true (fun _ _ _=>false) m) (fun a _ r m=>List.rec (motive:=fun _=>Bool) false (fun c m _=>cb (Nat.beq a c) (r m) false) m) l
def eqv(op:BinOp)(r:Bool):Option SV:=match op with| .eql=>bo r| .neq=>bo (dV r)|_=>none
def aQN(op:BinOp)(a:List Nat)(y:SV):Option SV:=match y with| .s c=>(match op with| .add=>cb (Nat.blt (Nat.add (len a) (len c)) 9223372036854775808) (some (.s (app a c))) none|op=>eqv op (eqL a c))|_=>none
def aQO(op:BinOp)(k:IntKind)(a:Int)(y:SV):Option SV:=match y with| .i j c=>cb (decide (k=j)) (iop op k a c) none|_=>none
def aQP(op:BinOp)(a:Bool)(y:SV):Option SV:=match y with| .b c=>eqv op (a == c)|_=>none
def aIe(d:Dk)(op:BinOp)(x y:SV):Option SV:=match d,x,y with
 | .pt,.np,.np=>eqv op true
 | .pt,.np,.p _ _=>eqv op false
 | .pt,.p _ _,.np=>eqv op false
 | .sl _,.ns,.ns=>eqv op true
 | .sl _,.ns,.sl _ _ _ _=>eqv op false
 | .sl _,.sl _ _ _ _,.ns=>eqv op false
 |_,_,_=>none
def bop(d:Dk)(op:BinOp)(x y:SV):Option SV:=
 match x with
 | .i k a=>aQO op k a y
 | .b a=>(match d with| .bool=>aQP op a y|_=>none)
 | .s a=>aQN op a y
 |x=>aIe d op x y
def natOf{α:Type}(x:SV)(k:Nat→Option α):Option α:=match x with| .i _ n=>Int.rec (motive:=fun _=>Option α) k (fun _=>none) n|_=>none
def fJ(z:List SV)(n:Nat):List SV:=Nat.rec (motive:=fun _=>List SV) [] (fun _ r=>app z r) n
def parts(pl:Nat→Option (Nat × Nat))(e:Env)(l:List (Nat × Operand)):List SV→Option (List SV):=
 List.rec (motive:=fun _=>List SV→Option (List SV)) some (fun p _ r acc=>ob (pl p.1) fun q=>ob (ev e p.2) fun v=>cells v fun c=>cb (Nat.beq (len c) q.2) (ob (dU q.1 c acc) r) none) l
abbrev VH:=AV × H
def vh(x:SV)(h:H):Option VH:=some (sc x,h)
def av(g:Bool)(l:List SV):Option AV:=cb g (some (.c true l)) (hd1 l fun x=>some (sc x))
def Dk.ag(d:Dk):Bool:=match d with| .st _=>true| .ar _ _=>true|_=>false
def fields(d:Dk)(f:Nat):Option (Nat × Nat):=match d with| .st fs=>(drp f fs).head? |_=>none
def elem(d:Dk):Option Nat:=match d with| .sl e=>some e|_=>none
variable (F:Cf)
def sz(t:Nat):Option Nat:=ob (F.ti t) fun i=>some i.sz
def szs(fs:List (Nat × Nat)):Option (List (Nat × Nat)):=List.rec (motive:=fun _=>Option (List (Nat × Nat))) (some []) (fun p _ r=>ob (sz F p.2) fun s=>ob r fun r=>some ((p.1,s)::r)) fs
def tX(e:Env)(h:H)(c a d:Operand):Option VH:=ob (ev e c) fun v=>one v fun s=>match s with| .b x=>ob (ev e (cb x a d)) fun v=>some (v,h)|_=>none
def nE(h:H)(t:Nat):Option VH:=ob (F.ti t) fun i=>h.nw ⟨t,i.ze⟩ fun a h=>vh (.p a 0) h
def uS(e:Env)(h:H)(t:Nat)(x:Operand):Option VH:=ob (ev e x) fun v=>cells v fun c=>h.nw ⟨t,c⟩ fun a h=>vh (.p a 0) h
def pV(e:Env)(h:H)(t:Nat)(ps:List (Nat × Operand)):Option VH:=ob (F.ti t) fun i=>match i.d with
 | .st fs=>ob (szs F fs) fun pl=>ob (parts (fun f=>(drp f pl).head?) e ps i.ze) fun c=>some (.c true c,h)
 | .ar _ el=>ob (sz F el) fun s=>ob (parts (fun f=>some (Nat.mul f s,s)) e ps i.ze) fun c=>some (.c true c,h)
 |_=>none
def fD(e:Env)(h:H)(t n:Nat)(ps:List (Nat × Operand)):Option VH:=
 ob (F.ti t) fun i=>ob (elem i.d) fun el=>ob (F.ti el) fun j=>cb (Nat.blt (Nat.mul n j.sz) 16777216) (ob (parts (fun f=>some (Nat.mul f j.sz,j.sz)) e ps (fJ j.ze n)) fun c=>h.nw ⟨el,c⟩ fun a h=>vh (.sl a 0 n (some n)) h) none
def roL(h:H)(t:Nat)(x:Value):Option VH:=match x with| .pointer (some a)=>ob (F.ro t a) fun v=>some (v,h)|_=>none
def roA(h:H)(j z:Nat)(x:Value):Option VH:=match x with| .slice (some a) n _=>cb (Nat.blt j n) (vh (.v (.pointer (some (a.add (Nat.mul j z))))) h) none|_=>none
def roF(h:H)(d:Nat)(x:Value):Option VH:=match x with| .pointer (some a)=>vh (.v (.pointer (some (a.add d)))) h|_=>none
def roN(h:H)(x:Value):Option VH:=match x with| .slice (some _) n _=>vh (.i .i64 (.ofNat n)) h|_=>none
def oU(e:Env)(h:H)(t:Nat)(a:Operand):Option VH:=ob (F.ti t) fun i=>ob (ev e a) fun v=>one v fun s=>match s with| .p id off=>ob (rd h id off i.sz) fun l=>ob (av i.d.ag l) fun v=>some (v,h)| .v x=>roL F h t x|_=>none
def nG(e:Env)(h:H)(t:Nat)(a x:Operand):Option VH:=ob (sz F t) fun z=>ob (ev e a) fun v=>one v fun s=>match s with| .p id off=>ob (ev e x) fun u=>cells u fun c=>cb (Nat.beq (len c) z) (ob (wr h id off c) fun h=>some (un,h)) none|_=>none
def nV(t:Nat)(m:String):Option Nat:=match F.P.info? t,F.P.underlying t with
 |some i,some (.struct _)=>(match i.methods.find? fun r=>r.name == m with
  |some r=>(match r.path.toList,r.func with| [],some (f,false)=>some f|_,_=>none)
  |none=>none)
 |_,_=>none
def ifT{α:Type}(x:Value)(k:Nat→Option α):Option α:=match x with| .iface t (.agg cs)=>(match cs.toList with| []=>k t|_=>none)|_=>none
def mvT{α:Type}(x:Value)(k:Nat→String→Option α):Option α:=match x with| .func (.method m) a c=>(match a.toList,c.toList with| [r],[]=>ifT r fun t=>k t m|_,_=>none)|_=>none
def aCN(e:Env)(h:H)(x:Operand):Option VH:=ob (ev e x) fun v=>one v fun s=>match s with| .p _ _=>some (v,h)| .f _ _=>some (v,h)| .y _=>some (v,h)| .v y=>mvT y fun t m=>ob (nV F t m) fun _=>some (v,h)|_=>none
def oIf(e:Env)(h:H)(t:Nat)(x:Operand):Option VH:=ob (F.ti t) fun i=>match i.d with| .st _=>ob (ev e x) fun v=>agg v fun l=>(match l with| []=>vh (.v (.iface t (.agg #[]))) h|_=>none)|_=>none
def aMg(x y:SV)(r:Option Bool):Option Bool:=match x,y with| .i k a,.i j c=>cb (decide (k=j)) (cb (iEq a c) r (some false)) none|_,_=>none
def eqI(l:List SV):List SV→Option Bool:=List.rec (motive:=fun _=>List SV→Option Bool) (fun m=>List.rec (motive:=fun _=>Option Bool) (some true) (fun _ _ _=>none) m)
 (fun x _ r m=>List.rec (motive:=fun _=>Option Bool) none (fun y m _=>aMg x y (r m)) m) l
def aIf(x y:SV)(r:Option Bool):Option Bool:=match x,y with
 | .i k a,.i j c=>cb (decide (k=j)) (cb (iEq a c) r (some false)) none
 | .s a,.s c=>cb (eqL a c) r (some false)
 |_,_=>none
def eqD(d:Dk)(x y:SV)(r:Option Bool):Option Bool:=match d,x with
 | .int _,.i _ _=>aIf x y r
 | .str,.s _=>aIf x y r
 |_,_=>none
def hd2{α:Type}(l m:List SV)(k:SV→List SV→SV→List SV→Option α):Option α:=match l,m with|x::l,y::m=>k x l y m|_,_=>none
def eqF(fs:List Field):Nat→List SV→List SV→Option Bool:=List.rec (motive:=fun _=>Nat→List SV→List SV→Option Bool) (fun _ l _=>match l with| []=>some true|_=>none)
 (fun f _ r k l m=>cb (decide (f.name≠"_")) (cb (Nat.beq f.offset k) (ob (F.ti f.type) fun j=>cb (Nat.beq j.sz 1) (hd2 l m fun x l y m=>eqD j.d x y (r (Nat.succ k) l m)) none) none) none) fs
def arq(op:BinOp)(t:Nat)(d:Dk)(l m:List SV):Option SV:=match d with
 | .st _=>(match F.P.underlying t with|some (.struct fs)=>cb (F.P.stoodInHeld t) none (ob (eqF F fs.toList 0 l m) (eqv op))|_=>none)
 | .ar n el=>ob (F.ti el) fun j=>match j.d with
   | .int _=>cb (Nat.beq j.sz 1) (cb (Nat.beq (len l) n) (cb (Nat.beq (len m) n) (ob (eqI l m) (eqv op)) none) none) none
   |_=>none
 |_=>none
def yV(e:Env)(h:H)(op:BinOp)(t:Nat)(x y:Operand):Option VH:=ob (F.ti t) fun i=>ob (ev e x) fun v=>ob (ev e y) fun u=>cb i.d.ag (cb (F.P.eqGuardType F.P.depth t) none (agg v fun l=>agg u fun m=>ob (arq F op t i.d l m) fun r=>vh r h)) (one v fun a=>one u fun c=>ob (bop i.d op a c) fun r=>vh r h)
def oUn(e:Env)(h:H)(op:UnOp)(x:Operand):Option VH:=ob (ev e x) fun v=>one v fun s=>match op,s with
  | .neg,.i k n=>ob (mkZ k (0-n)) fun r=>vh r h
  | .not,.b x=>vh (.b (dV x)) h
  |_,_=>none
def tY(e:Env)(h:H)(src dst:Nat)(x:Operand):Option VH:=ob (F.ti src) fun i=>ob (F.ti dst) fun j=>ob (ev e x) fun v=>one v fun s=>match i.d,j.d,s with
  | .int _,.int k,.i _ n=>ob (Int.rec (motive:=fun _=>Option SV) (fun m=>mkI k m) (fun _=>mkZ k n) n) fun r=>vh r h
  | .str,.str,.s l=>vh (.s l) h
  |_,_,_=>none
def dX(l:List AV):Option (List (Nat × Nat)):=List.rec (motive:=fun _=>Option (List (Nat × Nat))) (some []) (fun v _ r=>one v fun s=>match s with| .p id off=>ob r fun r=>some ((id,off)::r)|_=>none) l
def oMv(e:Env)(h:H)(m:String)(r:Operand):Option VH:=ob (ev e r) fun v=>one v fun s=>match s with| .v x=>cb (aEK x) (vh (.v (.func (.method m) #[x] #[])) h) none|_=>none
def oV(e:Env)(h:H)(fn:Fn)(a c:List Operand):Option VH:=match fn,a with| .func f,[]=>ob (evL e c) fun l=>ob (dX l) fun l=>vh (.f f l) h| .method m,[r]=>(match c with| []=>oMv e h m r|_=>none)|_,_=>none
def H.putLp(h:H)(k:Nat)(x:Lp):H:=⟨h.h,h.n,h.bar,h.l.set x k⟩
def itL(l:List Nat)(k:Nat):Lp:=⟨0,0,.lf,[],.skip,.skip,false,none,true,some (l,k)⟩
def yX(e:Env)(h:H)(t:Nat)(x:Operand):Option VH:=ob (F.ti t) fun i=>ob (ev e x) fun v=>one v fun s=>match i.d,s with
 | .str,.s l=>iL h.n fun n=>vh (.p n 0) ⟨h.h,Nat.succ n,h.bar,h.l.set (itL l 0) n⟩
 |_,_=>none
def nx1(h:H)(id:Nat)(l:List Nat)(k:Nat)(b:Nat):Option VH:=cb (Nat.blt b 128) (iL (Nat.succ k) fun j=>some (.t [(false,[.b true]),(false,[.i .i64 (.ofNat k)]),(false,[.i .i32 (.ofNat b)])],h.putLp id (itL l j))) none
def aBQ(e:Env)(h:H)(x:Operand)(b:Bool):Option VH:=cb b (ob (ev e x) fun v=>one v fun s=>match s with
 | .p id off=>cb (Nat.beq off 0) (cb (Nat.ble h.bar id) (ob (h.l.get id) fun p=>ob p.it fun q=>Option.rec (motive:=fun _=>Option VH) (some (.t [(false,[.b false])],h)) (nx1 h id q.1 q.2) (drp q.2 q.1).head?) none) none
 |_=>none) none
def tZ(e:Env)(h:H)(t:Nat)(l c:Operand):Option VH:=ob (F.ti t) fun i=>ob (elem i.d) fun el=>ob (F.ti el) fun j=>ob (ev e l) fun v=>one v fun s=>natOf s fun n=>ob (ev e c) fun u=>one u fun s=>natOf s fun m=>
 cb (Nat.ble n m) (cb (Nat.ble (Nat.mul m j.by_) 1099511627776) (cb (Nat.blt m 1099511627776) (h.nw ⟨el,fJ j.ze m⟩ fun a h=>vh (.sl a 0 n (some m)) h) none) none) none
def bound{α:Type}(e:Env)(x:Option Operand)(d:Nat)(k:Nat→Option α):Option α:=Option.rec (motive:=fun _=>Option α) (k d) (fun x=>ob (ev e x) fun v=>one v fun s=>natOf s k) x
def chk{α:Type}(l h c:Nat)(k:Option α):Option α:=cb (Nat.ble l h) (cb (Nat.ble h c) k none) none
def slN(h:H)(id off n a d z:Nat):Option VH:=cb (Nat.beq a 0) (chk a d n (vh (.sl id off (Nat.sub d a) none) h)) (chk a d n (vh (.sl id (Nat.add off (Nat.mul a z)) (Nat.sub d a) none) h))
def slC(h:H)(id off a d z c:Nat):Option VH:=cb (Nat.blt a c) (chk a d c (vh (.sl id (Nat.add off (Nat.mul a z)) (Nat.sub d a) (some (Nat.sub c a))) h)) (cb (Nat.beq a 0) (chk a d c (vh (.sl id off (Nat.sub d a) (some c)) h)) none)
def slM(h:H)(id off n a d m z:Nat)(c:Option Nat):Option VH:=cb (Nat.ble a d) (cb (Nat.ble d m) (Option.rec (motive:=fun _=>Option VH) (cb (Nat.ble m n) (cb (Nat.blt a m) (vh (.sl id (Nat.add off (Nat.mul a z)) (Nat.sub d a) (some (Nat.sub m a))) h) none) none)
 (fun c=>cb (Nat.ble m c) (cb (Nat.blt a m) (vh (.sl id (Nat.add off (Nat.mul a z)) (Nat.sub d a) (some (Nat.sub m a))) h) (vh (.sl id off 0 (some 0)) h)) none) c) none) none
def jG(e:Env)(h:H)(t:Nat)(x:Operand)(lo hi mx:Option Operand):Option VH:=Option.rec (motive:=fun _=>Option VH) (ob (F.ti t) fun i=>ob (ev e x) fun v=>one v fun s=>match i.d,s with
  | .str,.s l=>bound e lo 0 fun a=>bound e hi (len l) fun c=>chk a c (len l) (ob (dG (Nat.sub c a) (drp a l)) fun l=>vh (.s l) h)
  | .sl el,.ns=>ob (sz F el) fun _=>bound e lo 0 fun a=>bound e hi 0 fun c=>chk a c 0 (vh .ns h)
  | .sl el,.sl id off n c=>ob (sz F el) fun z=>bound e lo 0 fun a=>bound e hi n fun d=>Option.rec (motive:=fun _=>Option VH) (slN h id off n a d z) (slC h id off a d z) c
  |_,_=>none)
 (fun mx=>Option.rec (motive:=fun _=>Option VH) none (fun hi=>ob (F.ti t) fun i=>ob (ev e x) fun v=>one v fun s=>match i.d,s with
  | .sl el,.sl id off n c=>ob (sz F el) fun z=>bound e lo 0 fun a=>bound e (some hi) 0 fun d=>bound e (some mx) 0 fun m=>slM h id off n a d m z c
  |_,_=>none) hi) mx
def oFA(e:Env)(h:H)(s:Nat)(x:Operand)(f:Nat):Option VH:=ob (F.ti s) fun i=>ob (fields i.d f) fun q=>ob (sz F q.2) fun z=>cb (Nat.blt 0 z) (ob (ev e x) fun v=>one v fun s=>match s with| .p id off=>vh (.p id (Nat.add off q.1)) h| .v x=>roF h q.1 x|_=>none) none
def vQ(e:Env)(h:H)(s:Nat)(x:Operand)(f:Nat):Option VH:=ob (F.ti s) fun i=>ob (fields i.d f) fun q=>ob (F.ti q.2) fun j=>ob (ev e x) fun v=>agg v fun l=>ob (dG j.sz (drp q.1 l)) fun l=>ob (av j.d.ag l) fun v=>some (v,h)
def oIA(e:Env)(h:H)(t:Nat)(x ix:Operand):Option VH:=ob (F.ti t) fun i=>ob (ev e ix) fun v=>one v fun s=>natOf s fun j=>ob (ev e x) fun v=>one v fun s=>match i.d,s with
  | .sl el,.sl id off n _=>ob (sz F el) fun z=>cb (Nat.blt j n) (vh (.p id (Nat.add off (Nat.mul j z))) h) none
  | .ar n el,.p id off=>ob (sz F el) fun z=>cb (Nat.blt j n) (vh (.p id (Nat.add off (Nat.mul j z))) h) none
  | .sl el,.v x=>ob (sz F el) fun z=>roA h j z x
  | .ar n el,.v x=>ob (sz F el) fun z=>cb (Nat.blt j n) (roF h (Nat.mul j z) x) none
  |_,_=>none
def oIx(e:Env)(h:H)(t:Nat)(x ix:Operand):Option VH:=ob (F.ti t) fun i=>ob (ev e ix) fun v=>one v fun s=>natOf s fun j=>match i.d with
  | .ar n el=>ob (F.ti el) fun g=>cb (Nat.blt j n) (ob (ev e x) fun v=>agg v fun l=>ob (dG g.sz (drp (Nat.mul j g.sz) l)) fun l=>ob (av g.d.ag l) fun v=>some (v,h)) none
  | .str=>ob (ev e x) fun v=>one v fun s=>(match s with| .s l=>ob (drp j l).head? fun b=>vh (.i .u8 (.ofNat b)) h|_=>none)
  |_=>none
def yY(e:Env)(h:H)(x:Operand)(ix:Nat):Option VH:=ob (ev e x) fun v=>AV.rec (motive:=fun _=>Option VH) (fun _ _=>none) (fun l=>ob (drp ix l).head? fun p=>some (.c p.1 p.2,h)) v
def mm(mn:Bool)(v w:AV):Option AV:=one v fun x=>one w fun y=>match x,y with
 | .i a x,.i b y=>cb (decide (a=b)) (some (sc (.i a (cb mn (cb (iLt y x) y x) (cb (iLt x y) y x))))) none
 |_,_=>none
def vR(mn:Bool)(l:List AV):Option AV:=match l with
 | [x,y]=>mm mn x y
 | [x,y,z]=>ob (mm mn x y) fun m=>mm mn m z
 |_=>none
def lenOf{α:Type}(x:SV)(k:Nat→Option α):Option α:=match x with
 | .s l=>k (len l)
 | .ns=>k 0
 | .sl _ _ n _=>k n
 |_=>none
def aEL(h:H)(z n:Nat)(x:SV):Option (List SV):=match x with
 | .ns=>some []
 | .sl id off _ _=>rd h id off (Nat.mul n z)
 |_=>none
def H.cut(h:H)(k el:Nat)(x:List SV)(f:Nat→H→Option VH):Option VH:=
 ob (h.h.get k) fun b=>cb (Nat.beq b.ty el) (cb (Nat.beq (len b.c) 0) none (cb (jE b) (cb (Nat.ble h.bar k) (iL h.n fun n=>f n ⟨(h.h.set ⟨0,[]⟩ k).set ⟨el,x⟩ n,Nat.succ n,h.bar,h.l⟩) none) none)) none
def nothing(h:H)(s:SV):Option VH:=match s with| .ns=>vh .ns h| .sl a b c none=>vh (.sl a b c none) h| .sl a b c (some k)=>cb (Nat.ble c k) (vh (.sl a b c (some k)) h) none|_=>none
def aCO(h:H)(el:Nat)(j:TI)(s:SV)(m:Nat)(nw:List SV):Option VH:=
 lenOf s fun n=>ob (aEL h j.sz n s) fun old=>cb (calm j.ze) (cb (calm nw) (cb (Nat.blt (Nat.mul (Nat.add n m) j.by_) 1099511627776) (cb (Nat.blt 0 m) (cb (Nat.blt (Nat.add n m) 1099511627776) (cb (Nat.blt 0 j.sz) (match s with
  | .sl id off _ (some c)=>cb (Nat.ble (Nat.add n m) c) (cb (Nat.beq off 0) (ob (h.h.get id) fun b=>cb (Nat.beq b.ty el) (ob (wr h id (Nat.mul n j.sz) nw) fun h=>vh (.sl id 0 (Nat.add n m) (some c)) h) none) none) (h.nw ⟨el,app old nw⟩ fun a h=>vh (.sl a 0 (Nat.add n m) none) h)
  | .sl id off _ none=>cb (Nat.beq off 0) (h.cut id el (app old nw) fun a h=>vh (.sl a 0 (Nat.add n m) none) h) none
  | .ns=>h.nw ⟨el,app old nw⟩ fun a h=>vh (.sl a 0 (Nat.add n m) none) h
  |_=>none) none) none) (nothing h s)) none) none) none
def yZ(h:H)(el:Nat)(j:TI)(s x:SV):Option VH:=lenOf x fun m=>ob (aEL h j.sz m x) fun nw=>aCO h el j s m nw
def aIg(h:H)(el:Nat)(j:TI)(s x:SV):Option VH:=natOf x fun m=>cb (Nat.blt m 1099511627776) (cb (Nat.blt (Nat.mul m j.by_) 1099511627776) (cb (Nat.blt 0 j.sz) (iL m fun m=>aCO h el j s m (fJ j.ze m)) none) none) none
def bi(h:H)(b:Builtin)(at_:List Nat)(args:List AV):Option VH:=
 match b with
 | .len=>(match at_,args with| [t],[x]=>ob (F.ti t) fun i=>one x fun s=>(match i.d,s with| .str,.s l=>vh (.i .i64 (.ofNat (len l))) h| .sl _,.ns=>vh (.i .i64 0) h| .sl _,.sl _ _ n _=>vh (.i .i64 (.ofNat n)) h| .sl _,.v x=>roN h x| .sl _,.m n=>ob (F.ln false n) fun k=>vh (.i .i64 (.ofNat k)) h| .sl _,.r n=>ob (F.ln true n) fun k=>vh (.i .i64 (.ofNat k)) h|_,_=>none)|_,_=>none)
 | .min=>ob (vR true args) fun v=>some (v,h)
 | .max=>ob (vR false args) fun v=>some (v,h)
 | .append=>(match at_,args with| [t,t'],[s,x]=>ob (F.ti t) fun i=>ob (elem i.d) fun el=>ob (F.ti el) fun j=>one s fun s=>one x fun x=>cb (Nat.beq t t') (yZ h el j s x) (ob (F.ti t') fun i'=>match i'.d with| .int _=>aIg h el j s x|_=>none)|_,_=>none)
 | .clear=>(match at_,args with| [t],[x]=>ob (F.ti t) fun i=>ob (elem i.d) fun el=>ob (F.ti el) fun j=>one x fun s=>(match s with| .ns=>some (un,h)| .sl id off n _=>cb (Nat.beq n 0) (some (un,h)) (cb (Nat.blt 0 j.sz) (ob (wr h id off (fJ j.ze n)) fun h=>some (un,h)) none)|_=>none)|_,_=>none)
 | .cap=>(match at_,args with| [t],[x]=>ob (F.ti t) fun i=>one x fun s=>(match i.d,s with| .sl _,.ns=>vh (.i .i64 0) h| .sl _,.sl _ _ _ (some n)=>vh (.i .i64 (.ofNat n)) h|_,_=>none)|_,_=>none)
 |_=>none
abbrev cZ:=AV→List AV→H→Option VH
def aOR(call:cZ)(e:Env)(h:H)(args:List Operand)(at_:List Nat)(c:Callee):Option VH:=
 Callee.rec (motive:=fun _=>Option VH) (fun f=>ob (ev e f) fun f=>ob (evL e args) fun l=>call f l h) (fun r m=>ob (ev e r) fun v=>one v fun s=>match s with| .v x=>ifT x fun t=>ob (nV F t m) fun fn=>ob (evL e args) fun l=>call (sc (.f fn [])) (.c true []::l) h|_=>none) (fun b=>ob (evL e args) fun l=>bi F h b at_ l) c
structure Wo where
 f:cZ→Env→H→Option VH
def gW(o:Op):Wo:=
 match o with
 | .move x=>⟨fun _ e h=>ob (ev e x) fun v=>some (v,h)⟩
 | .assign x=>⟨fun _ e h=>ob (ev e x) fun v=>some (v,h)⟩
 | .pick c a d=>⟨fun _ e h=>tX e h c a d⟩
 | .alloc t=>⟨fun _ _ h=>nE F h t⟩
 | .box t x=>⟨fun _ e h=>uS e h t x⟩
 | .build t ps=>⟨fun _ e h=>pV F e h t ps.toList⟩
 | .buildSlice t n ps=>⟨fun _ e h=>fD F e h t n ps.toList⟩
 | .load t a=>⟨fun _ e h=>oU F e h t a⟩
 | .store t a x=>⟨fun _ e h=>nG F e h t a x⟩
 | .nilCheck x=>⟨fun _ e h=>aCN F e h x⟩
 | .binOp op t x y _=>⟨fun _ e h=>yV F e h op t x y⟩
 | .unOp op _ x=>⟨fun _ e h=>oUn e h op x⟩
 | .convert s d x=>⟨fun _ e h=>tY F e h s d x⟩
 | .makeInterface t x=>⟨fun _ e h=>oIf F e h t x⟩
 | .range t x=>⟨fun _ e h=>yX F e h t x⟩
 | .next x b=>⟨fun _ e h=>aBQ e h x b⟩
 | .makeFunc f a c=>⟨fun _ e h=>oV e h f a.toList c.toList⟩
 | .makeSlice t l c=>⟨fun _ e h=>tZ F e h t l c⟩
 | .slice t x lo hi mx=>⟨fun _ e h=>jG F e h t x lo hi mx⟩
 | .fieldAddr s x f=>⟨fun _ e h=>oFA F e h s x f⟩
 | .field s x f=>⟨fun _ e h=>vQ F e h s x f⟩
 | .indexAddr t x ix=>⟨fun _ e h=>oIA F e h t x ix⟩
 | .index t x ix=>⟨fun _ e h=>oIx F e h t x ix⟩
 | .extract x ix=>⟨fun _ e h=>yY e h x ix⟩
 | .call c=>⟨fun call e h=>aOR F call e h c.args.toList c.argTypes.toList c.callee⟩
 |_=>⟨fun _ _ _=>none⟩
def op1(call:cZ)(o:Op)(e:Env)(h:H):Option VH:=Wo.rec (motive:=fun _=>Option VH) (fun f=>f call e h) (gW F o)
def put{α:Type}(nt:Nat)(e:Env)(d:Option Nat)(v:AV)(k:Env→Option α):Option α:=Option.rec (motive:=fun _=>Option α) (k e) (fun d=>cb (Nat.blt d nt) (k (e.set v d)) none) d
inductive Ex where
 |n
 |x (id:Nat)
 |r
structure R where
 x:Ex
 e:Env
 h:H
def isB(v:Option AV)(w:Bool):Option Bool:=ob v fun v=>match v with
 | .c false [.b x]=>some (cb w x (dV x))
 | .t []=>some false
 |_=>none
def wanted(ops:List Oper)(e:Env)(g:Option (Nat × Bool)):Option Bool:=Option.rec (motive:=fun _=>Option Bool) (some true) (fun p=>ob (drp p.1 ops).head? fun o=>ob o.dst fun d=>isB (e.get d) p.2) g
def nW(nt:Nat)(call:cZ)(ops:List Oper)(rest:Env→H→Option R)(o:Oper)(e:Env)(h:H):Option R:=
 ob (wanted ops e o.guard) fun w=>cb w (ob (op1 F call o.op e h) fun r=>put nt e o.dst r.1 fun e=>rest e r.2) (put nt e o.dst un fun e=>rest e h)
def nH(nt:Nat)(call:cZ)(ops l:List Oper):Env→H→Option R:=
 List.rec (motive:=fun _=>Env→H→Option R) (fun e h=>some ⟨.n,e,h⟩) (fun o _ r e h=>nW F nt call ops r o e h) l
inductive Mk where|p|l|c|n|w
def mkC(c:Callee):Mk:=match c with
 | .value (.func f)=>Option.rec (motive:=fun _=>Mk) .c (fun _=>.p) (F.pr f)
 | .value _=>.c
 | .invoke _ _=>.c
 | .builtin .append=>.w
 | .builtin .clear=>.w
 | .builtin _=>.p
def mkO(o:Op):Mk:=match o with
 | .move _=>.p
 | .assign _=>.p
 | .pick ..=>.p
 | .build ..=>.p
 | .nilCheck _=>.p
 | .binOp ..=>.p
 | .unOp ..=>.p
 | .convert ..=>.p
 | .makeFunc ..=>.p
 | .makeInterface ..=>.p
 | .slice ..=>.p
 | .fieldAddr ..=>.p
 | .field ..=>.p
 | .indexAddr ..=>.p
 | .index ..=>.p
 | .extract ..=>.p
 | .load ..=>.l
 | .alloc _=>.n
 | .box ..=>.n
 | .buildSlice ..=>.n
 | .makeSlice ..=>.n
 | .call c=>mkC F c.callee
 |_=>.w
def aEM(o:Op):Bool:=match o with| .fieldAddr ..=>true|_=>false
def edg(fa:Bool)(e:Edge):Bool:=match e.ground with| .textOnly _=>false| .gcOnly _=>false| .phase=>cb fa false true|_=>true
def bit(i:Nat):Nat:=Nat.shiftLeft 1 i
def sub(a c:Nat):Bool:=Nat.beq (Nat.land a c) a
def msk(fa:Bool)(f:Nat→Nat)(l:List Edge):Nat:=List.rec (motive:=fun _=>Nat) 0 (fun e _ r=>cb (edg fa e) (Nat.lor (f e.on) r) r) l
def tp1(l:List Oper):Nat→Nat→Nat:=List.rec (motive:=fun _=>Nat→Nat→Nat) (fun _ d=>d) (fun o _ r k d=>iL (cb (sub (msk false bit o.after.toList) d) (Nat.lor d (bit k)) d) (r (Nat.succ k))) l
def tpN(l:List Oper)(n:Nat):Nat→Nat:=Nat.rec (motive:=fun _=>Nat→Nat) (fun d=>d) (fun _ r d=>r (tp1 l 0 d)) n
def msN(l:List Nat):Nat:=List.rec (motive:=fun _=>Nat) 0 (fun i _ r=>Nat.lor (bit i) r) l
structure Sc where
 d:Nat
 an:T 3 Nat
def anc(s:Sc)(j:Nat):Nat:=Option.rec (motive:=fun _=>Nat) (bit j) (fun a=>Nat.lor (bit j) a) (s.an.get j)
def scK(ph:Bool)(k:Mk)(s:Sc)(am rm:Nat):Bool:=match k with
 | .w=>cb ph false (sub s.d (Nat.lor am rm))
 |_=>cb ph true (sub s.d (Nat.lor am rm))
def scP(s:Sc)(i am:Nat):Sc:=iL (Nat.lor s.d (bit i)) fun d=>⟨d,s.an.set am i⟩
def sc1(ops:List Oper)(ph:Bool)(i:Nat)(rm:Nat)(s:Sc):Option Sc:=
 ob (drp i ops).head? fun o=>cb (Nat.beq (Nat.land s.d (bit i)) 0) (cb (sub (msk (aEM o.op) bit o.after.toList) s.d) (iL (msk (aEM o.op) (anc s) o.after.toList) fun am=>cb (scK ph (mkO F o.op) s am rm) (some (scP s i am)) none) none) none
def scA(ops:List Oper)(l:List Nat):Sc→Option Sc:=List.rec (motive:=fun _=>Sc→Option Sc) some (fun i _ r s=>ob (sc1 F ops true i 0 s) r) l
def scB(ops:List Oper)(l:List (Nat × List Nat)):Sc→Option Sc:=List.rec (motive:=fun _=>Sc→Option Sc) some (fun p _ r s=>ob (sc1 F ops false p.1 (msN p.2) s) r) l
def wtL(ops:List Oper):Nat→T 3 Nat→Option (T 3 Nat):=List.rec (motive:=fun _=>Nat→T 3 Nat→Option (T 3 Nat)) (fun _ t=>some t)
 (fun o _ r k t=>Option.rec (motive:=fun _=>Option (T 3 Nat)) (r (Nat.succ k) t) (fun d=>Option.rec (motive:=fun _=>Option (T 3 Nat)) (r (Nat.succ k) (t.set k d)) (fun _=>none) (t.get d)) o.dst) ops
def has(an:T 3 Nat)(i j:Nat):Bool:=Option.rec (motive:=fun _=>Bool) false (sub (bit j)) (an.get i)
def shT(wt an:T 3 Nat)(i:Nat)(l:List Tmp):Bool:=List.rec (motive:=fun _=>Bool) true (fun t _ r=>cb (Option.rec (motive:=fun _=>Bool) true (fun j=>cb (Nat.beq j i) true (cb (has an i j) true (has an j i))) (wt.get t)) r false) l
def shQ(wt:T 3 Nat)(i:Nat)(d:Option Nat):Bool:=Option.rec (motive:=fun _=>Bool) true (fun d=>Option.rec (motive:=fun _=>Bool) false (Nat.beq i) (wt.get d)) d
def shL(opsA:Array Oper)(wt an:T 3 Nat)(l:List Oper):Nat→Bool:=List.rec (motive:=fun _=>Nat→Bool) (fun _=>true) (fun o _ r i=>cb (shQ wt i o.dst) (cb (shT wt an i (o.looksAt opsA)) (r (Nat.succ i)) false) false) l
def inB(B:List (Nat × List Nat))(j:Nat):Bool:=List.rec (motive:=fun _=>Bool) false (fun p _ r=>cb (Nat.beq p.1 j) true r) B
def aIh(an:T 3 Nat)(B:List (Nat × List Nat))(i j:Nat):Bool:=cb (has an i j) true (cb (inB B j) (has an j i) false)
def shU(wt an:T 3 Nat)(B:List (Nat × List Nat))(i:Nat)(l:List Tmp):Bool:=List.rec (motive:=fun _=>Bool) true (fun t _ r=>cb (Option.rec (motive:=fun _=>Bool) true (aIh an B i) (wt.get t)) r false) l
def shV(opsA:Array Oper)(wt an:T 3 Nat)(B:List (Nat × List Nat))(l:List Nat):Bool:=List.rec (motive:=fun _=>Bool) true (fun i _ r=>cb (Option.rec (motive:=fun _=>Bool) false (fun o=>shU wt an B i (o.looksAt opsA)) (drp i opsA.toList).head?) r false) l
def shW(opsA:Array Oper)(wt an:T 3 Nat)(B l:List (Nat × List Nat)):Bool:=List.rec (motive:=fun _=>Bool) true (fun p _ r=>cb (shV opsA wt an B p.2) r false) l
def fsN(l:List (Nat × List Nat)):Nat:=List.rec (motive:=fun _=>Nat) 0 (fun p _ r=>Nat.lor (bit p.1) r) l
def rmL(m:Nat)(l:List (Nat × List Nat)):Bool:=List.rec (motive:=fun _=>Bool) true (fun p _ r=>cb (Nat.beq (Nat.land (msN p.2) m) 0) r false) l
def isS{α:Type}(x:Option α)(f:α→Bool):Bool:=Option.rec (motive:=fun _=>Bool) false f x
def lU(ops:Array Oper)(p:List Nat × List (Nat × List Nat)):Bool:=
 isS (ob (scA F ops.toList p.1 ⟨0,.lf⟩) (scB F ops.toList p.2)) fun s=>cb (Nat.beq (Nat.succ s.d) (bit (len ops.toList))) (cb (isS (wtL ops.toList 0 .lf) fun wt=>cb (shL ops wt s.an ops.toList 0) (shW ops wt s.an p.2 p.2) false) (cb (rmL (fsN p.2) p.2) (cb (Nat.beq (Nat.succ (tpN ops.toList 8 0)) (bit (len ops.toList))) (Region.noSelect ops) false) false) false) false
def svb(x y:SV):Bool:=match x,y with
 | .b x,.b y=>cb x y (dV y)
 | .i k n,.i j m=>cb (decide (k=j)) (iEq n m) false
 | .s l,.s m=>eqL l m
 | .np,.np=>true
 | .p a c,.p b d=>cb (Nat.beq a b) (Nat.beq c d) false
 | .ns,.ns=>true
 | .sl a c n (some m),.sl a' c' n' (some m')=>cb (Nat.beq a a') (cb (Nat.beq c c') (cb (Nat.beq n n') (Nat.beq m m') false) false) false
 | .sl a c n none,.sl a' c' n' none=>cb (Nat.beq a a') (cb (Nat.beq c c') (Nat.beq n n') false) false
 | .m n,.m m=>Nat.beq n m
 | .nf,.nf=>true
 | .r n,.r m=>Nat.beq n m
 |_,_=>false
def svL(l:List SV):List SV→Bool:=List.rec (motive:=fun _=>List SV→Bool) (fun m=>List.rec (motive:=fun _=>Bool) true (fun _ _ _=>false) m) (fun a _ r m=>List.rec (motive:=fun _=>Bool) false (fun c m _=>cb (svb a c) (r m) false) m) l
def avb(x y:AV):Bool:=match x,y with
 | .c g l,.c k m=>cb (cb g k (dV k)) (svL l m) false
 |_,_=>false
def isN{α:Type}(x:Option α):Bool:=Option.rec (motive:=fun _=>Bool) true (fun _=>false) x
def aQQ(x:SV):Bool:=match x with
 | .b _=>true
 | .i _ _=>true
 | .s _=>true
 | .np=>true
 | .ns=>true
 | .m _=>true
 | .nf=>true
 | .r _=>true
 | .v _=>true
 |_=>false
def plS(l:List SV):Bool:=List.rec (motive:=fun _=>Bool) true (fun x _ r=>cb (aQQ x) r false) l
def noL(p:Option Lp):Bool:=Option.rec (motive:=fun _=>Bool) true (fun _=>false) p
def aDV(p:Option Lp)(x y:Option B):Bool:=cb (noL p) (isS x fun b=>isS y fun c=>cb (Nat.beq b.ty c.ty) (cb (svL b.c c.c) (plS b.c) false) false) false
def kX(h:H)(v:AV)(u:AV × H):Bool:=match v,u.1 with
 | .c false [.p k 0],.c false [.p n 0]=>cb (Nat.beq n h.n) (aDV (h.l.get k) (h.h.get k) (u.2.h.get n)) false
 | .c false [.sl k 0 m (some c)],.c false [.sl n 0 m' (some c')]=>cb (Nat.beq n h.n) (cb (Nat.beq m m') (cb (Nat.beq c c') (aDV (h.l.get k) (h.h.get k) (u.2.h.get n)) false) false) false
 |_,_=>false
def again(ops:List Oper)(e:Env)(h:H)(k:Option R)(l:List Nat):Option R:=List.rec (motive:=fun _=>Option R) k
 (fun j _ r=>ob (drp j ops).head? fun o=>match mkO F o.op with
  | .p=>r
  | .l=>ob o.dst fun d=>ob (e.get d) fun v=>ob (op1 F (fun _ _ _=>none) o.op e h) fun u=>cb (isN o.guard) (cb (avb v u.1) r none) none
  | .n=>ob o.dst fun d=>ob (e.get d) fun v=>ob (op1 F (fun _ _ _=>none) o.op e h) fun u=>cb (isN o.guard) (cb (kX h v u) r none) none
  |_=>none) l
def H.lift(h:H):H:=⟨h.h,h.n,h.n,h.l⟩
def H.back(h:H)(b:Nat):H:=⟨h.h,h.n,b,h.l⟩
def aBp(nt:Nat)(call:cZ)(ops:List Oper)(l:List (Nat × List Nat)):Env→H→Option R:=
 List.rec (motive:=fun _=>Env→H→Option R) (fun e h=>some ⟨.n,e,h⟩) (fun p _ r e h=>ob (drp p.1 ops).head? fun o=>nW F nt call ops (fun e h=>again F ops e h (r e h) p.2) o e h) l
def zA(nt:Nat)(call:cZ)(ops:List Oper)(b:Nat)(k:Env→H→Option R)(l:List Nat):Env→H→Option R:=
 List.rec (motive:=fun _=>Env→H→Option R) (fun e h=>k e (h.back b)) (fun i _ r e h=>ob (drp i ops).head? fun o=>nW F nt call ops r o e h.lift) l
def uT(nt:Nat)(call:cZ)(ops:Array Oper)(p:List Nat × List (Nat × List Nat))(e:Env)(h:H):Option R:=
 cb (lU F ops p) (iL h.bar fun b=>zA F nt call ops.toList b (aBp F nt call ops.toList p.2) p.1 e h) none
def qQ(nt:Nat)(l:List AV):Nat→Env→Option Env:=List.rec (motive:=fun _=>Nat→Env→Option Env) (fun _ e=>some e) (fun v _ r k e=>cb (Nat.blt k nt) (r (Nat.succ k) (e.set v k)) none) l
def fill(n:Nat):Nat→Env→Env:=Nat.rec (motive:=fun _=>Nat→Env→Env) (fun _ e=>e) (fun _ r k e=>r (Nat.succ k) (e.set un k)) n
def aIi(nt:Nat)(ps:List Nat):List AV→Env→Option Env:=List.rec (motive:=fun _=>List AV→Env→Option Env) (fun l e=>match l with| []=>some e|_=>none) (fun p _ r l e=>match l with| []=>none|v::l=>cb (Nat.blt p nt) (r l (e.set v p)) none) ps
def fP(v:AV):Option (Bool × List SV):=AV.rec (motive:=fun _=>Option (Bool × List SV)) (fun g l=>some (g,l)) (fun _=>none) v
def aBq(e:Env)(h:H)(r:ResultVar):Option (Bool × List SV):=match r with
 | .tmp t=>ob (e.get t) fP
 | .cell a t=>ob (F.ti t) fun i=>ob (e.get a) fun v=>one v fun s=>match s with| .p id off=>ob (rd h id off i.sz) fun c=>ob (av i.d.ag c) fP|_=>none
def res(e:Env)(h:H)(l:List ResultVar):Option (List (Bool × List SV)):=List.rec (motive:=fun _=>Option (List (Bool × List SV))) (some []) (fun r _ k=>ob (aBq F e h r) fun v=>ob k fun l=>some (v::l)) l
def tup(l:List (Bool × List SV)):AV:=List.rec (motive:=fun _=>AV) (.t []) (fun p r _=>List.rec (motive:=fun _=>AV) (.c p.1 p.2) (fun _ _ _=>.t l) r) l
def leave(G:Func)(r:R):Option VH:=match r with
 |⟨.x _,_,_⟩=>none
 |⟨_,e,h⟩=>ob (res F e h G.results.toList) fun l=>some (tup l,h)
abbrev dO:=Bool→Nat→Nat→Code→Env→H→Option R
def uU(l:List (Nat × Nat)):List AV:=List.rec (motive:=fun _=>List AV) [] (fun p _ r=>sc (.p p.1 p.2)::r) l
def nX(l:Nat)(b:Bool)(pd:Option Code)(h:H):Option VH:=ob (h.l.get l) fun p=>cb p.dd none (cb (Nat.ble h.bar l) (vh (.b b) (h.putLp l {p with st:=b,pd:=pd})) none)
def roundEnd(l:Nat)(r:R):Option VH:=match r with
 |⟨.n,_,h⟩=>nX l true none h
 |⟨.r,_,h⟩=>nX l false (some .ret) h
 |⟨.x id,_,h⟩=>nX l false (some (.exit id)) h
def mJ(ex:dO)(G:Func)(c:Code)(fn:Nat)(args:List AV)(h:H):Option VH:=
 ob (qQ G.ntmps args 0 (fill G.ntmps 0 .lf)) fun e=>ob (ex false G.ntmps fn c e h) (leave F G)
def aBR(ex:dO)(G:Func)(c:Code)(fn:Nat)(args:List AV)(h:H):Option VH:=Option.rec (motive:=fun _=>Option VH) (mJ F ex G c fn args h) (fun g=>Option.rec (motive:=fun _=>Option VH) (mJ F ex G c fn args h) (fun v=>some (v,h)) (g h args)) (F.ph fn)
def fU(ex:dO)(fn:Nat)(args:List AV)(h:H):Option VH:=
 ob (F.P.funcs[fn]?) fun G=>ob G.body fun c=>Option.rec (motive:=fun _=>Option VH) (aBR F ex G c fn args h) (fun g=>ob (g args) fun v=>some (v,h)) (F.pr fn)
def aIj(ex:dO)(l:Nat)(args:List AV)(h:H):Option VH:=
 ob (h.l.get l) fun p=>cb p.dd none $ ob (aIi p.nt p.ps args p.e) fun e=>ob (ex true p.nt p.fn p.cs e h) fun r=>match r with
  |⟨.n,e,h⟩=>ob (h.l.get l) fun p'=>cb p'.dd none $ cb (Nat.ble h.bar l) (cb p'.st (cb (isN p'.pd) (ob (ex true p.nt p.fn p.bd e (h.putLp l {p' with st:=false})) (roundEnd l)) none) none) none
  |_=>none
def aNF(ex:dO)(x:Value)(args:List AV)(h:H):Option VH:=mvT x fun t m=>ob (nV F t m) fun fn=>fU F ex fn (.c true []::args) h
def bQ(ex:dO)(f:AV)(args:List AV)(h:H):Option VH:=one f fun s=>match s with
 | .f fn dX=>fU F ex fn (app args (uU dX)) h
 | .v x=>aNF F ex x args h
 | .y l=>aIj ex l args h
 |_=>none
def aBS(ex:dO)(q:Bool)(nt fn:Nat)(f:AV)(ps:List Tmp)(cs bd:Code)(e:Env)(h:H):Option R:=
 cb q none $ iL h.n fun l=>one f fun s=>match s with
  | .f fn2 dX=>ob (fU F ex fn2 (sc (.y l)::uU dX) ⟨h.h,Nat.succ l,h.bar,h.l.set ⟨fn,nt,e,ps,cs,bd,true,none,false,none⟩ l⟩) fun r=>ob (r.2.l.get l) fun p=>cb p.dd none $ cb (Nat.ble r.2.bar l) (cb (cb p.st true (dV (isN p.pd))) (match p.pd with
    |none=>some ⟨.n,e,r.2.putLp l {p with dd:=true}⟩
    |some .ret=>some ⟨.r,e,r.2.putLp l {p with dd:=true}⟩
    |some (.exit id)=>some ⟨.x id,e,r.2.putLp l {p with dd:=true}⟩
    |some _=>none) none) none
  |_=>none
def nY(ex:dO)(q:Bool)(nt fn:Nat)(c:Code)(r:R):Option R:=match r with|⟨.n,e,h⟩=>ex q nt fn c e h|r=>some r
def zC(id:Nat)(r:R):Option R:=match r with|⟨.x j,e,h⟩=>cb (Nat.beq id j) (some ⟨.n,e,h⟩) (some ⟨.x j,e,h⟩)|r=>some r
def aBT(ex:dO)(q:Bool)(nt fn:Nat)(a b:Code)(e:Env)(h:H)(s:SV):Option R:=match s with| .b x=>ex q nt fn (cb x a b) e h|_=>none
def aBU(ex:dO)(q:Bool)(nt fn:Nat)(c:Code)(e:Env)(h:H):Option R:=
 match c with
 | .skip=>some ⟨.n,e,h⟩
 | .label _=>some ⟨.n,e,h⟩
 | .region id ops dr=>cb dr (ob (F.pl fn id) fun p=>uT F nt (bQ F ex) ops p e h) (nH F nt (bQ F ex) ops.toList ops.toList e h)
 | .seq a b=>ob (ex q nt fn a e h) (nY ex q nt fn b)
 | .cond c a b=>ob (ev e c) fun v=>one v (aBT ex q nt fn a b e h)
 | .block id a=>ob (ex q nt fn a e h) (zC id)
 | .loop a=>ob (ex q nt fn a e h) (nY ex q nt fn (.loop a))
 | .scope a=>ex q nt fn a e h
 | .rangeFunc f ps cs bd=>ob (ev e f) fun f=>aBS F ex q nt fn f ps.toList cs bd e h
 | .exit id=>some ⟨.x id,e,h⟩
 | .ret=>some ⟨.r,e,h⟩
 |_=>none
def exec(m:Nat):dO:=Nat.rec (motive:=fun _=>dO) (fun _ _ _ _ _ _=>none) (fun _ ex=>aBU F ex) m
def aDW(m fn:Nat)(args:List AV):Option VH:=bQ F (exec F m) (sc (.f fn [])) args ⟨.lf,0,0,.lf⟩
end
section
variable {α β:Type}
theorem aA{r:Option α}{f:α→Option β}{y:β}:ob r f=some y↔∃a,r=some a∧f a=some y:=by
 cases r<;>simp[ob]
theorem aD{c:Bool}{x:Option α}{y:α}:cb c x none=some y↔c=true∧x=some y:=by cases c<;>simp[cb]
theorem cbn{c:Bool}{x:Option α}{y:α}:cb c none x=some y↔c=false∧x=some y:=by cases c<;>simp[cb]
theorem bU{c:Bool}{x y:α}:cb c x y=if c=true then x else y:=by cases c<;>rfl
theorem aT(l:List α):len l=l.length:=by
 induction l with
 |nil=>rfl
 |cons x l ih=>show Nat.succ (len l)=_;rw[ih];rfl
theorem iT(l m:List α):app l m=l++m:=by
 induction l with
 |nil=>rfl
 |cons x l ih=>show x::app l m=_;rw[ih];rfl
theorem jY(n:Nat)(l:List α):drp n l=l.drop n:=by
 induction n generalizing l with
 |zero=>rfl
 |succ n ih=>
  cases l with
  |nil=>rfl
  |cons x l=>exact ih l
theorem kY{n:Nat}{l m:List α}:dG n l=some m↔n≤l.length∧m=l.take n:=by
 induction n generalizing l m with
 |zero=>show some []=some m↔_;simp[eq_comm]
 |succ n ih=>
  cases l with
  |nil=>show (none:Option (List α))=some m↔_;simp
  |cons x l=>
   show ob (dG n l) (fun m=>some (x::m))=some m↔_;rw[aA];constructor
   ·rintro⟨a,h1,h2⟩;obtain⟨h3,rfl⟩:=ih.1 h1;injection h2 with h2;exact⟨by simp;omega,by simpa using h2.symm⟩
   ·rintro⟨h1,rfl⟩;exact⟨l.take n,ih.2 ⟨by simpa using h1,rfl⟩,by simp⟩
theorem aMh{xs l m:List α}:ovr xs l=some m↔xs.length≤l.length∧m=xs++l.drop xs.length:=by
 induction xs generalizing l m with
 |nil=>show some l=some m↔_;simp[eq_comm]
 |cons x xs ih=>
  cases l with
  |nil=>show (none:Option (List α))=some m↔_;simp
  |cons y l=>
   show ob (ovr xs l) (fun m=>some (x::m))=some m↔_;rw[aA];constructor
   ·rintro⟨a,h1,h2⟩;obtain⟨h3,rfl⟩:=ih.1 h1;injection h2 with h2;exact⟨by simp;omega,by simpa using h2.symm⟩
   ·rintro⟨h1,rfl⟩;exact⟨_,ih.2 ⟨by simpa using h1,rfl⟩,by simp⟩
theorem pW{off:Nat}{xs l m:List α}:dU off xs l=some m↔off+xs.length≤l.length∧m=l.take off++xs++l.drop (off+xs.length):=by
 induction off generalizing l m with
 |zero=>show ovr xs l=some m↔_;rw[aMh];simp
 |succ n ih=>
  cases l with
  |nil=>show (none:Option (List α))=some m↔_;simp
  |cons y l=>
   show ob (dU n xs l) (fun m=>some (y::m))=some m↔_;rw[aA];constructor
   ·rintro⟨a,h1,h2⟩;obtain⟨h3,rfl⟩:=ih.1 h1;injection h2 with h2;refine⟨by simp;omega,?_⟩;rw[←h2,show n+1+xs.length=n+xs.length+1 from by omega];simp
   ·rintro⟨h1,rfl⟩;refine⟨_,ih.2 ⟨by simp at h1;omega,rfl⟩,?_⟩;rw[show n+1+xs.length=n+xs.length+1 from by omega];simp
theorem aW{n:Nat}{f:Nat→α}:iL n f=f n:=by cases n<;>rfl
theorem vS{n:Int}{f:Int→α}:aEJ n f=f n:=by
 cases n with
 |ofNat m=>exact aW (f:=fun m=>f (.ofNat m))
 |negSucc m=>exact aW (f:=fun m=>f (.negSucc m))
theorem aM{a b:Nat}:Nat.beq a b=true↔a=b:=⟨Nat.eq_of_beq_eq_true,fun h=>by subst h;exact Nat.beq_refl a⟩
theorem uA{a b:Nat}:Nat.beq a b=false↔a≠b:=by
 have h:=@aM a b;cases e:Nat.beq a b<;>rw[e]at h<;>simp at h⊢<;>exact h
theorem aP{a b:Nat}:Nat.blt a b=true↔a<b:=by simp[Nat.blt,Nat.ble_eq];omega
theorem aIk{a b:Nat}:Nat.blt a b=false↔¬a<b:=by rw[←aP];cases Nat.blt a b<;>simp
theorem bN{a b:Nat}:Nat.ble a b=true↔a≤b:=by rw[Nat.ble_eq]
theorem aOS(d d':Nat)(hd:d<8)(hd':d' <8)(f:α→α)(x:N α):(ls1 d).g ((ls1 d').u f x)=if d=d' then f ((ls1 d).g x) else (ls1 d).g x:=by
 obtain⟨_,_,_,_,_,_,_,_⟩:=x
 rcases (by omega:d=0∨d=1∨d=2∨d=3∨d=4∨d=5∨d=6∨d=7) with rfl|rfl|rfl|rfl|rfl|rfl|rfl|rfl<;>
  rcases (by omega:d'=0∨d'=1∨d'=2∨d'=3∨d'=4∨d'=5∨d'=6∨d'=7) with rfl|rfl|rfl|rfl|rfl|rfl|rfl|rfl<;>rfl
theorem aNG{X Y Z:Type}(l:Ls X Y)(m:Ls Y Z)(x:X):(l.cmp m).g x=m.g (l.g x):=by cases l;cases m;rfl
theorem aNH{X Y Z:Type}(l:Ls X Y)(m:Ls Y Z)(f:Z→Z)(x:X):(l.cmp m).u f x=l.u (m.u f) x:=by cases l;cases m;rfl
theorem T.get_ls{n:Nat}(t:T n α)(k:Nat):t.get k=(T.ls α n k).g t:=by unfold T.get;cases T.ls α n k;rfl
theorem T.set_ls{n:Nat}(x:α)(t:T n α)(k:Nat):T.set x t k=(T.ls α n k).u (fun _=>some x) t:=by unfold T.set;cases T.ls α n k;rfl
noncomputable def T0.g {n:Nat} (t:T0 n α) (k:Nat):Option α:=(T0.ls α n k).g t
noncomputable def T0.s {n:Nat} (x:α) (t:T0 n α) (k:Nat):T0 n α:=(T0.ls α n k).u (fun _=>some x) t
theorem T0.get_z(t:T0 0 α)(k:Nat):t.g k=if k=0 then (show Option α from t) else none:=by
 show (cb (Nat.beq k 0) _ _:Ls (T0 0 α) (Option α)).g t=_;rw[bU];by_cases h:k=0
 ·rw[if_pos h,if_pos (aM.2 h)]
 ·rw[if_neg h,if_neg (fun e=>h (aM.1 e))]
theorem T0.set_z(x:α)(t:T0 0 α)(k:Nat):T0.s x t k=if k=0 then (show T0 0 α from (some x:Option α)) else t:=by
 show (cb (Nat.beq k 0) _ _:Ls (T0 0 α) (Option α)).u (fun _=>some x) t=_;rw[bU];by_cases h:k=0
 ·rw[if_pos h,if_pos (aM.2 h)]
 ·rw[if_neg h,if_neg (fun e=>h (aM.1 e))]
noncomputable def T0.pk {n:Nat} (t:T0 (n+1) α) (d:Nat):T0 n α:=(ls1 (X:=T0 n α) d).g t
noncomputable def T0.pt {n:Nat} (d:Nat) (f:T0 n α→T0 n α) (t:T0 (n+1) α):T0 (n+1) α:=(ls1 (X:=T0 n α) d).u f t
theorem T0.pk_pt{n:Nat}(d d':Nat)(hd:d<8)(hd':d' <8)(f:T0 n α→T0 n α)(t:T0 (n+1) α):(T0.pt d' f t).pk d=if d=d' then f (t.pk d) else t.pk d:=aOS d d' hd hd' f t
theorem T0.get_s{n:Nat}(t:T0 (n+1) α)(k:Nat):t.g k=(t.pk (k % 8)).g (k/8):=aNG (ls1 (X:=T0 n α) (k % 8)) (T0.ls α n (k/8)) t
theorem T0.set_s{n:Nat}(x:α)(t:T0 (n+1) α)(k:Nat):T0.s x t k=T0.pt (k % 8) (fun y=>T0.s x y (k/8)) t:=aNH (ls1 (X:=T0 n α) (k % 8)) (T0.ls α n (k/8)) (fun _=>some x) t
theorem T0.get_lf{n k:Nat}:(T0.lf:T0 n α).g k=none:=by
 induction n generalizing k with
 |zero=>rw[T0.get_z];split<;>rfl
 |succ n ih=>
  rw[T0.get_s];have:(T0.lf:T0 (n+1) α).pk (k % 8)=T0.lf:=by
    have hk:=Nat.mod_lt k (show 0<8 by decide);generalize k % 8=d at hk;rcases (by omega:d=0∨d=1∨d=2∨d=3∨d=4∨d=5∨d=6∨d=7) with rfl|rfl|rfl|rfl|rfl|rfl|rfl|rfl<;>rfl
  rw[this,ih]
theorem T0.get_upd{n:Nat}{x:α}{t:T0 n α}{k j:Nat}(hj:j<Nat.pow 8 n)(hn:j≠k):(T0.s x t k).g j=t.g j:=by
 induction n generalizing k j with
 |zero=>
  have hj:j<1:=hj;rw[T0.set_z,T0.get_z,T0.get_z];rw[if_neg (c:=k=0) (by omega)]
 |succ n ih=>
  have hj:j<Nat.pow 8 n*8:=hj;rw[T0.set_s,T0.get_s,T0.get_s];have hk8:=Nat.mod_lt k (show 0<8 by decide);have hj8:=Nat.mod_lt j (show 0<8 by decide);rw[T0.pk_pt _ _ hj8 hk8];by_cases h:j % 8=k % 8
  ·rw[if_pos h];exact ih (by omega) (by omega)
  ·rw[if_neg h]
theorem T0.get_same{n:Nat}{x:α}{t:T0 n α}{k:Nat}(hk:k<Nat.pow 8 n):(T0.s x t k).g k=some x:=by
 induction n generalizing k with
 |zero=>
  have hk:k<1:=hk;rw[T0.set_z,T0.get_z,if_pos (by omega),if_pos (by omega)]
 |succ n ih=>
  have hk:k<Nat.pow 8 n*8:=hk;rw[T0.set_s,T0.get_s];have hk8:=Nat.mod_lt k (show 0<8 by decide);rw[T0.pk_pt _ _ hk8 hk8,if_pos rfl];exact ih (by omega)
theorem T.get_lt{n:Nat}{t:T n α}{k:Nat}(h:k<Nat.pow 8 n):t.get k=t.t.g k:=by
 rw[T.get_ls];unfold T.ls;rw[aP.2 h];exact aNG (⟨T.t,T.u1⟩:Ls (T n α) (T0 n α)) (T0.ls α n k) t
theorem T.get_ge{n:Nat}{t:T n α}{k:Nat}(h:¬k<Nat.pow 8 n):t.get k=t.o k:=by
 rw[T.get_ls];unfold T.ls;rw[aIk.2 h];rfl
theorem T.set_lt{n:Nat}{x:α}{t:T n α}{k:Nat}(h:k<Nat.pow 8 n):T.set x t k=⟨T0.s x t.t k,t.o⟩:=by
 rw[T.set_ls];unfold T.ls;rw[aP.2 h];refine (aNH (⟨T.t,T.u1⟩:Ls (T n α) (T0 n α)) (T0.ls α n k) (fun _=>some x) t).trans ?_;cases t;rfl
theorem T.set_ge{n:Nat}{x:α}{t:T n α}{k:Nat}(h:¬k<Nat.pow 8 n):T.set x t k=⟨t.t,fun i=>cb (Nat.beq i k) (some x) (t.o i)⟩:=by
 rw[T.set_ls];unfold T.ls;rw[aIk.2 h];cases t;rfl
theorem T.get_lf{n k:Nat}:(T.lf:T n α).get k=none:=by
 by_cases h:k<Nat.pow 8 n
 ·rw[T.get_lt h];exact T0.get_lf
 ·rw[T.get_ge h];rfl
theorem T.get_upd{n:Nat}{x:α}{t:T n α}{k j:Nat}:((T.set x t k).get j=t.get j)∨(j=k∧(T.set x t k).get j=some x):=by
 by_cases hjk:j=k
 ·refine .inr ⟨hjk,?_⟩;subst hjk;by_cases h:j<Nat.pow 8 n
  ·rw[T.get_lt h,T.set_lt h];exact T0.get_same h
  ·rw[T.get_ge h,T.set_ge h];show cb (Nat.beq j j) _ _=_;rw[Nat.beq_refl];rfl
 ·refine .inl ?_;by_cases h:j<Nat.pow 8 n
  ·rw[T.get_lt h,T.get_lt h];by_cases hk:k<Nat.pow 8 n
   ·rw[T.set_lt hk];exact T0.get_upd h hjk
   ·rw[T.set_ge hk]
  ·rw[T.get_ge h,T.get_ge h];by_cases hk:k<Nat.pow 8 n
   ·rw[T.set_lt hk]
   ·rw[T.set_ge hk];show cb (Nat.beq j k) _ _=_;rw[uA.2 hjk];rfl
theorem T.get_same{n:Nat}{x:α}{t:T n α}{k:Nat}:(T.set x t k).get k=some x:=by
 by_cases h:k<Nat.pow 8 n
 ·rw[T.get_lt h,T.set_lt h];exact T0.get_same h
 ·rw[T.get_ge h,T.set_ge h];show cb (Nat.beq k k) _ _=_;rw[Nat.beq_refl];rfl
theorem T.get_set{n:Nat}{x y:α}{t:T n α}{k j:Nat}(h:(T.set x t k).get j=some y):(j=k∧y=x)∨(j≠k∧t.get j=some y):=by
 by_cases hj:j=k
 ·subst hj;rw[T.get_same]at h;injection h with h;exact .inl ⟨rfl,h.symm⟩
 ·rcases T.get_upd (x:=x) (t:=t) (k:=k) (j:=j) with h1|⟨h1,-⟩
  ·exact .inr ⟨hj,h1▸h⟩
  ·exact absurd h1 hj
end
end E
end Go.Proofs.YtohcfjmkfflkpaaGreatDoor
