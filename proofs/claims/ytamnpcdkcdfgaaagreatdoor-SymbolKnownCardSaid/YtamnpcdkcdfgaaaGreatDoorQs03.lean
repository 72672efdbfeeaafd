/- SymbolKnown holds. No condition. -/
import Derived.Deep.RegionHeld
import Derived.IntWalk
import Derived.Maps.AppendAt
import Derived.OwnWalk
import Derived.Test.YtamnpcdkcdfgaaaGreatDoorProg
import Derived.Test.YtamnpcdkcdfgaaaGreatDoorQs01
namespace Go.Proofs.YtamnpcdkcdfgaaaGreatDoor
section
namespace Ja
open Go
section
variable {P:Program} {ops:Array Oper} {Q:Exit→Act→World→Prop}
def gX(ops:Array Oper)(j:Nat):Option Tmp:=(ops[j]?).bind (·.dst)
def fillGo(ops:Array Oper)(L:Nat→Bool)(vals:Nat→Value):Nat→Act→Act
 |0,a=>a
 |n+1,a=>if L n=true then (fillGo ops L vals n a).put (gX ops n) (vals n) else fillGo ops L vals n a
def upd{α:Type}(f:Nat→α)(i:Nat)(v:α):Nat→α:=fun j=>if j=i then v else f j
def fillL(vals:Nat→Value):List Oper→Nat→Act→Act
 | [],_,a=>a
 |o::os,k,a=>fillL vals os (k+1) (a.put o.dst (vals k))
theorem aBn{vals:Nat→Value}{a:Act}:∀(m k:Nat),k+m=ops.size→fillL vals (ops.toList.drop k) k (fillGo ops (fun _=>true) vals k a)=fillGo ops (fun _=>true) vals ops.size a
 |0,k,h=>by
  have:k=ops.size:=(by omega);subst this;rw[List.drop_eq_nil_of_le (by simp)];rfl
 |m+1,k,h=>by
  have hk:k<ops.size:=(by omega);have hd:ops.toList.drop k=ops[k]::ops.toList.drop (k+1):=by
    rw[List.drop_eq_getElem_cons (by simpa using hk)];simp
  rw[hd];unfold fillL;have:=aBn (vals:=vals) (a:=a) m (k+1) (by omega);have h2:fillGo ops (fun _=>true) vals (k+1) a=(fillGo ops (fun _=>true) vals k a).put ops[k].dst (vals k):=by
    conv=>lhs;unfold fillGo
    rw[if_pos rfl];simp[gX,hk]
  rw[h2]at this;exact this
theorem fillL_full(vals:Nat→Value)(a:Act):fillL vals ops.toList 0 a=fillGo ops (fun _=>true) vals ops.size a:=by
 have:=aBn (ops:=ops) (vals:=vals) (a:=a) ops.size 0 (by omega);simpa [fillGo] using this
theorem aBo(a:Act)(d t:Tmp)(v:Value):(a.put (some d) v).tmps[t]? =if d=t then (if t<a.tmps.size then some v else none) else a.tmps[t]? :=by
 simp only[Act.put,Array.getElem?_setIfInBounds];split
 ·rename_i h;subst h;rfl
 ·rfl
theorem aHU(a:Act)(d:Option Tmp)(v:Value):(a.put d v).tmps.size=a.tmps.size:=by
 cases d<;>simp[Act.put]
theorem aAj{L:Nat→Bool}{vals:Nat→Value}{a:Act}:∀n,(fillGo ops L vals n a).tmps.size=a.tmps.size
 |0=>rfl
 |n+1=>by unfold fillGo;split<;>simp[aHU,aAj n]
def shape(ops:Array Oper):Bool:=
 (List.range ops.size).all fun i=>match ops[i]? with
  |none=>false
  |some o=>(List.range ops.size).all (fun j=>j == i || (match gX ops j with|some d=>!(o.dst == some d)|none=>true)) &&
     (o.looksAt ops).all (fun t=>(List.range ops.size).all fun j=>!(gX ops j == some t) || o.after.any fun e=>Region.binds .any e && e.on == j) &&
     o.after.all (fun e=>!Region.binds .any e || e.on<i)
theorem shape_spec(h:shape ops=true){i:Nat}{o:Oper}(ho:ops[i]? =some o):(∀j,j≠i→∀d,gX ops j=some d→gX ops i≠some d)∧(∀t∈o.looksAt ops,∀j,gX ops j=some t→∃e∈o.after,Region.binds .any e=true∧e.on=j)∧
  (∀e∈o.after,Region.binds .any e=true→e.on<i):=by
 have hi:i<ops.size:=(Array.getElem?_eq_some_iff.1 ho).1;have h1:=List.all_eq_true.1 h i (List.mem_range.2 hi);simp only[ho,Bool.and_eq_true,List.all_eq_true,Array.all_eq_true_iff_forall_mem]at h1;obtain⟨⟨ha,hb⟩,hc⟩:=h1;have hlt:∀j d,gX ops j=some d→j<ops.size:=fun j d hd=>by
  unfold gX at hd;cases hj:ops[j]? with
  |none=>simp[hj]at hd
  |some o=>exact (Array.getElem?_eq_some_iff.1 hj).1
 refine⟨fun j hne d hd he=>?_,fun t ht j hd=>?_,fun e he hbi=>?_⟩
 ·have:=ha j (List.mem_range.2 (hlt j d hd));simp only[hd,Bool.or_eq_true,beq_iff_eq,hne,false_or,Bool.not_eq_true']at this;have he2:o.dst=some d:=(by simpa [gX,ho] using he);simp[he2]at this
 ·have:=hb t ht j (List.mem_range.2 (hlt j t hd));simp only[hd,Bool.or_eq_true,Bool.not_eq_true',beq_self_eq_true,Bool.true_eq_false,false_or]at this;obtain⟨e,he,hbo⟩:=Array.any_eq_true'.1 this;simp only[Bool.and_eq_true,beq_iff_eq]at hbo;exact⟨e,he,hbo.1,hbo.2⟩
 ·have:=hc e he;simp only[Bool.or_eq_true,Bool.not_eq_true',decide_eq_true_eq]at this;rcases this with h2|h2
  ·rw[hbi]at h2;cases h2
  ·exact h2
def left(L:Nat→Bool):Nat→Nat
 |0=>0
 |n+1=>left L n+if L n=true then 0 else 1
theorem xJ{L L':Nat→Bool}:∀n,(∀j,j<n→L j=L' j)→left L n=left L' n
 |0,_=>rfl
 |n+1,h=>by unfold left;rw[xJ n (fun j hj=>h j (by omega)),h n (by omega)]
theorem left_upd{L:Nat→Bool}{i:Nat}(hi:L i=false):∀n,i<n→left (upd L i true) n+1=left L n
 |0,h=>absurd h (by omega)
 |n+1,h=>by
  unfold left;by_cases hin:i=n
  ·subst hin;rw[xJ (L:=upd L i true) (L':=L) i (fun j hj=>by simp[upd,Nat.ne_of_lt hj])];simp[upd,hi]
  ·have ih:=left_upd hi n (by omega);have hn:n≠i:=fun e=>hin e.symm;have h1:upd L i true n=L n:=(by simp[upd,hn]);rw[h1];omega
theorem left_zero{L:Nat→Bool}:∀n,left L n=0→∀j,j<n→L j=true
 |0,_,j,hj=>absurd hj (by omega)
 |n+1,h,j,hj=>by
  unfold left at h;by_cases hL:L n=true
  ·by_cases hjn:j=n
   ·subst hjn;exact hL
   ·exact left_zero n (by omega) j (by omega)
  ·rw[if_neg hL]at h;omega
theorem left_le{L:Nat→Bool}:∀n,left L n≤n
 |0=>Nat.le_refl _
 |n+1=>by unfold left;have:=left_le (L:=L) n;split<;>omega
def Step(P:Program)(ops:Array Oper)(J:(Nat→Bool)→(Nat→Value)→World→Prop)(F:(Nat→Value)→Act)(i:Nat)(o:Oper):Prop:=
 ∀(L:Nat→Bool) (vals:Nat→Value) (w:World),L i=false→(∀e∈o.after,Region.binds .any e=true→L e.on=true)→J L vals w→
  if Region.wanted o (yielded ops (F vals).tmps)=true then
   (∀K:Act→World→Prop,(∀v w' a',a'=(F vals).put o.dst v→J (upd L i true) (upd vals i v) w'→K a' w')→o.wp P (F vals) w K (fun _ _ _=>False))
  else J (upd L i true) (upd vals i undef) w
def Steps(P:Program)(ops:Array Oper)(J:(Nat→Bool)→(Nat→Value)→World→Prop)(F:(Nat→Value)→Act):Nat→List Oper→Prop
 |_,[]=>True
 |i,o::os=>Step P ops J F i o∧Steps P ops J F (i+1) os
theorem Steps.cons{J:(Nat→Bool)→(Nat→Value)→World→Prop}{F:(Nat→Value)→Act}{i:Nat}{o:Oper}{os:List Oper}(h:Step P ops J F i o)(hs:Steps P ops J F (i+1) os):Steps P ops J F i (o::os):=⟨h,hs⟩
theorem Steps.nil{J:(Nat→Bool)→(Nat→Value)→World→Prop}{F:(Nat→Value)→Act}{i:Nat}:Steps P ops J F i []:=trivial
theorem Steps.at{J:(Nat→Bool)→(Nat→Value)→World→Prop}{F:(Nat→Value)→Act}:∀(os:List Oper) (k i:Nat) (o:Oper),Steps P ops J F k os→os[i]? =some o→Step P ops J F (k+i) o
 | [],_,_,_,_,h=>by simp at h
 |x::xs,k,0,o,hs,h=>by
  simp at h;subst h;exact hs.1
 |x::xs,k,i+1,o,hs,h=>by
  have:=Steps.at xs (k+1) i o hs.2 (by simpa using h)
  rwa [Nat.add_assoc,Nat.add_comm 1 i]at this
def inBounds(ops:Array Oper)(n:Nat):Bool:=ops.all fun o=>match o.dst with|some d=>d<n|none=>true
theorem fill_get{vals:Nat→Value}{a:Act}{i:Nat}{d:Tmp}(hi:gX ops i=some d)(hb:d<a.tmps.size)
  (hd:∀j,j≠i→∀e,gX ops j=some e→gX ops i≠some e):∀n,i<n→(fillGo ops (fun _=>true) vals n a).tmps[d]? =some (vals i)
 |0,h=>absurd h (by omega)
 |n+1,h=>by
  unfold fillGo;rw[if_pos rfl];by_cases hin:n=i
  ·subst hin;rw[hi,aBo,if_pos rfl,aAj,if_pos hb]
  ·have ih:=fill_get (vals:=vals) hi hb hd n (by omega);cases he:gX ops n with
   |none=>simpa [Act.put] using ih
   |some e=>
    have hne:e≠d:=fun x=>hd n hin e he (by rw[hi,x]);rw[aBo,if_neg hne];exact ih
section
variable {M:World→World→Prop} {S:Nat→Value→World→Prop} {F:(Nat→Value)→Act} {w1:World}
def JS(M:World→World→Prop)(S:Nat→Value→World→Prop)(w1:World):(Nat→Bool)→(Nat→Value)→World→Prop:=fun L vals w=>M w1 w∧∀j,L j=true→S j (vals j) w
theorem JS.step{i:Nat}{o:Oper}(hMt:∀a b c,M a b→M b c→M a c)(hS:∀j v w w',M w w'→S j v w→S j v w')(h:∀(vals:Nat→Value) (w:World),M w1 w→(∀e∈o.after,Region.binds .any e=true→S e.on (vals e.on) w)→
   if Region.wanted o (yielded ops (F vals).tmps)=true then
    (∀K:Act→World→Prop,(∀v w' a',a'=(F vals).put o.dst v→S i v w'→M w w'→K a' w')→o.wp P (F vals) w K (fun _ _ _=>False))
   else S i undef w):Step P ops (JS M S w1) F i o:=by
 intro L vals w hL hdep hJ;have h1:=h vals w hJ.1 (fun e he hb=>hJ.2 _ (hdep e he hb));have nxt:∀v w',S i v w'→(∀j v,S j v w→S j v w')→∀j,upd L i true j=true→S j (upd vals i v j) w':=fun v w' hv hk j hj=>by
  unfold upd at*
  by_cases hji:j=i
  ·subst hji;simpa using hv
  ·rw[if_neg hji]at hj⊢;exact hk j _ (hJ.2 j hj)
 split at h1
 ·rename_i hw;rw[if_pos hw];intro K hK;refine h1 K fun v w' a' e hv hm=>hK v w' a' e ⟨hMt _ _ _ hJ.1 hm,nxt v w' hv (fun j u hu=>hS j u w w' hm hu)⟩
 ·rename_i hw;rw[if_neg hw];exact⟨hJ.1,nxt undef w h1 (fun _ _ h=>h)⟩
theorem wanted_of{a:Act}{vals:Nat→Value}{o:Oper}{g:Nat}{want b:Bool}(hsh:(shape ops && Region.noSelect ops && inBounds ops a.tmps.size)=true)(hg:o.guard=some (g,want))(hlt:g<ops.size)(hd:((ops[g]?).bind (·.dst)).isSome=true)(hv:vals g=.bool b):
  Region.wanted o (yielded ops (fillGo ops (fun _=>true) vals ops.size a).tmps)=(b == want):=by
 simp only[Bool.and_eq_true]at hsh;obtain⟨⟨h1,h2⟩,h3⟩:=hsh;obtain⟨og,hog⟩:∃o,ops[g]? =some o:=⟨_,Array.getElem?_eq_getElem hlt⟩
 obtain⟨d,hd2⟩:=Option.isSome_iff_exists.1 hd;have hin:d<a.tmps.size:=by
  have:=Array.all_eq_true_iff_forall_mem.1 h3 og (Array.mem_of_getElem? hog);simp only[hog,Option.bind_some]at hd2;simpa [hd2] using this
 have:=fill_get (ops:=ops) (vals:=vals) (a:=a) (i:=g) (d:=d) hd2 hin (shape_spec h1 hog).1 ops.size hlt;unfold Region.wanted yielded;simp only[hg,hd2,Option.bind_some,this,hv];cases b<;>cases want<;>rfl
end
end
end Ja
end
namespace E
open Go
noncomputable section
inductive SV where
 |u
 |b (x:Bool)
 |i (k:IntKind) (n:Int)
 |s (l:List Nat)
 |np
 |p (id off:Nat)
 |ns
 |sl (id off len:Nat) (cap:Option Nat)
 |m (n:Nat)
 |nf
 |f (fn:Nat) (fI:List (Nat × Nat))
 |y (l:Nat)
 /-- a natural number of the reference -/
 |r (n:Nat)
 /-- a value of the machine -/
 |v (x:Value)
 /-- a map:nil,or its number -/
 |nq
 |q (id:Nat)
inductive AV where
 |c (g:Bool) (l:List SV)
 |t (l:List (Bool × List SV))
instance:Inhabited AV:=⟨.t []⟩
def sc(x:SV):AV:=.c false [x]
def un:AV:=.t []
def cb{α:Type}(c:Bool)(x y:α):α:=Bool.rec (motive:=fun _=>α) y x c
def ob{α β:Type}(r:Option α)(f:α→Option β):Option β:=Option.rec (motive:=fun _=>Option β) none f r
structure N (α:Type) where
 a:α
 b:α
 c:α
 d:α
 e:α
 f:α
 g:α
 h:α
structure Ls (X Y:Type) where
 g:X→Y
 u:(Y→Y)→X→X
section
variable {X:Type}
def sA(k:X→X)(x:N X):N X:=N.rec (motive:=fun _=>N X) (fun a b c d e f g h=>⟨k a,b,c,d,e,f,g,h⟩) x
def sB(k:X→X)(x:N X):N X:=N.rec (motive:=fun _=>N X) (fun a b c d e f g h=>⟨a,k b,c,d,e,f,g,h⟩) x
def sC(k:X→X)(x:N X):N X:=N.rec (motive:=fun _=>N X) (fun a b c d e f g h=>⟨a,b,k c,d,e,f,g,h⟩) x
def sD(k:X→X)(x:N X):N X:=N.rec (motive:=fun _=>N X) (fun a b c d e f g h=>⟨a,b,c,k d,e,f,g,h⟩) x
def sE(k:X→X)(x:N X):N X:=N.rec (motive:=fun _=>N X) (fun a b c d e f g h=>⟨a,b,c,d,k e,f,g,h⟩) x
def sF(k:X→X)(x:N X):N X:=N.rec (motive:=fun _=>N X) (fun a b c d e f g h=>⟨a,b,c,d,e,k f,g,h⟩) x
def sG(k:X→X)(x:N X):N X:=N.rec (motive:=fun _=>N X) (fun a b c d e f g h=>⟨a,b,c,d,e,f,k g,h⟩) x
def sH(k:X→X)(x:N X):N X:=N.rec (motive:=fun _=>N X) (fun a b c d e f g h=>⟨a,b,c,d,e,f,g,k h⟩) x
def ls1(d:Nat):Ls (N X) X:=Nat.rec (motive:=fun _=>Ls (N X) X) ⟨N.a,sA⟩ (fun d _=>Nat.rec (motive:=fun _=>Ls (N X) X) ⟨N.b,sB⟩ (fun d _=>Nat.rec (motive:=fun _=>Ls (N X) X) ⟨N.c,sC⟩ (fun d _=>Nat.rec (motive:=fun _=>Ls (N X) X) ⟨N.d,sD⟩ (fun d _=>Nat.rec (motive:=fun _=>Ls (N X) X) ⟨N.e,sE⟩ (fun d _=>Nat.rec (motive:=fun _=>Ls (N X) X) ⟨N.f,sF⟩ (fun d _=>Nat.rec (motive:=fun _=>Ls (N X) X) ⟨N.g,sG⟩ (fun _ _=>⟨N.h,sH⟩) d) d) d) d) d) d) d
def Ls.cmp{Y Z:Type}(l:Ls X Y)(m:Ls Y Z):Ls X Z:=Ls.rec (motive:=fun _=>Ls X Z) (fun g u=>Ls.rec (motive:=fun _=>Ls X Z) (fun g2 u2=>⟨fun x=>g2 (g x),fun k x=>u (u2 k) x⟩) m) l
end
def T0(n:Nat)(α:Type):Type:=Nat.rec (motive:=fun _=>Type) (Option α) (fun _ X=>N X) n
def T0.ls(α:Type)(n:Nat):Nat→Ls (T0 n α) (Option α):=
 Nat.rec (motive:=fun n=>Nat→Ls (T0 n α) (Option α)) (fun k=>cb (Nat.beq k 0) ⟨fun x=>x,fun f x=>f x⟩ ⟨fun _=>none,fun _ x=>x⟩) (fun n ih k=>Ls.cmp (Y:=T0 n α) (ls1 (X:=T0 n α) (Nat.mod k 8)) (ih (Nat.div k 8))) n
def T0.lf{n:Nat}{α:Type}:T0 n α:=Nat.rec (motive:=fun n=>T0 n α) (none:Option α) (fun _ t=>(⟨t,t,t,t,t,t,t,t⟩:N _)) n
structure T (n:Nat) (α:Type) where
 t:T0 n α
 o:Nat→Option α
def T.u1{n:Nat}{α:Type}(k:T0 n α→T0 n α)(x:T n α):T n α:=T.rec (motive:=fun _=>T n α) (fun t o=>⟨k t,o⟩) x
def T.u2{n:Nat}{α:Type}(j:Nat)(f:Option α→Option α)(x:T n α):T n α:=T.rec (motive:=fun _=>T n α) (fun t o=>⟨t,fun i=>cb (Nat.beq i j) (f (o i)) (o i)⟩) x
def T.ls(α:Type)(n k:Nat):Ls (T n α) (Option α):=cb (Nat.blt k (Nat.pow 8 n)) (Ls.cmp (Y:=T0 n α) ⟨T.t,T.u1⟩ (T0.ls α n k)) ⟨fun x=>x.o k,T.u2 k⟩
def T.get{n:Nat}{α:Type}(t:T n α)(k:Nat):Option α:=Ls.rec (motive:=fun _=>Option α) (fun g _=>g t) (T.ls α n k)
def T.set{n:Nat}{α:Type}(x:α)(t:T n α)(k:Nat):T n α:=Ls.rec (motive:=fun _=>T n α) (fun _ u=>u (fun _=>some x) t) (T.ls α n k)
def T.lf{n:Nat}{α:Type}:T n α:=⟨T0.lf,fun _=>none⟩
def T.ofL{n:Nat}{α:Type}(l:List (Nat × α)):T n α:=List.rec (motive:=fun _=>T n α) .lf (fun p _ t=>T.set p.2 t p.1) l
def dK{α:Type}(n:Nat)(f:Nat→α):α:=Nat.rec (motive:=fun _=>α) (f 0) (fun m _=>f (Nat.succ m)) n
def aBp{α:Type}(n:Int)(f:Int→α):α:=Int.rec (motive:=fun _=>α) (fun m=>dK m fun m=>f (.ofNat m)) (fun m=>dK m fun m=>f (.negSucc m)) n
inductive Dk where
 |int (k:IntKind)
 |str
 |bool
 |sl (e:Nat)
 |st (fs:List (Nat × Nat))
 |ar (n e:Nat)
 |pt
 |fn
 |no
 |mp (k e:Nat)
structure TI where
 d:Dk
 sz:Nat
 by_:Nat
 ze:List SV
structure B where
 ty:Nat
 c:List SV
abbrev Env:=T 3 AV
structure Mi where
 m:Nat
 k:List Nat
 n:Nat
 s:Nat
structure Lp where
 fn:Nat
 nt:Nat
 e:Env
 ps:List Nat
 cs:Code
 bd:Code
 st:Bool
 pd:Option Code
 dd:Bool
 /-- an iterator of a string:its bytes,the place -/
 it:Option (List Nat × Nat)
 /-- a map:its entries -/
 mp:Option (List (AV × AV))
 mi:Option Mi
structure H where
 h:T 5 B
 n:Nat
 bar:Nat
 l:T 5 Lp
structure Cf where
 P:Program
 /-- what is known of the start -/
 tb:World→Prop
 /-- the type of a natural number of package value -/
 nat:Nat
 pr:Nat→Option (List AV→Option AV)
 /-- the order in which a region that draws is computed:first what makes and reads,then what writes (with the loads that are read again) -/
 pl:Nat→Nat→Option (List Nat × List (Nat × List Nat))
 /-- calls that read lists:their results are known -/
 ph:Nat→Option (H→List AV→Option AV)
 /-- what is read of memory that is only read -/
 ro:Nat→Addr→Option AV
 /-- how many words a number has -/
 ln:Bool→Nat→Option Nat
 /-- calls that make a slice that is known -/
 pw:Nat→Option (H→List AV→Option (B × Nat × Nat))
def dk(d:TypeDesc):Dk:=match d with
 | .int k=>.int k
 | .string=>.str
 | .bool=>.bool
 | .slice e=>.sl e
 | .struct fs=>.st (fs.toList.map fun f=>(f.offset,f.type))
 | .array n e=>.ar n e
 | .pointer _=>.pt
 | .func _ _ _=>.fn
 | .map k e=>.mp k e
 |_=>.no
def aO7:Nat:=150
def tyR:Nat:=2
def zer(F:Cf)(d:Nat):Nat→List SV:=
 Nat.rec (motive:=fun _=>Nat→List SV) (fun _=>[]) (fun _ r t=>match F.P.underlying t with
  |none=>[]
  |some d=>match dk d with
   | .int k=>[.i k 0]
   | .str=>[.s []]
   | .bool=>[.b false]
   | .sl _=>cb (Nat.beq t F.nat) [.m 0] (cb (Nat.beq t aO7) [.r 0] [.ns])
   | .st fs=>(fs.map fun p=>r p.2).flatten
   | .ar n e=>(List.replicate n (r e)).flatten
   | .pt=>[.np]
   | .fn=>[.nf]
   | .mp _ _=>[.nq]
   | .no=>[]) d
def aEr(x:SV)(v:Value):Bool:=match x,v with
 | .i k (.ofNat 0),.int j (.ofNat 0)=>decide (k=j)
 | .s [],.string s=>decide (s.data.toList=[])
 | .b false,.bool false=>true
 | .m 0,.slice none 0 0=>true
 | .r 0,.slice none 0 0=>true
 | .ns,.slice none 0 0=>true
 | .np,.pointer none=>true
 | .nf,.nilFunc=>true
 | .nq,.map none=>true
 |_,_=>false
def zok:List SV→List Value→Bool
 | [],[]=>true
 |x::l,v::r=>aEr x v && zok l r
 |_,_=>false
def Cf.ti(F:Cf)(t:Nat):Option TI:=match F.P.info? t,F.P.underlying t with
 |some i,some d=>match i.zero with
  |some z=>cb (zok (zer F 8 t) z.cells.toList && Nat.beq z.cells.toList.length i.size) (some ⟨dk d,i.size,i.bytes,zer F 8 t⟩) none
  |none=>none
 |_,_=>none
def H.nw{α:Type}(h:H)(x:B)(f:Nat→H→α):α:=dK h.n fun n=>f n ⟨h.h.set x n,Nat.succ n,h.bar,h.l⟩
def H.put(h:H)(k:Nat)(x:B):H:=⟨h.h.set x k,h.n,h.bar,h.l⟩
def bytes(s:ByteArray):List Nat:=s.data.toList.map UInt8.toNat
def isF(v:Value):Bool:=match v with| .bool false=>true|_=>false
def isZ(v:Value):Bool:=match v with| .slice none 0 0=>true|_=>false
def ofA(l:List Value):Option AV:=match l with| [x,y,z]=>cb (isF x) (cb (isZ y) (cb (isZ z) (some (.c true [.b false,.m 0,.m 0])) none) none) none|_=>none
def ofV(v:Value):Option AV:=match v with
 | .int k n=>some (sc (.i k n))
 | .bool x=>some (sc (.b x))
 | .string s=>some (sc (.s (bytes s)))
 | .pointer none=>some (sc .np)
 | .slice none 0 0=>some (sc .ns)
 | .nilFunc=>some (sc .nf)
 | .map none=>some (sc .nq)
 | .agg cs=>ofA cs.toList
 | .tuple vs=>(match vs.toList with| []=>some un|_=>none)
 |_=>none
def ev(e:Env)(x:Operand):Option AV:=Operand.rec (motive:=fun _=>Option AV) (fun t=>e.get t) ofV (fun g=>some (sc (.v (.pointer (some ⟨g,0,none⟩))))) (fun f=>some (sc (.f f []))) x
def evL(e:Env)(l:List Operand):Option (List AV):=List.rec (motive:=fun _=>Option (List AV)) (some []) (fun x _ r=>ob (ev e x) fun v=>ob r fun r=>some (v::r)) l
def cells{α:Type}(v:AV)(k:List SV→Option α):Option α:=AV.rec (motive:=fun _=>Option α) (fun _ l=>k l) (fun _=>none) v
def hd1{α:Type}(l:List SV)(k:SV→Option α):Option α:=List.rec (motive:=fun _=>Option α) none (fun x r _=>List.rec (motive:=fun _=>Option α) (k x) (fun _ _ _=>none) r) l
def one{α:Type}(v:AV)(k:SV→Option α):Option α:=AV.rec (motive:=fun _=>Option α) (fun g l=>cb g none (hd1 l k)) (fun _=>none) v
def agg{α:Type}(v:AV)(k:List SV→Option α):Option α:=AV.rec (motive:=fun _=>Option α) (fun g l=>cb g (k l) none) (fun _=>none) v
def app{α:Type}(l m:List α):List α:=List.rec (motive:=fun _=>List α) m (fun x _ r=>x::r) l
def len{α:Type}(l:List α):Nat:=List.rec (motive:=fun _=>Nat) 0 (fun _ _ r=>Nat.succ r) l
def cZ{α:Type}(n:Nat):List α→Option (List α):=
 Nat.rec (motive:=fun _=>List α→Option (List α)) (fun _=>some []) (fun _ r l=>List.rec (motive:=fun _=>Option (List α)) none (fun x l _=>ob (r l) fun m=>some (x::m)) l) n
def drp{α:Type}(n:Nat):List α→List α:=
 Nat.rec (motive:=fun _=>List α→List α) (fun l=>l) (fun _ r l=>List.rec (motive:=fun _=>List α) [] (fun _ l _=>r l) l) n
def ovr{α:Type}(xs:List α):List α→Option (List α):=
 List.rec (motive:=fun _=>List α→Option (List α)) some (fun x _ r l=>List.rec (motive:=fun _=>Option (List α)) none (fun _ l _=>ob (r l) fun m=>some (x::m)) l) xs
def eX{α:Type}(off:Nat)(xs:List α):List α→Option (List α):=
 Nat.rec (motive:=fun _=>List α→Option (List α)) (ovr xs) (fun _ r l=>List.rec (motive:=fun _=>Option (List α)) none (fun y l _=>ob (r l) fun m=>some (y::m)) l) off
def rd(h:H)(id off n:Nat):Option (List SV):=ob (h.h.get id) fun b=>cZ n (drp off b.c)
def aBq(x:Value):Bool:=match x with| .iface _ (.agg cs)=>(match cs.toList with| []=>true|_=>false)|_=>false
def aHV(x:Value):Bool:=match x with| .func (.method _) a c=>(match a.toList,c.toList with| [r],[]=>aBq r|_,_=>false)|_=>false
def aHW(x:Value):Bool:=match x with| .slice ..=>true| .pointer (some _)=>true|x=>aBq x || aHV x
def uW(x:SV):Bool:=match x with| .i .u64 _=>false| .u=>false|_=>true
def calm(l:List SV):Bool:=List.rec (motive:=fun _=>Bool) true (fun x _ r=>cb (uW x) r false) l
def mR(b:B):Bool:=cb (Nat.beq b.ty tyR) false (calm b.c)
def wr(h:H)(id off:Nat)(l:List SV):Option H:=cb (Nat.ble h.bar id) (ob (h.h.get id) fun b=>ob (eX off l b.c) fun c=>cb (mR b) (some (h.put id ⟨b.ty,c⟩)) none) none
def lim(k:IntKind):Nat:=IntKind.rec (motive:=fun _=>Nat) 128 32768 2147483648 9223372036854775808 256 65536 4294967296 18446744073709551616 k
def mkI(k:IntKind)(n:Nat):Option SV:=dK n fun n=>cb (Nat.blt n (lim k)) (some (.i k (.ofNat n))) (aBp (k.wrap (.ofNat n)) fun n=>some (.i k n))
def mkZ(k:IntKind)(n:Int):Option SV:=aBp (k.wrap n) fun n=>some (.i k n)
def two{α:Type}(a c:Int)(f:Nat→Nat→α)(g:α):α:=Int.rec (motive:=fun _=>α) (fun a=>Int.rec (motive:=fun _=>α) (fun c=>f a c) (fun _=>g) c) (fun _=>g) a
def aHX(k:IntKind)(a c:Int):Option SV:=two a c (fun a c=>mkI k (Nat.add a c)) (mkZ k (a+c))
def aHY(k:IntKind)(a c:Int):Option SV:=two a c (fun x y=>cb (Nat.ble y x) (mkI k (Nat.sub x y)) (mkZ k (a-c))) (mkZ k (a-c))
def aO8(k:IntKind)(a c:Int):Option SV:=two a c (fun a c=>mkI k (Nat.mul a c)) (mkZ k (a*c))
def aLQ(k:IntKind)(a c:Int):Option SV:=cb (decide (c=0)) none (mkZ k (a.tdiv c))
def aHZ(k:IntKind)(a c:Int):Option SV:=cb (decide (c=0)) none (aBp (a.tmod c) fun n=>some (.i k n))
def tC(f:Nat→Nat→Nat)(k:IntKind)(a c:Int):Option SV:=two a c (fun a c=>cb (Nat.blt a (lim k)) (cb (Nat.blt c (lim k)) (mkI k (f a c)) none) none) none
def aEs(k:IntKind)(a c:Int):Option SV:=two a c (fun a c=>cb (Nat.ble c k.bits) (mkI k (Nat.mul a (Nat.pow 2 c))) none) none
def aEt(k:IntKind)(a c:Int):Option SV:=two a c (fun a c=>cb (Nat.ble c k.bits) (dK (Nat.div a (Nat.pow 2 c)) fun n=>some (.i k (.ofNat n))) none) none
def iEq(a c:Int):Bool:=two a c Nat.beq (decide (a=c))
def iLt(a c:Int):Bool:=two a c Nat.blt (decide (a<c))
def cO(b:Bool):Bool:=cb b false true
def bo(b:Bool):Option SV:=some (.b b)
def iop(op:BinOp)(k:IntKind)(a c:Int):Option SV:=
 match op with
 | .add=>aHX k a c
 | .sub=>aHY k a c
 | .mul=>aO8 k a c
 | .quo=>aLQ k a c
 | .rem=>aHZ k a c
 | .eql=>bo (iEq a c)
 | .neq=>bo (cO (iEq a c))
 | .lss=>bo (iLt a c)
 | .leq=>bo (cO (iLt c a))
 | .gtr=>bo (iLt c a)
 | .geq=>bo (cO (iLt a c))
 | .and=>tC Nat.land k a c
 | .or=>tC Nat.lor k a c
 | .xor=>tC Nat.xor k a c
 | .andNot=>tC (fun x y=>Nat.xor x (Nat.land x y)) k a c
 | .shl=>aEs k a c
 | .shr=>aEt k a c
def eqL(l:List Nat):List Nat→Bool:=
 List.rec (motive:=fun _=>List Nat→Bool) (fun m=>List.rec (motive:=fun _=>Bool) true (fun _ _ _=>false) m) (fun a _ r m=>List.rec (motive:=fun _=>Bool) false (fun c m _=>cb (Nat.beq a c) (r m) false) m) l
def eqv(op:BinOp)(r:Bool):Option SV:=match op with| .eql=>bo r| .neq=>bo (cO r)|_=>none
def aLR(op:BinOp)(a:List Nat)(y:SV):Option SV:=match y with| .s c=>(match op with| .add=>cb (Nat.blt (Nat.add (len a) (len c)) 9223372036854775808) (some (.s (app a c))) none|op=>eqv op (eqL a c))|_=>none
def shI(op:BinOp)(k:IntKind)(a c:Int):Option SV:=match op with| .shl=>aEs k a c| .shr=>aEt k a c|_=>none
def aLS(op:BinOp)(k:IntKind)(a:Int)(y:SV):Option SV:=match y with| .i j c=>cb (decide (k=j)) (iop op k a c) (shI op k a c)|_=>none
def aLT(op:BinOp)(a:Bool)(y:SV):Option SV:=match y with| .b c=>eqv op (a == c)|_=>none
def aEu(d:Dk)(op:BinOp)(x y:SV):Option SV:=match d,x,y with
 | .pt,.np,.np=>eqv op true
 | .pt,.np,.p _ _=>eqv op false
 | .pt,.p _ _,.np=>eqv op false
 | .sl _,.ns,.ns=>eqv op true
 | .sl _,.ns,.sl _ _ _ _=>eqv op false
 | .sl _,.sl _ _ _ _,.ns=>eqv op false
 |_,_,_=>none
def bop(d:Dk)(op:BinOp)(x y:SV):Option SV:=
 match x with
 | .i k a=>aLS op k a y
 | .b a=>(match d with| .bool=>aLT op a y|_=>none)
 | .s a=>aLR op a y
 |x=>aEu d op x y
def natOf{α:Type}(x:SV)(k:Nat→Option α):Option α:=match x with| .i _ n=>Int.rec (motive:=fun _=>Option α) k (fun _=>none) n|_=>none
def iU(z:List SV)(n:Nat):List SV:=Nat.rec (motive:=fun _=>List SV) [] (fun _ r=>app z r) n
def parts(pl:Nat→Option (Nat × Nat))(e:Env)(l:List (Nat × Operand)):List SV→Option (List SV):=
 List.rec (motive:=fun _=>List SV→Option (List SV)) some (fun p _ r acc=>ob (pl p.1) fun q=>ob (ev e p.2) fun v=>cells v fun c=>cb (Nat.beq (len c) q.2) (ob (eX q.1 c acc) r) none) l
abbrev VH:=AV × H
def vh(x:SV)(h:H):Option VH:=some (sc x,h)
def av(g:Bool)(l:List SV):Option AV:=cb g (some (.c true l)) (hd1 l fun x=>some (sc x))
def Dk.ag(d:Dk):Bool:=match d with| .st _=>true| .ar _ _=>true|_=>false
def fields(d:Dk)(f:Nat):Option (Nat × Nat):=match d with| .st fs=>(drp f fs).head? |_=>none
def elem(d:Dk):Option Nat:=match d with| .sl e=>some e|_=>none
def aLU(x:SV):Bool:=match x with| .i _ _=>true|_=>false
def isI(l:List SV):Bool:=List.rec (motive:=fun _=>Bool) true (fun x _ r=>cb (aLU x) r false) l
def lkR(h:H)(ok:Bool)(v:AV)(b:Bool):Option VH:=cb ok (AV.rec (motive:=fun _=>Option VH) (fun g l=>some (.t [(g,l),(false,[.b b])],h)) (fun _=>none) v) (some (v,h))
variable (F:Cf)
def sz(t:Nat):Option Nat:=ob (F.ti t) fun i=>some i.sz
def szs(fs:List (Nat × Nat)):Option (List (Nat × Nat)):=List.rec (motive:=fun _=>Option (List (Nat × Nat))) (some []) (fun p _ r=>ob (sz F p.2) fun s=>ob r fun r=>some ((p.1,s)::r)) fs
def oI(e:Env)(h:H)(c a d:Operand):Option VH:=ob (ev e c) fun v=>one v fun s=>match s with| .b x=>ob (ev e (cb x a d)) fun v=>some (v,h)|_=>none
def nO(h:H)(t:Nat):Option VH:=ob (F.ti t) fun i=>h.nw ⟨t,i.ze⟩ fun a h=>vh (.p a 0) h
def tF(e:Env)(h:H)(t:Nat)(x:Operand):Option VH:=ob (ev e x) fun v=>cells v fun c=>h.nw ⟨t,c⟩ fun a h=>vh (.p a 0) h
def lN(e:Env)(h:H)(t:Nat)(ps:List (Nat × Operand)):Option VH:=ob (F.ti t) fun i=>match i.d with
 | .st fs=>ob (szs F fs) fun pl=>ob (parts (fun f=>(drp f pl).head?) e ps i.ze) fun c=>some (.c true c,h)
 | .ar _ el=>ob (sz F el) fun s=>ob (parts (fun f=>some (Nat.mul f s,s)) e ps i.ze) fun c=>some (.c true c,h)
 |_=>none
def gT(e:Env)(h:H)(t n:Nat)(ps:List (Nat × Operand)):Option VH:=
 ob (F.ti t) fun i=>ob (elem i.d) fun el=>ob (F.ti el) fun j=>cb (Nat.blt (Nat.mul n j.sz) 16777216) (ob (parts (fun f=>some (Nat.mul f j.sz,j.sz)) e ps (iU j.ze n)) fun c=>h.nw ⟨el,c⟩ fun a h=>vh (.sl a 0 n (some n)) h) none
def roL(h:H)(t:Nat)(x:Value):Option VH:=match x with| .pointer (some a)=>ob (F.ro t a) fun v=>some (v,h)|_=>none
def roA(h:H)(j z:Nat)(x:Value):Option VH:=match x with| .slice (some a) n _=>cb (Nat.blt j n) (vh (.v (.pointer (some (a.add (Nat.mul j z))))) h) none|_=>none
def roF(h:H)(d:Nat)(x:Value):Option VH:=match x with| .pointer (some a)=>vh (.v (.pointer (some (a.add d)))) h|_=>none
def roN(h:H)(x:Value):Option VH:=match x with| .slice (some _) n _=>vh (.i .i64 (.ofNat n)) h|_=>none
def rA(e:Env)(h:H)(t:Nat)(a:Operand):Option VH:=ob (F.ti t) fun i=>ob (ev e a) fun v=>one v fun s=>match s with| .p id off=>ob (rd h id off i.sz) fun l=>ob (av i.d.ag l) fun v=>some (v,h)| .v x=>roL F h t x|_=>none
def nP(e:Env)(h:H)(t:Nat)(a x:Operand):Option VH:=ob (sz F t) fun z=>ob (ev e a) fun v=>one v fun s=>match s with| .p id off=>ob (ev e x) fun u=>cells u fun c=>cb (Nat.beq (len c) z) (ob (wr h id off c) fun h=>some (un,h)) none|_=>none
def kS(t:Nat)(m:String):Option Nat:=match F.P.info? t,F.P.underlying t with
 |some i,some (.struct _)=>(match i.methods.find? fun r=>r.name == m with
  |some r=>(match r.path.toList,r.func with| [],some (f,false)=>some f|_,_=>none)
  |none=>none)
 |_,_=>none
def ifT{α:Type}(x:Value)(k:Nat→Option α):Option α:=match x with| .iface t (.agg cs)=>(match cs.toList with| []=>k t|_=>none)|_=>none
def mvT{α:Type}(x:Value)(k:Nat→String→Option α):Option α:=match x with| .func (.method m) a c=>(match a.toList,c.toList with| [r],[]=>ifT r fun t=>k t m|_,_=>none)|_=>none
def zC(e:Env)(h:H)(x:Operand):Option VH:=ob (ev e x) fun v=>one v fun s=>match s with| .p _ _=>some (v,h)| .f _ _=>some (v,h)| .y _=>some (v,h)| .v y=>mvT y fun t m=>ob (kS F t m) fun _=>some (v,h)|_=>none
def oIf(e:Env)(h:H)(t:Nat)(x:Operand):Option VH:=ob (F.ti t) fun i=>match i.d with| .st _=>ob (ev e x) fun v=>agg v fun l=>(match l with| []=>vh (.v (.iface t (.agg #[]))) h|_=>none)|_=>none
def aEv(x y:SV)(r:Option Bool):Option Bool:=match x,y with| .i k a,.i j c=>cb (decide (k=j)) (cb (iEq a c) r (some false)) none|_,_=>none
def eqI(l:List SV):List SV→Option Bool:=List.rec (motive:=fun _=>List SV→Option Bool) (fun m=>List.rec (motive:=fun _=>Option Bool) (some true) (fun _ _ _=>none) m)
 (fun x _ r m=>List.rec (motive:=fun _=>Option Bool) none (fun y m _=>aEv x y (r m)) m) l
def aEw(x y:SV)(r:Option Bool):Option Bool:=match x,y with
 | .i k a,.i j c=>cb (decide (k=j)) (cb (iEq a c) r (some false)) none
 | .s a,.s c=>cb (eqL a c) r (some false)
 |_,_=>none
def eqD(d:Dk)(x y:SV)(r:Option Bool):Option Bool:=match d,x with
 | .int _,.i _ _=>aEw x y r
 | .str,.s _=>aEw x y r
 |_,_=>none
def hd2{α:Type}(l m:List SV)(k:SV→List SV→SV→List SV→Option α):Option α:=match l,m with|x::l,y::m=>k x l y m|_,_=>none
def eqF(fs:List Field):Nat→List SV→List SV→Option Bool:=List.rec (motive:=fun _=>Nat→List SV→List SV→Option Bool) (fun _ l _=>match l with| []=>some true|_=>none)
 (fun f _ r k l m=>cb (decide (f.name≠"_")) (cb (Nat.beq f.offset k) (ob (F.ti f.type) fun j=>cb (Nat.beq j.sz 1) (hd2 l m fun x l y m=>eqD j.d x y (r (Nat.succ k) l m)) none) none) none) fs
def arq(op:BinOp)(t:Nat)(d:Dk)(l m:List SV):Option SV:=match d with
 | .st _=>(match F.P.underlying t with|some (.struct fs)=>cb (F.P.stoodInHeld t) none (ob (eqF F fs.toList 0 l m) (eqv op))|_=>none)
 | .ar n el=>ob (F.ti el) fun j=>match j.d with
   | .int _=>cb (Nat.beq j.sz 1) (cb (Nat.beq (len l) n) (cb (Nat.beq (len m) n) (ob (eqI l m) (eqv op)) none) none) none
   |_=>none
 |_=>none
def tH(e:Env)(h:H)(op:BinOp)(t:Nat)(x y:Operand):Option VH:=ob (F.ti t) fun i=>ob (ev e x) fun v=>ob (ev e y) fun u=>cb i.d.ag (cb (F.P.eqGuardType F.P.depth t) none (agg v fun l=>agg u fun m=>ob (arq F op t i.d l m) fun r=>vh r h)) (one v fun a=>one u fun c=>ob (bop i.d op a c) fun r=>vh r h)
def oUn(e:Env)(h:H)(op:UnOp)(x:Operand):Option VH:=ob (ev e x) fun v=>one v fun s=>match op,s with
  | .neg,.i k n=>ob (mkZ k (0-n)) fun r=>vh r h
  | .not,.b x=>vh (.b (cO x)) h
  |_,_=>none
def uX(e:Env)(h:H)(src dst:Nat)(x:Operand):Option VH:=ob (F.ti src) fun i=>ob (F.ti dst) fun j=>ob (ev e x) fun v=>one v fun s=>match i.d,j.d,s with
  | .int _,.int k,.i _ n=>ob (Int.rec (motive:=fun _=>Option SV) (fun m=>mkI k m) (fun _=>mkZ k n) n) fun r=>vh r h
  | .str,.str,.s l=>vh (.s l) h
  |_,_,_=>none
def fI(l:List AV):Option (List (Nat × Nat)):=List.rec (motive:=fun _=>Option (List (Nat × Nat))) (some []) (fun v _ r=>one v fun s=>match s with| .p id off=>ob r fun r=>some ((id,off)::r)|_=>none) l
def oMv(e:Env)(h:H)(m:String)(r:Operand):Option VH:=ob (ev e r) fun v=>one v fun s=>match s with| .v x=>cb (aBq x) (vh (.v (.func (.method m) #[x] #[])) h) none|_=>none
def mU(e:Env)(h:H)(fn:Fn)(a c:List Operand):Option VH:=match fn,a with| .func f,[]=>ob (evL e c) fun l=>ob (fI l) fun l=>vh (.f f l) h| .method m,[r]=>(match c with| []=>oMv e h m r|_=>none)|_,_=>none
def H.putLp(h:H)(k:Nat)(x:Lp):H:=⟨h.h,h.n,h.bar,h.l.set x k⟩
def prt(v:AV):Option (Bool × List SV):=AV.rec (motive:=fun _=>Option (Bool × List SV)) (fun g l=>some (g,l)) (fun _=>none) v
def mpL(l:List (AV × AV)):Lp:=⟨0,0,.lf,[],.skip,.skip,false,none,true,none,some l,none⟩
def miL(m:Nat)(k:List Nat)(n s:Nat):Lp:=⟨0,0,.lf,[],.skip,.skip,false,none,true,none,none,some ⟨m,k,n,s⟩⟩
def aEx{α:Type}(d:Dk)(k:Nat→Nat→Option α):Option α:=match d with| .mp a b=>k a b|_=>none
def aBr(h:H)(t:Nat)(r:Option Operand):Option VH:=ob (F.ti t) fun i=>aEx i.d fun _ _=>Option.rec (motive:=fun _=>Option VH) (dK h.n fun n=>vh (.q n) ⟨h.h,Nat.succ n,h.bar,h.l.set (mpL []) n⟩) (fun _=>none) r
def mpE(h:H)(s:SV):Option (List (AV × AV)):=match s with| .nq=>some []| .q id=>ob (h.l.get id) fun p=>p.mp|_=>none
def kok(d:Dk)(x:AV):Bool:=match d,x with
 | .int _,.c false [.i _ _]=>true
 | .str,.c false [.s _]=>true
 | .ar n el,.c true l=>(match F.ti el with|some j=>(match j.d with| .int _=>cb (Nat.beq j.sz 1) (cb (Nat.beq (len l) n) (isI l) false) false|_=>false)|none=>false)
 |_,_=>false
def kq(x y:AV):Option Bool:=match x,y with
 | .c false [.i k a],.c false [.i j c]=>cb (decide (k=j)) (some (iEq a c)) none
 | .c false [.s a],.c false [.s c]=>some (eqL a c)
 | .c true l,.c true m=>cb (Nat.beq (len l) (len m)) (eqI l m) none
 |_,_=>none
def fnd(q:AV→Option Bool)(l:List (AV × AV)):Option (Option AV):=List.rec (motive:=fun _=>Option (Option AV)) (some none) (fun p _ r=>ob (q p.1) fun b=>cb b (some (some p.2)) r) l
def aEy(q:AV→Option Bool)(k v:AV)(l:List (AV × AV)):Option (List (AV × AV)):=List.rec (motive:=fun _=>Option (List (AV × AV))) (some [(k,v)]) (fun p r y=>ob (q p.1) fun b=>cb b (some ((k,v)::r)) (ob y fun y=>some (p::y))) l
def zav(t:Nat):Option AV:=ob (F.ti t) fun j=>ob (F.P.info? t) fun i=>ob i.zero fun z=>match z with
 | .agg _=>some (.c true j.ze)
 | .tuple _=>none
 |_=>hd1 j.ze fun x=>some (sc x)
def aAH(e:Env)(h:H)(t:Nat)(x ix:Operand)(ok:Bool):Option VH:=ob (F.ti t) fun i=>aEx i.d fun kt el=>ob (F.ti kt) fun kj=>ob (zav F el) fun z=>ob (ev e x) fun v=>one v fun s=>ob (mpE h s) fun l=>ob (ev e ix) fun kv=>
 cb (kok F kj.d kv) (ob (fnd (kq kv) l) fun r=>Option.rec (motive:=fun _=>Option VH) (lkR h ok z false) (fun v=>lkR h ok v true) r) none
def uY(e:Env)(h:H)(t:Nat)(m k x:Operand):Option VH:=ob (F.ti t) fun i=>aEx i.d fun kt _=>ob (F.ti kt) fun kj=>ob (ev e m) fun v=>one v fun s=>match s with
 | .q id=>cb (Nat.ble h.bar id) (ob (h.l.get id) fun p=>ob p.mp fun l=>ob (ev e k) fun kv=>ob (ev e x) fun u=>cb (kok F kj.d kv) (cells u fun _=>ob (aEy (kq kv) kv u l) fun l=>some (un,h.putLp id (mpL l))) none) none
 |_=>none
def itL(l:List Nat)(k:Nat):Lp:=⟨0,0,.lf,[],.skip,.skip,false,none,true,some (l,k),none,none⟩
def tJ(e:Env)(h:H)(t:Nat)(x:Operand):Option VH:=ob (F.ti t) fun i=>ob (ev e x) fun v=>one v fun s=>match i.d,s with
 | .str,.s l=>dK h.n fun n=>vh (.p n 0) ⟨h.h,Nat.succ n,h.bar,h.l.set (itL l 0) n⟩
 | .mp _ _,.q id=>ob (h.l.get id) fun p=>ob p.mp fun l=>dK h.n fun n=>dK (len l) fun k=>vh (.p n 0) ⟨h.h,Nat.succ n,h.bar,h.l.set (miL id [] k k) n⟩
 |_,_=>none
def nxM(h:H)(id:Nat)(q:Mi)(l:List (AV × AV)):Option VH:=match l with
 | []=>(match q.k with| []=>some (.t [(false,[.b false])],h)|_=>none)
 | [p]=>(match q.k with
   | []=>cb (Nat.beq q.n 1) (ob (prt p.1) fun a=>ob (prt p.2) fun c=>some (.t [(false,[.b true]),a,c],h.putLp id (miL q.m [0] 1 1))) none
   | [j]=>cb (Nat.beq j 0) (cb (Nat.blt 0 q.s) (some (.t [(false,[.b false])],h)) none) none
   |_=>none)
 |_=>none
def aEz(l:List Nat):Option Nat:=List.rec (motive:=fun _=>Option Nat) none (fun x _ r=>Option.rec (motive:=fun _=>Option Nat) (some x) some r) l
def enM(h:H)(q:Mi)(l:List (AV × AV)):Option VH:=ob (aEz q.k) fun j=>cb (Nat.beq q.s (len l)) (ob (drp j l).head? fun p=>ob (prt p.1) fun a=>ob (prt p.2) fun c=>some (.t [a,c],h)) none
def itM{α:Type}(e:Env)(h:H)(x:Operand)(k:Nat→Mi→List (AV × AV)→Option α):Option α:=ob (ev e x) fun v=>one v fun s=>match s with
 | .p id off=>cb (Nat.beq off 0) (ob (h.l.get id) fun p=>ob p.mi fun q=>ob (h.l.get q.m) fun r=>ob r.mp fun l=>k id q l) none
 |_=>none
def xK(e:Env)(h:H)(x:Operand):Option VH:=itM e h x fun _ q l=>enM h q l
def xL(e:Env)(h:H)(x:Operand):Option VH:=itM e h x fun id q l=>cb (Nat.ble h.bar id) (nxM h id q l) none
def nx1(h:H)(id:Nat)(l:List Nat)(k:Nat)(b:Nat):Option VH:=cb (Nat.blt b 128) (dK (Nat.succ k) fun j=>some (.t [(false,[.b true]),(false,[.i .i64 (.ofNat k)]),(false,[.i .i32 (.ofNat b)])],h.putLp id (itL l j))) none
def uZ(e:Env)(h:H)(x:Operand)(b:Bool):Option VH:=cb b (ob (ev e x) fun v=>one v fun s=>match s with
 | .p id off=>cb (Nat.beq off 0) (cb (Nat.ble h.bar id) (ob (h.l.get id) fun p=>ob p.it fun q=>Option.rec (motive:=fun _=>Option VH) (some (.t [(false,[.b false])],h)) (nx1 h id q.1 q.2) (drp q.2 q.1).head?) none) none
 |_=>none) (xL e h x)
def vC(e:Env)(h:H)(t:Nat)(l c:Operand):Option VH:=ob (F.ti t) fun i=>ob (elem i.d) fun el=>ob (F.ti el) fun j=>ob (ev e l) fun v=>one v fun s=>natOf s fun n=>ob (ev e c) fun u=>one u fun s=>natOf s fun m=>
 cb (Nat.ble n m) (cb (Nat.ble (Nat.mul m j.by_) 1099511627776) (cb (Nat.blt m 1099511627776) (h.nw ⟨el,iU j.ze m⟩ fun a h=>vh (.sl a 0 n (some m)) h) none) none) none
def bound{α:Type}(e:Env)(x:Option Operand)(d:Nat)(k:Nat→Option α):Option α:=Option.rec (motive:=fun _=>Option α) (k d) (fun x=>ob (ev e x) fun v=>one v fun s=>natOf s k) x
def chk{α:Type}(l h c:Nat)(k:Option α):Option α:=cb (Nat.ble l h) (cb (Nat.ble h c) k none) none
def slN(h:H)(id off n a d z:Nat):Option VH:=cb (Nat.beq a 0) (chk a d n (vh (.sl id off (Nat.sub d a) none) h)) (chk a d n (vh (.sl id (Nat.add off (Nat.mul a z)) (Nat.sub d a) none) h))
def slC(h:H)(id off a d z c:Nat):Option VH:=cb (Nat.blt a c) (chk a d c (vh (.sl id (Nat.add off (Nat.mul a z)) (Nat.sub d a) (some (Nat.sub c a))) h)) (cb (Nat.beq a 0) (chk a d c (vh (.sl id off (Nat.sub d a) (some c)) h)) none)
def slM(h:H)(id off n a d m z:Nat)(c:Option Nat):Option VH:=cb (Nat.ble a d) (cb (Nat.ble d m) (Option.rec (motive:=fun _=>Option VH) (cb (Nat.ble m n) (cb (Nat.blt a m) (vh (.sl id (Nat.add off (Nat.mul a z)) (Nat.sub d a) (some (Nat.sub m a))) h) (cb (Nat.blt 0 n) (vh (.sl id off 0 (some 0)) h) none)) none)
 (fun c=>cb (Nat.ble m c) (cb (Nat.blt a m) (vh (.sl id (Nat.add off (Nat.mul a z)) (Nat.sub d a) (some (Nat.sub m a))) h) (vh (.sl id off 0 (some 0)) h)) none) c) none) none
def lQ(e:Env)(h:H)(t:Nat)(x:Operand)(lo hi mx:Option Operand):Option VH:=Option.rec (motive:=fun _=>Option VH) (ob (F.ti t) fun i=>ob (ev e x) fun v=>one v fun s=>match i.d,s with
  | .str,.s l=>bound e lo 0 fun a=>bound e hi (len l) fun c=>chk a c (len l) (ob (cZ (Nat.sub c a) (drp a l)) fun l=>vh (.s l) h)
  | .sl el,.ns=>ob (sz F el) fun _=>bound e lo 0 fun a=>bound e hi 0 fun c=>chk a c 0 (vh .ns h)
  | .sl el,.sl id off n c=>ob (sz F el) fun z=>bound e lo 0 fun a=>bound e hi n fun d=>Option.rec (motive:=fun _=>Option VH) (slN h id off n a d z) (slC h id off a d z) c
  | .ar n el,.p id off=>ob (sz F el) fun z=>bound e lo 0 fun a=>bound e hi n fun d=>slC h id off a d z n
  |_,_=>none)
 (fun mx=>Option.rec (motive:=fun _=>Option VH) none (fun hi=>ob (F.ti t) fun i=>ob (ev e x) fun v=>one v fun s=>match i.d,s with
  | .sl el,.sl id off n c=>ob (sz F el) fun z=>bound e lo 0 fun a=>bound e (some hi) 0 fun d=>bound e (some mx) 0 fun m=>slM h id off n a d m z c
  |_,_=>none) hi) mx
def oFA(e:Env)(h:H)(s:Nat)(x:Operand)(f:Nat):Option VH:=ob (F.ti s) fun i=>ob (fields i.d f) fun q=>ob (sz F q.2) fun z=>cb (Nat.blt 0 z) (ob (ev e x) fun v=>one v fun s=>match s with| .p id off=>vh (.p id (Nat.add off q.1)) h| .v x=>roF h q.1 x|_=>none) none
def qF(e:Env)(h:H)(s:Nat)(x:Operand)(f:Nat):Option VH:=ob (F.ti s) fun i=>ob (fields i.d f) fun q=>ob (F.ti q.2) fun j=>ob (ev e x) fun v=>agg v fun l=>ob (cZ j.sz (drp q.1 l)) fun l=>ob (av j.d.ag l) fun v=>some (v,h)
def oIA(e:Env)(h:H)(t:Nat)(x ix:Operand):Option VH:=ob (F.ti t) fun i=>ob (ev e ix) fun v=>one v fun s=>natOf s fun j=>ob (ev e x) fun v=>one v fun s=>match i.d,s with
  | .sl el,.sl id off n _=>ob (sz F el) fun z=>cb (Nat.blt j n) (vh (.p id (Nat.add off (Nat.mul j z))) h) none
  | .ar n el,.p id off=>ob (sz F el) fun z=>cb (Nat.blt j n) (vh (.p id (Nat.add off (Nat.mul j z))) h) none
  | .sl el,.v x=>ob (sz F el) fun z=>roA h j z x
  | .ar n el,.v x=>ob (sz F el) fun z=>cb (Nat.blt j n) (roF h (Nat.mul j z) x) none
  |_,_=>none
def oIx(e:Env)(h:H)(t:Nat)(x ix:Operand):Option VH:=ob (F.ti t) fun i=>ob (ev e ix) fun v=>one v fun s=>natOf s fun j=>match i.d with
  | .ar n el=>ob (F.ti el) fun g=>cb (Nat.blt j n) (ob (ev e x) fun v=>agg v fun l=>ob (cZ g.sz (drp (Nat.mul j g.sz) l)) fun l=>ob (av g.d.ag l) fun v=>some (v,h)) none
  | .str=>ob (ev e x) fun v=>one v fun s=>(match s with| .s l=>ob (drp j l).head? fun b=>vh (.i .u8 (.ofNat b)) h|_=>none)
  |_=>none
def tK(e:Env)(h:H)(x:Operand)(ix:Nat):Option VH:=ob (ev e x) fun v=>AV.rec (motive:=fun _=>Option VH) (fun _ _=>none) (fun l=>ob (drp ix l).head? fun p=>some (.c p.1 p.2,h)) v
def mm(mn:Bool)(v w:AV):Option AV:=one v fun x=>one w fun y=>match x,y with
 | .i a x,.i b y=>cb (decide (a=b)) (some (sc (.i a (cb mn (cb (iLt y x) y x) (cb (iLt x y) y x))))) none
 |_,_=>none
def qG(mn:Bool)(l:List AV):Option AV:=match l with
 | [x,y]=>mm mn x y
 | [x,y,z]=>ob (mm mn x y) fun m=>mm mn m z
 |_=>none
def lenOf{α:Type}(x:SV)(k:Nat→Option α):Option α:=match x with
 | .s l=>k (len l)
 | .ns=>k 0
 | .sl _ _ n _=>k n
 |_=>none
def xM(h:H)(z n:Nat)(x:SV):Option (List SV):=match x with
 | .ns=>some []
 | .sl id off _ _=>rd h id off (Nat.mul n z)
 |_=>none
def H.cut(h:H)(k el:Nat)(x:List SV)(f:Nat→H→Option VH):Option VH:=
 ob (h.h.get k) fun b=>cb (Nat.beq b.ty el) (cb (Nat.beq (len b.c) 0) none (cb (mR b) (cb (Nat.ble h.bar k) (dK h.n fun n=>f n ⟨(h.h.set ⟨0,[]⟩ k).set ⟨el,x⟩ n,Nat.succ n,h.bar,h.l⟩) none) none)) none
def nothing(h:H)(s:SV):Option VH:=match s with| .ns=>vh .ns h| .sl a b c none=>vh (.sl a b c none) h| .sl a b c (some k)=>cb (Nat.ble c k) (vh (.sl a b c (some k)) h) none|_=>none
def zD(h:H)(el:Nat)(j:TI)(s:SV)(m:Nat)(nw:List SV):Option VH:=
 lenOf s fun n=>ob (xM h j.sz n s) fun old=>cb (calm j.ze) (cb (calm nw) (cb (Nat.blt (Nat.mul (Nat.add n m) j.by_) 1099511627776) (cb (Nat.blt 0 m) (cb (Nat.blt (Nat.add n m) 1099511627776) (cb (Nat.blt 0 j.sz) (match s with
  | .sl id off _ (some c)=>cb (Nat.ble (Nat.add n m) c) (cb (Nat.beq off 0) (ob (h.h.get id) fun b=>cb (Nat.beq b.ty el) (ob (wr h id (Nat.mul n j.sz) nw) fun h=>vh (.sl id 0 (Nat.add n m) (some c)) h) none) none) (h.nw ⟨el,app old nw⟩ fun a h=>vh (.sl a 0 (Nat.add n m) none) h)
  | .sl id off _ none=>cb (Nat.beq off 0) (h.cut id el (app old nw) fun a h=>vh (.sl a 0 (Nat.add n m) none) h) none
  | .ns=>h.nw ⟨el,app old nw⟩ fun a h=>vh (.sl a 0 (Nat.add n m) none) h
  |_=>none) none) none) (nothing h s)) none) none) none
def aEA(h:H)(el:Nat)(j:TI)(s x:SV):Option VH:=lenOf x fun m=>ob (xM h j.sz m x) fun nw=>zD h el j s m nw
def aEB(h:H)(el:Nat)(j:TI)(s x:SV):Option VH:=natOf x fun m=>cb (Nat.blt m 1099511627776) (cb (Nat.blt (Nat.mul m j.by_) 1099511627776) (cb (Nat.blt 0 j.sz) (dK m fun m=>zD h el j s m (iU j.ze m)) none) none) none
def cpy(h:H)(z k:Nat)(d x:SV):Option VH:=ob (xM h z k x) fun l=>match d with
 | .sl id off _ _=>cb (Nat.beq k 0) (vh (.i .i64 0) h) (cb (Nat.blt 0 z) (ob (wr h id off l) fun h=>vh (.i .i64 (.ofNat k)) h) none)
 | .ns=>vh (.i .i64 0) h
 |_=>none
def bi(h:H)(b:Builtin)(at_:List Nat)(args:List AV):Option VH:=
 match b with
 | .len=>(match at_,args with| [t],[x]=>ob (F.ti t) fun i=>one x fun s=>(match i.d,s with| .str,.s l=>vh (.i .i64 (.ofNat (len l))) h| .sl _,.ns=>vh (.i .i64 0) h| .sl _,.sl _ _ n _=>vh (.i .i64 (.ofNat n)) h| .sl _,.v x=>roN h x| .mp _ _,s=>ob (mpE h s) fun l=>vh (.i .i64 (.ofNat (len l))) h| .sl _,.m n=>ob (F.ln false n) fun k=>vh (.i .i64 (.ofNat k)) h| .sl _,.r n=>ob (F.ln true n) fun k=>vh (.i .i64 (.ofNat k)) h|_,_=>none)|_,_=>none)
 | .min=>ob (qG true args) fun v=>some (v,h)
 | .max=>ob (qG false args) fun v=>some (v,h)
 | .append=>(match at_,args with| [t,t'],[s,x]=>ob (F.ti t) fun i=>ob (elem i.d) fun el=>ob (F.ti el) fun j=>one s fun s=>one x fun x=>cb (Nat.beq t t') (aEA h el j s x) (ob (F.ti t') fun i'=>match i'.d with| .int _=>aEB h el j s x|_=>none)|_,_=>none)
 | .clear=>(match at_,args with| [t],[x]=>ob (F.ti t) fun i=>ob (elem i.d) fun el=>ob (F.ti el) fun j=>one x fun s=>(match s with| .ns=>some (un,h)| .sl id off n _=>cb (Nat.beq n 0) (some (un,h)) (cb (Nat.blt 0 j.sz) (ob (wr h id off (iU j.ze n)) fun h=>some (un,h)) none)|_=>none)|_,_=>none)
 | .copy=>(match at_,args with|t::_,[d,x]=>ob (F.ti t) fun i=>ob (elem i.d) fun el=>ob (F.ti el) fun j=>one d fun d=>one x fun x=>lenOf x fun m=>lenOf d fun n=>cpy h j.sz (cb (Nat.ble m n) m n) d x|_,_=>none)
 | .cap=>(match at_,args with| [t],[x]=>ob (F.ti t) fun i=>one x fun s=>(match i.d,s with| .sl _,.ns=>vh (.i .i64 0) h| .sl _,.sl _ _ _ (some n)=>vh (.i .i64 (.ofNat n)) h|_,_=>none)|_,_=>none)
 |_=>none
abbrev bB:=AV→List AV→H→Option VH
def aJ6(call:bB)(e:Env)(h:H)(args:List Operand)(at_:List Nat)(c:Callee):Option VH:=
 Callee.rec (motive:=fun _=>Option VH) (fun f=>ob (ev e f) fun f=>ob (evL e args) fun l=>call f l h) (fun r m=>ob (ev e r) fun v=>one v fun s=>match s with| .v x=>ifT x fun t=>ob (kS F t m) fun fn=>ob (evL e args) fun l=>call (sc (.f fn [])) (.c true []::l) h|_=>none) (fun b=>ob (evL e args) fun l=>bi F h b at_ l) c
structure Wo where
 f:bB→Env→H→Option VH
def dL(o:Op):Wo:=
 match o with
 | .move x=>⟨fun _ e h=>ob (ev e x) fun v=>some (v,h)⟩
 | .assign x=>⟨fun _ e h=>ob (ev e x) fun v=>some (v,h)⟩
 | .pick c a d=>⟨fun _ e h=>oI e h c a d⟩
 | .alloc t=>⟨fun _ _ h=>nO F h t⟩
 | .box t x=>⟨fun _ e h=>tF e h t x⟩
 | .build t ps=>⟨fun _ e h=>lN F e h t ps.toList⟩
 | .buildSlice t n ps=>⟨fun _ e h=>gT F e h t n ps.toList⟩
 | .load t a=>⟨fun _ e h=>rA F e h t a⟩
 | .store t a x=>⟨fun _ e h=>nP F e h t a x⟩
 | .nilCheck x=>⟨fun _ e h=>zC F e h x⟩
 | .binOp op t x y _=>⟨fun _ e h=>tH F e h op t x y⟩
 | .unOp op _ x=>⟨fun _ e h=>oUn e h op x⟩
 | .convert s d x=>⟨fun _ e h=>uX F e h s d x⟩
 | .makeInterface t x=>⟨fun _ e h=>oIf F e h t x⟩
 | .range t x=>⟨fun _ e h=>tJ F e h t x⟩
 | .next x b=>⟨fun _ e h=>uZ e h x b⟩
 | .entry x=>⟨fun _ e h=>xK e h x⟩
 | .makeFunc f a c=>⟨fun _ e h=>mU e h f a.toList c.toList⟩
 | .makeSlice t l c=>⟨fun _ e h=>vC F e h t l c⟩
 | .makeMap t r=>⟨fun _ _ h=>aBr F h t r⟩
 | .lookup t x ix ok=>⟨fun _ e h=>aAH F e h t x ix ok⟩
 | .mapUpdate t m k x=>⟨fun _ e h=>uY F e h t m k x⟩
 | .insert t m k x=>⟨fun _ e h=>uY F e h t m k x⟩
 | .slice t x lo hi mx=>⟨fun _ e h=>lQ F e h t x lo hi mx⟩
 | .fieldAddr s x f=>⟨fun _ e h=>oFA F e h s x f⟩
 | .field s x f=>⟨fun _ e h=>qF F e h s x f⟩
 | .indexAddr t x ix=>⟨fun _ e h=>oIA F e h t x ix⟩
 | .index t x ix=>⟨fun _ e h=>oIx F e h t x ix⟩
 | .extract x ix=>⟨fun _ e h=>tK e h x ix⟩
 | .call c=>⟨fun call e h=>aJ6 F call e h c.args.toList c.argTypes.toList c.callee⟩
 |_=>⟨fun _ _ _=>none⟩
def op1(call:bB)(o:Op)(e:Env)(h:H):Option VH:=Wo.rec (motive:=fun _=>Option VH) (fun f=>f call e h) (dL F o)
def put{α:Type}(nt:Nat)(e:Env)(d:Option Nat)(v:AV)(k:Env→Option α):Option α:=Option.rec (motive:=fun _=>Option α) (k e) (fun d=>cb (Nat.blt d nt) (k (e.set v d)) none) d
inductive Ex where
 |n
 |x (id:Nat)
 |r
structure R where
 x:Ex
 e:Env
 h:H
def isB(v:Option AV)(w:Bool):Option Bool:=ob v fun v=>match v with
 | .c false [.b x]=>some (cb w x (cO x))
 | .t []=>some false
 |_=>none
def wanted(ops:List Oper)(e:Env)(g:Option (Nat × Bool)):Option Bool:=Option.rec (motive:=fun _=>Option Bool) (some true) (fun p=>ob (drp p.1 ops).head? fun o=>ob o.dst fun d=>isB (e.get d) p.2) g
def kT(nt:Nat)(call:bB)(ops:List Oper)(rest:Env→H→Option R)(o:Oper)(e:Env)(h:H):Option R:=
 ob (wanted ops e o.guard) fun w=>cb w (ob (op1 F call o.op e h) fun r=>put nt e o.dst r.1 fun e=>rest e r.2) (put nt e o.dst un fun e=>rest e h)
def gM(nt:Nat)(call:bB)(ops l:List Oper):Env→H→Option R:=
 List.rec (motive:=fun _=>Env→H→Option R) (fun e h=>some ⟨.n,e,h⟩) (fun o _ r e h=>kT F nt call ops r o e h) l
inductive Mk where|p|l|c|n|w
def mkC(c:Callee):Mk:=match c with
 | .value (.func f)=>Option.rec (motive:=fun _=>Mk) .c (fun _=>.p) (F.pr f)
 | .value _=>.c
 | .invoke _ _=>.c
 | .builtin .append=>.w
 | .builtin .clear=>.w
 | .builtin .copy=>.w
 | .builtin _=>.p
def aH0(t:Nat):Bool:=match F.ti t with|some i=>(match i.d with| .mp _ _=>true|_=>false)|none=>false
def mkL(c:Call):Mk:=match c.callee with
 | .builtin .len=>(match c.argTypes.toList with| [t]=>cb (aH0 F t) .c .p|_=>.p)
 |cl=>mkC F cl
def mkO(o:Op):Mk:=match o with
 | .move _=>.p
 | .assign _=>.p
 | .pick ..=>.p
 | .build ..=>.p
 | .nilCheck _=>.p
 | .binOp ..=>.p
 | .unOp ..=>.p
 | .convert ..=>.p
 | .makeFunc ..=>.p
 | .makeInterface ..=>.p
 | .slice ..=>.p
 | .fieldAddr ..=>.p
 | .field ..=>.p
 | .indexAddr ..=>.p
 | .index ..=>.p
 | .extract ..=>.p
 | .load ..=>.l
 | .alloc _=>.n
 | .box ..=>.n
 | .buildSlice ..=>.n
 | .makeSlice ..=>.n
 | .call c=>mkL F c
 | .makeMap ..=>.c
 | .lookup ..=>.c
 |_=>.w
def aBs(o:Op):Bool:=match o with| .fieldAddr ..=>true|_=>false
def edg(fa:Bool)(e:Edge):Bool:=match e.ground with| .textOnly _=>false| .gcOnly _=>false| .phase=>cb fa false true|_=>true
def bit(i:Nat):Nat:=Nat.shiftLeft 1 i
def sub(a c:Nat):Bool:=Nat.beq (Nat.land a c) a
def msk(fa:Bool)(f:Nat→Nat)(l:List Edge):Nat:=List.rec (motive:=fun _=>Nat) 0 (fun e _ r=>cb (edg fa e) (Nat.lor (f e.on) r) r) l
def tp1(l:List Oper):Nat→Nat→Nat:=List.rec (motive:=fun _=>Nat→Nat→Nat) (fun _ d=>d) (fun o _ r k d=>dK (cb (sub (msk false bit o.after.toList) d) (Nat.lor d (bit k)) d) (r (Nat.succ k))) l
def tpN(l:List Oper)(n:Nat):Nat→Nat:=Nat.rec (motive:=fun _=>Nat→Nat) (fun d=>d) (fun _ r d=>r (tp1 l 0 d)) n
def msN(l:List Nat):Nat:=List.rec (motive:=fun _=>Nat) 0 (fun i _ r=>Nat.lor (bit i) r) l
structure Sc where
 d:Nat
 an:T 3 Nat
def anc(s:Sc)(j:Nat):Nat:=Option.rec (motive:=fun _=>Nat) (bit j) (fun a=>Nat.lor (bit j) a) (s.an.get j)
def scK(ph:Bool)(k:Mk)(s:Sc)(am rm:Nat):Bool:=match k with
 | .w=>cb ph false (sub s.d (Nat.lor am rm))
 |_=>cb ph true (sub s.d (Nat.lor am rm))
def scP(s:Sc)(i am:Nat):Sc:=dK (Nat.lor s.d (bit i)) fun d=>⟨d,s.an.set am i⟩
def sc1(ops:List Oper)(ph:Bool)(i:Nat)(rm:Nat)(s:Sc):Option Sc:=
 ob (drp i ops).head? fun o=>cb (Nat.beq (Nat.land s.d (bit i)) 0) (cb (sub (msk (aBs o.op) bit o.after.toList) s.d) (dK (msk (aBs o.op) (anc s) o.after.toList) fun am=>cb (scK ph (mkO F o.op) s am rm) (some (scP s i am)) none) none) none
def scA(ops:List Oper)(l:List Nat):Sc→Option Sc:=List.rec (motive:=fun _=>Sc→Option Sc) some (fun i _ r s=>ob (sc1 F ops true i 0 s) r) l
def scB(ops:List Oper)(l:List (Nat × List Nat)):Sc→Option Sc:=List.rec (motive:=fun _=>Sc→Option Sc) some (fun p _ r s=>ob (sc1 F ops false p.1 (msN p.2) s) r) l
def wtL(ops:List Oper):Nat→T 3 Nat→Option (T 3 Nat):=List.rec (motive:=fun _=>Nat→T 3 Nat→Option (T 3 Nat)) (fun _ t=>some t)
 (fun o _ r k t=>Option.rec (motive:=fun _=>Option (T 3 Nat)) (r (Nat.succ k) t) (fun d=>Option.rec (motive:=fun _=>Option (T 3 Nat)) (r (Nat.succ k) (t.set k d)) (fun _=>none) (t.get d)) o.dst) ops
def has(an:T 3 Nat)(i j:Nat):Bool:=Option.rec (motive:=fun _=>Bool) false (sub (bit j)) (an.get i)
def shT(wt an:T 3 Nat)(i:Nat)(l:List Tmp):Bool:=List.rec (motive:=fun _=>Bool) true (fun t _ r=>cb (Option.rec (motive:=fun _=>Bool) true (fun j=>cb (Nat.beq j i) true (cb (has an i j) true (has an j i))) (wt.get t)) r false) l
def shQ(wt:T 3 Nat)(i:Nat)(d:Option Nat):Bool:=Option.rec (motive:=fun _=>Bool) true (fun d=>Option.rec (motive:=fun _=>Bool) false (Nat.beq i) (wt.get d)) d
def shL(opsA:Array Oper)(wt an:T 3 Nat)(l:List Oper):Nat→Bool:=List.rec (motive:=fun _=>Nat→Bool) (fun _=>true) (fun o _ r i=>cb (shQ wt i o.dst) (cb (shT wt an i (o.looksAt opsA)) (r (Nat.succ i)) false) false) l
def inB(B:List (Nat × List Nat))(j:Nat):Bool:=List.rec (motive:=fun _=>Bool) false (fun p _ r=>cb (Nat.beq p.1 j) true r) B
def aEC(an:T 3 Nat)(B:List (Nat × List Nat))(i j:Nat):Bool:=cb (has an i j) true (cb (inB B j) (has an j i) false)
def shU(wt an:T 3 Nat)(B:List (Nat × List Nat))(i:Nat)(l:List Tmp):Bool:=List.rec (motive:=fun _=>Bool) true (fun t _ r=>cb (Option.rec (motive:=fun _=>Bool) true (aEC an B i) (wt.get t)) r false) l
def shV(opsA:Array Oper)(wt an:T 3 Nat)(B:List (Nat × List Nat))(l:List Nat):Bool:=List.rec (motive:=fun _=>Bool) true (fun i _ r=>cb (Option.rec (motive:=fun _=>Bool) false (fun o=>shU wt an B i (o.looksAt opsA)) (drp i opsA.toList).head?) r false) l
def shW(opsA:Array Oper)(wt an:T 3 Nat)(B l:List (Nat × List Nat)):Bool:=List.rec (motive:=fun _=>Bool) true (fun p _ r=>cb (shV opsA wt an B p.2) r false) l
def fsN(l:List (Nat × List Nat)):Nat:=List.rec (motive:=fun _=>Nat) 0 (fun p _ r=>Nat.lor (bit p.1) r) l
def rmL(m:Nat)(l:List (Nat × List Nat)):Bool:=List.rec (motive:=fun _=>Bool) true (fun p _ r=>cb (Nat.beq (Nat.land (msN p.2) m) 0) r false) l
def isS{α:Type}(x:Option α)(f:α→Bool):Bool:=Option.rec (motive:=fun _=>Bool) false f x
def lS(ops:Array Oper)(p:List Nat × List (Nat × List Nat)):Bool:=
 isS (ob (scA F ops.toList p.1 ⟨0,.lf⟩) (scB F ops.toList p.2)) fun s=>cb (Nat.beq (Nat.succ s.d) (bit (len ops.toList))) (cb (isS (wtL ops.toList 0 .lf) fun wt=>cb (shL ops wt s.an ops.toList 0) (shW ops wt s.an p.2 p.2) false) (cb (rmL (fsN p.2) p.2) (cb (Nat.beq (Nat.succ (tpN ops.toList 8 0)) (bit (len ops.toList))) (Region.noSelect ops) false) false) false) false
def svb(x y:SV):Bool:=match x,y with
 | .b x,.b y=>cb x y (cO y)
 | .i k n,.i j m=>cb (decide (k=j)) (iEq n m) false
 | .s l,.s m=>eqL l m
 | .np,.np=>true
 | .p a c,.p b d=>cb (Nat.beq a b) (Nat.beq c d) false
 | .ns,.ns=>true
 | .sl a c n (some m),.sl a' c' n' (some m')=>cb (Nat.beq a a') (cb (Nat.beq c c') (cb (Nat.beq n n') (Nat.beq m m') false) false) false
 | .sl a c n none,.sl a' c' n' none=>cb (Nat.beq a a') (cb (Nat.beq c c') (Nat.beq n n') false) false
 | .m n,.m m=>Nat.beq n m
 | .nf,.nf=>true
 | .r n,.r m=>Nat.beq n m
 | .nq,.nq=>true
 | .q n,.q m=>Nat.beq n m
 |_,_=>false
def svL(l:List SV):List SV→Bool:=List.rec (motive:=fun _=>List SV→Bool) (fun m=>List.rec (motive:=fun _=>Bool) true (fun _ _ _=>false) m) (fun a _ r m=>List.rec (motive:=fun _=>Bool) false (fun c m _=>cb (svb a c) (r m) false) m) l
def avb(x y:AV):Bool:=match x,y with
 | .c g l,.c k m=>cb (cb g k (cO k)) (svL l m) false
 |_,_=>false
def isN{α:Type}(x:Option α):Bool:=Option.rec (motive:=fun _=>Bool) true (fun _=>false) x
def aLV(x:SV):Bool:=match x with
 | .b _=>true
 | .i _ _=>true
 | .s _=>true
 | .np=>true
 | .ns=>true
 | .m _=>true
 | .nf=>true
 | .r _=>true
 | .v _=>true
 | .nq=>true
 |_=>false
def plS(l:List SV):Bool:=List.rec (motive:=fun _=>Bool) true (fun x _ r=>cb (aLV x) r false) l
def noL(p:Option Lp):Bool:=Option.rec (motive:=fun _=>Bool) true (fun _=>false) p
def aED(p:Option Lp)(x y:Option B):Bool:=cb (noL p) (isS x fun b=>isS y fun c=>cb (Nat.beq b.ty c.ty) (cb (svL b.c c.c) (plS b.c) false) false) false
def vD(h:H)(v:AV)(u:AV × H):Bool:=match v,u.1 with
 | .c false [.p k 0],.c false [.p n 0]=>cb (Nat.beq n h.n) (aED (h.l.get k) (h.h.get k) (u.2.h.get n)) false
 | .c false [.sl k 0 m (some c)],.c false [.sl n 0 m' (some c')]=>cb (Nat.beq n h.n) (cb (Nat.beq m m') (cb (Nat.beq c c') (aED (h.l.get k) (h.h.get k) (u.2.h.get n)) false) false) false
 |_,_=>false
def again(ops:List Oper)(e:Env)(h:H)(k:Option R)(l:List Nat):Option R:=List.rec (motive:=fun _=>Option R) k
 (fun j _ r=>ob (drp j ops).head? fun o=>match mkO F o.op with
  | .p=>r
  | .l=>ob o.dst fun d=>ob (e.get d) fun v=>ob (op1 F (fun _ _ _=>none) o.op e h) fun u=>cb (isN o.guard) (cb (avb v u.1) r none) none
  | .n=>ob o.dst fun d=>ob (e.get d) fun v=>ob (op1 F (fun _ _ _=>none) o.op e h) fun u=>cb (isN o.guard) (cb (vD h v u) r none) none
  |_=>none) l
def H.lift(h:H):H:=⟨h.h,h.n,h.n,h.l⟩
def H.back(h:H)(b:Nat):H:=⟨h.h,h.n,b,h.l⟩
def wL(nt:Nat)(call:bB)(ops:List Oper)(l:List (Nat × List Nat)):Env→H→Option R:=
 List.rec (motive:=fun _=>Env→H→Option R) (fun e h=>some ⟨.n,e,h⟩) (fun p _ r e h=>ob (drp p.1 ops).head? fun o=>kT F nt call ops (fun e h=>again F ops e h (r e h) p.2) o e h) l
def tL(nt:Nat)(call:bB)(ops:List Oper)(b:Nat)(k:Env→H→Option R)(l:List Nat):Env→H→Option R:=
 List.rec (motive:=fun _=>Env→H→Option R) (fun e h=>k e (h.back b)) (fun i _ r e h=>ob (drp i ops).head? fun o=>kT F nt call ops r o e h.lift) l
def pJ(nt:Nat)(call:bB)(ops:Array Oper)(p:List Nat × List (Nat × List Nat))(e:Env)(h:H):Option R:=
 cb (lS F ops p) (dK h.bar fun b=>tL F nt call ops.toList b (wL F nt call ops.toList p.2) p.1 e h) none
def jX(nt:Nat)(l:List AV):Nat→Env→Option Env:=List.rec (motive:=fun _=>Nat→Env→Option Env) (fun _ e=>some e) (fun v _ r k e=>cb (Nat.blt k nt) (r (Nat.succ k) (e.set v k)) none) l
def fill(n:Nat):Nat→Env→Env:=Nat.rec (motive:=fun _=>Nat→Env→Env) (fun _ e=>e) (fun _ r k e=>r (Nat.succ k) (e.set un k)) n
def aEE(nt:Nat)(ps:List Nat):List AV→Env→Option Env:=List.rec (motive:=fun _=>List AV→Env→Option Env) (fun l e=>match l with| []=>some e|_=>none) (fun p _ r l e=>match l with| []=>none|v::l=>cb (Nat.blt p nt) (r l (e.set v p)) none) ps
def mV(v:AV):Option (Bool × List SV):=AV.rec (motive:=fun _=>Option (Bool × List SV)) (fun g l=>some (g,l)) (fun _=>none) v
def aBt(e:Env)(h:H)(r:ResultVar):Option (Bool × List SV):=match r with
 | .tmp t=>ob (e.get t) mV
 | .cell a t=>ob (F.ti t) fun i=>ob (e.get a) fun v=>one v fun s=>match s with| .p id off=>ob (rd h id off i.sz) fun c=>ob (av i.d.ag c) mV|_=>none
def res(e:Env)(h:H)(l:List ResultVar):Option (List (Bool × List SV)):=List.rec (motive:=fun _=>Option (List (Bool × List SV))) (some []) (fun r _ k=>ob (aBt F e h r) fun v=>ob k fun l=>some (v::l)) l
def tup(l:List (Bool × List SV)):AV:=List.rec (motive:=fun _=>AV) (.t []) (fun p r _=>List.rec (motive:=fun _=>AV) (.c p.1 p.2) (fun _ _ _=>.t l) r) l
def leave(G:Func)(r:R):Option VH:=match r with
 |⟨.x _,_,_⟩=>none
 |⟨_,e,h⟩=>ob (res F e h G.results.toList) fun l=>some (tup l,h)
abbrev bG:=Bool→Nat→Nat→Code→Env→H→Option R
def wM(l:List (Nat × Nat)):List AV:=List.rec (motive:=fun _=>List AV) [] (fun p _ r=>sc (.p p.1 p.2)::r) l
def kU(l:Nat)(b:Bool)(pd:Option Code)(h:H):Option VH:=ob (h.l.get l) fun p=>cb p.dd none (cb (Nat.ble h.bar l) (vh (.b b) (h.putLp l {p with st:=b,pd:=pd})) none)
def roundEnd(l:Nat)(r:R):Option VH:=match r with
 |⟨.n,_,h⟩=>kU l true none h
 |⟨.r,_,h⟩=>kU l false (some .ret) h
 |⟨.x id,_,h⟩=>kU l false (some (.exit id)) h
def jE(ex:bG)(G:Func)(c:Code)(fn:Nat)(args:List AV)(h:H):Option VH:=
 ob (jX G.ntmps args 0 (fill G.ntmps 0 .lf)) fun e=>ob (ex false G.ntmps fn c e h) (leave F G)
def jF(ex:bG)(G:Func)(c:Code)(fn:Nat)(args:List AV)(h:H):Option VH:=Option.rec (motive:=fun _=>Option VH) (jE F ex G c fn args h) (fun g=>Option.rec (motive:=fun _=>Option VH) (jE F ex G c fn args h) (fun r=>h.nw r.1 fun a h=>vh (.sl a 0 r.2.1 (some r.2.2)) h) (g h args)) (F.pw fn)
def aEF(ex:bG)(G:Func)(c:Code)(fn:Nat)(args:List AV)(h:H):Option VH:=Option.rec (motive:=fun _=>Option VH) (jF F ex G c fn args h) (fun g=>Option.rec (motive:=fun _=>Option VH) (jF F ex G c fn args h) (fun v=>some (v,h)) (g h args)) (F.ph fn)
def aU(ex:bG)(fn:Nat)(args:List AV)(h:H):Option VH:=
 ob (F.P.funcs[fn]?) fun G=>ob G.body fun c=>Option.rec (motive:=fun _=>Option VH) (aEF F ex G c fn args h) (fun g=>ob (g args) fun v=>some (v,h)) (F.pr fn)
def aEG(ex:bG)(l:Nat)(args:List AV)(h:H):Option VH:=
 ob (h.l.get l) fun p=>cb p.dd none $ ob (aEE p.nt p.ps args p.e) fun e=>ob (ex true p.nt p.fn p.cs e h) fun r=>match r with
  |⟨.n,e,h⟩=>ob (h.l.get l) fun p'=>cb p'.dd none $ cb (Nat.ble h.bar l) (cb p'.st (cb (isN p'.pd) (ob (ex true p.nt p.fn p.bd e (h.putLp l {p' with st:=false})) (roundEnd l)) none) none) none
  |_=>none
def aJo(ex:bG)(x:Value)(args:List AV)(h:H):Option VH:=mvT x fun t m=>ob (kS F t m) fun fn=>aU F ex fn (.c true []::args) h
def aY(ex:bG)(f:AV)(args:List AV)(h:H):Option VH:=one f fun s=>match s with
 | .f fn fI=>aU F ex fn (app args (wM fI)) h
 | .v x=>aJo F ex x args h
 | .y l=>aEG ex l args h
 |_=>none
def xN(ex:bG)(q:Bool)(nt fn:Nat)(f:AV)(ps:List Tmp)(cs bd:Code)(e:Env)(h:H):Option R:=
 cb q none $ dK h.n fun l=>one f fun s=>match s with
  | .f fn2 fI=>ob (aU F ex fn2 (sc (.y l)::wM fI) ⟨h.h,Nat.succ l,h.bar,h.l.set ⟨fn,nt,e,ps,cs,bd,true,none,false,none,none,none⟩ l⟩) fun r=>ob (r.2.l.get l) fun p=>cb p.dd none $ cb (Nat.ble r.2.bar l) (cb (cb p.st true (cO (isN p.pd))) (match p.pd with
    |none=>some ⟨.n,e,r.2.putLp l {p with dd:=true}⟩
    |some .ret=>some ⟨.r,e,r.2.putLp l {p with dd:=true}⟩
    |some (.exit id)=>some ⟨.x id,e,r.2.putLp l {p with dd:=true}⟩
    |some _=>none) none) none
  |_=>none
def kV(ex:bG)(q:Bool)(nt fn:Nat)(c:Code)(r:R):Option R:=match r with|⟨.n,e,h⟩=>ex q nt fn c e h|r=>some r
def tN(id:Nat)(r:R):Option R:=match r with|⟨.x j,e,h⟩=>cb (Nat.beq id j) (some ⟨.n,e,h⟩) (some ⟨.x j,e,h⟩)|r=>some r
def xO(ex:bG)(q:Bool)(nt fn:Nat)(a b:Code)(e:Env)(h:H)(s:SV):Option R:=match s with| .b x=>ex q nt fn (cb x a b) e h|_=>none
def xP(ex:bG)(q:Bool)(nt fn:Nat)(c:Code)(e:Env)(h:H):Option R:=
 match c with
 | .skip=>some ⟨.n,e,h⟩
 | .label _=>some ⟨.n,e,h⟩
 | .region id ops dr=>cb dr (ob (F.pl fn id) fun p=>pJ F nt (aY F ex) ops p e h) (gM F nt (aY F ex) ops.toList ops.toList e h)
 | .seq a b=>ob (ex q nt fn a e h) (kV ex q nt fn b)
 | .cond c a b=>ob (ev e c) fun v=>one v (xO ex q nt fn a b e h)
 | .block id a=>ob (ex q nt fn a e h) (tN id)
 | .loop a=>ob (ex q nt fn a e h) (kV ex q nt fn (.loop a))
 | .scope a=>ex q nt fn a e h
 | .rangeFunc f ps cs bd=>ob (ev e f) fun f=>xN F ex q nt fn f ps.toList cs bd e h
 | .exit id=>some ⟨.x id,e,h⟩
 | .ret=>some ⟨.r,e,h⟩
 |_=>none
def exec(m:Nat):bG:=Nat.rec (motive:=fun _=>bG) (fun _ _ _ _ _ _=>none) (fun _ ex=>xP F ex) m
def aAI(m fn:Nat)(args:List AV):Option VH:=aY F (exec F m) (sc (.f fn [])) args ⟨.lf,0,0,.lf⟩
end
noncomputable section
def hints:T 3 (T 3 (List Nat × List (Nat × List Nat))):=T.ofL [
 (3,T.ofL [(12,[11,0,1,2,3,4,5,7,8,9,6,10,12,13,14,15,16,17,18],[(19,[16]),(20,[])])]),
 (9,T.ofL [(6,[0,1,2,3,5,6,7,8,4,9,10,11,12,13,14,15,18,19,20,21,16,17,22,23,24,25],[]),(11,[0,1,2,3,5,8,9,10,11,13,4,6,7,12,14,15,16],[])]),
 (12,T.ofL [(18,[0,1,2,3,4,5,8,9,6,7,10],[(11,[])])]),
 (13,T.ofL [(4,[0,2,1,3,4,5,6,7,8,9,10],[])]),
 (14,T.ofL [(1,[2,0,3,1,4,5,6],[])]),
 (19,T.ofL [(6,[0,1,2,4,5,6,3,7,8],[])]),
 (41,T.ofL [(7,[0,1,2,5,3,4,6,7,8],[(9,[])]),(11,[0,1,2,3,5,6,7,8,4,9,10,11],[(12,[])])]),
 (44,T.ofL [(8,[0,1,3,5,6,2,4,7,8,9,10],[(11,[]),(12,[])])]),
 (46,T.ofL [(1,[2,0,1,3,4,5,6,7],[(8,[])]),(5,[1,2,0,3,4],[(5,[])]),(6,[1,6,0,2,4,7],[(3,[6,4,7]),(5,[6,7]),(8,[]),(9,[]),(10,[]),(11,[])])]),
 (49,T.ofL [(6,[0,1,3,6,8,2,4,7,9,5,10,11,12],[(13,[])])]),
 (57,T.ofL [(3,[0,1,2,3],[(4,[]),(5,[])])]),
 (58,T.ofL [(1,[0,1,2,3,4,5,6,7,8],[])]),
 (62,T.ofL [(8,[0,2,4,5,7,11,1,3,6,8,9,12,13,10,14,15,16],[(17,[])])]),
 (63,T.ofL [(1,[2,4,8,10,0,1,3,5,7,9,11,6,12,13,14,15],[(16,[])]),(11,[0,1,2,3,4,6,8,9,10,11,12,14,17,5,13],[(7,[0,8,9,10,11,12,14,17,13]),(15,[0,17]),(16,[0,17]),(18,[]),(19,[])])]),
 (64,T.ofL [(4,[0,1,2,7,3,4],[(5,[7]),(6,[7])])]),
 (66,T.ofL [(10,[0,1,2,3,4,5,6],[(7,[0]),(8,[]),(9,[])]),(14,[0,1,2],[(3,[])])]),
 (67,T.ofL [(9,[1,2,3,5,6,10,0,4,7,8,9,11],[(12,[])]),(11,[1,2,3,5,6,10,0,4,7,8,9,11],[(12,[])])]),
 (68,T.ofL [(6,[0,1,2,3,5,6,7,10,11,12,13,15,16,17,18,22,4,8,14,19,9,20,21,23],[(24,[])])]),
 (69,T.ofL [(8,[1,2,4,3,5,6,0,7,8],[(9,[])])]),
 (70,T.ofL [(5,[0,1,2,3,5,6,9,10,11,13,14,18,4,7,12,15,8,16,17,19],[(20,[])])]),
 (90,T.ofL [(11,[0,1,2,3,4,5,6,7,8,9,10,11,12,13,14],[(15,[])])]),
 (111,T.ofL [(3,[0,1,3,4,7,2,5,8,6,9],[(10,[])])]),
 (118,T.ofL [(12,[0,1,2,3,4,6,5,7,8],[(9,[0,1]),(10,[]),(11,[])]),(17,[0,1,2,4,5,6,8,3,7,9,10,11,12],[(13,[])]),(19,[1,3,0,2,4,5,6],[(7,[])]),(21,[0,3,1,2,4,5],[(6,[])])]),
 (119,T.ofL [(5,[0,1,3,2,4,5,6,7],[(8,[])])]),
 (120,T.ofL [(1,[0,2,1,3,4,5],[(6,[]),(7,[])])]),
 (122,T.ofL [(1,[0,2,6,7,9,11,1,3,4,5,8,10,12,13,14],[(15,[]),(16,[])])]),
 (123,T.ofL [(5,[0,1,2,4,3,5,6,7,8,9],[(10,[])])]),
 (125,T.ofL [(1,[0,3,1,4,2,5,6,7],[])]),
 (129,T.ofL [(1,[0,1,2,3,4,5],[])]),
 (133,T.ofL [(1,[0,4,1,2,5,3,6],[(7,[])])]),
 (135,T.ofL [(6,[1,3,0,2,4,5,6],[(7,[])]),(11,[2,3,0,1,4,5,6,7,8],[(9,[])]),(21,[0,2,1],[(3,[])])]),
 (140,T.ofL [(2,[0,1,2,3,4,5,6,7,8],[(9,[])]),(3,[0,1,2,3,4,5,6,7,8],[(9,[])])]),
 (147,T.ofL [(6,[0,1,2,3,5,6,8,4,7,9],[(10,[])]),(7,[0,1,2,4,5,6,7,10,3,8,9,11],[(12,[])]),(8,[0,1,2,5,6,7,8,9,13,3,4,10,11,12,14],[(15,[])])]),
 (148,T.ofL [(1,[0,1,2,4,5,6,9,10,11,13,14,15,3,7,12,16,8,17,18,19],[])]),
 (157,T.ofL [(3,[0,7,1,3,8,11,2,4,5,6,9,10,12,13,14,15],[]),(8,[0,5,1,2,6,7,3,4,8,9,10,11],[])]),
 (160,T.ofL [(1,[0,1,2,3],[(4,[])])]),
 (162,T.ofL [(4,[0,2,1,3,4,5],[]),(5,[2,6,0,4,1,3,5,7,8,9],[]),(6,[0,2,4,6,8,10,1,3,7,9,5,11,12,13,14,15,16,17],[]),(10,[0,1,2,4,7,5,3,6,8,9,10],[(11,[])])]),
 (166,T.ofL [(1,[0,2,5,1,3,6,4,7,8],[(9,[])])]),
 (169,T.ofL [(4,[0,2,3,4,5,6,7,1,8,9,10,11],[])]),
 (170,T.ofL [(7,[0,2,1,3,4,6,5],[(7,[])])]),
 (180,T.ofL [(3,[0,2,4,6,1,5,3,7,8,9],[(10,[]),(11,[])])]),
 (195,T.ofL [(8,[0,1,2,3,4,6,5,7,8],[(9,[0,1]),(10,[]),(11,[])])]),
 (199,T.ofL [(17,[0,1,2,3,4,5,6,7,9,10,11,8,12,13,14,15,16],[])]),
 (208,T.ofL [(1,[0,1,2],[]),(3,[0,3,1,4,2,5,6],[(7,[])])]),
 (209,T.ofL [(5,[2,0,1,3,4],[(5,[])])]),
 (210,T.ofL [(1,[0,3,1,4,2,5,6],[(7,[])])]),
 (211,T.ofL [(5,[2,3,4,0,1,5,6,7,8],[(9,[])])]),
 (213,T.ofL [(1,[1,5,0,2,3,4,6,7,8,9],[])]),
 (222,T.ofL [(6,[0,1,3,5,6,8,11,2,4,7,9,10,12,13,14],[])]),
 (226,T.ofL [(4,[0,2,3,4,5,6,7,1,8,9,10],[])]),
 (228,T.ofL [(9,[0,1,2,3,4,5,6,8,9,10,7,11,12,13],[(14,[])]),(14,[0,1,2,3,4,5,6,7,8,10,11,12,9,13,14,15,16,17],[(18,[])])]),
 (232,T.ofL [(3,[0,1,2,4,5,6,3,7,8],[])]),
 (233,T.ofL [(5,[0,1,2,3,4,5,6,7],[])]),
 (237,T.ofL [(1,[0,7,9,13,1,2,3,4,5,6,8,11,10,12,14,15],[(16,[])])]),
 (238,T.ofL [(8,[0,1,2,4,5,6,3,7,8,9],[]),(10,[0,1,2,4,5,6,3,7,8,9],[])]),
 (246,T.ofL [(5,[0,1,2,3,4,5],[(6,[])])]),
 (251,T.ofL [(4,[0,1,3,2,4,5,6,7,8,9,10],[])]),
 (263,T.ofL [(12,[1,2,3,0,4,5,6,7,8,9,10],[(11,[9]),(12,[])])]),
 (266,T.ofL [(1,[0,2,1,3],[(4,[]),(5,[])]),(2,[0,2,5,7,1,3,6,8,4,9,10],[(11,[])])]),
 (267,T.ofL [(1,[0,2,1,3,4],[(5,[])])]),
 (272,T.ofL [(1,[0,2,1,3,4,5],[(6,[])]),(5,[0,2,1,3,4],[(5,[])]),(8,[0,2,3,5,1,4,6,7,8,9],[(10,[0,2,1]),(11,[]),(12,[])])]),
 (273,T.ofL [(1,[0,2,5,7,11,1,3,4,6,8,9,10,12,13,14],[(15,[5,7,6,8,9]),(16,[]),(17,[])]),(2,[0,3,6,9,12,1,2,13,4,5,14,7,8,15,10,11,16,17],[]),(15,[1,2,3,0,4,5],[(6,[])]),(16,[1,2,3,5,0,4,6,7,8,9],[(10,[])]),(18,[1,2,0,3,4],[(5,[])]),(19,[1,2,3,0,4,5],[(6,[])]),(20,[1,2,3,0,4],[(5,[])]),(21,[1,2,3,0,4],[(5,[])])]),
 (275,T.ofL [(6,[3,9,0,1,2,4,5,6,7,8],[]),(17,[1,2,0,3],[(4,[])])]),
 (278,T.ofL [(4,[0,1,2,3,4,5,6,7,9,10,11,12,8,13,14,15,16],[]),(6,[0,1,2,3,4,5,6,7,8,10,11,12,9,13,14],[(15,[2,3,4]),(16,[]),(17,[])])]),
 (279,T.ofL [(10,[0,1,2,3,4,5,6,7,8,9,10,12,13,14,11,15,16],[(17,[2,3,4,5]),(18,[]),(19,[])])]),
 (280,T.ofL [(10,[0,1,2,3,4,5,6,7,8,9,10,12,13,14,11,15,16],[(17,[2,3,4,5]),(18,[]),(19,[])])]),
 (282,T.ofL [(3,[0,1,2,3,4,5,6,8,9,10,7,11,12],[(13,[2,3]),(14,[]),(15,[])])]),
 (283,T.ofL [(5,[0,1,2,3,4,5,6,7,9,10,11,12,8,13,14,15,16,17],[]),(11,[0,1,2,3,4,5,6,7,8,10,11,12,9,13,14],[(15,[2,3,4]),(16,[]),(17,[])]),(16,[0,1,2,3,5,6,7,8,4,9,10,11,12],[]),(17,[0,1,2,3,4,5,6,7,8,10,11,12,9,13,14],[(15,[2,3,4]),(16,[]),(17,[])]),(22,[0,1,2,3,5,6,7,8,4,9,10,11,12],[]),(23,[0,1,2,3,4,5,6,7,8,10,11,12,9,13,14],[(15,[2,3,4]),(16,[]),(17,[])])]),
 (284,T.ofL [(1,[0,1,2,3,4,5,6,8,9,10,7,11,12],[(13,[2,3]),(14,[]),(15,[])]),(3,[0,1,2,3,4,5,6,7,9,10,11,8,12,13,14,15,16],[]),(5,[0,1,2,3,4,5,6,7,9,10,11,8,12,13,14,15],[]),(8,[0,1,2,3,4,5,6,8,9,10,7,11,12],[(13,[2,3]),(14,[]),(15,[])])]),
 (285,T.ofL [(1,[0,1,2,3,4,5,6,8,9,10,7,11,12],[(13,[2,3]),(14,[]),(15,[])]),(3,[0,1,2,3,4,5,6,7,9,10,11,8,12,13,14,15],[]),(5,[0,1,2,3,4,5,6,7,9,10,11,8,12,13,14,15,16],[]),(8,[0,1,2,3,4,5,6,8,9,10,7,11,12],[(13,[2,3]),(14,[]),(15,[])]),(10,[0,1,2,3,4,5,6,8,9,10,7,11,12],[(13,[2,3]),(14,[]),(15,[])]),(13,[0,1,2,3,4,5,6,7,9,10,11,8,12,13,14,15],[]),(15,[0,1,2,3,4,5,6,7,9,10,11,8,12,13,14,15,16],[]),(18,[0,1,2,3,4,5,6,8,9,10,7,11,12],[(13,[2,3]),(14,[]),(15,[])]),(21,[0,1,2,3,4,5,6,8,9,10,7,11,12],[(13,[2,3]),(14,[]),(15,[])])]),
 (293,T.ofL [(7,[0,1,2,3,4,5,6,7],[]),(8,[0,1,2,3,4,5,6,7,8],[(9,[])])]),
 (295,T.ofL [(1,[0,2,1,3,4,5],[(6,[])])]),
 (296,T.ofL [(1,[0,2,1,3,4],[])]),
 (298,T.ofL [(1,[0,2,1,3],[(4,[]),(5,[])]),(2,[0,2,5,7,1,3,6,8,4,9,10],[(11,[])])]),
 (300,T.ofL [(17,[0,1,2,3,4,5,6,8,9,10,7,11,12,13,14],[])]),
 (304,T.ofL [(3,[0,1,2,3,4,5,6,7,8,9,10,11],[])]),
 (310,T.ofL [(2,[0,2,4,6,1,8,3,9,5,10,7,11],[]),(6,[0,1,2,3,4,5,6,7,8,9,10,11,12,13,14,15],[])]),
 (313,T.ofL [(2,[0,1,2,3,4,5,6,7,8,9],[])]),
 (314,T.ofL [(2,[0,1,2,3,4,5,6,7,8,9],[])]),
 (317,T.ofL [(1,[0,1,2,3,4],[])]),
 (318,T.ofL [(0,[0,2,1,3,4,5],[])]),
 (319,T.ofL [(2,[0,1,2,5,6,7,3,8,4,9,10,11],[(12,[10]),(13,[])]),(14,[0,1,3,4,5,2,6,7,8],[(9,[])]),(16,[0,1,2,3,4,7,8,9,10,11,5,6,12,13,14,15],[(16,[])])]),
 (320,T.ofL [(1,[0,2,4,1,3,5,6,7],[(8,[])])]),
 (321,T.ofL [(1,[0,1,2,3,5,7,8,9,11,12,4,10,6,13,14,15,16],[(17,[])])]),
 (322,T.ofL [(8,[0,1,2,3,4,5,7,8,6,9,10,11],[(12,[])])]),
 (323,T.ofL [(4,[0,1,2,3],[(4,[])])]),
 (333,T.ofL [(2,[0,2,5,7,11,13,16,18,1,3,6,8,12,14,17,19,4,9,10,15,20,21,22],[(23,[])]),(4,[0,2,1,3,4],[(5,[])]),(7,[0,2,1,3,4,5],[(6,[2,3]),(7,[])]),(12,[1,5,0,2,4,6,3,7,8],[(9,[])])]),
 (334,T.ofL [(1,[0,3,1,4,2,5,6],[(7,[])])]),
 (335,T.ofL [(1,[0,2,1,3,4,5,6,7],[(8,[]),(9,[])]),(7,[1,2,0,3,4],[(5,[])])]),
 (336,T.ofL [(2,[1,2,0,3,4],[(5,[])])]),
 (337,T.ofL [(2,[0,2,5,1,3,4,6,7,8,9],[(10,[])]),(3,[0,2,3,5,8,10,13,1,4,6,7,9,11,12,14,15,16,17,18],[(19,[])])]),
 (338,T.ofL [(2,[1,2,0,3,4],[(5,[])])]),
 (339,T.ofL [(1,[0,1,2,3,4,5,6,7,8,9,10,11,12,13,14,15,16,17,18],[])]),
 (341,T.ofL [(3,[0,1,2,3,4,5,6,7,8,9,10,12,13,14,15,16,17,11,18,19,20,21],[]),(5,[0,1,2,3,4,5,7,8,9,10,11,6,12,13,14,15],[]),(6,[0,1,2,3,4,5,6,7,8,9,10,11,12,14,15,16,17,18,13,19,20],[(21,[4,5,6,7]),(22,[]),(23,[])])]),
 (343,T.ofL [(1,[0,1,3,4,2,5,6,7,8],[(9,[])]),(2,[0,1,3,4,2,5,6,7,8],[(9,[])]),(3,[0,1,3,4,2,5,6,7,8],[(9,[])])]),
 (346,T.ofL [(6,[0,1,2,3,4,5,6,7],[])]),
 (347,T.ofL [(13,[0,1,2,3,4,5,6,7],[])]),
 (350,T.ofL [(1,[0,1,2,3,4,5,6,7,8,9],[])]),
 (351,T.ofL [(1,[0,3,5,1,2,4,9,6,7,8,10],[])]),
 (355,T.ofL [(4,[0,1,2,3,4,5,6,7,9,10,11,12,8,13,14,15,16],[]),(6,[0,1,2,3,4,5,6,7,8,10,11,12,9,13,14],[(15,[2,3,4]),(16,[]),(17,[])])]),
 (356,T.ofL [(5,[0,1,2,3,5,6,7,4,8,9,10],[]),(11,[0,1,2,3,4,5,6,7,8,10,11,12,9,13,14],[(15,[2,3,4]),(16,[]),(17,[])]),(17,[0,1,2,3,5,6,7,4,8,9,10,11],[]),(23,[0,1,2,3,4,5,6,7,8,10,11,12,9,13,14],[(15,[2,3,4]),(16,[]),(17,[])]),(35,[0,1,2,3,4,5,7,8,9,6,10,11,12,13],[])]),
 (357,T.ofL [(4,[0,1,2,3,4,5,6,8,9,10,11,7,12,13,14],[]),(6,[0,1,2,3,4,5,6,7,8,10,11,12,9,13,14],[(15,[2,3,4]),(16,[]),(17,[])])]),
 (358,T.ofL [(10,[0,1,2,3,4,5,6,7,8,9,10,12,13,14,11,15,16],[(17,[2,3,4,5]),(18,[]),(19,[])])]),
 (359,T.ofL [(10,[0,1,2,3,4,5,6,7,8,9,10,12,13,14,11,15,16],[(17,[2,3,4,5]),(18,[]),(19,[])])]),
 (361,T.ofL [(3,[0,1,2,3,4,5,6,8,9,10,7,11,12],[(13,[2,3]),(14,[]),(15,[])])]),
 (362,T.ofL [(5,[0,1,2,3,4,5,6,8,9,10,11,7,12,13,14,15],[]),(11,[0,1,2,3,4,5,6,7,8,10,11,12,9,13,14],[(15,[2,3,4]),(16,[]),(17,[])]),(16,[0,1,2,4,5,6,7,3,8,9,10],[]),(17,[0,1,2,3,4,5,6,7,8,10,11,12,9,13,14],[(15,[2,3,4]),(16,[]),(17,[])]),(22,[0,1,2,4,5,6,7,3,8,9,10],[]),(23,[0,1,2,3,4,5,6,7,8,10,11,12,9,13,14],[(15,[2,3,4]),(16,[]),(17,[])])]),
 (364,T.ofL [(1,[0,1,2,3,4,5,6,8,9,10,7,11,12],[(13,[2,3]),(14,[]),(15,[])]),(3,[0,1,2,3,4,5,6,8,9,10,7,11,12,13,14],[]),(5,[0,1,2,3,4,5,6,8,9,10,7,11,12,13],[]),(8,[0,1,2,3,4,5,6,8,9,10,7,11,12],[(13,[2,3]),(14,[]),(15,[])])]),
 (365,T.ofL [(1,[0,1,2,3,4,5,6,8,9,10,7,11,12],[(13,[2,3]),(14,[]),(15,[])]),(3,[0,1,2,3,4,5,6,8,9,10,7,11,12,13],[]),(5,[0,1,2,3,4,5,6,8,9,10,7,11,12,13,14],[]),(8,[0,1,2,3,4,5,6,8,9,10,7,11,12],[(13,[2,3]),(14,[]),(15,[])]),(10,[0,1,2,3,4,5,6,8,9,10,7,11,12],[(13,[2,3]),(14,[]),(15,[])]),(13,[0,1,2,3,4,5,6,8,9,10,7,11,12,13],[]),(15,[0,1,2,3,4,5,6,8,9,10,7,11,12,13,14],[]),(18,[0,1,2,3,4,5,6,8,9,10,7,11,12],[(13,[2,3]),(14,[]),(15,[])]),(21,[0,1,2,3,4,5,6,8,9,10,7,11,12],[(13,[2,3]),(14,[]),(15,[])])]),
 (366,T.ofL [(18,[0,1,2,3,5,6,4,7,8,10,9,11,12,13],[]),(20,[0,2,7,9,10,1,3,4,5,8,11,12,13,6,14,15,16],[])]),
 (379,T.ofL [(3,[0,1,2,3,5,7,8,9,10,12,13,4,6,11,14,15,16],[]),(4,[0,1,2,3,5,7,8,9,10,12,13,4,6,11,14,15,16],[]),(9,[0,1,2,3,4,5],[])]),
 (386,T.ofL [(1,[0,1,2,3,4,5,6,7,8,9],[])]),
 (387,T.ofL [(11,[1,2,3,4,0,5,6],[(7,[]),(8,[])])]),
 (389,T.ofL [(7,[0,1,3,2,4],[(5,[])])]),
 (393,T.ofL [(1,[0,3,1,4,2,5,6],[(7,[])])]),
 (394,T.ofL [(1,[0,1,2,3,4],[])]),
 (395,T.ofL [(1,[0,1,2,3,5,6,7,4,8,9,10],[])]),
 (396,T.ofL [(5,[0,1,2,4,5,6,7,9,3,8,10,11,12,13,14,15],[])]),
 (400,T.ofL [(3,[0,1,2,3,4,5,6,7,8,9,11,12,13,14,15,16,10,17,18,19],[]),(5,[0,1,2,3,4,6,7,8,9,10,5,11,12,13],[]),(6,[0,1,2,3,4,5,6,7,8,9,10,11,12,14,15,16,17,18,13,19,20],[(21,[4,5,6,7]),(22,[]),(23,[])])]),
 (415,T.ofL [(6,[0,1,3,2,4],[])]),
 (419,T.ofL [(3,[0,1,2,5,6,7,11,3,4,8,9,10,12],[])]),
 (422,T.ofL [(1,[0,1,2,5,6,7,3,4,8,9,10,11],[])]),
 (424,T.ofL [(3,[0,1,2,3,4,5,6,7,8,9,10,11,12,14,15,16,17,18,13,19,20],[(21,[4,5,6,7]),(22,[]),(23,[])])]),
 (425,T.ofL [(1,[0,1,2,4,5,6,3,7,8],[])]),
 (434,T.ofL [(0,[0,1,2,6,9,10,11,3,4,5,7,12,13,8,14,15],[])])]
def aAJ(fn id:Nat):Option (List Nat × List (Nat × List Nat)):=ob (hints.get fn) fun t=>t.get id
end
section
variable {α β:Type}
theorem aA{r:Option α}{f:α→Option β}{y:β}:ob r f=some y↔∃a,r=some a∧f a=some y:=by
 cases r<;>simp[ob]
theorem aB{c:Bool}{x:Option α}{y:α}:cb c x none=some y↔c=true∧x=some y:=by cases c<;>simp[cb]
theorem cbn{c:Bool}{x:Option α}{y:α}:cb c none x=some y↔c=false∧x=some y:=by cases c<;>simp[cb]
theorem aL{c:Bool}{x y:α}:cb c x y=if c=true then x else y:=by cases c<;>rfl
theorem bH(l:List α):len l=l.length:=by
 induction l with
 |nil=>rfl
 |cons x l ih=>show Nat.succ (len l)=_;rw[ih];rfl
theorem iY(l m:List α):app l m=l++m:=by
 induction l with
 |nil=>rfl
 |cons x l ih=>show x::app l m=_;rw[ih];rfl
theorem gN(n:Nat)(l:List α):drp n l=l.drop n:=by
 induction n generalizing l with
 |zero=>rfl
 |succ n ih=>
  cases l with
  |nil=>rfl
  |cons x l=>exact ih l
theorem jY{n:Nat}{l m:List α}:cZ n l=some m↔n≤l.length∧m=l.take n:=by
 induction n generalizing l m with
 |zero=>show some []=some m↔_;simp[eq_comm]
 |succ n ih=>
  cases l with
  |nil=>show (none:Option (List α))=some m↔_;simp
  |cons x l=>
   show ob (cZ n l) (fun m=>some (x::m))=some m↔_;rw[aA];constructor
   ·rintro⟨a,h1,h2⟩;obtain⟨h3,rfl⟩:=ih.1 h1;injection h2 with h2;exact⟨by simp;omega,by simpa using h2.symm⟩
   ·rintro⟨h1,rfl⟩;exact⟨l.take n,ih.2 ⟨by simpa using h1,rfl⟩,by simp⟩
theorem aH1{xs l m:List α}:ovr xs l=some m↔xs.length≤l.length∧m=xs++l.drop xs.length:=by
 induction xs generalizing l m with
 |nil=>show some l=some m↔_;simp[eq_comm]
 |cons x xs ih=>
  cases l with
  |nil=>show (none:Option (List α))=some m↔_;simp
  |cons y l=>
   show ob (ovr xs l) (fun m=>some (x::m))=some m↔_;rw[aA];constructor
   ·rintro⟨a,h1,h2⟩;obtain⟨h3,rfl⟩:=ih.1 h1;injection h2 with h2;exact⟨by simp;omega,by simpa using h2.symm⟩
   ·rintro⟨h1,rfl⟩;exact⟨_,ih.2 ⟨by simpa using h1,rfl⟩,by simp⟩
theorem tO{off:Nat}{xs l m:List α}:eX off xs l=some m↔off+xs.length≤l.length∧m=l.take off++xs++l.drop (off+xs.length):=by
 induction off generalizing l m with
 |zero=>show ovr xs l=some m↔_;rw[aH1];simp
 |succ n ih=>
  cases l with
  |nil=>show (none:Option (List α))=some m↔_;simp
  |cons y l=>
   show ob (eX n xs l) (fun m=>some (y::m))=some m↔_;rw[aA];constructor
   ·rintro⟨a,h1,h2⟩;obtain⟨h3,rfl⟩:=ih.1 h1;injection h2 with h2;refine⟨by simp;omega,?_⟩;rw[←h2,show n+1+xs.length=n+xs.length+1 from by omega];simp
   ·rintro⟨h1,rfl⟩;refine⟨_,ih.2 ⟨by simp at h1;omega,rfl⟩,?_⟩;rw[show n+1+xs.length=n+xs.length+1 from by omega];simp
theorem aM{n:Nat}{f:Nat→α}:dK n f=f n:=by cases n<;>rfl
theorem qH{n:Int}{f:Int→α}:aBp n f=f n:=by
 cases n with
 |ofNat m=>exact aM (f:=fun m=>f (.ofNat m))
 |negSucc m=>exact aM (f:=fun m=>f (.negSucc m))
theorem aH{a b:Nat}:Nat.beq a b=true↔a=b:=⟨Nat.eq_of_beq_eq_true,fun h=>by subst h;exact Nat.beq_refl a⟩
theorem aAK{a b:Nat}:Nat.beq a b=false↔a≠b:=by
 have h:=@aH a b;cases e:Nat.beq a b<;>rw[e]at h<;>simp at h⊢<;>exact h
theorem aQ{a b:Nat}:Nat.blt a b=true↔a<b:=by simp[Nat.blt,Nat.ble_eq];omega
theorem aEH{a b:Nat}:Nat.blt a b=false↔¬a<b:=by rw[←aQ];cases Nat.blt a b<;>simp
theorem bA{a b:Nat}:Nat.ble a b=true↔a≤b:=by rw[Nat.ble_eq]
theorem aJ7(d d':Nat)(hd:d<8)(hd':d' <8)(f:α→α)(x:N α):(ls1 d).g ((ls1 d').u f x)=if d=d' then f ((ls1 d).g x) else (ls1 d).g x:=by
 obtain⟨_,_,_,_,_,_,_,_⟩:=x
 rcases (by omega:d=0∨d=1∨d=2∨d=3∨d=4∨d=5∨d=6∨d=7) with rfl|rfl|rfl|rfl|rfl|rfl|rfl|rfl<;>
  rcases (by omega:d'=0∨d'=1∨d'=2∨d'=3∨d'=4∨d'=5∨d'=6∨d'=7) with rfl|rfl|rfl|rfl|rfl|rfl|rfl|rfl<;>rfl
theorem aJp{X Y Z:Type}(l:Ls X Y)(m:Ls Y Z)(x:X):(l.cmp m).g x=m.g (l.g x):=by cases l;cases m;rfl
theorem aJq{X Y Z:Type}(l:Ls X Y)(m:Ls Y Z)(f:Z→Z)(x:X):(l.cmp m).u f x=l.u (m.u f) x:=by cases l;cases m;rfl
theorem T.get_ls{n:Nat}(t:T n α)(k:Nat):t.get k=(T.ls α n k).g t:=by unfold T.get;cases T.ls α n k;rfl
theorem T.set_ls{n:Nat}(x:α)(t:T n α)(k:Nat):T.set x t k=(T.ls α n k).u (fun _=>some x) t:=by unfold T.set;cases T.ls α n k;rfl
noncomputable def T0.g {n:Nat} (t:T0 n α) (k:Nat):Option α:=(T0.ls α n k).g t
noncomputable def T0.s {n:Nat} (x:α) (t:T0 n α) (k:Nat):T0 n α:=(T0.ls α n k).u (fun _=>some x) t
theorem T0.get_z(t:T0 0 α)(k:Nat):t.g k=if k=0 then (show Option α from t) else none:=by
 show (cb (Nat.beq k 0) _ _:Ls (T0 0 α) (Option α)).g t=_;rw[aL];by_cases h:k=0
 ·rw[if_pos h,if_pos (aH.2 h)]
 ·rw[if_neg h,if_neg (fun e=>h (aH.1 e))]
theorem T0.set_z(x:α)(t:T0 0 α)(k:Nat):T0.s x t k=if k=0 then (show T0 0 α from (some x:Option α)) else t:=by
 show (cb (Nat.beq k 0) _ _:Ls (T0 0 α) (Option α)).u (fun _=>some x) t=_;rw[aL];by_cases h:k=0
 ·rw[if_pos h,if_pos (aH.2 h)]
 ·rw[if_neg h,if_neg (fun e=>h (aH.1 e))]
noncomputable def T0.pk {n:Nat} (t:T0 (n+1) α) (d:Nat):T0 n α:=(ls1 (X:=T0 n α) d).g t
noncomputable def T0.pt {n:Nat} (d:Nat) (f:T0 n α→T0 n α) (t:T0 (n+1) α):T0 (n+1) α:=(ls1 (X:=T0 n α) d).u f t
theorem T0.pk_pt{n:Nat}(d d':Nat)(hd:d<8)(hd':d' <8)(f:T0 n α→T0 n α)(t:T0 (n+1) α):(T0.pt d' f t).pk d=if d=d' then f (t.pk d) else t.pk d:=aJ7 d d' hd hd' f t
theorem T0.get_s{n:Nat}(t:T0 (n+1) α)(k:Nat):t.g k=(t.pk (k % 8)).g (k/8):=aJp (ls1 (X:=T0 n α) (k % 8)) (T0.ls α n (k/8)) t
theorem T0.set_s{n:Nat}(x:α)(t:T0 (n+1) α)(k:Nat):T0.s x t k=T0.pt (k % 8) (fun y=>T0.s x y (k/8)) t:=aJq (ls1 (X:=T0 n α) (k % 8)) (T0.ls α n (k/8)) (fun _=>some x) t
theorem T0.get_lf{n k:Nat}:(T0.lf:T0 n α).g k=none:=by
 induction n generalizing k with
 |zero=>rw[T0.get_z];split<;>rfl
 |succ n ih=>
  rw[T0.get_s];have:(T0.lf:T0 (n+1) α).pk (k % 8)=T0.lf:=by
    have hk:=Nat.mod_lt k (show 0<8 by decide);generalize k % 8=d at hk;rcases (by omega:d=0∨d=1∨d=2∨d=3∨d=4∨d=5∨d=6∨d=7) with rfl|rfl|rfl|rfl|rfl|rfl|rfl|rfl<;>rfl
  rw[this,ih]
theorem T0.get_upd{n:Nat}{x:α}{t:T0 n α}{k j:Nat}(hj:j<Nat.pow 8 n)(hn:j≠k):(T0.s x t k).g j=t.g j:=by
 induction n generalizing k j with
 |zero=>
  have hj:j<1:=hj;rw[T0.set_z,T0.get_z,T0.get_z];rw[if_neg (c:=k=0) (by omega)]
 |succ n ih=>
  have hj:j<Nat.pow 8 n*8:=hj;rw[T0.set_s,T0.get_s,T0.get_s];have hk8:=Nat.mod_lt k (show 0<8 by decide);have hj8:=Nat.mod_lt j (show 0<8 by decide);rw[T0.pk_pt _ _ hj8 hk8];by_cases h:j % 8=k % 8
  ·rw[if_pos h];exact ih (by omega) (by omega)
  ·rw[if_neg h]
theorem T0.get_same{n:Nat}{x:α}{t:T0 n α}{k:Nat}(hk:k<Nat.pow 8 n):(T0.s x t k).g k=some x:=by
 induction n generalizing k with
 |zero=>
  have hk:k<1:=hk;rw[T0.set_z,T0.get_z,if_pos (by omega),if_pos (by omega)]
 |succ n ih=>
  have hk:k<Nat.pow 8 n*8:=hk;rw[T0.set_s,T0.get_s];have hk8:=Nat.mod_lt k (show 0<8 by decide);rw[T0.pk_pt _ _ hk8 hk8,if_pos rfl];exact ih (by omega)
theorem T.get_lt{n:Nat}{t:T n α}{k:Nat}(h:k<Nat.pow 8 n):t.get k=t.t.g k:=by
 rw[T.get_ls];unfold T.ls;rw[aQ.2 h];exact aJp (⟨T.t,T.u1⟩:Ls (T n α) (T0 n α)) (T0.ls α n k) t
theorem T.get_ge{n:Nat}{t:T n α}{k:Nat}(h:¬k<Nat.pow 8 n):t.get k=t.o k:=by
 rw[T.get_ls];unfold T.ls;rw[aEH.2 h];rfl
theorem T.set_lt{n:Nat}{x:α}{t:T n α}{k:Nat}(h:k<Nat.pow 8 n):T.set x t k=⟨T0.s x t.t k,t.o⟩:=by
 rw[T.set_ls];unfold T.ls;rw[aQ.2 h];refine (aJq (⟨T.t,T.u1⟩:Ls (T n α) (T0 n α)) (T0.ls α n k) (fun _=>some x) t).trans ?_;cases t;rfl
theorem T.set_ge{n:Nat}{x:α}{t:T n α}{k:Nat}(h:¬k<Nat.pow 8 n):T.set x t k=⟨t.t,fun i=>cb (Nat.beq i k) (some x) (t.o i)⟩:=by
 rw[T.set_ls];unfold T.ls;rw[aEH.2 h];cases t;rfl
theorem T.get_lf{n k:Nat}:(T.lf:T n α).get k=none:=by
 by_cases h:k<Nat.pow 8 n
 ·rw[T.get_lt h];exact T0.get_lf
 ·rw[T.get_ge h];rfl
theorem T.get_upd{n:Nat}{x:α}{t:T n α}{k j:Nat}:((T.set x t k).get j=t.get j)∨(j=k∧(T.set x t k).get j=some x):=by
 by_cases hjk:j=k
 ·refine .inr ⟨hjk,?_⟩;subst hjk;by_cases h:j<Nat.pow 8 n
  ·rw[T.get_lt h,T.set_lt h];exact T0.get_same h
  ·rw[T.get_ge h,T.set_ge h];show cb (Nat.beq j j) _ _=_;rw[Nat.beq_refl];rfl
 ·refine .inl ?_;by_cases h:j<Nat.pow 8 n
  ·rw[T.get_lt h,T.get_lt h];by_cases hk:k<Nat.pow 8 n
   ·rw[T.set_lt hk];exact T0.get_upd h hjk
   ·rw[T.set_ge hk]
  ·rw[T.get_ge h,T.get_ge h];by_cases hk:k<Nat.pow 8 n
   ·rw[T.set_lt hk]
   ·rw[T.set_ge hk];show cb (Nat.beq j k) _ _=_;rw[aAK.2 hjk];rfl
theorem T.get_same{n:Nat}{x:α}{t:T n α}{k:Nat}:(T.set x t k).get k=some x:=by
 by_cases h:k<Nat.pow 8 n
 ·rw[T.get_lt h,T.set_lt h];exact T0.get_same h
 ·rw[T.get_ge h,T.set_ge h];show cb (Nat.beq k k) _ _=_;rw[Nat.beq_refl];rfl
theorem T.get_set{n:Nat}{x y:α}{t:T n α}{k j:Nat}(h:(T.set x t k).get j=some y):(j=k∧y=x)∨(j≠k∧t.get j=some y):=by
 by_cases hj:j=k
 ·subst hj;rw[T.get_same]at h;injection h with h;exact .inl ⟨rfl,h.symm⟩
 ·rcases T.get_upd (x:=x) (t:=t) (k:=k) (j:=j) with h1|⟨h1,-⟩
  ·exact .inr ⟨hj,h1▸h⟩
  ·exact absurd h1 hj
end
end E
namespace Me
open Go.RowKit
open Ma
theorem aDj{k:IntKind}{a b:Int}(h:a=b):Ending.returned (.int k a)=.returned (.int k b):=by rw[h]
theorem wN{a b:Bool}(h:a=b):Ending.returned (.bool a)=.returned (.bool b):=by rw[h]
theorem dW(w:World)(v:Value)(t:TypeId):(w.alloc (.cells #[v] t)).cell? ⟨w.heap.size,0,none⟩=some v:=by
 rw[cell_of_row _ _ 0 _ t (0,0) (heap_alloc_new w _)];rfl
theorem aCW{P:Program}(w:World)(base:Nat)(t ty e:TypeId)(i:TypeInfo)(size:Nat)(ht:P.underlying t=some (.slice e))(hi:P.info? e=some i)
  (v:Value) (n:Nat) (xs:List Value) (hown:w.ownsRow base e size v n xs) (c:Nat):(Builtin.append_ #[t,t] ty #[v,.slice none 0 c]).run P w=.ok v w:=by
 rcases hown.2 with⟨rfl,rfl⟩|⟨g,cap,cur,rfl,_,_,hnc,_⟩
 ·simp[Builtin.append_,run_underlying ht,sizeOf,typeInfo,hi,Builtin.lenOf,Builtin.firstCells]
 ·simp[Builtin.append_,run_underlying ht,sizeOf,typeInfo,hi,Builtin.lenOf,Builtin.firstCells,hnc,storeCells]
theorem aJ8{P:Program}{κ:IntKind}{w:World}(base:Nat)(t ty e:TypeId)(i:TypeInfo)(z:Value)(bytes:Nat)(ht:P.underlying t=some (.slice e))(hi:P.info? e=some i)(hz:i.zero=some z)(hsize:i.size=1)(hby:i.bytes=bytes)(hzs:z.cells.size=1)(v:Value)(n:Nat)(xs:List Nat)(hown:w.ownsRow base e 1 v n (nums κ xs))(B:Nat)(A:Option Addr)(m c:Nat)(ds:List Nat)(hm:ds.length=m)(hr:Rd κ w B A ds)(h63:n+m≤maxLen)(hbytes:(n+m)*bytes≤140737488355328)(hbase:base≤w.heap.size):∃v' w',(Builtin.append_ #[t,t] ty #[v,.slice A m c]).run P w=.ok v' w'∧w'.ownsRow base e 1 v' (n+m) (nums κ (xs++ds))∧w.grownBy w' v.ownBlock∧
   (v'.ownBlock=v.ownBlock∨v'.ownBlock=some w.heap.size):=by
 subst hm;rcases Nat.eq_zero_or_pos ds.length with h0|h0
 ·have hn:ds=[]:=List.eq_nil_of_length_eq_zero h0;subst hn;rcases A with _|ad
  ·exact⟨v,w,aCW w base t ty e i 1 ht hi v n _ hown c,by simpa using hown,World.grownBy.refl w _,.inl rfl⟩
  ·obtain⟨v',w',hrun,h2,h3,_,h5⟩:=run_append_own_at (P:=P) w base t ty e i z 1 bytes ht hi hz hsize hby hzs (by decide) v n _ hown ad 0 c [] rfl (by simp) (by simp) h63 hbytes hbase;exact⟨v',w',hrun,by simpa using h2,h3,h5⟩
 ·obtain⟨ad,rfl,_,hc,-⟩:=hr h0
  obtain⟨v',w',hrun,h2,h3,_,h5⟩:=run_append_own_at (P:=P) w base t ty e i z 1 bytes ht hi hz hsize hby hzs (by decide) v n _ hown ad ds.length c (nums κ ds) (by simp[nums])
   (by intro j u hu
       rw[wH]at hu;obtain⟨d,hd,rfl⟩:=Option.map_eq_some_iff.1 hu;exact hc j d hd)
   (by intro u hu
       simp only[nums,List.mem_map]at hu;obtain⟨d,_,rfl⟩:=hu;rfl) h63 hbytes hbase
  exact⟨v',w',hrun,by simpa [nums] using h2,h3,h5⟩
theorem aEI{P:Program}{κ:IntKind}{w:World}{ops:Array Oper}{rest:List Oper}{o:Oper}{a:Act}{Q:Exit→Act→World→Prop}(hg:o.guard=none)(s x:Operand)(t:TypeId)(hop:o.op=Op.call {callee:=Callee.builtin Builtin.append,args:=#[s,x],argTypes:=#[t,t]})
  (base:Nat) (e:TypeId) (i:TypeInfo) (z:Value) (bytes:Nat) (ht:P.underlying t=some (.slice e)) (hi:P.info? e=some i) (hz:i.zero=some z)
  (hsize:i.size=1) (hby:i.bytes=bytes) (hzs:z.cells.size=1)
  (v:Value) (n:Nat) (xs:List Nat) (hs:a.eval s=v) (hown:w.ownsRow base e 1 v n (nums κ xs))
  (B:Nat) (A:Option Addr) (m c:Nat) (ds:List Nat) (hx:a.eval x=.slice A m c) (hm:ds.length=m) (hr:Rd κ w B A ds)
  (h63:n+m≤maxLen) (hbytes:(n+m)*bytes≤140737488355328) (hbase:base≤w.heap.size)
  (hK:∀v' w',w'.ownsRow base e 1 v' (n+m) (nums κ (xs++ds))→w.grownBy w' v.ownBlock→(v'.ownBlock=v.ownBlock∨v'.ownBlock=some w.heap.size)→wpList P ops Q rest (a.put o.dst v') w'):
  wpList P ops Q (o::rest) a w:=by
 refine wpList_plain hg fun K hK'=>?_;obtain⟨v',w',hrun,r1,r2,r3⟩:=aJ8 (P:=P) base t o.type e i z bytes ht hi hz hsize hby hzs v n xs hown B A m c ds hm hr h63 hbytes hbase;unfold Oper.wp;simp[execOp,hop,resolve,invoke,builtin,hs,hx,hrun,Result.andThen];exact hK' _ _ (hK v' w' r1 r2 r3)
theorem aJ9{κ:IntKind}{w:World}{base:Nat}{e:TypeId}{v:Value}{n:Nat}{ds:List Nat}(h:w.ownsRow base e 1 v n (nums κ ds))(hn:0<n)(he:e=aEg κ:=by rfl):
  ∃g cap,v=.slice (some ⟨g,0,none⟩) n cap∧base≤g∧g<w.heap.size∧n≤cap∧cap≤maxLen∧ds.length=n∧Rd κ w w.heap.size (some ⟨g,0,none⟩) ds:=by
 rcases h.2 with⟨_,rfl⟩|⟨g,cap,cur,rfl,hb,hh,hnc,hcm,hcs,htake⟩
 ·omega
 ·have hlt:g<w.heap.size:=by
   rcases Nat.lt_or_ge g w.heap.size with hlt|hge
   ·exact hlt
   ·rw[Array.getElem?_eq_none hge]at hh;cases hh
  refine⟨g,cap,rfl,hb,hlt,hnc,hcm,by have:=h.1;simpa [nums] using this,fun _=>⟨_,rfl,hlt,fun j d hd=>?_,_,_,by rw[←he];exact hh⟩⟩;have:=h.cells (g:=g) rfl j (.int κ (d:Int)) (by rw[wH,hd];rfl);exact this
theorem Q.grown{a w w':World}{row:Option Nat}(h:Q a w)(hg:w.grownBy w' row)(hr:∀k,row=some k→a.heap.size≤k):Q a w':=Below.grown h hg (Below.size h) hr
section
variable {a b c w w':World} {g:Nat}
theorem Gr.refl(w:World)(g:Nat):w.grownBy w (some g):=World.grownBy.refl w _
theorem Gr.trans(h:a.grownBy b (some g))(k:b.grownBy c (some g)):a.grownBy c (some g):=World.grownBy.trans h k
theorem Gr.q(h:a.grownBy b (some g))(k:Q b c):a.grownBy c (some g):=
 ⟨k.os.trans h.os,k.tape.trans h.tape,k.output.trans h.output,Nat.le_trans h.size k.size,fun i hi hn=>(k.block i (Nat.lt_of_lt_of_le hi h.size)).trans (h.block i hi hn)⟩
theorem Gr.drewN(h:a.grownBy b (some g))(n:Nat):a.grownBy (b.drewN n) (some g):=⟨h.os,h.tape,h.output,h.size,h.block⟩
theorem Gr.drew(h:a.grownBy b (some g)):a.grownBy b.drew (some g):=⟨h.os,h.tape,h.output,h.size,h.block⟩
theorem Gr.alloc(h:a.grownBy b (some g))(o:Obj):a.grownBy (b.alloc o) (some g):=Gr.q h ((Q.refl _).alloc o)
theorem Gr.setCell(h:a.grownBy b (some g))(o:Nat)(u:Value):a.grownBy (b.setCell ⟨g,o,none⟩ u) (some g):=
 ⟨h.os,h.tape,h.output,by simpa [World.setCell] using h.size,fun i hi hn=>(Below.heap_setCell b _ u i (fun e=>hn (by rw[e]))).trans (h.block i hi hn)⟩
theorem Gr.cell(h:a.grownBy b (some g)){p:Addr}(hp:p.block<a.heap.size)(hg:p.block≠g):b.cell? p=a.cell? p:=
 World.cell?_of_block (h.block _ hp (fun e=>hg (by injection e)))
theorem Gr.frozen(h:a.grownBy b (some g)){p:Addr}(hp:p.block<a.heap.size)(hg:p.block≠g):b.frozen? p=a.frozen? p:=
 World.frozen?_of_block (h.block _ hp (fun e=>hg (by injection e)))
theorem Gr.heap(h:a.grownBy b (some g)){i:Nat}(hp:i<a.heap.size)(hg:i≠g):b.heap[i]? =a.heap[i]? :=h.block _ hp (fun e=>hg (by injection e))
theorem Q.gr(h:Q a b)(k:b.grownBy c (some g))(hg:a.heap.size≤g):Q a c:=Q.grown h k (fun i e=>by injection e with e;omega)
end
def Src(w:World)(g off:Nat)(A:Option Addr)(xs:List Nat):Prop:=
 0<xs.length→∃b o,A=some ⟨b,o,none⟩∧b<w.heap.size∧(b≠g∨b=g∧o=off)∧∀(j d:Nat),xs[j]? =some d→w.cell? ⟨b,o+j,none⟩=some (.int .u64 (d:Int))
structure Part (w w':World) (g t off k:Nat) (cs o:List Nat):Prop where
 blk:Blk .u64 w' g t (cs.take off++o++cs.drop (off+k))
 gr:w.grownBy w' (some g)
theorem Src.at_{w w':World}{g t off k n:Nat}{A:Option Addr}{xs cs o:List Nat}(h:Src w g off A xs)(hb:Blk .u64 w g t cs)(hp:Part w w' g t off k cs o)(ho:o.length=k)(hn:off+n≤cs.length)(hx:xs.length=n)(hk:k<n):
  ∃b q,A=some ⟨b,q,none⟩∧w'.cell? ⟨b,q+k,none⟩=some (.int .u64 ((xs[k]'(by omega):Nat):Int)):=by
 obtain⟨b,q,rfl,hlt,hcase,hc⟩:=h (by omega);refine⟨b,q,rfl,?_⟩;have h0:=hc k _ (List.getElem?_eq_getElem (by omega));rcases hcase with hne|⟨rfl,rfl⟩
 ·rw[Gr.cell hp.gr (p:=⟨b,q+k,none⟩) hlt hne];exact h0
 ·rw[←h0,cell_of_row w' b (q+k) _ t (0,0) hp.blk,cell_of_row w b (q+k) _ t (0,0) hb];simp only[nums,List.getElem?_toArray,List.getElem?_map];rw[qY ho (by omega) (by omega)]
theorem Src.nil{w:World}{g off:Nat}{A:Option Addr}:Src w g off A []:=fun h=>absurd h (by simp)
end Me
end Go.Proofs.YtamnpcdkcdfgaaaGreatDoor
