/- FilterFamilies holds. No condition. -/
import Derived.Test.YtohcfjmkfflkpaaGreatDoorQf07
namespace Go.Proofs.YtohcfjmkfflkpaaGreatDoor
namespace E
open Go Go.RowKit
open Ma Me K
section
variable (F:Cf)
def Xop(o:Op)(e:Env)(h:H)(Q:AV→H→Prop):Prop:=∃v h',(∃m0,∀m,m0≤m→op1 F (bQ F (exec F m)) o e h=some (v,h'))∧Q v h'
def Xr(nt:Nat)(ops l:List Oper)(e:Env)(h:H)(Q:Env→H→Prop):Prop:=∃e' h',(∃m0,∀m,m0≤m→nH F nt (bQ F (exec F m)) ops l e h=some ⟨.n,e',h'⟩)∧Q e' h'
def Xb(nt:Nat)(ops:List Oper)(B:List (Nat × List Nat))(e:Env)(h:H)(Q:Env→H→Prop):Prop:=∃e' h',(∃m0,∀m,m0≤m→aBp F nt (bQ F (exec F m)) ops B e h=some ⟨.n,e',h'⟩)∧Q e' h'
def Xa(nt:Nat)(ops:List Oper)(b:Nat)(B:List (Nat × List Nat))(l:List Nat)(e:Env)(h:H)(Q:Env→H→Prop):Prop:=∃e' h',(∃m0,∀m,m0≤m→zA F nt (bQ F (exec F m)) ops b (aBp F nt (bQ F (exec F m)) ops B) l e h=some ⟨.n,e',h'⟩)∧Q e' h'
def Xw(nt fn:Nat)(c:Code)(e:Env)(h:H)(Q:Ex→Env→H→Prop):Prop:=∃x e' h',(∃m0,∀m,m0≤m→exec F m false nt fn c e h=some ⟨x,e',h'⟩)∧Q x e' h'
def Xc(fn:Nat)(args:List AV)(h:H)(Q:AV→H→Prop):Prop:=∃v h',(∃m0,∀m,m0≤m→fU F (exec F m) fn args h=some (v,h'))∧Q v h'
end
section
variable {F:Cf} {nt fn:Nat} {e:Env} {h:H}
theorem Xop.mono{o:Op}{Q R:AV→H→Prop}(x:Xop F o e h Q)(k:∀v h,Q v h→R v h):Xop F o e h R:=let ⟨v,h',a,b⟩:=x;⟨v,h',a,k v h' b⟩
theorem Xc.mono{args:List AV}{Q R:AV→H→Prop}(x:Xc F fn args h Q)(k:∀v h,Q v h→R v h):Xc F fn args h R:=let ⟨v,h',a,b⟩:=x;⟨v,h',a,k v h' b⟩
theorem Xw.mono{c:Code}{Q R:Ex→Env→H→Prop}(x:Xw F nt fn c e h Q)(k:∀x e h,Q x e h→R x e h):Xw F nt fn c e h R:=let ⟨y,e',h',a,b⟩:=x;⟨y,e',h',a,k y e' h' b⟩
theorem Xop.now{o:Op}{v:AV}{h':H}{Q:AV→H→Prop}(hx:∀call,op1 F call o e h=some (v,h'))(k:Q v h'):Xop F o e h Q:=⟨v,h',⟨0,fun _ _=>hx _⟩,k⟩
theorem aKx{Q:Ex→Env→H→Prop}(k:Q .n e h):Xw F nt fn .skip e h Q:=⟨_,_,_,⟨1,fun m hm=>by cases m with|zero=>omega|succ m=>rfl⟩,k⟩
theorem aKy{id:Nat}{Q:Ex→Env→H→Prop}(k:Q (.x id) e h):Xw F nt fn (.exit id) e h Q:=⟨_,_,_,⟨1,fun m hm=>by cases m with|zero=>omega|succ m=>rfl⟩,k⟩
theorem aNS{Q:Ex→Env→H→Prop}(k:Q .r e h):Xw F nt fn .ret e h Q:=⟨_,_,_,⟨1,fun m hm=>by cases m with|zero=>omega|succ m=>rfl⟩,k⟩
def sqn(x:Ex)(P q:Prop):Prop:=match x with| .n=>P|_=>q
theorem aNT{a b:Code}{Q:Ex→Env→H→Prop}(k:Xw F nt fn a e h fun x e h=>sqn x (Xw F nt fn b e h Q) (Q x e h)):Xw F nt fn (.seq a b) e h Q:=by
 obtain⟨x,e1,h1,⟨m0,k1⟩,k2⟩:=k;cases x with
 |n=>
  obtain⟨y,e2,h2,⟨m1,k3⟩,k4⟩:=(show Xw F nt fn b e1 h1 Q from k2)
  refine⟨y,e2,h2,⟨m0+m1+1,fun m hm=>?_⟩,k4⟩;cases m with
  |zero=>omega
  |succ m=>
   show ob (exec F m false nt fn a e h) (nY (exec F m) false nt fn b)=_;rw[k1 m (by omega)];exact k3 m (by omega)
 |x id=>
  refine⟨_,e1,h1,⟨m0+1,fun m hm=>?_⟩,k2⟩;cases m with
  |zero=>omega
  |succ m=>
   show ob (exec F m false nt fn a e h) (nY (exec F m) false nt fn b)=_;rw[k1 m (by omega)];rfl
 |r=>
  refine⟨_,e1,h1,⟨m0+1,fun m hm=>?_⟩,k2⟩;cases m with
  |zero=>omega
  |succ m=>
   show ob (exec F m false nt fn a e h) (nY (exec F m) false nt fn b)=_;rw[k1 m (by omega)];rfl
theorem aFc{id:Nat}{ops:Array Oper}{Q:Ex→Env→H→Prop}(k:Xr F nt ops.toList ops.toList e h (Q .n)):Xw F nt fn (.region id ops false) e h Q:=by
 obtain⟨e1,h1,⟨m0,k1⟩,k2⟩:=k;refine⟨.n,e1,h1,⟨m0+1,fun m hm=>?_⟩,k2⟩;cases m with
 |zero=>omega
 |succ m=>exact k1 m (by omega)
theorem aPn{call:cZ}{ops:Array Oper}{p:List Nat × List (Nat × List Nat)}(hok:lU F ops p=true):uT F nt call ops p e h=zA F nt call ops.toList h.bar (aBp F nt call ops.toList p.2) p.1 e h:=by
 unfold uT;rw[hok,aW];rfl
theorem aPo{id:Nat}{ops:Array Oper}{A:List Nat}{B:List (Nat × List Nat)}{Q:Ex→Env→H→Prop}(hp:F.pl fn id=some (A,B))(hok:lU F ops (A,B)=true)(k:Xa F nt ops.toList h.bar B A e h (Q .n)):Xw F nt fn (.region id ops true) e h Q:=by
 obtain⟨e1,h1,⟨m0,k1⟩,k2⟩:=k;refine⟨.n,e1,h1,⟨m0+1,fun m hm=>?_⟩,k2⟩;cases m with
 |zero=>omega
 |succ m=>
  show ob (F.pl fn id) (fun p=>uT F nt (bQ F (exec F m)) ops p e h)=_;rw[hp];exact (aPn hok).trans (k1 m (by omega))
theorem wB{c:Operand}{a b:Code}{x:Bool}{Q:Ex→Env→H→Prop}(hc:ev e c=some (sc (.b x)))(k1:x=true→Xw F nt fn a e h Q)(k2:x=false→Xw F nt fn b e h Q):Xw F nt fn (.cond c a b) e h Q:=by
 have key:Xw F nt fn (cb x a b) e h Q:=by cases x with|true=>exact k1 rfl|false=>exact k2 rfl
 obtain⟨y,e1,h1,⟨m0,k3⟩,k4⟩:=key;refine⟨y,e1,h1,⟨m0+1,fun m hm=>?_⟩,k4⟩;cases m with
 |zero=>omega
 |succ m=>
  show ob (ev e c) (fun v=>one v (aBT (exec F m) false nt fn a b e h))=_;rw[hc];exact k3 m (by omega)
def bl(id:Nat)(x:Ex)(e:Env)(h:H)(Q:Ex→Env→H→Prop):Prop:=match x with| .x j=>cb (Nat.beq id j) (Q .n e h) (Q (.x j) e h)|x=>Q x e h
theorem aHk{id:Nat}{a:Code}{Q:Ex→Env→H→Prop}(k:Xw F nt fn a e h fun x e h=>bl id x e h Q):Xw F nt fn (.block id a) e h Q:=by
 obtain⟨x,e1,h1,⟨m0,k1⟩,k2⟩:=k;have fin:∀y:R,zC id ⟨x,e1,h1⟩=some y→Q y.x y.e y.h→Xw F nt fn (.block id a) e h Q:=fun y hy hq=>⟨y.x,y.e,y.h,⟨m0+1,fun m hm=>by
  cases m with
  |zero=>omega
  |succ m=>
   show ob (exec F m false nt fn a e h) (zC id)=_;rw[k1 m (by omega)];exact hy⟩,hq⟩
 cases x with
 |n=>exact fin ⟨.n,e1,h1⟩ rfl k2
 |r=>exact fin ⟨.r,e1,h1⟩ rfl k2
 |x j=>
  have k2:cb (Nat.beq id j) (Q .n e1 h1) (Q (.x j) e1 h1):=k2;cases hb:Nat.beq id j with
  |true=>
   rw[hb]at k2;exact fin ⟨.n,e1,h1⟩ (by show cb (Nat.beq id j) _ _=_;rw[hb];rfl) k2
  |false=>
   rw[hb]at k2;exact fin ⟨.x j,e1,h1⟩ (by show cb (Nat.beq id j) _ _=_;rw[hb];rfl) k2
theorem aPp{a:Code}{Q:Ex→Env→H→Prop}(k:Xw F nt fn a e h fun x e h=>sqn x (Xw F nt fn (.loop a) e h Q) (Q x e h)):Xw F nt fn (.loop a) e h Q:=by
 obtain⟨x,e1,h1,⟨m0,k1⟩,k2⟩:=k;cases x with
 |n=>
  obtain⟨y,e2,h2,⟨m1,k3⟩,k4⟩:=(show Xw F nt fn (.loop a) e1 h1 Q from k2)
  refine⟨y,e2,h2,⟨m0+m1+1,fun m hm=>?_⟩,k4⟩;cases m with
  |zero=>omega
  |succ m=>
   show ob (exec F m false nt fn a e h) (nY (exec F m) false nt fn (.loop a))=_;rw[k1 m (by omega)];exact k3 m (by omega)
 |x id=>
  refine⟨_,e1,h1,⟨m0+1,fun m hm=>?_⟩,k2⟩;cases m with
  |zero=>omega
  |succ m=>
   show ob (exec F m false nt fn a e h) (nY (exec F m) false nt fn (.loop a))=_;rw[k1 m (by omega)];rfl
 |r=>
  refine⟨_,e1,h1,⟨m0+1,fun m hm=>?_⟩,k2⟩;cases m with
  |zero=>omega
  |succ m=>
   show ob (exec F m false nt fn a e h) (nY (exec F m) false nt fn (.loop a))=_;rw[k1 m (by omega)];rfl
theorem aKz{a:Code}{Q:Ex→Env→H→Prop}(I:Nat→Env→H→Prop)(k:∀n e h,I n e h→Xw F nt fn a e h fun x e h=>sqn x (∃m,m<n∧I m e h) (Q x e h)):∀n e h,I n e h→Xw F nt fn (.loop a) e h Q:=by
 intro n
 induction n using Nat.strongRecOn with
 |ind n ih=>
  intro e h hI;refine aPp ((k n e h hI).mono fun x e h hx=>?_);cases x with
  |n=>obtain⟨m,h1,h2⟩:=hx;exact ih m h1 e h h2
  |x id=>exact hx
  |r=>exact hx
def Pk(d:Nat)(v:AV)(e:Env)(h:H)(C:Env→H→Prop):Prop:=C (T.set v e d) h
variable {ops l:List Oper} {o:Oper} {d:Nat} {Q:Env→H→Prop}
theorem aKA(k:Q e h):Xr F nt ops [] e h Q:=⟨e,h,⟨0,fun _ _=>rfl⟩,k⟩
theorem oD{v:AV}{k:Env→Option R}(hn:Nat.blt d nt=true):put nt e (some d) v k=k (T.set v e d):=by
 show cb (Nat.blt d nt) _ none=_;rw[hn];rfl
theorem mV{call:cZ}{rest:Env→H→Option R}{v:AV}{h1:H}(hw:wanted ops e o.guard=some true)(hx:op1 F call o.op e h=some (v,h1)):nW F nt call ops rest o e h=put nt e o.dst v fun e=>rest e h1:=by
 unfold nW;rw[hw,hx];rfl
theorem aBs{call:cZ}{rest:Env→H→Option R}(hw:wanted ops e o.guard=some false):nW F nt call ops rest o e h=put nt e o.dst un fun e=>rest e h:=by
 unfold nW;rw[hw];rfl
theorem aHl(hw:wanted ops e o.guard=some true)(hd:o.dst=some d)(hn:Nat.blt d nt=true)(k:Xop F o.op e h fun v h=>Pk d v e h fun e h=>Xr F nt ops l e h Q):Xr F nt ops (o::l) e h Q:=by
 obtain⟨v,h1,⟨m0,k1⟩,e2,h2,⟨m1,k2⟩,k3⟩:=k;refine⟨e2,h2,⟨m0+m1,fun m hm=>?_⟩,k3⟩;refine (mV hw (k1 m (by omega))).trans ?_;rw[hd,oD hn];exact k2 m (by omega)
theorem aFd(hg:o.guard=none)(hd:o.dst=none)(k:Xop F o.op e h fun _ h=>Xr F nt ops l e h Q):Xr F nt ops (o::l) e h Q:=by
 obtain⟨v,h1,⟨m0,k1⟩,e2,h2,⟨m1,k2⟩,k3⟩:=k;refine⟨e2,h2,⟨m0+m1,fun m hm=>?_⟩,k3⟩;refine (mV (by rw[hg];rfl) (k1 m (by omega))).trans ?_;rw[hd];exact k2 m (by omega)
theorem aKB(hw:wanted ops e o.guard=some false)(hd:o.dst=some d)(hn:Nat.blt d nt=true)(k:Pk d un e h fun e h=>Xr F nt ops l e h Q):Xr F nt ops (o::l) e h Q:=by
 obtain⟨e2,h2,⟨m1,k2⟩,k3⟩:=k;refine⟨e2,h2,⟨m1,fun m hm=>?_⟩,k3⟩;refine (aBs hw).trans ?_;rw[hd,oD hn];exact k2 m (by omega)
variable {b i:Nat} {A late:List Nat} {B:List (Nat × List Nat)}
theorem rH{α:Type}{f:Oper→Option α}(ho:(drp i ops).head? =some o):ob (drp i ops).head? f=f o:=by rw[ho];rfl
theorem aKC{h:H}(k:Xb F nt ops B e (h.back b) Q):Xa F nt ops b B [] e h Q:=k
theorem aKD(k:Q e h):Xb F nt ops [] e h Q:=⟨e,h,⟨0,fun _ _=>rfl⟩,k⟩
theorem aHm(ho:(drp i ops).head? =some o)(hw:wanted ops e o.guard=some true)(hd:o.dst=some d)(hn:Nat.blt d nt=true)(k:Xop F o.op e h.lift fun v h=>Pk d v e h fun e h=>Xa F nt ops b B A e h Q):Xa F nt ops b B (i::A) e h Q:=by
 obtain⟨v,h1,⟨m0,k1⟩,e2,h2,⟨m1,k2⟩,k3⟩:=k;refine⟨e2,h2,⟨m0+m1,fun m hm=>?_⟩,k3⟩;refine (rH ho).trans ?_;refine (mV hw (k1 m (by omega))).trans ?_;rw[hd,oD hn];exact k2 m (by omega)
theorem aFe(ho:(drp i ops).head? =some o)(hg:o.guard=none)(hd:o.dst=none)(k:Xop F o.op e h.lift fun _ h=>Xa F nt ops b B A e h Q):Xa F nt ops b B (i::A) e h Q:=by
 obtain⟨v,h1,⟨m0,k1⟩,e2,h2,⟨m1,k2⟩,k3⟩:=k;refine⟨e2,h2,⟨m0+m1,fun m hm=>?_⟩,k3⟩;refine (rH ho).trans ?_;refine (mV (by rw[hg];rfl) (k1 m (by omega))).trans ?_;rw[hd];exact k2 m (by omega)
theorem aKE(ho:(drp i ops).head? =some o)(hw:wanted ops e o.guard=some false)(hd:o.dst=some d)(hn:Nat.blt d nt=true)(k:Pk d un e h.lift fun e h=>Xa F nt ops b B A e h Q):Xa F nt ops b B (i::A) e h Q:=by
 obtain⟨e2,h2,⟨m1,k2⟩,k3⟩:=k;refine⟨e2,h2,⟨m1,fun m hm=>?_⟩,k3⟩;refine (rH ho).trans ?_;refine (aBs hw).trans ?_;rw[hd,oD hn];exact k2 m (by omega)
def Ag(F:Cf)(ops:List Oper)(l:List Nat)(e:Env)(h:H):Prop:=∀k:Option R,again F ops e h k l=k
theorem aB8:Ag F ops [] e h:=fun _=>rfl
theorem aBt{o:Oper}{l:List Nat}(ho:(drp i ops).head? =some o)(hm:mkO F o.op=.p)(k:Ag F ops l e h):Ag F ops (i::l) e h:=fun x=>by
 show ob (drp i ops).head? (fun o=>match mkO F o.op with| .p=>again F ops e h x l| .l=>_| .n=>_|_=>none)=x;rw[ho];show (match mkO F o.op with| .p=>again F ops e h x l| .l=>_| .n=>_|_=>none)=x;rw[hm];exact k x
theorem aRu{o:Oper}{l:List Nat}{v:AV}{h2:H}(ho:(drp i ops).head? =some o)(hm:mkO F o.op=.l)(hg:o.guard=none)(hd:o.dst=some d)(hv:e.get d=some v)(hr:op1 F (fun _ _ _=>none) o.op e h=some (v,h2))(ha:avb v v=true)(k:Ag F ops l e h):Ag F ops (i::l) e h:=fun x=>by
 show ob (drp i ops).head? (fun o=>match mkO F o.op with| .p=>again F ops e h x l| .l=>ob o.dst fun d=>ob (e.get d) fun v=>ob (op1 F (fun _ _ _=>none) o.op e h) fun u=>cb (isN o.guard) (cb (avb v u.1) (again F ops e h x l) none) none| .n=>ob o.dst fun d=>ob (e.get d) fun v=>ob (op1 F (fun _ _ _=>none) o.op e h) fun u=>cb (isN o.guard) (cb (kX h v u) (again F ops e h x l) none) none|_=>none)=x;rw[ho];show (match mkO F o.op with| .p=>again F ops e h x l| .l=>ob o.dst fun d=>ob (e.get d) fun v=>ob (op1 F (fun _ _ _=>none) o.op e h) fun u=>cb (isN o.guard) (cb (avb v u.1) (again F ops e h x l) none) none| .n=>ob o.dst fun d=>ob (e.get d) fun v=>ob (op1 F (fun _ _ _=>none) o.op e h) fun u=>cb (isN o.guard) (cb (kX h v u) (again F ops e h x l) none) none|_=>none)=x;rw[hm];show (ob o.dst fun d=>ob (e.get d) fun v=>ob (op1 F (fun _ _ _=>none) o.op e h) fun u=>cb (isN o.guard) (cb (avb v u.1) (again F ops e h x l) none) none)=x;rw[hd];show (ob (e.get d) fun v=>ob (op1 F (fun _ _ _=>none) o.op e h) fun u=>cb (isN o.guard) (cb (avb v u.1) (again F ops e h x l) none) none)=x;rw[hv];show (ob (op1 F (fun _ _ _=>none) o.op e h) fun u=>cb (isN o.guard) (cb (avb v u.1) (again F ops e h x l) none) none)=x;rw[hr,hg];show cb (avb v v) (again F ops e h x l) none=x;rw[ha];exact k x
theorem aUu{o:Oper}{l:List Nat}{v:AV}{u:AV × H}(ho:(drp i ops).head? =some o)(hm:mkO F o.op=.n)(hg:o.guard=none)(hd:o.dst=some d)(hv:e.get d=some v)(hr:op1 F (fun _ _ _=>none) o.op e h=some u)(ha:kX h v u=true)(k:Ag F ops l e h):Ag F ops (i::l) e h:=fun x=>by
 have e1:again F ops e h x (i::l)=ob (drp i ops).head? (fun o=>match mkO F o.op with| .p=>again F ops e h x l| .l=>ob o.dst fun d=>ob (e.get d) fun v=>ob (op1 F (fun _ _ _=>none) o.op e h) fun u=>cb (isN o.guard) (cb (avb v u.1) (again F ops e h x l) none) none| .n=>ob o.dst fun d=>ob (e.get d) fun v=>ob (op1 F (fun _ _ _=>none) o.op e h) fun u=>cb (isN o.guard) (cb (kX h v u) (again F ops e h x l) none) none|_=>none):=rfl;rw[e1,ho];show (match mkO F o.op with| .p=>again F ops e h x l| .l=>ob o.dst fun d=>ob (e.get d) fun v=>ob (op1 F (fun _ _ _=>none) o.op e h) fun u=>cb (isN o.guard) (cb (avb v u.1) (again F ops e h x l) none) none| .n=>ob o.dst fun d=>ob (e.get d) fun v=>ob (op1 F (fun _ _ _=>none) o.op e h) fun u=>cb (isN o.guard) (cb (kX h v u) (again F ops e h x l) none) none|_=>none)=x;rw[hm];show (ob o.dst fun d=>ob (e.get d) fun v=>ob (op1 F (fun _ _ _=>none) o.op e h) fun u=>cb (isN o.guard) (cb (kX h v u) (again F ops e h x l) none) none)=x;rw[hd];show (ob (e.get d) fun v=>ob (op1 F (fun _ _ _=>none) o.op e h) fun u=>cb (isN o.guard) (cb (kX h v u) (again F ops e h x l) none) none)=x;rw[hv,hr,hg];show cb (kX h v u) (again F ops e h x l) none=x;rw[ha];exact k x
theorem aAK(ho:(drp i ops).head? =some o)(hw:wanted ops e o.guard=some true)(hd:o.dst=some d)(hn:Nat.blt d nt=true)(k:Xop F o.op e h fun v h=>Pk d v e h fun e h=>Ag F ops late e h∧Xb F nt ops B e h Q):Xb F nt ops ((i,late)::B) e h Q:=by
 obtain⟨v,h1,⟨m0,k1⟩,ka,e2,h2,⟨m1,k2⟩,k3⟩:=k;refine⟨e2,h2,⟨m0+m1,fun m hm=>?_⟩,k3⟩;refine (rH ho).trans ?_;refine (mV hw (k1 m (by omega))).trans ?_;rw[hd,oD hn];exact (ka _).trans (k2 m (by omega))
theorem xJ(ho:(drp i ops).head? =some o)(hg:o.guard=none)(hd:o.dst=none)(k:Xop F o.op e h fun _ h=>Ag F ops late e h∧Xb F nt ops B e h Q):Xb F nt ops ((i,late)::B) e h Q:=by
 obtain⟨v,h1,⟨m0,k1⟩,ka,e2,h2,⟨m1,k2⟩,k3⟩:=k;refine⟨e2,h2,⟨m0+m1,fun m hm=>?_⟩,k3⟩;refine (rH ho).trans ?_;refine (mV (by rw[hg];rfl) (k1 m (by omega))).trans ?_;rw[hd];exact (ka _).trans (k2 m (by omega))
end
end E
namespace E
open Go
open Ma Me
def bC(x:Rat):List SV:=[.b (decide (x.num<0)),.m x.num.natAbs,.m (bt x.den)]
end E
namespace E
open Go Go.RowKit
open Ma Me K
def aRv:List Rat→List SV
 | []=>[]
 |x::l=>bC x++aRv l
noncomputable def lk (s:List (Nat × AV)) (k:Nat):Option AV:=List.rec (motive:=fun _=>Option AV) none (fun p _ r=>Prod.rec (motive:=fun _=>Option AV) (fun a b=>cb (Nat.beq a k) (some b) r) p) s
def Kn(e:Env)(s:List (Nat × AV)):Prop:=∀k v,lk s k=some v→e.get k=some v
theorem Kn.set{e:Env}{s:List (Nat × AV)}(h:Kn e s)(d:Nat)(v:AV):Kn (T.set v e d) ((d,v)::s):=fun k u hk=>by
 have hk:cb (Nat.beq d k) (some v) (lk s k)=some u:=hk;cases hb:Nat.beq d k with
 |true=>
  rw[hb]at hk;injection hk with hk;rw[←aM.1 hb,T.get_same,hk]
 |false=>
  rw[hb]at hk;rcases T.get_upd (x:=v) (t:=e) (k:=d) (j:=k) with h1|⟨h1,-⟩
  ·rw[h1];exact h k u hk
  ·exact absurd h1.symm (uA.1 hb)
noncomputable def evs (s:List (Nat × AV)) (x:Operand):Option AV:=Operand.rec (motive:=fun _=>Option AV) (fun t=>lk s t) ofV (fun _=>none) (fun f=>some (sc (.f f []))) x
theorem aZ{e:Env}{s:List (Nat × AV)}{x:Operand}{v:AV}(h:Kn e s)(hx:evs s x=some v):ev e x=some v:=by
 cases x with
 |tmp t=>exact h t v hx
 |const k=>exact hx
 |global g=>cases hx
 |func f=>exact hx
noncomputable def kR (s:List (Nat × AV)) (l:List Operand):Option (List AV):=List.rec (motive:=fun _=>Option (List AV)) (some []) (fun x _ r=>ob (evs s x) fun v=>ob r fun r=>some (v::r)) l
theorem rJ{e:Env}{s:List (Nat × AV)}(h:Kn e s):∀{l:List Operand} {v:List AV},kR s l=some v→evL e l=some v
 | [],v,hx=>hx
 |x::l,v,hx=>by
  obtain⟨u,h1,h2⟩:=aA.1 (show ob (evs s x) (fun v=>ob (kR s l) fun r=>some (v::r))=some v from hx);obtain⟨r,h3,h4⟩:=aA.1 h2;show ob (ev e x) (fun v=>ob (evL e l) fun r=>some (v::r))=some v;rw[aZ h h1,rJ h h3];exact h4
def aN:Nat:=41
def Own(h0 h:H)(ws:List (Nat × B)):Prop:=(∀p∈ws,h0.n≤p.1∧p.1<h.n∧h.h.get p.1=some p.2)∧ws.Pairwise fun p q=>p.1≠q.1
def IsL(ws:List (Nat × B))(h:H)(v:AV)(xs:List Rat):Prop:=(v=sc .ns∧xs=[])∨∃id cap c,v=sc (.sl id 0 xs.length cap)∧(∀m,cap=some m→xs.length≤m)∧h.h.get id=some ⟨aN,c⟩∧aRv xs<+:c∧id<h.n∧∀p∈ws,p.1≠id
def IsP(ws:List (Nat × B))(h:H)(v:AV)(x:Rat):Prop:=∃id off b,v=sc (.p id off)∧h.h.get id=some b∧dG 3 (drp off b.c)=some (bC x)∧id<h.n∧∀p∈ws,p.1≠id
structure St (β:Nat) (h0:H) (e:Env) (s:List (Nat × AV)) (h:H) (ws:List (Nat × B)) (ls:List (AV × List Rat)) (ps:List (AV × Rat)):Prop where
 k:Kn e s
 n:h0.n≤h.n
 bar:h.bar=β
 o:∀k,k<h0.n→h.h.get k=h0.h.get k
 l:h.l=h0.l
 w:Own h0 h ws
 ls:∀p∈ls,IsL ws h p.1 p.2
 ps:∀p∈ps,IsP ws h p.1 p.2
structure Xh (h h':H):Prop where
 n:h.n≤h'.n
 bar:h'.bar=h.bar
 o:∀k,k<h.n→h'.h.get k=h.h.get k
 l:h'.l=h.l
theorem Xh.refl(h:H):Xh h h:=⟨Nat.le_refl _,rfl,fun _ _=>rfl,rfl⟩
section
variable {F:Cf} {β:Nat} {h0 h h':H} {e:Env} {s:List (Nat × AV)} {ws:List (Nat × B)} {ls:List (AV × List Rat)} {ps:List (AV × Rat)} {v:AV} {xs:List Rat} {x:Rat} {C:Env→H→Prop} {d:Nat}
theorem St.pk(hS:St β h0 e s h ws ls ps)(k:∀e,St β h0 e ((d,v)::s) h ws ls ps→C e h):Pk d v e h C:=k _ ⟨hS.k.set d v,hS.n,hS.bar,hS.o,hS.l,hS.w,hS.ls,hS.ps⟩
theorem St.lift(hS:St β h0 e s h ws ls ps):St h.n h0 e s h.lift ws ls ps:=⟨hS.k,hS.n,rfl,hS.o,hS.l,hS.w,hS.ls,hS.ps⟩
theorem St.back(hS:St β h0 e s h ws ls ps)(b:Nat):St b h0 e s (h.back b) ws ls ps:=⟨hS.k,hS.n,rfl,hS.o,hS.l,hS.w,hS.ls,hS.ps⟩
theorem IsL.xh{ws:List (Nat × B)}(hl:IsL ws h v xs)(x:Xh h h'):IsL ws h' v xs:=by
 rcases hl with hl|⟨id,cap,c,h1,h2,h3,h4,h5,h6⟩
 ·exact .inl hl
 ·exact .inr ⟨id,cap,c,h1,h2,(x.o id h5).trans h3,h4,Nat.lt_of_lt_of_le h5 x.n,h6⟩
theorem IsP.xh{ws:List (Nat × B)}(hl:IsP ws h v x)(y:Xh h h'):IsP ws h' v x:=by
 obtain⟨id,off,b,h1,h3,h4,h5,h6⟩:=hl;exact⟨id,off,b,h1,(y.o id h5).trans h3,h4,Nat.lt_of_lt_of_le h5 y.n,h6⟩
theorem St.xh(hS:St β h0 e s h ws ls ps)(x:Xh h h'):St β h0 e s h' ws ls ps:=
 ⟨hS.k,Nat.le_trans hS.n x.n,x.bar.trans hS.bar,fun k q=>(x.o k (Nat.lt_of_lt_of_le q hS.n)).trans (hS.o k q),x.l.trans hS.l,
  ⟨fun p hp=>let ⟨h1,h2,h3⟩:=hS.w.1 p hp;⟨h1,Nat.lt_of_lt_of_le h2 x.n,(x.o _ h2).trans h3⟩,hS.w.2⟩,fun p hp=>(hS.ls p hp).xh x,fun p hp=>(hS.ps p hp).xh x⟩
theorem St.out(hS:St h0.bar h0 e s h ws ls ps):Xh h0 h:=⟨hS.n,hS.bar,hS.o,hS.l⟩
theorem St.new(hS:St β h0 e s h ws ls ps)(b:B):St β h0 e s ⟨h.h.set b h.n,Nat.succ h.n,h.bar,h.l⟩ ((h.n,b)::ws) ls ps:=by
 have key:∀k,k<h.n→(T.set b h.h h.n).get k=h.h.get k:=fun k q=>by
  rcases T.get_upd (x:=b) (t:=h.h) (k:=h.n) (j:=k) with h1|⟨h1,-⟩
  ·exact h1
  ·omega
 refine⟨hS.k,Nat.le_succ_of_le hS.n,hS.bar,fun k q=>(key k (Nat.lt_of_lt_of_le q hS.n)).trans (hS.o k q),hS.l,⟨fun p hp=>?_,List.pairwise_cons.2 ⟨fun p hp q=>?_,hS.w.2⟩⟩,fun p hp=>?_,fun p hp=>?_⟩
 ·rcases List.mem_cons.1 hp with rfl|hp
  ·exact⟨hS.n,Nat.lt_succ_self _,T.get_same⟩
  ·obtain⟨h1,h2,h3⟩:=hS.w.1 p hp;exact⟨h1,Nat.lt_succ_of_lt h2,(key _ h2).trans h3⟩
 ·have q:h.n=p.1:=q;have:=(hS.w.1 p hp).2.1;omega
 ·rcases hS.ls p hp with hl|⟨id,cap,c,h1,h2,h3,h4,h5,h6⟩
  ·exact .inl hl
  ·refine .inr ⟨id,cap,c,h1,h2,(key id h5).trans h3,h4,Nat.lt_succ_of_lt h5,fun p hp q=>?_⟩;rcases List.mem_cons.1 hp with rfl|hp
   ·have q:h.n=id:=q;omega
   ·exact h6 p hp q
 ·obtain⟨id,off,b2,h1,h3,h4,h5,h6⟩:=hS.ps p hp;refine⟨id,off,b2,h1,(key id h5).trans h3,h4,Nat.lt_succ_of_lt h5,fun p hp q=>?_⟩;rcases List.mem_cons.1 hp with rfl|hp
  ·have q:h.n=id:=q;omega
  ·exact h6 p hp q
theorem St.put(hS:St β h0 e s h ws ls ps){j id:Nat}{b b':B}(hj:ws[j]? =some (id,b)):St β h0 e s (h.put id b') (ws.set j (id,b')) ls ps:=by
 have hm:(id,b)∈ws:=List.mem_of_getElem? hj;obtain⟨w1,w2,w3⟩:=hS.w.1 _ hm;have w1:h0.n≤id:=w1;have w2:id<h.n:=w2;have key:∀k,k≠id→(T.set b' h.h id).get k=h.h.get k:=fun k q=>by
  rcases T.get_upd (x:=b') (t:=h.h) (k:=id) (j:=k) with h1|⟨h1,-⟩
  ·exact h1
  ·exact absurd h1 q
 have hmem:∀p∈ws.set j (id,b'),p.1=id∧p=(id,b')∨∃i,i≠j∧ws[i]? =some p:=fun p hp=>by
  obtain⟨i,hi⟩:=List.getElem?_of_mem hp;rw[List.getElem?_set]at hi;split at hi
  ·split at hi
   ·injection hi with hi;exact .inl ⟨by rw[←hi],hi.symm⟩
   ·cases hi
  ·rename_i hne;exact .inr ⟨i,fun q=>hne q.symm,hi⟩
 have hne:∀i p,i≠j→ws[i]? =some p→p.1≠id:=fun i p hij hi=>by
  have hpw:=List.pairwise_iff_getElem.1 hS.w.2;obtain⟨hi1,hi2⟩:=List.getElem?_eq_some_iff.1 hi;obtain⟨hj1,hj2⟩:=List.getElem?_eq_some_iff.1 hj;rcases Nat.lt_or_gt_of_ne hij with hlt|hgt
  ·have:=hpw i j hi1 hj1 hlt;rw[hi2,hj2]at this;exact this
  ·have:=hpw j i hj1 hi1 hgt;rw[hi2,hj2]at this;exact fun q=>this q.symm
 have hids:∀p∈ws.set j (id,b'),∃q∈ws,q.1=p.1:=fun p hp=>by
  rcases hmem p hp with⟨h1,-⟩|⟨i,-,hi⟩
  ·exact⟨_,hm,h1.symm⟩
  ·exact⟨p,List.mem_of_getElem? hi,rfl⟩
 refine⟨hS.k,hS.n,hS.bar,fun k q=>(key k (by omega)).trans (hS.o k q),hS.l,⟨fun p hp=>?_,?_⟩,fun p hp=>?_,fun p hp=>?_⟩
 ·rcases hmem p hp with⟨-,rfl⟩|⟨i,hij,hi⟩
  ·exact⟨w1,w2,T.get_same⟩
  ·obtain⟨h1,h2,h3⟩:=hS.w.1 p (List.mem_of_getElem? hi);exact⟨h1,h2,(key _ (hne i p hij hi)).trans h3⟩
 ·have e1:(ws.set j (id,b')).map Prod.fst=ws.map Prod.fst:=by
   apply List.ext_getElem?;intro i;rw[List.getElem?_map,List.getElem?_map,List.getElem?_set];split
   ·rename_i hji;subst hji;rw[hj,if_pos (List.getElem?_eq_some_iff.1 hj).1];rfl
   ·rfl
  have h1:=List.pairwise_map.2 (show ws.Pairwise fun p q=>p.1≠q.1 from hS.w.2);rw[show (ws.map fun p:Nat × B=>p.1)=ws.map Prod.fst from rfl,←e1]at h1;exact List.pairwise_map.1 h1
 ·rcases hS.ls p hp with hl|⟨i,cap,c,h1,h2,h3,h4,h5,h6⟩
  ·exact .inl hl
  ·have hi:i≠id:=fun q=>h6 _ hm q.symm;exact .inr ⟨i,cap,c,h1,h2,(key i hi).trans h3,h4,h5,fun p hp=>by obtain⟨q,q1,q2⟩:=hids p hp;exact q2▸h6 q q1⟩
 ·obtain⟨i,off,b2,h1,h3,h4,h5,h6⟩:=hS.ps p hp;have hi:i≠id:=fun q=>h6 _ hm q.symm;exact⟨i,off,b2,h1,(key i hi).trans h3,h4,h5,fun p hp=>by obtain⟨q,q1,q2⟩:=hids p hp;exact q2▸h6 q q1⟩
end
section
variable {F:Cf} {β:Nat} {h0 h h':H} {e:Env} {s:List (Nat × AV)} {ws:List (Nat × B)} {ls:List (AV × List Rat)} {ps:List (AV × Rat)} {v u:AV} {xs:List Rat} {q:Rat} {C:Env→H→Prop} {d t:Nat} {i:TI} {x y:Operand} {Q:AV→H→Prop}
theorem aRw(hS:St β h0 e s h ws ls ps)(hx:evs s x=some v)(k:Q v h):Xop F (.move x) e h Q:=
 .now (fun _=>by show ob (ev e x) (fun v=>some (v,h))=_;rw[aZ hS.k hx];rfl) k
theorem aRx(hS:St β h0 e s h ws ls ps)(hx:evs s x=some v)(k:Q v h):Xop F (.assign x) e h Q:=
 .now (fun _=>by show ob (ev e x) (fun v=>some (v,h))=_;rw[aZ hS.k hx];rfl) k
theorem aNU{op:BinOp}{t2:TypeId}{a c r:SV}(hS:St β h0 e s h ws ls ps)(ht:F.ti t=some i)(hg:i.d.ag=false)(hx:evs s x=some (sc a))(hy:evs s y=some (sc c))(hb:bop i.d op a c=some r)(k:Q (sc r) h):Xop F (.binOp op t x y t2) e h Q:=
 .now (fun _=>by
  show yV F e h op t x y=_;unfold yV;rw[ht,aZ hS.k hx,aZ hS.k hy];show cb i.d.ag _ (ob (bop i.d op a c) fun r=>vh r h)=_;rw[hg,hb];rfl) k
theorem aAL{n:Nat}(h:n<9223372036854775808):mkI .i64 n=some (.i .i64 (.ofNat n)):=by
 unfold mkI;rw[aW,aP.2 (show n<lim .i64 from h)];rfl
theorem lC{n:Int}(h1:-9223372036854775808≤n)(h2:n<9223372036854775808):mkZ .i64 n=some (.i .i64 n):=by
 unfold mkZ;rw[vS];have e:IntKind.i64.wrap n=n:=by rw[IntKind.wrap_i64];omega
 rw[e]
theorem aTm{dd:Dk}{a c:Int}(h1:-9223372036854775808≤a+c)(h2:a+c<9223372036854775808):bop dd .add (.i .i64 a) (.i .i64 c)=some (.i .i64 (a+c)):=by
 show cb (decide (IntKind.i64=IntKind.i64)) (aMc .i64 a c) none=_;rw[show decide (IntKind.i64=IntKind.i64)=true from rfl];show aMc .i64 a c=_;cases a with
 |ofNat a=>
  cases c with
  |ofNat c=>
   have h2:(a:Int)+(c:Int)<9223372036854775808:=h2;exact aAL (n:=Nat.add a c) (by show a+c<_;omega)
  |negSucc c=>exact lC h1 h2
 |negSucc a=>exact lC h1 h2
theorem aTn{dd:Dk}{a c:Int}(h1:-9223372036854775808≤a-c)(h2:a-c<9223372036854775808):bop dd .sub (.i .i64 a) (.i .i64 c)=some (.i .i64 (a-c)):=by
 show cb (decide (IntKind.i64=IntKind.i64)) (aMd .i64 a c) none=_;rw[show decide (IntKind.i64=IntKind.i64)=true from rfl];show aMd .i64 a c=_;cases a with
 |ofNat a=>
  cases c with
  |ofNat c=>
   show cb (Nat.ble c a) (mkI .i64 (Nat.sub a c)) (mkZ .i64 ((a:Int)-(c:Int)))=_;have h2:(a:Int)-(c:Int)<9223372036854775808:=h2;cases hb:Nat.ble c a with
   |true=>
    have hle:=bN.1 hb;refine (aAL (n:=Nat.sub a c) (by show a-c<_;omega)).trans ?_;show some (SV.i .i64 ((a-c:Nat):Int))=some (SV.i .i64 ((a:Int)-(c:Int)));rw[Int.ofNat_sub hle]
   |false=>exact lC h1 h2
  |negSucc c=>exact lC h1 h2
 |negSucc a=>exact lC h1 h2
theorem aAM{dd:Dk}{op:BinOp}{kk:IntKind}{a c:Int}{r:Bool}(h:iop op kk a c=some (.b r)):bop dd op (.i kk a) (.i kk c)=some (.b r):=by
 show cb (decide (kk=kk)) (iop op kk a c) none=_;rw[decide_eq_true rfl];exact h
theorem aUv{dd:Dk}{kk:IntKind}{a c:Int}:bop dd .lss (.i kk a) (.i kk c)=some (.b (decide (a<c))):=aAM (by show bo (iLt a c)=_;rw[kP];rfl)
theorem aUw{dd:Dk}{kk:IntKind}{a c:Int}:bop dd .gtr (.i kk a) (.i kk c)=some (.b (decide (c<a))):=aAM (by show bo (iLt c a)=_;rw[kP];rfl)
theorem aUx{dd:Dk}{kk:IntKind}{a c:Int}:bop dd .leq (.i kk a) (.i kk c)=some (.b (decide (a≤c))):=aAM (by
 show bo (dV (iLt c a))=_;rw[kP,show dV (decide (c<a))=decide (a≤c) from by by_cases h:c<a<;>simp[h,dV,cb]<;>omega];rfl)
theorem aUy{dd:Dk}{kk:IntKind}{a c:Int}:bop dd .geq (.i kk a) (.i kk c)=some (.b (decide (c≤a))):=aAM (by
 show bo (dV (iLt a c))=_;rw[kP,show dV (decide (a<c))=decide (c≤a) from by by_cases h:a<c<;>simp[h,dV,cb]<;>omega];rfl)
theorem aIz{dd:Dk}{kk:IntKind}{a c:Int}:bop dd .eql (.i kk a) (.i kk c)=some (.b (decide (a=c))):=aAM (by show bo (iEq a c)=_;rw[pY];rfl)
theorem aUz{dd:Dk}{kk:IntKind}{a c:Int}:bop dd .neq (.i kk a) (.i kk c)=some (.b (decide (a≠c))):=aAM (by
 show bo (dV (iEq a c))=_;rw[pY,show dV (decide (a=c))=decide (a≠c) from by by_cases h:a=c<;>simp[h,dV,cb]];rfl)
theorem aKF{c a d:Operand}{b:Bool}(hS:St β h0 e s h ws ls ps)(hc:evs s c=some (sc (.b b)))(hv:evs s (cb b a d)=some v)(k:Q v h):Xop F (.pick c a d) e h Q:=
 .now (fun _=>by show tX e h c a d=_;unfold tX;rw[aZ hS.k hc];show ob (ev e (cb b a d)) _=_;rw[aZ hS.k hv];rfl) k
theorem aNV{t:Nat}{b:Bool}(hS:St β h0 e s h ws ls ps)(hx:evs s x=some (sc (.b b)))(k:Q (sc (.b (dV b))) h):Xop F (.unOp .not t x) e h Q:=
 .now (fun _=>by show oUn e h .not x=_;unfold oUn;rw[aZ hS.k hx];rfl) k
theorem u_conv{s1 d1:Nat}{i j:TI}{kk:IntKind}{n:Int}{k1:IntKind}(hS:St β h0 e s h ws ls ps)(h1:F.ti s1=some i)(h2:F.ti d1=some j)(hi:i.d=.int k1)(hj:j.d=.int .i64)(hx:evs s x=some (sc (.i kk n)))(n1:-9223372036854775808≤n)(n2:n<9223372036854775808)(k:Q (sc (.i .i64 n)) h):Xop F (.convert s1 d1 x) e h Q:=
 .now (fun _=>by
  show tY F e h s1 d1 x=_;unfold tY;rw[h1,h2,aZ hS.k hx]
  show (match i.d,j.d,SV.i kk n with
   | .int _,.int k,.i _ n=>ob (Int.rec (motive:=fun _=>Option SV) (fun m=>mkI k m) (fun _=>mkZ k n) n) fun r=>vh r h
   | .str,.str,.s l=>vh (.s l) h
   |_,_,_=>none)=_
  rw[hi,hj];show (ob (Int.rec (motive:=fun _=>Option SV) (fun m=>mkI .i64 m) (fun _=>mkZ .i64 n) n) fun r=>vh r h)=_;cases n with
  |ofNat m=>
   have n2:(m:Int)<9223372036854775808:=n2;show ob (mkI .i64 m) _=_;rw[aAL (by omega)];rfl
  |negSucc m=>
   show ob (mkZ .i64 (Int.negSucc m)) _=_;rw[lC n1 n2];rfl) k
theorem aFf{t:Nat}{i:TI}{el:Nat}{sv:SV}{n:Nat}(ht:F.ti t=some i)(hd:i.d=.sl el)(hn:(sv=.ns∧n=0)∨(∃id off c,sv=.sl id off n c)∨∃a c,sv=.v (.slice (some a) n c)):bi F h .len [t] [sc sv]=some (sc (.i .i64 (n:Int)),h):=by
 show ob (F.ti t) (fun i=>one (sc sv) fun s=>(match i.d,s with| .str,.s l=>vh (.i .i64 (.ofNat (len l))) h| .sl _,.ns=>vh (.i .i64 0) h| .sl _,.sl _ _ n _=>vh (.i .i64 (.ofNat n)) h| .sl _,.v x=>roN h x| .sl _,.m n=>ob (F.ln false n) fun k=>vh (.i .i64 (.ofNat k)) h| .sl _,.r n=>ob (F.ln true n) fun k=>vh (.i .i64 (.ofNat k)) h|_,_=>none))=_;rw[ht];show (match i.d,sv with| .str,.s l=>vh (.i .i64 (.ofNat (len l))) h| .sl _,.ns=>vh (.i .i64 0) h| .sl _,.sl _ _ n _=>vh (.i .i64 (.ofNat n)) h| .sl _,.v x=>roN h x| .sl _,.m n=>ob (F.ln false n) fun k=>vh (.i .i64 (.ofNat k)) h| .sl _,.r n=>ob (F.ln true n) fun k=>vh (.i .i64 (.ofNat k)) h|_,_=>none)=_;rw[hd];rcases hn with⟨rfl,rfl⟩|⟨id,off,c,rfl⟩|⟨a,c,rfl⟩<;>rfl
theorem sP{b:Builtin}{xs:Array Operand}{ats:Array TypeId}{args:List AV}(hS:St β h0 e s h ws ls ps)(ha:kR s xs.toList=some args)(hb:bi F h b ats.toList args=some (v,h'))(k:Q v h'):Xop F (.call {callee:=.builtin b,args:=xs,argTypes:=ats}) e h Q:=
 .now (fun _=>by
  show ob (evL e xs.toList) (fun l=>bi F h b ats.toList l)=_;rw[rJ hS.k ha];exact hb) k
theorem aFg{el id off n:Nat}{c:Option Nat}(hS:St β h0 e s h ws ls ps)(ht:F.ti t=some i)(hd:i.d=.sl el)(hx:evs s x=some (sc (.sl id off n c)))(k:Q (sc (.i .i64 (n:Int))) h):Xop F (.call {callee:=.builtin .len,args:=#[x],argTypes:=#[t]}) e h Q:=
 sP hS (args:=[_]) (by show ob (evs s x) _=_;rw[hx];rfl) (aFf ht hd (.inr (.inl ⟨_,_,_,rfl⟩))) k
theorem aFh{el:Nat}(hS:St β h0 e s h ws ls ps)(ht:F.ti t=some i)(hd:i.d=.sl el)(hx:evs s x=some (sc .ns))(k:Q (sc (.i .i64 ((0:Nat):Int))) h):Xop F (.call {callee:=.builtin .len,args:=#[x],argTypes:=#[t]}) e h Q:=
 sP hS (args:=[_]) (by show ob (evs s x) _=_;rw[hx];rfl) (aFf ht hd (.inl ⟨rfl,rfl⟩)) k
theorem aKG{el n c:Nat}{a:Addr}(hS:St β h0 e s h ws ls ps)(ht:F.ti t=some i)(hd:i.d=.sl el)(hx:evs s x=some (sc (.v (.slice (some a) n c))))(k:Q (sc (.i .i64 (n:Int))) h):Xop F (.call {callee:=.builtin .len,args:=#[x],argTypes:=#[t]}) e h Q:=
 sP hS (args:=[_]) (by show ob (evs s x) _=_;rw[hx];rfl) (aFf ht hd (.inr (.inr ⟨_,_,rfl⟩))) k
theorem aKH{l:List Nat}(hS:St β h0 e s h ws ls ps)(ht:F.ti t=some i)(hd:i.d=.str)(hx:evs s x=some (sc (.s l)))(k:Q (sc (.i .i64 (l.length:Int))) h):Xop F (.call {callee:=.builtin .len,args:=#[x],argTypes:=#[t]}) e h Q:=
 sP hS (args:=[_]) (by show ob (evs s x) _=_;rw[hx];rfl) (by
  show ob (F.ti t) (fun i=>one (sc (.s l)) fun s=>(match i.d,s with| .str,.s l=>vh (.i .i64 (.ofNat (len l))) h| .sl _,.ns=>vh (.i .i64 0) h| .sl _,.sl _ _ n _=>vh (.i .i64 (.ofNat n)) h| .sl _,.v x=>roN h x| .sl _,.m n=>ob (F.ln false n) fun k=>vh (.i .i64 (.ofNat k)) h| .sl _,.r n=>ob (F.ln true n) fun k=>vh (.i .i64 (.ofNat k)) h|_,_=>none))=some (sc (.i .i64 (l.length:Int)),h);rw[ht];show (match i.d,SV.s l with| .str,.s l=>vh (.i .i64 (.ofNat (len l))) h| .sl _,.ns=>vh (.i .i64 0) h| .sl _,.sl _ _ n _=>vh (.i .i64 (.ofNat n)) h| .sl _,.v x=>roN h x| .sl _,.m n=>ob (F.ln false n) fun k=>vh (.i .i64 (.ofNat k)) h| .sl _,.r n=>ob (F.ln true n) fun k=>vh (.i .i64 (.ofNat k)) h|_,_=>none)=_;rw[hd];show vh (.i .i64 (.ofNat (len l))) h=_;rw[aT];rfl) k
theorem aTo{x y:Operand}{ats:Array TypeId}{kk:IntKind}{a c:Int}(hS:St β h0 e s h ws ls ps)(hx:evs s x=some (sc (.i kk a)))(hy:evs s y=some (sc (.i kk c)))(k:Q (sc (.i kk (max a c))) h):Xop F (.call {callee:=.builtin .max,args:=#[x,y],argTypes:=ats}) e h Q:=
 sP hS (args:=[_,_]) (by show ob (evs s x) (fun v=>ob (ob (evs s y) fun v=>some [v]) fun r=>some (v::r))=_;rw[hx,hy];rfl) (by
  show ob (mm false (sc (.i kk a)) (sc (.i kk c))) (fun v=>some (v,h))=_;show ob (cb (decide (kk=kk)) (some (sc (.i kk (cb false (cb (iLt c a) c a) (cb (iLt a c) c a))))) none) (fun v=>some (v,h))=_;rw[decide_eq_true rfl];show some (sc (.i kk (cb (iLt a c) c a)),h)=_;rw[kP,bU];congr 4;by_cases hac:a<c
  ·rw[if_pos (decide_eq_true hac)];omega
  ·rw[if_neg (by simpa using hac)];omega) k
theorem aNW{el j z id off n:Nat}{c:Option Nat}{kk:IntKind}(hS:St β h0 e s h ws ls ps)(ht:F.ti t=some i)(hd:i.d=.sl el)(hz:sz F el=some z)(hx:evs s x=some (sc (.sl id off n c)))(hy:evs s y=some (sc (.i kk (j:Int))))(hj:j<n):oIA F e h t x y=some (sc (.p id (off+j*z)),h):=by
 unfold oIA;rw[ht,aZ hS.k hy]
 show ob (ev e x) (fun v=>one v fun s=>(match i.d,s with
  | .sl el,.sl id off n _=>ob (sz F el) fun z=>cb (Nat.blt j n) (vh (.p id (Nat.add off (Nat.mul j z))) h) none
  | .ar n el,.p id off=>ob (sz F el) fun z=>cb (Nat.blt j n) (vh (.p id (Nat.add off (Nat.mul j z))) h) none
  | .sl el,.v x=>ob (sz F el) fun z=>roA h j z x
  | .ar n el,.v x=>ob (sz F el) fun z=>cb (Nat.blt j n) (roF h (Nat.mul j z) x) none
  |_,_=>none))=_
 rw[aZ hS.k hx]
 show (match i.d,SV.sl id off n c with
  | .sl el,.sl id off n _=>ob (sz F el) fun z=>cb (Nat.blt j n) (vh (.p id (Nat.add off (Nat.mul j z))) h) none
  | .ar n el,.p id off=>ob (sz F el) fun z=>cb (Nat.blt j n) (vh (.p id (Nat.add off (Nat.mul j z))) h) none
  | .sl el,.v x=>ob (sz F el) fun z=>roA h j z x
  | .ar n el,.v x=>ob (sz F el) fun z=>cb (Nat.blt j n) (roF h (Nat.mul j z) x) none
  |_,_=>none)=_
 rw[hd];show ob (sz F el) (fun z=>cb (Nat.blt j n) (vh (.p id (Nat.add off (Nat.mul j z))) h) none)=_;rw[hz];show cb (Nat.blt j n) _ none=_;rw[aP.2 hj];rfl
theorem aTp{el z n cp:Nat}{j:Nat}{a:Addr}{kk:IntKind}{jz:Int}(hS:St β h0 e s h ws ls ps)(ht:F.ti t=some i)(hd:i.d=.sl el)(hz:sz F el=some z)(hx:evs s x=some (sc (.v (.slice (some a) n cp))))(hy:evs s y=some (sc (.i kk jz)))(hjz:jz=(j:Int))(hj:j<n)(k:Q (sc (.v (.pointer (some (a.add (j*z)))))) h):Xop F (.indexAddr t x y) e h Q:=by
 subst hjz;refine .now (fun _=>?_) k;show oIA F e h t x y=_;unfold oIA;rw[ht,aZ hS.k hy]
 show ob (ev e x) (fun v=>one v fun s=>(match i.d,s with
  | .sl el,.sl id off n _=>ob (sz F el) fun z=>cb (Nat.blt j n) (vh (.p id (Nat.add off (Nat.mul j z))) h) none
  | .ar n el,.p id off=>ob (sz F el) fun z=>cb (Nat.blt j n) (vh (.p id (Nat.add off (Nat.mul j z))) h) none
  | .sl el,.v x=>ob (sz F el) fun z=>roA h j z x
  | .ar n el,.v x=>ob (sz F el) fun z=>cb (Nat.blt j n) (roF h (Nat.mul j z) x) none
  |_,_=>none))=_
 rw[aZ hS.k hx]
 show (match i.d,SV.v (.slice (some a) n cp) with
  | .sl el,.sl id off n _=>ob (sz F el) fun z=>cb (Nat.blt j n) (vh (.p id (Nat.add off (Nat.mul j z))) h) none
  | .ar n el,.p id off=>ob (sz F el) fun z=>cb (Nat.blt j n) (vh (.p id (Nat.add off (Nat.mul j z))) h) none
  | .sl el,.v x=>ob (sz F el) fun z=>roA h j z x
  | .ar n el,.v x=>ob (sz F el) fun z=>cb (Nat.blt j n) (roF h (Nat.mul j z) x) none
  |_,_=>none)=_
 rw[hd];show ob (sz F el) (fun z=>roA h j z (.slice (some a) n cp))=_;rw[hz];show cb (Nat.blt j n) _ none=_;rw[aP.2 hj];rfl
theorem aFi{a:Operand}{id off:Nat}{b:B}{l:List SV}(hS:St β h0 e s h ws ls ps)(ht:F.ti t=some i)(hx:evs s a=some (sc (.p id off)))(hb:h.h.get id=some b)(hl:dG i.sz (drp off b.c)=some l)(hv:av i.d.ag l=some v):oU F e h t a=some (v,h):=by
 unfold oU;rw[ht,aZ hS.k hx];show ob (rd h id off i.sz) (fun l=>ob (av i.d.ag l) fun v=>some (v,h))=_;unfold rd;rw[hb];show ob (dG i.sz (drp off b.c)) _=_;rw[hl];show ob (av i.d.ag l) _=_;rw[hv];rfl
theorem aUA{a:Operand}{j id off:Nat}{b:B}{l:List SV}(hS:St β h0 e s h ws ls ps)(ht:F.ti t=some i)(hx:evs s a=some (sc (.p id off)))(hj:ws[j]? =some (id,b))(hl:dG i.sz (drp off b.c)=some l)(hv:av i.d.ag l=some v)(k:Q v h):Xop F (.load t a) e h Q:=
 .now (fun _=>aFi hS ht hx (hS.w.1 _ (List.mem_of_getElem? hj)).2.2 hl hv) k
theorem aUB{a:Operand}{j id off z:Nat}{b:B}{g:Bool}{l c:List SV}(hS:St β h0 e s h ws ls ps)(hβ:β≤h0.n)(ht:sz F t=some z)(ha:evs s a=some (sc (.p id off)))(hx:evs s x=some (.c g l))(hl:l.length=z)(hj:ws[j]? =some (id,b))(hc:dU off l b.c=some c)(hk:jE b=true)(k:∀h',St β h0 e s h' (ws.set j (id,⟨b.ty,c⟩)) ls ps→Q un h'):Xop F (.store t a x) e h Q:=by
 obtain⟨w1,w2,w3⟩:=hS.w.1 _ (List.mem_of_getElem? hj);have w1:h0.n≤id:=w1;have w3:h.h.get id=some b:=w3;refine .now (fun _=>?_) (k _ (hS.put hj));show nG F e h t a x=_;unfold nG;rw[ht,aZ hS.k ha];show ob (ev e x) (fun u=>cells u fun c=>cb (Nat.beq (len c) z) (ob (wr h id off c) fun h=>some (un,h)) none)=_;rw[aZ hS.k hx];show cb (Nat.beq (len l) z) (ob (wr h id off l) fun h=>some (un,h)) none=_;rw[aT,hl,Nat.beq_refl];show ob (wr h id off l) (fun h=>some (un,h))=_;have e1:wr h id off l=some (h.put id ⟨b.ty,c⟩):=by
  unfold wr;rw[bN.2 (show h.bar≤id by rw[hS.bar];omega),w3];show ob (dU off l b.c) (fun c=>cb (jE b) (some (h.put id ⟨b.ty,c⟩)) none)=_;rw[hc];show cb (jE b) _ none=_;rw[hk];rfl
 rw[e1];rfl
theorem qV{α:Type}{b:B}{f:Nat→H→α}:h.nw b f=f h.n ⟨h.h.set b h.n,Nat.succ h.n,h.bar,h.l⟩:=by
 unfold H.nw;rw[aW]
theorem aPq(hS:St β h0 e s h ws ls ps)(ht:F.ti t=some i)(k:∀id h',St β h0 e s h' ((id,⟨t,i.ze⟩)::ws) ls ps→Q (sc (.p id 0)) h'):Xop F (.alloc t) e h Q:=
 .now (fun _=>by show nE F h t=_;unfold nE;rw[ht];exact qV) (k _ _ (hS.new _))
theorem aTq{g:Bool}{l:List SV}(hS:St β h0 e s h ws ls ps)(hx:evs s x=some (.c g l))(k:∀id h',St β h0 e s h' ((id,⟨t,l⟩)::ws) ls ps→Q (sc (.p id 0)) h'):Xop F (.box t x) e h Q:=
 .now (fun _=>by show uS e h t x=_;unfold uS;rw[aZ hS.k hx];exact (show (h.nw ⟨t,l⟩ fun a h=>vh (.p a 0) h)=_ from qV)) (k _ _ (hS.new _))
def Ct(v u:AV)(n:Nat):Prop:=(v=sc .ns∧u=sc .ns)∨∃id len cap,v=sc (.sl id 0 len cap)∧u=sc (.sl id 0 n cap)
theorem aIA{n:Nat}{l:List (Bool × List SV)}{p:Bool × List SV}(hS:St β h0 e s h ws ls ps)(hx:evs s x=some (.t l))(hp:(drp n l).head? =some p)(k:Q (.c p.1 p.2) h):Xop F (.extract x n) e h Q:=
 .now (fun _=>by show yY e h x n=_;unfold yY;rw[aZ hS.k hx];show ob (drp n l).head? _=_;rw[hp];rfl) k
noncomputable def gU (pl:Nat→Option (Nat × Nat)) (s:List (Nat × AV)) (l:List (Nat × Operand)):List SV→Option (List SV):=
 List.rec (motive:=fun _=>List SV→Option (List SV)) some (fun p _ r acc=>ob (pl p.1) fun q=>ob (evs s p.2) fun v=>cells v fun c=>cb (Nat.beq (len c) q.2) (ob (dU q.1 c acc) r) none) l
theorem aAN{pl:Nat→Option (Nat × Nat)}(hk:Kn e s):∀{l:List (Nat × Operand)} {a c:List SV},gU pl s l a=some c→parts pl e l a=some c
 | [],a,c,hx=>hx
 |p::l,a,c,hx=>by
  obtain⟨q,h1,h2⟩:=aA.1 (show ob (pl p.1) (fun q=>ob (evs s p.2) fun v=>cells v fun c=>cb (Nat.beq (len c) q.2) (ob (dU q.1 c a) (gU pl s l)) none)=some c from hx);obtain⟨w,h3,h4⟩:=aA.1 h2;show ob (pl p.1) (fun q=>ob (ev e p.2) fun v=>cells v fun c=>cb (Nat.beq (len c) q.2) (ob (dU q.1 c a) (parts pl e l)) none)=some c;rw[h1];show ob (ev e p.2) (fun v=>cells v fun c=>cb (Nat.beq (len c) q.2) (ob (dU q.1 c a) (parts pl e l)) none)=some c;rw[aZ hk h3];obtain⟨g,m,rfl,h5⟩:=nI.1 h4;show cb (Nat.beq (len m) q.2) (ob (dU q.1 m a) (parts pl e l)) none=some c;obtain⟨h6,h7⟩:=aD.1 h5;obtain⟨a2,h8,h9⟩:=aA.1 h7;rw[h6];show ob (dU q.1 m a) (parts pl e l)=some c;rw[h8];exact aAN hk h9
theorem aHn{pr:Array (Nat × Operand)}{fs pl:List (Nat × Nat)}{c:List SV}(hS:St β h0 e s h ws ls ps)(ht:F.ti t=some i)(hd:i.d=.st fs)(hp:szs F fs=some pl)(hc:gU (fun f=>(drp f pl).head?) s pr.toList i.ze=some c)(k:Q (.c true c) h):Xop F (.build t pr) e h Q:=
 .now (fun _=>by
  show pV F e h t pr.toList=_;unfold pV;rw[ht]
  show (match i.d with
   | .st fs=>ob (szs F fs) fun pl=>ob (parts (fun f=>(drp f pl).head?) e pr.toList i.ze) fun c=>some (AV.c true c,h)
   | .ar _ el=>ob (sz F el) fun s=>ob (parts (fun f=>some (Nat.mul f s,s)) e pr.toList i.ze) fun c=>some (AV.c true c,h)
   |_=>none)=_
  rw[hd];show ob (szs F fs) _=_;rw[hp];show ob (parts (fun f=>(drp f pl).head?) e pr.toList i.ze) _=_;rw[aAN hS.k hc];rfl) k
theorem aRy{sT f id off:Nat}{q:Nat × Nat}{z:Nat}(hS:St β h0 e s h ws ls ps)(ht:F.ti sT=some i)(hq:fields i.d f=some q)(hz:sz F q.2=some z)(h0z:Nat.blt 0 z=true)(hx:evs s x=some (sc (.p id off)))(k:Q (sc (.p id (off+q.1))) h):Xop F (.fieldAddr sT x f) e h Q:=
 .now (fun _=>by
  show oFA F e h sT x f=_;unfold oFA;rw[ht];show ob (fields i.d f) _=_;rw[hq];show ob (sz F q.2) _=_;rw[hz];show cb (Nat.blt 0 z) _ none=_;rw[h0z];show ob (ev e x) _=_;rw[aZ hS.k hx];rfl) k
theorem aUC{f:Nat}{xs:Array Operand}{ats:Array TypeId}{args:List AV}(hS:St β h0 e s h ws ls ps)(ha:kR s xs.toList=some args)(hc:Xc F f args h Q):Xop F (.call {callee:=.value (.func f),args:=xs,argTypes:=ats}) e h Q:=by
 obtain⟨v,h1,⟨m0,k1⟩,k2⟩:=hc;refine⟨v,h1,⟨m0,fun m hm=>?_⟩,k2⟩;show ob (evL e xs.toList) (fun l=>fU F (exec F m) f (app l []) h)=_;rw[rJ hS.k ha];show fU F (exec F m) f (app args []) h=_;rw[iT,List.append_nil];exact k1 m hm
theorem aNX{f:Nat}{G:Func}{cd:Code}{g:List AV→Option AV}{args:List AV}(hG:F.P.funcs[f]? =some G)(hb:G.body=some cd)(hp:F.pr f=some g)(hg:g args=some v)(k:Q v h):Xc F f args h Q:=by
 refine⟨v,h,⟨0,fun m _=>?_⟩,k⟩;unfold fU;rw[hG];show ob G.body _=_;rw[hb];show (Option.rec (motive:=fun _=>Option VH) _ _ (F.pr f):Option VH)=_;rw[hp];show ob (g args) _=_;rw[hg];rfl
theorem aTr{f:Nat}{G:Func}{cd:Code}{g:H→List AV→Option AV}{args:List AV}(hG:F.P.funcs[f]? =some G)(hb:G.body=some cd)(hp:F.pr f=none)(hh:F.ph f=some g)(hg:g h args=some v)(k:Q v h):Xc F f args h Q:=by
 refine⟨v,h,⟨0,fun m _=>?_⟩,k⟩;unfold fU;rw[hG];show ob G.body _=_;rw[hb];show (Option.rec (motive:=fun _=>Option VH) _ _ (F.pr f):Option VH)=_;rw[hp];show aBR F (exec F m) G cd f args h=_;unfold aBR;rw[hh];show (Option.rec (motive:=fun _=>Option VH) _ _ (g h args):Option VH)=_;rw[hg]
theorem aMF{f:Nat}{G:Func}{cd:Code}{args:List AV}{e0:Env}(hG:F.P.funcs[f]? =some G)(hb:G.body=some cd)(hp:F.pr f=none)(hh:F.ph f=none)(he:qQ G.ntmps args 0 (fill G.ntmps 0 .lf)=some e0)(k:Xw F G.ntmps f cd e0 h fun x e h=>∃v,leave F G ⟨x,e,h⟩=some (v,h)∧Q v h):Xc F f args h Q:=by
 obtain⟨x,e1,h1,⟨m0,k1⟩,v,k2,k3⟩:=k;refine⟨v,h1,⟨m0,fun m hm=>?_⟩,k3⟩;unfold fU;rw[hG];show ob G.body _=_;rw[hb];show (Option.rec (motive:=fun _=>Option VH) _ _ (F.pr f):Option VH)=_;rw[hp];show aBR F (exec F m) G cd f args h=_;unfold aBR;rw[hh];show mJ F (exec F m) G cd f args h=_;unfold mJ;rw[he];show ob (exec F m false G.ntmps f cd e0 h) _=_;rw[k1 m hm];exact k2
theorem St.start{e0:Env}{s:List (Nat × AV)}(hs:∀k v,lk s k=some v→e0.get k=some v)(hl:∀p∈ls,IsL [] h p.1 p.2):St h.bar h e0 s h [] ls []:=
 ⟨hs,Nat.le_refl _,rfl,fun _ _=>rfl,rfl,⟨fun _ hp=>(by cases hp),List.Pairwise.nil⟩,hl,fun _ hp=>(by cases hp)⟩
theorem oF{ops:List Oper}{o:Oper}{g j:Nat}{w b:Bool}(hS:St β h0 e s h ws ls ps)(ho:(drp g ops).head? =some o)(hd:o.dst=some j)(hb:lk s j=some (sc (.b b))):wanted ops e (some (g,w))=some (cb w b (dV b)):=by
 show (ob (drp g ops).head? fun o=>ob o.dst fun d=>isB (e.get d) w)=_;rw[ho];show (ob o.dst fun d=>isB (e.get d) w)=_;rw[hd];show isB (e.get j) w=_;rw[hS.k j _ hb];rfl
end
theorem wC{n:Nat}{α:Type}:∀{l:List (Nat × α)} {k:Nat} {x:α},(T.ofL l:T n α).get k=some x→(k,x)∈l
 | [],k,x,h=>by rw[show (T.ofL []:T n α)=T.lf from rfl,T.get_lf]at h;cases h
 |p::l,k,x,h=>by
  rcases T.get_set (show (T.set p.2 (T.ofL l:T n α) p.1).get k=some x from h) with⟨rfl,rfl⟩|⟨-,h2⟩
  ·exact List.mem_cons_self ..
  ·exact List.mem_cons_of_mem _ (wC h2)
theorem aCT{α:Type}{p:α→Bool}{l:Array α}(h:l.toList.all p=true){i:Nat}{x:α}(hi:l[i]? =some x):p x=true:=
 List.all_eq_true.1 h x (by have:=Array.mem_of_getElem? hi;exact Array.mem_toList_iff.2 this)
def ngB(G:Func):Bool:=!(G.name == "runtime.NumGoroutine")
theorem aFj:Tryz.prog.funcs.toList.all ngB=true:=by decide+kernel
theorem xK(z:TypeId→Nat)(w:World):Rl ⟨0,fun _=>False,fun _=>0,w,z⟩ w ⟨.lf,0,0,.lf⟩:=
 ⟨rfl,fun _ h=>h.elim,Q.refl w,fun _ _ h=>(by rw[T.get_lf]at h;cases h),fun _ _ _ _ h=>(by rw[T.get_lf]at h;cases h),fun _ _ h=>(by rw[T.get_lf]at h;cases h),fun _ _ h=>(by rw[T.get_lf]at h;cases h),fun _ _ _ _ h=>(by rw[T.get_lf]at h;cases h)⟩
noncomputable def nm (q:Rat):AV:=.c true (bC q)
section
variable {F:Cf} {nt fn:Nat} {β:Nat} {h0 h h':H} {e:Env} {s:List (Nat × AV)} {ws:List (Nat × B)} {ls:List (AV × List Rat)} {ps:List (AV × Rat)} {v:AV} {xs:List Rat} {ops:List Oper} {o:Oper} {i d b:Nat} {A late:List Nat} {M:List (Nat × List Nat)} {Q:Env→H→Prop}
theorem St.bl(hS:St β h0 e s h ws ls ps)(hb:β≤h.n):h.bar≤h.n:=by rw[hS.bar];exact hb
theorem aRz{id:Nat}{ops:Array Oper}{Q:Ex→Env→H→Prop}(hS:St β h0 e s h ws ls ps)(hp:F.pl fn id=some (A,M))(hok:lU F ops (A,M)=true)(k:Xa F nt ops.toList β M A e h (Q .n)):Xw F nt fn (.region id ops true) e h Q:=aPo hp hok (by rw[hS.bar];exact k)
theorem St.drop(hS:St β h0 e s h ws ls ps){ws':List (Nat × B)}(hw:ws'.Sublist ws):St β h0 e s h ws' ls ps:=
 ⟨hS.k,hS.n,hS.bar,hS.o,hS.l,⟨fun p hp=>hS.w.1 p (hw.subset hp),hS.w.2.sublist hw⟩,fun p hp=>(hS.ls p hp).imp id fun ⟨id,cap,c,h1,h2,h3,h4,h5,h6⟩=>⟨id,cap,c,h1,h2,h3,h4,h5,fun q hq=>h6 q (hw.subset hq)⟩,
  fun p hp=>let ⟨id,off,b,h1,h3,h4,h5,h6⟩:=hS.ps p hp;⟨id,off,b,h1,h3,h4,h5,fun q hq=>h6 q (hw.subset hq)⟩⟩
theorem kn1{v:AV}{k:Nat}(hv:e.get k=some v){s:List (Nat × AV)}(hs:Kn e s):Kn e ((k,v)::s):=fun j u hj=>by
 have hj:cb (Nat.beq k j) (some v) (lk s j)=some u:=hj;cases hb:Nat.beq k j with
 |true=>
  rw[hb]at hj;injection hj with hj;rw[←aM.1 hb,hv,hj]
 |false=>
  rw[hb]at hj;exact hs j u hj
theorem aRA:∀p∈([]:List (AV × List Rat)),IsL [] h p.1 p.2:=fun _ h=>by cases h
theorem aNY{f:Nat}{G:Func}{cd:Code}{args:List AV}{e0:Env}{Q:AV→H→Prop}(hG:F.P.funcs[f]? =some G)(hb:G.body=some cd)(hp:F.pr f=none)(hh:F.ph f=none)(he:qQ G.ntmps args 0 (fill G.ntmps 0 .lf)=some e0)(hs:Kn e0 s)(hl:∀p∈ls,IsL [] h p.1 p.2)
  (k:∀β e,β=h.bar→St β h e s h [] ls []→Xw F G.ntmps f cd e h fun x e h=>∃v,leave F G ⟨x,e,h⟩=some (v,h)∧Q v h):Xc F f args h Q:=aMF hG hb hp hh he (k _ _ rfl (St.start hs hl))
end
inductive Y where
 |a (v:AV)
 |b (x:Bool)
 |p (k off:Nat)
noncomputable section
def Fc(F:Cf)(f:Nat)(args:List AV)(v:AV):Prop:=∀h:H,h.bar≤h.n→Xc F f args h fun u h'=>u=v∧Xh h h'
def oo{α:Type}(r:Option α)(k:α→Prop):Prop:=match r with|some x=>k x|none=>False
def lkY:List (Nat × Y)→Nat→Option Y
 | [],_=>none
 |p::s,k=>cb (Nat.beq p.1 k) (some p.2) (lkY s k)
def lit(v:AV):Y:=match v with| .c false [.b x]=>.b x|v=>.a v
def yv(s:List (Nat × Y))(x:Operand):Option Y:=match x with
 | .tmp t=>lkY s t
 |x=>ob (evs [] x) fun v=>some (lit v)
def rl(y:Y):Option AV:=match y with| .a v=>some v| .b x=>some (sc (.b x))| .p _ _=>none
def yvL(s:List (Nat × Y))(l:List Operand):Option (List AV):=match l with
 | []=>some []
 |x::l=>ob (yv s x) fun y=>ob (rl y) fun v=>ob (yvL s l) fun r=>some (v::r)
def ptY(y:Y)(k:Nat→Nat→Prop):Prop:=match y with| .p i off=>k i off|_=>False
def one'(y:Y)(k:SV→Prop):Prop:=match y with| .a (.c false [x])=>k x| .b x=>k (.b x)|_=>False
def at_(ws:List B)(k:Nat):Nat:=len ws-1-k
def aIB(d:Dk)(op:BinOp)(x y:SV)(k:SV→Prop):Prop:=match op,x,y with
 | .lss,.i .i64 m,.i .i64 n=>k (.b (decide (m<n)))
 | .gtr,.i .i64 m,.i .i64 n=>k (.b (decide (n<m)))
 | .leq,.i .i64 m,.i .i64 n=>k (.b (decide (m≤n)))
 | .geq,.i .i64 m,.i .i64 n=>k (.b (decide (n≤m)))
 | .eql,.i .i64 m,.i .i64 n=>k (.b (decide (m=n)))
 | .neq,.i .i64 m,.i .i64 n=>k (.b (decide (m≠n)))
 | .add,.i .i64 m,.i .i64 n=>(-9223372036854775808≤m+n∧m+n<9223372036854775808)∧k (.i .i64 (m+n))
 | .sub,.i .i64 m,.i .i64 n=>(-9223372036854775808≤m-n∧m-n<9223372036854775808)∧k (.i .i64 (m-n))
 |op,x,y=>∃r,bop d op x y=some r∧k r
def jI(pl:Nat→Option (Nat × Nat))(s:List (Nat × Y)):List (Nat × Operand)→List SV→Option (List SV)
 | [],a=>some a
 |p::l,a=>ob (pl p.1) fun q=>ob (yv s p.2) fun y=>ob (rl y) fun v=>cells v fun c=>cb (Nat.beq (len c) q.2) (ob (dU q.1 c a) fun a=>jI pl s l a) none
def tyL'(tys:List (Nat × TI))(t:Nat)(k:TI→Prop):Prop:=match tys with
 | []=>False
 |p::l=>cb (Nat.beq p.1 t) (k p.2) (tyL' l t k)
def szL(tys:List (Nat × TI)):List (Nat × Nat)→(List (Nat × Nat)→Prop)→Prop
 | [],k=>k []
 |p::l,k=>tyL' tys p.2 fun i=>szL tys l fun r=>k ((p.1,i.sz)::r)
section
variable (F:Cf) (tys:List (Nat × TI))
def aBu(c:Call)(s:List (Nat × Y))(k:AV→Prop):Prop:=match c with
 |⟨.value (.func f),xs,_⟩=>oo (yvL s xs.toList) fun l=>∃v,Fc F f l v∧k v
 |⟨.builtin .len,xs,ts⟩=>(match ts.toList,xs.toList with
  | [t],[x]=>tyL' tys t fun i=>(match i.d with
    | .str=>oo (yv s x) fun y=>one' y fun v=>(match v with| .s l=>k (sc (.i .i64 (l.length:Int)))|_=>False)
    | .sl _=>oo (yv s x) fun y=>one' y fun v=>(match v with| .m n=>oo (F.ln false n) fun n=>k (sc (.i .i64 (n:Int)))| .r n=>oo (F.ln true n) fun n=>k (sc (.i .i64 (n:Int)))|_=>False)
    |_=>False)
  |_,_=>False)
 |_=>False
def vop(st:Bool)(o:Op)(s:List (Nat × Y))(ws:List B)(k:Y→List B→Prop):Prop:=match o with
 | .move x=>oo (yv s x) fun y=>k y ws
 | .assign x=>oo (yv s x) fun y=>k y ws
 | .pick c a d=>oo (yv s c) fun y=>(match y with| .b x=>oo (yv s (cb x a d)) fun y=>k y ws|_=>False)
 | .extract x n=>oo (yv s x) fun y=>(match y with| .a (.t l)=>oo (drp n l).head? fun p=>k (.a (.c p.1 p.2)) ws|_=>False)
 | .fieldAddr sT x f=>tyL' tys sT fun i=>oo (fields i.d f) fun q=>tyL' tys q.2 fun j=>cb (Nat.blt 0 j.sz) (oo (yv s x) fun y=>ptY y fun n off=>k (.p n (off+q.1)) ws) False
 | .load t x=>tyL' tys t fun i=>oo (yv s x) fun y=>ptY y fun n off=>oo ws[at_ ws n]? fun b=>oo (dG i.sz (drp off b.c)) fun l=>oo (av i.d.ag l) fun v=>k (.a v) ws
 | .store t a x=>cb st (tyL' tys t fun i=>oo (yv s a) fun y=>ptY y fun n off=>oo (yv s x) fun y=>oo (rl y) fun v=>(match v with
   | .c _ l=>oo ws[at_ ws n]? fun b=>cb (Nat.beq l.length i.sz) (oo (dU off l b.c) fun c=>cb (jE b) (k (.a un) (ws.set (at_ ws n) ⟨b.ty,c⟩)) False) False
   |_=>False)) False
 | .alloc t=>tyL' tys t fun i=>k (.p (len ws) 0) (⟨t,i.ze⟩::ws)
 | .box t x=>oo (yv s x) fun y=>oo (rl y) fun v=>(match v with| .c _ l=>k (.p (len ws) 0) (⟨t,l⟩::ws)|_=>False)
 | .build t pr=>tyL' tys t fun i=>(match i.d with| .st fs=>szL tys fs fun pl=>oo (jI (fun f=>(drp f pl).head?) s pr.toList i.ze) fun c=>k (.a (.c true c)) ws|_=>False)
 | .binOp op t x y _=>tyL' tys t fun i=>cb i.d.ag False (oo (yv s x) fun y1=>one' y1 fun a=>oo (yv s y) fun y2=>one' y2 fun c=>aIB i.d op a c fun r=>k (.a (sc r)) ws)
 | .unOp .not _ x=>oo (yv s x) fun y=>one' y fun a=>(match a with| .b x=>k (.a (sc (.b (dV x)))) ws|_=>False)
 | .unOp .neg _ x=>oo (yv s x) fun y=>one' y fun a=>(match a with| .i .i64 n=>(-9223372036854775808<n∧n≤9223372036854775807)∧k (.a (sc (.i .i64 (-n)))) ws|_=>False)
 | .index t x ix=>tyL' tys t fun i=>(match i.d with| .str=>oo (yv s x) fun y=>one' y fun a=>(match a with| .s l=>oo (yv s ix) fun y2=>one' y2 fun c=>oo (natOf c some) fun j=>∃b,l[j]? =some b∧k (.a (sc (.i .u8 (b:Int)))) ws|_=>False)|_=>False)
 | .call c=>aBu F tys c s fun v=>k (.a v) ws
 |_=>False
def vgd(ops:List Oper)(s:List (Nat × Y))(g:Option (Nat × Bool))(k:Bool→List (Nat × Y)→Prop):Prop:=match g with
 |none=>k true s
 |some (g,w)=>oo (drp g ops).head? fun o=>oo o.dst fun j=>oo (lkY s j) fun y=>(match y with
  | .b x=>k (cb w x (dV x)) s
  | .a (.c false [.b x])=>(x=true→k (cb w true false) ((j,.b true)::s))∧(x=false→k (cb w false true) ((j,.b false)::s))
  | .a (.t [])=>k false s
  |_=>False)
def vst(st:Bool)(nt:Nat)(ops:List Oper)(o:Oper)(s:List (Nat × Y))(ws:List B)(k:List (Nat × Y)→List B→Prop):Prop:=match o.dst with
 |none=>(match o.guard with|none=>vop F tys st o.op s ws fun _ ws=>k s ws|some _=>False)
 |some d=>cb (Nat.blt d nt) (vgd ops s o.guard fun t s=>cb t (vop F tys st o.op s ws fun y ws=>k ((d,y)::s) ws) (k ((d,.a un)::s) ws)) False
def xL(nt:Nat)(ops:List Oper):List Oper→List (Nat × Y)→List B→(List (Nat × Y)→List B→Prop)→Prop
 | [],s,ws,k=>k s ws
 |o::l,s,ws,k=>vst F tys true nt ops o s ws fun s ws=>xL nt ops l s ws k
def vA(nt:Nat)(ops:List Oper):List Nat→List (Nat × Y)→List B→(List (Nat × Y)→List B→Prop)→Prop
 | [],s,ws,k=>k s ws
 |i::l,s,ws,k=>oo (drp i ops).head? fun o=>vst F tys false nt ops o s ws fun s ws=>vA nt ops l s ws k
def vag(ops:List Oper)(s:List (Nat × Y))(ws:List B):List Nat→Prop
 | []=>True
 |i::l=>oo (drp i ops).head? fun o=>(match o.op with
  | .fieldAddr ..=>vag ops s ws l
  | .load t x=>tyL' tys t fun j=>oo (yv s x) fun y=>ptY y fun n off=>oo ws[at_ ws n]? fun b=>oo (dG j.sz (drp off b.c)) fun c=>oo (av j.d.ag c) fun u=>oo o.dst fun d=>oo (lkY s d) fun y=>o.guard=none∧y=.a u∧avb u u=true∧vag ops s ws l
  |_=>False)
def vB(nt:Nat)(ops:List Oper):List (Nat × List Nat)→List (Nat × Y)→List B→(List (Nat × Y)→List B→Prop)→Prop
 | [],s,ws,k=>k s ws
 |(i,[])::l,s,ws,k=>oo (drp i ops).head? fun o=>vst F tys true nt ops o s ws fun s ws=>vB nt ops l s ws k
 |(i,late)::l,s,ws,k=>oo (drp i ops).head? fun o=>vst F tys true nt ops o s ws fun s ws=>vag tys ops s ws late∧vB nt ops l s ws k
def aBv(n:Nat)(s:List (Nat × Y)):List (Nat × Y)→Prop
 | []=>True
 |p::l=>(lkY s p.1=some p.2∧(match p.2 with| .p k _=>k<n|_=>True))∧aBv n s l
def fits(s:List (Nat × Y))(ws:List B)(t:List (Nat × Y) × List B):Prop:=(∃d,ws=d++t.2)∧aBv t.2.length s t.1
def vc(nt fn:Nat):Code→List (Nat × Y)→List B→(Ex→List (Nat × Y)→List B→Prop)→Prop
 | .skip,s,ws,k=>k .n s ws
 | .ret,s,ws,k=>k .r s ws
 | .exit id,s,ws,k=>k (.x id) s ws
 | .seq a b,s,ws,k=>vc nt fn a s ws fun x s ws=>(match x with| .n=>vc nt fn b s ws k|x=>k x s ws)
 | .region id ops dr,s,ws,k=>cb dr (oo (F.pl fn id) fun p=>lU F ops p=true∧vA F tys nt ops.toList p.1 s ws fun s ws=>vB F tys nt ops.toList p.2 s ws (k .n)) (xL F tys nt ops.toList ops.toList s ws (k .n))
 | .cond c a b,s,ws,k=>oo (yv s c) fun y=>(match y with
   | .b x=>cb x (vc nt fn a s ws k) (vc nt fn b s ws k)
   | .a (.c false [.b x])=>(x=true→vc nt fn a s ws k)∧(x=false→vc nt fn b s ws k)
   |_=>False)
 | .block id a,s,ws,k=>vc nt fn a s ws fun x s ws=>(match x with| .x j=>cb (Nat.beq id j) (k .n s ws) (k (.x j) s ws)|x=>k x s ws)
 | .loop a,s,ws,k=>∃(ι:Type) (I:ι→List (Nat × Y) × List B) (m:ι→Nat),(∃i,fits s ws (I i))∧∀i,vc nt fn a (I i).1 (I i).2 fun x s ws=>(match x with| .n=>∃j,m j<m i∧fits s ws (I j)|x=>k x s ws)
 |_,_,_,_=>False
def aMG(r:ResultVar)(s:List (Nat × Y))(ws:List B)(k:Bool × List SV→Prop):Prop:=match r with
 | .tmp t=>oo (lkY s t) fun y=>oo (rl y) fun v=>(match v with| .c g l=>k (g,l)|_=>False)
 | .cell t ty=>tyL' tys ty fun i=>oo (lkY s t) fun y=>ptY y fun n off=>oo ws[at_ ws n]? fun b=>oo (dG i.sz (drp off b.c)) fun l=>cb i.d.ag (k (true,l)) False
def uC:List ResultVar→List (Nat × Y)→List B→(List (Bool × List SV)→Prop)→Prop
 | [],_,_,k=>k []
 |r::l,s,ws,k=>aMG tys r s ws fun p=>uC l s ws fun q=>k (p::q)
def ixY(k:Nat):List AV→List (Nat × Y)
 | []=>[]
 |v::l=>(k,.a v)::ixY (k+1) l
def vfn(G:Func)(f:Nat)(cd:Code)(args:List AV)(v:AV):Prop:=vc F tys G.ntmps f cd (ixY 0 args) [] fun x s ws=>(match x with
 | .x _=>False
 |_=>uC tys G.results.toList s ws fun l=>tup l=v)
end
end
def YR(ids:List Nat)(y:Y)(v:AV):Prop:=match y with
 | .a u=>v=u
 | .b x=>v=sc (.b x)
 | .p k off=>k<ids.length∧∃id,ids[ids.length-1-k]? =some id∧v=sc (.p id off)
def RS(ids:List Nat):List (Nat × Y)→List (Nat × AV)→Prop
 | [],[]=>True
 |p::a,q::b=>p.1=q.1∧YR ids p.2 q.2∧RS ids a b
 |_,_=>False
def zp:List Nat→List B→List (Nat × B)
 |i::l,b::m=>(i,b)::zp l m
 |_,_=>[]
structure Sy (F:Cf) (β:Nat) (g:H) (e:Env) (h:H) (sy:List (Nat × Y)) (ws:List B) (ls:List (AV × List Rat)) (ps:List (AV × Rat)) (ids:List Nat) (s:List (Nat × AV)):Prop where
 r:RS ids sy s
 len:ids.length=ws.length
 st:St β g e s h (zp ids ws) ls ps
section
variable {F:Cf} {tys:List (Nat × TI)} {nt fn β:Nat} {g h h':H} {e:Env} {sy:List (Nat × Y)} {s:List (Nat × AV)} {ws:List B} {ls:List (AV × List Rat)} {ps:List (AV × Rat)} {ids:List Nat} {y:Y} {v:AV} {zs:List (Nat × B)}
theorem aG{α:Type}{r:Option α}{k:α→Prop}(h:oo r k):∃x,r=some x∧k x:=by
 cases r with
 |none=>exact h.elim
 |some x=>exact⟨x,rfl,h⟩
theorem cbT{c:Bool}{p:Prop}(h:cb c p False):c=true∧p:=by cases c with|true=>exact⟨rfl,h⟩|false=>exact h.elim
theorem cbF{c:Bool}{p:Prop}(h:cb c False p):c=false∧p:=by cases c with|false=>exact⟨rfl,h⟩|true=>exact h.elim
theorem YR.mono{i:Nat}(h:YR ids y v):YR (i::ids) y v:=by
 cases y with
 |a u=>exact h
 |b x=>exact h
 |p k off=>
  obtain⟨h1,id,h2,h3⟩:=h;refine⟨Nat.lt_succ_of_lt h1,id,?_,h3⟩;rw[List.length_cons,show ids.length+1-1-k=(ids.length-1-k)+1 by omega];exact h2
theorem RS.mono{i:Nat}:∀{sy:List (Nat × Y)} {s:List (Nat × AV)},RS ids sy s→RS (i::ids) sy s
 | [],[],_=>trivial
 |_::_,_::_,h=>⟨h.1,h.2.1.mono,RS.mono h.2.2⟩
theorem RS.cons{d:Nat}(h:RS ids sy s)(hy:YR ids y v):RS ids ((d,y)::sy) ((d,v)::s):=⟨rfl,hy,h⟩
theorem RS.lk:∀{sy:List (Nat × Y)} {s:List (Nat × AV)} {d:Nat} {y:Y},RS ids sy s→lkY sy d=some y→∃v,E.lk s d=some v∧YR ids y v
 |p::a,q::b,d,y,h,hx=>by
  obtain⟨p1,p2⟩:=p;obtain⟨q1,q2⟩:=q;obtain⟨h1,h2,h3⟩:=h;have h1:p1=q1:=h1;subst h1;have hx:cb (Nat.beq p1 d) (some p2) (lkY a d)=some y:=hx;show ∃v,cb (Nat.beq p1 d) (some q2) (E.lk b d)=some v∧YR ids y v;cases hb:Nat.beq p1 d with
  |true=>
   rw[hb]at hx;injection hx with hx;subst hx;exact⟨q2,rfl,h2⟩
  |false=>
   rw[hb]at hx;exact RS.lk h3 hx
theorem zN{v:AV}:YR ids (lit v) v:=by
 unfold lit;split<;>rfl
theorem RS.ev{x:Operand}(h:RS ids sy s)(hx:yv sy x=some y):∃v,evs s x=some v∧YR ids y v:=by
 cases x with
 |tmp t=>exact h.lk hx
 |const c=>
  obtain⟨v,h1,h2⟩:=aA.1 (show ob (evs [] (.const c)) (fun v=>some (lit v))=some y from hx);injection h2 with h2;subst h2;exact⟨v,h1,zN⟩
 |global c=>cases hx
 |func f=>
  injection hx with hx;subst hx;exact⟨_,rfl,zN⟩
theorem nL{u:AV}(h:rl y=some u)(hy:YR ids y v):v=u:=by
 cases y with
 |a w=>injection h with h;exact hy.trans h
 |b x=>injection h with h;exact hy.trans h
 |p k off=>cases h
theorem RS.evL(h:RS ids sy s):∀{l:List Operand} {vs:List AV},yvL sy l=some vs→kR s l=some vs
 | [],vs,hx=>hx
 |x::l,vs,hx=>by
  obtain⟨y,h1,hx⟩:=aA.1 (show ob (yv sy x) (fun y=>ob (rl y) fun v=>ob (yvL sy l) fun r=>some (v::r))=some vs from hx);obtain⟨v,h2,hx⟩:=aA.1 hx;obtain⟨r,h3,h4⟩:=aA.1 hx;obtain⟨u,h5,h6⟩:=h.ev h1;have:=nL h2 h6;subst this;show ob (evs s x) (fun v=>ob (kR s l) fun r=>some (v::r))=some vs;rw[h5,h.evL h3];exact h4
theorem zO{k:Nat→Nat→Prop}(h:ptY y k)(hy:YR ids y v):∃n off id,n<ids.length∧ids[ids.length-1-n]? =some id∧v=sc (.p id off)∧y=.p n off∧k n off:=by
 cases y with
 |a w=>exact h.elim
 |b x=>exact h.elim
 |p n off=>exact⟨n,off,hy.2.choose,hy.1,hy.2.choose_spec.1,hy.2.choose_spec.2,rfl,h⟩
theorem dY{k:SV→Prop}(h:one' y k)(hy:YR ids y v):∃x,v=sc x∧k x:=by
 unfold one' at h;split at h
 ·exact⟨_,hy,h⟩
 ·exact⟨_,hy,h⟩
 ·exact h.elim
theorem aB9:∀{ids:List Nat} {ws:List B} {j i:Nat} {b:B},ids[j]? =some i→ws[j]? =some b→(zp ids ws)[j]? =some (i,b)
 |_::_,_::_,0,_,_,h1,h2=>by
  injection h1 with h1;injection h2 with h2;subst h1;subst h2;rfl
 |_::l,_::m,j+1,_,_,h1,h2=>aB9 (ids:=l) (ws:=m) (j:=j) h1 h2
 | [],_,_,_,_,h1,_=>by simp at h1
 |_::_,[],_,_,_,_,h2=>by simp at h2
theorem aKI:∀{ids:List Nat} {ws:List B} {j i:Nat} {b:B},ids[j]? =some i→(zp ids ws).set j (i,b)=zp ids (ws.set j b)
 |_::_,_::_,0,_,_,h1=>by injection h1 with h1;subst h1;rfl
 |i::l,b::m,j+1,_,_,h1=>congrArg ((i,b)::·) (aKI (ids:=l) (ws:=m) (j:=j) h1)
 | [],_,_,_,_,h1=>by simp at h1
 |_::_,[],_,_,_,_=>by simp[zp]
theorem at_eq(hl:ids.length=ws.length)(k:Nat):at_ ws k=ids.length-1-k:=by unfold at_;rw[aT,hl]
theorem tyL'_ok:∀{tys:List (Nat × TI)} {t:Nat} {k:TI→Prop},(∀p∈tys,F.ti p.1=some p.2)→tyL' tys t k→∃i,F.ti t=some i∧k i
 | [],_,_,_,h=>h.elim
 |p::l,t,k,ht,h=>by
  have h:cb (Nat.beq p.1 t) (k p.2) (tyL' l t k):=h;cases hb:Nat.beq p.1 t with
  |true=>
   rw[hb]at h;exact⟨p.2,aM.1 hb▸ht _ (List.mem_cons_self ..),h⟩
  |false=>
   rw[hb]at h;exact tyL'_ok (fun q hq=>ht q (List.mem_cons_of_mem _ hq)) h
theorem szF{t:Nat}{i:TI}(h:F.ti t=some i):sz F t=some i.sz:=by unfold sz;rw[h];rfl
theorem aFk(ht:∀p∈tys,F.ti p.1=some p.2):∀{fs:List (Nat × Nat)} {k:List (Nat × Nat)→Prop},szL tys fs k→∃pl,szs F fs=some pl∧k pl
 | [],_,h=>⟨[],rfl,h⟩
 |p::l,k,h=>by
  obtain⟨i,h1,h2⟩:=tyL'_ok ht (show tyL' tys p.2 _ from h);obtain⟨pl,h3,h4⟩:=aFk ht h2;refine⟨_,?_,h4⟩;show ob (sz F p.2) (fun s=>ob (szs F l) fun r=>some ((p.1,s)::r))=_;rw[szF h1,h3];rfl
theorem kS{pl:Nat→Option (Nat × Nat)}(h:RS ids sy s):∀{l:List (Nat × Operand)} {a c:List SV},jI pl sy l a=some c→gU pl s l a=some c
 | [],_,_,hx=>hx
 |p::l,a,c,hx=>by
  obtain⟨q,h1,hx⟩:=aA.1 (show ob (pl p.1) (fun q=>ob (yv sy p.2) fun y=>ob (rl y) fun v=>cells v fun c=>cb (Nat.beq (len c) q.2) (ob (dU q.1 c a) fun a=>jI pl sy l a) none)=some c from hx);obtain⟨y,h2,hx⟩:=aA.1 hx;obtain⟨v,h3,hx⟩:=aA.1 hx;obtain⟨u,h5,h6⟩:=h.ev h2;have:=nL h3 h6;subst this;show ob (pl p.1) (fun q=>ob (evs s p.2) fun v=>cells v fun c=>cb (Nat.beq (len c) q.2) (ob (dU q.1 c a) (gU pl s l)) none)=some c;rw[h1];show ob (evs s p.2) (fun v=>cells v fun c=>cb (Nat.beq (len c) q.2) (ob (dU q.1 c a) (gU pl s l)) none)=some c;rw[h5];cases u with
  |t l=>cases hx
  |c gg cs=>
   obtain⟨h7,hx⟩:=aD.1 (show cb (Nat.beq (len cs) q.2) (ob (dU q.1 cs a) fun a=>jI pl sy l a) none=some c from hx);obtain⟨a2,h8,h9⟩:=aA.1 hx;show cb (Nat.beq (len cs) q.2) (ob (dU q.1 cs a) (gU pl s l)) none=some c;rw[h7,h8];exact kS h h9
theorem aHo{d:Dk}{op:BinOp}{x z:SV}{k:SV→Prop}(h:aIB d op x z k):∃r,bop d op x z=some r∧k r:=by
 unfold aIB at h;split at h
 ·exact⟨_,aUv,h⟩
 ·exact⟨_,aUw,h⟩
 ·exact⟨_,aUx,h⟩
 ·exact⟨_,aUy,h⟩
 ·exact⟨_,aIz,h⟩
 ·exact⟨_,aUz,h⟩
 ·exact⟨_,aTm h.1.1 h.1.2,h.2⟩
 ·exact⟨_,aTn h.1.1 h.1.2,h.2⟩
 ·exact h
def Aft(F:Cf)(β:Nat)(g:H)(e:Env)(ls:List (AV × List Rat))(ps:List (AV × Rat))(sy:List (Nat × Y))(k:Y→List B→Prop)(v:AV)(h:H):Prop:=∃y ws ids s,k y ws∧YR ids y v∧Sy F β g e h sy ws ls ps ids s
variable {st:Bool} {k:Y→List B→Prop}
theorem aNZ{t:Nat}{x:Operand}{n:Int}{Q:AV→H→Prop}(hS:St β g e s h zs ls ps)(hx:evs s x=some (sc (.i .i64 n)))(h1:-9223372036854775808<n)(h2:n≤9223372036854775807)(k:Q (sc (.i .i64 (-n))) h):Xop F (.unOp .neg t x) e h Q:=
 .now (fun _=>by
  show oUn e h .neg x=_;unfold oUn;rw[aZ hS.k hx];show ob (mkZ .i64 (0-n)) (fun r=>vh r h)=_;rw[lC (by omega) (by omega),Int.zero_sub];rfl) k
theorem aCa{x:Operand}{i:TI}{t el n k:Nat}{r:Bool}{Q:AV→H→Prop}(hS:St β g e s h zs ls ps)(ht:F.ti t=some i)(hd:i.d=.sl el)(hx:evs s x=some (sc (cb r (.r n) (.m n))))(hk:F.ln r n=some k)(kk:Q (sc (.i .i64 (k:Int))) h):Xop F (.call {callee:=.builtin .len,args:=#[x],argTypes:=#[t]}) e h Q:=
 sP hS (args:=[_]) (by show ob (evs s x) _=_;rw[hx];rfl) (by
  show ob (F.ti t) (fun i=>one (sc (cb r (.r n) (.m n))) fun s=>(match i.d,s with| .str,.s l=>vh (.i .i64 (.ofNat (len l))) h| .sl _,.ns=>vh (.i .i64 0) h| .sl _,.sl _ _ n _=>vh (.i .i64 (.ofNat n)) h| .sl _,.v x=>roN h x| .sl _,.m n=>ob (F.ln false n) fun k=>vh (.i .i64 (.ofNat k)) h| .sl _,.r n=>ob (F.ln true n) fun k=>vh (.i .i64 (.ofNat k)) h|_,_=>none))=_;rw[ht];show (match i.d,cb r (SV.r n) (SV.m n) with| .str,.s l=>vh (.i .i64 (.ofNat (len l))) h| .sl _,.ns=>vh (.i .i64 0) h| .sl _,.sl _ _ n _=>vh (.i .i64 (.ofNat n)) h| .sl _,.v x=>roN h x| .sl _,.m n=>ob (F.ln false n) fun k=>vh (.i .i64 (.ofNat k)) h| .sl _,.r n=>ob (F.ln true n) fun k=>vh (.i .i64 (.ofNat k)) h|_,_=>none)=_;rw[hd];cases r<;>(show ob (F.ln _ n) _=_;rw[hk];rfl)) kk
theorem aN0{x y:Operand}{i:TI}{t j b:Nat}{l:List Nat}{c:SV}{Q:AV→H→Prop}(hS:St β g e s h zs ls ps)(ht:F.ti t=some i)(hd:i.d=.str)(hx:evs s x=some (sc (.s l)))(hy:evs s y=some (sc c))(hj:natOf c some=some j)(hb:l[j]? =some b)(kk:Q (sc (.i .u8 (b:Int))) h):Xop F (.index t x y) e h Q:=
 .now (fun _=>by
  show oIx F e h t x y=_;unfold oIx;rw[ht,aZ hS.k hy];cases c with
  |i k n=>
   cases n with
   |ofNat n=>
    injection hj with hj;subst hj
    show (match i.d with
       | .ar n2 el=>ob (F.ti el) fun g=>cb (Nat.blt n n2) (ob (ev e x) fun v=>agg v fun l=>ob (dG g.sz (drp (Nat.mul n g.sz) l)) fun l=>ob (av g.d.ag l) fun v=>some (v,h)) none
       | .str=>ob (ev e x) fun v=>one v fun s=>(match s with| .s l=>ob (drp n l).head? fun b=>vh (.i .u8 (.ofNat b)) h|_=>none)
       |_=>none)=_
    rw[hd];show (ob (ev e x) fun v=>one v fun s=>(match s with| .s l=>ob (drp n l).head? fun b=>vh (.i .u8 (.ofNat b)) h|_=>none))=_;rw[aZ hS.k hx];show ob (drp n l).head? (fun b=>vh (.i .u8 (.ofNat b)) h)=_;rw[jY,List.head?_drop,hb];rfl
   |negSucc n=>cases hj
  |_=>cases hj) kk
theorem Sy.keep{v:AV}{y:Y}(hS:Sy F β g e h sy ws ls ps ids s)(hk:k y ws)(hy:YR ids y v):Aft F β g e ls ps sy k v h:=⟨y,ws,ids,s,hk,hy,hS⟩
theorem Sy.new{b:B}{id:Nat}(hS:Sy F β g e h sy ws ls ps ids s)(hk:k (.p (E.len ws) 0) (b::ws))(hn:St β g e s h' ((id,b)::zp ids ws) ls ps):Aft F β g e ls ps sy k (sc (.p id 0)) h':=
 ⟨_,b::ws,id::ids,s,hk,⟨by rw[aT,←hS.len];exact Nat.lt_succ_self _,id,by rw[aT,←hS.len,List.length_cons,Nat.add_sub_cancel,Nat.sub_self];rfl,rfl⟩,hS.r.mono,congrArg Nat.succ hS.len,hn⟩
theorem aCU{c:Call}{k:AV→Prop}(ht:∀p∈tys,F.ti p.1=some p.2)(hS:Sy F β g e h sy ws ls ps ids s)(hb:β≤h.n)(hx:aBu F tys c sy k):Xop F (.call c) e h (Aft F β g e ls ps sy fun y w=>∃v,y=.a v∧w=ws∧k v):=by
 unfold aBu at hx;split at hx
 ·obtain⟨l,h1,v,h2,h3⟩:=aG hx;refine aUC hS.st (hS.r.evL h1) ((h2 h (hS.st.bl hb)).mono fun u h' hq=>?_);obtain⟨rfl,hx⟩:=hq;exact Sy.keep ⟨hS.r,hS.len,hS.st.xh hx⟩ ⟨_,rfl,rfl,h3⟩ rfl
 ·rename_i xs ts;split at hx
  ·rename_i t x e1 e2;obtain⟨i,h1,hx⟩:=tyL'_ok ht hx;split at hx
   ·rename_i hd;obtain⟨y,h2,hx⟩:=aG hx;obtain⟨v,h3,h4⟩:=hS.r.ev h2;obtain⟨x1,h5,hx⟩:=dY hx h4;split at hx
    ·subst h5;have a1:ts=#[t]:=Array.toList_inj.1 e1;have a2:xs=#[x]:=Array.toList_inj.1 e2;subst a1;subst a2;exact aKH hS.st h1 hd h3 (hS.keep ⟨_,rfl,rfl,hx⟩ rfl)
    ·exact hx.elim
   ·rename_i el hd;obtain⟨y,h2,hx⟩:=aG hx;obtain⟨v,h3,h4⟩:=hS.r.ev h2;obtain⟨x1,h5,hx⟩:=dY hx h4;split at hx
    ·obtain⟨n,h6,hx⟩:=aG hx;subst h5;have a1:ts=#[t]:=Array.toList_inj.1 e1;have a2:xs=#[x]:=Array.toList_inj.1 e2;subst a1;subst a2;exact aCa (r:=false) hS.st h1 hd h3 h6 (hS.keep ⟨_,rfl,rfl,hx⟩ rfl)
    ·obtain⟨n,h6,hx⟩:=aG hx;subst h5;have a1:ts=#[t]:=Array.toList_inj.1 e1;have a2:xs=#[x]:=Array.toList_inj.1 e2;subst a1;subst a2;exact aCa (r:=true) hS.st h1 hd h3 h6 (hS.keep ⟨_,rfl,rfl,hx⟩ rfl)
    ·exact hx.elim
   ·exact hx.elim
  ·exact hx.elim
 ·exact hx.elim
theorem zP{o:Op}(ht:∀p∈tys,F.ti p.1=some p.2)(hS:Sy F β g e h sy ws ls ps ids s)(hb:β≤h.n)(hw:st=true→β≤g.n)(hx:vop F tys st o sy ws k):Xop F o e h (Aft F β g e ls ps sy k):=by
 unfold vop at hx;split at hx
 ·obtain⟨y,h1,h2⟩:=aG hx;obtain⟨v,h3,h4⟩:=hS.r.ev h1;exact aRw hS.st h3 (hS.keep h2 h4)
 ·obtain⟨y,h1,h2⟩:=aG hx;obtain⟨v,h3,h4⟩:=hS.r.ev h1;exact aRx hS.st h3 (hS.keep h2 h4)
 ·obtain⟨y1,h1,hx⟩:=aG hx;obtain⟨v1,h3,h4⟩:=hS.r.ev h1;split at hx
  ·obtain⟨y,h5,hx⟩:=aG hx;obtain⟨v,h6,h7⟩:=hS.r.ev h5;have h4:v1=_:=h4;subst h4;exact aKF hS.st h3 h6 (hS.keep hx h7)
  ·exact hx.elim
 ·obtain⟨y1,h1,hx⟩:=aG hx;obtain⟨v1,h3,h4⟩:=hS.r.ev h1;split at hx
  ·obtain⟨p,h5,hx⟩:=aG hx;have h4:v1=_:=h4;subst h4;exact aIA hS.st h3 h5 (hS.keep hx rfl)
  ·exact hx.elim
 ·obtain⟨i,h1,hx⟩:=tyL'_ok ht hx;obtain⟨q,h2,hx⟩:=aG hx;obtain⟨j,h3,hx⟩:=tyL'_ok ht hx;obtain⟨h4,hx⟩:=cbT hx;obtain⟨y,h5,hx⟩:=aG hx;obtain⟨v,h6,h7⟩:=hS.r.ev h5;obtain⟨n,off,id,h8,h9,rfl,rfl,hx⟩:=zO hx h7;exact aRy hS.st h1 h2 (szF h3) h4 h6 (hS.keep hx ⟨h8,id,h9,rfl⟩)
 ·obtain⟨i,h1,hx⟩:=tyL'_ok ht hx;obtain⟨y,h5,hx⟩:=aG hx;obtain⟨v,h6,h7⟩:=hS.r.ev h5;obtain⟨n,off,id,h8,h9,rfl,rfl,hx⟩:=zO hx h7;obtain⟨b,h10,hx⟩:=aG hx;obtain⟨l,h11,hx⟩:=aG hx;obtain⟨u,h12,hx⟩:=aG hx;rw[at_eq hS.len]at h10;exact aUA hS.st h1 h6 (aB9 h9 h10) h11 h12 (hS.keep hx rfl)
 ·obtain⟨hst,hx⟩:=cbT hx;obtain⟨i,h1,hx⟩:=tyL'_ok ht hx;obtain⟨y,h5,hx⟩:=aG hx;obtain⟨v,h6,h7⟩:=hS.r.ev h5;obtain⟨n,off,id,h8,h9,rfl,rfl,hx⟩:=zO hx h7;obtain⟨y2,h10,hx⟩:=aG hx;obtain⟨v2,h11,hx⟩:=aG hx;obtain⟨v3,h12,h13⟩:=hS.r.ev h10;have:=nL h11 h13;subst this;split at hx
  ·obtain⟨b,h14,hx⟩:=aG hx;obtain⟨h15,hx⟩:=cbT hx;obtain⟨c,h16,hx⟩:=aG hx;obtain⟨h17,hx⟩:=cbT hx;rw[at_eq hS.len]at h14 hx;refine aUB hS.st (hw hst) (szF h1) h6 h12 (aM.1 h15) (aB9 h9 h14) h16 h17 fun h2 hS2=>?_;rw[aKI h9]at hS2;exact Sy.keep ⟨hS.r,by rw[List.length_set];exact hS.len,hS2⟩ hx rfl
  ·exact hx.elim
 ·obtain⟨i,h1,hx⟩:=tyL'_ok ht hx;exact aPq hS.st h1 fun id h2 hS2=>hS.new hx hS2
 ·obtain⟨y,h1,hx⟩:=aG hx;obtain⟨v,h2,hx⟩:=aG hx;obtain⟨v3,h3,h4⟩:=hS.r.ev h1;have:=nL h2 h4;subst this;split at hx
  ·exact aTq hS.st h3 fun id h2 hS2=>hS.new hx hS2
  ·exact hx.elim
 ·obtain⟨i,h1,hx⟩:=tyL'_ok ht hx;split at hx
  ·rename_i fs hd;obtain⟨pl,h2,hx⟩:=aFk ht hx;obtain⟨c,h3,hx⟩:=aG hx;exact aHn hS.st h1 hd h2 (kS hS.r h3) (hS.keep hx rfl)
  ·exact hx.elim
 ·obtain⟨i,h1,hx⟩:=tyL'_ok ht hx;obtain⟨h2,hx⟩:=cbF hx;obtain⟨y1,h3,hx⟩:=aG hx;obtain⟨v1,h4,h5⟩:=hS.r.ev h3;obtain⟨x1,rfl,hx⟩:=dY hx h5;obtain⟨y2,h6,hx⟩:=aG hx;obtain⟨v2,h7,h8⟩:=hS.r.ev h6;obtain⟨x2,rfl,hx⟩:=dY hx h8;obtain⟨r,h9,hx⟩:=aHo hx;exact aNU hS.st h1 h2 h4 h7 h9 (hS.keep hx rfl)
 ·obtain⟨y1,h3,hx⟩:=aG hx;obtain⟨v1,h4,h5⟩:=hS.r.ev h3;obtain⟨x1,rfl,hx⟩:=dY hx h5;split at hx
  ·exact aNV hS.st h4 (hS.keep hx rfl)
  ·exact hx.elim
 ·obtain⟨y1,h3,hx⟩:=aG hx;obtain⟨v1,h4,h5⟩:=hS.r.ev h3;obtain⟨x1,rfl,hx⟩:=dY hx h5;split at hx
  ·exact aNZ hS.st h4 hx.1.1 hx.1.2 (hS.keep hx.2 rfl)
  ·exact hx.elim
 ·obtain⟨i,h1,hx⟩:=tyL'_ok ht hx;split at hx
  ·rename_i hd;obtain⟨y,h2,hx⟩:=aG hx;obtain⟨v,h3,h4⟩:=hS.r.ev h2;obtain⟨x1,rfl,hx⟩:=dY hx h4;split at hx
   ·rename_i l;obtain⟨y2,h5,hx⟩:=aG hx;obtain⟨v2,h6,h7⟩:=hS.r.ev h5;obtain⟨x2,rfl,hx⟩:=dY hx h7;obtain⟨j,h8,b,h9,hx⟩:=aG hx;exact aN0 hS.st h1 hd h3 h6 h8 h9 (hS.keep hx rfl)
   ·exact hx.elim
  ·exact hx.elim
 ·refine (aCU ht hS hb hx).mono fun v h' hq=>?_;obtain⟨y,w,ids,s,⟨v2,rfl,rfl,h1⟩,h2,h3⟩:=hq;exact⟨_,_,ids,s,h1,h2,h3⟩
 ·exact hx.elim
variable {ops l:List Oper} {o:Oper}
theorem aFl{gd:Option (Nat × Bool)}{k:Bool→List (Nat × Y)→Prop}(hS:Sy F β g e h sy ws ls ps ids s)(hx:vgd ops sy gd k):∃t sy s,wanted ops e gd=some t∧k t sy∧Sy F β g e h sy ws ls ps ids s:=by
 unfold vgd at hx;split at hx
 ·exact⟨_,_,_,rfl,hx,hS⟩
 ·rename_i gi w;obtain⟨o,h1,hx⟩:=aG hx;obtain⟨j,h2,hx⟩:=aG hx;obtain⟨y,h3,hx⟩:=aG hx;obtain⟨v,h4,h5⟩:=hS.r.lk h3;split at hx
  ·rename_i x;have h5:v=sc (.b x):=h5;subst h5;exact⟨_,_,_,oF hS.st h1 h2 h4,hx,hS⟩
  ·rename_i x;have h5:v=sc (.b x):=h5;subst h5;have key:Sy F β g e h ((j,.b x)::sy) ws ls ps ids ((j,sc (.b x))::s):=⟨⟨rfl,rfl,hS.r⟩,hS.len,⟨kn1 (hS.st.k j _ h4) hS.st.k,hS.st.n,hS.st.bar,hS.st.o,hS.st.l,hS.st.w,hS.st.ls,hS.st.ps⟩⟩
   cases x with
   |true=>exact⟨_,_,_,oF hS.st h1 h2 h4,hx.1 rfl,key⟩
   |false=>exact⟨_,_,_,oF hS.st h1 h2 h4,hx.2 rfl,key⟩
  ·have h5:v=.t []:=h5;subst h5;refine⟨_,_,_,?_,hx,hS⟩;show (ob (drp gi ops).head? fun o=>ob o.dst fun d=>isB (e.get d) w)=_;rw[h1];show (ob o.dst fun d=>isB (e.get d) w)=_;rw[h2];show isB (e.get j) w=_;rw[hS.st.k j _ h4];rfl
  ·exact hx.elim
theorem nM{C:Env→H→Prop}{Go:Prop}{k:List (Nat × Y)→List B→Prop}(ht:∀p∈tys,F.ti p.1=some p.2)(hS:Sy F β g e h sy ws ls ps ids s)(hb:β≤h.n)(hw:st=true→β≤g.n)(hx:vst F tys st nt ops o sy ws k)
  (p1:∀d,wanted ops e o.guard=some true→o.dst=some d→Nat.blt d nt=true→Xop F o.op e h (fun v h=>Pk d v e h C)→Go)
  (p2:∀d,wanted ops e o.guard=some false→o.dst=some d→Nat.blt d nt=true→Pk d un e h C→Go)
  (p3:o.guard=none→o.dst=none→Xop F o.op e h (fun _ h=>C e h)→Go)
  (kk:∀e h sy ws ids s,Sy F β g e h sy ws ls ps ids s→k sy ws→C e h):Go:=by
 unfold vst at hx;split at hx
 ·rename_i hd;split at hx
  ·rename_i hg;refine p3 hg hd ((zP ht hS hb hw hx).mono fun v h' hq=>?_);obtain⟨y,ws,ids,s,h1,h2,h3⟩:=hq;exact kk _ _ _ _ _ _ h3 h1
  ·exact hx.elim
 ·rename_i d hd;obtain⟨hn,hx⟩:=cbT hx;obtain⟨t,sy,s,h1,hx,hS⟩:=aFl hS hx;cases t with
  |true=>
   refine p1 d h1 hd hn ((zP ht hS hb hw hx).mono fun v h' hq=>?_);obtain⟨y,ws,ids,s,h1,h2,h3⟩:=hq;exact h3.st.pk fun e hS2=>kk _ _ _ _ _ _ ⟨h3.r.cons h2,h3.len,hS2⟩ h1
  |false=>exact p2 d h1 hd hn (hS.st.pk fun e hS2=>kk _ _ _ _ _ _ ⟨hS.r.cons (y:=.a un) rfl,hS.len,hS2⟩ hx)
theorem aCb{i d:Nat}{late:List Nat}{M:List (Nat × List Nat)}{Q:Env→H→Prop}(ho:(drp i ops).head? =some o)(hw:wanted ops e o.guard=some false)(hd:o.dst=some d)(hn:Nat.blt d nt=true)(k:Pk d un e h fun e h=>Ag F ops late e h∧Xb F nt ops M e h Q):Xb F nt ops ((i,late)::M) e h Q:=by
 obtain⟨ka,e2,h2,⟨m1,k2⟩,k3⟩:=k;refine⟨e2,h2,⟨m1,fun m hm=>?_⟩,k3⟩;refine (rH ho).trans ?_;refine (aBs hw).trans ?_;rw[hd,oD hn];exact (ka _).trans (k2 m (by omega))
variable {Q:Env→H→Prop} {k:List (Nat × Y)→List B→Prop}
theorem wD(ht:∀p∈tys,F.ti p.1=some p.2)(hg:β≤g.n):∀{l:List Oper} {e:Env} {h:H} {sy:List (Nat × Y)} {ws:List B} {ids:List Nat} {s:List (Nat × AV)},Sy F β g e h sy ws ls ps ids s→xL F tys nt ops l sy ws k→(∀e h sy ws ids s,Sy F β g e h sy ws ls ps ids s→k sy ws→Q e h)→Xr F nt ops l e h Q
 | [],_,_,_,_,_,_,hS,hx,kk=>aKA (kk _ _ _ _ _ _ hS hx)
 |_::_,_,_,_,_,_,_,hS,hx,kk=>nM ht hS (Nat.le_trans hg hS.st.n) (fun _=>hg) hx (fun _ a b c x=>aHl a b c x) (fun _ a b c x=>aKB a b c x) (fun a b x=>aFd a b x) fun _ _ _ _ _ _ hS hx=>wD ht hg hS hx kk
theorem jJ(ht:∀p∈tys,F.ti p.1=some p.2)(hS:Sy F β g e h sy ws ls ps ids s):∀{l:List Nat},vag tys ops sy ws l→Ag F ops l e h
 | [],_=>aB8
 |i::l,hx=>by
  obtain⟨o,h1,hx⟩:=aG hx;split at hx
  ·rename_i e1;exact aBt h1 (by rw[e1];rfl) (jJ ht hS hx)
  ·rename_i e1;obtain⟨j,h2,hx⟩:=tyL'_ok ht hx;obtain⟨y,h3,hx⟩:=aG hx;obtain⟨v,h4,h5⟩:=hS.r.ev h3;obtain⟨n,off,id,h8,h9,rfl,rfl,hx⟩:=zO hx h5;obtain⟨b,h10,hx⟩:=aG hx;obtain⟨c,h11,hx⟩:=aG hx;obtain⟨u,h12,hx⟩:=aG hx;obtain⟨d,h13,hx⟩:=aG hx;obtain⟨y2,h14,hx⟩:=aG hx;obtain⟨h15,rfl,h16,hz⟩:=hx;obtain⟨v2,h17,h18⟩:=hS.r.lk h14;have h18:v2=u:=h18;subst h18;rw[at_eq hS.len]at h10;exact aRu h1 (by rw[e1];rfl) h15 h13 (hS.st.k _ _ h17) (by rw[e1];exact aFi hS.st h2 h4 (hS.st.w.1 _ (List.mem_of_getElem? (aB9 h9 h10))).2.2 h11 h12) h16 (jJ ht hS hz)
  ·exact hx.elim
theorem xM(ht:∀p∈tys,F.ti p.1=some p.2)(hg:β≤g.n):∀{l:List (Nat × List Nat)} {e:Env} {h:H} {sy:List (Nat × Y)} {ws:List B} {ids:List Nat} {s:List (Nat × AV)},Sy F β g e h sy ws ls ps ids s→vB F tys nt ops l sy ws k→(∀e h sy ws ids s,Sy F β g e h sy ws ls ps ids s→k sy ws→Q e h)→Xb F nt ops l e h Q
 | [],_,_,_,_,_,_,hS,hx,kk=>aKD (kk _ _ _ _ _ _ hS hx)
 |(_,[])::_,_,_,_,_,_,_,hS,hx,kk=>by
  obtain⟨o,h1,hx⟩:=aG hx;exact nM ht hS (Nat.le_trans hg hS.st.n) (fun _=>hg) hx (fun _ a b c x=>aAK h1 a b c x) (fun _ a b c x=>aCb h1 a b c x) (fun a b x=>xJ h1 a b x) fun _ _ _ _ _ _ hS hx=>⟨aB8,xM ht hg hS hx kk⟩
 |(_,_::_)::_,_,_,_,_,_,_,hS,hx,kk=>by
  obtain⟨o,h1,hx⟩:=aG hx;exact nM ht hS (Nat.le_trans hg hS.st.n) (fun _=>hg) hx (fun _ a b c x=>aAK h1 a b c x) (fun _ a b c x=>aCb h1 a b c x) (fun a b x=>xJ h1 a b x) fun _ _ _ _ _ _ hS hx=>⟨jJ ht hS hx.1,xM ht hg hS hx.2 kk⟩
theorem aCc{b:Nat}{M:List (Nat × List Nat)}(ht:∀p∈tys,F.ti p.1=some p.2):∀{l:List Nat} {β:Nat} {e:Env} {h:H} {sy:List (Nat × Y)} {ws:List B} {ids:List Nat} {s:List (Nat × AV)},Sy F β g e h sy ws ls ps ids s→vA F tys nt ops l sy ws k→(∀e h sy ws ids s,Sy F b g e h sy ws ls ps ids s→k sy ws→Xb F nt ops M e h Q)→Xa F nt ops b M l e h Q
 | [],_,_,_,_,_,_,_,hS,hx,kk=>aKC (kk _ _ _ _ _ _ ⟨hS.r,hS.len,hS.st.back b⟩ hx)
 |_::_,_,_,_,_,_,_,_,hS,hx,kk=>by
  obtain⟨o,h1,hx⟩:=aG hx;exact nM (st:=false) ht (⟨hS.r,hS.len,hS.st.lift⟩:Sy F _ g _ _ _ _ ls ps _ _) (Nat.le_refl _) (fun h=>by cases h) hx (fun _ a b c x=>aHm h1 a b c x) (fun _ a b c x=>aKE h1 a b c x) (fun a b x=>aFe h1 a b x) fun _ _ _ _ _ _ hS hx=>aCc ht hS hx kk
theorem aKJ:∀{a:List Nat} {x:List B} {b:List Nat} {y:List B},a.length=x.length→zp (a++b) (x++y)=zp a x++zp b y
 | [],[],_,_,_=>rfl
 |i::a,b::x,_,_,h=>congrArg ((i,b)::·) (aKJ (Nat.succ.inj h))
 | [],_::_,_,_,h=>by cases h
 |_::_,[],_,_,h=>by cases h
theorem wE{d:List Nat}(h:RS (d++ids) sy s):∀{t:List (Nat × Y)},aBv ids.length sy t→∃s2,RS ids t s2∧∀k v,E.lk s2 k=some v→∃y,E.lk s k=some v∧YR ids y v
 | [],_=>⟨[],trivial,fun _ _ h=>by cases h⟩
 |p::l,hx=>by
  obtain⟨⟨h1,h2⟩,h3⟩:=hx;obtain⟨s2,h4,h5⟩:=wE h h3;obtain⟨v,h6,h7⟩:=h.lk h1;have h8:YR ids p.2 v:=by
    obtain⟨p1,y⟩:=p;cases y with
    |a u=>exact h7
    |b x=>exact h7
    |p k off=>
     obtain⟨-,id,h9,h10⟩:=h7;have h2:k<ids.length:=h2;refine⟨h2,id,?_,h10⟩;rw[List.getElem?_append_right (by rw[List.length_append];omega)]at h9;rw[List.length_append]at h9
     rwa [show d.length+ids.length-1-k-d.length=ids.length-1-k by omega]at h9
  refine⟨(p.1,v)::s2,⟨rfl,h8,h4⟩,fun k u hk=>?_⟩;have hk:cb (Nat.beq p.1 k) (some v) (E.lk s2 k)=some u:=hk;cases hb:Nat.beq p.1 k with
  |true=>
   rw[hb]at hk;injection hk with hk;rw[←aM.1 hb,←hk];exact⟨p.2,h6,h8⟩
  |false=>
   rw[hb]at hk;exact h5 k u hk
theorem Sy.fit{t:List (Nat × Y) × List B}(hS:Sy F β g e h sy ws ls ps ids s)(hf:fits sy ws t):∃ids s,Sy F β g e h t.1 t.2 ls ps ids s:=by
 obtain⟨⟨d,rfl⟩,h2⟩:=hf;have hl:=hS.len;rw[List.length_append]at hl;obtain⟨a,b,rfl,ha⟩:∃a b,ids=a++b∧a.length=d.length:=⟨ids.take d.length,ids.drop d.length,(List.take_append_drop _ _).symm,by rw[List.length_take];omega⟩
 have hb:b.length=t.2.length:=by rw[List.length_append]at hl;omega
 rw[←hb]at h2;obtain⟨s2,h3,h4⟩:=wE hS.r h2;have st:=hS.st;rw[aKJ ha]at st;have st2:=st.drop (List.sublist_append_right _ _);exact⟨b,s2,h3,hb,⟨fun k v hk=>(h4 k v hk).elim fun _ q=>st2.k k v q.1,st2.n,st2.bar,st2.o,st2.l,st2.w,st2.ls,st2.ps⟩⟩
theorem aIC(ht:∀p∈tys,F.ti p.1=some p.2)(hg:β≤g.n)(c:Code):∀{e:Env} {h:H} {sy:List (Nat × Y)} {ws:List B} {ids:List Nat} {s:List (Nat × AV)} {k:Ex→List (Nat × Y)→List B→Prop},Sy F β g e h sy ws ls ps ids s→vc F tys nt fn c sy ws k→Xw F nt fn c e h fun x e h=>∃sy ws ids s,k x sy ws∧Sy F β g e h sy ws ls ps ids s:=by
 induction c with
 |skip=>exact fun hS hx=>aKx ⟨_,_,_,_,hx,hS⟩
 |ret=>exact fun hS hx=>aNS ⟨_,_,_,_,hx,hS⟩
 |exit id=>exact fun hS hx=>aKy ⟨_,_,_,_,hx,hS⟩
 |seq a b iha ihb=>
  intro e h sy ws ids s k hS hx;refine aNT ((iha hS hx).mono fun x e h hq=>?_);obtain⟨sy,ws,ids,s,hk,hS⟩:=hq;cases x with
  |n=>exact ihb hS hk
  |x id=>exact⟨_,_,_,_,hk,hS⟩
  |r=>exact⟨_,_,_,_,hk,hS⟩
 |region id ops dr=>
  intro e h sy ws ids s k hS hx;cases dr with
  |true=>
   obtain⟨p,h1,h2,hx⟩:=aG (show oo (F.pl fn id) fun p=>lU F ops p=true∧vA F tys nt ops.toList p.1 sy ws fun s ws=>vB F tys nt ops.toList p.2 s ws (k .n) from hx);exact aRz hS.st h1 h2 (aCc ht hS hx fun _ _ _ _ _ _ hS hx=>xM ht hg hS hx fun _ _ _ _ _ _ hS hx=>⟨_,_,_,_,hx,hS⟩)
  |false=>exact aFc (wD ht hg hS (show xL F tys nt ops.toList ops.toList sy ws (k .n) from hx) fun _ _ _ _ _ _ hS hx=>⟨_,_,_,_,hx,hS⟩)
 |cond c a b iha ihb=>
  intro e h sy ws ids s k hS hx;obtain⟨y,h1,hx⟩:=aG (show oo (yv sy c) fun y=>(match y with| .b x=>cb x (vc F tys nt fn a sy ws k) (vc F tys nt fn b sy ws k)| .a (.c false [.b x])=>(x=true→vc F tys nt fn a sy ws k)∧(x=false→vc F tys nt fn b sy ws k)|_=>False) from hx);obtain⟨v,h2,h3⟩:=hS.r.ev h1;split at hx
  ·rename_i x;have h3:v=sc (.b x):=h3;subst h3;cases x with
   |true=>exact wB (aZ hS.st.k h2) (fun _=>iha hS hx) fun e=>by cases e
   |false=>exact wB (aZ hS.st.k h2) (fun e=>by cases e) fun _=>ihb hS hx
  ·rename_i x;have h3:v=sc (.b x):=h3;subst h3;exact wB (aZ hS.st.k h2) (fun e=>iha hS (hx.1 e)) fun e=>ihb hS (hx.2 e)
  ·exact hx.elim
 |block id a iha=>
  intro e h sy ws ids s k hS hx;refine aHk ((iha hS (show vc F tys nt fn a sy ws (fun x s ws=>(match x with| .x j=>cb (Nat.beq id j) (k .n s ws) (k (.x j) s ws)|x=>k x s ws)) from hx)).mono fun x e h hq=>?_);obtain⟨sy,ws,ids,s,hk,hS⟩:=hq;cases x with
  |n=>exact⟨_,_,_,_,hk,hS⟩
  |r=>exact⟨_,_,_,_,hk,hS⟩
  |x j=>
   show cb (Nat.beq id j) _ _;have hk:cb (Nat.beq id j) _ _:=hk;cases hb:Nat.beq id j with
   |true=>rw[hb]at hk;exact⟨_,_,_,_,hk,hS⟩
   |false=>rw[hb]at hk;exact⟨_,_,_,_,hk,hS⟩
 |loop a iha=>
  intro e h sy ws ids s k hS hx;obtain⟨ι,I,m,⟨i,hi⟩,hk⟩:=hx;obtain⟨ids,s,hS⟩:=hS.fit hi;refine aKz (fun n e h=>∃i ids s,m i=n∧Sy F β g e h (I i).1 (I i).2 ls ps ids s) (fun n e h hI=>?_) (m i) e h ⟨i,ids,s,rfl,hS⟩;obtain⟨i,ids,s,rfl,hS⟩:=hI;refine (iha hS (hk i)).mono fun x e h hq=>?_;obtain⟨sy,ws,ids,s,hq,hS⟩:=hq;cases x with
  |n=>
   obtain⟨j,hj,hf⟩:=hq;obtain⟨ids,s,hS⟩:=hS.fit hf;exact⟨m j,hj,j,ids,s,rfl,hS⟩
  |x id=>exact⟨_,_,_,_,hq,hS⟩
  |r=>exact⟨_,_,_,_,hq,hS⟩
 |_=>exact fun _ hx=>hx.elim
theorem aPr{r:ResultVar}{k:Bool × List SV→Prop}(ht:∀p∈tys,F.ti p.1=some p.2)(hS:Sy F β g e h sy ws ls ps ids s)(hx:aMG tys r sy ws k):∃p,aBq F e h r=some p∧k p:=by
 unfold aMG at hx;split at hx
 ·obtain⟨y,h1,hx⟩:=aG hx;obtain⟨v,h2,hx⟩:=aG hx;obtain⟨u,h3,h4⟩:=hS.r.lk h1;have:=nL h2 h4;subst this;split at hx
  ·refine⟨_,?_,hx⟩;show ob (e.get _) fP=_;rw[hS.st.k _ _ h3];rfl
  ·exact hx.elim
 ·obtain⟨i,h1,hx⟩:=tyL'_ok ht hx;obtain⟨y,h2,hx⟩:=aG hx;obtain⟨v,h3,h4⟩:=hS.r.lk h2;obtain⟨n,off,id,h8,h9,rfl,rfl,hx⟩:=zO hx h4;obtain⟨b,h10,hx⟩:=aG hx;obtain⟨l,h11,hx⟩:=aG hx;obtain⟨h12,hx⟩:=cbT hx;rw[at_eq hS.len]at h10;refine⟨_,?_,hx⟩;show (ob (F.ti _) fun i=>ob (e.get _) fun v=>one v fun s=>match s with| .p id off=>ob (rd h id off i.sz) fun c=>ob (av i.d.ag c) fP|_=>none)=_;rw[h1,hS.st.k _ _ h3];show (ob (rd h id off i.sz) fun c=>ob (av i.d.ag c) fP)=_;unfold rd;rw[(hS.st.w.1 _ (List.mem_of_getElem? (aB9 h9 h10))).2.2];show (ob (dG i.sz (drp off b.c)) fun c=>ob (av i.d.ag c) fP)=_;rw[h11];show ob (av i.d.ag l) fP=_;rw[h12];rfl
theorem oG(ht:∀p∈tys,F.ti p.1=some p.2)(hS:Sy F β g e h sy ws ls ps ids s):∀{l:List ResultVar} {k:List (Bool × List SV)→Prop},uC tys l sy ws k→∃q,res F e h l=some q∧k q
 | [],_,hx=>⟨[],rfl,hx⟩
 |r::l,k,hx=>by
  obtain⟨p,h1,hx⟩:=aPr ht hS hx;obtain⟨q,h2,h3⟩:=oG ht hS hx;refine⟨_,?_,h3⟩;show ob (aBq F e h r) (fun v=>ob (res F e h l) fun l=>some (v::l))=_;rw[h1,h2];rfl
noncomputable def ix (k:Nat):List AV→List (Nat × AV)
 | []=>[]
 |v::l=>(k,v)::ix (k+1) l
theorem aCd:∀{l:List AV} {k:Nat},RS ids (ixY k l) (ix k l)
 | [],_=>trivial
 |_::_,_=>⟨rfl,rfl,aCd⟩
theorem aCV:∀{l:List AV} {k:Nat} {e:Env},k+l.length≤nt→∃e0,qQ nt l k e=some e0∧(∀j,j<k→e0.get j=e.get j)∧∀j u,E.lk (ix k l) j=some u→e0.get j=some u
 | [],k,e,_=>⟨e,rfl,fun _ _=>rfl,fun _ _ h=>by cases h⟩
 |v::l,k,e,hn=>by
  have hn:k+(l.length+1)≤nt:=hn;obtain⟨e0,h1,h2,h3⟩:=aCV (l:=l) (k:=k+1) (e:=e.set v k) (by omega);refine⟨e0,?_,fun j hj=>(h2 j (by omega)).trans (T.get_ne (by omega)),fun j u hu=>?_⟩
  ·show cb (Nat.blt k nt) (qQ nt l (k+1) (e.set v k)) none=_;rw[aP.2 (show k<nt by omega)];exact h1
  ·have hu:cb (Nat.beq k j) (some v) (E.lk (ix (k+1) l) j)=some u:=hu;cases hb:Nat.beq k j with
   |true=>
    rw[hb]at hu;injection hu with hu;rw[←aM.1 hb,h2 k (Nat.lt_succ_self k),T.get_same,hu]
   |false=>
    rw[hb]at hu;exact h3 j u hu
theorem Fc.by_{G:Func}{f:Nat}{cd:Code}{args:List AV}{v:AV}(ht:∀p∈tys,F.ti p.1=some p.2)(hG:F.P.funcs[f]? =some G)(hb:G.body=some cd)(hp:F.pr f=none)(hh:F.ph f=none)(hn:Nat.ble args.length G.ntmps=true)(hx:vfn F tys G f cd args v):Fc F f args v:=fun h hbar=>by
 obtain⟨e0,h1,-,h2⟩:=aCV (nt:=G.ntmps) (l:=args) (k:=0) (e:=fill G.ntmps 0 .lf) (by have:=bN.1 hn;omega);refine aNY hG hb hp hh h1 (s:=ix 0 args) (ls:=[]) h2 aRA fun β e eβ hS=>?_;subst eβ;refine (aIC (ls:=[]) (ps:=[]) ht hbar cd (ids:=[]) (ws:=[]) ⟨aCd,rfl,hS⟩ hx).mono fun x e h' hq=>?_;obtain⟨sy,ws,ids,s,hk,hS⟩:=hq;cases x with
 |x id=>exact hk.elim
 |n=>
  obtain⟨q,h3,h4⟩:=oG ht hS hk;exact⟨_,by show (ob (res F e h' G.results.toList) fun l=>some (tup l,h'))=_;rw[h3];rfl,h4,hS.st.out⟩
 |r=>
  obtain⟨q,h3,h4⟩:=oG ht hS hk;exact⟨_,by show (ob (res F e h' G.results.toList) fun l=>some (tup l,h'))=_;rw[h3];rfl,h4,hS.st.out⟩
theorem Fc.pr{f:Nat}{G:Func}{cd:Code}{gg:List AV→Option AV}{args:List AV}{v:AV}(hG:F.P.funcs[f]? =some G)(hb:G.body=some cd)(hp:F.pr f=some gg)(hg:gg args=some v):Fc F f args v:=fun _ _=>aNX hG hb hp hg ⟨rfl,Xh.refl _⟩
theorem dt{c:Prop}[Decidable c]{A C:Prop}(a:c→A)(b:¬c→C):(decide c=true→A)∧(decide c=false→C):=⟨fun h=>a (of_decide_eq_true h),fun h=>b (of_decide_eq_false h)⟩
theorem dn{c:Prop}[Decidable c]{A B:Prop}(a:¬c→A)(b:c→B):(dV (decide c)=true→A)∧(dV (decide c)=false→B):=by
 by_cases h:c
 ·rw[decide_eq_true h];exact⟨nofun,fun _=>b h⟩
 ·rw[decide_eq_false h];exact⟨fun _=>a h,nofun⟩
end
end E
end Go.Proofs.YtohcfjmkfflkpaaGreatDoor
