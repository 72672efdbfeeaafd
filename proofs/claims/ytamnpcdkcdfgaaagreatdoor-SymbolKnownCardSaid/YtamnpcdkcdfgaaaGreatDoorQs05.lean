/- SymbolKnown holds. No condition. -/
import Derived.ChangeKeysEq
import Derived.Laws.Slices
import Derived.Test.YtamnpcdkcdfgaaaGreatDoorQs04
namespace Go.Proofs.YtamnpcdkcdfgaaaGreatDoor
namespace E
open Go
section
variable {F:Cf} {call:bB} {e e':Env} {h h0:H}
theorem nT{o:Op}(k:∀x∈o.operands,ev e x=ev e' x):op1 F call o e h=op1 F call o e' h:=by
 cases o with
 |move x=>simp only[op1,dL,k x (by simp[Op.operands])]
 |assign x=>simp only[op1,dL,k x (by simp[Op.operands])]
 |pick c a d=>
  have h1:=k c (by simp[Op.operands]);have h2:=k a (by simp[Op.operands]);have h3:=k d (by simp[Op.operands]);have h4:∀x,ev e (cb x a d)=ev e' (cb x a d):=fun x=>by cases x<;>assumption
  simp only[op1,dL,oI,h1,h4]
 |alloc t=>rfl
 |box t x=>simp only[op1,dL,tF,k x (by simp[Op.operands])]
 |build t ps=>
  have h1:∀pl,parts pl e ps.toList=parts pl e' ps.toList:=fun pl=>xQ fun p hp=>k p.2 (by simp only[Op.operands,List.mem_toArray,List.mem_map];exact⟨p,hp,rfl⟩);simp only[op1,dL,lN,h1]
 |buildSlice t n ps=>
  have h1:∀pl,parts pl e ps.toList=parts pl e' ps.toList:=fun pl=>xQ fun p hp=>k p.2 (by simp only[Op.operands,List.mem_toArray,List.mem_map];exact⟨p,hp,rfl⟩);simp only[op1,dL,gT,h1]
 |load t x=>simp only[op1,dL,rA,k x (by simp[Op.operands])]
 |store t x y=>simp only[op1,dL,nP,k x (by simp[Op.operands]),k y (by simp[Op.operands])]
 |nilCheck x=>simp only[op1,dL,zC,k x (by simp[Op.operands])]
 |binOp op t x y t2=>simp only[op1,dL,tH,k x (by simp[Op.operands]),k y (by simp[Op.operands])]
 |unOp op t x=>simp only[op1,dL,oUn,k x (by simp[Op.operands])]
 |convert s t x=>simp only[op1,dL,uX,k x (by simp[Op.operands])]
 |makeFunc g x y=>
  have h1:evL e y.toList=evL e' y.toList:=aBx fun z hz=>k z (by simp[Op.operands]<;>simp_all);have h2:∀m r,x.toList=[r]→oMv e h m r=oMv e' h m r:=fun m r hr=>by
    unfold oMv;rw[k r (by simp only[Op.operands,Array.mem_append];left;rw[←Array.mem_toList_iff,hr];simp)]
  show mU e h g x.toList y.toList=mU e' h g x.toList y.toList;unfold mU;rw[h1];split
  ·rfl
  ·rename_i m r hr;rw[h2 m r hr]
  ·rfl
 |makeSlice t x y=>simp only[op1,dL,vC,k x (by simp[Op.operands]),k y (by simp[Op.operands])]
 |slice t x lo hi mx=>
  have h1:=k x (by simp[Op.operands]);have h2:∀(d:Nat) (f:Nat→Option VH),bound e lo d f=bound e' lo d f:=fun d f=>rC fun y hy=>k y (by simp[Op.operands,hy]);have h3:∀(d:Nat) (f:Nat→Option VH),bound e hi d f=bound e' hi d f:=fun d f=>rC fun y hy=>k y (by simp[Op.operands,hy]);have h4:∀y,mx=some y→∀(d:Nat) (f:Nat→Option VH),bound e (some y) d f=bound e' (some y) d f:=fun y hy d f=>rC fun z hz=>k z (by injection hz with hz;subst hz;simp[Op.operands,hy]);cases mx with
  |none=>simp only[op1,dL,lQ,h1,h2,h3]
  |some mx=>
   cases hi with
   |none=>rfl
   |some hi=>
    have h4:=h4 mx rfl;simp only[op1,dL,lQ,h1,h2,h3,h4]
 |makeInterface t x=>simp only[op1,dL,oIf,k x (by simp[Op.operands])]
 |makeMap t r=>rfl
 |lookup t x ix ok=>simp only[op1,dL,aAH,k x (by simp[Op.operands]),k ix (by simp[Op.operands])]
 |mapUpdate t m a x=>simp only[op1,dL,uY,k m (by simp[Op.operands]),k a (by simp[Op.operands]),k x (by simp[Op.operands])]
 |insert t m a x=>simp only[op1,dL,uY,k m (by simp[Op.operands]),k a (by simp[Op.operands]),k x (by simp[Op.operands])]
 |range t x=>simp only[op1,dL,tJ,k x (by simp[Op.operands])]
 |next x b=>simp only[op1,dL,uZ,xL,itM,k x (by simp[Op.operands])]
 |entry x=>simp only[op1,dL,xK,itM,k x (by simp[Op.operands])]
 |fieldAddr s x g=>simp only[op1,dL,oFA,k x (by simp[Op.operands])]
 |field s x g=>simp only[op1,dL,qF,k x (by simp[Op.operands])]
 |indexAddr t x y=>simp only[op1,dL,oIA,k x (by simp[Op.operands]),k y (by simp[Op.operands])]
 |index t x y=>simp only[op1,dL,oIx,k x (by simp[Op.operands]),k y (by simp[Op.operands])]
 |extract x i=>simp only[op1,dL,tK,k x (by simp[Op.operands])]
 |call c=>
  obtain⟨callee,xs,ats⟩:=c;have h1:evL e xs.toList=evL e' xs.toList:=aBx fun z hz=>k z (by simp only[Op.operands,Call.operands,Array.mem_append];right;simpa using hz);cases callee with
  |value g=>
   have h2:=k g (by simp[Op.operands,Call.operands]);show (ob (ev e g) fun f=>ob (evL e xs.toList) fun l=>call f l h)=ob (ev e' g) fun f=>ob (evL e' xs.toList) fun l=>call f l h;rw[h1,h2]
  |invoke r m=>
   have h2:=k r (by simp[Op.operands,Call.operands]);show (ob (ev e r) fun v=>one v fun s=>match s with| .v x=>ifT x fun t=>ob (kS F t m) fun fn=>ob (evL e xs.toList) fun l=>call (sc (.f fn [])) (.c true []::l) h|_=>none)=(ob (ev e' r) fun v=>one v fun s=>match s with| .v x=>ifT x fun t=>ob (kS F t m) fun fn=>ob (evL e' xs.toList) fun l=>call (sc (.f fn [])) (.c true []::l) h|_=>none)
   rw[h1,h2]
  |builtin b=>
   show (ob (evL e xs.toList) fun l=>bi F h b ats.toList l)=ob (evL e' xs.toList) fun l=>bi F h b ats.toList l;rw[h1]
 |_=>rfl
end
structure Fr0 (h h':H):Prop where
 bar:h'.bar=h.bar
 n:h.n≤h'.n
 b:∀id b,id<h.bar→h'.h.get id=some b→h.h.get id=some b
 lo:∀id b,id<h.bar→h'.l.get id=some b→h.l.get id=some b
 wb:(∀id b,h.h.get id=some b→id<h.n)→∀id b,h'.h.get id=some b→id<h'.n
 wl:(∀id b,h.l.get id=some b→id<h.n)→∀id b,h'.l.get id=some b→id<h'.n
theorem Fr0.refl(h:H):Fr0 h h:=⟨rfl,Nat.le_refl _,fun _ _ _ k=>k,fun _ _ _ k=>k,fun k=>k,fun k=>k⟩
theorem Fr0.trans{a c d:H}(p:Fr0 a c)(q:Fr0 c d):Fr0 a d:=
 ⟨q.bar.trans p.bar,Nat.le_trans p.n q.n,fun id b i k=>p.b id b i (q.b id b (p.bar▸i) k),fun id b i k=>p.lo id b i (q.lo id b (p.bar▸i) k),fun k=>q.wb (p.wb k),fun k=>q.wl (p.wl k)⟩
theorem Fr0.lift{h h':H}(p:Fr0 h.lift h')(hb:h.bar≤h.n):Fr0 h (h'.back h.bar):=
 ⟨rfl,p.n,fun id b i k=>p.b id b (Nat.lt_of_lt_of_le i hb) k,fun id b i k=>p.lo id b (Nat.lt_of_lt_of_le i hb) k,p.wb,p.wl⟩
section
variable {F:Cf} {h h':H} {v:AV}
theorem Fr0.nw{x:B}(hb:h.bar≤h.n):Fr0 h ⟨h.h.set x h.n,Nat.succ h.n,h.bar,h.l⟩:=
 ⟨rfl,Nat.le_succ _,fun id b i k=>by
  rcases T.get_set k with⟨rfl,-⟩|⟨-,k⟩
  ·exact absurd i (Nat.not_lt.2 hb)
  ·exact k,fun _ _ _ k=>k,fun k id b q=>by
  rcases T.get_set q with⟨rfl,-⟩|⟨-,q⟩
  ·exact Nat.lt_succ_self _
  ·exact Nat.lt_succ_of_lt (k id b q),fun k id b q=>Nat.lt_succ_of_lt (k id b q)⟩
theorem aNZ{x:B}{f:Nat→H→Option VH}(hb:h.bar≤h.n)(hx:h.nw x f=some (v,h'))(k:∀g,f h.n g=some (v,h')→h'=g):Fr0 h h':=by
 unfold H.nw at hx;rw[aM]at hx;rw[k _ hx];exact Fr0.nw hb
theorem Fr0.put{id:Nat}{x x0:B}(hb:h.bar≤id)(h0:h.h.get id=some x0):Fr0 h (h.put id x):=
 ⟨rfl,Nat.le_refl _,fun j b i k=>by
  rcases T.get_set k with⟨rfl,-⟩|⟨-,k⟩
  ·exact absurd i (Nat.not_lt.2 hb)
  ·exact k,fun _ _ _ k=>k,fun k j b q=>by
  rcases T.get_set q with⟨rfl,-⟩|⟨-,q⟩
  ·exact k _ _ h0
  ·exact k j b q,fun k=>k⟩
theorem Fr0.putLp{id:Nat}{x x0:Lp}(hb:h.bar≤id)(h0:h.l.get id=some x0):Fr0 h (h.putLp id x):=
 ⟨rfl,Nat.le_refl _,fun _ _ _ k=>k,fun j b i k=>by
  rcases T.get_set k with⟨rfl,-⟩|⟨-,k⟩
  ·exact absurd i (Nat.not_lt.2 hb)
  ·exact k,fun k=>k,fun k j b q=>by
  rcases T.get_set q with⟨rfl,-⟩|⟨-,q⟩
  ·exact k _ _ h0
  ·exact k j b q⟩
theorem aAM{id off:Nat}{l:List SV}(hx:wr h id off l=some h'):Fr0 h h':=by
 unfold wr at hx;obtain⟨h1,hx⟩:=aB.1 hx;obtain⟨b,h0,hx⟩:=aA.1 hx;obtain⟨c,-,hx⟩:=aA.1 hx;obtain⟨-,hx⟩:=aB.1 hx;cases hx;exact Fr0.put (bA.1 h1) h0
theorem aDp{e:Env}{t:Nat}{a:Operand}(hx:rA F e h t a=some (v,h')):h'=h:=by
 unfold rA at hx;obtain⟨i,-,hx⟩:=aA.1 hx;obtain⟨u,-,hx⟩:=aA.1 hx;obtain⟨s,-,hx⟩:=aI.1 hx;split at hx
 ·obtain⟨c,-,hx⟩:=aA.1 hx;obtain⟨u,-,hx⟩:=aA.1 hx;cases hx;rfl
 ·unfold roL at hx;split at hx
  ·obtain⟨u,-,hx⟩:=aA.1 hx;cases hx;rfl
  ·cases hx
 ·cases hx
theorem rF{x:B}{g:Nat→SV}(hb:h.bar≤h.n)(hx:(h.nw x fun a h=>vh (g a) h)=some (v,h')):Fr0 h h':=aNZ hb hx fun g k=>by cases k;rfl
theorem aH4{t:Nat}(hb:h.bar≤h.n)(hx:nO F h t=some (v,h')):Fr0 h h':=by
 unfold nO at hx;obtain⟨i,-,hx⟩:=aA.1 hx;exact rF hb hx
theorem aL2{e:Env}{t:Nat}{x:Operand}(hb:h.bar≤h.n)(hx:tF e h t x=some (v,h')):Fr0 h h':=by
 unfold tF at hx;obtain⟨u,-,hx⟩:=aA.1 hx;cases u with
 |t l=>cases hx
 |c g l=>exact rF hb hx
theorem aAy{e:Env}{t n:Nat}{ps:List (Nat × Operand)}(hb:h.bar≤h.n)(hx:gT F e h t n ps=some (v,h')):Fr0 h h':=by
 unfold gT at hx;obtain⟨i,-,hx⟩:=aA.1 hx;obtain⟨el,-,hx⟩:=aA.1 hx;obtain⟨j,-,hx⟩:=aA.1 hx;obtain⟨-,hx⟩:=aB.1 hx;obtain⟨c,-,hx⟩:=aA.1 hx;exact rF hb hx
theorem zH{α:Type}{x:SV}{k:Nat→Option α}{y:α}(hx:natOf x k=some y):∃n,k n=some y:=by
 cases x with
 |i j n=>cases n with
  |ofNat n=>exact⟨n,hx⟩
  |negSucc n=>cases hx
 |_=>cases hx
theorem aKg{e:Env}{t:Nat}{x y:Operand}(hb:h.bar≤h.n)(hx:vC F e h t x y=some (v,h')):Fr0 h h':=by
 unfold vC at hx;obtain⟨i,-,hx⟩:=aA.1 hx;obtain⟨el,-,hx⟩:=aA.1 hx;obtain⟨j,-,hx⟩:=aA.1 hx;obtain⟨u,-,hx⟩:=aA.1 hx;obtain⟨s,-,hx⟩:=aI.1 hx;obtain⟨n,hx⟩:=zH hx;obtain⟨u,-,hx⟩:=aA.1 hx;obtain⟨s,-,hx⟩:=aI.1 hx;obtain⟨m,hx⟩:=zH hx;obtain⟨-,hx⟩:=aB.1 hx;obtain⟨-,hx⟩:=aB.1 hx;obtain⟨-,hx⟩:=aB.1 hx;exact rF hb hx
theorem aH5{e:Env}{t:Nat}{x y:Operand}(hx:nP F e h t x y=some (v,h')):Fr0 h h':=by
 unfold nP at hx;obtain⟨z,-,hx⟩:=aA.1 hx;obtain⟨u,-,hx⟩:=aA.1 hx;obtain⟨s,-,hx⟩:=aI.1 hx;split at hx
 ·obtain⟨u,-,hx⟩:=aA.1 hx;cases u with
  |t l=>cases hx
  |c g l=>
   obtain⟨-,hx⟩:=aB.1 hx;obtain⟨g,h1,hx⟩:=aA.1 hx;cases hx;exact aAM h1
 ·cases hx
theorem aL3{k el:Nat}{x:List SV}{g:Nat→SV}(hb:h.bar≤h.n)(hx:(h.cut k el x fun a h=>vh (g a) h)=some (v,h')):Fr0 h h':=by
 unfold H.cut at hx;obtain⟨b,h0,hx⟩:=aA.1 hx;obtain⟨-,hx⟩:=aB.1 hx;obtain⟨-,hx⟩:=cbn.1 hx;obtain⟨-,hx⟩:=aB.1 hx;obtain⟨h1,hx⟩:=aB.1 hx;rw[aM]at hx;cases hx;have h1:=bA.1 h1;exact⟨rfl,Nat.le_succ _,fun id b i q=>by
  rcases T.get_set q with⟨rfl,-⟩|⟨-,q⟩
  ·exact absurd i (Nat.not_lt.2 hb)
  ·rcases T.get_set q with⟨rfl,-⟩|⟨-,q⟩
   ·exact absurd i (Nat.not_lt.2 h1)
   ·exact q,fun _ _ _ q=>q,fun w id b q=>by
  rcases T.get_set q with⟨rfl,-⟩|⟨-,q⟩
  ·exact Nat.lt_succ_self _
  ·rcases T.get_set q with⟨rfl,-⟩|⟨-,q⟩
   ·exact Nat.lt_succ_of_lt (w _ _ h0)
   ·exact Nat.lt_succ_of_lt (w id b q),fun w id b q=>Nat.lt_succ_of_lt (w id b q)⟩
theorem vG{α:Type}{x:SV}{k:Nat→Option α}{y:α}(hx:lenOf x k=some y):∃n,k n=some y:=by
 cases x with
 |s l=>exact⟨_,hx⟩
 |ns=>exact⟨_,hx⟩
 |sl a b n c=>exact⟨_,hx⟩
 |_=>cases hx
theorem aDq{el m:Nat}{j:TI}{s:SV}{nw:List SV}(hb:h.bar≤h.n)(hx:zD h el j s m nw=some (v,h')):Fr0 h h':=by
 unfold zD at hx;obtain⟨n,hx⟩:=vG hx;obtain⟨old,-,hx⟩:=aA.1 hx;obtain⟨-,hx⟩:=aB.1 hx;obtain⟨-,hx⟩:=aB.1 hx;obtain⟨-,hx⟩:=aB.1 hx;have hz:nothing h s=some (v,h')→Fr0 h h':=fun hx=>by
  unfold nothing at hx;split at hx
  ·cases hx;exact Fr0.refl h
  ·cases hx;exact Fr0.refl h
  ·obtain⟨-,hx⟩:=aB.1 hx;cases hx;exact Fr0.refl h
  ·cases hx
 rw[aL]at hx;split at hx
 rotate_left
 ·exact hz hx
 obtain⟨-,hx⟩:=aB.1 hx;obtain⟨-,hx⟩:=aB.1 hx;split at hx
 ·rw[aL]at hx;split at hx
  ·obtain⟨-,hx⟩:=aB.1 hx;obtain⟨b,-,hx⟩:=aA.1 hx;obtain⟨-,hx⟩:=aB.1 hx;obtain⟨g,h1,hx⟩:=aA.1 hx;cases hx;exact aAM h1
  ·exact rF hb hx
 ·obtain⟨-,hx⟩:=aB.1 hx;exact aL3 hb hx
 ·exact rF hb hx
 ·cases hx
theorem aKh{el:Nat}{j:TI}{s x:SV}(hb:h.bar≤h.n)(hx:aEA h el j s x=some (v,h')):Fr0 h h':=by
 unfold aEA at hx;obtain⟨m,hx⟩:=vG hx;obtain⟨nw,-,hx⟩:=aA.1 hx;exact aDq hb hx
theorem aKi{el:Nat}{j:TI}{s x:SV}(hb:h.bar≤h.n)(hx:aEB h el j s x=some (v,h')):Fr0 h h':=by
 unfold aEB at hx;obtain⟨m,hx⟩:=zH hx;obtain⟨-,hx⟩:=aB.1 hx;obtain⟨-,hx⟩:=aB.1 hx;obtain⟨-,hx⟩:=aB.1 hx;rw[aM]at hx;exact aDq hb hx
theorem aEL{p:Lp}(hb:h.bar≤h.n):Fr0 h ⟨h.h,Nat.succ h.n,h.bar,h.l.set p h.n⟩:=
 ⟨rfl,Nat.le_succ _,fun _ _ _ k=>k,fun id b i k=>by
  rcases T.get_set k with⟨rfl,-⟩|⟨-,k⟩
  ·exact absurd i (Nat.not_lt.2 hb)
  ·exact k,fun k id b q=>Nat.lt_succ_of_lt (k id b q),fun k id b q=>by
  rcases T.get_set q with⟨rfl,-⟩|⟨-,q⟩
  ·exact Nat.lt_succ_self _
  ·exact Nat.lt_succ_of_lt (k id b q)⟩
theorem aH6{e:Env}{t:Nat}{x:Operand}(hb:h.bar≤h.n)(hx:tJ F e h t x=some (v,h')):Fr0 h h':=by
 unfold tJ at hx;obtain⟨i,-,hx⟩:=aA.1 hx;obtain⟨u,-,hx⟩:=aA.1 hx;obtain⟨s,-,hx⟩:=aI.1 hx;split at hx
 ·rw[aM]at hx;cases hx;exact aEL hb
 ·obtain⟨p,-,hx⟩:=aA.1 hx;obtain⟨l,-,hx⟩:=aA.1 hx;rw[aM,aM]at hx;cases hx;exact aEL hb
 ·cases hx
theorem wQ{α:Type}{e:Env}{x:Operand}{k:Nat→Mi→List (AV × AV)→Option α}{y:α}(hx:itM e h x k=some y):∃id p q r l,ev e x=some (sc (.p id 0))∧h.l.get id=some p∧p.mi=some q∧h.l.get q.m=some r∧r.mp=some l∧k id q l=some y:=by
 unfold itM at hx;obtain⟨u,h0,hx0⟩:=aA.1 hx;obtain⟨s,rfl,hx1⟩:=aI.1 hx0;clear hx hx0;split at hx1
 ·obtain⟨h1,hx⟩:=aB.1 hx1;obtain⟨p,h2,hx⟩:=aA.1 hx;obtain⟨q,h3,hx⟩:=aA.1 hx;obtain⟨r,h4,hx⟩:=aA.1 hx;obtain⟨l,h5,hx⟩:=aA.1 hx;have h1:=aH.1 h1;subst h1;exact⟨_,p,q,r,l,h0,h2,h3,h4,h5,hx⟩
 ·cases hx1
theorem aH7{e:Env}{x:Operand}(hx:xL e h x=some (v,h')):Fr0 h h':=by
 obtain⟨id,p,q,r,l,-,h2,-,-,-,hx⟩:=wQ hx;obtain⟨h1,hx⟩:=aB.1 hx;unfold nxM at hx;split at hx
 ·split at hx
  ·cases hx;exact Fr0.refl h
  ·cases hx
 ·split at hx
  ·obtain⟨-,hx⟩:=aB.1 hx;obtain⟨a,-,hx⟩:=aA.1 hx;obtain⟨c,-,hx⟩:=aA.1 hx;cases hx;exact Fr0.putLp (bA.1 h1) h2
  ·obtain⟨-,hx⟩:=aB.1 hx;obtain⟨-,hx⟩:=aB.1 hx;cases hx;exact Fr0.refl h
  ·cases hx
 ·cases hx
theorem aH8{e:Env}{x:Operand}(hx:xK e h x=some (v,h')):Fr0 h h':=by
 obtain⟨id,p,q,r,l,-,-,-,-,-,hx⟩:=wQ hx;unfold enM at hx;obtain⟨j,-,hx⟩:=aA.1 hx;obtain⟨-,hx⟩:=aB.1 hx;obtain⟨p0,-,hx⟩:=aA.1 hx;obtain⟨a,-,hx⟩:=aA.1 hx;obtain⟨c,-,hx⟩:=aA.1 hx;cases hx;exact Fr0.refl h
theorem aKj{e:Env}{x:Operand}{b:Bool}(hx:uZ e h x b=some (v,h')):Fr0 h h':=by
 unfold uZ at hx;rw[aL]at hx;split at hx
 rotate_left
 ·exact aH7 hx
 obtain⟨u,-,hx⟩:=aA.1 hx;obtain⟨s,-,hx⟩:=aI.1 hx;split at hx
 ·obtain⟨-,hx⟩:=aB.1 hx;obtain⟨h1,hx⟩:=aB.1 hx;obtain⟨p,h2,hx⟩:=aA.1 hx;obtain⟨q,-,hx⟩:=aA.1 hx;cases hd:(drp q.2 q.1).head? with
  |none=>
   rw[hd]at hx;cases hx;exact Fr0.refl h
  |some y=>
   rw[hd]at hx;obtain⟨-,hx⟩:=aB.1 (show nx1 h _ q.1 q.2 y=some (v,h') from hx);rw[aM]at hx;cases hx;exact Fr0.putLp (bA.1 h1) h2
 ·cases hx
theorem aN0{b:Builtin}{ats:List Nat}{l:List AV}(hb:h.bar≤h.n)(hx:bi F h b ats l=some (v,h')):Fr0 h h':=by
 cases b with
 |len=>
  have:h'=h:=by
    refine Pm.got (y:=bi F h .len ats l) ?_ hx;unfold bi;dsimp only
    repeat' (first|exact rfl|exact aF1|exact Pm.no|exact Pm.ye|exact Pm.vh|refine Pm.ob fun _=>?_|refine Pm.cb ?_ ?_|refine Pm.one fun _=>?_|refine Pm.agg fun _=>?_|refine Pm.natOf fun _=>?_|refine Pm.bound fun _=>?_|refine Pm.chk ?_|refine Pm.opt ?_ fun _=>?_|split)
  rw[this];exact Fr0.refl h
 |cap=>
  have:h'=h:=by
    refine Pm.got (y:=bi F h .cap ats l) ?_ hx;unfold bi;dsimp only
    repeat' (first|exact rfl|exact Pm.no|exact Pm.ye|exact Pm.vh|refine Pm.ob fun _=>?_|refine Pm.cb ?_ ?_|refine Pm.one fun _=>?_|refine Pm.agg fun _=>?_|refine Pm.natOf fun _=>?_|refine Pm.bound fun _=>?_|refine Pm.chk ?_|refine Pm.opt ?_ fun _=>?_|split)
  rw[this];exact Fr0.refl h
 |copy=>
  unfold bi at hx;dsimp only at hx;split at hx
  ·obtain⟨i,-,hx⟩:=aA.1 hx;obtain⟨el,-,hx⟩:=aA.1 hx;obtain⟨j,-,hx⟩:=aA.1 hx;obtain⟨s,-,hx⟩:=aI.1 hx;obtain⟨x,-,hx⟩:=aI.1 hx;obtain⟨m,hx⟩:=vG hx;obtain⟨n,hx⟩:=vG hx;obtain⟨l,-,hx⟩:=aA.1 hx;split at hx
   ·rw[aL]at hx;split at hx
    ·cases hx;exact Fr0.refl h
    ·obtain⟨-,hx⟩:=aB.1 hx;obtain⟨h2,k1,k2⟩:=aA.1 hx;cases k2;exact aAM k1
   ·cases hx;exact Fr0.refl h
   ·cases hx
  ·cases hx
 |clear=>
  unfold bi at hx;dsimp only at hx;split at hx
  ·obtain⟨i,-,hx⟩:=aA.1 hx;obtain⟨el,-,hx⟩:=aA.1 hx;obtain⟨j,-,hx⟩:=aA.1 hx;obtain⟨s,-,hx⟩:=aI.1 hx;split at hx
   ·cases hx;exact Fr0.refl h
   ·rw[aL]at hx;split at hx
    ·cases hx;exact Fr0.refl h
    ·obtain⟨-,hx⟩:=aB.1 hx;obtain⟨h2,k1,k2⟩:=aA.1 hx;cases k2;exact aAM k1
   ·cases hx
  ·cases hx
 |min=>obtain⟨u,-,hx⟩:=aA.1 hx;cases hx;exact Fr0.refl h
 |max=>obtain⟨u,-,hx⟩:=aA.1 hx;cases hx;exact Fr0.refl h
 |append=>
  unfold bi at hx;dsimp only at hx;split at hx
  ·obtain⟨i,-,hx⟩:=aA.1 hx;obtain⟨el,-,hx⟩:=aA.1 hx;obtain⟨j,-,hx⟩:=aA.1 hx;obtain⟨s,-,hx⟩:=aI.1 hx;obtain⟨x,-,hx⟩:=aI.1 hx;rw[aL]at hx;split at hx
   ·exact aKh hb hx
   ·obtain⟨i',-,hx⟩:=aA.1 hx;split at hx
    ·exact aKi hb hx
    ·cases hx
  ·cases hx
 |_=>cases hx
theorem jL{α:Type}{d:Dk}{k:Nat→Nat→Option α}{y:α}(hx:aEx d k=some y):∃a b,d=.mp a b∧k a b=some y:=by
 cases d with
 |mp a b=>exact⟨a,b,rfl,hx⟩
 |_=>cases hx
theorem aH9{t:Nat}{r:Option Operand}(hb:h.bar≤h.n)(hx:aBr F h t r=some (v,h')):Fr0 h h':=by
 obtain⟨i,-,hx⟩:=aA.1 hx;obtain⟨a,b,-,hx⟩:=jL hx;cases r with
 |none=>
  have hx:dK h.n (fun n=>vh (.q n) ⟨h.h,Nat.succ n,h.bar,h.l.set (mpL []) n⟩)=some (v,h'):=hx;rw[aM]at hx;cases hx;exact aEL hb
 |some r=>cases hx
theorem aJw{ok:Bool}{v z:AV}{b:Bool}(hx:lkR h ok z b=some (v,h')):h'=h:=by
 unfold lkR at hx;rw[aL]at hx;split at hx
 ·cases z with
  |c g l=>cases hx;rfl
  |t l=>cases hx
 ·cases hx;rfl
theorem aKk{e:Env}{t:Nat}{x ix:Operand}{ok:Bool}(hx:aAH F e h t x ix ok=some (v,h')):h'=h:=by
 obtain⟨i,-,hx⟩:=aA.1 hx;obtain⟨a,b,-,hx⟩:=jL hx;obtain⟨j,-,hx⟩:=aA.1 hx;obtain⟨z,-,hx⟩:=aA.1 hx;obtain⟨u,-,hx⟩:=aA.1 hx;obtain⟨s,-,hx⟩:=aI.1 hx;obtain⟨l,-,hx⟩:=aA.1 hx;obtain⟨kv,-,hx⟩:=aA.1 hx;obtain⟨-,hx⟩:=aB.1 hx;obtain⟨r,-,hx⟩:=aA.1 hx;cases r with
 |none=>exact aJw hx
 |some r=>exact aJw hx
theorem aDr{e:Env}{t:Nat}{m a x:Operand}(hx:uY F e h t m a x=some (v,h')):Fr0 h h':=by
 obtain⟨i,-,hx⟩:=aA.1 hx;obtain⟨a,b,-,hx⟩:=jL hx;obtain⟨j,-,hx⟩:=aA.1 hx;obtain⟨u,-,hx⟩:=aA.1 hx;obtain⟨s,-,hx⟩:=aI.1 hx;split at hx
 ·obtain⟨hb,hx⟩:=aB.1 hx;obtain⟨p,hp,hx⟩:=aA.1 hx;obtain⟨l,-,hx⟩:=aA.1 hx;obtain⟨kv,-,hx⟩:=aA.1 hx;obtain⟨w,-,hx⟩:=aA.1 hx;obtain⟨-,hx⟩:=aB.1 hx;cases w with
  |t l=>cases hx
  |c g l2=>
   obtain⟨l3,-,hx⟩:=aA.1 hx;cases hx;exact Fr0.putLp (bA.1 hb) hp
 ·cases hx
def bZ(call:bB):Prop:=∀(f:AV) (l:List AV) (h:H) (v:AV) (h':H),h.bar≤h.n→call f l h=some (v,h')→Fr0 h h'
theorem xY{call:bB}{o:Op}{e:Env}(hc:bZ call)(hb:h.bar≤h.n)(hx:op1 F call o e h=some (v,h')):Fr0 h h':=by
 have pure:∀{x y:Option VH},Pm h x y→x=some (v,h')→Fr0 h h':=fun k hx=>by rw[Pm.got k hx];exact Fr0.refl h
 cases o with
 |move x=>obtain⟨u,-,hx⟩:=aA.1 hx;cases hx;exact Fr0.refl h
 |assign x=>obtain⟨u,-,hx⟩:=aA.1 hx;cases hx;exact Fr0.refl h
 |pick c a d=>exact pure (aDk (h0:=h)) hx
 |alloc t=>exact aH4 hb hx
 |box t x=>exact aL2 hb hx
 |build t ps=>exact pure (aBu (h0:=h)) hx
 |buildSlice t n ps=>exact aAy hb hx
 |load t x=>rw[aDp hx];exact Fr0.refl h
 |store t x y=>exact aH5 hx
 |nilCheck x=>exact pure (aFY (h0:=h)) hx
 |binOp op t x y t2=>exact pure (aFZ (h0:=h)) hx
 |unOp op t x=>exact pure (aJs (h0:=h)) hx
 |convert s t x=>exact pure (aDl (h0:=h)) hx
 |makeFunc g x y=>exact pure (aDm (h0:=h)) hx
 |makeInterface t x=>exact pure (aJr (h0:=h)) hx
 |makeMap t r=>exact aH9 hb hx
 |lookup t x ix ok=>rw[aKk hx];exact Fr0.refl h
 |mapUpdate t m a x=>exact aDr hx
 |insert t m a x=>exact aDr hx
 |range t x=>exact aH6 hb hx
 |next x b=>exact aKj hx
 |entry x=>exact aH8 hx
 |makeSlice t x y=>exact aKg hb hx
 |slice t x lo hi mx=>exact pure (aBv (h0:=h)) hx
 |fieldAddr s x g=>exact pure (aJt (h0:=h)) hx
 |field s x g=>exact pure (aBw (h0:=h)) hx
 |indexAddr t x y=>exact pure (aJu (h0:=h)) hx
 |index t x y=>exact pure (aJv (h0:=h)) hx
 |extract x i=>exact pure (aF3 (h0:=h)) hx
 |call c=>
  obtain⟨callee,xs,ats⟩:=c;cases callee with
  |value g=>
   obtain⟨f,-,hx⟩:=aA.1 hx;obtain⟨l,-,hx⟩:=aA.1 hx;exact hc _ _ _ _ _ hb hx
  |invoke r m=>
   obtain⟨u,-,hx⟩:=aA.1 hx;obtain⟨s,-,hx⟩:=aI.1 hx;split at hx
   ·obtain⟨t,-,hx⟩:=aBA hx;obtain⟨fn,-,hx⟩:=aA.1 hx;obtain⟨l,-,hx⟩:=aA.1 hx;exact hc _ _ _ _ _ hb hx
   ·cases hx
  |builtin b=>
   obtain⟨l,-,hx⟩:=aA.1 hx;exact aN0 hb hx
 |_=>cases hx
end
def pM(ex:bG):Prop:=∀(q:Bool) (nt fn:Nat) (c:Code) (e:Env) (h:H) (r:R),h.bar≤h.n→ex q nt fn c e h=some r→Fr0 h r.h
theorem Fr0.le{h h':H}(p:Fr0 h h')(hb:h.bar≤h.n):h'.bar≤h'.n:=by rw[p.bar];exact Nat.le_trans hb p.n
section
variable {F:Cf} {ex:bG} {h h':H} {v:AV} {nt:Nat} {call:bB} {ops:List Oper} {e:Env} {r:R}
theorem vH{α:Type}{d:Option Nat}{k:Env→Option α}{y:α}(hx:put nt e d v k=some y):∃e,k e=some y:=by
 cases d with
 |none=>exact⟨_,hx⟩
 |some d=>exact⟨_,(aB.1 hx).2⟩
theorem aDs{rest:Env→H→Option R}{o:Oper}(hc:bZ call)(hr:∀e h r,h.bar≤h.n→rest e h=some r→Fr0 h r.h)(hb:h.bar≤h.n)(hx:kT F nt call ops rest o e h=some r):Fr0 h r.h:=by
 obtain⟨w,-,hx⟩:=aA.1 hx;cases w with
 |true=>
  obtain⟨⟨u,g⟩,h1,hx⟩:=aA.1 (show (ob (op1 F call o.op e h) fun r=>put nt e o.dst r.1 fun e=>rest e r.2)=some r from hx);obtain⟨e,hx⟩:=vH hx;have:=xY hc hb h1;exact this.trans (hr _ _ _ (this.le hb) hx)
 |false=>
  obtain⟨e,hx⟩:=vH (show put nt e o.dst un (fun e=>rest e h)=some r from hx);exact hr _ _ _ hb hx
theorem aF9{l:List Oper}(hc:bZ call):∀{e:Env} {h:H} {r:R},h.bar≤h.n→gM F nt call ops l e h=some r→Fr0 h r.h:=by
 induction l with
 |nil=>intro e h r hb hx;cases hx;exact Fr0.refl h
 |cons o l ih=>intro e h r hb hx;exact aDs hc (fun e h r=>ih) hb hx
theorem aGa{k:Option R}{l:List Nat}(hx:again F ops e h k l=some r):k=some r:=by
 induction l with
 |nil=>exact hx
 |cons j l ih=>
  obtain⟨o,-,hx⟩:=aA.1 hx;split at hx
  ·exact ih hx
  ·obtain⟨d,-,hx⟩:=aA.1 hx;obtain⟨v,-,hx⟩:=aA.1 hx;obtain⟨u,-,hx⟩:=aA.1 hx;obtain⟨-,hx⟩:=aB.1 hx;exact ih (aB.1 hx).2
  ·obtain⟨d,-,hx⟩:=aA.1 hx;obtain⟨v,-,hx⟩:=aA.1 hx;obtain⟨u,-,hx⟩:=aA.1 hx;obtain⟨-,hx⟩:=aB.1 hx;exact ih (aB.1 hx).2
  ·cases hx
theorem aKl{l:List (Nat × List Nat)}(hc:bZ call):∀{e:Env} {h:H} {r:R},h.bar≤h.n→wL F nt call ops l e h=some r→Fr0 h r.h:=by
 induction l with
 |nil=>intro e h r hb hx;cases hx;exact Fr0.refl h
 |cons p l ih=>
  intro e h r hb hx;obtain⟨o,-,hx⟩:=aA.1 hx;exact aDs hc (fun e h r hb hx=>ih hb (aGa hx)) hb hx
theorem aKm{l:List Nat}{b:Nat}{k:Env→H→Option R}(hc:bZ call)(hk:∀e h r,h.bar≤h.n→k e h=some r→Fr0 h r.h):
  ∀{e:Env} {h:H} {r:R},b≤h.n→tL F nt call ops b k l e h=some r→Fr0 (h.back b) r.h:=by
 induction l with
 |nil=>intro e h r hb hx;exact hk _ _ _ hb hx
 |cons i l ih=>
  intro e h r hb hx;obtain⟨o,-,hx⟩:=aA.1 hx;obtain⟨w,-,hx⟩:=aA.1 hx;cases w with
  |true=>
   obtain⟨⟨u,g⟩,h1,hx⟩:=aA.1 (show (ob (op1 F call o.op e h.lift) fun r=>put nt e o.dst r.1 fun e=>tL F nt call ops b k l e r.2)=some r from hx);obtain⟨e,hx⟩:=vH hx;have h2:=xY hc (Nat.le_refl _) h1;have h3:=ih (Nat.le_trans hb h2.n) hx;exact (Fr0.lift (h:=h.back b) h2 hb).trans h3
  |false=>
   obtain⟨e,hx⟩:=vH (show put nt e o.dst un (fun e=>tL F nt call ops b k l e h.lift)=some r from hx);exact ih (h:=h.lift) hb hx
theorem aKn{ops:Array Oper}{p:List Nat × List (Nat × List Nat)}(hc:bZ call)(hb:h.bar≤h.n)(hx:pJ F nt call ops p e h=some r):Fr0 h r.h:=by
 obtain⟨-,hx⟩:=aB.1 hx;rw[aM]at hx;exact aKm hc (fun e h r=>aKl hc) hb hx
theorem aBD{G:Func}{c:Code}{fn:Nat}{args:List AV}(hex:pM ex)(hb:h.bar≤h.n)(hx:jE F ex G c fn args h=some (v,h')):Fr0 h h':=by
 obtain⟨e,-,hx⟩:=aA.1 hx;obtain⟨r,h1,hx⟩:=aA.1 hx;have h2:=hex _ _ _ _ _ _ _ hb h1;obtain⟨x,e,g⟩:=r;cases x with
 |x id=>cases hx
 |n=>obtain⟨l,-,hx⟩:=aA.1 (show (ob (res F e g G.results.toList) fun l=>some (tup l,g))=some (v,h') from hx);cases hx;exact h2
 |r=>obtain⟨l,-,hx⟩:=aA.1 (show (ob (res F e g G.results.toList) fun l=>some (tup l,g))=some (v,h') from hx);cases hx;exact h2
theorem aBE{G:Func}{c:Code}{fn:Nat}{args:List AV}(hex:pM ex)(hb:h.bar≤h.n)(hx:jF F ex G c fn args h=some (v,h')):Fr0 h h':=by
 have hx:Option.rec (motive:=fun _=>Option VH) (jE F ex G c fn args h) (fun g=>Option.rec (motive:=fun _=>Option VH) (jE F ex G c fn args h) (fun r=>h.nw r.1 fun a h=>vh (.sl a 0 r.2.1 (some r.2.2)) h) (g h args)) (F.pw fn)=some (v,h'):=hx;cases hq:F.pw fn with
 |none=>rw[hq]at hx;exact aBD hex hb hx
 |some g=>
  rw[hq]at hx;have hx:Option.rec (motive:=fun _=>Option VH) (jE F ex G c fn args h) (fun r=>h.nw r.1 fun a h=>vh (.sl a 0 r.2.1 (some r.2.2)) h) (g h args)=some (v,h'):=hx;cases hv:g h args with
  |none=>rw[hv]at hx;exact aBD hex hb hx
  |some r=>rw[hv]at hx;exact rF hb (show (h.nw r.1 fun a h=>vh (.sl a 0 r.2.1 (some r.2.2)) h)=some (v,h') from hx)
theorem tT{fn:Nat}{args:List AV}(hex:pM ex)(hb:h.bar≤h.n)(hx:aU F ex fn args h=some (v,h')):Fr0 h h':=by
 obtain⟨G,-,hx⟩:=aA.1 hx;obtain⟨c,-,hx⟩:=aA.1 hx;cases hp:F.pr fn with
 |none=>
  rw[hp]at hx;have hx:Option.rec (motive:=fun _=>Option VH) (jF F ex G c fn args h) (fun g=>Option.rec (motive:=fun _=>Option VH) (jF F ex G c fn args h) (fun v=>some (v,h)) (g h args)) (F.ph fn)=some (v,h'):=hx;cases hq:F.ph fn with
  |none=>rw[hq]at hx;exact aBE hex hb hx
  |some g=>
   rw[hq]at hx;have hx:Option.rec (motive:=fun _=>Option VH) (jF F ex G c fn args h) (fun v=>some (v,h)) (g h args)=some (v,h'):=hx;cases hv:g h args with
   |none=>rw[hv]at hx;exact aBE hex hb hx
   |some v1=>
    rw[hv]at hx;have hx:some (v1,h)=some (v,h'):=hx;injection hx with h6;injection h6 with h6 h7;subst h7;exact Fr0.refl h
 |some g=>
  rw[hp]at hx;obtain⟨u,-,hx⟩:=aA.1 hx;cases hx;exact Fr0.refl h
theorem pO{l:Nat}{b:Bool}{pd:Option Code}(hx:kU l b pd h=some (v,h')):Fr0 h h':=by
 obtain⟨p,h0,hx⟩:=aA.1 hx;obtain⟨-,hx⟩:=cbn.1 hx;obtain⟨h1,hx⟩:=aB.1 hx;cases hx;exact Fr0.putLp (bA.1 h1) h0
theorem aCX{l:Nat}(hx:roundEnd l r=some (v,h')):Fr0 r.h h':=by
 obtain⟨x,e,g⟩:=r;cases x with
 |n=>exact pO hx
 |r=>exact pO hx
 |x id=>exact pO hx
theorem aIa{l:Nat}{args:List AV}(hex:pM ex)(hb:h.bar≤h.n)(hx:aEG ex l args h=some (v,h')):Fr0 h h':=by
 obtain⟨p,-,hx⟩:=aA.1 hx;obtain⟨-,hx⟩:=cbn.1 hx;obtain⟨e,-,hx⟩:=aA.1 hx;obtain⟨⟨x,e,g⟩,h1,hx⟩:=aA.1 hx;have h2:=hex _ _ _ _ _ _ _ hb h1;cases x with
 |r=>cases hx
 |x id=>cases hx
 |n=>
  obtain⟨p',h0,hx⟩:=aA.1 hx;obtain⟨-,hx⟩:=cbn.1 hx;obtain⟨h3,hx⟩:=aB.1 hx;obtain⟨-,hx⟩:=aB.1 hx;obtain⟨-,hx⟩:=aB.1 hx;obtain⟨r,h4,hx⟩:=aA.1 hx;have h5:Fr0 g (g.putLp l {p' with st:=false}):=Fr0.putLp (bA.1 h3) h0;have h6:=hex _ _ _ _ _ _ _ (h5.le (h2.le hb)) h4;exact h2.trans (h5.trans (h6.trans (aCX hx)))
theorem pQ(hex:pM ex):bZ (aY F ex):=by
 intro f l h v h' hb hx;obtain⟨s,-,hx⟩:=aI.1 hx;split at hx
 ·exact tT hex hb hx
 ·obtain⟨m,t,rfl,hx⟩:=aBB (show aJo F ex _ l h=some (v,h') from hx);obtain⟨fn,-,hx⟩:=aA.1 hx;exact tT hex hb hx
 ·exact aIa hex hb hx
 ·cases hx
theorem aGb{q:Bool}{fn:Nat}{f:AV}{ps:List Tmp}{cs bd:Code}(hex:pM ex)(hb:h.bar≤h.n)(hx:xN F ex q nt fn f ps cs bd e h=some r):Fr0 h r.h:=by
 obtain⟨-,hx⟩:=cbn.1 hx;rw[aM]at hx;obtain⟨s,-,hx⟩:=aI.1 hx;split at hx
 ·obtain⟨⟨u,g⟩,h1,hx⟩:=aA.1 hx;have h0:Fr0 h ⟨h.h,Nat.succ h.n,h.bar,h.l.set ⟨fn,nt,e,ps,cs,bd,true,none,false,none,none,none⟩ h.n⟩:=⟨rfl,Nat.le_succ _,fun _ _ _ k=>k,fun j b i k=>by
   rcases T.get_set k with⟨rfl,-⟩|⟨-,k⟩
   ·exact absurd i (Nat.not_lt.2 hb)
   ·exact k,fun k id b q=>Nat.lt_succ_of_lt (k id b q),fun k id b q=>by
   rcases T.get_set q with⟨rfl,-⟩|⟨-,q⟩
   ·exact Nat.lt_succ_self _
   ·exact Nat.lt_succ_of_lt (k id b q)⟩
  have h2:=h0.trans (tT hex (h0.le hb) h1);obtain⟨p,h9,hx⟩:=aA.1 hx;obtain⟨-,hx⟩:=cbn.1 hx;obtain⟨h3,hx⟩:=aB.1 hx;obtain⟨-,hx⟩:=aB.1 hx;have h4:Fr0 g (g.putLp h.n {p with dd:=true}):=Fr0.putLp (bA.1 h3) h9;have h5:=h2.trans h4;split at hx
  ·cases hx;exact h5
  ·cases hx;exact h5
  ·cases hx;exact h5
  ·cases hx
 ·cases hx
theorem aIb(hex:pM ex):pM (xP F ex):=by
 intro q nt fn c e h r hb hx;have seq:∀{c:Code} {r1:R},Fr0 h r1.h→kV ex q nt fn c r1=some r→Fr0 h r.h:=by
  intro c r1 k hx;obtain⟨x,e,g⟩:=r1;cases x with
  |n=>exact k.trans (hex _ _ _ _ _ _ _ (k.le hb) hx)
  |r=>cases hx;exact k
  |x id=>cases hx;exact k
 cases c with
 |skip=>cases hx;exact Fr0.refl h
 |label l=>cases hx;exact Fr0.refl h
 |region id ops dr=>
  have hx:cb dr (ob (F.pl fn id) fun p=>pJ F nt (aY F ex) ops p e h) (gM F nt (aY F ex) ops.toList ops.toList e h)=some r:=hx;cases dr with
  |false=>exact aF9 (pQ hex) hb hx
  |true=>
   obtain⟨p,-,hx⟩:=aA.1 (show (ob (F.pl fn id) fun p=>pJ F nt (aY F ex) ops p e h)=some r from hx);exact aKn (pQ hex) hb hx
 |seq a b=>
  obtain⟨r1,h1,hx⟩:=aA.1 (show (ob (ex q nt fn a e h) (kV ex q nt fn b))=some r from hx);exact seq (hex _ _ _ _ _ _ _ hb h1) hx
 |cond c a b=>
  obtain⟨u,-,hx⟩:=aA.1 (show (ob (ev e c) fun v=>one v (xO ex q nt fn a b e h))=some r from hx);obtain⟨s,-,hx⟩:=aI.1 hx;cases s with
  |b x=>exact hex _ _ _ _ _ _ _ hb hx
  |_=>cases hx
 |block id a=>
  obtain⟨⟨x,e1,g⟩,h1,hx⟩:=aA.1 (show (ob (ex q nt fn a e h) (tN id))=some r from hx);have h2:=hex _ _ _ _ _ _ _ hb h1;cases x with
  |n=>cases hx;exact h2
  |r=>cases hx;exact h2
  |x j=>
   have hx:cb (Nat.beq id j) (some (R.mk .n e1 g)) (some ⟨.x j,e1,g⟩)=some r:=hx;rw[aL]at hx;split at hx<;>cases hx<;>exact h2
 |loop a=>
  obtain⟨r1,h1,hx⟩:=aA.1 (show (ob (ex q nt fn a e h) (kV ex q nt fn (.loop a)))=some r from hx);exact seq (hex _ _ _ _ _ _ _ hb h1) hx
 |scope a=>exact hex _ _ _ _ _ _ _ hb hx
 |rangeFunc f ps cs bd=>
  obtain⟨u,-,hx⟩:=aA.1 (show (ob (ev e f) fun f=>xN F ex q nt fn f ps.toList cs bd e h)=some r from hx);exact aGb hex hb hx
 |exit id=>cases hx;exact Fr0.refl h
 |ret=>cases hx;exact Fr0.refl h
 |_=>cases hx
theorem aKo(F:Cf)(m:Nat):pM (exec F m):=by
 induction m with
 |zero=>intro q nt fn c e h r hb hx;cases hx
 |succ m ih=>exact aIb ih
end
end E
namespace E
open Go Go.RowKit
open Ma Me K
section
variable {F:Cf} {c:Cx} {wb:World} {h h':H} {nt:Nat} {e:Env} {a:Act} {o:Oper} {v:AV} {α:Type}
theorem bN{l:List α}{n:Nat}{x:α}(h:(drp n l).head? =some x):l[n]? =some x:=by
 rw[gN]at h;simpa using h
theorem tV{P:Program}{t f:Nat}{i:TI}{q:Nat × Nat}(hi:Ty P t i)(hf:fields i.d f=some q):∃fs fld,P.underlying t=some (.struct fs)∧fs[f]? =some fld∧q=(fld.offset,fld.type):=by
 obtain⟨inf,d,z,h1,h2,h3,h4,h5,h6,h7,h8⟩:=hi.ex;unfold fields at hf;split at hf
 ·rename_i fs hd;rw[h3]at hd;cases d<;>simp[dk]at hd;rename_i fs2;subst hd;have:=bN hf;rw[List.getElem?_map]at this;obtain⟨fld,k1,k2⟩:=Option.map_eq_some_iff.1 this;exact⟨fs2,fld,h2,by simpa using k1,k2.symm⟩
 ·cases hf
theorem nH{P:Program}{t el:Nat}{i:TI}(hi:Ty P t i)(hf:elem i.d=some el):P.underlying t=some (.slice el):=by
 obtain⟨inf,d,z,h1,h2,h3,h4,h5,h6,h7,h8⟩:=hi.ex;unfold elem at hf;split at hf
 ·rename_i e hd;injection hf with hf;subst hf;rw[h3]at hd;cases d<;>simp[dk]at hd;subst hd;exact h2
 ·cases hf
theorem gB{P:Program}{t el:Nat}{i:TI}(hi:Ty P t i)(hf:i.d=.sl el):P.underlying t=some (.slice el):=nH hi (by rw[hf];rfl)
theorem mX{P:Program}{t n el:Nat}{i:TI}(hi:Ty P t i)(hd:i.d=.ar n el):P.underlying t=some (.array n el):=by
 obtain⟨inf,d,z,h1,h2,h3,h4,h5,h6,h7,h8⟩:=hi.ex;rw[h3]at hd;cases d<;>simp[dk]at hd;obtain⟨rfl,rfl⟩:=hd;exact h2
theorem jZ{P:Program}{t:Nat}{i:TI}(hi:Ty P t i)(hd:i.d=.str):P.underlying t=some .string:=by
 obtain⟨inf,d,z,h1,h2,h3,h4,h5,h6,h7,h8⟩:=hi.ex;rw[h3]at hd;cases d<;>simp[dk]at hd;exact h2
theorem aKp{P:Program}{t:Nat}{i:TI}(hi:Ty P t i)(hd:i.d=.bool):P.underlying t=some .bool:=by
 obtain⟨inf,d,z,h1,h2,h3,h4,h5,h6,h7,h8⟩:=hi.ex;rw[h3]at hd;cases d<;>simp[dk]at hd;exact h2
theorem lT{P:Program}{t:Nat}{i:TI}{k:IntKind}(hi:Ty P t i)(hd:i.d=.int k):P.underlying t=some (.int k):=by
 obtain⟨inf,d,z,h1,h2,h3,h4,h5,h6,h7,h8⟩:=hi.ex;rw[h3]at hd;cases d<;>simp[dk]at hd;subst hd;exact h2
theorem aAN{P:Program}{t k el:Nat}{i:TI}(hi:Ty P t i)(hd:i.d=.mp k el):P.underlying t=some (.map k el):=by
 obtain⟨inf,d,z,h1,h2,h3,h4,h5,h6,h7,h8⟩:=hi.ex;rw[h3]at hd;cases d<;>simp[dk]at hd;obtain⟨rfl,rfl⟩:=hd;exact h2
theorem aEM{P:Program}{t:Nat}{i:TI}(hi:Ty P t i)(hd:i.d=.pt):∃e,P.underlying t=some (.pointer e):=by
 obtain⟨inf,d,z,h1,h2,h3,h4,h5,h6,h7,h8⟩:=hi.ex;rw[h3]at hd;cases d<;>simp[dk]at hd;exact⟨_,h2⟩
theorem fA{s:SV}{k:Nat→Option α}{y:α}(h:natOf s k=some y):∃kk n,s=.i kk (Int.ofNat n)∧k n=some y:=by
 unfold natOf at h;split at h
 ·rename_i kk n;cases n with
  |ofNat n=>exact⟨kk,n,rfl,h⟩
  |negSucc n=>cases h
 ·cases h
theorem aPa{t f:Nat}{x:Operand}(hr:Rl c wb h)(ht:Tr c nt e a.tmps)(ho:o.op=.fieldAddr t x f)(hx:oFA F e h t x f=some (v,h')):∃u w',OpR F.P a.eval o c.w u w'∧Po c wb h' v u w':=by
 obtain⟨i,h1,h2⟩:=aA.1 hx;obtain⟨q,h3,h4⟩:=aA.1 h2;obtain⟨z,h5,h6⟩:=aA.1 h4;obtain⟨h7,h8⟩:=aB.1 h6;obtain⟨v1,h9,h10⟩:=aA.1 h8;obtain⟨s,rfl,h11⟩:=aI.1 h10;split at h11
 ·rename_i id off;injection h11 with h11;injection h11 with h11 h12;subst h11;subst h12;obtain⟨fs,fld,k1,k2,rfl⟩:=tV (aJ h1) h3;obtain⟨j,hj,rfl⟩:=iM h5;obtain⟨hid,hp⟩:=aF.1 (aS ht h9);have hz:¬j.sz=0:=(by have:=aQ.1 h7;omega);refine⟨.pointer (some ⟨c.r id,off+fld.offset,none⟩),c.w,OpR.vl (s:=Instr.fieldAt t (a.eval x) f) (by unfold execOp;rw[ho]) ?_,Po.same hr (aF.2 ⟨hid,rfl⟩)⟩;simp only[Instr.fieldAt,Sem.run_bind,run_underlying k1,Result.andThen_ok,k2,hp,Instr.sureAddr,Sem.run_pure,fieldPlace,dC (aJ hj),hz,if_false,add0]
 ·rename_i x1;unfold roF at h11;split at h11
  ·rename_i a1;injection h11 with h11;injection h11 with h11 h12;subst h11;subst h12;obtain⟨fs,fld,k1,k2,rfl⟩:=tV (aJ h1) h3;obtain⟨j,hj,rfl⟩:=iM h5;have hp:=(aF.1 (aS ht h9)).1;have hz:¬j.sz=0:=(by have:=aQ.1 h7;omega);refine⟨.pointer (some (a1.add fld.offset)),c.w,OpR.vl (s:=Instr.fieldAt t (a.eval x) f) (by unfold execOp;rw[ho]) ?_,Po.same hr (aF.2 ⟨rfl,rfl⟩)⟩;simp only[Instr.fieldAt,Sem.run_bind,run_underlying k1,Result.andThen_ok,k2,hp,Instr.sureAddr,Sem.run_pure,fieldPlace,dC (aJ hj),hz,if_false]
  ·cases h11
 ·cases h11
theorem aDt{P:Program}{t off:Nat}{i:TI}(hi:Ty P t i){l l':List SV}{cs:List Value}{w:World}(hc:CL c l cs)(h1:cZ i.sz (drp off l)=some l')(h2:av i.d.ag l'=some v):∃u,(part t cs.toArray off).run P w=.ok u w∧VR c v u:=by
 rw[gN]at h1;obtain⟨h3,rfl⟩:=jY.1 h1;obtain⟨u,k1,k2,k3⟩:=xW h2 ((hc.drop off).take i.sz);refine⟨u,?_,k1⟩;unfold part;rw[Sem.run_bind,zG hi w,Result.andThen_ok];cases hg:i.d.ag with
 |true=>
  rw[if_pos rfl,Sem.run_bind,dC hi w,Result.andThen_ok,k2 hg];simp[List.extract_eq_take_drop]
 |false=>
  have h4:=k3 hg;have h5:cs[off]? =some u:=by
    have:=congrArg (fun l=>l[0]?) h4;simp only[List.getElem?_cons_zero]at this;rw[List.getElem?_take]at this;split at this
    ·simpa using this
    ·cases this
  simp[h5]
theorem aKq{t f:Nat}{x:Operand}(hr:Rl c wb h)(ht:Tr c nt e a.tmps)(ho:o.op=.field t x f)(hx:qF F e h t x f=some (v,h')):∃u w',OpR F.P a.eval o c.w u w'∧Po c wb h' v u w':=by
 obtain⟨i,h1,h2⟩:=aA.1 hx;obtain⟨q,h3,h4⟩:=aA.1 h2;obtain⟨j,h5,h6⟩:=aA.1 h4;obtain⟨v1,h7,h8⟩:=aA.1 h6;obtain⟨l,rfl,h9⟩:=nR.1 h8;obtain⟨l',h10,h11⟩:=aA.1 h9;obtain⟨v2,h12,h13⟩:=aA.1 h11;injection h13 with h13;injection h13 with h13 h14;subst h13;subst h14;obtain⟨fs,fld,k1,k2,rfl⟩:=tV (aJ h1) h3;obtain⟨cs,k3,k4⟩:=aS ht h7;obtain⟨u,k5,k6⟩:=aDt (w:=c.w) (aJ h5) k4 h10 h12;refine⟨u,c.w,OpR.vl (s:=Instr.field t (a.eval x) f) (by unfold execOp;rw[ho]) ?_,Po.same hr k6⟩;simp only[Instr.field,Sem.run_bind,run_underlying k1,Result.andThen_ok,k2,k3,asAgg,Sem.run_pure,k5]
theorem bC(s:ByteArray):(bytes s).length=s.size:=by
 unfold bytes;rw[List.length_map,Array.length_toList];rfl
theorem aPb{t:Nat}{x y:Operand}(hr:Rl c wb h)(ht:Tr c nt e a.tmps)(ho:o.op=.index t x y)(hx:oIx F e h t x y=some (v,h')):∃u w',OpR F.P a.eval o c.w u w'∧Po c wb h' v u w':=by
 obtain⟨i,h1,h2⟩:=aA.1 hx;obtain⟨v1,h3,h4⟩:=aA.1 h2;obtain⟨s,rfl,h5⟩:=aI.1 h4;obtain⟨kk,j,rfl,h6⟩:=fA h5;split at h6
 ·rename_i n el hd;obtain⟨g,h7,h8⟩:=aA.1 h6;obtain⟨h9,h10⟩:=aB.1 h8;obtain⟨v2,h11,h12⟩:=aA.1 h10;obtain⟨l,rfl,h13⟩:=nR.1 h12;obtain⟨l',h14,h15⟩:=aA.1 h13;obtain⟨v3,h16,h17⟩:=aA.1 h15;injection h17 with h17;injection h17 with h17 h18;subst h17;subst h18;have hk:a.eval y=.int kk (j:Int):=aF.1 (aS ht h3);obtain⟨cs,k3,k4⟩:=aS ht h11;obtain⟨u,k5,k6⟩:=aDt (w:=c.w) (aJ h7) k4 h14 h16;have hj:=aQ.1 h9;have hj2:(0:Int)≤(j:Int)∧(j:Int)<(n:Int):=(by omega);refine⟨u,c.w,OpR.vl (s:=Instr.index t (a.eval x) (a.eval y)) (by unfold execOp;rw[ho]) ?_,Po.same hr k6⟩;simp only[Instr.index,Sem.run_bind,hk,asIntOf,Sem.run_pure,Result.andThen_ok,run_underlying (mX (aJ h1) hd),k3,hj2,and_self,if_true,dC (aJ h7),Int.toNat_natCast];exact k5
 ·rename_i hd;obtain⟨v2,h7,h8⟩:=aA.1 h6;obtain⟨s2,rfl,h9⟩:=aI.1 h8;split at h9
  ·rename_i l;obtain⟨b,h10,h11⟩:=aA.1 h9;injection h11 with h11;injection h11 with h12 h13;subst h12;subst h13;have hk:a.eval y=.int kk (j:Int):=aF.1 (aS ht h3);obtain⟨st,h14,h15⟩:=aF.1 (aS ht h7);subst h15;have h16:(bytes st)[j]? =some b:=by
    rw[gN,List.head?_drop]at h10;exact h10
   have hlt:j<st.size:=by
    have:=(List.getElem?_eq_some_iff.1 h16).1
    rwa [bC]at this
   have h17:st[j]? =some st[j]:=getElem?_pos st j hlt;have h18:(st[j]).toNat=b:=by
    have h2:=(List.getElem?_eq_some_iff.1 h16).2;unfold bytes at h2;rw[List.getElem_map]at h2;exact h2
   refine⟨.int .u8 (b:Int),c.w,OpR.vl (s:=Instr.index t (a.eval x) (a.eval y)) (by unfold execOp;rw[ho]) ?_,Po.same hr (aF.2 rfl)⟩;simp only[Instr.index,Sem.run_bind,hk,asIntOf,Sem.run_pure,Result.andThen_ok,run_underlying (jZ (aJ h1) hd),h14,Int.natCast_nonneg,if_true,Int.toNat_natCast,h17,h18]
  ·cases h9
 ·cases h6
theorem aPc{t:Nat}{x y:Operand}(hr:Rl c wb h)(ht:Tr c nt e a.tmps)(ho:o.op=.indexAddr t x y)(hx:oIA F e h t x y=some (v,h')):∃u w',OpR F.P a.eval o c.w u w'∧Po c wb h' v u w':=by
 obtain⟨i,h1,h2⟩:=aA.1 hx;obtain⟨v1,h3,h4⟩:=aA.1 h2;obtain⟨s,rfl,h5⟩:=aI.1 h4;obtain⟨kk,j,rfl,h6⟩:=fA h5;obtain⟨v2,h7,h8⟩:=aA.1 h6;obtain⟨s2,rfl,h9⟩:=aI.1 h8;have hk:a.eval y=.int kk (j:Int):=aF.1 (aS ht h3);have hp:=aF.1 (aS ht h7);have he:execOp a.eval o=(do pure (Next.value (←Instr.indexAt t (a.eval x) (a.eval y)))):=by unfold execOp;rw[ho]
 split at h9
 ·rename_i el id off n cap hd;obtain⟨z,h10,h11⟩:=aA.1 h9;obtain⟨h12,h13⟩:=aB.1 h11;obtain⟨g,hg,rfl⟩:=iM h10;injection h13 with h13;injection h13 with h13 h14;subst h13;subst h14;have hj:=aQ.1 h12;have hj2:(0:Int)≤(j:Int)∧(j:Int)<(n:Int):=(by omega);obtain⟨hid,cap2,hp2⟩:c.k id∧∃cap2,a.eval x=.slice (some ⟨c.r id,off,none⟩) n cap2:=by
   cases cap with
   |some cap=>exact⟨hp.1,cap,hp.2⟩
   |none=>
    obtain⟨h0,cap,o,-,k2,k3,-⟩:=hp;exact⟨h0,cap,by rw[k2,k3 (.inl (by omega))]⟩
  refine⟨.pointer (some ⟨c.r id,off+j*g.sz,none⟩),c.w,OpR.vl he ?_,Po.same hr (aF.2 ⟨hid,rfl⟩)⟩;simp only[Instr.indexAt,Sem.run_bind,hk,asIntOf,Sem.run_pure,Result.andThen_ok,run_underlying (gB (aJ h1) hd),hp2,hj2,and_self,if_true,dC (aJ hg),Int.toNat_natCast,add0]
 ·rename_i n el id off hd;obtain⟨z,h10,h11⟩:=aA.1 h9;obtain⟨h12,h13⟩:=aB.1 h11;obtain⟨g,hg,rfl⟩:=iM h10;injection h13 with h13;injection h13 with h13 h14;subst h13;subst h14;have hj:=aQ.1 h12;have hj2:(0:Int)≤(j:Int)∧(j:Int)<(n:Int):=(by omega);refine⟨.pointer (some ⟨c.r id,off+j*g.sz,none⟩),c.w,OpR.vl he ?_,Po.same hr (aF.2 ⟨hp.1,rfl⟩)⟩;simp only[Instr.indexAt,Sem.run_bind,hk,asIntOf,Sem.run_pure,Result.andThen_ok,run_underlying (mX (aJ h1) hd),hp.2,Instr.sureAddr,hj2,and_self,if_true,dC (aJ hg),Int.toNat_natCast,add0]
 ·rename_i el x1 hd;obtain⟨z,h10,h11⟩:=aA.1 h9;unfold roA at h11;split at h11
  ·rename_i a1 n cap;obtain⟨h12,h13⟩:=aB.1 h11;obtain⟨g,hg,rfl⟩:=iM h10;injection h13 with h13;injection h13 with h13 h14;subst h13;subst h14;have hj:=aQ.1 h12;have hj2:(0:Int)≤(j:Int)∧(j:Int)<(n:Int):=(by omega);have hp2:a.eval x=.slice (some a1) n cap:=hp.1;refine⟨.pointer (some (a1.add (j*g.sz))),c.w,OpR.vl he ?_,Po.same hr (aF.2 ⟨rfl,rfl⟩)⟩;simp only[Instr.indexAt,Sem.run_bind,hk,asIntOf,Sem.run_pure,Result.andThen_ok,run_underlying (gB (aJ h1) hd),hp2,hj2,and_self,if_true,dC (aJ hg),Int.toNat_natCast]
  ·cases h11
 ·rename_i n el x1 hd;obtain⟨z,h10,h11⟩:=aA.1 h9;obtain⟨h12,h13⟩:=aB.1 h11;obtain⟨g,hg,rfl⟩:=iM h10;unfold roF at h13;split at h13
  ·rename_i a1;injection h13 with h13;injection h13 with h13 h14;subst h13;subst h14;have hj:=aQ.1 h12;have hj2:(0:Int)≤(j:Int)∧(j:Int)<(n:Int):=(by omega);have hp2:a.eval x=.pointer (some a1):=hp.1;refine⟨.pointer (some (a1.add (j*g.sz))),c.w,OpR.vl he ?_,Po.same hr (aF.2 ⟨rfl,rfl⟩)⟩;simp only[Instr.indexAt,Sem.run_bind,hk,asIntOf,Sem.run_pure,Result.andThen_ok,run_underlying (mX (aJ h1) hd),hp2,Instr.sureAddr,hj2,and_self,if_true,dC (aJ hg),Int.toNat_natCast]
  ·cases h13
 ·cases h9
theorem TL.at_:∀{l:List (Bool × List SV)} {r:List Value} {j:Nat} {x:Bool × List SV},TL c l r→l[j]? =some x→∃v,r[j]? =some v∧VC c x.1 x.2 v
 | [],[],_,_,_,h=>by simp at h
 |y::_,v::_,0,x,h,hx=>by simp at hx;subst hx;exact⟨v,rfl,h.1⟩
 |_::_,_::_,j+1,x,h,hx=>by
  obtain⟨v,h1,h2⟩:=TL.at_ (j:=j) h.2 (by simpa using hx);exact⟨v,by simpa using h1,h2⟩
theorem aN1{x:Operand}{ix:Nat}(hr:Rl c wb h)(ht:Tr c nt e a.tmps)(ho:o.op=.extract x ix)(hx:tK e h x ix=some (v,h')):∃u w',OpR F.P a.eval o c.w u w'∧Po c wb h' v u w':=by
 obtain⟨v1,h1,h2⟩:=aA.1 hx;cases v1 with
 |c g l=>cases h2
 |t l=>
  obtain⟨p,h3,h4⟩:=aA.1 h2;injection h4 with h4;injection h4 with h4 h5;subst h4;subst h5;obtain⟨vs,k1,k2⟩:=aS ht h1;obtain⟨u,k3,k4⟩:=k2.at_ (bN h3);refine⟨u,c.w,OpR.vl (s:=Instr.extract (a.eval x) ix) (by unfold execOp;rw[ho]) ?_,Po.same hr k4⟩;simp[Instr.extract,k1,k3]
theorem wrap_small{k:IntKind}{n:Nat}(h:n<lim k):k.wrap (n:Int)=(n:Int):=by
 cases k<;>simp only[lim]at h<;>simp only[IntKind.wrap,IntKind.bits,IntKind.signed,Bool.true_and,Bool.false_and,Bool.false_eq_true,if_false]
 ·have e1:(2:Int)^(8-1)=128:=rfl;have e2:(2:Int)^8=256:=rfl;split
  ·rename_i hh;have h2:=of_decide_eq_true hh;rw[e1,e2]at h2;omega
  ·rw[e2];omega
 ·have e1:(2:Int)^(16-1)=32768:=rfl;have e2:(2:Int)^16=65536:=rfl;split
  ·rename_i hh;have h2:=of_decide_eq_true hh;rw[e1,e2]at h2;omega
  ·rw[e2];omega
 ·have e1:(2:Int)^(32-1)=2147483648:=rfl;have e2:(2:Int)^32=4294967296:=rfl;split
  ·rename_i hh;have h2:=of_decide_eq_true hh;rw[e1,e2]at h2;omega
  ·rw[e2];omega
 ·have e1:(2:Int)^(64-1)=9223372036854775808:=rfl;have e2:(2:Int)^64=18446744073709551616:=rfl;split
  ·rename_i hh;have h2:=of_decide_eq_true hh;rw[e1,e2]at h2;omega
  ·rw[e2];omega
 ·omega
 ·omega
 ·omega
 ·omega
theorem kC{k:IntKind}{n:Nat}{s:SV}(h:mkI k n=some s):s=.i k (k.wrap (n:Int)):=by
 unfold mkI at h;rw[aM,aL]at h;split at h
 ·injection h with h;rw[←h,wrap_small (aQ.1 (by assumption))];rfl
 ·rw[qH]at h;injection h with h;exact h.symm
theorem nU{k:IntKind}{n:Int}{s:SV}(h:mkZ k n=some s):s=.i k (k.wrap n):=by
 unfold mkZ at h;rw[qH]at h;injection h with h;exact h.symm
theorem iE{β:Type}{a c:Int}{f:Nat→Nat→β}{g y:β}(h:two a c f g=y):(∃m n,a=Int.ofNat m∧c=Int.ofNat n∧f m n=y)∨g=y:=by
 cases a with
 |ofNat m=>
  cases c with
  |ofNat n=>exact .inl ⟨m,n,rfl,rfl,h⟩
  |negSucc n=>exact .inr h
 |negSucc m=>exact .inr h
theorem lU(a c:Int):iEq a c=decide (a=c):=by
 rcases iE (rfl:iEq a c=iEq a c) with⟨m,n,rfl,rfl,h⟩|h
 ·rw[←h];by_cases e:m=n
  ·subst e;rw[aH.2 rfl];simp
  ·rw[aAK.2 e];symm;apply decide_eq_false;intro h;injection h;contradiction
 ·exact h.symm
theorem iZ(a c:Int):iLt a c=decide (a<c):=by
 rcases iE (rfl:iLt a c=iLt a c) with⟨m,n,rfl,rfl,h⟩|h
 ·rw[←h];by_cases e:m<n
  ·rw[aQ.2 e];symm;apply decide_eq_true;exact Int.ofNat_lt.2 e
  ·rw[aEH.2 e];symm;apply decide_eq_false;intro h;exact e (Int.ofNat_lt.1 h)
 ·exact h.symm
theorem qJ(b:Bool):cO b=!b:=by cases b<;>rfl
theorem aIc(k:IntKind):lim k≤2^k.bits:=by cases k<;>decide
theorem lV{k:IntKind}{m:Nat}(h:Nat.blt m (lim k)=true):(BitVec.ofInt k.bits (Int.ofNat m)).toNat=m:=by
 have h:=Nat.lt_of_lt_of_le (aQ.1 h) (aIc k);rw[show Int.ofNat m=(m:Int) from rfl,BitVec.ofInt_natCast,BitVec.toNat_ofNat,Nat.mod_eq_of_lt h]
theorem aDu{P:Program}{t:Nat}{k j:IntKind}{x y:Int}{s:SV}(h:aEs k x y=some s)(w:World):∃u,(binOp .shl t (.int k x) (.int j y)).run P w=.ok u w∧SR c s u:=by
 unfold aEs at h;rcases iE h with⟨m,n,rfl,rfl,h2⟩|h2
 ·obtain⟨h3,h2⟩:=aB.1 h2;have h3:=bA.1 h3;refine⟨.int k (k.wrap ((Nat.mul m (Nat.pow 2 n):Nat):Int)),?_,by rw[kC h2];rfl⟩;have e:((Nat.mul m (Nat.pow 2 n):Nat):Int)=Int.ofNat m*2^(min (Int.ofNat n).toNat k.bits):=by
   rw[show min (Int.ofNat n).toNat k.bits=n from Nat.min_eq_left h3];show ((m*2^n:Nat):Int)=(m:Int)*2^n
   push_cast;rfl
  have hn:¬(Int.ofNat n<0):=Int.not_lt.2 (Int.natCast_nonneg n);rw[e];show (Op.shift .shl k (Int.ofNat m) j (Int.ofNat n)).run P w=_;unfold Op.shift;rw[if_neg hn];rfl
 ·cases h2
theorem aDv{P:Program}{t:Nat}{k j:IntKind}{x y:Int}{s:SV}(h:aEt k x y=some s)(w:World):∃u,(binOp .shr t (.int k x) (.int j y)).run P w=.ok u w∧SR c s u:=by
 unfold aEt at h;rcases iE h with⟨m,n,rfl,rfl,h2⟩|h2
 ·obtain⟨h3,h2⟩:=aB.1 h2;have h3:=bA.1 h3;rw[aM]at h2;injection h2 with h2;refine⟨.int k (Int.ofNat (Nat.div m (Nat.pow 2 n))),?_,by rw[←h2];rfl⟩;have e:Int.ofNat (Nat.div m (Nat.pow 2 n))=(Int.ofNat m).fdiv (2^(min (Int.ofNat n).toNat k.bits)):=by
   rw[show min (Int.ofNat n).toNat k.bits=n from Nat.min_eq_left h3];have e2:(2:Int)^n=((2^n:Nat):Int):=(by push_cast;rfl);rw[e2];exact Int.ofNat_fdiv m (2^n)
  have hn:¬(Int.ofNat n<0):=Int.not_lt.2 (Int.natCast_nonneg n);rw[e];show (Op.shift .shr k (Int.ofNat m) j (Int.ofNat n)).run P w=_;unfold Op.shift;rw[if_neg hn];rfl
 ·cases h2
theorem aL4{P:Program}{op:BinOp}{t:Nat}{k j:IntKind}{x y:Int}{s:SV}(h:shI op k x y=some s)(w:World):∃u,(binOp op t (.int k x) (.int j y)).run P w=.ok u w∧SR c s u:=by
 unfold shI at h;split at h
 ·exact aDu h w
 ·exact aDv h w
 ·cases h
theorem aL5{P:Program}{op:BinOp}{t:Nat}{k:IntKind}{x y:Int}{s:SV}(h:iop op k x y=some s)(w:World):∃u,(binOp op t (.int k x) (.int k y)).run P w=.ok u w∧SR c s u:=by
 unfold iop at h;split at h
 case h_1=>
  refine⟨.int k (k.wrap (x+y)),by simp[binOp,Op.intArith],?_⟩;rcases iE h with⟨m,n,rfl,rfl,h2⟩|h2
  ·rw[kC h2];rfl
  ·rw[nU h2];rfl
 case h_2=>
  refine⟨.int k (k.wrap (x-y)),by simp[binOp,Op.intArith],?_⟩;rcases iE h with⟨m,n,rfl,rfl,h2⟩|h2
  ·rw[aL]at h2;split at h2
   ·rename_i hb;have hb:=bA.1 hb;rw[kC h2];have e:((Nat.sub m n:Nat):Int)=Int.ofNat m-Int.ofNat n:=by
     show ((m-n:Nat):Int)=(m:Int)-(n:Int)
     omega
    rw[e];rfl
   ·rw[nU h2];rfl
  ·rw[nU h2];rfl
 case h_3=>
  refine⟨.int k (k.wrap (x*y)),by simp[binOp,Op.intArith],?_⟩;rcases iE h with⟨m,n,rfl,rfl,h2⟩|h2
  ·rw[kC h2];have e:((Nat.mul m n:Nat):Int)=Int.ofNat m*Int.ofNat n:=by
    show ((m*n:Nat):Int)=(m:Int)*(n:Int)
    exact Int.natCast_mul m n
   rw[e];rfl
  ·rw[nU h2];rfl
 case h_4=>
  unfold aLQ at h;obtain⟨h1,h2⟩:=cbn.1 h;have h1:y≠0:=of_decide_eq_false h1;refine⟨.int k (k.wrap (x.tdiv y)),by simp[binOp,Op.intDiv,h1],?_⟩;rw[nU h2];rfl
 case h_5=>
  unfold aHZ at h;obtain⟨h1,h2⟩:=cbn.1 h;have h1:y≠0:=of_decide_eq_false h1;refine⟨.int k (x.tmod y),by simp[binOp,Op.intDiv,h1],?_⟩;rw[qH]at h2;injection h2 with h2;subst h2;rfl
 case h_6=>
  injection h with h;subst h;exact⟨.bool (x == y),by simp[binOp,Op.intCmp],by rw[lU];rfl⟩
 case h_7=>
  injection h with h;subst h;exact⟨.bool (x != y),by simp[binOp,Op.intCmp],by rw[lU,qJ];rfl⟩
 case h_8=>
  injection h with h;subst h;exact⟨.bool (decide (x<y)),by simp[binOp,Op.intCmp],by rw[iZ];rfl⟩
 case h_9=>
  injection h with h;subst h;refine⟨.bool (decide (x≤y)),by simp[binOp,Op.intCmp],?_⟩;rw[iZ,qJ];show Value.bool _=Value.bool _;congr 1;by_cases e:y<x
  ·rw[decide_eq_true e,decide_eq_false (by omega)];rfl
  ·rw[decide_eq_false e,decide_eq_true (by omega)];rfl
 case h_10=>
  injection h with h;subst h;exact⟨.bool (decide (x>y)),by simp[binOp,Op.intCmp],by rw[iZ];rfl⟩
 case h_11=>
  injection h with h;subst h;refine⟨.bool (decide (x≥y)),by simp[binOp,Op.intCmp],?_⟩;rw[iZ,qJ];show Value.bool _=Value.bool _;congr 1;by_cases e:x<y
  ·rw[decide_eq_true e,decide_eq_false (by omega)];rfl
  ·rw[decide_eq_false e,decide_eq_true (by omega)];rfl
 case h_12=>
  unfold tC at h;rcases iE h with⟨m,n,rfl,rfl,h2⟩|h2
  ·obtain⟨h3,h2⟩:=aB.1 h2;obtain⟨h4,h2⟩:=aB.1 h2;refine⟨.int k (k.wrap ((Nat.land m n:Nat):Int)),?_,by rw[kC h2];rfl⟩;have e:(BitVec.ofInt k.bits (Int.ofNat m) &&& BitVec.ofInt k.bits (Int.ofNat n)).toNat=Nat.land m n:=(by rw[BitVec.toNat_and,lV h3,lV h4];rfl);rw[←e];simp[binOp,Op.intBits]
  ·cases h2
 case h_13=>
  unfold tC at h;rcases iE h with⟨m,n,rfl,rfl,h2⟩|h2
  ·obtain⟨h3,h2⟩:=aB.1 h2;obtain⟨h4,h2⟩:=aB.1 h2;refine⟨.int k (k.wrap ((Nat.lor m n:Nat):Int)),?_,by rw[kC h2];rfl⟩;have e:(BitVec.ofInt k.bits (Int.ofNat m) |||BitVec.ofInt k.bits (Int.ofNat n)).toNat=Nat.lor m n:=(by rw[BitVec.toNat_or,lV h3,lV h4];rfl);rw[←e];simp[binOp,Op.intBits]
  ·cases h2
 case h_14=>
  unfold tC at h;rcases iE h with⟨m,n,rfl,rfl,h2⟩|h2
  ·obtain⟨h3,h2⟩:=aB.1 h2;obtain⟨h4,h2⟩:=aB.1 h2;refine⟨.int k (k.wrap ((Nat.xor m n:Nat):Int)),?_,by rw[kC h2];rfl⟩;have e:(BitVec.ofInt k.bits (Int.ofNat m)^^^BitVec.ofInt k.bits (Int.ofNat n)).toNat=Nat.xor m n:=(by rw[BitVec.toNat_xor,lV h3,lV h4];rfl);rw[←e];simp[binOp,Op.intBits]
  ·cases h2
 case h_15=>
  unfold tC at h;rcases iE h with⟨m,n,rfl,rfl,h2⟩|h2
  ·obtain⟨h3,h2⟩:=aB.1 h2;obtain⟨h4,h2⟩:=aB.1 h2;refine⟨.int k (k.wrap ((Nat.xor m (Nat.land m n):Nat):Int)),?_,by rw[kC h2];rfl⟩;have e:(BitVec.ofInt k.bits (Int.ofNat m) &&& ~~~BitVec.ofInt k.bits (Int.ofNat n)).toNat=Nat.xor m (Nat.land m n):=by
    rw[show BitVec.ofInt k.bits (Int.ofNat m) &&& ~~~BitVec.ofInt k.bits (Int.ofNat n)=BitVec.ofInt k.bits (Int.ofNat m)^^^(BitVec.ofInt k.bits (Int.ofNat m) &&& BitVec.ofInt k.bits (Int.ofNat n)) from by
     generalize BitVec.ofInt k.bits (Int.ofNat m)=x;generalize BitVec.ofInt k.bits (Int.ofNat n)=y;ext i hi;rw[BitVec.getElem_and,BitVec.getElem_not,BitVec.getElem_xor,BitVec.getElem_and];cases x[i]<;>cases y[i]<;>rfl]
    rw[BitVec.toNat_xor,BitVec.toNat_and,lV h3,lV h4];rfl
   rw[←e];simp[binOp,Op.intBits]
  ·cases h2
 case h_16=>exact aDu h w
 case h_17=>exact aDv h w
theorem tX:∀(l m:List Nat),eqL l m=decide (l=m)
 | [],[]=>rfl
 | [],_::_=>rfl
 |_::_,[]=>rfl
 |x::l,y::m=>by
  have e:eqL (x::l) (y::m)=cb (Nat.beq x y) (eqL l m) false:=rfl;rw[e,aL,tX l m];by_cases h:x=y
  ·subst h;rw[if_pos (aH.2 rfl)];simp
  ·rw[if_neg (by rw[aH];exact h)];simp[h]
theorem bytes_inj{s t:ByteArray}(h:bytes s=bytes t):s=t:=by
 unfold bytes at h;have h2:s.data.toList=t.data.toList:=by
  refine List.map_inj_right (f:=UInt8.toNat) (fun x y e=>UInt8.toNat_inj.1 e) |>.1 h
 cases s;cases t;congr 1;exact Array.toList_inj.1 h2
theorem str_eq(s t:ByteArray):(s.toList == t.toList)=eqL (bytes s) (bytes t):=by
 rw[tX,ByteArray.toList_eq,ByteArray.toList_eq];by_cases h:s=t
 ·subst h;simp
 ·have h1:¬bytes s=bytes t:=fun e=>h (bytes_inj e);rw[decide_eq_false h1];have h2:¬s.data.toList=t.data.toList:=fun e=>h1 (by unfold bytes;rw[e]);simpa using h2
theorem iF(s t:ByteArray):bytes (s++t)=bytes s++bytes t:=by
 unfold bytes;rw[ByteArray.data_append,Array.toList_append,List.map_append]
theorem aGc{op:BinOp}{r:Bool}{s:SV}(h:eqv op r=some s):(op=.eql∧s=.b r)∨(op=.neq∧s=.b (!r)):=by
 unfold eqv at h;split at h
 ·injection h with h;exact .inl ⟨rfl,h.symm⟩
 ·injection h with h;exact .inr ⟨rfl,by rw[←qJ];exact h.symm⟩
 ·cases h
section
variable {P:Program} {t el:Nat} {w:World} (d:Nat)
theorem aId{x y:Bool}(hu:P.underlying t=some .bool):(Op.equalIn (d+1) t (.bool x) (.bool y)).run P w=.ok (x == y) w:=by simp[Op.equalIn,run_underlying hu]
theorem aL6(hu:P.underlying t=some (.pointer el)):(Op.equalIn (d+1) t (.pointer none) (.pointer none)).run P w=.ok true w:=by simp[Op.equalIn,run_underlying hu]
theorem aL7{A:Addr}(hu:P.underlying t=some (.pointer el)):(Op.equalIn (d+1) t (.pointer none) (.pointer (some A))).run P w=.ok false w:=by simp[Op.equalIn,run_underlying hu]
theorem aL8{A:Addr}(hu:P.underlying t=some (.pointer el)):(Op.equalIn (d+1) t (.pointer (some A)) (.pointer none)).run P w=.ok false w:=by simp[Op.equalIn,run_underlying hu]
theorem aL9{n m k l:Nat}(hu:P.underlying t=some (.slice el)):(Op.equalIn (d+1) t (.slice none n m) (.slice none k l)).run P w=.ok true w:=by simp[Op.equalIn,run_underlying hu]
theorem aMa{A:Addr}{n m k l:Nat}(hu:P.underlying t=some (.slice el)):(Op.equalIn (d+1) t (.slice none n m) (.slice (some A) k l)).run P w=.ok false w:=by simp[Op.equalIn,run_underlying hu]
theorem aMb{A:Addr}{n m k l:Nat}(hu:P.underlying t=some (.slice el)):(Op.equalIn (d+1) t (.slice (some A) n m) (.slice none k l)).run P w=.ok false w:=by simp[Op.equalIn,run_underlying hu]
end
theorem mY{P:Program}{op:BinOp}{t:Nat}{x y:Value}{r:Bool}{s:SV}{w:World}(h:eqv op r=some s)(hb:∀op,op=.eql∨op=.neq→binOp op t x y=(if op=.eql then (do pure (.bool (←Op.equal t x y))) else (do pure (.bool (!(←Op.equal t x y))))))
  (he:(Op.equal t x y).run P w=.ok r w):∃u,(binOp op t x y).run P w=.ok u w∧SR c s u:=by
 rcases aGc h with⟨rfl,rfl⟩|⟨rfl,rfl⟩
 ·exact⟨.bool r,by rw[hb _ (.inl rfl),if_pos rfl,Sem.run_bind,he];rfl,rfl⟩
 ·exact⟨.bool (!r),by rw[hb _ (.inr rfl),if_neg (by decide),Sem.run_bind,he];rfl,rfl⟩
theorem aIe{P:Program}{i:TI}{d:Dk}{op:BinOp}{t:Nat}{x y s:SV}{p q:Value}(hi:Ty P t i)(hd:i.d=d)(h:aEu d op x y=some s)(hp:SR c x p)(hq:SR c y q)(w:World):∃u,(binOp op t p q).run P w=.ok u w∧SR c s u:=by
 unfold aEu at h;split at h
 ·obtain⟨el,hu⟩:=aEM hi hd;cases hp;cases hq;exact mY h (fun op ho=>by rcases ho with rfl|rfl<;>rfl) (aL6 9999 hu)
 ·obtain⟨el,hu⟩:=aEM hi hd;obtain⟨-,rfl⟩:=hq;cases hp;exact mY h (fun op ho=>by rcases ho with rfl|rfl<;>rfl) (aL7 9999 hu)
 ·obtain⟨el,hu⟩:=aEM hi hd;obtain⟨-,rfl⟩:=hp;cases hq;exact mY h (fun op ho=>by rcases ho with rfl|rfl<;>rfl) (aL8 9999 hu)
 ·have hu:=gB hi hd;cases hp;cases hq;exact mY h (fun op ho=>by rcases ho with rfl|rfl<;>rfl) (aL9 9999 hu)
 ·rename_i cap;have hu:=gB hi hd;cases hp;obtain⟨A,n,cp,rfl⟩:∃A n cp,q=.slice (some A) n cp:=by
   cases cap with
   |none=>
    obtain⟨-,_,_,-,k2,-⟩:=hq;exact⟨_,_,_,k2⟩
   |some cp=>exact⟨_,_,_,hq.2⟩
  exact mY h (fun op ho=>by rcases ho with rfl|rfl<;>rfl) (aMa 9999 hu)
 ·rename_i cap;have hu:=gB hi hd;cases hq;obtain⟨A,n,cp,rfl⟩:∃A n cp,p=.slice (some A) n cp:=by
   cases cap with
   |none=>
    obtain⟨-,_,_,-,k2,-⟩:=hp;exact⟨_,_,_,k2⟩
   |some cp=>exact⟨_,_,_,hp.2⟩
  exact mY h (fun op ho=>by rcases ho with rfl|rfl<;>rfl) (aMb 9999 hu)
 ·cases h
theorem aMc{P:Program}{i:TI}{op:BinOp}{t:Nat}{x y s:SV}{p q:Value}(hi:Ty P t i)(h:bop i.d op x y=some s)(hp:SR c x p)(hq:SR c y q)(w:World):∃u,(binOp op t p q).run P w=.ok u w∧SR c s u:=by
 unfold bop at h;split at h
 ·rename_i k m;unfold aLS at h;split at h
  ·rename_i j n;cases hp;cases hq;rw[aL]at h;split at h
   ·rename_i h1;have h1:=of_decide_eq_true h1;subst h1;exact aL5 h w
   ·exact aL4 h w
  ·cases h
 ·rename_i b;split at h
  ·rename_i hd;unfold aLT at h;split at h
   ·rename_i b2;cases hp;cases hq;exact mY h (fun op ho=>by rcases ho with rfl|rfl<;>rfl) (aId 9999 (aKp hi hd))
   ·cases h
  ·cases h
 ·rename_i l;unfold aLR at h;split at h
  ·rename_i m;obtain⟨s1,rfl,e1⟩:=hp;obtain⟨s2,rfl,e2⟩:=hq;split at h
   ·obtain⟨h1,h2⟩:=aB.1 h;injection h2 with h2;subst h2;have h1:=aQ.1 h1;rw[bH,bH,←e1,←e2,bC,bC]at h1;change s1.size+s2.size<_ at h1;refine⟨.string (s1++s2),?_,s1++s2,rfl,by rw[iY,iF,e1,e2]⟩;have h3:¬((s1.size+s2.size:Nat):Int)>IntKind.i64.max:=by
     have:IntKind.i64.max=9223372036854775807:=(by decide);omega
    show (Op.stringOp .add s1 s2).run P w=_;unfold Op.stringOp;simp only[h3,if_false];rfl
   ·rename_i op _;rcases aGc h with⟨rfl,rfl⟩|⟨rfl,rfl⟩
    ·exact⟨.bool (s1.toList == s2.toList),rfl,by rw[str_eq,e1,e2];rfl⟩
    ·exact⟨.bool (!(s1.toList == s2.toList)),rfl,by rw[str_eq,e1,e2];rfl⟩
  ·cases h
 ·exact aIe hi rfl h hp hq w
end
section
variable {F:Cf} {c:Cx} {wb:World} {h h':H} {nt:Nat} {e:Env} {a:Act} {o:Oper} {v:AV} {α:Type}
theorem aN{s:SV}{r:AV × H}(h1:vh s h=some r):r=(sc s,h):=by injection h1 with h1;exact h1.symm
def okC(v:Value):Bool:=match v with| .agg _=>false| .tuple _=>false| .nilIface=>false| .iface _ _=>false|_=>true
theorem aMd{s:SV}{u:Value}(h:SR c s u)(hn:∀x,s≠.v x):okC u=true:=by
 cases s with
 |u=>cases h
 |s l=>obtain⟨_,rfl,-⟩:=h;rfl
 |p id off=>rw[h.2];rfl
 |sl id off len cap=>
  cases cap with
  |some cap=>rw[h.2];rfl
  |none=>obtain⟨_,_,_,_,rfl,-⟩:=h;rfl
 |m n=>obtain⟨_,_,_,rfl,-⟩:=h;rfl
 |f fn cs=>rw[h.2];rfl
 |y l=>rw[h.2];rfl
 |q l=>rw[h.2];rfl
 |r n=>obtain⟨_,_,_,rfl,-⟩:=h;rfl
 |v x=>exact absurd rfl (hn x)
 |_=>rw[h];rfl
theorem aEN{op:BinOp}{t:Nat}{x y:Operand}{p q:Value}(hp:okC p=true):eqGuard op t x y p q=pure ():=by
 unfold eqGuard;cases p<;>first|exact Bool.noConfusion hp|(cases op<;>first|rfl|(cases q<;>rfl))
theorem lW{P:Program}{el:Nat}{j:TI}{w:World}(hj:Ty P el j)(hd:j.d.ag=false){xs:List Value}{n:Nat}{u:Value}(h:xs[n]? =some u):(part el xs.toArray n).run P w=.ok u w:=by
 unfold part;rw[Sem.run_bind,zG hj w,Result.andThen_ok,hd];simp[h]
theorem CL.here{x:SV}{l:List SV}{xs:List Value}{n:Nat}(h:CL c (x::l) (xs.drop n)):∃u,xs[n]? =some u∧SR c x u∧CL c l (xs.drop (n+1)):=by
 cases hq:xs.drop n with
 |nil=>rw[hq]at h;exact h.elim
 |cons u r=>
  rw[hq]at h;refine⟨u,?_,h.1,?_⟩
  ·have:=congrArg List.head? hq;simpa using this
  ·have:=congrArg List.tail hq;rw[List.tail_drop]at this;rw[this];exact h.2
theorem aAl{x y:SV}{r:Option Bool}{b:Bool}(h:aEv x y r=some b):∃k a c,x=.i k a∧y=.i k c∧((a=c∧r=some b)∨(a≠c∧b=false)):=by
 cases x with
 |i k a=>
  cases y with
  |i j c=>
   obtain⟨h1,h2⟩:=aB.1 (show cb (decide (k=j)) (cb (iEq a c) r (some false)) none=some b from h);have h1:=of_decide_eq_true h1;subst h1;refine⟨k,a,c,rfl,rfl,?_⟩;rw[aL,lU]at h2;split at h2
   ·rename_i hac;exact .inl ⟨of_decide_eq_true hac,h2⟩
   ·rename_i hac;injection h2 with h2;exact .inr ⟨fun e=>hac (decide_eq_true e),h2.symm⟩
  |_=>cases h
 |_=>cases h
theorem aBF{P:Program}{el:Nat}{kk:IntKind}{j:TI}{w:World}(hj:Ty P el j)(hd:j.d=.int kk)(hc:P.cellsOf el=1){xs ys:List Value}{dp:Nat}:∀{l m:List SV} {n:Nat} {r:Bool},CL c l (xs.drop n)→CL c m (ys.drop n)→eqI l m=some r→(Op.eqItems (dp+1) el (P.cellsOf el) xs.toArray ys.toArray (List.range' n l.length)).run P w=.ok r w
 | [],m,n,r,hl,hm,h=>by
   cases m with
   |nil=>injection h with h;subst h;rfl
   |cons y m=>cases h
 |x::l,[],n,r,hl,hm,h=>by cases h
 |x::l,y::m,n,r,hl,hm,h=>by
  obtain⟨k,a,b,rfl,rfl,h2⟩:=aAl (show aEv x y (eqI l m)=some r from h);obtain⟨u,p1,p2,p3⟩:=hl.here;obtain⟨u2,p4,p5,p6⟩:=hm.here;have hu:u=.int k a:=p2;have hu2:u2=.int k b:=p5;subst hu;subst hu2;have he:(Op.equalIn (dp+1) el (.int k a) (.int k b)).run P w=.ok (a == b) w:=(by simp[Op.equalIn,run_underlying (lT hj hd)]);have hag:j.d.ag=false:=(by rw[hd];rfl);have key:(Op.eqItems (dp+1) el (P.cellsOf el) xs.toArray ys.toArray (List.range' n (SV.i k a::l).length)).run P w=(if (!(a == b))=true then (pure false:Sem Bool) else Op.eqItems (dp+1) el (P.cellsOf el) xs.toArray ys.toArray (List.range' (n+1) l.length)).run P w:=by
    rw[List.length_cons,List.range'_succ];simp only[Op.eqItems,Sem.run_bind,hc,Nat.mul_one,lW (w:=w) hj hag p1,lW (w:=w) hj hag p4,Result.andThen_ok,he]
  refine key.trans ?_;rcases h2 with⟨rfl,h2⟩|⟨hab,rfl⟩
  ·rw[if_neg (by simp)];exact aBF hj hd hc p3 p6 h2
  ·rw[if_pos (by simpa using hab)];rfl
theorem aMe{k:IntKind}{a:Int}{y:SV}{r:Option Bool}{b:Bool}(h:aEw (.i k a) y r=some b):∃d,y=.i k d∧((a=d∧r=some b)∨(a≠d∧b=false)):=by
 cases y with
 |i j d=>
  obtain⟨h1,h2⟩:=aB.1 (show cb (decide (k=j)) (cb (iEq a d) r (some false)) none=some b from h);have h1:=of_decide_eq_true h1;subst h1;refine⟨d,rfl,?_⟩;rw[aL,lU]at h2;split at h2
  ·rename_i hac;exact .inl ⟨of_decide_eq_true hac,h2⟩
  ·rename_i hac;injection h2 with h2;exact .inr ⟨fun e=>hac (decide_eq_true e),h2.symm⟩
 |_=>cases h
theorem aMf{a:List Nat}{y:SV}{r:Option Bool}{b:Bool}(h:aEw (.s a) y r=some b):∃d,y=.s d∧((a=d∧r=some b)∨(a≠d∧b=false)):=by
 cases y with
 |s d=>
  have h2:cb (eqL a d) r (some false)=some b:=h;refine⟨d,rfl,?_⟩;rw[aL,tX _ _]at h2;split at h2
  ·rename_i hac;exact .inl ⟨of_decide_eq_true hac,h2⟩
  ·rename_i hac;injection h2 with h2;exact .inr ⟨fun e=>hac (decide_eq_true e),h2.symm⟩
 |_=>cases h
theorem aBG{xs ys:List Value}{dp:Nat}{w:World}:∀{fs:List Field} {l m:List SV} {n:Nat} {r:Bool},CL c l (xs.drop n)→CL c m (ys.drop n)→eqF F fs n l m=some r→(Op.eqFields (dp+1) xs.toArray ys.toArray fs).run F.P w=.ok r w
 | [],l,m,n,r,hl,hm,h=>by
   cases l with
   |nil=>
    have h:some true=some r:=h;injection h with h;subst h;rfl
   |cons x l=>cases h
 |f::fs,l,m,n,r,hl,hm,h=>by
  obtain⟨h1,h2⟩:=aB.1 (show cb (decide (f.name≠"_")) (cb (Nat.beq f.offset n) (ob (F.ti f.type) fun j=>cb (Nat.beq j.sz 1) (hd2 l m fun x l y m=>eqD j.d x y (eqF F fs (Nat.succ n) l m)) none) none) none=some r from h);have h1:=of_decide_eq_true h1;obtain⟨h3,h4⟩:=aB.1 h2;have h3:=aH.1 h3;subst h3;obtain⟨j,hj,h5⟩:=aA.1 h4;obtain⟨h6,h7⟩:=aB.1 h5;have hT:=aJ hj;cases l with
  |nil=>cases m<;>cases h7
  |cons x l=>
   cases m with
   |nil=>cases h7
   |cons y m=>
    have h7:eqD j.d x y (eqF F fs (Nat.succ f.offset) l m)=some r:=h7;obtain⟨u,p1,p2,p3⟩:=hl.here;obtain⟨u2,p4,p5,p6⟩:=hm.here;have key:∀{b:Bool},j.d.ag=false→(Op.equalIn (dp+1) f.type u u2).run F.P w=.ok b w→(Op.eqFields (dp+1) xs.toArray ys.toArray (f::fs)).run F.P w=(if (!b)=true then (pure false:Sem Bool) else Op.eqFields (dp+1) xs.toArray ys.toArray fs).run F.P w:=fun {b} hag he=>by
        simp only[Op.eqFields,h1,ne_eq,not_false_eq_true,if_true,Sem.run_bind,lW (w:=w) hT hag p1,lW (w:=w) hT hag p4,Result.andThen_ok,he]
    unfold eqD at h7;split at h7
    ·rename_i kk k a hd _;have hag:j.d.ag=false:=(by rw[hd];rfl);obtain⟨b0,rfl,h8⟩:=aMe h7;have hu:u=.int _ _:=p2;have hu2:u2=.int _ _:=p5;subst hu;subst hu2;refine (key hag (run_equalIn_int w dp f.type _ _ _ _ (lT hT hd))).trans ?_;rcases h8 with⟨rfl,h9⟩|⟨hab,rfl⟩
     ·rw[if_neg (by simp)];exact aBG p3 p6 h9
     ·rw[if_pos (by simpa using hab)];rfl
    ·rename_i a hd _;have hag:j.d.ag=false:=(by rw[hd];rfl);obtain⟨b0,rfl,h8⟩:=aMf h7;obtain⟨s1,rfl,hs1⟩:=p2;obtain⟨s2,rfl,hs2⟩:=p5;have he:=run_equalIn_string (P:=F.P) w dp f.type s1 s2 (jZ hT hd);have hab0:(s1.toList == s2.toList)=decide (bytes s1=bytes s2):=by
         rw[ByteArray.toList_eq,ByteArray.toList_eq];by_cases e:s1=s2
         ·subst e;simp
         ·rw[decide_eq_false fun h=>e (bytes_inj h)];rw[beq_eq_false_iff_ne];intro h;exact e (bytes_inj (by unfold bytes;rw[h]))
     rw[hab0,hs1,hs2]at he;refine (key hag he).trans ?_;rcases h8 with⟨rfl,h9⟩|⟨hab,rfl⟩
     ·rw[if_neg (by simp)];exact aBG p3 p6 h9
     ·rw[if_pos (by simpa using hab)];rfl
    ·cases h7
theorem aMg{i:TI}{op:BinOp}{t:Nat}{l m:List SV}{s:SV}{xs ys:List Value}(hi:Ty F.P t i)(h:arq F op t i.d l m=some s)(hp:CL c l xs)(hq:CL c m ys)(w:World):∃u,(binOp op t (.agg xs.toArray) (.agg ys.toArray)).run F.P w=.ok u w∧SR c s u:=by
 unfold arq at h;split at h
 ·split at h
  ·rename_i fs hu;obtain⟨h1,h2⟩:=cbn.1 h;obtain⟨r,h3,h4⟩:=aA.1 h2;have hf:F.P.fieldsOf t=fs:=(by unfold Program.fieldsOf;rw[hu]);have he:(Op.equal t (.agg xs.toArray) (.agg ys.toArray)).run F.P w=.ok r w:=by
    show (Op.equalIn (9999+1) t (.agg xs.toArray) (.agg ys.toArray)).run F.P w=.ok r w;rw[run_equalIn_struct w 9999 t _ _ (by rw[hf];exact hu) h1,hf];exact aBG (dp:=9998) (n:=0) hp hq h3
   exact mY h4 (fun op ho=>by rcases ho with rfl|rfl<;>rfl) he
  ·cases h
 ·rename_i n el hd;obtain⟨j,hj,h2⟩:=aA.1 h;split at h2
  ·rename_i kk hk;obtain⟨h3,h4⟩:=aB.1 h2;obtain⟨h5,h6⟩:=aB.1 h4;obtain⟨h7,h8⟩:=aB.1 h6;obtain⟨r,h9,h10⟩:=aA.1 h8;have h3:=aH.1 h3;have h5:=aH.1 h5;rw[bH]at h5;have hT:=aJ hj;obtain⟨inf,-,-,k1,-,-,k2,-⟩:=hT.ex;have hc:F.P.cellsOf el=1:=(by rw[←h3,k2];simp[Program.cellsOf,k1]);have he:(Op.equal t (.agg xs.toArray) (.agg ys.toArray)).run F.P w=.ok r w:=by
    have:=aBF (n:=0) (w:=w) (dp:=9998) (xs:=xs) (ys:=ys) hT hk hc hp hq h9;rw[←List.range_eq_range',h5]at this;show (Op.equalIn (9999+1) t (.agg xs.toArray) (.agg ys.toArray)).run F.P w=.ok r w;rw[run_equalIn_array (w:=w) 9999 _ _ (mX hi hd) k1];exact this
   exact mY h10 (fun op ho=>by rcases ho with rfl|rfl<;>rfl) he
  ·cases h2
 ·cases h
theorem aGd{P:Program}{op:BinOp}{t:Nat}{x y:Operand}{xs ys:Array Value}{w:World}(h:P.eqGuardType P.depth t=false):(eqGuard op t x y (.agg xs) (.agg ys)).run P w=.ok () w:=by
 unfold eqGuard;cases op<;>simp[h]
theorem aN2{op:BinOp}{t t2:Nat}{x y:Operand}(hr:Rl c wb h)(ht:Tr c nt e a.tmps)(ho:o.op=.binOp op t x y t2)(hx:tH F e h op t x y=some (v,h')):∃u w',OpR F.P a.eval o c.w u w'∧Po c wb h' v u w':=by
 obtain⟨i,h1,h2⟩:=aA.1 hx;obtain⟨v1,h3,h4⟩:=aA.1 h2;obtain⟨v2,h5,h6⟩:=aA.1 h4;have he:execOp a.eval o=(do pure (Next.value (←(do eqGuard op t x y (a.eval x) (a.eval y);binOp op t (a.eval x) (a.eval y))))):=by unfold execOp;rw[ho]
 rw[aL]at h6;split at h6
 ·obtain⟨hg,h6⟩:=cbn.1 h6;obtain⟨l,rfl,h7⟩:=nR.1 h6;obtain⟨m,rfl,h8⟩:=nR.1 h7;obtain⟨s,h9,h10⟩:=aA.1 h8;have h10:=aN h10;injection h10 with h10 h11;subst h10;subst h11;obtain⟨xs,hp,k1⟩:=aS ht h3;obtain⟨ys,hq,k2⟩:=aS ht h5;obtain⟨u,k3,k4⟩:=aMg (aJ h1) h9 k1 k2 c.w;refine⟨u,c.w,OpR.vl he ?_,Po.same hr (aF.2 k4)⟩;rw[Sem.run_bind,hp,hq,aGd hg];exact k3
 obtain⟨s1,rfl,h7⟩:=aI.1 h6;obtain⟨s2,rfl,h8⟩:=aI.1 h7;obtain⟨s,h9,h10⟩:=aA.1 h8;have h10:=aN h10;injection h10 with h10 h11;subst h10;subst h11;have hp:=aF.1 (aS ht h3);have hq:=aF.1 (aS ht h5);obtain⟨u,k1,k2⟩:=aMc (aJ h1) h9 hp hq c.w;refine⟨u,c.w,OpR.vl he ?_,Po.same hr (aF.2 k2)⟩;rw[aEN (aMd hp fun x e=>by
  subst e;cases hd:i.d<;>rw[hd]at h9<;>cases h9)]
 exact k1
theorem aPd{op:UnOp}{t:Nat}{x:Operand}(hr:Rl c wb h)(ht:Tr c nt e a.tmps)(ho:o.op=.unOp op t x)(hx:oUn e h op x=some (v,h')):∃u w',OpR F.P a.eval o c.w u w'∧Po c wb h' v u w':=by
 obtain⟨v1,h1,h2⟩:=aA.1 hx;obtain⟨s1,rfl,h3⟩:=aI.1 h2;have hp:=aF.1 (aS ht h1);have he:execOp a.eval o=(do pure (Next.value (←Op.unary op (a.eval x)))):=by unfold execOp;rw[ho]
 split at h3
 ·rename_i k n;obtain⟨s,h4,h5⟩:=aA.1 h3;have h5:=aN h5;injection h5 with h5 h6;subst h5;subst h6;have hp:a.eval x=.int k n:=hp;refine⟨.int k (k.wrap (0-n)),c.w,OpR.vl he ?_,Po.same hr (aF.2 (by rw[nU h4];rfl))⟩;simp only[hp,Op.unary,Op.intArith,Sem.run_pure]
 ·rename_i b;have h5:=aN h3;injection h5 with h5 h6;subst h5;subst h6;have hp:a.eval x=.bool b:=hp;refine⟨.bool (!b),c.w,OpR.vl he ?_,Po.same hr (aF.2 (by rw[qJ];rfl))⟩;simp only[hp,Op.unary,Sem.run_pure]
 ·cases h3
theorem aMh{t t2:Nat}{x:Operand}(hr:Rl c wb h)(ht:Tr c nt e a.tmps)(ho:o.op=.convert t t2 x)(hx:uX F e h t t2 x=some (v,h')):∃u w',OpR F.P a.eval o c.w u w'∧Po c wb h' v u w':=by
 obtain⟨i,h1,h2⟩:=aA.1 hx;obtain⟨j,h3,h4⟩:=aA.1 h2;obtain⟨v1,h5,h6⟩:=aA.1 h4;obtain⟨s1,rfl,h7⟩:=aI.1 h6;have hp:=aF.1 (aS ht h5);have he:execOp a.eval o=(do pure (Next.value (←convert t t2 (a.eval x)))):=by unfold execOp;rw[ho]
 split at h7
 ·rename_i k0 k k1 n hd1 hd2;obtain⟨s,h8,h9⟩:=aA.1 h7;have h9:=aN h9;injection h9 with h9 h10;subst h9;subst h10;have hp:a.eval x=.int k1 n:=hp;have hs:s=.i k (k.wrap n):=by
   cases n with
   |ofNat m=>exact kC h8
   |negSucc m=>exact nU h8
  refine⟨.int k (k.wrap n),c.w,OpR.vl he ?_,Po.same hr (aF.2 (by rw[hs];rfl))⟩;simp only[convert,Sem.run_bind,run_underlying (lT (aJ h1) hd1),run_underlying (lT (aJ h3) hd2),Result.andThen_ok,hp,Conv.intToInt,Sem.run_pure]
 ·rename_i l hd1 hd2;have h9:=aN h7;injection h9 with h9 h10;subst h9;subst h10;obtain⟨st,hp1,hp2⟩:=hp;refine⟨.string st,c.w,OpR.vl he ?_,Po.same hr (aF.2 ⟨st,rfl,hp2⟩)⟩;simp only[convert,Sem.run_bind,run_underlying (jZ (aJ h1) hd1),run_underlying (jZ (aJ h3) hd2),Result.andThen_ok,hp1,Sem.run_pure]
 ·cases h7
theorem aDw:∀{l:List AV} {cs:List (Nat × Nat)} {vs:List Value},fI l=some cs→VL c l vs→(∀p∈cs,c.k p.1)∧vs=cs.map (ptr c)
 | [],cs,[],hc,_=>by injection hc with hc;subst hc;exact⟨fun p hp=>(by cases hp),rfl⟩
 |x::l,cs,v::vs,hc,hv=>by
  have e1:fI (x::l)=one x fun s=>match s with| .p id off=>ob (fI l) fun r=>some ((id,off)::r)|_=>none:=rfl
  rw[e1]at hc;obtain⟨s,rfl,h2⟩:=aI.1 hc;split at h2
  ·rename_i id off;obtain⟨r,h3,h4⟩:=aA.1 h2;injection h4 with h4;subst h4;obtain⟨k1,k2⟩:=aDw h3 hv.2;obtain⟨k3,k4⟩:=aF.1 hv.1;refine⟨fun p hp=>?_,by rw[k2,k4];rfl⟩;rcases List.mem_cons.1 hp with rfl|hp
   ·exact k3
   ·exact k1 p hp
  ·cases h2
theorem aMi{fn:Fn}{f0 c0:Array Operand}(hr:Rl c wb h)(ht:Tr c nt e a.tmps)(ho:o.op=.makeFunc fn f0 c0)(hx:mU e h fn f0.toList c0.toList=some (v,h')):∃u w',OpR F.P a.eval o c.w u w'∧Po c wb h' v u w':=by
 unfold mU at hx;split at hx
 ·rename_i f hf;obtain⟨l,h1,h2⟩:=aA.1 hx;obtain⟨cs,h3,h4⟩:=aA.1 h2;have h5:=aN h4;injection h5 with h5 h6;subst h5;subst h6;obtain⟨k1,k2⟩:=aDw h3 (nS ht h1);have hf0:f0=#[]:=by
   cases f0 with
   |mk l=>simp at hf;subst hf;rfl
  have hc0:c0.map a.eval=(cs.map (ptr c)).toArray:=by
   rw[←k2];apply Array.toList_inj.1;simp
  refine⟨.func (.func f) #[] (cs.map (ptr c)).toArray,c.w,OpR.vl (s:=Instr.makeFunc (.func f) (f0.map a.eval) (c0.map a.eval)) (by unfold execOp;rw[ho]) ?_,Po.same hr (aF.2 ⟨k1,rfl⟩)⟩;rw[hf0,hc0];simp[Instr.makeFunc]
 ·rename_i m r hf;split at hx
  ·rename_i hc0;obtain⟨v1,h1,h2⟩:=aA.1 hx;obtain⟨s,rfl,h3⟩:=aI.1 h2;split at h3
   ·rename_i y;obtain⟨h4,h5⟩:=aB.1 h3;have h5:=aN h5;injection h5 with h5 h6;subst h5;subst h6;have hy:a.eval r=y:=(aF.1 (aS ht h1)).1;have e1:f0.map a.eval=#[y]:=by
     apply Array.toList_inj.1;rw[Array.toList_map,hf,List.map_cons,hy];rfl
    have e2:c0.map a.eval=#[]:=by
     apply Array.toList_inj.1;rw[Array.toList_map,hc0];rfl
    refine⟨.func (.method m) #[y] #[],c.w,OpR.vl (s:=Instr.makeFunc (.method m) (f0.map a.eval) (c0.map a.eval)) (by unfold execOp;rw[ho]) ?_,Po.same hr (aF.2 ⟨rfl,?_⟩)⟩
    ·rw[e1,e2];obtain⟨t,rfl⟩:=vE h4;rfl
    ·obtain⟨t,rfl⟩:=vE h4;rfl
   ·cases h3
  ·cases hx
 ·cases hx
theorem qK{l:List SV}{r:List Value}(hc:CL c l r):∀n,CL c (iU l n) (List.replicate n r).flatten
 |0=>trivial
 |n+1=>by
  have e1:iU l (n+1)=app l (iU l n):=rfl;rw[e1,iY,List.replicate_succ,List.flatten_cons];exact hc.app (qK hc n)
theorem flat_get{r:List Value}(hr:0<r.length):∀(n j:Nat),j<n*r.length→(List.replicate n r).flatten[j]? =r[j % r.length]?
 |0,j,h=>by simp at h
 |n+1,j,h=>by
  rw[List.replicate_succ,List.flatten_cons];by_cases hj:j<r.length
  ·rw[List.getElem?_append_left hj,Nat.mod_eq_of_lt hj]
  ·rw[List.getElem?_append_right (by omega),flat_get hr n (j-r.length) (by rw[Nat.succ_mul]at h;omega)];congr 1;exact (Nat.mod_eq_sub_mod (by omega)).symm
theorem vI{z:Array Value}(n:Nat):(madeCells z (n*z.size)).toList=(List.replicate n z.toList).flatten:=by
 by_cases hz:z.size=0
 ·have h1:z.toList=[]:=List.eq_nil_of_length_eq_zero (by simpa using hz);have h2:(List.replicate n ([]:List Value)).flatten=[]:=(by simp);rw[h1,h2,hz,Nat.mul_zero];simp[madeCells]
 ·apply List.ext_getElem?;intro j;have hl:(List.replicate n z.toList).flatten.length=n*z.size:=(by simp);by_cases hj:j<n*z.size
  ·rw[flat_get (by simpa using by omega) n j (by simpa using hj)];have hm:j % z.size<z.size:=Nat.mod_lt _ (by omega);simp[madeCells,hj,hm]
  ·rw[List.getElem?_eq_none (by rw[Array.length_toList,size_madeCells];omega),List.getElem?_eq_none (by omega)]
theorem aMj{t:Nat}{x y:Operand}(hr:Rl c wb h)(ht:Tr c nt e a.tmps)(ho:o.op=.makeSlice t x y)(hx:vC F e h t x y=some (v,h')):∃u w',OpR F.P a.eval o c.w u w'∧Po c wb h' v u w':=by
 obtain⟨i,h1,h2⟩:=aA.1 hx;obtain⟨el,h3,h4⟩:=aA.1 h2;obtain⟨j,h5,h6⟩:=aA.1 h4;obtain⟨v1,h7,h8⟩:=aA.1 h6;obtain⟨s1,rfl,h9⟩:=aI.1 h8;obtain⟨k1,n,rfl,h10⟩:=fA h9;obtain⟨v2,h11,h12⟩:=aA.1 h10;obtain⟨s2,rfl,h13⟩:=aI.1 h12;obtain⟨k2,m,rfl,h14⟩:=fA h13;obtain⟨h15,h16⟩:=aB.1 h14;obtain⟨h17,h18⟩:=aB.1 h16;obtain⟨h19,h20⟩:=aB.1 h18;unfold H.nw at h20;rw[aM]at h20;have h21:=aN h20;injection h21 with h21 h22;subst h21;subst h22;obtain⟨inf,d,z,g1,g2,g3,g4,g5,g6,g7,g8⟩:=(aJ h5).ex;have hn:a.eval x=.int k1 (n:Int):=aF.1 (aS ht h7);have hm:a.eval y=.int k2 (m:Int):=aF.1 (aS ht h11);have h15:=bA.1 h15;have h17:=bA.1 h17;have h19:=aQ.1 h19;change m*j.by_≤_ at h17;have hz:z.cells.size=inf.size:=by rw[←g8,Array.length_toList]
 have hb:(inf.bytes:Int)*(m:Int)≤281474976710656:=by
  have e2:((inf.bytes*m:Nat):Int)=(inf.bytes:Int)*(m:Int):=Int.natCast_mul _ _;rw[←e2,Nat.mul_comm,←g5];omega
 have hrun:=run_make (P:=F.P) c.w t el inf z (nH (aJ h1) h3) g1 g6 k1 k2 (n:Int) (m:Int) (by omega) (by omega) hb (by omega);simp only[Int.toNat_natCast]at hrun;have hcl:CL c (iU j.ze m) (madeCells z.cells (m*inf.size)).toList:=by
  rw[←hz,vI];exact qK (iD g7) m
 obtain⟨dd,hw,X,R,hd,hlt⟩:=xV hr ⟨el,iU j.ze m⟩ hcl;refine⟨_,_,OpR.vl (s:=Instr.makeSlice t (a.eval x) (a.eval y)) (by unfold execOp;rw[ho]) (by rw[hn,hm];exact hrun),dd,hw,X,R,aF.2 ⟨hlt,by rw[hd]⟩⟩
theorem dD{x:Option Operand}{d:Nat}{k:Nat→Option α}{y:α}(h:bound e x d k=some y):∃n,k n=some y∧((x=none∧n=d)∨∃z kk,x=some z∧ev e z=some (sc (.i kk (Int.ofNat n)))):=by
 cases x with
 |none=>exact⟨d,h,.inl ⟨rfl,rfl⟩⟩
 |some x=>
  obtain⟨v,h1,h2⟩:=aA.1 (show (ob (ev e x) fun v=>one v fun s=>natOf s k)=some y from h);obtain⟨s,rfl,h3⟩:=aI.1 h2;obtain⟨kk,n,rfl,h4⟩:=fA h3;exact⟨n,h4,.inr ⟨x,kk,rfl,h1⟩⟩
theorem iG{l m n:Nat}{k:Option α}{y:α}(h:chk l m n k=some y):l≤m∧m≤n∧k=some y:=by
 obtain⟨h1,h2⟩:=aB.1 h;obtain⟨h3,h4⟩:=aB.1 h2;exact⟨bA.1 h1,bA.1 h3,h4⟩
def Bd(a:Act)(x:Option Operand)(d n:Nat):Prop:=(x.map a.eval=none∧n=d)∨∃kk,x.map a.eval=some (.int kk (n:Int))
theorem Bd.of(ht:Tr c nt e a.tmps){x:Option Operand}{d n:Nat}(h:(x=none∧n=d)∨∃z kk,x=some z∧ev e z=some (sc (.i kk (Int.ofNat n)))):Bd a x d n:=by
 rcases h with⟨rfl,h⟩|⟨z,kk,rfl,h⟩
 ·exact .inl ⟨rfl,h⟩
 ·exact .inr ⟨kk,by have:=aF.1 (aS ht h);rw[Option.map_some,this];rfl⟩
theorem aAO{P:Program}{lo hi:Option Operand}{len cap l m:Nat}{b:Bool}(h1:Bd a lo 0 l)(h2:Bd a hi len m)(hl:l≤m)(hm:m≤cap)(w:World):
  (Instr.sliceBounds b len cap (lo.map a.eval) (hi.map a.eval) none).run P w=.ok (l,m,cap) w:=by
 have e1:∀(k:IntKind) (code:BoundsCode) (y n:Nat),n≤y→(Instr.sliceBound (.int k (n:Int)) y code).run P w=.ok n w:=fun k code y n hn=>by
  rw[run_sliceBound w k (n:Int) y code (by omega) (by omega),Int.toNat_natCast]
 rcases h1 with⟨h1,rfl⟩|⟨k1,h1⟩<;>rcases h2 with⟨h2,rfl⟩|⟨k2,h2⟩<;>rw[h1,h2]<;>simp only[Instr.sliceBounds,Sem.run_bind,Sem.run_pure,Result.andThen_ok,Option.isSome_none,Bool.false_eq_true,if_false]
 ·rw[e1 _ _ _ _ hm];rfl
 ·rw[e1 _ _ _ _ hl];rfl
 ·rw[e1 _ _ _ _ hm];simp only[Result.andThen_ok];rw[e1 _ _ _ _ hl];rfl
theorem tY{P:Program}{t el l m n cap:Nat}{A:Option Addr}{lo hi:Option Operand}{g:TI}(hu:P.underlying t=some (.slice el))(hg:Ty P el g)(h1:Bd a lo 0 l)(h2:Bd a hi n m)(hl:l≤m)(hm:m≤cap)(w:World):
  (Instr.sliceAt t (.slice A n cap) (lo.map a.eval) (hi.map a.eval) none).run P w=.ok (.slice (if cap=l then A else A.map (·.add (l*g.sz))) (m-l) (cap-l)) w:=by
 simp only[Instr.sliceAt,Instr.slice,Sem.run_bind,run_underlying hu,Result.andThen_ok,aAO h1 h2 hl hm w,dC hg,Sem.run_pure]
theorem aMk{id off n n1 n2:Nat}{p:Value}(hp:SR c (.sl id off n none) p)(k1:n1≤n2)(k2:n2≤n)(z:Nat):∃A cp,p=.slice (some A) n cp∧n≤cp∧SR c (.sl id (off+n1*z) (n2-n1) none) (.slice (if cp=n1 then some A else (some A).map (·.add (n1*z))) (n2-n1) (cp-n1)):=by
 obtain⟨hid,cp,o,hle,rfl,hoff,t0,cs0,fr0,g1,g2⟩:=hp;refine⟨_,cp,rfl,hle,hid,cp-n1,if cp=n1 then o else o+n1*z,by omega,?_,fun hh=>?_,t0,cs0,fr0,g1,fun hh=>?_⟩
 ·split
  ·rfl
  ·show Value.slice (some ((⟨c.r id,o,none⟩:Addr).add (n1*z))) _ _=_;rw[add0]
 ·rcases hh with hh|hh
  ·rw[if_neg (by omega),hoff (.inl (by omega))]
  ·have h0:off=0:=(by omega);have h1:n1*z=0:=(by omega);rw[hoff (.inr h0),h0,h1];simp
 ·exact Nat.le_trans (Nat.mul_le_mul_right _ (Nat.sub_le _ _)) (g2 (by omega))
theorem aMl{P:Program}{lo hi mx:Option Operand}{len cap l m k d1 d2:Nat}(h1:Bd a lo 0 l)(h2:Bd a hi d1 m)(hhi:hi≠none)(h3:Bd a mx d2 k)(hmx:mx≠none)(hl:l≤m)(hm:m≤k)(hk:k≤cap)(w:World):
  (Instr.sliceBounds true len cap (lo.map a.eval) (hi.map a.eval) (mx.map a.eval)).run P w=.ok (l,m,k) w:=by
 have e1:∀(k:IntKind) (code:BoundsCode) (y n:Nat),n≤y→(Instr.sliceBound (.int k (n:Int)) y code).run P w=.ok n w:=fun k code y n hn=>by
  rw[run_sliceBound w k (n:Int) y code (by omega) (by omega),Int.toNat_natCast]
 have n2:∃kk,hi.map a.eval=some (.int kk (m:Int)):=h2.elim (fun h=>by cases hi<;>simp at h hhi) id;have n3:∃kk,mx.map a.eval=some (.int kk (k:Int)):=h3.elim (fun h=>by cases mx<;>simp at h hmx) id;obtain⟨q2,n2⟩:=n2;obtain⟨q3,n3⟩:=n3;rcases h1 with⟨h1,rfl⟩|⟨q1,h1⟩<;>rw[h1,n2,n3]<;>simp only[Instr.sliceBounds,Sem.run_bind,Sem.run_pure,Result.andThen_ok,Option.isSome_some,if_true,e1 _ _ _ _ hk,e1 _ _ _ _ hm];rw[e1 _ _ _ _ hl];rfl
theorem rG{P:Program}{t el l m k n cap d1 d2:Nat}{A:Option Addr}{lo hi mx:Option Operand}{g:TI}(hu:P.underlying t=some (.slice el))(hg:Ty P el g)(h1:Bd a lo 0 l)(h2:Bd a hi d1 m)(hhi:hi≠none)(h3:Bd a mx d2 k)(hmx:mx≠none)(hl:l≤m)(hm:m≤k)(hk:k≤cap)(w:World):
  (Instr.sliceAt t (.slice A n cap) (lo.map a.eval) (hi.map a.eval) (mx.map a.eval)).run P w=.ok (.slice (if k=l then A else A.map (·.add (l*g.sz))) (m-l) (k-l)) w:=by
 simp only[Instr.sliceAt,Instr.slice,Sem.run_bind,run_underlying hu,Result.andThen_ok,aMl h1 h2 hhi h3 hmx hl hm hk w,dC hg,Sem.run_pure]
theorem aIf{t:Nat}{x:Operand}{lo:Option Operand}{hi mx:Operand}(hr:Rl c wb h)(ht:Tr c nt e a.tmps)(ho:o.op=.slice t x lo (some hi) (some mx))(hx:lQ F e h t x lo (some hi) (some mx)=some (v,h')):∃u w',OpR F.P a.eval o c.w u w'∧Po c wb h' v u w':=by
 obtain⟨i,h1,h2⟩:=aA.1 (show (ob (F.ti t) _)=some (v,h') from hx);obtain⟨v1,h3,h4⟩:=aA.1 h2;obtain⟨s1,rfl,h5⟩:=aI.1 h4;have hp:=aF.1 (aS ht h3);have he:execOp a.eval o=(do pure (Next.value (←Instr.sliceAt t (a.eval x) (lo.map a.eval) ((some hi).map a.eval) ((some mx).map a.eval)))):=by unfold execOp;rw[ho]
 split at h5
 ·rename_i el id off n cap hd;obtain⟨z,h6,h7⟩:=aA.1 h5;obtain⟨g,hg,rfl⟩:=iM h6;obtain⟨n1,h8,b1⟩:=dD h7;obtain⟨n2,h9,b2⟩:=dD h8;obtain⟨n3,h10,b3⟩:=dD h9;have hu:=gB (aJ h1) hd;unfold slM at h10;obtain⟨k1,h11⟩:=aB.1 h10;obtain⟨k2,h12⟩:=aB.1 h11;have k1:=bA.1 k1;have k2:=bA.1 k2;cases cap with
  |none=>
   obtain⟨k3,h13⟩:=aB.1 (show cb (Nat.ble n3 n) _ none=some (v,h') from h12);have k3:=bA.1 k3;rw[aL]at h13;split at h13
   rotate_left
   ·rename_i k4;have k4:¬n1<n3:=fun h=>k4 (aQ.2 h);obtain⟨k5,h14⟩:=aB.1 h13;have k5:=aQ.1 k5;have h15:=aN h14;injection h15 with h15 h16;subst h15;subst h16;obtain⟨hid,cp,o1,hle,hp,hoff,-⟩:=hp;have ho1:=hoff (.inl (by omega));subst ho1;have hrun:=rG (P:=F.P) (n:=n) (A:=some ⟨c.r id,o1,none⟩) hu (aJ hg) (Bd.of ht b1) (Bd.of ht b2) (by simp) (Bd.of ht b3) (by simp) k1 k2 (Nat.le_trans k3 hle) c.w;have e1:n2-n1=0:=(by omega);have e2:n3-n1=0:=(by omega);rw[←hp,if_pos (by omega),e1,e2]at hrun;exact⟨_,c.w,OpR.vl he hrun,Po.same hr (aF.2 ⟨hid,rfl⟩)⟩
   rename_i k4;have h14:=h13;have k4:=aQ.1 k4;have h15:=aN h14;injection h15 with h15 h16;subst h15;subst h16;obtain⟨hid,cp,o1,hle,hp,hoff,-⟩:=hp;have ho1:=hoff (.inl (by omega));subst ho1;have hrun:=rG (P:=F.P) (n:=n) (A:=some ⟨c.r id,o1,none⟩) hu (aJ hg) (Bd.of ht b1) (Bd.of ht b2) (by simp) (Bd.of ht b3) (by simp) k1 k2 (Nat.le_trans k3 hle) c.w;rw[←hp,if_neg (by omega)]at hrun;refine⟨_,c.w,OpR.vl he hrun,Po.same hr (aF.2 ⟨hid,?_⟩)⟩;show Value.slice (some ((⟨c.r id,o1,none⟩:Addr).add (n1*g.sz))) (n2-n1) (n3-n1)=_;rw[add0];rfl
  |some cp=>
   obtain⟨k3,h13⟩:=aB.1 (show cb (Nat.ble n3 cp) _ none=some (v,h') from h12);have k3:=bA.1 k3;obtain⟨hid,hp⟩:=hp;have hrun:=rG (P:=F.P) (n:=n) (A:=some ⟨c.r id,off,none⟩) hu (aJ hg) (Bd.of ht b1) (Bd.of ht b2) (by simp) (Bd.of ht b3) (by simp) k1 k2 k3 c.w;rw[←hp]at hrun;rw[aL]at h13;split at h13
   ·rename_i k4;have k4:=aQ.1 k4;have h15:=aN h13;injection h15 with h15 h16;subst h15;subst h16;rw[if_neg (by omega)]at hrun;refine⟨_,c.w,OpR.vl he hrun,Po.same hr (aF.2 ⟨hid,?_⟩)⟩;show Value.slice (some ((⟨c.r id,off,none⟩:Addr).add (n1*g.sz))) (n2-n1) (n3-n1)=_;rw[add0];rfl
   ·rename_i k4;have k4:¬n1<n3:=fun h=>k4 (aQ.2 h);have h15:=aN h13;injection h15 with h15 h16;subst h15;subst h16;have e1:n2-n1=0:=(by omega);have e2:n3-n1=0:=(by omega);rw[if_pos (by omega),e1,e2]at hrun;exact⟨_,c.w,OpR.vl he hrun,Po.same hr (aF.2 ⟨hid,rfl⟩)⟩
 ·cases h5
theorem aKr{t:Nat}{x:Operand}{lo hi mx:Option Operand}(hr:Rl c wb h)(ht:Tr c nt e a.tmps)(ho:o.op=.slice t x lo hi mx)(hx:lQ F e h t x lo hi mx=some (v,h')):∃u w',OpR F.P a.eval o c.w u w'∧Po c wb h' v u w':=by
 cases mx with
 |some m=>
  cases hi with
  |none=>exact absurd (show (none:Option VH)=some (v,h') from hx) (fun h=>by cases h)
  |some hi=>exact aIf hr ht ho hx
 |none=>
  obtain⟨i,h1,h2⟩:=aA.1 (show (ob (F.ti t) _)=some (v,h') from hx);obtain⟨v1,h3,h4⟩:=aA.1 h2;obtain⟨s1,rfl,h5⟩:=aI.1 h4;have hp:=aF.1 (aS ht h3);have he:execOp a.eval o=(do pure (Next.value (←Instr.sliceAt t (a.eval x) (lo.map a.eval) (hi.map a.eval) none))):=(by unfold execOp;rw[ho];rfl);split at h5
  ·rename_i l hd;obtain⟨n1,h6,h7⟩:=dD h5;obtain⟨n2,h8,h9⟩:=dD h6;obtain⟨k1,k2,k3⟩:=iG h8;obtain⟨l2,h10,h11⟩:=aA.1 k3;have h12:=aN h11;injection h12 with h12 h13;subst h12;subst h13;obtain⟨st,hs1,hs2⟩:=hp;rw[gN]at h10;obtain⟨h14,rfl⟩:=jY.1 h10;have hlen:len l=st.size:=(by rw[bH,←hs2,bC]);rw[hlen]at k2 h9;have hb:=aAO (P:=F.P) (b:=false) (Bd.of ht h7) (Bd.of ht h9) k1 k2 c.w;refine⟨.string (st.extract n1 n2),c.w,OpR.vl he ?_,Po.same hr (aF.2 ⟨_,rfl,?_⟩)⟩
   ·simp only[Instr.sliceAt,Instr.slice,Sem.run_bind,run_underlying (jZ (aJ h1) hd),Result.andThen_ok,hs1,Option.isSome_none,Bool.false_eq_true,if_false,hb,Sem.run_pure]
   ·rw[←hs2];unfold bytes;rw[ByteArray.data_extract,Array.toList_extract,List.extract_eq_take_drop,List.map_take,List.map_drop];rfl
  ·rename_i el hd;obtain⟨z,hz1,hz2⟩:=aA.1 h5;obtain⟨g,hg,rfl⟩:=iM hz1;obtain⟨n1,h6,h7⟩:=dD hz2;obtain⟨n2,h8,h9⟩:=dD h6;obtain⟨k1,k2,k3⟩:=iG h8;have h12:=aN k3;injection h12 with h12 h13;subst h12;subst h13;have hu:=gB (aJ h1) hd;have hp:a.eval x=.slice none 0 0:=hp;have hb:=aAO (P:=F.P) (b:=true) (Bd.of ht h7) (Bd.of ht h9) k1 k2 c.w;have z2:n2=0:=(by omega);have z1:n1=0:=(by omega);subst z2;subst z1;refine⟨.slice none 0 0,c.w,OpR.vl he ?_,Po.same hr (aF.2 rfl)⟩;simp[Instr.sliceAt,Instr.slice,Sem.run_bind,run_underlying hu,Result.andThen_ok,hp,hb,dC (aJ hg)]
  ·rename_i el id off n cap hd;obtain⟨z,h6,h7⟩:=aA.1 h5;obtain⟨g,hg,rfl⟩:=iM h6;obtain⟨n1,h8,h9⟩:=dD h7;obtain⟨n2,h10,h11⟩:=dD h8;have hu:=gB (aJ h1) hd;cases cap with
   |none=>
    have h10:slN h id off n n1 n2 g.sz=some (v,h'):=h10;unfold slN at h10;have key:n1≤n2→n2≤n→some (sc (.sl id (off+n1*g.sz) (n2-n1) none),h)=some (v,h')→∃u w',OpR F.P a.eval o c.w u w'∧Po c wb h' v u w':=fun k1 k2 k3=>by
       injection k3 with k3;injection k3 with h14 h15;subst h14;subst h15;obtain⟨A,cp,hp1,hle,hsr⟩:=aMk hp k1 k2 g.sz;have hrun:=tY (P:=F.P) (n:=n) (A:=some A) hu (aJ hg) (Bd.of ht h9) (Bd.of ht h11) k1 (Nat.le_trans k2 hle) c.w;rw[←hp1]at hrun;exact⟨_,c.w,OpR.vl he hrun,Po.same hr (aF.2 hsr)⟩
    rw[aL]at h10;split at h10
    ·rename_i hz;have hz:=aH.1 hz;subst hz;obtain⟨k1,k2,k3⟩:=iG h10;exact key k1 k2 (by rw[Nat.zero_mul];exact k3)
    ·obtain⟨k1,k2,k3⟩:=iG h10;exact key k1 k2 k3
   |some cp=>
    obtain⟨hid,hp⟩:=hp;have h10:cb (Nat.blt n1 cp) (chk n1 n2 cp (vh (.sl id (Nat.add off (Nat.mul n1 g.sz)) (Nat.sub n2 n1) (some (Nat.sub cp n1))) h)) (cb (Nat.beq n1 0) (chk n1 n2 cp (vh (.sl id off (Nat.sub n2 n1) (some cp)) h)) none)=some (v,h'):=h10;rw[aL]at h10;split at h10
    ·rename_i hlt;have hlt:=aQ.1 hlt;obtain⟨k1,k2,k3⟩:=iG h10;have h14:=aN k3;injection h14 with h14 h15;subst h14;subst h15;have hrun:=tY (P:=F.P) (A:=some ⟨c.r id,off,none⟩) (cap:=cp) hu (aJ hg) (Bd.of ht h9) (Bd.of ht h11) k1 k2 c.w;rw[←hp,if_neg (by omega)]at hrun;refine⟨_,c.w,OpR.vl he hrun,Po.same hr (aF.2 ⟨hid,?_⟩)⟩;show Value.slice (some ((⟨c.r id,off,none⟩:Addr).add (n1*g.sz))) (n2-n1) (cp-n1)=_;rw[add0];rfl
    ·obtain⟨hz,h11'⟩:=aB.1 h10;have hz:=aH.1 hz;subst hz;obtain⟨k1,k2,k3⟩:=iG h11';have h14:=aN k3;injection h14 with h14 h15;subst h14;subst h15;have hrun:=tY (P:=F.P) (A:=some ⟨c.r id,off,none⟩) (cap:=cp) hu (aJ hg) (Bd.of ht h9) (Bd.of ht h11) k1 k2 c.w;rw[←hp]at hrun;refine⟨_,c.w,OpR.vl he hrun,Po.same hr (aF.2 ⟨hid,?_⟩)⟩;show Value.slice _ (n2-0) (cp-0)=Value.slice _ (n2-0) cp;congr 1;split
     ·rfl
     ·show some ((⟨c.r id,off,none⟩:Addr).add (0*g.sz))=_;rw[add0];simp
  ·rename_i n el id off hd;obtain⟨z,h6,h7⟩:=aA.1 h5;obtain⟨g,hg,rfl⟩:=iM h6;obtain⟨n1,h8,h9⟩:=dD h7;obtain⟨n2,h10,h11⟩:=dD h8;have hu:=mX (aJ h1) hd;obtain⟨hid,hp⟩:=hp;have run:n1≤n2→n2≤n→(Instr.sliceAt t (a.eval x) (lo.map a.eval) (hi.map a.eval) none).run F.P c.w=.ok (.slice (some (if n=n1 then (⟨c.r id,off,none⟩:Addr) else (⟨c.r id,off,none⟩:Addr).add (n1*g.sz))) (n2-n1) (n-n1)) c.w:=fun k1 k2=>by
     have hb:=aAO (P:=F.P) (b:=false) (Bd.of ht h9) (Bd.of ht h11) k1 k2 c.w;simp only[Instr.sliceAt,Instr.sureAddr,Sem.run_bind,run_underlying hu,Result.andThen_ok,hp,hb,dC (aJ hg),Sem.run_pure]
   have h10:cb (Nat.blt n1 n) (chk n1 n2 n (vh (.sl id (Nat.add off (Nat.mul n1 g.sz)) (Nat.sub n2 n1) (some (Nat.sub n n1))) h)) (cb (Nat.beq n1 0) (chk n1 n2 n (vh (.sl id off (Nat.sub n2 n1) (some n)) h)) none)=some (v,h'):=h10;rw[aL]at h10;split at h10
   ·rename_i hlt;have hlt:=aQ.1 hlt;obtain⟨k1,k2,k3⟩:=iG h10;have h14:=aN k3;injection h14 with h14 h15;subst h14;subst h15;have hrun:=run k1 k2;rw[if_neg (by omega)]at hrun;refine⟨_,c.w,OpR.vl he hrun,Po.same hr (aF.2 ⟨hid,?_⟩)⟩;show Value.slice (some ((⟨c.r id,off,none⟩:Addr).add (n1*g.sz))) (n2-n1) (n-n1)=_;rw[add0];rfl
   ·obtain⟨hz,h11'⟩:=aB.1 h10;have hz:=aH.1 hz;subst hz;obtain⟨k1,k2,k3⟩:=iG h11';have h14:=aN k3;injection h14 with h14 h15;subst h14;subst h15;have hrun:=run k1 k2;refine⟨_,c.w,OpR.vl he hrun,Po.same hr (aF.2 ⟨hid,?_⟩)⟩;show Value.slice _ (n2-0) (n-0)=Value.slice _ (n2-0) n;congr 1;split
    ·rfl
    ·show some ((⟨c.r id,off,none⟩:Addr).add (0*g.sz))=_;rw[add0];simp
  ·cases h5
end
end E
end Go.Proofs.YtamnpcdkcdfgaaaGreatDoor
