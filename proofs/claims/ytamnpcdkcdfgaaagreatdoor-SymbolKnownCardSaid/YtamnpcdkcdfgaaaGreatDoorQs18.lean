/- SymbolKnown holds. No condition. -/
import Derived.Test.YtamnpcdkcdfgaaaGreatDoorQs17
set_option maxHeartbeats 4000000
set_option maxRecDepth 100000
namespace Go.Proofs.YtamnpcdkcdfgaaaGreatDoor
section
open Go.RowKit
open Ma Me
theorem aK5(p q:Rat):sz (mJ p q)≤sz p+sz q:=by rcases aJ0 p q with h|h<;>rw[h]<;>omega
end
namespace K
open Go.RowKit
open Ma Me
section
variable {a b c d e f:Prop}
theorem ha1(h1:Hid a)(h:a→d):d:=h h1.out
theorem ha2(h1:Hid a)(h2:Hid b)(h:a→b→d):d:=h h1.out h2.out
end
section
variable {p q r s:Rat} {a b c d k e:Nat}
theorem aM8{n:Nat}(h:Nat.ble n 1099511627776=true):n≤LIM:=Nat.le_of_ble_eq_true h
theorem bb2(h1:Hid (sz p≤a))(h2:Hid (sz q≤b))(h:Nat.ble (k*(a+b)+e) 1099511627776=true:=by rfl):k*(sz p+sz q)+e≤LIM:=
 Nat.le_trans (Nat.add_le_add_right (Nat.mul_le_mul_left _ (Nat.add_le_add h1.out h2.out)) _) (aM8 h)
end
end K
section
open Go.RowKit
open Ma Me
theorem aM9(p:Rat):sz (nN p)=sz p:=by
 unfold nN;split
 ·exact xI p
 ·rfl
def wZ(p q:Rat):Int × Rat:=if q=0 then (8,0) else (0,p*q⁻¹)
theorem aNa(p:Rat)(n:Nat):(p^n).num=sg (decide (p.num<0) && decide (n % 2=1)) (p.num.natAbs^n):=by
 rw[Rat.num_pow];have h:=qV p;generalize p.num.natAbs=N at*
 generalize decide (p.num<0)=s at*
 cases s
 ·rw[←h];simp[sg]
 ·rw[←h];simp only[sg,Bool.true_and];rw[if_pos trivial]
  induction n with
  |zero=>simp
  |succ n ih=>
   rw[Int.pow_succ,ih,Nat.pow_succ,Int.natCast_mul];rcases Nat.mod_two_eq_zero_or_one n with h2|h2
   ·have h3:(n+1) % 2=1:=(by omega);rw[if_neg (by rw[h2];decide),if_pos (decide_eq_true h3),Int.mul_neg]
   ·have h3:¬(n+1) % 2=1:=(by omega);rw[if_pos (by rw[h2];decide),if_neg (by rw[decide_eq_false h3];decide),Int.neg_mul_neg]
def oF(p:Rat)(z:Int):Int × Rat:=if z< -64∨64<z then (7,0) else if z<0 then (if p=0 then (8,0) else (0,p⁻¹^(-z).toNat)) else (0,p^z.toNat)
theorem aCu{p q:Rat}:(sn p<sn q→rc p q=-1)∧(sn q<sn p→rc p q=1):=by
 constructor
 ·intro h;refine aJj ?_;rcases fU p with⟨h1,e1⟩|⟨h1,e1⟩|⟨h1,e1⟩<;>rcases fU q with⟨h2,e2⟩|⟨h2,e2⟩|⟨h2,e2⟩<;>rw[e1,e2]at h<;>first|omega|grind
 ·intro h;refine aJk ?_;rcases fU p with⟨h1,e1⟩|⟨h1,e1⟩|⟨h1,e1⟩<;>rcases fU q with⟨h2,e2⟩|⟨h2,e2⟩|⟨h2,e2⟩<;>rw[e1,e2]at h<;>first|omega|grind
theorem aNb(a b:Nat):-1≤cmp a b∧cmp a b≤1:=by
 unfold cmp;split
 ·omega
 ·split<;>omega
theorem aOz(p:Rat):-1≤sn p∧sn p≤1:=by
 rcases fU p with⟨-,e⟩|⟨-,e⟩|⟨-,e⟩<;>rw[e]<;>decide
theorem aNc{q:Rat}:sn q=0↔q=0:=by
 rcases fU q with⟨h,e⟩|⟨h,e⟩|⟨h,e⟩<;>rw[e]<;>constructor<;>intro h1<;>first|omega|grind
theorem aNd{p q:Rat}(hs:sn p=sn q)(hd:¬(p.den=1∧q.den=1)):0<p.num.natAbs∧0<q.num.natAbs:=by
 have h:p=0↔q=0:=by rw[←aNc,←aNc,hs]
 have key:p≠0∧q≠0:=by
  constructor
  ·intro e;exact hd ⟨by rw[e];rfl,by rw[h.1 e];rfl⟩
  ·intro e;exact hd ⟨by rw[h.2 e];rfl,by rw[e];rfl⟩
 exact⟨rV key.1,rV key.2⟩
theorem aK6(p:Rat)(away:Bool):qZ p away=sg (decide (p.num<0)) (mQ p away):=by
 rw[decide_eq_decide.2 (fV p)];unfold qZ sg;by_cases h:p<0
 ·rw[if_pos h,if_pos (decide_eq_true h)]
 ·rw[if_neg h,if_neg (by rw[decide_eq_false h];decide)]
theorem aDV{p:Rat}{away:Bool}(h:away=false∨p.num.natAbs % p.den=0):mQ p away=p.num.natAbs/p.den:=by
 unfold mQ;have hc:¬(away=true∧¬p.num.natAbs % p.den=0):=by
  rintro⟨h1,h2⟩;rcases h with h|h
  ·rw[h]at h1;cases h1
  ·exact h2 h
 rw[if_neg hc,Nat.add_zero]
theorem aIQ{p:Rat}(h:¬p.num.natAbs % p.den=0):mQ p true=p.num.natAbs/p.den+1:=by
 unfold mQ;rw[if_pos ⟨rfl,h⟩]
namespace E
open Go K
section
variable {z:Bool} {p q:Rat}
theorem dg0{n:Nat}(h:((dg W64 n:Nat):Int)=0):n=0:=bO aD (by omega)
theorem dg1{n:Nat}(h:¬((dg W64 n:Nat):Int)=0):n≠0:=fun e=>h (by rw[e,aZ];rfl)
theorem n0{p:Rat}(h:((dg W64 p.num.natAbs:Nat):Int)=0):p=0:=Rat.num_eq_zero.1 (by have:=dg0 h;omega)
theorem nz0{p:Rat}(h:¬((dg W64 p.num.natAbs:Nat):Int)=0):p≠0:=fun e=>h (by rw[e];show ((dg W64 0:Nat):Int)=0;rw[aZ];rfl)
theorem aNe{dd:Dk}{a c:Int}(h1:-1≤a∧a≤1)(h2:-1≤c∧c≤1):bop dd .mul (.i .i64 a) (.i .i64 c)=some (.i .i64 (a*c)):=by
 rcases (by omega:a=-1∨a=0∨a=1) with rfl|rfl|rfl<;>rcases (by omega:c=-1∨c=0∨c=1) with rfl|rfl|rfl<;>rfl
theorem aNf{dd:Dk}{n:Nat}:bop dd .rem (.i .i64 (n:Int)) (.i .i64 2)=some (.i .i64 ((n % 2:Nat):Int)):=by
 show cb (decide (IntKind.i64=IntKind.i64)) (aHZ .i64 n 2) none=_;rw[show decide (IntKind.i64=IntKind.i64)=true from rfl];show cb (decide ((2:Int)=0)) none (aBp (Int.tmod n 2) fun n=>some (SV.i .i64 n))=_;rw[qH];rfl
theorem aOA{a c:Bool}:bop .bool .neq (.b a) (.b c)=some (.b (a != c)):=by cases a<;>cases c<;>rfl
theorem aK7{q:Rat}(h0:q≠0):q⁻¹.num=sg (decide (q.num<0)) q.den:=by
 have:=rV h0;rw[Rat.num_inv];by_cases h:q.num<0
 ·rw[decide_eq_true h,Int.sign_eq_neg_one_of_neg h];simp[sg]
 ·rw[decide_eq_false h,Int.sign_eq_one_of_pos (by omega)];simp[sg]
theorem aK8{q:Rat}(h0:q≠0):q⁻¹.den=q.num.natAbs:=by rw[Rat.den_inv,if_neg fun h=>h0 (Rat.num_eq_zero.1 h)]
set_option maxRecDepth 2000 in
theorem wG{s t:Bool}{a b:Nat}(hB:cB a b):Fc (FN z) 242 [sc (.b s),nn a,sc (.b t),nn b] (.t [(false,[.b (rT s a t b).1]),(false,[.m (rT s a t b).2])]):=by
 have A:∀x,rT s a t b=x→AV.t [(false,[.b x.1]),(false,[.m x.2])]=.t [(false,[.b (rT s a t b).1]),(false,[.m (rT s a t b).2])]:=fun x h=>by rw[h]
 have hm:(cmp a b<0↔a<b):=by unfold cmp;split<;>(try split)<;>omega
 exact .by_ gI Tryz.func242 rfl (by kernel_rfl) (by kernel_rfl) rfl ⟨_,rfl,fun h=>⟨_,aGZ hB,A (s,a+b) (if_pos (eq_of_beq h))⟩,fun h=>⟨_,uL hB,dt (fun h1=>⟨_,aDU ⟨aOy hB,by omega⟩,A (t,b-a) ((if_neg (ne_of_beq_false h)).trans (if_pos (hm.1 h1)))⟩) fun h1=>⟨_,aDU ⟨hB,by omega⟩,A (s,a-b) ((if_neg (ne_of_beq_false h)).trans (if_neg fun h=>h1 (hm.2 h)))⟩⟩⟩
set_option maxRecDepth 2000 in
theorem aJG(hB:16*(Ma.sz p+Ma.sz q)+100≤LIM):Fc (FN true) 74 [nm p,nm q] (nm (p*q)):=by
 have e1:=fZ p;have e2:=fZ q;have c1:cB p.num.natAbs q.num.natAbs:=by unfold cB;omega
 have c2:cB p.num.natAbs q.den:=by unfold cB;omega
 have c3:cB q.num.natAbs p.den:=by unfold cB;omega
 have c4:cB p.den q.den:=by unfold cB;omega
 refine .by_ gI Tryz.func74 rfl (by kernel_rfl) (by kernel_rfl) rfl ⟨_,aOA,_,nK,dt (fun h1=>⟨_,nK,dt (fun h2=>⟨_,gV c1,_,kJ (q:=p*q) (aAr h1 h2).1 (aAr h1 h2).2,rfl⟩) fun _=>?_⟩) fun _=>?_⟩;all_goals
  exact dt (fun h=>congrArg nm (show (0:Rat)=p*q by rw[n0 h,Rat.zero_mul])) fun h1=>dt (fun h=>congrArg nm (show (0:Rat)=p*q by rw[n0 h,Rat.mul_zero])) fun h2=>⟨_,oZ rfl q.den_pos c2 (by have:=dg1 h1;omega),_,oZ rfl p.den_pos c3 (by have:=dg1 h2;omega),_,gV (oV c1 (Nat.div_le_self _ _) (Nat.div_le_self _ _)),_,gV (oV c4 (Nat.div_le_self _ _) (Nat.div_le_self _ _)),_,gJ (q:=p*q) (uK p q).1 (fun _=>(uK p q).2),rfl⟩
set_option maxRecDepth 2000 in
theorem aJH(hB:64*(Ma.sz p+Ma.sz q)+400≤LIM):Fc (FN true) 162 [nm p,nm q] (nm (p+q)):=by
 have e1:=fZ p;have e2:=fZ q;have c1:cB p.num.natAbs q.num.natAbs:=by unfold cB;omega
 have c2:cB p.num.natAbs q.den:=by unfold cB;omega
 have c3:cB q.num.natAbs p.den:=by unfold cB;omega
 have c4:cB p.den q.den:=by unfold cB;omega
 obtain⟨K,hK⟩:∃K,rT (decide (p.num<0)) (p.num.natAbs*(q.den/Nat.gcd p.den q.den)) (decide (q.num<0)) (q.num.natAbs*(p.den/Nat.gcd p.den q.den))=K:=⟨_,rfl⟩
 have hs:sg K.1 K.2=p.num*((q.den/Nat.gcd p.den q.den:Nat):Int)+q.num*((p.den/Nat.gcd p.den q.den:Nat):Int):=by rw[←hK,aDS,aCt rfl,aCt rfl]
 have hds:=aM7 hs;have d0:0<Nat.gcd p.den q.den:=Nat.gcd_pos_of_pos_left _ p.den_pos;have q1:=jW aD (Nat.div_le_self q.den (Nat.gcd p.den q.den));have q2:=jW aD (Nat.div_le_self p.den (Nat.gcd p.den q.den));have q3:=jW aD (Nat.gcd_le_left q.den p.den_pos);have m1:=gK aD p.num.natAbs (q.den/Nat.gcd p.den q.den);have m2:=gK aD q.num.natAbs (p.den/Nat.gcd p.den q.den);have hS:=wG (z:=true) (s:=decide (p.num<0)) (a:=p.num.natAbs*(q.den/Nat.gcd p.den q.den)) (t:=decide (q.num<0)) (b:=q.num.natAbs*(p.den/Nat.gcd p.den q.den)) (by unfold cB;omega);rw[hK]at hS;have g0:0<Nat.gcd K.2 (Nat.gcd p.den q.den):=Nat.gcd_pos_of_pos_right _ d0;have g1:=jW aD (Nat.gcd_le_right (n:=Nat.gcd p.den q.den) K.2 d0);have q4:=jW aD (Nat.div_le_self q.den (Nat.gcd K.2 (Nat.gcd p.den q.den)));refine .by_ gI Tryz.func162 rfl (by kernel_rfl) (by kernel_rfl) rfl ⟨_,nK,dt (fun h1=>⟨_,nK,dt (fun h2=>⟨_,wG c1,_,kJ (q:=p+q) ((aAs h1 h2).1.trans (by rw[aDS,qV,qV])) (aAs h1 h2).2,rfl⟩) fun _=>?_⟩) fun _=>?_⟩;all_goals
  exact⟨by kernel_rfl,_,dQ,_,dQ,_,aAu ⟨rfl,c4,p.den_pos,q.den_pos⟩,by kernel_rfl,_,dQ,_,oW ⟨rfl,by unfold cB;omega,d0⟩,_,dQ,_,oW ⟨rfl,by unfold cB;omega,d0⟩,by kernel_rfl,_,gV (oV c2 (Nat.le_refl _) (Nat.div_le_self _ _)),_,gV (oV c3 (Nat.le_refl _) (Nat.div_le_self _ _)),_,hS,dt (fun h=>⟨_,dQ,_,gV (oV c4 (Nat.le_refl _) (Nat.div_le_self _ _)),_,gJ (q:=p+q) (nD K.2 K.1 hs (.inl (dg0 h))).1 (nD K.2 K.1 hs (.inl (dg0 h))).2,rfl⟩) fun h1=>⟨_,aK4,dt (fun h=>⟨_,dQ,_,gV (oV c4 (Nat.le_refl _) (Nat.div_le_self _ _)),_,gJ (q:=p+q) (nD K.2 K.1 hs (.inr h)).1 (nD K.2 K.1 hs (.inr h)).2,rfl⟩) fun _=>⟨_,aAu ⟨rfl,by unfold cB;omega,by have:=dg1 h1;omega,d0⟩,by kernel_rfl,_,oW ⟨rfl,by unfold cB;omega,g0⟩,_,dQ,_,oW ⟨rfl,by unfold cB;omega,g0⟩,_,gV (oV c4 (Nat.div_le_self _ _) (Nat.div_le_self _ _)),_,gJ (q:=p+q) (yT K.2 K.1 hs).1 (fun _=>(yT K.2 K.1 hs).2),rfl⟩⟩⟩
set_option maxRecDepth 2000 in
theorem aCv:Fc (FN z) 127 [nm p] (sc (.i .i64 (sn p))):=
 .by_ gI Tryz.func127 rfl (by kernel_rfl) (by kernel_rfl) rfl (dt (fun h=>congrArg (fun n=>sc (.i .i64 n)) (show (-1:Int)=sn p by rw[aFT,Int.sign_eq_neg_one_of_neg h])) fun h=>dt (fun h0=>congrArg (fun n=>sc (.i .i64 n)) (show (0:Int)=sn p by rw[n0 h0];rfl)) fun h0=>congrArg (fun n=>sc (.i .i64 n)) (show (1:Int)=sn p by have:=dg1 h0;rw[aFT,Int.sign_eq_one_of_pos (by omega)]))
set_option maxRecDepth 2000 in
theorem zT(hB:64*(Ma.sz p+Ma.sz q)+400≤LIM)(hs:sn p=sn q):Fc (FN z) 157 [nm p,nm q] (sc (.i .i64 (cmp (p.num.natAbs*q.den) (q.num.natAbs*p.den)))):=by
 have e1:=fZ p;have e2:=fZ q;have c1:cB p.num.natAbs q.num.natAbs:=by unfold cB;omega
 have c2:cB p.num.natAbs q.den:=by unfold cB;omega
 have c3:cB q.num.natAbs p.den:=by unfold cB;omega
 have c4:cB p.den q.den:=by unfold cB;omega
 have m1:=gK aD p.num.natAbs q.den;have m2:=gK aD q.num.natAbs p.den;have L:=aC;have k1:=aAG p.num.natAbs;have k2:=aAG q.den;have k3:=aAG q.num.natAbs;have k4:=aAG p.den;have key:¬(p.den=1∧q.den=1)→0<p.num.natAbs∧0<q.num.natAbs:=aNd hs;refine .by_ gI Tryz.func157 rfl (by kernel_rfl) (by kernel_rfl) rfl ⟨_,nK,dt (fun h1=>⟨_,nK,dt (fun h2=>⟨_,uL c1,congrArg (fun n=>sc (.i .i64 n)) (show cmp p.num.natAbs q.num.natAbs=_ by rw[h1,h2,Nat.mul_one,Nat.mul_one])⟩) fun h=>?_⟩) fun h=>?_⟩;all_goals
  have h0:=key (by omega);have hC:=aCU h0.1 q.den_pos h0.2 p.den_pos;exact⟨by kernel_rfl,_,lJ (by omega),_,dQ,_,lJ (by omega),⟨by omega,by omega⟩,_,lJ (by omega),⟨by omega,by omega⟩,_,dQ,_,lJ (by omega),⟨by omega,by omega⟩,dt (fun h=>congrArg (fun n=>sc (.i .i64 n)) (hC.1 (by omega)).symm) fun _=>dt (fun h=>congrArg (fun n=>sc (.i .i64 n)) (hC.2 (by omega)).symm) fun _=>⟨by kernel_rfl,_,dQ,_,gV c2,_,dQ,_,gV c3,_,uL (by unfold cB;omega),rfl⟩⟩
set_option maxRecDepth 2000 in
theorem rW(hB:Ma.sz p≤LIM):Fc (FN z) 166 [nm p] (nm p):=by
 have e1:=fZ p;have e2:=aFc p;exact .by_ gI Tryz.func166 rfl (by kernel_rfl) (by kernel_rfl) rfl ⟨by kernel_rfl,_,aDT (by omega),_,aDT (by omega),rfl⟩
set_option maxRecDepth 2000 in
theorem aAv(h:q≠0):Fc (FN z) 133 [nm q] (nm q⁻¹):=
 .by_ gI Tryz.func133 rfl (by kernel_rfl) (by kernel_rfl) rfl ⟨by kernel_rfl,_,dQ,_,gJ (aK7 h) (fun _=>aK8 h),rfl⟩
set_option maxRecDepth 2000 in
theorem aFd(hB:64*(Ma.sz p+Ma.sz q)+400≤LIM):Fc (FN z) 84 [nm p,nm q] (sc (.i .i64 (rc p q))):=
 .by_ gI Tryz.func84 rfl (by kernel_rfl) (by kernel_rfl) rfl ⟨_,aCv,_,aCv,dt (fun h=>congrArg (fun n=>sc (.i .i64 n)) (aCu.1 h).symm) fun h1=>dt (fun h=>congrArg (fun n=>sc (.i .i64 n)) (aCu.2 h).symm) fun h2=>have h3:sn p=sn q:=by omega
  ⟨_,zT hB h3,_,aNe (aOz _) (aNb _ _),congrArg (fun n=>sc (.i .i64 n)) (aHQ h3).symm⟩⟩
set_option maxRecDepth 2000 in
theorem aIR(hB:64*(Ma.sz p+Ma.sz q)+400≤LIM):Fc (FN z) 354 [nm p,nm q] (nm (aBi p q)):=
 .by_ gI Tryz.func354 rfl (by kernel_rfl) (by kernel_rfl) rfl ⟨_,aFd hB,dt (fun h=>congrArg nm (show p=aBi p q from (if_pos ((aJl p q).1 h)).symm)) fun h=>congrArg nm (show q=aBi p q from (if_neg fun x=>h ((aJl p q).2 x)).symm)⟩
set_option maxRecDepth 2000 in
theorem aAw(hB:64*(Ma.sz p+Ma.sz q)+400≤LIM):Fc (FN z) 255 [nm p,nm q] (nm (mJ p q)):=
 .by_ gI Tryz.func255 rfl (by kernel_rfl) (by kernel_rfl) rfl ⟨_,aFd hB,dt (fun h=>congrArg nm (show p=mJ p q from (if_pos ((aJm p q).1 h)).symm)) fun h=>congrArg nm (show q=mJ p q from (if_neg fun x=>h ((aJm p q).2 x)).symm)⟩
set_option maxRecDepth 2000 in
theorem aOB(hB:64*(Ma.sz p+Ma.sz q)+400≤LIM):Fc (FN z) 207 [nm p,nm q] (nm (mJ p q)):=
 .by_ gI Tryz.func207 rfl (by kernel_rfl) (by kernel_rfl) rfl ⟨_,aAw hB,_,rW (by have:=aK5 p q;omega),rfl⟩
set_option maxRecDepth 2000 in
theorem aOC(hB:Ma.sz p≤LIM):Fc (FN z) 97 [nm p] (nm (-p)):=
 .by_ gI Tryz.func97 rfl (by kernel_rfl) (by kernel_rfl) rfl ⟨_,yU,_,rW (by rw[xI];exact hB),rfl⟩
set_option maxRecDepth 2000 in
theorem aOD(hB:Ma.sz p≤LIM):Fc (FN z) 245 [nm p] (nm (nN p)):=
 .by_ gI Tryz.func245 rfl (by kernel_rfl) (by kernel_rfl) rfl ⟨_,aG0,_,rW (by rw[aM9];exact hB),rfl⟩
set_option maxRecDepth 2000 in
theorem aOE(hB:64*(Ma.sz p+Ma.sz q)+400≤LIM):Fc (FN true) 160 [nm p,nm q] (nm (p-q)):=
 .by_ gI Tryz.func160 rfl (by kernel_rfl) (by kernel_rfl) rfl ⟨by kernel_rfl,_,yU,_,aJH (q:=-q) (by rw[xI];exact hB),congrArg nm (Rat.sub_eq_add_neg p q).symm⟩
set_option maxRecDepth 2000 in
theorem aOF(hB:16*(Ma.sz p+Ma.sz q)+200≤LIM):Fc (FN true) 57 [nm p,nm q] (.t [(true,bS (wZ p q).2),(false,[.i .i64 (wZ p q).1])]):=
 .by_ gI Tryz.func57 rfl (by kernel_rfl) (by kernel_rfl) rfl (dt (fun h=>congrArg (fun r:Int × Rat=>AV.t [(true,bS r.2),(false,[.i .i64 r.1])]) (show (8,0)=wZ p q from (if_pos (n0 h)).symm)) fun h=>have h1:=nz0 h
  ⟨by kernel_rfl,_,aAv h1,_,aJG (q:=q⁻¹) (by have:=aFW q;omega),congrArg (fun r:Int × Rat=>AV.t [(true,bS r.2),(false,[.i .i64 r.1])]) (show (0,p*q⁻¹)=wZ p q from (if_neg h1).symm)⟩)
set_option maxRecDepth 2000 in
theorem zU{n:Nat}(hn:n≤64)(hB:64*Ma.sz p+400≤LIM):Fc (FN z) 237 [nm p,sc (.i .i64 (n:Int))] (nm (p^n)):=by
 have e1:=fZ p;have hP:=aNa p n;exact .by_ gI Tryz.func237 rfl (by kernel_rfl) (by kernel_rfl) rfl ⟨by kernel_rfl,dt (fun h=>⟨_,aNf,⟨_,rU hn (by omega),_,dQ,_,rU hn (by omega),_,gJ (q:=p^n) (by rw[hP,decide_eq_true h,Bool.true_and];congr 1;exact decide_eq_decide.2 (by omega)) (fun _=>Rat.den_pow p n),rfl⟩⟩) fun h=>⟨_,rU hn (by omega),_,dQ,_,rU hn (by omega),_,gJ (q:=p^n) (by rw[hP,decide_eq_false h];rfl) (fun _=>Rat.den_pow p n),rfl⟩⟩
set_option maxRecDepth 2000 in
theorem aOG{n:Int}(hB:64*Ma.sz p+600≤LIM):Fc (FN z) 156 [nm p,sc (.i .i64 n)] (.t [(true,bS (oF p n).2),(false,[.i .i64 (oF p n).1])]):=by
 have s7:n< -64∨64<n→(7,0)=oF p n:=fun h=>(if_pos h).symm;refine .by_ gI Tryz.func156 rfl (by kernel_rfl) (by kernel_rfl) rfl (dt (fun h=>congrArg (fun r:Int × Rat=>AV.t [(true,bS r.2),(false,[.i .i64 r.1])]) (s7 (.inl h))) fun h1=>dt (fun h=>congrArg (fun r:Int × Rat=>AV.t [(true,bS r.2),(false,[.i .i64 r.1])]) (s7 (.inr h))) fun h2=>?_);have hn:oF p n=if n<0 then (if p=0 then (8,0) else (0,p⁻¹^(-n).toNat)) else (0,p^n.toNat):=if_neg (by omega);refine dt (fun h3=>dt (fun h=>congrArg (fun r:Int × Rat=>AV.t [(true,bS r.2),(false,[.i .i64 r.1])]) (show (8,0)=oF p n by rw[hn,if_pos h3,if_pos (n0 h)])) fun h=>?_) fun h3=>?_
 ·have h4:=nz0 h;obtain⟨m,hm⟩:∃m:Nat,-n=m:=⟨(-n).toNat,by omega⟩
  have hq:Fc (FN z) 237 [nm p⁻¹,sc (.i .i64 (-n))] (nm (p⁻¹^m)):=(by rw[hm];exact zU (by omega) (by have:=aFW p;omega));exact⟨_,aAv h4,⟨by omega,by omega⟩,_,hq,congrArg (fun r:Int × Rat=>AV.t [(true,bS r.2),(false,[.i .i64 r.1])]) (show (0,p⁻¹^m)=oF p n by rw[hn,if_pos h3,if_neg h4,hm];rfl)⟩
 ·obtain⟨m,rfl⟩:∃m:Nat,n=m:=⟨n.toNat,by omega⟩
  exact⟨_,zU (n:=m) (by omega) (by omega),congrArg (fun r:Int × Rat=>AV.t [(true,bS r.2),(false,[.i .i64 r.1])]) (show (0,p^m)=oF p m by rw[hn,if_neg h3];rfl)⟩
set_option maxRecDepth 2000 in
theorem aG1{w:Bool}(hB:16*Ma.sz p+200≤LIM):Fc (FN z) 386 [nm p,sc (.b w)] (nm ((qZ p w:Int):Rat)):=by
 have e1:=fZ p;have e2:=jW aD (Nat.div_le_self p.num.natAbs p.den);have L:=aC;have e3:=iA aD;have A:∀K,mQ p w=K→((qZ p w:Int):Rat).num=sg (decide (p.num<0)) K:=fun K h=>by rw[Rat.num_intCast,aK6,h]
 refine .by_ gI Tryz.func386 rfl (by kernel_rfl) (by kernel_rfl) rfl ⟨by kernel_rfl,_,dQ,_,aIP ⟨by unfold cB;omega,p.den_pos⟩,fun h=>?_,fun h=>⟨_,kJ (A _ (aDV (.inl h))) (Rat.den_intCast _),rfl⟩⟩;subst h;exact dt (fun h=>⟨_,aM6 (n:=1) (by omega),_,aGZ (by unfold cB;omega),_,kJ (A _ (aIQ fun e=>by rw[e,aZ]at h;cases h)) (Rat.den_intCast _),rfl⟩) fun h=>⟨_,kJ (A _ (aDV (.inr (Classical.byContradiction fun e=>h (by have:=lK aD (Nat.pos_of_ne_zero e);omega))))) (Rat.den_intCast _),rfl⟩
set_option maxRecDepth 2000 in
theorem aK9(hB:16*Ma.sz p+200≤LIM):Fc (FN z) 315 [nm p] (nm ((p.floor:Int):Rat)):=
 .by_ gI Tryz.func315 rfl (by kernel_rfl) (by kernel_rfl) rfl ⟨_,aG1 hB,congrArg (fun n:Int=>nm (n:Rat)) (show qZ p (decide (p.num<0))=p.floor by rw[decide_eq_decide.2 (fV p),aEq])⟩
end
end E
end
section
open Go Go.RowKit
open Ma Me K E
namespace E
theorem aNg{z:Bool}:(FN z).P.follows .mixedOrders=true:=by kernel_rfl
theorem toX{F:Cf}(hF:FOk F)(hm:F.P.follows .mixedOrders=true){fn:Nat}{args:List AV}{vs:List Value}{v:AV}{w:World}(hx:Fc F fn args v)(hT:F.tb w)(hv:∀d:Cx,d.w=w→VL d args vs):Calls F.P fn vs.toArray w fun e w'=>∃u d,e=.returned u∧Me.Q w w'∧Cx.w d=w'∧VR d v u:=by
 obtain⟨_,h',⟨m0,k0⟩,rfl,-⟩:=hx ⟨.lf,0,0,.lf⟩ (Nat.le_refl 0);obtain⟨-,hcr⟩:=fT (vs:=vs) hF (nX hF hm m0) (k0 m0 (Nat.le_refl m0)) (aB4 F.P.cellsOf w) (fun _=>rfl) hT (hv _ rfl);refine Calls.mono hcr ?_;rintro e w' ⟨u,d,k1,k2,k3,k4,k5⟩;exact⟨u,d,k1,k2▸k4.q,k2,k5⟩
theorem toF{z:Bool}{fn:Nat}{args:List AV}{vs:List Value}{v:AV}{w:World}(hx:Fc (FN z) fn args v)(hT:z=true→Tb w)(hv:∀d:Cx,d.w=w→VL d args vs):Calls Tryz.prog fn vs.toArray w fun e w'=>∃u d,e=.returned u∧Me.Q w w'∧Cx.w d=w'∧VR d v u:=toX (aPv z) aNg hx hT hv
section
variable {z:Bool} {fn:Nat} {args:List AV} {vs:List Value} {w:World} {x y:Value} {p q:Rat} {n:Int}
theorem mN(hx:Fc (FN z) fn args (nm p))(hT:z=true→Tb w)(hv:∀d:Cx,d.w=w→VL d args vs):Calls Tryz.prog fn vs.toArray w fun e w'=>∃r,e=.returned r∧Nq w' r p∧Me.Q w w':=by
 refine (toF hx hT hv).mono ?_;rintro e w' ⟨u,d,rfl,hq,rfl,hv⟩;exact⟨u,rfl,mF.1 hv,hq⟩
theorem mI(hx:Fc (FN z) fn args (sc (.i .i64 n)))(hT:z=true→Tb w)(hv:∀d:Cx,d.w=w→VL d args vs):Calls Tryz.prog fn vs.toArray w fun e w'=>e=.returned (.int .i64 n)∧Me.Q w w':=by
 refine (toF hx hT hv).mono ?_;rintro e w' ⟨u,d,rfl,hq,rfl,hv⟩;rw[show u=_ from aF.1 hv];exact⟨rfl,hq⟩
theorem mE{r:Int × Rat}(hx:Fc (FN z) fn args (.t [(true,bS r.2),(false,[.i .i64 r.1])]))(hT:z=true→Tb w)(hv:∀d:Cx,d.w=w→VL d args vs):Calls Tryz.prog fn vs.toArray w fun e w'=>∃u,e=.returned (.tuple #[u,.int .i64 r.1])∧Nq w' u r.2∧Me.Q w w':=by
 refine (toF hx hT hv).mono ?_;rintro e w' ⟨u,d,rfl,hq,rfl,us,rfl,hv⟩
 match us,hv with
 | [a,b],hv=>
   obtain⟨h1,⟨c,e1,h2⟩,-⟩:=hv;injection (show [SV.i .i64 r.1]=[c] from e1) with e1 _;subst e1;rw[show b=_ from h2];exact⟨a,rfl,mF.1 h1,hq⟩
theorem vl1(hx:Nq w x p):∀d:Cx,d.w=w→VL d [nm p] [x]:=fun _ hd=>⟨mF.2 (hd▸hx),trivial⟩
theorem vl2(hx:Nq w x p)(hy:Nq w y q):∀d:Cx,d.w=w→VL d [nm p,nm q] [x,y]:=fun _ hd=>⟨mF.2 (hd▸hx),mF.2 (hd▸hy),trivial⟩
theorem vli(hx:Nq w x p):∀d:Cx,d.w=w→VL d [nm p,sc (.i .i64 n)] [x,.int .i64 n]:=fun _ hd=>⟨mF.2 (hd▸hx),aF.2 rfl,trivial⟩
end
end E
theorem aIS(x:Value)(p:Rat)(w:World)(hx:Nq w x p)(hB:Ma.sz p≤LIM):Calls Tryz.prog 166 #[x] w fun e w'=>∃r,e=.returned r∧Nq w' r (p)∧Me.Q w w':=mN (z:=false) (vs:=[x]) (rW hB) nofun (vl1 hx)
theorem aNh(x:Value)(p:Rat)(w:World)(hx:Nq w x p):Calls Tryz.prog 261 #[x] w fun e w'=>∃r,e=.returned r∧Nq w' r (nN p)∧Me.Q w w':=mN (z:=false) (vs:=[x]) (aG0) nofun (vl1 hx)
theorem aFe(x y:Value)(p q:Rat)(w:World)(hT:Tb w)(hx:Nq w x p)(hy:Nq w y q)(hB:16*(Ma.sz p+Ma.sz q)+100≤LIM):Calls Tryz.prog 74 #[x,y] w fun e w'=>∃r,e=.returned r∧Nq w' r (p*q)∧Me.Q w w':=mN (vs:=[x,y]) (aJG hB) (fun _=>hT) (vl2 hx hy)
theorem aOH(x y:Value)(p q:Rat)(w:World)(hT:Tb w)(hx:Nq w x p)(hy:Nq w y q)(hB:64*(Ma.sz p+Ma.sz q)+400≤LIM):Calls Tryz.prog 162 #[x,y] w fun e w'=>∃r,e=.returned r∧Nq w' r (p+q)∧Me.Q w w':=mN (vs:=[x,y]) (aJH hB) (fun _=>hT) (vl2 hx hy)
theorem aOI(x y:Value)(p q:Rat)(w:World)(hT:Tb w)(hx:Nq w x p)(hy:Nq w y q)(hB:64*(Ma.sz p+Ma.sz q)+400≤LIM):Calls Tryz.prog 160 #[x,y] w fun e w'=>∃r,e=.returned r∧Nq w' r (p-q)∧Me.Q w w':=mN (vs:=[x,y]) (aOE hB) (fun _=>hT) (vl2 hx hy)
theorem aIT(x y:Value)(p q:Rat)(w:World)(hx:Nq w x p)(hy:Nq w y q)(hB:64*(Ma.sz p+Ma.sz q)+400≤LIM):Calls Tryz.prog 354 #[x,y] w fun e w'=>∃r,e=.returned r∧Nq w' r (aBi p q)∧Me.Q w w':=mN (z:=false) (vs:=[x,y]) (aIR hB) nofun (vl2 hx hy)
theorem aG2(x y:Value)(p q:Rat)(w:World)(hx:Nq w x p)(hy:Nq w y q)(hB:64*(Ma.sz p+Ma.sz q)+400≤LIM):Calls Tryz.prog 255 #[x,y] w fun e w'=>∃r,e=.returned r∧Nq w' r (mJ p q)∧Me.Q w w':=mN (z:=false) (vs:=[x,y]) (aAw hB) nofun (vl2 hx hy)
theorem aOJ(x y:Value)(p q:Rat)(w:World)(hx:Nq w x p)(hy:Nq w y q)(hB:64*(Ma.sz p+Ma.sz q)+400≤LIM):Calls Tryz.prog 207 #[x,y] w fun e w'=>∃r,e=.returned r∧Nq w' r (mJ p q)∧Me.Q w w':=mN (z:=false) (vs:=[x,y]) (aOB hB) nofun (vl2 hx hy)
theorem aOK(x:Value)(p:Rat)(w:World)(hx:Nq w x p)(hB:Ma.sz p≤LIM):Calls Tryz.prog 97 #[x] w fun e w'=>∃r,e=.returned r∧Nq w' r (-p)∧Me.Q w w':=mN (z:=false) (vs:=[x]) (aOC hB) nofun (vl1 hx)
theorem aOL(x:Value)(p:Rat)(w:World)(hx:Nq w x p)(hB:Ma.sz p≤LIM):Calls Tryz.prog 245 #[x] w fun e w'=>∃r,e=.returned r∧Nq w' r (nN p)∧Me.Q w w':=mN (z:=false) (vs:=[x]) (aOD hB) nofun (vl1 hx)
theorem aNi(x:Value)(p:Rat)(w:World)(hx:Nq w x p):Calls Tryz.prog 127 #[x] w fun e w'=>e=.returned (.int .i64 (sn p))∧Me.Q w w':=mI (z:=false) (vs:=[x]) (aCv) nofun (vl1 hx)
theorem aOM(x y:Value)(p q:Rat)(w:World)(hx:Nq w x p)(hy:Nq w y q)(hB:64*(Ma.sz p+Ma.sz q)+400≤LIM):Calls Tryz.prog 84 #[x,y] w fun e w'=>e=.returned (.int .i64 (rc p q))∧Me.Q w w':=mI (z:=false) (vs:=[x,y]) (aFd hB) nofun (vl2 hx hy)
theorem aON(x y:Value)(p q:Rat)(w:World)(hT:Tb w)(hx:Nq w x p)(hy:Nq w y q)(hB:16*(Ma.sz p+Ma.sz q)+200≤LIM):Calls Tryz.prog 57 #[x,y] w fun e w'=>∃r,e=.returned (.tuple #[r,.int .i64 (wZ p q).1])∧Nq w' r (wZ p q).2∧Me.Q w w':=mE (vs:=[x,y]) (aOF hB) (fun _=>hT) (vl2 hx hy)
theorem aOO(x:Value)(p:Rat)(z:Int)(w:World)(hx:Nq w x p)(hB:64*Ma.sz p+600≤LIM):Calls Tryz.prog 156 #[x,.int .i64 z] w fun e w'=>∃r,e=.returned (.tuple #[r,.int .i64 (oF p z).1])∧Nq w' r (oF p z).2∧Me.Q w w':=mE (z:=false) (vs:=[x,.int .i64 z]) (aOG hB) nofun (vli hx)
theorem aIU(x:Value)(p:Rat)(n:Nat)(w:World)(hx:Nq w x p)(hn:n≤64)(hB:64*Ma.sz p+400≤LIM):Calls Tryz.prog 237 #[x,.int .i64 (n:Int)] w fun e w'=>∃r,e=.returned r∧Nq w' r (p^n)∧Me.Q w w':=mN (z:=false) (vs:=[x,.int .i64 (n:Int)]) (zU hn hB) nofun (vli hx)
theorem aLa(x:Value)(p:Rat)(w:World)(_:Tb w)(hx:Nq w x p)(hB:16*Ma.sz p+200≤LIM):Calls Tryz.prog 315 #[x] w fun e w'=>∃r,e=.returned r∧Nq w' r ((p.floor:Int))∧Me.Q w w':=mN (z:=false) (vs:=[x]) (aK9 hB) nofun (vl1 hx)
end
section
open Go.RowKit
open Ma Me
theorem vV{w:World}{g b o:Nat}{s t u:Value}(h:b≠g):(((w.setCell ⟨g,0,none⟩ s).setCell ⟨g,1,none⟩ t).setCell ⟨g,2,none⟩ u).cell? ⟨b,o,none⟩=w.cell? ⟨b,o,none⟩:=by
 rw[World.cell?_setCell_other _ _ _ _ (by intro e;cases e;exact h rfl),World.cell?_setCell_other _ _ _ _ (by intro e;cases e;exact h rfl),World.cell?_setCell_other _ _ _ _ (by intro e;cases e;exact h rfl)]
theorem aCw{a b:Value}{x y:Bool}(h:x=y):Ending.returned (.tuple #[a,b,.bool x])=.returned (.tuple #[a,b,.bool y]):=by rw[h]
theorem toList_mk(l:List UInt8):(⟨l.toArray⟩:ByteArray).data.toList=l:=rfl
theorem aLb{l:List UInt8}{c:UInt8}{k:Nat}(h:l[k]? =some c)(hn:∀j,j<k→l[j]?≠some c):fF c l=l.take k∧aft c l=l.drop (k+1)∧c∈l:=by
 have hk:k<l.length:=by
  rcases Nat.lt_or_ge k l.length with h1|h1
  ·exact h1
  ·rw[List.getElem?_eq_none h1]at h;cases h
 have e:l=l.take k++c::l.drop (k+1):=by
  have h1:l[k]=c:=(by rw[List.getElem?_eq_getElem hk]at h;exact Option.some.inj h);rw[←h1,←List.drop_eq_getElem_cons hk,List.take_append_drop]
 have hc:c∉l.take k:=by
  intro hm;obtain⟨j,hj,hj2⟩:=List.getElem_of_mem hm;rw[List.length_take]at hj;refine hn j (by omega) ?_;rw[List.getElem_take]at hj2;rw[List.getElem?_eq_getElem (by omega),hj2]
 have hf:=aJ1 (s:=l.drop (k+1)) hc;rw[←e]at hf;exact⟨hf.1,hf.2,List.mem_of_getElem? h⟩
def aG3(l:List UInt8)(c:UInt8)(w:World)(e:Ending)(w':World):Prop:=∃a b:ByteArray,e=.returned (.tuple #[.string a,.string b,.bool (decide (c∈l))])∧a.data.toList=fF c l∧b.data.toList=aft c l∧Q w w'
theorem aNj(s:ByteArray)(c:UInt8)(w:World)(hs:s.size≤9223372036854775806):Calls Tryz.prog 304 #[.string s,.string ⟨#[c]⟩] w (aG3 s.data.toList c w):=by
 have h1:=Lib.indexByte_ge s.data.toList c;have h2:=@Lib.indexByte_none s.data.toList c;have h3:=@Lib.indexByte_some s.data.toList c;have hsz:=Lib.size_eq s;obtain⟨i,hi⟩:∃i,Lib.indexByte s.data.toList c=i:=⟨_,rfl⟩
 rw[hi]at h1 h2 h3;rcases (by omega:i=-1∨0≤i) with rfl|h0
 ·have hn:=h2 rfl;have hnm:c∉s.data.toList:=fun hm=>by
   obtain⟨j,hj,hj2⟩:=List.getElem_of_mem hm;exact hn j (by rw[List.getElem?_eq_getElem hj,hj2])
  have HI:=hZ hi;clear h1 h2 h3 hn hi;obtain⟨f1,f2⟩:=wK hnm;have HF1:=hZ f1;have HF2:=hZ f2;have HN:=hZ hnm;clear f1 f2 hnm hsz;go_enter Tryz.func304,Tryz.ntmps304
  go_wp2_with fail
  refine (Tryz.stringslite_Index_one s c _).mono ?_;rintro e w1 ⟨rfl,rfl⟩;rw[HI.out];go_wp2_with fail
  go_ret3
  exact⟨s,⟨#[]⟩,aCw (decide_eq_false HN.out).symm,HF1.out.symm,HF2.out.symm,Q.refl _⟩
 ·obtain⟨k,rfl⟩:=Int.eq_ofNat_of_zero_le h0;obtain⟨hk,hkn⟩:=h3 rfl;obtain⟨f1,f2,f3⟩:=aLb hk hkn;have hlt:k<s.size:=by
   rw[hsz];rcases Nat.lt_or_ge k s.data.toList.length with h1|h1
   ·exact h1
   ·rw[List.getElem?_eq_none h1]at hk;cases hk
  have HI:=hZ hi;have HF1:=hZ f1;have HF2:=hZ f2;have HF3:=hZ f3;have HSZ:=hZ hsz;clear h1 h2 h3 hi f1 f2 f3 hk hkn hsz;have q1:(0:Int)≤(k:Int):=(by omega);have q2:(k:Int)≤(s.size:Int):=(by omega);have q3:(0:Int)≤(k:Int)+1:=(by omega);have q4:(k:Int)+1≤(s.size:Int):=(by omega);have q5:IntKind.i64.wrap ((k:Int)+1)=(k:Int)+1:=IntWalk.i64_in _ (by omega);have q6:((k:Int)+1).toNat=k+1:=(by omega);go_enter Tryz.func304,Tryz.ntmps304
  go_wp2_with fail
  refine (Tryz.stringslite_Index_one s c _).mono ?_;rintro e w1 ⟨rfl,rfl⟩;rw[HI.out];go_wp2_with fail
  go_quiet (fail)
  go_wp2_with fail
  go_ret3
  exact⟨s.extract 0 k,s.extract (k+1) s.size,aCw (decide_eq_true HF3.out).symm,by rw[Lib.extract_data,HF1.out];simp,by rw[Lib.extract_to_end,HF2.out],(Q.refl _).drewN _⟩
theorem aFf(s:ByteArray)(c:UInt8)(w:World)(hs:s.size≤9223372036854775806):Calls Tryz.prog 219 #[.string s,.string ⟨#[c]⟩] w (aG3 s.data.toList c w):=by
 obtain⟨t,ht⟩:∃t,decide (c∈s.data.toList)=t:=⟨_,rfl⟩
 have HT:=hZ ht;clear ht;go_enter Tryz.func219,Tryz.ntmps219
 go_wp2_with fail
 refine (aNj s c _ hs).mono ?_;rintro e w1 ⟨a,b,rfl,ha,hb,hq⟩;rw[HT.out];have HA:=hZ ha;have HBb:=hZ hb;clear ha hb;go_wp2_with fail
 go_ret3
 exact⟨a,b,aCw HT.out.symm,HA.out,HBb.out,hq⟩
theorem aFg(l:List UInt8):Lib.hasPrefix l [45]=lD l∧Lib.trimPrefix l [45]=unsigned l:=by
 have e:Lib.hasPrefix l [45]=lD l:=by
  unfold Lib.hasPrefix lD;cases l with
  |nil=>rfl
  |cons c t=>
   simp[List.isPrefixOf];by_cases h:c=45
   ·subst h;rfl
   ·rw[beq_eq_false_iff_ne.2 (fun h1=>h h1.symm),beq_eq_false_iff_ne.2 h]
 refine⟨e,?_⟩;unfold Lib.trimPrefix unsigned;rw[e];split
 ·cases l<;>rfl
 ·rfl
theorem uM(s:ByteArray)(w:World):Calls Tryz.prog 218 #[.string s,.string ⟨#[45]⟩] w fun e w'=>∃a:ByteArray,e=.returned (.tuple #[.string a,.bool (lD s.data.toList)])∧a.data.toList=unsigned s.data.toList∧a.size≤s.size∧w'=w:=by
 refine (Tryz.strings_CutPrefix s ⟨#[45]⟩ w).mono ?_;rintro e w' ⟨h1,h2⟩;obtain⟨e1,e2⟩:=aFg s.data.toList;have e1':Lib.hasPrefix s.data.toList (⟨#[45]⟩:ByteArray).data.toList=lD s.data.toList:=e1;have e2':Lib.trimPrefix s.data.toList (⟨#[45]⟩:ByteArray).data.toList=unsigned s.data.toList:=e2;rw[e1',e2']at h1;refine⟨_,h1,rfl,?_,h2⟩;rw[Lib.size_eq,Lib.size_eq,toList_mk];unfold unsigned;split
 ·rw[List.length_tail];omega
 ·exact Nat.le_refl _
theorem aG4(s:ByteArray)(l:List UInt8)(hl:s.data.toList=l)(hpos:0<s.size)(hA:bP l):(s[0].toNat=48→decide (Row l)=((s.size:Int) == 1))∧(¬s[0].toNat=48→decide (Row l)=true):=by
 have hsz:=Lib.size_eq s;rw[hl]at hsz;have hh:l.head? =some s[0]:=by
  rw[←hl,List.head?_eq_getElem?];have hp:0<s.data.toList.length:=(by rw[←Lib.size_eq];exact hpos);rw[List.getElem?_eq_getElem hp];rfl
 have hne:l≠[]:=fun h=>by rw[h]at hh;cases hh
 constructor
 ·intro h;have h48:s[0]=48:=aAd h;rw[h48]at hh;by_cases h1:s.size=1
  ·have:l=[48]:=by
    cases l with
    |nil=>exact absurd rfl hne
    |cons c t=>
     simp at hh hsz;have:t=[]:=List.eq_nil_of_length_eq_zero (by omega);rw[hh,this]
   rw[decide_eq_true (show Row l from⟨hA,hne,fun _=>this⟩),h1];rfl
  ·rw[decide_eq_false (show ¬Row l from fun hr=>h1 (by rw[hsz,hr.2.2 hh];rfl))];exact (beq_eq_false_iff_ne.2 (by omega)).symm
 ·intro h;refine decide_eq_true ⟨hA,hne,fun h1=>absurd ?_ h⟩;rw[hh]at h1;rw[Option.some.inj h1];rfl
theorem aDW(s:ByteArray)(w:World):Calls Tryz.prog 220 #[.string s] w fun e w'=>e=.returned (.bool (decide (Row s.data.toList)))∧Q w w':=by
 have hsz:=Lib.size_eq s;obtain⟨l,hl⟩:∃l,s.data.toList=l:=⟨_,rfl⟩
 rw[hl]at hsz⊢;by_cases h:bP l∧l≠[]
 ·have ha:lF l=true:=decide_eq_true h;have hpos:0<s.size:=(by rw[hsz];exact List.length_pos_iff.2 h.2);have hk:=aG4 s l hl hpos h.1;have HA:=hZ ha;have HL:=hZ hl;have HK:=hZ hk;clear ha hl h hsz hk;go_enter Tryz.func220,Tryz.ntmps220
  go_wp2_with fail
  refine (lG s _).mono ?_;rintro e w1 ⟨rfl,hq⟩;rw[HL.out,HA.out];go_wp2_with fail
  ·go_ret
   have h:(s[0].toNat:Int)=48:=(by assumption);exact⟨wN (HK.out.1 (by omega)).symm,hq⟩
  ·go_ret
   have h:¬(s[0].toNat:Int)=48:=(by assumption);exact⟨wN (HK.out.2 (by omega)).symm,hq⟩
 ·have ha:lF l=false:=decide_eq_false h;have hr:decide (Row l)=false:=decide_eq_false (fun hr=>h ⟨hr.1,hr.2.1⟩);rw[hr];clear hr;have HA:=hZ ha;have HL:=hZ hl;clear ha hl h hsz;go_enter Tryz.func220,Tryz.ntmps220
  go_wp2_with fail
  refine (lG s _).mono ?_;rintro e w1 ⟨rfl,hq⟩;rw[HL.out,HA.out];go_wp2_with fail
  go_ret
  exact⟨rfl,hq⟩
theorem aLc(N:Nat):(dec N).length≤20*dg W64 N+1:=by
 rw[jV];split
 ·omega
 ·have h:dg 10 N≤20*dg W64 N:=by
   rw[aK (by decide),Nat.pow_mul];exact Nat.lt_of_lt_of_le (aX aD N) (Nat.pow_le_pow_left (by decide) _)
  omega
theorem aG5{t:ByteArray}{p:Rat}(h:t.data.toList=mP p):t.size≤1:=by
 rw[Lib.size_eq,h];unfold mP;split<;>decide
theorem aCx{t:ByteArray}{N:Nat}(h:t.data.toList=dec N)(hN:dg W64 N≤1000000000):t.size≤20000000001:=by
 rw[Lib.size_eq,h];have:=aLc N;omega
theorem kZ(a b:ByteArray):(a++b).data.toList=a.data.toList++b.data.toList:=by
 simp
theorem aOP{d:Nat}(h:¬d=1):bt d=d:=if_neg h
theorem aNk(d:Nat):(dec (bt d)).length=(dec d).length:=by
 unfold bt;split
 ·rename_i h;rw[h,aHT,aJ2];rfl
 ·rfl
theorem aG6{a b:ByteArray}{p:Rat}(ha:a.data.toList=mP p)(hb:b.data.toList=dec p.num.natAbs)(hd:p.den=1):(a++b).data.toList=uU p:=by
 rw[kZ,ha,hb,aBl,if_pos hd,List.append_nil]
theorem aG7{a b c:ByteArray}{p:Rat}(ha:a.data.toList=mP p)(hb:b.data.toList=dec p.num.natAbs)(hc:c.data.toList=dec (bt p.den))(hd:¬p.den=1):(a++b++(⟨#[47]⟩++c)).data.toList=uU p:=by
 rw[kZ,kZ,kZ,ha,hb,hc,aBl,if_neg hd,aOP hd,List.append_assoc];rfl
theorem aFh(x:Value)(p:Rat)(w:World)(hx:Nq w x p):Calls Tryz.prog 54 #[x] w fun e w'=>∃t:ByteArray,e=.returned (.string t)∧t.data.toList=mP p∧Q w w':=by
 obtain⟨s1,A1,n1,c1,A2,n2,c2,rfl,E1,Z1,O1,hxt,hxb⟩:=hx.form;obtain⟨w0,hW,hG0,hX0⟩:=aCr w s1 (.slice A1 n1 c1) (.slice A2 n2 c2);have he0:s1=decide (p<0):=E1.out.trans (decide_eq_decide.2 (fV p));by_cases hp:p<0
 ·have k0:s1=true:=he0.trans (decide_eq_true hp);have HS:=hZ (if_pos hp:mP p=[45]);subst k0;clear he0 hp;obtain⟨x0,x1,x2⟩:=hX0.cells;go_enter Tryz.func54,Tryz.ntmps54
  go_wp2_with fail
  go_ret
  exact⟨⟨#[45]⟩,rfl,HS.out.symm,hG0⟩
 ·have k0:s1=false:=he0.trans (decide_eq_false hp);have HS:=hZ (if_neg hp:mP p=[]);subst k0;clear he0 hp;obtain⟨x0,x1,x2⟩:=hX0.cells;go_enter Tryz.func54,Tryz.ntmps54
  go_wp2_with fail
  go_ret
  exact⟨⟨#[]⟩,rfl,HS.out.symm,hG0⟩
theorem aNl(x:Value)(p:Rat)(w:World)(hx:Nq w x p)(hB:sz p≤1000000000):Calls Tryz.prog 14 #[x] w fun e w'=>∃t:ByteArray,e=.returned (.string t)∧t.data.toList=uU p∧Q w w':=by
 obtain⟨s1,A1,n1,c1,A2,n2,c2,rfl,E1,Z1,O1,hxt,hxb⟩:=hx.form;obtain⟨w0,hW,hG0,hX0⟩:=aCr w s1 (.slice A1 n1 c1) (.slice A2 n2 c2);have b1:dg W64 p.num.natAbs≤1000000000:=by have:=fZ p;omega
 have b2:dg W64 (bt p.den)≤1000000000:=by have:=aFc p;omega
 go_enter Tryz.func14,Tryz.ntmps14
 obtain⟨x0,x1,x2⟩:=hX0.cells;go_wp2_with fail
 clear hW;clear x0 x1 x2;obtain⟨x0,x1,x2⟩:=hX0.cells;refine wp_region_held_drew (S:=fun W=>W.cell? ⟨w.heap.size,0,none⟩=some (.bool s1)∧W.cell? ⟨w.heap.size,1,none⟩=some (.slice A1 n1 c1)∧W.cell? ⟨w.heap.size,2,none⟩=some (.slice A2 n2 c2)) (by kernel_rfl) (by exact⟨x0,x1,x2⟩) (fun hHeld=>?_);refine wpAnyH_take (i:=0) (v:=?v0) rfl (by kernel_rfl) (by kernel_rfl) (by kernel_rfl) (fun _ _ _ h=>h) (Or.inl ⟨by rfl,?h0⟩) (by assumption) ?r0
 case h0=>
  intro W hSw
  (try dsimp only at hSw)
  go_simp
  try (with_reducible rfl)
 try simp only[Act.put]
 try simp only[List.setIfInBounds_toArray]
 try simp only[List.set_cons_zero,List.set_cons_succ]
 refine wpAnyH_take (i:=2) (v:=?v2) rfl (by kernel_rfl) (by kernel_rfl) (by kernel_rfl) (fun _ _ _ h=>h) (Or.inl ⟨by rfl,?h2⟩) (by assumption) ?r2
 case h2=>
  intro W hSw
  (try dsimp only at hSw)
  go_simp
  try (with_reducible rfl)
 try simp only[Act.put]
 try simp only[List.setIfInBounds_toArray]
 try simp only[List.set_cons_zero,List.set_cons_succ]
 refine wpAnyH_take (i:=3) (v:=?v3) rfl (by kernel_rfl) (by kernel_rfl) (by kernel_rfl) (fun _ _ _ h=>h) (Or.inl ⟨by rfl,?h3⟩) (by assumption) ?r3
 case h3=>
  intro W hSw
  (try dsimp only at hSw)
  go_simp
  try (with_reducible rfl)
 try simp only[Act.put]
 try simp only[List.setIfInBounds_toArray]
 try simp only[List.set_cons_zero,List.set_cons_succ]
 refine wpAnyH_ready (rs:=[1]) (by kernel_rfl) (by decide) (AllReadyH.cons rfl (fun K hK=>?_) AllReadyH.nil);go_simp
 (with_reducible refine (aFh _ p _ (hx.q hG0.drew)).mono ?_)
 rintro e w1 ⟨ta,rfl,hta,hq1d⟩;have hq1:Q w0 w1:=(Q.refl w0).drew.trans hq1d;have hG1:=hG0.trans hq1;have hX1:=hX0.q hq1;obtain⟨x0,x1,x2⟩:=hX1.cells;have sa:=aG5 hta;have HTA:=hZ hta;clear hta;go_wp2_with fail
 refine hK.out _ _ (by exact⟨by assumption,by assumption,by assumption⟩) (fun hHeld=>?_);clear hK K;try simp only[Act.put]
 try simp only[List.setIfInBounds_toArray]
 try simp only[List.set_cons_zero,List.set_cons_succ]
 refine wpAnyH_ready (rs:=[4]) (by kernel_rfl) (by decide) (AllReadyH.cons rfl (fun K hK=>?_) AllReadyH.nil);go_simp
 (with_reducible refine (yP _ p.num.natAbs _ (hxt.q hG1) b1).mono ?_)
 rintro e w2 ⟨tb,rfl,htb,hq2⟩;have hG2:=hG1.trans hq2;have hX2:=hX1.q hq2;obtain⟨x0,x1,x2⟩:=hX2.cells;have sb:=aCx htb b1;have HTB:=hZ htb;clear htb;go_wp2_with fail
 refine hK.out _ _ (by exact⟨by assumption,by assumption,by assumption⟩) (fun hHeld=>?_);clear hK K;try simp only[Act.put]
 try simp only[List.setIfInBounds_toArray]
 try simp only[List.set_cons_zero,List.set_cons_succ]
 refine wpAnyH_ready (rs:=[5]) (by kernel_rfl) (by decide) (AllReadyH.cons rfl (fun K hK=>?_) AllReadyH.nil);go_simp
 rw[if_neg (by have:=sa;have:=sb;omega)];go_simp
 refine hK.out _ _ (by exact⟨by assumption,by assumption,by assumption⟩) (fun hHeld=>?_);clear hK K;try simp only[Act.put]
 try simp only[List.setIfInBounds_toArray]
 try simp only[List.set_cons_zero,List.set_cons_succ]
 refine wpAnyH_take (i:=6) (v:=?v6) rfl (by kernel_rfl) (by kernel_rfl) (by kernel_rfl) (fun _ _ _ h=>h) (Or.inl ⟨by rfl,?h6⟩) (by assumption) ?r6
 case h6=>
  intro W hSw
  (try dsimp only at hSw)
  go_simp
  try (with_reducible rfl)
 try simp only[Act.put]
 try simp only[List.setIfInBounds_toArray]
 try simp only[List.set_cons_zero,List.set_cons_succ]
 refine wpAnyH_done (by kernel_rfl) ?_ _;all_goals
  obtain⟨x0,x1,x2⟩:=hX2.cells;go_wp2_with fail
  refine (aK2 _ p _ (hx.q hG2)).mono ?_;rintro e w3 ⟨rfl,hq3⟩;have hG3:=hG2.trans hq3;have hX3:=hX2.q hq3;clear x0 x1 x2;obtain⟨x0,x1,x2⟩:=hX3.cells;by_cases hd:p.den=1
  ·rw[decide_eq_true hd];have HD:=hZ hd;clear hd;go_wp2_with fail
   go_ret
   exact⟨_,rfl,aG6 HTA.out HTB.out HD.out,hG3⟩
  ·rw[decide_eq_false hd];have HD:=hZ hd;clear hd;go_wp2_with fail
   refine (yP _ (bt p.den) _ (hxb.q hG3) b2).mono ?_;rintro e w4 ⟨tc,rfl,htc,hq4⟩;have hG4:=hG3.trans hq4;have hX4:=hX3.q hq4;clear x0 x1 x2;have sc:=aCx htc b2;have HTC:=hZ htc;clear htc;go_wp2_with fail
   go_ret
   exact⟨_,rfl,aG7 HTA.out HTB.out HTC.out HD.out,hG4⟩
theorem aIV(x:Value)(p:Rat)(w:World)(hx:Nq w x p)(hB:100*sz p+100≤LIM):Calls Tryz.prog 125 #[x] w fun e w'=>e=.returned (.int .i64 ((aEo p:Nat):Int))∧Q w w':=by
 obtain⟨s1,A1,n1,c1,A2,n2,c2,rfl,E1,Z1,O1,hxt,hxb⟩:=hx.form;obtain⟨w0,hW,hG0,hX0⟩:=aCr w s1 (.slice A1 n1 c1) (.slice A2 n2 c2);have b1:100*dg W64 p.num.natAbs+100≤LIM:=by have:=fZ p;rw[aC]at*;omega
 have b2:100*dg W64 (bt p.den)+100≤LIM:=by have:=aFc p;rw[aC]at*;omega
 obtain⟨m,hm⟩:∃m,aEo p=m:=⟨_,rfl⟩
 rw[hm];have hd:=aNk p.den;have hmax:max (((dec p.num.natAbs).length:Nat):Int) (((dec (bt p.den)).length:Nat):Int)=(m:Int):=by rw[hd,←hm];unfold aEo;omega
 obtain⟨la,hla⟩:∃la,(dec p.num.natAbs).length=la:=⟨_,rfl⟩;obtain⟨lb,hlb⟩:∃lb,(dec (bt p.den)).length=lb:=⟨_,rfl⟩
 rw[hla,hlb]at hmax;have HLA:=hZ hla;have HLB:=hZ hlb;clear hla hlb hd hm;go_enter Tryz.func125,Tryz.ntmps125
 obtain⟨x0,x1,x2⟩:=hX0.cells;go_wp2_with fail
 clear hW;clear x0 x1 x2;obtain⟨x0,x1,x2⟩:=hX0.cells
 go_region_held3 (fun W=>W.cell? ⟨w.heap.size,0,none⟩=some (.bool s1)∧W.cell? ⟨w.heap.size,1,none⟩=some (.slice A1 n1 c1)∧W.cell? ⟨w.heap.size,2,none⟩=some (.slice A2 n2 c2)) (first|with_reducible exact⟨x0,x1,x2⟩|(refine⟨?_,?_,?_⟩<;>with_reducible assumption)|go_keep) (first
  |(go_at_call 197;(with_reducible refine (sJ _ (bt p.den) _ (hxb.q hG1) b2).mono ?_);rintro e w2 ⟨rfl,hq2⟩;have hG2:=hG1.trans hq2;have hX2:=hX1.q hq2;obtain⟨x0,x1,x2⟩:=hX2.cells;rw[HLB.out])
  |(go_at_call 197;(with_reducible refine (sJ _ p.num.natAbs _ (hxt.q hG0.drew) b1).mono ?_);rintro e w1 ⟨rfl,hq1d⟩;have hq1:Q w0 w1:=(Q.refl w0).drew.trans hq1d;have hG1:=hG0.trans hq1;have hX1:=hX0.q hq1;obtain⟨x0,x1,x2⟩:=hX1.cells;rw[HLA.out]))
 all_goals
  go_wp2_with fail
  go_ret
  exact⟨rfl,hG2⟩
theorem aG8(z:Int)(w:World)(hB:z.natAbs≤1000000):Calls Tryz.prog 416 #[.int .i64 z] w fun e w'=>∃r,e=.returned r∧Nq w' r (dJ z)∧Q w w':=by
 obtain⟨w0,hW,hG0,hR0⟩:∃W,w.alloc (.cells #[.bool false,.slice none 0 0,.slice none 0 0] 51)=W∧Q w W∧Nb W w.heap.size false (.slice none 0 0) (.slice none 0 0):=⟨_,rfl,(Q.refl _).alloc _,Nb.new w _ _ _⟩
 by_cases hz0:z<0
 ·obtain⟨k,hk⟩:∃k:Nat,(-z).toNat=k:=⟨_,rfl⟩
  have hzk:z=-(k:Int):=(by omega);have hnz:-z=(k:Int):=(by omega);have hpw:dJ z=dJ (-(k:Int)):=(by rw[hzk]);rw[hpw];have b1:k+9≤LIM:=(by rw[aC];omega);have b2:-1000000≤z:=(by omega);obtain⟨p1,p2⟩:=qE k;have HP1:=hZ p1;have HP2:=hZ p2;clear p1 p2 hpw hk hzk hB;go_enter Tryz.func416,Tryz.ntmps416
  go_wp2_with fail
  clear hW;refine (fC 1 1 _ rfl (by decide)).mono ?_;rintro e w1 ⟨t2,rfl,ht2,hq1,-⟩;have hG1:=hG0.trans hq1;have hR1:=hR0.q hq1;obtain⟨A6,n6,c6,rfl⟩:=ht2.form;go_wp2_with fail
  refine (qR k _ _ rfl b1).mono ?_;rintro e w2 ⟨t3,rfl,ht3,hq2,-⟩;have hG2:=hG1.trans hq2;have hR2:=hR1.q hq2;have fz:=hR2.frozen;obtain⟨r0,r1,r2⟩:=hR2.cells;obtain⟨A7,n7,c7,rfl⟩:=ht3.form;go_wp2_with fail
  refine (kI false _ _ 1 (10^k) _ (ht2.q hq2) ht3).mono ?_;rintro e w3 ⟨v5,rfl,hv5,hq3⟩;have hG3:=hG2.trans hq3;have hR3:=hR2.q hq3;clear fz r0 r1 r2;have fz:=hR3.frozen;obtain⟨r0,r1,r2⟩:=hR3.cells;obtain⟨B1,d1,B2,d2,rfl,-,-⟩:=hv5.form;have hv:=Nq.made (q:=dJ (-(k:Int))) hv5 HP1.out (fun _=>HP2.out);generalize (decide (0<1) && false)=s4 at*
  generalize dg W64 (if 1=0 then 0 else bt (10^k))=m2 at*
  generalize dg W64 1=m1 at*
  go_wp2_with fail
  obtain⟨z0,z1,z2,hvF,hqF⟩:=Nq.store hR3 hv hG3 (Nat.le_refl _);unfold put3 at z0 z1 z2 hvF hqF;refine rz3 z0 z1 z2 ?_;exact⟨_,rfl,hvF,hqF⟩
 ·obtain⟨k,rfl⟩:=Int.eq_ofNat_of_zero_le (show 0≤z by omega);have b1:k+9≤LIM:=(by rw[aC];omega);obtain⟨p1,p2⟩:=qD k;have HP1:=hZ p1;have HP2:=hZ p2;clear p1 p2 hB;go_enter Tryz.func416,Tryz.ntmps416
  go_wp2_with fail
  clear hW;refine (qR k _ _ rfl b1).mono ?_;rintro e w1 ⟨t3,rfl,ht3,hq1,-⟩;have hG1:=hG0.trans hq1;have hR1:=hR0.q hq1;have fz:=hR1.frozen;obtain⟨r0,r1,r2⟩:=hR1.cells;obtain⟨A7,n7,c7,rfl⟩:=ht3.form;go_wp2_with fail
  refine (gH false _ (10^k) _ ht3).mono ?_;rintro e w2 ⟨v5,rfl,hv5,hq2⟩;have hG2:=hG1.trans hq2;have hR2:=hR1.q hq2;clear fz r0 r1 r2;have fz:=hR2.frozen;obtain⟨r0,r1,r2⟩:=hR2.cells;obtain⟨B1,d1,B2,d2,rfl,-,-⟩:=hv5.form;have hv:=Nq.int (q:=dJ (k:Int)) hv5 HP1.out HP2.out;generalize (decide (0<10^k) && false)=s4 at*
  generalize dg W64 (10^k)=m1 at*
  generalize dg W64 0=m2 at*
  go_wp2_with fail
  obtain⟨z0,z1,z2,hvF,hqF⟩:=Nq.store hR2 hv hG2 (Nat.le_refl _);unfold put3 at z0 z1 z2 hvF hqF;refine rz3 z0 z1 z2 ?_;exact⟨_,rfl,hvF,hqF⟩
theorem aDX{neg two:Bool}{f b:List UInt8}(_:Row f)(hz:f=[48])(h:neg=true∨two=true):bJ neg f b two=(6,0):=if_pos (.inr ⟨hz,h⟩)
theorem aJI{neg two:Bool}{f:List UInt8}(hr:Row f)(hz:f=[48]∧(neg=true∨two=true)→False):¬(¬Row f∨(f=[48]∧(neg=true∨two=true))):=fun h=>by
 rcases h with h|h
 ·exact h hr
 ·exact hz h
theorem aCy{neg:Bool}{f b:List UInt8}(hr:Row f)(hz:f=[48]∧(neg=true∨true=true)→False)(h:¬Row b∨b=[48]∨b=[49]):bJ neg f b true=(6,0):=by
 unfold bJ;rw[if_neg (aJI hr hz),if_pos ⟨rfl,h⟩]
theorem aAV{neg two:Bool}{f b:List UInt8}(hr:Row f)(hz:f=[48]∧(neg=true∨two=true)→False)(h:two=true→¬(¬Row b∨b=[48]∨b=[49])):
  bJ neg f b two=if 1000<f.length∨1000<b.length then (3,0) else if two=false then (0,mkQ neg (dv f) 1) else if Nat.gcd (dv f) (dv b)≠1 then (6,0) else (0,mkQ neg (dv f) (dv b)):=by
 unfold bJ;rw[if_neg (aJI hr hz),if_neg (fun h1=>h h1.1 h1.2)]
theorem vW{neg two:Bool}{f b:List UInt8}(hl:1000<f.length∨1000<b.length)(hr:Row f)(hz:f=[48]∧(neg=true∨two=true)→False)(h:two=true→¬(¬Row b∨b=[48]∨b=[49])):bJ neg f b two=(3,0):=by
 rw[aAV hr hz h,if_pos hl]
theorem aG9{neg:Bool}{f b:List UInt8}(hr:Row f)(hz:f=[48]∧(neg=true∨false=true)→False)(h1:¬1000<f.length)(h2:¬1000<b.length):bJ neg f b false=(0,mkQ neg (dv f) 1):=by
 rw[aAV hr hz (fun h=>by cases h),if_neg (fun h=>h.elim h1 h2),if_pos rfl]
theorem aLd{neg:Bool}{f b:List UInt8}(hr:Row f)(hz:f=[48]∧(neg=true∨true=true)→False)(h:¬(¬Row b∨b=[48]∨b=[49]))(h1:¬1000<f.length)(h2:¬1000<b.length)(hg:Nat.gcd (dv f) (dv b)=1):bJ neg f b true=(0,mkQ neg (dv f) (dv b)):=by
 rw[aAV hr hz (fun _=>h),if_neg (fun h=>h.elim h1 h2),if_neg (by decide),if_neg (fun h=>h hg)]
theorem aNm{neg:Bool}{f b:List UInt8}(hr:Row f)(hz:f=[48]∧(neg=true∨true=true)→False)(h:¬(¬Row b∨b=[48]∨b=[49]))(h1:¬1000<f.length)(h2:¬1000<b.length)(hg:¬Nat.gcd (dv f) (dv b)=1):bJ neg f b true=(6,0):=by
 rw[aAV hr hz (fun _=>h),if_neg (fun h=>h.elim h1 h2),if_neg (by decide),if_pos hg]
theorem aDY(s:ByteArray)(w:World)(hT:Tb w)(hs:s.size≤9223372036854775806):Calls Tryz.prog 143 #[.string s] w fun e w'=>∃r,e=.returned (.tuple #[r,.int .i64 (lM s.data.toList).1])∧Nq w' r (lM s.data.toList).2∧Q w w':=by
 obtain⟨w0,hW,hG0,hR0⟩:∃W,w.alloc (.cells #[.bool false,.slice none 0 0,.slice none 0 0] 51)=W∧Q w W∧Nb W w.heap.size false (.slice none 0 0) (.slice none 0 0):=⟨_,rfl,(Q.refl _).alloc _,Nb.new w _ _ _⟩
 obtain⟨neg,hneg⟩:∃neg,lD s.data.toList=neg:=⟨_,rfl⟩
 obtain⟨two,htwo⟩:∃two,decide (47∈unsigned s.data.toList)=two:=⟨_,rfl⟩
 obtain⟨f,hf⟩:∃f,fF 47 (unsigned s.data.toList)=f:=⟨_,rfl⟩
 obtain⟨b,hb⟩:∃b,aft 47 (unsigned s.data.toList)=b:=⟨_,rfl⟩
 have hb2:two=false→b=[]:=fun h=>by rw[←hb];exact (wK (of_decide_eq_false (htwo.trans h))).2
 have hP:lM s.data.toList=bJ neg f b two:=by unfold lM;rw[hneg,htwo,hf,hb]
 have HP:=hZ hP;have HN:=hZ hneg;have HT2:=hZ htwo;have HF:=hZ hf;have HBb:=hZ hb;have HB2:=hZ hb2;clear hP hneg htwo hf hb hb2;go_enter Tryz.func143,Tryz.ntmps143
 go_wp2_with fail
 clear hW;refine (uM s _).mono ?_;rintro e w90 ⟨a,rfl,ha,hsz,rfl⟩;rw[HN.out];have HA:=hZ ha;clear ha;go_wp2_with fail
 refine (aFf a 47 _ (by omega)).mono ?_;rintro e w1 ⟨fa,fb,rfl,hfa,hfb,hq1⟩;have hG1:=hG0.trans hq1;have hR1:=hR0.q hq1;rw[HA.out]at hfa hfb⊢;rw[HT2.out];rw[HF.out]at hfa;rw[HBb.out]at hfb;have la:fa.size=f.length:=by rw[Lib.size_eq,hfa]
 have lb:fb.size=b.length:=by rw[Lib.size_eq,hfb]
 have ta:fa.toList=f:=(ByteArray.toList_eq _).trans hfa;have tb:fb.toList=b:=(ByteArray.toList_eq _).trans hfb;have HFA:=hZ hfa;have HFB:=hZ hfb;have LA:=hZ la;have LB:=hZ lb;have TA:=hZ ta;have TB:=hZ tb;clear hfa hfb la lb ta tb;go_wp2_with fail
 refine (aDW fa _).mono ?_;rintro e w2 ⟨rfl,hq2⟩;have hG2:=hG1.trans hq2;have hR2:=hR1.q hq2;rw[HFA.out];by_cases hr:Row f
 ·rw[decide_eq_true hr];by_cases hz:f=[48]
  ·have tz0:fa.toList=[48]:=TA.out.trans hz;have HZ:=hZ hz;clear hz;cases neg
   ·cases two
    ·have hbn:b=[]:=HB2.out rfl;have hfb0:¬(1000:Int)<(fb.size:Int):=(by rw[LB.out,hbn];decide);have HBN:=hZ hbn;clear hbn;by_cases hl:1000<f.length
     ·have hl2:(1000:Int)<(fa.size:Int):=(by rw[LA.out];omega);have HLL:=hZ hl;clear hl;have fz:=hR2.frozen;obtain⟨r0,r1,r2⟩:=hR2.cells;go_wp2_with fail
      have hv:=dR w2;obtain⟨z0,z1,z2,hvF,hqF⟩:=Nq.store hR2 hv hG2 (Nat.le_refl _);unfold put3 at z0 z1 z2 hvF hqF;refine rt3 (.int .i64 3) z0 z1 z2 ?_;have hres:bJ false f b false=((3:Int),(0:Rat)):=vW (.inl HLL.out) hr (fun h=>by rcases h.2 with h|h<;>cases h) (fun h=>by cases h);rw[HP.out,hres];exact⟨_,rfl,hvF,hqF⟩
     ·have hl2:¬(1000:Int)<(fa.size:Int):=(by rw[LA.out];omega);have hsf:fa.size+100≤LIM:=(by rw[LA.out,aC];omega);have HLL:=hZ hl;clear hl;go_wp2_with fail
      refine (fO fa _ (by rw[HFA.out];exact hr.1) hsf).mono ?_;rintro e w3 ⟨t1,rfl,ht1,hq3,-⟩;have hG3:=hG2.trans hq3;have hR3:=hR2.q hq3;have fz:=hR3.frozen;obtain⟨r0,r1,r2⟩:=hR3.cells;rw[HFA.out]at ht1;obtain⟨A5,n5,c5,rfl⟩:=ht1.form;go_wp2_with fail
      refine (gH false _ (dv f) _ ht1).mono ?_;rintro e w4 ⟨v5,rfl,hv5,hq4⟩;have hG4:=hG3.trans hq4;have hR4:=hR3.q hq4;clear fz r0 r1 r2;have fz:=hR4.frozen;obtain⟨r0,r1,r2⟩:=hR4.cells;obtain⟨B1,d1,B2,d2,rfl,-,-⟩:=hv5.form;have hv:=Nq.int (q:=mkQ false (dv f) 1) hv5 ((jK (by decide) (Nat.gcd_one_right _)).1) ((jK (by decide) (Nat.gcd_one_right _)).2);generalize (decide (0<dv f) && false)=s4 at*
      generalize dg W64 (dv f)=m1 at*
      generalize dg W64 0=m2 at*
      go_wp2_with fail
      obtain⟨z0,z1,z2,hvF,hqF⟩:=Nq.store hR4 hv hG4 (Nat.le_refl _);unfold put3 at z0 z1 z2 hvF hqF;refine rt3 (.int .i64 0) z0 z1 z2 ?_;have hres:bJ false f b false=((0:Int),(mkQ false (dv f) 1:Rat)):=aG9 hr (fun h=>by rcases h.2 with h|h<;>cases h) HLL.out (by rw[HBN.out];decide);rw[HP.out,hres];exact⟨_,rfl,hvF,hqF⟩
    ·have fz:=hR2.frozen;obtain⟨r0,r1,r2⟩:=hR2.cells;go_wp2_with fail
     have hv:=dR w2;obtain⟨z0,z1,z2,hvF,hqF⟩:=Nq.store hR2 hv hG2 (Nat.le_refl _);unfold put3 at z0 z1 z2 hvF hqF;refine rt3 (.int .i64 6) z0 z1 z2 ?_;have hres:bJ false f b true=((6:Int),(0:Rat)):=aDX hr HZ.out (.inr rfl);rw[HP.out,hres];exact⟨_,rfl,hvF,hqF⟩
   ·have fz:=hR2.frozen;obtain⟨r0,r1,r2⟩:=hR2.cells;go_wp2_with fail
    have hv:=dR w2;obtain⟨z0,z1,z2,hvF,hqF⟩:=Nq.store hR2 hv hG2 (Nat.le_refl _);unfold put3 at z0 z1 z2 hvF hqF;refine rt3 (.int .i64 6) z0 z1 z2 ?_;have hres:bJ true f b two=((6:Int),(0:Rat)):=aDX hr HZ.out (.inl rfl);rw[HP.out,hres];exact⟨_,rfl,hvF,hqF⟩
  ·have tz0:¬fa.toList=[48]:=fun h=>hz (TA.out.symm.trans h);have tc:(fa.toList == [48])=false:=beq_eq_false_iff_ne.2 tz0;have HZ:=hZ hz;clear hz;cases two
   ·have hbn:b=[]:=HB2.out rfl;have hfb0:¬(1000:Int)<(fb.size:Int):=(by rw[LB.out,hbn];decide);have HBN:=hZ hbn;clear hbn;by_cases hl:1000<f.length
    ·have hl2:(1000:Int)<(fa.size:Int):=(by rw[LA.out];omega);have HLL:=hZ hl;clear hl;have fz:=hR2.frozen;obtain⟨r0,r1,r2⟩:=hR2.cells;go_wp2_with fail
     have hv:=dR w2;obtain⟨z0,z1,z2,hvF,hqF⟩:=Nq.store hR2 hv hG2 (Nat.le_refl _);unfold put3 at z0 z1 z2 hvF hqF;refine rt3 (.int .i64 3) z0 z1 z2 ?_;have hres:bJ neg f b false=((3:Int),(0:Rat)):=vW (.inl HLL.out) hr (fun h=>HZ.out h.1) (fun h=>by cases h);rw[HP.out,hres];exact⟨_,rfl,hvF,hqF⟩
    ·have hl2:¬(1000:Int)<(fa.size:Int):=(by rw[LA.out];omega);have hsf:fa.size+100≤LIM:=(by rw[LA.out,aC];omega);have HLL:=hZ hl;clear hl;go_wp2_with fail
     refine (fO fa _ (by rw[HFA.out];exact hr.1) hsf).mono ?_;rintro e w3 ⟨t1,rfl,ht1,hq3,-⟩;have hG3:=hG2.trans hq3;have hR3:=hR2.q hq3;have fz:=hR3.frozen;obtain⟨r0,r1,r2⟩:=hR3.cells;rw[HFA.out]at ht1;obtain⟨A5,n5,c5,rfl⟩:=ht1.form;go_wp2_with fail
     refine (gH neg _ (dv f) _ ht1).mono ?_;rintro e w4 ⟨v5,rfl,hv5,hq4⟩;have hG4:=hG3.trans hq4;have hR4:=hR3.q hq4;clear fz r0 r1 r2;have fz:=hR4.frozen;obtain⟨r0,r1,r2⟩:=hR4.cells;obtain⟨B1,d1,B2,d2,rfl,-,-⟩:=hv5.form;have hv:=Nq.int (q:=mkQ neg (dv f) 1) hv5 ((jK (by decide) (Nat.gcd_one_right _)).1) ((jK (by decide) (Nat.gcd_one_right _)).2);generalize (decide (0<dv f) && neg)=s4 at*
     generalize dg W64 (dv f)=m1 at*
     generalize dg W64 0=m2 at*
     go_wp2_with fail
     obtain⟨z0,z1,z2,hvF,hqF⟩:=Nq.store hR4 hv hG4 (Nat.le_refl _);unfold put3 at z0 z1 z2 hvF hqF;refine rt3 (.int .i64 0) z0 z1 z2 ?_;have hres:bJ neg f b false=((0:Int),(mkQ neg (dv f) 1:Rat)):=aG9 hr (fun h=>HZ.out h.1) HLL.out (by rw[HBN.out];decide);rw[HP.out,hres];exact⟨_,rfl,hvF,hqF⟩
   ·go_wp2_with fail
    refine (aDW fb _).mono ?_;rintro e w3 ⟨rfl,hq3⟩;have hG3:=hG2.trans hq3;have hR3:=hR2.q hq3;rw[HFB.out];by_cases hr2:Row b
    ·rw[decide_eq_true hr2];by_cases hb0:b=[48]
     ·have tb0:fb.toList=[48]:=TB.out.trans hb0;have HB0:=hZ hb0;clear hb0;have fz:=hR3.frozen;obtain⟨r0,r1,r2⟩:=hR3.cells;go_wp2_with fail
      have hv:=dR w3;obtain⟨z0,z1,z2,hvF,hqF⟩:=Nq.store hR3 hv hG3 (Nat.le_refl _);unfold put3 at z0 z1 z2 hvF hqF;refine rt3 (.int .i64 6) z0 z1 z2 ?_;have hres:bJ neg f b true=((6:Int),(0:Rat)):=aCy hr (fun h=>HZ.out h.1) (.inr (.inl HB0.out));rw[HP.out,hres];exact⟨_,rfl,hvF,hqF⟩
     ·have tb0:¬fb.toList=[48]:=fun h=>hb0 (TB.out.symm.trans h);have tc0:(fb.toList == [48])=false:=beq_eq_false_iff_ne.2 tb0;by_cases hb1:b=[49]
      ·have tb1:fb.toList=[49]:=TB.out.trans hb1;have HB0:=hZ hb1;clear hb1 hb0 tb0;have fz:=hR3.frozen;obtain⟨r0,r1,r2⟩:=hR3.cells;go_wp2_with fail
       have hv:=dR w3;obtain⟨z0,z1,z2,hvF,hqF⟩:=Nq.store hR3 hv hG3 (Nat.le_refl _);unfold put3 at z0 z1 z2 hvF hqF;refine rt3 (.int .i64 6) z0 z1 z2 ?_;have hres:bJ neg f b true=((6:Int),(0:Rat)):=aCy hr (fun h=>HZ.out h.1) (.inr (.inr HB0.out));rw[HP.out,hres];exact⟨_,rfl,hvF,hqF⟩
      ·have tb1:¬fb.toList=[49]:=fun h=>hb1 (TB.out.symm.trans h);have tc1:(fb.toList == [49])=false:=beq_eq_false_iff_ne.2 tb1;have hok:Hid (¬(¬Row b∨b=[48]∨b=[49])):=fun h=>h.elim (fun h=>h hr2) (fun h=>h.elim hb0 hb1);have HB00:=hZ hb0;clear hb0 hb1;by_cases hl:1000<f.length
       ·have hl2:(1000:Int)<(fa.size:Int):=(by rw[LA.out];omega);have HLL:=hZ hl;clear hl;have fz:=hR3.frozen;obtain⟨r0,r1,r2⟩:=hR3.cells;go_wp2_with fail
        have hv:=dR w3;obtain⟨z0,z1,z2,hvF,hqF⟩:=Nq.store hR3 hv hG3 (Nat.le_refl _);unfold put3 at z0 z1 z2 hvF hqF;refine rt3 (.int .i64 3) z0 z1 z2 ?_;have hres:bJ neg f b true=((3:Int),(0:Rat)):=vW (.inl HLL.out) hr (fun h=>HZ.out h.1) (fun _=>hok.out);rw[HP.out,hres];exact⟨_,rfl,hvF,hqF⟩
       ·have hl2:¬(1000:Int)<(fa.size:Int):=(by rw[LA.out];omega);have hsf:fa.size+100≤LIM:=(by rw[LA.out,aC];omega);have HLL:=hZ hl;clear hl;by_cases hl3:1000<b.length
        ·have hl4:(1000:Int)<(fb.size:Int):=(by rw[LB.out];omega);have HL3:=hZ hl3;clear hl3;have fz:=hR3.frozen;obtain⟨r0,r1,r2⟩:=hR3.cells;go_wp2_with fail
         have hv:=dR w3;obtain⟨z0,z1,z2,hvF,hqF⟩:=Nq.store hR3 hv hG3 (Nat.le_refl _);unfold put3 at z0 z1 z2 hvF hqF;refine rt3 (.int .i64 3) z0 z1 z2 ?_;have hres:bJ neg f b true=((3:Int),(0:Rat)):=vW (.inr HL3.out) hr (fun h=>HZ.out h.1) (fun _=>hok.out);rw[HP.out,hres];exact⟨_,rfl,hvF,hqF⟩
        ·have hl4:¬(1000:Int)<(fb.size:Int):=(by rw[LB.out];omega);have hsb:fb.size+100≤LIM:=(by rw[LB.out,aC];omega);have HL3:=hZ hl3;clear hl3;go_wp2_with fail
         refine (fO fa _ (by rw[HFA.out];exact hr.1) hsf).mono ?_;rintro e w4 ⟨t1,rfl,ht1,hq4,-⟩;have hG4:=hG3.trans hq4;have hR4:=hR3.q hq4;rw[HFA.out]at ht1;obtain⟨A5,n5,c5,rfl⟩:=ht1.form;go_wp2_with fail
         refine (fO fb _ (by rw[HFB.out];exact hr2.1) hsb).mono ?_;rintro e w5 ⟨t2,rfl,ht2,hq5,-⟩;have hG5:=hG4.trans hq5;have hR5:=hR4.q hq5;rw[HFB.out]at ht2;obtain⟨A6,n6,c6,rfl⟩:=ht2.form;have d1:=aEp hr.1 (Nat.le_of_not_lt HLL.out);have d2:=aEp hr2.1 (Nat.le_of_not_lt HL3.out);have hp1:0<dv f:=Row.pos hr (HZ.out);have hp2:0<dv b:=Row.pos hr2 HB00.out;have hbd:8*(dg W64 (dv f)+dg W64 (dv b))+80≤LIM:=(by rw[aC];omega);clear d1 d2;go_wp2_with fail
         refine (uI (dv f) (dv b) _ _ _ (hT.q hG5) (ht1.q hq5) ht2 hp1 hp2 hbd).mono ?_;rintro e w6 ⟨t3,rfl,ht3,hq6,-⟩;have hG6:=hG5.trans hq6;have hR6:=hR5.q hq6;obtain⟨A7,n7,c7,rfl⟩:=ht3.form;go_wp2_with fail
         refine (vR _ _ _ ht3).mono ?_;rintro e w91 ⟨rfl,rfl⟩;by_cases hg:Nat.gcd (dv f) (dv b)=1
         ·rw[decide_eq_true hg];have HGC:=hZ hg;clear hg;go_wp2_with fail
          refine (kI neg _ _ (dv f) (dv b) _ ((ht1.q hq5).q hq6) (ht2.q hq6)).mono ?_;rintro e w7 ⟨v5,rfl,hv5,hq7⟩;have hG7:=hG6.trans hq7;have hR7:=hR6.q hq7;have fz:=hR7.frozen;obtain⟨r0,r1,r2⟩:=hR7.cells;obtain⟨B1,d1,B2,d2,rfl,-,-⟩:=hv5.form;have hv:=Nq.made (q:=mkQ neg (dv f) (dv b)) hv5 ((jK hp2 HGC.out).1) (fun _=>(jK hp2 HGC.out).2);generalize (decide (0<dv f) && neg)=s4 at*
          generalize dg W64 (if dv f=0 then 0 else bt (dv b))=m2 at*
          generalize dg W64 (dv f)=m1 at*
          go_wp2_with fail
          obtain⟨z0,z1,z2,hvF,hqF⟩:=Nq.store hR7 hv hG7 (Nat.le_refl _);unfold put3 at z0 z1 z2 hvF hqF;refine rt3 (.int .i64 0) z0 z1 z2 ?_;have hres:bJ neg f b true=((0:Int),(mkQ neg (dv f) (dv b):Rat)):=aLd hr (fun h=>HZ.out h.1) hok.out HLL.out HL3.out HGC.out;rw[HP.out,hres];exact⟨_,rfl,hvF,hqF⟩
         ·rw[decide_eq_false hg];have HGC:=hZ hg;clear hg;have fz:=hR6.frozen;obtain⟨r0,r1,r2⟩:=hR6.cells;go_wp2_with fail
          have hv:=dR w6;obtain⟨z0,z1,z2,hvF,hqF⟩:=Nq.store hR6 hv hG6 (Nat.le_refl _);unfold put3 at z0 z1 z2 hvF hqF;refine rt3 (.int .i64 6) z0 z1 z2 ?_;have hres:bJ neg f b true=((6:Int),(0:Rat)):=aNm hr (fun h=>HZ.out h.1) hok.out HLL.out HL3.out HGC.out;rw[HP.out,hres];exact⟨_,rfl,hvF,hqF⟩
    ·rw[decide_eq_false hr2];have fz:=hR3.frozen;obtain⟨r0,r1,r2⟩:=hR3.cells;go_wp2_with fail
     have hv:=dR w3;obtain⟨z0,z1,z2,hvF,hqF⟩:=Nq.store hR3 hv hG3 (Nat.le_refl _);unfold put3 at z0 z1 z2 hvF hqF;refine rt3 (.int .i64 6) z0 z1 z2 ?_;have hres:bJ neg f b true=((6:Int),(0:Rat)):=aCy hr (fun h=>HZ.out h.1) (.inl hr2);rw[HP.out,hres];exact⟨_,rfl,hvF,hqF⟩
 ·rw[decide_eq_false hr];have fz:=hR2.frozen;obtain⟨r0,r1,r2⟩:=hR2.cells;go_wp2_with fail
  have hv:=dR w2;obtain⟨z0,z1,z2,hvF,hqF⟩:=Nq.store hR2 hv hG2 (Nat.le_refl _);unfold put3 at z0 z1 z2 hvF hqF;refine rt3 (.int .i64 6) z0 z1 z2 ?_;have hres:bJ neg f b two=((6:Int),(0:Rat)):=if_pos (.inl hr);rw[HP.out,hres];exact⟨_,rfl,hvF,hqF⟩
def eU(k:Nat):ByteArray:=⟨(letter k).toArray⟩
def dX(k:Nat):Int:=3*(k:Int)-15
def aOQ(k:Nat):Value:=.agg #[.string (eU k),.int .i64 (dX k)]
def iP:Array Value:=#[.string (eU 0),.int .i64 (dX 0),.string (eU 1),.int .i64 (dX 1),.string (eU 2),.int .i64 (dX 2),.string (eU 3),.int .i64 (dX 3),.string (eU 4),.int .i64 (dX 4),
 .string (eU 5),.int .i64 (dX 5),.string (eU 6),.int .i64 (dX 6),.string (eU 7),.int .i64 (dX 7),.string (eU 8),.int .i64 (dX 8),.string (eU 9),.int .i64 (dX 9)]
def Px(w:World):Prop:=∃t fr,w.heap[(6:Nat)]? =some (.cells iP t fr)
theorem Px.q{w w':World}(h:Px w)(hq:Q w w'):Px w':=by
 obtain⟨t,fr,h⟩:=h;have hlt:(6:Nat)<w.heap.size:=by
  rcases Nat.lt_or_ge (6:Nat) w.heap.size with hlt|hge
  ·exact hlt
  ·rw[Array.getElem?_eq_none hge]at h;cases h
 exact⟨t,fr,(hq.heap hlt).trans h⟩
theorem aLe:(Tryz.prog.info? 469).map (·.size)=some iP.size:=by kernel_rfl
theorem aCz(k:Nat)(hk:k<10)(w:World):(Instr.index 469 (.agg iP) (.int .i64 (k:Int))).run Tryz.prog w=.ok (aOQ k) w:=by
 rcases (by omega:k=0∨k=1∨k=2∨k=3∨k=4∨k=5∨k=6∨k=7∨k=8∨k=9) with h|h|h|h|h|h|h|h|h|h
 ·rw[h];kernel_rfl
 ·rw[h];kernel_rfl
 ·rw[h];kernel_rfl
 ·rw[h];kernel_rfl
 ·rw[h];kernel_rfl
 ·rw[h];kernel_rfl
 ·rw[h];kernel_rfl
 ·rw[h];kernel_rfl
 ·rw[h];kernel_rfl
 ·rw[h];kernel_rfl
theorem aHa{a:Value}{x y:Int}(h:x=y):Ending.returned (.tuple #[a,.int .i64 x])=.returned (.tuple #[a,.int .i64 y]):=by rw[h]
def Sf(l:List UInt8)(j:Nat):Prop:=j≠5∧Lib.hasSuffix l (letter j)=true
theorem aDZ(l:List UInt8)(c:UInt8):Lib.hasSuffix l [c]=true↔l.getLast? =some c:=by
 unfold Lib.hasSuffix;rw[List.isSuffixOf_iff_suffix];constructor
 ·rintro⟨t,rfl⟩;simp
 ·intro h;obtain⟨t,ht⟩:=List.getLast?_eq_some_iff.1 h;exact⟨t,ht.symm⟩
theorem aIW{l:List UInt8}{c:UInt8}(h:Lib.hasSuffix l [c]=true):Lib.trimSuffix l [c]=l.dropLast:=by
 unfold Lib.trimSuffix;rw[if_pos h,List.dropLast_eq_take];rfl
theorem aFi{c:UInt8}{p:Int}(h:pfx c=some p):∃k,k<10∧k≠5∧letter k=[c]∧p=dX k:=by
 unfold pfx at h;split at h
 ·cases h;rename_i e;subst e;exact⟨0,by decide,by decide,rfl,rfl⟩
 split at h
 ·cases h;rename_i e;subst e;exact⟨1,by decide,by decide,rfl,rfl⟩
 split at h
 ·cases h;rename_i e;subst e;exact⟨2,by decide,by decide,rfl,rfl⟩
 split at h
 ·cases h;rename_i e;subst e;exact⟨3,by decide,by decide,rfl,rfl⟩
 split at h
 ·cases h;rename_i e;subst e;exact⟨4,by decide,by decide,rfl,rfl⟩
 split at h
 ·cases h;rename_i e;subst e;exact⟨6,by decide,by decide,rfl,rfl⟩
 split at h
 ·cases h;rename_i e;subst e;exact⟨7,by decide,by decide,rfl,rfl⟩
 split at h
 ·cases h;rename_i e;subst e;exact⟨8,by decide,by decide,rfl,rfl⟩
 split at h
 ·cases h;rename_i e;subst e;exact⟨9,by decide,by decide,rfl,rfl⟩
 ·cases h
theorem aHb{l:List UInt8}(h:∀j,j<10→¬Sf l j):iT l=(l,0):=by
 unfold iT;cases hl:l.getLast? with
 |none=>rfl
 |some c=>
  cases hp:pfx c with
  |none=>simp only[hp]
  |some p=>
   obtain⟨k,hk,h5,hc,-⟩:=aFi hp;exact absurd ⟨h5,by rw[hc];exact (aDZ l c).2 hl⟩ (h k hk)
theorem yV{k:Nat}(hk:k<10)(h5:k≠5):∃c,letter k=[c]∧pfx c=some (dX k):=by
 rcases (by omega:k=0∨k=1∨k=2∨k=3∨k=4∨k=6∨k=7∨k=8∨k=9) with rfl|rfl|rfl|rfl|rfl|rfl|rfl|rfl|rfl
 ·exact⟨102,rfl,rfl⟩
 ·exact⟨112,rfl,rfl⟩
 ·exact⟨110,rfl,rfl⟩
 ·exact⟨117,rfl,rfl⟩
 ·exact⟨109,rfl,rfl⟩
 ·exact⟨107,rfl,rfl⟩
 ·exact⟨77,rfl,rfl⟩
 ·exact⟨71,rfl,rfl⟩
 ·exact⟨84,rfl,rfl⟩
theorem aHc{l:List UInt8}{k:Nat}(hk:k<10)(h:Sf l k):iT l=(Lib.trimSuffix l (letter k),dX k):=by
 obtain⟨c,hc,hp⟩:=yV hk h.1;have h2:=h.2;rw[hc]at h2⊢;rw[aIW h2];unfold iT;rw[(aDZ l c).1 h2];simp only[hp]
theorem aD0{k:Nat}(hk:k<10)(h5:k≠5):((eU k).toList == [])=false:=by
 obtain⟨c,hc,-⟩:=yV hk h5;rw[ByteArray.toList_eq];have:(eU k).data.toList=[c]:=hc;rw[this];rfl
def aLf(l:List UInt8)(w:World)(e:Ending)(w':World):Prop:=∃a:ByteArray,e=.returned (.tuple #[.string a,.int .i64 (iT l).2])∧a.data.toList=(iT l).1∧Q w w'
theorem aDb(s:ByteArray)(w:World)(hp:Px w)(hs:s.size≤9223372036854775806):Calls Tryz.prog 415 #[.string s] w (aLf s.data.toList w):=by
 obtain⟨t,fr,hp⟩:=hp;go_enter Tryz.func415,Tryz.ntmps415
 go_wp2_with (refine wpList_load_row rfl 469 (.global 6) rfl 6 rfl t iP fr _ hp Tryz.underlying469 rfl aLe ?_)
 clear hp;go_loopw [9] (fun i wr=>∃k:Nat,k≤10∧i=.int .i64 (k:Int)∧(∀j,j<k→¬Sf s.data.toList j)∧Q w wr) (fun i _=>10-(intOf i).toNat)
 case atStart=>exact⟨0,Nat.zero_le _,rfl,fun j hj=>absurd hj (Nat.not_lt_zero j),Q.refl _⟩
 case round=>
  obtain⟨k,hk,rfl,hno,hq⟩:=hrel;by_cases hlt:k<10
  ·have hix:=aCz k hlt;obtain⟨pl,hpl⟩:∃pl,eU k=pl:=⟨_,rfl⟩
   obtain⟨pp,hpp⟩:∃pp,dX k=pp:=⟨_,rfl⟩
   have hix2:∀w,(Instr.index 469 (.agg iP) (.int .i64 (k:Int))).run Tryz.prog w=.ok (.agg #[.string pl,.int .i64 pp]) w:=fun w=>by
    rw[aCz k hlt w,←hpl,←hpp];rfl
   have HNO:=hZ hno;have HPL:=hZ hpl;have HPP:=hZ hpp;clear hix hno hpl hpp;have hqq:=hq.alloc (.cells #[.string pl,.int .i64 pp] 468);go_wp2_with fail
   refine (Tryz.strings_CutSuffix s pl _ (by omega)).mono ?_;rintro e w1 ⟨rfl,rfl⟩;have hrel:Lib.hasSuffix s.data.toList pl.data.toList=Lib.hasSuffix s.data.toList (letter k):=(by rw[←HPL.out];rfl);have hrel2:Lib.trimSuffix s.data.toList pl.data.toList=Lib.trimSuffix s.data.toList (letter k):=(by rw[←HPL.out];rfl);rw[hrel,hrel2];clear hrel hrel2;obtain⟨ta,hta⟩:∃ta:ByteArray,⟨(Lib.trimSuffix s.data.toList (letter k)).toArray⟩=ta:=⟨_,rfl⟩
   rw[hta];have HTA:=hZ hta;clear hta;by_cases hsf:Lib.hasSuffix s.data.toList (letter k)=true
   ·rw[hsf];by_cases h5:k=5
    ·have hpl5:(pl.toList == [])=true:=(by rw[←HPL.out,h5,ByteArray.toList_eq];rfl);have hpl6:pl.toList=[]:=(by rw[←HPL.out,h5,ByteArray.toList_eq];rfl);have H5:=hZ h5;have HSF:=hZ hsf;clear h5 hsf;go_wp2_with fail
     go_roundw
     case rel=>exact⟨k+1,by omega,by go_num,by
      intro j hj hS;rcases (by omega:j<k∨j=k) with h|h
      ·exact HNO.out j h hS
      ·subst h;exact hS.1 H5.out,hqq⟩
     case measure=>simp[intOf];omega
    ·have hpl5:(pl.toList == [])=false:=(by rw[←HPL.out];exact aD0 hlt h5);have hpl6:¬pl.toList=[]:=(by rw[←HPL.out];exact ne_of_beq_false (aD0 hlt h5));have hres:=aHc hlt (l:=s.data.toList) ⟨h5,hsf⟩;have HR:=hZ hres;have HSF:=hZ hsf;clear hres h5 hsf;go_wp2_with fail
     go_quiet (fail)
     go_wp2_with fail
     go_ret2
     exact⟨ta,aHa (by rw[HR.out,←HPP.out]),by rw[HR.out,←HTA.out],hqq.drewN _⟩
   ·have hsf2:Lib.hasSuffix s.data.toList (letter k)=false:=(by simpa using hsf);rw[hsf2];have HSF:=hZ hsf;clear hsf hsf2;go_wp2_with fail
    go_roundw
    case rel=>exact⟨k+1,by omega,by go_num,by
     intro j hj hS;rcases (by omega:j<k∨j=k) with h|h
     ·exact HNO.out j h hS
     ·subst h;exact HSF.out hS.2,hqq⟩
    case measure=>simp[intOf];omega
  ·have hk10:k=10:=(by omega);have hres:=aHb (l:=s.data.toList) (fun j hj=>hno j (by omega));have HR:=hZ hres;clear hres hno;go_wp2_with fail
   go_ret2
   exact⟨s,aHa (by rw[HR.out]),by rw[HR.out],hq⟩
theorem yX{neg two:Bool}{f b:List UInt8}{p:Int}(h:¬(¬kR f∨(two=true∧¬kR b)))(hl:400<f.length+b.length):jD neg f b two p=(3,0):=by
 unfold jD;rw[if_neg h,if_pos hl]
theorem aCA{neg two:Bool}{f b:List UInt8}{p:Int}(h:¬(¬kR f∨(two=true∧¬kR b)))(hl:¬400<f.length+b.length):jD neg f b two p=(0,sgQ neg ((dv (f++b):Nat):Rat)*dJ (p-b.length)):=by
 unfold jD;rw[if_neg h,if_neg hl]
theorem aCB(l:List UInt8):0≤Lib.indexByte l 47↔47∈l:=by
 have h1:=Lib.indexByte_ge l 47;constructor
 ·intro h;obtain⟨k,hk⟩:=Int.eq_ofNat_of_zero_le h;exact List.mem_of_getElem? (Lib.indexByte_some hk).1
 ·intro hm;rcases (by omega:Lib.indexByte l 47=-1∨0≤Lib.indexByte l 47) with h|h
  ·obtain⟨j,hj,hj2⟩:=List.getElem_of_mem hm;exact absurd (by rw[List.getElem?_eq_getElem hj,hj2]) (Lib.indexByte_none h j)
  ·exact h
theorem aIX(l:List UInt8):(iT l).1.length≤l.length:=by
 unfold iT;split
 ·split
  ·show l.dropLast.length≤_;rw[List.length_dropLast];omega
  ·exact Nat.le_refl _
 ·exact Nat.le_refl _
theorem aIY(c:UInt8)(l:List UInt8):(fF c l).length+(aft c l).length≤l.length:=by
 rcases aBj c l with⟨-,h1,h2⟩|⟨-,h⟩
 ·rw[h1,h2];simp
 ·have:=congrArg List.length h;rw[List.length_append,List.length_cons]at this;omega
theorem pE(s:Bool)(n:Nat):(sgQ s ((n:Nat):Rat)).num=sg s n∧(sgQ s ((n:Nat):Rat)).den=1:=by
 cases s
 ·exact⟨Rat.num_natCast _,Rat.den_natCast _⟩
 ·unfold sgQ sg;rw[if_pos rfl,if_pos rfl,Rat.neg_num,Rat.neg_den];exact⟨by rw[Rat.num_natCast],Rat.den_natCast _⟩
theorem aD1(s:Bool)(l:List UInt8)(h:bP l)(hl:l.length≤400):sz (sgQ s ((dv l:Nat):Rat))≤401:=by
 have h1:=aLO (dv l);have h2:=aEp h hl;unfold sgQ;split
 ·rw[xI];omega
 ·omega
theorem aNn(s:ByteArray)(w:World)(hT:Tb w)(hPx:Px w)(hs:s.size≤9223372036854775806):Calls Tryz.prog 387 #[.string s] w fun e w'=>∃r,e=.returned (.tuple #[r,.int .i64 (uV s.data.toList).1])∧Nq w' r (uV s.data.toList).2∧Q w w':=by
 obtain⟨w0,hW,hG0,hR0⟩:∃W,w.alloc (.cells #[.bool false,.slice none 0 0,.slice none 0 0] 51)=W∧Q w W∧Nb W w.heap.size false (.slice none 0 0) (.slice none 0 0):=⟨_,rfl,(Q.refl _).alloc _,Nb.new w _ _ _⟩
 by_cases h47:47∈s.data.toList
 ·have hP:uV s.data.toList=lM s.data.toList:=if_pos h47;have HP:=hZ hP;clear hP;have hix:=(aCB s.data.toList).2 h47;have HIX:=hZ hix;clear hix h47;obtain⟨er,her⟩:∃er,(lM s.data.toList).1=er:=⟨_,rfl⟩
  have HER:=hZ her;clear her;go_enter Tryz.func387,Tryz.ntmps387
  go_wp2_with fail
  clear hW;refine (Tryz.strings_Contains_one s 47 _).mono ?_;rintro e w90 ⟨rfl,rfl⟩;rw[decide_eq_true HIX.out];go_wp2_with fail
  refine (aDY s _ (hT.q hG0) hs).mono ?_;rintro e w1 ⟨r,rfl,hv,hq1⟩;have hG1:=hG0.trans hq1;have hR1:=hR0.q hq1;have fz:=hR1.frozen;obtain⟨r0,r1,r2⟩:=hR1.cells;rw[HER.out];obtain⟨s6,B1,m1,d1,B2,m2,d2,rfl,-⟩:=hv.form;go_wp2_with fail
  obtain⟨z0,z1,z2,hvF,hqF⟩:=Nq.store hR1 hv hG1 (Nat.le_refl _);unfold put3 at z0 z1 z2 hvF hqF;refine rt3 (.int .i64 er) z0 z1 z2 ?_;rw[HP.out,HER.out];exact⟨_,rfl,hvF,hqF⟩
 ·have HIX:Hid (decide (0≤Lib.indexByte s.data.toList 47)=false):=decide_eq_false (fun h=>h47 ((aCB s.data.toList).1 h));obtain⟨neg,hneg⟩:∃neg,lD s.data.toList=neg:=⟨_,rfl⟩
  obtain⟨r,hr⟩:∃r,(iT (unsigned s.data.toList)).1=r:=⟨_,rfl⟩
  obtain⟨p,hp⟩:∃p,(iT (unsigned s.data.toList)).2=p:=⟨_,rfl⟩
  have hpl:=aJ5 (unsigned s.data.toList);rw[hp]at hpl;obtain⟨two,htwo⟩:∃two,decide (46∈r)=two:=⟨_,rfl⟩
  obtain⟨f,hf⟩:∃f,fF 46 r=f:=⟨_,rfl⟩
  obtain⟨b,hb⟩:∃b,aft 46 r=b:=⟨_,rfl⟩
  have hb2:two=false→b=[]:=fun h=>(by rw[←hb];exact (wK (of_decide_eq_false (htwo.trans h))).2);have hP:uV s.data.toList=jD neg f b two p:=(by unfold uV;rw[if_neg h47,hneg,hr,hp,htwo,hf,hb]);have HP:=hZ hP;clear hP;have HN:=hZ hneg;clear hneg;have HRR:=hZ hr;clear hr;have HPP:=hZ hp;clear hp;have HT2:=hZ htwo;clear htwo;have HF:=hZ hf;clear hf;have HBb:=hZ hb;clear hb;have HB2:=hZ hb2;clear hb2;have H47:=hZ h47;clear h47;have hpl1:-15≤p:=(by omega);have hpl2:p≤15:=(by omega);clear hpl;go_enter Tryz.func387,Tryz.ntmps387
  go_wp2_with fail
  clear hW;refine (Tryz.strings_Contains_one s 47 _).mono ?_;rintro e w90 ⟨rfl,rfl⟩;rw[HIX.out];go_wp2_with fail
  refine (uM s _).mono ?_;rintro e w91 ⟨a,rfl,ha,hsz,rfl⟩;rw[HN.out];have HA:=hZ ha;clear ha;go_wp2_with fail
  refine (aDb a _ (hPx.q hG0) (by omega)).mono ?_;rintro e w1 ⟨c,rfl,hc,hq1⟩;have hG1:=hG0.trans hq1;have hR1:=hR0.q hq1;rw[HA.out]at hc⊢;rw[HPP.out];rw[HRR.out]at hc;have hcs:c.size≤9223372036854775806:=(by have h1:=aIX (unsigned s.data.toList);rw[HRR.out,←hc,←HA.out,←Lib.size_eq,←Lib.size_eq]at h1;omega);have HC:=hZ hc;clear hc;go_wp2_with fail
  refine (aFf c 46 _ hcs).mono ?_;rintro e w2 ⟨fa,fb,rfl,hfa,hfb,hq2⟩;have hG2:=hG1.trans hq2;have hR2:=hR1.q hq2;rw[HC.out]at hfa hfb⊢;rw[HT2.out];rw[HF.out]at hfa;rw[HBb.out]at hfb;have la:fa.size=f.length:=(by rw[Lib.size_eq,hfa]);have lb:fb.size=b.length:=(by rw[Lib.size_eq,hfb]);have lc:fa.size+fb.size≤c.size:=(by have h1:=aIY 46 r;rw[HF.out,HBb.out]at h1;rw[la,lb,Lib.size_eq,HC.out];exact h1);have HFA:=hZ hfa;have HFB:=hZ hfb;have LA:=hZ la;have LB:=hZ lb;clear hfa hfb la lb;go_wp2_with fail
  refine (lG fa _).mono ?_;rintro e w3 ⟨rfl,hq3⟩;have hG3:=hG2.trans hq3;have hR3:=hR2.q hq3;rw[HFA.out];by_cases hd:kR f
  ·rw[show lF f=true from decide_eq_true hd];cases two
   ·have hok:Hid (¬(¬kR f∨(false=true∧¬kR b))):=fun h=>h.elim (fun h=>h hd) (fun h=>by cases h.1);have hAb:bP b:=(by rw[HB2.out rfl];intro c hc;simp at hc);have HAB:Hid (bP (f++b)):=fun c hc=>(List.mem_append.1 hc).elim (hd.1 c) (hAb c);clear hAb;by_cases hl:400<f.length+b.length
    ·have hl2:(400:Int)<(fa.size:Int)+(fb.size:Int):=(by rw[LA.out,LB.out];omega);have HLL:=hZ hl;clear hl;have fz:=hR3.frozen;obtain⟨r0,r1,r2⟩:=hR3.cells;go_wp2_with fail
     have hv:=dR w3;have hres:jD neg f b false p=((3:Int),(0:Rat)):=yX (by have h:=hok.out;simp at h⊢;exact h) HLL.out;obtain⟨z0,z1,z2,hvF,hqF⟩:=Nq.store hR3 hv hG3 (Nat.le_refl _);unfold put3 at z0 z1 z2 hvF hqF;refine rt3 (.int .i64 3) z0 z1 z2 ?_;rw[HP.out,hres];exact⟨_,rfl,hvF,hqF⟩
    ·have hl2:¬(400:Int)<(fa.size:Int)+(fb.size:Int):=(by rw[LA.out,LB.out];omega);have hsa:fa.size≤400:=(by rw[LA.out];omega);have hsb:fb.size≤400:=(by rw[LB.out];omega);have HLL:=hZ hl;clear hl;have hcat:(fa++fb).data.toList=f++b:=(by rw[kZ,HFA.out,HFB.out]);have hcs2:(fa++fb).size+100≤LIM:=(by rw[ByteArray.size_append,aC];omega);have HCAT:=hZ hcat;clear hcat;go_wp2_with fail
     refine (fO (fa++fb) _ (by rw[HCAT.out];exact HAB.out) hcs2).mono ?_;rintro e w4 ⟨t1,rfl,ht1,hq4,-⟩;have hG4:=hG3.trans hq4;have hR4:=hR3.q hq4;rw[HCAT.out]at ht1;obtain⟨A5,n5,c5,rfl⟩:=ht1.form;go_wp2_with fail
     refine (gH neg _ (dv (f++b)) _ ht1).mono ?_;rintro e w5 ⟨v5,rfl,hv5,hq5⟩;have hG5:=hG4.trans hq5;have hR5:=hR4.q hq5;obtain⟨B1,d1,B2,d2,rfl,-,-⟩:=hv5.form;have hv:=Nq.int (q:=sgQ neg ((dv (f++b):Nat):Rat)) hv5 (pE neg _).1 (pE neg _).2;generalize (decide (0<dv (f++b)) && neg)=s4 at*
     generalize dg W64 (dv (f++b))=m1 at*
     generalize dg W64 0=m2 at*
     have hqd:Q w5 (w5.alloc (.cells #[.bool s4,.slice B1 m1 d1,.slice B2 m2 d2] 51)):=(Q.refl _).alloc _;have hE:Nb (w5.alloc (.cells #[.bool s4,.slice B1 m1 d1,.slice B2 m2 d2] 51)) w5.heap.size s4 (.slice B1 m1 d1) (.slice B2 m2 d2):=Nb.new _ _ _ _;have neE:w5.heap.size≠w.heap.size:=(by have:=hR5.lt;omega);have tw1:IntKind.i64.wrap (p-(fb.size:Int))=p-(fb.size:Int):=IntWalk.i64_in _ (by omega);have hz2:=aD1 neg (f++b) HAB.out (show (f++b).length≤400 by rw[List.length_append];exact Nat.le_of_not_lt HLL.out);have hz3:=aFX (p-(fb.size:Int));have hB:16*(sz (sgQ neg ((dv (f++b):Nat):Rat))+sz (dJ (p-(fb.size:Int))))+100≤LIM:=(by rw[aC];omega);clear hz2 hz3;go_wp2_with fail
     generalize hwd:w5.alloc (.cells #[.bool s4,.slice B1 m1 d1,.slice B2 m2 d2] 51)=w6 at*
     clear hwd;have hG6:=hG5.trans hqd;have hR6:=hR5.q hqd;have hE6:=hE;have hv6:=hv.q hqd;clear hv;obtain⟨e0,e1,e2⟩:=hE6.cells
     go_region_held3 (fun W=>W.cell? ⟨w5.heap.size,0,none⟩=some (.bool s4)∧W.cell? ⟨w5.heap.size,1,none⟩=some (.slice B1 m1 d1)∧W.cell? ⟨w5.heap.size,2,none⟩=some (.slice B2 m2 d2)) (first|exact⟨e0,e1,e2⟩|exact⟨by assumption,by assumption,by assumption⟩|exact⟨(vV neE).trans (by assumption),(vV neE).trans (by assumption),(vV neE).trans (by assumption)⟩|go_keep) (first
      |(go_at_call 74;refine (aFe _ _ (sgQ neg ((dv (f++b):Nat):Rat)) (dJ (p-(fb.size:Int))) _ (hT.q hG7) (hv6.q hq7) htv hB).mono ?_;rintro e w8 ⟨v9,rfl,hv,hq8⟩;have hG8:=hG7.trans hq8;have hR8:=hR7.q hq8;have hE8:=hE7.q hq8;obtain⟨e0,e1,e2⟩:=hE8.cells;have fz:=hR8.frozen;obtain⟨r0,r1,r2⟩:=hR8.cells;obtain⟨s8,C1,l1,g1,C2,l2,g2,rfl,-⟩:=hv.form)
      |(go_at_call 416;refine (aG8 (p-(fb.size:Int)) _ (by omega)).mono ?_;rintro e w7 ⟨tv,rfl,htv,hq7d⟩;have hq7:Q w6 w7:=(Q.refl w6).drew.trans hq7d;have hG7:=hG6.trans hq7;have hR7:=hR6.q hq7;have hE7:=hE6.q hq7;obtain⟨e0,e1,e2⟩:=hE7.cells;obtain⟨s7,A7,n7,c7,A8,n8,c8,rfl,-⟩:=htv.form))
     all_goals
      go_wp2_with fail
      have hres:jD neg f b false p=((0:Int),sgQ neg ((dv (f++b):Nat):Rat)*dJ (p-(fb.size:Int))):=(by rw[LB.out];exact aCA (by have h:=hok.out;simp at h⊢;exact h) HLL.out);obtain⟨z0,z1,z2,hvF,hqF⟩:=Nq.store hR8 hv hG8 (Nat.le_refl _);unfold put3 at z0 z1 z2 hvF hqF;refine rt3 (.int .i64 0) z0 z1 z2 ?_;rw[HP.out,hres];exact⟨_,rfl,hvF,hqF⟩
   ·go_wp2_with fail
    refine (lG fb _).mono ?_;rintro e w4 ⟨rfl,hq4⟩;have hG4:=hG3.trans hq4;have hR4:=hR3.q hq4;rw[HFB.out];by_cases hd2:kR b
    ·rw[show lF b=true from decide_eq_true hd2];have hok:Hid (¬(¬kR f∨(true=true∧¬kR b))):=fun h=>h.elim (fun h=>h hd) (fun h=>h.2 hd2);have hAb:bP b:=hd2.1;have HAB:Hid (bP (f++b)):=fun c hc=>(List.mem_append.1 hc).elim (hd.1 c) (hAb c);clear hAb;by_cases hl:400<f.length+b.length
     ·have hl2:(400:Int)<(fa.size:Int)+(fb.size:Int):=(by rw[LA.out,LB.out];omega);have HLL:=hZ hl;clear hl;have fz:=hR4.frozen;obtain⟨r0,r1,r2⟩:=hR4.cells;go_wp2_with fail
      have hv:=dR w4;have hres:jD neg f b true p=((3:Int),(0:Rat)):=yX (by have h:=hok.out;simp at h⊢;exact h) HLL.out;obtain⟨z0,z1,z2,hvF,hqF⟩:=Nq.store hR4 hv hG4 (Nat.le_refl _);unfold put3 at z0 z1 z2 hvF hqF;refine rt3 (.int .i64 3) z0 z1 z2 ?_;rw[HP.out,hres];exact⟨_,rfl,hvF,hqF⟩
     ·have hl2:¬(400:Int)<(fa.size:Int)+(fb.size:Int):=(by rw[LA.out,LB.out];omega);have hsa:fa.size≤400:=(by rw[LA.out];omega);have hsb:fb.size≤400:=(by rw[LB.out];omega);have HLL:=hZ hl;clear hl;have hcat:(fa++fb).data.toList=f++b:=(by rw[kZ,HFA.out,HFB.out]);have hcs2:(fa++fb).size+100≤LIM:=(by rw[ByteArray.size_append,aC];omega);have HCAT:=hZ hcat;clear hcat;go_wp2_with fail
      refine (fO (fa++fb) _ (by rw[HCAT.out];exact HAB.out) hcs2).mono ?_;rintro e w5 ⟨t1,rfl,ht1,hq5,-⟩;have hG5:=hG4.trans hq5;have hR5:=hR4.q hq5;rw[HCAT.out]at ht1;obtain⟨A5,n5,c5,rfl⟩:=ht1.form;go_wp2_with fail
      refine (gH neg _ (dv (f++b)) _ ht1).mono ?_;rintro e w6 ⟨v5,rfl,hv5,hq6⟩;have hG6:=hG5.trans hq6;have hR6:=hR5.q hq6;obtain⟨B1,d1,B2,d2,rfl,-,-⟩:=hv5.form;have hv:=Nq.int (q:=sgQ neg ((dv (f++b):Nat):Rat)) hv5 (pE neg _).1 (pE neg _).2;generalize (decide (0<dv (f++b)) && neg)=s4 at*
      generalize dg W64 (dv (f++b))=m1 at*
      generalize dg W64 0=m2 at*
      have hqd:Q w6 (w6.alloc (.cells #[.bool s4,.slice B1 m1 d1,.slice B2 m2 d2] 51)):=(Q.refl _).alloc _;have hE:Nb (w6.alloc (.cells #[.bool s4,.slice B1 m1 d1,.slice B2 m2 d2] 51)) w6.heap.size s4 (.slice B1 m1 d1) (.slice B2 m2 d2):=Nb.new _ _ _ _;have neE:w6.heap.size≠w.heap.size:=(by have:=hR6.lt;omega);have tw1:IntKind.i64.wrap (p-(fb.size:Int))=p-(fb.size:Int):=IntWalk.i64_in _ (by omega);have hz2:=aD1 neg (f++b) HAB.out (show (f++b).length≤400 by rw[List.length_append];exact Nat.le_of_not_lt HLL.out);have hz3:=aFX (p-(fb.size:Int));have hB:16*(sz (sgQ neg ((dv (f++b):Nat):Rat))+sz (dJ (p-(fb.size:Int))))+100≤LIM:=(by rw[aC];omega);clear hz2 hz3;go_wp2_with fail
      generalize hwd:w6.alloc (.cells #[.bool s4,.slice B1 m1 d1,.slice B2 m2 d2] 51)=w7 at*
      clear hwd;have hG7:=hG6.trans hqd;have hR7:=hR6.q hqd;have hE7:=hE;have hv6:=hv.q hqd;clear hv;obtain⟨e0,e1,e2⟩:=hE7.cells
      go_region_held3 (fun W=>W.cell? ⟨w6.heap.size,0,none⟩=some (.bool s4)∧W.cell? ⟨w6.heap.size,1,none⟩=some (.slice B1 m1 d1)∧W.cell? ⟨w6.heap.size,2,none⟩=some (.slice B2 m2 d2)) (first|exact⟨e0,e1,e2⟩|exact⟨by assumption,by assumption,by assumption⟩|exact⟨(vV neE).trans (by assumption),(vV neE).trans (by assumption),(vV neE).trans (by assumption)⟩|go_keep) (first
       |(go_at_call 74;refine (aFe _ _ (sgQ neg ((dv (f++b):Nat):Rat)) (dJ (p-(fb.size:Int))) _ (hT.q hG8) (hv6.q hq8) htv hB).mono ?_;rintro e w9 ⟨v9,rfl,hv,hq9⟩;have hG9:=hG8.trans hq9;have hR9:=hR8.q hq9;have hE9:=hE8.q hq9;obtain⟨e0,e1,e2⟩:=hE9.cells;have fz:=hR9.frozen;obtain⟨r0,r1,r2⟩:=hR9.cells;obtain⟨s8,C1,l1,g1,C2,l2,g2,rfl,-⟩:=hv.form)
       |(go_at_call 416;refine (aG8 (p-(fb.size:Int)) _ (by omega)).mono ?_;rintro e w8 ⟨tv,rfl,htv,hq8d⟩;have hq8:Q w7 w8:=(Q.refl w7).drew.trans hq8d;have hG8:=hG7.trans hq8;have hR8:=hR7.q hq8;have hE8:=hE7.q hq8;obtain⟨e0,e1,e2⟩:=hE8.cells;obtain⟨s7,A7,n7,c7,A8,n8,c8,rfl,-⟩:=htv.form))
      all_goals
       go_wp2_with fail
       have hres:jD neg f b true p=((0:Int),sgQ neg ((dv (f++b):Nat):Rat)*dJ (p-(fb.size:Int))):=(by rw[LB.out];exact aCA (by have h:=hok.out;simp at h⊢;exact h) HLL.out);obtain⟨z0,z1,z2,hvF,hqF⟩:=Nq.store hR9 hv hG9 (Nat.le_refl _);unfold put3 at z0 z1 z2 hvF hqF;refine rt3 (.int .i64 0) z0 z1 z2 ?_;rw[HP.out,hres];exact⟨_,rfl,hvF,hqF⟩
    ·rw[show lF b=false from decide_eq_false hd2];have fz:=hR4.frozen;obtain⟨r0,r1,r2⟩:=hR4.cells;go_wp2_with fail
     have hv:=dR w4;have hres:jD neg f b true p=((6:Int),(0:Rat)):=if_pos (.inr ⟨rfl,hd2⟩);obtain⟨z0,z1,z2,hvF,hqF⟩:=Nq.store hR4 hv hG4 (Nat.le_refl _);unfold put3 at z0 z1 z2 hvF hqF;refine rt3 (.int .i64 6) z0 z1 z2 ?_;rw[HP.out,hres];exact⟨_,rfl,hvF,hqF⟩
  ·rw[show lF f=false from decide_eq_false hd];have fz:=hR3.frozen;obtain⟨r0,r1,r2⟩:=hR3.cells;go_wp2_with fail
   have hv:=dR w3;have hres:jD neg f b two p=((6:Int),(0:Rat)):=if_pos (.inl hd);obtain⟨z0,z1,z2,hvF,hqF⟩:=Nq.store hR3 hv hG3 (Nat.le_refl _);unfold put3 at z0 z1 z2 hvF hqF;refine rt3 (.int .i64 6) z0 z1 z2 ?_;rw[HP.out,hres];exact⟨_,rfl,hvF,hqF⟩
end
namespace E
open Go
open Ma Me
noncomputable section
def aIZ{α:Type}(x:Rat)(k:List SV→α):α:=Rat.rec (motive:=fun _=>α) (fun n d _ _=>cb (Nat.beq d 1)
 (Int.rec (motive:=fun _=>α) (fun m=>dK m fun m=>k [.b false,.m m,.m 0]) (fun m=>dK m fun m=>k [.b true,.m (Nat.succ m),.m 0]) n)
 (dK d fun d=>Int.rec (motive:=fun _=>α) (fun m=>dK m fun m=>k [.b false,.m m,.m d]) (fun m=>dK m fun m=>k [.b true,.m (Nat.succ m),.m d]) n)) x
def enc(x:Rat):Option AV:=aIZ x fun l=>some (.c true l)
def aNo:Nat:=1024
def big:Nat:=W64^aNo
def small(n:Nat):Bool:=Nat.blt n big
def aPx(n d:Nat)(hd:Nat.beq d 0=false)(hg:Nat.beq (Nat.gcd n d) 1=true):Rat:=⟨.ofNat n,d,fun h=>(by rw[h]at hd;cases hd),Nat.eq_of_beq_eq_true hg⟩
def mkM(n d:Nat)(hd:Nat.beq d 0=false)(hn:Nat.beq n 0=false)(hg:Nat.beq (Nat.gcd n d) 1=true):Rat:=⟨.negSucc (Nat.pred n),d,fun h=>(by rw[h]at hd;cases hd),by
 have h:(Int.negSucc (Nat.pred n)).natAbs=n:=by cases n with
  |zero=>cases hn
  |succ n=>rfl
 rw[h];exact Nat.eq_of_beq_eq_true hg⟩
def aNp(n d:Nat)(hd:Nat.beq d 0=false)(hg:Nat.beq (Nat.gcd n d) 1=true):Option Rat:=
 Bool.rec (motive:=fun b=>Nat.beq n 0=b→Option Rat) (fun hn=>some (mkM n d hd hn hg)) (fun _=>none) (Nat.beq n 0) rfl
def aPy(s:Bool)(n d:Nat)(hd:Nat.beq d 0=false):Option Rat:=
 Bool.rec (motive:=fun b=>Nat.beq (Nat.gcd n d) 1=b→Option Rat) (fun _=>none) (fun hg=>Bool.rec (motive:=fun _=>Option Rat) (some (aPx n d hd hg)) (aNp n d hd hg) s) (Nat.beq (Nat.gcd n d) 1) rfl
def aPz(s:Bool)(n d:Nat):Option Rat:=
 Bool.rec (motive:=fun b=>Nat.beq d 0=b→Option Rat) (fun hd=>aPy s n d hd) (fun _=>none) (Nat.beq d 0) rfl
def aNq(s:Bool)(n m:Nat):Option Rat:=cb (Nat.beq m 1) none (cb (small n) (cb (small m) (aPz s n (cb (Nat.beq m 0) 1 m)) none) none)
def num{α:Type}(v:AV)(k:Rat→Option α):Option α:=match v with| .c true [.b s,.m n,.m m]=>ob (aNq s n m) k|_=>none
def p1(f:Rat→Option AV)(l:List AV):Option AV:=match l with| [x]=>num x f|_=>none
def p2(f:Rat→Rat→Option AV)(l:List AV):Option AV:=match l with| [x,y]=>num x fun p=>num y fun q=>f p q|_=>none
def int{α:Type}(v:AV)(k:Int→Option α):Option α:=match v with| .c false [.i .i64 n]=>k n|_=>none
def er(r:Int × Rat):Option AV:=aIZ r.2 fun l=>some (.t [(true,l),(false,[.i .i64 r.1])])
def by8(l:List Nat):List UInt8:=l.map UInt8.ofNat
def un8(l:List UInt8):List Nat:=l.map UInt8.toNat
def aNr(l:List AV):Option AV:=match l with| [x]=>int x fun n=>cb (decide (-9223372036854775808≤n) && decide (n≤9223372036854775807)) (enc (n:Rat)) none|_=>none
def aNs(l:List AV):Option AV:=match l with| [x,n]=>num x fun p=>int n fun n=>er (oF p n)|_=>none
def aHd(l:List AV):Option AV:=match l with| [x,n]=>num x fun p=>int n fun n=>cb (decide (0≤n) && decide (n≤64)) (enc (p^n.toNat)) none|_=>none
def okS(l:List Nat):Bool:=Nat.blt (len l) 1000000
def aFj(l:List AV):Option AV:=match l with| [.c false [.s l]]=>cb (okS l) (er (uV (by8 l))) none|_=>none
def aCC(l:List AV):Option AV:=match l with| [.c false [.s l]]=>cb (okS l) (er (lM (by8 l))) none|_=>none
def zV(l:List AV):Option AV:=match l with| [.c false [.s l],.c false [.i .u8 (.ofNat c)]]=>cb (okS l) (some (sc (.i .i64 (Lib.indexByte (by8 l) (UInt8.ofNat c))))) none|_=>none
def aI0(l:List AV):Option AV:=match l with| [.c false [.s l],.c false [.s [c]]]=>cb (okS l) (some (.t [(false,[.s (un8 (fF (UInt8.ofNat c) (by8 l)))]),(false,[.s (un8 (aft (UInt8.ofNat c) (by8 l)))]),(false,[.b (decide (UInt8.ofNat c∈by8 l))])])) none|_=>none
def zW(l:List AV):Option AV:=match l with| [.c false [.s l],.c false [.i .i64 (.ofNat n)]]=>cb (okS l && decide (0<len l) && decide (2≤n) && decide (n≤1000000)) (some (sc (.s (un8 (Lib.repeatL (by8 l) n))))) none|_=>none
def aFk(l:List AV):Option AV:=match l with| [.c false [.i .u64 (.ofNat n)]]=>cb (Nat.blt n 18446744073709551616) (some (sc (.m n))) none|_=>none
def uN(l:List AV):Option AV:=match l with| [.c false [.b s],.c false [.m n],.c false [.m m]]=>some (cb (Nat.beq n 0) (.c true [.b false,.m 0,.m 0]) (.c true [.b s,.m n,.m (bt m)]))|_=>none
abbrev ZF:=Bool→Nat→Option AV
def zz7(k:ZF)(fb:Option AV)(s:Bool)(n:Nat):Option AV:=Bool.rec (motive:=fun _=>Option AV) (k false n) (Bool.rec (motive:=fun _=>Option AV) (k true n) fb (Nat.beq n 0)) s
def zz6(k:ZF)(fb:Option AV)(s:Bool)(n m:Nat):Option AV:=Bool.rec (motive:=fun _=>Option AV) fb (Bool.rec (motive:=fun _=>Option AV) fb (zz7 k fb s n) (small n)) (Nat.beq m 0)
def zz5(k:ZF)(fb:Option AV)(s:Bool)(n m:Nat)(l:List SV):Option AV:=List.rec (motive:=fun _=>Option AV) (zz6 k fb s n m) (fun _ _ _=>fb) l
def zz4(k:ZF)(fb:Option AV)(s:Bool)(n:Nat)(l:List SV)(z:SV):Option AV:=SV.rec (motive:=fun _=>Option AV) fb (fun _=>fb) (fun _ _=>fb) (fun _=>fb) fb (fun _ _=>fb) fb (fun _ _ _ _=>fb) (fun m=>zz5 k fb s n m l) fb (fun _ _=>fb) (fun _=>fb) (fun _=>fb) (fun _=>fb) fb (fun _=>fb) z
def zz3(k:ZF)(fb:Option AV)(s:Bool)(l:List SV)(n:Nat):Option AV:=List.rec (motive:=fun _=>Option AV) fb (fun z l _=>zz4 k fb s n l z) l
def zz2(k:ZF)(fb:Option AV)(s:Bool)(l:List SV)(y:SV):Option AV:=SV.rec (motive:=fun _=>Option AV) fb (fun _=>fb) (fun _ _=>fb) (fun _=>fb) fb (fun _ _=>fb) fb (fun _ _ _ _=>fb) (zz3 k fb s l) fb (fun _ _=>fb) (fun _=>fb) (fun _=>fb) (fun _=>fb) fb (fun _=>fb) y
def zz1(k:ZF)(fb:Option AV)(l:List SV)(s:Bool):Option AV:=List.rec (motive:=fun _=>Option AV) fb (fun y l _=>zz2 k fb s l y) l
def zz0(k:ZF)(fb:Option AV)(l:List SV)(x:SV):Option AV:=SV.rec (motive:=fun _=>Option AV) fb (zz1 k fb l) (fun _ _=>fb) (fun _=>fb) fb (fun _ _=>fb) fb (fun _ _ _ _=>fb) (fun _=>fb) fb (fun _ _=>fb) (fun _=>fb) (fun _=>fb) (fun _=>fb) fb (fun _=>fb) x
def zzl(k:ZF)(fb:Option AV)(l:List SV):Option AV:=List.rec (motive:=fun _=>Option AV) fb (fun x l _=>zz0 k fb l x) l
def zzg(k:ZF)(fb:Option AV)(g:Bool)(l:List SV):Option AV:=Bool.rec (motive:=fun _=>Option AV) fb (zzl k fb l) g
def zz(v:AV)(k:ZF)(fb:Option AV):Option AV:=AV.rec (motive:=fun _=>Option AV) (zzg k fb) (fun _=>fb) v
def oG(s:Bool)(n:Nat):Option AV:=dK n fun n=>some (.c true [.b s,.m n,.m 0])
def aFl(s t:Bool)(n m:Nat):Option AV:=cb (Nat.beq n m) (oG false 0) (cb (Nat.blt n m) (oG t (Nat.sub m n)) (oG s (Nat.sub n m)))
def aI1(s:Bool)(n:Nat)(t:Bool)(m:Nat):Option AV:=cb s (cb t (oG true (Nat.add n m)) (aFl true false n m)) (cb t (aFl false true n m) (oG false (Nat.add n m)))
def aFm(t:Bool)(m:Nat):Bool:=cb t false (cb (Nat.beq m 0) false true)
def aPA(s:Bool)(n:Nat)(t:Bool)(m:Nat):Option AV:=aI1 s n (aFm t m) m
def aJJ(s t:Bool)(n:Nat):Option AV:=cb (Nat.beq n 0) (oG false 0) (oG (cb s (cO t) t) n)
def aI2(s:Bool)(n:Nat)(t:Bool)(m:Nat):Option AV:=aJJ s t (Nat.mul n m)
def zLt(n m:Nat):Option AV:=cb (Nat.beq n m) (some (sc (.i .i64 0))) (cb (Nat.blt n m) (some (sc (.i .i64 (.negSucc 0)))) (some (sc (.i .i64 1))))
def aNt(s:Bool)(n:Nat)(t:Bool)(m:Nat):Option AV:=cb s (cb t (zLt m n) (some (sc (.i .i64 (.negSucc 0))))) (cb t (some (sc (.i .i64 1))) (zLt n m))
def aJK(s:Bool)(n:Nat):Option AV:=cb s (some (sc (.i .i64 (.negSucc 0)))) (cb (Nat.beq n 0) (some (sc (.i .i64 0))) (some (sc (.i .i64 1))))
def z2(f:Bool→Nat→Bool→Nat→Option AV)(g:Rat→Rat→Option AV)(l:List AV):Option AV:=match l with
 | [x,y]=>zz x (fun s n=>zz y (fun t m=>f s n t m) (p2 g [x,y])) (p2 g [x,y])
 |_=>none
def z1(f:Bool→Nat→Option AV)(g:Rat→Option AV)(l:List AV):Option AV:=match l with
 | [x]=>zz x f (p1 g [x])
 |_=>none
def aAW:List (Nat × (List AV→Option AV)):=
 (166,p1 enc)::
 (261,p1 fun p=>enc (nN p))::
 (165,p1 fun p=>enc (-p))::
 (60,aFk)::
 (136,uN)::
 (354,p2 fun p q=>enc (aBi p q))::
 (255,p2 fun p q=>enc (mJ p q))::
 (17,aNr)::
 (162,z2 aI1 fun p q=>enc (p+q))::
 (160,z2 aPA fun p q=>enc (p-q))::
 (74,z2 aI2 fun p q=>enc (p*q))::
 (57,p2 fun p q=>er (wZ p q))::
 (97,p1 fun p=>enc (-p))::
 (245,p1 fun p=>enc (nN p))::
 (207,p2 fun p q=>enc (mJ p q))::
 (315,p1 fun p=>enc (p.floor:Rat))::
 (127,z1 aJK fun p=>some (sc (.i .i64 (sn p))))::
 (84,z2 aNt fun p q=>some (sc (.i .i64 (rc p q))))::
 (156,aNs)::
 (237,aHd)::
 (14,p1 fun p=>some (sc (.s (un8 (uU p)))))::
 (387,aFj)::
 (219,aI0)::
 (388,zW)::
 (143,aCC)::
 (125,p1 fun p=>some (sc (.i .i64 (.ofNat (aEo p)))))::
 (410,zV)::
 []
def aFn:T 3 (List AV→Option AV):=T.ofL aAW
def F0:Cf:=⟨Tryz.prog,fun w=>Tb w∧Px w,49,fun f=>aFn.get f,aAJ,fun _=>none,fun _ _=>none,fun _ _=>none,fun _=>none⟩
end
end E
end Go.Proofs.YtamnpcdkcdfgaaaGreatDoor
