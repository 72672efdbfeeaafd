/- FilterFamilies holds. No condition. -/
import Derived.Test.YtohcfjmkfflkpaaGreatDoorQf15
set_option maxHeartbeats 4000000
set_option maxRecDepth 100000
namespace Go.Proofs.YtohcfjmkfflkpaaGreatDoor
section
open Go.RowKit
open Ma Me
theorem aUV(p q:Rat):sz (aH6 p q)≤sz p+sz q:=by rcases aOH p q with h|h<;>rw[h]<;>omega
theorem aPB(p q:Rat):sz (wX p q)≤sz p+sz q:=by rcases aOI p q with h|h<;>rw[h]<;>omega
end
namespace K
open Go.RowKit
open Ma Me
end K
section
open Go.RowKit
open Ma Me
def gY(p q:Rat):Int × Rat:=if q=0 then (8,0) else (0,p*q⁻¹)
theorem aRO(p:Rat)(n:Nat):(p^n).num=sg (decide (p.num<0) && decide (n % 2=1)) (p.num.natAbs^n):=by
 rw[Rat.num_pow];have h:=sU p;generalize p.num.natAbs=N at*
 generalize decide (p.num<0)=s at*
 cases s
 ·rw[←h];simp[sg]
 ·rw[←h];simp only[sg,Bool.true_and];rw[if_pos trivial]
  induction n with
  |zero=>simp
  |succ n ih=>
   rw[Int.pow_succ,ih,Nat.pow_succ,Int.natCast_mul];rcases Nat.mod_two_eq_zero_or_one n with h2|h2
   ·have h3:(n+1) % 2=1:=(by omega);rw[if_neg (by rw[h2];decide),if_pos (decide_eq_true h3),Int.mul_neg]
   ·have h3:¬(n+1) % 2=1:=(by omega);rw[if_pos (by rw[h2];decide),if_neg (by rw[decide_eq_false h3];decide),Int.neg_mul_neg]
def jC(p:Rat)(z:Int):Int × Rat:=if z< -64∨64<z then (7,0) else if z<0 then (if p=0 then (8,0) else (0,p⁻¹^(-z).toNat)) else (0,p^z.toNat)
theorem aFJ{p q:Rat}:(sn p<sn q→rc p q=-1)∧(sn q<sn p→rc p q=1):=by
 constructor
 ·intro h;refine aNB ?_;rcases bZ p with⟨h1,e1⟩|⟨h1,e1⟩|⟨h1,e1⟩<;>rcases bZ q with⟨h2,e2⟩|⟨h2,e2⟩|⟨h2,e2⟩<;>rw[e1,e2]at h<;>first|omega|grind
 ·intro h;refine aNC ?_;rcases bZ p with⟨h1,e1⟩|⟨h1,e1⟩|⟨h1,e1⟩<;>rcases bZ q with⟨h2,e2⟩|⟨h2,e2⟩|⟨h2,e2⟩<;>rw[e1,e2]at h<;>first|omega|grind
theorem aRP(a b:Nat):-1≤cmp a b∧cmp a b≤1:=by
 unfold cmp;split
 ·omega
 ·split<;>omega
theorem aCm(p:Rat):-1≤sn p∧sn p≤1:=by
 rcases bZ p with⟨-,e⟩|⟨-,e⟩|⟨-,e⟩<;>rw[e]<;>decide
theorem aRQ{q:Rat}:sn q=0↔q=0:=by
 rcases bZ q with⟨h,e⟩|⟨h,e⟩|⟨h,e⟩<;>rw[e]<;>constructor<;>intro h1<;>first|omega|grind
theorem aRR{p q:Rat}(hs:sn p=sn q)(hd:¬(p.den=1∧q.den=1)):0<p.num.natAbs∧0<q.num.natAbs:=by
 have h:p=0↔q=0:=by rw[←aRQ,←aRQ,hs]
 have key:p≠0∧q≠0:=by
  constructor
  ·intro e;exact hd ⟨by rw[e];rfl,by rw[h.1 e];rfl⟩
  ·intro e;exact hd ⟨by rw[h.2 e];rfl,by rw[e];rfl⟩
 exact⟨xV key.1,xV key.2⟩
theorem aPC(p:Rat)(away:Bool):wZ p away=sg (decide (p.num<0)) (qP p away):=by
 rw[decide_eq_decide.2 (iR p)];unfold wZ sg;by_cases h:p<0
 ·rw[if_pos h,if_pos (decide_eq_true h)]
 ·rw[if_neg h,if_neg (by rw[decide_eq_false h];decide)]
theorem aHw{p:Rat}{away:Bool}(h:away=false∨p.num.natAbs % p.den=0):qP p away=p.num.natAbs/p.den:=by
 unfold qP;have hc:¬(away=true∧¬p.num.natAbs % p.den=0):=by
  rintro⟨h1,h2⟩;rcases h with h|h
  ·rw[h]at h1;cases h1
  ·exact h2 h
 rw[if_neg hc,Nat.add_zero]
theorem aMZ{p:Rat}(h:¬p.num.natAbs % p.den=0):qP p true=p.num.natAbs/p.den+1:=by
 unfold qP;rw[if_pos ⟨rfl,h⟩]
namespace E
open Go K
section
variable {z:Bool} {p q:Rat}
theorem dg0{n:Nat}(h:((dg W64 n:Nat):Int)=0):n=0:=bM aC (by omega)
theorem dg1{n:Nat}(h:¬((dg W64 n:Nat):Int)=0):n≠0:=fun e=>h (by rw[e,aU];rfl)
theorem n0{p:Rat}(h:((dg W64 p.num.natAbs:Nat):Int)=0):p=0:=Rat.num_eq_zero.1 (by have:=dg0 h;omega)
theorem nz0{p:Rat}(h:¬((dg W64 p.num.natAbs:Nat):Int)=0):p≠0:=fun e=>h (by rw[e];show ((dg W64 0:Nat):Int)=0;rw[aU];rfl)
theorem aFK{dd:Dk}{a c:Int}(h1:-1≤a∧a≤1)(h2:-1≤c∧c≤1):bop dd .mul (.i .i64 a) (.i .i64 c)=some (.i .i64 (a*c)):=by
 rcases (by omega:a=-1∨a=0∨a=1) with rfl|rfl|rfl<;>rcases (by omega:c=-1∨c=0∨c=1) with rfl|rfl|rfl<;>rfl
theorem aRS{dd:Dk}{n:Nat}:bop dd .rem (.i .i64 (n:Int)) (.i .i64 2)=some (.i .i64 ((n % 2:Nat):Int)):=by
 show cb (decide (IntKind.i64=IntKind.i64)) (aMf .i64 n 2) none=_;rw[show decide (IntKind.i64=IntKind.i64)=true from rfl];show cb (decide ((2:Int)=0)) none (aEJ (Int.tmod n 2) fun n=>some (SV.i .i64 n))=_;rw[vS];rfl
theorem aTx{a c:Bool}:bop .bool .neq (.b a) (.b c)=some (.b (a != c)):=by cases a<;>cases c<;>rfl
theorem aPD{q:Rat}(h0:q≠0):q⁻¹.num=sg (decide (q.num<0)) q.den:=by
 have:=xV h0;rw[Rat.num_inv];by_cases h:q.num<0
 ·rw[decide_eq_true h,Int.sign_eq_neg_one_of_neg h];simp[sg]
 ·rw[decide_eq_false h,Int.sign_eq_one_of_pos (by omega)];simp[sg]
theorem aHx{q:Rat}(h0:q≠0):q⁻¹.den=q.num.natAbs:=by rw[Rat.den_inv,if_neg fun h=>h0 (Rat.num_eq_zero.1 h)]
theorem aBh{s t:Bool}{a b:Nat}(hB:cB a b):Fc (FN z) 155 [sc (.b s),nn a,sc (.b t),nn b] (.t [(false,[.b (xS s a t b).1]),(false,[.m (xS s a t b).2])]):=by
 have A:∀x,xS s a t b=x→AV.t [(false,[.b x.1]),(false,[.m x.2])]=.t [(false,[.b (xS s a t b).1]),(false,[.m (xS s a t b).2])]:=fun x h=>by rw[h]
 have hm:(cmp a b<0↔a<b):=by unfold cmp;split<;>(try split)<;>omega
 exact .by_ kU Tryz.func155 rfl (by kernel_rfl) (by kernel_rfl) rfl ⟨_,rfl,fun h=>⟨_,aKV hB,A (s,a+b) (if_pos (eq_of_beq h))⟩,fun h=>⟨_,zZ hB,dt (fun h1=>⟨_,aHv ⟨aTw hB,by omega⟩,A (t,b-a) ((if_neg (ne_of_beq_false h)).trans (if_pos (hm.1 h1)))⟩) fun h1=>⟨_,aHv ⟨hB,by omega⟩,A (s,a-b) ((if_neg (ne_of_beq_false h)).trans (if_neg fun h=>h1 (hm.2 h)))⟩⟩⟩
theorem aIP(hB:16*(Ma.sz p+Ma.sz q)+100≤LIM):Fc (FN true) 27 [nm p,nm q] (nm (p*q)):=by
 have e1:=fO p;have e2:=fO q;have c1:cB p.num.natAbs q.num.natAbs:=by unfold cB;omega
 have c2:cB p.num.natAbs q.den:=by unfold cB;omega
 have c3:cB q.num.natAbs p.den:=by unfold cB;omega
 have c4:cB p.den q.den:=by unfold cB;omega
 refine .by_ kU Tryz.func27 rfl (by kernel_rfl) (by kernel_rfl) rfl ⟨_,aTx,_,rM,dt (fun h1=>⟨_,rM,dt (fun h2=>⟨_,kD c1,_,lF (q:=p*q) (aDx h1 h2).1 (aDx h1 h2).2,rfl⟩) fun _=>?_⟩) fun _=>?_⟩;all_goals
  exact dt (fun h=>congrArg nm (show (0:Rat)=p*q by rw[n0 h,Rat.zero_mul])) fun h1=>dt (fun h=>congrArg nm (show (0:Rat)=p*q by rw[n0 h,Rat.mul_zero])) fun h2=>⟨_,uM rfl q.den_pos c2 (by have:=dg1 h1;omega),_,uM rfl p.den_pos c3 (by have:=dg1 h2;omega),_,kD (uK c1 (Nat.div_le_self _ _) (Nat.div_le_self _ _)),_,kD (uK c4 (Nat.div_le_self _ _) (Nat.div_le_self _ _)),_,jV (q:=p*q) (zW p q).1 (fun _=>(zW p q).2),rfl⟩
theorem aIQ(hB:64*(Ma.sz p+Ma.sz q)+400≤LIM):Fc (FN true) 105 [nm p,nm q] (nm (p+q)):=by
 have e1:=fO p;have e2:=fO q;have c1:cB p.num.natAbs q.num.natAbs:=by unfold cB;omega
 have c2:cB p.num.natAbs q.den:=by unfold cB;omega
 have c3:cB q.num.natAbs p.den:=by unfold cB;omega
 have c4:cB p.den q.den:=by unfold cB;omega
 obtain⟨K,hK⟩:∃K,xS (decide (p.num<0)) (p.num.natAbs*(q.den/Nat.gcd p.den q.den)) (decide (q.num<0)) (q.num.natAbs*(p.den/Nat.gcd p.den q.den))=K:=⟨_,rfl⟩
 have hs:sg K.1 K.2=p.num*((q.den/Nat.gcd p.den q.den:Nat):Int)+q.num*((p.den/Nat.gcd p.den q.den:Nat):Int):=by rw[←hK,aHt,aFI rfl,aFI rfl]
 have hds:=aRN hs;have d0:0<Nat.gcd p.den q.den:=Nat.gcd_pos_of_pos_left _ p.den_pos;have q1:=dQ aC (Nat.div_le_self q.den (Nat.gcd p.den q.den));have q2:=dQ aC (Nat.div_le_self p.den (Nat.gcd p.den q.den));have q3:=dQ aC (Nat.gcd_le_left q.den p.den_pos);have m1:=dC aC p.num.natAbs (q.den/Nat.gcd p.den q.den);have m2:=dC aC q.num.natAbs (p.den/Nat.gcd p.den q.den);have hS:=aBh (z:=true) (s:=decide (p.num<0)) (a:=p.num.natAbs*(q.den/Nat.gcd p.den q.den)) (t:=decide (q.num<0)) (b:=q.num.natAbs*(p.den/Nat.gcd p.den q.den)) (by unfold cB;omega);rw[hK]at hS;have g0:0<Nat.gcd K.2 (Nat.gcd p.den q.den):=Nat.gcd_pos_of_pos_right _ d0;have g1:=dQ aC (Nat.gcd_le_right (n:=Nat.gcd p.den q.den) K.2 d0);have q4:=dQ aC (Nat.div_le_self q.den (Nat.gcd K.2 (Nat.gcd p.den q.den)));refine .by_ kU Tryz.func105 rfl (by kernel_rfl) (by kernel_rfl) rfl ⟨_,rM,dt (fun h1=>⟨_,rM,dt (fun h2=>⟨_,aBh c1,_,lF (q:=p+q) ((aDy h1 h2).1.trans (by rw[aHt,sU,sU])) (aDy h1 h2).2,rfl⟩) fun _=>?_⟩) fun _=>?_⟩;all_goals
  exact⟨by kernel_rfl,_,gD,_,gD,_,aDA ⟨rfl,c4,p.den_pos,q.den_pos⟩,by kernel_rfl,_,gD,_,uL ⟨rfl,by unfold cB;omega,d0⟩,_,gD,_,uL ⟨rfl,by unfold cB;omega,d0⟩,by kernel_rfl,_,kD (uK c2 (Nat.le_refl _) (Nat.div_le_self _ _)),_,kD (uK c3 (Nat.le_refl _) (Nat.div_le_self _ _)),_,hS,dt (fun h=>⟨_,gD,_,kD (uK c4 (Nat.le_refl _) (Nat.div_le_self _ _)),_,jV (q:=p+q) (qZ K.2 K.1 hs (.inl (dg0 h))).1 (qZ K.2 K.1 hs (.inl (dg0 h))).2,rfl⟩) fun h1=>⟨_,aPA,dt (fun h=>⟨_,gD,_,kD (uK c4 (Nat.le_refl _) (Nat.div_le_self _ _)),_,jV (q:=p+q) (qZ K.2 K.1 hs (.inr h)).1 (qZ K.2 K.1 hs (.inr h)).2,rfl⟩) fun _=>⟨_,aDA ⟨rfl,by unfold cB;omega,by have:=dg1 h1;omega,d0⟩,by kernel_rfl,_,uL ⟨rfl,by unfold cB;omega,g0⟩,_,gD,_,uL ⟨rfl,by unfold cB;omega,g0⟩,_,kD (uK c4 (Nat.div_le_self _ _) (Nat.div_le_self _ _)),_,jV (q:=p+q) (aCl K.2 K.1 hs).1 (fun _=>(aCl K.2 K.1 hs).2),rfl⟩⟩⟩
theorem aCn:Fc (FN z) 94 [nm p] (sc (.i .i64 (sn p))):=
 .by_ kU Tryz.func94 rfl (by kernel_rfl) (by kernel_rfl) rfl (dt (fun h=>congrArg (fun n=>sc (.i .i64 n)) (show (-1:Int)=sn p by rw[nA,Int.sign_eq_neg_one_of_neg h])) fun h=>dt (fun h0=>congrArg (fun n=>sc (.i .i64 n)) (show (0:Int)=sn p by rw[n0 h0];rfl)) fun h0=>congrArg (fun n=>sc (.i .i64 n)) (show (1:Int)=sn p by have:=dg1 h0;rw[nA,Int.sign_eq_one_of_pos (by omega)]))
theorem aC2(hB:64*(Ma.sz p+Ma.sz q)+400≤LIM)(hs:sn p=sn q):Fc (FN z) 118 [nm p,nm q] (sc (.i .i64 (cmp (p.num.natAbs*q.den) (q.num.natAbs*p.den)))):=by
 have e1:=fO p;have e2:=fO q;have c1:cB p.num.natAbs q.num.natAbs:=by unfold cB;omega
 have c2:cB p.num.natAbs q.den:=by unfold cB;omega
 have c3:cB q.num.natAbs p.den:=by unfold cB;omega
 have c4:cB p.den q.den:=by unfold cB;omega
 have m1:=dC aC p.num.natAbs q.den;have m2:=dC aC q.num.natAbs p.den;have L:=aB;have k1:=aDT p.num.natAbs;have k2:=aDT q.den;have k3:=aDT q.num.natAbs;have k4:=aDT p.den;have key:¬(p.den=1∧q.den=1)→0<p.num.natAbs∧0<q.num.natAbs:=aRR hs;refine .by_ kU Tryz.func118 rfl (by kernel_rfl) (by kernel_rfl) rfl ⟨_,rM,dt (fun h1=>⟨_,rM,dt (fun h2=>⟨_,zZ c1,congrArg (fun n=>sc (.i .i64 n)) (show cmp p.num.natAbs q.num.natAbs=_ by rw[h1,h2,Nat.mul_one,Nat.mul_one])⟩) fun h=>?_⟩) fun h=>?_⟩;all_goals
  have h0:=key (by omega);have hC:=aGw h0.1 q.den_pos h0.2 p.den_pos;exact⟨by kernel_rfl,_,pG (by omega),_,gD,_,pG (by omega),⟨by omega,by omega⟩,_,pG (by omega),⟨by omega,by omega⟩,_,gD,_,pG (by omega),⟨by omega,by omega⟩,dt (fun h=>congrArg (fun n=>sc (.i .i64 n)) (hC.1 (by omega)).symm) fun _=>dt (fun h=>congrArg (fun n=>sc (.i .i64 n)) (hC.2 (by omega)).symm) fun _=>⟨by kernel_rfl,_,gD,_,kD c2,_,gD,_,kD c3,_,zZ (by unfold cB;omega),rfl⟩⟩
theorem aFL(hB:Ma.sz p≤LIM):Fc (FN z) 194 [nm p] (nm p):=by
 have e1:=fO p;have e2:=aN2 p;exact .by_ kU Tryz.func194 rfl (by kernel_rfl) (by kernel_rfl) rfl ⟨by kernel_rfl,_,aHu (by omega),_,aHu (by omega),rfl⟩
theorem aDB(h:q≠0):Fc (FN z) 128 [nm q] (nm q⁻¹):=
 .by_ kU Tryz.func128 rfl (by kernel_rfl) (by kernel_rfl) rfl ⟨by kernel_rfl,_,gD,_,jV (aPD h) (fun _=>aHx h),rfl⟩
theorem aIR(hB:64*(Ma.sz p+Ma.sz q)+400≤LIM):Fc (FN z) 65 [nm p,nm q] (sc (.i .i64 (rc p q))):=
 .by_ kU Tryz.func65 rfl (by kernel_rfl) (by kernel_rfl) rfl ⟨_,aCn,_,aCn,dt (fun h=>congrArg (fun n=>sc (.i .i64 n)) (aFJ.1 h).symm) fun h1=>dt (fun h=>congrArg (fun n=>sc (.i .i64 n)) (aFJ.2 h).symm) fun h2=>have h3:sn p=sn q:=by omega
  ⟨_,aC2 hB h3,_,aFK (aCm _) (aRP _ _),congrArg (fun n=>sc (.i .i64 n)) (aL0 h3).symm⟩⟩
theorem aKX(hB:64*(Ma.sz p+Ma.sz q)+400≤LIM):Fc (FN z) 161 [nm p,nm q] (nm (wX p q)):=
 .by_ kU Tryz.func161 rfl (by kernel_rfl) (by kernel_rfl) rfl ⟨_,aIR hB,dt (fun h=>congrArg nm (show p=wX p q from (if_pos ((aND p q).1 h)).symm)) fun h=>congrArg nm (show q=wX p q from (if_neg fun x=>h ((aND p q).2 x)).symm)⟩
theorem aTy(hB:64*(Ma.sz p+Ma.sz q)+400≤LIM):Fc (FN z) 264 [nm p,nm q] (nm (wX p q)):=
 .by_ kU Tryz.func264 rfl (by kernel_rfl) (by kernel_rfl) rfl ⟨_,aKX hB,_,aFL (by have:=aPB p q;omega),rfl⟩
theorem aN3(hB:64*(Ma.sz p+Ma.sz q)+400≤LIM):Fc (FN true) 103 [nm p,nm q] (nm (p-q)):=
 .by_ kU Tryz.func103 rfl (by kernel_rfl) (by kernel_rfl) rfl ⟨by kernel_rfl,_,aIO,_,aIQ (q:=-q) (by rw[aJO];exact hB),congrArg nm (Rat.sub_eq_add_neg p q).symm⟩
theorem aN4(hB:16*(Ma.sz p+Ma.sz q)+200≤LIM):Fc (FN true) 74 [nm p,nm q] (.t [(true,bC (gY p q).2),(false,[.i .i64 (gY p q).1])]):=
 .by_ kU Tryz.func74 rfl (by kernel_rfl) (by kernel_rfl) rfl (dt (fun h=>congrArg (fun r:Int × Rat=>AV.t [(true,bC r.2),(false,[.i .i64 r.1])]) (show (8,0)=gY p q from (if_pos (n0 h)).symm)) fun h=>have h1:=nz0 h
  ⟨by kernel_rfl,_,aDB h1,_,aIP (q:=q⁻¹) (by have:=rV q;omega),congrArg (fun r:Int × Rat=>AV.t [(true,bC r.2),(false,[.i .i64 r.1])]) (show (0,p*q⁻¹)=gY p q from (if_neg h1).symm)⟩)
theorem aTz{n:Int}(h1:-9223372036854775808≤n)(h2:n≤9223372036854775807):Fc (FN z) 43 [sc (.i .i64 n)] (nm (n:Rat)):=
 .by_ kU Tryz.func43 rfl (by kernel_rfl) (by kernel_rfl) rfl ⟨_,aMY h1 h2,_,aKW (by omega),_,lF (q:=(n:Rat)) (by have:=sU (n:Rat);rw[Rat.num_intCast]at this⊢;exact this.symm) (Rat.den_intCast _),rfl⟩
theorem aC3{n:Nat}(hn:n≤64)(hB:64*Ma.sz p+400≤LIM):Fc (FN z) 127 [nm p,sc (.i .i64 (n:Int))] (nm (p^n)):=by
 have e1:=fO p;have hP:=aRO p n;exact .by_ kU Tryz.func127 rfl (by kernel_rfl) (by kernel_rfl) rfl ⟨by kernel_rfl,dt (fun h=>⟨_,aRS,⟨_,xU hn (by omega),_,gD,_,xU hn (by omega),_,jV (q:=p^n) (by rw[hP,decide_eq_true h,Bool.true_and];congr 1;exact decide_eq_decide.2 (by omega)) (fun _=>Rat.den_pow p n),rfl⟩⟩) fun h=>⟨_,xU hn (by omega),_,gD,_,xU hn (by omega),_,jV (q:=p^n) (by rw[hP,decide_eq_false h];rfl) (fun _=>Rat.den_pow p n),rfl⟩⟩
theorem aN5{n:Int}(hB:64*Ma.sz p+600≤LIM):Fc (FN z) 73 [nm p,sc (.i .i64 n)] (.t [(true,bC (jC p n).2),(false,[.i .i64 (jC p n).1])]):=by
 have s7:n< -64∨64<n→(7,0)=jC p n:=fun h=>(if_pos h).symm;refine .by_ kU Tryz.func73 rfl (by kernel_rfl) (by kernel_rfl) rfl (dt (fun h=>congrArg (fun r:Int × Rat=>AV.t [(true,bC r.2),(false,[.i .i64 r.1])]) (s7 (.inl h))) fun h1=>dt (fun h=>congrArg (fun r:Int × Rat=>AV.t [(true,bC r.2),(false,[.i .i64 r.1])]) (s7 (.inr h))) fun h2=>?_);have hn:jC p n=if n<0 then (if p=0 then (8,0) else (0,p⁻¹^(-n).toNat)) else (0,p^n.toNat):=if_neg (by omega);refine dt (fun h3=>dt (fun h=>congrArg (fun r:Int × Rat=>AV.t [(true,bC r.2),(false,[.i .i64 r.1])]) (show (8,0)=jC p n by rw[hn,if_pos h3,if_pos (n0 h)])) fun h=>?_) fun h3=>?_
 ·have h4:=nz0 h;obtain⟨m,hm⟩:∃m:Nat,-n=m:=⟨(-n).toNat,by omega⟩
  have hq:Fc (FN z) 127 [nm p⁻¹,sc (.i .i64 (-n))] (nm (p⁻¹^m)):=(by rw[hm];exact aC3 (by omega) (by have:=rV p;omega));exact⟨_,aDB h4,⟨by omega,by omega⟩,_,hq,congrArg (fun r:Int × Rat=>AV.t [(true,bC r.2),(false,[.i .i64 r.1])]) (show (0,p⁻¹^m)=jC p n by rw[hn,if_pos h3,if_neg h4,hm];rfl)⟩
 ·obtain⟨m,rfl⟩:∃m:Nat,n=m:=⟨n.toNat,by omega⟩
  exact⟨_,aC3 (n:=m) (by omega) (by omega),congrArg (fun r:Int × Rat=>AV.t [(true,bC r.2),(false,[.i .i64 r.1])]) (show (0,p^m)=jC p m by rw[hn,if_neg h3];rfl)⟩
theorem aKY{w:Bool}(hB:16*Ma.sz p+200≤LIM):Fc (FN z) 217 [nm p,sc (.b w)] (nm ((wZ p w:Int):Rat)):=by
 have e1:=fO p;have e2:=dQ aC (Nat.div_le_self p.num.natAbs p.den);have L:=aB;have e3:=iK aC;have A:∀K,qP p w=K→((wZ p w:Int):Rat).num=sg (decide (p.num<0)) K:=fun K h=>by rw[Rat.num_intCast,aPC,h]
 refine .by_ kU Tryz.func217 rfl (by kernel_rfl) (by kernel_rfl) rfl ⟨by kernel_rfl,_,gD,_,aMX ⟨by unfold cB;omega,p.den_pos⟩,fun h=>?_,fun h=>⟨_,lF (A _ (aHw (.inl h))) (Rat.den_intCast _),rfl⟩⟩;subst h;exact dt (fun h=>⟨_,aKW (n:=1) (by omega),_,aKV (by unfold cB;omega),_,lF (A _ (aMZ fun e=>by rw[e,aU]at h;cases h)) (Rat.den_intCast _),rfl⟩) fun h=>⟨_,lF (A _ (aHw (.inr (Classical.byContradiction fun e=>h (by have:=lS aC (Nat.pos_of_ne_zero e);omega))))) (Rat.den_intCast _),rfl⟩
theorem aPE(hB:16*Ma.sz p+200≤LIM):Fc (FN z) 192 [nm p] (nm ((p.floor:Int):Rat)):=
 .by_ kU Tryz.func192 rfl (by kernel_rfl) (by kernel_rfl) rfl ⟨_,aKY hB,congrArg (fun n:Int=>nm (n:Rat)) (show wZ p (decide (p.num<0))=p.floor by rw[decide_eq_decide.2 (iR p),aIb])⟩
end
end E
end
section
open Go Go.RowKit
open Ma Me K E
namespace E
theorem aRT{z:Bool}:(FN z).P.follows .mixedOrders=true:=by kernel_rfl
theorem toX{F:Cf}(hF:FOk F)(hm:F.P.follows .mixedOrders=true){fn:Nat}{args:List AV}{vs:List Value}{v:AV}{w:World}(hx:Fc F fn args v)(hT:F.tb w)(hv:∀d:Cx,d.w=w→VL d args vs):Calls F.P fn vs.toArray w fun e w'=>∃u d,e=.returned u∧Me.Q w w'∧Cx.w d=w'∧VR d v u:=by
 obtain⟨_,h',⟨m0,k0⟩,rfl,-⟩:=hx ⟨.lf,0,0,.lf⟩ (Nat.le_refl 0);obtain⟨-,hcr⟩:=jO (vs:=vs) hF (xI hF hm m0) (k0 m0 (Nat.le_refl m0)) (xK F.P.cellsOf w) (fun _=>rfl) hT (hv _ rfl);refine Calls.mono hcr ?_;rintro e w' ⟨u,d,k1,k2,k3,k4,k5⟩;exact⟨u,d,k1,k2▸k4.q,k2,k5⟩
theorem toF{z:Bool}{fn:Nat}{args:List AV}{vs:List Value}{v:AV}{w:World}(hx:Fc (FN z) fn args v)(hT:z=true→Tb w)(hv:∀d:Cx,d.w=w→VL d args vs):Calls Tryz.prog fn vs.toArray w fun e w'=>∃u d,e=.returned u∧Me.Q w w'∧Cx.w d=w'∧VR d v u:=toX (aUD z) aRT hx hT hv
section
variable {z:Bool} {fn:Nat} {args:List AV} {vs:List Value} {w:World} {x y:Value} {p q:Rat} {n:Int}
theorem mN(hx:Fc (FN z) fn args (nm p))(hT:z=true→Tb w)(hv:∀d:Cx,d.w=w→VL d args vs):Calls Tryz.prog fn vs.toArray w fun e w'=>∃r,e=.returned r∧Nq w' r p∧Me.Q w w':=by
 refine (toF hx hT hv).mono ?_;rintro e w' ⟨u,d,rfl,hq,rfl,hv⟩;exact⟨u,rfl,iW.1 hv,hq⟩
theorem mI(hx:Fc (FN z) fn args (sc (.i .i64 n)))(hT:z=true→Tb w)(hv:∀d:Cx,d.w=w→VL d args vs):Calls Tryz.prog fn vs.toArray w fun e w'=>e=.returned (.int .i64 n)∧Me.Q w w':=by
 refine (toF hx hT hv).mono ?_;rintro e w' ⟨u,d,rfl,hq,rfl,hv⟩;rw[show u=_ from aF.1 hv];exact⟨rfl,hq⟩
theorem mE{r:Int × Rat}(hx:Fc (FN z) fn args (.t [(true,bC r.2),(false,[.i .i64 r.1])]))(hT:z=true→Tb w)(hv:∀d:Cx,d.w=w→VL d args vs):Calls Tryz.prog fn vs.toArray w fun e w'=>∃u,e=.returned (.tuple #[u,.int .i64 r.1])∧Nq w' u r.2∧Me.Q w w':=by
 refine (toF hx hT hv).mono ?_;rintro e w' ⟨u,d,rfl,hq,rfl,us,rfl,hv⟩
 match us,hv with
 | [a,b],hv=>
   obtain⟨h1,⟨c,e1,h2⟩,-⟩:=hv;injection (show [SV.i .i64 r.1]=[c] from e1) with e1 _;subst e1;rw[show b=_ from h2];exact⟨a,rfl,iW.1 h1,hq⟩
theorem vl1(hx:Nq w x p):∀d:Cx,d.w=w→VL d [nm p] [x]:=fun _ hd=>⟨iW.2 (hd▸hx),trivial⟩
theorem vl2(hx:Nq w x p)(hy:Nq w y q):∀d:Cx,d.w=w→VL d [nm p,nm q] [x,y]:=fun _ hd=>⟨iW.2 (hd▸hx),iW.2 (hd▸hy),trivial⟩
theorem vli(hx:Nq w x p):∀d:Cx,d.w=w→VL d [nm p,sc (.i .i64 n)] [x,.int .i64 n]:=fun _ hd=>⟨iW.2 (hd▸hx),aF.2 rfl,trivial⟩
end
end E
theorem aUF(x:Value)(p:Rat)(w:World)(hx:Nq w x p)(hB:Ma.sz p≤LIM):Calls Tryz.prog 194 #[x] w fun e w'=>∃r,e=.returned r∧Nq w' r (p)∧Me.Q w w':=mN (z:=false) (vs:=[x]) (aFL hB) nofun (vl1 hx)
theorem aRU(x:Value)(p:Rat)(w:World)(hx:Nq w x p):Calls Tryz.prog 167 #[x] w fun e w'=>∃r,e=.returned r∧Nq w' r (aCJ p)∧Me.Q w w':=mN (z:=false) (vs:=[x]) (aRM) nofun (vl1 hx)
theorem aIS(x y:Value)(p q:Rat)(w:World)(hT:Tb w)(hx:Nq w x p)(hy:Nq w y q)(hB:16*(Ma.sz p+Ma.sz q)+100≤LIM):Calls Tryz.prog 27 #[x,y] w fun e w'=>∃r,e=.returned r∧Nq w' r (p*q)∧Me.Q w w':=mN (vs:=[x,y]) (aIP hB) (fun _=>hT) (vl2 hx hy)
theorem aTA(x y:Value)(p q:Rat)(w:World)(hT:Tb w)(hx:Nq w x p)(hy:Nq w y q)(hB:64*(Ma.sz p+Ma.sz q)+400≤LIM):Calls Tryz.prog 105 #[x,y] w fun e w'=>∃r,e=.returned r∧Nq w' r (p+q)∧Me.Q w w':=mN (vs:=[x,y]) (aIQ hB) (fun _=>hT) (vl2 hx hy)
theorem aTB(x y:Value)(p q:Rat)(w:World)(hT:Tb w)(hx:Nq w x p)(hy:Nq w y q)(hB:64*(Ma.sz p+Ma.sz q)+400≤LIM):Calls Tryz.prog 103 #[x,y] w fun e w'=>∃r,e=.returned r∧Nq w' r (p-q)∧Me.Q w w':=mN (vs:=[x,y]) (aN3 hB) (fun _=>hT) (vl2 hx hy)
theorem aRV(x:Value)(p:Rat)(w:World)(hx:Nq w x p):Calls Tryz.prog 94 #[x] w fun e w'=>e=.returned (.int .i64 (sn p))∧Me.Q w w':=mI (z:=false) (vs:=[x]) (aCn) nofun (vl1 hx)
theorem aTC(x y:Value)(p q:Rat)(w:World)(hx:Nq w x p)(hy:Nq w y q)(hB:64*(Ma.sz p+Ma.sz q)+400≤LIM):Calls Tryz.prog 65 #[x,y] w fun e w'=>e=.returned (.int .i64 (rc p q))∧Me.Q w w':=mI (z:=false) (vs:=[x,y]) (aIR hB) nofun (vl2 hx hy)
theorem aTD(x y:Value)(p q:Rat)(w:World)(hT:Tb w)(hx:Nq w x p)(hy:Nq w y q)(hB:16*(Ma.sz p+Ma.sz q)+200≤LIM):Calls Tryz.prog 74 #[x,y] w fun e w'=>∃r,e=.returned (.tuple #[r,.int .i64 (gY p q).1])∧Nq w' r (gY p q).2∧Me.Q w w':=mE (vs:=[x,y]) (aN4 hB) (fun _=>hT) (vl2 hx hy)
theorem aTE(x:Value)(p:Rat)(z:Int)(w:World)(hx:Nq w x p)(hB:64*Ma.sz p+600≤LIM):Calls Tryz.prog 73 #[x,.int .i64 z] w fun e w'=>∃r,e=.returned (.tuple #[r,.int .i64 (jC p z).1])∧Nq w' r (jC p z).2∧Me.Q w w':=mE (z:=false) (vs:=[x,.int .i64 z]) (aN5 hB) nofun (vli hx)
theorem aM0(x:Value)(p:Rat)(n:Nat)(w:World)(hx:Nq w x p)(hn:n≤64)(hB:64*Ma.sz p+400≤LIM):Calls Tryz.prog 127 #[x,.int .i64 (n:Int)] w fun e w'=>∃r,e=.returned r∧Nq w' r (p^n)∧Me.Q w w':=mN (z:=false) (vs:=[x,.int .i64 (n:Int)]) (aC3 hn hB) nofun (vli hx)
theorem aPF(x:Value)(p:Rat)(w:World)(_:Tb w)(hx:Nq w x p)(hB:16*Ma.sz p+200≤LIM):Calls Tryz.prog 192 #[x] w fun e w'=>∃r,e=.returned r∧Nq w' r ((p.floor:Int))∧Me.Q w w':=mN (z:=false) (vs:=[x]) (aPE hB) nofun (vl1 hx)
end
section
open Go.RowKit
open Ma Me
theorem aAU{w:World}{g b o:Nat}{s t u:Value}(h:b≠g):(((w.setCell ⟨g,0,none⟩ s).setCell ⟨g,1,none⟩ t).setCell ⟨g,2,none⟩ u).cell? ⟨b,o,none⟩=w.cell? ⟨b,o,none⟩:=by
 rw[World.cell?_setCell_other _ _ _ _ (by intro e;cases e;exact h rfl),World.cell?_setCell_other _ _ _ _ (by intro e;cases e;exact h rfl),World.cell?_setCell_other _ _ _ _ (by intro e;cases e;exact h rfl)]
end
namespace K
open Go.RowKit
open Ma Me Po
theorem aDC{xs:List Rat}{n:Nat}(hn:n≤xs.length)(h0:∀i,n≤i→cf xs i=0)(h1:n=0∨cf xs (n-1)≠0):(ct xs).length=n:=by
 have e:ct xs=xs.take n:=by
  refine xA (nD xs) ?_ (fun k=>?_)
  ·rcases h1 with rfl|h1
   ·exact Or.inl rfl
   ·refine Or.inr ?_;rw[List.length_take,Nat.min_eq_left hn];have:cf (xs.take n) (n-1)=cf xs (n-1):=by
     unfold cf;rw[List.getElem?_take];split
     ·rfl
     ·by_cases hz:n=0
      ·subst hz;exact absurd (h0 0 (Nat.le_refl _)) (by simpa using h1)
      ·omega
    rw[this];exact h1
  ·rw[gV];by_cases hk:k<n
   ·unfold cf;rw[List.getElem?_take,if_pos hk]
   ·rw[h0 k (by omega)];unfold cf;rw[List.getElem?_take,if_neg hk];rfl
 rw[e,List.length_take,Nat.min_eq_left hn]
end K
namespace Po
open Ma Me
theorem aRW{a b m:Nat}(ha:dg W64 a≤m)(hb:dg W64 b≤m):dg W64 (a+b)≤m+1:=by
 rw[aK aC]at ha hb⊢;rw[Nat.pow_succ];have:2≤W64:=by decide
 have:=Nat.mul_le_mul_left (W64^m) this;omega
theorem aRX(x y:Rat):dg W64 (x+y).den≤dg W64 x.den+dg W64 y.den∧∀m,dg W64 x.num.natAbs+dg W64 y.den≤m→dg W64 y.num.natAbs+dg W64 x.den≤m→dg W64 (x+y).num.natAbs≤m+1:=by
 obtain⟨h1,h2,-,-,h5,-⟩:=aAu (x:=x) (y:=y) rfl rfl rfl rfl rfl;rw[h1,h2,Int.natAbs_ediv_of_dvd h5];simp only[Int.natAbs_natCast];generalize Nat.gcd x.den y.den=d;generalize hg:Nat.gcd (x.num*((y.den/d:Nat):Int)+y.num*((x.den/d:Nat):Int)).natAbs d=c;have a1:(x.num*((y.den/d:Nat):Int)+y.num*((x.den/d:Nat):Int)).natAbs≤x.num.natAbs*(y.den/d)+y.num.natAbs*(x.den/d):=by
  have:=Int.natAbs_add_le (x.num*((y.den/d:Nat):Int)) (y.num*((x.den/d:Nat):Int))
  rwa [Int.natAbs_mul,Int.natAbs_mul,Int.natAbs_natCast,Int.natAbs_natCast]at this
 have a2:=dQ aC (Nat.le_trans (Nat.div_le_self _ c) a1);have a4:=dC aC x.num.natAbs (y.den/d);have a5:=dC aC y.num.natAbs (x.den/d);have a6:=dQ aC (Nat.div_le_self x.den d);have a7:=dQ aC (Nat.div_le_self y.den d);have a8:=dC aC (x.den/d) (y.den/c);have a9:=dQ aC (Nat.div_le_self y.den c);exact⟨by omega,fun m hx hy=>Nat.le_trans a2 (aRW (m:=m) (by omega) (by omega))⟩
theorem aN6{f:Nat→Rat}{B:Nat}:∀n:Nat,(∀i,i<n→sz (f i)≤B)→dg W64 (sm f n).den≤n*B+1∧dg W64 (sm f n).num.natAbs≤n*B+B+n+1
 |0,_=>by
  have h1:(sm f 0).den=1:=rfl;have h2:(sm f 0).num.natAbs=0:=rfl;rw[h1,h2,iK aC,aU];omega
 |n+1,h=>by
  obtain⟨i1,i2⟩:=aN6 n (fun i hi=>h i (by omega));have hb:=h n (by omega);have h1:=aQF (f n);have h2:=aJN (f n);have e:=fO (f n);obtain⟨j1,j2⟩:=aRX (sm f n) (f n);have hm:(n+1)*B=n*B+B:=Nat.succ_mul n B;rw[show sm f (n+1)=sm f n+f n from rfl,hm];exact⟨by omega,by have:=j2 (n*B+B+B+n+1) (by omega) (by omega);omega⟩
theorem aD5{f:Nat→Rat}{B n:Nat}(h:∀i,i<n→sz (f i)≤B):sz (sm f n)≤2*(n*B)+B+n+2:=by
 obtain⟨h1,h2⟩:=aN6 n h;rw[←fO];omega
def Sz(B:Nat)(p:List Rat):Prop:=∀i,sz (cf p i)≤B
theorem aTF{f g:Nat→Rat}{A B k:Nat}(hf:∀i,sz (f i)≤A)(hg:∀i,sz (g i)≤B):sz (cv f g k)≤2*((k+1)*(A+B))+(A+B)+(k+1)+2:=
 aD5 (fun i _=>Nat.le_trans (dI _ _) (Nat.add_le_add (hf i) (hg _)))
theorem aPG{p q:List Rat}{A B n:Nat}(hp:Sz A p)(hq:Sz B q)(hl:(ct p).length+(ct q).length≤n):Sz (2*(n*(A+B))+(A+B)+n+2) (bL p q):=by
 intro i;rcases Nat.lt_or_ge i n with h|h
 ·rw[nU];refine Nat.le_trans (aTF hp hq) ?_;have h1:(i+1)*(A+B)≤n*(A+B):=Nat.mul_le_mul_right _ h;omega
 ·have:cf (bL p q) i=0:=dS (by
   unfold bL;split
   ·exact Nat.zero_le _
   ·rw[bH];omega)
  rw[this];have:sz (0:Rat)≤2:=jX 0 (by decide);omega
end Po
section
open Go.RowKit
open Ma Me
theorem aFM{a b:Value}{x y:Bool}(h:x=y):Ending.returned (.tuple #[a,b,.bool x])=.returned (.tuple #[a,b,.bool y]):=by rw[h]
theorem toList_mk(l:List UInt8):(⟨l.toArray⟩:ByteArray).data.toList=l:=rfl
theorem aC4{l:List UInt8}{c:UInt8}{k:Nat}(h:l[k]? =some c)(hn:∀j,j<k→l[j]?≠some c):fE c l=l.take k∧aft c l=l.drop (k+1)∧c∈l:=by
 have hk:k<l.length:=by
  rcases Nat.lt_or_ge k l.length with h1|h1
  ·exact h1
  ·rw[List.getElem?_eq_none h1]at h;cases h
 have e:l=l.take k++c::l.drop (k+1):=by
  have h1:l[k]=c:=(by rw[List.getElem?_eq_getElem hk]at h;exact Option.some.inj h);rw[←h1,←List.drop_eq_getElem_cons hk,List.take_append_drop]
 have hc:c∉l.take k:=by
  intro hm;obtain⟨j,hj,hj2⟩:=List.getElem_of_mem hm;rw[List.length_take]at hj;refine hn j (by omega) ?_;rw[List.getElem_take]at hj2;rw[List.getElem?_eq_getElem (by omega),hj2]
 have hf:=aGT (s:=l.drop (k+1)) hc;rw[←e]at hf;exact⟨hf.1,hf.2,List.mem_of_getElem? h⟩
def aKZ(l:List UInt8)(c:UInt8)(w:World)(e:Ending)(w':World):Prop:=∃a b:ByteArray,e=.returned (.tuple #[.string a,.string b,.bool (decide (c∈l))])∧a.data.toList=fE c l∧b.data.toList=aft c l∧Q w w'
theorem aRY(s:ByteArray)(c:UInt8)(w:World)(hs:s.size≤9223372036854775806):Calls Tryz.prog 135 #[.string s,.string ⟨#[c]⟩] w (aKZ s.data.toList c w):=by
 have h1:=Lib.indexByte_ge s.data.toList c;have h2:=@Lib.indexByte_none s.data.toList c;have h3:=@Lib.indexByte_some s.data.toList c;have hsz:=Lib.size_eq s;obtain⟨i,hi⟩:∃i,Lib.indexByte s.data.toList c=i:=⟨_,rfl⟩
 rw[hi]at h1 h2 h3;rcases (by omega:i=-1∨0≤i) with rfl|h0
 ·have hn:=h2 rfl;have hnm:c∉s.data.toList:=fun hm=>by
   obtain⟨j,hj,hj2⟩:=List.getElem_of_mem hm;exact hn j (by rw[List.getElem?_eq_getElem hj,hj2])
  have HI:=hZ hi;clear h1 h2 h3 hn hi;obtain⟨f1,f2⟩:=aBm hnm;have HF1:=hZ f1;have HF2:=hZ f2;have HN:=hZ hnm;clear f1 f2 hnm hsz;go_enter Tryz.func135,Tryz.ntmps135
  go_wp2_with fail
  refine (Tryz.stringslite_Index_one s c _).mono ?_;rintro e w1 ⟨rfl,rfl⟩;rw[HI.out];go_wp2_with fail
  go_ret3
  exact⟨s,⟨#[]⟩,aFM (decide_eq_false HN.out).symm,HF1.out.symm,HF2.out.symm,Q.refl _⟩
 ·obtain⟨k,rfl⟩:=Int.eq_ofNat_of_zero_le h0;obtain⟨hk,hkn⟩:=h3 rfl;obtain⟨f1,f2,f3⟩:=aC4 hk hkn;have hlt:k<s.size:=by
   rw[hsz];rcases Nat.lt_or_ge k s.data.toList.length with h1|h1
   ·exact h1
   ·rw[List.getElem?_eq_none h1]at hk;cases hk
  have HI:=hZ hi;have HF1:=hZ f1;have HF2:=hZ f2;have HF3:=hZ f3;have HSZ:=hZ hsz;clear h1 h2 h3 hi f1 f2 f3 hk hkn hsz;have q1:(0:Int)≤(k:Int):=(by omega);have q2:(k:Int)≤(s.size:Int):=(by omega);have q3:(0:Int)≤(k:Int)+1:=(by omega);have q4:(k:Int)+1≤(s.size:Int):=(by omega);have q5:IntKind.i64.wrap ((k:Int)+1)=(k:Int)+1:=IntWalk.i64_in _ (by omega);have q6:((k:Int)+1).toNat=k+1:=(by omega);go_enter Tryz.func135,Tryz.ntmps135
  go_wp2_with fail
  refine (Tryz.stringslite_Index_one s c _).mono ?_;rintro e w1 ⟨rfl,rfl⟩;rw[HI.out];go_wp2_with fail
  go_quiet (fail)
  go_wp2_with fail
  go_ret3
  exact⟨s.extract 0 k,s.extract (k+1) s.size,aFM (decide_eq_true HF3.out).symm,by rw[Lib.extract_data,HF1.out];simp,by rw[Lib.extract_to_end,HF2.out],(Q.refl _).drewN _⟩
theorem aIT(s:ByteArray)(c:UInt8)(w:World)(hs:s.size≤9223372036854775806):Calls Tryz.prog 82 #[.string s,.string ⟨#[c]⟩] w (aKZ s.data.toList c w):=by
 obtain⟨t,ht⟩:∃t,decide (c∈s.data.toList)=t:=⟨_,rfl⟩
 have HT:=hZ ht;clear ht;go_enter Tryz.func82,Tryz.ntmps82
 go_wp2_with fail
 refine (aRY s c _ hs).mono ?_;rintro e w1 ⟨a,b,rfl,ha,hb,hq⟩;rw[HT.out];have HA:=hZ ha;have HBb:=hZ hb;clear ha hb;go_wp2_with fail
 go_ret3
 exact⟨a,b,aFM HT.out.symm,HA.out,HBb.out,hq⟩
theorem aIU(l:List UInt8):Lib.hasPrefix l [45]=fM l∧Lib.trimPrefix l [45]=unsigned l:=by
 have e:Lib.hasPrefix l [45]=fM l:=by
  unfold Lib.hasPrefix fM;cases l with
  |nil=>rfl
  |cons c t=>
   simp[List.isPrefixOf];by_cases h:c=45
   ·subst h;rfl
   ·rw[beq_eq_false_iff_ne.2 (fun h1=>h h1.symm),beq_eq_false_iff_ne.2 h]
 refine⟨e,?_⟩;unfold Lib.trimPrefix unsigned;rw[e];split
 ·cases l<;>rfl
 ·rfl
theorem aAa(s:ByteArray)(w:World):Calls Tryz.prog 81 #[.string s,.string ⟨#[45]⟩] w fun e w'=>∃a:ByteArray,e=.returned (.tuple #[.string a,.bool (fM s.data.toList)])∧a.data.toList=unsigned s.data.toList∧a.size≤s.size∧w'=w:=by
 refine (Tryz.strings_CutPrefix s ⟨#[45]⟩ w).mono ?_;rintro e w' ⟨h1,h2⟩;obtain⟨e1,e2⟩:=aIU s.data.toList;have e1':Lib.hasPrefix s.data.toList (⟨#[45]⟩:ByteArray).data.toList=fM s.data.toList:=e1;have e2':Lib.trimPrefix s.data.toList (⟨#[45]⟩:ByteArray).data.toList=unsigned s.data.toList:=e2;rw[e1',e2']at h1;refine⟨_,h1,rfl,?_,h2⟩;rw[Lib.size_eq,Lib.size_eq,toList_mk];unfold unsigned;split
 ·rw[List.length_tail];omega
 ·exact Nat.le_refl _
theorem aK0(s:ByteArray)(l:List UInt8)(hl:s.data.toList=l)(hpos:0<s.size)(hA:dE l):(s[0].toNat=48→decide (Row l)=((s.size:Int) == 1))∧(¬s[0].toNat=48→decide (Row l)=true):=by
 have hsz:=Lib.size_eq s;rw[hl]at hsz;have hh:l.head? =some s[0]:=by
  rw[←hl,List.head?_eq_getElem?];have hp:0<s.data.toList.length:=(by rw[←Lib.size_eq];exact hpos);rw[List.getElem?_eq_getElem hp];rfl
 have hne:l≠[]:=fun h=>by rw[h]at hh;cases hh
 constructor
 ·intro h;have h48:s[0]=48:=aDo h;rw[h48]at hh;by_cases h1:s.size=1
  ·have:l=[48]:=by
    cases l with
    |nil=>exact absurd rfl hne
    |cons c t=>
     simp at hh hsz;have:t=[]:=List.eq_nil_of_length_eq_zero (by omega);rw[hh,this]
   rw[decide_eq_true (show Row l from⟨hA,hne,fun _=>this⟩),h1];rfl
  ·rw[decide_eq_false (show ¬Row l from fun hr=>h1 (by rw[hsz,hr.2.2 hh];rfl))];exact (beq_eq_false_iff_ne.2 (by omega)).symm
 ·intro h;refine decide_eq_true ⟨hA,hne,fun h1=>absurd ?_ h⟩;rw[hh]at h1;rw[Option.some.inj h1];rfl
theorem aHy(s:ByteArray)(w:World):Calls Tryz.prog 83 #[.string s] w fun e w'=>e=.returned (.bool (decide (Row s.data.toList)))∧Q w w':=by
 have hsz:=Lib.size_eq s;obtain⟨l,hl⟩:∃l,s.data.toList=l:=⟨_,rfl⟩
 rw[hl]at hsz⊢;by_cases h:dE l∧l≠[]
 ·have ha:oW l=true:=decide_eq_true h;have hpos:0<s.size:=(by rw[hsz];exact List.length_pos_iff.2 h.2);have hk:=aK0 s l hl hpos h.1;have HA:=hZ ha;have HL:=hZ hl;have HK:=hZ hk;clear ha hl h hsz hk;go_enter Tryz.func83,Tryz.ntmps83
  go_wp2_with fail
  refine (oZ s _).mono ?_;rintro e w1 ⟨rfl,hq⟩;rw[HL.out,HA.out];go_wp2_with fail
  ·go_ret
   have h:(s[0].toNat:Int)=48:=(by assumption);exact⟨aBo (HK.out.1 (by omega)).symm,hq⟩
  ·go_ret
   have h:¬(s[0].toNat:Int)=48:=(by assumption);exact⟨aBo (HK.out.2 (by omega)).symm,hq⟩
 ·have ha:oW l=false:=decide_eq_false h;have hr:decide (Row l)=false:=decide_eq_false (fun hr=>h ⟨hr.1,hr.2.1⟩);rw[hr];clear hr;have HA:=hZ ha;have HL:=hZ hl;clear ha hl h hsz;go_enter Tryz.func83,Tryz.ntmps83
  go_wp2_with fail
  refine (oZ s _).mono ?_;rintro e w1 ⟨rfl,hq⟩;rw[HL.out,HA.out];go_wp2_with fail
  go_ret
  exact⟨rfl,hq⟩
theorem aPH(N:Nat):(dec N).length≤20*dg W64 N+1:=by
 rw[jQ];split
 ·omega
 ·have h:dg 10 N≤20*dg W64 N:=by
   rw[aK (by decide),Nat.pow_mul];exact Nat.lt_of_lt_of_le (aY aC N) (Nat.pow_le_pow_left (by decide) _)
  omega
theorem aK1{t:ByteArray}{p:Rat}(h:t.data.toList=qO p):t.size≤1:=by
 rw[Lib.size_eq,h];unfold qO;split<;>decide
theorem aFN{t:ByteArray}{N:Nat}(h:t.data.toList=dec N)(hN:dg W64 N≤1000000000):t.size≤20000000001:=by
 rw[Lib.size_eq,h];have:=aPH N;omega
theorem oJ(a b:ByteArray):(a++b).data.toList=a.data.toList++b.data.toList:=by
 simp
theorem aTG{d:Nat}(h:¬d=1):bt d=d:=if_neg h
theorem aK2{a b:ByteArray}{p:Rat}(ha:a.data.toList=qO p)(hb:b.data.toList=dec p.num.natAbs)(hd:p.den=1):(a++b).data.toList=gH p:=by
 rw[oJ,ha,hb,aEA,if_pos hd,List.append_nil]
theorem aK3{a b c:ByteArray}{p:Rat}(ha:a.data.toList=qO p)(hb:b.data.toList=dec p.num.natAbs)(hc:c.data.toList=dec (bt p.den))(hd:¬p.den=1):(a++b++(⟨#[47]⟩++c)).data.toList=gH p:=by
 rw[oJ,oJ,oJ,ha,hb,hc,aEA,if_neg hd,aTG hd,List.append_assoc];rfl
theorem aIV(x:Value)(p:Rat)(w:World)(hx:Nq w x p):Calls Tryz.prog 66 #[x] w fun e w'=>∃t:ByteArray,e=.returned (.string t)∧t.data.toList=qO p∧Q w w':=by
 obtain⟨s1,A1,n1,c1,A2,n2,c2,rfl,E1,Z1,O1,hxt,hxb⟩:=hx.form;obtain⟨w0,hW,hG0,hX0⟩:=aKU w s1 (.slice A1 n1 c1) (.slice A2 n2 c2);have he0:s1=decide (p<0):=E1.out.trans (decide_eq_decide.2 (iR p));by_cases hp:p<0
 ·have k0:s1=true:=he0.trans (decide_eq_true hp);have HS:=hZ (if_pos hp:qO p=[45]);subst k0;clear he0 hp;obtain⟨x0,x1,x2⟩:=hX0.cells;go_enter Tryz.func66,Tryz.ntmps66
  go_wp2_with fail
  go_ret
  exact⟨⟨#[45]⟩,rfl,HS.out.symm,hG0⟩
 ·have k0:s1=false:=he0.trans (decide_eq_false hp);have HS:=hZ (if_neg hp:qO p=[]);subst k0;clear he0 hp;obtain⟨x0,x1,x2⟩:=hX0.cells;go_enter Tryz.func66,Tryz.ntmps66
  go_wp2_with fail
  go_ret
  exact⟨⟨#[]⟩,rfl,HS.out.symm,hG0⟩
theorem aK4(x:Value)(p:Rat)(w:World)(hx:Nq w x p)(hB:sz p≤1000000000):Calls Tryz.prog 24 #[x] w fun e w'=>∃t:ByteArray,e=.returned (.string t)∧t.data.toList=gH p∧Q w w':=by
 obtain⟨s1,A1,n1,c1,A2,n2,c2,rfl,E1,Z1,O1,hxt,hxb⟩:=hx.form;obtain⟨w0,hW,hG0,hX0⟩:=aKU w s1 (.slice A1 n1 c1) (.slice A2 n2 c2);have b1:dg W64 p.num.natAbs≤1000000000:=by have:=fO p;omega
 have b2:dg W64 (bt p.den)≤1000000000:=by have:=aN2 p;omega
 go_enter Tryz.func24,Tryz.ntmps24
 obtain⟨x0,x1,x2⟩:=hX0.cells;go_wp2_with fail
 clear hW;clear x0 x1 x2;obtain⟨x0,x1,x2⟩:=hX0.cells;refine wp_region_held_drew (S:=fun W=>W.cell? ⟨w.heap.size,0,none⟩=some (.bool s1)∧W.cell? ⟨w.heap.size,1,none⟩=some (.slice A1 n1 c1)∧W.cell? ⟨w.heap.size,2,none⟩=some (.slice A2 n2 c2)) (by kernel_rfl) (by exact⟨x0,x1,x2⟩) (fun hHeld=>?_);refine wpAnyH_take (i:=0) (v:=?v0) rfl (by kernel_rfl) (by kernel_rfl) (by kernel_rfl) (fun _ _ _ h=>h) (Or.inl ⟨by rfl,?h0⟩) (by assumption) ?r0
 case h0=>
  intro W hSw
  (try dsimp only at hSw)
  go_simp
  try (with_reducible rfl)
 try simp only[Act.put]
 try simp only[List.setIfInBounds_toArray]
 try simp only[List.set_cons_zero,List.set_cons_succ]
 refine wpAnyH_take (i:=2) (v:=?v2) rfl (by kernel_rfl) (by kernel_rfl) (by kernel_rfl) (fun _ _ _ h=>h) (Or.inl ⟨by rfl,?h2⟩) (by assumption) ?r2
 case h2=>
  intro W hSw
  (try dsimp only at hSw)
  go_simp
  try (with_reducible rfl)
 try simp only[Act.put]
 try simp only[List.setIfInBounds_toArray]
 try simp only[List.set_cons_zero,List.set_cons_succ]
 refine wpAnyH_take (i:=3) (v:=?v3) rfl (by kernel_rfl) (by kernel_rfl) (by kernel_rfl) (fun _ _ _ h=>h) (Or.inl ⟨by rfl,?h3⟩) (by assumption) ?r3
 case h3=>
  intro W hSw
  (try dsimp only at hSw)
  go_simp
  try (with_reducible rfl)
 try simp only[Act.put]
 try simp only[List.setIfInBounds_toArray]
 try simp only[List.set_cons_zero,List.set_cons_succ]
 refine wpAnyH_ready (rs:=[1]) (by kernel_rfl) (by decide) (AllReadyH.cons rfl (fun K hK=>?_) AllReadyH.nil);go_simp
 (with_reducible refine (aIV _ p _ (hx.q hG0.drew)).mono ?_)
 rintro e w1 ⟨ta,rfl,hta,hq1d⟩;have hq1:Q w0 w1:=(Q.refl w0).drew.trans hq1d;have hG1:=hG0.trans hq1;have hX1:=hX0.q hq1;obtain⟨x0,x1,x2⟩:=hX1.cells;have sa:=aK1 hta;have HTA:=hZ hta;clear hta;go_wp2_with fail
 refine hK.out _ _ (by exact⟨by assumption,by assumption,by assumption⟩) (fun hHeld=>?_);clear hK K;try simp only[Act.put]
 try simp only[List.setIfInBounds_toArray]
 try simp only[List.set_cons_zero,List.set_cons_succ]
 refine wpAnyH_ready (rs:=[4]) (by kernel_rfl) (by decide) (AllReadyH.cons rfl (fun K hK=>?_) AllReadyH.nil);go_simp
 (with_reducible refine (aCj _ p.num.natAbs _ (hxt.q hG1) b1).mono ?_)
 rintro e w2 ⟨tb,rfl,htb,hq2⟩;have hG2:=hG1.trans hq2;have hX2:=hX1.q hq2;obtain⟨x0,x1,x2⟩:=hX2.cells;have sb:=aFN htb b1;have HTB:=hZ htb;clear htb;go_wp2_with fail
 refine hK.out _ _ (by exact⟨by assumption,by assumption,by assumption⟩) (fun hHeld=>?_);clear hK K;try simp only[Act.put]
 try simp only[List.setIfInBounds_toArray]
 try simp only[List.set_cons_zero,List.set_cons_succ]
 refine wpAnyH_ready (rs:=[5]) (by kernel_rfl) (by decide) (AllReadyH.cons rfl (fun K hK=>?_) AllReadyH.nil);go_simp
 rw[if_neg (by have:=sa;have:=sb;omega)];go_simp
 refine hK.out _ _ (by exact⟨by assumption,by assumption,by assumption⟩) (fun hHeld=>?_);clear hK K;try simp only[Act.put]
 try simp only[List.setIfInBounds_toArray]
 try simp only[List.set_cons_zero,List.set_cons_succ]
 refine wpAnyH_take (i:=6) (v:=?v6) rfl (by kernel_rfl) (by kernel_rfl) (by kernel_rfl) (fun _ _ _ h=>h) (Or.inl ⟨by rfl,?h6⟩) (by assumption) ?r6
 case h6=>
  intro W hSw
  (try dsimp only at hSw)
  go_simp
  try (with_reducible rfl)
 try simp only[Act.put]
 try simp only[List.setIfInBounds_toArray]
 try simp only[List.set_cons_zero,List.set_cons_succ]
 refine wpAnyH_done (by kernel_rfl) ?_ _;all_goals
  obtain⟨x0,x1,x2⟩:=hX2.cells;go_wp2_with fail
  refine (aPy _ p _ (hx.q hG2)).mono ?_;rintro e w3 ⟨rfl,hq3⟩;have hG3:=hG2.trans hq3;have hX3:=hX2.q hq3;clear x0 x1 x2;obtain⟨x0,x1,x2⟩:=hX3.cells;by_cases hd:p.den=1
  ·rw[decide_eq_true hd];have HD:=hZ hd;clear hd;go_wp2_with fail
   go_ret
   exact⟨_,rfl,aK2 HTA.out HTB.out HD.out,hG3⟩
  ·rw[decide_eq_false hd];have HD:=hZ hd;clear hd;go_wp2_with fail
   refine (aCj _ (bt p.den) _ (hxb.q hG3) b2).mono ?_;rintro e w4 ⟨tc,rfl,htc,hq4⟩;have hG4:=hG3.trans hq4;have hX4:=hX3.q hq4;clear x0 x1 x2;have sc:=aFN htc b2;have HTC:=hZ htc;clear htc;go_wp2_with fail
   go_ret
   exact⟨_,rfl,aK3 HTA.out HTB.out HTC.out HD.out,hG4⟩
theorem aK5(z:Int)(w:World)(hB:z.natAbs≤1000000):Calls Tryz.prog 238 #[.int .i64 z] w fun e w'=>∃r,e=.returned r∧Nq w' r (fZ z)∧Q w w':=by
 obtain⟨w0,hW,hG0,hR0⟩:∃W,w.alloc (.cells #[.bool false,.slice none 0 0,.slice none 0 0] 41)=W∧Q w W∧Nb W w.heap.size false (.slice none 0 0) (.slice none 0 0):=⟨_,rfl,(Q.refl _).alloc _,Nb.new w _ _ _⟩
 by_cases hz0:z<0
 ·obtain⟨k,hk⟩:∃k:Nat,(-z).toNat=k:=⟨_,rfl⟩
  have hzk:z=-(k:Int):=(by omega);have hnz:-z=(k:Int):=(by omega);have hpw:fZ z=fZ (-(k:Int)):=(by rw[hzk]);rw[hpw];have b1:k+9≤LIM:=(by rw[aB];omega);have b2:-1000000≤z:=(by omega);obtain⟨p1,p2⟩:=vN k;have HP1:=hZ p1;have HP2:=hZ p2;clear p1 p2 hpw hk hzk hB;go_enter Tryz.func238,Tryz.ntmps238
  go_wp2_with fail
  clear hW;refine (jK 1 1 _ rfl (by decide)).mono ?_;rintro e w1 ⟨t2,rfl,ht2,hq1,-⟩;have hG1:=hG0.trans hq1;have hR1:=hR0.q hq1;obtain⟨A6,n6,c6,rfl⟩:=ht2.form;go_wp2_with fail
  refine (aC0 k _ _ rfl b1).mono ?_;rintro e w2 ⟨t3,rfl,ht3,hq2,-⟩;have hG2:=hG1.trans hq2;have hR2:=hR1.q hq2;have fz:=hR2.frozen;obtain⟨r0,r1,r2⟩:=hR2.cells;obtain⟨A7,n7,c7,rfl⟩:=ht3.form;go_wp2_with fail
  refine (qY false _ _ 1 (10^k) _ (ht2.q hq2) ht3).mono ?_;rintro e w3 ⟨v5,rfl,hv5,hq3⟩;have hG3:=hG2.trans hq3;have hR3:=hR2.q hq3;clear fz r0 r1 r2;have fz:=hR3.frozen;obtain⟨r0,r1,r2⟩:=hR3.cells;obtain⟨B1,d1,B2,d2,rfl,-,-⟩:=hv5.form;have hv:=Nq.made (q:=fZ (-(k:Int))) hv5 HP1.out (fun _=>HP2.out);generalize (decide (0<1) && false)=s4 at*
  generalize dg W64 (if 1=0 then 0 else bt (10^k))=m2 at*
  generalize dg W64 1=m1 at*
  go_wp2_with fail
  obtain⟨z0,z1,z2,hvF,hqF⟩:=Nq.store hR3 hv hG3 (Nat.le_refl _);unfold put3 at z0 z1 z2 hvF hqF;refine rz3 z0 z1 z2 ?_;exact⟨_,rfl,hvF,hqF⟩
 ·obtain⟨k,rfl⟩:=Int.eq_ofNat_of_zero_le (show 0≤z by omega);have b1:k+9≤LIM:=(by rw[aB];omega);obtain⟨p1,p2⟩:=vM k;have HP1:=hZ p1;have HP2:=hZ p2;clear p1 p2 hB;go_enter Tryz.func238,Tryz.ntmps238
  go_wp2_with fail
  clear hW;refine (aC0 k _ _ rfl b1).mono ?_;rintro e w1 ⟨t3,rfl,ht3,hq1,-⟩;have hG1:=hG0.trans hq1;have hR1:=hR0.q hq1;have fz:=hR1.frozen;obtain⟨r0,r1,r2⟩:=hR1.cells;obtain⟨A7,n7,c7,rfl⟩:=ht3.form;go_wp2_with fail
  refine (jU false _ (10^k) _ ht3).mono ?_;rintro e w2 ⟨v5,rfl,hv5,hq2⟩;have hG2:=hG1.trans hq2;have hR2:=hR1.q hq2;clear fz r0 r1 r2;have fz:=hR2.frozen;obtain⟨r0,r1,r2⟩:=hR2.cells;obtain⟨B1,d1,B2,d2,rfl,-,-⟩:=hv5.form;have hv:=Nq.int (q:=fZ (k:Int)) hv5 HP1.out HP2.out;generalize (decide (0<10^k) && false)=s4 at*
  generalize dg W64 (10^k)=m1 at*
  generalize dg W64 0=m2 at*
  go_wp2_with fail
  obtain⟨z0,z1,z2,hvF,hqF⟩:=Nq.store hR2 hv hG2 (Nat.le_refl _);unfold put3 at z0 z1 z2 hvF hqF;refine rz3 z0 z1 z2 ?_;exact⟨_,rfl,hvF,hqF⟩
theorem aHz{neg two:Bool}{f b:List UInt8}(_:Row f)(hz:f=[48])(h:neg=true∨two=true):bP neg f b two=(6,0):=if_pos (.inr ⟨hz,h⟩)
theorem aN7{neg two:Bool}{f:List UInt8}(hr:Row f)(hz:f=[48]∧(neg=true∨two=true)→False):¬(¬Row f∨(f=[48]∧(neg=true∨two=true))):=fun h=>by
 rcases h with h|h
 ·exact h hr
 ·exact hz h
theorem aFO{neg:Bool}{f b:List UInt8}(hr:Row f)(hz:f=[48]∧(neg=true∨true=true)→False)(h:¬Row b∨b=[48]∨b=[49]):bP neg f b true=(6,0):=by
 unfold bP;rw[if_neg (aN7 hr hz),if_pos ⟨rfl,h⟩]
theorem aCo{neg two:Bool}{f b:List UInt8}(hr:Row f)(hz:f=[48]∧(neg=true∨two=true)→False)(h:two=true→¬(¬Row b∨b=[48]∨b=[49])):
  bP neg f b two=if 1000<f.length∨1000<b.length then (3,0) else if two=false then (0,mkQ neg (dv f) 1) else if Nat.gcd (dv f) (dv b)≠1 then (6,0) else (0,mkQ neg (dv f) (dv b)):=by
 unfold bP;rw[if_neg (aN7 hr hz),if_neg (fun h1=>h h1.1 h1.2)]
theorem aAV{neg two:Bool}{f b:List UInt8}(hl:1000<f.length∨1000<b.length)(hr:Row f)(hz:f=[48]∧(neg=true∨two=true)→False)(h:two=true→¬(¬Row b∨b=[48]∨b=[49])):bP neg f b two=(3,0):=by
 rw[aCo hr hz h,if_pos hl]
theorem aK6{neg:Bool}{f b:List UInt8}(hr:Row f)(hz:f=[48]∧(neg=true∨false=true)→False)(h1:¬1000<f.length)(h2:¬1000<b.length):bP neg f b false=(0,mkQ neg (dv f) 1):=by
 rw[aCo hr hz (fun h=>by cases h),if_neg (fun h=>h.elim h1 h2),if_pos rfl]
theorem aPI{neg:Bool}{f b:List UInt8}(hr:Row f)(hz:f=[48]∧(neg=true∨true=true)→False)(h:¬(¬Row b∨b=[48]∨b=[49]))(h1:¬1000<f.length)(h2:¬1000<b.length)(hg:Nat.gcd (dv f) (dv b)=1):bP neg f b true=(0,mkQ neg (dv f) (dv b)):=by
 rw[aCo hr hz (fun _=>h),if_neg (fun h=>h.elim h1 h2),if_neg (by decide),if_neg (fun h=>h hg)]
theorem aRZ{neg:Bool}{f b:List UInt8}(hr:Row f)(hz:f=[48]∧(neg=true∨true=true)→False)(h:¬(¬Row b∨b=[48]∨b=[49]))(h1:¬1000<f.length)(h2:¬1000<b.length)(hg:¬Nat.gcd (dv f) (dv b)=1):bP neg f b true=(6,0):=by
 rw[aCo hr hz (fun _=>h),if_neg (fun h=>h.elim h1 h2),if_neg (by decide),if_pos hg]
theorem aC5(s:ByteArray)(w:World)(hT:Tb w)(hs:s.size≤9223372036854775806):Calls Tryz.prog 39 #[.string s] w fun e w'=>∃r,e=.returned (.tuple #[r,.int .i64 (bO s.data.toList).1])∧Nq w' r (bO s.data.toList).2∧Q w w':=by
 obtain⟨w0,hW,hG0,hR0⟩:∃W,w.alloc (.cells #[.bool false,.slice none 0 0,.slice none 0 0] 41)=W∧Q w W∧Nb W w.heap.size false (.slice none 0 0) (.slice none 0 0):=⟨_,rfl,(Q.refl _).alloc _,Nb.new w _ _ _⟩
 obtain⟨neg,hneg⟩:∃neg,fM s.data.toList=neg:=⟨_,rfl⟩
 obtain⟨two,htwo⟩:∃two,decide (47∈unsigned s.data.toList)=two:=⟨_,rfl⟩
 obtain⟨f,hf⟩:∃f,fE 47 (unsigned s.data.toList)=f:=⟨_,rfl⟩
 obtain⟨b,hb⟩:∃b,aft 47 (unsigned s.data.toList)=b:=⟨_,rfl⟩
 have hb2:two=false→b=[]:=fun h=>by rw[←hb];exact (aBm (of_decide_eq_false (htwo.trans h))).2
 have hP:bO s.data.toList=bP neg f b two:=by unfold bO;rw[hneg,htwo,hf,hb]
 have HP:=hZ hP;have HN:=hZ hneg;have HT2:=hZ htwo;have HF:=hZ hf;have HBb:=hZ hb;have HB2:=hZ hb2;clear hP hneg htwo hf hb hb2;go_enter Tryz.func39,Tryz.ntmps39
 go_wp2_with fail
 clear hW;refine (aAa s _).mono ?_;rintro e w90 ⟨a,rfl,ha,hsz,rfl⟩;rw[HN.out];have HA:=hZ ha;clear ha;go_wp2_with fail
 refine (aIT a 47 _ (by omega)).mono ?_;rintro e w1 ⟨fa,fb,rfl,hfa,hfb,hq1⟩;have hG1:=hG0.trans hq1;have hR1:=hR0.q hq1;rw[HA.out]at hfa hfb⊢;rw[HT2.out];rw[HF.out]at hfa;rw[HBb.out]at hfb;have la:fa.size=f.length:=by rw[Lib.size_eq,hfa]
 have lb:fb.size=b.length:=by rw[Lib.size_eq,hfb]
 have ta:fa.toList=f:=(ByteArray.toList_eq _).trans hfa;have tb:fb.toList=b:=(ByteArray.toList_eq _).trans hfb;have HFA:=hZ hfa;have HFB:=hZ hfb;have LA:=hZ la;have LB:=hZ lb;have TA:=hZ ta;have TB:=hZ tb;clear hfa hfb la lb ta tb;go_wp2_with fail
 refine (aHy fa _).mono ?_;rintro e w2 ⟨rfl,hq2⟩;have hG2:=hG1.trans hq2;have hR2:=hR1.q hq2;rw[HFA.out];by_cases hr:Row f
 ·rw[decide_eq_true hr];by_cases hz:f=[48]
  ·have tz0:fa.toList=[48]:=TA.out.trans hz;have HZ:=hZ hz;clear hz;cases neg
   ·cases two
    ·have hbn:b=[]:=HB2.out rfl;have hfb0:¬(1000:Int)<(fb.size:Int):=(by rw[LB.out,hbn];decide);have HBN:=hZ hbn;clear hbn;by_cases hl:1000<f.length
     ·have hl2:(1000:Int)<(fa.size:Int):=(by rw[LA.out];omega);have HLL:=hZ hl;clear hl;have fz:=hR2.frozen;obtain⟨r0,r1,r2⟩:=hR2.cells;go_wp2_with fail
      have hv:=gF w2;obtain⟨z0,z1,z2,hvF,hqF⟩:=Nq.store hR2 hv hG2 (Nat.le_refl _);unfold put3 at z0 z1 z2 hvF hqF;refine rt3 (.int .i64 3) z0 z1 z2 ?_;have hres:bP false f b false=((3:Int),(0:Rat)):=aAV (.inl HLL.out) hr (fun h=>by rcases h.2 with h|h<;>cases h) (fun h=>by cases h);rw[HP.out,hres];exact⟨_,rfl,hvF,hqF⟩
     ·have hl2:¬(1000:Int)<(fa.size:Int):=(by rw[LA.out];omega);have hsf:fa.size+100≤LIM:=(by rw[LA.out,aB];omega);have HLL:=hZ hl;clear hl;go_wp2_with fail
      refine (jM fa _ (by rw[HFA.out];exact hr.1) hsf).mono ?_;rintro e w3 ⟨t1,rfl,ht1,hq3,-⟩;have hG3:=hG2.trans hq3;have hR3:=hR2.q hq3;have fz:=hR3.frozen;obtain⟨r0,r1,r2⟩:=hR3.cells;rw[HFA.out]at ht1;obtain⟨A5,n5,c5,rfl⟩:=ht1.form;go_wp2_with fail
      refine (jU false _ (dv f) _ ht1).mono ?_;rintro e w4 ⟨v5,rfl,hv5,hq4⟩;have hG4:=hG3.trans hq4;have hR4:=hR3.q hq4;clear fz r0 r1 r2;have fz:=hR4.frozen;obtain⟨r0,r1,r2⟩:=hR4.cells;obtain⟨B1,d1,B2,d2,rfl,-,-⟩:=hv5.form;have hv:=Nq.int (q:=mkQ false (dv f) 1) hv5 ((gM (by decide) (Nat.gcd_one_right _)).1) ((gM (by decide) (Nat.gcd_one_right _)).2);generalize (decide (0<dv f) && false)=s4 at*
      generalize dg W64 (dv f)=m1 at*
      generalize dg W64 0=m2 at*
      go_wp2_with fail
      obtain⟨z0,z1,z2,hvF,hqF⟩:=Nq.store hR4 hv hG4 (Nat.le_refl _);unfold put3 at z0 z1 z2 hvF hqF;refine rt3 (.int .i64 0) z0 z1 z2 ?_;have hres:bP false f b false=((0:Int),(mkQ false (dv f) 1:Rat)):=aK6 hr (fun h=>by rcases h.2 with h|h<;>cases h) HLL.out (by rw[HBN.out];decide);rw[HP.out,hres];exact⟨_,rfl,hvF,hqF⟩
    ·have fz:=hR2.frozen;obtain⟨r0,r1,r2⟩:=hR2.cells;go_wp2_with fail
     have hv:=gF w2;obtain⟨z0,z1,z2,hvF,hqF⟩:=Nq.store hR2 hv hG2 (Nat.le_refl _);unfold put3 at z0 z1 z2 hvF hqF;refine rt3 (.int .i64 6) z0 z1 z2 ?_;have hres:bP false f b true=((6:Int),(0:Rat)):=aHz hr HZ.out (.inr rfl);rw[HP.out,hres];exact⟨_,rfl,hvF,hqF⟩
   ·have fz:=hR2.frozen;obtain⟨r0,r1,r2⟩:=hR2.cells;go_wp2_with fail
    have hv:=gF w2;obtain⟨z0,z1,z2,hvF,hqF⟩:=Nq.store hR2 hv hG2 (Nat.le_refl _);unfold put3 at z0 z1 z2 hvF hqF;refine rt3 (.int .i64 6) z0 z1 z2 ?_;have hres:bP true f b two=((6:Int),(0:Rat)):=aHz hr HZ.out (.inl rfl);rw[HP.out,hres];exact⟨_,rfl,hvF,hqF⟩
  ·have tz0:¬fa.toList=[48]:=fun h=>hz (TA.out.symm.trans h);have tc:(fa.toList == [48])=false:=beq_eq_false_iff_ne.2 tz0;have HZ:=hZ hz;clear hz;cases two
   ·have hbn:b=[]:=HB2.out rfl;have hfb0:¬(1000:Int)<(fb.size:Int):=(by rw[LB.out,hbn];decide);have HBN:=hZ hbn;clear hbn;by_cases hl:1000<f.length
    ·have hl2:(1000:Int)<(fa.size:Int):=(by rw[LA.out];omega);have HLL:=hZ hl;clear hl;have fz:=hR2.frozen;obtain⟨r0,r1,r2⟩:=hR2.cells;go_wp2_with fail
     have hv:=gF w2;obtain⟨z0,z1,z2,hvF,hqF⟩:=Nq.store hR2 hv hG2 (Nat.le_refl _);unfold put3 at z0 z1 z2 hvF hqF;refine rt3 (.int .i64 3) z0 z1 z2 ?_;have hres:bP neg f b false=((3:Int),(0:Rat)):=aAV (.inl HLL.out) hr (fun h=>HZ.out h.1) (fun h=>by cases h);rw[HP.out,hres];exact⟨_,rfl,hvF,hqF⟩
    ·have hl2:¬(1000:Int)<(fa.size:Int):=(by rw[LA.out];omega);have hsf:fa.size+100≤LIM:=(by rw[LA.out,aB];omega);have HLL:=hZ hl;clear hl;go_wp2_with fail
     refine (jM fa _ (by rw[HFA.out];exact hr.1) hsf).mono ?_;rintro e w3 ⟨t1,rfl,ht1,hq3,-⟩;have hG3:=hG2.trans hq3;have hR3:=hR2.q hq3;have fz:=hR3.frozen;obtain⟨r0,r1,r2⟩:=hR3.cells;rw[HFA.out]at ht1;obtain⟨A5,n5,c5,rfl⟩:=ht1.form;go_wp2_with fail
     refine (jU neg _ (dv f) _ ht1).mono ?_;rintro e w4 ⟨v5,rfl,hv5,hq4⟩;have hG4:=hG3.trans hq4;have hR4:=hR3.q hq4;clear fz r0 r1 r2;have fz:=hR4.frozen;obtain⟨r0,r1,r2⟩:=hR4.cells;obtain⟨B1,d1,B2,d2,rfl,-,-⟩:=hv5.form;have hv:=Nq.int (q:=mkQ neg (dv f) 1) hv5 ((gM (by decide) (Nat.gcd_one_right _)).1) ((gM (by decide) (Nat.gcd_one_right _)).2);generalize (decide (0<dv f) && neg)=s4 at*
     generalize dg W64 (dv f)=m1 at*
     generalize dg W64 0=m2 at*
     go_wp2_with fail
     obtain⟨z0,z1,z2,hvF,hqF⟩:=Nq.store hR4 hv hG4 (Nat.le_refl _);unfold put3 at z0 z1 z2 hvF hqF;refine rt3 (.int .i64 0) z0 z1 z2 ?_;have hres:bP neg f b false=((0:Int),(mkQ neg (dv f) 1:Rat)):=aK6 hr (fun h=>HZ.out h.1) HLL.out (by rw[HBN.out];decide);rw[HP.out,hres];exact⟨_,rfl,hvF,hqF⟩
   ·go_wp2_with fail
    refine (aHy fb _).mono ?_;rintro e w3 ⟨rfl,hq3⟩;have hG3:=hG2.trans hq3;have hR3:=hR2.q hq3;rw[HFB.out];by_cases hr2:Row b
    ·rw[decide_eq_true hr2];by_cases hb0:b=[48]
     ·have tb0:fb.toList=[48]:=TB.out.trans hb0;have HB0:=hZ hb0;clear hb0;have fz:=hR3.frozen;obtain⟨r0,r1,r2⟩:=hR3.cells;go_wp2_with fail
      have hv:=gF w3;obtain⟨z0,z1,z2,hvF,hqF⟩:=Nq.store hR3 hv hG3 (Nat.le_refl _);unfold put3 at z0 z1 z2 hvF hqF;refine rt3 (.int .i64 6) z0 z1 z2 ?_;have hres:bP neg f b true=((6:Int),(0:Rat)):=aFO hr (fun h=>HZ.out h.1) (.inr (.inl HB0.out));rw[HP.out,hres];exact⟨_,rfl,hvF,hqF⟩
     ·have tb0:¬fb.toList=[48]:=fun h=>hb0 (TB.out.symm.trans h);have tc0:(fb.toList == [48])=false:=beq_eq_false_iff_ne.2 tb0;by_cases hb1:b=[49]
      ·have tb1:fb.toList=[49]:=TB.out.trans hb1;have HB0:=hZ hb1;clear hb1 hb0 tb0;have fz:=hR3.frozen;obtain⟨r0,r1,r2⟩:=hR3.cells;go_wp2_with fail
       have hv:=gF w3;obtain⟨z0,z1,z2,hvF,hqF⟩:=Nq.store hR3 hv hG3 (Nat.le_refl _);unfold put3 at z0 z1 z2 hvF hqF;refine rt3 (.int .i64 6) z0 z1 z2 ?_;have hres:bP neg f b true=((6:Int),(0:Rat)):=aFO hr (fun h=>HZ.out h.1) (.inr (.inr HB0.out));rw[HP.out,hres];exact⟨_,rfl,hvF,hqF⟩
      ·have tb1:¬fb.toList=[49]:=fun h=>hb1 (TB.out.symm.trans h);have tc1:(fb.toList == [49])=false:=beq_eq_false_iff_ne.2 tb1;have hok:Hid (¬(¬Row b∨b=[48]∨b=[49])):=fun h=>h.elim (fun h=>h hr2) (fun h=>h.elim hb0 hb1);have HB00:=hZ hb0;clear hb0 hb1;by_cases hl:1000<f.length
       ·have hl2:(1000:Int)<(fa.size:Int):=(by rw[LA.out];omega);have HLL:=hZ hl;clear hl;have fz:=hR3.frozen;obtain⟨r0,r1,r2⟩:=hR3.cells;go_wp2_with fail
        have hv:=gF w3;obtain⟨z0,z1,z2,hvF,hqF⟩:=Nq.store hR3 hv hG3 (Nat.le_refl _);unfold put3 at z0 z1 z2 hvF hqF;refine rt3 (.int .i64 3) z0 z1 z2 ?_;have hres:bP neg f b true=((3:Int),(0:Rat)):=aAV (.inl HLL.out) hr (fun h=>HZ.out h.1) (fun _=>hok.out);rw[HP.out,hres];exact⟨_,rfl,hvF,hqF⟩
       ·have hl2:¬(1000:Int)<(fa.size:Int):=(by rw[LA.out];omega);have hsf:fa.size+100≤LIM:=(by rw[LA.out,aB];omega);have HLL:=hZ hl;clear hl;by_cases hl3:1000<b.length
        ·have hl4:(1000:Int)<(fb.size:Int):=(by rw[LB.out];omega);have HL3:=hZ hl3;clear hl3;have fz:=hR3.frozen;obtain⟨r0,r1,r2⟩:=hR3.cells;go_wp2_with fail
         have hv:=gF w3;obtain⟨z0,z1,z2,hvF,hqF⟩:=Nq.store hR3 hv hG3 (Nat.le_refl _);unfold put3 at z0 z1 z2 hvF hqF;refine rt3 (.int .i64 3) z0 z1 z2 ?_;have hres:bP neg f b true=((3:Int),(0:Rat)):=aAV (.inr HL3.out) hr (fun h=>HZ.out h.1) (fun _=>hok.out);rw[HP.out,hres];exact⟨_,rfl,hvF,hqF⟩
        ·have hl4:¬(1000:Int)<(fb.size:Int):=(by rw[LB.out];omega);have hsb:fb.size+100≤LIM:=(by rw[LB.out,aB];omega);have HL3:=hZ hl3;clear hl3;go_wp2_with fail
         refine (jM fa _ (by rw[HFA.out];exact hr.1) hsf).mono ?_;rintro e w4 ⟨t1,rfl,ht1,hq4,-⟩;have hG4:=hG3.trans hq4;have hR4:=hR3.q hq4;rw[HFA.out]at ht1;obtain⟨A5,n5,c5,rfl⟩:=ht1.form;go_wp2_with fail
         refine (jM fb _ (by rw[HFB.out];exact hr2.1) hsb).mono ?_;rintro e w5 ⟨t2,rfl,ht2,hq5,-⟩;have hG5:=hG4.trans hq5;have hR5:=hR4.q hq5;rw[HFB.out]at ht2;obtain⟨A6,n6,c6,rfl⟩:=ht2.form;have d1:=aH9 hr.1 (Nat.le_of_not_lt HLL.out);have d2:=aH9 hr2.1 (Nat.le_of_not_lt HL3.out);have hp1:0<dv f:=Row.pos hr (HZ.out);have hp2:0<dv b:=Row.pos hr2 HB00.out;have hbd:8*(dg W64 (dv f)+dg W64 (dv b))+80≤LIM:=(by rw[aB];omega);clear d1 d2;go_wp2_with fail
         refine (zU (dv f) (dv b) _ _ _ (hT.q hG5) (ht1.q hq5) ht2 hp1 hp2 hbd).mono ?_;rintro e w6 ⟨t3,rfl,ht3,hq6,-⟩;have hG6:=hG5.trans hq6;have hR6:=hR5.q hq6;obtain⟨A7,n7,c7,rfl⟩:=ht3.form;go_wp2_with fail
         refine (aAP _ _ _ ht3).mono ?_;rintro e w91 ⟨rfl,rfl⟩;by_cases hg:Nat.gcd (dv f) (dv b)=1
         ·rw[decide_eq_true hg];have HGC:=hZ hg;clear hg;go_wp2_with fail
          refine (qY neg _ _ (dv f) (dv b) _ ((ht1.q hq5).q hq6) (ht2.q hq6)).mono ?_;rintro e w7 ⟨v5,rfl,hv5,hq7⟩;have hG7:=hG6.trans hq7;have hR7:=hR6.q hq7;have fz:=hR7.frozen;obtain⟨r0,r1,r2⟩:=hR7.cells;obtain⟨B1,d1,B2,d2,rfl,-,-⟩:=hv5.form;have hv:=Nq.made (q:=mkQ neg (dv f) (dv b)) hv5 ((gM hp2 HGC.out).1) (fun _=>(gM hp2 HGC.out).2);generalize (decide (0<dv f) && neg)=s4 at*
          generalize dg W64 (if dv f=0 then 0 else bt (dv b))=m2 at*
          generalize dg W64 (dv f)=m1 at*
          go_wp2_with fail
          obtain⟨z0,z1,z2,hvF,hqF⟩:=Nq.store hR7 hv hG7 (Nat.le_refl _);unfold put3 at z0 z1 z2 hvF hqF;refine rt3 (.int .i64 0) z0 z1 z2 ?_;have hres:bP neg f b true=((0:Int),(mkQ neg (dv f) (dv b):Rat)):=aPI hr (fun h=>HZ.out h.1) hok.out HLL.out HL3.out HGC.out;rw[HP.out,hres];exact⟨_,rfl,hvF,hqF⟩
         ·rw[decide_eq_false hg];have HGC:=hZ hg;clear hg;have fz:=hR6.frozen;obtain⟨r0,r1,r2⟩:=hR6.cells;go_wp2_with fail
          have hv:=gF w6;obtain⟨z0,z1,z2,hvF,hqF⟩:=Nq.store hR6 hv hG6 (Nat.le_refl _);unfold put3 at z0 z1 z2 hvF hqF;refine rt3 (.int .i64 6) z0 z1 z2 ?_;have hres:bP neg f b true=((6:Int),(0:Rat)):=aRZ hr (fun h=>HZ.out h.1) hok.out HLL.out HL3.out HGC.out;rw[HP.out,hres];exact⟨_,rfl,hvF,hqF⟩
    ·rw[decide_eq_false hr2];have fz:=hR3.frozen;obtain⟨r0,r1,r2⟩:=hR3.cells;go_wp2_with fail
     have hv:=gF w3;obtain⟨z0,z1,z2,hvF,hqF⟩:=Nq.store hR3 hv hG3 (Nat.le_refl _);unfold put3 at z0 z1 z2 hvF hqF;refine rt3 (.int .i64 6) z0 z1 z2 ?_;have hres:bP neg f b true=((6:Int),(0:Rat)):=aFO hr (fun h=>HZ.out h.1) (.inl hr2);rw[HP.out,hres];exact⟨_,rfl,hvF,hqF⟩
 ·rw[decide_eq_false hr];have fz:=hR2.frozen;obtain⟨r0,r1,r2⟩:=hR2.cells;go_wp2_with fail
  have hv:=gF w2;obtain⟨z0,z1,z2,hvF,hqF⟩:=Nq.store hR2 hv hG2 (Nat.le_refl _);unfold put3 at z0 z1 z2 hvF hqF;refine rt3 (.int .i64 6) z0 z1 z2 ?_;have hres:bP neg f b two=((6:Int),(0:Rat)):=if_pos (.inl hr);rw[HP.out,hres];exact⟨_,rfl,hvF,hqF⟩
def iO(k:Nat):ByteArray:=⟨(letter k).toArray⟩
def gZ(k:Nat):Int:=3*(k:Int)-15
def aTH(k:Nat):Value:=.agg #[.string (iO k),.int .i64 (gZ k)]
def lG:Array Value:=#[.string (iO 0),.int .i64 (gZ 0),.string (iO 1),.int .i64 (gZ 1),.string (iO 2),.int .i64 (gZ 2),.string (iO 3),.int .i64 (gZ 3),.string (iO 4),.int .i64 (gZ 4),
 .string (iO 5),.int .i64 (gZ 5),.string (iO 6),.int .i64 (gZ 6),.string (iO 7),.int .i64 (gZ 7),.string (iO 8),.int .i64 (gZ 8),.string (iO 9),.int .i64 (gZ 9)]
def Px(w:World):Prop:=∃t fr,w.heap[(4:Nat)]? =some (.cells lG t fr)
theorem Px.q{w w':World}(h:Px w)(hq:Q w w'):Px w':=by
 obtain⟨t,fr,h⟩:=h;have hlt:(4:Nat)<w.heap.size:=by
  rcases Nat.lt_or_ge (4:Nat) w.heap.size with hlt|hge
  ·exact hlt
  ·rw[Array.getElem?_eq_none hge]at h;cases h
 exact⟨t,fr,(hq.heap hlt).trans h⟩
theorem aPJ:(Tryz.prog.info? 249).map (·.size)=some lG.size:=by kernel_rfl
theorem aFP(k:Nat)(hk:k<10)(w:World):(Instr.index 249 (.agg lG) (.int .i64 (k:Int))).run Tryz.prog w=.ok (aTH k) w:=by
 rcases (by omega:k=0∨k=1∨k=2∨k=3∨k=4∨k=5∨k=6∨k=7∨k=8∨k=9) with h|h|h|h|h|h|h|h|h|h
 ·rw[h];kernel_rfl
 ·rw[h];kernel_rfl
 ·rw[h];kernel_rfl
 ·rw[h];kernel_rfl
 ·rw[h];kernel_rfl
 ·rw[h];kernel_rfl
 ·rw[h];kernel_rfl
 ·rw[h];kernel_rfl
 ·rw[h];kernel_rfl
 ·rw[h];kernel_rfl
theorem aK7{a:Value}{x y:Int}(h:x=y):Ending.returned (.tuple #[a,.int .i64 x])=.returned (.tuple #[a,.int .i64 y]):=by rw[h]
def Sf(l:List UInt8)(j:Nat):Prop:=j≠5∧Lib.hasSuffix l (letter j)=true
theorem aHA(l:List UInt8)(c:UInt8):Lib.hasSuffix l [c]=true↔l.getLast? =some c:=by
 unfold Lib.hasSuffix;rw[List.isSuffixOf_iff_suffix];constructor
 ·rintro⟨t,rfl⟩;simp
 ·intro h;obtain⟨t,ht⟩:=List.getLast?_eq_some_iff.1 h;exact⟨t,ht.symm⟩
theorem aM1{l:List UInt8}{c:UInt8}(h:Lib.hasSuffix l [c]=true):Lib.trimSuffix l [c]=l.dropLast:=by
 unfold Lib.trimSuffix;rw[if_pos h,List.dropLast_eq_take];rfl
theorem aIW{c:UInt8}{p:Int}(h:pfx c=some p):∃k,k<10∧k≠5∧letter k=[c]∧p=gZ k:=by
 unfold pfx at h;split at h
 ·cases h;rename_i e;subst e;exact⟨0,by decide,by decide,rfl,rfl⟩
 split at h
 ·cases h;rename_i e;subst e;exact⟨1,by decide,by decide,rfl,rfl⟩
 split at h
 ·cases h;rename_i e;subst e;exact⟨2,by decide,by decide,rfl,rfl⟩
 split at h
 ·cases h;rename_i e;subst e;exact⟨3,by decide,by decide,rfl,rfl⟩
 split at h
 ·cases h;rename_i e;subst e;exact⟨4,by decide,by decide,rfl,rfl⟩
 split at h
 ·cases h;rename_i e;subst e;exact⟨6,by decide,by decide,rfl,rfl⟩
 split at h
 ·cases h;rename_i e;subst e;exact⟨7,by decide,by decide,rfl,rfl⟩
 split at h
 ·cases h;rename_i e;subst e;exact⟨8,by decide,by decide,rfl,rfl⟩
 split at h
 ·cases h;rename_i e;subst e;exact⟨9,by decide,by decide,rfl,rfl⟩
 ·cases h
theorem aK8{l:List UInt8}(h:∀j,j<10→¬Sf l j):lJ l=(l,0):=by
 unfold lJ;cases hl:l.getLast? with
 |none=>rfl
 |some c=>
  cases hp:pfx c with
  |none=>simp only[hp]
  |some p=>
   obtain⟨k,hk,h5,hc,-⟩:=aIW hp;exact absurd ⟨h5,by rw[hc];exact (aHA l c).2 hl⟩ (h k hk)
theorem aCp{k:Nat}(hk:k<10)(h5:k≠5):∃c,letter k=[c]∧pfx c=some (gZ k):=by
 rcases (by omega:k=0∨k=1∨k=2∨k=3∨k=4∨k=6∨k=7∨k=8∨k=9) with rfl|rfl|rfl|rfl|rfl|rfl|rfl|rfl|rfl
 ·exact⟨102,rfl,rfl⟩
 ·exact⟨112,rfl,rfl⟩
 ·exact⟨110,rfl,rfl⟩
 ·exact⟨117,rfl,rfl⟩
 ·exact⟨109,rfl,rfl⟩
 ·exact⟨107,rfl,rfl⟩
 ·exact⟨77,rfl,rfl⟩
 ·exact⟨71,rfl,rfl⟩
 ·exact⟨84,rfl,rfl⟩
theorem aK9{l:List UInt8}{k:Nat}(hk:k<10)(h:Sf l k):lJ l=(Lib.trimSuffix l (letter k),gZ k):=by
 obtain⟨c,hc,hp⟩:=aCp hk h.1;have h2:=h.2;rw[hc]at h2⊢;rw[aM1 h2];unfold lJ;rw[(aHA l c).1 h2];simp only[hp]
theorem aHB{k:Nat}(hk:k<10)(h5:k≠5):((iO k).toList == [])=false:=by
 obtain⟨c,hc,-⟩:=aCp hk h5;rw[ByteArray.toList_eq];have:(iO k).data.toList=[c]:=hc;rw[this];rfl
def aPK(l:List UInt8)(w:World)(e:Ending)(w':World):Prop:=∃a:ByteArray,e=.returned (.tuple #[.string a,.int .i64 (lJ l).2])∧a.data.toList=(lJ l).1∧Q w w'
theorem aGO(s:ByteArray)(w:World)(hp:Px w)(hs:s.size≤9223372036854775806):Calls Tryz.prog 237 #[.string s] w (aPK s.data.toList w):=by
 obtain⟨t,fr,hp⟩:=hp;go_enter Tryz.func237,Tryz.ntmps237
 go_wp2_with (refine wpList_load_row rfl 249 (.global 4) rfl 4 rfl t lG fr _ hp Tryz.underlying249 rfl aPJ ?_)
 clear hp;go_loopw [9] (fun i wr=>∃k:Nat,k≤10∧i=.int .i64 (k:Int)∧(∀j,j<k→¬Sf s.data.toList j)∧Q w wr) (fun i _=>10-(intOf i).toNat)
 case atStart=>exact⟨0,Nat.zero_le _,rfl,fun j hj=>absurd hj (Nat.not_lt_zero j),Q.refl _⟩
 case round=>
  obtain⟨k,hk,rfl,hno,hq⟩:=hrel;by_cases hlt:k<10
  ·have hix:=aFP k hlt;obtain⟨pl,hpl⟩:∃pl,iO k=pl:=⟨_,rfl⟩
   obtain⟨pp,hpp⟩:∃pp,gZ k=pp:=⟨_,rfl⟩
   have hix2:∀w,(Instr.index 249 (.agg lG) (.int .i64 (k:Int))).run Tryz.prog w=.ok (.agg #[.string pl,.int .i64 pp]) w:=fun w=>by
    rw[aFP k hlt w,←hpl,←hpp];rfl
   have HNO:=hZ hno;have HPL:=hZ hpl;have HPP:=hZ hpp;clear hix hno hpl hpp;have hqq:=hq.alloc (.cells #[.string pl,.int .i64 pp] 248);go_wp2_with fail
   refine (Tryz.strings_CutSuffix s pl _ (by omega)).mono ?_;rintro e w1 ⟨rfl,rfl⟩;have hrel:Lib.hasSuffix s.data.toList pl.data.toList=Lib.hasSuffix s.data.toList (letter k):=(by rw[←HPL.out];rfl);have hrel2:Lib.trimSuffix s.data.toList pl.data.toList=Lib.trimSuffix s.data.toList (letter k):=(by rw[←HPL.out];rfl);rw[hrel,hrel2];clear hrel hrel2;obtain⟨ta,hta⟩:∃ta:ByteArray,⟨(Lib.trimSuffix s.data.toList (letter k)).toArray⟩=ta:=⟨_,rfl⟩
   rw[hta];have HTA:=hZ hta;clear hta;by_cases hsf:Lib.hasSuffix s.data.toList (letter k)=true
   ·rw[hsf];by_cases h5:k=5
    ·have hpl5:(pl.toList == [])=true:=(by rw[←HPL.out,h5,ByteArray.toList_eq];rfl);have hpl6:pl.toList=[]:=(by rw[←HPL.out,h5,ByteArray.toList_eq];rfl);have H5:=hZ h5;have HSF:=hZ hsf;clear h5 hsf;go_wp2_with fail
     go_roundw
     case rel=>exact⟨k+1,by omega,by go_num,by
      intro j hj hS;rcases (by omega:j<k∨j=k) with h|h
      ·exact HNO.out j h hS
      ·subst h;exact hS.1 H5.out,hqq⟩
     case measure=>simp[intOf];omega
    ·have hpl5:(pl.toList == [])=false:=(by rw[←HPL.out];exact aHB hlt h5);have hpl6:¬pl.toList=[]:=(by rw[←HPL.out];exact ne_of_beq_false (aHB hlt h5));have hres:=aK9 hlt (l:=s.data.toList) ⟨h5,hsf⟩;have HR:=hZ hres;have HSF:=hZ hsf;clear hres h5 hsf;go_wp2_with fail
     go_quiet (fail)
     go_wp2_with fail
     go_ret2
     exact⟨ta,aK7 (by rw[HR.out,←HPP.out]),by rw[HR.out,←HTA.out],hqq.drewN _⟩
   ·have hsf2:Lib.hasSuffix s.data.toList (letter k)=false:=(by simpa using hsf);rw[hsf2];have HSF:=hZ hsf;clear hsf hsf2;go_wp2_with fail
    go_roundw
    case rel=>exact⟨k+1,by omega,by go_num,by
     intro j hj hS;rcases (by omega:j<k∨j=k) with h|h
     ·exact HNO.out j h hS
     ·subst h;exact HSF.out hS.2,hqq⟩
    case measure=>simp[intOf];omega
  ·have hk10:k=10:=(by omega);have hres:=aK8 (l:=s.data.toList) (fun j hj=>hno j (by omega));have HR:=hZ hres;clear hres hno;go_wp2_with fail
   go_ret2
   exact⟨s,aK7 (by rw[HR.out]),by rw[HR.out],hq⟩
theorem aCq{neg two:Bool}{f b:List UInt8}{p:Int}(h:¬(¬nT f∨(two=true∧¬nT b)))(hl:400<f.length+b.length):mH neg f b two p=(3,0):=by
 unfold mH;rw[if_neg h,if_pos hl]
theorem aFQ{neg two:Bool}{f b:List UInt8}{p:Int}(h:¬(¬nT f∨(two=true∧¬nT b)))(hl:¬400<f.length+b.length):mH neg f b two p=(0,sgQ neg ((dv (f++b):Nat):Rat)*fZ (p-b.length)):=by
 unfold mH;rw[if_neg h,if_neg hl]
theorem aFR(l:List UInt8):0≤Lib.indexByte l 47↔47∈l:=by
 have h1:=Lib.indexByte_ge l 47;constructor
 ·intro h;obtain⟨k,hk⟩:=Int.eq_ofNat_of_zero_le h;exact List.mem_of_getElem? (Lib.indexByte_some hk).1
 ·intro hm;rcases (by omega:Lib.indexByte l 47=-1∨0≤Lib.indexByte l 47) with h|h
  ·obtain⟨j,hj,hj2⟩:=List.getElem_of_mem hm;exact absurd (by rw[List.getElem?_eq_getElem hj,hj2]) (Lib.indexByte_none h j)
  ·exact h
theorem aM2(l:List UInt8):(lJ l).1.length≤l.length:=by
 unfold lJ;split
 ·split
  ·show l.dropLast.length≤_;rw[List.length_dropLast];omega
  ·exact Nat.le_refl _
 ·exact Nat.le_refl _
theorem aM3(c:UInt8)(l:List UInt8):(fE c l).length+(aft c l).length≤l.length:=by
 rcases wY c l with⟨-,h1,h2⟩|⟨-,h⟩
 ·rw[h1,h2];simp
 ·have:=congrArg List.length h;rw[List.length_append,List.length_cons]at this;omega
theorem uN(s:Bool)(n:Nat):(sgQ s ((n:Nat):Rat)).num=sg s n∧(sgQ s ((n:Nat):Rat)).den=1:=by
 cases s
 ·exact⟨Rat.num_natCast _,Rat.den_natCast _⟩
 ·unfold sgQ sg;rw[if_pos rfl,if_pos rfl,Rat.neg_num,Rat.neg_den];exact⟨by rw[Rat.num_natCast],Rat.den_natCast _⟩
theorem aHC(s:Bool)(l:List UInt8)(h:dE l)(hl:l.length≤400):sz (sgQ s ((dv l:Nat):Rat))≤401:=by
 have h1:=aQH (dv l);have h2:=aH9 h hl;unfold sgQ;split
 ·rw[aJO];omega
 ·omega
theorem aR0(s:ByteArray)(w:World)(hT:Tb w)(hPx:Px w)(hs:s.size≤9223372036854775806):Calls Tryz.prog 218 #[.string s] w fun e w'=>∃r,e=.returned (.tuple #[r,.int .i64 (aAw s.data.toList).1])∧Nq w' r (aAw s.data.toList).2∧Q w w':=by
 obtain⟨w0,hW,hG0,hR0⟩:∃W,w.alloc (.cells #[.bool false,.slice none 0 0,.slice none 0 0] 41)=W∧Q w W∧Nb W w.heap.size false (.slice none 0 0) (.slice none 0 0):=⟨_,rfl,(Q.refl _).alloc _,Nb.new w _ _ _⟩
 by_cases h47:47∈s.data.toList
 ·have hP:aAw s.data.toList=bO s.data.toList:=if_pos h47;have HP:=hZ hP;clear hP;have hix:=(aFR s.data.toList).2 h47;have HIX:=hZ hix;clear hix h47;obtain⟨er,her⟩:∃er,(bO s.data.toList).1=er:=⟨_,rfl⟩
  have HER:=hZ her;clear her;go_enter Tryz.func218,Tryz.ntmps218
  go_wp2_with fail
  clear hW;refine (Tryz.strings_Contains_one s 47 _).mono ?_;rintro e w90 ⟨rfl,rfl⟩;rw[decide_eq_true HIX.out];go_wp2_with fail
  refine (aC5 s _ (hT.q hG0) hs).mono ?_;rintro e w1 ⟨r,rfl,hv,hq1⟩;have hG1:=hG0.trans hq1;have hR1:=hR0.q hq1;have fz:=hR1.frozen;obtain⟨r0,r1,r2⟩:=hR1.cells;rw[HER.out];obtain⟨s6,B1,m1,d1,B2,m2,d2,rfl,-⟩:=hv.form;go_wp2_with fail
  obtain⟨z0,z1,z2,hvF,hqF⟩:=Nq.store hR1 hv hG1 (Nat.le_refl _);unfold put3 at z0 z1 z2 hvF hqF;refine rt3 (.int .i64 er) z0 z1 z2 ?_;rw[HP.out,HER.out];exact⟨_,rfl,hvF,hqF⟩
 ·have HIX:Hid (decide (0≤Lib.indexByte s.data.toList 47)=false):=decide_eq_false (fun h=>h47 ((aFR s.data.toList).1 h));obtain⟨neg,hneg⟩:∃neg,fM s.data.toList=neg:=⟨_,rfl⟩
  obtain⟨r,hr⟩:∃r,(lJ (unsigned s.data.toList)).1=r:=⟨_,rfl⟩
  obtain⟨p,hp⟩:∃p,(lJ (unsigned s.data.toList)).2=p:=⟨_,rfl⟩
  have hpl:=aOP (unsigned s.data.toList);rw[hp]at hpl;obtain⟨two,htwo⟩:∃two,decide (46∈r)=two:=⟨_,rfl⟩
  obtain⟨f,hf⟩:∃f,fE 46 r=f:=⟨_,rfl⟩
  obtain⟨b,hb⟩:∃b,aft 46 r=b:=⟨_,rfl⟩
  have hb2:two=false→b=[]:=fun h=>(by rw[←hb];exact (aBm (of_decide_eq_false (htwo.trans h))).2);have hP:aAw s.data.toList=mH neg f b two p:=(by unfold aAw;rw[if_neg h47,hneg,hr,hp,htwo,hf,hb]);have HP:=hZ hP;clear hP;have HN:=hZ hneg;clear hneg;have HRR:=hZ hr;clear hr;have HPP:=hZ hp;clear hp;have HT2:=hZ htwo;clear htwo;have HF:=hZ hf;clear hf;have HBb:=hZ hb;clear hb;have HB2:=hZ hb2;clear hb2;have H47:=hZ h47;clear h47;have hpl1:-15≤p:=(by omega);have hpl2:p≤15:=(by omega);clear hpl;go_enter Tryz.func218,Tryz.ntmps218
  go_wp2_with fail
  clear hW;refine (Tryz.strings_Contains_one s 47 _).mono ?_;rintro e w90 ⟨rfl,rfl⟩;rw[HIX.out];go_wp2_with fail
  refine (aAa s _).mono ?_;rintro e w91 ⟨a,rfl,ha,hsz,rfl⟩;rw[HN.out];have HA:=hZ ha;clear ha;go_wp2_with fail
  refine (aGO a _ (hPx.q hG0) (by omega)).mono ?_;rintro e w1 ⟨c,rfl,hc,hq1⟩;have hG1:=hG0.trans hq1;have hR1:=hR0.q hq1;rw[HA.out]at hc⊢;rw[HPP.out];rw[HRR.out]at hc;have hcs:c.size≤9223372036854775806:=(by have h1:=aM2 (unsigned s.data.toList);rw[HRR.out,←hc,←HA.out,←Lib.size_eq,←Lib.size_eq]at h1;omega);have HC:=hZ hc;clear hc;go_wp2_with fail
  refine (aIT c 46 _ hcs).mono ?_;rintro e w2 ⟨fa,fb,rfl,hfa,hfb,hq2⟩;have hG2:=hG1.trans hq2;have hR2:=hR1.q hq2;rw[HC.out]at hfa hfb⊢;rw[HT2.out];rw[HF.out]at hfa;rw[HBb.out]at hfb;have la:fa.size=f.length:=(by rw[Lib.size_eq,hfa]);have lb:fb.size=b.length:=(by rw[Lib.size_eq,hfb]);have lc:fa.size+fb.size≤c.size:=(by have h1:=aM3 46 r;rw[HF.out,HBb.out]at h1;rw[la,lb,Lib.size_eq,HC.out];exact h1);have HFA:=hZ hfa;have HFB:=hZ hfb;have LA:=hZ la;have LB:=hZ lb;clear hfa hfb la lb;go_wp2_with fail
  refine (oZ fa _).mono ?_;rintro e w3 ⟨rfl,hq3⟩;have hG3:=hG2.trans hq3;have hR3:=hR2.q hq3;rw[HFA.out];by_cases hd:nT f
  ·rw[show oW f=true from decide_eq_true hd];cases two
   ·have hok:Hid (¬(¬nT f∨(false=true∧¬nT b))):=fun h=>h.elim (fun h=>h hd) (fun h=>by cases h.1);have hAb:dE b:=(by rw[HB2.out rfl];intro c hc;simp at hc);have HAB:Hid (dE (f++b)):=fun c hc=>(List.mem_append.1 hc).elim (hd.1 c) (hAb c);clear hAb;by_cases hl:400<f.length+b.length
    ·have hl2:(400:Int)<(fa.size:Int)+(fb.size:Int):=(by rw[LA.out,LB.out];omega);have HLL:=hZ hl;clear hl;have fz:=hR3.frozen;obtain⟨r0,r1,r2⟩:=hR3.cells;go_wp2_with fail
     have hv:=gF w3;have hres:mH neg f b false p=((3:Int),(0:Rat)):=aCq (by have h:=hok.out;simp at h⊢;exact h) HLL.out;obtain⟨z0,z1,z2,hvF,hqF⟩:=Nq.store hR3 hv hG3 (Nat.le_refl _);unfold put3 at z0 z1 z2 hvF hqF;refine rt3 (.int .i64 3) z0 z1 z2 ?_;rw[HP.out,hres];exact⟨_,rfl,hvF,hqF⟩
    ·have hl2:¬(400:Int)<(fa.size:Int)+(fb.size:Int):=(by rw[LA.out,LB.out];omega);have hsa:fa.size≤400:=(by rw[LA.out];omega);have hsb:fb.size≤400:=(by rw[LB.out];omega);have HLL:=hZ hl;clear hl;have hcat:(fa++fb).data.toList=f++b:=(by rw[oJ,HFA.out,HFB.out]);have hcs2:(fa++fb).size+100≤LIM:=(by rw[ByteArray.size_append,aB];omega);have HCAT:=hZ hcat;clear hcat;go_wp2_with fail
     refine (jM (fa++fb) _ (by rw[HCAT.out];exact HAB.out) hcs2).mono ?_;rintro e w4 ⟨t1,rfl,ht1,hq4,-⟩;have hG4:=hG3.trans hq4;have hR4:=hR3.q hq4;rw[HCAT.out]at ht1;obtain⟨A5,n5,c5,rfl⟩:=ht1.form;go_wp2_with fail
     refine (jU neg _ (dv (f++b)) _ ht1).mono ?_;rintro e w5 ⟨v5,rfl,hv5,hq5⟩;have hG5:=hG4.trans hq5;have hR5:=hR4.q hq5;obtain⟨B1,d1,B2,d2,rfl,-,-⟩:=hv5.form;have hv:=Nq.int (q:=sgQ neg ((dv (f++b):Nat):Rat)) hv5 (uN neg _).1 (uN neg _).2;generalize (decide (0<dv (f++b)) && neg)=s4 at*
     generalize dg W64 (dv (f++b))=m1 at*
     generalize dg W64 0=m2 at*
     have hqd:Q w5 (w5.alloc (.cells #[.bool s4,.slice B1 m1 d1,.slice B2 m2 d2] 41)):=(Q.refl _).alloc _;have hE:Nb (w5.alloc (.cells #[.bool s4,.slice B1 m1 d1,.slice B2 m2 d2] 41)) w5.heap.size s4 (.slice B1 m1 d1) (.slice B2 m2 d2):=Nb.new _ _ _ _;have neE:w5.heap.size≠w.heap.size:=(by have:=hR5.lt;omega);have tw1:IntKind.i64.wrap (p-(fb.size:Int))=p-(fb.size:Int):=IntWalk.i64_in _ (by omega);have hz2:=aHC neg (f++b) HAB.out (show (f++b).length≤400 by rw[List.length_append];exact Nat.le_of_not_lt HLL.out);have hz3:=aJQ (p-(fb.size:Int));have hB:16*(sz (sgQ neg ((dv (f++b):Nat):Rat))+sz (fZ (p-(fb.size:Int))))+100≤LIM:=(by rw[aB];omega);clear hz2 hz3;go_wp2_with fail
     generalize hwd:w5.alloc (.cells #[.bool s4,.slice B1 m1 d1,.slice B2 m2 d2] 41)=w6 at*
     clear hwd;have hG6:=hG5.trans hqd;have hR6:=hR5.q hqd;have hE6:=hE;have hv6:=hv.q hqd;clear hv;obtain⟨e0,e1,e2⟩:=hE6.cells
     go_region_held3 (fun W=>W.cell? ⟨w5.heap.size,0,none⟩=some (.bool s4)∧W.cell? ⟨w5.heap.size,1,none⟩=some (.slice B1 m1 d1)∧W.cell? ⟨w5.heap.size,2,none⟩=some (.slice B2 m2 d2)) (first|exact⟨e0,e1,e2⟩|exact⟨by assumption,by assumption,by assumption⟩|exact⟨(aAU neE).trans (by assumption),(aAU neE).trans (by assumption),(aAU neE).trans (by assumption)⟩|go_keep) (first
      |(go_at_call 27;refine (aIS _ _ (sgQ neg ((dv (f++b):Nat):Rat)) (fZ (p-(fb.size:Int))) _ (hT.q hG7) (hv6.q hq7) htv hB).mono ?_;rintro e w8 ⟨v9,rfl,hv,hq8⟩;have hG8:=hG7.trans hq8;have hR8:=hR7.q hq8;have hE8:=hE7.q hq8;obtain⟨e0,e1,e2⟩:=hE8.cells;have fz:=hR8.frozen;obtain⟨r0,r1,r2⟩:=hR8.cells;obtain⟨s8,C1,l1,g1,C2,l2,g2,rfl,-⟩:=hv.form)
      |(go_at_call 238;refine (aK5 (p-(fb.size:Int)) _ (by omega)).mono ?_;rintro e w7 ⟨tv,rfl,htv,hq7d⟩;have hq7:Q w6 w7:=(Q.refl w6).drew.trans hq7d;have hG7:=hG6.trans hq7;have hR7:=hR6.q hq7;have hE7:=hE6.q hq7;obtain⟨e0,e1,e2⟩:=hE7.cells;obtain⟨s7,A7,n7,c7,A8,n8,c8,rfl,-⟩:=htv.form))
     all_goals
      go_wp2_with fail
      have hres:mH neg f b false p=((0:Int),sgQ neg ((dv (f++b):Nat):Rat)*fZ (p-(fb.size:Int))):=(by rw[LB.out];exact aFQ (by have h:=hok.out;simp at h⊢;exact h) HLL.out);obtain⟨z0,z1,z2,hvF,hqF⟩:=Nq.store hR8 hv hG8 (Nat.le_refl _);unfold put3 at z0 z1 z2 hvF hqF;refine rt3 (.int .i64 0) z0 z1 z2 ?_;rw[HP.out,hres];exact⟨_,rfl,hvF,hqF⟩
   ·go_wp2_with fail
    refine (oZ fb _).mono ?_;rintro e w4 ⟨rfl,hq4⟩;have hG4:=hG3.trans hq4;have hR4:=hR3.q hq4;rw[HFB.out];by_cases hd2:nT b
    ·rw[show oW b=true from decide_eq_true hd2];have hok:Hid (¬(¬nT f∨(true=true∧¬nT b))):=fun h=>h.elim (fun h=>h hd) (fun h=>h.2 hd2);have hAb:dE b:=hd2.1;have HAB:Hid (dE (f++b)):=fun c hc=>(List.mem_append.1 hc).elim (hd.1 c) (hAb c);clear hAb;by_cases hl:400<f.length+b.length
     ·have hl2:(400:Int)<(fa.size:Int)+(fb.size:Int):=(by rw[LA.out,LB.out];omega);have HLL:=hZ hl;clear hl;have fz:=hR4.frozen;obtain⟨r0,r1,r2⟩:=hR4.cells;go_wp2_with fail
      have hv:=gF w4;have hres:mH neg f b true p=((3:Int),(0:Rat)):=aCq (by have h:=hok.out;simp at h⊢;exact h) HLL.out;obtain⟨z0,z1,z2,hvF,hqF⟩:=Nq.store hR4 hv hG4 (Nat.le_refl _);unfold put3 at z0 z1 z2 hvF hqF;refine rt3 (.int .i64 3) z0 z1 z2 ?_;rw[HP.out,hres];exact⟨_,rfl,hvF,hqF⟩
     ·have hl2:¬(400:Int)<(fa.size:Int)+(fb.size:Int):=(by rw[LA.out,LB.out];omega);have hsa:fa.size≤400:=(by rw[LA.out];omega);have hsb:fb.size≤400:=(by rw[LB.out];omega);have HLL:=hZ hl;clear hl;have hcat:(fa++fb).data.toList=f++b:=(by rw[oJ,HFA.out,HFB.out]);have hcs2:(fa++fb).size+100≤LIM:=(by rw[ByteArray.size_append,aB];omega);have HCAT:=hZ hcat;clear hcat;go_wp2_with fail
      refine (jM (fa++fb) _ (by rw[HCAT.out];exact HAB.out) hcs2).mono ?_;rintro e w5 ⟨t1,rfl,ht1,hq5,-⟩;have hG5:=hG4.trans hq5;have hR5:=hR4.q hq5;rw[HCAT.out]at ht1;obtain⟨A5,n5,c5,rfl⟩:=ht1.form;go_wp2_with fail
      refine (jU neg _ (dv (f++b)) _ ht1).mono ?_;rintro e w6 ⟨v5,rfl,hv5,hq6⟩;have hG6:=hG5.trans hq6;have hR6:=hR5.q hq6;obtain⟨B1,d1,B2,d2,rfl,-,-⟩:=hv5.form;have hv:=Nq.int (q:=sgQ neg ((dv (f++b):Nat):Rat)) hv5 (uN neg _).1 (uN neg _).2;generalize (decide (0<dv (f++b)) && neg)=s4 at*
      generalize dg W64 (dv (f++b))=m1 at*
      generalize dg W64 0=m2 at*
      have hqd:Q w6 (w6.alloc (.cells #[.bool s4,.slice B1 m1 d1,.slice B2 m2 d2] 41)):=(Q.refl _).alloc _;have hE:Nb (w6.alloc (.cells #[.bool s4,.slice B1 m1 d1,.slice B2 m2 d2] 41)) w6.heap.size s4 (.slice B1 m1 d1) (.slice B2 m2 d2):=Nb.new _ _ _ _;have neE:w6.heap.size≠w.heap.size:=(by have:=hR6.lt;omega);have tw1:IntKind.i64.wrap (p-(fb.size:Int))=p-(fb.size:Int):=IntWalk.i64_in _ (by omega);have hz2:=aHC neg (f++b) HAB.out (show (f++b).length≤400 by rw[List.length_append];exact Nat.le_of_not_lt HLL.out);have hz3:=aJQ (p-(fb.size:Int));have hB:16*(sz (sgQ neg ((dv (f++b):Nat):Rat))+sz (fZ (p-(fb.size:Int))))+100≤LIM:=(by rw[aB];omega);clear hz2 hz3;go_wp2_with fail
      generalize hwd:w6.alloc (.cells #[.bool s4,.slice B1 m1 d1,.slice B2 m2 d2] 41)=w7 at*
      clear hwd;have hG7:=hG6.trans hqd;have hR7:=hR6.q hqd;have hE7:=hE;have hv6:=hv.q hqd;clear hv;obtain⟨e0,e1,e2⟩:=hE7.cells
      go_region_held3 (fun W=>W.cell? ⟨w6.heap.size,0,none⟩=some (.bool s4)∧W.cell? ⟨w6.heap.size,1,none⟩=some (.slice B1 m1 d1)∧W.cell? ⟨w6.heap.size,2,none⟩=some (.slice B2 m2 d2)) (first|exact⟨e0,e1,e2⟩|exact⟨by assumption,by assumption,by assumption⟩|exact⟨(aAU neE).trans (by assumption),(aAU neE).trans (by assumption),(aAU neE).trans (by assumption)⟩|go_keep) (first
       |(go_at_call 27;refine (aIS _ _ (sgQ neg ((dv (f++b):Nat):Rat)) (fZ (p-(fb.size:Int))) _ (hT.q hG8) (hv6.q hq8) htv hB).mono ?_;rintro e w9 ⟨v9,rfl,hv,hq9⟩;have hG9:=hG8.trans hq9;have hR9:=hR8.q hq9;have hE9:=hE8.q hq9;obtain⟨e0,e1,e2⟩:=hE9.cells;have fz:=hR9.frozen;obtain⟨r0,r1,r2⟩:=hR9.cells;obtain⟨s8,C1,l1,g1,C2,l2,g2,rfl,-⟩:=hv.form)
       |(go_at_call 238;refine (aK5 (p-(fb.size:Int)) _ (by omega)).mono ?_;rintro e w8 ⟨tv,rfl,htv,hq8d⟩;have hq8:Q w7 w8:=(Q.refl w7).drew.trans hq8d;have hG8:=hG7.trans hq8;have hR8:=hR7.q hq8;have hE8:=hE7.q hq8;obtain⟨e0,e1,e2⟩:=hE8.cells;obtain⟨s7,A7,n7,c7,A8,n8,c8,rfl,-⟩:=htv.form))
      all_goals
       go_wp2_with fail
       have hres:mH neg f b true p=((0:Int),sgQ neg ((dv (f++b):Nat):Rat)*fZ (p-(fb.size:Int))):=(by rw[LB.out];exact aFQ (by have h:=hok.out;simp at h⊢;exact h) HLL.out);obtain⟨z0,z1,z2,hvF,hqF⟩:=Nq.store hR9 hv hG9 (Nat.le_refl _);unfold put3 at z0 z1 z2 hvF hqF;refine rt3 (.int .i64 0) z0 z1 z2 ?_;rw[HP.out,hres];exact⟨_,rfl,hvF,hqF⟩
    ·rw[show oW b=false from decide_eq_false hd2];have fz:=hR4.frozen;obtain⟨r0,r1,r2⟩:=hR4.cells;go_wp2_with fail
     have hv:=gF w4;have hres:mH neg f b true p=((6:Int),(0:Rat)):=if_pos (.inr ⟨rfl,hd2⟩);obtain⟨z0,z1,z2,hvF,hqF⟩:=Nq.store hR4 hv hG4 (Nat.le_refl _);unfold put3 at z0 z1 z2 hvF hqF;refine rt3 (.int .i64 6) z0 z1 z2 ?_;rw[HP.out,hres];exact⟨_,rfl,hvF,hqF⟩
  ·rw[show oW f=false from decide_eq_false hd];have fz:=hR3.frozen;obtain⟨r0,r1,r2⟩:=hR3.cells;go_wp2_with fail
   have hv:=gF w3;have hres:mH neg f b two p=((6:Int),(0:Rat)):=if_pos (.inl hd);obtain⟨z0,z1,z2,hvF,hqF⟩:=Nq.store hR3 hv hG3 (Nat.le_refl _);unfold put3 at z0 z1 z2 hvF hqF;refine rt3 (.int .i64 6) z0 z1 z2 ?_;rw[HP.out,hres];exact⟨_,rfl,hvF,hqF⟩
end
namespace E
open Go
open Ma Me
noncomputable section
def aM4{α:Type}(x:Rat)(k:List SV→α):α:=Rat.rec (motive:=fun _=>α) (fun n d _ _=>cb (Nat.beq d 1)
 (Int.rec (motive:=fun _=>α) (fun m=>iL m fun m=>k [.b false,.m m,.m 0]) (fun m=>iL m fun m=>k [.b true,.m (Nat.succ m),.m 0]) n)
 (iL d fun d=>Int.rec (motive:=fun _=>α) (fun m=>iL m fun m=>k [.b false,.m m,.m d]) (fun m=>iL m fun m=>k [.b true,.m (Nat.succ m),.m d]) n)) x
def enc(x:Rat):Option AV:=aM4 x fun l=>some (.c true l)
def aR1:Nat:=1024
def big:Nat:=W64^aR1
def small(n:Nat):Bool:=Nat.blt n big
def aUG(n d:Nat)(hd:Nat.beq d 0=false)(hg:Nat.beq (Nat.gcd n d) 1=true):Rat:=⟨.ofNat n,d,fun h=>(by rw[h]at hd;cases hd),Nat.eq_of_beq_eq_true hg⟩
def mkM(n d:Nat)(hd:Nat.beq d 0=false)(hn:Nat.beq n 0=false)(hg:Nat.beq (Nat.gcd n d) 1=true):Rat:=⟨.negSucc (Nat.pred n),d,fun h=>(by rw[h]at hd;cases hd),by
 have h:(Int.negSucc (Nat.pred n)).natAbs=n:=by cases n with
  |zero=>cases hn
  |succ n=>rfl
 rw[h];exact Nat.eq_of_beq_eq_true hg⟩
def aR2(n d:Nat)(hd:Nat.beq d 0=false)(hg:Nat.beq (Nat.gcd n d) 1=true):Option Rat:=
 Bool.rec (motive:=fun b=>Nat.beq n 0=b→Option Rat) (fun hn=>some (mkM n d hd hn hg)) (fun _=>none) (Nat.beq n 0) rfl
def aUH(s:Bool)(n d:Nat)(hd:Nat.beq d 0=false):Option Rat:=
 Bool.rec (motive:=fun b=>Nat.beq (Nat.gcd n d) 1=b→Option Rat) (fun _=>none) (fun hg=>Bool.rec (motive:=fun _=>Option Rat) (some (aUG n d hd hg)) (aR2 n d hd hg) s) (Nat.beq (Nat.gcd n d) 1) rfl
def aUI(s:Bool)(n d:Nat):Option Rat:=
 Bool.rec (motive:=fun b=>Nat.beq d 0=b→Option Rat) (fun hd=>aUH s n d hd) (fun _=>none) (Nat.beq d 0) rfl
def aR3(s:Bool)(n m:Nat):Option Rat:=cb (Nat.beq m 1) none (cb (small n) (cb (small m) (aUI s n (cb (Nat.beq m 0) 1 m)) none) none)
def num{α:Type}(v:AV)(k:Rat→Option α):Option α:=match v with| .c true [.b s,.m n,.m m]=>ob (aR3 s n m) k|_=>none
def p1(f:Rat→Option AV)(l:List AV):Option AV:=match l with| [x]=>num x f|_=>none
def p2(f:Rat→Rat→Option AV)(l:List AV):Option AV:=match l with| [x,y]=>num x fun p=>num y fun q=>f p q|_=>none
def int{α:Type}(v:AV)(k:Int→Option α):Option α:=match v with| .c false [.i .i64 n]=>k n|_=>none
def er(r:Int × Rat):Option AV:=aM4 r.2 fun l=>some (.t [(true,l),(false,[.i .i64 r.1])])
def by8(l:List Nat):List UInt8:=l.map UInt8.ofNat
def un8(l:List UInt8):List Nat:=l.map UInt8.toNat
def aR4(l:List AV):Option AV:=match l with| [x]=>int x fun n=>cb (decide (-9223372036854775808≤n) && decide (n≤9223372036854775807)) (enc (n:Rat)) none|_=>none
def aR5(l:List AV):Option AV:=match l with| [x,n]=>num x fun p=>int n fun n=>er (jC p n)|_=>none
def aLa(l:List AV):Option AV:=match l with| [x,n]=>num x fun p=>int n fun n=>cb (decide (0≤n) && decide (n≤64)) (enc (p^n.toNat)) none|_=>none
def okS(l:List Nat):Bool:=Nat.blt (len l) 1000000
def aIX(l:List AV):Option AV:=match l with| [.c false [.s l]]=>cb (okS l) (er (aAw (by8 l))) none|_=>none
def aFS(l:List AV):Option AV:=match l with| [.c false [.s l]]=>cb (okS l) (er (bO (by8 l))) none|_=>none
def aUW(l:List AV):Option AV:=match l with| [.c false [.s l],.c false [.i .u8 (.ofNat c)]]=>cb (okS l) (some (sc (.i .i64 (Lib.indexByte (by8 l) (UInt8.ofNat c))))) none|_=>none
def aM5(l:List AV):Option AV:=match l with| [.c false [.s l],.c false [.s [c]]]=>cb (okS l) (some (.t [(false,[.s (un8 (fE (UInt8.ofNat c) (by8 l)))]),(false,[.s (un8 (aft (UInt8.ofNat c) (by8 l)))]),(false,[.b (decide (UInt8.ofNat c∈by8 l))])])) none|_=>none
def aC6(l:List AV):Option AV:=match l with| [.c false [.s l],.c false [.i .i64 (.ofNat n)]]=>cb (okS l && decide (0<len l) && decide (2≤n) && decide (n≤1000000)) (some (sc (.s (un8 (Lib.repeatL (by8 l) n))))) none|_=>none
def aD6:List (Nat × (List AV→Option AV)):=
 (167,p1 fun p=>enc (aCJ p))::
 (43,aR4)::
 (105,p2 fun p q=>enc (p+q))::
 (103,p2 fun p q=>enc (p-q))::
 (27,p2 fun p q=>enc (p*q))::
 (74,p2 fun p q=>er (gY p q))::
 (192,p1 fun p=>enc (p.floor:Rat))::
 (94,p1 fun p=>some (sc (.i .i64 (sn p))))::
 (65,p2 fun p q=>some (sc (.i .i64 (rc p q))))::
 (73,aR5)::
 (127,aLa)::
 (24,p1 fun p=>some (sc (.s (un8 (gH p)))))::
 (218,aIX)::
 (82,aM5)::
 (219,aC6)::
 (39,aFS)::
 []
def aTI:T 3 (List AV→Option AV):=T.ofL aD6
def F0:Cf:=⟨Tryz.prog,fun w=>Tb w∧Px w,39,fun f=>aTI.get f,aD2,fun _=>none,fun _ _=>none,fun _ _=>none⟩
end
end E
end Go.Proofs.YtohcfjmkfflkpaaGreatDoor
