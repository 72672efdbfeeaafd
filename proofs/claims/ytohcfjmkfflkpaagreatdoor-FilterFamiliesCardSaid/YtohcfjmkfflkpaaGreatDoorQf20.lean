/- FilterFamilies holds. No condition. -/
import Derived.Test.YtohcfjmkfflkpaaGreatDoorQf19
namespace Go.Proofs.YtohcfjmkfflkpaaGreatDoor
namespace K
open Go.RowKit
open Ma Me
theorem aLj{s:Int}{M N:Nat}{q:Rat}(hq:q*(N:Rat)=(s:Rat)*(M:Rat))(hN:s≠0→0<N)(h:s=0∨M=0)(h0:N=0→q=0):q=0:=by
 rcases Nat.eq_zero_or_pos N with h1|h1
 ·exact h0 h1
 have e:q*(N:Rat)=0:=by
  rw[hq];rcases h with rfl|rfl
  ·exact Rat.zero_mul _
  ·exact Rat.mul_zero _
 rcases Rat.mul_eq_zero.1 e with h|h
 ·exact h
 ·have:((N:Int):Rat)=((0:Int):Rat):=h;have:=Rat.intCast_inj.1 this;omega
theorem aI0{s:Int}{M N:Nat}{q:Rat}(hs:s=-1∨s=1)(hM:0<M)(hN:0<N)(hq:q*(N:Rat)=(s:Rat)*(M:Rat)):
  s=sn q∧q.num.natAbs=M/Nat.gcd M N∧q.den=N/Nat.gcd M N:=by
 obtain⟨d,hd⟩:∃d,d=Nat.gcd M N:=⟨_,rfl⟩
 have hd0:0<d:=by rw[hd];exact Nat.gcd_pos_of_pos_right _ hN
 obtain⟨m,hm⟩:d∣M:=by rw[hd];exact Nat.gcd_dvd_left _ _
 obtain⟨n,hn⟩:d∣N:=by rw[hd];exact Nat.gcd_dvd_right _ _
 have hm1:M/d=m:=by rw[hm];exact Nat.mul_div_cancel_left _ hd0
 have hn1:N/d=n:=by rw[hn];exact Nat.mul_div_cancel_left _ hd0
 have hc:Nat.Coprime m n:=by
  have:=Nat.coprime_div_gcd_div_gcd (m:=M) (n:=N) (by rw[←hd];exact hd0)
  rwa [←hd,hm1,hn1]at this
 have hn0:0<n:=by
  rcases Nat.eq_zero_or_pos n with h|h
  ·rw[h]at hn;omega
  ·exact h
 have hm0:0<m:=by
  rcases Nat.eq_zero_or_pos m with h|h
  ·rw[h]at hm;omega
  ·exact h
 have key:(s*(m:Int))*q.den=q.num*n:=by
  have h1:q*(N:Rat)=(s:Rat)*(M:Rat):=hq;have h3:q*(q.den:Rat)=(q.num:Rat):=(nS q).symm;have h4:(q.num:Rat)*(N:Rat)=(s:Rat)*(M:Rat)*(q.den:Rat):=by
   rw[←h3,←h1];grind
  have h5:((q.num*(N:Int):Int):Rat)=((s*(M:Int)*(q.den:Int):Int):Rat):=by
   rw[Rat.intCast_mul,Rat.intCast_mul,Rat.intCast_mul];exact h4
  have h6:=Rat.intCast_inj.1 h5;rw[hm,hn]at h6;have h7:(d:Int)*(q.num*n)=(d:Int)*((s*(m:Int))*q.den):=by
   simp only[Int.natCast_mul]at h6;rw[show (d:Int)*(q.num*n)=q.num*((d:Int)*n) from by grind,h6];grind
  exact (Int.eq_of_mul_eq_mul_left (by omega) h7).symm
 have hnat:(s*(m:Int)).natAbs=m:=by rcases hs with rfl|rfl<;>simp
 obtain⟨h1,h2⟩:=aBM (q:=q) (a:=s*(m:Int)) (b:=n) hn0 (by rw[hnat];exact hc) key;rw[←hd,hm1,hn1];refine⟨?_,by rw[h1,hnat],h2⟩;rw[nA,h1];rcases hs with rfl|rfl
 ·rw[Int.sign_eq_neg_one_of_neg];omega
 ·rw[Int.sign_eq_one_of_pos];omega
theorem qJ(N:Nat):dg B30 N≤3*dg W64 N:=by
 rw[aK aI,Nat.pow_mul];have h:=(aK aC N (dg W64 N)).1 (Nat.le_refl _);exact Nat.lt_of_lt_of_le h (Nat.pow_le_pow_left (by decide) _)
theorem aHG{f:List UInt8}(h:qI f=true)(hl:¬1<f.length∨f.head?≠some 48):Row f:=by
 obtain⟨h1,h2⟩:=xX.1 h;refine⟨h1,h2,fun h3=>?_⟩;rcases hl with h4|h4
 ·match f,h2,h3,h4 with
  | [c],_,h3,_=>simp at h3;rw[h3]
  |c::d::r,_,_,h4=>simp at h4
 ·exact absurd h3 h4
theorem aLk{f:List UInt8}(h:qI f=false):¬Row f:=fun hr=>by
 rw[xX.2 ⟨hr.1,hr.2.1⟩]at h;cases h
theorem aHH{f:List UInt8}(h1:1<f.length)(h2:f.head? =some 48):¬Row f:=fun hr=>by
 rw[hr.2.2 h2]at h1;simp at h1
theorem aSb{neg two:Bool}{f b:List UInt8}(h:¬Row f):bP neg f b two=(6,0):=if_pos (.inl h)
theorem aPT{neg:Bool}{f b:List UInt8}(h:¬Row b∨b=[48]∨b=[49]):bP neg f b true=(6,0):=by
 unfold bP;split
 ·rfl
 ·rw[if_pos ⟨rfl,h⟩]
theorem aLl{b:List UInt8}(h2:b.head? =some 48):¬Row b∨b=[48]∨b=[49]:=by
 by_cases h:Row b
 ·exact .inr (.inl (h.2.2 h2))
 ·exact .inl h
theorem aSc{neg:Bool}{n:Nat}{sg:Int}(h:(if neg then -1 else 1)=sg):mkQ neg n 1*((1:Nat):Rat)=(sg:Rat)*(n:Rat):=by
 have h1:=(gM (neg:=neg) (n:=n) (d:=1) (by decide) (Nat.gcd_one_right n)).1;have h2:=(gM (neg:=neg) (n:=n) (d:=1) (by decide) (Nat.gcd_one_right n)).2;have h3:=nS (mkQ neg n 1);rw[h2]at h3;rw[←h3,h1,←h];cases neg
 ·show (((n:Nat):Int):Rat)=((1:Int):Rat)*(n:Rat)
  rw[Rat.intCast_natCast];simp
 ·show ((-(n:Int):Int):Rat)=((-1:Int):Rat)*(n:Rat)
  rw[Rat.intCast_neg,Rat.intCast_natCast];have e:((-1:Int):Rat)=-1:=rfl;rw[e];grind
theorem aPU{neg:Bool}{n d:Nat}{sg:Int}(h:(if neg then -1 else 1)=sg)(hn:0<n)(hd:0<d)(hc:Nat.gcd n d=1):sg=sn (mkQ neg n d)∧(mkQ neg n d).num.natAbs=n∧(mkQ neg n d).den=d:=by
 obtain⟨h1,h2⟩:=gM (neg:=neg) hd hc;refine⟨?_,?_,h2⟩
 ·rw[nA,h1,←h];cases neg
  ·exact (Int.sign_eq_one_of_pos (show (0:Int)<(n:Int) by omega)).symm
  ·exact (Int.sign_eq_neg_one_of_neg (show (-(n:Int))<0 by omega)).symm
 ·rw[h1];cases neg<;>simp
theorem aLm{l:List UInt8}(h:Row l)(h0:l≠[48]):0<dv l:=by
 rcases Nat.eq_zero_or_pos (dv l) with e|e
 ·have h1:=aEs h;rw[e,aL4]at h1;exact absurd h1.symm h0
 ·exact e
end K
namespace E
open Go Go.RowKit
open Ma Me K
def tF:List (Nat × TI):=[(3,⟨.int .i64,1,8,[.i .i64 0]⟩),(4,⟨.bool,1,1,[.b false]⟩),(28,⟨.int .i64,1,8,[.i .i64 0]⟩),(43,⟨.sl 2,1,24,[.r 0]⟩),(45,⟨.st [(0,3),(1,43),(2,43)],3,56,[.i .i64 0,.r 0,.r 0]⟩),(9,⟨.str,1,16,[.s []]⟩),(5,⟨.int .u8,1,1,[.i .u8 0]⟩)]
theorem aSd:∀p∈tF,FR.ti p.1=some p.2:=fun p hp=>by
 unfold tF at hp;simp only[List.mem_cons,List.not_mem_nil,or_false]at hp;rcases hp with rfl|rfl|rfl|rfl|rfl|rfl|rfl<;>kernel_rfl
def rd_(q:Rat):Nat:=if q=0 then 0 else q.den
def encR(q:Rat):List SV:=[.i .i64 (sn q),.r q.num.natAbs,.r (rd_ q)]
def rm(q:Rat):AV:=.c true (encR q)
theorem aD7{q:Rat}{s:Int}{n d:Nat}(h:q≠0)(h1:s=sn q)(h2:q.num.natAbs=n)(h3:q.den=d):AV.c true [.i .i64 s,.r n,.r d]=rm q:=by
 unfold rm encR rd_;rw[if_neg h,h1,h2,h3]
section
variable {a b:Nat} {l:List UInt8} {c:UInt8} {q:Rat}
theorem aAZ:by8 (un8 l)=l:=by
 unfold by8 un8;rw[List.map_map];exact (List.map_congr_left fun x _=>by simp).trans (List.map_id l)
theorem aHI(h:l.length<1000000):okS (un8 l)=true:=aP.2 (by rw[aT];unfold un8;rw[List.length_map];exact h)
theorem uO:Fc FR 92 [rn a] (sc (.b (decide (a=1)))):=.pr Tryz.func92 rfl (by kernel_rfl:FR.pr 92=some (q1 (fun _=>True) fun n=>sc (.b (decide (n=1))))) (if_pos trivial)
theorem aI1:Fc FR 91 [] (rn 1):=.pr Tryz.func91 rfl (by kernel_rfl:FR.pr 91=some aR9) rfl
theorem aDE(h:cR a b∧0<b):Fc FR 129 [rn a,rn b] (.t [(false,[.r (a/b)]),(false,[.r (a % b)])]):=.pr Tryz.func129 rfl (by kernel_rfl:FR.pr 129=some (q2 (fun a b=>cR a b∧0<b) fun a b=>.t [(false,[.r (a/b)]),(false,[.r (a % b)])])) (if_pos h)
theorem aDF(h:cR a b∧0<b):Fc FR 93 [rn a,rn b] (rn (Nat.gcd a b)):=.pr Tryz.func93 rfl (by kernel_rfl:FR.pr 93=some (q2 (fun a b=>cR a b∧0<b) fun a b=>rn (Nat.gcd a b))) (if_pos h)
theorem aI2{p:List UInt8→Prop}{f:List UInt8→AV}(h1:p l)(h2:l.length<1000000):qs p f [ss l]=some (f l):=by
 show (open Classical in if p (by8 (un8 l))∧okS (un8 l)=true then some (f (by8 (un8 l))) else none)=_;rw[aAZ,if_pos ⟨h1,aHI h2⟩]
theorem aAe(h1:dE l)(h2:l.length<1000000):Fc FR 90 [ss l] (rn (dv l)):=.pr Tryz.func90 rfl (by kernel_rfl:FR.pr 90=some (qs dE fun l=>rn (dv l))) (aI2 h1 h2)
theorem aFX(h2:l.length<1000000):Fc FR 89 [ss l] (sc (.b (qI l))):=.pr Tryz.func89 rfl (by kernel_rfl:FR.pr 89=some (qs (fun _=>True) fun l=>sc (.b (qI l)))) (aI2 trivial h2)
theorem aNe(h2:l.length<1000000):Fc FR 87 [ss l] (.t [(false,[.s (un8 (unsigned l))]),(false,[.i .i64 (if fM l then -1 else 1)])]):=.pr Tryz.func87 rfl (by kernel_rfl:FR.pr 87=some (qs (fun _=>True) fun l=>.t [(false,[.s (un8 (unsigned l))]),(false,[.i .i64 (if fM l then -1 else 1)])])) (aI2 trivial h2)
theorem aPV(h2:l.length<1000000):Fc FR 88 [ss l,sc (.i .u8 47)] (spl 47 l):=.pr Tryz.func88 rfl (by kernel_rfl:FR.pr 88=some aFV) (by
 show cb (okS (un8 l) && true) (some (spl 47 (by8 (un8 l)))) none=_;rw[aAZ,aHI h2];rfl)
theorem dr0{n:Nat}(h:((dg B30 n:Nat):Int)=0):n=0:=bM aI (by omega)
theorem dr1{n:Nat}(h:¬((dg B30 n:Nat):Int)=0):0<n:=Nat.pos_of_ne_zero fun e=>h (by rw[e,aU];rfl)
end
theorem sn0:sn 0=0:=by
 rcases bZ 0 with⟨h,-⟩|⟨-,h⟩|⟨h,-⟩
 ·exact absurd h (by decide)
 ·exact h
 ·exact absurd h (by decide)
theorem rm0:AV.c true [.i .i64 0,.r 0,.r 0]=rm 0:=by
 unfold rm encR rd_;rw[sn0,if_pos rfl];rfl
theorem iY{s:Int}{M N:Nat}{q:Rat}(hN:s≠0→0<N)(hs:s=-1∨s=0∨s=1)(hq:q*(N:Rat)=(s:Rat)*(M:Rat))(h0:N=0→q=0)(hc:cR M N):Fc FR 75 [sc (.i .i64 s),rn M,rn N] (rm q):=by
 have z:s=0∨M=0→AV.c true [.i .i64 0,.r 0,.r 0]=rm q:=fun h=>rm0.trans (congrArg rm (aLj hq hN h h0).symm);refine .by_ aSd Tryz.func75 rfl (by kernel_rfl) (by kernel_rfl) rfl (dt (fun h=>z (.inl h)) fun h1=>dt (fun h=>z (.inr (dr0 h))) fun h2=>?_);have hn:=hN h1;obtain⟨p1,p2,p3⟩:=aI0 (s:=s) (by omega) (dr1 h2) hn hq;have q0:q≠0:=fun e=>by rw[e,sn0]at p1;exact h1 p1
 have fin:Nat.gcd M N=1→AV.c true [.i .i64 s,.r M,.r N]=rm q:=fun h=>aD7 q0 p1 (by rw[p2,h,Nat.div_one]) (by rw[p3,h,Nat.div_one]);have g0:0<Nat.gcd M N:=Nat.gcd_pos_of_pos_right _ hn;have g1:=dQ aI (Nat.gcd_le_right (n:=N) M hn);have g2:=dQ aI (Nat.gcd_le_left N (dr1 h2));exact⟨_,uO,dn (fun _=>⟨_,uO,dn (fun _=>⟨_,aDF ⟨hc,hn⟩,_,uO,dn (fun _=>⟨_,aDE ⟨by unfold cR at*;omega,g0⟩,_,aDE ⟨by unfold cR at*;omega,g0⟩,aD7 q0 p1 p2 p3⟩) fun h=>fin h⟩) fun h=>fin (by rw[h,Nat.gcd_one_right])⟩) fun h=>fin (by rw[h,Nat.gcd_one_left])⟩
def RES(r:Int × Rat):AV:=.t [(true,encR r.2),(false,[.i .i64 r.1])]
theorem aCs:encR 0=[.i .i64 0,.r 0,.r 0]:=by
 unfold encR rd_;rw[sn0,if_pos rfl];rfl
theorem tH{P:Int × Rat}{e:Int}(h:P=(e,0)):AV.t [(true,[.i .i64 0,.r 0,.r 0]),(false,[.i .i64 e])]=RES P:=by
 rw[h];unfold RES;rw[aCs]
theorem mY{l:List UInt8}:(un8 l).length=l.length:=List.length_map _
theorem aPW{c:UInt8}{l:List UInt8}:(fE c l).length≤l.length:=(List.takeWhile_sublist _).length_le
theorem aSe{c:UInt8}{l:List UInt8}:(aft c l).length≤l.length:=by
 unfold aft;have:=(List.dropWhile_sublist (p:=(·!= c)) (l:=l)).length_le;simp only[List.length_tail];omega
theorem aSf{l:List UInt8}:(unsigned l).length≤l.length:=by unfold unsigned;split<;>simp
theorem aFY{l:List UInt8}{c:UInt8}(h:eqL (un8 l) [c.toNat]=true):l=[c]:=by
 rw[sK]at h;have h:=congrArg by8 (of_decide_eq_true h);rw[aAZ]at h;exact h.trans (aAZ (l:=[c]))
theorem aSg{l:List UInt8}{c:UInt8}(h:eqL (un8 l) [c.toNat]=false):l≠[c]:=by
 rintro rfl;rw[sK]at h;exact absurd rfl (of_decide_eq_false h)
theorem aD8{P R:Prop}(h:P)(k:P→R):R:=k h
theorem aN8{l:List UInt8}(h:0<l.length):∃c,l.head? =some c∧(un8 l)[0]? =some c.toNat:=by
 match l,h with
 |c::_,_=>exact⟨c,rfl,rfl⟩
theorem aPX{q:Rat}{s:Int}{n d:Nat}(h0:0<n)(h1:s=sn q)(h2:q.num.natAbs=n)(h3:q.den=d):[.i .i64 s,.r n,.r d]=encR q:=by
 have h:=aD7 (q:=q) (fun e=>by rw[e]at h2;rw[←h2]at h0;exact absurd h0 (by decide)) h1 h2 h3;injection h
theorem aNf{l:List UInt8}{c:UInt8}(h:((c.toNat:Nat):Int)=48)(h1:l.head? =some c):l.head? =some 48:=by
 rw[h1,show c=48 from UInt8.toNat_inj.1 (by show c.toNat=48;omega)]
theorem hdn{l:List UInt8}{c:UInt8}(h:¬((c.toNat:Nat):Int)=48)(h1:l.head? =some c):l.head?≠some 48:=fun e=>h (by rw[h1]at e;injection e with e;rw[e];rfl)
theorem dvl{l:List UInt8}(h:dE l):dg B30 (dv l)≤l.length:=gK aI (Nat.lt_of_lt_of_le (aAt h) (Nat.pow_le_pow_left (by decide) _))
theorem bn1{x:Bool}(h:dV x=true):x=false:=by cases x<;>first|rfl|cases h
theorem bn0{x:Bool}(h:dV x=false):x=true:=by cases x<;>first|rfl|cases h
set_option maxRecDepth 10000 in
set_option maxHeartbeats 8000000 in
theorem aPY{l:List UInt8}(hl:l.length<1000000):Fc FR 40 [ss l] (RES (bO l)):=by
 obtain⟨u,hu⟩:∃u,unsigned l=u:=⟨_,rfl⟩
 obtain⟨f,hf⟩:∃f,fE 47 u=f:=⟨_,rfl⟩
 obtain⟨b,hb⟩:∃b,aft 47 u=b:=⟨_,rfl⟩
 obtain⟨n,hn⟩:∃n,fM l=n:=⟨_,rfl⟩
 have lu:u.length<1000000:=by have:=aSf (l:=l);rw[hu]at this;omega
 have lf:f.length<1000000:=by have:=aPW (c:=47) (l:=u);rw[hf]at this;omega
 have lb:b.length<1000000:=by have:=aSe (c:=47) (l:=u);rw[hb]at this;omega
 have b2:¬47∈u→b=[]:=fun h=>by rw[←hb];exact (aAd h).2
 have hP:bO l=bP n f b (decide (47∈u)):=by unfold bO;rw[hu,hf,hb,hn]
 have s1:=aNe hl;have s2:=aPV lu;unfold spl at s2;rw[hu,hn]at s1;rw[hf,hb]at s2;have E6:¬Row f→bO l=(6,0):=fun h=>by rw[hP,aSb h]
 have E7:47∈u→(¬Row b∨b=[48]∨b=[49])→bO l=(6,0):=fun h h1=>by rw[hP,decide_eq_true h,aPT h1]
 refine .by_ aSd Tryz.func40 rfl (by kernel_rfl) (by kernel_rfl) rfl ⟨_,s1,_,s2,_,aFX lf,fun h=>tH (E6 (aLk (bn1 h))),fun h1=>?_⟩;have d1:=bn0 h1;have hfl:0<f.length:=List.length_pos_iff.2 (xX.1 d1).2;obtain⟨c,c1,c2⟩:=aN8 hfl
 -- the first part's form,and the second's
 refine dt (fun h2=>⟨_,aFX lb,fun h=>tH (E7 h2 (.inl (aLk (bn1 h)))),fun h3=>dt (fun h4=>⟨_,c2,_,aIz,dt (fun h5=>?_) fun h5=>?_⟩) fun h4=>?_⟩) fun h2=>dt (fun h4=>⟨_,c2,_,aIz,dt (fun h5=>?_) fun h5=>?_⟩) fun h4=>?_
 ·exact tH (E6 (aHH (by rw[mY]at h4;omega) (aNf h5 c1)))
 rotate_left 2
 ·exact tH (E6 (aHH (by rw[mY]at h4;omega) (aNf h5 c1)))
 all_goals
  have hr:Row f:=aHG d1 (by first|exact .inr (hdn h5 c1)|(rw[mY]at h4;exact .inl (by omega)))
  first
   |have d2:=bn0 h3
    obtain⟨e,e1,e2⟩:=aN8 (List.length_pos_iff.2 (xX.1 d2).2);refine dt (fun _=>⟨_,e2,_,aIz,dt (fun h=>tH (E7 h2 (aLl (aNf h e1)))) fun h=>aD8 (P:=47∈u→Row b∧b≠[48]) (fun _=>⟨aHG d2 (.inr (hdn h e1)),fun e=>hdn h e1 (by rw[e];rfl)⟩) ?_⟩) fun h=>absurd h2 h
   |refine dt (fun h=>absurd h h2) fun _=>aD8 (P:=47∈u→Row b∧b≠[48]) (fun h=>absurd h h2) ?_
  intro hrb;have Z:f=[48]→(n=true∨47∈u)→bO l=(6,0):=fun h h1=>hP.trans (if_pos (.inr ⟨h,h1.imp id decide_eq_true⟩));refine⟨_,rfl,fun h=>dt (fun g=>tH (Z (aFY h) (.inl (by cases n<;>first|rfl|exact absurd g (by decide))))) fun g=>dt (fun k=>tH (Z (aFY h) (.inr k))) fun k=>⟨_,rfl,fun m=>?_,fun m=>aD8 (P:=¬(f=[48]∧(n=true∨47∈u))∧(47∈u→b≠[49])) ⟨fun e=>e.2.elim (fun e=>g (by rw[e];decide)) k,fun e=>absurd e k⟩ ?_⟩,fun h=>⟨_,rfl,fun m=>?_,fun m=>aD8 (P:=¬(f=[48]∧(n=true∨47∈u))∧(47∈u→b≠[49])) ⟨fun e=>aSg h e.1,fun _=>aSg m⟩ ?_⟩⟩
  ·have:=aFY m;rw[b2 k]at this;cases this
  rotate_left
  ·by_cases k:47∈u
   ·exact tH (E7 k (.inr (.inr (aFY m))))
   ·have:=aFY m;rw[b2 k]at this;cases this
  all_goals
   intro hq;have hk:=aCo (neg:=n) (two:=decide (47∈u)) hr (fun h=>hq.1 ⟨h.1,h.2.imp id of_decide_eq_true⟩) (fun h1 h=>h.elim (fun e=>e (hrb (of_decide_eq_true h1)).1) fun e=>e.elim (hrb (of_decide_eq_true h1)).2 (hq.2 (of_decide_eq_true h1)));rw[←hP]at hk;refine dt (fun h=>tH (by rw[hk,if_pos (.inl (by rw[mY]at h;omega))])) fun h=>dt (fun g=>tH (by rw[hk,if_pos (.inr (by rw[mY]at g;omega))])) fun g=>?_;rw[mY]at h g;rw[if_neg (by omega)]at hk;have cf:=dvl hr.1;have L:=aB;refine dn (fun k=>?_) fun k=>?_
   ·rw[if_pos (decide_eq_false k)]at hk;exact⟨_,aAe hr.1 lf,_,aI1,_,iY (q:=mkQ n (dv f) 1) (fun _=>by decide) (by cases n<;>simp) (aSc (neg:=n) rfl) (fun h=>by cases h) (by have:=iK aI;unfold cR;omega),congrArg RES hk.symm⟩
   ·rw[if_neg (by rw[decide_eq_true k];decide)]at hk;obtain⟨rb,nb⟩:=hrb k;have cb:=dvl rb.1;have bp:=aLm rb nb;refine⟨_,aAe hr.1 lf,_,aAe rb.1 lb,_,aDF ⟨by unfold cR;omega,bp⟩,_,uO,dn (fun g2=>tH (by rw[hk,if_pos g2])) fun g2=>?_⟩;rw[if_neg (fun e=>e g2)]at hk;have fp:=aLm hr (fun e=>hq.1 ⟨e,.inr k⟩);obtain⟨m1,m2,m3⟩:=aPU (neg:=n) rfl fp bp g2;exact (congrArg (fun x=>AV.t [(true,x),(false,[.i .i64 0])]) (aPX fp m1 m2 m3)).trans (congrArg RES hk.symm)
end E
namespace J
open Go Go.RowKit
open Ma Me K E
inductive Og where
 |nw
 |ar (i:Nat)
 |old
inductive R where
 |a (g:Bool) (c:List SV)
 |l (ty n:Nat) (L:List (List SV))
inductive Y where
 |a (v:AV)
 |b (x:Bool)
 /-- a pointer into a block of one's own (counted from the oldest) -/
 |p (k off:Nat)
 /-- a list that stays -/
 |l (ty:Nat) (o:Og) (n:Nat) (L:List (List SV))
 /-- a list of one's own,whole -/
 |s (k:Nat) (cap:Option Nat)
 /-- a pointer to an element that stays -/
 |e (ty:Nat) (c:List SV)
 /-- a pointer to an element of a list of one's own -/
 |q (k j:Nat)
 /-- a result of several parts -/
 |t (l:List R)
 /-- lists in a list that stays;a pointer to one of them -/
 |ls (ty:Nat) (l:List (Nat × Nat × List (List SV)))
 |el (t0 ty n:Nat) (L:List (List SV))
 /-- a function with pointers to cells that stay;to blocks of one's own -/
 |f (fn:Nat) (cs:List (Nat × List SV))
 |g (fn:Nat) (ks:List Nat)
inductive W where
 |c (b:B)
 |l (ty n:Nat) (L:List (List SV))
 |x
inductive A where
 |v (v:AV)
 |l (ty n:Nat) (L:List (List SV))
 |ls (ty:Nat) (l:List (Nat × Nat × List (List SV)))
 |e (ty:Nat) (c:List SV)
 |f (fn:Nat) (cs:List (Nat × List SV))
inductive X where
 |v (v:AV)
 |r (l:List R)
 |cut (i m:Nat)
def W.b(w:W):Option B:=match w with| .c b=>some b| .l ty _ L=>some ⟨ty,L.flatten⟩| .x=>none
noncomputable section
def gQ(F:Cf)(ty n:Nat)(L:List (List SV))(h:H)(P:Nat→Prop)(v:AV):Prop:=(v=sc .ns∧n=0∧L=[])∨(∃id cap c i,v=sc (.sl id 0 n cap)∧(∀m,cap=some m→n≤m)∧L.length=n∧h.h.get id=some ⟨ty,c⟩∧L.flatten<+:c∧id<h.n∧F.ti ty=some i∧(∀x∈L,x.length=i.sz)∧P id)∨
 ∃a cap i,v=sc (.v (.slice (some a) n cap))∧L.length=n∧F.ti ty=some i∧i.d.ag=false∧i.sz=1∧∀j c,L[j]? =some c→∃x,c=[x]∧F.ro ty (a.add (j*1))=some (sc x)
def All{α β:Type}(P:α→β→Prop):List α→List β→Prop
 | [],[]=>True
 |x::l,y::m=>P x y∧All P l m
 |_,_=>False
def xZ(F:Cf)(ty:Nat)(l:List (Nat × Nat × List (List SV)))(h:H)(P:Nat→Prop)(v:AV):Prop:=∃vs,gQ F ty l.length (vs.map fun x=>[x]) h P v∧All (fun p x=>gQ F p.1 p.2.1 p.2.2 h P (sc x)) l vs
def aBB(h:H)(P:Nat→Prop)(q:Nat × List SV)(p:Nat × Nat):Prop:=∃b,h.h.get p.1=some b∧dG q.2.length (drp p.2 b.c)=some q.2∧p.1<h.n∧P p.1
def yB(h:H)(P:Nat→Prop)(fn:Nat)(cs:List (Nat × List SV))(v:AV):Prop:=∃dX,v=sc (.f fn dX)∧All (aBB h P) cs dX
def CtJ(v u:AV)(n:Nat):Prop:=Ct v u n∨∃a cap,v=sc (.v (.slice (some a) n cap))∧u=v
def AR(F:Cf)(h:H)(a:A)(v:AV):Prop:=match a with| .v u=>v=u| .l ty n L=>gQ F ty n L h (fun _=>True) v| .ls ty l=>xZ F ty l h (fun _=>True) v| .e ty c=>∃p:Nat × Nat,v=sc (.p p.1 p.2)∧aBB h (fun _=>True) (ty,c) p| .f fn cs=>yB h (fun _=>True) fn cs v
def RR(F:Cf)(g h:H)(r:R)(p:Bool × List SV):Prop:=match r with| .a x c=>p=(x,c)| .l ty n L=>p.1=false∧∃s,p.2=[s]∧gQ F ty n L h (fun id=>g.n≤id) (sc s)
def XR(F:Cf)(g h:H)(vs:List AV)(r:X)(u:AV):Prop:=match r with
 | .v v=>u=v
 | .r l=>∃ps,All (RR F g h) l ps∧u=tup ps
 | .cut i m=>∃v,vs[i]? =some v∧CtJ v u m
def Lk(h:H):Prop:=∀k,h.n≤k→h.l.get k=none
def Fx(F:Cf)(f:Nat)(args:List A)(r:X):Prop:=∀(h:H) (vs:List AV),h.bar≤h.n→Lk h→All (AR F h) args vs→Xc F f vs h fun u h'=>Xh h h'∧XR F h h' vs r u
def lkJ:List (Nat × Y)→Nat→Option Y
 | [],_=>none
 |p::s,k=>cb (Nat.beq p.1 k) (some p.2) (lkJ s k)
def aI3(v:AV):Y:=match v with| .c false [.b x]=>.b x|v=>.a v
def yv(s:List (Nat × Y))(x:Operand):Option Y:=match x with
 | .tmp t=>lkJ s t
 |x=>ob (evs [] x) fun v=>some (aI3 v)
def atW(ws:List W)(k:Nat):Nat:=len ws-1-k
def rl(y:Y):Option AV:=match y with| .a v=>some v| .b x=>some (sc (.b x))|_=>none
def aD9(ws:List W):List Nat→Option (List (Nat × List SV))
 | []=>some []
 |k::l=>ob ws[atW ws k]? fun w=>(match w with| .c b=>ob (aD9 ws l) fun r=>some ((b.ty,b.c)::r)|_=>none)
def aI4(s:List (Nat × Y)):List Operand→Option (List Nat)
 | []=>some []
 |x::l=>ob (yv s x) fun y=>(match y with| .p k 0=>ob (aI4 s l) fun r=>some (k::r)|_=>none)
def yA(ws:List W)(y:Y):Option A:=match y with
 | .a v=>some (.v v)
 | .b x=>some (.v (sc (.b x)))
 | .l ty _ n L=>some (.l ty n L)
 | .ls ty l=>some (.ls ty l)
 | .s k _=>ob ws[atW ws k]? fun w=>(match w with| .l ty n L=>some (.l ty n L)|_=>none)
 | .f fn cs=>some (.f fn cs)
 | .g fn ks=>ob (aD9 ws ks) fun cs=>some (.f fn cs)
 |_=>none
def yAL(s:List (Nat × Y))(ws:List W)(l:List Operand):Option (List A):=match l with
 | []=>some []
 |x::l=>ob (yv s x) fun y=>ob (yA ws y) fun v=>ob (yAL s ws l) fun r=>some (v::r)
def rY(r:R):Y:=match r with| .a false [.b x]=>.b x| .a g c=>.a (.c g c)| .l ty n L=>.l ty .nw n L
def aAf(ws:List W)(y:Y)(m:Nat)(k:Y→List W→Prop):Prop:=match y with
 | .l ty o n L=>m≤n∧k (.l ty o m (L.take m)) ws
 | .s j _=>oo ws[atW ws j]? fun w=>(match w with| .l ty n L=>m≤n∧k (.l ty .nw m (L.take m)) (ws.set (atW ws j) .x)|_=>False)
 | .a (.c false [.ns])=>m=0∧k (.a (sc .ns)) ws
 |_=>False
def aNg(s:List (Nat × Y))(ws:List W)(xs:List Operand)(r:X)(k:Y→List W→Prop):Prop:=match r with
 | .v v=>k (.a v) ws
 | .r [r]=>k (rY r) ws
 | .r l=>k (.t l) ws
 | .cut i m=>oo (drp i xs).head? fun x=>oo (yv s x) fun y=>aAf ws y m k
def aNh(F:Cf)(ws:List W)(d:Dk)(y:Y)(k:Int→Prop):Prop:=match d,y with
 | .str,.a (.c false [.s l])=>k (l.length:Int)
 | .sl _,.a (.c false [.m n])=>oo (F.ln false n) fun n=>k (n:Int)
 | .sl _,.a (.c false [.r n])=>oo (F.ln true n) fun n=>k (n:Int)
 | .sl _,.a (.c false [.ns])=>k 0
 | .sl _,.l _ _ n _=>k (n:Int)
 | .sl _,.ls _ l=>k (l.length:Int)
 | .sl _,.s j _=>oo ws[atW ws j]? fun w=>(match w with| .l _ n _=>k (n:Int)|_=>False)
 |_,_=>False
def one'(y:Y)(k:SV→Prop):Prop:=match y with| .a (.c false [x])=>k x| .b x=>k (.b x)|_=>False
def jI(pl:Nat→Option (Nat × Nat))(s:List (Nat × Y)):List (Nat × Operand)→List SV→Option (List SV)
 | [],a=>some a
 |p::l,a=>ob (pl p.1) fun q=>ob (yv s p.2) fun y=>ob (rl y) fun v=>cells v fun c=>cb (Nat.beq (len c) q.2) (ob (dU q.1 c a) fun a=>jI pl s l a) none
def rA(z:Nat):Nat→List SV→List (List SV)
 |0,_=>[]
 |n+1,c=>c.take z::rA z n (drp z c)
section
variable (F:Cf) (tys:List (Nat × TI))
def aEa(ws:List W)(y:Y)(t z:Nat)(k:List SV→Prop):Prop:=match y with
 | .p n off=>oo ws[atW ws n]? fun w=>(match w with| .c b=>oo (dG z (drp off b.c)) k|_=>False)
 | .e ty c=>cb (Nat.beq ty t) (cb (Nat.beq (len c) z) (k c) False) False
 | .q n j=>oo ws[atW ws n]? fun w=>(match w with| .l _ _ L=>∃c,L[j]? =some c∧cb (Nat.beq (len c) z) (k c) False|_=>False)
 |_=>False
def aBu(st:Bool)(c:Call)(s:List (Nat × Y))(ws:List W)(k:Y→List W→Prop):Prop:=match c with
 |⟨.value x,xs,_⟩=>oo (yv s x) fun y=>(match y with| .a (.c false [.f f []])=>oo (yAL s ws xs.toList) fun l=>∃r,Fx F f l r∧aNg s ws xs.toList r k| .f f cs=>oo (yAL s ws xs.toList) fun l=>∃v,Fx F f (l++cs.map fun q=>A.e q.1 q.2) (.v v)∧k (.a v) ws|_=>False)
 |⟨.builtin .len,xs,ts⟩=>(match ts.toList,xs.toList with
  | [t],[x]=>tyL' tys t fun i=>oo (yv s x) fun y=>aNh F ws i.d y fun n=>k (.a (sc (.i .i64 n))) ws
  |_,_=>False)
 |⟨.builtin .append,xs,ts⟩=>(match ts.toList,xs.toList with
  | [t,t2],[x,x2]=>cb (Nat.beq t t2) (tyL' tys t fun i=>oo (elem i.d) fun el=>tyL' tys el fun j=>oo (yv s x2) fun y2=>(match y2 with
    | .s j2 (some 1)=>oo ws[atW ws j2]? fun w2=>(match w2 with
      | .l ty2 _ [c]=>cb (Nat.beq ty2 el) (cb (calm j.ze) (cb (Nat.blt 0 j.sz) (oo (yv s x) fun y=>(match y with
        | .a (.c false [.ns])=>j.by_<1099511627776∧k (.s (len ws) none) (.l el 1 [c]::ws)
        | .s j1 none=>oo ws[atW ws j1]? fun w=>(match w with| .l ty n L=>cb (Nat.beq ty el) (cb st (((n+1)*j.by_<1099511627776∧n+1<1099511627776)∧k (.s (len ws) none) (.l el (n+1) (L++[c])::ws.set (atW ws j1) .x)) False) False|_=>False)
        |_=>False)) False) False) False
      |_=>False)
    | .l ty2 _ m L=>cb (Nat.beq ty2 el) (cb (calm j.ze) (cb (Nat.blt 0 j.sz) (cb j.d.ag (oo (yv s x) fun y=>(match y with
      | .s j1 (some 0)=>oo ws[atW ws j1]? fun w=>(match w with| .l ty 0 []=>cb (Nat.beq ty el) ((m*j.by_<1099511627776∧m<1099511627776∧∀x∈L,calm x=true)∧k (.l el .nw m L) (ws.set (atW ws j1) .x)) False|_=>False)
      |_=>False)) False) False) False) False
    |_=>False)) False
  |_,_=>False)
 |⟨.builtin .max,xs,_⟩=>(match xs.toList with
  | [x,x2]=>oo (yv s x) fun y=>one' y fun a=>oo (yv s x2) fun y2=>one' y2 fun c=>(match a,c with| .i .i64 a,.i .i64 c=>k (.a (sc (.i .i64 (max a c)))) ws|_,_=>False)
  |_=>False)
 |_=>False
def lsP(ws:List W)(y:Y):Option ((Nat × Nat × List (List SV)) × List W):=match y with
 | .l ty _ n L=>some ((ty,n,L),ws)
 | .s k _=>ob ws[atW ws k]? fun w=>(match w with| .l ty n L=>some ((ty,n,L),ws.set (atW ws k) .x)|_=>none)
 |_=>none
def lsY(s:List (Nat × Y)):Nat→List W→List (Nat × Operand)→Option (List (Nat × Nat × List (List SV)) × List W)
 |_,ws,[]=>some ([],ws)
 |i,ws,p::l=>cb (Nat.beq p.1 i) (ob (yv s p.2) fun y=>ob (lsP ws y) fun q=>ob (lsY s (Nat.succ i) q.2 l) fun r=>some (q.1::r.1,r.2)) none
def elY(el:Nat)(y:Y):Bool:=match y with| .l ty _ _ _=>Nat.beq ty el|_=>true
def vop(st:Bool)(o:Op)(s:List (Nat × Y))(ws:List W)(k:Y→List W→Prop):Prop:=match o with
 | .move x=>oo (yv s x) fun y=>k y ws
 | .assign x=>oo (yv s x) fun y=>k y ws
 | .pick c a d=>oo (yv s c) fun y=>(match y with| .b x=>oo (yv s (cb x a d)) fun y=>k y ws|_=>False)
 | .extract x n=>oo (yv s x) fun y=>(match y with
   | .a (.t l)=>oo (drp n l).head? fun p=>k (.a (.c p.1 p.2)) ws
   | .t l=>oo (drp n l).head? fun r=>k (rY r) ws
   |_=>False)
 | .fieldAddr sT x f=>tyL' tys sT fun i=>oo (fields i.d f) fun q=>tyL' tys q.2 fun j=>cb (Nat.blt 0 j.sz) (oo (yv s x) fun y=>(match y with| .p n off=>k (.p n (off+q.1)) ws|_=>False)) False
 | .load t x=>tyL' tys t fun i=>oo (yv s x) fun y=>(match y with
   | .el t0 ty n L=>cb (Nat.beq t0 t) (cb i.d.ag False (cb (Nat.beq i.sz 1) (k (.l ty .old n L) ws) False)) False
   |y=>aEa ws y t i.sz fun c=>oo (av i.d.ag c) fun v=>k (.a v) ws)
 | .store t a x=>cb st (tyL' tys t fun i=>oo (yv s x) fun y=>oo (rl y) fun v=>(match v with
   | .c _ l=>cb (Nat.beq (len l) i.sz) (oo (yv s a) fun y=>(match y with
     | .p n off=>oo ws[atW ws n]? fun w=>(match w with| .c b=>oo (dU off l b.c) fun c=>cb (jE b) (k (.a E.un) (ws.set (atW ws n) (.c ⟨b.ty,c⟩))) False|_=>False)
     | .q n j=>oo ws[atW ws n]? fun w=>(match w with| .l ty m L=>cb (Nat.beq ty t) (cb (calm l) (j<m∧k (.a E.un) (ws.set (atW ws n) (.l ty m (L.set j l)))) False) False|_=>False)
     |_=>False)) False
   |_=>False)) False
 | .alloc t=>tyL' tys t fun i=>k (.p (len ws) 0) (.c ⟨t,i.ze⟩::ws)
 | .box t x=>oo (yv s x) fun y=>oo (rl y) fun v=>(match v with| .c _ l=>k (.p (len ws) 0) (.c ⟨t,l⟩::ws)|_=>False)
 | .build t pr=>tyL' tys t fun i=>(match i.d with| .st fs=>szL tys fs fun pl=>oo (jI (fun f=>(drp f pl).head?) s pr.toList i.ze) fun c=>k (.a (.c true c)) ws|_=>False)
 | .buildSlice t n pr=>tyL' tys t fun i=>oo (elem i.d) fun el=>tyL' tys el fun j=>cb (Nat.blt (Nat.mul n j.sz) 16777216) (match lsY s 0 ws pr.toList with
   |some (q::l,ws')=>cb (Nat.beq j.sz 1) (cb (Nat.beq (len (q::l)) n) (cb (Nat.beq (len j.ze) 1) (k (.ls el (q::l)) ws') False) False) False
   |_=>oo (jI (fun f=>some (Nat.mul f j.sz,j.sz)) s pr.toList (fJ j.ze n)) fun c=>cb (calm c) (cb (Nat.beq el tyR) False (cb (Nat.beq (len c) (Nat.mul n j.sz)) (k (.s (len ws) (some n)) (.l el n (rA j.sz n c)::ws)) False)) False) False
 | .makeSlice t x y=>tyL' tys t fun i=>oo (elem i.d) fun el=>tyL' tys el fun j=>oo (yv s x) fun u=>oo (yv s y) fun v=>one' u fun a=>one' v fun c=>(match a,c with
   | .i _ a,.i _ c=>c=a∧∃n:Nat,a=(n:Int)∧(n*j.by_≤1099511627776∧n<1099511627776)∧cb (calm j.ze) (cb (Nat.beq el tyR) False (cb (Nat.beq (len j.ze) j.sz) (k (.s (len ws) (some n)) (.l el n (List.replicate n j.ze)::ws)) False)) False
   |_,_=>False)
 | .indexAddr t x ix=>tyL' tys t fun i=>(match i.d with
   | .sl el=>oo (yv s ix) fun z=>one' z fun a=>oo (yv s x) fun y=>(match a with
     | .i _ a=>∃j:Nat,a=(j:Int)∧(match y with
       | .l ty _ _ L=>cb (Nat.beq ty el) (∃c,L[j]? =some c∧k (.e ty c) ws) False
       | .ls ty l=>cb (Nat.beq ty el) (∃p,l[j]? =some p∧k (.el ty p.1 p.2.1 p.2.2) ws) False
       | .s n _=>oo ws[atW ws n]? fun w=>(match w with| .l ty m _=>cb (Nat.beq ty el) (j<m∧k (.q n j) ws) False|_=>False)
       |_=>False)
     |_=>False)
   | .ar m el=>tyL' tys el fun g=>oo (yv s ix) fun z=>one' z fun a=>oo (yv s x) fun y=>(match a,y with
     | .i _ (.ofNat j),.p n off=>cb (Nat.blt j m) (k (.p n (off+j*g.sz)) ws) False
     |_,_=>False)
   |_=>False)
 | .slice t x none (some z) none=>tyL' tys t fun i=>(match i.d with
   | .sl el=>tyL' tys el fun g=>cb g.d.ag (oo (yv s z) fun z=>one' z fun a=>oo (yv s x) fun y=>(match a with| .i _ a=>∃m:Nat,a=(m:Int)∧cb (elY el y) (aAf ws y m k) False|_=>False)) False
   |_=>False)
 | .binOp op t x y _=>tyL' tys t fun i=>cb i.d.ag False (oo (yv s x) fun y1=>one' y1 fun a=>oo (yv s y) fun y2=>one' y2 fun c=>aIB i.d op a c fun r=>k (.a (sc r)) ws)
 | .unOp .not _ x=>oo (yv s x) fun y=>one' y fun a=>(match a with| .b x=>k (.a (sc (.b (dV x)))) ws|_=>False)
 | .unOp .neg _ x=>oo (yv s x) fun y=>one' y fun a=>(match a with| .i .i64 n=>(-9223372036854775808<n∧n≤9223372036854775807)∧k (.a (sc (.i .i64 (-n)))) ws|_=>False)
 | .index t x ix=>tyL' tys t fun i=>(match i.d with| .str=>oo (yv s x) fun y=>one' y fun a=>(match a with| .s l=>oo (yv s ix) fun y2=>one' y2 fun c=>oo (natOf c some) fun j=>∃b,l[j]? =some b∧k (.a (sc (.i .u8 (b:Int)))) ws|_=>False)|_=>False)
 | .makeFunc (.func f) a c=>(match a.toList with| []=>oo (aI4 s c.toList) fun ks=>k (.g f ks) ws|_=>False)
 | .call c=>aBu F tys st c s ws k
 |_=>False
def vgd(ops:List Oper)(s:List (Nat × Y))(g:Option (Nat × Bool))(k:Bool→List (Nat × Y)→Prop):Prop:=match g with
 |none=>k true s
 |some (g,w)=>oo (drp g ops).head? fun o=>oo o.dst fun j=>oo (yv s (.tmp j)) fun y=>(match y with
  | .b x=>k (cb w x (dV x)) s
  | .a (.c false [.b x])=>(x=true→k (cb w true false) ((j,.b true)::s))∧(x=false→k (cb w false true) ((j,.b false)::s))
  | .a (.t [])=>k false s
  |_=>False)
def vst(st:Bool)(nt:Nat)(ops:List Oper)(o:Oper)(s:List (Nat × Y))(ws:List W)(k:List (Nat × Y)→List W→Prop):Prop:=match o.dst with
 |none=>(match o.guard with|none=>vop F tys st o.op s ws fun _ ws=>k s ws|some _=>False)
 |some d=>cb (Nat.blt d nt) (vgd ops s o.guard fun t s=>cb t (vop F tys st o.op s ws fun y ws=>k ((d,y)::s) ws) (k ((d,.a E.un)::s) ws)) False
def xL(nt:Nat)(ops:List Oper):List Oper→List (Nat × Y)→List W→(List (Nat × Y)→List W→Prop)→Prop
 | [],s,ws,k=>k s ws
 |o::l,s,ws,k=>vst F tys true nt ops o s ws fun s ws=>xL nt ops l s ws k
def vA(nt:Nat)(ops:List Oper):List Nat→List (Nat × Y)→List W→(List (Nat × Y)→List W→Prop)→Prop
 | [],s,ws,k=>k s ws
 |i::l,s,ws,k=>oo (drp i ops).head? fun o=>vst F tys false nt ops o s ws fun s ws=>vA nt ops l s ws k
def vag(ops:List Oper)(s:List (Nat × Y))(ws:List W):List Nat→Prop
 | []=>True
 |i::l=>oo (drp i ops).head? fun o=>(match o.op with
  | .fieldAddr ..=>vag ops s ws l
  | .indexAddr ..=>vag ops s ws l
  | .move ..=>vag ops s ws l
  | .assign ..=>vag ops s ws l
  | .build ..=>vag ops s ws l
  | .binOp ..=>vag ops s ws l
  | .load t x=>tyL' tys t fun j=>oo (yv s x) fun y=>aEa ws y t j.sz fun c=>oo (av j.d.ag c) fun u=>oo o.dst fun d=>oo (yv s (.tmp d)) fun y=>o.guard=none∧y=.a u∧avb u u=true∧vag ops s ws l
  | .buildSlice t n pr=>tyL' tys t fun i=>oo (elem i.d) fun el=>tyL' tys el fun j=>cb (Nat.blt (Nat.mul n j.sz) 16777216) (oo (jI (fun f=>some (Nat.mul f j.sz,j.sz)) s pr.toList (fJ j.ze n)) fun c=>oo o.dst fun d=>oo (yv s (.tmp d)) fun y=>(match y with
    | .s k (some m)=>oo ws[atW ws k]? fun w=>(match w with| .l ty q L=>cb (Nat.beq ty el) (cb (Nat.beq m n) (cb (Nat.beq q n) ((o.guard=none∧L.flatten=c∧plS c=true∧svL c c=true)∧vag ops s ws l) False) False) False|_=>False)
    |_=>False)) False
  |_=>False)
def vB(nt:Nat)(ops:List Oper):List (Nat × List Nat)→List (Nat × Y)→List W→(List (Nat × Y)→List W→Prop)→Prop
 | [],s,ws,k=>k s ws
 |(i,[])::l,s,ws,k=>oo (drp i ops).head? fun o=>vst F tys true nt ops o s ws fun s ws=>vB nt ops l s ws k
 |(i,late)::l,s,ws,k=>oo (drp i ops).head? fun o=>vst F tys true nt ops o s ws fun s ws=>vag tys ops s ws late∧vB nt ops l s ws k
def cnt:List Bool→Nat
 | []=>0
 |b::m=>cb b (Nat.succ (cnt m)) (cnt m)
def rnm:List Bool→Nat→Option Nat
 | [],_=>none
 |b::m,k=>cb (Nat.beq k (len m)) (cb b (some (cnt m)) none) (rnm m k)
def dF{α:Type}:List Bool→List α→List α
 |b::m,a::l=>cb b (a::dF m l) (dF m l)
 |_,_=>[]
def aFZ(m:List Bool):List Nat→Option (List Nat)
 | []=>some []
 |k::l=>ob (rnm m k) fun k=>ob (aFZ m l) fun r=>some (k::r)
def rnY(m:List Bool)(y:Y):Option Y:=match y with
 | .p k off=>ob (rnm m k) fun k=>some (.p k off)
 | .s k c=>ob (rnm m k) fun k=>some (.s k c)
 | .q k j=>ob (rnm m k) fun k=>some (.q k j)
 | .g f ks=>ob (aFZ m ks) fun ks=>some (.g f ks)
 |y=>some y
def aBv(m:List Bool)(s:List (Nat × Y)):List (Nat × Y)→Prop
 | []=>True
 |p::l=>ob (yv s (.tmp p.1)) (rnY m)=some p.2∧aBv m s l
def fits(s:List (Nat × Y))(ws:List W)(t:List (Nat × Y) × List W):Prop:=∃m:List Bool,len m=len ws∧dF m ws=t.2∧aBv m s t.1
def vc(nt fn:Nat):Code→List (Nat × Y)→List W→(Ex→List (Nat × Y)→List W→Prop)→Prop
 | .skip,s,ws,k=>k .n s ws
 | .ret,s,ws,k=>k .r s ws
 | .exit id,s,ws,k=>k (.x id) s ws
 | .seq a b,s,ws,k=>vc nt fn a s ws fun x s ws=>(match x with| .n=>vc nt fn b s ws k|x=>k x s ws)
 | .region id ops dr,s,ws,k=>cb dr (oo (F.pl fn id) fun p=>lU F ops p=true∧vA F tys nt ops.toList p.1 s ws fun s ws=>vB F tys nt ops.toList p.2 s ws (k .n)) (xL F tys nt ops.toList ops.toList s ws (k .n))
 | .cond c a b,s,ws,k=>oo (yv s c) fun y=>(match y with
   | .b x=>cb x (vc nt fn a s ws k) (vc nt fn b s ws k)
   | .a (.c false [.b x])=>(x=true→vc nt fn a s ws k)∧(x=false→vc nt fn b s ws k)
   |_=>False)
 | .block id a,s,ws,k=>vc nt fn a s ws fun x s ws=>(match x with| .x j=>cb (Nat.beq id j) (k .n s ws) (k (.x j) s ws)|x=>k x s ws)
 | .loop a,s,ws,k=>∃(ι:Type) (I:ι→List (Nat × Y) × List W) (m:ι→Nat),(∃i,fits s ws (I i))∧∀i,vc nt fn a (I i).1 (I i).2 fun x s ws=>(match x with| .n=>∃j,m j<m i∧fits s ws (I j)|x=>k x s ws)
 |_,_,_,_=>False
def aI5(r:ResultVar)(s:List (Nat × Y))(ws:List W)(k:Y→Prop):Prop:=match r with
 | .tmp t=>oo (yv s (.tmp t)) k
 | .cell t ty=>tyL' tys ty fun i=>oo (yv s (.tmp t)) fun y=>(match y with| .p n off=>oo ws[atW ws n]? fun w=>(match w with| .c b=>oo (dG i.sz (drp off b.c)) fun l=>cb i.d.ag (k (.a (.c true l))) False|_=>False)|_=>False)
def uC:List ResultVar→List (Nat × Y)→List W→(List Y→Prop)→Prop
 | [],_,_,k=>k []
 |r::l,s,ws,k=>aI5 tys r s ws fun p=>uC l s ws fun q=>k (p::q)
def plain:List Y→Option (List (Bool × List SV))
 | []=>some []
 |y::l=>ob (rl y) fun v=>ob (fP v) fun p=>ob (plain l) fun r=>some (p::r)
def aNi(ws:List W):List R→List Y→Prop
 | [],[]=>True
 |r::l,y::m=>(match r with
  | .a g c=>oo (rl y) fun v=>v=.c g c
  | .l ty n L=>(match y with
    | .l ty2 .nw n2 L2=>ty2=ty∧n2=n∧L2=L
    | .s j _=>oo ws[atW ws j]? fun w=>(match w with| .l ty2 n2 L2=>ty2=ty∧n2=n∧L2=L|_=>False)
    | .a (.c false [.ns])=>n=0∧L=[]
    |_=>False))∧aNi ws l m
 |_,_=>False
def aI6(ws:List W)(ys:List Y)(r:X):Prop:=match r with
 | .v v=>oo (plain ys) fun l=>tup l=v
 | .r l=>aNi ws l ys
 | .cut i m=>(match ys with| [.l _ (.ar j) n _]=>cb (Nat.beq j i) (n=m) False|_=>False)
def ixY(k:Nat):List A→List (Nat × Y)
 | []=>[]
 | .v v::l=>(k,.a v)::ixY (k+1) l
 | .l ty n L::l=>(k,.l ty (.ar k) n L)::ixY (k+1) l
 | .ls ty a::l=>(k,.ls ty a)::ixY (k+1) l
 | .e ty c::l=>(k,.e ty c)::ixY (k+1) l
 | .f fn cs::l=>(k,.f fn cs)::ixY (k+1) l
def vfn(G:Func)(f:Nat)(cd:Code)(args:List A)(r:X):Prop:=vc F tys G.ntmps f cd (ixY 0 args) [] fun x s ws=>(match x with
 | .x _=>False
 |_=>uC tys G.results.toList s ws fun l=>aI6 ws l r)
end
end
theorem oK:∀{l:List SV},calm l=true↔∀x∈l,aBP x=true
 | []=>⟨fun _ _ h=>(by cases h),fun _=>rfl⟩
 |x::l=>by
  show cb (aBP x) (calm l) false=true↔_;cases hx:aBP x with
  |true=>exact⟨fun h y hy=>(List.mem_cons.1 hy).elim (fun q=>q▸hx) fun hy=>oK.1 h y hy,fun h=>oK.2 fun y hy=>h y (List.mem_cons_of_mem _ hy)⟩
  |false=>exact⟨fun h=>(by cases h),fun h=>by have:=h x (List.mem_cons_self ..);rw[hx]at this;cases this⟩
section
variable {z:Nat} {c x:List SV}
theorem tJ:∀{L:List (List SV)},(∀x∈L,x.length=z)→L.flatten.length=L.length*z
 | [],_=>by simp
 |x::l,h=>by
  rw[List.flatten_cons,List.length_append,tJ fun y hy=>h y (List.mem_cons_of_mem _ hy),h x (List.mem_cons_self ..),List.length_cons,Nat.succ_mul,Nat.add_comm]
theorem aC9:∀{L:List (List SV)} {i:Nat},(∀x∈L,x.length=z)→L.flatten.drop (i*z)=(L.drop i).flatten
 | [],i,_=>by simp
 |x::l,0,_=>by simp
 |x::l,i+1,h=>by
  have e:(i+1)*z=z+i*z:=(by rw[Nat.succ_mul,Nat.add_comm]);have hx:=h x (List.mem_cons_self ..);rw[e,←List.drop_drop,List.flatten_cons,List.drop_left' hx];exact aC9 fun y hy=>h y (List.mem_cons_of_mem _ hy)
theorem aN9{L:List (List SV)}{i:Nat}(h:∀x∈L,x.length=z)(hp:L.flatten<+:c)(hi:L[i]? =some x):dG z (drp (i*z) c)=some x:=by
 obtain⟨t,rfl⟩:=hp;obtain⟨hlt,hi⟩:=List.getElem?_eq_some_iff.1 hi;have hx:x.length=z:=h x (hi▸List.getElem_mem _);have hl:i*z+z≤L.flatten.length:=by
  rw[tJ h];have:=Nat.mul_le_mul_right z (show i+1≤L.length from hlt);rw[Nat.succ_mul]at this;exact this
 rw[jY,List.drop_append_of_le_length (by omega),aC9 h,List.drop_eq_getElem_cons hlt,hi,List.flatten_cons,kY];exact⟨by simp[hx],by rw[List.append_assoc,List.take_left' hx]⟩
theorem aPZ{L:List (List SV)}(hp:L.flatten<+:c)(n:Nat):(L.take n).flatten<+:c:=by
 refine List.IsPrefix.trans ?_ hp;have e:L.flatten=(L.take n).flatten++(L.drop n).flatten:=by rw[←List.flatten_append,List.take_append_drop]
 rw[e];exact⟨_,rfl⟩
theorem aSh{L:List (List SV)}{i:Nat}(h:∀x∈L,x.length=z)(hi:i<L.length)(hx:x.length=z):dU (i*z) x L.flatten=some (L.set i x).flatten:=by
 have hl:i*z+z≤L.flatten.length:=by
  rw[tJ h];have:=Nat.mul_le_mul_right z (show i+1≤L.length from hi);rw[Nat.succ_mul]at this;exact this
 rw[pW,hx];refine⟨hl,?_⟩;have e:i*z+z=(i+1)*z:=by rw[Nat.succ_mul]
 rw[e,aC9 h,List.set_eq_take_append_cons_drop,if_pos hi,List.flatten_append,List.flatten_cons];have e2:L.flatten.take (i*z)=(L.take i).flatten:=by
  have e3:L.flatten=(L.take i).flatten++(L.drop i).flatten:=(by rw[←List.flatten_append,List.take_append_drop]);have e4:(L.take i).flatten.length=i*z:=by
   rw[tJ fun y hy=>h y (List.mem_of_mem_take hy),List.length_take,Nat.min_eq_left (by omega)]
  rw[e3,List.take_left' e4]
 rw[e2,List.append_assoc]
theorem aF0{ze:List SV}:∀n:Nat,fJ ze n=(List.replicate n ze).flatten
 |0=>rfl
 |n+1=>by
  rw[List.replicate_succ,List.flatten_cons,←aF0 n];exact iT _ _
theorem aF1:∀{n:Nat} {c:List SV},c.length=n*z→(rA z n c).flatten=c∧(rA z n c).length=n∧∀x∈rA z n c,x.length=z
 |0,c,h=>by
  rw[Nat.zero_mul]at h;exact⟨(List.length_eq_zero_iff.1 h).symm,rfl,fun _ h=>by cases h⟩
 |n+1,c,h=>by
  rw[Nat.succ_mul]at h;obtain⟨h1,h2,h3⟩:=aF1 (n:=n) (c:=c.drop z) (by rw[List.length_drop];omega);show (c.take z::rA z n (drp z c)).flatten=c∧(c.take z::rA z n (drp z c)).length=n+1∧∀x∈c.take z::rA z n (drp z c),x.length=z;rw[jY];refine⟨by rw[List.flatten_cons,h1,List.take_append_drop],by rw[List.length_cons,h2],fun x hx=>?_⟩;rcases List.mem_cons.1 hx with rfl|hx
  ·rw[List.length_take];omega
  ·exact h3 x hx
end
theorem aA0{L:List (List SV)}:calm L.flatten=true↔∀x∈L,calm x=true:=by
 constructor
 ·exact fun h x hx=>oK.2 fun y hy=>oK.1 h y (List.mem_flatten.2 ⟨x,hx,hy⟩)
 ·intro h;refine oK.2 fun y hy=>?_;obtain⟨x,hx,hy⟩:=List.mem_flatten.1 hy;exact oK.1 (h x hx) y hy
def At(ids:List Nat)(k id:Nat):Prop:=k<ids.length∧ids[ids.length-1-k]? =some id
def Fr(zs:List (Nat × B))(id:Nat):Prop:=∀p∈zs,p.1≠id
def PR(F:Cf)(g h:H)(zs:List (Nat × B))(r:R)(p:Bool × List SV):Prop:=match r with
 | .a x c=>p=(x,c)
 | .l ty n L=>p.1=false∧∃s,p.2=[s]∧gQ F ty n L h (fun id=>Fr zs id∧g.n≤id) (sc s)
def PtE(F:Cf)(h:H)(zs:List (Nat × B))(ty:Nat)(c:List SV)(v:AV):Prop:=(∃id off b,v=sc (.p id off)∧h.h.get id=some b∧dG c.length (drp off b.c)=some c∧id<h.n∧Fr zs id)∨
 ∃ad x i,v=sc (.v (.pointer (some ad)))∧c=[x]∧F.ro ty ad=some (sc x)∧F.ti ty=some i∧i.d.ag=false
def YR(F:Cf)(g:H)(vs:List AV)(h:H)(zs:List (Nat × B))(ws:List W)(ids:List Nat)(y:Y)(v:AV):Prop:=match y with
 | .a u=>v=u
 | .b x=>v=sc (.b x)
 | .p k off=>∃id,At ids k id∧v=sc (.p id off)
 | .l ty o n L=>gQ F ty n L h (fun id=>Fr zs id∧(o=.nw→g.n≤id)) v∧∀i,o=.ar i→∃u,vs[i]? =some u∧CtJ u v n
 | .s k cap=>∃id n,At ids k id∧v=sc (.sl id 0 n cap)∧(∀m,cap=some m→n≤m)∧(cap=none→0<n)∧∀ty m L,ws[atW ws k]? =some (.l ty m L)→n=m
 | .e ty c=>PtE F h zs ty c v
 | .q k j=>∃id off,At ids k id∧v=sc (.p id off)∧∀ty m L i,ws[atW ws k]? =some (.l ty m L)→F.ti ty=some i→off=j*i.sz∧j<m
 | .t l=>∃ps,All (PR F g h zs) l ps∧v=.t ps
 | .ls ty l=>xZ F ty l h (Fr zs) v
 | .el t0 ty n L=>∃x,PtE F h zs t0 [x] v∧gQ F ty n L h (Fr zs) (sc x)
 | .f fn cs=>yB h (Fr zs) fn cs v
 | .g fn ks=>∃dX,v=sc (.f fn dX)∧All (fun k p=>At ids k p.1∧p.2=0) ks dX
def RS(F:Cf)(g:H)(vs:List AV)(h:H)(zs:List (Nat × B))(ws:List W)(ids:List Nat):List (Nat × Y)→List (Nat × AV)→Prop
 | [],[]=>True
 |p::a,q::b=>p.1=q.1∧YR F g vs h zs ws ids p.2 q.2∧RS F g vs h zs ws ids a b
 |_,_=>False
def zc(o:Option B)(i:Nat)(r:List (Nat × B)):List (Nat × B):=match o with|some b=>(i,b)::r|none=>r
def zl:List Nat→List W→List (Nat × B)
 |i::l,w::m=>zc w.b i (zl l m)
 |_,_=>[]
def WOk(F:Cf)(w:W):Prop:=match w with
 | .l ty n L=>L.length=n∧ty≠tyR∧∃i,F.ti ty=some i∧∀x∈L,x.length=i.sz∧calm x=true
 |_=>True
structure Sy (F:Cf) (β:Nat) (g:H) (vs:List AV) (e:Env) (h:H) (sy:List (Nat × Y)) (ws:List W) (ids:List Nat) (s:List (Nat × AV)):Prop where
 r:RS F g vs h (zl ids ws) ws ids sy s
 len:ids.length=ws.length
 ok:∀w∈ws,WOk F w
 st:St β g e s h (zl ids ws) [] []
structure Mo (h h':H) (zs zs':List (Nat × B)) (ws ws':List W) (ids ids':List Nat):Prop where
 n:h.n≤h'.n
 o:∀k,k<h.n→Fr zs k→h'.h.get k=h.h.get k
 z:∀k,k<h.n→Fr zs k→Fr zs' k
 a:∀k id,At ids k id→At ids' k id
 w:∀k,k<ws.length→∀ty m L,ws'[atW ws' k]? =some (.l ty m L)→∃L',ws[atW ws k]? =some (.l ty m L')
section
variable {F:Cf} {tys:List (Nat × TI)} {nt fn β:Nat} {g h h':H} {vs:List AV} {e:Env} {sy:List (Nat × Y)} {s:List (Nat × AV)} {ws ws':List W} {ids ids':List Nat} {zs zs':List (Nat × B)} {y:Y} {v:AV} {ty n:Nat} {L:List (List SV)} {P P':Nat→Prop}
theorem gQ.to(hl:gQ F ty n L h P v)(hn:h.n≤h'.n)(hk:∀id,id<h.n→P id→h'.h.get id=h.h.get id∧P' id):gQ F ty n L h' P' v:=by
 rcases hl with hl|⟨id,cap,c,i,h1,h2,h3,h4,h5,h6,h7,h8,h9⟩|hl
 ·exact .inl hl
 ·obtain⟨q1,q2⟩:=hk id h6 h9;exact .inr (.inl ⟨id,cap,c,i,h1,h2,h3,q1.trans h4,h5,Nat.lt_of_lt_of_le h6 hn,h7,h8,q2⟩)
 ·exact .inr (.inr hl)
theorem PR.mono{r:R}{p:Bool × List SV}(hr:PR F g h zs r p)(m:Mo h h' zs zs' ws ws' ids ids'):PR F g h' zs' r p:=by
 cases r with
 |a x c=>exact hr
 |l ty n L=>
  obtain⟨h1,s,h2,h3⟩:=hr;exact⟨h1,s,h2,h3.to m.n fun id q1 q2=>⟨m.o id q1 q2.1,m.z id q1 q2.1,q2.2⟩⟩
theorem All.imp{α γ:Type}{P Q:α→γ→Prop}(k:∀a b,P a b→Q a b):∀{l:List α} {m:List γ},All P l m→All Q l m
 | [],[],_=>trivial
 |_::_,_::_,h=>⟨k _ _ h.1,All.imp k h.2⟩
theorem PtE.mono{c:List SV}(hy:PtE F h zs ty c v)(m:Mo h h' zs zs' ws ws' ids ids'):PtE F h' zs' ty c v:=by
 rcases hy with⟨id,off,b,h1,h2,h3,h4,h5⟩|hy
 ·exact .inl ⟨id,off,b,h1,(m.o id h4 h5).trans h2,h3,Nat.lt_of_lt_of_le h4 m.n,m.z id h4 h5⟩
 ·exact .inr hy
theorem xZ.to{l:List (Nat × Nat × List (List SV))}(hl:xZ F ty l h P v)(hn:h.n≤h'.n)(hk:∀id,id<h.n→P id→h'.h.get id=h.h.get id∧P' id):xZ F ty l h' P' v:=let ⟨vs,h1,h2⟩:=hl;⟨vs,h1.to hn hk,h2.imp fun _ _ q=>q.to hn hk⟩
theorem aBB.to{q:Nat × List SV}{p:Nat × Nat}(hc:aBB h P q p)(hn:h.n≤h'.n)(hk:∀id,id<h.n→P id→h'.h.get id=h.h.get id∧P' id):aBB h' P' q p:=by
 obtain⟨b,h1,h2,h3,h4⟩:=hc;obtain⟨q1,q2⟩:=hk _ h3 h4;exact⟨b,q1.trans h1,h2,Nat.lt_of_lt_of_le h3 hn,q2⟩
theorem yB.to{fn:Nat}{cs:List (Nat × List SV)}(hf:yB h P fn cs v)(hn:h.n≤h'.n)(hk:∀id,id<h.n→P id→h'.h.get id=h.h.get id∧P' id):yB h' P' fn cs v:=let ⟨c,h1,h2⟩:=hf;⟨c,h1,h2.imp fun _ _ q=>q.to hn hk⟩
theorem aF2{α γ:Type}{P:α→γ→Prop}:∀{l:List α} {m:List γ} {i:Nat} {x:α},All P l m→l[i]? =some x→∃y,m[i]? =some y∧P x y
 |_::_,y::_,0,_,h,hi=>by injection hi with hi;subst hi;exact⟨y,rfl,h.1⟩
 |_::l,_::m,i+1,_,h,hi=>aF2 (l:=l) (m:=m) h.2 hi
 | [],_,_,_,_,hi=>by simp at hi
theorem YR.mono(hl:ids.length=ws.length)(hy:YR F g vs h zs ws ids y v)(m:Mo h h' zs zs' ws ws' ids ids'):YR F g vs h' zs' ws' ids' y v:=by
 cases y with
 |a u=>exact hy
 |b x=>exact hy
 |p k off=>obtain⟨id,h1,h2⟩:=hy;exact⟨id,m.a _ _ h1,h2⟩
 |l ty o n L=>exact⟨hy.1.to m.n fun id q1 q2=>⟨m.o id q1 q2.1,m.z id q1 q2.1,q2.2⟩,hy.2⟩
 |s k cap=>
  obtain⟨id,n,h1,h2,h3,h4,h5⟩:=hy;refine⟨id,n,m.a _ _ h1,h2,h3,h4,fun ty q L hq=>?_⟩;obtain⟨L',hq⟩:=m.w k (hl▸h1.1) ty q L hq;exact h5 _ _ _ hq
 |e ty c=>exact PtE.mono hy m
 |q k j=>
  obtain⟨id,off,h1,h2,h3⟩:=hy;refine⟨id,off,m.a _ _ h1,h2,fun ty q L i hq hi=>?_⟩;obtain⟨L',hq⟩:=m.w k (hl▸h1.1) ty q L hq;exact h3 _ _ _ _ hq hi
 |t l=>obtain⟨ps,h1,h2⟩:=hy;exact⟨ps,h1.imp fun _ _ h=>h.mono m,h2⟩
 |ls ty l=>exact xZ.to hy m.n fun id q1 q2=>⟨m.o id q1 q2,m.z id q1 q2⟩
 |el t0 ty n L=>obtain⟨x,h1,h2⟩:=hy;exact⟨x,h1.mono m,h2.to m.n fun id q1 q2=>⟨m.o id q1 q2,m.z id q1 q2⟩⟩
 |f fn cs=>exact yB.to hy m.n fun id q1 q2=>⟨m.o id q1 q2,m.z id q1 q2⟩
 |g fn ks=>obtain⟨c,h1,h2⟩:=hy;exact⟨c,h1,h2.imp fun _ _ q=>⟨m.a _ _ q.1,q.2⟩⟩
theorem RS.mono(hl:ids.length=ws.length)(m:Mo h h' zs zs' ws ws' ids ids'):∀{sy:List (Nat × Y)} {s:List (Nat × AV)},RS F g vs h zs ws ids sy s→RS F g vs h' zs' ws' ids' sy s
 | [],[],_=>trivial
 |_::_,_::_,h=>⟨h.1,h.2.1.mono hl m,RS.mono hl m h.2.2⟩
theorem RS.lk:∀{sy:List (Nat × Y)} {s:List (Nat × AV)} {d:Nat} {y:Y},RS F g vs h zs ws ids sy s→lkJ sy d=some y→∃v,E.lk s d=some v∧YR F g vs h zs ws ids y v
 |p::a,q::b,d,y,h,hx=>by
  obtain⟨p1,p2⟩:=p;obtain⟨q1,q2⟩:=q;obtain⟨h1,h2,h3⟩:=h;have h1:p1=q1:=h1;subst h1;have hx:cb (Nat.beq p1 d) (some p2) (lkJ a d)=some y:=hx;show ∃v,cb (Nat.beq p1 d) (some q2) (E.lk b d)=some v∧YR F g vs _ zs ws ids y v;cases hb:Nat.beq p1 d with
  |true=>
   rw[hb]at hx;injection hx with hx;subst hx;exact⟨q2,rfl,h2⟩
  |false=>
   rw[hb]at hx;exact RS.lk h3 hx
theorem zN{v:AV}:YR F g vs h zs ws ids (aI3 v) v:=by
 unfold aI3;split<;>rfl
theorem RS.ev{x:Operand}(hr:RS F g vs h zs ws ids sy s)(hx:yv sy x=some y):∃v,evs s x=some v∧YR F g vs h zs ws ids y v:=by
 cases x with
 |tmp t=>exact hr.lk hx
 |const c=>
  obtain⟨v,h1,h2⟩:=aA.1 (show ob (evs [] (.const c)) (fun v=>some (aI3 v))=some y from hx);injection h2 with h2;subst h2;exact⟨v,h1,zN⟩
 |global c=>cases hx
 |func f=>
  injection hx with hx;subst hx;exact⟨_,rfl,zN⟩
theorem nL{u:AV}(h1:rl y=some u)(hy:YR F g vs h zs ws ids y v):v=u:=by
 cases y with
 |a w=>injection h1 with h1;exact hy.trans h1
 |b x=>injection h1 with h1;exact hy.trans h1
 |_=>cases h1
theorem dY{k:SV→Prop}(h1:one' y k)(hy:YR F g vs h zs ws ids y v):∃x,v=sc x∧k x:=by
 unfold one' at h1;split at h1
 ·exact⟨_,hy,h1⟩
 ·exact⟨_,hy,h1⟩
 ·exact h1.elim
theorem at_eq(hl:ids.length=ws.length)(k:Nat):atW ws k=ids.length-1-k:=by unfold atW;rw[aT,hl]
theorem kS{pl:Nat→Option (Nat × Nat)}(hr:RS F g vs h zs ws ids sy s):∀{l:List (Nat × Operand)} {a c:List SV},jI pl sy l a=some c→gU pl s l a=some c
 | [],_,_,hx=>hx
 |p::l,a,c,hx=>by
  obtain⟨q,h1,hx⟩:=aA.1 (show ob (pl p.1) (fun q=>ob (yv sy p.2) fun y=>ob (rl y) fun v=>cells v fun c=>cb (Nat.beq (len c) q.2) (ob (dU q.1 c a) fun a=>jI pl sy l a) none)=some c from hx);obtain⟨y,h2,hx⟩:=aA.1 hx;obtain⟨v,h3,hx⟩:=aA.1 hx;obtain⟨u,h5,h6⟩:=hr.ev h2;have:=nL h3 h6;subst this;show ob (pl p.1) (fun q=>ob (evs s p.2) fun v=>cells v fun c=>cb (Nat.beq (len c) q.2) (ob (dU q.1 c a) (gU pl s l)) none)=some c;rw[h1];show ob (evs s p.2) (fun v=>cells v fun c=>cb (Nat.beq (len c) q.2) (ob (dU q.1 c a) (gU pl s l)) none)=some c;rw[h5];cases u with
  |t l=>cases hx
  |c gg cs=>
   obtain⟨h7,hx⟩:=aD.1 (show cb (Nat.beq (len cs) q.2) (ob (dU q.1 cs a) fun a=>jI pl sy l a) none=some c from hx);obtain⟨a2,h8,h9⟩:=aA.1 hx;show cb (Nat.beq (len cs) q.2) (ob (dU q.1 cs a) (gU pl s l)) none=some c;rw[h7,h8];exact kS hr h9
theorem aOa:∀{ids:List Nat} {ws:List W} {j id:Nat} {w:W} {b:B},ids[j]? =some id→ws[j]? =some w→w.b=some b→∃k,(zl ids ws)[k]? =some (id,b)∧(∀w' b',w'.b=some b'→zl ids (ws.set j w')=(zl ids ws).set k (id,b'))∧∀w',w'.b=none→zl ids (ws.set j w')=(zl ids ws).eraseIdx k
 |i::l,u::m,0,id,w,b,h1,h2,h3=>by
  injection h1 with h1;injection h2 with h2;subst h1;subst h2;have e:∀o,zl (i::l) (u::m)=zc o i (zl l m)∨u.b≠o:=fun o=>by
    by_cases ho:u.b=o
    ·exact .inl (by rw[←ho];rfl)
    ·exact .inr ho
  have e1:zl (i::l) (u::m)=(i,b)::zl l m:=(by show zc u.b i (zl l m)=_;rw[h3];rfl);refine⟨0,by rw[e1];rfl,fun w' b' hb=>?_,fun w' hb=>?_⟩
  ·rw[e1];show zc w'.b i (zl l m)=_;rw[hb];rfl
  ·rw[e1];show zc w'.b i (zl l m)=_;rw[hb];rfl
 |i::l,u::m,j+1,id,w,b,h1,h2,h3=>by
  obtain⟨k,k1,k2,k3⟩:=aOa (ids:=l) (ws:=m) (j:=j) h1 h2 h3;cases hu:u.b with
  |none=>
   have e1:∀m',zl (i::l) (u::m')=zl l m':=fun m'=>(by show zc u.b i (zl l m')=_;rw[hu];rfl);exact⟨k,by rw[e1];exact k1,fun w' b' hb=>by rw[List.set_cons_succ,e1,e1];exact k2 w' b' hb,fun w' hb=>by rw[List.set_cons_succ,e1,e1];exact k3 w' hb⟩
  |some ub=>
   have e1:∀m',zl (i::l) (u::m')=(i,ub)::zl l m':=fun m'=>(by show zc u.b i (zl l m')=_;rw[hu];rfl);exact⟨k+1,by rw[e1];exact k1,fun w' b' hb=>by rw[List.set_cons_succ,e1,e1,k2 w' b' hb];rfl,fun w' hb=>by rw[List.set_cons_succ,e1,e1,k3 w' hb];rfl⟩
 | [],_,_,_,_,_,h1,_,_=>by simp at h1
 |_::_,[],_,_,_,_,_,h2,_=>by simp at h2
theorem own_ne(hw:(zs.Pairwise fun p q=>p.1≠q.1)){k id:Nat}{b:B}(hk:zs[k]? =some (id,b)):Fr (zs.eraseIdx k) id:=fun p hp hq=>by
 obtain⟨i,hi,hp⟩:=List.mem_eraseIdx_iff_getElem?.1 hp;have hpw:=List.pairwise_iff_getElem.1 hw;obtain⟨h1,h2⟩:=List.getElem?_eq_some_iff.1 hk;obtain⟨h3,h4⟩:=List.getElem?_eq_some_iff.1 hp;rcases Nat.lt_or_gt_of_ne hi with hlt|hgt
 ·have:=hpw i k h3 h1 hlt;rw[h2,h4]at this;exact this hq
 ·have:=hpw k i h1 h3 hgt;rw[h2,h4]at this;exact this hq.symm
theorem Sy.own{k id:Nat}{w:W}{b:B}(hS:Sy F β g vs e h sy ws ids s)(ha:At ids k id)(hw:ws[atW ws k]? =some w)(hb:w.b=some b):∃j,(zl ids ws)[j]? =some (id,b)∧(∀w' b',w'.b=some b'→zl ids (ws.set (atW ws k) w')=(zl ids ws).set j (id,b'))∧(∀w',w'.b=none→zl ids (ws.set (atW ws k) w')=(zl ids ws).eraseIdx j)∧g.n≤id∧id<h.n∧h.h.get id=some b:=by
 have hw':=hw;rw[at_eq hS.len]at hw';obtain⟨j,k1,k2,k3⟩:=aOa ha.2 hw' hb;rw[←at_eq hS.len]at k2 k3;exact⟨j,k1,k2,k3,hS.st.w.1 _ (List.mem_of_getElem? k1)⟩
theorem Sy.lst{k id:Nat}{cap:Option Nat}(hS:Sy F β g vs e h sy ws ids s)(ha:At ids k id)(hw:ws[atW ws k]? =some (.l ty n L))(hc:∀m,cap=some m→n≤m):gQ F ty n L h (fun i=>i=id) (sc (.sl id 0 n cap)):=by
 obtain⟨j,-,-,-,-,h1,h2⟩:=hS.own ha hw rfl;obtain⟨h3,-,i,h4,h5⟩:=hS.ok _ (List.mem_of_getElem? hw);exact .inr (.inl ⟨id,cap,_,i,rfl,hc,h3,h2,List.prefix_refl _,h1,h4,fun x hx=>(h5 x hx).1,rfl⟩)
theorem Sy.mo(hS:Sy F β g vs e h sy ws ids s)(m:Mo h h' (zl ids ws) (zl ids' ws') ws ws' ids ids')(hl:ids'.length=ws'.length)(hok:∀w∈ws',WOk F w)(hst:St β g e s h' (zl ids' ws') [] []):Sy F β g vs e h' sy ws' ids' s:=⟨hS.r.mono hS.len m,hl,hok,hst⟩
theorem aNj(hn:h.n≤h'.n)(ho:∀k,k<h.n→h'.h.get k=h.h.get k):Mo h h' zs zs ws ws ids ids:=⟨hn,fun k q _=>ho k q,fun _ _ h=>h,fun _ _ h=>h,fun _ _ _ _ L h=>⟨L,h⟩⟩
theorem Sy.xh(hS:Sy F β g vs e h sy ws ids s)(x:Xh h h'):Sy F β g vs e h' sy ws ids s:=hS.mo (aNj x.n x.o) hS.len hS.ok (hS.st.xh x)
theorem Sy.lift(hS:Sy F β g vs e h sy ws ids s):Sy F h.n g vs e h.lift sy ws ids s:=⟨hS.r.mono hS.len (aNj (h:=h) (h':=h.lift) (Nat.le_refl _) fun _ _=>rfl),hS.len,hS.ok,hS.st.lift⟩
theorem Sy.back(hS:Sy F β g vs e h sy ws ids s)(b:Nat):Sy F b g vs e (h.back b) sy ws ids s:=⟨hS.r.mono hS.len (aNj (h:=h) (h':=h.back b) (Nat.le_refl _) fun _ _=>rfl),hS.len,hS.ok,hS.st.back b⟩
noncomputable def nwH (h:H) (b:B):H:=⟨h.h.set b h.n,Nat.succ h.n,h.bar,h.l⟩
theorem aAg{α:Type}{k id:Nat}{t:T 5 α}{b:α}(q:k≠id):(T.set b t id).get k=t.get k:=by
 rcases T.get_upd (x:=b) (t:=t) (k:=id) (j:=k) with h1|⟨h1,-⟩
 ·exact h1
 ·exact absurd h1 q
theorem aNk{w:W}{k:Nat}(hk:k<ws.length):(w::ws)[atW (w::ws) k]? =ws[atW ws k]? :=by
 unfold atW;rw[aT,aT,List.length_cons,show ws.length+1-1-k=(ws.length-1-k)+1 by omega];rfl
theorem Sy.new{w:W}{b:B}(hS:Sy F β g vs e h sy ws ids s)(hb:w.b=some b)(hw:WOk F w):Sy F β g vs e (nwH h b) sy (w::ws) (h.n::ids) s:=by
 have e1:zl (h.n::ids) (w::ws)=(h.n,b)::zl ids ws:=by show zc w.b h.n (zl ids ws)=_;rw[hb];rfl
 refine hS.mo ⟨Nat.le_succ _,fun k q _=>aAg (Nat.ne_of_lt q),fun k q hf p hp=>?_,fun k id ha=>?_,fun k hk ty m L hq=>?_⟩ (congrArg Nat.succ hS.len) (fun u hu=>?_) (by rw[e1];exact hS.st.new b)
 ·rw[e1]at hp;rcases List.mem_cons.1 hp with rfl|hp
  ·exact fun q2=>by have q2:h.n=k:=q2;omega
  ·exact hf p hp
 ·refine⟨Nat.lt_succ_of_lt ha.1,?_⟩;have:=ha.1;rw[List.length_cons,show ids.length+1-1-k=(ids.length-1-k)+1 by omega];exact ha.2
 ·rw[aNk hk]at hq;exact⟨L,hq⟩
 ·rcases List.mem_cons.1 hu with rfl|hu
  ·exact hw
  ·exact hS.ok u hu
theorem at_new(hl:ids.length=ws.length){id:Nat}:At (id::ids) (E.len ws) id:=by
 rw[aT];exact⟨by rw[List.length_cons,hl];exact Nat.lt_succ_self _,by rw[List.length_cons,hl,Nat.add_sub_cancel,Nat.sub_self];rfl⟩
theorem aI7{w:W}:(w::ws)[atW (w::ws) (E.len ws)]? =some w:=by
 unfold atW;rw[aT,aT,List.length_cons,Nat.add_sub_cancel,Nat.sub_self];rfl
theorem aP0{j k:Nat}{w:W}:(ws.set j w)[atW (ws.set j w) k]? =(ws.set j w)[atW ws k]? :=by
 unfold atW;rw[aT,aT,List.length_set]
theorem aOb{j k:Nat}{w w':W}(hw:ws[j]? =some w)(hs:∀ty m L,w'=.l ty m L→∃L',w=.l ty m L'):∀ty m L,(ws.set j w')[atW (ws.set j w') k]? =some (.l ty m L)→∃L',ws[atW ws k]? =some (.l ty m L'):=fun ty m L hq=>by
 rw[aP0,List.getElem?_set]at hq;split at hq
 ·rename_i hj;split at hq
  ·injection hq with hq;obtain⟨L',hL⟩:=hs ty m L hq;exact⟨L',by rw[←hj,hw,hL]⟩
  ·cases hq
 ·exact⟨L,hq⟩
theorem Sy.put{k id:Nat}{w w':W}{b b':B}(hS:Sy F β g vs e h sy ws ids s)(ha:At ids k id)(hw:ws[atW ws k]? =some w)(hb:w.b=some b)(hb':w'.b=some b')(ok:WOk F w')(hs:∀ty m L,w'=.l ty m L→∃L',w=.l ty m L'):Sy F β g vs e (h.put id b') sy (ws.set (atW ws k) w') ids s:=by
 obtain⟨j,k1,k2,-,-,-,-⟩:=hS.own ha hw hb;have e1:=k2 w' b' hb';refine hS.mo ⟨Nat.le_refl _,fun k q hf=>aAg fun q2=>hf _ (List.mem_of_getElem? k1) q2.symm,fun k q hf p hp=>?_,fun _ _ h=>h,fun k hk=>aOb hw hs⟩ (by rw[List.length_set];exact hS.len) (fun u hu=>?_) (by rw[e1];exact hS.st.put k1)
 ·rw[e1]at hp;rcases List.mem_or_eq_of_mem_set hp with hp|rfl
  ·exact hf p hp
  ·exact (show id≠k from hf (id,b) (List.mem_of_getElem? k1))
 ·rcases List.mem_or_eq_of_mem_set hu with hu|rfl
  ·exact hS.ok u hu
  ·exact ok
theorem Sy.pub{k id:Nat}{w:W}{b:B}(hS:Sy F β g vs e h sy ws ids s)(ha:At ids k id)(hw:ws[atW ws k]? =some w)(hb:w.b=some b)(hn:h'.n=h.n)(ho:∀k,k≠id→h'.h.get k=h.h.get k)(hst:∀j:Nat,(zl ids ws)[j]? =some (id,b)→St β g e s h' ((zl ids ws).eraseIdx j) [] []):Sy F β g vs e h' sy (ws.set (atW ws k) .x) ids s∧Fr (zl ids (ws.set (atW ws k) .x)) id:=by
 obtain⟨j,k1,-,k3,-,-,-⟩:=hS.own ha hw hb;have e1:=k3 .x rfl;refine⟨hS.mo ⟨Nat.le_of_eq hn.symm,fun k q hf=>ho k fun q2=>hf _ (List.mem_of_getElem? k1) q2.symm,fun k q hf p hp=>?_,fun _ _ h=>h,fun k hk=>aOb hw fun _ _ _ h=>by cases h⟩ (by rw[List.length_set];exact hS.len) (fun u hu=>?_) (by rw[e1];exact hst j k1),by rw[e1];exact own_ne hS.st.w.2 k1⟩
 ·rw[e1]at hp;exact hf p (List.mem_of_mem_eraseIdx hp)
 ·rcases List.mem_or_eq_of_mem_set hu with hu|rfl
  ·exact hS.ok u hu
  ·trivial
theorem Sy.pub0{k id:Nat}{w:W}{b:B}(hS:Sy F β g vs e h sy ws ids s)(ha:At ids k id)(hw:ws[atW ws k]? =some w)(hb:w.b=some b):Sy F β g vs e h sy (ws.set (atW ws k) .x) ids s∧Fr (zl ids (ws.set (atW ws k) .x)) id:=hS.pub ha hw hb rfl (fun _ _=>rfl) fun _ _=>hS.st.drop (List.eraseIdx_sublist ..)
theorem Sy.pub1{k id:Nat}{w:W}{b x:B}(hS:Sy F β g vs e h sy ws ids s)(ha:At ids k id)(hw:ws[atW ws k]? =some w)(hb:w.b=some b):Sy F β g vs e (h.put id x) sy (ws.set (atW ws k) .x) ids s:=(hS.pub (h':=h.put id x) ha hw hb rfl (fun _ q=>aAg q) fun j hj=>by
 have:=(hS.st.put (b':=x) hj).drop (List.eraseIdx_sublist _ j)
 rwa [List.eraseIdx_set_eq]at this).1
end
section
variable {F:Cf} {tys:List (Nat × TI)} {nt fn β:Nat} {g h h':H} {vs:List AV} {e:Env} {sy:List (Nat × Y)} {s:List (Nat × AV)} {ws ws':List W} {ids ids':List Nat} {zs zs':List (Nat × B)} {y:Y} {v u:AV} {ty n m t:Nat} {L:List (List SV)} {P P':Nat→Prop} {i:TI} {x:Operand} {Q:AV→H→Prop}
theorem cbE{a b:Nat}{p:Prop}(h:cb (Nat.beq a b) p False):a=b∧p:=⟨aM.1 (cbT h).1,(cbT h).2⟩
def Aft(F:Cf)(β:Nat)(g:H)(vs:List AV)(e:Env)(sy:List (Nat × Y))(k:Y→List W→Prop)(v:AV)(h:H):Prop:=∃y ws ids s,k y ws∧YR F g vs h (zl ids ws) ws ids y v∧Sy F β g vs e h sy ws ids s
variable {st:Bool} {k:Y→List W→Prop}
theorem Sy.keep(hS:Sy F β g vs e h sy ws ids s)(hk:k y ws)(hy:YR F g vs h (zl ids ws) ws ids y v):Aft F β g vs e sy k v h:=⟨y,ws,ids,s,hk,hy,hS⟩
theorem yC{l:List SV}{n:Nat}(h:l.length=n):dG n (drp 0 l)=some l:=by
 rw[show drp 0 l=l from rfl,kY];exact⟨by omega,by rw[List.take_of_length_le (by omega)]⟩
theorem aF3(hS:Sy F β g vs e h sy ws ids s):∀{ks:List Nat} {dX:List (Nat × Nat)} {cs:List (Nat × List SV)},All (fun k p=>At ids k p.1∧p.2=0) ks dX→aD9 ws ks=some cs→All (aBB h fun _=>True) cs dX
 | [],[],_,_,hx=>by injection hx with hx;subst hx;trivial
 |k::l,p::m,_,ha,hx=>by
  obtain⟨w,h2,h3⟩:=aA.1 hx;cases w with
  |c b=>
   obtain⟨r,h4,h5⟩:=aA.1 h3;injection h5 with h5;subst h5;obtain⟨-,-,-,-,-,h6,h7⟩:=hS.own ha.1.1 h2 rfl;exact⟨⟨b,h7,by rw[ha.1.2];exact yC rfl,h6,trivial⟩,aF3 hS ha.2 h4⟩
  |_=>cases h3
theorem aLn(hS:Sy F β g vs e h sy ws ids s):∀{l:List Operand} {ks:List Nat},aI4 sy l=some ks→∃us cp,kR s l=some us∧dX us=some cp∧All (fun k p=>At ids k p.1∧p.2=0) ks cp
 | [],_,hx=>by injection hx with hx;subst hx;exact⟨[],[],rfl,rfl,trivial⟩
 |x::l,_,hx=>by
  obtain⟨y,h1,h2⟩:=aA.1 (show ob (yv sy x) (fun y=>(match y with| .p k 0=>ob (aI4 sy l) fun r=>some (k::r)|_=>none))=some _ from hx);obtain⟨v,h3,h4⟩:=hS.r.ev h1;split at h2
  ·obtain⟨r,h5,h6⟩:=aA.1 h2;injection h6 with h6;subst h6;obtain⟨id,h7,rfl⟩:=h4;obtain⟨us,cp,k1,k2,k3⟩:=aLn hS h5;refine⟨sc (.p id 0)::us,(id,0)::cp,?_,?_,⟨h7,rfl⟩,k3⟩
   ·show ob (evs s x) (fun v=>ob (kR s l) fun r=>some (v::r))=_;rw[h3,k1];rfl
   ·show ob (dX us) (fun r=>some ((id,0)::r))=_;rw[k2];rfl
  ·cases h2
theorem aTN{a:A}(hS:Sy F β g vs e h sy ws ids s)(h1:yA ws y=some a)(hy:YR F g vs h (zl ids ws) ws ids y v):AR F h a v:=by
 cases y with
 |a u=>injection h1 with h1;subst h1;exact hy
 |b x=>injection h1 with h1;subst h1;exact hy
 |l ty o n L=>injection h1 with h1;subst h1;exact hy.1.to (Nat.le_refl _) fun _ _ _=>⟨rfl,trivial⟩
 |ls ty l=>injection h1 with h1;subst h1;exact xZ.to hy (Nat.le_refl _) fun _ _ _=>⟨rfl,trivial⟩
 |s k cap=>
  obtain⟨w,h2,h3⟩:=aA.1 (show ob ws[atW ws k]? (fun w=>(match w with| .l ty n L=>some (.l ty n L)|_=>none))=some a from h1);cases w with
  |l ty n L=>
   injection h3 with h3;subst h3;obtain⟨id,n',ha,rfl,hc,-,hn⟩:=hy;have:=hn _ _ _ h2;subst this;exact (hS.lst ha h2 hc).to (Nat.le_refl _) fun _ _ _=>⟨rfl,trivial⟩
  |_=>cases h3
 |f fn cs=>injection h1 with h1;subst h1;exact yB.to hy (Nat.le_refl _) fun _ _ _=>⟨rfl,trivial⟩
 |g fn ks=>
  obtain⟨cs,h2,h3⟩:=aA.1 (show ob (aD9 ws ks) (fun cs=>some (A.f fn cs))=some a from h1);injection h3 with h3;subst h3;obtain⟨cp,h4,h5⟩:=hy;exact⟨cp,h4,aF3 hS h5 h2⟩
 |_=>cases h1
theorem aF4(hS:Sy F β g vs e h sy ws ids s):∀{l:List Operand} {al:List A},yAL sy ws l=some al→∃us,kR s l=some us∧All (AR F h) al us
 | [],_,hx=>by injection hx with hx;subst hx;exact⟨[],rfl,trivial⟩
 |x::l,al,hx=>by
  obtain⟨y,h1,hx⟩:=aA.1 (show ob (yv sy x) (fun y=>ob (yA ws y) fun v=>ob (yAL sy ws l) fun r=>some (v::r))=some al from hx);obtain⟨a,h2,hx⟩:=aA.1 hx;obtain⟨r,h3,hx⟩:=aA.1 hx;injection hx with hx;subst hx;obtain⟨v,h4,h5⟩:=hS.r.ev h1;obtain⟨us,h6,h7⟩:=aF4 hS h3;refine⟨v::us,?_,aTN hS h2 h5,h7⟩;show ob (evs s x) (fun v=>ob (kR s l) fun r=>some (v::r))=_;rw[h4,h6];rfl
theorem aHJ:∀{l:List Operand} {us:List AV} {i:Nat},kR s l=some us→l[i]? =some x→∃v,us[i]? =some v∧evs s x=some v
 | [],_,_,_,h2=>by simp at h2
 |a::l,us,i,h1,h2=>by
  obtain⟨v,h3,h4⟩:=aA.1 (show ob (evs s a) (fun v=>ob (kR s l) fun r=>some (v::r))=some us from h1);obtain⟨r,h5,h6⟩:=aA.1 h4;injection h6 with h6;subst h6;cases i with
  |zero=>injection h2 with h2;subst h2;exact⟨v,rfl,h3⟩
  |succ i=>exact aHJ (l:=l) (us:=r) (i:=i) h5 h2
theorem aOc{r:R}{p:Bool × List SV}(hr:PR F g h zs r p):YR F g vs h zs ws ids (rY r) (.c p.1 p.2):=by
 cases r with
 |a x c=>
  have hr:p=(x,c):=hr;subst hr;unfold rY;split
  ·rename_i hq;cases hq;rfl
  ·rename_i hq;cases hq;rfl
  ·rename_i hq;cases hq
 |l ty n L=>
  obtain⟨h1,s,h2,h3⟩:=hr;rw[h1,h2];exact⟨h3.to (Nat.le_refl _) fun id q1 q2=>⟨rfl,q2.1,fun _=>q2.2⟩,fun i h=>by cases h⟩
theorem RR.pr{r:R}{p:Bool × List SV}(hr:RR F h h' r p)(hw:∀p∈zs,p.1<h.n)(hn:g.n≤h.n):PR F g h' zs r p:=by
 cases r with
 |a x c=>exact hr
 |l ty n L=>
  obtain⟨h1,s,h2,h3⟩:=hr;exact⟨h1,s,h2,h3.to (Nat.le_refl _) fun id q1 q2=>⟨rfl,fun p hp q=>by have:=hw p hp;omega,Nat.le_trans hn q2⟩⟩
theorem gQ.ct(hl:gQ F ty n L h P v)(hm:m≤n)(hc:CtJ v u m):gQ F ty m (L.take m) h P u:=by
 rcases hc with hc|⟨a,cap,rfl,rfl⟩
 ·rcases hl with⟨rfl,rfl,rfl⟩|⟨id,cap,c,i,rfl,h2,h3,h4,h5,h6,h7,h8,h9⟩|⟨a,cap,i,rfl,-⟩
  ·rcases hc with⟨-,h2⟩|⟨_,_,_,h1,-⟩
   ·exact .inl ⟨h2,by omega,by simp⟩
   ·cases h1
  ·rcases hc with⟨h1,-⟩|⟨id',n',cap',h1,hu⟩
   ·cases h1
   ·cases h1;exact .inr (.inl ⟨id,cap,c,i,hu,fun q hq=>Nat.le_trans hm (h2 q hq),by rw[List.length_take];omega,h4,aPZ h5 m,h6,h7,fun x hx=>h8 x (List.mem_of_mem_take hx),h9⟩)
  ·rcases hc with⟨h1,-⟩|⟨_,_,_,h1,-⟩<;>cases h1
 ·rcases hl with⟨h1,-⟩|⟨_,_,_,_,h1,-⟩|⟨a',cap',i,h1,h2,h3⟩
  ·cases h1
  ·cases h1
  ·cases h1;rw[List.take_of_length_le (Nat.le_of_eq h2)];exact .inr (.inr ⟨a,cap,i,rfl,h2,h3⟩)
theorem CtJ.trans{w:AV}(h1:CtJ w v n)(h2:CtJ v u m):CtJ w u m:=by
 rcases h1 with h1|⟨a,cap,rfl,rfl⟩
 ·rcases h2 with h2|⟨a,cap,rfl,rfl⟩
  ·refine .inl ?_;rcases h1 with⟨rfl,rfl⟩|⟨id,l,cap,rfl,rfl⟩
   ·rcases h2 with⟨-,rfl⟩|⟨_,_,_,q,-⟩
    ·exact .inl ⟨rfl,rfl⟩
    ·cases q
   ·rcases h2 with⟨q,-⟩|⟨_,_,_,q,rfl⟩
    ·cases q
    ·cases q;exact .inr ⟨_,_,_,rfl,rfl⟩
  ·rcases h1 with⟨-,q⟩|⟨_,_,_,-,q⟩<;>cases q
 ·exact h2
theorem aHK(hS:Sy F β g vs e h sy ws ids s)(hy:YR F g vs h (zl ids ws) ws ids y v)(hc:CtJ v u m)(hx:aAf ws y m k):Aft F β g vs e sy k u h:=by
 unfold aAf at hx;split at hx
 ·exact hS.keep hx.2 ⟨hy.1.ct hx.1 hc,fun i hi=>let ⟨w,h1,h2⟩:=hy.2 i hi;⟨w,h1,CtJ.trans h2 hc⟩⟩
 ·obtain⟨w,h1,hx⟩:=aG hx;split at hx
  ·obtain⟨id,n',ha,rfl,h2,-,h3⟩:=hy;have:=h3 _ _ _ h1;subst this;obtain⟨-,-,-,-,hg,-,-⟩:=hS.own ha h1 rfl;obtain⟨h4,h5⟩:=hS.pub0 ha h1 rfl;exact h4.keep hx.2 ⟨((hS.lst ha h1 h2).ct hx.1 hc).to (Nat.le_refl _) fun q _ hq=>⟨rfl,hq▸h5,fun _=>hq▸hg⟩,fun i hi=>by cases hi⟩
  ·exact hx.elim
 ·obtain⟨rfl,hx⟩:=hx;have hy:v=sc .ns:=hy;subst hy;rcases hc with (⟨-,rfl⟩|⟨_,_,_,q,-⟩)|⟨_,_,q,-⟩
  ·exact hS.keep hx rfl
  ·cases q
  ·cases q
 ·exact hx.elim
def noC(v:AV):Prop:=∀a n cap,v≠sc (.v (.slice (some a) n cap))
theorem gQ.noC(hl:gQ F ty n L h P v)(ht:F.ti ty=some i)(hi:i.d.ag=true):J.noC v:=fun a n cap hv=>by
 rcases hl with⟨h1,-⟩|⟨_,_,_,_,h1,-⟩|⟨_,_,j,h1,-,h2,h3,-⟩
 ·rw[h1]at hv;cases hv
 ·rw[h1]at hv;cases hv
 ·rw[ht]at h2;cases h2;rw[hi]at h3;cases h3
theorem aNl(hv:J.noC v)(hy:YR F g vs h (zl ids ws) ws ids y v)(hx:aAf ws y m k):(v=sc .ns∧m=0)∨∃id n cap,v=sc (.sl id 0 n cap)∧(∀q,cap=some q→n≤q)∧m≤n:=by
 unfold aAf at hx;split at hx
 ·rcases hy.1 with⟨h1,h2,-⟩|⟨id,cap,_,_,h1,h2,-⟩|⟨a,cap,_,h1,-⟩
  ·exact .inl ⟨h1,by have:=hx.1;omega⟩
  ·exact .inr ⟨id,_,cap,h1,h2,hx.1⟩
  ·exact absurd h1 (hv a _ cap)
 ·obtain⟨w,h1,hx⟩:=aG hx;split at hx
  ·obtain⟨id,n',ha,rfl,h2,-,h3⟩:=hy;have:=h3 _ _ _ h1;subst this;exact .inr ⟨id,_,_,rfl,h2,hx.1⟩
  ·exact hx.elim
 ·exact .inl ⟨hy,hx.1⟩
 ·exact hx.elim
theorem aTO:∀{l:List R} {ps:List (Bool × List SV)},(∀r,l≠[r])→All (PR F g h zs) l ps→tup ps=.t ps
 | [],[],_,_=>rfl
 | [r],_,hn,_=>absurd rfl (hn r)
 |_::_::_,_::_::_,_,_=>rfl
theorem aP1{xs:List Operand}{r:X}{us:List AV}(hS:Sy F β g vs e h sy ws ids s)(ha:kR s xs=some us)(hx:aNg sy ws xs r k)(hX:Xh h h')(hr:XR F h h' us r u):Aft F β g vs e sy k u h':=by
 have hS':=hS.xh hX;have hw:∀p∈zl ids ws,p.1<h.n:=fun p hp=>(hS.st.w.1 p hp).2.1;unfold aNg at hx;split at hx
 ·have hr:u=_:=hr;exact hS'.keep hx hr
 ·obtain⟨ps,h1,rfl⟩:=hr
  match ps,h1 with
  | [p],h1=>exact hS'.keep hx (aOc (h1.1.pr hw hS.st.n))
 ·rename_i hne;obtain⟨ps,h1,rfl⟩:=hr;have h2:=h1.imp fun _ _ q=>RR.pr (g:=g) q hw hS.st.n;exact hS'.keep hx ⟨ps,h2,aTO (fun r q=>hne r (by rw[q])) h2⟩
 ·obtain⟨v,h1,h2⟩:=hr;obtain⟨x,h3,hx⟩:=aG hx;obtain⟨y,h4,hx⟩:=aG hx;rw[jY,List.head?_drop]at h3;obtain⟨v',h5,h6⟩:=aHJ ha h3;rw[h1]at h5;injection h5 with h5;subst h5;obtain⟨v2,h7,h8⟩:=hS'.r.ev h4;rw[h6]at h7;injection h7 with h7;subst h7;exact aHK hS' h8 h2 hx
theorem aSi{t:Nat}{c:List SV}{a:Operand}(hS:St β g e s h zs [] [])(hy:PtE F h zs' t c v)(ht:F.ti t=some i)(hz:c.length=i.sz)(hv:av i.d.ag c=some u)(ha:evs s a=some v):oU F e h t a=some (u,h):=by
 rcases hy with⟨id,off,b,rfl,h3,h4,-⟩|⟨ad,x,j,rfl,rfl,h3,h4,h5⟩
 ·exact aFi hS ht ha h3 (by rw[←hz];exact h4) hv
 ·unfold oU;rw[ht,aZ hS.k ha];show ob (F.ro t ad) (fun v=>some (v,h))=_;rw[h3];rw[ht]at h4;cases h4;rw[h5]at hv;exact congrArg (fun z=>some (z,h)) (Option.some.inj hv)
theorem aF5{t:Nat}{k:List SV→Prop}(hS:Sy F β g vs e h sy ws ids s)(ht:F.ti t=some i)(hy:YR F g vs h (zl ids ws) ws ids y v)(hx:aEa ws y t i.sz k):∃c,k c∧∀a u,evs s a=some v→av i.d.ag c=some u→oU F e h t a=some (u,h):=by
 unfold aEa at hx;split at hx
 ·obtain⟨w,h1,hx⟩:=aG hx;split at hx
  ·obtain⟨c,h2,hx⟩:=aG hx;obtain⟨id,ha,rfl⟩:=hy;obtain⟨-,-,-,-,-,-,h3⟩:=hS.own ha h1 rfl;exact⟨c,hx,fun a u q1 q2=>aFi hS.st ht q1 h3 h2 q2⟩
  ·exact hx.elim
 ·obtain⟨rfl,hk⟩:=cbE hx;obtain⟨h1,hk⟩:=cbT hk;rw[aT]at h1;exact⟨_,hk,fun a u q1 q2=>aSi hS.st hy ht (aM.1 h1) q2 q1⟩
 ·obtain⟨w,h1,hx⟩:=aG hx;split at hx
  ·obtain⟨c,h2,hx⟩:=hx;obtain⟨h3,hk⟩:=cbT hx;obtain⟨id,off,ha,rfl,h4⟩:=hy;obtain⟨-,-,-,-,-,-,h5⟩:=hS.own ha h1 rfl;obtain⟨-,-,i2,h6,h7⟩:=hS.ok _ (List.mem_of_getElem? h1);obtain⟨rfl,-⟩:=h4 _ _ _ i2 h1 h6;rw[aT,(h7 c (List.mem_of_getElem? h2)).1]at h3;have e3:=aM.1 h3;exact⟨c,hk,fun a u q1 q2=>aFi hS.st ht q1 h5 (by rw[←e3];exact aN9 (fun x hx=>(h7 x hx).1) (List.prefix_refl _) h2) q2⟩
  ·exact hx.elim
 ·exact hx.elim
theorem aP2{k:Int→Prop}(hS:Sy F β g vs e h sy ws ids s)(ht:F.ti t=some i)(hv:evs s x=some v)(hy:YR F g vs h (zl ids ws) ws ids y v)(hx:aNh F ws i.d y k):∃n,k n∧∀Q:AV→H→Prop,Q (sc (.i .i64 n)) h→Xop F (.call {callee:=.builtin .len,args:=#[x],argTypes:=#[t]}) e h Q:=by
 generalize hd:i.d=d at hx;unfold aNh at hx;split at hx
 ·have hy:v=_:=hy;subst hy;exact⟨_,hx,fun Q hq=>aKH hS.st ht hd hv hq⟩
 ·obtain⟨n,h6,hx⟩:=aG hx;have hy:v=_:=hy;subst hy;exact⟨_,hx,fun Q hq=>aCa (r:=false) hS.st ht hd hv h6 hq⟩
 ·obtain⟨n,h6,hx⟩:=aG hx;have hy:v=_:=hy;subst hy;exact⟨_,hx,fun Q hq=>aCa (r:=true) hS.st ht hd hv h6 hq⟩
 ·have hy:v=_:=hy;subst hy;exact⟨_,hx,fun Q hq=>aFh hS.st ht hd hv hq⟩
 ·refine⟨_,hx,fun Q hq=>?_⟩;rcases hy.1 with⟨rfl,rfl,-⟩|⟨id,cap,_,_,rfl,-⟩|⟨a,cap,_,rfl,-⟩
  ·exact aFh hS.st ht hd hv hq
  ·exact aFg hS.st ht hd hv hq
  ·exact aKG hS.st ht hd hv hq
 ·refine⟨_,hx,fun Q hq=>?_⟩;obtain⟨svs,h1,-⟩:=hy;rcases h1 with⟨rfl,h2,-⟩|⟨id,cap,_,_,rfl,-⟩|⟨a,cap,_,rfl,-⟩
  ·rw[h2]at hq;exact aFh hS.st ht hd hv hq
  ·exact aFg hS.st ht hd hv hq
  ·exact aKG hS.st ht hd hv hq
 ·obtain⟨w,h1,hx⟩:=aG hx;split at hx
  ·obtain⟨id,n',ha,rfl,-,-,h3⟩:=hy;have:=h3 _ _ _ h1;subst this;exact⟨_,hx,fun Q hq=>aFg hS.st ht hd hv hq⟩
  ·exact hx.elim
 ·exact hx.elim
theorem aUJ{f:Nat}{xs:Array Operand}{ats:Array TypeId}{us:List AV}(hS:St β g e s h zs [] [])(hx:evs s x=some (sc (.f f [])))(ha:kR s xs.toList=some us)(hc:Xc F f us h Q):Xop F (.call {callee:=.value x,args:=xs,argTypes:=ats}) e h Q:=by
 obtain⟨v,h1,⟨m0,k1⟩,k2⟩:=hc;refine⟨v,h1,⟨m0,fun m hm=>?_⟩,k2⟩;show ob (ev e x) (fun f=>ob (evL e xs.toList) fun l=>bQ F (exec F m) f l h)=_;rw[aZ hS.k hx,rJ hS.k ha];show fU F (exec F m) f (app us []) h=_;rw[iT,List.append_nil];exact k1 m hm
theorem aHL{α γ:Type}{P:α→γ→Prop}:∀{l l':List α} {m m':List γ},All P l m→All P l' m'→All P (l++l') (m++m')
 | [],_,[],_,_,h=>h
 |_::l,_,_::m,_,h1,h=>⟨h1.1,aHL (l:=l) (m:=m) h1.2 h⟩
theorem aHM:∀{cs:List (Nat × List SV)} {cp:List (Nat × Nat)},All (aBB h fun _=>True) cs cp→All (AR F h) (cs.map fun q=>A.e q.1 q.2) (uU cp)
 | [],[],_=>trivial
 |_::cs,p::cp,h=>⟨⟨p,rfl,h.1⟩,aHM (cs:=cs) (cp:=cp) h.2⟩
theorem aTP{f:Nat}{cp:List (Nat × Nat)}{xs:Array Operand}{ats:Array TypeId}{us:List AV}(hS:St β g e s h zs [] [])(hx:evs s x=some (sc (.f f cp)))(ha:kR s xs.toList=some us)(hc:Xc F f (us++uU cp) h Q):Xop F (.call {callee:=.value x,args:=xs,argTypes:=ats}) e h Q:=by
 obtain⟨v,h1,⟨m0,k1⟩,k2⟩:=hc;refine⟨v,h1,⟨m0,fun m hm=>?_⟩,k2⟩;show ob (ev e x) (fun f=>ob (evL e xs.toList) fun l=>bQ F (exec F m) f l h)=_;rw[aZ hS.k hx,rJ hS.k ha];show fU F (exec F m) f (app us (uU cp)) h=_;rw[iT];exact k1 m hm
theorem aUK{f:Nat}{a c:Array Operand}{us:List AV}{cp:List (Nat × Nat)}(hS:St β g e s h zs [] [])(h0:a.toList=[])(ha:kR s c.toList=some us)(hc:dX us=some cp)(kk:Q (sc (.f f cp)) h):Xop F (.makeFunc (.func f) a c) e h Q:=by
 refine .now (fun _=>?_) kk;show oV e h (.func f) a.toList c.toList=_;rw[h0];show ob (evL e c.toList) (fun l=>ob (dX l) fun l=>vh (.f f l) h)=_;rw[rJ hS.k ha];show ob (dX us) (fun l=>vh (.f f l) h)=_;rw[hc];rfl
theorem aSj{a:Operand}{id off z:Nat}{b:B}{gg:Bool}{l c:List SV}(hS:St β g e s h zs [] [])(hβ:β≤id)(ht:sz F t=some z)(ha:evs s a=some (sc (.p id off)))(hx:evs s x=some (.c gg l))(hl:l.length=z)(hb:h.h.get id=some b)(hc:dU off l b.c=some c)(hk:jE b=true)(kk:Q E.un (h.put id ⟨b.ty,c⟩)):Xop F (.store t a x) e h Q:=by
 refine .now (fun _=>?_) kk;show nG F e h t a x=_;unfold nG;rw[ht,aZ hS.k ha];show ob (ev e x) (fun u=>cells u fun c=>cb (Nat.beq (len c) z) (ob (wr h id off c) fun h=>some (E.un,h)) none)=_;rw[aZ hS.k hx];show cb (Nat.beq (len l) z) (ob (wr h id off l) fun h=>some (E.un,h)) none=_;rw[aT,hl,Nat.beq_refl];show ob (wr h id off l) (fun h=>some (E.un,h))=_;have e1:wr h id off l=some (h.put id ⟨b.ty,c⟩):=by
  unfold wr;rw[bN.2 (show h.bar≤id by rw[hS.bar];exact hβ),hb];show ob (dU off l b.c) (fun c=>cb (jE b) (some (h.put id ⟨b.ty,c⟩)) none)=_;rw[hc];show cb (jE b) _ none=_;rw[hk];rfl
 rw[e1];rfl
theorem aSk{el a:Nat}{j:TI}{x y:Operand}{k1 k2:IntKind}(hS:St β g e s h zs [] [])(ht:F.ti t=some i)(hd:elem i.d=some el)(hg:F.ti el=some j)(hx:evs s x=some (sc (.i k1 (a:Int))))(hy:evs s y=some (sc (.i k2 (a:Int))))(h1:a*j.by_≤1099511627776)(h2:a<1099511627776)(kk:Q (sc (.sl h.n 0 a (some a))) (nwH h ⟨el,fJ j.ze a⟩)):Xop F (.makeSlice t x y) e h Q:=by
 refine .now (fun _=>?_) kk;show tZ F e h t x y=_;unfold tZ;rw[ht];show ob (elem i.d) _=_;rw[hd];show ob (F.ti el) _=_;rw[hg];show ob (ev e x) _=_;rw[aZ hS.k hx];show ob (ev e y) _=_;rw[aZ hS.k hy];show cb (Nat.ble a a) (cb (Nat.ble (Nat.mul a j.by_) 1099511627776) (cb (Nat.blt a 1099511627776) (h.nw ⟨el,fJ j.ze a⟩ fun q h=>vh (.sl q 0 a (some a)) h) none) none) none=_;rw[bN.2 (Nat.le_refl a),bN.2 (show Nat.mul a j.by_≤1099511627776 from h1),aP.2 h2];exact (show (h.nw ⟨el,fJ j.ze a⟩ fun q h=>vh (.sl q 0 a (some a)) h)=_ from qV)
theorem aSl{el n:Nat}{j:TI}{pr:Array (Nat × Operand)}{c:List SV}(hS:St β g e s h zs [] [])(ht:F.ti t=some i)(hd:elem i.d=some el)(hj:F.ti el=some j)(hn:Nat.blt (Nat.mul n j.sz) 16777216=true)(hc:gU (fun f=>some (Nat.mul f j.sz,j.sz)) s pr.toList (fJ j.ze n)=some c)(kk:Q (sc (.sl h.n 0 n (some n))) (nwH h ⟨el,c⟩)):Xop F (.buildSlice t n pr) e h Q:=by
 refine .now (fun _=>?_) kk;show fD F e h t n pr.toList=_;unfold fD;rw[ht];show ob (elem i.d) _=_;rw[hd];show ob (F.ti el) _=_;rw[hj];show cb (Nat.blt (Nat.mul n j.sz) 16777216) (ob (parts (fun f=>some (Nat.mul f j.sz,j.sz)) e pr.toList (fJ j.ze n)) fun c=>h.nw ⟨el,c⟩ fun a h=>vh (.sl a 0 n (some n)) h) none=_;rw[hn,aAN hS.k hc];exact (show (h.nw ⟨el,c⟩ fun a h=>vh (.sl a 0 n (some n)) h)=_ from qV)
theorem aUL{el m:Nat}{x y:Operand}{kk:IntKind}{z:Nat}(hS:St β g e s h zs [] [])(ht:F.ti t=some i)(hd:i.d=.sl el)(hz:sz F el=some z)(hx:evs s x=some v)(hv:(v=sc .ns∧m=0)∨∃id n cap,v=sc (.sl id 0 n cap)∧(∀q,cap=some q→n≤q)∧m≤n)(hy:evs s y=some (sc (.i kk (m:Int))))(k:∀u,Ct v u m→Q u h):Xop F (.slice t x none (some y) none) e h Q:=by
 have key:∀sv,evs s x=some (sc sv)→jG F e h t x none (some y) none=(match Dk.sl el,sv with
     | .sl el,.ns=>ob (sz F el) fun _=>chk 0 m 0 (vh .ns h)
     | .sl el,.sl id off n c=>ob (sz F el) fun z=>
       Option.rec (motive:=fun _=>Option VH) (cb (Nat.beq 0 0) (chk 0 m n (vh (.sl id off (Nat.sub m 0) none) h)) none)
        (fun c=>cb (Nat.blt 0 c) (chk 0 m c (vh (.sl id (Nat.add off (Nat.mul 0 z)) (Nat.sub m 0) (some (Nat.sub c 0))) h)) (cb (Nat.beq 0 0) (chk 0 m c (vh (.sl id off (Nat.sub m 0) (some c)) h)) none)) c
     |_,_=>none):=fun sv hsv=>by
  have hb:∀(α:Type) (q:Nat) (f:Nat→Option α),bound e (some y) q f=f m:=fun α q f=>by
   show ob (ev e y) _=_;rw[aZ hS.k hy];rfl
  have hb0:∀(α:Type) (q:Nat) (f:Nat→Option α),bound e none q f=f q:=fun α q f=>rfl;unfold jG;simp only[hb,hb0,ht,aZ hS.k hsv]
  show (match i.d,sv with
   | .str,.s l=>chk 0 m (len l) (ob (dG (Nat.sub m 0) (drp 0 l)) fun l=>vh (.s l) h)
   | .sl el,.ns=>ob (sz F el) fun _=>chk 0 m 0 (vh .ns h)
   | .sl el,.sl id off n c=>ob (sz F el) fun z=>
     Option.rec (motive:=fun _=>Option VH) (cb (Nat.beq 0 0) (chk 0 m n (vh (.sl id off (Nat.sub m 0) none) h)) none)
      (fun c=>cb (Nat.blt 0 c) (chk 0 m c (vh (.sl id (Nat.add off (Nat.mul 0 z)) (Nat.sub m 0) (some (Nat.sub c 0))) h)) (cb (Nat.beq 0 0) (chk 0 m c (vh (.sl id off (Nat.sub m 0) (some c)) h)) none)) c
   |_,_=>none)=_
  rw[hd];cases sv<;>rfl
 rcases hv with⟨rfl,rfl⟩|⟨id,n,cap,rfl,h2,hle⟩
 ·refine .now (h':=h) (v:=sc .ns) (fun _=>?_) (k _ (.inl ⟨rfl,rfl⟩));rw[show op1 F _ (.slice t x none (some y) none) e h=jG F e h t x none (some y) none from rfl,key _ hx];show ob (sz F el) _=_;rw[hz];rfl
 ·cases cap with
  |none=>
   refine .now (h':=h) (v:=sc (.sl id 0 m none)) (fun _=>?_) (k _ (.inr ⟨_,_,_,rfl,rfl⟩));rw[show op1 F _ (.slice t x none (some y) none) e h=jG F e h t x none (some y) none from rfl,key _ hx];show ob (sz F el) _=_;rw[hz];show chk 0 m n _=_;unfold chk;rw[bN.2 (Nat.zero_le m),bN.2 hle];rfl
  |some q=>
   have hm2:=h2 q rfl;refine .now (h':=h) (v:=sc (.sl id 0 m (some q))) (fun _=>?_) (k _ (.inr ⟨_,_,_,rfl,rfl⟩));rw[show op1 F _ (.slice t x none (some y) none) e h=jG F e h t x none (some y) none from rfl,key _ hx];show ob (sz F el) _=_;rw[hz];have hc:chk 0 m q (vh (.sl id 0 m (some q)) h)=some (sc (.sl id 0 m (some q)),h):=by
     unfold chk;rw[bN.2 (Nat.zero_le m),bN.2 (show m≤q by omega)];rfl
   show cb (Nat.blt 0 q) (chk 0 m q (vh (.sl id (0+0*z) m (some q)) h)) (chk 0 m q (vh (.sl id 0 m (some q)) h))=_;rw[Nat.zero_mul];cases Nat.blt 0 q<;>exact hc
theorem aEb{id:Nat}{b:B}{l:List SV}(hb:h.h.get id=some b)(hl:dG n (drp 0 b.c)=some l):rd h id 0 n=some l:=by
 unfold rd;rw[hb];exact hl
theorem aSm{el bid:Nat}{j:TI}{nw:List SV}{x y:Operand}(hS:St β g e s h zs [] [])(ht:F.ti t=some i)(hd:elem i.d=some el)(hj:F.ti el=some j)(hze:calm j.ze=true)(hby:j.by_<1099511627776)(hz:Nat.blt 0 j.sz=true)(hx:evs s x=some (sc .ns))(hy:evs s y=some (sc (.sl bid 0 1 (some 1))))(h1:h.h.get bid=some ⟨el,nw⟩)(hl:nw.length=j.sz)(hc:calm nw=true)
  (kk:Q (sc (.sl h.n 0 1 none)) (nwH h ⟨el,nw⟩)):Xop F (.call {callee:=.builtin .append,args:=#[x,y],argTypes:=#[t,t]}) e h Q:=by
 refine sP hS (args:=[_,_]) (by show ob (evs s x) (fun v=>ob (ob (evs s y) fun v=>some [v]) fun r=>some (v::r))=_;rw[hx,hy];rfl) ?_ kk;show ob (F.ti t) _=_;rw[ht];show ob (elem i.d) _=_;rw[hd];show ob (F.ti el) _=_;rw[hj];show cb (Nat.beq t t) (yZ h el j .ns (.sl bid 0 1 (some 1))) _=_;rw[Nat.beq_refl];show ob (rd h bid 0 (Nat.mul 1 j.sz)) (fun nw=>cb (calm j.ze) (cb (calm nw) (cb (Nat.blt (Nat.mul 1 j.by_) 1099511627776) (cb (Nat.blt 0 j.sz) (h.nw ⟨el,app [] nw⟩ fun a h=>vh (.sl a 0 1 none) h) none) none) none) none)=_;rw[aEb h1 (show dG (Nat.mul 1 j.sz) (drp 0 nw)=some nw from yC (by rw[hl];exact (Nat.one_mul _).symm))];show cb (calm j.ze) (cb (calm nw) (cb (Nat.blt (Nat.mul 1 j.by_) 1099511627776) (cb (Nat.blt 0 j.sz) (h.nw ⟨el,app [] nw⟩ fun a h=>vh (.sl a 0 1 none) h) none) none) none) none=_;rw[hze,hc,aP.2 (show Nat.mul 1 j.by_<1099511627776 by rw[show Nat.mul 1 j.by_=j.by_ from Nat.one_mul _];exact hby),hz];exact (show (h.nw ⟨el,nw⟩ fun a h=>vh (.sl a 0 1 none) h)=_ from qV)
theorem aSn{el bid id n:Nat}{j:TI}{old nw:List SV}{x y:Operand}(hS:St β g e s h zs [] [])(hβ:β≤id)(ht:F.ti t=some i)(hd:elem i.d=some el)(hj:F.ti el=some j)(hze:calm j.ze=true)(hby:(n+1)*j.by_<1099511627776)(hn:n+1<1099511627776)(hz:Nat.blt 0 j.sz=true)(hx:evs s x=some (sc (.sl id 0 n none)))(hy:evs s y=some (sc (.sl bid 0 1 (some 1))))(h1:h.h.get bid=some ⟨el,nw⟩)(h2:h.h.get id=some ⟨el,old⟩)(hl:nw.length=j.sz)(hl2:old.length=n*j.sz)(hn0:0<n)(hc:calm nw=true)(hc2:jE ⟨el,old⟩=true)
  (kk:Q (sc (.sl h.n 0 (n+1) none)) (nwH (h.put id ⟨0,[]⟩) ⟨el,old++nw⟩)):Xop F (.call {callee:=.builtin .append,args:=#[x,y],argTypes:=#[t,t]}) e h Q:=by
 refine sP hS (args:=[_,_]) (by show ob (evs s x) (fun v=>ob (ob (evs s y) fun v=>some [v]) fun r=>some (v::r))=_;rw[hx,hy];rfl) ?_ kk;show ob (F.ti t) _=_;rw[ht];show ob (elem i.d) _=_;rw[hd];show ob (F.ti el) _=_;rw[hj];show cb (Nat.beq t t) (yZ h el j (.sl id 0 n none) (.sl bid 0 1 (some 1))) _=_;rw[Nat.beq_refl];show ob (rd h bid 0 (Nat.mul 1 j.sz)) (fun nw=>ob (rd h id 0 (Nat.mul n j.sz)) fun old=>cb (calm j.ze) (cb (calm nw) (cb (Nat.blt (Nat.mul (Nat.add n 1) j.by_) 1099511627776) (cb (Nat.blt 0 1) (cb (Nat.blt (Nat.add n 1) 1099511627776) (cb (Nat.blt 0 j.sz) (cb (Nat.beq 0 0) (h.cut id el (app old nw) fun a h=>vh (.sl a 0 (Nat.add n 1) none) h) none) none) none) none) none) none) none)=_;rw[aEb h1 (show dG (Nat.mul 1 j.sz) (drp 0 nw)=some nw from yC (by rw[hl];exact (Nat.one_mul _).symm)),aEb h2 (show dG (Nat.mul n j.sz) (drp 0 old)=some old from yC hl2)];show cb (calm j.ze) (cb (calm nw) (cb (Nat.blt (Nat.mul (Nat.add n 1) j.by_) 1099511627776) (cb (Nat.blt (Nat.add n 1) 1099511627776) (cb (Nat.blt 0 j.sz) (h.cut id el (app old nw) fun a h=>vh (.sl a 0 (Nat.add n 1) none) h) none) none) none) none) none=_;rw[hze,hc,aP.2 (show Nat.mul (Nat.add n 1) j.by_<1099511627776 from hby),aP.2 (show Nat.add n 1<1099511627776 from hn),hz];show h.cut id el (app old nw) (fun a h=>vh (.sl a 0 (Nat.add n 1) none) h)=_;unfold H.cut;rw[h2];show cb (Nat.beq el el) (cb (Nat.beq (len old) 0) none (cb (jE ⟨el,old⟩) (cb (Nat.ble h.bar id) (iL h.n fun n'=>vh (.sl n' 0 (Nat.add n 1) none) ⟨(h.h.set ⟨0,[]⟩ id).set ⟨el,app old nw⟩ n',Nat.succ n',h.bar,h.l⟩) none) none)) none=_;rw[Nat.beq_refl,aT,uA.2 (show old.length≠0 by rw[hl2];exact Nat.ne_of_gt (Nat.mul_pos hn0 (aP.1 hz))),hc2,bN.2 (show h.bar≤id by rw[hS.bar];exact hβ),aW,iT];rfl
theorem aOd(b:B):Xh h (nwH h b):=⟨Nat.le_succ _,rfl,fun _ q=>aAg (Nat.ne_of_lt q),rfl⟩
theorem aSo{el id m:Nat}{j:TI}{x y:Operand}{L:List (List SV)}(hS:St β g e s h zs [] [])(ht:F.ti t=some i)(hd:elem i.d=some el)(hj:F.ti el=some j)(hze:calm j.ze=true)(hag:j.d.ag=true)(hby:m*j.by_<1099511627776)(hm:m<1099511627776)(hz:Nat.blt 0 j.sz=true)(hx:evs s x=some (sc (.sl id 0 0 (some 0))))(hy:evs s y=some u)(h1:h.h.get id=some ⟨el,([]:List (List SV)).flatten⟩)(hL:gQ F el m L h P u)(hc:∀x∈L,calm x=true)
  (k0:m=0→L=[]→Q (sc (.sl id 0 0 (some 0))) h) (k1:0<m→(L.length=m∧∀x∈L,x.length=j.sz)→Q (sc (.sl h.n 0 m none)) (nwH h ⟨el,L.flatten⟩)):Xop F (.call {callee:=.builtin .append,args:=#[x,y],argTypes:=#[t,t]}) e h Q:=by
 have hev:kR s #[x,y].toList=some [sc (.sl id 0 0 (some 0)),u]:=by show ob (evs s x) (fun v=>ob (ob (evs s y) fun v=>some [v]) fun r=>some (v::r))=_;rw[hx,hy];rfl
 have key:∀sv,u=sc sv→∀{v h'},yZ h el j (.sl id 0 0 (some 0)) sv=some (v,h')→bi F h .append [t,t] [sc (.sl id 0 0 (some 0)),u]=some (v,h'):=fun sv hu v h' ha=>by
  subst hu;show ob (F.ti t) _=_;rw[ht];show ob (elem i.d) _=_;rw[hd];show ob (F.ti el) _=_;rw[hj];show cb (Nat.beq t t) (yZ h el j (.sl id 0 0 (some 0)) sv) _=_;rw[Nat.beq_refl];exact ha
 have ro:rd h id 0 (Nat.mul 0 j.sz)=some []:=by
  rw[show Nat.mul 0 j.sz=0 from Nat.zero_mul _];unfold rd;rw[h1];rfl
 rcases hL with⟨rfl,rfl,rfl⟩|⟨id2,cap,c,i2,rfl,h2,h3,h4,h5,h6,h7,h8,-⟩|⟨_,_,i2,-,-,h7,h8,-⟩
 ·refine sP hS hev (key _ rfl ?_) (k0 rfl rfl);show ob (rd h id 0 (Nat.mul 0 j.sz)) (fun old=>cb (calm j.ze) (cb (Nat.blt (Nat.mul 0 j.by_) 1099511627776) (vh (.sl id 0 0 (some 0)) h) none) none)=_;rw[ro];show cb (calm j.ze) (cb (Nat.blt (Nat.mul 0 j.by_) 1099511627776) (vh (.sl id 0 0 (some 0)) h) none) none=_;rw[hze,show Nat.mul 0 j.by_=0 from Nat.zero_mul _];rfl
 ·rw[hj]at h7;cases h7;have hnw:rd h id2 0 (Nat.mul m j.sz)=some L.flatten:=by
   refine aEb h4 ?_;obtain⟨tl,rfl⟩:=h5;have hl:L.flatten.length=m*j.sz:=(by rw[tJ h8,h3]);show dG (m*j.sz) (L.flatten++tl)=_;rw[kY];exact⟨by rw[List.length_append];omega,by rw[List.take_left' hl]⟩
  have hcn:calm L.flatten=true:=aA0.2 hc;rcases Nat.eq_zero_or_pos m with rfl|hm0
  ·have hL0:L=[]:=List.eq_nil_of_length_eq_zero h3;refine sP hS hev (key _ rfl ?_) (k0 rfl hL0);show ob (rd h id2 0 (Nat.mul 0 j.sz)) (fun nw=>ob (rd h id 0 (Nat.mul 0 j.sz)) fun old=>cb (calm j.ze) (cb (calm nw) (cb (Nat.blt (Nat.mul 0 j.by_) 1099511627776) (vh (.sl id 0 0 (some 0)) h) none) none) none)=_;rw[hnw,ro];show cb (calm j.ze) (cb (calm L.flatten) (cb (Nat.blt (Nat.mul 0 j.by_) 1099511627776) (vh (.sl id 0 0 (some 0)) h) none) none) none=_;rw[hze,hcn,show Nat.mul 0 j.by_=0 from Nat.zero_mul _];rfl
  ·refine sP hS hev (key _ rfl ?_) (k1 hm0 ⟨h3,h8⟩);show ob (rd h id2 0 (Nat.mul m j.sz)) (fun nw=>ob (rd h id 0 (Nat.mul 0 j.sz)) fun old=>cb (calm j.ze) (cb (calm nw) (cb (Nat.blt (Nat.mul (Nat.add 0 m) j.by_) 1099511627776) (cb (Nat.blt 0 m) (cb (Nat.blt (Nat.add 0 m) 1099511627776) (cb (Nat.blt 0 j.sz) (cb (Nat.ble (Nat.add 0 m) 0) (cb (Nat.beq 0 0) (ob (h.h.get id) fun b=>cb (Nat.beq b.ty el) (ob (wr h id (Nat.mul 0 j.sz) nw) fun h=>vh (.sl id 0 (Nat.add 0 m) (some 0)) h) none) none) (h.nw ⟨el,app old nw⟩ fun a h=>vh (.sl a 0 (Nat.add 0 m) none) h)) none) none) (nothing h (.sl id 0 0 (some 0)))) none) none) none)=_;rw[hnw,ro,show Nat.add 0 m=m from Nat.zero_add m];show cb (calm j.ze) (cb (calm L.flatten) (cb (Nat.blt (Nat.mul m j.by_) 1099511627776) (cb (Nat.blt 0 m) (cb (Nat.blt m 1099511627776) (cb (Nat.blt 0 j.sz) (cb (Nat.ble m 0) (cb (Nat.beq 0 0) (ob (h.h.get id) fun b=>cb (Nat.beq b.ty el) (ob (wr h id (Nat.mul 0 j.sz) L.flatten) fun h=>vh (.sl id 0 m (some 0)) h) none) none) (h.nw ⟨el,app [] L.flatten⟩ fun a h=>vh (.sl a 0 m none) h)) none) none) (nothing h (.sl id 0 0 (some 0)))) none) none) none=_;rw[hze,hcn,aP.2 (show Nat.mul m j.by_<1099511627776 from hby),aP.2 hm0,aP.2 hm,hz];have hb:Nat.ble m 0=false:=by cases hq:Nat.ble m 0 with|false=>rfl|true=>have:=bN.1 hq;omega
   show cb (Nat.ble m 0) _ (h.nw ⟨el,app [] L.flatten⟩ fun a h=>vh (.sl a 0 m none) h)=_;rw[hb];exact (show (h.nw ⟨el,L.flatten⟩ fun a h=>vh (.sl a 0 m none) h)=_ from qV)
 ·rw[hj]at h7;cases h7;rw[hag]at h8;cases h8
theorem aF6{c:List SV}(h1:ty≠tyR)(h2:calm c=true):jE ⟨ty,c⟩=true:=by
 show cb (Nat.beq ty tyR) false (calm c)=true;rw[uA.2 h1,h2];rfl
theorem aOe(hS:St β g e s h zs [] [])(hg:Lk g):Lk h:=fun k hk=>by rw[hS.l];exact hg k (Nat.le_trans hS.n hk)
theorem aCU{c:Call}(ht:∀p∈tys,F.ti p.1=some p.2)(hS:Sy F β g vs e h sy ws ids s)(hlk:Lk g)(hb:β≤h.n)(hw:st=true→β≤g.n)(hx:aBu F tys st c sy ws k):Xop F (.call c) e h (Aft F β g vs e sy k):=by
 unfold aBu at hx;split at hx
 ·obtain⟨y,h1,hx⟩:=aG hx;obtain⟨v,h2,h3⟩:=hS.r.ev h1;split at hx
  ·have h3:v=_:=h3;subst h3;obtain⟨l,h4,r,h5,hx⟩:=aG hx;obtain⟨us,h6,h7⟩:=aF4 hS h4;refine aUJ hS.st h2 h6 ((h5 h us (hS.st.bl hb) (aOe hS.st hlk) h7).mono fun u h' hq=>?_);exact aP1 hS h6 hx hq.1 hq.2
  ·obtain⟨l,h4,r,h5,hx⟩:=aG hx;obtain⟨us,h6,h7⟩:=aF4 hS h4;obtain⟨cp,rfl,h8⟩:=h3;refine aTP hS.st h2 h6 ((h5 h _ (hS.st.bl hb) (aOe hS.st hlk) (aHL h7 (aHM (h8.imp fun _ _ q=>q.to (Nat.le_refl _) fun _ _ _=>⟨rfl,trivial⟩)))).mono fun u h' hq=>?_);exact (hS.xh hq.1).keep hx hq.2
  ·exact hx.elim
 ·rename_i xs ts;split at hx
  ·rename_i t x e1 e2;obtain⟨i,h1,hx⟩:=tyL'_ok ht hx;obtain⟨y,h2,hx⟩:=aG hx;obtain⟨v,h3,h4⟩:=hS.r.ev h2;have a1:ts=#[t]:=Array.toList_inj.1 e1;have a2:xs=#[x]:=Array.toList_inj.1 e2;subst a1;subst a2;obtain⟨n,h5,h6⟩:=aP2 hS h1 h3 h4 hx;exact h6 _ (hS.keep h5 rfl)
  ·exact hx.elim
 ·rename_i xs ts;split at hx
  ·rename_i t t2 x x2 e1 e2;obtain⟨rfl,hk⟩:=cbE hx;have hx:=hk;have a1:ts=#[t,t]:=Array.toList_inj.1 e1;have a2:xs=#[x,x2]:=Array.toList_inj.1 e2;subst a1;subst a2;obtain⟨i,h1,hx⟩:=tyL'_ok ht hx;obtain⟨el,h2,hx⟩:=aG hx;obtain⟨j,h3,hx⟩:=tyL'_ok ht hx;obtain⟨y2,h4,hx⟩:=aG hx;obtain⟨v2,h5,h6⟩:=hS.r.ev h4;split at hx
   ·obtain⟨w2,h7,hx⟩:=aG hx;split at hx
    ·rename_i ty2 n2 c;obtain⟨rfl,hk⟩:=cbE hx;have hx:=hk;obtain⟨h9,hx⟩:=cbT hx;obtain⟨h10,hx⟩:=cbT hx;obtain⟨y,h11,hx⟩:=aG hx;obtain⟨v,h12,h13⟩:=hS.r.ev h11;obtain⟨bid,nb,ha2,rfl,hc2,-,hn2⟩:=h6;have q1:=hn2 _ _ _ h7;subst q1;obtain⟨q2,q3,i2,q4,q5⟩:=hS.ok _ (List.mem_of_getElem? h7);have q2:1=nb:=q2;subst q2;rw[h3]at q4;injection q4 with q4;subst q4;obtain⟨q5,q6⟩:=q5 c (List.mem_cons_self ..);obtain⟨-,-,-,-,-,-,q7⟩:=hS.own ha2 h7 rfl;have q7:h.h.get bid=some ⟨ty2,c⟩:=(by rw[q7];show some (B.mk ty2 ([c].flatten))=_;simp);split at hx
     ·have h13:v=_:=h13;subst h13;refine aSm hS.st h1 h2 h3 h9 hx.1 h10 h12 h5 q7 q5 q6 ?_;exact (hS.new (w:=.l ty2 1 [c]) (b:=⟨ty2,c⟩) (by show some (B.mk ty2 ([c].flatten))=_;simp) ⟨rfl,q3,_,h3,fun x hx=>by rcases List.mem_cons.1 hx with rfl|hx;exact⟨q5,q6⟩;cases hx⟩).keep hx.2 ⟨h.n,1,at_new hS.len,rfl,fun _ q=>(by cases q),fun _=>Nat.zero_lt_one,fun ty m L hq=>by rw[aI7]at hq;cases hq;rfl⟩
     ·rename_i j1;obtain⟨w,h14,hx⟩:=aG hx;split at hx
      ·rename_i ty3 n3 L;obtain⟨h15,hx⟩:=cbT hx;have h15:=aM.1 h15;subst h15;obtain⟨hst,hx⟩:=cbT hx;obtain⟨⟨h16,h17⟩,hx⟩:=hx;obtain⟨id,n,ha,rfl,hc,hn0,hn⟩:=h13;have r1:=hn _ _ _ h14;subst r1;obtain⟨r2,-,i3,r3,r4⟩:=hS.ok _ (List.mem_of_getElem? h14);rw[h3]at r3;injection r3 with r3;subst r3;obtain⟨-,-,-,-,r5,-,r6⟩:=hS.own ha h14 rfl;have hlf:L.flatten.length=L.length*j.sz:=tJ fun x hx=>(r4 x hx).1;rw[r2]at hlf;refine aSn hS.st (Nat.le_trans (hw hst) r5) h1 h2 h3 h9 h16 h17 h10 h12 h5 q7 r6 q5 hlf (hn0 rfl) q6 (aF6 q3 (aA0.2 fun x hx=>(r4 x hx).2)) ?_;have hS2:=hS.pub1 (x:=⟨0,[]⟩) ha h14 rfl;have hl:(ws.set (atW ws j1) W.x).length=ids.length:=(by rw[List.length_set,hS.len]);refine (hS2.new (w:=.l ty3 (n+1) (L++[c])) (b:=⟨ty3,L.flatten++c⟩) (by show some (B.mk ty3 ((L++[c]).flatten))=_;simp) ⟨by rw[List.length_append,r2];rfl,q3,_,h3,fun x hx=>?_⟩).keep hx ⟨h.n,n+1,?_,rfl,fun _ q=>(by cases q),fun _=>Nat.succ_pos _,fun ty m L hq=>?_⟩
       ·rcases List.mem_append.1 hx with hx|hx
        ·exact r4 x hx
        ·rcases List.mem_cons.1 hx with rfl|hx
         ·exact⟨q5,q6⟩
         ·cases hx
       ·have:=at_new (id:=h.n) hS2.len;rw[aT,List.length_set,←aT]at this;exact this
       ·have e3:E.len ws=E.len (ws.set (atW ws j1) W.x):=(by rw[aT,aT,List.length_set]);rw[e3,aI7]at hq;cases hq;rfl
      ·exact hx.elim
     ·exact hx.elim
    ·exact hx.elim
   ·rename_i ty2 o2 m2 L2;obtain⟨rfl,hk⟩:=cbE hx;obtain⟨h9,hk⟩:=cbT hk;obtain⟨h10,hk⟩:=cbT hk;obtain⟨h11,hk⟩:=cbT hk;obtain⟨y,h12,hk⟩:=aG hk;obtain⟨v,h13,h14⟩:=hS.r.ev h12;split at hk
    ·rename_i j1;obtain⟨w,h15,hk⟩:=aG hk;split at hk
     ·obtain⟨rfl,hz⟩:=cbE hk;obtain⟨⟨h16,h17,h18⟩,hz⟩:=hz;obtain⟨id,n,ha,rfl,-,-,hn⟩:=h14;have:=hn _ _ _ h15;subst this;obtain⟨-,r1,-⟩:=hS.ok _ (List.mem_of_getElem? h15);obtain⟨-,-,-,-,hg,hlt,hget⟩:=hS.own ha h15 rfl;obtain⟨hS2,hf⟩:=hS.pub0 ha h15 rfl;exact aSo hS.st h1 h2 h3 h9 h11 h16 h17 h10 h13 h5 hget h6.1 h18 (fun h0 h0'=>hS2.keep hz ⟨.inr (.inl ⟨id,some 0,[],j,by rw[h0],fun q hq=>(by cases hq;omega),by rw[h0',h0];rfl,hget,by rw[h0'];exact List.prefix_refl _,hlt,h3,fun x hx=>(by rw[h0']at hx;cases hx),hf,fun _=>hg⟩),fun i hi=>by cases hi⟩) fun hm hL=>(hS2.xh (aOd _)).keep hz ⟨.inr (.inl ⟨h.n,none,L2.flatten,j,rfl,fun q hq=>(by cases hq),hL.1,T.get_same,List.prefix_refl _,Nat.lt_succ_self _,h3,hL.2,fun p hp q=>(by have:=(hS2.st.w.1 p hp).2.1;omega),fun _=>hS.st.n⟩),fun i hi=>by cases hi⟩
     ·exact hk.elim
    ·exact hk.elim
   ·exact hx.elim
  ·exact hx.elim
 ·rename_i xs ts;split at hx
  ·rename_i x x2 e2;obtain⟨y,h2,hx⟩:=aG hx;obtain⟨v,h3,h4⟩:=hS.r.ev h2;obtain⟨x1,rfl,hx⟩:=dY hx h4;obtain⟨y2,h5,hx⟩:=aG hx;obtain⟨v2,h6,h7⟩:=hS.r.ev h5;obtain⟨x3,rfl,hx⟩:=dY hx h7;split at hx
   ·have a2:xs=#[x,x2]:=Array.toList_inj.1 e2;subst a2;exact aTo hS.st h3 h6 (hS.keep hx rfl)
   ·exact hx.elim
  ·exact hx.elim
 ·exact hx.elim
end
end J
end Go.Proofs.YtohcfjmkfflkpaaGreatDoor
