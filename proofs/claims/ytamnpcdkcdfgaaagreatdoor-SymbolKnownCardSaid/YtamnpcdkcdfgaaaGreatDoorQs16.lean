/- SymbolKnown holds. No condition. -/
import Derived.Test.YtamnpcdkcdfgaaaGreatDoorQs15
namespace Go.Proofs.YtamnpcdkcdfgaaaGreatDoor
section
open Go.RowKit
open Ma Me
theorem Nq.apart{w:World}{v:Value}{q:Rat}{g:Nat}{s s':Bool}{A1 A2:Option Addr}{n1 c1 n2 c2:Nat}{t' b':Value}(h:Nq w v q)(hb:Nb w g s (.slice A1 n1 c1) (.slice A2 n2 c2)):Nq (put3 w g s' t' b') v q:=Nf.put3 h hb
theorem aCr(w:World)(s1:Bool)(t1 b1:Value):∃W,w.alloc (.cells #[.bool s1,t1,b1] 51)=W∧Q w W∧Nb W w.heap.size s1 t1 b1:=⟨_,rfl,(Q.refl _).alloc _,Nb.new w s1 t1 b1⟩
def w3(w:World)(s1:Bool)(t1 b1:Value)(s2:Bool)(t2 b2:Value):World:=
 ((w.alloc (.cells #[.bool s1,t1,b1] 51)).alloc (.cells #[.bool s2,t2,b2] 51)).alloc (.cells #[.bool false,.slice none 0 0,.slice none 0 0] 51)
def w2(w:World)(s1:Bool)(t1 b1:Value)(s2:Bool)(t2 b2:Value):World:=
 (w.alloc (.cells #[.bool s1,t1,b1] 51)).alloc (.cells #[.bool s2,t2,b2] 51)
theorem Nq.store{a w:World}{g:Nat}{s' s:Bool}{t b:Value}{B1 B2:Option Addr}{m1 d1 m2 d2:Nat}{q:Rat}(hr:Nb w g s' (.slice B1 m1 d1) (.slice B2 m2 d2))(hv:Nq w (.agg #[.bool s,t,b]) q)(hq:Q a w)(hg:a.heap.size≤g):
  (put3 w g s t b).cell? ⟨g,0,none⟩=some (.bool s)∧(put3 w g s t b).cell? ⟨g,1,none⟩=some t∧(put3 w g s t b).cell? ⟨g,2,none⟩=some b∧Nq (put3 w g s t b) (.agg #[.bool s,t,b]) q∧Q a (put3 w g s t b):=by
 obtain⟨r0,r1,r2⟩:=(hr.put (s:=s) (t:=t) (b:=b)).cells;exact⟨r0,r1,r2,Nq.apart hv hr,aCo hq hg⟩
theorem Nq.made{w:World}{v:Value}{s:Bool}{K D:Nat}{q:Rat}(h:Nf w v (decide (0<K) && s) K (if K=0 then 0 else bt D))(hn:q.num=sg s K)(hd:0<K→q.den=D):Nq w v q:=by
 rcases Nat.eq_zero_or_pos K with h0|h0
 ·subst h0;have h1:q.num=0:=by rw[hn];cases s<;>rfl
  have h2:q.den=1:=aBm (by rw[h1];rfl);rw[if_pos rfl]at h;exact Nq.of (s:=false) (N:=0) (D:=1) h (fun h=>by simp at h) h1 h2
 ·rw[if_neg (by omega),decide_eq_true h0,Bool.true_and]at h;exact Nq.of h (fun _=>h0) hn (hd h0)
theorem Nq.int{w:World}{v:Value}{s:Bool}{K:Nat}{q:Rat}(h:Nf w v (decide (0<K) && s) K 0)(hn:q.num=sg s K)(hd:q.den=1):Nq w v q:=by
 refine Nq.made (D:=1) (K:=K) (s:=s) ?_ hn (fun _=>hd);have:(if K=0 then 0 else bt 1)=0:=by split<;>rfl
 rw[this];exact h
theorem aFb(s:Bool)(N:Nat):(sg s N).natAbs=N:=by cases s<;>simp[sg]
theorem aM5(s t:Bool)(N M:Nat):sg (s != t) (N*M)=sg s N*sg t M:=by
 cases s<;>cases t<;>simp[sg]<;>grind
theorem aCs(s:Bool)(N k:Nat)(h:k∣N):sg s (N/k)=sg s N/k:=by
 obtain⟨m,rfl⟩:=h;rcases Nat.eq_zero_or_pos k with h0|h0
 ·subst h0;cases s<;>simp[sg]
 ·rw[Nat.mul_div_cancel_left _ h0];cases s
  ·simp only[sg];rw[if_neg (by decide),if_neg (by decide),Int.natCast_mul,Int.mul_ediv_cancel_left _ (by omega)]
  ·simp only[sg];rw[if_pos trivial,if_pos trivial,Int.natCast_mul,←Int.mul_neg,Int.mul_ediv_cancel_left _ (by omega)]
theorem uK(x y:Rat):(x*y).num=sg (decide (x.num<0) != decide (y.num<0)) ((x.num.natAbs/Nat.gcd x.num.natAbs y.den)*(y.num.natAbs/Nat.gcd y.num.natAbs x.den))∧(x*y).den=(x.den/Nat.gcd y.num.natAbs x.den)*(y.den/Nat.gcd x.num.natAbs y.den):=by
 obtain⟨h1,h2⟩:=aJY (x:=x) (y:=y) rfl rfl;rw[h1,h2,aM5,aCs _ _ _ (Nat.gcd_dvd_left _ _),aCs _ _ _ (Nat.gcd_dvd_left _ _),qV,qV];exact⟨rfl,rfl⟩
theorem aAr{x y:Rat}(hx:x.den=1)(hy:y.den=1):(x*y).num=sg (decide (x.num<0) != decide (y.num<0)) (x.num.natAbs*y.num.natAbs)∧(x*y).den=1:=by
 obtain⟨h1,h2⟩:=uK x y;rw[hx,hy]at h1 h2;rw[h1,h2,Nat.gcd_one_right,Nat.gcd_one_right,Nat.div_one,Nat.div_one];exact⟨rfl,rfl⟩
theorem aAs{x y:Rat}(hx:x.den=1)(hy:y.den=1):(x+y).num=x.num+y.num∧(x+y).den=1:=by
 obtain⟨h1,h2,-⟩:=zA (x:=x) (y:=y) rfl rfl rfl rfl rfl;rw[hx,hy]at h1 h2;simp at h1 h2;exact⟨h1,h2⟩
theorem nD{x y:Rat}(K:Nat)(s:Bool)(hK:sg s K=x.num*((y.den/Nat.gcd x.den y.den:Nat):Int)+y.num*((x.den/Nat.gcd x.den y.den:Nat):Int))(h:K=0∨Nat.gcd x.den y.den=1):
  (x+y).num=sg s K∧(0<K→(x+y).den=x.den*(y.den/Nat.gcd x.den y.den)):=by
 obtain⟨h1,h2,-⟩:=zA (x:=x) (y:=y) rfl rfl rfl hK.symm rfl;rcases h with h|h
 ·subst h;refine⟨?_,fun h=>by omega⟩;rw[h1];cases s<;>simp[sg]
 ·rw[h]at h1 h2⊢;rw[Nat.gcd_one_right]at h1 h2;rw[h1,h2];simp
theorem yT{x y:Rat}(K:Nat)(s:Bool)(hK:sg s K=x.num*((y.den/Nat.gcd x.den y.den:Nat):Int)+y.num*((x.den/Nat.gcd x.den y.den:Nat):Int)):
  (x+y).num=sg s (K/Nat.gcd K (Nat.gcd x.den y.den))∧(x+y).den=x.den/Nat.gcd x.den y.den*(y.den/Nat.gcd K (Nat.gcd x.den y.den)):=by
 obtain⟨h1,h2,-⟩:=zA (x:=x) (y:=y) rfl rfl rfl hK.symm rfl;rw[aFb]at h1 h2;rw[h1,h2,aCs _ _ _ (Nat.gcd_dvd_left _ _)];exact⟨rfl,rfl⟩
end
namespace E
open Go Go.RowKit
open Ma Me K
def tW:List (Nat × TI):=[(3,⟨.int .i64,1,8,[.i .i64 0]⟩),(2,⟨.int .i64,1,8,[.i .i64 0]⟩),(4,⟨.bool,1,1,[.b false]⟩),(23,⟨.int .i64,1,8,[.i .i64 0]⟩),(49,⟨.sl 127,1,24,[.m 0]⟩),(51,⟨.st [(0,4),(1,49),(2,49)],3,56,[.b false,.m 0,.m 0]⟩)]
theorem gI{z:Bool}:∀p∈tW,(FN z).ti p.1=some p.2:=fun p hp=>by
 unfold tW at hp;simp only[List.mem_cons,List.not_mem_nil,or_false]at hp;rcases hp with rfl|rfl|rfl|rfl|rfl|rfl<;>kernel_rfl
theorem aDR{q:Rat}{s:Bool}{K D:Nat}(h1:q.num=sg s K)(h2:0<K→q.den=D):aCq s K D=nm q:=by
 have e1:decide (q.num<0)=(decide (0<K) && s):=by
  rw[h1];rcases Nat.eq_zero_or_pos K with h0|h0
  ·subst h0;cases s<;>rfl
  ·rw[decide_eq_true h0];cases s
   ·exact decide_eq_false (by simp[sg])
   ·exact decide_eq_true (by simp only[sg,if_pos];omega)
 have e2:q.num.natAbs=K:=by rw[h1];exact aFb s K
 have e3:bt q.den=if K=0 then 0 else bt D:=by
  split
  ·rename_i h0;have:q.den=1:=aBm (by omega);rw[this];rfl
  ·rw[h2 (by omega)]
 unfold nm bS aCq nfr;rw[e1,e2,e3]
theorem aK3{q:Rat}{s:Bool}{K:Nat}(h1:q.num=sg s K)(h2:q.den=1):nfr (decide (0<K) && s) K 0=nm q:=by
 rw[←aDR h1 (fun _=>h2)];unfold aCq;congr 1;split<;>rfl
theorem aJF{d:Nat}(h:0<d):ub (bt d)=d:=by unfold ub bt;split<;>split<;>omega
theorem aPw{d:Nat}(h:0<d):bt d=0↔d=1:=by unfold bt;split<;>omega
theorem oV{a b a' b':Nat}(h:cB a' b')(ha:a≤a')(hb:b≤b'):cB a b:=by
 have h1:=jW aD ha;have h2:=jW aD hb;unfold cB at*
 omega
theorem aOy{a b:Nat}(h:cB a b):cB b a:=by unfold cB at*;omega
def rT(s:Bool)(a:Nat)(t:Bool)(b:Nat):Bool × Nat:=if s=t then (s,a+b) else if a<b then (t,b-a) else (s,a-b)
theorem aDS{s:Bool}{a:Nat}{t:Bool}{b:Nat}:sg (rT s a t b).1 (rT s a t b).2=sg s a+sg t b:=by
 unfold rT;split
 ·rename_i h;subst h;unfold sg;split<;>omega
 ·rename_i h;split
  ·cases s<;>cases t<;>simp_all [sg]<;>omega
  ·cases s<;>cases t<;>simp_all [sg]<;>omega
theorem aAt(q:Rat):(nN q).num=q.num.natAbs∧(nN q).den=q.den:=by
 unfold nN;by_cases h:q<0
 ·have h1:=(fV q).2 h;rw[if_pos h,Rat.neg_num,Rat.neg_den];exact⟨by omega,rfl⟩
 ·have h1:¬q.num<0:=fun h2=>h ((fV q).1 h2);rw[if_neg h];exact⟨by omega,rfl⟩
section
variable {z:Bool} {a b n d k K D:Nat} {p q:Rat} {s:Bool}
theorem lJ(h1:dg W64 n≤LIM):Fc (FN z) 239 [nn n] (sc (.i .i64 (Ma.bl n:Int))):=
 .pr Tryz.func239 rfl (by kernel_rfl:(FN z).pr 239=some (m1 (fun n=>dg W64 n≤LIM) fun n=>sc (.i .i64 (Ma.bl n:Int)))) (if_pos h1)
theorem aDT(h1:dg W64 n≤LIM):Fc (FN z) 243 [nn n] (nn n):=
 .pr Tryz.func243 rfl (by kernel_rfl:(FN z).pr 243=some (m1 (fun n=>dg W64 n≤LIM) nn)) (if_pos h1)
theorem uL(h1:cB a b):Fc (FN z) 238 [nn a,nn b] (sc (.i .i64 (cmp a b))):=
 .pr Tryz.func238 rfl (by kernel_rfl:(FN z).pr 238=some (m2 cB fun a b=>sc (.i .i64 (cmp a b)))) (if_pos h1)
theorem aGZ(h1:cB a b):Fc (FN z) 235 [nn a,nn b] (nn (a+b)):=
 .pr Tryz.func235 rfl (by kernel_rfl:(FN z).pr 235=some (m2 cB fun a b=>nn (a+b))) (if_pos h1)
theorem aDU(h1:cM a b):Fc (FN z) 234 [nn a,nn b] (nn (a-b)):=
 .pr Tryz.func234 rfl (by kernel_rfl:(FN z).pr 234=some (m2 cM fun a b=>nn (a-b))) (if_pos h1)
theorem gV(h1:cB a b):Fc (FN z) 154 [nn a,nn b] (nn (a*b)):=
 .pr Tryz.func154 rfl (by kernel_rfl:(FN z).pr 154=some (m2 cB fun a b=>nn (a*b))) (if_pos h1)
theorem aAu(h1:cP z a b):Fc (FN z) 222 [nn a,nn b] (nn (Nat.gcd a b)):=
 .pr Tryz.func222 rfl (by kernel_rfl:(FN z).pr 222=some (m2 (cP z) fun a b=>nn (Nat.gcd a b))) (if_pos h1)
theorem oW(h1:cD z a b):Fc (FN z) 236 [nn a,nn b] (nn (a/b)):=
 .pr Tryz.func236 rfl (by kernel_rfl:(FN z).pr 236=some (m2 (cD z) fun a b=>nn (a/b))) (if_pos h1)
theorem aIP(h1:cQ a b):Fc (FN z) 203 [nn a,nn b] (.t [(false,[.m (a/b)]),(false,[.m (a % b)])]):=
 .pr Tryz.func203 rfl (by kernel_rfl:(FN z).pr 203=some (m2 cQ fun a b=>.t [(false,[.m (a/b)]),(false,[.m (a % b)])])) (if_pos h1)
theorem oZ(hz:z=true)(hd:0<d)(h1:cB n d)(h0:0<n):Fc (FN z) 155 [nn n,nn (bt d)] (.t [(false,[.m (n/Nat.gcd n d)]),(false,[.m (d/Nat.gcd n d)])]):=
 .pr Tryz.func155 rfl (by kernel_rfl:(FN z).pr 155=some (m2 (cW z) fun a b=>.t [(false,[.m (a/Nat.gcd a (ub b))]),(false,[.m (ub b/Nat.gcd a (ub b))])])) ((if_pos (c:=cW z n (bt d)) ⟨hz,oV h1 (Nat.le_refl _) (by unfold bt;split<;>omega),h0⟩).trans (by dsimp only;rw[aJF hd]))
theorem gJ(h1:q.num=sg s K)(h2:0<K→q.den=D):Fc (FN z) 136 [sc (.b s),nn K,nn D] (nm q):=
 .pr Tryz.func136 rfl (by kernel_rfl:(FN z).pr 136=some (aE8)) (show some (aCq s K D)=_ from by rw[aDR h1 h2])
theorem kJ(h1:q.num=sg s K)(h2:q.den=1):Fc (FN z) 59 [sc (.b s),nn K] (nm q):=
 .pr Tryz.func59 rfl (by kernel_rfl:(FN z).pr 59=some (aE9)) (show some (nfr (decide (0<K) && s) K 0)=_ from by rw[aK3 h1 h2])
theorem dQ:Fc (FN z) 205 [nm p] (nn p.den):=
 .pr Tryz.func205 rfl (by kernel_rfl:(FN z).pr 205=some (n1 fun _ _ d=>nn (if d=0 then 1 else d))) (show some (nn (ub (bt p.den)))=_ from by rw[aJF p.den_pos])
theorem nK:Fc (FN z) 56 [nm p] (sc (.b (decide (p.den=1)))):=
 .pr Tryz.func56 rfl (by kernel_rfl:(FN z).pr 56=some (n1 fun _ _ d=>sc (.b (decide (d=0))))) (show some (sc (.b (decide (bt p.den=0))))=_ from by rw[decide_eq_decide.2 (aPw p.den_pos)])
theorem aK4:Fc (FN z) 215 [nn n] (sc (.b (decide (n=1)))):=
 .pr Tryz.func215 rfl (by kernel_rfl:(FN z).pr 215=some (m1 (fun _=>True) fun n=>sc (.b (decide (n=1))))) (if_pos trivial)
theorem aM6(h1:n<18446744073709551616):Fc (FN z) 60 [sc (.i .u64 (n:Int))] (nn n):=
 .pr Tryz.func60 rfl (by kernel_rfl:(FN z).pr 60=some (aAT)) (by unfold aAT sc;dsimp only;rw[if_pos ⟨by omega,by omega⟩];rfl)
theorem rU(hk:k≤64)(h1:64*dg W64 n+9≤LIM):Fc (FN z) 294 [nn n,sc (.i .i64 (k:Int))] (nn (n^k)):=
 .pr Tryz.func294 rfl (by kernel_rfl:(FN z).pr 294=some (vU)) (by unfold vU nn sc;dsimp only;rw[if_pos ⟨by omega,by omega,h1⟩];rfl)
theorem yU:Fc (FN z) 165 [nm p] (nm (-p)):=
 .pr Tryz.func165 rfl (by kernel_rfl:(FN z).pr 165=some (n1 fun s n d=>nfr (!s && decide (0<n)) n d)) (show some (nfr (!decide (p.num<0) && decide (0<p.num.natAbs)) p.num.natAbs (bt p.den))=_ from by
  unfold nm bS nfr;rw[Rat.neg_num,Rat.neg_den,Int.natAbs_neg,show decide (-p.num<0)=(!decide (p.num<0) && decide (0<p.num.natAbs)) from by
   by_cases h:p.num<0
   ·rw[decide_eq_true h,decide_eq_false (by omega)];rfl
   ·rw[decide_eq_false h,Bool.not_false,Bool.true_and];exact decide_eq_decide.2 (by omega)])
theorem aG0:Fc (FN z) 261 [nm p] (nm (nN p)):=
 .pr Tryz.func261 rfl (by kernel_rfl:(FN z).pr 261=some (n1 fun _ n d=>nfr false n d)) (show some (nfr false p.num.natAbs (bt p.den))=_ from by
  unfold nm bS nfr;rw[(aAt p).1,(aAt p).2,Int.natAbs_natCast,decide_eq_false (by omega)])
end
end E
section
open Go.RowKit
open Ma Me
theorem dR(w:World):Nq w (.agg #[.bool false,.slice none 0 0,.slice none 0 0]) 0:=⟨_,_,rfl,Nm.zero _ _,Nm.zero _ _⟩
theorem rV{q:Rat}(h:q≠0):0<q.num.natAbs:=by
 have:q.num≠0:=fun h1=>h (Rat.num_eq_zero.1 h1);omega
theorem aFc(q:Rat):dg W64 (bt q.den)≤sz q:=by
 unfold bt;split
 ·rw[aZ];exact Nat.zero_le _
 ·exact aLN q
end
end Go.Proofs.YtamnpcdkcdfgaaaGreatDoor
