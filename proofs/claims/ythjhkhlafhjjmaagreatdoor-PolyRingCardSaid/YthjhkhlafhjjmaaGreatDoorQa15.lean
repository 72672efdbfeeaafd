/- The laws of a ring, of values and of derivatives hold for poly's functions. No condition. -/
import Derived.Test.YthjhkhlafhjjmaaGreatDoorQa14
namespace Go.Proofs.YthjhkhlafhjjmaaGreatDoor
open Go.RowKit
open Ma Me
theorem Nq.apart{w:World}{v:Value}{q:Rat}{g:Nat}{s s':Bool}{A1 A2:Option Addr}{n1 c1 n2 c2:Nat}{t' b':Value}(h:Nq w v q)(hb:Nb w g s (.slice A1 n1 c1) (.slice A2 n2 c2)):Nq (put3 w g s' t' b') v q:=Nf.put3 h hb
theorem aKn(w:World)(s1:Bool)(t1 b1:Value):∃W,w.alloc (.cells #[.bool s1,t1,b1] 36)=W∧Q w W∧Nb W w.heap.size s1 t1 b1:=⟨_,rfl,(Q.refl _).alloc _,Nb.new w s1 t1 b1⟩
def w3(w:World)(s1:Bool)(t1 b1:Value)(s2:Bool)(t2 b2:Value):World:=
 ((w.alloc (.cells #[.bool s1,t1,b1] 36)).alloc (.cells #[.bool s2,t2,b2] 36)).alloc (.cells #[.bool false,.slice none 0 0,.slice none 0 0] 36)
def w2(w:World)(s1:Bool)(t1 b1:Value)(s2:Bool)(t2 b2:Value):World:=
 (w.alloc (.cells #[.bool s1,t1,b1] 36)).alloc (.cells #[.bool s2,t2,b2] 36)
theorem Nq.store{a w:World}{g:Nat}{s' s:Bool}{t b:Value}{B1 B2:Option Addr}{m1 d1 m2 d2:Nat}{q:Rat}(hr:Nb w g s' (.slice B1 m1 d1) (.slice B2 m2 d2))(hv:Nq w (.agg #[.bool s,t,b]) q)(hq:Q a w)(hg:a.heap.size≤g):
  (put3 w g s t b).cell? ⟨g,0,none⟩=some (.bool s)∧(put3 w g s t b).cell? ⟨g,1,none⟩=some t∧(put3 w g s t b).cell? ⟨g,2,none⟩=some b∧Nq (put3 w g s t b) (.agg #[.bool s,t,b]) q∧Q a (put3 w g s t b):=by
 obtain⟨r0,r1,r2⟩:=(hr.put (s:=s) (t:=t) (b:=b)).cells;exact⟨r0,r1,r2,Nq.apart hv hr,aFF hq hg⟩
theorem Nq.made{w:World}{v:Value}{s:Bool}{K D:Nat}{q:Rat}(h:Nf w v (decide (0<K) && s) K (if K=0 then 0 else bt D))(hn:q.num=sg s K)(hd:0<K→q.den=D):Nq w v q:=by
 rcases Nat.eq_zero_or_pos K with h0|h0
 ·subst h0;have h1:q.num=0:=by rw[hn];cases s<;>rfl
  have h2:q.den=1:=aBr (by rw[h1];rfl);rw[if_pos rfl]at h;exact Nq.of (s:=false) (N:=0) (D:=1) h (fun h=>by simp at h) h1 h2
 ·rw[if_neg (by omega),decide_eq_true h0,Bool.true_and]at h;exact Nq.of h (fun _=>h0) hn (hd h0)
theorem Nq.int{w:World}{v:Value}{s:Bool}{K:Nat}{q:Rat}(h:Nf w v (decide (0<K) && s) K 0)(hn:q.num=sg s K)(hd:q.den=1):Nq w v q:=by
 refine Nq.made (D:=1) (K:=K) (s:=s) ?_ hn (fun _=>hd);have:(if K=0 then 0 else bt 1)=0:=by split<;>rfl
 rw[this];exact h
theorem aIC(s:Bool)(N:Nat):(sg s N).natAbs=N:=by cases s<;>simp[sg]
theorem aQz(s t:Bool)(N M:Nat):sg (s != t) (N*M)=sg s N*sg t M:=by
 cases s<;>cases t<;>simp[sg]<;>grind
theorem aFI(s:Bool)(N k:Nat)(h:k∣N):sg s (N/k)=sg s N/k:=by
 obtain⟨m,rfl⟩:=h;rcases Nat.eq_zero_or_pos k with h0|h0
 ·subst h0;cases s<;>simp[sg]
 ·rw[Nat.mul_div_cancel_left _ h0];cases s
  ·simp only[sg];rw[if_neg (by decide),if_neg (by decide),Int.natCast_mul,Int.mul_ediv_cancel_left _ (by omega)]
  ·simp only[sg];rw[if_pos trivial,if_pos trivial,Int.natCast_mul,←Int.mul_neg,Int.mul_ediv_cancel_left _ (by omega)]
theorem aAf(x y:Rat):(x*y).num=sg (decide (x.num<0) != decide (y.num<0)) ((x.num.natAbs/Nat.gcd x.num.natAbs y.den)*(y.num.natAbs/Nat.gcd y.num.natAbs x.den))∧(x*y).den=(x.den/Nat.gcd y.num.natAbs x.den)*(y.den/Nat.gcd x.num.natAbs y.den):=by
 obtain⟨h1,h2⟩:=aGH (x:=x) (y:=y) rfl rfl;rw[h1,h2,aQz,aFI _ _ _ (Nat.gcd_dvd_left _ _),aFI _ _ _ (Nat.gcd_dvd_left _ _),uG,uG];exact⟨rfl,rfl⟩
theorem aDU{x y:Rat}(hx:x.den=1)(hy:y.den=1):(x*y).num=sg (decide (x.num<0) != decide (y.num<0)) (x.num.natAbs*y.num.natAbs)∧(x*y).den=1:=by
 obtain⟨h1,h2⟩:=aAf x y;rw[hx,hy]at h1 h2;rw[h1,h2,Nat.gcd_one_right,Nat.gcd_one_right,Nat.div_one,Nat.div_one];exact⟨rfl,rfl⟩
theorem aDV{x y:Rat}(hx:x.den=1)(hy:y.den=1):(x+y).num=x.num+y.num∧(x+y).den=1:=by
 obtain⟨h1,h2,-⟩:=wG (x:=x) (y:=y) rfl rfl rfl rfl rfl;rw[hx,hy]at h1 h2;simp at h1 h2;exact⟨h1,h2⟩
theorem sJ{x y:Rat}(K:Nat)(s:Bool)(hK:sg s K=x.num*((y.den/Nat.gcd x.den y.den:Nat):Int)+y.num*((x.den/Nat.gcd x.den y.den:Nat):Int))(h:K=0∨Nat.gcd x.den y.den=1):
  (x+y).num=sg s K∧(0<K→(x+y).den=x.den*(y.den/Nat.gcd x.den y.den)):=by
 obtain⟨h1,h2,-⟩:=wG (x:=x) (y:=y) rfl rfl rfl hK.symm rfl;rcases h with h|h
 ·subst h;refine⟨?_,fun h=>by omega⟩;rw[h1];cases s<;>simp[sg]
 ·rw[h]at h1 h2⊢;rw[Nat.gcd_one_right]at h1 h2;rw[h1,h2];simp
theorem aCB{x y:Rat}(K:Nat)(s:Bool)(hK:sg s K=x.num*((y.den/Nat.gcd x.den y.den:Nat):Int)+y.num*((x.den/Nat.gcd x.den y.den:Nat):Int)):
  (x+y).num=sg s (K/Nat.gcd K (Nat.gcd x.den y.den))∧(x+y).den=x.den/Nat.gcd x.den y.den*(y.den/Nat.gcd K (Nat.gcd x.den y.den)):=by
 obtain⟨h1,h2,-⟩:=wG (x:=x) (y:=y) rfl rfl rfl hK.symm rfl;rw[aIC]at h1 h2;rw[h1,h2,aFI _ _ _ (Nat.gcd_dvd_left _ _)];exact⟨rfl,rfl⟩
end Go.Proofs.YthjhkhlafhjjmaaGreatDoor
namespace Go.Proofs.YthjhkhlafhjjmaaGreatDoor.E
open Go Go.RowKit
open Ma Me K
def tW:List (Nat × TI):=[(3,⟨.int .i64,1,8,[.i .i64 0]⟩),(2,⟨.int .i64,1,8,[.i .i64 0]⟩),(4,⟨.bool,1,1,[.b false]⟩),(37,⟨.int .i64,1,8,[.i .i64 0]⟩),(34,⟨.sl 89,1,24,[.m 0]⟩),(36,⟨.st [(0,4),(1,34),(2,34)],3,56,[.b false,.m 0,.m 0]⟩)]
theorem iX{z:Bool}:∀p∈tW,(FN z).ti p.1=some p.2:=fun p hp=>by
 unfold tW at hp;simp only[List.mem_cons,List.not_mem_nil,or_false]at hp;rcases hp with rfl|rfl|rfl|rfl|rfl|rfl<;>kernel_rfl
theorem aHf{q:Rat}{s:Bool}{K D:Nat}(h1:q.num=sg s K)(h2:0<K→q.den=D):aFH s K D=nm q:=by
 have e1:decide (q.num<0)=(decide (0<K) && s):=by
  rw[h1];rcases Nat.eq_zero_or_pos K with h0|h0
  ·subst h0;cases s<;>rfl
  ·rw[decide_eq_true h0];cases s
   ·exact decide_eq_false (by simp[sg])
   ·exact decide_eq_true (by simp only[sg,if_pos];omega)
 have e2:q.num.natAbs=K:=by rw[h1];exact aIC s K
 have e3:bt q.den=if K=0 then 0 else bt D:=by
  split
  ·rename_i h0;have:q.den=1:=aBr (by omega);rw[this];rfl
  ·rw[h2 (by omega)]
 unfold nm aP aFH nfr;rw[e1,e2,e3]
theorem aOw{q:Rat}{s:Bool}{K:Nat}(h1:q.num=sg s K)(h2:q.den=1):nfr (decide (0<K) && s) K 0=nm q:=by
 rw[←aHf h1 (fun _=>h2)];unfold aFH;congr 1;split<;>rfl
theorem aNf{d:Nat}(h:0<d):ub (bt d)=d:=by unfold ub bt;split<;>split<;>omega
theorem aSC{d:Nat}(h:0<d):bt d=0↔d=1:=by unfold bt;split<;>omega
theorem vJ{a b a' b':Nat}(h:cB a' b')(ha:a≤a')(hb:b≤b'):cB a b:=by
 have h1:=fG aD ha;have h2:=fG aD hb;unfold cB at*
 omega
theorem aRR{a b:Nat}(h:cB a b):cB b a:=by unfold cB at*;omega
def yG(s:Bool)(a:Nat)(t:Bool)(b:Nat):Bool × Nat:=if s=t then (s,a+b) else if a<b then (t,b-a) else (s,a-b)
theorem aHg{s:Bool}{a:Nat}{t:Bool}{b:Nat}:sg (yG s a t b).1 (yG s a t b).2=sg s a+sg t b:=by
 unfold yG;split
 ·rename_i h;subst h;unfold sg;split<;>omega
 ·rename_i h;split
  ·cases s<;>cases t<;>simp_all [sg]<;>omega
  ·cases s<;>cases t<;>simp_all [sg]<;>omega
theorem aAg(q:Rat):(tO q).num=q.num.natAbs∧(tO q).den=q.den:=by
 unfold tO;by_cases h:q<0
 ·have h1:=(bU q).2 h;rw[if_pos h,Rat.neg_num,Rat.neg_den];exact⟨by omega,rfl⟩
 ·have h1:¬q.num<0:=fun h2=>h ((bU q).1 h2);rw[if_neg h];exact⟨by omega,rfl⟩
section
variable {z:Bool} {a b n d k K D:Nat} {p q:Rat} {s:Bool}
theorem qU(h1:dg W64 n≤LIM):Fc (FN z) 119 [nn n] (sc (.i .i64 (Ma.bl n:Int))):=
 .pr Tryz.func119 rfl (by kernel_rfl:(FN z).pr 119=some (m1 (fun n=>dg W64 n≤LIM) fun n=>sc (.i .i64 (Ma.bl n:Int)))) (if_pos h1)
theorem aHh(h1:dg W64 n≤LIM):Fc (FN z) 158 [nn n] (nn n):=
 .pr Tryz.func158 rfl (by kernel_rfl:(FN z).pr 158=some (m1 (fun n=>dg W64 n≤LIM) nn)) (if_pos h1)
theorem aAh(h1:cB a b):Fc (FN z) 107 [nn a,nn b] (sc (.i .i64 (cmp a b))):=
 .pr Tryz.func107 rfl (by kernel_rfl:(FN z).pr 107=some (m2 cB fun a b=>sc (.i .i64 (cmp a b)))) (if_pos h1)
theorem aKo(h1:cB a b):Fc (FN z) 106 [nn a,nn b] (nn (a+b)):=
 .pr Tryz.func106 rfl (by kernel_rfl:(FN z).pr 106=some (m2 cB fun a b=>nn (a+b))) (if_pos h1)
theorem aHi(h1:cM a b):Fc (FN z) 108 [nn a,nn b] (nn (a-b)):=
 .pr Tryz.func108 rfl (by kernel_rfl:(FN z).pr 108=some (m2 cM fun a b=>nn (a-b))) (if_pos h1)
theorem kP(h1:cB a b):Fc (FN z) 51 [nn a,nn b] (nn (a*b)):=
 .pr Tryz.func51 rfl (by kernel_rfl:(FN z).pr 51=some (m2 cB fun a b=>nn (a*b))) (if_pos h1)
theorem aDW(h1:cP z a b):Fc (FN z) 48 [nn a,nn b] (nn (Nat.gcd a b)):=
 .pr Tryz.func48 rfl (by kernel_rfl:(FN z).pr 48=some (m2 (cP z) fun a b=>nn (Nat.gcd a b))) (if_pos h1)
theorem vK(h1:cD z a b):Fc (FN z) 50 [nn a,nn b] (nn (a/b)):=
 .pr Tryz.func50 rfl (by kernel_rfl:(FN z).pr 50=some (m2 (cD z) fun a b=>nn (a/b))) (if_pos h1)
theorem aMp(h1:cQ a b):Fc (FN z) 115 [nn a,nn b] (.t [(false,[.m (a/b)]),(false,[.m (a % b)])]):=
 .pr Tryz.func115 rfl (by kernel_rfl:(FN z).pr 115=some (m2 cQ fun a b=>.t [(false,[.m (a/b)]),(false,[.m (a % b)])])) (if_pos h1)
theorem vM(hz:z=true)(hd:0<d)(h1:cB n d)(h0:0<n):Fc (FN z) 57 [nn n,nn (bt d)] (.t [(false,[.m (n/Nat.gcd n d)]),(false,[.m (d/Nat.gcd n d)])]):=
 .pr Tryz.func57 rfl (by kernel_rfl:(FN z).pr 57=some (m2 (cW z) fun a b=>.t [(false,[.m (a/Nat.gcd a (ub b))]),(false,[.m (ub b/Nat.gcd a (ub b))])])) ((if_pos (c:=cW z n (bt d)) ⟨hz,vJ h1 (Nat.le_refl _) (by unfold bt;split<;>omega),h0⟩).trans (by dsimp only;rw[aNf hd]))
theorem kE(h1:q.num=sg s K)(h2:0<K→q.den=D):Fc (FN z) 53 [sc (.b s),nn K,nn D] (nm q):=
 .pr Tryz.func53 rfl (by kernel_rfl:(FN z).pr 53=some (aIz)) (show some (aFH s K D)=_ from by rw[aHf h1 h2])
theorem mJ(h1:q.num=sg s K)(h2:q.den=1):Fc (FN z) 47 [sc (.b s),nn K] (nm q):=
 .pr Tryz.func47 rfl (by kernel_rfl:(FN z).pr 47=some (aIA)) (show some (nfr (decide (0<K) && s) K 0)=_ from by rw[aOw h1 h2])
theorem gV:Fc (FN z) 49 [nm p] (nn p.den):=
 .pr Tryz.func49 rfl (by kernel_rfl:(FN z).pr 49=some (n1 fun _ _ d=>nn (if d=0 then 1 else d))) (show some (nn (ub (bt p.den)))=_ from by rw[aNf p.den_pos])
theorem sU:Fc (FN z) 45 [nm p] (sc (.b (decide (p.den=1)))):=
 .pr Tryz.func45 rfl (by kernel_rfl:(FN z).pr 45=some (n1 fun _ _ d=>sc (.b (decide (d=0))))) (show some (sc (.b (decide (bt p.den=0))))=_ from by rw[decide_eq_decide.2 (aSC p.den_pos)])
theorem aOx:Fc (FN z) 52 [nn n] (sc (.b (decide (n=1)))):=
 .pr Tryz.func52 rfl (by kernel_rfl:(FN z).pr 52=some (m1 (fun _=>True) fun n=>sc (.b (decide (n=1))))) (if_pos trivial)
theorem aKp(h1:n<18446744073709551616):Fc (FN z) 54 [sc (.i .u64 (n:Int))] (nn n):=
 .pr Tryz.func54 rfl (by kernel_rfl:(FN z).pr 54=some (aEn)) (by unfold aEn sc;dsimp only;rw[if_pos ⟨by omega,by omega⟩];rfl)
theorem aMq{n:Int}(h1:-9223372036854775808≤n)(h2:n≤9223372036854775807):Fc (FN z) 55 [sc (.i .i64 n)] (sc (.i .u64 (n.natAbs:Int))):=
 .pr Tryz.func55 rfl (by kernel_rfl:(FN z).pr 55=some (aA0)) (by unfold aA0 sc;dsimp only;rw[if_pos ⟨h1,h2⟩])
theorem yH(hk:k≤64)(h1:64*dg W64 n+9≤LIM):Fc (FN z) 205 [nn n,sc (.i .i64 (k:Int))] (nn (n^k)):=
 .pr Tryz.func205 rfl (by kernel_rfl:(FN z).pr 205=some (aA1)) (by unfold aA1 nn sc;dsimp only;rw[if_pos ⟨by omega,by omega,h1⟩];rfl)
theorem sK:Fc (FN z) 100 [nm p] (nm (-p)):=
 .pr Tryz.func100 rfl (by kernel_rfl:(FN z).pr 100=some (n1 fun s n d=>nfr (!s && decide (0<n)) n d)) (show some (nfr (!decide (p.num<0) && decide (0<p.num.natAbs)) p.num.natAbs (bt p.den))=_ from by
  unfold nm aP nfr;rw[Rat.neg_num,Rat.neg_den,Int.natAbs_neg,show decide (-p.num<0)=(!decide (p.num<0) && decide (0<p.num.natAbs)) from by
   by_cases h:p.num<0
   ·rw[decide_eq_true h,decide_eq_false (by omega)];rfl
   ·rw[decide_eq_false h,Bool.not_false,Bool.true_and];exact decide_eq_decide.2 (by omega)])
theorem aKq:Fc (FN z) 133 [nm p] (nm (tO p)):=
 .pr Tryz.func133 rfl (by kernel_rfl:(FN z).pr 133=some (n1 fun _ n d=>nfr false n d)) (show some (nfr false p.num.natAbs (bt p.den))=_ from by
  unfold nm aP nfr;rw[(aAg p).1,(aAg p).2,Int.natAbs_natCast,decide_eq_false (by omega)])
end
end Go.Proofs.YthjhkhlafhjjmaaGreatDoor.E
namespace Go.Proofs.YthjhkhlafhjjmaaGreatDoor
open Go.RowKit
open Ma Me
theorem gW(w:World):Nq w (.agg #[.bool false,.slice none 0 0,.slice none 0 0]) 0:=⟨_,_,rfl,Nm.zero _ _,Nm.zero _ _⟩
theorem yI{q:Rat}(h:q≠0):0<q.num.natAbs:=by
 have:q.num≠0:=fun h1=>h (Rat.num_eq_zero.1 h1);omega
theorem aNg(q:Rat):dg W64 (bt q.den)≤sz q:=by
 unfold bt;split
 ·rw[bT];exact Nat.zero_le _
 ·exact aJo q
end Go.Proofs.YthjhkhlafhjjmaaGreatDoor
