/- SymbolKnown holds. No condition. -/
import Derived.Test.YtamnpcdkcdfgaaaGreatDoorQs13
set_option maxHeartbeats 1000000
set_option maxRecDepth 100000
namespace Go.Proofs.YtamnpcdkcdfgaaaGreatDoor
section
open Go.RowKit
open Ma Me
theorem ds(N M:Nat)(x y:Value)(w:World)(hx:Nm w x N)(hy:Nm w y M)(h2:2≤dg W64 M)(hnorm:W64^dg W64 M≤2*M)(hB:4*(dg W64 N+dg W64 M)+40≤LIM):Calls Tryz.prog 291 #[x,y] w (qQ N M w):=aMY _ N M x y w (Nat.lt_succ_self _) hx hy h2 hnorm hB
theorem aIE{b h c L t f:Nat}(hb:b=2*h)(hn:h≤t*f):c*b≤2*((L+c*t)*f):=by
 have h1:c*h≤c*(t*f):=Nat.mul_le_mul_left _ hn;have h2:(L+c*t)*f=L*f+c*(t*f):=by rw[Nat.add_mul,Nat.mul_assoc]
 have h3:c*b=2*(c*h):=by rw[hb,Nat.mul_left_comm]
 rw[h2,h3];omega
theorem aIF{ys:List Nat}{k:Nat}(ly:ys.length=k+1)(wy:Wf W64 ys):∃t,ys[k]? =some t∧t<W64∧0<t∧bl t≤64∧64-bl t<64∧
  W64^(k+1)≤2*(vl W64 ys*2^(64-bl t))∧dg W64 (vl W64 ys*2^(64-bl t))=k+1:=by
 have ht:ys[k]'(by omega)<W64:=wy.1 _ (List.getElem_mem _);have h0:ys[k]'(by omega)≠0:=by
  intro h;refine wy.2 ?_;rw[List.getLast?_eq_getElem?,ly,show k+1-1=k by omega,List.getElem?_eq_getElem (by omega),h]
 have hv:vl W64 ys=vl W64 (ys.take k)+W64^k*ys[k]'(by omega):=by
  have:=fH W64 (ds:=ys) (j:=k) (by omega)
  rwa [List.take_of_length_le (by omega)]at this
 have hl:=cK (aR (n:=k) wy.1);rw[List.length_take,Nat.min_eq_left (by omega)]at hl;refine⟨_,List.getElem?_eq_getElem (by omega),ht,by omega,?_⟩;generalize ys[k]'(by omega)=t at*
 rw[hv];generalize vl W64 (ys.take k)=L at*
 have hb:bl t≤64:=(bF _ _).2 ht;have hb0:0<bl t:=by rw[jU (by omega)];omega
 have hn:=yY (y:=t) (by omega) hb;have hmul:(t+1)*2^(64-bl t)≤W64:=by
  have h1:t<2^bl t:=(bF _ _).1 (Nat.le_refl _);have e1:W64=2^bl t*2^(64-bl t):=(by rw[←Nat.pow_add,show bl t+(64-bl t)=64 by omega];rfl);rw[e1];exact Nat.mul_le_mul_right _ h1
 have hf:0<2^(64-bl t):=Nat.pow_pos (by decide);refine⟨hb,by omega,?_,?_⟩
 ·rw[Nat.pow_succ];exact aIE (h:=9223372036854775808) rfl (Nat.le_trans (by decide) hn.1)
 ·have hlo:W64^k≤(L+W64^k*t)*2^(64-bl t):=by
   have h1:W64^k*1≤W64^k*(t*2^(64-bl t)):=Nat.mul_le_mul_left _ (Nat.mul_pos (by omega) hf);rw[Nat.add_mul,Nat.mul_assoc];omega
  have hhi:(L+W64^k*t)*2^(64-bl t)<W64^(k+1):=by
   have h1:(L+W64^k*t)*2^(64-bl t)<(W64^k+W64^k*t)*2^(64-bl t):=(Nat.mul_lt_mul_right hf).2 (by omega);have h2:(W64^k+W64^k*t)*2^(64-bl t)=W64^k*((t+1)*2^(64-bl t)):=by
    rw[←Nat.mul_assoc,Nat.mul_add,Nat.mul_one,Nat.add_comm]
   have h3:=Nat.mul_le_mul_left (W64^k) hmul;rw[Nat.pow_succ];omega
  have a:=(aK aD _ (k+1)).2 hhi;have b:=aK aD ((L+W64^k*t)*2^(64-bl t)) k;omega
def aKZ(M N:Nat)(w:World)(e:Ending)(w':World):Prop:=∃u v,e=.returned (.tuple #[u,v])∧Nm w' u (M/N)∧Nm w' v (M % N)∧Q w w'∧Nw w.heap.size u∧Nw w.heap.size v
theorem rQ(N M:Nat)(x y:Value)(w:World)(hx:Nm w x N)(hy:Nm w y M)(hM0:0<M)(hB:4*(dg W64 N+dg W64 M)+60≤LIM):
  Calls Tryz.prog 203 #[x,y] w (aKZ N M w):=by
 have hB':=hB;rw[aC]at hB';rcases Nat.lt_or_ge N M with hlt|hge
 ·have hcmp:=hZ (jR hlt);have hres:N/M=0∧N % M=N:=⟨Nat.div_eq_of_lt hlt,Nat.mod_eq_of_lt hlt⟩
  have HRES:=hZ hres;clear hres hlt;obtain⟨A,k,c,rfl⟩:=hx.form;obtain⟨B,j,d,rfl⟩:=hy.form;go_enter Tryz.func203,Tryz.ntmps203
  go_wp2_with fail
  refine (bM _ _ N M _ hx hy (by rw[aC];omega) (by rw[aC];omega)).mono ?_;rintro e w1 ⟨rfl,hq1⟩;rw[hcmp.out];go_wp2_with fail
  refine (vS _ N _ (hx.q hq1) (by rw[aC];omega)).mono ?_;rintro e w2 ⟨v,rfl,hv,hq2,hnv⟩;go_wp2_with fail
  go_ret2
  exact⟨_,_,rfl,by rw[HRES.out.1];exact Nm.zero _ _,by rw[HRES.out.2];exact hv,hq1.trans hq2,Nw.nil,hnv.more hq1.size⟩
 ·have hcmp:∃z:Int,cmp N M=z∧0≤z:=by
   rcases Nat.eq_or_lt_of_le hge with h|h
   ·exact⟨0,by rw[h];exact cmp_eq _,by omega⟩
   ·exact⟨1,jS h,by omega⟩
  obtain⟨z,hz,hz0⟩:=hcmp;have hz1:¬z<0:=(by omega);have hcmp:=hZ hz;clear hz hge hz0;have hx0:=hx;have hy0:=hy;obtain⟨A,c,xs,rfl,hc,rx,wx,hvx⟩:=hx;obtain⟨B,d,ys,rfl,hd,ry,wy,hvy⟩:=hy;have hlx:=wx.len aD;have hly:=wy.len aD;rw[hvx]at hlx;rw[hvy]at hly;have hn0:0<ys.length:=by
   rw[hly];rcases Nat.eq_zero_or_pos (dg W64 M) with h|h
   ·have:=bO aD h;omega
   ·exact h
  obtain⟨n,hn⟩:∃n,ys.length=n+1:=⟨ys.length-1,by omega⟩
  obtain⟨t,e1,t1,t2,t3,t4,t5,t6⟩:=aIF hn wy;rw[hvy]at t5 t6;obtain⟨l,hl⟩:∃l,xs.length=l:=⟨_,rfl⟩
  have HV:=hZ (And.intro hvx hvy);have HL:=hZ hl;have HN:=hZ hn;rw[hn]at hy0 hd hly⊢;rw[hl]at hx0 hc hlx⊢;have HLX:=hZ hlx;have HLY:=hZ hly;rw[←hlx,←hly]at hB';clear hl hn hvx hvy hlx hly hn0;rcases Nat.eq_zero_or_pos n with h0|h0
  ·subst h0;obtain⟨b,o,rfl,hcy⟩:=ry.opt e1;rw[Nat.add_zero]at hcy;have hM:M=t:=by
    have:=HV.out.2;obtain⟨a,ha⟩:∃a,ys=[a]:=by
     match ys,HN.out with
     | [a],_=>exact⟨a,rfl⟩
    subst ha;simp at e1;simp[vl]at this;omega
   have hmk:=iH l (l:Int) rfl (by rw[aC];omega);go_enter Tryz.func203,Tryz.ntmps203
   go_wp2_with fail
   refine (bM _ _ N M _ hx0 hy0 (by rw[←HLX.out,aC];omega) (by rw[←HLY.out,aC];omega)).mono ?_;rintro e w1 ⟨rfl,hq1⟩;rw[hcmp.out];have hqa:=hq1.alloc (.cells (zs .u64 l) 127);obtain⟨_,_,hA,hc2⟩:=(ry.q hqa).opt e1;cases hA;rw[Nat.add_zero]at hc2;have hs1:=hq1.size;go_wp2_with fail
   refine (kX (some ⟨w1.heap.size,0,none⟩) A l l l c w1.heap.size 127 0 t xs (List.replicate l 0) _ (Blk.made _ _ _) HL.out (by simp) (fun _=>rfl) (Nat.le_refl _) (Nat.le_refl _) hc (by omega) (Src.old rx hqa hs1) wx.1 t1 t2).mono ?_;rintro e w3 ⟨oo,rfl,lo,ho,hv,hb3,hg3⟩;rw[HV.out.1]at hv;have e3:(List.replicate l 0).take 0++oo++(List.replicate l 0).drop (0+l)=oo:=(by simp);rw[e3]at hb3;have hrt:vl W64 xs % t<W64:=Nat.lt_trans (Nat.mod_lt _ t2) t1;rw[HV.out.1]at hrt⊢;have hq3:=Q.gr hqa hg3 hs1;have LO:=hZ lo;have HVV:=hZ hv;have HRT:=hZ hrt;clear lo hv e3 hrt;obtain⟨rr,hrr⟩:∃rr,N % t=rr:=⟨_,rfl⟩
   have HRR:=hZ hrr;rw[hrr];clear hrr;go_wp2_with fail
   refine (eD _ l l oo _ LO.out (Nat.le_refl _) (by omega) (Rw.of_blk hb3) ho).mono ?_;rintro e w4 ⟨u,rfl,hu,hnu,rfl⟩;rw[HVV.out]at hu;go_wp2_with fail
   refine (fC (rr:Int) rr _ rfl (by rw[←HRR.out];exact HRT.out)).mono ?_;rintro e w5 ⟨v,rfl,hv,hq5,hnv⟩;go_wp2_with fail
   go_ret2
   exact⟨u,v,rfl,by rw[hM];exact hu.q hq5,by rw[hM,HRR.out];exact hv,hq3.trans hq5,hnu _ (Nw.at_ hs1),hnv.more hq3.size⟩
  ·have h1:((n:Int)+1 == 1)=false:=(by rw[beq_eq_false_iff_ne];omega);obtain⟨b,o,rfl,hcy⟩:=ry.opt e1;obtain⟨s,hs⟩:∃s,64-bl t=s:=⟨_,rfl⟩
   rw[hs]at t4 t5 t6;have HS:=hZ hs;clear hs;have T5:=hZ t5;have T6:=hZ t6;have hf:0<2^s:=Nat.pow_pos (by decide);have hfW:2^s≤W64:=Nat.pow_le_pow_right (n:=2) (by decide) (show s≤64 by omega);have hN1:dg W64 (N*2^s)≤l+1:=by
    rw[aK aD,Nat.pow_succ];have h5:=aX aD N;rw[←HLX.out]at h5;exact Nat.lt_of_lt_of_le ((Nat.mul_lt_mul_right hf).2 h5) (Nat.mul_le_mul_left _ hfW)
   have hsd:=aFN (x:=N) (y:=M) hf rfl rfl;have HSD:=hZ hsd;have hrest:dg W64 (N*2^s % (M*2^s))≤dg W64 (N*2^s):=dg_rest' aD;have hs64:s/64=0:=(by omega);clear t5 t6 hfW hsd hf t3;go_enter Tryz.func203,Tryz.ntmps203
   go_wp2_with fail
   refine (bM _ _ N M _ hx0 hy0 (by rw[←HLX.out,aC];omega) (by rw[←HLY.out,aC];omega)).mono ?_;rintro e w1 ⟨rfl,hq1⟩;rw[hcmp.out];obtain⟨_,_,hA,hc2⟩:=(ry.q hq1).opt e1;cases hA;go_wp2_with fail
   refine (jH t _ t1).mono ?_;rintro e w2 ⟨rfl,rfl⟩;rw[HS.out];go_wp2_with fail
   refine (eG _ N s _ _ (hx0.q hq1) rfl (by rw[←HLX.out,aC];omega) (by omega)).mono ?_;rintro e w3 ⟨xv,rfl,hxv,hq3,-⟩;go_wp2_with fail
   refine (eG _ M s _ _ ((hy0.q hq1).q hq3) rfl (by rw[←HLY.out,aC];omega) (by omega)).mono ?_;rintro e w4 ⟨yv,rfl,hyv,hq4,-⟩;go_wp2_with fail
   refine (ds (N*2^s) (M*2^s) _ _ _ (hxv.q hq4) hyv (by rw[T6.out];omega) (by rw[T6.out];exact T5.out) (by rw[T6.out,aC];omega)).mono ?_;rintro e w5 ⟨u,v,rfl,hu,hv,hq5,hnu⟩;go_wp2_with fail
   refine (fM _ _ s _ _ hv rfl (by rw[aC];omega) (by omega)).mono ?_;rintro e w6 ⟨v2,rfl,hv2,hq6,hnv⟩;have hq:=((hq1.trans hq3).trans hq4)
   go_wp2_with fail
   go_ret2
   obtain⟨g1,g2⟩:=HSD.out;exact⟨u,v2,rfl,by rw[g1];exact hu.q hq6,by rw[g2];exact hv2,(hq.trans hq5).trans hq6,hnu.more hq.size,hnv.more (hq.trans hq5).size⟩
theorem pU{M:Nat}(hM:0<M)(h:tz M+1=bl M):M=2^tz M:=by
 have h1:=iJ hM;obtain⟨b0,b1,b2⟩:=sZ hM;have h3:bl M-1=tz M:=by omega
 rw[h3]at b1;rw[←h,Nat.pow_succ]at b2;have hp:0<2^tz M:=Nat.pow_pos (by decide);obtain⟨P,hP⟩:∃P,2^tz M=P:=⟨_,rfl⟩
 rw[hP]at h1 b1 b2 hp⊢;have h4:M/P<2:=by rw[Nat.div_lt_iff_lt_mul hp];omega
 obtain⟨q,hq⟩:∃q,M/P=q:=⟨_,rfl⟩
 rw[hq]at h1 h4;have h5:q=1:=by have:=h1.2;omega
 have h6:=h1.1;rw[h5,Nat.mul_one]at h6;exact h6
theorem uG(N M:Nat)(x y:Value)(w:World)(hT:Tb w)(hx:Nm w x N)(hy:Nm w y M)(hM0:0<M)(hB:4*(dg W64 N+dg W64 M)+60≤LIM):
  Calls Tryz.prog 236 #[x,y] w fun e w'=>∃v,e=.returned v∧Nm w' v (N/M)∧Q w w'∧∀B,B≤w.heap.size→Nw B x→Nw B v:=by
 have hB':=hB;rw[aC]at hB';have hbl:bl M≤64*dg W64 M:=kP 64 M (by decide);have htz:=kN hM0;go_enter Tryz.func236,Tryz.ntmps236
 go_wp2_with fail
 refine (vR _ M _ hy).mono ?_;rintro e w1 ⟨rfl,rfl⟩;by_cases h1:M=1
 ·rw[decide_eq_true h1];obtain⟨A,k,c,rfl⟩:=hx.form;go_wp2_with fail
  go_ret
  exact⟨_,rfl,by rw[h1,Nat.div_one];exact hx,Q.refl _,fun _ _ h=>h⟩
 ·rw[decide_eq_false h1];go_wp2_with fail
  refine (eF _ M _ hT hy (by rw[aC];omega) hM0).mono ?_;rintro e w2 ⟨rfl,rfl⟩;by_cases h2:tz M+1=bl M
  ·rw[decide_eq_true h2];have HP:Hid (M=2^tz M):=hZ (pU hM0 h2);go_wp2_with fail
   refine (bV _ M _ hT hy (by rw[aC];omega) hM0).mono ?_;rintro e w3 ⟨rfl,rfl⟩;go_wp2_with fail
   refine (fM _ N (tz M) _ _ hx rfl (by rw[aC];omega) (by omega)).mono ?_;rintro e w4 ⟨v,rfl,hv,hq,hn⟩;have hv:Nm w4 v (N/M):=(by rw[HP.out];exact hv);go_wp2_with fail
   go_ret
   exact⟨v,rfl,hv,hq,fun B hB _=>hn.more hB⟩
  ·rw[decide_eq_false h2];go_wp2_with fail
   refine (rQ N M _ _ _ hx hy hM0 hB).mono ?_;rintro e w3 ⟨u,v,rfl,hu,hv,hq,hnu,hnv⟩;go_wp2_with fail
   go_ret
   exact⟨u,rfl,hu,hq,fun B hB _=>hnu.more hB⟩
theorem oQ(x q:Nat)(w:World)(h:x<W64)(h0:0<x)(hT:Tb w)(hq:x/2^tz x=q):
  Calls Tryz.prog 378 #[.int .u64 (x:Int)] w fun e w'=>e=.returned (.int .u64 (q:Int))∧w'=w:=by
 have htz:tz x<64:=Nat.lt_of_lt_of_le (kN h0) ((bF _ _).2 h);have f1:(x:Int)/2^tz x=(q:Int):=by rw[←eH,←Int.natCast_ediv,hq]
 have H:=hZ h;clear hq h;go_enter Tryz.func378,Tryz.ntmps378
 go_wp2_with fail
 refine (mM x _ H.out h0 hT).mono ?_;rintro e w1 ⟨rfl,rfl⟩;go_wp2_with fail
 go_ret
 exact⟨rfl,rfl⟩
theorem uH(x y:Nat)(w:World)(hx:x<W64)(hy:y<W64)(ox:x % 2=1)(oy:y % 2=1)(hT:Tb w):
  Calls Tryz.prog 309 #[.int .u64 (x:Int),.int .u64 (y:Int)] w fun e w'=>e=.returned (.int .u64 ((Nat.gcd x y:Nat):Int))∧w'=w:=by
 go_enter Tryz.func309,Tryz.ntmps309
 go_wp2_with fail
 go_loopw [0,1] (fun av bv w1=>∃a b:Nat,av=.int .u64 (a:Int)∧bv=.int .u64 (b:Int)∧Hid (a<W64∧b<W64∧a % 2=1∧b % 2=1∧Nat.gcd a b=Nat.gcd x y)∧w1=w) (fun av bv _=>(intOf av).toNat+(intOf bv).toNat)
 case atStart=>exact⟨x,y,rfl,rfl,hZ ⟨hx,hy,ox,oy,rfl⟩,rfl⟩
 case round=>
  obtain⟨a,b,rfl,rfl,hh,rfl⟩:=hrel;obtain⟨ha,hb,oa,ob,hg⟩:=hh.out;rcases Nat.lt_trichotomy a b with hlt|rfl|hlt
  ·have h1:((a:Int) == (b:Int))=false:=(by rw[beq_eq_false_iff_ne];omega);have h2:(a:Int)<(b:Int):=(by omega);obtain⟨s1,s2,s3⟩:=aA7 ob oa hlt;obtain⟨d,hd⟩:∃d,b-a=d:=⟨_,rfl⟩
   have h3:(b:Int)-(a:Int)=(d:Int):=(by omega);rw[hd]at s1 s2 s3;obtain⟨q,hq⟩:∃q,d/2^tz d=q:=⟨_,rfl⟩
   rw[hq]at s1 s2 s3;have hd0:0<d:=(by omega);have hdW:d<W64:=(by omega);have hw:IntKind.u64.wrap (d:Int)=(d:Int):=aP (by rw[bE]at hdW;exact hdW);have HQ:=hZ hq;have HD:=hZ hdW;have HN:Hid (q<W64∧a<W64∧q % 2=1∧a % 2=1∧Nat.gcd q a=Nat.gcd x y):=hZ ⟨by omega,ha,s2,oa,by rw[s1,Nat.gcd_comm,hg]⟩;clear hq hdW s1 s2 ha hb oa ob hg hx hy;go_wp2_with fail
   refine (oQ d q _ HD.out hd0 hT HQ.out).mono ?_;rintro e w2 ⟨rfl,rfl⟩;go_wp2_with fail
   exact⟨⟨q,a,rfl,rfl,HN,trivial⟩,by simp only[intOf];omega⟩
  ·have h1:((a:Int) == (a:Int))=true:=(by rw[beq_iff_eq]);have hs:a=Nat.gcd x y:=(by rw[←hg,Nat.gcd_self]);clear hh hg ha hb oa ob;go_wp2_with fail
   go_ret
   exact⟨by rw[←hs];rfl,rfl⟩
  ·have h1:((a:Int) == (b:Int))=false:=(by rw[beq_eq_false_iff_ne];omega);have h2:¬(a:Int)<(b:Int):=(by omega);obtain⟨s1,s2,s3⟩:=aA7 oa ob hlt;obtain⟨d,hd⟩:∃d,a-b=d:=⟨_,rfl⟩
   have h3:(a:Int)-(b:Int)=(d:Int):=(by omega);rw[hd]at s1 s2 s3;obtain⟨q,hq⟩:∃q,d/2^tz d=q:=⟨_,rfl⟩
   rw[hq]at s1 s2 s3;have hd0:0<d:=(by omega);have hdW:d<W64:=(by omega);have hw:IntKind.u64.wrap (d:Int)=(d:Int):=aP (by rw[bE]at hdW;exact hdW);have HQ:=hZ hq;have HD:=hZ hdW;have HN:Hid (q<W64∧b<W64∧q % 2=1∧b % 2=1∧Nat.gcd q b=Nat.gcd x y):=hZ ⟨by omega,hb,s2,ob,by rw[s1,hg]⟩;clear hq hdW s1 s2 ha hb oa ob hg hx hy;go_wp2_with fail
   refine (oQ d q _ HD.out hd0 hT HQ.out).mono ?_;rintro e w2 ⟨rfl,rfl⟩;go_wp2_with fail
   exact⟨⟨q,b,rfl,rfl,HN,trivial⟩,by simp only[intOf];omega⟩
def Sb(w:World)(g:Nat)(ua va ub vb:Nat)(odd:Bool):Prop:=w.heap[g]? =some (.cells #[.int .u64 (ua:Int),.int .u64 (va:Int),.int .u64 (ub:Int),.int .u64 (vb:Int),.bool odd] 428 (0,0))
theorem Sb.cells{w:World}{g ua va ub vb:Nat}{odd:Bool}(h:Sb w g ua va ub vb odd):
  w.cell? ⟨g,0,none⟩=some (.int .u64 (ua:Int))∧w.cell? ⟨g,1,none⟩=some (.int .u64 (va:Int))∧w.cell? ⟨g,2,none⟩=some (.int .u64 (ub:Int))∧w.cell? ⟨g,3,none⟩=some (.int .u64 (vb:Int))∧w.cell? ⟨g,4,none⟩=some (.bool odd):=by
 unfold Sb at h;refine⟨?_,?_,?_,?_,?_⟩<;>simp[World.cell?,h]
theorem Sb.frozen{w:World}{g ua va ub vb:Nat}{odd:Bool}(h:Sb w g ua va ub vb odd)(i:Nat):w.frozen? ⟨g,i,none⟩=false:=by
 unfold Sb at h;simp[World.frozen?,h]
theorem Sb.lt{w:World}{g ua va ub vb:Nat}{odd:Bool}(h:Sb w g ua va ub vb odd):g<w.heap.size:=by
 rcases Nat.lt_or_ge g w.heap.size with hlt|hge
 ·exact hlt
 ·unfold Sb at h;rw[Array.getElem?_eq_none hge]at h;cases h
theorem Sb.set0{w:World}{g ua va ub vb:Nat}{odd:Bool}(h:Sb w g ua va ub vb odd)(x:Nat):Sb (w.setCell ⟨g,0,none⟩ (.int .u64 (x:Int))) g x va ub vb odd:=by
 unfold Sb at h⊢;simp[World.setCell,Array.getElem?_modify,h]
theorem Sb.set1{w:World}{g ua va ub vb:Nat}{odd:Bool}(h:Sb w g ua va ub vb odd)(x:Nat):Sb (w.setCell ⟨g,1,none⟩ (.int .u64 (x:Int))) g ua x ub vb odd:=by
 unfold Sb at h⊢;simp[World.setCell,Array.getElem?_modify,h]
theorem Sb.set2{w:World}{g ua va ub vb:Nat}{odd:Bool}(h:Sb w g ua va ub vb odd)(x:Nat):Sb (w.setCell ⟨g,2,none⟩ (.int .u64 (x:Int))) g ua va x vb odd:=by
 unfold Sb at h⊢;simp[World.setCell,Array.getElem?_modify,h]
theorem Sb.set3{w:World}{g ua va ub vb:Nat}{odd:Bool}(h:Sb w g ua va ub vb odd)(x:Nat):Sb (w.setCell ⟨g,3,none⟩ (.int .u64 (x:Int))) g ua va ub x odd:=by
 unfold Sb at h⊢;simp[World.setCell,Array.getElem?_modify,h]
theorem Sb.set4{w:World}{g ua va ub vb:Nat}{odd:Bool}(h:Sb w g ua va ub vb odd)(x:Bool):Sb (w.setCell ⟨g,4,none⟩ (.bool x)) g ua va ub vb x:=by
 unfold Sb at h⊢;simp[World.setCell,Array.getElem?_modify,h]
theorem Sb.far{w:World}{g ua va ub vb:Nat}{odd:Bool}(h:Sb w g ua va ub vb odd){p:Addr}(hp:g≠p.block)(u:Value):Sb (w.setCell p u) g ua va ub vb odd:=(Below.heap_setCell w p u g hp).trans h
theorem Sb.q{w w':World}{g ua va ub vb:Nat}{odd:Bool}(h:Sb w g ua va ub vb odd)(hq:Q w w'):Sb w' g ua va ub vb odd:=(hq.heap h.lt).trans h
def aIG(A B:Nat)(w:World)(e:Ending)(w':World):Prop:=
 ∃(ua va ub vb:Nat) (odd:Bool),e=.returned (.agg #[.int .u64 (ua:Int),.int .u64 (va:Int),.int .u64 (ub:Int),.int .u64 (vb:Int),.bool odd])∧(va=0∨Lp A B ua va ub vb odd)∧Q w w'
theorem aC6(w:World)(m:Nat):Q w (((w.alloc (.cells #[.int .u64 0,.int .u64 0,.int .u64 0,.int .u64 0,.bool false] 428)).drewN m).alloc (.cells #[.int .u64 0,.int .u64 0,.int .u64 1,.int .u64 0,.bool true] 428))∧Sb (((w.alloc (.cells #[.int .u64 0,.int .u64 0,.int .u64 0,.int .u64 0,.bool false] 428)).drewN m).alloc (.cells #[.int .u64 0,.int .u64 0,.int .u64 1,.int .u64 0,.bool true] 428)) (w.heap.size+1) 0 0 1 0 true∧
  Sb (((w.alloc (.cells #[.int .u64 0,.int .u64 0,.int .u64 0,.int .u64 0,.bool false] 428)).drewN m).alloc (.cells #[.int .u64 0,.int .u64 0,.int .u64 1,.int .u64 0,.bool true] 428)) w.heap.size 0 0 0 0 false:=by
 refine⟨(((Q.refl w).alloc _).drewN _).alloc _,?_,?_⟩
 ·have h:=heap_alloc_new ((w.alloc (.cells #[.int .u64 0,.int .u64 0,.int .u64 0,.int .u64 0,.bool false] 428)).drewN m) (.cells #[.int .u64 0,.int .u64 0,.int .u64 1,.int .u64 0,.bool true] 428);have hz:((w.alloc (.cells #[.int .u64 0,.int .u64 0,.int .u64 0,.int .u64 0,.bool false] 428)).drewN m).heap.size=w.heap.size+1:=by
   show (w.alloc _).heap.size=_;rw[World.size_alloc]
  rw[hz]at h;exact h
 ·have h:=heap_alloc_new w (.cells #[.int .u64 0,.int .u64 0,.int .u64 0,.int .u64 0,.bool false] 428);exact (Below.heap_alloc ((w.alloc (.cells #[.int .u64 0,.int .u64 0,.int .u64 0,.int .u64 0,.bool false] 428)).drewN m) _ w.heap.size (by show _<(w.alloc _).heap.size;rw[World.size_alloc];omega)).trans h
theorem aGT(Aa Ab:Option Addr)(n ca cb A B:Nat)(xs ys:List Nat)(w:World)(ra:Rw w Aa xs)(rb:Rw w Ab ys)(la:xs.length=n)(lb:ys.length=n)(h2:2≤n)(hn:n≤1099511627776)(ha:∀d∈xs,d<W64)(hb:∀d∈ys,d<W64)(htop:xs[n-1]?≠some 0)(hA:vl W64 xs=A)(hB:vl W64 ys=B)(hle:B≤A):Calls Tryz.prog 379 #[.slice Aa n ca,.slice Ab n cb] w
   (aIG A B w):=by
 obtain⟨k,rfl⟩:∃k,n=k+2:=⟨n-2,by omega⟩
 rw[show k+2-1=k+1 by omega]at htop;obtain⟨at_,ea1⟩:∃t,xs[k+1]? =some t:=⟨_,List.getElem?_eq_getElem (by omega)⟩
 obtain⟨a2,ea2⟩:∃t,xs[k]? =some t:=⟨_,List.getElem?_eq_getElem (by omega)⟩
 obtain⟨bt,eb1⟩:∃t,ys[k+1]? =some t:=⟨_,List.getElem?_eq_getElem (by omega)⟩
 obtain⟨b2,eb2⟩:∃t,ys[k]? =some t:=⟨_,List.getElem?_eq_getElem (by omega)⟩
 have hat0:0<at_:=by
  rcases Nat.eq_zero_or_pos at_ with h|h
  ·rw[ea1,h]at htop;exact absurd rfl htop
  ·exact h
 have hatW:at_<W64:=by obtain⟨h,rfl⟩:=List.getElem?_eq_some_iff.1 ea1;exact ha _ (List.getElem_mem _)
 have ha2W:a2<W64:=by obtain⟨h,rfl⟩:=List.getElem?_eq_some_iff.1 ea2;exact ha _ (List.getElem_mem _)
 have hbtW:bt<W64:=by obtain⟨h,rfl⟩:=List.getElem?_eq_some_iff.1 eb1;exact hb _ (List.getElem_mem _)
 have hb2W:b2<W64:=by obtain⟨h,rfl⟩:=List.getElem?_eq_some_iff.1 eb2;exact hb _ (List.getElem_mem _)
 have hbl:bl at_≤64:=(bF _ _).2 hatW;have hbl0:0<bl at_:=by rw[jU hat0];omega
 have hnorm:=yY hat0 hbl;have hbt:bt≤at_:=by
  rcases Nat.lt_or_ge at_ bt with h|h
  ·exfalso;have h1:=sK (b:=W64) (xs:=xs) (ys:=ys) (j:=k+1) (x:=at_) (y:=bt) ha (by rw[List.drop_of_length_le (by omega),List.drop_of_length_le (by omega)]) ea1 eb1 h;omega
  ·exact h
 obtain⟨s,hs⟩:∃s,64-bl at_=s:=⟨_,rfl⟩
 rw[hs]at hnorm;have hs64:s<64:=by omega
 have hbts:bt*2^s<18446744073709551616:=Nat.lt_of_le_of_lt (Nat.mul_le_mul_right _ hbt) hnorm.2;obtain⟨x1,x2,x3⟩:=aBg la ha (by omega) ea1 ea2 hnorm.2;obtain⟨y1,y2,y3⟩:=aBg lb hb (by omega) eb1 eb2 hbts;obtain⟨D,hD⟩:∃D,18446744073709551616^k*2^(64-s)=D:=⟨_,rfl⟩
 have hD0:0<D:=by rw[←hD];exact Nat.mul_pos (Nat.pow_pos (by decide)) (Nat.pow_pos (by decide))
 rw[hD]at x1 y1;change vl W64 xs/D=_ at x1;change vl W64 ys/D=_ at y1;rw[hA]at x1;rw[hB]at y1;have eA:=Nat.div_add_mod A D;have eB:=Nat.div_add_mod B D;have lA:=Nat.mod_lt A hD0;have lB:=Nat.mod_lt B hD0;have hX:B/D≤A/D:=Nat.div_le_div_right hle;rw[Nat.mul_comm]at eA eB;have fa1:IntKind.u64.wrap ((at_:Int)*2^s)=((at_*2^s:Nat):Int):=by rw[←eH,←Int.natCast_mul];exact aP hnorm.2
 have fb1:IntKind.u64.wrap ((bt:Int)*2^s)=((bt*2^s:Nat):Int):=by rw[←eH,←Int.natCast_mul];exact aP hbts
 have fa2:(a2:Int)/2^(64-s)=((a2/2^(64-s):Nat):Int):=by rw[←eH,←Int.natCast_ediv]
 have fb2:(b2:Int)/2^(64-s)=((b2/2^(64-s):Nat):Int):=by rw[←eH,←Int.natCast_ediv]
 have fa3:bits BinOp.or IntKind.u64 ((at_*2^s:Nat):Int) ((a2/2^(64-s):Nat):Int)=((at_*2^s+a2/2^(64-s):Nat):Int):=by
  rw[u64_or_nat _ _ hnorm.2 (Nat.lt_of_le_of_lt (Nat.div_le_self _ _) ha2W),x2]
 have fb3:bits BinOp.or IntKind.u64 ((bt*2^s:Nat):Int) ((b2/2^(64-s):Nat):Int)=((bt*2^s+b2/2^(64-s):Nat):Int):=by
  rw[u64_or_nat _ _ hbts (Nat.lt_of_le_of_lt (Nat.div_le_self _ _) hb2W),y2]
 obtain⟨X0,hX0⟩:∃X0,at_*2^s+a2/2^(64-s)=X0:=⟨_,rfl⟩
 obtain⟨X1,hX1⟩:∃X1,bt*2^s+b2/2^(64-s)=X1:=⟨_,rfl⟩
 rw[hX0]at x1 x3 fa3;rw[hX1]at y1 y3 fb3;rw[x1]at eA hX;rw[y1]at eB hX;obtain⟨ua1,hua1⟩:∃p,at_*2^s=p:=⟨_,rfl⟩
 obtain⟨ub1,hub1⟩:∃p,bt*2^s=p:=⟨_,rfl⟩
 obtain⟨ua2,hua2⟩:∃p,a2/2^(64-s)=p:=⟨_,rfl⟩
 obtain⟨ub2,hub2⟩:∃p,b2/2^(64-s)=p:=⟨_,rfl⟩
 rw[hua1]at fa1 fa3;rw[hub1]at fb1 fb3;rw[hua2]at fa2 fa3;rw[hub2]at fb2 fb3;have HE:=hZ (And.intro eA (And.intro lA (And.intro eB (And.intro lB x3))));have HX:=hZ hX;have HAT:=hZ hatW;have HS:=hZ hs;have hq0:Q w (w.alloc (.cells #[.int .u64 0,.int .u64 0,.int .u64 0,.int .u64 0,.bool false] 428)):=(Q.refl _).alloc _;have ra:=ra.q hq0;have rb:=rb.q hq0;obtain⟨ga,oa,rfl,ca1⟩:=ra.opt ea1;obtain⟨_,_,hAd,ca2⟩:=ra.opt ea2;cases hAd;obtain⟨gb,ob,rfl,cb1⟩:=rb.opt eb1;obtain⟨_,_,hBd,cb2⟩:=rb.opt eb2;cases hBd;clear eA lA eB lB x3 y3 hX x1 y1 x2 y2 hua1 hub1 hua2 hub2 hX0 hX1 hD hD0 hbts hnorm hs hbl hbl0 hbt ea1 ea2 eb1 eb2 htop ha hb hA hB hle la lb hatW ha2W hbtW hb2W;have i1:(k:Int)+2-1=((k+1:Nat):Int):=by omega
 have i2:(k:Int)+2-2=((k:Nat):Int):=by omega
 go_enter Tryz.func379,Tryz.ntmps379
 go_wp2_with fail
 refine (jH at_ _ HAT.out).mono ?_;rintro e w1 ⟨rfl,rfl⟩;rw[HS.out];go_wp2_with fail
 go_quiet (fail)
 generalize nq=m1 at*
 go_wp2_with fail
 go_quiet (fail)
 go_wp2_with fail
 have hs1:=aC6 w (m1+nq);generalize ((w.alloc (.cells #[.int .u64 0,.int .u64 0,.int .u64 0,.int .u64 0,.bool false] 428)).drewN (m1+nq)).alloc (.cells #[.int .u64 0,.int .u64 0,.int .u64 1,.int .u64 0,.bool true] 428)=w1 at*
 obtain⟨hq1,hs1,hr1⟩:=hs1;clear ca1 ca2 cb1 cb2 ra rb hq0 fa1 fa2 fa3 fb1 fb2 fb3
 go_loopw [7,8,10,11] (fun xv yv uv vv w2=>∃(x y u v ua va ub vb:Nat) (odd:Bool),xv=.int .u64 (x:Int)∧yv=.int .u64 (y:Int)∧uv=.int .u64 (u:Int)∧vv=.int .u64 (v:Int)∧
     Hid (Lh A B X0 X1 x y u v ua va ub vb odd)∧Sb w2 (w.heap.size+1) ua va ub vb odd∧Sb w2 w.heap.size 0 0 0 0 false∧Q w w2) (fun _ yv _ _ _=>(intOf yv).toNat)
 case atStart=>exact⟨X0,X1,0,1,0,0,1,0,true,rfl,rfl,rfl,rfl,hZ (Lh.init HX.out),hs1,hr1,hq1⟩
 case round=>
  obtain⟨x,y,u,v,ua,va,ub,vb,odd,rfl,rfl,rfl,rfl,hL,hS,hR,hq⟩:=hrel;obtain⟨c0,c1,c2,c3,c4⟩:=hS.cells;have fz:=hS.frozen;obtain⟨d0,d1,d2,d3,d4⟩:=hR.cells;have fr:=hR.frozen;rcases Nat.lt_or_ge y v with h1|h1
  ·have i1:¬(v:Int)≤(y:Int):=(by omega);go_wp2_with fail
   have hF:=((((hR.set0 ua).set1 va).set2 ub).set3 vb).set4 odd;obtain⟨r0,r1,r2,r3,r4⟩:=hF.cells;have hqF:=((((hq.setCell (p:=⟨w.heap.size,0,none⟩) (Nat.le_refl _) (.int .u64 (ua:Int))).setCell (p:=⟨w.heap.size,1,none⟩) (Nat.le_refl _) (.int .u64 (va:Int))).setCell (p:=⟨w.heap.size,2,none⟩) (Nat.le_refl _) (.int .u64 (ub:Int))).setCell (p:=⟨w.heap.size,3,none⟩) (Nat.le_refl _) (.int .u64 (vb:Int))).setCell (p:=⟨w.heap.size,4,none⟩) (Nat.le_refl _) (.bool odd);refine bodyPost_ret (v:=.agg #[.int .u64 (ua:Int),.int .u64 (va:Int),.int .u64 (ub:Int),.int .u64 (vb:Int),.bool odd]) (by simp[results,Tryz.results379,go_sem,r0,r1,r2,r3,r4]) rfl ?_;exact⟨ua,va,ub,vb,odd,rfl,hL.out.pv,hqF⟩
  ·have i1:(v:Int)≤(y:Int):=(by omega);obtain⟨z1,z2,z3,z4,z5⟩:=hL.out.sizes h1;have hyx:=hL.out.ord;have hX0:=HE.out.2.2.2.2;obtain⟨xy,hxy⟩:∃d,x-y=d:=⟨_,rfl⟩
   obtain⟨vs,hvs⟩:∃d,vb+v=d:=⟨_,rfl⟩
   have j1:(x:Int)-(y:Int)=(xy:Int):=(by omega);have j2:(vb:Int)+(v:Int)=(vs:Int):=(by omega);have j3:IntKind.u64.wrap (xy:Int)=(xy:Int):=aP (by omega);have j4:IntKind.u64.wrap (vs:Int)=(vs:Int):=aP (by omega);rcases Nat.lt_or_ge xy vs with h2|h2
   ·have i2:¬(vs:Int)≤(xy:Int):=(by omega);go_wp2_with fail
    have hF:=((((hR.set0 ua).set1 va).set2 ub).set3 vb).set4 odd;obtain⟨r0,r1,r2,r3,r4⟩:=hF.cells;have hqF:=((((hq.setCell (p:=⟨w.heap.size,0,none⟩) (Nat.le_refl _) (.int .u64 (ua:Int))).setCell (p:=⟨w.heap.size,1,none⟩) (Nat.le_refl _) (.int .u64 (va:Int))).setCell (p:=⟨w.heap.size,2,none⟩) (Nat.le_refl _) (.int .u64 (ub:Int))).setCell (p:=⟨w.heap.size,3,none⟩) (Nat.le_refl _) (.int .u64 (vb:Int))).setCell (p:=⟨w.heap.size,4,none⟩) (Nat.le_refl _) (.bool odd);refine bodyPost_ret (v:=.agg #[.int .u64 (ua:Int),.int .u64 (va:Int),.int .u64 (ub:Int),.int .u64 (vb:Int),.bool odd]) (by simp[results,Tryz.results379,go_sem,r0,r1,r2,r3,r4]) rfl ?_;exact⟨ua,va,ub,vb,odd,rfl,hL.out.pv,hqF⟩
   ·have i2:(vs:Int)≤(xy:Int):=(by omega);have hN:=hL.out.next HE.out.1.symm HE.out.2.1 HE.out.2.2.1.symm HE.out.2.2.2.1 hX0 h1 (by omega);have hlt:x % y<y:=Nat.mod_lt _ (by omega);obtain⟨q,hq'⟩:∃q,x/y=q:=⟨_,rfl⟩
    obtain⟨r,hr'⟩:∃r,x % y=r:=⟨_,rfl⟩
    rw[hq']at z3 z4 hN;rw[hr']at hN hlt;have j5:(x:Int)/(y:Int)=(q:Int):=(by rw[←Int.natCast_ediv,hq']);have j6:(x:Int) % (y:Int)=(r:Int):=(by rw[←Int.natCast_emod,hr']);have j7:((y:Int) == 0)=false:=(by rw[beq_eq_false_iff_ne];omega);obtain⟨qu,hqu⟩:∃d,q*u=d:=⟨_,rfl⟩
    obtain⟨qv,hqv⟩:∃d,q*v=d:=⟨_,rfl⟩
    rw[hqu]at z4 hN;rw[hqv]at z3 hN;have j8:(q:Int)*(u:Int)=(qu:Int):=(by rw[←Int.natCast_mul,hqu]);have j9:(q:Int)*(v:Int)=(qv:Int):=(by rw[←Int.natCast_mul,hqv]);have hX1:=HX.out;have k1:IntKind.u64.wrap (qu:Int)=(qu:Int):=aP (by omega);have k2:IntKind.u64.wrap (qv:Int)=(qv:Int):=aP (by omega);obtain⟨u2,hu2⟩:∃d,ub+qu=d:=⟨_,rfl⟩
    obtain⟨v2,hv2⟩:∃d,vb+qv=d:=⟨_,rfl⟩
    rw[hu2]at z4 hN;rw[hv2]at z3 hN;have k3:(ub:Int)+(qu:Int)=(u2:Int):=(by omega);have k4:(vb:Int)+(qv:Int)=(v2:Int):=(by omega);have k5:IntKind.u64.wrap (u2:Int)=(u2:Int):=aP (by omega);have k6:IntKind.u64.wrap (v2:Int)=(v2:Int):=aP (by omega);have k7:(r:Int)<(y:Int):=(by omega);have k0:IntKind.u64.wrap (q:Int)=(q:Int):=aP (by
     have:=Nat.div_le_self x y;omega)
    have HN:=hZ hN;clear hN hq' hr' hqu hqv hu2 hv2 z1 z2 z3 z4 z5 hyx hX0 hX1 hxy hvs d0 d1 d2 d3 d4 fr hL;go_wp2_with fail
    go_quiet (fail)
    rw[j6];have hS3:Sb (wr.drewN nq) (w.heap.size+1) ua va ub vb odd:=hS;have hR3:Sb (wr.drewN nq) w.heap.size 0 0 0 0 false:=hR;have hq3:=hq.drewN nq;clear c0 c1 c2 c3 c4 fz hS hR hq;generalize wr.drewN nq=w3 at*
    obtain⟨c0,c1,c2,c3,c4⟩:=hS3.cells;have fz:=hS3.frozen;go_wp2_with fail
    exact⟨⟨y,r,u2,v2,ub,vb,u,v,!odd,rfl,rfl,rfl,rfl,HN,((((hS3.set0 ub).set2 u).set1 vb).set3 v).set4 (!odd),
     ((((hR3.far (by simp only;omega) _).far (by simp only;omega) _).far (by simp only;omega) _).far (by simp only;omega) _).far (by simp only;omega) _,
     ((((hq3.setCell (by simp only;omega) _).setCell (by simp only;omega) _).setCell (by simp only;omega) _).setCell (by simp only;omega) _).setCell (by simp only;omega) _⟩,by simp only[intOf];omega⟩
theorem aMZ(ua va ub vb:Nat)(odd:Bool)(w:World):
  Calls Tryz.prog 380 #[.agg #[.int .u64 (ua:Int),.int .u64 (va:Int),.int .u64 (ub:Int),.int .u64 (vb:Int),.bool odd]] w fun e w'=>e=.returned (.bool (!((va:Int) == 0)))∧Q w w':=by
 have hq0:Q w (w.alloc (.cells #[.int .u64 (ua:Int),.int .u64 (va:Int),.int .u64 (ub:Int),.int .u64 (vb:Int),.bool odd] 428)):=(Q.refl _).alloc _;have hs:Sb (w.alloc (.cells #[.int .u64 (ua:Int),.int .u64 (va:Int),.int .u64 (ub:Int),.int .u64 (vb:Int),.bool odd] 428)) w.heap.size ua va ub vb odd:=heap_alloc_new w _;obtain⟨c0,c1,c2,c3,c4⟩:=hs.cells;go_enter Tryz.func380,Tryz.ntmps380
 go_wp2_with fail
 go_ret
 exact⟨rfl,hq0⟩
structure Two (w w':World) (g1 g2:Nat):Prop where
 mid:∃w1 w2:World,Q w w1∧w1.grownBy w2 (some g1)∧w2.grownBy w' (some g2)
theorem Two.heap{w w':World}{g1 g2 k:Nat}(h:Two w w' g1 g2)(hk:k<w.heap.size)(h1:k≠g1)(h2:k≠g2):w'.heap[k]? =w.heap[k]? :=by
 obtain⟨w1,w2,a,b,c⟩:=h.mid;have s1:=a.size;have s2:=b.size;rw[Gr.heap c (by omega) h2,Gr.heap b (by omega) h1,a.heap hk]
theorem Two.size{w w':World}{g1 g2:Nat}(h:Two w w' g1 g2):w.heap.size≤w'.heap.size:=by
 obtain⟨w1,w2,a,b,c⟩:=h.mid;exact Nat.le_trans a.size (Nat.le_trans b.size c.size)
theorem Two.q{w0 w w':World}{g1 g2:Nat}(h0:Q w0 w)(h:Two w w' g1 g2)(h1:w0.heap.size≤g1)(h2:w0.heap.size≤g2):Q w0 w':=by
 obtain⟨w1,w2,a,b,c⟩:=h.mid;exact Q.gr (Q.gr (h0.trans a) b h1) c h2
theorem aM0(A B ua va ub vb:Nat)(odd:Bool)(n L g1 g2 ga gb t1 t2:Nat)(xs ys cs1 cs2:List Nat)(w:World)(hp:Lp A B ua va ub vb odd)(hv:1≤va)(hb1:Blk .u64 w g1 t1 cs1)(hb2:Blk .u64 w g2 t2 cs2)(l1:cs1.length=L)(l2:cs2.length=L)(hnL:n≤L)(hn:n≤1099511627776)(ra:Rw w (some ⟨ga,0,none⟩) xs)(rb:Rw w (some ⟨gb,0,none⟩) ys)(lx:xs.length=n)(ly:ys.length=n)(hx:∀d∈xs,d<W64)(hy:∀d∈ys,d<W64)(hA:vl W64 xs=A)(hB:vl W64 ys=B)(d12:g1≠g2)(da1:ga≠g1)(da2:ga≠g2)(db1:gb≠g1)(db2:gb≠g2):Calls Tryz.prog 381 #[.agg #[.int .u64 (ua:Int),.int .u64 (va:Int),.int .u64 (ub:Int),.int .u64 (vb:Int),.bool odd],.slice (some ⟨g1,0,none⟩) n L,.slice (some ⟨g2,0,none⟩) n L,.slice (some ⟨ga,0,none⟩) n L,.slice (some ⟨gb,0,none⟩) n L] w
   fun e w'=>∃(o1 o2:List Nat),e=.returned (.tuple #[])∧o1.length=n∧o2.length=n∧(∀d∈o1,d<W64)∧(∀d∈o2,d<W64)∧
    vl W64 o2<vl W64 o1∧0<vl W64 o2∧Nat.gcd (vl W64 o1) (vl W64 o2)=Nat.gcd A B∧vl W64 o1+vl W64 o2≤A∧
    Blk .u64 w' g1 t1 (o1++cs1.drop n)∧Blk .u64 w' g2 t2 (o2++cs2.drop n)∧Two w w' g1 g2:=by
 obtain⟨a,b,hba,hb0,heq,hgcd,hsum⟩:=hp.back hv;have hAl:A<W64^n:=by rw[←hA,←lx];exact cK hx
 have hq0:Q w (w.alloc (.cells #[.int .u64 (ua:Int),.int .u64 (va:Int),.int .u64 (ub:Int),.int .u64 (vb:Int),.bool odd] 428)):=(Q.refl _).alloc _;have hs:Sb (w.alloc (.cells #[.int .u64 (ua:Int),.int .u64 (va:Int),.int .u64 (ub:Int),.int .u64 (vb:Int),.bool odd] 428)) w.heap.size ua va ub vb odd:=heap_alloc_new w _;have hlt1:=hb1.lt;have hlt2:=hb2.lt;have fin:∀(f1 h1 f2 h2:Nat) (xs1 ys1:List Nat) (o1 o2:List Nat) (w1 w2:World),vl W64 o1=a→vl W64 o2=b→o1.length=n→o2.length=n→(∀d∈o1,d<W64)→(∀d∈o2,d<W64)→
     Blk .u64 w1 g1 t1 (cs1.take 0++o1++cs1.drop (0+n))→(w.alloc (.cells #[.int .u64 (ua:Int),.int .u64 (va:Int),.int .u64 (ub:Int),.int .u64 (vb:Int),.bool odd] 428)).grownBy w1 (some g1)→
     Blk .u64 w2 g2 t2 (cs2.take 0++o2++cs2.drop (0+n))→w1.grownBy w2 (some g2)→
     ∃(o1 o2:List Nat),Ending.returned (.tuple #[])=.returned (.tuple #[])∧o1.length=n∧o2.length=n∧(∀d∈o1,d<W64)∧(∀d∈o2,d<W64)∧
      vl W64 o2<vl W64 o1∧0<vl W64 o2∧Nat.gcd (vl W64 o1) (vl W64 o2)=Nat.gcd A B∧vl W64 o1+vl W64 o2≤A∧
      Blk .u64 w2 g1 t1 (o1++cs1.drop n)∧Blk .u64 w2 g2 t2 (o2++cs2.drop n)∧Two w w2 g1 g2:=by
  intro _ _ _ _ _ _ o1 o2 w1 w2 e1 e2 k1 k2 m1 m2 B1 G1 B2 G2;simp only[List.take_zero,List.nil_append,Nat.zero_add]at B1 B2;refine⟨o1,o2,rfl,k1,k2,m1,m2,by omega,by omega,by rw[e1,e2,hgcd],by omega,B1.gr G2 d12,B2,⟨_,_,hq0,G1,G2⟩⟩
 have hsz:(w.alloc (.cells #[.int .u64 (ua:Int),.int .u64 (va:Int),.int .u64 (ub:Int),.int .u64 (vb:Int),.bool odd] 428)).heap.size=w.heap.size+1:=World.size_alloc ..;obtain⟨c0,c1,c2,c3,c4⟩:=hs.cells;have hra:=ra.q hq0;have hrb:=rb.q hq0;have hbb1:=hb1.q hq0;have hbb2:=hb2.q hq0;have HP:=hZ hp;have LX:=hZ lx;have LY:=hZ ly;have FIN:=hZ fin;clear fin lx ly hp;have neA1:∀b o,(some ⟨ga,0,none⟩:Option Addr)=some ⟨b,o,none⟩→b≠g1:=fun b o h=>by cases h;exact da1
 have neB1:∀b o,(some ⟨gb,0,none⟩:Option Addr)=some ⟨b,o,none⟩→b≠g1:=fun b o h=>by cases h;exact db1
 have neA2:∀b o,(some ⟨ga,0,none⟩:Option Addr)=some ⟨b,o,none⟩→b≠g2:=fun b o h=>by cases h;exact da2
 have neB2:∀b o,(some ⟨gb,0,none⟩:Option Addr)=some ⟨b,o,none⟩→b≠g2:=fun b o h=>by cases h;exact db2
 cases odd
 ·simp only[Bool.false_eq_true,if_false]at heq;have HEQ:=hZ heq;clear heq;go_enter Tryz.func381,Tryz.ntmps381
  go_wp2_with fail
  refine (oO (some ⟨g1,0,none⟩) (some ⟨ga,0,none⟩) (some ⟨gb,0,none⟩) n L n L n L g1 t1 0 ua va xs ys cs1 _ hbb1 LX.out LY.out rfl (by omega) (fun _=>rfl) (by omega) (by omega) (by omega) (by omega)
   (Src.of_rw hra neA1) (Src.of_rw hrb neB1) hx hy HP.out.bua HP.out.bva (by rw[hA,hB];have:=HEQ.out.1;omega) (by rw[hA,hB];have:=HEQ.out.1;omega)).mono ?_
  rintro e w1 ⟨o1,rfl,lo1,ho1,hv1,hB1,hG1⟩;rw[hA,hB]at hv1;have hs1:Sb w1 w.heap.size ua va ub vb false:=(Gr.heap hG1 hs.lt (by omega)).trans hs;obtain⟨d0,d1,d2,d3,d4⟩:=hs1.cells;clear c0 c1 c2 c3 c4;go_wp2_with fail
  refine (oO (some ⟨g2,0,none⟩) (some ⟨gb,0,none⟩) (some ⟨ga,0,none⟩) n L n L n L g2 t2 0 vb ub ys xs cs2 _ (hbb2.gr hG1 d12.symm) LY.out LX.out rfl (by omega) (fun _=>rfl) (by omega) (by omega) (by omega) (by omega)
   (Src.of_rw (hrb.gr hG1 neB1) neB2) (Src.of_rw (hra.gr hG1 neA1) neA2) hy hx HP.out.bvb HP.out.bub (by rw[hA,hB];have:=HEQ.out.2;omega) (by rw[hA,hB];have:=HEQ.out.2;omega)).mono ?_
  rintro e w2 ⟨o2,rfl,lo2,ho2,hv2,hB2,hG2⟩;rw[hA,hB]at hv2;have FF:=hZ (FIN.out 0 0 0 0 [] [] o1 o2 w1 w2 (by rw[hv1];have:=HEQ.out.1;omega) (by rw[hv2];have:=HEQ.out.2;omega) lo1 lo2 ho1 ho2 hB1 hG1 hB2 hG2);go_wp2_with fail
  first
  |go_end0
  |refine bodyPost_ret (results_none rfl _ _ _) rfl ?_
  obtain⟨p1,p2,-,rest⟩:=FF.out;exact⟨p1,p2,rfl,rest⟩
 ·simp only[if_true]at heq;have HEQ:=hZ heq;clear heq;go_enter Tryz.func381,Tryz.ntmps381
  go_wp2_with fail
  refine (oO (some ⟨g1,0,none⟩) (some ⟨gb,0,none⟩) (some ⟨ga,0,none⟩) n L n L n L g1 t1 0 va ua ys xs cs1 _ hbb1 LY.out LX.out rfl (by omega) (fun _=>rfl) (by omega) (by omega) (by omega) (by omega)
   (Src.of_rw hrb neB1) (Src.of_rw hra neA1) hy hx HP.out.bva HP.out.bua (by rw[hA,hB];have:=HEQ.out.1;omega) (by rw[hA,hB];have:=HEQ.out.1;omega)).mono ?_
  rintro e w1 ⟨o1,rfl,lo1,ho1,hv1,hB1,hG1⟩;rw[hA,hB]at hv1;have hs1:Sb w1 w.heap.size ua va ub vb true:=(Gr.heap hG1 hs.lt (by omega)).trans hs;obtain⟨d0,d1,d2,d3,d4⟩:=hs1.cells;clear c0 c1 c2 c3 c4;go_wp2_with fail
  refine (oO (some ⟨g2,0,none⟩) (some ⟨ga,0,none⟩) (some ⟨gb,0,none⟩) n L n L n L g2 t2 0 ub vb xs ys cs2 _ (hbb2.gr hG1 d12.symm) LX.out LY.out rfl (by omega) (fun _=>rfl) (by omega) (by omega) (by omega) (by omega)
   (Src.of_rw (hra.gr hG1 neA1) neA2) (Src.of_rw (hrb.gr hG1 neB1) neB2) hx hy HP.out.bub HP.out.bvb (by rw[hA,hB];have:=HEQ.out.2;omega) (by rw[hA,hB];have:=HEQ.out.2;omega)).mono ?_
  rintro e w2 ⟨o2,rfl,lo2,ho2,hv2,hB2,hG2⟩;rw[hA,hB]at hv2;have FF:=hZ (FIN.out 0 0 0 0 [] [] o1 o2 w1 w2 (by rw[hv1];have:=HEQ.out.1;omega) (by rw[hv2];have:=HEQ.out.2;omega) lo1 lo2 ho1 ho2 hB1 hG1 hB2 hG2);go_wp2_with fail
  first
  |go_end0
  |refine bodyPost_ret (results_none rfl _ _ _) rfl ?_
  obtain⟨p1,p2,-,rest⟩:=FF.out;exact⟨p1,p2,rfl,rest⟩
theorem Me.Blk.zeros{g t:Nat}:∀{n o:Nat} {w:World} {cs:List Nat},Blk .u64 w g t cs→o+n≤cs.length→
  Blk .u64 (w.setCells g o (List.replicate n (.int .u64 0))) g t (cs.take o++List.replicate n 0++cs.drop (o+n))∧w.grownBy (w.setCells g o (List.replicate n (.int .u64 0))) (some g):=by
 intro n
 induction n with
 |zero=>intro o w cs h ho;exact⟨by simp only[List.replicate_zero,World.setCells];rw[List.append_nil,Nat.add_zero,List.take_append_drop];exact h,Gr.refl _ _⟩
 |succ n ih=>
  intro o w cs h ho;have h1:=h.put o 0 (e:=0) rfl;have h2:=ih (o:=o+1) h1 (by rw[List.length_set];omega);rw[List.replicate_succ,World.setCells];refine⟨?_,Gr.trans (Gr.setCell (Gr.refl w g) o _) h2.2⟩;have h3:=h2.1;have e:(cs.set o 0).take (o+1)++List.replicate n 0++(cs.set o 0).drop (o+1+n)=cs.take o++List.replicate (n+1) 0++cs.drop (o+(n+1)):=by
    rw[take_set (by omega),drop_set (by omega),List.replicate_succ,show o+1+n=o+(n+1) by omega];simp
  rw[e]at h3;exact h3
theorem aIH(w:World):(zeroValue 127).run Tryz.prog w=.ok (.int .u64 0) w:=by kernel_rfl
theorem aC7(g n c ty:Nat)(cs:List Nat)(w:World)(h:Blk .u64 w g 127 cs)(hn:n≤cs.length)(hn0:0<n):
  ∃w',(Builtin.clear_ #[48] ty #[.slice (some ⟨g,0,none⟩) n c]).run Tryz.prog w=.ok (.tuple #[]) w'∧Blk .u64 w' g 127 (List.replicate n 0++cs.drop n)∧w.grownBy w' (some g):=by
 have hz:=h.zeros (n:=n) (o:=0) (by omega);simp only[List.take_zero,List.nil_append,Nat.zero_add]at hz;refine⟨_,Lib.run_clear_slice w 48 127 ty (.int .u64 0) Tryz.underlying48 aIH rfl rfl g 0 n c hn0 (fun j hj=>?_) (fun j hj=>?_),hz⟩
 ·rw[Nat.zero_add,h.cell (by omega)];rfl
 ·rw[Nat.zero_add];exact h.frozen j
theorem aE4(w:World)(L:Nat):Blk .u64 ((((w.alloc (.cells (zs .u64 L) 127)).alloc (.cells (zs .u64 L) 127)).alloc (.cells (zs .u64 L) 127)).alloc (.cells (zs .u64 L) 127)).drew w.heap.size 127 (List.replicate L 0)∧Blk .u64 ((((w.alloc (.cells (zs .u64 L) 127)).alloc (.cells (zs .u64 L) 127)).alloc (.cells (zs .u64 L) 127)).alloc (.cells (zs .u64 L) 127)).drew (w.heap.size+1) 127 (List.replicate L 0)∧Blk .u64 ((((w.alloc (.cells (zs .u64 L) 127)).alloc (.cells (zs .u64 L) 127)).alloc (.cells (zs .u64 L) 127)).alloc (.cells (zs .u64 L) 127)).drew (w.heap.size+1+1) 127 (List.replicate L 0)∧Blk .u64 ((((w.alloc (.cells (zs .u64 L) 127)).alloc (.cells (zs .u64 L) 127)).alloc (.cells (zs .u64 L) 127)).alloc (.cells (zs .u64 L) 127)).drew (w.heap.size+1+1+1) 127 (List.replicate L 0)∧
  Q w ((((w.alloc (.cells (zs .u64 L) 127)).alloc (.cells (zs .u64 L) 127)).alloc (.cells (zs .u64 L) 127)).alloc (.cells (zs .u64 L) 127)).drew:=by
 refine⟨?_,?_,?_,?_,(((((Q.refl w).alloc _).alloc _).alloc _).alloc _).drew⟩
 ·exact ((((Blk.made w 127 L).alloc _).alloc _).alloc _).drew
 ·have h:=Blk.made (κ:=.u64) (w.alloc (.cells (zs .u64 L) 127)) 127 L;rw[World.size_alloc]at h;exact ((h.alloc _).alloc _).drew
 ·have h:=Blk.made (κ:=.u64) ((w.alloc (.cells (zs .u64 L) 127)).alloc (.cells (zs .u64 L) 127)) 127 L;rw[World.size_alloc,World.size_alloc]at h;exact (h.alloc _).drew
 ·have h:=Blk.made (κ:=.u64) (((w.alloc (.cells (zs .u64 L) 127)).alloc (.cells (zs .u64 L) 127)).alloc (.cells (zs .u64 L) 127)) 127 L;rw[World.size_alloc,World.size_alloc,World.size_alloc]at h;exact h.drew
theorem aII{ds:List Nat}{P:Nat}(hd:∀d∈ds,d<W64)(hv:vl W64 ds=P)(hl:ds.length=dg W64 P):Nz ds:=by
 intro h;rcases List.eq_nil_or_concat ds with rfl|⟨init,x,rfl⟩
 ·simp at h
 ·simp at h;subst h;have h1:vl W64 init=P:=by
   rw[←hv];simp[kL]
  have h2:=cK (b:=W64) (xs:=init) (fun d hd'=>hd d (by simp[hd']));rw[h1,←aK aD]at h2;simp at hl;omega
structure Ld (w w1:World) (L ga gb g1 g2 n0 P R G:Nat) (ca cb c1 c2:List Nat):Prop where
 ne:w.heap.size≤ga∧w.heap.size≤gb∧w.heap.size≤g1∧w.heap.size≤g2∧ga≠gb∧ga≠g1∧ga≠g2∧gb≠g1∧gb≠g2∧g1≠g2
 la:ca.length=L
 lb:cb.length=L
 l1:c1.length=L
 l2:c2.length=L
 hn:n0≤L
 ba:Blk .u64 w1 ga 127 ca
 bb:Blk .u64 w1 gb 127 cb
 b1:Blk .u64 w1 g1 127 c1
 b2:Blk .u64 w1 g2 127 c2
 ma:∀d∈ca.take n0,d<W64
 mb:∀d∈cb.take n0,d<W64
 va:vl W64 (ca.take n0)=P
 vb:vl W64 (cb.take n0)=R
 le:R≤P
 pos:0<P
 gc:Nat.gcd P R=G
 q:Q w w1
theorem Ld.cut{w w1:World}{L ga gb g1 g2 n0 P R G:Nat}{ca cb c1 c2:List Nat}(h:Ld w w1 L ga gb g1 g2 n0 P R G ca cb c1 c2):
  dg W64 P≤n0∧Ld w w1 L ga gb g1 g2 (dg W64 P) P R G ca cb c1 c2∧Nz (ca.take (dg W64 P)):=by
 have hta:(ca.take n0).length=n0:=by rw[List.length_take,h.la];exact Nat.min_eq_left h.hn
 have htb:(cb.take n0).length=n0:=by rw[List.length_take,h.lb];exact Nat.min_eq_left h.hn
 have hP:P<W64^n0:=by rw[←h.va];have:=cK h.ma;rwa [hta]at this
 have hd:dg W64 P≤n0:=(aK aD _ _).2 hP;have hPl:=aX aD P;have e1:vl W64 (ca.take (dg W64 P))=P:=by
  have:=iW (b:=W64) (n:=dg W64 P) (xs:=ca.take n0) (by rw[hta];exact hd) h.ma;rw[List.take_take,Nat.min_eq_left hd,h.va,Nat.mod_eq_of_lt hPl]at this;exact this
 have e2:vl W64 (cb.take (dg W64 P))=R:=by
  have:=iW (b:=W64) (n:=dg W64 P) (xs:=cb.take n0) (by rw[htb];exact hd) h.mb;rw[List.take_take,Nat.min_eq_left hd,h.vb,Nat.mod_eq_of_lt (Nat.lt_of_le_of_lt h.le hPl)]at this;exact this
 have m1:∀d∈ca.take (dg W64 P),d<W64:=by
  have:=aR (n:=dg W64 P) h.ma
  rwa [List.take_take,Nat.min_eq_left hd]at this
 have m2:∀d∈cb.take (dg W64 P),d<W64:=by
  have:=aR (n:=dg W64 P) h.mb
  rwa [List.take_take,Nat.min_eq_left hd]at this
 refine⟨hd,⟨h.ne,h.la,h.lb,h.l1,h.l2,Nat.le_trans hd h.hn,h.ba,h.bb,h.b1,h.b2,m1,m2,e1,e2,h.le,h.pos,h.gc,h.q⟩,aII m1 e1 (by rw[List.length_take,h.la];exact Nat.min_eq_left (Nat.le_trans hd h.hn))⟩
theorem Ld.q2{w w1 w2:World}{L ga gb g1 g2 n0 P R G:Nat}{ca cb c1 c2:List Nat}(h:Ld w w1 L ga gb g1 g2 n0 P R G ca cb c1 c2)(hq:Q w1 w2):Ld w w2 L ga gb g1 g2 n0 P R G ca cb c1 c2:=
 ⟨h.ne,h.la,h.lb,h.l1,h.l2,h.hn,h.ba.q hq,h.bb.q hq,h.b1.q hq,h.b2.q hq,h.ma,h.mb,h.va,h.vb,h.le,h.pos,h.gc,h.q.trans hq⟩
theorem Me.Nm.one{w:World}{g c R:Nat}(h:Nm w (.slice (some ⟨g,0,none⟩) 1 c) R):w.cell? ⟨g,0,none⟩=some (.int .u64 (R:Int)):=by
 obtain⟨A,c',ws,h1,h2,h3,h4,h5⟩:=h;injection h1 with e1 e2 e3;subst e1
 match ws,e2 with
 | [a],_=>
   simp[vl]at h5;subst h5;obtain⟨b,o,e,h6⟩:=h3.opt (k:=0) (d:=a) rfl;cases e;exact h6
theorem Me.Nm.gr{w w':World}{k g o n c N:Nat}(h:Nm w (.slice (some ⟨g,o,none⟩) n c) N)(hg:w.grownBy w' (some k))(hne:g≠k):Nm w' (.slice (some ⟨g,o,none⟩) n c) N:=by
 obtain⟨A,c',ws,h1,h2,h3,h4,h5⟩:=h;injection h1 with e1 e2 e3;subst e1;exact⟨_,c',ws,by rw[e2,e3],h2,h3.gr hg (fun b o e=>by cases e;exact hne),h4,h5⟩
theorem aGU{n k:Nat}{ca ws:List Nat}(hw:ws.length=k)(hk:k≤n)(hn:n≤ca.length):((List.replicate n 0++ca.drop n).take 0++ws.take k++(List.replicate n 0++ca.drop n).drop (0+k)).take n=ws++List.replicate (n-k) 0∧
  ((List.replicate n 0++ca.drop n).take 0++ws.take k++(List.replicate n 0++ca.drop n).drop (0+k)).length=ca.length:=by
 have e:(List.replicate n 0++ca.drop n).take 0++ws.take k++(List.replicate n 0++ca.drop n).drop (0+k)=(ws++List.replicate (n-k) 0)++ca.drop n:=by
  rw[List.take_zero,List.nil_append,Nat.zero_add,List.take_of_length_le (by omega),List.drop_append_of_le_length (by simp;omega),List.drop_replicate,List.append_assoc]
 rw[e];constructor
 ·rw[List.take_append_of_le_length (by simp;omega),List.take_of_length_le (by simp;omega)]
 ·simp;omega
theorem oU{A:Option Addr}{c N:Nat}(h:0<N):gF A c N=.slice A (dg W64 N) c:=by unfold gF;rw[if_neg (by omega)]
theorem yO{A:Option Addr}{c:Nat}:gF A c 0=.slice none 0 0:=by unfold gF;rw[if_pos rfl]
theorem jG(N M:Nat)(x y:Value)(w:World)(hT:Tb w)(hx:Nm w x N)(hy:Nm w y M)(hle:M≤N)(hN0:0<N)(oN:N % 2=1)(hB:8*(dg W64 N+dg W64 M)+60≤LIM):
  Calls Tryz.prog 310 #[x,y] w (eQ (Nat.gcd N M) w):=by
 obtain⟨A,c,xs,rfl,hc,rx,wx,hvx⟩:=hx;obtain⟨B,d,ys,rfl,hd,ry,wy,hvy⟩:=hy;have hlx:=wx.len aD;have hly:=wy.len aD;rw[hvx]at hlx;rw[hvy]at hly;have hmono:dg W64 M≤dg W64 N:=bK aD hle;obtain⟨L,hL⟩:∃L,xs.length=L:=⟨_,rfl⟩
 obtain⟨l,hl⟩:∃l,ys.length=l:=⟨_,rfl⟩
 rw[hL]at hlx hc⊢;rw[hl]at hly hd⊢;rw[←hlx,←hly]at hB hmono;have hmk:=iH L (L:Int) rfl (by omega);have HLX:=hZ hlx;have HLY:=hZ hly;have HL:=hZ hL;have Hl:=hZ hl;have HV:=hZ (And.intro hvx hvy);clear hlx hly hL hl hvx hvy;rw[aC]at hB;go_enter Tryz.func310,Tryz.ntmps310
 go_wp2_with fail
 go_cut [6,7,8,9] from 16 (fun av bv cv dv w1=>∃ga gb g1 g2:Nat,av=.slice (some ⟨ga,0,none⟩) L L∧bv=.slice (some ⟨gb,0,none⟩) L L∧cv=.slice (some ⟨g1,0,none⟩) L L∧dv=.slice (some ⟨g2,0,none⟩) L L∧
  (w.heap.size≤ga∧w.heap.size≤gb∧w.heap.size≤g1∧w.heap.size≤g2∧ga≠gb∧ga≠g1∧ga≠g2∧gb≠g1∧gb≠g2∧g1≠g2)∧
  Blk .u64 w1 ga 127 (List.replicate L 0)∧Blk .u64 w1 gb 127 (List.replicate L 0)∧Blk .u64 w1 g1 127 (List.replicate L 0)∧Blk .u64 w1 g2 127 (List.replicate L 0)∧Q w w1)
 case first=>
  obtain⟨b0,b1,b2,b3,hq⟩:=aE4 w L;go_region
  all_goals
   go_wp2_with fail
   go_meet
   case rel=>exact⟨_,_,_,_,rfl,rfl,rfl,rfl,by omega,by assumption,by assumption,by assumption,by assumption,hq⟩
 case rest=>
  obtain⟨ga,gb,g1,g2,rfl,rfl,rfl,rfl,hne,ba,bb,b1,b2,hq⟩:=hcut;have hr0:(List.replicate L 0).length=L:=(by simp);have rx1:=rx.q hq;have ry1:=ry.q hq;have HR0:=hZ hr0;clear hr0;go_upto_region 4 with (with_reducible refine eO rfl _ _ _ _ rfl 127 Tryz.underlying48 (by kernel_rfl) _ _ _ _ _ _ rfl rfl ga 0 127 (List.replicate L 0) xs L ba rx1 HL.out (by omega) (fun _=>rfl) (by rw[HR0.out];omega) ?_;intro w2 ba2 hg2)
  have e2:(List.replicate L 0).take 0++xs.take L++(List.replicate L 0).drop (0+L)=xs:=(by rw[List.take_of_length_le (l:=xs) (by rw[HL.out];exact Nat.le_refl _)];simp);rw[e2]at ba2;have bb2:=bb.gr hg2 (by omega);have b12:=b1.gr hg2 (by omega);have b22:=b2.gr hg2 (by omega);have hq2:=Q.gr hq hg2 (by omega);have ry2:=ry.q hq2;clear ba bb b1 b2 rx1 ry1 e2 hg2;go_wp2_with (with_reducible refine eO rfl _ _ _ _ rfl 127 Tryz.underlying48 (by kernel_rfl) _ _ _ _ _ _ rfl rfl gb 0 127 (List.replicate L 0) ys l bb2 ry2 Hl.out (by omega) (fun _=>rfl) (by rw[HR0.out];omega) ?_;intro w3 bb3 hg3)
  have e3:(List.replicate L 0).take 0++ys.take l++(List.replicate L 0).drop (0+l)=ys++List.replicate (L-l) 0:=(by rw[List.take_of_length_le (l:=ys) (by rw[Hl.out];exact Nat.le_refl _)];simp);rw[e3]at bb3;have hLd:Ld w w3 L ga gb g1 g2 L N M (Nat.gcd N M) xs (ys++List.replicate (L-l) 0) (List.replicate L 0) (List.replicate L 0):=by
   refine⟨hne,HL.out,by rw[List.length_append,Hl.out,List.length_replicate];omega,HR0.out,HR0.out,Nat.le_refl _,ba2.gr hg3 (by omega),bb3,b12.gr hg3 (by omega),b22.gr hg3 (by omega),aR wx.1,aR (uR (by decide) wy.1),?_,?_,hle,hN0,rfl,Q.gr hq2 hg3 (by omega)⟩
   ·rw[List.take_of_length_le (by rw[HL.out];exact Nat.le_refl _)];exact HV.out.1
   ·rw[List.take_of_length_le (by rw[List.length_append,Hl.out,List.length_replicate];omega),pY];exact HV.out.2
  have HLD:=hZ hLd;clear hLd e3 bb3 hg3 bb2 b12 b22 ba2 hq2 ry2 hq;go_wp2_with fail
  go_simp
  go_loopg [6,7,8,9] (N+M) (fun gk av bv cv dv w1=>∃(ga gb g1 g2 n0 P R:Nat) (ca cb c1 c2:List Nat),av=.slice (some ⟨ga,0,none⟩) n0 L∧bv=.slice (some ⟨gb,0,none⟩) n0 L∧cv=.slice (some ⟨g1,0,none⟩) n0 L∧dv=.slice (some ⟨g2,0,none⟩) n0 L∧
   gk=P+R∧Hid (Ld w w1 L ga gb g1 g2 n0 P R (Nat.gcd N M) ca cb c1 c2)∧Hid (P≤N))
  case atStart=>exact⟨ga,gb,g1,g2,L,N,M,_,_,_,_,rfl,rfl,rfl,rfl,rfl,HLD,hZ (Nat.le_refl _)⟩
  case round=>
   obtain⟨ga,gb,g1,g2,n0,P,R,ca,cb,c1,c2,rfl,rfl,rfl,rfl,hgk,hld,hPN⟩:=hrel;obtain⟨hn1,hld1,hnz⟩:=hld.out.cut;obtain⟨n1,hn1e⟩:∃n1,dg W64 P=n1:=⟨_,rfl⟩
   rw[hn1e]at hn1 hld1 hnz;have hP0:=hld.out.pos;have hne':=hld1.ne;have hnL:=hld1.hn;have hn0L:=hld.out.hn;have hPd:n1≤L:=hnL;have hta:(ca.take n1).length=n1:=(by rw[List.length_take,hld1.la];exact Nat.min_eq_left hnL);have htb:(cb.take n1).length=n1:=(by rw[List.length_take,hld1.lb];exact Nat.min_eq_left hnL);have hta0:(ca.take n0).length=n0:=(by rw[List.length_take,hld1.la];exact Nat.min_eq_left hn0L);have rwa0:Rw wr (some ⟨ga,0,none⟩) (ca.take n0):=(by have h:=Rw.part (off:=0) (n:=n0) hld1.ba;rwa [List.drop_zero]at h);have rwa1:Rw wr (some ⟨ga,0,none⟩) (ca.take n1):=(by have h:=Rw.part (off:=0) (n:=n1) hld1.ba;rwa [List.drop_zero]at h);have rwb1:Rw wr (some ⟨gb,0,none⟩) (cb.take n1):=(by have h:=Rw.part (off:=0) (n:=n1) hld1.bb;rwa [List.drop_zero]at h);have nmA:Nm wr (.slice (some ⟨ga,0,none⟩) n1 L) P:=by
    have h:=rO rwa1 hta hnL hld1.ma;rw[hld1.va,oU hP0,hn1e]at h;exact h
   have nmB:Nm wr (gF (some ⟨gb,0,none⟩) L R) R:=by
    have h:=rO rwb1 htb hnL hld1.mb
    rwa [hld1.vb]at h
   have HTA:=hZ hta;have HTB:=hZ htb;have HTA0:=hZ hta0;have HN1:=hZ hn1e;have HL1:=hZ hld1;have HNZ:=hZ hnz;have hle:=hZ hld1.le;clear hta htb hta0 hn1e hld1 hnz;go_wp2_with fail
   refine (v_trimmed' (some ⟨ga,0,none⟩) L n0 P (ca.take n0) _ HTA0.out hn0L (by omega) rwa0 hld.out.ma hld.out.va).mono ?_;rintro e w4 ⟨rfl,rfl⟩;rw[oU hP0,HN1.out];go_wp2_with fail
   go_quiet (fail)
   have HL2:=hZ (HL1.out.q2 ((Q.refl w4).drewN nq));have rwa2:Rw (w4.drewN nq) (some ⟨ga,0,none⟩) (ca.take n1):=rwa1;have rwb2:Rw (w4.drewN nq) (some ⟨gb,0,none⟩) (cb.take n1):=rwb1;have nmA2:Nm (w4.drewN nq) (.slice (some ⟨ga,0,none⟩) n1 L) P:=nmA;have nmB2:Nm (w4.drewN nq) (gF (some ⟨gb,0,none⟩) L R) R:=nmB;clear rwa0 rwa1 rwb1 nmA nmB HL1 hld hn0L hn1 HTA0;generalize w4.drewN nq=wq at*
   have hmA:=hZ HL2.out.ma;have hmB:=hZ HL2.out.mb;go_wp2_with fail
   refine (v_trimmed' (some ⟨gb,0,none⟩) L n1 R (cb.take n1) _ HTB.out hnL (by omega) rwb2 hmB.out HL2.out.vb).mono ?_;rintro e w5 ⟨rfl,rfl⟩;have GO:=aA9 (N:=M) oN;have HGC:=hZ HL2.out.gc;have hTq:=Tb.q hT HL2.out.q;have hqw:=HL2.out.q;rcases Nat.eq_zero_or_pos R with hR0|hR0
   ·subst hR0;rw[yO];have hG:Nat.gcd N M=P:=(by rw[←HGC.out,Nat.gcd_zero_right]);have HG:=hZ hG;clear hG;go_wp2_with fail
    go_ret
    exact⟨_,rfl,by rw[HG.out];exact nmA2,hqw,Nw.at_ hne'.1⟩
   ·rw[oU hR0]at nmB2⊢;obtain⟨l1,hl1⟩:∃l1,dg W64 R=l1:=⟨_,rfl⟩
    rw[hl1]at nmB2⊢;have hl1n:l1≤n1:=(by rw[←hl1,←HN1.out];exact bK aD hle.out);have hl10:0<l1:=by
     rcases Nat.eq_zero_or_pos l1 with h|h
     ·rw[h]at hl1;have:=bO aD hl1;omega
     ·exact h
    have HL1':=hZ hl1;clear hl1;rcases Nat.lt_or_ge 1 l1 with h1|h1
    ·go_wp2_with fail
     refine (aGT (some ⟨ga,0,none⟩) (some ⟨gb,0,none⟩) n1 L L P R (ca.take n1) (cb.take n1) _ rwa2 rwb2 HTA.out HTB.out (by omega) (by omega) hmA.out hmB.out ?_ HL2.out.va HL2.out.vb hle.out).mono ?_
     ·intro h;refine HNZ.out ?_;rw[List.getLast?_eq_getElem?,HTA.out];exact h
     rintro e w6 ⟨ua,va,ub,vb,odd,rfl,hst,hq6⟩;have hsb:Sb (w6.alloc (.cells #[.int .u64 (ua:Int),.int .u64 (va:Int),.int .u64 (ub:Int),.int .u64 (vb:Int),.bool odd] 428)) w6.heap.size ua va ub vb odd:=heap_alloc_new w6 _;have hq60:=hq6.alloc (.cells #[.int .u64 (ua:Int),.int .u64 (va:Int),.int .u64 (ub:Int),.int .u64 (vb:Int),.bool odd] 428);go_wp2_with fail
     refine (aMZ ua va ub vb odd _).mono ?_;rintro e w7 ⟨rfl,hq7⟩;have hsb7:=hsb.q hq7;have hq57:=hq60.trans hq7;have hL7:=HL2.out.q2 hq57;have HL7:=hZ hL7;have nmA7:=nmA2.q hq57;have nmB7:=nmB2.q hq57;have rwa7:=rwa2.q hq57;have rwb7:=rwb2.q hq57;have hqw7:=hqw.trans hq57;clear hL7 hsb hq60 hq6 hq7 hq57 nmA2 nmB2 rwa2 rwb2;have hga7:=HL7.out.ba.lt;rcases Nat.eq_zero_or_pos va with hv0|hv0
     ·have hv0':((va:Int) == 0)=true:=(by rw[hv0];rfl);clear hsb7 rwa7 rwb7 hst;have hdR:dg W64 R≤n1:=(by rw[HL1'.out];exact hl1n);go_wp2_with fail
      refine (rQ P R _ _ _ nmA7 nmB7 hR0 (by rw[HN1.out,HL1'.out,aC];omega)).mono ?_;rintro e w8 ⟨u,v,rfl,-,hv,hq8,-,hnv⟩;have hL8:=HL7.out.q2 hq8;obtain⟨rr,hrr⟩:∃rr,P % R=rr:=⟨_,rfl⟩
      rw[hrr]at hv;obtain⟨gs1,gs2,gs3⟩:=rZ hle.out hR0;rw[hrr]at gs1 gs2 gs3;rw[HGC.out]at gs1;obtain⟨As,cs',ws,rfl,hwc,rws,wws,hvw⟩:=hv;have hlw:ws.length≤n1:=by
       rw[wws.len aD,hvw];exact Nat.le_trans (bK aD (Nat.le_of_lt gs2)) hdR
      obtain⟨kw,hkw⟩:∃kw,ws.length=kw:=⟨_,rfl⟩
      rw[hkw]at hlw hwc⊢;obtain⟨w9,hclr,bz,gz⟩:=aC7 ga n1 L 0 ca w8 hL8.ba (by rw[hL8.la];omega) (by omega);have rws9:Rw w9 As ws:=rws.gr gz (fun b o e=>by
       have h9:=hnv ⟨b,o,none⟩ _ _ (by rw[e]);have h10:w7.heap.size≤b:=h9;omega)
      have hq9:=Q.gr hL8.q gz (by omega);have HWS:=hZ (And.intro hkw (And.intro hvw wws.1));have HL8:=hZ hL8;have HGS:=hZ (And.intro gs1 gs2);clear hkw hvw wws hL8 gs1 hrr rws hnv;go_wp2_with (with_reducible refine eO rfl _ _ _ _ rfl 127 Tryz.underlying48 (by kernel_rfl) _ _ _ _ _ _ rfl rfl ga 0 127 (List.replicate n1 0++ca.drop n1) ws kw bz rws9 HWS.out.1 (by omega) (fun _=>rfl) (by rw[List.length_append,List.length_replicate];omega) ?_;intro w10 bz10 hg10)
      obtain⟨e9,lz⟩:=aGU (n:=n1) (ca:=ca) (ws:=ws) HWS.out.1 hlw (by rw[HL8.out.la];exact hnL);have hLn:Ld w w10 L gb ga g1 g2 n1 R rr (Nat.gcd N M) cb ((List.replicate n1 0++ca.drop n1).take 0++ws.take kw++(List.replicate n1 0++ca.drop n1).drop (0+kw)) c1 c2:=by
       have hh:=HL8.out;refine⟨by omega,hh.lb,by rw[lz,hh.la],hh.l1,hh.l2,hnL,?_,bz10,?_,?_,hh.mb,?_,hh.vb,?_,Nat.le_of_lt HGS.out.2,hR0,HGS.out.1,Q.gr hq9 hg10 (by omega)⟩
       ·exact (hh.bb.gr gz (by omega)).gr hg10 (by omega)
       ·exact (hh.b1.gr gz (by omega)).gr hg10 (by omega)
       ·exact (hh.b2.gr gz (by omega)).gr hg10 (by omega)
       ·rw[e9];exact uR (by decide) HWS.out.2.2
       ·rw[e9,pY];exact HWS.out.2.1
      have HLn:=hZ hLn;clear hLn e9 lz bz10 hg10 hq9 gz bz rws9;go_simp
      go_roundg (R+rr)
      case measure=>omega
      case rel=>exact⟨gb,ga,g1,g2,n1,R,rr,_,_,_,_,rfl,rfl,rfl,rfl,rfl,HLn,hZ (by have:=hPN.out;have:=hle.out;omega)⟩
     ·have hv0':((va:Int) == 0)=false:=(by rw[beq_eq_false_iff_ne];omega);have hlp:Lp P R ua va ub vb odd:=by
       rcases hst with h|h
       ·omega
       ·exact h
      have HLP:=hZ hlp;clear hlp hst;obtain⟨c0,c1',c2',c3,c4⟩:=hsb7.cells;go_wp2_with fail
      refine (aM0 P R ua va ub vb odd n1 L g1 g2 ga gb 127 127 (ca.take n1) (cb.take n1) c1 c2 _ HLP.out hv0 HL7.out.b1 HL7.out.b2 HL7.out.l1 HL7.out.l2 hnL (by omega) rwa7 rwb7 HTA.out HTB.out hmA.out hmB.out HL7.out.va HL7.out.vb
       (by omega) (by omega) (by omega) (by omega) (by omega)).mono ?_
      rintro e w8 ⟨o1,o2,rfl,lo1,lo2,ho1,ho2,hlt,hpos,hgcd,hsum,bo1,bo2,htwo⟩;have hLn:Ld w w8 L g1 g2 ga gb n1 (vl W64 o1) (vl W64 o2) (Nat.gcd N M) (o1++c1.drop n1) (o2++c2.drop n1) ca cb:=by
       have hh:=HL7.out;refine⟨by omega,by rw[List.length_append,lo1,List.length_drop,hh.l1];omega,by rw[List.length_append,lo2,List.length_drop,hh.l2];omega,hh.la,hh.lb,hnL,bo1,bo2,?_,?_,?_,?_,?_,?_,by omega,by omega,?_,Two.q hh.q htwo (by omega) (by omega)⟩
       ·exact (htwo.heap hh.ba.lt (by omega) (by omega)).trans hh.ba
       ·exact (htwo.heap hh.bb.lt (by omega) (by omega)).trans hh.bb
       ·rw[List.take_append_of_le_length (by omega),List.take_of_length_le (by omega)];exact ho1
       ·rw[List.take_append_of_le_length (by omega),List.take_of_length_le (by omega)];exact ho2
       ·rw[List.take_append_of_le_length (by omega),List.take_of_length_le (by omega)]
       ·rw[List.take_append_of_le_length (by omega),List.take_of_length_le (by omega)]
       ·rw[hgcd];exact hh.gc
      have HLn:=hZ hLn;clear hLn htwo bo1 bo2 hgcd lo1 lo2;obtain⟨p1,hp1⟩:∃p1,vl W64 o1=p1:=⟨_,rfl⟩
      obtain⟨p2,hp2⟩:∃p2,vl W64 o2=p2:=⟨_,rfl⟩
      rw[hp1,hp2]at HLn hsum;clear hp1 hp2 hlt hpos ho1 ho2;go_wp2_with fail
      go_roundg (p1+p2)
      case measure=>omega
      case rel=>exact⟨g1,g2,ga,gb,n1,p1,p2,_,_,_,_,rfl,rfl,rfl,rfl,rfl,HLn,hZ (by have:=hPN.out;omega)⟩
    ·obtain rfl:l1=1:=(by omega);have hRW:R<W64:=by
      have h:=aX aD R;rw[HL1'.out,Nat.pow_one]at h;exact h
     have hcb:=nmB2.one;have sx:=Src.of_rw (g:=g1) (off:=0) rwa2 (fun b o e=>by cases e;omega);go_wp2_with fail
     refine (kX (some ⟨g1,0,none⟩) (some ⟨ga,0,none⟩) n1 L n1 L g1 127 0 R (ca.take n1) c1 _ HL2.out.b1 HTA.out (by rw[HL2.out.l1];omega) (fun _=>rfl) (Nat.le_refl _) (by omega) (by omega) (by omega) sx hmA.out hRW hR0).mono ?_;rintro e w6 ⟨oo,rfl,-,-,-,-,hg6⟩;rw[HL2.out.va];have hcb6:=(Gr.cell hg6 (p:=⟨gb,0,none⟩) HL2.out.bb.lt (by simp only;omega)).trans hcb;have nmB6:=nmB2.gr hg6 (by omega);have hq6:=Q.gr hqw hg6 (by omega);obtain⟨rr,hrr⟩:∃rr,P % R=rr:=⟨_,rfl⟩
     have HRR:=hZ hrr;rw[hrr];clear hrr;have hrl:rr<R:=(by rw[←HRR.out];exact Nat.mod_lt _ hR0);rcases Nat.eq_zero_or_pos rr with hz|hz
     ·have hG:Nat.gcd N M=R:=(by rw[←HGC.out];exact aCR (by rw[HRR.out,hz]));have HG:=hZ hG;clear hG;have hz':((rr:Int) == 0)=true:=(by rw[hz];rfl);go_wp2_with fail
      go_ret
      exact⟨_,rfl,by rw[HG.out];exact nmB6,hq6,Nw.at_ hne'.2.1⟩
     ·have hz':((rr:Int) == 0)=false:=(by rw[beq_eq_false_iff_ne];omega);have hG:Nat.gcd (R/2^tz R) (rr/2^tz rr)=Nat.gcd N M:=by
       have h1:=(rZ hle.out hR0).1;rw[HRR.out,HGC.out]at h1;rw[aEl hR0 hz (by rw[h1];exact GO),h1]
      have s1:=iJ hR0;have s2:=iJ hz;have q1:R/2^tz R≤R:=Nat.div_le_self _ _;have q2:rr/2^tz rr≤rr:=Nat.div_le_self _ _;obtain⟨a1,ha1⟩:∃a1,R/2^tz R=a1:=⟨_,rfl⟩
      obtain⟨a2,ha2⟩:∃a2,rr/2^tz rr=a2:=⟨_,rfl⟩
      rw[ha1]at s1 q1 hG;rw[ha2]at s2 q2 hG;have HG:=hZ hG;have HA1:=hZ ha1;have HA2:=hZ ha2;have HS:=hZ (And.intro s1.2 s2.2);have hT6:=Tb.q hT hq6;clear hG ha1 ha2 s1 s2;have hgl:Nat.gcd N M<W64:=by
       have:=Nat.gcd_le_left (m:=a1) a2 (by have:=HS.out.1;omega);rw[HG.out]at this;omega
      have HGL:=hZ hgl;clear hgl;have HRW:=hZ hRW;clear hRW;go_wp2_with fail
      refine (oQ R a1 _ HRW.out hR0 hT6 HA1.out).mono ?_;rintro e w7 ⟨rfl,rfl⟩;go_wp2_with fail
      refine (oQ rr a2 _ (by have:=HRW.out;omega) hz hT6 HA2.out).mono ?_;rintro e w7 ⟨rfl,rfl⟩;go_wp2_with fail
      refine (uH a1 a2 _ (by have:=HRW.out;omega) (by have:=HRW.out;omega) HS.out.1 HS.out.2 hT6).mono ?_;rintro e w7 ⟨rfl,rfl⟩;rw[HG.out];go_wp2_with fail
      refine (fC _ (Nat.gcd N M) _ rfl HGL.out).mono ?_;rintro e w8 ⟨v,rfl,hv,hq8,hnv⟩;go_wp2_with fail
      go_ret
      exact⟨v,rfl,hv,hq6.trans hq8,hnv.more hq6.size⟩
theorem Me.Nm.one'{w:World}{A:Option Addr}{c R:Nat}(h:Nm w (.slice A 1 c) R):∃g o,A=some ⟨g,o,none⟩∧g<w.heap.size∧w.cell? ⟨g,o,none⟩=some (.int .u64 (R:Int)):=by
 obtain⟨A',c',ws,h1,h2,h3,h4,h5⟩:=h;injection h1 with e1 e2 e3;subst e1
 match ws,e2 with
 | [a],_=>
   simp[vl]at h5;subst h5;obtain⟨b,o,e,hb,h6⟩:=h3.head (by simp);exact⟨b,o,e,hb,h6⟩
theorem uI(N M:Nat)(x y:Value)(w:World)(hT:Tb w)(hx:Nm w x N)(hy:Nm w y M)(hN0:0<N)(hM0:0<M)(hB:8*(dg W64 N+dg W64 M)+80≤LIM):
  Calls Tryz.prog 222 #[x,y] w (eQ (Nat.gcd N M) w):=by
 have hB':=hB;rw[aC]at hB';obtain⟨A,c,rfl,hc⟩:=hx.parts;obtain⟨B,d,rfl,hd⟩:=hy.parts;have htn:=kN hN0;have htm:=kN hM0;have hbn:bl N≤64*dg W64 N:=kP 64 N (by decide);have hbm:bl M≤64*dg W64 M:=kP 64 M (by decide);have sN:=iJ hN0;have sM:=iJ hM0;have hG:=mH hN0 hM0;obtain⟨sh,hsh⟩:∃sh,min (tz N) (tz M)=sh:=⟨_,rfl⟩
 have hmin:min (tz N:Int) (tz M:Int)=(sh:Int):=by omega
 rw[hsh]at hG;have hshN:sh≤tz N:=by omega
 have qN:N/2^tz N≤N:=Nat.div_le_self _ _;have qM:M/2^tz M≤M:=Nat.div_le_self _ _;have dN:dg W64 (N/2^tz N)≤dg W64 N:=bK aD qN;have dM:dg W64 (M/2^tz M)≤dg W64 M:=bK aD qM;have hpN:tz N+1=bl N→Nat.gcd N M=2^sh:=fun h=>by
  rw[←hsh];refine aAb hN0 hM0 (Or.inl ?_);have:=pU hN0 h;rw[←this];exact Nat.div_self hN0
 have hpM:tz M+1=bl M→Nat.gcd N M=2^sh:=fun h=>by
  rw[←hsh];refine aAb hN0 hM0 (Or.inr ?_);have:=pU hM0 h;rw[←this];exact Nat.div_self hM0
 obtain⟨N',hN'⟩:∃q,N/2^tz N=q:=⟨_,rfl⟩
 obtain⟨M',hM'⟩:∃q,M/2^tz M=q:=⟨_,rfl⟩
 rw[hN']at sN hG qN dN;rw[hM']at sM hG qM dM;have hfN:(N:Int)/2^tz N=(N':Int):=by rw[←eH,←Int.natCast_ediv,hN']
 have hfM:(M:Int)/2^tz M=(M':Int):=by rw[←eH,←Int.natCast_ediv,hM']
 have HN':=hZ hN';have HM':=hZ hM';have SN:=hZ sN;have SM:=hZ sM;have HG:=hZ hG;have HPN:=hZ hpN;have HPM:=hZ hpM;clear hN' hM' sN sM hG hpN hpM hsh;obtain⟨ln,hln⟩:∃ln,dg W64 N=ln:=⟨_,rfl⟩
 obtain⟨lm,hlm⟩:∃lm,dg W64 M=lm:=⟨_,rfl⟩
 have HLN:=hZ hln;have HLM:=hZ hlm;rw[hln]at hx hc hB' hbn dN⊢;rw[hlm]at hy hd hB' hbm dM⊢;clear hln hlm;by_cases p1:tz N+1=bl N
 ·have hg:=HPN.out p1;have HGP:=hZ hg;have P1:=hZ (decide_eq_true p1);clear hg p1;go_enter Tryz.func222,Tryz.ntmps222
  go_wp2_with fail
  refine (bV _ N _ hT hx (by rw[HLN.out,aC];omega) hN0).mono ?_;rintro e w1 ⟨rfl,rfl⟩;go_wp2_with fail
  refine (bV _ M _ hT hy (by rw[HLM.out,aC];omega) hM0).mono ?_;rintro e w1 ⟨rfl,rfl⟩;go_wp2_with fail
  refine (eF _ N _ hT hx (by rw[HLN.out,aC];omega) hN0).mono ?_;rintro e w1 ⟨rfl,rfl⟩;rw[P1.out];go_wp2_with fail
  refine (fC 1 1 _ rfl (by decide)).mono ?_;rintro e w2 ⟨v,rfl,hv,hq2,-⟩;go_wp2_with fail
  refine (eG _ 1 sh _ _ hv rfl (by rw[iA aD,aC];omega) (by omega)).mono ?_;rintro e w3 ⟨v2,rfl,hv2,hq3,hn3⟩;rw[Nat.one_mul,←HGP.out]at hv2;go_wp2_with fail
  go_ret
  exact⟨v2,rfl,hv2,hq2.trans hq3,hn3.more hq2.size⟩
 ·have P1:=hZ (decide_eq_false p1);clear p1;by_cases p2:tz M+1=bl M
  ·have hg:=HPM.out p2;have HGP:=hZ hg;have P2:=hZ (decide_eq_true p2);clear hg p2;go_enter Tryz.func222,Tryz.ntmps222
   go_wp2_with fail
   refine (bV _ N _ hT hx (by rw[HLN.out,aC];omega) hN0).mono ?_;rintro e w1 ⟨rfl,rfl⟩;go_wp2_with fail
   refine (bV _ M _ hT hy (by rw[HLM.out,aC];omega) hM0).mono ?_;rintro e w1 ⟨rfl,rfl⟩;go_wp2_with fail
   refine (eF _ N _ hT hx (by rw[HLN.out,aC];omega) hN0).mono ?_;rintro e w1 ⟨rfl,rfl⟩;rw[P1.out];go_wp2_with fail
   refine (eF _ M _ hT hy (by rw[HLM.out,aC];omega) hM0).mono ?_;rintro e w1 ⟨rfl,rfl⟩;rw[P2.out];go_wp2_with fail
   refine (fC 1 1 _ rfl (by decide)).mono ?_;rintro e w2 ⟨v,rfl,hv,hq2,-⟩;go_wp2_with fail
   refine (eG _ 1 sh _ _ hv rfl (by rw[iA aD,aC];omega) (by omega)).mono ?_;rintro e w3 ⟨v2,rfl,hv2,hq3,hn3⟩;rw[Nat.one_mul,←HGP.out]at hv2;go_wp2_with fail
   go_ret
   exact⟨v2,rfl,hv2,hq2.trans hq3,hn3.more hq2.size⟩
  ·have P2:=hZ (decide_eq_false p2);clear p2;by_cases h1:ln=1
   ·by_cases h2:lm=1
    ·subst h1 h2;obtain⟨ga,oa,rfl,hba,hca⟩:=hx.one';obtain⟨gb,ob,rfl,hbb,hcb⟩:=hy.one';have hNW:N<W64:=by
      have h:=aX aD N;rw[HLN.out,Nat.pow_one]at h;exact h
     have hMW:M<W64:=by
      have h:=aX aD M;rw[HLM.out,Nat.pow_one]at h;exact h
     have htn64:tz N<64:=Nat.lt_of_lt_of_le htn ((bF _ _).2 hNW);have htm64:tz M<64:=Nat.lt_of_lt_of_le htm ((bF _ _).2 hMW);have hgle:Nat.gcd N M<W64:=Nat.lt_of_le_of_lt (Nat.gcd_le_left _ hN0) hNW;have hfg:IntKind.u64.wrap (((Nat.gcd N' M':Nat):Int)*2^sh)=((Nat.gcd N M:Nat):Int):=by
      rw[←eH,←Int.natCast_mul,Nat.mul_comm,←HG.out];exact aP hgle
     obtain⟨gg,hgg⟩:∃gg,Nat.gcd N' M'=gg:=⟨_,rfl⟩
     rw[hgg]at hfg;obtain⟨gr,hgr⟩:∃gr,Nat.gcd N M=gr:=⟨_,rfl⟩
     rw[hgr]at hfg hgle⊢;have HGG:=hZ hgg;have hsh64:sh<64:=(by omega);have HW:=hZ (And.intro hNW (And.intro hMW hgle));clear hgg hgr hNW hMW hgle;go_enter Tryz.func222,Tryz.ntmps222
     go_wp2_with fail
     refine (bV _ N _ hT hx (by rw[HLN.out,aC];omega) hN0).mono ?_;rintro e w1 ⟨rfl,rfl⟩;go_wp2_with fail
     refine (bV _ M _ hT hy (by rw[HLM.out,aC];omega) hM0).mono ?_;rintro e w1 ⟨rfl,rfl⟩;go_wp2_with fail
     refine (eF _ N _ hT hx (by rw[HLN.out,aC];omega) hN0).mono ?_;rintro e w1 ⟨rfl,rfl⟩;rw[P1.out];go_wp2_with fail
     refine (eF _ M _ hT hy (by rw[HLM.out,aC];omega) hM0).mono ?_;rintro e w1 ⟨rfl,rfl⟩;rw[P2.out];go_wp2_with fail
     go_region_held3 (fun W=>W.cell? ⟨ga,oa,none⟩=some (.int .u64 (N:Int))∧W.cell? ⟨gb,ob,none⟩=some (.int .u64 (M:Int))) (first|exact⟨hca,hcb⟩|exact⟨by assumption,by assumption⟩|go_keep) (first
      |(go_at_call 309;refine (uH N' M' _ (by have:=HW.out.1;omega) (by have:=HW.out.2.1;omega) SN.out.2 SM.out.2 (by exact hT)).mono ?_;rintro e w2 ⟨rfl,rfl⟩;rw[HGG.out])
      |(go_at_call 60;refine (fC (gr:Int) gr _ rfl HW.out.2.2).mono ?_;rintro e w3 ⟨v,rfl,hv,hq3,hn3⟩;have k1:=(hq3.cell (p:=⟨ga,oa,none⟩) (by exact hba)).trans (by exact hca);have k2:=(hq3.cell (p:=⟨gb,ob,none⟩) (by exact hbb)).trans (by exact hcb)))
     all_goals
      go_wp2_with fail
      go_ret
      exact⟨v,rfl,hv,(Q.refl w).drew.trans hq3,hn3⟩
    ·have h1':((ln:Int) == 1)=true:=(by rw[h1];rfl);have h2':((lm:Int) == 1)=false:=(by rw[beq_eq_false_iff_ne];omega);clear h1 h2;go_enter Tryz.func222,Tryz.ntmps222
     go_wp2_with fail
     refine (bV _ N _ hT hx (by rw[HLN.out,aC];omega) hN0).mono ?_;rintro e w1 ⟨rfl,rfl⟩;go_wp2_with fail
     refine (bV _ M _ hT hy (by rw[HLM.out,aC];omega) hM0).mono ?_;rintro e w1 ⟨rfl,rfl⟩;go_wp2_with fail
     refine (eF _ N _ hT hx (by rw[HLN.out,aC];omega) hN0).mono ?_;rintro e w1 ⟨rfl,rfl⟩;rw[P1.out];go_wp2_with fail
     refine (eF _ M _ hT hy (by rw[HLM.out,aC];omega) hM0).mono ?_;rintro e w1 ⟨rfl,rfl⟩;rw[P2.out];go_wp2_with fail
     refine (fM _ N (tz N) _ _ hx rfl (by rw[HLN.out,aC];omega) (by omega)).mono ?_;rintro e w2 ⟨xv,rfl,hxv,hq2,-⟩;rw[HN'.out]at hxv;go_wp2_with fail
     refine (fM _ M (tz M) _ _ (hy.q hq2) rfl (by rw[HLM.out,aC];omega) (by omega)).mono ?_;rintro e w3 ⟨yv,rfl,hyv,hq3,-⟩;rw[HM'.out]at hyv;have hxv:=hxv.q hq3;obtain⟨Ax,kx,cx,rfl⟩:=hxv.form;obtain⟨Ay,ky,cy,rfl⟩:=hyv.form;rcases Nat.lt_or_ge N' M' with hlt|hge
     ·have hcmp:=hZ (jR hlt);go_wp2_with fail
      refine (bM _ _ N' M' _ hxv hyv (by rw[aC];omega) (by rw[aC];omega)).mono ?_;rintro e w4 ⟨rfl,hq4⟩;rw[hcmp.out];have hq:=(hq2.trans hq3).trans hq4;go_wp2_with fail
      refine (jG M' N' _ _ _ (Tb.q hT hq) (hyv.q hq4) (hxv.q hq4) (Nat.le_of_lt hlt) (by have:=SM.out.2;omega) SM.out.2 (by rw[aC];omega)).mono ?_;rintro e w5 ⟨g,rfl,hg,hq5,-⟩;rw[Nat.gcd_comm]at hg;have hgd:dg W64 (Nat.gcd N' M')≤dg W64 N':=bK aD (Nat.gcd_le_left _ (by have:=SN.out.2;omega));go_wp2_with fail
      refine (eG _ (Nat.gcd N' M') sh _ _ hg rfl (by rw[aC];omega) (by omega)).mono ?_;rintro e w6 ⟨v2,rfl,hv2,hq6,hn6⟩;rw[Nat.mul_comm,←HG.out]at hv2;go_wp2_with fail
      go_ret
      exact⟨v2,rfl,hv2,(hq.trans hq5).trans hq6,hn6.more (hq.trans hq5).size⟩
     ·have hcmp:∃z:Int,cmp N' M'=z∧¬z<0:=by
       rcases Nat.eq_or_lt_of_le hge with h|h
       ·exact⟨0,by rw[h];exact cmp_eq _,by omega⟩
       ·exact⟨1,jS h,by omega⟩
      obtain⟨z,hz,hz0⟩:=hcmp;have hcmp:=hZ hz;clear hz;go_wp2_with fail
      refine (bM _ _ N' M' _ hxv hyv (by rw[aC];omega) (by rw[aC];omega)).mono ?_;rintro e w4 ⟨rfl,hq4⟩;rw[hcmp.out];have hq:=(hq2.trans hq3).trans hq4;go_wp2_with fail
      refine (jG N' M' _ _ _ (Tb.q hT hq) (hxv.q hq4) (hyv.q hq4) hge (by have:=SN.out.2;omega) SN.out.2 (by rw[aC];omega)).mono ?_;rintro e w5 ⟨g,rfl,hg,hq5,-⟩;have hgd:dg W64 (Nat.gcd N' M')≤dg W64 N':=bK aD (Nat.gcd_le_left _ (by have:=SN.out.2;omega));go_wp2_with fail
      refine (eG _ (Nat.gcd N' M') sh _ _ hg rfl (by rw[aC];omega) (by omega)).mono ?_;rintro e w6 ⟨v2,rfl,hv2,hq6,hn6⟩;rw[Nat.mul_comm,←HG.out]at hv2;go_wp2_with fail
      go_ret
      exact⟨v2,rfl,hv2,(hq.trans hq5).trans hq6,hn6.more (hq.trans hq5).size⟩
   ·have h1':((ln:Int) == 1)=false:=(by rw[beq_eq_false_iff_ne];omega);clear h1;go_enter Tryz.func222,Tryz.ntmps222
    go_wp2_with fail
    refine (bV _ N _ hT hx (by rw[HLN.out,aC];omega) hN0).mono ?_;rintro e w1 ⟨rfl,rfl⟩;go_wp2_with fail
    refine (bV _ M _ hT hy (by rw[HLM.out,aC];omega) hM0).mono ?_;rintro e w1 ⟨rfl,rfl⟩;go_wp2_with fail
    refine (eF _ N _ hT hx (by rw[HLN.out,aC];omega) hN0).mono ?_;rintro e w1 ⟨rfl,rfl⟩;rw[P1.out];go_wp2_with fail
    refine (eF _ M _ hT hy (by rw[HLM.out,aC];omega) hM0).mono ?_;rintro e w1 ⟨rfl,rfl⟩;rw[P2.out];go_wp2_with fail
    refine (fM _ N (tz N) _ _ hx rfl (by rw[HLN.out,aC];omega) (by omega)).mono ?_;rintro e w2 ⟨xv,rfl,hxv,hq2,-⟩;rw[HN'.out]at hxv;go_wp2_with fail
    refine (fM _ M (tz M) _ _ (hy.q hq2) rfl (by rw[HLM.out,aC];omega) (by omega)).mono ?_;rintro e w3 ⟨yv,rfl,hyv,hq3,-⟩;rw[HM'.out]at hyv;have hxv:=hxv.q hq3;obtain⟨Ax,kx,cx,rfl⟩:=hxv.form;obtain⟨Ay,ky,cy,rfl⟩:=hyv.form;rcases Nat.lt_or_ge N' M' with hlt|hge
    ·have hcmp:=hZ (jR hlt);go_wp2_with fail
     refine (bM _ _ N' M' _ hxv hyv (by rw[aC];omega) (by rw[aC];omega)).mono ?_;rintro e w4 ⟨rfl,hq4⟩;rw[hcmp.out];have hq:=(hq2.trans hq3).trans hq4;go_wp2_with fail
     refine (jG M' N' _ _ _ (Tb.q hT hq) (hyv.q hq4) (hxv.q hq4) (Nat.le_of_lt hlt) (by have:=SM.out.2;omega) SM.out.2 (by rw[aC];omega)).mono ?_;rintro e w5 ⟨g,rfl,hg,hq5,-⟩;rw[Nat.gcd_comm]at hg;have hgd:dg W64 (Nat.gcd N' M')≤dg W64 N':=bK aD (Nat.gcd_le_left _ (by have:=SN.out.2;omega));go_wp2_with fail
     refine (eG _ (Nat.gcd N' M') sh _ _ hg rfl (by rw[aC];omega) (by omega)).mono ?_;rintro e w6 ⟨v2,rfl,hv2,hq6,hn6⟩;rw[Nat.mul_comm,←HG.out]at hv2;go_wp2_with fail
     go_ret
     exact⟨v2,rfl,hv2,(hq.trans hq5).trans hq6,hn6.more (hq.trans hq5).size⟩
    ·have hcmp:∃z:Int,cmp N' M'=z∧¬z<0:=by
      rcases Nat.eq_or_lt_of_le hge with h|h
      ·exact⟨0,by rw[h];exact cmp_eq _,by omega⟩
      ·exact⟨1,jS h,by omega⟩
     obtain⟨z,hz,hz0⟩:=hcmp;have hcmp:=hZ hz;clear hz;go_wp2_with fail
     refine (bM _ _ N' M' _ hxv hyv (by rw[aC];omega) (by rw[aC];omega)).mono ?_;rintro e w4 ⟨rfl,hq4⟩;rw[hcmp.out];have hq:=(hq2.trans hq3).trans hq4;go_wp2_with fail
     refine (jG N' M' _ _ _ (Tb.q hT hq) (hxv.q hq4) (hyv.q hq4) hge (by have:=SN.out.2;omega) SN.out.2 (by rw[aC];omega)).mono ?_;rintro e w5 ⟨g,rfl,hg,hq5,-⟩;have hgd:dg W64 (Nat.gcd N' M')≤dg W64 N':=bK aD (Nat.gcd_le_left _ (by have:=SN.out.2;omega));go_wp2_with fail
     refine (eG _ (Nat.gcd N' M') sh _ _ hg rfl (by rw[aC];omega) (by omega)).mono ?_;rintro e w6 ⟨v2,rfl,hv2,hq6,hn6⟩;rw[Nat.mul_comm,←HG.out]at hv2;go_wp2_with fail
     go_ret
     exact⟨v2,rfl,hv2,(hq.trans hq5).trans hq6,hn6.more (hq.trans hq5).size⟩
theorem aCj(x:Value)(N n:Nat)(z:Int)(w:World)(hx:Nm w x N)(hz:z=(n:Int))(h:n*dg W64 N+9≤LIM)(hn:n≤4611686018427387904):
  Calls Tryz.prog 294 #[x,.int .i64 z] w (eQ (N^n) w):=by
 subst hz;obtain⟨D,hD⟩:∃D,dg W64 N=D:=⟨_,rfl⟩
 rw[hD]at h;go_enter Tryz.func294,Tryz.ntmps294
 go_wp2_with fail
 refine (fC 1 1 _ rfl (by decide)).mono ?_;rintro e w1 ⟨z0,rfl,hz0,hq0,hn0⟩;go_wp2_with fail
 go_loopw [0,1,5] (fun xv kv zv w1=>∃(k a e:Nat),kv=.int .i64 (k:Int)∧k≤n∧a+k*e=n∧0<e∧Nm w1 xv (N^e)∧Nm w1 zv (N^a)∧Nw w.heap.size zv∧Q w w1) (fun _ kv _ _=>(intOf kv).toNat)
 case atStart=>exact⟨n,0,1,rfl,Nat.le_refl _,by omega,by omega,by rw[Nat.pow_one];exact hx.q hq0,hz0,hn0,hq0⟩
 case round=>
  obtain⟨k,a,e,rfl,hk,ha,he0,hxv,hzv,hnv,hq⟩:=hrel;rcases Nat.eq_zero_or_pos k with rfl|hkp
  ·have ha:a=n:=(by omega);subst ha;go_wp2_with fail
   go_ret
   exact⟨_,rfl,hzv,hq,hnv⟩
  ·have r1:=aFE (D:=D) ha hkp;have r2:=fun h2=>aFF (D:=D) (a:=a) (k:=k) (e:=e) (n:=n) ha h2;obtain⟨k2,hk2⟩:∃k2:Nat,k/2=k2:=⟨_,rfl⟩
   have hk2':(k:Int)/2=(k2:Int):=(by omega);have hk3:k2≤k:=(by omega);have hk4:k2<k:=(by omega);have hDe:dg W64 (N^e)≤e*D+1:=(by rw[←hD];exact Nat.le_trans (aA6 aD) (by split<;>omega));have hDa:dg W64 (N^a)≤a*D+1:=(by rw[←hD];exact Nat.le_trans (aA6 aD) (by split<;>omega));have hDe':e≠0→dg W64 (N^e)≤e*D:=fun he=>(by rw[←hD];exact Nat.le_trans (aA6 aD) (by rw[if_neg he];omega));have hkne:k2≠0→0<k/2:=(by omega);rcases Nat.mod_two_eq_zero_or_one k with hm|hm
   ·have hm':((k:Int) % 2 == 1)=false:=(by rw[beq_eq_false_iff_ne];omega);have he:=aEj ha hm;rw[hk2]at he r2;have HE:=hZ he;have hkp2:0<k2:=(by omega);have r2:=r2 hkp2;clear he hk2 ha hm hkne;go_wp2_with fail
    refine (kY _ _ _ _ _ hxv hxv ?_).mono ?_
    ·rw[aC]at h⊢;have:=hDe' (by omega);omega
    rintro e1 w2 ⟨v,rfl,hv,hq2,_⟩;rw[←Nat.pow_add,←Nat.two_mul]at hv;go_wp2_with fail
    exact⟨⟨k2,a,2*e,rfl,by omega,HE.out,by omega,hv,hzv.q hq2,hnv,hq.trans hq2⟩,by simp[intOf];omega⟩
   ·have hm':((k:Int) % 2 == 1)=true:=(by rw[beq_iff_eq];omega);have he:=aFG ha hm;rw[hk2]at he r2;have HE:=hZ he;clear he ha hm;rcases Nat.eq_zero_or_pos k2 with rfl|hkp2
    ·clear hk2 hkne r2;go_wp2_with fail
     refine (kY _ _ _ _ _ hzv hxv ?_).mono ?_
     ·rw[aC]at h⊢;have:=hDe' (by omega);omega
     rintro e1 w2 ⟨v,rfl,hv,hq2,hn2⟩;rw[←Nat.pow_add]at hv;go_wp2_with fail
     exact⟨⟨0,a+e,e,rfl,by omega,by have:=HE.out;omega,he0,hxv.q hq2,hv,hn2.more hq.size,hq.trans hq2⟩,by simp[intOf];omega⟩
    ·have r2:=r2 hkp2;clear hk2 hkne;go_wp2_with fail
     refine (kY _ _ _ _ _ hzv hxv ?_).mono ?_
     ·rw[aC]at h⊢;have:=hDe' (by omega);omega
     rintro e1 w2 ⟨v,rfl,hv,hq2,hn2⟩;rw[←Nat.pow_add]at hv;go_wp2_with fail
     refine (kY _ _ _ _ _ (hxv.q hq2) (hxv.q hq2) ?_).mono ?_
     ·rw[aC]at h⊢;have:=hDe' (by omega);omega
     rintro e1 w3 ⟨u,rfl,hu,hq3,_⟩;rw[←Nat.pow_add,←Nat.two_mul]at hu;go_wp2_with fail
     exact⟨⟨k2,a+e,2*e,rfl,by omega,HE.out,by omega,hu,hv.q hq3,hn2.more hq.size,(hq.trans hq2).trans hq3⟩,by simp[intOf];omega⟩
theorem byte_at{s:ByteArray}{i:Nat}(h:i<s.size):s.data.toList[i]? =some (s[i]'h):=by
 rw[List.getElem?_eq_getElem (by rw[Array.length_toList];exact h)];rfl
theorem uJ(s:ByteArray):s.data.toList.length=s.size:=by rw[Array.length_toList];rfl
theorem zR{l:List UInt8}{i:Nat}{c:UInt8}(h:bP (l.take i))(hc:l[i]? =some c)(h1:48≤c.toNat)(h2:c.toNat≤57):bP (l.take (i+1)):=by
 obtain⟨hi,rfl⟩:=List.getElem?_eq_some_iff.1 hc;intro d hd;rw[List.take_add_one,List.getElem?_eq_getElem hi]at hd;rcases List.mem_append.1 hd with hd|hd
 ·exact h d hd
 ·simp at hd;rw[hd];exact⟨h1,h2⟩
def lF(l:List UInt8):Bool:=decide (bP l∧l≠[])
theorem aCk{l:List UInt8}{i:Nat}{c:UInt8}(hc:l[i]? =some c)(h:¬(48≤c.toNat∧c.toNat≤57)):lF l=false:=by
 obtain⟨hi,rfl⟩:=List.getElem?_eq_some_iff.1 hc;exact decide_eq_false (fun h1=>h (h1.1 _ (List.getElem_mem hi)))
theorem aIJ{l:List UInt8}(h:bP l):lF l=!l.isEmpty:=by
 unfold lF;cases l with
 |nil=>simp
 |cons c r=>simp[h]
set_option maxRecDepth 1000000 in
theorem lG(s:ByteArray)(w:World):
  Calls Tryz.prog 305 #[.string s] w fun e w'=>e=.returned (.bool (lF s.data.toList))∧Q w w':=by
 go_enter Tryz.func305,Tryz.ntmps305
 go_wp2_with fail
 go_loopw [4] (fun rv w'=>∃pos:Nat,w'=w.iter s pos∧pos≤s.size∧Hid (bP (s.data.toList.take pos))) (fun _ w'=>s.size-w'.iterPos w.heap.size)
 case atStart=>exact⟨0,rfl,by omega,hZ (by intro c hc;simp at hc)⟩
 case round=>
  obtain⟨pos,rfl,hpos,hall⟩:=hrel;by_cases hp:pos<s.size
  ·have hby:=byte_at hp;by_cases ha:(s[pos]'hp).toNat<128
   ·have hnx:∀ty,(Instr.next (.pointer (some ⟨w.heap.size,0,none⟩)) true ty).run Tryz.prog (w.iter s pos)=_:=fun ty=>run_next_ascii w s pos ty hp ha;generalize s[pos]'hp=b at*
    have HB:=hZ hby;clear hby;by_cases h1:48≤b.toNat∧b.toNat≤57
    ·have h2:¬((b.toNat:Int)<48):=(by omega);have h3:¬(57<(b.toNat:Int)):=(by omega);have HN:=hZ (zR hall.out HB.out h1.1 h1.2);clear h1;go_wp2_with fail
     exact⟨⟨pos+1,rfl,by omega,HN⟩,by rw[World.iterPos_iter,World.iterPos_iter];omega⟩
    ·have hf:=hZ (aCk HB.out h1);rcases (show b.toNat<48∨57<b.toNat by omega) with h2|h2
     ·have h3:(b.toNat:Int)<48:=(by omega);go_wp2_with fail
      go_ret
      exact⟨by rw[hf.out];rfl,(Q.refl w).alloc _⟩
     ·have h3:¬(b.toNat:Int)<48:=(by omega);have h4:57<(b.toNat:Int):=(by omega);go_wp2_with fail
      go_ret
      exact⟨by rw[hf.out];rfl,(Q.refl w).alloc _⟩
   ·have hhi:=decode_high s pos hp (by omega);have hf:=hZ (aCk hby (by omega));have hnx:∀ty,(Instr.next (.pointer (some ⟨w.heap.size,0,none⟩)) true ty).run Tryz.prog (w.iter s pos)=_:=fun ty=>run_next_any w s pos ty hp;obtain⟨r,hr⟩:∃r,(Utf8.decode s pos).1=r:=⟨_,rfl⟩
    obtain⟨k,hk⟩:∃k,(Utf8.decode s pos).2=k:=⟨_,rfl⟩
    rw[hr,hk]at hnx;rw[hr]at hhi;have h3:¬(r:Int)<48:=(by omega);have h4:57<(r:Int):=(by omega);clear hr hk hby ha;go_wp2_with fail
    go_ret
    exact⟨by rw[hf.out];rfl,(Q.refl w).alloc _⟩
  ·have hnx:∀ty,(Instr.next (.pointer (some ⟨w.heap.size,0,none⟩)) true ty).run Tryz.prog (w.iter s pos)=_:=fun ty=>run_next_end w s pos ty hp;have hal:=hall.out;rw[List.take_of_length_le (by rw[uJ];omega)]at hal;have HAL:=hZ hal;clear hal;go_wp2_with fail
   go_ret
   refine⟨?_,(Q.refl w).alloc _⟩;show Ending.returned (.bool (!s.toList.isEmpty))=_;rw[ByteArray.toList_eq];rw[aIJ HAL.out]
theorem qR(n:Nat)(z:Int)(w:World)(hz:z=(n:Int))(h:n+9≤LIM):Calls Tryz.prog 204 #[.int .i64 z] w (eQ (10^n) w):=by
 subst hz;rw[aC]at h;have hd:dg W64 10=1:=by
  have h1:=(aK aD 10 1).2 (by decide);have h2:¬dg W64 10≤0:=(by rw[aK aD];decide);omega
 have HD:=hZ hd;clear hd;go_enter Tryz.func204,Tryz.ntmps204
 go_wp2_with fail
 refine (fC 10 10 _ rfl (by decide)).mono ?_;rintro e w1 ⟨v,rfl,hv,hq1,-⟩;go_wp2_with fail
 refine (aCj _ 10 n _ _ hv rfl (by rw[HD.out,aC];omega) (by omega)).mono ?_;rintro e w2 ⟨v2,rfl,hv2,hq2,hn2⟩;go_wp2_with fail
 go_ret
 exact⟨v2,rfl,hv2,hq1.trans hq2,hn2.more hq1.size⟩
theorem sJ(x:Value)(N:Nat)(w:World)(hx:Nm w x N)(h:100*dg W64 N+100≤LIM):
  Calls Tryz.prog 197 #[x] w fun e w'=>e=.returned (.int .i64 (((dec N).length:Nat):Int))∧Q w w':=by
 rw[aC]at h;obtain⟨A,c,rfl,hc⟩:=hx.parts;have hbl:bl N≤64*dg W64 N:=kP 64 N (by decide);obtain⟨l,hl⟩:∃l,dg W64 N=l:=⟨_,rfl⟩
 have HL:=hZ hl;rw[hl]at hx hbl h hc⊢;rcases Nat.eq_zero_or_pos N with h0|h0
 ·subst h0;rw[aZ]at hl;subst hl;have e1:(dec 0).length=1:=(by rw[eZ (by decide)];rfl);rw[e1];clear HL e1;go_enter Tryz.func197,Tryz.ntmps197
  go_wp2_with fail
  go_ret
  exact⟨rfl,Q.refl _⟩
 ·have hl0:((l:Int) == 0)=false:=by
   rw[beq_eq_false_iff_ne];intro h1;have h2:l=0:=(by omega);have:=bO aD (hl.trans h2);omega
  clear hl;have hb0:0<bl N:=(by rw[jU h0];omega);obtain⟨n,hn⟩:∃n,bl N=n:=⟨_,rfl⟩
  rw[hn]at hbl hb0;obtain⟨a,ha⟩:∃a,(n-1)*5553023288523357132/18446744073709551616=a:=⟨_,rfl⟩
  obtain⟨a',ha'⟩:∃a,(n-1)*5553023288523357132 % 18446744073709551616=a:=⟨_,rfl⟩
  obtain⟨b,hb⟩:∃b,n*5553023288523357133/18446744073709551616=b:=⟨_,rfl⟩
  obtain⟨b',hb'⟩:∃b,n*5553023288523357133 % 18446744073709551616=b:=⟨_,rfl⟩
  obtain⟨k1,k2⟩:=aFP h0 hn ha hb;have hbn:b≤n:=(by rw[←hb];omega);have e1:(dec N).length=dg 10 N:=(by rw[jV,if_neg (by omega)]);rw[e1];obtain⟨D,hD⟩:∃D,dg 10 N=D:=⟨_,rfl⟩
  rw[hD]at k1 k2⊢;have HN:=hZ hn;have HA:=hZ (And.intro ha ha');have HB:=hZ (And.intro hb hb');have HD:=hZ hD;clear hn ha ha' hb hb' hD e1;have i1:(n:Int)-1=((n-1:Nat):Int):=(by omega);have hnW:n<18446744073709551616:=(by omega);go_enter Tryz.func197,Tryz.ntmps197
  go_wp2_with fail
  refine (pR _ N _ hx (by rw[HL.out,aC];omega)).mono ?_;rintro e w1 ⟨rfl,rfl⟩;rw[HN.out];go_wp2_with fail
  refine (oK (n-1) 5553023288523357132 a a' (by rw[bE];omega) (by decide) HA.out.1 HA.out.2 _).mono ?_;rintro e w1 ⟨rfl,rfl⟩;go_wp2_with fail
  refine (oK n 5553023288523357133 b b' (by rw[bE];omega) (by decide) HB.out.1 HB.out.2 _).mono ?_;rintro e w1 ⟨rfl,rfl⟩;go_wp2_with fail
  go_loopw [8] (fun cv w1=>∃k:Nat,cv=.int .i64 (k:Int)∧a+1≤k∧k≤D∧Q w w1) (fun cv _=>D-(intOf cv).toNat)
  case atStart=>exact⟨a+1,congrArg (Value.int _) (by omega),by omega,by omega,Q.refl _⟩
  case round=>
   obtain⟨k,rfl,ka,kD,hq⟩:=hrel;rcases Nat.lt_or_ge k (b+1) with hlt|hge
   ·have j1:(k:Int)<(b:Int)+1:=(by omega);have hpk:dg W64 (10^k)≤k+1:=by
     rw[aK aD];exact Nat.lt_of_le_of_lt (Nat.pow_le_pow_left (by decide) k) (Nat.pow_lt_pow_right aD (by omega))
    have hx1:=hx.q hq;have hlt:=aFQ (N:=N) (k:=k);rw[HD.out]at hlt;by_cases hkD:k<D
    ·have hcmp:∃z:Int,cmp N (10^k)=z∧0≤z:=by
      rcases Nat.eq_or_lt_of_le (hlt.1 hkD) with h|h
      ·exact⟨0,by rw[h];exact cmp_eq _,by omega⟩
      ·exact⟨1,jS h,by omega⟩
     obtain⟨z,hz,hz0⟩:=hcmp;have hcmp:=hZ hz;clear hz hlt;have hz1:(0:Int)≤z:=hz0;go_wp2_with fail
     refine (qR k _ _ rfl (by rw[aC];omega)).mono ?_;rintro e w2 ⟨v,rfl,hv,hq2,-⟩;go_wp2_with fail
     refine (bM _ _ N (10^k) _ (hx1.q hq2) hv (by rw[HL.out,aC];omega) (by rw[aC];omega)).mono ?_;rintro e w3 ⟨rfl,hq3⟩;rw[hcmp.out];have hq':=(hq.trans hq2).trans hq3;go_wp2_with fail
     exact⟨⟨k+1,congrArg (Value.int _) (by omega),by omega,by omega,hq'⟩,by simp[intOf];omega⟩
    ·have hcmp:cmp N (10^k)=-1:=jR (by have:=fun h=>hkD (hlt.2 h);omega);have hcmp:=hZ hcmp;clear hlt;obtain rfl:k=D:=(by omega);go_wp2_with fail
     refine (qR k _ _ rfl (by rw[aC];omega)).mono ?_;rintro e w2 ⟨v,rfl,hv,hq2,-⟩;go_wp2_with fail
     refine (bM _ _ N (10^k) _ (hx1.q hq2) hv (by rw[HL.out,aC];omega) (by rw[aC];omega)).mono ?_;rintro e w3 ⟨rfl,hq3⟩;rw[hcmp.out];have hq':=(hq.trans hq2).trans hq3;go_wp2_with fail
     go_ret
     exact⟨rfl,hq'⟩
   ·have j1:¬(k:Int)<(b:Int)+1:=(by omega);obtain rfl:k=D:=(by omega);go_wp2_with fail
    go_ret
    exact⟨rfl,hq⟩
structure Fd (l:List UInt8) (n pos j p u:Nat) (zs:List Nat):Prop where
 lz:zs.length=n
 mz:∀d∈zs,d<W64
 val:dv (l.take pos)=vl W64 zs*u+p
 pu:p<u
 hu:u=10^j
 hj:j<19
theorem Fd.fits{l:List UInt8}{n pos j p u:Nat}{zs:List Nat}(h:Fd l n pos j p u zs)(hl:bP l)(hn:l.length/19+1=n):u*vl W64 zs+p<W64^n:=by
 have h1:=aEm (hl.take pos);rw[h.val,Nat.mul_comm]at h1;have h2:10^(l.take pos).length≤10^l.length:=Nat.pow_le_pow_right (by decide) (by rw[List.length_take];omega);have h3:=aBe l.length;rw[hn]at h3;exact Nat.lt_of_lt_of_le h1 (Nat.le_trans h2 (Nat.le_of_lt h3))
theorem Fd.start{l:List UInt8}(n:Nat):Fd l n 0 0 0 1 (List.replicate n 0):=⟨by simp,jI (by decide),by simp[kM,dv],by decide,rfl,by decide⟩
theorem Fd.digit{l:List UInt8}{n pos j p u d:Nat}{zs:List Nat}(h:Fd l n pos j p u zs){c:UInt8}(hc:l[pos]? =some c)(hd:c.toNat-48=d)(hd9:d<10):
  dv (l.take (pos+1))=vl W64 zs*(10*u)+(10*p+d)∧10*p+d<10*u∧10*u=10^(j+1)∧10*u≤10000000000000000000:=by
 obtain⟨hi,rfl⟩:=List.getElem?_eq_some_iff.1 hc;have h1:=aFS h.val h.pu hd9;refine⟨?_,h1.2,by rw[h.hu,Nat.pow_succ,Nat.mul_comm],?_⟩
 ·rw[aBb hi,hd];exact h1.1
 ·have:=h.hj;rw[h.hu,Nat.mul_comm,←Nat.pow_succ];exact wD (by omega)
theorem Fd.flush{l:List UInt8}{n pos j p u c:Nat}{zs o:List Nat}(h:Fd l n pos j p u zs)(hl:bP l)(hn:l.length/19+1=n)(_:o.length=n)(_:∀d∈o,d<W64)(hv:vl W64 o+W64^n*c=u*vl W64 zs+p):
  vl W64 o=dv (l.take pos):=by
 have hf:=h.fits hl hn;have hc:c=0:=by
  rcases Nat.eq_zero_or_pos c with h0|h0
  ·exact h0
  ·exfalso;have:W64^n*1≤W64^n*c:=Nat.mul_le_mul_left _ h0;omega
 rw[hc,Nat.mul_zero,Nat.add_zero]at hv;rw[hv,h.val,Nat.mul_comm]
set_option maxRecDepth 1000000 in
theorem fO(s:ByteArray)(w:World)(hd:bP s.data.toList)(hs:s.size+100≤LIM):
  Calls Tryz.prog 221 #[.string s] w (eQ (dv s.data.toList) w):=by
 rw[aC]at hs;obtain⟨n,hn⟩:∃n,s.size/19+1=n:=⟨_,rfl⟩
 have hmk:=iH n ((s.size:Int)/19+1) (by omega) (by rw[aC];omega);have hn':s.data.toList.length/19+1=n:=by rw[uJ];exact hn
 have hnL:n≤1099511627776:=by omega
 have HN:=hZ hn';have HD:=hZ hd;have HM:=hZ hn;clear hn hn' hd;go_enter Tryz.func221,Tryz.ntmps221
 go_wp2_with fail
 have hq0:Q w ((w.alloc (.cells (zs .u64 n) 127)).iter s 0):=((Q.refl w).alloc _).alloc _;have hb0:Blk .u64 ((w.alloc (.cells (zs .u64 n) 127)).iter s 0) w.heap.size 127 (List.replicate n 0):=(Blk.made w 127 n).alloc _;have hi0:((w.alloc (.cells (zs .u64 n) 127)).iter s 0).heap[w.heap.size+1]? =some (.stringIter s 0):=by
  have h:=World.iter_heap (w.alloc (.cells (zs .u64 n) 127)) s 0
  rwa [World.size_alloc]at h
 generalize (w.alloc (.cells (zs .u64 n) 127)).iter s 0=w0 at*
 go_loopw [4,5] (fun pv uv w1=>∃(pos j p u:Nat) (zs:List Nat),pv=.int .u64 (p:Int)∧uv=.int .u64 (u:Int)∧pos≤s.size∧Hid (Fd s.data.toList n pos j p u zs)∧
     w1.heap[w.heap.size+1]? =some (.stringIter s pos)∧Blk .u64 w1 w.heap.size 127 zs∧Q w w1) (fun _ _ w1=>s.size-w1.iterPos (w.heap.size+1))
 case atStart=>exact⟨0,0,0,1,_,rfl,rfl,by omega,hZ (Fd.start n),hi0,hb0,hq0⟩
 case round=>
  obtain⟨pos,j,p,u,zs,rfl,rfl,hpos,hfd,hit,hbz,hq⟩:=hrel;have so:Src wr w.heap.size 0 (some ⟨w.heap.size,0,none⟩) zs:=by
   have h:=Src.own (off:=0) (n:=n) hbz
   rwa [List.drop_zero,List.take_of_length_le (by rw[hfd.out.lz];exact Nat.le_refl _)]at h
  have hu64:u<W64:=(by rw[hfd.out.hu,bE];have:=wD (k:=j) (by have:=hfd.out.hj;omega);omega);have hp64:p<W64:=Nat.lt_trans hfd.out.pu hu64;have hiter:=iterPos_of hit;by_cases hp:pos<s.size
  ·have hby:=byte_at hp;have hbd:=HD.out _ (List.mem_of_getElem? hby);have hnx:∀ty,(Instr.next (.pointer (some ⟨w.heap.size+1,0,none⟩)) true ty).run Tryz.prog wr=_:=fun ty=>Lib.run_next_ascii_at wr (w.heap.size+1) s pos ty hit hp (by omega);have hitI:=Lib.iterAt_heap wr (w.heap.size+1) s pos (pos+1) hit;have hbzI:Blk .u64 (wr.iterAt (w.heap.size+1) s (pos+1)) w.heap.size 127 zs:=(Lib.iterAt_other wr (w.heap.size+1) w.heap.size s (pos+1) (by omega)).trans hbz;have hqI:Q w (wr.iterAt (w.heap.size+1) s (pos+1)):=Lib.below_iterAt hq (by omega) s (pos+1);generalize s[pos]'hp=b at*
   obtain⟨dd,hdd⟩:∃dd,b.toNat-48=dd:=⟨_,rfl⟩
   obtain⟨d1,d2,d3,d4⟩:=hfd.out.digit hby hdd (by omega);have i1:(b.toNat:Int)-48=(dd:Int):=(by omega);have hdd9:dd≤9:=(by omega);obtain⟨p1,hp1⟩:∃q,10*p=q:=⟨_,rfl⟩
   obtain⟨u2,hu2⟩:∃q,10*u=q:=⟨_,rfl⟩
   rw[hp1]at d1 d2;rw[hu2]at d1 d2 d3 d4;obtain⟨p2,hp2⟩:∃q,p1+dd=q:=⟨_,rfl⟩
   rw[hp2]at d1 d2;have i2:10*(p:Int)=(p1:Int):=(by omega);have i3:10*(u:Int)=(u2:Int):=(by omega);have i4:(p1:Int)+(dd:Int)=(p2:Int):=(by omega);have i5:IntKind.u64.wrap (p1:Int)=(p1:Int):=aP (by omega);have i6:IntKind.u64.wrap (u2:Int)=(u2:Int):=aP (by omega);have i7:IntKind.u64.wrap (p2:Int)=(p2:Int):=aP (by omega);have i8:IntKind.u64.wrap (dd:Int)=(dd:Int):=aP (by omega);have hpW:p2<W64:=(by rw[bE];omega);have huW:u2<W64:=(by rw[bE];omega);have HB:=hZ (And.intro hby hbd);have HDG:=hZ (And.intro d1 (And.intro d2 d3));have HPU:=hZ (And.intro hpW huW);clear hby hdd d1 d2 d3 hp1 hu2 hp2 hbd hpW huW hu64 hp64 hit hbz hq so;generalize wr.iterAt (w.heap.size+1) s (pos+1)=wI at*
   by_cases hj:j+1<19
   ·have hne:((u2:Int) == 10000000000000000000)=false:=by
     rw[beq_eq_false_iff_ne];intro h;have h1:=HDG.out.2.2;have h2:10^(j+1)<10^19:=Nat.pow_lt_pow_right (by decide) hj;have h3:(10:Nat)^19=10000000000000000000:=(by decide);omega
    have HF:Hid (Fd s.data.toList n (pos+1) (j+1) p2 u2 zs):=hZ ⟨hfd.out.lz,hfd.out.mz,HDG.out.1,HDG.out.2.1,HDG.out.2.2,hj⟩;have hiterI:=iterPos_of hitI;go_wp2_with fail
    exact⟨⟨pos+1,j+1,p2,u2,zs,rfl,rfl,by omega,HF,hitI,hbzI,hqI⟩,by rw[hiter,hiterI];omega⟩
   ·have heq:((u2:Int) == 10000000000000000000)=true:=by
     rw[beq_iff_eq];have h1:=HDG.out.2.2;have h0:=hfd.out.hj;have h3:(10:Nat)^19=10000000000000000000:=(by decide);rw[show j+1=19 by omega,h3]at h1;omega
    have soI:Src wI w.heap.size 0 (some ⟨w.heap.size,0,none⟩) zs:=by
     have h:=Src.own (off:=0) (n:=n) hbzI
     rwa [List.drop_zero,List.take_of_length_le (by rw[hfd.out.lz];exact Nat.le_refl _)]at h
    go_wp2_with fail
    refine (uF (some ⟨w.heap.size,0,none⟩) (some ⟨w.heap.size,0,none⟩) n n n n w.heap.size 127 0 u2 p2 zs zs _ hbzI hfd.out.lz (by rw[hfd.out.lz];omega) (fun _=>rfl) (Nat.le_refl _) (Nat.le_refl _) hnL soI hfd.out.mz HPU.out.2 HPU.out.1).mono ?_;rintro e w2 ⟨o,cy,rfl,-,lo,ho,hv,hb2,hg2⟩;have e2:zs.take 0++o++zs.drop (0+n)=o:=by
     rw[List.drop_of_length_le (by rw[hfd.out.lz];omega)];simp
    rw[e2]at hb2;have hfl:vl W64 o=dv (s.data.toList.take (pos+1)):=by
     have hF:Fd s.data.toList n (pos+1) 18 p2 u2 zs∨True:=Or.inr trivial;have hfit:u2*vl W64 zs+p2<W64^n:=by
      have h1:=aEm (HD.out.take (pos+1));rw[HDG.out.1,Nat.mul_comm]at h1;have h2:10^(s.data.toList.take (pos+1)).length≤10^s.data.toList.length:=Nat.pow_le_pow_right (by decide) (by rw[List.length_take];omega);have h3:=aBe s.data.toList.length;rw[HN.out]at h3;exact Nat.lt_of_lt_of_le h1 (Nat.le_trans h2 (Nat.le_of_lt h3))
     have hc:cy=0:=by
      rcases Nat.eq_zero_or_pos cy with h0|h0
      ·exact h0
      ·exfalso;have:W64^n*1≤W64^n*cy:=Nat.mul_le_mul_left _ h0;omega
     rw[hc,Nat.mul_zero,Nat.add_zero]at hv;rw[hv,HDG.out.1,Nat.mul_comm]
    have HF:Hid (Fd s.data.toList n (pos+1) 0 0 1 o):=hZ ⟨lo,ho,by rw[hfl];omega,by decide,rfl,by decide⟩;have hit2:=(Gr.heap hg2 (i:=w.heap.size+1) (by have:=(Array.getElem?_eq_some_iff.1 hitI).1;exact this) (by omega)).trans hitI;have hq2:=Q.gr hqI hg2 (Nat.le_refl _);have hiter2:=iterPos_of hit2;clear e2 hfl hv lo;go_wp2_with fail
    exact⟨⟨pos+1,0,0,1,o,rfl,rfl,by omega,HF,hit2,hb2,hq2⟩,by rw[hiter,hiter2];omega⟩
  ·have hnx:∀ty,(Instr.next (.pointer (some ⟨w.heap.size+1,0,none⟩)) true ty).run Tryz.prog wr=_:=fun ty=>Lib.run_next_end_at wr (w.heap.size+1) s pos ty hit hp;go_wp2_with fail
   refine (uF (some ⟨w.heap.size,0,none⟩) (some ⟨w.heap.size,0,none⟩) n n n n w.heap.size 127 0 u p zs zs _ hbz hfd.out.lz (by rw[hfd.out.lz];omega) (fun _=>rfl) (Nat.le_refl _) (Nat.le_refl _) hnL so hfd.out.mz hu64 hp64).mono ?_;rintro e w2 ⟨o,cy,rfl,-,lo,ho,hv,hb2,hg2⟩;have e2:zs.take 0++o++zs.drop (0+n)=o:=by
    rw[List.drop_of_length_le (by rw[hfd.out.lz];omega)];simp
   rw[e2]at hb2;have hfl:=hfd.out.flush HD.out HN.out lo ho hv;rw[List.take_of_length_le (by rw[uJ];omega)]at hfl;have HFL:=hZ hfl;have hq2:=Q.gr hq hg2 (Nat.le_refl _);clear e2 hfl hv;go_wp2_with fail
   refine (eD _ n n o _ lo (Nat.le_refl _) (by omega) (Rw.of_blk hb2) ho).mono ?_;rintro e w3 ⟨v,rfl,hnm,hnw,rfl⟩;rw[HFL.out]at hnm;go_wp2_with fail
   go_ret
   exact⟨v,rfl,hnm,hq2,hnw _ (Nw.at_ (Nat.le_refl _))⟩
end
end Go.Proofs.YtamnpcdkcdfgaaaGreatDoor
