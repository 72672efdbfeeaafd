/- SymbolKnown holds. No condition. -/
import Derived.Test.YtamnpcdkcdfgaaaGreatDoorQs01
namespace Go.Proofs.YtamnpcdkcdfgaaaGreatDoor
namespace Ma
theorem iX{m:Nat}{a:Int}:(m:Int)∣a↔m∣a.natAbs:=by
 constructor
 ·intro h;have:=Int.natAbs_dvd_natAbs.2 h;simpa using this
 ·intro h;exact Int.natAbs_dvd_natAbs.1 (by simpa using h)
theorem sW{g:Nat}{a b:Int}(h:(g:Int)∣a*b)(h1:Nat.Coprime g a.natAbs)(h2:Nat.Coprime g b.natAbs):g=1:=by
 have h3:g∣a.natAbs*b.natAbs:=by
  rw[←Int.natAbs_mul];exact iX.1 h
 have h4:Nat.Coprime g (a.natAbs*b.natAbs):=Nat.Coprime.mul_right h1 h2;have:=Nat.gcd_eq_left h3;rw[Nat.Coprime]at h4;omega
theorem wE{a b:Int}{m n:Nat}(ha:Nat.Coprime a.natAbs m)(hmn:Nat.Coprime n m):Nat.Coprime (a*n+b*m).natAbs m:=by
 refine sW (g:=Nat.gcd (a*n+b*m).natAbs m) (a:=a) (b:=(n:Int)) ?_ ?_ ?_
 ·have h1:((Nat.gcd (a*n+b*m).natAbs m:Nat):Int)∣a*n+b*m:=iX.2 (Nat.gcd_dvd_left _ _);have h2:((Nat.gcd (a*n+b*m).natAbs m:Nat):Int)∣b*m:=Int.dvd_trans (Int.natCast_dvd_natCast.2 (Nat.gcd_dvd_right _ _)) (Int.dvd_mul_left _ _);have:=Int.dvd_sub h1 h2
  rwa [Int.add_sub_cancel]at this
 ·exact (Nat.Coprime.coprime_dvd_right (Nat.gcd_dvd_right _ _) ha).symm
 ·exact (Nat.Coprime.coprime_dvd_right (Nat.gcd_dvd_right _ _) hmn).symm
theorem aBf{q:Rat}{a:Int}{b:Nat}(hb:0<b)(hc:Nat.Coprime a.natAbs b)(h:a*q.den=q.num*b):q.num=a∧q.den=b:=by
 have h1:q=Rat.mk' a b (by omega) hc:=by
  rw[←Rat.num_divInt_den q,Rat.mk_eq_divInt,Rat.divInt_eq_divInt_iff (by exact Int.natCast_ne_zero.2 q.den_nz) (by omega)];exact h.symm
 rw[h1];exact⟨rfl,rfl⟩
theorem zA{x y:Rat}{d bX bY c:Nat}{t:Int}(hd:Nat.gcd x.den y.den=d)(hbX:x.den/d=bX)(hbY:y.den/d=bY)(ht:x.num*bY+y.num*bX=t)
  (hc:Nat.gcd t.natAbs d=c):(x+y).num=t/c∧(x+y).den=bX*(y.den/c)∧0<d∧0<c∧(c:Int)∣t∧c∣y.den:=by
 have px:0<x.den:=Nat.pos_of_ne_zero x.den_nz;have py:0<y.den:=Nat.pos_of_ne_zero y.den_nz;have hd0:0<d:=by rw[←hd];exact Nat.gcd_pos_of_pos_left _ px
 have hc0:0<c:=by rw[←hc];exact Nat.gcd_pos_of_pos_right _ hd0
 have dx:x.den=bX*d:=by rw[←hbX];exact (Nat.div_mul_cancel (hd▸Nat.gcd_dvd_left _ _)).symm
 have dy:y.den=bY*d:=by rw[←hbY];exact (Nat.div_mul_cancel (hd▸Nat.gcd_dvd_right _ _)).symm
 obtain⟨t',ht'⟩:(c:Int)∣t:=iX.2 (hc▸Nat.gcd_dvd_left _ _);obtain⟨d',hd'⟩:c∣d:=hc▸Nat.gcd_dvd_right _ _
 have hbX0:0<bX:=by rcases Nat.eq_zero_or_pos bX with h|h;·rw[h]at dx;omega
                    ·exact h
 have hbY0:0<bY:=by rcases Nat.eq_zero_or_pos bY with h|h;·rw[h]at dy;omega
                    ·exact h
 have hd'0:0<d':=by rcases Nat.eq_zero_or_pos d' with h|h;·rw[h]at hd';omega
                    ·exact h
 have e1:y.den/c=bY*d':=by rw[dy,hd',Nat.mul_left_comm,Nat.mul_div_cancel_left _ hc0]
 have e2:t/c=t':=by rw[ht',Int.mul_ediv_cancel_left _ (by omega)]
 have cXY:Nat.Coprime bX bY:=by
  have h1:Nat.gcd (bX*d) (bY*d)=d:=(by rw[←dx,←dy];exact hd);rw[Nat.gcd_mul_right]at h1;exact Nat.eq_of_mul_eq_mul_right hd0 (by rw[h1,Nat.one_mul])
 have rx:Nat.Coprime x.num.natAbs bX:=Nat.Coprime.coprime_dvd_right ⟨d,dx⟩ x.reduced;have ry:Nat.Coprime y.num.natAbs bY:=Nat.Coprime.coprime_dvd_right ⟨d,dy⟩ y.reduced;have cX:Nat.Coprime t.natAbs bX:=by rw[←ht];exact wE rx cXY.symm
 have cY:Nat.Coprime t.natAbs bY:=by rw[←ht,Int.add_comm];exact wE ry cXY
 have t'd:t'.natAbs∣t.natAbs:=Int.natAbs_dvd_natAbs.2 ⟨c,by rw[ht',Int.mul_comm]⟩;have cD:Nat.Coprime t'.natAbs d':=by
  have h1:Nat.gcd (c*t'.natAbs) (c*d')=c:=by
   rw[←hd',show c*t'.natAbs=t.natAbs by rw[ht',Int.natAbs_mul];simp];exact hc
  rw[Nat.gcd_mul_left]at h1;exact Nat.eq_of_mul_eq_mul_left hc0 (by rw[h1,Nat.mul_one])
 rw[e1,e2];have key:=aBf (q:=x+y) (a:=t') (b:=bX*(bY*d')) (Nat.mul_pos hbX0 (Nat.mul_pos hbY0 hd'0))
  (Nat.Coprime.mul_right (Nat.Coprime.coprime_dvd_left t'd cX) (Nat.Coprime.mul_right (Nat.Coprime.coprime_dvd_left t'd cY) cD)) (by
   have h1:(x+y)=Rat.divInt (x.num*y.den+y.num*x.den) (x.den*y.den):=by
    rw[←Rat.num_divInt_den x,←Rat.num_divInt_den y,Rat.divInt_add_divInt _ _ (by omega) (by omega)];simp
   have h2:=Rat.num_divInt_den (x+y);have h2b:Rat.divInt (x+y).num ((x+y).den:Int)=Rat.divInt (x.num*y.den+y.num*x.den) (x.den*y.den):=h2.trans h1;have h3:=(Rat.divInt_eq_divInt_iff (by exact Int.natCast_ne_zero.2 (x+y).den_nz) (by exact Int.mul_ne_zero (by omega) (by omega))).1 h2b
   --(x+y).num*(x.den*y.den)=(..)*(x+y).den
   have h4:((x.den:Nat):Int)=bX*(c*d'):=(by rw[dx,hd'];simp);have h5:((y.den:Nat):Int)=bY*(c*d'):=(by rw[dy,hd'];simp);rw[h4,h5]at h3;have hcd:((c:Int)*d')≠0:=Int.mul_ne_zero (by omega) (by omega);have h6:(c:Int)*d'*(c*(t'*((x+y).den:Int)))=(c:Int)*d'*(c*((x+y).num*((bX*(bY*d'):Nat):Int))):=by
    have:(c:Int)*t'=x.num*bY+y.num*bX:=(by rw[←ht',ht]);simp only[Int.natCast_mul];grind
   have h7:=Int.eq_of_mul_eq_mul_left hcd h6;exact Int.eq_of_mul_eq_mul_left (by omega) h7)
 exact⟨key.1,key.2,hd0,hc0,⟨t',ht'⟩,⟨bY*d',by rw[dy,hd',Nat.mul_left_comm]⟩⟩
theorem aJY{x y:Rat}{g h:Nat}(hg:Nat.gcd x.num.natAbs y.den=g)(hh:Nat.gcd y.num.natAbs x.den=h):
  (x*y).num=(x.num/g)*(y.num/h)∧(x*y).den=(x.den/h)*(y.den/g):=by
 have px:0<x.den:=Nat.pos_of_ne_zero x.den_nz;have py:0<y.den:=Nat.pos_of_ne_zero y.den_nz;have hg0:0<g:=by rw[←hg];exact Nat.gcd_pos_of_pos_right _ py
 have hh0:0<h:=by rw[←hh];exact Nat.gcd_pos_of_pos_right _ px
 obtain⟨n,hn⟩:(g:Int)∣x.num:=iX.2 (hg▸Nat.gcd_dvd_left _ _);obtain⟨m,hm⟩:(h:Int)∣y.num:=iX.2 (hh▸Nat.gcd_dvd_left _ _);obtain⟨e,he⟩:g∣y.den:=hg▸Nat.gcd_dvd_right _ _;obtain⟨f,hf⟩:h∣x.den:=hh▸Nat.gcd_dvd_right _ _;have e1:x.num/g=n:=by rw[hn,Int.mul_ediv_cancel_left _ (by omega)]
 have e2:y.num/h=m:=by rw[hm,Int.mul_ediv_cancel_left _ (by omega)]
 have e3:x.den/h=f:=by rw[hf,Nat.mul_div_cancel_left _ hh0]
 have e4:y.den/g=e:=by rw[he,Nat.mul_div_cancel_left _ hg0]
 have he0:0<e:=by rcases Nat.eq_zero_or_pos e with h|h;·rw[h]at he;omega
                  ·exact h
 have hf0:0<f:=by rcases Nat.eq_zero_or_pos f with h|h;·rw[h]at hf;omega
                  ·exact h
 have nx:x.num.natAbs=g*n.natAbs:=by rw[hn,Int.natAbs_mul];simp
 have ny:y.num.natAbs=h*m.natAbs:=by rw[hm,Int.natAbs_mul];simp
 have c1:Nat.Coprime n.natAbs e:=by
  rw[nx,he,Nat.gcd_mul_left]at hg;exact Nat.eq_of_mul_eq_mul_left hg0 (by rw[hg,Nat.mul_one])
 have c2:Nat.Coprime m.natAbs f:=by
  rw[ny,hf,Nat.gcd_mul_left]at hh;exact Nat.eq_of_mul_eq_mul_left hh0 (by rw[hh,Nat.mul_one])
 have c3:Nat.Coprime n.natAbs f:=Nat.Coprime.coprime_dvd_left ⟨g,by rw[nx,Nat.mul_comm]⟩ (Nat.Coprime.coprime_dvd_right ⟨h,by rw[hf,Nat.mul_comm]⟩ x.reduced);have c4:Nat.Coprime m.natAbs e:=Nat.Coprime.coprime_dvd_left ⟨h,by rw[ny,Nat.mul_comm]⟩ (Nat.Coprime.coprime_dvd_right ⟨g,by rw[he,Nat.mul_comm]⟩ y.reduced);rw[e1,e2,e3,e4];refine aBf (Nat.mul_pos hf0 he0) ?_ ?_
 ·rw[Int.natAbs_mul];exact Nat.Coprime.mul_left (Nat.Coprime.mul_right c3 c1) (Nat.Coprime.mul_right c2 c4)
 ·have h1:(x*y)=Rat.divInt (x.num*y.num) (x.den*y.den):=by
   rw[←Rat.num_divInt_den x,←Rat.num_divInt_den y,Rat.divInt_mul_divInt];simp
  have h2b:Rat.divInt (x*y).num ((x*y).den:Int)=Rat.divInt (x.num*y.num) (x.den*y.den):=(Rat.num_divInt_den (x*y)).trans h1;have h3:=(Rat.divInt_eq_divInt_iff (by exact Int.natCast_ne_zero.2 (x*y).den_nz) (by exact Int.mul_ne_zero (by omega) (by omega))).1 h2b;have h4:((x.den:Nat):Int)=h*f:=(by rw[hf];simp);have h5:((y.den:Nat):Int)=g*e:=(by rw[he];simp);have h8:(x*y).num*((h:Int)*f*(g*e))=h*m*(g*n)*((x*y).den:Int):=(by rw[←h4,←h5,←hn,←hm,h3];grind);have hcd:((g:Int)*h)≠0:=Int.mul_ne_zero (by omega) (by omega);refine Int.eq_of_mul_eq_mul_left hcd ?_;simp only[Int.natCast_mul];grind
theorem three{b:Nat}{ds:List Nat}{k:Nat}(h:ds.length=k+3):vl b (ds.drop k)=ds[k]'(by omega)+b*(ds[k+1]'(by omega)+b*ds[k+2]'(by omega)):=by
 rw[iB b (show k<ds.length by omega),wJ (n:=k+1) (by omega)]
theorem guess_parts'{b h:Nat}(hb:b=18446744073709551616)(hh:h=9223372036854775808){k:Nat}{ys ps:List Nat}(ly:ys.length=k+2)(lp:ps.length=k+3)(hy:∀d∈ys,d<b)(hp:∀d∈ps,d<b)(hP:vl b ps<vl b ys*b)(hn:b^(k+2)≤2*vl b ys):∃v y2 pn pm p2:Nat,ys[k+1]? =some v∧ys[k]? =some y2∧ps[k+2]? =some pn∧ps[k+1]? =some pm∧ps[k]? =some p2∧v<b∧y2<b∧pn<b∧pm<b∧p2<b∧h≤v∧(v≤pn→vl b ps/vl b ys≤(b-1)∧(b-1)≤vl b ps/vl b ys+1)∧
   (pn<v→∀g,g=((pn*b+pm)*b+p2)/(v*b+y2)→vl b ps/vl b ys≤g∧g≤vl b ps/vl b ys+1):=by
 have hb1:1<b:=by omega
 have hbh:b=2*h:=by omega
 have m0:=hy _ (List.getElem_mem (show k<ys.length by omega));have m1:=hy _ (List.getElem_mem (show k+1<ys.length by omega));have q0:=hp _ (List.getElem_mem (show k<ps.length by omega));have q1:=hp _ (List.getElem_mem (show k+1<ps.length by omega));have q2:=hp _ (List.getElem_mem (show k+2<ps.length by omega));have eY:=bI b k ys (by omega);have eP:=bI b k ps (by omega);have lY:=cK (aR (n:=k) hy);have lP:=cK (aR (n:=k) hp);rw[List.length_take,Nat.min_eq_left (by omega)]at lY lP;rw[wJ ly]at eY;rw[three lp]at eP;refine⟨_,_,_,_,_,List.getElem?_eq_getElem (by omega),List.getElem?_eq_getElem (by omega),List.getElem?_eq_getElem (by omega),List.getElem?_eq_getElem (by omega),List.getElem?_eq_getElem (by omega),m1,m0,q2,q1,q0,?_⟩;generalize ys[k]=y2 at*
 generalize ys[k+1]=v at*
 generalize ps[k]=p2 at*
 generalize ps[k+1]=pm at*
 generalize ps[k+2]=pn at*
 generalize vl b (ys.take k)=yl at*
 generalize vl b (ps.take k)=pl at*
 generalize vl b ys=Y at*
 generalize vl b ps=P at*
 have hB:0<b^k:=Nat.pow_pos (by omega);rw[Nat.pow_add]at hn;generalize b^k=B at*
 have eY':Y=(v*b+y2)*B+yl:=by rw[eY];grind
 have eP':P=((pn*b+pm)*b+p2)*B+pl:=by rw[eP];grind
 have hv:h≤v:=by
  rcases Nat.lt_or_ge v h with h1|h1
  ·exfalso;have a1:2*(v+1)≤b:=(by omega);have a2:(v*b+y2)*B+yl<(v+1)*b*B:=by
    have:(v+1)*b*B=(v*b+b)*B:=(by grind);have a3:(v*b+y2+1)*B≤(v*b+b)*B:=Nat.mul_le_mul_right _ (by omega);rw[Nat.add_mul _ 1,Nat.one_mul]at a3;omega
   have a3:2*(v+1)*(b*B)≤b*(b*B):=Nat.mul_le_mul_right _ a1;have a4:B*b^2=b*(b*B):=(by grind);have a5:2*(v+1)*(b*B)=2*((v+1)*b*B):=(by grind);omega
  ·exact h1
 refine⟨hv,fun hpn=>?_,fun hpn g hg=>?_⟩
 ·have key:=aFK (P:=P) (v:=v) (B:=b*B) (y:=y2*B+yl) (by rw[←hh];exact hv) (by
   have a3:(y2+1)*B≤b*B:=Nat.mul_le_mul_right _ (by omega);rw[Nat.add_mul,Nat.one_mul]at a3;omega) (by rw[←hb,show v*(b*B)+(y2*B+yl)=Y by rw[eY'];grind];exact hP) (by
   rw[←hb];have a1:v*(b*B*b)≤pn*(b*B*b):=Nat.mul_le_mul_right _ hpn;have a2:P=pn*(b*B*b)+(pm*b*B+p2*B+pl):=(by rw[eP'];grind);omega)
  rw[show v*(b*B)+(y2*B+yl)=Y by rw[eY'];grind,show (18446744073709551615:Nat)=b-1 by omega]at key;exact key
 ·rw[eY',eP',hg];refine aFJ ?_ lP lY ?_
  ·rw[←hb,←hh];have:=Nat.mul_le_mul_right b hv;omega
  ·rw[←hb];have I:=Gw.init (pn:=pn) (pm:=pm) (v:=v) (y2:=y2) (p2:=p2) hpn (by rw[←hb];exact m1) (by rw[←hb];exact q1) (by rw[←hb];exact q0);rw[←hb]at I;have i1:=I.ge;have i2:=I.gl;rw[←hb]at i1 i2;exact Nat.lt_of_le_of_lt i1 i2
theorem aCS{k:Nat}{ys ps:List Nat}(ly:ys.length=k+2)(lp:ps.length=k+3)(hy:∀d∈ys,d<18446744073709551616)(hp:∀d∈ps,d<18446744073709551616)(hP:vl 18446744073709551616 ps<vl 18446744073709551616 ys*18446744073709551616)(hn:18446744073709551616^(k+2)≤2*vl 18446744073709551616 ys):∃v y2 pn pm p2:Nat,ys[k+1]? =some v∧ys[k]? =some y2∧ps[k+2]? =some pn∧ps[k+1]? =some pm∧ps[k]? =some p2∧v<18446744073709551616∧y2<18446744073709551616∧pn<18446744073709551616∧pm<18446744073709551616∧p2<18446744073709551616∧9223372036854775808≤v∧(v≤pn→vl 18446744073709551616 ps/vl 18446744073709551616 ys≤18446744073709551615∧18446744073709551615≤vl 18446744073709551616 ps/vl 18446744073709551616 ys+1)∧(pn<v→∀g,g=((pn*18446744073709551616+pm)*18446744073709551616+p2)/(v*18446744073709551616+y2)→vl 18446744073709551616 ps/vl 18446744073709551616 ys≤g∧g≤vl 18446744073709551616 ps/vl 18446744073709551616 ys+1):=
 guess_parts' rfl rfl ly lp hy hp hP hn
theorem aCT{cs o:List Nat}{i n:Nat}(lo:o.length=n)(h:i+n≤cs.length):(cs.take i++o++cs.drop (i+n)).take i=cs.take i∧(cs.take i++o++cs.drop (i+n)).drop (i+n)=cs.drop (i+n)∧((cs.take i++o++cs.drop (i+n)).drop i).take n=o:=by
 have lt:(cs.take i).length=i:=by rw[List.length_take];omega
 refine⟨?_,?_,?_⟩
 ·rw[List.append_assoc,List.take_append_of_le_length (by omega),List.take_of_length_le (by omega)]
 ·rw[List.drop_append_of_le_length (by rw[List.length_append];omega),List.drop_of_length_le (by rw[List.length_append];omega),List.nil_append]
 ·rw[List.append_assoc,List.drop_append_of_le_length (by omega),List.drop_of_length_le (by omega),List.nil_append,List.take_append_of_le_length (by omega),List.take_of_length_le (by omega)]
theorem qC{cs o:List Nat}{i n K:Nat}(lo:o.length=n)(lc:cs.length=K)(h:i+n+1≤K)(hz:cs.drop (i+1+n)=List.replicate (K-(i+1+n)) 0):
  (cs.take i++o++cs.drop (i+n)).set (i+n) 0=cs.take i++o++List.replicate (K-(i+n)) 0:=by
 have lt:(cs.take i).length=i:=by rw[List.length_take];omega
 rw[List.set_append_right _ _ (by rw[List.length_append];omega),List.length_append,lt,lo,Nat.sub_self];congr 1;rw[List.drop_eq_getElem_cons (by omega),List.set_cons_zero,show i+n+1=i+1+n by omega,hz,show K-(i+n)=K-(i+1+n)+1 by omega,List.replicate_succ]
theorem aAf{b:Nat}{cs:List Nat}{i n K:Nat}(lc:cs.length=K)(h:i+n+1≤K)(hz:cs.drop (i+1+n)=List.replicate (K-(i+1+n)) 0):
  vl b cs=vl b (cs.take i)+b^i*vl b ((cs.drop i).take (n+1)):=by
 rw[bI b i cs (by omega)];congr 2;rw[bI b (n+1) (cs.drop i) (by rw[List.length_drop];omega),List.drop_drop,show i+(n+1)=i+1+n by omega,hz,kM,Nat.mul_zero,Nat.add_zero]
theorem aJZ{b:Nat}{cs:List Nat}{i n K M:Nat}(hb:2≤b)(lc:cs.length=K)(h:i+n+1≤K)(hz:cs.drop (i+1+n)=List.replicate (K-(i+1+n)) 0)
  (hlt:vl b cs<M*b^(i+1)):vl b ((cs.drop i).take (n+1))<M*b:=by
 rw[aAf lc h hz]at hlt;have hp:0<b^i:=Nat.pow_pos (by omega);generalize vl b ((cs.drop i).take (n+1))=P at*
 generalize vl b (cs.take i)=L at*
 have e:M*b^(i+1)=b^i*(M*b):=by rw[Nat.pow_succ];grind
 rw[e]at hlt;exact Nat.lt_of_mul_lt_mul_left (a:=b^i) (by omega)
theorem aHP{b:Nat}{cs:List Nat}{i n K:Nat}(lc:cs.length=K)(h:i+n+1≤K):
  vl b ((cs.drop i).take (n+1))=vl b ((cs.drop i).take n)+b^n*cs[i+n]'(by omega):=by
 have hl:n<(cs.drop i).length:=by rw[List.length_drop];omega
 rw[fH b hl];congr 2;rw[List.getElem_drop]
theorem aAg{b:Nat}{cs o qs:List Nat}{i n K M X q:Nat}(hb:2≤b)(hM:0<M)(lc:cs.length=K)(h:i+n+1≤K)(hz:cs.drop (i+1+n)=List.replicate (K-(i+1+n)) 0)(hcs:∀d∈cs,d<b)(hX:vl b (qs.drop (i+1))*b^(i+1)*M+vl b cs=X)(hqi:i<qs.length)(lo:o.length=n)(ho:∀d∈o,d<b)(hv:vl b o=vl b ((cs.drop i).take (n+1)) % M)(hq:vl b ((cs.drop i).take (n+1))/M=q):(cs.take i++o++List.replicate (K-(i+n)) 0).length=K∧(cs.take i++o++List.replicate (K-(i+n)) 0).drop (i+n)=List.replicate (K-(i+n)) 0∧(∀d∈cs.take i++o++List.replicate (K-(i+n)) 0,d<b)∧vl b (cs.take i++o++List.replicate (K-(i+n)) 0)<M*b^i∧
  vl b ((qs.set i q).drop i)*b^i*M+vl b (cs.take i++o++List.replicate (K-(i+n)) 0)=X:=by
 have lt:(cs.take i).length=i:=by rw[List.length_take];omega
 have ev:vl b (cs.take i++o++List.replicate (K-(i+n)) 0)=vl b (cs.take i)+b^i*vl b o:=by rw[pY,dY,lt]
 have hl:=cK (aR (n:=i) hcs);rw[lt]at hl;have hm:=Nat.mod_lt (vl b ((cs.drop i).take (n+1))) hM;have hd:=Nat.div_add_mod (vl b ((cs.drop i).take (n+1))) M;have ep:=aAf (b:=b) lc h hz;rw[hq,←hv]at hd;rw[←hv]at hm;refine⟨by rw[List.length_append,List.length_append,List.length_replicate];omega,?_,?_,?_,?_⟩
 ·rw[List.drop_append_of_le_length (by rw[List.length_append];omega),List.drop_of_length_le (by rw[List.length_append];omega),List.nil_append]
 ·exact uR (by omega) (gQ (aR hcs) ho)
 ·rw[ev];have h1:b^i*(vl b o+1)≤b^i*M:=Nat.mul_le_mul_left _ hm;rw[Nat.mul_add,Nat.mul_one]at h1;rw[Nat.mul_comm M];omega
 ·rw[ev,iB b (ds:=qs.set i q) (by rw[List.length_set];exact hqi),List.getElem_set_self,drop_set (by omega),←hX,ep,←hd,Nat.pow_succ];grind
def fl(k:Int)(N D:Nat):Nat:=N*2^(-k).toNat/(D*2^k.toNat)
def fr(k:Int)(N D:Nat):Nat:=N*2^(-k).toNat % (D*2^k.toNat)
theorem sZ{N:Nat}(h:0<N):1≤bl N∧2^(bl N-1)≤N∧N<2^bl N:=by
 have h0:1≤bl N:=by rw[jU h];omega
 exact⟨h0,(fQ _ _).1 (by omega),(bF _ _).1 (Nat.le_refl _)⟩
def rsh(b N D:Nat):Int:=if b<bl (fl ((bl N:Int)-bl D-b) N D) then (bl N:Int)-bl D-b+1 else (bl N:Int)-bl D-b
theorem aLK{t s b:Nat}(h:b<2^s):t*2^s |||b=t*2^s+b:=by
 rw[Nat.mul_comm,←Nat.two_pow_add_eq_or_of_lt h]
theorem top_word'{W:Nat}(hW:W=2^64){k s t a:Nat}{ds:List Nat}(l:ds.length=k+2)(hd:∀d∈ds,d<W)(hs:s≤64)(ht:ds[k+1]? =some t)(ha:ds[k]? =some a)(hts:t*2^s<W):vl W ds/(W^k*2^(64-s))=t*2^s+a/2^(64-s)∧(t*2^s) |||(a/2^(64-s))=t*2^s+a/2^(64-s)∧
   t*2^s+a/2^(64-s)<W:=by
 obtain⟨h1,rfl⟩:=List.getElem?_eq_some_iff.1 ht;obtain⟨h0,rfl⟩:=List.getElem?_eq_some_iff.1 ha;have ba:=hd _ (List.getElem_mem h0);have hv:=pG (b:=W) (n:=k) (xs:=ds) (by rw[hW];decide) (by omega) hd;rw[wJ l]at hv;have hWs:W=2^s*2^(64-s):=by rw[←Nat.pow_add,show s+(64-s)=64 by omega,hW]
 have hf:0<2^s:=Nat.pow_pos (by decide);have hg:0<2^(64-s):=Nat.pow_pos (by decide);have hb:ds[k] / 2^(64-s)<2^s:=by rw[Nat.div_lt_iff_lt_mul hg,←hWs];exact ba
 refine⟨?_,aLK hb,?_⟩
 ·rw[←Nat.div_div_eq_div_mul,←hv,hWs];have e:ds[k]+2^s*2^(64-s)*ds[k+1]=ds[k]+2^(64-s)*(ds[k+1]*2^s):=by
   congr 1;rw[Nat.mul_comm (2^s),Nat.mul_assoc,Nat.mul_comm (2^s)]
  rw[e,Nat.add_mul_div_left _ _ hg,Nat.add_comm]
 ·generalize 2^s=f at*
  generalize 2^(64-s)=g at*
  generalize ds[k+1]=t at*
  have h2:t<g:=by
   rw[hWs,Nat.mul_comm f]at hts;exact Nat.lt_of_mul_lt_mul_right hts
  have h3:(t+1)*f≤g*f:=Nat.mul_le_mul_right _ h2;rw[Nat.add_mul,Nat.one_mul]at h3;rw[hWs,Nat.mul_comm f g];omega
theorem aBg{k s t a:Nat}{ds:List Nat}(l:ds.length=k+2)(hd:∀d∈ds,d<18446744073709551616)(hs:s≤64)(ht:ds[k+1]? =some t)(ha:ds[k]? =some a)(hts:t*2^s<18446744073709551616):vl 18446744073709551616 ds/(18446744073709551616^k*2^(64-s))=t*2^s+a/2^(64-s)∧(t*2^s) |||(a/2^(64-s))=t*2^s+a/2^(64-s)∧t*2^s+a/2^(64-s)<18446744073709551616:=
 top_word' rfl l hd hs ht ha hts
theorem zB(x:Rat):(x.num:Rat)=x*(x.den:Rat):=by
 have h:=Rat.num_divInt_den x;rw[Rat.divInt_eq_div,Rat.intCast_natCast]at h;have h0:(x.den:Rat)≠0:=by
  intro h1;exact x.den_nz (Rat.natCast_eq_zero_iff.1 h1)
 have h2:=Rat.div_mul_cancel (a:=(x.num:Rat)) h0;rw[h]at h2;exact h2.symm
theorem rat_of'{q:Rat}{a:Int}{b:Nat}(hb:0<b)(hc:Nat.Coprime a.natAbs b)(h:q*(b:Rat)=(a:Rat)):q.num=a∧q.den=b:=by
 refine aBf hb hc ?_;have h1:=zB q;have h2:((a*q.den:Int):Rat)=((q.num*b:Int):Rat):=by
  rw[Rat.intCast_mul,Rat.intCast_mul,Rat.intCast_natCast,Rat.intCast_natCast,h1,←h];grind
 exact Rat.intCast_inj.1 h2
def pw(s:Int):Rat:=(2:Rat)^s
theorem aAh{y:Rat}{A B:Nat}(hB:0<B)(h:y*(B:Rat)=(A:Rat)):y.floor=((A/B:Nat):Int)∧(-y).floor=-((A/B+if A % B=0 then 0 else 1:Nat):Int)∧(A % B=0→y=((A/B:Nat):Rat)):=by
 have hb:(0:Rat)<(B:Rat):=Rat.natCast_pos.2 hB;have hd:=Nat.div_add_mod A B;have hm:=Nat.mod_lt A hB;have toR:∀a b:Int,a*B≤b→((a:Rat))*(B:Rat)≤(b:Rat):=by
  intro a b h1;have:=Rat.intCast_le_intCast.2 h1
  rwa [Rat.intCast_mul,Rat.intCast_natCast]at this
 have le_iff:∀z:Int,(z:Rat)≤y↔z*B≤A:=by
  intro z;constructor
  ·intro h1;have h2:=Rat.mul_le_mul_of_nonneg_right h1 (Rat.le_of_lt hb);rw[h,←Rat.intCast_natCast,←Rat.intCast_natCast,←Rat.intCast_mul]at h2;exact Rat.intCast_le_intCast.1 h2
  ·intro h1;have h2:=Rat.intCast_le_intCast.2 h1;rw[Rat.intCast_mul,Rat.intCast_natCast,Rat.intCast_natCast,←h]at h2;exact Rat.le_of_mul_le_mul_right h2 hb
 have ge_iff:∀z:Int,y≤(z:Rat)↔(A:Int)≤z*B:=by
  intro z;constructor
  ·intro h1;have h2:=Rat.mul_le_mul_of_nonneg_right h1 (Rat.le_of_lt hb);rw[h,←Rat.intCast_natCast,←Rat.intCast_natCast,←Rat.intCast_mul]at h2;exact Rat.intCast_le_intCast.1 h2
  ·intro h1;have h2:=Rat.intCast_le_intCast.2 h1;rw[Rat.intCast_mul,Rat.intCast_natCast,Rat.intCast_natCast,←h]at h2;exact Rat.le_of_mul_le_mul_right h2 hb
 have key1:∀q:Nat,A/B=q→((q:Int)*B≤A∧(A:Int)<(q+1)*B):=by
  intro q hq;rw[hq]at hd;have e1:((B*q:Nat):Int)=(q:Int)*B:=(by rw[Int.natCast_mul,Int.mul_comm]);rw[Int.add_mul,Int.one_mul];omega
 obtain⟨q,hq⟩:∃q,A/B=q:=⟨_,rfl⟩
 obtain⟨k1,k2⟩:=key1 q hq;rw[hq]at hd⊢;refine⟨?_,?_,?_⟩
 ·apply Int.le_antisymm
  ·have h1:y.floor<(q:Int)+1:=by
    rw[Rat.floor_lt_iff];refine Rat.not_le.1 fun h2=>?_;have:=(le_iff _).1 h2;omega
   omega
  ·rw[Rat.le_floor_iff];exact (le_iff _).2 k1
 ·obtain⟨z,hz⟩:∃z:Nat,(q+if A % B=0 then 0 else 1)=z:=⟨_,rfl⟩
  rw[hz];have z1:(A:Int)≤(z:Int)*B∧((z:Int)-1)*B<A:=by
   have e1:((B*q:Nat):Int)=(q:Int)*B:=(by rw[Int.natCast_mul,Int.mul_comm]);split at hz
   ·have:(z:Int)=q:=(by omega);rw[this,Int.sub_mul,Int.one_mul];omega
   ·have:(z:Int)=q+1:=(by omega);rw[this,Int.add_mul,Int.one_mul,show (q:Int)+1-1=q by omega];omega
  apply Int.le_antisymm
  ·have h1:(-y).floor< -(z:Int)+1:=by
    rw[Rat.floor_lt_iff];refine Rat.not_le.1 fun h2=>?_;have h3:y≤(((z:Int)-1:Int):Rat):=by
     have e:((-(z:Int)+1:Int):Rat)=-(((z:Int)-1:Int):Rat):=by
      rw[←Rat.intCast_neg];congr 1;omega
     rw[e]at h2;grind
    have:=(ge_iff _).1 h3;omega
   omega
  ·rw[Rat.le_floor_iff];have:=(ge_iff _).2 z1.1;rw[Rat.intCast_neg];grind
 ·intro h0;have h1:A=q*B:=(by rw[h0]at hd;rw[Nat.mul_comm];omega);rw[h1,Rat.natCast_mul]at h;have hb':(B:Rat)≠0:=(by intro h2;rw[h2]at hb;exact absurd hb (by decide));have h3:y*(B:Rat)/(B:Rat)=(q:Rat)*(B:Rat)/(B:Rat):=by rw[h]
  rwa [Rat.mul_div_cancel hb',Rat.mul_div_cancel hb']at h3
def ulp(b:Nat)(x:Rat):Int:=rsh b x.num.natAbs x.den
def dn(b:Nat)(x:Rat):Rat:=if x=0 then 0 else ((x*pw (-ulp b x)).floor:Rat)*pw (ulp b x)
def up(b:Nat)(x:Rat):Rat:=-dn b (-x)
theorem den_pos(x:Rat):0<x.den:=Nat.pos_of_ne_zero x.den_nz
theorem nE{x:Rat}(h:0<x):0<x.num:=by
 have h1:0≤x.num:=Rat.num_nonneg.2 (Rat.le_of_lt h);have h2:x.num≠0:=fun h3=>by rw[Rat.num_eq_zero]at h3;rw[h3]at h;exact absurd h (by decide)
 omega
theorem uT{x:Rat}(h:x<0):x.num<0:=by
 have h1:¬0≤x.num:=fun h2=>Rat.not_le.2 h (Rat.num_nonneg.1 h2);omega
theorem aEn{x:Rat}(h:0<x):∃N:Nat,x.num=N∧0<N∧x.num.natAbs=N:=⟨x.num.toNat,by have:=nE h;omega,by have:=nE h;omega,by have:=nE h;omega⟩
structure Near (n:Nat) (x:Rat):Prop where
 n1:dn n x≤dn (n+1) x
 n2:dn (n+1) x≤x
 n3:x≤up (n+1) x
 n4:up (n+1) x≤up n x
 n5:dn n x=up n x→dn n x=x
 n6:dn n x≠up n x→dn n x<x∧x<up n x∧dn n ((dn n x+up n x)*(1/2))=dn n x∧up n ((dn n x+up n x)*(1/2))=up n x∧dn n (dn n x)=dn n x∧up n (up n x)=up n x
def sn(x:Rat):Int:=if x<0 then -1 else if x=0 then 0 else 1
def rc(x y:Rat):Int:=if x<y then -1 else if y<x then 1 else 0
theorem aJj{x y:Rat}(h:x<y):rc x y=-1:=if_pos h
theorem aJk{x y:Rat}(h:y<x):rc x y=1:=by unfold rc;rw[if_neg (by grind),if_pos h]
theorem aNW(x:Rat):rc x x=0:=by unfold rc;rw[if_neg (by grind),if_neg (by grind)]
theorem aBh(x y:Rat):(x<y∧rc x y=-1)∨(x=y∧rc x y=0)∨(y<x∧rc x y=1):=by
 rcases (show x<y∨x=y∨y<x by grind) with h|h|h
 ·exact Or.inl ⟨h,aJj h⟩
 ·subst h;exact Or.inr (Or.inl ⟨rfl,aNW x⟩)
 ·exact Or.inr (Or.inr ⟨h,aJk h⟩)
theorem fU(x:Rat):(x<0∧sn x=-1)∨(x=0∧sn x=0)∨(0<x∧sn x=1):=by
 unfold sn;rcases (show x<0∨x=0∨0<x by grind) with h|h|h
 ·exact Or.inl ⟨h,if_pos h⟩
 ·exact Or.inr (Or.inl ⟨h,by rw[if_neg (by grind),if_pos h]⟩)
 ·exact Or.inr (Or.inr ⟨h,by rw[if_neg (by grind),if_neg (by grind)]⟩)
theorem aJl(x y:Rat):rc x y≤0↔x≤y:=by
 rcases aBh x y with⟨h,e⟩|⟨h,e⟩|⟨h,e⟩<;>rw[e]<;>constructor<;>intro h2<;>grind
theorem aJm(x y:Rat):0≤rc x y↔y≤x:=by
 rcases aBh x y with⟨h,e⟩|⟨h,e⟩|⟨h,e⟩<;>rw[e]<;>constructor<;>intro h2<;>grind
def aBi(x y:Rat):Rat:=if x≤y then x else y
def mJ(x y:Rat):Rat:=if y≤x then x else y
theorem aFT(x:Rat):sn x=x.num.sign:=by
 rcases fU x with⟨h,e⟩|⟨h,e⟩|⟨h,e⟩<;>rw[e]
 ·exact (Int.sign_eq_neg_one_of_neg (uT h)).symm
 ·subst h;rfl
 ·exact (Int.sign_eq_one_of_pos (nE h)).symm
theorem fV(x:Rat):x.num<0↔x<0:=by
 constructor
 ·intro h;rcases (show x<0∨0≤x by grind) with h2|h2
  ·exact h2
  ·have:=Rat.num_nonneg.2 h2;omega
 ·exact uT
theorem aLL(x y:Rat):rc x y=if x.num*y.den<y.num*x.den then -1 else if y.num*x.den<x.num*y.den then 1 else 0:=by
 unfold rc;have h1:=Rat.lt_iff x y;have h2:=Rat.lt_iff y x;by_cases c1:x<y
 ·rw[if_pos c1,if_pos (h1.1 c1)]
 ·rw[if_neg c1,if_neg (fun h=>c1 (h1.2 h))];by_cases c2:y<x
  ·rw[if_pos c2,if_pos (h2.1 c2)]
  ·rw[if_neg c2,if_neg (fun h=>c2 (h2.2 h))]
theorem aHQ{x y:Rat}(h:sn x=sn y):rc x y=sn x*cmp (x.num.natAbs*y.den) (y.num.natAbs*x.den):=by
 rw[aLL];rcases fU x with⟨h1,e⟩|⟨h1,e⟩|⟨h1,e⟩<;>rw[e]at h⊢<;>rcases fU y with⟨h2,e2⟩|⟨h2,e2⟩|⟨h2,e2⟩<;>rw[e2]at h<;>try (exfalso;omega)
 ·obtain⟨a,ha⟩:∃a:Nat,x.num=-a:=⟨x.num.natAbs,by have:=uT h1;omega⟩
  obtain⟨b,hb⟩:∃b:Nat,y.num=-b:=⟨y.num.natAbs,by have:=uT h2;omega⟩
  have e1:x.num.natAbs=a:=(by omega);have e3:y.num.natAbs=b:=(by omega);rw[e1,e3,ha,hb,Int.neg_mul,Int.neg_mul,←Int.natCast_mul,←Int.natCast_mul];unfold cmp
  repeat' split
  all_goals omega
 ·subst h1 h2;rfl
 ·obtain⟨a,ha⟩:∃a:Nat,x.num=a:=⟨x.num.natAbs,by have:=nE h1;omega⟩
  obtain⟨b,hb⟩:∃b:Nat,y.num=b:=⟨y.num.natAbs,by have:=nE h2;omega⟩
  have e1:x.num.natAbs=a:=(by omega);have e3:y.num.natAbs=b:=(by omega);rw[e1,e3,ha,hb,←Int.natCast_mul,←Int.natCast_mul];unfold cmp
  repeat' split
  all_goals omega
theorem aFU{M N:Nat}(hM:0<M)(hN:0<N):bl M+bl N-1≤bl (M*N)∧bl (M*N)≤bl M+bl N:=by
 obtain⟨m0,m1,m2⟩:=sZ hM;obtain⟨n0,n1,n2⟩:=sZ hN;constructor
 ·have h1:=Nat.mul_le_mul m1 n1;rw[←Nat.pow_add]at h1;have:=(fQ (M*N) (bl M-1+(bl N-1))).2 h1;omega
 ·rw[bF,Nat.pow_add];exact Nat.mul_lt_mul'' m2 n2
theorem aJn{M N:Nat}(h:bl M<bl N):M<N:=by
 have h1:=(bF M (bl M)).1 (Nat.le_refl _);have h2:=(fQ N (bl M)).1 h;omega
theorem aCU{a b c d:Nat}(ha:0<a)(hb:0<b)(hc:0<c)(hd:0<d):
  (bl c+bl d+1<bl a+bl b→cmp (a*b) (c*d)=1)∧(bl a+bl b+1<bl c+bl d→cmp (a*b) (c*d)=-1):=by
 have h1:=aFU ha hb;have h2:=aFU hc hd;exact⟨fun h=>jS (aJn (by omega)),fun h=>jR (aJn (by omega))⟩
theorem aJ0(x y:Rat):mJ x y=x∨mJ x y=y:=by unfold mJ;split<;>simp
instance (l:List UInt8):Decidable (bP l):=inferInstanceAs (Decidable (∀c∈l,48≤c.toNat∧c.toNat≤57))
instance (l:List UInt8):Decidable (Row l):=inferInstanceAs (Decidable (bP l∧l≠[]∧(l.head? =some 48→l=[48])))
def mkQ(neg:Bool)(n d:Nat):Rat:=mkRat (if neg then -(n:Int) else n) d
def uU(q:Rat):List UInt8:=(if q.num<0 then [45] else [])++dec q.num.natAbs++(if q.den=1 then [] else 47::dec q.den)
def fF(c:UInt8)(l:List UInt8):List UInt8:=l.takeWhile (·!= c)
def aft(c:UInt8)(l:List UInt8):List UInt8:=(l.dropWhile (·!= c)).tail
def lD(l:List UInt8):Bool:=l.head? == some 45
def unsigned(l:List UInt8):List UInt8:=if lD l then l.tail else l
def bJ(neg:Bool)(f s:List UInt8)(two:Bool):Int × Rat:=
 if ¬Row f∨(f=[48]∧(neg=true∨two=true)) then (6,0)
 else if two=true∧(¬Row s∨s=[48]∨s=[49]) then (6,0)
 else if 1000<f.length∨1000<s.length then (3,0)
 else if two=false then (0,mkQ neg (dv f) 1)
 else if Nat.gcd (dv f) (dv s)≠1 then (6,0) else (0,mkQ neg (dv f) (dv s))
def lM(l:List UInt8):Int × Rat:=bJ (lD l) (fF 47 (unsigned l)) (aft 47 (unsigned l)) (decide (47∈unsigned l))
theorem jK{neg:Bool}{n d:Nat}(hd:0<d)(hc:Nat.gcd n d=1):(mkQ neg n d).num=(if neg then -(n:Int) else n)∧(mkQ neg n d).den=d:=by
 have hc':Nat.Coprime (if neg then -(n:Int) else n).natAbs d:=by
  cases neg<;>simpa using hc
 have h:mkQ neg n d=Rat.mk' (if neg then -(n:Int) else n) d (by omega) hc':=by rw[Rat.mk_eq_mkRat];rfl
 rw[h];exact⟨rfl,rfl⟩
theorem aBj(c:UInt8):∀l:List UInt8,(c∉l∧fF c l=l∧aft c l=[])∨(c∈l∧l=fF c l++c::aft c l):=by
 intro l
 induction l with
 |nil=>left;simp[fF,aft]
 |cons d r ih=>
  by_cases h:d=c
  ·subst h;right;simp[fF,aft]
  ·have hb:(d != c)=true:=(by simpa using h);have e1:fF c (d::r)=d::fF c r:=(by simp[fF,hb]);have e2:aft c (d::r)=aft c r:=(by simp[aft,hb]);rw[e1,e2];rcases ih with⟨h1,h2,h3⟩|⟨h1,h2⟩
   ·left;refine⟨?_,by rw[h2],h3⟩;intro h4;rcases List.mem_cons.1 h4 with h5|h5
    ·exact h h5.symm
    ·exact h1 h5
   ·right;exact⟨List.mem_cons_of_mem _ h1,by rw[List.cons_append,←h2]⟩
theorem aJ1{c:UInt8}{f s:List UInt8}(h:c∉f):fF c (f++c::s)=f∧aft c (f++c::s)=s:=by
 induction f with
 |nil=>simp[fF,aft]
 |cons d r ih=>
  have hd:(d != c)=true:=by
    have:d≠c:=fun h1=>h (h1▸List.mem_cons_self ..);simpa using this
  have hr:c∉r:=fun h1=>h (List.mem_cons_of_mem _ h1);have e1:fF c (d::r++c::s)=d::fF c (r++c::s):=(by simp[fF,hd]);have e2:aft c (d::r++c::s)=aft c (r++c::s):=(by simp[aft,hd]);rw[e1,e2,(ih hr).1,(ih hr).2];exact⟨rfl,rfl⟩
theorem wK{c:UInt8}{l:List UInt8}(h:c∉l):fF c l=l∧aft c l=[]:=by
 rcases aBj c l with⟨_,h2⟩|⟨h1,_⟩
 ·exact h2
 ·exact absurd h1 h
theorem bP.no{l:List UInt8}(h:bP l){c:UInt8}(hc:c.toNat<48):c∉l:=fun h1=>by
 have:=h c h1;omega
theorem Row.pos{l:List UInt8}(h:Row l)(h0:l≠[48]):0<dv l:=by
 rcases Nat.eq_zero_or_pos (dv l) with h1|h1
 ·exfalso;have:=aLD h;rw[h1,eZ (by decide)]at this;exact h0 this.symm
 ·exact h1
def dJ(n:Int):Rat:=(10:Rat)^n
theorem aLM:(10:Rat)≠0:=by decide
theorem aHR(m n:Int):dJ (m+n)=dJ m*dJ n:=Rat.zpow_add aLM m n
theorem aBk(n:Nat):dJ n=((10^n:Nat):Rat):=by
 unfold dJ;rw[Rat.zpow_natCast,Rat.natCast_pow];rfl
theorem aFV:dJ 0=1:=Rat.zpow_zero 10
theorem aHS(n:Int):dJ n*dJ (-n)=1:=by rw[←aHR,show n+-n=0 by omega];exact aFV
theorem qD(n:Nat):(dJ n).num=((10^n:Nat):Int)∧(dJ n).den=1:=by
 rw[aBk];exact⟨Rat.num_natCast _,Rat.den_natCast _⟩
theorem qE(n:Nat):(dJ (-(n:Int))).num=1∧(dJ (-(n:Int))).den=10^n:=by
 have hp:0<10^n:=Nat.pow_pos (by decide);refine rat_of' hp (by simp) ?_;rw[←aBk,Rat.mul_comm,aHS];rfl
def pfx(c:UInt8):Option Int:=
 if c=102 then some (-15) else if c=112 then some (-12) else if c=110 then some (-9) else if c=117 then some (-6) else if c=109 then some (-3)
 else if c=107 then some 3 else if c=77 then some 6 else if c=71 then some 9 else if c=84 then some 12 else none
def iT(l:List UInt8):List UInt8 × Int:=
 match l.getLast? with
 |some c=>match pfx c with
  |some p=>(l.dropLast,p)
  |none=>(l,0)
 |none=>(l,0)
def kR(l:List UInt8):Prop:=bP l∧l≠[]
instance (l:List UInt8):Decidable (kR l):=inferInstanceAs (Decidable (bP l∧l≠[]))
def sgQ(neg:Bool)(q:Rat):Rat:=if neg then -q else q
def jD(neg:Bool)(f b:List UInt8)(two:Bool)(p:Int):Int × Rat:=
 if ¬kR f∨(two=true∧¬kR b) then (6,0)
 else if 400<f.length+b.length then (3,0)
 else (0,sgQ neg ((dv (f++b):Nat):Rat)*dJ (p-b.length))
def uV(l:List UInt8):Int × Rat:=
 if 47∈l then lM l
 else jD (lD l) (fF 46 (iT (unsigned l)).1) (aft 46 (iT (unsigned l)).1) (decide (46∈(iT (unsigned l)).1)) (iT (unsigned l)).2
def letter(i:Nat):List UInt8:=(([[102],[112],[110],[117],[109],[],[107],[77],[71],[84]]:List (List UInt8))[i]?).getD []
def nN(q:Rat):Rat:=if q<0 then -q else q
def mP(q:Rat):List UInt8:=if q<0 then [45] else []
theorem aBl(q:Rat):uU q=mP q++(dec q.num.natAbs++if q.den=1 then [] else 47::dec q.den):=by
 unfold uU mP;by_cases h:q<0
 ·rw[if_pos ((fV q).2 h),if_pos h,List.append_assoc]
 ·rw[if_neg (fun h1=>h ((fV q).1 h1)),if_neg h,List.append_assoc]
theorem aJ2:dec 1=[49]:=by rw[eZ (by decide)];rfl
theorem aHT:dec 0=[48]:=by rw[eZ (by decide)];rfl
def aEo(q:Rat):Nat:=max (dec q.num.natAbs).length (dec q.den).length
theorem aBm{q:Rat}(h:q.num.natAbs=0):q.den=1:=by
 have h1:=q.reduced;rw[h]at h1;simpa using h1
structure Beh (m:Rat) (b:Nat):Prop where
 le:b≤13
 no:∀j<b,(m*dJ j).den≠1
end Ma
namespace Ma
open Me
def szb(b:Nat)(q:Rat):Nat:=dg b q.num.natAbs+dg b q.den
theorem aJ3(b:Nat)(q:Rat):szb b (-q)=szb b q:=by unfold szb;rw[Rat.neg_num,Rat.neg_den,Int.natAbs_neg]
theorem aJ4{b:Nat}(hb:1<b)(q:Rat):szb b q⁻¹≤szb b q+1:=by
 unfold szb;rw[Rat.num_inv,Rat.den_inv];by_cases h:q.num=0
 ·have e1:dg b 1=1:=iA hb;simp[h,aZ,e1]
 ·rw[if_neg h,Int.natAbs_mul];have e:q.num.sign.natAbs=1:=(by rw[Int.natAbs_sign,if_neg h]);rw[e,Nat.one_mul];simp only[Int.natAbs_natCast];omega
theorem jW{b:Nat}(hb:1<b){M N:Nat}(h:M≤N):dg b M≤dg b N:=bK hb h
def sz(q:Rat):Nat:=szb W64 q
theorem aLN(q:Rat):dg W64 q.den≤sz q:=Nat.le_add_left _ _
theorem fZ(q:Rat):dg W64 q.num.natAbs+dg W64 q.den=sz q:=rfl
theorem xI(q:Rat):sz (-q)=sz q:=aJ3 W64 q
theorem aFW(q:Rat):sz q⁻¹≤sz q+1:=aJ4 aD q
theorem aAi{B k:Nat}(h:B≤W64):dg W64 (B^k)≤k+1:=by
 rw[aK aD,Nat.pow_succ];have h1:B^k≤W64^k:=Nat.pow_le_pow_left h k;have h2:0<W64^k:=Nat.pow_pos (by decide);have:W64^k*1<W64^k*W64:=Nat.mul_lt_mul_of_pos_left (by decide) h2;omega
theorem aFX(n:Int):sz (dJ n)≤n.natAbs+2:=by
 have h1:=fZ (dJ n);rw[←h1];rcases Int.le_total 0 n with h|h
 ·obtain⟨k,rfl⟩:=Int.eq_ofNat_of_zero_le h;obtain⟨e1,e2⟩:=qD k;rw[e1,e2,iA aD];simp only[Int.natAbs_natCast];have:=aAi (B:=10) (k:=k) (by decide);omega
 ·obtain⟨k,hk⟩:=Int.eq_ofNat_of_zero_le (show 0≤-n by omega);have hn:n=-(k:Int):=(by omega);subst hn;obtain⟨e1,e2⟩:=qE k;rw[e1,e2];have:=aAi (B:=10) (k:=k) (by decide);have h2:dg W64 (1:Int).natAbs=1:=iA aD;rw[h2];omega
theorem aLO(n:Nat):sz ((n:Nat):Rat)=dg W64 n+1:=by
 rw[←fZ,Rat.num_natCast,Rat.den_natCast,iA aD,Int.natAbs_natCast]
theorem aLP{c:UInt8}{p:Int}(h:pfx c=some p):p.natAbs≤15:=by
 unfold pfx at h
 repeat' split at h
 all_goals first|(cases h;decide)|cases h
theorem aJ5(l:List UInt8):(iT l).2.natAbs≤15:=by
 unfold iT;split
 ·split
  ·rename_i h;exact aLP h
  ·exact Nat.zero_le _
 ·exact Nat.zero_le _
theorem aEp{l:List UInt8}(h:bP l){k:Nat}(hk:l.length≤k):dg W64 (dv l)≤k:=by
 rw[aK aD];have h6:=aEm h;have h7:(10:Nat)^l.length≤10^k:=Nat.pow_le_pow_right (by decide) hk;have h8:(10:Nat)^k≤W64^k:=Nat.pow_le_pow_left (by decide) k;omega
theorem aAG(N:Nat):bl N≤64*dg W64 N:=by
 have h:=kP 64 N (by decide);exact h
theorem aCV(x:Rat):x.floor=if x<0 then -((x.num.natAbs/x.den+if x.num.natAbs % x.den=0 then 0 else 1:Nat):Int) else ((x.num.natAbs/x.den:Nat):Int):=by
 rcases (show x<0∨0≤x by grind) with h|h
 ·rw[if_pos h];have hp:0< -x:=(by grind);obtain⟨N,e1,-,e3⟩:=aEn hp;have h4:=(aAh (y:=-x) (A:=N) (B:=x.den) x.den_pos (by
   have:=zB (-x);rw[e1,Rat.neg_den,Rat.intCast_natCast]at this;exact this.symm)).2.1
  rw[Rat.neg_neg]at h4;rw[h4];have:x.num.natAbs=N:=(by rw[Rat.neg_num]at e3;omega);rw[this]
 ·rw[if_neg (by grind)];have e:x.num=((x.num.natAbs:Nat):Int):=(by have:=Rat.num_nonneg.2 h;omega);exact (aAh (y:=x) (A:=x.num.natAbs) (B:=x.den) x.den_pos (by
   have:=zB x;rw[e,Rat.intCast_natCast]at this;exact this.symm)).1
def mQ(x:Rat)(away:Bool):Nat:=x.num.natAbs/x.den+if away=true∧¬x.num.natAbs % x.den=0 then 1 else 0
def qZ(x:Rat)(away:Bool):Int:=if x<0 then -((mQ x away:Nat):Int) else ((mQ x away:Nat):Int)
theorem aEq(x:Rat):qZ x (decide (x<0))=x.floor:=by
 rw[aCV];unfold qZ mQ;by_cases h:x<0
 ·rw[if_pos h,if_pos h,decide_eq_true h];by_cases hz:x.num.natAbs % x.den=0
  ·rw[if_neg (fun h=>h.2 hz),if_pos hz]
  ·rw[if_pos ⟨rfl,hz⟩,if_neg hz]
 ·rw[if_neg h,if_neg h,decide_eq_false h,if_neg (by simp)];rfl
end Ma
end Go.Proofs.YtamnpcdkcdfgaaaGreatDoor
