/- FilterFamilies holds. No condition. -/
import Derived.ChangeKeysEq
import Derived.Laws.Slices
import Derived.Test.YtohcfjmkfflkpaaGreatDoorQf04
namespace Go.Proofs.YtohcfjmkfflkpaaGreatDoor
namespace E
open Go Go.RowKit
open Ma Me K
section
variable {F:Cf} {c:Cx} {wb:World} {h h':H} {nt:Nat} {e:Env} {a:Act} {o:Oper} {v:AV} {α:Type}
theorem dW{l:List α}{n:Nat}{x:α}(h:(drp n l).head? =some x):l[n]? =some x:=by
 rw[jY]at h;simpa using h
theorem zF{P:Program}{t f:Nat}{i:TI}{q:Nat × Nat}(hi:Ty P t i)(hf:fields i.d f=some q):∃fs fld,P.underlying t=some (.struct fs)∧fs[f]? =some fld∧q=(fld.offset,fld.type):=by
 obtain⟨inf,d,z,h1,h2,h3,h4,h5,h6,h7,h8⟩:=hi.ex;unfold fields at hf;split at hf
 ·rename_i fs hd;rw[h3]at hd;cases d<;>simp[dk]at hd;rename_i fs2;subst hd;have:=dW hf;rw[List.getElem?_map]at this;obtain⟨fld,k1,k2⟩:=Option.map_eq_some_iff.1 this;exact⟨fs2,fld,h2,by simpa using k1,k2.symm⟩
 ·cases hf
theorem vU{P:Program}{t el:Nat}{i:TI}(hi:Ty P t i)(hf:elem i.d=some el):P.underlying t=some (.slice el):=by
 obtain⟨inf,d,z,h1,h2,h3,h4,h5,h6,h7,h8⟩:=hi.ex;unfold elem at hf;split at hf
 ·rename_i e hd;injection hf with hf;subst hf;rw[h3]at hd;cases d<;>simp[dk]at hd;subst hd;exact h2
 ·cases hf
theorem jR{P:Program}{t el:Nat}{i:TI}(hi:Ty P t i)(hf:i.d=.sl el):P.underlying t=some (.slice el):=vU hi (by rw[hf];rfl)
theorem aB0{P:Program}{t n el:Nat}{i:TI}(hi:Ty P t i)(hd:i.d=.ar n el):P.underlying t=some (.array n el):=by
 obtain⟨inf,d,z,h1,h2,h3,h4,h5,h6,h7,h8⟩:=hi.ex;rw[h3]at hd;cases d<;>simp[dk]at hd;obtain⟨rfl,rfl⟩:=hd;exact h2
theorem sI{P:Program}{t:Nat}{i:TI}(hi:Ty P t i)(hd:i.d=.str):P.underlying t=some .string:=by
 obtain⟨inf,d,z,h1,h2,h3,h4,h5,h6,h7,h8⟩:=hi.ex;rw[h3]at hd;cases d<;>simp[dk]at hd;exact h2
theorem aO7{P:Program}{t:Nat}{i:TI}(hi:Ty P t i)(hd:i.d=.bool):P.underlying t=some .bool:=by
 obtain⟨inf,d,z,h1,h2,h3,h4,h5,h6,h7,h8⟩:=hi.ex;rw[h3]at hd;cases d<;>simp[dk]at hd;exact h2
theorem zG{P:Program}{t:Nat}{i:TI}{k:IntKind}(hi:Ty P t i)(hd:i.d=.int k):P.underlying t=some (.int k):=by
 obtain⟨inf,d,z,h1,h2,h3,h4,h5,h6,h7,h8⟩:=hi.ex;rw[h3]at hd;cases d<;>simp[dk]at hd;subst hd;exact h2
theorem aIq{P:Program}{t:Nat}{i:TI}(hi:Ty P t i)(hd:i.d=.pt):∃e,P.underlying t=some (.pointer e):=by
 obtain⟨inf,d,z,h1,h2,h3,h4,h5,h6,h7,h8⟩:=hi.ex;rw[h3]at hd;cases d<;>simp[dk]at hd;exact⟨_,h2⟩
theorem iU{s:SV}{k:Nat→Option α}{y:α}(h:natOf s k=some y):∃kk n,s=.i kk (Int.ofNat n)∧k n=some y:=by
 unfold natOf at h;split at h
 ·rename_i kk n;cases n with
  |ofNat n=>exact⟨kk,n,rfl,h⟩
  |negSucc n=>cases h
 ·cases h
theorem aUq{t f:Nat}{x:Operand}(hr:Rl c wb h)(ht:Tr c nt e a.tmps)(ho:o.op=.fieldAddr t x f)(hx:oFA F e h t x f=some (v,h')):∃u w',OpR F.P a.eval o c.w u w'∧Po c wb h' v u w':=by
 obtain⟨i,h1,h2⟩:=aA.1 hx;obtain⟨q,h3,h4⟩:=aA.1 h2;obtain⟨z,h5,h6⟩:=aA.1 h4;obtain⟨h7,h8⟩:=aD.1 h6;obtain⟨v1,h9,h10⟩:=aA.1 h8;obtain⟨s,rfl,h11⟩:=aL.1 h10;split at h11
 ·rename_i id off;injection h11 with h11;injection h11 with h11 h12;subst h11;subst h12;obtain⟨fs,fld,k1,k2,rfl⟩:=zF (aO h1) h3;obtain⟨j,hj,rfl⟩:=mK h5;obtain⟨hid,hp⟩:=aF.1 (bJ ht h9);have hz:¬j.sz=0:=(by have:=aP.1 h7;omega);refine⟨.pointer (some ⟨c.r id,off+fld.offset,none⟩),c.w,OpR.vl (s:=Instr.fieldAt t (a.eval x) f) (by unfold execOp;rw[ho]) ?_,Po.same hr (aF.2 ⟨hid,rfl⟩)⟩;simp only[Instr.fieldAt,Sem.run_bind,run_underlying k1,Result.andThen_ok,k2,hp,Instr.sureAddr,Sem.run_pure,fieldPlace,gB (aO hj),hz,if_false,add0]
 ·rename_i x1;unfold roF at h11;split at h11
  ·rename_i a1;injection h11 with h11;injection h11 with h11 h12;subst h11;subst h12;obtain⟨fs,fld,k1,k2,rfl⟩:=zF (aO h1) h3;obtain⟨j,hj,rfl⟩:=mK h5;have hp:=(aF.1 (bJ ht h9)).1;have hz:¬j.sz=0:=(by have:=aP.1 h7;omega);refine⟨.pointer (some (a1.add fld.offset)),c.w,OpR.vl (s:=Instr.fieldAt t (a.eval x) f) (by unfold execOp;rw[ho]) ?_,Po.same hr (aF.2 ⟨rfl,rfl⟩)⟩;simp only[Instr.fieldAt,Sem.run_bind,run_underlying k1,Result.andThen_ok,k2,hp,Instr.sureAddr,Sem.run_pure,fieldPlace,gB (aO hj),hz,if_false]
  ·cases h11
 ·cases h11
theorem aHb{P:Program}{t off:Nat}{i:TI}(hi:Ty P t i){l l':List SV}{cs:List Value}{w:World}(hc:CL c l cs)(h1:dG i.sz (drp off l)=some l')(h2:av i.d.ag l'=some v):∃u,(part t cs.toArray off).run P w=.ok u w∧VR c v u:=by
 rw[jY]at h1;obtain⟨h3,rfl⟩:=kY.1 h1;obtain⟨u,k1,k2,k3⟩:=aIn h2 ((hc.drop off).take i.sz);refine⟨u,?_,k1⟩;unfold part;rw[Sem.run_bind,aAA hi w,Result.andThen_ok];cases hg:i.d.ag with
 |true=>
  rw[if_pos rfl,Sem.run_bind,gB hi w,Result.andThen_ok,k2 hg];simp[List.extract_eq_take_drop]
 |false=>
  have h4:=k3 hg;have h5:cs[off]? =some u:=by
    have:=congrArg (fun l=>l[0]?) h4;simp only[List.getElem?_cons_zero]at this;rw[List.getElem?_take]at this;split at this
    ·simpa using this
    ·cases this
  simp[h5]
theorem aO8{t f:Nat}{x:Operand}(hr:Rl c wb h)(ht:Tr c nt e a.tmps)(ho:o.op=.field t x f)(hx:vQ F e h t x f=some (v,h')):∃u w',OpR F.P a.eval o c.w u w'∧Po c wb h' v u w':=by
 obtain⟨i,h1,h2⟩:=aA.1 hx;obtain⟨q,h3,h4⟩:=aA.1 h2;obtain⟨j,h5,h6⟩:=aA.1 h4;obtain⟨v1,h7,h8⟩:=aA.1 h6;obtain⟨l,rfl,h9⟩:=rW.1 h8;obtain⟨l',h10,h11⟩:=aA.1 h9;obtain⟨v2,h12,h13⟩:=aA.1 h11;injection h13 with h13;injection h13 with h13 h14;subst h13;subst h14;obtain⟨fs,fld,k1,k2,rfl⟩:=zF (aO h1) h3;obtain⟨cs,k3,k4⟩:=bJ ht h7;obtain⟨u,k5,k6⟩:=aHb (w:=c.w) (aO h5) k4 h10 h12;refine⟨u,c.w,OpR.vl (s:=Instr.field t (a.eval x) f) (by unfold execOp;rw[ho]) ?_,Po.same hr k6⟩;simp only[Instr.field,Sem.run_bind,run_underlying k1,Result.andThen_ok,k2,k3,asAgg,Sem.run_pure,k5]
theorem bV(s:ByteArray):(bytes s).length=s.size:=by
 unfold bytes;rw[List.length_map,Array.length_toList];rfl
theorem aUr{t:Nat}{x y:Operand}(hr:Rl c wb h)(ht:Tr c nt e a.tmps)(ho:o.op=.index t x y)(hx:oIx F e h t x y=some (v,h')):∃u w',OpR F.P a.eval o c.w u w'∧Po c wb h' v u w':=by
 obtain⟨i,h1,h2⟩:=aA.1 hx;obtain⟨v1,h3,h4⟩:=aA.1 h2;obtain⟨s,rfl,h5⟩:=aL.1 h4;obtain⟨kk,j,rfl,h6⟩:=iU h5;split at h6
 ·rename_i n el hd;obtain⟨g,h7,h8⟩:=aA.1 h6;obtain⟨h9,h10⟩:=aD.1 h8;obtain⟨v2,h11,h12⟩:=aA.1 h10;obtain⟨l,rfl,h13⟩:=rW.1 h12;obtain⟨l',h14,h15⟩:=aA.1 h13;obtain⟨v3,h16,h17⟩:=aA.1 h15;injection h17 with h17;injection h17 with h17 h18;subst h17;subst h18;have hk:a.eval y=.int kk (j:Int):=aF.1 (bJ ht h3);obtain⟨cs,k3,k4⟩:=bJ ht h11;obtain⟨u,k5,k6⟩:=aHb (w:=c.w) (aO h7) k4 h14 h16;have hj:=aP.1 h9;have hj2:(0:Int)≤(j:Int)∧(j:Int)<(n:Int):=(by omega);refine⟨u,c.w,OpR.vl (s:=Instr.index t (a.eval x) (a.eval y)) (by unfold execOp;rw[ho]) ?_,Po.same hr k6⟩;simp only[Instr.index,Sem.run_bind,hk,asIntOf,Sem.run_pure,Result.andThen_ok,run_underlying (aB0 (aO h1) hd),k3,hj2,and_self,if_true,gB (aO h7),Int.toNat_natCast];exact k5
 ·rename_i hd;obtain⟨v2,h7,h8⟩:=aA.1 h6;obtain⟨s2,rfl,h9⟩:=aL.1 h8;split at h9
  ·rename_i l;obtain⟨b,h10,h11⟩:=aA.1 h9;injection h11 with h11;injection h11 with h12 h13;subst h12;subst h13;have hk:a.eval y=.int kk (j:Int):=aF.1 (bJ ht h3);obtain⟨st,h14,h15⟩:=aF.1 (bJ ht h7);subst h15;have h16:(bytes st)[j]? =some b:=by
    rw[jY,List.head?_drop]at h10;exact h10
   have hlt:j<st.size:=by
    have:=(List.getElem?_eq_some_iff.1 h16).1
    rwa [bV]at this
   have h17:st[j]? =some st[j]:=getElem?_pos st j hlt;have h18:(st[j]).toNat=b:=by
    have h2:=(List.getElem?_eq_some_iff.1 h16).2;unfold bytes at h2;rw[List.getElem_map]at h2;exact h2
   refine⟨.int .u8 (b:Int),c.w,OpR.vl (s:=Instr.index t (a.eval x) (a.eval y)) (by unfold execOp;rw[ho]) ?_,Po.same hr (aF.2 rfl)⟩;simp only[Instr.index,Sem.run_bind,hk,asIntOf,Sem.run_pure,Result.andThen_ok,run_underlying (sI (aO h1) hd),h14,Int.natCast_nonneg,if_true,Int.toNat_natCast,h17,h18]
  ·cases h9
 ·cases h6
theorem aUs{t:Nat}{x y:Operand}(hr:Rl c wb h)(ht:Tr c nt e a.tmps)(ho:o.op=.indexAddr t x y)(hx:oIA F e h t x y=some (v,h')):∃u w',OpR F.P a.eval o c.w u w'∧Po c wb h' v u w':=by
 obtain⟨i,h1,h2⟩:=aA.1 hx;obtain⟨v1,h3,h4⟩:=aA.1 h2;obtain⟨s,rfl,h5⟩:=aL.1 h4;obtain⟨kk,j,rfl,h6⟩:=iU h5;obtain⟨v2,h7,h8⟩:=aA.1 h6;obtain⟨s2,rfl,h9⟩:=aL.1 h8;have hk:a.eval y=.int kk (j:Int):=aF.1 (bJ ht h3);have hp:=aF.1 (bJ ht h7);have he:execOp a.eval o=(do pure (Next.value (←Instr.indexAt t (a.eval x) (a.eval y)))):=by unfold execOp;rw[ho]
 split at h9
 ·rename_i el id off n cap hd;obtain⟨z,h10,h11⟩:=aA.1 h9;obtain⟨h12,h13⟩:=aD.1 h11;obtain⟨g,hg,rfl⟩:=mK h10;injection h13 with h13;injection h13 with h13 h14;subst h13;subst h14;have hj:=aP.1 h12;have hj2:(0:Int)≤(j:Int)∧(j:Int)<(n:Int):=(by omega);obtain⟨hid,cap2,hp2⟩:c.k id∧∃cap2,a.eval x=.slice (some ⟨c.r id,off,none⟩) n cap2:=by
   cases cap with
   |some cap=>exact⟨hp.1,cap,hp.2⟩
   |none=>
    obtain⟨h0,cap,o,-,k2,k3,-⟩:=hp;exact⟨h0,cap,by rw[k2,k3 (.inl (by omega))]⟩
  refine⟨.pointer (some ⟨c.r id,off+j*g.sz,none⟩),c.w,OpR.vl he ?_,Po.same hr (aF.2 ⟨hid,rfl⟩)⟩;simp only[Instr.indexAt,Sem.run_bind,hk,asIntOf,Sem.run_pure,Result.andThen_ok,run_underlying (jR (aO h1) hd),hp2,hj2,and_self,if_true,gB (aO hg),Int.toNat_natCast,add0]
 ·rename_i n el id off hd;obtain⟨z,h10,h11⟩:=aA.1 h9;obtain⟨h12,h13⟩:=aD.1 h11;obtain⟨g,hg,rfl⟩:=mK h10;injection h13 with h13;injection h13 with h13 h14;subst h13;subst h14;have hj:=aP.1 h12;have hj2:(0:Int)≤(j:Int)∧(j:Int)<(n:Int):=(by omega);refine⟨.pointer (some ⟨c.r id,off+j*g.sz,none⟩),c.w,OpR.vl he ?_,Po.same hr (aF.2 ⟨hp.1,rfl⟩)⟩;simp only[Instr.indexAt,Sem.run_bind,hk,asIntOf,Sem.run_pure,Result.andThen_ok,run_underlying (aB0 (aO h1) hd),hp.2,Instr.sureAddr,hj2,and_self,if_true,gB (aO hg),Int.toNat_natCast,add0]
 ·rename_i el x1 hd;obtain⟨z,h10,h11⟩:=aA.1 h9;unfold roA at h11;split at h11
  ·rename_i a1 n cap;obtain⟨h12,h13⟩:=aD.1 h11;obtain⟨g,hg,rfl⟩:=mK h10;injection h13 with h13;injection h13 with h13 h14;subst h13;subst h14;have hj:=aP.1 h12;have hj2:(0:Int)≤(j:Int)∧(j:Int)<(n:Int):=(by omega);have hp2:a.eval x=.slice (some a1) n cap:=hp.1;refine⟨.pointer (some (a1.add (j*g.sz))),c.w,OpR.vl he ?_,Po.same hr (aF.2 ⟨rfl,rfl⟩)⟩;simp only[Instr.indexAt,Sem.run_bind,hk,asIntOf,Sem.run_pure,Result.andThen_ok,run_underlying (jR (aO h1) hd),hp2,hj2,and_self,if_true,gB (aO hg),Int.toNat_natCast]
  ·cases h11
 ·rename_i n el x1 hd;obtain⟨z,h10,h11⟩:=aA.1 h9;obtain⟨h12,h13⟩:=aD.1 h11;obtain⟨g,hg,rfl⟩:=mK h10;unfold roF at h13;split at h13
  ·rename_i a1;injection h13 with h13;injection h13 with h13 h14;subst h13;subst h14;have hj:=aP.1 h12;have hj2:(0:Int)≤(j:Int)∧(j:Int)<(n:Int):=(by omega);have hp2:a.eval x=.pointer (some a1):=hp.1;refine⟨.pointer (some (a1.add (j*g.sz))),c.w,OpR.vl he ?_,Po.same hr (aF.2 ⟨rfl,rfl⟩)⟩;simp only[Instr.indexAt,Sem.run_bind,hk,asIntOf,Sem.run_pure,Result.andThen_ok,run_underlying (aB0 (aO h1) hd),hp2,Instr.sureAddr,hj2,and_self,if_true,gB (aO hg),Int.toNat_natCast]
  ·cases h13
 ·cases h9
theorem TL.at_:∀{l:List (Bool × List SV)} {r:List Value} {j:Nat} {x:Bool × List SV},TL c l r→l[j]? =some x→∃v,r[j]? =some v∧VC c x.1 x.2 v
 | [],[],_,_,_,h=>by simp at h
 |y::_,v::_,0,x,h,hx=>by simp at hx;subst hx;exact⟨v,rfl,h.1⟩
 |_::_,_::_,j+1,x,h,hx=>by
  obtain⟨v,h1,h2⟩:=TL.at_ (j:=j) h.2 (by simpa using hx);exact⟨v,by simpa using h1,h2⟩
theorem aS6{x:Operand}{ix:Nat}(hr:Rl c wb h)(ht:Tr c nt e a.tmps)(ho:o.op=.extract x ix)(hx:yY e h x ix=some (v,h')):∃u w',OpR F.P a.eval o c.w u w'∧Po c wb h' v u w':=by
 obtain⟨v1,h1,h2⟩:=aA.1 hx;cases v1 with
 |c g l=>cases h2
 |t l=>
  obtain⟨p,h3,h4⟩:=aA.1 h2;injection h4 with h4;injection h4 with h4 h5;subst h4;subst h5;obtain⟨vs,k1,k2⟩:=bJ ht h1;obtain⟨u,k3,k4⟩:=k2.at_ (dW h3);refine⟨u,c.w,OpR.vl (s:=Instr.extract (a.eval x) ix) (by unfold execOp;rw[ho]) ?_,Po.same hr k4⟩;simp[Instr.extract,k1,k3]
theorem wrap_small{k:IntKind}{n:Nat}(h:n<lim k):k.wrap (n:Int)=(n:Int):=by
 cases k<;>simp only[lim]at h<;>simp only[IntKind.wrap,IntKind.bits,IntKind.signed,Bool.true_and,Bool.false_and,Bool.false_eq_true,if_false]
 ·have e1:(2:Int)^(8-1)=128:=rfl;have e2:(2:Int)^8=256:=rfl;split
  ·rename_i hh;have h2:=of_decide_eq_true hh;rw[e1,e2]at h2;omega
  ·rw[e2];omega
 ·have e1:(2:Int)^(16-1)=32768:=rfl;have e2:(2:Int)^16=65536:=rfl;split
  ·rename_i hh;have h2:=of_decide_eq_true hh;rw[e1,e2]at h2;omega
  ·rw[e2];omega
 ·have e1:(2:Int)^(32-1)=2147483648:=rfl;have e2:(2:Int)^32=4294967296:=rfl;split
  ·rename_i hh;have h2:=of_decide_eq_true hh;rw[e1,e2]at h2;omega
  ·rw[e2];omega
 ·have e1:(2:Int)^(64-1)=9223372036854775808:=rfl;have e2:(2:Int)^64=18446744073709551616:=rfl;split
  ·rename_i hh;have h2:=of_decide_eq_true hh;rw[e1,e2]at h2;omega
  ·rw[e2];omega
 ·omega
 ·omega
 ·omega
 ·omega
theorem pX{k:IntKind}{n:Nat}{s:SV}(h:mkI k n=some s):s=.i k (k.wrap (n:Int)):=by
 unfold mkI at h;rw[aW,bU]at h;split at h
 ·injection h with h;rw[←h,wrap_small (aP.1 (by assumption))];rfl
 ·rw[vS]at h;injection h with h;exact h.symm
theorem sJ{k:IntKind}{n:Int}{s:SV}(h:mkZ k n=some s):s=.i k (k.wrap n):=by
 unfold mkZ at h;rw[vS]at h;injection h with h;exact h.symm
theorem lZ{β:Type}{a c:Int}{f:Nat→Nat→β}{g y:β}(h:two a c f g=y):(∃m n,a=Int.ofNat m∧c=Int.ofNat n∧f m n=y)∨g=y:=by
 cases a with
 |ofNat m=>
  cases c with
  |ofNat n=>exact .inl ⟨m,n,rfl,rfl,h⟩
  |negSucc n=>exact .inr h
 |negSucc m=>exact .inr h
theorem pY(a c:Int):iEq a c=decide (a=c):=by
 rcases lZ (rfl:iEq a c=iEq a c) with⟨m,n,rfl,rfl,h⟩|h
 ·rw[←h];by_cases e:m=n
  ·subst e;rw[aM.2 rfl];simp
  ·rw[uA.2 e];symm;apply decide_eq_false;intro h;injection h;contradiction
 ·exact h.symm
theorem kP(a c:Int):iLt a c=decide (a<c):=by
 rcases lZ (rfl:iLt a c=iLt a c) with⟨m,n,rfl,rfl,h⟩|h
 ·rw[←h];by_cases e:m<n
  ·rw[aP.2 e];symm;apply decide_eq_true;exact Int.ofNat_lt.2 e
  ·rw[aIk.2 e];symm;apply decide_eq_false;intro h;exact e (Int.ofNat_lt.1 h)
 ·exact h.symm
theorem vV(b:Bool):dV b=!b:=by cases b<;>rfl
theorem aMp(k:IntKind):lim k≤2^k.bits:=by cases k<;>decide
theorem vW{k:IntKind}{m:Nat}(h:Nat.blt m (lim k)=true):(BitVec.ofInt k.bits (Int.ofNat m)).toNat=m:=by
 have h:=Nat.lt_of_lt_of_le (aP.1 h) (aMp k);rw[show Int.ofNat m=(m:Int) from rfl,BitVec.ofInt_natCast,BitVec.toNat_ofNat,Nat.mod_eq_of_lt h]
theorem aQW{P:Program}{op:BinOp}{t:Nat}{k:IntKind}{x y:Int}{s:SV}(h:iop op k x y=some s)(w:World):∃u,(binOp op t (.int k x) (.int k y)).run P w=.ok u w∧SR c s u:=by
 unfold iop at h;split at h
 case h_1=>
  refine⟨.int k (k.wrap (x+y)),by simp[binOp,Op.intArith],?_⟩;rcases lZ h with⟨m,n,rfl,rfl,h2⟩|h2
  ·rw[pX h2];rfl
  ·rw[sJ h2];rfl
 case h_2=>
  refine⟨.int k (k.wrap (x-y)),by simp[binOp,Op.intArith],?_⟩;rcases lZ h with⟨m,n,rfl,rfl,h2⟩|h2
  ·rw[bU]at h2;split at h2
   ·rename_i hb;have hb:=bN.1 hb;rw[pX h2];have e:((Nat.sub m n:Nat):Int)=Int.ofNat m-Int.ofNat n:=by
     show ((m-n:Nat):Int)=(m:Int)-(n:Int)
     omega
    rw[e];rfl
   ·rw[sJ h2];rfl
  ·rw[sJ h2];rfl
 case h_3=>
  refine⟨.int k (k.wrap (x*y)),by simp[binOp,Op.intArith],?_⟩;rcases lZ h with⟨m,n,rfl,rfl,h2⟩|h2
  ·rw[pX h2];have e:((Nat.mul m n:Nat):Int)=Int.ofNat m*Int.ofNat n:=by
    show ((m*n:Nat):Int)=(m:Int)*(n:Int)
    exact Int.natCast_mul m n
   rw[e];rfl
  ·rw[sJ h2];rfl
 case h_4=>
  unfold aQK at h;obtain⟨h1,h2⟩:=cbn.1 h;have h1:y≠0:=of_decide_eq_false h1;refine⟨.int k (k.wrap (x.tdiv y)),by simp[binOp,Op.intDiv,h1],?_⟩;rw[sJ h2];rfl
 case h_5=>
  unfold aMf at h;obtain⟨h1,h2⟩:=cbn.1 h;have h1:y≠0:=of_decide_eq_false h1;refine⟨.int k (x.tmod y),by simp[binOp,Op.intDiv,h1],?_⟩;rw[vS]at h2;injection h2 with h2;subst h2;rfl
 case h_6=>
  injection h with h;subst h;exact⟨.bool (x == y),by simp[binOp,Op.intCmp],by rw[pY];rfl⟩
 case h_7=>
  injection h with h;subst h;exact⟨.bool (x != y),by simp[binOp,Op.intCmp],by rw[pY,vV];rfl⟩
 case h_8=>
  injection h with h;subst h;exact⟨.bool (decide (x<y)),by simp[binOp,Op.intCmp],by rw[kP];rfl⟩
 case h_9=>
  injection h with h;subst h;refine⟨.bool (decide (x≤y)),by simp[binOp,Op.intCmp],?_⟩;rw[kP,vV];show Value.bool _=Value.bool _;congr 1;by_cases e:y<x
  ·rw[decide_eq_true e,decide_eq_false (by omega)];rfl
  ·rw[decide_eq_false e,decide_eq_true (by omega)];rfl
 case h_10=>
  injection h with h;subst h;exact⟨.bool (decide (x>y)),by simp[binOp,Op.intCmp],by rw[kP];rfl⟩
 case h_11=>
  injection h with h;subst h;refine⟨.bool (decide (x≥y)),by simp[binOp,Op.intCmp],?_⟩;rw[kP,vV];show Value.bool _=Value.bool _;congr 1;by_cases e:x<y
  ·rw[decide_eq_true e,decide_eq_false (by omega)];rfl
  ·rw[decide_eq_false e,decide_eq_true (by omega)];rfl
 case h_12=>
  unfold aCM at h;rcases lZ h with⟨m,n,rfl,rfl,h2⟩|h2
  ·obtain⟨h3,h2⟩:=aD.1 h2;obtain⟨h4,h2⟩:=aD.1 h2;refine⟨.int k (k.wrap ((Nat.land m n:Nat):Int)),?_,by rw[pX h2];rfl⟩;have e:(BitVec.ofInt k.bits (Int.ofNat m) &&& BitVec.ofInt k.bits (Int.ofNat n)).toNat=Nat.land m n:=(by rw[BitVec.toNat_and,vW h3,vW h4];rfl);rw[←e];simp[binOp,Op.intBits]
  ·cases h2
 case h_13=>
  unfold aCM at h;rcases lZ h with⟨m,n,rfl,rfl,h2⟩|h2
  ·obtain⟨h3,h2⟩:=aD.1 h2;obtain⟨h4,h2⟩:=aD.1 h2;refine⟨.int k (k.wrap ((Nat.lor m n:Nat):Int)),?_,by rw[pX h2];rfl⟩;have e:(BitVec.ofInt k.bits (Int.ofNat m) |||BitVec.ofInt k.bits (Int.ofNat n)).toNat=Nat.lor m n:=(by rw[BitVec.toNat_or,vW h3,vW h4];rfl);rw[←e];simp[binOp,Op.intBits]
  ·cases h2
 case h_14=>
  unfold aCM at h;rcases lZ h with⟨m,n,rfl,rfl,h2⟩|h2
  ·obtain⟨h3,h2⟩:=aD.1 h2;obtain⟨h4,h2⟩:=aD.1 h2;refine⟨.int k (k.wrap ((Nat.xor m n:Nat):Int)),?_,by rw[pX h2];rfl⟩;have e:(BitVec.ofInt k.bits (Int.ofNat m)^^^BitVec.ofInt k.bits (Int.ofNat n)).toNat=Nat.xor m n:=(by rw[BitVec.toNat_xor,vW h3,vW h4];rfl);rw[←e];simp[binOp,Op.intBits]
  ·cases h2
 case h_15=>
  unfold aQL at h;rcases lZ h with⟨m,n,rfl,rfl,h2⟩|h2
  ·obtain⟨h3,h2⟩:=aD.1 h2;have h3:=bN.1 h3;refine⟨.int k (k.wrap ((Nat.mul m (Nat.pow 2 n):Nat):Int)),?_,by rw[pX h2];rfl⟩;have e:((Nat.mul m (Nat.pow 2 n):Nat):Int)=Int.ofNat m*2^(min (Int.ofNat n).toNat k.bits):=by
    rw[show min (Int.ofNat n).toNat k.bits=n from Nat.min_eq_left h3];show ((m*2^n:Nat):Int)=(m:Int)*2^n
    push_cast;rfl
   have hn:¬(Int.ofNat n<0):=Int.not_lt.2 (Int.natCast_nonneg n);rw[e];show (Op.shift .shl k (Int.ofNat m) k (Int.ofNat n)).run P w=_;unfold Op.shift;rw[if_neg hn];rfl
  ·cases h2
 case h_16=>
  unfold aQM at h;rcases lZ h with⟨m,n,rfl,rfl,h2⟩|h2
  ·obtain⟨h3,h2⟩:=aD.1 h2;have h3:=bN.1 h3;rw[aW]at h2;injection h2 with h2;refine⟨.int k (Int.ofNat (Nat.div m (Nat.pow 2 n))),?_,by rw[←h2];rfl⟩;have e:Int.ofNat (Nat.div m (Nat.pow 2 n))=(Int.ofNat m).fdiv (2^(min (Int.ofNat n).toNat k.bits)):=by
    rw[show min (Int.ofNat n).toNat k.bits=n from Nat.min_eq_left h3];have e2:(2:Int)^n=((2^n:Nat):Int):=(by push_cast;rfl);rw[e2];exact Int.ofNat_fdiv m (2^n)
   have hn:¬(Int.ofNat n<0):=Int.not_lt.2 (Int.natCast_nonneg n);rw[e];show (Op.shift .shr k (Int.ofNat m) k (Int.ofNat n)).run P w=_;unfold Op.shift;rw[if_neg hn];rfl
  ·cases h2
 case h_17=>cases h
theorem sK:∀(l m:List Nat),eqL l m=decide (l=m)
 | [],[]=>rfl
 | [],_::_=>rfl
 |_::_,[]=>rfl
 |x::l,y::m=>by
  have e:eqL (x::l) (y::m)=cb (Nat.beq x y) (eqL l m) false:=rfl;rw[e,bU,sK l m];by_cases h:x=y
  ·subst h;rw[if_pos (aM.2 rfl)];simp
  ·rw[if_neg (by rw[aM];exact h)];simp[h]
theorem bytes_inj{s t:ByteArray}(h:bytes s=bytes t):s=t:=by
 unfold bytes at h;have h2:s.data.toList=t.data.toList:=by
  refine List.map_inj_right (f:=UInt8.toNat) (fun x y e=>UInt8.toNat_inj.1 e) |>.1 h
 cases s;cases t;congr 1;exact Array.toList_inj.1 h2
theorem str_eq(s t:ByteArray):(s.toList == t.toList)=eqL (bytes s) (bytes t):=by
 rw[sK,ByteArray.toList_eq,ByteArray.toList_eq];by_cases h:s=t
 ·subst h;simp
 ·have h1:¬bytes s=bytes t:=fun e=>h (bytes_inj e);rw[decide_eq_false h1];have h2:¬s.data.toList=t.data.toList:=fun e=>h1 (by unfold bytes;rw[e]);simpa using h2
theorem kQ(s t:ByteArray):bytes (s++t)=bytes s++bytes t:=by
 unfold bytes;rw[ByteArray.data_append,Array.toList_append,List.map_append]
theorem aJ4{op:BinOp}{r:Bool}{s:SV}(h:eqv op r=some s):(op=.eql∧s=.b r)∨(op=.neq∧s=.b (!r)):=by
 unfold eqv at h;split at h
 ·injection h with h;exact .inl ⟨rfl,h.symm⟩
 ·injection h with h;exact .inr ⟨rfl,by rw[←vV];exact h.symm⟩
 ·cases h
section
variable {P:Program} {t el:Nat} {w:World} (d:Nat)
theorem aMq{x y:Bool}(hu:P.underlying t=some .bool):(Op.equalIn (d+1) t (.bool x) (.bool y)).run P w=.ok (x == y) w:=by simp[Op.equalIn,run_underlying hu]
theorem aQX(hu:P.underlying t=some (.pointer el)):(Op.equalIn (d+1) t (.pointer none) (.pointer none)).run P w=.ok true w:=by simp[Op.equalIn,run_underlying hu]
theorem aQY{A:Addr}(hu:P.underlying t=some (.pointer el)):(Op.equalIn (d+1) t (.pointer none) (.pointer (some A))).run P w=.ok false w:=by simp[Op.equalIn,run_underlying hu]
theorem aQZ{A:Addr}(hu:P.underlying t=some (.pointer el)):(Op.equalIn (d+1) t (.pointer (some A)) (.pointer none)).run P w=.ok false w:=by simp[Op.equalIn,run_underlying hu]
theorem aQ0{n m k l:Nat}(hu:P.underlying t=some (.slice el)):(Op.equalIn (d+1) t (.slice none n m) (.slice none k l)).run P w=.ok true w:=by simp[Op.equalIn,run_underlying hu]
theorem aQ1{A:Addr}{n m k l:Nat}(hu:P.underlying t=some (.slice el)):(Op.equalIn (d+1) t (.slice none n m) (.slice (some A) k l)).run P w=.ok false w:=by simp[Op.equalIn,run_underlying hu]
theorem aQ2{A:Addr}{n m k l:Nat}(hu:P.underlying t=some (.slice el)):(Op.equalIn (d+1) t (.slice (some A) n m) (.slice none k l)).run P w=.ok false w:=by simp[Op.equalIn,run_underlying hu]
end
theorem qR{P:Program}{op:BinOp}{t:Nat}{x y:Value}{r:Bool}{s:SV}{w:World}(h:eqv op r=some s)(hb:∀op,op=.eql∨op=.neq→binOp op t x y=(if op=.eql then (do pure (.bool (←Op.equal t x y))) else (do pure (.bool (!(←Op.equal t x y))))))
  (he:(Op.equal t x y).run P w=.ok r w):∃u,(binOp op t x y).run P w=.ok u w∧SR c s u:=by
 rcases aJ4 h with⟨rfl,rfl⟩|⟨rfl,rfl⟩
 ·exact⟨.bool r,by rw[hb _ (.inl rfl),if_pos rfl,Sem.run_bind,he];rfl,rfl⟩
 ·exact⟨.bool (!r),by rw[hb _ (.inr rfl),if_neg (by decide),Sem.run_bind,he];rfl,rfl⟩
theorem aMr{P:Program}{i:TI}{d:Dk}{op:BinOp}{t:Nat}{x y s:SV}{p q:Value}(hi:Ty P t i)(hd:i.d=d)(h:aIe d op x y=some s)(hp:SR c x p)(hq:SR c y q)(w:World):∃u,(binOp op t p q).run P w=.ok u w∧SR c s u:=by
 unfold aIe at h;split at h
 ·obtain⟨el,hu⟩:=aIq hi hd;cases hp;cases hq;exact qR h (fun op ho=>by rcases ho with rfl|rfl<;>rfl) (aQX 9999 hu)
 ·obtain⟨el,hu⟩:=aIq hi hd;obtain⟨-,rfl⟩:=hq;cases hp;exact qR h (fun op ho=>by rcases ho with rfl|rfl<;>rfl) (aQY 9999 hu)
 ·obtain⟨el,hu⟩:=aIq hi hd;obtain⟨-,rfl⟩:=hp;cases hq;exact qR h (fun op ho=>by rcases ho with rfl|rfl<;>rfl) (aQZ 9999 hu)
 ·have hu:=jR hi hd;cases hp;cases hq;exact qR h (fun op ho=>by rcases ho with rfl|rfl<;>rfl) (aQ0 9999 hu)
 ·rename_i cap;have hu:=jR hi hd;cases hp;obtain⟨A,n,cp,rfl⟩:∃A n cp,q=.slice (some A) n cp:=by
   cases cap with
   |none=>
    obtain⟨-,_,_,-,k2,-⟩:=hq;exact⟨_,_,_,k2⟩
   |some cp=>exact⟨_,_,_,hq.2⟩
  exact qR h (fun op ho=>by rcases ho with rfl|rfl<;>rfl) (aQ1 9999 hu)
 ·rename_i cap;have hu:=jR hi hd;cases hq;obtain⟨A,n,cp,rfl⟩:∃A n cp,p=.slice (some A) n cp:=by
   cases cap with
   |none=>
    obtain⟨-,_,_,-,k2,-⟩:=hp;exact⟨_,_,_,k2⟩
   |some cp=>exact⟨_,_,_,hp.2⟩
  exact qR h (fun op ho=>by rcases ho with rfl|rfl<;>rfl) (aQ2 9999 hu)
 ·cases h
theorem aQ3{P:Program}{i:TI}{op:BinOp}{t:Nat}{x y s:SV}{p q:Value}(hi:Ty P t i)(h:bop i.d op x y=some s)(hp:SR c x p)(hq:SR c y q)(w:World):∃u,(binOp op t p q).run P w=.ok u w∧SR c s u:=by
 unfold bop at h;split at h
 ·rename_i k m;unfold aQO at h;split at h
  ·rename_i j n;obtain⟨h1,h2⟩:=aD.1 h;have h1:=of_decide_eq_true h1;subst h1;cases hp;cases hq;exact aQW h2 w
  ·cases h
 ·rename_i b;split at h
  ·rename_i hd;unfold aQP at h;split at h
   ·rename_i b2;cases hp;cases hq;exact qR h (fun op ho=>by rcases ho with rfl|rfl<;>rfl) (aMq 9999 (aO7 hi hd))
   ·cases h
  ·cases h
 ·rename_i l;unfold aQN at h;split at h
  ·rename_i m;obtain⟨s1,rfl,e1⟩:=hp;obtain⟨s2,rfl,e2⟩:=hq;split at h
   ·obtain⟨h1,h2⟩:=aD.1 h;injection h2 with h2;subst h2;have h1:=aP.1 h1;rw[aT,aT,←e1,←e2,bV,bV]at h1;change s1.size+s2.size<_ at h1;refine⟨.string (s1++s2),?_,s1++s2,rfl,by rw[iT,kQ,e1,e2]⟩;have h3:¬((s1.size+s2.size:Nat):Int)>IntKind.i64.max:=by
     have:IntKind.i64.max=9223372036854775807:=(by decide);omega
    show (Op.stringOp .add s1 s2).run P w=_;unfold Op.stringOp;simp only[h3,if_false];rfl
   ·rename_i op _;rcases aJ4 h with⟨rfl,rfl⟩|⟨rfl,rfl⟩
    ·exact⟨.bool (s1.toList == s2.toList),rfl,by rw[str_eq,e1,e2];rfl⟩
    ·exact⟨.bool (!(s1.toList == s2.toList)),rfl,by rw[str_eq,e1,e2];rfl⟩
  ·cases h
 ·exact aMr hi rfl h hp hq w
end
section
variable {F:Cf} {c:Cx} {wb:World} {h h':H} {nt:Nat} {e:Env} {a:Act} {o:Oper} {v:AV} {α:Type}
theorem bI{s:SV}{r:AV × H}(h1:vh s h=some r):r=(sc s,h):=by injection h1 with h1;exact h1.symm
def okC(v:Value):Bool:=match v with| .agg _=>false| .tuple _=>false| .nilIface=>false| .iface _ _=>false|_=>true
theorem aQ4{s:SV}{u:Value}(h:SR c s u)(hn:∀x,s≠.v x):okC u=true:=by
 cases s with
 |u=>cases h
 |s l=>obtain⟨_,rfl,-⟩:=h;rfl
 |p id off=>rw[h.2];rfl
 |sl id off len cap=>
  cases cap with
  |some cap=>rw[h.2];rfl
  |none=>obtain⟨_,_,_,_,rfl,-⟩:=h;rfl
 |m n=>obtain⟨_,_,_,rfl,-⟩:=h;rfl
 |f fn cs=>rw[h.2];rfl
 |y l=>rw[h.2];rfl
 |r n=>obtain⟨_,_,_,rfl,-⟩:=h;rfl
 |v x=>exact absurd rfl (hn x)
 |_=>rw[h];rfl
theorem aIr{op:BinOp}{t:Nat}{x y:Operand}{p q:Value}(hp:okC p=true):eqGuard op t x y p q=pure ():=by
 unfold eqGuard;cases p<;>first|exact Bool.noConfusion hp|(cases op<;>first|rfl|(cases q<;>rfl))
theorem uB{P:Program}{el:Nat}{j:TI}{w:World}(hj:Ty P el j)(hd:j.d.ag=false){xs:List Value}{n:Nat}{u:Value}(h:xs[n]? =some u):(part el xs.toArray n).run P w=.ok u w:=by
 unfold part;rw[Sem.run_bind,aAA hj w,Result.andThen_ok,hd];simp[h]
theorem CL.here{x:SV}{l:List SV}{xs:List Value}{n:Nat}(h:CL c (x::l) (xs.drop n)):∃u,xs[n]? =some u∧SR c x u∧CL c l (xs.drop (n+1)):=by
 cases hq:xs.drop n with
 |nil=>rw[hq]at h;exact h.elim
 |cons u r=>
  rw[hq]at h;refine⟨u,?_,h.1,?_⟩
  ·have:=congrArg List.head? hq;simpa using this
  ·have:=congrArg List.tail hq;rw[List.tail_drop]at this;rw[this];exact h.2
theorem aJ5{x y:SV}{r:Option Bool}{b:Bool}(h:aMg x y r=some b):∃k a c,x=.i k a∧y=.i k c∧((a=c∧r=some b)∨(a≠c∧b=false)):=by
 cases x with
 |i k a=>
  cases y with
  |i j c=>
   obtain⟨h1,h2⟩:=aD.1 (show cb (decide (k=j)) (cb (iEq a c) r (some false)) none=some b from h);have h1:=of_decide_eq_true h1;subst h1;refine⟨k,a,c,rfl,rfl,?_⟩;rw[bU,pY]at h2;split at h2
   ·rename_i hac;exact .inl ⟨of_decide_eq_true hac,h2⟩
   ·rename_i hac;injection h2 with h2;exact .inr ⟨fun e=>hac (decide_eq_true e),h2.symm⟩
  |_=>cases h
 |_=>cases h
theorem aJ6{P:Program}{el:Nat}{kk:IntKind}{j:TI}{w:World}(hj:Ty P el j)(hd:j.d=.int kk)(hc:P.cellsOf el=1){xs ys:List Value}{dp:Nat}:∀{l m:List SV} {n:Nat} {r:Bool},CL c l (xs.drop n)→CL c m (ys.drop n)→eqI l m=some r→(Op.eqItems (dp+1) el (P.cellsOf el) xs.toArray ys.toArray (List.range' n l.length)).run P w=.ok r w
 | [],m,n,r,hl,hm,h=>by
   cases m with
   |nil=>injection h with h;subst h;rfl
   |cons y m=>cases h
 |x::l,[],n,r,hl,hm,h=>by cases h
 |x::l,y::m,n,r,hl,hm,h=>by
  obtain⟨k,a,b,rfl,rfl,h2⟩:=aJ5 (show aMg x y (eqI l m)=some r from h);obtain⟨u,p1,p2,p3⟩:=hl.here;obtain⟨u2,p4,p5,p6⟩:=hm.here;have hu:u=.int k a:=p2;have hu2:u2=.int k b:=p5;subst hu;subst hu2;have he:(Op.equalIn (dp+1) el (.int k a) (.int k b)).run P w=.ok (a == b) w:=(by simp[Op.equalIn,run_underlying (zG hj hd)]);have hag:j.d.ag=false:=(by rw[hd];rfl);have key:(Op.eqItems (dp+1) el (P.cellsOf el) xs.toArray ys.toArray (List.range' n (SV.i k a::l).length)).run P w=(if (!(a == b))=true then (pure false:Sem Bool) else Op.eqItems (dp+1) el (P.cellsOf el) xs.toArray ys.toArray (List.range' (n+1) l.length)).run P w:=by
    rw[List.length_cons,List.range'_succ];simp only[Op.eqItems,Sem.run_bind,hc,Nat.mul_one,uB (w:=w) hj hag p1,uB (w:=w) hj hag p4,Result.andThen_ok,he]
  refine key.trans ?_;rcases h2 with⟨rfl,h2⟩|⟨hab,rfl⟩
  ·rw[if_neg (by simp)];exact aJ6 hj hd hc p3 p6 h2
  ·rw[if_pos (by simpa using hab)];rfl
theorem aQ5{k:IntKind}{a:Int}{y:SV}{r:Option Bool}{b:Bool}(h:aIf (.i k a) y r=some b):∃d,y=.i k d∧((a=d∧r=some b)∨(a≠d∧b=false)):=by
 cases y with
 |i j d=>
  obtain⟨h1,h2⟩:=aD.1 (show cb (decide (k=j)) (cb (iEq a d) r (some false)) none=some b from h);have h1:=of_decide_eq_true h1;subst h1;refine⟨d,rfl,?_⟩;rw[bU,pY]at h2;split at h2
  ·rename_i hac;exact .inl ⟨of_decide_eq_true hac,h2⟩
  ·rename_i hac;injection h2 with h2;exact .inr ⟨fun e=>hac (decide_eq_true e),h2.symm⟩
 |_=>cases h
theorem aQ6{a:List Nat}{y:SV}{r:Option Bool}{b:Bool}(h:aIf (.s a) y r=some b):∃d,y=.s d∧((a=d∧r=some b)∨(a≠d∧b=false)):=by
 cases y with
 |s d=>
  have h2:cb (eqL a d) r (some false)=some b:=h;refine⟨d,rfl,?_⟩;rw[bU,sK _ _]at h2;split at h2
  ·rename_i hac;exact .inl ⟨of_decide_eq_true hac,h2⟩
  ·rename_i hac;injection h2 with h2;exact .inr ⟨fun e=>hac (decide_eq_true e),h2.symm⟩
 |_=>cases h
theorem aEX{xs ys:List Value}{dp:Nat}{w:World}:∀{fs:List Field} {l m:List SV} {n:Nat} {r:Bool},CL c l (xs.drop n)→CL c m (ys.drop n)→eqF F fs n l m=some r→(Op.eqFields (dp+1) xs.toArray ys.toArray fs).run F.P w=.ok r w
 | [],l,m,n,r,hl,hm,h=>by
   cases l with
   |nil=>
    have h:some true=some r:=h;injection h with h;subst h;rfl
   |cons x l=>cases h
 |f::fs,l,m,n,r,hl,hm,h=>by
  obtain⟨h1,h2⟩:=aD.1 (show cb (decide (f.name≠"_")) (cb (Nat.beq f.offset n) (ob (F.ti f.type) fun j=>cb (Nat.beq j.sz 1) (hd2 l m fun x l y m=>eqD j.d x y (eqF F fs (Nat.succ n) l m)) none) none) none=some r from h);have h1:=of_decide_eq_true h1;obtain⟨h3,h4⟩:=aD.1 h2;have h3:=aM.1 h3;subst h3;obtain⟨j,hj,h5⟩:=aA.1 h4;obtain⟨h6,h7⟩:=aD.1 h5;have hT:=aO hj;cases l with
  |nil=>cases m<;>cases h7
  |cons x l=>
   cases m with
   |nil=>cases h7
   |cons y m=>
    have h7:eqD j.d x y (eqF F fs (Nat.succ f.offset) l m)=some r:=h7;obtain⟨u,p1,p2,p3⟩:=hl.here;obtain⟨u2,p4,p5,p6⟩:=hm.here;have key:∀{b:Bool},j.d.ag=false→(Op.equalIn (dp+1) f.type u u2).run F.P w=.ok b w→(Op.eqFields (dp+1) xs.toArray ys.toArray (f::fs)).run F.P w=(if (!b)=true then (pure false:Sem Bool) else Op.eqFields (dp+1) xs.toArray ys.toArray fs).run F.P w:=fun {b} hag he=>by
        simp only[Op.eqFields,h1,ne_eq,not_false_eq_true,if_true,Sem.run_bind,uB (w:=w) hT hag p1,uB (w:=w) hT hag p4,Result.andThen_ok,he]
    unfold eqD at h7;split at h7
    ·rename_i kk k a hd _;have hag:j.d.ag=false:=(by rw[hd];rfl);obtain⟨b0,rfl,h8⟩:=aQ5 h7;have hu:u=.int _ _:=p2;have hu2:u2=.int _ _:=p5;subst hu;subst hu2;refine (key hag (run_equalIn_int w dp f.type _ _ _ _ (zG hT hd))).trans ?_;rcases h8 with⟨rfl,h9⟩|⟨hab,rfl⟩
     ·rw[if_neg (by simp)];exact aEX p3 p6 h9
     ·rw[if_pos (by simpa using hab)];rfl
    ·rename_i a hd _;have hag:j.d.ag=false:=(by rw[hd];rfl);obtain⟨b0,rfl,h8⟩:=aQ6 h7;obtain⟨s1,rfl,hs1⟩:=p2;obtain⟨s2,rfl,hs2⟩:=p5;have he:=run_equalIn_string (P:=F.P) w dp f.type s1 s2 (sI hT hd);have hab0:(s1.toList == s2.toList)=decide (bytes s1=bytes s2):=by
         rw[ByteArray.toList_eq,ByteArray.toList_eq];by_cases e:s1=s2
         ·subst e;simp
         ·rw[decide_eq_false fun h=>e (bytes_inj h)];rw[beq_eq_false_iff_ne];intro h;exact e (bytes_inj (by unfold bytes;rw[h]))
     rw[hab0,hs1,hs2]at he;refine (key hag he).trans ?_;rcases h8 with⟨rfl,h9⟩|⟨hab,rfl⟩
     ·rw[if_neg (by simp)];exact aEX p3 p6 h9
     ·rw[if_pos (by simpa using hab)];rfl
    ·cases h7
theorem aQ7{i:TI}{op:BinOp}{t:Nat}{l m:List SV}{s:SV}{xs ys:List Value}(hi:Ty F.P t i)(h:arq F op t i.d l m=some s)(hp:CL c l xs)(hq:CL c m ys)(w:World):∃u,(binOp op t (.agg xs.toArray) (.agg ys.toArray)).run F.P w=.ok u w∧SR c s u:=by
 unfold arq at h;split at h
 ·split at h
  ·rename_i fs hu;obtain⟨h1,h2⟩:=cbn.1 h;obtain⟨r,h3,h4⟩:=aA.1 h2;have hf:F.P.fieldsOf t=fs:=(by unfold Program.fieldsOf;rw[hu]);have he:(Op.equal t (.agg xs.toArray) (.agg ys.toArray)).run F.P w=.ok r w:=by
    show (Op.equalIn (9999+1) t (.agg xs.toArray) (.agg ys.toArray)).run F.P w=.ok r w;rw[run_equalIn_struct w 9999 t _ _ (by rw[hf];exact hu) h1,hf];exact aEX (dp:=9998) (n:=0) hp hq h3
   exact qR h4 (fun op ho=>by rcases ho with rfl|rfl<;>rfl) he
  ·cases h
 ·rename_i n el hd;obtain⟨j,hj,h2⟩:=aA.1 h;split at h2
  ·rename_i kk hk;obtain⟨h3,h4⟩:=aD.1 h2;obtain⟨h5,h6⟩:=aD.1 h4;obtain⟨h7,h8⟩:=aD.1 h6;obtain⟨r,h9,h10⟩:=aA.1 h8;have h3:=aM.1 h3;have h5:=aM.1 h5;rw[aT]at h5;have hT:=aO hj;obtain⟨inf,-,-,k1,-,-,k2,-⟩:=hT.ex;have hc:F.P.cellsOf el=1:=(by rw[←h3,k2];simp[Program.cellsOf,k1]);have he:(Op.equal t (.agg xs.toArray) (.agg ys.toArray)).run F.P w=.ok r w:=by
    have:=aJ6 (n:=0) (w:=w) (dp:=9998) (xs:=xs) (ys:=ys) hT hk hc hp hq h9;rw[←List.range_eq_range',h5]at this;show (Op.equalIn (9999+1) t (.agg xs.toArray) (.agg ys.toArray)).run F.P w=.ok r w;rw[run_equalIn_array (w:=w) 9999 _ _ (aB0 hi hd) k1];exact this
   exact qR h10 (fun op ho=>by rcases ho with rfl|rfl<;>rfl) he
  ·cases h2
 ·cases h
theorem aJ7{P:Program}{op:BinOp}{t:Nat}{x y:Operand}{xs ys:Array Value}{w:World}(h:P.eqGuardType P.depth t=false):(eqGuard op t x y (.agg xs) (.agg ys)).run P w=.ok () w:=by
 unfold eqGuard;cases op<;>simp[h]
theorem aS7{op:BinOp}{t t2:Nat}{x y:Operand}(hr:Rl c wb h)(ht:Tr c nt e a.tmps)(ho:o.op=.binOp op t x y t2)(hx:yV F e h op t x y=some (v,h')):∃u w',OpR F.P a.eval o c.w u w'∧Po c wb h' v u w':=by
 obtain⟨i,h1,h2⟩:=aA.1 hx;obtain⟨v1,h3,h4⟩:=aA.1 h2;obtain⟨v2,h5,h6⟩:=aA.1 h4;have he:execOp a.eval o=(do pure (Next.value (←(do eqGuard op t x y (a.eval x) (a.eval y);binOp op t (a.eval x) (a.eval y))))):=by unfold execOp;rw[ho]
 rw[bU]at h6;split at h6
 ·obtain⟨hg,h6⟩:=cbn.1 h6;obtain⟨l,rfl,h7⟩:=rW.1 h6;obtain⟨m,rfl,h8⟩:=rW.1 h7;obtain⟨s,h9,h10⟩:=aA.1 h8;have h10:=bI h10;injection h10 with h10 h11;subst h10;subst h11;obtain⟨xs,hp,k1⟩:=bJ ht h3;obtain⟨ys,hq,k2⟩:=bJ ht h5;obtain⟨u,k3,k4⟩:=aQ7 (aO h1) h9 k1 k2 c.w;refine⟨u,c.w,OpR.vl he ?_,Po.same hr (aF.2 k4)⟩;rw[Sem.run_bind,hp,hq,aJ7 hg];exact k3
 obtain⟨s1,rfl,h7⟩:=aL.1 h6;obtain⟨s2,rfl,h8⟩:=aL.1 h7;obtain⟨s,h9,h10⟩:=aA.1 h8;have h10:=bI h10;injection h10 with h10 h11;subst h10;subst h11;have hp:=aF.1 (bJ ht h3);have hq:=aF.1 (bJ ht h5);obtain⟨u,k1,k2⟩:=aQ3 (aO h1) h9 hp hq c.w;refine⟨u,c.w,OpR.vl he ?_,Po.same hr (aF.2 k2)⟩;rw[aIr (aQ4 hp fun x e=>by
  subst e;cases hd:i.d<;>rw[hd]at h9<;>cases h9)]
 exact k1
theorem aUt{op:UnOp}{t:Nat}{x:Operand}(hr:Rl c wb h)(ht:Tr c nt e a.tmps)(ho:o.op=.unOp op t x)(hx:oUn e h op x=some (v,h')):∃u w',OpR F.P a.eval o c.w u w'∧Po c wb h' v u w':=by
 obtain⟨v1,h1,h2⟩:=aA.1 hx;obtain⟨s1,rfl,h3⟩:=aL.1 h2;have hp:=aF.1 (bJ ht h1);have he:execOp a.eval o=(do pure (Next.value (←Op.unary op (a.eval x)))):=by unfold execOp;rw[ho]
 split at h3
 ·rename_i k n;obtain⟨s,h4,h5⟩:=aA.1 h3;have h5:=bI h5;injection h5 with h5 h6;subst h5;subst h6;have hp:a.eval x=.int k n:=hp;refine⟨.int k (k.wrap (0-n)),c.w,OpR.vl he ?_,Po.same hr (aF.2 (by rw[sJ h4];rfl))⟩;simp only[hp,Op.unary,Op.intArith,Sem.run_pure]
 ·rename_i b;have h5:=bI h3;injection h5 with h5 h6;subst h5;subst h6;have hp:a.eval x=.bool b:=hp;refine⟨.bool (!b),c.w,OpR.vl he ?_,Po.same hr (aF.2 (by rw[vV];rfl))⟩;simp only[hp,Op.unary,Sem.run_pure]
 ·cases h3
theorem aQ8{t t2:Nat}{x:Operand}(hr:Rl c wb h)(ht:Tr c nt e a.tmps)(ho:o.op=.convert t t2 x)(hx:tY F e h t t2 x=some (v,h')):∃u w',OpR F.P a.eval o c.w u w'∧Po c wb h' v u w':=by
 obtain⟨i,h1,h2⟩:=aA.1 hx;obtain⟨j,h3,h4⟩:=aA.1 h2;obtain⟨v1,h5,h6⟩:=aA.1 h4;obtain⟨s1,rfl,h7⟩:=aL.1 h6;have hp:=aF.1 (bJ ht h5);have he:execOp a.eval o=(do pure (Next.value (←convert t t2 (a.eval x)))):=by unfold execOp;rw[ho]
 split at h7
 ·rename_i k0 k k1 n hd1 hd2;obtain⟨s,h8,h9⟩:=aA.1 h7;have h9:=bI h9;injection h9 with h9 h10;subst h9;subst h10;have hp:a.eval x=.int k1 n:=hp;have hs:s=.i k (k.wrap n):=by
   cases n with
   |ofNat m=>exact pX h8
   |negSucc m=>exact sJ h8
  refine⟨.int k (k.wrap n),c.w,OpR.vl he ?_,Po.same hr (aF.2 (by rw[hs];rfl))⟩;simp only[convert,Sem.run_bind,run_underlying (zG (aO h1) hd1),run_underlying (zG (aO h3) hd2),Result.andThen_ok,hp,Conv.intToInt,Sem.run_pure]
 ·rename_i l hd1 hd2;have h9:=bI h7;injection h9 with h9 h10;subst h9;subst h10;obtain⟨st,hp1,hp2⟩:=hp;refine⟨.string st,c.w,OpR.vl he ?_,Po.same hr (aF.2 ⟨st,rfl,hp2⟩)⟩;simp only[convert,Sem.run_bind,run_underlying (sI (aO h1) hd1),run_underlying (sI (aO h3) hd2),Result.andThen_ok,hp1,Sem.run_pure]
 ·cases h7
theorem aHc:∀{l:List AV} {cs:List (Nat × Nat)} {vs:List Value},dX l=some cs→VL c l vs→(∀p∈cs,c.k p.1)∧vs=cs.map (ptr c)
 | [],cs,[],hc,_=>by injection hc with hc;subst hc;exact⟨fun p hp=>(by cases hp),rfl⟩
 |x::l,cs,v::vs,hc,hv=>by
  have e1:dX (x::l)=one x fun s=>match s with| .p id off=>ob (dX l) fun r=>some ((id,off)::r)|_=>none:=rfl
  rw[e1]at hc;obtain⟨s,rfl,h2⟩:=aL.1 hc;split at h2
  ·rename_i id off;obtain⟨r,h3,h4⟩:=aA.1 h2;injection h4 with h4;subst h4;obtain⟨k1,k2⟩:=aHc h3 hv.2;obtain⟨k3,k4⟩:=aF.1 hv.1;refine⟨fun p hp=>?_,by rw[k2,k4];rfl⟩;rcases List.mem_cons.1 hp with rfl|hp
   ·exact k3
   ·exact k1 p hp
  ·cases h2
theorem aQ9{fn:Fn}{f0 c0:Array Operand}(hr:Rl c wb h)(ht:Tr c nt e a.tmps)(ho:o.op=.makeFunc fn f0 c0)(hx:oV e h fn f0.toList c0.toList=some (v,h')):∃u w',OpR F.P a.eval o c.w u w'∧Po c wb h' v u w':=by
 unfold oV at hx;split at hx
 ·rename_i f hf;obtain⟨l,h1,h2⟩:=aA.1 hx;obtain⟨cs,h3,h4⟩:=aA.1 h2;have h5:=bI h4;injection h5 with h5 h6;subst h5;subst h6;obtain⟨k1,k2⟩:=aHc h3 (rX ht h1);have hf0:f0=#[]:=by
   cases f0 with
   |mk l=>simp at hf;subst hf;rfl
  have hc0:c0.map a.eval=(cs.map (ptr c)).toArray:=by
   rw[←k2];apply Array.toList_inj.1;simp
  refine⟨.func (.func f) #[] (cs.map (ptr c)).toArray,c.w,OpR.vl (s:=Instr.makeFunc (.func f) (f0.map a.eval) (c0.map a.eval)) (by unfold execOp;rw[ho]) ?_,Po.same hr (aF.2 ⟨k1,rfl⟩)⟩;rw[hf0,hc0];simp[Instr.makeFunc]
 ·rename_i m r hf;split at hx
  ·rename_i hc0;obtain⟨v1,h1,h2⟩:=aA.1 hx;obtain⟨s,rfl,h3⟩:=aL.1 h2;split at h3
   ·rename_i y;obtain⟨h4,h5⟩:=aD.1 h3;have h5:=bI h5;injection h5 with h5 h6;subst h5;subst h6;have hy:a.eval r=y:=(aF.1 (bJ ht h1)).1;have e1:f0.map a.eval=#[y]:=by
     apply Array.toList_inj.1;rw[Array.toList_map,hf,List.map_cons,hy];rfl
    have e2:c0.map a.eval=#[]:=by
     apply Array.toList_inj.1;rw[Array.toList_map,hc0];rfl
    refine⟨.func (.method m) #[y] #[],c.w,OpR.vl (s:=Instr.makeFunc (.method m) (f0.map a.eval) (c0.map a.eval)) (by unfold execOp;rw[ho]) ?_,Po.same hr (aF.2 ⟨rfl,?_⟩)⟩
    ·rw[e1,e2];obtain⟨t,rfl⟩:=aAz h4;rfl
    ·obtain⟨t,rfl⟩:=aAz h4;rfl
   ·cases h3
  ·cases hx
 ·cases hx
theorem vX{l:List SV}{r:List Value}(hc:CL c l r):∀n,CL c (fJ l n) (List.replicate n r).flatten
 |0=>trivial
 |n+1=>by
  have e1:fJ l (n+1)=app l (fJ l n):=rfl;rw[e1,iT,List.replicate_succ,List.flatten_cons];exact hc.app (vX hc n)
theorem flat_get{r:List Value}(hr:0<r.length):∀(n j:Nat),j<n*r.length→(List.replicate n r).flatten[j]? =r[j % r.length]?
 |0,j,h=>by simp at h
 |n+1,j,h=>by
  rw[List.replicate_succ,List.flatten_cons];by_cases hj:j<r.length
  ·rw[List.getElem?_append_left hj,Nat.mod_eq_of_lt hj]
  ·rw[List.getElem?_append_right (by omega),flat_get hr n (j-r.length) (by rw[Nat.succ_mul]at h;omega)];congr 1;exact (Nat.mod_eq_sub_mod (by omega)).symm
theorem aAD{z:Array Value}(n:Nat):(madeCells z (n*z.size)).toList=(List.replicate n z.toList).flatten:=by
 by_cases hz:z.size=0
 ·have h1:z.toList=[]:=List.eq_nil_of_length_eq_zero (by simpa using hz);have h2:(List.replicate n ([]:List Value)).flatten=[]:=(by simp);rw[h1,h2,hz,Nat.mul_zero];simp[madeCells]
 ·apply List.ext_getElem?;intro j;have hl:(List.replicate n z.toList).flatten.length=n*z.size:=(by simp);by_cases hj:j<n*z.size
  ·rw[flat_get (by simpa using by omega) n j (by simpa using hj)];have hm:j % z.size<z.size:=Nat.mod_lt _ (by omega);simp[madeCells,hj,hm]
  ·rw[List.getElem?_eq_none (by rw[Array.length_toList,size_madeCells];omega),List.getElem?_eq_none (by omega)]
theorem aRa{t:Nat}{x y:Operand}(hr:Rl c wb h)(ht:Tr c nt e a.tmps)(ho:o.op=.makeSlice t x y)(hx:tZ F e h t x y=some (v,h')):∃u w',OpR F.P a.eval o c.w u w'∧Po c wb h' v u w':=by
 obtain⟨i,h1,h2⟩:=aA.1 hx;obtain⟨el,h3,h4⟩:=aA.1 h2;obtain⟨j,h5,h6⟩:=aA.1 h4;obtain⟨v1,h7,h8⟩:=aA.1 h6;obtain⟨s1,rfl,h9⟩:=aL.1 h8;obtain⟨k1,n,rfl,h10⟩:=iU h9;obtain⟨v2,h11,h12⟩:=aA.1 h10;obtain⟨s2,rfl,h13⟩:=aL.1 h12;obtain⟨k2,m,rfl,h14⟩:=iU h13;obtain⟨h15,h16⟩:=aD.1 h14;obtain⟨h17,h18⟩:=aD.1 h16;obtain⟨h19,h20⟩:=aD.1 h18;unfold H.nw at h20;rw[aW]at h20;have h21:=bI h20;injection h21 with h21 h22;subst h21;subst h22;obtain⟨inf,d,z,g1,g2,g3,g4,g5,g6,g7,g8⟩:=(aO h5).ex;have hn:a.eval x=.int k1 (n:Int):=aF.1 (bJ ht h7);have hm:a.eval y=.int k2 (m:Int):=aF.1 (bJ ht h11);have h15:=bN.1 h15;have h17:=bN.1 h17;have h19:=aP.1 h19;change m*j.by_≤_ at h17;have hz:z.cells.size=inf.size:=by rw[←g8,Array.length_toList]
 have hb:(inf.bytes:Int)*(m:Int)≤281474976710656:=by
  have e2:((inf.bytes*m:Nat):Int)=(inf.bytes:Int)*(m:Int):=Int.natCast_mul _ _;rw[←e2,Nat.mul_comm,←g5];omega
 have hrun:=run_make (P:=F.P) c.w t el inf z (vU (aO h1) h3) g1 g6 k1 k2 (n:Int) (m:Int) (by omega) (by omega) hb (by omega);simp only[Int.toNat_natCast]at hrun;have hcl:CL c (fJ j.ze m) (madeCells z.cells (m*inf.size)).toList:=by
  rw[←hz,aAD];exact vX (lW g7) m
 obtain⟨dd,hw,X,R,hd,hlt⟩:=aBX hr ⟨el,fJ j.ze m⟩ hcl;refine⟨_,_,OpR.vl (s:=Instr.makeSlice t (a.eval x) (a.eval y)) (by unfold execOp;rw[ho]) (by rw[hn,hm];exact hrun),dd,hw,X,R,aF.2 ⟨hlt,by rw[hd]⟩⟩
theorem gX{x:Option Operand}{d:Nat}{k:Nat→Option α}{y:α}(h:bound e x d k=some y):∃n,k n=some y∧((x=none∧n=d)∨∃z kk,x=some z∧ev e z=some (sc (.i kk (Int.ofNat n)))):=by
 cases x with
 |none=>exact⟨d,h,.inl ⟨rfl,rfl⟩⟩
 |some x=>
  obtain⟨v,h1,h2⟩:=aA.1 (show (ob (ev e x) fun v=>one v fun s=>natOf s k)=some y from h);obtain⟨s,rfl,h3⟩:=aL.1 h2;obtain⟨kk,n,rfl,h4⟩:=iU h3;exact⟨n,h4,.inr ⟨x,kk,rfl,h1⟩⟩
theorem nZ{l m n:Nat}{k:Option α}{y:α}(h:chk l m n k=some y):l≤m∧m≤n∧k=some y:=by
 obtain⟨h1,h2⟩:=aD.1 h;obtain⟨h3,h4⟩:=aD.1 h2;exact⟨bN.1 h1,bN.1 h3,h4⟩
def Bd(a:Act)(x:Option Operand)(d n:Nat):Prop:=(x.map a.eval=none∧n=d)∨∃kk,x.map a.eval=some (.int kk (n:Int))
theorem Bd.of(ht:Tr c nt e a.tmps){x:Option Operand}{d n:Nat}(h:(x=none∧n=d)∨∃z kk,x=some z∧ev e z=some (sc (.i kk (Int.ofNat n)))):Bd a x d n:=by
 rcases h with⟨rfl,h⟩|⟨z,kk,rfl,h⟩
 ·exact .inl ⟨rfl,h⟩
 ·exact .inr ⟨kk,by have:=aF.1 (bJ ht h);rw[Option.map_some,this];rfl⟩
theorem aIs{P:Program}{lo hi:Option Operand}{len cap l m:Nat}{b:Bool}(h1:Bd a lo 0 l)(h2:Bd a hi len m)(hl:l≤m)(hm:m≤cap)(w:World):
  (Instr.sliceBounds b len cap (lo.map a.eval) (hi.map a.eval) none).run P w=.ok (l,m,cap) w:=by
 have e1:∀(k:IntKind) (code:BoundsCode) (y n:Nat),n≤y→(Instr.sliceBound (.int k (n:Int)) y code).run P w=.ok n w:=fun k code y n hn=>by
  rw[run_sliceBound w k (n:Int) y code (by omega) (by omega),Int.toNat_natCast]
 rcases h1 with⟨h1,rfl⟩|⟨k1,h1⟩<;>rcases h2 with⟨h2,rfl⟩|⟨k2,h2⟩<;>rw[h1,h2]<;>simp only[Instr.sliceBounds,Sem.run_bind,Sem.run_pure,Result.andThen_ok,Option.isSome_none,Bool.false_eq_true,if_false]
 ·rw[e1 _ _ _ _ hm];rfl
 ·rw[e1 _ _ _ _ hl];rfl
 ·rw[e1 _ _ _ _ hm];simp only[Result.andThen_ok];rw[e1 _ _ _ _ hl];rfl
theorem zH{P:Program}{t el l m n cap:Nat}{A:Option Addr}{lo hi:Option Operand}{g:TI}(hu:P.underlying t=some (.slice el))(hg:Ty P el g)(h1:Bd a lo 0 l)(h2:Bd a hi n m)(hl:l≤m)(hm:m≤cap)(w:World):
  (Instr.sliceAt t (.slice A n cap) (lo.map a.eval) (hi.map a.eval) none).run P w=.ok (.slice (if cap=l then A else A.map (·.add (l*g.sz))) (m-l) (cap-l)) w:=by
 simp only[Instr.sliceAt,Instr.slice,Sem.run_bind,run_underlying hu,Result.andThen_ok,aIs h1 h2 hl hm w,gB hg,Sem.run_pure]
theorem aRb{id off n n1 n2:Nat}{p:Value}(hp:SR c (.sl id off n none) p)(k1:n1≤n2)(k2:n2≤n)(z:Nat):∃A cp,p=.slice (some A) n cp∧n≤cp∧SR c (.sl id (off+n1*z) (n2-n1) none) (.slice (if cp=n1 then some A else (some A).map (·.add (n1*z))) (n2-n1) (cp-n1)):=by
 obtain⟨hid,cp,o,hle,rfl,hoff,t0,cs0,fr0,g1,g2⟩:=hp;refine⟨_,cp,rfl,hle,hid,cp-n1,if cp=n1 then o else o+n1*z,by omega,?_,fun hh=>?_,t0,cs0,fr0,g1,fun hh=>?_⟩
 ·split
  ·rfl
  ·show Value.slice (some ((⟨c.r id,o,none⟩:Addr).add (n1*z))) _ _=_;rw[add0]
 ·rcases hh with hh|hh
  ·rw[if_neg (by omega),hoff (.inl (by omega))]
  ·have h0:off=0:=(by omega);have h1:n1*z=0:=(by omega);rw[hoff (.inr h0),h0,h1];simp
 ·exact Nat.le_trans (Nat.mul_le_mul_right _ (Nat.sub_le _ _)) (g2 (by omega))
theorem aRc{P:Program}{lo hi mx:Option Operand}{len cap l m k d1 d2:Nat}(h1:Bd a lo 0 l)(h2:Bd a hi d1 m)(hhi:hi≠none)(h3:Bd a mx d2 k)(hmx:mx≠none)(hl:l≤m)(hm:m≤k)(hk:k≤cap)(w:World):
  (Instr.sliceBounds true len cap (lo.map a.eval) (hi.map a.eval) (mx.map a.eval)).run P w=.ok (l,m,k) w:=by
 have e1:∀(k:IntKind) (code:BoundsCode) (y n:Nat),n≤y→(Instr.sliceBound (.int k (n:Int)) y code).run P w=.ok n w:=fun k code y n hn=>by
  rw[run_sliceBound w k (n:Int) y code (by omega) (by omega),Int.toNat_natCast]
 have n2:∃kk,hi.map a.eval=some (.int kk (m:Int)):=h2.elim (fun h=>by cases hi<;>simp at h hhi) id;have n3:∃kk,mx.map a.eval=some (.int kk (k:Int)):=h3.elim (fun h=>by cases mx<;>simp at h hmx) id;obtain⟨q2,n2⟩:=n2;obtain⟨q3,n3⟩:=n3;rcases h1 with⟨h1,rfl⟩|⟨q1,h1⟩<;>rw[h1,n2,n3]<;>simp only[Instr.sliceBounds,Sem.run_bind,Sem.run_pure,Result.andThen_ok,Option.isSome_some,if_true,e1 _ _ _ _ hk,e1 _ _ _ _ hm];rw[e1 _ _ _ _ hl];rfl
theorem aB1{P:Program}{t el l m k n cap d1 d2:Nat}{A:Option Addr}{lo hi mx:Option Operand}{g:TI}(hu:P.underlying t=some (.slice el))(hg:Ty P el g)(h1:Bd a lo 0 l)(h2:Bd a hi d1 m)(hhi:hi≠none)(h3:Bd a mx d2 k)(hmx:mx≠none)(hl:l≤m)(hm:m≤k)(hk:k≤cap)(w:World):
  (Instr.sliceAt t (.slice A n cap) (lo.map a.eval) (hi.map a.eval) (mx.map a.eval)).run P w=.ok (.slice (if k=l then A else A.map (·.add (l*g.sz))) (m-l) (k-l)) w:=by
 simp only[Instr.sliceAt,Instr.slice,Sem.run_bind,run_underlying hu,Result.andThen_ok,aRc h1 h2 hhi h3 hmx hl hm hk w,gB hg,Sem.run_pure]
theorem aMs{t:Nat}{x:Operand}{lo:Option Operand}{hi mx:Operand}(hr:Rl c wb h)(ht:Tr c nt e a.tmps)(ho:o.op=.slice t x lo (some hi) (some mx))(hx:jG F e h t x lo (some hi) (some mx)=some (v,h')):∃u w',OpR F.P a.eval o c.w u w'∧Po c wb h' v u w':=by
 obtain⟨i,h1,h2⟩:=aA.1 (show (ob (F.ti t) _)=some (v,h') from hx);obtain⟨v1,h3,h4⟩:=aA.1 h2;obtain⟨s1,rfl,h5⟩:=aL.1 h4;have hp:=aF.1 (bJ ht h3);have he:execOp a.eval o=(do pure (Next.value (←Instr.sliceAt t (a.eval x) (lo.map a.eval) ((some hi).map a.eval) ((some mx).map a.eval)))):=by unfold execOp;rw[ho]
 split at h5
 ·rename_i el id off n cap hd;obtain⟨z,h6,h7⟩:=aA.1 h5;obtain⟨g,hg,rfl⟩:=mK h6;obtain⟨n1,h8,b1⟩:=gX h7;obtain⟨n2,h9,b2⟩:=gX h8;obtain⟨n3,h10,b3⟩:=gX h9;have hu:=jR (aO h1) hd;unfold slM at h10;obtain⟨k1,h11⟩:=aD.1 h10;obtain⟨k2,h12⟩:=aD.1 h11;have k1:=bN.1 k1;have k2:=bN.1 k2;cases cap with
  |none=>
   obtain⟨k3,h13⟩:=aD.1 (show cb (Nat.ble n3 n) _ none=some (v,h') from h12);obtain⟨k4,h14⟩:=aD.1 h13;have k3:=bN.1 k3;have k4:=aP.1 k4;have h15:=bI h14;injection h15 with h15 h16;subst h15;subst h16;obtain⟨hid,cp,o1,hle,hp,hoff,-⟩:=hp;have ho1:=hoff (.inl (by omega));subst ho1;have hrun:=aB1 (P:=F.P) (n:=n) (A:=some ⟨c.r id,o1,none⟩) hu (aO hg) (Bd.of ht b1) (Bd.of ht b2) (by simp) (Bd.of ht b3) (by simp) k1 k2 (Nat.le_trans k3 hle) c.w;rw[←hp,if_neg (by omega)]at hrun;refine⟨_,c.w,OpR.vl he hrun,Po.same hr (aF.2 ⟨hid,?_⟩)⟩;show Value.slice (some ((⟨c.r id,o1,none⟩:Addr).add (n1*g.sz))) (n2-n1) (n3-n1)=_;rw[add0];rfl
  |some cp=>
   obtain⟨k3,h13⟩:=aD.1 (show cb (Nat.ble n3 cp) _ none=some (v,h') from h12);have k3:=bN.1 k3;obtain⟨hid,hp⟩:=hp;have hrun:=aB1 (P:=F.P) (n:=n) (A:=some ⟨c.r id,off,none⟩) hu (aO hg) (Bd.of ht b1) (Bd.of ht b2) (by simp) (Bd.of ht b3) (by simp) k1 k2 k3 c.w;rw[←hp]at hrun;rw[bU]at h13;split at h13
   ·rename_i k4;have k4:=aP.1 k4;have h15:=bI h13;injection h15 with h15 h16;subst h15;subst h16;rw[if_neg (by omega)]at hrun;refine⟨_,c.w,OpR.vl he hrun,Po.same hr (aF.2 ⟨hid,?_⟩)⟩;show Value.slice (some ((⟨c.r id,off,none⟩:Addr).add (n1*g.sz))) (n2-n1) (n3-n1)=_;rw[add0];rfl
   ·rename_i k4;have k4:¬n1<n3:=fun h=>k4 (aP.2 h);have h15:=bI h13;injection h15 with h15 h16;subst h15;subst h16;have e1:n2-n1=0:=(by omega);have e2:n3-n1=0:=(by omega);rw[if_pos (by omega),e1,e2]at hrun;exact⟨_,c.w,OpR.vl he hrun,Po.same hr (aF.2 ⟨hid,rfl⟩)⟩
 ·cases h5
theorem aO9{t:Nat}{x:Operand}{lo hi mx:Option Operand}(hr:Rl c wb h)(ht:Tr c nt e a.tmps)(ho:o.op=.slice t x lo hi mx)(hx:jG F e h t x lo hi mx=some (v,h')):∃u w',OpR F.P a.eval o c.w u w'∧Po c wb h' v u w':=by
 cases mx with
 |some m=>
  cases hi with
  |none=>exact absurd (show (none:Option VH)=some (v,h') from hx) (fun h=>by cases h)
  |some hi=>exact aMs hr ht ho hx
 |none=>
  obtain⟨i,h1,h2⟩:=aA.1 (show (ob (F.ti t) _)=some (v,h') from hx);obtain⟨v1,h3,h4⟩:=aA.1 h2;obtain⟨s1,rfl,h5⟩:=aL.1 h4;have hp:=aF.1 (bJ ht h3);have he:execOp a.eval o=(do pure (Next.value (←Instr.sliceAt t (a.eval x) (lo.map a.eval) (hi.map a.eval) none))):=(by unfold execOp;rw[ho];rfl);split at h5
  ·rename_i l hd;obtain⟨n1,h6,h7⟩:=gX h5;obtain⟨n2,h8,h9⟩:=gX h6;obtain⟨k1,k2,k3⟩:=nZ h8;obtain⟨l2,h10,h11⟩:=aA.1 k3;have h12:=bI h11;injection h12 with h12 h13;subst h12;subst h13;obtain⟨st,hs1,hs2⟩:=hp;rw[jY]at h10;obtain⟨h14,rfl⟩:=kY.1 h10;have hlen:len l=st.size:=(by rw[aT,←hs2,bV]);rw[hlen]at k2 h9;have hb:=aIs (P:=F.P) (b:=false) (Bd.of ht h7) (Bd.of ht h9) k1 k2 c.w;refine⟨.string (st.extract n1 n2),c.w,OpR.vl he ?_,Po.same hr (aF.2 ⟨_,rfl,?_⟩)⟩
   ·simp only[Instr.sliceAt,Instr.slice,Sem.run_bind,run_underlying (sI (aO h1) hd),Result.andThen_ok,hs1,Option.isSome_none,Bool.false_eq_true,if_false,hb,Sem.run_pure]
   ·rw[←hs2];unfold bytes;rw[ByteArray.data_extract,Array.toList_extract,List.extract_eq_take_drop,List.map_take,List.map_drop];rfl
  ·rename_i el hd;obtain⟨z,hz1,hz2⟩:=aA.1 h5;obtain⟨g,hg,rfl⟩:=mK hz1;obtain⟨n1,h6,h7⟩:=gX hz2;obtain⟨n2,h8,h9⟩:=gX h6;obtain⟨k1,k2,k3⟩:=nZ h8;have h12:=bI k3;injection h12 with h12 h13;subst h12;subst h13;have hu:=jR (aO h1) hd;have hp:a.eval x=.slice none 0 0:=hp;have hb:=aIs (P:=F.P) (b:=true) (Bd.of ht h7) (Bd.of ht h9) k1 k2 c.w;have z2:n2=0:=(by omega);have z1:n1=0:=(by omega);subst z2;subst z1;refine⟨.slice none 0 0,c.w,OpR.vl he ?_,Po.same hr (aF.2 rfl)⟩;simp[Instr.sliceAt,Instr.slice,Sem.run_bind,run_underlying hu,Result.andThen_ok,hp,hb,gB (aO hg)]
  ·rename_i el id off n cap hd;obtain⟨z,h6,h7⟩:=aA.1 h5;obtain⟨g,hg,rfl⟩:=mK h6;obtain⟨n1,h8,h9⟩:=gX h7;obtain⟨n2,h10,h11⟩:=gX h8;have hu:=jR (aO h1) hd;cases cap with
   |none=>
    have h10:slN h id off n n1 n2 g.sz=some (v,h'):=h10;unfold slN at h10;have key:n1≤n2→n2≤n→some (sc (.sl id (off+n1*g.sz) (n2-n1) none),h)=some (v,h')→∃u w',OpR F.P a.eval o c.w u w'∧Po c wb h' v u w':=fun k1 k2 k3=>by
       injection k3 with k3;injection k3 with h14 h15;subst h14;subst h15;obtain⟨A,cp,hp1,hle,hsr⟩:=aRb hp k1 k2 g.sz;have hrun:=zH (P:=F.P) (n:=n) (A:=some A) hu (aO hg) (Bd.of ht h9) (Bd.of ht h11) k1 (Nat.le_trans k2 hle) c.w;rw[←hp1]at hrun;exact⟨_,c.w,OpR.vl he hrun,Po.same hr (aF.2 hsr)⟩
    rw[bU]at h10;split at h10
    ·rename_i hz;have hz:=aM.1 hz;subst hz;obtain⟨k1,k2,k3⟩:=nZ h10;exact key k1 k2 (by rw[Nat.zero_mul];exact k3)
    ·obtain⟨k1,k2,k3⟩:=nZ h10;exact key k1 k2 k3
   |some cp=>
    obtain⟨hid,hp⟩:=hp;have h10:cb (Nat.blt n1 cp) (chk n1 n2 cp (vh (.sl id (Nat.add off (Nat.mul n1 g.sz)) (Nat.sub n2 n1) (some (Nat.sub cp n1))) h)) (cb (Nat.beq n1 0) (chk n1 n2 cp (vh (.sl id off (Nat.sub n2 n1) (some cp)) h)) none)=some (v,h'):=h10;rw[bU]at h10;split at h10
    ·rename_i hlt;have hlt:=aP.1 hlt;obtain⟨k1,k2,k3⟩:=nZ h10;have h14:=bI k3;injection h14 with h14 h15;subst h14;subst h15;have hrun:=zH (P:=F.P) (A:=some ⟨c.r id,off,none⟩) (cap:=cp) hu (aO hg) (Bd.of ht h9) (Bd.of ht h11) k1 k2 c.w;rw[←hp,if_neg (by omega)]at hrun;refine⟨_,c.w,OpR.vl he hrun,Po.same hr (aF.2 ⟨hid,?_⟩)⟩;show Value.slice (some ((⟨c.r id,off,none⟩:Addr).add (n1*g.sz))) (n2-n1) (cp-n1)=_;rw[add0];rfl
    ·obtain⟨hz,h11'⟩:=aD.1 h10;have hz:=aM.1 hz;subst hz;obtain⟨k1,k2,k3⟩:=nZ h11';have h14:=bI k3;injection h14 with h14 h15;subst h14;subst h15;have hrun:=zH (P:=F.P) (A:=some ⟨c.r id,off,none⟩) (cap:=cp) hu (aO hg) (Bd.of ht h9) (Bd.of ht h11) k1 k2 c.w;rw[←hp]at hrun;refine⟨_,c.w,OpR.vl he hrun,Po.same hr (aF.2 ⟨hid,?_⟩)⟩;show Value.slice _ (n2-0) (cp-0)=Value.slice _ (n2-0) cp;congr 1;split
     ·rfl
     ·show some ((⟨c.r id,off,none⟩:Addr).add (0*g.sz))=_;rw[add0];simp
  ·cases h5
end
section
variable {F:Cf} {c:Cx} {wb:World} {h h':H} {nt:Nat} {e:Env} {a:Act} {o:Oper} {v:AV} {α:Type}
theorem aHd(off:Nat):∀(l:List Value) (k:Nat) (cells:Array Value),off+k+l.length≤cells.size→
  ((l.zipIdx k).foldl (fun cs p=>cs.setIfInBounds (off+p.2) p.1) cells).toList=cells.toList.take (off+k)++l++cells.toList.drop (off+k+l.length)
 | [],k,cells,_=>by simp
 |x::l,k,cells,hl=>by
  rw[List.zipIdx_cons,List.foldl_cons];have ih:=aHd off l (k+1) (cells.setIfInBounds (off+k) x) (by simp at hl⊢;omega);refine ih.trans ?_;have e:=list_seg_step cells.toList (off+k) x l (by simp at hl⊢;omega);simpa [Array.toList_setIfInBounds,Nat.add_assoc] using e
theorem aAE(ht:Tr c nt e a.tmps){pl place:Nat→Option (Nat × Nat)}(hp:∀i q,pl i=some q→place i=some q):∀{l:List (Nat × Operand)} {acc out:List SV} {cells:Array Value},parts pl e l acc=some out→CL c acc cells.toList→
  ∃cs,Instr.fill place cells (l.map fun p=>(p.1,a.eval p.2))=some cs∧CL c out cs.toList
 | [],acc,out,cells,h1,h2=>by injection h1 with h1;subst h1;exact⟨cells,rfl,h2⟩
 |p::l,acc,out,cells,h1,h2=>by
  have e1:parts pl e (p::l) acc=ob (pl p.1) fun q=>ob (ev e p.2) fun v=>E.cells v fun c=>cb (Nat.beq (len c) q.2) (ob (dU q.1 c acc) (parts pl e l)) none:=rfl;rw[e1]at h1;obtain⟨q,h3,h4⟩:=aA.1 h1;obtain⟨v1,h5,h6⟩:=aA.1 h4;obtain⟨g,cl,rfl,h7⟩:=nI.1 h6;obtain⟨h8,h9⟩:=aD.1 h7;obtain⟨acc2,h10,h11⟩:=aA.1 h9;obtain⟨h12,rfl⟩:=pW.1 h10;have hcl:=cells_ok (bJ ht h5);rw[aM,aT]at h8;have hsz:(a.eval p.2).cells.size=q.2:=(by rw[←h8,←hcl.len,Array.length_toList]);have hle:q.1+(a.eval p.2).cells.size≤cells.size:=by
    have:=h2.len;rw[Array.length_toList]at this;omega
  have hf:=aHd q.1 (a.eval p.2).cells.toList 0 cells (by simpa using hle);have e2:((a.eval p.2).cells.zipIdx.foldl (fun cs x=>cs.setIfInBounds (q.1+x.2) x.1) cells)=((a.eval p.2).cells.toList.zipIdx 0).foldl (fun cs p=>cs.setIfInBounds (q.1+p.2) p.1) cells:=by
    rw[←Array.foldl_toList,Array.toList_zipIdx]
  have hc2:CL c (acc.take q.1++cl++acc.drop (q.1+cl.length)) (((a.eval p.2).cells.toList.zipIdx 0).foldl (fun cs p=>cs.setIfInBounds (q.1+p.2) p.1) cells).toList:=by
    rw[hf,Nat.add_zero,hcl.len];exact ((h2.take q.1).app hcl).app (h2.drop _)
  obtain⟨cs,k1,k2⟩:=aAE ht hp h11 hc2;refine⟨cs,?_,k2⟩;rw[List.map_cons];unfold Instr.fill;rw[hp _ _ h3];have hcond:(decide ((a.eval p.2).cells.size≠q.2) || decide (q.1+(a.eval p.2).cells.size>cells.size))=false:=by
    rw[decide_eq_false (by simpa using hsz),decide_eq_false (by omega)];rfl
  dsimp only;rw[hcond];simp only[Bool.false_eq_true,if_false];rw[←k1,←e2]
theorem aJ8{P:Program}(hP:P=F.P):∀{fs:List Field} {pl:List (Nat × Nat)},szs F (fs.map fun f=>(f.offset,f.type))=some pl→fs.mapM (fun f=>(P.info? f.type).map fun i=>(f.offset,i.size))=some pl
 | [],pl,h=>by injection h with h;subst h;rfl
 |f::fs,pl,h=>by
  have e1:szs F ((f::fs).map fun f=>(f.offset,f.type))=ob (sz F f.type) fun s=>ob (szs F (fs.map fun f=>(f.offset,f.type))) fun r=>some ((f.offset,s)::r):=rfl;rw[e1]at h;obtain⟨s,h1,h2⟩:=aA.1 h;obtain⟨r,h3,h4⟩:=aA.1 h2;injection h4 with h4;subst h4;obtain⟨i,hi,rfl⟩:=mK h1;obtain⟨inf,d,z,g1,g2,g3,g4,g5,g6,g7,g8⟩:=(aO hi).ex;rw[List.mapM_cons,aJ8 hP h3,hP,g1];simp[g4]
theorem aPa{t:Nat}{ps:Array (Nat × Operand)}(hr:Rl c wb h)(ht:Tr c nt e a.tmps)(ho:o.op=.build t ps)(hx:pV F e h t ps.toList=some (v,h')):∃u w',OpR F.P a.eval o c.w u w'∧Po c wb h' v u w':=by
 obtain⟨i,h1,h2⟩:=aA.1 hx;obtain⟨inf,d,z,g1,g2,g3,g4,g5,g6,g7,g8⟩:=(aO h1).ex;have he:execOp a.eval o=(do pure (Next.value (←Instr.build t (ps.map fun p=>(p.1,a.eval p.2))))):=by unfold execOp;rw[ho]
 have hl:(ps.map fun p=>(p.1,a.eval p.2)).toList=ps.toList.map fun p=>(p.1,a.eval p.2):=by simp
 split at h2
 ·rename_i fs hd;obtain⟨pl,h3,h4⟩:=aA.1 h2;obtain⟨out,h5,h6⟩:=aA.1 h4;injection h6 with h6;injection h6 with h6 h7;subst h6;subst h7;rw[g3]at hd;cases d<;>simp[dk]at hd;rename_i fs2;subst hd;have hpl:=aJ8 (F:=F) rfl h3;obtain⟨cs,k1,k2⟩:=aAE ht (pl:=fun f=>(drp f pl).head?) (place:=(pl.toArray[·]?)) (fun i q hq=>by simpa using dW hq) h5 (lW g7);refine⟨.agg cs,c.w,OpR.vl he (run_build c.w t _ cs ?_),Po.same hr ⟨cs.toList,by simp,k2⟩⟩;unfold Program.built;rw[g1,g2];dsimp only;rw[g6,hpl,hl];exact k1
 ·rename_i n el hd;obtain⟨s,h3,h4⟩:=aA.1 h2;obtain⟨g,hg,rfl⟩:=mK h3;obtain⟨out,h5,h6⟩:=aA.1 h4;injection h6 with h6;injection h6 with h6 h7;subst h6;subst h7;obtain⟨inf2,d2,z2,q1,q2,q3,q4,q5,q6,q7,q8⟩:=(aO hg).ex;obtain⟨cs,k1,k2⟩:=aAE ht (place:=fun i=>some (i*inf2.size,inf2.size)) (fun i q hq=>by rw[←q4];exact hq) h5 (lW g7);refine⟨.agg cs,c.w,OpR.vl he (run_build c.w t _ cs ?_),Po.same hr ⟨cs.toList,by simp,k2⟩⟩;have hu:=aB0 (aO h1) hd;rw[hu]at g2;injection g2 with g2;subst g2;unfold Program.built;rw[g1,hu];dsimp only;rw[g6,q1,hl];exact k1
 ·cases h2
theorem run_buildSlice{P:Program}(w:World){t el:TypeId}{n:Nat}{inf:TypeInfo}{z:Value}{ps:Array (Nat × Value)}{cs:Array Value}(hu:P.underlying t=some (.slice el))(hi:P.info? el=some inf)(hz:inf.zero=some z)(h24:n*inf.size≤2^24)
  (hf:Instr.fill (fun i=>some (i*inf.size,inf.size)) (madeCells z.cells (n*inf.size)) ps.toList=some cs):(Instr.buildSlice t n ps).run P w=.ok (.slice (some ⟨w.heap.size,0,none⟩) n n) (w.alloc (.cells cs el)):=by
 have h24':¬(16777216<n*inf.size):=by simp at h24;omega
 by_cases h0:n*inf.size=0
 ·rw[h0]at hf;have e0:∀g:Nat→Value,(Array.range 0).map g=#[]:=fun g=>(by simp[Array.range_zero']);simp only[madeCells,e0]at hf;simp[Instr.buildSlice,run_underlying hu,sizeOf,typeInfo,hi,h0,e0,hf,newRow]
 ·simp only[madeCells]at hf;simp[Instr.buildSlice,run_underlying hu,sizeOf,typeInfo,zeroValue,hi,hz,h0,h24',newRow,hf]
theorem aEY{t n:Nat}{ps:Array (Nat × Operand)}(hr:Rl c wb h)(ht:Tr c nt e a.tmps)(ho:o.op=.buildSlice t n ps)(hx:fD F e h t n ps.toList=some (v,h')):∃u w',OpR F.P a.eval o c.w u w'∧Po c wb h' v u w':=by
 obtain⟨i,h1,h2⟩:=aA.1 hx;obtain⟨el,h3,h4⟩:=aA.1 h2;obtain⟨j,h5,h6⟩:=aA.1 h4;obtain⟨h7,h8⟩:=aD.1 h6;obtain⟨out,h9,h10⟩:=aA.1 h8;unfold H.nw at h10;rw[aW]at h10;have h11:=bI h10;injection h11 with h11 h12;subst h11;subst h12;obtain⟨inf2,d2,z2,q1,q2,q3,q4,q5,q6,q7,q8⟩:=(aO h5).ex;have hz:z2.cells.size=inf2.size:=by rw[←q8,Array.length_toList]
 have hu:=vU (aO h1) h3;have hcl:CL c (fJ j.ze n) (madeCells z2.cells (n*inf2.size)).toList:=by
  rw[←hz,aAD];exact vX (lW q7) n
 obtain⟨cs,k1,k2⟩:=aAE ht (place:=fun i=>some (i*inf2.size,inf2.size)) (fun i q hq=>by rw[←q4];exact hq) h9 hcl;obtain⟨dd,hw,X,R,hd,hlt⟩:=aBX hr ⟨el,out⟩ k2;have h7:=aP.1 h7;have h7':¬(n*inf2.size>2^24):=by
  rw[←q4];show ¬(n*j.sz>16777216);change n*j.sz<16777216 at h7;omega
 have hl:(ps.map fun p=>(p.1,a.eval p.2)).toList=ps.toList.map fun p=>(p.1,a.eval p.2):=by simp
 refine⟨.slice (some ⟨c.w.heap.size,0,none⟩) n n,_,OpR.vl (s:=Instr.buildSlice t n (ps.map fun p=>(p.1,a.eval p.2))) (by unfold execOp;rw[ho]) ?_,dd,hw,X,R,aF.2 ⟨hlt,by rw[hd]⟩⟩;exact run_buildSlice c.w hu q1 q6 (by omega) (by rw[hl];exact k1)
def aMt(F:Cf):Prop:=∀n k,(F.ln false n=some k→∀w v,Nm w v n→∃A c,v=.slice A k c)∧(F.ln true n=some k→∀w v,Nr w v n→∃A c,v=.slice A k c)
theorem aS8(hln:aMt F){h:H}{at_:List Nat}{args:List AV}{args':List Value}{t2:TypeId}(hr:Rl c wb h)(hx:bi F h .len at_ args=some (v,h'))(ha:VL c args args'):∃u w',(Builtin.len_ at_.toArray t2 args'.toArray).run F.P c.w=.ok u w'∧Po c wb h' v u w':=by
 unfold bi at hx;dsimp only at hx;split at hx
 ·rename_i t x;obtain⟨i,h1,h2⟩:=aA.1 hx;obtain⟨s,rfl,h3⟩:=aL.1 h2;obtain⟨u,rfl,hu⟩:∃u,args'=[u]∧VR c (sc s) u:=by
   match args',ha with
   | [u],ha=>exact⟨u,rfl,ha.1⟩
  have hp:=aF.1 hu;split at h3
  ·rename_i l hd;have h4:=bI h3;injection h4 with h4 h5;subst h4;subst h5;obtain⟨st,rfl,hs⟩:=hp;refine⟨.int .i64 (st.size:Int),c.w,?_,Po.same hr (aF.2 (by rw[aT,←hs,bV];rfl))⟩;simp[Builtin.len_,run_underlying (sI (aO h1) hd),goInt]
  ·rename_i el hd;have h4:=bI h3;injection h4 with h4 h5;subst h4;subst h5;cases hp;refine⟨.int .i64 0,c.w,?_,Po.same hr (aF.2 rfl)⟩;simp[Builtin.len_,run_underlying (jR (aO h1) hd),goInt]
  ·rename_i el id off n cap hd;have h4:=bI h3;injection h4 with h4 h5;subst h4;subst h5;obtain⟨A,cp,rfl⟩:∃A cp,u=.slice (some A) n cp:=by
    cases cap with
    |none=>
     obtain⟨-,cp,o,-,k2,-⟩:=hp;exact⟨_,cp,k2⟩
    |some cp=>exact⟨_,_,hp.2⟩
   refine⟨.int .i64 (n:Int),c.w,?_,Po.same hr (aF.2 rfl)⟩;simp[Builtin.len_,run_underlying (jR (aO h1) hd),goInt]
  ·rename_i el x1 hd;unfold roN at h3;split at h3
   ·rename_i a1 n cap;have h4:=bI h3;injection h4 with h4 h5;subst h4;subst h5;have hp:u=.slice (some a1) n cap:=hp.1;subst hp;refine⟨.int .i64 (n:Int),c.w,?_,Po.same hr (aF.2 rfl)⟩;simp[Builtin.len_,run_underlying (jR (aO h1) hd),goInt]
   ·cases h3
  ·rename_i el n hd;obtain⟨k,hk,h3⟩:=aA.1 h3;have h4:=bI h3;injection h4 with h4 h5;subst h4;subst h5;obtain⟨A,cap,rfl⟩:=(hln n k).1 hk _ _ hp;refine⟨.int .i64 (k:Int),c.w,?_,Po.same hr (aF.2 rfl)⟩;simp[Builtin.len_,run_underlying (jR (aO h1) hd),goInt]
  ·rename_i el n hd;obtain⟨k,hk,h3⟩:=aA.1 h3;have h4:=bI h3;injection h4 with h4 h5;subst h4;subst h5;obtain⟨A,cap,rfl⟩:=(hln n k).2 hk _ _ hp;refine⟨.int .i64 (k:Int),c.w,?_,Po.same hr (aF.2 rfl)⟩;simp[Builtin.len_,run_underlying (jR (aO h1) hd),goInt]
  ·cases h3
 ·cases hx
end
section
variable {F:Cf} {c:Cx} {wb:World} {h h':H} {nt:Nat} {e:Env} {a:Act} {o:Oper} {v:AV} {α:Type}
theorem aAF{mn:Bool}{x y v:AV}{p q:Value}(h:mm mn x y=some v)(hp:VR c x p)(hq:VR c y q)(P:Program)(w:World):
  ∃u,VR c v u∧(mn=true→(Builtin.min2 p q).run P w=.ok u w)∧(mn=false→(Builtin.max2 p q).run P w=.ok u w):=by
 obtain⟨s1,rfl,h1⟩:=aL.1 h;obtain⟨s2,rfl,h2⟩:=aL.1 h1;split at h2
 ·rename_i k m k2 n;obtain⟨h3,h4⟩:=aD.1 h2;injection h4 with h4;subst h4;have h3:=of_decide_eq_true h3;subst h3;have hp:p=.int k m:=aF.1 hp;have hq:q=.int k n:=aF.1 hq;subst hp;subst hq;refine⟨_,aF.2 rfl,fun h=>?_,fun h=>?_⟩
  ·subst h;show Result.ok (Value.int k (if n<m then n else m)) w=_;congr 2;show _=cb (iLt n m) n m;rw[bU,kP];simp
  ·subst h;show Result.ok (Value.int k (if n>m then n else m)) w=_;congr 2;show _=cb (iLt m n) n m;rw[bU,kP];simp
 ·cases h2
theorem aS9{at_:List Nat}{args:List AV}{args':List Value}{t1:Array TypeId}{t2:TypeId}(hr:Rl c wb h)(hx:bi F h .min at_ args=some (v,h'))(ha:VL c args args'):∃u w',(Builtin.min_ t1 t2 args'.toArray).run F.P c.w=.ok u w'∧Po c wb h' v u w':=by
 obtain⟨v1,h1,h2⟩:=aA.1 (show (ob (vR true args) fun v=>some (v,h))=some (v,h') from hx);injection h2 with h2;injection h2 with h2 h3;subst h2;subst h3;unfold vR at h1;split at h1
 ·rename_i x y
  match args',ha with
  | [p,q],ha=>
    obtain⟨u,k1,k2,-⟩:=aAF h1 ha.1 ha.2.1 F.P c.w;exact⟨u,c.w,by simp[Builtin.min_,k2 rfl],Po.same hr k1⟩
 ·rename_i x y z;obtain⟨m,h4,h5⟩:=aA.1 h1
  match args',ha with
  | [p,q,r],ha=>
    obtain⟨u,k1,k2,-⟩:=aAF h4 ha.1 ha.2.1 F.P c.w;obtain⟨u2,k3,k4,-⟩:=aAF h5 k1 ha.2.2.1 F.P c.w;exact⟨u2,c.w,by simp[Builtin.min_,k2 rfl,k4 rfl],Po.same hr k3⟩
 ·cases h1
theorem aTa{at_:List Nat}{args:List AV}{args':List Value}{t1:Array TypeId}{t2:TypeId}(hr:Rl c wb h)(hx:bi F h .max at_ args=some (v,h'))(ha:VL c args args'):∃u w',(Builtin.max_ t1 t2 args'.toArray).run F.P c.w=.ok u w'∧Po c wb h' v u w':=by
 obtain⟨v1,h1,h2⟩:=aA.1 (show (ob (vR false args) fun v=>some (v,h))=some (v,h') from hx);injection h2 with h2;injection h2 with h2 h3;subst h2;subst h3;unfold vR at h1;split at h1
 ·rename_i x y
  match args',ha with
  | [p,q],ha=>
    obtain⟨u,k1,-,k2⟩:=aAF h1 ha.1 ha.2.1 F.P c.w;exact⟨u,c.w,by simp[Builtin.max_,k2 rfl],Po.same hr k1⟩
 ·rename_i x y z;obtain⟨m,h4,h5⟩:=aA.1 h1
  match args',ha with
  | [p,q,r],ha=>
    obtain⟨u,k1,-,k2⟩:=aAF h4 ha.1 ha.2.1 F.P c.w;obtain⟨u2,k3,-,k4⟩:=aAF h5 k1 ha.2.2.1 F.P c.w;exact⟨u2,c.w,by simp[Builtin.max_,k2 rfl,k4 rfl],Po.same hr k3⟩
 ·cases h1
theorem aB2{x:SV}{k:Nat→Option α}{y:α}(h:lenOf x k=some y):∃n,k n=some y∧((∃l,x=.s l)∨(x=.ns∧n=0)∨∃id off cap,x=.sl id off n cap):=by
 unfold lenOf at h;split at h
 ·exact⟨_,h,.inl ⟨_,rfl⟩⟩
 ·exact⟨_,h,.inr (.inl ⟨rfl,rfl⟩)⟩
 ·exact⟨_,h,.inr (.inr ⟨_,_,_,rfl⟩)⟩
 ·cases h
theorem oC{id off n:Nat}{cap:Option Nat}{u:Value}(h:SR c (.sl id off n cap) u):∃o cp,u=.slice (some ⟨c.r id,o,none⟩) n cp∧(∀k,cap=some k→cp=k∧o=off)∧(cap=none→n≤cp)∧(n≠0∨off=0→o=off):=by
 cases cap with
 |none=>
  obtain⟨_,cp,o,h1,h2,h3,-⟩:=h;exact⟨o,cp,h2,fun _ e=>(by cases e),fun _=>h1,h3⟩
 |some k=>exact⟨off,k,h.2,fun _ e=>(by injection e with e;exact⟨e,rfl⟩),fun e=>(by cases e),fun _=>rfl⟩
theorem aEZ(w:World)(need old:Nat)(t:TypeId):need≤grownCap w need old t:=by
 unfold grownCap;simp only[Question.cut];omega
theorem aPb{z:Array Value}{l:List SV}(hc:CL c l z.toList)(hl:calm l=true)(n:Nat):Nu (Builtin.zeroCells z n).toList:=by
 have hz:=hc.calm hl;intro x hx;simp only[Builtin.zeroCells,Array.toList_map]at hx;obtain⟨i,hi,rfl⟩:=List.mem_map.1 hx;have h0:0<z.size:=by
  rcases Nat.eq_zero_or_pos z.size with h|h
  ·rw[h]at hi;simp at hi
  ·exact h
 have hm:i % z.size<z.size:=Nat.mod_lt _ h0;have:z[i % z.size]! =z[i % z.size]:=by simp[hm]
 rw[this];exact hz _ (by simp)
theorem aE0(hr:Rl c wb h){el:Nat}{j:TI}(hj:Ty F.P el j)(hz:∀t,c.z t=F.P.cellsOf t){olds news:List Value}{old nw:List SV}(ho:CL c old olds)(hn:CL c nw news)(hcz:calm j.ze=true){need cap:Nat}(hge:need≤cap)(hlen:olds.length+news.length=need*j.sz){A:Array Value}{z:Value}(hA:A.toList=(olds++news)++(Builtin.zeroCells z.cells (cap-need)).toList)(hzc:CL c j.ze z.cells.toList)(hzs:z.cells.size=j.sz):
  ∃d,d.w=c.w.drew.alloc (.cells A el)∧Xt c d∧Rl d wb ⟨h.h.set ⟨el,old++nw⟩ h.n,Nat.succ h.n,h.bar,h.l⟩∧SR d (.sl h.n 0 need none) (.slice (some ⟨c.w.heap.size,0,none⟩) need cap):=by
 have X0:Xt c c.drew:=vT;obtain⟨d,hw,X,R,hd,hlt⟩:=aOW (hr.drew) ⟨el,old++nw⟩ ((ho.app hn).xt X0) (fun _=>aPb hzc hcz (cap-need)) hA;refine⟨d,hw,X0.trans X,R,hlt,cap,0,hge,by rw[hd];rfl,fun _=>rfl,el,A,(0,0),?_,fun _=>?_⟩
 ·rw[hw,hd];exact heap_alloc_new _ _
 ·have e1:d.z el=j.sz:=by
   rw[X.z];show c.z el=_;rw[hz];obtain⟨inf,dd,zz,g1,g2,g3,g4,g5,g6,g7,g8⟩:=hj.ex;simp[Program.cellsOf,g1,g4]
  rw[e1];have:A.size=olds.length+news.length+(cap-need)*j.sz:=by
   have h3:=congrArg List.length hA;simp[size_zeroCells,hzs]at h3;omega
  rw[this,hlen,←Nat.add_mul];rw[show need+(cap-need)=cap from by omega];exact Nat.le_refl _
theorem aPc(hr:Rl c wb h){id el:Nat}{b:B}(hg:h.h.get id=some b)(hne:Lv c id b)(hbar:h.bar≤id)(hty:b.ty=el)(hcalm:jE b=true){row' tail':List Value}{x:List SV}(hc':CL c x row')(ht':Nu tail')(hl:∀cs t fr,c.w.heap[c.r id]? =some (.cells cs t fr)→(row'++tail').length=cs.size):
  ∃d,d.w=c.w.setRow (c.r id) (row'++tail').toArray∧Xt c d∧Rl d wb ⟨(h.h.set ⟨0,[]⟩ id).set ⟨el,x⟩ h.n,Nat.succ h.n,h.bar,h.l⟩∧d.r h.n=c.r id∧d.k h.n:=by
 obtain⟨row,tail,hb,hc,ht⟩:=(hr.blk id b hg).2 hne;have hid:=(hr.blk id b hg).1;have hn:=hr.n;have hnu:Nu (row++tail):=fun y hy=>by
  rcases List.mem_append.1 hy with hy|hy
  ·exact hc.calm (kZ hcalm).1 y hy
  ·exact ht (kZ hcalm).1 y hy
 have hl2:(row'++tail').length=(row++tail).length:=by
  have:=hl _ _ _ hb;simpa using this
 let d:Cx:=⟨c.n+1,fun i=>c.k i∨i=c.n,fun i=>if i=c.n then c.r id else c.r i,c.w.setRow (c.r id) (row'++tail').toArray,c.z⟩
 have hoth:∀k,k≠c.r id→d.w.heap[k]? =c.w.heap[k]? :=fun k hk=>setRow_other _ _ _ _ hk;have X:Xt c d:=⟨Nat.le_succ _,fun i hi=>.inl hi,fun i hi=>hi.elim .inl fun q=>.inr (by omega),fun i hi=>if_neg (by have:=hr.k i hi;omega),Ps.one hb hnu (kZ hcalm).2 hoth (size_setRow _ _ _) (setRow_heap _ _ _ _ _ _ hb) hl2,rfl⟩
 have hdr:d.r c.n=c.r id:=if_pos rfl;have hold:∀i,i<c.n→d.r i=c.r i:=fun i hi=>if_neg (by omega);have hB0:Bl c b (c.r id):=(hr.blk id b hg).2 hne;have hnew:Bl d ⟨el,x⟩ (d.r h.n):=by
  rw[←hn,hdr];exact⟨row',tail',by rw[←hty];exact setRow_heap _ _ _ _ _ _ hb,hc'.xt X,fun _=>ht'⟩
 have key:∀i b',((h.h.set ⟨0,[]⟩ id).set ⟨el,x⟩ h.n).get i=some b'→(i=h.n∧b'=⟨el,x⟩)∨(i<h.n∧b'.c=[])∨(i<h.n∧i≠id∧h.h.get i=some b'):=fun i b' hi=>by
  rcases T.get_set hi with⟨k1,k2⟩|⟨k1,k2⟩
  ·exact .inl ⟨k1,k2⟩
  ·rcases T.get_set k2 with⟨k3,k4⟩|⟨k3,k4⟩
   ·subst k3;exact .inr (.inl ⟨hid,by rw[k4]⟩)
   ·exact .inr (.inr ⟨(hr.blk i b' k4).1,k3,k4⟩)
 have lv:∀{i b'},i<h.n→Lv d i b'→Lv c i b':=fun hi q=>⟨q.1.elim (fun q=>q) fun q=>by omega,q.2⟩
 have kk:∀{i},i<h.n→d.k i→c.k i:=fun hi q=>q.elim (fun q=>q) fun q=>by omega
 refine⟨d,rfl,X,⟨by show c.n+1=h.n+1;rw[hn],fun i q=>by show i<c.n+1;exact q.elim (fun q=>Nat.lt_succ_of_lt (hr.k i q)) fun q=>by omega,below_setRow hr.q (hr.new id b hg hne hbar) _,fun i b' hi=>?_,fun i k b' b2 hi hk hb' hb2 hik=>?_,fun i b' hi hne' hba=>?_,fun l p hl=>?_,fun i k p q hi hk ki kj hik=>?_⟩,by rw[←hn];exact hdr,by rw[←hn];exact .inr rfl⟩
 ·rcases key i b' hi with⟨rfl,rfl⟩|⟨k1,k2⟩|⟨k1,k2,k3⟩
  ·exact⟨Nat.lt_succ_self _,fun _=>hnew⟩
  ·exact⟨Nat.lt_succ_of_lt k1,fun hh=>absurd k2 hh.2⟩
  ·refine⟨Nat.lt_succ_of_lt k1,fun hh=>?_⟩;rw[hold _ (by omega)];exact ((hr.blk i b' k3).2 (lv k1 hh)).xt X (hoth _ (hr.inj i id b' b k3 hg (lv k1 hh) hne k2))
 ·rcases key i b' hi with⟨rfl,rfl⟩|⟨k1,k2⟩|⟨k1,k2,k3⟩
  ·rcases key k b2 hk with⟨rfl,rfl⟩|⟨m1,m2⟩|⟨m1,m2,m3⟩
   ·exact absurd rfl hik
   ·exact absurd m2 hb2.2
   ·rw[←hn,hdr,hold _ (by omega)];exact (hr.inj k id b2 b m3 hg (lv m1 hb2) hne m2).symm
  ·exact absurd k2 hb'.2
  ·rcases key k b2 hk with⟨rfl,rfl⟩|⟨m1,m2⟩|⟨m1,m2,m3⟩
   ·rw[hold _ (by omega),←hn,hdr];exact hr.inj i id b' b k3 hg (lv k1 hb') hne k2
   ·exact absurd m2 hb2.2
   ·rw[hold _ (by omega),hold _ (by omega)];exact hr.inj i k b' b2 k3 m3 (lv k1 hb') (lv m1 hb2) hik
 ·rcases key i b' hi with⟨rfl,rfl⟩|⟨k1,k2⟩|⟨k1,k2,k3⟩
  ·rw[←hn,hdr];exact hr.new id b hg hne hbar
  ·exact absurd k2 hne'.2
  ·rw[hold _ (by omega)];exact hr.new i b' k3 (lv k1 hne') hba
 ·obtain⟨k1,k23⟩:=hr.lp l p hl;rw[hold _ (by omega)];exact⟨Nat.lt_succ_of_lt k1,fun q=>let ⟨k2,k3⟩:=k23 (kk k1 q);⟨k2.xt X (hoth _ (aG4 hB0 k2)),k3⟩⟩
 ·rw[hold _ (by have:=(hr.lp i p hi).1;omega),hold _ (by have:=(hr.lp k q hk).1;omega)];exact hr.li i k p q hi hk (kk (hr.lp i p hi).1 ki) (kk (hr.lp k q hk).1 kj) hik
theorem aDt(hr:Rl c wb h){z n:Nat}{x:SV}{l:List SV}{u:Value}(hf:aEL h z n x=some l)(hu:SR c x u)(hx:(x=.ns∧n=0)∨∃id off cap,x=.sl id off n cap):
  ∃vs,CL c l vs∧vs.length=n*z∧(∀v∈vs,v.oneCell'=true)∧∀g off cp,u=.slice (some ⟨g,off,none⟩) n cp→∀j v,vs[j]? =some v→c.w.cell? ((⟨g,off,none⟩:Addr).add j)=some v:=by
 rcases hx with⟨rfl,rfl⟩|⟨id,off,cap,rfl⟩
 ·injection hf with hf;subst hf;exact⟨[],trivial,by simp,fun v hv=>(by cases hv),fun _ _ _ _ j v hv=>(by cases hv)⟩
 ·have hkn:c.k id:=by cases cap<;>exact hu.1
  obtain⟨vs,h1,h2,h3⟩:=aIl hr hkn hf;obtain⟨o,cp,rfl,-,-,hoff⟩:=oC hu;refine⟨vs,h1,h2,xC h1,fun g off2 cp2 he j v hv=>?_⟩;have hj:=(List.getElem?_eq_some_iff.1 hv).1;have hn0:n≠0:=fun e=>by
   subst e;rw[h2]at hj;simp at hj
  have ho:=hoff (.inl hn0);subst ho;injection he with he;injection he with he;injection he with e1 e2;subst e1;subst e2;rw[add0];exact h3 j v hv
structure Apd (P:Program) (w:World) (ats:Array TypeId) (t2 el:Nat) (inf:TypeInfo) (z q:Value) (m:Nat) (news:List Value):Prop where
 zero:m=0→∀b n cp,n≤cp→(Builtin.append_ ats t2 #[.slice b n cp,q]).run P w=.ok (.slice b n cp) w
 put:0<m→∀(b:Addr) n cp w',n+m≤cp→(storeCells (b.add (n*inf.size)) news).run P w=.ok () w'→(Builtin.append_ ats t2 #[.slice (some b) n cp,q]).run P w=.ok (.slice (some b) (n+m) cp) w'
 grow:0<m→∀(b:Addr) (sLen sCap:Nat) (olds:List Value),olds.length=sLen*inf.size→(∀j v,olds[j]? =some v→w.cell? (b.add j)=some v)→sCap<sLen+m→((sLen+m:Nat):Int)≤9223372036854775807→Builtin.nextslicecap (sLen+m) sCap*inf.bytes≤281474976710656→
  (Builtin.append_ ats t2 #[.slice (some b) sLen sCap,q]).run P w=.ok (.slice (some ⟨w.heap.size,0,none⟩) (sLen+m) (grownCap w (sLen+m) sCap el)) (w.drew.alloc (.cells (olds.toArray++news.toArray++Builtin.zeroCells z.cells (grownCap w (sLen+m) sCap el-(sLen+m))) el))
 nil:0<m→(m:Int)≤9223372036854775807→m*inf.bytes≤281474976710656→
  (Builtin.append_ ats t2 #[.slice none 0 0,q]).run P w=.ok (.slice (some ⟨w.heap.size,0,none⟩) m (grownCap w m 0 el)) (w.drew.alloc (.cells (news.toArray++Builtin.zeroCells z.cells (grownCap w m 0 el-m)) el))
theorem aRd{P:Program}{w:World}{t t2 el m cp:Nat}{inf:TypeInfo}{z:Value}{a:Addr}{news:List Value}(hu:P.underlying t=some (.slice el))(g1:P.info? el=some inf)(g6:inf.zero=some z)(hl:news.length=m*inf.size)(hc:∀j v,news[j]? =some v→w.cell? (a.add j)=some v):Apd P w #[t,t] t2 el inf z (.slice (some a) m cp) m news where
 zero h0 b n cp2 hle:=by
  subst h0;have hf:=run_firstCells_some (P:=P) w inf.size 0 a 0 cp [] (by simp) (fun j v h=>by simp at h);cases b<;>simp[Builtin.append_,run_underlying hu,sizeOf,typeInfo,g1,Builtin.lenOf,hle,hf,storeCells]
 put h0 b n cp2 w' hroom hst:=by
  have hf:=run_firstCells_some (P:=P) w inf.size m a m cp news hl hc;simp[Builtin.append_,run_underlying hu,sizeOf,typeInfo,g1,Builtin.lenOf,hroom,hf,hst]
 grow h0 b n cp2 olds ho hoc hlt h63 hfit:=run_append_grow w t t2 el inf z hu g1 g6 b n cp2 olds ho hoc a m cp news hl hc hlt h63 hfit
 nil h0 h63 h48:=run_append_nil w t t2 el inf z hu g1 g6 a m cp news hl hc h0 h63 h48
theorem aRe{P:Program}{w:World}{t t2 el:Nat}{inf:TypeInfo}{z:Value}(hu:P.underlying t=some (.slice el))(g1:P.info? el=some inf):Apd P w #[t,t] t2 el inf z (.slice none 0 0) 0 [] where
 zero h0 b n cp2 hle:=by
  cases b<;>simp[Builtin.append_,run_underlying hu,sizeOf,typeInfo,g1,Builtin.lenOf,hle,run_firstCells_none,storeCells]
 put h0:=by omega
 grow h0:=by omega
 nil h0:=by omega
theorem aTb{P:Program}{w:World}{t t' t2 el m:Nat}{k k':IntKind}{inf:TypeInfo}{z:Value}(hu:P.underlying t=some (.slice el))(hi:P.underlying t'=some (.int k))(g1:P.info? el=some inf)(g6:inf.zero=some z)(hs:0<inf.size)(hm:m<1099511627776)(hb:m*inf.bytes<1099511627776):Apd P w #[t,t'] t2 el inf z (.int k' (m:Int)) m (Builtin.zeroCells z.cells m).toList:=by
 have hw:IntKind.i64.wrap (m:Int)=(m:Int):=wrap_small (k:=.i64) (by simp only[lim];omega);have hw0:IntKind.i64.wrap 0=0:=by decide
 have hneg:¬((m:Int)<0):=by omega
 have hbig:¬(281474976710656<(m:Int)*(inf.bytes:Int)):=by
  have e:((m*inf.bytes:Nat):Int)=(m:Int)*(inf.bytes:Int):=Int.natCast_mul _ _;rw[←e];omega
 refine⟨fun h0 b n cp hle=>?_,fun h0 b n cp w' hroom hst=>?_,fun h0 b n cp olds ho hoc hlt h63 hfit=>?_,fun h0 h63 h48=>?_⟩
 ·subst h0;cases b<;>simp[Builtin.append_,run_underlying hu,run_underlying hi,sizeOf,typeInfo,g1,asInt,asIntOf,hw0,hle,storeCells]
 ·have hne:¬(m*inf.size=0):=(by have:=Nat.mul_pos h0 hs;omega);simp[Builtin.append_,run_underlying hu,run_underlying hi,sizeOf,typeInfo,zeroValue,g1,g6,asInt,asIntOf,hw,hneg,hbig,hne,hroom,hst]
 ·have hne:¬(m*inf.size=0):=(by have:=Nat.mul_pos h0 hs;omega);have hn:¬(n+m≤cp):=(by omega);have h63':¬(9223372036854775807<((n:Int)+(m:Int))):=(by omega);have h48':¬(281474976710656<Builtin.nextslicecap (n+m) cp*inf.bytes):=(by omega);have hfo:=run_firstCells_some (P:=P) w.drew inf.size n b n cp olds ho (by simpa using hoc);simp[Builtin.append_,run_underlying hu,run_underlying hi,sizeOf,typeInfo,zeroValue,g1,g6,asInt,asIntOf,hw,hneg,hbig,hne,hn,h63',h48',Question.forced,hfo,newRow,grownCap]
 ·have hne:¬(m*inf.size=0):=(by have:=Nat.mul_pos h0 hs;omega);have hn:¬m=0:=(by omega);have h63':¬(9223372036854775807<(m:Int)):=(by omega);have h48':¬(281474976710656<Builtin.nextslicecap m 0*inf.bytes):=(by rw[nextslicecap_zero h0];omega);simp[Builtin.append_,run_underlying hu,run_underlying hi,sizeOf,typeInfo,zeroValue,g1,g6,asInt,asIntOf,hw,hneg,hbig,hne,hn,h63',h48',Question.forced,run_firstCells_none,newRow,grownCap]
theorem aCQ{ats:Array TypeId}{t2 el m:Nat}{j:TI}{inf:TypeInfo}{z p q:Value}{s1:SV}{nw:List SV}{news:List Value}(hr:Rl c wb h)(hz:∀t,c.z t=F.P.cellsOf t)(h7:Ty F.P el j)(g1:F.P.info? el=some inf)(g4:j.sz=inf.size)(g5:j.by_=inf.bytes)(g7:zok j.ze z.cells.toList=true)(g8:z.cells.toList.length=inf.size)
  (hA:Apd F.P c.w ats t2 el inf z q m news) (hnc:CL c nw news) (hnl:news.length=m*inf.size) (hp:SR c s1 p) (hx:aCO h el j s1 m nw=some (v,h')):∃u w',(Builtin.append_ ats t2 #[p,q]).run F.P c.w=.ok u w'∧Po c wb h' v u w':=by
 have hn1:=xC hnc;have hzs:z.cells.size=j.sz:=by rw[←Array.length_toList,g8,g4]
 unfold aCO at hx;obtain⟨n,h12,hn⟩:=aB2 hx;obtain⟨old,h15,h16⟩:=aA.1 h12;obtain⟨hcz,h17⟩:=aD.1 h16;obtain⟨hcn,h18⟩:=aD.1 h17;obtain⟨hb1,h19⟩:=aD.1 h18;rcases Nat.eq_zero_or_pos m with hm0|hm0
 ·subst hm0;have h19:nothing h s1=some (v,h'):=h19;rcases hn with⟨l,rfl⟩|⟨rfl,rfl⟩|⟨id,off,cap,rfl⟩
  ·cases h15
  ·have h19:=bI h19;injection h19 with w1 w2;subst w1;subst w2;have hp:p=.slice none 0 0:=hp;subst hp;exact⟨_,_,hA.zero rfl none 0 0 (Nat.le_refl _),Po.same hr (aF.2 rfl)⟩
  ·cases cap with
   |none=>
    have h19:=bI h19;injection h19 with w1 w2;subst w1;subst w2;obtain⟨o,cp,rfl,-,hle,-⟩:=oC hp;exact⟨_,_,hA.zero rfl _ _ _ (hle rfl),Po.same hr (aF.2 hp)⟩
   |some k=>
    obtain⟨hle,h19⟩:=aD.1 (show cb (Nat.ble n k) _ none=some (v,h') from h19);have h19:=bI h19;injection h19 with w1 w2;subst w1;subst w2;obtain⟨o,cp,rfl,hcp,-⟩:=oC hp;exact⟨_,_,hA.zero rfl _ _ _ (by rw[(hcp _ rfl).1];exact bN.1 hle),Po.same hr (aF.2 hp)⟩
 have h20:=(aD.1 (show cb (Nat.blt 0 m) _ none=some (v,h') by rw[aP.2 hm0]at h19⊢;exact h19)).2;have hb2:=aP.2 hm0;obtain⟨hb3,h22⟩:=aD.1 h20;obtain⟨hb4,h21⟩:=aD.1 h22;have hb4:=aP.1 hb4;have hb1:=aP.1 hb1;have hb2:=aP.1 hb2;have hb3:=aP.1 hb3;change (n+m)*j.by_<1099511627776 at hb1;change n+m<1099511627776 at hb3;rw[g5]at hb1;have hn':(s1=.ns∧n=0)∨∃id off cap,s1=.sl id off n cap:=by
  rcases hn with⟨l,rfl⟩|hn|hn
  ·cases h15
  ·exact .inl hn
  ·exact .inr hn
 obtain⟨olds,hoc,hol,-,how⟩:=aDt hr h15 hp hn';have hnl:news.length=m*j.sz:=by rw[hnl,g4]
 have hnwne:nw≠[]:=fun e=>by
  have h1:=hnc.len;rw[e]at h1;have h2:0<m*j.sz:=Nat.mul_pos hb2 hb4;simp at h1;rw[h1]at hnl;simp at hnl;omega
 have hlen:olds.length+news.length=(n+m)*j.sz:=by rw[hol,hnl,Nat.add_mul]
 have hgrow:∀(h:H) (hr:Rl c wb h) g off cp,p=.slice (some ⟨g,off,none⟩) n cp→cp<n+m→∃u w',(Builtin.append_ ats t2 #[p,q]).run F.P c.w=.ok u w'∧Po c wb ⟨h.h.set ⟨el,old++nw⟩ h.n,Nat.succ h.n,h.bar,h.l⟩ (sc (.sl h.n 0 (n+m) none)) u w':=by
  rintro h hr g off cp rfl hlt;have hfit:=growslice_fits (bytes:=inf.bytes) hlt (by omega);have hrun:=hA.grow hm0 ⟨g,off,none⟩ n cp olds (by rw[hol,g4]) (how _ _ _ rfl) hlt (by omega) hfit;obtain⟨dd,k1,k2,k3,k4⟩:=aE0 hr h7 hz hoc hnc hcz (aEZ c.w (n+m) cp el) hlen (A:=olds.toArray++news.toArray++Builtin.zeroCells z.cells (grownCap c.w (n+m) cp el-(n+m))) (by simp) (lW g7) hzs;exact⟨_,_,hrun,dd,k1,k2,k3,aF.2 k4⟩
 split at h21
 ·rename_i id off n0 cap;have e3:n0=n:=by
   rcases hn' with⟨e,-⟩|⟨a1,a2,a3,e⟩
   ·cases e
   ·injection e
  subst e3;obtain⟨o1,cp,rfl,hcp,-⟩:=oC hp;obtain⟨hcp,ho1⟩:=hcp _ rfl;subst hcp;subst ho1;rw[bU]at h21;split at h21
  ·rename_i hroom;have hroom:n0+m≤cp:=bN.1 hroom;obtain⟨k1,k2⟩:=aD.1 h21;obtain⟨b,k3,k4⟩:=aA.1 k2;obtain⟨k5,k6⟩:=aD.1 k4;obtain⟨h2',k7,k8⟩:=aA.1 k6;have k8:=bI k8;injection k8 with k8 k9;subst k8;subst k9;have k1:=aM.1 k1;subst k1;obtain⟨dd,X,R,hst,-,-⟩:=aIm hr F.P hp.1 k7 hnc hnwne;refine⟨.slice (some ⟨c.r id,0,none⟩) (n0+m) cp,dd.w,?_,dd,rfl,X,R,aF.2 ⟨X.k _ hp.1,by rw[X.r _ hp.1];rfl⟩⟩;have hst:(storeCells ⟨c.r id,n0*inf.size,none⟩ news).run F.P c.w=.ok () dd.w:=(by rw[←g4];exact hst);exact hA.put hm0 _ _ _ _ hroom (by rw[add0,Nat.zero_add];exact hst)
  ·rename_i hroom;have hroom:¬n0+m≤cp:=fun e=>hroom (bN.2 e);unfold H.nw at h21;rw[aW]at h21;have k8:=bI h21;injection k8 with k8 k9;subst k8;subst k9;rw[iT];exact hgrow _ hr _ _ _ rfl (by omega)
 ·rename_i id off n0;have e3:n0=n:=by
   rcases hn' with⟨e,-⟩|⟨a1,a2,a3,e⟩
   ·cases e
   ·injection e
  subst e3;obtain⟨k1,k2⟩:=aD.1 h21;have k1:=aM.1 k1;subst k1;unfold H.cut at k2;obtain⟨b,k3,k4⟩:=aA.1 k2;obtain⟨k5,k6⟩:=aD.1 k4;obtain⟨k7,k8⟩:=cbn.1 k6;obtain⟨k9,k10⟩:=aD.1 k8;obtain⟨k11,k12⟩:=aD.1 k10;rw[aW]at k12;have k13:=bI k12;injection k13 with k13 k14;subst k13;subst k14;have k5:=aM.1 k5;have hne:b.c≠[]:=fun e=>(by rw[aT,e]at k7;exact absurd rfl (uA.1 k7));obtain⟨hid,cp,o1,hle,rfl,ho1,tt,cs,fr,hsh,hcap⟩:=hp;have ho1:=ho1 (.inr rfl);subst ho1;have hcap:=hcap rfl;obtain⟨row,tail,hb,hc,htl⟩:=(hr.blk id b k3).2 ⟨hid,hne⟩;have hb':=hb;unfold Bx at hb';rw[hb']at hsh;injection hsh with hsh;injection hsh with s1 s2 s3;subst s1;subst s2;subst s3;have hzz:c.z b.ty=j.sz:=(by rw[hz,k5];simp[Program.cellsOf,g1,g4]);rw[hzz]at hcap;by_cases hroom:n0+m≤cp
  ·have hcur:(row++tail).length=(row++tail).toArray.size:=(by simp);have hfit:n0*inf.size+news.length≤(row++tail).toArray.size:=by
    have h1:(n0+m)*j.sz≤cp*j.sz:=Nat.mul_le_mul_right _ hroom;rw[hnl,←g4,←Nat.add_mul];omega
   have hb2':c.w.heap[c.r id]? =some (.cells (row++tail).toArray el (0,0)):=(by rw[←k5];exact hb);have hst:=run_storeCells_at F.P (c.r id) (n0*inf.size) el news 0 _ c.w hb2' (by simpa using hfit) hn1;simp only[Nat.add_zero]at hst;have hrun:=hA.put hm0 ⟨c.r id,0,none⟩ n0 cp _ hroom (by rw[add0,Nat.zero_add];exact hst);have how:=how _ _ _ rfl;have htake:(row++tail).take (n0*inf.size)=olds:=by
    apply List.ext_getElem?;intro k;by_cases hk:k<olds.length
    ·have h1:=how k olds[k] (List.getElem?_eq_getElem hk);rw[add0,Nat.zero_add]at h1;have h2:(row++tail)[k]? =some olds[k]:=(by simpa [World.cell?,hb'] using h1);rw[List.getElem?_take,if_pos (by rw[←g4,←hol];exact hk),h2,List.getElem?_eq_getElem hk]
    ·rw[List.getElem?_take,if_neg (by rw[←g4,←hol];exact hk),List.getElem?_eq_none (by omega)]
   have hnu:Nu (row++tail):=fun y hy=>by
    rcases List.mem_append.1 hy with hy|hy
    ·exact hc.calm (kZ k9).1 y hy
    ·exact htl (kZ k9).1 y hy
   have hrow:((row++tail).toArray.toList.take (n0*inf.size)++news++(row++tail).toArray.toList.drop (n0*inf.size+news.length))=(olds++news)++(row++tail).drop (n0*inf.size+news.length):=by
    show (row++tail).take _++news++_=_;rw[htake]
   rw[hrow]at hrun;obtain⟨dd,q1,q2,q3,q4,q5⟩:=aPc hr (el:=el) (x:=app old nw) k3 ⟨hid,hne⟩ (bN.1 k11) k5 k9 (row':=olds++news) (tail':=(row++tail).drop (n0*inf.size+news.length)) (by rw[iT];exact hoc.app hnc) (fun y hy=>hnu y (List.mem_of_mem_drop hy)) (fun cs t fr hcs=>by
    rw[hb']at hcs;injection hcs with hcs;injection hcs with s1 s2 s3;subst s1;have h5:olds.length=n0*inf.size:=(by rw[hol,g4]);simp only[List.length_append,List.length_drop,List.size_toArray]at hfit⊢;omega)
   refine⟨_,_,hrun,dd,q1,q2,q3,aF.2 ⟨q5,cp,0,hroom,by rw[q4];rfl,fun _=>rfl,el,((olds++news)++(row++tail).drop (n0*inf.size+news.length)).toArray,(0,0),?_,fun _=>?_⟩⟩
   ·rw[q1,q4];exact setRow_heap _ _ _ _ _ _ hb2'
   ·have h6:dd.z el=j.sz:=(by rw[q2.z,←k5];exact hzz);have h5:olds.length=n0*inf.size:=(by rw[hol,g4]);rw[h6];simp only[List.length_append,List.length_drop,List.size_toArray]at hfit hcap⊢;omega
  ·rw[iT];refine hgrow ⟨h.h.set ⟨0,[]⟩ id,h.n,h.bar,h.l⟩ ?_ _ _ _ rfl (by omega);have key:∀i b',(h.h.set ⟨0,[]⟩ id).get i=some b'→(i<h.n∧b'.c=[])∨h.h.get i=some b':=fun i b' hi=>by
    rcases T.get_set hi with⟨m1,m2⟩|⟨m1,m2⟩
    ·subst m1;exact .inl ⟨(hr.blk _ b k3).1,by rw[m2]⟩
    ·exact .inr m2
   refine⟨hr.n,hr.k,hr.q,fun i b' hi=>?_,fun i k b' b2 hi hk hb' hb2 hik=>?_,fun i b' hi hne' hba=>?_,hr.lp,hr.li⟩
   ·rcases key i b' hi with⟨m1,m2⟩|m1
    ·exact⟨m1,fun hh=>absurd m2 hh.2⟩
    ·exact hr.blk i b' m1
   ·rcases key i b' hi with⟨m1,m2⟩|m1
    ·exact absurd m2 hb'.2
    ·rcases key k b2 hk with⟨m3,m4⟩|m3
     ·exact absurd m4 hb2.2
     ·exact hr.inj i k b' b2 m1 m3 hb' hb2 hik
   ·rcases key i b' hi with⟨m1,m2⟩|m1
    ·exact absurd m2 hne'.2
    ·exact hr.new i b' m1 hne' hba
 ·have hn0:n=0:=by
   rcases hn' with⟨-,e⟩|⟨a1,a2,a3,e⟩
   ·exact e
   ·cases e
  subst hn0;unfold H.nw at h21;rw[aW]at h21;have k8:=bI h21;injection k8 with k8 k9;subst k8;subst k9;have hp:p=.slice none 0 0:=hp;subst hp;have ho0:olds=[]:=List.eq_nil_of_length_eq_zero (by rw[hol];simp);subst ho0;have hrun:=hA.nil hm0 (by omega) (by simp at hb1;omega);obtain⟨dd,k1,k2,k3,k4⟩:=aE0 hr h7 hz hoc hnc hcz (aEZ c.w m 0 el) (by simpa using hlen) (A:=news.toArray++Builtin.zeroCells z.cells (grownCap c.w m 0 el-m)) (by simp) (lW g7) hzs;rw[iT];refine⟨_,_,hrun,dd,k1,k2,k3,aF.2 ?_⟩;show SR dd (.sl h.n 0 (0+m) none) _;rw[Nat.zero_add];exact k4
 ·cases h21
theorem aMu{at_:List Nat}{args:List AV}{args':List Value}{t2:TypeId}(hr:Rl c wb h)(hz:∀t,c.z t=F.P.cellsOf t)(hx:bi F h .append at_ args=some (v,h'))(ha:VL c args args'):∃u w',(Builtin.append_ at_.toArray t2 args'.toArray).run F.P c.w=.ok u w'∧Po c wb h' v u w':=by
 unfold bi at hx;dsimp only at hx;split at hx
 ·rename_i t t' s x;obtain⟨i,h1,h2⟩:=aA.1 hx;obtain⟨el,h3,h4⟩:=aA.1 h2;obtain⟨j,h7,h8⟩:=aA.1 h4;obtain⟨s1,rfl,h9⟩:=aL.1 h8;obtain⟨s2,rfl,h10⟩:=aL.1 h9;obtain⟨p,q,rfl,hp,hq⟩:∃p q,args'=[p,q]∧SR c s1 p∧SR c s2 q:=by
   match args',ha with
   | [p,q],ha=>exact⟨p,q,rfl,aF.1 ha.1,aF.1 ha.2.1⟩
  have hu:=vU (aO h1) h3;obtain⟨inf,d,z,g1,g2,g3,g4,g5,g6,g7,g8⟩:=(aO h7).ex;rw[bU]at h10;split at h10
  ·rename_i h5;have h5:=aM.1 h5;subst h5;unfold yZ at h10;obtain⟨m,h12,hm⟩:=aB2 h10;obtain⟨nw,h13,h14⟩:=aA.1 h12;rcases hm with⟨l,rfl⟩|⟨rfl,rfl⟩|⟨id2,off2,cap2,rfl⟩
   ·cases h13
   ·injection h13 with h13;subst h13;have hq:q=.slice none 0 0:=hq;subst hq;exact aCQ hr hz (aO h7) g1 g4 g5 g7 g8 (aRe hu g1) (show CL c [] [] from trivial) (by simp) hp h14
   ·obtain⟨news,hnc,hnl,hn1,hnw⟩:=aDt hr h13 hq (.inr ⟨id2,off2,cap2,rfl⟩);obtain⟨o2,cp2,rfl,-⟩:=oC hq;exact aCQ hr hz (aO h7) g1 g4 g5 g7 g8 (aRd hu g1 g6 (by rw[hnl,g4]) (hnw _ _ _ rfl)) hnc (by rw[hnl,g4]) hp h14
  ·obtain⟨i',h11,h12⟩:=aA.1 h10;split at h12
   ·rename_i k hk;unfold aIg at h12;obtain⟨kk,m,rfl,h13⟩:=iU h12;obtain⟨h14,h15⟩:=aD.1 h13;obtain⟨h16,h17⟩:=aD.1 h15;obtain⟨hs,h17⟩:=aD.1 h17;have hs:=aP.1 hs;rw[aW]at h17;have h14:=aP.1 h14;have h16:=aP.1 h16;change m*j.by_<1099511627776 at h16;have hq:q=.int kk (m:Int):=hq;subst hq;have hzs:z.cells.size=inf.size:=(by rw[←Array.length_toList,g8]);have hzc:CL c (fJ j.ze m) (Builtin.zeroCells z.cells m).toList:=by
     show CL c (fJ j.ze m) (madeCells z.cells (m*z.cells.size)).toList;rw[aAD];exact vX (lW g7) m
    exact aCQ hr hz (aO h7) g1 g4 g5 g7 g8 (aTb hu (zG (aO h11) hk) g1 g6 (by omega) h14 (by rw[←g5];exact h16)) hzc (by simp[Builtin.zeroCells,hzs]) hp h17
   ·cases h12
 ·cases hx
end
end E
end Go.Proofs.YtohcfjmkfflkpaaGreatDoor
