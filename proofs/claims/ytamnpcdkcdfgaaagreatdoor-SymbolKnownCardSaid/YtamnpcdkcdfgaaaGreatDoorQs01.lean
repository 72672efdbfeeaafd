/- SymbolKnown holds. No condition. -/
import Derived.Deep.Draws
import Derived.Deep.OwnRows
import Derived.Lib.Hide
set_option maxRecDepth 100000
namespace Go.Proofs.YtamnpcdkcdfgaaaGreatDoor
section
open Go.RowKit
theorem hZ{a:Prop}(h:a):Hid a:=Lib.hid h
end
namespace Ma
def vl(b:Nat):List Nat→Nat
 | []=>0
 |d::r=>d+b*vl b r
theorem dF(b d:Nat)(r:List Nat):vl b (d::r)=d+b*vl b r:=rfl
theorem dY(b:Nat)(xs ys:List Nat):vl b (xs++ys)=vl b xs+b^xs.length*vl b ys:=by
 induction xs with
 |nil=>simp[vl]
 |cons x xs ih=>
  simp only[List.cons_append,dF,ih,List.length_cons,Nat.pow_succ];grind
theorem kL(b:Nat)(xs:List Nat)(d:Nat):vl b (xs++[d])=vl b xs+b^xs.length*d:=by
 rw[dY];simp[vl]
theorem cK{b:Nat}{xs:List Nat}(h:∀d∈xs,d<b):vl b xs<b^xs.length:=by
 induction xs with
 |nil=>simp[vl]
 |cons x xs ih=>
  have h1:=h x (by simp);have h2:=ih (fun d hd=>h d (by simp[hd]));simp only[dF,List.length_cons,Nat.pow_succ];have h3:b*(vl b xs+1)≤b*b^xs.length:=Nat.mul_le_mul_left _ h2;rw[Nat.mul_add]at h3;rw[Nat.mul_comm (b^xs.length) b];omega
theorem kM(b n:Nat):vl b (List.replicate n 0)=0:=by
 induction n with
 |zero=>rfl
 |succ n ih=>rw[List.replicate_succ,dF,ih];simp
theorem bI(b n:Nat)(xs:List Nat)(h:n≤xs.length):vl b xs=vl b (xs.take n)+b^n*vl b (xs.drop n):=by
 have e:=dY b (xs.take n) (xs.drop n);rw[List.take_append_drop,List.length_take,Nat.min_eq_left h]at e;exact e
theorem aR{n:Nat}{xs:List Nat}{b:Nat}(h:∀d∈xs,d<b):∀d∈xs.take n,d<b:=
 fun d hd=>h d (List.mem_of_mem_take hd)
theorem fE{n:Nat}{xs:List Nat}{b:Nat}(h:∀d∈xs,d<b):∀d∈xs.drop n,d<b:=
 fun d hd=>h d (List.mem_of_mem_drop hd)
theorem pG{b:Nat}(hb:0<b){n:Nat}{xs:List Nat}(hn:n≤xs.length)(h:∀d∈xs,d<b):vl b (xs.drop n)=vl b xs/b^n:=by
 rw[bI b n xs hn];have h1:=cK (aR (n:=n) h);rw[List.length_take,Nat.min_eq_left hn]at h1;rw[Nat.add_mul_div_left _ _ (Nat.pow_pos hb),Nat.div_eq_of_lt h1];omega
theorem iW{b:Nat}{n:Nat}{xs:List Nat}(hn:n≤xs.length)(h:∀d∈xs,d<b):vl b (xs.take n)=vl b xs % b^n:=by
 rw[bI b n xs hn];have h1:=cK (aR (n:=n) h);rw[List.length_take,Nat.min_eq_left hn]at h1;rw[Nat.add_mul_mod_self_left,Nat.mod_eq_of_lt h1]
def Nz(xs:List Nat):Prop:=xs.getLast?≠some 0
theorem Nz.nil:Nz []:=by simp[Nz]
def Wf(b:Nat)(xs:List Nat):Prop:=(∀d∈xs,d<b)∧Nz xs
theorem Wf.nil{b:Nat}:Wf b []:=⟨by simp,Nz.nil⟩
theorem Nz.ge{b:Nat}{xs:List Nat}(h:Nz xs)(hx:xs≠[]):b^(xs.length-1)≤vl b xs:=by
 obtain⟨ys,y,rfl⟩:∃ys y,xs=ys++[y]:=⟨xs.dropLast,xs.getLast hx,(List.dropLast_concat_getLast hx).symm⟩
 have hy:y≠0:=by
  intro e;subst e;simp[Nz]at h
 rw[kL];simp only[List.length_append,List.length_cons,List.length_nil,Nat.add_sub_cancel];have:b^ys.length*1≤b^ys.length*y:=Nat.mul_le_mul_left _ (by omega);omega
theorem Nz.zero{b:Nat}(hb:0<b){xs:List Nat}(h:Nz xs)(h0:vl b xs=0):xs=[]:=by
 by_cases hx:xs=[]
 ·exact hx
 ·have:=h.ge (b:=b) hx;have:=Nat.pow_pos (n:=xs.length-1) hb;omega
theorem Wf.len_lt{b:Nat}(hb:0<b){xs ys:List Nat}(hx:∀d∈xs,d<b)(hy:Nz ys)(h:xs.length<ys.length):vl b xs<vl b ys:=by
 have h1:=cK hx;have h2:=hy.ge (b:=b) (by intro e;subst e;simp at h);have h3:b^xs.length≤b^(ys.length-1):=Nat.pow_le_pow_right hb (by omega);omega
theorem sK{b:Nat}{xs ys:List Nat}{j x y:Nat}(hx:∀d∈xs,d<b)(hd:xs.drop (j+1)=ys.drop (j+1))
  (ex:xs[j]? =some x) (ey:ys[j]? =some y) (hlt:x<y):vl b xs<vl b ys:=by
 obtain⟨hjx,rfl⟩:=List.getElem?_eq_some_iff.1 ex;obtain⟨hjy,rfl⟩:=List.getElem?_eq_some_iff.1 ey;rw[bI b j xs (by omega),bI b j ys (by omega),List.drop_eq_getElem_cons hjx,List.drop_eq_getElem_cons hjy,dF,dF,hd];have h1:=cK (aR (n:=j) hx);rw[List.length_take,Nat.min_eq_left (by omega)]at h1;have h2:b^j*(xs[j]+b*vl b (ys.drop (j+1))+1)≤b^j*(ys[j]+b*vl b (ys.drop (j+1))):=Nat.mul_le_mul_left _ (by omega);rw[Nat.mul_add _ _ 1]at h2;omega
theorem Wf.inj{b:Nat}(hb:0<b){xs ys:List Nat}(hx:Wf b xs)(hy:Wf b ys)(h:vl b xs=vl b ys):xs=ys:=by
 induction xs generalizing ys with
 |nil=>exact (hy.2.zero hb h.symm).symm
 |cons x xs ih=>
  cases ys with
  |nil=>exact (hx.2.zero hb h)
  |cons y ys=>
   rw[dF,dF]at h;have hx0:=hx.1 x (by simp);have hy0:=hy.1 y (by simp);have e1:x=y:=by
      have:=congrArg (·% b) h;simpa [Nat.add_mul_mod_self_left,Nat.mod_eq_of_lt hx0,Nat.mod_eq_of_lt hy0] using this
   subst e1;have e2:vl b xs=vl b ys:=Nat.eq_of_mul_eq_mul_left hb (by omega);have nzt:∀zs:List Nat,Nz (x::zs)→Nz zs:=by
      intro zs hz;cases zs with
      |nil=>exact Nz.nil
      |cons z zs=>simpa [Nz] using hz
   rw[ih ⟨fun d hd=>hx.1 d (by simp[hd]),nzt _ hx.2⟩ ⟨fun d hd=>hy.1 d (by simp[hd]),nzt _ hy.2⟩ e2]
def dg(b N:Nat):Nat:=if h:N=0∨b≤1 then 0 else dg b (N/b)+1
termination_by N
decreasing_by exact Nat.div_lt_self (by omega) (by omega)
theorem aZ(b:Nat):dg b 0=0:=by rw[dg];simp
theorem lK{b N:Nat}(hb:1<b)(h:0<N):dg b N=dg b (N/b)+1:=by rw[dg];simp;omega
theorem aK{b:Nat}(hb:1<b)(N k:Nat):dg b N≤k↔N<b^k:=by
 induction k generalizing N with
 |zero=>
  rcases Nat.eq_zero_or_pos N with h|h
  ·subst h;simp[aZ]
  ·rw[lK hb h];simp;omega
 |succ k ih=>
  rcases Nat.eq_zero_or_pos N with h|h
  ·subst h;simp[aZ,Nat.pow_pos (show 0<b by omega)]
  ·rw[lK hb h,Nat.add_le_add_iff_right,ih,Nat.pow_succ,Nat.div_lt_iff_lt_mul (by omega)]
theorem aX{b:Nat}(hb:1<b)(N:Nat):N<b^dg b N:=(aK hb N _).1 (Nat.le_refl _)
theorem bK{b:Nat}(hb:1<b){M N:Nat}(h:M≤N):dg b M≤dg b N:=
 (aK hb M _).2 (Nat.lt_of_le_of_lt h (aX hb N))
theorem Wf.len{b:Nat}(hb:1<b){xs:List Nat}(h:Wf b xs):xs.length=dg b (vl b xs):=by
 apply Nat.le_antisymm
 ·rcases Nat.lt_or_ge (dg b (vl b xs)) xs.length with hlt|hge
  ·have hx:xs≠[]:=(by intro e;subst e;simp at hlt);have h1:=h.2.ge (b:=b) hx;have h2:=(aK hb (vl b xs) (xs.length-1)).1 (by omega);omega
  ·exact hge
 ·exact (aK hb _ _).2 (cK h.1)
theorem sO{b:Nat}(hb:1<b)(M N:Nat):dg b (M+N)≤max (dg b M) (dg b N)+1:=by
 rw[aK hb,Nat.pow_succ];have h1:=aX hb M;have h2:=aX hb N;have h3:b^dg b M≤b^max (dg b M) (dg b N):=Nat.pow_le_pow_right (by omega) (by omega);have h4:b^dg b N≤b^max (dg b M) (dg b N):=Nat.pow_le_pow_right (by omega) (by omega);have h5:b^max (dg b M) (dg b N)*2≤b^max (dg b M) (dg b N)*b:=Nat.mul_le_mul_left _ hb;omega
theorem gK{b:Nat}(hb:1<b)(M N:Nat):dg b (M*N)≤dg b M+dg b N:=by
 rw[aK hb,Nat.pow_add];have h1:=aX hb M;have h2:=aX hb N;rcases Nat.eq_zero_or_pos N with h|h
 ·subst h;simp;exact Nat.mul_pos (Nat.pow_pos (by omega)) (Nat.pow_pos (by omega))
 ·exact Nat.lt_of_lt_of_le (Nat.mul_lt_mul_of_pos_right h1 h) (Nat.mul_le_mul_left _ (Nat.le_of_lt h2))
theorem fH(b:Nat){ds:List Nat}{j:Nat}(hj:j<ds.length):vl b (ds.take (j+1))=vl b (ds.take j)+b^j*ds[j]:=by
 rw[List.take_succ_eq_append_getElem hj,kL,List.length_take,Nat.min_eq_left (by omega)]
theorem aAZ(b:Nat){ds:List Nat}{j d:Nat}(h:ds[j]? =some d):vl b (ds.take (j+1))=vl b (ds.take j)+b^j*d:=by
 obtain⟨hj,rfl⟩:=List.getElem?_eq_some_iff.1 h;exact fH b hj
theorem aDd{ds:List Nat}{j:Nat}(hj:j<ds.length)(h:ds[j]≠0):Nz (ds.take (j+1)):=by
 rw[Nz,List.take_succ_eq_append_getElem hj,List.getLast?_concat];simpa using h
theorem take_set{ds:List Nat}{k d:Nat}(hk:k<ds.length):(ds.set k d).take (k+1)=ds.take k++[d]:=by
 rw[List.take_succ_eq_append_getElem (by simpa using hk),List.take_set_of_le (Nat.le_refl _)];simp
theorem aDe{ds:List Nat}{k d b:Nat}(h:∀x∈ds,x<b)(hd:d<b):∀x∈ds.set k d,x<b:=by
 intro x hx;rcases List.mem_or_eq_of_mem_set hx with hx|rfl
 ·exact h x hx
 ·exact hd
theorem jI{n b:Nat}(hb:0<b):∀x∈List.replicate n 0,x<b:=by
 intro x hx;rw[List.eq_of_mem_replicate hx];exact hb
theorem aEe{b:Nat}{xs ys out:List Nat}{l:Nat}(ho:∀d∈out,d<b)(hl:out.length=xs.length)(hle:vl b ys≤vl b xs)
  (h:vl b xs+b^xs.length*l=vl b out+vl b ys):vl b out=vl b xs-vl b ys:=by
 have h1:=cK ho;rw[hl]at h1;rcases Nat.eq_zero_or_pos l with h0|h0
 ·subst h0;omega
 ·have:b^xs.length*1≤b^xs.length*l:=Nat.mul_le_mul_left _ h0;omega
theorem Wf.len_le{b:Nat}(hb:0<b){xs ys:List Nat}(hx:Wf b xs)(hy:Wf b ys)(h:vl b ys≤vl b xs):ys.length≤xs.length:=by
 rcases Nat.lt_or_ge xs.length ys.length with hlt|hge
 ·have:=Wf.len_lt hb hx.1 hy.2 hlt;omega
 ·exact hge
theorem drop_set{ds:List Nat}{k d j:Nat}(h:k<j):(ds.set k d).drop j=ds.drop j:=by
 rw[List.drop_set,if_pos h]
def cmp(a b:Nat):Int:=if a<b then -1 else if b<a then 1 else 0
theorem jR{a b:Nat}(h:a<b):cmp a b=-1:=by simp[cmp,h]
theorem jS{a b:Nat}(h:b<a):cmp a b=1:=by simp[cmp,h,Nat.not_lt.2 (Nat.le_of_lt h)]
theorem cmp_eq(a:Nat):cmp a a=0:=by simp[cmp]
end Ma
namespace Me
open Go.RowKit
open Ma
theorem jT(a:Addr)(n:Nat):(a.add n).block=a.block:=by unfold Addr.add;split<;>rfl
theorem aEf(a:Addr)(i j:Nat):(a.add i).add j=a.add (i+j):=by
 unfold Addr.add;by_cases hi:i=0<;>by_cases hj:j=0<;>simp[hi,hj,Nat.add_assoc]
theorem gL(g o k:Nat):(⟨g,o,none⟩:Addr).add k=⟨g,o+k,none⟩:=by
 unfold Addr.add;split<;>simp_all
def nums(κ:IntKind)(ds:List Nat):List Value:=ds.map fun (d:Nat)=>.int κ (d:Int)
theorem wH(κ:IntKind)(ds:List Nat)(j:Nat):(nums κ ds)[j]? =ds[j]?.map (fun (d:Nat)=>.int κ (d:Int)):=by simp[nums]
theorem nums_length(κ:IntKind)(ds:List Nat):(nums κ ds).length=ds.length:=by simp[nums]
theorem aHA(κ:IntKind)(ds:List Nat)(j d:Nat):(nums κ ds).set j (.int κ (d:Int))=nums κ (ds.set j d):=by simp[nums]
def aEg:IntKind→TypeId
 | .i64=>2
 | .u8=>5
 |_=>127
def Rd(κ:IntKind)(w:World)(B:Nat)(A:Option Addr)(ds:List Nat):Prop:=
 0<ds.length→∃ad,A=some ad∧ad.block<B∧(∀(j d:Nat),ds[j]? =some d→w.cell? (ad.add j)=some (.int κ (d:Int)))∧∃cs fr,w.heap[ad.block]? =some (.cells cs (aEg κ) fr)
section
variable {κ:IntKind} {w w':World} {B B':Nat} {A:Option Addr} {ds:List Nat}
theorem Rd.nil:Rd κ w B A []:=fun h=>absurd h (by simp)
theorem Rd.at_{k:Nat}(h:Rd κ w B A ds)(hk:k<ds.length):∃ad,A=some ad∧ad.block<B∧w.cell? (ad.add k)=some (.int κ (ds[k]:Int)):=by
 obtain⟨ad,e,hb,hc,-⟩:=h (by omega);exact⟨ad,e,hb,hc k _ (List.getElem?_eq_getElem hk)⟩
theorem Rd.head(h:Rd κ w B A ds)(hk:0<ds.length):∃ad,A=some ad∧ad.block<B∧w.cell? ad=some (.int κ (ds[0]:Int)):=by
 obtain⟨ad,e,hb,hc⟩:=h.at_ hk;exact⟨ad,e,hb,by simpa [Addr.add] using hc⟩
theorem gZ{p:Addr}(h:w'.heap[p.block]? =w.heap[p.block]?):w'.cell? p=w.cell? p:=by simp[World.cell?,h]
theorem Rd.keep(h:Rd κ w B A ds)(hk:∀g:Nat,g<B→w'.heap[g]? =w.heap[g]?):Rd κ w' B A ds:=
 fun hn=>by
  obtain⟨ad,e,hb,hc,cs,fr,ht⟩:=h hn;exact⟨ad,e,hb,fun j u hu=>(gZ (hk _ (by rw[jT];exact hb))).trans (hc j u hu),cs,fr,(hk _ hb).trans ht⟩
theorem Rd.more(h:Rd κ w B A ds)(hB:B≤B'):Rd κ w B' A ds:=
 fun hn=>by
  obtain⟨ad,e,hb,hc⟩:=h hn;exact⟨ad,e,Nat.lt_of_lt_of_le hb hB,hc⟩
theorem Rd.below(h:Rd κ w B A ds)(hb:Below B w w'):Rd κ w' B A ds:=h.keep fun g hg=>hb.block g hg
theorem Rd.drew(h:Rd κ w B A ds):Rd κ w.drew B A ds:=h
theorem Rd.drewN(h:Rd κ w B A ds)(k:Nat):Rd κ (w.drewN k) B A ds:=h
theorem Rd.alloc(h:Rd κ w B A ds)(hB:B≤w.heap.size)(o:Obj):Rd κ (w.alloc o) B A ds:=h.keep fun g hg=>Below.heap_alloc w o g (by omega)
theorem Rd.setCell(h:Rd κ w B A ds){p:Addr}(hB:B≤p.block)(u:Value):Rd κ (w.setCell p u) B A ds:=
 h.keep fun g hg=>Below.heap_setCell w p u g (by omega)
theorem Rd.drop(h:Rd κ w B A ds){k cap:Nat}(hc:ds.length≤cap):
  Rd κ w B (if cap=k then A else A.map (·.add k)) (ds.drop k):=by
 intro hn;rw[List.length_drop]at hn;obtain⟨ad,rfl,hb,hcell,ht⟩:=h (by omega);rw[if_neg (by omega)];refine⟨ad.add k,rfl,by rw[jT];exact hb,fun j u hu=>?_,by rw[jT];exact ht⟩;rw[aEf];exact hcell _ u (by rw[←hu,List.getElem?_drop])
theorem Rd.take(h:Rd κ w B A ds)(k:Nat):Rd κ w B A (ds.take k):=by
 intro hn;rw[List.length_take]at hn;obtain⟨ad,rfl,hb,hcell,ht⟩:=h (by omega);refine⟨ad,rfl,hb,fun j u hu=>hcell _ u ?_,ht⟩;rw[List.getElem?_take]at hu;split at hu
 ·exact hu
 ·cases hu
end
def Blk(κ:IntKind)(w:World)(g:Nat)(t:TypeId)(ds:List Nat):Prop:=w.heap[g]? =some (.cells (nums κ ds).toArray t (0,0))
section
variable {κ:IntKind} {w w':World} {g:Nat} {t:TypeId} {ds:List Nat}
theorem Blk.lt(h:Blk κ w g t ds):g<w.heap.size:=by
 rcases Nat.lt_or_ge g w.heap.size with hlt|hge
 ·exact hlt
 ·unfold Blk at h;rw[Array.getElem?_eq_none hge]at h;cases h
theorem Blk.cell(h:Blk κ w g t ds){i:Nat}(hi:i<ds.length):w.cell? ⟨g,i,none⟩=some (.int κ (ds[i]:Int)):=by
 rw[cell_of_row w g i _ t (0,0) h];simp[nums,hi]
theorem Blk.frozen(h:Blk κ w g t ds)(i:Nat):w.frozen? ⟨g,i,none⟩=false:=by
 unfold Blk at h;simp[World.frozen?,h]
theorem Blk.new(w:World)(t:TypeId)(ds:List Nat):Blk κ (w.alloc (.cells (nums κ ds).toArray t)) w.heap.size t ds:=heap_alloc_new w _
theorem Blk.drew(h:Blk κ w g t ds):Blk κ w.drew g t ds:=h
theorem Blk.drewN(h:Blk κ w g t ds)(n:Nat):Blk κ (w.drewN n) g t ds:=h
theorem Blk.alloc(h:Blk κ w g t ds)(o:Obj):Blk κ (w.alloc o) g t ds:=(Below.heap_alloc w o g h.lt).trans h
theorem Blk.set_(h:Blk κ w g t ds)(i d:Nat):Blk κ (w.setCell ⟨g,i,none⟩ (.int κ (d:Int))) g t (ds.set i d):=by
 unfold Blk at h⊢;simp[World.setCell,Array.getElem?_modify,h,←aHA]
theorem Blk.put(h:Blk κ w g t ds)(i d:Nat){e:Int}(he:e=(d:Int)):Blk κ (w.setCell ⟨g,i,none⟩ (.int κ e)) g t (ds.set i d):=by
 subst he;exact h.set_ i d
theorem Blk.far(h:Blk κ w g t ds){p:Addr}(hp:g≠p.block)(u:Value):Blk κ (w.setCell p u) g t ds:=(Below.heap_setCell w p u g hp).trans h
theorem Blk.below{B:Nat}(h:Blk κ w g t ds)(hb:Below B w w')(hg:g<B):Blk κ w' g t ds:=(hb.block g hg).trans h
theorem Blk.rd(h:Blk κ w g t ds){B:Nat}(hB:g<B)(ht:t=aEg κ:=by rfl):Rd κ w B (some ⟨g,0,none⟩) ds:=fun _=>
 ⟨_,rfl,hB,fun j d hd=>by
  obtain⟨hj,rfl⟩:=List.getElem?_eq_some_iff.1 hd;rw[gL,Nat.zero_add];exact h.cell hj,_,_,by rw[←ht];exact h⟩
end
def zs(κ:IntKind)(n:Nat):Array Value:=(nums κ (List.replicate n 0)).toArray
theorem aDf(κ:IntKind)(n:Nat):madeCells #[Value.int κ 0] n=zs κ n:=by
 apply Array.ext_getElem?;intro i;by_cases hi:i<n
 ·simp[madeCells,zs,nums,hi,Nat.mod_one]
 ·simp[madeCells,zs,nums,hi]
theorem Blk.made{κ:IntKind}(w:World)(t:TypeId)(n:Nat):Blk κ (w.alloc (.cells (zs κ n) t)) w.heap.size t (List.replicate n 0):=heap_alloc_new w _
def Q(w w':World):Prop:=Below w.heap.size w w'
section
variable {a b c w w':World}
theorem Q.refl(w:World):Q w w:=Below.refl _ _
theorem Q.size(h:Q a b):a.heap.size≤b.heap.size:=Below.size h
theorem Q.trans(h:Q a b)(k:Q b c):Q a c:=Below.trans h (Below.mono k (Below.size h))
theorem Q.drew(h:Q a b):Q a b.drew:=Below.drew h
theorem Q.drewN(h:Q a b)(n:Nat):Q a (b.drewN n):=⟨h.os,h.tape,h.output,h.size,h.block⟩
theorem Q.alloc(h:Q a b)(o:Obj):Q a (b.alloc o):=Below.alloc h (Below.size h) o
theorem Q.setCell(h:Q a b){p:Addr}(hp:a.heap.size≤p.block)(u:Value):Q a (b.setCell p u):=Below.setCell h hp u
theorem Q.cell(h:Q w w'){p:Addr}(hp:p.block<w.heap.size):w'.cell? p=w.cell? p:=Below.cell h hp
theorem Q.frozen(h:Q w w'){p:Addr}(hp:p.block<w.heap.size):w'.frozen? p=w.frozen? p:=Below.frozen h hp
theorem Q.heap(h:Q w w'){g:Nat}(hg:g<w.heap.size):w'.heap[g]? =w.heap[g]? :=h.block g hg
end
theorem Rd.q{κ:IntKind}{w w':World}{A:Option Addr}{ds:List Nat}(h:Rd κ w w.heap.size A ds)(hq:Q w w'):Rd κ w' w'.heap.size A ds:=
 (h.below hq).more hq.size
theorem Blk.q{κ:IntKind}{w w':World}{g:Nat}{t:TypeId}{ds:List Nat}(h:Blk κ w g t ds)(hq:Q w w'):Blk κ w' g t ds:=h.below hq h.lt
def Nn(κ:IntKind)(b:Nat)(w:World)(v:Value)(N:Nat):Prop:=
 ∃A c ds,v=.slice A ds.length c∧ds.length≤c∧Rd κ w w.heap.size A ds∧Wf b ds∧vl b ds=N
theorem Nn.q{κ:IntKind}{b:Nat}{w w':World}{v:Value}{N:Nat}(h:Nn κ b w v N)(hq:Q w w'):Nn κ b w' v N:=by
 obtain⟨A,c,ds,h1,h2,h3,h4,h5⟩:=h;exact⟨A,c,ds,h1,h2,h3.q hq,h4,h5⟩
theorem Nn.zero{κ:IntKind}{b:Nat}{w:World}(A:Option Addr)(c:Nat):Nn κ b w (.slice A 0 c) 0:=⟨A,c,[],rfl,by simp,Rd.nil,Wf.nil,rfl⟩
theorem Nn.of_blk{κ:IntKind}{b:Nat}{w:World}{g k c N:Nat}{t:TypeId}{ds:List Nat}(h:Blk κ w g t ds)(hk:k≤ds.length)(hc:k≤c)(hz:Nz (ds.take k))
  (hd:∀d∈ds,d<b) (hv:vl b (ds.take k)=N) (ht:t=aEg κ:=by rfl):Nn κ b w (.slice (some ⟨g,0,none⟩) k c) N:=by
 have hl:(ds.take k).length=k:=by rw[List.length_take,Nat.min_eq_left hk]
 exact⟨some ⟨g,0,none⟩,c,ds.take k,by rw[hl],by rw[hl];exact hc,(h.rd h.lt ht).take k,⟨aR hd,hz⟩,hv⟩
def Nw(B:Nat)(v:Value):Prop:=∀ad n c,v=.slice (some ad) n c→B≤ad.block
theorem Nw.at_{B g o n c:Nat}(h:B≤g):Nw B (.slice (some ⟨g,o,none⟩) n c):=fun _ _ _ e=>by cases e;exact h
theorem Nw.nil{B n c:Nat}:Nw B (.slice none n c):=fun _ _ _ e=>by cases e
theorem Nw.more{B B':Nat}{v:Value}(h:Nw B v)(hB:B'≤B):Nw B' v:=fun _ _ _ e=>Nat.le_trans hB (h _ _ _ e)
def B30:Nat:=1073741824
def W64:Nat:=18446744073709551616
theorem bE:W64=18446744073709551616:=rfl
theorem aD:1<W64:=by decide
abbrev Nr:=Nn .i64 B30
def LIM:Nat:=1099511627776
theorem aC:LIM=1099511627776:=rfl
end Me
namespace Ma
theorem iA{b:Nat}(hb:1<b):dg b 1=1:=by
 rw[lK hb (by decide),Nat.div_eq_of_lt hb,aZ]
theorem bO{b N:Nat}(hb:1<b)(h:dg b N=0):N=0:=by
 have:=(aK hb N 0).1 (by omega);simpa using this
theorem iB(b:Nat){ds:List Nat}{j:Nat}(hj:j<ds.length):vl b (ds.drop j)=ds[j]+b*vl b (ds.drop (j+1)):=by
 rw[List.drop_eq_getElem_cons hj,dF]
def bl(N:Nat):Nat:=dg 2 N
theorem aDg:bl 0=0:=aZ 2
theorem jU{N:Nat}(h:0<N):bl N=bl (N/2)+1:=lK (by decide) h
theorem bF(N k:Nat):bl N≤k↔N<2^k:=aK (by decide) N k
theorem fQ(N k:Nat):k<bl N↔2^k≤N:=by
 have:=bF N k;omega
theorem aNV{N k:Nat}(h1:2^k≤N)(h2:N<2^(k+1)):bl N=k+1:=by
 have:=(fQ N k).2 h1;have:=(bF N (k+1)).2 h2;omega
theorem aLA{V t m:Nat}(X:V<2^m)(ht:0<t):bl (V+2^m*t)=m+bl t:=by
 have hp:0<bl t:=by rw[jU ht];omega
 obtain⟨j,hj⟩:∃j,bl t=j+1:=⟨bl t-1,by omega⟩
 rw[hj];have h1:2^j≤t:=(fQ t j).1 (by omega);have h2:t<2^(j+1):=(bF t (j+1)).1 (by omega);refine aNV (k:=m+j) ?_ ?_
 ·rw[Nat.pow_add];exact Nat.le_trans (Nat.mul_le_mul_left _ h1) (Nat.le_add_left _ _)
 ·rw[show m+j+1=m+(j+1) from rfl,Nat.pow_add];have:2^m*(t+1)≤2^m*2^(j+1):=Nat.mul_le_mul_left _ h2;rw[Nat.mul_add]at this;omega
theorem aFw{p:Nat}{ds:List Nat}(h:∀d∈ds,d<2^p){n t:Nat}(hn:ds.length=n+1)(ht:ds[n]? =some t)(h0:0<t):
  bl (vl (2^p) ds)=p*n+bl t:=by
 have e:=aAZ (2^p) ht;rw[List.take_of_length_le (by omega)]at e;rw[e,←Nat.pow_mul];refine aLA ?_ h0;have:=cK (aR (n:=n) h);rw[List.length_take,Nat.min_eq_left (by omega),←Nat.pow_mul]at this;exact this
def tz(N:Nat):Nat:=if h:N=0∨N % 2=1 then 0 else tz (N/2)+1
termination_by N
decreasing_by exact Nat.div_lt_self (by omega) (by omega)
theorem xE{N:Nat}(h:N % 2=1):tz N=0:=by rw[tz];simp[h]
theorem pW{N:Nat}(h0:0<N)(h:N % 2=0):tz N=tz (N/2)+1:=by rw[tz];simp;omega
theorem aLB{N m:Nat}(h:0<N):tz (2^m*N)=m+tz N:=by
 induction m with
 |zero=>simp
 |succ m ih=>
  have e:2^(m+1)*N=2*(2^m*N):=(by rw[Nat.pow_succ];grind);have hp:0<2^m*N:=Nat.mul_pos (Nat.pow_pos (by decide)) h;rw[e,pW (by omega) (by omega),Nat.mul_div_cancel_left _ (by decide),ih];omega
theorem iJ{N:Nat}(h:0<N):N=2^tz N*(N/2^tz N)∧(N/2^tz N) % 2=1:=by
 induction N using Nat.strongRecOn with
 |_ N ih=>
  by_cases ho:N % 2=1
  ·rw[xE ho];simp[ho]
  ·have he:N % 2=0:=(by omega);have:=ih (N/2) (by omega) (by omega);rw[pW h he,Nat.pow_succ,Nat.mul_comm (2^tz (N/2)) 2,←Nat.div_div_eq_div_mul];refine⟨?_,this.2⟩;have h2:N=2*(N/2):=(by omega);rw[Nat.mul_assoc,←this.1];exact h2
theorem aFx{p:Nat}{ds:List Nat}{q t:Nat}(hz:∀j,j<q→ds[j]? =some 0)(ht:ds[q]? =some t)(h0:0<t)(hp:t<2^p):
  tz (vl (2^p) ds)=p*q+tz t:=by
 have hq:q<ds.length:=(List.getElem?_eq_some_iff.1 ht).1;have e0:ds.take q=List.replicate q 0:=by
  apply List.ext_getElem?;intro i;rcases Nat.lt_or_ge i q with hi|hi
  ·rw[List.getElem?_take_of_lt hi,hz i hi];simp[hi]
  ·rw[List.getElem?_eq_none (by rw[List.length_take];omega),List.getElem?_eq_none (by simpa using hi)]
 have e1:vl (2^p) ds=2^(p*q)*(t+2^p*vl (2^p) (ds.drop (q+1))):=by
  rw[bI (2^p) q ds (by omega),e0,kM,←Nat.pow_mul,List.drop_eq_getElem_cons hq,dF];rw[(List.getElem?_eq_some_iff.1 ht).2];omega
 rw[e1,aLB (by omega)];congr 1
 --halving a sum whose second part has more zeros
 generalize vl (2^p) (ds.drop (q+1))=R;clear e1 e0 hq ht hz
 induction p generalizing t with
 |zero=>omega
 |succ p ih=>
  by_cases ho:t % 2=1
  ·rw[xE ho,xE];rw[Nat.pow_succ];have:2^p*2*R=2*(2^p*R):=(by grind);omega
  ·have e:t+2^(p+1)*R=2*(t/2+2^p*R):=by
     rw[Nat.pow_succ];have:2^p*2*R=2*(2^p*R):=(by grind);omega
   rw[pW h0 (by omega),e,pW (by omega) (by omega),Nat.mul_div_cancel_left _ (by decide)];rw[ih (by omega) (by rw[Nat.pow_succ]at hp;omega)]
theorem pX{M N Qt R:Nat}(h:M=Qt*N+R)(hR:R<N):M/N=Qt∧M % N=R:=by
 subst h;have hN:0<N:=by omega
 constructor
 ·rw[Nat.mul_comm,Nat.mul_add_div hN,Nat.div_eq_of_lt hR,Nat.add_zero]
 ·rw[Nat.mul_comm,Nat.mul_add_mod,Nat.mod_eq_of_lt hR]
theorem wJ{b:Nat}{ds:List Nat}{n:Nat}(h:ds.length=n+2):vl b (ds.drop n)=ds[n]'(by omega)+b*ds[n+1]'(by omega):=by
 rw[iB b (by omega),iB b (by omega),List.drop_of_length_le (by omega)];simp[vl]
theorem aHB{b V T R a o g:Nat}(h:o*V+g=a+b*R):a+b*(T*V+R)=(o+b*T)*V+g:=by
 have e:(o+b*T)*V=o*V+b*(T*V):=by grind
 rw[e,Nat.mul_add];omega
def aG(g:Nat→Nat→Nat→Nat × Nat):List Nat→List Nat→Nat→List Nat × Nat
 |x::xs,y::ys,c=>((g x y c).1::(aG g xs ys (g x y c).2).1,(aG g xs ys (g x y c).2).2)
 |_,_,c=>([],c)
theorem bQ(g)(ys c):aG g [] ys c=([],c):=rfl
theorem jJ(g)(x y xs ys c):aG g (x::xs) (y::ys) c=((g x y c).1::(aG g xs ys (g x y c).2).1,(aG g xs ys (g x y c).2).2):=rfl
theorem aW(g)(xs ys c)(h:xs.length=ys.length):(aG g xs ys c).1.length=xs.length:=by
 induction xs generalizing ys c with
 |nil=>rfl
 |cons x xs ih=>
  cases ys with
  |nil=>simp at h
  |cons y ys=>simp only[jJ,List.length_cons];rw[ih];simpa using h
theorem aFy(g)(xs ys:List Nat)(x y c)(h:xs.length=ys.length):
  aG g (xs++[x]) (ys++[y]) c=((aG g xs ys c).1++[(g x y (aG g xs ys c).2).1],(g x y (aG g xs ys c).2).2):=by
 induction xs generalizing ys c with
 |nil=>
  cases ys with
  |nil=>rfl
  |cons y ys=>simp at h
 |cons a xs ih=>
  cases ys with
  |nil=>simp at h
  |cons b ys=>
   simp only[List.cons_append,jJ];rw[ih _ _ (by simpa using h)]
theorem dZ(g){xs ys:List Nat}{k:Nat}(c)(hx:k<xs.length)(hy:k<ys.length):aG g (xs.take (k+1)) (ys.take (k+1)) c=
   ((aG g (xs.take k) (ys.take k) c).1++[(g xs[k] ys[k] (aG g (xs.take k) (ys.take k) c).2).1],(g xs[k] ys[k] (aG g (xs.take k) (ys.take k) c).2).2):=by
 rw[List.take_succ_eq_append_getElem hx,List.take_succ_eq_append_getElem hy,aFy];rw[List.length_take,List.length_take];omega
theorem dS{cs o:List Nat}{off k d:Nat}(ho:o.length=k)(h:off+k<cs.length):
  (cs.take off++o++cs.drop (off+k)).set (off+k) d=cs.take off++(o++[d])++cs.drop (off+(k+1)):=by
 have e:(cs.take off++o).length=off+k:=by rw[List.length_append,List.length_take,ho];omega
 rw[List.set_append,if_neg (by omega),e,Nat.sub_self,List.drop_eq_getElem_cons h,List.set_cons_zero];simp[Nat.add_assoc]
theorem qY{cs o:List Nat}{off k j:Nat}(ho:o.length=k)(h:off+k≤cs.length)(hj:off+k≤j):
  (cs.take off++o++cs.drop (off+k))[j]? =cs[j]? :=by
 have e:(cs.take off++o).length=off+k:=by rw[List.length_append,List.length_take,ho];omega
 rw[List.getElem?_append_right (by omega),e,List.getElem?_drop];congr 1;omega
theorem aV{cs o:List Nat}{off k:Nat}(ho:o.length=k)(h:off+k≤cs.length):(cs.take off++o++cs.drop (off+k)).length=cs.length:=by
 rw[List.length_append,List.length_append,List.length_take,List.length_drop,ho];omega
theorem bL(cs:List Nat)(off:Nat):cs.take off++[]++cs.drop (off+0)=cs:=by simp
theorem mul_lt{x f:Nat}(hx:x<18446744073709551616)(hf:f<18446744073709551616):x*f≤340282366920938463426481119284349108225:=by
 have:=Nat.mul_le_mul (show x≤18446744073709551615 by omega) (show f≤18446744073709551615 by omega);exact this
theorem aA0{x f c hi lo s o:Nat}(hx:x<18446744073709551616)(hf:f<18446744073709551616)(hc:c<18446744073709551616)(h1:x*f/18446744073709551616=hi)(h2:x*f % 18446744073709551616=lo)(h3:(lo+c) % 18446744073709551616=s)(h4:(lo+c)/18446744073709551616=o):
  s=(x*f+c) % 18446744073709551616∧hi+o=(x*f+c)/18446744073709551616∧hi+o<18446744073709551616:=by
 have h:=mul_lt hx hf;generalize x*f=P at*
 omega
theorem sP{x y f c hi lo s o s2 o2:Nat}(hx:x<18446744073709551616)(hy:y<18446744073709551616)(hf:f<18446744073709551616)(hc:c<18446744073709551616)(h1:y*f/18446744073709551616=hi)(h2:y*f % 18446744073709551616=lo)(h3:(lo+c) % 18446744073709551616=s)(h4:(lo+c)/18446744073709551616=o)(h5:(s+x) % 18446744073709551616=s2)(h6:(s+x)/18446744073709551616=o2):
  s2=(y*f+c+x) % 18446744073709551616∧hi+o+o2=(y*f+c+x)/18446744073709551616∧hi+o+o2<18446744073709551616∧hi+o<18446744073709551616:=by
 have h:=mul_lt hy hf;generalize y*f=P at*
 omega
def iR(f x y c:Nat):Nat × Nat:=((x+18446744073709551616-(y*f+c) % 18446744073709551616) % 18446744073709551616,(y*f+c)/18446744073709551616+if x<(y*f+c) % 18446744073709551616 then 1 else 0)
theorem sQ{x y f c hi lo s o s2 o2:Nat}(hy:y<18446744073709551616)(hf:f<18446744073709551616)(hc:c<18446744073709551616)(h1:y*f/18446744073709551616=hi)(h2:y*f % 18446744073709551616=lo)(h3:(lo+c) % 18446744073709551616=s)(h4:(lo+c)/18446744073709551616=o)
  (h5:(x+18446744073709551616-s) % 18446744073709551616=s2) (h6:(if x<s then 1 else 0)=o2):
  s2=(iR f x y c).1∧hi+o+o2=(iR f x y c).2∧hi+o+o2<18446744073709551616∧hi+o<18446744073709551616:=by
 have h:=mul_lt hy hf;unfold iR;generalize y*f=P at*
 have e1:s=(P+c) % 18446744073709551616:=by omega
 have e2:hi+o=(P+c)/18446744073709551616:=by omega
 simp only;rw[←e1,←e2,h6];have e3:P+c≤340282366920938463444927863358058659840:=by omega
 have e4:s=0→o2=0:=by intro h;subst h;simp at h6;exact h6.symm
 have e5:o2≤1:=by rw[←h6];split<;>omega
 refine⟨h5.symm,rfl,?_,?_⟩
 ·rcases Nat.eq_zero_or_pos o2 with h0|h0
  ·omega
  ·have:s≠0:=fun h=>(by have:=e4 h;omega);omega
 ·omega
theorem aHC{f x y c:Nat}(hx:x<18446744073709551616):x+18446744073709551616*(iR f x y c).2=(iR f x y c).1+(y*f+c):=by
 unfold iR;simp only;generalize y*f+c=P;split<;>omega
theorem aJQ(f x y c:Nat):(iR f x y c).1<18446744073709551616:=by
 unfold iR;simp only;omega
def sg(c:Nat):Int:=if c<9223372036854775808 then c else (c:Int)-18446744073709551616
def dI(f h x y c:Nat):Nat × Nat:=((((x*f:Nat)-(y*h:Nat)+sg c:Int) % 18446744073709551616).toNat,(((x*f:Nat)-(y*h:Nat)+sg c:Int)/18446744073709551616 % 18446744073709551616).toNat)
theorem aJR(c:Nat)(hc:c<18446744073709551616):∃k:Int,sg c=c-18446744073709551616*k∧(((c:Int)+9223372036854775808) % 18446744073709551616-9223372036854775808)/9223372036854775808=-k:=by
 unfold sg;rcases Nat.lt_or_ge c 9223372036854775808 with hlt|hge
 ·exact⟨0,by rw[if_pos hlt];omega,by omega⟩
 ·exact⟨1,by rw[if_neg (by omega)];omega,by omega⟩
theorem aJS{x y f h c hix lox hiy loy s o s2 o2:Nat}(hc:c<18446744073709551616)(h1:x*f/18446744073709551616=hix)(h2:x*f % 18446744073709551616=lox)(h3:y*h/18446744073709551616=hiy)(h4:y*h % 18446744073709551616=loy)
  (h5:(lox+18446744073709551616-loy) % 18446744073709551616=s) (h6:(if lox<loy then 1 else 0)=o) (h7:(s+c) % 18446744073709551616=s2) (h8:(s+c)/18446744073709551616=o2):
  s2=(dI f h x y c).1∧((((((hix:Int)-hiy) % 18446744073709551616-o) % 18446744073709551616+o2) % 18446744073709551616+
   ((((c:Int)+9223372036854775808) % 18446744073709551616-9223372036854775808)/9223372036854775808) % 18446744073709551616) % 18446744073709551616)=((dI f h x y c).2:Int):=by
 have e5:(lox:Int)-loy=s-18446744073709551616*o:=by
  have hl1:lox<18446744073709551616:=(by rw[←h2];exact Nat.mod_lt _ (by decide));have hl2:loy<18446744073709551616:=(by rw[←h4];exact Nat.mod_lt _ (by decide));clear h1 h2 h3 h4 h7 h8;rcases Nat.lt_or_ge lox loy with hlt|hge
  ·rw[if_pos hlt]at h6;omega
  ·rw[if_neg (by omega)]at h6;omega
 have e6:(s:Int)+c=s2+18446744073709551616*o2:=by clear h1 h2 h3 h4 h5 h6 e5;omega
 have e7:s2<18446744073709551616:=by rw[←h7];exact Nat.mod_lt _ (by decide)
 have eP:((x*f:Nat):Int)=18446744073709551616*hix+lox:=by
  have:=Nat.div_add_mod (x*f) 18446744073709551616;rw[h1,h2]at this;rw[←this,Int.natCast_add,Int.natCast_mul];rfl
 have eR:((y*h:Nat):Int)=18446744073709551616*hiy+loy:=by
  have:=Nat.div_add_mod (y*h) 18446744073709551616;rw[h3,h4]at this;rw[←this,Int.natCast_add,Int.natCast_mul];rfl
 obtain⟨k,hk,hk2⟩:=aJR c hc;have eT:((x*f:Nat):Int)-(y*h:Nat)+sg c=s2+18446744073709551616*((hix:Int)-hiy-o+o2+-k):=by
  rw[eP,eR,hk];clear h1 h2 h3 h4 h5 h6 h7 h8 eP eR hk hk2 hc;omega
 unfold dI;rw[eT,hk2];clear h1 h2 h3 h4 h5 h6 h7 h8 e5 e6 eP eR hk hk2 eT;constructor
 ·simp only;omega
 ·simp only[Int.emod_sub_emod,Int.emod_add_emod,Int.add_emod_emod];generalize (hix:Int)-hiy-o+o2+-k=z;omega
theorem uQ(f h x y c:Nat):(dI f h x y c).1<18446744073709551616∧(dI f h x y c).2<18446744073709551616:=by
 unfold dI;simp only;constructor<;>omega
def shL(p x c:Nat):Nat × Nat:=(x*2^p % 18446744073709551616+c,x/2^(64-p))
theorem lL{p x c:Nat}(hp:p<64)(hx:x<18446744073709551616)(hc:c<2^p):((x*2^p % 18446744073709551616) |||c)=(shL p x c).1∧(shL p x c).1<18446744073709551616∧(shL p x c).2<2^p∧x*2^p+c=(shL p x c).1+18446744073709551616*(shL p x c).2:=by
 have e:18446744073709551616=2^p*2^(64-p):=by rw[←Nat.pow_add,show p+(64-p)=64 by omega]
 have h0:0<2^p:=Nat.pow_pos (by decide);have h1:0<2^(64-p):=Nat.pow_pos (by decide);have e1:x*2^p % 18446744073709551616=2^p*(x % 2^(64-p)):=by
  rw[e,Nat.mul_comm x,Nat.mul_mod_mul_left]
 have h2:x % 2^(64-p)+1≤2^(64-p):=Nat.mod_lt _ h1;have h3:2^p*(x % 2^(64-p)+1)≤2^p*2^(64-p):=Nat.mul_le_mul_left _ h2;rw[Nat.mul_add,←e]at h3;have h4:x/2^(64-p)<2^p:=by
  rw[Nat.div_lt_iff_lt_mul h1,←e];exact hx
 unfold shL;simp only;rw[e1];refine⟨(Nat.two_pow_add_eq_or_of_lt hc _).symm,by omega,h4,?_⟩;have h5:=Nat.div_add_mod x (2^(64-p));have h6:2^p*x=2^p*(2^(64-p)*(x/2^(64-p)))+2^p*(x % 2^(64-p)):=by rw[←Nat.mul_add,h5]
 rw[←Nat.mul_assoc,←e]at h6;rw[Nat.mul_comm x];omega
def shR(p above y:Nat):Nat:=y/2^p+above*2^(64-p) % 18446744073709551616
theorem xG{p a y:Nat}(hp:p<64)(hy:y<18446744073709551616):((y/2^p) |||(a*2^(64-p) % 18446744073709551616))=shR p a y∧shR p a y<18446744073709551616∧shR p a y=y/2^p+(a % 2^p)*2^(64-p):=by
 have e:18446744073709551616=2^(64-p)*2^p:=by rw[←Nat.pow_add,show 64-p+p=64 by omega]
 have h0:0<2^p:=Nat.pow_pos (by decide);have h1:0<2^(64-p):=Nat.pow_pos (by decide);have e1:a*2^(64-p) % 18446744073709551616=2^(64-p)*(a % 2^p):=by
  rw[e,Nat.mul_comm a,Nat.mul_mod_mul_left]
 have h4:y/2^p<2^(64-p):=by
  rw[Nat.div_lt_iff_lt_mul h0,←e];exact hy
 have h2:a % 2^p+1≤2^p:=Nat.mod_lt _ h0;have h3:2^(64-p)*(a % 2^p+1)≤2^(64-p)*2^p:=Nat.mul_le_mul_left _ h2;rw[Nat.mul_add,←e]at h3;unfold shR;rw[e1];refine⟨?_,by omega,by rw[Nat.mul_comm (a % 2^p)]⟩;rw[Nat.or_comm,←Nat.two_pow_add_eq_or_of_lt h4,Nat.add_comm]
theorem gP{b:Nat}{g:Nat→Nat→Nat→Nat × Nat}{P:Nat→Prop}(hg:∀x y c,x<b→y<b→P c→(g x y c).1<b∧P (g x y c).2){xs ys:List Nat}{c:Nat}
  (h:xs.length=ys.length) (hx:∀d∈xs,d<b) (hy:∀d∈ys,d<b) (hc:P c):(∀d∈(aG g xs ys c).1,d<b)∧P (aG g xs ys c).2:=by
 induction xs generalizing ys c with
 |nil=>exact⟨by simp[bQ],hc⟩
 |cons x xs ih=>
  cases ys with
  |nil=>simp at h
  |cons y ys=>
   have h1:=hg x y c (hx x (by simp)) (hy y (by simp)) hc;have h2:=ih (ys:=ys) (c:=(g x y c).2) (by simpa using h) (fun d hd=>hx d (by simp[hd])) (fun d hd=>hy d (by simp[hd])) h1.2;rw[jJ];refine⟨fun d hd=>?_,h2.2⟩;simp only[List.mem_cons]at hd;rcases hd with rfl|hd
   ·exact h1.1
   ·exact h2.1 d hd
theorem nM{b p q:Nat}{g:Nat→Nat→Nat→Nat × Nat}{P:Nat→Prop}(hg:∀x y c,x<b→y<b→P c→(g x y c).1<b∧P (g x y c).2)(hv:∀x y c,x<b→y<b→P c→(g x y c).1+b*(g x y c).2=p*x+q*y+c){xs ys:List Nat}{c:Nat}(h:xs.length=ys.length)(hx:∀d∈xs,d<b)(hy:∀d∈ys,d<b)(hc:P c):
  vl b (aG g xs ys c).1+b^xs.length*(aG g xs ys c).2=p*vl b xs+q*vl b ys+c:=by
 induction xs generalizing ys c with
 |nil=>
  cases ys with
  |nil=>simp[bQ,vl]
  |cons y ys=>simp at h
 |cons x xs ih=>
  cases ys with
  |nil=>simp at h
  |cons y ys=>
   have hx0:=hx x (by simp);have hy0:=hy y (by simp);have h1:=hg x y c hx0 hy0 hc;have h3:=hv x y c hx0 hy0 hc;have h2:=ih (ys:=ys) (c:=(g x y c).2) (by simpa using h) (fun d hd=>hx d (by simp[hd])) (fun d hd=>hy d (by simp[hd])) h1.2;rw[jJ];simp only[dF,List.length_cons,Nat.pow_succ];generalize (aG g xs ys (g x y c).2).1=r at*
   generalize (aG g xs ys (g x y c).2).2=e at*
   generalize (g x y c).1=s at*
   generalize (g x y c).2=t at*
   have h4:b*(vl b r+b^xs.length*e)=b*(p*vl b xs+q*vl b ys+t):=(by rw[h2]);grind
theorem sS{b q:Nat}{g:Nat→Nat→Nat→Nat × Nat}{P:Nat→Prop}(hg:∀x y c,x<b→y<b→P c→(g x y c).1<b∧P (g x y c).2)(hv:∀x y c,x<b→y<b→P c→x+b*(g x y c).2=(g x y c).1+(q*y+c)){xs ys:List Nat}{c:Nat}(h:xs.length=ys.length)(hx:∀d∈xs,d<b)(hy:∀d∈ys,d<b)(hc:P c):
  vl b xs+b^xs.length*(aG g xs ys c).2=vl b (aG g xs ys c).1+(q*vl b ys+c):=by
 induction xs generalizing ys c with
 |nil=>
  cases ys with
  |nil=>simp[bQ,vl]
  |cons y ys=>simp at h
 |cons x xs ih=>
  cases ys with
  |nil=>simp at h
  |cons y ys=>
   have hx0:=hx x (by simp);have hy0:=hy y (by simp);have h1:=hg x y c hx0 hy0 hc;have h3:=hv x y c hx0 hy0 hc;have h2:=ih (ys:=ys) (c:=(g x y c).2) (by simpa using h) (fun d hd=>hx d (by simp[hd])) (fun d hd=>hy d (by simp[hd])) h1.2;rw[jJ];simp only[dF,List.length_cons,Nat.pow_succ];generalize (aG g xs ys (g x y c).2).1=r at*
   generalize (aG g xs ys (g x y c).2).2=e at*
   generalize (g x y c).1=s at*
   generalize (g x y c).2=t at*
   have h4:b*(vl b xs+b^xs.length*e)=b*(vl b r+(q*vl b ys+t)):=(by rw[h2]);grind
theorem rY{cs o1 o2:List Nat}{off k m:Nat}(h1:o1.length=k)(h2:o2.length=m)(h:off+(k+m)≤cs.length):
  (cs.take off++o1++cs.drop (off+k)).take (off+k)++o2++(cs.take off++o1++cs.drop (off+k)).drop (off+k+m)=cs.take off++(o1++o2)++cs.drop (off+(k+m)):=by
 have e:(cs.take off++o1).length=off+k:=by rw[List.length_append,List.length_take,h1];omega
 rw[List.take_append_of_le_length (by omega),List.take_of_length_le (by omega),List.drop_append,List.drop_of_length_le (by omega),e,List.drop_drop];simp only[List.nil_append,List.append_assoc];rw[show off+k+m-(off+k)=m by omega,show off+k+m=off+(k+m) by omega]
theorem aFz{b m n v1 c1 v2 c2 X1 X2 Y:Nat}(hmn:m≤n)(h1:v1+b^m*c1=1*X1+1*Y+0)(h2:v2+b^(n-m)*c2=1*X2+0*X2+c1):
  v1+b^m*v2+b^n*c2=X1+b^m*X2+Y:=by
 have e:b^n=b^m*b^(n-m):=by rw[←Nat.pow_add,show m+(n-m)=n by omega]
 have h3:b^m*(v2+b^(n-m)*c2)=b^m*(X2+c1):=by rw[h2];congr 1;omega
 rw[Nat.mul_add,Nat.mul_add,←Nat.mul_assoc,←e]at h3;omega
theorem aFA{b m n v1 c1 v2 c2 X1 X2 Y:Nat}(hmn:m≤n)(h1:X1+b^m*c1=v1+(1*Y+0))(h2:X2+b^(n-m)*c2=v2+(0*X2+c1)):
  X1+b^m*X2+b^n*c2=v1+b^m*v2+Y:=by
 have e:b^n=b^m*b^(n-m):=by rw[←Nat.pow_add,show m+(n-m)=n by omega]
 have h3:b^m*(X2+b^(n-m)*c2)=b^m*(v2+c1):=by rw[h2];congr 1;omega
 rw[Nat.mul_add,Nat.mul_add,←Nat.mul_assoc,←e]at h3;omega
theorem aA1{x f:Nat}(hx:x<18446744073709551616)(hf:f<9223372036854775808):x*f≤170141183460469231704017187605319778305:=by
 have:=Nat.mul_le_mul (show x≤18446744073709551615 by omega) (show f≤9223372036854775807 by omega);exact this
theorem aFB{c:Nat}(hc:c<18446744073709551616):-9223372036854775808≤sg c∧sg c≤9223372036854775807:=by
 unfold sg;split<;>omega
theorem aHD{z:Int}(h1:-9223372036854775808≤z)(h2:z≤9223372036854775807):sg (z % 18446744073709551616).toNat=z:=by
 unfold sg;split<;>omega
theorem aHE{f h x y c:Nat}(hx:x<18446744073709551616)(hy:y<18446744073709551616)(hc:c<18446744073709551616)(hf:f<9223372036854775808)(hh:h<9223372036854775808):
  ((dI f h x y c).1:Int)+18446744073709551616*sg (dI f h x y c).2=(x*f:Nat)-(y*h:Nat)+sg c:=by
 have h1:=aA1 hx hf;have h2:=aA1 hy hh;have h3:=aFB hc;unfold dI;generalize sg c=k at*
 generalize x*f=P at*
 generalize y*h=R at*
 simp only;have e:(P:Int)-R+k=18446744073709551616*(((P:Int)-R+k)/18446744073709551616)+((P:Int)-R+k) % 18446744073709551616:=by omega
 have b1:-9223372036854775808≤((P:Int)-R+k)/18446744073709551616:=by omega
 have b2:((P:Int)-R+k)/18446744073709551616≤9223372036854775807:=by omega
 rw[aHD b1 b2];have b3:0≤((P:Int)-R+k) % 18446744073709551616:=by omega
 omega
theorem aJT:sg 0=0:=rfl
theorem aFC{f h:Nat}(hf:f<9223372036854775808)(hh:h<9223372036854775808){xs ys:List Nat}{c:Nat}(hl:xs.length=ys.length)(hx:∀d∈xs,d<18446744073709551616)(hy:∀d∈ys,d<18446744073709551616)(hc:c<18446744073709551616):
  (vl 18446744073709551616 (aG (dI f h) xs ys c).1:Int)+18446744073709551616^xs.length*sg (aG (dI f h) xs ys c).2=f*vl 18446744073709551616 xs-h*vl 18446744073709551616 ys+sg c:=by
 induction xs generalizing ys c with
 |nil=>
  cases ys with
  |nil=>simp[bQ,vl]
  |cons y ys=>simp at hl
 |cons x xs ih=>
  cases ys with
  |nil=>simp at hl
  |cons y ys=>
   have hx0:=hx x (by simp);have hy0:=hy y (by simp);have h1:=(uQ f h x y c).2;have h3:=aHE hx0 hy0 hc hf hh;have h2:=ih (ys:=ys) (c:=(dI f h x y c).2) (by simpa using hl) (fun d hd=>hx d (by simp[hd])) (fun d hd=>hy d (by simp[hd])) h1;rw[jJ];simp only[dF,List.length_cons];generalize (aG (dI f h) xs ys (dI f h x y c).2).1=r at*
   generalize (aG (dI f h) xs ys (dI f h x y c).2).2=e at*
   generalize (dI f h x y c).1=s at*
   generalize (dI f h x y c).2=t at*
   rw[Int.pow_succ,Int.natCast_add,Int.natCast_add,Int.natCast_add,Int.natCast_mul,Int.natCast_mul,Int.natCast_mul];rw[Int.natCast_mul,Int.natCast_mul]at h3;generalize sg e=se at*
   generalize sg t=st at*
   generalize sg c=sc at*
   generalize (18446744073709551616:Int)^xs.length=p at*
   generalize (vl 18446744073709551616 r:Int)=vr at*
   generalize (vl 18446744073709551616 xs:Int)=vx at*
   generalize (vl 18446744073709551616 ys:Int)=vy at*
   generalize hb:(18446744073709551616:Int)=b at*
   have hb2:((18446744073709551616:Nat):Int)=b:=hb;rw[hb2];grind
theorem aAx{f h:Nat}(hf:f<9223372036854775808)(hh:h<9223372036854775808){xs ys:List Nat}(hl:xs.length=ys.length)(hx:∀d∈xs,d<18446744073709551616)(hy:∀d∈ys,d<18446744073709551616)(hle:h*vl 18446744073709551616 ys≤f*vl 18446744073709551616 xs)(hlt:f*vl 18446744073709551616 xs-h*vl 18446744073709551616 ys<18446744073709551616^xs.length):
  vl 18446744073709551616 (aG (dI f h) xs ys 0).1=f*vl 18446744073709551616 xs-h*vl 18446744073709551616 ys:=by
 have h1:=aFC hf hh hl hx hy (c:=0) (by decide);have h2:=(gP (b:=18446744073709551616) (P:=(·<18446744073709551616)) (g:=dI f h) (fun x y c _ _ _=>uQ f h x y c) hl hx hy (c:=0) (by decide)).1;have h3:=cK h2;rw[aW _ _ _ _ hl]at h3;rw[aJT]at h1;generalize vl 18446744073709551616 (aG (dI f h) xs ys 0).1=o at*
 generalize sg (aG (dI f h) xs ys 0).2=s at*
 have e1:((f*vl 18446744073709551616 xs:Nat):Int)=f*vl 18446744073709551616 xs:=Int.natCast_mul _ _;have e2:((h*vl 18446744073709551616 ys:Nat):Int)=h*vl 18446744073709551616 ys:=Int.natCast_mul _ _;rw[←e1,←e2]at h1;generalize f*vl 18446744073709551616 xs=F at*
 generalize h*vl 18446744073709551616 ys=H at*
 have e3:((18446744073709551616^xs.length:Nat):Int)=18446744073709551616^xs.length:=Int.natCast_pow _ _;rw[←e3]at h1;generalize 18446744073709551616^xs.length=p at*
 have h4:s=0:=by
  rcases Int.lt_trichotomy s 0 with h|h|h
  ·exfalso;have:(p:Int)*s≤p*(-1):=Int.mul_le_mul_of_nonneg_left (by omega) (by omega);omega
  ·exact h
  ·exfalso;have:(p:Int)*1≤p*s:=Int.mul_le_mul_of_nonneg_left (by omega) (by omega);omega
 rw[h4,Int.mul_zero]at h1;omega
theorem aJU{b n K L H c:Nat}{cs o:List Nat}(hb:2≤b)(lc:cs.length=K+1)(hn:n≤K+1)(hL:vl b cs=L)
  (hv:vl b o+b^(K+1-n)*c=vl b (cs.drop n)+H) (h1:L<b^K) (h2:b^n*H<b^K):vl b (cs.take n++o)=L+b^n*H:=by
 have e1:vl b (cs.take n++o)=vl b (cs.take n)+b^n*vl b o:=by
  rw[dY,List.length_take,Nat.min_eq_left (by omega)]
 have e2:=bI b n cs (by omega);have e3:b^n*vl b o+b^(K+1)*c=b^n*vl b (cs.drop n)+b^n*H:=by
  rw[show b^(K+1)=b^n*b^(K+1-n) by rw[←Nat.pow_add];congr 1;omega,Nat.mul_assoc,←Nat.mul_add,hv,Nat.mul_add]
 rcases Nat.eq_zero_or_pos c with rfl|hc
 ·rw[e1];omega
 ·exfalso;have h3:b^(K+1)≤b^(K+1)*c:=Nat.le_mul_of_pos_right _ hc;have h4:2*b^K≤b^(K+1):=(by rw[Nat.pow_succ,Nat.mul_comm];exact Nat.mul_le_mul_left _ hb);omega
theorem aEh{b n m K H:Nat}(hb:0<b)(h:H<b^m)(hk:n+m≤K):b^n*H<b^K:=by
 have h1:b^n*H<b^n*b^m:=(Nat.mul_lt_mul_left (Nat.pow_pos hb)).2 h;rw[←Nat.pow_add]at h1;exact Nat.lt_of_lt_of_le h1 (Nat.pow_le_pow_right hb hk)
theorem pY(b:Nat)(xs:List Nat)(n:Nat):vl b (xs++List.replicate n 0)=vl b xs:=by rw[dY,kM];simp
theorem uR{b n:Nat}{xs:List Nat}(hb:0<b)(h:∀d∈xs,d<b):∀d∈xs++List.replicate n 0,d<b:=by
 intro d hd;rcases List.mem_append.1 hd with hd|hd
 ·exact h d hd
 ·exact jI hb d hd
theorem gQ{b:Nat}{xs ys:List Nat}(h:∀d∈xs,d<b)(h2:∀d∈ys,d<b):∀d∈xs++ys,d<b:=by
 intro d hd;rcases List.mem_append.1 hd with hd|hd
 ·exact h d hd
 ·exact h2 d hd
theorem aEi{m n c:Nat}{o:List Nat}(lo:o.length=n):
  ((List.replicate (m+n+1) 0).take m++o++(List.replicate (m+n+1) 0).drop (m+n)).set (m+n) c=List.replicate m 0++(o++[c]):=by
 have e1:(List.replicate (m+n+1) 0).take m=List.replicate m 0:=by rw[List.take_replicate,Nat.min_eq_left (by omega)]
 have e2:(List.replicate (m+n+1) (0:Nat)).drop (m+n)=[0]:=by rw[List.drop_replicate];rw[show m+n+1-(m+n)=1 by omega];rfl
 rw[e1,e2,List.set_append,if_neg (by rw[List.length_append,List.length_replicate];omega),List.length_append,List.length_replicate,lo,Nat.sub_self,List.append_assoc];rfl
theorem aHF{b m n c p X k:Nat}{o:List Nat}(lo:o.length=n)(hv:vl b o+b^n*c=p*X)(hk:b^m*p=k):
  vl b (List.replicate m 0++(o++[c]))=X*k:=by
 rw[dY,kM,List.length_replicate,kL,lo,hv,←hk,←Nat.mul_assoc,Nat.mul_comm X];simp
theorem aAa(k:Nat):18446744073709551616^(k/64)*2^(k % 64)=2^k:=by
 rw[show (18446744073709551616:Nat)=2^64 from rfl,←Nat.pow_mul,←Nat.pow_add,Nat.div_add_mod]
theorem aA2(p:Nat)(hp:p<64)(x y c:Nat)(hx:x<18446744073709551616)(_:y<18446744073709551616)(hc:c<2^p):(shL p x c).1<18446744073709551616∧(shL p x c).2<2^p:=
 ⟨(lL hp hx hc).2.1,(lL hp hx hc).2.2.1⟩
theorem aJV(p:Nat)(hp:p<64)(x y c:Nat)(hx:x<18446744073709551616)(_:y<18446744073709551616)(hc:c<2^p):(shL p x c).1+18446744073709551616*(shL p x c).2=2^p*x+0*y+c:=by
 rw[←(lL hp hx hc).2.2.2,Nat.mul_comm x];omega
def iC(p:Nat):List Nat→List Nat
 | []=>[]
 | [x]=>[x/2^p]
 |x::y::r=>shR p y x::iC p (y::r)
theorem wC(p:Nat):∀xs:List Nat,(iC p xs).length=xs.length
 | []=>rfl
 | [_]=>rfl
 |x::y::r=>by rw[iC,List.length_cons,wC p (y::r)];rfl
theorem aDh{p:Nat}(hp:p<64):∀{xs:List Nat},(∀d∈xs,d<18446744073709551616)→∀d∈iC p xs,d<18446744073709551616
 | [],_=>by simp[iC]
 | [x],h=>by
   intro d hd;simp only[iC,List.mem_singleton]at hd;subst hd;exact Nat.lt_of_le_of_lt (Nat.div_le_self _ _) (h x (by simp))
 |x::y::r,h=>by
  intro d hd;rw[iC,List.mem_cons]at hd;rcases hd with rfl|hd
  ·exact (xG hp (h x (by simp))).2.1
  ·exact aDh hp (fun e he=>h e (by simp at he⊢;exact Or.inr he)) d hd
theorem aA3{p:Nat}(hp:p<64):∀{xs:List Nat},(∀d∈xs,d<18446744073709551616)→vl 18446744073709551616 (iC p xs)=vl 18446744073709551616 xs/2^p
 | [],_=>by simp[iC,vl]
 | [x],_=>by simp[iC,vl]
 |x::y::r,h=>by
  rw[iC,dF,aA3 hp (xs:=y::r) (fun e he=>h e (by simp at he⊢;exact Or.inr he)),(xG hp (h x (by simp))).2.2,dF 18446744073709551616 x];have hW:(18446744073709551616:Nat)=2^p*2^(64-p):=(by rw[←Nat.pow_add,show p+(64-p)=64 by omega]);have X:vl 18446744073709551616 (y::r) % 2^p=y % 2^p:=by
    rw[dF];generalize vl 18446744073709551616 r=s;rw[hW,Nat.mul_assoc,Nat.add_mul_mod_self_left]
  generalize vl 18446744073709551616 (y::r)=V at*
  rw[←X,hW,Nat.mul_assoc _ _ V,Nat.add_mul_div_left _ _ (Nat.pow_pos (by decide)),Nat.add_assoc];congr 1;have h1:=Nat.div_add_mod V (2^p);generalize 2^p=f at*
  generalize 2^(64-p)=g at*
  generalize V/f=q at*
  generalize V % f=e at*
  subst h1;rw[Nat.mul_add,Nat.mul_comm e,Nat.mul_comm f g,Nat.mul_assoc];omega
theorem aA4(p:Nat):∀(xs:List Nat) (n:Nat) (h:xs.length=n+1),(aG (fun x y _=>(shR p x y,0)) (xs.drop 1) (xs.take n) 0).1++[xs[n] / 2^p]=iC p xs
 | [],n,h=>by simp at h
 | [x],n,h=>by
   obtain rfl:n=0:=(by simpa using h.symm);rfl
 |x::y::r,n,h=>by
  obtain⟨m,rfl⟩:∃m,n=m+1:=⟨n-1,by simp at h;omega⟩
  have ih:=aA4 p (y::r) m (by simpa using h);rw[iC,←ih];rfl
theorem aLC(p:Nat)(hp:p<64)(x y c:Nat)(_:x<18446744073709551616)(hy:y<18446744073709551616)(_:True):((fun x y (_:Nat)=>(shR p x y,0)) x y c).1<18446744073709551616∧True:=
 ⟨(xG hp hy).2.1,trivial⟩
theorem aJW{b nx ny i y c X V:Nat}{cs o:List Nat}(lc:cs.length=nx+ny)(hi:i<ny)(lo:o.length=nx)(hz:cs.drop (nx+i)=List.replicate (ny-i) 0)(hv:vl b o+b^nx*c=vl b ((cs.drop i).take nx)+y*X)(K:vl b cs=V):∃cs',(cs.take i++o++cs.drop (i+nx)).set (nx+i) c=cs'∧cs'.length=nx+ny∧cs'.drop (nx+(i+1))=List.replicate (ny-(i+1)) 0∧vl b cs'=V+b^i*(y*X)∧
   cs'=cs.take i++(o++[c])++List.replicate (ny-(i+1)) 0:=by
 have hz2:cs.drop (i+nx)=0::List.replicate (ny-(i+1)) 0:=by
  rw[Nat.add_comm i nx,hz,show ny-i=(ny-(i+1))+1 by omega,List.replicate_succ]
 have lt:(cs.take i).length=i:=by rw[List.length_take];omega
 have e:(cs.take i++o++cs.drop (i+nx)).set (nx+i) c=cs.take i++(o++[c])++List.replicate (ny-(i+1)) 0:=by
  rw[hz2,List.set_append,if_neg (by rw[List.length_append];omega),List.length_append,lt,lo,show nx+i-(i+nx)=0 by omega,List.set_cons_zero];simp[List.append_assoc]
 refine⟨_,e,?_,?_,?_,rfl⟩
 ·simp only[List.length_append,lt,lo,List.length_replicate,List.length_cons,List.length_nil];omega
 ·rw[List.drop_append,List.drop_of_length_le (by simp only[List.length_append,lt,lo,List.length_cons,List.length_nil];omega),List.nil_append];simp only[List.length_append,lt,lo,List.length_cons,List.length_nil];rw[show nx+(i+1)-(i+(nx+(0+1)))=0 by omega,List.drop_zero]
 ·have h1:cs=cs.take i++((cs.drop i).take nx++List.replicate (ny-i) 0):=by
   conv=>lhs;rw[←List.take_append_drop i cs,←List.take_append_drop nx (cs.drop i),List.drop_drop,Nat.add_comm i nx,hz]
  have h2:vl b cs=vl b (cs.take i)+b^i*vl b ((cs.drop i).take nx):=by
   conv=>lhs;rw[h1,dY,lt,pY]
  rw[pY,dY,lt,kL,lo,hv,←K,h2,Nat.mul_add,Nat.add_assoc]
theorem aO4{x0 x1 y0 y1 p:Nat}:(x0+x1*p)*(y0+y1*p)=x0*y0+x1*y1*(p*p)+((x0+x1)*(y0+y1)-x0*y0-x1*y1)*p:=by
 have h:(x0+x1)*(y0+y1)=x0*y0+x0*y1+x1*y0+x1*y1:=by rw[Nat.add_mul,Nat.mul_add,Nat.mul_add];omega
 rw[h,show x0*y0+x0*y1+x1*y0+x1*y1-x0*y0-x1*y1=x0*y1+x1*y0 by omega];grind
theorem aJX{x0 x1 y0 y1:Nat}:x0*y0≤(x0+x1)*(y0+y1)∧x1*y1≤(x0+x1)*(y0+y1)-x0*y0:=by
 have h:(x0+x1)*(y0+y1)=x0*y0+x0*y1+x1*y0+x1*y1:=by rw[Nat.add_mul,Nat.mul_add,Nat.mul_add];omega
 omega
theorem aA5{b N n:Nat}(hb:1<b):dg b (N % b^n)≤n:=(aK hb _ _).2 (Nat.mod_lt _ (Nat.pow_pos (by omega)))
theorem qA{b N n:Nat}(hb:1<b):dg b (N/b^n)≤dg b N-n:=by
 refine (aK hb _ _).2 ?_;by_cases h:dg b N≤n
 ·have h1:N<b^n:=(aK hb _ _).1 h;rw[Nat.div_eq_of_lt h1];exact Nat.pow_pos (by omega)
 ·rw[Nat.div_lt_iff_lt_mul (Nat.pow_pos (by omega)),←Nat.pow_add,show dg b N-n+n=dg b N by omega];exact aX hb N
theorem aFD{b M N:Nat}(hb:1<b):dg b (M-N)≤dg b M:=bK hb (Nat.sub_le _ _)
theorem mO{b N n:Nat}(hb:1<b):dg b (N*b^n)≤dg b N+n:=by
 refine (aK hb _ _).2 ?_;rw[Nat.pow_add];exact (Nat.mul_lt_mul_right (Nat.pow_pos (by omega))).2 (aX hb N)
theorem aA6{b N n:Nat}(hb:1<b):dg b (N^n)≤n*dg b N+(if n=0 then 1 else 0):=by
 split
 ·rename_i h;subst h;rw[Nat.pow_zero,iA hb];omega
 ·refine (aK hb _ _).2 ?_;rw[Nat.add_zero,Nat.mul_comm,Nat.pow_mul];exact Nat.pow_lt_pow_left (aX hb N) (by assumption)
theorem aFE{a k e n D:Nat}(h:a+k*e=n)(hk:0<k):a*D+e*D≤n*D:=by
 rw[←Nat.add_mul];refine Nat.mul_le_mul_right _ ?_;have:e≤k*e:=Nat.le_mul_of_pos_left _ hk;omega
theorem aFF{a k e n D:Nat}(h:a+k*e=n)(hk:0<k/2):e*D+e*D≤n*D:=by
 rw[←Nat.add_mul];refine Nat.mul_le_mul_right _ ?_;have:2*e≤k*e:=Nat.mul_le_mul_right _ (by omega);omega
theorem aFG{a k e n:Nat}(h:a+k*e=n)(hk:k % 2=1):(a+e)+(k/2)*(2*e)=n:=by
 have h1:k*e=(2*(k/2)+1)*e:=by congr 1;omega
 rw[←h,h1,Nat.add_mul,Nat.one_mul,Nat.mul_left_comm,←Nat.mul_assoc];omega
theorem aEj{a k e n:Nat}(h:a+k*e=n)(hk:k % 2=0):a+(k/2)*(2*e)=n:=by
 have h1:k*e=(2*(k/2))*e:=by congr 1;omega
 rw[←h,h1,Nat.mul_left_comm,←Nat.mul_assoc]
structure Gs (u u1 y1 y0 q r:Nat):Prop where
 eq:q*y1+r=u
 rl:r<4294967296
 ge:(u*4294967296+u1)/(y1*4294967296+y0)≤q
 le:q≤4294967297
theorem Gs.init{u u1 y1 y0:Nat}(h1:2147483648≤y1)(h2:y1<4294967296)(h0:y0<4294967296)(hu1:u1<4294967296)(hu:u<y1*4294967296+y0):Gs u u1 y1 y0 (u/y1) (u % y1):=by
 have hm:=Nat.mod_lt u (show 0<y1 by omega);refine⟨by rw[Nat.mul_comm];exact Nat.div_add_mod u y1,by omega,?_,?_⟩
 ·rw[Nat.le_div_iff_mul_le (by omega)];have h3:=Nat.div_mul_le_self (u*4294967296+u1) (y1*4294967296+y0);generalize (u*4294967296+u1)/(y1*4294967296+y0)=t at*
  have h4:t*(y1*4294967296)≤t*(y1*4294967296+y0):=Nat.mul_le_mul_left _ (by omega);rw[←Nat.mul_assoc]at h4;omega
 ·have h3:u<(4294967297+1)*y1:=(by omega);have h4:=(Nat.div_lt_iff_lt_mul (show 0<y1 by omega)).2 h3;omega
theorem Gs.stop{u u1 y1 y0 q r:Nat}(h:Gs u u1 y1 y0 q r)(h1:0<y1)(hq:q*y0≤4294967296*r+u1):q=(u*4294967296+u1)/(y1*4294967296+y0):=by
 refine Nat.le_antisymm ?_ h.ge;rw[Nat.le_div_iff_mul_le (by omega),Nat.mul_add,←Nat.mul_assoc];have:=h.eq;omega
theorem Gs.over{u u1 y1 y0 q r:Nat}(h:Gs u u1 y1 y0 q r)(hu1:u1<4294967296)(hu:u<y1*4294967296+y0)(hq:4294967296≤q∨4294967296*r+u1<q*y0):
  ∃p,q=p+1∧p*y1+(r+y1)=u∧(u*4294967296+u1)/(y1*4294967296+y0)≤p∧p≤4294967296:=by
 have hle:=h.le;have hlt:(u*4294967296+u1)/(y1*4294967296+y0)<q:=by
  rcases hq with hq|hq
  ·refine Nat.lt_of_lt_of_le ?_ hq;rw[Nat.div_lt_iff_lt_mul (by omega)];omega
  ·rw[Nat.div_lt_iff_lt_mul (by omega),Nat.mul_add,←Nat.mul_assoc];have:=h.eq;omega
 generalize (u*4294967296+u1)/(y1*4294967296+y0)=t at*
 obtain⟨p,rfl⟩:∃p,q=p+1:=⟨q-1,by omega⟩
 refine⟨p,rfl,?_,by omega,by omega⟩;have:=h.eq;rw[Nat.add_mul]at this;omega
theorem Gs.next{u u1 y1 y0 p r:Nat}(hr:r<4294967296)(he:p*y1+r=u)(hge:(u*4294967296+u1)/(y1*4294967296+y0)≤p)(hle:p≤4294967296):Gs u u1 y1 y0 p r:=⟨he,hr,hge,by omega⟩
theorem Gs.brk{u u1 y1 y0 p r:Nat}(h1:2147483648≤y1)(h0:y0<4294967296)(hr:4294967296≤r)(he:p*y1+r=u)(hge:(u*4294967296+u1)/(y1*4294967296+y0)≤p)(hle:p≤4294967296):
  p=(u*4294967296+u1)/(y1*4294967296+y0):=by
 refine Nat.le_antisymm ?_ hge;rw[Nat.le_div_iff_mul_le (by omega),Nat.mul_add,←Nat.mul_assoc];have h2:p*y0≤4294967296*4294967295:=Nat.mul_le_mul hle (by omega);omega
theorem aFH{c u u1 u0 y q1 r1 q0 r0:Nat}(hq1:(u*c+u1)/y=q1)(hr1:(u*c+u1) % y=r1)(hq0:(r1*c+u0)/y=q0)(hr0:(r1*c+u0) % y=r0)(hy:0<y):
  q1*c+q0=(u*(c*c)+(u1*c+u0))/y∧r0=(u*(c*c)+(u1*c+u0)) % y:=by
 have h1:=Nat.div_add_mod (u*c+u1) y;have h2:=Nat.div_add_mod (r1*c+u0) y;have h3:=Nat.mod_lt (r1*c+u0) hy;rw[hq1,hr1]at h1;rw[hq0,hr0]at h2;rw[hr0]at h3;have h4:u*(c*c)+(u1*c+u0)=(q1*c+q0)*y+r0:=by grind
 have h5:=pX h4 h3;exact⟨h5.1.symm,h5.2.symm⟩
theorem aDi{u u1 y:Nat}(hu:u<y)(h1:u1<4294967296):(u*4294967296+u1)/y<4294967296:=by
 rw[Nat.div_lt_iff_lt_mul (by omega)];omega
theorem aFI{hi lo y s:Nat}(hs:s≤64)(hlo:lo<18446744073709551616)(hy:y*2^s<18446744073709551616)(hh:hi<y):hi*2^s<18446744073709551616∧(hi*2^s) |||(lo/2^(64-s))=hi*2^s+lo/2^(64-s)∧hi*2^s+lo/2^(64-s)<y*2^s∧
   (hi*2^s+lo/2^(64-s))*18446744073709551616+lo*2^s % 18446744073709551616=(hi*18446744073709551616+lo)*2^s:=by
 have hW:(18446744073709551616:Nat)=2^s*2^(64-s):=by rw[←Nat.pow_add,show s+(64-s)=64 by omega]
 have hor:∀b,b<2^s→hi*2^s |||b=hi*2^s+b:=fun b hb=>by rw[Nat.mul_comm,←Nat.two_pow_add_eq_or_of_lt hb]
 have hf:0<2^s:=Nat.pow_pos (by decide);have hg:0<2^(64-s):=Nat.pow_pos (by decide);generalize 2^s=f at*
 generalize 2^(64-s)=g at*
 have h1:lo/g<f:=by rw[Nat.div_lt_iff_lt_mul hg,←hW];exact hlo
 have h2:hi*f+f≤y*f:=by
  have:(hi+1)*f≤y*f:=Nat.mul_le_mul_right _ hh
  rwa [Nat.add_mul,Nat.one_mul]at this
 refine⟨by omega,hor _ h1,by omega,?_⟩;have h3:lo*f=lo/g*18446744073709551616+lo*f % 18446744073709551616:=by
  have h4:lo*f/18446744073709551616=lo/g:=by
   rw[hW,Nat.mul_comm f,Nat.mul_div_mul_right _ _ hf]
  have h5:=Nat.div_add_mod (lo*f) 18446744073709551616;rw[h4]at h5;omega
 generalize lo*f % 18446744073709551616=m at*
 rw[Nat.add_mul,Nat.add_mul,Nat.mul_right_comm,h3];omega
theorem yY{y:Nat}(hy:0<y)(h:bl y≤64):2147483648*4294967296≤y*2^(64-bl y)∧y*2^(64-bl y)<18446744073709551616:=by
 have h1:y<2^bl y:=(bF _ _).1 (Nat.le_refl _);have h0:0<bl y:=by rw[jU hy];omega
 have h2:2^(bl y-1)≤y:=(fQ _ _).1 (by omega);have e1:(18446744073709551616:Nat)=2^bl y*2^(64-bl y):=by rw[←Nat.pow_add,show bl y+(64-bl y)=64 by omega]
 have e2:(2147483648*4294967296:Nat)=2^(bl y-1)*2^(64-bl y):=by rw[←Nat.pow_add,show bl y-1+(64-bl y)=63 by omega]
 rw[e1,e2];exact⟨Nat.mul_le_mul_right _ h2,(Nat.mul_lt_mul_right (Nat.pow_pos (by decide))).2 h1⟩
structure Gw (U v y2 p2 g r:Nat):Prop where
 eq:g*v+r=U
 rl:r<18446744073709551616
 gl:g<18446744073709551616
 ge:(U*18446744073709551616+p2)/(v*18446744073709551616+y2)≤g
theorem Gw.init{pn pm v y2 p2:Nat}(hv:pn<v)(hv2:v<18446744073709551616)(hm:pm<18446744073709551616)(h2:p2<18446744073709551616):
  Gw (pn*18446744073709551616+pm) v y2 p2 ((pn*18446744073709551616+pm)/v) ((pn*18446744073709551616+pm) % v):=by
 have hd:=Nat.div_add_mod (pn*18446744073709551616+pm) v;have hl:=Nat.mod_lt (pn*18446744073709551616+pm) (show 0<v by omega);refine⟨by rw[Nat.mul_comm];exact hd,by omega,?_,?_⟩
 ·rw[Nat.div_lt_iff_lt_mul (by omega)];omega
 ·obtain⟨U,hU⟩:∃U,pn*18446744073709551616+pm=U:=⟨_,rfl⟩
  rw[hU]at hd hl⊢;obtain⟨g,hg⟩:∃g,U/v=g:=⟨_,rfl⟩
  obtain⟨r,hr⟩:∃r,U % v=r:=⟨_,rfl⟩
  rw[hr]at hd hl;rw[hg]at hd⊢;have:(U*18446744073709551616+p2)/(v*18446744073709551616+y2)<g+1:=by
   rw[Nat.div_lt_iff_lt_mul (by omega)];have h3:(g+1)*(v*18446744073709551616+y2)=(v*g+v)*18446744073709551616+(g+1)*y2:=(by grind);rw[h3];omega
  omega
theorem Gw.stop{U v y2 p2 g r:Nat}(h:Gw U v y2 p2 g r)(hv:0<v)(hq:g*y2≤r*18446744073709551616+p2):
  g=(U*18446744073709551616+p2)/(v*18446744073709551616+y2):=by
 refine Nat.le_antisymm ?_ h.ge;rw[Nat.le_div_iff_mul_le (by omega),Nat.mul_add,←Nat.mul_assoc];have:=h.eq;omega
theorem Gw.over{U v y2 p2 g r:Nat}(h:Gw U v y2 p2 g r)(hv:0<v)(hq:r*18446744073709551616+p2<g*y2):
  ∃p,g=p+1∧p*v+(r+v)=U∧(U*18446744073709551616+p2)/(v*18446744073709551616+y2)≤p:=by
 have hlt:(U*18446744073709551616+p2)/(v*18446744073709551616+y2)<g:=by
  have h1:=h.eq;have h2:U*18446744073709551616+p2<g*(v*18446744073709551616+y2):=by
   rw[Nat.mul_add,←Nat.mul_assoc,←h1,Nat.add_mul,Nat.add_assoc];exact Nat.add_lt_add_left hq _
  exact (Nat.div_lt_iff_lt_mul (by omega)).2 h2
 obtain⟨t,ht⟩:∃t,(U*18446744073709551616+p2)/(v*18446744073709551616+y2)=t:=⟨_,rfl⟩
 rw[ht]at hlt⊢;obtain⟨p,rfl⟩:∃p,g=p+1:=⟨g-1,by omega⟩
 refine⟨p,rfl,?_,by omega⟩;have:=h.eq;rw[Nat.add_mul]at this;omega
theorem Gw.brk{U v y2 p2 p r:Nat}(hv:0<v)(h0:y2<18446744073709551616)(hr:18446744073709551616≤r)(hp:p<18446744073709551616)(he:p*v+r=U)(hge:(U*18446744073709551616+p2)/(v*18446744073709551616+y2)≤p):
  p=(U*18446744073709551616+p2)/(v*18446744073709551616+y2):=by
 refine Nat.le_antisymm ?_ hge;rw[Nat.le_div_iff_mul_le (by omega),Nat.mul_add,←Nat.mul_assoc];have h2:p*y2≤18446744073709551615*18446744073709551615:=Nat.mul_le_mul (by omega) (by omega);omega
theorem aFJ{T Y2 B p y:Nat}(hY:9223372036854775808*18446744073709551616≤Y2)(hp:p<B)(hy:y<B)(hT:T/Y2<18446744073709551616):
  (T*B+p)/(Y2*B+y)≤T/Y2∧T/Y2≤(T*B+p)/(Y2*B+y)+1:=by
 have hB:0<B:=by omega
 have hYB:0<Y2*B:=Nat.mul_pos (by omega) hB;constructor
 ·rw[Nat.le_div_iff_mul_le (by omega)];have h1:=Nat.div_mul_le_self (T*B+p) (Y2*B+y);generalize (T*B+p)/(Y2*B+y)=t at*
  have h2:t*Y2*B<(T+1)*B:=by
   have h3:t*(Y2*B+y)=t*Y2*B+t*y:=(by rw[Nat.mul_add,Nat.mul_assoc]);have h4:(T+1)*B=T*B+B:=(by rw[Nat.add_mul,Nat.one_mul]);omega
  have:=Nat.lt_of_mul_lt_mul_right h2;omega
 ·have h1:T/Y2*Y2≤T:=Nat.div_mul_le_self T Y2;generalize T/Y2=g at*
  rcases Nat.eq_zero_or_pos g with rfl|hg
  ·exact Nat.zero_le _
  obtain⟨k,rfl⟩:∃k,g=k+1:=⟨g-1,by omega⟩
  have h2:k≤(T*B+p)/(Y2*B+y):=by
   rw[Nat.le_div_iff_mul_le (by omega)];have h3:(k+1)*Y2*B≤T*B:=Nat.mul_le_mul_right _ h1;have h4:k*y≤k*B:=Nat.mul_le_mul_left _ (by omega);have h5:k*B≤Y2*B:=Nat.mul_le_mul_right _ (by omega);have h6:(k+1)*Y2*B=k*(Y2*B)+Y2*B:=(by grind);rw[Nat.mul_add];omega
  exact Nat.succ_le_succ h2
theorem aFK{P v B y:Nat}(hv:9223372036854775808≤v)(hy:y<B)(hP:P<(v*B+y)*18446744073709551616)(hn:v*(B*18446744073709551616)≤P):
  P/(v*B+y)≤18446744073709551615∧18446744073709551615≤P/(v*B+y)+1:=by
 have hB:0<v*B:=Nat.mul_pos (by omega) (by omega);constructor
 ·have:P/(v*B+y)<18446744073709551616:=by
   rw[Nat.div_lt_iff_lt_mul (by omega),Nat.mul_comm];exact hP
  omega
 ·have:18446744073709551614≤P/(v*B+y):=by
   rw[Nat.le_div_iff_mul_le (by omega)];have h1:18446744073709551614*y≤18446744073709551614*B:=Nat.mul_le_mul_left _ (by omega);have h2:9223372036854775808*B≤v*B:=Nat.mul_le_mul_right _ hv;have h3:v*(B*18446744073709551616)=v*B*18446744073709551616:=(by rw[Nat.mul_assoc]);rw[h3]at hn;generalize v*B=z at*
   omega
  omega
theorem aFL{C P Y g q r pn Pl v bo:Nat}(hY:Y<C)(hPl:P=Pl+C*pn)(hq:P/Y=q)(hr:P % Y=r)(hg1:q≤g)(hg2:g≤q+1)(hY0:0<Y)(hs:Pl+C*bo=v+g*Y)(hv:v<C):
  (bo≤pn→g=q∧v=r)∧(pn<bo→g=q+1∧∃c,v+Y=r+C*c):=by
 have hd:=Nat.div_add_mod P Y;have hl:=Nat.mod_lt P hY0;rw[hq,hr,Nat.mul_comm]at hd;rw[hr]at hl;rcases Nat.lt_or_ge q g with h|h
 ·obtain rfl:g=q+1:=(by omega);rw[Nat.add_mul,Nat.one_mul]at hs
  --v+Y=r+C*(bo-pn)
  have h1:v+Y+C*pn=r+C*bo:=(by omega);constructor
  ·intro hb;exfalso;have h2:C*bo≤C*pn:=Nat.mul_le_mul_left _ hb;omega
  ·intro hb;refine⟨rfl,bo-pn,?_⟩;have h2:C*bo=C*pn+C*(bo-pn):=(by rw[←Nat.mul_add];congr 1;omega);omega
 ·obtain rfl:g=q:=(by omega);have h1:v+C*pn=r+C*bo:=(by omega);have h2:bo=pn:=by
   rcases Nat.lt_trichotomy bo pn with hb|hb|hb
   ·have h2:C*(bo+1)≤C*pn:=Nat.mul_le_mul_left _ hb;rw[Nat.mul_add,Nat.mul_one]at h2;omega
   ·exact hb
   ·have h2:C*(pn+1)≤C*bo:=Nat.mul_le_mul_left _ hb;rw[Nat.mul_add,Nat.mul_one]at h2;omega
  subst h2;exact⟨fun _=>⟨rfl,by omega⟩,fun hb=>absurd hb (by omega)⟩
theorem aHG{C v r c1 c2 x:Nat}(h1:x=r+C*c1)(h2:x=v+C*c2)(hr:r<C)(hv:v<C):v=r:=by
 have h3:=congrArg (·% C) (h1.symm.trans h2);simp only[Nat.add_mul_mod_self_left]at h3;rw[Nat.mod_eq_of_lt hr,Nat.mod_eq_of_lt hv]at h3;exact h3.symm
theorem aHH{x y p q1 r1 q0 r0:Nat}(hy:0<y)(h1:x/p/y=q1)(h2:x/p % y=r1)(h3:(x % p+r1*p)/y=q0)(h4:(x % p+r1*p) % y=r0)(hp:0<p):
  q0+q1*p=x/y∧r0=x % y∧q0<p:=by
 have a:=Nat.div_add_mod x p;have b:=Nat.div_add_mod (x/p) y;have c:=Nat.div_add_mod (x % p+r1*p) y;have d:=Nat.mod_lt (x % p+r1*p) hy;have e:=Nat.mod_lt (x/p) hy;have f:=Nat.mod_lt x hp;rw[h1,h2]at b;rw[h3,h4]at c;rw[h4]at d;rw[h2]at e;have hx:x=(q0+q1*p)*y+r0:=by
  have:x/p*p=(y*q1+r1)*p:=(by rw[b]);grind
 have h5:=pX hx d;refine⟨h5.1.symm,h5.2.symm,?_⟩;rw[←h3,Nat.div_lt_iff_lt_mul hy];have:(r1+1)*p≤y*p:=Nat.mul_le_mul_right _ e;rw[Nat.add_mul,Nat.one_mul]at this;rw[Nat.mul_comm p y];omega
theorem aHI{x y p n yl yh lo q r k:Nat}(hy:y=yl+yh*n)(hx:x=lo+(q*yh+r)*(p*n))(hk:k≤q)(hle:q*yl*p≤lo+r*(p*n)+k*(y*p))(hlt:lo+r*(p*n)+k*(y*p)<q*yl*p+y*p):
  x/(y*p)=q-k∧x % (y*p)=lo+r*(p*n)+k*(y*p)-q*yl*p:=by
 refine pX ?_ (by omega);obtain⟨j,rfl⟩:∃j,q=k+j:=⟨q-k,by omega⟩
 have h1:(k+j-k)*(y*p)=j*(y*p):=by congr 1;omega
 rw[h1];have h2:x+(k+j)*yl*p=(k+j)*(y*p)+(lo+r*(p*n)):=by rw[hx,hy];grind
 have h3:(k+j)*(y*p)=k*(y*p)+j*(y*p):=Nat.add_mul _ _ _;omega
theorem aFM{x y p n yl yh lo q r k:Nat}(hy:y=yl+yh*n)(hx:x=lo+(q*yh+r)*(p*n))(hk:k≤q)(hlt:lo+r*(p*n)+k*(y*p)<q*yl*p):k<q:=by
 rcases Nat.lt_or_ge k q with h|h
 ·exact h
 ·exfalso;obtain rfl:k=q:=(by omega);have h2:x+k*yl*p=k*(y*p)+(lo+r*(p*n)):=(by rw[hx,hy];grind);omega
theorem aEk{x y p q1 r1 q0 r0:Nat}(hy:0<y)(hp:0<p)(h1:x/(y*p)=q1)(h2:x % (y*p)=r1)(h3:r1/y=q0)(h4:r1 % y=r0):
  q0+q1*p=x/y∧r0=x % y∧q0<p:=by
 have a:=Nat.div_add_mod x (y*p);have b:=Nat.div_add_mod r1 y;have c:=Nat.mod_lt r1 hy;have d:=Nat.mod_lt x (Nat.mul_pos hy hp);rw[h1,h2]at a;rw[h3,h4]at b;rw[h4]at c;rw[h2]at d;have hx:x=(q0+q1*p)*y+r0:=by grind
 have h5:=pX hx c;refine⟨h5.1.symm,h5.2.symm,?_⟩;rw[←h3,Nat.div_lt_iff_lt_mul hy,Nat.mul_comm];exact d
theorem aFN{x y f q r:Nat}(hf:0<f)(h1:(x*f)/(y*f)=q)(h2:(x*f) % (y*f)=r):x/y=q∧x % y=r/f:=by
 rw[Nat.mul_div_mul_right _ _ hf]at h1;rw[Nat.mul_mod_mul_right]at h2;refine⟨h1,?_⟩;rw[←h2,Nat.mul_div_cancel _ hf]
theorem aCP{b:Nat}(h:b % 2=1):Nat.Coprime 2 b:=by
 unfold Nat.Coprime;rw[Nat.gcd_rec,h];rfl
theorem aCQ{b:Nat}(t:Nat)(h:b % 2=1):Nat.Coprime (2^t) b:=Nat.Coprime.pow_left t (aCP h)
theorem pI{b:Nat}(t c:Nat)(h:b % 2=1):Nat.gcd (2^t*c) b=Nat.gcd c b:=Nat.Coprime.gcd_mul_left_cancel c (aCQ t h)
theorem aHJ{a b:Nat}(i k:Nat)(ha:a % 2=1)(hb:b % 2=1):Nat.gcd (2^i*a) (2^k*b)=2^min i k*Nat.gcd a b:=by
 rcases Nat.le_total i k with h|h
 ·rw[Nat.min_eq_left h];obtain⟨d,rfl⟩:∃d,k=i+d:=⟨k-i,by omega⟩
  rw[Nat.pow_add,Nat.mul_assoc,Nat.gcd_mul_left];congr 1;rw[Nat.gcd_comm,pI d b ha,Nat.gcd_comm]
 ·rw[Nat.min_eq_right h];obtain⟨d,rfl⟩:∃d,i=k+d:=⟨i-k,by omega⟩
  rw[Nat.pow_add,Nat.mul_assoc,Nat.gcd_mul_left];congr 1;exact pI d a hb
theorem mH{M N:Nat}(hM:0<M)(hN:0<N):Nat.gcd M N=2^min (tz M) (tz N)*Nat.gcd (M/2^tz M) (N/2^tz N):=by
 have h1:=iJ hM;have h2:=iJ hN;have h3:=aHJ (tz M) (tz N) h1.2 h2.2;rw[←h1.1,←h2.1]at h3;exact h3
theorem aA7{a b:Nat}(ha:a % 2=1)(hb:b % 2=1)(h:b<a):
  Nat.gcd ((a-b)/2^tz (a-b)) b=Nat.gcd a b∧((a-b)/2^tz (a-b)) % 2=1∧(a-b)/2^tz (a-b)<a:=by
 have h1:=iJ (N:=a-b) (by omega);refine⟨?_,h1.2,?_⟩
 ·rw[←pI (tz (a-b)) _ hb,←h1.1,Nat.gcd_sub_self_left (by omega)]
 ·have:=Nat.div_le_self (a-b) (2^tz (a-b));omega
theorem aCR{M N:Nat}(h:M % N=0):Nat.gcd M N=N:=Nat.gcd_eq_right (Nat.dvd_of_mod_eq_zero h)
theorem aA8(M N:Nat):Nat.gcd (M % N) N=Nat.gcd M N:=by rw[Nat.gcd_comm M N,Nat.gcd_rec N M]
theorem kN{N:Nat}(h:0<N):tz N<bl N:=by
 rw[fQ];have h1:=(iJ h).1;have h2:0<N/2^tz N:=by
  rcases Nat.eq_zero_or_pos (N/2^tz N) with h5|h5
  ·rw[h5]at h1;omega
  ·exact h5
 have h3:=Nat.mul_le_mul_left (2^tz N) h2;omega
theorem kP(p N:Nat)(hp:1<2^p):bl N≤p*dg (2^p) N:=by
 rw[bF,Nat.pow_mul];exact aX hp N
structure Lp (A B ua va ub vb:Nat) (odd:Bool):Prop where
 bua:ua<9223372036854775808
 bva:va<9223372036854775808
 bub:ub<9223372036854775808
 bvb:vb<9223372036854775808
 vbp:1≤vb
 det:if odd then va*ub=ua*vb+1 else ua*vb=va*ub+1
 to:∃a b,b<a∧0<b∧(if odd then va*B=ua*A+a∧ub*A=vb*B+b else ua*A=va*B+a∧vb*B=ub*A+b)
theorem Lp.back{A B ua va ub vb:Nat}{odd:Bool}(h:Lp A B ua va ub vb odd)(hv:1≤va):
  ∃a b,b<a∧0<b∧(if odd then va*B=ua*A+a∧ub*A=vb*B+b else ua*A=va*B+a∧vb*B=ub*A+b)∧Nat.gcd a b=Nat.gcd A B∧a+b≤A:=by
 obtain⟨a,b,h1,h2,h3⟩:=h.to;have hd:=h.det;have e1:A=vb*a+va*b:=by
  cases odd<;>simp at h3 hd<;>obtain⟨h3,h4⟩:=h3<;>grind
 have e2:B=ub*a+ua*b:=by
  cases odd<;>simp at h3 hd<;>obtain⟨h3,h4⟩:=h3<;>grind
 refine⟨a,b,h1,h2,h3,?_,?_⟩
 ·apply Nat.dvd_antisymm
  ·refine Nat.dvd_gcd ?_ ?_
   ·rw[e1];exact Nat.dvd_add (Nat.dvd_mul_left_of_dvd (Nat.gcd_dvd_left _ _) _) (Nat.dvd_mul_left_of_dvd (Nat.gcd_dvd_right _ _) _)
   ·rw[e2];exact Nat.dvd_add (Nat.dvd_mul_left_of_dvd (Nat.gcd_dvd_left _ _) _) (Nat.dvd_mul_left_of_dvd (Nat.gcd_dvd_right _ _) _)
  ·have dA:=Nat.gcd_dvd_left A B;have dB:=Nat.gcd_dvd_right A B;have key:∀p q c:Nat,p*A+c=q*B∨q*B+c=p*A→Nat.gcd A B∣c:=by
    intro p q c hc;rcases hc with hc|hc
    ·exact (Nat.dvd_add_right (Nat.dvd_mul_left_of_dvd dA p)).1 (hc▸Nat.dvd_mul_left_of_dvd dB q)
    ·exact (Nat.dvd_add_right (Nat.dvd_mul_left_of_dvd dB q)).1 (hc▸Nat.dvd_mul_left_of_dvd dA p)
   cases odd<;>simp at h3
   ·exact Nat.dvd_gcd (key ua va a (Or.inr h3.1.symm)) (key ub vb b (Or.inl h3.2.symm))
   ·exact Nat.dvd_gcd (key ua va a (Or.inl h3.1.symm)) (key ub vb b (Or.inr h3.2.symm))
 ·have h4:1*a≤vb*a:=Nat.mul_le_mul_right _ h.vbp;have h5:1*b≤va*b:=Nat.mul_le_mul_right _ hv;omega
structure Lh (A B X0 X1 x y u v ua va ub vb:Nat) (odd:Bool):Prop where
 e0:X0=v*x+vb*y
 e1:X1=u*x+ub*y
 uv:u≤v
 ubv:ub+u≤vb+v
 ord:y≤x
 vp:1≤v
 bub:ub<9223372036854775808
 bvb:vb<9223372036854775808
 det:if odd then ub*v=u*vb+1 else u*vb=ub*v+1
 pv:va=0∨Lp A B ua va ub vb odd
theorem Lh.init{A B X0 X1:Nat}(h:X1≤X0):Lh A B X0 X1 X0 X1 0 1 0 0 1 0 true:=
 ⟨by omega,by omega,by omega,by omega,h,by omega,by omega,by omega,by simp,Or.inl rfl⟩
theorem Lh.sizes{A B X0 X1 x y u v ua va ub vb:Nat}{odd:Bool}(h:Lh A B X0 X1 x y u v ua va ub vb odd)(h1:v≤y):
  1≤y∧vb+v≤X0∧vb+x/y*v≤X0∧ub+x/y*u≤X1∧x≤X0:=by
 have hy:1≤y:=Nat.le_trans h.vp h1;have hd:=Nat.div_add_mod x y;have hq:1≤x/y:=(Nat.one_le_div_iff hy).2 h.ord;have e0:=h.e0;have e1:=h.e1;have a1:1*x≤v*x:=Nat.mul_le_mul_right _ h.vp;have f0:X0=(vb+x/y*v)*y+v*(x % y):=by
  have:v*x=v*(y*(x/y)+x % y):=(by rw[hd]);grind
 have f1:X1=(ub+x/y*u)*y+u*(x % y):=by
  have:u*x=u*(y*(x/y)+x % y):=(by rw[hd]);grind
 have b0:(vb+x/y*v)*1≤(vb+x/y*v)*y:=Nat.mul_le_mul_left _ hy;have b1:(ub+x/y*u)*1≤(ub+x/y*u)*y:=Nat.mul_le_mul_left _ hy;have b2:1*v≤x/y*v:=Nat.mul_le_mul_right _ hq;refine⟨hy,by omega,by omega,by omega,by omega⟩
theorem sU{A B D X0 X1 α β p q z:Nat}(hA:A=X0*D+α)(hB:B=X1*D+β)(hβ:β<D)(_:0<D)(he:p*X0=q*X1+z)(hz:q≤z)(hq:1≤q):
  ∃a,0<a∧p*A=q*B+a:=by
 have h1:q*β<q*D:=Nat.mul_lt_mul_of_pos_left hβ (by omega);have h2:q*D≤z*D:=Nat.mul_le_mul_right _ hz;have h3:p*A=q*X1*D+z*D+p*α:=by
  rw[hA,Nat.mul_add,←Nat.mul_assoc,he,Nat.add_mul]
 have h4:q*B=q*X1*D+q*β:=by rw[hB,Nat.mul_add,←Nat.mul_assoc]
 exact⟨p*A-q*B,by omega,by omega⟩
theorem Lh.next{A B D X0 X1 x y u v ua va ub vb α β:Nat}{odd:Bool}(h:Lh A B X0 X1 x y u v ua va ub vb odd)(hA:A=X0*D+α)(hα:α<D)(hB:B=X1*D+β)(hβ:β<D)(hX:X0<18446744073709551616)(h1:v≤y)(h2:vb+v≤x-y):
  Lh A B X0 X1 y (x % y) (ub+x/y*u) (vb+x/y*v) ub vb u v (!odd):=by
 obtain⟨hy,-,-,-,hx⟩:=h.sizes h1;have hd:=Nat.div_add_mod x y;have hq:1≤x/y:=(Nat.one_le_div_iff hy).2 h.ord;have hm:=Nat.mod_lt x (show 0<y from hy);have e0:=h.e0;have e1:=h.e1;have uv:=h.uv;have ubv:=h.ubv;have vp:=h.vp;have ord:=h.ord;have det:=h.det;have bv:v<9223372036854775808:=by omega
 have b2:1*v≤x/y*v:=Nat.mul_le_mul_right _ hq;refine⟨?_,?_,?_,?_,by omega,by omega,by omega,bv,?_,Or.inr ⟨h.bub,h.bvb,by omega,bv,vp,?_,?_⟩⟩
 ·have:v*x=v*(y*(x/y)+x % y):=(by rw[hd]);grind
 ·have:u*x=u*(y*(x/y)+x % y):=(by rw[hd]);grind
 ·obtain⟨q,hq'⟩:∃q,x/y=q+1:=⟨x/y-1,by omega⟩
  have:=Nat.mul_le_mul_left q uv;rw[hq',Nat.add_mul,Nat.add_mul];omega
 ·have:=Nat.mul_le_mul_left (x/y) uv;obtain⟨q,hq'⟩:∃q,x/y=q+1:=⟨x/y-1,by omega⟩
  have:=Nat.mul_le_mul_left q uv;rw[hq',Nat.add_mul,Nat.add_mul];omega
 ·cases odd<;>simp at det⊢<;>grind
 ·cases odd<;>simp at det⊢<;>rw[Nat.mul_comm vb u]<;>omega
 ·have hD:0<D:=(by omega);cases odd
  ·simp at det⊢;have f1:vb*X1=ub*X0+x:=(by grind);have f2:u*X0=v*X1+y:=(by grind);obtain⟨b,hb,eb⟩:=sU hA hB hβ hD f2 h1 vp;have f3:(vb+v)*X1=(ub+u)*X0+(x-y):=(by rw[Nat.add_mul,Nat.add_mul];omega);obtain⟨c,hc,ec⟩:=sU hB hA hα hD f3 (by omega) (by
    have:0<ub+u:=by
     rcases Nat.eq_zero_or_pos (ub+u) with h0|h0
     ·exfalso;have h5:ub=0:=(by omega);have h6:u=0:=(by omega);rw[h5,h6]at det;omega
     ·exact h0
    omega)
   rw[Nat.add_mul,Nat.add_mul]at ec;exact⟨b+c,b,by omega,hb,by omega,by omega⟩
  ·simp at det⊢;have f1:ub*X0=vb*X1+x:=(by grind);have f2:v*X1=u*X0+y:=(by grind);rcases Nat.eq_zero_or_pos u with hu|hu
   ·subst hu;have f3:(ub+0)*X0=(vb+v)*X1+(x-y):=(by rw[Nat.add_mul,Nat.add_mul];omega);obtain⟨c,hc,ec⟩:=sU hA hB hβ hD f3 h2 (by omega);have hB0:0<v*B:=by
     have:0<X1:=by
      rcases Nat.eq_zero_or_pos X1 with h0|h0
      ·rw[h0]at f2;omega
      ·exact h0
     have:0<X1*D:=Nat.mul_pos this hD;exact Nat.mul_pos vp (by omega)
    rw[Nat.add_mul,Nat.add_mul]at ec;exact⟨v*B+c,v*B,by omega,hB0,by omega,by omega⟩
   ·obtain⟨b,hb,eb⟩:=sU hB hA hα hD f2 (by omega) hu;have f3:(ub+u)*X0=(vb+v)*X1+(x-y):=(by rw[Nat.add_mul,Nat.add_mul];omega);obtain⟨c,hc,ec⟩:=sU hA hB hβ hD f3 h2 (by omega);rw[Nat.add_mul,Nat.add_mul]at ec;exact⟨b+c,b,by omega,hb,by omega,by omega⟩
theorem aEl{M N:Nat}(hM:0<M)(hN:0<N)(h:Nat.gcd M N % 2=1):Nat.gcd (M/2^tz M) (N/2^tz N)=Nat.gcd M N:=by
 have h1:=mH hM hN;rcases Nat.eq_zero_or_pos (min (tz M) (tz N)) with h2|h2
 ·rw[h2]at h1;omega
 ·exfalso;obtain⟨k,hk⟩:∃k,min (tz M) (tz N)=k+1:=⟨min (tz M) (tz N)-1,by omega⟩
  rw[hk,Nat.pow_succ,Nat.mul_comm (2^k) 2,Nat.mul_assoc]at h1;omega
theorem aA9{M N:Nat}(h:M % 2=1):Nat.gcd M N % 2=1:=by
 rcases Nat.mod_two_eq_zero_or_one (Nat.gcd M N) with h1|h1
 ·exfalso;have h2:2∣Nat.gcd M N:=Nat.dvd_of_mod_eq_zero h1;have h3:=Nat.dvd_trans h2 (Nat.gcd_dvd_left M N);omega
 ·exact h1
theorem rZ{A B:Nat}(h:B≤A)(hB:0<B):Nat.gcd B (A % B)=Nat.gcd A B∧A % B<B∧B+A % B<A+B:=by
 have:=Nat.mod_lt A hB;refine⟨?_,this,by omega⟩;rw[Nat.gcd_comm B,aA8]
theorem aAb{M N:Nat}(hM:0<M)(hN:0<N)(h:M/2^tz M=1∨N/2^tz N=1):Nat.gcd M N=2^min (tz M) (tz N):=by
 rw[mH hM hN];rcases h with h|h<;>rw[h]<;>simp
theorem aBa{α:Type}{P:List α→Prop}(nil:P [])(snoc:∀xs x,P xs→P (xs++[x]))(l:List α):P l:=by
 have h:∀r:List α,P r.reverse:=by
  intro r
  induction r with
  |nil=>exact nil
  |cons x r ih=>rw[List.reverse_cons];exact snoc _ _ ih
 have:=h l.reverse
 rwa [List.reverse_reverse]at this
def dv(l:List UInt8):Nat:=l.foldl (fun a c=>10*a+(c.toNat-48)) 0
theorem aFO:dv []=0:=rfl
theorem yZ(l:List UInt8)(c:UInt8):dv (l++[c])=10*dv l+(c.toNat-48):=by simp[dv]
def bP(l:List UInt8):Prop:=∀c∈l,48≤c.toNat∧c.toNat≤57
theorem bP.app{xs ys:List UInt8}(h:bP (xs++ys)):bP xs∧bP ys:=⟨fun c hc=>h c (by simp[hc]),fun c hc=>h c (by simp[hc])⟩
theorem aEm{l:List UInt8}(h:bP l):dv l<10^l.length:=by
 induction l using aBa with
 |nil=>simp[aFO]
 |snoc ys c ih=>
  have h1:=ih h.app.1;have h2:=h c (by simp);rw[yZ,List.length_append,List.length_singleton,Nat.pow_succ];omega
theorem bP.take{l:List UInt8}(h:bP l)(k:Nat):bP (l.take k):=fun c hc=>h c (List.mem_of_mem_take hc)
theorem bP.drop{l:List UInt8}(h:bP l)(k:Nat):bP (l.drop k):=fun c hc=>h c (List.mem_of_mem_drop hc)
theorem aBb{l:List UInt8}{k:Nat}(hk:k<l.length):dv (l.take (k+1))=10*dv (l.take k)+(l[k].toNat-48):=by
 rw[List.take_succ_eq_append_getElem hk,yZ]
def dig(n:Nat):UInt8:=UInt8.ofNat (48+n)
theorem aAc{n:Nat}(h:n<10):(dig n).toNat=48+n:=by
 unfold dig;rw[UInt8.toNat_ofNat'];omega
def dec(N:Nat):List UInt8:=if _h:N<10 then [dig N] else dec (N/10)++[dig (N % 10)]
termination_by N
decreasing_by omega
theorem eZ{N:Nat}(h:N<10):dec N=[dig N]:=by rw[dec];simp[h]
theorem uS{N:Nat}(h:10≤N):dec N=dec (N/10)++[dig (N % 10)]:=by rw[dec];simp[Nat.not_lt.2 h]
theorem jV(N:Nat):(dec N).length=if N=0 then 1 else dg 10 N:=by
 induction N using Nat.strongRecOn with
 |_ N ih=>
  rcases Nat.lt_or_ge N 10 with h|h
  ·rw[eZ h];rcases Nat.eq_zero_or_pos N with h0|h0
   ·subst h0;rfl
   ·rw[if_neg (by omega),lK (by decide) h0,Nat.div_eq_of_lt h,aZ];rfl
  ·rw[uS h,List.length_append,ih (N/10) (by omega),if_neg (by omega),if_neg (by omega),lK (by decide) (show 0<N by omega)];rfl
def Row(l:List UInt8):Prop:=bP l∧l≠[]∧(l.head? =some 48→l=[48])
theorem aAd{a b:UInt8}(h:a.toNat=b.toNat):a=b:=UInt8.toNat.inj h
theorem aLD{l:List UInt8}(h:Row l):dec (dv l)=l:=by
 obtain⟨h1,h2,h3⟩:=h
 induction l using aBa with
 |nil=>exact absurd rfl h2
 |snoc ys c ih=>
  have hc:=h1 c (by simp);have ec:dig (c.toNat-48)=c:=aAd (by rw[aAc (by omega)];omega);rw[yZ];by_cases hy:ys=[]
  ·subst hy;rw[aFO,eZ (by omega)];simp[ec]
  ·have h5:ys.head?≠some 48:=by
     intro h6
     have h7:=h3 (by cases ys with
      |nil=>exact absurd rfl hy
      |cons x r=>simpa using h6)
     cases ys with
     |nil=>exact absurd rfl hy
     |cons x r=>simp at h7
   have h6:=ih h1.app.1 hy (fun h=>absurd h h5);have h7:0<dv ys:=by
     rcases Nat.eq_zero_or_pos (dv ys) with h8|h8
     ·rw[h8,eZ (by decide)]at h6;rw[←h6]at h5;exact absurd rfl h5
     ·exact h8
   rw[uS (by omega),show (10*dv ys+(c.toNat-48))/10=dv ys by omega,show (10*dv ys+(c.toNat-48)) % 10=c.toNat-48 by omega,h6,ec]
def pd:Nat→Nat→List UInt8
 |0,_=>[]
 |k+1,n=>pd k (n/10)++[dig (n % 10)]
theorem aLE{hi:Nat}(h:0<hi)(k lo:Nat)(hl:lo<10^k):dec (hi*10^k+lo)=dec hi++pd k lo:=by
 induction k generalizing lo with
 |zero=>simp at hl;subst hl;simp[pd]
 |succ k ih=>
  have h1:0<10^k:=Nat.pow_pos (by decide);have h2:10^k≤hi*10^k:=by
    have:=Nat.mul_le_mul_right (10^k) h;omega
  rw[Nat.pow_succ]at hl⊢;have e1:hi*(10^k*10)=10*(hi*10^k):=(by grind);rw[uS (by omega),show (hi*(10^k*10)+lo)/10=hi*10^k+lo/10 by omega,ih (lo/10) (by omega),show (hi*(10^k*10)+lo) % 10=lo % 10 by omega,pd,List.append_assoc]
theorem pd_succ'(k n:Nat):pd (k+1) n=dig (n/10^k % 10)::pd k n:=by
 induction k generalizing n with
 |zero=>simp[pd]
 |succ k ih=>
  rw[pd,ih (n/10),pd,Nat.pow_succ,Nat.mul_comm,←Nat.div_div_eq_div_mul];rfl
structure Lu (a M E:Nat):Prop where
 le:10^a≤M*2^E
structure Ll (a M E:Nat):Prop where
 le:M*2^E≤10^a
theorem Lu.step{a M E:Nat}(h:Lu a M E)(b t M':Nat)(hM:M*M*10^b≤M'*2^t:=by decide):Lu (2*a+b) M' (2*E+t):=by
 refine⟨?_⟩;have h1:=Nat.mul_le_mul h.le h.le;have h2:=Nat.mul_le_mul_right (10^b) h1;have h3:=Nat.mul_le_mul_right (2^E*2^E) hM;rw[Nat.pow_add,Nat.pow_add,Nat.two_mul,Nat.two_mul,Nat.pow_add,Nat.pow_add];grind
theorem Ll.step{a M E:Nat}(h:Ll a M E)(b t M':Nat)(hM:M'*2^t≤M*M*10^b:=by decide):Ll (2*a+b) M' (2*E+t):=by
 refine⟨?_⟩;have h1:=Nat.mul_le_mul h.le h.le;have h2:=Nat.mul_le_mul_right (10^b) h1;have h3:=Nat.mul_le_mul_right (2^E*2^E) hM;rw[Nat.pow_add,Nat.pow_add,Nat.two_mul,Nat.two_mul,Nat.pow_add,Nat.pow_add];grind
theorem aO5:Lu 5553023288523357132 41546534998512897341558166020 18446744073709551520:=by
 have h:Lu 0 1 0:=⟨by decide⟩
 replace h:=h.step 1 0 10;replace h:=h.step 0 0 100;replace h:=h.step 0 0 10000;replace h:=h.step 1 0 1000000000;replace h:=h.step 1 0 10000000000000000000;replace h:=h.step 0 31 46566128730773925781250000000;replace h:=h.step 1 98 68422776578360208541197733560;replace h:=h.step 0 96 59091063153828708996857156882;replace h:=h.step 0 96 44072128317012440822003468782;replace h:=h.step 0 95 49031870303479681585965434945;replace h:=h.step 1 98 75860787034673785722312053061;replace h:=h.step 0 96 72636532602709526740073931712;replace h:=h.step 0 96 66593313553050968571760079422;replace h:=h.step 0 96 55973397201740459171030042668;replace h:=h.step 0 95 79088573933283726119377417810;replace h:=h.step 0 96 78949231287224761636943583999;replace h:=h.step 1 100 49169551292142452083889250190;replace h:=h.step 0 95 61029934244287230230002091044;replace h:=h.step 0 96 47011728603341418753486644292;replace h:=h.step 1 98 69738542335760975735847505061;replace h:=h.step 1 99 76731936800899265598558346773;replace h:=h.step 0 96 74314359166882785082217469799;replace h:=h.step 1 100 43565821507836270452164057591;replace h:=h.step 0 95 47911771355569038443635533350;replace h:=h.step 1 98 72434402161448408869311255889;replace h:=h.step 0 96 66223202078450472907196399032;replace h:=h.step 0 96 55352949687981390123294171488;replace h:=h.step 0 95 77344947602654847695764415547;replace h:=h.step 0 96 75506495794098136825075110341;replace h:=h.step 1 100 44974781742521976276597713783;replace h:=h.step 0 95 51060908863645880260346256018;replace h:=h.step 0 95 65815395214098115954566351867;replace h:=h.step 1 99 68341643137439458016605241063;replace h:=h.step 1 99 73688762280146101158264309882;replace h:=h.step 1 100 42835412892182220879441644631;replace h:=h.step 1 98 57898370333698514611471754219;replace h:=h.step 1 99 52888726383982496876955421874;replace h:=h.step 0 95 70611693866209550423564729846;replace h:=h.step 1 99 78665387919314797413513951561;replace h:=h.step 1 100 48816631770474761788895178355;replace h:=h.step 1 98 75196226372947754917843712077;replace h:=h.step 1 100 44605922639200148419164657325;replace h:=h.step 0 95 50226794901019756826223879723;replace h:=h.step 0 95 63682681661963537495245183544;replace h:=h.step 1 99 63984254698082146836524285523;replace h:=h.step 1 99 64591691883109764164013905117;replace h:=h.step 1 99 65823921190451692050466067823;replace h:=h.step 1 99 68359350756536771480578012374;replace h:=h.step 1 99 73726953389425943537712787068;replace h:=h.step 1 100 42879825522174185319699978275;replace h:=h.step 1 98 58018492997394155657878904564;replace h:=h.step 1 99 53108412193117403487966410758;replace h:=h.step 0 95 71199516842669532378517993780;replace h:=h.step 1 100 39990287526522580259100009873;replace h:=h.step 1 98 50462583180760419042182482658;replace h:=h.step 1 99 40176248894083184574080550171;replace h:=h.step 1 98 50932992889640415093870448298;replace h:=h.step 0 95 65486051484006170360131773747;replace h:=h.step 0 96 54127507225651152910871191809;replace h:=h.step 1 99 46223889105332892851278406452;replace h:=h.step 1 98 67420720619307185674736194682;replace h:=h.step 0 96 57372952048563362119010062552;replace h:=h.step 0 96 41546534998512897341558166020;exact h
theorem aO6:Ll 5553023288523357133 51933168748021119845971274118 18446744073709551523:=by
 have h:Ll 0 1 0:=⟨by decide⟩
 replace h:=h.step 1 0 10;replace h:=h.step 0 0 100;replace h:=h.step 0 0 10000;replace h:=h.step 1 0 1000000000;replace h:=h.step 1 0 10000000000000000000;replace h:=h.step 0 31 46566128730773925781250000000;replace h:=h.step 1 98 68422776578360208541197733559;replace h:=h.step 0 96 59091063153828708996857156879;replace h:=h.step 0 96 44072128317012440822003468777;replace h:=h.step 0 95 49031870303479681585965434933;replace h:=h.step 1 98 75860787034673785722312053023;replace h:=h.step 0 96 72636532602709526740073931638;replace h:=h.step 0 96 66593313553050968571760079286;replace h:=h.step 0 96 55973397201740459171030042439;replace h:=h.step 0 95 79088573933283726119377417162;replace h:=h.step 0 96 78949231287224761636943582704;replace h:=h.step 1 100 49169551292142452083889248576;replace h:=h.step 0 95 61029934244287230230002087037;replace h:=h.step 0 96 47011728603341418753486638118;replace h:=h.step 1 98 69738542335760975735847486742;replace h:=h.step 1 99 76731936800899265598558306460;replace h:=h.step 0 96 74314359166882785082217391712;replace h:=h.step 1 100 43565821507836270452163966035;replace h:=h.step 0 95 47911771355569038443635331971;replace h:=h.step 1 98 72434402161448408869310646987;replace h:=h.step 0 96 66223202078450472907195285653;replace h:=h.step 0 96 55352949687981390123292310242;replace h:=h.step 0 95 77344947602654847695759214090;replace h:=h.step 0 96 75506495794098136825064954698;replace h:=h.step 1 100 44974781742521976276585615542;replace h:=h.step 0 95 51060908863645880260318785192;replace h:=h.step 0 95 65815395214098115954495534354;replace h:=h.step 1 99 68341643137439458016458169539;replace h:=h.step 1 99 73688762280146101157947152784;replace h:=h.step 1 100 42835412892182220879072916622;replace h:=h.step 1 98 57898370333698514610474973780;replace h:=h.step 1 99 52888726383982496875134353418;replace h:=h.step 0 95 70611693866209550418702115934;replace h:=h.step 1 99 78665387919314797402679502229;replace h:=h.step 1 100 48816631770474761775448315955;replace h:=h.step 1 98 75196226372947754876417121492;replace h:=h.step 1 100 44605922639200148370016677859;replace h:=h.step 0 95 50226794901019756715541470823;replace h:=h.step 0 95 63682681661963537214576165126;replace h:=h.step 1 99 63984254698082146272527999824;replace h:=h.step 1 99 64591691883109763025312689294;replace h:=h.step 1 99 65823921190451689729617150428;replace h:=h.step 1 99 68359350756536766660089584220;replace h:=h.step 1 99 73726953389425933139722703090;replace h:=h.step 1 100 42879825522174173224693197586;replace h:=h.step 1 98 58018492997394122927612040676;replace h:=h.step 1 99 53108412193117343567330282681;replace h:=h.step 0 95 71199516842669371713939067528;replace h:=h.step 1 100 39990287526522399779709376198;replace h:=h.step 1 98 50462583180759963558772605973;replace h:=h.step 1 99 40176248894082459299483457871;replace h:=h.step 1 98 50932992889638576176255509942;replace h:=h.step 0 95 65486051484001441658880401159;replace h:=h.step 0 96 54127507225643335893190285572;replace h:=h.step 1 99 46223889105319541674513134180;replace h:=h.step 1 98 67420720619268238456055435661;replace h:=h.step 0 96 57372952048497076357325232461;replace h:=h.step 1 99 51933168748021119845971274118;exact h
theorem log_dn'{C E M k w m n:Nat}(h:Lu C M E)(hM:M≤2^k)(hw:k+E=w)(hw0:0<w)(hmn:m*w≤n*C):10^m≤2^n:=by
 have h1:10^C≤2^w:=by
  rw[←hw,Nat.pow_add];exact Nat.le_trans h.le (Nat.mul_le_mul_right _ hM)
 refine (Nat.pow_le_pow_iff_left (n:=w) (by omega)).1 ?_;rw[←Nat.pow_mul,←Nat.pow_mul,Nat.mul_comm n w,Nat.pow_mul 2 w n];refine Nat.le_trans (Nat.pow_le_pow_right (by decide) hmn) ?_;rw[Nat.mul_comm,Nat.pow_mul];exact Nat.pow_le_pow_left h1 n
theorem log_up'{C E M k w m n:Nat}(h:Ll C M E)(hM:2^k≤M)(hw:k+E=w)(hw0:0<w)(hmn:n*C<m*w):2^n<10^m:=by
 have h1:2^w≤10^C:=by
  rw[←hw,Nat.pow_add];exact Nat.le_trans (Nat.mul_le_mul_right _ hM) h.le
 refine (Nat.pow_lt_pow_iff_left (n:=w) (by omega)).1 ?_;rw[←Nat.pow_mul,←Nat.pow_mul,Nat.mul_comm n w,Nat.pow_mul 2 w n];refine Nat.lt_of_le_of_lt (Nat.pow_le_pow_left h1 n) ?_;rw[←Nat.pow_mul,Nat.mul_comm];exact Nat.pow_lt_pow_right (by decide) hmn
theorem aLF{m n:Nat}(h:m*18446744073709551616≤n*5553023288523357132):10^m≤2^n:=
 log_dn' (k:=96) aO5 (by decide) (by decide) (by decide) h
theorem aLG{m n:Nat}(h:n*5553023288523357133<m*18446744073709551616):2^n<10^m:=
 log_up' (k:=93) aO6 (by decide) (by decide) (by decide) h
theorem aFP{N n least most:Nat}(hN:0<N)(hn:bl N=n)(h1:(n-1)*5553023288523357132/18446744073709551616=least)(h2:n*5553023288523357133/18446744073709551616=most):
  least+1≤dg 10 N∧dg 10 N≤most+1:=by
 have hp:0<bl N:=by rw[jU hN];omega
 rw[hn]at hp;constructor
 ·have h3:10^least≤2^(n-1):=aLF (by rw[←h1];exact Nat.div_mul_le_self _ _);have h4:2^(n-1)≤N:=(fQ _ _).1 (by omega);rcases Nat.lt_or_ge least (dg 10 N) with h|h
  ·exact h
  ·have:=(aK (b:=10) (by decide) N least).1 h;omega
 ·rw[aK (by decide)];have h3:2^n<10^(most+1):=aLG (by rw[←h2];omega);have h4:N<2^n:=(bF _ _).1 (by omega);exact Nat.lt_trans h4 h3
theorem aFQ{N k:Nat}:k<dg 10 N↔10^k≤N:=by
 have:=aK (b:=10) (by decide) N k;omega
def dw(width N:Nat):List UInt8:=if width=0 then (if N=0 then [] else dec N) else pd width N
theorem xH{N:Nat}(h:0<N):dw 0 N=dec N:=by simp[dw];omega
theorem aHK(k:Nat):∀j N,N<10^k→pd (j+k) N=List.replicate j 48++pd k N:=by
 intro j
 induction j with
 |zero=>intro N _;simp
 |succ j ih=>
  intro N h;rw[show j+1+k=(j+k)+1 by omega,pd_succ',ih N h];have h1:N/10^(j+k)=0:=Nat.div_eq_of_lt (Nat.lt_of_lt_of_le h (Nat.pow_le_pow_right (by decide) (by omega)));rw[h1,List.replicate_succ];rfl
theorem aLH(k:Nat):∀N,pd k (N % 10^k)=pd k N:=by
 intro N
 suffices h:∀j,j≤k→pd j (N % 10^k)=pd j N from h k (Nat.le_refl _)
 intro j
 induction j with
 |zero=>intro _;rfl
 |succ j ih=>
  intro h;rw[pd_succ',pd_succ',ih (by omega)];congr 2;obtain⟨d,rfl⟩:∃d,k=j+1+d:=⟨k-(j+1),by omega⟩
  rw[Nat.pow_add,Nat.pow_succ,Nat.mul_assoc,Nat.mod_mul_right_div_self,Nat.mod_mul_right_mod]
theorem aLI(j k:Nat):∀N,pd (j+k) N=pd j (N/10^k)++pd k N:=by
 intro N
 induction j with
 |zero=>simp[pd]
 |succ j ih=>
  rw[show j+1+k=(j+k)+1 by omega,pd_succ',ih,pd_succ',Nat.div_div_eq_div_mul,←Nat.pow_add,Nat.add_comm k j];rfl
theorem aHL(k N:Nat):pd (k+k) N=pd k (N/10^k)++pd k (N % 10^k):=by rw[aLI,aLH]
theorem aHM{k N w:Nat}(hk:0<k)(hw:w=0∨w=k+k)(h:0<N/10^k∨0<w):dw w N=dw (w-k) (N/10^k)++dw k (N % 10^k):=by
 rcases hw with rfl|rfl
 ·have h1:0<N/10^k:=(by omega);have h2:0<N:=Nat.lt_of_lt_of_le h1 (Nat.div_le_self _ _);rw[Nat.zero_sub,xH h1,xH h2,dw,if_neg (by omega)];have h3:=Nat.div_add_mod N (10^k);rw[Nat.mul_comm]at h3;rw[←aLE h1 k _ (Nat.mod_lt _ (Nat.pow_pos (by decide))),h3]
 ·rw[show k+k-k=k by omega,dw,if_neg (by omega),dw,if_neg (by omega),dw,if_neg (by omega),aHL]
theorem aLJ{k N:Nat}(h:N/10^k=0):N % 10^k=N:=Nat.mod_eq_of_lt (by
 rcases Nat.lt_or_ge N (10^k) with h1|h1
 ·exact h1
 ·have:=Nat.div_pos h1 (Nat.pow_pos (by decide));omega)
def kQ(N:Nat):List UInt8:=if N=0 then [] else dec N
theorem sV:kQ 0=[]:=rfl
theorem aBc{N:Nat}(h:0<N):kQ N=dec N:=by unfold kQ;rw[if_neg (by omega)]
theorem aAe{T:Nat}(h:0<T):kQ T=kQ (T/10)++[dig (T % 10)]:=by
 rw[aBc h];rcases Nat.lt_or_ge T 10 with h1|h1
 ·rw[eZ h1,Nat.div_eq_of_lt h1,Nat.mod_eq_of_lt h1,sV];rfl
 ·rw[uS h1,aBc (by omega)]
theorem aBd(N:Nat):(kQ N).length=dg 10 N:=by
 unfold kQ;split
 ·rename_i h;subst h;rw[aZ];rfl
 ·rename_i h;rw[jV,if_neg h]
def Rw(N T:Nat)(row:List UInt8):Prop:=kQ N=kQ T++row.reverse
theorem Rw.start(N:Nat):Rw N N []:=by unfold Rw;simp
theorem Rw.step{N T:Nat}{row:List UInt8}(h:Rw N T row)(hT:0<T):Rw N (T/10) (row++[dig (T % 10)]):=by
 unfold Rw at*
 rw[h,aAe hT];simp
theorem Rw.done{N:Nat}{row:List UInt8}(h:Rw N 0 row):kQ N=row.reverse:=by
 unfold Rw at h;rw[h,sV];rfl
theorem Rw.len{N T:Nat}{row:List UInt8}(h:Rw N T row):row.length≤dg 10 N:=by
 unfold Rw at h;have:=congrArg List.length h;rw[aBd]at this;simp at this;omega
theorem aHN{M P k:Nat}(hP:P<10^(k+1)):(M*10^(k+1)+P)/10=M*10^k+P/10∧(M*10^(k+1)+P) % 10=P % 10∧P/10<10^k:=by
 rw[Nat.pow_succ]at*
 have h1:M*(10^k*10)=10*(M*10^k):=by grind
 rw[h1];omega
theorem aHO{w N:Nat}(h:N<10^w):pd w N=List.replicate (w-dg 10 N) 48++kQ N:=by
 have h1:dg 10 N≤w:=(aK (by decide) _ _).2 h;obtain⟨j,hj⟩:∃j,w=j+dg 10 N:=⟨w-dg 10 N,by omega⟩
 have h2:N<10^dg 10 N:=aX (by decide) N;rw[hj,aHK _ _ _ h2,show j+dg 10 N-dg 10 N=j by omega];congr 1;clear hj h h1
 induction N using Nat.strongRecOn with
 |_ N ih=>
  rcases Nat.eq_zero_or_pos N with rfl|h0
  ·rw[aZ];rfl
  ·rw[lK (by decide) h0,pd,aAe h0];congr 1;exact ih (N/10) (Nat.div_lt_self h0 (by decide)) (aX (by decide) _)
theorem aFR{w N:Nat}(h:w=0∨N<10^w):dw w N=List.replicate (w-dg 10 N) 48++kQ N:=by
 unfold dw;split
 ·rename_i h0;subst h0;simp[kQ]
 ·rw[aHO (by omega)]
theorem aBe(n:Nat):10^n<18446744073709551616^(n/19+1):=by
 have h1:10^n<10^(19*(n/19+1)):=Nat.pow_lt_pow_right (by decide) (by omega);have h2:(10^19)^(n/19+1)≤18446744073709551616^(n/19+1):=Nat.pow_le_pow_left (by decide) _;rw[Nat.pow_mul]at h1;omega
theorem aFS{V z u p d:Nat}(h:V=z*u+p)(hp:p<u)(hd:d<10):10*V+d=z*(10*u)+(10*p+d)∧10*p+d<10*u:=by
 refine⟨?_,by omega⟩;have:z*(10*u)=10*(z*u):=by grind
 omega
theorem wD{k:Nat}(h:k≤19):10^k≤10000000000000000000:=by
 have:=Nat.pow_le_pow_right (n:=10) (by decide) h;simpa using this
end Ma
end Go.Proofs.YtamnpcdkcdfgaaaGreatDoor
