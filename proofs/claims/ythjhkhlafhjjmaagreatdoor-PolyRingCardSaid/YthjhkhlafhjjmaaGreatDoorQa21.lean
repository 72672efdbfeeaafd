/- The laws of a ring, of values and of derivatives hold for poly's functions. No condition. -/
import Derived.Test.YthjhkhlafhjjmaaGreatDoorQa19
import Derived.Test.YthjhkhlafhjjmaaGreatDoorQa20
set_option maxHeartbeats 8000000
set_option maxRecDepth 100000
namespace Go.Proofs.YthjhkhlafhjjmaaGreatDoor
open Go.RowKit
open Ma Me
theorem lS(s:ByteArray)(w:World)(hd:dQ s.data.toList)(hs:s.size+80≤LIM):
  Calls Tryz.prog 95 #[.string s] w (uQ (dv s.data.toList) w):=by
 rw[aC]at hs;obtain⟨L,hL⟩:∃L,L=s.data.toList:=⟨_,rfl⟩
 have hLs:L.length=s.size:=by rw[hL,Array.length_toList];rfl
 rw[←hL]at hd⊢;have HL:=hZ hL;have HLs:=hZ hLs;clear hL hLs;go_enter Tryz.func95,Tryz.ntmps95
 go_wp2_with fail
 go_loopw [0,3] (fun sv ov w1=>∃(t:ByteArray) (k:Nat),sv=.string t∧k≤s.size∧t.data.toList=L.drop k∧t.size=s.size-k∧Nr w1 ov (dv (L.take k))∧Q w w1∧Nw w.heap.size ov) (fun sv _ _=>match sv with| .string t=>t.size|_=>0)
 case atStart=>exact⟨s,0,rfl,by omega,by rw[HL.out];rfl,by omega,Nn.zero _ _,Q.refl _,Nw.nil⟩
 case round=>
  obtain⟨t,k,rfl,hk,ht,hts,hov,hq,hnw⟩:=hrel;have HT:=hZ ht;have HTS:=hZ hts;clear ht hts;have hts2:t.size≤1099511627776:=(by have:=HTS.out;omega);rcases Nat.eq_zero_or_pos t.size with h0|h0
  ·go_wp2_with fail
   go_ret
   have e:k=s.size:=(by have:=HTS.out;omega);rw[List.take_of_length_le (by rw[HLs.out];omega)]at hov;exact⟨_,rfl,hov,hq,hnw⟩
  ·obtain⟨n,hn⟩:∃n,n=min t.size 9:=⟨_,rfl⟩
   have hn1:n≤9:=(by omega);have hn2:n≤t.size:=(by omega);have hn3:0<n:=(by omega);have hcase:t.size<9∧t.size≤n∨9≤t.size∧t.size≤9∧9≤n∨9<t.size∧9≤n:=(by omega);clear hn;have HD:dQ (t.data.toList):=(by rw[HT.out];exact hd.drop k);have HTL:t.data.toList.length=t.size:=(by rw[Array.length_toList];rfl);have HTL:=hZ HTL;rcases hcase with⟨h9,h9a⟩|⟨h9,h9b,h9a⟩|⟨h9,h9a⟩
   all_goals
    go_wp2_with fail
    obtain⟨wo,rfl⟩:∃wo:World,wo=wr:=⟨_,rfl⟩
    go_loop [5,6,7] (fun pv fv iv=>∃(i p f:Nat),i≤n∧iv=.int .i64 (i:Int)∧pv=.int .i64 (p:Int)∧fv=.int .i64 (f:Int)∧p=dv (t.data.toList.take i)∧f=10^i∧p<f∧f≤1000000000) (fun _ _ iv=>n-(intOf iv).toNat)
    case atStart=>exact⟨0,0,1,by omega,rfl,rfl,rfl,rfl,rfl,by omega,by omega⟩
    case round=>
     obtain⟨i,p,f,hi,rfl,rfl,rfl,hp,hf,hpf,hf9⟩:=hrel;have HP:=hZ hp;have HF:=hZ hf;clear hp hf;by_cases hlt:i<n
     ·have hit:i<t.size:=(by omega);have hc:=HD (t[i]) (by rw[show t[i]=t.data.toList[i]'(by rw[HTL.out];exact hit) from by simp;rfl];exact List.getElem_mem _);have hei:t.data.toList[i]'(by rw[HTL.out];exact hit)=t[i]:=(by simp;rfl);have hp2:10*p+(t[i].toNat-48)=dv (t.data.toList.take (i+1)):=by
       rw[yZ (by rw[HTL.out];exact hit),hei,←HP.out]
      have hf2:10*f=10^(i+1):=(by rw[Nat.pow_succ,←HF.out,Nat.mul_comm]);have hf3:10^(i+1)≤10^9:=Nat.pow_le_pow_right (by decide) (by omega);have hf4:10*f≤1000000000:=(by rw[hf2];exact hf3);have HP2:=hZ hp2;have HF2:=hZ hf2;clear hp2 hf2 hf3 hei;go_wp2_with fail
      exact⟨⟨i+1,10*p+(t[i].toNat-48),10*f,by omega,by go_num,congrArg (Value.int _) (by omega),congrArg (Value.int _) (by omega),HP2.out,HF2.out,by omega,hf4⟩,by simp[intOf];omega⟩
     ·obtain rfl:i=n:=(by omega);have lval:dg B30 (dv (L.take k))+1≤LIM:=by
       have h1:dg B30 (dv (L.take k))≤(L.take k).length:=by
        refine iZ aZ (Nat.lt_of_lt_of_le (aAA (hd.take k)) (Nat.pow_le_pow_left (by decide) _))
       rw[List.length_take,HLs.out]at h1;rw[aC];omega
      have lf:dg B30 f≤1:=iZ aZ (by rw[Nat.pow_one,bO];omega);have lp:dg B30 p≤1:=iZ aZ (by rw[Nat.pow_one,bO];omega);have lmul:=eO aZ (dv (L.take k)) f;have lks:dg B30 (dv (L.take k))+10≤LIM:=by
       have h1:dg B30 (dv (L.take k))≤(L.take k).length:=by
        refine iZ aZ (Nat.lt_of_lt_of_le (aAA (hd.take k)) (Nat.pow_le_pow_left (by decide) _))
       rw[List.length_take,HLs.out]at h1;rw[aC];omega
      have hval:dv (L.take k)*f+p=dv (L.take (k+i)):=by
       rw[List.take_add,aJh,←HT.out,←HP.out,HF.out,List.length_take,HTL.out,Nat.min_eq_left hn2]
      have HV:=hZ hval;clear hval;go_wp2_with fail
      refine (aA3 _ f _ rfl (by omega)).mono ?_;rintro e w2 ⟨vf,rfl,hvf,hq2,-⟩;go_wp2_with fail
      refine (aHt _ _ _ f _ (hov.q hq2) hvf (by omega)).mono ?_;rintro e w3 ⟨vt,rfl,hvt,hq3,-⟩;go_wp2_with fail
      refine (aA3 _ p _ rfl (by omega)).mono ?_;rintro e w4 ⟨vp,rfl,hvp,hq4,-⟩;go_wp2_with fail
      refine (aQ1 _ _ _ p _ (hvt.q hq4) hvp (by omega) (by omega)).mono ?_;rintro e w5 ⟨vs,rfl,hvs,hq5,hnw5⟩;have hqq:=((hq2.trans hq3).trans hq4).trans hq5;have hnw6:Nw w.heap.size vs:=hnw5.more (by have:=hq.size;have:=hq2.size;have:=hq3.size;have:=hq4.size;omega);rw[HV.out]at hvs;clear lmul hvt hvp hvf;have hkk:k+i≤s.size:=(by have:=HTS.out;omega);go_wp2_with fail
      first
      |(refine⟨⟨ByteArray.empty,k+i,rfl,hkk,?_,?_,hvs,hq.trans hqq,hnw6⟩,?_⟩
        ·rw[List.drop_of_length_le (by rw[HLs.out];have:=HTS.out;omega)];rfl
        ·have:=HTS.out;show 0=_;omega
        ·show 0<t.size;omega)
      |(refine⟨⟨t.extract 9 t.size,k+i,rfl,hkk,?_,?_,hvs,hq.trans hqq,hnw6⟩,?_⟩
        ·obtain rfl:i=9:=(by omega);rw[Lib.extract_to_end,HT.out,List.drop_drop]
        ·have:=HTS.out;rw[ByteArray.size_extract];omega
        ·show (t.extract 9 t.size).size<t.size;rw[ByteArray.size_extract];omega)
      |(have hmin:(min (t.size:Int) 9).toNat=i:=by omega
        refine⟨⟨t.extract (min (t.size:Int) 9).toNat t.size,k+i,rfl,hkk,?_,?_,hvs,hq.trans hqq,hnw6⟩,?_⟩
        ·rw[hmin,Lib.extract_to_end,HT.out,List.drop_drop]
        ·have:=HTS.out;rw[hmin,ByteArray.size_extract];omega
        ·show (t.extract (min (t.size:Int) 9).toNat t.size).size<t.size;rw[hmin,ByteArray.size_extract];omega)
end Go.Proofs.YthjhkhlafhjjmaaGreatDoor
namespace Go.Proofs.YthjhkhlafhjjmaaGreatDoor.K
open Go.RowKit
open Ma Me
section
variable {ops:Array Oper} {l:List Vs} {cs:List Ce} {ks:List (Value × Vs)} {F:(Nat→Value)→Act} {a:Act} {w0:World} {i:Nat} {o:Oper} {rest:List Oper}
theorem JC.al{n:Nat}{x:Ce}{t:TypeId}{row:List Value}(hnew:Sh x.ck row)(c:Ctx ops a F)(hr:Ja.Steps Tryz.prog ops (JC w0 ops l cs ks) F (i+1) rest)
  (hx:cs[n]? =some x:=by rfl) (hal:x.al=some i:=by rfl) (ht:x.t=t:=by rfl) (hrow:x.row=.agg row.toArray:=by rfl)
  (hf:((cs.eraseIdx n).all fun c=>c.al != some i && c.st != i)=true:=by kernel_rfl) (hl:l.getD i .any=.any:=by rfl)
  (ho:ops[i]? =some o:=by rfl) (hck:cZ ops cs=true:=by kernel_rfl) (hg:cO ops l o true=true:=by kernel_rfl)
  (hrun:∀vals w,(execOp (F vals).eval o).run Tryz.prog w=.ok (.value (.pointer (some ⟨w.heap.size,0,none⟩))) (w.alloc (.cells row.toArray t)):=by intro vals w;kernel_rfl):
  Ja.Steps Tryz.prog ops (JC w0 ops l cs ks) F i (o::rest):=
 Ja.Steps.cons (JC.alloc (t:=t) (cells:=row.toArray) c hck ho hg hx hal hf hl (fun W=>by rw[hrow,ht];exact NbV.mk hnew (Bx.new W _ _)) (fun vals w K hK=>by
  unfold Oper.wp;rw[hrun vals w,Oper.upon_value];exact hK.out _ rfl)) hr
def zR:List Value:=[.int .i64 0,.slice none 0 0,.slice none 0 0]
theorem shR:Sh [.i,.s,.s] zR:=⟨⟨_,rfl⟩,⟨_,_,_,rfl⟩,⟨_,_,_,rfl⟩,trivial⟩
theorem shT:Sh [.i,.s,.s,.i,.s,.s] (zR++zR):=⟨⟨_,rfl⟩,⟨_,_,_,rfl⟩,⟨_,_,_,rfl⟩,⟨_,rfl⟩,⟨_,_,_,rfl⟩,⟨_,_,_,rfl⟩,trivial⟩
def aMH(f:Nat→Value)(j k:Nat)(u v:Value):Nat→Value:=fun x=>if x=j then u else if x=k then v else f x
theorem aOT(f:Nat→Value)(j k:Nat){u v:Value}(h1:f j=u)(h2:f k=v):aMH f j k u v=f:=by
 funext x;unfold aMH;split
 ·rename_i h;rw[h,h1]
 ·split
  ·rename_i h;rw[h,h2]
  ·rfl
theorem JC.bt(j k:Nat){p q:Rat}(c:Ctx ops a F)(hr:Ja.Steps Tryz.prog ops (JC w0 ops l cs ks) F (i+1) rest)
  (hlj:l.getD j .any=.gen (pRn p):=by rfl) (hlk:l.getD k .any=.gen (pRn q):=by rfl) (hl:l.getD i .any=.gen (pRs p q):=by rfl)
  (hj:(o.after.any fun e=>Region.binds .any e && e.on == j)=true:=by kernel_rfl) (hk:(o.after.any fun e=>Region.binds .any e && e.on == k)=true:=by kernel_rfl)
  (ho:ops[i]? =some o:=by rfl) (hck:cZ ops cs=true:=by kernel_rfl) (hg:cO ops l o true=true:=by kernel_rfl) (hf:(cs.all fun c=>c.al != some i && c.st != i)=true:=by kernel_rfl)
  (hrun:∀(vals:Nat→Value) w s1 A1 n1 c1 A2 n2 c2 s3 A3 n3 c3 A4 n4 c4,(execOp (F (aMH vals j k (.agg #[.int .i64 s1,.slice A1 n1 c1,.slice A2 n2 c2]) (.agg #[.int .i64 s3,.slice A3 n3 c3,.slice A4 n4 c4]))).eval o).run Tryz.prog w=.ok (.value (.agg #[.int .i64 s1,.slice A1 n1 c1,.slice A2 n2 c2,.int .i64 s3,.slice A3 n3 c3,.slice A4 n4 c4])) w:=by intros;kernel_rfl):
  Ja.Steps Tryz.prog ops (JC w0 ops l cs ks) F i (o::rest):=
 JC.o c (fun L vals w _ _ hd K hK=>by
  have h1:=hd j hj;have h2:=hd k hk;unfold SL at h1 h2;rw[hlj]at h1;rw[hlk]at h2;have h1':Rq w (vals j) p:=h1;have h2':Rq w (vals k) q:=h2;have h1'':=h1';have h2'':=h2';obtain⟨A1,n1,c1,A2,n2,c2,e1,-⟩:=h1'';obtain⟨A3,n3,c3,A4,n4,c4,e2,-⟩:=h2'';have h:=hrun vals w (sn p) A1 n1 c1 A2 n2 c2 (sn q) A3 n3 c3 A4 n4 c4;rw[aOT vals j k e1 e2]at h;unfold Oper.wp;rw[h,Oper.upon_value];refine hK.out _ w _ rfl ?_ (Q.refl _);unfold SL;rw[hl];rw[e1]at h1';rw[e2]at h2';exact⟨_,_,_,_,_,_,_,_,_,_,_,_,_,_,rfl,h1',h2'⟩) hr hck ho hg hf
end
end Go.Proofs.YthjhkhlafhjjmaaGreatDoor.K
namespace Go.Proofs.YthjhkhlafhjjmaaGreatDoor.K
open Go.RowKit
open Ma Me
structure Cb where
 g:Nat
 t:TypeId
 ck:List Ck
 v:Value
 s:Vs
inductive Sx where
 |k
 |s (a b:Nat)
structure Fr where
 al:Nat
 t:TypeId
 ck:List Ck
 row:List Value
 x:Sx
structure St (w0:World) (cs:List Cb) (ks:List (Value × Vs)) (w:World):Prop where
 q:Q w0 w
 c:∀c∈cs,w0.heap.size≤c.g∧NbV w c.g c.t c.ck c.v∧c.s.holds c.v w
 d:∀(m k:Nat) (y z:Cb),m≠k→cs[m]? =some y→cs[k]? =some z→y.g≠z.g
 k:∀p∈ks,p.2.holds p.1 w
def mkE(c:Cb):Sx→Ce
 | .k=>⟨none,c.g,c.t,c.ck,c.v,1000,0⟩
 | .s a b=>⟨none,c.g,c.t,c.ck,c.v,a,b⟩
def mkF(f:Fr):Ce:=match f.x with
 | .k=>⟨some f.al,0,f.t,f.ck,.agg f.row.toArray,1000,0⟩
 | .s a b=>⟨some f.al,0,f.t,f.ck,.agg f.row.toArray,a,b⟩
def mkC:List Sx→List Cb→List Ce
 |_,[]=>[]
 | [],c::cs=>mkE c .k::mkC [] cs
 |x::xs,c::cs=>mkE c x::mkC xs cs
def cont(cs:List Cb):List (Value × Vs):=cs.map fun c=>(c.v,c.s)
def poE(l:List Vs)(vals:Nat→Value)(c:Cb):Sx→Cb
 | .k=>c
 | .s _ b=>⟨c.g,c.t,c.ck,vals b,l.getD b .any⟩
def poF(l:List Vs)(vals:Nat→Value)(ga:Nat→Nat)(f:Fr):Cb:=match f.x with
 | .k=>⟨ga f.al,f.t,f.ck,.agg f.row.toArray,.eq (.agg f.row.toArray)⟩
 | .s _ b=>⟨ga f.al,f.t,f.ck,vals b,l.getD b .any⟩
def poC(l:List Vs)(vals:Nat→Value):List Sx→List Cb→List Cb
 |_,[]=>[]
 | [],c::cs=>c::poC l vals [] cs
 |x::xs,c::cs=>poE l vals c x::poC l vals xs cs
def post(l:List Vs)(vals:Nat→Value)(ga:Nat→Nat)(ss:List Sx)(fs:List Fr)(cs:List Cb):List Cb:=poC l vals ss cs++fs.map (poF l vals ga)
def wC(n:Nat):Sx→Bool
 | .k=>Nat.ble n 1000
 | .s a b=>Nat.blt a n && Nat.blt b n
def Ce.addr(ga:Nat→Nat)(x:Ce):Nat:=match x.al with|none=>x.g|some a=>ga a
def RelB(l:List Vs)(vals:Nat→Value)(ga:Nat→Nat)(n:Nat)(x:Ce)(y:Cb)(s:Vs):Prop:=
 y.g=x.addr ga∧y.t=x.t∧y.ck=x.ck∧((x.st<n∧x.src<n∧y.v=vals x.src∧y.s=l.getD x.src .any)∨(n≤x.st∧y.v=x.row∧y.s=s))
section
variable {l:List Vs} {vals:Nat→Value} {ga:Nat→Nat} {n:Nat}
theorem relE{c:Cb}{x:Sx}(h:wC n x=true):RelB l vals ga n (mkE c x) (poE l vals c x) c.s:=by
 cases x with
 |k=>exact⟨rfl,rfl,rfl,Or.inr ⟨Nat.le_of_ble_eq_true h,rfl,rfl⟩⟩
 |s a b=>
  obtain⟨h1,h2⟩:=(Bool.and_eq_true _ _).mp h;exact⟨rfl,rfl,rfl,Or.inl ⟨Nat.le_of_ble_eq_true h1,Nat.le_of_ble_eq_true h2,rfl,rfl⟩⟩
theorem aSH{f:Fr}(h:wC n f.x=true):RelB l vals ga n (mkF f) (poF l vals ga f) (.eq (mkF f).row):=by
 obtain⟨al,t,ck,row,x⟩:=f;cases x with
 |k=>exact⟨rfl,rfl,rfl,Or.inr ⟨Nat.le_of_ble_eq_true h,rfl,rfl⟩⟩
 |s a b=>
  obtain⟨h1,h2⟩:=(Bool.and_eq_true _ _).mp h;exact⟨rfl,rfl,rfl,Or.inl ⟨Nat.le_of_ble_eq_true h1,Nat.le_of_ble_eq_true h2,rfl,rfl⟩⟩
theorem aFX(hn:wC n .k=true):∀{ss:List Sx} {cs:List Cb} {m:Nat} {y:Cb},(ss.all (wC n))=true→(poC l vals ss cs)[m]? =some y→∃x c,(mkC ss cs)[m]? =some x∧c∈cs∧x.row=c.v∧x.al=none∧RelB l vals ga n x y c.s
 |_,[],_,_,_,h=>by simp[poC]at h
 | [],c::cs,0,y,_,h=>by
   simp[poC]at h;subst h;exact⟨_,c,rfl,by simp,rfl,rfl,relE (x:=.k) hn⟩
 | [],c::cs,m+1,y,hs,h=>by
   obtain⟨x,c',h1,h2,h3⟩:=aFX hn (ss:=[]) (cs:=cs) (m:=m) (y:=y) hs (by simpa [poC] using h);exact⟨x,c',by simpa [mkC] using h1,List.mem_cons_of_mem _ h2,h3⟩
 |x::xs,c::cs,0,y,hs,h=>by
  simp[poC]at h;subst h;obtain⟨h1,h2⟩:=(Bool.and_eq_true _ _).mp hs;exact⟨_,c,rfl,by simp,by cases x<;>rfl,by cases x<;>rfl,relE h1⟩
 |x::xs,c::cs,m+1,y,hs,h=>by
  obtain⟨h1,h2⟩:=(Bool.and_eq_true _ _).mp hs;obtain⟨x',c',h3,h4,h5⟩:=aFX hn (ss:=xs) (cs:=cs) (m:=m) (y:=y) h2 (by simpa [poC] using h);exact⟨x',c',by simpa [mkC] using h3,List.mem_cons_of_mem _ h4,h5⟩
theorem aDp:∀{ss:List Sx} {cs:List Cb},(mkC ss cs).length=cs.length
 |_,[]=>rfl
 | [],c::cs=>by simp[mkC,aDp (ss:=[]) (cs:=cs)]
 |x::xs,c::cs=>by simp[mkC,aDp (ss:=xs) (cs:=cs)]
theorem aDq:∀{ss:List Sx} {cs:List Cb},(poC l vals ss cs).length=cs.length
 |_,[]=>rfl
 | [],c::cs=>by simp[poC,aDq (ss:=[]) (cs:=cs)]
 |x::xs,c::cs=>by simp[poC,aDq (ss:=xs) (cs:=cs)]
theorem post_at{ss:List Sx}{fs:List Fr}{cs:List Cb}(hn:wC n .k=true)(hs:ss.all (wC n)=true)(hf:(fs.all fun f=>wC n f.x)=true){m:Nat}{y:Cb}(h:(post l vals ga ss fs cs)[m]? =some y):
  ∃x s,(mkC ss cs++fs.map mkF)[m]? =some x∧RelB l vals ga n x y s∧((x.al=none∧∃c∈cs,x.row=c.v∧s=c.s)∨(s=.eq x.row∧∃f∈fs,x.al=some f.al)):=by
 unfold post at h;rw[List.getElem?_append,aDq]at h;rw[List.getElem?_append,aDp];split at h
 ·rename_i hlt;rw[if_pos hlt];obtain⟨x,c,h1,h2,h3,h4,h5⟩:=aFX hn hs h;exact⟨x,c.s,h1,h5,Or.inl ⟨h4,c,h2,h3,rfl⟩⟩
 ·rename_i hlt;rw[if_neg hlt];rw[List.getElem?_map]at h⊢;cases e:fs[m-cs.length]? with
  |none=>rw[e]at h;cases h
  |some f=>
   rw[e]at h;injection h with h;subst h;have hm:=List.mem_of_getElem? e;exact⟨mkF f,.eq (mkF f).row,rfl,aSH (List.all_eq_true.1 hf f hm),Or.inr ⟨rfl,f,hm,by unfold mkF;split<;>rfl⟩⟩
end
section
variable {P:Program} {ops:Array Oper} {Q':Exit→Act→World→Prop} {l:List Vs} {cs:List Cb} {ks:List (Value × Vs)} {ss:List Sx} {fs:List Fr} {F:(Nat→Value)→Act} {a:Act} {w0:World}
theorem aQ3{f:Fr}:(mkF f).al=some f.al:=by unfold mkF;split<;>rfl
def adr:Value→Nat
 | .pointer (some a)=>a.block
 |_=>0
theorem JC.st{L:Nat→Bool}{vals:Nat→Value}{W:World}(hck:cZ ops (mkC ss cs++fs.map mkF)=true)(hn:wC ops.size .k=true)(hs:ss.all (wC ops.size)=true)(hf:(fs.all fun f=>wC ops.size f.x)=true)
  (hall:∀j,j<ops.size→L j=true) (h:JC w0 ops l (mkC ss cs++fs.map mkF) (cont cs++ks) L vals W) (kp:List Nat) (hkp:kp.all (fun j=>Nat.blt j ops.size)=true):
  St w0 (post l vals (fun j=>adr (vals j)) ss fs cs) (ks++kp.map fun j=>(vals j,l.getD j .any)) W∧∀f∈fs,vals f.al=.pointer (some ⟨adr (vals f.al),0,none⟩):=by
 have live:∀x∈mkC ss cs++fs.map mkF,x.live L=true:=fun x hx=>by
  unfold Ce.live;have:=List.all_eq_true.1 hck x hx;simp only[Bool.and_eq_true]at this;cases e:x.al with
  |none=>rfl
  |some b=>
   have h2:=this.2;simp only[e,Bool.and_eq_true,decide_eq_true_eq]at h2;exact hall _ h2.2
 have ptr:∀x∈mkC ss cs++fs.map mkF,x.ptr vals=.pointer (some ⟨x.addr (fun j=>adr (vals j)),0,none⟩):=fun x hx=>by
  obtain⟨g,h1,-⟩:=h.c x hx (live x hx);unfold Ce.ptr Ce.addr at*
  cases e:x.al with
  |none=>rfl
  |some b=>
   simp only[e]at h1;simp only[h1,adr]
 refine⟨⟨h.q,fun y hy=>?_,fun m k y z hmk hy hz=>?_,fun p hp=>?_⟩,fun f hf'=>?_⟩
 ·obtain⟨m,hm⟩:=List.mem_iff_getElem?.1 hy;obtain⟨x,s,hx,⟨e1,e2,e3,e4⟩,hsx⟩:=post_at (ga:=fun j=>adr (vals j)) hn hs hf hm;have hxm:=List.mem_of_getElem? hx;obtain⟨g,h1,h2,h3⟩:=h.c x hxm (live x hxm);have hg:g=x.addr (fun j=>adr (vals j)):=by
   have:=h1.symm.trans (ptr x hxm);injection this with this;injection this with this;injection this
  subst hg;rw[e1,e2,e3];rcases e4 with⟨a1,a2,a3,a4⟩|⟨a1,a2,a3⟩
  ·rw[a3,a4];rw[if_pos (hall _ a1)]at h3;exact⟨h2,h3,h.s _ (hall _ a2)⟩
  ·rw[a2,a3];rw[if_neg (by rw[h.b _ a1];decide)]at h3;refine⟨h2,h3,?_⟩;rcases hsx with⟨-,c,hc,b1,b2⟩|⟨b1,-⟩
   ·rw[b1,b2];exact h.k _ (List.mem_append_left _ (List.mem_map.2 ⟨c,hc,rfl⟩))
   ·rw[b1];rfl
 ·obtain⟨x,s,hx,⟨e1,-⟩,-⟩:=post_at (ga:=fun j=>adr (vals j)) hn hs hf hy;obtain⟨x',s',hx',⟨e1',-⟩,-⟩:=post_at (ga:=fun j=>adr (vals j)) hn hs hf hz;have hxm:=List.mem_of_getElem? hx;have hxm':=List.mem_of_getElem? hx';intro e;refine h.d m k x x' hmk hx hx' (live x hxm) (live x' hxm') ?_;rw[ptr x hxm,ptr x' hxm',←e1,←e1',e]
 ·rcases List.mem_append.1 hp with hp|hp
  ·exact h.k p (List.mem_append_right _ hp)
  ·obtain⟨j,hj,rfl⟩:=List.mem_map.1 hp;exact h.s j (hall j (Nat.le_of_ble_eq_true (List.all_eq_true.1 hkp j hj)))
 ·have hm:mkF f∈mkC ss cs++fs.map mkF:=List.mem_append_right _ (List.mem_map.2 ⟨f,hf',rfl⟩);have:=ptr _ hm;unfold Ce.ptr Ce.addr at this;simpa only[aQ3] using this
structure Vl (l:List Vs) (vals:Nat→Value) (fs:List Fr) (n:Nat):Prop where
 e:∀j {v:Value},l.getD j .any=.eq v→Nat.blt j n=true→vals j=v
 f:∀j,(fs.any fun f=>f.al == j)=true→vals j=.pointer (some ⟨adr (vals j),0,none⟩)
end
def part(v:Value)(o:Nat):Value:=match v with
 | .agg a=>.agg ((a.toList.drop o).take 3).toArray
 |_=>v
theorem pa0{p q:Rat}:∀v W,(Vs.gen (aNo p q)).holds v W→(Vs.gen (aQ2 p)).holds (part v 0) W:=fun v W ⟨_,_,_,_,_,_,_,_,_,_,_,_,_,_,e,h,_⟩=>by rw[e];exact h
theorem pa3{p q:Rat}:∀v W,(Vs.gen (aNo p q)).holds v W→(Vs.gen (aQ2 q)).holds (part v 3) W:=fun v W ⟨_,_,_,_,_,_,_,_,_,_,_,_,_,_,e,_,h⟩=>by rw[e];exact h
theorem pb0{p q:Rat}:∀v W,(Vs.gen (pRs p q)).holds v W→(Vs.gen (pRn p)).holds (part v 0) W:=fun v W ⟨_,_,_,_,_,_,_,_,_,_,_,_,_,_,e,h,_⟩=>by rw[e];exact h
theorem pb3{p q:Rat}:∀v W,(Vs.gen (pRs p q)).holds v W→(Vs.gen (pRn q)).holds (part v 3) W:=fun v W ⟨_,_,_,_,_,_,_,_,_,_,_,_,_,_,e,_,h⟩=>by rw[e];exact h
theorem st2{ρ:Operand→Value}{o:Oper}{w:World}{g:Nat}{t:TypeId}{v0 v1 u0 u1:Value}{T:TypeId}{x y:Operand}(hb:Bx w g t [u0,u1])(o0:v0.oneCell'=true)(o1:v1.oneCell'=true)(ho:o.op=.store T x y)(hx:ρ x=.pointer (some ⟨g,0,none⟩))(hy:ρ y=.agg #[v0,v1])(hS:∀w,Sem.run Tryz.prog (sizeOf T) w=.ok 2 w):
  (execOp ρ o).run Tryz.prog w=.ok .skip (iW w g 0 [v0,v1]):=by
 have fz:=hb.frozen;have c0:=hb.cell 0 rfl;have c1:=hb.cell 1 rfl;unfold execOp;rw[ho];simp[hx,hy,go_sem,hS,storeCells,Addr.add,fz,c0,c1,iW,o0,o1,run_store]
theorem aSI:∀{l:List Value},l.length=3→∃a b c,l=[a,b,c]
 | [a,b,c],_=>⟨a,b,c,rfl⟩
section
variable {ops:Array Oper} {l:List Vs} {cs:List Ce} {ks:List (Value × Vs)} {F:(Nat→Value)→Act} {a:Act} {w0:World} {i:Nat} {o:Oper} {rest:List Oper}
theorem JC.was'{L:Nat→Bool}{vals:Nat→Value}{W:World}(n:Nat){x:Ce}(hx:cs[n]? =some x)(hal:x.al=none)
  (hb:(Nat.ble ops.size x.st || waits ops x.st x.src && waits ops x.src i || waits ops x.st i)=true) (hL:L i=false) (h:JC w0 ops l cs ks L vals W):NbV W x.g x.t x.ck x.row:=by
 rcases (Bool.or_eq_true _ _).mp hb with h0|h0
 ·rcases (Bool.or_eq_true _ _).mp h0 with h1|h1
  ·exact h.still n hx hal (Nat.le_of_ble_eq_true h1)
  ·obtain⟨h2,h3⟩:=(Bool.and_eq_true _ _).mp h1;exact h.before n i hx hal hL h2 h3
 ·refine h.at n hx hal ?_;cases hs:L x.st with
  |false=>rfl
  |true=>
   have:=h.cl _ _ hs h0;rw[hL]at this;cases this
theorem JC.s2{n:Nat}{x:Ce}{T:TypeId}{p y:Operand}(hx:cs[n]? =some x)(form:∀v W,(l.getD x.src .any).holds v W→∃v0 v1,v=.agg #[v0,v1]∧Sh x.ck [v0,v1])(c:Ctx ops a F)(hr:Ja.Steps Tryz.prog ops (JC w0 ops l cs ks) F (i+1) rest)
  (ho:ops[i]? =some o:=by rfl) (hop:o.op=.store T p y:=by rfl) (hp:∀vals,(F vals).eval p=x.ptr vals:=by intro vals;kernel_rfl) (hy:∀vals,(F vals).eval y=vals x.src:=by intro vals;kernel_rfl)
  (hty:(x.t != 2 && (x.t != 73 || Nat.ble x.ck.length 3))=true:=by kernel_rfl) (hst:x.st=i:=by rfl) (hf:((cs.eraseIdx n).all fun c=>c.al != some i && c.st != i)=true:=by kernel_rfl) (hl:l.getD i .any=.any:=by rfl) (hok:(l.all Vs.ok && ks.all fun p=>p.2.ok)=true:=by kernel_rfl)
  (hck:cZ ops cs=true:=by kernel_rfl) (hg:cO ops l o true=true:=by kernel_rfl) (hS:∀w,Sem.run Tryz.prog (sizeOf T) w=.ok 2 w:=by intro _;kernel_rfl):
  Ja.Steps Tryz.prog ops (JC w0 ops l cs ks) F i (o::rest):=
 Ja.Steps.cons (JC.store c hck ho hg hx (aMo hty) hst hf hl hok (fun L vals w g old hJ hpt ho' hs K hK=>by
  obtain⟨v0,v1,e,hsh⟩:=form _ _ hs;obtain⟨row,e2,hsr,hb⟩:=ho';have hlen:row.length=2:=(by rw[hsr.length,←hsh.length];rfl);obtain⟨u0,u1,rfl⟩:∃u0 u1,row=[u0,u1]:=by
   match row,hlen with
   | [u0,u1],_=>exact⟨_,_,rfl⟩
  have h1:=st2 hb (Sh.one hsh v0 (by simp)) (Sh.one hsh v1 (by simp)) hop ((hp vals).trans hpt) ((hy vals).trans e) hS;unfold Oper.wp;rw[h1,Oper.upon_skip];exact hK.out undef _ _ rfl ⟨_,e,hsh,rfl⟩)) hr
theorem JC.ldg(n:Nat){x:Ce}{v:Value→Value}{y:Operand}{s s':Vs}(off:Nat)(hp:∀v' W,s.holds v' W→s'.holds (v v') W)(hrun':∀(ρ:Operand→Value) w,NbV w x.g x.t x.ck x.row→ρ y=.pointer (some ⟨x.g,off,none⟩)→(execOp ρ o).run Tryz.prog w=.ok (.value (v x.row)) w)(c:Ctx ops a F)(hr:Ja.Steps Tryz.prog ops (JC w0 ops l cs ks) F (i+1) rest)(hxn:cs[n]? =some x)(hal:x.al=none)(hb:(Nat.ble ops.size x.st || waits ops x.st x.src && waits ops x.src i || waits ops x.st i)=true)(hks:ks[n]? =some (x.row,s))(hl:l.getD i .any=s')(ho:ops[i]? =some o)(hx:∀vals,(F (mW l o vals)).eval y=.pointer (some ⟨x.g,off,none⟩))
  (hck:cZ ops cs=true) (hg:cO ops l o true=true) (hf:(cs.all fun c=>c.al != some i && c.st != i)=true):
  Ja.Steps Tryz.prog ops (JC w0 ops l cs ks) F i (o::rest):=
 JC.o c (fun L vals w hL hJ hd K hK=>by
  have h:=hrun' (F (mW l o vals)).eval w (JC.was' n hxn hal hb hL hJ) (hx vals);rw[pV hd]at h;unfold Oper.wp;rw[h,Oper.upon_value];exact hK.out _ w _ rfl (by unfold SL;rw[hl];exact hp _ _ (hJ.k _ (List.mem_of_getElem? hks))) (Q.refl _)) hr hck ho hg hf
theorem ldp{ρ:Operand→Value}{w:World}{g off:Nat}{t T:TypeId}{ck:List Ck}{v:Value}{y:Operand}(hop:o.op=.load T y)(hT:∀w,Sem.run Tryz.prog (isAgg T) w=.ok true w)(hS:∀w,Sem.run Tryz.prog (sizeOf T) w=.ok 3 w)(h36:(Nat.ble (off+3) ck.length)=true)
  (h:NbV w g t ck v) (hy:ρ y=.pointer (some ⟨g,off,none⟩)):(execOp ρ o).run Tryz.prog w=.ok (.value (part v off)) w:=by
 obtain⟨row,rfl,hs,hb⟩:=h;have hl:=hs.length;have h3:=Nat.le_of_ble_eq_true h36;rw[←hl]at h3;have e:row[off]? =some row[off]∧row[off+1]? =some row[off+1]∧row[off+2]? =some row[off+2]:=⟨List.getElem?_eq_getElem (by omega),List.getElem?_eq_getElem (by omega),List.getElem?_eq_getElem (by omega)⟩
 have:=ld3 (hb.cell off e.1) (hb.cell (off+1) e.2.1) (hb.cell (off+2) e.2.2) hop hy hT hS;rw[this];unfold part;have e2:(row.drop off).take 3=[row[off],row[off+1],row[off+2]]:=by
  rw[List.drop_eq_getElem_cons (by omega),List.drop_eq_getElem_cons (by omega),List.drop_eq_getElem_cons (by omega)];rfl
 simp only[e2]
theorem JW.pt(n off:Nat){x:Ce}{T:TypeId}{y:Operand}{s s':Vs}(c:Ctx ops a F)(hr:Ja.Steps Tryz.prog ops (JC w0 ops l cs ks) F (i+1) rest)
  (hxn:cs[n]? =some x:=by rfl) (hal:x.al=none:=by rfl) (hb:(Nat.ble ops.size x.st || waits ops x.st x.src && waits ops x.src i || waits ops x.st i)=true:=by kernel_rfl)
  (hks:ks[n]? =some (x.row,s):=by rfl) (hl:l.getD i .any=s':=by rfl) (hp:∀v' W,s.holds v' W→s'.holds (part v' off) W:=by first|exact pa0|exact pa3|exact pb0|exact pb3) (ho:ops[i]? =some o:=by rfl) (hop:o.op=.load T y:=by rfl)
  (hx:∀vals,(F (mW l o vals)).eval y=.pointer (some ⟨x.g,off,none⟩):=by intro vals;kernel_rfl)
  (hck:cZ ops cs=true:=by kernel_rfl) (hg:cO ops l o true=true:=by kernel_rfl) (hf:(cs.all fun c=>c.al != some i && c.st != i)=true:=by kernel_rfl)
  (hT:∀w,Sem.run Tryz.prog (isAgg T) w=.ok true w:=by intro _;kernel_rfl) (hS:∀w,Sem.run Tryz.prog (sizeOf T) w=.ok 3 w:=by intro _;kernel_rfl) (h36:(Nat.ble (off+3) x.ck.length)=true:=by kernel_rfl):
  Ja.Steps Tryz.prog ops (JC w0 ops l cs ks) F i (o::rest):=
 JC.ldg (v:=fun v=>part v off) n off hp (fun _ _ h hy=>ldp hop hT hS h36 h hy) c hr hxn hal hb hks hl ho hx hck hg hf
structure CaH (w0:World) (o:Oper) (l:List Vs) (ks:List (Value × Vs)) (vals:Nat→Value) (W:World):Prop where
 q:Q w0 W
 d:∀j,(hj:(o.after.any fun e=>Region.binds .any e && e.on == j)=true:=by kernel_rfl)→SL l j (vals j) W
 k:∀(n:Nat) {p:Value × Vs},(hn:ks[n]? =some p:=by rfl)→p.2.holds p.1 W
theorem JW.ca{P:Program}{f:FuncId}{args:(Nat→Value)→Array Value}
  (h:∀{vals W},CaH w0 o l ks vals W→Calls P f (args vals) W fun e w'=>∃r,e=.returned r∧(l.getD i .any).holds r w'∧Q W w')
  (c:Ctx ops a F) (hr:Ja.Steps P ops (JC w0 ops l cs ks) F (i+1) rest)
  (hck:cZ ops cs=true:=by kernel_rfl) (ho:ops[i]? =some o:=by rfl) (hg:cO ops l o true=true:=by kernel_rfl) (hf:(cs.all fun c=>c.al != some i && c.st != i)=true:=by kernel_rfl)
  (hrun:∀vals w,(execOp (F (mW l o vals)).eval o).run P w=.ok (.enter f (args (mW l o vals))) w:=by intro vals w;kernel_rfl):
  Ja.Steps P ops (JC w0 ops l cs ks) F i (o::rest):=
 JC.ca (fun _ _ h1 h2 h3=>h ⟨h1,fun j hj=>h2 j hj,fun n {p} hn=>h3 n p hn⟩) c hr hck ho hg hf hrun
def elt(v:Value)(k:Nat):Value:=match v with| .tuple a=>(a.toList[k]?).getD undef|_=>undef
def aIT(f:Nat→Value)(j:Nat)(u:Value):Nat→Value:=fun x=>if x=j then u else f x
theorem aHw(f:Nat→Value)(j:Nat){u:Value}(h:f j=u):aIT f j u=f:=by
 funext x;unfold aIT;split
 ·rename_i e;rw[e,h]
 ·rfl
theorem JW.x2(j k:Nat){p1 p2:Pr}{s:Vs}(c:Ctx ops a F)(hr:Ja.Steps Tryz.prog ops (JC w0 ops l cs ks) F (i+1) rest)
  (hj:l.getD j .any=.gen (pT2 p1 p2):=by rfl) (hl:l.getD i .any=s:=by rfl) (hs:(∀x y W,p1.p x W→p2.p y W→s.holds (elt (.tuple #[x,y]) k) W):=by first|exact fun _ _ _ h _=>h|exact fun _ _ _ _ h=>h)
  (hw:(o.after.any fun e=>Region.binds .any e && e.on == j)=true:=by kernel_rfl) (ho:ops[i]? =some o:=by rfl) (hck:cZ ops cs=true:=by kernel_rfl) (hg:cO ops l o true=true:=by kernel_rfl) (hf:(cs.all fun c=>c.al != some i && c.st != i)=true:=by kernel_rfl)
  (hrun:∀(vals:Nat→Value) w x y,(execOp (F (aIT vals j (.tuple #[x,y]))).eval o).run Tryz.prog w=.ok (.value (elt (.tuple #[x,y]) k)) w:=by intros;kernel_rfl):
  Ja.Steps Tryz.prog ops (JC w0 ops l cs ks) F i (o::rest):=
 JC.o c (fun L vals w _ _ hd K hK=>by
  have h1:=hd j hw;unfold SL at h1;rw[hj]at h1;obtain⟨x,y,e,h2,h3⟩:=h1;have h:=hrun vals w x y;rw[aHw vals j e]at h;unfold Oper.wp;rw[h,Oper.upon_value];exact hK.out _ w _ rfl (by unfold SL;rw[hl];exact hs x y w h2 h3) (Q.refl _)) hr hck ho hg hf
theorem JW.x3(j k:Nat){p1 p2 p3:Pr}{s:Vs}(c:Ctx ops a F)(hr:Ja.Steps Tryz.prog ops (JC w0 ops l cs ks) F (i+1) rest)
  (hj:l.getD j .any=.gen (pT3 p1 p2 p3):=by rfl) (hl:l.getD i .any=s:=by rfl) (hs:(∀x y z W,p1.p x W→p2.p y W→p3.p z W→s.holds (elt (.tuple #[x,y,z]) k) W):=by first|exact fun _ _ _ _ h _ _=>h|exact fun _ _ _ _ _ h _=>h|exact fun _ _ _ _ _ _ h=>h)
  (hw:(o.after.any fun e=>Region.binds .any e && e.on == j)=true:=by kernel_rfl) (ho:ops[i]? =some o:=by rfl) (hck:cZ ops cs=true:=by kernel_rfl) (hg:cO ops l o true=true:=by kernel_rfl) (hf:(cs.all fun c=>c.al != some i && c.st != i)=true:=by kernel_rfl)
  (hrun:∀(vals:Nat→Value) w x y z,(execOp (F (aIT vals j (.tuple #[x,y,z]))).eval o).run Tryz.prog w=.ok (.value (elt (.tuple #[x,y,z]) k)) w:=by intros;kernel_rfl):
  Ja.Steps Tryz.prog ops (JC w0 ops l cs ks) F i (o::rest):=
 JC.o c (fun L vals w _ _ hd K hK=>by
  have h1:=hd j hw;unfold SL at h1;rw[hj]at h1;obtain⟨x,y,z,e,h2,h3,h4⟩:=h1;have h:=hrun vals w x y z;rw[aHw vals j e]at h;unfold Oper.wp;rw[h,Oper.upon_value];exact hK.out _ w _ rfl (by unfold SL;rw[hl];exact hs x y z w h2 h3 h4) (Q.refl _)) hr hck ho hg hf
end
theorem St.nil{w0 w:World}(h:Q w0 w):St w0 [] [] w:=⟨h,fun _ h=>(by cases h),fun _ _ _ _ _ h=>(by simp at h),fun _ h=>(by cases h)⟩
theorem St.cons{w0 w:World}{g:Nat}{t:TypeId}{ck:List Ck}{row:List Value}{cs:List Cb}{ks:List (Value × Vs)}(s:Vs)(hb:Bx w g t row)(sh:Sh ck row)(n:s.holds (.agg row.toArray) w)(h:St w0 cs ks w)(hg:w0.heap.size≤g)(hd:∀c∈cs,g≠c.g):
  St w0 (⟨g,t,ck,.agg row.toArray,s⟩::cs) ks w:=by
 refine⟨h.q,fun c hc=>?_,fun m k y z hmk hy hz=>?_,h.k⟩
 ·rcases List.mem_cons.1 hc with rfl|hc
  ·exact⟨hg,NbV.mk sh hb,n⟩
  ·exact h.c c hc
 ·rcases m with _|m<;>rcases k with _|k
  ·exact absurd rfl hmk
  ·simp at hy hz;subst hy;exact hd z (List.mem_of_getElem? hz)
  ·simp at hy hz;subst hz;exact fun e=>hd y (List.mem_of_getElem? hy) e.symm
  ·exact h.d m k y z (fun e=>hmk (by rw[e])) (by simpa using hy) (by simpa using hz)
section
variable {w0 w:World} {g:Nat} {t:TypeId} {ck:List Ck} {cs:List Cb} {ks:List (Value × Vs)} {p q:Rat} {row:List Value}
theorem St.kp{v:Value}(s:Vs)(hv:s.holds v w)(h:St w0 cs ks w):St w0 cs (ks++[(v,s)]) w:=⟨h.q,h.c,h.d,fun p hp=>by
 rcases List.mem_append.1 hp with hp|hp
 ·exact h.k p hp
 ·rw[List.mem_singleton.1 hp];exact hv⟩
theorem St.n(h:Hid (St w0 cs ks w))(n:Nat){x:Cb}(hx:cs[n]? =some x:=by rfl):x.s.holds x.v w:=(h.out.c x (List.mem_of_getElem? hx)).2.2
theorem St.b(h:Hid (St w0 cs ks w))(n:Nat){x:Cb}(hx:cs[n]? =some x:=by rfl):NbV w x.g x.t x.ck x.v:=(h.out.c x (List.mem_of_getElem? hx)).2.1
theorem St.ge(h:Hid (St w0 cs ks w))(n:Nat){x:Cb}(hx:cs[n]? =some x:=by rfl):w0.heap.size≤x.g:=(h.out.c x (List.mem_of_getElem? hx)).1
theorem St.vv(h:Hid (St w0 cs ks w))(n:Nat):(ks.getD n (undef,.any)).2.holds (ks.getD n (undef,.any)).1 w:=by
 rw[List.getD_eq_getElem?_getD];cases e:ks[n]? with
 |none=>trivial
 |some p=>exact h.out.k p (List.mem_of_getElem? e)
theorem St.v(h:Hid (St w0 cs ks w))(n:Nat){p:Value × Vs}(hx:ks[n]? =some p:=by rfl):p.2.holds p.1 w:=h.out.k p (List.mem_of_getElem? hx)
end
theorem St.o3{w0 w:World}{cs:List Cb}{ks:List (Value × Vs)}(h:Hid (St w0 cs ks w))(n:Nat){x:Cb}(hx:cs[n]? =some x:=by rfl)(h3:(x.ck.length == 3)=true:=by kernel_rfl):∃r0 r1 r2,Bx w x.g x.t [r0,r1,r2]∧x.s.holds (.agg #[r0,r1,r2]) w:=by
 obtain⟨-,⟨row,e,hs,hb⟩,hn⟩:=h.out.c x (List.mem_of_getElem? hx);obtain⟨x0,x1,x2,rfl⟩:=aSI (hs.length.trans (beq_iff_eq.1 h3));rw[e]at hn;exact⟨_,_,_,hb,hn⟩
abbrev eP (g o:Nat):Vs:=.eq (.pointer (some ⟨g,o,none⟩))
abbrev eB (b:Bool):Vs:=.eq (.bool b)
abbrev gT (p q:Rat):Vs:=.gen (pRs p q)
end Go.Proofs.YthjhkhlafhjjmaaGreatDoor.K
namespace Go.Proofs.YthjhkhlafhjjmaaGreatDoor.K
open Go.RowKit
open Ma Me
theorem fV{w a:World}{g:Nat}{row:List Value}(hR:Bx w g 73 row)(hl:row.length=3)(hQ:Q a w)(hg:a.heap.size≤g):Bx (((w.setCell ⟨g,0,none⟩ (.int .i64 0)).setCell ⟨g,1,none⟩ (.slice none 0 0)).setCell ⟨g,2,none⟩ (.slice none 0 0)) g 73 [.int .i64 0,.slice none 0 0,.slice none 0 0]∧Q a (((w.setCell ⟨g,0,none⟩ (.int .i64 0)).setCell ⟨g,1,none⟩ (.slice none 0 0)).setCell ⟨g,2,none⟩ (.slice none 0 0)):=
 ⟨hR.put (l:=[.int .i64 0,.slice none 0 0,.slice none 0 0]) hl,tV (l:=[.int .i64 0,.slice none 0 0,.slice none 0 0]) hQ hg⟩
theorem sV{f:List UInt8}(h:uL f=true)(hl:¬1<f.length∨f.head?≠some 48):Row f:=by
 obtain⟨h1,h2⟩:=yM.1 h;refine⟨h1,h2,fun h3=>?_⟩;rcases hl with h4|h4
 ·match f,h2,h3,h4 with
  | [c],_,h3,_=>simp at h3;rw[h3]
  |c::d::r,_,_,h4=>simp at h4
 ·exact absurd h3 h4
theorem aKN{f:List UInt8}(h:uL f=false):¬Row f:=fun hr=>by
 rw[yM.2 ⟨hr.1,hr.2.1⟩]at h;cases h
theorem aHx{f:List UInt8}(h1:1<f.length)(h2:f.head? =some 48):¬Row f:=fun hr=>by
 rw[hr.2.2 h2]at h1;simp at h1
theorem aFY{neg two:Bool}{f b:List UInt8}(h:¬Row f):bC neg f b two=(6,0):=if_pos (.inl h)
theorem xI{neg:Bool}{f b:List UInt8}(h:¬Row b∨b=[48]∨b=[49]):bC neg f b true=(6,0):=by
 unfold bC;split
 ·rfl
 ·rw[if_pos ⟨rfl,h⟩]
theorem aDZ{b:List UInt8}(h2:b.head? =some 48):¬Row b∨b=[48]∨b=[49]:=by
 by_cases h:Row b
 ·exact .inr (.inl (h.2.2 h2))
 ·exact .inl h
theorem aA5{s:ByteArray}{l:List UInt8}(h:s.data.toList=l)(hp:0<s.size):l.head? =some (s[0]'hp):=by
 rw[List.head?_eq_getElem?,←h];exact byte_at hp
theorem aFZ{neg:Bool}{n:Nat}{sg:Int}(h:(if neg then -1 else 1)=sg):mkQ neg n 1*((1:Nat):Rat)=(sg:Rat)*(n:Rat):=by
 have h1:=(iC (neg:=neg) (n:=n) (d:=1) (by decide) (Nat.gcd_one_right n)).1;have h2:=(iC (neg:=neg) (n:=n) (d:=1) (by decide) (Nat.gcd_one_right n)).2;have h3:=wJ (mkQ neg n 1);rw[h2]at h3;rw[←h3,h1,←h];cases neg
 ·show (((n:Nat):Int):Rat)=((1:Int):Rat)*(n:Rat)
  rw[Rat.intCast_natCast];simp
 ·show ((-(n:Int):Int):Rat)=((-1:Int):Rat)*(n:Rat)
  rw[Rat.intCast_neg,Rat.intCast_natCast];have e:((-1:Int):Rat)=-1:=rfl;rw[e];grind
theorem aHy{neg:Bool}{n d:Nat}{sg:Int}(h:(if neg then -1 else 1)=sg)(hn:0<n)(hd:0<d)(hc:Nat.gcd n d=1):sg=sn (mkQ neg n d)∧(mkQ neg n d).num.natAbs=n∧(mkQ neg n d).den=d:=by
 obtain⟨h1,h2⟩:=iC (neg:=neg) hd hc;refine⟨?_,?_,h2⟩
 ·rw[wK,h1,←h];cases neg
  ·exact (Int.sign_eq_one_of_pos (show (0:Int)<(n:Int) by omega)).symm
  ·exact (Int.sign_eq_neg_one_of_neg (show (-(n:Int))<0 by omega)).symm
 ·rw[h1];cases neg<;>simp
theorem xJ{l:List UInt8}(h:Row l)(h0:l≠[48]):0<dv l:=by
 rcases Nat.eq_zero_or_pos (dv l) with e|e
 ·have h1:=aEH h;rw[e,aEO]at h1;exact absurd h1.symm h0
 ·exact e
theorem yN{l:List UInt8}(h:dQ l)(hl:¬1000<l.length):31*dg B30 (dv l)+80≤LIM:=by
 have h1:dg B30 (dv l)≤l.length:=iZ aZ (Nat.lt_of_lt_of_le (aAA h) (Nat.pow_le_pow_left (by decide) _));rw[aC];omega
theorem aOU(s:ByteArray)(w:World)(hs:s.size≤9223372036854775806):
  Calls Tryz.prog 35 #[.string s] w fun e w'=>∃r,e=.returned (.tuple #[r,.int .i64 (dE s.data.toList).1])∧Rq w' r (dE s.data.toList).2∧Q w w':=by
 obtain⟨W,hW,hG0,hR0⟩:=aQw w 73 [.int .i64 0,.slice none 0 0,.slice none 0 0];obtain⟨neg,hneg⟩:∃neg,gB s.data.toList=neg:=⟨_,rfl⟩
 obtain⟨two,htwo⟩:∃two,decide (47∈unsigned s.data.toList)=two:=⟨_,rfl⟩
 obtain⟨f,hf⟩:∃f,gU 47 (unsigned s.data.toList)=f:=⟨_,rfl⟩
 obtain⟨b,hb⟩:∃b,aft 47 (unsigned s.data.toList)=b:=⟨_,rfl⟩
 obtain⟨sg,hsg⟩:∃sg:Int,(if neg then -1 else 1)=sg:=⟨_,rfl⟩
 have hb2:two=false→b=[]:=fun h=>by rw[←hb];exact (aAq (of_decide_eq_false (htwo.trans h))).2
 have hP:dE s.data.toList=bC neg f b two:=by unfold dE;rw[hneg,htwo,hf,hb]
 have HP:=hZ hP;have HN:=hZ hneg;have HT2:=hZ htwo;have HF:=hZ hf;have HBb:=hZ hb;have HB2:=hZ hb2;have HSG:=hZ hsg;clear hP hneg htwo hf hb hb2 hsg;go_enter Tryz.func35,Tryz.ntmps35
 go_wp2_with fail
 clear hW;refine (aMG s sg _ (by rw[HN.out];exact HSG.out) hs).mono ?_;rintro e w1 ⟨a,rfl,ha,hsz,hq1⟩;have hG1:=hG0.trans hq1;have hR1:=hR0.q hq1;clear hG0 hR0 hq1;have HA:=hZ ha;clear ha;go_wp2_with fail
 refine (aOS a 47 two _ (by rw[HA.out];exact HT2.out) (by omega)).mono ?_;rintro e w2 ⟨fa,fb,rfl,hfa,hfb,hza,hzb,hq2⟩;have hG2:=hG1.trans hq2;have hR2:=hR1.q hq2;clear hG1 hR1 hq2;rw[HA.out]at hfa hfb;rw[HF.out]at hfa;rw[HBb.out]at hfb;have la:fa.size=f.length:=by rw[←hfa,qD]
 have lb:fb.size=b.length:=by rw[←hfb,qD]
 have ta:fa.toList=f:=(ByteArray.toList_eq _).trans hfa;have tb:fb.toList=b:=(ByteArray.toList_eq _).trans hfb;have HFA:=hZ hfa;have HFB:=hZ hfb;have LA:=hZ la;have LB:=hZ lb;have TA:=hZ ta;have TB:=hZ tb;clear hfa hfb la lb ta tb;have HSZ:Hid (fa.size≤9223372036854775806∧fb.size≤9223372036854775806):=hZ (by omega);clear hza hzb hsz;go_wp2_with fail
 refine (aFW fa _ HSZ.out.1).mono ?_;rintro e w3 ⟨rfl,hq3⟩;have hG3:=hG2.trans hq3;have hR3:=hR2.q hq3;clear hG2 hR2 hq3;rw[HFA.out];by_cases hd:uL f=true
 ·rw[hd];have HDF:=hZ hd;clear hd;cases two
  ·by_cases hl1:1<fa.size
   ·have h1:(1:Int)<(fa.size:Int):=(by omega);have hp0:0<fa.size:=(by omega);have hcc:=aA5 HFA.out hp0;generalize hca:fa[0]'hp0=ca at*
    by_cases hc1:ca=48
    ·subst hc1;have HH:=hZ (aHx (by rw[←LA.out];exact hl1) hcc);clear hcc hl1;have fz:=hR3.frozen;have r0:=hR3.cell 0 rfl;have r1:=hR3.cell 1 rfl;have r2:=hR3.cell 2 rfl;go_wp2_with fail
     obtain⟨hb9,hq9⟩:=fV hR3 rfl hG3 (Nat.le_refl _);have z0:=hb9.cell 0 rfl;have z1:=hb9.cell 1 rfl;have z2:=hb9.cell 2 rfl;refine rt3 (.int .i64 6) z0 z1 z2 ?_;rw[HP.out,(aFY HH.out:bC _ _ _ _=(6,0))];exact⟨_,rfl,Rq.none _,hq9⟩
    ·have hn1:¬(ca.toNat:Int)=48:=fun h=>hc1 (UInt8.toNat_inj.1 (by have:(48:UInt8).toNat=48:=rfl;omega));have hn1b:((ca.toNat:Int) == 48)=false:=beq_eq_false_iff_ne.2 hn1;have HRW:Hid (Row f):=hZ (sV HDF.out (.inr (by rw[hcc];exact fun h=>hc1 (Option.some.inj h))));clear hcc hc1;have HBN:=hZ (HB2.out rfl);have t1:(fb.toList == [49])=false:=(by rw[TB.out,HBN.out];rfl);have hz:¬f=[48]:=fun h=>(by have h9:=LA.out;rw[h]at h9;simp at h9;omega);have t0:(fa.toList == [48])=false:=(by rw[TA.out];exact beq_eq_false_iff_ne.2 hz);have HZ2:Hid (f=[48]∧(neg=true∨false=true)→False):=hZ (fun h=>hz h.1);clear hz;by_cases hl1:1000<f.length
     ·have hl2:(1000:Int)<(fa.size:Int):=(by rw[LA.out];omega);have Hl1:=hZ hl1;clear hl1;have fz:=hR3.frozen;have r0:=hR3.cell 0 rfl;have r1:=hR3.cell 1 rfl;have r2:=hR3.cell 2 rfl;go_wp2_with fail
      obtain⟨hb9,hq9⟩:=fV hR3 rfl hG3 (Nat.le_refl _);have z0:=hb9.cell 0 rfl;have z1:=hb9.cell 1 rfl;have z2:=hb9.cell 2 rfl;refine rt3 (.int .i64 3) z0 z1 z2 ?_;rw[HP.out,(nS (.inl Hl1.out) HRW.out HZ2.out (fun h=>by cases h):bC _ _ _ _=(3,0))];exact⟨_,rfl,Rq.none _,hq9⟩
     ·have hl2:¬(1000:Int)<(fa.size:Int):=(by rw[LA.out];omega);have Hl1:=hZ hl1;clear hl1;have hl3:¬(1000:Int)<(fb.size:Int):=(by rw[LB.out,HBN.out];decide);have Hl2:Hid (¬1000<b.length):=hZ (by rw[HBN.out];decide);go_wp2_with fail
      refine (lS fa _ (by rw[HFA.out];exact HRW.out.1) (by have h8:=Hl1.out;have h9:=LA.out;rw[aC];omega)).mono ?_;rintro e w4 ⟨va,rfl,hva,hq4,-⟩;have hG4:=hG3.trans hq4;have hR4:=hR3.q hq4;rw[HFA.out]at hva;go_wp2_with fail
      refine (aIQ _).mono ?_;rintro e w5 ⟨vo,rfl,hvo,hq5,-⟩;have hG5:=hG4.trans hq5;have hR5:=hR4.q hq5;have hva2:=hva.q hq5;go_wp2_with fail
      refine (aFU sg _ _ (dv f) 1 (mkQ neg (dv f) 1) _ hva2 hvo (fun _=>by decide) (by have h9:=HSG.out;cases neg<;>simp at h9<;>omega) (aFZ HSG.out) (fun h9=>by cases h9) (yN HRW.out.1 Hl1.out) (by rw[gQ aZ,aC];decide)).mono ?_;rintro e w6 ⟨v,rfl,hv,hq6⟩;have hG6:=hG5.trans hq6;have hR6:=hR5.q hq6;obtain⟨A1,n1,c1,A2,n2,c2,rfl,-⟩:=(show Rq _ _ _ from hv)
      have fz:=hR6.frozen;have r0:=hR6.cell 0 rfl;have r1:=hR6.cell 1 rfl;have r2:=hR6.cell 2 rfl;go_wp2_with fail
      obtain⟨h71,h72,h73⟩:=hv.parts;have hb9:=hR6.put (l:=[.int .i64 (sn (mkQ neg (dv f) 1)),.slice A1 n1 c1,.slice A2 n2 c2]) rfl;have hv9:=hv.ap (g:=w.heap.size) (w':=iW w6 w.heap.size 0 [.int .i64 (sn (mkQ neg (dv f) 1)),.slice A1 n1 c1,.slice A2 n2 c2]) ⟨fun k hk=>nM hk,rG,_,_,hR6,by decide,mO,fun _=>Nat.le_refl 3⟩;have hq9:=tV (i:=0) (l:=[.int .i64 (sn (mkQ neg (dv f) 1)),.slice A1 n1 c1,.slice A2 n2 c2]) hG6 (Nat.le_refl _);simp only[iW,Nat.reduceAdd]at hb9 hv9 hq9;have z0:=hb9.cell 0 rfl;have z1:=hb9.cell 1 rfl;have z2:=hb9.cell 2 rfl;refine rt3 (.int .i64 0) z0 z1 z2 ?_;rw[HP.out,(aAk HRW.out HZ2.out Hl1.out Hl2.out:bC _ _ _ _=(0,_))];exact⟨_,rfl,hv9,hq9⟩
   ·have h1:¬(1:Int)<(fa.size:Int):=(by omega);have HRW:Hid (Row f):=hZ (sV HDF.out (.inl (by rw[←LA.out];exact hl1)));have hsm:fa.size≤1:=(by omega);clear hl1;have HBN:=hZ (HB2.out rfl);have t1:(fb.toList == [49])=false:=(by rw[TB.out,HBN.out];rfl);by_cases hz:f=[48]
    ·have t0:(fa.toList == [48])=true:=(by rw[TA.out,hz];rfl);cases neg
     ·have hs9:¬sg<0:=(by have h9:=HSG.out;simp at h9;omega);have HZ2:Hid (f=[48]∧(false=true∨false=true)→False):=hZ (fun h=>by rcases h.2 with h|h<;>cases h);clear hz;have hl1:¬1000<f.length:=(by have h9:=LA.out;omega);have hl2:¬(1000:Int)<(fa.size:Int):=(by rw[LA.out];omega);have Hl1:=hZ hl1;clear hl1;have hl3:¬(1000:Int)<(fb.size:Int):=(by rw[LB.out,HBN.out];decide);have Hl2:Hid (¬1000<b.length):=hZ (by rw[HBN.out];decide);go_wp2_with fail
      refine (lS fa _ (by rw[HFA.out];exact HRW.out.1) (by have h8:=Hl1.out;have h9:=LA.out;rw[aC];omega)).mono ?_;rintro e w4 ⟨va,rfl,hva,hq4,-⟩;have hG4:=hG3.trans hq4;have hR4:=hR3.q hq4;rw[HFA.out]at hva;go_wp2_with fail
      refine (aIQ _).mono ?_;rintro e w5 ⟨vo,rfl,hvo,hq5,-⟩;have hG5:=hG4.trans hq5;have hR5:=hR4.q hq5;have hva2:=hva.q hq5;go_wp2_with fail
      refine (aFU sg _ _ (dv f) 1 (mkQ false (dv f) 1) _ hva2 hvo (fun _=>by decide) (by have h9:=HSG.out;simp at h9;omega) (aFZ HSG.out) (fun h9=>by cases h9) (yN HRW.out.1 Hl1.out) (by rw[gQ aZ,aC];decide)).mono ?_;rintro e w6 ⟨v,rfl,hv,hq6⟩;have hG6:=hG5.trans hq6;have hR6:=hR5.q hq6;obtain⟨A1,n1,c1,A2,n2,c2,rfl,-⟩:=(show Rq _ _ _ from hv)
      have fz:=hR6.frozen;have r0:=hR6.cell 0 rfl;have r1:=hR6.cell 1 rfl;have r2:=hR6.cell 2 rfl;go_wp2_with fail
      obtain⟨h71,h72,h73⟩:=hv.parts;have hb9:=hR6.put (l:=[.int .i64 (sn (mkQ false (dv f) 1)),.slice A1 n1 c1,.slice A2 n2 c2]) rfl;have hv9:=hv.ap (g:=w.heap.size) (w':=iW w6 w.heap.size 0 [.int .i64 (sn (mkQ false (dv f) 1)),.slice A1 n1 c1,.slice A2 n2 c2]) ⟨fun k hk=>nM hk,rG,_,_,hR6,by decide,mO,fun _=>Nat.le_refl 3⟩;have hq9:=tV (i:=0) (l:=[.int .i64 (sn (mkQ false (dv f) 1)),.slice A1 n1 c1,.slice A2 n2 c2]) hG6 (Nat.le_refl _);simp only[iW,Nat.reduceAdd]at hb9 hv9 hq9;have z0:=hb9.cell 0 rfl;have z1:=hb9.cell 1 rfl;have z2:=hb9.cell 2 rfl;refine rt3 (.int .i64 0) z0 z1 z2 ?_;rw[HP.out,(aAk HRW.out HZ2.out Hl1.out Hl2.out:bC _ _ _ _=(0,_))];exact⟨_,rfl,hv9,hq9⟩
     ·have hs9:sg<0:=(by have h9:=HSG.out;simp at h9;omega);have HZ:=hZ hz;clear hz;have fz:=hR3.frozen;have r0:=hR3.cell 0 rfl;have r1:=hR3.cell 1 rfl;have r2:=hR3.cell 2 rfl;go_wp2_with fail
      obtain⟨hb9,hq9⟩:=fV hR3 rfl hG3 (Nat.le_refl _);have z0:=hb9.cell 0 rfl;have z1:=hb9.cell 1 rfl;have z2:=hb9.cell 2 rfl;refine rt3 (.int .i64 6) z0 z1 z2 ?_;rw[HP.out,(xE HRW.out HZ.out (.inl rfl):bC _ _ _ _=(6,0))];exact⟨_,rfl,Rq.none _,hq9⟩
    ·have t0:(fa.toList == [48])=false:=(by rw[TA.out];exact beq_eq_false_iff_ne.2 hz);have HZ2:Hid (f=[48]∧(neg=true∨false=true)→False):=hZ (fun h=>hz h.1);clear hz;have hl1:¬1000<f.length:=(by have h9:=LA.out;omega);have hl2:¬(1000:Int)<(fa.size:Int):=(by rw[LA.out];omega);have Hl1:=hZ hl1;clear hl1;have hl3:¬(1000:Int)<(fb.size:Int):=(by rw[LB.out,HBN.out];decide);have Hl2:Hid (¬1000<b.length):=hZ (by rw[HBN.out];decide);go_wp2_with fail
     refine (lS fa _ (by rw[HFA.out];exact HRW.out.1) (by have h8:=Hl1.out;have h9:=LA.out;rw[aC];omega)).mono ?_;rintro e w4 ⟨va,rfl,hva,hq4,-⟩;have hG4:=hG3.trans hq4;have hR4:=hR3.q hq4;rw[HFA.out]at hva;go_wp2_with fail
     refine (aIQ _).mono ?_;rintro e w5 ⟨vo,rfl,hvo,hq5,-⟩;have hG5:=hG4.trans hq5;have hR5:=hR4.q hq5;have hva2:=hva.q hq5;go_wp2_with fail
     refine (aFU sg _ _ (dv f) 1 (mkQ neg (dv f) 1) _ hva2 hvo (fun _=>by decide) (by have h9:=HSG.out;cases neg<;>simp at h9<;>omega) (aFZ HSG.out) (fun h9=>by cases h9) (yN HRW.out.1 Hl1.out) (by rw[gQ aZ,aC];decide)).mono ?_;rintro e w6 ⟨v,rfl,hv,hq6⟩;have hG6:=hG5.trans hq6;have hR6:=hR5.q hq6;obtain⟨A1,n1,c1,A2,n2,c2,rfl,-⟩:=(show Rq _ _ _ from hv)
     have fz:=hR6.frozen;have r0:=hR6.cell 0 rfl;have r1:=hR6.cell 1 rfl;have r2:=hR6.cell 2 rfl;go_wp2_with fail
     obtain⟨h71,h72,h73⟩:=hv.parts;have hb9:=hR6.put (l:=[.int .i64 (sn (mkQ neg (dv f) 1)),.slice A1 n1 c1,.slice A2 n2 c2]) rfl;have hv9:=hv.ap (g:=w.heap.size) (w':=iW w6 w.heap.size 0 [.int .i64 (sn (mkQ neg (dv f) 1)),.slice A1 n1 c1,.slice A2 n2 c2]) ⟨fun k hk=>nM hk,rG,_,_,hR6,by decide,mO,fun _=>Nat.le_refl 3⟩;have hq9:=tV (i:=0) (l:=[.int .i64 (sn (mkQ neg (dv f) 1)),.slice A1 n1 c1,.slice A2 n2 c2]) hG6 (Nat.le_refl _);simp only[iW,Nat.reduceAdd]at hb9 hv9 hq9;have z0:=hb9.cell 0 rfl;have z1:=hb9.cell 1 rfl;have z2:=hb9.cell 2 rfl;refine rt3 (.int .i64 0) z0 z1 z2 ?_;rw[HP.out,(aAk HRW.out HZ2.out Hl1.out Hl2.out:bC _ _ _ _=(0,_))];exact⟨_,rfl,hv9,hq9⟩
  ·go_wp2_with fail
   refine (aFW fb _ HSZ.out.2).mono ?_;rintro e w4 ⟨rfl,hq4⟩;have hG4:=hG3.trans hq4;have hR4:=hR3.q hq4;clear hG3 hR3 hq4;rw[HFB.out];by_cases hd2:uL b=true
   ·rw[hd2];have HDB:=hZ hd2;clear hd2;by_cases hl1:1<fa.size
    ·have h1:(1:Int)<(fa.size:Int):=(by omega);have hp0:0<fa.size:=(by omega);have hcc:=aA5 HFA.out hp0;generalize hca:fa[0]'hp0=ca at*
     by_cases hc1:ca=48
     ·subst hc1;have HH:=hZ (aHx (by rw[←LA.out];exact hl1) hcc);clear hcc hl1;have fz:=hR4.frozen;have r0:=hR4.cell 0 rfl;have r1:=hR4.cell 1 rfl;have r2:=hR4.cell 2 rfl;go_wp2_with fail
      obtain⟨hb9,hq9⟩:=fV hR4 rfl hG4 (Nat.le_refl _);have z0:=hb9.cell 0 rfl;have z1:=hb9.cell 1 rfl;have z2:=hb9.cell 2 rfl;refine rt3 (.int .i64 6) z0 z1 z2 ?_;rw[HP.out,(aFY HH.out:bC _ _ _ _=(6,0))];exact⟨_,rfl,Rq.none _,hq9⟩
     ·have hn1:¬(ca.toNat:Int)=48:=fun h=>hc1 (UInt8.toNat_inj.1 (by have:(48:UInt8).toNat=48:=rfl;omega));have hn1b:((ca.toNat:Int) == 48)=false:=beq_eq_false_iff_ne.2 hn1;have HRW:Hid (Row f):=hZ (sV HDF.out (.inr (by rw[hcc];exact fun h=>hc1 (Option.some.inj h))));clear hcc hc1;have hpb:0<fb.size:=by rw[LB.out];have:=(yM.1 HDB.out).2;rcases b with _|⟨x,y⟩<;>simp at*
      have hbb:=aA5 HFB.out hpb;generalize hcb:fb[0]'hpb=cb at*
      by_cases hc2:cb=48
      ·subst hc2;have HH:=hZ (aDZ hbb);clear hbb;have fz:=hR4.frozen;have r0:=hR4.cell 0 rfl;have r1:=hR4.cell 1 rfl;have r2:=hR4.cell 2 rfl;go_wp2_with fail
       obtain⟨hb9,hq9⟩:=fV hR4 rfl hG4 (Nat.le_refl _);have z0:=hb9.cell 0 rfl;have z1:=hb9.cell 1 rfl;have z2:=hb9.cell 2 rfl;refine rt3 (.int .i64 6) z0 z1 z2 ?_;rw[HP.out,(xI HH.out:bC _ _ _ _=(6,0))];exact⟨_,rfl,Rq.none _,hq9⟩
      ·have hn2:¬(cb.toNat:Int)=48:=fun h=>hc2 (UInt8.toNat_inj.1 (by have:(48:UInt8).toNat=48:=rfl;omega));have hn2b:((cb.toNat:Int) == 48)=false:=beq_eq_false_iff_ne.2 hn2;have HBH:Hid (b.head?≠some 48):=hZ (by rw[hbb];exact fun h=>hc2 (Option.some.inj h));have HRB:Hid (Row b):=hZ (sV HDB.out (.inr HBH.out));clear hbb hc2;have hz:¬f=[48]:=fun h=>(by have h9:=LA.out;rw[h]at h9;simp at h9;omega);have t0:(fa.toList == [48])=false:=(by rw[TA.out];exact beq_eq_false_iff_ne.2 hz);have HZ:=hZ hz;clear hz;by_cases h9:b=[49]
       ·have t1:(fb.toList == [49])=true:=(by rw[TB.out,h9];rfl);have H9:=hZ h9;clear h9;have fz:=hR4.frozen;have r0:=hR4.cell 0 rfl;have r1:=hR4.cell 1 rfl;have r2:=hR4.cell 2 rfl;go_wp2_with fail
        obtain⟨hb9,hq9⟩:=fV hR4 rfl hG4 (Nat.le_refl _);have z0:=hb9.cell 0 rfl;have z1:=hb9.cell 1 rfl;have z2:=hb9.cell 2 rfl;refine rt3 (.int .i64 6) z0 z1 z2 ?_;rw[HP.out,(xI (.inr (.inr H9.out)):bC _ _ _ _=(6,0))];exact⟨_,rfl,Rq.none _,hq9⟩
       ·have t1:(fb.toList == [49])=false:=(by rw[TB.out];exact beq_eq_false_iff_ne.2 h9);have HOK:Hid (¬(¬Row b∨b=[48]∨b=[49])):=hZ (by rintro (h|h|h);exact h HRB.out;(rw[h]at HBH;exact HBH.out rfl);exact h9 h);clear h9;by_cases hl1:1000<f.length
        ·have hl2:(1000:Int)<(fa.size:Int):=(by rw[LA.out];omega);have Hl1:=hZ hl1;clear hl1;have fz:=hR4.frozen;have r0:=hR4.cell 0 rfl;have r1:=hR4.cell 1 rfl;have r2:=hR4.cell 2 rfl;go_wp2_with fail
         obtain⟨hb9,hq9⟩:=fV hR4 rfl hG4 (Nat.le_refl _);have z0:=hb9.cell 0 rfl;have z1:=hb9.cell 1 rfl;have z2:=hb9.cell 2 rfl;refine rt3 (.int .i64 3) z0 z1 z2 ?_;rw[HP.out,(nS (.inl Hl1.out) HRW.out (fun h=>HZ.out h.1) (fun _=>HOK.out):bC _ _ _ _=(3,0))];exact⟨_,rfl,Rq.none _,hq9⟩
        ·have hl2:¬(1000:Int)<(fa.size:Int):=(by rw[LA.out];omega);have Hl1:=hZ hl1;clear hl1;by_cases hl2:1000<b.length
         ·have hl3:(1000:Int)<(fb.size:Int):=(by rw[LB.out];omega);have Hl2:=hZ hl2;clear hl2;have fz:=hR4.frozen;have r0:=hR4.cell 0 rfl;have r1:=hR4.cell 1 rfl;have r2:=hR4.cell 2 rfl;go_wp2_with fail
          obtain⟨hb9,hq9⟩:=fV hR4 rfl hG4 (Nat.le_refl _);have z0:=hb9.cell 0 rfl;have z1:=hb9.cell 1 rfl;have z2:=hb9.cell 2 rfl;refine rt3 (.int .i64 3) z0 z1 z2 ?_;rw[HP.out,(nS (.inr Hl2.out) HRW.out (fun h=>HZ.out h.1) (fun _=>HOK.out):bC _ _ _ _=(3,0))];exact⟨_,rfl,Rq.none _,hq9⟩
         ·have hl3:¬(1000:Int)<(fb.size:Int):=(by rw[LB.out];omega);have Hl2:=hZ hl2;clear hl2;go_wp2_with fail
          refine (lS fa _ (by rw[HFA.out];exact HRW.out.1) (by have h8:=Hl1.out;have h9:=LA.out;rw[aC];omega)).mono ?_;rintro e w5 ⟨va,rfl,hva,hq5,-⟩;have hG5:=hG4.trans hq5;have hR5:=hR4.q hq5;rw[HFA.out]at hva;go_wp2_with fail
          refine (lS fb _ (by rw[HFB.out];exact HRB.out.1) (by have h8:=Hl2.out;have h9:=LB.out;rw[aC];omega)).mono ?_;rintro e w6 ⟨vb,rfl,hvb,hq6,-⟩;have hG6:=hG5.trans hq6;have hR6:=hR5.q hq6;rw[HFB.out]at hvb;have hva2:=hva.q hq6;go_wp2_with fail
          refine (aAp _ _ (dv f) (dv b) _ hva2 hvb (xJ HRB.out (fun h=>HOK.out (.inr (.inl h)))) (yN HRW.out.1 Hl1.out) (yN HRB.out.1 Hl2.out)).mono ?_;rintro e w7 ⟨vd,rfl,hvd,hq7⟩;have hG7:=hG6.trans hq7;have hR7:=hR6.q hq7;have hva3:=hva2.q hq7;have hvb3:=hvb.q hq7;by_cases hg:Nat.gcd (dv f) (dv b)=1
          ·have d1:decide (Nat.gcd (dv f) (dv b)=1)=true:=decide_eq_true hg;have HGC:=hZ hg;clear hg;go_wp2_with fail
           refine (lQ _ (Nat.gcd (dv f) (dv b)) true _ hvd d1).mono ?_;rintro e w9 ⟨rfl,rfl⟩;obtain⟨A1,n1,c1,rfl⟩:=Nr.form hva3;obtain⟨A2,n2,c2,rfl⟩:=Nr.form hvb3;have fz:=hR7.frozen;have r0:=hR7.cell 0 rfl;have r1:=hR7.cell 1 rfl;have r2:=hR7.cell 2 rfl;go_wp2_with fail
           obtain⟨e1,e2,e3⟩:=aHy HSG.out (xJ HRW.out HZ.out) (xJ HRB.out (fun h=>HOK.out (.inr (.inl h)))) HGC.out;obtain⟨hb9,hv9,hq9⟩:=qC hR7 rfl mO hva3 hvb3 e1 e2 e3 hG7 (Nat.le_refl _);have z0:=hb9.cell 0 rfl;have z1:=hb9.cell 1 rfl;have z2:=hb9.cell 2 rfl;refine rt3 (.int .i64 0) z0 z1 z2 ?_;rw[HP.out,(aDk HRW.out (fun h=>HZ.out h.1) HOK.out Hl1.out Hl2.out HGC.out:bC _ _ _ _=(0,_))];exact⟨_,rfl,hv9,hq9⟩
          ·have d1:decide (Nat.gcd (dv f) (dv b)=1)=false:=decide_eq_false hg;have HGC:=hZ hg;clear hg;go_wp2_with fail
           refine (lQ _ (Nat.gcd (dv f) (dv b)) false _ hvd d1).mono ?_;rintro e w9 ⟨rfl,rfl⟩;have fz:=hR7.frozen;have r0:=hR7.cell 0 rfl;have r1:=hR7.cell 1 rfl;have r2:=hR7.cell 2 rfl;go_wp2_with fail
           obtain⟨hb9,hq9⟩:=fV hR7 rfl hG7 (Nat.le_refl _);have z0:=hb9.cell 0 rfl;have z1:=hb9.cell 1 rfl;have z2:=hb9.cell 2 rfl;refine rt3 (.int .i64 6) z0 z1 z2 ?_;rw[HP.out,(aFP HRW.out (fun h=>HZ.out h.1) HOK.out Hl1.out Hl2.out HGC.out:bC _ _ _ _=(6,0))];exact⟨_,rfl,Rq.none _,hq9⟩
    ·have h1:¬(1:Int)<(fa.size:Int):=(by omega);have HRW:Hid (Row f):=hZ (sV HDF.out (.inl (by rw[←LA.out];exact hl1)));have hsm:fa.size≤1:=(by omega);clear hl1;have hpb:0<fb.size:=by rw[LB.out];have:=(yM.1 HDB.out).2;rcases b with _|⟨x,y⟩<;>simp at*
     have hbb:=aA5 HFB.out hpb;generalize hcb:fb[0]'hpb=cb at*
     by_cases hc2:cb=48
     ·subst hc2;have HH:=hZ (aDZ hbb);clear hbb;have fz:=hR4.frozen;have r0:=hR4.cell 0 rfl;have r1:=hR4.cell 1 rfl;have r2:=hR4.cell 2 rfl;go_wp2_with fail
      obtain⟨hb9,hq9⟩:=fV hR4 rfl hG4 (Nat.le_refl _);have z0:=hb9.cell 0 rfl;have z1:=hb9.cell 1 rfl;have z2:=hb9.cell 2 rfl;refine rt3 (.int .i64 6) z0 z1 z2 ?_;rw[HP.out,(xI HH.out:bC _ _ _ _=(6,0))];exact⟨_,rfl,Rq.none _,hq9⟩
     ·have hn2:¬(cb.toNat:Int)=48:=fun h=>hc2 (UInt8.toNat_inj.1 (by have:(48:UInt8).toNat=48:=rfl;omega));have hn2b:((cb.toNat:Int) == 48)=false:=beq_eq_false_iff_ne.2 hn2;have HBH:Hid (b.head?≠some 48):=hZ (by rw[hbb];exact fun h=>hc2 (Option.some.inj h));have HRB:Hid (Row b):=hZ (sV HDB.out (.inr HBH.out));clear hbb hc2;by_cases hz:f=[48]
      ·have t0:(fa.toList == [48])=true:=(by rw[TA.out,hz];rfl);have HZ:=hZ hz;clear hz;cases neg
       ·have hs9:¬sg<0:=(by have h9:=HSG.out;simp at h9;omega);have fz:=hR4.frozen;have r0:=hR4.cell 0 rfl;have r1:=hR4.cell 1 rfl;have r2:=hR4.cell 2 rfl;go_wp2_with fail
        obtain⟨hb9,hq9⟩:=fV hR4 rfl hG4 (Nat.le_refl _);have z0:=hb9.cell 0 rfl;have z1:=hb9.cell 1 rfl;have z2:=hb9.cell 2 rfl;refine rt3 (.int .i64 6) z0 z1 z2 ?_;rw[HP.out,(xE HRW.out HZ.out (.inr rfl):bC _ _ _ _=(6,0))];exact⟨_,rfl,Rq.none _,hq9⟩
       ·have hs9:sg<0:=(by have h9:=HSG.out;simp at h9;omega);have fz:=hR4.frozen;have r0:=hR4.cell 0 rfl;have r1:=hR4.cell 1 rfl;have r2:=hR4.cell 2 rfl;go_wp2_with fail
        obtain⟨hb9,hq9⟩:=fV hR4 rfl hG4 (Nat.le_refl _);have z0:=hb9.cell 0 rfl;have z1:=hb9.cell 1 rfl;have z2:=hb9.cell 2 rfl;refine rt3 (.int .i64 6) z0 z1 z2 ?_;rw[HP.out,(xE HRW.out HZ.out (.inl rfl):bC _ _ _ _=(6,0))];exact⟨_,rfl,Rq.none _,hq9⟩
      ·have t0:(fa.toList == [48])=false:=(by rw[TA.out];exact beq_eq_false_iff_ne.2 hz);have HZ:=hZ hz;clear hz;by_cases h9:b=[49]
       ·have t1:(fb.toList == [49])=true:=(by rw[TB.out,h9];rfl);have H9:=hZ h9;clear h9;have fz:=hR4.frozen;have r0:=hR4.cell 0 rfl;have r1:=hR4.cell 1 rfl;have r2:=hR4.cell 2 rfl;go_wp2_with fail
        obtain⟨hb9,hq9⟩:=fV hR4 rfl hG4 (Nat.le_refl _);have z0:=hb9.cell 0 rfl;have z1:=hb9.cell 1 rfl;have z2:=hb9.cell 2 rfl;refine rt3 (.int .i64 6) z0 z1 z2 ?_;rw[HP.out,(xI (.inr (.inr H9.out)):bC _ _ _ _=(6,0))];exact⟨_,rfl,Rq.none _,hq9⟩
       ·have t1:(fb.toList == [49])=false:=(by rw[TB.out];exact beq_eq_false_iff_ne.2 h9);have HOK:Hid (¬(¬Row b∨b=[48]∨b=[49])):=hZ (by rintro (h|h|h);exact h HRB.out;(rw[h]at HBH;exact HBH.out rfl);exact h9 h);clear h9;have hl1:¬1000<f.length:=(by have h9:=LA.out;omega);have hl2:¬(1000:Int)<(fa.size:Int):=(by rw[LA.out];omega);have Hl1:=hZ hl1;clear hl1;by_cases hl2:1000<b.length
        ·have hl3:(1000:Int)<(fb.size:Int):=(by rw[LB.out];omega);have Hl2:=hZ hl2;clear hl2;have fz:=hR4.frozen;have r0:=hR4.cell 0 rfl;have r1:=hR4.cell 1 rfl;have r2:=hR4.cell 2 rfl;go_wp2_with fail
         obtain⟨hb9,hq9⟩:=fV hR4 rfl hG4 (Nat.le_refl _);have z0:=hb9.cell 0 rfl;have z1:=hb9.cell 1 rfl;have z2:=hb9.cell 2 rfl;refine rt3 (.int .i64 3) z0 z1 z2 ?_;rw[HP.out,(nS (.inr Hl2.out) HRW.out (fun h=>HZ.out h.1) (fun _=>HOK.out):bC _ _ _ _=(3,0))];exact⟨_,rfl,Rq.none _,hq9⟩
        ·have hl3:¬(1000:Int)<(fb.size:Int):=(by rw[LB.out];omega);have Hl2:=hZ hl2;clear hl2;go_wp2_with fail
         refine (lS fa _ (by rw[HFA.out];exact HRW.out.1) (by have h8:=Hl1.out;have h9:=LA.out;rw[aC];omega)).mono ?_;rintro e w5 ⟨va,rfl,hva,hq5,-⟩;have hG5:=hG4.trans hq5;have hR5:=hR4.q hq5;rw[HFA.out]at hva;go_wp2_with fail
         refine (lS fb _ (by rw[HFB.out];exact HRB.out.1) (by have h8:=Hl2.out;have h9:=LB.out;rw[aC];omega)).mono ?_;rintro e w6 ⟨vb,rfl,hvb,hq6,-⟩;have hG6:=hG5.trans hq6;have hR6:=hR5.q hq6;rw[HFB.out]at hvb;have hva2:=hva.q hq6;go_wp2_with fail
         refine (aAp _ _ (dv f) (dv b) _ hva2 hvb (xJ HRB.out (fun h=>HOK.out (.inr (.inl h)))) (yN HRW.out.1 Hl1.out) (yN HRB.out.1 Hl2.out)).mono ?_;rintro e w7 ⟨vd,rfl,hvd,hq7⟩;have hG7:=hG6.trans hq7;have hR7:=hR6.q hq7;have hva3:=hva2.q hq7;have hvb3:=hvb.q hq7;by_cases hg:Nat.gcd (dv f) (dv b)=1
         ·have d1:decide (Nat.gcd (dv f) (dv b)=1)=true:=decide_eq_true hg;have HGC:=hZ hg;clear hg;go_wp2_with fail
          refine (lQ _ (Nat.gcd (dv f) (dv b)) true _ hvd d1).mono ?_;rintro e w9 ⟨rfl,rfl⟩;obtain⟨A1,n1,c1,rfl⟩:=Nr.form hva3;obtain⟨A2,n2,c2,rfl⟩:=Nr.form hvb3;have fz:=hR7.frozen;have r0:=hR7.cell 0 rfl;have r1:=hR7.cell 1 rfl;have r2:=hR7.cell 2 rfl;go_wp2_with fail
          obtain⟨e1,e2,e3⟩:=aHy HSG.out (xJ HRW.out HZ.out) (xJ HRB.out (fun h=>HOK.out (.inr (.inl h)))) HGC.out;obtain⟨hb9,hv9,hq9⟩:=qC hR7 rfl mO hva3 hvb3 e1 e2 e3 hG7 (Nat.le_refl _);have z0:=hb9.cell 0 rfl;have z1:=hb9.cell 1 rfl;have z2:=hb9.cell 2 rfl;refine rt3 (.int .i64 0) z0 z1 z2 ?_;rw[HP.out,(aDk HRW.out (fun h=>HZ.out h.1) HOK.out Hl1.out Hl2.out HGC.out:bC _ _ _ _=(0,_))];exact⟨_,rfl,hv9,hq9⟩
         ·have d1:decide (Nat.gcd (dv f) (dv b)=1)=false:=decide_eq_false hg;have HGC:=hZ hg;clear hg;go_wp2_with fail
          refine (lQ _ (Nat.gcd (dv f) (dv b)) false _ hvd d1).mono ?_;rintro e w9 ⟨rfl,rfl⟩;have fz:=hR7.frozen;have r0:=hR7.cell 0 rfl;have r1:=hR7.cell 1 rfl;have r2:=hR7.cell 2 rfl;go_wp2_with fail
          obtain⟨hb9,hq9⟩:=fV hR7 rfl hG7 (Nat.le_refl _);have z0:=hb9.cell 0 rfl;have z1:=hb9.cell 1 rfl;have z2:=hb9.cell 2 rfl;refine rt3 (.int .i64 6) z0 z1 z2 ?_;rw[HP.out,(aFP HRW.out (fun h=>HZ.out h.1) HOK.out Hl1.out Hl2.out HGC.out:bC _ _ _ _=(6,0))];exact⟨_,rfl,Rq.none _,hq9⟩
   ·rw[Bool.not_eq_true]at hd2;rw[hd2];have HD2:=hZ hd2;clear hd2;have fz:=hR4.frozen;have r0:=hR4.cell 0 rfl;have r1:=hR4.cell 1 rfl;have r2:=hR4.cell 2 rfl;go_wp2_with fail
    obtain⟨hb9,hq9⟩:=fV hR4 rfl hG4 (Nat.le_refl _);have z0:=hb9.cell 0 rfl;have z1:=hb9.cell 1 rfl;have z2:=hb9.cell 2 rfl;refine rt3 (.int .i64 6) z0 z1 z2 ?_;rw[HP.out,(xI (.inl (aKN HD2.out)):bC _ _ _ _=(6,0))];exact⟨_,rfl,Rq.none _,hq9⟩
 ·rw[Bool.not_eq_true]at hd;rw[hd];have HD:=hZ hd;clear hd;have fz:=hR3.frozen;have r0:=hR3.cell 0 rfl;have r1:=hR3.cell 1 rfl;have r2:=hR3.cell 2 rfl;go_wp2_with fail
  obtain⟨hb9,hq9⟩:=fV hR3 rfl hG3 (Nat.le_refl _);have z0:=hb9.cell 0 rfl;have z1:=hb9.cell 1 rfl;have z2:=hb9.cell 2 rfl;refine rt3 (.int .i64 6) z0 z1 z2 ?_;rw[HP.out,(aFY (aKN HD.out):bC _ _ _ _=(6,0))];exact⟨_,rfl,Rq.none _,hq9⟩
end Go.Proofs.YthjhkhlafhjjmaaGreatDoor.K
namespace Go.Proofs.YthjhkhlafhjjmaaGreatDoor.E
open Go Go.RowKit
open Ma Me K
noncomputable section
def aX:Nat:=1000000000
def dG:Nat:=2000000
theorem aQ4{a b:Nat}(ha:0<a)(hb:0<b)(h:bt a=bt b):a=b:=by
 unfold bt at h;split at h<;>split at h<;>omega
theorem aBJ{p q:Rat}(h:aP p=aP q):p=q:=by
 unfold aP at h;injection h with h1 h;injection h with h2 h;injection h with h3 _;injection h1 with h1;injection h2 with h2;injection h3 with h3;refine Rat.ext ?_ (aQ4 p.den_pos q.den_pos h3);have h1:=decide_eq_decide.1 h1;omega
theorem aKO{p q r t:Rat}(h:aP p++aP q=aP r++aP t):p=r∧q=t:=by
 obtain⟨h1,h2⟩:=List.append_inj h rfl;exact⟨aBJ h1,aBJ h2⟩
open Classical in
def oP{α:Type}(v:AV)(k:Rat→Option α):Option α:=if h:∃q,v=nm q∧Ma.sz q≤aX then k (Classical.choose h) else none
open Classical in
def uM{α:Type}(v:AV)(k:Rat→Rat→Option α):Option α:=if h:∃p:Rat × Rat,v=sp p.1 p.2∧Ma.sz p.1≤dG∧Ma.sz p.2≤dG then k (Classical.choose h).1 (Classical.choose h).2 else none
theorem aA6{α:Type}{q:Rat}{k:Rat→Option α}(hs:Ma.sz q≤aX):oP (nm q) k=k q:=by
 have h:∃p,nm q=nm p∧Ma.sz p≤aX:=⟨q,rfl,hs⟩
 unfold oP;rw[dif_pos h];have h1:=(Classical.choose_spec h).1;unfold nm at h1;injection h1 with _ h1;exact congrArg k (aBJ h1).symm
theorem vP{α:Type}{v:AV}{k:Rat→Option α}{y:α}(h:oP v k=some y):∃q,v=nm q∧Ma.sz q≤aX∧k q=some y:=by
 unfold oP at h;split at h
 ·rename_i hx;exact⟨_,(Classical.choose_spec hx).1,(Classical.choose_spec hx).2,h⟩
 ·cases h
theorem aDr{α:Type}{p q:Rat}{k:Rat→Rat→Option α}(hp:Ma.sz p≤dG)(hq:Ma.sz q≤dG):uM (sp p q) k=k p q:=by
 have h:∃r:Rat × Rat,sp p q=sp r.1 r.2∧Ma.sz r.1≤dG∧Ma.sz r.2≤dG:=⟨(p,q),rfl,hp,hq⟩
 unfold uM;rw[dif_pos h];have h1:=(Classical.choose_spec h).1;unfold sp at h1;injection h1 with _ h1;obtain⟨h2,h3⟩:=aKO h1;exact (congrArg (fun a=>k a (Classical.choose h).2) h2.symm).trans (congrArg (fun a=>k p a) h3.symm)
theorem aAr{α:Type}{v:AV}{k:Rat→Rat→Option α}{y:α}(h:uM v k=some y):∃p q,v=sp p q∧Ma.sz p≤dG∧Ma.sz q≤dG∧k p q=some y:=by
 unfold uM at h;split at h
 ·rename_i hx;exact⟨_,_,(Classical.choose_spec hx).1,(Classical.choose_spec hx).2.1,(Classical.choose_spec hx).2.2,h⟩
 ·cases h
theorem aHz{c:Cx}{p q:Rat}{u:Value}:VR c (sp p q) u↔Ns c.w u p q:=by
 constructor
 ·rintro⟨cs,rfl,h⟩
  match cs,h with
  | [x1,x2,x3,y1,y2,y3],h=>
    obtain⟨h1,h2,h3,h4,h5,h6,-⟩:=h;cases h1;cases h4;obtain⟨A1,c1,e1,-⟩:=Me.Nm.parts (w:=c.w) h2;obtain⟨A2,c2,e2,-⟩:=Me.Nm.parts (w:=c.w) h3;obtain⟨A3,c3,e3,-⟩:=Me.Nm.parts (w:=c.w) h5;obtain⟨A4,c4,e4,-⟩:=Me.Nm.parts (w:=c.w) h6;subst e1;subst e2;subst e3;subst e4;exact⟨_,_,_,_,_,_,_,_,_,_,_,_,_,_,rfl,⟨_,_,rfl,h2,h3⟩,⟨_,_,rfl,h5,h6⟩⟩
 ·rintro⟨s1,A1,n1,c1,A2,n2,c2,s2,A3,n3,c3,A4,n4,c4,rfl,⟨t1,b1,e1,h1,h2⟩,⟨t2,b2,e2,h3,h4⟩⟩;injection e1 with e1;injection e1 with e1;injection e1 with e1 e1';injection e1' with e2' e3';injection e3' with e3' _;injection e2 with e2;injection e2 with e2;injection e2 with e4 e5;injection e5 with e5 e6;injection e6 with e6 _;subst e2';subst e3';subst e5;subst e6;exact⟨[_,_,_,_,_,_],rfl,e1,h1,h2,e4,h3,h4,trivial⟩
def o1(f:Rat→AV)(l:List AV):Option AV:=match l with| [x]=>oP x fun p=>some (f p)|_=>none
def o2(f:Rat→Rat→AV)(l:List AV):Option AV:=match l with| [x,y]=>oP x fun p=>oP y fun q=>some (f p q)|_=>none
def s2(f:Rat→Rat→Rat→Rat→AV)(l:List AV):Option AV:=match l with| [x,y]=>uM x fun p q=>uM y fun r t=>some (f p q r t)|_=>none
def inR(n:Int):Bool:=decide (-9223372036854775808≤n) && decide (n≤9223372036854775807)
def aMI(l:List AV):Option AV:=match l with| [x]=>int x fun n=>cb (inR n) (some (nm (n:Rat))) none|_=>none
def aF0(l:List AV):Option AV:=match l with| [x,y]=>int x fun a=>int y fun b=>cb (inR a) (cb (inR b) (some (.t [(true,aP (jJ a b).2),(false,[.i .i64 (jJ a b).1])])) none) none|_=>none
def aIU(l:List AV):Option AV:=match l with| [x,y]=>uM x fun p q=>oP y fun r=>some (sc (.b (decide (aW p q≤r∧r≤aR p q))))|_=>none
def aCI(l:List AV):Option AV:=match l with| [.c false [.s l]]=>cb (okS l) (some (.t [(true,aP (dE (by8 l)).2),(false,[.i .i64 (dE (by8 l)).1])])) none|_=>none
def vQ(l:List AV):Option AV:=match l with| [.c false [.s l]]=>cb (okS l) (some (.t [(true,[.i .i64 (sn (dE (by8 l)).2),.o,.o]),(false,[.i .i64 (dE (by8 l)).1])])) none|_=>none
theorem aNp{f:Rat→AV}{p:Rat}(h1:Ma.sz p≤aX):o1 f [nm p]=some (f p):=aA6 (k:=fun p=>some (f p)) h1
theorem aCJ{f:Rat→Rat→AV}{p q:Rat}(h1:Ma.sz p≤aX)(h2:Ma.sz q≤aX):o2 f [nm p,nm q]=some (f p q):=(aA6 (k:=fun p=>oP (nm q) fun q=>some (f p q)) h1).trans (aA6 (k:=fun q=>some (f p q)) h2)
theorem aNq{f:Rat→Rat→Rat→Rat→AV}{p q r t:Rat}(h1:Ma.sz p≤dG)(h2:Ma.sz q≤dG)(h3:Ma.sz r≤dG)(h4:Ma.sz t≤dG):s2 f [sp p q,sp r t]=some (f p q r t):=(aDr (k:=fun p q=>uM (sp r t) fun r t=>some (f p q r t)) h1 h2).trans (aDr (k:=fun r t=>some (f p q r t)) h3 h4)
theorem aOV{p q r:Rat}(h1:Ma.sz p≤dG)(h2:Ma.sz q≤dG)(h3:Ma.sz r≤aX):aIU [sp p q,nm r]=some (sc (.b (decide (aW p q≤r∧r≤aR p q)))):=(aDr (k:=fun p q=>oP (nm r) fun r=>some (sc (.b (decide (aW p q≤r∧r≤aR p q))))) h1 h2).trans (aA6 (k:=fun r=>some (sc (.b (decide (aW p q≤r∧r≤aR p q))))) h3)
def gs:List (Nat × (List AV→Option AV)):=
 [(18,o2 fun p q=>nm (p+q)),
  (38,o2 fun p q=>nm (p-q)),
  (21,o2 fun p q=>nm (p*q)),
  (39,o2 fun p q=>nm (aR p q)),
  (20,o2 fun p q=>sc (.i .i64 (rc p q))),
  (40,o1 fun p=>sc (.i .i64 (sn p))),
  (44,o1 fun p=>sp p p),
  (42,s2 fun p q r t=>sp (aW p q+aW r t) (aR p q+aR r t)),
  (43,s2 fun p q r t=>sp (eQ (aW p q) (aR p q) (aW r t) (aR r t)) (eU (aW p q) (aR p q) (aW r t) (aR r t))),
  (22,aIU),
  (19,aMI),
  (15,aF0),
  (34,aCI),
  (35,vQ)]
def gT:T 3 (List AV→Option AV):=T.ofL gs
def aCK(_:H)(l:List AV):Option AV:=match l with| []=>some (sc (.b true))|_=>none
def phA(f:Nat):Option (H→List AV→Option AV):=cb (Nat.beq f 6) (some aCK) none
def aMJ(W0:World)(t:Nat)(a:Addr):Option AV:=cb (Nat.beq t 57) (match W0.cell? a with|some (.string s)=>some (sc (.s (bytes s)))|_=>none) none
def F2(W0:World):Cf:=⟨Tryz.prog,fun w=>Tb w∧Px w∧Q W0 w,34,fun f=>gT.get f,aIn,phA,aMJ W0,fun _=>none⟩
def GOk(fn:Nat)(g:List AV→Option AV):Prop:=∀(args:List AV) (v:AV),g args=some v→∀(c:Cx) (vs:List Value),Tb c.w→Px c.w→VL c args vs→
 Calls Tryz.prog fn vs.toArray c.w fun e w'=>∃u,e=.returned u∧Q c.w w'∧VR ⟨c.n,c.k,c.r,w',c.z⟩ v u
def Wl(v:AV):Prop:=∀(c d:Cx) (u:Value),c.w=d.w→VR c v u→VR d v u
theorem wN{q:Rat}:Wl (nm q):=fun _ _ _ h k=>jS.2 (h▸jS.1 k)
theorem wS{p q:Rat}:Wl (sp p q):=fun _ _ _ h k=>aHz.2 (h▸aHz.1 k)
theorem wI{n:Int}:Wl (sc (.i .i64 n)):=fun c _ u _ k=>aJ.2 (show u=.int .i64 n from (aJ (c:=c)).1 k)
theorem wB{b:Bool}:Wl (sc (.b b)):=fun c _ u _ k=>aJ.2 (show u=.bool b from (aJ (c:=c)).1 k)
theorem toG{fn:Nat}{args:List AV}{vs:List Value}{v:AV}{c:Cx}(hw:Wl v)(hx:Fc (FN true) fn args v)(hT:Tb c.w)(ha:∀d:Cx,d.w=c.w→VL d args vs):Calls Tryz.prog fn vs.toArray c.w fun e w'=>∃u,e=.returned u∧Q c.w w'∧VR ⟨c.n,c.k,c.r,w',c.z⟩ v u:=by
 refine (toF hx (fun _=>hT) ha).mono ?_;rintro e w' ⟨u,d,rfl,hq,rfl,hv⟩;exact⟨u,rfl,hq,hw d _ _ rfl hv⟩
theorem g1{fn:Nat}{f:Rat→AV}(hw:∀p,Wl (f p))(h:∀p,Ma.sz p≤aX→Fc (FN true) fn [nm p] (f p)):GOk fn (o1 f):=by
 intro args v hx c vs hT hP hv
 match args,vs,hx,hv with
 | [x],[u],hx,hv=>
   obtain⟨q,rfl,h1,h2⟩:=vP (show oP x (fun p=>some (f p))=some v from hx);injection h2 with h2;subst h2;exact toG (vs:=[u]) (hw q) (h q h1) hT (vl1 (jS.1 hv.1))
theorem g2{fn:Nat}{f:Rat→Rat→AV}(hw:∀p q,Wl (f p q))(h:∀p q,Ma.sz p≤aX→Ma.sz q≤aX→Fc (FN true) fn [nm p,nm q] (f p q)):GOk fn (o2 f):=by
 intro args v hx c vs hT hP hv
 match args,vs,hx,hv with
 | [x,y],[u,u2],hx,hv=>
   obtain⟨p,rfl,h1,h2⟩:=vP (show oP x (fun p=>oP y fun q=>some (f p q))=some v from hx);obtain⟨q,rfl,h3,h4⟩:=vP h2;injection h4 with h4;subst h4;exact toG (vs:=[u,u2]) (hw p q) (h p q h1 h3) hT (vl2 (jS.1 hv.1) (jS.1 hv.2.1))
theorem g3{fn:Nat}{f:Rat→Rat→Rat→Rat→AV}(hw:∀p q r t,Wl (f p q r t))(h:∀p q r t,Ma.sz p≤dG→Ma.sz q≤dG→Ma.sz r≤dG→Ma.sz t≤dG→Fc (FN true) fn [sp p q,sp r t] (f p q r t)):GOk fn (s2 f):=by
 intro args v hx c vs hT hP hv
 match args,vs,hx,hv with
 | [x,y],[u,u2],hx,hv=>
   obtain⟨p,q,rfl,h1,h2,h3⟩:=aAr (show uM x (fun p q=>uM y fun r t=>some (f p q r t))=some v from hx);obtain⟨r,t,rfl,h4,h5,h6⟩:=aAr h3;injection h6 with h6;subst h6;exact toG (vs:=[u,u2]) (hw p q r t) (h p q r t h1 h2 h4 h5) hT fun d hd=>⟨wS _ _ _ hd.symm hv.1,wS _ _ _ hd.symm hv.2.1,trivial⟩
theorem xK{n:Int}(h:inR n=true):-9223372036854775808≤n∧n≤9223372036854775807:=by
 obtain⟨h1,h2⟩:=(Bool.and_eq_true _ _).mp h;exact⟨of_decide_eq_true h1,of_decide_eq_true h2⟩
theorem aSe:GOk 19 aMI:=by
 intro args v hx c vs hT hP hv
 match args,vs,hx,hv with
 | [x],[u],hx,hv=>
   obtain⟨n,rfl,h0⟩:=uJ (show int x (fun n=>cb (inR n) (some (nm (n:Rat))) none)=some v from hx);obtain⟨h1,h2⟩:=aH.1 h0;injection h2 with h2;subst h2;have hu:u=.int .i64 n:=aJ.1 hv.1;subst hu;exact toG (vs:=[.int .i64 n]) wN (aID (xK h1).1 (xK h1).2) hT fun _ _=>⟨aJ.2 rfl,trivial⟩
theorem aOW:GOk 15 aF0:=by
 intro args v hx c vs hT hP hv
 match args,vs,hx,hv with
 | [x,y],[u,u2],hx,hv=>
   obtain⟨a,rfl,h0⟩:=uJ (show int x (fun a=>int y fun b=>cb (inR a) (cb (inR b) (some (.t [(true,aP (jJ a b).2),(false,[.i .i64 (jJ a b).1])])) none) none)=some v from hx);obtain⟨b,rfl,h0⟩:=uJ h0;obtain⟨h1,h0⟩:=aH.1 h0;obtain⟨h2,h0⟩:=aH.1 h0;have hu:u=.int .i64 a:=aJ.1 hv.1;have hu2:u2=.int .i64 b:=aJ.1 hv.2.1;subst hu;subst hu2;exact aCG (q:=jJ a b) (by rw[←h0];unfold er;rw[xG]) (aOD a b c.w hT (xK h1).1 (xK h1).2 (xK h2).1 (xK h2).2)
theorem aSf:GOk 22 aIU:=by
 intro args v hx c vs hT hP hv
 match args,vs,hx,hv with
 | [x,y],[u,u2],hx,hv=>
   obtain⟨p,q,rfl,h1,h2,h3⟩:=aAr (show uM x (fun p q=>oP y fun r=>some (sc (.b (decide (aW p q≤r∧r≤aR p q)))))=some v from hx);obtain⟨r,rfl,h4,h5⟩:=vP h3;injection h5 with h5;subst h5;exact toG (vs:=[u,u2]) wB (aKJ (by rw[aC];unfold aX at h4;unfold dG at h1 h2;omega)) hT fun d hd=>⟨wS _ _ _ hd.symm hv.1,wN _ _ _ hd.symm hv.2.1,trivial⟩
theorem aKP{s:ByteArray}{l:List Nat}(h:bytes s=l)(hk:okS l=true):s.size≤9223372036854775806:=by
 have:=(lK h).2;have:=bV.1 hk;omega
theorem aOX:GOk 34 aCI:=by
 intro args v hx c vs hT hP hv;unfold aCI at hx;split at hx
 ·rename_i l
  match vs,hv with
  | [u],hv=>
    obtain⟨s,rfl,hs⟩:=aJ.1 (show VR c (sc (.s l)) u from hv.1);obtain⟨h1,h2⟩:=aH.1 hx;have e:=(lK hs).1;rw[e]at h2;exact aCG (by rw[←h2];unfold er;rw[xG]) (aHm s c.w hT (aKP hs h1))
 ·cases hx
theorem aIV:GOk 35 vQ:=by
 intro args v hx c vs hT hP hv;unfold vQ at hx;split at hx
 ·rename_i l
  match vs,hv with
  | [u],hv=>
    obtain⟨s,rfl,hs⟩:=aJ.1 (show VR c (sc (.s l)) u from hv.1);obtain⟨h1,h2⟩:=aH.1 hx;have e:=(lK hs).1;rw[e]at h2;injection h2 with h2;subst h2;refine (aOU s c.w (aKP hs h1)).mono ?_;rintro e w' ⟨r,k1,⟨A1,n1,c1,A2,n2,c2,rfl,-⟩,k3⟩;exact⟨_,k1,k3,[_,_],rfl,⟨[_,_,_],rfl,rfl,⟨_,_,_,rfl⟩,⟨_,_,_,rfl⟩,trivial⟩,⟨_,rfl,rfl⟩,trivial⟩
 ·cases hx
theorem aSg:∀p∈gs,GOk p.1 p.2:=by
 unfold gs;simp only[List.forall_mem_cons];have b1:(1099511627776:Nat)=LIM:=aC.symm;have b2:(1000000000:Nat)=aX:=rfl;have b3:(2000000:Nat)=dG:=rfl;refine⟨g2 (fun _ _=>wN) fun p q h1 h2=>aCC (by omega),g2 (fun _ _=>wN) fun p q h1 h2=>aNi (by omega),g2 (fun _ _=>wN) fun p q h1 h2=>kF (by omega),g2 (fun _ _=>wN) fun p q h1 h2=>aNh (by omega),g2 (fun _ _=>wI) fun p q h1 h2=>yJ (by omega),g1 (fun _=>wI) fun p h1=>aCD,g1 (fun _=>wS) fun p h1=>aOQ (by omega),g3 (fun _ _ _ _=>wS) fun p q r t h1 h2 h3 h4=>aKK (by omega),g3 (fun _ _ _ _=>wS) fun p q r t h1 h2 h3 h4=>aKL (by omega),?_⟩;exact⟨aSf,aSe,aOW,aOX,aIV,fun x hx=>by cases hx⟩
theorem aSh(W0:World):aLC (F2 W0):=by
 intro t a v hx c hb;obtain⟨h1,h2⟩:=aH.1 (show cb (Nat.beq t 57) (match W0.cell? a with|some (.string s)=>some (sc (.s (bytes s)))|_=>none) none=some v from hx);have h1:=aY.1 h1;subst h1;split at h2
 ·rename_i s hc;injection h2 with h2;subst h2;have hc2:c.w.cell? a=some (.string s):=by
   refine (hb.2.2.cell ?_).trans hc;rcases Nat.lt_or_ge a.block W0.heap.size with h|h
   ·exact h
   ·unfold World.cell? at hc;rw[Array.getElem?_eq_none h]at hc;cases hc
  refine⟨.string s,?_,aJ.2 ⟨s,rfl,rfl⟩⟩;have hi:Ty Tryz.prog 57 _:=bM (F:=F2 W0) (i:=⟨.str,1,16,[.s []]⟩) (by kernel_rfl);unfold loadVar;rw[show (F2 W0).P=Tryz.prog from rfl,Sem.run_bind,aAJ hi c.w];simp[Dk.ag,run_load,hc2]
 ·cases h2
theorem f2(W0:World):FOk (F2 W0):=by
 refine⟨f0.ng,fun _ _ hq h=>⟨h.1.q hq,h.2.1.q hq,h.2.2.trans hq⟩,fun fn g args v hg hx c vs hb hv=>aSg _ (aAT (show (T.ofL gs:T 3 _).get fn=some g from hg)) args v hx c vs hb.1 hb.2.1 hv,aSh W0,fun _ _ h=>(by cases h),fun fn g h args v hg hx c wb vs R hz hb ha=>?_⟩;obtain⟨h1,h2⟩:=aH.1 (show cb (Nat.beq fn 6) (some aCK) none=some g from hg);have h1:=aY.1 h1;injection h2 with h2;subst h1;subst h2;unfold aCK at hx;split at hx
 ·injection hx with hx;subst hx
  match vs,ha with
  | [],_=>
    refine (aKH c.w hb.1 hb.2.1).mono ?_;rintro e w' ⟨h1,h2⟩;exact⟨_,h1,h2,aJ.2 rfl⟩
 ·cases hx
end
end Go.Proofs.YthjhkhlafhjjmaaGreatDoor.E
namespace Go.Proofs.YthjhkhlafhjjmaaGreatDoor.E
open Go Go.RowKit
open Ma Me K
section
variable {W0:World}
theorem tiI:(F2 W0).ti 3=some ⟨.int .i64,1,8,[.i .i64 0]⟩:=by kernel_rfl
theorem aNr:(F2 W0).ti 2=some ⟨.int .i64,1,8,[.i .i64 0]⟩:=by kernel_rfl
theorem tiL:(F2 W0).ti 25=some ⟨.sl 36,1,24,[.ns]⟩:=by kernel_rfl
theorem tiN:(F2 W0).ti 36=some ⟨.st [(0,4),(1,34),(2,34)],3,56,[.b false,.m 0,.m 0]⟩:=by kernel_rfl
theorem tiS:(F2 W0).ti 42=some ⟨.st [(0,36),(3,36)],6,112,[.b false,.m 0,.m 0,.b false,.m 0,.m 0]⟩:=by kernel_rfl
theorem tiV:(F2 W0).ti 57=some ⟨.str,1,16,[.s []]⟩:=by kernel_rfl
theorem kR:(F2 W0).ti 22=some ⟨.sl 57,1,24,[.ns]⟩:=by kernel_rfl
theorem qV:(F2 W0).ti 68=some ⟨.sl 22,1,24,[.ns]⟩:=by kernel_rfl
theorem tiR:(F2 W0).ti 73=some ⟨.st [(0,3),(1,71),(2,71)],3,56,[.i .i64 0,.ns,.ns]⟩:=by kernel_rfl
theorem aDs:(F2 W0).ti 26=some ⟨.sl 73,1,24,[.ns]⟩:=by kernel_rfl
theorem szN:sz (F2 W0) 36=some 3:=by kernel_rfl
theorem szS:sz (F2 W0) 42=some 6:=by kernel_rfl
theorem szV:sz (F2 W0) 57=some 1:=by kernel_rfl
theorem aDt:sz (F2 W0) 22=some 1:=by kernel_rfl
theorem szR:sz (F2 W0) 73=some 3:=by kernel_rfl
theorem aSJ:szs (F2 W0) [(0,36),(3,36)]=some [(0,3),(3,3)]:=by kernel_rfl
theorem aSK:szs (F2 W0) [(0,4),(1,34),(2,34)]=some [(0,1),(1,1),(2,1)]:=by kernel_rfl
variable {h:H} {Q:AV→H→Prop} {p q r t:Rat}
theorem aCL(h1:Ma.sz p≤aX)(h2:Ma.sz q≤aX)(k:Q (nm (p+q)) h):Xc (F2 W0) 18 [nm p,nm q] h Q:=
 jY Tryz.func18 rfl (by kernel_rfl:(F2 W0).pr 18=some (o2 fun p q=>nm (p+q))) (aCJ h1 h2) k
theorem aSi(h1:Ma.sz p≤aX)(h2:Ma.sz q≤aX)(k:Q (nm (p-q)) h):Xc (F2 W0) 38 [nm p,nm q] h Q:=
 jY Tryz.func38 rfl (by kernel_rfl:(F2 W0).pr 38=some (o2 fun p q=>nm (p-q))) (aCJ h1 h2) k
theorem aEs(h1:Ma.sz p≤aX)(h2:Ma.sz q≤aX)(k:Q (nm (p*q)) h):Xc (F2 W0) 21 [nm p,nm q] h Q:=
 jY Tryz.func21 rfl (by kernel_rfl:(F2 W0).pr 21=some (o2 fun p q=>nm (p*q))) (aCJ h1 h2) k
theorem aSj(h1:Ma.sz p≤aX)(h2:Ma.sz q≤aX)(k:Q (nm (aR p q)) h):Xc (F2 W0) 39 [nm p,nm q] h Q:=
 jY Tryz.func39 rfl (by kernel_rfl:(F2 W0).pr 39=some (o2 fun p q=>nm (aR p q))) (aCJ h1 h2) k
theorem aEt(h1:Ma.sz p≤aX)(h2:Ma.sz q≤aX)(k:Q (sc (.i .i64 (rc p q))) h):Xc (F2 W0) 20 [nm p,nm q] h Q:=
 jY Tryz.func20 rfl (by kernel_rfl:(F2 W0).pr 20=some (o2 fun p q=>sc (.i .i64 (rc p q)))) (aCJ h1 h2) k
theorem aKQ(h1:Ma.sz p≤aX)(k:Q (sc (.i .i64 (sn p))) h):Xc (F2 W0) 40 [nm p] h Q:=
 jY Tryz.func40 rfl (by kernel_rfl:(F2 W0).pr 40=some (o1 fun p=>sc (.i .i64 (sn p)))) (aNp h1) k
theorem aOY(h1:Ma.sz p≤aX)(k:Q (sp p p) h):Xc (F2 W0) 44 [nm p] h Q:=
 jY Tryz.func44 rfl (by kernel_rfl:(F2 W0).pr 44=some (o1 fun p=>sp p p)) (aNp h1) k
theorem aKR(h1:Ma.sz p≤dG)(h2:Ma.sz q≤dG)(h3:Ma.sz r≤dG)(h4:Ma.sz t≤dG)(k:Q (sp (aW p q+aW r t) (aR p q+aR r t)) h):Xc (F2 W0) 42 [sp p q,sp r t] h Q:=
 jY Tryz.func42 rfl (by kernel_rfl:(F2 W0).pr 42=some (s2 fun p q r t=>sp (aW p q+aW r t) (aR p q+aR r t))) (aNq h1 h2 h3 h4) k
theorem aKS(h1:Ma.sz p≤dG)(h2:Ma.sz q≤dG)(h3:Ma.sz r≤dG)(h4:Ma.sz t≤dG)(k:Q (sp (eQ (aW p q) (aR p q) (aW r t) (aR r t)) (eU (aW p q) (aR p q) (aW r t) (aR r t))) h):Xc (F2 W0) 43 [sp p q,sp r t] h Q:=
 jY Tryz.func43 rfl (by kernel_rfl:(F2 W0).pr 43=some (s2 fun p q r t=>sp (eQ (aW p q) (aR p q) (aW r t) (aR r t)) (eU (aW p q) (aR p q) (aW r t) (aR r t)))) (aNq h1 h2 h3 h4) k
theorem aKT(h1:Ma.sz p≤dG)(h2:Ma.sz q≤dG)(h3:Ma.sz r≤aX)(k:Q (sc (.b (decide (aW p q≤r∧r≤aR p q)))) h):Xc (F2 W0) 22 [sp p q,nm r] h Q:=
 jY Tryz.func22 rfl (by kernel_rfl:(F2 W0).pr 22=some (aIU)) (aOV h1 h2 h3) k
theorem aF1{n:Int}(h1:-9223372036854775808≤n)(h2:n≤9223372036854775807):inR n=true:=by
 unfold inR;rw[decide_eq_true h1,decide_eq_true h2];rfl
theorem aNs{n:Int}(h1:-9223372036854775808≤n)(h2:n≤9223372036854775807)(k:Q (nm (n:Rat)) h):Xc (F2 W0) 19 [sc (.i .i64 n)] h Q:=
 jY Tryz.func19 rfl (by kernel_rfl:(F2 W0).pr 19=some (aMI)) (by show cb (inR n) _ none=_;rw[aF1 h1 h2];rfl) k
theorem aOZ{a b:Int}(h1:-9223372036854775808≤a)(h2:a≤9223372036854775807)(h3:-9223372036854775808≤b)(h4:b≤9223372036854775807)(k:Q (.t [(true,aP (jJ a b).2),(false,[.i .i64 (jJ a b).1])]) h):Xc (F2 W0) 15 [sc (.i .i64 a),sc (.i .i64 b)] h Q:=
 jY Tryz.func15 rfl (by kernel_rfl:(F2 W0).pr 15=some (aF0)) (by show cb (inR a) (cb (inR b) _ none) none=_;rw[aF1 h1 h2,aF1 h3 h4];rfl) k
theorem aHA{l:List Nat}(h1:okS l=true)(k:Q (.t [(true,aP (dE (by8 l)).2),(false,[.i .i64 (dE (by8 l)).1])]) h):Xc (F2 W0) 34 [sc (.s l)] h Q:=
 jY Tryz.func34 rfl (by kernel_rfl:(F2 W0).pr 34=some (aCI)) (by show cb (okS l) _ none=_;rw[h1];rfl) k
theorem aCM{l:List Nat}(h1:okS l=true)(k:Q (.t [(true,[.i .i64 (sn (dE (by8 l)).2),.o,.o]),(false,[.i .i64 (dE (by8 l)).1])]) h):Xc (F2 W0) 35 [sc (.s l)] h Q:=
 jY Tryz.func35 rfl (by kernel_rfl:(F2 W0).pr 35=some (vQ)) (by show cb (okS l) _ none=_;rw[h1];rfl) k
theorem aHB(k:Q (sc (.b true)) h):Xc (F2 W0) 6 [] h Q:=aRJ Tryz.func6 rfl (by kernel_rfl) (by kernel_rfl:(F2 W0).ph 6=some aCK) rfl k
end
end Go.Proofs.YthjhkhlafhjjmaaGreatDoor.E
namespace Go.Proofs.YthjhkhlafhjjmaaGreatDoor.E
open Go Go.RowKit
open Ma Me K
section
variable {F:Cf} {β:Nat} {h0 h h':H} {e:Env} {s:List (Nat × AV)} {ws:List (Nat × B)} {ls:List (AV × List Rat)} {ps:List (AV × Rat)} {v u:AV} {xs:List Rat} {q:Rat} {d t:Nat} {i:TI} {x y:Operand} {Q:AV→H→Prop}
theorem aIW{el n:Nat}{j:TI}{pr:List (Nat × Operand)}{c:List SV}(hS:St β h0 e s h ws ls ps)(ht:F.ti t=some i)(hd:i.d=.sl el)(hj:F.ti el=some j)(hn:Nat.blt (Nat.mul n j.sz) 16777216=true)(hc:oI (fun f=>some (Nat.mul f j.sz,j.sz)) s pr (nY j.ze n)=some c):
  iM F e h t n pr=some (sc (.sl h.n 0 n (some n)),⟨h.h.set ⟨el,c⟩ h.n,Nat.succ h.n,h.bar,h.l⟩):=by
 unfold iM;rw[ht];show ob (elem i.d) _=_;rw[hd];show ob (F.ti el) _=_;rw[hj];show cb (Nat.blt (Nat.mul n j.sz) 16777216) (ob (parts (fun f=>some (Nat.mul f j.sz,j.sz)) e pr (nY j.ze n)) fun c=>h.nw ⟨el,c⟩ fun a h=>vh (.sl a 0 n (some n)) h) none=_;rw[hn,aDa hS.k hc];exact (show (h.nw ⟨el,c⟩ fun a h=>vh (.sl a 0 n (some n)) h)=_ from aCj)
theorem aDu{el n:Nat}{j:TI}{pr:Array (Nat × Operand)}{c:List SV}(hS:St β h0 e s h ws ls ps)(ht:F.ti t=some i)(hd:i.d=.sl el)(hj:F.ti el=some j)(hn:Nat.blt (Nat.mul n j.sz) 16777216=true)(hc:oI (fun f=>some (Nat.mul f j.sz,j.sz)) s pr.toList (nY j.ze n)=some c)(k:∀id h',St β h0 e s h' ((id,⟨el,c⟩)::ws) ls ps→Q (sc (.sl id 0 n (some n))) h'):Xop F (.buildSlice t n pr) e h Q:=
 .now (fun _=>aIW hS ht hd hj hn hc) (k _ _ (hS.new _))
theorem aF2{j id off n:Nat}{b:B}{l:List SV}(hS:St β h0 e s h ws ls ps)(hj:ws[j]? =some (id,b))(hl:eX n (drp off b.c)=some l):rd h id off n=some l:=by
 unfold rd;rw[(hS.w.1 _ (List.mem_of_getElem? hj)).2.2];exact hl
theorem aAs{l:List SV}{n:Nat}(h:l.length=n):eX n (drp 0 l)=some l:=by
 rw[show drp 0 l=l from rfl,lX];exact⟨by omega,by rw[List.take_of_length_le (by omega)]⟩
theorem aKU{el bid j1:Nat}{j:TI}{nw:List SV}(hS:St β h0 e s h ws ls ps)(ht:F.ti t=some i)(hd:i.d=.sl el)(hj:F.ti el=some j)(hze:calm j.ze=true)(hby:j.by_<1099511627776)(hz:0<j.sz)(hx:evs s x=some (sc .ns))(hy:evs s y=some (sc (.sl bid 0 1 (some 1))))(h1:ws[j1]? =some (bid,⟨el,nw⟩))(hl:nw.length=j.sz)(hc:calm nw=true)
  (k:∀id h',St β h0 e s h' ((id,⟨el,nw⟩)::ws) ls ps→Q (sc (.sl id 0 1 none)) h'):Xop F (.call {callee:=.builtin .append,args:=#[x,y],argTypes:=#[t,t]}) e h Q:=by
 refine zW hS (args:=[_,_]) (by show ob (evs s x) (fun v=>ob (ob (evs s y) fun v=>some [v]) fun r=>some (v::r))=_;rw[hx,hy];rfl) ?_ (k _ _ (hS.new _));show ob (F.ti t) (fun i=>ob (elem i.d) fun el=>cb (Nat.beq t t) (ob (F.ti el) fun j=>one (sc .ns) fun s=>one (sc (.sl bid 0 1 (some 1))) fun x=>zH h el j s x) none)=_;rw[ht];show ob (elem i.d) _=_;rw[hd];show cb (Nat.beq t t) (ob (F.ti el) fun j=>one (sc .ns) fun s=>one (sc (.sl bid 0 1 (some 1))) fun x=>zH h el j s x) none=_;rw[Nat.beq_refl,hj];show ob (rd h bid 0 (Nat.mul 1 j.sz)) (fun nw=>cb (calm j.ze) (cb (calm nw) (cb (Nat.blt (Nat.mul 1 j.by_) 1099511627776) (cb (Nat.blt 0 j.sz) (h.nw ⟨el,app [] nw⟩ fun a h=>vh (.sl a 0 1 none) h) none) none) none) none)=_;rw[aF2 hS h1 (show eX (Nat.mul 1 j.sz) (drp 0 nw)=some nw from aAs (by rw[hl];exact (Nat.one_mul _).symm))];show cb (calm j.ze) (cb (calm nw) (cb (Nat.blt (Nat.mul 1 j.by_) 1099511627776) (cb (Nat.blt 0 j.sz) (h.nw ⟨el,app [] nw⟩ fun a h=>vh (.sl a 0 1 none) h) none) none) none) none=_;rw[hze,hc,bV.2 (show Nat.mul 1 j.by_<1099511627776 by rw[show Nat.mul 1 j.by_=j.by_ from Nat.one_mul _];exact hby),bV.2 hz];exact (show (h.nw ⟨el,nw⟩ fun a h=>vh (.sl a 0 1 none) h)=_ from aCj)
theorem aKV{el bid id n j1 j2:Nat}{j:TI}{old nw:List SV}(hS:St β h0 e s h ws ls ps)(hβ:β≤h0.n)(ht:F.ti t=some i)(hd:i.d=.sl el)(hj:F.ti el=some j)(hze:calm j.ze=true)(hby:(n+1)*j.by_<1099511627776)(hn:n+1<1099511627776)(hz:0<j.sz)(hx:evs s x=some (sc (.sl id 0 n none)))(hy:evs s y=some (sc (.sl bid 0 1 (some 1))))(h1:ws[j1]? =some (bid,⟨el,nw⟩))(h2:ws[j2]? =some (id,⟨el,old⟩))(hl:nw.length=j.sz)(hl2:old.length=n*j.sz)(hn0:0<n)(hc:calm nw=true)(hc2:calm old=true)
  (k:∀id' h',St β h0 e s h' ((id',⟨el,old++nw⟩)::ws.set j2 (id,⟨0,[]⟩)) ls ps→Q (sc (.sl id' 0 (n+1) none)) h'):Xop F (.call {callee:=.builtin .append,args:=#[x,y],argTypes:=#[t,t]}) e h Q:=by
 obtain⟨w1,w2,w3⟩:=hS.w.1 _ (List.mem_of_getElem? h2);have w1:h0.n≤id:=w1;have w3:h.h.get id=some ⟨el,old⟩:=w3;refine zW hS (args:=[_,_]) (by show ob (evs s x) (fun v=>ob (ob (evs s y) fun v=>some [v]) fun r=>some (v::r))=_;rw[hx,hy];rfl) ?_ (k _ _ ((hS.put h2).new ⟨el,old++nw⟩));show ob (F.ti t) (fun i=>ob (elem i.d) fun el=>cb (Nat.beq t t) (ob (F.ti el) fun j=>one (sc (.sl id 0 n none)) fun s=>one (sc (.sl bid 0 1 (some 1))) fun x=>zH h el j s x) none)=_;rw[ht];show ob (elem i.d) _=_;rw[hd];show cb (Nat.beq t t) (ob (F.ti el) fun j=>one (sc (.sl id 0 n none)) fun s=>one (sc (.sl bid 0 1 (some 1))) fun x=>zH h el j s x) none=_;rw[Nat.beq_refl,hj];show ob (rd h bid 0 (Nat.mul 1 j.sz)) (fun nw=>ob (rd h id 0 (Nat.mul n j.sz)) fun old=>cb (calm j.ze) (cb (calm nw) (cb (Nat.blt (Nat.mul (Nat.add n 1) j.by_) 1099511627776) (cb (Nat.blt 0 1) (cb (Nat.blt (Nat.add n 1) 1099511627776) (cb (Nat.blt 0 j.sz) (cb (Nat.beq 0 0) (h.cut id el (app old nw) fun a h=>vh (.sl a 0 (Nat.add n 1) none) h) none) none) none) none) none) none) none)=_;rw[aF2 hS h1 (show eX (Nat.mul 1 j.sz) (drp 0 nw)=some nw from aAs (by rw[hl];exact (Nat.one_mul _).symm)),aF2 hS h2 (show eX (Nat.mul n j.sz) (drp 0 old)=some old from aAs hl2)];show cb (calm j.ze) (cb (calm nw) (cb (Nat.blt (Nat.mul (Nat.add n 1) j.by_) 1099511627776) (cb (Nat.blt (Nat.add n 1) 1099511627776) (cb (Nat.blt 0 j.sz) (h.cut id el (app old nw) fun a h=>vh (.sl a 0 (Nat.add n 1) none) h) none) none) none) none) none=_;rw[hze,hc,bV.2 (show Nat.mul (Nat.add n 1) j.by_<1099511627776 from hby),bV.2 (show Nat.add n 1<1099511627776 from hn),bV.2 hz];show h.cut id el (app old nw) (fun a h=>vh (.sl a 0 (Nat.add n 1) none) h)=_;unfold H.cut;rw[w3];show cb (Nat.beq el el) (cb (Nat.beq (len old) 0) none (cb (calm old) (cb (Nat.ble h.bar id) (kQ h.n fun n'=>vh (.sl n' 0 (Nat.add n 1) none) ⟨(h.h.set ⟨0,[]⟩ id).set ⟨el,app old nw⟩ n',Nat.succ n',h.bar,h.l⟩) none) none)) none=_;rw[Nat.beq_refl,iD,aBZ.2 (show old.length≠0 by rw[hl2];exact Nat.ne_of_gt (Nat.mul_pos hn0 hz)),hc2,fA.2 (show h.bar≤id by rw[hS.bar];omega),bZ,lD];rfl
theorem aA7{a:Operand}{id off:Nat}{b:B}{l:List SV}(hb:h0.h.get id=some b)(hlt:id<h0.n)(hS:St β h0 e s h ws ls ps)(ht:F.ti t=some i)(hx:evs s a=some (sc (.p id off)))(hl:eX i.sz (drp off b.c)=some l)(hv:av i.d.ag l=some v)(k:Q v h):Xop F (.load t a) e h Q:=
 .now (fun _=>aC9 hS ht hx ((hS.o id hlt).trans hb) hl hv) k
theorem nT{l:List SV}{j:Nat}{x:SV}(h:l[j]? =some x):eX 1 (drp (0+j*1) l)=some [x]:=by
 obtain⟨h1,h2⟩:=List.getElem?_eq_some_iff.1 h;rw[Nat.mul_one,Nat.zero_add,wV,lX,List.drop_eq_getElem_cons h1,h2];exact⟨by simp,rfl⟩
theorem aMK{n:Int}:iEq n n=true:=by rw[uA];exact decide_eq_true rfl
theorem St.at_(hS:St β h0 e s h ws ls ps){k:Nat}(hv:lk s k=some v):e.get k=some v:=hS.k k v hv
theorem St.own{j id:Nat}{b:B}(hS:St β h0 e s h ws ls ps)(hj:ws[j]? =some (id,b)):h.h.get id=some b:=(hS.w.1 _ (List.mem_of_getElem? hj)).2.2
end
section
variable {W0:World} {β:Nat} {h0 h h':H} {e:Env} {s:List (Nat × AV)} {ws:List (Nat × B)} {ls:List (AV × List Rat)} {ps:List (AV × Rat)} {v u:AV} {d t:Nat} {i:TI} {x y:Operand} {Q:AV→H→Prop}
def IsV(W0:World)(v:AV)(ss:List (List Nat)):Prop:=(v=sc .ns∧ss=[])∨∃a n cap,v=sc (.v (.slice (some a) n cap))∧ss.length=n∧∀j s,ss[j]? =some s→aMJ W0 57 (a.add (j*1))=some (sc (.s s))
theorem IsV.sc{ss:List (List Nat)}(hv:IsV W0 v ss):∃sv,v=sc sv∧((sv=.ns∧ss.length=0)∨(∃id off c,sv=.sl id off ss.length c)∨∃a c,sv=.v (.slice (some a) ss.length c)):=by
 rcases hv with⟨rfl,rfl⟩|⟨a,n,cap,rfl,rfl,-⟩
 ·exact⟨_,rfl,.inl ⟨rfl,rfl⟩⟩
 ·exact⟨_,rfl,.inr (.inr ⟨_,_,rfl⟩)⟩
theorem oQ{ss:List (List Nat)}{el:Nat}{F:Cf}(hv:IsV W0 v ss)(hS:St β h0 e s h ws ls ps)(ht:F.ti t=some i)(hd:i.d=.sl el)(hx:evs s x=some v)(k:Q (E.sc (.i .i64 (ss.length:Int))) h):Xop F (.call {callee:=.builtin .len,args:=#[x],argTypes:=#[t]}) e h Q:=by
 obtain⟨sv,rfl,hn⟩:=hv.sc;exact zW hS (args:=[E.sc sv]) (by show ob (evs s x) _=_;rw[hx];rfl) (aFi ht hd hn) k
def aQ5(W0:World)(v:AV)(s:List Nat):Prop:=∃ad,v=E.sc (.v (.pointer (some ad)))∧aMJ W0 57 ad=some (E.sc (.s s))
theorem aA8{ss:List (List Nat)}{s1:List Nat}{j:Nat}{kk:IntKind}{jz:Int}(hv:IsV W0 v ss)(hS:St β h0 e s h ws ls ps)(hx:evs s x=some v)(hy:evs s y=some (E.sc (.i kk jz)))(hjz:jz=(j:Int))(hj:ss[j]? =some s1)(k:∀pv,aQ5 W0 pv s1→Q pv h):Xop (F2 W0) (.indexAddr 22 x y) e h Q:=by
 rcases hv with⟨-,rfl⟩|⟨a,n,cap,rfl,hn,hs⟩
 ·simp at hj
 ·exact aRG (j:=j) hS kR rfl szV hx hy hjz (by have:=(List.getElem?_eq_some_iff.1 hj).1;omega) (k _ ⟨_,rfl,hs j s1 hj⟩)
theorem aA9{a:Operand}{s1:List Nat}(hp:aQ5 W0 v s1)(hS:St β h0 e s h ws ls ps)(hx:evs s a=some v)(k:Q (E.sc (.s s1)) h):Xop (F2 W0) (.load 57 a) e h Q:=by
 obtain⟨ad,rfl,hr⟩:=hp;exact aRH hS tiV hx hr k
end
end Go.Proofs.YthjhkhlafhjjmaaGreatDoor.E
