/- SymbolKnown holds. No condition. -/
import Derived.Laws.CopyOwn
import Derived.Test.YtamnpcdkcdfgaaaGreatDoorQs02
import Derived.Test.YtamnpcdkcdfgaaaGreatDoorQs03
namespace Go.Proofs.YtamnpcdkcdfgaaaGreatDoor
namespace Me
open Go.RowKit
open Ma
theorem Src.after{w w1:World}{g t off k cap:Nat}{A:Option Addr}{xs cs o:List Nat}(h:Src w g off A xs)(hb:Blk .u64 w g t cs)(hp1:Blk .u64 w1 g t (cs.take off++o++cs.drop (off+k)))(hp2:w.grownBy w1 (some g))(ho:o.length=k)(hk:k≤xs.length)(hoff:off+xs.length≤cs.length)(hc:xs.length≤cap):
  Src w1 g (off+k) (if cap=k then A else A.map (·.add k)) (xs.drop k):=by
 intro hn;rw[List.length_drop]at hn;obtain⟨b,q,rfl,hlt,hcase,hcell⟩:=h (by omega);rw[if_neg (by omega)];refine⟨b,q+k,by simp[gL],Nat.lt_of_lt_of_le hlt hp2.size,?_,fun j d hd=>?_⟩
 ·rcases hcase with h1|⟨rfl,rfl⟩
  ·exact Or.inl h1
  ·exact Or.inr ⟨rfl,rfl⟩
 ·rw[List.getElem?_drop]at hd;have h0:=hcell (k+j) d hd;have hkj:k+j<xs.length:=(List.getElem?_eq_some_iff.1 hd).1;rw[Nat.add_assoc];rcases hcase with hne|⟨rfl,rfl⟩
  ·rw[Gr.cell hp2 (p:=⟨b,q+(k+j),none⟩) hlt hne];exact h0
  ·rw[←h0,cell_of_row w1 b (q+(k+j)) _ t (0,0) hp1,cell_of_row w b (q+(k+j)) _ t (0,0) hb];simp only[nums,List.getElem?_toArray,List.getElem?_map];rw[qY ho (by omega) (by omega)]
theorem Src.q{w w':World}{g off:Nat}{A:Option Addr}{xs:List Nat}(h:Src w g off A xs)(hq:Q w w'):Src w' g off A xs:=fun hn=>by
 obtain⟨b,o,e,hlt,hcase,hc⟩:=h hn;exact⟨b,o,e,Nat.lt_of_lt_of_le hlt hq.size,hcase,fun j d hd=>(hq.cell hlt).trans (hc j d hd)⟩
def Rw(w:World)(A:Option Addr)(xs:List Nat):Prop:=
 0<xs.length→∃b o,A=some ⟨b,o,none⟩∧b<w.heap.size∧∀(j d:Nat),xs[j]? =some d→w.cell? ⟨b,o+j,none⟩=some (.int .u64 (d:Int))
section
variable {w w':World} {A:Option Addr} {xs:List Nat}
theorem Rw.nil:Rw w A []:=fun h=>absurd h (by simp)
theorem Rw.at_{k:Nat}(h:Rw w A xs)(hk:k<xs.length):∃b o,A=some ⟨b,o,none⟩∧b<w.heap.size∧w.cell? ⟨b,o+k,none⟩=some (.int .u64 (xs[k]:Int)):=by
 obtain⟨b,o,e,hb,hc⟩:=h (by omega);exact⟨b,o,e,hb,hc k _ (List.getElem?_eq_getElem hk)⟩
theorem Rw.head(h:Rw w A xs)(hk:0<xs.length):∃b o,A=some ⟨b,o,none⟩∧b<w.heap.size∧w.cell? ⟨b,o,none⟩=some (.int .u64 (xs[0]:Int)):=h.at_ hk
theorem Rw.q(h:Rw w A xs)(hq:Q w w'):Rw w' A xs:=fun hn=>by
 obtain⟨b,o,e,hb,hc⟩:=h hn;exact⟨b,o,e,Nat.lt_of_lt_of_le hb hq.size,fun j d hd=>(hq.cell hb).trans (hc j d hd)⟩
theorem Rw.drop(h:Rw w A xs){k cap:Nat}(hc:xs.length≤cap):Rw w (if cap=k then A else A.map (·.add k)) (xs.drop k):=by
 intro hn;rw[List.length_drop]at hn;obtain⟨b,o,rfl,hb,hcell⟩:=h (by omega);rw[if_neg (by omega)];refine⟨b,o+k,by simp[gL],hb,fun j d hd=>?_⟩;rw[List.getElem?_drop]at hd;rw[Nat.add_assoc];exact hcell _ d hd
theorem Rw.take(h:Rw w A xs)(k:Nat):Rw w A (xs.take k):=by
 intro hn;rw[List.length_take]at hn;obtain⟨b,o,rfl,hb,hcell⟩:=h (by omega);refine⟨b,o,rfl,hb,fun j d hd=>hcell j d ?_⟩;rw[List.getElem?_take]at hd;split at hd
 ·exact hd
 ·cases hd
theorem Rw.of_blk{g t:Nat}(h:Blk .u64 w g t xs):Rw w (some ⟨g,0,none⟩) xs:=fun _=>
 ⟨g,0,rfl,h.lt,fun j d hd=>by
  obtain⟨hj,rfl⟩:=List.getElem?_eq_some_iff.1 hd;rw[Nat.zero_add];exact h.cell hj⟩
theorem Rw.gr{g:Nat}(h:Rw w A xs)(hg:w.grownBy w' (some g))(hne:∀b o,A=some ⟨b,o,none⟩→b≠g):Rw w' A xs:=fun hn=>by
 obtain⟨b,o,rfl,hb,hc⟩:=h hn;exact⟨b,o,rfl,Nat.lt_of_lt_of_le hb hg.size,fun j d hd=>(Gr.cell hg (p:=⟨b,o+j,none⟩) hb (hne b o rfl)).trans (hc j d hd)⟩
theorem Src.of_rw{g off:Nat}(h:Rw w A xs)(hne:∀b o,A=some ⟨b,o,none⟩→b≠g):Src w g off A xs:=fun hn=>by
 obtain⟨b,o,rfl,hb,hc⟩:=h hn;exact⟨b,o,rfl,hb,Or.inl (hne b o rfl),hc⟩
theorem Src.old{g off:Nat}(h:Rw w A xs)(hq:Q w w')(hg:w.heap.size≤g):Src w' g off A xs:=fun hn=>by
 obtain⟨b,o,rfl,hb,hc⟩:=h hn;exact⟨b,o,rfl,Nat.lt_of_lt_of_le hb hq.size,Or.inl (by omega),fun j d hd=>(hq.cell hb).trans (hc j d hd)⟩
end
def Nm(w:World)(v:Value)(N:Nat):Prop:=
 ∃A c ws,v=.slice A ws.length c∧ws.length≤c∧Rw w A ws∧Wf W64 ws∧vl W64 ws=N
theorem Nm.q{w w':World}{v:Value}{N:Nat}(h:Nm w v N)(hq:Q w w'):Nm w' v N:=by
 obtain⟨A,c,ws,h1,h2,h3,h4,h5⟩:=h;exact⟨A,c,ws,h1,h2,h3.q hq,h4,h5⟩
theorem Nm.zero{w:World}(A:Option Addr)(c:Nat):Nm w (.slice A 0 c) 0:=⟨A,c,[],rfl,by simp,Rw.nil,Wf.nil,rfl⟩
theorem Nm.of_rw{w:World}{A:Option Addr}{k c N:Nat}{ds:List Nat}(h:Rw w A ds)(hk:k≤ds.length)(hc:k≤c)(hz:Nz (ds.take k))
  (hd:∀d∈ds,d<W64) (hv:vl W64 (ds.take k)=N):Nm w (.slice A k c) N:=by
 have hl:(ds.take k).length=k:=by rw[List.length_take,Nat.min_eq_left hk]
 exact⟨A,c,ds.take k,by rw[hl],by rw[hl];exact hc,h.take k,⟨aR hd,hz⟩,hv⟩
def eQ(N:Nat)(w:World)(e:Ending)(w':World):Prop:=∃v,e=.returned v∧Nm w' v N∧Q w w'∧Nw w.heap.size v
theorem Src.take{w:World}{g off:Nat}{A:Option Addr}{xs:List Nat}(h:Src w g off A xs)(k:Nat):Src w g off A (xs.take k):=by
 intro hn;rw[List.length_take]at hn;obtain⟨b,o,rfl,hlt,hcase,hc⟩:=h (by omega);refine⟨b,o,rfl,hlt,hcase,fun j d hd=>hc j d ?_⟩;rw[List.getElem?_take]at hd;split at hd
 ·exact hd
 ·cases hd
theorem Src.own{w:World}{g t off n:Nat}{cs:List Nat}(hb:Blk .u64 w g t cs):Src w g off (some ⟨g,off,none⟩) ((cs.drop off).take n):=by
 intro _;refine⟨g,off,rfl,hb.lt,Or.inr ⟨rfl,rfl⟩,fun j d hd=>?_⟩;rw[List.getElem?_take]at hd;split at hd
 ·rw[List.getElem?_drop]at hd;obtain⟨hj,rfl⟩:=List.getElem?_eq_some_iff.1 hd;exact hb.cell hj
 ·cases hd
end Me
section
open Go.RowKit
open Ma Me
def bt(d:Nat):Nat:=if d=1 then 0 else d
theorem Me.Nm.parts{w:World}{x:Value}{N:Nat}(h:Nm w x N):∃A c,x=.slice A (dg W64 N) c∧dg W64 N≤c:=by
 obtain⟨A,c,xs,rfl,hc,rx,wx,rfl⟩:=h;rw[←wx.len aD];exact⟨A,c,rfl,hc⟩
def Nf(w:World)(v:Value)(s:Bool)(N D:Nat):Prop:=∃t b,v=.agg #[.bool s,t,b]∧Nm w t N∧Nm w b D
theorem Nf.q{w w':World}{v:Value}{s:Bool}{N D:Nat}(h:Nf w v s N D)(hq:Q w w'):Nf w' v s N D:=by
 obtain⟨t,b,h1,h2,h3⟩:=h;exact⟨t,b,h1,h2.q hq,h3.q hq⟩
theorem Nf.form{w:World}{v:Value}{s:Bool}{N D:Nat}(h:Nf w v s N D):∃A c A2 c2,v=.agg #[.bool s,.slice A (dg W64 N) c,.slice A2 (dg W64 D) c2]∧Nm w (.slice A (dg W64 N) c) N∧Nm w (.slice A2 (dg W64 D) c2) D:=by
 obtain⟨t,b,rfl,h2,h3⟩:=h;obtain⟨A,c,rfl,hc⟩:=h2.parts;obtain⟨A2,c2,rfl,hc2⟩:=h3.parts;exact⟨A,c,A2,c2,rfl,h2,h3⟩
theorem zF{D:Nat}:dg W64 D=0↔D=0:=⟨fun h=>bO aD h,fun h=>by rw[h,aZ]⟩
def Nq(w:World)(v:Value)(q:Rat):Prop:=Nf w v (decide (q.num<0)) q.num.natAbs (bt q.den)
theorem Nq.q{w w':World}{v:Value}{q:Rat}(h:Nq w v q)(hq:Q w w'):Nq w' v q:=Nf.q h hq
theorem wF(q:Rat):bt q.den=0↔q.den=1:=by
 have:=q.den_pos;unfold bt;split<;>omega
theorem Nq.form{w:World}{v:Value}{q:Rat}(h:Nq w v q):∃s A1 n1 c1 A2 n2 c2,v=.agg #[.bool s,.slice A1 n1 c1,.slice A2 n2 c2]∧Hid (s=decide (q.num<0))∧Hid (n1=0↔q=0)∧Hid (n2=0↔q.den=1)∧Nm w (.slice A1 n1 c1) q.num.natAbs∧Nm w (.slice A2 n2 c2) (bt q.den):=by
 obtain⟨A1,c1,A2,c2,rfl,h1,h2⟩:=Nf.form h;refine⟨_,_,_,_,_,_,_,rfl,hZ rfl,hZ ?_,hZ ?_,h1,h2⟩
 ·rw[zF];constructor
  ·intro h3;exact Rat.num_eq_zero.1 (by omega)
  ·intro h3;rw[h3];rfl
 ·rw[zF,wF]
def Ns(w:World)(v:Value)(p q:Rat):Prop:=∃s1 A1 n1 c1 A2 n2 c2 s2 A3 n3 c3 A4 n4 c4,v=.agg #[.bool s1,.slice A1 n1 c1,.slice A2 n2 c2,.bool s2,.slice A3 n3 c3,.slice A4 n4 c4]∧
 Nq w (.agg #[.bool s1,.slice A1 n1 c1,.slice A2 n2 c2]) p∧Nq w (.agg #[.bool s2,.slice A3 n3 c3,.slice A4 n4 c4]) q
theorem Ns.q{w w':World}{v:Value}{p q:Rat}(h:Ns w v p q)(hq:Q w w'):Ns w' v p q:=by
 obtain⟨s1,A1,n1,c1,A2,n2,c2,s2,A3,n3,c3,A4,n4,c4,e,h1,h2⟩:=h;exact⟨s1,A1,n1,c1,A2,n2,c2,s2,A3,n3,c3,A4,n4,c4,e,h1.q hq,h2.q hq⟩
end
namespace E
open Go
open Ma Me
def bS(x:Rat):List SV:=[.b (decide (x.num<0)),.m x.num.natAbs,.m (bt x.den)]
end E
namespace E
open Go
def Pm(h:H)(x y:Option VH):Prop:=x=y.map fun r=>(r.1,h)
section
variable {α:Type} {h h0:H}
theorem Pm.no:Pm h none none:=rfl
theorem Pm.ye{v:AV}:Pm h (some (v,h)) (some (v,h0)):=rfl
theorem Pm.vh{x:SV}:Pm h (vh x h) (vh x h0):=rfl
theorem Pm.ob{r:Option α}{f g:α→Option VH}(k:∀a,Pm h (f a) (g a)):Pm h (ob r f) (ob r g):=by
 cases r with
 |none=>rfl
 |some a=>exact k a
theorem Pm.cb{c:Bool}{x x' y y':Option VH}(k1:Pm h x y)(k2:Pm h x' y'):Pm h (cb c x x') (cb c y y'):=by
 cases c
 ·exact k2
 ·exact k1
theorem Pm.hd1{l:List SV}{f g:SV→Option VH}(k:∀a,Pm h (f a) (g a)):Pm h (hd1 l f) (hd1 l g):=by
 rcases l with _|⟨a,_|⟨b,l⟩⟩
 ·rfl
 ·exact k a
 ·rfl
theorem Pm.one{v:AV}{f g:SV→Option VH}(k:∀a,Pm h (f a) (g a)):Pm h (one v f) (one v g):=by
 cases v with
 |c a l=>cases a with
  |false=>exact Pm.hd1 k
  |true=>rfl
 |t l=>rfl
theorem Pm.agg{v:AV}{f g:List SV→Option VH}(k:∀a,Pm h (f a) (g a)):Pm h (agg v f) (agg v g):=by
 cases v with
 |c a l=>cases a with
  |false=>rfl
  |true=>exact k l
 |t l=>rfl
theorem Pm.natOf{x:SV}{f g:Nat→Option VH}(k:∀a,Pm h (f a) (g a)):Pm h (natOf x f) (natOf x g):=by
 cases x with
 |i j n=>cases n with
  |ofNat n=>exact k n
  |negSucc n=>rfl
 |_=>rfl
theorem Pm.bound{e:Env}{x:Option Operand}{d:Nat}{f g:Nat→Option VH}(k:∀a,Pm h (f a) (g a)):Pm h (bound e x d f) (bound e x d g):=by
 cases x with
 |none=>exact k d
 |some x=>exact Pm.ob fun v=>Pm.one fun s=>Pm.natOf k
theorem Pm.chk{a b c:Nat}{x y:Option VH}(k:Pm h x y):Pm h (chk a b c x) (chk a b c y):=Pm.cb (Pm.cb k rfl) rfl
theorem Pm.opt{x:Option α}{a b:Option VH}{f g:α→Option VH}(k1:Pm h a b)(k2:∀x,Pm h (f x) (g x)):Pm h (Option.rec (motive:=fun _=>Option VH) a f x) (Option.rec (motive:=fun _=>Option VH) b g x):=by
 cases x with
 |none=>exact k1
 |some x=>exact k2 x
theorem Pm.got{x y:Option VH}{v:AV}{h':H}(k:Pm h x y)(hx:x=some (v,h')):h'=h:=by
 rw[k]at hx;cases y with
 |none=>cases hx
 |some r=>cases hx;rfl
end
section
variable {F:Cf} {call:bB} {e e':Env} {h h0:H}
theorem aDk{c a d:Operand}:Pm h (oI e h c a d) (oI e h0 c a d):=by unfold oI;repeat' (first|exact rfl|exact Pm.no|exact Pm.ye|exact Pm.vh|refine Pm.ob fun _=>?_|refine Pm.cb ?_ ?_|refine Pm.one fun _=>?_|refine Pm.agg fun _=>?_|refine Pm.natOf fun _=>?_|refine Pm.bound fun _=>?_|refine Pm.chk ?_|refine Pm.opt ?_ fun _=>?_|split)
theorem aBu{t:Nat}{ps:List (Nat × Operand)}:Pm h (lN F e h t ps) (lN F e h0 t ps):=by unfold lN;repeat' (first|exact rfl|exact Pm.no|exact Pm.ye|exact Pm.vh|refine Pm.ob fun _=>?_|refine Pm.cb ?_ ?_|refine Pm.one fun _=>?_|refine Pm.agg fun _=>?_|refine Pm.natOf fun _=>?_|refine Pm.bound fun _=>?_|refine Pm.chk ?_|refine Pm.opt ?_ fun _=>?_|split)
theorem Pm.mvT{x:Value}{f g:Nat→String→Option VH}(k:∀t m,Pm h (f t m) (g t m)):Pm h (mvT x f) (mvT x g):=by
 unfold E.mvT E.ifT
 repeat' (first|exact rfl|exact k _ _|split)
theorem aFY{x:Operand}:Pm h (zC F e h x) (zC F e h0 x):=by unfold zC;repeat' (first|exact rfl|exact Pm.no|exact Pm.ye|exact Pm.vh|refine Pm.mvT fun _ _=>?_|refine Pm.ob fun _=>?_|refine Pm.cb ?_ ?_|refine Pm.one fun _=>?_|refine Pm.agg fun _=>?_|refine Pm.natOf fun _=>?_|refine Pm.bound fun _=>?_|refine Pm.chk ?_|refine Pm.opt ?_ fun _=>?_|split)
theorem aJr{t:Nat}{x:Operand}:Pm h (oIf F e h t x) (oIf F e h0 t x):=by unfold oIf;repeat' (first|exact rfl|exact Pm.no|exact Pm.ye|exact Pm.vh|refine Pm.ob fun _=>?_|refine Pm.cb ?_ ?_|refine Pm.one fun _=>?_|refine Pm.agg fun _=>?_|refine Pm.natOf fun _=>?_|refine Pm.bound fun _=>?_|refine Pm.chk ?_|refine Pm.opt ?_ fun _=>?_|split)
theorem aFZ{op:BinOp}{t:Nat}{x y:Operand}:Pm h (tH F e h op t x y) (tH F e h0 op t x y):=by unfold tH;repeat' (first|exact rfl|exact Pm.no|exact Pm.ye|exact Pm.vh|refine Pm.ob fun _=>?_|refine Pm.cb ?_ ?_|refine Pm.one fun _=>?_|refine Pm.agg fun _=>?_|refine Pm.natOf fun _=>?_|refine Pm.bound fun _=>?_|refine Pm.chk ?_|refine Pm.opt ?_ fun _=>?_|split)
theorem aJs{op:UnOp}{x:Operand}:Pm h (oUn e h op x) (oUn e h0 op x):=by unfold oUn;repeat' (first|exact rfl|exact Pm.no|exact Pm.ye|exact Pm.vh|refine Pm.ob fun _=>?_|refine Pm.cb ?_ ?_|refine Pm.one fun _=>?_|refine Pm.agg fun _=>?_|refine Pm.natOf fun _=>?_|refine Pm.bound fun _=>?_|refine Pm.chk ?_|refine Pm.opt ?_ fun _=>?_|split)
theorem aDl{s d:Nat}{x:Operand}:Pm h (uX F e h s d x) (uX F e h0 s d x):=by unfold uX;repeat' (first|exact rfl|exact Pm.no|exact Pm.ye|exact Pm.vh|refine Pm.ob fun _=>?_|refine Pm.cb ?_ ?_|refine Pm.one fun _=>?_|refine Pm.agg fun _=>?_|refine Pm.natOf fun _=>?_|refine Pm.bound fun _=>?_|refine Pm.chk ?_|refine Pm.opt ?_ fun _=>?_|split)
theorem aDm{fn:Fn}{a c:List Operand}:Pm h (mU e h fn a c) (mU e h0 fn a c):=by unfold mU oMv;repeat' (first|exact rfl|exact Pm.no|exact Pm.ye|exact Pm.vh|refine Pm.ob fun _=>?_|refine Pm.cb ?_ ?_|refine Pm.one fun _=>?_|refine Pm.agg fun _=>?_|refine Pm.natOf fun _=>?_|refine Pm.bound fun _=>?_|refine Pm.chk ?_|refine Pm.opt ?_ fun _=>?_|split)
theorem aBv{t:Nat}{x:Operand}{lo hi mx:Option Operand}:Pm h (lQ F e h t x lo hi mx) (lQ F e h0 t x lo hi mx):=by unfold lQ slN slC slM;repeat' (first|exact rfl|exact Pm.no|exact Pm.ye|exact Pm.vh|refine Pm.ob fun _=>?_|refine Pm.cb ?_ ?_|refine Pm.one fun _=>?_|refine Pm.agg fun _=>?_|refine Pm.natOf fun _=>?_|refine Pm.bound fun _=>?_|refine Pm.chk ?_|refine Pm.opt ?_ fun _=>?_|split)
theorem aF0{d:Nat}{x:Value}:Pm h (roF h d x) (roF h0 d x):=by unfold roF;repeat' (first|exact Pm.no|exact Pm.vh|split)
theorem aJt{s f:Nat}{x:Operand}:Pm h (oFA F e h s x f) (oFA F e h0 s x f):=by unfold oFA;repeat' (first|exact rfl|exact aF0|exact Pm.no|exact Pm.ye|exact Pm.vh|refine Pm.ob fun _=>?_|refine Pm.cb ?_ ?_|refine Pm.one fun _=>?_|refine Pm.agg fun _=>?_|refine Pm.natOf fun _=>?_|refine Pm.bound fun _=>?_|refine Pm.chk ?_|refine Pm.opt ?_ fun _=>?_|split)
theorem aBw{s f:Nat}{x:Operand}:Pm h (qF F e h s x f) (qF F e h0 s x f):=by unfold qF;repeat' (first|exact rfl|exact Pm.no|exact Pm.ye|exact Pm.vh|refine Pm.ob fun _=>?_|refine Pm.cb ?_ ?_|refine Pm.one fun _=>?_|refine Pm.agg fun _=>?_|refine Pm.natOf fun _=>?_|refine Pm.bound fun _=>?_|refine Pm.chk ?_|refine Pm.opt ?_ fun _=>?_|split)
theorem aF1{x:Value}:Pm h (roN h x) (roN h0 x):=by unfold roN;repeat' (first|exact Pm.no|exact Pm.vh|split)
theorem aF2{j z:Nat}{x:Value}:Pm h (roA h j z x) (roA h0 j z x):=by unfold roA;repeat' (first|exact Pm.no|exact Pm.vh|refine Pm.cb ?_ ?_|split)
theorem aJu{t:Nat}{x y:Operand}:Pm h (oIA F e h t x y) (oIA F e h0 t x y):=by unfold oIA;repeat' (first|exact rfl|exact aF0|exact aF2|exact Pm.no|exact Pm.ye|exact Pm.vh|refine Pm.ob fun _=>?_|refine Pm.cb ?_ ?_|refine Pm.one fun _=>?_|refine Pm.agg fun _=>?_|refine Pm.natOf fun _=>?_|refine Pm.bound fun _=>?_|refine Pm.chk ?_|refine Pm.opt ?_ fun _=>?_|split)
theorem aJv{t:Nat}{x y:Operand}:Pm h (oIx F e h t x y) (oIx F e h0 t x y):=by unfold oIx;repeat' (first|exact rfl|exact Pm.no|exact Pm.ye|exact Pm.vh|refine Pm.ob fun _=>?_|refine Pm.cb ?_ ?_|refine Pm.one fun _=>?_|refine Pm.agg fun _=>?_|refine Pm.natOf fun _=>?_|refine Pm.bound fun _=>?_|refine Pm.chk ?_|refine Pm.opt ?_ fun _=>?_|split)
theorem aF3{x:Operand}{i:Nat}:Pm h (tK e h x i) (tK e h0 x i):=by
 unfold tK;refine Pm.ob fun v=>?_;cases v<;>repeat' (first|exact rfl|exact Pm.no|exact Pm.ye|exact Pm.vh|refine Pm.ob fun _=>?_|refine Pm.cb ?_ ?_|refine Pm.one fun _=>?_|refine Pm.agg fun _=>?_|refine Pm.natOf fun _=>?_|refine Pm.bound fun _=>?_|refine Pm.chk ?_|refine Pm.opt ?_ fun _=>?_|split)
end
section
variable {F:Cf} {call:bB} {e e':Env} {h h0:H}
theorem aBx{l:List Operand}(k:∀x∈l,ev e x=ev e' x):evL e l=evL e' l:=by
 induction l with
 |nil=>rfl
 |cons x l ih=>
  show ob (ev e x) _=ob (ev e' x) _;rw[k x List.mem_cons_self];have:=ih fun y hy=>k y (List.mem_cons_of_mem _ hy);unfold evL at this;rw[this]
theorem xQ{pl:Nat→Option (Nat × Nat)}{ps:List (Nat × Operand)}(k:∀p∈ps,ev e p.2=ev e' p.2):parts pl e ps=parts pl e' ps:=by
 induction ps with
 |nil=>rfl
 |cons p ps ih=>
  have h1:=ih fun y hy=>k y (List.mem_cons_of_mem _ hy);have h2:=k p List.mem_cons_self;funext acc;show (ob (pl p.1) fun q=>ob (ev e p.2) fun v=>cells v fun c=>cb (Nat.beq (len c) q.2) (ob (eX q.1 c acc) (parts pl e ps)) none)=(ob (pl p.1) fun q=>ob (ev e' p.2) fun v=>cells v fun c=>cb (Nat.beq (len c) q.2) (ob (eX q.1 c acc) (parts pl e' ps)) none)
  rw[h1,h2]
theorem rC{α:Type}{x:Option Operand}{d:Nat}{f:Nat→Option α}(k:∀y,x=some y→ev e y=ev e' y):bound e x d f=bound e' x d f:=by
 cases x with
 |none=>rfl
 |some y=>show ob (ev e y) _=ob (ev e' y) _;rw[k y rfl]
end
end E
namespace K
open Go.RowKit
open Ma Me
def Bx(w:World)(g:Nat)(t:TypeId)(row:List Value):Prop:=w.heap[g]? =some (.cells row.toArray t (0,0))
section
variable {w w' a:World} {g k i:Nat} {t:TypeId} {row l:List Value} {x:Value}
theorem Bx.lt(h:Bx w g t row):g<w.heap.size:=by
 rcases Nat.lt_or_ge g w.heap.size with hlt|hge
 ·exact hlt
 ·unfold Bx at h;rw[Array.getElem?_eq_none hge]at h;cases h
theorem Bx.cell(h:Bx w g t row)(i:Nat)(hx:row[i]? =some x):w.cell? ⟨g,i,none⟩=some x:=by
 unfold Bx at h;simp[World.cell?,h,hx]
theorem Bx.frozen(h:Bx w g t row)(i:Nat):w.frozen? ⟨g,i,none⟩=false:=by
 unfold Bx at h;simp[World.frozen?,h]
theorem Bx.q(h:Bx w g t row)(hq:Q w w'):Bx w' g t row:=(hq.heap h.lt).trans h
theorem Bx.new(w:World)(t:TypeId)(row:List Value):Bx (w.alloc (.cells row.toArray t)) w.heap.size t row:=heap_alloc_new w _
def pK(w:World)(g i:Nat):List Value→World
 | []=>w
 |x::xs=>pK (w.setCell ⟨g,i,none⟩ x) g (i+1) xs
theorem aAk(h:k≠g):(pK w g i l).heap[k]? =w.heap[k]? :=by
 induction l generalizing w i with
 |nil=>rfl
 |cons x xs ih=>exact ih.trans (Below.heap_setCell _ _ _ _ h)
theorem aF4:(pK w g i l).heap.size=w.heap.size:=by
 induction l generalizing w i with
 |nil=>rfl
 |cons x xs ih=>exact ih.trans (by simp)
theorem aLW(h:Q a w)(hg:a.heap.size≤g):Q a (pK w g i l):=by
 induction l generalizing w i with
 |nil=>exact h
 |cons x xs ih=>exact ih (h.setCell (p:=⟨g,i,none⟩) hg _)
theorem Bx.set_(h:Bx w g t row)(i:Nat)(x:Value):Bx (w.setCell ⟨g,i,none⟩ x) g t (row.set i x):=by
 unfold Bx at h⊢;simp[World.setCell,Array.getElem?_modify,h]
theorem Bx.putAt{pre rest:List Value}(h:Bx w g t (pre++rest))(hi:pre.length=i)(hl:rest.length=l.length):Bx (pK w g i l) g t (pre++l):=by
 induction l generalizing w i pre rest with
 |nil=>
  have:rest=[]:=List.eq_nil_of_length_eq_zero hl;subst this;exact h
 |cons x xs ih=>
  cases rest with
  |nil=>simp at hl
  |cons y ys=>
   have h1:=h.set_ i x;have e:(pre++y::ys).set i x=(pre++[x])++ys:=by
      rw[List.set_append_right _ _ (by omega)];simp[←hi]
   rw[e]at h1;have h2:=ih h1 (i:=i+1) (by simp[hi]) (by simpa using hl);simpa [pK] using h2
theorem Bx.put(h:Bx w g t row)(hl:row.length=l.length):Bx (pK w g 0 l) g t l:=Bx.putAt (pre:=[]) h rfl hl
end
inductive Ck where
 |b|i|s|t
def Ck.is:Ck→Value→Prop
 | .b,v=>∃x,v=.bool x
 | .i,v=>∃x,v=.int .i64 x
 | .s,v=>∃A n c,v=.slice A n c
 | .t,v=>∃x,v=.string x
def Sh:List Ck→List Value→Prop
 | [],[]=>True
 |k::ks,v::vs=>k.is v∧Sh ks vs
 |_,_=>False
theorem Sh.length:∀{ks:List Ck} {vs:List Value},Sh ks vs→vs.length=ks.length
 | [],[],_=>rfl
 |_::_,_::_,h=>by simp[Sh.length h.2]
theorem Sh.no:∀{ks:List Ck} {vs:List Value},Sh ks vs→∀x∈vs,∀z,x≠.int .u64 z
 | [],[],_,_,h,_=>by cases h
 |k::ks,v::vs,hs,x,hx,z=>by
  rcases List.mem_cons.1 hx with rfl|hx
  ·intro e;have:=hs.1;cases k<;>simp[Ck.is,e]at this
  ·exact Sh.no hs.2 x hx z
abbrev wO:Nat:=1000001
structure Ap (w w':World) (g:Nat):Prop where
 heap:∀k,k≠g→w'.heap[k]? =w.heap[k]?
 size:w'.heap.size=w.heap.size
 row:∃t row,Bx w g t row∧t≠2∧(∀x∈row,∀z,x≠.int .u64 z)∧(t=wO→row.length≤3)
section
variable {w w':World} {A:Option Addr} {ds:List Nat} {g N:Nat} {v:Value}
theorem Ap.rd(h:Ap w w' g)(hr:Rd .i64 w w.heap.size A ds):Rd .i64 w' w'.heap.size A ds:=fun hn=>by
 obtain⟨ad,e,hb,hc,cs,fr,ht⟩:=hr hn;have hne:ad.block≠g:=by
  intro e;obtain⟨t,row,hx,h1,-⟩:=h.row;unfold Bx at hx;rw[←e,ht]at hx;injection hx with hx;injection hx with _ h2 _;exact h1 h2.symm
 have he:=h.heap _ hne;exact⟨ad,e,by rw[h.size];exact hb,fun j u hu=>(gZ (by rw[jT];exact he)).trans (hc j u hu),cs,fr,he.trans ht⟩
theorem Ap.nr(h:Ap w w' g)(hr:Nr w v N):Nr w' v N:=by
 obtain⟨A,c,ds,h1,h2,h3,h4,h5⟩:=hr;exact⟨A,c,ds,h1,h2,h.rd h3,h4,h5⟩
theorem Ap.rw_{xs:List Nat}(h:Ap w w' g)(hr:Rw w A xs):Rw w' A xs:=fun hn=>by
 obtain⟨b,o,e,hb,hc⟩:=hr hn;have hne:b≠g:=by
  intro e;obtain⟨t,row,hx,-,h1,-⟩:=h.row;have h2:=hc 0 _ (List.getElem?_eq_getElem hn);unfold Bx at hx;rw[←e]at hx;have h3:row[o+0]? =some (.int .u64 ((xs[0]:Nat):Int)):=(by simpa [World.cell?,hx] using h2);exact h1 _ (List.mem_of_getElem? h3) _ rfl
 have he:=h.heap _ hne;exact⟨b,o,e,by rw[h.size];exact hb,fun j u hu=>(gZ (p:=⟨b,o+j,none⟩) he).trans (hc j u hu)⟩
theorem Ap.nm(h:Ap w w' g)(hr:Nm w v N):Nm w' v N:=by
 obtain⟨A,c,ds,h1,h2,h3,h4,h5⟩:=hr;exact⟨A,c,ds,h1,h2,h.rw_ h3,h4,h5⟩
end
structure Pr where
 p:Value→World→Prop
 q:∀{v w w'},p v w→Q w w'→p v w'
 ok:Bool
 a:∀{v w w' g},ok=true→p v w→Ap w w' g→p v w'
inductive Vs where
 |any
 |no
 |eq (v:Value)
 |gen (p:Pr)
def Vs.holds:Vs→Value→World→Prop
 | .any,_,_=>True
 | .no,v,_=>v=undef
 | .eq u,v,_=>v=u
 | .gen p,v,w=>p.p v w
theorem Vs.mono{s:Vs}{v:Value}{w w':World}(hq:Q w w')(h:s.holds v w):s.holds v w':=by
 cases s with
 |any=>trivial
 |no=>exact h
 |eq u=>exact h
 |gen p=>exact p.q h hq
def Vs.ok:Vs→Bool
 | .gen p=>p.ok
 |_=>true
theorem aLX{l:List Vs}(h:l.all Vs.ok=true)(j:Nat):(l.getD j .any).ok=true:=by
 rw[List.getD_eq_getElem?_getD];cases e:l[j]? with
 |none=>rfl
 |some x=>exact List.all_eq_true.1 h x (List.mem_of_getElem? e)
def SL(l:List Vs)(j:Nat)(v:Value)(w:World):Prop:=(l.getD j .any).holds v w
def isB:Vs→Bool→Bool
 | .eq (.bool c),b=>c == b
 |_,_=>false
def aLY:Vs→Bool
 | .no=>true
 |_=>false
theorem aF5{s:Vs}(h:aLY s=true):s=.no:=by
 cases s<;>first|rfl|cases h
theorem aH2{s:Vs}{b:Bool}(h:isB s b=true):s=.eq (.bool b):=by
 unfold isB at h;split at h
 ·simp at h;subst h;rfl
 ·cases h
section
variable {P:Program} {ops:Array Oper} {Q':Exit→Act→World→Prop} {l:List Vs} {F:(Nat→Value)→Act} {a:Act} {w1:World}
structure Ctx (ops:Array Oper) (a:Act) (F:(Nat→Value)→Act):Prop where
 hsh:(Ja.shape ops && Region.noSelect ops && Ja.inBounds ops a.tmps.size)=true
 hF:∀vals,F vals=Ja.fillL vals ops.toList 0 a
theorem Ctx.go(c:Ctx ops a F):∀vals,F vals=Ja.fillGo ops (fun _=>true) vals ops.size a:=fun vals=>(c.hF vals).trans (Ja.fillL_full vals a)
def bW(ops:Array Oper)(l:List Vs)(o:Oper)(yes:Bool):Bool:=
 match o.guard with
 |none=>yes
 |some (g,b)=>(isB (l.getD g .any) (b == yes) || (aLY (l.getD g .any) && !yes)) && decide (g<ops.size) && ((ops[g]?).bind (·.dst)).isSome
theorem aF6{a:Act}{vals:Nat→Value}{o:Oper}{g:Nat}{want:Bool}(hsh:(Ja.shape ops && Region.noSelect ops && Ja.inBounds ops a.tmps.size)=true)(hg:o.guard=some (g,want))(hlt:g<ops.size)(hd:((ops[g]?).bind (·.dst)).isSome=true)(hv:vals g=undef):
  Region.wanted o (yielded ops (Ja.fillGo ops (fun _=>true) vals ops.size a).tmps)=false:=by
 simp only[Bool.and_eq_true]at hsh;obtain⟨⟨h1,h2⟩,h3⟩:=hsh;obtain⟨og,hog⟩:∃o,ops[g]? =some o:=⟨_,Array.getElem?_eq_getElem hlt⟩
 obtain⟨d,hd2⟩:=Option.isSome_iff_exists.1 hd;have hin:d<a.tmps.size:=by
  have:=Array.all_eq_true_iff_forall_mem.1 h3 og (Array.mem_of_getElem? hog);simp only[hog,Option.bind_some]at hd2;simpa [hd2] using this
 have:=Ja.fill_get (ops:=ops) (vals:=vals) (a:=a) (i:=g) (d:=d) hd2 hin (Ja.shape_spec h1 hog).1 ops.size hlt;unfold Region.wanted yielded;simp only[hg,hd2,Option.bind_some,this,hv];rfl
theorem oJ{i:Nat}{o:Oper}{yes:Bool}(c:Ctx ops a F)(ho:ops[i]? =some o)(hg:bW ops l o yes=true){vals:Nat→Value}{w:World}
  (hd:∀e∈o.after,Region.binds .any e=true→SL l e.on (vals e.on) w):Region.wanted o (yielded ops (F vals).tmps)=yes:=by
 rw[c.go];unfold bW at hg;split at hg
 ·rename_i h;unfold Region.wanted;rw[h,hg]
 ·rename_i g b h;simp only[Bool.and_eq_true,decide_eq_true_eq]at hg;obtain⟨⟨h1,h2⟩,h3⟩:=hg;have hsh:=c.hsh;simp only[Bool.and_eq_true]at hsh;obtain⟨d,hd3⟩:=Option.isSome_iff_exists.1 h3;obtain⟨e,he,hb,heq⟩:=(Ja.shape_spec hsh.1.1 ho).2.1 d (by simp[Oper.looksAt,h,hd3]) g hd3;have hv:=hd e he hb;rw[heq]at hv;unfold SL at hv;rcases (Bool.or_eq_true _ _).mp h1 with h1|h1
  ·rw[aH2 h1]at hv;have:=Ja.wanted_of (a:=a) c.hsh h h2 h3 hv;rw[this];cases b<;>cases yes<;>rfl
  ·obtain⟨h4,h5⟩:=(Bool.and_eq_true _ _).mp h1;rw[aF5 h4]at hv;rw[aF6 (a:=a) c.hsh h h2 h3 hv];cases yes
   ·rfl
   ·cases h5
end
def NbV(w:World)(g:Nat)(t:TypeId)(ck:List Ck)(v:Value):Prop:=∃row,v=.agg row.toArray∧Sh ck row∧Bx w g t row
def nQ(w:World)(g:Nat)(ck:List Ck)(v:Value)(w':World):Prop:=∃row,v=.agg row.toArray∧Sh ck row∧w'=pK w g 0 row
section
variable {w w' a:World} {g g2:Nat} {t:TypeId} {ck:List Ck} {v u old:Value}
theorem NbV.q(h:NbV w g t ck v)(hq:Q w w'):NbV w' g t ck v:=by
 obtain⟨row,e,hs,h⟩:=h;exact⟨row,e,hs,h.q hq⟩
theorem NbV.lt(h:NbV w g t ck v):g<w.heap.size:=by
 obtain⟨row,e,hs,h⟩:=h;exact h.lt
theorem NbV.heap(h:NbV w g t ck v)(he:w'.heap[g]? =w.heap[g]?):NbV w' g t ck v:=by
 obtain⟨row,e,hs,h⟩:=h;exact⟨row,e,hs,he.trans h⟩
theorem nQ.heap(h:nQ w g ck v w')(hne:g2≠g):w'.heap[g2]? =w.heap[g2]? :=by
 obtain⟨row,e,hs,rfl⟩:=h;exact aAk hne
theorem nQ.q(h:nQ w g ck v w')(hq:Q a w)(hg:a.heap.size≤g):Q a w':=by
 obtain⟨row,e,hs,rfl⟩:=h;exact aLW hq hg
theorem nQ.new(h:nQ w g ck v w')(ho:NbV w g t ck old):NbV w' g t ck v:=by
 obtain⟨row,e,hs,rfl⟩:=h;obtain⟨row2,e2,hs2,hb⟩:=ho;exact⟨row,e,hs,hb.put (by rw[hs.length,hs2.length])⟩
theorem nQ.ap(h:nQ w g ck v w')(ho:NbV w g t ck old)(ht:t≠2∧(t=wO→ck.length≤3)):Ap w w' g:=by
 obtain⟨row,e,hs,rfl⟩:=h;obtain⟨row2,e2,hs2,hb⟩:=ho;exact⟨fun k hk=>aAk hk,aF4,t,row2,hb,ht.1,hs2.no,fun e=>by rw[hs2.length];exact ht.2 e⟩
theorem nQ.sp{x:Value}{s:Vs}(h:nQ w g ck v w')(ho:NbV w g t ck old)(ht:t≠2∧(t=wO→ck.length≤3))(hk:s.ok=true)(hx:s.holds x w):s.holds x w':=by
 cases s with
 |any=>trivial
 |no=>exact hx
 |eq u=>exact hx
 |gen p=>exact p.a hk hx (h.ap ho ht)
end
structure Ce where
 al:Option Nat
 g:Nat
 t:TypeId
 ck:List Ck
 row:Value
 st:Nat
 src:Nat
def Ce.ptr(c:Ce)(vals:Nat→Value):Value:=match c.al with|none=>.pointer (some ⟨c.g,0,none⟩)|some a=>vals a
def Ce.live(c:Ce)(L:Nat→Bool):Bool:=match c.al with|none=>true|some a=>L a
def Ce.ok(w0:World)(c:Ce)(L:Nat→Bool)(vals:Nat→Value)(w:World):Prop:=
 c.live L=true→∃g,c.ptr vals=.pointer (some ⟨g,0,none⟩)∧w0.heap.size≤g∧NbV w g c.t c.ck (if L c.st=true then vals c.src else c.row)
def waits(ops:Array Oper)(i j:Nat):Bool:=match ops[i]? with|none=>false|some o=>o.after.any fun e=>Region.binds .any e && e.on == j
structure JC (w0:World) (ops:Array Oper) (l:List Vs) (cs:List Ce) (ks:List (Value × Vs)) (L:Nat→Bool) (vals:Nat→Value) (W:World):Prop where
 q:Q w0 W
 s:∀j,L j=true→SL l j (vals j) W
 cl:∀i j,L i=true→waits ops i j=true→L j=true
 b:∀j,ops.size≤j→L j=false
 c:∀c∈cs,c.ok w0 L vals W
 d:∀(m k:Nat) (y z:Ce),m≠k→cs[m]? =some y→cs[k]? =some z→y.live L=true→z.live L=true→y.ptr vals≠z.ptr vals
 k:∀p∈ks,p.2.holds p.1 W
def dG(ops:Array Oper)(cs:List Ce):Bool:=cs.all fun c=>(decide (ops.size≤c.st) || waits ops c.st c.src && (match c.al with|none=>true|some a=>waits ops c.st a)) && (match c.al with|none=>true|some a=>a != c.st && decide (a<ops.size))
section
variable {P:Program} {ops:Array Oper} {Q':Exit→Act→World→Prop} {l:List Vs} {cs:List Ce} {ks:List (Value × Vs)} {F:(Nat→Value)→Act} {a:Act} {w0:World} {L:Nat→Bool} {vals:Nat→Value} {W:World}
open Ja (upd)
theorem upd_ne{α:Type}{f:Nat→α}{i j:Nat}{v:α}(h:j≠i):upd f i v j=f j:=if_neg h
theorem qI{α:Type}{f:Nat→α}{i:Nat}{v:α}:upd f i v i=v:=if_pos rfl
theorem JC.closed(h:JC w0 ops l cs ks L vals W){i:Nat}{o:Oper}(ho:ops[i]? =some o)(hdep:∀e∈o.after,Region.binds .any e=true→L e.on=true):
  ∀x j,upd L i true x=true→waits ops x j=true→upd L i true j=true:=by
 intro x j hx hw;by_cases hji:j=i
 ·subst hji;exact qI
 rw[upd_ne hji];by_cases hxi:x=i
 ·subst hxi;unfold waits at hw;simp only[ho]at hw;obtain⟨e,he,hb⟩:=Array.any_eq_true'.1 hw;simp only[Bool.and_eq_true,beq_iff_eq]at hb;rw[←hb.2];exact hdep e he hb.1
 ·rw[upd_ne hxi]at hx;exact h.cl x j hx hw
theorem Ce.ok_other{c:Ce}{i:Nat}{v:Value}{W':World}(hc:c.ok w0 L vals W)(hi:L i=false)(ha:c.al≠some i)(hs:c.st≠i)(hsrc:L c.st=true→L c.src=true)
  (hk:∀g u,NbV W g c.t c.ck u→c.ptr vals=.pointer (some ⟨g,0,none⟩)→NbV W' g c.t c.ck u):c.ok w0 (upd L i true) (upd vals i v) W':=by
 intro hl;have hp:c.live (upd L i true)=c.live L∧(c.live L=true→c.ptr (upd vals i v)=c.ptr vals):=by
  unfold Ce.live Ce.ptr;cases h:c.al with
  |none=>exact⟨rfl,fun _=>rfl⟩
  |some x=>
   have hx:x≠i:=fun e=>ha (by rw[h,e]);exact⟨upd_ne hx,fun _=>upd_ne hx⟩
 rw[hp.1]at hl;obtain⟨g,h1,h2,h3⟩:=hc hl;refine⟨g,(hp.2 hl).trans h1,h2,?_⟩;rw[upd_ne hs];split at h3
 ·rename_i hst;rw[if_pos hst];have:c.src≠i:=fun e=>by
   have:=hsrc hst;rw[e,hi]at this;cases this
  rw[upd_ne this];exact hk g _ h3 h1
 ·rename_i hst;rw[if_neg hst];exact hk g _ h3 h1
theorem Ce.same{c:Ce}{i:Nat}{v:Value}(ha:c.al≠some i):c.live (upd L i true)=c.live L∧c.ptr (upd vals i v)=c.ptr vals:=by
 unfold Ce.live Ce.ptr;cases h:c.al with
 |none=>exact⟨rfl,rfl⟩
 |some x=>
  have hx:x≠i:=fun e=>ha (by rw[h,e]);exact⟨upd_ne hx,upd_ne hx⟩
theorem JC.srcs(hck:dG ops cs=true)(h:JC w0 ops l cs ks L vals W){c:Ce}(hc:c∈cs)(hst:L c.st=true):L c.src=true:=by
 have:=List.all_eq_true.1 hck c hc;simp only[Bool.and_eq_true,Bool.or_eq_true,decide_eq_true_eq]at this;rcases this.1 with h1|h1
 ·rw[h.b _ h1]at hst;cases hst
 ·exact h.cl _ _ hst h1.1
theorem JC.other{i:Nat}{o:Oper}(c:Ctx ops a F)(hck:dG ops cs=true)(ho:ops[i]? =some o)(hg:bW ops l o true=true)(hf:(cs.all fun c=>c.al != some i && c.st != i)=true)
  (h:∀(L:Nat→Bool) (vals:Nat→Value) (w:World),L i=false→JC w0 ops l cs ks L vals w→(∀j,(o.after.any fun e=>Region.binds .any e && e.on == j)=true→SL l j (vals j) w)→
   ∀K:Act→World→Prop,Hid (∀v w' a',a'=(F vals).put o.dst v→SL l i v w'→Q w w'→K a' w')→o.wp P (F vals) w K (fun _ _ _=>False)):
  Ja.Step P ops (JC w0 ops l cs ks) F i o:=by
 intro L vals w hL hdep hJ;rw[if_pos (oJ (w:=w) c ho hg (fun e he hb=>hJ.s _ (hdep e he hb)))];intro K hK;have hi:i<ops.size:=(Array.getElem?_eq_some_iff.1 ho).1;refine h L vals w hL hJ (fun j hj=>?_) K (hZ fun v w' a' e hv hq=>hK v w' a' e ⟨hJ.q.trans hq,?_,hJ.closed ho hdep,?_,?_,?_,fun p hp=>Vs.mono hq (hJ.k p hp)⟩)
 ·obtain⟨e,he,hb⟩:=Array.any_eq_true'.1 hj;simp only[Bool.and_eq_true,beq_iff_eq]at hb;obtain⟨h1,rfl⟩:=hb;exact hJ.s _ (hdep e he h1)
 ·intro j hj;by_cases hji:j=i
  ·subst hji;rw[qI];exact hv
  ·rw[upd_ne hji]at hj⊢;exact Vs.mono hq (hJ.s j hj)
 ·intro j hj;rw[upd_ne (by omega)];exact hJ.b j hj
 ·intro x hx;have hfx:=List.all_eq_true.1 hf x hx;simp only[Bool.and_eq_true,bne_iff_ne]at hfx;exact Ce.ok_other (hJ.c x hx) hL hfx.1 hfx.2 (hJ.srcs hck hx) (fun g u hu _=>hu.q hq)
 ·intro m k y z hmk hy hz h1 h2;have hfx:=List.all_eq_true.1 hf y (List.mem_of_getElem? hy);have hfy:=List.all_eq_true.1 hf z (List.mem_of_getElem? hz);simp only[Bool.and_eq_true,bne_iff_ne]at hfx hfy;obtain⟨e1,e2⟩:=Ce.same (L:=L) (vals:=vals) (v:=v) hfx.1;obtain⟨e3,e4⟩:=Ce.same (L:=L) (vals:=vals) (v:=v) hfy.1;rw[e1]at h1;rw[e3]at h2;rw[e2,e4];exact hJ.d m k y z hmk hy hz h1 h2
theorem JC.alloc{i:Nat}{o:Oper}{n:Nat}{x:Ce}{t:TypeId}{cells:Array Value}(c:Ctx ops a F)(hck:dG ops cs=true)(ho:ops[i]? =some o)(hg:bW ops l o true=true)(hx:cs[n]? =some x)(hal:x.al=some i)
  (hf:((cs.eraseIdx n).all fun c=>c.al != some i && c.st != i)=true) (hl:l.getD i .any=.any)
  (hrow:∀w:World,NbV (w.alloc (.cells cells t)) w.heap.size x.t x.ck x.row)
  (h:∀(vals:Nat→Value) (w:World) (K:Act→World→Prop),Hid (∀a',a'=(F vals).put o.dst (.pointer (some ⟨w.heap.size,0,none⟩))→K a' (w.alloc (.cells cells t)))→o.wp P (F vals) w K (fun _ _ _=>False)):
  Ja.Step P ops (JC w0 ops l cs ks) F i o:=by
 intro L vals w hL hdep hJ;rw[if_pos (oJ (w:=w) c ho hg (fun e he hb=>hJ.s _ (hdep e he hb)))];intro K hK;have hi:i<ops.size:=(Array.getElem?_eq_some_iff.1 ho).1;have hq:Q w (w.alloc (.cells cells t)):=(Q.refl w).alloc _;have hxm:x∈cs:=List.mem_of_getElem? hx;have hxo:∀y∈cs,y.al≠some i∧y.st≠i∨y=x:=by
  intro y hy;obtain⟨m,hm⟩:=List.mem_iff_getElem?.1 hy;by_cases hmn:m=n
  ·subst hmn;rw[hx]at hm;injection hm with e;exact Or.inr e.symm
  ·refine Or.inl ?_;have:y∈cs.eraseIdx n:=List.mem_eraseIdx_iff_getElem?.2 ⟨m,hmn,hm⟩;have:=List.all_eq_true.1 hf y this;simpa [Bool.and_eq_true,bne_iff_ne] using this
 have hck2:=List.all_eq_true.1 hck x hxm;simp only[hal,Bool.and_eq_true,bne_iff_ne,decide_eq_true_eq]at hck2;have hst:L x.st=false:=by
  cases hs:L x.st with
  |false=>rfl
  |true=>
   rcases Bool.or_eq_true _ _▸hck2.1 with h1|h1
   ·rw[hJ.b _ (of_decide_eq_true h1)]at hs;cases hs
   ·simp only[Bool.and_eq_true]at h1;have:=hJ.cl _ _ hs h1.2;rw[hL]at this;cases this
 have hlive:∀y∈cs,y.live L=true→y.al≠some i:=fun y _ hy e=>by
  unfold Ce.live at hy;rw[e]at hy;simp only[hL]at hy;cases hy
 refine h vals w K (hZ fun a' e=>hK _ _ a' e ⟨hJ.q.trans hq,?_,hJ.closed ho hdep,?_,?_,?_,fun p hp=>Vs.mono hq (hJ.k p hp)⟩)
 ·intro j hj;by_cases hji:j=i
  ·subst hji;unfold SL;rw[hl];trivial
  ·rw[upd_ne hji]at hj⊢;exact Vs.mono hq (hJ.s j hj)
 ·intro j hj;rw[upd_ne (by omega)];exact hJ.b j hj
 ·intro y hy;rcases hxo y hy with h1|rfl
  ·exact Ce.ok_other (hJ.c y hy) hL h1.1 h1.2 (hJ.srcs hck hy) (fun g u hu _=>hu.q hq)
  ·intro _;refine⟨w.heap.size,?_,hJ.q.size,?_⟩
   ·unfold Ce.ptr;rw[hal];exact qI
   ·rw[upd_ne (fun e=>hck2.2.1 e.symm),hst];exact hrow w
 ·have key:∀y∈cs,y.al≠some i→y.live (upd L i true)=true→y.ptr (upd vals i (.pointer (some ⟨w.heap.size,0,none⟩)))≠.pointer (some ⟨w.heap.size,0,none⟩):=fun y hy hya hyl e=>by
   obtain⟨e1,e2⟩:=Ce.same (L:=L) (vals:=vals) (v:=.pointer (some ⟨w.heap.size,0,none⟩)) hya;rw[e1]at hyl;rw[e2]at e;obtain⟨g,h1,-,h3⟩:=hJ.c y hy hyl;rw[h1]at e;injection e with e;injection e with e;injection e with e;have:=h3.lt;omega
  have hn:∀(m:Nat) (y:Ce),cs[m]? =some y→m≠n→y.al≠some i:=fun m y hm hmn hy=>by
   have h2:y∈cs.eraseIdx n:=List.mem_eraseIdx_iff_getElem?.2 ⟨m,hmn,hm⟩;have:=List.all_eq_true.1 hf y h2;simp[hy]at this
  have hxp:x.ptr (upd vals i (.pointer (some ⟨w.heap.size,0,none⟩)))=.pointer (some ⟨w.heap.size,0,none⟩):=by
   unfold Ce.ptr;rw[hal];exact qI
  intro m k y z hmk hy hz h1 h2;by_cases hmn:m=n
  ·subst hmn;rw[hx]at hy;injection hy with hy;subst hy;rw[hxp];exact fun e=>key z (List.mem_of_getElem? hz) (hn k z hz (Ne.symm hmk)) h2 e.symm
  ·by_cases hkn:k=n
   ·subst hkn;rw[hx]at hz;injection hz with hz;subst hz;rw[hxp];exact key y (List.mem_of_getElem? hy) (hn m y hy hmn) h1
   ·obtain⟨e1,e2⟩:=Ce.same (L:=L) (vals:=vals) (v:=.pointer (some ⟨w.heap.size,0,none⟩)) (hn m y hy hmn);obtain⟨e3,e4⟩:=Ce.same (L:=L) (vals:=vals) (v:=.pointer (some ⟨w.heap.size,0,none⟩)) (hn k z hz hkn);rw[e1]at h1;rw[e3]at h2;rw[e2,e4];exact hJ.d m k y z hmk hy hz h1 h2
theorem JC.store{i:Nat}{o:Oper}{n:Nat}{x:Ce}(c:Ctx ops a F)(hck:dG ops cs=true)(ho:ops[i]? =some o)(hg:bW ops l o true=true)(hx:cs[n]? =some x)(hty:x.t≠2∧(x.t=wO→x.ck.length≤3))(hst:x.st=i)
  (hf:((cs.eraseIdx n).all fun c=>c.al != some i && c.st != i)=true) (hl:l.getD i .any=.any) (hok:(l.all Vs.ok && ks.all fun p=>p.2.ok)=true)
  (h:∀(L:Nat→Bool) (vals:Nat→Value) (w:World) (g:Nat) (old:Value),JC w0 ops l cs ks L vals w→x.ptr vals=.pointer (some ⟨g,0,none⟩)→NbV w g x.t x.ck old→SL l x.src (vals x.src) w→
   ∀K:Act→World→Prop,Hid (∀v w' a',a'=(F vals).put o.dst v→nQ w g x.ck (vals x.src) w'→K a' w')→o.wp P (F vals) w K (fun _ _ _=>False)):
  Ja.Step P ops (JC w0 ops l cs ks) F i o:=by
 intro L vals w hL hdep hJ;obtain⟨hok1,hok2⟩:=(Bool.and_eq_true _ _).mp hok;rw[if_pos (oJ (w:=w) c ho hg (fun e he hb=>hJ.s _ (hdep e he hb)))];intro K hK;have hi:i<ops.size:=(Array.getElem?_eq_some_iff.1 ho).1;have hxm:x∈cs:=List.mem_of_getElem? hx;have hck2:=List.all_eq_true.1 hck x hxm;simp only[Bool.and_eq_true,Bool.or_eq_true,decide_eq_true_eq]at hck2;have hw:waits ops i x.src=true∧(∀b,x.al=some b→waits ops i b=true):=by
  rcases hck2.1 with h1|h1
  ·rw[hst]at h1;omega
  ·rw[hst]at h1;exact⟨h1.1,fun b hb=>by have:=h1.2;rw[hb]at this;exact this⟩
 have dep:∀j,waits ops i j=true→L j=true:=fun j hj=>by
  unfold waits at hj;simp only[ho]at hj;obtain⟨e,he,hb⟩:=Array.any_eq_true'.1 hj;simp only[Bool.and_eq_true,beq_iff_eq]at hb;rw[←hb.2];exact hdep e he hb.1
 have hsrc:L x.src=true:=dep _ hw.1;have hlive:x.live L=true:=by
  unfold Ce.live;cases hal:x.al with
  |none=>rfl
  |some b=>exact dep b (hw.2 b hal)
 have hal:x.al≠some i:=fun e=>by
  have:=dep i (hw.2 i e);rw[hL]at this;cases this
 obtain⟨g,h1,h2,h3⟩:=hJ.c x hxm hlive;have hn:∀(m:Nat) (y:Ce),cs[m]? =some y→m≠n→y.al≠some i∧y.st≠i:=fun m y hm hmn=>by
  have h2:y∈cs.eraseIdx n:=List.mem_eraseIdx_iff_getElem?.2 ⟨m,hmn,hm⟩;have:=List.all_eq_true.1 hf y h2;simpa [Bool.and_eq_true,bne_iff_ne] using this
 have hsi:x.src≠i:=fun e=>by rw[e,hL]at hsrc;cases hsrc
 refine h L vals w g _ hJ h1 h3 (hJ.s _ hsrc) K (hZ fun v w' a' e hp=>hK v w' a' e ⟨hp.q hJ.q h2,?_,hJ.closed ho hdep,?_,?_,?_,fun p hp'=>hp.sp h3 hty (List.all_eq_true.1 hok2 p hp') (hJ.k p hp')⟩)
 ·intro j hj;by_cases hji:j=i
  ·subst hji;unfold SL;rw[hl];trivial
  ·rw[upd_ne hji]at hj⊢;exact hp.sp h3 hty (aLX hok1 j) (hJ.s j hj)
 ·intro j hj;rw[upd_ne (by omega)];exact hJ.b j hj
 ·intro y hy;obtain⟨m,hm⟩:=List.mem_iff_getElem?.1 hy;by_cases hmn:m=n
  ·subst hmn;rw[hx]at hm;injection hm with hm;subst hm;intro _;refine⟨g,by rw[(Ce.same (L:=L) hal).2];exact h1,h2,?_⟩;rw[hst,qI,if_pos rfl,upd_ne hsi];exact hp.new h3
  ·obtain⟨ha,hs⟩:=hn m y hm hmn;intro hyl;refine Ce.ok_other (hJ.c y hy) hL ha hs (hJ.srcs hck hy) (fun g' u hu hpt=>hu.heap (hp.heap fun e=>?_)) hyl;subst e;rw[(Ce.same (L:=L) (vals:=vals) (v:=v) ha).1]at hyl;exact hJ.d m n y x hmn hm hx hyl hlive (hpt.trans h1.symm)
 ·intro m k y z hmk hy hz h1' h2';have na:∀(m:Nat) (y:Ce),cs[m]? =some y→y.al≠some i:=fun m y hm=>by
   by_cases hmn:m=n
   ·subst hmn;rw[hx]at hm;injection hm with hm;subst hm;exact hal
   ·exact (hn m y hm hmn).1
  obtain⟨e1,e2⟩:=Ce.same (L:=L) (vals:=vals) (v:=v) (na m y hy);obtain⟨e3,e4⟩:=Ce.same (L:=L) (vals:=vals) (v:=v) (na k z hz);rw[e1]at h1';rw[e3]at h2';rw[e2,e4];exact hJ.d m k y z hmk hy hz h1' h2'
theorem JC.no{i:Nat}{o:Oper}(c:Ctx ops a F)(hck:dG ops cs=true)(ho:ops[i]? =some o)(hg:bW ops l o false=true)(hf:(cs.all fun c=>c.al != some i && c.st != i)=true)(hl:l.getD i .any=.no):
  Ja.Step P ops (JC w0 ops l cs ks) F i o:=by
 intro L vals w hL hdep hJ;rw[if_neg (by rw[oJ (w:=w) c ho hg (fun e he hb=>hJ.s _ (hdep e he hb))];decide)];have hi:i<ops.size:=(Array.getElem?_eq_some_iff.1 ho).1;refine⟨hJ.q,?_,hJ.closed ho hdep,?_,?_,?_,hJ.k⟩
 ·intro j hj;by_cases hji:j=i
  ·subst hji;unfold SL;rw[hl];exact qI
  ·rw[upd_ne hji]at hj⊢;exact hJ.s j hj
 ·intro j hj;rw[upd_ne (by omega)];exact hJ.b j hj
 ·intro x hx;have hfx:=List.all_eq_true.1 hf x hx;simp only[Bool.and_eq_true,bne_iff_ne]at hfx;exact Ce.ok_other (hJ.c x hx) hL hfx.1 hfx.2 (hJ.srcs hck hx) (fun g u hu _=>hu)
 ·intro m k y z hmk hy hz h1 h2;have hfx:=List.all_eq_true.1 hf y (List.mem_of_getElem? hy);have hfy:=List.all_eq_true.1 hf z (List.mem_of_getElem? hz);simp only[Bool.and_eq_true,bne_iff_ne]at hfx hfy;obtain⟨e1,e2⟩:=Ce.same (L:=L) (vals:=vals) (v:=undef) hfx.1;obtain⟨e3,e4⟩:=Ce.same (L:=L) (vals:=vals) (v:=undef) hfy.1;rw[e1]at h1;rw[e3]at h2;rw[e2,e4];exact hJ.d m k y z hmk hy hz h1 h2
theorem JC.o{i:Nat}{o:Oper}{rest:List Oper}(c:Ctx ops a F)
  (h:∀(L:Nat→Bool) (vals:Nat→Value) (w:World),L i=false→JC w0 ops l cs ks L vals w→(∀j,(o.after.any fun e=>Region.binds .any e && e.on == j)=true→SL l j (vals j) w)→
   ∀K:Act→World→Prop,Hid (∀v w' a',a'=(F vals).put o.dst v→SL l i v w'→Q w w'→K a' w')→o.wp P (F vals) w K (fun _ _ _=>False))
  (hr:Ja.Steps P ops (JC w0 ops l cs ks) F (i+1) rest) (hck:dG ops cs=true:=by kernel_rfl) (ho:ops[i]? =some o:=by rfl) (hg:bW ops l o true=true:=by kernel_rfl) (hf:(cs.all fun c=>c.al != some i && c.st != i)=true:=by kernel_rfl):
  Ja.Steps P ops (JC w0 ops l cs ks) F i (o::rest):=Ja.Steps.cons (JC.other c hck ho hg hf h) hr
theorem JC.n{i:Nat}{o:Oper}{rest:List Oper}(c:Ctx ops a F)(hr:Ja.Steps P ops (JC w0 ops l cs ks) F (i+1) rest)(hck:dG ops cs=true:=by kernel_rfl)(ho:ops[i]? =some o:=by rfl)(hg:bW ops l o false=true:=by kernel_rfl)
  (hf:(cs.all fun c=>c.al != some i && c.st != i)=true:=by kernel_rfl) (hl:l.getD i .any=.no:=by rfl):Ja.Steps P ops (JC w0 ops l cs ks) F i (o::rest):=Ja.Steps.cons (JC.no c hck ho hg hf hl) hr
structure At0 (w0:World) (cs:List Ce) (ks:List (Value × Vs)) (w:World):Prop where
 q:Q w0 w
 c:∀c∈cs,c.al=none→w0.heap.size≤c.g∧NbV w c.g c.t c.ck c.row
 d:∀(m k:Nat) (y z:Ce),m≠k→cs[m]? =some y→cs[k]? =some z→y.al=none→z.al=none→y.g≠z.g
 k:∀p∈ks,p.2.holds p.1 w
theorem JC.init{w:World}(h:At0 w0 cs ks w)(vals:Nat→Value):JC w0 ops l cs ks (fun _=>false) vals w:=by
 have live:∀c:Ce,c.live (fun _=>false)=true→c.al=none:=fun c hc=>by
  unfold Ce.live at hc;split at hc
  ·assumption
  ·cases hc
 refine⟨h.q,fun j hj=>(by cases hj),fun i j hi=>(by cases hi),fun _ _=>rfl,fun c hc hl=>?_,fun m k y z hmk hy hz h1 h2=>?_,h.k⟩
 ·obtain⟨h1,h2⟩:=h.c c hc (live c hl);exact⟨c.g,by unfold Ce.ptr;rw[live c hl],h1,h2⟩
 ·have e1:=live y h1;have e2:=live z h2;unfold Ce.ptr;rw[e1,e2];intro e;injection e with e;injection e with e;injection e with e;exact h.d m k y z hmk hy hz e1 e2 e
theorem At0.drew{w:World}(h:At0 w0 cs ks w):At0 w0 cs ks w.drew:=
 ⟨h.q.drew,fun c hc hn=>⟨(h.c c hc hn).1,(h.c c hc hn).2.q (Q.refl _).drew⟩,h.d,fun p hp=>Vs.mono (Q.refl _).drew (h.k p hp)⟩
end
def xR(w0 w:World):List Ce→Prop
 | []=>True
 |c::cs=>(c.al=none→w0.heap.size≤c.g∧NbV w c.g c.t c.ck c.row)∧xR w0 w cs
def tQ:List Ce→Prop
 | []=>True
 |c::cs=>(∀d∈cs,c.al=none→d.al=none→c.g≠d.g)∧tQ cs
def xS(w:World):List (Value × Vs)→Prop
 | []=>True
 |p::ps=>p.2.holds p.1 w∧xS w ps
theorem xR.mem{w0 w:World}:∀{cs:List Ce},xR w0 w cs→∀c∈cs,c.al=none→w0.heap.size≤c.g∧NbV w c.g c.t c.ck c.row
 | [],_,_,h=>by cases h
 |c::cs,h,d,hd=>by
  rcases List.mem_cons.1 hd with rfl|hd
  ·exact h.1
  ·exact xR.mem h.2 d hd
theorem tQ.at:∀{cs:List Ce},tQ cs→∀(m k:Nat) (y z:Ce),m≠k→cs[m]? =some y→cs[k]? =some z→y.al=none→z.al=none→y.g≠z.g
 | [],_,_,_,_,_,_,h,_,_,_=>by simp at h
 |c::cs,h,0,0,_,_,hmk,_,_,_,_=>absurd rfl hmk
 |c::cs,h,0,k+1,y,z,_,hy,hz,h1,h2=>by
  simp at hy;subst hy;exact h.1 z (List.mem_of_getElem? (by simpa using hz)) h1 h2
 |c::cs,h,m+1,0,y,z,_,hy,hz,h1,h2=>by
  simp at hz;subst hz;exact fun e=>h.1 y (List.mem_of_getElem? (by simpa using hy)) h2 h1 e.symm
 |c::cs,h,m+1,k+1,y,z,hmk,hy,hz,h1,h2=>tQ.at h.2 m k y z (fun e=>hmk (by rw[e])) (by simpa using hy) (by simpa using hz) h1 h2
theorem xS.mem{w:World}:∀{ks:List (Value × Vs)},xS w ks→∀p∈ks,p.2.holds p.1 w
 | [],_,_,h=>by cases h
 |c::cs,h,d,hd=>by
  rcases List.mem_cons.1 hd with rfl|hd
  ·exact h.1
  ·exact xS.mem h.2 d hd
theorem At0.of{w0 w:World}{cs:List Ce}{ks:List (Value × Vs)}(hq:Q w0 w)(h1:xR w0 w cs)(h2:tQ cs)(h3:xS w ks):At0 w0 cs ks w:=⟨hq,h1.mem,h2.at,h3.mem⟩
section
variable {ops:Array Oper} {l:List Vs} {cs:List Ce} {ks:List (Value × Vs)} {w0:World} {L:Nat→Bool} {vals:Nat→Value} {W:World}
theorem JC.at(h:JC w0 ops l cs ks L vals W)(n:Nat){x:Ce}(hx:cs[n]? =some x)(hal:x.al=none)(hst:L x.st=false):NbV W x.g x.t x.ck x.row:=by
 obtain⟨g,h1,h2,h3⟩:=h.c x (List.mem_of_getElem? hx) (by unfold Ce.live;rw[hal]);unfold Ce.ptr at h1;rw[hal]at h1;injection h1 with h1;injection h1 with h1;injection h1 with h1;rw[hst,if_neg (by decide)]at h3;rw[h1];exact h3
theorem JC.before(h:JC w0 ops l cs ks L vals W)(n i:Nat){x:Ce}(hx:cs[n]? =some x)(hal:x.al=none)(hi:L i=false)(h1:waits ops x.st x.src=true)(h2:waits ops x.src i=true):NbV W x.g x.t x.ck x.row:=by
 refine h.at n hx hal ?_;cases hs:L x.st with
 |false=>rfl
 |true=>
  have:=h.cl _ _ (h.cl _ _ hs h1) h2;rw[hi]at this;cases this
theorem JC.fresh(h:JC w0 ops l cs ks L vals W)(n:Nat){x:Ce}{a:Nat}(hx:cs[n]? =some x)(hal:x.al=some a)(ha:L a=true)(hst:L x.st=true):
  ∃g,vals a=.pointer (some ⟨g,0,none⟩)∧w0.heap.size≤g∧NbV W g x.t x.ck (vals x.src):=by
 obtain⟨g,h1,h2,h3⟩:=h.c x (List.mem_of_getElem? hx) (by unfold Ce.live;rw[hal];exact ha);unfold Ce.ptr at h1;rw[hal]at h1;rw[hst,if_pos rfl]at h3;exact⟨g,h1,h2,h3⟩
theorem JC.ne(h:JC w0 ops l cs ks L vals W)(m k:Nat){y z:Ce}(hmk:m≠k)(hy:cs[m]? =some y)(hz:cs[k]? =some z)(h1:y.live L=true)(h2:z.live L=true){g g':Nat}
  (e1:y.ptr vals=.pointer (some ⟨g,0,none⟩)) (e2:z.ptr vals=.pointer (some ⟨g',0,none⟩)):g≠g':=by
 intro e;subst e;exact h.d m k y z hmk hy hz h1 h2 (e1.trans e2.symm)
theorem JC.kept(h:JC w0 ops l cs ks L vals W)(n:Nat){p:Value × Vs}(hp:ks[n]? =some p):p.2.holds p.1 W:=h.k p (List.mem_of_getElem? hp)
end
end K
namespace E
open Go Go.RowKit
open Ma Me K
structure Cx where
 n:Nat
 /--the numbers that are known here -/
 k:Nat→Prop
 r:Nat→Nat
 w:World
 z:TypeId→Nat
def ptr(c:Cx)(p:Nat × Nat):Value:=.pointer (some ⟨c.r p.1,p.2,none⟩)
def SR(c:Cx):SV→Value→Prop
 | .u,_=>False
 | .b x,v=>v=.bool x
 | .i k n,v=>v=.int k n
 | .s l,v=>∃s,v=.string s∧bytes s=l
 | .np,v=>v=.pointer none
 | .p id off,v=>c.k id∧v=.pointer (some ⟨c.r id,off,none⟩)
 | .ns,v=>v=.slice none 0 0
 | .sl id off len (some cap),v=>c.k id∧v=.slice (some ⟨c.r id,off,none⟩) len cap
 | .sl id off len none,v=>c.k id∧∃cap o,len≤cap∧v=.slice (some ⟨c.r id,o,none⟩) len cap∧(len≠0∨off=0→o=off)∧∃t cs fr,c.w.heap[c.r id]? =some (.cells cs t fr)∧(off=0→cap*c.z t≤cs.size)
 | .m n,v=>Nm c.w v n
 | .nf,v=>v=.nilFunc
 | .f fn cs,v=>(∀p∈cs,c.k p.1)∧v=.func (.func fn) #[] (cs.map (ptr c)).toArray
 | .y l,v=>c.k l∧v=.func (.yield (c.r l)) #[] #[]
 | .r n,v=>Nr c.w v n
 | .v x,v=>v=x∧aHW x=true
 | .nq,v=>v=.map none
 | .q id,v=>c.k id∧v=.map (some (c.r id))
def CL(c:Cx):List SV→List Value→Prop
 | [],[]=>True
 |x::l,v::r=>SR c x v∧CL c l r
 |_,_=>False
def VC(c:Cx):Bool→List SV→Value→Prop
 |true,l,v=>∃cs,v=.agg cs.toArray∧CL c l cs
 |false,l,v=>∃x,l=[x]∧SR c x v
def TL(c:Cx):List (Bool × List SV)→List Value→Prop
 | [],[]=>True
 |p::l,v::r=>VC c p.1 p.2 v∧TL c l r
 |_,_=>False
def VR(c:Cx):AV→Value→Prop
 | .c g l,v=>VC c g l v
 | .t l,v=>∃vs,v=.tuple vs.toArray∧TL c l vs
def VL(c:Cx):List AV→List Value→Prop
 | [],[]=>True
 |x::l,v::r=>VR c x v∧VL c l r
 |_,_=>False
def Tr(c:Cx)(nt:Nat)(e:Env)(tm:Array Value):Prop:=tm.size=nt∧∀k v,e.get k=some v→∃u,tm[k]? =some u∧VR c v u
def Nu(row:List Value):Prop:=∀x∈row,∀z,x≠.int .u64 z
def Bl(c:Cx)(b:B)(g:Nat):Prop:=∃row tail,Bx c.w g b.ty (row++tail)∧CL c b.c row∧(calm b.c=true→Nu tail)
def EL(c:Cx):List (AV × AV)→List MapEntry→Prop
 | [],[]=>True
 |p::l,m::r=>(VR c p.1 m.key∧VR c p.2 m.val)∧EL c l r
 |_,_=>False
def MpR(c:Cx)(l:List (AV × AV))(o:Obj):Prop:=∃es n,o=.map es n∧EL c l es.toList∧es.toList.map (·.born)=List.range es.size∧n=es.size
def lst(p:Lp):LoopState:=if p.st then .ready else if p.pd.isSome then .done else .busy
def LpR(c:Cx)(p:Lp)(g:Nat):Prop:=∃o,c.w.heap[g]? =some o∧(∀cs t fr,o≠.cells cs t fr)∧(∀x,o≠.deferred x)∧(p.dd=false→∃D tm,o=.loop {state:=lst p,pending:=p.pd,fn:=p.fn,tmps:=tm,params:=p.ps.toArray,assign:=p.cs,body:=p.bd,defers:=D}∧Tr c p.nt p.e tm)∧(∀l k,p.it=some (l,k)→∃s,o=.stringIter s k∧bytes s=l)∧(∀l,p.mp=some l→MpR c l o)∧∀q,p.mi=some q→c.k q.m∧o=.mapIter (some (c.r q.m)) q.n q.k.toArray q.s
def Lv(c:Cx)(id:Nat)(b:B):Prop:=c.k id∧b.c≠[]
structure Rl (c:Cx) (wb:World) (h:H):Prop where
 n:c.n=h.n
 k:∀id,c.k id→id<c.n
 q:Q wb c.w
 blk:∀id b,h.h.get id=some b→id<h.n∧(Lv c id b→Bl c b (c.r id))
 inj:∀i j b d,h.h.get i=some b→h.h.get j=some d→Lv c i b→Lv c j d→i≠j→c.r i≠c.r j
 new:∀id b,h.h.get id=some b→Lv c id b→h.bar≤id→wb.heap.size≤c.r id
 lp:∀l p,h.l.get l=some p→l<h.n∧(c.k l→LpR c p (c.r l)∧(h.bar≤l→wb.heap.size≤c.r l))
 li:∀i j p d,h.l.get i=some p→h.l.get j=some d→c.k i→c.k j→i≠j→c.r i≠c.r j
structure Ps (w w':World):Prop where
 m:∀v N,Nm w v N→Nm w' v N
 mr:∀v N,Nr w v N→Nr w' v N
 s:∀(g:Nat) (t:TypeId) (cs:Array Value) (fr:Nat × Nat),w.heap[g]? =some (Obj.cells cs t fr)→∃cs':Array Value,w'.heap[g]? =some (Obj.cells cs' t fr)∧cs'.size=cs.size
 n:w.heap.size≤w'.heap.size
 d:∀g:Nat,w.heap[g]? =some (Obj.deferred (some []))→w'.heap[g]? =some (Obj.deferred (some []))
theorem Ps.refl(w:World):Ps w w:=⟨fun _ _ h=>h,fun _ _ h=>h,fun _ _ cs _ h=>⟨cs,h,rfl⟩,Nat.le_refl _,fun _ h=>h⟩
theorem Ps.trans{a b c:World}(h:Ps a b)(k:Ps b c):Ps a c:=⟨fun v N x=>k.m v N (h.m v N x),fun v N x=>k.mr v N (h.mr v N x),fun g t cs fr x=>let ⟨d,h1,h2⟩:=h.s g t cs fr x;let ⟨e,h3,h4⟩:=k.s g t d fr h1;⟨e,h3,h4.trans h2⟩,Nat.le_trans h.n k.n,fun g x=>k.d g (h.d g x)⟩
theorem Ps.q{a b:World}(h:Q a b):Ps a b:=⟨fun _ _ x=>x.q h,fun _ _ x=>x.q h,fun _ _ cs _ x=>⟨cs,(h.heap (Array.getElem?_eq_some_iff.1 x).1).trans x,rfl⟩,h.size,fun _ x=>(h.heap (Array.getElem?_eq_some_iff.1 x).1).trans x⟩
structure Xt (c d:Cx):Prop where
 n:c.n≤d.n
 k:∀id,c.k id→d.k id
 o:∀id,d.k id→c.k id∨c.n≤id
 r:∀id,c.k id→d.r id=c.r id
 p:Ps c.w d.w
 z:d.z=c.z
theorem Xt.refl(c:Cx):Xt c c:=⟨Nat.le_refl _,fun _ h=>h,fun _ h=>.inl h,fun _ _=>rfl,Ps.refl _,rfl⟩
theorem Xt.trans{a b c:Cx}(h:Xt a b)(k:Xt b c):Xt a c:=⟨Nat.le_trans h.n k.n,fun id hi=>k.k id (h.k id hi),fun id hi=>(k.o id hi).elim (fun q=>h.o id q) fun q=>.inr (Nat.le_trans h.n q),fun id hi=>(k.r id (h.k id hi)).trans (h.r id hi),h.p.trans k.p,k.z.trans h.z⟩
structure Xs (c d:Cx):Prop where
 k:∀id,c.k id→d.k id
 r:∀id,c.k id→d.r id=c.r id
 m:∀v N,Nm c.w v N→Nm d.w v N
 mr:∀v N,Nr c.w v N→Nr d.w v N
 s:∀(g:Nat) (t:TypeId) (cs:Array Value) (fr:Nat × Nat),c.w.heap[g]? =some (Obj.cells cs t fr)→∃cs':Array Value,d.w.heap[g]? =some (Obj.cells cs' t fr)∧cs'.size=cs.size
 z:d.z=c.z
theorem Xt.xs{c d:Cx}(x:Xt c d):Xs c d:=⟨x.k,x.r,x.p.m,x.p.mr,x.p.s,x.z⟩
section
variable {c d:Cx}
theorem SR.xs(x:Xs c d){s:SV}{v:Value}(h:SR c s v):SR d s v:=by
 cases s with
 |p id off=>exact⟨x.k _ h.1,by rw[x.r _ h.1];exact h.2⟩
 |sl id off len cap=>
  cases cap with
  |some cap=>exact⟨x.k _ h.1,by rw[x.r _ h.1];exact h.2⟩
  |none=>
   obtain⟨h1,cap,o,h2,h3,h4,t,cs,fr,h5,h6⟩:=h;obtain⟨cs',h7,h8⟩:=x.s _ _ _ _ h5;exact⟨x.k _ h1,cap,o,h2,by rw[x.r _ h1];exact h3,h4,t,cs',fr,by rw[x.r _ h1];exact h7,by rw[h8,x.z];exact h6⟩
 |m n=>exact x.m _ _ h
 |r n=>exact x.mr _ _ h
 |f fn cs=>
  refine⟨fun p hp=>x.k _ (h.1 p hp),h.2.trans ?_⟩;congr 2;exact List.map_congr_left fun p hp=>by unfold ptr;rw[x.r _ (h.1 p hp)]
 |y l=>exact⟨x.k _ h.1,by rw[x.r _ h.1];exact h.2⟩
 |q id=>exact⟨x.k _ h.1,by rw[x.r _ h.1];exact h.2⟩
 |_=>exact h
theorem CL.xs(x:Xs c d):∀{l:List SV} {r:List Value},CL c l r→CL d l r
 | [],[],_=>trivial
 |_::_,_::_,h=>⟨h.1.xs x,CL.xs x h.2⟩
theorem VC.xs(x:Xs c d){g:Bool}{l:List SV}{v:Value}(h:VC c g l v):VC d g l v:=by
 cases g with
 |true=>obtain⟨cs,h1,h2⟩:=h;exact⟨cs,h1,h2.xs x⟩
 |false=>obtain⟨s,h1,h2⟩:=h;exact⟨s,h1,h2.xs x⟩
theorem TL.xs(x:Xs c d):∀{l:List (Bool × List SV)} {r:List Value},TL c l r→TL d l r
 | [],[],_=>trivial
 |_::_,_::_,h=>⟨h.1.xs x,TL.xs x h.2⟩
theorem VR.xs(x:Xs c d){a:AV}{v:Value}(h:VR c a v):VR d a v:=by
 cases a with
 |c g l=>exact VC.xs x h
 |t l=>obtain⟨vs,h1,h2⟩:=h;exact⟨vs,h1,h2.xs x⟩
theorem VL.xs(x:Xs c d):∀{l:List AV} {r:List Value},VL c l r→VL d l r
 | [],[],_=>trivial
 |_::_,_::_,h=>⟨h.1.xs x,VL.xs x h.2⟩
theorem EL.xs(x:Xs c d):∀{l:List (AV × AV)} {r:List MapEntry},EL c l r→EL d l r
 | [],[],_=>trivial
 |_::_,_::_,h=>⟨⟨h.1.1.xs x,h.1.2.xs x⟩,EL.xs x h.2⟩
theorem EL.len:∀{l:List (AV × AV)} {r:List MapEntry},EL c l r→r.length=l.length
 | [],[],_=>rfl
 |_::_,_::_,h=>by simp[EL.len h.2]
theorem MpR.xs(x:Xs c d){l:List (AV × AV)}{o:Obj}(h:MpR c l o):MpR d l o:=by
 obtain⟨es,n,h1,h2,h3⟩:=h;exact⟨es,n,h1,h2.xs x,h3⟩
theorem Tr.xs(x:Xs c d){nt:Nat}{e:Env}{tm:Array Value}(h:Tr c nt e tm):Tr d nt e tm:=
 ⟨h.1,fun k v hk=>let ⟨u,h1,h2⟩:=h.2 k v hk;⟨u,h1,h2.xs x⟩⟩
theorem SR.xt(x:Xt c d){s:SV}{v:Value}(h:SR c s v):SR d s v:=h.xs x.xs
theorem CL.xt(x:Xt c d){l:List SV}{r:List Value}(h:CL c l r):CL d l r:=h.xs x.xs
theorem VC.xt(x:Xt c d){g:Bool}{l:List SV}{v:Value}(h:VC c g l v):VC d g l v:=h.xs x.xs
theorem TL.xt(x:Xt c d){l:List (Bool × List SV)}{r:List Value}(h:TL c l r):TL d l r:=h.xs x.xs
theorem VR.xt(x:Xt c d){a:AV}{v:Value}(h:VR c a v):VR d a v:=h.xs x.xs
theorem VL.xt(x:Xt c d){l:List AV}{r:List Value}(h:VL c l r):VL d l r:=h.xs x.xs
theorem Tr.xt(x:Xt c d){nt:Nat}{e:Env}{tm:Array Value}(h:Tr c nt e tm):Tr d nt e tm:=h.xs x.xs
theorem CL.len:∀{l:List SV} {r:List Value},CL c l r→r.length=l.length
 | [],[],_=>rfl
 |_::_,_::_,h=>by simp[CL.len h.2]
theorem CL.take(n:Nat):∀{l:List SV} {r:List Value},CL c l r→CL c (l.take n) (r.take n)
 | [],[],_=>by simp[CL]
 |_::_,_::_,h=>by
  cases n with
  |zero=>trivial
  |succ n=>exact⟨h.1,CL.take n h.2⟩
theorem CL.drop(n:Nat):∀{l:List SV} {r:List Value},CL c l r→CL c (l.drop n) (r.drop n)
 | [],[],_=>by simp[CL]
 |_::_,_::_,h=>by
  cases n with
  |zero=>exact h
  |succ n=>exact CL.drop n h.2
theorem CL.app:∀{l m:List SV} {r s:List Value},CL c l r→CL c m s→CL c (l++m) (r++s)
 | [],_,[],_,_,k=>k
 |_::_,_,_::_,_,h,k=>⟨h.1,CL.app h.2 k⟩
theorem CL.at_:∀{l:List SV} {r:List Value} {j:Nat} {x:SV},CL c l r→l[j]? =some x→∃v,r[j]? =some v∧SR c x v
 | [],[],_,_,_,h=>by simp at h
 |y::_,v::_,0,x,h,hx=>by simp at hx;subst hx;exact⟨v,rfl,h.1⟩
 |_::_,_::_,j+1,x,h,hx=>by
  obtain⟨v,h1,h2⟩:=CL.at_ (j:=j) h.2 (by simpa using hx);exact⟨v,by simpa using h1,h2⟩
theorem CL.calm:∀{l:List SV} {r:List Value},CL c l r→calm l=true→Nu r
 | [],[],_,_=>fun x hx=>by cases hx
 |s::l,v::r,h,k=>by
  have k2:E.calm (s::l)=cb (uW s) (E.calm l) false:=rfl;rw[k2,aL]at k;split at k
  ·rename_i ks;intro y hy z;rcases List.mem_cons.1 hy with rfl|hy
   ·intro e;subst e;have hs:=h.1;cases s with
    |u=>cases hs
    |i kk n=>cases hs;cases ks
    |sl id off len cap=>cases cap<;>simp[SR]at hs
    |m n=>obtain⟨A,c,ws,h1,-⟩:=hs;cases h1
    |s l=>obtain⟨_,h1,-⟩:=hs;cases h1
    |p id off=>cases hs.2
    |f fn cs=>cases hs.2
    |y l=>cases hs.2
    |r n=>obtain⟨A,c,ws,h1,-⟩:=hs;cases h1
    |v x=>obtain⟨h1,h2⟩:=hs;subst h1;cases h2
    |q id=>cases hs.2
    |_=>cases hs
   ·exact CL.calm h.2 k y hy z
  ·cases k
theorem iK{b:B}(h:mR b=true):E.calm b.c=true∧b.ty≠tyR:=by
 have h:cb (Nat.beq b.ty tyR) false (E.calm b.c)=true:=h;cases hb:Nat.beq b.ty tyR with
 |true=>rw[hb]at h;cases h
 |false=>
  rw[hb]at h;exact⟨h,fun e=>by rw[e,Nat.beq_refl]at hb;cases hb⟩
theorem Bl.xs(x:Xs c d){b:B}{g:Nat}(hh:d.w.heap[g]? =c.w.heap[g]?)(h:Bl c b g):Bl d b g:=by
 obtain⟨row,tail,h1,h2,h3⟩:=h;exact⟨row,tail,hh.trans h1,h2.xs x,h3⟩
theorem Bl.xt(x:Xt c d){b:B}{g:Nat}(hh:d.w.heap[g]? =c.w.heap[g]?)(h:Bl c b g):Bl d b g:=h.xs x.xs hh
theorem Bl.lt{b:B}{g:Nat}(h:Bl c b g):g<c.w.heap.size:=by
 obtain⟨row,tail,h1,-⟩:=h;exact h1.lt
theorem LpR.lt{p:Lp}{g:Nat}(h:LpR c p g):g<c.w.heap.size:=by
 obtain⟨rc,h1,-⟩:=h;exact (Array.getElem?_eq_some_iff.1 h1).1
theorem LpR.xs(x:Xs c d){p:Lp}{g:Nat}(hh:d.w.heap[g]? =c.w.heap[g]?)(h:LpR c p g):LpR d p g:=by
 obtain⟨o,h1,h2,h2',h3,h4,h5,h6⟩:=h;exact⟨o,hh.trans h1,h2,h2',fun hd=>let ⟨D,tm,h3,h4⟩:=h3 hd;⟨D,tm,h3,h4.xs x⟩,h4,(fun l hl=>(h5 l hl).xs x),fun q hq=>⟨x.k _ (h6 q hq).1,by rw[x.r _ (h6 q hq).1];exact (h6 q hq).2⟩⟩
theorem LpR.xt(x:Xt c d){p:Lp}{g:Nat}(hh:d.w.heap[g]? =c.w.heap[g]?)(h:LpR c p g):LpR d p g:=h.xs x.xs hh
theorem aDn{b:B}{p:Lp}{g k:Nat}(h:Bl c b g)(hl:LpR c p k):k≠g:=by
 intro e;subst e;obtain⟨row,tail,h1,-⟩:=h;obtain⟨rc,h2,h3,-⟩:=hl;rw[h1]at h2;injection h2 with h2;exact h3 _ _ _ h2.symm
theorem Ps.one{w w':World}{g:Nat}{t:TypeId}{row:List Value}(hb:Bx w g t row)(hn:Nu row)(ht:t≠tyR)(hk:∀k,k≠g→w'.heap[k]? =w.heap[k]?)(hs:w'.heap.size=w.heap.size){row':List Value}(hb':Bx w' g t row')(hl:row'.length=row.length):Ps w w':=by
 refine⟨fun v N h=>?_,fun v N h=>?_,fun k t2 cs fr hc=>?_,by omega,fun k hc=>?_⟩
 rotate_left
 rotate_left
 rotate_left
 ·have hkg:k≠g:=fun e=>by
   subst e;unfold Bx at hb;rw[hb]at hc;cases hc
  exact (hk k hkg).trans hc
 rotate_left
 rotate_left
 ·by_cases hkg:k=g
  ·subst hkg;unfold Bx at hb;rw[hb]at hc;injection hc with hc;injection hc with h1 h2 h3;subst h1;subst h2;subst h3;exact⟨_,hb',by simpa using hl⟩
  ·exact⟨cs,(hk k hkg).trans hc,rfl⟩
 rotate_left
 ·obtain⟨A,c,ds,h1,h2,h3,h4,h5⟩:=h;refine⟨A,c,ds,h1,h2,fun hw=>?_,h4,h5⟩;obtain⟨ad,e,hlt,hc,cs,fr,hb2⟩:=h3 hw;have hne:ad.block≠g:=by
   intro e;unfold Bx at hb;rw[e,hb]at hb2;injection hb2 with hb2;injection hb2 with _ hb2;exact ht hb2
  have he:=hk _ hne;exact⟨ad,e,by omega,fun j d hd=>(gZ (p:=ad.add j) (by unfold Addr.add;split<;>exact he)).trans (hc j d hd),cs,fr,he.trans hb2⟩
 obtain⟨A,c,ws,h1,h2,h3,h4,h5⟩:=h;refine⟨A,c,ws,h1,h2,fun hw=>?_,h4,h5⟩;obtain⟨b,o,e,hlt,hc⟩:=h3 hw;have hne:b≠g:=by
  intro e;have h2:=hc 0 _ (List.getElem?_eq_getElem hw);unfold Bx at hb;rw[←e]at hb;have h3:row[o+0]? =some (.int .u64 ((ws[0]:Nat):Int)):=(by simpa [World.cell?,hb] using h2);exact hn _ (List.mem_of_getElem? h3) _ rfl
 have he:=hk _ hne;exact⟨b,o,e,by omega,fun j u hu=>(gZ (p:=⟨b,o+j,none⟩) he).trans (hc j u hu)⟩
end
def Cx.nw(c:Cx)(o:Obj):Cx:=⟨c.n+1,fun id=>c.k id∨id=c.n,fun id=>if id=c.n then c.w.heap.size else c.r id,c.w.alloc o,c.z⟩
section
variable {c:Cx} {wb:World} {h:H}
theorem rD(hk:∀id,c.k id→id<c.n)(o:Obj):Xt c (c.nw o):=⟨Nat.le_succ _,fun id hi=>.inl hi,fun id hi=>hi.elim .inl fun q=>.inr (by omega),fun id hi=>if_neg (by have:=hk id hi;omega),Ps.q ((Q.refl _).alloc o),rfl⟩
theorem mK(o:Obj):(c.nw o).r c.n=c.w.heap.size:=if_pos rfl
theorem dP(o:Obj){id:Nat}(hi:id<c.n):(c.nw o).r id=c.r id:=if_neg (by omega)
theorem Rl.size(hr:Rl c wb h):wb.heap.size≤c.w.heap.size:=hr.q.size
theorem Rl.nw(hr:Rl c wb h)(b:B){row tail:List Value}(hb:CL c b.c row)(ht:calm b.c=true→Nu tail):
  Rl (c.nw (.cells (row++tail).toArray b.ty)) wb ⟨h.h.set b h.n,Nat.succ h.n,h.bar,h.l⟩:=by
 have hn:=hr.n;have hsz:=hr.size;have X:=rD (c:=c) hr.k (.cells (row++tail).toArray b.ty);have hold:∀k,k<c.w.heap.size→(c.nw (.cells (row++tail).toArray b.ty)).w.heap[k]? =c.w.heap[k]? :=fun k hk=>Below.heap_alloc _ _ k hk;have hnew:Bl (c.nw (.cells (row++tail).toArray b.ty)) b ((c.nw (.cells (row++tail).toArray b.ty)).r h.n):=by
  rw[←hn,mK];exact⟨row,tail,Bx.new _ _ _,hb.xt X,ht⟩
 have key:∀id b',(T.set b h.h h.n).get id=some b'→(id=h.n∧b'=b)∨(id<h.n∧h.h.get id=some b'):=fun id b' hg=>by
  rcases T.get_set hg with⟨h1,h2⟩|⟨h1,h2⟩
  ·exact .inl ⟨h1,h2⟩
  ·exact .inr ⟨(hr.blk id b' h2).1,h2⟩
 have lv:∀{id b'},id<h.n→Lv (c.nw (.cells (row++tail).toArray b.ty)) id b'→Lv c id b':=fun hi q=>⟨q.1.elim (fun q=>q) fun q=>by omega,q.2⟩
 have kk:∀{id},id<h.n→(c.nw (.cells (row++tail).toArray b.ty)).k id→c.k id:=fun hi q=>q.elim (fun q=>q) fun q=>by omega
 refine⟨by show c.n+1=h.n+1;rw[hn],fun id q=>by show id<c.n+1;exact q.elim (fun q=>Nat.lt_succ_of_lt (hr.k id q)) fun q=>by omega,hr.q.alloc _,fun id b' hg=>?_,fun i j b' d hi hj hb' hd hij=>?_,fun id b' hg hc hbar=>?_,fun l p hl=>?_,fun i j p d hi hj ki kj hij=>?_⟩
 ·rcases key id b' hg with⟨rfl,rfl⟩|⟨h1,h2⟩
  ·exact⟨Nat.lt_succ_self _,fun _=>hnew⟩
  ·refine⟨Nat.lt_succ_of_lt h1,fun hc=>?_⟩;rw[dP _ (by omega)];have:=(hr.blk id b' h2).2 (lv h1 hc);exact this.xt X (hold _ this.lt)
 ·rcases key i b' hi with⟨rfl,rfl⟩|⟨h1,h2⟩
  ·rcases key j d hj with⟨rfl,rfl⟩|⟨h3,h4⟩
   ·exact absurd rfl hij
   ·have:=((hr.blk j d h4).2 (lv h3 hd)).lt;rw[←hn,mK,dP _ (by omega)];omega
  ·have h5:=((hr.blk i b' h2).2 (lv h1 hb')).lt;rcases key j d hj with⟨rfl,rfl⟩|⟨h3,h4⟩
   ·rw[dP _ (by omega),←hn,mK];omega
   ·rw[dP _ (by omega),dP _ (by omega)];exact hr.inj i j b' d h2 h4 (lv h1 hb') (lv h3 hd) hij
 ·rcases key id b' hg with⟨rfl,rfl⟩|⟨h1,h2⟩
  ·rw[←hn,mK];exact hsz
  ·rw[dP _ (by omega)];exact hr.new id b' h2 (lv h1 hc) hbar
 ·obtain⟨h1,h23⟩:=hr.lp l p hl;rw[dP _ (by omega)];exact⟨Nat.lt_succ_of_lt h1,fun q=>let ⟨h2,h3⟩:=h23 (kk h1 q);⟨h2.xt X (hold _ h2.lt),h3⟩⟩
 ·rw[dP _ (by have:=(hr.lp i p hi).1;omega),dP _ (by have:=(hr.lp j d hj).1;omega)];exact hr.li i j p d hi hj (kk (hr.lp i p hi).1 ki) (kk (hr.lp j d hj).1 kj) hij
def Cx.drew(c:Cx):Cx:=⟨c.n,c.k,c.r,c.w.drew,c.z⟩
theorem nG:Xt c c.drew:=⟨Nat.le_refl _,fun _ h=>h,fun _ h=>.inl h,fun _ _=>rfl,Ps.q (Q.refl _).drew,rfl⟩
theorem Rl.drew(hr:Rl c wb h):Rl c.drew wb h:=
 ⟨hr.n,hr.k,hr.q.drew,fun id b hg=>⟨(hr.blk id b hg).1,fun hc=>((hr.blk id b hg).2 hc).xt nG rfl⟩,hr.inj,hr.new,fun l p hl=>⟨(hr.lp l p hl).1,fun q=>⟨((hr.lp l p hl).2 q).1.xt nG rfl,((hr.lp l p hl).2 q).2⟩⟩,hr.li⟩
theorem vE{x:Value}(h:aBq x=true):∃t,x=.iface t (.agg #[]):=by
 unfold aBq at h;split at h
 ·rename_i t cs;split at h
  ·rename_i hc;exact⟨t,by rw[show cs=#[] from Array.toList_inj.1 hc]⟩
  ·cases h
 ·cases h
theorem aKa{x:Value}(h:aHV x=true):∃m t,x=.func (.method m) #[.iface t (.agg #[])] #[]:=by
 unfold aHV at h;split at h
 ·rename_i m a d;split at h
  ·rename_i r ha hd;obtain⟨t,rfl⟩:=vE h;exact⟨m,t,by rw[show a=#[.iface t (.agg #[])] from Array.toList_inj.1 ha,show d=#[] from Array.toList_inj.1 hd]⟩
  ·cases h
 ·cases h
theorem aKb{x:Value}(h:aHW x=true):(∃a n m,x=.slice a n m)∨(∃a,x=.pointer (some a))∨(∃t,x=.iface t (.agg #[]))∨∃m t,x=.func (.method m) #[.iface t (.agg #[])] #[]:=by
 unfold aHW at h;split at h
 ·exact .inl ⟨_,_,_,rfl⟩
 ·exact .inr (.inl ⟨_,rfl⟩)
 ·rcases (Bool.or_eq_true _ _).mp h with h|h
  ·exact .inr (.inr (.inl (vE h)))
  ·exact .inr (.inr (.inr (aKa h)))
theorem oneCell{s:SV}{v:Value}(h:SR c s v):v.oneCell'=true:=by
 cases s with
 |u=>cases h
 |s l=>obtain⟨_,rfl,-⟩:=h;rfl
 |p id off=>rw[h.2];rfl
 |sl id off len cap=>
  cases cap with
  |some cap=>rw[h.2];rfl
  |none=>obtain⟨_,_,_,_,rfl,-⟩:=h;rfl
 |m n=>obtain⟨_,_,_,rfl,-⟩:=h;rfl
 |f fn cs=>rw[h.2];rfl
 |y l=>rw[h.2];rfl
 |q id=>rw[h.2];rfl
 |r n=>obtain⟨_,_,_,rfl,-⟩:=h;rfl
 |v x=>
  obtain⟨rfl,h2⟩:=h;rcases aKb h2 with⟨a,n,m,rfl⟩|⟨a,rfl⟩|⟨t,rfl⟩|⟨m,t,rfl⟩<;>rfl
 |_=>rw[h];rfl
theorem rE:∀{l:List SV} {r:List Value},CL c l r→∀v∈r,v.oneCell'=true
 | [],[],_,_,hv=>by cases hv
 |_::_,_::_,h,v,hv=>by
  rcases List.mem_cons.1 hv with rfl|hv
  ·exact oneCell h.1
  ·exact rE h.2 v hv
def Cx.row(c:Cx)(g:Nat)(cs:List Value):Cx:=⟨c.n,c.k,c.r,c.w.setRow g cs.toArray,c.z⟩
theorem Rl.row(hr:Rl c wb h){id:Nat}{b b':B}(hg:h.h.get id=some b)(hlv:Lv c id b)(hbar:h.bar≤id)(hty:b'.ty=b.ty)(hcalm:mR b=true){row tail row' tail':List Value}(hb:Bx c.w (c.r id) b.ty (row++tail))(hc:CL c b.c row)(ht:Nu tail)(hc':CL c b'.c row')(ht':Nu tail')(hl:(row'++tail').length=(row++tail).length):
  Xt c (c.row (c.r id) (row'++tail'))∧Rl (c.row (c.r id) (row'++tail')) wb ⟨h.h.set b' id,h.n,h.bar,h.l⟩:=by
 have hnu:Nu (row++tail):=fun x hx=>by
  rcases List.mem_append.1 hx with hx|hx
  ·exact hc.calm (iK hcalm).1 x hx
  ·exact ht x hx
 have hoth:∀k,k≠c.r id→(c.row (c.r id) (row'++tail')).w.heap[k]? =c.w.heap[k]? :=fun k hk=>setRow_other _ _ _ _ hk;have X:Xt c (c.row (c.r id) (row'++tail')):=⟨Nat.le_refl _,fun _ h=>h,fun _ h=>.inl h,fun _ _=>rfl,Ps.one hb hnu (iK hcalm).2 hoth (size_setRow _ _ _) (setRow_heap _ _ _ _ _ _ hb) hl,rfl⟩
 have hB0:Bl c b (c.r id):=(hr.blk id b hg).2 hlv;have hnew:Bl (c.row (c.r id) (row'++tail')) b' (c.r id):=⟨row',tail',by rw[hty];exact setRow_heap _ _ _ _ _ _ hb,hc'.xt X,fun _=>ht'⟩
 have key:∀j b2,(T.set b' h.h id).get j=some b2→(j=id∧b2=b')∨(j≠id∧h.h.get j=some b2):=fun j b2 hg=>T.get_set hg;refine⟨X,hr.n,hr.k,below_setRow hr.q (hr.new id b hg hlv hbar) _,fun j b2 hj=>?_,fun i j x d hi hj hx hd hij=>?_,fun j b2 hj h1 h2=>?_,fun l p hl=>?_,hr.li⟩
 ·rcases key j b2 hj with⟨rfl,rfl⟩|⟨h1,h2⟩
  ·exact⟨(hr.blk _ b hg).1,fun _=>hnew⟩
  ·refine⟨(hr.blk j b2 h2).1,fun hc=>?_⟩;have:=(hr.blk j b2 h2).2 hc;exact this.xt X (hoth _ (hr.inj j id b2 b h2 hg hc hlv h1))
 ·rcases key i x hi with⟨rfl,rfl⟩|⟨h1,h2⟩
  ·rcases key j d hj with⟨rfl,rfl⟩|⟨h3,h4⟩
   ·exact absurd rfl hij
   ·exact hr.inj _ j b d hg h4 hlv hd hij
  ·rcases key j d hj with⟨rfl,rfl⟩|⟨h3,h4⟩
   ·exact hr.inj i _ x b h2 hg hx hlv hij
   ·exact hr.inj i j x d h2 h4 hx hd hij
 ·rcases key j b2 hj with⟨rfl,rfl⟩|⟨h3,h4⟩
  ·exact hr.new _ b hg hlv hbar
  ·exact hr.new j b2 h4 h1 h2
 ·obtain⟨h1,h23⟩:=hr.lp l p hl;exact⟨h1,fun q=>let ⟨h2,h3⟩:=h23 q;⟨h2.xt X (hoth _ (aDn hB0 h2)),h3⟩⟩
theorem xU(hr:Rl c wb h){id off n:Nat}{l:List SV}(hkn:c.k id)(hd:rd h id off n=some l):
  ∃vs,CL c l vs∧vs.length=n∧∀j v,vs[j]? =some v→c.w.cell? ⟨c.r id,off+j,none⟩=some v:=by
 unfold rd at hd;obtain⟨b,hg,ht⟩:=aA.1 hd;rw[gN]at ht;obtain⟨h1,rfl⟩:=jY.1 ht;by_cases hne:b.c=[]
 ·rw[hne]at h1;simp at h1;subst h1;exact⟨[],by simp[CL],rfl,fun j v hv=>by simp at hv⟩
 ·obtain⟨row,tail,hb,hc,-⟩:=(hr.blk id b hg).2 ⟨hkn,hne⟩;refine⟨(row.drop off).take n,(hc.drop off).take n,?_,fun j v hv=>hb.cell _ ?_⟩
  ·have:=(hc.drop off).len;rw[List.length_take];omega
  ·rw[List.getElem?_take]at hv;split at hv
   ·rw[List.getElem?_drop]at hv;rw[List.getElem?_append_left (List.getElem?_eq_some_iff.1 hv).1];exact hv
   ·cases hv
theorem add0(g o j:Nat):(⟨g,o,none⟩:Addr).add j=⟨g,o+j,none⟩:=gL g o j
theorem aAL(hr:Rl c wb h)(P:Program){id off:Nat}{l:List SV}{h':H}(hkn:c.k id)(hw:wr h id off l=some h'){vs:List Value}(hv:CL c l vs)(hl:l≠[]):
  ∃c',Xt c c'∧Rl c' wb h'∧(storeCells ⟨c.r id,off,none⟩ vs).run P c.w=.ok () c'.w∧h'.n=h.n∧h'.bar=h.bar:=by
 unfold wr at hw;obtain⟨h1,h2⟩:=aB.1 hw;obtain⟨b,hg,h3⟩:=aA.1 h2;obtain⟨nc,h4,h5⟩:=aA.1 h3;obtain⟨h6,h7⟩:=aB.1 h5;injection h7 with h7;obtain⟨h8,rfl⟩:=tO.1 h4;have hvl:=hv.len;have hne:b.c≠[]:=by
  intro e;rw[e]at h8;simp at h8;exact hl h8.2
 obtain⟨row,tail,hb,hc,ht⟩:=(hr.blk id b hg).2 ⟨hkn,hne⟩;have hrl:=hc.len;have hst:=run_storeCells_at (P:=P) (c.r id) off b.ty vs 0 (row++tail).toArray c.w hb (by simp;omega) (rE hv);have e:((row++tail).toArray.toList.take (off+0)++vs++(row++tail).toArray.toList.drop (off+0+vs.length))=(row.take off++vs++row.drop (off+vs.length))++tail:=by
  simp only[Nat.add_zero];rw[List.take_append_of_le_length (by omega),List.drop_append_of_le_length (by omega)];simp
 rw[e]at hst;have hc':CL c (b.c.take off++l++b.c.drop (off+l.length)) (row.take off++vs++row.drop (off+vs.length)):=by
  rw[hvl];exact ((hc.take off).app hv).app (hc.drop _)
 have hbar:=bA.1 h1;obtain⟨X,R⟩:=hr.row (b':=⟨b.ty,b.c.take off++l++b.c.drop (off+l.length)⟩) hg ⟨hkn,hne⟩ hbar rfl h6 hb hc (ht (iK h6).1) hc' (ht (iK h6).1) (by simp;omega);rw[←h7];exact⟨_,X,R,hst,rfl,rfl⟩
end
section
variable {c:Cx} {α:Type}
theorem aBy{l:List SV}{k:SV→Option α}{y:α}:hd1 l k=some y↔∃x,l=[x]∧k x=some y:=by
 match l with
 | []=>exact⟨fun h=>(by cases h),fun ⟨x,h,_⟩=>(by cases h)⟩
 | [x]=>exact⟨fun h=>⟨x,rfl,h⟩,fun ⟨z,h,k⟩=>by injection h with h _;subst h;exact k⟩
 |_::_::_=>exact⟨fun h=>(by cases h),fun ⟨x,h,_⟩=>(by cases h)⟩
theorem aI{v:AV}{k:SV→Option α}{y:α}:one v k=some y↔∃x,v=sc x∧k x=some y:=by
 cases v with
 |c g l=>
  cases g with
  |true=>exact⟨fun h=>(by cases h),fun ⟨x,h,_⟩=>(by cases h)⟩
  |false=>
   show hd1 l k=some y↔_;rw[aBy];exact⟨fun ⟨x,h,hk⟩=>⟨x,by rw[h];rfl,hk⟩,fun ⟨x,h,hk⟩=>⟨x,by injection h,hk⟩⟩
 |t l=>exact⟨fun h=>(by cases h),fun ⟨x,h,_⟩=>(by cases h)⟩
theorem nR{v:AV}{k:List SV→Option α}{y:α}:agg v k=some y↔∃l,v=.c true l∧k l=some y:=by
 cases v with
 |c g l=>
  cases g with
  |true=>exact⟨fun h=>⟨l,rfl,h⟩,fun ⟨x,h,hk⟩=>by injection h with _ h;subst h;exact hk⟩
  |false=>exact⟨fun h=>(by cases h),fun ⟨x,h,_⟩=>(by cases h)⟩
 |t l=>exact⟨fun h=>(by cases h),fun ⟨x,h,_⟩=>(by cases h)⟩
theorem iL{v:AV}{k:List SV→Option α}{y:α}:cells v k=some y↔∃g l,v=.c g l∧k l=some y:=by
 cases v with
 |c g l=>exact⟨fun h=>⟨g,l,rfl,h⟩,fun ⟨g2,x,h,hk⟩=>by injection h with _ h;subst h;exact hk⟩
 |t l=>exact⟨fun h=>(by cases h),fun ⟨_,x,h,_⟩=>(by cases h)⟩
theorem aF{s:SV}{u:Value}:VR c (sc s) u↔SR c s u:=⟨fun ⟨x,h,hx⟩=>by injection h with h _;subst h;exact hx,fun h=>⟨s,rfl,h⟩⟩
theorem mW:VR c un undef:=⟨[],rfl,trivial⟩
theorem cells_ok{g:Bool}{l:List SV}{u:Value}(h:VR c (.c g l) u):CL c l u.cells.toList:=by
 cases g with
 |true=>obtain⟨cs,rfl,hc⟩:=h;exact hc
 |false=>
  obtain⟨x,rfl,hx⟩:=h;have h1:=oneCell hx;have e:u.cells=#[u]:=by cases u<;>first|rfl|cases h1
  rw[e];exact⟨hx,trivial⟩
theorem aKc{x:SV}{v:Value}(h:aEr x v=true):SR c x v:=by
 unfold aEr at h;split at h
 ·simp at h;subst h;rfl
 ·rename_i s;exact⟨s,rfl,by unfold bytes;rw[show s.data.toList=[] from by simpa using h];rfl⟩
 ·rfl
 ·exact Nm.zero _ _
 ·exact⟨none,0,[],rfl,Nat.le_refl 0,Rd.nil,Wf.nil,rfl⟩
 ·rfl
 ·rfl
 ·rfl
 ·rfl
 ·cases h
theorem iD:∀{l:List SV} {r:List Value},zok l r=true→CL c l r
 | [],[],_=>trivial
 | [],_::_,h=>by cases h
 |_::_,[],h=>by cases h
 |x::l,v::r,h=>by
  have h2:(aEr x v && zok l r)=true:=h;obtain⟨h3,h4⟩:=(Bool.and_eq_true _ _).mp h2;exact⟨aKc h3,iD h4⟩
theorem aLZ{v:Value}(h:isF v=true):v=.bool false:=by
 unfold isF at h;split at h
 ·rfl
 ·cases h
theorem aF7{v:Value}(h:isZ v=true):v=.slice none 0 0:=by
 unfold isZ at h;split at h
 ·rfl
 ·cases h
theorem aL0{v:Value}{a:AV}(h:ofV v=some a):VR c a v:=by
 unfold ofV at h;split at h
 case h_8 cs=>
  unfold ofA at h;split at h
  ·rename_i x y z hl;obtain⟨h1,h2⟩:=aB.1 h;obtain⟨h3,h4⟩:=aB.1 h2;obtain⟨h5,h6⟩:=aB.1 h4;injection h6 with h6;subst h6;rw[aLZ h1,aF7 h3,aF7 h5]at hl;refine⟨cs.toList,by rw[Array.toArray_toList],?_⟩;rw[hl];exact⟨rfl,Nm.zero _ _,Nm.zero _ _,trivial⟩
  ·cases h
 case h_9 vs=>
  split at h
  ·rename_i hl;injection h with h;subst h;exact⟨[],by rw[←hl,Array.toArray_toList],trivial⟩
  ·cases h
 all_goals first
  |(injection h with h;subst h;first
    |exact aF.2 rfl
    |exact aF.2 ⟨_,rfl,rfl⟩)
  |cases h
end
section
variable {F:Cf} {c:Cx} {wb:World} {h h':H} {nt:Nat} {e:Env} {a:Act} {o:Oper} {v:AV}
theorem aS(ht:Tr c nt e a.tmps){x:Operand}(hx:ev e x=some v):VR c v (a.eval x):=by
 cases x with
 |tmp t=>
  obtain⟨u,h1,h2⟩:=ht.2 t v hx;show VR c v (a.tmps.getD t undef);rw[Array.getD_eq_getD_getElem?,h1];exact h2
 |const k=>exact aL0 hx
 |global g=>
  injection hx with hx;subst hx;exact aF.2 ⟨rfl,rfl⟩
 |func f=>
  injection hx with hx;subst hx;exact aF.2 ⟨fun p hp=>(by cases hp),rfl⟩
theorem nS(ht:Tr c nt e a.tmps):∀{l:List Operand} {vs:List AV},evL e l=some vs→VL c vs (l.map a.eval)
 | [],vs,hx=>by injection hx with hx;subst hx;trivial
 |x::l,vs,hx=>by
  have e1:evL e (x::l)=ob (ev e x) fun v=>ob (evL e l) fun r=>some (v::r):=rfl;rw[e1]at hx;obtain⟨v,h1,h2⟩:=aA.1 hx;obtain⟨r,h3,h4⟩:=aA.1 h2;injection h4 with h4;subst h4;exact⟨aS ht h1,nS ht h3⟩
structure Ty (P:Program) (t:Nat) (i:TI):Prop where
 ex:∃inf d z,P.info? t=some inf∧P.underlying t=some d∧i.d=dk d∧i.sz=inf.size∧i.by_=inf.bytes∧inf.zero=some z∧zok i.ze z.cells.toList=true∧z.cells.toList.length=inf.size
theorem aJ{t:Nat}{i:TI}(h:F.ti t=some i):Ty F.P t i:=by
 unfold Cf.ti at h;split at h
 ·rename_i inf d hi hd;split at h
  ·rename_i z hz;obtain⟨h1,h2⟩:=aB.1 h;obtain⟨h3,h4⟩:=(Bool.and_eq_true _ _).mp h1;injection h2 with h2;subst h2;exact⟨inf,d,z,hi,hd,rfl,rfl,rfl,hz,h3,aH.1 h4⟩
  ·cases h
 ·cases h
theorem iM{t n:Nat}(h:sz F t=some n):∃i,F.ti t=some i∧i.sz=n:=by
 obtain⟨i,h1,h2⟩:=aA.1 h;injection h2 with h2;exact⟨i,h1,h2⟩
theorem dC{P:Program}{t:Nat}{i:TI}(h:Ty P t i)(w:World):(sizeOf t).run P w=.ok i.sz w:=by
 obtain⟨inf,d,z,h1,h2,h3,h4,h5,h6,h7,h8⟩:=h.ex;simp[sizeOf,typeInfo,h1,h4]
theorem zG{P:Program}{t:Nat}{i:TI}(h:Ty P t i)(w:World):(isAgg t).run P w=.ok i.d.ag w:=by
 obtain⟨inf,d,z,h1,h2,h3,h4,h5,h6,h7,h8⟩:=h.ex;unfold isAgg;rw[Sem.run_bind,run_underlying h2 w,h3];cases d<;>rfl
theorem aH3{P:Program}{t:Nat}{i:TI}(h:Ty P t i)(w:World):∃z,(zeroValue t).run P w=.ok z w∧CL c i.ze z.cells.toList∧z.cells.toList.length=i.sz:=by
 obtain⟨inf,d,z,h1,h2,h3,h4,h5,h6,h7,h8⟩:=h.ex;exact⟨z,by simp[zeroValue,typeInfo,h1,h6],iD h7,by rw[h8,h4]⟩
def OpR(P:Program)(ρ:Operand→Value)(o:Oper)(w:World)(u:Value)(w':World):Prop:=
 (execOp ρ o).run P w=.ok (.value u) w'∨((execOp ρ o).run P w=.ok .skip w'∧u=undef)
def Po(c:Cx)(wb:World)(h':H)(v:AV)(u:Value)(w':World):Prop:=∃d,d.w=w'∧Xt c d∧Rl d wb h'∧VR d v u
theorem OpR.vl{P:Program}{ρ:Operand→Value}{w w':World}{u:Value}{s:Sem Value}(he:execOp ρ o=(do pure (Next.value (←s))))(hs:s.run P w=.ok u w'):OpR P ρ o w u w':=
 .inl (by rw[he,Sem.run_bind,hs];rfl)
theorem OpR.sk{P:Program}{ρ:Operand→Value}{w w':World}{s:Sem Unit}(he:execOp ρ o=(do s;pure Next.skip))(hs:s.run P w=.ok () w'):OpR P ρ o w undef w':=
 .inr ⟨by rw[he,Sem.run_bind,hs];rfl,rfl⟩
theorem Po.same{u:Value}(hr:Rl c wb h)(hv:VR c v u):Po c wb h v u c.w:=⟨c,rfl,Xt.refl c,hr,hv⟩
theorem xV(hr:Rl c wb h)(b:B){A:Array Value}(hb:CL c b.c A.toList):
  ∃d,d.w=c.w.alloc (.cells A b.ty)∧Xt c d∧Rl d wb ⟨h.h.set b h.n,Nat.succ h.n,h.bar,h.l⟩∧d.r h.n=c.w.heap.size∧d.k h.n:=by
 have:=hr.nw b (tail:=[]) hb (fun _ x hx=>by cases hx);rw[List.append_nil,Array.toArray_toList]at this;exact⟨_,rfl,rD hr.k _,this,by rw[←hr.n];exact mK _,by rw[←hr.n];exact .inr rfl⟩
theorem aKd(hr:Rl c wb h)(b:B){A:Array Value}{row tail:List Value}(hb:CL c b.c row)(ht:calm b.c=true→Nu tail)(hA:A.toList=row++tail):
  ∃d,d.w=c.w.alloc (.cells A b.ty)∧Xt c d∧Rl d wb ⟨h.h.set b h.n,Nat.succ h.n,h.bar,h.l⟩∧d.r h.n=c.w.heap.size∧d.k h.n:=by
 have:=hr.nw b hb ht;rw[←hA,Array.toArray_toList]at this;exact⟨_,rfl,rD hr.k _,this,by rw[←hr.n];exact mK _,by rw[←hr.n];exact .inr rfl⟩
theorem aF8{x:Operand}(hr:Rl c wb h)(ht:Tr c nt e a.tmps)(ho:o.op=.move x∨o.op=.assign x)(hx:(ob (ev e x) fun v=>some (v,h))=some (v,h')):∃u w',OpR F.P a.eval o c.w u w'∧Po c wb h' v u w':=by
 obtain⟨v1,h1,h2⟩:=aA.1 hx;injection h2 with h2;injection h2 with h2 h3;subst h2;subst h3;refine⟨a.eval x,c.w,.inl ?_,Po.same hr (aS ht h1)⟩;unfold execOp;rcases ho with ho|ho<;>rw[ho]<;>rfl
theorem aL1{k x y:Operand}(hr:Rl c wb h)(ht:Tr c nt e a.tmps)(ho:o.op=.pick k x y)(hx:oI e h k x y=some (v,h')):∃u w',OpR F.P a.eval o c.w u w'∧Po c wb h' v u w':=by
 obtain⟨v1,h1,h2⟩:=aA.1 hx;obtain⟨s,rfl,h3⟩:=aI.1 h2;split at h3
 ·rename_i b;obtain⟨v2,h4,h5⟩:=aA.1 h3;injection h5 with h5;injection h5 with h5 h6;subst h5;subst h6;have hk:a.eval k=.bool b:=aF.1 (aS ht h1);refine⟨if b=true then a.eval x else a.eval y,c.w,.inl ?_,Po.same hr ?_⟩
  ·unfold execOp;rw[ho];simp only[hk,asBool];cases b<;>rfl
  ·rw[aL]at h4;split at h4<;>rename_i hb
   ·rw[if_pos hb];exact aS ht h4
   ·rw[if_neg hb];exact aS ht h4
 ·cases h3
theorem aKe{t:Nat}(hr:Rl c wb h)(ho:o.op=.alloc t)(hx:nO F h t=some (v,h')):∃u w',OpR F.P a.eval o c.w u w'∧Po c wb h' v u w':=by
 obtain⟨i,h1,h2⟩:=aA.1 hx;unfold H.nw at h2;rw[aM]at h2;injection h2 with h2;injection h2 with h2 h3;subst h2;subst h3;obtain⟨z,hz,hc,-⟩:=aH3 (c:=c) (aJ h1) c.w;obtain⟨d,hw,X,R,hd,hlt⟩:=xV hr ⟨t,i.ze⟩ hc;refine⟨.pointer (some ⟨c.w.heap.size,0,none⟩),_,OpR.vl (s:=Instr.alloc t true (.tuple #[])) (by unfold execOp;rw[ho]) ?_,d,hw,X,R,aF.2 ⟨hlt,by rw[hd]⟩⟩;simp only[Instr.alloc,Sem.run_bind,hz,Result.andThen_ok,newVar,newRow,run_newObj,Sem.run_pure];rfl
theorem aNX{t:Nat}{x:Operand}(hr:Rl c wb h)(ht:Tr c nt e a.tmps)(ho:o.op=.box t x)(hx:tF e h t x=some (v,h')):∃u w',OpR F.P a.eval o c.w u w'∧Po c wb h' v u w':=by
 obtain⟨v1,h1,h2⟩:=aA.1 hx;obtain⟨g,l,rfl,h3⟩:=iL.1 h2;unfold H.nw at h3;rw[aM]at h3;injection h3 with h3;injection h3 with h3 h4;subst h3;subst h4;obtain⟨d,hw,X,R,hd,hlt⟩:=xV hr ⟨t,l⟩ (cells_ok (aS ht h1));refine⟨.pointer (some ⟨c.w.heap.size,0,none⟩),_,OpR.vl (s:=Instr.box t (a.eval x)) (by unfold execOp;rw[ho]) ?_,d,hw,X,R,aF.2 ⟨hlt,by rw[hd]⟩⟩;simp only[Instr.box,Sem.run_bind,Result.andThen_ok,newVar,newRow,run_newObj,Sem.run_pure];rfl
theorem xW{g:Bool}{l:List SV}{vs:List Value}(h:av g l=some v)(hc:CL c l vs):∃u,VR c v u∧(g=true→u=.agg vs.toArray)∧(g=false→vs=[u]):=by
 unfold av at h;rw[aL]at h;split at h
 ·injection h with h;subst h;rename_i hg;exact⟨.agg vs.toArray,⟨vs,rfl,hc⟩,fun _=>rfl,fun h2=>by rw[hg]at h2;cases h2⟩
 ·rename_i hg;obtain⟨x,rfl,h2⟩:=aBy.1 h;injection h2 with h2;subst h2
  match vs,hc with
  | [u],hc=>exact⟨u,aF.2 hc.1,fun h3=>absurd h3 hg,fun _=>rfl⟩
  |_::_::_,hc=>exact hc.2.elim
theorem vF{P:Program}{t:Nat}{i:TI}(hi:Ty P t i){g off:Nat}{vs:List Value}{w:World}{u:Value}(hl:vs.length=i.sz)(hc:∀j v,vs[j]? =some v→w.cell? ⟨g,off+j,none⟩=some v)
  (h1:i.d.ag=true→u=.agg vs.toArray) (h2:i.d.ag=false→vs=[u]):(loadVar t ⟨g,off,none⟩).run P w=.ok u w:=by
 unfold loadVar;rw[Sem.run_bind,zG hi w];cases hg:i.d.ag with
 |true=>
  rw[h1 hg];simp only[Result.andThen_ok,if_true];rw[Sem.run_bind,dC hi w,Result.andThen_ok,Sem.run_bind,←hl,run_loadCells_list (P:=P) w ⟨g,off,none⟩ vs (fun j v hv=>by rw[add0];exact hc j v hv)];rfl
 |false=>
  have h3:=h2 hg;subst h3;have h4:=hc 0 u rfl;simp only[Result.andThen_ok,Bool.false_eq_true,if_false,run_load];rw[show (⟨g,off,none⟩:Addr)=⟨g,off+0,none⟩ from rfl,h4]
def aEJ(F:Cf):Prop:=∀t a v,F.ro t a=some v→∀c:Cx,F.tb c.w→∃u,(loadVar t a).run F.P c.w=.ok u c.w∧VR c v u
theorem o_load{t:Nat}{x:Operand}(hro:aEJ F)(hb:F.tb c.w)(hr:Rl c wb h)(ht:Tr c nt e a.tmps)(ho:o.op=.load t x)(hx:rA F e h t x=some (v,h')):∃u w',OpR F.P a.eval o c.w u w'∧Po c wb h' v u w':=by
 obtain⟨i,h1,h2⟩:=aA.1 hx;obtain⟨v1,h3,h4⟩:=aA.1 h2;obtain⟨s,rfl,h5⟩:=aI.1 h4;split at h5
 ·rename_i id off;obtain⟨l,h6,h7⟩:=aA.1 h5;obtain⟨v2,h8,h9⟩:=aA.1 h7;injection h9 with h9;injection h9 with h9 h10;subst h9;subst h10;obtain⟨hid,hp⟩:=aF.1 (aS ht h3);obtain⟨vs,hc,hl,hcell⟩:=xU hr hid h6;obtain⟨u,hu,k1,k2⟩:=xW h8 hc;refine⟨u,c.w,OpR.vl (s:=Instr.loadAt t (a.eval x)) (by unfold execOp;rw[ho]) ?_,Po.same hr hu⟩;simp only[hp,Instr.loadAt,Instr.sureAddr,Sem.run_bind,Sem.run_pure,Result.andThen_ok];exact vF (aJ h1) hl hcell k1 k2
 ·rename_i x1;unfold roL at h5;split at h5
  ·rename_i a1;obtain⟨v2,h6,h7⟩:=aA.1 h5;injection h7 with h7;injection h7 with h7 h8;subst h7;subst h8;have hp:a.eval x=.pointer (some a1):=(aF.1 (aS ht h3)).1;obtain⟨u,hu,hv⟩:=hro t a1 v2 h6 c hb;refine⟨u,c.w,OpR.vl (s:=Instr.loadAt t (a.eval x)) (by unfold execOp;rw[ho]) ?_,Po.same hr hv⟩;simp only[hp,Instr.loadAt,Instr.sureAddr,Sem.run_bind,Sem.run_pure,Result.andThen_ok];exact hu
  ·cases h5
 ·cases h5
theorem aKf{t:Nat}{x y:Operand}(hr:Rl c wb h)(ht:Tr c nt e a.tmps)(ho:o.op=.store t x y)(hx:nP F e h t x y=some (v,h')):∃u w',OpR F.P a.eval o c.w u w'∧Po c wb h' v u w':=by
 obtain⟨n,h1,h2⟩:=aA.1 hx;obtain⟨i,hi,rfl⟩:=iM h1;obtain⟨v1,h3,h4⟩:=aA.1 h2;obtain⟨s,rfl,h5⟩:=aI.1 h4;split at h5
 ·rename_i id off;obtain⟨v2,h6,h7⟩:=aA.1 h5;obtain⟨g,l,rfl,h8⟩:=iL.1 h7;obtain⟨h9,h10⟩:=aB.1 h8;obtain⟨h2',h11,h12⟩:=aA.1 h10;injection h12 with h12;injection h12 with h12 h13;subst h12;subst h13;obtain⟨hid,hp⟩:=aF.1 (aS ht h3);have hcl:=cells_ok (aS ht h6);rw[aH,bH]at h9;have hsz:(a.eval y).cells.size=i.sz:=(by rw[←h9,←hcl.len,Array.length_toList]);have he:execOp a.eval o=(do Instr.storeAt t (a.eval x) (a.eval y);pure Next.skip):=(by unfold execOp;rw[ho]);have hrun:∀w',(storeCells ⟨c.r id,off,none⟩ (a.eval y).cells.toList).run F.P c.w=.ok () w'→(Instr.storeAt t (a.eval x) (a.eval y)).run F.P c.w=.ok () w':=fun w' hw=>by
   simp only[hp,Instr.storeAt,Instr.sureAddr,Sem.run_bind,Sem.run_pure,Result.andThen_ok,storeVar,dC (aJ hi),hsz,ne_eq,not_true_eq_false,if_false];exact hw
  by_cases hl:l=[]
  ·subst hl;have hem:(a.eval y).cells.toList=[]:=List.eq_nil_of_length_eq_zero (by rw[hcl.len];rfl);refine⟨undef,c.w,OpR.sk he (hrun _ (by rw[hem];rfl)),?_⟩;unfold wr at h11;obtain⟨g1,g2⟩:=aB.1 h11;obtain⟨b,g3,g4⟩:=aA.1 g2;obtain⟨nc,g5,g6⟩:=aA.1 g4;obtain⟨g7,g8⟩:=aB.1 g6;injection g8 with g8;subst g8;obtain⟨g9,rfl⟩:=tO.1 g5;have hb:(⟨b.ty,b.c.take off++[]++b.c.drop (off+([]:List SV).length)⟩:B)=b:=(by simp);unfold H.put;rw[hb];refine⟨c,rfl,Xt.refl c,⟨hr.n,hr.k,hr.q,fun j b2 hj=>?_,fun p j x d hi2 hj hx2 hd hij=>?_,fun j b2 hj k1 k2=>?_,hr.lp,hr.li⟩,mW⟩;all_goals
    have key:∀j b2,(T.set b h.h id).get j=some b2→h.h.get j=some b2:=fun j b2 hj=>by
     rcases T.get_set hj with⟨rfl,rfl⟩|⟨_,k⟩
     ·exact g3
     ·exact k
   ·exact hr.blk j b2 (key j b2 hj)
   ·exact hr.inj p j x d (key _ _ hi2) (key _ _ hj) hx2 hd hij
   ·exact hr.new j b2 (key _ _ hj) k1 k2
  ·obtain⟨d,X,R,hst,-,-⟩:=aAL hr F.P hid h11 hcl hl;exact⟨undef,d.w,OpR.sk he (hrun _ hst),d,rfl,X,R,mW⟩
 ·cases h5
theorem aBz{P:Program}{t:Nat}{i:TypeInfo}(h:P.info? t=some i)(w:World):(typeInfo t).run P w=.ok i w:=by simp[typeInfo,h]
theorem aBA{α:Type}{x:Value}{k:Nat→Option α}{y:α}(h:ifT x k=some y):∃t,x=.iface t (.agg #[])∧k t=some y:=by
 unfold ifT at h;split at h
 ·rename_i t cs;split at h
  ·rename_i hc;exact⟨t,by rw[show cs=#[] from Array.toList_inj.1 hc],h⟩
  ·cases h
 ·cases h
theorem aBB{α:Type}{x:Value}{k:Nat→String→Option α}{y:α}(h:mvT x k=some y):∃m t,x=.func (.method m) #[.iface t (.agg #[])] #[]∧k t m=some y:=by
 unfold mvT at h;split at h
 ·rename_i m a d;split at h
  ·rename_i r ha hd;obtain⟨t,rfl,hk⟩:=aBA h;exact⟨m,t,by rw[show a=#[.iface t (.agg #[])] from Array.toList_inj.1 ha,show d=#[] from Array.toList_inj.1 hd],hk⟩
  ·cases h
 ·cases h
theorem aDo{t f:Nat}{m:String}(h:kS F t m=some f):∃i fs r,F.P.info? t=some i∧F.P.underlying t=some (.struct fs)∧(i.methods.find? fun r=>r.name == m)=some r∧r.path=#[]∧r.func=some (f,false):=by
 unfold kS at h;split at h
 ·rename_i i fs hi hu;split at h
  ·rename_i r hr;split at h
   ·rename_i f0 hp hf;injection h with h;subst h;exact⟨i,fs,r,hi,hu,hr,Array.toList_inj.1 hp,hf⟩
   ·cases h
  ·cases h
 ·cases h
theorem aBC{t f:Nat}{m:String}(h:kS F t m=some f)(n:Nat)(w:World):(nilAhead (n+1) t (.agg #[]) m).run F.P w=.ok (some false) w:=by
 obtain⟨i,fs,r,h1,h2,h3,h4,h5⟩:=aDo h;simp[nilAhead,aBz h1,h3,h4,h5,followBlind,run_underlying h2]
theorem xX{t f:Nat}{m:String}(h:kS F t m=some f)(n:Nat)(w:World):(method (n+1) t (.agg #[]) m).run F.P w=.ok (f,.agg #[]) w:=by
 obtain⟨i,fs,r,h1,h2,h3,h4,h5⟩:=aDo h;simp[method,aBz h1,h3,h4,h5,follow,receiverAt,run_underlying h2,Place.get]
theorem wP(P:Program):∃n,P.types.size+Made.depth=n+1:=⟨P.types.size+(Made.depth-1),by
 have h:0<Made.depth:=by decide
 omega⟩
theorem aEK{t f:Nat}{m:String}{x:Operand}{ρ:Operand→Value}(ho:o.op=.nilCheck x)(h:kS F t m=some f)(hv:ρ x=.func (.method m) #[.iface t (.agg #[])] #[])(w:World):(execOp ρ o).run F.P w=.ok (.value (ρ x)) w:=by
 obtain⟨n,hn⟩:=wP F.P;unfold execOp;rw[ho];simp[hv,hn,aBC h n w]
theorem aNY{x:Operand}(hr:Rl c wb h)(ht:Tr c nt e a.tmps)(ho:o.op=.nilCheck x)(hx:zC F e h x=some (v,h')):∃u w',OpR F.P a.eval o c.w u w'∧Po c wb h' v u w':=by
 obtain⟨v1,h1,h2⟩:=aA.1 hx;obtain⟨s,rfl,h3⟩:=aI.1 h2;have hv:=aF.1 (aS ht h1);have fin:some (sc s,h)=some (v,h')→(execOp a.eval o).run F.P c.w=.ok (.value (a.eval x)) c.w→∃u w',OpR F.P a.eval o c.w u w'∧Po c wb h' v u w':=fun h4 hR=>by
  injection h4 with h4;injection h4 with h4 h5;subst h4;subst h5;exact⟨a.eval x,c.w,.inl hR,Po.same hr (aS ht h1)⟩
 split at h3
 ·exact fin h3 (by unfold execOp;rw[ho];simp only[hv.2];rfl)
 ·exact fin h3 (by unfold execOp;rw[ho];simp only[hv.2];rfl)
 ·exact fin h3 (by unfold execOp;rw[ho];simp only[hv.2];rfl)
 ·obtain⟨m,t,rfl,h4⟩:=aBB h3;obtain⟨f,h5,h6⟩:=aA.1 h4;exact fin h6 (aEK ho h5 hv.1 c.w)
 ·cases h3
theorem aO9{t:Nat}{x:Operand}(hr:Rl c wb h)(ht:Tr c nt e a.tmps)(ho:o.op=.makeInterface t x)(hx:oIf F e h t x=some (v,h')):∃u w',OpR F.P a.eval o c.w u w'∧Po c wb h' v u w':=by
 obtain⟨i,h1,h2⟩:=aA.1 hx;split at h2
 ·rename_i fs hd;obtain⟨v1,h3,h4⟩:=aA.1 h2;obtain⟨l,rfl,h5⟩:=nR.1 h4;split at h5
  ·injection h5 with h5;injection h5 with h5 h6;subst h5;subst h6;obtain⟨cs,k1,k2⟩:=aS ht h3;have hcs:cs=[]:=by
    cases cs with
    |nil=>rfl
    |cons x l=>exact k2.elim
   subst hcs;obtain⟨inf,d,z,g1,g2,g3,-⟩:=(aJ h1).ex;rw[g3]at hd;cases d<;>simp[dk]at hd;refine⟨.iface t (.agg #[]),c.w,OpR.vl (s:=Instr.makeInterface t (a.eval x)) (by unfold execOp;rw[ho]) ?_,Po.same hr (aF.2 ⟨rfl,rfl⟩)⟩;simp only[Instr.makeInterface,Sem.run_bind,run_underlying g2,Result.andThen_ok,Sem.run_pure,k1]
  ·cases h5
 ·cases h2
end
end E
end Go.Proofs.YtamnpcdkcdfgaaaGreatDoor
