/- FilterFamilies holds. No condition. -/
import Derived.Laws.CopyOwn
import Derived.Test.YtohcfjmkfflkpaaGreatDoorQf03
namespace Go.Proofs.YtohcfjmkfflkpaaGreatDoor
namespace E
open Go
def Pm(h:H)(x y:Option VH):Prop:=x=y.map fun r=>(r.1,h)
section
variable {α:Type} {h h0:H}
theorem Pm.no:Pm h none none:=rfl
theorem Pm.ye{v:AV}:Pm h (some (v,h)) (some (v,h0)):=rfl
theorem Pm.vh{x:SV}:Pm h (vh x h) (vh x h0):=rfl
theorem Pm.ob{r:Option α}{f g:α→Option VH}(k:∀a,Pm h (f a) (g a)):Pm h (ob r f) (ob r g):=by
 cases r with
 |none=>rfl
 |some a=>exact k a
theorem Pm.cb{c:Bool}{x x' y y':Option VH}(k1:Pm h x y)(k2:Pm h x' y'):Pm h (cb c x x') (cb c y y'):=by
 cases c
 ·exact k2
 ·exact k1
theorem Pm.hd1{l:List SV}{f g:SV→Option VH}(k:∀a,Pm h (f a) (g a)):Pm h (hd1 l f) (hd1 l g):=by
 rcases l with _|⟨a,_|⟨b,l⟩⟩
 ·rfl
 ·exact k a
 ·rfl
theorem Pm.one{v:AV}{f g:SV→Option VH}(k:∀a,Pm h (f a) (g a)):Pm h (one v f) (one v g):=by
 cases v with
 |c a l=>cases a with
  |false=>exact Pm.hd1 k
  |true=>rfl
 |t l=>rfl
theorem Pm.agg{v:AV}{f g:List SV→Option VH}(k:∀a,Pm h (f a) (g a)):Pm h (agg v f) (agg v g):=by
 cases v with
 |c a l=>cases a with
  |false=>rfl
  |true=>exact k l
 |t l=>rfl
theorem Pm.natOf{x:SV}{f g:Nat→Option VH}(k:∀a,Pm h (f a) (g a)):Pm h (natOf x f) (natOf x g):=by
 cases x with
 |i j n=>cases n with
  |ofNat n=>exact k n
  |negSucc n=>rfl
 |_=>rfl
theorem Pm.bound{e:Env}{x:Option Operand}{d:Nat}{f g:Nat→Option VH}(k:∀a,Pm h (f a) (g a)):Pm h (bound e x d f) (bound e x d g):=by
 cases x with
 |none=>exact k d
 |some x=>exact Pm.ob fun v=>Pm.one fun s=>Pm.natOf k
theorem Pm.opt{x:Option α}{a b:Option VH}{f g:α→Option VH}(k1:Pm h a b)(k2:∀x,Pm h (f x) (g x)):Pm h (Option.rec (motive:=fun _=>Option VH) a f x) (Option.rec (motive:=fun _=>Option VH) b g x):=by
 cases x with
 |none=>exact k1
 |some x=>exact k2 x
theorem Pm.got{x y:Option VH}{v:AV}{h':H}(k:Pm h x y)(hx:x=some (v,h')):h'=h:=by
 rw[k]at hx;cases y with
 |none=>cases hx
 |some r=>cases hx;rfl
end
section
variable {F:Cf} {call:cZ} {e e':Env} {h h0:H}
theorem aG1{c a d:Operand}:Pm h (tX e h c a d) (tX e h0 c a d):=by unfold tX;repeat' (first|exact rfl|exact Pm.no|exact Pm.ye|exact Pm.vh|refine Pm.ob fun _=>?_|refine Pm.cb ?_ ?_|refine Pm.one fun _=>?_|refine Pm.agg fun _=>?_|refine Pm.natOf fun _=>?_|refine Pm.bound fun _=>?_|refine Pm.chk ?_|refine Pm.opt ?_ fun _=>?_|split)
theorem aEN{t:Nat}{ps:List (Nat × Operand)}:Pm h (pV F e h t ps) (pV F e h0 t ps):=by unfold pV;repeat' (first|exact rfl|exact Pm.no|exact Pm.ye|exact Pm.vh|refine Pm.ob fun _=>?_|refine Pm.cb ?_ ?_|refine Pm.one fun _=>?_|refine Pm.agg fun _=>?_|refine Pm.natOf fun _=>?_|refine Pm.bound fun _=>?_|refine Pm.chk ?_|refine Pm.opt ?_ fun _=>?_|split)
theorem Pm.mvT{x:Value}{f g:Nat→String→Option VH}(k:∀t m,Pm h (f t m) (g t m)):Pm h (mvT x f) (mvT x g):=by
 unfold E.mvT E.ifT
 repeat' (first|exact rfl|exact k _ _|split)
theorem aJT{x:Operand}:Pm h (aCN F e h x) (aCN F e h0 x):=by unfold aCN;repeat' (first|exact rfl|exact Pm.no|exact Pm.ye|exact Pm.vh|refine Pm.mvT fun _ _=>?_|refine Pm.ob fun _=>?_|refine Pm.cb ?_ ?_|refine Pm.one fun _=>?_|refine Pm.agg fun _=>?_|refine Pm.natOf fun _=>?_|refine Pm.bound fun _=>?_|refine Pm.chk ?_|refine Pm.opt ?_ fun _=>?_|split)
theorem aNI{t:Nat}{x:Operand}:Pm h (oIf F e h t x) (oIf F e h0 t x):=by unfold oIf;repeat' (first|exact rfl|exact Pm.no|exact Pm.ye|exact Pm.vh|refine Pm.ob fun _=>?_|refine Pm.cb ?_ ?_|refine Pm.one fun _=>?_|refine Pm.agg fun _=>?_|refine Pm.natOf fun _=>?_|refine Pm.bound fun _=>?_|refine Pm.chk ?_|refine Pm.opt ?_ fun _=>?_|split)
theorem aJU{op:BinOp}{t:Nat}{x y:Operand}:Pm h (yV F e h op t x y) (yV F e h0 op t x y):=by unfold yV;repeat' (first|exact rfl|exact Pm.no|exact Pm.ye|exact Pm.vh|refine Pm.ob fun _=>?_|refine Pm.cb ?_ ?_|refine Pm.one fun _=>?_|refine Pm.agg fun _=>?_|refine Pm.natOf fun _=>?_|refine Pm.bound fun _=>?_|refine Pm.chk ?_|refine Pm.opt ?_ fun _=>?_|split)
theorem aNJ{op:UnOp}{x:Operand}:Pm h (oUn e h op x) (oUn e h0 op x):=by unfold oUn;repeat' (first|exact rfl|exact Pm.no|exact Pm.ye|exact Pm.vh|refine Pm.ob fun _=>?_|refine Pm.cb ?_ ?_|refine Pm.one fun _=>?_|refine Pm.agg fun _=>?_|refine Pm.natOf fun _=>?_|refine Pm.bound fun _=>?_|refine Pm.chk ?_|refine Pm.opt ?_ fun _=>?_|split)
theorem aG2{s d:Nat}{x:Operand}:Pm h (tY F e h s d x) (tY F e h0 s d x):=by unfold tY;repeat' (first|exact rfl|exact Pm.no|exact Pm.ye|exact Pm.vh|refine Pm.ob fun _=>?_|refine Pm.cb ?_ ?_|refine Pm.one fun _=>?_|refine Pm.agg fun _=>?_|refine Pm.natOf fun _=>?_|refine Pm.bound fun _=>?_|refine Pm.chk ?_|refine Pm.opt ?_ fun _=>?_|split)
theorem aG3{fn:Fn}{a c:List Operand}:Pm h (oV e h fn a c) (oV e h0 fn a c):=by unfold oV oMv;repeat' (first|exact rfl|exact Pm.no|exact Pm.ye|exact Pm.vh|refine Pm.ob fun _=>?_|refine Pm.cb ?_ ?_|refine Pm.one fun _=>?_|refine Pm.agg fun _=>?_|refine Pm.natOf fun _=>?_|refine Pm.bound fun _=>?_|refine Pm.chk ?_|refine Pm.opt ?_ fun _=>?_|split)
theorem aEO{t:Nat}{x:Operand}{lo hi mx:Option Operand}:Pm h (jG F e h t x lo hi mx) (jG F e h0 t x lo hi mx):=by unfold jG slN slC slM;repeat' (first|exact rfl|exact Pm.no|exact Pm.ye|exact Pm.vh|refine Pm.ob fun _=>?_|refine Pm.cb ?_ ?_|refine Pm.one fun _=>?_|refine Pm.agg fun _=>?_|refine Pm.natOf fun _=>?_|refine Pm.bound fun _=>?_|refine Pm.chk ?_|refine Pm.opt ?_ fun _=>?_|split)
theorem aJV{d:Nat}{x:Value}:Pm h (roF h d x) (roF h0 d x):=by unfold roF;repeat' (first|exact Pm.no|exact Pm.vh|split)
theorem aNK{s f:Nat}{x:Operand}:Pm h (oFA F e h s x f) (oFA F e h0 s x f):=by unfold oFA;repeat' (first|exact rfl|exact aJV|exact Pm.no|exact Pm.ye|exact Pm.vh|refine Pm.ob fun _=>?_|refine Pm.cb ?_ ?_|refine Pm.one fun _=>?_|refine Pm.agg fun _=>?_|refine Pm.natOf fun _=>?_|refine Pm.bound fun _=>?_|refine Pm.chk ?_|refine Pm.opt ?_ fun _=>?_|split)
theorem aEP{s f:Nat}{x:Operand}:Pm h (vQ F e h s x f) (vQ F e h0 s x f):=by unfold vQ;repeat' (first|exact rfl|exact Pm.no|exact Pm.ye|exact Pm.vh|refine Pm.ob fun _=>?_|refine Pm.cb ?_ ?_|refine Pm.one fun _=>?_|refine Pm.agg fun _=>?_|refine Pm.natOf fun _=>?_|refine Pm.bound fun _=>?_|refine Pm.chk ?_|refine Pm.opt ?_ fun _=>?_|split)
theorem aJW{x:Value}:Pm h (roN h x) (roN h0 x):=by unfold roN;repeat' (first|exact Pm.no|exact Pm.vh|split)
theorem aJX{j z:Nat}{x:Value}:Pm h (roA h j z x) (roA h0 j z x):=by unfold roA;repeat' (first|exact Pm.no|exact Pm.vh|refine Pm.cb ?_ ?_|split)
theorem aNL{t:Nat}{x y:Operand}:Pm h (oIA F e h t x y) (oIA F e h0 t x y):=by unfold oIA;repeat' (first|exact rfl|exact aJV|exact aJX|exact Pm.no|exact Pm.ye|exact Pm.vh|refine Pm.ob fun _=>?_|refine Pm.cb ?_ ?_|refine Pm.one fun _=>?_|refine Pm.agg fun _=>?_|refine Pm.natOf fun _=>?_|refine Pm.bound fun _=>?_|refine Pm.chk ?_|refine Pm.opt ?_ fun _=>?_|split)
theorem aNM{t:Nat}{x y:Operand}:Pm h (oIx F e h t x y) (oIx F e h0 t x y):=by unfold oIx;repeat' (first|exact rfl|exact Pm.no|exact Pm.ye|exact Pm.vh|refine Pm.ob fun _=>?_|refine Pm.cb ?_ ?_|refine Pm.one fun _=>?_|refine Pm.agg fun _=>?_|refine Pm.natOf fun _=>?_|refine Pm.bound fun _=>?_|refine Pm.chk ?_|refine Pm.opt ?_ fun _=>?_|split)
theorem aJY{x:Operand}{i:Nat}:Pm h (yY e h x i) (yY e h0 x i):=by
 unfold yY;refine Pm.ob fun v=>?_;cases v<;>repeat' (first|exact rfl|exact Pm.no|exact Pm.ye|exact Pm.vh|refine Pm.ob fun _=>?_|refine Pm.cb ?_ ?_|refine Pm.one fun _=>?_|refine Pm.agg fun _=>?_|refine Pm.natOf fun _=>?_|refine Pm.bound fun _=>?_|refine Pm.chk ?_|refine Pm.opt ?_ fun _=>?_|split)
end
section
variable {F:Cf} {call:cZ} {e e':Env} {h h0:H}
theorem aEQ{l:List Operand}(k:∀x∈l,ev e x=ev e' x):evL e l=evL e' l:=by
 induction l with
 |nil=>rfl
 |cons x l ih=>
  show ob (ev e x) _=ob (ev e' x) _;rw[k x List.mem_cons_self];have:=ih fun y hy=>k y (List.mem_cons_of_mem _ hy);unfold evL at this;rw[this]
theorem aBV{pl:Nat→Option (Nat × Nat)}{ps:List (Nat × Operand)}(k:∀p∈ps,ev e p.2=ev e' p.2):parts pl e ps=parts pl e' ps:=by
 induction ps with
 |nil=>rfl
 |cons p ps ih=>
  have h1:=ih fun y hy=>k y (List.mem_cons_of_mem _ hy);have h2:=k p List.mem_cons_self;funext acc;show (ob (pl p.1) fun q=>ob (ev e p.2) fun v=>cells v fun c=>cb (Nat.beq (len c) q.2) (ob (dU q.1 c acc) (parts pl e ps)) none)=(ob (pl p.1) fun q=>ob (ev e' p.2) fun v=>cells v fun c=>cb (Nat.beq (len c) q.2) (ob (dU q.1 c acc) (parts pl e' ps)) none)
  rw[h1,h2]
theorem xB{α:Type}{x:Option Operand}{d:Nat}{f:Nat→Option α}(k:∀y,x=some y→ev e y=ev e' y):bound e x d f=bound e' x d f:=by
 cases x with
 |none=>rfl
 |some y=>show ob (ev e y) _=ob (ev e' y) _;rw[k y rfl]
end
end E
namespace E
open Go Go.RowKit
open Ma Me K
structure Cx where
 n:Nat
 /--the numbers that are known here -/
 k:Nat→Prop
 r:Nat→Nat
 w:World
 z:TypeId→Nat
def ptr(c:Cx)(p:Nat × Nat):Value:=.pointer (some ⟨c.r p.1,p.2,none⟩)
def SR(c:Cx):SV→Value→Prop
 | .u,_=>False
 | .b x,v=>v=.bool x
 | .i k n,v=>v=.int k n
 | .s l,v=>∃s,v=.string s∧bytes s=l
 | .np,v=>v=.pointer none
 | .p id off,v=>c.k id∧v=.pointer (some ⟨c.r id,off,none⟩)
 | .ns,v=>v=.slice none 0 0
 | .sl id off len (some cap),v=>c.k id∧v=.slice (some ⟨c.r id,off,none⟩) len cap
 | .sl id off len none,v=>c.k id∧∃cap o,len≤cap∧v=.slice (some ⟨c.r id,o,none⟩) len cap∧(len≠0∨off=0→o=off)∧∃t cs fr,c.w.heap[c.r id]? =some (.cells cs t fr)∧(off=0→cap*c.z t≤cs.size)
 | .m n,v=>Nm c.w v n
 | .nf,v=>v=.nilFunc
 | .f fn cs,v=>(∀p∈cs,c.k p.1)∧v=.func (.func fn) #[] (cs.map (ptr c)).toArray
 | .y l,v=>c.k l∧v=.func (.yield (c.r l)) #[] #[]
 | .r n,v=>Nr c.w v n
 | .v x,v=>v=x∧aMb x=true
def CL(c:Cx):List SV→List Value→Prop
 | [],[]=>True
 |x::l,v::r=>SR c x v∧CL c l r
 |_,_=>False
def VC(c:Cx):Bool→List SV→Value→Prop
 |true,l,v=>∃cs,v=.agg cs.toArray∧CL c l cs
 |false,l,v=>∃x,l=[x]∧SR c x v
def TL(c:Cx):List (Bool × List SV)→List Value→Prop
 | [],[]=>True
 |p::l,v::r=>VC c p.1 p.2 v∧TL c l r
 |_,_=>False
def VR(c:Cx):AV→Value→Prop
 | .c g l,v=>VC c g l v
 | .t l,v=>∃vs,v=.tuple vs.toArray∧TL c l vs
def VL(c:Cx):List AV→List Value→Prop
 | [],[]=>True
 |x::l,v::r=>VR c x v∧VL c l r
 |_,_=>False
def Tr(c:Cx)(nt:Nat)(e:Env)(tm:Array Value):Prop:=tm.size=nt∧∀k v,e.get k=some v→∃u,tm[k]? =some u∧VR c v u
def Nu(row:List Value):Prop:=∀x∈row,∀z,x≠.int .u64 z
def Bl(c:Cx)(b:B)(g:Nat):Prop:=∃row tail,Bx c.w g b.ty (row++tail)∧CL c b.c row∧(calm b.c=true→Nu tail)
def lst(p:Lp):LoopState:=if p.st then .ready else if p.pd.isSome then .done else .busy
def LpR(c:Cx)(p:Lp)(g:Nat):Prop:=∃o,c.w.heap[g]? =some o∧(∀cs t fr,o≠.cells cs t fr)∧(∀x,o≠.deferred x)∧(p.dd=false→∃D tm,o=.loop {state:=lst p,pending:=p.pd,fn:=p.fn,tmps:=tm,params:=p.ps.toArray,assign:=p.cs,body:=p.bd,defers:=D}∧Tr c p.nt p.e tm)∧∀l k,p.it=some (l,k)→∃s,o=.stringIter s k∧bytes s=l
def Lv(c:Cx)(id:Nat)(b:B):Prop:=c.k id∧b.c≠[]
structure Rl (c:Cx) (wb:World) (h:H):Prop where
 n:c.n=h.n
 k:∀id,c.k id→id<c.n
 q:Q wb c.w
 blk:∀id b,h.h.get id=some b→id<h.n∧(Lv c id b→Bl c b (c.r id))
 inj:∀i j b d,h.h.get i=some b→h.h.get j=some d→Lv c i b→Lv c j d→i≠j→c.r i≠c.r j
 new:∀id b,h.h.get id=some b→Lv c id b→h.bar≤id→wb.heap.size≤c.r id
 lp:∀l p,h.l.get l=some p→l<h.n∧(c.k l→LpR c p (c.r l)∧(h.bar≤l→wb.heap.size≤c.r l))
 li:∀i j p d,h.l.get i=some p→h.l.get j=some d→c.k i→c.k j→i≠j→c.r i≠c.r j
structure Ps (w w':World):Prop where
 m:∀v N,Nm w v N→Nm w' v N
 mr:∀v N,Nr w v N→Nr w' v N
 s:∀(g:Nat) (t:TypeId) (cs:Array Value) (fr:Nat × Nat),w.heap[g]? =some (Obj.cells cs t fr)→∃cs':Array Value,w'.heap[g]? =some (Obj.cells cs' t fr)∧cs'.size=cs.size
 n:w.heap.size≤w'.heap.size
 d:∀g:Nat,w.heap[g]? =some (Obj.deferred (some []))→w'.heap[g]? =some (Obj.deferred (some []))
theorem Ps.refl(w:World):Ps w w:=⟨fun _ _ h=>h,fun _ _ h=>h,fun _ _ cs _ h=>⟨cs,h,rfl⟩,Nat.le_refl _,fun _ h=>h⟩
theorem Ps.trans{a b c:World}(h:Ps a b)(k:Ps b c):Ps a c:=⟨fun v N x=>k.m v N (h.m v N x),fun v N x=>k.mr v N (h.mr v N x),fun g t cs fr x=>let ⟨d,h1,h2⟩:=h.s g t cs fr x;let ⟨e,h3,h4⟩:=k.s g t d fr h1;⟨e,h3,h4.trans h2⟩,Nat.le_trans h.n k.n,fun g x=>k.d g (h.d g x)⟩
theorem Ps.q{a b:World}(h:Q a b):Ps a b:=⟨fun _ _ x=>x.q h,fun _ _ x=>x.q h,fun _ _ cs _ x=>⟨cs,(h.heap (Array.getElem?_eq_some_iff.1 x).1).trans x,rfl⟩,h.size,fun _ x=>(h.heap (Array.getElem?_eq_some_iff.1 x).1).trans x⟩
structure Xt (c d:Cx):Prop where
 n:c.n≤d.n
 k:∀id,c.k id→d.k id
 o:∀id,d.k id→c.k id∨c.n≤id
 r:∀id,c.k id→d.r id=c.r id
 p:Ps c.w d.w
 z:d.z=c.z
theorem Xt.refl(c:Cx):Xt c c:=⟨Nat.le_refl _,fun _ h=>h,fun _ h=>.inl h,fun _ _=>rfl,Ps.refl _,rfl⟩
theorem Xt.trans{a b c:Cx}(h:Xt a b)(k:Xt b c):Xt a c:=⟨Nat.le_trans h.n k.n,fun id hi=>k.k id (h.k id hi),fun id hi=>(k.o id hi).elim (fun q=>h.o id q) fun q=>.inr (Nat.le_trans h.n q),fun id hi=>(k.r id (h.k id hi)).trans (h.r id hi),h.p.trans k.p,k.z.trans h.z⟩
structure Xs (c d:Cx):Prop where
 k:∀id,c.k id→d.k id
 r:∀id,c.k id→d.r id=c.r id
 m:∀v N,Nm c.w v N→Nm d.w v N
 mr:∀v N,Nr c.w v N→Nr d.w v N
 s:∀(g:Nat) (t:TypeId) (cs:Array Value) (fr:Nat × Nat),c.w.heap[g]? =some (Obj.cells cs t fr)→∃cs':Array Value,d.w.heap[g]? =some (Obj.cells cs' t fr)∧cs'.size=cs.size
 z:d.z=c.z
theorem Xt.xs{c d:Cx}(x:Xt c d):Xs c d:=⟨x.k,x.r,x.p.m,x.p.mr,x.p.s,x.z⟩
section
variable {c d:Cx}
theorem SR.xs(x:Xs c d){s:SV}{v:Value}(h:SR c s v):SR d s v:=by
 cases s with
 |p id off=>exact⟨x.k _ h.1,by rw[x.r _ h.1];exact h.2⟩
 |sl id off len cap=>
  cases cap with
  |some cap=>exact⟨x.k _ h.1,by rw[x.r _ h.1];exact h.2⟩
  |none=>
   obtain⟨h1,cap,o,h2,h3,h4,t,cs,fr,h5,h6⟩:=h;obtain⟨cs',h7,h8⟩:=x.s _ _ _ _ h5;exact⟨x.k _ h1,cap,o,h2,by rw[x.r _ h1];exact h3,h4,t,cs',fr,by rw[x.r _ h1];exact h7,by rw[h8,x.z];exact h6⟩
 |m n=>exact x.m _ _ h
 |r n=>exact x.mr _ _ h
 |f fn cs=>
  refine⟨fun p hp=>x.k _ (h.1 p hp),h.2.trans ?_⟩;congr 2;exact List.map_congr_left fun p hp=>by unfold ptr;rw[x.r _ (h.1 p hp)]
 |y l=>exact⟨x.k _ h.1,by rw[x.r _ h.1];exact h.2⟩
 |_=>exact h
theorem CL.xs(x:Xs c d):∀{l:List SV} {r:List Value},CL c l r→CL d l r
 | [],[],_=>trivial
 |_::_,_::_,h=>⟨h.1.xs x,CL.xs x h.2⟩
theorem VC.xs(x:Xs c d){g:Bool}{l:List SV}{v:Value}(h:VC c g l v):VC d g l v:=by
 cases g with
 |true=>obtain⟨cs,h1,h2⟩:=h;exact⟨cs,h1,h2.xs x⟩
 |false=>obtain⟨s,h1,h2⟩:=h;exact⟨s,h1,h2.xs x⟩
theorem TL.xs(x:Xs c d):∀{l:List (Bool × List SV)} {r:List Value},TL c l r→TL d l r
 | [],[],_=>trivial
 |_::_,_::_,h=>⟨h.1.xs x,TL.xs x h.2⟩
theorem VR.xs(x:Xs c d){a:AV}{v:Value}(h:VR c a v):VR d a v:=by
 cases a with
 |c g l=>exact VC.xs x h
 |t l=>obtain⟨vs,h1,h2⟩:=h;exact⟨vs,h1,h2.xs x⟩
theorem VL.xs(x:Xs c d):∀{l:List AV} {r:List Value},VL c l r→VL d l r
 | [],[],_=>trivial
 |_::_,_::_,h=>⟨h.1.xs x,VL.xs x h.2⟩
theorem Tr.xs(x:Xs c d){nt:Nat}{e:Env}{tm:Array Value}(h:Tr c nt e tm):Tr d nt e tm:=
 ⟨h.1,fun k v hk=>let ⟨u,h1,h2⟩:=h.2 k v hk;⟨u,h1,h2.xs x⟩⟩
theorem CL.xt(x:Xt c d){l:List SV}{r:List Value}(h:CL c l r):CL d l r:=h.xs x.xs
theorem VR.xt(x:Xt c d){a:AV}{v:Value}(h:VR c a v):VR d a v:=h.xs x.xs
theorem VL.xt(x:Xt c d){l:List AV}{r:List Value}(h:VL c l r):VL d l r:=h.xs x.xs
theorem Tr.xt(x:Xt c d){nt:Nat}{e:Env}{tm:Array Value}(h:Tr c nt e tm):Tr d nt e tm:=h.xs x.xs
theorem CL.len:∀{l:List SV} {r:List Value},CL c l r→r.length=l.length
 | [],[],_=>rfl
 |_::_,_::_,h=>by simp[CL.len h.2]
theorem CL.take(n:Nat):∀{l:List SV} {r:List Value},CL c l r→CL c (l.take n) (r.take n)
 | [],[],_=>by simp[CL]
 |_::_,_::_,h=>by
  cases n with
  |zero=>trivial
  |succ n=>exact⟨h.1,CL.take n h.2⟩
theorem CL.drop(n:Nat):∀{l:List SV} {r:List Value},CL c l r→CL c (l.drop n) (r.drop n)
 | [],[],_=>by simp[CL]
 |_::_,_::_,h=>by
  cases n with
  |zero=>exact h
  |succ n=>exact CL.drop n h.2
theorem CL.app:∀{l m:List SV} {r s:List Value},CL c l r→CL c m s→CL c (l++m) (r++s)
 | [],_,[],_,_,k=>k
 |_::_,_,_::_,_,h,k=>⟨h.1,CL.app h.2 k⟩
theorem CL.calm:∀{l:List SV} {r:List Value},CL c l r→calm l=true→Nu r
 | [],[],_,_=>fun x hx=>by cases hx
 |s::l,v::r,h,k=>by
  have k2:E.calm (s::l)=cb (aBP s) (E.calm l) false:=rfl;rw[k2,bU]at k;split at k
  ·rename_i ks;intro y hy z;rcases List.mem_cons.1 hy with rfl|hy
   ·intro e;subst e;have hs:=h.1;cases s with
    |u=>cases hs
    |i kk n=>cases hs;cases ks
    |sl id off len cap=>cases cap<;>simp[SR]at hs
    |m n=>obtain⟨A,c,ws,h1,-⟩:=hs;cases h1
    |s l=>obtain⟨_,h1,-⟩:=hs;cases h1
    |p id off=>cases hs.2
    |f fn cs=>cases hs.2
    |y l=>cases hs.2
    |r n=>obtain⟨A,c,ws,h1,-⟩:=hs;cases h1
    |v x=>obtain⟨h1,h2⟩:=hs;subst h1;cases h2
    |_=>cases hs
   ·exact CL.calm h.2 k y hy z
  ·cases k
theorem kZ{b:B}(h:jE b=true):E.calm b.c=true∧b.ty≠tyR:=by
 have h:cb (Nat.beq b.ty tyR) false (E.calm b.c)=true:=h;cases hb:Nat.beq b.ty tyR with
 |true=>rw[hb]at h;cases h
 |false=>
  rw[hb]at h;exact⟨h,fun e=>by rw[e,Nat.beq_refl]at hb;cases hb⟩
theorem Bl.xs(x:Xs c d){b:B}{g:Nat}(hh:d.w.heap[g]? =c.w.heap[g]?)(h:Bl c b g):Bl d b g:=by
 obtain⟨row,tail,h1,h2,h3⟩:=h;exact⟨row,tail,hh.trans h1,h2.xs x,h3⟩
theorem Bl.xt(x:Xt c d){b:B}{g:Nat}(hh:d.w.heap[g]? =c.w.heap[g]?)(h:Bl c b g):Bl d b g:=h.xs x.xs hh
theorem Bl.lt{b:B}{g:Nat}(h:Bl c b g):g<c.w.heap.size:=by
 obtain⟨row,tail,h1,-⟩:=h;exact h1.lt
theorem LpR.lt{p:Lp}{g:Nat}(h:LpR c p g):g<c.w.heap.size:=by
 obtain⟨rc,h1,-⟩:=h;exact (Array.getElem?_eq_some_iff.1 h1).1
theorem LpR.xs(x:Xs c d){p:Lp}{g:Nat}(hh:d.w.heap[g]? =c.w.heap[g]?)(h:LpR c p g):LpR d p g:=by
 obtain⟨o,h1,h2,h2',h3,h4⟩:=h;exact⟨o,hh.trans h1,h2,h2',fun hd=>let ⟨D,tm,h3,h4⟩:=h3 hd;⟨D,tm,h3,h4.xs x⟩,h4⟩
theorem LpR.xt(x:Xt c d){p:Lp}{g:Nat}(hh:d.w.heap[g]? =c.w.heap[g]?)(h:LpR c p g):LpR d p g:=h.xs x.xs hh
theorem aG4{b:B}{p:Lp}{g k:Nat}(h:Bl c b g)(hl:LpR c p k):k≠g:=by
 intro e;subst e;obtain⟨row,tail,h1,-⟩:=h;obtain⟨rc,h2,h3,-⟩:=hl;rw[h1]at h2;injection h2 with h2;exact h3 _ _ _ h2.symm
theorem Ps.one{w w':World}{g:Nat}{t:TypeId}{row:List Value}(hb:Bx w g t row)(hn:Nu row)(ht:t≠tyR)(hk:∀k,k≠g→w'.heap[k]? =w.heap[k]?)(hs:w'.heap.size=w.heap.size){row':List Value}(hb':Bx w' g t row')(hl:row'.length=row.length):Ps w w':=by
 refine⟨fun v N h=>?_,fun v N h=>?_,fun k t2 cs fr hc=>?_,by omega,fun k hc=>?_⟩
 rotate_left
 rotate_left
 rotate_left
 ·have hkg:k≠g:=fun e=>by
   subst e;unfold Bx at hb;rw[hb]at hc;cases hc
  exact (hk k hkg).trans hc
 rotate_left
 rotate_left
 ·by_cases hkg:k=g
  ·subst hkg;unfold Bx at hb;rw[hb]at hc;injection hc with hc;injection hc with h1 h2 h3;subst h1;subst h2;subst h3;exact⟨_,hb',by simpa using hl⟩
  ·exact⟨cs,(hk k hkg).trans hc,rfl⟩
 rotate_left
 ·obtain⟨A,c,ds,h1,h2,h3,h4,h5⟩:=h;refine⟨A,c,ds,h1,h2,fun hw=>?_,h4,h5⟩;obtain⟨ad,e,hlt,hc,cs,fr,hb2⟩:=h3 hw;have hne:ad.block≠g:=by
   intro e;unfold Bx at hb;rw[e,hb]at hb2;injection hb2 with hb2;injection hb2 with _ hb2;exact ht hb2
  have he:=hk _ hne;exact⟨ad,e,by omega,fun j d hd=>(pR (p:=ad.add j) (by unfold Addr.add;split<;>exact he)).trans (hc j d hd),cs,fr,he.trans hb2⟩
 obtain⟨A,c,ws,h1,h2,h3,h4,h5⟩:=h;refine⟨A,c,ws,h1,h2,fun hw=>?_,h4,h5⟩;obtain⟨b,o,e,hlt,hc⟩:=h3 hw;have hne:b≠g:=by
  intro e;have h2:=hc 0 _ (List.getElem?_eq_getElem hw);unfold Bx at hb;rw[←e]at hb;have h3:row[o+0]? =some (.int .u64 ((ws[0]:Nat):Int)):=(by simpa [World.cell?,hb] using h2);exact hn _ (List.mem_of_getElem? h3) _ rfl
 have he:=hk _ hne;exact⟨b,o,e,by omega,fun j u hu=>(pR (p:=⟨b,o+j,none⟩) he).trans (hc j u hu)⟩
end
def Cx.nw(c:Cx)(o:Obj):Cx:=⟨c.n+1,fun id=>c.k id∨id=c.n,fun id=>if id=c.n then c.w.heap.size else c.r id,c.w.alloc o,c.z⟩
section
variable {c:Cx} {wb:World} {h:H}
theorem aBW(hk:∀id,c.k id→id<c.n)(o:Obj):Xt c (c.nw o):=⟨Nat.le_succ _,fun id hi=>.inl hi,fun id hi=>hi.elim .inl fun q=>.inr (by omega),fun id hi=>if_neg (by have:=hk id hi;omega),Ps.q ((Q.refl _).alloc o),rfl⟩
theorem uV(o:Obj):(c.nw o).r c.n=c.w.heap.size:=if_pos rfl
theorem fV(o:Obj){id:Nat}(hi:id<c.n):(c.nw o).r id=c.r id:=if_neg (by omega)
theorem Rl.size(hr:Rl c wb h):wb.heap.size≤c.w.heap.size:=hr.q.size
theorem Rl.nw(hr:Rl c wb h)(b:B){row tail:List Value}(hb:CL c b.c row)(ht:calm b.c=true→Nu tail):
  Rl (c.nw (.cells (row++tail).toArray b.ty)) wb ⟨h.h.set b h.n,Nat.succ h.n,h.bar,h.l⟩:=by
 have hn:=hr.n;have hsz:=hr.size;have X:=aBW (c:=c) hr.k (.cells (row++tail).toArray b.ty);have hold:∀k,k<c.w.heap.size→(c.nw (.cells (row++tail).toArray b.ty)).w.heap[k]? =c.w.heap[k]? :=fun k hk=>Below.heap_alloc _ _ k hk;have hnew:Bl (c.nw (.cells (row++tail).toArray b.ty)) b ((c.nw (.cells (row++tail).toArray b.ty)).r h.n):=by
  rw[←hn,uV];exact⟨row,tail,Bx.new _ _ _,hb.xt X,ht⟩
 have key:∀id b',(T.set b h.h h.n).get id=some b'→(id=h.n∧b'=b)∨(id<h.n∧h.h.get id=some b'):=fun id b' hg=>by
  rcases T.get_set hg with⟨h1,h2⟩|⟨h1,h2⟩
  ·exact .inl ⟨h1,h2⟩
  ·exact .inr ⟨(hr.blk id b' h2).1,h2⟩
 have lv:∀{id b'},id<h.n→Lv (c.nw (.cells (row++tail).toArray b.ty)) id b'→Lv c id b':=fun hi q=>⟨q.1.elim (fun q=>q) fun q=>by omega,q.2⟩
 have kk:∀{id},id<h.n→(c.nw (.cells (row++tail).toArray b.ty)).k id→c.k id:=fun hi q=>q.elim (fun q=>q) fun q=>by omega
 refine⟨by show c.n+1=h.n+1;rw[hn],fun id q=>by show id<c.n+1;exact q.elim (fun q=>Nat.lt_succ_of_lt (hr.k id q)) fun q=>by omega,hr.q.alloc _,fun id b' hg=>?_,fun i j b' d hi hj hb' hd hij=>?_,fun id b' hg hc hbar=>?_,fun l p hl=>?_,fun i j p d hi hj ki kj hij=>?_⟩
 ·rcases key id b' hg with⟨rfl,rfl⟩|⟨h1,h2⟩
  ·exact⟨Nat.lt_succ_self _,fun _=>hnew⟩
  ·refine⟨Nat.lt_succ_of_lt h1,fun hc=>?_⟩;rw[fV _ (by omega)];have:=(hr.blk id b' h2).2 (lv h1 hc);exact this.xt X (hold _ this.lt)
 ·rcases key i b' hi with⟨rfl,rfl⟩|⟨h1,h2⟩
  ·rcases key j d hj with⟨rfl,rfl⟩|⟨h3,h4⟩
   ·exact absurd rfl hij
   ·have:=((hr.blk j d h4).2 (lv h3 hd)).lt;rw[←hn,uV,fV _ (by omega)];omega
  ·have h5:=((hr.blk i b' h2).2 (lv h1 hb')).lt;rcases key j d hj with⟨rfl,rfl⟩|⟨h3,h4⟩
   ·rw[fV _ (by omega),←hn,uV];omega
   ·rw[fV _ (by omega),fV _ (by omega)];exact hr.inj i j b' d h2 h4 (lv h1 hb') (lv h3 hd) hij
 ·rcases key id b' hg with⟨rfl,rfl⟩|⟨h1,h2⟩
  ·rw[←hn,uV];exact hsz
  ·rw[fV _ (by omega)];exact hr.new id b' h2 (lv h1 hc) hbar
 ·obtain⟨h1,h23⟩:=hr.lp l p hl;rw[fV _ (by omega)];exact⟨Nat.lt_succ_of_lt h1,fun q=>let ⟨h2,h3⟩:=h23 (kk h1 q);⟨h2.xt X (hold _ h2.lt),h3⟩⟩
 ·rw[fV _ (by have:=(hr.lp i p hi).1;omega),fV _ (by have:=(hr.lp j d hj).1;omega)];exact hr.li i j p d hi hj (kk (hr.lp i p hi).1 ki) (kk (hr.lp j d hj).1 kj) hij
def Cx.drew(c:Cx):Cx:=⟨c.n,c.k,c.r,c.w.drew,c.z⟩
theorem vT:Xt c c.drew:=⟨Nat.le_refl _,fun _ h=>h,fun _ h=>.inl h,fun _ _=>rfl,Ps.q (Q.refl _).drew,rfl⟩
theorem Rl.drew(hr:Rl c wb h):Rl c.drew wb h:=
 ⟨hr.n,hr.k,hr.q.drew,fun id b hg=>⟨(hr.blk id b hg).1,fun hc=>((hr.blk id b hg).2 hc).xt vT rfl⟩,hr.inj,hr.new,fun l p hl=>⟨(hr.lp l p hl).1,fun q=>⟨((hr.lp l p hl).2 q).1.xt vT rfl,((hr.lp l p hl).2 q).2⟩⟩,hr.li⟩
theorem aAz{x:Value}(h:aEK x=true):∃t,x=.iface t (.agg #[]):=by
 unfold aEK at h;split at h
 ·rename_i t cs;split at h
  ·rename_i hc;exact⟨t,by rw[show cs=#[] from Array.toList_inj.1 hc]⟩
  ·cases h
 ·cases h
theorem aOT{x:Value}(h:aMa x=true):∃m t,x=.func (.method m) #[.iface t (.agg #[])] #[]:=by
 unfold aMa at h;split at h
 ·rename_i m a d;split at h
  ·rename_i r ha hd;obtain⟨t,rfl⟩:=aAz h;exact⟨m,t,by rw[show a=#[.iface t (.agg #[])] from Array.toList_inj.1 ha,show d=#[] from Array.toList_inj.1 hd]⟩
  ·cases h
 ·cases h
theorem aOU{x:Value}(h:aMb x=true):(∃a n m,x=.slice a n m)∨(∃a,x=.pointer (some a))∨(∃t,x=.iface t (.agg #[]))∨∃m t,x=.func (.method m) #[.iface t (.agg #[])] #[]:=by
 unfold aMb at h;split at h
 ·exact .inl ⟨_,_,_,rfl⟩
 ·exact .inr (.inl ⟨_,rfl⟩)
 ·rcases (Bool.or_eq_true _ _).mp h with h|h
  ·exact .inr (.inr (.inl (aAz h)))
  ·exact .inr (.inr (.inr (aOT h)))
theorem oneCell{s:SV}{v:Value}(h:SR c s v):v.oneCell'=true:=by
 cases s with
 |u=>cases h
 |s l=>obtain⟨_,rfl,-⟩:=h;rfl
 |p id off=>rw[h.2];rfl
 |sl id off len cap=>
  cases cap with
  |some cap=>rw[h.2];rfl
  |none=>obtain⟨_,_,_,_,rfl,-⟩:=h;rfl
 |m n=>obtain⟨_,_,_,rfl,-⟩:=h;rfl
 |f fn cs=>rw[h.2];rfl
 |y l=>rw[h.2];rfl
 |r n=>obtain⟨_,_,_,rfl,-⟩:=h;rfl
 |v x=>
  obtain⟨rfl,h2⟩:=h;rcases aOU h2 with⟨a,n,m,rfl⟩|⟨a,rfl⟩|⟨t,rfl⟩|⟨m,t,rfl⟩<;>rfl
 |_=>rw[h];rfl
theorem xC:∀{l:List SV} {r:List Value},CL c l r→∀v∈r,v.oneCell'=true
 | [],[],_,_,hv=>by cases hv
 |_::_,_::_,h,v,hv=>by
  rcases List.mem_cons.1 hv with rfl|hv
  ·exact oneCell h.1
  ·exact xC h.2 v hv
def Cx.row(c:Cx)(g:Nat)(cs:List Value):Cx:=⟨c.n,c.k,c.r,c.w.setRow g cs.toArray,c.z⟩
theorem Rl.row(hr:Rl c wb h){id:Nat}{b b':B}(hg:h.h.get id=some b)(hlv:Lv c id b)(hbar:h.bar≤id)(hty:b'.ty=b.ty)(hcalm:jE b=true){row tail row' tail':List Value}(hb:Bx c.w (c.r id) b.ty (row++tail))(hc:CL c b.c row)(ht:Nu tail)(hc':CL c b'.c row')(ht':Nu tail')(hl:(row'++tail').length=(row++tail).length):
  Xt c (c.row (c.r id) (row'++tail'))∧Rl (c.row (c.r id) (row'++tail')) wb ⟨h.h.set b' id,h.n,h.bar,h.l⟩:=by
 have hnu:Nu (row++tail):=fun x hx=>by
  rcases List.mem_append.1 hx with hx|hx
  ·exact hc.calm (kZ hcalm).1 x hx
  ·exact ht x hx
 have hoth:∀k,k≠c.r id→(c.row (c.r id) (row'++tail')).w.heap[k]? =c.w.heap[k]? :=fun k hk=>setRow_other _ _ _ _ hk;have X:Xt c (c.row (c.r id) (row'++tail')):=⟨Nat.le_refl _,fun _ h=>h,fun _ h=>.inl h,fun _ _=>rfl,Ps.one hb hnu (kZ hcalm).2 hoth (size_setRow _ _ _) (setRow_heap _ _ _ _ _ _ hb) hl,rfl⟩
 have hB0:Bl c b (c.r id):=(hr.blk id b hg).2 hlv;have hnew:Bl (c.row (c.r id) (row'++tail')) b' (c.r id):=⟨row',tail',by rw[hty];exact setRow_heap _ _ _ _ _ _ hb,hc'.xt X,fun _=>ht'⟩
 have key:∀j b2,(T.set b' h.h id).get j=some b2→(j=id∧b2=b')∨(j≠id∧h.h.get j=some b2):=fun j b2 hg=>T.get_set hg;refine⟨X,hr.n,hr.k,below_setRow hr.q (hr.new id b hg hlv hbar) _,fun j b2 hj=>?_,fun i j x d hi hj hx hd hij=>?_,fun j b2 hj h1 h2=>?_,fun l p hl=>?_,hr.li⟩
 ·rcases key j b2 hj with⟨rfl,rfl⟩|⟨h1,h2⟩
  ·exact⟨(hr.blk _ b hg).1,fun _=>hnew⟩
  ·refine⟨(hr.blk j b2 h2).1,fun hc=>?_⟩;have:=(hr.blk j b2 h2).2 hc;exact this.xt X (hoth _ (hr.inj j id b2 b h2 hg hc hlv h1))
 ·rcases key i x hi with⟨rfl,rfl⟩|⟨h1,h2⟩
  ·rcases key j d hj with⟨rfl,rfl⟩|⟨h3,h4⟩
   ·exact absurd rfl hij
   ·exact hr.inj _ j b d hg h4 hlv hd hij
  ·rcases key j d hj with⟨rfl,rfl⟩|⟨h3,h4⟩
   ·exact hr.inj i _ x b h2 hg hx hlv hij
   ·exact hr.inj i j x d h2 h4 hx hd hij
 ·rcases key j b2 hj with⟨rfl,rfl⟩|⟨h3,h4⟩
  ·exact hr.new _ b hg hlv hbar
  ·exact hr.new j b2 h4 h1 h2
 ·obtain⟨h1,h23⟩:=hr.lp l p hl;exact⟨h1,fun q=>let ⟨h2,h3⟩:=h23 q;⟨h2.xt X (hoth _ (aG4 hB0 h2)),h3⟩⟩
theorem aIl(hr:Rl c wb h){id off n:Nat}{l:List SV}(hkn:c.k id)(hd:rd h id off n=some l):
  ∃vs,CL c l vs∧vs.length=n∧∀j v,vs[j]? =some v→c.w.cell? ⟨c.r id,off+j,none⟩=some v:=by
 unfold rd at hd;obtain⟨b,hg,ht⟩:=aA.1 hd;rw[jY]at ht;obtain⟨h1,rfl⟩:=kY.1 ht;by_cases hne:b.c=[]
 ·rw[hne]at h1;simp at h1;subst h1;exact⟨[],by simp[CL],rfl,fun j v hv=>by simp at hv⟩
 ·obtain⟨row,tail,hb,hc,-⟩:=(hr.blk id b hg).2 ⟨hkn,hne⟩;refine⟨(row.drop off).take n,(hc.drop off).take n,?_,fun j v hv=>hb.cell _ ?_⟩
  ·have:=(hc.drop off).len;rw[List.length_take];omega
  ·rw[List.getElem?_take]at hv;split at hv
   ·rw[List.getElem?_drop]at hv;rw[List.getElem?_append_left (List.getElem?_eq_some_iff.1 hv).1];exact hv
   ·cases hv
theorem add0(g o j:Nat):(⟨g,o,none⟩:Addr).add j=⟨g,o+j,none⟩:=jW g o j
theorem aIm(hr:Rl c wb h)(P:Program){id off:Nat}{l:List SV}{h':H}(hkn:c.k id)(hw:wr h id off l=some h'){vs:List Value}(hv:CL c l vs)(hl:l≠[]):
  ∃c',Xt c c'∧Rl c' wb h'∧(storeCells ⟨c.r id,off,none⟩ vs).run P c.w=.ok () c'.w∧h'.n=h.n∧h'.bar=h.bar:=by
 unfold wr at hw;obtain⟨h1,h2⟩:=aD.1 hw;obtain⟨b,hg,h3⟩:=aA.1 h2;obtain⟨nc,h4,h5⟩:=aA.1 h3;obtain⟨h6,h7⟩:=aD.1 h5;injection h7 with h7;obtain⟨h8,rfl⟩:=pW.1 h4;have hvl:=hv.len;have hne:b.c≠[]:=by
  intro e;rw[e]at h8;simp at h8;exact hl h8.2
 obtain⟨row,tail,hb,hc,ht⟩:=(hr.blk id b hg).2 ⟨hkn,hne⟩;have hrl:=hc.len;have hst:=run_storeCells_at (P:=P) (c.r id) off b.ty vs 0 (row++tail).toArray c.w hb (by simp;omega) (xC hv);have e:((row++tail).toArray.toList.take (off+0)++vs++(row++tail).toArray.toList.drop (off+0+vs.length))=(row.take off++vs++row.drop (off+vs.length))++tail:=by
  simp only[Nat.add_zero];rw[List.take_append_of_le_length (by omega),List.drop_append_of_le_length (by omega)];simp
 rw[e]at hst;have hc':CL c (b.c.take off++l++b.c.drop (off+l.length)) (row.take off++vs++row.drop (off+vs.length)):=by
  rw[hvl];exact ((hc.take off).app hv).app (hc.drop _)
 have hbar:=bN.1 h1;obtain⟨X,R⟩:=hr.row (b':=⟨b.ty,b.c.take off++l++b.c.drop (off+l.length)⟩) hg ⟨hkn,hne⟩ hbar rfl h6 hb hc (ht (kZ h6).1) hc' (ht (kZ h6).1) (by simp;omega);rw[←h7];exact⟨_,X,R,hst,rfl,rfl⟩
end
section
variable {c:Cx} {α:Type}
theorem aER{l:List SV}{k:SV→Option α}{y:α}:hd1 l k=some y↔∃x,l=[x]∧k x=some y:=by
 match l with
 | []=>exact⟨fun h=>(by cases h),fun ⟨x,h,_⟩=>(by cases h)⟩
 | [x]=>exact⟨fun h=>⟨x,rfl,h⟩,fun ⟨z,h,k⟩=>by injection h with h _;subst h;exact k⟩
 |_::_::_=>exact⟨fun h=>(by cases h),fun ⟨x,h,_⟩=>(by cases h)⟩
theorem aL{v:AV}{k:SV→Option α}{y:α}:one v k=some y↔∃x,v=sc x∧k x=some y:=by
 cases v with
 |c g l=>
  cases g with
  |true=>exact⟨fun h=>(by cases h),fun ⟨x,h,_⟩=>(by cases h)⟩
  |false=>
   show hd1 l k=some y↔_;rw[aER];exact⟨fun ⟨x,h,hk⟩=>⟨x,by rw[h];rfl,hk⟩,fun ⟨x,h,hk⟩=>⟨x,by injection h,hk⟩⟩
 |t l=>exact⟨fun h=>(by cases h),fun ⟨x,h,_⟩=>(by cases h)⟩
theorem rW{v:AV}{k:List SV→Option α}{y:α}:agg v k=some y↔∃l,v=.c true l∧k l=some y:=by
 cases v with
 |c g l=>
  cases g with
  |true=>exact⟨fun h=>⟨l,rfl,h⟩,fun ⟨x,h,hk⟩=>by injection h with _ h;subst h;exact hk⟩
  |false=>exact⟨fun h=>(by cases h),fun ⟨x,h,_⟩=>(by cases h)⟩
 |t l=>exact⟨fun h=>(by cases h),fun ⟨x,h,_⟩=>(by cases h)⟩
theorem nI{v:AV}{k:List SV→Option α}{y:α}:cells v k=some y↔∃g l,v=.c g l∧k l=some y:=by
 cases v with
 |c g l=>exact⟨fun h=>⟨g,l,rfl,h⟩,fun ⟨g2,x,h,hk⟩=>by injection h with _ h;subst h;exact hk⟩
 |t l=>exact⟨fun h=>(by cases h),fun ⟨_,x,h,_⟩=>(by cases h)⟩
theorem aF{s:SV}{u:Value}:VR c (sc s) u↔SR c s u:=⟨fun ⟨x,h,hx⟩=>by injection h with h _;subst h;exact hx,fun h=>⟨s,rfl,h⟩⟩
theorem xD:VR c un undef:=⟨[],rfl,trivial⟩
theorem cells_ok{g:Bool}{l:List SV}{u:Value}(h:VR c (.c g l) u):CL c l u.cells.toList:=by
 cases g with
 |true=>obtain⟨cs,rfl,hc⟩:=h;exact hc
 |false=>
  obtain⟨x,rfl,hx⟩:=h;have h1:=oneCell hx;have e:u.cells=#[u]:=by cases u<;>first|rfl|cases h1
  rw[e];exact⟨hx,trivial⟩
theorem aOV{x:SV}{v:Value}(h:aId x v=true):SR c x v:=by
 unfold aId at h;split at h
 ·simp at h;subst h;rfl
 ·rename_i s;exact⟨s,rfl,by unfold bytes;rw[show s.data.toList=[] from by simpa using h];rfl⟩
 ·rfl
 ·exact Nm.zero _ _
 ·exact⟨none,0,[],rfl,Nat.le_refl 0,Rd.nil,Wf.nil,rfl⟩
 ·rfl
 ·rfl
 ·rfl
 ·cases h
theorem lW:∀{l:List SV} {r:List Value},zok l r=true→CL c l r
 | [],[],_=>trivial
 | [],_::_,h=>by cases h
 |_::_,[],h=>by cases h
 |x::l,v::r,h=>by
  have h2:(aId x v && zok l r)=true:=h;obtain⟨h3,h4⟩:=(Bool.and_eq_true _ _).mp h2;exact⟨aOV h3,lW h4⟩
theorem aQR{v:Value}(h:isF v=true):v=.bool false:=by
 unfold isF at h;split at h
 ·rfl
 ·cases h
theorem aJZ{v:Value}(h:isZ v=true):v=.slice none 0 0:=by
 unfold isZ at h;split at h
 ·rfl
 ·cases h
theorem aQS{v:Value}{a:AV}(h:ofV v=some a):VR c a v:=by
 unfold ofV at h;split at h
 case h_7 cs=>
  unfold ofA at h;split at h
  ·rename_i x y z hl;obtain⟨h1,h2⟩:=aD.1 h;obtain⟨h3,h4⟩:=aD.1 h2;obtain⟨h5,h6⟩:=aD.1 h4;injection h6 with h6;subst h6;rw[aQR h1,aJZ h3,aJZ h5]at hl;refine⟨cs.toList,by rw[Array.toArray_toList],?_⟩;rw[hl];exact⟨rfl,Nm.zero _ _,Nm.zero _ _,trivial⟩
  ·cases h
 case h_8 vs=>
  split at h
  ·rename_i hl;injection h with h;subst h;exact⟨[],by rw[←hl,Array.toArray_toList],trivial⟩
  ·cases h
 all_goals first
  |(injection h with h;subst h;first
    |exact aF.2 rfl
    |exact aF.2 ⟨_,rfl,rfl⟩)
  |cases h
end
section
variable {F:Cf} {c:Cx} {wb:World} {h h':H} {nt:Nat} {e:Env} {a:Act} {o:Oper} {v:AV}
theorem bJ(ht:Tr c nt e a.tmps){x:Operand}(hx:ev e x=some v):VR c v (a.eval x):=by
 cases x with
 |tmp t=>
  obtain⟨u,h1,h2⟩:=ht.2 t v hx;show VR c v (a.tmps.getD t undef);rw[Array.getD_eq_getD_getElem?,h1];exact h2
 |const k=>exact aQS hx
 |global g=>
  injection hx with hx;subst hx;exact aF.2 ⟨rfl,rfl⟩
 |func f=>
  injection hx with hx;subst hx;exact aF.2 ⟨fun p hp=>(by cases hp),rfl⟩
theorem rX(ht:Tr c nt e a.tmps):∀{l:List Operand} {vs:List AV},evL e l=some vs→VL c vs (l.map a.eval)
 | [],vs,hx=>by injection hx with hx;subst hx;trivial
 |x::l,vs,hx=>by
  have e1:evL e (x::l)=ob (ev e x) fun v=>ob (evL e l) fun r=>some (v::r):=rfl;rw[e1]at hx;obtain⟨v,h1,h2⟩:=aA.1 hx;obtain⟨r,h3,h4⟩:=aA.1 h2;injection h4 with h4;subst h4;exact⟨bJ ht h1,rX ht h3⟩
structure Ty (P:Program) (t:Nat) (i:TI):Prop where
 ex:∃inf d z,P.info? t=some inf∧P.underlying t=some d∧i.d=dk d∧i.sz=inf.size∧i.by_=inf.bytes∧inf.zero=some z∧zok i.ze z.cells.toList=true∧z.cells.toList.length=inf.size
theorem aO{t:Nat}{i:TI}(h:F.ti t=some i):Ty F.P t i:=by
 unfold Cf.ti at h;split at h
 ·rename_i inf d hi hd;split at h
  ·rename_i z hz;obtain⟨h1,h2⟩:=aD.1 h;obtain⟨h3,h4⟩:=(Bool.and_eq_true _ _).mp h1;injection h2 with h2;subst h2;exact⟨inf,d,z,hi,hd,rfl,rfl,rfl,hz,h3,aM.1 h4⟩
  ·cases h
 ·cases h
theorem mK{t n:Nat}(h:sz F t=some n):∃i,F.ti t=some i∧i.sz=n:=by
 obtain⟨i,h1,h2⟩:=aA.1 h;injection h2 with h2;exact⟨i,h1,h2⟩
theorem gB{P:Program}{t:Nat}{i:TI}(h:Ty P t i)(w:World):(sizeOf t).run P w=.ok i.sz w:=by
 obtain⟨inf,d,z,h1,h2,h3,h4,h5,h6,h7,h8⟩:=h.ex;simp[sizeOf,typeInfo,h1,h4]
theorem aAA{P:Program}{t:Nat}{i:TI}(h:Ty P t i)(w:World):(isAgg t).run P w=.ok i.d.ag w:=by
 obtain⟨inf,d,z,h1,h2,h3,h4,h5,h6,h7,h8⟩:=h.ex;unfold isAgg;rw[Sem.run_bind,run_underlying h2 w,h3];cases d<;>rfl
theorem aMi{P:Program}{t:Nat}{i:TI}(h:Ty P t i)(w:World):∃z,(zeroValue t).run P w=.ok z w∧CL c i.ze z.cells.toList∧z.cells.toList.length=i.sz:=by
 obtain⟨inf,d,z,h1,h2,h3,h4,h5,h6,h7,h8⟩:=h.ex;exact⟨z,by simp[zeroValue,typeInfo,h1,h6],lW h7,by rw[h8,h4]⟩
def OpR(P:Program)(ρ:Operand→Value)(o:Oper)(w:World)(u:Value)(w':World):Prop:=
 (execOp ρ o).run P w=.ok (.value u) w'∨((execOp ρ o).run P w=.ok .skip w'∧u=undef)
def Po(c:Cx)(wb:World)(h':H)(v:AV)(u:Value)(w':World):Prop:=∃d,d.w=w'∧Xt c d∧Rl d wb h'∧VR d v u
theorem OpR.vl{P:Program}{ρ:Operand→Value}{w w':World}{u:Value}{s:Sem Value}(he:execOp ρ o=(do pure (Next.value (←s))))(hs:s.run P w=.ok u w'):OpR P ρ o w u w':=
 .inl (by rw[he,Sem.run_bind,hs];rfl)
theorem OpR.sk{P:Program}{ρ:Operand→Value}{w w':World}{s:Sem Unit}(he:execOp ρ o=(do s;pure Next.skip))(hs:s.run P w=.ok () w'):OpR P ρ o w undef w':=
 .inr ⟨by rw[he,Sem.run_bind,hs];rfl,rfl⟩
theorem Po.same{u:Value}(hr:Rl c wb h)(hv:VR c v u):Po c wb h v u c.w:=⟨c,rfl,Xt.refl c,hr,hv⟩
theorem aBX(hr:Rl c wb h)(b:B){A:Array Value}(hb:CL c b.c A.toList):
  ∃d,d.w=c.w.alloc (.cells A b.ty)∧Xt c d∧Rl d wb ⟨h.h.set b h.n,Nat.succ h.n,h.bar,h.l⟩∧d.r h.n=c.w.heap.size∧d.k h.n:=by
 have:=hr.nw b (tail:=[]) hb (fun _ x hx=>by cases hx);rw[List.append_nil,Array.toArray_toList]at this;exact⟨_,rfl,aBW hr.k _,this,by rw[←hr.n];exact uV _,by rw[←hr.n];exact .inr rfl⟩
theorem aOW(hr:Rl c wb h)(b:B){A:Array Value}{row tail:List Value}(hb:CL c b.c row)(ht:calm b.c=true→Nu tail)(hA:A.toList=row++tail):
  ∃d,d.w=c.w.alloc (.cells A b.ty)∧Xt c d∧Rl d wb ⟨h.h.set b h.n,Nat.succ h.n,h.bar,h.l⟩∧d.r h.n=c.w.heap.size∧d.k h.n:=by
 have:=hr.nw b hb ht;rw[←hA,Array.toArray_toList]at this;exact⟨_,rfl,aBW hr.k _,this,by rw[←hr.n];exact uV _,by rw[←hr.n];exact .inr rfl⟩
theorem aJ0{x:Operand}(hr:Rl c wb h)(ht:Tr c nt e a.tmps)(ho:o.op=.move x∨o.op=.assign x)(hx:(ob (ev e x) fun v=>some (v,h))=some (v,h')):∃u w',OpR F.P a.eval o c.w u w'∧Po c wb h' v u w':=by
 obtain⟨v1,h1,h2⟩:=aA.1 hx;injection h2 with h2;injection h2 with h2 h3;subst h2;subst h3;refine⟨a.eval x,c.w,.inl ?_,Po.same hr (bJ ht h1)⟩;unfold execOp;rcases ho with ho|ho<;>rw[ho]<;>rfl
theorem aQT{k x y:Operand}(hr:Rl c wb h)(ht:Tr c nt e a.tmps)(ho:o.op=.pick k x y)(hx:tX e h k x y=some (v,h')):∃u w',OpR F.P a.eval o c.w u w'∧Po c wb h' v u w':=by
 obtain⟨v1,h1,h2⟩:=aA.1 hx;obtain⟨s,rfl,h3⟩:=aL.1 h2;split at h3
 ·rename_i b;obtain⟨v2,h4,h5⟩:=aA.1 h3;injection h5 with h5;injection h5 with h5 h6;subst h5;subst h6;have hk:a.eval k=.bool b:=aF.1 (bJ ht h1);refine⟨if b=true then a.eval x else a.eval y,c.w,.inl ?_,Po.same hr ?_⟩
  ·unfold execOp;rw[ho];simp only[hk,asBool];cases b<;>rfl
  ·rw[bU]at h4;split at h4<;>rename_i hb
   ·rw[if_pos hb];exact bJ ht h4
   ·rw[if_neg hb];exact bJ ht h4
 ·cases h3
theorem aOX{t:Nat}(hr:Rl c wb h)(ho:o.op=.alloc t)(hx:nE F h t=some (v,h')):∃u w',OpR F.P a.eval o c.w u w'∧Po c wb h' v u w':=by
 obtain⟨i,h1,h2⟩:=aA.1 hx;unfold H.nw at h2;rw[aW]at h2;injection h2 with h2;injection h2 with h2 h3;subst h2;subst h3;obtain⟨z,hz,hc,-⟩:=aMi (c:=c) (aO h1) c.w;obtain⟨d,hw,X,R,hd,hlt⟩:=aBX hr ⟨t,i.ze⟩ hc;refine⟨.pointer (some ⟨c.w.heap.size,0,none⟩),_,OpR.vl (s:=Instr.alloc t true (.tuple #[])) (by unfold execOp;rw[ho]) ?_,d,hw,X,R,aF.2 ⟨hlt,by rw[hd]⟩⟩;simp only[Instr.alloc,Sem.run_bind,hz,Result.andThen_ok,newVar,newRow,run_newObj,Sem.run_pure];rfl
theorem aS2{t:Nat}{x:Operand}(hr:Rl c wb h)(ht:Tr c nt e a.tmps)(ho:o.op=.box t x)(hx:uS e h t x=some (v,h')):∃u w',OpR F.P a.eval o c.w u w'∧Po c wb h' v u w':=by
 obtain⟨v1,h1,h2⟩:=aA.1 hx;obtain⟨g,l,rfl,h3⟩:=nI.1 h2;unfold H.nw at h3;rw[aW]at h3;injection h3 with h3;injection h3 with h3 h4;subst h3;subst h4;obtain⟨d,hw,X,R,hd,hlt⟩:=aBX hr ⟨t,l⟩ (cells_ok (bJ ht h1));refine⟨.pointer (some ⟨c.w.heap.size,0,none⟩),_,OpR.vl (s:=Instr.box t (a.eval x)) (by unfold execOp;rw[ho]) ?_,d,hw,X,R,aF.2 ⟨hlt,by rw[hd]⟩⟩;simp only[Instr.box,Sem.run_bind,Result.andThen_ok,newVar,newRow,run_newObj,Sem.run_pure];rfl
theorem aIn{g:Bool}{l:List SV}{vs:List Value}(h:av g l=some v)(hc:CL c l vs):∃u,VR c v u∧(g=true→u=.agg vs.toArray)∧(g=false→vs=[u]):=by
 unfold av at h;rw[bU]at h;split at h
 ·injection h with h;subst h;rename_i hg;exact⟨.agg vs.toArray,⟨vs,rfl,hc⟩,fun _=>rfl,fun h2=>by rw[hg]at h2;cases h2⟩
 ·rename_i hg;obtain⟨x,rfl,h2⟩:=aER.1 h;injection h2 with h2;subst h2
  match vs,hc with
  | [u],hc=>exact⟨u,aF.2 hc.1,fun h3=>absurd h3 hg,fun _=>rfl⟩
  |_::_::_,hc=>exact hc.2.elim
theorem aG5{P:Program}{t:Nat}{i:TI}(hi:Ty P t i){g off:Nat}{vs:List Value}{w:World}{u:Value}(hl:vs.length=i.sz)(hc:∀j v,vs[j]? =some v→w.cell? ⟨g,off+j,none⟩=some v)
  (h1:i.d.ag=true→u=.agg vs.toArray) (h2:i.d.ag=false→vs=[u]):(loadVar t ⟨g,off,none⟩).run P w=.ok u w:=by
 unfold loadVar;rw[Sem.run_bind,aAA hi w];cases hg:i.d.ag with
 |true=>
  rw[h1 hg];simp only[Result.andThen_ok,if_true];rw[Sem.run_bind,gB hi w,Result.andThen_ok,Sem.run_bind,←hl,run_loadCells_list (P:=P) w ⟨g,off,none⟩ vs (fun j v hv=>by rw[add0];exact hc j v hv)];rfl
 |false=>
  have h3:=h2 hg;subst h3;have h4:=hc 0 u rfl;simp only[Result.andThen_ok,Bool.false_eq_true,if_false,run_load];rw[show (⟨g,off,none⟩:Addr)=⟨g,off+0,none⟩ from rfl,h4]
def aMj(F:Cf):Prop:=∀t a v,F.ro t a=some v→∀c:Cx,F.tb c.w→∃u,(loadVar t a).run F.P c.w=.ok u c.w∧VR c v u
theorem o_load{t:Nat}{x:Operand}(hro:aMj F)(hb:F.tb c.w)(hr:Rl c wb h)(ht:Tr c nt e a.tmps)(ho:o.op=.load t x)(hx:oU F e h t x=some (v,h')):∃u w',OpR F.P a.eval o c.w u w'∧Po c wb h' v u w':=by
 obtain⟨i,h1,h2⟩:=aA.1 hx;obtain⟨v1,h3,h4⟩:=aA.1 h2;obtain⟨s,rfl,h5⟩:=aL.1 h4;split at h5
 ·rename_i id off;obtain⟨l,h6,h7⟩:=aA.1 h5;obtain⟨v2,h8,h9⟩:=aA.1 h7;injection h9 with h9;injection h9 with h9 h10;subst h9;subst h10;obtain⟨hid,hp⟩:=aF.1 (bJ ht h3);obtain⟨vs,hc,hl,hcell⟩:=aIl hr hid h6;obtain⟨u,hu,k1,k2⟩:=aIn h8 hc;refine⟨u,c.w,OpR.vl (s:=Instr.loadAt t (a.eval x)) (by unfold execOp;rw[ho]) ?_,Po.same hr hu⟩;simp only[hp,Instr.loadAt,Instr.sureAddr,Sem.run_bind,Sem.run_pure,Result.andThen_ok];exact aG5 (aO h1) hl hcell k1 k2
 ·rename_i x1;unfold roL at h5;split at h5
  ·rename_i a1;obtain⟨v2,h6,h7⟩:=aA.1 h5;injection h7 with h7;injection h7 with h7 h8;subst h7;subst h8;have hp:a.eval x=.pointer (some a1):=(aF.1 (bJ ht h3)).1;obtain⟨u,hu,hv⟩:=hro t a1 v2 h6 c hb;refine⟨u,c.w,OpR.vl (s:=Instr.loadAt t (a.eval x)) (by unfold execOp;rw[ho]) ?_,Po.same hr hv⟩;simp only[hp,Instr.loadAt,Instr.sureAddr,Sem.run_bind,Sem.run_pure,Result.andThen_ok];exact hu
  ·cases h5
 ·cases h5
theorem aOY{t:Nat}{x y:Operand}(hr:Rl c wb h)(ht:Tr c nt e a.tmps)(ho:o.op=.store t x y)(hx:nG F e h t x y=some (v,h')):∃u w',OpR F.P a.eval o c.w u w'∧Po c wb h' v u w':=by
 obtain⟨n,h1,h2⟩:=aA.1 hx;obtain⟨i,hi,rfl⟩:=mK h1;obtain⟨v1,h3,h4⟩:=aA.1 h2;obtain⟨s,rfl,h5⟩:=aL.1 h4;split at h5
 ·rename_i id off;obtain⟨v2,h6,h7⟩:=aA.1 h5;obtain⟨g,l,rfl,h8⟩:=nI.1 h7;obtain⟨h9,h10⟩:=aD.1 h8;obtain⟨h2',h11,h12⟩:=aA.1 h10;injection h12 with h12;injection h12 with h12 h13;subst h12;subst h13;obtain⟨hid,hp⟩:=aF.1 (bJ ht h3);have hcl:=cells_ok (bJ ht h6);rw[aM,aT]at h9;have hsz:(a.eval y).cells.size=i.sz:=(by rw[←h9,←hcl.len,Array.length_toList]);have he:execOp a.eval o=(do Instr.storeAt t (a.eval x) (a.eval y);pure Next.skip):=(by unfold execOp;rw[ho]);have hrun:∀w',(storeCells ⟨c.r id,off,none⟩ (a.eval y).cells.toList).run F.P c.w=.ok () w'→(Instr.storeAt t (a.eval x) (a.eval y)).run F.P c.w=.ok () w':=fun w' hw=>by
   simp only[hp,Instr.storeAt,Instr.sureAddr,Sem.run_bind,Sem.run_pure,Result.andThen_ok,storeVar,gB (aO hi),hsz,ne_eq,not_true_eq_false,if_false];exact hw
  by_cases hl:l=[]
  ·subst hl;have hem:(a.eval y).cells.toList=[]:=List.eq_nil_of_length_eq_zero (by rw[hcl.len];rfl);refine⟨undef,c.w,OpR.sk he (hrun _ (by rw[hem];rfl)),?_⟩;unfold wr at h11;obtain⟨g1,g2⟩:=aD.1 h11;obtain⟨b,g3,g4⟩:=aA.1 g2;obtain⟨nc,g5,g6⟩:=aA.1 g4;obtain⟨g7,g8⟩:=aD.1 g6;injection g8 with g8;subst g8;obtain⟨g9,rfl⟩:=pW.1 g5;have hb:(⟨b.ty,b.c.take off++[]++b.c.drop (off+([]:List SV).length)⟩:B)=b:=(by simp);unfold H.put;rw[hb];refine⟨c,rfl,Xt.refl c,⟨hr.n,hr.k,hr.q,fun j b2 hj=>?_,fun p j x d hi2 hj hx2 hd hij=>?_,fun j b2 hj k1 k2=>?_,hr.lp,hr.li⟩,xD⟩;all_goals
    have key:∀j b2,(T.set b h.h id).get j=some b2→h.h.get j=some b2:=fun j b2 hj=>by
     rcases T.get_set hj with⟨rfl,rfl⟩|⟨_,k⟩
     ·exact g3
     ·exact k
   ·exact hr.blk j b2 (key j b2 hj)
   ·exact hr.inj p j x d (key _ _ hi2) (key _ _ hj) hx2 hd hij
   ·exact hr.new j b2 (key _ _ hj) k1 k2
  ·obtain⟨d,X,R,hst,-,-⟩:=aIm hr F.P hid h11 hcl hl;exact⟨undef,d.w,OpR.sk he (hrun _ hst),d,rfl,X,R,xD⟩
 ·cases h5
theorem aES{P:Program}{t:Nat}{i:TypeInfo}(h:P.info? t=some i)(w:World):(typeInfo t).run P w=.ok i w:=by simp[typeInfo,h]
theorem aET{α:Type}{x:Value}{k:Nat→Option α}{y:α}(h:ifT x k=some y):∃t,x=.iface t (.agg #[])∧k t=some y:=by
 unfold ifT at h;split at h
 ·rename_i t cs;split at h
  ·rename_i hc;exact⟨t,by rw[show cs=#[] from Array.toList_inj.1 hc],h⟩
  ·cases h
 ·cases h
theorem aEU{α:Type}{x:Value}{k:Nat→String→Option α}{y:α}(h:mvT x k=some y):∃m t,x=.func (.method m) #[.iface t (.agg #[])] #[]∧k t m=some y:=by
 unfold mvT at h;split at h
 ·rename_i m a d;split at h
  ·rename_i r ha hd;obtain⟨t,rfl,hk⟩:=aET h;exact⟨m,t,by rw[show a=#[.iface t (.agg #[])] from Array.toList_inj.1 ha,show d=#[] from Array.toList_inj.1 hd],hk⟩
  ·cases h
 ·cases h
theorem aG6{t f:Nat}{m:String}(h:nV F t m=some f):∃i fs r,F.P.info? t=some i∧F.P.underlying t=some (.struct fs)∧(i.methods.find? fun r=>r.name == m)=some r∧r.path=#[]∧r.func=some (f,false):=by
 unfold nV at h;split at h
 ·rename_i i fs hi hu;split at h
  ·rename_i r hr;split at h
   ·rename_i f0 hp hf;injection h with h;subst h;exact⟨i,fs,r,hi,hu,hr,Array.toList_inj.1 hp,hf⟩
   ·cases h
  ·cases h
 ·cases h
theorem aEV{t f:Nat}{m:String}(h:nV F t m=some f)(n:Nat)(w:World):(nilAhead (n+1) t (.agg #[]) m).run F.P w=.ok (some false) w:=by
 obtain⟨i,fs,r,h1,h2,h3,h4,h5⟩:=aG6 h;simp[nilAhead,aES h1,h3,h4,h5,followBlind,run_underlying h2]
theorem aBY{t f:Nat}{m:String}(h:nV F t m=some f)(n:Nat)(w:World):(method (n+1) t (.agg #[]) m).run F.P w=.ok (f,.agg #[]) w:=by
 obtain⟨i,fs,r,h1,h2,h3,h4,h5⟩:=aG6 h;simp[method,aES h1,h3,h4,h5,follow,receiverAt,run_underlying h2,Place.get]
theorem aBr(P:Program):∃n,P.types.size+Made.depth=n+1:=⟨P.types.size+(Made.depth-1),by
 have h:0<Made.depth:=by decide
 omega⟩
theorem aIo{t f:Nat}{m:String}{x:Operand}{ρ:Operand→Value}(ho:o.op=.nilCheck x)(h:nV F t m=some f)(hv:ρ x=.func (.method m) #[.iface t (.agg #[])] #[])(w:World):(execOp ρ o).run F.P w=.ok (.value (ρ x)) w:=by
 obtain⟨n,hn⟩:=aBr F.P;unfold execOp;rw[ho];simp[hv,hn,aEV h n w]
theorem aS3{x:Operand}(hr:Rl c wb h)(ht:Tr c nt e a.tmps)(ho:o.op=.nilCheck x)(hx:aCN F e h x=some (v,h')):∃u w',OpR F.P a.eval o c.w u w'∧Po c wb h' v u w':=by
 obtain⟨v1,h1,h2⟩:=aA.1 hx;obtain⟨s,rfl,h3⟩:=aL.1 h2;have hv:=aF.1 (bJ ht h1);have fin:some (sc s,h)=some (v,h')→(execOp a.eval o).run F.P c.w=.ok (.value (a.eval x)) c.w→∃u w',OpR F.P a.eval o c.w u w'∧Po c wb h' v u w':=fun h4 hR=>by
  injection h4 with h4;injection h4 with h4 h5;subst h4;subst h5;exact⟨a.eval x,c.w,.inl hR,Po.same hr (bJ ht h1)⟩
 split at h3
 ·exact fin h3 (by unfold execOp;rw[ho];simp only[hv.2];rfl)
 ·exact fin h3 (by unfold execOp;rw[ho];simp only[hv.2];rfl)
 ·exact fin h3 (by unfold execOp;rw[ho];simp only[hv.2];rfl)
 ·obtain⟨m,t,rfl,h4⟩:=aEU h3;obtain⟨f,h5,h6⟩:=aA.1 h4;exact fin h6 (aIo ho h5 hv.1 c.w)
 ·cases h3
theorem aUp{t:Nat}{x:Operand}(hr:Rl c wb h)(ht:Tr c nt e a.tmps)(ho:o.op=.makeInterface t x)(hx:oIf F e h t x=some (v,h')):∃u w',OpR F.P a.eval o c.w u w'∧Po c wb h' v u w':=by
 obtain⟨i,h1,h2⟩:=aA.1 hx;split at h2
 ·rename_i fs hd;obtain⟨v1,h3,h4⟩:=aA.1 h2;obtain⟨l,rfl,h5⟩:=rW.1 h4;split at h5
  ·injection h5 with h5;injection h5 with h5 h6;subst h5;subst h6;obtain⟨cs,k1,k2⟩:=bJ ht h3;have hcs:cs=[]:=by
    cases cs with
    |nil=>rfl
    |cons x l=>exact k2.elim
   subst hcs;obtain⟨inf,d,z,g1,g2,g3,-⟩:=(aO h1).ex;rw[g3]at hd;cases d<;>simp[dk]at hd;refine⟨.iface t (.agg #[]),c.w,OpR.vl (s:=Instr.makeInterface t (a.eval x)) (by unfold execOp;rw[ho]) ?_,Po.same hr (aF.2 ⟨rfl,rfl⟩)⟩;simp only[Instr.makeInterface,Sem.run_bind,run_underlying g2,Result.andThen_ok,Sem.run_pure,k1]
  ·cases h5
 ·cases h2
end
end E
namespace E
open Go
section
variable {F:Cf} {call:cZ} {e e':Env} {h h0:H}
theorem rZ{o:Op}(k:∀x∈o.operands,ev e x=ev e' x):op1 F call o e h=op1 F call o e' h:=by
 cases o with
 |move x=>simp only[op1,gW,k x (by simp[Op.operands])]
 |assign x=>simp only[op1,gW,k x (by simp[Op.operands])]
 |pick c a d=>
  have h1:=k c (by simp[Op.operands]);have h2:=k a (by simp[Op.operands]);have h3:=k d (by simp[Op.operands]);have h4:∀x,ev e (cb x a d)=ev e' (cb x a d):=fun x=>by cases x<;>assumption
  simp only[op1,gW,tX,h1,h4]
 |alloc t=>rfl
 |box t x=>simp only[op1,gW,uS,k x (by simp[Op.operands])]
 |build t ps=>
  have h1:∀pl,parts pl e ps.toList=parts pl e' ps.toList:=fun pl=>aBV fun p hp=>k p.2 (by simp only[Op.operands,List.mem_toArray,List.mem_map];exact⟨p,hp,rfl⟩);simp only[op1,gW,pV,h1]
 |buildSlice t n ps=>
  have h1:∀pl,parts pl e ps.toList=parts pl e' ps.toList:=fun pl=>aBV fun p hp=>k p.2 (by simp only[Op.operands,List.mem_toArray,List.mem_map];exact⟨p,hp,rfl⟩);simp only[op1,gW,fD,h1]
 |load t x=>simp only[op1,gW,oU,k x (by simp[Op.operands])]
 |store t x y=>simp only[op1,gW,nG,k x (by simp[Op.operands]),k y (by simp[Op.operands])]
 |nilCheck x=>simp only[op1,gW,aCN,k x (by simp[Op.operands])]
 |binOp op t x y t2=>simp only[op1,gW,yV,k x (by simp[Op.operands]),k y (by simp[Op.operands])]
 |unOp op t x=>simp only[op1,gW,oUn,k x (by simp[Op.operands])]
 |convert s t x=>simp only[op1,gW,tY,k x (by simp[Op.operands])]
 |makeFunc g x y=>
  have h1:evL e y.toList=evL e' y.toList:=aEQ fun z hz=>k z (by simp[Op.operands]<;>simp_all);have h2:∀m r,x.toList=[r]→oMv e h m r=oMv e' h m r:=fun m r hr=>by
    unfold oMv;rw[k r (by simp only[Op.operands,Array.mem_append];left;rw[←Array.mem_toList_iff,hr];simp)]
  show oV e h g x.toList y.toList=oV e' h g x.toList y.toList;unfold oV;rw[h1];split
  ·rfl
  ·rename_i m r hr;rw[h2 m r hr]
  ·rfl
 |makeSlice t x y=>simp only[op1,gW,tZ,k x (by simp[Op.operands]),k y (by simp[Op.operands])]
 |slice t x lo hi mx=>
  have h1:=k x (by simp[Op.operands]);have h2:∀(d:Nat) (f:Nat→Option VH),bound e lo d f=bound e' lo d f:=fun d f=>xB fun y hy=>k y (by simp[Op.operands,hy]);have h3:∀(d:Nat) (f:Nat→Option VH),bound e hi d f=bound e' hi d f:=fun d f=>xB fun y hy=>k y (by simp[Op.operands,hy]);have h4:∀y,mx=some y→∀(d:Nat) (f:Nat→Option VH),bound e (some y) d f=bound e' (some y) d f:=fun y hy d f=>xB fun z hz=>k z (by injection hz with hz;subst hz;simp[Op.operands,hy]);cases mx with
  |none=>simp only[op1,gW,jG,h1,h2,h3]
  |some mx=>
   cases hi with
   |none=>rfl
   |some hi=>
    have h4:=h4 mx rfl;simp only[op1,gW,jG,h1,h2,h3,h4]
 |makeInterface t x=>simp only[op1,gW,oIf,k x (by simp[Op.operands])]
 |range t x=>simp only[op1,gW,yX,k x (by simp[Op.operands])]
 |next x b=>simp only[op1,gW,aBQ,k x (by simp[Op.operands])]
 |fieldAddr s x g=>simp only[op1,gW,oFA,k x (by simp[Op.operands])]
 |field s x g=>simp only[op1,gW,vQ,k x (by simp[Op.operands])]
 |indexAddr t x y=>simp only[op1,gW,oIA,k x (by simp[Op.operands]),k y (by simp[Op.operands])]
 |index t x y=>simp only[op1,gW,oIx,k x (by simp[Op.operands]),k y (by simp[Op.operands])]
 |extract x i=>simp only[op1,gW,yY,k x (by simp[Op.operands])]
 |call c=>
  obtain⟨callee,xs,ats⟩:=c;have h1:evL e xs.toList=evL e' xs.toList:=aEQ fun z hz=>k z (by simp only[Op.operands,Call.operands,Array.mem_append];right;simpa using hz);cases callee with
  |value g=>
   have h2:=k g (by simp[Op.operands,Call.operands]);show (ob (ev e g) fun f=>ob (evL e xs.toList) fun l=>call f l h)=ob (ev e' g) fun f=>ob (evL e' xs.toList) fun l=>call f l h;rw[h1,h2]
  |invoke r m=>
   have h2:=k r (by simp[Op.operands,Call.operands]);show (ob (ev e r) fun v=>one v fun s=>match s with| .v x=>ifT x fun t=>ob (nV F t m) fun fn=>ob (evL e xs.toList) fun l=>call (sc (.f fn [])) (.c true []::l) h|_=>none)=(ob (ev e' r) fun v=>one v fun s=>match s with| .v x=>ifT x fun t=>ob (nV F t m) fun fn=>ob (evL e' xs.toList) fun l=>call (sc (.f fn [])) (.c true []::l) h|_=>none)
   rw[h1,h2]
  |builtin b=>
   show (ob (evL e xs.toList) fun l=>bi F h b ats.toList l)=ob (evL e' xs.toList) fun l=>bi F h b ats.toList l;rw[h1]
 |_=>rfl
end
structure Fr0 (h h':H):Prop where
 bar:h'.bar=h.bar
 n:h.n≤h'.n
 b:∀id b,id<h.bar→h'.h.get id=some b→h.h.get id=some b
 lo:∀id b,id<h.bar→h'.l.get id=some b→h.l.get id=some b
 wb:(∀id b,h.h.get id=some b→id<h.n)→∀id b,h'.h.get id=some b→id<h'.n
 wl:(∀id b,h.l.get id=some b→id<h.n)→∀id b,h'.l.get id=some b→id<h'.n
theorem Fr0.refl(h:H):Fr0 h h:=⟨rfl,Nat.le_refl _,fun _ _ _ k=>k,fun _ _ _ k=>k,fun k=>k,fun k=>k⟩
theorem Fr0.trans{a c d:H}(p:Fr0 a c)(q:Fr0 c d):Fr0 a d:=
 ⟨q.bar.trans p.bar,Nat.le_trans p.n q.n,fun id b i k=>p.b id b i (q.b id b (p.bar▸i) k),fun id b i k=>p.lo id b i (q.lo id b (p.bar▸i) k),fun k=>q.wb (p.wb k),fun k=>q.wl (p.wl k)⟩
theorem Fr0.lift{h h':H}(p:Fr0 h.lift h')(hb:h.bar≤h.n):Fr0 h (h'.back h.bar):=
 ⟨rfl,p.n,fun id b i k=>p.b id b (Nat.lt_of_lt_of_le i hb) k,fun id b i k=>p.lo id b (Nat.lt_of_lt_of_le i hb) k,p.wb,p.wl⟩
section
variable {F:Cf} {h h':H} {v:AV}
theorem Fr0.nw{x:B}(hb:h.bar≤h.n):Fr0 h ⟨h.h.set x h.n,Nat.succ h.n,h.bar,h.l⟩:=
 ⟨rfl,Nat.le_succ _,fun id b i k=>by
  rcases T.get_set k with⟨rfl,-⟩|⟨-,k⟩
  ·exact absurd i (Nat.not_lt.2 hb)
  ·exact k,fun _ _ _ k=>k,fun k id b q=>by
  rcases T.get_set q with⟨rfl,-⟩|⟨-,q⟩
  ·exact Nat.lt_succ_self _
  ·exact Nat.lt_succ_of_lt (k id b q),fun k id b q=>Nat.lt_succ_of_lt (k id b q)⟩
theorem aS4{x:B}{f:Nat→H→Option VH}(hb:h.bar≤h.n)(hx:h.nw x f=some (v,h'))(k:∀g,f h.n g=some (v,h')→h'=g):Fr0 h h':=by
 unfold H.nw at hx;rw[aW]at hx;rw[k _ hx];exact Fr0.nw hb
theorem Fr0.put{id:Nat}{x x0:B}(hb:h.bar≤id)(h0:h.h.get id=some x0):Fr0 h (h.put id x):=
 ⟨rfl,Nat.le_refl _,fun j b i k=>by
  rcases T.get_set k with⟨rfl,-⟩|⟨-,k⟩
  ·exact absurd i (Nat.not_lt.2 hb)
  ·exact k,fun _ _ _ k=>k,fun k j b q=>by
  rcases T.get_set q with⟨rfl,-⟩|⟨-,q⟩
  ·exact k _ _ h0
  ·exact k j b q,fun k=>k⟩
theorem Fr0.putLp{id:Nat}{x x0:Lp}(hb:h.bar≤id)(h0:h.l.get id=some x0):Fr0 h (h.putLp id x):=
 ⟨rfl,Nat.le_refl _,fun _ _ _ k=>k,fun j b i k=>by
  rcases T.get_set k with⟨rfl,-⟩|⟨-,k⟩
  ·exact absurd i (Nat.not_lt.2 hb)
  ·exact k,fun k=>k,fun k j b q=>by
  rcases T.get_set q with⟨rfl,-⟩|⟨-,q⟩
  ·exact k _ _ h0
  ·exact k j b q⟩
theorem aIp{id off:Nat}{l:List SV}(hx:wr h id off l=some h'):Fr0 h h':=by
 unfold wr at hx;obtain⟨h1,hx⟩:=aD.1 hx;obtain⟨b,h0,hx⟩:=aA.1 hx;obtain⟨c,-,hx⟩:=aA.1 hx;obtain⟨-,hx⟩:=aD.1 hx;cases hx;exact Fr0.put (bN.1 h1) h0
theorem aG7{e:Env}{t:Nat}{a:Operand}(hx:oU F e h t a=some (v,h')):h'=h:=by
 unfold oU at hx;obtain⟨i,-,hx⟩:=aA.1 hx;obtain⟨u,-,hx⟩:=aA.1 hx;obtain⟨s,-,hx⟩:=aL.1 hx;split at hx
 ·obtain⟨c,-,hx⟩:=aA.1 hx;obtain⟨u,-,hx⟩:=aA.1 hx;cases hx;rfl
 ·unfold roL at hx;split at hx
  ·obtain⟨u,-,hx⟩:=aA.1 hx;cases hx;rfl
  ·cases hx
 ·cases hx
theorem aAB{x:B}{g:Nat→SV}(hb:h.bar≤h.n)(hx:(h.nw x fun a h=>vh (g a) h)=some (v,h')):Fr0 h h':=aS4 hb hx fun g k=>by cases k;rfl
theorem aMk{t:Nat}(hb:h.bar≤h.n)(hx:nE F h t=some (v,h')):Fr0 h h':=by
 unfold nE at hx;obtain⟨i,-,hx⟩:=aA.1 hx;exact aAB hb hx
theorem aQU{e:Env}{t:Nat}{x:Operand}(hb:h.bar≤h.n)(hx:uS e h t x=some (v,h')):Fr0 h h':=by
 unfold uS at hx;obtain⟨u,-,hx⟩:=aA.1 hx;cases u with
 |t l=>cases hx
 |c g l=>exact aAB hb hx
theorem aDL{e:Env}{t n:Nat}{ps:List (Nat × Operand)}(hb:h.bar≤h.n)(hx:fD F e h t n ps=some (v,h')):Fr0 h h':=by
 unfold fD at hx;obtain⟨i,-,hx⟩:=aA.1 hx;obtain⟨el,-,hx⟩:=aA.1 hx;obtain⟨j,-,hx⟩:=aA.1 hx;obtain⟨-,hx⟩:=aD.1 hx;obtain⟨c,-,hx⟩:=aA.1 hx;exact aAB hb hx
theorem aCP{α:Type}{x:SV}{k:Nat→Option α}{y:α}(hx:natOf x k=some y):∃n,k n=some y:=by
 cases x with
 |i j n=>cases n with
  |ofNat n=>exact⟨n,hx⟩
  |negSucc n=>cases hx
 |_=>cases hx
theorem aOZ{e:Env}{t:Nat}{x y:Operand}(hb:h.bar≤h.n)(hx:tZ F e h t x y=some (v,h')):Fr0 h h':=by
 unfold tZ at hx;obtain⟨i,-,hx⟩:=aA.1 hx;obtain⟨el,-,hx⟩:=aA.1 hx;obtain⟨j,-,hx⟩:=aA.1 hx;obtain⟨u,-,hx⟩:=aA.1 hx;obtain⟨s,-,hx⟩:=aL.1 hx;obtain⟨n,hx⟩:=aCP hx;obtain⟨u,-,hx⟩:=aA.1 hx;obtain⟨s,-,hx⟩:=aL.1 hx;obtain⟨m,hx⟩:=aCP hx;obtain⟨-,hx⟩:=aD.1 hx;obtain⟨-,hx⟩:=aD.1 hx;obtain⟨-,hx⟩:=aD.1 hx;exact aAB hb hx
theorem aMl{e:Env}{t:Nat}{x y:Operand}(hx:nG F e h t x y=some (v,h')):Fr0 h h':=by
 unfold nG at hx;obtain⟨z,-,hx⟩:=aA.1 hx;obtain⟨u,-,hx⟩:=aA.1 hx;obtain⟨s,-,hx⟩:=aL.1 hx;split at hx
 ·obtain⟨u,-,hx⟩:=aA.1 hx;cases u with
  |t l=>cases hx
  |c g l=>
   obtain⟨-,hx⟩:=aD.1 hx;obtain⟨g,h1,hx⟩:=aA.1 hx;cases hx;exact aIp h1
 ·cases hx
theorem aQV{k el:Nat}{x:List SV}{g:Nat→SV}(hb:h.bar≤h.n)(hx:(h.cut k el x fun a h=>vh (g a) h)=some (v,h')):Fr0 h h':=by
 unfold H.cut at hx;obtain⟨b,h0,hx⟩:=aA.1 hx;obtain⟨-,hx⟩:=aD.1 hx;obtain⟨-,hx⟩:=cbn.1 hx;obtain⟨-,hx⟩:=aD.1 hx;obtain⟨h1,hx⟩:=aD.1 hx;rw[aW]at hx;cases hx;have h1:=bN.1 h1;exact⟨rfl,Nat.le_succ _,fun id b i q=>by
  rcases T.get_set q with⟨rfl,-⟩|⟨-,q⟩
  ·exact absurd i (Nat.not_lt.2 hb)
  ·rcases T.get_set q with⟨rfl,-⟩|⟨-,q⟩
   ·exact absurd i (Nat.not_lt.2 h1)
   ·exact q,fun _ _ _ q=>q,fun w id b q=>by
  rcases T.get_set q with⟨rfl,-⟩|⟨-,q⟩
  ·exact Nat.lt_succ_self _
  ·rcases T.get_set q with⟨rfl,-⟩|⟨-,q⟩
   ·exact Nat.lt_succ_of_lt (w _ _ h0)
   ·exact Nat.lt_succ_of_lt (w id b q),fun w id b q=>Nat.lt_succ_of_lt (w id b q)⟩
theorem aG8{α:Type}{x:SV}{k:Nat→Option α}{y:α}(hx:lenOf x k=some y):∃n,k n=some y:=by
 cases x with
 |s l=>exact⟨_,hx⟩
 |ns=>exact⟨_,hx⟩
 |sl a b n c=>exact⟨_,hx⟩
 |_=>cases hx
theorem aG9{el m:Nat}{j:TI}{s:SV}{nw:List SV}(hb:h.bar≤h.n)(hx:aCO h el j s m nw=some (v,h')):Fr0 h h':=by
 unfold aCO at hx;obtain⟨n,hx⟩:=aG8 hx;obtain⟨old,-,hx⟩:=aA.1 hx;obtain⟨-,hx⟩:=aD.1 hx;obtain⟨-,hx⟩:=aD.1 hx;obtain⟨-,hx⟩:=aD.1 hx;have hz:nothing h s=some (v,h')→Fr0 h h':=fun hx=>by
  unfold nothing at hx;split at hx
  ·cases hx;exact Fr0.refl h
  ·cases hx;exact Fr0.refl h
  ·obtain⟨-,hx⟩:=aD.1 hx;cases hx;exact Fr0.refl h
  ·cases hx
 rw[bU]at hx;split at hx
 rotate_left
 ·exact hz hx
 obtain⟨-,hx⟩:=aD.1 hx;obtain⟨-,hx⟩:=aD.1 hx;split at hx
 ·rw[bU]at hx;split at hx
  ·obtain⟨-,hx⟩:=aD.1 hx;obtain⟨b,-,hx⟩:=aA.1 hx;obtain⟨-,hx⟩:=aD.1 hx;obtain⟨g,h1,hx⟩:=aA.1 hx;cases hx;exact aIp h1
  ·exact aAB hb hx
 ·obtain⟨-,hx⟩:=aD.1 hx;exact aQV hb hx
 ·exact aAB hb hx
 ·cases hx
theorem aO0{el:Nat}{j:TI}{s x:SV}(hb:h.bar≤h.n)(hx:yZ h el j s x=some (v,h')):Fr0 h h':=by
 unfold yZ at hx;obtain⟨m,hx⟩:=aG8 hx;obtain⟨nw,-,hx⟩:=aA.1 hx;exact aG9 hb hx
theorem aO1{el:Nat}{j:TI}{s x:SV}(hb:h.bar≤h.n)(hx:aIg h el j s x=some (v,h')):Fr0 h h':=by
 unfold aIg at hx;obtain⟨m,hx⟩:=aCP hx;obtain⟨-,hx⟩:=aD.1 hx;obtain⟨-,hx⟩:=aD.1 hx;obtain⟨-,hx⟩:=aD.1 hx;rw[aW]at hx;exact aG9 hb hx
theorem aMm{e:Env}{t:Nat}{x:Operand}(hb:h.bar≤h.n)(hx:yX F e h t x=some (v,h')):Fr0 h h':=by
 unfold yX at hx;obtain⟨i,-,hx⟩:=aA.1 hx;obtain⟨u,-,hx⟩:=aA.1 hx;obtain⟨s,-,hx⟩:=aL.1 hx;split at hx
 ·rw[aW]at hx;cases hx;exact⟨rfl,Nat.le_succ _,fun _ _ _ k=>k,fun id b i k=>by
   rcases T.get_set k with⟨rfl,-⟩|⟨-,k⟩
   ·exact absurd i (Nat.not_lt.2 hb)
   ·exact k,fun k id b q=>Nat.lt_succ_of_lt (k id b q),fun k id b q=>by
   rcases T.get_set q with⟨rfl,-⟩|⟨-,q⟩
   ·exact Nat.lt_succ_self _
   ·exact Nat.lt_succ_of_lt (k id b q)⟩
 ·cases hx
theorem aO2{e:Env}{x:Operand}{b:Bool}(hx:aBQ e h x b=some (v,h')):Fr0 h h':=by
 unfold aBQ at hx;obtain⟨-,hx⟩:=aD.1 hx;obtain⟨u,-,hx⟩:=aA.1 hx;obtain⟨s,-,hx⟩:=aL.1 hx;split at hx
 ·obtain⟨-,hx⟩:=aD.1 hx;obtain⟨h1,hx⟩:=aD.1 hx;obtain⟨p,h2,hx⟩:=aA.1 hx;obtain⟨q,-,hx⟩:=aA.1 hx;cases hd:(drp q.2 q.1).head? with
  |none=>
   rw[hd]at hx;cases hx;exact Fr0.refl h
  |some y=>
   rw[hd]at hx;obtain⟨-,hx⟩:=aD.1 (show nx1 h _ q.1 q.2 y=some (v,h') from hx);rw[aW]at hx;cases hx;exact Fr0.putLp (bN.1 h1) h2
 ·cases hx
theorem aS5{b:Builtin}{ats:List Nat}{l:List AV}(hb:h.bar≤h.n)(hx:bi F h b ats l=some (v,h')):Fr0 h h':=by
 cases b with
 |len=>
  have:h'=h:=by
    refine Pm.got (y:=bi F h .len ats l) ?_ hx;unfold bi;dsimp only
    repeat' (first|exact rfl|exact aJW|exact Pm.no|exact Pm.ye|exact Pm.vh|refine Pm.ob fun _=>?_|refine Pm.cb ?_ ?_|refine Pm.one fun _=>?_|refine Pm.agg fun _=>?_|refine Pm.natOf fun _=>?_|refine Pm.bound fun _=>?_|refine Pm.chk ?_|refine Pm.opt ?_ fun _=>?_|split)
  rw[this];exact Fr0.refl h
 |cap=>
  have:h'=h:=by
    refine Pm.got (y:=bi F h .cap ats l) ?_ hx;unfold bi;dsimp only
    repeat' (first|exact rfl|exact Pm.no|exact Pm.ye|exact Pm.vh|refine Pm.ob fun _=>?_|refine Pm.cb ?_ ?_|refine Pm.one fun _=>?_|refine Pm.agg fun _=>?_|refine Pm.natOf fun _=>?_|refine Pm.bound fun _=>?_|refine Pm.chk ?_|refine Pm.opt ?_ fun _=>?_|split)
  rw[this];exact Fr0.refl h
 |clear=>
  unfold bi at hx;dsimp only at hx;split at hx
  ·obtain⟨i,-,hx⟩:=aA.1 hx;obtain⟨el,-,hx⟩:=aA.1 hx;obtain⟨j,-,hx⟩:=aA.1 hx;obtain⟨s,-,hx⟩:=aL.1 hx;split at hx
   ·cases hx;exact Fr0.refl h
   ·rw[bU]at hx;split at hx
    ·cases hx;exact Fr0.refl h
    ·obtain⟨-,hx⟩:=aD.1 hx;obtain⟨h2,k1,k2⟩:=aA.1 hx;cases k2;exact aIp k1
   ·cases hx
  ·cases hx
 |min=>obtain⟨u,-,hx⟩:=aA.1 hx;cases hx;exact Fr0.refl h
 |max=>obtain⟨u,-,hx⟩:=aA.1 hx;cases hx;exact Fr0.refl h
 |append=>
  unfold bi at hx;dsimp only at hx;split at hx
  ·obtain⟨i,-,hx⟩:=aA.1 hx;obtain⟨el,-,hx⟩:=aA.1 hx;obtain⟨j,-,hx⟩:=aA.1 hx;obtain⟨s,-,hx⟩:=aL.1 hx;obtain⟨x,-,hx⟩:=aL.1 hx;rw[bU]at hx;split at hx
   ·exact aO0 hb hx
   ·obtain⟨i',-,hx⟩:=aA.1 hx;split at hx
    ·exact aO1 hb hx
    ·cases hx
  ·cases hx
 |_=>cases hx
def fC(call:cZ):Prop:=∀(f:AV) (l:List AV) (h:H) (v:AV) (h':H),h.bar≤h.n→call f l h=some (v,h')→Fr0 h h'
theorem aBZ{call:cZ}{o:Op}{e:Env}(hc:fC call)(hb:h.bar≤h.n)(hx:op1 F call o e h=some (v,h')):Fr0 h h':=by
 have pure:∀{x y:Option VH},Pm h x y→x=some (v,h')→Fr0 h h':=fun k hx=>by rw[Pm.got k hx];exact Fr0.refl h
 cases o with
 |move x=>obtain⟨u,-,hx⟩:=aA.1 hx;cases hx;exact Fr0.refl h
 |assign x=>obtain⟨u,-,hx⟩:=aA.1 hx;cases hx;exact Fr0.refl h
 |pick c a d=>exact pure (aG1 (h0:=h)) hx
 |alloc t=>exact aMk hb hx
 |box t x=>exact aQU hb hx
 |build t ps=>exact pure (aEN (h0:=h)) hx
 |buildSlice t n ps=>exact aDL hb hx
 |load t x=>rw[aG7 hx];exact Fr0.refl h
 |store t x y=>exact aMl hx
 |nilCheck x=>exact pure (aJT (h0:=h)) hx
 |binOp op t x y t2=>exact pure (aJU (h0:=h)) hx
 |unOp op t x=>exact pure (aNJ (h0:=h)) hx
 |convert s t x=>exact pure (aG2 (h0:=h)) hx
 |makeFunc g x y=>exact pure (aG3 (h0:=h)) hx
 |makeInterface t x=>exact pure (aNI (h0:=h)) hx
 |range t x=>exact aMm hb hx
 |next x b=>exact aO2 hx
 |makeSlice t x y=>exact aOZ hb hx
 |slice t x lo hi mx=>exact pure (aEO (h0:=h)) hx
 |fieldAddr s x g=>exact pure (aNK (h0:=h)) hx
 |field s x g=>exact pure (aEP (h0:=h)) hx
 |indexAddr t x y=>exact pure (aNL (h0:=h)) hx
 |index t x y=>exact pure (aNM (h0:=h)) hx
 |extract x i=>exact pure (aJY (h0:=h)) hx
 |call c=>
  obtain⟨callee,xs,ats⟩:=c;cases callee with
  |value g=>
   obtain⟨f,-,hx⟩:=aA.1 hx;obtain⟨l,-,hx⟩:=aA.1 hx;exact hc _ _ _ _ _ hb hx
  |invoke r m=>
   obtain⟨u,-,hx⟩:=aA.1 hx;obtain⟨s,-,hx⟩:=aL.1 hx;split at hx
   ·obtain⟨t,-,hx⟩:=aET hx;obtain⟨fn,-,hx⟩:=aA.1 hx;obtain⟨l,-,hx⟩:=aA.1 hx;exact hc _ _ _ _ _ hb hx
   ·cases hx
  |builtin b=>
   obtain⟨l,-,hx⟩:=aA.1 hx;exact aS5 hb hx
 |_=>cases hx
end
def xE(ex:dO):Prop:=∀(q:Bool) (nt fn:Nat) (c:Code) (e:Env) (h:H) (r:R),h.bar≤h.n→ex q nt fn c e h=some r→Fr0 h r.h
theorem Fr0.le{h h':H}(p:Fr0 h h')(hb:h.bar≤h.n):h'.bar≤h'.n:=by rw[p.bar];exact Nat.le_trans hb p.n
section
variable {F:Cf} {ex:dO} {h h':H} {v:AV} {nt:Nat} {call:cZ} {ops:List Oper} {e:Env} {r:R}
theorem aAC{α:Type}{d:Option Nat}{k:Env→Option α}{y:α}(hx:put nt e d v k=some y):∃e,k e=some y:=by
 cases d with
 |none=>exact⟨_,hx⟩
 |some d=>exact⟨_,(aD.1 hx).2⟩
theorem aHa{rest:Env→H→Option R}{o:Oper}(hc:fC call)(hr:∀e h r,h.bar≤h.n→rest e h=some r→Fr0 h r.h)(hb:h.bar≤h.n)(hx:nW F nt call ops rest o e h=some r):Fr0 h r.h:=by
 obtain⟨w,-,hx⟩:=aA.1 hx;cases w with
 |true=>
  obtain⟨⟨u,g⟩,h1,hx⟩:=aA.1 (show (ob (op1 F call o.op e h) fun r=>put nt e o.dst r.1 fun e=>rest e r.2)=some r from hx);obtain⟨e,hx⟩:=aAC hx;have:=aBZ hc hb h1;exact this.trans (hr _ _ _ (this.le hb) hx)
 |false=>
  obtain⟨e,hx⟩:=aAC (show put nt e o.dst un (fun e=>rest e h)=some r from hx);exact hr _ _ _ hb hx
theorem aJ1{l:List Oper}(hc:fC call):∀{e:Env} {h:H} {r:R},h.bar≤h.n→nH F nt call ops l e h=some r→Fr0 h r.h:=by
 induction l with
 |nil=>intro e h r hb hx;cases hx;exact Fr0.refl h
 |cons o l ih=>intro e h r hb hx;exact aHa hc (fun e h r=>ih) hb hx
theorem aJ2{k:Option R}{l:List Nat}(hx:again F ops e h k l=some r):k=some r:=by
 induction l with
 |nil=>exact hx
 |cons j l ih=>
  obtain⟨o,-,hx⟩:=aA.1 hx;split at hx
  ·exact ih hx
  ·obtain⟨d,-,hx⟩:=aA.1 hx;obtain⟨v,-,hx⟩:=aA.1 hx;obtain⟨u,-,hx⟩:=aA.1 hx;obtain⟨-,hx⟩:=aD.1 hx;exact ih (aD.1 hx).2
  ·obtain⟨d,-,hx⟩:=aA.1 hx;obtain⟨v,-,hx⟩:=aA.1 hx;obtain⟨u,-,hx⟩:=aA.1 hx;obtain⟨-,hx⟩:=aD.1 hx;exact ih (aD.1 hx).2
  ·cases hx
theorem aO3{l:List (Nat × List Nat)}(hc:fC call):∀{e:Env} {h:H} {r:R},h.bar≤h.n→aBp F nt call ops l e h=some r→Fr0 h r.h:=by
 induction l with
 |nil=>intro e h r hb hx;cases hx;exact Fr0.refl h
 |cons p l ih=>
  intro e h r hb hx;obtain⟨o,-,hx⟩:=aA.1 hx;exact aHa hc (fun e h r hb hx=>ih hb (aJ2 hx)) hb hx
theorem aO4{l:List Nat}{b:Nat}{k:Env→H→Option R}(hc:fC call)(hk:∀e h r,h.bar≤h.n→k e h=some r→Fr0 h r.h):
  ∀{e:Env} {h:H} {r:R},b≤h.n→zA F nt call ops b k l e h=some r→Fr0 (h.back b) r.h:=by
 induction l with
 |nil=>intro e h r hb hx;exact hk _ _ _ hb hx
 |cons i l ih=>
  intro e h r hb hx;obtain⟨o,-,hx⟩:=aA.1 hx;obtain⟨w,-,hx⟩:=aA.1 hx;cases w with
  |true=>
   obtain⟨⟨u,g⟩,h1,hx⟩:=aA.1 (show (ob (op1 F call o.op e h.lift) fun r=>put nt e o.dst r.1 fun e=>zA F nt call ops b k l e r.2)=some r from hx);obtain⟨e,hx⟩:=aAC hx;have h2:=aBZ hc (Nat.le_refl _) h1;have h3:=ih (Nat.le_trans hb h2.n) hx;exact (Fr0.lift (h:=h.back b) h2 hb).trans h3
  |false=>
   obtain⟨e,hx⟩:=aAC (show put nt e o.dst un (fun e=>zA F nt call ops b k l e h.lift)=some r from hx);exact ih (h:=h.lift) hb hx
theorem aO5{ops:Array Oper}{p:List Nat × List (Nat × List Nat)}(hc:fC call)(hb:h.bar≤h.n)(hx:uT F nt call ops p e h=some r):Fr0 h r.h:=by
 obtain⟨-,hx⟩:=aD.1 hx;rw[aW]at hx;exact aO4 hc (fun e h r=>aO3 hc) hb hx
theorem aEW{G:Func}{c:Code}{fn:Nat}{args:List AV}(hex:xE ex)(hb:h.bar≤h.n)(hx:mJ F ex G c fn args h=some (v,h')):Fr0 h h':=by
 obtain⟨e,-,hx⟩:=aA.1 hx;obtain⟨r,h1,hx⟩:=aA.1 hx;have h2:=hex _ _ _ _ _ _ _ hb h1;obtain⟨x,e,g⟩:=r;cases x with
 |x id=>cases hx
 |n=>obtain⟨l,-,hx⟩:=aA.1 (show (ob (res F e g G.results.toList) fun l=>some (tup l,g))=some (v,h') from hx);cases hx;exact h2
 |r=>obtain⟨l,-,hx⟩:=aA.1 (show (ob (res F e g G.results.toList) fun l=>some (tup l,g))=some (v,h') from hx);cases hx;exact h2
theorem zD{fn:Nat}{args:List AV}(hex:xE ex)(hb:h.bar≤h.n)(hx:fU F ex fn args h=some (v,h')):Fr0 h h':=by
 obtain⟨G,-,hx⟩:=aA.1 hx;obtain⟨c,-,hx⟩:=aA.1 hx;cases hp:F.pr fn with
 |none=>
  rw[hp]at hx;have hx:Option.rec (motive:=fun _=>Option VH) (mJ F ex G c fn args h) (fun g=>Option.rec (motive:=fun _=>Option VH) (mJ F ex G c fn args h) (fun v=>some (v,h)) (g h args)) (F.ph fn)=some (v,h'):=hx;cases hq:F.ph fn with
  |none=>rw[hq]at hx;exact aEW hex hb hx
  |some g=>
   rw[hq]at hx;have hx:Option.rec (motive:=fun _=>Option VH) (mJ F ex G c fn args h) (fun v=>some (v,h)) (g h args)=some (v,h'):=hx;cases hv:g h args with
   |none=>rw[hv]at hx;exact aEW hex hb hx
   |some v1=>
    rw[hv]at hx;have hx:some (v1,h)=some (v,h'):=hx;injection hx with h6;injection h6 with h6 h7;subst h7;exact Fr0.refl h
 |some g=>
  rw[hp]at hx;obtain⟨u,-,hx⟩:=aA.1 hx;cases hx;exact Fr0.refl h
theorem uW{l:Nat}{b:Bool}{pd:Option Code}(hx:nX l b pd h=some (v,h')):Fr0 h h':=by
 obtain⟨p,h0,hx⟩:=aA.1 hx;obtain⟨-,hx⟩:=cbn.1 hx;obtain⟨h1,hx⟩:=aD.1 hx;cases hx;exact Fr0.putLp (bN.1 h1) h0
theorem aGB{l:Nat}(hx:roundEnd l r=some (v,h')):Fr0 r.h h':=by
 obtain⟨x,e,g⟩:=r;cases x with
 |n=>exact uW hx
 |r=>exact uW hx
 |x id=>exact uW hx
theorem aMn{l:Nat}{args:List AV}(hex:xE ex)(hb:h.bar≤h.n)(hx:aIj ex l args h=some (v,h')):Fr0 h h':=by
 obtain⟨p,-,hx⟩:=aA.1 hx;obtain⟨-,hx⟩:=cbn.1 hx;obtain⟨e,-,hx⟩:=aA.1 hx;obtain⟨⟨x,e,g⟩,h1,hx⟩:=aA.1 hx;have h2:=hex _ _ _ _ _ _ _ hb h1;cases x with
 |r=>cases hx
 |x id=>cases hx
 |n=>
  obtain⟨p',h0,hx⟩:=aA.1 hx;obtain⟨-,hx⟩:=cbn.1 hx;obtain⟨h3,hx⟩:=aD.1 hx;obtain⟨-,hx⟩:=aD.1 hx;obtain⟨-,hx⟩:=aD.1 hx;obtain⟨r,h4,hx⟩:=aA.1 hx;have h5:Fr0 g (g.putLp l {p' with st:=false}):=Fr0.putLp (bN.1 h3) h0;have h6:=hex _ _ _ _ _ _ _ (h5.le (h2.le hb)) h4;exact h2.trans (h5.trans (h6.trans (aGB hx)))
theorem uX(hex:xE ex):fC (bQ F ex):=by
 intro f l h v h' hb hx;obtain⟨s,-,hx⟩:=aL.1 hx;split at hx
 ·exact zD hex hb hx
 ·obtain⟨m,t,rfl,hx⟩:=aEU (show aNF F ex _ l h=some (v,h') from hx);obtain⟨fn,-,hx⟩:=aA.1 hx;exact zD hex hb hx
 ·exact aMn hex hb hx
 ·cases hx
theorem aJ3{q:Bool}{fn:Nat}{f:AV}{ps:List Tmp}{cs bd:Code}(hex:xE ex)(hb:h.bar≤h.n)(hx:aBS F ex q nt fn f ps cs bd e h=some r):Fr0 h r.h:=by
 obtain⟨-,hx⟩:=cbn.1 hx;rw[aW]at hx;obtain⟨s,-,hx⟩:=aL.1 hx;split at hx
 ·obtain⟨⟨u,g⟩,h1,hx⟩:=aA.1 hx;have h0:Fr0 h ⟨h.h,Nat.succ h.n,h.bar,h.l.set ⟨fn,nt,e,ps,cs,bd,true,none,false,none⟩ h.n⟩:=⟨rfl,Nat.le_succ _,fun _ _ _ k=>k,fun j b i k=>by
   rcases T.get_set k with⟨rfl,-⟩|⟨-,k⟩
   ·exact absurd i (Nat.not_lt.2 hb)
   ·exact k,fun k id b q=>Nat.lt_succ_of_lt (k id b q),fun k id b q=>by
   rcases T.get_set q with⟨rfl,-⟩|⟨-,q⟩
   ·exact Nat.lt_succ_self _
   ·exact Nat.lt_succ_of_lt (k id b q)⟩
  have h2:=h0.trans (zD hex (h0.le hb) h1);obtain⟨p,h9,hx⟩:=aA.1 hx;obtain⟨-,hx⟩:=cbn.1 hx;obtain⟨h3,hx⟩:=aD.1 hx;obtain⟨-,hx⟩:=aD.1 hx;have h4:Fr0 g (g.putLp h.n {p with dd:=true}):=Fr0.putLp (bN.1 h3) h9;have h5:=h2.trans h4;split at hx
  ·cases hx;exact h5
  ·cases hx;exact h5
  ·cases hx;exact h5
  ·cases hx
 ·cases hx
theorem aMo(hex:xE ex):xE (aBU F ex):=by
 intro q nt fn c e h r hb hx;have seq:∀{c:Code} {r1:R},Fr0 h r1.h→nY ex q nt fn c r1=some r→Fr0 h r.h:=by
  intro c r1 k hx;obtain⟨x,e,g⟩:=r1;cases x with
  |n=>exact k.trans (hex _ _ _ _ _ _ _ (k.le hb) hx)
  |r=>cases hx;exact k
  |x id=>cases hx;exact k
 cases c with
 |skip=>cases hx;exact Fr0.refl h
 |label l=>cases hx;exact Fr0.refl h
 |region id ops dr=>
  have hx:cb dr (ob (F.pl fn id) fun p=>uT F nt (bQ F ex) ops p e h) (nH F nt (bQ F ex) ops.toList ops.toList e h)=some r:=hx;cases dr with
  |false=>exact aJ1 (uX hex) hb hx
  |true=>
   obtain⟨p,-,hx⟩:=aA.1 (show (ob (F.pl fn id) fun p=>uT F nt (bQ F ex) ops p e h)=some r from hx);exact aO5 (uX hex) hb hx
 |seq a b=>
  obtain⟨r1,h1,hx⟩:=aA.1 (show (ob (ex q nt fn a e h) (nY ex q nt fn b))=some r from hx);exact seq (hex _ _ _ _ _ _ _ hb h1) hx
 |cond c a b=>
  obtain⟨u,-,hx⟩:=aA.1 (show (ob (ev e c) fun v=>one v (aBT ex q nt fn a b e h))=some r from hx);obtain⟨s,-,hx⟩:=aL.1 hx;cases s with
  |b x=>exact hex _ _ _ _ _ _ _ hb hx
  |_=>cases hx
 |block id a=>
  obtain⟨⟨x,e1,g⟩,h1,hx⟩:=aA.1 (show (ob (ex q nt fn a e h) (zC id))=some r from hx);have h2:=hex _ _ _ _ _ _ _ hb h1;cases x with
  |n=>cases hx;exact h2
  |r=>cases hx;exact h2
  |x j=>
   have hx:cb (Nat.beq id j) (some (R.mk .n e1 g)) (some ⟨.x j,e1,g⟩)=some r:=hx;rw[bU]at hx;split at hx<;>cases hx<;>exact h2
 |loop a=>
  obtain⟨r1,h1,hx⟩:=aA.1 (show (ob (ex q nt fn a e h) (nY ex q nt fn (.loop a)))=some r from hx);exact seq (hex _ _ _ _ _ _ _ hb h1) hx
 |scope a=>exact hex _ _ _ _ _ _ _ hb hx
 |rangeFunc f ps cs bd=>
  obtain⟨u,-,hx⟩:=aA.1 (show (ob (ev e f) fun f=>aBS F ex q nt fn f ps.toList cs bd e h)=some r from hx);exact aJ3 hex hb hx
 |exit id=>cases hx;exact Fr0.refl h
 |ret=>cases hx;exact Fr0.refl h
 |_=>cases hx
theorem aO6(F:Cf)(m:Nat):xE (exec F m):=by
 induction m with
 |zero=>intro q nt fn c e h r hb hx;cases hx
 |succ m ih=>exact aMo ih
end
end E
end Go.Proofs.YtohcfjmkfflkpaaGreatDoor
