/- The laws of a ring, of values and of derivatives hold for poly's functions. No condition. -/
import Derived.Laws.CopyOwn
import Derived.Test.YthjhkhlafhjjmaaGreatDoorQa02
import Derived.Test.YthjhkhlafhjjmaaGreatDoorQa03
namespace Go.Proofs.YthjhkhlafhjjmaaGreatDoor.K
open Go.RowKit
open Ma Me
def Bx(w:World)(g:Nat)(t:TypeId)(row:List Value):Prop:=w.heap[g]? =some (.cells row.toArray t (0,0))
section
variable {w w' a:World} {g k i:Nat} {t:TypeId} {row l:List Value} {x:Value}
theorem Bx.lt(h:Bx w g t row):g<w.heap.size:=by
 rcases Nat.lt_or_ge g w.heap.size with hlt|hge
 ·exact hlt
 ·unfold Bx at h;rw[Array.getElem?_eq_none hge]at h;cases h
theorem Bx.cell(h:Bx w g t row)(i:Nat)(hx:row[i]? =some x):w.cell? ⟨g,i,none⟩=some x:=by
 unfold Bx at h;simp[World.cell?,h,hx]
theorem Bx.frozen(h:Bx w g t row)(i:Nat):w.frozen? ⟨g,i,none⟩=false:=by
 unfold Bx at h;simp[World.frozen?,h]
theorem Bx.q(h:Bx w g t row)(hq:Q w w'):Bx w' g t row:=(hq.heap h.lt).trans h
theorem Bx.new(w:World)(t:TypeId)(row:List Value):Bx (w.alloc (.cells row.toArray t)) w.heap.size t row:=heap_alloc_new w _
def iW(w:World)(g i:Nat):List Value→World
 | []=>w
 |x::xs=>iW (w.setCell ⟨g,i,none⟩ x) g (i+1) xs
theorem nM(h:k≠g):(iW w g i l).heap[k]? =w.heap[k]? :=by
 induction l generalizing w i with
 |nil=>rfl
 |cons x xs ih=>exact ih.trans (Below.heap_setCell _ _ _ _ h)
theorem rG:(iW w g i l).heap.size=w.heap.size:=by
 induction l generalizing w i with
 |nil=>rfl
 |cons x xs ih=>exact ih.trans (by simp)
theorem tV(h:Q a w)(hg:a.heap.size≤g):Q a (iW w g i l):=by
 induction l generalizing w i with
 |nil=>exact h
 |cons x xs ih=>exact ih (h.setCell (p:=⟨g,i,none⟩) hg _)
theorem Bx.set_(h:Bx w g t row)(i:Nat)(x:Value):Bx (w.setCell ⟨g,i,none⟩ x) g t (row.set i x):=by
 unfold Bx at h⊢;simp[World.setCell,Array.getElem?_modify,h]
theorem Bx.putAt{pre rest:List Value}(h:Bx w g t (pre++rest))(hi:pre.length=i)(hl:rest.length=l.length):Bx (iW w g i l) g t (pre++l):=by
 induction l generalizing w i pre rest with
 |nil=>
  have:rest=[]:=List.eq_nil_of_length_eq_zero hl;subst this;exact h
 |cons x xs ih=>
  cases rest with
  |nil=>simp at hl
  |cons y ys=>
   have h1:=h.set_ i x;have e:(pre++y::ys).set i x=(pre++[x])++ys:=by
      rw[List.set_append_right _ _ (by omega)];simp[←hi]
   rw[e]at h1;have h2:=ih h1 (i:=i+1) (by simp[hi]) (by simpa using hl);simpa [iW] using h2
theorem Bx.put(h:Bx w g t row)(hl:row.length=l.length):Bx (iW w g 0 l) g t l:=Bx.putAt (pre:=[]) h rfl hl
end
inductive Ck where
 |b|i|s|t
def Ck.is:Ck→Value→Prop
 | .b,v=>∃x,v=.bool x
 | .i,v=>∃x,v=.int .i64 x
 | .s,v=>∃A n c,v=.slice A n c
 | .t,v=>∃x,v=.string x
def Sh:List Ck→List Value→Prop
 | [],[]=>True
 |k::ks,v::vs=>k.is v∧Sh ks vs
 |_,_=>False
theorem Sh.length:∀{ks:List Ck} {vs:List Value},Sh ks vs→vs.length=ks.length
 | [],[],_=>rfl
 |_::_,_::_,h=>by simp[Sh.length h.2]
theorem Sh.no:∀{ks:List Ck} {vs:List Value},Sh ks vs→∀x∈vs,∀z,x≠.int .u64 z
 | [],[],_,_,h,_=>by cases h
 |k::ks,v::vs,hs,x,hx,z=>by
  rcases List.mem_cons.1 hx with rfl|hx
  ·intro e;have:=hs.1;cases k<;>simp[Ck.is,e]at this
  ·exact Sh.no hs.2 x hx z
structure Ap (w w':World) (g:Nat):Prop where
 heap:∀k,k≠g→w'.heap[k]? =w.heap[k]?
 size:w'.heap.size=w.heap.size
 row:∃t row,Bx w g t row∧t≠2∧(∀x∈row,∀z,x≠.int .u64 z)∧(t=73→row.length≤3)
section
variable {w w':World} {A:Option Addr} {ds:List Nat} {g N:Nat} {v:Value}
theorem Ap.rd(h:Ap w w' g)(hr:Rd .i64 w w.heap.size A ds):Rd .i64 w' w'.heap.size A ds:=fun hn=>by
 obtain⟨ad,e,hb,hc,cs,fr,ht⟩:=hr hn;have hne:ad.block≠g:=by
  intro e;obtain⟨t,row,hx,h1,-⟩:=h.row;unfold Bx at hx;rw[←e,ht]at hx;injection hx with hx;injection hx with _ h2 _;exact h1 h2.symm
 have he:=h.heap _ hne;exact⟨ad,e,by rw[h.size];exact hb,fun j u hu=>(qZ (by rw[iB];exact he)).trans (hc j u hu),cs,fr,he.trans ht⟩
theorem Ap.nr(h:Ap w w' g)(hr:Nr w v N):Nr w' v N:=by
 obtain⟨A,c,ds,h1,h2,h3,h4,h5⟩:=hr;exact⟨A,c,ds,h1,h2,h.rd h3,h4,h5⟩
theorem Ap.rw_{xs:List Nat}(h:Ap w w' g)(hr:Rw w A xs):Rw w' A xs:=fun hn=>by
 obtain⟨b,o,e,hb,hc⟩:=hr hn;have hne:b≠g:=by
  intro e;obtain⟨t,row,hx,-,h1,-⟩:=h.row;have h2:=hc 0 _ (List.getElem?_eq_getElem hn);unfold Bx at hx;rw[←e]at hx;have h3:row[o+0]? =some (.int .u64 ((xs[0]:Nat):Int)):=(by simpa [World.cell?,hx] using h2);exact h1 _ (List.mem_of_getElem? h3) _ rfl
 have he:=h.heap _ hne;exact⟨b,o,e,by rw[h.size];exact hb,fun j u hu=>(qZ (p:=⟨b,o+j,none⟩) he).trans (hc j u hu)⟩
theorem Ap.nm(h:Ap w w' g)(hr:Nm w v N):Nm w' v N:=by
 obtain⟨A,c,ds,h1,h2,h3,h4,h5⟩:=hr;exact⟨A,c,ds,h1,h2,h.rw_ h3,h4,h5⟩
end
structure Pr where
 p:Value→World→Prop
 q:∀{v w w'},p v w→Q w w'→p v w'
 ok:Bool
 a:∀{v w w' g},ok=true→p v w→Ap w w' g→p v w'
inductive Vs where
 |any
 |no
 |eq (v:Value)
 |gen (p:Pr)
def Vs.holds:Vs→Value→World→Prop
 | .any,_,_=>True
 | .no,v,_=>v=undef
 | .eq u,v,_=>v=u
 | .gen p,v,w=>p.p v w
theorem Vs.mono{s:Vs}{v:Value}{w w':World}(hq:Q w w')(h:s.holds v w):s.holds v w':=by
 cases s with
 |any=>trivial
 |no=>exact h
 |eq u=>exact h
 |gen p=>exact p.q h hq
def pT2(a b:Pr):Pr:=⟨fun v w=>∃x y,v=.tuple #[x,y]∧a.p x w∧b.p y w,fun ⟨x,y,e,h1,h2⟩ hq=>⟨x,y,e,a.q h1 hq,b.q h2 hq⟩,a.ok && b.ok,fun ho ⟨x,y,e,h1,h2⟩ hq=>by
 simp only[Bool.and_eq_true]at ho;exact⟨x,y,e,a.a ho.1 h1 hq,b.a ho.2 h2 hq⟩⟩
def pT3(a b c:Pr):Pr:=⟨fun v w=>∃x y z,v=.tuple #[x,y,z]∧a.p x w∧b.p y w∧c.p z w,fun ⟨x,y,z,e,h1,h2,h3⟩ hq=>⟨x,y,z,e,a.q h1 hq,b.q h2 hq,c.q h3 hq⟩,a.ok && b.ok && c.ok,fun ho ⟨x,y,z,e,h1,h2,h3⟩ hq=>by
 simp only[Bool.and_eq_true]at ho;exact⟨x,y,z,e,a.a ho.1.1 h1 hq,b.a ho.1.2 h2 hq,c.a ho.2 h3 hq⟩⟩
def Vs.ok:Vs→Bool
 | .gen p=>p.ok
 |_=>true
theorem aPI{l:List Vs}(h:l.all Vs.ok=true)(j:Nat):(l.getD j .any).ok=true:=by
 rw[List.getD_eq_getElem?_getD];cases e:l[j]? with
 |none=>rfl
 |some x=>exact List.all_eq_true.1 h x (List.mem_of_getElem? e)
def SL(l:List Vs)(j:Nat)(v:Value)(w:World):Prop:=(l.getD j .any).holds v w
def isB:Vs→Bool→Bool
 | .eq (.bool c),b=>c == b
 |_,_=>false
def aPJ:Vs→Bool
 | .no=>true
 |_=>false
theorem aJx{s:Vs}(h:aPJ s=true):s=.no:=by
 cases s<;>first|rfl|cases h
theorem aLA{s:Vs}{b:Bool}(h:isB s b=true):s=.eq (.bool b):=by
 unfold isB at h;split at h
 ·simp at h;subst h;rfl
 ·cases h
section
variable {P:Program} {ops:Array Oper} {Q':Exit→Act→World→Prop} {l:List Vs} {F:(Nat→Value)→Act} {a:Act} {w1:World}
structure Ctx (ops:Array Oper) (a:Act) (F:(Nat→Value)→Act):Prop where
 hsh:(Ja.shape ops && Region.noSelect ops && Ja.inBounds ops a.tmps.size)=true
 hF:∀vals,F vals=Ja.fillL vals ops.toList 0 a
theorem Ctx.go(c:Ctx ops a F):∀vals,F vals=Ja.fillGo ops (fun _=>true) vals ops.size a:=fun vals=>(c.hF vals).trans (Ja.fillL_full vals a)
def cO(ops:Array Oper)(l:List Vs)(o:Oper)(yes:Bool):Bool:=
 match o.guard with
 |none=>yes
 |some (g,b)=>(isB (l.getD g .any) (b == yes) || (aPJ (l.getD g .any) && !yes)) && decide (g<ops.size) && ((ops[g]?).bind (·.dst)).isSome
theorem aJy{a:Act}{vals:Nat→Value}{o:Oper}{g:Nat}{want:Bool}(hsh:(Ja.shape ops && Region.noSelect ops && Ja.inBounds ops a.tmps.size)=true)(hg:o.guard=some (g,want))(hlt:g<ops.size)(hd:((ops[g]?).bind (·.dst)).isSome=true)(hv:vals g=undef):
  Region.wanted o (yielded ops (Ja.fillGo ops (fun _=>true) vals ops.size a).tmps)=false:=by
 simp only[Bool.and_eq_true]at hsh;obtain⟨⟨h1,h2⟩,h3⟩:=hsh;obtain⟨og,hog⟩:∃o,ops[g]? =some o:=⟨_,Array.getElem?_eq_getElem hlt⟩
 obtain⟨d,hd2⟩:=Option.isSome_iff_exists.1 hd;have hin:d<a.tmps.size:=by
  have:=Array.all_eq_true_iff_forall_mem.1 h3 og (Array.mem_of_getElem? hog);simp only[hog,Option.bind_some]at hd2;simpa [hd2] using this
 have:=Ja.fill_get (ops:=ops) (vals:=vals) (a:=a) (i:=g) (d:=d) hd2 hin (Ja.shape_spec h1 hog).1 ops.size hlt;unfold Region.wanted yielded;simp only[hg,hd2,Option.bind_some,this,hv];rfl
theorem uW{i:Nat}{o:Oper}{yes:Bool}(c:Ctx ops a F)(ho:ops[i]? =some o)(hg:cO ops l o yes=true){vals:Nat→Value}{w:World}
  (hd:∀e∈o.after,Region.binds .any e=true→SL l e.on (vals e.on) w):Region.wanted o (yielded ops (F vals).tmps)=yes:=by
 rw[c.go];unfold cO at hg;split at hg
 ·rename_i h;unfold Region.wanted;rw[h,hg]
 ·rename_i g b h;simp only[Bool.and_eq_true,decide_eq_true_eq]at hg;obtain⟨⟨h1,h2⟩,h3⟩:=hg;have hsh:=c.hsh;simp only[Bool.and_eq_true]at hsh;obtain⟨d,hd3⟩:=Option.isSome_iff_exists.1 h3;obtain⟨e,he,hb,heq⟩:=(Ja.shape_spec hsh.1.1 ho).2.1 d (by simp[Oper.looksAt,h,hd3]) g hd3;have hv:=hd e he hb;rw[heq]at hv;unfold SL at hv;rcases (Bool.or_eq_true _ _).mp h1 with h1|h1
  ·rw[aLA h1]at hv;have:=Ja.wanted_of (a:=a) c.hsh h h2 h3 hv;rw[this];cases b<;>cases yes<;>rfl
  ·obtain⟨h4,h5⟩:=(Bool.and_eq_true _ _).mp h1;rw[aJx h4]at hv;rw[aJy (a:=a) c.hsh h h2 h3 hv];cases yes
   ·rfl
   ·cases h5
end
def NbV(w:World)(g:Nat)(t:TypeId)(ck:List Ck)(v:Value):Prop:=∃row,v=.agg row.toArray∧Sh ck row∧Bx w g t row
def tX(w:World)(g:Nat)(ck:List Ck)(v:Value)(w':World):Prop:=∃row,v=.agg row.toArray∧Sh ck row∧w'=iW w g 0 row
section
variable {w w' a:World} {g g2:Nat} {t:TypeId} {ck:List Ck} {v u old:Value}
theorem NbV.q(h:NbV w g t ck v)(hq:Q w w'):NbV w' g t ck v:=by
 obtain⟨row,e,hs,h⟩:=h;exact⟨row,e,hs,h.q hq⟩
theorem NbV.lt(h:NbV w g t ck v):g<w.heap.size:=by
 obtain⟨row,e,hs,h⟩:=h;exact h.lt
theorem NbV.heap(h:NbV w g t ck v)(he:w'.heap[g]? =w.heap[g]?):NbV w' g t ck v:=by
 obtain⟨row,e,hs,h⟩:=h;exact⟨row,e,hs,he.trans h⟩
theorem tX.heap(h:tX w g ck v w')(hne:g2≠g):w'.heap[g2]? =w.heap[g2]? :=by
 obtain⟨row,e,hs,rfl⟩:=h;exact nM hne
theorem tX.q(h:tX w g ck v w')(hq:Q a w)(hg:a.heap.size≤g):Q a w':=by
 obtain⟨row,e,hs,rfl⟩:=h;exact tV hq hg
theorem tX.new(h:tX w g ck v w')(ho:NbV w g t ck old):NbV w' g t ck v:=by
 obtain⟨row,e,hs,rfl⟩:=h;obtain⟨row2,e2,hs2,hb⟩:=ho;exact⟨row,e,hs,hb.put (by rw[hs.length,hs2.length])⟩
theorem tX.ap(h:tX w g ck v w')(ho:NbV w g t ck old)(ht:t≠2∧(t=73→ck.length≤3)):Ap w w' g:=by
 obtain⟨row,e,hs,rfl⟩:=h;obtain⟨row2,e2,hs2,hb⟩:=ho;exact⟨fun k hk=>nM hk,rG,t,row2,hb,ht.1,hs2.no,fun e=>by rw[hs2.length];exact ht.2 e⟩
theorem tX.sp{x:Value}{s:Vs}(h:tX w g ck v w')(ho:NbV w g t ck old)(ht:t≠2∧(t=73→ck.length≤3))(hk:s.ok=true)(hx:s.holds x w):s.holds x w':=by
 cases s with
 |any=>trivial
 |no=>exact hx
 |eq u=>exact hx
 |gen p=>exact p.a hk hx (h.ap ho ht)
end
structure Ce where
 al:Option Nat
 g:Nat
 t:TypeId
 ck:List Ck
 row:Value
 st:Nat
 src:Nat
def Ce.ptr(c:Ce)(vals:Nat→Value):Value:=match c.al with|none=>.pointer (some ⟨c.g,0,none⟩)|some a=>vals a
def Ce.live(c:Ce)(L:Nat→Bool):Bool:=match c.al with|none=>true|some a=>L a
def Ce.ok(w0:World)(c:Ce)(L:Nat→Bool)(vals:Nat→Value)(w:World):Prop:=
 c.live L=true→∃g,c.ptr vals=.pointer (some ⟨g,0,none⟩)∧w0.heap.size≤g∧NbV w g c.t c.ck (if L c.st=true then vals c.src else c.row)
def waits(ops:Array Oper)(i j:Nat):Bool:=match ops[i]? with|none=>false|some o=>o.after.any fun e=>Region.binds .any e && e.on == j
structure JC (w0:World) (ops:Array Oper) (l:List Vs) (cs:List Ce) (ks:List (Value × Vs)) (L:Nat→Bool) (vals:Nat→Value) (W:World):Prop where
 q:Q w0 W
 s:∀j,L j=true→SL l j (vals j) W
 cl:∀i j,L i=true→waits ops i j=true→L j=true
 b:∀j,ops.size≤j→L j=false
 c:∀c∈cs,c.ok w0 L vals W
 d:∀(m k:Nat) (y z:Ce),m≠k→cs[m]? =some y→cs[k]? =some z→y.live L=true→z.live L=true→y.ptr vals≠z.ptr vals
 k:∀p∈ks,p.2.holds p.1 W
def cZ(ops:Array Oper)(cs:List Ce):Bool:=cs.all fun c=>(decide (ops.size≤c.st) || waits ops c.st c.src && (match c.al with|none=>true|some a=>waits ops c.st a)) && (match c.al with|none=>true|some a=>a != c.st && decide (a<ops.size))
section
variable {P:Program} {ops:Array Oper} {Q':Exit→Act→World→Prop} {l:List Vs} {cs:List Ce} {ks:List (Value × Vs)} {F:(Nat→Value)→Act} {a:Act} {w0:World} {L:Nat→Bool} {vals:Nat→Value} {W:World}
open Ja (upd)
theorem upd_ne{α:Type}{f:Nat→α}{i j:Nat}{v:α}(h:j≠i):upd f i v j=f j:=if_neg h
theorem wX{α:Type}{f:Nat→α}{i:Nat}{v:α}:upd f i v i=v:=if_pos rfl
theorem JC.closed(h:JC w0 ops l cs ks L vals W){i:Nat}{o:Oper}(ho:ops[i]? =some o)(hdep:∀e∈o.after,Region.binds .any e=true→L e.on=true):
  ∀x j,upd L i true x=true→waits ops x j=true→upd L i true j=true:=by
 intro x j hx hw;by_cases hji:j=i
 ·subst hji;exact wX
 rw[upd_ne hji];by_cases hxi:x=i
 ·subst hxi;unfold waits at hw;simp only[ho]at hw;obtain⟨e,he,hb⟩:=Array.any_eq_true'.1 hw;simp only[Bool.and_eq_true,beq_iff_eq]at hb;rw[←hb.2];exact hdep e he hb.1
 ·rw[upd_ne hxi]at hx;exact h.cl x j hx hw
theorem Ce.ok_other{c:Ce}{i:Nat}{v:Value}{W':World}(hc:c.ok w0 L vals W)(hi:L i=false)(ha:c.al≠some i)(hs:c.st≠i)(hsrc:L c.st=true→L c.src=true)
  (hk:∀g u,NbV W g c.t c.ck u→c.ptr vals=.pointer (some ⟨g,0,none⟩)→NbV W' g c.t c.ck u):c.ok w0 (upd L i true) (upd vals i v) W':=by
 intro hl;have hp:c.live (upd L i true)=c.live L∧(c.live L=true→c.ptr (upd vals i v)=c.ptr vals):=by
  unfold Ce.live Ce.ptr;cases h:c.al with
  |none=>exact⟨rfl,fun _=>rfl⟩
  |some x=>
   have hx:x≠i:=fun e=>ha (by rw[h,e]);exact⟨upd_ne hx,fun _=>upd_ne hx⟩
 rw[hp.1]at hl;obtain⟨g,h1,h2,h3⟩:=hc hl;refine⟨g,(hp.2 hl).trans h1,h2,?_⟩;rw[upd_ne hs];split at h3
 ·rename_i hst;rw[if_pos hst];have:c.src≠i:=fun e=>by
   have:=hsrc hst;rw[e,hi]at this;cases this
  rw[upd_ne this];exact hk g _ h3 h1
 ·rename_i hst;rw[if_neg hst];exact hk g _ h3 h1
theorem Ce.same{c:Ce}{i:Nat}{v:Value}(ha:c.al≠some i):c.live (upd L i true)=c.live L∧c.ptr (upd vals i v)=c.ptr vals:=by
 unfold Ce.live Ce.ptr;cases h:c.al with
 |none=>exact⟨rfl,rfl⟩
 |some x=>
  have hx:x≠i:=fun e=>ha (by rw[h,e]);exact⟨upd_ne hx,upd_ne hx⟩
theorem JC.srcs(hck:cZ ops cs=true)(h:JC w0 ops l cs ks L vals W){c:Ce}(hc:c∈cs)(hst:L c.st=true):L c.src=true:=by
 have:=List.all_eq_true.1 hck c hc;simp only[Bool.and_eq_true,Bool.or_eq_true,decide_eq_true_eq]at this;rcases this.1 with h1|h1
 ·rw[h.b _ h1]at hst;cases hst
 ·exact h.cl _ _ hst h1.1
theorem JC.other{i:Nat}{o:Oper}(c:Ctx ops a F)(hck:cZ ops cs=true)(ho:ops[i]? =some o)(hg:cO ops l o true=true)(hf:(cs.all fun c=>c.al != some i && c.st != i)=true)
  (h:∀(L:Nat→Bool) (vals:Nat→Value) (w:World),L i=false→JC w0 ops l cs ks L vals w→(∀j,(o.after.any fun e=>Region.binds .any e && e.on == j)=true→SL l j (vals j) w)→
   ∀K:Act→World→Prop,Hid (∀v w' a',a'=(F vals).put o.dst v→SL l i v w'→Q w w'→K a' w')→o.wp P (F vals) w K (fun _ _ _=>False)):
  Ja.Step P ops (JC w0 ops l cs ks) F i o:=by
 intro L vals w hL hdep hJ;rw[if_pos (uW (w:=w) c ho hg (fun e he hb=>hJ.s _ (hdep e he hb)))];intro K hK;have hi:i<ops.size:=(Array.getElem?_eq_some_iff.1 ho).1;refine h L vals w hL hJ (fun j hj=>?_) K (hZ fun v w' a' e hv hq=>hK v w' a' e ⟨hJ.q.trans hq,?_,hJ.closed ho hdep,?_,?_,?_,fun p hp=>Vs.mono hq (hJ.k p hp)⟩)
 ·obtain⟨e,he,hb⟩:=Array.any_eq_true'.1 hj;simp only[Bool.and_eq_true,beq_iff_eq]at hb;obtain⟨h1,rfl⟩:=hb;exact hJ.s _ (hdep e he h1)
 ·intro j hj;by_cases hji:j=i
  ·subst hji;rw[wX];exact hv
  ·rw[upd_ne hji]at hj⊢;exact Vs.mono hq (hJ.s j hj)
 ·intro j hj;rw[upd_ne (by omega)];exact hJ.b j hj
 ·intro x hx;have hfx:=List.all_eq_true.1 hf x hx;simp only[Bool.and_eq_true,bne_iff_ne]at hfx;exact Ce.ok_other (hJ.c x hx) hL hfx.1 hfx.2 (hJ.srcs hck hx) (fun g u hu _=>hu.q hq)
 ·intro m k y z hmk hy hz h1 h2;have hfx:=List.all_eq_true.1 hf y (List.mem_of_getElem? hy);have hfy:=List.all_eq_true.1 hf z (List.mem_of_getElem? hz);simp only[Bool.and_eq_true,bne_iff_ne]at hfx hfy;obtain⟨e1,e2⟩:=Ce.same (L:=L) (vals:=vals) (v:=v) hfx.1;obtain⟨e3,e4⟩:=Ce.same (L:=L) (vals:=vals) (v:=v) hfy.1;rw[e1]at h1;rw[e3]at h2;rw[e2,e4];exact hJ.d m k y z hmk hy hz h1 h2
theorem JC.alloc{i:Nat}{o:Oper}{n:Nat}{x:Ce}{t:TypeId}{cells:Array Value}(c:Ctx ops a F)(hck:cZ ops cs=true)(ho:ops[i]? =some o)(hg:cO ops l o true=true)(hx:cs[n]? =some x)(hal:x.al=some i)
  (hf:((cs.eraseIdx n).all fun c=>c.al != some i && c.st != i)=true) (hl:l.getD i .any=.any)
  (hrow:∀w:World,NbV (w.alloc (.cells cells t)) w.heap.size x.t x.ck x.row)
  (h:∀(vals:Nat→Value) (w:World) (K:Act→World→Prop),Hid (∀a',a'=(F vals).put o.dst (.pointer (some ⟨w.heap.size,0,none⟩))→K a' (w.alloc (.cells cells t)))→o.wp P (F vals) w K (fun _ _ _=>False)):
  Ja.Step P ops (JC w0 ops l cs ks) F i o:=by
 intro L vals w hL hdep hJ;rw[if_pos (uW (w:=w) c ho hg (fun e he hb=>hJ.s _ (hdep e he hb)))];intro K hK;have hi:i<ops.size:=(Array.getElem?_eq_some_iff.1 ho).1;have hq:Q w (w.alloc (.cells cells t)):=(Q.refl w).alloc _;have hxm:x∈cs:=List.mem_of_getElem? hx;have hxo:∀y∈cs,y.al≠some i∧y.st≠i∨y=x:=by
  intro y hy;obtain⟨m,hm⟩:=List.mem_iff_getElem?.1 hy;by_cases hmn:m=n
  ·subst hmn;rw[hx]at hm;injection hm with e;exact Or.inr e.symm
  ·refine Or.inl ?_;have:y∈cs.eraseIdx n:=List.mem_eraseIdx_iff_getElem?.2 ⟨m,hmn,hm⟩;have:=List.all_eq_true.1 hf y this;simpa [Bool.and_eq_true,bne_iff_ne] using this
 have hck2:=List.all_eq_true.1 hck x hxm;simp only[hal,Bool.and_eq_true,bne_iff_ne,decide_eq_true_eq]at hck2;have hst:L x.st=false:=by
  cases hs:L x.st with
  |false=>rfl
  |true=>
   rcases Bool.or_eq_true _ _▸hck2.1 with h1|h1
   ·rw[hJ.b _ (of_decide_eq_true h1)]at hs;cases hs
   ·simp only[Bool.and_eq_true]at h1;have:=hJ.cl _ _ hs h1.2;rw[hL]at this;cases this
 have hlive:∀y∈cs,y.live L=true→y.al≠some i:=fun y _ hy e=>by
  unfold Ce.live at hy;rw[e]at hy;simp only[hL]at hy;cases hy
 refine h vals w K (hZ fun a' e=>hK _ _ a' e ⟨hJ.q.trans hq,?_,hJ.closed ho hdep,?_,?_,?_,fun p hp=>Vs.mono hq (hJ.k p hp)⟩)
 ·intro j hj;by_cases hji:j=i
  ·subst hji;unfold SL;rw[hl];trivial
  ·rw[upd_ne hji]at hj⊢;exact Vs.mono hq (hJ.s j hj)
 ·intro j hj;rw[upd_ne (by omega)];exact hJ.b j hj
 ·intro y hy;rcases hxo y hy with h1|rfl
  ·exact Ce.ok_other (hJ.c y hy) hL h1.1 h1.2 (hJ.srcs hck hy) (fun g u hu _=>hu.q hq)
  ·intro _;refine⟨w.heap.size,?_,hJ.q.size,?_⟩
   ·unfold Ce.ptr;rw[hal];exact wX
   ·rw[upd_ne (fun e=>hck2.2.1 e.symm),hst];exact hrow w
 ·have key:∀y∈cs,y.al≠some i→y.live (upd L i true)=true→y.ptr (upd vals i (.pointer (some ⟨w.heap.size,0,none⟩)))≠.pointer (some ⟨w.heap.size,0,none⟩):=fun y hy hya hyl e=>by
   obtain⟨e1,e2⟩:=Ce.same (L:=L) (vals:=vals) (v:=.pointer (some ⟨w.heap.size,0,none⟩)) hya;rw[e1]at hyl;rw[e2]at e;obtain⟨g,h1,-,h3⟩:=hJ.c y hy hyl;rw[h1]at e;injection e with e;injection e with e;injection e with e;have:=h3.lt;omega
  have hn:∀(m:Nat) (y:Ce),cs[m]? =some y→m≠n→y.al≠some i:=fun m y hm hmn hy=>by
   have h2:y∈cs.eraseIdx n:=List.mem_eraseIdx_iff_getElem?.2 ⟨m,hmn,hm⟩;have:=List.all_eq_true.1 hf y h2;simp[hy]at this
  have hxp:x.ptr (upd vals i (.pointer (some ⟨w.heap.size,0,none⟩)))=.pointer (some ⟨w.heap.size,0,none⟩):=by
   unfold Ce.ptr;rw[hal];exact wX
  intro m k y z hmk hy hz h1 h2;by_cases hmn:m=n
  ·subst hmn;rw[hx]at hy;injection hy with hy;subst hy;rw[hxp];exact fun e=>key z (List.mem_of_getElem? hz) (hn k z hz (Ne.symm hmk)) h2 e.symm
  ·by_cases hkn:k=n
   ·subst hkn;rw[hx]at hz;injection hz with hz;subst hz;rw[hxp];exact key y (List.mem_of_getElem? hy) (hn m y hy hmn) h1
   ·obtain⟨e1,e2⟩:=Ce.same (L:=L) (vals:=vals) (v:=.pointer (some ⟨w.heap.size,0,none⟩)) (hn m y hy hmn);obtain⟨e3,e4⟩:=Ce.same (L:=L) (vals:=vals) (v:=.pointer (some ⟨w.heap.size,0,none⟩)) (hn k z hz hkn);rw[e1]at h1;rw[e3]at h2;rw[e2,e4];exact hJ.d m k y z hmk hy hz h1 h2
theorem JC.store{i:Nat}{o:Oper}{n:Nat}{x:Ce}(c:Ctx ops a F)(hck:cZ ops cs=true)(ho:ops[i]? =some o)(hg:cO ops l o true=true)(hx:cs[n]? =some x)(hty:x.t≠2∧(x.t=73→x.ck.length≤3))(hst:x.st=i)
  (hf:((cs.eraseIdx n).all fun c=>c.al != some i && c.st != i)=true) (hl:l.getD i .any=.any) (hok:(l.all Vs.ok && ks.all fun p=>p.2.ok)=true)
  (h:∀(L:Nat→Bool) (vals:Nat→Value) (w:World) (g:Nat) (old:Value),JC w0 ops l cs ks L vals w→x.ptr vals=.pointer (some ⟨g,0,none⟩)→NbV w g x.t x.ck old→SL l x.src (vals x.src) w→
   ∀K:Act→World→Prop,Hid (∀v w' a',a'=(F vals).put o.dst v→tX w g x.ck (vals x.src) w'→K a' w')→o.wp P (F vals) w K (fun _ _ _=>False)):
  Ja.Step P ops (JC w0 ops l cs ks) F i o:=by
 intro L vals w hL hdep hJ;obtain⟨hok1,hok2⟩:=(Bool.and_eq_true _ _).mp hok;rw[if_pos (uW (w:=w) c ho hg (fun e he hb=>hJ.s _ (hdep e he hb)))];intro K hK;have hi:i<ops.size:=(Array.getElem?_eq_some_iff.1 ho).1;have hxm:x∈cs:=List.mem_of_getElem? hx;have hck2:=List.all_eq_true.1 hck x hxm;simp only[Bool.and_eq_true,Bool.or_eq_true,decide_eq_true_eq]at hck2;have hw:waits ops i x.src=true∧(∀b,x.al=some b→waits ops i b=true):=by
  rcases hck2.1 with h1|h1
  ·rw[hst]at h1;omega
  ·rw[hst]at h1;exact⟨h1.1,fun b hb=>by have:=h1.2;rw[hb]at this;exact this⟩
 have dep:∀j,waits ops i j=true→L j=true:=fun j hj=>by
  unfold waits at hj;simp only[ho]at hj;obtain⟨e,he,hb⟩:=Array.any_eq_true'.1 hj;simp only[Bool.and_eq_true,beq_iff_eq]at hb;rw[←hb.2];exact hdep e he hb.1
 have hsrc:L x.src=true:=dep _ hw.1;have hlive:x.live L=true:=by
  unfold Ce.live;cases hal:x.al with
  |none=>rfl
  |some b=>exact dep b (hw.2 b hal)
 have hal:x.al≠some i:=fun e=>by
  have:=dep i (hw.2 i e);rw[hL]at this;cases this
 obtain⟨g,h1,h2,h3⟩:=hJ.c x hxm hlive;have hn:∀(m:Nat) (y:Ce),cs[m]? =some y→m≠n→y.al≠some i∧y.st≠i:=fun m y hm hmn=>by
  have h2:y∈cs.eraseIdx n:=List.mem_eraseIdx_iff_getElem?.2 ⟨m,hmn,hm⟩;have:=List.all_eq_true.1 hf y h2;simpa [Bool.and_eq_true,bne_iff_ne] using this
 have hsi:x.src≠i:=fun e=>by rw[e,hL]at hsrc;cases hsrc
 refine h L vals w g _ hJ h1 h3 (hJ.s _ hsrc) K (hZ fun v w' a' e hp=>hK v w' a' e ⟨hp.q hJ.q h2,?_,hJ.closed ho hdep,?_,?_,?_,fun p hp'=>hp.sp h3 hty (List.all_eq_true.1 hok2 p hp') (hJ.k p hp')⟩)
 ·intro j hj;by_cases hji:j=i
  ·subst hji;unfold SL;rw[hl];trivial
  ·rw[upd_ne hji]at hj⊢;exact hp.sp h3 hty (aPI hok1 j) (hJ.s j hj)
 ·intro j hj;rw[upd_ne (by omega)];exact hJ.b j hj
 ·intro y hy;obtain⟨m,hm⟩:=List.mem_iff_getElem?.1 hy;by_cases hmn:m=n
  ·subst hmn;rw[hx]at hm;injection hm with hm;subst hm;intro _;refine⟨g,by rw[(Ce.same (L:=L) hal).2];exact h1,h2,?_⟩;rw[hst,wX,if_pos rfl,upd_ne hsi];exact hp.new h3
  ·obtain⟨ha,hs⟩:=hn m y hm hmn;intro hyl;refine Ce.ok_other (hJ.c y hy) hL ha hs (hJ.srcs hck hy) (fun g' u hu hpt=>hu.heap (hp.heap fun e=>?_)) hyl;subst e;rw[(Ce.same (L:=L) (vals:=vals) (v:=v) ha).1]at hyl;exact hJ.d m n y x hmn hm hx hyl hlive (hpt.trans h1.symm)
 ·intro m k y z hmk hy hz h1' h2';have na:∀(m:Nat) (y:Ce),cs[m]? =some y→y.al≠some i:=fun m y hm=>by
   by_cases hmn:m=n
   ·subst hmn;rw[hx]at hm;injection hm with hm;subst hm;exact hal
   ·exact (hn m y hm hmn).1
  obtain⟨e1,e2⟩:=Ce.same (L:=L) (vals:=vals) (v:=v) (na m y hy);obtain⟨e3,e4⟩:=Ce.same (L:=L) (vals:=vals) (v:=v) (na k z hz);rw[e1]at h1';rw[e3]at h2';rw[e2,e4];exact hJ.d m k y z hmk hy hz h1' h2'
theorem JC.no{i:Nat}{o:Oper}(c:Ctx ops a F)(hck:cZ ops cs=true)(ho:ops[i]? =some o)(hg:cO ops l o false=true)(hf:(cs.all fun c=>c.al != some i && c.st != i)=true)(hl:l.getD i .any=.no):
  Ja.Step P ops (JC w0 ops l cs ks) F i o:=by
 intro L vals w hL hdep hJ;rw[if_neg (by rw[uW (w:=w) c ho hg (fun e he hb=>hJ.s _ (hdep e he hb))];decide)];have hi:i<ops.size:=(Array.getElem?_eq_some_iff.1 ho).1;refine⟨hJ.q,?_,hJ.closed ho hdep,?_,?_,?_,hJ.k⟩
 ·intro j hj;by_cases hji:j=i
  ·subst hji;unfold SL;rw[hl];exact wX
  ·rw[upd_ne hji]at hj⊢;exact hJ.s j hj
 ·intro j hj;rw[upd_ne (by omega)];exact hJ.b j hj
 ·intro x hx;have hfx:=List.all_eq_true.1 hf x hx;simp only[Bool.and_eq_true,bne_iff_ne]at hfx;exact Ce.ok_other (hJ.c x hx) hL hfx.1 hfx.2 (hJ.srcs hck hx) (fun g u hu _=>hu)
 ·intro m k y z hmk hy hz h1 h2;have hfx:=List.all_eq_true.1 hf y (List.mem_of_getElem? hy);have hfy:=List.all_eq_true.1 hf z (List.mem_of_getElem? hz);simp only[Bool.and_eq_true,bne_iff_ne]at hfx hfy;obtain⟨e1,e2⟩:=Ce.same (L:=L) (vals:=vals) (v:=undef) hfx.1;obtain⟨e3,e4⟩:=Ce.same (L:=L) (vals:=vals) (v:=undef) hfy.1;rw[e1]at h1;rw[e3]at h2;rw[e2,e4];exact hJ.d m k y z hmk hy hz h1 h2
theorem JC.o{i:Nat}{o:Oper}{rest:List Oper}(c:Ctx ops a F)
  (h:∀(L:Nat→Bool) (vals:Nat→Value) (w:World),L i=false→JC w0 ops l cs ks L vals w→(∀j,(o.after.any fun e=>Region.binds .any e && e.on == j)=true→SL l j (vals j) w)→
   ∀K:Act→World→Prop,Hid (∀v w' a',a'=(F vals).put o.dst v→SL l i v w'→Q w w'→K a' w')→o.wp P (F vals) w K (fun _ _ _=>False))
  (hr:Ja.Steps P ops (JC w0 ops l cs ks) F (i+1) rest) (hck:cZ ops cs=true:=by kernel_rfl) (ho:ops[i]? =some o:=by rfl) (hg:cO ops l o true=true:=by kernel_rfl) (hf:(cs.all fun c=>c.al != some i && c.st != i)=true:=by kernel_rfl):
  Ja.Steps P ops (JC w0 ops l cs ks) F i (o::rest):=Ja.Steps.cons (JC.other c hck ho hg hf h) hr
theorem JC.n{i:Nat}{o:Oper}{rest:List Oper}(c:Ctx ops a F)(hr:Ja.Steps P ops (JC w0 ops l cs ks) F (i+1) rest)(hck:cZ ops cs=true:=by kernel_rfl)(ho:ops[i]? =some o:=by rfl)(hg:cO ops l o false=true:=by kernel_rfl)
  (hf:(cs.all fun c=>c.al != some i && c.st != i)=true:=by kernel_rfl) (hl:l.getD i .any=.no:=by rfl):Ja.Steps P ops (JC w0 ops l cs ks) F i (o::rest):=Ja.Steps.cons (JC.no c hck ho hg hf hl) hr
structure At0 (w0:World) (cs:List Ce) (ks:List (Value × Vs)) (w:World):Prop where
 q:Q w0 w
 c:∀c∈cs,c.al=none→w0.heap.size≤c.g∧NbV w c.g c.t c.ck c.row
 d:∀(m k:Nat) (y z:Ce),m≠k→cs[m]? =some y→cs[k]? =some z→y.al=none→z.al=none→y.g≠z.g
 k:∀p∈ks,p.2.holds p.1 w
theorem JC.init{w:World}(h:At0 w0 cs ks w)(vals:Nat→Value):JC w0 ops l cs ks (fun _=>false) vals w:=by
 have live:∀c:Ce,c.live (fun _=>false)=true→c.al=none:=fun c hc=>by
  unfold Ce.live at hc;split at hc
  ·assumption
  ·cases hc
 refine⟨h.q,fun j hj=>(by cases hj),fun i j hi=>(by cases hi),fun _ _=>rfl,fun c hc hl=>?_,fun m k y z hmk hy hz h1 h2=>?_,h.k⟩
 ·obtain⟨h1,h2⟩:=h.c c hc (live c hl);exact⟨c.g,by unfold Ce.ptr;rw[live c hl],h1,h2⟩
 ·have e1:=live y h1;have e2:=live z h2;unfold Ce.ptr;rw[e1,e2];intro e;injection e with e;injection e with e;injection e with e;exact h.d m k y z hmk hy hz e1 e2 e
theorem At0.drew{w:World}(h:At0 w0 cs ks w):At0 w0 cs ks w.drew:=
 ⟨h.q.drew,fun c hc hn=>⟨(h.c c hc hn).1,(h.c c hc hn).2.q (Q.refl _).drew⟩,h.d,fun p hp=>Vs.mono (Q.refl _).drew (h.k p hp)⟩
end
def aB3(w0 w:World):List Ce→Prop
 | []=>True
 |c::cs=>(c.al=none→w0.heap.size≤c.g∧NbV w c.g c.t c.ck c.row)∧aB3 w0 w cs
def zK:List Ce→Prop
 | []=>True
 |c::cs=>(∀d∈cs,c.al=none→d.al=none→c.g≠d.g)∧zK cs
def aB4(w:World):List (Value × Vs)→Prop
 | []=>True
 |p::ps=>p.2.holds p.1 w∧aB4 w ps
theorem aB3.mem{w0 w:World}:∀{cs:List Ce},aB3 w0 w cs→∀c∈cs,c.al=none→w0.heap.size≤c.g∧NbV w c.g c.t c.ck c.row
 | [],_,_,h=>by cases h
 |c::cs,h,d,hd=>by
  rcases List.mem_cons.1 hd with rfl|hd
  ·exact h.1
  ·exact aB3.mem h.2 d hd
theorem zK.at:∀{cs:List Ce},zK cs→∀(m k:Nat) (y z:Ce),m≠k→cs[m]? =some y→cs[k]? =some z→y.al=none→z.al=none→y.g≠z.g
 | [],_,_,_,_,_,_,h,_,_,_=>by simp at h
 |c::cs,h,0,0,_,_,hmk,_,_,_,_=>absurd rfl hmk
 |c::cs,h,0,k+1,y,z,_,hy,hz,h1,h2=>by
  simp at hy;subst hy;exact h.1 z (List.mem_of_getElem? (by simpa using hz)) h1 h2
 |c::cs,h,m+1,0,y,z,_,hy,hz,h1,h2=>by
  simp at hz;subst hz;exact fun e=>h.1 y (List.mem_of_getElem? (by simpa using hy)) h2 h1 e.symm
 |c::cs,h,m+1,k+1,y,z,hmk,hy,hz,h1,h2=>zK.at h.2 m k y z (fun e=>hmk (by rw[e])) (by simpa using hy) (by simpa using hz) h1 h2
theorem aB4.mem{w:World}:∀{ks:List (Value × Vs)},aB4 w ks→∀p∈ks,p.2.holds p.1 w
 | [],_,_,h=>by cases h
 |c::cs,h,d,hd=>by
  rcases List.mem_cons.1 hd with rfl|hd
  ·exact h.1
  ·exact aB4.mem h.2 d hd
theorem At0.of{w0 w:World}{cs:List Ce}{ks:List (Value × Vs)}(hq:Q w0 w)(h1:aB3 w0 w cs)(h2:zK cs)(h3:aB4 w ks):At0 w0 cs ks w:=⟨hq,h1.mem,h2.at,h3.mem⟩
section
variable {ops:Array Oper} {l:List Vs} {cs:List Ce} {ks:List (Value × Vs)} {w0:World} {L:Nat→Bool} {vals:Nat→Value} {W:World}
theorem JC.at(h:JC w0 ops l cs ks L vals W)(n:Nat){x:Ce}(hx:cs[n]? =some x)(hal:x.al=none)(hst:L x.st=false):NbV W x.g x.t x.ck x.row:=by
 obtain⟨g,h1,h2,h3⟩:=h.c x (List.mem_of_getElem? hx) (by unfold Ce.live;rw[hal]);unfold Ce.ptr at h1;rw[hal]at h1;injection h1 with h1;injection h1 with h1;injection h1 with h1;rw[hst,if_neg (by decide)]at h3;rw[h1];exact h3
theorem JC.still(h:JC w0 ops l cs ks L vals W)(n:Nat){x:Ce}(hx:cs[n]? =some x)(hal:x.al=none)(hst:ops.size≤x.st):NbV W x.g x.t x.ck x.row:=h.at n hx hal (h.b _ hst)
theorem JC.before(h:JC w0 ops l cs ks L vals W)(n i:Nat){x:Ce}(hx:cs[n]? =some x)(hal:x.al=none)(hi:L i=false)(h1:waits ops x.st x.src=true)(h2:waits ops x.src i=true):NbV W x.g x.t x.ck x.row:=by
 refine h.at n hx hal ?_;cases hs:L x.st with
 |false=>rfl
 |true=>
  have:=h.cl _ _ (h.cl _ _ hs h1) h2;rw[hi]at this;cases this
theorem JC.ne(h:JC w0 ops l cs ks L vals W)(m k:Nat){y z:Ce}(hmk:m≠k)(hy:cs[m]? =some y)(hz:cs[k]? =some z)(h1:y.live L=true)(h2:z.live L=true){g g':Nat}
  (e1:y.ptr vals=.pointer (some ⟨g,0,none⟩)) (e2:z.ptr vals=.pointer (some ⟨g',0,none⟩)):g≠g':=by
 intro e;subst e;exact h.d m k y z hmk hy hz h1 h2 (e1.trans e2.symm)
theorem JC.kept(h:JC w0 ops l cs ks L vals W)(n:Nat){p:Value × Vs}(hp:ks[n]? =some p):p.2.holds p.1 W:=h.k p (List.mem_of_getElem? hp)
end
end Go.Proofs.YthjhkhlafhjjmaaGreatDoor.K
namespace Go.Proofs.YthjhkhlafhjjmaaGreatDoor
open Go.RowKit
open Ma Me
def bt(d:Nat):Nat:=if d=1 then 0 else d
theorem Me.Nm.parts{w:World}{x:Value}{N:Nat}(h:Nm w x N):∃A c,x=.slice A (dg W64 N) c∧dg W64 N≤c:=by
 obtain⟨A,c,xs,rfl,hc,rx,wx,rfl⟩:=h;rw[←wx.len aD];exact⟨A,c,rfl,hc⟩
def Nf(w:World)(v:Value)(s:Bool)(N D:Nat):Prop:=∃t b,v=.agg #[.bool s,t,b]∧Nm w t N∧Nm w b D
theorem Nf.q{w w':World}{v:Value}{s:Bool}{N D:Nat}(h:Nf w v s N D)(hq:Q w w'):Nf w' v s N D:=by
 obtain⟨t,b,h1,h2,h3⟩:=h;exact⟨t,b,h1,h2.q hq,h3.q hq⟩
theorem Nf.form{w:World}{v:Value}{s:Bool}{N D:Nat}(h:Nf w v s N D):∃A c A2 c2,v=.agg #[.bool s,.slice A (dg W64 N) c,.slice A2 (dg W64 D) c2]∧Nm w (.slice A (dg W64 N) c) N∧Nm w (.slice A2 (dg W64 D) c2) D:=by
 obtain⟨t,b,rfl,h2,h3⟩:=h;obtain⟨A,c,rfl,hc⟩:=h2.parts;obtain⟨A2,c2,rfl,hc2⟩:=h3.parts;exact⟨A,c,A2,c2,rfl,h2,h3⟩
theorem aC3{D:Nat}:dg W64 D=0↔D=0:=⟨fun h=>dZ aD h,fun h=>by rw[h,bT]⟩
def Nq(w:World)(v:Value)(q:Rat):Prop:=Nf w v (decide (q.num<0)) q.num.natAbs (bt q.den)
theorem Nq.q{w w':World}{v:Value}{q:Rat}(h:Nq w v q)(hq:Q w w'):Nq w' v q:=Nf.q h hq
theorem aBi(q:Rat):bt q.den=0↔q.den=1:=by
 have:=q.den_pos;unfold bt;split<;>omega
theorem Nq.form{w:World}{v:Value}{q:Rat}(h:Nq w v q):∃s A1 n1 c1 A2 n2 c2,v=.agg #[.bool s,.slice A1 n1 c1,.slice A2 n2 c2]∧Hid (s=decide (q.num<0))∧Hid (n1=0↔q=0)∧Hid (n2=0↔q.den=1)∧Nm w (.slice A1 n1 c1) q.num.natAbs∧Nm w (.slice A2 n2 c2) (bt q.den):=by
 obtain⟨A1,c1,A2,c2,rfl,h1,h2⟩:=Nf.form h;refine⟨_,_,_,_,_,_,_,rfl,hZ rfl,hZ ?_,hZ ?_,h1,h2⟩
 ·rw[aC3];constructor
  ·intro h3;exact Rat.num_eq_zero.1 (by omega)
  ·intro h3;rw[h3];rfl
 ·rw[aC3,aBi]
def Ns(w:World)(v:Value)(p q:Rat):Prop:=∃s1 A1 n1 c1 A2 n2 c2 s2 A3 n3 c3 A4 n4 c4,v=.agg #[.bool s1,.slice A1 n1 c1,.slice A2 n2 c2,.bool s2,.slice A3 n3 c3,.slice A4 n4 c4]∧
 Nq w (.agg #[.bool s1,.slice A1 n1 c1,.slice A2 n2 c2]) p∧Nq w (.agg #[.bool s2,.slice A3 n3 c3,.slice A4 n4 c4]) q
theorem Ns.q{w w':World}{v:Value}{p q:Rat}(h:Ns w v p q)(hq:Q w w'):Ns w' v p q:=by
 obtain⟨s1,A1,n1,c1,A2,n2,c2,s2,A3,n3,c3,A4,n4,c4,e,h1,h2⟩:=h;exact⟨s1,A1,n1,c1,A2,n2,c2,s2,A3,n3,c3,A4,n4,c4,e,h1.q hq,h2.q hq⟩
end Go.Proofs.YthjhkhlafhjjmaaGreatDoor
namespace Go.Proofs.YthjhkhlafhjjmaaGreatDoor.E
open Go Go.RowKit
open Ma Me K
structure Cx where
 n:Nat
 /--the numbers that are known here -/
 k:Nat→Prop
 r:Nat→Nat
 w:World
 z:TypeId→Nat
def ptr(c:Cx)(p:Nat × Nat):Value:=.pointer (some ⟨c.r p.1,p.2,none⟩)
def SR(c:Cx):SV→Value→Prop
 | .u,_=>False
 | .b x,v=>v=.bool x
 | .i k n,v=>v=.int k n
 | .s l,v=>∃s,v=.string s∧bytes s=l
 | .np,v=>v=.pointer none
 | .p id off,v=>c.k id∧v=.pointer (some ⟨c.r id,off,none⟩)
 | .ns,v=>v=.slice none 0 0
 | .sl id off len (some cap),v=>c.k id∧v=.slice (some ⟨c.r id,off,none⟩) len cap
 | .sl id off len none,v=>c.k id∧∃cap,len≤cap∧v=.slice (some ⟨c.r id,off,none⟩) len cap∧off=0∧∃t cs fr,c.w.heap[c.r id]? =some (.cells cs t fr)∧cap*c.z t≤cs.size
 | .m n,v=>Nm c.w v n
 | .nf,v=>v=.nilFunc
 | .f fn cs,v=>(∀p∈cs,c.k p.1)∧v=.func (.func fn) #[] (cs.map (ptr c)).toArray
 | .y l,v=>c.k l∧v=.func (.yield (c.r l)) #[] #[]
 | .o,v=>∃A n cap,v=.slice A n cap
 | .v x,v=>v=x∧aLs x=true
def CL(c:Cx):List SV→List Value→Prop
 | [],[]=>True
 |x::l,v::r=>SR c x v∧CL c l r
 |_,_=>False
def VC(c:Cx):Bool→List SV→Value→Prop
 |true,l,v=>∃cs,v=.agg cs.toArray∧CL c l cs
 |false,l,v=>∃x,l=[x]∧SR c x v
def TL(c:Cx):List (Bool × List SV)→List Value→Prop
 | [],[]=>True
 |p::l,v::r=>VC c p.1 p.2 v∧TL c l r
 |_,_=>False
def VR(c:Cx):AV→Value→Prop
 | .c g l,v=>VC c g l v
 | .t l,v=>∃vs,v=.tuple vs.toArray∧TL c l vs
def VL(c:Cx):List AV→List Value→Prop
 | [],[]=>True
 |x::l,v::r=>VR c x v∧VL c l r
 |_,_=>False
def Tr(c:Cx)(nt:Nat)(e:Env)(tm:Array Value):Prop:=tm.size=nt∧∀k v,e.get k=some v→∃u,tm[k]? =some u∧VR c v u
def Nu(row:List Value):Prop:=∀x∈row,∀z,x≠.int .u64 z
def Bl(c:Cx)(b:B)(g:Nat):Prop:=∃row tail,Bx c.w g b.ty (row++tail)∧CL c b.c row∧(calm b.c=true→Nu tail)
def lst(p:Lp):LoopState:=if p.st then .ready else if p.pd.isSome then .done else .busy
def LpR(c:Cx)(p:Lp)(g:Nat):Prop:=∃rc,c.w.heap[g]? =some (.loop rc)∧(p.dd=false→∃D tm,rc={state:=lst p,pending:=p.pd,fn:=p.fn,tmps:=tm,params:=p.ps.toArray,assign:=p.cs,body:=p.bd,defers:=D}∧Tr c p.nt p.e tm)
def Lv(c:Cx)(id:Nat)(b:B):Prop:=c.k id∧b.c≠[]
structure Rl (c:Cx) (wb:World) (h:H):Prop where
 n:c.n=h.n
 k:∀id,c.k id→id<c.n
 q:Q wb c.w
 blk:∀id b,h.h.get id=some b→id<h.n∧(Lv c id b→Bl c b (c.r id))
 inj:∀i j b d,h.h.get i=some b→h.h.get j=some d→Lv c i b→Lv c j d→i≠j→c.r i≠c.r j
 new:∀id b,h.h.get id=some b→Lv c id b→h.bar≤id→wb.heap.size≤c.r id
 lp:∀l p,h.l.get l=some p→l<h.n∧(c.k l→LpR c p (c.r l)∧(h.bar≤l→wb.heap.size≤c.r l))
 li:∀i j p d,h.l.get i=some p→h.l.get j=some d→c.k i→c.k j→i≠j→c.r i≠c.r j
structure Ps (w w':World):Prop where
 m:∀v N,Nm w v N→Nm w' v N
 s:∀(g:Nat) (t:TypeId) (cs:Array Value) (fr:Nat × Nat),w.heap[g]? =some (Obj.cells cs t fr)→∃cs':Array Value,w'.heap[g]? =some (Obj.cells cs' t fr)∧cs'.size=cs.size
 n:w.heap.size≤w'.heap.size
 d:∀g:Nat,w.heap[g]? =some (Obj.deferred (some []))→w'.heap[g]? =some (Obj.deferred (some []))
theorem Ps.refl(w:World):Ps w w:=⟨fun _ _ h=>h,fun _ _ cs _ h=>⟨cs,h,rfl⟩,Nat.le_refl _,fun _ h=>h⟩
theorem Ps.trans{a b c:World}(h:Ps a b)(k:Ps b c):Ps a c:=⟨fun v N x=>k.m v N (h.m v N x),fun g t cs fr x=>let ⟨d,h1,h2⟩:=h.s g t cs fr x;let ⟨e,h3,h4⟩:=k.s g t d fr h1;⟨e,h3,h4.trans h2⟩,Nat.le_trans h.n k.n,fun g x=>k.d g (h.d g x)⟩
theorem Ps.q{a b:World}(h:Q a b):Ps a b:=⟨fun _ _ x=>x.q h,fun _ _ cs _ x=>⟨cs,(h.heap (Array.getElem?_eq_some_iff.1 x).1).trans x,rfl⟩,h.size,fun _ x=>(h.heap (Array.getElem?_eq_some_iff.1 x).1).trans x⟩
structure Xt (c d:Cx):Prop where
 n:c.n≤d.n
 k:∀id,c.k id→d.k id
 o:∀id,d.k id→c.k id∨c.n≤id
 r:∀id,c.k id→d.r id=c.r id
 p:Ps c.w d.w
 z:d.z=c.z
theorem Xt.refl(c:Cx):Xt c c:=⟨Nat.le_refl _,fun _ h=>h,fun _ h=>.inl h,fun _ _=>rfl,Ps.refl _,rfl⟩
theorem Xt.trans{a b c:Cx}(h:Xt a b)(k:Xt b c):Xt a c:=⟨Nat.le_trans h.n k.n,fun id hi=>k.k id (h.k id hi),fun id hi=>(k.o id hi).elim (fun q=>h.o id q) fun q=>.inr (Nat.le_trans h.n q),fun id hi=>(k.r id (h.k id hi)).trans (h.r id hi),h.p.trans k.p,k.z.trans h.z⟩
structure Xs (c d:Cx):Prop where
 k:∀id,c.k id→d.k id
 r:∀id,c.k id→d.r id=c.r id
 m:∀v N,Nm c.w v N→Nm d.w v N
 s:∀(g:Nat) (t:TypeId) (cs:Array Value) (fr:Nat × Nat),c.w.heap[g]? =some (Obj.cells cs t fr)→∃cs':Array Value,d.w.heap[g]? =some (Obj.cells cs' t fr)∧cs'.size=cs.size
 z:d.z=c.z
theorem Xt.xs{c d:Cx}(x:Xt c d):Xs c d:=⟨x.k,x.r,x.p.m,x.p.s,x.z⟩
section
variable {c d:Cx}
theorem SR.xs(x:Xs c d){s:SV}{v:Value}(h:SR c s v):SR d s v:=by
 cases s with
 |p id off=>exact⟨x.k _ h.1,by rw[x.r _ h.1];exact h.2⟩
 |sl id off len cap=>
  cases cap with
  |some cap=>exact⟨x.k _ h.1,by rw[x.r _ h.1];exact h.2⟩
  |none=>
   obtain⟨h1,cap,h2,h3,h4,t,cs,fr,h5,h6⟩:=h;obtain⟨cs',h7,h8⟩:=x.s _ _ _ _ h5;exact⟨x.k _ h1,cap,h2,by rw[x.r _ h1];exact h3,h4,t,cs',fr,by rw[x.r _ h1];exact h7,by rw[h8,x.z];exact h6⟩
 |m n=>exact x.m _ _ h
 |f fn cs=>
  refine⟨fun p hp=>x.k _ (h.1 p hp),h.2.trans ?_⟩;congr 2;exact List.map_congr_left fun p hp=>by unfold ptr;rw[x.r _ (h.1 p hp)]
 |y l=>exact⟨x.k _ h.1,by rw[x.r _ h.1];exact h.2⟩
 |_=>exact h
theorem CL.xs(x:Xs c d):∀{l:List SV} {r:List Value},CL c l r→CL d l r
 | [],[],_=>trivial
 |_::_,_::_,h=>⟨h.1.xs x,CL.xs x h.2⟩
theorem VC.xs(x:Xs c d){g:Bool}{l:List SV}{v:Value}(h:VC c g l v):VC d g l v:=by
 cases g with
 |true=>obtain⟨cs,h1,h2⟩:=h;exact⟨cs,h1,h2.xs x⟩
 |false=>obtain⟨s,h1,h2⟩:=h;exact⟨s,h1,h2.xs x⟩
theorem TL.xs(x:Xs c d):∀{l:List (Bool × List SV)} {r:List Value},TL c l r→TL d l r
 | [],[],_=>trivial
 |_::_,_::_,h=>⟨h.1.xs x,TL.xs x h.2⟩
theorem VR.xs(x:Xs c d){a:AV}{v:Value}(h:VR c a v):VR d a v:=by
 cases a with
 |c g l=>exact VC.xs x h
 |t l=>obtain⟨vs,h1,h2⟩:=h;exact⟨vs,h1,h2.xs x⟩
theorem VL.xs(x:Xs c d):∀{l:List AV} {r:List Value},VL c l r→VL d l r
 | [],[],_=>trivial
 |_::_,_::_,h=>⟨h.1.xs x,VL.xs x h.2⟩
theorem Tr.xs(x:Xs c d){nt:Nat}{e:Env}{tm:Array Value}(h:Tr c nt e tm):Tr d nt e tm:=
 ⟨h.1,fun k v hk=>let ⟨u,h1,h2⟩:=h.2 k v hk;⟨u,h1,h2.xs x⟩⟩
theorem SR.xt(x:Xt c d){s:SV}{v:Value}(h:SR c s v):SR d s v:=h.xs x.xs
theorem CL.xt(x:Xt c d){l:List SV}{r:List Value}(h:CL c l r):CL d l r:=h.xs x.xs
theorem VC.xt(x:Xt c d){g:Bool}{l:List SV}{v:Value}(h:VC c g l v):VC d g l v:=h.xs x.xs
theorem TL.xt(x:Xt c d){l:List (Bool × List SV)}{r:List Value}(h:TL c l r):TL d l r:=h.xs x.xs
theorem VR.xt(x:Xt c d){a:AV}{v:Value}(h:VR c a v):VR d a v:=h.xs x.xs
theorem VL.xt(x:Xt c d){l:List AV}{r:List Value}(h:VL c l r):VL d l r:=h.xs x.xs
theorem Tr.xt(x:Xt c d){nt:Nat}{e:Env}{tm:Array Value}(h:Tr c nt e tm):Tr d nt e tm:=h.xs x.xs
theorem CL.len:∀{l:List SV} {r:List Value},CL c l r→r.length=l.length
 | [],[],_=>rfl
 |_::_,_::_,h=>by simp[CL.len h.2]
theorem CL.take(n:Nat):∀{l:List SV} {r:List Value},CL c l r→CL c (l.take n) (r.take n)
 | [],[],_=>by simp[CL]
 |_::_,_::_,h=>by
  cases n with
  |zero=>trivial
  |succ n=>exact⟨h.1,CL.take n h.2⟩
theorem CL.drop(n:Nat):∀{l:List SV} {r:List Value},CL c l r→CL c (l.drop n) (r.drop n)
 | [],[],_=>by simp[CL]
 |_::_,_::_,h=>by
  cases n with
  |zero=>exact h
  |succ n=>exact CL.drop n h.2
theorem CL.app:∀{l m:List SV} {r s:List Value},CL c l r→CL c m s→CL c (l++m) (r++s)
 | [],_,[],_,_,k=>k
 |_::_,_,_::_,_,h,k=>⟨h.1,CL.app h.2 k⟩
theorem CL.at_:∀{l:List SV} {r:List Value} {j:Nat} {x:SV},CL c l r→l[j]? =some x→∃v,r[j]? =some v∧SR c x v
 | [],[],_,_,_,h=>by simp at h
 |y::_,v::_,0,x,h,hx=>by simp at hx;subst hx;exact⟨v,rfl,h.1⟩
 |_::_,_::_,j+1,x,h,hx=>by
  obtain⟨v,h1,h2⟩:=CL.at_ (j:=j) h.2 (by simpa using hx);exact⟨v,by simpa using h1,h2⟩
theorem CL.calm:∀{l:List SV} {r:List Value},CL c l r→calm l=true→Nu r
 | [],[],_,_=>fun x hx=>by cases hx
 |s::l,v::r,h,k=>by
  have k2:E.calm (s::l)=cb (aEd s) (E.calm l) false:=rfl;rw[k2,cK]at k;split at k
  ·rename_i ks;intro y hy z;rcases List.mem_cons.1 hy with rfl|hy
   ·intro e;subst e;have hs:=h.1;cases s with
    |u=>cases hs
    |i kk n=>cases hs;cases ks
    |sl id off len cap=>cases cap<;>simp[SR]at hs
    |m n=>obtain⟨A,c,ws,h1,-⟩:=hs;cases h1
    |s l=>obtain⟨_,h1,-⟩:=hs;cases h1
    |p id off=>cases hs.2
    |f fn cs=>cases hs.2
    |y l=>cases hs.2
    |o=>obtain⟨_,_,_,h1⟩:=hs;cases h1
    |v x=>obtain⟨h1,h2⟩:=hs;subst h1;cases h2
    |_=>cases hs
   ·exact CL.calm h.2 k y hy z
  ·cases k
theorem Bl.xs(x:Xs c d){b:B}{g:Nat}(hh:d.w.heap[g]? =c.w.heap[g]?)(h:Bl c b g):Bl d b g:=by
 obtain⟨row,tail,h1,h2,h3⟩:=h;exact⟨row,tail,hh.trans h1,h2.xs x,h3⟩
theorem Bl.xt(x:Xt c d){b:B}{g:Nat}(hh:d.w.heap[g]? =c.w.heap[g]?)(h:Bl c b g):Bl d b g:=h.xs x.xs hh
theorem Bl.lt{b:B}{g:Nat}(h:Bl c b g):g<c.w.heap.size:=by
 obtain⟨row,tail,h1,-⟩:=h;exact h1.lt
theorem LpR.lt{p:Lp}{g:Nat}(h:LpR c p g):g<c.w.heap.size:=by
 obtain⟨rc,h1,-⟩:=h;exact (Array.getElem?_eq_some_iff.1 h1).1
theorem LpR.xs(x:Xs c d){p:Lp}{g:Nat}(hh:d.w.heap[g]? =c.w.heap[g]?)(h:LpR c p g):LpR d p g:=by
 obtain⟨rc,h1,h2⟩:=h;exact⟨rc,hh.trans h1,fun hd=>let ⟨D,tm,h3,h4⟩:=h2 hd;⟨D,tm,h3,h4.xs x⟩⟩
theorem LpR.xt(x:Xt c d){p:Lp}{g:Nat}(hh:d.w.heap[g]? =c.w.heap[g]?)(h:LpR c p g):LpR d p g:=h.xs x.xs hh
theorem aGQ{b:B}{p:Lp}{g k:Nat}(h:Bl c b g)(hl:LpR c p k):k≠g:=by
 intro e;subst e;obtain⟨row,tail,h1,-⟩:=h;obtain⟨rc,h2,-⟩:=hl;rw[h1]at h2;cases h2
theorem Ps.one{w w':World}{g:Nat}{t:TypeId}{row:List Value}(hb:Bx w g t row)(hn:Nu row)(hk:∀k,k≠g→w'.heap[k]? =w.heap[k]?)(hs:w'.heap.size=w.heap.size){row':List Value}(hb':Bx w' g t row')(hl:row'.length=row.length):Ps w w':=by
 refine⟨fun v N h=>?_,fun k t2 cs fr hc=>?_,by omega,fun k hc=>?_⟩
 rotate_left
 rotate_left
 ·have hkg:k≠g:=fun e=>by
   subst e;unfold Bx at hb;rw[hb]at hc;cases hc
  exact (hk k hkg).trans hc
 rotate_left
 ·by_cases hkg:k=g
  ·subst hkg;unfold Bx at hb;rw[hb]at hc;injection hc with hc;injection hc with h1 h2 h3;subst h1;subst h2;subst h3;exact⟨_,hb',by simpa using hl⟩
  ·exact⟨cs,(hk k hkg).trans hc,rfl⟩
 obtain⟨A,c,ws,h1,h2,h3,h4,h5⟩:=h;refine⟨A,c,ws,h1,h2,fun hw=>?_,h4,h5⟩;obtain⟨b,o,e,hlt,hc⟩:=h3 hw;have hne:b≠g:=by
  intro e;have h2:=hc 0 _ (List.getElem?_eq_getElem hw);unfold Bx at hb;rw[←e]at hb;have h3:row[o+0]? =some (.int .u64 ((ws[0]:Nat):Int)):=(by simpa [World.cell?,hb] using h2);exact hn _ (List.mem_of_getElem? h3) _ rfl
 have he:=hk _ hne;exact⟨b,o,e,by omega,fun j u hu=>(qZ (p:=⟨b,o+j,none⟩) he).trans (hc j u hu)⟩
end
end Go.Proofs.YthjhkhlafhjjmaaGreatDoor.E
namespace Go.Proofs.YthjhkhlafhjjmaaGreatDoor.E
open Go Go.RowKit
open Ma Me K
def Cx.nw(c:Cx)(o:Obj):Cx:=⟨c.n+1,fun id=>c.k id∨id=c.n,fun id=>if id=c.n then c.w.heap.size else c.r id,c.w.alloc o,c.z⟩
section
variable {c:Cx} {wb:World} {h:H}
theorem aH8(hk:∀id,c.k id→id<c.n)(o:Obj):Xt c (c.nw o):=⟨Nat.le_succ _,fun id hi=>.inl hi,fun id hi=>hi.elim .inl fun q=>.inr (by omega),fun id hi=>if_neg (by have:=hk id hi;omega),Ps.q ((Q.refl _).alloc o),rfl⟩
theorem aC4(o:Obj):(c.nw o).r c.n=c.w.heap.size:=if_pos rfl
theorem oC(o:Obj){id:Nat}(hi:id<c.n):(c.nw o).r id=c.r id:=if_neg (by omega)
theorem Rl.size(hr:Rl c wb h):wb.heap.size≤c.w.heap.size:=hr.q.size
theorem Rl.nw(hr:Rl c wb h)(b:B){row tail:List Value}(hb:CL c b.c row)(ht:calm b.c=true→Nu tail):
  Rl (c.nw (.cells (row++tail).toArray b.ty)) wb ⟨h.h.set b h.n,Nat.succ h.n,h.bar,h.l⟩:=by
 have hn:=hr.n;have hsz:=hr.size;have X:=aH8 (c:=c) hr.k (.cells (row++tail).toArray b.ty);have hold:∀k,k<c.w.heap.size→(c.nw (.cells (row++tail).toArray b.ty)).w.heap[k]? =c.w.heap[k]? :=fun k hk=>Below.heap_alloc _ _ k hk;have hnew:Bl (c.nw (.cells (row++tail).toArray b.ty)) b ((c.nw (.cells (row++tail).toArray b.ty)).r h.n):=by
  rw[←hn,aC4];exact⟨row,tail,Bx.new _ _ _,hb.xt X,ht⟩
 have key:∀id b',(T.set b h.h h.n).get id=some b'→(id=h.n∧b'=b)∨(id<h.n∧h.h.get id=some b'):=fun id b' hg=>by
  rcases T.get_set hg with⟨h1,h2⟩|⟨h1,h2⟩
  ·exact .inl ⟨h1,h2⟩
  ·exact .inr ⟨(hr.blk id b' h2).1,h2⟩
 have lv:∀{id b'},id<h.n→Lv (c.nw (.cells (row++tail).toArray b.ty)) id b'→Lv c id b':=fun hi q=>⟨q.1.elim (fun q=>q) fun q=>by omega,q.2⟩
 have kk:∀{id},id<h.n→(c.nw (.cells (row++tail).toArray b.ty)).k id→c.k id:=fun hi q=>q.elim (fun q=>q) fun q=>by omega
 refine⟨by show c.n+1=h.n+1;rw[hn],fun id q=>by show id<c.n+1;exact q.elim (fun q=>Nat.lt_succ_of_lt (hr.k id q)) fun q=>by omega,hr.q.alloc _,fun id b' hg=>?_,fun i j b' d hi hj hb' hd hij=>?_,fun id b' hg hc hbar=>?_,fun l p hl=>?_,fun i j p d hi hj ki kj hij=>?_⟩
 ·rcases key id b' hg with⟨rfl,rfl⟩|⟨h1,h2⟩
  ·exact⟨Nat.lt_succ_self _,fun _=>hnew⟩
  ·refine⟨Nat.lt_succ_of_lt h1,fun hc=>?_⟩;rw[oC _ (by omega)];have:=(hr.blk id b' h2).2 (lv h1 hc);exact this.xt X (hold _ this.lt)
 ·rcases key i b' hi with⟨rfl,rfl⟩|⟨h1,h2⟩
  ·rcases key j d hj with⟨rfl,rfl⟩|⟨h3,h4⟩
   ·exact absurd rfl hij
   ·have:=((hr.blk j d h4).2 (lv h3 hd)).lt;rw[←hn,aC4,oC _ (by omega)];omega
  ·have h5:=((hr.blk i b' h2).2 (lv h1 hb')).lt;rcases key j d hj with⟨rfl,rfl⟩|⟨h3,h4⟩
   ·rw[oC _ (by omega),←hn,aC4];omega
   ·rw[oC _ (by omega),oC _ (by omega)];exact hr.inj i j b' d h2 h4 (lv h1 hb') (lv h3 hd) hij
 ·rcases key id b' hg with⟨rfl,rfl⟩|⟨h1,h2⟩
  ·rw[←hn,aC4];exact hsz
  ·rw[oC _ (by omega)];exact hr.new id b' h2 (lv h1 hc) hbar
 ·obtain⟨h1,h23⟩:=hr.lp l p hl;rw[oC _ (by omega)];exact⟨Nat.lt_succ_of_lt h1,fun q=>let ⟨h2,h3⟩:=h23 (kk h1 q);⟨h2.xt X (hold _ h2.lt),h3⟩⟩
 ·rw[oC _ (by have:=(hr.lp i p hi).1;omega),oC _ (by have:=(hr.lp j d hj).1;omega)];exact hr.li i j p d hi hj (kk (hr.lp i p hi).1 ki) (kk (hr.lp j d hj).1 kj) hij
def Cx.drew(c:Cx):Cx:=⟨c.n,c.k,c.r,c.w.drew,c.z⟩
theorem wY:Xt c c.drew:=⟨Nat.le_refl _,fun _ h=>h,fun _ h=>.inl h,fun _ _=>rfl,Ps.q (Q.refl _).drew,rfl⟩
theorem Rl.drew(hr:Rl c wb h):Rl c.drew wb h:=
 ⟨hr.n,hr.k,hr.q.drew,fun id b hg=>⟨(hr.blk id b hg).1,fun hc=>((hr.blk id b hg).2 hc).xt wY rfl⟩,hr.inj,hr.new,fun l p hl=>⟨(hr.lp l p hl).1,fun q=>⟨((hr.lp l p hl).2 q).1.xt wY rfl,((hr.lp l p hl).2 q).2⟩⟩,hr.li⟩
theorem oneCell{s:SV}{v:Value}(h:SR c s v):v.oneCell'=true:=by
 cases s with
 |u=>cases h
 |s l=>obtain⟨_,rfl,-⟩:=h;rfl
 |p id off=>rw[h.2];rfl
 |sl id off len cap=>
  cases cap with
  |some cap=>rw[h.2];rfl
  |none=>obtain⟨_,_,_,rfl,-⟩:=h;rfl
 |m n=>obtain⟨_,_,_,rfl,-⟩:=h;rfl
 |f fn cs=>rw[h.2];rfl
 |y l=>rw[h.2];rfl
 |o=>obtain⟨_,_,_,rfl⟩:=h;rfl
 |v x=>
  obtain⟨rfl,h2⟩:=h;unfold aLs at h2;split at h2<;>first|rfl|cases h2
 |_=>rw[h];rfl
theorem aBv:∀{l:List SV} {r:List Value},CL c l r→∀v∈r,v.oneCell'=true
 | [],[],_,_,hv=>by cases hv
 |_::_,_::_,h,v,hv=>by
  rcases List.mem_cons.1 hv with rfl|hv
  ·exact oneCell h.1
  ·exact aBv h.2 v hv
def Cx.row(c:Cx)(g:Nat)(cs:List Value):Cx:=⟨c.n,c.k,c.r,c.w.setRow g cs.toArray,c.z⟩
theorem Rl.row(hr:Rl c wb h){id:Nat}{b b':B}(hg:h.h.get id=some b)(hlv:Lv c id b)(hbar:h.bar≤id)(hty:b'.ty=b.ty)(hcalm:calm b.c=true){row tail row' tail':List Value}(hb:Bx c.w (c.r id) b.ty (row++tail))(hc:CL c b.c row)(ht:Nu tail)(hc':CL c b'.c row')(ht':Nu tail')(hl:(row'++tail').length=(row++tail).length):
  Xt c (c.row (c.r id) (row'++tail'))∧Rl (c.row (c.r id) (row'++tail')) wb ⟨h.h.set b' id,h.n,h.bar,h.l⟩:=by
 have hnu:Nu (row++tail):=fun x hx=>by
  rcases List.mem_append.1 hx with hx|hx
  ·exact hc.calm hcalm x hx
  ·exact ht x hx
 have hoth:∀k,k≠c.r id→(c.row (c.r id) (row'++tail')).w.heap[k]? =c.w.heap[k]? :=fun k hk=>setRow_other _ _ _ _ hk;have X:Xt c (c.row (c.r id) (row'++tail')):=⟨Nat.le_refl _,fun _ h=>h,fun _ h=>.inl h,fun _ _=>rfl,Ps.one hb hnu hoth (size_setRow _ _ _) (setRow_heap _ _ _ _ _ _ hb) hl,rfl⟩
 have hB0:Bl c b (c.r id):=(hr.blk id b hg).2 hlv;have hnew:Bl (c.row (c.r id) (row'++tail')) b' (c.r id):=⟨row',tail',by rw[hty];exact setRow_heap _ _ _ _ _ _ hb,hc'.xt X,fun _=>ht'⟩
 have key:∀j b2,(T.set b' h.h id).get j=some b2→(j=id∧b2=b')∨(j≠id∧h.h.get j=some b2):=fun j b2 hg=>T.get_set hg;refine⟨X,hr.n,hr.k,below_setRow hr.q (hr.new id b hg hlv hbar) _,fun j b2 hj=>?_,fun i j x d hi hj hx hd hij=>?_,fun j b2 hj h1 h2=>?_,fun l p hl=>?_,hr.li⟩
 ·rcases key j b2 hj with⟨rfl,rfl⟩|⟨h1,h2⟩
  ·exact⟨(hr.blk _ b hg).1,fun _=>hnew⟩
  ·refine⟨(hr.blk j b2 h2).1,fun hc=>?_⟩;have:=(hr.blk j b2 h2).2 hc;exact this.xt X (hoth _ (hr.inj j id b2 b h2 hg hc hlv h1))
 ·rcases key i x hi with⟨rfl,rfl⟩|⟨h1,h2⟩
  ·rcases key j d hj with⟨rfl,rfl⟩|⟨h3,h4⟩
   ·exact absurd rfl hij
   ·exact hr.inj _ j b d hg h4 hlv hd hij
  ·rcases key j d hj with⟨rfl,rfl⟩|⟨h3,h4⟩
   ·exact hr.inj i _ x b h2 hg hx hlv hij
   ·exact hr.inj i j x d h2 h4 hx hd hij
 ·rcases key j b2 hj with⟨rfl,rfl⟩|⟨h3,h4⟩
  ·exact hr.new _ b hg hlv hbar
  ·exact hr.new j b2 h4 h1 h2
 ·obtain⟨h1,h23⟩:=hr.lp l p hl;exact⟨h1,fun q=>let ⟨h2,h3⟩:=h23 q;⟨h2.xt X (hoth _ (aGQ hB0 h2)),h3⟩⟩
theorem aH9(hr:Rl c wb h){id off n:Nat}{l:List SV}(hkn:c.k id)(hd:rd h id off n=some l):
  ∃vs,CL c l vs∧vs.length=n∧∀j v,vs[j]? =some v→c.w.cell? ⟨c.r id,off+j,none⟩=some v:=by
 unfold rd at hd;obtain⟨b,hg,ht⟩:=aB.1 hd;rw[wV]at ht;obtain⟨h1,rfl⟩:=lX.1 ht;by_cases hne:b.c=[]
 ·rw[hne]at h1;simp at h1;subst h1;exact⟨[],by simp[CL],rfl,fun j v hv=>by simp at hv⟩
 ·obtain⟨row,tail,hb,hc,-⟩:=(hr.blk id b hg).2 ⟨hkn,hne⟩;refine⟨(row.drop off).take n,(hc.drop off).take n,?_,fun j v hv=>hb.cell _ ?_⟩
  ·have:=(hc.drop off).len;rw[List.length_take];omega
  ·rw[List.getElem?_take]at hv;split at hv
   ·rw[List.getElem?_drop]at hv;rw[List.getElem?_append_left (List.getElem?_eq_some_iff.1 hv).1];exact hv
   ·cases hv
theorem add0(g o j:Nat):(⟨g,o,none⟩:Addr).add j=⟨g,o+j,none⟩:=kI g o j
theorem aM3(hr:Rl c wb h)(P:Program){id off:Nat}{l:List SV}{h':H}(hkn:c.k id)(hw:wr h id off l=some h'){vs:List Value}(hv:CL c l vs)(hl:l≠[]):
  ∃c',Xt c c'∧Rl c' wb h'∧(storeCells ⟨c.r id,off,none⟩ vs).run P c.w=.ok () c'.w∧h'.n=h.n∧h'.bar=h.bar:=by
 unfold wr at hw;obtain⟨h1,h2⟩:=aH.1 hw;obtain⟨b,hg,h3⟩:=aB.1 h2;obtain⟨nc,h4,h5⟩:=aB.1 h3;obtain⟨h6,h7⟩:=aH.1 h5;injection h7 with h7;obtain⟨h8,rfl⟩:=uV.1 h4;have hvl:=hv.len;have hne:b.c≠[]:=by
  intro e;rw[e]at h8;simp at h8;exact hl h8.2
 obtain⟨row,tail,hb,hc,ht⟩:=(hr.blk id b hg).2 ⟨hkn,hne⟩;have hrl:=hc.len;have hst:=run_storeCells_at (P:=P) (c.r id) off b.ty vs 0 (row++tail).toArray c.w hb (by simp;omega) (aBv hv);have e:((row++tail).toArray.toList.take (off+0)++vs++(row++tail).toArray.toList.drop (off+0+vs.length))=(row.take off++vs++row.drop (off+vs.length))++tail:=by
  simp only[Nat.add_zero];rw[List.take_append_of_le_length (by omega),List.drop_append_of_le_length (by omega)];simp
 rw[e]at hst;have hc':CL c (b.c.take off++l++b.c.drop (off+l.length)) (row.take off++vs++row.drop (off+vs.length)):=by
  rw[hvl];exact ((hc.take off).app hv).app (hc.drop _)
 have hbar:=fA.1 h1;obtain⟨X,R⟩:=hr.row (b':=⟨b.ty,b.c.take off++l++b.c.drop (off+l.length)⟩) hg ⟨hkn,hne⟩ hbar rfl h6 hb hc (ht h6) hc' (ht h6) (by simp;omega);rw[←h7];exact⟨_,X,R,hst,rfl,rfl⟩
end
end Go.Proofs.YthjhkhlafhjjmaaGreatDoor.E
namespace Go.Proofs.YthjhkhlafhjjmaaGreatDoor.E
open Go Go.RowKit
open Ma Me K
section
variable {c:Cx} {α:Type}
theorem aE2{l:List SV}{k:SV→Option α}{y:α}:hd1 l k=some y↔∃x,l=[x]∧k x=some y:=by
 match l with
 | []=>exact⟨fun h=>(by cases h),fun ⟨x,h,_⟩=>(by cases h)⟩
 | [x]=>exact⟨fun h=>⟨x,rfl,h⟩,fun ⟨z,h,k⟩=>by injection h with h _;subst h;exact k⟩
 |_::_::_=>exact⟨fun h=>(by cases h),fun ⟨x,h,_⟩=>(by cases h)⟩
theorem bE{v:AV}{k:SV→Option α}{y:α}:one v k=some y↔∃x,v=sc x∧k x=some y:=by
 cases v with
 |c g l=>
  cases g with
  |true=>exact⟨fun h=>(by cases h),fun ⟨x,h,_⟩=>(by cases h)⟩
  |false=>
   show hd1 l k=some y↔_;rw[aE2];exact⟨fun ⟨x,h,hk⟩=>⟨x,by rw[h];rfl,hk⟩,fun ⟨x,h,hk⟩=>⟨x,by injection h,hk⟩⟩
 |t l=>exact⟨fun h=>(by cases h),fun ⟨x,h,_⟩=>(by cases h)⟩
theorem xX{v:AV}{k:List SV→Option α}{y:α}:agg v k=some y↔∃l,v=.c true l∧k l=some y:=by
 cases v with
 |c g l=>
  cases g with
  |true=>exact⟨fun h=>⟨l,rfl,h⟩,fun ⟨x,h,hk⟩=>by injection h with _ h;subst h;exact hk⟩
  |false=>exact⟨fun h=>(by cases h),fun ⟨x,h,_⟩=>(by cases h)⟩
 |t l=>exact⟨fun h=>(by cases h),fun ⟨x,h,_⟩=>(by cases h)⟩
theorem oD{v:AV}{k:List SV→Option α}{y:α}:cells v k=some y↔∃g l,v=.c g l∧k l=some y:=by
 cases v with
 |c g l=>exact⟨fun h=>⟨g,l,rfl,h⟩,fun ⟨g2,x,h,hk⟩=>by injection h with _ h;subst h;exact hk⟩
 |t l=>exact⟨fun h=>(by cases h),fun ⟨_,x,h,_⟩=>(by cases h)⟩
theorem aJ{s:SV}{u:Value}:VR c (sc s) u↔SR c s u:=⟨fun ⟨x,h,hx⟩=>by injection h with h _;subst h;exact hx,fun h=>⟨s,rfl,h⟩⟩
theorem uX:VR c un undef:=⟨[],rfl,trivial⟩
theorem cells_ok{g:Bool}{l:List SV}{u:Value}(h:VR c (.c g l) u):CL c l u.cells.toList:=by
 cases g with
 |true=>obtain⟨cs,rfl,hc⟩:=h;exact hc
 |false=>
  obtain⟨x,rfl,hx⟩:=h;have h1:=oneCell hx;have e:u.cells=#[u]:=by cases u<;>first|rfl|cases h1
  rw[e];exact⟨hx,trivial⟩
theorem aNT{x:SV}{v:Value}(h:aH2 x v=true):SR c x v:=by
 unfold aH2 at h;split at h
 ·simp at h;subst h;rfl
 ·rename_i s;exact⟨s,rfl,by unfold bytes;rw[show s.data.toList=[] from by simpa using h];rfl⟩
 ·rfl
 ·exact Nm.zero _ _
 ·rfl
 ·rfl
 ·rfl
 ·cases h
theorem rH:∀{l:List SV} {r:List Value},zok l r=true→CL c l r
 | [],[],_=>trivial
 | [],_::_,h=>by cases h
 |_::_,[],h=>by cases h
 |x::l,v::r,h=>by
  have h2:(aH2 x v && zok l r)=true:=h;obtain⟨h3,h4⟩:=(Bool.and_eq_true _ _).mp h2;exact⟨aNT h3,rH h4⟩
theorem aPK{v:Value}(h:isF v=true):v=.bool false:=by
 unfold isF at h;split at h
 ·rfl
 ·cases h
theorem aJz{v:Value}(h:isZ v=true):v=.slice none 0 0:=by
 unfold isZ at h;split at h
 ·rfl
 ·cases h
theorem aPL{v:Value}{a:AV}(h:ofV v=some a):VR c a v:=by
 unfold ofV at h;split at h
 case h_7 cs=>
  unfold ofA at h;split at h
  ·rename_i x y z hl;obtain⟨h1,h2⟩:=aH.1 h;obtain⟨h3,h4⟩:=aH.1 h2;obtain⟨h5,h6⟩:=aH.1 h4;injection h6 with h6;subst h6;rw[aPK h1,aJz h3,aJz h5]at hl;refine⟨cs.toList,by rw[Array.toArray_toList],?_⟩;rw[hl];exact⟨rfl,Nm.zero _ _,Nm.zero _ _,trivial⟩
  ·cases h
 case h_8 vs=>
  split at h
  ·rename_i hl;injection h with h;subst h;exact⟨[],by rw[←hl,Array.toArray_toList],trivial⟩
  ·cases h
 all_goals first
  |(injection h with h;subst h;first
    |exact aJ.2 rfl
    |exact aJ.2 ⟨_,rfl,rfl⟩)
  |cases h
end
section
variable {F:Cf} {c:Cx} {wb:World} {h h':H} {nt:Nat} {e:Env} {a:Act} {o:Oper} {v:AV}
theorem dP(ht:Tr c nt e a.tmps){x:Operand}(hx:ev e x=some v):VR c v (a.eval x):=by
 cases x with
 |tmp t=>
  obtain⟨u,h1,h2⟩:=ht.2 t v hx;show VR c v (a.tmps.getD t undef);rw[Array.getD_eq_getD_getElem?,h1];exact h2
 |const k=>exact aPL hx
 |global g=>cases hx
 |func f=>
  injection hx with hx;subst hx;exact aJ.2 ⟨fun p hp=>(by cases hp),rfl⟩
theorem zL(ht:Tr c nt e a.tmps):∀{l:List Operand} {vs:List AV},evL e l=some vs→VL c vs (l.map a.eval)
 | [],vs,hx=>by injection hx with hx;subst hx;trivial
 |x::l,vs,hx=>by
  have e1:evL e (x::l)=ob (ev e x) fun v=>ob (evL e l) fun r=>some (v::r):=rfl;rw[e1]at hx;obtain⟨v,h1,h2⟩:=aB.1 hx;obtain⟨r,h3,h4⟩:=aB.1 h2;injection h4 with h4;subst h4;exact⟨dP ht h1,zL ht h3⟩
structure Ty (P:Program) (t:Nat) (i:TI):Prop where
 ex:∃inf d z,P.info? t=some inf∧P.underlying t=some d∧i.d=dk d∧i.sz=inf.size∧i.by_=inf.bytes∧inf.zero=some z∧zok i.ze z.cells.toList=true∧z.cells.toList.length=inf.size
theorem bM{t:Nat}{i:TI}(h:F.ti t=some i):Ty F.P t i:=by
 unfold Cf.ti at h;split at h
 ·rename_i inf d hi hd;split at h
  ·rename_i z hz;obtain⟨h1,h2⟩:=aH.1 h;obtain⟨h3,h4⟩:=(Bool.and_eq_true _ _).mp h1;injection h2 with h2;subst h2;exact⟨inf,d,z,hi,hd,rfl,rfl,rfl,hz,h3,aY.1 h4⟩
  ·cases h
 ·cases h
theorem rY{t n:Nat}(h:sz F t=some n):∃i,F.ti t=some i∧i.sz=n:=by
 obtain⟨i,h1,h2⟩:=aB.1 h;injection h2 with h2;exact⟨i,h1,h2⟩
theorem jI{P:Program}{t:Nat}{i:TI}(h:Ty P t i)(w:World):(sizeOf t).run P w=.ok i.sz w:=by
 obtain⟨inf,d,z,h1,h2,h3,h4,h5,h6,h7,h8⟩:=h.ex;simp[sizeOf,typeInfo,h1,h4]
theorem aAJ{P:Program}{t:Nat}{i:TI}(h:Ty P t i)(w:World):(isAgg t).run P w=.ok i.d.ag w:=by
 obtain⟨inf,d,z,h1,h2,h3,h4,h5,h6,h7,h8⟩:=h.ex;unfold isAgg;rw[Sem.run_bind,run_underlying h2 w,h3];cases d<;>rfl
theorem aLB{P:Program}{t:Nat}{i:TI}(h:Ty P t i)(w:World):∃z,(zeroValue t).run P w=.ok z w∧CL c i.ze z.cells.toList∧z.cells.toList.length=i.sz:=by
 obtain⟨inf,d,z,h1,h2,h3,h4,h5,h6,h7,h8⟩:=h.ex;exact⟨z,by simp[zeroValue,typeInfo,h1,h6],rH h7,by rw[h8,h4]⟩
def OpR(P:Program)(ρ:Operand→Value)(o:Oper)(w:World)(u:Value)(w':World):Prop:=
 (execOp ρ o).run P w=.ok (.value u) w'∨((execOp ρ o).run P w=.ok .skip w'∧u=undef)
def Po(c:Cx)(wb:World)(h':H)(v:AV)(u:Value)(w':World):Prop:=∃d,d.w=w'∧Xt c d∧Rl d wb h'∧VR d v u
theorem OpR.vl{P:Program}{ρ:Operand→Value}{w w':World}{u:Value}{s:Sem Value}(he:execOp ρ o=(do pure (Next.value (←s))))(hs:s.run P w=.ok u w'):OpR P ρ o w u w':=
 .inl (by rw[he,Sem.run_bind,hs];rfl)
theorem OpR.sk{P:Program}{ρ:Operand→Value}{w w':World}{s:Sem Unit}(he:execOp ρ o=(do s;pure Next.skip))(hs:s.run P w=.ok () w'):OpR P ρ o w undef w':=
 .inr ⟨by rw[he,Sem.run_bind,hs];rfl,rfl⟩
theorem Po.same{u:Value}(hr:Rl c wb h)(hv:VR c v u):Po c wb h v u c.w:=⟨c,rfl,Xt.refl c,hr,hv⟩
theorem aB5(hr:Rl c wb h)(b:B){A:Array Value}(hb:CL c b.c A.toList):
  ∃d,d.w=c.w.alloc (.cells A b.ty)∧Xt c d∧Rl d wb ⟨h.h.set b h.n,Nat.succ h.n,h.bar,h.l⟩∧d.r h.n=c.w.heap.size∧d.k h.n:=by
 have:=hr.nw b (tail:=[]) hb (fun _ x hx=>by cases hx);rw[List.append_nil,Array.toArray_toList]at this;exact⟨_,rfl,aH8 hr.k _,this,by rw[←hr.n];exact aC4 _,by rw[←hr.n];exact .inr rfl⟩
theorem aNU(hr:Rl c wb h)(b:B){A:Array Value}{row tail:List Value}(hb:CL c b.c row)(ht:calm b.c=true→Nu tail)(hA:A.toList=row++tail):
  ∃d,d.w=c.w.alloc (.cells A b.ty)∧Xt c d∧Rl d wb ⟨h.h.set b h.n,Nat.succ h.n,h.bar,h.l⟩∧d.r h.n=c.w.heap.size∧d.k h.n:=by
 have:=hr.nw b hb ht;rw[←hA,Array.toArray_toList]at this;exact⟨_,rfl,aH8 hr.k _,this,by rw[←hr.n];exact aC4 _,by rw[←hr.n];exact .inr rfl⟩
theorem aJA{x:Operand}(hr:Rl c wb h)(ht:Tr c nt e a.tmps)(ho:o.op=.move x∨o.op=.assign x)(hx:(ob (ev e x) fun v=>some (v,h))=some (v,h')):∃u w',OpR F.P a.eval o c.w u w'∧Po c wb h' v u w':=by
 obtain⟨v1,h1,h2⟩:=aB.1 hx;injection h2 with h2;injection h2 with h2 h3;subst h2;subst h3;refine⟨a.eval x,c.w,.inl ?_,Po.same hr (dP ht h1)⟩;unfold execOp;rcases ho with ho|ho<;>rw[ho]<;>rfl
theorem aPM{k x y:Operand}(hr:Rl c wb h)(ht:Tr c nt e a.tmps)(ho:o.op=.pick k x y)(hx:uT e h k x y=some (v,h')):∃u w',OpR F.P a.eval o c.w u w'∧Po c wb h' v u w':=by
 obtain⟨v1,h1,h2⟩:=aB.1 hx;obtain⟨s,rfl,h3⟩:=bE.1 h2;split at h3
 ·rename_i b;obtain⟨v2,h4,h5⟩:=aB.1 h3;injection h5 with h5;injection h5 with h5 h6;subst h5;subst h6;have hk:a.eval k=.bool b:=aJ.1 (dP ht h1);refine⟨if b=true then a.eval x else a.eval y,c.w,.inl ?_,Po.same hr ?_⟩
  ·unfold execOp;rw[ho];simp only[hk,asBool];cases b<;>rfl
  ·rw[cK]at h4;split at h4<;>rename_i hb
   ·rw[if_pos hb];exact dP ht h4
   ·rw[if_neg hb];exact dP ht h4
 ·cases h3
theorem aNV{t:Nat}(hr:Rl c wb h)(ho:o.op=.alloc t)(hx:tQ F h t=some (v,h')):∃u w',OpR F.P a.eval o c.w u w'∧Po c wb h' v u w':=by
 obtain⟨i,h1,h2⟩:=aB.1 hx;unfold H.nw at h2;rw[bZ]at h2;injection h2 with h2;injection h2 with h2 h3;subst h2;subst h3;obtain⟨z,hz,hc,-⟩:=aLB (c:=c) (bM h1) c.w;obtain⟨d,hw,X,R,hd,hlt⟩:=aB5 hr ⟨t,i.ze⟩ hc;refine⟨.pointer (some ⟨c.w.heap.size,0,none⟩),_,OpR.vl (s:=Instr.alloc t true (.tuple #[])) (by unfold execOp;rw[ho]) ?_,d,hw,X,R,aJ.2 ⟨hlt,by rw[hd]⟩⟩;simp only[Instr.alloc,Sem.run_bind,hz,Result.andThen_ok,newVar,newRow,run_newObj,Sem.run_pure];rfl
theorem aRp{t:Nat}{x:Operand}(hr:Rl c wb h)(ht:Tr c nt e a.tmps)(ho:o.op=.box t x)(hx:zD e h t x=some (v,h')):∃u w',OpR F.P a.eval o c.w u w'∧Po c wb h' v u w':=by
 obtain⟨v1,h1,h2⟩:=aB.1 hx;obtain⟨g,l,rfl,h3⟩:=oD.1 h2;unfold H.nw at h3;rw[bZ]at h3;injection h3 with h3;injection h3 with h3 h4;subst h3;subst h4;obtain⟨d,hw,X,R,hd,hlt⟩:=aB5 hr ⟨t,l⟩ (cells_ok (dP ht h1));refine⟨.pointer (some ⟨c.w.heap.size,0,none⟩),_,OpR.vl (s:=Instr.box t (a.eval x)) (by unfold execOp;rw[ho]) ?_,d,hw,X,R,aJ.2 ⟨hlt,by rw[hd]⟩⟩;simp only[Instr.box,Sem.run_bind,Result.andThen_ok,newVar,newRow,run_newObj,Sem.run_pure];rfl
theorem aIa{g:Bool}{l:List SV}{vs:List Value}(h:av g l=some v)(hc:CL c l vs):∃u,VR c v u∧(g=true→u=.agg vs.toArray)∧(g=false→vs=[u]):=by
 unfold av at h;rw[cK]at h;split at h
 ·injection h with h;subst h;rename_i hg;exact⟨.agg vs.toArray,⟨vs,rfl,hc⟩,fun _=>rfl,fun h2=>by rw[hg]at h2;cases h2⟩
 ·rename_i hg;obtain⟨x,rfl,h2⟩:=aE2.1 h;injection h2 with h2;subst h2
  match vs,hc with
  | [u],hc=>exact⟨u,aJ.2 hc.1,fun h3=>absurd h3 hg,fun _=>rfl⟩
  |_::_::_,hc=>exact hc.2.elim
theorem aGR{P:Program}{t:Nat}{i:TI}(hi:Ty P t i){g off:Nat}{vs:List Value}{w:World}{u:Value}(hl:vs.length=i.sz)(hc:∀j v,vs[j]? =some v→w.cell? ⟨g,off+j,none⟩=some v)
  (h1:i.d.ag=true→u=.agg vs.toArray) (h2:i.d.ag=false→vs=[u]):(loadVar t ⟨g,off,none⟩).run P w=.ok u w:=by
 unfold loadVar;rw[Sem.run_bind,aAJ hi w];cases hg:i.d.ag with
 |true=>
  rw[h1 hg];simp only[Result.andThen_ok,if_true];rw[Sem.run_bind,jI hi w,Result.andThen_ok,Sem.run_bind,←hl,run_loadCells_list (P:=P) w ⟨g,off,none⟩ vs (fun j v hv=>by rw[add0];exact hc j v hv)];rfl
 |false=>
  have h3:=h2 hg;subst h3;have h4:=hc 0 u rfl;simp only[Result.andThen_ok,Bool.false_eq_true,if_false,run_load];rw[show (⟨g,off,none⟩:Addr)=⟨g,off+0,none⟩ from rfl,h4]
def aLC(F:Cf):Prop:=∀t a v,F.ro t a=some v→∀c:Cx,F.tb c.w→∃u,(loadVar t a).run F.P c.w=.ok u c.w∧VR c v u
theorem o_load{t:Nat}{x:Operand}(hro:aLC F)(hb:F.tb c.w)(hr:Rl c wb h)(ht:Tr c nt e a.tmps)(ho:o.op=.load t x)(hx:rW F e h t x=some (v,h')):∃u w',OpR F.P a.eval o c.w u w'∧Po c wb h' v u w':=by
 obtain⟨i,h1,h2⟩:=aB.1 hx;obtain⟨v1,h3,h4⟩:=aB.1 h2;obtain⟨s,rfl,h5⟩:=bE.1 h4;split at h5
 ·rename_i id off;obtain⟨l,h6,h7⟩:=aB.1 h5;obtain⟨v2,h8,h9⟩:=aB.1 h7;injection h9 with h9;injection h9 with h9 h10;subst h9;subst h10;obtain⟨hid,hp⟩:=aJ.1 (dP ht h3);obtain⟨vs,hc,hl,hcell⟩:=aH9 hr hid h6;obtain⟨u,hu,k1,k2⟩:=aIa h8 hc;refine⟨u,c.w,OpR.vl (s:=Instr.loadAt t (a.eval x)) (by unfold execOp;rw[ho]) ?_,Po.same hr hu⟩;simp only[hp,Instr.loadAt,Instr.sureAddr,Sem.run_bind,Sem.run_pure,Result.andThen_ok];exact aGR (bM h1) hl hcell k1 k2
 ·rename_i x1;unfold roL at h5;split at h5
  ·rename_i a1;obtain⟨v2,h6,h7⟩:=aB.1 h5;injection h7 with h7;injection h7 with h7 h8;subst h7;subst h8;have hp:a.eval x=.pointer (some a1):=(aJ.1 (dP ht h3)).1;obtain⟨u,hu,hv⟩:=hro t a1 v2 h6 c hb;refine⟨u,c.w,OpR.vl (s:=Instr.loadAt t (a.eval x)) (by unfold execOp;rw[ho]) ?_,Po.same hr hv⟩;simp only[hp,Instr.loadAt,Instr.sureAddr,Sem.run_bind,Sem.run_pure,Result.andThen_ok];exact hu
  ·cases h5
 ·cases h5
theorem aNW{t:Nat}{x y:Operand}(hr:Rl c wb h)(ht:Tr c nt e a.tmps)(ho:o.op=.store t x y)(hx:tT F e h t x y=some (v,h')):∃u w',OpR F.P a.eval o c.w u w'∧Po c wb h' v u w':=by
 obtain⟨n,h1,h2⟩:=aB.1 hx;obtain⟨i,hi,rfl⟩:=rY h1;obtain⟨v1,h3,h4⟩:=aB.1 h2;obtain⟨s,rfl,h5⟩:=bE.1 h4;split at h5
 ·rename_i id off;obtain⟨v2,h6,h7⟩:=aB.1 h5;obtain⟨g,l,rfl,h8⟩:=oD.1 h7;obtain⟨h9,h10⟩:=aH.1 h8;obtain⟨h2',h11,h12⟩:=aB.1 h10;injection h12 with h12;injection h12 with h12 h13;subst h12;subst h13;obtain⟨hid,hp⟩:=aJ.1 (dP ht h3);have hcl:=cells_ok (dP ht h6);rw[aY,iD]at h9;have hsz:(a.eval y).cells.size=i.sz:=(by rw[←h9,←hcl.len,Array.length_toList]);have he:execOp a.eval o=(do Instr.storeAt t (a.eval x) (a.eval y);pure Next.skip):=(by unfold execOp;rw[ho]);have hrun:∀w',(storeCells ⟨c.r id,off,none⟩ (a.eval y).cells.toList).run F.P c.w=.ok () w'→(Instr.storeAt t (a.eval x) (a.eval y)).run F.P c.w=.ok () w':=fun w' hw=>by
   simp only[hp,Instr.storeAt,Instr.sureAddr,Sem.run_bind,Sem.run_pure,Result.andThen_ok,storeVar,jI (bM hi),hsz,ne_eq,not_true_eq_false,if_false];exact hw
  by_cases hl:l=[]
  ·subst hl;have hem:(a.eval y).cells.toList=[]:=List.eq_nil_of_length_eq_zero (by rw[hcl.len];rfl);refine⟨undef,c.w,OpR.sk he (hrun _ (by rw[hem];rfl)),?_⟩;unfold wr at h11;obtain⟨g1,g2⟩:=aH.1 h11;obtain⟨b,g3,g4⟩:=aB.1 g2;obtain⟨nc,g5,g6⟩:=aB.1 g4;obtain⟨g7,g8⟩:=aH.1 g6;injection g8 with g8;subst g8;obtain⟨g9,rfl⟩:=uV.1 g5;have hb:(⟨b.ty,b.c.take off++[]++b.c.drop (off+([]:List SV).length)⟩:B)=b:=(by simp);unfold H.put;rw[hb];refine⟨c,rfl,Xt.refl c,⟨hr.n,hr.k,hr.q,fun j b2 hj=>?_,fun p j x d hi2 hj hx2 hd hij=>?_,fun j b2 hj k1 k2=>?_,hr.lp,hr.li⟩,uX⟩;all_goals
    have key:∀j b2,(T.set b h.h id).get j=some b2→h.h.get j=some b2:=fun j b2 hj=>by
     rcases T.get_set hj with⟨rfl,rfl⟩|⟨_,k⟩
     ·exact g3
     ·exact k
   ·exact hr.blk j b2 (key j b2 hj)
   ·exact hr.inj p j x d (key _ _ hi2) (key _ _ hj) hx2 hd hij
   ·exact hr.new j b2 (key _ _ hj) k1 k2
  ·obtain⟨d,X,R,hst,-,-⟩:=aM3 hr F.P hid h11 hcl hl;exact⟨undef,d.w,OpR.sk he (hrun _ hst),d,rfl,X,R,uX⟩
 ·cases h5
theorem aRq{x:Operand}(hr:Rl c wb h)(ht:Tr c nt e a.tmps)(ho:o.op=.nilCheck x)(hx:aC2 e h x=some (v,h')):∃u w',OpR F.P a.eval o c.w u w'∧Po c wb h' v u w':=by
 obtain⟨v1,h1,h2⟩:=aB.1 hx;obtain⟨s,rfl,h3⟩:=bE.1 h2;have hv:=aJ.1 (dP ht h1);refine⟨a.eval x,c.w,.inl ?_,?_⟩
 ·unfold execOp;rw[ho];split at h3
  ·simp only[hv.2];rfl
  ·simp only[hv.2];rfl
  ·simp only[hv.2];rfl
  ·cases h3
 ·split at h3<;>first
   |(injection h3 with h3
     injection h3 with h3 h4;subst h3;subst h4;exact Po.same hr (dP ht h1))
   |cases h3
end
end Go.Proofs.YthjhkhlafhjjmaaGreatDoor.E
namespace Go.Proofs.YthjhkhlafhjjmaaGreatDoor.E
open Go
section
variable {F:Cf} {call:dL} {e e':Env} {h h0:H}
theorem tY{o:Op}(k:∀x∈o.operands,ev e x=ev e' x):op1 F call o e h=op1 F call o e' h:=by
 cases o with
 |move x=>simp only[op1,jH,k x (by simp[Op.operands])]
 |assign x=>simp only[op1,jH,k x (by simp[Op.operands])]
 |pick c a d=>
  have h1:=k c (by simp[Op.operands]);have h2:=k a (by simp[Op.operands]);have h3:=k d (by simp[Op.operands]);have h4:∀x,ev e (cb x a d)=ev e' (cb x a d):=fun x=>by cases x<;>assumption
  simp only[op1,jH,uT,h1,h4]
 |alloc t=>rfl
 |box t x=>simp only[op1,jH,zD,k x (by simp[Op.operands])]
 |build t ps=>
  have h1:∀pl,parts pl e ps.toList=parts pl e' ps.toList:=fun pl=>aB0 fun p hp=>k p.2 (by simp only[Op.operands,List.mem_toArray,List.mem_map];exact⟨p,hp,rfl⟩);simp only[op1,jH,rF,h1]
 |buildSlice t n ps=>
  have h1:∀pl,parts pl e ps.toList=parts pl e' ps.toList:=fun pl=>aB0 fun p hp=>k p.2 (by simp only[Op.operands,List.mem_toArray,List.mem_map];exact⟨p,hp,rfl⟩);simp only[op1,jH,iM,h1]
 |load t x=>simp only[op1,jH,rW,k x (by simp[Op.operands])]
 |store t x y=>simp only[op1,jH,tT,k x (by simp[Op.operands]),k y (by simp[Op.operands])]
 |nilCheck x=>simp only[op1,jH,aC2,k x (by simp[Op.operands])]
 |binOp op t x y t2=>simp only[op1,jH,zF,k x (by simp[Op.operands]),k y (by simp[Op.operands])]
 |unOp op t x=>simp only[op1,jH,oUn,k x (by simp[Op.operands])]
 |convert s t x=>simp only[op1,jH,aAH,k x (by simp[Op.operands])]
 |makeFunc g x y=>
  have h1:evL e y.toList=evL e' y.toList:=aE0 fun z hz=>k z (by simp[Op.operands]<;>simp_all);simp only[op1,jH,xW,h1]
 |makeSlice t x y=>simp only[op1,jH,uU,k x (by simp[Op.operands]),k y (by simp[Op.operands])]
 |slice t x lo hi mx=>
  have h1:=k x (by simp[Op.operands]);have h2:∀(d:Nat) (f:Nat→Option VH),bound e lo d f=bound e' lo d f:=fun d f=>aB1 fun y hy=>k y (by simp[Op.operands,hy]);have h3:∀(d:Nat) (f:Nat→Option VH),bound e hi d f=bound e' hi d f:=fun d f=>aB1 fun y hy=>k y (by simp[Op.operands,hy]);simp only[op1,jH,lC,h1,h2,h3]
 |fieldAddr s x g=>simp only[op1,jH,oFA,k x (by simp[Op.operands])]
 |field s x g=>simp only[op1,jH,wT,k x (by simp[Op.operands])]
 |indexAddr t x y=>simp only[op1,jH,oIA,k x (by simp[Op.operands]),k y (by simp[Op.operands])]
 |index t x y=>simp only[op1,jH,oIx,k x (by simp[Op.operands]),k y (by simp[Op.operands])]
 |extract x i=>simp only[op1,jH,zG,k x (by simp[Op.operands])]
 |call c=>
  obtain⟨callee,xs,ats⟩:=c;have h1:evL e xs.toList=evL e' xs.toList:=aE0 fun z hz=>k z (by simp only[Op.operands,Call.operands,Array.mem_append];right;simpa using hz);cases callee with
  |value g=>
   have h2:=k g (by simp[Op.operands,Call.operands]);show (ob (ev e g) fun f=>ob (evL e xs.toList) fun l=>call f l h)=ob (ev e' g) fun f=>ob (evL e' xs.toList) fun l=>call f l h;rw[h1,h2]
  |invoke r m=>rfl
  |builtin b=>
   show (ob (evL e xs.toList) fun l=>bi F h b ats.toList l)=ob (evL e' xs.toList) fun l=>bi F h b ats.toList l;rw[h1]
 |_=>rfl
end
structure Fr0 (h h':H):Prop where
 bar:h'.bar=h.bar
 n:h.n≤h'.n
 b:∀id b,id<h.bar→h'.h.get id=some b→h.h.get id=some b
 lo:∀id b,id<h.bar→h'.l.get id=some b→h.l.get id=some b
 wb:(∀id b,h.h.get id=some b→id<h.n)→∀id b,h'.h.get id=some b→id<h'.n
 wl:(∀id b,h.l.get id=some b→id<h.n)→∀id b,h'.l.get id=some b→id<h'.n
theorem Fr0.refl(h:H):Fr0 h h:=⟨rfl,Nat.le_refl _,fun _ _ _ k=>k,fun _ _ _ k=>k,fun k=>k,fun k=>k⟩
theorem Fr0.trans{a c d:H}(p:Fr0 a c)(q:Fr0 c d):Fr0 a d:=
 ⟨q.bar.trans p.bar,Nat.le_trans p.n q.n,fun id b i k=>p.b id b i (q.b id b (p.bar▸i) k),fun id b i k=>p.lo id b i (q.lo id b (p.bar▸i) k),fun k=>q.wb (p.wb k),fun k=>q.wl (p.wl k)⟩
theorem Fr0.lift{h h':H}(p:Fr0 h.lift h')(hb:h.bar≤h.n):Fr0 h (h'.back h.bar):=
 ⟨rfl,p.n,fun id b i k=>p.b id b (Nat.lt_of_lt_of_le i hb) k,fun id b i k=>p.lo id b (Nat.lt_of_lt_of_le i hb) k,p.wb,p.wl⟩
section
variable {F:Cf} {h h':H} {v:AV}
theorem Fr0.nw{x:B}(hb:h.bar≤h.n):Fr0 h ⟨h.h.set x h.n,Nat.succ h.n,h.bar,h.l⟩:=
 ⟨rfl,Nat.le_succ _,fun id b i k=>by
  rcases T.get_set k with⟨rfl,-⟩|⟨-,k⟩
  ·exact absurd i (Nat.not_lt.2 hb)
  ·exact k,fun _ _ _ k=>k,fun k id b q=>by
  rcases T.get_set q with⟨rfl,-⟩|⟨-,q⟩
  ·exact Nat.lt_succ_self _
  ·exact Nat.lt_succ_of_lt (k id b q),fun k id b q=>Nat.lt_succ_of_lt (k id b q)⟩
theorem aRr{x:B}{f:Nat→H→Option VH}(hb:h.bar≤h.n)(hx:h.nw x f=some (v,h'))(k:∀g,f h.n g=some (v,h')→h'=g):Fr0 h h':=by
 unfold H.nw at hx;rw[bZ]at hx;rw[k _ hx];exact Fr0.nw hb
theorem Fr0.put{id:Nat}{x x0:B}(hb:h.bar≤id)(h0:h.h.get id=some x0):Fr0 h (h.put id x):=
 ⟨rfl,Nat.le_refl _,fun j b i k=>by
  rcases T.get_set k with⟨rfl,-⟩|⟨-,k⟩
  ·exact absurd i (Nat.not_lt.2 hb)
  ·exact k,fun _ _ _ k=>k,fun k j b q=>by
  rcases T.get_set q with⟨rfl,-⟩|⟨-,q⟩
  ·exact k _ _ h0
  ·exact k j b q,fun k=>k⟩
theorem Fr0.putLp{id:Nat}{x x0:Lp}(hb:h.bar≤id)(h0:h.l.get id=some x0):Fr0 h (h.putLp id x):=
 ⟨rfl,Nat.le_refl _,fun _ _ _ k=>k,fun j b i k=>by
  rcases T.get_set k with⟨rfl,-⟩|⟨-,k⟩
  ·exact absurd i (Nat.not_lt.2 hb)
  ·exact k,fun k=>k,fun k j b q=>by
  rcases T.get_set q with⟨rfl,-⟩|⟨-,q⟩
  ·exact k _ _ h0
  ·exact k j b q⟩
theorem aM4{id off:Nat}{l:List SV}(hx:wr h id off l=some h'):Fr0 h h':=by
 unfold wr at hx;obtain⟨h1,hx⟩:=aH.1 hx;obtain⟨b,h0,hx⟩:=aB.1 hx;obtain⟨c,-,hx⟩:=aB.1 hx;obtain⟨-,hx⟩:=aH.1 hx;cases hx;exact Fr0.put (fA.1 h1) h0
theorem aGS{e:Env}{t:Nat}{a:Operand}(hx:rW F e h t a=some (v,h')):h'=h:=by
 unfold rW at hx;obtain⟨i,-,hx⟩:=aB.1 hx;obtain⟨u,-,hx⟩:=aB.1 hx;obtain⟨s,-,hx⟩:=bE.1 hx;split at hx
 ·obtain⟨c,-,hx⟩:=aB.1 hx;obtain⟨u,-,hx⟩:=aB.1 hx;cases hx;rfl
 ·unfold roL at hx;split at hx
  ·obtain⟨u,-,hx⟩:=aB.1 hx;cases hx;rfl
  ·cases hx
 ·cases hx
theorem aAK{x:B}{g:Nat→SV}(hb:h.bar≤h.n)(hx:(h.nw x fun a h=>vh (g a) h)=some (v,h')):Fr0 h h':=aRr hb hx fun g k=>by cases k;rfl
theorem aLD{t:Nat}(hb:h.bar≤h.n)(hx:tQ F h t=some (v,h')):Fr0 h h':=by
 unfold tQ at hx;obtain⟨i,-,hx⟩:=aB.1 hx;exact aAK hb hx
theorem aPN{e:Env}{t:Nat}{x:Operand}(hb:h.bar≤h.n)(hx:zD e h t x=some (v,h')):Fr0 h h':=by
 unfold zD at hx;obtain⟨u,-,hx⟩:=aB.1 hx;cases u with
 |t l=>cases hx
 |c g l=>exact aAK hb hx
theorem aD4{e:Env}{t n:Nat}{ps:List (Nat × Operand)}(hb:h.bar≤h.n)(hx:iM F e h t n ps=some (v,h')):Fr0 h h':=by
 unfold iM at hx;obtain⟨i,-,hx⟩:=aB.1 hx;obtain⟨el,-,hx⟩:=aB.1 hx;obtain⟨j,-,hx⟩:=aB.1 hx;obtain⟨-,hx⟩:=aH.1 hx;obtain⟨c,-,hx⟩:=aB.1 hx;exact aAK hb hx
theorem aGT{α:Type}{x:SV}{k:Nat→Option α}{y:α}(hx:natOf x k=some y):∃n,k n=some y:=by
 cases x with
 |i j n=>cases n with
  |ofNat n=>exact⟨n,hx⟩
  |negSucc n=>cases hx
 |_=>cases hx
theorem aNX{e:Env}{t:Nat}{x y:Operand}(hb:h.bar≤h.n)(hx:uU F e h t x y=some (v,h')):Fr0 h h':=by
 unfold uU at hx;obtain⟨i,-,hx⟩:=aB.1 hx;obtain⟨el,-,hx⟩:=aB.1 hx;obtain⟨j,-,hx⟩:=aB.1 hx;obtain⟨u,-,hx⟩:=aB.1 hx;obtain⟨s,-,hx⟩:=bE.1 hx;obtain⟨n,hx⟩:=aGT hx;obtain⟨u,-,hx⟩:=aB.1 hx;obtain⟨s,-,hx⟩:=bE.1 hx;obtain⟨m,hx⟩:=aGT hx;obtain⟨-,hx⟩:=aH.1 hx;obtain⟨-,hx⟩:=aH.1 hx;obtain⟨-,hx⟩:=aH.1 hx;exact aAK hb hx
theorem aLE{e:Env}{t:Nat}{x y:Operand}(hx:tT F e h t x y=some (v,h')):Fr0 h h':=by
 unfold tT at hx;obtain⟨z,-,hx⟩:=aB.1 hx;obtain⟨u,-,hx⟩:=aB.1 hx;obtain⟨s,-,hx⟩:=bE.1 hx;split at hx
 ·obtain⟨u,-,hx⟩:=aB.1 hx;cases u with
  |t l=>cases hx
  |c g l=>
   obtain⟨-,hx⟩:=aH.1 hx;obtain⟨g,h1,hx⟩:=aB.1 hx;cases hx;exact aM4 h1
 ·cases hx
theorem aPO{k el:Nat}{x:List SV}{g:Nat→SV}(hb:h.bar≤h.n)(hx:(h.cut k el x fun a h=>vh (g a) h)=some (v,h')):Fr0 h h':=by
 unfold H.cut at hx;obtain⟨b,h0,hx⟩:=aB.1 hx;obtain⟨-,hx⟩:=aH.1 hx;obtain⟨-,hx⟩:=cbn.1 hx;obtain⟨-,hx⟩:=aH.1 hx;obtain⟨h1,hx⟩:=aH.1 hx;rw[bZ]at hx;cases hx;have h1:=fA.1 h1;exact⟨rfl,Nat.le_succ _,fun id b i q=>by
  rcases T.get_set q with⟨rfl,-⟩|⟨-,q⟩
  ·exact absurd i (Nat.not_lt.2 hb)
  ·rcases T.get_set q with⟨rfl,-⟩|⟨-,q⟩
   ·exact absurd i (Nat.not_lt.2 h1)
   ·exact q,fun _ _ _ q=>q,fun w id b q=>by
  rcases T.get_set q with⟨rfl,-⟩|⟨-,q⟩
  ·exact Nat.lt_succ_self _
  ·rcases T.get_set q with⟨rfl,-⟩|⟨-,q⟩
   ·exact Nat.lt_succ_of_lt (w _ _ h0)
   ·exact Nat.lt_succ_of_lt (w id b q),fun w id b q=>Nat.lt_succ_of_lt (w id b q)⟩
theorem aGU{α:Type}{x:SV}{k:Nat→Option α}{y:α}(hx:lenOf x k=some y):∃n,k n=some y:=by
 cases x with
 |s l=>exact⟨_,hx⟩
 |ns=>exact⟨_,hx⟩
 |sl a b n c=>exact⟨_,hx⟩
 |_=>cases hx
theorem aNY{el:Nat}{j:TI}{s x:SV}(hb:h.bar≤h.n)(hx:zH h el j s x=some (v,h')):Fr0 h h':=by
 unfold zH at hx;obtain⟨n,hx⟩:=aGU hx;obtain⟨m,hx⟩:=aGU hx;obtain⟨nw,-,hx⟩:=aB.1 hx;obtain⟨old,-,hx⟩:=aB.1 hx;obtain⟨-,hx⟩:=aH.1 hx;obtain⟨-,hx⟩:=aH.1 hx;obtain⟨-,hx⟩:=aH.1 hx;obtain⟨-,hx⟩:=aH.1 hx;obtain⟨-,hx⟩:=aH.1 hx;obtain⟨-,hx⟩:=aH.1 hx;split at hx
 ·rw[cK]at hx;split at hx
  ·obtain⟨-,hx⟩:=aH.1 hx;obtain⟨b,-,hx⟩:=aB.1 hx;obtain⟨-,hx⟩:=aH.1 hx;obtain⟨g,h1,hx⟩:=aB.1 hx;cases hx;exact aM4 h1
  ·exact aAK hb hx
 ·obtain⟨-,hx⟩:=aH.1 hx;exact aPO hb hx
 ·exact aAK hb hx
 ·cases hx
theorem aRs{b:Builtin}{ats:List Nat}{l:List AV}(hb:h.bar≤h.n)(hx:bi F h b ats l=some (v,h')):Fr0 h h':=by
 cases b with
 |len=>
  have:h'=h:=by
    refine Pm.got (y:=bi F h .len ats l) ?_ hx;unfold bi;dsimp only
    repeat' (first|exact rfl|exact aJu|exact Pm.no|exact Pm.ye|exact Pm.vh|refine Pm.ob fun _=>?_|refine Pm.cb ?_ ?_|refine Pm.one fun _=>?_|refine Pm.agg fun _=>?_|refine Pm.natOf fun _=>?_|refine Pm.bound fun _=>?_|refine Pm.chk ?_|refine Pm.opt ?_ fun _=>?_|split)
  rw[this];exact Fr0.refl h
 |min=>obtain⟨u,-,hx⟩:=aB.1 hx;cases hx;exact Fr0.refl h
 |max=>obtain⟨u,-,hx⟩:=aB.1 hx;cases hx;exact Fr0.refl h
 |append=>
  unfold bi at hx;dsimp only at hx;split at hx
  ·obtain⟨i,-,hx⟩:=aB.1 hx;obtain⟨el,-,hx⟩:=aB.1 hx;obtain⟨-,hx⟩:=aH.1 hx;obtain⟨j,-,hx⟩:=aB.1 hx;obtain⟨s,-,hx⟩:=bE.1 hx;obtain⟨x,-,hx⟩:=bE.1 hx;exact aNY hb hx
  ·cases hx
 |_=>cases hx
def fT(call:dL):Prop:=∀(f:AV) (l:List AV) (h:H) (v:AV) (h':H),h.bar≤h.n→call f l h=some (v,h')→Fr0 h h'
theorem aB6{call:dL}{o:Op}{e:Env}(hc:fT call)(hb:h.bar≤h.n)(hx:op1 F call o e h=some (v,h')):Fr0 h h':=by
 have pure:∀{x y:Option VH},Pm h x y→x=some (v,h')→Fr0 h h':=fun k hx=>by rw[Pm.got k hx];exact Fr0.refl h
 cases o with
 |move x=>obtain⟨u,-,hx⟩:=aB.1 hx;cases hx;exact Fr0.refl h
 |assign x=>obtain⟨u,-,hx⟩:=aB.1 hx;cases hx;exact Fr0.refl h
 |pick c a d=>exact pure (aGM (h0:=h)) hx
 |alloc t=>exact aLD hb hx
 |box t x=>exact aPN hb hx
 |build t ps=>exact pure (aEX (h0:=h)) hx
 |buildSlice t n ps=>exact aD4 hb hx
 |load t x=>rw[aGS hx];exact Fr0.refl h
 |store t x y=>exact aLE hx
 |nilCheck x=>exact pure (aJs (h0:=h)) hx
 |binOp op t x y t2=>exact pure (aJt (h0:=h)) hx
 |unOp op t x=>exact pure (aMZ (h0:=h)) hx
 |convert s t x=>exact pure (aGN (h0:=h)) hx
 |makeFunc g x y=>exact pure (aGO (h0:=h)) hx
 |makeSlice t x y=>exact aNX hb hx
 |slice t x lo hi mx=>exact pure (aEY (h0:=h)) hx
 |fieldAddr s x g=>exact pure (aM0 (h0:=h)) hx
 |field s x g=>exact pure (aEZ (h0:=h)) hx
 |indexAddr t x y=>exact pure (aM1 (h0:=h)) hx
 |index t x y=>exact pure (aM2 (h0:=h)) hx
 |extract x i=>exact pure (aJw (h0:=h)) hx
 |call c=>
  obtain⟨callee,xs,ats⟩:=c;cases callee with
  |value g=>
   obtain⟨f,-,hx⟩:=aB.1 hx;obtain⟨l,-,hx⟩:=aB.1 hx;exact hc _ _ _ _ _ hb hx
  |invoke r m=>cases hx
  |builtin b=>
   obtain⟨l,-,hx⟩:=aB.1 hx;exact aRs hb hx
 |_=>cases hx
end
end Go.Proofs.YthjhkhlafhjjmaaGreatDoor.E
namespace Go.Proofs.YthjhkhlafhjjmaaGreatDoor.E
open Go
def xY(ex:eZ):Prop:=∀(q:Bool) (nt fn:Nat) (c:Code) (e:Env) (h:H) (r:R),h.bar≤h.n→ex q nt fn c e h=some r→Fr0 h r.h
theorem Fr0.le{h h':H}(p:Fr0 h h')(hb:h.bar≤h.n):h'.bar≤h'.n:=by rw[p.bar];exact Nat.le_trans hb p.n
section
variable {F:Cf} {ex:eZ} {h h':H} {v:AV} {nt:Nat} {call:dL} {ops:List Oper} {e:Env} {r:R}
theorem aAL{α:Type}{d:Option Nat}{k:Env→Option α}{y:α}(hx:put nt e d v k=some y):∃e,k e=some y:=by
 cases d with
 |none=>exact⟨_,hx⟩
 |some d=>exact⟨_,(aH.1 hx).2⟩
theorem aGV{rest:Env→H→Option R}{o:Oper}(hc:fT call)(hr:∀e h r,h.bar≤h.n→rest e h=some r→Fr0 h r.h)(hb:h.bar≤h.n)(hx:pI F nt call ops rest o e h=some r):Fr0 h r.h:=by
 obtain⟨w,-,hx⟩:=aB.1 hx;cases w with
 |true=>
  obtain⟨⟨u,g⟩,h1,hx⟩:=aB.1 (show (ob (op1 F call o.op e h) fun r=>put nt e o.dst r.1 fun e=>rest e r.2)=some r from hx);obtain⟨e,hx⟩:=aAL hx;have:=aB6 hc hb h1;exact this.trans (hr _ _ _ (this.le hb) hx)
 |false=>
  obtain⟨e,hx⟩:=aAL (show put nt e o.dst un (fun e=>rest e h)=some r from hx);exact hr _ _ _ hb hx
theorem aJB{l:List Oper}(hc:fT call):∀{e:Env} {h:H} {r:R},h.bar≤h.n→nZ F nt call ops l e h=some r→Fr0 h r.h:=by
 induction l with
 |nil=>intro e h r hb hx;cases hx;exact Fr0.refl h
 |cons o l ih=>intro e h r hb hx;exact aGV hc (fun e h r=>ih) hb hx
theorem aJC{k:Option R}{l:List Nat}(hx:again F ops e h k l=some r):k=some r:=by
 induction l with
 |nil=>exact hx
 |cons j l ih=>
  obtain⟨o,-,hx⟩:=aB.1 hx;split at hx
  ·exact ih hx
  ·obtain⟨d,-,hx⟩:=aB.1 hx;obtain⟨v,-,hx⟩:=aB.1 hx;obtain⟨u,-,hx⟩:=aB.1 hx;obtain⟨-,hx⟩:=aH.1 hx;exact ih (aH.1 hx).2
  ·obtain⟨d,-,hx⟩:=aB.1 hx;obtain⟨v,-,hx⟩:=aB.1 hx;obtain⟨u,-,hx⟩:=aB.1 hx;obtain⟨-,hx⟩:=aH.1 hx;exact ih (aH.1 hx).2
  ·cases hx
theorem aNZ{l:List (Nat × List Nat)}(hc:fT call):∀{e:Env} {h:H} {r:R},h.bar≤h.n→aBs F nt call ops l e h=some r→Fr0 h r.h:=by
 induction l with
 |nil=>intro e h r hb hx;cases hx;exact Fr0.refl h
 |cons p l ih=>
  intro e h r hb hx;obtain⟨o,-,hx⟩:=aB.1 hx;exact aGV hc (fun e h r hb hx=>ih hb (aJC hx)) hb hx
theorem aN0{l:List Nat}{b:Nat}{k:Env→H→Option R}(hc:fT call)(hk:∀e h r,h.bar≤h.n→k e h=some r→Fr0 h r.h):
  ∀{e:Env} {h:H} {r:R},b≤h.n→zI F nt call ops b k l e h=some r→Fr0 (h.back b) r.h:=by
 induction l with
 |nil=>intro e h r hb hx;exact hk _ _ _ hb hx
 |cons i l ih=>
  intro e h r hb hx;obtain⟨o,-,hx⟩:=aB.1 hx;obtain⟨w,-,hx⟩:=aB.1 hx;cases w with
  |true=>
   obtain⟨⟨u,g⟩,h1,hx⟩:=aB.1 (show (ob (op1 F call o.op e h.lift) fun r=>put nt e o.dst r.1 fun e=>zI F nt call ops b k l e r.2)=some r from hx);obtain⟨e,hx⟩:=aAL hx;have h2:=aB6 hc (Nat.le_refl _) h1;have h3:=ih (Nat.le_trans hb h2.n) hx;exact (Fr0.lift (h:=h.back b) h2 hb).trans h3
  |false=>
   obtain⟨e,hx⟩:=aAL (show put nt e o.dst un (fun e=>zI F nt call ops b k l e h.lift)=some r from hx);exact ih (h:=h.lift) hb hx
theorem aN1{ops:Array Oper}{p:List Nat × List (Nat × List Nat)}(hc:fT call)(hb:h.bar≤h.n)(hx:vU F nt call ops p e h=some r):Fr0 h r.h:=by
 obtain⟨-,hx⟩:=aH.1 hx;rw[bZ]at hx;exact aN0 hc (fun e h r=>aNZ hc) hb hx
theorem aE3{G:Func}{c:Code}{fn:Nat}{args:List AV}(hex:xY ex)(hb:h.bar≤h.n)(hx:nD F ex G c fn args h=some (v,h')):Fr0 h h':=by
 obtain⟨e,-,hx⟩:=aB.1 hx;obtain⟨r,h1,hx⟩:=aB.1 hx;have h2:=hex _ _ _ _ _ _ _ hb h1;obtain⟨x,e,g⟩:=r;cases x with
 |x id=>cases hx
 |n=>obtain⟨l,-,hx⟩:=aB.1 (show (ob (res F e g G.results.toList) fun l=>some (tup l,g))=some (v,h') from hx);cases hx;exact h2
 |r=>obtain⟨l,-,hx⟩:=aB.1 (show (ob (res F e g G.results.toList) fun l=>some (tup l,g))=some (v,h') from hx);cases hx;exact h2
theorem aDL{fn:Nat}{args:List AV}(hex:xY ex)(hb:h.bar≤h.n)(hx:iI F ex fn args h=some (v,h')):Fr0 h h':=by
 obtain⟨G,-,hx⟩:=aB.1 hx;obtain⟨c,-,hx⟩:=aB.1 hx;cases hp:F.pr fn with
 |none=>
  rw[hp]at hx;have hx:Option.rec (motive:=fun _=>Option VH) (nD F ex G c fn args h) (fun g=>Option.rec (motive:=fun _=>Option VH) (nD F ex G c fn args h) (fun v=>some (v,h)) (g h args)) (F.ph fn)=some (v,h'):=hx;cases hq:F.ph fn with
  |none=>rw[hq]at hx;exact aE3 hex hb hx
  |some g=>
   rw[hq]at hx;have hx:Option.rec (motive:=fun _=>Option VH) (nD F ex G c fn args h) (fun v=>some (v,h)) (g h args)=some (v,h'):=hx;cases hv:g h args with
   |none=>rw[hv]at hx;exact aE3 hex hb hx
   |some v1=>
    rw[hv]at hx;have hx:some (v1,h)=some (v,h'):=hx;injection hx with h6;injection h6 with h6 h7;subst h7;exact Fr0.refl h
 |some g=>
  rw[hp]at hx;obtain⟨u,-,hx⟩:=aB.1 hx;cases hx;exact Fr0.refl h
theorem vV{l:Nat}{b:Bool}{pd:Option Code}(hx:pJ l b pd h=some (v,h')):Fr0 h h':=by
 obtain⟨p,h0,hx⟩:=aB.1 hx;obtain⟨-,hx⟩:=cbn.1 hx;obtain⟨h1,hx⟩:=aH.1 hx;cases hx;exact Fr0.putLp (fA.1 h1) h0
theorem aGn{l:Nat}(hx:roundEnd l r=some (v,h')):Fr0 r.h h':=by
 obtain⟨x,e,g⟩:=r;cases x with
 |n=>exact vV hx
 |r=>exact vV hx
 |x id=>exact vV hx
theorem aLF{l:Nat}{args:List AV}(hex:xY ex)(hb:h.bar≤h.n)(hx:aH6 ex l args h=some (v,h')):Fr0 h h':=by
 obtain⟨p,-,hx⟩:=aB.1 hx;obtain⟨-,hx⟩:=cbn.1 hx;obtain⟨e,-,hx⟩:=aB.1 hx;obtain⟨⟨x,e,g⟩,h1,hx⟩:=aB.1 hx;have h2:=hex _ _ _ _ _ _ _ hb h1;cases x with
 |r=>cases hx
 |x id=>cases hx
 |n=>
  obtain⟨p',h0,hx⟩:=aB.1 hx;obtain⟨-,hx⟩:=cbn.1 hx;obtain⟨h3,hx⟩:=aH.1 hx;obtain⟨-,hx⟩:=aH.1 hx;obtain⟨-,hx⟩:=aH.1 hx;obtain⟨r,h4,hx⟩:=aB.1 hx;have h5:Fr0 g (g.putLp l {p' with st:=false}):=Fr0.putLp (fA.1 h3) h0;have h6:=hex _ _ _ _ _ _ _ (h5.le (h2.le hb)) h4;exact h2.trans (h5.trans (h6.trans (aGn hx)))
theorem vW(hex:xY ex):fT (dU F ex):=by
 intro f l h v h' hb hx;obtain⟨s,-,hx⟩:=bE.1 hx;split at hx
 ·exact aDL hex hb hx
 ·exact aLF hex hb hx
 ·cases hx
theorem aJD{q:Bool}{fn:Nat}{f:AV}{ps:List Tmp}{cs bd:Code}(hex:xY ex)(hb:h.bar≤h.n)(hx:aBW F ex q nt fn f ps cs bd e h=some r):Fr0 h r.h:=by
 obtain⟨-,hx⟩:=cbn.1 hx;rw[bZ]at hx;obtain⟨s,-,hx⟩:=bE.1 hx;split at hx
 ·obtain⟨⟨u,g⟩,h1,hx⟩:=aB.1 hx;have h0:Fr0 h ⟨h.h,Nat.succ h.n,h.bar,h.l.set ⟨fn,nt,e,ps,cs,bd,true,none,false⟩ h.n⟩:=⟨rfl,Nat.le_succ _,fun _ _ _ k=>k,fun j b i k=>by
   rcases T.get_set k with⟨rfl,-⟩|⟨-,k⟩
   ·exact absurd i (Nat.not_lt.2 hb)
   ·exact k,fun k id b q=>Nat.lt_succ_of_lt (k id b q),fun k id b q=>by
   rcases T.get_set q with⟨rfl,-⟩|⟨-,q⟩
   ·exact Nat.lt_succ_self _
   ·exact Nat.lt_succ_of_lt (k id b q)⟩
  have h2:=h0.trans (aDL hex (h0.le hb) h1);obtain⟨p,h9,hx⟩:=aB.1 hx;obtain⟨-,hx⟩:=cbn.1 hx;obtain⟨h3,hx⟩:=aH.1 hx;obtain⟨-,hx⟩:=aH.1 hx;have h4:Fr0 g (g.putLp h.n {p with dd:=true}):=Fr0.putLp (fA.1 h3) h9;have h5:=h2.trans h4;split at hx
  ·cases hx;exact h5
  ·cases hx;exact h5
  ·cases hx;exact h5
  ·cases hx
 ·cases hx
theorem aLG(hex:xY ex):xY (aBY F ex):=by
 intro q nt fn c e h r hb hx;have seq:∀{c:Code} {r1:R},Fr0 h r1.h→pK ex q nt fn c r1=some r→Fr0 h r.h:=by
  intro c r1 k hx;obtain⟨x,e,g⟩:=r1;cases x with
  |n=>exact k.trans (hex _ _ _ _ _ _ _ (k.le hb) hx)
  |r=>cases hx;exact k
  |x id=>cases hx;exact k
 cases c with
 |skip=>cases hx;exact Fr0.refl h
 |label l=>cases hx;exact Fr0.refl h
 |region id ops dr=>
  have hx:cb dr (ob (F.pl fn id) fun p=>vU F nt (dU F ex) ops p e h) (nZ F nt (dU F ex) ops.toList ops.toList e h)=some r:=hx;cases dr with
  |false=>exact aJB (vW hex) hb hx
  |true=>
   obtain⟨p,-,hx⟩:=aB.1 (show (ob (F.pl fn id) fun p=>vU F nt (dU F ex) ops p e h)=some r from hx);exact aN1 (vW hex) hb hx
 |seq a b=>
  obtain⟨r1,h1,hx⟩:=aB.1 (show (ob (ex q nt fn a e h) (pK ex q nt fn b))=some r from hx);exact seq (hex _ _ _ _ _ _ _ hb h1) hx
 |cond c a b=>
  obtain⟨u,-,hx⟩:=aB.1 (show (ob (ev e c) fun v=>one v (aBX ex q nt fn a b e h))=some r from hx);obtain⟨s,-,hx⟩:=bE.1 hx;cases s with
  |b x=>exact hex _ _ _ _ _ _ _ hb hx
  |_=>cases hx
 |block id a=>
  obtain⟨⟨x,e1,g⟩,h1,hx⟩:=aB.1 (show (ob (ex q nt fn a e h) (zJ id))=some r from hx);have h2:=hex _ _ _ _ _ _ _ hb h1;cases x with
  |n=>cases hx;exact h2
  |r=>cases hx;exact h2
  |x j=>
   have hx:cb (Nat.beq id j) (some (R.mk .n e1 g)) (some ⟨.x j,e1,g⟩)=some r:=hx;rw[cK]at hx;split at hx<;>cases hx<;>exact h2
 |loop a=>
  obtain⟨r1,h1,hx⟩:=aB.1 (show (ob (ex q nt fn a e h) (pK ex q nt fn (.loop a)))=some r from hx);exact seq (hex _ _ _ _ _ _ _ hb h1) hx
 |scope a=>exact hex _ _ _ _ _ _ _ hb hx
 |rangeFunc f ps cs bd=>
  obtain⟨u,-,hx⟩:=aB.1 (show (ob (ev e f) fun f=>aBW F ex q nt fn f ps.toList cs bd e h)=some r from hx);exact aJD hex hb hx
 |exit id=>cases hx;exact Fr0.refl h
 |ret=>cases hx;exact Fr0.refl h
 |_=>cases hx
theorem aN2(F:Cf)(m:Nat):xY (exec F m):=by
 induction m with
 |zero=>intro q nt fn c e h r hb hx;cases hx
 |succ m ih=>exact aLG ih
end
end Go.Proofs.YthjhkhlafhjjmaaGreatDoor.E
