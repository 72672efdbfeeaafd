/- The laws of a ring, of values and of derivatives hold for poly's functions. No condition. -/
import Derived.Test.YthjhkhlafhjjmaaGreatDoorQa07
namespace Go.Proofs.YthjhkhlafhjjmaaGreatDoor.E
open Go Go.RowKit
open Ma Me K
section
variable {F:Cf} {β:Nat} {h0 h h':H} {e:Env} {s:List (Nat × AV)} {ws:List (Nat × B)} {ls:List (AV × List Rat)} {ps:List (AV × Rat)} {v u:AV} {xs:List Rat} {q:Rat} {C:Env→H→Prop} {d t:Nat} {i:TI} {x y:Operand} {Q:AV→H→Prop}
theorem aM(hS:St β h0 e s h ws ls ps)(hx:evs s x=some v)(k:Q v h):Xop F (.move x) e h Q:=
 .now (fun _=>by show ob (ev e x) (fun v=>some (v,h))=_;rw[aN hS.k hx];rfl) k
theorem bK(hS:St β h0 e s h ws ls ps)(hx:evs s x=some v)(k:Q v h):Xop F (.assign x) e h Q:=
 .now (fun _=>by show ob (ev e x) (fun v=>some (v,h))=_;rw[aN hS.k hx];rfl) k
theorem aT{op:BinOp}{t2:TypeId}{a c r:SV}(hS:St β h0 e s h ws ls ps)(ht:F.ti t=some i)(hg:i.d.ag=false)(hx:evs s x=some (sc a))(hy:evs s y=some (sc c))(hb:bop i.d op a c=some r)(k:Q (sc r) h):Xop F (.binOp op t x y t2) e h Q:=
 .now (fun _=>by
  show zF F e h op t x y=_;unfold zF;rw[ht,aN hS.k hx,aN hS.k hy];show cb i.d.ag _ (ob (bop i.d op a c) fun r=>vh r h)=_;rw[hg,hb];rfl) k
theorem aG8{n:Nat}(h:n<9223372036854775808):mkI .i64 n=some (.i .i64 (.ofNat n)):=by
 unfold mkI;rw[bZ,bV.2 (show n<lim .i64 from h)];rfl
theorem sS{n:Int}(h1:-9223372036854775808≤n)(h2:n<9223372036854775808):mkZ .i64 n=some (.i .i64 n):=by
 unfold mkZ;rw[wW];have e:IntKind.i64.wrap n=n:=by rw[IntKind.wrap_i64];omega
 rw[e]
theorem iJ{dd:Dk}{a c:Int}(h1:-9223372036854775808≤a+c)(h2:a+c<9223372036854775808):bop dd .add (.i .i64 a) (.i .i64 c)=some (.i .i64 (a+c)):=by
 show cb (decide (IntKind.i64=IntKind.i64)) (aLt .i64 a c) none=_;rw[show decide (IntKind.i64=IntKind.i64)=true from rfl];show aLt .i64 a c=_;cases a with
 |ofNat a=>
  cases c with
  |ofNat c=>
   have h2:(a:Int)+(c:Int)<9223372036854775808:=h2;exact aG8 (n:=Nat.add a c) (by show a+c<_;omega)
  |negSucc c=>exact sS h1 h2
 |negSucc a=>exact sS h1 h2
theorem qK{dd:Dk}{a c:Int}(h1:-9223372036854775808≤a-c)(h2:a-c<9223372036854775808):bop dd .sub (.i .i64 a) (.i .i64 c)=some (.i .i64 (a-c)):=by
 show cb (decide (IntKind.i64=IntKind.i64)) (aLu .i64 a c) none=_;rw[show decide (IntKind.i64=IntKind.i64)=true from rfl];show aLu .i64 a c=_;cases a with
 |ofNat a=>
  cases c with
  |ofNat c=>
   show cb (Nat.ble c a) (mkI .i64 (Nat.sub a c)) (mkZ .i64 ((a:Int)-(c:Int)))=_;have h2:(a:Int)-(c:Int)<9223372036854775808:=h2;cases hb:Nat.ble c a with
   |true=>
    have hle:=fA.1 hb;refine (aG8 (n:=Nat.sub a c) (by show a-c<_;omega)).trans ?_;show some (SV.i .i64 ((a-c:Nat):Int))=some (SV.i .i64 ((a:Int)-(c:Int)));rw[Int.ofNat_sub hle]
   |false=>exact sS h1 h2
  |negSucc c=>exact sS h1 h2
 |negSucc a=>exact sS h1 h2
theorem aAS{dd:Dk}{op:BinOp}{kk:IntKind}{a c:Int}{r:Bool}(h:iop op kk a c=some (.b r)):bop dd op (.i kk a) (.i kk c)=some (.b r):=by
 show cb (decide (kk=kk)) (iop op kk a c) none=_;rw[decide_eq_true rfl];exact h
theorem aLZ{dd:Dk}{kk:IntKind}{a c:Int}:bop dd .lss (.i kk a) (.i kk c)=some (.b (decide (a<c))):=aAS (by show bo (iLt a c)=_;rw[lF];rfl)
theorem aL0{dd:Dk}{kk:IntKind}{a c:Int}:bop dd .gtr (.i kk a) (.i kk c)=some (.b (decide (c<a))):=aAS (by show bo (iLt c a)=_;rw[lF];rfl)
theorem aSA{dd:Dk}{kk:IntKind}{a c:Int}:bop dd .leq (.i kk a) (.i kk c)=some (.b (decide (a≤c))):=aAS (by
 show bo (gD (iLt c a))=_;rw[lF,show gD (decide (c<a))=decide (a≤c) from by by_cases h:c<a<;>simp[h,gD,cb]<;>omega];rfl)
theorem aL1{dd:Dk}{kk:IntKind}{a c:Int}:bop dd .geq (.i kk a) (.i kk c)=some (.b (decide (c≤a))):=aAS (by
 show bo (gD (iLt a c))=_;rw[lF,show gD (decide (a<c))=decide (c≤a) from by by_cases h:a<c<;>simp[h,gD,cb]<;>omega];rfl)
theorem aL2{dd:Dk}{kk:IntKind}{a c:Int}:bop dd .eql (.i kk a) (.i kk c)=some (.b (decide (a=c))):=aAS (by show bo (iEq a c)=_;rw[uA];rfl)
theorem aL3{dd:Dk}{kk:IntKind}{a c:Int}:bop dd .neq (.i kk a) (.i kk c)=some (.b (decide (a≠c))):=aAS (by
 show bo (gD (iEq a c))=_;rw[uA,show gD (decide (a=c))=decide (a≠c) from by by_cases h:a=c<;>simp[h,gD,cb]];rfl)
theorem jP{c a d:Operand}{b:Bool}(hS:St β h0 e s h ws ls ps)(hc:evs s c=some (sc (.b b)))(hv:evs s (cb b a d)=some v)(k:Q v h):Xop F (.pick c a d) e h Q:=
 .now (fun _=>by show uT e h c a d=_;unfold uT;rw[aN hS.k hc];show ob (ev e (cb b a d)) _=_;rw[aN hS.k hv];rfl) k
theorem vC{t:Nat}{b:Bool}(hS:St β h0 e s h ws ls ps)(hx:evs s x=some (sc (.b b)))(k:Q (sc (.b (gD b))) h):Xop F (.unOp .not t x) e h Q:=
 .now (fun _=>by show oUn e h .not x=_;unfold oUn;rw[aN hS.k hx];rfl) k
theorem aFi{t:Nat}{i:TI}{el:Nat}{sv:SV}{n:Nat}(ht:F.ti t=some i)(hd:i.d=.sl el)(hn:(sv=.ns∧n=0)∨(∃id off c,sv=.sl id off n c)∨∃a c,sv=.v (.slice (some a) n c)):bi F h .len [t] [sc sv]=some (sc (.i .i64 (n:Int)),h):=by
 show ob (F.ti t) (fun i=>one (sc sv) fun s=>(match i.d,s with| .str,.s l=>vh (.i .i64 (.ofNat (len l))) h| .sl _,.ns=>vh (.i .i64 0) h| .sl _,.sl _ _ n _=>vh (.i .i64 (.ofNat n)) h| .sl _,.v x=>roN h x| .sl _,.m n=>ob (F.ln n) fun k=>vh (.i .i64 (.ofNat k)) h|_,_=>none))=_;rw[ht];show (match i.d,sv with| .str,.s l=>vh (.i .i64 (.ofNat (len l))) h| .sl _,.ns=>vh (.i .i64 0) h| .sl _,.sl _ _ n _=>vh (.i .i64 (.ofNat n)) h| .sl _,.v x=>roN h x| .sl _,.m n=>ob (F.ln n) fun k=>vh (.i .i64 (.ofNat k)) h|_,_=>none)=_;rw[hd];rcases hn with⟨rfl,rfl⟩|⟨id,off,c,rfl⟩|⟨a,c,rfl⟩<;>rfl
theorem zW{b:Builtin}{xs:Array Operand}{ats:Array TypeId}{args:List AV}(hS:St β h0 e s h ws ls ps)(ha:aBz s xs.toList=some args)(hb:bi F h b ats.toList args=some (v,h'))(k:Q v h'):Xop F (.call {callee:=.builtin b,args:=xs,argTypes:=ats}) e h Q:=
 .now (fun _=>by
  show ob (evL e xs.toList) (fun l=>bi F h b ats.toList l)=_;rw[aAR hS.k ha];exact hb) k
theorem IsL.sv(hl:IsL ws h v xs):∃sv,v=sc sv∧((sv=.ns∧xs.length=0)∨(∃id off c,sv=.sl id off xs.length c)∨∃a c,sv=.v (.slice (some a) xs.length c)):=by
 rcases hl with⟨rfl,rfl⟩|⟨id,cap,c,rfl,-⟩
 ·exact⟨_,rfl,.inl ⟨rfl,rfl⟩⟩
 ·exact⟨_,rfl,.inr (.inl ⟨_,_,_,rfl⟩)⟩
theorem fK{el:Nat}(hS:St β h0 e s h ws ls ps)(ht:F.ti t=some i)(hd:i.d=.sl el)(hx:evs s x=some v)(hm:(v,xs)∈ls)(k:Q (sc (.i .i64 (xs.length:Int))) h):Xop F (.call {callee:=.builtin .len,args:=#[x],argTypes:=#[t]}) e h Q:=by
 obtain⟨sv,rfl,hn⟩:=(hS.ls _ hm).sv;exact zW hS (args:=[sc sv]) (by show ob (evs s x) _=_;rw[hx];rfl) (aFi ht hd hn) k
theorem aCi{el id off n:Nat}{c:Option Nat}(hS:St β h0 e s h ws ls ps)(ht:F.ti t=some i)(hd:i.d=.sl el)(hx:evs s x=some (sc (.sl id off n c)))(k:Q (sc (.i .i64 (n:Int))) h):Xop F (.call {callee:=.builtin .len,args:=#[x],argTypes:=#[t]}) e h Q:=
 zW hS (args:=[_]) (by show ob (evs s x) _=_;rw[hx];rfl) (aFi ht hd (.inr (.inl ⟨_,_,_,rfl⟩))) k
theorem aJ5{l:List Nat}(hS:St β h0 e s h ws ls ps)(ht:F.ti t=some i)(hd:i.d=.str)(hx:evs s x=some (sc (.s l)))(k:Q (sc (.i .i64 (l.length:Int))) h):Xop F (.call {callee:=.builtin .len,args:=#[x],argTypes:=#[t]}) e h Q:=
 zW hS (args:=[_]) (by show ob (evs s x) _=_;rw[hx];rfl) (by
  show ob (F.ti t) (fun i=>one (sc (.s l)) fun s=>(match i.d,s with| .str,.s l=>vh (.i .i64 (.ofNat (len l))) h| .sl _,.ns=>vh (.i .i64 0) h| .sl _,.sl _ _ n _=>vh (.i .i64 (.ofNat n)) h| .sl _,.v x=>roN h x| .sl _,.m n=>ob (F.ln n) fun k=>vh (.i .i64 (.ofNat k)) h|_,_=>none))=some (sc (.i .i64 (l.length:Int)),h);rw[ht];show (match i.d,SV.s l with| .str,.s l=>vh (.i .i64 (.ofNat (len l))) h| .sl _,.ns=>vh (.i .i64 0) h| .sl _,.sl _ _ n _=>vh (.i .i64 (.ofNat n)) h| .sl _,.v x=>roN h x| .sl _,.m n=>ob (F.ln n) fun k=>vh (.i .i64 (.ofNat k)) h|_,_=>none)=_;rw[hd];show vh (.i .i64 (.ofNat (len l))) h=_;rw[iD];rfl) k
theorem aRF{x y:Operand}{ats:Array TypeId}{kk:IntKind}{a c:Int}(hS:St β h0 e s h ws ls ps)(hx:evs s x=some (sc (.i kk a)))(hy:evs s y=some (sc (.i kk c)))(k:Q (sc (.i kk (max a c))) h):Xop F (.call {callee:=.builtin .max,args:=#[x,y],argTypes:=ats}) e h Q:=
 zW hS (args:=[_,_]) (by show ob (evs s x) (fun v=>ob (ob (evs s y) fun v=>some [v]) fun r=>some (v::r))=_;rw[hx,hy];rfl) (by
  show ob (mm false (sc (.i kk a)) (sc (.i kk c))) (fun v=>some (v,h))=_;show ob (cb (decide (kk=kk)) (some (sc (.i kk (cb false (cb (iLt c a) c a) (cb (iLt a c) c a))))) none) (fun v=>some (v,h))=_;rw[decide_eq_true rfl];show some (sc (.i kk (cb (iLt a c) c a)),h)=_;rw[lF,cK];congr 4;by_cases hac:a<c
  ·rw[if_pos (decide_eq_true hac)];omega
  ·rw[if_neg (by simpa using hac)];omega) k
theorem aNa{el j z id off n:Nat}{c:Option Nat}{kk:IntKind}(hS:St β h0 e s h ws ls ps)(ht:F.ti t=some i)(hd:i.d=.sl el)(hz:sz F el=some z)(hx:evs s x=some (sc (.sl id off n c)))(hy:evs s y=some (sc (.i kk (j:Int))))(hj:j<n):oIA F e h t x y=some (sc (.p id (off+j*z)),h):=by
 unfold oIA;rw[ht,aN hS.k hy]
 show ob (ev e x) (fun v=>one v fun s=>(match i.d,s with
  | .sl el,.sl id off n _=>ob (sz F el) fun z=>cb (Nat.blt j n) (vh (.p id (Nat.add off (Nat.mul j z))) h) none
  | .ar n el,.p id off=>ob (sz F el) fun z=>cb (Nat.blt j n) (vh (.p id (Nat.add off (Nat.mul j z))) h) none
  | .sl el,.v x=>ob (sz F el) fun z=>roA h j z x
  |_,_=>none))=_
 rw[aN hS.k hx]
 show (match i.d,SV.sl id off n c with
  | .sl el,.sl id off n _=>ob (sz F el) fun z=>cb (Nat.blt j n) (vh (.p id (Nat.add off (Nat.mul j z))) h) none
  | .ar n el,.p id off=>ob (sz F el) fun z=>cb (Nat.blt j n) (vh (.p id (Nat.add off (Nat.mul j z))) h) none
  | .sl el,.v x=>ob (sz F el) fun z=>roA h j z x
  |_,_=>none)=_
 rw[hd];show ob (sz F el) (fun z=>cb (Nat.blt j n) (vh (.p id (Nat.add off (Nat.mul j z))) h) none)=_;rw[hz];show cb (Nat.blt j n) _ none=_;rw[bV.2 hj];rfl
theorem oH{el z id off n:Nat}{j:Nat}{c:Option Nat}{kk:IntKind}{jz:Int}(hS:St β h0 e s h ws ls ps)(ht:F.ti t=some i)(hd:i.d=.sl el)(hz:sz F el=some z)(hx:evs s x=some (sc (.sl id off n c)))(hy:evs s y=some (sc (.i kk jz)))(hjz:jz=(j:Int))(hj:j<n)(k:Q (sc (.p id (off+j*z))) h):Xop F (.indexAddr t x y) e h Q:=by
 subst hjz;exact .now (fun _=>aNa hS ht hd hz hx hy hj) k
theorem pQ{el:Nat}{j:Nat}{kk:IntKind}{jz:Int}(hS:St β h0 e s h ws ls ps)(ht:F.ti t=some i)(hd:i.d=.sl el)(hz:sz F el=some 3)(hx:evs s x=some v)(hm:(v,xs)∈ls)(hy:evs s y=some (sc (.i kk jz)))(hjz:jz=(j:Int))(hj:xs[j]? =some q)(k:∀pv,St β h0 e s h ws ls ((pv,q)::ps)→Q pv h):Xop F (.indexAddr t x y) e h Q:=by
 subst hjz;have hlt:=(List.getElem?_eq_some_iff.1 hj).1;rcases hS.ls _ hm with⟨-,h2⟩|⟨id,cap,c,h1,h2,h3,h4,h5,h6⟩
 ·have h2:xs=[]:=h2;rw[h2]at hlt;cases hlt
 ·have h1:v=sc (.sl id 0 xs.length cap):=h1;subst h1;refine .now (fun _=>aNa hS ht hd hz hx hy hlt) (k _ (hS.ap ⟨id,0+j*3,_,rfl,h3,?_,h5,h6⟩));rw[Nat.zero_add];exact aG7 h4 hj
theorem aRG{el z n cp:Nat}{j:Nat}{a:Addr}{kk:IntKind}{jz:Int}(hS:St β h0 e s h ws ls ps)(ht:F.ti t=some i)(hd:i.d=.sl el)(hz:sz F el=some z)(hx:evs s x=some (sc (.v (.slice (some a) n cp))))(hy:evs s y=some (sc (.i kk jz)))(hjz:jz=(j:Int))(hj:j<n)(k:Q (sc (.v (.pointer (some (a.add (j*z)))))) h):Xop F (.indexAddr t x y) e h Q:=by
 subst hjz;refine .now (fun _=>?_) k;show oIA F e h t x y=_;unfold oIA;rw[ht,aN hS.k hy]
 show ob (ev e x) (fun v=>one v fun s=>(match i.d,s with
  | .sl el,.sl id off n _=>ob (sz F el) fun z=>cb (Nat.blt j n) (vh (.p id (Nat.add off (Nat.mul j z))) h) none
  | .ar n el,.p id off=>ob (sz F el) fun z=>cb (Nat.blt j n) (vh (.p id (Nat.add off (Nat.mul j z))) h) none
  | .sl el,.v x=>ob (sz F el) fun z=>roA h j z x
  |_,_=>none))=_
 rw[aN hS.k hx]
 show (match i.d,SV.v (.slice (some a) n cp) with
  | .sl el,.sl id off n _=>ob (sz F el) fun z=>cb (Nat.blt j n) (vh (.p id (Nat.add off (Nat.mul j z))) h) none
  | .ar n el,.p id off=>ob (sz F el) fun z=>cb (Nat.blt j n) (vh (.p id (Nat.add off (Nat.mul j z))) h) none
  | .sl el,.v x=>ob (sz F el) fun z=>roA h j z x
  |_,_=>none)=_
 rw[hd];show ob (sz F el) (fun z=>roA h j z (.slice (some a) n cp))=_;rw[hz];show cb (Nat.blt j n) _ none=_;rw[bV.2 hj];rfl
theorem aC9{a:Operand}{id off:Nat}{b:B}{l:List SV}(hS:St β h0 e s h ws ls ps)(ht:F.ti t=some i)(hx:evs s a=some (sc (.p id off)))(hb:h.h.get id=some b)(hl:eX i.sz (drp off b.c)=some l)(hv:av i.d.ag l=some v):rW F e h t a=some (v,h):=by
 unfold rW;rw[ht,aN hS.k hx];show ob (rd h id off i.sz) (fun l=>ob (av i.d.ag l) fun v=>some (v,h))=_;unfold rd;rw[hb];show ob (eX i.sz (drp off b.c)) _=_;rw[hl];show ob (av i.d.ag l) _=_;rw[hv];rfl
theorem gG{a:Operand}{j id off:Nat}{b:B}{l:List SV}(hS:St β h0 e s h ws ls ps)(ht:F.ti t=some i)(hx:evs s a=some (sc (.p id off)))(hj:ws[j]? =some (id,b))(hl:eX i.sz (drp off b.c)=some l)(hv:av i.d.ag l=some v)(k:Q v h):Xop F (.load t a) e h Q:=
 .now (fun _=>aC9 hS ht hx (hS.w.1 _ (List.mem_of_getElem? hj)).2.2 hl hv) k
theorem mG{a:Operand}(hS:St β h0 e s h ws ls ps)(ht:F.ti t=some i)(hz:i.sz=3)(hg:i.d.ag=true)(hx:evs s a=some v)(hm:(v,q)∈ps)(k:Q (.c true (aP q)) h):Xop F (.load t a) e h Q:=by
 obtain⟨id,off,b,h1,h2,h3,-⟩:=hS.ps _ hm;have h1:v=sc (.p id off):=h1;subst h1;exact .now (fun _=>aC9 hS ht hx h2 (by rw[hz];exact h3) (by rw[hg];rfl)) k
theorem aRH{a:Operand}{ad:Addr}(hS:St β h0 e s h ws ls ps)(ht:F.ti t=some i)(hx:evs s a=some (sc (.v (.pointer (some ad)))))(hr:F.ro t ad=some v)(k:Q v h):Xop F (.load t a) e h Q:=
 .now (fun _=>by
  show rW F e h t a=_;unfold rW;rw[ht,aN hS.k hx];show ob (F.ro t ad) (fun v=>some (v,h))=_;rw[hr];rfl) k
theorem jX{a:Operand}{j id off z:Nat}{b:B}{g:Bool}{l c:List SV}(hS:St β h0 e s h ws ls ps)(hβ:β≤h0.n)(ht:sz F t=some z)(ha:evs s a=some (sc (.p id off)))(hx:evs s x=some (.c g l))(hl:l.length=z)(hj:ws[j]? =some (id,b))(hc:iR off l b.c=some c)(hk:calm b.c=true)(k:∀h',St β h0 e s h' (ws.set j (id,⟨b.ty,c⟩)) ls ps→Q un h'):Xop F (.store t a x) e h Q:=by
 obtain⟨w1,w2,w3⟩:=hS.w.1 _ (List.mem_of_getElem? hj);have w1:h0.n≤id:=w1;have w3:h.h.get id=some b:=w3;refine .now (fun _=>?_) (k _ (hS.put hj));show tT F e h t a x=_;unfold tT;rw[ht,aN hS.k ha];show ob (ev e x) (fun u=>cells u fun c=>cb (Nat.beq (len c) z) (ob (wr h id off c) fun h=>some (un,h)) none)=_;rw[aN hS.k hx];show cb (Nat.beq (len l) z) (ob (wr h id off l) fun h=>some (un,h)) none=_;rw[iD,hl,Nat.beq_refl];show ob (wr h id off l) (fun h=>some (un,h))=_;have e1:wr h id off l=some (h.put id ⟨b.ty,c⟩):=by
  unfold wr;rw[fA.2 (show h.bar≤id by rw[hS.bar];omega),w3];show ob (iR off l b.c) (fun c=>cb (calm b.c) (some (h.put id ⟨b.ty,c⟩)) none)=_;rw[hc];show cb (calm b.c) _ none=_;rw[hk];rfl
 rw[e1];rfl
theorem aEk{a:Operand}{j id n:Nat}{g:Bool}(hS:St β h0 e s h ws ls ps)(hβ:β≤h0.n)(ht:sz F t=some 3)(ha:evs s a=some (sc (.p id (0+n*3))))(hx:evs s x=some (.c g (aP q)))(hj:ws[j]? =some (id,⟨dW,bG xs⟩))(hn:n<xs.length)(k:∀h',St β h0 e s h' (ws.set j (id,⟨dW,bG (xs.set n q)⟩)) ls ps→Q un h'):Xop F (.store t a x) e h Q:=
 jX hS hβ ht ha hx rfl hj (by rw[Nat.zero_add];exact aLY q hn) (zV xs) k
theorem aRI{a:Operand}{j id n:Nat}(hS:St β h0 e s h ws ls ps)(ht:F.ti t=some i)(hz:i.sz=3)(hg:i.d.ag=true)(ha:evs s a=some (sc (.p id (0+n*3))))(hj:ws[j]? =some (id,⟨dW,bG xs⟩))(hn:xs[n]? =some q)(k:Q (.c true (aP q)) h):Xop F (.load t a) e h Q:=
 gG hS ht ha hj (by rw[hz,Nat.zero_add];exact aG7 (List.prefix_refl _) hn) (by rw[hg];rfl) k
theorem aCj{α:Type}{b:B}{f:Nat→H→α}:h.nw b f=f h.n ⟨h.h.set b h.n,Nat.succ h.n,h.bar,h.l⟩:=by
 unfold H.nw;rw[bZ]
theorem fU(hS:St β h0 e s h ws ls ps)(ht:F.ti t=some i)(k:∀id h',St β h0 e s h' ((id,⟨t,i.ze⟩)::ws) ls ps→Q (sc (.p id 0)) h'):Xop F (.alloc t) e h Q:=
 .now (fun _=>by show tQ F h t=_;unfold tQ;rw[ht];exact aCj) (k _ _ (hS.new _))
theorem aIk{g:Bool}{l:List SV}(hS:St β h0 e s h ws ls ps)(hx:evs s x=some (.c g l))(k:∀id h',St β h0 e s h' ((id,⟨t,l⟩)::ws) ls ps→Q (sc (.p id 0)) h'):Xop F (.box t x) e h Q:=
 .now (fun _=>by show zD e h t x=_;unfold zD;rw[aN hS.k hx];exact (show (h.nw ⟨t,l⟩ fun a h=>vh (.p a 0) h)=_ from aCj)) (k _ _ (hS.new _))
theorem aCk{el:Nat}{g:TI}{n:Nat}{kk:IntKind}{nz:Int}(hS:St β h0 e s h ws ls ps)(ht:F.ti t=some i)(hd:i.d=.sl el)(hg:F.ti el=some g)(hze:g.ze=[.b false,.m 0,.m 0])(hx:evs s x=some (sc (.i kk nz)))(hn:nz=(n:Int))(h1:n*g.by_≤1099511627776)(h2:n<1099511627776)(k:∀id h',St β h0 e s h' ((id,⟨el,bG (List.replicate n 0)⟩)::ws) ls ps→Q (sc (.sl id 0 n (some n))) h'):Xop F (.makeSlice t x x) e h Q:=by
 subst hn;refine .now (fun _=>?_) (k _ _ (hS.new ⟨el,bG (List.replicate n 0)⟩));show uU F e h t x x=_;unfold uU;rw[ht];show ob (elem i.d) _=_;rw[hd];show ob (F.ti el) _=_;rw[hg];show ob (ev e x) _=_;rw[aN hS.k hx];show cb (Nat.ble n n) (cb (Nat.ble (Nat.mul n g.by_) 1099511627776) (cb (Nat.blt n 1099511627776) (h.nw ⟨el,nY g.ze n⟩ fun a h=>vh (.sl a 0 n (some n)) h) none) none) none=_;rw[fA.2 (Nat.le_refl n),fA.2 (show Nat.mul n g.by_≤1099511627776 from h1),bV.2 h2,hze,aDQ];exact (show (h.nw ⟨el,bG (List.replicate n 0)⟩ fun a h=>vh (.sl a 0 n (some n)) h)=_ from aCj)
def Ct(v u:AV)(n:Nat):Prop:=(v=sc .ns∧u=sc .ns)∨∃id len cap,v=sc (.sl id 0 len cap)∧u=sc (.sl id 0 n cap)
theorem IsL.ct{n:Nat}(hl:IsL ws h v xs)(hn:n≤xs.length)(hc:Ct v u n):IsL ws h u (xs.take n):=by
 have hlen:(xs.take n).length=n:=by rw[List.length_take];omega
 rcases hc with⟨h1,h2⟩|⟨id,len,cap,h1,h2⟩
 ·rcases hl with⟨-,h4⟩|⟨id,cap,c,h3,-⟩
  ·exact .inl ⟨h2,by rw[h4];simp⟩
  ·rw[h1]at h3;cases h3
 ·rcases hl with⟨h3,-⟩|⟨id2,cap2,c,h3,h4,h5,h6,h7,h8⟩
  ·rw[h1]at h3;cases h3
  ·rw[h1]at h3;cases h3;exact .inr ⟨id,cap,c,by rw[h2,hlen],fun m q=>by have:=h4 m q;omega,h5,uZ h6 n,h7,h8⟩
theorem IsF.ct{n:Nat}(hl:IsF h0 h v xs)(hn:n≤xs.length)(hc:Ct v u n):IsF h0 h u (xs.take n):=by
 have hlen:(xs.take n).length=n:=by rw[List.length_take];omega
 rcases hc with⟨h1,h2⟩|⟨id,len,cap,h1,h2⟩
 ·rcases hl with⟨-,h4⟩|⟨id,cap,c,h3,-⟩
  ·exact .inl ⟨h2,by rw[h4];simp⟩
  ·rw[h1]at h3;cases h3
 ·rcases hl with⟨h3,-⟩|⟨id2,cap2,c,h3,h4,h5,h6,h7,h8⟩
  ·rw[h1]at h3;cases h3
  ·rw[h1]at h3;cases h3;exact .inr ⟨id,cap,c,by rw[h2,hlen],fun m q=>by have:=h4 m q;omega,h5,uZ h6 n,h7,h8⟩
theorem aSB{el n:Nat}{kk:IntKind}{nz:Int}(hS:St β h0 e s h ws ls ps)(ht:F.ti t=some i)(hd:i.d=.sl el)(hz:sz F el=some 3)(hx:evs s x=some v)(hm:(v,xs)∈ls)(hy:evs s y=some (sc (.i kk nz)))(hn:nz=(n:Int))(hle:n≤xs.length)(k:∀v',Ct v v' n→St β h0 e s h ws ((v',xs.take n)::ls) ps→Q v' h):Xop F (.slice t x none (some y) none) e h Q:=by
 subst hn
 have key:∀sv,evs s x=some (sc sv)→lC F e h t x none (some y) none=(match Dk.sl el,sv with
     | .sl el,.ns=>ob (sz F el) fun _=>chk 0 n 0 (vh .ns h)
     | .sl el,.sl id off m c=>ob (sz F el) fun z=>
       Option.rec (motive:=fun _=>Option VH) (cb (Nat.beq 0 0) (chk 0 n m (vh (.sl id off (Nat.sub n 0) none) h)) none)
        (fun c=>cb (Nat.blt 0 c) (chk 0 n c (vh (.sl id (Nat.add off (Nat.mul 0 z)) (Nat.sub n 0) (some (Nat.sub c 0))) h)) (cb (Nat.beq 0 0) (chk 0 n c (vh (.sl id off (Nat.sub n 0) (some c)) h)) none)) c
     |_,_=>none):=fun sv hsv=>by
  have hb:∀(α:Type) (m:Nat) (f:Nat→Option α),bound e (some y) m f=f n:=fun α m f=>by
   show ob (ev e y) _=_;rw[aN hS.k hy];rfl
  have hb0:∀(α:Type) (m:Nat) (f:Nat→Option α),bound e none m f=f m:=fun α m f=>rfl;unfold lC;simp only[hb,hb0,ht,aN hS.k hsv]
  show (match i.d,sv with
   | .str,.s l=>chk 0 n (len l) (ob (eX (Nat.sub n 0) (drp 0 l)) fun l=>vh (.s l) h)
   | .sl el,.ns=>ob (sz F el) fun _=>chk 0 n 0 (vh .ns h)
   | .sl el,.sl id off m c=>ob (sz F el) fun z=>
     Option.rec (motive:=fun _=>Option VH) (cb (Nat.beq 0 0) (chk 0 n m (vh (.sl id off (Nat.sub n 0) none) h)) none)
      (fun c=>cb (Nat.blt 0 c) (chk 0 n c (vh (.sl id (Nat.add off (Nat.mul 0 z)) (Nat.sub n 0) (some (Nat.sub c 0))) h)) (cb (Nat.beq 0 0) (chk 0 n c (vh (.sl id off (Nat.sub n 0) (some c)) h)) none)) c
   |_,_=>none)=_
  rw[hd];cases sv<;>rfl
 rcases hS.ls _ hm with⟨h1,h2⟩|⟨id,cap,c,h1,h2,h3,h4,h5,h6⟩
 ·have h2:xs=[]:=h2;have h1:v=sc .ns:=h1;subst h2;subst h1;obtain rfl:n=0:=(by simpa using hle);refine .now (h':=h) (v:=sc .ns) (fun _=>?_) (k _ (.inl ⟨rfl,rfl⟩) (hS.al (.inl ⟨rfl,rfl⟩)));rw[show op1 F _ (.slice t x none (some y) none) e h=lC F e h t x none (some y) none from rfl,key _ hx];show ob (sz F el) _=_;rw[hz];rfl
 ·have h1:v=sc (.sl id 0 xs.length cap):=h1;subst h1;have hlen:(xs.take n).length=n:=(by rw[List.length_take];omega);cases cap with
  |none=>
   refine .now (h':=h) (v:=sc (.sl id 0 n none)) (fun _=>?_) (k _ (.inr ⟨_,_,_,rfl,rfl⟩) (hS.al (.inr ⟨id,none,c,by rw[hlen],fun _ q=>(by cases q),h3,uZ h4 n,h5,h6⟩)));rw[show op1 F _ (.slice t x none (some y) none) e h=lC F e h t x none (some y) none from rfl,key _ hx];show ob (sz F el) _=_;rw[hz];show chk 0 n xs.length _=_;unfold chk;rw[fA.2 (Nat.zero_le n),fA.2 hle];rfl
  |some m=>
   have hm2:=h2 m rfl;refine .now (h':=h) (v:=sc (.sl id 0 n (some m))) (fun _=>?_) (k _ (.inr ⟨_,_,_,rfl,rfl⟩) (hS.al (.inr ⟨id,some m,c,by rw[hlen],fun m' q=>(by injection q with q;rw[hlen];have:xs.length≤m:=hm2;omega),h3,uZ h4 n,h5,h6⟩)));rw[show op1 F _ (.slice t x none (some y) none) e h=lC F e h t x none (some y) none from rfl,key _ hx];show ob (sz F el) _=_;rw[hz];have hc:chk 0 n m (vh (.sl id 0 n (some m)) h)=some (sc (.sl id 0 n (some m)),h):=by
     unfold chk;have:xs.length≤m:=hm2;rw[fA.2 (Nat.zero_le n),fA.2 (show n≤m by omega)];rfl
   show cb (Nat.blt 0 m) (chk 0 n m (vh (.sl id 0 n (some m)) h)) (chk 0 n m (vh (.sl id 0 n (some m)) h))=_;cases Nat.blt 0 m<;>exact hc
theorem aNb{n:Nat}{l:List (Bool × List SV)}{p:Bool × List SV}(hS:St β h0 e s h ws ls ps)(hx:evs s x=some (.t l))(hp:(drp n l).head? =some p)(k:Q (.c p.1 p.2) h):Xop F (.extract x n) e h Q:=
 .now (fun _=>by show zG e h x n=_;unfold zG;rw[aN hS.k hx];show ob (drp n l).head? _=_;rw[hp];rfl) k
noncomputable def oI (pl:Nat→Option (Nat × Nat)) (s:List (Nat × AV)) (l:List (Nat × Operand)):List SV→Option (List SV):=
 List.rec (motive:=fun _=>List SV→Option (List SV)) some (fun p _ r acc=>ob (pl p.1) fun q=>ob (evs s p.2) fun v=>cells v fun c=>cb (Nat.beq (len c) q.2) (ob (iR q.1 c acc) r) none) l
theorem aDa{pl:Nat→Option (Nat × Nat)}(hk:Kn e s):∀{l:List (Nat × Operand)} {a c:List SV},oI pl s l a=some c→parts pl e l a=some c
 | [],a,c,hx=>hx
 |p::l,a,c,hx=>by
  obtain⟨q,h1,h2⟩:=aB.1 (show ob (pl p.1) (fun q=>ob (evs s p.2) fun v=>cells v fun c=>cb (Nat.beq (len c) q.2) (ob (iR q.1 c a) (oI pl s l)) none)=some c from hx);obtain⟨w,h3,h4⟩:=aB.1 h2;show ob (pl p.1) (fun q=>ob (ev e p.2) fun v=>cells v fun c=>cb (Nat.beq (len c) q.2) (ob (iR q.1 c a) (parts pl e l)) none)=some c;rw[h1];show ob (ev e p.2) (fun v=>cells v fun c=>cb (Nat.beq (len c) q.2) (ob (iR q.1 c a) (parts pl e l)) none)=some c;rw[aN hk h3];obtain⟨g,m,rfl,h5⟩:=oD.1 h4;show cb (Nat.beq (len m) q.2) (ob (iR q.1 m a) (parts pl e l)) none=some c;obtain⟨h6,h7⟩:=aH.1 h5;obtain⟨a2,h8,h9⟩:=aB.1 h7;rw[h6];show ob (iR q.1 m a) (parts pl e l)=some c;rw[h8];exact aDa hk h9
theorem aDb{pr:Array (Nat × Operand)}{fs pl:List (Nat × Nat)}{c:List SV}(hS:St β h0 e s h ws ls ps)(ht:F.ti t=some i)(hd:i.d=.st fs)(hp:szs F fs=some pl)(hc:oI (fun f=>(drp f pl).head?) s pr.toList i.ze=some c)(k:Q (.c true c) h):Xop F (.build t pr) e h Q:=
 .now (fun _=>by
  show rF F e h t pr.toList=_;unfold rF;rw[ht]
  show (match i.d with
   | .st fs=>ob (szs F fs) fun pl=>ob (parts (fun f=>(drp f pl).head?) e pr.toList i.ze) fun c=>some (AV.c true c,h)
   | .ar _ el=>ob (sz F el) fun s=>ob (parts (fun f=>some (Nat.mul f s,s)) e pr.toList i.ze) fun c=>some (AV.c true c,h)
   |_=>none)=_
  rw[hd];show ob (szs F fs) _=_;rw[hp];show ob (parts (fun f=>(drp f pl).head?) e pr.toList i.ze) _=_;rw[aDa hS.k hc];rfl) k
theorem aQh{sT f id off:Nat}{q:Nat × Nat}{z:Nat}(hS:St β h0 e s h ws ls ps)(ht:F.ti sT=some i)(hq:fields i.d f=some q)(hz:sz F q.2=some z)(h0z:Nat.blt 0 z=true)(hx:evs s x=some (sc (.p id off)))(k:Q (sc (.p id (off+q.1))) h):Xop F (.fieldAddr sT x f) e h Q:=
 .now (fun _=>by
  show oFA F e h sT x f=_;unfold oFA;rw[ht];show ob (fields i.d f) _=_;rw[hq];show ob (sz F q.2) _=_;rw[hz];show cb (Nat.blt 0 z) _ none=_;rw[h0z];show ob (ev e x) _=_;rw[aN hS.k hx];rfl) k
theorem aV{f:Nat}{xs:Array Operand}{ats:Array TypeId}{args:List AV}(hS:St β h0 e s h ws ls ps)(ha:aBz s xs.toList=some args)(hc:Xc F f args h Q):Xop F (.call {callee:=.value (.func f),args:=xs,argTypes:=ats}) e h Q:=by
 obtain⟨v,h1,⟨m0,k1⟩,k2⟩:=hc;refine⟨v,h1,⟨m0,fun m hm=>?_⟩,k2⟩;show ob (evL e xs.toList) (fun l=>iI F (exec F m) f (app l []) h)=_;rw[aAR hS.k ha];show iI F (exec F m) f (app args []) h=_;rw[lD,List.append_nil];exact k1 m hm
theorem jY{f:Nat}{G:Func}{cd:Code}{g:List AV→Option AV}{args:List AV}(hG:F.P.funcs[f]? =some G)(hb:G.body=some cd)(hp:F.pr f=some g)(hg:g args=some v)(k:Q v h):Xc F f args h Q:=by
 refine⟨v,h,⟨0,fun m _=>?_⟩,k⟩;unfold iI;rw[hG];show ob G.body _=_;rw[hb];show (Option.rec (motive:=fun _=>Option VH) _ _ (F.pr f):Option VH)=_;rw[hp];show ob (g args) _=_;rw[hg];rfl
theorem aRJ{f:Nat}{G:Func}{cd:Code}{g:H→List AV→Option AV}{args:List AV}(hG:F.P.funcs[f]? =some G)(hb:G.body=some cd)(hp:F.pr f=none)(hh:F.ph f=some g)(hg:g h args=some v)(k:Q v h):Xc F f args h Q:=by
 refine⟨v,h,⟨0,fun m _=>?_⟩,k⟩;unfold iI;rw[hG];show ob G.body _=_;rw[hb];show (Option.rec (motive:=fun _=>Option VH) _ _ (F.pr f):Option VH)=_;rw[hp];show aBV F (exec F m) G cd f args h=_;unfold aBV;rw[hh];show (Option.rec (motive:=fun _=>Option VH) _ _ (g h args):Option VH)=_;rw[hg]
theorem aL4{f:Nat}{G:Func}{cd:Code}{args:List AV}{e0:Env}(hG:F.P.funcs[f]? =some G)(hb:G.body=some cd)(hp:F.pr f=none)(hh:F.ph f=none)(he:rX G.ntmps args 0 (fill G.ntmps 0 .lf)=some e0)(k:Xw F G.ntmps f cd e0 h fun x e h=>∃v,leave F G ⟨x,e,h⟩=some (v,h)∧Q v h):Xc F f args h Q:=by
 obtain⟨x,e1,h1,⟨m0,k1⟩,v,k2,k3⟩:=k;refine⟨v,h1,⟨m0,fun m hm=>?_⟩,k3⟩;unfold iI;rw[hG];show ob G.body _=_;rw[hb];show (Option.rec (motive:=fun _=>Option VH) _ _ (F.pr f):Option VH)=_;rw[hp];show aBV F (exec F m) G cd f args h=_;unfold aBV;rw[hh];show nD F (exec F m) G cd f args h=_;unfold nD;rw[he];show ob (exec F m false G.ntmps f cd e0 h) _=_;rw[k1 m hm];exact k2
theorem leave1{G:Func}{x:Ex}{d:Nat}{g:Bool}{l:List SV}(hS:St β h0 e s h ws ls ps)(hx:x=.n∨x=.r)(hr:G.results.toList=[.tmp d])(hv:lk s d=some (.c g l)):leave F G ⟨x,e,h⟩=some (.c g l,h):=by
 have key:(ob (res F e h G.results.toList) fun l=>some (tup l,h))=some (.c g l,h):=by
  rw[hr];show (ob (ob (ob (e.get d) jK) fun v=>some [v]) fun l=>some (tup l,h))=_;rw[hS.k d _ hv];rfl
 rcases hx with rfl|rfl<;>exact key
theorem aQi{G:Func}{x:Ex}{d d2:Nat}{g g2:Bool}{l l2:List SV}(hS:St β h0 e s h ws ls ps)(hx:x=.n∨x=.r)(hr:G.results.toList=[.tmp d,.tmp d2])(hv:lk s d=some (.c g l))(hv2:lk s d2=some (.c g2 l2)):leave F G ⟨x,e,h⟩=some (.t [(g,l),(g2,l2)],h):=by
 have key:(ob (res F e h G.results.toList) fun l=>some (tup l,h))=some (.t [(g,l),(g2,l2)],h):=by
  rw[hr];show (ob (ob (ob (e.get d) jK) fun v=>ob (ob (ob (e.get d2) jK) fun v=>some [v]) fun l=>some (v::l)) fun l=>some (tup l,h))=_;rw[hS.k d _ hv,hS.k d2 _ hv2];rfl
 rcases hx with rfl|rfl<;>exact key
theorem St.start{e0:Env}{s:List (Nat × AV)}(hs:∀k v,lk s k=some v→e0.get k=some v)(hl:∀p∈ls,IsL [] h p.1 p.2):St h.bar h e0 s h [] ls []:=
 ⟨hs,Nat.le_refl _,rfl,fun _ _=>rfl,rfl,⟨fun _ hp=>(by cases hp),List.Pairwise.nil⟩,hl,fun _ hp=>(by cases hp)⟩
theorem aF{ops:List Oper}{o:Oper}{g j:Nat}{w b:Bool}(hS:St β h0 e s h ws ls ps)(ho:(drp g ops).head? =some o)(hd:o.dst=some j)(hb:lk s j=some (sc (.b b))):wanted ops e (some (g,w))=some (cb w b (gD b)):=by
 show (ob (drp g ops).head? fun o=>ob o.dst fun d=>isB (e.get d) w)=_;rw[ho];show (ob o.dst fun d=>isB (e.get d) w)=_;rw[hd];show isB (e.get j) w=_;rw[hS.k j _ hb];rfl
end
end Go.Proofs.YthjhkhlafhjjmaaGreatDoor.E
namespace Go.Proofs.YthjhkhlafhjjmaaGreatDoor.E
open Go Go.RowKit
open Ma Me K
theorem aAT{n:Nat}{α:Type}:∀{l:List (Nat × α)} {k:Nat} {x:α},(T.ofL l:T n α).get k=some x→(k,x)∈l
 | [],k,x,h=>by rw[show (T.ofL []:T n α)=T.lf from rfl,T.get_lf]at h;cases h
 |p::l,k,x,h=>by
  rcases T.get_set (show (T.set p.2 (T.ofL l:T n α) p.1).get k=some x from h) with⟨rfl,rfl⟩|⟨-,h2⟩
  ·exact List.mem_cons_self ..
  ·exact List.mem_cons_of_mem _ (aAT h2)
theorem aG9{α:Type}{p:α→Bool}{l:Array α}(h:l.toList.all p=true){i:Nat}{x:α}(hi:l[i]? =some x):p x=true:=
 List.all_eq_true.1 h x (by have:=Array.mem_of_getElem? hi;exact Array.mem_toList_iff.2 this)
def ngB(G:Func):Bool:=!(G.name == "runtime.NumGoroutine")
theorem aJ6:Tryz.prog.funcs.toList.all ngB=true:=by decide+kernel
theorem aBA(z:TypeId→Nat)(w:World):Rl ⟨0,fun _=>False,fun _=>0,w,z⟩ w ⟨.lf,0,0,.lf⟩:=
 ⟨rfl,fun _ h=>h.elim,Q.refl w,fun _ _ h=>(by rw[T.get_lf]at h;cases h),fun _ _ _ _ h=>(by rw[T.get_lf]at h;cases h),fun _ _ h=>(by rw[T.get_lf]at h;cases h),fun _ _ h=>(by rw[T.get_lf]at h;cases h),fun _ _ _ _ h=>(by rw[T.get_lf]at h;cases h)⟩
noncomputable def nm (q:Rat):AV:=.c true (aP q)
section
variable {F:Cf} {β:Nat} {h0 h h':H} {e:Env} {s:List (Nat × AV)} {ws:List (Nat × B)} {ls:List (AV × List Rat)} {ps:List (AV × Rat)} {v:AV} {Q:AV→H→Prop} {i:TI}
theorem aEl{dd:Dk}{kk:IntKind}{a c:Int}(h:c<a):bop dd .gtr (.i kk a) (.i kk c)=some (.b true):=aL0.trans (by rw[decide_eq_true h])
theorem aIl{dd:Dk}{kk:IntKind}{a c:Int}(h:¬c<a):bop dd .gtr (.i kk a) (.i kk c)=some (.b false):=aL0.trans (by rw[decide_eq_false h])
theorem oJ{dd:Dk}{kk:IntKind}{a c:Int}(h:a<c):bop dd .lss (.i kk a) (.i kk c)=some (.b true):=aLZ.trans (by rw[decide_eq_true h])
theorem qL{dd:Dk}{kk:IntKind}{a c:Int}(h:¬a<c):bop dd .lss (.i kk a) (.i kk c)=some (.b false):=aLZ.trans (by rw[decide_eq_false h])
theorem aCl{dd:Dk}{kk:IntKind}{a c:Int}(h:c≤a):bop dd .geq (.i kk a) (.i kk c)=some (.b true):=aL1.trans (by rw[decide_eq_true h])
theorem aEm{dd:Dk}{kk:IntKind}{a c:Int}(h:¬c≤a):bop dd .geq (.i kk a) (.i kk c)=some (.b false):=aL1.trans (by rw[decide_eq_false h])
theorem aAU{dd:Dk}{kk:IntKind}{a c:Int}(h:a=c):bop dd .eql (.i kk a) (.i kk c)=some (.b true):=aL2.trans (by rw[decide_eq_true h])
theorem aCm{dd:Dk}{kk:IntKind}{a c:Int}(h:¬a=c):bop dd .eql (.i kk a) (.i kk c)=some (.b false):=aL2.trans (by rw[decide_eq_false h])
theorem aNc{dd:Dk}{kk:IntKind}{a c:Int}(h:a≠c):bop dd .neq (.i kk a) (.i kk c)=some (.b true):=aL3.trans (by rw[decide_eq_true h])
theorem aIm{dd:Dk}{kk:IntKind}{a c:Int}(h:a=c):bop dd .neq (.i kk a) (.i kk c)=some (.b false):=aL3.trans (by rw[decide_eq_false (fun q=>q h)])
theorem aRK{f:Nat}{g:Operand}{xs:Array Operand}{ats:Array TypeId}{args:List AV}(hS:St β h0 e s h ws ls ps)(hg:evs s g=some (sc (.f f [])))(ha:aBz s xs.toList=some args)(hc:Xc F f args h Q):Xop F (.call {callee:=.value g,args:=xs,argTypes:=ats}) e h Q:=by
 obtain⟨v,h1,⟨m0,k1⟩,k2⟩:=hc;refine⟨v,h1,⟨m0,fun m hm=>?_⟩,k2⟩;show ob (ev e g) (fun f=>ob (evL e xs.toList) fun l=>dU F (exec F m) f l h)=_;rw[aN hS.k hg];show ob (evL e xs.toList) (fun l=>iI F (exec F m) f (app l []) h)=_;rw[aAR hS.k ha];show iI F (exec F m) f (app args []) h=_;rw[lD,List.append_nil];exact k1 m hm
theorem aCn{G:Func}{x:Ex}{d t j id:Nat}{b:B}{l:List SV}(hS:St β h0 e s h ws ls ps)(hx:x=.n∨x=.r)(hr:G.results.toList=[.cell d t])(hv:lk s d=some (sc (.p id 0)))(ht:F.ti t=some i)(hg:i.d.ag=true)(hj:ws[j]? =some (id,b))(hl:eX i.sz b.c=some l):leave F G ⟨x,e,h⟩=some (.c true l,h):=by
 have key:(ob (res F e h G.results.toList) fun l=>some (tup l,h))=some (.c true l,h):=by
  rw[hr];have e1:aBt F e h (.cell d t)=some (true,l):=by
   show (ob (F.ti t) fun i=>ob (e.get d) fun v=>one v fun s=>match s with| .p id off=>ob (rd h id off i.sz) fun c=>ob (av i.d.ag c) jK|_=>none)=_;rw[ht,hS.k d _ hv];show (ob (rd h id 0 i.sz) fun c=>ob (av i.d.ag c) jK)=_;unfold rd;rw[(hS.w.1 _ (List.mem_of_getElem? hj)).2.2];show (ob (eX i.sz b.c) fun c=>ob (av i.d.ag c) jK)=_;rw[hl];show ob (av i.d.ag l) jK=_;rw[hg];rfl
  show (ob (ob (aBt F e h (.cell d t)) fun v=>some [v]) fun l=>some (tup l,h))=_;rw[e1];rfl
 rcases hx with rfl|rfl<;>exact key
end
end Go.Proofs.YthjhkhlafhjjmaaGreatDoor.E
namespace Go.Proofs.YthjhkhlafhjjmaaGreatDoor.E
open Go Go.RowKit
open Ma Me K
section
variable {F:Cf} {nt fn:Nat} {β:Nat} {h0 h h':H} {e:Env} {s:List (Nat × AV)} {ws:List (Nat × B)} {ls:List (AV × List Rat)} {ps:List (AV × Rat)} {v:AV} {xs:List Rat} {ops:List Oper} {o:Oper} {i d b:Nat} {A late:List Nat} {M:List (Nat × List Nat)} {Q:Env→H→Prop}
theorem St.bl(hS:St β h0 e s h ws ls ps)(hb:β≤h.n):h.bar≤h.n:=by rw[hS.bar];exact hb
theorem aQ(hS:St β h0 e s h ws ls ps)(ho:(drp i ops).head? =some o)(hg:o.guard=none)(hd:o.dst=some d)(hn:Nat.blt d nt=true)(k:∀h,St h.n h0 e s h ws ls ps→Xop F o.op e h fun v h=>Pk d v e h fun e h=>Xa F nt ops b M A e h Q):Xa F nt ops b M (i::A) e h Q:=aOl ho hg hd hn (k _ hS.lift)
theorem oK(hS:St β h0 e s h ws ls ps)(ho:(drp i ops).head? =some o)(hw:wanted ops e o.guard=some true)(hd:o.dst=some d)(hn:Nat.blt d nt=true)(k:∀h,St h.n h0 e s h ws ls ps→Xop F o.op e h fun v h=>Pk d v e h fun e h=>Xa F nt ops b M A e h Q):Xa F nt ops b M (i::A) e h Q:=aC7 ho hw hd hn (k _ hS.lift)
theorem rR(hS:St β h0 e s h ws ls ps){l:List Oper}(hw:wanted ops e o.guard=some false)(hd:o.dst=some d)(hn:Nat.blt d nt=true)(k:∀e,St β h0 e ((d,un)::s) h ws ls ps→Xr F nt ops l e h Q):Xr F nt ops (o::l) e h Q:=aJ3 hw hd hn (hS.pk k)
theorem uD(hS:St β h0 e s h ws ls ps)(k:∀h,St b h0 e s h ws ls ps→Xb F nt ops M e h Q):Xa F nt ops b M [] e h Q:=aJ4 (k _ (hS.back b))
theorem w_d{id:Nat}{ops:Array Oper}{c:Code}{Q:Ex→Env→H→Prop}(hS:St β h0 e s h ws ls ps)(hp:F.pl fn id=some (A,M))(hok:mY F ops (A,M)=true)(k:Xa F nt ops.toList β M A e h fun e h=>Xw F nt fn c e h Q):Xw F nt fn (.seq (.region id ops true) c) e h Q:=aSz hp hok (by rw[hS.bar];exact k)
theorem aBB{id:Nat}{ops:Array Oper}{Q:Ex→Env→H→Prop}(hS:St β h0 e s h ws ls ps)(hp:F.pl fn id=some (A,M))(hok:mY F ops (A,M)=true)(k:Xa F nt ops.toList β M A e h (Q .n)):Xw F nt fn (.region id ops true) e h Q:=aG6 hp hok (by rw[hS.bar];exact k)
theorem St.drop(hS:St β h0 e s h ws ls ps){ws':List (Nat × B)}(hw:ws'.Sublist ws):St β h0 e s h ws' ls ps:=
 ⟨hS.k,hS.n,hS.bar,hS.o,hS.l,⟨fun p hp=>hS.w.1 p (hw.subset hp),hS.w.2.sublist hw⟩,fun p hp=>(hS.ls p hp).imp id fun ⟨id,cap,c,h1,h2,h3,h4,h5,h6⟩=>⟨id,cap,c,h1,h2,h3,h4,h5,fun q hq=>h6 q (hw.subset hq)⟩,
  fun p hp=>let ⟨id,off,b,h1,h3,h4,h5,h6⟩:=hS.ps p hp;⟨id,off,b,h1,h3,h4,h5,fun q hq=>h6 q (hw.subset hq)⟩⟩
def Sub(s:List (Nat × AV)):List (Nat × AV)→Prop
 | []=>True
 |p::l=>lk s p.1=some p.2∧Sub s l
theorem St.inv(hS:St β h0 e s h ws ls ps)(s':List (Nat × AV))(ws':List (Nat × B))(h1:Sub s s')(hw:ws'.Sublist ws):St β h0 e s' h ws' ls []:=by
 refine (hS.drop hw).less (fun k v hk=>?_) (fun _ h=>h) (fun _ h=>by cases h)
 induction s' with
 |nil=>cases hk
 |cons p l ih=>
  have hk:cb (Nat.beq p.1 k) (some p.2) (lk l k)=some v:=hk;cases hb:Nat.beq p.1 k with
  |true=>
   rw[hb]at hk;injection hk with hk;rw[←hk,←aY.1 hb];exact h1.1
  |false=>
   rw[hb]at hk;exact ih h1.2 hk
theorem St.inv3(hS:St β h0 e s h ws ls ps)(s':List (Nat × AV))(ws':List (Nat × B))(ls':List (AV × List Rat))(h1:Sub s s')(hw:ws'.Sublist ws)(hl:∀p∈ls',p∈ls):St β h0 e s' h ws' ls' []:=
 (hS.inv s' ws' h1 hw).less (fun _ _ h=>h) hl (fun _ h=>h)
theorem kn1{v:AV}{k:Nat}(hv:e.get k=some v){s:List (Nat × AV)}(hs:Kn e s):Kn e ((k,v)::s):=fun j u hj=>by
 have hj:cb (Nat.beq k j) (some v) (lk s j)=some u:=hj;cases hb:Nat.beq k j with
 |true=>
  rw[hb]at hj;injection hj with hj;rw[←aY.1 hb,hv,hj]
 |false=>
  rw[hb]at hj;exact hs j u hj
theorem kn0:Kn e []:=fun _ _ h=>by cases h
theorem lI{v:AV}{xs:List Rat}(hl:IsL [] h v xs){ls:List (AV × List Rat)}(k:∀p∈ls,IsL [] h p.1 p.2):∀p∈(v,xs)::ls,IsL [] h p.1 p.2:=fun p hp=>by
 rcases List.mem_cons.1 hp with rfl|hp
 ·exact hl
 ·exact k p hp
theorem IsL.nil{v:AV}{xs:List Rat}(hl:IsL ws h v xs):IsL [] h v xs:=hl.imp id fun ⟨id,cap,c,h1,h2,h3,h4,h5,_⟩=>⟨id,cap,c,h1,h2,h3,h4,h5,fun _ h=>by cases h⟩
theorem IsL.sc{v:AV}{xs:List Rat}(hl:IsL ws h v xs):∃sv,v=sc sv:=hl.elim (fun h=>⟨_,h.1⟩) fun ⟨_,_,_,h,_⟩=>⟨_,h⟩
theorem IsF.sc{v:AV}{xs:List Rat}(hl:IsF h h' v xs):∃sv,v=sc sv:=hl.elim (fun h=>⟨_,h.1⟩) fun ⟨_,_,_,h,_⟩=>⟨_,h⟩
theorem IsF.nl{v:AV}{xs:List Rat}(hl:IsF h h' v xs):IsL [] h' v xs:=hl.isL fun _ h=>by cases h
theorem IsF.le{h1:H}{v:AV}{xs:List Rat}(hl:IsF h1 h v xs)(hn:h0.n≤h1.n):IsF h0 h v xs:=hl.imp id fun ⟨id,cap,c,q1,q2,q3,q4,q5,q6⟩=>⟨id,cap,c,q1,q2,q3,q4,q5,Nat.le_trans hn q6⟩
theorem mV:∀p∈([]:List (AV × List Rat)),IsL [] h p.1 p.2:=fun _ h=>by cases h
theorem jL{f:Nat}{G:Func}{cd:Code}{args:List AV}{e0:Env}{Q:AV→H→Prop}(hG:F.P.funcs[f]? =some G)(hb:G.body=some cd)(hp:F.pr f=none)(hh:F.ph f=none)(he:rX G.ntmps args 0 (fill G.ntmps 0 .lf)=some e0)(hs:Kn e0 s)(hl:∀p∈ls,IsL [] h p.1 p.2)
  (k:∀β e,β=h.bar→St β h e s h [] ls []→Xw F G.ntmps f cd e h fun x e h=>∃v,leave F G ⟨x,e,h⟩=some (v,h)∧Q v h):Xc F f args h Q:=aL4 hG hb hp hh he (k _ _ rfl (St.start hs hl))
theorem St.res(hS:St β h0 e s h ws ls ps){j id n:Nat}{cap:Option Nat}(hj:ws[j]? =some (id,⟨dW,bG xs⟩))(hn:n=xs.length)(hc:∀m,cap=some m→xs.length≤m):IsF h0 h (sc (.sl id 0 n cap)) xs:=by
 subst hn;obtain⟨h1,h2,h3⟩:=hS.w.1 _ (List.mem_of_getElem? hj);exact .inr ⟨id,cap,bG xs,rfl,hc,h3,List.prefix_refl _,h2,h1⟩
end
end Go.Proofs.YthjhkhlafhjjmaaGreatDoor.E
namespace Go.Proofs.YthjhkhlafhjjmaaGreatDoor.E
open Go Go.RowKit
open Ma Me K
noncomputable section
def tyL:List (Nat × TI)→Nat→Option TI
 | [],_=>none
 |p::l,t=>cb (Nat.beq p.1 t) (some p.2) (tyL l t)
def pid(v:AV){α:Type}(k:Nat→Nat→Option α):Option α:=match v with| .c false [.p id off]=>k id off|_=>none
def sop(tys:List (Nat × TI))(s:List (Nat × AV))(ws:List (Nat × B))(j:Nat)(o:Op):Option (AV × List (Nat × Nat)):=
 match o with
 | .move x=>ob (evs s x) fun v=>some (v,[])
 | .assign x=>ob (evs s x) fun v=>some (v,[])
 | .pick c a d=>ob (evs s c) fun v=>(match v with| .c false [.b b]=>ob (evs s (cb b a d)) fun v=>some (v,[])|_=>none)
 | .extract x n=>ob (evs s x) fun v=>(match v with| .t l=>ob (drp n l).head? fun p=>some (.c p.1 p.2,[])|_=>none)
 | .fieldAddr sT x f=>ob (tyL tys sT) fun i=>ob (fields i.d f) fun q=>ob (tyL tys q.2) fun i2=>cb (Nat.blt 0 i2.sz) (ob (evs s x) fun v=>pid v fun id off=>some (sc (.p id (off+q.1)),[])) none
 | .load t a=>ob (tyL tys t) fun i=>ob (evs s a) fun v=>pid v fun id off=>ob ws[j]? fun w=>ob (eX i.sz (drp off w.2.c)) fun l=>ob (av i.d.ag l) fun v=>some (v,[(w.1,id)])
 |_=>none
def wnt(ops:List Oper)(s:List (Nat × AV))(g:Option (Nat × Bool)):Option Bool:=
 match g with
 |none=>some true
 |some (g,w)=>ob (drp g ops).head? fun o=>ob o.dst fun j=>ob (lk s j) fun v=>(match v with| .c false [.b b]=>some (cb w b (gD b))|_=>none)
def seg(tys:List (Nat × TI))(nt:Nat)(ops:List Oper)(ws:List (Nat × B)):List Nat→List Oper→List (Nat × AV)→List (Nat × Nat)→Option (List (Nat × AV) × List Oper × List (Nat × Nat))
 | [],l,s,q=>some (s,l,q)
 |j::js,o::l,s,q=>ob (wnt ops s o.guard) fun t=>ob o.dst fun d=>cb (Nat.blt d nt) (cb t (ob (sop tys s ws j o.op) fun v=>seg tys nt ops ws js l ((d,v.1)::s) (v.2++q)) (seg tys nt ops ws js l ((d,un)::s) q)) none
 |_::_,[],_,_=>none
end
def eqs:List (Nat × Nat)→Prop
 | []=>True
 |p::l=>p.1=p.2∧eqs l
theorem aAV:∀{l m:List (Nat × Nat)},eqs (l++m)→eqs l∧eqs m
 | [],_,h=>⟨trivial,h⟩
 |_::_,_,h=>⟨⟨h.1,(aAV h.2).1⟩,(aAV h.2).2⟩
def aFj(F:Cf)(tys:List (Nat × TI)):Prop:=∀p∈tys,F.ti p.1=some p.2
theorem ty0{F:Cf}:aFj F []:=fun _ h=>by cases h
section
variable {F:Cf} {nt fn:Nat} {β:Nat} {h0 h h':H} {e:Env} {s:List (Nat × AV)} {ws:List (Nat × B)} {ls:List (AV × List Rat)} {ps:List (AV × Rat)} {v:AV} {tys:List (Nat × TI)}
theorem aCo:∀{tys:List (Nat × TI)} {t:Nat} {i:TI},aFj F tys→tyL tys t=some i→F.ti t=some i
 | [],_,_,_,h=>by cases h
 |p::l,t,i,ht,h=>by
  have h:cb (Nat.beq p.1 t) (some p.2) (tyL l t)=some i:=h;cases hb:Nat.beq p.1 t with
  |true=>
   rw[hb]at h;injection h with h;rw[←aY.1 hb,←h];exact ht _ (List.mem_cons_self ..)
  |false=>
   rw[hb]at h;exact aCo (fun q hq=>ht q (List.mem_cons_of_mem _ hq)) h
theorem aFk{α:Type}{v:AV}{k:Nat→Nat→Option α}{y:α}(h:pid v k=some y):∃id off,v=sc (.p id off)∧k id off=some y:=by
 unfold pid at h;split at h
 ·exact⟨_,_,rfl,h⟩
 ·cases h
theorem aQj{t:Nat}{i:TI}(h:F.ti t=some i):sz F t=some i.sz:=by
 unfold sz;rw[h];rfl
theorem aQk{o:Op}{j:Nat}{q:List (Nat × Nat)}{Q:AV→H→Prop}(ht:aFj F tys)(hS:St β h0 e s h ws ls ps)(hx:sop tys s ws j o=some (v,q))(hq:eqs q)(k:Q v h):Xop F o e h Q:=by
 unfold sop at hx;split at hx
 ·obtain⟨u,h1,h2⟩:=aB.1 hx;injection h2 with h2;injection h2 with h2;subst h2;exact aM hS h1 k
 ·obtain⟨u,h1,h2⟩:=aB.1 hx;injection h2 with h2;injection h2 with h2;subst h2;exact bK hS h1 k
 ·obtain⟨u,h1,h2⟩:=aB.1 hx;split at h2
  ·obtain⟨u,h3,h4⟩:=aB.1 h2;injection h4 with h4;injection h4 with h4;subst h4;exact jP hS h1 h3 k
  ·cases h2
 ·obtain⟨u,h1,h2⟩:=aB.1 hx;split at h2
  ·obtain⟨u,h3,h4⟩:=aB.1 h2;injection h4 with h4;injection h4 with h4;subst h4;exact aNb hS h1 h3 k
  ·cases h2
 ·obtain⟨i,h1,h2⟩:=aB.1 hx;obtain⟨p,h3,h4⟩:=aB.1 h2;obtain⟨i2,h5,h6⟩:=aB.1 h4;obtain⟨h7,h8⟩:=aH.1 h6;obtain⟨u,h9,h10⟩:=aB.1 h8;obtain⟨id,off,rfl,h11⟩:=aFk h10;injection h11 with h11;injection h11 with h11;subst h11;exact aQh hS (aCo ht h1) h3 (aQj (aCo ht h5)) h7 h9 k
 ·obtain⟨i,h1,h2⟩:=aB.1 hx;obtain⟨u,h3,h4⟩:=aB.1 h2;obtain⟨id,off,rfl,h5⟩:=aFk h4;obtain⟨w,h6,h7⟩:=aB.1 h5;obtain⟨l,h8,h9⟩:=aB.1 h7;obtain⟨u,h10,h11⟩:=aB.1 h9;injection h11 with h11;injection h11 with h11 h12;subst h11;subst h12;obtain⟨w1,wb⟩:=w;have hq:w1=id:=hq.1;subst hq;exact gG hS (aCo ht h1) h3 h6 h8 h10 k
 ·cases hx
theorem aJ7{ops:List Oper}{g:Option (Nat × Bool)}{t:Bool}(hS:St β h0 e s h ws ls ps)(hx:wnt ops s g=some t):wanted ops e g=some t:=by
 unfold wnt at hx;split at hx
 ·injection hx with hx;subst hx;rfl
 ·obtain⟨o,h1,hx⟩:=aB.1 hx;obtain⟨j,h2,hx⟩:=aB.1 hx;obtain⟨v,h3,hx⟩:=aB.1 hx;split at hx
  ·injection hx with hx;rw[←hx];exact aF hS h1 h2 h3
  ·cases hx
theorem aFl{ops:List Oper}{Q:Env→H→Prop}(ht:aFj F tys):∀{js:List Nat} {l l':List Oper} {s s':List (Nat × AV)} {q q':List (Nat × Nat)} {e:Env},St β h0 e s h ws ls ps→seg tys nt ops ws js l s q=some (s',l',q')→eqs q'→(∀e,St β h0 e s' h ws ls ps→Xr F nt ops l' e h Q)→Xr F nt ops l e h Q∧eqs q
 | [],l,l',s,s',q,q',e,hS,hx,hq,k=>by
   injection hx with hx;injection hx with h1 hx;injection hx with h2 h3;subst h1;subst h2;subst h3;exact⟨k _ hS,hq⟩
 |j::js,[],l',s,s',q,q',e,hS,hx,hq,k=>by cases hx
 |j::js,o::l,l',s,s',q,q',e,hS,hx,hq,k=>by
  unfold seg at hx;obtain⟨t,hg,hx⟩:=aB.1 hx;obtain⟨d,hd,hx⟩:=aB.1 hx;obtain⟨h1,hx⟩:=aH.1 hx;cases t with
  |true=>
   obtain⟨u,h3,h4⟩:=aB.1 (show (ob (sop tys s ws j o.op) fun v=>seg tys nt ops ws js l ((d,v.1)::s) (v.2++q))=_ from hx);have key:∀e2,St β h0 e2 ((d,u.1)::s) h ws ls ps→Xr F nt ops l e2 h Q∧eqs (u.2++q):=fun e2 hS2=>aFl ht hS2 h4 hq k;have he:=(key _ ⟨hS.k.set d u.1,hS.n,hS.bar,hS.o,hS.l,hS.w,hS.ls,hS.ps⟩).2;exact⟨aK (aJ7 hS hg) hd h1 (aQk ht hS h3 (aAV he).1 (hS.pk fun e2 hS2=>(key e2 hS2).1)),(aAV he).2⟩
  |false=>
   have key:∀e2,St β h0 e2 ((d,un)::s) h ws ls ps→Xr F nt ops l e2 h Q∧eqs q:=fun e2 hS2=>aFl ht hS2 (show seg tys nt ops ws js l ((d,un)::s) q=_ from hx) hq k;have he:=(key _ ⟨hS.k.set d un,hS.n,hS.bar,hS.o,hS.l,hS.w,hS.ls,hS.ps⟩).2;exact⟨rR hS (aJ7 hS hg) hd h1 fun e2 hS2=>(key e2 hS2).1,he⟩
theorem bJ(js:List Nat){ops l l':List Oper}{s':List (Nat × AV)}{q:List (Nat × Nat)}{Q:Env→H→Prop}(ht:aFj F tys)(hS:St β h0 e s h ws ls ps)(hx:seg tys nt ops ws js l s []=some (s',l',q))(hq:eqs q)(k:∀e,St β h0 e s' h ws ls ps→Xr F nt ops l' e h Q):Xr F nt ops l e h Q:=
 (aFl ht hS hx hq k).1
end
end Go.Proofs.YthjhkhlafhjjmaaGreatDoor.E
namespace Go.Proofs.YthjhkhlafhjjmaaGreatDoor.E
open Go
noncomputable section
def hints:T 3 (T 3 (List Nat × List (Nat × List Nat))):=T.ofL [
 (3,T.ofL [(12,[0,3,1,4,2,5,6,7],[(8,[]),(9,[])]),(13,[0,1,2,3,4,5,6,7],[(8,[])]),(14,[0,1,3,4,2,5,6,7,8,9,10,12,14,15,11,13,16,17,18,19,20,21,22,23,24,25,26,27,28],[])]),
 (4,T.ofL [(6,[0,1,2,3,4,5,6,7,8,9,10,11,12,13,14,15,16,17,18,19,20,21,22,23,24,25,26,27,28,29,30,31,32,33,34,35,36,37,38,39,40,41,42,43,44,45,46,47,48,49,50,51,52,53,54,55,56,57,58,59,60,61,62,63],[]),(10,[2,0,1,3,4,5,6,7,8,9,10],[]),(11,[2,0,1,3,4,5,6,7,8,9],[]),(12,[0,1,2,3,4,5,6,7,8,9,10,11,12,13,14,15,16,17,18,19,20,21,22,23,24,25,26,27,28,29,30,31,32,33,34,35,36,37,38,40,41,42,39,43,44,45,46],[])]),
 (7,T.ofL [(8,[0,4,1,5,2,6],[(3,[4,5,6]),(7,[]),(8,[]),(9,[])])]),
 (8,T.ofL [(11,[0,1,2,3,4,5,6,7,8,9,10,11,12,13,14],[(15,[])])]),
 (9,T.ofL [(6,[0,1,2,4,5,6,3,7,8,9],[])]),
 (14,T.ofL [(8,[0,1,2,3,4,5,7,8,6,9,10,11],[(12,[])])]),
 (16,T.ofL [(5,[3,4,5,0,1,6,2,7],[(8,[])])]),
 (17,T.ofL [(5,[3,4,5,0,1,6,2,7,8],[(9,[])])]),
 (18,T.ofL [(4,[0,2,1,3,4,5],[]),(5,[2,6,0,4,1,3,5,7,8,9],[]),(6,[0,2,4,6,8,10,1,3,7,9,5,11,12,13,14,15,16,17],[]),(10,[0,1,2,4,7,5,3,6,8,9,10],[(11,[])])]),
 (22,T.ofL [(1,[0,2,1,3,4],[])]),
 (27,T.ofL [(1,[2,0,3,1,4,5,6],[])]),
 (28,T.ofL [(14,[0,1,2,3,4,5,6],[(7,[]),(8,[])])]),
 (29,T.ofL [(7,[0,3,1,4,2,5,6,7],[])]),
 (32,T.ofL [(4,[0,3,1,4,2,5,6,7],[])]),
 (33,T.ofL [(6,[0,2,4,1,3,5,6,7,8],[])]),
 (38,T.ofL [(1,[0,1,2,3],[(4,[])])]),
 (41,T.ofL [(3,[0,1,2,3],[(4,[]),(5,[])])]),
 (42,T.ofL [(1,[0,2,1,3],[(4,[]),(5,[])]),(2,[0,2,5,7,1,3,6,8,4,9,10],[(11,[])])]),
 (43,T.ofL [(1,[0,2,1,3,4],[(5,[])])]),
 (48,T.ofL [(6,[0,1,3,5,6,8,11,2,4,7,9,10,12,13,14],[])]),
 (56,T.ofL [(3,[0,7,1,3,8,11,2,4,5,6,9,10,12,13,14,15],[]),(8,[0,5,1,2,6,7,3,4,8,9,10,11],[])]),
 (61,T.ofL [(9,[0,1,2,3,4,5,6,8,9,10,7,11,12,13],[(14,[])]),(14,[0,1,2,3,4,5,6,7,8,10,11,12,9,13,14,15,16,17],[(18,[])])]),
 (62,T.ofL [(4,[0,2,3,4,5,6,7,1,8,9,10],[])]),
 (65,T.ofL [(4,[0,2,3,4,5,6,7,1,8,9,10,11],[])]),
 (66,T.ofL [(4,[0,1,2,3],[(4,[])])]),
 (69,T.ofL [(9,[2,3,4,0,1,5,6,7,8],[(9,[])]),(11,[0,1,2],[(3,[]),(4,[])])]),
 (70,T.ofL [(4,[0,1,3,2,4,5,6,7,8,9,10],[])]),
 (71,T.ofL [(3,[0,1,2],[(3,[])]),(5,[3,5,7,0,2,1,4,6,8],[(9,[])])]),
 (72,T.ofL [(1,[0,1,3,5,6,9,10,13,2,4,7,11,14,8,12,15,16],[(17,[])])]),
 (76,T.ofL [(1,[0,2,1,3],[(4,[]),(5,[])]),(2,[0,2,5,7,1,3,6,8,4,9,10,11],[(12,[])])]),
 (78,T.ofL [(7,[0,2,1,3,4,6,5],[(7,[])])]),
 (85,T.ofL [(1,[0,1,3,4,2,5],[(6,[]),(7,[])]),(4,[0,4,1,2,5,6,3,7,8,9],[(10,[]),(11,[])]),(5,[0,4,1,2,5,6,3,7,8,9],[(10,[]),(11,[])]),(7,[0,6,12,18,1,2,3,4,7,8,9,10,13,14,15,16,19,20,21,22,5,11,17,23,24,25],[])]),
 (86,T.ofL [(1,[0,3,1,4,2,5,6,7],[(8,[])])]),
 (102,T.ofL [(1,[0,2,5,1,3,6,4,7,8],[(9,[])])]),
 (103,T.ofL [(1,[0,4,1,2,5,3,6],[(7,[])])]),
 (104,T.ofL [(2,[0,2,5,7,11,13,16,18,1,3,6,8,12,14,17,19,4,9,10,15,20,21,22],[(23,[])]),(4,[0,2,1,3,4],[(5,[])]),(7,[0,2,1,3,4,5],[(6,[2,3]),(7,[])]),(12,[1,5,0,2,4,6,3,7,8],[(9,[])])]),
 (105,T.ofL [(1,[0,3,1,4,2,5,6],[(7,[])])]),
 (107,T.ofL [(8,[0,1,2,4,5,6,3,7,8,9],[]),(10,[0,1,2,4,5,6,3,7,8,9],[])]),
 (113,T.ofL [(7,[0,1,2,3,4,5,6,7],[]),(8,[0,1,2,3,4,5,6,7,8],[(9,[])])]),
 (114,T.ofL [(2,[0,2,4,6,1,8,3,9,5,10,7,11],[]),(6,[0,1,2,3,4,5,6,7,8,9,10,11,12,13,14,15],[])]),
 (117,T.ofL [(3,[0,1,2,4,5,6,3,7,8],[])]),
 (118,T.ofL [(5,[0,1,2,3,4,5,6,7],[])]),
 (123,T.ofL [(5,[0,1,2,3,4,5],[(6,[])])]),
 (134,T.ofL [(7,[0,1,2,3,4,5,6,7,8],[(9,[])])]),
 (135,T.ofL [(1,[0,1,2,3,6,7,8,4,9,5,10,11,12,13,14,15,16],[])]),
 (136,T.ofL [(7,[0,1,2,3,5,4,6,7],[(8,[])]),(8,[1,2,3,6,7,0,4,5,8,9],[(10,[])]),(14,[0,1,2,3,4,5,6,7,8],[(9,[])]),(22,[0,1,2,3,4,6,7,8,9,5,10,11,12],[(13,[])])]),
 (137,T.ofL [(1,[0,1,4,5,2,6,3,7,8,9],[(10,[])])]),
 (141,T.ofL [(3,[0,1,2,6,7,8,3,4,5,9,10,11],[(12,[6,7,8,9,10,11]),(13,[])])]),
 (144,T.ofL [(3,[0,1,2,3,4,5,6,7,8,9,10,11],[])]),
 (159,T.ofL [(1,[0,3,1,4,2,5,6],[(7,[])])]),
 (160,T.ofL [(2,[0,1,2,3,4,5,6,7,8,9],[])]),
 (161,T.ofL [(2,[0,1,2,3,4,5,6,7,8,9],[])]),
 (163,T.ofL [(1,[0,1,2,3,4,5,6,7,8,9],[])]),
 (164,T.ofL [(1,[0,3,5,1,2,4,9,6,7,8,10],[])]),
 (167,T.ofL [(3,[0,1,2,3,5,7,8,9,10,12,13,4,6,11,14,15,16],[]),(4,[0,1,2,3,5,7,8,9,10,12,13,4,6,11,14,15,16],[]),(9,[0,1,2,3,4,5],[])]),
 (175,T.ofL [(0,[0,2,1,3,4,5],[])]),
 (176,T.ofL [(2,[0,1,2,5,6,7,3,8,4,9,10,11],[(12,[10]),(13,[])]),(14,[0,1,3,4,5,2,6,7,8],[(9,[])]),(16,[0,1,2,3,4,7,8,9,10,11,5,6,12,13,14,15],[(16,[])])]),
 (177,T.ofL [(1,[0,2,4,1,3,5,6,7],[(8,[])])]),
 (178,T.ofL [(1,[0,1,2,3,5,7,8,9,11,12,4,10,6,13,14,15,16],[(17,[])])]),
 (179,T.ofL [(1,[0,1,2,3,4],[])]),
 (183,T.ofL [(0,[0,1,2,4,5,6,3,7,8,9,10],[(11,[])]),(1,[0,1,2,3,4,5,6],[(7,[])]),(3,[0,1,2,4,5,3],[(6,[1,3]),(7,[]),(8,[]),(9,[])]),(4,[0,1,2,4,5,3],[(6,[1,3]),(7,[]),(8,[]),(9,[])])]),
 (184,T.ofL [(2,[0,1,2,4,5,6,3,7,9,8,10,11],[(12,[])]),(3,[0,1,2,4,6,3,5,8,7,9,10,11],[(12,[])]),(4,[1,2,3,0,4,5,6,7,8],[(9,[]),(10,[])]),(8,[0,1,2,3,4,5],[(6,[])]),(10,[0,1,2,3,4,5],[(6,[])]),(13,[0,1,2,3,4,8,9,5,6,7],[(10,[1,2,3,5,6,7]),(11,[2,3,6,7]),(12,[2,3,6,7]),(13,[2,3,6,7]),(14,[3,7]),(15,[3,7]),(16,[3,7]),(17,[]),(18,[]),(19,[])])]),
 (185,T.ofL [(2,[0,1,3,4,2,6,5,7],[]),(7,[0,1,2,3,4,5,6,7,9,10,11,12,13,8,14,15],[(16,[2,3,4,5]),(17,[]),(18,[])]),(11,[0,1,2,3,4,6,7,8,9,5,10,11,12],[(13,[])]),(18,[0,1,2,3,4,5,6,7,8,12,13,14,15,16,9,10,17,18,11,19,20],[(21,[2,3,4,5]),(22,[]),(23,[])]),(19,[0,1,2],[(3,[])])]),
 (197,T.ofL [(6,[0,1,2,3,4,5,6,7],[])]),
 (198,T.ofL [(13,[0,1,2,3,4,5,6,7],[])]),
 (204,T.ofL [(7,[0,1,3,2,4],[(5,[])])]),
 (206,T.ofL [(1,[2,3,4,0,5,1,6,7,8,9],[])]),
 (207,T.ofL [(4,[2,3,0,1,4,5],[(6,[])])]),
 (208,T.ofL [(1,[0,1,2,5,6,8,9,10,13,14,3,11,4,7,12,15,16,17],[(18,[]),(19,[])]),(2,[0,1,2,3,4,5],[(6,[])]),(4,[0,1,3,2,4,5,6],[(7,[])]),(5,[1,2,0,3,4,5,6],[(7,[])])]),
 (214,T.ofL [(5,[0,1,2,4,5,6,7,9,3,8,10,11,12,13,14,15],[])]),
 (218,T.ofL [(1,[0,1,2,3,4,5,6,7,8,9],[])]),
 (219,T.ofL [(11,[1,2,3,4,0,5,6],[(7,[]),(8,[])])]),
 (226,T.ofL [(1,[0,7,9,13,1,2,3,4,5,6,8,11,10,12,14,15],[(16,[])])]),
 (228,T.ofL [(6,[0,1,3,2,4],[])]),
 (232,T.ofL [(3,[0,1,2,5,6,7,11,3,4,8,9,10,12],[])]),
 (235,T.ofL [(1,[0,1,2,5,6,7,3,4,8,9,10,11],[])]),
 (236,T.ofL [(4,[0,7,1,3,2,4,5,6,8,9],[])]),
 (241,T.ofL [(0,[0,1,2,6,9,10,11,3,4,5,7,12,13,8,14,15],[])]),
 (242,T.ofL [(2,[0,2,3,1,5,4,6,7,8,9,10,11,12],[]),(4,[0,2,1,4,3,5,6,7,8,9,10,11],[])])]
def aIn(fn id:Nat):Option (List Nat × List (Nat × List Nat)):=ob (hints.get fn) fun t=>t.get id
end
end Go.Proofs.YthjhkhlafhjjmaaGreatDoor.E
namespace Go.Proofs.YthjhkhlafhjjmaaGreatDoor.E
open Go Go.RowKit
open Ma Me K
inductive Y where
 |a (v:AV)
 |b (x:Bool)
 |p (k off:Nat)
noncomputable section
def Fc(F:Cf)(f:Nat)(args:List AV)(v:AV):Prop:=∀h:H,h.bar≤h.n→Xc F f args h fun u h'=>u=v∧Xh h h'
def oo{α:Type}(r:Option α)(k:α→Prop):Prop:=match r with|some x=>k x|none=>False
def lkY:List (Nat × Y)→Nat→Option Y
 | [],_=>none
 |p::s,k=>cb (Nat.beq p.1 k) (some p.2) (lkY s k)
def lit(v:AV):Y:=match v with| .c false [.b x]=>.b x|v=>.a v
def yv(s:List (Nat × Y))(x:Operand):Option Y:=match x with
 | .tmp t=>lkY s t
 |x=>ob (evs [] x) fun v=>some (lit v)
def rl(y:Y):Option AV:=match y with| .a v=>some v| .b x=>some (sc (.b x))| .p _ _=>none
def yvL(s:List (Nat × Y))(l:List Operand):Option (List AV):=match l with
 | []=>some []
 |x::l=>ob (yv s x) fun y=>ob (rl y) fun v=>ob (yvL s l) fun r=>some (v::r)
def ptY(y:Y)(k:Nat→Nat→Prop):Prop:=match y with| .p i off=>k i off|_=>False
def one'(y:Y)(k:SV→Prop):Prop:=match y with| .a (.c false [x])=>k x| .b x=>k (.b x)|_=>False
def at_(ws:List B)(k:Nat):Nat:=len ws-1-k
def aL5(d:Dk)(op:BinOp)(x y:SV)(k:SV→Prop):Prop:=match op,x,y with
 | .lss,.i .i64 m,.i .i64 n=>k (.b (decide (m<n)))
 | .gtr,.i .i64 m,.i .i64 n=>k (.b (decide (n<m)))
 | .leq,.i .i64 m,.i .i64 n=>k (.b (decide (m≤n)))
 | .geq,.i .i64 m,.i .i64 n=>k (.b (decide (n≤m)))
 | .eql,.i .i64 m,.i .i64 n=>k (.b (decide (m=n)))
 | .neq,.i .i64 m,.i .i64 n=>k (.b (decide (m≠n)))
 | .add,.i .i64 m,.i .i64 n=>(-9223372036854775808≤m+n∧m+n<9223372036854775808)∧k (.i .i64 (m+n))
 | .sub,.i .i64 m,.i .i64 n=>(-9223372036854775808≤m-n∧m-n<9223372036854775808)∧k (.i .i64 (m-n))
 |op,x,y=>∃r,bop d op x y=some r∧k r
def zX(pl:Nat→Option (Nat × Nat))(s:List (Nat × Y)):List (Nat × Operand)→List SV→Option (List SV)
 | [],a=>some a
 |p::l,a=>ob (pl p.1) fun q=>ob (yv s p.2) fun y=>ob (rl y) fun v=>cells v fun c=>cb (Nat.beq (len c) q.2) (ob (iR q.1 c a) fun a=>zX pl s l a) none
def tyL'(tys:List (Nat × TI))(t:Nat)(k:TI→Prop):Prop:=match tys with
 | []=>False
 |p::l=>cb (Nat.beq p.1 t) (k p.2) (tyL' l t k)
def szL(tys:List (Nat × TI)):List (Nat × Nat)→(List (Nat × Nat)→Prop)→Prop
 | [],k=>k []
 |p::l,k=>tyL' tys p.2 fun i=>szL tys l fun r=>k ((p.1,i.sz)::r)
section
variable (F:Cf) (tys:List (Nat × TI))
def aL6(c:Call)(s:List (Nat × Y))(k:AV→Prop):Prop:=match c with
 |⟨.value (.func f),xs,_⟩=>oo (yvL s xs.toList) fun l=>∃v,Fc F f l v∧k v
 |⟨.builtin .len,xs,ts⟩=>(match ts.toList,xs.toList with
  | [t],[x]=>tyL' tys t fun i=>(match i.d with
    | .sl _=>oo (yv s x) fun y=>one' y fun v=>(match v with| .m n=>oo (F.ln n) fun n=>k (sc (.i .i64 (n:Int)))|_=>False)
    |_=>False)
  |_,_=>False)
 |_=>False
def vop(st:Bool)(o:Op)(s:List (Nat × Y))(ws:List B)(k:Y→List B→Prop):Prop:=match o with
 | .move x=>oo (yv s x) fun y=>k y ws
 | .assign x=>oo (yv s x) fun y=>k y ws
 | .pick c a d=>oo (yv s c) fun y=>(match y with| .b x=>oo (yv s (cb x a d)) fun y=>k y ws|_=>False)
 | .extract x n=>oo (yv s x) fun y=>(match y with| .a (.t l)=>oo (drp n l).head? fun p=>k (.a (.c p.1 p.2)) ws|_=>False)
 | .fieldAddr sT x f=>tyL' tys sT fun i=>oo (fields i.d f) fun q=>tyL' tys q.2 fun j=>cb (Nat.blt 0 j.sz) (oo (yv s x) fun y=>ptY y fun n off=>k (.p n (off+q.1)) ws) False
 | .load t x=>tyL' tys t fun i=>oo (yv s x) fun y=>ptY y fun n off=>oo ws[at_ ws n]? fun b=>oo (eX i.sz (drp off b.c)) fun l=>oo (av i.d.ag l) fun v=>k (.a v) ws
 | .store t a x=>cb st (tyL' tys t fun i=>oo (yv s a) fun y=>ptY y fun n off=>oo (yv s x) fun y=>oo (rl y) fun v=>(match v with
   | .c _ l=>oo ws[at_ ws n]? fun b=>cb (Nat.beq l.length i.sz) (oo (iR off l b.c) fun c=>cb (calm b.c) (k (.a un) (ws.set (at_ ws n) ⟨b.ty,c⟩)) False) False
   |_=>False)) False
 | .alloc t=>tyL' tys t fun i=>k (.p (len ws) 0) (⟨t,i.ze⟩::ws)
 | .box t x=>oo (yv s x) fun y=>oo (rl y) fun v=>(match v with| .c _ l=>k (.p (len ws) 0) (⟨t,l⟩::ws)|_=>False)
 | .build t pr=>tyL' tys t fun i=>(match i.d with| .st fs=>szL tys fs fun pl=>oo (zX (fun f=>(drp f pl).head?) s pr.toList i.ze) fun c=>k (.a (.c true c)) ws|_=>False)
 | .binOp op t x y _=>tyL' tys t fun i=>cb i.d.ag False (oo (yv s x) fun y1=>one' y1 fun a=>oo (yv s y) fun y2=>one' y2 fun c=>aL5 i.d op a c fun r=>k (.a (sc r)) ws)
 | .unOp .not _ x=>oo (yv s x) fun y=>one' y fun a=>(match a with| .b x=>k (.a (sc (.b (gD x)))) ws|_=>False)
 | .unOp .neg _ x=>oo (yv s x) fun y=>one' y fun a=>(match a with| .i .i64 n=>(-9223372036854775808<n∧n≤9223372036854775807)∧k (.a (sc (.i .i64 (-n)))) ws|_=>False)
 | .call c=>aL6 F tys c s fun v=>k (.a v) ws
 |_=>False
def vgd(ops:List Oper)(s:List (Nat × Y))(g:Option (Nat × Bool))(k:Bool→List (Nat × Y)→Prop):Prop:=match g with
 |none=>k true s
 |some (g,w)=>oo (drp g ops).head? fun o=>oo o.dst fun j=>oo (lkY s j) fun y=>(match y with
  | .b x=>k (cb w x (gD x)) s
  | .a (.c false [.b x])=>(x=true→k (cb w true false) ((j,.b true)::s))∧(x=false→k (cb w false true) ((j,.b false)::s))
  |_=>False)
def vst(st:Bool)(nt:Nat)(ops:List Oper)(o:Oper)(s:List (Nat × Y))(ws:List B)(k:List (Nat × Y)→List B→Prop):Prop:=match o.dst with
 |none=>(match o.guard with|none=>vop F tys st o.op s ws fun _ ws=>k s ws|some _=>False)
 |some d=>cb (Nat.blt d nt) (vgd ops s o.guard fun t s=>cb t (vop F tys st o.op s ws fun y ws=>k ((d,y)::s) ws) (k ((d,.a un)::s) ws)) False
def aIo(nt:Nat)(ops:List Oper):List Oper→List (Nat × Y)→List B→(List (Nat × Y)→List B→Prop)→Prop
 | [],s,ws,k=>k s ws
 |o::l,s,ws,k=>vst F tys true nt ops o s ws fun s ws=>aIo nt ops l s ws k
def vA(nt:Nat)(ops:List Oper):List Nat→List (Nat × Y)→List B→(List (Nat × Y)→List B→Prop)→Prop
 | [],s,ws,k=>k s ws
 |i::l,s,ws,k=>oo (drp i ops).head? fun o=>vst F tys false nt ops o s ws fun s ws=>vA nt ops l s ws k
def vag(ops:List Oper)(s:List (Nat × Y))(ws:List B):List Nat→Prop
 | []=>True
 |i::l=>oo (drp i ops).head? fun o=>(match o.op with
  | .fieldAddr ..=>vag ops s ws l
  | .load t x=>tyL' tys t fun j=>oo (yv s x) fun y=>ptY y fun n off=>oo ws[at_ ws n]? fun b=>oo (eX j.sz (drp off b.c)) fun c=>oo (av j.d.ag c) fun u=>oo o.dst fun d=>oo (lkY s d) fun y=>o.guard=none∧y=.a u∧avb u u=true∧vag ops s ws l
  |_=>False)
def vB(nt:Nat)(ops:List Oper):List (Nat × List Nat)→List (Nat × Y)→List B→(List (Nat × Y)→List B→Prop)→Prop
 | [],s,ws,k=>k s ws
 |(i,[])::l,s,ws,k=>oo (drp i ops).head? fun o=>vst F tys true nt ops o s ws fun s ws=>vB nt ops l s ws k
 |(i,late)::l,s,ws,k=>oo (drp i ops).head? fun o=>vst F tys true nt ops o s ws fun s ws=>vag tys ops s ws late∧vB nt ops l s ws k
def vc(nt fn:Nat):Code→List (Nat × Y)→List B→(Ex→List (Nat × Y)→List B→Prop)→Prop
 | .skip,s,ws,k=>k .n s ws
 | .ret,s,ws,k=>k .r s ws
 | .exit id,s,ws,k=>k (.x id) s ws
 | .seq a b,s,ws,k=>vc nt fn a s ws fun x s ws=>(match x with| .n=>vc nt fn b s ws k|x=>k x s ws)
 | .region id ops dr,s,ws,k=>cb dr (oo (F.pl fn id) fun p=>mY F ops p=true∧vA F tys nt ops.toList p.1 s ws fun s ws=>vB F tys nt ops.toList p.2 s ws (k .n)) (aIo F tys nt ops.toList ops.toList s ws (k .n))
 | .cond c a b,s,ws,k=>oo (yv s c) fun y=>(match y with
   | .b x=>cb x (vc nt fn a s ws k) (vc nt fn b s ws k)
   | .a (.c false [.b x])=>(x=true→vc nt fn a s ws k)∧(x=false→vc nt fn b s ws k)
   |_=>False)
 | .block id a,s,ws,k=>vc nt fn a s ws fun x s ws=>(match x with| .x j=>cb (Nat.beq id j) (k .n s ws) (k (.x j) s ws)|x=>k x s ws)
 |_,_,_,_=>False
def aL7(r:ResultVar)(s:List (Nat × Y))(ws:List B)(k:Bool × List SV→Prop):Prop:=match r with
 | .tmp t=>oo (lkY s t) fun y=>oo (rl y) fun v=>(match v with| .c g l=>k (g,l)|_=>False)
 | .cell t ty=>tyL' tys ty fun i=>oo (lkY s t) fun y=>ptY y fun n off=>oo ws[at_ ws n]? fun b=>oo (eX i.sz (drp off b.c)) fun l=>cb i.d.ag (k (true,l)) False
def aIp:List ResultVar→List (Nat × Y)→List B→(List (Bool × List SV)→Prop)→Prop
 | [],_,_,k=>k []
 |r::l,s,ws,k=>aL7 tys r s ws fun p=>aIp l s ws fun q=>k (p::q)
def ixY(k:Nat):List AV→List (Nat × Y)
 | []=>[]
 |v::l=>(k,.a v)::ixY (k+1) l
def vfn(G:Func)(f:Nat)(cd:Code)(args:List AV)(v:AV):Prop:=vc F tys G.ntmps f cd (ixY 0 args) [] fun x s ws=>(match x with
 | .x _=>False
 |_=>aIp tys G.results.toList s ws fun l=>tup l=v)
end
end
def YR(ids:List Nat)(y:Y)(v:AV):Prop:=match y with
 | .a u=>v=u
 | .b x=>v=sc (.b x)
 | .p k off=>k<ids.length∧∃id,ids[ids.length-1-k]? =some id∧v=sc (.p id off)
def RS(ids:List Nat):List (Nat × Y)→List (Nat × AV)→Prop
 | [],[]=>True
 |p::a,q::b=>p.1=q.1∧YR ids p.2 q.2∧RS ids a b
 |_,_=>False
def zp:List Nat→List B→List (Nat × B)
 |i::l,b::m=>(i,b)::zp l m
 |_,_=>[]
structure Sy (F:Cf) (β:Nat) (g:H) (e:Env) (h:H) (sy:List (Nat × Y)) (ws:List B) (ls:List (AV × List Rat)) (ps:List (AV × Rat)) (ids:List Nat) (s:List (Nat × AV)):Prop where
 r:RS ids sy s
 len:ids.length=ws.length
 st:St β g e s h (zp ids ws) ls ps
section
variable {F:Cf} {tys:List (Nat × TI)} {nt fn β:Nat} {g h h':H} {e:Env} {sy:List (Nat × Y)} {s:List (Nat × AV)} {ws:List B} {ls:List (AV × List Rat)} {ps:List (AV × Rat)} {ids:List Nat} {y:Y} {v:AV} {zs:List (Nat × B)}
theorem bQ{α:Type}{r:Option α}{k:α→Prop}(h:oo r k):∃x,r=some x∧k x:=by
 cases r with
 |none=>exact h.elim
 |some x=>exact⟨x,rfl,h⟩
theorem cbT{c:Bool}{p:Prop}(h:cb c p False):c=true∧p:=by cases c with|true=>exact⟨rfl,h⟩|false=>exact h.elim
theorem cbF{c:Bool}{p:Prop}(h:cb c False p):c=false∧p:=by cases c with|false=>exact⟨rfl,h⟩|true=>exact h.elim
theorem YR.mono{i:Nat}(h:YR ids y v):YR (i::ids) y v:=by
 cases y with
 |a u=>exact h
 |b x=>exact h
 |p k off=>
  obtain⟨h1,id,h2,h3⟩:=h;refine⟨Nat.lt_succ_of_lt h1,id,?_,h3⟩;rw[List.length_cons,show ids.length+1-1-k=(ids.length-1-k)+1 by omega];exact h2
theorem RS.mono{i:Nat}:∀{sy:List (Nat × Y)} {s:List (Nat × AV)},RS ids sy s→RS (i::ids) sy s
 | [],[],_=>trivial
 |_::_,_::_,h=>⟨h.1,h.2.1.mono,RS.mono h.2.2⟩
theorem RS.cons{d:Nat}(h:RS ids sy s)(hy:YR ids y v):RS ids ((d,y)::sy) ((d,v)::s):=⟨rfl,hy,h⟩
theorem RS.lk:∀{sy:List (Nat × Y)} {s:List (Nat × AV)} {d:Nat} {y:Y},RS ids sy s→lkY sy d=some y→∃v,E.lk s d=some v∧YR ids y v
 |p::a,q::b,d,y,h,hx=>by
  obtain⟨p1,p2⟩:=p;obtain⟨q1,q2⟩:=q;obtain⟨h1,h2,h3⟩:=h;have h1:p1=q1:=h1;subst h1;have hx:cb (Nat.beq p1 d) (some p2) (lkY a d)=some y:=hx;show ∃v,cb (Nat.beq p1 d) (some q2) (E.lk b d)=some v∧YR ids y v;cases hb:Nat.beq p1 d with
  |true=>
   rw[hb]at hx;injection hx with hx;subst hx;exact⟨q2,rfl,h2⟩
  |false=>
   rw[hb]at hx;exact RS.lk h3 hx
theorem aJ8{v:AV}:YR ids (lit v) v:=by
 unfold lit;split<;>rfl
theorem RS.ev{x:Operand}(h:RS ids sy s)(hx:yv sy x=some y):∃v,evs s x=some v∧YR ids y v:=by
 cases x with
 |tmp t=>exact h.lk hx
 |const c=>
  obtain⟨v,h1,h2⟩:=aB.1 (show ob (evs [] (.const c)) (fun v=>some (lit v))=some y from hx);injection h2 with h2;subst h2;exact⟨v,h1,aJ8⟩
 |global c=>cases hx
 |func f=>
  injection hx with hx;subst hx;exact⟨_,rfl,aJ8⟩
theorem aCp{u:AV}(h:rl y=some u)(hy:YR ids y v):v=u:=by
 cases y with
 |a w=>injection h with h;exact hy.trans h
 |b x=>injection h with h;exact hy.trans h
 |p k off=>cases h
theorem RS.evL(h:RS ids sy s):∀{l:List Operand} {vs:List AV},yvL sy l=some vs→aBz s l=some vs
 | [],vs,hx=>hx
 |x::l,vs,hx=>by
  obtain⟨y,h1,hx⟩:=aB.1 (show ob (yv sy x) (fun y=>ob (rl y) fun v=>ob (yvL sy l) fun r=>some (v::r))=some vs from hx);obtain⟨v,h2,hx⟩:=aB.1 hx;obtain⟨r,h3,h4⟩:=aB.1 hx;obtain⟨u,h5,h6⟩:=h.ev h1;have:=aCp h2 h6;subst this;show ob (evs s x) (fun v=>ob (aBz s l) fun r=>some (v::r))=some vs;rw[h5,h.evL h3];exact h4
theorem zY{k:Nat→Nat→Prop}(h:ptY y k)(hy:YR ids y v):∃n off id,n<ids.length∧ids[ids.length-1-n]? =some id∧v=sc (.p id off)∧y=.p n off∧k n off:=by
 cases y with
 |a w=>exact h.elim
 |b x=>exact h.elim
 |p n off=>exact⟨n,off,hy.2.choose,hy.1,hy.2.choose_spec.1,hy.2.choose_spec.2,rfl,h⟩
theorem zZ{k:SV→Prop}(h:one' y k)(hy:YR ids y v):∃x,v=sc x∧k x:=by
 unfold one' at h;split at h
 ·exact⟨_,hy,h⟩
 ·exact⟨_,hy,h⟩
 ·exact h.elim
theorem aCq:∀{ids:List Nat} {ws:List B} {j i:Nat} {b:B},ids[j]? =some i→ws[j]? =some b→(zp ids ws)[j]? =some (i,b)
 |_::_,_::_,0,_,_,h1,h2=>by
  injection h1 with h1;injection h2 with h2;subst h1;subst h2;rfl
 |_::l,_::m,j+1,_,_,h1,h2=>aCq (ids:=l) (ws:=m) (j:=j) h1 h2
 | [],_,_,_,_,h1,_=>by simp at h1
 |_::_,[],_,_,_,_,h2=>by simp at h2
theorem aJ9:∀{ids:List Nat} {ws:List B} {j i:Nat} {b:B},ids[j]? =some i→(zp ids ws).set j (i,b)=zp ids (ws.set j b)
 |_::_,_::_,0,_,_,h1=>by injection h1 with h1;subst h1;rfl
 |i::l,b::m,j+1,_,_,h1=>congrArg ((i,b)::·) (aJ9 (ids:=l) (ws:=m) (j:=j) h1)
 | [],_,_,_,_,h1=>by simp at h1
 |_::_,[],_,_,_,_=>by simp[zp]
theorem at_eq(hl:ids.length=ws.length)(k:Nat):at_ ws k=ids.length-1-k:=by unfold at_;rw[iD,hl]
theorem tyL'_ok:∀{tys:List (Nat × TI)} {t:Nat} {k:TI→Prop},(∀p∈tys,F.ti p.1=some p.2)→tyL' tys t k→∃i,F.ti t=some i∧k i
 | [],_,_,_,h=>h.elim
 |p::l,t,k,ht,h=>by
  have h:cb (Nat.beq p.1 t) (k p.2) (tyL' l t k):=h;cases hb:Nat.beq p.1 t with
  |true=>
   rw[hb]at h;exact⟨p.2,aY.1 hb▸ht _ (List.mem_cons_self ..),h⟩
  |false=>
   rw[hb]at h;exact tyL'_ok (fun q hq=>ht q (List.mem_cons_of_mem _ hq)) h
theorem szF{t:Nat}{i:TI}(h:F.ti t=some i):sz F t=some i.sz:=by unfold sz;rw[h];rfl
theorem aKa(ht:∀p∈tys,F.ti p.1=some p.2):∀{fs:List (Nat × Nat)} {k:List (Nat × Nat)→Prop},szL tys fs k→∃pl,szs F fs=some pl∧k pl
 | [],_,h=>⟨[],rfl,h⟩
 |p::l,k,h=>by
  obtain⟨i,h1,h2⟩:=tyL'_ok ht (show tyL' tys p.2 _ from h);obtain⟨pl,h3,h4⟩:=aKa ht h2;refine⟨_,?_,h4⟩;show ob (sz F p.2) (fun s=>ob (szs F l) fun r=>some ((p.1,s)::r))=_;rw[szF h1,h3];rfl
theorem aDR{pl:Nat→Option (Nat × Nat)}(h:RS ids sy s):∀{l:List (Nat × Operand)} {a c:List SV},zX pl sy l a=some c→oI pl s l a=some c
 | [],_,_,hx=>hx
 |p::l,a,c,hx=>by
  obtain⟨q,h1,hx⟩:=aB.1 (show ob (pl p.1) (fun q=>ob (yv sy p.2) fun y=>ob (rl y) fun v=>cells v fun c=>cb (Nat.beq (len c) q.2) (ob (iR q.1 c a) fun a=>zX pl sy l a) none)=some c from hx);obtain⟨y,h2,hx⟩:=aB.1 hx;obtain⟨v,h3,hx⟩:=aB.1 hx;obtain⟨u,h5,h6⟩:=h.ev h2;have:=aCp h3 h6;subst this;show ob (pl p.1) (fun q=>ob (evs s p.2) fun v=>cells v fun c=>cb (Nat.beq (len c) q.2) (ob (iR q.1 c a) (oI pl s l)) none)=some c;rw[h1];show ob (evs s p.2) (fun v=>cells v fun c=>cb (Nat.beq (len c) q.2) (ob (iR q.1 c a) (oI pl s l)) none)=some c;rw[h5];cases u with
  |t l=>cases hx
  |c gg cs=>
   obtain⟨h7,hx⟩:=aH.1 (show cb (Nat.beq (len cs) q.2) (ob (iR q.1 cs a) fun a=>zX pl sy l a) none=some c from hx);obtain⟨a2,h8,h9⟩:=aB.1 hx;show cb (Nat.beq (len cs) q.2) (ob (iR q.1 cs a) (oI pl s l)) none=some c;rw[h7,h8];exact aDR h h9
theorem aOm{d:Dk}{op:BinOp}{x z:SV}{k:SV→Prop}(h:aL5 d op x z k):∃r,bop d op x z=some r∧k r:=by
 unfold aL5 at h;split at h
 ·exact⟨_,aLZ,h⟩
 ·exact⟨_,aL0,h⟩
 ·exact⟨_,aSA,h⟩
 ·exact⟨_,aL1,h⟩
 ·exact⟨_,aL2,h⟩
 ·exact⟨_,aL3,h⟩
 ·exact⟨_,iJ h.1.1 h.1.2,h.2⟩
 ·exact⟨_,qK h.1.1 h.1.2,h.2⟩
 ·exact h
def Aft(F:Cf)(β:Nat)(g:H)(e:Env)(ls:List (AV × List Rat))(ps:List (AV × Rat))(sy:List (Nat × Y))(k:Y→List B→Prop)(v:AV)(h:H):Prop:=∃y ws ids s,k y ws∧YR ids y v∧Sy F β g e h sy ws ls ps ids s
variable {st:Bool} {k:Y→List B→Prop}
theorem aRL{t:Nat}{x:Operand}{n:Int}{Q:AV→H→Prop}(hS:St β g e s h zs ls ps)(hx:evs s x=some (sc (.i .i64 n)))(h1:-9223372036854775808<n)(h2:n≤9223372036854775807)(k:Q (sc (.i .i64 (-n))) h):Xop F (.unOp .neg t x) e h Q:=
 .now (fun _=>by
  show oUn e h .neg x=_;unfold oUn;rw[aN hS.k hx];show ob (mkZ .i64 (0-n)) (fun r=>vh r h)=_;rw[sS (by omega) (by omega),Int.zero_sub];rfl) k
theorem aQl{x:Operand}{i:TI}{t el n k:Nat}{Q:AV→H→Prop}(hS:St β g e s h zs ls ps)(ht:F.ti t=some i)(hd:i.d=.sl el)(hx:evs s x=some (sc (.m n)))(hk:F.ln n=some k)(kk:Q (sc (.i .i64 (k:Int))) h):Xop F (.call {callee:=.builtin .len,args:=#[x],argTypes:=#[t]}) e h Q:=
 zW hS (args:=[_]) (by show ob (evs s x) _=_;rw[hx];rfl) (by
  show ob (F.ti t) (fun i=>one (sc (.m n)) fun s=>(match i.d,s with| .str,.s l=>vh (.i .i64 (.ofNat (len l))) h| .sl _,.ns=>vh (.i .i64 0) h| .sl _,.sl _ _ n _=>vh (.i .i64 (.ofNat n)) h| .sl _,.v x=>roN h x| .sl _,.m n=>ob (F.ln n) fun k=>vh (.i .i64 (.ofNat k)) h|_,_=>none))=_;rw[ht];show (match i.d,SV.m n with| .str,.s l=>vh (.i .i64 (.ofNat (len l))) h| .sl _,.ns=>vh (.i .i64 0) h| .sl _,.sl _ _ n _=>vh (.i .i64 (.ofNat n)) h| .sl _,.v x=>roN h x| .sl _,.m n=>ob (F.ln n) fun k=>vh (.i .i64 (.ofNat k)) h|_,_=>none)=_;rw[hd];show ob (F.ln n) _=_;rw[hk];rfl) kk
theorem Sy.keep{v:AV}{y:Y}(hS:Sy F β g e h sy ws ls ps ids s)(hk:k y ws)(hy:YR ids y v):Aft F β g e ls ps sy k v h:=⟨y,ws,ids,s,hk,hy,hS⟩
theorem Sy.new{b:B}{id:Nat}(hS:Sy F β g e h sy ws ls ps ids s)(hk:k (.p (E.len ws) 0) (b::ws))(hn:St β g e s h' ((id,b)::zp ids ws) ls ps):Aft F β g e ls ps sy k (sc (.p id 0)) h':=
 ⟨_,b::ws,id::ids,s,hk,⟨by rw[iD,←hS.len];exact Nat.lt_succ_self _,id,by rw[iD,←hS.len,List.length_cons,Nat.add_sub_cancel,Nat.sub_self];rfl,rfl⟩,hS.r.mono,congrArg Nat.succ hS.len,hn⟩
theorem aOn{c:Call}{k:AV→Prop}(ht:∀p∈tys,F.ti p.1=some p.2)(hS:Sy F β g e h sy ws ls ps ids s)(hb:β≤h.n)(hx:aL6 F tys c sy k):Xop F (.call c) e h (Aft F β g e ls ps sy fun y w=>∃v,y=.a v∧w=ws∧k v):=by
 unfold aL6 at hx;split at hx
 ·obtain⟨l,h1,v,h2,h3⟩:=bQ hx;refine aV hS.st (hS.r.evL h1) ((h2 h (hS.st.bl hb)).mono fun u h' hq=>?_);obtain⟨rfl,hx⟩:=hq;exact Sy.keep ⟨hS.r,hS.len,hS.st.xh hx⟩ ⟨_,rfl,rfl,h3⟩ rfl
 ·rename_i xs ts;split at hx
  ·rename_i t x e1 e2;obtain⟨i,h1,hx⟩:=tyL'_ok ht hx;split at hx
   ·rename_i el hd;obtain⟨y,h2,hx⟩:=bQ hx;obtain⟨v,h3,h4⟩:=hS.r.ev h2;obtain⟨x1,h5,hx⟩:=zZ hx h4;split at hx
    ·obtain⟨n,h6,hx⟩:=bQ hx;subst h5;have a1:ts=#[t]:=Array.toList_inj.1 e1;have a2:xs=#[x]:=Array.toList_inj.1 e2;subst a1;subst a2;exact aQl hS.st h1 hd h3 h6 (hS.keep ⟨_,rfl,rfl,hx⟩ rfl)
    ·exact hx.elim
   ·exact hx.elim
  ·exact hx.elim
 ·exact hx.elim
theorem aKb{o:Op}(ht:∀p∈tys,F.ti p.1=some p.2)(hS:Sy F β g e h sy ws ls ps ids s)(hb:β≤h.n)(hw:st=true→β≤g.n)(hx:vop F tys st o sy ws k):Xop F o e h (Aft F β g e ls ps sy k):=by
 unfold vop at hx;split at hx
 ·obtain⟨y,h1,h2⟩:=bQ hx;obtain⟨v,h3,h4⟩:=hS.r.ev h1;exact aM hS.st h3 (hS.keep h2 h4)
 ·obtain⟨y,h1,h2⟩:=bQ hx;obtain⟨v,h3,h4⟩:=hS.r.ev h1;exact bK hS.st h3 (hS.keep h2 h4)
 ·obtain⟨y1,h1,hx⟩:=bQ hx;obtain⟨v1,h3,h4⟩:=hS.r.ev h1;split at hx
  ·obtain⟨y,h5,hx⟩:=bQ hx;obtain⟨v,h6,h7⟩:=hS.r.ev h5;have h4:v1=_:=h4;subst h4;exact jP hS.st h3 h6 (hS.keep hx h7)
  ·exact hx.elim
 ·obtain⟨y1,h1,hx⟩:=bQ hx;obtain⟨v1,h3,h4⟩:=hS.r.ev h1;split at hx
  ·obtain⟨p,h5,hx⟩:=bQ hx;have h4:v1=_:=h4;subst h4;exact aNb hS.st h3 h5 (hS.keep hx rfl)
  ·exact hx.elim
 ·obtain⟨i,h1,hx⟩:=tyL'_ok ht hx;obtain⟨q,h2,hx⟩:=bQ hx;obtain⟨j,h3,hx⟩:=tyL'_ok ht hx;obtain⟨h4,hx⟩:=cbT hx;obtain⟨y,h5,hx⟩:=bQ hx;obtain⟨v,h6,h7⟩:=hS.r.ev h5;obtain⟨n,off,id,h8,h9,rfl,rfl,hx⟩:=zY hx h7;exact aQh hS.st h1 h2 (szF h3) h4 h6 (hS.keep hx ⟨h8,id,h9,rfl⟩)
 ·obtain⟨i,h1,hx⟩:=tyL'_ok ht hx;obtain⟨y,h5,hx⟩:=bQ hx;obtain⟨v,h6,h7⟩:=hS.r.ev h5;obtain⟨n,off,id,h8,h9,rfl,rfl,hx⟩:=zY hx h7;obtain⟨b,h10,hx⟩:=bQ hx;obtain⟨l,h11,hx⟩:=bQ hx;obtain⟨u,h12,hx⟩:=bQ hx;rw[at_eq hS.len]at h10;exact gG hS.st h1 h6 (aCq h9 h10) h11 h12 (hS.keep hx rfl)
 ·obtain⟨hst,hx⟩:=cbT hx;obtain⟨i,h1,hx⟩:=tyL'_ok ht hx;obtain⟨y,h5,hx⟩:=bQ hx;obtain⟨v,h6,h7⟩:=hS.r.ev h5;obtain⟨n,off,id,h8,h9,rfl,rfl,hx⟩:=zY hx h7;obtain⟨y2,h10,hx⟩:=bQ hx;obtain⟨v2,h11,hx⟩:=bQ hx;obtain⟨v3,h12,h13⟩:=hS.r.ev h10;have:=aCp h11 h13;subst this;split at hx
  ·obtain⟨b,h14,hx⟩:=bQ hx;obtain⟨h15,hx⟩:=cbT hx;obtain⟨c,h16,hx⟩:=bQ hx;obtain⟨h17,hx⟩:=cbT hx;rw[at_eq hS.len]at h14 hx;refine jX hS.st (hw hst) (szF h1) h6 h12 (aY.1 h15) (aCq h9 h14) h16 h17 fun h2 hS2=>?_;rw[aJ9 h9]at hS2;exact Sy.keep ⟨hS.r,by rw[List.length_set];exact hS.len,hS2⟩ hx rfl
  ·exact hx.elim
 ·obtain⟨i,h1,hx⟩:=tyL'_ok ht hx;exact fU hS.st h1 fun id h2 hS2=>hS.new hx hS2
 ·obtain⟨y,h1,hx⟩:=bQ hx;obtain⟨v,h2,hx⟩:=bQ hx;obtain⟨v3,h3,h4⟩:=hS.r.ev h1;have:=aCp h2 h4;subst this;split at hx
  ·exact aIk hS.st h3 fun id h2 hS2=>hS.new hx hS2
  ·exact hx.elim
 ·obtain⟨i,h1,hx⟩:=tyL'_ok ht hx;split at hx
  ·rename_i fs hd;obtain⟨pl,h2,hx⟩:=aKa ht hx;obtain⟨c,h3,hx⟩:=bQ hx;exact aDb hS.st h1 hd h2 (aDR hS.r h3) (hS.keep hx rfl)
  ·exact hx.elim
 ·obtain⟨i,h1,hx⟩:=tyL'_ok ht hx;obtain⟨h2,hx⟩:=cbF hx;obtain⟨y1,h3,hx⟩:=bQ hx;obtain⟨v1,h4,h5⟩:=hS.r.ev h3;obtain⟨x1,rfl,hx⟩:=zZ hx h5;obtain⟨y2,h6,hx⟩:=bQ hx;obtain⟨v2,h7,h8⟩:=hS.r.ev h6;obtain⟨x2,rfl,hx⟩:=zZ hx h8;obtain⟨r,h9,hx⟩:=aOm hx;exact aT hS.st h1 h2 h4 h7 h9 (hS.keep hx rfl)
 ·obtain⟨y1,h3,hx⟩:=bQ hx;obtain⟨v1,h4,h5⟩:=hS.r.ev h3;obtain⟨x1,rfl,hx⟩:=zZ hx h5;split at hx
  ·exact vC hS.st h4 (hS.keep hx rfl)
  ·exact hx.elim
 ·obtain⟨y1,h3,hx⟩:=bQ hx;obtain⟨v1,h4,h5⟩:=hS.r.ev h3;obtain⟨x1,rfl,hx⟩:=zZ hx h5;split at hx
  ·exact aRL hS.st h4 hx.1.1 hx.1.2 (hS.keep hx.2 rfl)
  ·exact hx.elim
 ·refine (aOn ht hS hb hx).mono fun v h' hq=>?_;obtain⟨y,w,ids,s,⟨v2,rfl,rfl,h1⟩,h2,h3⟩:=hq;exact⟨_,_,ids,s,h1,h2,h3⟩
 ·exact hx.elim
variable {ops l:List Oper} {o:Oper}
theorem aQm{gd:Option (Nat × Bool)}{k:Bool→List (Nat × Y)→Prop}(hS:Sy F β g e h sy ws ls ps ids s)(hx:vgd ops sy gd k):∃t sy s,wanted ops e gd=some t∧k t sy∧Sy F β g e h sy ws ls ps ids s:=by
 unfold vgd at hx;split at hx
 ·exact⟨_,_,_,rfl,hx,hS⟩
 ·rename_i gi w;obtain⟨o,h1,hx⟩:=bQ hx;obtain⟨j,h2,hx⟩:=bQ hx;obtain⟨y,h3,hx⟩:=bQ hx;obtain⟨v,h4,h5⟩:=hS.r.lk h3;split at hx
  ·rename_i x;have h5:v=sc (.b x):=h5;subst h5;exact⟨_,_,_,aF hS.st h1 h2 h4,hx,hS⟩
  ·rename_i x;have h5:v=sc (.b x):=h5;subst h5;have key:Sy F β g e h ((j,.b x)::sy) ws ls ps ids ((j,sc (.b x))::s):=⟨⟨rfl,rfl,hS.r⟩,hS.len,⟨kn1 (hS.st.k j _ h4) hS.st.k,hS.st.n,hS.st.bar,hS.st.o,hS.st.l,hS.st.w,hS.st.ls,hS.st.ps⟩⟩
   cases x with
   |true=>exact⟨_,_,_,aF hS.st h1 h2 h4,hx.1 rfl,key⟩
   |false=>exact⟨_,_,_,aF hS.st h1 h2 h4,hx.2 rfl,key⟩
  ·exact hx.elim
theorem aCr{C:Env→H→Prop}{Go:Prop}{k:List (Nat × Y)→List B→Prop}(ht:∀p∈tys,F.ti p.1=some p.2)(hS:Sy F β g e h sy ws ls ps ids s)(hb:β≤h.n)(hw:st=true→β≤g.n)(hx:vst F tys st nt ops o sy ws k)
  (p1:∀d,wanted ops e o.guard=some true→o.dst=some d→Nat.blt d nt=true→Xop F o.op e h (fun v h=>Pk d v e h C)→Go)
  (p2:∀d,wanted ops e o.guard=some false→o.dst=some d→Nat.blt d nt=true→Pk d un e h C→Go)
  (p3:o.guard=none→o.dst=none→Xop F o.op e h (fun _ h=>C e h)→Go)
  (kk:∀e h sy ws ids s,Sy F β g e h sy ws ls ps ids s→k sy ws→C e h):Go:=by
 unfold vst at hx;split at hx
 ·rename_i hd;split at hx
  ·rename_i hg;refine p3 hg hd ((aKb ht hS hb hw hx).mono fun v h' hq=>?_);obtain⟨y,ws,ids,s,h1,h2,h3⟩:=hq;exact kk _ _ _ _ _ _ h3 h1
  ·exact hx.elim
 ·rename_i d hd;obtain⟨hn,hx⟩:=cbT hx;obtain⟨t,sy,s,h1,hx,hS⟩:=aQm hS hx;cases t with
  |true=>
   refine p1 d h1 hd hn ((aKb ht hS hb hw hx).mono fun v h' hq=>?_);obtain⟨y,ws,ids,s,h1,h2,h3⟩:=hq;exact h3.st.pk fun e hS2=>kk _ _ _ _ _ _ ⟨h3.r.cons h2,h3.len,hS2⟩ h1
  |false=>exact p2 d h1 hd hn (hS.st.pk fun e hS2=>kk _ _ _ _ _ _ ⟨hS.r.cons (y:=.a un) rfl,hS.len,hS2⟩ hx)
theorem aKc{i d:Nat}{late:List Nat}{M:List (Nat × List Nat)}{Q:Env→H→Prop}(ho:(drp i ops).head? =some o)(hw:wanted ops e o.guard=some false)(hd:o.dst=some d)(hn:Nat.blt d nt=true)(k:Pk d un e h fun e h=>Ag F ops late e h∧Xb F nt ops M e h Q):Xb F nt ops ((i,late)::M) e h Q:=by
 obtain⟨ka,e2,h2,⟨m1,k2⟩,k3⟩:=k;refine⟨e2,h2,⟨m1,fun m hm=>?_⟩,k3⟩;refine (sQ ho).trans ?_;refine (aBy hw).trans ?_;rw[hd,pM hn];exact (ka _).trans (k2 m (by omega))
variable {Q:Env→H→Prop} {k:List (Nat × Y)→List B→Prop}
theorem aHa(ht:∀p∈tys,F.ti p.1=some p.2)(hg:β≤g.n):∀{l:List Oper} {e:Env} {h:H} {sy:List (Nat × Y)} {ws:List B} {ids:List Nat} {s:List (Nat × AV)},Sy F β g e h sy ws ls ps ids s→aIo F tys nt ops l sy ws k→(∀e h sy ws ids s,Sy F β g e h sy ws ls ps ids s→k sy ws→Q e h)→Xr F nt ops l e h Q
 | [],_,_,_,_,_,_,hS,hx,kk=>aG (kk _ _ _ _ _ _ hS hx)
 |_::_,_,_,_,_,_,_,hS,hx,kk=>aCr ht hS (Nat.le_trans hg hS.st.n) (fun _=>hg) hx (fun _ a b c x=>aK a b c x) (fun _ a b c x=>aJ3 a b c x) (fun a b x=>fO a b x) fun _ _ _ _ _ _ hS hx=>aHa ht hg hS hx kk
theorem aFm(ht:∀p∈tys,F.ti p.1=some p.2)(hS:Sy F β g e h sy ws ls ps ids s):∀{l:List Nat},vag tys ops sy ws l→Ag F ops l e h
 | [],_=>iE
 |i::l,hx=>by
  obtain⟨o,h1,hx⟩:=bQ hx;split at hx
  ·rename_i e1;exact aLW h1 (by rw[e1];rfl) (aFm ht hS hx)
  ·rename_i e1;obtain⟨j,h2,hx⟩:=tyL'_ok ht hx;obtain⟨y,h3,hx⟩:=bQ hx;obtain⟨v,h4,h5⟩:=hS.r.ev h3;obtain⟨n,off,id,h8,h9,rfl,rfl,hx⟩:=zY hx h5;obtain⟨b,h10,hx⟩:=bQ hx;obtain⟨c,h11,hx⟩:=bQ hx;obtain⟨u,h12,hx⟩:=bQ hx;obtain⟨d,h13,hx⟩:=bQ hx;obtain⟨y2,h14,hx⟩:=bQ hx;obtain⟨h15,rfl,h16,hz⟩:=hx;obtain⟨v2,h17,h18⟩:=hS.r.lk h14;have h18:v2=u:=h18;subst h18;rw[at_eq hS.len]at h10;exact aLX h1 (by rw[e1];rfl) h15 h13 (hS.st.k _ _ h17) (by rw[e1];exact aC9 hS.st h2 h4 (hS.st.w.1 _ (List.mem_of_getElem? (aCq h9 h10))).2.2 h11 h12) h16 (aFm ht hS hz)
  ·exact hx.elim
theorem aIq(ht:∀p∈tys,F.ti p.1=some p.2)(hg:β≤g.n):∀{l:List (Nat × List Nat)} {e:Env} {h:H} {sy:List (Nat × Y)} {ws:List B} {ids:List Nat} {s:List (Nat × AV)},Sy F β g e h sy ws ls ps ids s→vB F tys nt ops l sy ws k→(∀e h sy ws ids s,Sy F β g e h sy ws ls ps ids s→k sy ws→Q e h)→Xb F nt ops l e h Q
 | [],_,_,_,_,_,_,hS,hx,kk=>kL (kk _ _ _ _ _ _ hS hx)
 |(_,[])::_,_,_,_,_,_,_,hS,hx,kk=>by
  obtain⟨o,h1,hx⟩:=bQ hx;exact aCr ht hS (Nat.le_trans hg hS.st.n) (fun _=>hg) hx (fun _ a b c x=>aC8 h1 a b c x) (fun _ a b c x=>aKc h1 a b c x) (fun a b x=>jW h1 a b x) fun _ _ _ _ _ _ hS hx=>⟨iE,aIq ht hg hS hx kk⟩
 |(_,_::_)::_,_,_,_,_,_,_,hS,hx,kk=>by
  obtain⟨o,h1,hx⟩:=bQ hx;exact aCr ht hS (Nat.le_trans hg hS.st.n) (fun _=>hg) hx (fun _ a b c x=>aC8 h1 a b c x) (fun _ a b c x=>aKc h1 a b c x) (fun a b x=>jW h1 a b x) fun _ _ _ _ _ _ hS hx=>⟨aFm ht hS hx.1,aIq ht hg hS hx.2 kk⟩
theorem aNd{b:Nat}{M:List (Nat × List Nat)}(ht:∀p∈tys,F.ti p.1=some p.2):∀{l:List Nat} {β:Nat} {e:Env} {h:H} {sy:List (Nat × Y)} {ws:List B} {ids:List Nat} {s:List (Nat × AV)},Sy F β g e h sy ws ls ps ids s→vA F tys nt ops l sy ws k→(∀e h sy ws ids s,Sy F b g e h sy ws ls ps ids s→k sy ws→Xb F nt ops M e h Q)→Xa F nt ops b M l e h Q
 | [],_,_,_,_,_,_,_,hS,hx,kk=>aJ4 (kk _ _ _ _ _ _ ⟨hS.r,hS.len,hS.st.back b⟩ hx)
 |_::_,_,_,_,_,_,_,_,hS,hx,kk=>by
  obtain⟨o,h1,hx⟩:=bQ hx;exact aCr (st:=false) ht (⟨hS.r,hS.len,hS.st.lift⟩:Sy F _ g _ _ _ _ ls ps _ _) (Nat.le_refl _) (fun h=>by cases h) hx (fun _ a b c x=>aC7 h1 a b c x) (fun _ a b c x=>aQf h1 a b c x) (fun a b x=>aLV h1 a b x) fun _ _ _ _ _ _ hS hx=>aNd ht hS hx kk
theorem aRM(ht:∀p∈tys,F.ti p.1=some p.2)(hg:β≤g.n)(c:Code):∀{e:Env} {h:H} {sy:List (Nat × Y)} {ws:List B} {ids:List Nat} {s:List (Nat × AV)} {k:Ex→List (Nat × Y)→List B→Prop},Sy F β g e h sy ws ls ps ids s→vc F tys nt fn c sy ws k→Xw F nt fn c e h fun x e h=>∃sy ws ids s,k x sy ws∧Sy F β g e h sy ws ls ps ids s:=by
 induction c with
 |skip=>exact fun hS hx=>dY ⟨_,_,_,_,hx,hS⟩
 |ret=>exact fun hS hx=>fJ ⟨_,_,_,_,hx,hS⟩
 |exit id=>exact fun hS hx=>jC ⟨_,_,_,_,hx,hS⟩
 |seq a b iha ihb=>
  intro e h sy ws ids s k hS hx;refine bF ((iha hS hx).mono fun x e h hq=>?_);obtain⟨sy,ws,ids,s,hk,hS⟩:=hq;cases x with
  |n=>exact ihb hS hk
  |x id=>exact⟨_,_,_,_,hk,hS⟩
  |r=>exact⟨_,_,_,_,hk,hS⟩
 |region id ops dr=>
  intro e h sy ws ids s k hS hx;cases dr with
  |true=>
   obtain⟨p,h1,h2,hx⟩:=bQ (show oo (F.pl fn id) fun p=>mY F ops p=true∧vA F tys nt ops.toList p.1 sy ws fun s ws=>vB F tys nt ops.toList p.2 s ws (k .n) from hx);exact aBB hS.st h1 h2 (aNd ht hS hx fun _ _ _ _ _ _ hS hx=>aIq ht hg hS hx fun _ _ _ _ _ _ hS hx=>⟨_,_,_,_,hx,hS⟩)
  |false=>exact dO (aHa ht hg hS (show aIo F tys nt ops.toList ops.toList sy ws (k .n) from hx) fun _ _ _ _ _ _ hS hx=>⟨_,_,_,_,hx,hS⟩)
 |cond c a b iha ihb=>
  intro e h sy ws ids s k hS hx;obtain⟨y,h1,hx⟩:=bQ (show oo (yv sy c) fun y=>(match y with| .b x=>cb x (vc F tys nt fn a sy ws k) (vc F tys nt fn b sy ws k)| .a (.c false [.b x])=>(x=true→vc F tys nt fn a sy ws k)∧(x=false→vc F tys nt fn b sy ws k)|_=>False) from hx);obtain⟨v,h2,h3⟩:=hS.r.ev h1;split at hx
  ·rename_i x;have h3:v=sc (.b x):=h3;subst h3;cases x with
   |true=>exact bD (aN hS.st.k h2) (fun _=>iha hS hx) fun e=>by cases e
   |false=>exact bD (aN hS.st.k h2) (fun e=>by cases e) fun _=>ihb hS hx
  ·rename_i x;have h3:v=sc (.b x):=h3;subst h3;exact bD (aN hS.st.k h2) (fun e=>iha hS (hx.1 e)) fun e=>ihb hS (hx.2 e)
  ·exact hx.elim
 |block id a iha=>
  intro e h sy ws ids s k hS hx;refine dC ((iha hS (show vc F tys nt fn a sy ws (fun x s ws=>(match x with| .x j=>cb (Nat.beq id j) (k .n s ws) (k (.x j) s ws)|x=>k x s ws)) from hx)).mono fun x e h hq=>?_);obtain⟨sy,ws,ids,s,hk,hS⟩:=hq;cases x with
  |n=>exact⟨_,_,_,_,hk,hS⟩
  |r=>exact⟨_,_,_,_,hk,hS⟩
  |x j=>
   show cb (Nat.beq id j) _ _;have hk:cb (Nat.beq id j) _ _:=hk;cases hb:Nat.beq id j with
   |true=>rw[hb]at hk;exact⟨_,_,_,_,hk,hS⟩
   |false=>rw[hb]at hk;exact⟨_,_,_,_,hk,hS⟩
 |_=>exact fun _ hx=>hx.elim
theorem aOo{r:ResultVar}{k:Bool × List SV→Prop}(ht:∀p∈tys,F.ti p.1=some p.2)(hS:Sy F β g e h sy ws ls ps ids s)(hx:aL7 tys r sy ws k):∃p,aBt F e h r=some p∧k p:=by
 unfold aL7 at hx;split at hx
 ·obtain⟨y,h1,hx⟩:=bQ hx;obtain⟨v,h2,hx⟩:=bQ hx;obtain⟨u,h3,h4⟩:=hS.r.lk h1;have:=aCp h2 h4;subst this;split at hx
  ·refine⟨_,?_,hx⟩;show ob (e.get _) jK=_;rw[hS.st.k _ _ h3];rfl
  ·exact hx.elim
 ·obtain⟨i,h1,hx⟩:=tyL'_ok ht hx;obtain⟨y,h2,hx⟩:=bQ hx;obtain⟨v,h3,h4⟩:=hS.r.lk h2;obtain⟨n,off,id,h8,h9,rfl,rfl,hx⟩:=zY hx h4;obtain⟨b,h10,hx⟩:=bQ hx;obtain⟨l,h11,hx⟩:=bQ hx;obtain⟨h12,hx⟩:=cbT hx;rw[at_eq hS.len]at h10;refine⟨_,?_,hx⟩;show (ob (F.ti _) fun i=>ob (e.get _) fun v=>one v fun s=>match s with| .p id off=>ob (rd h id off i.sz) fun c=>ob (av i.d.ag c) jK|_=>none)=_;rw[h1,hS.st.k _ _ h3];show (ob (rd h id off i.sz) fun c=>ob (av i.d.ag c) jK)=_;unfold rd;rw[(hS.st.w.1 _ (List.mem_of_getElem? (aCq h9 h10))).2.2];show (ob (eX i.sz (drp off b.c)) fun c=>ob (av i.d.ag c) jK)=_;rw[h11];show ob (av i.d.ag l) jK=_;rw[h12];rfl
theorem aBC(ht:∀p∈tys,F.ti p.1=some p.2)(hS:Sy F β g e h sy ws ls ps ids s):∀{l:List ResultVar} {k:List (Bool × List SV)→Prop},aIp tys l sy ws k→∃q,res F e h l=some q∧k q
 | [],_,hx=>⟨[],rfl,hx⟩
 |r::l,k,hx=>by
  obtain⟨p,h1,hx⟩:=aOo ht hS hx;obtain⟨q,h2,h3⟩:=aBC ht hS hx;refine⟨_,?_,h3⟩;show ob (aBt F e h r) (fun v=>ob (res F e h l) fun l=>some (v::l))=_;rw[h1,h2];rfl
noncomputable def ix (k:Nat):List AV→List (Nat × AV)
 | []=>[]
 |v::l=>(k,v)::ix (k+1) l
theorem aNe:∀{l:List AV} {k:Nat},RS ids (ixY k l) (ix k l)
 | [],_=>trivial
 |_::_,_=>⟨rfl,rfl,aNe⟩
theorem aHb:∀{l:List AV} {k:Nat} {e:Env},k+l.length≤nt→∃e0,rX nt l k e=some e0∧(∀j,j<k→e0.get j=e.get j)∧∀j u,E.lk (ix k l) j=some u→e0.get j=some u
 | [],k,e,_=>⟨e,rfl,fun _ _=>rfl,fun _ _ h=>by cases h⟩
 |v::l,k,e,hn=>by
  have hn:k+(l.length+1)≤nt:=hn;obtain⟨e0,h1,h2,h3⟩:=aHb (l:=l) (k:=k+1) (e:=e.set v k) (by omega);refine⟨e0,?_,fun j hj=>(h2 j (by omega)).trans (T.get_ne (by omega)),fun j u hu=>?_⟩
  ·show cb (Nat.blt k nt) (rX nt l (k+1) (e.set v k)) none=_;rw[bV.2 (show k<nt by omega)];exact h1
  ·have hu:cb (Nat.beq k j) (some v) (E.lk (ix (k+1) l) j)=some u:=hu;cases hb:Nat.beq k j with
   |true=>
    rw[hb]at hu;injection hu with hu;rw[←aY.1 hb,h2 k (Nat.lt_succ_self k),T.get_same,hu]
   |false=>
    rw[hb]at hu;exact h3 j u hu
theorem Fc.by_{G:Func}{f:Nat}{cd:Code}{args:List AV}{v:AV}(ht:∀p∈tys,F.ti p.1=some p.2)(hG:F.P.funcs[f]? =some G)(hb:G.body=some cd)(hp:F.pr f=none)(hh:F.ph f=none)(hn:Nat.ble args.length G.ntmps=true)(hx:vfn F tys G f cd args v):Fc F f args v:=fun h hbar=>by
 obtain⟨e0,h1,-,h2⟩:=aHb (nt:=G.ntmps) (l:=args) (k:=0) (e:=fill G.ntmps 0 .lf) (by have:=fA.1 hn;omega);refine jL hG hb hp hh h1 (s:=ix 0 args) (ls:=[]) h2 mV fun β e eβ hS=>?_;subst eβ;refine (aRM (ls:=[]) (ps:=[]) ht hbar cd (ids:=[]) (ws:=[]) ⟨aNe,rfl,hS⟩ hx).mono fun x e h' hq=>?_;obtain⟨sy,ws,ids,s,hk,hS⟩:=hq;cases x with
 |x id=>exact hk.elim
 |n=>
  obtain⟨q,h3,h4⟩:=aBC ht hS hk;exact⟨_,by show (ob (res F e h' G.results.toList) fun l=>some (tup l,h'))=_;rw[h3];rfl,h4,hS.st.out⟩
 |r=>
  obtain⟨q,h3,h4⟩:=aBC ht hS hk;exact⟨_,by show (ob (res F e h' G.results.toList) fun l=>some (tup l,h'))=_;rw[h3];rfl,h4,hS.st.out⟩
theorem Fc.pr{f:Nat}{G:Func}{cd:Code}{gg:List AV→Option AV}{args:List AV}{v:AV}(hG:F.P.funcs[f]? =some G)(hb:G.body=some cd)(hp:F.pr f=some gg)(hg:gg args=some v):Fc F f args v:=fun _ _=>jY hG hb hp hg ⟨rfl,Xh.refl _⟩
theorem dt{c:Prop}[Decidable c]{A C:Prop}(a:c→A)(b:¬c→C):(decide c=true→A)∧(decide c=false→C):=⟨fun h=>a (of_decide_eq_true h),fun h=>b (of_decide_eq_false h)⟩
end
end Go.Proofs.YthjhkhlafhjjmaaGreatDoor.E
