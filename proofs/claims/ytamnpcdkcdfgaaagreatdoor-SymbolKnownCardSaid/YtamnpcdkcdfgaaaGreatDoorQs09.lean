/- SymbolKnown holds. No condition. -/
import Derived.Test.YtamnpcdkcdfgaaaGreatDoorQs08
namespace Go.Proofs.YtamnpcdkcdfgaaaGreatDoor
namespace E
open Go Go.RowKit
open Ma Me K
section
variable {F:Cf} {β:Nat} {h0 h h':H} {e:Env} {s:List (Nat × AV)} {ws:List (Nat × B)} {ls:List (AV × List Rat)} {ps:List (AV × Rat)} {v u:AV} {xs:List Rat} {q:Rat} {C:Env→H→Prop} {d t:Nat} {i:TI} {x y:Operand} {Q:AV→H→Prop}
theorem aPg(hS:St β h0 e s h ws ls ps)(hx:evs s x=some v)(k:Q v h):Xop F (.move x) e h Q:=
 .now (fun _=>by show ob (ev e x) (fun v=>some (v,h))=_;rw[bU hS.k hx];rfl) k
theorem aPh(hS:St β h0 e s h ws ls ps)(hx:evs s x=some v)(k:Q v h):Xop F (.assign x) e h Q:=
 .now (fun _=>by show ob (ev e x) (fun v=>some (v,h))=_;rw[bU hS.k hx];rfl) k
theorem aOj{op:BinOp}{t2:TypeId}{a c r:SV}(hS:St β h0 e s h ws ls ps)(ht:F.ti t=some i)(hg:i.d.ag=false)(hx:evs s x=some (sc a))(hy:evs s y=some (sc c))(hb:bop i.d op a c=some r)(k:Q (sc r) h):Xop F (.binOp op t x y t2) e h Q:=
 .now (fun _=>by
  show tH F e h op t x y=_;unfold tH;rw[ht,bU hS.k hx,bU hS.k hy];show cb i.d.ag _ (ob (bop i.d op a c) fun r=>vh r h)=_;rw[hg,hb];rfl) k
theorem aDH{n:Nat}(h:n<9223372036854775808):mkI .i64 n=some (.i .i64 (.ofNat n)):=by
 unfold mkI;rw[aM,aQ.2 (show n<lim .i64 from h)];rfl
theorem nJ{n:Int}(h1:-9223372036854775808≤n)(h2:n<9223372036854775808):mkZ .i64 n=some (.i .i64 n):=by
 unfold mkZ;rw[qH];have e:IntKind.i64.wrap n=n:=by rw[IntKind.wrap_i64];omega
 rw[e]
theorem aOk{dd:Dk}{a c:Int}(h1:-9223372036854775808≤a+c)(h2:a+c<9223372036854775808):bop dd .add (.i .i64 a) (.i .i64 c)=some (.i .i64 (a+c)):=by
 show cb (decide (IntKind.i64=IntKind.i64)) (aHX .i64 a c) none=_;rw[show decide (IntKind.i64=IntKind.i64)=true from rfl];show aHX .i64 a c=_;cases a with
 |ofNat a=>
  cases c with
  |ofNat c=>
   have h2:(a:Int)+(c:Int)<9223372036854775808:=h2;exact aDH (n:=Nat.add a c) (by show a+c<_;omega)
  |negSucc c=>exact nJ h1 h2
 |negSucc a=>exact nJ h1 h2
theorem aOl{dd:Dk}{a c:Int}(h1:-9223372036854775808≤a-c)(h2:a-c<9223372036854775808):bop dd .sub (.i .i64 a) (.i .i64 c)=some (.i .i64 (a-c)):=by
 show cb (decide (IntKind.i64=IntKind.i64)) (aHY .i64 a c) none=_;rw[show decide (IntKind.i64=IntKind.i64)=true from rfl];show aHY .i64 a c=_;cases a with
 |ofNat a=>
  cases c with
  |ofNat c=>
   show cb (Nat.ble c a) (mkI .i64 (Nat.sub a c)) (mkZ .i64 ((a:Int)-(c:Int)))=_;have h2:(a:Int)-(c:Int)<9223372036854775808:=h2;cases hb:Nat.ble c a with
   |true=>
    have hle:=bA.1 hb;refine (aDH (n:=Nat.sub a c) (by show a-c<_;omega)).trans ?_;show some (SV.i .i64 ((a-c:Nat):Int))=some (SV.i .i64 ((a:Int)-(c:Int)));rw[Int.ofNat_sub hle]
   |false=>exact nJ h1 h2
  |negSucc c=>exact nJ h1 h2
 |negSucc a=>exact nJ h1 h2
theorem vP{dd:Dk}{op:BinOp}{kk:IntKind}{a c:Int}{r:Bool}(h:iop op kk a c=some (.b r)):bop dd op (.i kk a) (.i kk c)=some (.b r):=by
 show cb (decide (kk=kk)) (iop op kk a c) (E.shI op kk a c)=_;rw[decide_eq_true rfl];exact h
theorem aPi{dd:Dk}{kk:IntKind}{a c:Int}:bop dd .lss (.i kk a) (.i kk c)=some (.b (decide (a<c))):=vP (by show bo (iLt a c)=_;rw[iZ];rfl)
theorem aPj{dd:Dk}{kk:IntKind}{a c:Int}:bop dd .gtr (.i kk a) (.i kk c)=some (.b (decide (c<a))):=vP (by show bo (iLt c a)=_;rw[iZ];rfl)
theorem aPk{dd:Dk}{kk:IntKind}{a c:Int}:bop dd .leq (.i kk a) (.i kk c)=some (.b (decide (a≤c))):=vP (by
 show bo (cO (iLt c a))=_;rw[iZ,show cO (decide (c<a))=decide (a≤c) from by by_cases h:c<a<;>simp[h,cO,cb]<;>omega];rfl)
theorem aPl{dd:Dk}{kk:IntKind}{a c:Int}:bop dd .geq (.i kk a) (.i kk c)=some (.b (decide (c≤a))):=vP (by
 show bo (cO (iLt a c))=_;rw[iZ,show cO (decide (a<c))=decide (c≤a) from by by_cases h:a<c<;>simp[h,cO,cb]<;>omega];rfl)
theorem aPm{dd:Dk}{kk:IntKind}{a c:Int}:bop dd .eql (.i kk a) (.i kk c)=some (.b (decide (a=c))):=vP (by show bo (iEq a c)=_;rw[lU];rfl)
theorem aPn{dd:Dk}{kk:IntKind}{a c:Int}:bop dd .neq (.i kk a) (.i kk c)=some (.b (decide (a≠c))):=vP (by
 show bo (cO (iEq a c))=_;rw[lU,show cO (decide (a=c))=decide (a≠c) from by by_cases h:a=c<;>simp[h,cO,cb]];rfl)
theorem aMQ{c a d:Operand}{b:Bool}(hS:St β h0 e s h ws ls ps)(hc:evs s c=some (sc (.b b)))(hv:evs s (cb b a d)=some v)(k:Q v h):Xop F (.pick c a d) e h Q:=
 .now (fun _=>by show oI e h c a d=_;unfold oI;rw[bU hS.k hc];show ob (ev e (cb b a d)) _=_;rw[bU hS.k hv];rfl) k
theorem aOm{t:Nat}{b:Bool}(hS:St β h0 e s h ws ls ps)(hx:evs s x=some (sc (.b b)))(k:Q (sc (.b (cO b))) h):Xop F (.unOp .not t x) e h Q:=
 .now (fun _=>by show oUn e h .not x=_;unfold oUn;rw[bU hS.k hx];rfl) k
theorem aMR{b:Builtin}{xs:Array Operand}{ats:Array TypeId}{args:List AV}(hS:St β h0 e s h ws ls ps)(ha:zM s xs.toList=some args)(hb:bi F h b ats.toList args=some (v,h'))(k:Q v h'):Xop F (.call {callee:=.builtin b,args:=xs,argTypes:=ats}) e h Q:=
 .now (fun _=>by
  show ob (evL e xs.toList) (fun l=>bi F h b ats.toList l)=_;rw[zN hS.k ha];exact hb) k
theorem IsL.sv(hl:IsL ws h v xs):∃sv,v=sc sv∧((sv=.ns∧xs.length=0)∨(∃id off c,sv=.sl id off xs.length c)∨∃a c,sv=.v (.slice (some a) xs.length c)):=by
 rcases hl with⟨rfl,rfl⟩|⟨id,cap,c,rfl,-⟩
 ·exact⟨_,rfl,.inl ⟨rfl,rfl⟩⟩
 ·exact⟨_,rfl,.inr (.inl ⟨_,_,_,rfl⟩)⟩
theorem aMS{l:List Nat}(hS:St β h0 e s h ws ls ps)(ht:F.ti t=some i)(hd:i.d=.str)(hx:evs s x=some (sc (.s l)))(k:Q (sc (.i .i64 (l.length:Int))) h):Xop F (.call {callee:=.builtin .len,args:=#[x],argTypes:=#[t]}) e h Q:=
 aMR hS (args:=[_]) (by show ob (evs s x) _=_;rw[hx];rfl) (by
  show ob (F.ti t) (fun i=>one (sc (.s l)) fun s=>(match i.d,s with| .str,.s l=>vh (.i .i64 (.ofNat (len l))) h| .sl _,.ns=>vh (.i .i64 0) h| .sl _,.sl _ _ n _=>vh (.i .i64 (.ofNat n)) h| .sl _,.v x=>roN h x| .mp _ _,s=>ob (mpE h s) fun l=>vh (.i .i64 (.ofNat (len l))) h| .sl _,.m n=>ob (F.ln false n) fun k=>vh (.i .i64 (.ofNat k)) h| .sl _,.r n=>ob (F.ln true n) fun k=>vh (.i .i64 (.ofNat k)) h|_,_=>none))=some (sc (.i .i64 (l.length:Int)),h);rw[ht];show (match i.d,SV.s l with| .str,.s l=>vh (.i .i64 (.ofNat (len l))) h| .sl _,.ns=>vh (.i .i64 0) h| .sl _,.sl _ _ n _=>vh (.i .i64 (.ofNat n)) h| .sl _,.v x=>roN h x| .mp _ _,s=>ob (mpE h s) fun l=>vh (.i .i64 (.ofNat (len l))) h| .sl _,.m n=>ob (F.ln false n) fun k=>vh (.i .i64 (.ofNat k)) h| .sl _,.r n=>ob (F.ln true n) fun k=>vh (.i .i64 (.ofNat k)) h|_,_=>none)=_;rw[hd];show vh (.i .i64 (.ofNat (len l))) h=_;rw[bH];rfl) k
theorem aMT{a:Operand}{id off:Nat}{b:B}{l:List SV}(hS:St β h0 e s h ws ls ps)(ht:F.ti t=some i)(hx:evs s a=some (sc (.p id off)))(hb:h.h.get id=some b)(hl:cZ i.sz (drp off b.c)=some l)(hv:av i.d.ag l=some v):rA F e h t a=some (v,h):=by
 unfold rA;rw[ht,bU hS.k hx];show ob (rd h id off i.sz) (fun l=>ob (av i.d.ag l) fun v=>some (v,h))=_;unfold rd;rw[hb];show ob (cZ i.sz (drp off b.c)) _=_;rw[hl];show ob (av i.d.ag l) _=_;rw[hv];rfl
theorem aPo{a:Operand}{j id off:Nat}{b:B}{l:List SV}(hS:St β h0 e s h ws ls ps)(ht:F.ti t=some i)(hx:evs s a=some (sc (.p id off)))(hj:ws[j]? =some (id,b))(hl:cZ i.sz (drp off b.c)=some l)(hv:av i.d.ag l=some v)(k:Q v h):Xop F (.load t a) e h Q:=
 .now (fun _=>aMT hS ht hx (hS.w.1 _ (List.mem_of_getElem? hj)).2.2 hl hv) k
theorem aPp{a:Operand}{j id off z:Nat}{b:B}{g:Bool}{l c:List SV}(hS:St β h0 e s h ws ls ps)(hβ:β≤h0.n)(ht:sz F t=some z)(ha:evs s a=some (sc (.p id off)))(hx:evs s x=some (.c g l))(hl:l.length=z)(hj:ws[j]? =some (id,b))(hc:eX off l b.c=some c)(hk:mR b=true)(k:∀h',St β h0 e s h' (ws.set j (id,⟨b.ty,c⟩)) ls ps→Q un h'):Xop F (.store t a x) e h Q:=by
 obtain⟨w1,w2,w3⟩:=hS.w.1 _ (List.mem_of_getElem? hj);have w1:h0.n≤id:=w1;have w3:h.h.get id=some b:=w3;refine .now (fun _=>?_) (k _ (hS.put hj));show nP F e h t a x=_;unfold nP;rw[ht,bU hS.k ha];show ob (ev e x) (fun u=>cells u fun c=>cb (Nat.beq (len c) z) (ob (wr h id off c) fun h=>some (un,h)) none)=_;rw[bU hS.k hx];show cb (Nat.beq (len l) z) (ob (wr h id off l) fun h=>some (un,h)) none=_;rw[bH,hl,Nat.beq_refl];show ob (wr h id off l) (fun h=>some (un,h))=_;have e1:wr h id off l=some (h.put id ⟨b.ty,c⟩):=by
  unfold wr;rw[bA.2 (show h.bar≤id by rw[hS.bar];omega),w3];show ob (eX off l b.c) (fun c=>cb (mR b) (some (h.put id ⟨b.ty,c⟩)) none)=_;rw[hc];show cb (mR b) _ none=_;rw[hk];rfl
 rw[e1];rfl
theorem aJC{α:Type}{b:B}{f:Nat→H→α}:h.nw b f=f h.n ⟨h.h.set b h.n,Nat.succ h.n,h.bar,h.l⟩:=by
 unfold H.nw;rw[aM]
theorem aKR(hS:St β h0 e s h ws ls ps)(ht:F.ti t=some i)(k:∀id h',St β h0 e s h' ((id,⟨t,i.ze⟩)::ws) ls ps→Q (sc (.p id 0)) h'):Xop F (.alloc t) e h Q:=
 .now (fun _=>by show nO F h t=_;unfold nO;rw[ht];exact aJC) (k _ _ (hS.new _))
theorem aOn{g:Bool}{l:List SV}(hS:St β h0 e s h ws ls ps)(hx:evs s x=some (.c g l))(k:∀id h',St β h0 e s h' ((id,⟨t,l⟩)::ws) ls ps→Q (sc (.p id 0)) h'):Xop F (.box t x) e h Q:=
 .now (fun _=>by show tF e h t x=_;unfold tF;rw[bU hS.k hx];exact (show (h.nw ⟨t,l⟩ fun a h=>vh (.p a 0) h)=_ from aJC)) (k _ _ (hS.new _))
theorem aOo{n:Nat}{l:List (Bool × List SV)}{p:Bool × List SV}(hS:St β h0 e s h ws ls ps)(hx:evs s x=some (.t l))(hp:(drp n l).head? =some p)(k:Q (.c p.1 p.2) h):Xop F (.extract x n) e h Q:=
 .now (fun _=>by show tK e h x n=_;unfold tK;rw[bU hS.k hx];show ob (drp n l).head? _=_;rw[hp];rfl) k
noncomputable def nY (pl:Nat→Option (Nat × Nat)) (s:List (Nat × AV)) (l:List (Nat × Operand)):List SV→Option (List SV):=
 List.rec (motive:=fun _=>List SV→Option (List SV)) some (fun p _ r acc=>ob (pl p.1) fun q=>ob (evs s p.2) fun v=>cells v fun c=>cb (Nat.beq (len c) q.2) (ob (eX q.1 c acc) r) none) l
theorem aDI{pl:Nat→Option (Nat × Nat)}(hk:Kn e s):∀{l:List (Nat × Operand)} {a c:List SV},nY pl s l a=some c→parts pl e l a=some c
 | [],a,c,hx=>hx
 |p::l,a,c,hx=>by
  obtain⟨q,h1,h2⟩:=aA.1 (show ob (pl p.1) (fun q=>ob (evs s p.2) fun v=>cells v fun c=>cb (Nat.beq (len c) q.2) (ob (eX q.1 c a) (nY pl s l)) none)=some c from hx);obtain⟨w,h3,h4⟩:=aA.1 h2;show ob (pl p.1) (fun q=>ob (ev e p.2) fun v=>cells v fun c=>cb (Nat.beq (len c) q.2) (ob (eX q.1 c a) (parts pl e l)) none)=some c;rw[h1];show ob (ev e p.2) (fun v=>cells v fun c=>cb (Nat.beq (len c) q.2) (ob (eX q.1 c a) (parts pl e l)) none)=some c;rw[bU hk h3];obtain⟨g,m,rfl,h5⟩:=iL.1 h4;show cb (Nat.beq (len m) q.2) (ob (eX q.1 m a) (parts pl e l)) none=some c;obtain⟨h6,h7⟩:=aB.1 h5;obtain⟨a2,h8,h9⟩:=aA.1 h7;rw[h6];show ob (eX q.1 m a) (parts pl e l)=some c;rw[h8];exact aDI hk h9
theorem aKS{pr:Array (Nat × Operand)}{fs pl:List (Nat × Nat)}{c:List SV}(hS:St β h0 e s h ws ls ps)(ht:F.ti t=some i)(hd:i.d=.st fs)(hp:szs F fs=some pl)(hc:nY (fun f=>(drp f pl).head?) s pr.toList i.ze=some c)(k:Q (.c true c) h):Xop F (.build t pr) e h Q:=
 .now (fun _=>by
  show lN F e h t pr.toList=_;unfold lN;rw[ht]
  show (match i.d with
   | .st fs=>ob (szs F fs) fun pl=>ob (parts (fun f=>(drp f pl).head?) e pr.toList i.ze) fun c=>some (AV.c true c,h)
   | .ar _ el=>ob (sz F el) fun s=>ob (parts (fun f=>some (Nat.mul f s,s)) e pr.toList i.ze) fun c=>some (AV.c true c,h)
   |_=>none)=_
  rw[hd];show ob (szs F fs) _=_;rw[hp];show ob (parts (fun f=>(drp f pl).head?) e pr.toList i.ze) _=_;rw[aDI hS.k hc];rfl) k
theorem aPq{sT f id off:Nat}{q:Nat × Nat}{z:Nat}(hS:St β h0 e s h ws ls ps)(ht:F.ti sT=some i)(hq:fields i.d f=some q)(hz:sz F q.2=some z)(h0z:Nat.blt 0 z=true)(hx:evs s x=some (sc (.p id off)))(k:Q (sc (.p id (off+q.1))) h):Xop F (.fieldAddr sT x f) e h Q:=
 .now (fun _=>by
  show oFA F e h sT x f=_;unfold oFA;rw[ht];show ob (fields i.d f) _=_;rw[hq];show ob (sz F q.2) _=_;rw[hz];show cb (Nat.blt 0 z) _ none=_;rw[h0z];show ob (ev e x) _=_;rw[bU hS.k hx];rfl) k
theorem aPr{f:Nat}{xs:Array Operand}{ats:Array TypeId}{args:List AV}(hS:St β h0 e s h ws ls ps)(ha:zM s xs.toList=some args)(hc:Xc F f args h Q):Xop F (.call {callee:=.value (.func f),args:=xs,argTypes:=ats}) e h Q:=by
 obtain⟨v,h1,⟨m0,k1⟩,k2⟩:=hc;refine⟨v,h1,⟨m0,fun m hm=>?_⟩,k2⟩;show ob (evL e xs.toList) (fun l=>aU F (exec F m) f (app l []) h)=_;rw[zN hS.k ha];show aU F (exec F m) f (app args []) h=_;rw[iY,List.append_nil];exact k1 m hm
theorem aOp{f:Nat}{G:Func}{cd:Code}{g:List AV→Option AV}{args:List AV}(hG:F.P.funcs[f]? =some G)(hb:G.body=some cd)(hp:F.pr f=some g)(hg:g args=some v)(k:Q v h):Xc F f args h Q:=by
 refine⟨v,h,⟨0,fun m _=>?_⟩,k⟩;unfold aU;rw[hG];show ob G.body _=_;rw[hb];show (Option.rec (motive:=fun _=>Option VH) _ _ (F.pr f):Option VH)=_;rw[hp];show ob (g args) _=_;rw[hg];rfl
theorem aIu{f:Nat}{G:Func}{cd:Code}{args:List AV}{e0:Env}(hG:F.P.funcs[f]? =some G)(hb:G.body=some cd)(hp:F.pr f=none)(hh:F.ph f=none)(hw:F.pw f=none)(he:jX G.ntmps args 0 (fill G.ntmps 0 .lf)=some e0)(k:Xw F G.ntmps f cd e0 h fun x e h=>∃v,leave F G ⟨x,e,h⟩=some (v,h)∧Q v h):Xc F f args h Q:=by
 obtain⟨x,e1,h1,⟨m0,k1⟩,v,k2,k3⟩:=k;refine⟨v,h1,⟨m0,fun m hm=>?_⟩,k3⟩;unfold aU;rw[hG];show ob G.body _=_;rw[hb];show (Option.rec (motive:=fun _=>Option VH) _ _ (F.pr f):Option VH)=_;rw[hp];show aEF F (exec F m) G cd f args h=_;unfold aEF;rw[hh];show jF F (exec F m) G cd f args h=_;unfold jF;rw[hw];show jE F (exec F m) G cd f args h=_;unfold jE;rw[he];show ob (exec F m false G.ntmps f cd e0 h) _=_;rw[k1 m hm];exact k2
theorem St.start{e0:Env}{s:List (Nat × AV)}(hs:∀k v,lk s k=some v→e0.get k=some v)(hl:∀p∈ls,IsL [] h p.1 p.2):St h.bar h e0 s h [] ls []:=
 ⟨hs,Nat.le_refl _,rfl,fun _ _=>rfl,rfl,⟨fun _ hp=>(by cases hp),List.Pairwise.nil⟩,hl,fun _ hp=>(by cases hp)⟩
theorem wS{ops:List Oper}{o:Oper}{g j:Nat}{w b:Bool}(hS:St β h0 e s h ws ls ps)(ho:(drp g ops).head? =some o)(hd:o.dst=some j)(hb:lk s j=some (sc (.b b))):wanted ops e (some (g,w))=some (cb w b (cO b)):=by
 show (ob (drp g ops).head? fun o=>ob o.dst fun d=>isB (e.get d) w)=_;rw[ho];show (ob o.dst fun d=>isB (e.get d) w)=_;rw[hd];show isB (e.get j) w=_;rw[hS.k j _ hb];rfl
end
theorem vQ{n:Nat}{α:Type}:∀{l:List (Nat × α)} {k:Nat} {x:α},(T.ofL l:T n α).get k=some x→(k,x)∈l
 | [],k,x,h=>by rw[show (T.ofL []:T n α)=T.lf from rfl,T.get_lf]at h;cases h
 |p::l,k,x,h=>by
  rcases T.get_set (show (T.set p.2 (T.ofL l:T n α) p.1).get k=some x from h) with⟨rfl,rfl⟩|⟨-,h2⟩
  ·exact List.mem_cons_self ..
  ·exact List.mem_cons_of_mem _ (vQ h2)
theorem aDJ{α:Type}{p:α→Bool}{l:Array α}(h:l.toList.all p=true){i:Nat}{x:α}(hi:l[i]? =some x):p x=true:=
 List.all_eq_true.1 h x (by have:=Array.mem_of_getElem? hi;exact Array.mem_toList_iff.2 this)
def ngB(G:Func):Bool:=!(G.name == "runtime.NumGoroutine")
theorem aGH:Tryz.prog.funcs.toList.all ngB=true:=by decide+kernel
theorem aB4(z:TypeId→Nat)(w:World):Rl ⟨0,fun _=>False,fun _=>0,w,z⟩ w ⟨.lf,0,0,.lf⟩:=
 ⟨rfl,fun _ h=>h.elim,Q.refl w,fun _ _ h=>(by rw[T.get_lf]at h;cases h),fun _ _ _ _ h=>(by rw[T.get_lf]at h;cases h),fun _ _ h=>(by rw[T.get_lf]at h;cases h),fun _ _ h=>(by rw[T.get_lf]at h;cases h),fun _ _ _ _ h=>(by rw[T.get_lf]at h;cases h)⟩
noncomputable def nm (q:Rat):AV:=.c true (bS q)
section
variable {F:Cf} {β:Nat} {h0 h h':H} {e:Env} {s:List (Nat × AV)} {ws:List (Nat × B)} {ls:List (AV × List Rat)} {ps:List (AV × Rat)} {v:AV} {Q:AV→H→Prop} {i:TI}
end
section
variable {F:Cf} {nt fn:Nat} {β:Nat} {h0 h h':H} {e:Env} {s:List (Nat × AV)} {ws:List (Nat × B)} {ls:List (AV × List Rat)} {ps:List (AV × Rat)} {v:AV} {xs:List Rat} {ops:List Oper} {o:Oper} {i d b:Nat} {A late:List Nat} {M:List (Nat × List Nat)} {Q:Env→H→Prop}
theorem St.bl(hS:St β h0 e s h ws ls ps)(hb:β≤h.n):h.bar≤h.n:=by rw[hS.bar];exact hb
theorem aPs{id:Nat}{ops:Array Oper}{Q:Ex→Env→H→Prop}(hS:St β h0 e s h ws ls ps)(hp:F.pl fn id=some (A,M))(hok:lS F ops (A,M)=true)(k:Xa F nt ops.toList β M A e h (Q .n)):Xw F nt fn (.region id ops true) e h Q:=aKM hp hok (by rw[hS.bar];exact k)
theorem St.drop(hS:St β h0 e s h ws ls ps){ws':List (Nat × B)}(hw:ws'.Sublist ws):St β h0 e s h ws' ls ps:=
 ⟨hS.k,hS.n,hS.bar,hS.o,hS.l,⟨fun p hp=>hS.w.1 p (hw.subset hp),hS.w.2.sublist hw⟩,fun p hp=>(hS.ls p hp).imp id fun ⟨id,cap,c,h1,h2,h3,h4,h5,h6⟩=>⟨id,cap,c,h1,h2,h3,h4,h5,fun q hq=>h6 q (hw.subset hq)⟩,
  fun p hp=>let ⟨id,off,b,h1,h3,h4,h5,h6⟩:=hS.ps p hp;⟨id,off,b,h1,h3,h4,h5,fun q hq=>h6 q (hw.subset hq)⟩⟩
theorem kn1{v:AV}{k:Nat}(hv:e.get k=some v){s:List (Nat × AV)}(hs:Kn e s):Kn e ((k,v)::s):=fun j u hj=>by
 have hj:cb (Nat.beq k j) (some v) (lk s j)=some u:=hj;cases hb:Nat.beq k j with
 |true=>
  rw[hb]at hj;injection hj with hj;rw[←aH.1 hb,hv,hj]
 |false=>
  rw[hb]at hj;exact hs j u hj
theorem IsL.nil{v:AV}{xs:List Rat}(hl:IsL ws h v xs):IsL [] h v xs:=hl.imp id fun ⟨id,cap,c,h1,h2,h3,h4,h5,_⟩=>⟨id,cap,c,h1,h2,h3,h4,h5,fun _ h=>by cases h⟩
theorem IsL.sc{v:AV}{xs:List Rat}(hl:IsL ws h v xs):∃sv,v=sc sv:=hl.elim (fun h=>⟨_,h.1⟩) fun ⟨_,_,_,h,_⟩=>⟨_,h⟩
theorem IsF.sc{v:AV}{xs:List Rat}(hl:IsF h h' v xs):∃sv,v=sc sv:=hl.elim (fun h=>⟨_,h.1⟩) fun ⟨_,_,_,h,_⟩=>⟨_,h⟩
theorem IsF.le{h1:H}{v:AV}{xs:List Rat}(hl:IsF h1 h v xs)(hn:h0.n≤h1.n):IsF h0 h v xs:=hl.imp id fun ⟨id,cap,c,q1,q2,q3,q4,q5,q6⟩=>⟨id,cap,c,q1,q2,q3,q4,q5,Nat.le_trans hn q6⟩
theorem aPt:∀p∈([]:List (AV × List Rat)),IsL [] h p.1 p.2:=fun _ h=>by cases h
theorem aOq{f:Nat}{G:Func}{cd:Code}{args:List AV}{e0:Env}{Q:AV→H→Prop}(hG:F.P.funcs[f]? =some G)(hb:G.body=some cd)(hp:F.pr f=none)(hh:F.ph f=none)(hw:F.pw f=none)(he:jX G.ntmps args 0 (fill G.ntmps 0 .lf)=some e0)(hs:Kn e0 s)(hl:∀p∈ls,IsL [] h p.1 p.2)
  (k:∀β e,β=h.bar→St β h e s h [] ls []→Xw F G.ntmps f cd e h fun x e h=>∃v,leave F G ⟨x,e,h⟩=some (v,h)∧Q v h):Xc F f args h Q:=aIu hG hb hp hh hw he (k _ _ rfl (St.start hs hl))
theorem St.res(hS:St β h0 e s h ws ls ps){j id n:Nat}{cap:Option Nat}(hj:ws[j]? =some (id,⟨aIt,aB3 xs⟩))(hn:n=xs.length)(hc:∀m,cap=some m→xs.length≤m):IsF h0 h (sc (.sl id 0 n cap)) xs:=by
 subst hn;obtain⟨h1,h2,h3⟩:=hS.w.1 _ (List.mem_of_getElem? hj);exact .inr ⟨id,cap,aB3 xs,rfl,hc,h3,List.prefix_refl _,h2,h1⟩
end
inductive Y where
 |a (v:AV)
 |b (x:Bool)
 |p (k off:Nat)
noncomputable section
def Fc(F:Cf)(f:Nat)(args:List AV)(v:AV):Prop:=∀h:H,h.bar≤h.n→Xc F f args h fun u h'=>u=v∧Xh h h'
def oo{α:Type}(r:Option α)(k:α→Prop):Prop:=match r with|some x=>k x|none=>False
def lkY:List (Nat × Y)→Nat→Option Y
 | [],_=>none
 |p::s,k=>cb (Nat.beq p.1 k) (some p.2) (lkY s k)
def lit(v:AV):Y:=match v with| .c false [.b x]=>.b x|v=>.a v
def yv(s:List (Nat × Y))(x:Operand):Option Y:=match x with
 | .tmp t=>lkY s t
 |x=>ob (evs [] x) fun v=>some (lit v)
def rl(y:Y):Option AV:=match y with| .a v=>some v| .b x=>some (sc (.b x))| .p _ _=>none
def yvL(s:List (Nat × Y))(l:List Operand):Option (List AV):=match l with
 | []=>some []
 |x::l=>ob (yv s x) fun y=>ob (rl y) fun v=>ob (yvL s l) fun r=>some (v::r)
def ptY(y:Y)(k:Nat→Nat→Prop):Prop:=match y with| .p i off=>k i off|_=>False
def one'(y:Y)(k:SV→Prop):Prop:=match y with| .a (.c false [x])=>k x| .b x=>k (.b x)|_=>False
def at_(ws:List B)(k:Nat):Nat:=len ws-1-k
def aIv(d:Dk)(op:BinOp)(x y:SV)(k:SV→Prop):Prop:=match op,x,y with
 | .lss,.i .i64 m,.i .i64 n=>k (.b (decide (m<n)))
 | .gtr,.i .i64 m,.i .i64 n=>k (.b (decide (n<m)))
 | .leq,.i .i64 m,.i .i64 n=>k (.b (decide (m≤n)))
 | .geq,.i .i64 m,.i .i64 n=>k (.b (decide (n≤m)))
 | .eql,.i .i64 m,.i .i64 n=>k (.b (decide (m=n)))
 | .neq,.i .i64 m,.i .i64 n=>k (.b (decide (m≠n)))
 | .add,.i .i64 m,.i .i64 n=>(-9223372036854775808≤m+n∧m+n<9223372036854775808)∧k (.i .i64 (m+n))
 | .sub,.i .i64 m,.i .i64 n=>(-9223372036854775808≤m-n∧m-n<9223372036854775808)∧k (.i .i64 (m-n))
 |op,x,y=>∃r,bop d op x y=some r∧k r
def uD(pl:Nat→Option (Nat × Nat))(s:List (Nat × Y)):List (Nat × Operand)→List SV→Option (List SV)
 | [],a=>some a
 |p::l,a=>ob (pl p.1) fun q=>ob (yv s p.2) fun y=>ob (rl y) fun v=>cells v fun c=>cb (Nat.beq (len c) q.2) (ob (eX q.1 c a) fun a=>uD pl s l a) none
def tyL'(tys:List (Nat × TI))(t:Nat)(k:TI→Prop):Prop:=match tys with
 | []=>False
 |p::l=>cb (Nat.beq p.1 t) (k p.2) (tyL' l t k)
def szL(tys:List (Nat × TI)):List (Nat × Nat)→(List (Nat × Nat)→Prop)→Prop
 | [],k=>k []
 |p::l,k=>tyL' tys p.2 fun i=>szL tys l fun r=>k ((p.1,i.sz)::r)
section
variable (F:Cf) (tys:List (Nat × TI))
def aIw(c:Call)(s:List (Nat × Y))(k:AV→Prop):Prop:=match c with
 |⟨.value (.func f),xs,_⟩=>oo (yvL s xs.toList) fun l=>∃v,Fc F f l v∧k v
 |⟨.builtin .len,xs,ts⟩=>(match ts.toList,xs.toList with
  | [t],[x]=>tyL' tys t fun i=>(match i.d with
    | .str=>oo (yv s x) fun y=>one' y fun v=>(match v with| .s l=>k (sc (.i .i64 (l.length:Int)))|_=>False)
    | .sl _=>oo (yv s x) fun y=>one' y fun v=>(match v with| .m n=>oo (F.ln false n) fun n=>k (sc (.i .i64 (n:Int)))| .r n=>oo (F.ln true n) fun n=>k (sc (.i .i64 (n:Int)))|_=>False)
    |_=>False)
  |_,_=>False)
 |_=>False
def vop(st:Bool)(o:Op)(s:List (Nat × Y))(ws:List B)(k:Y→List B→Prop):Prop:=match o with
 | .move x=>oo (yv s x) fun y=>k y ws
 | .assign x=>oo (yv s x) fun y=>k y ws
 | .pick c a d=>oo (yv s c) fun y=>(match y with| .b x=>oo (yv s (cb x a d)) fun y=>k y ws|_=>False)
 | .extract x n=>oo (yv s x) fun y=>(match y with| .a (.t l)=>oo (drp n l).head? fun p=>k (.a (.c p.1 p.2)) ws|_=>False)
 | .fieldAddr sT x f=>tyL' tys sT fun i=>oo (fields i.d f) fun q=>tyL' tys q.2 fun j=>cb (Nat.blt 0 j.sz) (oo (yv s x) fun y=>ptY y fun n off=>k (.p n (off+q.1)) ws) False
 | .load t x=>tyL' tys t fun i=>oo (yv s x) fun y=>ptY y fun n off=>oo ws[at_ ws n]? fun b=>oo (cZ i.sz (drp off b.c)) fun l=>oo (av i.d.ag l) fun v=>k (.a v) ws
 | .store t a x=>cb st (tyL' tys t fun i=>oo (yv s a) fun y=>ptY y fun n off=>oo (yv s x) fun y=>oo (rl y) fun v=>(match v with
   | .c _ l=>oo ws[at_ ws n]? fun b=>cb (Nat.beq l.length i.sz) (oo (eX off l b.c) fun c=>cb (mR b) (k (.a un) (ws.set (at_ ws n) ⟨b.ty,c⟩)) False) False
   |_=>False)) False
 | .alloc t=>tyL' tys t fun i=>k (.p (len ws) 0) (⟨t,i.ze⟩::ws)
 | .box t x=>oo (yv s x) fun y=>oo (rl y) fun v=>(match v with| .c _ l=>k (.p (len ws) 0) (⟨t,l⟩::ws)|_=>False)
 | .build t pr=>tyL' tys t fun i=>(match i.d with| .st fs=>szL tys fs fun pl=>oo (uD (fun f=>(drp f pl).head?) s pr.toList i.ze) fun c=>k (.a (.c true c)) ws|_=>False)
 | .binOp op t x y _=>tyL' tys t fun i=>cb i.d.ag False (oo (yv s x) fun y1=>one' y1 fun a=>oo (yv s y) fun y2=>one' y2 fun c=>aIv i.d op a c fun r=>k (.a (sc r)) ws)
 | .unOp .not _ x=>oo (yv s x) fun y=>one' y fun a=>(match a with| .b x=>k (.a (sc (.b (cO x)))) ws|_=>False)
 | .unOp .neg _ x=>oo (yv s x) fun y=>one' y fun a=>(match a with| .i .i64 n=>(-9223372036854775808<n∧n≤9223372036854775807)∧k (.a (sc (.i .i64 (-n)))) ws|_=>False)
 | .index t x ix=>tyL' tys t fun i=>(match i.d with| .str=>oo (yv s x) fun y=>one' y fun a=>(match a with| .s l=>oo (yv s ix) fun y2=>one' y2 fun c=>oo (natOf c some) fun j=>∃b,l[j]? =some b∧k (.a (sc (.i .u8 (b:Int)))) ws|_=>False)|_=>False)
 | .call c=>aIw F tys c s fun v=>k (.a v) ws
 |_=>False
def vgd(ops:List Oper)(s:List (Nat × Y))(g:Option (Nat × Bool))(k:Bool→List (Nat × Y)→Prop):Prop:=match g with
 |none=>k true s
 |some (g,w)=>oo (drp g ops).head? fun o=>oo o.dst fun j=>oo (lkY s j) fun y=>(match y with
  | .b x=>k (cb w x (cO x)) s
  | .a (.c false [.b x])=>(x=true→k (cb w true false) ((j,.b true)::s))∧(x=false→k (cb w false true) ((j,.b false)::s))
  | .a (.t [])=>k false s
  |_=>False)
def vst(st:Bool)(nt:Nat)(ops:List Oper)(o:Oper)(s:List (Nat × Y))(ws:List B)(k:List (Nat × Y)→List B→Prop):Prop:=match o.dst with
 |none=>(match o.guard with|none=>vop F tys st o.op s ws fun _ ws=>k s ws|some _=>False)
 |some d=>cb (Nat.blt d nt) (vgd ops s o.guard fun t s=>cb t (vop F tys st o.op s ws fun y ws=>k ((d,y)::s) ws) (k ((d,.a un)::s) ws)) False
def aEX(nt:Nat)(ops:List Oper):List Oper→List (Nat × Y)→List B→(List (Nat × Y)→List B→Prop)→Prop
 | [],s,ws,k=>k s ws
 |o::l,s,ws,k=>vst F tys true nt ops o s ws fun s ws=>aEX nt ops l s ws k
def vA(nt:Nat)(ops:List Oper):List Nat→List (Nat × Y)→List B→(List (Nat × Y)→List B→Prop)→Prop
 | [],s,ws,k=>k s ws
 |i::l,s,ws,k=>oo (drp i ops).head? fun o=>vst F tys false nt ops o s ws fun s ws=>vA nt ops l s ws k
def vag(ops:List Oper)(s:List (Nat × Y))(ws:List B):List Nat→Prop
 | []=>True
 |i::l=>oo (drp i ops).head? fun o=>(match o.op with
  | .fieldAddr ..=>vag ops s ws l
  | .load t x=>tyL' tys t fun j=>oo (yv s x) fun y=>ptY y fun n off=>oo ws[at_ ws n]? fun b=>oo (cZ j.sz (drp off b.c)) fun c=>oo (av j.d.ag c) fun u=>oo o.dst fun d=>oo (lkY s d) fun y=>o.guard=none∧y=.a u∧avb u u=true∧vag ops s ws l
  |_=>False)
def vB(nt:Nat)(ops:List Oper):List (Nat × List Nat)→List (Nat × Y)→List B→(List (Nat × Y)→List B→Prop)→Prop
 | [],s,ws,k=>k s ws
 |(i,[])::l,s,ws,k=>oo (drp i ops).head? fun o=>vst F tys true nt ops o s ws fun s ws=>vB nt ops l s ws k
 |(i,late)::l,s,ws,k=>oo (drp i ops).head? fun o=>vst F tys true nt ops o s ws fun s ws=>vag tys ops s ws late∧vB nt ops l s ws k
def aIx(n:Nat)(s:List (Nat × Y)):List (Nat × Y)→Prop
 | []=>True
 |p::l=>(lkY s p.1=some p.2∧(match p.2 with| .p k _=>k<n|_=>True))∧aIx n s l
def fits(s:List (Nat × Y))(ws:List B)(t:List (Nat × Y) × List B):Prop:=(∃d,ws=d++t.2)∧aIx t.2.length s t.1
def vc(nt fn:Nat):Code→List (Nat × Y)→List B→(Ex→List (Nat × Y)→List B→Prop)→Prop
 | .skip,s,ws,k=>k .n s ws
 | .ret,s,ws,k=>k .r s ws
 | .exit id,s,ws,k=>k (.x id) s ws
 | .seq a b,s,ws,k=>vc nt fn a s ws fun x s ws=>(match x with| .n=>vc nt fn b s ws k|x=>k x s ws)
 | .region id ops dr,s,ws,k=>cb dr (oo (F.pl fn id) fun p=>lS F ops p=true∧vA F tys nt ops.toList p.1 s ws fun s ws=>vB F tys nt ops.toList p.2 s ws (k .n)) (aEX F tys nt ops.toList ops.toList s ws (k .n))
 | .cond c a b,s,ws,k=>oo (yv s c) fun y=>(match y with
   | .b x=>cb x (vc nt fn a s ws k) (vc nt fn b s ws k)
   | .a (.c false [.b x])=>(x=true→vc nt fn a s ws k)∧(x=false→vc nt fn b s ws k)
   |_=>False)
 | .block id a,s,ws,k=>vc nt fn a s ws fun x s ws=>(match x with| .x j=>cb (Nat.beq id j) (k .n s ws) (k (.x j) s ws)|x=>k x s ws)
 | .loop a,s,ws,k=>∃(ι:Type) (I:ι→List (Nat × Y) × List B) (m:ι→Nat),(∃i,fits s ws (I i))∧∀i,vc nt fn a (I i).1 (I i).2 fun x s ws=>(match x with| .n=>∃j,m j<m i∧fits s ws (I j)|x=>k x s ws)
 |_,_,_,_=>False
def aIy(r:ResultVar)(s:List (Nat × Y))(ws:List B)(k:Bool × List SV→Prop):Prop:=match r with
 | .tmp t=>oo (lkY s t) fun y=>oo (rl y) fun v=>(match v with| .c g l=>k (g,l)|_=>False)
 | .cell t ty=>tyL' tys ty fun i=>oo (lkY s t) fun y=>ptY y fun n off=>oo ws[at_ ws n]? fun b=>oo (cZ i.sz (drp off b.c)) fun l=>cb i.d.ag (k (true,l)) False
def aEY:List ResultVar→List (Nat × Y)→List B→(List (Bool × List SV)→Prop)→Prop
 | [],_,_,k=>k []
 |r::l,s,ws,k=>aIy tys r s ws fun p=>aEY l s ws fun q=>k (p::q)
def ixY(k:Nat):List AV→List (Nat × Y)
 | []=>[]
 |v::l=>(k,.a v)::ixY (k+1) l
def vfn(G:Func)(f:Nat)(cd:Code)(args:List AV)(v:AV):Prop:=vc F tys G.ntmps f cd (ixY 0 args) [] fun x s ws=>(match x with
 | .x _=>False
 |_=>aEY tys G.results.toList s ws fun l=>tup l=v)
end
end
def YR(ids:List Nat)(y:Y)(v:AV):Prop:=match y with
 | .a u=>v=u
 | .b x=>v=sc (.b x)
 | .p k off=>k<ids.length∧∃id,ids[ids.length-1-k]? =some id∧v=sc (.p id off)
def RS(ids:List Nat):List (Nat × Y)→List (Nat × AV)→Prop
 | [],[]=>True
 |p::a,q::b=>p.1=q.1∧YR ids p.2 q.2∧RS ids a b
 |_,_=>False
def zp:List Nat→List B→List (Nat × B)
 |i::l,b::m=>(i,b)::zp l m
 |_,_=>[]
structure Sy (F:Cf) (β:Nat) (g:H) (e:Env) (h:H) (sy:List (Nat × Y)) (ws:List B) (ls:List (AV × List Rat)) (ps:List (AV × Rat)) (ids:List Nat) (s:List (Nat × AV)):Prop where
 r:RS ids sy s
 len:ids.length=ws.length
 st:St β g e s h (zp ids ws) ls ps
section
variable {F:Cf} {tys:List (Nat × TI)} {nt fn β:Nat} {g h h':H} {e:Env} {sy:List (Nat × Y)} {s:List (Nat × AV)} {ws:List B} {ls:List (AV × List Rat)} {ps:List (AV × Rat)} {ids:List Nat} {y:Y} {v:AV} {zs:List (Nat × B)}
theorem aT{α:Type}{r:Option α}{k:α→Prop}(h:oo r k):∃x,r=some x∧k x:=by
 cases r with
 |none=>exact h.elim
 |some x=>exact⟨x,rfl,h⟩
theorem cbT{c:Bool}{p:Prop}(h:cb c p False):c=true∧p:=by cases c with|true=>exact⟨rfl,h⟩|false=>exact h.elim
theorem cbF{c:Bool}{p:Prop}(h:cb c False p):c=false∧p:=by cases c with|false=>exact⟨rfl,h⟩|true=>exact h.elim
theorem YR.mono{i:Nat}(h:YR ids y v):YR (i::ids) y v:=by
 cases y with
 |a u=>exact h
 |b x=>exact h
 |p k off=>
  obtain⟨h1,id,h2,h3⟩:=h;refine⟨Nat.lt_succ_of_lt h1,id,?_,h3⟩;rw[List.length_cons,show ids.length+1-1-k=(ids.length-1-k)+1 by omega];exact h2
theorem RS.mono{i:Nat}:∀{sy:List (Nat × Y)} {s:List (Nat × AV)},RS ids sy s→RS (i::ids) sy s
 | [],[],_=>trivial
 |_::_,_::_,h=>⟨h.1,h.2.1.mono,RS.mono h.2.2⟩
theorem RS.cons{d:Nat}(h:RS ids sy s)(hy:YR ids y v):RS ids ((d,y)::sy) ((d,v)::s):=⟨rfl,hy,h⟩
theorem RS.lk:∀{sy:List (Nat × Y)} {s:List (Nat × AV)} {d:Nat} {y:Y},RS ids sy s→lkY sy d=some y→∃v,E.lk s d=some v∧YR ids y v
 |p::a,q::b,d,y,h,hx=>by
  obtain⟨p1,p2⟩:=p;obtain⟨q1,q2⟩:=q;obtain⟨h1,h2,h3⟩:=h;have h1:p1=q1:=h1;subst h1;have hx:cb (Nat.beq p1 d) (some p2) (lkY a d)=some y:=hx;show ∃v,cb (Nat.beq p1 d) (some q2) (E.lk b d)=some v∧YR ids y v;cases hb:Nat.beq p1 d with
  |true=>
   rw[hb]at hx;injection hx with hx;subst hx;exact⟨q2,rfl,h2⟩
  |false=>
   rw[hb]at hx;exact RS.lk h3 hx
theorem aGI{v:AV}:YR ids (lit v) v:=by
 unfold lit;split<;>rfl
theorem RS.ev{x:Operand}(h:RS ids sy s)(hx:yv sy x=some y):∃v,evs s x=some v∧YR ids y v:=by
 cases x with
 |tmp t=>exact h.lk hx
 |const c=>
  obtain⟨v,h1,h2⟩:=aA.1 (show ob (evs [] (.const c)) (fun v=>some (lit v))=some y from hx);injection h2 with h2;subst h2;exact⟨v,h1,aGI⟩
 |global c=>cases hx
 |func f=>
  injection hx with hx;subst hx;exact⟨_,rfl,aGI⟩
theorem yH{u:AV}(h:rl y=some u)(hy:YR ids y v):v=u:=by
 cases y with
 |a w=>injection h with h;exact hy.trans h
 |b x=>injection h with h;exact hy.trans h
 |p k off=>cases h
theorem RS.evL(h:RS ids sy s):∀{l:List Operand} {vs:List AV},yvL sy l=some vs→zM s l=some vs
 | [],vs,hx=>hx
 |x::l,vs,hx=>by
  obtain⟨y,h1,hx⟩:=aA.1 (show ob (yv sy x) (fun y=>ob (rl y) fun v=>ob (yvL sy l) fun r=>some (v::r))=some vs from hx);obtain⟨v,h2,hx⟩:=aA.1 hx;obtain⟨r,h3,h4⟩:=aA.1 hx;obtain⟨u,h5,h6⟩:=h.ev h1;have:=yH h2 h6;subst this;show ob (evs s x) (fun v=>ob (zM s l) fun r=>some (v::r))=some vs;rw[h5,h.evL h3];exact h4
theorem uE{k:Nat→Nat→Prop}(h:ptY y k)(hy:YR ids y v):∃n off id,n<ids.length∧ids[ids.length-1-n]? =some id∧v=sc (.p id off)∧y=.p n off∧k n off:=by
 cases y with
 |a w=>exact h.elim
 |b x=>exact h.elim
 |p n off=>exact⟨n,off,hy.2.choose,hy.1,hy.2.choose_spec.1,hy.2.choose_spec.2,rfl,h⟩
theorem mD{k:SV→Prop}(h:one' y k)(hy:YR ids y v):∃x,v=sc x∧k x:=by
 unfold one' at h;split at h
 ·exact⟨_,hy,h⟩
 ·exact⟨_,hy,h⟩
 ·exact h.elim
theorem yI:∀{ids:List Nat} {ws:List B} {j i:Nat} {b:B},ids[j]? =some i→ws[j]? =some b→(zp ids ws)[j]? =some (i,b)
 |_::_,_::_,0,_,_,h1,h2=>by
  injection h1 with h1;injection h2 with h2;subst h1;subst h2;rfl
 |_::l,_::m,j+1,_,_,h1,h2=>yI (ids:=l) (ws:=m) (j:=j) h1 h2
 | [],_,_,_,_,h1,_=>by simp at h1
 |_::_,[],_,_,_,_,h2=>by simp at h2
theorem aGJ:∀{ids:List Nat} {ws:List B} {j i:Nat} {b:B},ids[j]? =some i→(zp ids ws).set j (i,b)=zp ids (ws.set j b)
 |_::_,_::_,0,_,_,h1=>by injection h1 with h1;subst h1;rfl
 |i::l,b::m,j+1,_,_,h1=>congrArg ((i,b)::·) (aGJ (ids:=l) (ws:=m) (j:=j) h1)
 | [],_,_,_,_,h1=>by simp at h1
 |_::_,[],_,_,_,_=>by simp[zp]
theorem at_eq(hl:ids.length=ws.length)(k:Nat):at_ ws k=ids.length-1-k:=by unfold at_;rw[bH,hl]
theorem tyL'_ok:∀{tys:List (Nat × TI)} {t:Nat} {k:TI→Prop},(∀p∈tys,F.ti p.1=some p.2)→tyL' tys t k→∃i,F.ti t=some i∧k i
 | [],_,_,_,h=>h.elim
 |p::l,t,k,ht,h=>by
  have h:cb (Nat.beq p.1 t) (k p.2) (tyL' l t k):=h;cases hb:Nat.beq p.1 t with
  |true=>
   rw[hb]at h;exact⟨p.2,aH.1 hb▸ht _ (List.mem_cons_self ..),h⟩
  |false=>
   rw[hb]at h;exact tyL'_ok (fun q hq=>ht q (List.mem_cons_of_mem _ hq)) h
theorem szF{t:Nat}{i:TI}(h:F.ti t=some i):sz F t=some i.sz:=by unfold sz;rw[h];rfl
theorem aGK(ht:∀p∈tys,F.ti p.1=some p.2):∀{fs:List (Nat × Nat)} {k:List (Nat × Nat)→Prop},szL tys fs k→∃pl,szs F fs=some pl∧k pl
 | [],_,h=>⟨[],rfl,h⟩
 |p::l,k,h=>by
  obtain⟨i,h1,h2⟩:=tyL'_ok ht (show tyL' tys p.2 _ from h);obtain⟨pl,h3,h4⟩:=aGK ht h2;refine⟨_,?_,h4⟩;show ob (sz F p.2) (fun s=>ob (szs F l) fun r=>some ((p.1,s)::r))=_;rw[szF h1,h3];rfl
theorem aAo{pl:Nat→Option (Nat × Nat)}(h:RS ids sy s):∀{l:List (Nat × Operand)} {a c:List SV},uD pl sy l a=some c→nY pl s l a=some c
 | [],_,_,hx=>hx
 |p::l,a,c,hx=>by
  obtain⟨q,h1,hx⟩:=aA.1 (show ob (pl p.1) (fun q=>ob (yv sy p.2) fun y=>ob (rl y) fun v=>cells v fun c=>cb (Nat.beq (len c) q.2) (ob (eX q.1 c a) fun a=>uD pl sy l a) none)=some c from hx);obtain⟨y,h2,hx⟩:=aA.1 hx;obtain⟨v,h3,hx⟩:=aA.1 hx;obtain⟨u,h5,h6⟩:=h.ev h2;have:=yH h3 h6;subst this;show ob (pl p.1) (fun q=>ob (evs s p.2) fun v=>cells v fun c=>cb (Nat.beq (len c) q.2) (ob (eX q.1 c a) (nY pl s l)) none)=some c;rw[h1];show ob (evs s p.2) (fun v=>cells v fun c=>cb (Nat.beq (len c) q.2) (ob (eX q.1 c a) (nY pl s l)) none)=some c;rw[h5];cases u with
  |t l=>cases hx
  |c gg cs=>
   obtain⟨h7,hx⟩:=aB.1 (show cb (Nat.beq (len cs) q.2) (ob (eX q.1 cs a) fun a=>uD pl sy l a) none=some c from hx);obtain⟨a2,h8,h9⟩:=aA.1 hx;show cb (Nat.beq (len cs) q.2) (ob (eX q.1 cs a) (nY pl s l)) none=some c;rw[h7,h8];exact aAo h h9
theorem aKT{d:Dk}{op:BinOp}{x z:SV}{k:SV→Prop}(h:aIv d op x z k):∃r,bop d op x z=some r∧k r:=by
 unfold aIv at h;split at h
 ·exact⟨_,aPi,h⟩
 ·exact⟨_,aPj,h⟩
 ·exact⟨_,aPk,h⟩
 ·exact⟨_,aPl,h⟩
 ·exact⟨_,aPm,h⟩
 ·exact⟨_,aPn,h⟩
 ·exact⟨_,aOk h.1.1 h.1.2,h.2⟩
 ·exact⟨_,aOl h.1.1 h.1.2,h.2⟩
 ·exact h
def Aft(F:Cf)(β:Nat)(g:H)(e:Env)(ls:List (AV × List Rat))(ps:List (AV × Rat))(sy:List (Nat × Y))(k:Y→List B→Prop)(v:AV)(h:H):Prop:=∃y ws ids s,k y ws∧YR ids y v∧Sy F β g e h sy ws ls ps ids s
variable {st:Bool} {k:Y→List B→Prop}
theorem aOr{t:Nat}{x:Operand}{n:Int}{Q:AV→H→Prop}(hS:St β g e s h zs ls ps)(hx:evs s x=some (sc (.i .i64 n)))(h1:-9223372036854775808<n)(h2:n≤9223372036854775807)(k:Q (sc (.i .i64 (-n))) h):Xop F (.unOp .neg t x) e h Q:=
 .now (fun _=>by
  show oUn e h .neg x=_;unfold oUn;rw[bU hS.k hx];show ob (mkZ .i64 (0-n)) (fun r=>vh r h)=_;rw[nJ (by omega) (by omega),Int.zero_sub];rfl) k
theorem aGL{x:Operand}{i:TI}{t el n k:Nat}{r:Bool}{Q:AV→H→Prop}(hS:St β g e s h zs ls ps)(ht:F.ti t=some i)(hd:i.d=.sl el)(hx:evs s x=some (sc (cb r (.r n) (.m n))))(hk:F.ln r n=some k)(kk:Q (sc (.i .i64 (k:Int))) h):Xop F (.call {callee:=.builtin .len,args:=#[x],argTypes:=#[t]}) e h Q:=
 aMR hS (args:=[_]) (by show ob (evs s x) _=_;rw[hx];rfl) (by
  show ob (F.ti t) (fun i=>one (sc (cb r (.r n) (.m n))) fun s=>(match i.d,s with| .str,.s l=>vh (.i .i64 (.ofNat (len l))) h| .sl _,.ns=>vh (.i .i64 0) h| .sl _,.sl _ _ n _=>vh (.i .i64 (.ofNat n)) h| .sl _,.v x=>roN h x| .mp _ _,s=>ob (mpE h s) fun l=>vh (.i .i64 (.ofNat (len l))) h| .sl _,.m n=>ob (F.ln false n) fun k=>vh (.i .i64 (.ofNat k)) h| .sl _,.r n=>ob (F.ln true n) fun k=>vh (.i .i64 (.ofNat k)) h|_,_=>none))=_;rw[ht];show (match i.d,cb r (SV.r n) (SV.m n) with| .str,.s l=>vh (.i .i64 (.ofNat (len l))) h| .sl _,.ns=>vh (.i .i64 0) h| .sl _,.sl _ _ n _=>vh (.i .i64 (.ofNat n)) h| .sl _,.v x=>roN h x| .mp _ _,s=>ob (mpE h s) fun l=>vh (.i .i64 (.ofNat (len l))) h| .sl _,.m n=>ob (F.ln false n) fun k=>vh (.i .i64 (.ofNat k)) h| .sl _,.r n=>ob (F.ln true n) fun k=>vh (.i .i64 (.ofNat k)) h|_,_=>none)=_;rw[hd];cases r<;>(show ob (F.ln _ n) _=_;rw[hk];rfl)) kk
theorem aOs{x y:Operand}{i:TI}{t j b:Nat}{l:List Nat}{c:SV}{Q:AV→H→Prop}(hS:St β g e s h zs ls ps)(ht:F.ti t=some i)(hd:i.d=.str)(hx:evs s x=some (sc (.s l)))(hy:evs s y=some (sc c))(hj:natOf c some=some j)(hb:l[j]? =some b)(kk:Q (sc (.i .u8 (b:Int))) h):Xop F (.index t x y) e h Q:=
 .now (fun _=>by
  show oIx F e h t x y=_;unfold oIx;rw[ht,bU hS.k hy];cases c with
  |i k n=>
   cases n with
   |ofNat n=>
    injection hj with hj;subst hj
    show (match i.d with
       | .ar n2 el=>ob (F.ti el) fun g=>cb (Nat.blt n n2) (ob (ev e x) fun v=>agg v fun l=>ob (cZ g.sz (drp (Nat.mul n g.sz) l)) fun l=>ob (av g.d.ag l) fun v=>some (v,h)) none
       | .str=>ob (ev e x) fun v=>one v fun s=>(match s with| .s l=>ob (drp n l).head? fun b=>vh (.i .u8 (.ofNat b)) h|_=>none)
       |_=>none)=_
    rw[hd];show (ob (ev e x) fun v=>one v fun s=>(match s with| .s l=>ob (drp n l).head? fun b=>vh (.i .u8 (.ofNat b)) h|_=>none))=_;rw[bU hS.k hx];show ob (drp n l).head? (fun b=>vh (.i .u8 (.ofNat b)) h)=_;rw[gN,List.head?_drop,hb];rfl
   |negSucc n=>cases hj
  |_=>cases hj) kk
theorem Sy.keep{v:AV}{y:Y}(hS:Sy F β g e h sy ws ls ps ids s)(hk:k y ws)(hy:YR ids y v):Aft F β g e ls ps sy k v h:=⟨y,ws,ids,s,hk,hy,hS⟩
theorem Sy.new{b:B}{id:Nat}(hS:Sy F β g e h sy ws ls ps ids s)(hk:k (.p (E.len ws) 0) (b::ws))(hn:St β g e s h' ((id,b)::zp ids ws) ls ps):Aft F β g e ls ps sy k (sc (.p id 0)) h':=
 ⟨_,b::ws,id::ids,s,hk,⟨by rw[bH,←hS.len];exact Nat.lt_succ_self _,id,by rw[bH,←hS.len,List.length_cons,Nat.add_sub_cancel,Nat.sub_self];rfl,rfl⟩,hS.r.mono,congrArg Nat.succ hS.len,hn⟩
theorem aKU{c:Call}{k:AV→Prop}(ht:∀p∈tys,F.ti p.1=some p.2)(hS:Sy F β g e h sy ws ls ps ids s)(hb:β≤h.n)(hx:aIw F tys c sy k):Xop F (.call c) e h (Aft F β g e ls ps sy fun y w=>∃v,y=.a v∧w=ws∧k v):=by
 unfold aIw at hx;split at hx
 ·obtain⟨l,h1,v,h2,h3⟩:=aT hx;refine aPr hS.st (hS.r.evL h1) ((h2 h (hS.st.bl hb)).mono fun u h' hq=>?_);obtain⟨rfl,hx⟩:=hq;exact Sy.keep ⟨hS.r,hS.len,hS.st.xh hx⟩ ⟨_,rfl,rfl,h3⟩ rfl
 ·rename_i xs ts;split at hx
  ·rename_i t x e1 e2;obtain⟨i,h1,hx⟩:=tyL'_ok ht hx;split at hx
   ·rename_i hd;obtain⟨y,h2,hx⟩:=aT hx;obtain⟨v,h3,h4⟩:=hS.r.ev h2;obtain⟨x1,h5,hx⟩:=mD hx h4;split at hx
    ·subst h5;have a1:ts=#[t]:=Array.toList_inj.1 e1;have a2:xs=#[x]:=Array.toList_inj.1 e2;subst a1;subst a2;exact aMS hS.st h1 hd h3 (hS.keep ⟨_,rfl,rfl,hx⟩ rfl)
    ·exact hx.elim
   ·rename_i el hd;obtain⟨y,h2,hx⟩:=aT hx;obtain⟨v,h3,h4⟩:=hS.r.ev h2;obtain⟨x1,h5,hx⟩:=mD hx h4;split at hx
    ·obtain⟨n,h6,hx⟩:=aT hx;subst h5;have a1:ts=#[t]:=Array.toList_inj.1 e1;have a2:xs=#[x]:=Array.toList_inj.1 e2;subst a1;subst a2;exact aGL (r:=false) hS.st h1 hd h3 h6 (hS.keep ⟨_,rfl,rfl,hx⟩ rfl)
    ·obtain⟨n,h6,hx⟩:=aT hx;subst h5;have a1:ts=#[t]:=Array.toList_inj.1 e1;have a2:xs=#[x]:=Array.toList_inj.1 e2;subst a1;subst a2;exact aGL (r:=true) hS.st h1 hd h3 h6 (hS.keep ⟨_,rfl,rfl,hx⟩ rfl)
    ·exact hx.elim
   ·exact hx.elim
  ·exact hx.elim
 ·exact hx.elim
theorem aGM{o:Op}(ht:∀p∈tys,F.ti p.1=some p.2)(hS:Sy F β g e h sy ws ls ps ids s)(hb:β≤h.n)(hw:st=true→β≤g.n)(hx:vop F tys st o sy ws k):Xop F o e h (Aft F β g e ls ps sy k):=by
 unfold vop at hx;split at hx
 ·obtain⟨y,h1,h2⟩:=aT hx;obtain⟨v,h3,h4⟩:=hS.r.ev h1;exact aPg hS.st h3 (hS.keep h2 h4)
 ·obtain⟨y,h1,h2⟩:=aT hx;obtain⟨v,h3,h4⟩:=hS.r.ev h1;exact aPh hS.st h3 (hS.keep h2 h4)
 ·obtain⟨y1,h1,hx⟩:=aT hx;obtain⟨v1,h3,h4⟩:=hS.r.ev h1;split at hx
  ·obtain⟨y,h5,hx⟩:=aT hx;obtain⟨v,h6,h7⟩:=hS.r.ev h5;have h4:v1=_:=h4;subst h4;exact aMQ hS.st h3 h6 (hS.keep hx h7)
  ·exact hx.elim
 ·obtain⟨y1,h1,hx⟩:=aT hx;obtain⟨v1,h3,h4⟩:=hS.r.ev h1;split at hx
  ·obtain⟨p,h5,hx⟩:=aT hx;have h4:v1=_:=h4;subst h4;exact aOo hS.st h3 h5 (hS.keep hx rfl)
  ·exact hx.elim
 ·obtain⟨i,h1,hx⟩:=tyL'_ok ht hx;obtain⟨q,h2,hx⟩:=aT hx;obtain⟨j,h3,hx⟩:=tyL'_ok ht hx;obtain⟨h4,hx⟩:=cbT hx;obtain⟨y,h5,hx⟩:=aT hx;obtain⟨v,h6,h7⟩:=hS.r.ev h5;obtain⟨n,off,id,h8,h9,rfl,rfl,hx⟩:=uE hx h7;exact aPq hS.st h1 h2 (szF h3) h4 h6 (hS.keep hx ⟨h8,id,h9,rfl⟩)
 ·obtain⟨i,h1,hx⟩:=tyL'_ok ht hx;obtain⟨y,h5,hx⟩:=aT hx;obtain⟨v,h6,h7⟩:=hS.r.ev h5;obtain⟨n,off,id,h8,h9,rfl,rfl,hx⟩:=uE hx h7;obtain⟨b,h10,hx⟩:=aT hx;obtain⟨l,h11,hx⟩:=aT hx;obtain⟨u,h12,hx⟩:=aT hx;rw[at_eq hS.len]at h10;exact aPo hS.st h1 h6 (yI h9 h10) h11 h12 (hS.keep hx rfl)
 ·obtain⟨hst,hx⟩:=cbT hx;obtain⟨i,h1,hx⟩:=tyL'_ok ht hx;obtain⟨y,h5,hx⟩:=aT hx;obtain⟨v,h6,h7⟩:=hS.r.ev h5;obtain⟨n,off,id,h8,h9,rfl,rfl,hx⟩:=uE hx h7;obtain⟨y2,h10,hx⟩:=aT hx;obtain⟨v2,h11,hx⟩:=aT hx;obtain⟨v3,h12,h13⟩:=hS.r.ev h10;have:=yH h11 h13;subst this;split at hx
  ·obtain⟨b,h14,hx⟩:=aT hx;obtain⟨h15,hx⟩:=cbT hx;obtain⟨c,h16,hx⟩:=aT hx;obtain⟨h17,hx⟩:=cbT hx;rw[at_eq hS.len]at h14 hx;refine aPp hS.st (hw hst) (szF h1) h6 h12 (aH.1 h15) (yI h9 h14) h16 h17 fun h2 hS2=>?_;rw[aGJ h9]at hS2;exact Sy.keep ⟨hS.r,by rw[List.length_set];exact hS.len,hS2⟩ hx rfl
  ·exact hx.elim
 ·obtain⟨i,h1,hx⟩:=tyL'_ok ht hx;exact aKR hS.st h1 fun id h2 hS2=>hS.new hx hS2
 ·obtain⟨y,h1,hx⟩:=aT hx;obtain⟨v,h2,hx⟩:=aT hx;obtain⟨v3,h3,h4⟩:=hS.r.ev h1;have:=yH h2 h4;subst this;split at hx
  ·exact aOn hS.st h3 fun id h2 hS2=>hS.new hx hS2
  ·exact hx.elim
 ·obtain⟨i,h1,hx⟩:=tyL'_ok ht hx;split at hx
  ·rename_i fs hd;obtain⟨pl,h2,hx⟩:=aGK ht hx;obtain⟨c,h3,hx⟩:=aT hx;exact aKS hS.st h1 hd h2 (aAo hS.r h3) (hS.keep hx rfl)
  ·exact hx.elim
 ·obtain⟨i,h1,hx⟩:=tyL'_ok ht hx;obtain⟨h2,hx⟩:=cbF hx;obtain⟨y1,h3,hx⟩:=aT hx;obtain⟨v1,h4,h5⟩:=hS.r.ev h3;obtain⟨x1,rfl,hx⟩:=mD hx h5;obtain⟨y2,h6,hx⟩:=aT hx;obtain⟨v2,h7,h8⟩:=hS.r.ev h6;obtain⟨x2,rfl,hx⟩:=mD hx h8;obtain⟨r,h9,hx⟩:=aKT hx;exact aOj hS.st h1 h2 h4 h7 h9 (hS.keep hx rfl)
 ·obtain⟨y1,h3,hx⟩:=aT hx;obtain⟨v1,h4,h5⟩:=hS.r.ev h3;obtain⟨x1,rfl,hx⟩:=mD hx h5;split at hx
  ·exact aOm hS.st h4 (hS.keep hx rfl)
  ·exact hx.elim
 ·obtain⟨y1,h3,hx⟩:=aT hx;obtain⟨v1,h4,h5⟩:=hS.r.ev h3;obtain⟨x1,rfl,hx⟩:=mD hx h5;split at hx
  ·exact aOr hS.st h4 hx.1.1 hx.1.2 (hS.keep hx.2 rfl)
  ·exact hx.elim
 ·obtain⟨i,h1,hx⟩:=tyL'_ok ht hx;split at hx
  ·rename_i hd;obtain⟨y,h2,hx⟩:=aT hx;obtain⟨v,h3,h4⟩:=hS.r.ev h2;obtain⟨x1,rfl,hx⟩:=mD hx h4;split at hx
   ·rename_i l;obtain⟨y2,h5,hx⟩:=aT hx;obtain⟨v2,h6,h7⟩:=hS.r.ev h5;obtain⟨x2,rfl,hx⟩:=mD hx h7;obtain⟨j,h8,b,h9,hx⟩:=aT hx;exact aOs hS.st h1 hd h3 h6 h8 h9 (hS.keep hx rfl)
   ·exact hx.elim
  ·exact hx.elim
 ·refine (aKU ht hS hb hx).mono fun v h' hq=>?_;obtain⟨y,w,ids,s,⟨v2,rfl,rfl,h1⟩,h2,h3⟩:=hq;exact⟨_,_,ids,s,h1,h2,h3⟩
 ·exact hx.elim
variable {ops l:List Oper} {o:Oper}
theorem aMU{gd:Option (Nat × Bool)}{k:Bool→List (Nat × Y)→Prop}(hS:Sy F β g e h sy ws ls ps ids s)(hx:vgd ops sy gd k):∃t sy s,wanted ops e gd=some t∧k t sy∧Sy F β g e h sy ws ls ps ids s:=by
 unfold vgd at hx;split at hx
 ·exact⟨_,_,_,rfl,hx,hS⟩
 ·rename_i gi w;obtain⟨o,h1,hx⟩:=aT hx;obtain⟨j,h2,hx⟩:=aT hx;obtain⟨y,h3,hx⟩:=aT hx;obtain⟨v,h4,h5⟩:=hS.r.lk h3;split at hx
  ·rename_i x;have h5:v=sc (.b x):=h5;subst h5;exact⟨_,_,_,wS hS.st h1 h2 h4,hx,hS⟩
  ·rename_i x;have h5:v=sc (.b x):=h5;subst h5;have key:Sy F β g e h ((j,.b x)::sy) ws ls ps ids ((j,sc (.b x))::s):=⟨⟨rfl,rfl,hS.r⟩,hS.len,⟨kn1 (hS.st.k j _ h4) hS.st.k,hS.st.n,hS.st.bar,hS.st.o,hS.st.l,hS.st.w,hS.st.ls,hS.st.ps⟩⟩
   cases x with
   |true=>exact⟨_,_,_,wS hS.st h1 h2 h4,hx.1 rfl,key⟩
   |false=>exact⟨_,_,_,wS hS.st h1 h2 h4,hx.2 rfl,key⟩
  ·have h5:v=.t []:=h5;subst h5;refine⟨_,_,_,?_,hx,hS⟩;show (ob (drp gi ops).head? fun o=>ob o.dst fun d=>isB (e.get d) w)=_;rw[h1];show (ob o.dst fun d=>isB (e.get d) w)=_;rw[h2];show isB (e.get j) w=_;rw[hS.st.k j _ h4];rfl
  ·exact hx.elim
theorem yJ{C:Env→H→Prop}{Go:Prop}{k:List (Nat × Y)→List B→Prop}(ht:∀p∈tys,F.ti p.1=some p.2)(hS:Sy F β g e h sy ws ls ps ids s)(hb:β≤h.n)(hw:st=true→β≤g.n)(hx:vst F tys st nt ops o sy ws k)
  (p1:∀d,wanted ops e o.guard=some true→o.dst=some d→Nat.blt d nt=true→Xop F o.op e h (fun v h=>Pk d v e h C)→Go)
  (p2:∀d,wanted ops e o.guard=some false→o.dst=some d→Nat.blt d nt=true→Pk d un e h C→Go)
  (p3:o.guard=none→o.dst=none→Xop F o.op e h (fun _ h=>C e h)→Go)
  (kk:∀e h sy ws ids s,Sy F β g e h sy ws ls ps ids s→k sy ws→C e h):Go:=by
 unfold vst at hx;split at hx
 ·rename_i hd;split at hx
  ·rename_i hg;refine p3 hg hd ((aGM ht hS hb hw hx).mono fun v h' hq=>?_);obtain⟨y,ws,ids,s,h1,h2,h3⟩:=hq;exact kk _ _ _ _ _ _ h3 h1
  ·exact hx.elim
 ·rename_i d hd;obtain⟨hn,hx⟩:=cbT hx;obtain⟨t,sy,s,h1,hx,hS⟩:=aMU hS hx;cases t with
  |true=>
   refine p1 d h1 hd hn ((aGM ht hS hb hw hx).mono fun v h' hq=>?_);obtain⟨y,ws,ids,s,h1,h2,h3⟩:=hq;exact h3.st.pk fun e hS2=>kk _ _ _ _ _ _ ⟨h3.r.cons h2,h3.len,hS2⟩ h1
  |false=>exact p2 d h1 hd hn (hS.st.pk fun e hS2=>kk _ _ _ _ _ _ ⟨hS.r.cons (y:=.a un) rfl,hS.len,hS2⟩ hx)
theorem aGN{i d:Nat}{late:List Nat}{M:List (Nat × List Nat)}{Q:Env→H→Prop}(ho:(drp i ops).head? =some o)(hw:wanted ops e o.guard=some false)(hd:o.dst=some d)(hn:Nat.blt d nt=true)(k:Pk d un e h fun e h=>Ag F ops late e h∧Xb F nt ops M e h Q):Xb F nt ops ((i,late)::M) e h Q:=by
 obtain⟨ka,e2,h2,⟨m1,k2⟩,k3⟩:=k;refine⟨e2,h2,⟨m1,fun m hm=>?_⟩,k3⟩;refine (nI ho).trans ?_;refine (wR hw).trans ?_;rw[hd,kW hn];exact (ka _).trans (k2 m (by omega))
variable {Q:Env→H→Prop} {k:List (Nat × Y)→List B→Prop}
theorem aDK(ht:∀p∈tys,F.ti p.1=some p.2)(hg:β≤g.n):∀{l:List Oper} {e:Env} {h:H} {sy:List (Nat × Y)} {ws:List B} {ids:List Nat} {s:List (Nat × AV)},Sy F β g e h sy ws ls ps ids s→aEX F tys nt ops l sy ws k→(∀e h sy ws ids s,Sy F β g e h sy ws ls ps ids s→k sy ws→Q e h)→Xr F nt ops l e h Q
 | [],_,_,_,_,_,_,hS,hx,kk=>aML (kk _ _ _ _ _ _ hS hx)
 |_::_,_,_,_,_,_,_,hS,hx,kk=>yJ ht hS (Nat.le_trans hg hS.st.n) (fun _=>hg) hx (fun _ a b c x=>aKP a b c x) (fun _ a b c x=>aMM a b c x) (fun a b x=>aIr a b x) fun _ _ _ _ _ _ hS hx=>aDK ht hg hS hx kk
theorem aB5(ht:∀p∈tys,F.ti p.1=some p.2)(hS:Sy F β g e h sy ws ls ps ids s):∀{l:List Nat},vag tys ops sy ws l→Ag F ops l e h
 | [],_=>aGG
 |i::l,hx=>by
  obtain⟨o,h1,hx⟩:=aT hx;split at hx
  ·rename_i e1;exact aPe h1 (by rw[e1];rfl) (aB5 ht hS hx)
  ·rename_i e1;obtain⟨j,h2,hx⟩:=tyL'_ok ht hx;obtain⟨y,h3,hx⟩:=aT hx;obtain⟨v,h4,h5⟩:=hS.r.ev h3;obtain⟨n,off,id,h8,h9,rfl,rfl,hx⟩:=uE hx h5;obtain⟨b,h10,hx⟩:=aT hx;obtain⟨c,h11,hx⟩:=aT hx;obtain⟨u,h12,hx⟩:=aT hx;obtain⟨d,h13,hx⟩:=aT hx;obtain⟨y2,h14,hx⟩:=aT hx;obtain⟨h15,rfl,h16,hz⟩:=hx;obtain⟨v2,h17,h18⟩:=hS.r.lk h14;have h18:v2=u:=h18;subst h18;rw[at_eq hS.len]at h10;exact aPf h1 (by rw[e1];rfl) h15 h13 (hS.st.k _ _ h17) (by rw[e1];exact aMT hS.st h2 h4 (hS.st.w.1 _ (List.mem_of_getElem? (yI h9 h10))).2.2 h11 h12) h16 (aB5 ht hS hz)
  ·exact hx.elim
theorem aEZ(ht:∀p∈tys,F.ti p.1=some p.2)(hg:β≤g.n):∀{l:List (Nat × List Nat)} {e:Env} {h:H} {sy:List (Nat × Y)} {ws:List B} {ids:List Nat} {s:List (Nat × AV)},Sy F β g e h sy ws ls ps ids s→vB F tys nt ops l sy ws k→(∀e h sy ws ids s,Sy F β g e h sy ws ls ps ids s→k sy ws→Q e h)→Xb F nt ops l e h Q
 | [],_,_,_,_,_,_,hS,hx,kk=>aMO (kk _ _ _ _ _ _ hS hx)
 |(_,[])::_,_,_,_,_,_,_,hS,hx,kk=>by
  obtain⟨o,h1,hx⟩:=aT hx;exact yJ ht hS (Nat.le_trans hg hS.st.n) (fun _=>hg) hx (fun _ a b c x=>aDG h1 a b c x) (fun _ a b c x=>aGN h1 a b c x) (fun a b x=>aB2 h1 a b x) fun _ _ _ _ _ _ hS hx=>⟨aGG,aEZ ht hg hS hx kk⟩
 |(_,_::_)::_,_,_,_,_,_,_,hS,hx,kk=>by
  obtain⟨o,h1,hx⟩:=aT hx;exact yJ ht hS (Nat.le_trans hg hS.st.n) (fun _=>hg) hx (fun _ a b c x=>aDG h1 a b c x) (fun _ a b c x=>aGN h1 a b c x) (fun a b x=>aB2 h1 a b x) fun _ _ _ _ _ _ hS hx=>⟨aB5 ht hS hx.1,aEZ ht hg hS hx.2 kk⟩
theorem aJD{b:Nat}{M:List (Nat × List Nat)}(ht:∀p∈tys,F.ti p.1=some p.2):∀{l:List Nat} {β:Nat} {e:Env} {h:H} {sy:List (Nat × Y)} {ws:List B} {ids:List Nat} {s:List (Nat × AV)},Sy F β g e h sy ws ls ps ids s→vA F tys nt ops l sy ws k→(∀e h sy ws ids s,Sy F b g e h sy ws ls ps ids s→k sy ws→Xb F nt ops M e h Q)→Xa F nt ops b M l e h Q
 | [],_,_,_,_,_,_,_,hS,hx,kk=>aMN (kk _ _ _ _ _ _ ⟨hS.r,hS.len,hS.st.back b⟩ hx)
 |_::_,_,_,_,_,_,_,_,hS,hx,kk=>by
  obtain⟨o,h1,hx⟩:=aT hx;exact yJ (st:=false) ht (⟨hS.r,hS.len,hS.st.lift⟩:Sy F _ g _ _ _ _ ls ps _ _) (Nat.le_refl _) (fun h=>by cases h) hx (fun _ a b c x=>aKQ h1 a b c x) (fun _ a b c x=>aMP h1 a b c x) (fun a b x=>aIs h1 a b x) fun _ _ _ _ _ _ hS hx=>aJD ht hS hx kk
theorem aGO:∀{a:List Nat} {x:List B} {b:List Nat} {y:List B},a.length=x.length→zp (a++b) (x++y)=zp a x++zp b y
 | [],[],_,_,_=>rfl
 |i::a,b::x,_,_,h=>congrArg ((i,b)::·) (aGO (Nat.succ.inj h))
 | [],_::_,_,_,h=>by cases h
 |_::_,[],_,_,h=>by cases h
theorem aDL{d:List Nat}(h:RS (d++ids) sy s):∀{t:List (Nat × Y)},aIx ids.length sy t→∃s2,RS ids t s2∧∀k v,E.lk s2 k=some v→∃y,E.lk s k=some v∧YR ids y v
 | [],_=>⟨[],trivial,fun _ _ h=>by cases h⟩
 |p::l,hx=>by
  obtain⟨⟨h1,h2⟩,h3⟩:=hx;obtain⟨s2,h4,h5⟩:=aDL h h3;obtain⟨v,h6,h7⟩:=h.lk h1;have h8:YR ids p.2 v:=by
    obtain⟨p1,y⟩:=p;cases y with
    |a u=>exact h7
    |b x=>exact h7
    |p k off=>
     obtain⟨-,id,h9,h10⟩:=h7;have h2:k<ids.length:=h2;refine⟨h2,id,?_,h10⟩;rw[List.getElem?_append_right (by rw[List.length_append];omega)]at h9;rw[List.length_append]at h9
     rwa [show d.length+ids.length-1-k-d.length=ids.length-1-k by omega]at h9
  refine⟨(p.1,v)::s2,⟨rfl,h8,h4⟩,fun k u hk=>?_⟩;have hk:cb (Nat.beq p.1 k) (some v) (E.lk s2 k)=some u:=hk;cases hb:Nat.beq p.1 k with
  |true=>
   rw[hb]at hk;injection hk with hk;rw[←aH.1 hb,←hk];exact⟨p.2,h6,h8⟩
  |false=>
   rw[hb]at hk;exact h5 k u hk
theorem Sy.fit{t:List (Nat × Y) × List B}(hS:Sy F β g e h sy ws ls ps ids s)(hf:fits sy ws t):∃ids s,Sy F β g e h t.1 t.2 ls ps ids s:=by
 obtain⟨⟨d,rfl⟩,h2⟩:=hf;have hl:=hS.len;rw[List.length_append]at hl;obtain⟨a,b,rfl,ha⟩:∃a b,ids=a++b∧a.length=d.length:=⟨ids.take d.length,ids.drop d.length,(List.take_append_drop _ _).symm,by rw[List.length_take];omega⟩
 have hb:b.length=t.2.length:=by rw[List.length_append]at hl;omega
 rw[←hb]at h2;obtain⟨s2,h3,h4⟩:=aDL hS.r h2;have st:=hS.st;rw[aGO ha]at st;have st2:=st.drop (List.sublist_append_right _ _);exact⟨b,s2,h3,hb,⟨fun k v hk=>(h4 k v hk).elim fun _ q=>st2.k k v q.1,st2.n,st2.bar,st2.o,st2.l,st2.w,st2.ls,st2.ps⟩⟩
theorem aOt(ht:∀p∈tys,F.ti p.1=some p.2)(hg:β≤g.n)(c:Code):∀{e:Env} {h:H} {sy:List (Nat × Y)} {ws:List B} {ids:List Nat} {s:List (Nat × AV)} {k:Ex→List (Nat × Y)→List B→Prop},Sy F β g e h sy ws ls ps ids s→vc F tys nt fn c sy ws k→Xw F nt fn c e h fun x e h=>∃sy ws ids s,k x sy ws∧Sy F β g e h sy ws ls ps ids s:=by
 induction c with
 |skip=>exact fun hS hx=>aMI ⟨_,_,_,_,hx,hS⟩
 |ret=>exact fun hS hx=>aOh ⟨_,_,_,_,hx,hS⟩
 |exit id=>exact fun hS hx=>aMJ ⟨_,_,_,_,hx,hS⟩
 |seq a b iha ihb=>
  intro e h sy ws ids s k hS hx;refine aOi ((iha hS hx).mono fun x e h hq=>?_);obtain⟨sy,ws,ids,s,hk,hS⟩:=hq;cases x with
  |n=>exact ihb hS hk
  |x id=>exact⟨_,_,_,_,hk,hS⟩
  |r=>exact⟨_,_,_,_,hk,hS⟩
 |region id ops dr=>
  intro e h sy ws ids s k hS hx;cases dr with
  |true=>
   obtain⟨p,h1,h2,hx⟩:=aT (show oo (F.pl fn id) fun p=>lS F ops p=true∧vA F tys nt ops.toList p.1 sy ws fun s ws=>vB F tys nt ops.toList p.2 s ws (k .n) from hx);exact aPs hS.st h1 h2 (aJD ht hS hx fun _ _ _ _ _ _ hS hx=>aEZ ht hg hS hx fun _ _ _ _ _ _ hS hx=>⟨_,_,_,_,hx,hS⟩)
  |false=>exact aIq (aDK ht hg hS (show aEX F tys nt ops.toList ops.toList sy ws (k .n) from hx) fun _ _ _ _ _ _ hS hx=>⟨_,_,_,_,hx,hS⟩)
 |cond c a b iha ihb=>
  intro e h sy ws ids s k hS hx;obtain⟨y,h1,hx⟩:=aT (show oo (yv sy c) fun y=>(match y with| .b x=>cb x (vc F tys nt fn a sy ws k) (vc F tys nt fn b sy ws k)| .a (.c false [.b x])=>(x=true→vc F tys nt fn a sy ws k)∧(x=false→vc F tys nt fn b sy ws k)|_=>False) from hx);obtain⟨v,h2,h3⟩:=hS.r.ev h1;split at hx
  ·rename_i x;have h3:v=sc (.b x):=h3;subst h3;cases x with
   |true=>exact aB1 (bU hS.st.k h2) (fun _=>iha hS hx) fun e=>by cases e
   |false=>exact aB1 (bU hS.st.k h2) (fun e=>by cases e) fun _=>ihb hS hx
  ·rename_i x;have h3:v=sc (.b x):=h3;subst h3;exact aB1 (bU hS.st.k h2) (fun e=>iha hS (hx.1 e)) fun e=>ihb hS (hx.2 e)
  ·exact hx.elim
 |block id a iha=>
  intro e h sy ws ids s k hS hx;refine aKN ((iha hS (show vc F tys nt fn a sy ws (fun x s ws=>(match x with| .x j=>cb (Nat.beq id j) (k .n s ws) (k (.x j) s ws)|x=>k x s ws)) from hx)).mono fun x e h hq=>?_);obtain⟨sy,ws,ids,s,hk,hS⟩:=hq;cases x with
  |n=>exact⟨_,_,_,_,hk,hS⟩
  |r=>exact⟨_,_,_,_,hk,hS⟩
  |x j=>
   show cb (Nat.beq id j) _ _;have hk:cb (Nat.beq id j) _ _:=hk;cases hb:Nat.beq id j with
   |true=>rw[hb]at hk;exact⟨_,_,_,_,hk,hS⟩
   |false=>rw[hb]at hk;exact⟨_,_,_,_,hk,hS⟩
 |loop a iha=>
  intro e h sy ws ids s k hS hx;obtain⟨ι,I,m,⟨i,hi⟩,hk⟩:=hx;obtain⟨ids,s,hS⟩:=hS.fit hi;refine aMK (fun n e h=>∃i ids s,m i=n∧Sy F β g e h (I i).1 (I i).2 ls ps ids s) (fun n e h hI=>?_) (m i) e h ⟨i,ids,s,rfl,hS⟩;obtain⟨i,ids,s,rfl,hS⟩:=hI;refine (iha hS (hk i)).mono fun x e h hq=>?_;obtain⟨sy,ws,ids,s,hq,hS⟩:=hq;cases x with
  |n=>
   obtain⟨j,hj,hf⟩:=hq;obtain⟨ids,s,hS⟩:=hS.fit hf;exact⟨m j,hj,j,ids,s,rfl,hS⟩
  |x id=>exact⟨_,_,_,_,hq,hS⟩
  |r=>exact⟨_,_,_,_,hq,hS⟩
 |_=>exact fun _ hx=>hx.elim
theorem aKV{r:ResultVar}{k:Bool × List SV→Prop}(ht:∀p∈tys,F.ti p.1=some p.2)(hS:Sy F β g e h sy ws ls ps ids s)(hx:aIy tys r sy ws k):∃p,aBt F e h r=some p∧k p:=by
 unfold aIy at hx;split at hx
 ·obtain⟨y,h1,hx⟩:=aT hx;obtain⟨v,h2,hx⟩:=aT hx;obtain⟨u,h3,h4⟩:=hS.r.lk h1;have:=yH h2 h4;subst this;split at hx
  ·refine⟨_,?_,hx⟩;show ob (e.get _) mV=_;rw[hS.st.k _ _ h3];rfl
  ·exact hx.elim
 ·obtain⟨i,h1,hx⟩:=tyL'_ok ht hx;obtain⟨y,h2,hx⟩:=aT hx;obtain⟨v,h3,h4⟩:=hS.r.lk h2;obtain⟨n,off,id,h8,h9,rfl,rfl,hx⟩:=uE hx h4;obtain⟨b,h10,hx⟩:=aT hx;obtain⟨l,h11,hx⟩:=aT hx;obtain⟨h12,hx⟩:=cbT hx;rw[at_eq hS.len]at h10;refine⟨_,?_,hx⟩;show (ob (F.ti _) fun i=>ob (e.get _) fun v=>one v fun s=>match s with| .p id off=>ob (rd h id off i.sz) fun c=>ob (av i.d.ag c) mV|_=>none)=_;rw[h1,hS.st.k _ _ h3];show (ob (rd h id off i.sz) fun c=>ob (av i.d.ag c) mV)=_;unfold rd;rw[(hS.st.w.1 _ (List.mem_of_getElem? (yI h9 h10))).2.2];show (ob (cZ i.sz (drp off b.c)) fun c=>ob (av i.d.ag c) mV)=_;rw[h11];show ob (av i.d.ag l) mV=_;rw[h12];rfl
theorem wT(ht:∀p∈tys,F.ti p.1=some p.2)(hS:Sy F β g e h sy ws ls ps ids s):∀{l:List ResultVar} {k:List (Bool × List SV)→Prop},aEY tys l sy ws k→∃q,res F e h l=some q∧k q
 | [],_,hx=>⟨[],rfl,hx⟩
 |r::l,k,hx=>by
  obtain⟨p,h1,hx⟩:=aKV ht hS hx;obtain⟨q,h2,h3⟩:=wT ht hS hx;refine⟨_,?_,h3⟩;show ob (aBt F e h r) (fun v=>ob (res F e h l) fun l=>some (v::l))=_;rw[h1,h2];rfl
noncomputable def ix (k:Nat):List AV→List (Nat × AV)
 | []=>[]
 |v::l=>(k,v)::ix (k+1) l
theorem aJE:∀{l:List AV} {k:Nat},RS ids (ixY k l) (ix k l)
 | [],_=>trivial
 |_::_,_=>⟨rfl,rfl,aJE⟩
theorem aDM:∀{l:List AV} {k:Nat} {e:Env},k+l.length≤nt→∃e0,jX nt l k e=some e0∧(∀j,j<k→e0.get j=e.get j)∧∀j u,E.lk (ix k l) j=some u→e0.get j=some u
 | [],k,e,_=>⟨e,rfl,fun _ _=>rfl,fun _ _ h=>by cases h⟩
 |v::l,k,e,hn=>by
  have hn:k+(l.length+1)≤nt:=hn;obtain⟨e0,h1,h2,h3⟩:=aDM (l:=l) (k:=k+1) (e:=e.set v k) (by omega);refine⟨e0,?_,fun j hj=>(h2 j (by omega)).trans (T.get_ne (by omega)),fun j u hu=>?_⟩
  ·show cb (Nat.blt k nt) (jX nt l (k+1) (e.set v k)) none=_;rw[aQ.2 (show k<nt by omega)];exact h1
  ·have hu:cb (Nat.beq k j) (some v) (E.lk (ix (k+1) l) j)=some u:=hu;cases hb:Nat.beq k j with
   |true=>
    rw[hb]at hu;injection hu with hu;rw[←aH.1 hb,h2 k (Nat.lt_succ_self k),T.get_same,hu]
   |false=>
    rw[hb]at hu;exact h3 j u hu
theorem Fc.by_{G:Func}{f:Nat}{cd:Code}{args:List AV}{v:AV}(ht:∀p∈tys,F.ti p.1=some p.2)(hG:F.P.funcs[f]? =some G)(hb:G.body=some cd)(hp:F.pr f=none)(hh:F.ph f=none)(hn:Nat.ble args.length G.ntmps=true)(hx:vfn F tys G f cd args v)(hw:F.pw f=none:=by rfl):Fc F f args v:=fun h hbar=>by
 obtain⟨e0,h1,-,h2⟩:=aDM (nt:=G.ntmps) (l:=args) (k:=0) (e:=fill G.ntmps 0 .lf) (by have:=bA.1 hn;omega);refine aOq hG hb hp hh hw h1 (s:=ix 0 args) (ls:=[]) h2 aPt fun β e eβ hS=>?_;subst eβ;refine (aOt (ls:=[]) (ps:=[]) ht hbar cd (ids:=[]) (ws:=[]) ⟨aJE,rfl,hS⟩ hx).mono fun x e h' hq=>?_;obtain⟨sy,ws,ids,s,hk,hS⟩:=hq;cases x with
 |x id=>exact hk.elim
 |n=>
  obtain⟨q,h3,h4⟩:=wT ht hS hk;exact⟨_,by show (ob (res F e h' G.results.toList) fun l=>some (tup l,h'))=_;rw[h3];rfl,h4,hS.st.out⟩
 |r=>
  obtain⟨q,h3,h4⟩:=wT ht hS hk;exact⟨_,by show (ob (res F e h' G.results.toList) fun l=>some (tup l,h'))=_;rw[h3];rfl,h4,hS.st.out⟩
theorem Fc.pr{f:Nat}{G:Func}{cd:Code}{gg:List AV→Option AV}{args:List AV}{v:AV}(hG:F.P.funcs[f]? =some G)(hb:G.body=some cd)(hp:F.pr f=some gg)(hg:gg args=some v):Fc F f args v:=fun _ _=>aOp hG hb hp hg ⟨rfl,Xh.refl _⟩
theorem dt{c:Prop}[Decidable c]{A C:Prop}(a:c→A)(b:¬c→C):(decide c=true→A)∧(decide c=false→C):=⟨fun h=>a (of_decide_eq_true h),fun h=>b (of_decide_eq_false h)⟩
theorem dn{c:Prop}[Decidable c]{A B:Prop}(a:¬c→A)(b:c→B):(cO (decide c)=true→A)∧(cO (decide c)=false→B):=by
 by_cases h:c
 ·rw[decide_eq_true h];exact⟨nofun,fun _=>b h⟩
 ·rw[decide_eq_false h];exact⟨fun _=>a h,nofun⟩
end
end E
end Go.Proofs.YtamnpcdkcdfgaaaGreatDoor
