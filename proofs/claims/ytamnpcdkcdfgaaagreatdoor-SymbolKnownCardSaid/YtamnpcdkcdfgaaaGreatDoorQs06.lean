/- SymbolKnown holds. No condition. -/
import Derived.Laws.RangeString
import Derived.RangeFuncRecord
import Derived.Test.YtamnpcdkcdfgaaaGreatDoorQs05
namespace Go.Proofs.YtamnpcdkcdfgaaaGreatDoor
namespace E
open Go Go.RowKit
open Ma Me K
section
variable {F:Cf} {c:Cx} {wb:World} {h h':H} {nt:Nat} {e:Env} {a:Act} {o:Oper} {v:AV} {α:Type}
theorem aDx(off:Nat):∀(l:List Value) (k:Nat) (cells:Array Value),off+k+l.length≤cells.size→
  ((l.zipIdx k).foldl (fun cs p=>cs.setIfInBounds (off+p.2) p.1) cells).toList=cells.toList.take (off+k)++l++cells.toList.drop (off+k+l.length)
 | [],k,cells,_=>by simp
 |x::l,k,cells,hl=>by
  rw[List.zipIdx_cons,List.foldl_cons];have ih:=aDx off l (k+1) (cells.setIfInBounds (off+k) x) (by simp at hl⊢;omega);refine ih.trans ?_;have e:=list_seg_step cells.toList (off+k) x l (by simp at hl⊢;omega);simpa [Array.toList_setIfInBounds,Nat.add_assoc] using e
theorem vJ(ht:Tr c nt e a.tmps){pl place:Nat→Option (Nat × Nat)}(hp:∀i q,pl i=some q→place i=some q):∀{l:List (Nat × Operand)} {acc out:List SV} {cells:Array Value},parts pl e l acc=some out→CL c acc cells.toList→
  ∃cs,Instr.fill place cells (l.map fun p=>(p.1,a.eval p.2))=some cs∧CL c out cs.toList
 | [],acc,out,cells,h1,h2=>by injection h1 with h1;subst h1;exact⟨cells,rfl,h2⟩
 |p::l,acc,out,cells,h1,h2=>by
  have e1:parts pl e (p::l) acc=ob (pl p.1) fun q=>ob (ev e p.2) fun v=>E.cells v fun c=>cb (Nat.beq (len c) q.2) (ob (eX q.1 c acc) (parts pl e l)) none:=rfl;rw[e1]at h1;obtain⟨q,h3,h4⟩:=aA.1 h1;obtain⟨v1,h5,h6⟩:=aA.1 h4;obtain⟨g,cl,rfl,h7⟩:=iL.1 h6;obtain⟨h8,h9⟩:=aB.1 h7;obtain⟨acc2,h10,h11⟩:=aA.1 h9;obtain⟨h12,rfl⟩:=tO.1 h10;have hcl:=cells_ok (aS ht h5);rw[aH,bH]at h8;have hsz:(a.eval p.2).cells.size=q.2:=(by rw[←h8,←hcl.len,Array.length_toList]);have hle:q.1+(a.eval p.2).cells.size≤cells.size:=by
    have:=h2.len;rw[Array.length_toList]at this;omega
  have hf:=aDx q.1 (a.eval p.2).cells.toList 0 cells (by simpa using hle);have e2:((a.eval p.2).cells.zipIdx.foldl (fun cs x=>cs.setIfInBounds (q.1+x.2) x.1) cells)=((a.eval p.2).cells.toList.zipIdx 0).foldl (fun cs p=>cs.setIfInBounds (q.1+p.2) p.1) cells:=by
    rw[←Array.foldl_toList,Array.toList_zipIdx]
  have hc2:CL c (acc.take q.1++cl++acc.drop (q.1+cl.length)) (((a.eval p.2).cells.toList.zipIdx 0).foldl (fun cs p=>cs.setIfInBounds (q.1+p.2) p.1) cells).toList:=by
    rw[hf,Nat.add_zero,hcl.len];exact ((h2.take q.1).app hcl).app (h2.drop _)
  obtain⟨cs,k1,k2⟩:=vJ ht hp h11 hc2;refine⟨cs,?_,k2⟩;rw[List.map_cons];unfold Instr.fill;rw[hp _ _ h3];have hcond:(decide ((a.eval p.2).cells.size≠q.2) || decide (q.1+(a.eval p.2).cells.size>cells.size))=false:=by
    rw[decide_eq_false (by simpa using hsz),decide_eq_false (by omega)];rfl
  dsimp only;rw[hcond];simp only[Bool.false_eq_true,if_false];rw[←k1,←e2]
theorem aGe{P:Program}(hP:P=F.P):∀{fs:List Field} {pl:List (Nat × Nat)},szs F (fs.map fun f=>(f.offset,f.type))=some pl→fs.mapM (fun f=>(P.info? f.type).map fun i=>(f.offset,i.size))=some pl
 | [],pl,h=>by injection h with h;subst h;rfl
 |f::fs,pl,h=>by
  have e1:szs F ((f::fs).map fun f=>(f.offset,f.type))=ob (sz F f.type) fun s=>ob (szs F (fs.map fun f=>(f.offset,f.type))) fun r=>some ((f.offset,s)::r):=rfl;rw[e1]at h;obtain⟨s,h1,h2⟩:=aA.1 h;obtain⟨r,h3,h4⟩:=aA.1 h2;injection h4 with h4;subst h4;obtain⟨i,hi,rfl⟩:=iM h1;obtain⟨inf,d,z,g1,g2,g3,g4,g5,g6,g7,g8⟩:=(aJ hi).ex;rw[List.mapM_cons,aGe hP h3,hP,g1];simp[g4]
theorem aKs{t:Nat}{ps:Array (Nat × Operand)}(hr:Rl c wb h)(ht:Tr c nt e a.tmps)(ho:o.op=.build t ps)(hx:lN F e h t ps.toList=some (v,h')):∃u w',OpR F.P a.eval o c.w u w'∧Po c wb h' v u w':=by
 obtain⟨i,h1,h2⟩:=aA.1 hx;obtain⟨inf,d,z,g1,g2,g3,g4,g5,g6,g7,g8⟩:=(aJ h1).ex;have he:execOp a.eval o=(do pure (Next.value (←Instr.build t (ps.map fun p=>(p.1,a.eval p.2))))):=by unfold execOp;rw[ho]
 have hl:(ps.map fun p=>(p.1,a.eval p.2)).toList=ps.toList.map fun p=>(p.1,a.eval p.2):=by simp
 split at h2
 ·rename_i fs hd;obtain⟨pl,h3,h4⟩:=aA.1 h2;obtain⟨out,h5,h6⟩:=aA.1 h4;injection h6 with h6;injection h6 with h6 h7;subst h6;subst h7;rw[g3]at hd;cases d<;>simp[dk]at hd;rename_i fs2;subst hd;have hpl:=aGe (F:=F) rfl h3;obtain⟨cs,k1,k2⟩:=vJ ht (pl:=fun f=>(drp f pl).head?) (place:=(pl.toArray[·]?)) (fun i q hq=>by simpa using bN hq) h5 (iD g7);refine⟨.agg cs,c.w,OpR.vl he (run_build c.w t _ cs ?_),Po.same hr ⟨cs.toList,by simp,k2⟩⟩;unfold Program.built;rw[g1,g2];dsimp only;rw[g6,hpl,hl];exact k1
 ·rename_i n el hd;obtain⟨s,h3,h4⟩:=aA.1 h2;obtain⟨g,hg,rfl⟩:=iM h3;obtain⟨out,h5,h6⟩:=aA.1 h4;injection h6 with h6;injection h6 with h6 h7;subst h6;subst h7;obtain⟨inf2,d2,z2,q1,q2,q3,q4,q5,q6,q7,q8⟩:=(aJ hg).ex;obtain⟨cs,k1,k2⟩:=vJ ht (place:=fun i=>some (i*inf2.size,inf2.size)) (fun i q hq=>by rw[←q4];exact hq) h5 (iD g7);refine⟨.agg cs,c.w,OpR.vl he (run_build c.w t _ cs ?_),Po.same hr ⟨cs.toList,by simp,k2⟩⟩;have hu:=mX (aJ h1) hd;rw[hu]at g2;injection g2 with g2;subst g2;unfold Program.built;rw[g1,hu];dsimp only;rw[g6,q1,hl];exact k1
 ·cases h2
theorem run_buildSlice{P:Program}(w:World){t el:TypeId}{n:Nat}{inf:TypeInfo}{z:Value}{ps:Array (Nat × Value)}{cs:Array Value}(hu:P.underlying t=some (.slice el))(hi:P.info? el=some inf)(hz:inf.zero=some z)(h24:n*inf.size≤2^24)
  (hf:Instr.fill (fun i=>some (i*inf.size,inf.size)) (madeCells z.cells (n*inf.size)) ps.toList=some cs):(Instr.buildSlice t n ps).run P w=.ok (.slice (some ⟨w.heap.size,0,none⟩) n n) (w.alloc (.cells cs el)):=by
 have h24':¬(16777216<n*inf.size):=by simp at h24;omega
 by_cases h0:n*inf.size=0
 ·rw[h0]at hf;have e0:∀g:Nat→Value,(Array.range 0).map g=#[]:=fun g=>(by simp[Array.range_zero']);simp only[madeCells,e0]at hf;simp[Instr.buildSlice,run_underlying hu,sizeOf,typeInfo,hi,h0,e0,hf,newRow]
 ·simp only[madeCells]at hf;simp[Instr.buildSlice,run_underlying hu,sizeOf,typeInfo,zeroValue,hi,hz,h0,h24',newRow,hf]
theorem aBH{t n:Nat}{ps:Array (Nat × Operand)}(hr:Rl c wb h)(ht:Tr c nt e a.tmps)(ho:o.op=.buildSlice t n ps)(hx:gT F e h t n ps.toList=some (v,h')):∃u w',OpR F.P a.eval o c.w u w'∧Po c wb h' v u w':=by
 obtain⟨i,h1,h2⟩:=aA.1 hx;obtain⟨el,h3,h4⟩:=aA.1 h2;obtain⟨j,h5,h6⟩:=aA.1 h4;obtain⟨h7,h8⟩:=aB.1 h6;obtain⟨out,h9,h10⟩:=aA.1 h8;unfold H.nw at h10;rw[aM]at h10;have h11:=aN h10;injection h11 with h11 h12;subst h11;subst h12;obtain⟨inf2,d2,z2,q1,q2,q3,q4,q5,q6,q7,q8⟩:=(aJ h5).ex;have hz:z2.cells.size=inf2.size:=by rw[←q8,Array.length_toList]
 have hu:=nH (aJ h1) h3;have hcl:CL c (iU j.ze n) (madeCells z2.cells (n*inf2.size)).toList:=by
  rw[←hz,vI];exact qK (iD q7) n
 obtain⟨cs,k1,k2⟩:=vJ ht (place:=fun i=>some (i*inf2.size,inf2.size)) (fun i q hq=>by rw[←q4];exact hq) h9 hcl;obtain⟨dd,hw,X,R,hd,hlt⟩:=xV hr ⟨el,out⟩ k2;have h7:=aQ.1 h7;have h7':¬(n*inf2.size>2^24):=by
  rw[←q4];show ¬(n*j.sz>16777216);change n*j.sz<16777216 at h7;omega
 have hl:(ps.map fun p=>(p.1,a.eval p.2)).toList=ps.toList.map fun p=>(p.1,a.eval p.2):=by simp
 refine⟨.slice (some ⟨c.w.heap.size,0,none⟩) n n,_,OpR.vl (s:=Instr.buildSlice t n (ps.map fun p=>(p.1,a.eval p.2))) (by unfold execOp;rw[ho]) ?_,dd,hw,X,R,aF.2 ⟨hlt,by rw[hd]⟩⟩;exact run_buildSlice c.w hu q1 q6 (by omega) (by rw[hl];exact k1)
def aIg(F:Cf):Prop:=∀n k,(F.ln false n=some k→∀w v,Nm w v n→∃A c,v=.slice A k c)∧(F.ln true n=some k→∀w v,Nr w v n→∃A c,v=.slice A k c)
theorem aN3(hln:aIg F){h:H}{at_:List Nat}{args:List AV}{args':List Value}{t2:TypeId}(hr:Rl c wb h)(hx:bi F h .len at_ args=some (v,h'))(ha:VL c args args'):∃u w',(Builtin.len_ at_.toArray t2 args'.toArray).run F.P c.w=.ok u w'∧Po c wb h' v u w':=by
 unfold bi at hx;dsimp only at hx;split at hx
 ·rename_i t x;obtain⟨i,h1,h2⟩:=aA.1 hx;obtain⟨s,rfl,h3⟩:=aI.1 h2;obtain⟨u,rfl,hu⟩:∃u,args'=[u]∧VR c (sc s) u:=by
   match args',ha with
   | [u],ha=>exact⟨u,rfl,ha.1⟩
  have hp:=aF.1 hu;split at h3
  ·rename_i l hd;have h4:=aN h3;injection h4 with h4 h5;subst h4;subst h5;obtain⟨st,rfl,hs⟩:=hp;refine⟨.int .i64 (st.size:Int),c.w,?_,Po.same hr (aF.2 (by rw[bH,←hs,bC];rfl))⟩;simp[Builtin.len_,run_underlying (jZ (aJ h1) hd),goInt]
  ·rename_i el hd;have h4:=aN h3;injection h4 with h4 h5;subst h4;subst h5;cases hp;refine⟨.int .i64 0,c.w,?_,Po.same hr (aF.2 rfl)⟩;simp[Builtin.len_,run_underlying (gB (aJ h1) hd),goInt]
  ·rename_i el id off n cap hd;have h4:=aN h3;injection h4 with h4 h5;subst h4;subst h5;obtain⟨A,cp,rfl⟩:∃A cp,u=.slice (some A) n cp:=by
    cases cap with
    |none=>
     obtain⟨-,cp,o,-,k2,-⟩:=hp;exact⟨_,cp,k2⟩
    |some cp=>exact⟨_,_,hp.2⟩
   refine⟨.int .i64 (n:Int),c.w,?_,Po.same hr (aF.2 rfl)⟩;simp[Builtin.len_,run_underlying (gB (aJ h1) hd),goInt]
  ·rename_i el x1 hd;unfold roN at h3;split at h3
   ·rename_i a1 n cap;have h4:=aN h3;injection h4 with h4 h5;subst h4;subst h5;have hp:u=.slice (some a1) n cap:=hp.1;subst hp;refine⟨.int .i64 (n:Int),c.w,?_,Po.same hr (aF.2 rfl)⟩;simp[Builtin.len_,run_underlying (gB (aJ h1) hd),goInt]
   ·cases h3
  ·rename_i kt el hd;obtain⟨l,hl,h3⟩:=aA.1 h3;have h4:=aN h3;injection h4 with h4 h5;subst h4;subst h5;have hum:=aAN (aJ h1) hd;unfold mpE at hl;split at hl
   ·injection hl with hl;subst hl;have hp:u=.map none:=hp;subst hp;refine⟨.int .i64 0,c.w,?_,Po.same hr (aF.2 rfl)⟩;simp[Builtin.len_,run_underlying hum,goInt]
   ·rename_i id;obtain⟨p,hp1,hmp⟩:=aA.1 hl;obtain⟨hid,hp⟩:=hp;subst hp;obtain⟨ob,g1,-,-,-,-,g5,-⟩:=((hr.lp id p hp1).2 hid).1;obtain⟨es,n,rfl,hel,-,-⟩:=g5 l hmp;refine⟨.int .i64 (es.size:Int),c.w,?_,Po.same hr (aF.2 (by rw[bH,←hel.len,Array.length_toList];rfl))⟩;simp[Builtin.len_,run_underlying hum,goInt,getObj,Sem.run,g1]
   ·cases hl
  ·rename_i el n hd;obtain⟨k,hk,h3⟩:=aA.1 h3;have h4:=aN h3;injection h4 with h4 h5;subst h4;subst h5;obtain⟨A,cap,rfl⟩:=(hln n k).1 hk _ _ hp;refine⟨.int .i64 (k:Int),c.w,?_,Po.same hr (aF.2 rfl)⟩;simp[Builtin.len_,run_underlying (gB (aJ h1) hd),goInt]
  ·rename_i el n hd;obtain⟨k,hk,h3⟩:=aA.1 h3;have h4:=aN h3;injection h4 with h4 h5;subst h4;subst h5;obtain⟨A,cap,rfl⟩:=(hln n k).2 hk _ _ hp;refine⟨.int .i64 (k:Int),c.w,?_,Po.same hr (aF.2 rfl)⟩;simp[Builtin.len_,run_underlying (gB (aJ h1) hd),goInt]
  ·cases h3
 ·cases hx
end
section
variable {F:Cf} {c:Cx} {wb:World} {h h':H} {nt:Nat} {e:Env} {a:Act} {o:Oper} {v:AV} {α:Type}
theorem vK{mn:Bool}{x y v:AV}{p q:Value}(h:mm mn x y=some v)(hp:VR c x p)(hq:VR c y q)(P:Program)(w:World):
  ∃u,VR c v u∧(mn=true→(Builtin.min2 p q).run P w=.ok u w)∧(mn=false→(Builtin.max2 p q).run P w=.ok u w):=by
 obtain⟨s1,rfl,h1⟩:=aI.1 h;obtain⟨s2,rfl,h2⟩:=aI.1 h1;split at h2
 ·rename_i k m k2 n;obtain⟨h3,h4⟩:=aB.1 h2;injection h4 with h4;subst h4;have h3:=of_decide_eq_true h3;subst h3;have hp:p=.int k m:=aF.1 hp;have hq:q=.int k n:=aF.1 hq;subst hp;subst hq;refine⟨_,aF.2 rfl,fun h=>?_,fun h=>?_⟩
  ·subst h;show Result.ok (Value.int k (if n<m then n else m)) w=_;congr 2;show _=cb (iLt n m) n m;rw[aL,iZ];simp
  ·subst h;show Result.ok (Value.int k (if n>m then n else m)) w=_;congr 2;show _=cb (iLt m n) n m;rw[aL,iZ];simp
 ·cases h2
theorem aN4{at_:List Nat}{args:List AV}{args':List Value}{t1:Array TypeId}{t2:TypeId}(hr:Rl c wb h)(hx:bi F h .min at_ args=some (v,h'))(ha:VL c args args'):∃u w',(Builtin.min_ t1 t2 args'.toArray).run F.P c.w=.ok u w'∧Po c wb h' v u w':=by
 obtain⟨v1,h1,h2⟩:=aA.1 (show (ob (qG true args) fun v=>some (v,h))=some (v,h') from hx);injection h2 with h2;injection h2 with h2 h3;subst h2;subst h3;unfold qG at h1;split at h1
 ·rename_i x y
  match args',ha with
  | [p,q],ha=>
    obtain⟨u,k1,k2,-⟩:=vK h1 ha.1 ha.2.1 F.P c.w;exact⟨u,c.w,by simp[Builtin.min_,k2 rfl],Po.same hr k1⟩
 ·rename_i x y z;obtain⟨m,h4,h5⟩:=aA.1 h1
  match args',ha with
  | [p,q,r],ha=>
    obtain⟨u,k1,k2,-⟩:=vK h4 ha.1 ha.2.1 F.P c.w;obtain⟨u2,k3,k4,-⟩:=vK h5 k1 ha.2.2.1 F.P c.w;exact⟨u2,c.w,by simp[Builtin.min_,k2 rfl,k4 rfl],Po.same hr k3⟩
 ·cases h1
theorem aN5{at_:List Nat}{args:List AV}{args':List Value}{t1:Array TypeId}{t2:TypeId}(hr:Rl c wb h)(hx:bi F h .max at_ args=some (v,h'))(ha:VL c args args'):∃u w',(Builtin.max_ t1 t2 args'.toArray).run F.P c.w=.ok u w'∧Po c wb h' v u w':=by
 obtain⟨v1,h1,h2⟩:=aA.1 (show (ob (qG false args) fun v=>some (v,h))=some (v,h') from hx);injection h2 with h2;injection h2 with h2 h3;subst h2;subst h3;unfold qG at h1;split at h1
 ·rename_i x y
  match args',ha with
  | [p,q],ha=>
    obtain⟨u,k1,-,k2⟩:=vK h1 ha.1 ha.2.1 F.P c.w;exact⟨u,c.w,by simp[Builtin.max_,k2 rfl],Po.same hr k1⟩
 ·rename_i x y z;obtain⟨m,h4,h5⟩:=aA.1 h1
  match args',ha with
  | [p,q,r],ha=>
    obtain⟨u,k1,-,k2⟩:=vK h4 ha.1 ha.2.1 F.P c.w;obtain⟨u2,k3,-,k4⟩:=vK h5 k1 ha.2.2.1 F.P c.w;exact⟨u2,c.w,by simp[Builtin.max_,k2 rfl,k4 rfl],Po.same hr k3⟩
 ·cases h1
theorem mZ{x:SV}{k:Nat→Option α}{y:α}(h:lenOf x k=some y):∃n,k n=some y∧((∃l,x=.s l)∨(x=.ns∧n=0)∨∃id off cap,x=.sl id off n cap):=by
 unfold lenOf at h;split at h
 ·exact⟨_,h,.inl ⟨_,rfl⟩⟩
 ·exact⟨_,h,.inr (.inl ⟨rfl,rfl⟩)⟩
 ·exact⟨_,h,.inr (.inr ⟨_,_,_,rfl⟩)⟩
 ·cases h
theorem gD{id off n:Nat}{cap:Option Nat}{u:Value}(h:SR c (.sl id off n cap) u):∃o cp,u=.slice (some ⟨c.r id,o,none⟩) n cp∧(∀k,cap=some k→cp=k∧o=off)∧(cap=none→n≤cp)∧(n≠0∨off=0→o=off):=by
 cases cap with
 |none=>
  obtain⟨_,cp,o,h1,h2,h3,-⟩:=h;exact⟨o,cp,h2,fun _ e=>(by cases e),fun _=>h1,h3⟩
 |some k=>exact⟨off,k,h.2,fun _ e=>(by injection e with e;exact⟨e,rfl⟩),fun e=>(by cases e),fun _=>rfl⟩
theorem aBI(w:World)(need old:Nat)(t:TypeId):need≤grownCap w need old t:=by
 unfold grownCap;simp only[Question.cut];omega
theorem aKt{z:Array Value}{l:List SV}(hc:CL c l z.toList)(hl:calm l=true)(n:Nat):Nu (Builtin.zeroCells z n).toList:=by
 have hz:=hc.calm hl;intro x hx;simp only[Builtin.zeroCells,Array.toList_map]at hx;obtain⟨i,hi,rfl⟩:=List.mem_map.1 hx;have h0:0<z.size:=by
  rcases Nat.eq_zero_or_pos z.size with h|h
  ·rw[h]at hi;simp at hi
  ·exact h
 have hm:i % z.size<z.size:=Nat.mod_lt _ h0;have:z[i % z.size]! =z[i % z.size]:=by simp[hm]
 rw[this];exact hz _ (by simp)
theorem aBJ(hr:Rl c wb h){el:Nat}{j:TI}(hj:Ty F.P el j)(hz:∀t,c.z t=F.P.cellsOf t){olds news:List Value}{old nw:List SV}(ho:CL c old olds)(hn:CL c nw news)(hcz:calm j.ze=true){need cap:Nat}(hge:need≤cap)(hlen:olds.length+news.length=need*j.sz){A:Array Value}{z:Value}(hA:A.toList=(olds++news)++(Builtin.zeroCells z.cells (cap-need)).toList)(hzc:CL c j.ze z.cells.toList)(hzs:z.cells.size=j.sz):
  ∃d,d.w=c.w.drew.alloc (.cells A el)∧Xt c d∧Rl d wb ⟨h.h.set ⟨el,old++nw⟩ h.n,Nat.succ h.n,h.bar,h.l⟩∧SR d (.sl h.n 0 need none) (.slice (some ⟨c.w.heap.size,0,none⟩) need cap):=by
 have X0:Xt c c.drew:=nG;obtain⟨d,hw,X,R,hd,hlt⟩:=aKd (hr.drew) ⟨el,old++nw⟩ ((ho.app hn).xt X0) (fun _=>aKt hzc hcz (cap-need)) hA;refine⟨d,hw,X0.trans X,R,hlt,cap,0,hge,by rw[hd];rfl,fun _=>rfl,el,A,(0,0),?_,fun _=>?_⟩
 ·rw[hw,hd];exact heap_alloc_new _ _
 ·have e1:d.z el=j.sz:=by
   rw[X.z];show c.z el=_;rw[hz];obtain⟨inf,dd,zz,g1,g2,g3,g4,g5,g6,g7,g8⟩:=hj.ex;simp[Program.cellsOf,g1,g4]
  rw[e1];have:A.size=olds.length+news.length+(cap-need)*j.sz:=by
   have h3:=congrArg List.length hA;simp[size_zeroCells,hzs]at h3;omega
  rw[this,hlen,←Nat.add_mul];rw[show need+(cap-need)=cap from by omega];exact Nat.le_refl _
theorem aKu(hr:Rl c wb h){id el:Nat}{b:B}(hg:h.h.get id=some b)(hne:Lv c id b)(hbar:h.bar≤id)(hty:b.ty=el)(hcalm:mR b=true){row' tail':List Value}{x:List SV}(hc':CL c x row')(ht':Nu tail')(hl:∀cs t fr,c.w.heap[c.r id]? =some (.cells cs t fr)→(row'++tail').length=cs.size):
  ∃d,d.w=c.w.setRow (c.r id) (row'++tail').toArray∧Xt c d∧Rl d wb ⟨(h.h.set ⟨0,[]⟩ id).set ⟨el,x⟩ h.n,Nat.succ h.n,h.bar,h.l⟩∧d.r h.n=c.r id∧d.k h.n:=by
 obtain⟨row,tail,hb,hc,ht⟩:=(hr.blk id b hg).2 hne;have hid:=(hr.blk id b hg).1;have hn:=hr.n;have hnu:Nu (row++tail):=fun y hy=>by
  rcases List.mem_append.1 hy with hy|hy
  ·exact hc.calm (iK hcalm).1 y hy
  ·exact ht (iK hcalm).1 y hy
 have hl2:(row'++tail').length=(row++tail).length:=by
  have:=hl _ _ _ hb;simpa using this
 let d:Cx:=⟨c.n+1,fun i=>c.k i∨i=c.n,fun i=>if i=c.n then c.r id else c.r i,c.w.setRow (c.r id) (row'++tail').toArray,c.z⟩
 have hoth:∀k,k≠c.r id→d.w.heap[k]? =c.w.heap[k]? :=fun k hk=>setRow_other _ _ _ _ hk;have X:Xt c d:=⟨Nat.le_succ _,fun i hi=>.inl hi,fun i hi=>hi.elim .inl fun q=>.inr (by omega),fun i hi=>if_neg (by have:=hr.k i hi;omega),Ps.one hb hnu (iK hcalm).2 hoth (size_setRow _ _ _) (setRow_heap _ _ _ _ _ _ hb) hl2,rfl⟩
 have hdr:d.r c.n=c.r id:=if_pos rfl;have hold:∀i,i<c.n→d.r i=c.r i:=fun i hi=>if_neg (by omega);have hB0:Bl c b (c.r id):=(hr.blk id b hg).2 hne;have hnew:Bl d ⟨el,x⟩ (d.r h.n):=by
  rw[←hn,hdr];exact⟨row',tail',by rw[←hty];exact setRow_heap _ _ _ _ _ _ hb,hc'.xt X,fun _=>ht'⟩
 have key:∀i b',((h.h.set ⟨0,[]⟩ id).set ⟨el,x⟩ h.n).get i=some b'→(i=h.n∧b'=⟨el,x⟩)∨(i<h.n∧b'.c=[])∨(i<h.n∧i≠id∧h.h.get i=some b'):=fun i b' hi=>by
  rcases T.get_set hi with⟨k1,k2⟩|⟨k1,k2⟩
  ·exact .inl ⟨k1,k2⟩
  ·rcases T.get_set k2 with⟨k3,k4⟩|⟨k3,k4⟩
   ·subst k3;exact .inr (.inl ⟨hid,by rw[k4]⟩)
   ·exact .inr (.inr ⟨(hr.blk i b' k4).1,k3,k4⟩)
 have lv:∀{i b'},i<h.n→Lv d i b'→Lv c i b':=fun hi q=>⟨q.1.elim (fun q=>q) fun q=>by omega,q.2⟩
 have kk:∀{i},i<h.n→d.k i→c.k i:=fun hi q=>q.elim (fun q=>q) fun q=>by omega
 refine⟨d,rfl,X,⟨by show c.n+1=h.n+1;rw[hn],fun i q=>by show i<c.n+1;exact q.elim (fun q=>Nat.lt_succ_of_lt (hr.k i q)) fun q=>by omega,below_setRow hr.q (hr.new id b hg hne hbar) _,fun i b' hi=>?_,fun i k b' b2 hi hk hb' hb2 hik=>?_,fun i b' hi hne' hba=>?_,fun l p hl=>?_,fun i k p q hi hk ki kj hik=>?_⟩,by rw[←hn];exact hdr,by rw[←hn];exact .inr rfl⟩
 ·rcases key i b' hi with⟨rfl,rfl⟩|⟨k1,k2⟩|⟨k1,k2,k3⟩
  ·exact⟨Nat.lt_succ_self _,fun _=>hnew⟩
  ·exact⟨Nat.lt_succ_of_lt k1,fun hh=>absurd k2 hh.2⟩
  ·refine⟨Nat.lt_succ_of_lt k1,fun hh=>?_⟩;rw[hold _ (by omega)];exact ((hr.blk i b' k3).2 (lv k1 hh)).xt X (hoth _ (hr.inj i id b' b k3 hg (lv k1 hh) hne k2))
 ·rcases key i b' hi with⟨rfl,rfl⟩|⟨k1,k2⟩|⟨k1,k2,k3⟩
  ·rcases key k b2 hk with⟨rfl,rfl⟩|⟨m1,m2⟩|⟨m1,m2,m3⟩
   ·exact absurd rfl hik
   ·exact absurd m2 hb2.2
   ·rw[←hn,hdr,hold _ (by omega)];exact (hr.inj k id b2 b m3 hg (lv m1 hb2) hne m2).symm
  ·exact absurd k2 hb'.2
  ·rcases key k b2 hk with⟨rfl,rfl⟩|⟨m1,m2⟩|⟨m1,m2,m3⟩
   ·rw[hold _ (by omega),←hn,hdr];exact hr.inj i id b' b k3 hg (lv k1 hb') hne k2
   ·exact absurd m2 hb2.2
   ·rw[hold _ (by omega),hold _ (by omega)];exact hr.inj i k b' b2 k3 m3 (lv k1 hb') (lv m1 hb2) hik
 ·rcases key i b' hi with⟨rfl,rfl⟩|⟨k1,k2⟩|⟨k1,k2,k3⟩
  ·rw[←hn,hdr];exact hr.new id b hg hne hbar
  ·exact absurd k2 hne'.2
  ·rw[hold _ (by omega)];exact hr.new i b' k3 (lv k1 hne') hba
 ·obtain⟨k1,k23⟩:=hr.lp l p hl;rw[hold _ (by omega)];exact⟨Nat.lt_succ_of_lt k1,fun q=>let ⟨k2,k3⟩:=k23 (kk k1 q);⟨k2.xt X (hoth _ (aDn hB0 k2)),k3⟩⟩
 ·rw[hold _ (by have:=(hr.lp i p hi).1;omega),hold _ (by have:=(hr.lp k q hk).1;omega)];exact hr.li i k p q hi hk (kk (hr.lp i p hi).1 ki) (kk (hr.lp k q hk).1 kj) hik
theorem aAm(hr:Rl c wb h){z n:Nat}{x:SV}{l:List SV}{u:Value}(hf:xM h z n x=some l)(hu:SR c x u)(hx:(x=.ns∧n=0)∨∃id off cap,x=.sl id off n cap):
  ∃vs,CL c l vs∧vs.length=n*z∧(∀v∈vs,v.oneCell'=true)∧∀g off cp,u=.slice (some ⟨g,off,none⟩) n cp→∀j v,vs[j]? =some v→c.w.cell? ((⟨g,off,none⟩:Addr).add j)=some v:=by
 rcases hx with⟨rfl,rfl⟩|⟨id,off,cap,rfl⟩
 ·injection hf with hf;subst hf;exact⟨[],trivial,by simp,fun v hv=>(by cases hv),fun _ _ _ _ j v hv=>(by cases hv)⟩
 ·have hkn:c.k id:=by cases cap<;>exact hu.1
  obtain⟨vs,h1,h2,h3⟩:=xU hr hkn hf;obtain⟨o,cp,rfl,-,-,hoff⟩:=gD hu;refine⟨vs,h1,h2,rE h1,fun g off2 cp2 he j v hv=>?_⟩;have hj:=(List.getElem?_eq_some_iff.1 hv).1;have hn0:n≠0:=fun e=>by
   subst e;rw[h2]at hj;simp at hj
  have ho:=hoff (.inl hn0);subst ho;injection he with he;injection he with he;injection he with e1 e2;subst e1;subst e2;rw[add0];exact h3 j v hv
structure Apd (P:Program) (w:World) (ats:Array TypeId) (t2 el:Nat) (inf:TypeInfo) (z q:Value) (m:Nat) (news:List Value):Prop where
 zero:m=0→∀b n cp,n≤cp→(Builtin.append_ ats t2 #[.slice b n cp,q]).run P w=.ok (.slice b n cp) w
 put:0<m→∀(b:Addr) n cp w',n+m≤cp→(storeCells (b.add (n*inf.size)) news).run P w=.ok () w'→(Builtin.append_ ats t2 #[.slice (some b) n cp,q]).run P w=.ok (.slice (some b) (n+m) cp) w'
 grow:0<m→∀(b:Addr) (sLen sCap:Nat) (olds:List Value),olds.length=sLen*inf.size→(∀j v,olds[j]? =some v→w.cell? (b.add j)=some v)→sCap<sLen+m→((sLen+m:Nat):Int)≤9223372036854775807→Builtin.nextslicecap (sLen+m) sCap*inf.bytes≤281474976710656→
  (Builtin.append_ ats t2 #[.slice (some b) sLen sCap,q]).run P w=.ok (.slice (some ⟨w.heap.size,0,none⟩) (sLen+m) (grownCap w (sLen+m) sCap el)) (w.drew.alloc (.cells (olds.toArray++news.toArray++Builtin.zeroCells z.cells (grownCap w (sLen+m) sCap el-(sLen+m))) el))
 nil:0<m→(m:Int)≤9223372036854775807→m*inf.bytes≤281474976710656→
  (Builtin.append_ ats t2 #[.slice none 0 0,q]).run P w=.ok (.slice (some ⟨w.heap.size,0,none⟩) m (grownCap w m 0 el)) (w.drew.alloc (.cells (news.toArray++Builtin.zeroCells z.cells (grownCap w m 0 el-m)) el))
theorem aMm{P:Program}{w:World}{t t2 el m cp:Nat}{inf:TypeInfo}{z:Value}{a:Addr}{news:List Value}(hu:P.underlying t=some (.slice el))(g1:P.info? el=some inf)(g6:inf.zero=some z)(hl:news.length=m*inf.size)(hc:∀j v,news[j]? =some v→w.cell? (a.add j)=some v):Apd P w #[t,t] t2 el inf z (.slice (some a) m cp) m news where
 zero h0 b n cp2 hle:=by
  subst h0;have hf:=run_firstCells_some (P:=P) w inf.size 0 a 0 cp [] (by simp) (fun j v h=>by simp at h);cases b<;>simp[Builtin.append_,run_underlying hu,sizeOf,typeInfo,g1,Builtin.lenOf,hle,hf,storeCells]
 put h0 b n cp2 w' hroom hst:=by
  have hf:=run_firstCells_some (P:=P) w inf.size m a m cp news hl hc;simp[Builtin.append_,run_underlying hu,sizeOf,typeInfo,g1,Builtin.lenOf,hroom,hf,hst]
 grow h0 b n cp2 olds ho hoc hlt h63 hfit:=run_append_grow w t t2 el inf z hu g1 g6 b n cp2 olds ho hoc a m cp news hl hc hlt h63 hfit
 nil h0 h63 h48:=run_append_nil w t t2 el inf z hu g1 g6 a m cp news hl hc h0 h63 h48
theorem aMn{P:Program}{w:World}{t t2 el:Nat}{inf:TypeInfo}{z:Value}(hu:P.underlying t=some (.slice el))(g1:P.info? el=some inf):Apd P w #[t,t] t2 el inf z (.slice none 0 0) 0 [] where
 zero h0 b n cp2 hle:=by
  cases b<;>simp[Builtin.append_,run_underlying hu,sizeOf,typeInfo,g1,Builtin.lenOf,hle,run_firstCells_none,storeCells]
 put h0:=by omega
 grow h0:=by omega
 nil h0:=by omega
theorem aN6{P:Program}{w:World}{t t' t2 el m:Nat}{k k':IntKind}{inf:TypeInfo}{z:Value}(hu:P.underlying t=some (.slice el))(hi:P.underlying t'=some (.int k))(g1:P.info? el=some inf)(g6:inf.zero=some z)(hs:0<inf.size)(hm:m<1099511627776)(hb:m*inf.bytes<1099511627776):Apd P w #[t,t'] t2 el inf z (.int k' (m:Int)) m (Builtin.zeroCells z.cells m).toList:=by
 have hw:IntKind.i64.wrap (m:Int)=(m:Int):=wrap_small (k:=.i64) (by simp only[lim];omega);have hw0:IntKind.i64.wrap 0=0:=by decide
 have hneg:¬((m:Int)<0):=by omega
 have hbig:¬(281474976710656<(m:Int)*(inf.bytes:Int)):=by
  have e:((m*inf.bytes:Nat):Int)=(m:Int)*(inf.bytes:Int):=Int.natCast_mul _ _;rw[←e];omega
 refine⟨fun h0 b n cp hle=>?_,fun h0 b n cp w' hroom hst=>?_,fun h0 b n cp olds ho hoc hlt h63 hfit=>?_,fun h0 h63 h48=>?_⟩
 ·subst h0;cases b<;>simp[Builtin.append_,run_underlying hu,run_underlying hi,sizeOf,typeInfo,g1,asInt,asIntOf,hw0,hle,storeCells]
 ·have hne:¬(m*inf.size=0):=(by have:=Nat.mul_pos h0 hs;omega);simp[Builtin.append_,run_underlying hu,run_underlying hi,sizeOf,typeInfo,zeroValue,g1,g6,asInt,asIntOf,hw,hneg,hbig,hne,hroom,hst]
 ·have hne:¬(m*inf.size=0):=(by have:=Nat.mul_pos h0 hs;omega);have hn:¬(n+m≤cp):=(by omega);have h63':¬(9223372036854775807<((n:Int)+(m:Int))):=(by omega);have h48':¬(281474976710656<Builtin.nextslicecap (n+m) cp*inf.bytes):=(by omega);have hfo:=run_firstCells_some (P:=P) w.drew inf.size n b n cp olds ho (by simpa using hoc);simp[Builtin.append_,run_underlying hu,run_underlying hi,sizeOf,typeInfo,zeroValue,g1,g6,asInt,asIntOf,hw,hneg,hbig,hne,hn,h63',h48',Question.forced,hfo,newRow,grownCap]
 ·have hne:¬(m*inf.size=0):=(by have:=Nat.mul_pos h0 hs;omega);have hn:¬m=0:=(by omega);have h63':¬(9223372036854775807<(m:Int)):=(by omega);have h48':¬(281474976710656<Builtin.nextslicecap m 0*inf.bytes):=(by rw[nextslicecap_zero h0];omega);simp[Builtin.append_,run_underlying hu,run_underlying hi,sizeOf,typeInfo,zeroValue,g1,g6,asInt,asIntOf,hw,hneg,hbig,hne,hn,h63',h48',Question.forced,run_firstCells_none,newRow,grownCap]
theorem zI{ats:Array TypeId}{t2 el m:Nat}{j:TI}{inf:TypeInfo}{z p q:Value}{s1:SV}{nw:List SV}{news:List Value}(hr:Rl c wb h)(hz:∀t,c.z t=F.P.cellsOf t)(h7:Ty F.P el j)(g1:F.P.info? el=some inf)(g4:j.sz=inf.size)(g5:j.by_=inf.bytes)(g7:zok j.ze z.cells.toList=true)(g8:z.cells.toList.length=inf.size)
  (hA:Apd F.P c.w ats t2 el inf z q m news) (hnc:CL c nw news) (hnl:news.length=m*inf.size) (hp:SR c s1 p) (hx:zD h el j s1 m nw=some (v,h')):∃u w',(Builtin.append_ ats t2 #[p,q]).run F.P c.w=.ok u w'∧Po c wb h' v u w':=by
 have hn1:=rE hnc;have hzs:z.cells.size=j.sz:=by rw[←Array.length_toList,g8,g4]
 unfold zD at hx;obtain⟨n,h12,hn⟩:=mZ hx;obtain⟨old,h15,h16⟩:=aA.1 h12;obtain⟨hcz,h17⟩:=aB.1 h16;obtain⟨hcn,h18⟩:=aB.1 h17;obtain⟨hb1,h19⟩:=aB.1 h18;rcases Nat.eq_zero_or_pos m with hm0|hm0
 ·subst hm0;have h19:nothing h s1=some (v,h'):=h19;rcases hn with⟨l,rfl⟩|⟨rfl,rfl⟩|⟨id,off,cap,rfl⟩
  ·cases h15
  ·have h19:=aN h19;injection h19 with w1 w2;subst w1;subst w2;have hp:p=.slice none 0 0:=hp;subst hp;exact⟨_,_,hA.zero rfl none 0 0 (Nat.le_refl _),Po.same hr (aF.2 rfl)⟩
  ·cases cap with
   |none=>
    have h19:=aN h19;injection h19 with w1 w2;subst w1;subst w2;obtain⟨o,cp,rfl,-,hle,-⟩:=gD hp;exact⟨_,_,hA.zero rfl _ _ _ (hle rfl),Po.same hr (aF.2 hp)⟩
   |some k=>
    obtain⟨hle,h19⟩:=aB.1 (show cb (Nat.ble n k) _ none=some (v,h') from h19);have h19:=aN h19;injection h19 with w1 w2;subst w1;subst w2;obtain⟨o,cp,rfl,hcp,-⟩:=gD hp;exact⟨_,_,hA.zero rfl _ _ _ (by rw[(hcp _ rfl).1];exact bA.1 hle),Po.same hr (aF.2 hp)⟩
 have h20:=(aB.1 (show cb (Nat.blt 0 m) _ none=some (v,h') by rw[aQ.2 hm0]at h19⊢;exact h19)).2;have hb2:=aQ.2 hm0;obtain⟨hb3,h22⟩:=aB.1 h20;obtain⟨hb4,h21⟩:=aB.1 h22;have hb4:=aQ.1 hb4;have hb1:=aQ.1 hb1;have hb2:=aQ.1 hb2;have hb3:=aQ.1 hb3;change (n+m)*j.by_<1099511627776 at hb1;change n+m<1099511627776 at hb3;rw[g5]at hb1;have hn':(s1=.ns∧n=0)∨∃id off cap,s1=.sl id off n cap:=by
  rcases hn with⟨l,rfl⟩|hn|hn
  ·cases h15
  ·exact .inl hn
  ·exact .inr hn
 obtain⟨olds,hoc,hol,-,how⟩:=aAm hr h15 hp hn';have hnl:news.length=m*j.sz:=by rw[hnl,g4]
 have hnwne:nw≠[]:=fun e=>by
  have h1:=hnc.len;rw[e]at h1;have h2:0<m*j.sz:=Nat.mul_pos hb2 hb4;simp at h1;rw[h1]at hnl;simp at hnl;omega
 have hlen:olds.length+news.length=(n+m)*j.sz:=by rw[hol,hnl,Nat.add_mul]
 have hgrow:∀(h:H) (hr:Rl c wb h) g off cp,p=.slice (some ⟨g,off,none⟩) n cp→cp<n+m→∃u w',(Builtin.append_ ats t2 #[p,q]).run F.P c.w=.ok u w'∧Po c wb ⟨h.h.set ⟨el,old++nw⟩ h.n,Nat.succ h.n,h.bar,h.l⟩ (sc (.sl h.n 0 (n+m) none)) u w':=by
  rintro h hr g off cp rfl hlt;have hfit:=growslice_fits (bytes:=inf.bytes) hlt (by omega);have hrun:=hA.grow hm0 ⟨g,off,none⟩ n cp olds (by rw[hol,g4]) (how _ _ _ rfl) hlt (by omega) hfit;obtain⟨dd,k1,k2,k3,k4⟩:=aBJ hr h7 hz hoc hnc hcz (aBI c.w (n+m) cp el) hlen (A:=olds.toArray++news.toArray++Builtin.zeroCells z.cells (grownCap c.w (n+m) cp el-(n+m))) (by simp) (iD g7) hzs;exact⟨_,_,hrun,dd,k1,k2,k3,aF.2 k4⟩
 split at h21
 ·rename_i id off n0 cap;have e3:n0=n:=by
   rcases hn' with⟨e,-⟩|⟨a1,a2,a3,e⟩
   ·cases e
   ·injection e
  subst e3;obtain⟨o1,cp,rfl,hcp,-⟩:=gD hp;obtain⟨hcp,ho1⟩:=hcp _ rfl;subst hcp;subst ho1;rw[aL]at h21;split at h21
  ·rename_i hroom;have hroom:n0+m≤cp:=bA.1 hroom;obtain⟨k1,k2⟩:=aB.1 h21;obtain⟨b,k3,k4⟩:=aA.1 k2;obtain⟨k5,k6⟩:=aB.1 k4;obtain⟨h2',k7,k8⟩:=aA.1 k6;have k8:=aN k8;injection k8 with k8 k9;subst k8;subst k9;have k1:=aH.1 k1;subst k1;obtain⟨dd,X,R,hst,-,-⟩:=aAL hr F.P hp.1 k7 hnc hnwne;refine⟨.slice (some ⟨c.r id,0,none⟩) (n0+m) cp,dd.w,?_,dd,rfl,X,R,aF.2 ⟨X.k _ hp.1,by rw[X.r _ hp.1];rfl⟩⟩;have hst:(storeCells ⟨c.r id,n0*inf.size,none⟩ news).run F.P c.w=.ok () dd.w:=(by rw[←g4];exact hst);exact hA.put hm0 _ _ _ _ hroom (by rw[add0,Nat.zero_add];exact hst)
  ·rename_i hroom;have hroom:¬n0+m≤cp:=fun e=>hroom (bA.2 e);unfold H.nw at h21;rw[aM]at h21;have k8:=aN h21;injection k8 with k8 k9;subst k8;subst k9;rw[iY];exact hgrow _ hr _ _ _ rfl (by omega)
 ·rename_i id off n0;have e3:n0=n:=by
   rcases hn' with⟨e,-⟩|⟨a1,a2,a3,e⟩
   ·cases e
   ·injection e
  subst e3;obtain⟨k1,k2⟩:=aB.1 h21;have k1:=aH.1 k1;subst k1;unfold H.cut at k2;obtain⟨b,k3,k4⟩:=aA.1 k2;obtain⟨k5,k6⟩:=aB.1 k4;obtain⟨k7,k8⟩:=cbn.1 k6;obtain⟨k9,k10⟩:=aB.1 k8;obtain⟨k11,k12⟩:=aB.1 k10;rw[aM]at k12;have k13:=aN k12;injection k13 with k13 k14;subst k13;subst k14;have k5:=aH.1 k5;have hne:b.c≠[]:=fun e=>(by rw[bH,e]at k7;exact absurd rfl (aAK.1 k7));obtain⟨hid,cp,o1,hle,rfl,ho1,tt,cs,fr,hsh,hcap⟩:=hp;have ho1:=ho1 (.inr rfl);subst ho1;have hcap:=hcap rfl;obtain⟨row,tail,hb,hc,htl⟩:=(hr.blk id b k3).2 ⟨hid,hne⟩;have hb':=hb;unfold Bx at hb';rw[hb']at hsh;injection hsh with hsh;injection hsh with s1 s2 s3;subst s1;subst s2;subst s3;have hzz:c.z b.ty=j.sz:=(by rw[hz,k5];simp[Program.cellsOf,g1,g4]);rw[hzz]at hcap;by_cases hroom:n0+m≤cp
  ·have hcur:(row++tail).length=(row++tail).toArray.size:=(by simp);have hfit:n0*inf.size+news.length≤(row++tail).toArray.size:=by
    have h1:(n0+m)*j.sz≤cp*j.sz:=Nat.mul_le_mul_right _ hroom;rw[hnl,←g4,←Nat.add_mul];omega
   have hb2':c.w.heap[c.r id]? =some (.cells (row++tail).toArray el (0,0)):=(by rw[←k5];exact hb);have hst:=run_storeCells_at F.P (c.r id) (n0*inf.size) el news 0 _ c.w hb2' (by simpa using hfit) hn1;simp only[Nat.add_zero]at hst;have hrun:=hA.put hm0 ⟨c.r id,0,none⟩ n0 cp _ hroom (by rw[add0,Nat.zero_add];exact hst);have how:=how _ _ _ rfl;have htake:(row++tail).take (n0*inf.size)=olds:=by
    apply List.ext_getElem?;intro k;by_cases hk:k<olds.length
    ·have h1:=how k olds[k] (List.getElem?_eq_getElem hk);rw[add0,Nat.zero_add]at h1;have h2:(row++tail)[k]? =some olds[k]:=(by simpa [World.cell?,hb'] using h1);rw[List.getElem?_take,if_pos (by rw[←g4,←hol];exact hk),h2,List.getElem?_eq_getElem hk]
    ·rw[List.getElem?_take,if_neg (by rw[←g4,←hol];exact hk),List.getElem?_eq_none (by omega)]
   have hnu:Nu (row++tail):=fun y hy=>by
    rcases List.mem_append.1 hy with hy|hy
    ·exact hc.calm (iK k9).1 y hy
    ·exact htl (iK k9).1 y hy
   have hrow:((row++tail).toArray.toList.take (n0*inf.size)++news++(row++tail).toArray.toList.drop (n0*inf.size+news.length))=(olds++news)++(row++tail).drop (n0*inf.size+news.length):=by
    show (row++tail).take _++news++_=_;rw[htake]
   rw[hrow]at hrun;obtain⟨dd,q1,q2,q3,q4,q5⟩:=aKu hr (el:=el) (x:=app old nw) k3 ⟨hid,hne⟩ (bA.1 k11) k5 k9 (row':=olds++news) (tail':=(row++tail).drop (n0*inf.size+news.length)) (by rw[iY];exact hoc.app hnc) (fun y hy=>hnu y (List.mem_of_mem_drop hy)) (fun cs t fr hcs=>by
    rw[hb']at hcs;injection hcs with hcs;injection hcs with s1 s2 s3;subst s1;have h5:olds.length=n0*inf.size:=(by rw[hol,g4]);simp only[List.length_append,List.length_drop,List.size_toArray]at hfit⊢;omega)
   refine⟨_,_,hrun,dd,q1,q2,q3,aF.2 ⟨q5,cp,0,hroom,by rw[q4];rfl,fun _=>rfl,el,((olds++news)++(row++tail).drop (n0*inf.size+news.length)).toArray,(0,0),?_,fun _=>?_⟩⟩
   ·rw[q1,q4];exact setRow_heap _ _ _ _ _ _ hb2'
   ·have h6:dd.z el=j.sz:=(by rw[q2.z,←k5];exact hzz);have h5:olds.length=n0*inf.size:=(by rw[hol,g4]);rw[h6];simp only[List.length_append,List.length_drop,List.size_toArray]at hfit hcap⊢;omega
  ·rw[iY];refine hgrow ⟨h.h.set ⟨0,[]⟩ id,h.n,h.bar,h.l⟩ ?_ _ _ _ rfl (by omega);have key:∀i b',(h.h.set ⟨0,[]⟩ id).get i=some b'→(i<h.n∧b'.c=[])∨h.h.get i=some b':=fun i b' hi=>by
    rcases T.get_set hi with⟨m1,m2⟩|⟨m1,m2⟩
    ·subst m1;exact .inl ⟨(hr.blk _ b k3).1,by rw[m2]⟩
    ·exact .inr m2
   refine⟨hr.n,hr.k,hr.q,fun i b' hi=>?_,fun i k b' b2 hi hk hb' hb2 hik=>?_,fun i b' hi hne' hba=>?_,hr.lp,hr.li⟩
   ·rcases key i b' hi with⟨m1,m2⟩|m1
    ·exact⟨m1,fun hh=>absurd m2 hh.2⟩
    ·exact hr.blk i b' m1
   ·rcases key i b' hi with⟨m1,m2⟩|m1
    ·exact absurd m2 hb'.2
    ·rcases key k b2 hk with⟨m3,m4⟩|m3
     ·exact absurd m4 hb2.2
     ·exact hr.inj i k b' b2 m1 m3 hb' hb2 hik
   ·rcases key i b' hi with⟨m1,m2⟩|m1
    ·exact absurd m2 hne'.2
    ·exact hr.new i b' m1 hne' hba
 ·have hn0:n=0:=by
   rcases hn' with⟨-,e⟩|⟨a1,a2,a3,e⟩
   ·exact e
   ·cases e
  subst hn0;unfold H.nw at h21;rw[aM]at h21;have k8:=aN h21;injection k8 with k8 k9;subst k8;subst k9;have hp:p=.slice none 0 0:=hp;subst hp;have ho0:olds=[]:=List.eq_nil_of_length_eq_zero (by rw[hol];simp);subst ho0;have hrun:=hA.nil hm0 (by omega) (by simp at hb1;omega);obtain⟨dd,k1,k2,k3,k4⟩:=aBJ hr h7 hz hoc hnc hcz (aBI c.w m 0 el) (by simpa using hlen) (A:=news.toArray++Builtin.zeroCells z.cells (grownCap c.w m 0 el-m)) (by simp) (iD g7) hzs;rw[iY];refine⟨_,_,hrun,dd,k1,k2,k3,aF.2 ?_⟩;show SR dd (.sl h.n 0 (0+m) none) _;rw[Nat.zero_add];exact k4
 ·cases h21
theorem aIh{at_:List Nat}{args:List AV}{args':List Value}{t2:TypeId}(hr:Rl c wb h)(hz:∀t,c.z t=F.P.cellsOf t)(hx:bi F h .append at_ args=some (v,h'))(ha:VL c args args'):∃u w',(Builtin.append_ at_.toArray t2 args'.toArray).run F.P c.w=.ok u w'∧Po c wb h' v u w':=by
 unfold bi at hx;dsimp only at hx;split at hx
 ·rename_i t t' s x;obtain⟨i,h1,h2⟩:=aA.1 hx;obtain⟨el,h3,h4⟩:=aA.1 h2;obtain⟨j,h7,h8⟩:=aA.1 h4;obtain⟨s1,rfl,h9⟩:=aI.1 h8;obtain⟨s2,rfl,h10⟩:=aI.1 h9;obtain⟨p,q,rfl,hp,hq⟩:∃p q,args'=[p,q]∧SR c s1 p∧SR c s2 q:=by
   match args',ha with
   | [p,q],ha=>exact⟨p,q,rfl,aF.1 ha.1,aF.1 ha.2.1⟩
  have hu:=nH (aJ h1) h3;obtain⟨inf,d,z,g1,g2,g3,g4,g5,g6,g7,g8⟩:=(aJ h7).ex;rw[aL]at h10;split at h10
  ·rename_i h5;have h5:=aH.1 h5;subst h5;unfold aEA at h10;obtain⟨m,h12,hm⟩:=mZ h10;obtain⟨nw,h13,h14⟩:=aA.1 h12;rcases hm with⟨l,rfl⟩|⟨rfl,rfl⟩|⟨id2,off2,cap2,rfl⟩
   ·cases h13
   ·injection h13 with h13;subst h13;have hq:q=.slice none 0 0:=hq;subst hq;exact zI hr hz (aJ h7) g1 g4 g5 g7 g8 (aMn hu g1) (show CL c [] [] from trivial) (by simp) hp h14
   ·obtain⟨news,hnc,hnl,hn1,hnw⟩:=aAm hr h13 hq (.inr ⟨id2,off2,cap2,rfl⟩);obtain⟨o2,cp2,rfl,-⟩:=gD hq;exact zI hr hz (aJ h7) g1 g4 g5 g7 g8 (aMm hu g1 g6 (by rw[hnl,g4]) (hnw _ _ _ rfl)) hnc (by rw[hnl,g4]) hp h14
  ·obtain⟨i',h11,h12⟩:=aA.1 h10;split at h12
   ·rename_i k hk;unfold aEB at h12;obtain⟨kk,m,rfl,h13⟩:=fA h12;obtain⟨h14,h15⟩:=aB.1 h13;obtain⟨h16,h17⟩:=aB.1 h15;obtain⟨hs,h17⟩:=aB.1 h17;have hs:=aQ.1 hs;rw[aM]at h17;have h14:=aQ.1 h14;have h16:=aQ.1 h16;change m*j.by_<1099511627776 at h16;have hq:q=.int kk (m:Int):=hq;subst hq;have hzs:z.cells.size=inf.size:=(by rw[←Array.length_toList,g8]);have hzc:CL c (iU j.ze m) (Builtin.zeroCells z.cells m).toList:=by
     show CL c (iU j.ze m) (madeCells z.cells (m*z.cells.size)).toList;rw[vI];exact qK (iD g7) m
    exact zI hr hz (aJ h7) g1 g4 g5 g7 g8 (aN6 hu (lT (aJ h11) hk) g1 g6 (by omega) h14 (by rw[←g5];exact h16)) hzc (by simp[Builtin.zeroCells,hzs]) hp h17
   ·cases h12
 ·cases hx
end
def Dm(B:Nat)(w:World):List Deferred→Prop
 | []=>True
 |d::ds=>(∃r,d={target:=.collected r,args:=#[]}∧B≤r∧w.heap[r]? =some (.deferred (some []))∧∀d'∈ds,∀r',d'.target=.collected r'→r'≠r)∧Dm B w ds
theorem Dm.ps{B:Nat}{w w':World}(hp:Ps w w'):∀{l:List Deferred},Dm B w l→Dm B w' l
 | [],_=>trivial
 |_::_,⟨⟨r,h1,h2,h3,h4⟩,h5⟩=>⟨⟨r,h1,h2,hp.d r h3,h4⟩,Dm.ps hp h5⟩
theorem Dm.low{B B':Nat}{w:World}(hB:B'≤B):∀{l:List Deferred},Dm B w l→Dm B' w l
 | [],_=>trivial
 |_::_,⟨⟨r,h1,h2,h3,h4⟩,h5⟩=>⟨⟨r,h1,Nat.le_trans hB h2,h3,h4⟩,Dm.low hB h5⟩
theorem Dm.lt{B:Nat}{w:World}:∀{l:List Deferred},Dm B w l→∀d∈l,∀r,d.target=.collected r→r<w.heap.size∧B≤r
 |_::_,⟨⟨r,h1,h2,h3,_⟩,h5⟩,d,hd,r',hr=>by
  rcases List.mem_cons.1 hd with rfl|hd
  ·rw[h1]at hr;injection hr with hr;subst hr;exact⟨(Array.getElem?_eq_some_iff.1 h3).1,h2⟩
  ·exact Dm.lt h5 d hd r' hr
theorem Dm.app{B B':Nat}{w w0:World}(hB:B'≤B)(h0:w0.heap.size≤B):∀{l m:List Deferred},Dm B w l→Dm B' w m→(∀d∈m,∀r,d.target=.collected r→r<w0.heap.size)→Dm B' w (l++m)
 | [],_,_,k,_=>k
 |x::l,m,⟨⟨r,h1,h2,h3,h4⟩,h5⟩,k,hm=>by
  refine⟨⟨r,h1,Nat.le_trans hB h2,h3,fun d' hd' r' hr'=>?_⟩,Dm.app hB h0 h5 k hm⟩;rcases List.mem_append.1 hd' with hd' |hd'
  ·exact h4 d' hd' r' hr'
  ·have:=hm d' hd' r' hr';omega
def Arr(P:Program)(m:Machine)(b:Frame)(k:List Item)(cs:List Frame):Ex→Act→World→Prop
 | .n,a,w=>Steps P m (lone (b.atR a k) cs w)
 | .x id,a,w=>∃k1,exitTo id k1=exitTo id k∧Steps P m (lone (b.atR a (.code (.exit id)::k1)) cs w)
 | .r,a,w=>∃k1,Steps P m (lone (b.atR a (.code .ret::k1)) cs w)
theorem Arr.of_steps{P:Program}{m m1:Machine}{b:Frame}{k:List Item}{cs:List Frame}{x:Ex}{a:Act}{w:World}(h:Steps P m m1)(h':Arr P m1 b k cs x a w):Arr P m b k cs x a w:=by
 cases x with
 |n=>exact h.trans h'
 |x id=>obtain⟨k1,h1,h2⟩:=h';exact⟨k1,h1,h.trans h2⟩
 |r=>obtain⟨k1,h2⟩:=h';exact⟨k1,h.trans h2⟩
structure Fr (F:Cf) (c:Cx) (wb:World) (nt:Nat) (h:H) (e:Env) (a:Act):Prop where
 r:Rl c wb h
 z:∀t,c.z t=F.P.cellsOf t
 t:Tr c nt e a.tmps
 b:F.tb wb
structure Be (F:Cf) (c:Cx) (wb:World) (nt:Nat) (b:Frame) (a:Act) (h':H) (e':Env) (a':Act) (d:Cx):Prop where
 x:Xt c d
 f:Fr F d wb nt h' e' a'
 m:∃ms,a'.defers=ms++a.defers∧Dm c.w.heap.size d.w ms∧(b.roundOf≠none→ms=[])
def fJ(F:Cf)(q:Bool)(nt fn:Nat)(cd:Code)(e:Env)(h:H)(r:R):Prop:=
 ∀(c:Cx) (wb:World) (a:Act),Fr F c wb nt h e a→∀(b:Frame) (k:List Item) (cs:List Frame),b.fn=fn→(q=false→b.roundOf=none)→
  ∃a' d,Be F c wb nt b a r.h r.e a' d∧Arr F.P (lone (b.atR a (.code cd::k)) cs c.w) b k cs r.x a' d.w
def fG(F:Cf)(ex:bG):Prop:=∀q nt fn cd e h r,ex q nt fn cd e h=some r→fJ F q nt fn cd e h r
section
variable {F:Cf} {c d:Cx} {wb:World} {h h':H} {q:Bool} {nt fn:Nat} {e e':Env} {a a' a'':Act} {b:Frame} {ex:bG}
theorem Be.refl(f:Fr F c wb nt h e a):Be F c wb nt b a h e a c:=⟨Xt.refl c,f,[],rfl,trivial,fun _=>rfl⟩
theorem Be.trans{d2:Cx}{h'':H}{e'':Env}(x:Be F c wb nt b a h' e' a' d)(y:Be F d wb nt b a' h'' e'' a'' d2):Be F c wb nt b a h'' e'' a'' d2:=by
 obtain⟨m1,q1,q2,q3⟩:=x.m;obtain⟨m2,q4,q5,q6⟩:=y.m;refine⟨x.x.trans y.x,y.f,m2++m1,by rw[q4,q1,List.append_assoc],?_,fun hb=>by rw[q3 hb,q6 hb];rfl⟩;exact Dm.app x.x.p.n (Nat.le_refl _) q5 (q2.ps y.x.p) fun dd hd r hr=>(q2.lt dd hd r hr).1
theorem aMo:fJ F q nt fn .skip e h ⟨.n,e,h⟩:=fun c _ a f _ _ _ _ _=>⟨a,c,Be.refl f,.one stepR_skip⟩
theorem aKv{l:Nat}:fJ F q nt fn (.label l) e h ⟨.n,e,h⟩:=fun c _ a f _ _ _ _ _=>⟨a,c,Be.refl f,.one stepR_label⟩
theorem aMp{id:Nat}:fJ F q nt fn (.exit id) e h ⟨.x id,e,h⟩:=fun c _ a f _ k _ _ _=>⟨a,c,Be.refl f,k,rfl,.refl _ _⟩
theorem aN7:fJ F q nt fn .ret e h ⟨.r,e,h⟩:=fun c _ a f _ k _ _ _=>⟨a,c,Be.refl f,k,.refl _ _⟩
theorem aN8{x y:Code}{r:R}(hex:fG F ex)(hx:(ob (ex q nt fn x e h) (kV ex q nt fn y))=some r):fJ F q nt fn (.seq x y) e h r:=by
 obtain⟨r1,h1,h2⟩:=aA.1 hx;intro c wb a f b k cs hb hq;obtain⟨a1,d1,B1,A1⟩:=hex _ _ _ _ _ _ _ h1 c wb a f b (.code y::k) cs hb hq;obtain⟨x1,e1,g1⟩:=r1;cases x1 with
 |n=>
  obtain⟨a2,d2,B2,A2⟩:=hex _ _ _ _ _ _ _ h2 d1 wb a1 B1.f b k cs hb hq;exact⟨a2,d2,B1.trans B2,.of_steps (.head stepR_seq A1) A2⟩
 |x id=>
  injection h2 with h2;subst h2;obtain⟨k1,q1,q2⟩:=A1;exact⟨a1,d1,B1,k1,q1.trans (exitTo_plain rfl id k),.head stepR_seq q2⟩
 |r=>
  injection h2 with h2;subst h2;obtain⟨k1,q2⟩:=A1;exact⟨a1,d1,B1,k1,.head stepR_seq q2⟩
theorem aMq{g:Operand}{x y:Code}{r:R}(hex:fG F ex)(hx:(ob (ev e g) fun v=>one v (xO ex q nt fn x y e h))=some r):fJ F q nt fn (.cond g x y) e h r:=by
 obtain⟨v,h1,h2⟩:=aA.1 hx;obtain⟨s,rfl,h3⟩:=aI.1 h2;unfold xO at h3;split at h3
 ·rename_i t;intro c wb a f b k cs hb hq;have hg:a.eval g=.bool t:=aF.1 (aS f.t h1);obtain⟨a1,d1,B1,A1⟩:=hex _ _ _ _ _ _ _ h3 c wb a f b k cs hb hq;refine⟨a1,d1,B1,.of_steps (.one (stepR_cond hg)) ?_⟩;rw[aL]at A1;exact A1
 ·cases h3
theorem aKw{id:Nat}{x:Code}{r:R}(hex:fG F ex)(hx:(ob (ex q nt fn x e h) (tN id))=some r):fJ F q nt fn (.block id x) e h r:=by
 obtain⟨r1,h1,h2⟩:=aA.1 hx;intro c wb a f b k cs hb hq;obtain⟨a1,d1,B1,A1⟩:=hex _ _ _ _ _ _ _ h1 c wb a f b (.inBlock id::k) cs hb hq;obtain⟨x1,e1,g1⟩:=r1;cases x1 with
 |n=>
  injection h2 with h2;subst h2;exact⟨a1,d1,B1,.head stepR_block (Steps.trans A1 (.one stepR_inBlock))⟩
 |x j=>
  obtain⟨k1,q1,q2⟩:=A1;have h5:cb (Nat.beq id j) (some ⟨.n,e1,g1⟩) (some ⟨.x j,e1,g1⟩)=some r:=h2;rw[aL]at h5;split at h5<;>rename_i hj
  ·have hj:=aH.1 hj;subst hj;injection h5 with h5;subst h5;refine⟨a1,d1,B1,.head stepR_block (Steps.trans q2 (.one (stepR_exit (q1.trans ?_))))⟩;simp[exitTo]
  ·injection h5 with h5;subst h5;refine⟨a1,d1,B1,k1,q1.trans ?_,.head stepR_block q2⟩;have:(id == j)=false:=by
     have:=fun e=>hj (aH.2 e);simpa using this
   simp[exitTo,this]
 |r=>
  injection h2 with h2;subst h2;obtain⟨k1,q2⟩:=A1;exact⟨a1,d1,B1,k1,.head stepR_block q2⟩
def tZ(F:Cf)(q:Bool)(nt fn:Nat)(cd:Code)(e:Env)(h:H)(r:R):Prop:=
 ∀(c:Cx) (wb:World) (a:Act),Fr F c wb nt h e a→∀(b:Frame) (k:List Item) (cs:List Frame),b.fn=fn→(q=false→b.roundOf=none)→
  ∃a' d,Be F c wb nt b a r.h r.e a' d∧Arr F.P (lone (b.atR a (.code cd::.inLoop cd::k)) cs c.w) b k cs r.x a' d.w
theorem x_loop'{x:Code}{r:R}(hex:fG F ex)(hrest:∀e h r,ex q nt fn (.loop x) e h=some r→tZ F q nt fn x e h r)(hx:(ob (ex q nt fn x e h) (kV ex q nt fn (.loop x)))=some r):tZ F q nt fn x e h r:=by
 obtain⟨r1,h1,h2⟩:=aA.1 hx;intro c wb a f b k cs hb hq;obtain⟨a1,d1,B1,A1⟩:=hex _ _ _ _ _ _ _ h1 c wb a f b (.inLoop x::k) cs hb hq;obtain⟨x1,e1,g1⟩:=r1;cases x1 with
 |n=>
  obtain⟨a2,d2,B2,A2⟩:=hrest _ _ _ h2 d1 wb a1 B1.f b k cs hb hq;exact⟨a2,d2,B1.trans B2,.of_steps (Steps.trans A1 (.one stepR_inLoop)) A2⟩
 |x id=>
  injection h2 with h2;subst h2;obtain⟨k1,q1,q2⟩:=A1;exact⟨a1,d1,B1,k1,q1.trans (exitTo_plain rfl id k),q2⟩
 |r=>
  injection h2 with h2;subst h2;obtain⟨k1,q2⟩:=A1;exact⟨a1,d1,B1,k1,q2⟩
theorem tZ.code{x:Code}{r:R}(hl:tZ F q nt fn x e h r):fJ F q nt fn (.loop x) e h r:=fun c wb a f b k cs hb hq=>
 let ⟨a1,d1,B1,A1⟩:=hl c wb a f b k cs hb hq
 ⟨a1,d1,B1,.of_steps (.one stepR_loop) A1⟩
end
section
variable {F:Cf} {c d:Cx} {wb:World} {h h':H} {q:Bool} {nt fn:Nat} {e e':Env} {a a':Act} {b:Frame} {ex:bG} {P:Program}
theorem aBK:∀{l:List AV} {k:Nat} {e e':Env},jX nt l k e=some e'→(l≠[]→k+l.length≤nt)∧∀j v,e'.get j=some v→(∃i,l[i]? =some v∧j=k+i)∨((∀i,i<l.length→j≠k+i)∧e.get j=some v)
 | [],k,e,e',h=>by
   injection h with h;subst h;exact⟨fun h=>absurd rfl h,fun j v hv=>.inr ⟨fun i hi=>by simp at hi,hv⟩⟩
 |x::l,k,e,e',h=>by
  have e1:jX nt (x::l) k e=cb (Nat.blt k nt) (jX nt l (Nat.succ k) (e.set x k)) none:=rfl;rw[e1]at h;obtain⟨h1,h2⟩:=aB.1 h;have h1:=aQ.1 h1;obtain⟨h3,h4⟩:=aBK h2;refine⟨fun _=>?_,fun j v hv=>?_⟩
  ·by_cases hl:l=[]
   ·subst hl;simp;omega
   ·have:=h3 hl;simp;omega
  ·rcases h4 j v hv with⟨i,h5,h6⟩|⟨h5,h6⟩
   ·exact .inl ⟨i+1,by simpa using h5,by omega⟩
   ·rcases T.get_set h6 with⟨rfl,rfl⟩|⟨h7,h8⟩
    ·exact .inl ⟨0,rfl,rfl⟩
    ·refine .inr ⟨fun i hi=>?_,h8⟩;cases i with
     |zero=>exact h7
     |succ i=>have:=h5 i (by simpa using hi);omega
theorem fill_get:∀{n k:Nat} {e:Env} {j:Nat} {v:AV},(fill n k e).get j=some v→(v=un∧k≤j∧j<k+n)∨e.get j=some v
 |0,k,e,j,v,h=>.inr h
 |n+1,k,e,j,v,h=>by
  have e1:fill (n+1) k e=fill n (Nat.succ k) (e.set un k):=rfl;rw[e1]at h;rcases fill_get h with⟨h1,h2,h3⟩|h1
  ·exact .inl ⟨h1,by omega,by omega⟩
  ·rcases T.get_set h1 with⟨h2,h3⟩|⟨_,h3⟩
   ·exact .inl ⟨h3,by omega,by omega⟩
   ·exact .inr h3
theorem VL.len:∀{l:List AV} {r:List Value},VL c l r→r.length=l.length
 | [],[],_=>rfl
 |_::_,_::_,h=>by simp[VL.len h.2]
theorem VL.at_:∀{l:List AV} {r:List Value} {j:Nat} {x:AV},VL c l r→l[j]? =some x→∃v,r[j]? =some v∧VR c x v
 | [],[],_,_,_,h=>by simp at h
 |y::_,v::_,0,x,h,hx=>by simp at hx;subst hx;exact⟨v,rfl,h.1⟩
 |_::_,_::_,j+1,x,h,hx=>by
  obtain⟨v,h1,h2⟩:=VL.at_ (j:=j) h.2 (by simpa using hx);exact⟨v,by simpa using h1,h2⟩
theorem VL.app:∀{l m:List AV} {r s:List Value},VL c l r→VL c m s→VL c (l++m) (r++s)
 | [],_,[],_,_,k=>k
 |_::_,_,_::_,_,h,k=>⟨h.1,VL.app h.2 k⟩
theorem aBL{args:List AV}{vs:List Value}(ha:jX nt args 0 (fill nt 0 .lf)=some e)(hv:VL c args vs):Tr c nt e (vs.toArray++Array.replicate (nt-vs.toArray.size) undef):=by
 obtain⟨h1,h2⟩:=aBK ha;have hl:=hv.len;have hle:vs.length≤nt:=by
  by_cases hn:args=[]
  ·subst hn;simp at hl;rw[hl];exact Nat.zero_le _
  ·have:=h1 hn;omega
 refine⟨by simp;omega,fun k v hk=>?_⟩;rcases h2 k v hk with⟨i,h3,h4⟩|⟨h3,h4⟩
 ·obtain⟨u,h5,h6⟩:=hv.at_ h3;have hi:i<vs.length:=(List.getElem?_eq_some_iff.1 h5).1;refine⟨u,?_,h6⟩;rw[Array.getElem?_append_left (by simp;omega)];simpa [h4] using h5
 ·rcases fill_get h4 with⟨rfl,h5,h6⟩|h5
  ·refine⟨undef,?_,mW⟩;have hk2:vs.length≤k:=by
    rcases Nat.lt_or_ge k args.length with hlt|hge
    ·exact absurd (Nat.zero_add k).symm (h3 k hlt)
    ·omega
   rw[Array.getElem?_append_right (by simpa using hk2),Array.getElem?_replicate,if_pos];simp only[List.size_toArray];omega
  ·rw[T.get_lf]at h5;cases h5
theorem aGf{w:World}{g:Nat}{o o':Obj}(hg:w.heap[g]? =some o)(hc:∀cs t fr,o≠.cells cs t fr){v:Value}{N:Nat}(hv:Nm w v N):Nm (w.putObj g o') v N:=by
 obtain⟨A,k,ws,h1,h2,h3,h4,h5⟩:=hv;refine⟨A,k,ws,h1,h2,fun hw=>?_,h4,h5⟩;obtain⟨b,o2,e,hlt,hcell⟩:=h3 hw;have hne:b≠g:=by
  intro e2;have h6:=hcell 0 _ (List.getElem?_eq_getElem hw);unfold World.cell? at h6;rw[e2,hg]at h6;cases o with
  |cells cs t fr=>exact hc _ _ _ rfl
  |_=>cases h6
 exact⟨b,o2,e,by rw[World.putObj_size];exact hlt,fun j u hu=>(gZ (p:=⟨b,o2+j,none⟩) (World.putObj_heap_other hne)).trans (hcell j u hu)⟩
theorem aGg{w:World}{g:Nat}{o o':Obj}(hg:w.heap[g]? =some o)(hc:∀cs t fr,o≠.cells cs t fr){v:Value}{N:Nat}(hv:Nr w v N):Nr (w.putObj g o') v N:=by
 obtain⟨A,k,ws,h1,h2,h3,h4,h5⟩:=hv;refine⟨A,k,ws,h1,h2,fun hw=>?_,h4,h5⟩;obtain⟨ad,e,hlt,hcell,cs,fr,hb⟩:=h3 hw;have hne:ad.block≠g:=fun e2=>by
  rw[e2,hg]at hb;injection hb with hb;exact hc _ _ _ hb
 exact⟨ad,e,by rw[World.putObj_size];exact hlt,fun j d hd=>(gZ (p:=ad.add j) (by unfold Addr.add;split<;>exact World.putObj_heap_other hne)).trans (hcell j d hd),cs,fr,(World.putObj_heap_other hne).trans hb⟩
def Cx.obj(c:Cx)(g:Nat)(o:Obj):Cx:=⟨c.n,c.k,c.r,c.w.putObj g o,c.z⟩
theorem aGh{g:Nat}{o o':Obj}(hg:c.w.heap[g]? =some o)(hc:∀cs t fr,o≠.cells cs t fr):Xs c (c.obj g o'):=
 ⟨fun _ h=>h,fun _ _=>rfl,fun _ _ hv=>aGf hg hc hv,fun _ _ hv=>aGg hg hc hv,fun k t cs fr hk=>⟨cs,by
  show (c.w.putObj g o').heap[k]? =_;rw[World.putObj_heap_other (fun e=>by rw[e,hg]at hk;injection hk with hk;exact hc _ _ _ hk)];exact hk,rfl⟩,rfl⟩
theorem aJx{w0 w:World}{g:Nat}{o:Obj}(hq:Q w0 w)(hg:w0.heap.size≤g):Q w0 (w.putObj g o):=
 ⟨hq.os,hq.tape,hq.output,by rw[World.putObj_size];exact hq.size,fun k hk=>(World.putObj_heap_other (by omega)).trans (hq.block k hk)⟩
theorem Rl.obj(hr:Rl c wb h){g:Nat}{o o':Obj}(hg:c.w.heap[g]? =some o)(hc:∀cs t fr,o≠.cells cs t fr)(hl:∃x,o=.deferred x)(hwb:wb.heap.size≤g):Rl (c.obj g o') wb h:=by
 have hoth:∀k,k≠g→(c.obj g o').w.heap[k]? =c.w.heap[k]? :=fun k hk=>World.putObj_heap_other hk;have hne:∀{b:B} {k:Nat},Bl c b k→k≠g:=fun {b k} hb e=>by
  obtain⟨row,tail,h1,-⟩:=hb;subst e;unfold Bx at h1;rw[h1]at hg;injection hg with hg;exact hc _ _ _ hg.symm
 have hnl:∀{p:Lp} {k:Nat},LpR c p k→k≠g:=fun {p k} hb e=>by
  obtain⟨rc,h1,-,h2,-⟩:=hb;subst e;rw[h1]at hg;injection hg with hg;obtain⟨x,hl⟩:=hl;exact h2 x (hg.trans hl)
 have X:Xs c (c.obj g o'):=aGh hg hc
 exact⟨hr.n,hr.k,aJx hr.q hwb,fun id b hi=>⟨(hr.blk id b hi).1,fun hh=>((hr.blk id b hi).2 hh).xs X (hoth _ (hne ((hr.blk id b hi).2 hh)))⟩,hr.inj,hr.new,
  fun l p hl=>⟨(hr.lp l p hl).1,fun q=>⟨((hr.lp l p hl).2 q).1.xs X (hoth _ (hnl ((hr.lp l p hl).2 q).1)),((hr.lp l p hl).2 q).2⟩⟩,hr.li⟩
theorem aGi{fr:Frame}{cs:List Frame}{w:World}{r:Nat}{ds:List Deferred}(hm:fr.mode=.returning)(hd:fr.defers={target:=.collected r,args:=#[]}::ds)(hg:w.heap[r]? =some (.deferred (some []))):
  step P (lone fr cs w)=.next (lone {fr with defers:=ds} cs (w.putObj r (.deferred none))):=
 step_lone_go (by simp[stepG,unwind,hm,hd,Sem.runT_eq,run_takeDeferred hg,GStep.bare_after])
theorem takes{w0:World}:∀{ms:List Deferred} {c:Cx} {fr:Frame} {cs:List Frame},Rl c wb h→fr.mode=.returning→fr.defers=ms→Dm w0.heap.size c.w ms→wb.heap.size≤w0.heap.size→Q w0 w0→∃d,Xs c d∧Rl d wb h∧d.w.heap.size=c.w.heap.size∧(∀k,k<w0.heap.size→d.w.heap[k]? =c.w.heap[k]?)∧d.n=c.n∧d.k=c.k∧Steps P (lone fr cs c.w) (lone {fr with defers:=[]} cs d.w)
 | [],c,fr,cs,hr,hm,hd,_,_,_=>⟨c,⟨fun _ h=>h,fun _ _=>rfl,fun _ _ h=>h,fun _ _ h=>h,fun _ _ cs _ h=>⟨cs,h,rfl⟩,rfl⟩,hr,rfl,fun _ _=>rfl,rfl,rfl,by rw[←hd];exact .refl _ _⟩
 |m::ms,c,fr,cs,hr,hm,hd,⟨⟨r,h1,h2,h3,h4⟩,h5⟩,hwb,hq=>by
  subst h1;have hs:=aGi (P:=P) (cs:=cs) hm hd h3;have X:Xs c (c.obj r (.deferred none)):=aGh h3 (fun _ _ _ e=>by cases e);have R:=hr.obj (o':=.deferred none) h3 (fun _ _ _ e=>by cases e) ⟨_,rfl⟩ (Nat.le_trans hwb h2);have h5':∀{l:List Deferred},(∀d'∈l,∀r',d'.target=.collected r'→r'≠r)→Dm w0.heap.size c.w l→Dm w0.heap.size (c.obj r (.deferred none)).w l:=fun {l}=>by
    induction l with
    |nil=>intro _ _;trivial
    |cons x l ih=>
     rintro hne ⟨⟨r2,k1,k2,k3,k4⟩,k5⟩;refine⟨⟨r2,k1,k2,?_,k4⟩,ih (fun d' hd'=>hne d' (List.mem_cons_of_mem _ hd')) k5⟩;have:=hne x (List.mem_cons_self ..) r2 (by rw[k1]);exact (World.putObj_heap_other this).trans k3
  obtain⟨d,q1,q2,q3,q4,q5,q7,q6⟩:=takes (fr:={fr with defers:=ms}) (cs:=cs) R hm rfl (h5' h4 h5) hwb hq;refine⟨d,⟨fun id hi=>q1.k id (X.k id hi),fun id hi=>(q1.r id hi).trans (X.r id hi),fun v N hv=>q1.m v N (X.m v N hv),fun v N hv=>q1.mr v N (X.mr v N hv),fun g t cs fr hg=>?_,q1.z.trans X.z⟩,q2,q3.trans (World.putObj_size),fun k hk=>(q4 k hk).trans (World.putObj_heap_other (by omega)),q5,q7,.head hs q6⟩;obtain⟨cs1,k1,k2⟩:=X.s g t cs fr hg;obtain⟨cs2,k3,k4⟩:=q1.s g t cs1 fr k1;exact⟨cs2,k3,k4.trans k2⟩
end
section
variable {F:Cf} {c d:Cx} {wb:World} {h h':H} {q:Bool} {nt fn:Nat} {e e':Env} {a a':Act} {b:Frame} {ex:bG}
theorem xZ{v:AV}{p:Bool × List SV}(h:mV v=some p):v=.c p.1 p.2:=by
 cases v with
 |c g l=>injection h with h;rw[←h]
 |t l=>cases h
def aAP(tm:Array Value):ResultVar→Sem Value
 | .tmp t=>pure (tm.getD t undef)
 | .cell a t=>do loadVar t (←asAddr (tm.getD a undef))
theorem aKx{tm:Array Value}{r:ResultVar}{p:Bool × List SV}(hr:Rl d wb h)(ht:Tr d nt e tm)(hx:aBt F e h r=some p):∃u,(aAP tm r).run F.P d.w=.ok u d.w∧VC d p.1 p.2 u:=by
 cases r with
 |tmp t=>
  obtain⟨v,h1,h2⟩:=aA.1 (show (ob (e.get t) mV)=some p from hx);have h3:=xZ h2;subst h3;obtain⟨u,h4,h5⟩:=ht.2 t _ h1;refine⟨u,?_,h5⟩;show Result.ok (tm.getD t undef) d.w=_;rw[Array.getD_eq_getD_getElem?,h4];rfl
 |cell x t=>
  obtain⟨i,h1,h2⟩:=aA.1 (show (ob (F.ti t) _)=some p from hx);obtain⟨v,h3,h4⟩:=aA.1 h2;obtain⟨s,rfl,h5⟩:=aI.1 h4;split at h5
  ·rename_i id off;obtain⟨l,h6,h7⟩:=aA.1 h5;obtain⟨v2,h8,h9⟩:=aA.1 h7;have h10:=xZ h9;subst h10;obtain⟨u0,k1,k2⟩:=ht.2 x _ h3;obtain⟨hkn,rfl⟩:=aF.1 k2;obtain⟨vs,hc,hl,hcell⟩:=xU hr hkn h6;obtain⟨u,hu,k3,k4⟩:=xW h8 hc;refine⟨u,?_,hu⟩;have k5:tm.getD x undef=.pointer (some ⟨d.r id,off,none⟩):=(by rw[Array.getD_eq_getD_getElem?,k1];rfl);simp only[aAP,k5,asAddr,Sem.run_bind,Sem.run_pure,Result.andThen_ok];exact vF (aJ h1) hl hcell k3 k4
  ·cases h5
theorem aGj{tm:Array Value}(hr:Rl d wb h)(ht:Tr d nt e tm):∀{l:List ResultVar} {ps:List (Bool × List SV)},res F e h l=some ps→∃vs,(l.mapM (aAP tm)).run F.P d.w=.ok vs d.w∧TL d ps vs
 | [],ps,hx=>by injection hx with hx;subst hx;exact⟨[],rfl,trivial⟩
 |r::l,ps,hx=>by
  have e1:res F e h (r::l)=ob (aBt F e h r) fun v=>ob (res F e h l) fun l=>some (v::l):=rfl;rw[e1]at hx;obtain⟨p,h1,h2⟩:=aA.1 hx;obtain⟨ps2,h3,h4⟩:=aA.1 h2;injection h4 with h4;subst h4;obtain⟨u,h5,h6⟩:=aKx hr ht h1;obtain⟨vs,h7,h8⟩:=aGj hr ht h3;refine⟨u::vs,?_,h6,h8⟩;simp only[List.mapM_cons,Sem.run_bind,h5,Result.andThen_ok,h7,Sem.run_pure]
theorem yA{tm:Array Value}{G:Func}{ps:List (Bool × List SV)}(hr:Rl d wb h)(ht:Tr d nt e tm)(hx:res F e h G.results.toList=some ps):∃u,(results G tm).run F.P d.w=.ok u d.w∧VR d (tup ps) u:=by
 obtain⟨vs,h1,h2⟩:=aGj hr ht hx;have e1:results G tm=(do let vs ←G.results.mapM (aAP tm);pure (if h:vs.size=1 then vs[0] else .tuple vs)):=by
  unfold results;rfl
 rw[e1,Sem.run_bind,Array.mapM_eq_mapM_toList,Sem.run_map,h1];simp only[Result.andThen_ok,Sem.run_pure]
 match ps,vs,h2 with
 | [],[],_=>exact⟨.tuple #[],rfl,[],rfl,trivial⟩
 | [p],[u],h2=>exact⟨u,rfl,h2.1⟩
 |p::p2::ps,u::u2::vs,h2=>
  exact⟨.tuple (u::u2::vs).toArray,rfl,_,rfl,h2⟩
def CR(F:Cf)(fn:Nat)(vs:List Value)(c:Cx)(wb:World)(v:AV)(h':H):Prop:=
 Calls F.P fn vs.toArray c.w fun e w'=>∃u d,e=.returned u∧d.w=w'∧Xt c d∧Rl d wb h'∧VR d v u
theorem aBM{G:Func}{cd:Code}{args:List AV}{vs:List Value}{v:AV}(hex:fG F ex)(hG:F.P.funcs[fn]? =some G)(hB:G.body=some cd)(hx:jE F ex G cd fn args h=some (v,h'))(hr:Rl c wb h)(hz:∀t,c.z t=F.P.cellsOf t)(hb0:F.tb wb)(ha:VL c args vs):CR F fn vs c wb v h':=by
 obtain⟨e0,h1,h2⟩:=aA.1 hx;obtain⟨r,h3,h4⟩:=aA.1 h2;intro cs;obtain⟨b,hb⟩:∃b:Frame,b={fn:=fn,tmps:=#[],todo:=[],defers:=[],mode:=.run,kind:=.normal}:=⟨_,rfl⟩
 have hb1:b.fn=fn:=by rw[hb]
 have hb2:b.roundOf=none:=by rw[hb]
 have hb3:b.kind=.normal:=by rw[hb]
 obtain⟨a0,ha0⟩:∃a0:Act,a0={tmps:=vs.toArray++Array.replicate (G.ntmps-vs.toArray.size) undef,defers:=[]}:=⟨_,rfl⟩
 have henter:Frame.enter F.P fn vs.toArray .normal=b.atR a0 [.code cd]:=by
  rw[hb,ha0];simp[Frame.enter,Frame.atR,hG,hB]
 have hf:Fr F c wb G.ntmps h e0 a0:=⟨hr,hz,by rw[ha0];exact aBL h1 ha,hb0⟩
 obtain⟨a1,d1,B1,A1⟩:=hex _ _ _ _ _ _ _ h3 c wb a0 hf b [] cs hb1 (fun _=>hb2);obtain⟨ms,hm1,hm2,-⟩:=B1.m;rw[ha0,List.append_nil]at hm1;have key:∀(ps:List (Bool × List SV)),res F r.e r.h G.results.toList=some ps→v=tup ps→h'=r.h→(∃todo,Steps F.P (lone (b.atR a0 [.code cd]) cs c.w) (lone {b.atR a1 todo with mode:=.returning} cs d1.w))→∃e w' fr,(∃u d,e=.returned u∧d.w=w'∧Xt c d∧Rl d wb h'∧VR d v u)∧Comes F.P (lone (Frame.enter F.P fn vs.toArray .normal) cs c.w) (lone fr cs w') e∧fr.fn=fn∧fr.leaving F.P w' e:=by
  rintro ps hps rfl rfl ⟨todo,hs⟩;obtain⟨d2,q1,q2,q3,q4,q5,q7,q6⟩:=takes (P:=F.P) (w0:=c.w) (fr:={b.atR a1 todo with mode:=.returning}) (cs:=cs) B1.f.r rfl (show a1.defers=ms from hm1) hm2 hr.size (Q.refl _);have ht2:Tr d2 G.ntmps r.e a1.tmps:=B1.f.t.xs q1;obtain⟨u,k1,k2⟩:=yA q2 ht2 hps
  have X:Xt c d2:=⟨by rw[q5];exact B1.x.n,fun id hi=>q1.k id (B1.x.k id hi),fun id hi=>B1.x.o id (by rw[←q7];exact hi),fun id hi=>(q1.r id (B1.x.k id hi)).trans (B1.x.r id hi),
   ⟨fun v N hv=>q1.m v N (B1.x.p.m v N hv),fun v N hv=>q1.mr v N (B1.x.p.mr v N hv),fun g t cs fr hg=>(by
    obtain⟨cs1,m1,m2⟩:=B1.x.p.s g t cs fr hg;obtain⟨cs2,m3,m4⟩:=q1.s g t cs1 fr m1;exact⟨cs2,m3,m4.trans m2⟩),by rw[q3];exact B1.x.p.n,fun g hg=>(q4 g (Array.getElem?_eq_some_iff.1 hg).1).trans (B1.x.p.d g hg)⟩,q1.z.trans B1.x.z⟩
  refine⟨.returned u,d2.w,{({b.atR a1 todo with mode:=.returning}:Frame) with defers:=[]},⟨u,d2,rfl,rfl,X,q2,k2⟩,?_,?_,?_⟩
  rotate_left
  rotate_left
  ·exact⟨rfl,rfl,hb3,G,by show F.P.funcs[b.fn]? =some G;rw[hb1];exact hG,k1⟩
  ·rw[henter];exact hs.trans q6
  ·exact hb1
 unfold leave at h4;obtain⟨x,e1,g1⟩:=r;cases x with
 |x id=>cases h4
 |n=>
  obtain⟨ps,h5,h6⟩:=aA.1 h4;injection h6 with h6;injection h6 with h6 h7;exact key ps h5 h6.symm h7.symm ⟨[],Steps.trans A1 (.one (stepR_end hb2))⟩
 |r=>
  obtain⟨ps,h5,h6⟩:=aA.1 h4;injection h6 with h6;injection h6 with h6 h7;obtain⟨k1,hs⟩:=A1;exact key ps h5 h6.symm h7.symm ⟨_,Steps.trans hs (.one (stepR_ret hb2))⟩
end
structure FOk (F:Cf):Prop where
 ng:∀(f:Nat) (G:Func),F.P.funcs[f]? =some G→(G.name == "runtime.NumGoroutine")=false
 tq:∀w w',Q w w'→F.tb w→F.tb w'
 pr:∀(fn:Nat) (g:List AV→Option AV) (args:List AV) (v:AV),F.pr fn=some g→g args=some v→∀(c:Cx) (vs:List Value),F.tb c.w→VL c args vs→
  Calls F.P fn vs.toArray c.w fun e w'=>∃u,e=.returned u∧Q c.w w'∧VR ⟨c.n,c.k,c.r,w',c.z⟩ v u
 ro:aEJ F
 ln:aIg F
 ph:∀(fn:Nat) (g:H→List AV→Option AV) (h:H) (args:List AV) (v:AV),F.ph fn=some g→g h args=some v→∀(c:Cx) (wb:World) (vs:List Value),Rl c wb h→(∀t,c.z t=F.P.cellsOf t)→F.tb c.w→VL c args vs→
  Calls F.P fn vs.toArray c.w fun e w'=>∃u,e=.returned u∧Q c.w w'∧VR ⟨c.n,c.k,c.r,w',c.z⟩ v u
 pw:∀(fn:Nat) (g:H→List AV→Option (B × Nat × Nat)) (h:H) (args:List AV) (b:B) (n m:Nat),F.pw fn=some g→g h args=some (b,n,m)→∀(c:Cx) (wb:World) (vs:List Value),Rl c wb h→(∀t,c.z t=F.P.cellsOf t)→F.tb c.w→VL c args vs→
  Calls F.P fn vs.toArray c.w fun e w'=>∃u d,e=.returned u∧d.w=w'∧Xt c d∧Rl d wb ⟨h.h.set b h.n,Nat.succ h.n,h.bar,h.l⟩∧VR d (sc (.sl h.n 0 n (some m))) u
section
variable {F:Cf} {c d:Cx} {wb:World} {h h':H} {q:Bool} {nt fn:Nat} {e e':Env} {a a':Act} {b:Frame} {ex:bG} {o:Oper} {ops:Array Oper} {i:Nat} {v:AV}
def kE(F:Cf)(nt:Nat)(ops:Array Oper)(i:Nat)(o:Oper)(e:Env)(h:H)(v:AV)(h':H):Prop:=
 ∀(c:Cx) (wb:World) (a:Act),Fr F c wb nt h e a→Region.wanted o (yielded ops a.tmps)=true→∀(b:Frame) (rest:List Nat) (k:List Item) (cs:List Frame),
  ∃u d,Xt c d∧Rl d wb h'∧VR d v u∧Steps F.P (lone (b.atR a (.inRegion ops (i::rest)::k)) cs c.w) (lone (b.atR (a.put o.dst u) (.inRegion ops rest::k)) cs d.w)
theorem fin(ho:ops[i]? =some o){rest:List Nat}{k:List Item}{u:Value}:(b.atR a (.inRegion ops (i::rest)::k)).finish u=b.atR (a.put o.dst u) (.inRegion ops rest::k):=by
 rw[Frame.finish_atR,ho];rfl
theorem aBN{P:Program}(ho:ops[i]? =some o)(hw:Region.wanted o (yielded ops a.tmps)=true)(hnd:∀c,o.op≠.defer c){w w':World}{u:Value}(hr:OpR P a.eval o w u w'){rest:List Nat}{k:List Item}{cs:List Frame}:
  step P (lone (b.atR a (.inRegion ops (i::rest)::k)) cs w)=.next (lone (b.atR (a.put o.dst u) (.inRegion ops rest::k)) cs w'):=by
 have hg:=stepGR_op (P:=P) (b:=b) (k:=k) (cs:=cs) (w:=w) (rest:=rest) ho hw;rw[Oper.semAt_eq _ _ _ hnd]at hg;refine step_lone_go ?_;rw[hg,←fin (k:=k) ho];rcases hr with hr|⟨hr,rfl⟩
 ·simp[stepG.apply,Sem.runT_eq,hr,GStep.bare_after]
 ·simp[stepG.apply,Sem.runT_eq,hr,GStep.bare_after]
theorem bD(ho:ops[i]? =some o)(hnd:∀c,o.op≠.defer c)(hx:∀(c:Cx) (wb:World) (a:Act),Fr F c wb nt h e a→∃u w',OpR F.P a.eval o c.w u w'∧Po c wb h' v u w'):kE F nt ops i o e h v h':=by
 intro c wb a f hw b rest k cs;obtain⟨u,w',h1,d,rfl,X,R,V⟩:=hx c wb a f;exact⟨u,d,X,R,V,.one (aBN ho hw hnd h1)⟩
theorem zJ(ho:ops[i]? =some o){f0:Nat}{args:Array Value}(hnd:∀c,o.op≠.defer c)(hw:Region.wanted o (yielded ops a.tmps)=true)(hrun:(execOp a.eval o).run F.P c.w=.ok (.enter f0 args) c.w)(hc:Calls F.P f0 args c.w fun e w'=>∃u d,e=.returned u∧d.w=w'∧Xt c d∧Rl d wb h'∧VR d v u)
  {rest:List Nat} {k:List Item} {cs:List Frame}:∃u d,Xt c d∧Rl d wb h'∧VR d v u∧Steps F.P (lone (b.atR a (.inRegion ops (i::rest)::k)) cs c.w) (lone (b.atR (a.put o.dst u) (.inRegion ops rest::k)) cs d.w):=by
 have hg:=stepGR_op (P:=F.P) (b:=b) (k:=k) (cs:=cs) (w:=c.w) (rest:=rest) ho hw;rw[Oper.semAt_eq _ _ _ hnd]at hg;obtain⟨e,w',fr,⟨u,d,rfl,rfl,X,R,V⟩,hs,hfn,hl⟩:=hc (b.atR a (.inRegion ops (i::rest)::k)::cs);have henter:step F.P (lone (b.atR a (.inRegion ops (i::rest)::k)) cs c.w)=.next (lone (Frame.enter F.P f0 args .normal) (b.atR a (.inRegion ops (i::rest)::k)::cs) c.w):=
  step_lone_go (by rw[hg];simp[stepG.apply,Sem.runT_eq,hrun,Frame.atR,GStep.bare_after])
 refine⟨u,d,X,R,V,.head henter (Steps.trans hs (.one ?_))⟩;rw[←fin (k:=k) ho];exact step_leave_returned hl
theorem aDy{cs:List (Nat × Nat)}(h:∀p∈cs,c.k p.1):VL c (wM cs) (cs.map (ptr c)):=by
 induction cs with
 |nil=>trivial
 |cons p cs ih=>exact⟨aF.2 ⟨h p (List.mem_cons_self ..),rfl⟩,ih fun q hq=>h q (List.mem_cons_of_mem _ hq)⟩
theorem Rl.q'(hr:Rl c wb h){w':World}(hq:Q c.w w'):Xt c ⟨c.n,c.k,c.r,w',c.z⟩∧Rl ⟨c.n,c.k,c.r,w',c.z⟩ wb h:=by
 have X:Xt c ⟨c.n,c.k,c.r,w',c.z⟩:=⟨Nat.le_refl _,fun _ h=>h,fun _ h=>.inl h,fun _ _=>rfl,Ps.q hq,rfl⟩
 exact⟨X,hr.n,hr.k,hr.q.trans hq,fun id b hg=>⟨(hr.blk id b hg).1,fun hc=>((hr.blk id b hg).2 hc).xt X (hq.heap ((hr.blk id b hg).2 hc).lt)⟩,hr.inj,hr.new,
  fun l p hl=>⟨(hr.lp l p hl).1,fun q=>⟨((hr.lp l p hl).2 q).1.xt X (hq.heap ((hr.lp l p hl).2 q).1.lt),((hr.lp l p hl).2 q).2⟩⟩,hr.li⟩
theorem aBO(hF:FOk F)(hex:fG F ex){G:Func}{cd:Code}{args:List AV}{vs:List Value}(h1:F.P.funcs[fn]? =some G)(h3:G.body=some cd)(hx:jF F ex G cd fn args h=some (v,h'))(hr:Rl c wb h)(hz:∀t,c.z t=F.P.cellsOf t)(hb:F.tb wb)(ha:VL c args vs):CR F fn vs c wb v h':=by
 have hx:Option.rec (motive:=fun _=>Option VH) (jE F ex G cd fn args h) (fun g=>Option.rec (motive:=fun _=>Option VH) (jE F ex G cd fn args h) (fun r=>h.nw r.1 fun a h=>vh (.sl a 0 r.2.1 (some r.2.2)) h) (g h args)) (F.pw fn)=some (v,h'):=hx;cases hq:F.pw fn with
 |none=>
  rw[hq]at hx;exact aBM hex h1 h3 hx hr hz hb ha
 |some g=>
  rw[hq]at hx;have hx:Option.rec (motive:=fun _=>Option VH) (jE F ex G cd fn args h) (fun r=>h.nw r.1 fun a h=>vh (.sl a 0 r.2.1 (some r.2.2)) h) (g h args)=some (v,h'):=hx;cases hv:g h args with
  |none=>
   rw[hv]at hx;exact aBM hex h1 h3 hx hr hz hb ha
  |some r=>
   rw[hv]at hx;have hx:(h.nw r.1 fun a h=>vh (.sl a 0 r.2.1 (some r.2.2)) h)=some (v,h'):=hx;unfold H.nw at hx;rw[aM]at hx;injection hx with h6;injection h6 with h6 h7;subst h6;subst h7;exact hF.pw fn g h args r.1 r.2.1 r.2.2 hq hv c wb vs hr hz (hF.tq _ _ hr.q hb) ha
theorem fT(hF:FOk F)(hex:fG F ex){args:List AV}{vs:List Value}(hx:aU F ex fn args h=some (v,h'))(hr:Rl c wb h)(hz:∀t,c.z t=F.P.cellsOf t)(hb:F.tb wb)(ha:VL c args vs):
  (∃G,F.P.funcs[fn]? =some G∧G.body.isSome=true)∧CR F fn vs c wb v h':=by
 obtain⟨G,h1,h2⟩:=aA.1 hx;obtain⟨cd,h3,h4⟩:=aA.1 h2;refine⟨⟨G,h1,by rw[h3];rfl⟩,?_⟩;cases hp:F.pr fn with
 |none=>
  rw[hp]at h4;have h4:Option.rec (motive:=fun _=>Option VH) (jF F ex G cd fn args h) (fun g=>Option.rec (motive:=fun _=>Option VH) (jF F ex G cd fn args h) (fun v=>some (v,h)) (g h args)) (F.ph fn)=some (v,h'):=h4;cases hq:F.ph fn with
  |none=>
   rw[hq]at h4;exact aBO hF hex h1 h3 h4 hr hz hb ha
  |some g=>
   rw[hq]at h4;have h4:Option.rec (motive:=fun _=>Option VH) (jF F ex G cd fn args h) (fun v=>some (v,h)) (g h args)=some (v,h'):=h4;cases hv:g h args with
   |none=>
    rw[hv]at h4;exact aBO hF hex h1 h3 h4 hr hz hb ha
   |some v1=>
    rw[hv]at h4;have h4:some (v1,h)=some (v,h'):=h4;injection h4 with h6;injection h6 with h6 h7;subst h6;subst h7;refine (hF.ph fn g h args v1 hq hv c wb vs hr hz (hF.tq _ _ hr.q hb) ha).mono ?_;rintro e w' ⟨u,rfl,hq2,hv2⟩;obtain⟨X,R⟩:=hr.q' hq2;exact⟨u,⟨c.n,c.k,c.r,w',c.z⟩,rfl,rfl,X,R,hv2⟩
 |some g=>
  rw[hp]at h4;obtain⟨v1,h5,h6⟩:=aA.1 (show (ob (g args) fun v=>some (v,h))=some (v,h') from h4);injection h6 with h6;injection h6 with h6 h7;subst h6;subst h7;refine (hF.pr fn g args v1 hp h5 c vs (hF.tq _ _ hr.q hb) ha).mono ?_;rintro e w' ⟨u,rfl,hq,hv⟩;obtain⟨X,R⟩:=hr.q' hq;exact⟨u,⟨c.n,c.k,c.r,w',c.z⟩,rfl,rfl,X,R,hv⟩
theorem kF{P:Program}{f0:Nat}{G:Func}(hg:P.funcs[f0]? =some G)(hn:(G.name == "runtime.NumGoroutine")=false)(hb:G.body.isSome=true)(args:Array Value)(w:World):(callFunc f0 args).run P w=.ok (.enter f0 args) w:=by
 have hb':¬G.body=none:=fun e=>by rw[e]at hb;cases hb
 have hn':¬G.name="runtime.NumGoroutine":=by simpa using hn
 simp[callFunc,hg,hn',hb']
theorem aGk{P:Program}{f0:Nat}{G:Func}{g:Operand}{xs:Array Operand}{ats:Array TypeId}{fI:Array Value}(ho:o.op=.call {callee:=.value g,args:=xs,argTypes:=ats})(hv:a.eval g=.func (.func f0) #[] fI)(hg:P.funcs[f0]? =some G)(hn:(G.name == "runtime.NumGoroutine")=false)(hb:G.body.isSome=true)(w:World):
  (execOp a.eval o).run P w=.ok (.enter f0 (xs.map a.eval++fI)) w:=by
 unfold execOp;rw[ho];simp only[resolve,hv,Deferred.ofValue,Sem.run_bind,Sem.run_pure,Result.andThen_ok,invoke,Array.empty_append];exact kF hg hn hb _ w
theorem aBP{d0:Option Nat}{α:Type}{kk:Env→Option α}{r:α}(h:put nt e d0 v kk=some r):∃e2,kk e2=some r∧∀(c:Cx) (a:Act) (u:Value),Tr c nt e a.tmps→VR c v u→Tr c nt e2 (a.put d0 u).tmps:=by
 cases d0 with
 |none=>exact⟨e,h,fun c a u ht _=>ht⟩
 |some k=>
  obtain⟨h1,h2⟩:=aB.1 (show cb (Nat.blt k nt) (kk (e.set v k)) none=some r from h);have h1:=aQ.1 h1;refine⟨_,h2,fun c a u ht hv=>⟨by simpa [Act.put] using ht.1,fun j x hj=>?_⟩⟩;have hsz:=ht.1;rcases T.get_set hj with⟨rfl,rfl⟩|⟨h3,h4⟩
  ·refine⟨u,?_,hv⟩;have hlt:j<a.tmps.size:=(by omega);simp[Act.put,hlt]
  ·obtain⟨u2,k1,k2⟩:=ht.2 j x h4;refine⟨u2,?_,k2⟩;simp only[Act.put,Array.getElem?_setIfInBounds];rw[if_neg (fun e=>h3 e.symm)];exact k1
theorem aMr{x:Option AV}{w bb:Bool}(h:isB x w=some bb):∃av,x=some av∧((∃y,av=sc (.b y)∧bb=(y == w))∨(av=un∧bb=false)):=by
 obtain⟨av,h1,h2⟩:=aA.1 h;refine⟨av,h1,?_⟩;split at h2
 ·rename_i y;injection h2 with h2;refine .inl ⟨y,rfl,?_⟩;rw[←h2];cases w<;>cases y<;>rfl
 ·injection h2 with h2;exact .inr ⟨rfl,h2.symm⟩
 ·cases h2
theorem jM{bb:Bool}(hx:wanted ops.toList e o.guard=some bb)(ht:Tr c nt e a.tmps):Region.wanted o (yielded ops a.tmps)=bb:=by
 unfold Region.wanted;cases hg:o.guard with
 |none=>
  rw[hg]at hx;injection hx with hx
 |some p=>
  obtain⟨j,w⟩:=p;rw[hg]at hx;obtain⟨o2,h1,h2⟩:=aA.1 (show (ob (drp j ops.toList).head? fun o=>ob o.dst fun d=>isB (e.get d) w)=some bb from hx);obtain⟨k,h3,h4⟩:=aA.1 h2;have h5:ops[j]? =some o2:=(by simpa using bN h1);obtain⟨av,h6,h7⟩:=aMr h4;obtain⟨u,h8,h9⟩:=ht.2 k av h6;show (yielded ops a.tmps j == some w)=bb;rcases h7 with⟨y,rfl,rfl⟩|⟨rfl,rfl⟩
  ·have hu:u=.bool y:=aF.1 h9;subst hu;have:yielded ops a.tmps j=some y:=(by simp[yielded,h5,h3,h8]);rw[this];rfl
  ·obtain⟨vs,hu,hv⟩:=h9;have hv0:vs=[]:=by
     cases vs with
     |nil=>rfl
     |cons x l=>exact hv.elim
   subst hv0;subst hu;have:yielded ops a.tmps j=none:=(by simp[yielded,h5,h3,h8]);rw[this];rfl
theorem yB{call:bB}{r:R}(hop:∀(j:Nat) (o:Oper) (e:Env) (h:H) (v:AV) (h':H),ops[j]? =some o→op1 F call o.op e h=some (v,h')→kE F nt ops j o e h v h'):∀{l:List Oper} {j:Nat} {e:Env} {h:H},ops.toList.drop j=l→gM F nt call ops.toList l e h=some r→r.x=.n∧∀(c:Cx) (wb:World) (a:Act),Fr F c wb nt h e a→∀(b:Frame) (k:List Item) (cs:List Frame),∃a' d,Be F c wb nt b a r.h r.e a' d∧Steps F.P (lone (b.atR a (.inRegion ops (List.range' j l.length)::k)) cs c.w) (lone (b.atR a' k) cs d.w)
 | [],j,e,h,hl,hx=>by
   injection hx with hx;subst hx;exact⟨rfl,fun c wb a f b k cs=>⟨a,c,Be.refl f,.one stepR_region_end⟩⟩
 |o::l,j,e,h,hl,hx=>by
  have hj:j<ops.toList.length:=by
    rcases Nat.lt_or_ge j ops.toList.length with h1|h1
    ·exact h1
    ·rw[List.drop_eq_nil_of_le h1]at hl;cases hl
  have ho:ops[j]? =some o:=by
    have:=congrArg List.head? hl;simpa using this
  have hl2:ops.toList.drop (j+1)=l:=by
    rw[←List.tail_drop,hl];rfl
  have e1:gM F nt call ops.toList (o::l) e h=kT F nt call ops.toList (gM F nt call ops.toList l) o e h:=rfl;rw[e1]at hx;unfold kT at hx;obtain⟨bb,h1,h2⟩:=aA.1 hx;rw[aL]at h2;split at h2
  ·rename_i hbb;obtain⟨⟨v,h3⟩,h4,h5⟩:=aA.1 h2;obtain⟨e2,h6,h7⟩:=aBP h5;obtain⟨h8,h9⟩:=yB hop hl2 h6;refine⟨h8,fun c wb a f b k cs=>?_⟩;obtain⟨u,d,X,R,V,S⟩:=hop j o e h v h3 ho h4 c wb a f ((jM h1 f.t).trans hbb) b (List.range' (j+1) l.length) k cs;have f2:Fr F d wb nt h3 e2 (a.put o.dst u):=⟨R,fun t=>by rw[X.z];exact f.z t,h7 d a u (f.t.xt X) V,f.b⟩
   obtain⟨a',d2,B,S2⟩:=h9 d wb (a.put o.dst u) f2 b k cs;have B1:Be F c wb nt b a h3 e2 (a.put o.dst u) d:=⟨X,f2,[],by cases o.dst<;>rfl,trivial,fun _=>rfl⟩
   exact⟨a',d2,B1.trans B,S.trans S2⟩
  ·rename_i hbb;obtain⟨e2,h6,h7⟩:=aBP h2;obtain⟨h8,h9⟩:=yB hop hl2 h6;refine⟨h8,fun c wb a f b k cs=>?_⟩;have hw:Region.wanted o (yielded ops a.tmps)=false:=by
     rw[jM h1 f.t];cases bb<;>first|rfl|exact absurd rfl hbb
   have S:=stepR_op_skip (P:=F.P) (b:=b) (a:=a) (k:=k) (cs:=cs) (w:=c.w) (ops:=ops) (i:=j) (rest:=List.range' (j+1) l.length) (by simp[ho,hw]);simp only[ho,Option.bind_some]at S;have f2:Fr F c wb nt h e2 (a.put o.dst undef):=⟨f.r,f.z,h7 c a undef f.t mW,f.b⟩
   obtain⟨a',d2,B,S2⟩:=h9 c wb (a.put o.dst undef) f2 b k cs;have B1:Be F c wb nt b a h e2 (a.put o.dst undef) c:=⟨Xt.refl c,f2,[],by cases o.dst<;>rfl,trivial,fun _=>rfl⟩
   exact⟨a',d2,B1.trans B,.head S S2⟩
theorem aBQ{id:Nat}{call:bB}{r:R}(hop:∀(j:Nat) (o:Oper) (e:Env) (h:H) (v:AV) (h':H),ops[j]? =some o→op1 F call o.op e h=some (v,h')→kE F nt ops j o e h v h')(hx:gM F nt call ops.toList ops.toList e h=some r):fJ F q nt fn (.region id ops false) e h r:=by
 obtain⟨h1,h2⟩:=yB hop (j:=0) (List.drop_zero) hx;intro c wb a f b k cs _ _;obtain⟨a',d,B,S⟩:=h2 c wb a f b k cs;refine⟨a',d,B,?_⟩;rw[h1];refine .head stepR_region ?_;rw[List.range_eq_range'];simpa using S
end
section
variable {F:Cf} {c d:Cx} {wb:World} {h h':H} {q:Bool} {nt fn:Nat} {e e':Env} {a a':Act} {b:Frame} {ex:bG} {v:AV} {o:Oper}
theorem aMs{w:World}{g:Nat}{o o':Obj}(hg:w.heap[g]? =some o)(hc:∀cs t fr,o≠.cells cs t fr)(hd:∀x,o≠.deferred x):Ps w (w.putObj g o'):=
 ⟨fun v N hv=>aGf hg hc hv,fun _ _ hv=>aGg hg hc hv,fun k t cs fr hk=>⟨cs,by
  rw[World.putObj_heap_other (fun e=>by rw[e,hg]at hk;injection hk with hk;exact hc _ _ _ hk)];exact hk,rfl⟩,by rw[World.putObj_size];exact Nat.le_refl _,fun k hk=>by
  rw[World.putObj_heap_other (fun e=>by rw[e,hg]at hk;injection hk with hk;exact hd _ hk)];exact hk⟩
theorem lX{g:Nat}{o o':Obj}(hg:c.w.heap[g]? =some o)(hc:∀cs t fr,o≠.cells cs t fr)(hd:∀x,o≠.deferred x):Xt c (c.obj g o'):=
 ⟨Nat.le_refl _,fun _ h=>h,fun _ h=>.inl h,fun _ _=>rfl,aMs hg hc hd,rfl⟩
theorem Rl.loop(hr:Rl c wb h){l:Nat}{p p':Lp}{o o':Obj}(hl:h.l.get l=some p)(hk:c.k l)(hb:h.bar≤l)(hg:c.w.heap[c.r l]? =some o)(hc:∀cs t fr,o≠.cells cs t fr)(hd:∀x,o≠.deferred x)(hp:LpR (c.obj (c.r l) o') p' (c.r l)):
  Rl (c.obj (c.r l) o') wb (h.putLp l p'):=by
 have hwb:wb.heap.size≤c.r l:=((hr.lp l p hl).2 hk).2 hb;have X:Xt c (c.obj (c.r l) o'):=lX hg hc hd;have hoth:∀k,k≠c.r l→(c.obj (c.r l) o').w.heap[k]? =c.w.heap[k]? :=fun k hk=>World.putObj_heap_other hk;have hne:∀{b:B} {k:Nat},Bl c b k→k≠c.r l:=fun {b k} hb e=>by
  obtain⟨row,tail,h1,-⟩:=hb;subst e;unfold Bx at h1;rw[h1]at hg;injection hg with hg;exact hc _ _ _ hg.symm
 have hold:∀{j:Nat} {p2:Lp},(h.putLp l p').l.get j=some p2→∃p3,h.l.get j=some p3:=fun {j p2} hj=>by
  rcases T.get_set hj with⟨rfl,rfl⟩|⟨h1,h2⟩
  ·exact⟨_,hl⟩
  ·exact⟨_,h2⟩
 refine⟨hr.n,hr.k,aJx hr.q hwb,fun id b hi=>⟨(hr.blk id b hi).1,fun hh=>((hr.blk id b hi).2 hh).xt X (hoth _ (hne ((hr.blk id b hi).2 hh)))⟩,hr.inj,hr.new,fun j p2 hj=>?_,fun i j p2 d2 hi hj ki kj hij=>?_⟩
 ·rcases T.get_set hj with⟨rfl,rfl⟩|⟨h1,h2⟩
  ·exact⟨(hr.lp _ p hl).1,fun _=>⟨hp,fun _=>hwb⟩⟩
  ·exact⟨(hr.lp j p2 h2).1,fun kj=>⟨((hr.lp j p2 h2).2 kj).1.xt X (hoth _ (hr.li j l p2 p h2 hl kj hk h1)),((hr.lp j p2 h2).2 kj).2⟩⟩
 ·obtain⟨p3,hi⟩:=hold hi;obtain⟨p4,hj⟩:=hold hj;exact hr.li i j p3 p4 hi hj ki kj hij
theorem Rl.itn(hr:Rl c wb h){p:Lp}{o:Obj}(hp:LpR (c.nw o) p c.w.heap.size):Rl (c.nw o) wb ⟨h.h,Nat.succ h.n,h.bar,h.l.set p h.n⟩:=by
 have hn:=hr.n;have hsz:=hr.size;have X:=rD (c:=c) hr.k o;have hold:∀k,k<c.w.heap.size→(c.nw o).w.heap[k]? =c.w.heap[k]? :=fun k hk=>Below.heap_alloc _ _ k hk;have key:∀id p',(T.set p h.l h.n).get id=some p'→(id=h.n∧p'=p)∨(id<h.n∧h.l.get id=some p'):=fun id p' hg=>by
  rcases T.get_set hg with⟨h1,h2⟩|⟨h1,h2⟩
  ·exact .inl ⟨h1,h2⟩
  ·exact .inr ⟨(hr.lp id p' h2).1,h2⟩
 have kk:∀{id},id<h.n→(c.nw o).k id→c.k id:=fun hi q=>q.elim (fun q=>q) fun q=>by omega
 have lv:∀{id b'},id<h.n→Lv (c.nw o) id b'→Lv c id b':=fun hi q=>⟨kk hi q.1,q.2⟩
 refine⟨by show c.n+1=h.n+1;rw[hn],fun id q=>by show id<c.n+1;exact q.elim (fun q=>Nat.lt_succ_of_lt (hr.k id q)) fun q=>by omega,hr.q.alloc _,fun id b' hg=>?_,fun i j b' d hi hj hb' hd hij=>?_,fun id b' hg hc hbar=>?_,fun l p' hl=>?_,fun i j p' d hi hj ki kj hij=>?_⟩
 ·have h1:=(hr.blk id b' hg).1;refine⟨Nat.lt_succ_of_lt h1,fun hc=>?_⟩;rw[dP _ (by omega)];have:=(hr.blk id b' hg).2 (lv h1 hc);exact this.xt X (hold _ this.lt)
 ·have h1:=(hr.blk i b' hi).1;have h3:=(hr.blk j d hj).1;rw[dP _ (by omega),dP _ (by omega)];exact hr.inj i j b' d hi hj (lv h1 hb') (lv h3 hd) hij
 ·have h1:=(hr.blk id b' hg).1;rw[dP _ (by omega)];exact hr.new id b' hg (lv h1 hc) hbar
 ·rcases key l p' hl with⟨rfl,rfl⟩|⟨h1,h2⟩
  ·refine⟨Nat.lt_succ_self _,fun _=>?_⟩;rw[←hn,mK];exact⟨hp,fun _=>by omega⟩
  ·refine⟨Nat.lt_succ_of_lt h1,fun q=>?_⟩;rw[dP _ (by omega)];obtain⟨h3,h4⟩:=(hr.lp l p' h2).2 (kk h1 q);exact⟨h3.xt X (hold _ h3.lt),h4⟩
 ·rcases key i p' hi with⟨rfl,rfl⟩|⟨h1,h2⟩
  ·rcases key j d hj with⟨rfl,rfl⟩|⟨h3,h4⟩
   ·exact absurd rfl hij
   ·have:=((hr.lp j d h4).2 (kk h3 kj)).1.lt;rw[←hn,mK,dP _ (by omega)];omega
  ·have h5:=((hr.lp i p' h2).2 (kk h1 ki)).1.lt;rcases key j d hj with⟨rfl,rfl⟩|⟨h3,h4⟩
   ·rw[dP _ (by omega),←hn,mK];omega
   ·rw[dP _ (by omega),dP _ (by omega)];exact hr.li i j p' d h2 h4 (kk h1 ki) (kk h3 kj) hij
theorem aJy{g k:Nat}{s:ByteArray}{l:List Nat}(hg:c.w.heap[g]? =some (.stringIter s k))(hs:bytes s=l):LpR c (itL l k) g:=
 ⟨_,hg,fun _ _ _ e=>(by cases e),fun _ e=>(by cases e),fun e=>(by cases e),(fun l' k' e=>(by
  injection e with e;injection e with e1 e2;subst e1;subst e2;exact⟨s,rfl,hs⟩)),(fun l e=>(by cases e)),fun l e=>(by cases e)⟩
theorem run_next_at{P:Program}{w:World}{g pos:Nat}{s:ByteArray}(hg:w.heap[g]? =some (.stringIter s pos))(ty:TypeId)(h:pos<s.size)(ha:(s[pos]'h).toNat<128):
  (Instr.next (.pointer (some ⟨g,0,none⟩)) true ty).run P w=.ok (.tuple #[.bool true,.int .i64 pos,.int .i32 (s[pos]'h).toNat]) (w.putObj g (.stringIter s (pos+1))):=by
 simp only[Instr.next,getObj,setObj,Sem.run_bind,Sem.run,hg,Result.andThen,h,if_true,decode_ascii s pos h ha];simp[goInt,World.putObj]
theorem aAz{P:Program}{w:World}{g pos:Nat}{s:ByteArray}(hg:w.heap[g]? =some (.stringIter s pos))(ty:TypeId)(h:¬pos<s.size):(Instr.next (.pointer (some ⟨g,0,none⟩)) true ty).run P w=.ok (.tuple #[.bool false]) w:=by
 simp[Instr.next,getObj,Sem.run,hg,h]
theorem aN9{h:H}{at_:List Nat}{args:List AV}{args':List Value}{t2:TypeId}(hr:Rl c wb h)(hx:bi F h .cap at_ args=some (v,h'))(ha:VL c args args'):∃u w',(Builtin.cap_ at_.toArray t2 args'.toArray).run F.P c.w=.ok u w'∧Po c wb h' v u w':=by
 unfold bi at hx;dsimp only at hx;split at hx
 ·rename_i t x;obtain⟨i,h1,h2⟩:=aA.1 hx;obtain⟨s,rfl,h3⟩:=aI.1 h2;obtain⟨u,rfl,hu⟩:∃u,args'=[u]∧VR c (sc s) u:=by
   match args',ha with
   | [u],ha=>exact⟨u,rfl,ha.1⟩
  have hp:=aF.1 hu;split at h3
  ·rename_i el hd;have h4:=aN h3;injection h4 with h4 h5;subst h4;subst h5;cases hp;refine⟨.int .i64 0,c.w,?_,Po.same hr (aF.2 rfl)⟩;simp[Builtin.cap_,run_underlying (gB (aJ h1) hd),goInt]
  ·rename_i el id off n cp hd;have h4:=aN h3;injection h4 with h4 h5;subst h4;subst h5;obtain⟨-,rfl⟩:=hp;refine⟨.int .i64 (cp:Int),c.w,?_,Po.same hr (aF.2 rfl)⟩;simp[Builtin.cap_,run_underlying (gB (aJ h1) hd),goInt]
  ·cases h3
 ·cases hx
theorem aMt{h:H}{at_:List Nat}{args:List AV}{args':List Value}{t2:TypeId}(hr:Rl c wb h)(hx:bi F h .copy at_ args=some (v,h'))(ha:VL c args args'):∃u w',(Builtin.copy_ at_.toArray t2 args'.toArray).run F.P c.w=.ok u w'∧Po c wb h' v u w':=by
 unfold bi at hx;dsimp only at hx;split at hx
 ·rename_i t ats d x;obtain⟨i,h1,h2⟩:=aA.1 hx;obtain⟨el,h3,h4⟩:=aA.1 h2;obtain⟨j,h7,h8⟩:=aA.1 h4;obtain⟨s1,rfl,h9⟩:=aI.1 h8;obtain⟨s2,rfl,h10⟩:=aI.1 h9;obtain⟨p,q,rfl,hp,hq⟩:∃p q,args'=[p,q]∧SR c s1 p∧SR c s2 q:=by
   match args',ha with
   | [p,q],ha=>exact⟨p,q,rfl,aF.1 ha.1,aF.1 ha.2.1⟩
  obtain⟨m,h11,hm⟩:=mZ h10;obtain⟨n,h12,hn⟩:=mZ h11;have hu:=nH (aJ h1) h3;obtain⟨inf,dd,z,g1,g2,g3,g4,g5,g6,g7,g8⟩:=(aJ h7).ex;obtain⟨k,hk⟩:∃k,k=cb (Nat.ble m n) m n:=⟨_,rfl⟩
  have hkmin:k=Nat.min m n:=by
   rw[hk,aL];split
   ·rename_i h;exact (Nat.min_eq_left (bA.1 h)).symm
   ·rename_i h;have h2:¬m≤n:=fun e=>h (bA.2 e);exact (Nat.min_eq_right (by omega)).symm
  rw[←hk]at h12;obtain⟨l,h13,h14⟩:=aA.1 h12;have hz:sizeOf el=sizeOf el:=rfl
  --what is read
  have hrd:∃vs,CL c l vs∧vs.length=k*j.sz∧∀w,w=c.w→(Builtin.lenOf q).run F.P w=.ok m w∧(Builtin.firstCells inf.size k q).run F.P w=.ok vs.toArray w:=by
   rcases hm with⟨y,rfl⟩|⟨rfl,rfl⟩|⟨id,off,cap,rfl⟩
   ·cases h13
   ·have hq:q=.slice none 0 0:=hq;subst hq;injection h13 with h13;subst h13;have hk0:k=0:=(by rw[hkmin];exact Nat.min_eq_left (Nat.zero_le _));subst hk0;exact⟨[],trivial,by simp,fun w hw=>⟨by simp[Builtin.lenOf],by rw[run_firstCells_none]⟩⟩
   ·have hkn:c.k id:=by cases cap<;>exact hq.1
    obtain⟨vs,q1,q2,q3⟩:=xU hr hkn (show rd h id off (Nat.mul k j.sz)=some l from h13);obtain⟨o1,cp,rfl,-,-,ho⟩:=gD hq;refine⟨vs,q1,q2,fun w hw=>⟨by simp[Builtin.lenOf],?_⟩⟩;subst hw;refine run_firstCells_some (P:=F.P) c.w inf.size k ⟨c.r id,o1,none⟩ m cp vs (by rw[q2,g4];rfl) fun jj v hv=>?_;have hjj:=(List.getElem?_eq_some_iff.1 hv).1;have hk0:m≠0:=fun e=>by
     have:k=0:=(by rw[hkmin,e];exact Nat.min_eq_left (Nat.zero_le _));rw[q2,this]at hjj;change jj<0*j.sz at hjj;omega
    rw[ho (.inl hk0),add0];exact q3 jj v hv
  obtain⟨vs,hc,hl,hrd⟩:=hrd;obtain⟨hL,hR⟩:=hrd c.w rfl;have hmin:Nat.min m n=k:=hkmin.symm;split at h14
  ·rename_i id off n0 cap;have en:n0=n:=by
    rcases hn with⟨y,e⟩|⟨e,-⟩|⟨a1,a2,a3,e⟩
    ·cases e
    ·cases e
    ·injection e
   subst en;have hkn:c.k id:=by cases cap<;>exact hp.1
   obtain⟨o1,cp,rfl,-,-,ho⟩:=gD hp;rw[aL]at h14;split at h14
   ·rename_i hk0;have hk0:=aH.1 hk0;have h15:=aN h14;injection h15 with h15 h16;subst h15;subst h16;have hv0:vs=[]:=List.eq_nil_of_length_eq_zero (by rw[hl,hk0];simp);subst hv0;refine⟨.int .i64 0,c.w,?_,Po.same hr (aF.2 rfl)⟩;simp only[Builtin.copy_,List.getElem?_toArray,List.getElem?_cons_zero,List.getElem?_cons_succ,Sem.run_bind,run_underlying hu,Result.andThen_ok,hL,hmin,sizeOf,typeInfo,g1,Sem.run_pure,run_program,hR];simp[storeCells,goInt,hk0]
   ·rename_i hk0;have hk0:k≠0:=fun e=>hk0 (by rw[e];rfl);obtain⟨hs,h15⟩:=aB.1 h14;obtain⟨h2',k1,k2⟩:=aA.1 h15;have k2:=aN k2;injection k2 with k2 k3;subst k2;subst k3;have hs:0<j.sz:=aQ.1 hs;have hn0:n0≠0:=fun e=>hk0 (by rw[hkmin,e];exact Nat.min_eq_right (Nat.zero_le _));have ho:=ho (.inl hn0);subst ho;have hne:l≠[]:=fun e=>by
     have h5:=hc.len;rw[e]at h5;have h6:0<k*j.sz:=Nat.mul_pos (by omega) hs;simp at h5;rw[h5]at hl;simp at hl;omega
    obtain⟨dd,X,R,hst,-,-⟩:=aAL hr F.P hkn k1 hc hne;refine⟨.int .i64 (k:Int),dd.w,?_,dd,rfl,X,R,aF.2 rfl⟩;simp only[Builtin.copy_,List.getElem?_toArray,List.getElem?_cons_zero,List.getElem?_cons_succ,Sem.run_bind,run_underlying hu,Result.andThen_ok,hL,hmin,sizeOf,typeInfo,g1,Sem.run_pure,run_program,hR];simp[hst,goInt]
  ·have hk0:k=0:=by
    rcases hn with⟨y,e⟩|⟨-,e⟩|⟨a1,a2,a3,e⟩
    ·cases e
    ·rw[hkmin,e];exact Nat.min_eq_right (Nat.zero_le _)
    ·cases e
   have h15:=aN h14;injection h15 with h15 h16;subst h15;subst h16;have hp:p=.slice none 0 0:=hp;subst hp;refine⟨.int .i64 0,c.w,?_,Po.same hr (aF.2 rfl)⟩;simp only[Builtin.copy_,List.getElem?_toArray,List.getElem?_cons_zero,List.getElem?_cons_succ,Sem.run_bind,run_underlying hu,Result.andThen_ok,hL,sizeOf,typeInfo,g1,Sem.run_pure,run_program];have hmin0:Nat.min m 0=k:=(by rw[hk0];exact Nat.min_eq_right (Nat.zero_le _));rw[hmin0,hR];simp[goInt,hk0]
  ·cases h14
 ·cases hx
theorem aKy{h:H}{at_:List Nat}{args:List AV}{args':List Value}{t2:TypeId}(hr:Rl c wb h)(hx:bi F h .clear at_ args=some (v,h'))(ha:VL c args args'):∃u w',(Builtin.clear_ at_.toArray t2 args'.toArray).run F.P c.w=.ok u w'∧Po c wb h' v u w':=by
 unfold bi at hx;dsimp only at hx;split at hx
 ·rename_i t x;obtain⟨i,h1,h2⟩:=aA.1 hx;obtain⟨el,h3,h4⟩:=aA.1 h2;obtain⟨j,h7,h8⟩:=aA.1 h4;obtain⟨s,rfl,h9⟩:=aI.1 h8;obtain⟨p,rfl,hp⟩:∃p,args'=[p]∧SR c s p:=by
   match args',ha with
   | [p],ha=>exact⟨p,rfl,aF.1 ha.1⟩
  have hu:=nH (aJ h1) h3;obtain⟨inf,d,z,g1,g2,g3,g4,g5,g6,g7,g8⟩:=(aJ h7).ex;split at h9
  ·injection h9 with h9;injection h9 with h9 h10;subst h9;subst h10;have hp:p=.slice none 0 0:=hp;subst hp;exact⟨.tuple #[],c.w,by simp[Builtin.clear_,run_underlying hu],Po.same hr ⟨[],rfl,trivial⟩⟩
  ·rename_i id off n cap;have hk:c.k id:=by cases cap<;>exact hp.1
   obtain⟨o1,cp,rfl,-,-,ho⟩:=gD hp;rw[aL]at h9;split at h9
   ·rename_i hn;have hn:=aH.1 hn;subst hn;injection h9 with h9;injection h9 with h9 h10;subst h9;subst h10;exact⟨.tuple #[],c.w,by simp[Builtin.clear_,run_underlying hu],Po.same hr ⟨[],rfl,trivial⟩⟩
   ·rename_i hn;have hn:n≠0:=fun e=>hn (by rw[e];rfl);obtain⟨hs,h10⟩:=aB.1 h9;obtain⟨h2',k1,k2⟩:=aA.1 h10;injection k2 with k2;injection k2 with k2 k3;subst k2;subst k3;have ho:=ho (.inl hn);subst ho;obtain⟨m,rfl⟩:∃m,n=m+1:=⟨n-1,by omega⟩
    have hzc:CL c (iU j.ze (m+1)) (Builtin.zeroCells z.cells (m+1)).toList:=by
     show CL c (iU j.ze (m+1)) (madeCells z.cells ((m+1)*z.cells.size)).toList;rw[vI];exact qK (iD g7) (m+1)
    have hne:iU j.ze (m+1)≠[]:=fun e=>by
     have h5:=hzc.len;rw[e]at h5;have h6:0<j.sz:=aQ.1 hs;have hzs:z.cells.size=inf.size:=(by rw[←Array.length_toList,g8]);have h7:0<(m+1)*inf.size:=Nat.mul_pos (Nat.succ_pos m) (by omega);simp[Builtin.zeroCells,hzs]at h5;omega
    obtain⟨dd,X,R,hst,-,-⟩:=aAL hr F.P hk k1 hzc hne;refine⟨.tuple #[],dd.w,?_,dd,rfl,X,R,⟨[],rfl,trivial⟩⟩;simp[Builtin.clear_,run_underlying hu,typeInfo,zeroValue,g1,g6,hst]
  ·cases h9
 ·cases hx
end
end E
end Go.Proofs.YtamnpcdkcdfgaaaGreatDoor
