/- SpreadKnown holds. No condition. -/
import Derived.Deep.DeepHandedRow
import Derived.LaidMore
import Derived.Lay
import Derived.OpenShut
import Derived.ProofKit
import Derived.Test.YtciafpbehhmikaaGreatDoorCards
import Derived.Test.YtciafpbehhmikaaGreatDoorTie
import Derived.Test.YtciafpbehhmikaaGreatDoorQe17
set_option maxRecDepth 100000
namespace Go.Proofs.YtciafpbehhmikaaGreatDoor
open Go.RowKit Go.ChangeShapes Go.WideShapes Go.ChangeAt
open Ma Me
theorem own:ownKnob Tryz.prog.godebug=none:=by kernel_rfl
def kK:List (String × DataW Unit):=[("math/bits.deBruijn64tab",Rows.laid_math_bits_deBruijn64tab),("pentode/value.prefixes",Rows.laid_pentode_value_prefixes),("pentode/net.shapes",Rows.laid_pentode_net_shapes)]
theorem aJs:Rows.laid_math_bits_deBruijn64tab (H:=Unit)=.agg (Lib.deBruijn64tab.map fun (n:Nat)=>(DataW.lit (.int .u8 (n:Int)):DataW Unit)):=by kernel_rfl
theorem aMv{W:World}(h:laidMetH Tryz.prog kK W):Tb W:=by
 rw[MakeChecks.laidMetH_plain _ _ _ (by kernel_rfl)]at h;obtain⟨ps,⟨g,t,cs,fuel,p,q,hg,ht,hv,hd,_,_⟩,_,_⟩:=h;obtain rfl:=Option.some.inj ((show Tryz.prog.globalNamed "math/bits.deBruijn64tab"=some 1 by kernel_rfl).symm.trans hg);obtain⟨t',ht'⟩:∃t',(Tryz.prog.globals[(1:Nat)]?).map (·.type)=some t'∧(∃e,Tryz.prog.underlying t'=some (.array 64 e)∧Tryz.prog.cellsOf e=1∧Tryz.prog.underlying e=some (.int .u8)):=
  ⟨281,by kernel_rfl,⟨5,by kernel_rfl,by kernel_rfl,by kernel_rfl⟩⟩
 obtain⟨ht1,e,hu,c5,hue⟩:=ht';obtain rfl:=Option.some.inj (ht1.symm.trans ht);obtain⟨xs,m,_,ex,_,hl,hel⟩:=DataW.trod_array hu hd;intro r hr;have hlen:Lib.deBruijn64tab.length=64:=by kernel_rfl
 have hE:=hel r (by omega);rw[c5,Nat.mul_one,List.getElem?_eq_getElem (by omega)]at hE;obtain⟨z,e1,e2,_⟩:=DataW.trod_int hue hE;rw[aJs]at ex;have e3:=(DataW.agg.inj (Prod.mk.inj ex).1).symm;have e4:(xs.map (·.1))[r]? =(Lib.deBruijn64tab.map fun (n:Nat)=>(DataW.lit (.int .u8 (n:Int)):DataW Unit))[r]? :=by rw[e3]
 rw[List.getElem?_map,List.getElem?_map,List.getElem?_eq_getElem (by omega:r<xs.length),List.getElem?_eq_getElem hr,e2]at e4;have hz:z=((Lib.deBruijn64tab.getD r 0:Nat):Int):=by
  simp only[Option.map_some,Option.some.injEq,DataW.lit.injEq,Lit.int.injEq,true_and]at e4;rw[e4,List.getD,List.getElem?_eq_getElem hr];rfl
 rw[World.var?_cell hg hv r,←hz];have:cs.toList[r]? =some (.int .u8 z):=by
  have h0:((cs.toList.drop r).take 1)[0]? =some (.int .u8 z):=(by rw[e1];rfl);simpa using h0
 simpa using this
theorem aJt:Rows.laid_pentode_value_prefixes (H:=Unit)=.agg ((List.range 10).map fun k=>.agg [.lit (.string (letter k)),.lit (.int .i64 (dR k))]):=by kernel_rfl
theorem aCU(k:Nat)(hk:k<10):gY.toList[k*2]? =some (.string (eQ k))∧gY.toList[k*2+1]? =some (.int .i64 (dR k)):=by
 rcases (by omega:k=0∨k=1∨k=2∨k=3∨k=4∨k=5∨k=6∨k=7∨k=8∨k=9) with h|h|h|h|h|h|h|h|h|h<;>subst h<;>exact⟨rfl,rfl⟩
theorem aMw{W:World}(h:laidMetH Tryz.prog kK W):Px W:=by
 rw[MakeChecks.laidMetH_plain _ _ _ (by kernel_rfl)]at h;obtain⟨ps,⟨_,_,_,_,_,_,_,_,_,_,⟨g,t,cs,fuel,p,q,hg,ht,hv,hd,_,_⟩,_⟩,_,_⟩:=h;obtain rfl:=Option.some.inj ((show Tryz.prog.globalNamed "pentode/value.prefixes"=some 5 by kernel_rfl).symm.trans hg);obtain rfl:=Option.some.inj ((show (Tryz.prog.globals[(5:Nat)]?).map (·.type)=some 342 by kernel_rfl).symm.trans ht);obtain⟨f0,f1,hu2,hf0,hf1,ho0,ho1,hc0,hc1⟩:∃f0 f1:Field,Tryz.prog.underlying 341=some (.struct #[f0,f1])∧Tryz.prog.underlying f0.type=some .string∧Tryz.prog.underlying f1.type=some (.int .i64)∧f0.offset=0∧f1.offset=1∧Tryz.prog.cellsOf f0.type=1∧Tryz.prog.cellsOf f1.type=1:=
  ⟨_,_,rfl,by kernel_rfl,by kernel_rfl,by kernel_rfl,by kernel_rfl,by kernel_rfl,by kernel_rfl⟩
 have hu:Tryz.prog.underlying 342=some (.array 10 341):=by kernel_rfl
 have c2:Tryz.prog.cellsOf 341=2:=by kernel_rfl
 have c20:Tryz.prog.cellsOf 342=20:=by kernel_rfl
 obtain⟨xs,m,_,ex,hcl,hl,hel⟩:=DataW.trod_array hu hd;rw[aJt]at ex;have e3:=(DataW.agg.inj (Prod.mk.inj ex).1).symm;have key:∀k,k<10→cs.toList[k*2]? =some (.string (eQ k))∧cs.toList[k*2+1]? =some (.int .i64 (dR k)):=by
  intro k hk;have hE:=hel k hk;rw[c2,List.getElem?_eq_getElem (by omega)]at hE;obtain⟨y0,y1,n,e5,_,h0,h1⟩:=trod_struct2 hu2 hE;rw[ho0,hc0]at h0;rw[ho1,hc1]at h1;obtain⟨s,a1,a2,_⟩:=DataW.trod_string hf0 h0;obtain⟨z,b1,b2,_⟩:=DataW.trod_int hf1 h1;have e4:(xs.map (·.1))[k]? =((List.range 10).map fun k=>(DataW.agg [.lit (.string (letter k)),.lit (.int .i64 (dR k))]:DataW Unit))[k]? :=(by rw[e3]);rw[List.getElem?_map,List.getElem?_map,List.getElem?_eq_getElem (by omega:k<xs.length),List.getElem?_eq_getElem (by simpa using hk),e5,a2,b2]at e4;simp only[Option.map_some,Option.some.injEq,DataW.agg.injEq,List.cons.injEq,DataW.lit.injEq,Lit.string.injEq,Lit.int.injEq,true_and,and_true,List.getElem_range]at e4;obtain⟨e6,e7⟩:=e4;have hs:s=eQ k:=by
   unfold eQ;rw[←e6]
  constructor
  ·have h2:(((((cs.toList.drop (k*2)).take 2).drop 0).take 1))[0]? =some (.string s):=(by rw[a1];rfl);rw[←hs];simpa [List.getElem?_take,List.getElem?_drop] using h2
  ·have h2:(((((cs.toList.drop (k*2)).take 2).drop 1).take 1))[0]? =some (.int .i64 z):=(by rw[b1];rfl);rw[←e7];simpa [List.getElem?_take,List.getElem?_drop] using h2
 have hcs:cs=gY:=by
  apply Array.ext';apply List.ext_getElem?;intro j;by_cases hj:j<20
  ·obtain⟨k,hk,h2⟩:∃k,k<10∧(j=k*2∨j=k*2+1):=⟨j/2,by omega,by omega⟩
   rcases h2 with rfl|rfl
   ·rw[(key k hk).1,(aCU k hk).1]
   ·rw[(key k hk).2,(aCU k hk).2]
  ·rw[c20]at hcl;rw[List.getElem?_eq_none (by omega),List.getElem?_eq_none (by have:gY.toList.length=20:=rfl;omega)]
 simp only[World.var?,hg,Option.bind_some]at hv;unfold Px;split at hv
 ·rename_i c t fr hh;injection hv with hv;subst hv;rw[←hcs];exact⟨t,fr,hh⟩
 ·cases hv
def yK(v:Value):DataW Unit:=match v with| .string s=>.lit (.string s.data.toList)| .int k n=>.lit (.int k n)| .bool b=>.lit (.bool b)|_=>.nil
def aBJ(d:Option TypeDesc):Bool:=match d with|some .string=>true|some (.int _)=>true|some .bool=>true|_=>false
def xD(v:Value):Bool:=match v with| .string _=>true| .int _ _=>true| .bool _=>true|_=>false
theorem aHl{u v:Value}(hu:xD u=true)(hv:xD v=true)(h:yK u=yK v):u=v:=by
 cases u<;>first|cases hu|skip
 all_goals cases v<;>first|cases hv|skip
 all_goals first|cases h|skip
 ·rfl
 ·rfl
 ·rename_i s t;have h2:s.data.toList=t.data.toList:=(by injection h with h;injection h);congr 1;exact ByteArray.ext (Array.toList_inj.1 h2)
theorem aJu{P:Program}{enc:TypeId × Value→Unit}{w:World}{base fuel:Nat}{spare:Nat→Bool}{held:Bool}{t:TypeId}{cs:List Value}{x:DataW Unit × List MemPlace}(ht:aBJ (P.underlying t)=true)(h:DataW.trod enc P w base spare held fuel t cs=some x):∃v,cs=[v]∧x.1=yK v∧xD v=true:=by
 cases hu:P.underlying t with
 |none=>rw[hu]at ht;cases ht
 |some d=>
  rw[hu]at ht;cases d<;>first|cases ht|skip
  ·obtain⟨b,rfl,rfl⟩:=DataW.trod_bool hu h;exact⟨_,rfl,rfl,rfl⟩
  ·obtain⟨n,rfl,rfl,-⟩:=DataW.trod_int hu h;exact⟨_,rfl,rfl,rfl⟩
  ·obtain⟨s,rfl,rfl,-⟩:=DataW.trod_string hu h;exact⟨_,rfl,rfl,rfl⟩
theorem aJv:Rows.laid_pentode_net_shapes (H:=Unit)=.agg ((List.range 14).map fun k=>.agg ((List.range 8).map fun i=>yK (E.shaV.getD (k*8+i) .nilFunc))):=by kernel_rfl
theorem aHm:((List.range 112).all fun j=>xD (E.shaV.getD j .nilFunc))=true:=by kernel_rfl
theorem aFK:(match Tryz.prog.underlying 188 with|some (.struct fs)=>fs.size == 8 && (List.range 8).all fun i=>(match fs[i]? with|some f=>f.offset == i && (Tryz.prog.cellsOf f.type == 1 && aBJ (Tryz.prog.underlying f.type))|none=>false)|_=>false)=true:=by kernel_rfl
theorem aMx{W:World}(h:laidMetH Tryz.prog kK W):E.Sh W:=by
 rw[MakeChecks.laidMetH_plain _ _ _ (by kernel_rfl)]at h;obtain⟨ps,⟨_,_,_,_,_,_,_,_,_,_,⟨_,_,_,_,_,_,_,_,_,_,⟨g,t,cs,fuel,p,q,hg,ht,hv,hd,_,_⟩,_⟩,_⟩,_,_⟩:=h;obtain rfl:=Option.some.inj ((show Tryz.prog.globalNamed "pentode/net.shapes"=some 0 by kernel_rfl).symm.trans hg);obtain rfl:=Option.some.inj ((show (Tryz.prog.globals[(0:Nat)]?).map (·.type)=some 189 by kernel_rfl).symm.trans ht);have hu:Tryz.prog.underlying 189=some (.array 14 188):=by kernel_rfl
 have c8:Tryz.prog.cellsOf 188=8:=by kernel_rfl
 have c112:Tryz.prog.cellsOf 189=112:=by kernel_rfl
 obtain⟨fs,hfs,hf⟩:∃fs,Tryz.prog.underlying 188=some (.struct fs)∧(fs.size == 8 && (List.range 8).all fun i=>(match fs[i]? with|some f=>f.offset == i && (Tryz.prog.cellsOf f.type == 1 && aBJ (Tryz.prog.underlying f.type))|none=>false))=true:=by
  have h:=aFK;split at h
  ·rename_i fs hfs;exact⟨fs,hfs,h⟩
  ·cases h
 obtain⟨-,hf⟩:=(Bool.and_eq_true _ _).mp hf;obtain⟨xs,m,_,ex,hcl,hl,hel⟩:=DataW.trod_array hu hd;rw[aJv]at ex;have e3:=(DataW.agg.inj (Prod.mk.inj ex).1).symm;have key:∀k i,k<14→i<8→cs.toList[k*8+i]? =some (E.shaV.getD (k*8+i) .nilFunc):=by
  intro k i hk hi;have hE:=hel k hk;rw[c8,List.getElem?_eq_getElem (by omega)]at hE;obtain⟨zs,n,_,e5,_,hzl,h0⟩:=DataW.trod_struct hfs hE;have hfi:=List.all_eq_true.1 hf i (by simpa using hi);split at hfi
  ·rename_i f hff;obtain⟨f1,f2⟩:=(Bool.and_eq_true _ _).mp hfi;obtain⟨f3,f4⟩:=(Bool.and_eq_true _ _).mp f2;have f1:f.offset=i:=(by simpa using f1);have f3:Tryz.prog.cellsOf f.type=1:=(by simpa using f3);have h1:=h0 i f hff;rw[f1,f3]at h1;have hiz:i<zs.length:=by
    have:=(Array.getElem?_eq_some_iff.1 hff).1;omega
   rw[List.getElem?_eq_getElem hiz]at h1;obtain⟨v,v1,v2,v3⟩:=aJu f4 h1;have e4:(xs.map (·.1))[k]? =((List.range 14).map fun k=>(DataW.agg ((List.range 8).map fun i=>yK (E.shaV.getD (k*8+i) .nilFunc)):DataW Unit))[k]? :=(by rw[e3]);rw[List.getElem?_map,List.getElem?_map,List.getElem?_eq_getElem (by omega:k<xs.length),List.getElem?_eq_getElem (by simpa using hk),e5]at e4;simp only[Option.map_some,Option.some.injEq,DataW.agg.injEq,List.getElem_range]at e4;have e6:(zs.map (·.1))[i]? =((List.range 8).map fun i=>yK (E.shaV.getD (k*8+i) .nilFunc))[i]? :=(by rw[e4]);rw[List.getElem?_map,List.getElem?_map,List.getElem?_eq_getElem hiz,List.getElem?_eq_getElem (by simpa using hi)]at e6;simp only[Option.map_some,Option.some.injEq,List.getElem_range,v2]at e6;have hp:=List.all_eq_true.1 aHm (k*8+i) (by simp;omega);have hv:=aHl v3 hp e6;have h2:(((((cs.toList.drop (k*8)).take 8).drop i).take 1))[0]? =some v:=(by rw[v1];rfl);rw[←hv];simpa [List.getElem?_take,List.getElem?_drop,hi] using h2
  ·cases hfi
 have hcs:cs=E.shaV.toArray:=by
  apply Array.ext';apply List.ext_getElem?;intro j;have hlen:E.shaV.length=112:=(by kernel_rfl);by_cases hj:j<112
  ·have h1:=key (j/8) (j % 8) (by omega) (by omega);rw[show j/8*8+j % 8=j by omega]at h1;rw[h1];show _=E.shaV[j]?;rw[List.getD,List.getElem?_eq_getElem (by omega)];rfl
  ·rw[c112]at hcl;rw[List.getElem?_eq_none (by omega),List.getElem?_eq_none (by show E.shaV.length≤j;omega)]
 simp only[World.var?,hg,Option.bind_some]at hv;unfold E.Sh;split at hv
 ·rename_i c t fr hh;injection hv with hv;subst hv;rw[←hcs];exact⟨t,fr,hh⟩
 ·cases hv
theorem zN{H:Type}{enc:TypeId × Value→H}{P:Program}{f:Func}{s:ChangeSpec}{apart fresh handsOn again:Bool}{W W':World}{args:Array Value}{v:Value}{ds gs:List (DataW H)}(hW:DataW.Whole enc P f.params.toList s.vars apart W args.toList ds gs [])(hres:∀(b:Nat) (sp:Nat→Bool) (hd:Bool),DataW.TrodAll enc P W' b sp hd f.resultTypes.toList (v.resultList f.resultTypes.size) (s.fn H (ds++gs)).results [])(hargs:∀sp:Nat→Bool,DataW.TrodAll enc P W' 0 sp true f.params.toList args.toList (s.fn H (ds++gs)).args [])(hvars:∀sp:Nat→Bool,DataW.TrodVars enc P W' sp s.vars (s.fn H (ds++gs)).vars [])(hk:W.keptBut W' (·∈([]:List MemPlace)))(hok:∀(j:Nat) (t:TypeId) (r:Value),f.resultTypes[j]? =some t→(v.resultList f.resultTypes.size)[j]? =some r→Value.okWide P W' .any 0 t r):
  s.post enc P f apart fresh handsOn again W args v W':=by
 refine⟨ds,gs,[],[],[],[],hW,hres _ _ _,hargs _,hvars _,World.keptBut_mono (fun p hp=>by cases hp) hk,fun _=>?_⟩;refine⟨hok,_,_,([]++[])++[],⟨[]++[],[],trodAll_append (hargs _) (hres _ _ _),hvars _,rfl,?_,?_⟩,?_⟩
 ·intro b off hp;simp at hp
 ·intro _;simp
 ·intro p hp _;simp at hp
end Go.Proofs.YtciafpbehhmikaaGreatDoor
