/- SymbolKnown holds. No condition. -/
import Derived.Deep.DeepHandedRow
import Derived.Deep.Strs
import Derived.LaidMore
import Derived.Lay
import Derived.OpenShut
import Derived.ProofKit
import Derived.Test.YtamnpcdkcdfgaaaGreatDoorCards
import Derived.Test.YtamnpcdkcdfgaaaGreatDoorTie
import Derived.Test.YtamnpcdkcdfgaaaGreatDoorQs19
set_option maxRecDepth 100000
namespace Go.Proofs.YtamnpcdkcdfgaaaGreatDoor
section
open Go.RowKit Go.ChangeShapes Go.WideShapes Go.ChangeAt
open Ma Me
theorem own:ownKnob Tryz.prog.godebug=none:=by kernel_rfl
def kK:List (String × DataW Unit):=[("math/bits.deBruijn64tab",Rows.laid_math_bits_deBruijn64tab),("pentode/value.prefixes",Rows.laid_pentode_value_prefixes),("pentode/net.shapes",Rows.laid_pentode_net_shapes),("pentode/symbol.descriptions",Rows.laid_pentode_symbol_descriptions)]
theorem aLw:Rows.laid_math_bits_deBruijn64tab (H:=Unit)=.agg (Lib.deBruijn64tab.map fun (n:Nat)=>(DataW.lit (.int .u8 (n:Int)):DataW Unit)):=by kernel_rfl
theorem aO0{W:World}(h:laidMetH Tryz.prog kK W):Tb W:=by
 rw[MakeChecks.laidMetH_plain _ _ _ (by kernel_rfl)]at h;obtain⟨ps,⟨g,t,cs,fuel,p,q,hg,ht,hv,hd,_,_⟩,_,_⟩:=h;obtain rfl:=Option.some.inj ((show Tryz.prog.globalNamed "math/bits.deBruijn64tab"=some 5 by kernel_rfl).symm.trans hg);obtain⟨t',ht'⟩:∃t',(Tryz.prog.globals[(5:Nat)]?).map (·.type)=some t'∧(∃e,Tryz.prog.underlying t'=some (.array 64 e)∧Tryz.prog.cellsOf e=1∧Tryz.prog.underlying e=some (.int .u8)):=
  ⟨449,by kernel_rfl,⟨5,by kernel_rfl,by kernel_rfl,by kernel_rfl⟩⟩
 obtain⟨ht1,e,hu,c5,hue⟩:=ht';obtain rfl:=Option.some.inj (ht1.symm.trans ht);obtain⟨xs,m,_,ex,_,hl,hel⟩:=DataW.trod_array hu hd;intro r hr;have hlen:Lib.deBruijn64tab.length=64:=by kernel_rfl
 have hE:=hel r (by omega);rw[c5,Nat.mul_one,List.getElem?_eq_getElem (by omega)]at hE;obtain⟨z,e1,e2,_⟩:=DataW.trod_int hue hE;rw[aLw]at ex;have e3:=(DataW.agg.inj (Prod.mk.inj ex).1).symm;have e4:(xs.map (·.1))[r]? =(Lib.deBruijn64tab.map fun (n:Nat)=>(DataW.lit (.int .u8 (n:Int)):DataW Unit))[r]? :=by rw[e3]
 rw[List.getElem?_map,List.getElem?_map,List.getElem?_eq_getElem (by omega:r<xs.length),List.getElem?_eq_getElem hr,e2]at e4;have hz:z=((Lib.deBruijn64tab.getD r 0:Nat):Int):=by
  simp only[Option.map_some,Option.some.injEq,DataW.lit.injEq,Lit.int.injEq,true_and]at e4;rw[e4,List.getD,List.getElem?_eq_getElem hr];rfl
 rw[World.var?_cell hg hv r,←hz];have:cs.toList[r]? =some (.int .u8 z):=by
  have h0:((cs.toList.drop r).take 1)[0]? =some (.int .u8 z):=(by rw[e1];rfl);simpa using h0
 simpa using this
theorem aLx:Rows.laid_pentode_value_prefixes (H:=Unit)=.agg ((List.range 10).map fun k=>.agg [.lit (.string (letter k)),.lit (.int .i64 (dX k))]):=by kernel_rfl
theorem aEd(k:Nat)(hk:k<10):iP.toList[k*2]? =some (.string (eU k))∧iP.toList[k*2+1]? =some (.int .i64 (dX k)):=by
 rcases (by omega:k=0∨k=1∨k=2∨k=3∨k=4∨k=5∨k=6∨k=7∨k=8∨k=9) with h|h|h|h|h|h|h|h|h|h<;>subst h<;>exact⟨rfl,rfl⟩
theorem aO1{W:World}(h:laidMetH Tryz.prog kK W):Px W:=by
 rw[MakeChecks.laidMetH_plain _ _ _ (by kernel_rfl)]at h;obtain⟨ps,⟨_,_,_,_,_,_,_,_,_,_,⟨g,t,cs,fuel,p,q,hg,ht,hv,hd,_,_⟩,_⟩,_,_⟩:=h;obtain rfl:=Option.some.inj ((show Tryz.prog.globalNamed "pentode/value.prefixes"=some 6 by kernel_rfl).symm.trans hg);obtain rfl:=Option.some.inj ((show (Tryz.prog.globals[(6:Nat)]?).map (·.type)=some 469 by kernel_rfl).symm.trans ht);obtain⟨f0,f1,hu2,hf0,hf1,ho0,ho1,hc0,hc1⟩:∃f0 f1:Field,Tryz.prog.underlying 468=some (.struct #[f0,f1])∧Tryz.prog.underlying f0.type=some .string∧Tryz.prog.underlying f1.type=some (.int .i64)∧f0.offset=0∧f1.offset=1∧Tryz.prog.cellsOf f0.type=1∧Tryz.prog.cellsOf f1.type=1:=
  ⟨_,_,rfl,by kernel_rfl,by kernel_rfl,by kernel_rfl,by kernel_rfl,by kernel_rfl,by kernel_rfl⟩
 have hu:Tryz.prog.underlying 469=some (.array 10 468):=by kernel_rfl
 have c2:Tryz.prog.cellsOf 468=2:=by kernel_rfl
 have c20:Tryz.prog.cellsOf 469=20:=by kernel_rfl
 obtain⟨xs,m,_,ex,hcl,hl,hel⟩:=DataW.trod_array hu hd;rw[aLx]at ex;have e3:=(DataW.agg.inj (Prod.mk.inj ex).1).symm;have key:∀k,k<10→cs.toList[k*2]? =some (.string (eU k))∧cs.toList[k*2+1]? =some (.int .i64 (dX k)):=by
  intro k hk;have hE:=hel k hk;rw[c2,List.getElem?_eq_getElem (by omega)]at hE;obtain⟨y0,y1,n,e5,_,h0,h1⟩:=trod_struct2 hu2 hE;rw[ho0,hc0]at h0;rw[ho1,hc1]at h1;obtain⟨s,a1,a2,_⟩:=DataW.trod_string hf0 h0;obtain⟨z,b1,b2,_⟩:=DataW.trod_int hf1 h1;have e4:(xs.map (·.1))[k]? =((List.range 10).map fun k=>(DataW.agg [.lit (.string (letter k)),.lit (.int .i64 (dX k))]:DataW Unit))[k]? :=(by rw[e3]);rw[List.getElem?_map,List.getElem?_map,List.getElem?_eq_getElem (by omega:k<xs.length),List.getElem?_eq_getElem (by simpa using hk),e5,a2,b2]at e4;simp only[Option.map_some,Option.some.injEq,DataW.agg.injEq,List.cons.injEq,DataW.lit.injEq,Lit.string.injEq,Lit.int.injEq,true_and,and_true,List.getElem_range]at e4;obtain⟨e6,e7⟩:=e4;have hs:s=eU k:=by
   unfold eU;rw[←e6]
  constructor
  ·have h2:(((((cs.toList.drop (k*2)).take 2).drop 0).take 1))[0]? =some (.string s):=(by rw[a1];rfl);rw[←hs];simpa [List.getElem?_take,List.getElem?_drop] using h2
  ·have h2:(((((cs.toList.drop (k*2)).take 2).drop 1).take 1))[0]? =some (.int .i64 z):=(by rw[b1];rfl);rw[←e7];simpa [List.getElem?_take,List.getElem?_drop] using h2
 have hcs:cs=iP:=by
  apply Array.ext';apply List.ext_getElem?;intro j;by_cases hj:j<20
  ·obtain⟨k,hk,h2⟩:∃k,k<10∧(j=k*2∨j=k*2+1):=⟨j/2,by omega,by omega⟩
   rcases h2 with rfl|rfl
   ·rw[(key k hk).1,(aEd k hk).1]
   ·rw[(key k hk).2,(aEd k hk).2]
  ·rw[c20]at hcl;rw[List.getElem?_eq_none (by omega),List.getElem?_eq_none (by have:iP.toList.length=20:=rfl;omega)]
 simp only[World.var?,hg,Option.bind_some]at hv;unfold Px;split at hv
 ·rename_i c t fr hh;injection hv with hv;subst hv;rw[←hcs];exact⟨t,fr,hh⟩
 ·cases hv
def gW(v:Value):DataW Unit:=match v with| .string s=>.lit (.string s.data.toList)| .int k n=>.lit (.int k n)| .bool b=>.lit (.bool b)|_=>.nil
def qX(d:Option TypeDesc):Bool:=match d with|some .string=>true|some (.int _)=>true|some .bool=>true|_=>false
def mG(v:Value):Bool:=match v with| .string _=>true| .int _ _=>true| .bool _=>true|_=>false
theorem lC{u v:Value}(hu:mG u=true)(hv:mG v=true)(h:gW u=gW v):u=v:=by
 cases u<;>first|cases hu|skip
 all_goals cases v<;>first|cases hv|skip
 all_goals first|cases h|skip
 ·rfl
 ·rfl
 ·rename_i s t;have h2:s.data.toList=t.data.toList:=(by injection h with h;injection h);congr 1;exact ByteArray.ext (Array.toList_inj.1 h2)
theorem vX{P:Program}{enc:TypeId × Value→Unit}{w:World}{base fuel:Nat}{spare:Nat→Bool}{held:Bool}{t:TypeId}{cs:List Value}{x:DataW Unit × List MemPlace}(ht:qX (P.underlying t)=true)(h:DataW.trod enc P w base spare held fuel t cs=some x):∃v,cs=[v]∧x.1=gW v∧mG v=true:=by
 cases hu:P.underlying t with
 |none=>rw[hu]at ht;cases ht
 |some d=>
  rw[hu]at ht;cases d<;>first|cases ht|skip
  ·obtain⟨b,rfl,rfl⟩:=DataW.trod_bool hu h;exact⟨_,rfl,rfl,rfl⟩
  ·obtain⟨n,rfl,rfl,-⟩:=DataW.trod_int hu h;exact⟨_,rfl,rfl,rfl⟩
  ·obtain⟨s,rfl,rfl,-⟩:=DataW.trod_string hu h;exact⟨_,rfl,rfl,rfl⟩
theorem aLy:Rows.laid_pentode_net_shapes (H:=Unit)=.agg ((List.range 14).map fun k=>.agg ((List.range 8).map fun i=>gW (E.shaV.getD (k*8+i) .nilFunc))):=by kernel_rfl
theorem aJh:((List.range 112).all fun j=>mG (E.shaV.getD j .nilFunc))=true:=by kernel_rfl
theorem aHy:(match Tryz.prog.underlying 311 with|some (.struct fs)=>fs.size == 8 && (List.range 8).all fun i=>(match fs[i]? with|some f=>f.offset == i && (Tryz.prog.cellsOf f.type == 1 && qX (Tryz.prog.underlying f.type))|none=>false)|_=>false)=true:=by kernel_rfl
theorem aO2{W:World}(h:laidMetH Tryz.prog kK W):E.Sh W:=by
 rw[MakeChecks.laidMetH_plain _ _ _ (by kernel_rfl)]at h;obtain⟨ps,⟨_,_,_,_,_,_,_,_,_,_,⟨_,_,_,_,_,_,_,_,_,_,⟨g,t,cs,fuel,p,q,hg,ht,hv,hd,_,_⟩,_⟩,_⟩,_,_⟩:=h;obtain rfl:=Option.some.inj ((show Tryz.prog.globalNamed "pentode/net.shapes"=some 1 by kernel_rfl).symm.trans hg);obtain rfl:=Option.some.inj ((show (Tryz.prog.globals[(1:Nat)]?).map (·.type)=some 312 by kernel_rfl).symm.trans ht);have hu:Tryz.prog.underlying 312=some (.array 14 311):=by kernel_rfl
 have c8:Tryz.prog.cellsOf 311=8:=by kernel_rfl
 have c112:Tryz.prog.cellsOf 312=112:=by kernel_rfl
 obtain⟨fs,hfs,hf⟩:∃fs,Tryz.prog.underlying 311=some (.struct fs)∧(fs.size == 8 && (List.range 8).all fun i=>(match fs[i]? with|some f=>f.offset == i && (Tryz.prog.cellsOf f.type == 1 && qX (Tryz.prog.underlying f.type))|none=>false))=true:=by
  have h:=aHy;split at h
  ·rename_i fs hfs;exact⟨fs,hfs,h⟩
  ·cases h
 obtain⟨-,hf⟩:=(Bool.and_eq_true _ _).mp hf;obtain⟨xs,m,_,ex,hcl,hl,hel⟩:=DataW.trod_array hu hd;rw[aLy]at ex;have e3:=(DataW.agg.inj (Prod.mk.inj ex).1).symm;have key:∀k i,k<14→i<8→cs.toList[k*8+i]? =some (E.shaV.getD (k*8+i) .nilFunc):=by
  intro k i hk hi;have hE:=hel k hk;rw[c8,List.getElem?_eq_getElem (by omega)]at hE;obtain⟨zs,n,_,e5,_,hzl,h0⟩:=DataW.trod_struct hfs hE;have hfi:=List.all_eq_true.1 hf i (by simpa using hi);split at hfi
  ·rename_i f hff;obtain⟨f1,f2⟩:=(Bool.and_eq_true _ _).mp hfi;obtain⟨f3,f4⟩:=(Bool.and_eq_true _ _).mp f2;have f1:f.offset=i:=(by simpa using f1);have f3:Tryz.prog.cellsOf f.type=1:=(by simpa using f3);have h1:=h0 i f hff;rw[f1,f3]at h1;have hiz:i<zs.length:=by
    have:=(Array.getElem?_eq_some_iff.1 hff).1;omega
   rw[List.getElem?_eq_getElem hiz]at h1;obtain⟨v,v1,v2,v3⟩:=vX f4 h1;have e4:(xs.map (·.1))[k]? =((List.range 14).map fun k=>(DataW.agg ((List.range 8).map fun i=>gW (E.shaV.getD (k*8+i) .nilFunc)):DataW Unit))[k]? :=(by rw[e3]);rw[List.getElem?_map,List.getElem?_map,List.getElem?_eq_getElem (by omega:k<xs.length),List.getElem?_eq_getElem (by simpa using hk),e5]at e4;simp only[Option.map_some,Option.some.injEq,DataW.agg.injEq,List.getElem_range]at e4;have e6:(zs.map (·.1))[i]? =((List.range 8).map fun i=>gW (E.shaV.getD (k*8+i) .nilFunc))[i]? :=(by rw[e4]);rw[List.getElem?_map,List.getElem?_map,List.getElem?_eq_getElem hiz,List.getElem?_eq_getElem (by simpa using hi)]at e6;simp only[Option.map_some,Option.some.injEq,List.getElem_range,v2]at e6;have hp:=List.all_eq_true.1 aJh (k*8+i) (by simp;omega);have hv:=lC v3 hp e6;have h2:(((((cs.toList.drop (k*8)).take 8).drop i).take 1))[0]? =some v:=(by rw[v1];rfl);rw[←hv];simpa [List.getElem?_take,List.getElem?_drop,hi] using h2
  ·cases hfi
 have hcs:cs=E.shaV.toArray:=by
  apply Array.ext';apply List.ext_getElem?;intro j;have hlen:E.shaV.length=112:=(by kernel_rfl);by_cases hj:j<112
  ·have h1:=key (j/8) (j % 8) (by omega) (by omega);rw[show j/8*8+j % 8=j by omega]at h1;rw[h1];show _=E.shaV[j]?;rw[List.getD,List.getElem?_eq_getElem (by omega)];rfl
  ·rw[c112]at hcl;rw[List.getElem?_eq_none (by omega),List.getElem?_eq_none (by show E.shaV.length≤j;omega)]
 simp only[World.var?,hg,Option.bind_some]at hv;unfold E.Sh;split at hv
 ·rename_i c t fr hh;injection hv with hv;subst hv;rw[←hcs];exact⟨t,fr,hh⟩
 ·cases hv
theorem aLz:Rows.laid_pentode_symbol_descriptions (H:=Unit)=.agg ((List.range 7).map fun k=>.agg [.agg [gW (E.desV.getD (k*5) .nilFunc),gW (E.desV.getD (k*5+1) .nilFunc)],.agg [gW (E.desV.getD (k*5+2) .nilFunc),gW (E.desV.getD (k*5+3) .nilFunc)],gW (E.desV.getD (k*5+4) .nilFunc)]):=by kernel_rfl
theorem aJi:((List.range 35).all fun j=>mG (E.desV.getD j .nilFunc))=true:=by kernel_rfl
theorem aNU{P:Program}{enc:TypeId × Value→Unit}{w:World}{base fuel:Nat}{spare:Nat→Bool}{held:Bool}{t e:TypeId}{cs:List Value}{x:DataW Unit × List MemPlace}(hu:P.underlying t=some (.array 2 e))(he:qX (P.underlying e)=true)(hc:P.cellsOf e=1)
  (h:DataW.trod enc P w base spare held fuel t cs=some x):∃u v,cs[0]? =some u∧cs[1]? =some v∧x.1=.agg [gW u,gW v]∧mG u=true∧mG v=true:=by
 obtain⟨xs,m,_,rfl,hcl,hl,hel⟩:=DataW.trod_array hu h
 match xs,hl with
 | [y0,y1],_=>
   have h0:=hel 0 (by omega);have h1:=hel 1 (by omega);rw[hc]at h0 h1;obtain⟨u,u1,u2,u3⟩:=vX (x:=y0) he h0;obtain⟨v,v1,v2,v3⟩:=vX (x:=y1) he h1;refine⟨u,v,?_,?_,?_,u3,v3⟩
   ·have:((cs.drop (0*1)).take 1)[0]? =some u:=(by rw[u1];rfl);simpa using this
   ·have:((cs.drop (1*1)).take 1)[0]? =some v:=(by rw[v1];rfl);simpa using this
   ·show DataW.agg [y0.1,y1.1]=_;rw[u2,v2]
theorem aO3{W:World}(h:laidMetH Tryz.prog kK W):E.Ds W:=by
 rw[MakeChecks.laidMetH_plain _ _ _ (by kernel_rfl)]at h;obtain⟨ps,⟨_,_,_,_,_,_,_,_,_,_,⟨_,_,_,_,_,_,_,_,_,_,⟨_,_,_,_,_,_,_,_,_,_,⟨g,t,cs,fuel,p,q,hg,ht,hv,hd,_,_⟩,_⟩,_⟩,_⟩,_,_⟩:=h;obtain rfl:=Option.some.inj ((show Tryz.prog.globalNamed "pentode/symbol.descriptions"=some 0 by kernel_rfl).symm.trans hg);obtain rfl:=Option.some.inj ((show (Tryz.prog.globals[(0:Nat)]?).map (·.type)=some 236 by kernel_rfl).symm.trans ht);obtain⟨f0,f1,f2,hu2,hf0,hf1,hf2,ho0,ho1,ho2,hc0,hc1,hc2⟩:∃f0 f1 f2:Field,Tryz.prog.underlying 235=some (.struct #[f0,f1,f2])∧Tryz.prog.underlying f0.type=some (.array 2 3)∧Tryz.prog.underlying f1.type=some (.array 2 3)∧qX (Tryz.prog.underlying f2.type)=true∧f0.offset=0∧f1.offset=2∧f2.offset=4∧Tryz.prog.cellsOf f0.type=2∧Tryz.prog.cellsOf f1.type=2∧Tryz.prog.cellsOf f2.type=1:=
  ⟨_,_,_,rfl,by kernel_rfl,by kernel_rfl,by kernel_rfl,by kernel_rfl,by kernel_rfl,by kernel_rfl,by kernel_rfl,by kernel_rfl,by kernel_rfl⟩
 have hi1:qX (Tryz.prog.underlying 3)=true:=by kernel_rfl
 have hi2:Tryz.prog.cellsOf 3=1:=by kernel_rfl
 have hu:Tryz.prog.underlying 236=some (.array 7 235):=by kernel_rfl
 have c5:Tryz.prog.cellsOf 235=5:=by kernel_rfl
 have c35:Tryz.prog.cellsOf 236=35:=by kernel_rfl
 obtain⟨xs,m,_,ex,hcl,hl,hel⟩:=DataW.trod_array hu hd;rw[aLz]at ex;have e3:=(DataW.agg.inj (Prod.mk.inj ex).1).symm;have key:∀k i,k<7→i<5→cs.toList[k*5+i]? =some (E.desV.getD (k*5+i) .nilFunc):=by
  intro k i hk hi;have hE:=hel k hk;rw[c5,List.getElem?_eq_getElem (by omega)]at hE;obtain⟨y0,y1,y2,n,e5,_,h0,h1,h2⟩:=Go.Deep.trod_struct3 hu2 hE;rw[ho0,hc0]at h0;rw[ho1,hc1]at h1;rw[ho2,hc2]at h2;obtain⟨a,b,a1,b1,ab,a2,b2⟩:=aNU hf0 hi1 hi2 h0;obtain⟨c,d,c1,d1,cd,c2,d2⟩:=aNU hf1 hi1 hi2 h1;obtain⟨o,o1,o2,o3⟩:=vX hf2 h2;have o1:(((((cs.toList.drop (k*5)).take 5).drop 4).take 1))[0]? =some o:=(by rw[o1];rfl);have e4:(xs.map (·.1))[k]? =((List.range 7).map fun k=>(DataW.agg [.agg [gW (E.desV.getD (k*5) .nilFunc),gW (E.desV.getD (k*5+1) .nilFunc)],.agg [gW (E.desV.getD (k*5+2) .nilFunc),gW (E.desV.getD (k*5+3) .nilFunc)],gW (E.desV.getD (k*5+4) .nilFunc)]:DataW Unit))[k]? :=(by rw[e3]);rw[List.getElem?_map,List.getElem?_map,List.getElem?_eq_getElem (by omega:k<xs.length),List.getElem?_eq_getElem (by simpa using hk),e5,ab,cd,o2]at e4;simp only[Option.map_some,Option.some.injEq,DataW.agg.injEq,List.cons.injEq,and_true,List.getElem_range]at e4;obtain⟨⟨e6,e7⟩,⟨e8,e9⟩,e10⟩:=e4;have hp:∀j,j<35→mG (E.desV.getD j .nilFunc)=true:=fun j hj=>List.all_eq_true.1 aJi j (by simpa using hj);have e6:=lC a2 (hp _ (by omega)) e6;have e7:=lC b2 (hp _ (by omega)) e7;have e8:=lC c2 (hp _ (by omega)) e8;have e9:=lC d2 (hp _ (by omega)) e9;have e10:=lC o3 (hp _ (by omega)) e10;simp[List.getElem?_drop]at a1 b1 c1 d1 o1;rcases (by omega:i=0∨i=1∨i=2∨i=3∨i=4) with rfl|rfl|rfl|rfl|rfl
  ·rw[Nat.add_zero,←e6];simpa using a1
  ·rw[←e7];simpa using b1
  ·rw[←e8];simpa using c1
  ·rw[←e9];simpa using d1
  ·rw[←e10];simpa using o1
 have hcs:cs=E.desV.toArray:=by
  apply Array.ext';apply List.ext_getElem?;intro j;have hlen:E.desV.length=35:=(by kernel_rfl);by_cases hj:j<35
  ·have h1:=key (j/5) (j % 5) (by omega) (by omega);rw[show j/5*5+j % 5=j by omega]at h1;rw[h1];show _=E.desV[j]?;rw[List.getD,List.getElem?_eq_getElem (by omega)];rfl
  ·rw[c35]at hcl;rw[List.getElem?_eq_none (by omega),List.getElem?_eq_none (by show E.desV.length≤j;omega)]
 simp only[World.var?,hg,Option.bind_some]at hv;unfold E.Ds;split at hv
 ·rename_i c t fr hh;injection hv with hv;subst hv;rw[←hcs];exact⟨t,fr,hh⟩
 ·cases hv
theorem aAF{H:Type}{enc:TypeId × Value→H}{P:Program}{f:Func}{s:ChangeSpec}{apart fresh handsOn again:Bool}{W W':World}{args:Array Value}{v:Value}{ds gs:List (DataW H)}(hW:DataW.Whole enc P f.params.toList s.vars apart W args.toList ds gs [])(hres:∀(b:Nat) (sp:Nat→Bool) (hd:Bool),DataW.TrodAll enc P W' b sp hd f.resultTypes.toList (v.resultList f.resultTypes.size) (s.fn H (ds++gs)).results [])(hargs:∀sp:Nat→Bool,DataW.TrodAll enc P W' 0 sp true f.params.toList args.toList (s.fn H (ds++gs)).args [])(hvars:∀sp:Nat→Bool,DataW.TrodVars enc P W' sp s.vars (s.fn H (ds++gs)).vars [])(hk:W.keptBut W' (·∈([]:List MemPlace)))(hok:∀(j:Nat) (t:TypeId) (r:Value),f.resultTypes[j]? =some t→(v.resultList f.resultTypes.size)[j]? =some r→Value.okWide P W' .any 0 t r):
  s.post enc P f apart fresh handsOn again W args v W':=by
 refine⟨ds,gs,[],[],[],[],hW,hres _ _ _,hargs _,hvars _,World.keptBut_mono (fun p hp=>by cases hp) hk,fun _=>?_⟩;refine⟨hok,_,_,([]++[])++[],⟨[]++[],[],trodAll_append (hargs _) (hres _ _ _),hvars _,rfl,?_,?_⟩,?_⟩
 ·intro b off hp;simp at hp
 ·intro _;simp
 ·intro p hp _;simp at hp
end
end Go.Proofs.YtamnpcdkcdfgaaaGreatDoor
