/- The laws of a ring, of values and of derivatives hold for poly's functions. No condition. -/
import Derived.Test.YthjhkhlafhjjmaaGreatDoorQa23
set_option maxRecDepth 100000
namespace Go.Proofs.YthjhkhlafhjjmaaGreatDoor.polyRing
open Go.RowKit Go.ChangeShapes Go.WideShapes Go.ChangeAt
open Ma Me
theorem laidOut:laidOutB Tryz.prog=true:=by kernel_rfl
theorem aRm:Tryz.prog.cellsOf 57=1:=by kernel_rfl
theorem opened{H:Type}{enc:TypeId × Value→H}{W:World}{base:Nat}{v:Value}{d:DataW H}{p:List MemPlace}(hk:Value.okWide Tryz.prog W .any base 22 v)(h:DataW.Trod enc Tryz.prog W 0 (fun _=>true) true 22 v d p):∃a ss,E.Ar W v a ss:=by
 obtain⟨a0,len,cap,rfl⟩:=okWide_slice Tryz.underlying22 hk;obtain⟨fuel,hf⟩:=h;rcases open_strings Tryz.underlying22 Tryz.underlying57 aRm hf with⟨hcs,-⟩|⟨a,len',cap',ss,hcs,-,hl,-,hz,-,hcell,-⟩
 ·simp[Value.cells]at hcs;obtain⟨rfl,rfl,rfl⟩:=hcs;exact⟨_,_,E.ar_nil W⟩
 ·simp[Value.cells]at hcs;obtain⟨rfl,rfl,rfl⟩:=hcs;exact⟨_,_,E.ar_some (ss:=ss) (by simp only[if_true]at hz;omega) hcell⟩
theorem contract(H:Type)(enc:TypeId × Value→H)(W:World)(base:Nat)(args:Array Value)(ds gs:List (DataW H))(before:List MemPlace)(hval:∀(j:Nat) t v,Tryz.f3.params[j]? =some t→args[j]? =some v→Value.okWide Tryz.prog W .any base t v)(hW:DataW.Whole enc Tryz.prog Tryz.f3.params.toList Rows.polyRingSpec.vars false W args.toList ds gs before)(hL:laidMetH Tryz.prog sO W):
  Calls Tryz.prog 3 args W fun e W'=>∃v,e=.returned v∧Rows.polyRingSpec.post enc Tryz.prog Tryz.f3 false true false false W args v W':=by
 have hW':=hW;obtain⟨p,q,hA0,X,rfl,hfz,hnd⟩:=hW;have hA:DataW.TrodAll enc Tryz.prog W 0 (fun _=>true) true Tryz.f3.params.toList args.toList ds p:=hA0;rw[Tryz.params3]at hA hval;obtain⟨x1,x2,x3,d1,d2,d3,p1,p2,p3,rfl,rfl,rfl,h1,h2,h3⟩:=trodAll_three hA;obtain⟨rfl,rfl⟩:=trodVars_none X;clear hA0;obtain⟨a1,s1,r1⟩:=opened (hval 0 _ x1 rfl rfl) h1;obtain⟨a2,s2,r2⟩:=opened (hval 1 _ x2 rfl rfl) h2;obtain⟨a3,s3,r3⟩:=opened (hval 2 _ x3 rfl rfl) h3;simp only[List.append_nil,List.append_assoc]at hW';have hlt:∀x∈p1++(p2++p3),x.block<W.heap.size:=fun x hx=>by simpa using hW'.lt x hx
 have back:∀{W':World} {v:Value} {d:DataW H} {p:List MemPlace},Q W W'→DataW.Trod enc Tryz.prog W 0 (fun _=>true) true 22 v d p→(∀x∈p,x.block<W.heap.size)→DataW.Trod enc Tryz.prog W' 0 (fun b=>decide (b<W.heap.size)) true 22 v d p:=fun hq h hl=>
  Below.trod laidOut (by kernel_rfl) (of_decide_eq_true (by kernel_rfl)) h hq hl
 refine (E.q_PolyRing W (aSr hL) (aSs hL) r1 r2 r3).mono fun e W' ⟨he,hq⟩=>?_;subst he;refine⟨_,rfl,_,_,_,[]++[],p1++(p2++p3),[],hW',?_,?_,rfl,hq.frame _,fun h=>by cases h⟩
 ·exact trodAll_mk1 (shut_bool Tryz.underlying4 _)
 ·exact trodAll_mk3 (back hq h1 fun x hx=>hlt x (by simp[hx])) (back hq h2 fun x hx=>hlt x (by simp[hx])) (back hq h3 fun x hx=>hlt x (by simp[hx]))
abbrev inp:Input:=⟨#[],#[.slice none 0 0,.slice none 0 0,.slice none 0 0],[]⟩
theorem aK1(os:Os):laidMet Tryz.prog sO ((World.laidAll Tryz.prog os sO).forCall (fun _ _=>0) inp).memory:=laidMet_laidAll _ (by kernel_rfl) (by kernel_rfl)
theorem reads(os:Os){H:Type}(enc:TypeId × Value→H):∃ds places,DataW.whole enc Tryz.prog ((World.laidAll Tryz.prog os sO).forCall (fun _ _=>0) inp).memory Tryz.f3.params.toList Rows.polyRingSpec.vars false inp.args.toList 8=some (ds,[],places):=
 ⟨[.nil,.nil,.nil],[],by kernel_rfl⟩
theorem aNw(os:Os):Input.okWideB Tryz.checked.prog ((World.laidAll Tryz.prog os sO).forCall (fun _ _=>0) inp) 3 inp=true:=by kernel_rfl
theorem lifted(os:Os)(started:os.Started)(H:Type)(enc:TypeId × Value→H)(F:Stop.Interp):
  ReturnsInHanded {} Tryz.checked os 3 .any ((OpenSpec.ofChange Rows.polyRingSpec).preRow enc Tryz.prog Tryz.f3 Rows.polyRingRow.domain false sO) (((OpenSpec.ofChange Rows.polyRingSpec).at F).post enc Tryz.prog Tryz.f3 false true false false):=by
 obtain⟨ds,places,hx⟩:=reads os enc
 refine returnsInHanded_of_row (C:=Tryz.checked) (s:=OpenSpec.ofChange Rows.polyRingSpec) own started (by kernel_rfl) Tryz.func3
  ⟨World.laidAll Tryz.prog os sO,fun _ _=>0,inp,World.laidAll_os _ _ _,World.shaped_of_ZipB (by kernel_rfl) (by kernel_rfl),(Input.okWide_of_okWideB (base:=0) (aNw os)).1,(Input.okWide_of_okWideB (aNw os)).2,
   OpenSpec.preRow_of_cond 8 hx (by kernel_rfl) (fun k hk=>by cases hk) (by kernel_rfl) (aK1 os),by
    simp only[Assume.holds];exact⟨by simp,by simp,fun _=>Modest.zero,by simp,by simp⟩⟩ ?_
 intro W base args ds gs before hval hW _ _ hz hL _ _;exact contract H enc W base args ds gs before hval hW hL
end Go.Proofs.YthjhkhlafhjjmaaGreatDoor.polyRing
