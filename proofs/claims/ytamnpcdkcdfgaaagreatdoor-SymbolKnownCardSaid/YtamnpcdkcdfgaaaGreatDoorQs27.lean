/- SymbolKnown holds. No condition. -/
import Derived.Test.YtamnpcdkcdfgaaaGreatDoorQs25
import Derived.Test.YtamnpcdkcdfgaaaGreatDoorQs26
set_option maxRecDepth 100000
namespace Go.Proofs.YtamnpcdkcdfgaaaGreatDoor
namespace symbolKnown
open Go.RowKit Go.ChangeShapes Go.WideShapes Go.ChangeAt
open Ma Me
theorem contract(H:Type)(enc:TypeId × Value→H)(W:World)(base:Nat)(args:Array Value)(ds gs:List (DataW H))(before:List MemPlace)(hval:∀(j:Nat) t v,Tryz.f3.params[j]? =some t→args[j]? =some v→Value.okWide Tryz.prog W .any base t v)(hW:DataW.Whole enc Tryz.prog Tryz.f3.params.toList Rows.symbolKnownSpec.vars false W args.toList ds gs before)(hz:(DataW.weightsEach Tryz.prog (Tryz.f3.params.toList++(OpenSpec.ofChange Rows.symbolKnownSpec).bare.plain.varTypes Tryz.prog) (ds++gs)).all (·≤reachBytes)=true)(hL:laidMetH Tryz.prog kK W):
  Calls Tryz.prog 3 args W fun e W'=>∃v,e=.returned v∧Rows.symbolKnownSpec.post enc Tryz.prog Tryz.f3 false true false false W args v W':=by
 have hW':=hW;obtain⟨p,q,hA0,X,rfl,hfz,hnd⟩:=hW;have hA:DataW.TrodAll enc Tryz.prog W 0 (fun _=>true) true Tryz.f3.params.toList args.toList ds p:=hA0;rw[Tryz.params3]at hA hval hz;obtain⟨hargs,rfl,rfl⟩:=trodAll_nil hA;obtain rfl:args=#[]:=by cases args;simp_all
 obtain⟨rfl,rfl⟩:=trodVars_none X;clear hA0;simp only[List.append_nil]at hW';refine (E.q_SymbolKnown W (aO0 hL) (aO1 hL) (aO2 hL) (aO3 hL)).mono fun e W' ⟨he,hq⟩=>?_;subst he;exact⟨_,rfl,aAF hW' (fun _ _ _=>trodAll_mk1 (shut_bool Tryz.underlying4 _)) (fun _=>trodAll_mk0) (fun _=>rfl) (hq.frame _) (ok_one (by kernel_rfl) rfl (okWide_bool_mk Tryz.underlying4 _))⟩
theorem aHz(os:Os):laidMet Tryz.prog kK ((World.laidAll Tryz.prog os kK).forCall (fun _ _=>0) ⟨#[],#[],[]⟩).memory:=laidMet_laidAll _ (by kernel_rfl) (by kernel_rfl)
theorem reads(os:Os){H:Type}(enc:TypeId × Value→H):∃places,DataW.whole enc Tryz.prog ((World.laidAll Tryz.prog os kK).forCall (fun _ _=>0) ⟨#[],#[],[]⟩).memory Tryz.f3.params.toList Rows.symbolKnownSpec.vars false (#[]:Array Value).toList 8=some ([],[],places):=
 ⟨[],by kernel_rfl⟩
theorem aJP(os:Os):Input.okWideB Tryz.checked.prog ((World.laidAll Tryz.prog os kK).forCall (fun _ _=>0) ⟨#[],#[],[]⟩) 3 ⟨#[],#[],[]⟩=true:=by kernel_rfl
theorem lifted(os:Os)(started:os.Started)(H:Type)(enc:TypeId × Value→H)(F:Stop.Interp):
  ReturnsInHanded {} Tryz.checked os 3 .any ((OpenSpec.ofChange Rows.symbolKnownSpec).preRow enc Tryz.prog Tryz.f3 Rows.symbolKnownRow.domain false kK) (((OpenSpec.ofChange Rows.symbolKnownSpec).at F).post enc Tryz.prog Tryz.f3 false true false false):=by
 obtain⟨places,hx⟩:=reads os enc
 refine returnsInHanded_of_row (C:=Tryz.checked) (s:=OpenSpec.ofChange Rows.symbolKnownSpec) own started (by kernel_rfl) Tryz.func3
  ⟨World.laidAll Tryz.prog os kK,fun _ _=>0,⟨#[],#[],[]⟩,World.laidAll_os _ _ _,World.shaped_of_ZipB (by kernel_rfl) (by kernel_rfl),(Input.okWide_of_okWideB (base:=0) (aJP os)).1,(Input.okWide_of_okWideB (aJP os)).2,
   OpenSpec.preRow_of_cond 8 hx (by kernel_rfl) (fun k hk=>by cases hk) (by kernel_rfl) (aHz os),by
    simp only[Assume.holds];exact⟨by simp,by simp,fun _=>Modest.zero,by simp,by simp⟩⟩ ?_
 intro W base args ds gs before hval hW _ _ hz hL _ _;exact contract H enc W base args ds gs before hval hW hz hL
end symbolKnown
end Go.Proofs.YtamnpcdkcdfgaaaGreatDoor
