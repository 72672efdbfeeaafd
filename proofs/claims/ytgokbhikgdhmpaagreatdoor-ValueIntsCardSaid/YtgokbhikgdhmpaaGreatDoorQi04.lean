/- ValueInts: for every two int64 and every int the law holds. Part of the proof: texts Ji7. -/
import Derived.Below
import Derived.BigQuiet
import Derived.Deep.DeepHandedRow
import Derived.Deep.Draws
import Derived.Deep.OwnRows
import Derived.LaidMore
import Derived.Laws.OwnMore
import Derived.Laws.Rows
import Derived.Lay
import Derived.Lib.Hide
import Derived.Lib.IndexBytes
import Derived.Lib.IndexLaws
import Derived.OpenShut
import Derived.ProofKit
import Derived.SevenTiedAt
import Derived.Stop.Joined
import Derived.Test.YtgokbhikgdhmpaaGreatDoorCards
import Derived.Test.YtgokbhikgdhmpaaGreatDoorQy01
import Derived.Test.YtgokbhikgdhmpaaGreatDoorQy02
import Derived.Test.YtgokbhikgdhmpaaGreatDoorQy03
import Derived.Test.YtgokbhikgdhmpaaGreatDoorQy04
import Derived.Test.YtgokbhikgdhmpaaGreatDoorQy05
import Derived.Test.YtgokbhikgdhmpaaGreatDoorQy06
import Derived.Test.YtgokbhikgdhmpaaGreatDoorQy07
import Derived.Test.YtgokbhikgdhmpaaGreatDoorQy08
import Derived.Test.YtgokbhikgdhmpaaGreatDoorQy09
import Derived.Test.YtgokbhikgdhmpaaGreatDoorQy10
import Derived.Test.YtgokbhikgdhmpaaGreatDoorQy11
import Derived.Test.YtgokbhikgdhmpaaGreatDoorQy12
import Derived.Test.YtgokbhikgdhmpaaGreatDoorQy13
import Derived.Test.YtgokbhikgdhmpaaGreatDoorQy14
import Derived.Test.YtgokbhikgdhmpaaGreatDoorQy15
import Derived.Test.YtgokbhikgdhmpaaGreatDoorQy16
import Derived.Test.YtgokbhikgdhmpaaGreatDoorQy17
import Derived.Test.YtgokbhikgdhmpaaGreatDoorQy18
import Derived.Test.YtgokbhikgdhmpaaGreatDoorQy19
import Derived.Test.YtgokbhikgdhmpaaGreatDoorQy20
import Derived.Test.YtgokbhikgdhmpaaGreatDoorQy21
import Derived.Test.YtgokbhikgdhmpaaGreatDoorQy22
import Derived.Test.YtgokbhikgdhmpaaGreatDoorQy23
import Derived.Test.YtgokbhikgdhmpaaGreatDoorQy24
import Derived.Test.YtgokbhikgdhmpaaGreatDoorQy25
import Derived.Test.YtgokbhikgdhmpaaGreatDoorQy26
import Derived.Test.YtgokbhikgdhmpaaGreatDoorQy27
import Derived.Test.YtgokbhikgdhmpaaGreatDoorQy28
import Derived.Test.YtgokbhikgdhmpaaGreatDoorQy29
import Derived.Test.YtgokbhikgdhmpaaGreatDoorQy32
import Derived.Test.YtgokbhikgdhmpaaGreatDoorTie
import Derived.WalkSpells
import Derived.Test.YtgokbhikgdhmpaaGreatDoorQi01
import Derived.Test.YtgokbhikgdhmpaaGreatDoorQi03
namespace Go.Proofs.YtgokbhikgdhmpaaGreatDoor.valueInts
open Go.RowKit Go.ChangeShapes Go.WideShapes Go.ChangeAt
open Ma Me
set_option maxRecDepth 100000 in
theorem contract (H : Type) (enc : TypeId × Value → H) (W : World) (base : Nat) (args : Array Value) (ds gs : List (DataW H)) (before : List MemPlace) (hval : ∀ (j : Nat) t v, Tryz.f7.params[j]? = some t → args[j]? = some v → Value.okWide Tryz.prog W .any base t v) (hW : DataW.Whole enc Tryz.prog Tryz.f7.params.toList Rows.valueIntsSpec.vars false W args.toList ds gs before) (hz : (DataW.weightsEach Tryz.prog (Tryz.f7.params.toList ++ (OpenSpec.ofChange Rows.valueIntsSpec).bare.plain.varTypes Tryz.prog) (ds ++ gs)).all (· ≤ reachBytes) = true) (hL : laidMetH Tryz.prog mW W) :
  Calls Tryz.prog 7 args W fun e W' => ∃ v, e = .returned v ∧ Rows.valueIntsSpec.post enc Tryz.prog Tryz.f7 false true false false W args v W' := by
 have hW' := hW;obtain ⟨p, q, hA0, hV, rfl, hfz, hnd⟩ := hW;have hA : DataW.TrodAll enc Tryz.prog W 0 (fun _ => true) true Tryz.f7.params.toList args.toList ds p := hA0;rw [Tryz.params7] at hA hval hz;obtain ⟨v0, vs0, d0, ds0, p0, q0, hargs0, rfl, rfl, h0, r0⟩ := trodAll_cons hA;obtain ⟨v1, vs1, d1, ds1, p1, q1, hargs1, rfl, rfl, h1, r1⟩ := trodAll_cons r0;obtain ⟨v2, vs2, d2, ds2, p2, q2, hargs2, rfl, rfl, h2, r2⟩ := trodAll_cons r1;obtain ⟨rfl, rfl, rfl⟩ := trodAll_nil r2;obtain rfl : args = #[v0, v1, v2] := by cases args; simp_all
 obtain ⟨rfl, rfl⟩ := trodVars_none hV;obtain ⟨s0, rfl, rfl, rfl, hs0⟩ := open_int Tryz.underlying2 (hval 0 2 v0 rfl rfl) h0;obtain ⟨s1, rfl, rfl, rfl, hs1⟩ := open_int Tryz.underlying2 (hval 1 2 v1 rfl rfl) h1;obtain ⟨s2, rfl, rfl, rfl, hs2⟩ := open_int Tryz.underlying3 (hval 2 3 v2 rfl rfl) h2;clear hA0;simp only [List.append_nil] at hW';have hu0 : -9223372036854775808 ≤ s0 ∧ s0 ≤ 9223372036854775807 := by
  have h9 := hs0;rw [Lit.wf, Bool.and_eq_true, decide_eq_true_eq, decide_eq_true_eq, show IntKind.i64.min = -9223372036854775808 from rfl, show IntKind.i64.max = 9223372036854775807 from rfl] at h9;exact h9
 have hu1 : -9223372036854775808 ≤ s1 ∧ s1 ≤ 9223372036854775807 := by
  have h9 := hs1;rw [Lit.wf, Bool.and_eq_true, decide_eq_true_eq, decide_eq_true_eq, show IntKind.i64.min = -9223372036854775808 from rfl, show IntKind.i64.max = 9223372036854775807 from rfl] at h9;exact h9
 refine (K.q_ValueInts s0 s1 s2 W (aGW hL) (aGX hL) (by omega) (by omega) (by omega) (by omega)).mono fun e W' ⟨he, hq⟩ => ?_;subst he;exact ⟨_, rfl, zM hW' (fun _ _ _ => trodAll_mk1 (shut_bool Tryz.underlying4 _)) (fun _ => (trodAll_cons_mk (shut_int Tryz.underlying2 hs0) (trodAll_cons_mk (shut_int Tryz.underlying2 hs1) (trodAll_cons_mk (shut_int Tryz.underlying3 hs2) trodAll_mk0)))) (fun _ => rfl) (hq.frame _) (ok_one (by kernel_rfl) rfl (okWide_bool_mk Tryz.underlying4 _))⟩
theorem aDL (os : Os) : laidMet Tryz.prog mW ((World.laidAll Tryz.prog os mW).forCall (fun _ _ => 0) ⟨#[], #[.int .i64 0, .int .i64 0, .int .i64 0], []⟩).memory := laidMet_laidAll _ (by kernel_rfl) (by kernel_rfl)
theorem reads (os : Os) {H : Type} (enc : TypeId × Value → H) : ∃ places, DataW.whole enc Tryz.prog ((World.laidAll Tryz.prog os mW).forCall (fun _ _ => 0) ⟨#[], #[.int .i64 0, .int .i64 0, .int .i64 0], []⟩).memory Tryz.f7.params.toList Rows.valueIntsSpec.vars false (#[.int .i64 0, .int .i64 0, .int .i64 0] : Array Value).toList 8 = some ([.lit (.int .i64 0), .lit (.int .i64 0), .lit (.int .i64 0)], [], places) :=
 ⟨[], by kernel_rfl⟩
theorem aEX (os : Os) : Input.okWideB Tryz.checked.prog ((World.laidAll Tryz.prog os mW).forCall (fun _ _ => 0) ⟨#[], #[.int .i64 0, .int .i64 0, .int .i64 0], []⟩) 7 ⟨#[], #[.int .i64 0, .int .i64 0, .int .i64 0], []⟩ = true := by kernel_rfl
set_option maxRecDepth 100000 in
theorem lifted (os : Os) (started : os.Started) (H : Type) (enc : TypeId × Value → H) (F : Stop.Interp) :
  ReturnsInHanded {} Tryz.checked os 7 .any ((OpenSpec.ofChange Rows.valueIntsSpec).preRow enc Tryz.prog Tryz.f7 Rows.valueIntsRow.domain false mW) (((OpenSpec.ofChange Rows.valueIntsSpec).at F).post enc Tryz.prog Tryz.f7 false true false false) := by
 obtain ⟨places, hx⟩ := reads os enc
 refine returnsInHanded_of_row (C := Tryz.checked) (s := OpenSpec.ofChange Rows.valueIntsSpec) own started (by kernel_rfl) Tryz.func7
  ⟨World.laidAll Tryz.prog os mW, fun _ _ => 0, ⟨#[], #[.int .i64 0, .int .i64 0, .int .i64 0], []⟩, World.laidAll_os _ _ _, World.shaped_of_ZipB (by kernel_rfl) (by kernel_rfl), (Input.okWide_of_okWideB (base := 0) (aEX os)).1, (Input.okWide_of_okWideB (aEX os)).2,
   OpenSpec.preRow_of_cond 8 hx (by kernel_rfl) (fun k hk => by cases hk) (by kernel_rfl) (aDL os), by
    simp only [Assume.holds];exact ⟨by simp, by simp, fun _ => Modest.zero, by simp, by simp⟩⟩ ?_
 intro W base args ds gs before hval hW _ _ hz hL _ _;exact contract H enc W base args ds gs before hval hW hz hL
end Go.Proofs.YtgokbhikgdhmpaaGreatDoor.valueInts
