/- ValueRounds: for every string and every int the law holds: Down, Up, Floor and Ceil of the number that the string is are what the document says, or nothing if it is none. No condition.. Part of the proof: texts Ji9. -/
import Derived.BigQuiet
import Derived.Deep.DeepHandedRow
import Derived.LaidMore
import Derived.Lay
import Derived.Lib.IndexBytes
import Derived.Lib.IndexLaws
import Derived.OpenShut
import Derived.ProofKit
import Derived.SevenTiedAt
import Derived.Stop.Joined
import Derived.Test.YtgpacgadpnpjjaaGreatDoorCards
import Derived.Test.YtgpacgadpnpjjaaGreatDoorQp01
import Derived.Test.YtgpacgadpnpjjaaGreatDoorQp02
import Derived.Test.YtgpacgadpnpjjaaGreatDoorQp03
import Derived.Test.YtgpacgadpnpjjaaGreatDoorQp04
import Derived.Test.YtgpacgadpnpjjaaGreatDoorQp05
import Derived.Test.YtgpacgadpnpjjaaGreatDoorQp06
import Derived.Test.YtgpacgadpnpjjaaGreatDoorQp07
import Derived.Test.YtgpacgadpnpjjaaGreatDoorQp08
import Derived.Test.YtgpacgadpnpjjaaGreatDoorQp09
import Derived.Test.YtgpacgadpnpjjaaGreatDoorQp10
import Derived.Test.YtgpacgadpnpjjaaGreatDoorQp11
import Derived.Test.YtgpacgadpnpjjaaGreatDoorQp12
import Derived.Test.YtgpacgadpnpjjaaGreatDoorQp13
import Derived.Test.YtgpacgadpnpjjaaGreatDoorQp14
import Derived.Test.YtgpacgadpnpjjaaGreatDoorQp15
import Derived.Test.YtgpacgadpnpjjaaGreatDoorQp16
import Derived.Test.YtgpacgadpnpjjaaGreatDoorQp17
import Derived.Test.YtgpacgadpnpjjaaGreatDoorQp18
import Derived.Test.YtgpacgadpnpjjaaGreatDoorQp19
import Derived.Test.YtgpacgadpnpjjaaGreatDoorQp20
import Derived.Test.YtgpacgadpnpjjaaGreatDoorQp21
import Derived.Test.YtgpacgadpnpjjaaGreatDoorQp22
import Derived.Test.YtgpacgadpnpjjaaGreatDoorQp23
import Derived.Test.YtgpacgadpnpjjaaGreatDoorQp24
import Derived.Test.YtgpacgadpnpjjaaGreatDoorQp25
import Derived.Test.YtgpacgadpnpjjaaGreatDoorQp27
import Derived.Test.YtgpacgadpnpjjaaGreatDoorTie
import Derived.WalkSpells
import Derived.Test.YtgpacgadpnpjjaaGreatDoorQr02
import Derived.Test.YtgpacgadpnpjjaaGreatDoorQr05
namespace Go.Proofs.YtgpacgadpnpjjaaGreatDoor.valueRounds
open Go.RowKit Go.ChangeShapes Go.WideShapes Go.ChangeAt
open Ma Me
set_option maxRecDepth 100000 in
theorem contract (H : Type) (enc : TypeId × Value → H) (W : World) (base : Nat) (args : Array Value) (ds gs : List (DataW H)) (before : List MemPlace) (hval : ∀ (j : Nat) t v, Tryz.f6.params[j]? = some t → args[j]? = some v → Value.okWide Tryz.prog W .any base t v) (hW : DataW.Whole enc Tryz.prog Tryz.f6.params.toList Rows.valueRoundsSpec.vars false W args.toList ds gs before) (hz : (DataW.weightsEach Tryz.prog (Tryz.f6.params.toList ++ (OpenSpec.ofChange Rows.valueRoundsSpec).bare.plain.varTypes Tryz.prog) (ds ++ gs)).all (· ≤ reachBytes) = true) (hL : laidMetH Tryz.prog kZ W) :
  Calls Tryz.prog 6 args W fun e W' => ∃ v, e = .returned v ∧ Rows.valueRoundsSpec.post enc Tryz.prog Tryz.f6 false true false false W args v W' := by
 have hW' := hW;obtain ⟨p, q, hA0, hV, rfl, hfz, hnd⟩ := hW;have hA : DataW.TrodAll enc Tryz.prog W 0 (fun _ => true) true Tryz.f6.params.toList args.toList ds p := hA0;rw [Tryz.params6] at hA hval hz;obtain ⟨v0, vs0, d0, ds0, p0, q0, hargs0, rfl, rfl, h0, r0⟩ := trodAll_cons hA;obtain ⟨v1, vs1, d1, ds1, p1, q1, hargs1, rfl, rfl, h1, r1⟩ := trodAll_cons r0;obtain ⟨rfl, rfl, rfl⟩ := trodAll_nil r1;obtain rfl : args = #[v0, v1] := by cases args; simp_all
 obtain ⟨rfl, rfl⟩ := trodVars_none hV;obtain ⟨s0, rfl, rfl, rfl, hs0⟩ := Go.ChangeMaps.open_string Tryz.underlying29 (hval 0 29 v0 rfl rfl) h0;obtain ⟨s1, rfl, rfl, rfl, hs1⟩ := open_int Tryz.underlying3 (hval 1 3 v1 rfl rfl) h1;clear hA0;simp only [List.append_nil] at hW';simp [DataW.weightsEach, DataW.weights] at hz;have z0 := hz;refine (K.q_ValueRounds s0 s1 W (aFK hL) (aFL hL) (aEG (n := s0.size) z0)).mono fun e W' ⟨he, hq⟩ => ?_;subst he;exact ⟨_, rfl, xH hW' (fun _ _ _ => trodAll_mk1 (shut_bool Tryz.underlying4 _)) (fun _ => (trodAll_cons_mk (Go.ChangeMaps.shut_string Tryz.underlying29 hs0) (trodAll_cons_mk (shut_int Tryz.underlying3 hs1) trodAll_mk0))) (fun _ => rfl) (hq.frame _) (ok_one (by kernel_rfl) rfl (okWide_bool_mk Tryz.underlying4 _))⟩
theorem aCP (os : Os) : laidMet Tryz.prog kZ ((World.laidAll Tryz.prog os kZ).forCall (fun _ _ => 0) ⟨#[], #[.string ⟨#[]⟩, .int .i64 0], []⟩).memory := laidMet_laidAll _ (by kernel_rfl) (by kernel_rfl)
theorem reads (os : Os) {H : Type} (enc : TypeId × Value → H) : ∃ places, DataW.whole enc Tryz.prog ((World.laidAll Tryz.prog os kZ).forCall (fun _ _ => 0) ⟨#[], #[.string ⟨#[]⟩, .int .i64 0], []⟩).memory Tryz.f6.params.toList Rows.valueRoundsSpec.vars false (#[.string ⟨#[]⟩, .int .i64 0] : Array Value).toList 8 = some ([.lit (.string []), .lit (.int .i64 0)], [], places) :=
 ⟨[], by kernel_rfl⟩
theorem aDX (os : Os) : Input.okWideB Tryz.checked.prog ((World.laidAll Tryz.prog os kZ).forCall (fun _ _ => 0) ⟨#[], #[.string ⟨#[]⟩, .int .i64 0], []⟩) 6 ⟨#[], #[.string ⟨#[]⟩, .int .i64 0], []⟩ = true := by kernel_rfl
set_option maxRecDepth 100000 in
theorem lifted (os : Os) (started : os.Started) (H : Type) (enc : TypeId × Value → H) (F : Stop.Interp) :
  ReturnsInHanded {} Tryz.checked os 6 .any ((OpenSpec.ofChange Rows.valueRoundsSpec).preRow enc Tryz.prog Tryz.f6 Rows.valueRoundsRow.domain false kZ) (((OpenSpec.ofChange Rows.valueRoundsSpec).at F).post enc Tryz.prog Tryz.f6 false true false false) := by
 obtain ⟨places, hx⟩ := reads os enc
 refine returnsInHanded_of_row (C := Tryz.checked) (s := OpenSpec.ofChange Rows.valueRoundsSpec) own started (by kernel_rfl) Tryz.func6
  ⟨World.laidAll Tryz.prog os kZ, fun _ _ => 0, ⟨#[], #[.string ⟨#[]⟩, .int .i64 0], []⟩, World.laidAll_os _ _ _, World.shaped_of_ZipB (by kernel_rfl) (by kernel_rfl), (Input.okWide_of_okWideB (base := 0) (aDX os)).1, (Input.okWide_of_okWideB (aDX os)).2,
   OpenSpec.preRow_of_cond 8 hx (by kernel_rfl) (fun k hk => by cases hk) (by kernel_rfl) (aCP os), by
    simp only [Assume.holds];exact ⟨by simp, by simp, fun _ => Modest.zero, by simp, by simp⟩⟩ ?_
 intro W base args ds gs before hval hW _ _ hz hL _ _;exact contract H enc W base args ds gs before hval hW hz hL
end Go.Proofs.YtgpacgadpnpjjaaGreatDoor.valueRounds
