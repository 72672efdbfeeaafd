/- ValueReads: for every string the law holds: what Read returns is what the document says. No condition.. Part of the proof: texts Jia. -/
import Derived.Below
import Derived.BigQuiet
import Derived.Deep.Cut
import Derived.Deep.CutBlock
import Derived.Deep.DeepHandedRow
import Derived.Deep.DeepMust
import Derived.Deep.Draws
import Derived.Deep.OwnRows
import Derived.Deep.QuietTactic
import Derived.Deep.RegionHeld3
import Derived.Deep.RegionWith
import Derived.IntWalk
import Derived.LaidMore
import Derived.Laws.AppendOwn
import Derived.Laws.BitsAllLaws
import Derived.Laws.CopyOwn
import Derived.Laws.IdiomStrings
import Derived.Laws.OwnMore
import Derived.Laws.RangeAny
import Derived.Laws.RangeString
import Derived.Laws.Rows
import Derived.Lay
import Derived.Lib.Hide
import Derived.Lib.IndexBytes
import Derived.Lib.IndexLaws
import Derived.Lib.OthersKept
import Derived.Lib.SliceRun
import Derived.Maps.AppendAt
import Derived.OpenShut
import Derived.OwnWalk
import Derived.ProofKit
import Derived.SevenTiedAt
import Derived.Shelf.Bits.Mul64
import Derived.Shelf.Lays7
import Derived.Shelf.Small.Bits
import Derived.Shelf.Small.Strs
import Derived.Shelf.Small.Utf8
import Derived.Shelf.Small.Wraps
import Derived.Shelf.Spec.BitsCarry
import Derived.Shelf.Spec.TrailingZeros
import Derived.Shelf.Strconv.Itoa0
import Derived.Shelf.Strings.Builder1
import Derived.Shelf.Strings.Builder2
import Derived.Shelf.Strings.Builder2Cap
import Derived.Shelf.Strings.BuilderF
import Derived.Shelf.Strings.BuilderK
import Derived.Shelf.Strings.Cut
import Derived.Shelf.Strings.Prefix
import Derived.Shelf.Strings.Repeat
import Derived.Shelf.Strings.Search1
import Derived.Shelf.Strings.Search2
import Derived.Shelf.Strings.Search3
import Derived.Shelf.Strings.Trim
import Derived.Shelf.Unicode.DecodeSlow
import Derived.Stop.Joined
import Derived.Test.YtgpacgadpnpjjaaGreatDoorCards
import Derived.Test.YtgpacgadpnpjjaaGreatDoorProg
import Derived.Test.YtgpacgadpnpjjaaGreatDoorQp01
import Derived.Test.YtgpacgadpnpjjaaGreatDoorQp02
import Derived.Test.YtgpacgadpnpjjaaGreatDoorQp03
import Derived.Test.YtgpacgadpnpjjaaGreatDoorQp04
import Derived.Test.YtgpacgadpnpjjaaGreatDoorQp05
import Derived.Test.YtgpacgadpnpjjaaGreatDoorQp06
import Derived.Test.YtgpacgadpnpjjaaGreatDoorQp07
import Derived.Test.YtgpacgadpnpjjaaGreatDoorQp08
import Derived.Test.YtgpacgadpnpjjaaGreatDoorQp09
import Derived.Test.YtgpacgadpnpjjaaGreatDoorQp10
import Derived.Test.YtgpacgadpnpjjaaGreatDoorQp11
import Derived.Test.YtgpacgadpnpjjaaGreatDoorQp12
import Derived.Test.YtgpacgadpnpjjaaGreatDoorQp13
import Derived.Test.YtgpacgadpnpjjaaGreatDoorQp14
import Derived.Test.YtgpacgadpnpjjaaGreatDoorQp15
import Derived.Test.YtgpacgadpnpjjaaGreatDoorQp16
import Derived.Test.YtgpacgadpnpjjaaGreatDoorQp17
import Derived.Test.YtgpacgadpnpjjaaGreatDoorQp18
import Derived.Test.YtgpacgadpnpjjaaGreatDoorQp19
import Derived.Test.YtgpacgadpnpjjaaGreatDoorQp20
import Derived.Test.YtgpacgadpnpjjaaGreatDoorQp21
import Derived.Test.YtgpacgadpnpjjaaGreatDoorQp22
import Derived.Test.YtgpacgadpnpjjaaGreatDoorQp23
import Derived.Test.YtgpacgadpnpjjaaGreatDoorQp24
import Derived.Test.YtgpacgadpnpjjaaGreatDoorQp25
import Derived.Test.YtgpacgadpnpjjaaGreatDoorQp27
import Derived.Test.YtgpacgadpnpjjaaGreatDoorTie
import Derived.WalkKit
import Derived.WalkLawsBesides
import Derived.WalkSmall
import Derived.WalkSpells
import Derived.Test.YtgpacgadpnpjjaaGreatDoorQd01
import Derived.Test.YtgpacgadpnpjjaaGreatDoorQd05
namespace Go.Proofs.YtgpacgadpnpjjaaGreatDoor.valueReads
open Go.RowKit Go.ChangeShapes Go.WideShapes Go.ChangeAt
open Ma Me
set_option maxRecDepth 100000 in
theorem contract (H : Type) (enc : TypeId × Value → H) (W : World) (base : Nat) (args : Array Value) (ds gs : List (DataW H)) (before : List MemPlace) (hval : ∀ (j : Nat) t v, Tryz.f4.params[j]? = some t → args[j]? = some v → Value.okWide Tryz.prog W .any base t v) (hW : DataW.Whole enc Tryz.prog Tryz.f4.params.toList Rows.valueReadsSpec.vars false W args.toList ds gs before) (hz : (DataW.weightsEach Tryz.prog (Tryz.f4.params.toList ++ (OpenSpec.ofChange Rows.valueReadsSpec).bare.plain.varTypes Tryz.prog) (ds ++ gs)).all (· ≤ reachBytes) = true) (hL : laidMetH Tryz.prog kZ W) :
  Calls Tryz.prog 4 args W fun e W' => ∃ v, e = .returned v ∧ Rows.valueReadsSpec.post enc Tryz.prog Tryz.f4 false true false false W args v W' := by
 have hW' := hW;obtain ⟨p, q, hA0, hV, rfl, hfz, hnd⟩ := hW;have hA : DataW.TrodAll enc Tryz.prog W 0 (fun _ => true) true Tryz.f4.params.toList args.toList ds p := hA0;rw [Tryz.params4] at hA hval hz;obtain ⟨v0, vs0, d0, ds0, p0, q0, hargs0, rfl, rfl, h0, r0⟩ := trodAll_cons hA;obtain ⟨rfl, rfl, rfl⟩ := trodAll_nil r0;obtain rfl : args = #[v0] := by cases args; simp_all
 obtain ⟨rfl, rfl⟩ := trodVars_none hV;obtain ⟨s0, rfl, rfl, rfl, hs0⟩ := Go.ChangeMaps.open_string Tryz.underlying9 (hval 0 9 v0 rfl rfl) h0;clear hA0;simp only [List.append_nil] at hW';simp [DataW.weightsEach, DataW.weights] at hz;have z0 := hz;refine (K.q_ValueReads s0 W (aFK hL) (aFL hL) (aEG (n := s0.size) z0)).mono fun e W' ⟨he, hq⟩ => ?_;subst he;exact ⟨_, rfl, xH hW' (fun _ _ _ => trodAll_mk1 (shut_bool Tryz.underlying4 _)) (fun _ => (trodAll_cons_mk (Go.ChangeMaps.shut_string Tryz.underlying9 hs0) trodAll_mk0)) (fun _ => rfl) (hq.frame _) (ok_one (by kernel_rfl) rfl (okWide_bool_mk Tryz.underlying4 _))⟩
theorem aCP (os : Os) : laidMet Tryz.prog kZ ((World.laidAll Tryz.prog os kZ).forCall (fun _ _ => 0) ⟨#[], #[.string ⟨#[]⟩], []⟩).memory := laidMet_laidAll _ (by kernel_rfl) (by kernel_rfl)
theorem reads (os : Os) {H : Type} (enc : TypeId × Value → H) : ∃ places, DataW.whole enc Tryz.prog ((World.laidAll Tryz.prog os kZ).forCall (fun _ _ => 0) ⟨#[], #[.string ⟨#[]⟩], []⟩).memory Tryz.f4.params.toList Rows.valueReadsSpec.vars false (#[.string ⟨#[]⟩] : Array Value).toList 8 = some ([.lit (.string [])], [], places) :=
 ⟨[], by kernel_rfl⟩
theorem aDX (os : Os) : Input.okWideB Tryz.checked.prog ((World.laidAll Tryz.prog os kZ).forCall (fun _ _ => 0) ⟨#[], #[.string ⟨#[]⟩], []⟩) 4 ⟨#[], #[.string ⟨#[]⟩], []⟩ = true := by kernel_rfl
set_option maxRecDepth 100000 in
theorem lifted (os : Os) (started : os.Started) (H : Type) (enc : TypeId × Value → H) (F : Stop.Interp) :
  ReturnsInHanded {} Tryz.checked os 4 .any ((OpenSpec.ofChange Rows.valueReadsSpec).preRow enc Tryz.prog Tryz.f4 Rows.valueReadsRow.domain false kZ) (((OpenSpec.ofChange Rows.valueReadsSpec).at F).post enc Tryz.prog Tryz.f4 false true false false) := by
 obtain ⟨places, hx⟩ := reads os enc
 refine returnsInHanded_of_row (C := Tryz.checked) (s := OpenSpec.ofChange Rows.valueReadsSpec) own started (by kernel_rfl) Tryz.func4
  ⟨World.laidAll Tryz.prog os kZ, fun _ _ => 0, ⟨#[], #[.string ⟨#[]⟩], []⟩, World.laidAll_os _ _ _, World.shaped_of_ZipB (by kernel_rfl) (by kernel_rfl), (Input.okWide_of_okWideB (base := 0) (aDX os)).1, (Input.okWide_of_okWideB (aDX os)).2,
   OpenSpec.preRow_of_cond 8 hx (by kernel_rfl) (fun k hk => by cases hk) (by kernel_rfl) (aCP os), by
    simp only [Assume.holds];exact ⟨by simp, by simp, fun _ => Modest.zero, by simp, by simp⟩⟩ ?_
 intro W base args ds gs before hval hW _ _ hz hL _ _;exact contract H enc W base args ds gs before hval hW hz hL
end Go.Proofs.YtgpacgadpnpjjaaGreatDoor.valueReads
