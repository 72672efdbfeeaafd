/- ValueReads: for every string the law holds: what Read returns is what the document says. No condition.. Part of the proof: texts Jea. -/
import Derived.Below
import Derived.BigQuiet
import Derived.Deep.Cut
import Derived.Deep.CutBlock
import Derived.Deep.DeepMust
import Derived.Deep.Draws
import Derived.Deep.LoopGhost
import Derived.Deep.OwnRows
import Derived.Deep.QuietTactic
import Derived.Deep.RegionHeld3
import Derived.Deep.RegionWith
import Derived.IntWalk
import Derived.Laws.AppendOwn
import Derived.Laws.BitsAllLaws
import Derived.Laws.CopyOwn
import Derived.Laws.IdiomStrings
import Derived.Laws.OwnMore
import Derived.Laws.RangeAny
import Derived.Laws.RangeString
import Derived.Laws.Rows
import Derived.Lib.Hide
import Derived.Lib.IndexBytes
import Derived.Lib.IndexLaws
import Derived.Lib.OthersKept
import Derived.Lib.SliceRun
import Derived.Maps.AppendAt
import Derived.OwnWalk
import Derived.Shelf.Bits.Mul64
import Derived.Shelf.Lays7
import Derived.Shelf.Small.Bits
import Derived.Shelf.Small.Strs
import Derived.Shelf.Small.Utf8
import Derived.Shelf.Small.Wraps
import Derived.Shelf.Spec.BitsCarry
import Derived.Shelf.Spec.TrailingZeros
import Derived.Shelf.Strconv.Itoa0
import Derived.Shelf.Strings.Builder1
import Derived.Shelf.Strings.Builder2
import Derived.Shelf.Strings.Builder2Cap
import Derived.Shelf.Strings.BuilderF
import Derived.Shelf.Strings.BuilderK
import Derived.Shelf.Strings.Cut
import Derived.Shelf.Strings.Prefix
import Derived.Shelf.Strings.Repeat
import Derived.Shelf.Strings.Search1
import Derived.Shelf.Strings.Search2
import Derived.Shelf.Strings.Search3
import Derived.Shelf.Strings.Trim
import Derived.Shelf.Unicode.DecodeSlow
import Derived.Test.YtgpacgadpnpjjaaGreatDoorProg
import Derived.Test.YtgpacgadpnpjjaaGreatDoorQp01
import Derived.Test.YtgpacgadpnpjjaaGreatDoorQp02
import Derived.Test.YtgpacgadpnpjjaaGreatDoorQp03
import Derived.Test.YtgpacgadpnpjjaaGreatDoorQp04
import Derived.Test.YtgpacgadpnpjjaaGreatDoorQp05
import Derived.Test.YtgpacgadpnpjjaaGreatDoorQp06
import Derived.Test.YtgpacgadpnpjjaaGreatDoorQp07
import Derived.Test.YtgpacgadpnpjjaaGreatDoorQp08
import Derived.Test.YtgpacgadpnpjjaaGreatDoorQp09
import Derived.Test.YtgpacgadpnpjjaaGreatDoorQp10
import Derived.Test.YtgpacgadpnpjjaaGreatDoorQp11
import Derived.Test.YtgpacgadpnpjjaaGreatDoorQp12
import Derived.Test.YtgpacgadpnpjjaaGreatDoorQp13
import Derived.Test.YtgpacgadpnpjjaaGreatDoorQp14
import Derived.Test.YtgpacgadpnpjjaaGreatDoorQp15
import Derived.Test.YtgpacgadpnpjjaaGreatDoorQp16
import Derived.Test.YtgpacgadpnpjjaaGreatDoorQp17
import Derived.Test.YtgpacgadpnpjjaaGreatDoorQp18
import Derived.Test.YtgpacgadpnpjjaaGreatDoorQp19
import Derived.Test.YtgpacgadpnpjjaaGreatDoorQp20
import Derived.Test.YtgpacgadpnpjjaaGreatDoorQp21
import Derived.Test.YtgpacgadpnpjjaaGreatDoorQp22
import Derived.Test.YtgpacgadpnpjjaaGreatDoorQp23
import Derived.Test.YtgpacgadpnpjjaaGreatDoorQp24
import Derived.Test.YtgpacgadpnpjjaaGreatDoorQp25
import Derived.Test.YtgpacgadpnpjjaaGreatDoorQp27
import Derived.WalkKit
import Derived.WalkLawsBesides
import Derived.WalkSmall
import Derived.WalkSpells
import Derived.Test.YtgpacgadpnpjjaaGreatDoorQd01
import Derived.Test.YtgpacgadpnpjjaaGreatDoorQd02
import Derived.Test.YtgpacgadpnpjjaaGreatDoorQd04
namespace Go.Proofs.YtgpacgadpnpjjaaGreatDoor.K
open Go.RowKit
open Ma Me
set_option maxRecDepth 100000 in
set_option maxHeartbeats 8000000 in
theorem q_ValueReads (a : ByteArray) (w : World) (hT : Tb w) (hPx : Px w) (ha : a.size ≤ 9223372036854775806) :
  Calls Tryz.prog 4 #[.string a] w fun e w' => e = .returned (.bool true) ∧ Q w w' := by
 obtain ⟨w0, hw0, hG0⟩ : ∃ x, w = x ∧ Q w x := ⟨w, rfl, Q.refl w⟩
 rw [hw0];obtain ⟨ca, Hca⟩ : ∃ z : Int, Hid ((oL a.data.toList).1 = z) := ⟨_, Lib.hid rfl⟩
 obtain ⟨p, Hp⟩ : ∃ z : Rat, Hid ((oL a.data.toList).2 = z) := ⟨_, Lib.hid rfl⟩
 have Z1 : Hid (sz (p) ≤ 2000) := Lib.hid (by rw [← Hp.out]; exact aGK _);go_enter Tryz.func4, Tryz.ntmps4
 go_upto_region 1 with fail
 have hAt0 : At0 w0 [⟨some 5, 0, 25, [.b, .s, .s], .agg #[.bool false, .slice none 0 0, .slice none 0 0], 6, 3⟩] [] w0 := At0.of (Q.refl _) ⟨fun h => (by cases h), trivial⟩ (by simp [dO]) trivial;refine cK (F := ?F1) w0 ([.eq (.string (a)), .gen (pT2 (aN (p)) (pEq (.int .i64 (ca)))), .gen (pT2 (aN (p)) (pEq (.int .i64 (ca)))), .gen (aN (p)), .eq (.int .i64 (ca)), .any, .any, .eq (.int .i64 (ca))] : List Vs) _ _ (by kernel_rfl) hAt0 ?hF1 ?st1 ?en1
 case hF1 =>
  intro vals;simp only [Ja.fillL, Act.put, List.setIfInBounds_toArray, List.set_cons_zero, List.set_cons_succ, Nat.reduceAdd];exact rfl
 case st1 =>
  clear hAt0;intro hctx;refine JC.p hctx ?_;refine JC.ca (fun vals W hN hd hk => (aFp a W (hT.q (hG0.trans hN)) (hPx.q (hG0.trans hN)) ha).mono (by rintro e W9 ⟨r, rfl, hr, hq9⟩; exact ⟨(.tuple #[r, .int .i64 (oL a.data.toList).1]), rfl, ⟨_, _, rfl, (by have h7 := hr; rw [Hp.out] at h7; exact h7), congrArg (Value.int .i64) Hca.out⟩, hq9⟩)) hctx ?_;refine JC.m 1 hctx ?_;refine JC.o hctx ?_ ?_
  ·intro L vals W hL hJ hd K hK;have d2 : (pT2 (aN (p)) (pEq (.int .i64 (ca)))).p (vals 2) W := hd 2 (by kernel_rfl);generalize vals 2 = u2 at d2 hK ⊢;obtain ⟨e0, e1, rfl, he0, he1⟩ := d2;go_simp
   exact hK.out (e0) _ _ (by kernel_rfl) he0 (Q.refl _)
  refine JC.o hctx ?_ ?_
  ·intro L vals W hL hJ hd K hK;have d2 : (pT2 (aN (p)) (pEq (.int .i64 (ca)))).p (vals 2) W := hd 2 (by kernel_rfl);generalize vals 2 = u2 at d2 hK ⊢;obtain ⟨e0, e1, rfl, he0, he1⟩ := d2;obtain rfl : e1 = .int .i64 (ca) := he1;go_simp
   exact hK.out (.int .i64 (ca)) _ _ (by kernel_rfl) rfl (Q.refl _)
  refine Ja.Steps.cons (JC.alloc (n := 0) (cells := [.bool false, .slice none 0 0, .slice none 0 0].toArray) (t := 25) hctx (by kernel_rfl) (by rfl) (by kernel_rfl) (by rfl) (by rfl) (by kernel_rfl) (by rfl) (fun W => NbV.mk (t := 25) (ck := [.b, .s, .s]) (row := [.bool false, .slice none 0 0, .slice none 0 0]) ⟨⟨_, rfl⟩, ⟨_, _, _, rfl⟩, ⟨_, _, _, rfl⟩, trivial⟩ (Bx.new W _ _)) ?_) ?_
  ·intro vals W K hK;go_simp
   exact hK.out _ (by kernel_rfl)
  refine JC.s3 (n := 0) rfl vV hctx ?_;refine JC.p hctx ?_;exact Ja.Steps.nil
 intro L vals w1 hall hJ;clear hAt0;have hq1 := hJ.q;have hG1 := hG0.trans hq1;clear hG0 ;obtain ⟨gX, eX, geX, qX⟩ := hJ.fresh 0 rfl rfl (hall 5 (by decide)) (hall 6 (by decide));obtain ⟨sX0, AX1, kX1, cX1, AX2, kX2, cX2, hX1, nX1⟩ := rR (g := gX) (t := 25) qX (show Nq w1 (vals 3) (p) from hJ.s 3 (hall 3 (by decide)));clear qX;rw [eX];clear eX;have f4 : vals 7 = .int .i64 (ca) := hJ.s 7 (hall 7 (by decide));rw [f4];clear f4;clear hall hJ;go_upto_region 2 with fail
 have hAt1 : At0 w1 [⟨some 5, 0, 32, [.i, .s, .s], .agg #[.int .i64 0, .slice none 0 0, .slice none 0 0], 6, 3⟩] [] w1 := At0.of (Q.refl _) ⟨fun h => (by cases h), trivial⟩ (by simp [dO]) trivial;refine cK (F := ?F2) w1 ([.eq (.string (a)), .gen (pT2 (pRn (p)) (pEq (.int .i64 (ca)))), .gen (pT2 (pRn (p)) (pEq (.int .i64 (ca)))), .gen (pRn (p)), .eq (.int .i64 (ca)), .any, .any, .eq (.int .i64 (ca))] : List Vs) _ _ (by kernel_rfl) hAt1 ?hF2 ?st2 ?en2
 case hF2 =>
  intro vals;simp only [Ja.fillL, Act.put, List.setIfInBounds_toArray, List.set_cons_zero, List.set_cons_succ, Nat.reduceAdd];exact rfl
 case st2 =>
  clear hAt1;intro hctx;refine JC.p hctx ?_;refine JC.ca (fun vals W hN hd hk => (aG0 a W ha).mono (by rintro e W9 ⟨r, rfl, hr, hq9⟩; exact ⟨(.tuple #[r, .int .i64 ((oL a.data.toList).1)]), rfl, ⟨_, _, rfl, (by have h7 := hr; rw [Hp.out] at h7; exact h7), congrArg (Value.int .i64) Hca.out⟩, hq9⟩)) hctx ?_;refine JC.m 1 hctx ?_;refine JC.o hctx ?_ ?_
  ·intro L vals W hL hJ hd K hK;have d2 : (pT2 (pRn (p)) (pEq (.int .i64 (ca)))).p (vals 2) W := hd 2 (by kernel_rfl);generalize vals 2 = u2 at d2 hK ⊢;obtain ⟨e0, e1, rfl, he0, he1⟩ := d2;go_simp
   exact hK.out (e0) _ _ (by kernel_rfl) he0 (Q.refl _)
  refine JC.o hctx ?_ ?_
  ·intro L vals W hL hJ hd K hK;have d2 : (pT2 (pRn (p)) (pEq (.int .i64 (ca)))).p (vals 2) W := hd 2 (by kernel_rfl);generalize vals 2 = u2 at d2 hK ⊢;obtain ⟨e0, e1, rfl, he0, he1⟩ := d2;obtain rfl : e1 = .int .i64 (ca) := he1;go_simp
   exact hK.out (.int .i64 (ca)) _ _ (by kernel_rfl) rfl (Q.refl _)
  refine Ja.Steps.cons (JC.alloc (n := 0) (cells := [.int .i64 0, .slice none 0 0, .slice none 0 0].toArray) (t := 32) hctx (by kernel_rfl) (by rfl) (by kernel_rfl) (by rfl) (by rfl) (by kernel_rfl) (by rfl) (fun W => NbV.mk (t := 32) (ck := [.i, .s, .s]) (row := [.int .i64 0, .slice none 0 0, .slice none 0 0]) ⟨⟨_, rfl⟩, ⟨_, _, _, rfl⟩, ⟨_, _, _, rfl⟩, trivial⟩ (Bx.new W _ _)) ?_) ?_
  ·intro vals W K hK;go_simp
   exact hK.out _ (by kernel_rfl)
  refine JC.s3 (n := 0) rfl fRn hctx ?_;refine JC.p hctx ?_;exact Ja.Steps.nil
 intro L vals w2 hall hJ;clear hAt1;have hq2 := hJ.q;have hG2 := hG1.trans hq2;have hX2 := hX1.q hq2;have nX2 := Nq.q nX1 hq2;clear hG1 hX1 nX1;obtain ⟨gY, eY, geY, qY⟩ := hJ.fresh 0 rfl rfl (hall 5 (by decide)) (hall 6 (by decide));obtain ⟨AY1, kY1, cY1, AY2, kY2, cY2, hY2, nY2⟩ := aFQ (g := gY) (t := 32) qY (show Rq w2 (vals 3) (p) from hJ.s 3 (hall 3 (by decide)));clear qY;rw [eY];clear eY;have f6 : vals 7 = .int .i64 (ca) := hJ.s 7 (hall 7 (by decide));rw [f6];clear f6;clear hall hJ;go_upto_region 3 with fail
 have B2 : Hid (2000 * (sz (p)) + 500000 ≤ LIM) := Lib.hid (by have h0 := Z1.out; rw [aA]; omega);refine bJ (F := ?F3) ([.eq (.int .i64 (ca)), .eq (.int .i64 (ca)), .eq (.bool true), .eq (.bool true), .gen (aN (p)), .gen (pRn (p)), .eq (.bool true), .eq (.bool true), .eq (.bool true), .eq (.bool true), .eq (.bool true), .eq (.bool true)] : List Vs) ?hF3 ?st3 ?en3
 case hF3 =>
  intro vals;simp only [Ja.fillL, Act.put, List.setIfInBounds_toArray, List.set_cons_zero, List.set_cons_succ, Nat.reduceAdd];exact rfl
 case st3 =>
  intro hctx;refine JC.p hctx ?_;refine JC.p hctx ?_;refine JC.u (.bool ((ca) == (ca))) (congrArg Value.bool (beq_iff_eq.2 (rfl))) hctx ?_;refine JC.p hctx ?_;refine JC.l3 (off := 0) hX2 (fun W hN => (Nq.q nX2 hN)) hctx ?_;refine JC.l3 (off := 0) hY2 (fun W hN => (Rq.q nY2 hN)) hctx ?_;refine JC.ca (fun vals W hN hd hk => (aCO _ _ (p) W (hd 4 (by kernel_rfl)) (hd 5 (by kernel_rfl)) B2.out).mono (by rintro e W9 ⟨rfl, hq9⟩; exact ⟨(.bool true), rfl, rfl, hq9⟩)) hctx ?_;refine JC.p hctx ?_;refine JC.p hctx ?_;refine JC.ca (fun vals W hN hd hk => (aAY W (hT.q (hG2.trans hN)) (hPx.q (hG2.trans hN))).mono (by rintro e W9 ⟨rfl, hq9⟩; exact ⟨(.bool true), rfl, rfl, hq9⟩)) hctx ?_;refine JC.p hctx ?_;refine JC.p hctx ?_;exact Ja.Steps.nil
 intro vals w3 hq3 hall;have hG3 := hG2.trans hq3;have hX3 := hX2.q hq3;have nX3 := Nq.q nX2 hq3;have hY3 := hY2.q hq3;have nY3 := Rq.q nY2 hq3;clear hG2 hX2 hY2 nX2 nY2;have f2 : vals 11 = .bool true := hall 11 (by decide);rw [f2];clear f2;clear hall;go_wp2_with fail
 go_ret
 exact ⟨rfl, by rw [← hw0]; exact hG3⟩
end Go.Proofs.YtgpacgadpnpjjaaGreatDoor.K
