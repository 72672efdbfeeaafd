/- ValueShows: for every two strings the law holds: Show of the number that the first one is, and of its product with the other one, is what the document says, or nothing if one is none. No condition.. Part of the proof: texts Jeb. -/
import Derived.Below
import Derived.BigQuiet
import Derived.Deep.Cut
import Derived.Deep.CutBlock
import Derived.Deep.DeepMust
import Derived.Deep.Draws
import Derived.Deep.OwnRows
import Derived.Deep.QuietTactic
import Derived.Deep.RegionHeld3
import Derived.Deep.RegionWith
import Derived.IntWalk
import Derived.Laws.AppendOwn
import Derived.Laws.BitsAllLaws
import Derived.Laws.CopyOwn
import Derived.Laws.IdiomStrings
import Derived.Laws.OwnMore
import Derived.Laws.RangeAny
import Derived.Laws.RangeString
import Derived.Laws.Rows
import Derived.Lib.Hide
import Derived.Lib.IndexBytes
import Derived.Lib.IndexLaws
import Derived.Lib.OthersKept
import Derived.Lib.SliceRun
import Derived.Maps.AppendAt
import Derived.OwnWalk
import Derived.Shelf.Bits.Mul64
import Derived.Shelf.Lays7
import Derived.Shelf.Small.Bits
import Derived.Shelf.Small.Strs
import Derived.Shelf.Small.Utf8
import Derived.Shelf.Small.Wraps
import Derived.Shelf.Spec.BitsCarry
import Derived.Shelf.Spec.TrailingZeros
import Derived.Shelf.Strconv.Itoa0
import Derived.Shelf.Strings.Builder1
import Derived.Shelf.Strings.Builder2
import Derived.Shelf.Strings.Builder2Cap
import Derived.Shelf.Strings.BuilderF
import Derived.Shelf.Strings.BuilderK
import Derived.Shelf.Strings.Cut
import Derived.Shelf.Strings.Prefix
import Derived.Shelf.Strings.Repeat
import Derived.Shelf.Strings.Search1
import Derived.Shelf.Strings.Search2
import Derived.Shelf.Strings.Search3
import Derived.Shelf.Strings.Trim
import Derived.Shelf.Unicode.DecodeSlow
import Derived.Test.YtgpacgadpnpjjaaGreatDoorProg
import Derived.Test.YtgpacgadpnpjjaaGreatDoorQp01
import Derived.Test.YtgpacgadpnpjjaaGreatDoorQp02
import Derived.Test.YtgpacgadpnpjjaaGreatDoorQp03
import Derived.Test.YtgpacgadpnpjjaaGreatDoorQp04
import Derived.Test.YtgpacgadpnpjjaaGreatDoorQp05
import Derived.Test.YtgpacgadpnpjjaaGreatDoorQp06
import Derived.Test.YtgpacgadpnpjjaaGreatDoorQp07
import Derived.Test.YtgpacgadpnpjjaaGreatDoorQp08
import Derived.Test.YtgpacgadpnpjjaaGreatDoorQp09
import Derived.Test.YtgpacgadpnpjjaaGreatDoorQp10
import Derived.Test.YtgpacgadpnpjjaaGreatDoorQp11
import Derived.Test.YtgpacgadpnpjjaaGreatDoorQp12
import Derived.Test.YtgpacgadpnpjjaaGreatDoorQp13
import Derived.Test.YtgpacgadpnpjjaaGreatDoorQp14
import Derived.Test.YtgpacgadpnpjjaaGreatDoorQp15
import Derived.Test.YtgpacgadpnpjjaaGreatDoorQp16
import Derived.Test.YtgpacgadpnpjjaaGreatDoorQp17
import Derived.Test.YtgpacgadpnpjjaaGreatDoorQp18
import Derived.Test.YtgpacgadpnpjjaaGreatDoorQp19
import Derived.Test.YtgpacgadpnpjjaaGreatDoorQp20
import Derived.Test.YtgpacgadpnpjjaaGreatDoorQp21
import Derived.Test.YtgpacgadpnpjjaaGreatDoorQp22
import Derived.Test.YtgpacgadpnpjjaaGreatDoorQp23
import Derived.Test.YtgpacgadpnpjjaaGreatDoorQp24
import Derived.Test.YtgpacgadpnpjjaaGreatDoorQp25
import Derived.Test.YtgpacgadpnpjjaaGreatDoorQp27
import Derived.WalkKit
import Derived.WalkLawsBesides
import Derived.WalkSmall
import Derived.WalkSpells
import Derived.Test.YtgpacgadpnpjjaaGreatDoorQs01
import Derived.Test.YtgpacgadpnpjjaaGreatDoorQs02
import Derived.Test.YtgpacgadpnpjjaaGreatDoorQs04
namespace Go.Proofs.YtgpacgadpnpjjaaGreatDoor.K
open Go.RowKit
open Ma Me
set_option maxRecDepth 100000 in
set_option maxHeartbeats 8000000 in
theorem q_ValueShows (a b : ByteArray) (w : World) (hT : Tb w) (hPx : Px w) (ha : a.size ≤ 9223372036854775806) (hb : b.size ≤ 9223372036854775806) :
  Calls Tryz.prog 5 #[.string a, .string b] w fun e w' => e = .returned (.bool true) ∧ Q w w' := by
 obtain ⟨w0, hw0, hG0⟩ : ∃ x, w = x ∧ Q w x := ⟨w, rfl, Q.refl w⟩
 rw [hw0];obtain ⟨ca, Hca⟩ : ∃ z : Int, Hid ((aV a.data.toList).1 = z) := ⟨_, Lib.hid rfl⟩
 obtain ⟨p, Hp⟩ : ∃ z : Rat, Hid ((aV a.data.toList).2 = z) := ⟨_, Lib.hid rfl⟩
 have Z1 : Hid (sz (p) ≤ 2000) := Lib.hid (by rw [← Hp.out]; exact parse_sz' _);obtain ⟨cb, Hcb⟩ : ∃ z : Int, Hid ((aV b.data.toList).1 = z) := ⟨_, Lib.hid rfl⟩
 obtain ⟨q, Hq⟩ : ∃ z : Rat, Hid ((aV b.data.toList).2 = z) := ⟨_, Lib.hid rfl⟩
 have Z2 : Hid (sz (q) ≤ 2000) := Lib.hid (by rw [← Hq.out]; exact parse_sz' _);have smul := qC p q;have sp : sz p ≤ 2000 := by rw [← Hp.out]; exact parse_sz' _
 have sq : sz q ≤ 2000 := by rw [← Hq.out]; exact parse_sz' _
 obtain ⟨pq, Hpq⟩ : ∃ z : Rat, Hid (p * q = z) := ⟨_, Lib.hid rfl⟩
 have Z3 : Hid (sz (pq) ≤ 4000) := Lib.hid (by rw [← Hpq.out]; omega);clear smul sp sq;go_enter Tryz.func5, Tryz.ntmps5
 go_upto_region 1 with fail
 by_cases hA0 : ca = 0
 ·have HA0 := Lib.hid hA0; clear hA0;by_cases hB0 : cb = 0
  ·have HB0 := Lib.hid hB0; clear hB0;have hAt0 : At0 w0 [⟨some 6, 0, 25, [.b, .s, .s], .agg #[.bool false, .slice none 0 0, .slice none 0 0], 8, 3⟩, ⟨some 7, 0, 32, [.i, .s, .s], .agg #[.int .i64 0, .slice none 0 0, .slice none 0 0], 9, 4⟩] [] w0 := At0.of (Q.refl _) ⟨fun h => (by cases h), fun h => (by cases h), trivial⟩ (by (simp [dO] <;> omega)) trivial;refine cK (F := ?F1) w0 ([.eq (.string (a)), .gen (pT3 (aN (p)) (pRn (p)) (pEq (.bool true))), .gen (pT3 (aN (p)) (pRn (p)) (pEq (.bool true))), .gen (aN (p)), .gen (pRn (p)), .eq (.bool true), .any, .any, .any, .any, .eq (.bool true)] : List Vs) _ _ (by kernel_rfl) hAt0 ?hF1 ?st1 ?en1
   case hF1 =>
    intro vals;simp only [Ja.fillL, Act.put, List.setIfInBounds_toArray, List.set_cons_zero, List.set_cons_succ, Nat.reduceAdd];exact rfl
   case st1 =>
    clear hAt0;intro hctx;refine JC.p hctx ?_;refine JC.ca (fun vals W hN hd hk => (tN a W (hT.q (hG0.trans hN)) ha).mono (by rintro e W9 ⟨x9, y9, rfl, hx9, hy9, hq9⟩; exact ⟨(.tuple #[x9, y9, .bool (decide ((aV a.data.toList).1 = 0))]), rfl, ⟨_, _, _, rfl, (by have h7 := hx9; rw [Hp.out] at h7; exact h7), (by have h7 := hy9; rw [Hp.out] at h7; exact h7), congrArg Value.bool (by rw [Hca.out]; exact decide_eq_true HA0.out)⟩, hq9⟩)) hctx ?_;refine JC.m 1 hctx ?_;refine JC.o hctx ?_ ?_
    ·intro L vals W hL hJ hd K hK;have d2 : (pT3 (aN (p)) (pRn (p)) (pEq (.bool true))).p (vals 2) W := hd 2 (by kernel_rfl);generalize vals 2 = u2 at d2 hK ⊢;obtain ⟨e0, e1, e2, rfl, he0, he1, he2⟩ := d2;go_simp
     exact hK.out (e0) _ _ (by kernel_rfl) he0 (Q.refl _)
    refine JC.o hctx ?_ ?_
    ·intro L vals W hL hJ hd K hK;have d2 : (pT3 (aN (p)) (pRn (p)) (pEq (.bool true))).p (vals 2) W := hd 2 (by kernel_rfl);generalize vals 2 = u2 at d2 hK ⊢;obtain ⟨e0, e1, e2, rfl, he0, he1, he2⟩ := d2;go_simp
     exact hK.out (e1) _ _ (by kernel_rfl) he1 (Q.refl _)
    refine JC.o hctx ?_ ?_
    ·intro L vals W hL hJ hd K hK;have d2 : (pT3 (aN (p)) (pRn (p)) (pEq (.bool true))).p (vals 2) W := hd 2 (by kernel_rfl);generalize vals 2 = u2 at d2 hK ⊢;obtain ⟨e0, e1, e2, rfl, he0, he1, he2⟩ := d2;obtain rfl : e2 = .bool true := he2;go_simp
     exact hK.out (.bool true) _ _ (by kernel_rfl) rfl (Q.refl _)
    refine Ja.Steps.cons (JC.alloc (n := 0) (cells := [.bool false, .slice none 0 0, .slice none 0 0].toArray) (t := 25) hctx (by kernel_rfl) (by rfl) (by kernel_rfl) (by rfl) (by rfl) (by kernel_rfl) (by rfl) (fun W => NbV.mk (t := 25) (ck := [.b, .s, .s]) (row := [.bool false, .slice none 0 0, .slice none 0 0]) ⟨⟨_, rfl⟩, ⟨_, _, _, rfl⟩, ⟨_, _, _, rfl⟩, trivial⟩ (Bx.new W _ _)) ?_) ?_
    ·intro vals W K hK;go_simp
     exact hK.out _ (by kernel_rfl)
    refine Ja.Steps.cons (JC.alloc (n := 1) (cells := [.int .i64 0, .slice none 0 0, .slice none 0 0].toArray) (t := 32) hctx (by kernel_rfl) (by rfl) (by kernel_rfl) (by rfl) (by rfl) (by kernel_rfl) (by rfl) (fun W => NbV.mk (t := 32) (ck := [.i, .s, .s]) (row := [.int .i64 0, .slice none 0 0, .slice none 0 0]) ⟨⟨_, rfl⟩, ⟨_, _, _, rfl⟩, ⟨_, _, _, rfl⟩, trivial⟩ (Bx.new W _ _)) ?_) ?_
    ·intro vals W K hK;go_simp
     exact hK.out _ (by kernel_rfl)
    refine JC.s3 (n := 0) rfl vV hctx ?_;refine JC.s3 (n := 1) rfl fRn hctx ?_;refine JC.p hctx ?_;exact Ja.Steps.nil
   intro L vals w1 hall hJ;clear hAt0;have hq1 := hJ.q;have hG1 := hG0.trans hq1;clear hG0 ;obtain ⟨gX, eX, geX, qX⟩ := hJ.fresh 0 rfl rfl (hall 6 (by decide)) (hall 8 (by decide));obtain ⟨sX0, AX1, kX1, cX1, AX2, kX2, cX2, hX1, nX1⟩ := rR (g := gX) (t := 25) qX (show Nq w1 (vals 3) (p) from hJ.s 3 (hall 3 (by decide)));clear qX;obtain ⟨gY, eY, geY, qY⟩ := hJ.fresh 1 rfl rfl (hall 7 (by decide)) (hall 9 (by decide));obtain ⟨AY1, kY1, cY1, AY2, kY2, cY2, hY1, nY1⟩ := aFQ (g := gY) (t := 32) qY (show Rq w1 (vals 4) (p) from hJ.s 4 (hall 4 (by decide)));clear qY;have neYX : gY ≠ gX := hJ.ne 1 0 (by decide) rfl rfl (hall 7 (by decide)) (hall 6 (by decide)) eY eX;rw [eX];clear eX;rw [eY];clear eY;have f7 : vals 10 = .bool true := hJ.s 10 (hall 10 (by decide));rw [f7];clear f7;clear hall hJ;go_upto_region 2 with fail
   have hAt1 : At0 w1 [⟨some 6, 0, 25, [.b, .s, .s], .agg #[.bool false, .slice none 0 0, .slice none 0 0], 8, 3⟩, ⟨some 7, 0, 32, [.i, .s, .s], .agg #[.int .i64 0, .slice none 0 0, .slice none 0 0], 9, 4⟩] [] w1 := At0.of (Q.refl _) ⟨fun h => (by cases h), fun h => (by cases h), trivial⟩ (by (simp [dO] <;> omega)) trivial;refine cK (F := ?F2) w1 ([.eq (.string (b)), .gen (pT3 (aN (q)) (pRn (q)) (pEq (.bool true))), .gen (pT3 (aN (q)) (pRn (q)) (pEq (.bool true))), .gen (aN (q)), .gen (pRn (q)), .eq (.bool true), .any, .any, .any, .any, .eq (.bool true)] : List Vs) _ _ (by kernel_rfl) hAt1 ?hF2 ?st2 ?en2
   case hF2 =>
    intro vals;simp only [Ja.fillL, Act.put, List.setIfInBounds_toArray, List.set_cons_zero, List.set_cons_succ, Nat.reduceAdd];exact rfl
   case st2 =>
    clear hAt1;intro hctx;refine JC.p hctx ?_;refine JC.ca (fun vals W hN hd hk => (tN b W (hT.q (hG1.trans hN)) hb).mono (by rintro e W9 ⟨x9, y9, rfl, hx9, hy9, hq9⟩; exact ⟨(.tuple #[x9, y9, .bool (decide ((aV b.data.toList).1 = 0))]), rfl, ⟨_, _, _, rfl, (by have h7 := hx9; rw [Hq.out] at h7; exact h7), (by have h7 := hy9; rw [Hq.out] at h7; exact h7), congrArg Value.bool (by rw [Hcb.out]; exact decide_eq_true HB0.out)⟩, hq9⟩)) hctx ?_;refine JC.m 1 hctx ?_;refine JC.o hctx ?_ ?_
    ·intro L vals W hL hJ hd K hK;have d2 : (pT3 (aN (q)) (pRn (q)) (pEq (.bool true))).p (vals 2) W := hd 2 (by kernel_rfl);generalize vals 2 = u2 at d2 hK ⊢;obtain ⟨e0, e1, e2, rfl, he0, he1, he2⟩ := d2;go_simp
     exact hK.out (e0) _ _ (by kernel_rfl) he0 (Q.refl _)
    refine JC.o hctx ?_ ?_
    ·intro L vals W hL hJ hd K hK;have d2 : (pT3 (aN (q)) (pRn (q)) (pEq (.bool true))).p (vals 2) W := hd 2 (by kernel_rfl);generalize vals 2 = u2 at d2 hK ⊢;obtain ⟨e0, e1, e2, rfl, he0, he1, he2⟩ := d2;go_simp
     exact hK.out (e1) _ _ (by kernel_rfl) he1 (Q.refl _)
    refine JC.o hctx ?_ ?_
    ·intro L vals W hL hJ hd K hK;have d2 : (pT3 (aN (q)) (pRn (q)) (pEq (.bool true))).p (vals 2) W := hd 2 (by kernel_rfl);generalize vals 2 = u2 at d2 hK ⊢;obtain ⟨e0, e1, e2, rfl, he0, he1, he2⟩ := d2;obtain rfl : e2 = .bool true := he2;go_simp
     exact hK.out (.bool true) _ _ (by kernel_rfl) rfl (Q.refl _)
    refine Ja.Steps.cons (JC.alloc (n := 0) (cells := [.bool false, .slice none 0 0, .slice none 0 0].toArray) (t := 25) hctx (by kernel_rfl) (by rfl) (by kernel_rfl) (by rfl) (by rfl) (by kernel_rfl) (by rfl) (fun W => NbV.mk (t := 25) (ck := [.b, .s, .s]) (row := [.bool false, .slice none 0 0, .slice none 0 0]) ⟨⟨_, rfl⟩, ⟨_, _, _, rfl⟩, ⟨_, _, _, rfl⟩, trivial⟩ (Bx.new W _ _)) ?_) ?_
    ·intro vals W K hK;go_simp
     exact hK.out _ (by kernel_rfl)
    refine Ja.Steps.cons (JC.alloc (n := 1) (cells := [.int .i64 0, .slice none 0 0, .slice none 0 0].toArray) (t := 32) hctx (by kernel_rfl) (by rfl) (by kernel_rfl) (by rfl) (by rfl) (by kernel_rfl) (by rfl) (fun W => NbV.mk (t := 32) (ck := [.i, .s, .s]) (row := [.int .i64 0, .slice none 0 0, .slice none 0 0]) ⟨⟨_, rfl⟩, ⟨_, _, _, rfl⟩, ⟨_, _, _, rfl⟩, trivial⟩ (Bx.new W _ _)) ?_) ?_
    ·intro vals W K hK;go_simp
     exact hK.out _ (by kernel_rfl)
    refine JC.s3 (n := 0) rfl vV hctx ?_;refine JC.s3 (n := 1) rfl fRn hctx ?_;refine JC.p hctx ?_;exact Ja.Steps.nil
   intro L vals w2 hall hJ;clear hAt1;have hq2 := hJ.q;have hG2 := hG1.trans hq2;have hX2 := hX1.q hq2;have nX2 := Nq.q nX1 hq2;have hY2 := hY1.q hq2;have nY2 := Rq.q nY1 hq2;clear hG1 hX1 hY1 nX1 nY1;obtain ⟨gZ, eZ, geZ, qZ⟩ := hJ.fresh 0 rfl rfl (hall 6 (by decide)) (hall 8 (by decide));obtain ⟨sZ0, AZ1, kZ1, cZ1, AZ2, kZ2, cZ2, hZ2, nZ2⟩ := rR (g := gZ) (t := 25) qZ (show Nq w2 (vals 3) (q) from hJ.s 3 (hall 3 (by decide)));clear qZ;obtain ⟨gU, eU, geU, qU⟩ := hJ.fresh 1 rfl rfl (hall 7 (by decide)) (hall 9 (by decide));obtain ⟨AU1, kU1, cU1, AU2, kU2, cU2, hU2, nU2⟩ := aFQ (g := gU) (t := 32) qU (show Rq w2 (vals 4) (q) from hJ.s 4 (hall 4 (by decide)));clear qU;have neUZ : gU ≠ gZ := hJ.ne 1 0 (by decide) rfl rfl (hall 7 (by decide)) (hall 6 (by decide)) eU eZ;rw [eZ];clear eZ;rw [eU];clear eU;have f10 : vals 10 = .bool true := hJ.s 10 (hall 10 (by decide));rw [f10];clear f10;clear hall hJ;go_upto_region 3 with fail
   refine bJ (F := ?F3) ([.eq (.bool true), .eq (.bool false), .eq (.bool false), .eq (.bool true), .eq (.bool false), .eq (.bool false)] : List Vs) ?hF3 ?st3 ?en3
   case hF3 =>
    intro vals;simp only [Ja.fillL, Act.put, List.setIfInBounds_toArray, List.set_cons_zero, List.set_cons_succ, Nat.reduceAdd];exact rfl
   case st3 =>
    intro hctx;refine JC.p hctx ?_;refine JC.p hctx ?_;refine JC.p hctx ?_;refine JC.p hctx ?_;refine JC.p hctx ?_;refine JC.p hctx ?_;exact Ja.Steps.nil
   intro vals w3 hq3 hall;have hG3 := hG2.trans hq3;have hX3 := hX2.q hq3;have nX3 := Nq.q nX2 hq3;have hY3 := hY2.q hq3;have nY3 := Rq.q nY2 hq3;have hZ3 := hZ2.q hq3;have nZ3 := Nq.q nZ2 hq3;have hU3 := hU2.q hq3;have nU3 := Rq.q nU2 hq3;clear hG2 hX2 hY2 hZ2 hU2 nX2 nY2 nZ2 nU2;have f28 : vals 5 = .bool false := hall 5 (by decide);rw [f28];clear f28;clear hall;go_upto_region 5 with fail
   have B4 : Hid (2000 * (sz (p)) + 500000 ≤ LIM) := Lib.hid (by have h0 := Z1.out; rw [aA]; omega);have B5 : Hid (2000 * sz (p) + 10000000 ≤ LIM) := Lib.hid (by have h0 := Z1.out; rw [aA] at *; omega);have B6 : Hid (16 * (sz (p) + sz (q)) + 100 ≤ LIM) := Lib.hid (by have h0 := Z1.out; have h1 := Z2.out; rw [aA]; omega);have B7 : Hid (2000 * (sz (pq)) + 500000 ≤ LIM) := Lib.hid (by have h0 := Z3.out; rw [aA]; omega);have B8 : Hid (1000 * (sz (p) + sz (q)) + 10000 ≤ LIM) := Lib.hid (by have h0 := Z1.out; have h1 := Z2.out; rw [aA] at *; omega);have B9 : Hid (2000 * sz (pq) + 10000000 ≤ LIM) := Lib.hid (by have h0 := Z3.out; rw [aA] at *; omega);refine oO (F := ?F4) ([.gen (aN (p)), .eq (.string (ofK (oM (p)))), .gen (pRn (p)), .eq (.string (ofK (oM (p)))), .eq (.bool true), .eq (.bool true), .gen (aN (p)), .gen (aN (q)), .gen (aN (pq)), .eq (.string (ofK (oM (pq)))), .gen (pRn (p)), .gen (pRn (q)), .gen (pRn (pq)), .eq (.string (ofK (oM (pq)))), .eq (.bool true), .eq (.bool true), .eq (.bool true), .eq (.bool true), .eq (.bool true), .eq (.bool true)] : List Vs) ?hF4 ?st4 ?en4
   case hF4 =>
    intro vals;simp only [Ja.fillL, Act.put, List.setIfInBounds_toArray, List.set_cons_zero, List.set_cons_succ, Nat.reduceAdd];exact rfl
   case st4 =>
    intro hctx;refine JC.l3 (off := 0) hX3 (fun W hN => (Nq.q nX3 hN)) hctx ?_;refine JC.ca (fun vals W hN hd hk => (aFq _ (p) W (hT.q (hG3.trans hN)) (hPx.q (hG3.trans hN)) (hd 0 (by kernel_rfl)) B4.out).mono (by rintro e W9 ⟨t, rfl, ht, hq9⟩; exact ⟨(.string t), rfl, (congrArg Value.string (zV ht)), hq9⟩)) hctx ?_;refine JC.l3 (off := 0) hY3 (fun W hN => (Rq.q nY3 hN)) hctx ?_;refine JC.ca (fun vals W hN hd hk => (aHr _ (p) W (hd 2 (by kernel_rfl)) B5.out).mono (by rintro e W9 ⟨t, rfl, ht, hq9⟩; exact ⟨(.string t), rfl, (congrArg Value.string (zV ht)), hq9⟩)) hctx ?_;refine JC.o hctx ?_ ?_
    ·intro L vals W hL hJ hd K hK;have d1 : vals 1 = .string (ofK (oM (p))) := hd 1 (by kernel_rfl);generalize vals 1 = u1 at d1 hK ⊢;subst d1;have d3 : vals 3 = .string (ofK (oM (p))) := hd 3 (by kernel_rfl);generalize vals 3 = u3 at d3 hK ⊢;subst d3;go_simp
     exact hK.out (.bool true) _ _ (by kernel_rfl) rfl (Q.refl _)
    refine JC.p hctx ?_;refine JC.l3 (off := 0) hX3 (fun W hN => (Nq.q nX3 hN)) hctx ?_;refine JC.l3 (off := 0) hZ3 (fun W hN => (Nq.q nZ3 hN)) hctx ?_;refine JC.ca (fun vals W hN hd hk => (rQ _ _ (p) (q) W (hT.q (hG3.trans hN)) (hd 6 (by kernel_rfl)) (hd 7 (by kernel_rfl)) B6.out).mono (by rintro e W9 ⟨r, rfl, hr, hq9⟩; exact ⟨r, rfl, (by have h8 := hr; rw [Hpq.out] at h8; exact h8), hq9⟩)) hctx ?_;refine JC.ca (fun vals W hN hd hk => (aFq _ (pq) W (hT.q (hG3.trans hN)) (hPx.q (hG3.trans hN)) (hd 8 (by kernel_rfl)) B7.out).mono (by rintro e W9 ⟨t, rfl, ht, hq9⟩; exact ⟨(.string t), rfl, (congrArg Value.string (zV ht)), hq9⟩)) hctx ?_;refine JC.l3 (off := 0) hY3 (fun W hN => (Rq.q nY3 hN)) hctx ?_;refine JC.l3 (off := 0) hU3 (fun W hN => (Rq.q nU3 hN)) hctx ?_;refine JC.ca (fun vals W hN hd hk => (aGr _ _ (p) (q) W (hd 10 (by kernel_rfl)) (hd 11 (by kernel_rfl)) B8.out).mono (by rintro e W9 ⟨r, rfl, hr, hq9⟩; exact ⟨r, rfl, (by have h8 := hr; rw [Hpq.out] at h8; exact h8), hq9⟩)) hctx ?_;refine JC.ca (fun vals W hN hd hk => (aHr _ (pq) W (hd 12 (by kernel_rfl)) B9.out).mono (by rintro e W9 ⟨t, rfl, ht, hq9⟩; exact ⟨(.string t), rfl, (congrArg Value.string (zV ht)), hq9⟩)) hctx ?_;refine JC.o hctx ?_ ?_
    ·intro L vals W hL hJ hd K hK;have d9 : vals 9 = .string (ofK (oM (pq))) := hd 9 (by kernel_rfl);generalize vals 9 = u9 at d9 hK ⊢;subst d9;have d13 : vals 13 = .string (ofK (oM (pq))) := hd 13 (by kernel_rfl);generalize vals 13 = u13 at d13 hK ⊢;subst d13;go_simp
     exact hK.out (.bool true) _ _ (by kernel_rfl) rfl (Q.refl _)
    refine JC.p hctx ?_;refine JC.p hctx ?_;refine JC.ca (fun vals W hN hd hk => (aAY W (hT.q (hG3.trans hN)) (hPx.q (hG3.trans hN))).mono (by rintro e W9 ⟨rfl, hq9⟩; exact ⟨(.bool true), rfl, rfl, hq9⟩)) hctx ?_;refine JC.p hctx ?_;refine JC.p hctx ?_;exact Ja.Steps.nil
   intro vals w4 hq4 hall;have hG4 := hG3.trans hq4;have hX4 := hX3.q hq4;have nX4 := Nq.q nX3 hq4;have hY4 := hY3.q hq4;have nY4 := Rq.q nY3 hq4;have hZ4 := hZ3.q hq4;have nZ4 := Nq.q nZ3 hq4;have hU4 := hU3.q hq4;have nU4 := Rq.q nU3 hq4;clear hG3 hX3 hY3 hZ3 hU3 nX3 nY3 nZ3 nU3;have f4 : vals 19 = .bool true := hall 19 (by decide);rw [f4];clear f4;clear hall;go_wp2_with fail
   go_ret
   exact ⟨rfl, by rw [← hw0]; exact hG4⟩
  ·have HB0 := Lib.hid hB0; clear hB0;have hAt0 : At0 w0 [⟨some 6, 0, 25, [.b, .s, .s], .agg #[.bool false, .slice none 0 0, .slice none 0 0], 8, 3⟩, ⟨some 7, 0, 32, [.i, .s, .s], .agg #[.int .i64 0, .slice none 0 0, .slice none 0 0], 9, 4⟩] [] w0 := At0.of (Q.refl _) ⟨fun h => (by cases h), fun h => (by cases h), trivial⟩ (by (simp [dO] <;> omega)) trivial;refine cK (F := ?F5) w0 ([.eq (.string (a)), .gen (pT3 (aN (p)) (pRn (p)) (pEq (.bool true))), .gen (pT3 (aN (p)) (pRn (p)) (pEq (.bool true))), .gen (aN (p)), .gen (pRn (p)), .eq (.bool true), .any, .any, .any, .any, .eq (.bool true)] : List Vs) _ _ (by kernel_rfl) hAt0 ?hF5 ?st5 ?en5
   case hF5 =>
    intro vals;simp only [Ja.fillL, Act.put, List.setIfInBounds_toArray, List.set_cons_zero, List.set_cons_succ, Nat.reduceAdd];exact rfl
   case st5 =>
    clear hAt0;intro hctx;refine JC.p hctx ?_;refine JC.ca (fun vals W hN hd hk => (tN a W (hT.q (hG0.trans hN)) ha).mono (by rintro e W9 ⟨x9, y9, rfl, hx9, hy9, hq9⟩; exact ⟨(.tuple #[x9, y9, .bool (decide ((aV a.data.toList).1 = 0))]), rfl, ⟨_, _, _, rfl, (by have h7 := hx9; rw [Hp.out] at h7; exact h7), (by have h7 := hy9; rw [Hp.out] at h7; exact h7), congrArg Value.bool (by rw [Hca.out]; exact decide_eq_true HA0.out)⟩, hq9⟩)) hctx ?_;refine JC.m 1 hctx ?_;refine JC.o hctx ?_ ?_
    ·intro L vals W hL hJ hd K hK;have d2 : (pT3 (aN (p)) (pRn (p)) (pEq (.bool true))).p (vals 2) W := hd 2 (by kernel_rfl);generalize vals 2 = u2 at d2 hK ⊢;obtain ⟨e0, e1, e2, rfl, he0, he1, he2⟩ := d2;go_simp
     exact hK.out (e0) _ _ (by kernel_rfl) he0 (Q.refl _)
    refine JC.o hctx ?_ ?_
    ·intro L vals W hL hJ hd K hK;have d2 : (pT3 (aN (p)) (pRn (p)) (pEq (.bool true))).p (vals 2) W := hd 2 (by kernel_rfl);generalize vals 2 = u2 at d2 hK ⊢;obtain ⟨e0, e1, e2, rfl, he0, he1, he2⟩ := d2;go_simp
     exact hK.out (e1) _ _ (by kernel_rfl) he1 (Q.refl _)
    refine JC.o hctx ?_ ?_
    ·intro L vals W hL hJ hd K hK;have d2 : (pT3 (aN (p)) (pRn (p)) (pEq (.bool true))).p (vals 2) W := hd 2 (by kernel_rfl);generalize vals 2 = u2 at d2 hK ⊢;obtain ⟨e0, e1, e2, rfl, he0, he1, he2⟩ := d2;obtain rfl : e2 = .bool true := he2;go_simp
     exact hK.out (.bool true) _ _ (by kernel_rfl) rfl (Q.refl _)
    refine Ja.Steps.cons (JC.alloc (n := 0) (cells := [.bool false, .slice none 0 0, .slice none 0 0].toArray) (t := 25) hctx (by kernel_rfl) (by rfl) (by kernel_rfl) (by rfl) (by rfl) (by kernel_rfl) (by rfl) (fun W => NbV.mk (t := 25) (ck := [.b, .s, .s]) (row := [.bool false, .slice none 0 0, .slice none 0 0]) ⟨⟨_, rfl⟩, ⟨_, _, _, rfl⟩, ⟨_, _, _, rfl⟩, trivial⟩ (Bx.new W _ _)) ?_) ?_
    ·intro vals W K hK;go_simp
     exact hK.out _ (by kernel_rfl)
    refine Ja.Steps.cons (JC.alloc (n := 1) (cells := [.int .i64 0, .slice none 0 0, .slice none 0 0].toArray) (t := 32) hctx (by kernel_rfl) (by rfl) (by kernel_rfl) (by rfl) (by rfl) (by kernel_rfl) (by rfl) (fun W => NbV.mk (t := 32) (ck := [.i, .s, .s]) (row := [.int .i64 0, .slice none 0 0, .slice none 0 0]) ⟨⟨_, rfl⟩, ⟨_, _, _, rfl⟩, ⟨_, _, _, rfl⟩, trivial⟩ (Bx.new W _ _)) ?_) ?_
    ·intro vals W K hK;go_simp
     exact hK.out _ (by kernel_rfl)
    refine JC.s3 (n := 0) rfl vV hctx ?_;refine JC.s3 (n := 1) rfl fRn hctx ?_;refine JC.p hctx ?_;exact Ja.Steps.nil
   intro L vals w1 hall hJ;clear hAt0;have hq1 := hJ.q;have hG1 := hG0.trans hq1;clear hG0 ;obtain ⟨gX, eX, geX, qX⟩ := hJ.fresh 0 rfl rfl (hall 6 (by decide)) (hall 8 (by decide));obtain ⟨sX0, AX1, kX1, cX1, AX2, kX2, cX2, hX1, nX1⟩ := rR (g := gX) (t := 25) qX (show Nq w1 (vals 3) (p) from hJ.s 3 (hall 3 (by decide)));clear qX;obtain ⟨gY, eY, geY, qY⟩ := hJ.fresh 1 rfl rfl (hall 7 (by decide)) (hall 9 (by decide));obtain ⟨AY1, kY1, cY1, AY2, kY2, cY2, hY1, nY1⟩ := aFQ (g := gY) (t := 32) qY (show Rq w1 (vals 4) (p) from hJ.s 4 (hall 4 (by decide)));clear qY;have neYX : gY ≠ gX := hJ.ne 1 0 (by decide) rfl rfl (hall 7 (by decide)) (hall 6 (by decide)) eY eX;rw [eX];clear eX;rw [eY];clear eY;have f7 : vals 10 = .bool true := hJ.s 10 (hall 10 (by decide));rw [f7];clear f7;clear hall hJ;go_upto_region 2 with fail
   have hAt1 : At0 w1 [⟨some 6, 0, 25, [.b, .s, .s], .agg #[.bool false, .slice none 0 0, .slice none 0 0], 8, 3⟩, ⟨some 7, 0, 32, [.i, .s, .s], .agg #[.int .i64 0, .slice none 0 0, .slice none 0 0], 9, 4⟩] [] w1 := At0.of (Q.refl _) ⟨fun h => (by cases h), fun h => (by cases h), trivial⟩ (by (simp [dO] <;> omega)) trivial;refine cK (F := ?F6) w1 ([.eq (.string (b)), .gen (pT3 (aN (q)) (pRn (q)) (pEq (.bool false))), .gen (pT3 (aN (q)) (pRn (q)) (pEq (.bool false))), .gen (aN (q)), .gen (pRn (q)), .eq (.bool false), .any, .any, .any, .any, .eq (.bool false)] : List Vs) _ _ (by kernel_rfl) hAt1 ?hF6 ?st6 ?en6
   case hF6 =>
    intro vals;simp only [Ja.fillL, Act.put, List.setIfInBounds_toArray, List.set_cons_zero, List.set_cons_succ, Nat.reduceAdd];exact rfl
   case st6 =>
    clear hAt1;intro hctx;refine JC.p hctx ?_;refine JC.ca (fun vals W hN hd hk => (tN b W (hT.q (hG1.trans hN)) hb).mono (by rintro e W9 ⟨x9, y9, rfl, hx9, hy9, hq9⟩; exact ⟨(.tuple #[x9, y9, .bool (decide ((aV b.data.toList).1 = 0))]), rfl, ⟨_, _, _, rfl, (by have h7 := hx9; rw [Hq.out] at h7; exact h7), (by have h7 := hy9; rw [Hq.out] at h7; exact h7), congrArg Value.bool (by rw [Hcb.out]; exact decide_eq_false HB0.out)⟩, hq9⟩)) hctx ?_;refine JC.m 1 hctx ?_;refine JC.o hctx ?_ ?_
    ·intro L vals W hL hJ hd K hK;have d2 : (pT3 (aN (q)) (pRn (q)) (pEq (.bool false))).p (vals 2) W := hd 2 (by kernel_rfl);generalize vals 2 = u2 at d2 hK ⊢;obtain ⟨e0, e1, e2, rfl, he0, he1, he2⟩ := d2;go_simp
     exact hK.out (e0) _ _ (by kernel_rfl) he0 (Q.refl _)
    refine JC.o hctx ?_ ?_
    ·intro L vals W hL hJ hd K hK;have d2 : (pT3 (aN (q)) (pRn (q)) (pEq (.bool false))).p (vals 2) W := hd 2 (by kernel_rfl);generalize vals 2 = u2 at d2 hK ⊢;obtain ⟨e0, e1, e2, rfl, he0, he1, he2⟩ := d2;go_simp
     exact hK.out (e1) _ _ (by kernel_rfl) he1 (Q.refl _)
    refine JC.o hctx ?_ ?_
    ·intro L vals W hL hJ hd K hK;have d2 : (pT3 (aN (q)) (pRn (q)) (pEq (.bool false))).p (vals 2) W := hd 2 (by kernel_rfl);generalize vals 2 = u2 at d2 hK ⊢;obtain ⟨e0, e1, e2, rfl, he0, he1, he2⟩ := d2;obtain rfl : e2 = .bool false := he2;go_simp
     exact hK.out (.bool false) _ _ (by kernel_rfl) rfl (Q.refl _)
    refine Ja.Steps.cons (JC.alloc (n := 0) (cells := [.bool false, .slice none 0 0, .slice none 0 0].toArray) (t := 25) hctx (by kernel_rfl) (by rfl) (by kernel_rfl) (by rfl) (by rfl) (by kernel_rfl) (by rfl) (fun W => NbV.mk (t := 25) (ck := [.b, .s, .s]) (row := [.bool false, .slice none 0 0, .slice none 0 0]) ⟨⟨_, rfl⟩, ⟨_, _, _, rfl⟩, ⟨_, _, _, rfl⟩, trivial⟩ (Bx.new W _ _)) ?_) ?_
    ·intro vals W K hK;go_simp
     exact hK.out _ (by kernel_rfl)
    refine Ja.Steps.cons (JC.alloc (n := 1) (cells := [.int .i64 0, .slice none 0 0, .slice none 0 0].toArray) (t := 32) hctx (by kernel_rfl) (by rfl) (by kernel_rfl) (by rfl) (by rfl) (by kernel_rfl) (by rfl) (fun W => NbV.mk (t := 32) (ck := [.i, .s, .s]) (row := [.int .i64 0, .slice none 0 0, .slice none 0 0]) ⟨⟨_, rfl⟩, ⟨_, _, _, rfl⟩, ⟨_, _, _, rfl⟩, trivial⟩ (Bx.new W _ _)) ?_) ?_
    ·intro vals W K hK;go_simp
     exact hK.out _ (by kernel_rfl)
    refine JC.s3 (n := 0) rfl vV hctx ?_;refine JC.s3 (n := 1) rfl fRn hctx ?_;refine JC.p hctx ?_;exact Ja.Steps.nil
   intro L vals w2 hall hJ;clear hAt1;have hq2 := hJ.q;have hG2 := hG1.trans hq2;have hX2 := hX1.q hq2;have nX2 := Nq.q nX1 hq2;have hY2 := hY1.q hq2;have nY2 := Rq.q nY1 hq2;clear hG1 hX1 hY1 nX1 nY1;obtain ⟨gZ, eZ, geZ, qZ⟩ := hJ.fresh 0 rfl rfl (hall 6 (by decide)) (hall 8 (by decide));obtain ⟨sZ0, AZ1, kZ1, cZ1, AZ2, kZ2, cZ2, hZ2, nZ2⟩ := rR (g := gZ) (t := 25) qZ (show Nq w2 (vals 3) (q) from hJ.s 3 (hall 3 (by decide)));clear qZ;obtain ⟨gU, eU, geU, qU⟩ := hJ.fresh 1 rfl rfl (hall 7 (by decide)) (hall 9 (by decide));obtain ⟨AU1, kU1, cU1, AU2, kU2, cU2, hU2, nU2⟩ := aFQ (g := gU) (t := 32) qU (show Rq w2 (vals 4) (q) from hJ.s 4 (hall 4 (by decide)));clear qU;have neUZ : gU ≠ gZ := hJ.ne 1 0 (by decide) rfl rfl (hall 7 (by decide)) (hall 6 (by decide)) eU eZ;rw [eZ];clear eZ;rw [eU];clear eU;have f10 : vals 10 = .bool false := hJ.s 10 (hall 10 (by decide));rw [f10];clear f10;clear hall hJ;go_upto_region 3 with fail
   refine bJ (F := ?F7) ([.eq (.bool true), .eq (.bool false), .eq (.bool false), .eq (.bool false), .eq (.bool true), .eq (.bool true)] : List Vs) ?hF7 ?st7 ?en7
   case hF7 =>
    intro vals;simp only [Ja.fillL, Act.put, List.setIfInBounds_toArray, List.set_cons_zero, List.set_cons_succ, Nat.reduceAdd];exact rfl
   case st7 =>
    intro hctx;refine JC.p hctx ?_;refine JC.p hctx ?_;refine JC.p hctx ?_;refine JC.p hctx ?_;refine JC.p hctx ?_;refine JC.p hctx ?_;exact Ja.Steps.nil
   intro vals w3 hq3 hall;have hG3 := hG2.trans hq3;have hX3 := hX2.q hq3;have nX3 := Nq.q nX2 hq3;have hY3 := hY2.q hq3;have nY3 := Rq.q nY2 hq3;have hZ3 := hZ2.q hq3;have nZ3 := Nq.q nZ2 hq3;have hU3 := hU2.q hq3;have nU3 := Rq.q nU2 hq3;clear hG2 hX2 hY2 hZ2 hU2 nX2 nY2 nZ2 nU2;have f28 : vals 5 = .bool true := hall 5 (by decide);rw [f28];clear f28;clear hall;go_upto_region 4 with fail
   refine bJ (F := ?F8) ([.eq (.bool true), .eq (.bool true)] : List Vs) ?hF8 ?st8 ?en8
   case hF8 =>
    intro vals;simp only [Ja.fillL, Act.put, List.setIfInBounds_toArray, List.set_cons_zero, List.set_cons_succ, Nat.reduceAdd];exact rfl
   case st8 =>
    intro hctx;refine JC.ca (fun vals W hN hd hk => (aAY W (hT.q (hG3.trans hN)) (hPx.q (hG3.trans hN))).mono (by rintro e W9 ⟨rfl, hq9⟩; exact ⟨(.bool true), rfl, rfl, hq9⟩)) hctx ?_;refine JC.p hctx ?_;exact Ja.Steps.nil
   intro vals w4 hq4 hall;have hG4 := hG3.trans hq4;have hX4 := hX3.q hq4;have nX4 := Nq.q nX3 hq4;have hY4 := hY3.q hq4;have nY4 := Rq.q nY3 hq4;have hZ4 := hZ3.q hq4;have nZ4 := Nq.q nZ3 hq4;have hU4 := hU3.q hq4;have nU4 := Rq.q nU3 hq4;clear hG3 hX3 hY3 hZ3 hU3 nX3 nY3 nZ3 nU3;have f4 : vals 1 = .bool true := hall 1 (by decide);rw [f4];clear f4;clear hall;go_wp2_with fail
   go_ret
   exact ⟨rfl, by rw [← hw0]; exact hG4⟩
 ·have HA0 := Lib.hid hA0; clear hA0;obtain ⟨b9, Hb9⟩ : ∃ x : Bool, Hid (decide ((aV b.data.toList).1 = 0) = x) := ⟨_, Lib.hid rfl⟩
  have hAt0 : At0 w0 [⟨some 6, 0, 25, [.b, .s, .s], .agg #[.bool false, .slice none 0 0, .slice none 0 0], 8, 3⟩, ⟨some 7, 0, 32, [.i, .s, .s], .agg #[.int .i64 0, .slice none 0 0, .slice none 0 0], 9, 4⟩] [] w0 := At0.of (Q.refl _) ⟨fun h => (by cases h), fun h => (by cases h), trivial⟩ (by (simp [dO] <;> omega)) trivial;refine cK (F := ?F9) w0 ([.eq (.string (a)), .gen (pT3 (aN (p)) (pRn (p)) (pEq (.bool false))), .gen (pT3 (aN (p)) (pRn (p)) (pEq (.bool false))), .gen (aN (p)), .gen (pRn (p)), .eq (.bool false), .any, .any, .any, .any, .eq (.bool false)] : List Vs) _ _ (by kernel_rfl) hAt0 ?hF9 ?st9 ?en9
  case hF9 =>
   intro vals;simp only [Ja.fillL, Act.put, List.setIfInBounds_toArray, List.set_cons_zero, List.set_cons_succ, Nat.reduceAdd];exact rfl
  case st9 =>
   clear hAt0;intro hctx;refine JC.p hctx ?_;refine JC.ca (fun vals W hN hd hk => (tN a W (hT.q (hG0.trans hN)) ha).mono (by rintro e W9 ⟨x9, y9, rfl, hx9, hy9, hq9⟩; exact ⟨(.tuple #[x9, y9, .bool (decide ((aV a.data.toList).1 = 0))]), rfl, ⟨_, _, _, rfl, (by have h7 := hx9; rw [Hp.out] at h7; exact h7), (by have h7 := hy9; rw [Hp.out] at h7; exact h7), congrArg Value.bool (by rw [Hca.out]; exact decide_eq_false HA0.out)⟩, hq9⟩)) hctx ?_;refine JC.m 1 hctx ?_;refine JC.o hctx ?_ ?_
   ·intro L vals W hL hJ hd K hK;have d2 : (pT3 (aN (p)) (pRn (p)) (pEq (.bool false))).p (vals 2) W := hd 2 (by kernel_rfl);generalize vals 2 = u2 at d2 hK ⊢;obtain ⟨e0, e1, e2, rfl, he0, he1, he2⟩ := d2;go_simp
    exact hK.out (e0) _ _ (by kernel_rfl) he0 (Q.refl _)
   refine JC.o hctx ?_ ?_
   ·intro L vals W hL hJ hd K hK;have d2 : (pT3 (aN (p)) (pRn (p)) (pEq (.bool false))).p (vals 2) W := hd 2 (by kernel_rfl);generalize vals 2 = u2 at d2 hK ⊢;obtain ⟨e0, e1, e2, rfl, he0, he1, he2⟩ := d2;go_simp
    exact hK.out (e1) _ _ (by kernel_rfl) he1 (Q.refl _)
   refine JC.o hctx ?_ ?_
   ·intro L vals W hL hJ hd K hK;have d2 : (pT3 (aN (p)) (pRn (p)) (pEq (.bool false))).p (vals 2) W := hd 2 (by kernel_rfl);generalize vals 2 = u2 at d2 hK ⊢;obtain ⟨e0, e1, e2, rfl, he0, he1, he2⟩ := d2;obtain rfl : e2 = .bool false := he2;go_simp
    exact hK.out (.bool false) _ _ (by kernel_rfl) rfl (Q.refl _)
   refine Ja.Steps.cons (JC.alloc (n := 0) (cells := [.bool false, .slice none 0 0, .slice none 0 0].toArray) (t := 25) hctx (by kernel_rfl) (by rfl) (by kernel_rfl) (by rfl) (by rfl) (by kernel_rfl) (by rfl) (fun W => NbV.mk (t := 25) (ck := [.b, .s, .s]) (row := [.bool false, .slice none 0 0, .slice none 0 0]) ⟨⟨_, rfl⟩, ⟨_, _, _, rfl⟩, ⟨_, _, _, rfl⟩, trivial⟩ (Bx.new W _ _)) ?_) ?_
   ·intro vals W K hK;go_simp
    exact hK.out _ (by kernel_rfl)
   refine Ja.Steps.cons (JC.alloc (n := 1) (cells := [.int .i64 0, .slice none 0 0, .slice none 0 0].toArray) (t := 32) hctx (by kernel_rfl) (by rfl) (by kernel_rfl) (by rfl) (by rfl) (by kernel_rfl) (by rfl) (fun W => NbV.mk (t := 32) (ck := [.i, .s, .s]) (row := [.int .i64 0, .slice none 0 0, .slice none 0 0]) ⟨⟨_, rfl⟩, ⟨_, _, _, rfl⟩, ⟨_, _, _, rfl⟩, trivial⟩ (Bx.new W _ _)) ?_) ?_
   ·intro vals W K hK;go_simp
    exact hK.out _ (by kernel_rfl)
   refine JC.s3 (n := 0) rfl vV hctx ?_;refine JC.s3 (n := 1) rfl fRn hctx ?_;refine JC.p hctx ?_;exact Ja.Steps.nil
  intro L vals w1 hall hJ;clear hAt0;have hq1 := hJ.q;have hG1 := hG0.trans hq1;clear hG0 ;obtain ⟨gX, eX, geX, qX⟩ := hJ.fresh 0 rfl rfl (hall 6 (by decide)) (hall 8 (by decide));obtain ⟨sX0, AX1, kX1, cX1, AX2, kX2, cX2, hX1, nX1⟩ := rR (g := gX) (t := 25) qX (show Nq w1 (vals 3) (p) from hJ.s 3 (hall 3 (by decide)));clear qX;obtain ⟨gY, eY, geY, qY⟩ := hJ.fresh 1 rfl rfl (hall 7 (by decide)) (hall 9 (by decide));obtain ⟨AY1, kY1, cY1, AY2, kY2, cY2, hY1, nY1⟩ := aFQ (g := gY) (t := 32) qY (show Rq w1 (vals 4) (p) from hJ.s 4 (hall 4 (by decide)));clear qY;have neYX : gY ≠ gX := hJ.ne 1 0 (by decide) rfl rfl (hall 7 (by decide)) (hall 6 (by decide)) eY eX;rw [eX];clear eX;rw [eY];clear eY;have f7 : vals 10 = .bool false := hJ.s 10 (hall 10 (by decide));rw [f7];clear f7;clear hall hJ;go_upto_region 2 with fail
  have hAt1 : At0 w1 [⟨some 6, 0, 25, [.b, .s, .s], .agg #[.bool false, .slice none 0 0, .slice none 0 0], 8, 3⟩, ⟨some 7, 0, 32, [.i, .s, .s], .agg #[.int .i64 0, .slice none 0 0, .slice none 0 0], 9, 4⟩] [] w1 := At0.of (Q.refl _) ⟨fun h => (by cases h), fun h => (by cases h), trivial⟩ (by (simp [dO] <;> omega)) trivial;refine cK (F := ?F10) w1 ([.eq (.string (b)), .gen (pT3 (aN (q)) (pRn (q)) (pEq (.bool (b9)))), .gen (pT3 (aN (q)) (pRn (q)) (pEq (.bool (b9)))), .gen (aN (q)), .gen (pRn (q)), .eq (.bool (b9)), .any, .any, .any, .any, .eq (.bool (b9))] : List Vs) _ _ (by kernel_rfl) hAt1 ?hF10 ?st10 ?en10
  case hF10 =>
   intro vals;simp only [Ja.fillL, Act.put, List.setIfInBounds_toArray, List.set_cons_zero, List.set_cons_succ, Nat.reduceAdd];exact rfl
  case st10 =>
   clear hAt1;intro hctx;refine JC.p hctx ?_;refine JC.ca (fun vals W hN hd hk => (tN b W (hT.q (hG1.trans hN)) hb).mono (by rintro e W9 ⟨x9, y9, rfl, hx9, hy9, hq9⟩; exact ⟨(.tuple #[x9, y9, .bool (decide ((aV b.data.toList).1 = 0))]), rfl, ⟨_, _, _, rfl, (by have h7 := hx9; rw [Hq.out] at h7; exact h7), (by have h7 := hy9; rw [Hq.out] at h7; exact h7), congrArg Value.bool (Hb9.out)⟩, hq9⟩)) hctx ?_;refine JC.m 1 hctx ?_;refine JC.o hctx ?_ ?_
   ·intro L vals W hL hJ hd K hK;have d2 : (pT3 (aN (q)) (pRn (q)) (pEq (.bool (b9)))).p (vals 2) W := hd 2 (by kernel_rfl);generalize vals 2 = u2 at d2 hK ⊢;obtain ⟨e0, e1, e2, rfl, he0, he1, he2⟩ := d2;go_simp
    exact hK.out (e0) _ _ (by kernel_rfl) he0 (Q.refl _)
   refine JC.o hctx ?_ ?_
   ·intro L vals W hL hJ hd K hK;have d2 : (pT3 (aN (q)) (pRn (q)) (pEq (.bool (b9)))).p (vals 2) W := hd 2 (by kernel_rfl);generalize vals 2 = u2 at d2 hK ⊢;obtain ⟨e0, e1, e2, rfl, he0, he1, he2⟩ := d2;go_simp
    exact hK.out (e1) _ _ (by kernel_rfl) he1 (Q.refl _)
   refine JC.o hctx ?_ ?_
   ·intro L vals W hL hJ hd K hK;have d2 : (pT3 (aN (q)) (pRn (q)) (pEq (.bool (b9)))).p (vals 2) W := hd 2 (by kernel_rfl);generalize vals 2 = u2 at d2 hK ⊢;obtain ⟨e0, e1, e2, rfl, he0, he1, he2⟩ := d2;obtain rfl : e2 = .bool (b9) := he2;go_simp
    exact hK.out (.bool (b9)) _ _ (by kernel_rfl) rfl (Q.refl _)
   refine Ja.Steps.cons (JC.alloc (n := 0) (cells := [.bool false, .slice none 0 0, .slice none 0 0].toArray) (t := 25) hctx (by kernel_rfl) (by rfl) (by kernel_rfl) (by rfl) (by rfl) (by kernel_rfl) (by rfl) (fun W => NbV.mk (t := 25) (ck := [.b, .s, .s]) (row := [.bool false, .slice none 0 0, .slice none 0 0]) ⟨⟨_, rfl⟩, ⟨_, _, _, rfl⟩, ⟨_, _, _, rfl⟩, trivial⟩ (Bx.new W _ _)) ?_) ?_
   ·intro vals W K hK;go_simp
    exact hK.out _ (by kernel_rfl)
   refine Ja.Steps.cons (JC.alloc (n := 1) (cells := [.int .i64 0, .slice none 0 0, .slice none 0 0].toArray) (t := 32) hctx (by kernel_rfl) (by rfl) (by kernel_rfl) (by rfl) (by rfl) (by kernel_rfl) (by rfl) (fun W => NbV.mk (t := 32) (ck := [.i, .s, .s]) (row := [.int .i64 0, .slice none 0 0, .slice none 0 0]) ⟨⟨_, rfl⟩, ⟨_, _, _, rfl⟩, ⟨_, _, _, rfl⟩, trivial⟩ (Bx.new W _ _)) ?_) ?_
   ·intro vals W K hK;go_simp
    exact hK.out _ (by kernel_rfl)
   refine JC.s3 (n := 0) rfl vV hctx ?_;refine JC.s3 (n := 1) rfl fRn hctx ?_;refine JC.p hctx ?_;exact Ja.Steps.nil
  intro L vals w2 hall hJ;clear hAt1;have hq2 := hJ.q;have hG2 := hG1.trans hq2;have hX2 := hX1.q hq2;have nX2 := Nq.q nX1 hq2;have hY2 := hY1.q hq2;have nY2 := Rq.q nY1 hq2;clear hG1 hX1 hY1 nX1 nY1;obtain ⟨gZ, eZ, geZ, qZ⟩ := hJ.fresh 0 rfl rfl (hall 6 (by decide)) (hall 8 (by decide));obtain ⟨sZ0, AZ1, kZ1, cZ1, AZ2, kZ2, cZ2, hZ2, nZ2⟩ := rR (g := gZ) (t := 25) qZ (show Nq w2 (vals 3) (q) from hJ.s 3 (hall 3 (by decide)));clear qZ;obtain ⟨gU, eU, geU, qU⟩ := hJ.fresh 1 rfl rfl (hall 7 (by decide)) (hall 9 (by decide));obtain ⟨AU1, kU1, cU1, AU2, kU2, cU2, hU2, nU2⟩ := aFQ (g := gU) (t := 32) qU (show Rq w2 (vals 4) (q) from hJ.s 4 (hall 4 (by decide)));clear qU;have neUZ : gU ≠ gZ := hJ.ne 1 0 (by decide) rfl rfl (hall 7 (by decide)) (hall 6 (by decide)) eU eZ;rw [eZ];clear eZ;rw [eU];clear eU;have f10 : vals 10 = .bool (b9) := hJ.s 10 (hall 10 (by decide));rw [f10];clear f10;clear hall hJ;go_upto_region 3 with fail
  refine bJ (F := ?F11) ([.eq (.bool false), .eq (.bool true), .eq (.bool true), .no, .no, .eq (.bool true)] : List Vs) ?hF11 ?st11 ?en11
  case hF11 =>
   intro vals;simp only [Ja.fillL, Act.put, List.setIfInBounds_toArray, List.set_cons_zero, List.set_cons_succ, Nat.reduceAdd];exact rfl
  case st11 =>
   intro hctx;refine JC.p hctx ?_;refine JC.p hctx ?_;refine JC.p hctx ?_;refine JC.n hctx ?_;refine JC.n hctx ?_;refine JC.p hctx ?_;exact Ja.Steps.nil
  intro vals w3 hq3 hall;have hG3 := hG2.trans hq3;have hX3 := hX2.q hq3;have nX3 := Nq.q nX2 hq3;have hY3 := hY2.q hq3;have nY3 := Rq.q nY2 hq3;have hZ3 := hZ2.q hq3;have nZ3 := Nq.q nZ2 hq3;have hU3 := hU2.q hq3;have nU3 := Rq.q nU2 hq3;clear hG2 hX2 hY2 hZ2 hU2 nX2 nY2 nZ2 nU2;have f28 : vals 5 = .bool true := hall 5 (by decide);rw [f28];clear f28;clear hall;go_upto_region 4 with fail
  refine bJ (F := ?F12) ([.eq (.bool true), .eq (.bool true)] : List Vs) ?hF12 ?st12 ?en12
  case hF12 =>
   intro vals;simp only [Ja.fillL, Act.put, List.setIfInBounds_toArray, List.set_cons_zero, List.set_cons_succ, Nat.reduceAdd];exact rfl
  case st12 =>
   intro hctx;refine JC.ca (fun vals W hN hd hk => (aAY W (hT.q (hG3.trans hN)) (hPx.q (hG3.trans hN))).mono (by rintro e W9 ⟨rfl, hq9⟩; exact ⟨(.bool true), rfl, rfl, hq9⟩)) hctx ?_;refine JC.p hctx ?_;exact Ja.Steps.nil
  intro vals w4 hq4 hall;have hG4 := hG3.trans hq4;have hX4 := hX3.q hq4;have nX4 := Nq.q nX3 hq4;have hY4 := hY3.q hq4;have nY4 := Rq.q nY3 hq4;have hZ4 := hZ3.q hq4;have nZ4 := Nq.q nZ3 hq4;have hU4 := hU3.q hq4;have nU4 := Rq.q nU3 hq4;clear hG3 hX3 hY3 hZ3 hU3 nX3 nY3 nZ3 nU3;have f4 : vals 1 = .bool true := hall 1 (by decide);rw [f4];clear f4;clear hall;go_wp2_with fail
  go_ret
  exact ⟨rfl, by rw [← hw0]; exact hG4⟩
end Go.Proofs.YtgpacgadpnpjjaaGreatDoor.K
