/- ValueInts: for every two int64 and every int the law holds. Part of the proof: texts Je7. -/
import Derived.Below
import Derived.BigQuiet
import Derived.Deep.DeepMust
import Derived.Deep.Draws
import Derived.Deep.LoopGhost
import Derived.Deep.OwnRows
import Derived.Deep.QuietTactic
import Derived.Deep.RegionHeld
import Derived.IntWalk
import Derived.Laws.AppendOwn
import Derived.Laws.OwnMore
import Derived.Laws.Rows
import Derived.Lib.Hide
import Derived.Lib.IndexBytes
import Derived.Lib.IndexLaws
import Derived.Maps.AppendAt
import Derived.OwnWalk
import Derived.Test.YtgokbhikgdhmpaaGreatDoorProg
import Derived.Test.YtgokbhikgdhmpaaGreatDoorQy01
import Derived.Test.YtgokbhikgdhmpaaGreatDoorQy02
import Derived.Test.YtgokbhikgdhmpaaGreatDoorQy03
import Derived.Test.YtgokbhikgdhmpaaGreatDoorQy04
import Derived.Test.YtgokbhikgdhmpaaGreatDoorQy05
import Derived.Test.YtgokbhikgdhmpaaGreatDoorQy06
import Derived.Test.YtgokbhikgdhmpaaGreatDoorQy07
import Derived.Test.YtgokbhikgdhmpaaGreatDoorQy08
import Derived.Test.YtgokbhikgdhmpaaGreatDoorQy09
import Derived.Test.YtgokbhikgdhmpaaGreatDoorQy10
import Derived.Test.YtgokbhikgdhmpaaGreatDoorQy11
import Derived.Test.YtgokbhikgdhmpaaGreatDoorQy12
import Derived.Test.YtgokbhikgdhmpaaGreatDoorQy13
import Derived.Test.YtgokbhikgdhmpaaGreatDoorQy14
import Derived.Test.YtgokbhikgdhmpaaGreatDoorQy15
import Derived.Test.YtgokbhikgdhmpaaGreatDoorQy16
import Derived.Test.YtgokbhikgdhmpaaGreatDoorQy17
import Derived.Test.YtgokbhikgdhmpaaGreatDoorQy18
import Derived.Test.YtgokbhikgdhmpaaGreatDoorQy19
import Derived.Test.YtgokbhikgdhmpaaGreatDoorQy20
import Derived.Test.YtgokbhikgdhmpaaGreatDoorQy21
import Derived.Test.YtgokbhikgdhmpaaGreatDoorQy22
import Derived.Test.YtgokbhikgdhmpaaGreatDoorQy23
import Derived.Test.YtgokbhikgdhmpaaGreatDoorQy24
import Derived.Test.YtgokbhikgdhmpaaGreatDoorQy25
import Derived.Test.YtgokbhikgdhmpaaGreatDoorQy26
import Derived.Test.YtgokbhikgdhmpaaGreatDoorQy27
import Derived.Test.YtgokbhikgdhmpaaGreatDoorQy28
import Derived.Test.YtgokbhikgdhmpaaGreatDoorQy29
import Derived.Test.YtgokbhikgdhmpaaGreatDoorQy32
import Derived.WalkKit
import Derived.WalkLawsBesides
import Derived.WalkSpells
import Derived.Test.YtgokbhikgdhmpaaGreatDoorQi01
import Derived.Test.YtgokbhikgdhmpaaGreatDoorQi02
namespace Go.Proofs.YtgokbhikgdhmpaaGreatDoor.K
open Go.RowKit
open Ma Me
theorem kD (p : Rat) (z : Int) : sz (bA p z).2 ≤ 64 * sz p + 100 := by
 have h0 : sz 0 ≤ 2 := xQ;unfold bA;split
 ·exact Nat.le_trans h0 (by omega)
 ·split
  ·split
   ·exact Nat.le_trans h0 (by omega)
   ·have h1 := bX p⁻¹ (-z).toNat 64 (by omega);have h2 := aAs p;show sz (p⁻¹ ^ (-z).toNat) ≤ _;omega
  ·have h1 := bX p z.toNat 64 (by omega);show sz (p ^ z.toNat) ≤ _;omega
set_option maxRecDepth 100000 in
set_option maxHeartbeats 8000000 in
theorem q_ValueInts (a b n : Int) (w : World) (hT : Tb w) (hPx : Px w) (a1 : -9223372036854775808 ≤ a) (a2 : a < 9223372036854775808) (b1 : -9223372036854775808 ≤ b) (b2 : b < 9223372036854775808) :
  Calls Tryz.prog 7 #[.int .i64 a, .int .i64 b, .int .i64 n] w fun e w' => e = .returned (.bool true) ∧ Q w w' := by
 obtain ⟨w0, hw0, hG0⟩ : ∃ x, w = x ∧ Q w x := ⟨w, rfl, Q.refl w⟩
 rw [hw0];have sa := aAu a (by rw [bJ]; omega); have sb := aAu b (by rw [bJ]; omega); have sx := aFG (a : Rat) (b : Rat); have sy := kD (aW (a : Rat) (b : Rat)).2 n;have Ha1 := Lib.hid a1; have Ha2 := Lib.hid a2; have Hb1 := Lib.hid b1; have Hb2 := Lib.hid b2; clear a1 a2 b1 b2;obtain ⟨cx, Hcx⟩ : ∃ z : Int, Hid ((aW (a : Rat) (b : Rat)).1 = z) := ⟨_, Lib.hid rfl⟩
 obtain ⟨x, Hx⟩ : ∃ z : Rat, Hid ((aW (a : Rat) (b : Rat)).2 = z) := ⟨_, Lib.hid rfl⟩
 rw [Hx.out] at sx sy;obtain ⟨cy, Hcy⟩ : ∃ z : Int, Hid ((bA x n).1 = z) := ⟨_, Lib.hid rfl⟩
 obtain ⟨y, Hy⟩ : ∃ z : Rat, Hid ((bA x n).2 = z) := ⟨_, Lib.hid rfl⟩
 obtain ⟨ia, Hia⟩ : ∃ z : Rat, Hid ((a : Rat) = z) := ⟨_, Lib.hid rfl⟩
 rw [Hy.out] at sy;have si := sa; rw [Hia.out] at si;have Z1 : Hid (sz (x) ≤ 6) := Lib.hid (by omega);have Z2 : Hid (sz (y) ≤ 500) := Lib.hid (by omega);have Z3 : Hid (sz (ia) ≤ 2) := Lib.hid (si);clear sa sb sx sy si;go_enter Tryz.func7, Tryz.ntmps7
 go_upto_region 1 with fail
 have hAt0 : At0 w0 [⟨some 6, 0, 25, [.b, .s, .s], .agg #[.bool false, .slice none 0 0, .slice none 0 0], 7, 4⟩] [] w0 := At0.of (Q.refl _) ⟨fun h => (by cases h), trivial⟩ (by simp [aP]) trivial;refine aN (F := ?F1) w0 ([.eq (.int .i64 (a)), .eq (.int .i64 (b)), .gen (pT2 (aF (x)) (pEq (.int .i64 (cx)))), .gen (pT2 (aF (x)) (pEq (.int .i64 (cx)))), .gen (aF (x)), .eq (.int .i64 (cx)), .any, .any, .eq (.int .i64 (cx))] : List Vs) _ _ (by kernel_rfl) hAt0 ?hF1 ?st1 ?en1
 case hF1 =>
  intro vals;simp only [Ja.fillL, Act.put, List.setIfInBounds_toArray, List.set_cons_zero, List.set_cons_succ, Nat.reduceAdd];exact rfl
 case st1 =>
  clear hAt0;intro hctx;refine JC.p hctx ?_;refine JC.p hctx ?_;refine JC.ca (fun vals W hN hd hk => (aFx a b W (hT.q (hG0.trans hN)) Ha1.out (by have := Ha2.out; omega) Hb1.out (by have := Hb2.out; omega)).mono (by rintro e W9 ⟨r, rfl, hr, hq9⟩; exact ⟨(.tuple #[r, .int .i64 (aW (a : Rat) (b : Rat)).1]), rfl, ⟨_, _, rfl, (by have h8 := hr; rw [Hx.out] at h8; exact h8), congrArg (Value.int .i64) Hcx.out⟩, hq9⟩)) hctx ?_;refine JC.m 2 hctx ?_;refine JC.o hctx ?_ ?_
  ·intro L vals W hL hJ hd K hK;have d3 : (pT2 (aF (x)) (pEq (.int .i64 (cx)))).p (vals 3) W := hd 3 (by kernel_rfl);generalize vals 3 = u3 at d3 hK ⊢;obtain ⟨e0, e1, rfl, he0, he1⟩ := d3;go_simp
   exact hK.out (e0) _ _ (by kernel_rfl) he0 (Q.refl _)
  refine JC.o hctx ?_ ?_
  ·intro L vals W hL hJ hd K hK;have d3 : (pT2 (aF (x)) (pEq (.int .i64 (cx)))).p (vals 3) W := hd 3 (by kernel_rfl);generalize vals 3 = u3 at d3 hK ⊢;obtain ⟨e0, e1, rfl, he0, he1⟩ := d3;obtain rfl : e1 = .int .i64 (cx) := he1;go_simp
   exact hK.out (.int .i64 (cx)) _ _ (by kernel_rfl) rfl (Q.refl _)
  refine Ja.Steps.cons (JC.alloc (n := 0) (cells := [.bool false, .slice none 0 0, .slice none 0 0].toArray) (t := 25) hctx (by kernel_rfl) (by rfl) (by kernel_rfl) (by rfl) (by rfl) (by kernel_rfl) (by rfl) (fun W => NbV.mk (t := 25) (ck := [.b, .s, .s]) (row := [.bool false, .slice none 0 0, .slice none 0 0]) ⟨⟨_, rfl⟩, ⟨_, _, _, rfl⟩, ⟨_, _, _, rfl⟩, trivial⟩ (Bx.new W _ _)) ?_) ?_
  ·intro vals W K hK;go_simp
   exact hK.out _ (by kernel_rfl)
  refine JC.s3 (n := 0) rfl kF hctx ?_;refine JC.p hctx ?_;exact Ja.Steps.nil
 intro L vals w1 hall hJ;clear hAt0;have hq1 := hJ.q;have hG1 := hG0.trans hq1;clear hG0 ;obtain ⟨gX, eX, geX, qX⟩ := hJ.fresh 0 rfl rfl (hall 6 (by decide)) (hall 7 (by decide));obtain ⟨sX0, AX1, kX1, cX1, AX2, kX2, cX2, hX1, nX1⟩ := iQ (g := gX) (t := 25) qX (show Nq w1 (vals 4) (x) from hJ.s 4 (hall 4 (by decide)));clear qX;rw [eX];clear eX;have f8 : vals 8 = .int .i64 (cx) := hJ.s 8 (hall 8 (by decide));rw [f8];clear f8;clear hall hJ;go_upto_region 2 with fail
 have hAt1 : At0 w1 [⟨some 6, 0, 32, [.i, .s, .s], .agg #[.int .i64 0, .slice none 0 0, .slice none 0 0], 7, 4⟩] [] w1 := At0.of (Q.refl _) ⟨fun h => (by cases h), trivial⟩ (by simp [aP]) trivial;refine aN (F := ?F2) w1 ([.eq (.int .i64 (a)), .eq (.int .i64 (b)), .gen (pT2 (pRn (x)) (pEq (.int .i64 (cx)))), .gen (pT2 (pRn (x)) (pEq (.int .i64 (cx)))), .gen (pRn (x)), .eq (.int .i64 (cx)), .any, .any, .eq (.int .i64 (cx))] : List Vs) _ _ (by kernel_rfl) hAt1 ?hF2 ?st2 ?en2
 case hF2 =>
  intro vals;simp only [Ja.fillL, Act.put, List.setIfInBounds_toArray, List.set_cons_zero, List.set_cons_succ, Nat.reduceAdd];exact rfl
 case st2 =>
  clear hAt1;intro hctx;refine JC.p hctx ?_;refine JC.p hctx ?_;refine JC.ca (fun vals W hN hd hk => (eP a b W Ha1.out Ha2.out Hb1.out Hb2.out).mono (by rintro e W9 ⟨r, rfl, hr, hq9⟩; exact ⟨(.tuple #[r, .int .i64 (aW (a : Rat) (b : Rat)).1]), rfl, ⟨_, _, rfl, (by have h8 := hr; rw [Hx.out] at h8; exact h8), congrArg (Value.int .i64) Hcx.out⟩, hq9⟩)) hctx ?_;refine JC.m 2 hctx ?_;refine JC.o hctx ?_ ?_
  ·intro L vals W hL hJ hd K hK;have d3 : (pT2 (pRn (x)) (pEq (.int .i64 (cx)))).p (vals 3) W := hd 3 (by kernel_rfl);generalize vals 3 = u3 at d3 hK ⊢;obtain ⟨e0, e1, rfl, he0, he1⟩ := d3;go_simp
   exact hK.out (e0) _ _ (by kernel_rfl) he0 (Q.refl _)
  refine JC.o hctx ?_ ?_
  ·intro L vals W hL hJ hd K hK;have d3 : (pT2 (pRn (x)) (pEq (.int .i64 (cx)))).p (vals 3) W := hd 3 (by kernel_rfl);generalize vals 3 = u3 at d3 hK ⊢;obtain ⟨e0, e1, rfl, he0, he1⟩ := d3;obtain rfl : e1 = .int .i64 (cx) := he1;go_simp
   exact hK.out (.int .i64 (cx)) _ _ (by kernel_rfl) rfl (Q.refl _)
  refine Ja.Steps.cons (JC.alloc (n := 0) (cells := [.int .i64 0, .slice none 0 0, .slice none 0 0].toArray) (t := 32) hctx (by kernel_rfl) (by rfl) (by kernel_rfl) (by rfl) (by rfl) (by kernel_rfl) (by rfl) (fun W => NbV.mk (t := 32) (ck := [.i, .s, .s]) (row := [.int .i64 0, .slice none 0 0, .slice none 0 0]) ⟨⟨_, rfl⟩, ⟨_, _, _, rfl⟩, ⟨_, _, _, rfl⟩, trivial⟩ (Bx.new W _ _)) ?_) ?_
  ·intro vals W K hK;go_simp
   exact hK.out _ (by kernel_rfl)
  refine JC.s3 (n := 0) rfl fRn hctx ?_;refine JC.p hctx ?_;exact Ja.Steps.nil
 intro L vals w2 hall hJ;clear hAt1;have hq2 := hJ.q;have hG2 := hG1.trans hq2;have hX2 := hX1.q hq2;have nX2 := Nq.q nX1 hq2;clear hG1 hX1 nX1;obtain ⟨gY, eY, geY, qY⟩ := hJ.fresh 0 rfl rfl (hall 6 (by decide)) (hall 7 (by decide));obtain ⟨AY1, kY1, cY1, AY2, kY2, cY2, hY2, nY2⟩ := dZ (g := gY) (t := 32) qY (show Rq w2 (vals 4) (x) from hJ.s 4 (hall 4 (by decide)));clear qY;rw [eY];clear eY;have f10 : vals 8 = .int .i64 (cx) := hJ.s 8 (hall 8 (by decide));rw [f10];clear f10;clear hall hJ;go_upto_region 3 with fail
 have B4 : Hid (64 * (sz (x)) + 600 ≤ LIM) := Lib.hid (by have h0 := Z1.out; rw [aA]; omega);have hAt2 : At0 w2 [⟨some 6, 0, 25, [.b, .s, .s], .agg #[.bool false, .slice none 0 0, .slice none 0 0], 7, 4⟩] [] w2 := At0.of (Q.refl _) ⟨fun h => (by cases h), trivial⟩ (by simp [aP]) trivial;refine aN (F := ?F3) w2 ([.gen (aF (x)), .eq (.int .i64 (n)), .gen (pT2 (aF (y)) (pEq (.int .i64 (cy)))), .gen (pT2 (aF (y)) (pEq (.int .i64 (cy)))), .gen (aF (y)), .eq (.int .i64 (cy)), .any, .any, .eq (.int .i64 (cy))] : List Vs) _ _ (by kernel_rfl) hAt2 ?hF3 ?st3 ?en3
 case hF3 =>
  intro vals;simp only [Ja.fillL, Act.put, List.setIfInBounds_toArray, List.set_cons_zero, List.set_cons_succ, Nat.reduceAdd];exact rfl
 case st3 =>
  clear hAt2;intro hctx;refine JC.l3 (off := 0) hX2 (fun W hN => (Nq.q nX2 hN)) hctx ?_;refine JC.p hctx ?_;refine JC.ca (fun vals W hN hd hk => (oN _ x n W (hd 0 (by kernel_rfl)) B4.out).mono (by rintro e W9 ⟨r, rfl, hr, hq9⟩; exact ⟨(.tuple #[r, .int .i64 (bA x n).1]), rfl, ⟨_, _, rfl, (by have h8 := hr; rw [Hy.out] at h8; exact h8), congrArg (Value.int .i64) Hcy.out⟩, hq9⟩)) hctx ?_;refine JC.m 2 hctx ?_;refine JC.o hctx ?_ ?_
  ·intro L vals W hL hJ hd K hK;have d3 : (pT2 (aF (y)) (pEq (.int .i64 (cy)))).p (vals 3) W := hd 3 (by kernel_rfl);generalize vals 3 = u3 at d3 hK ⊢;obtain ⟨e0, e1, rfl, he0, he1⟩ := d3;go_simp
   exact hK.out (e0) _ _ (by kernel_rfl) he0 (Q.refl _)
  refine JC.o hctx ?_ ?_
  ·intro L vals W hL hJ hd K hK;have d3 : (pT2 (aF (y)) (pEq (.int .i64 (cy)))).p (vals 3) W := hd 3 (by kernel_rfl);generalize vals 3 = u3 at d3 hK ⊢;obtain ⟨e0, e1, rfl, he0, he1⟩ := d3;obtain rfl : e1 = .int .i64 (cy) := he1;go_simp
   exact hK.out (.int .i64 (cy)) _ _ (by kernel_rfl) rfl (Q.refl _)
  refine Ja.Steps.cons (JC.alloc (n := 0) (cells := [.bool false, .slice none 0 0, .slice none 0 0].toArray) (t := 25) hctx (by kernel_rfl) (by rfl) (by kernel_rfl) (by rfl) (by rfl) (by kernel_rfl) (by rfl) (fun W => NbV.mk (t := 25) (ck := [.b, .s, .s]) (row := [.bool false, .slice none 0 0, .slice none 0 0]) ⟨⟨_, rfl⟩, ⟨_, _, _, rfl⟩, ⟨_, _, _, rfl⟩, trivial⟩ (Bx.new W _ _)) ?_) ?_
  ·intro vals W K hK;go_simp
   exact hK.out _ (by kernel_rfl)
  refine JC.s3 (n := 0) rfl kF hctx ?_;refine JC.p hctx ?_;exact Ja.Steps.nil
 intro L vals w3 hall hJ;clear hAt2;have hq3 := hJ.q;have hG3 := hG2.trans hq3;have hX3 := hX2.q hq3;have nX3 := Nq.q nX2 hq3;have hY3 := hY2.q hq3;have nY3 := Rq.q nY2 hq3;clear hG2 hX2 hY2 nX2 nY2;obtain ⟨gZ, eZ, geZ, qZ⟩ := hJ.fresh 0 rfl rfl (hall 6 (by decide)) (hall 7 (by decide));obtain ⟨sZ0, AZ1, kZ1, cZ1, AZ2, kZ2, cZ2, hZ3, nZ3⟩ := iQ (g := gZ) (t := 25) qZ (show Nq w3 (vals 4) (y) from hJ.s 4 (hall 4 (by decide)));clear qZ;rw [eZ];clear eZ;have f12 : vals 8 = .int .i64 (cy) := hJ.s 8 (hall 8 (by decide));rw [f12];clear f12;clear hall hJ;go_upto_region 4 with fail
 have B5 : Hid (80000 * sz x + 600000 ≤ LIM) := Lib.hid (by have h0 := Z1.out; rw [aA] at *; omega);have hAt3 : At0 w3 [⟨some 6, 0, 32, [.i, .s, .s], .agg #[.int .i64 0, .slice none 0 0, .slice none 0 0], 7, 4⟩] [] w3 := At0.of (Q.refl _) ⟨fun h => (by cases h), trivial⟩ (by simp [aP]) trivial;refine aN (F := ?F4) w3 ([.gen (pRn (x)), .eq (.int .i64 (n)), .gen (pT2 (pRn (y)) (pEq (.int .i64 (cy)))), .gen (pT2 (pRn (y)) (pEq (.int .i64 (cy)))), .gen (pRn (y)), .eq (.int .i64 (cy)), .any, .any, .eq (.int .i64 (cy))] : List Vs) _ _ (by kernel_rfl) hAt3 ?hF4 ?st4 ?en4
 case hF4 =>
  intro vals;simp only [Ja.fillL, Act.put, List.setIfInBounds_toArray, List.set_cons_zero, List.set_cons_succ, Nat.reduceAdd];exact rfl
 case st4 =>
  clear hAt3;intro hctx;refine JC.l3 (off := 0) hY3 (fun W hN => (Rq.q nY3 hN)) hctx ?_;refine JC.p hctx ?_;refine JC.ca (fun vals W hN hd hk => (qD _ x n W (hd 0 (by kernel_rfl)) B5.out).mono (by rintro e W9 ⟨r, rfl, hr, hq9⟩; exact ⟨(.tuple #[r, .int .i64 (bA x n).1]), rfl, ⟨_, _, rfl, (by have h8 := hr; rw [Hy.out] at h8; exact h8), congrArg (Value.int .i64) Hcy.out⟩, hq9⟩)) hctx ?_;refine JC.m 2 hctx ?_;refine JC.o hctx ?_ ?_
  ·intro L vals W hL hJ hd K hK;have d3 : (pT2 (pRn (y)) (pEq (.int .i64 (cy)))).p (vals 3) W := hd 3 (by kernel_rfl);generalize vals 3 = u3 at d3 hK ⊢;obtain ⟨e0, e1, rfl, he0, he1⟩ := d3;go_simp
   exact hK.out (e0) _ _ (by kernel_rfl) he0 (Q.refl _)
  refine JC.o hctx ?_ ?_
  ·intro L vals W hL hJ hd K hK;have d3 : (pT2 (pRn (y)) (pEq (.int .i64 (cy)))).p (vals 3) W := hd 3 (by kernel_rfl);generalize vals 3 = u3 at d3 hK ⊢;obtain ⟨e0, e1, rfl, he0, he1⟩ := d3;obtain rfl : e1 = .int .i64 (cy) := he1;go_simp
   exact hK.out (.int .i64 (cy)) _ _ (by kernel_rfl) rfl (Q.refl _)
  refine Ja.Steps.cons (JC.alloc (n := 0) (cells := [.int .i64 0, .slice none 0 0, .slice none 0 0].toArray) (t := 32) hctx (by kernel_rfl) (by rfl) (by kernel_rfl) (by rfl) (by rfl) (by kernel_rfl) (by rfl) (fun W => NbV.mk (t := 32) (ck := [.i, .s, .s]) (row := [.int .i64 0, .slice none 0 0, .slice none 0 0]) ⟨⟨_, rfl⟩, ⟨_, _, _, rfl⟩, ⟨_, _, _, rfl⟩, trivial⟩ (Bx.new W _ _)) ?_) ?_
  ·intro vals W K hK;go_simp
   exact hK.out _ (by kernel_rfl)
  refine JC.s3 (n := 0) rfl fRn hctx ?_;refine JC.p hctx ?_;exact Ja.Steps.nil
 intro L vals w4 hall hJ;clear hAt3;have hq4 := hJ.q;have hG4 := hG3.trans hq4;have hX4 := hX3.q hq4;have nX4 := Nq.q nX3 hq4;have hY4 := hY3.q hq4;have nY4 := Rq.q nY3 hq4;have hZ4 := hZ3.q hq4;have nZ4 := Nq.q nZ3 hq4;clear hG3 hX3 hY3 hZ3 nX3 nY3 nZ3;obtain ⟨gU, eU, geU, qU⟩ := hJ.fresh 0 rfl rfl (hall 6 (by decide)) (hall 7 (by decide));obtain ⟨AU1, kU1, cU1, AU2, kU2, cU2, hU4, nU4⟩ := dZ (g := gU) (t := 32) qU (show Rq w4 (vals 4) (y) from hJ.s 4 (hall 4 (by decide)));clear qU;rw [eU];clear eU;have f14 : vals 8 = .int .i64 (cy) := hJ.s 8 (hall 8 (by decide));rw [f14];clear f14;clear hall hJ;go_upto_region 5 with fail
 have B6 : Hid (2000 * (sz (x)) + 500000 ≤ LIM) := Lib.hid (by have h0 := Z1.out; rw [aA]; omega);have B7 : Hid (2000 * (sz (y)) + 500000 ≤ LIM) := Lib.hid (by have h0 := Z2.out; rw [aA]; omega);have B8 : Hid (2000 * (sz (ia)) + 500000 ≤ LIM) := Lib.hid (by have h0 := Z3.out; rw [aA]; omega);refine aJ (F := ?F5) ([.eq (.int .i64 (cx)), .eq (.int .i64 (cx)), .eq (.bool true), .eq (.bool true), .eq (.int .i64 (cy)), .eq (.int .i64 (cy)), .eq (.bool true), .eq (.bool true), .eq (.bool true), .gen (aF (x)), .gen (pRn (x)), .eq (.bool true), .eq (.bool true), .eq (.bool true), .gen (aF (y)), .gen (pRn (y)), .eq (.bool true), .eq (.bool true), .eq (.bool true), .eq (.int .i64 (a)), .gen (aF (ia)), .eq (.int .i64 (a)), .gen (pRn (ia)), .eq (.bool true), .eq (.bool true), .eq (.bool true), .eq (.bool true), .eq (.bool true), .eq (.bool true)] : List Vs) ?hF5 ?st5 ?en5
 case hF5 =>
  intro vals;simp only [Ja.fillL, Act.put, List.setIfInBounds_toArray, List.set_cons_zero, List.set_cons_succ, Nat.reduceAdd];exact rfl
 case st5 =>
  intro hctx;refine JC.p hctx ?_;refine JC.p hctx ?_;refine JC.u (.bool ((cx) == (cx))) (congrArg Value.bool (beq_iff_eq.2 (rfl))) hctx ?_;refine JC.p hctx ?_;refine JC.p hctx ?_;refine JC.p hctx ?_;refine JC.u (.bool ((cy) == (cy))) (congrArg Value.bool (beq_iff_eq.2 (rfl))) hctx ?_;refine JC.p hctx ?_;refine JC.p hctx ?_;refine JC.l3 (off := 0) hX4 (fun W hN => (Nq.q nX4 hN)) hctx ?_;refine JC.l3 (off := 0) hY4 (fun W hN => (Rq.q nY4 hN)) hctx ?_;refine JC.ca (fun vals W hN hd hk => (mK _ _ (x) W (hd 9 (by kernel_rfl)) (hd 10 (by kernel_rfl)) B6.out).mono (by rintro e W9 ⟨rfl, hq9⟩; exact ⟨(.bool true), rfl, rfl, hq9⟩)) hctx ?_;refine JC.p hctx ?_;refine JC.p hctx ?_;refine JC.l3 (off := 0) hZ4 (fun W hN => (Nq.q nZ4 hN)) hctx ?_;refine JC.l3 (off := 0) hU4 (fun W hN => (Rq.q nU4 hN)) hctx ?_;refine JC.ca (fun vals W hN hd hk => (mK _ _ (y) W (hd 14 (by kernel_rfl)) (hd 15 (by kernel_rfl)) B7.out).mono (by rintro e W9 ⟨rfl, hq9⟩; exact ⟨(.bool true), rfl, rfl, hq9⟩)) hctx ?_;refine JC.p hctx ?_;refine JC.p hctx ?_;refine JC.p hctx ?_;refine JC.ca (fun vals W hN hd hk => (wV a W Ha1.out (by have := Ha2.out; omega)).mono (by rintro e W9 ⟨r, rfl, hr, hq9⟩; exact ⟨r, rfl, (by have h8 := hr; rw [Hia.out] at h8; exact h8), hq9⟩)) hctx ?_;refine JC.p hctx ?_;refine JC.ca (fun vals W hN hd hk => (bN a W Ha1.out Ha2.out).mono (by rintro e W9 ⟨r, rfl, hr, hq9⟩; exact ⟨r, rfl, (by have h8 := hr; rw [Hia.out] at h8; exact h8), hq9⟩)) hctx ?_;refine JC.ca (fun vals W hN hd hk => (mK _ _ (ia) W (hd 20 (by kernel_rfl)) (hd 22 (by kernel_rfl)) B8.out).mono (by rintro e W9 ⟨rfl, hq9⟩; exact ⟨(.bool true), rfl, rfl, hq9⟩)) hctx ?_;refine JC.p hctx ?_;refine JC.p hctx ?_;refine JC.ca (fun vals W hN hd hk => (yE W (hT.q (hG4.trans hN)) (hPx.q (hG4.trans hN))).mono (by rintro e W9 ⟨rfl, hq9⟩; exact ⟨(.bool true), rfl, rfl, hq9⟩)) hctx ?_;refine JC.p hctx ?_;refine JC.p hctx ?_;exact Ja.Steps.nil
 intro vals w5 hq5 hall;have hG5 := hG4.trans hq5;have hX5 := hX4.q hq5;have nX5 := Nq.q nX4 hq5;have hY5 := hY4.q hq5;have nY5 := Rq.q nY4 hq5;have hZ5 := hZ4.q hq5;have nZ5 := Nq.q nZ4 hq5;have hU5 := hU4.q hq5;have nU5 := Rq.q nU4 hq5;clear hG4 hX4 hY4 hZ4 hU4 nX4 nY4 nZ4 nU4;have f6 : vals 28 = .bool true := hall 28 (by decide);rw [f6];clear f6;clear hall;go_wp2_with fail
 go_ret
 exact ⟨rfl, by rw [← hw0]; exact hG5⟩
end Go.Proofs.YtgokbhikgdhmpaaGreatDoor.K
