/- ValueInts: for every two int64 and every int the law holds. Part of the proof: texts Ke5. -/
import Derived.Test.YtgokbhikgdhmpaaGreatDoorQy01
import Derived.Test.YtgokbhikgdhmpaaGreatDoorQy02
import Derived.Test.YtgokbhikgdhmpaaGreatDoorQy03
import Derived.Test.YtgokbhikgdhmpaaGreatDoorQy04
import Derived.Test.YtgokbhikgdhmpaaGreatDoorQy05
import Derived.Test.YtgokbhikgdhmpaaGreatDoorQy06
import Derived.Test.YtgokbhikgdhmpaaGreatDoorQy07
import Derived.Test.YtgokbhikgdhmpaaGreatDoorQy08
import Derived.Test.YtgokbhikgdhmpaaGreatDoorQy09
import Derived.Test.YtgokbhikgdhmpaaGreatDoorQy10
import Derived.Test.YtgokbhikgdhmpaaGreatDoorQy11
import Derived.Test.YtgokbhikgdhmpaaGreatDoorQy12
import Derived.Test.YtgokbhikgdhmpaaGreatDoorQy13
import Derived.Test.YtgokbhikgdhmpaaGreatDoorQy14
import Derived.Test.YtgokbhikgdhmpaaGreatDoorQy15
import Derived.Test.YtgokbhikgdhmpaaGreatDoorQy16
import Derived.Test.YtgokbhikgdhmpaaGreatDoorQy17
import Derived.Test.YtgokbhikgdhmpaaGreatDoorQy18
import Derived.Test.YtgokbhikgdhmpaaGreatDoorQy19
import Derived.Test.YtgokbhikgdhmpaaGreatDoorQy20
import Derived.Test.YtgokbhikgdhmpaaGreatDoorQy21
import Derived.Test.YtgokbhikgdhmpaaGreatDoorQy22
import Derived.Test.YtgokbhikgdhmpaaGreatDoorQy23
import Derived.Test.YtgokbhikgdhmpaaGreatDoorQy24
import Derived.Test.YtgokbhikgdhmpaaGreatDoorQy25
import Derived.Test.YtgokbhikgdhmpaaGreatDoorQy26
import Derived.Test.YtgokbhikgdhmpaaGreatDoorQy27
import Derived.Test.YtgokbhikgdhmpaaGreatDoorQy28
import Derived.Test.YtgokbhikgdhmpaaGreatDoorQy29
import Derived.Test.YtgokbhikgdhmpaaGreatDoorQy32
import Derived.Test.YtgokbhikgdhmpaaGreatDoorQi01
set_option maxHeartbeats 4000000
namespace Go.Proofs.YtgokbhikgdhmpaaGreatDoor.K
open Go.RowKit
open Ma Me
theorem eT {p : Rat} {z : Int} (h : z < -64 ∨ 64 < z) : bA p z = (7, 0) := if_pos h
theorem gP {p : Rat} {n : Nat} (h : n ≤ 64) : bA p (n : Int) = (0, p ^ n) := by
 unfold bA; rw [if_neg (by omega), if_neg (by omega)]; rfl
theorem dM {m : Nat} (h0 : 0 < m) (h : m ≤ 64) : bA 0 (-(m : Int)) = (8, 0) := by
 unfold bA; rw [if_neg (by omega), if_pos (by omega), if_pos rfl]
theorem gD {p : Rat} {m : Nat} (hp : p ≠ 0) (h0 : 0 < m) (h : m ≤ 64) : bA p (-(m : Int)) = (0, p⁻¹ ^ m) := by
 unfold bA; rw [if_neg (by omega), if_pos (by omega), if_neg hp, Int.neg_neg]; rfl
theorem lN {m : Nat} (h : m ≤ 64) : IntKind.i64.wrap (0 - -(m : Int)) = (m : Int) := by
 rw [Int.zero_sub, Int.neg_neg]; exact bD (by omega) (by omega)
theorem bY : aW (((1) : Int) : Rat) 0 = (8, 0) := if_pos rfl
theorem div_one {p : Rat} (hp : p ≠ 0) : aW (((1) : Int) : Rat) p = (0, p⁻¹) := by
 unfold aW; rw [if_neg hp, show (((1) : Int) : Rat) = 1 from rfl, Rat.one_mul]
set_option maxRecDepth 100000 in
theorem lV (x : Value) (p : Rat) (z : Int) (w : World) (hx : Rq w x p) (hz : z < -64 ∨ 64 < z) :
  Calls Tryz.prog 52 #[x, .int .i64 z] w fun e w' => ∃ r, e = .returned (.tuple #[r, .int .i64 (bA p z).1]) ∧ Rq w' r (bA p z).2 ∧ Q w w' := by
 have hxy := hx;obtain ⟨AX1, kX1, cX1, AX2, kX2, cX2, rfl, -⟩ := hxy;obtain ⟨w0, hW, hG0, hX0, hR0⟩ := vM w 32 [.int .i64 (sn (p)), .slice AX1 kX1 cX1, .slice AX2 kX2 cX2] 32 [.int .i64 0, .slice none 0 0, .slice none 0 0];have nX0 : Rq w0 (.agg #[.int .i64 (sn (p)), .slice AX1 kX1 cX1, .slice AX2 kX2 cX2]) (p) := hx.q hG0;go_enter Tryz.func52, Tryz.ntmps52
 go_upto_region 1 with fail
 clear hW;have HPW : Hid (bA p z = (7, 0)) := Lib.hid (eT hz);by_cases hA : z < -64
 ·have HA := Lib.hid hA; clear hA;refine aJ (F := ?F2) ([.eq (.int .i64 (z)), .eq (.bool true), .eq (.bool true), .no, .no, .eq (.bool true)] : List Vs) ?hF2 ?st2 ?en2
  case hF2 =>
   intro vals;simp only [Ja.fillL, Act.put, List.setIfInBounds_toArray, List.set_cons_zero, List.set_cons_succ, Nat.reduceAdd];exact rfl
  case st2 =>
   intro hctx;refine JC.p hctx ?_;refine JC.u (.bool (decide ((z) < (-64)))) (congrArg Value.bool (decide_eq_true (show ((z : Int) < -64) from HA.out))) hctx ?_;refine JC.p hctx ?_;refine JC.n hctx ?_;refine JC.n hctx ?_;refine JC.p hctx ?_;exact Ja.Steps.nil
  intro vals w1 hq1 hall;have hG1 := hG0.trans hq1;have hX1 := hX0.q hq1;have nX1 := Rq.q nX0 hq1;have hR1 := hR0.q hq1;clear hG0 hX0 hR0 nX0;have f15 : vals 5 = .bool true := hall 5 (by decide);rw [f15];clear f15;clear hall;go_upto_region 2 with fail
  have hAt1 : At0 w [⟨none, w.heap.size, 32, [.i, .s, .s], .agg #[.int .i64 (sn (p)), .slice AX1 kX1 cX1, .slice AX2 kX2 cX2], 1000, 0⟩, ⟨none, w.heap.size + 1, 32, [.i, .s, .s], .agg #[.int .i64 0, .slice none 0 0, .slice none 0 0], 1, 0⟩] [(.agg #[.int .i64 (sn (p)), .slice AX1 kX1 cX1, .slice AX2 kX2 cX2], .gen (pRn (p)))] w1 := At0.of hG1 ⟨aT hX1 (by omega), aT hR1 (by omega), trivial⟩ (by (simp [aP] <;> omega)) ⟨nX1, trivial⟩;clear hG1 hX1 hR1 nX1;refine aN (F := ?F3) w ([.gen (pRn (0)), .any, .eq (.int .i64 (7))] : List Vs) _ _ (by kernel_rfl) hAt1 ?hF3 ?st3 ?en3
  case hF3 =>
   intro vals;simp only [Ja.fillL, Act.put, List.setIfInBounds_toArray, List.set_cons_zero, List.set_cons_succ, Nat.reduceAdd];exact rfl
  case st3 =>
   clear hAt1;intro hctx;refine JC.o hctx ?_ ?_
   ·intro L vals W hL hJ hd K hK;go_simp
    exact hK.out (.agg #[.int .i64 0, .slice none 0 0, .slice none 0 0]) _ _ (by kernel_rfl) (Rq.none W) (Q.refl _)
   refine JC.s3 (n := 1) rfl fRn hctx ?_;refine JC.p hctx ?_;exact Ja.Steps.nil
  intro L vals w2 hall hJ;clear hAt1;have hG2 := hJ.q;obtain ⟨AR1, kR1, cR1, AR2, kR2, cR2, hR2, nR2⟩ := dZ (g := w.heap.size + 1) (t := 32) (hJ.stored 1 rfl rfl (hall 1 (by decide))) (show Rq w2 (vals 0) (0) from hJ.s 0 (hall 0 (by decide)));have f5 : vals 2 = .int .i64 (7) := hJ.s 2 (hall 2 (by decide));rw [f5];clear f5;clear hall hJ;go_wp2_with fail
  have zR0 : w2.cell? ⟨w.heap.size + 1, 0, none⟩ = some (.int .i64 (sn (0))) := hR2.cell 0 rfl;have zR1 : w2.cell? ⟨w.heap.size + 1, 1, none⟩ = some (.slice AR1 kR1 cR1) := hR2.cell 1 rfl;have zR2 : w2.cell? ⟨w.heap.size + 1, 2, none⟩ = some (.slice AR2 kR2 cR2) := hR2.cell 2 rfl;refine bodyPost_ret (v := .tuple #[.agg #[.int .i64 (sn (0)), .slice AR1 kR1 cR1, .slice AR2 kR2 cR2], .int .i64 (7)]) (by simp [results, Tryz.results52, go_sem, zR0, zR1, zR2]) rfl ?_;exact ⟨_, by rw [HPW.out], (by rw [HPW.out]; exact nR2), hG2⟩
 ·have HA := Lib.hid hA; clear hA;refine aJ (F := ?F4) ([.eq (.int .i64 (z)), .eq (.bool false), .eq (.bool false), .eq (.int .i64 (z)), .eq (.bool true), .eq (.bool true)] : List Vs) ?hF4 ?st4 ?en4
  case hF4 =>
   intro vals;simp only [Ja.fillL, Act.put, List.setIfInBounds_toArray, List.set_cons_zero, List.set_cons_succ, Nat.reduceAdd];exact rfl
  case st4 =>
   intro hctx;refine JC.p hctx ?_;refine JC.u (.bool (decide ((z) < (-64)))) (congrArg Value.bool (decide_eq_false (show ¬ ((z : Int) < -64) from HA.out))) hctx ?_;refine JC.p hctx ?_;refine JC.p hctx ?_;refine JC.u (.bool (decide ((64) < (z)))) (congrArg Value.bool (decide_eq_true (show ((z : Int) > 64) from by have := HA.out; omega))) hctx ?_;refine JC.p hctx ?_;exact Ja.Steps.nil
  intro vals w1 hq1 hall;have hG1 := hG0.trans hq1;have hX1 := hX0.q hq1;have nX1 := Rq.q nX0 hq1;have hR1 := hR0.q hq1;clear hG0 hX0 hR0 nX0;have f15 : vals 5 = .bool true := hall 5 (by decide);rw [f15];clear f15;clear hall;go_upto_region 2 with fail
  have hAt1 : At0 w [⟨none, w.heap.size, 32, [.i, .s, .s], .agg #[.int .i64 (sn (p)), .slice AX1 kX1 cX1, .slice AX2 kX2 cX2], 1000, 0⟩, ⟨none, w.heap.size + 1, 32, [.i, .s, .s], .agg #[.int .i64 0, .slice none 0 0, .slice none 0 0], 1, 0⟩] [(.agg #[.int .i64 (sn (p)), .slice AX1 kX1 cX1, .slice AX2 kX2 cX2], .gen (pRn (p)))] w1 := At0.of hG1 ⟨aT hX1 (by omega), aT hR1 (by omega), trivial⟩ (by (simp [aP] <;> omega)) ⟨nX1, trivial⟩;clear hG1 hX1 hR1 nX1;refine aN (F := ?F5) w ([.gen (pRn (0)), .any, .eq (.int .i64 (7))] : List Vs) _ _ (by kernel_rfl) hAt1 ?hF5 ?st5 ?en5
  case hF5 =>
   intro vals;simp only [Ja.fillL, Act.put, List.setIfInBounds_toArray, List.set_cons_zero, List.set_cons_succ, Nat.reduceAdd];exact rfl
  case st5 =>
   clear hAt1;intro hctx;refine JC.o hctx ?_ ?_
   ·intro L vals W hL hJ hd K hK;go_simp
    exact hK.out (.agg #[.int .i64 0, .slice none 0 0, .slice none 0 0]) _ _ (by kernel_rfl) (Rq.none W) (Q.refl _)
   refine JC.s3 (n := 1) rfl fRn hctx ?_;refine JC.p hctx ?_;exact Ja.Steps.nil
  intro L vals w2 hall hJ;clear hAt1;have hG2 := hJ.q;obtain ⟨AR1, kR1, cR1, AR2, kR2, cR2, hR2, nR2⟩ := dZ (g := w.heap.size + 1) (t := 32) (hJ.stored 1 rfl rfl (hall 1 (by decide))) (show Rq w2 (vals 0) (0) from hJ.s 0 (hall 0 (by decide)));have f5 : vals 2 = .int .i64 (7) := hJ.s 2 (hall 2 (by decide));rw [f5];clear f5;clear hall hJ;go_wp2_with fail
  have zR0 : w2.cell? ⟨w.heap.size + 1, 0, none⟩ = some (.int .i64 (sn (0))) := hR2.cell 0 rfl;have zR1 : w2.cell? ⟨w.heap.size + 1, 1, none⟩ = some (.slice AR1 kR1 cR1) := hR2.cell 1 rfl;have zR2 : w2.cell? ⟨w.heap.size + 1, 2, none⟩ = some (.slice AR2 kR2 cR2) := hR2.cell 2 rfl;refine bodyPost_ret (v := .tuple #[.agg #[.int .i64 (sn (0)), .slice AR1 kR1 cR1, .slice AR2 kR2 cR2], .int .i64 (7)]) (by simp [results, Tryz.results52, go_sem, zR0, zR1, zR2]) rfl ?_;exact ⟨_, by rw [HPW.out], (by rw [HPW.out]; exact nR2), hG2⟩
set_option maxRecDepth 100000 in
theorem lY (x : Value) (p : Rat) (m : Nat) (w : World) (hx : Rq w x p) (h0 : 0 < m) (hm : m ≤ 64) (hB : 80000 * sz p + 600000 ≤ LIM) :
  Calls Tryz.prog 52 #[x, .int .i64 (-(m : Int))] w fun e w' => ∃ r, e = .returned (.tuple #[r, .int .i64 (bA p (-(m : Int))).1]) ∧ Rq w' r (bA p (-(m : Int))).2 ∧ Q w w' := by
 have hxy := hx;obtain ⟨AX1, kX1, cX1, AX2, kX2, cX2, rfl, -⟩ := hxy;obtain ⟨w0, hW, hG0, hX0, hR0⟩ := vM w 32 [.int .i64 (sn (p)), .slice AX1 kX1 cX1, .slice AX2 kX2 cX2] 32 [.int .i64 0, .slice none 0 0, .slice none 0 0];have nX0 : Rq w0 (.agg #[.int .i64 (sn (p)), .slice AX1 kX1 cX1, .slice AX2 kX2 cX2]) (p) := hx.q hG0;have HB := Lib.hid hB; clear hB;go_enter Tryz.func52, Tryz.ntmps52
 go_upto_region 1 with fail
 clear hW;have HM0 := Lib.hid h0; have HM := Lib.hid hm; clear h0 hm;refine aJ (F := ?F6) ([.eq (.int .i64 (-(m : Int))), .eq (.bool false), .eq (.bool false), .eq (.int .i64 (-(m : Int))), .eq (.bool false), .eq (.bool false)] : List Vs) ?hF6 ?st6 ?en6
 case hF6 =>
  intro vals;simp only [Ja.fillL, Act.put, List.setIfInBounds_toArray, List.set_cons_zero, List.set_cons_succ, Nat.reduceAdd];exact rfl
 case st6 =>
  intro hctx;refine JC.p hctx ?_;refine JC.u (.bool (decide ((-(m : Int)) < (-64)))) (congrArg Value.bool (decide_eq_false (show ¬ ((-(m : Int) : Int) < -64) from by have := HM.out; omega))) hctx ?_;refine JC.p hctx ?_;refine JC.p hctx ?_;refine JC.u (.bool (decide ((64) < (-(m : Int))))) (congrArg Value.bool (decide_eq_false (show ¬ ((-(m : Int) : Int) > 64) from by omega))) hctx ?_;refine JC.p hctx ?_;exact Ja.Steps.nil
 intro vals w1 hq1 hall;have hG1 := hG0.trans hq1;have hX1 := hX0.q hq1;have nX1 := Rq.q nX0 hq1;have hR1 := hR0.q hq1;clear hG0 hX0 hR0 nX0;have f15 : vals 5 = .bool false := hall 5 (by decide);rw [f15];clear f15;clear hall;go_upto_region 3 with fail
 refine aJ (F := ?F7) ([.eq (.int .i64 (-(m : Int))), .eq (.bool true)] : List Vs) ?hF7 ?st7 ?en7
 case hF7 =>
  intro vals;simp only [Ja.fillL, Act.put, List.setIfInBounds_toArray, List.set_cons_zero, List.set_cons_succ, Nat.reduceAdd];exact rfl
 case st7 =>
  intro hctx;refine JC.p hctx ?_;refine JC.u (.bool (decide ((-(m : Int)) < (0)))) (congrArg Value.bool (decide_eq_true (show ((-(m : Int) : Int) < 0) from by have := HM0.out; omega))) hctx ?_;exact Ja.Steps.nil
 intro vals w2 hq2 hall;have hG2 := hG1.trans hq2;have hX2 := hX1.q hq2;have nX2 := Rq.q nX1 hq2;have hR2 := hR1.q hq2;clear hG1 hX1 hR1 nX1;have f18 : vals 1 = .bool true := hall 1 (by decide);rw [f18];clear f18;clear hall;go_upto_region 4 with fail
 have hs9 := hR2.lt;by_cases hZ : p = 0
 ·have HZ := Lib.hid hZ; clear hZ;have Z1 : Hid (sz ((((1) : Int) : Rat)) ≤ 2) := Lib.hid (by have h99 := aAu 1 (by decide); have hb9 := HB.out; omega);have Z2 : Hid (sz ((aW ((((1) : Int) : Rat)) (p)).2) ≤ 1 * sz (p) + 4) := Lib.hid (by have h99 := aFG ((((1) : Int) : Rat)) (p); have h0 := Z1.out; have hb9 := HB.out; omega);have B3 : Hid (1000 * (sz ((((1) : Int) : Rat)) + sz (p)) + 20000 ≤ LIM) := Lib.hid (by have h0 := Z1.out; have hb9 := HB.out; rw [aA] at *; omega);have hAt2 : At0 w2 [⟨some 6, 0, 32, [.i, .s, .s], .agg #[.int .i64 0, .slice none 0 0, .slice none 0 0], 7, 4⟩] [] w2 := At0.of (Q.refl _) ⟨fun h => (by cases h), trivial⟩ (by simp [aP]) trivial;refine bF (F := ?F8) w2 ([.gen (pRn ((((1) : Int) : Rat))), .gen (pRn (p)), .gen (pT2 (pRn (0)) (pEq (.int .i64 (8)))), .gen (pT2 (pRn (0)) (pEq (.int .i64 (8)))), .gen (pRn (0)), .eq (.int .i64 (8)), .any, .any, .eq (.int .i64 (8))] : List Vs) _ _ (by kernel_rfl) (by kernel_rfl) hAt2 ?hF8 ?st8 ?en8
  case hF8 =>
   intro vals;simp only [Ja.fillL, Act.put, List.setIfInBounds_toArray, List.set_cons_zero, List.set_cons_succ, Nat.reduceAdd];exact rfl
  case st8 =>
   clear hAt2;intro hctx;refine JC.ca (fun vals W hN hd hk => (bN (1) W (by decide) (by decide)).mono (by rintro e W9 ⟨r, rfl, hr, hq9⟩; exact ⟨r, rfl, hr, hq9⟩)) hctx ?_;refine JC.l3 (off := 0) hX2 (fun W hN => (Rq.q nX2 hN)) hctx ?_;refine JC.ca (fun vals W hN hd hk => (aGR _ _ ((((1) : Int) : Rat)) (p) W (hd 0 (by kernel_rfl)) (hd 1 (by kernel_rfl)) B3.out).mono (by rintro e W9 ⟨r, rfl, hr, hq9⟩; exact ⟨(.tuple #[r, .int .i64 ((aW ((((1) : Int) : Rat)) (p)).1)]), rfl, ⟨_, _, rfl, (by have h8 := hr; rw [HZ.out, bY] at h8; exact h8), congrArg (Value.int .i64) (by rw [HZ.out, bY])⟩, hq9⟩)) hctx ?_;refine JC.m 2 hctx ?_;refine JC.o hctx ?_ ?_
   ·intro L vals W hL hJ hd K hK;have d3 : (pT2 (pRn (0)) (pEq (.int .i64 (8)))).p (vals 3) W := hd 3 (by kernel_rfl);generalize vals 3 = u3 at d3 hK ⊢;obtain ⟨e0, e1, rfl, he0, he1⟩ := d3;go_simp
    exact hK.out (e0) _ _ (by kernel_rfl) he0 (Q.refl _)
   refine JC.o hctx ?_ ?_
   ·intro L vals W hL hJ hd K hK;have d3 : (pT2 (pRn (0)) (pEq (.int .i64 (8)))).p (vals 3) W := hd 3 (by kernel_rfl);generalize vals 3 = u3 at d3 hK ⊢;obtain ⟨e0, e1, rfl, he0, he1⟩ := d3;obtain rfl : e1 = .int .i64 (8) := he1;go_simp
    exact hK.out (.int .i64 (8)) _ _ (by kernel_rfl) rfl (Q.refl _)
   refine Ja.Steps.cons (JC.alloc (n := 0) (cells := [.int .i64 0, .slice none 0 0, .slice none 0 0].toArray) (t := 32) hctx (by kernel_rfl) (by rfl) (by kernel_rfl) (by rfl) (by rfl) (by kernel_rfl) (by rfl) (fun W => NbV.mk (t := 32) (ck := [.i, .s, .s]) (row := [.int .i64 0, .slice none 0 0, .slice none 0 0]) ⟨⟨_, rfl⟩, ⟨_, _, _, rfl⟩, ⟨_, _, _, rfl⟩, trivial⟩ (Bx.new W _ _)) ?_) ?_
   ·intro vals W K hK;go_simp
    exact hK.out _ (by kernel_rfl)
   refine JC.s3 (n := 0) rfl fRn hctx ?_;refine JC.p hctx ?_;exact Ja.Steps.nil
  intro L vals w3 hall hJ;clear hAt2;have hq3 := hJ.q;have hG3 := hG2.trans hq3;have hX3 := hX2.q hq3;have nX3 := Rq.q nX2 hq3;have hR3 := hR2.q hq3;clear hG2 hX2 hR2 nX2;obtain ⟨gY, eY, geY, qY⟩ := hJ.fresh 0 rfl rfl (hall 6 (by decide)) (hall 7 (by decide));obtain ⟨AY1, kY1, cY1, AY2, kY2, cY2, hY3, nY3⟩ := dZ (g := gY) (t := 32) qY (show Rq w3 (vals 4) (0) from hJ.s 4 (hall 4 (by decide)));clear qY;rw [eY];clear eY;have f7 : vals 8 = .int .i64 (8) := hJ.s 8 (hall 8 (by decide));rw [f7];clear f7;clear hall hJ;go_upto_region 5 with fail
  refine aJ (F := ?F9) ([.eq (.int .i64 (8)), .eq (.bool true)] : List Vs) ?hF9 ?st9 ?en9
  case hF9 =>
   intro vals;simp only [Ja.fillL, Act.put, List.setIfInBounds_toArray, List.set_cons_zero, List.set_cons_succ, Nat.reduceAdd];exact rfl
  case st9 =>
   intro hctx;refine JC.p hctx ?_;refine JC.p hctx ?_;exact Ja.Steps.nil
  intro vals w4 hq4 hall;have hG4 := hG3.trans hq4;have hX4 := hX3.q hq4;have nX4 := Rq.q nX3 hq4;have hR4 := hR3.q hq4;have hY4 := hY3.q hq4;have nY4 := Rq.q nY3 hq4;clear hG3 hX3 hR3 hY3 nX3 nY3;have f26 : vals 1 = .bool true := hall 1 (by decide);rw [f26];clear f26;clear hall;go_upto_region 6 with fail
  have hAt4 : At0 w [⟨none, w.heap.size, 32, [.i, .s, .s], .agg #[.int .i64 (sn (p)), .slice AX1 kX1 cX1, .slice AX2 kX2 cX2], 1000, 0⟩, ⟨none, w.heap.size + 1, 32, [.i, .s, .s], .agg #[.int .i64 0, .slice none 0 0, .slice none 0 0], 2, 0⟩, ⟨none, gY, 32, [.i, .s, .s], .agg #[.int .i64 (sn (0)), .slice AY1 kY1 cY1, .slice AY2 kY2 cY2], 1000, 0⟩] [(.agg #[.int .i64 (sn (p)), .slice AX1 kX1 cX1, .slice AX2 kX2 cX2], .gen (pRn (p))), (.agg #[.int .i64 (sn (0)), .slice AY1 kY1 cY1, .slice AY2 kY2 cY2], .gen (pRn (0)))] w4 := At0.of hG4 ⟨aT hX4 (by omega), aT hR4 (by omega), aT hY4 (by omega), trivial⟩ (by (simp [aP] <;> omega)) ⟨nX4, nY4, trivial⟩;clear hG4 hX4 hR4 hY4 nX4 nY4;refine aN (F := ?F10) w ([.gen (pRn (0)), .eq (.int .i64 (8)), .any, .eq (.int .i64 (8))] : List Vs) _ _ (by kernel_rfl) hAt4 ?hF10 ?st10 ?en10
  case hF10 =>
   intro vals;simp only [Ja.fillL, Act.put, List.setIfInBounds_toArray, List.set_cons_zero, List.set_cons_succ, Nat.reduceAdd];exact rfl
  case st10 =>
   clear hAt4;intro hctx;refine JC.o hctx ?_ ?_
   ·intro L vals W hL hJ hd K hK;go_simp
    exact hK.out (.agg #[.int .i64 0, .slice none 0 0, .slice none 0 0]) _ _ (by kernel_rfl) (Rq.none W) (Q.refl _)
   refine JC.p hctx ?_;refine JC.s3 (n := 1) rfl fRn hctx ?_;refine JC.p hctx ?_;exact Ja.Steps.nil
  intro L vals w5 hall hJ;clear hAt4;have hG5 := hJ.q;obtain ⟨AR1, kR1, cR1, AR2, kR2, cR2, hR5, nR5⟩ := dZ (g := w.heap.size + 1) (t := 32) (hJ.stored 1 rfl rfl (hall 2 (by decide))) (show Rq w5 (vals 0) (0) from hJ.s 0 (hall 0 (by decide)));have f5 : vals 3 = .int .i64 (8) := hJ.s 3 (hall 3 (by decide));rw [f5];clear f5;clear hall hJ;have hpw : bA p (-(m : Int)) = (8, 0) := (by rw [HZ.out]; exact dM HM0.out HM.out);go_wp2_with fail
  have zR0 : w5.cell? ⟨w.heap.size + 1, 0, none⟩ = some (.int .i64 (sn (0))) := hR5.cell 0 rfl;have zR1 : w5.cell? ⟨w.heap.size + 1, 1, none⟩ = some (.slice AR1 kR1 cR1) := hR5.cell 1 rfl;have zR2 : w5.cell? ⟨w.heap.size + 1, 2, none⟩ = some (.slice AR2 kR2 cR2) := hR5.cell 2 rfl;refine bodyPost_ret (v := .tuple #[.agg #[.int .i64 (sn (0)), .slice AR1 kR1 cR1, .slice AR2 kR2 cR2], .int .i64 (8)]) (by simp [results, Tryz.results52, go_sem, zR0, zR1, zR2]) rfl ?_;exact ⟨_, by rw [hpw], (by rw [hpw]; exact nR5), hG5⟩
 ·have HZ := Lib.hid hZ; clear hZ;have Z1 : Hid (sz (p⁻¹) ≤ 1 * sz (p) + 1) := Lib.hid (by have h99 := aAs p; have hb9 := HB.out; omega);have Z2 : Hid (sz ((((1) : Int) : Rat)) ≤ 2) := Lib.hid (by have h99 := aAu 1 (by decide); have hb9 := HB.out; omega);have Z3 : Hid (sz ((aW ((((1) : Int) : Rat)) (p)).2) ≤ 1 * sz (p) + 4) := Lib.hid (by have h99 := aFG ((((1) : Int) : Rat)) (p); have h0 := Z2.out; have hb9 := HB.out; omega);have B4 : Hid (1000 * (sz ((((1) : Int) : Rat)) + sz (p)) + 20000 ≤ LIM) := Lib.hid (by have h0 := Z2.out; have hb9 := HB.out; rw [aA] at *; omega);have hAt2 : At0 w2 [⟨some 6, 0, 32, [.i, .s, .s], .agg #[.int .i64 0, .slice none 0 0, .slice none 0 0], 7, 4⟩] [] w2 := At0.of (Q.refl _) ⟨fun h => (by cases h), trivial⟩ (by simp [aP]) trivial;refine bF (F := ?F11) w2 ([.gen (pRn ((((1) : Int) : Rat))), .gen (pRn (p)), .gen (pT2 (pRn (p⁻¹)) (pEq (.int .i64 (0)))), .gen (pT2 (pRn (p⁻¹)) (pEq (.int .i64 (0)))), .gen (pRn (p⁻¹)), .eq (.int .i64 (0)), .any, .any, .eq (.int .i64 (0))] : List Vs) _ _ (by kernel_rfl) (by kernel_rfl) hAt2 ?hF11 ?st11 ?en11
  case hF11 =>
   intro vals;simp only [Ja.fillL, Act.put, List.setIfInBounds_toArray, List.set_cons_zero, List.set_cons_succ, Nat.reduceAdd];exact rfl
  case st11 =>
   clear hAt2;intro hctx;refine JC.ca (fun vals W hN hd hk => (bN (1) W (by decide) (by decide)).mono (by rintro e W9 ⟨r, rfl, hr, hq9⟩; exact ⟨r, rfl, hr, hq9⟩)) hctx ?_;refine JC.l3 (off := 0) hX2 (fun W hN => (Rq.q nX2 hN)) hctx ?_;refine JC.ca (fun vals W hN hd hk => (aGR _ _ ((((1) : Int) : Rat)) (p) W (hd 0 (by kernel_rfl)) (hd 1 (by kernel_rfl)) B4.out).mono (by rintro e W9 ⟨r, rfl, hr, hq9⟩; exact ⟨(.tuple #[r, .int .i64 ((aW ((((1) : Int) : Rat)) (p)).1)]), rfl, ⟨_, _, rfl, (by have h8 := hr; rw [div_one HZ.out] at h8; exact h8), congrArg (Value.int .i64) (by rw [div_one HZ.out])⟩, hq9⟩)) hctx ?_;refine JC.m 2 hctx ?_;refine JC.o hctx ?_ ?_
   ·intro L vals W hL hJ hd K hK;have d3 : (pT2 (pRn (p⁻¹)) (pEq (.int .i64 (0)))).p (vals 3) W := hd 3 (by kernel_rfl);generalize vals 3 = u3 at d3 hK ⊢;obtain ⟨e0, e1, rfl, he0, he1⟩ := d3;go_simp
    exact hK.out (e0) _ _ (by kernel_rfl) he0 (Q.refl _)
   refine JC.o hctx ?_ ?_
   ·intro L vals W hL hJ hd K hK;have d3 : (pT2 (pRn (p⁻¹)) (pEq (.int .i64 (0)))).p (vals 3) W := hd 3 (by kernel_rfl);generalize vals 3 = u3 at d3 hK ⊢;obtain ⟨e0, e1, rfl, he0, he1⟩ := d3;obtain rfl : e1 = .int .i64 (0) := he1;go_simp
    exact hK.out (.int .i64 (0)) _ _ (by kernel_rfl) rfl (Q.refl _)
   refine Ja.Steps.cons (JC.alloc (n := 0) (cells := [.int .i64 0, .slice none 0 0, .slice none 0 0].toArray) (t := 32) hctx (by kernel_rfl) (by rfl) (by kernel_rfl) (by rfl) (by rfl) (by kernel_rfl) (by rfl) (fun W => NbV.mk (t := 32) (ck := [.i, .s, .s]) (row := [.int .i64 0, .slice none 0 0, .slice none 0 0]) ⟨⟨_, rfl⟩, ⟨_, _, _, rfl⟩, ⟨_, _, _, rfl⟩, trivial⟩ (Bx.new W _ _)) ?_) ?_
   ·intro vals W K hK;go_simp
    exact hK.out _ (by kernel_rfl)
   refine JC.s3 (n := 0) rfl fRn hctx ?_;refine JC.p hctx ?_;exact Ja.Steps.nil
  intro L vals w3 hall hJ;clear hAt2;have hq3 := hJ.q;have hG3 := hG2.trans hq3;have hX3 := hX2.q hq3;have nX3 := Rq.q nX2 hq3;have hR3 := hR2.q hq3;clear hG2 hX2 hR2 nX2;obtain ⟨gY, eY, geY, qY⟩ := hJ.fresh 0 rfl rfl (hall 6 (by decide)) (hall 7 (by decide));obtain ⟨AY1, kY1, cY1, AY2, kY2, cY2, hY3, nY3⟩ := dZ (g := gY) (t := 32) qY (show Rq w3 (vals 4) (p⁻¹) from hJ.s 4 (hall 4 (by decide)));clear qY;rw [eY];clear eY;have f7 : vals 8 = .int .i64 (0) := hJ.s 8 (hall 8 (by decide));rw [f7];clear f7;clear hall hJ;go_upto_region 5 with fail
  refine aJ (F := ?F12) ([.eq (.int .i64 (0)), .eq (.bool false)] : List Vs) ?hF12 ?st12 ?en12
  case hF12 =>
   intro vals;simp only [Ja.fillL, Act.put, List.setIfInBounds_toArray, List.set_cons_zero, List.set_cons_succ, Nat.reduceAdd];exact rfl
  case st12 =>
   intro hctx;refine JC.p hctx ?_;refine JC.p hctx ?_;exact Ja.Steps.nil
  intro vals w4 hq4 hall;have hG4 := hG3.trans hq4;have hX4 := hX3.q hq4;have nX4 := Rq.q nX3 hq4;have hR4 := hR3.q hq4;have hY4 := hY3.q hq4;have nY4 := Rq.q nY3 hq4;clear hG3 hX3 hR3 hY3 nX3 nY3;have f26 : vals 1 = .bool false := hall 1 (by decide);rw [f26];clear f26;clear hall;go_upto_region 7 with fail
  have B5 : Hid (80000 * sz (p⁻¹) + 200000 ≤ LIM) := Lib.hid (by have h0 := Z1.out; have hb9 := HB.out; rw [aA] at *; omega);have hAt4 : At0 w [⟨none, w.heap.size, 32, [.i, .s, .s], .agg #[.int .i64 (sn (p)), .slice AX1 kX1 cX1, .slice AX2 kX2 cX2], 1000, 0⟩, ⟨none, w.heap.size + 1, 32, [.i, .s, .s], .agg #[.int .i64 0, .slice none 0 0, .slice none 0 0], 6, 4⟩, ⟨none, gY, 32, [.i, .s, .s], .agg #[.int .i64 (sn (p⁻¹)), .slice AY1 kY1 cY1, .slice AY2 kY2 cY2], 1000, 0⟩] [(.agg #[.int .i64 (sn (p)), .slice AX1 kX1 cX1, .slice AX2 kX2 cX2], .gen (pRn (p))), (.agg #[.int .i64 (sn (p⁻¹)), .slice AY1 kY1 cY1, .slice AY2 kY2 cY2], .gen (pRn (p⁻¹)))] w4 := At0.of hG4 ⟨aT hX4 (by omega), aT hR4 (by omega), aT hY4 (by omega), trivial⟩ (by (simp [aP] <;> omega)) ⟨nX4, nY4, trivial⟩;clear hG4 hX4 hR4 hY4 nX4 nY4;refine aN (F := ?F13) w ([.gen (pRn (p⁻¹)), .eq (.int .i64 (-(m : Int))), .eq (.int .i64 ((m : Int))), .gen (pT2 (pRn ((p⁻¹) ^ m)) (pEq (.int .i64 (0)))), .gen (pRn ((p⁻¹) ^ m)), .eq (.int .i64 (0)), .any, .eq (.int .i64 (0))] : List Vs) _ _ (by kernel_rfl) hAt4 ?hF13 ?st13 ?en13
  case hF13 =>
   intro vals;simp only [Ja.fillL, Act.put, List.setIfInBounds_toArray, List.set_cons_zero, List.set_cons_succ, Nat.reduceAdd];exact rfl
  case st13 =>
   clear hAt4;intro hctx;refine JC.r3 (off := 0) (row := [.int .i64 (sn (p⁻¹)), .slice AY1 kY1 cY1, .slice AY2 kY2 cY2]) (fun _ _ _ hL hJ => hJ.still 2 rfl rfl (Nat.le_of_ble_eq_true (by kernel_rfl))) (fun _ _ _ hJ => (hJ.kept 1 rfl)) hctx ?_;refine JC.p hctx ?_;refine JC.u (.int .i64 (IntKind.i64.wrap (0 - (-(m : Int))))) (by exact congrArg (Value.int .i64) (lN HM.out)) hctx ?_;refine JC.ca (fun vals W hN hd hk => (dB _ (p⁻¹) m W (hd 0 (by kernel_rfl)) HM.out B5.out).mono (by rintro e W9 ⟨r, rfl, hr, hq9⟩; exact ⟨(.tuple #[r, .int .i64 0]), rfl, ⟨_, _, rfl, hr, rfl⟩, hq9⟩)) hctx ?_;refine JC.o hctx ?_ ?_
   ·intro L vals W hL hJ hd K hK;have d3 : (pT2 (pRn ((p⁻¹) ^ m)) (pEq (.int .i64 (0)))).p (vals 3) W := hd 3 (by kernel_rfl);generalize vals 3 = u3 at d3 hK ⊢;obtain ⟨e0, e1, rfl, he0, he1⟩ := d3;go_simp
    exact hK.out (e0) _ _ (by kernel_rfl) he0 (Q.refl _)
   refine JC.o hctx ?_ ?_
   ·intro L vals W hL hJ hd K hK;have d3 : (pT2 (pRn ((p⁻¹) ^ m)) (pEq (.int .i64 (0)))).p (vals 3) W := hd 3 (by kernel_rfl);generalize vals 3 = u3 at d3 hK ⊢;obtain ⟨e0, e1, rfl, he0, he1⟩ := d3;obtain rfl : e1 = .int .i64 (0) := he1;go_simp
    exact hK.out (.int .i64 (0)) _ _ (by kernel_rfl) rfl (Q.refl _)
   refine JC.s3 (n := 1) rfl fRn hctx ?_;refine JC.p hctx ?_;exact Ja.Steps.nil
  intro L vals w5 hall hJ;clear hAt4;have hG5 := hJ.q;obtain ⟨AR1, kR1, cR1, AR2, kR2, cR2, hR5, nR5⟩ := dZ (g := w.heap.size + 1) (t := 32) (hJ.stored 1 rfl rfl (hall 6 (by decide))) (show Rq w5 (vals 4) ((p⁻¹) ^ m) from hJ.s 4 (hall 4 (by decide)));have f5 : vals 7 = .int .i64 (0) := hJ.s 7 (hall 7 (by decide));rw [f5];clear f5;clear hall hJ;have hpw : bA p (-(m : Int)) = (0, p⁻¹ ^ m) := gD HZ.out HM0.out HM.out;go_wp2_with fail
  have zR0 : w5.cell? ⟨w.heap.size + 1, 0, none⟩ = some (.int .i64 (sn ((p⁻¹) ^ m))) := hR5.cell 0 rfl;have zR1 : w5.cell? ⟨w.heap.size + 1, 1, none⟩ = some (.slice AR1 kR1 cR1) := hR5.cell 1 rfl;have zR2 : w5.cell? ⟨w.heap.size + 1, 2, none⟩ = some (.slice AR2 kR2 cR2) := hR5.cell 2 rfl;refine bodyPost_ret (v := .tuple #[.agg #[.int .i64 (sn ((p⁻¹) ^ m)), .slice AR1 kR1 cR1, .slice AR2 kR2 cR2], .int .i64 (0)]) (by simp [results, Tryz.results52, go_sem, zR0, zR1, zR2]) rfl ?_;exact ⟨_, by rw [hpw], (by rw [hpw]; exact nR5), hG5⟩
theorem qD (x : Value) (p : Rat) (z : Int) (w : World) (hx : Rq w x p) (hB : 80000 * sz p + 600000 ≤ LIM) :
  Calls Tryz.prog 52 #[x, .int .i64 z] w fun e w' => ∃ r, e = .returned (.tuple #[r, .int .i64 (bA p z).1]) ∧ Rq w' r (bA p z).2 ∧ Q w w' := by
 by_cases hz : z < -64 ∨ 64 < z
 ·exact lV x p z w hx hz
 by_cases h0 : z < 0
 ·obtain ⟨m, h1, h2, rfl⟩ : ∃ m : Nat, 0 < m ∧ m ≤ 64 ∧ z = -(m : Int) := ⟨(-z).toNat, by omega, by omega, by omega⟩
  exact lY x p m w hx h1 h2 hB
 ·obtain ⟨n, h2, rfl⟩ : ∃ n : Nat, n ≤ 64 ∧ z = (n : Int) := ⟨z.toNat, by omega, by omega⟩
  rw [gP h2];exact dB x p n w hx h2 (by omega)
end Go.Proofs.YtgokbhikgdhmpaaGreatDoor.K
