/- ValueIncludes (a part of the proof): results of numbers are in the results of their spans. No condition. -/
import Derived.Test.YtgpacgadpnpjjaaGreatDoorQn23
set_option maxHeartbeats 4000000
set_option maxRecDepth 100000
namespace Go.Proofs.YtgpacgadpnpjjaaGreatDoor.K
open Go.RowKit
open Ma Me
def pE (z : Int) : Nat := if z < 0 then 0 else if 64 < z then 64 else z.toNat
theorem aEA (z : Int) : pE z ≤ 64 := by unfold pE; split <;> (try split) <;> omega
theorem aBz (z : Int) : min (max z 0) 64 = (pE z : Int) := by unfold pE; split <;> (try split) <;> omega
theorem aAX {w : World} {s : Bool} {t b : Value} {q : Rat} (h : Nq w (.agg #[.bool s, t, b]) q) : s = decide (q < 0) := by
 obtain ⟨t', b', e, -⟩ := h;simp only [Value.agg.injEq, Array.mk.injEq, List.cons.injEq, Value.bool.injEq, and_true] at e;rw [e.1];exact decide_eq_decide.2 (bG q)
theorem aCL (a : Value) (p q : Rat) (z : Int) (w : World) (ha : Ns w a p q) (hB : sz p + sz q ≤ 10000000) :
  Calls Tryz.prog 48 #[a, .int .i64 z] w fun e w' => ∃ r, e = .returned r ∧ Ns w' r (qlo (pE z) (aK p q) (aG p q)) (qhi (pE z) (aK p q) (aG p q)) ∧ Q w w' := by
 have hay := ha; obtain ⟨sA0, AA1, kA1, cA1, AA2, kA2, cA2, sA3, AA4, kA4, cA4, AA5, kA5, cA5, rfl, -⟩ := (show Ns _ _ _ _ from hay)
 obtain ⟨w0, hW, hG0, hA0, hT0⟩ := aE6 w 59 [.bool sA0, .slice AA1 kA1 cA1, .slice AA2 kA2 cA2, .bool sA3, .slice AA4 kA4 cA4, .slice AA5 kA5 cA5] 59 [.bool false, .slice none 0 0, .slice none 0 0, .bool false, .slice none 0 0, .slice none 0 0];have nA0 : Ns w0 (.agg #[.bool sA0, .slice AA1 kA1 cA1, .slice AA2 kA2 cA2, .bool sA3, .slice AA4 kA4 cA4, .slice AA5 kA5 cA5]) (p) (q) := ha.q hG0;have Z0 : Hid (sz p + sz q ≤ 10000000) := Lib.hid hB;have Z1 : Hid (sz p ≤ 10000000) := Lib.hid (by have := Z0.out; omega);have Z2 : Hid (sz q ≤ 10000000) := Lib.hid (by have := Z0.out; omega);clear hB;obtain ⟨n, hnn⟩ : ∃ n, pE z = n := ⟨_, rfl⟩
 have hn64 : n ≤ 64 := by rw [← hnn]; exact aEA z
 have hmx := aBz z;rw [hnn] at hmx;rw [hnn];clear hnn;go_enter Tryz.func48, Tryz.ntmps48
 go_upto_region 1 with fail
 clear hW;have Z3 : Hid (sz (aK (p) (q)) ≤ 20000000) := Lib.hid (by have h9 := aEu (p) (q); have h0 := Z1.out; have h1 := Z2.out; omega);have Z4 : Hid (sz (aG (p) (q)) ≤ 20000000) := Lib.hid (by have h9 := aAN (p) (q); have h0 := Z1.out; have h1 := Z2.out; omega);have B5 : Hid (64 * (sz (p) + sz (q)) + 400 ≤ LIM) := Lib.hid (by have h0 := Z1.out; have h1 := Z2.out; rw [aA]; omega);have hAt0 : At0 w [⟨none, w.heap.size, 59, [.b, .s, .s, .b, .s, .s], .agg #[.bool sA0, .slice AA1 kA1 cA1, .slice AA2 kA2 cA2, .bool sA3, .slice AA4 kA4 cA4, .slice AA5 kA5 cA5], 2, 1⟩, ⟨none, w.heap.size + 1, 59, [.b, .s, .s, .b, .s, .s], .agg #[.bool false, .slice none 0 0, .slice none 0 0, .bool false, .slice none 0 0, .slice none 0 0], 1000, 0⟩] [(.agg #[.bool sA0, .slice AA1 kA1 cA1, .slice AA2 kA2 cA2, .bool sA3, .slice AA4 kA4 cA4, .slice AA5 kA5 cA5], .gen (gH (p) (q)))] w0 := At0.of hG0 ⟨kS hA0 (by omega), kS hT0 (by omega), trivial⟩ (by (simp [dO] <;> omega)) ⟨nA0, trivial⟩;clear hG0 hA0 hT0 nA0;refine cK (F := ?F1) w ([.gen (gH (p) (q)), .gen (gH (aK (p) (q)) (aG (p) (q))), .any] : List Vs) _ _ (by kernel_rfl) hAt0 ?hF1 ?st1 ?en1
 case hF1 =>
  intro vals;simp only [Ja.fillL, Act.put, List.setIfInBounds_toArray, List.set, Nat.reduceAdd];exact rfl
 case st1 =>
  clear hAt0;intro hctx;refine JC.k6 0 0 hctx ?_;refine JC.ca (fun vals W hN hd hk => (aCJ _ (p) (q) W (hd 0 (by kernel_rfl)) B5.out).mono (by rintro e W9 ⟨r, rfl, hr, hq9⟩; exact ⟨r, rfl, hr, hq9⟩)) hctx ?_;refine JC.s6 (n := 0) rfl oW hctx ?_;exact Ja.Steps.nil
 intro L vals w1 hall hJ;clear hAt0;have hG1 := hJ.q;obtain ⟨sA0, AA1, kA1, cA1, AA2, kA2, cA2, sA3, AA4, kA4, cA4, AA5, kA5, cA5, hA1, nA1⟩ := mM (g := w.heap.size) (t := 59) (hJ.stored 0 rfl rfl (hall 2 (by decide))) (show Ns w1 (vals 1) (aK (p) (q)) (aG (p) (q)) from hJ.s 1 (hall 1 (by decide)));have hT1 : Bx w1 (w.heap.size + 1) 59 [.bool false, .slice none 0 0, .slice none 0 0, .bool false, .slice none 0 0, .slice none 0 0] := NbV.out (hJ.still 1 rfl rfl (Nat.le_of_ble_eq_true (by kernel_rfl)));clear hall hJ;go_upto_region 3 with fail
 clear hmx;have hzT := hT1.lt;have Z6 : Hid (sz ((aK (p) (q)) ^ n) ≤ 1280000002) := Lib.hid (by have h9 := Nat.le_trans (aB5 (aK (p) (q)) n) (Nat.add_le_add_right (Nat.mul_le_mul_right _ hn64) 2); have h0 := Z3.out; omega);have B7 : Hid (64 * (sz (aK (p) (q))) + 400 ≤ LIM) := Lib.hid (by have h0 := Z3.out; rw [aA]; omega);have Z8 : Hid (sz ((aG (p) (q)) ^ n) ≤ 1280000002) := Lib.hid (by have h9 := Nat.le_trans (aB5 (aG (p) (q)) n) (Nat.add_le_add_right (Nat.mul_le_mul_right _ hn64) 2); have h0 := Z4.out; omega);have B9 : Hid (64 * (sz (aG (p) (q))) + 400 ≤ LIM) := Lib.hid (by have h0 := Z4.out; rw [aA]; omega);have hAt1 : At0 w1 [⟨some 8, 0, 25, [.b, .s, .s], .agg #[.bool false, .slice none 0 0, .slice none 0 0], 10, 3⟩, ⟨some 9, 0, 25, [.b, .s, .s], .agg #[.bool false, .slice none 0 0, .slice none 0 0], 11, 7⟩] [] w1 := At0.of (Q.refl _) ⟨fun h => (by cases h), fun h => (by cases h), trivial⟩ (by (simp [dO] <;> omega)) trivial;refine mE (F := ?F2) w1 ([.eq (.pointer (some ⟨w.heap.size, 0, none⟩)), .gen (aN (aK (p) (q))), .eq (.int .i64 ((n : Int))), .gen (aN ((aK (p) (q)) ^ n)), .eq (.pointer (some ⟨w.heap.size, 3, none⟩)), .gen (aN (aG (p) (q))), .eq (.int .i64 ((n : Int))), .gen (aN ((aG (p) (q)) ^ n)), .any, .any, .any, .any] : List Vs) _ _ (by kernel_rfl) (by kernel_rfl) hAt1 ?hF2 ?st2 ?en2
 case hF2 =>
  intro vals;simp only [Ja.fillL, Act.put, List.setIfInBounds_toArray, List.set, Nat.reduceAdd];exact rfl
 case st2 =>
  clear hAt1;intro hctx;refine JC.p hctx ?_;refine JC.l3 (off := 0) hA1 (fun W hN => (lD (Ns.q nA1 hN)).1) hctx ?_;refine JC.p hctx ?_;refine JC.ca (fun vals W hN hd hk => (aAO _ (aK (p) (q)) _ n W (hd 1 (by kernel_rfl)) (Lib.hid rfl) hn64 B7.out).mono (by rintro e W9 ⟨r, rfl, hr, hq9⟩; exact ⟨r, rfl, hr, hq9⟩)) hctx ?_;refine JC.p hctx ?_;refine JC.l3 (off := 3) hA1 (fun W hN => (lD (Ns.q nA1 hN)).2) hctx ?_;refine JC.p hctx ?_;refine JC.ca (fun vals W hN hd hk => (aAO _ (aG (p) (q)) _ n W (hd 5 (by kernel_rfl)) (Lib.hid rfl) hn64 B9.out).mono (by rintro e W9 ⟨r, rfl, hr, hq9⟩; exact ⟨r, rfl, hr, hq9⟩)) hctx ?_;refine JC.al (n := 0) shN hctx ?_;refine JC.al (n := 1) shN hctx ?_;refine JC.s3 (n := 0) rfl vV hctx ?_;refine JC.s3 (n := 1) rfl vV hctx ?_;exact Ja.Steps.nil
 intro L vals w2 hall hJ;clear hAt1;have hq2 := hJ.q;have hG2 := hG1.trans hq2;have hA2 := hA1.q hq2;have nA2 := Ns.q nA1 hq2;have hT2 := hT1.q hq2;clear hG1 hA1 hT1 nA1;obtain ⟨gX, eX, geX, qX⟩ := hJ.fresh 0 rfl rfl (hall 8 (by decide)) (hall 10 (by decide));obtain ⟨sX0, AX1, kX1, cX1, AX2, kX2, cX2, hX2, nX2⟩ := rR (g := gX) (t := 25) qX (show Nq w2 (vals 3) ((aK (p) (q)) ^ n) from hJ.s 3 (hall 3 (by decide)));clear qX;obtain ⟨gY, eY, geY, qY⟩ := hJ.fresh 1 rfl rfl (hall 9 (by decide)) (hall 11 (by decide));obtain ⟨sY0, AY1, kY1, cY1, AY2, kY2, cY2, hY2, nY2⟩ := rR (g := gY) (t := 25) qY (show Nq w2 (vals 7) ((aG (p) (q)) ^ n) from hJ.s 7 (hall 7 (by decide)));clear qY;have neYX : gY ≠ gX := hJ.ne 1 0 (by decide) rfl rfl (hall 9 (by decide)) (hall 8 (by decide)) eY eX;rw [eX];clear eX;rw [eY];clear eY;clear hall hJ;go_upto_region 4 with fail
 have hsa := aAX (lD nA2).1; have hsb := aAX (lD nA2).2;have hle : aK (p) (q) ≤ aG (p) (q) := yI p q;have HLE := Lib.hid hle; have HSA := Lib.hid hsa; have HSB := Lib.hid hsb; clear hle hsa hsb;by_cases h0 : n = 0
 ·have H0 : Hid ((n : Int) = 0) := Lib.hid (by omega);have H00 := Lib.hid h0; clear h0;refine bJ (F := ?F3) ([.eq (.int .i64 ((n : Int))), .eq (.bool true), .eq (.bool true), .no, .no, .no, .eq (.bool true), .eq (.bool true), .no, .no, .no, .no, .eq (.bool true), .eq (.bool true)] : List Vs) ?hF3 ?st3 ?en3
  case hF3 =>
   intro vals;simp only [Ja.fillL, Act.put, List.setIfInBounds_toArray, List.set, Nat.reduceAdd];exact rfl
  case st3 =>
   intro hctx;refine JC.p hctx ?_;refine JC.u (.bool (((n : Int)) == (0))) (congrArg Value.bool (beq_iff_eq.2 (H0.out))) hctx ?_;refine JC.p hctx ?_;refine JC.n hctx ?_;refine JC.n hctx ?_;refine JC.n hctx ?_;refine JC.p hctx ?_;refine JC.p hctx ?_;refine JC.n hctx ?_;refine JC.n hctx ?_;refine JC.n hctx ?_;refine JC.n hctx ?_;refine JC.p hctx ?_;refine JC.p hctx ?_;exact Ja.Steps.nil
  intro vals w3 hq3 hall;have hG3 := hG2.trans hq3;have hA3 := hA2.q hq3;have nA3 := Ns.q nA2 hq3;have hT3 := hT2.q hq3;have hX3 := hX2.q hq3;have nX3 := Nq.q nX2 hq3;have hY3 := hY2.q hq3;have nY3 := Nq.q nY2 hq3;clear hG2 hA2 hT2 hX2 hY2 nA2 nX2 nY2;have f20 : vals 13 = .bool true := hall 13 (by decide);rw [f20];clear f20;clear hall;go_upto_region 5 with fail
  have hAt3 : At0 w [⟨none, w.heap.size, 59, [.b, .s, .s, .b, .s, .s], .agg #[.bool sA0, .slice AA1 kA1 cA1, .slice AA2 kA2 cA2, .bool sA3, .slice AA4 kA4 cA4, .slice AA5 kA5 cA5], 1000, 0⟩, ⟨none, w.heap.size + 1, 59, [.b, .s, .s, .b, .s, .s], .agg #[.bool false, .slice none 0 0, .slice none 0 0, .bool false, .slice none 0 0, .slice none 0 0], 3, 2⟩, ⟨none, gX, 25, [.b, .s, .s], .agg #[.bool sX0, .slice AX1 kX1 cX1, .slice AX2 kX2 cX2], 1000, 0⟩, ⟨none, gY, 25, [.b, .s, .s], .agg #[.bool sY0, .slice AY1 kY1 cY1, .slice AY2 kY2 cY2], 1000, 0⟩] [(.agg #[.bool sA0, .slice AA1 kA1 cA1, .slice AA2 kA2 cA2, .bool sA3, .slice AA4 kA4 cA4, .slice AA5 kA5 cA5], .gen (gH (aK (p) (q)) (aG (p) (q)))), (.agg #[.bool sX0, .slice AX1 kX1 cX1, .slice AX2 kX2 cX2], .gen (aN ((aK (p) (q)) ^ n))), (.agg #[.bool sY0, .slice AY1 kY1 cY1, .slice AY2 kY2 cY2], .gen (aN ((aG (p) (q)) ^ n)))] w3 := At0.of hG3 ⟨kS hA3 (by omega), kS hT3 (by omega), nH hX3 (by omega), nH hY3 (by omega), trivial⟩ (by (simp [dO] <;> omega)) ⟨nA3, nX3, nY3, trivial⟩;clear hG3 hA3 hT3 hX3 hY3 nA3 nX3 nY3;refine cK (F := ?F4) w ([.gen (aN ((aK (p) (q)) ^ n)), .gen (aN ((aG (p) (q)) ^ n)), .gen (gH ((aK (p) (q)) ^ n) ((aG (p) (q)) ^ n)), .any] : List Vs) _ _ (by kernel_rfl) hAt3 ?hF4 ?st4 ?en4
  case hF4 =>
   intro vals;simp only [Ja.fillL, Act.put, List.setIfInBounds_toArray, List.set, Nat.reduceAdd];exact rfl
  case st4 =>
   clear hAt3;intro hctx;refine JC.k3 2 1 0 hctx ?_;refine JC.k3 3 2 0 hctx ?_;refine JC.bs 0 1 hctx ?_;refine JC.s6 (n := 1) rfl oW hctx ?_;exact Ja.Steps.nil
  intro L vals w4 hall hJ;clear hAt3;have hG4 := hJ.q;obtain ⟨sT0, AT1, kT1, cT1, AT2, kT2, cT2, sT3, AT4, kT4, cT4, AT5, kT5, cT5, hT4, nT4⟩ := mM (g := w.heap.size + 1) (t := 59) (hJ.stored 1 rfl rfl (hall 3 (by decide))) (show Ns w4 (vals 2) ((aK (p) (q)) ^ n) ((aG (p) (q)) ^ n) from hJ.s 2 (hall 2 (by decide)));clear hall hJ;go_wp2_with fail
  have hps := qB HLE.out (Or.inl H00.out);rw [hps.1, hps.2] at nT4;exact zT hT4 (⟨_, rfl, nT4, hG4⟩)
 have H0 : Hid (¬ (n : Int) = 0) := Lib.hid (by omega);have H00 := Lib.hid h0; clear h0;by_cases h1 : n % 2 = 1
 ·have H1 : Hid ((n : Int).tmod 2 = 1) := Lib.hid (by have : (n : Int).tmod 2 = ((n % 2 : Nat) : Int) := rfl; omega);have H11 := Lib.hid h1; clear h1;refine bJ (F := ?F5) ([.eq (.int .i64 ((n : Int))), .eq (.bool false), .eq (.bool false), .eq (.int .i64 ((n : Int))), .eq (.int .i64 ((n : Int).tmod 2)), .eq (.bool true), .eq (.bool true), .eq (.bool true), .no, .no, .no, .no, .eq (.bool true), .eq (.bool true)] : List Vs) ?hF5 ?st5 ?en5
  case hF5 =>
   intro vals;simp only [Ja.fillL, Act.put, List.setIfInBounds_toArray, List.set, Nat.reduceAdd];exact rfl
  case st5 =>
   intro hctx;refine JC.p hctx ?_;refine JC.u (.bool (((n : Int)) == (0))) (congrArg Value.bool (beq_eq_false_iff_ne.2 (H0.out))) hctx ?_;refine JC.p hctx ?_;refine JC.p hctx ?_;refine JC.o hctx ?_ ?_
   ·intro L vals W hL hJ hd K hK;have d3 : vals 3 = .int .i64 ((n : Int)) := hd 3 (by kernel_rfl);generalize vals 3 = u3 at d3 hK ⊢;subst d3;go_simp
    exact hK.out (.int .i64 ((n : Int).tmod 2)) _ _ (by kernel_rfl) rfl (Q.refl _)
   refine JC.u (.bool (((n : Int).tmod 2) == (1))) (congrArg Value.bool (beq_iff_eq.2 (H1.out))) hctx ?_;refine JC.p hctx ?_;refine JC.p hctx ?_;refine JC.n hctx ?_;refine JC.n hctx ?_;refine JC.n hctx ?_;refine JC.n hctx ?_;refine JC.p hctx ?_;refine JC.p hctx ?_;exact Ja.Steps.nil
  intro vals w3 hq3 hall;have hG3 := hG2.trans hq3;have hA3 := hA2.q hq3;have nA3 := Ns.q nA2 hq3;have hT3 := hT2.q hq3;have hX3 := hX2.q hq3;have nX3 := Nq.q nX2 hq3;have hY3 := hY2.q hq3;have nY3 := Nq.q nY2 hq3;clear hG2 hA2 hT2 hX2 hY2 nA2 nX2 nY2;have f20 : vals 13 = .bool true := hall 13 (by decide);rw [f20];clear f20;clear hall;go_upto_region 5 with fail
  have hAt3 : At0 w [⟨none, w.heap.size, 59, [.b, .s, .s, .b, .s, .s], .agg #[.bool sA0, .slice AA1 kA1 cA1, .slice AA2 kA2 cA2, .bool sA3, .slice AA4 kA4 cA4, .slice AA5 kA5 cA5], 1000, 0⟩, ⟨none, w.heap.size + 1, 59, [.b, .s, .s, .b, .s, .s], .agg #[.bool false, .slice none 0 0, .slice none 0 0, .bool false, .slice none 0 0, .slice none 0 0], 3, 2⟩, ⟨none, gX, 25, [.b, .s, .s], .agg #[.bool sX0, .slice AX1 kX1 cX1, .slice AX2 kX2 cX2], 1000, 0⟩, ⟨none, gY, 25, [.b, .s, .s], .agg #[.bool sY0, .slice AY1 kY1 cY1, .slice AY2 kY2 cY2], 1000, 0⟩] [(.agg #[.bool sA0, .slice AA1 kA1 cA1, .slice AA2 kA2 cA2, .bool sA3, .slice AA4 kA4 cA4, .slice AA5 kA5 cA5], .gen (gH (aK (p) (q)) (aG (p) (q)))), (.agg #[.bool sX0, .slice AX1 kX1 cX1, .slice AX2 kX2 cX2], .gen (aN ((aK (p) (q)) ^ n))), (.agg #[.bool sY0, .slice AY1 kY1 cY1, .slice AY2 kY2 cY2], .gen (aN ((aG (p) (q)) ^ n)))] w3 := At0.of hG3 ⟨kS hA3 (by omega), kS hT3 (by omega), nH hX3 (by omega), nH hY3 (by omega), trivial⟩ (by (simp [dO] <;> omega)) ⟨nA3, nX3, nY3, trivial⟩;clear hG3 hA3 hT3 hX3 hY3 nA3 nX3 nY3;refine cK (F := ?F6) w ([.gen (aN ((aK (p) (q)) ^ n)), .gen (aN ((aG (p) (q)) ^ n)), .gen (gH ((aK (p) (q)) ^ n) ((aG (p) (q)) ^ n)), .any] : List Vs) _ _ (by kernel_rfl) hAt3 ?hF6 ?st6 ?en6
  case hF6 =>
   intro vals;simp only [Ja.fillL, Act.put, List.setIfInBounds_toArray, List.set, Nat.reduceAdd];exact rfl
  case st6 =>
   clear hAt3;intro hctx;refine JC.k3 2 1 0 hctx ?_;refine JC.k3 3 2 0 hctx ?_;refine JC.bs 0 1 hctx ?_;refine JC.s6 (n := 1) rfl oW hctx ?_;exact Ja.Steps.nil
  intro L vals w4 hall hJ;clear hAt3;have hG4 := hJ.q;obtain ⟨sT0, AT1, kT1, cT1, AT2, kT2, cT2, sT3, AT4, kT4, cT4, AT5, kT5, cT5, hT4, nT4⟩ := mM (g := w.heap.size + 1) (t := 59) (hJ.stored 1 rfl rfl (hall 3 (by decide))) (show Ns w4 (vals 2) ((aK (p) (q)) ^ n) ((aG (p) (q)) ^ n) from hJ.s 2 (hall 2 (by decide)));clear hall hJ;go_wp2_with fail
  have hps := qB HLE.out (Or.inr (Or.inl H11.out));rw [hps.1, hps.2] at nT4;exact zT hT4 (⟨_, rfl, nT4, hG4⟩)
 have H1 : Hid (¬ (n : Int).tmod 2 = 1) := Lib.hid (by have : (n : Int).tmod 2 = ((n % 2 : Nat) : Int) := rfl; omega);have H11 : Hid (n % 2 = 0) := Lib.hid (by omega); clear h1;by_cases h2 : aK (p) (q) < 0
 ·have H2 := Lib.hid h2; clear h2;refine bJ (F := ?F7) ([.eq (.int .i64 ((n : Int))), .eq (.bool false), .eq (.bool false), .eq (.int .i64 ((n : Int))), .eq (.int .i64 ((n : Int).tmod 2)), .eq (.bool false), .eq (.bool false), .eq (.bool false), .eq (.pointer (some ⟨w.heap.size, 0, none⟩)), .eq (.pointer (some ⟨w.heap.size, 0, none⟩)), .eq (.bool true), .eq (.bool false), .eq (.bool false), .eq (.bool false)] : List Vs) ?hF7 ?st7 ?en7
  case hF7 =>
   intro vals;simp only [Ja.fillL, Act.put, List.setIfInBounds_toArray, List.set, Nat.reduceAdd];exact rfl
  case st7 =>
   intro hctx;refine JC.p hctx ?_;refine JC.u (.bool (((n : Int)) == (0))) (congrArg Value.bool (beq_eq_false_iff_ne.2 (H0.out))) hctx ?_;refine JC.p hctx ?_;refine JC.p hctx ?_;refine JC.o hctx ?_ ?_
   ·intro L vals W hL hJ hd K hK;have d3 : vals 3 = .int .i64 ((n : Int)) := hd 3 (by kernel_rfl);generalize vals 3 = u3 at d3 hK ⊢;subst d3;go_simp
    exact hK.out (.int .i64 ((n : Int).tmod 2)) _ _ (by kernel_rfl) rfl (Q.refl _)
   refine JC.u (.bool (((n : Int).tmod 2) == (1))) (congrArg Value.bool (beq_eq_false_iff_ne.2 (H1.out))) hctx ?_;refine JC.p hctx ?_;refine JC.p hctx ?_;refine JC.p hctx ?_;refine JC.p hctx ?_;refine JC.l1 (off := 0) hA2 (fun W hN => (congrArg Value.bool (HSA.out.trans (decide_eq_true H2.out)))) hctx ?_;refine JC.p hctx ?_;refine JC.p hctx ?_;refine JC.p hctx ?_;exact Ja.Steps.nil
  intro vals w3 hq3 hall;have hG3 := hG2.trans hq3;have hA3 := hA2.q hq3;have nA3 := Ns.q nA2 hq3;have hT3 := hT2.q hq3;have hX3 := hX2.q hq3;have nX3 := Nq.q nX2 hq3;have hY3 := hY2.q hq3;have nY3 := Nq.q nY2 hq3;clear hG2 hA2 hT2 hX2 hY2 nA2 nX2 nY2;have f20 : vals 13 = .bool false := hall 13 (by decide);rw [f20];clear f20;clear hall;go_upto_region 6 with fail
  by_cases h3 : aG (p) (q) < 0
  ·have H3 := Lib.hid h3; clear h3;refine bJ (F := ?F8) ([.eq (.pointer (some ⟨w.heap.size, 3, none⟩)), .eq (.pointer (some ⟨w.heap.size, 3, none⟩)), .eq (.bool true), .eq (.bool true)] : List Vs) ?hF8 ?st8 ?en8
   case hF8 =>
    intro vals;simp only [Ja.fillL, Act.put, List.setIfInBounds_toArray, List.set, Nat.reduceAdd];exact rfl
   case st8 =>
    intro hctx;refine JC.p hctx ?_;refine JC.p hctx ?_;refine JC.l1 (off := 3) hA3 (fun W hN => (congrArg Value.bool (HSB.out.trans (decide_eq_true H3.out)))) hctx ?_;refine JC.p hctx ?_;exact Ja.Steps.nil
   intro vals w4 hq4 hall;have hG4 := hG3.trans hq4;have hA4 := hA3.q hq4;have nA4 := Ns.q nA3 hq4;have hT4 := hT3.q hq4;have hX4 := hX3.q hq4;have nX4 := Nq.q nX3 hq4;have hY4 := hY3.q hq4;have nY4 := Nq.q nY3 hq4;clear hG3 hA3 hT3 hX3 hY3 nA3 nX3 nY3;have f37 : vals 3 = .bool true := hall 3 (by decide);rw [f37];clear f37;clear hall;go_upto_region 7 with fail
   have hAt4 : At0 w [⟨none, w.heap.size, 59, [.b, .s, .s, .b, .s, .s], .agg #[.bool sA0, .slice AA1 kA1 cA1, .slice AA2 kA2 cA2, .bool sA3, .slice AA4 kA4 cA4, .slice AA5 kA5 cA5], 1000, 0⟩, ⟨none, w.heap.size + 1, 59, [.b, .s, .s, .b, .s, .s], .agg #[.bool false, .slice none 0 0, .slice none 0 0, .bool false, .slice none 0 0, .slice none 0 0], 3, 2⟩, ⟨none, gX, 25, [.b, .s, .s], .agg #[.bool sX0, .slice AX1 kX1 cX1, .slice AX2 kX2 cX2], 1000, 0⟩, ⟨none, gY, 25, [.b, .s, .s], .agg #[.bool sY0, .slice AY1 kY1 cY1, .slice AY2 kY2 cY2], 1000, 0⟩] [(.agg #[.bool sA0, .slice AA1 kA1 cA1, .slice AA2 kA2 cA2, .bool sA3, .slice AA4 kA4 cA4, .slice AA5 kA5 cA5], .gen (gH (aK (p) (q)) (aG (p) (q)))), (.agg #[.bool sX0, .slice AX1 kX1 cX1, .slice AX2 kX2 cX2], .gen (aN ((aK (p) (q)) ^ n))), (.agg #[.bool sY0, .slice AY1 kY1 cY1, .slice AY2 kY2 cY2], .gen (aN ((aG (p) (q)) ^ n)))] w4 := At0.of hG4 ⟨kS hA4 (by omega), kS hT4 (by omega), nH hX4 (by omega), nH hY4 (by omega), trivial⟩ (by (simp [dO] <;> omega)) ⟨nA4, nX4, nY4, trivial⟩;clear hG4 hA4 hT4 hX4 hY4 nA4 nX4 nY4;refine cK (F := ?F9) w ([.gen (aN ((aG (p) (q)) ^ n)), .gen (aN ((aK (p) (q)) ^ n)), .gen (gH ((aG (p) (q)) ^ n) ((aK (p) (q)) ^ n)), .any] : List Vs) _ _ (by kernel_rfl) hAt4 ?hF9 ?st9 ?en9
   case hF9 =>
    intro vals;simp only [Ja.fillL, Act.put, List.setIfInBounds_toArray, List.set, Nat.reduceAdd];exact rfl
   case st9 =>
    clear hAt4;intro hctx;refine JC.k3 3 2 0 hctx ?_;refine JC.k3 2 1 0 hctx ?_;refine JC.bs 0 1 hctx ?_;refine JC.s6 (n := 1) rfl oW hctx ?_;exact Ja.Steps.nil
   intro L vals w5 hall hJ;clear hAt4;have hG5 := hJ.q;obtain ⟨sT0, AT1, kT1, cT1, AT2, kT2, cT2, sT3, AT4, kT4, cT4, AT5, kT5, cT5, hT5, nT5⟩ := mM (g := w.heap.size + 1) (t := 59) (hJ.stored 1 rfl rfl (hall 3 (by decide))) (show Ns w5 (vals 2) ((aG (p) (q)) ^ n) ((aK (p) (q)) ^ n) from hJ.s 2 (hall 2 (by decide)));clear hall hJ;go_wp2_with fail
   have hps := aB1 HLE.out H11.out H3.out;rw [hps.1, hps.2] at nT5;exact zT hT5 (⟨_, rfl, nT5, hG5⟩)
  ·have H3 := Lib.hid h3; clear h3;refine bJ (F := ?F10) ([.eq (.pointer (some ⟨w.heap.size, 3, none⟩)), .eq (.pointer (some ⟨w.heap.size, 3, none⟩)), .eq (.bool false), .eq (.bool false)] : List Vs) ?hF10 ?st10 ?en10
   case hF10 =>
    intro vals;simp only [Ja.fillL, Act.put, List.setIfInBounds_toArray, List.set, Nat.reduceAdd];exact rfl
   case st10 =>
    intro hctx;refine JC.p hctx ?_;refine JC.p hctx ?_;refine JC.l1 (off := 3) hA3 (fun W hN => (congrArg Value.bool (HSB.out.trans (decide_eq_false H3.out)))) hctx ?_;refine JC.p hctx ?_;exact Ja.Steps.nil
   intro vals w4 hq4 hall;have hG4 := hG3.trans hq4;have hA4 := hA3.q hq4;have nA4 := Ns.q nA3 hq4;have hT4 := hT3.q hq4;have hX4 := hX3.q hq4;have nX4 := Nq.q nX3 hq4;have hY4 := hY3.q hq4;have nY4 := Nq.q nY3 hq4;clear hG3 hA3 hT3 hX3 hY3 nA3 nX3 nY3;have f37 : vals 3 = .bool false := hall 3 (by decide);rw [f37];clear f37;clear hall;go_upto_region 8 with fail
   have Z10 : Hid (sz (aG ((aK (p) (q)) ^ n) ((aG (p) (q)) ^ n)) ≤ 2560000004) := Lib.hid (by have h9 := aAN ((aK (p) (q)) ^ n) ((aG (p) (q)) ^ n); have h0 := Z6.out; have h1 := Z8.out; omega);have B11 : Hid (64 * (sz ((aK (p) (q)) ^ n) + sz ((aG (p) (q)) ^ n)) + 400 ≤ LIM) := Lib.hid (by have h0 := Z6.out; have h1 := Z8.out; rw [aA]; omega);have hAt4 : At0 w [⟨none, w.heap.size, 59, [.b, .s, .s, .b, .s, .s], .agg #[.bool sA0, .slice AA1 kA1 cA1, .slice AA2 kA2 cA2, .bool sA3, .slice AA4 kA4 cA4, .slice AA5 kA5 cA5], 1000, 0⟩, ⟨none, w.heap.size + 1, 59, [.b, .s, .s, .b, .s, .s], .agg #[.bool false, .slice none 0 0, .slice none 0 0, .bool false, .slice none 0 0, .slice none 0 0], 5, 4⟩, ⟨none, gX, 25, [.b, .s, .s], .agg #[.bool sX0, .slice AX1 kX1 cX1, .slice AX2 kX2 cX2], 1000, 0⟩, ⟨none, gY, 25, [.b, .s, .s], .agg #[.bool sY0, .slice AY1 kY1 cY1, .slice AY2 kY2 cY2], 1000, 0⟩] [(.agg #[.bool sA0, .slice AA1 kA1 cA1, .slice AA2 kA2 cA2, .bool sA3, .slice AA4 kA4 cA4, .slice AA5 kA5 cA5], .gen (gH (aK (p) (q)) (aG (p) (q)))), (.agg #[.bool sX0, .slice AX1 kX1 cX1, .slice AX2 kX2 cX2], .gen (aN ((aK (p) (q)) ^ n))), (.agg #[.bool sY0, .slice AY1 kY1 cY1, .slice AY2 kY2 cY2], .gen (aN ((aG (p) (q)) ^ n)))] w4 := At0.of hG4 ⟨kS hA4 (by omega), kS hT4 (by omega), nH hX4 (by omega), nH hY4 (by omega), trivial⟩ (by (simp [dO] <;> omega)) ⟨nA4, nX4, nY4, trivial⟩;clear hG4 hA4 hT4 hX4 hY4 nA4 nX4 nY4;refine cK (F := ?F11) w ([.gen (aN (0)), .gen (aN ((aK (p) (q)) ^ n)), .gen (aN ((aG (p) (q)) ^ n)), .gen (aN (aG ((aK (p) (q)) ^ n) ((aG (p) (q)) ^ n))), .gen (gH (0) (aG ((aK (p) (q)) ^ n) ((aG (p) (q)) ^ n))), .any] : List Vs) _ _ (by kernel_rfl) hAt4 ?hF11 ?st11 ?en11
   case hF11 =>
    intro vals;simp only [Ja.fillL, Act.put, List.setIfInBounds_toArray, List.set, Nat.reduceAdd];exact rfl
   case st11 =>
    clear hAt4;intro hctx;refine JC.o hctx ?_ ?_
    ·intro L vals W hL hJ hd K hK;go_simp
     exact hK.out (.agg #[.bool false, .slice none 0 0, .slice none 0 0]) _ _ (by kernel_rfl) (aFt W) (Q.refl _)
    refine JC.k3 2 1 0 hctx ?_;refine JC.k3 3 2 0 hctx ?_;refine JC.ca (fun vals W hN hd hk => (aCs _ _ ((aK (p) (q)) ^ n) ((aG (p) (q)) ^ n) W (hd 1 (by kernel_rfl)) (hd 2 (by kernel_rfl)) B11.out).mono (by rintro e W9 ⟨r, rfl, hr, hq9⟩; exact ⟨r, rfl, hr, hq9⟩)) hctx ?_;refine JC.bs 0 3 hctx ?_;refine JC.s6 (n := 1) rfl oW hctx ?_;exact Ja.Steps.nil
   intro L vals w5 hall hJ;clear hAt4;have hG5 := hJ.q;obtain ⟨sT0, AT1, kT1, cT1, AT2, kT2, cT2, sT3, AT4, kT4, cT4, AT5, kT5, cT5, hT5, nT5⟩ := mM (g := w.heap.size + 1) (t := 59) (hJ.stored 1 rfl rfl (hall 5 (by decide))) (show Ns w5 (vals 4) (0) (aG ((aK (p) (q)) ^ n) ((aG (p) (q)) ^ n)) from hJ.s 4 (hall 4 (by decide)));clear hall hJ;go_wp2_with fail
   have hps := aB2 (Nat.pos_of_ne_zero H00.out) H11.out H2.out (Rat.not_lt.1 H3.out);rw [hps.1, hps.2] at nT5;exact zT hT5 (⟨_, rfl, nT5, hG5⟩)
 ·have H2 := Lib.hid h2; clear h2;refine bJ (F := ?F12) ([.eq (.int .i64 ((n : Int))), .eq (.bool false), .eq (.bool false), .eq (.int .i64 ((n : Int))), .eq (.int .i64 ((n : Int).tmod 2)), .eq (.bool false), .eq (.bool false), .eq (.bool false), .eq (.pointer (some ⟨w.heap.size, 0, none⟩)), .eq (.pointer (some ⟨w.heap.size, 0, none⟩)), .eq (.bool false), .eq (.bool true), .eq (.bool true), .eq (.bool true)] : List Vs) ?hF12 ?st12 ?en12
  case hF12 =>
   intro vals;simp only [Ja.fillL, Act.put, List.setIfInBounds_toArray, List.set, Nat.reduceAdd];exact rfl
  case st12 =>
   intro hctx;refine JC.p hctx ?_;refine JC.u (.bool (((n : Int)) == (0))) (congrArg Value.bool (beq_eq_false_iff_ne.2 (H0.out))) hctx ?_;refine JC.p hctx ?_;refine JC.p hctx ?_;refine JC.o hctx ?_ ?_
   ·intro L vals W hL hJ hd K hK;have d3 : vals 3 = .int .i64 ((n : Int)) := hd 3 (by kernel_rfl);generalize vals 3 = u3 at d3 hK ⊢;subst d3;go_simp
    exact hK.out (.int .i64 ((n : Int).tmod 2)) _ _ (by kernel_rfl) rfl (Q.refl _)
   refine JC.u (.bool (((n : Int).tmod 2) == (1))) (congrArg Value.bool (beq_eq_false_iff_ne.2 (H1.out))) hctx ?_;refine JC.p hctx ?_;refine JC.p hctx ?_;refine JC.p hctx ?_;refine JC.p hctx ?_;refine JC.l1 (off := 0) hA2 (fun W hN => (congrArg Value.bool (HSA.out.trans (decide_eq_false H2.out)))) hctx ?_;refine JC.p hctx ?_;refine JC.p hctx ?_;refine JC.p hctx ?_;exact Ja.Steps.nil
  intro vals w3 hq3 hall;have hG3 := hG2.trans hq3;have hA3 := hA2.q hq3;have nA3 := Ns.q nA2 hq3;have hT3 := hT2.q hq3;have hX3 := hX2.q hq3;have nX3 := Nq.q nX2 hq3;have hY3 := hY2.q hq3;have nY3 := Nq.q nY2 hq3;clear hG2 hA2 hT2 hX2 hY2 nA2 nX2 nY2;have f20 : vals 13 = .bool true := hall 13 (by decide);rw [f20];clear f20;clear hall;go_upto_region 5 with fail
  have hAt3 : At0 w [⟨none, w.heap.size, 59, [.b, .s, .s, .b, .s, .s], .agg #[.bool sA0, .slice AA1 kA1 cA1, .slice AA2 kA2 cA2, .bool sA3, .slice AA4 kA4 cA4, .slice AA5 kA5 cA5], 1000, 0⟩, ⟨none, w.heap.size + 1, 59, [.b, .s, .s, .b, .s, .s], .agg #[.bool false, .slice none 0 0, .slice none 0 0, .bool false, .slice none 0 0, .slice none 0 0], 3, 2⟩, ⟨none, gX, 25, [.b, .s, .s], .agg #[.bool sX0, .slice AX1 kX1 cX1, .slice AX2 kX2 cX2], 1000, 0⟩, ⟨none, gY, 25, [.b, .s, .s], .agg #[.bool sY0, .slice AY1 kY1 cY1, .slice AY2 kY2 cY2], 1000, 0⟩] [(.agg #[.bool sA0, .slice AA1 kA1 cA1, .slice AA2 kA2 cA2, .bool sA3, .slice AA4 kA4 cA4, .slice AA5 kA5 cA5], .gen (gH (aK (p) (q)) (aG (p) (q)))), (.agg #[.bool sX0, .slice AX1 kX1 cX1, .slice AX2 kX2 cX2], .gen (aN ((aK (p) (q)) ^ n))), (.agg #[.bool sY0, .slice AY1 kY1 cY1, .slice AY2 kY2 cY2], .gen (aN ((aG (p) (q)) ^ n)))] w3 := At0.of hG3 ⟨kS hA3 (by omega), kS hT3 (by omega), nH hX3 (by omega), nH hY3 (by omega), trivial⟩ (by (simp [dO] <;> omega)) ⟨nA3, nX3, nY3, trivial⟩;clear hG3 hA3 hT3 hX3 hY3 nA3 nX3 nY3;refine cK (F := ?F13) w ([.gen (aN ((aK (p) (q)) ^ n)), .gen (aN ((aG (p) (q)) ^ n)), .gen (gH ((aK (p) (q)) ^ n) ((aG (p) (q)) ^ n)), .any] : List Vs) _ _ (by kernel_rfl) hAt3 ?hF13 ?st13 ?en13
  case hF13 =>
   intro vals;simp only [Ja.fillL, Act.put, List.setIfInBounds_toArray, List.set, Nat.reduceAdd];exact rfl
  case st13 =>
   clear hAt3;intro hctx;refine JC.k3 2 1 0 hctx ?_;refine JC.k3 3 2 0 hctx ?_;refine JC.bs 0 1 hctx ?_;refine JC.s6 (n := 1) rfl oW hctx ?_;exact Ja.Steps.nil
  intro L vals w4 hall hJ;clear hAt3;have hG4 := hJ.q;obtain ⟨sT0, AT1, kT1, cT1, AT2, kT2, cT2, sT3, AT4, kT4, cT4, AT5, kT5, cT5, hT4, nT4⟩ := mM (g := w.heap.size + 1) (t := 59) (hJ.stored 1 rfl rfl (hall 3 (by decide))) (show Ns w4 (vals 2) ((aK (p) (q)) ^ n) ((aG (p) (q)) ^ n) from hJ.s 2 (hall 2 (by decide)));clear hall hJ;go_wp2_with fail
  have hps := qB (n := n) HLE.out (Or.inr (Or.inr (Rat.not_lt.1 H2.out)));rw [hps.1, hps.2] at nT4;exact zT hT4 (⟨_, rfl, nT4, hG4⟩)
def ofL (l : List UInt8) : ByteArray := ⟨l.toArray⟩
theorem kP {t : ByteArray} {l : List UInt8} (h : t.data.toList = l) : t = ofL l := by
 unfold ofL;rw [← h]
theorem aAY (w : World) (hT : Tb w) (hPx : Px w) :
  Calls Tryz.prog 16 #[] w fun e w' => e = .returned (.bool true) ∧ Q w w' := by
 obtain ⟨w0, hw0, hG0⟩ : ∃ x, w = x ∧ Q w x := ⟨w, rfl, Q.refl w⟩
 rw [hw0];go_enter Tryz.func16, Tryz.ntmps16
 go_upto_region 1 with fail
 obtain ⟨x1, Hx1⟩ : ∃ x : Rat, Hid (x = 4700) := ⟨_, Lib.hid rfl⟩
 have Z1 : Hid (sz (x1) ≤ 100) := Lib.hid (by rw [Hx1.out]; decide +kernel);obtain ⟨x2, Hx2⟩ : ∃ x : Rat, Hid (x = -3/4) := ⟨_, Lib.hid rfl⟩
 have Z2 : Hid (sz (x2) ≤ 100) := Lib.hid (by rw [Hx2.out]; decide +kernel);obtain ⟨x3, Hx3⟩ : ∃ x : Rat, Hid (x = 0) := ⟨_, Lib.hid rfl⟩
 have Z3 : Hid (sz (x3) ≤ 100) := Lib.hid (by rw [Hx3.out]; decide +kernel);obtain ⟨x4, Hx4⟩ : ∃ x : Rat, Hid (x = 9) := ⟨_, Lib.hid rfl⟩
 have Z4 : Hid (sz (x4) ≤ 100) := Lib.hid (by rw [Hx4.out]; decide +kernel);have hAt0 : At0 w0 [⟨some 4, 0, 25, [.b, .s, .s], .agg #[.bool false, .slice none 0 0, .slice none 0 0], 5, 2⟩] [] w0 := At0.of (Q.refl _) ⟨fun h => (by cases h), trivial⟩ (by simp [dO]) trivial;refine cK (F := ?F2) w0 ([.gen (pT2 (aN (x1)) (pEq (.int .i64 (0)))), .gen (pT2 (aN (x1)) (pEq (.int .i64 (0)))), .gen (aN (x1)), .eq (.int .i64 (0)), .any, .any, .eq (.int .i64 (0))] : List Vs) _ _ (by kernel_rfl) hAt0 ?hF2 ?st2 ?en2
 case hF2 =>
  intro vals;simp only [Ja.fillL, Act.put, List.setIfInBounds_toArray, List.set, Nat.reduceAdd];exact rfl
 case st2 =>
  clear hAt0;intro hctx;refine JC.ca (fun vals W hN hd hk => (aFp (⟨#[52, 46, 55, 107]⟩ : ByteArray) W (hT.q (hG0.trans hN)) (hPx.q (hG0.trans hN)) (by decide)).mono (by rintro e W9 ⟨r, rfl, hr, hq9⟩; exact ⟨(.tuple #[r, .int .i64 (oL ((⟨#[52, 46, 55, 107]⟩ : ByteArray) : ByteArray).data.toList).1]), rfl, ⟨_, _, rfl, (by have h7 := hr; rw [show ((oL ((⟨#[52, 46, 55, 107]⟩ : ByteArray) : ByteArray).data.toList).2 : Rat) = x1 from by rw [Hx1.out]; decide +kernel] at h7; exact h7), congrArg (Value.int .i64) (by decide +kernel)⟩, hq9⟩)) hctx ?_;refine JC.m 0 hctx ?_;refine JC.o hctx ?_ ?_
  ·intro L vals W hL hJ hd K hK;have d1 : (pT2 (aN (x1)) (pEq (.int .i64 (0)))).p (vals 1) W := hd 1 (by kernel_rfl);generalize vals 1 = u1 at d1 hK ⊢;obtain ⟨e0, e1, rfl, he0, he1⟩ := d1;go_simp
   exact hK.out (e0) _ _ (by kernel_rfl) he0 (Q.refl _)
  refine JC.o hctx ?_ ?_
  ·intro L vals W hL hJ hd K hK;have d1 : (pT2 (aN (x1)) (pEq (.int .i64 (0)))).p (vals 1) W := hd 1 (by kernel_rfl);generalize vals 1 = u1 at d1 hK ⊢;obtain ⟨e0, e1, rfl, he0, he1⟩ := d1;obtain rfl : e1 = .int .i64 (0) := he1;go_simp
   exact hK.out (.int .i64 (0)) _ _ (by kernel_rfl) rfl (Q.refl _)
  refine Ja.Steps.cons (JC.alloc (n := 0) (cells := [.bool false, .slice none 0 0, .slice none 0 0].toArray) (t := 25) hctx (by kernel_rfl) (by rfl) (by kernel_rfl) (by rfl) (by rfl) (by kernel_rfl) (by rfl) (fun W => NbV.mk (t := 25) (ck := [.b, .s, .s]) (row := [.bool false, .slice none 0 0, .slice none 0 0]) ⟨⟨_, rfl⟩, ⟨_, _, _, rfl⟩, ⟨_, _, _, rfl⟩, trivial⟩ (Bx.new W _ _)) ?_) ?_
  ·intro vals W K hK;go_simp
   exact hK.out _ (by kernel_rfl)
  refine JC.s3 (n := 0) rfl vV hctx ?_;refine JC.p hctx ?_;exact Ja.Steps.nil
 intro L vals w1 hall hJ;clear hAt0;have hq1 := hJ.q;have hG1 := hG0.trans hq1;clear hG0 ;obtain ⟨gX, eX, geX, qX⟩ := hJ.fresh 0 rfl rfl (hall 4 (by decide)) (hall 5 (by decide));obtain ⟨sX0, AX1, kX1, cX1, AX2, kX2, cX2, hX1, nX1⟩ := rR (g := gX) (t := 25) qX (show Nq w1 (vals 2) (x1) from hJ.s 2 (hall 2 (by decide)));clear qX;rw [eX];clear eX;have f2 : vals 6 = .int .i64 (0) := hJ.s 6 (hall 6 (by decide));rw [f2];clear f2;clear hall hJ;go_upto_region 2 with fail
 have hAt1 : At0 w1 [⟨some 4, 0, 25, [.b, .s, .s], .agg #[.bool false, .slice none 0 0, .slice none 0 0], 5, 2⟩] [] w1 := At0.of (Q.refl _) ⟨fun h => (by cases h), trivial⟩ (by simp [dO]) trivial;refine cK (F := ?F3) w1 ([.gen (pT2 (aN (x2)) (pEq (.int .i64 (0)))), .gen (pT2 (aN (x2)) (pEq (.int .i64 (0)))), .gen (aN (x2)), .eq (.int .i64 (0)), .any, .any, .eq (.int .i64 (0))] : List Vs) _ _ (by kernel_rfl) hAt1 ?hF3 ?st3 ?en3
 case hF3 =>
  intro vals;simp only [Ja.fillL, Act.put, List.setIfInBounds_toArray, List.set, Nat.reduceAdd];exact rfl
 case st3 =>
  clear hAt1;intro hctx;refine JC.ca (fun vals W hN hd hk => (aEv (6) (-8) W (hT.q (hG1.trans hN)) (by decide) (by decide) (by decide) (by decide)).mono (by rintro e W9 ⟨r, rfl, hr, hq9⟩; exact ⟨(.tuple #[r, .int .i64 (mI ((6 : Int) : Rat) ((-8 : Int) : Rat)).1]), rfl, ⟨_, _, rfl, (by have h7 := hr; rw [show ((mI ((6 : Int) : Rat) ((-8 : Int) : Rat)).2 : Rat) = x2 from by rw [Hx2.out]; decide +kernel] at h7; exact h7), congrArg (Value.int .i64) (by decide +kernel)⟩, hq9⟩)) hctx ?_;refine JC.m 0 hctx ?_;refine JC.o hctx ?_ ?_
  ·intro L vals W hL hJ hd K hK;have d1 : (pT2 (aN (x2)) (pEq (.int .i64 (0)))).p (vals 1) W := hd 1 (by kernel_rfl);generalize vals 1 = u1 at d1 hK ⊢;obtain ⟨e0, e1, rfl, he0, he1⟩ := d1;go_simp
   exact hK.out (e0) _ _ (by kernel_rfl) he0 (Q.refl _)
  refine JC.o hctx ?_ ?_
  ·intro L vals W hL hJ hd K hK;have d1 : (pT2 (aN (x2)) (pEq (.int .i64 (0)))).p (vals 1) W := hd 1 (by kernel_rfl);generalize vals 1 = u1 at d1 hK ⊢;obtain ⟨e0, e1, rfl, he0, he1⟩ := d1;obtain rfl : e1 = .int .i64 (0) := he1;go_simp
   exact hK.out (.int .i64 (0)) _ _ (by kernel_rfl) rfl (Q.refl _)
  refine Ja.Steps.cons (JC.alloc (n := 0) (cells := [.bool false, .slice none 0 0, .slice none 0 0].toArray) (t := 25) hctx (by kernel_rfl) (by rfl) (by kernel_rfl) (by rfl) (by rfl) (by kernel_rfl) (by rfl) (fun W => NbV.mk (t := 25) (ck := [.b, .s, .s]) (row := [.bool false, .slice none 0 0, .slice none 0 0]) ⟨⟨_, rfl⟩, ⟨_, _, _, rfl⟩, ⟨_, _, _, rfl⟩, trivial⟩ (Bx.new W _ _)) ?_) ?_
  ·intro vals W K hK;go_simp
   exact hK.out _ (by kernel_rfl)
  refine JC.s3 (n := 0) rfl vV hctx ?_;refine JC.p hctx ?_;exact Ja.Steps.nil
 intro L vals w2 hall hJ;clear hAt1;have hq2 := hJ.q;have hG2 := hG1.trans hq2;have hX2 := hX1.q hq2;have nX2 := Nq.q nX1 hq2;clear hG1 hX1 nX1;obtain ⟨gY, eY, geY, qY⟩ := hJ.fresh 0 rfl rfl (hall 4 (by decide)) (hall 5 (by decide));obtain ⟨sY0, AY1, kY1, cY1, AY2, kY2, cY2, hY2, nY2⟩ := rR (g := gY) (t := 25) qY (show Nq w2 (vals 2) (x2) from hJ.s 2 (hall 2 (by decide)));clear qY;rw [eY];clear eY;have f4 : vals 6 = .int .i64 (0) := hJ.s 6 (hall 6 (by decide));rw [f4];clear f4;clear hall hJ;go_upto_region 3 with fail
 have Z5 : Hid (sz (((0 : Int) : Rat)) ≤ 2) := Lib.hid (by decide +kernel);have B6 : Hid (16 * (sz (x1) + sz (((0 : Int) : Rat))) + 200 ≤ LIM) := Lib.hid (by have h0 := Z1.out; have h1 := Z5.out; rw [aA]; omega);have hAt2 : At0 w2 [⟨some 6, 0, 25, [.b, .s, .s], .agg #[.bool false, .slice none 0 0, .slice none 0 0], 7, 4⟩] [] w2 := At0.of (Q.refl _) ⟨fun h => (by cases h), trivial⟩ (by simp [dO]) trivial;refine mE (F := ?F4) w2 ([.gen (aN (x1)), .gen (aN (((0 : Int) : Rat))), .gen (pT2 (aN (x3)) (pEq (.int .i64 (8)))), .gen (pT2 (aN (x3)) (pEq (.int .i64 (8)))), .gen (aN (x3)), .eq (.int .i64 (8)), .any, .any, .eq (.int .i64 (8))] : List Vs) _ _ (by kernel_rfl) (by kernel_rfl) hAt2 ?hF4 ?st4 ?en4
 case hF4 =>
  intro vals;simp only [Ja.fillL, Act.put, List.setIfInBounds_toArray, List.set, Nat.reduceAdd];exact rfl
 case st4 =>
  clear hAt2;intro hctx;refine JC.l3 (off := 0) hX2 (fun W hN => (Nq.q nX2 hN)) hctx ?_;refine JC.ca (fun vals W hN hd hk => (uR (0) W (by decide) (by decide)).mono (by rintro e W9 ⟨r, rfl, hr, hq9⟩; exact ⟨r, rfl, hr, hq9⟩)) hctx ?_;refine JC.ca (fun vals W hN hd hk => (aDS _ _ (x1) (((0 : Int) : Rat)) W (hT.q (hG2.trans hN)) (hd 0 (by kernel_rfl)) (hd 1 (by kernel_rfl)) B6.out).mono (by rintro e W9 ⟨r, rfl, hr, hq9⟩; exact ⟨(.tuple #[r, .int .i64 (mI (x1) (((0 : Int) : Rat))).1]), rfl, ⟨_, _, rfl, (by have h7 := hr; rw [show ((mI (x1) (((0 : Int) : Rat))).2 : Rat) = x3 from by rw [Hx1.out, Hx3.out]; decide +kernel] at h7; exact h7), congrArg (Value.int .i64) (by rw [Hx1.out]; decide +kernel)⟩, hq9⟩)) hctx ?_;refine JC.m 2 hctx ?_;refine JC.o hctx ?_ ?_
  ·intro L vals W hL hJ hd K hK;have d3 : (pT2 (aN (x3)) (pEq (.int .i64 (8)))).p (vals 3) W := hd 3 (by kernel_rfl);generalize vals 3 = u3 at d3 hK ⊢;obtain ⟨e0, e1, rfl, he0, he1⟩ := d3;go_simp
   exact hK.out (e0) _ _ (by kernel_rfl) he0 (Q.refl _)
  refine JC.o hctx ?_ ?_
  ·intro L vals W hL hJ hd K hK;have d3 : (pT2 (aN (x3)) (pEq (.int .i64 (8)))).p (vals 3) W := hd 3 (by kernel_rfl);generalize vals 3 = u3 at d3 hK ⊢;obtain ⟨e0, e1, rfl, he0, he1⟩ := d3;obtain rfl : e1 = .int .i64 (8) := he1;go_simp
   exact hK.out (.int .i64 (8)) _ _ (by kernel_rfl) rfl (Q.refl _)
  refine Ja.Steps.cons (JC.alloc (n := 0) (cells := [.bool false, .slice none 0 0, .slice none 0 0].toArray) (t := 25) hctx (by kernel_rfl) (by rfl) (by kernel_rfl) (by rfl) (by rfl) (by kernel_rfl) (by rfl) (fun W => NbV.mk (t := 25) (ck := [.b, .s, .s]) (row := [.bool false, .slice none 0 0, .slice none 0 0]) ⟨⟨_, rfl⟩, ⟨_, _, _, rfl⟩, ⟨_, _, _, rfl⟩, trivial⟩ (Bx.new W _ _)) ?_) ?_
  ·intro vals W K hK;go_simp
   exact hK.out _ (by kernel_rfl)
  refine JC.s3 (n := 0) rfl vV hctx ?_;refine JC.p hctx ?_;exact Ja.Steps.nil
 intro L vals w3 hall hJ;clear hAt2;have hq3 := hJ.q;have hG3 := hG2.trans hq3;have hX3 := hX2.q hq3;have nX3 := Nq.q nX2 hq3;have hY3 := hY2.q hq3;have nY3 := Nq.q nY2 hq3;clear hG2 hX2 hY2 nX2 nY2;obtain ⟨gZ, eZ, geZ, qZ⟩ := hJ.fresh 0 rfl rfl (hall 6 (by decide)) (hall 7 (by decide));obtain ⟨sZ0, AZ1, kZ1, cZ1, AZ2, kZ2, cZ2, hZ3, nZ3⟩ := rR (g := gZ) (t := 25) qZ (show Nq w3 (vals 4) (x3) from hJ.s 4 (hall 4 (by decide)));clear qZ;rw [eZ];clear eZ;have f6 : vals 8 = .int .i64 (8) := hJ.s 8 (hall 8 (by decide));rw [f6];clear f6;clear hall hJ;go_upto_region 4 with fail
 have Z7 : Hid (sz (((2 : Int) : Rat)) ≤ 2) := Lib.hid (by decide +kernel);have Z8 : Hid (sz (((-3 : Int) : Rat)) ≤ 2) := Lib.hid (by decide +kernel);have hAt3 : At0 w3 [⟨some 4, 0, 59, [.b, .s, .s, .b, .s, .s], .agg #[.bool false, .slice none 0 0, .slice none 0 0, .bool false, .slice none 0 0, .slice none 0 0], 5, 3⟩] [] w3 := At0.of (Q.refl _) ⟨fun h => (by cases h), trivial⟩ (by simp [dO]) trivial;refine cK (F := ?F5) w3 ([.gen (aN (((2 : Int) : Rat))), .gen (aN (((-3 : Int) : Rat))), .gen (gH (((2 : Int) : Rat)) (((-3 : Int) : Rat))), .gen (gH (x3) (x4)), .any, .any] : List Vs) _ _ (by kernel_rfl) hAt3 ?hF5 ?st5 ?en5
 case hF5 =>
  intro vals;simp only [Ja.fillL, Act.put, List.setIfInBounds_toArray, List.set, Nat.reduceAdd];exact rfl
 case st5 =>
  clear hAt3;intro hctx;refine JC.ca (fun vals W hN hd hk => (uR (2) W (by decide) (by decide)).mono (by rintro e W9 ⟨r, rfl, hr, hq9⟩; exact ⟨r, rfl, hr, hq9⟩)) hctx ?_;refine JC.ca (fun vals W hN hd hk => (uR (-3) W (by decide) (by decide)).mono (by rintro e W9 ⟨r, rfl, hr, hq9⟩; exact ⟨r, rfl, hr, hq9⟩)) hctx ?_;refine JC.o hctx ?_ ?_
  ·intro L vals W hL hJ hd K hK;have d0 : Nq W (vals 0) (((2 : Int) : Rat)) := hd 0 (by kernel_rfl);have d1 : Nq W (vals 1) (((-3 : Int) : Rat)) := hd 1 (by kernel_rfl);generalize vals 0 = u0 at d0 hK ⊢;obtain ⟨se0_0, Ae0_1, ke0_1, ce0_1, Ae0_2, ke0_2, ce0_2, rfl, -⟩ := Nq.form d0;generalize vals 1 = u1 at d1 hK ⊢;obtain ⟨se1_0, Ae1_1, ke1_1, ce1_1, Ae1_2, ke1_2, ce1_2, rfl, -⟩ := Nq.form d1;go_simp
   exact hK.out (.agg #[.bool se0_0, .slice Ae0_1 ke0_1 ce0_1, .slice Ae0_2 ke0_2 ce0_2, .bool se1_0, .slice Ae1_1 ke1_1 ce1_1, .slice Ae1_2 ke1_2 ce1_2]) _ _ (by kernel_rfl) ⟨_, _, _, _, _, _, _, _, _, _, _, _, _, _, rfl, d0, d1⟩ (Q.refl _)
  refine JC.ca (fun vals W hN hd hk => (aCL _ (((2 : Int) : Rat)) (((-3 : Int) : Rat)) (2) W (hd 2 (by kernel_rfl)) (by have h0 := Z7.out; have h1 := Z8.out; omega)).mono (by rintro e W9 ⟨r, rfl, hr, hq9⟩; exact ⟨r, rfl, (by have h7 := hr; rw [show (qlo (pE (2)) (aK (((2 : Int) : Rat)) (((-3 : Int) : Rat))) (aG (((2 : Int) : Rat)) (((-3 : Int) : Rat))) : Rat) = x3 from by rw [Hx3.out]; decide +kernel, show (qhi (pE (2)) (aK (((2 : Int) : Rat)) (((-3 : Int) : Rat))) (aG (((2 : Int) : Rat)) (((-3 : Int) : Rat))) : Rat) = x4 from by rw [Hx4.out]; decide +kernel] at h7; exact h7), hq9⟩)) hctx ?_;refine Ja.Steps.cons (JC.alloc (n := 0) (cells := [.bool false, .slice none 0 0, .slice none 0 0, .bool false, .slice none 0 0, .slice none 0 0].toArray) (t := 59) hctx (by kernel_rfl) (by rfl) (by kernel_rfl) (by rfl) (by rfl) (by kernel_rfl) (by rfl) (fun W => NbV.mk (t := 59) (ck := [.b, .s, .s, .b, .s, .s]) (row := [.bool false, .slice none 0 0, .slice none 0 0, .bool false, .slice none 0 0, .slice none 0 0]) ⟨⟨_, rfl⟩, ⟨_, _, _, rfl⟩, ⟨_, _, _, rfl⟩, ⟨_, rfl⟩, ⟨_, _, _, rfl⟩, ⟨_, _, _, rfl⟩, trivial⟩ (Bx.new W _ _)) ?_) ?_
  ·intro vals W K hK;go_simp
   exact hK.out _ (by kernel_rfl)
  refine JC.s6 (n := 0) rfl oW hctx ?_;exact Ja.Steps.nil
 intro L vals w4 hall hJ;clear hAt3;have hq4 := hJ.q;have hG4 := hG3.trans hq4;have hX4 := hX3.q hq4;have nX4 := Nq.q nX3 hq4;have hY4 := hY3.q hq4;have nY4 := Nq.q nY3 hq4;have hZ4 := hZ3.q hq4;have nZ4 := Nq.q nZ3 hq4;clear hG3 hX3 hY3 hZ3 nX3 nY3 nZ3;obtain ⟨gS, eS, geS, qS⟩ := hJ.fresh 0 rfl rfl (hall 4 (by decide)) (hall 5 (by decide));obtain ⟨sS0, AS1, kS1, cS1, AS2, kS2, cS2, sS3, AS4, kS4, cS4, AS5, kS5, cS5, hS4, nS4⟩ := mM (g := gS) (t := 59) qS (show Ns w4 (vals 3) (x3) (x4) from hJ.s 3 (hall 3 (by decide)));clear qS;rw [eS];clear eS;clear hall hJ;go_upto_region 5 with fail
 have B9 : Hid (2000 * (sz (x1)) + 500000 ≤ LIM) := Lib.hid (by have h0 := Z1.out; rw [aA]; omega);have Z10 : Hid (sz (dn (iV 1) x2) ≤ 10406) := Lib.hid (by have h9 := (aDl (x2) (qF 1).1).1; have h8 := (qF 1).2; have h0 := Z2.out; omega);have B11 : Hid (2000 * (sz (x2)) + 500000 ≤ LIM) := Lib.hid (by have h0 := Z2.out; rw [aA]; omega);refine bJ (F := ?F6) ([.eq (.int .i64 (0)), .eq (.bool true), .eq (.bool true), .eq (.int .i64 (0)), .eq (.bool true), .eq (.bool true), .eq (.bool true), .eq (.int .i64 (8)), .eq (.bool true), .eq (.bool true), .eq (.bool true), .gen (aN (x1)), .eq (.string ((⟨#[52, 55, 48, 48]⟩ : ByteArray))), .eq (.bool true), .eq (.bool true), .eq (.bool true), .gen (aN (x1)), .eq (.string ((⟨#[52, 46, 55, 107]⟩ : ByteArray))), .eq (.bool true), .eq (.bool true), .eq (.bool true), .gen (aN (x2)), .eq (.string ((⟨#[45, 51, 47, 52]⟩ : ByteArray))), .eq (.bool true), .eq (.bool true), .eq (.bool true), .eq (.pointer (some ⟨gS, 0, none⟩)), .gen (aN (x3)), .eq (.int .i64 (0)), .eq (.bool true), .eq (.bool true), .eq (.bool true), .eq (.pointer (some ⟨gS, 3, none⟩)), .gen (aN (x4)), .eq (.string ((⟨#[57]⟩ : ByteArray))), .eq (.bool true), .eq (.bool true), .eq (.bool true), .gen (aN (x2)), .gen (aN (dn (iV 1) x2)), .eq (.string ((⟨#[45, 49]⟩ : ByteArray))), .eq (.bool true), .eq (.bool true), .eq (.bool true)] : List Vs) ?hF6 ?st6 ?en6
 case hF6 =>
  intro vals;simp only [Ja.fillL, Act.put, List.setIfInBounds_toArray, List.set, Nat.reduceAdd];exact rfl
 case st6 =>
  intro hctx;refine JC.p hctx ?_;refine JC.p hctx ?_;refine JC.p hctx ?_;refine JC.p hctx ?_;refine JC.p hctx ?_;refine JC.p hctx ?_;refine JC.p hctx ?_;refine JC.p hctx ?_;refine JC.p hctx ?_;refine JC.p hctx ?_;refine JC.p hctx ?_;refine JC.l3 (off := 0) hX4 (fun W hN => (Nq.q nX4 hN)) hctx ?_;refine JC.ca (fun vals W hN hd hk => (mK _ (x1) W (hd 11 (by kernel_rfl)) (by have h0 := Z1.out; omega)).mono (by rintro e W9 ⟨t, rfl, ht, hq9⟩; exact ⟨(.string t), rfl, (congrArg Value.string ((kP ht).trans (congrArg ofL (show bW (x1) = [52, 55, 48, 48] by rw [Hx1.out]; decide +kernel)))), hq9⟩)) hctx ?_;refine JC.o hctx ?_ ?_
  ·intro L vals W hL hJ hd K hK;have d12 : vals 12 = .string ((⟨#[52, 55, 48, 48]⟩ : ByteArray)) := hd 12 (by kernel_rfl);generalize vals 12 = u12 at d12 hK ⊢;subst d12;go_simp
   exact hK.out (.bool true) _ _ (by kernel_rfl) rfl (Q.refl _)
  refine JC.p hctx ?_;refine JC.p hctx ?_;refine JC.l3 (off := 0) hX4 (fun W hN => (Nq.q nX4 hN)) hctx ?_;refine JC.ca (fun vals W hN hd hk => (aFq _ (x1) W (hT.q (hG4.trans hN)) (hPx.q (hG4.trans hN)) (hd 16 (by kernel_rfl)) B9.out).mono (by rintro e W9 ⟨t, rfl, ht, hq9⟩; exact ⟨(.string t), rfl, (congrArg Value.string ((kP ht).trans (congrArg ofL (show oM (x1) = [52, 46, 55, 107] by rw [Hx1.out]; decide +kernel)))), hq9⟩)) hctx ?_;refine JC.o hctx ?_ ?_
  ·intro L vals W hL hJ hd K hK;have d17 : vals 17 = .string ((⟨#[52, 46, 55, 107]⟩ : ByteArray)) := hd 17 (by kernel_rfl);generalize vals 17 = u17 at d17 hK ⊢;subst d17;go_simp
   exact hK.out (.bool true) _ _ (by kernel_rfl) rfl (Q.refl _)
  refine JC.p hctx ?_;refine JC.p hctx ?_;refine JC.l3 (off := 0) hY4 (fun W hN => (Nq.q nY4 hN)) hctx ?_;refine JC.ca (fun vals W hN hd hk => (mK _ (x2) W (hd 21 (by kernel_rfl)) (by have h0 := Z2.out; omega)).mono (by rintro e W9 ⟨t, rfl, ht, hq9⟩; exact ⟨(.string t), rfl, (congrArg Value.string ((kP ht).trans (congrArg ofL (show bW (x2) = [45, 51, 47, 52] by rw [Hx2.out]; decide +kernel)))), hq9⟩)) hctx ?_;refine JC.o hctx ?_ ?_
  ·intro L vals W hL hJ hd K hK;have d22 : vals 22 = .string ((⟨#[45, 51, 47, 52]⟩ : ByteArray)) := hd 22 (by kernel_rfl);generalize vals 22 = u22 at d22 hK ⊢;subst d22;go_simp
   exact hK.out (.bool true) _ _ (by kernel_rfl) rfl (Q.refl _)
  refine JC.p hctx ?_;refine JC.p hctx ?_;refine JC.p hctx ?_;refine JC.l3 (off := 0) hS4 (fun W hN => (lD (Ns.q nS4 hN)).1) hctx ?_;refine JC.ca (fun vals W hN hd hk => (mJ _ (x3) W (hd 27 (by kernel_rfl))).mono (by rintro e W9 ⟨rfl, hq9⟩; exact ⟨(.int .i64 (sn (x3))), rfl, (congrArg (Value.int .i64) ((show sn x3 = 0 by rw [Hx3.out]; decide +kernel))), hq9⟩)) hctx ?_;refine JC.p hctx ?_;refine JC.p hctx ?_;refine JC.p hctx ?_;refine JC.p hctx ?_;refine JC.l3 (off := 3) hS4 (fun W hN => (lD (Ns.q nS4 hN)).2) hctx ?_;refine JC.ca (fun vals W hN hd hk => (mK _ (x4) W (hd 33 (by kernel_rfl)) (by have h0 := Z4.out; omega)).mono (by rintro e W9 ⟨t, rfl, ht, hq9⟩; exact ⟨(.string t), rfl, (congrArg Value.string ((kP ht).trans (congrArg ofL (show bW (x4) = [57] by rw [Hx4.out]; decide +kernel)))), hq9⟩)) hctx ?_;refine JC.o hctx ?_ ?_
  ·intro L vals W hL hJ hd K hK;have d34 : vals 34 = .string ((⟨#[57]⟩ : ByteArray)) := hd 34 (by kernel_rfl);generalize vals 34 = u34 at d34 hK ⊢;subst d34;go_simp
   exact hK.out (.bool true) _ _ (by kernel_rfl) rfl (Q.refl _)
  refine JC.p hctx ?_;refine JC.p hctx ?_;refine JC.l3 (off := 0) hY4 (fun W hN => (Nq.q nY4 hN)) hctx ?_;refine JC.ca (fun vals W hN hd hk => (aFl _ (x2) (1) W (hT.q (hG4.trans hN)) (hd 38 (by kernel_rfl)) B11.out).mono (by rintro e W9 ⟨r, rfl, hr, hq9⟩; exact ⟨r, rfl, hr, hq9⟩)) hctx ?_;refine JC.ca (fun vals W hN hd hk => (mK _ (dn (iV 1) x2) W (hd 39 (by kernel_rfl)) (by have h0 := Z10.out; omega)).mono (by rintro e W9 ⟨t, rfl, ht, hq9⟩; exact ⟨(.string t), rfl, (congrArg Value.string ((kP ht).trans (congrArg ofL (show bW (dn (iV 1) x2) = [45, 49] by rw [Hx2.out]; decide +kernel)))), hq9⟩)) hctx ?_;refine JC.o hctx ?_ ?_
  ·intro L vals W hL hJ hd K hK;have d40 : vals 40 = .string ((⟨#[45, 49]⟩ : ByteArray)) := hd 40 (by kernel_rfl);generalize vals 40 = u40 at d40 hK ⊢;subst d40;go_simp
   exact hK.out (.bool true) _ _ (by kernel_rfl) rfl (Q.refl _)
  refine JC.p hctx ?_;refine JC.p hctx ?_;exact Ja.Steps.nil
 intro vals w5 hq5 hall;have hG5 := hG4.trans hq5;have hX5 := hX4.q hq5;have nX5 := Nq.q nX4 hq5;have hY5 := hY4.q hq5;have nY5 := Nq.q nY4 hq5;have hZ5 := hZ4.q hq5;have nZ5 := Nq.q nZ4 hq5;have hS5 := hS4.q hq5;have nS5 := Ns.q nS4 hq5;clear hG4 hX4 hY4 hZ4 hS4 nX4 nY4 nZ4 nS4;have f0 : vals 43 = .bool true := hall 43 (by decide);rw [f0];clear f0;clear hall;go_wp2_with fail
 go_ret
 exact ⟨rfl, by rw [← hw0]; exact hG5⟩
end Go.Proofs.YtgpacgadpnpjjaaGreatDoor.K
namespace Go.Proofs.YtgpacgadpnpjjaaGreatDoor
open Go.RowKit
open Ma Me
theorem zW {l : List UInt8} {i : Nat} {c b : UInt8} (h : c ∉ l.take i) (hb : l[i]? = some b) (hn : b ≠ c) : c ∉ l.take (i + 1) := by
 rw [List.take_add_one, hb];simp only [Option.toList_some, List.mem_append, List.mem_singleton, not_or];exact ⟨h, fun e => hn e.symm⟩
end Go.Proofs.YtgpacgadpnpjjaaGreatDoor
namespace Go.Proofs.YtgpacgadpnpjjaaGreatDoor.K
open Go.RowKit
open Ma Me
def mP (l : List UInt8) : Bool := l.all (fun c => decide (48 ≤ c.toNat ∧ c.toNat ≤ 57)) && !l.isEmpty
theorem pF {l : List UInt8} : mP l = true ↔ aY l ∧ l ≠ [] := by
 unfold mP aY;cases l <;> simp
theorem xG {l : List UInt8} {i : Nat} {c : UInt8} {f : UInt8 → Bool} (h : (l.take i).all f = true) (hc : l[i]? = some c) (h1 : f c = true) : (l.take (i + 1)).all f = true := by
 rw [List.take_add_one, hc];simp only [Option.toList_some, List.all_append, h, List.all_cons, h1, List.all_nil, Bool.and_self]
theorem aAZ {l : List UInt8} {i : Nat} {c : UInt8} {f : UInt8 → Bool} (hc : l[i]? = some c) (h1 : f c = false) : l.all f = false := by
 have hm := List.mem_of_getElem? hc;cases h : l.all f with
 | false => rfl
 | true => rw [List.all_eq_true.1 h c hm] at h1; cases h1
theorem jT (s : ByteArray) : s.data.toList.length = s.size := by rw [Array.length_toList]; rfl
theorem zX (s : ByteArray) (w : World) (hs : s.size ≤ 9223372036854775806) : Calls Tryz.prog 79 #[.string s] w fun e w' => e = .returned (.bool (mP s.data.toList)) ∧ Q w w' := by
 go_enter Tryz.func79, Tryz.ntmps79
 go_wp2_with fail
 go_loopw [3] (fun iv w1 => ∃ i : Nat, iv = .int .i64 (i : Int) ∧ i ≤ s.size ∧ Hid ((s.data.toList.take i).all (fun c => decide (48 ≤ c.toNat ∧ c.toNat ≤ 57)) = true) ∧ w1 = w) (fun iv _ => s.size - (intOf iv).toNat)
 case atStart => exact ⟨0, rfl, by omega, Lib.hid (by simp), rfl⟩
 case round =>
  obtain ⟨i, rfl, hi, hall, rfl⟩ := hrel;by_cases hp : i < s.size
  ·have h1 : (i : Int) < (s.size : Int) := (by omega);have h0 : (0 : Int) ≤ (i : Int) := (by omega);have hby := byte_at hp;have h2 : (i : Int).toNat = i := rfl;generalize hb : s[i]'hp = b at *
   have HBY := Lib.hid hby; clear hby;by_cases hlo : b.toNat < 48
   ·have hl2 : (b.toNat : Int) < 48 := (by omega);have HY := Lib.hid (aAZ (f := fun c => decide (48 ≤ c.toNat ∧ c.toNat ≤ 57)) HBY.out (decide_eq_false (by omega)));clear hlo;go_wp2_with fail
    go_ret
    exact ⟨by unfold mP; rw [HY.out]; rfl, Q.refl _⟩
   ·by_cases hhi : 57 < b.toNat
    ·have hl2 : ¬ (b.toNat : Int) < 48 := (by omega);have hl3 : (57 : Int) < (b.toNat : Int) := (by omega);have HY := Lib.hid (aAZ (f := fun c => decide (48 ≤ c.toNat ∧ c.toNat ≤ 57)) HBY.out (decide_eq_false (by omega)));clear hlo hhi;go_wp2_with fail
     go_ret
     exact ⟨by unfold mP; rw [HY.out]; rfl, Q.refl _⟩
    ·have hl2 : ¬ (b.toNat : Int) < 48 := (by omega);have hl3 : ¬ (57 : Int) < (b.toNat : Int) := (by omega);have HN := Lib.hid (xG hall.out HBY.out (decide_eq_true (by omega)));clear hlo hhi;go_wp2_with fail
     exact ⟨⟨i + 1, rfl, by omega, HN, trivial⟩, by simp [intOf]; omega⟩
  ·have h1 : ¬ (i : Int) < (s.size : Int) := (by omega);have hno2 : mP s.data.toList = decide (0 < s.size) := by
    have h := hall.out;rw [List.take_of_length_le (by rw [jT]; omega)] at h;unfold mP;rw [h, Bool.true_and];have := jT s;cases e : s.data.toList with
    | nil => rw [e] at this; simp only [List.length_nil] at this; simp [← this]
    | cons a r => rw [e] at this; simp only [List.length_cons] at this; rw [decide_eq_true (by omega)]; rfl
   have HY := Lib.hid hno2; clear hno2;go_wp2_with fail
   go_ret
   exact ⟨by rw [HY.out]; simp, Q.refl _⟩
theorem vS {l : List UInt8} {c : UInt8} {i : Nat} (h : c ∉ l.take i) (hb : l[i]? = some c) : eG c l = l.take i ∧ aft c l = l.drop (i + 1) ∧ c ∈ l := by
 have hlt : i < l.length := (List.getElem?_eq_some_iff.1 hb).1;have e : l = l.take i ++ c :: l.drop (i + 1) := by
  conv => lhs; rw [← List.take_append_drop i l]
  rw [List.drop_eq_getElem_cons hlt];rw [(List.getElem?_eq_some_iff.1 hb).2]
 obtain ⟨h1, h2⟩ := fore_of' (c := c) (f := l.take i) (l.drop (i + 1)) h;rw [← e] at h1 h2;exact ⟨h1, h2, List.mem_of_getElem? hb⟩
theorem qV {l : List UInt8} {c : UInt8} (h : c ∉ l) : eG c l = l ∧ aft c l = [] := by
 rcases oJ c l with ⟨_, h1, h2⟩ | ⟨h1, _⟩
 ·exact ⟨h1, h2⟩
 ·exact absurd h1 h
theorem aEB (s : ByteArray) (c : UInt8) (bt : Bool) (w : World) (hbt : decide (c ∈ s.data.toList) = bt) (hs : s.size ≤ 9223372036854775806) : Calls Tryz.prog 78 #[.string s, .int .u8 (c.toNat : Int)] w fun e w' =>
  ∃ f r : ByteArray, e = .returned (.tuple #[.string f, .string r, .bool bt]) ∧ f.data.toList = eG c s.data.toList ∧ r.data.toList = aft c s.data.toList ∧ f.size ≤ s.size ∧ r.size ≤ s.size ∧ Q w w' := by
 go_enter Tryz.func78, Tryz.ntmps78
 go_wp2_with fail
 go_loopw [7] (fun iv w1 => ∃ i : Nat, iv = .int .i64 (i : Int) ∧ i ≤ s.size ∧ Hid (c ∉ s.data.toList.take i) ∧ w1 = w) (fun iv _ => s.size - (intOf iv).toNat)
 case atStart => exact ⟨0, rfl, by omega, Lib.hid (by simp), rfl⟩
 case round =>
  obtain ⟨i, rfl, hi, hno, rfl⟩ := hrel;by_cases hp : i < s.size
  ·have h1 : (i : Int) < (s.size : Int) := (by omega);have h0 : (0 : Int) ≤ (i : Int) := (by omega);have hby := byte_at hp;have h2 : (i : Int).toNat = i := rfl;generalize hb : s[i]'hp = b at *
   have HBY := Lib.hid hby; clear hby;by_cases hc : b = c
   ·subst hc;obtain ⟨e1, e2, e3⟩ := vS hno.out HBY.out;have hbt1 : bt = true := (by rw [← hbt]; exact decide_eq_true e3);subst hbt1;clear hbt e3;have E1 := Lib.hid e1; have E2 := Lib.hid e2; clear e1 e2;have h3 : (i : Int) ≤ (s.size : Int) := (by omega);have h4 : (0 : Int) ≤ (i : Int) + 1 := (by omega);have h5 : (i : Int) + 1 ≤ (s.size : Int) := (by omega);go_wp2_with fail
    go_region
    go_wp2_with fail
    refine bodyPost_ret (v := .tuple #[.string (s.extract 0 i), .string (s.extract (i + 1) s.size), .bool true]) (by simp [results, Tryz.results78, go_sem]) rfl ?_;exact ⟨s.extract 0 i, s.extract (i + 1) s.size, rfl, by rw [E1.out]; simp, by rw [E2.out, Lib.extract_to_end], by simp; try omega, by simp, (Q.refl _).drew⟩
   ·have hn : ¬ (b.toNat : Int) = (c.toNat : Int) := fun h => hc (UInt8.toNat_inj.1 (by omega));have HN := Lib.hid (zW hno.out HBY.out hc);clear hc;go_wp2_with fail
    exact ⟨⟨i + 1, rfl, by omega, HN, trivial⟩, by simp [intOf]; omega⟩
  ·have h1 : ¬ (i : Int) < (s.size : Int) := (by omega);have hno2 : c ∉ s.data.toList := by
    have h := hno.out
    rwa [List.take_of_length_le (by rw [jT]; omega)] at h
   have hbt1 : bt = false := (by rw [← hbt]; exact decide_eq_false hno2);subst hbt1;clear hbt;have HY := Lib.hid hno2; clear hno2;go_wp2_with fail
   refine bodyPost_ret (v := .tuple #[.string s, .string ⟨#[]⟩, .bool false]) (by simp [results, Tryz.results78, go_sem]) rfl ?_;exact ⟨s, ⟨#[]⟩, rfl, (qV HY.out).1.symm, (qV HY.out).2.symm, Nat.le_refl _, Nat.zero_le _, Q.refl _⟩
theorem aDL (s : ByteArray) (sg : Int) (w : World) (hsg : (if dG s.data.toList then -1 else 1) = sg) (_ : s.size ≤ 9223372036854775806) : Calls Tryz.prog 77 #[.string s] w fun e w' =>
  ∃ f : ByteArray, e = .returned (.tuple #[.string f, .int .i64 sg]) ∧ f.data.toList = unsigned s.data.toList ∧ f.size ≤ s.size ∧ Q w w' := by
 by_cases hp : 0 < s.size
 ·have h1 : (0 : Int) < (s.size : Int) := (by omega);have hby := byte_at hp;generalize hb : s[0]'hp = b at *
  have hh : s.data.toList.head? = some b := (by rw [← hby, List.head?_eq_getElem?]);by_cases hc : b = 45
  ·subst hc;have hn : dG s.data.toList = true := (by unfold dG; rw [hh]; rfl);have h3 : (1 : Int) ≤ (s.size : Int) := (by omega);obtain rfl : -1 = sg := (by rw [← hsg, hn]; rfl);clear hsg;have HN := Lib.hid hn; clear hn hby hh;go_enter Tryz.func77, Tryz.ntmps77
   go_wp2_with fail
   refine bodyPost_ret (v := .tuple #[.string (s.extract 1 s.size), .int .i64 (-1)]) (by simp [results, Tryz.results77, go_sem]) rfl ?_;exact ⟨_, rfl, by rw [Lib.extract_to_end]; unfold unsigned; rw [if_pos HN.out, List.drop_one], by simp, Q.refl _⟩
  ·have hn : dG s.data.toList = false := (by unfold dG; rw [hh]; simpa using hc);have hn3 : ¬ (b.toNat : Int) = 45 := fun h => hc (UInt8.toNat_inj.1 (by have : (45 : UInt8).toNat = 45 := rfl; omega));obtain rfl : 1 = sg := (by rw [← hsg, hn]; rfl);clear hsg;have HN := Lib.hid hn; clear hn hby hh hc;go_enter Tryz.func77, Tryz.ntmps77
   go_wp2_with fail
   refine bodyPost_ret (v := .tuple #[.string s, .int .i64 1]) (by simp [results, Tryz.results77, go_sem]) rfl ?_;exact ⟨_, rfl, by unfold unsigned; rw [HN.out]; rfl, Nat.le_refl _, Q.refl _⟩
 ·have h1 : ¬ (0 : Int) < (s.size : Int) := (by omega);have e : s.data.toList = [] := List.eq_nil_of_length_eq_zero (by rw [jT]; omega);have hn : dG s.data.toList = false := (by rw [e]; rfl);obtain rfl : 1 = sg := (by rw [← hsg, hn]; rfl);clear hsg;have HN := Lib.hid hn; clear hn e;go_enter Tryz.func77, Tryz.ntmps77
  go_wp2_with fail
  refine bodyPost_ret (v := .tuple #[.string s, .int .i64 1]) (by simp [results, Tryz.results77, go_sem]) rfl ?_;exact ⟨_, rfl, by unfold unsigned; rw [HN.out]; rfl, Nat.le_refl _, Q.refl _⟩
end Go.Proofs.YtgpacgadpnpjjaaGreatDoor.K
namespace Go.Proofs.YtgpacgadpnpjjaaGreatDoor
open Go.RowKit
open Ma Me
theorem iI (s : ByteArray) (w : World) (hd : aY s.data.toList) (hs : s.size + 80 ≤ LIM) :
  Calls Tryz.prog 81 #[.string s] w (mQ (dv s.data.toList) w) := by
 rw [aA] at hs;obtain ⟨L, hL⟩ : ∃ L, L = s.data.toList := ⟨_, rfl⟩
 have hLs : L.length = s.size := by rw [hL, Array.length_toList]; rfl
 rw [← hL] at hd ⊢;have HL := Lib.hid hL;have HLs := Lib.hid hLs; clear hL hLs;go_enter Tryz.func81, Tryz.ntmps81
 go_wp2_with fail
 go_loopw [0, 3] (fun sv ov w1 => ∃ (t : ByteArray) (k : Nat), sv = .string t ∧ k ≤ s.size ∧ t.data.toList = L.drop k ∧ t.size = s.size - k ∧ Nr w1 ov (dv (L.take k)) ∧ Q w w1 ∧ Nw w.heap.size ov) (fun sv _ _ => match sv with | .string t => t.size | _ => 0)
 case atStart => exact ⟨s, 0, rfl, by omega, by rw [HL.out]; rfl, by omega, Nn.zero _ _, Q.refl _, Nw.nil⟩
 case round =>
  obtain ⟨t, k, rfl, hk, ht, hts, hov, hq, hnw⟩ := hrel;have HT := Lib.hid ht;have HTS := Lib.hid hts;clear ht hts;have hts2 : t.size ≤ 1099511627776 := (by have := HTS.out; omega);rcases Nat.eq_zero_or_pos t.size with h0 | h0
  ·go_wp2_with fail
   go_ret
   have e : k = s.size := (by have := HTS.out; omega);rw [List.take_of_length_le (by rw [HLs.out]; omega)] at hov;exact ⟨_, rfl, hov, hq, hnw⟩
  ·obtain ⟨n, hn⟩ : ∃ n, n = min t.size 9 := ⟨_, rfl⟩
   have hn1 : n ≤ 9 := (by omega);have hn2 : n ≤ t.size := (by omega);have hn3 : 0 < n := (by omega);have hcase : t.size < 9 ∧ t.size ≤ n ∨ 9 ≤ t.size ∧ t.size ≤ 9 ∧ 9 ≤ n ∨ 9 < t.size ∧ 9 ≤ n := (by omega);clear hn;have HD : aY (t.data.toList) := (by rw [HT.out]; exact hd.drop k);have HTL : t.data.toList.length = t.size := (by rw [Array.length_toList]; rfl);have HTL := Lib.hid HTL;rcases hcase with ⟨h9, h9a⟩ | ⟨h9, h9b, h9a⟩ | ⟨h9, h9a⟩
   all_goals
    go_wp2_with fail
    obtain ⟨wo, rfl⟩ : ∃ wo : World, wo = wr := ⟨_, rfl⟩
    go_loop [5, 6, 7] (fun pv fv iv => ∃ (i p f : Nat), i ≤ n ∧ iv = .int .i64 (i : Int) ∧ pv = .int .i64 (p : Int) ∧ fv = .int .i64 (f : Int) ∧ p = dv (t.data.toList.take i) ∧ f = 10 ^ i ∧ p < f ∧ f ≤ 1000000000) (fun _ _ iv => n - (intOf iv).toNat)
    case atStart => exact ⟨0, 0, 1, by omega, rfl, rfl, rfl, rfl, rfl, by omega, by omega⟩
    case round =>
     obtain ⟨i, p, f, hi, rfl, rfl, rfl, hp, hf, hpf, hf9⟩ := hrel;have HP := Lib.hid hp; have HF := Lib.hid hf; clear hp hf;by_cases hlt : i < n
     ·have hit : i < t.size := (by omega);have hc := HD (t[i]) (by rw [show t[i] = t.data.toList[i]'(by rw [HTL.out]; exact hit) from by simp; rfl]; exact List.getElem_mem _);have hei : t.data.toList[i]'(by rw [HTL.out]; exact hit) = t[i] := (by simp; rfl);have hp2 : 10 * p + (t[i].toNat - 48) = dv (t.data.toList.take (i + 1)) := by
       rw [pU (by rw [HTL.out]; exact hit), hei, ← HP.out]
      have hf2 : 10 * f = 10 ^ (i + 1) := (by rw [Nat.pow_succ, ← HF.out, Nat.mul_comm]);have hf3 : 10 ^ (i + 1) ≤ 10 ^ 9 := Nat.pow_le_pow_right (by decide) (by omega);have hf4 : 10 * f ≤ 1000000000 := (by rw [hf2]; exact hf3);have HP2 := Lib.hid hp2; have HF2 := Lib.hid hf2;clear hp2 hf2 hf3 hei;go_wp2_with fail
      exact ⟨⟨i + 1, 10 * p + (t[i].toNat - 48), 10 * f, by omega, by go_num, congrArg (Value.int _) (by omega), congrArg (Value.int _) (by omega), HP2.out, HF2.out, by omega, hf4⟩, by simp [intOf]; omega⟩
     ·obtain rfl : i = n := (by omega);have lval : dg B30 (dv (L.take k)) + 1 ≤ LIM := by
       have h1 : dg B30 (dv (L.take k)) ≤ (L.take k).length := by
        refine eD aF (Nat.lt_of_lt_of_le (rD (hd.take k)) (Nat.pow_le_pow_left (by decide) _))
       rw [List.length_take, HLs.out] at h1;rw [aA]; omega
      have lf : dg B30 f ≤ 1 := eD aF (by rw [Nat.pow_one, aL]; omega);have lp : dg B30 p ≤ 1 := eD aF (by rw [Nat.pow_one, aL]; omega);have lmul := dY aF (dv (L.take k)) f;have lks : dg B30 (dv (L.take k)) + 10 ≤ LIM := by
       have h1 : dg B30 (dv (L.take k)) ≤ (L.take k).length := by
        refine eD aF (Nat.lt_of_lt_of_le (rD (hd.take k)) (Nat.pow_le_pow_left (by decide) _))
       rw [List.length_take, HLs.out] at h1;rw [aA]; omega
      have hval : dv (L.take k) * f + p = dv (L.take (k + i)) := by
       rw [List.take_add, aBS, ← HT.out, ← HP.out, HF.out, List.length_take, HTL.out, Nat.min_eq_left hn2]
      have HV := Lib.hid hval; clear hval;go_wp2_with fail
      refine (rT _ f _ rfl (by omega)).mono ?_;rintro e w2 ⟨vf, rfl, hvf, hq2, -⟩;go_wp2_with fail
      refine (aAV _ _ _ f _ (hov.q hq2) hvf (by omega)).mono ?_;rintro e w3 ⟨vt, rfl, hvt, hq3, -⟩;go_wp2_with fail
      refine (rT _ p _ rfl (by omega)).mono ?_;rintro e w4 ⟨vp, rfl, hvp, hq4, -⟩;go_wp2_with fail
      refine (aFu _ _ _ p _ (hvt.q hq4) hvp (by omega) (by omega)).mono ?_;rintro e w5 ⟨vs, rfl, hvs, hq5, hnw5⟩;have hqq := ((hq2.trans hq3).trans hq4).trans hq5;have hnw6 : Nw w.heap.size vs := hnw5.more (by have := hq.size; have := hq2.size; have := hq3.size; have := hq4.size; omega);rw [HV.out] at hvs;clear lmul hvt hvp hvf;have hkk : k + i ≤ s.size := (by have := HTS.out; omega);go_wp2_with fail
      first
      | (refine ⟨⟨ByteArray.empty, k + i, rfl, hkk, ?_, ?_, hvs, hq.trans hqq, hnw6⟩, ?_⟩
         ·rw [List.drop_of_length_le (by rw [HLs.out]; have := HTS.out; omega)]; rfl
         ·have := HTS.out; show 0 = _; omega
         ·show 0 < t.size; omega)
      | (refine ⟨⟨t.extract 9 t.size, k + i, rfl, hkk, ?_, ?_, hvs, hq.trans hqq, hnw6⟩, ?_⟩
         ·obtain rfl : i = 9 := (by omega);rw [Lib.extract_to_end, HT.out, List.drop_drop]
         ·have := HTS.out; rw [ByteArray.size_extract]; omega
         ·show (t.extract 9 t.size).size < t.size;rw [ByteArray.size_extract]; omega)
      | (have hmin : (min (t.size : Int) 9).toNat = i := by omega
         refine ⟨⟨t.extract (min (t.size : Int) 9).toNat t.size, k + i, rfl, hkk, ?_, ?_, hvs, hq.trans hqq, hnw6⟩, ?_⟩
         ·rw [hmin, Lib.extract_to_end, HT.out, List.drop_drop]
         ·have := HTS.out; rw [hmin, ByteArray.size_extract]; omega
         ·show (t.extract (min (t.size : Int) 9).toNat t.size).size < t.size;rw [hmin, ByteArray.size_extract]; omega)
end Go.Proofs.YtgpacgadpnpjjaaGreatDoor
