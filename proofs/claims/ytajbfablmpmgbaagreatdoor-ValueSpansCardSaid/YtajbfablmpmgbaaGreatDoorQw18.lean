/- ValueSpans: spans of numbers. No condition. -/
import Derived.Test.YtajbfablmpmgbaaGreatDoorQw17
set_option maxHeartbeats 8000000
set_option maxRecDepth 100000
namespace Go.Proofs.YtajbfablmpmgbaaGreatDoor.K
open Go.RowKit
open Ma Me
theorem nT (a : Value) (p q : Rat) (w : World) (ha : Rs w a p q) (hB : 1000 * (sz p + sz q) + 10000 ≤ LIM) :
  Calls Tryz.prog 60 #[a] w fun e w' => ∃ r, e = .returned r ∧ Rs w' r (aB p q) (aA p q) ∧ Q w w' := by
 obtain ⟨a0, a1, a2, a3, a4, a5, rfl, jA⟩ := fmT ha;obtain ⟨w0, hW, hG0, hA0, hT0⟩ := cK w 35 [a0, a1, a2, a3, a4, a5] 35 [.int .i64 0, .slice none 0 0, .slice none 0 0, .int .i64 0, .slice none 0 0, .slice none 0 0];have HB := yW hB; clear hB;have gs0 := yW (sbT hA0 jA ha (sbZ shT hT0 (St.nil hG0)));clear hG0 hA0 hT0;go_enter Tryz.func60, Tryz.ntmps60
 go_upto_region 1 with fail
 clear hW;generalize w.heap.size = zz at *
 have Z1 := bO (zr p) (zr q);have Z2 := bL (zr p) (zr q);refine reg [eP zz 0, gR p, eP zz 3, gR q, gR (aB p q), eP zz 0, gR p, eP zz 3, gR q, gR (aA p q), gT (aB p q) (aA p q), .any] [.k, .s 11 10] [] [] gs0 (fun Z => ?_) fun v1 w1 X gs1 => ?_
 ·refine JC.p Z $ JW.pt 0 0 Z $ JC.p Z $ JW.pt 0 3 Z $ JW.ca (fun Y => qQ _ _ _ _ _ (Y.d 1) (Y.d 3) (ha1 HB (by omega))) Z $ JC.p Z $ JW.pt 0 0 Z $ JC.p Z $ JW.pt 0 3 Z $ JW.ca (fun Y => qR _ _ _ _ _ (Y.d 6) (Y.d 8) (ha1 HB (by omega))) Z $ JC.bt 4 9 Z $ JC.s6 (n := 1) rfl fRs Z $ Ja.Steps.nil
 clear X gs0;go_wp2_with fail
 exact bT 1 gs1
theorem aHR (x : Value) (p : Rat) (w : World) (hx : Rq w x p) :
  Calls Tryz.prog 37 #[x] w fun e w' => ∃ r, e = .returned r ∧ Rs w' r p p ∧ Q w w' := by
 obtain ⟨a0, a1, a2, rfl, jA⟩ := fmR hx;obtain ⟨w0, hW, hG0, hA0, hT0⟩ := cK w 33 [a0, a1, a2] 35 [.int .i64 0, .slice none 0 0, .slice none 0 0, .int .i64 0, .slice none 0 0, .slice none 0 0];have gs0 := yW (sbR hA0 jA hx (sbZ shT hT0 (St.nil hG0)));clear hG0 hA0 hT0;go_enter Tryz.func37, Tryz.ntmps37
 go_upto_region 1 with fail
 clear hW;generalize w.heap.size = zz at *
 refine reg [gR p, gR p, gT p p, .any] [.k, .s 3 2] [] [] gs0 (fun Z => ?_) fun v1 w1 X gs1 => ?_
 ·refine JW.ld 0 Z $ JW.ld 0 Z $ JC.bt 0 1 Z $ JC.s6 (n := 1) rfl fRs Z $ Ja.Steps.nil
 clear X gs0;go_wp2_with fail
 exact bT 1 gs1
theorem aA0 (a : Value) (p q : Rat) (w : World) (ha : Rs w a p q) (hB : 1000 * (sz p + sz q) + 10000 ≤ LIM) :
  Calls Tryz.prog 20 #[a] w fun e w' => ∃ r, e = .returned r ∧ Rs w' r (-aA p q) (-aB p q) ∧ Q w w' := by
 obtain ⟨a0, a1, a2, a3, a4, a5, rfl, jA⟩ := fmT ha;obtain ⟨w0, hW, hG0, hA0, hT0⟩ := cK w 35 [a0, a1, a2, a3, a4, a5] 35 [.int .i64 0, .slice none 0 0, .slice none 0 0, .int .i64 0, .slice none 0 0, .slice none 0 0];have HB := yW hB; clear hB;have gs0 := yW (sbT hA0 jA ha (sbZ shT hT0 (St.nil hG0)));clear hG0 hA0 hT0;go_enter Tryz.func20, Tryz.ntmps20
 go_upto_region 1 with fail
 clear hW;generalize w.heap.size = zz at *
 have Z1 := bO (zr p) (zr q);have Z2 := bL (zr p) (zr q);refine reg [gT p q, gT (aB p q) (aA p q), .any] [.s 2 1] [] [] gs0 (fun Z => ?_) fun v1 w1 X gs1 => ?_
 ·refine JW.ld 0 Z $ JW.ca (fun Y => nT _ _ _ _ (Y.d 0) (ha1 HB (by omega))) Z $ JC.s6 (n := 0) rfl fRs Z $ Ja.Steps.nil
 clear X gs0;go_upto_region 2 with fail
 have Z3 := pJ Z2;have Z4 := pJ Z1;refine reg [eP zz 3, gR (aA p q), gR (-(aA p q)), eP zz 0, gR (aB p q), gR (-(aB p q)), gT (-(aA p q)) (-(aB p q)), .any] [.k, .s 7 6] [] [] gs1 (fun Z => ?_) fun v2 w2 X gs2 => ?_
 ·refine JC.p Z $ JW.pt 0 3 Z $ JW.ca (fun Y => zS _ _ _ (Y.d 1)) Z $ JC.p Z $ JW.pt 0 0 Z $ JW.ca (fun Y => zS _ _ _ (Y.d 4)) Z $ JC.bt 2 5 Z $ JC.s6 (n := 1) rfl fRs Z $ Ja.Steps.nil
 clear X gs1;go_wp2_with fail
 exact bT 1 gs2
theorem aA1 (a b : Value) (p q pb qb : Rat) (w : World) (ha : Rs w a p q) (hb : Rs w b pb qb) (hB : 5000 * (sz p + sz q + sz pb + sz qb) + 40000 ≤ LIM) :
  Calls Tryz.prog 14 #[a, b] w fun e w' => ∃ r, e = .returned r ∧ Rs w' r (aB p q + aB pb qb) (aA p q + aA pb qb) ∧ Q w w' := by
 obtain ⟨a0, a1, a2, a3, a4, a5, rfl, jA⟩ := fmT ha;obtain ⟨b0, b1, b2, b3, b4, b5, rfl, jB⟩ := fmT hb;obtain ⟨w0, hW, hG0, hA0, hB0, hT0⟩ := gQ w 35 [a0, a1, a2, a3, a4, a5] 35 [b0, b1, b2, b3, b4, b5] 35 [.int .i64 0, .slice none 0 0, .slice none 0 0, .int .i64 0, .slice none 0 0, .slice none 0 0];have HB := yW hB; clear hB;have gs0 := yW (sbT hA0 jA ha (sbT hB0 jB hb (sbZ shT hT0 (St.nil hG0))));clear hG0 hA0 hB0 hT0;go_enter Tryz.func14, Tryz.ntmps14
 go_upto_region 1 with fail
 clear hW;generalize w.heap.size = zz at *
 have Z1 := bO (zr p) (zr q);have Z2 := bL (zr p) (zr q);have Z3 := bO (zr pb) (zr qb);have Z4 := bL (zr pb) (zr qb);refine reg [gT p q, gT (aB p q) (aA p q), gT pb qb, gT (aB pb qb) (aA pb qb), .any, .any] [.s 4 1, .s 5 3] [] [] gs0 (fun Z => ?_) fun v1 w1 X gs1 => ?_
 ·refine JW.ld 0 Z $ JW.ca (fun Y => nT _ _ _ _ (Y.d 0) (ha1 HB (by omega))) Z $ JW.ld 1 Z $ JW.ca (fun Y => nT _ _ _ _ (Y.d 2) (ha1 HB (by omega))) Z $ JC.s6 (n := 0) rfl fRs Z $ JC.s6 (n := 1) rfl fRs Z $ Ja.Steps.nil
 clear X gs0;go_upto_region 2 with fail
 have Z5 := xR Z1 Z3;have Z6 := xR Z2 Z4;refine reg [eP zz 0, gR (aB p q), eP ((zz + 1)) 0, gR (aB pb qb), gR ((aB p q) + (aB pb qb)), eP zz 3, gR (aA p q), eP ((zz + 1)) 3, gR (aA pb qb), gR ((aA p q) + (aA pb qb)), gT ((aB p q) + (aB pb qb)) ((aA p q) + (aA pb qb)), .any] [.k, .k, .s 11 10] [] [] gs1 (fun Z => ?_) fun v2 w2 X gs2 => ?_
 ·refine JC.p Z $ JW.pt 0 0 Z $ JC.p Z $ JW.pt 1 0 Z $ JW.ca (fun Y => aBj _ _ _ _ _ (Y.d 1) (Y.d 3) (ha3 Z1 Z3 HB (by omega))) Z $ JC.p Z $ JW.pt 0 3 Z $ JC.p Z $ JW.pt 1 3 Z $ JW.ca (fun Y => aBj _ _ _ _ _ (Y.d 6) (Y.d 8) (ha3 Z2 Z4 HB (by omega))) Z $ JC.bt 4 9 Z $ JC.s6 (n := 2) rfl fRs Z $ Ja.Steps.nil
 clear X gs1;go_wp2_with fail
 exact bT 2 gs2
theorem aGM (a b : Rat) : sz (-aA a b) ≤ sz a + sz b := by have h1 := iG a b; have h2 := fA (aA a b); omega
theorem aGN (a b : Rat) : sz (-aB a b) ≤ sz a + sz b := by have h1 := iF a b; have h2 := fA (aB a b); omega
theorem aGO (c d : Rat) : aB (-aA c d) (-aB c d) = -aA c d ∧ aA (-aA c d) (-aB c d) = -aB c d := by
 have h : -aA c d ≤ -aB c d := Rat.neg_le_neg (iT c d);exact ⟨kH h, kI h⟩
theorem aFB (a b : Value) (p q pb qb : Rat) (w : World) (ha : Rs w a p q) (hb : Rs w b pb qb) (hB : 10000 * (sz p + sz q + sz pb + sz qb) + 40000 ≤ LIM) :
  Calls Tryz.prog 16 #[a, b] w fun e w' => ∃ r, e = .returned r ∧ Rs w' r (aB p q - aA pb qb) (aA p q - aB pb qb) ∧ Q w w' := by
 obtain ⟨a0, a1, a2, a3, a4, a5, rfl, jA⟩ := fmT ha;obtain ⟨b0, b1, b2, b3, b4, b5, rfl, jB⟩ := fmT hb;obtain ⟨w0, hW, hG0, hA0, hB0, hT0⟩ := gQ w 35 [a0, a1, a2, a3, a4, a5] 35 [b0, b1, b2, b3, b4, b5] 35 [.int .i64 0, .slice none 0 0, .slice none 0 0, .int .i64 0, .slice none 0 0, .slice none 0 0];have HB := yW hB; clear hB;have gs0 := yW (sbT hA0 jA ha (sbT hB0 jB hb (sbZ shT hT0 (St.nil hG0))));clear hG0 hA0 hB0 hT0;go_enter Tryz.func16, Tryz.ntmps16
 go_upto_region 1 with fail
 clear hW;generalize w.heap.size = zz at *
 have Z1 : Hid (sz (-aA (pb) (qb)) ≤ 1 * sz (pb) + 1 * sz (qb)) := oz1 (aGM (pb) (qb)) HB (by omega);have Z2 : Hid (sz (-aB (pb) (qb)) ≤ 1 * sz (pb) + 1 * sz (qb)) := oz1 (aGN (pb) (qb)) HB (by omega);refine reg [gT p q, gT pb qb, gT (-aA pb qb) (-aB pb qb), gT (aB p q + aB (-aA pb qb) (-aB pb qb)) (aA p q + aA (-aA pb qb) (-aB pb qb)), .any] [.k, .k, .s 4 3] [] [] gs0 (fun Z => ?_) fun v1 w1 X gs1 => ?_
 ·refine JW.ld 0 Z $ JW.ld 1 Z $ JW.ca (fun Y => aA0 _ _ _ _ (Y.d 1) (ha1 HB (by omega))) Z $ JW.ca (fun Y => aA1 _ _ _ _ _ _ _ (Y.d 0) (Y.d 2) (ha3 Z1 Z2 HB (by omega))) Z $ JC.s6 (n := 2) rfl fRs Z $ Ja.Steps.nil
 clear X gs0;go_wp2_with fail
 have hps := aGO pb qb;exact eQ 2 gs1 (hR := fun h hq => by have h : Rs w1 (v1 3) (aB (p) (q) + aB (-aA (pb) (qb)) (-aB (pb) (qb))) (aA (p) (q) + aA (-aA (pb) (qb)) (-aB (pb) (qb))) := h; rw [hps.1, hps.2, ← Rat.sub_eq_add_neg, ← Rat.sub_eq_add_neg] at h; exact ⟨_, rfl, h, hq⟩)
theorem aFC (a : Value) (p q : Rat) (w : World) (ha : Rs w a p q) (hB : 5000 * (sz p + sz q) + 40000 ≤ LIM) :
  Calls Tryz.prog 33 #[a] w fun e w' => ∃ r, e = .returned r ∧ Rq w' r ((p + q) * pw (-1)) ∧ Q w w' := by
 obtain ⟨a0, a1, a2, a3, a4, a5, rfl, jA⟩ := fmT ha;obtain ⟨w0, hW, hG0, hA0, hT0⟩ := cK w 35 [a0, a1, a2, a3, a4, a5] 33 [.int .i64 0, .slice none 0 0, .slice none 0 0];have HB := yW hB; clear hB;have gs0 := yW (sbT hA0 jA ha (sbZ shR hT0 (St.nil hG0)));clear hG0 hA0 hT0;go_enter Tryz.func33, Tryz.ntmps33
 go_upto_region 1 with fail
 clear hW;generalize w.heap.size = zz at *
 have Z1 := xR (zr p) (zr q);refine reg [eP zz 0, gR p, eP zz 3, gR q, gR ((p) + (q)), gR (((p) + (q)) * pw (-1)), .any] [.k, .s 6 5] [] [] gs0 (fun Z => ?_) fun v1 w1 X gs1 => ?_
 ·refine JC.p Z $ JW.pt 0 0 Z $ JC.p Z $ JW.pt 0 3 Z $ JW.ca (fun Y => aBj _ _ _ _ _ (Y.d 1) (Y.d 3) (ha1 HB (by omega))) Z $ JW.ca (fun Y => aAz _ ((p) + (q)) (-1) _ (Y.d 4) (ha2 Z1 HB (by omega))) Z $ JC.s3 (n := 1) rfl fRn Z $ Ja.Steps.nil
 clear X gs0;go_wp2_with fail
 exact bT 1 gs1
theorem aCW (a : Value) (p q : Rat) (w : World) (ha : Rs w a p q) (hB : 1000 * (sz p + sz q) + 10000 ≤ LIM) :
  Calls Tryz.prog 35 #[a] w fun e w' => ∃ r, e = .returned r ∧ Rq w' r (nV (q - p)) ∧ Q w w' := by
 obtain ⟨a0, a1, a2, a3, a4, a5, rfl, jA⟩ := fmT ha;obtain ⟨w0, hW, hG0, hA0, hT0⟩ := cK w 35 [a0, a1, a2, a3, a4, a5] 33 [.int .i64 0, .slice none 0 0, .slice none 0 0];have HB := yW hB; clear hB;have gs0 := yW (sbT hA0 jA ha (sbZ shR hT0 (St.nil hG0)));clear hG0 hA0 hT0;go_enter Tryz.func35, Tryz.ntmps35
 go_upto_region 1 with fail
 clear hW;generalize w.heap.size = zz at *
 have Z1 := aDP (zr q) (zr p);refine reg [eP zz 3, gR q, eP zz 0, gR p, gR ((q) - (p)), gR (nV ((q) - (p))), .any] [.k, .s 6 5] [] [] gs0 (fun Z => ?_) fun v1 w1 X gs1 => ?_
 ·refine JC.p Z $ JW.pt 0 3 Z $ JC.p Z $ JW.pt 0 0 Z $ JW.ca (fun Y => aJi _ _ _ _ _ (Y.d 1) (Y.d 3) (ha1 HB (by omega))) Z $ JW.ca (fun Y => aJg _ _ _ (Y.d 4)) Z $ JC.s3 (n := 1) rfl fRn Z $ Ja.Steps.nil
 clear X gs0;go_wp2_with fail
 exact bT 1 gs1
def dP (a b : List UInt8) : Int × Rat × Rat := if (aH a).1 ≠ 0 then ((aH a).1, 0, 0) else if (aH b).1 ≠ 0 then ((aH b).1, 0, 0) else if (aH a).2 ≤ (aH b).2 then (0, (aH a).2, (aH b).2) else (7, 0, 0)
theorem aGP (a b : ByteArray) (w : World) (ha : a.size ≤ 9223372036854775806) (hb : b.size ≤ 9223372036854775806) (hB : 1000 * (sz (aH a.data.toList).2 + sz (aH b.data.toList).2) + 10000 ≤ LIM) :
  Calls Tryz.prog 6 #[.agg #[.string a, .string b]] w fun e w' => ∃ r, e = .returned (.tuple #[r, .int .i64 (dP a.data.toList b.data.toList).1]) ∧ Rs w' r (dP a.data.toList b.data.toList).2.1 (dP a.data.toList b.data.toList).2.2 ∧ Q w w' := by
 obtain ⟨w0, hW, hG0, hA0, hT0⟩ := cK w 42 [.string (a), .string (b)] 35 [.int .i64 0, .slice none 0 0, .slice none 0 0, .int .i64 0, .slice none 0 0, .slice none 0 0];have gs0 := yW (sbZ shG hA0 (sbZ shT hT0 (St.nil hG0)));clear hG0 hA0 hT0;go_enter Tryz.func6, Tryz.ntmps6
 go_upto_region 1 with fail
 clear hW;generalize w.heap.size = zz at *
 have HLa := yW ha; clear ha;obtain ⟨p0, Hp0⟩ : ∃ z : Rat, Hid ((aH a.data.toList).2 = z) := ⟨_, yW rfl⟩
 obtain ⟨c0, Hc0⟩ : ∃ z : Int, Hid ((aH a.data.toList).1 = z) := ⟨_, yW rfl⟩
 have HLb := yW hb; clear hb;obtain ⟨p1, Hp1⟩ : ∃ z : Rat, Hid ((aH b.data.toList).2 = z) := ⟨_, yW rfl⟩
 obtain ⟨c1, Hc1⟩ : ∃ z : Int, Hid ((aH b.data.toList).1 = z) := ⟨_, yW rfl⟩
 have HB : Hid (1000 * (sz p0 + sz p1) + 10000 ≤ LIM) := yW (by rw [Hp0.out, Hp1.out] at hB; exact hB); clear hB;refine reg [eP zz 0, .eq (.string a), .gen (pT2 (pRn p0) (pEq (.int .i64 c0))), .gen (pT2 (pRn p0) (pEq (.int .i64 c0))), gR p0, eI c0, .any, .any, eI c0] [] [⟨6, 33, [.i, .s, .s], zR, .s 7 4⟩] [] gs0 (fun Z => ?_) fun v1 w1 X gs1 => ?_
 ·refine JC.p Z $ JW.ce 0 0 eqC Z $ JW.ca (fun Y => (aAv a _ HLa.out).mono (by rintro e W9 ⟨r, rfl, hr, hq9⟩; exact ⟨(.tuple #[r, .int .i64 (aH a.data.toList).1]), rfl, ⟨_, _, rfl, (by have h7 := hr; rw [Hp0.out] at h7; exact h7), congrArg (Value.int .i64) Hc0.out⟩, hq9⟩)) Z $ JC.m 2 Z $ JW.x2 3 0 Z $ JW.x2 3 1 Z $ JC.al (n := 2) shR Z $ JC.s3 (n := 2) rfl fRn Z $ JC.p Z $ Ja.Steps.nil
 rw [X.out.f 6 rfl, X.out.e 8 rfl rfl];clear X gs0;go_upto_region 2 with fail
 by_cases hC0 : c0 ≠ 0
 ·have HC0 := yW hC0; clear hC0;have HM : Hid (dP a.data.toList b.data.toList = (c0, 0, 0)) := yW (by have h9 := HC0.out; unfold dP; rw [Hc0.out, if_pos h9]);refine reg [eI c0, eB true] [] [] [] gs1 (fun Z => ?_) fun v2 w2 X gs2 => ?_
  ·refine JC.p Z $ JC.u (.bool (!((c0) == (0)))) (congrArg Value.bool (bne_iff_ne.2 (HC0.out))) Z $ Ja.Steps.nil
  rw [X.out.e 1 rfl rfl];clear X gs1;go_upto_region 3 with fail
  refine reg [gT 0 0, eI c0, .any, eI c0] [.k, .s 2 0] [] [] gs2 (fun Z => ?_) fun v3 w3 X gs3 => ?_
  ·refine JC.o Z ?_ ?_
   ·intro L vals W hL hJ hd K hK;go_simp
    exact hK.out (.agg #[.int .i64 0, .slice none 0 0, .slice none 0 0, .int .i64 0, .slice none 0 0, .slice none 0 0]) _ _ (by kernel_rfl) ⟨_, _, _, _, _, _, _, _, _, _, _, _, _, _, rfl, Rq.none W, Rq.none W⟩ (Q.refl _)
   refine JC.p Z $ JC.s6 (n := 1) rfl fRs Z $ JC.p Z $ Ja.Steps.nil
  rw [X.out.e 3 rfl rfl];clear X gs2;go_wp2_with fail
  rw [HM.out];exact iD (u := .int .i64 (c0)) 1 gs3 (hR := fun h hq => by exact ⟨_, rfl, h, hq⟩)
 ·have HC0 := yW hC0; clear hC0;obtain rfl : c0 = 0 := (by have h9 := HC0.out; omega);refine reg [eI 0, eB false] [] [] [] gs1 (fun Z => ?_) fun v2 w2 X gs2 => ?_
  ·refine JC.p Z $ JC.p Z $ Ja.Steps.nil
  rw [X.out.e 1 rfl rfl];clear X gs1;go_upto_region 4 with fail
  refine reg [eP zz 1, .eq (.string b), .gen (pT2 (pRn p1) (pEq (.int .i64 c1))), .gen (pT2 (pRn p1) (pEq (.int .i64 c1))), gR p1, eI c1, .any, .any, eI c1] [] [⟨6, 33, [.i, .s, .s], zR, .s 7 4⟩] [] gs2 (fun Z => ?_) fun v3 w3 X gs3 => ?_
  ·refine JC.p Z $ JW.ce 0 1 eqC Z $ JW.ca (fun Y => (aAv b _ HLb.out).mono (by rintro e W9 ⟨r, rfl, hr, hq9⟩; exact ⟨(.tuple #[r, .int .i64 (aH b.data.toList).1]), rfl, ⟨_, _, rfl, (by have h7 := hr; rw [Hp1.out] at h7; exact h7), congrArg (Value.int .i64) Hc1.out⟩, hq9⟩)) Z $ JC.m 2 Z $ JW.x2 3 0 Z $ JW.x2 3 1 Z $ JC.al (n := 3) shR Z $ JC.s3 (n := 3) rfl fRn Z $ JC.p Z $ Ja.Steps.nil
  rw [X.out.f 6 rfl, X.out.e 8 rfl rfl];clear X gs2;go_upto_region 5 with fail
  by_cases hC1 : c1 ≠ 0
  ·have HC1 := yW hC1; clear hC1;have HM : Hid (dP a.data.toList b.data.toList = (c1, 0, 0)) := yW (by have h9 := HC1.out; unfold dP; rw [Hc0.out, Hc1.out, if_neg (fun h => h rfl), if_pos h9]);refine reg [eI c1, eB true] [] [] [] gs3 (fun Z => ?_) fun v4 w4 X gs4 => ?_
   ·refine JC.p Z $ JC.u (.bool (!((c1) == (0)))) (congrArg Value.bool (bne_iff_ne.2 (HC1.out))) Z $ Ja.Steps.nil
   rw [X.out.e 1 rfl rfl];clear X gs3;go_upto_region 6 with fail
   refine reg [gT 0 0, eI c1, .any, eI c1] [.k, .s 2 0] [] [] gs4 (fun Z => ?_) fun v5 w5 X gs5 => ?_
   ·refine JC.o Z ?_ ?_
    ·intro L vals W hL hJ hd K hK;go_simp
     exact hK.out (.agg #[.int .i64 0, .slice none 0 0, .slice none 0 0, .int .i64 0, .slice none 0 0, .slice none 0 0]) _ _ (by kernel_rfl) ⟨_, _, _, _, _, _, _, _, _, _, _, _, _, _, rfl, Rq.none W, Rq.none W⟩ (Q.refl _)
    refine JC.p Z $ JC.s6 (n := 1) rfl fRs Z $ JC.p Z $ Ja.Steps.nil
   rw [X.out.e 3 rfl rfl];clear X gs4;go_wp2_with fail
   rw [HM.out];exact iD (u := .int .i64 (c1)) 1 gs5 (hR := fun h hq => by exact ⟨_, rfl, h, hq⟩)
  ·have HC1 := yW hC1; clear hC1;obtain rfl : c1 = 0 := (by have h9 := HC1.out; omega);refine reg [eI 0, eB false] [] [] [] gs3 (fun Z => ?_) fun v4 w4 X gs4 => ?_
   ·refine JC.p Z $ JC.p Z $ Ja.Steps.nil
   rw [X.out.e 1 rfl rfl];clear X gs3;go_upto_region 7 with fail
   by_cases hD : p0 ≤ p1
   ·have HD := yW hD; clear hD;have HR : Hid (rc (p0) (p1) ≤ 0) := yW ((eU _ _).2 HD.out); have HM : Hid (dP a.data.toList b.data.toList = (0, p0, p1)) := yW (by have h9 := HD.out; unfold dP; rw [Hc0.out, Hc1.out, Hp0.out, Hp1.out, if_neg (fun h => h rfl), if_neg (fun h => h rfl), if_pos h9]);refine reg [gR p0, gR p1, eI (rc p0 p1), eB false] [] [] [] gs4 (fun Z => ?_) fun v5 w5 X gs5 => ?_
    ·refine JW.ld 2 Z $ JW.ld 3 Z $ JW.ca (fun Y => (kM _ _ _ _ _ (Y.d 0) (Y.d 1) (ha1 HB (by omega))).mono mo0) Z $ JC.u (.bool (decide ((0) < (rc p0 p1)))) (congrArg Value.bool (decide_eq_false (show ¬ ((rc p0 p1 : Int) > 0) from by have h9 := HR.out; omega))) Z $ Ja.Steps.nil
    rw [X.out.e 3 rfl rfl];clear X gs4;go_upto_region 9 with fail
    refine reg [gR p0, gR p1, gT p0 p1, .any, eI 0] [.k, .s 3 2] [] [] gs5 (fun Z => ?_) fun v6 w6 X gs6 => ?_
    ·refine JW.ld 2 Z $ JW.ld 3 Z $ JC.bt 0 1 Z $ JC.s6 (n := 1) rfl fRs Z $ JC.p Z $ Ja.Steps.nil
    rw [X.out.e 4 rfl rfl];clear X gs5;go_wp2_with fail
    rw [HM.out];exact iD (u := .int .i64 (0)) 1 gs6 (hR := fun h hq => by exact ⟨_, rfl, h, hq⟩)
   ·have HD := yW hD; clear hD;have HR : Hid (0 < rc (p0) (p1)) := yW (by have h9 := mt (eU p0 p1).1 HD.out; omega); have HM : Hid (dP a.data.toList b.data.toList = (7, 0, 0)) := yW (by have h9 := HD.out; unfold dP; rw [Hc0.out, Hc1.out, Hp0.out, Hp1.out, if_neg (fun h => h rfl), if_neg (fun h => h rfl), if_neg h9]);refine reg [gR p0, gR p1, eI (rc p0 p1), eB true] [] [] [] gs4 (fun Z => ?_) fun v5 w5 X gs5 => ?_
    ·refine JW.ld 2 Z $ JW.ld 3 Z $ JW.ca (fun Y => (kM _ _ _ _ _ (Y.d 0) (Y.d 1) (ha1 HB (by omega))).mono mo0) Z $ JC.u (.bool (decide ((0) < (rc p0 p1)))) (congrArg Value.bool (decide_eq_true (show ((rc p0 p1 : Int) > 0) from by have h9 := HR.out; omega))) Z $ Ja.Steps.nil
    rw [X.out.e 3 rfl rfl];clear X gs4;go_upto_region 8 with fail
    refine reg [gT 0 0, .any, eI 7] [.k, .s 1 0] [] [] gs5 (fun Z => ?_) fun v6 w6 X gs6 => ?_
    ·refine JC.o Z ?_ ?_
     ·intro L vals W hL hJ hd K hK;go_simp
      exact hK.out (.agg #[.int .i64 0, .slice none 0 0, .slice none 0 0, .int .i64 0, .slice none 0 0, .slice none 0 0]) _ _ (by kernel_rfl) ⟨_, _, _, _, _, _, _, _, _, _, _, _, _, _, rfl, Rq.none W, Rq.none W⟩ (Q.refl _)
     refine JC.s6 (n := 1) rfl fRs Z $ JC.p Z $ Ja.Steps.nil
    rw [X.out.e 2 rfl rfl];clear X gs5;go_wp2_with fail
    rw [HM.out];exact iD (u := .int .i64 (7)) 1 gs6 (hR := fun h hq => by exact ⟨_, rfl, h, hq⟩)
theorem aGQ (a b : ByteArray) (w : World) (hT : Tb w) (ha : a.size ≤ 9223372036854775806) (hb : b.size ≤ 9223372036854775806) (hBa : sz (aH a.data.toList).2 ≤ 1000000) (hBb : sz (aH b.data.toList).2 ≤ 1000000) :
  Calls Tryz.prog 5 #[.agg #[.string a, .string b]] w fun e w' => ∃ r, e = .returned (.tuple #[r, .int .i64 (dP a.data.toList b.data.toList).1]) ∧ Ns w' r (dP a.data.toList b.data.toList).2.1 (dP a.data.toList b.data.toList).2.2 ∧ Q w w' := by
 obtain ⟨w0, hW, hG0, hA0, hT0⟩ := cK w 42 [.string (a), .string (b)] 30 [.bool false, .slice none 0 0, .slice none 0 0, .bool false, .slice none 0 0, .slice none 0 0];have gs0 := yW (sbZ shG hA0 (sbZ shS hT0 (St.nil hG0)));clear hG0 hA0 hT0;go_enter Tryz.func5, Tryz.ntmps5
 go_upto_region 1 with fail
 clear hW;generalize w.heap.size = zz at *
 have HLa := yW ha; clear ha;obtain ⟨p0, Hp0⟩ : ∃ z : Rat, Hid ((aH a.data.toList).2 = z) := ⟨_, yW rfl⟩
 obtain ⟨c0, Hc0⟩ : ∃ z : Int, Hid ((aH a.data.toList).1 = z) := ⟨_, yW rfl⟩
 have HLb := yW hb; clear hb;obtain ⟨p1, Hp1⟩ : ∃ z : Rat, Hid ((aH b.data.toList).2 = z) := ⟨_, yW rfl⟩
 obtain ⟨c1, Hc1⟩ : ∃ z : Int, Hid ((aH b.data.toList).1 = z) := ⟨_, yW rfl⟩
 have Z1 : Hid (sz p0 ≤ 1000000) := yW (by rw [← Hp0.out]; exact hBa); clear hBa;have Z2 : Hid (sz p1 ≤ 1000000) := yW (by rw [← Hp1.out]; exact hBb); clear hBb;refine reg [eP zz 0, .eq (.string a), .gen (pT2 (fB p0) (pEq (.int .i64 c0))), .gen (pT2 (fB p0) (pEq (.int .i64 c0))), gN p0, eI c0, .any, .any, eI c0] [] [⟨6, 28, [.b, .s, .s], zN, .s 7 4⟩] [] gs0 (fun Z => ?_) fun v1 w1 X gs1 => ?_
 ·refine JC.p Z $ JW.ce 0 0 eqC Z $ JW.ca (fun Y => (wO a _ (hT.q Y.q) HLa.out).mono (by rintro e W9 ⟨r, rfl, hr, hq9⟩; exact ⟨(.tuple #[r, .int .i64 (aH a.data.toList).1]), rfl, ⟨_, _, rfl, (by have h7 := hr; rw [Hp0.out] at h7; exact h7), congrArg (Value.int .i64) Hc0.out⟩, hq9⟩)) Z $ JC.m 2 Z $ JW.x2 3 0 Z $ JW.x2 3 1 Z $ JC.al (n := 2) shN Z $ JC.s3 (n := 2) rfl iO Z $ JC.p Z $ Ja.Steps.nil
 rw [X.out.f 6 rfl, X.out.e 8 rfl rfl];clear X gs0;go_upto_region 2 with fail
 by_cases hC0 : c0 ≠ 0
 ·have HC0 := yW hC0; clear hC0;have HM : Hid (dP a.data.toList b.data.toList = (c0, 0, 0)) := yW (by have h9 := HC0.out; unfold dP; rw [Hc0.out, if_pos h9]);refine reg [eI c0, eB true] [] [] [] gs1 (fun Z => ?_) fun v2 w2 X gs2 => ?_
  ·refine JC.p Z $ JC.u (.bool (!((c0) == (0)))) (congrArg Value.bool (bne_iff_ne.2 (HC0.out))) Z $ Ja.Steps.nil
  rw [X.out.e 1 rfl rfl];clear X gs1;go_upto_region 3 with fail
  refine reg [gS 0 0, eI c0, .any, eI c0] [.k, .s 2 0] [] [] gs2 (fun Z => ?_) fun v3 w3 X gs3 => ?_
  ·refine JC.o Z ?_ ?_
   ·intro L vals W hL hJ hd K hK;go_simp
    exact hK.out (.agg #[.bool false, .slice none 0 0, .slice none 0 0, .bool false, .slice none 0 0, .slice none 0 0]) _ _ (by kernel_rfl) ⟨_, _, _, _, _, _, _, _, _, _, _, _, _, _, rfl, iU W, iU W⟩ (Q.refl _)
   refine JC.p Z $ JC.s6 (n := 1) rfl aL Z $ JC.p Z $ Ja.Steps.nil
  rw [X.out.e 3 rfl rfl];clear X gs2;go_wp2_with fail
  rw [HM.out];exact iD (u := .int .i64 (c0)) 1 gs3 (hR := fun h hq => by exact ⟨_, rfl, h, hq⟩)
 ·have HC0 := yW hC0; clear hC0;obtain rfl : c0 = 0 := (by have h9 := HC0.out; omega);refine reg [eI 0, eB false] [] [] [] gs1 (fun Z => ?_) fun v2 w2 X gs2 => ?_
  ·refine JC.p Z $ JC.p Z $ Ja.Steps.nil
  rw [X.out.e 1 rfl rfl];clear X gs1;go_upto_region 4 with fail
  refine reg [eP zz 1, .eq (.string b), .gen (pT2 (fB p1) (pEq (.int .i64 c1))), .gen (pT2 (fB p1) (pEq (.int .i64 c1))), gN p1, eI c1, .any, .any, eI c1] [] [⟨6, 28, [.b, .s, .s], zN, .s 7 4⟩] [] gs2 (fun Z => ?_) fun v3 w3 X gs3 => ?_
  ·refine JC.p Z $ JW.ce 0 1 eqC Z $ JW.ca (fun Y => (wO b _ (hT.q Y.q) HLb.out).mono (by rintro e W9 ⟨r, rfl, hr, hq9⟩; exact ⟨(.tuple #[r, .int .i64 (aH b.data.toList).1]), rfl, ⟨_, _, rfl, (by have h7 := hr; rw [Hp1.out] at h7; exact h7), congrArg (Value.int .i64) Hc1.out⟩, hq9⟩)) Z $ JC.m 2 Z $ JW.x2 3 0 Z $ JW.x2 3 1 Z $ JC.al (n := 3) shN Z $ JC.s3 (n := 3) rfl iO Z $ JC.p Z $ Ja.Steps.nil
  rw [X.out.f 6 rfl, X.out.e 8 rfl rfl];clear X gs2;go_upto_region 5 with fail
  by_cases hC1 : c1 ≠ 0
  ·have HC1 := yW hC1; clear hC1;have HM : Hid (dP a.data.toList b.data.toList = (c1, 0, 0)) := yW (by have h9 := HC1.out; unfold dP; rw [Hc0.out, Hc1.out, if_neg (fun h => h rfl), if_pos h9]);refine reg [eI c1, eB true] [] [] [] gs3 (fun Z => ?_) fun v4 w4 X gs4 => ?_
   ·refine JC.p Z $ JC.u (.bool (!((c1) == (0)))) (congrArg Value.bool (bne_iff_ne.2 (HC1.out))) Z $ Ja.Steps.nil
   rw [X.out.e 1 rfl rfl];clear X gs3;go_upto_region 6 with fail
   refine reg [gS 0 0, eI c1, .any, eI c1] [.k, .s 2 0] [] [] gs4 (fun Z => ?_) fun v5 w5 X gs5 => ?_
   ·refine JC.o Z ?_ ?_
    ·intro L vals W hL hJ hd K hK;go_simp
     exact hK.out (.agg #[.bool false, .slice none 0 0, .slice none 0 0, .bool false, .slice none 0 0, .slice none 0 0]) _ _ (by kernel_rfl) ⟨_, _, _, _, _, _, _, _, _, _, _, _, _, _, rfl, iU W, iU W⟩ (Q.refl _)
    refine JC.p Z $ JC.s6 (n := 1) rfl aL Z $ JC.p Z $ Ja.Steps.nil
   rw [X.out.e 3 rfl rfl];clear X gs4;go_wp2_with fail
   rw [HM.out];exact iD (u := .int .i64 (c1)) 1 gs5 (hR := fun h hq => by exact ⟨_, rfl, h, hq⟩)
  ·have HC1 := yW hC1; clear hC1;obtain rfl : c1 = 0 := (by have h9 := HC1.out; omega);refine reg [eI 0, eB false] [] [] [] gs3 (fun Z => ?_) fun v4 w4 X gs4 => ?_
   ·refine JC.p Z $ JC.p Z $ Ja.Steps.nil
   rw [X.out.e 1 rfl rfl];clear X gs3;go_upto_region 7 with fail
   by_cases hD : p0 ≤ p1
   ·have HD := yW hD; clear hD;have HR : Hid (rc (p0) (p1) ≤ 0) := yW ((eU _ _).2 HD.out); have HM : Hid (dP a.data.toList b.data.toList = (0, p0, p1)) := yW (by have h9 := HD.out; unfold dP; rw [Hc0.out, Hc1.out, Hp0.out, Hp1.out, if_neg (fun h => h rfl), if_neg (fun h => h rfl), if_pos h9]);refine reg [gN p0, gN p1, eI (rc p0 p1), eB false] [] [] [] gs4 (fun Z => ?_) fun v5 w5 X gs5 => ?_
    ·refine JW.ld 2 Z $ JW.ld 3 Z $ JW.ca (fun Y => (iQ _ _ _ _ _ (Y.d 0) (Y.d 1) (bb2 Z1 Z2)).mono mo0) Z $ JC.u (.bool (decide ((0) < (rc p0 p1)))) (congrArg Value.bool (decide_eq_false (show ¬ ((rc p0 p1 : Int) > 0) from by have h9 := HR.out; omega))) Z $ Ja.Steps.nil
    rw [X.out.e 3 rfl rfl];clear X gs4;go_upto_region 9 with fail
    refine reg [gN p0, gN p1, gS p0 p1, .any, eI 0] [.k, .s 3 2] [] [] gs5 (fun Z => ?_) fun v6 w6 X gs6 => ?_
    ·refine JW.ld 2 Z $ JW.ld 3 Z $ JC.bs 0 1 Z $ JC.s6 (n := 1) rfl aL Z $ JC.p Z $ Ja.Steps.nil
    rw [X.out.e 4 rfl rfl];clear X gs5;go_wp2_with fail
    rw [HM.out];exact iD (u := .int .i64 (0)) 1 gs6 (hR := fun h hq => by exact ⟨_, rfl, h, hq⟩)
   ·have HD := yW hD; clear hD;have HR : Hid (0 < rc (p0) (p1)) := yW (by have h9 := mt (eU p0 p1).1 HD.out; omega); have HM : Hid (dP a.data.toList b.data.toList = (7, 0, 0)) := yW (by have h9 := HD.out; unfold dP; rw [Hc0.out, Hc1.out, Hp0.out, Hp1.out, if_neg (fun h => h rfl), if_neg (fun h => h rfl), if_neg h9]);refine reg [gN p0, gN p1, eI (rc p0 p1), eB true] [] [] [] gs4 (fun Z => ?_) fun v5 w5 X gs5 => ?_
    ·refine JW.ld 2 Z $ JW.ld 3 Z $ JW.ca (fun Y => (iQ _ _ _ _ _ (Y.d 0) (Y.d 1) (bb2 Z1 Z2)).mono mo0) Z $ JC.u (.bool (decide ((0) < (rc p0 p1)))) (congrArg Value.bool (decide_eq_true (show ((rc p0 p1 : Int) > 0) from by have h9 := HR.out; omega))) Z $ Ja.Steps.nil
    rw [X.out.e 3 rfl rfl];clear X gs4;go_upto_region 8 with fail
    refine reg [gS 0 0, .any, eI 7] [.k, .s 1 0] [] [] gs5 (fun Z => ?_) fun v6 w6 X gs6 => ?_
    ·refine JC.o Z ?_ ?_
     ·intro L vals W hL hJ hd K hK;go_simp
      exact hK.out (.agg #[.bool false, .slice none 0 0, .slice none 0 0, .bool false, .slice none 0 0, .slice none 0 0]) _ _ (by kernel_rfl) ⟨_, _, _, _, _, _, _, _, _, _, _, _, _, _, rfl, iU W, iU W⟩ (Q.refl _)
     refine JC.s6 (n := 1) rfl aL Z $ JC.p Z $ Ja.Steps.nil
    rw [X.out.e 2 rfl rfl];clear X gs5;go_wp2_with fail
    rw [HM.out];exact iD (u := .int .i64 (7)) 1 gs6 (hR := fun h hq => by exact ⟨_, rfl, h, hq⟩)
theorem jC (a b : Value) (p q : Rat) (w : World) (ha : Ns w a p q) (hb : Rs w b p q) (hB : sz p + sz q ≤ 500000000) :
  Calls Tryz.prog 7 #[a, b] w fun e w' => e = .returned (.bool true) ∧ Q w w' := by
 obtain ⟨a0, a1, a2, a3, a4, a5, rfl, jA⟩ := fmS ha;obtain ⟨b0, b1, b2, b3, b4, b5, rfl, jB⟩ := fmT hb;obtain ⟨w0, hW, hG0, hA0, hB0⟩ := cK w 30 [a0, a1, a2, a3, a4, a5] 35 [b0, b1, b2, b3, b4, b5];have gs0 := yW (sbS hA0 jA ha (sbT hB0 jB hb (St.nil hG0)));clear hG0 hA0 hB0;go_enter Tryz.func7, Tryz.ntmps7
 go_upto_region 1 with fail
 clear hW;generalize w.heap.size = zz at *
 have Z1 : Hid (sz p ≤ 500000000) := yW (by omega);have Z2 : Hid (sz q ≤ 500000000) := yW (by omega);clear hB;refine reg [eP zz 0, gN p, eP ((zz + 1)) 0, gR p, eB true, eB true, eP zz 3, gN q, eP ((zz + 1)) 3, gR q, eB true, eB true, eB true] [] [] [] gs0 (fun Z => ?_) fun v1 w1 X gs1 => ?_
 ·refine JC.p Z $ JW.pt 0 0 Z $ JC.p Z $ JW.pt 1 0 Z $ JW.ca (fun Y => (zU _ _ _ _ (Y.d 1) (Y.d 3) (bb1 Z1)).mono mo0) Z $ JC.p Z $ JC.p Z $ JW.pt 0 3 Z $ JC.p Z $ JW.pt 1 3 Z $ JW.ca (fun Y => (zU _ _ _ _ (Y.d 7) (Y.d 9) (bb1 Z2)).mono mo0) Z $ JC.p Z $ JC.p Z $ Ja.Steps.nil
 rw [X.out.e 12 rfl rfl];clear X gs0;go_wp2_with fail
 go_ret
 exact ⟨rfl, gs1.out.q⟩
theorem aEc (a : Value) (p q : Rat) (w : World) (ha : Rs w a p q) (hB : 2000 * (sz p + sz q) + 20000 ≤ LIM) :
  Calls Tryz.prog 28 #[a] w fun e w' => e = .returned (.agg #[.string (ofK (aX (aB p q))), .string (ofK (aX (aA p q)))]) ∧ Q w w' := by
 obtain ⟨a0, a1, a2, a3, a4, a5, rfl, jA⟩ := fmT ha;obtain ⟨w0, hW, hG0, hA0, hT0⟩ := cK w 35 [a0, a1, a2, a3, a4, a5] 42 [.string ⟨#[]⟩, .string ⟨#[]⟩];have HB := yW hB; clear hB;have gs0 := yW (sbT hA0 jA ha (sbZ shG hT0 (St.nil hG0)));clear hG0 hA0 hT0;go_enter Tryz.func28, Tryz.ntmps28
 go_upto_region 1 with fail
 clear hW;generalize w.heap.size = zz at *
 have Z1 := bO (zr p) (zr q);have Z2 := bL (zr p) (zr q);refine reg [gT p q, gT (aB p q) (aA p q), .any] [.s 2 1] [] [] gs0 (fun Z => ?_) fun v1 w1 X gs1 => ?_
 ·refine JW.ld 0 Z $ JW.ca (fun Y => nT _ _ _ _ (Y.d 0) (ha1 HB (by omega))) Z $ JC.s6 (n := 0) rfl fRs Z $ Ja.Steps.nil
 clear X gs0;go_upto_region 2 with fail
 refine reg [eP zz 0, gR (aB p q), .eq (.string (ofK (aX (aB p q)))), eP zz 3, gR (aA p q), .eq (.string (ofK (aX (aA p q)))), .eq (.agg #[.string (ofK (aX (aB p q))), .string (ofK (aX (aA p q)))]), .any] [.k, .s 7 6] [] [] gs1 (fun Z => ?_) fun v2 w2 X gs2 => ?_
 ·refine JC.p Z $ JW.pt 0 0 Z $ JW.ca (fun Y => (aCr _ _ _ (Y.d 1) (ha2 Z1 HB (by omega))).mono (by rintro e W9 ⟨t, rfl, ht, hq9⟩; exact ⟨(.string t), rfl, (congrArg Value.string (xZ ht)), hq9⟩)) Z $ JC.p Z $ JW.pt 0 3 Z $ JW.ca (fun Y => (aCr _ _ _ (Y.d 4) (ha2 Z2 HB (by omega))).mono (by rintro e W9 ⟨t, rfl, ht, hq9⟩; exact ⟨(.string t), rfl, (congrArg Value.string (xZ ht)), hq9⟩)) Z $ JC.p Z $ JC.s2 (n := 1) rfl aIr Z $ Ja.Steps.nil
 clear X gs1;go_wp2_with fail
 exact eQ 1 gs2 (hR := fun h hq => by exact ⟨congrArg Ending.returned h, hq⟩)
theorem aEd (a : Value) (p q : Rat) (w : World) (ha : Ns w a p q) (hB : sz p + sz q ≤ 100000000) :
  Calls Tryz.prog 27 #[a] w fun e w' => e = .returned (.agg #[.string (ofK (aX (aB p q))), .string (ofK (aX (aA p q)))]) ∧ Q w w' := by
 obtain ⟨a0, a1, a2, a3, a4, a5, rfl, jA⟩ := fmS ha;obtain ⟨w0, hW, hG0, hA0, hT0⟩ := cK w 30 [a0, a1, a2, a3, a4, a5] 42 [.string ⟨#[]⟩, .string ⟨#[]⟩];have gs0 := yW (sbS hA0 jA ha (sbZ shG hT0 (St.nil hG0)));clear hG0 hA0 hT0;go_enter Tryz.func27, Tryz.ntmps27
 go_upto_region 1 with fail
 clear hW;generalize w.heap.size = zz at *
 have Z1 : Hid (sz p ≤ 100000000) := yW (by omega);have Z2 : Hid (sz q ≤ 100000000) := yW (by omega);clear hB;have Z3 := bO Z1 Z2;have Z4 := bL Z1 Z2;refine reg [gS p q, gS (aB p q) (aA p q), .any] [.s 2 1] [] [] gs0 (fun Z => ?_) fun v1 w1 X gs1 => ?_
 ·refine JW.ld 0 Z $ JW.ca (fun Y => dC _ _ _ _ (Y.d 0) (bb2 Z1 Z2)) Z $ JC.s6 (n := 0) rfl aL Z $ Ja.Steps.nil
 clear X gs0;go_upto_region 2 with fail
 refine reg [eP zz 0, gN (aB p q), .eq (.string (ofK (aX (aB p q)))), eP zz 3, gN (aA p q), .eq (.string (ofK (aX (aA p q)))), .eq (.agg #[.string (ofK (aX (aB p q))), .string (ofK (aX (aA p q)))]), .any] [.k, .s 7 6] [] [] gs1 (fun Z => ?_) fun v2 w2 X gs2 => ?_
 ·refine JC.p Z $ JW.pt 0 0 Z $ JW.ca (fun Y => (nR _ _ _ (Y.d 1) (by have h9 := Z3.out; omega)).mono (by rintro e W9 ⟨t, rfl, ht, hq9⟩; exact ⟨(.string t), rfl, (congrArg Value.string (xZ ht)), hq9⟩)) Z $ JC.p Z $ JW.pt 0 3 Z $ JW.ca (fun Y => (nR _ _ _ (Y.d 4) (by have h9 := Z4.out; omega)).mono (by rintro e W9 ⟨t, rfl, ht, hq9⟩; exact ⟨(.string t), rfl, (congrArg Value.string (xZ ht)), hq9⟩)) Z $ JC.p Z $ JC.s2 (n := 1) rfl aIr Z $ Ja.Steps.nil
 clear X gs1;go_wp2_with fail
 exact eQ 1 gs2 (hR := fun h hq => by exact ⟨congrArg Ending.returned h, hq⟩)
theorem aHS (x : Value) (p : Rat) (w : World) (hx : Rq w x p) (hB : 1000 * sz p + 10000 ≤ LIM) :
  Calls Tryz.prog 123 #[x] w fun e w' => ∃ r, e = .returned r ∧ Rq w' r (((p.floor : Int) : Rat)) ∧ Q w w' := by
 obtain ⟨x0, x1, x2, rfl, jX⟩ := fmR hx;obtain ⟨w0, hW, hG0, hX0, hR0⟩ := cK w 33 [x0, x1, x2] 33 [.int .i64 0, .slice none 0 0, .slice none 0 0];have HB := yW hB; clear hB;have gs0 := yW (sbR hX0 jX hx (sbZ shR hR0 (St.nil hG0)));clear hG0 hX0 hR0;go_enter Tryz.func123, Tryz.ntmps123
 go_upto_region 1 with fail
 clear hW;generalize w.heap.size = zz at *
 by_cases hZ : p = 0
 ·have HZ := yW hZ; clear hZ;refine reg [eP zz 0, eI (sn p), eB true] [] [] [] gs0 (fun Z => ?_) fun v1 w1 X gs1 => ?_
  ·refine JC.p Z $ JW.ce 0 0 rn0 Z $ JC.u (.bool ((sn p) == (0))) (congrArg Value.bool (beq_iff_eq.2 ((aM.2 HZ.out)))) Z $ Ja.Steps.nil
  rw [X.out.e 2 rfl rfl];clear X gs0;go_upto_region 2 with fail
  refine reg [gR p, .any] [.k, .s 1 0] [] [] gs1 (fun Z => ?_) fun v2 w2 X gs2 => ?_
  ·refine JW.ld 0 Z $ JC.s3 (n := 1) rfl fRn Z $ Ja.Steps.nil
  clear X gs1;go_wp2_with fail
  exact eQ 1 gs2 (hR := fun h hq => by exact ⟨_, rfl, (by rw [show ((p.floor : Int) : Rat) = p by rw [HZ.out]; rfl]; exact h), hq⟩)
 ·have HZ := yW hZ; clear hZ;refine reg [eP zz 0, eI (sn p), eB false] [] [] [] gs0 (fun Z => ?_) fun v1 w1 X gs1 => ?_
  ·refine JC.p Z $ JW.ce 0 0 rn0 Z $ JC.u (.bool ((sn p) == (0))) (congrArg Value.bool (beq_eq_false_iff_ne.2 (aBk HZ.out))) Z $ Ja.Steps.nil
  rw [X.out.e 2 rfl rfl];clear X gs0;go_upto_region 3 with fail
  have N1 := jJ (zr p);have N2 := kF (zr p);have N3 : Hid (dg B30 (((p).num.natAbs) / ((p).den)) ≤ 3 * sz (p)) := yW (by have h99 := aU aJ (Nat.div_le_self ((p).num.natAbs) ((p).den)); have hb9 := HB.out; have h50 := N1.out; omega);have N4 : Hid (dg B30 (((p).num.natAbs) % ((p).den)) ≤ 3 * sz (p)) := yW (by have h99 := aU aJ (Nat.mod_le ((p).num.natAbs) ((p).den)); have hb9 := HB.out; have h50 := N1.out; omega);refine reg [eP zz 1, .gen (aF ((p).num.natAbs)), eP zz 2, .gen (aF ((p).den)), .gen (pT2 (aF (((p).num.natAbs) / ((p).den))) (aF (((p).num.natAbs) % ((p).den)))), .gen (pT2 (aF (((p).num.natAbs) / ((p).den))) (aF (((p).num.natAbs) % ((p).den)))), .gen (aF (((p).num.natAbs) / ((p).den))), .gen (aF (((p).num.natAbs) % ((p).den))), .gen (aF (((p).num.natAbs) / ((p).den))), .gen (aF (((p).num.natAbs) % ((p).den)))] [] [] [8, 9] gs1 (fun Z => ?_) fun v2 w2 X gs2 => ?_
  ·refine JC.p Z $ JW.ce 0 1 rn1 Z $ JC.p Z $ JW.ce 0 2 (rn2 HZ.out) Z $ JW.ca (fun Y => (qL _ _ ((p).num.natAbs) ((p).den) _ (Y.d 1) (Y.d 3) (den_nz p) (ha2 N1 HB (by omega)) (ha2 N2 HB (by omega))).mono (by rintro e W9 ⟨u9, v9, rfl, hu9, hv9, hq9⟩; exact ⟨(.tuple #[u9, v9]), rfl, ⟨_, _, rfl, hu9, hv9⟩, hq9⟩)) Z $ JC.m 4 Z $ JW.x2 5 0 Z $ JW.x2 5 1 Z $ JC.m 6 Z $ JC.m 7 Z $ Ja.Steps.nil
  clear X gs1;go_upto_region 4 with fail
  by_cases hN : p < 0
  ·have HN := yW hN; clear hN;by_cases hM : ((p).num.natAbs) % ((p).den) = 0
   ·have HM := yW hM; clear hM;refine reg [eP zz 0, eI (sn p), eB true, eB true, .gen (aF (((p).num.natAbs) % ((p).den))), eI (((dg B30 (((p).num.natAbs) % ((p).den)) : Nat) : Int)), eB false, eB false] [] [] [] gs2 (fun Z => ?_) fun v3 w3 X gs3 => ?_
    ·refine JC.p Z $ JW.ce 0 0 rn0 Z $ JC.u (.bool (decide ((sn p) < (0)))) (congrArg Value.bool (decide_eq_true (show ((sn p : Int) < 0) from aDs HN.out))) Z $ JC.p Z $ JC.kp 3 _ rfl rfl Z $ ?_;refine JC.o Z ?_ ?_
     ·intro L vals W hL hJ hd K hK;have d4 : Nr W (vals 4) (((p).num.natAbs) % ((p).den)) := hd 4 (by kernel_rfl);generalize vals 4 = u4 at d4 hK ⊢;obtain ⟨A9, c9, xs9, rfl, hc9, rx9, wx9, e9⟩ := d4;have hl9 := wx9.len aJ;rw [e9] at hl9;have HL9 := yW hl9; clear hl9;go_simp
      exact hK.out (.int .i64 ((xs9.length : Int))) _ _ (by kernel_rfl) (by rw [HL9.out]; rfl) (Q.refl _)
     refine JC.u (.bool (decide ((0) < (((dg B30 (((p).num.natAbs) % ((p).den)) : Nat) : Int))))) (congrArg Value.bool (decide_eq_false (show ¬ ((((dg B30 (((p).num.natAbs) % ((p).den)) : Nat) : Int) : Int) > 0) from by rw [HM.out, aT]; decide))) Z $ JC.p Z $ Ja.Steps.nil
    rw [X.out.e 7 rfl rfl];clear X gs2;go_upto_region 6 with fail
    have N5 := zQ;refine reg [eP zz 0, eI (sn p), .gen (aF (((p).num.natAbs) / ((p).den))), .gen (aF 1), gR (((p.floor : Int) : Rat)), .any] [.k, .s 5 4] [] [] gs3 (fun Z => ?_) fun v4 w4 X gs4 => ?_
    ·refine JC.p Z $ JW.ce 0 0 rn0 Z $ JC.kp 2 _ rfl rfl Z $ JW.ca (fun Y => (oG _).mono mo4) Z $ JW.ca (fun Y => eG (sn p) _ _ (((p).num.natAbs) / ((p).den)) 1 (((p.floor : Int) : Rat)) _ (Y.d 2) (Y.d 3) (fun _ => Nat.one_pos) (sn3 p) (aCU HN.out HM.out) (fun h9 => by omega) (ha2 N3 HB (by omega)) (ha2 N5 HB (by omega))) Z $ JC.s3 (n := 1) rfl fRn Z $ Ja.Steps.nil
    clear X gs3;go_wp2_with fail
    exact bT 1 gs4
   ·have HM := yW hM; clear hM;refine reg [eP zz 0, eI (sn p), eB true, eB true, .gen (aF (((p).num.natAbs) % ((p).den))), eI (((dg B30 (((p).num.natAbs) % ((p).den)) : Nat) : Int)), eB true, eB true] [] [] [] gs2 (fun Z => ?_) fun v3 w3 X gs3 => ?_
    ·refine JC.p Z $ JW.ce 0 0 rn0 Z $ JC.u (.bool (decide ((sn p) < (0)))) (congrArg Value.bool (decide_eq_true (show ((sn p : Int) < 0) from aDs HN.out))) Z $ JC.p Z $ JC.kp 3 _ rfl rfl Z $ ?_;refine JC.o Z ?_ ?_
     ·intro L vals W hL hJ hd K hK;have d4 : Nr W (vals 4) (((p).num.natAbs) % ((p).den)) := hd 4 (by kernel_rfl);generalize vals 4 = u4 at d4 hK ⊢;obtain ⟨A9, c9, xs9, rfl, hc9, rx9, wx9, e9⟩ := d4;have hl9 := wx9.len aJ;rw [e9] at hl9;have HL9 := yW hl9; clear hl9;go_simp
      exact hK.out (.int .i64 ((xs9.length : Int))) _ _ (by kernel_rfl) (by rw [HL9.out]; rfl) (Q.refl _)
     refine JC.u (.bool (decide ((0) < (((dg B30 (((p).num.natAbs) % ((p).den)) : Nat) : Int))))) (congrArg Value.bool (decide_eq_true (show ((((dg B30 (((p).num.natAbs) % ((p).den)) : Nat) : Int) : Int) > 0) from by have := aHP HM.out; omega))) Z $ JC.p Z $ Ja.Steps.nil
    rw [X.out.e 7 rfl rfl];clear X gs2;go_wp2_with fail
    refine (oG _).mono ?_;rintro e w4 ⟨o9, rfl, ho9, hq4, -⟩;have gs4 := yW (gs3.out.mv hq4); clear gs3;go_wp2_with fail
    have N5 := zQ;have N6 := aAw N3 N5;refine (pV _ _ (((p).num.natAbs) / ((p).den)) 1 _ (St.vv gs4 0) ho9 (ha2 N3 HB (by omega)) (ha2 N5 HB (by omega))).mono ?_;rintro e w5 ⟨q9, rfl, vq9_5, hq5, -⟩;have gs5 := yW (gs4.out.mv hq5); clear gs4;go_upto_region 6 with fail
    have gs5 := yW (St.kp (.gen (aF ((((p).num.natAbs) / ((p).den)) + (1)))) vq9_5 gs5.out);refine reg [eP zz 0, eI (sn p), .gen (aF ((((p).num.natAbs) / ((p).den)) + (1))), .gen (aF 1), gR (((p.floor : Int) : Rat)), .any] [.k, .s 5 4] [] [] gs5 (fun Z => ?_) fun v6 w6 X gs6 => ?_
    ·refine JC.p Z $ JW.ce 0 0 rn0 Z $ JC.kp 4 _ rfl rfl Z $ JW.ca (fun Y => (oG _).mono mo4) Z $ JW.ca (fun Y => eG (sn p) _ _ ((((p).num.natAbs) / ((p).den)) + (1)) 1 (((p.floor : Int) : Rat)) _ (Y.d 2) (Y.d 3) (fun _ => Nat.one_pos) (sn3 p) (aCT HN.out HM.out) (fun h9 => by omega) (ha2 N6 HB (by omega)) (ha2 N5 HB (by omega))) Z $ JC.s3 (n := 1) rfl fRn Z $ Ja.Steps.nil
    clear X gs5;go_wp2_with fail
    exact bT 1 gs6
  ·have HN := yW hN; clear hN;refine reg [eP zz 0, eI (sn p), eB false, eB false, .no, .no, .no, eB false] [] [] [] gs2 (fun Z => ?_) fun v3 w3 X gs3 => ?_
   ·refine JC.p Z $ JW.ce 0 0 rn0 Z $ JC.u (.bool (decide ((sn p) < (0)))) (congrArg Value.bool (decide_eq_false (show ¬ ((sn p : Int) < 0) from aHQ HN.out))) Z $ JC.p Z $ JC.n Z $ JC.n Z $ JC.n Z $ JC.p Z $ Ja.Steps.nil
   rw [X.out.e 7 rfl rfl];clear X gs2;go_upto_region 6 with fail
   have N5 := zQ;refine reg [eP zz 0, eI (sn p), .gen (aF (((p).num.natAbs) / ((p).den))), .gen (aF 1), gR (((p.floor : Int) : Rat)), .any] [.k, .s 5 4] [] [] gs3 (fun Z => ?_) fun v4 w4 X gs4 => ?_
   ·refine JC.p Z $ JW.ce 0 0 rn0 Z $ JC.kp 2 _ rfl rfl Z $ JW.ca (fun Y => (oG _).mono mo4) Z $ JW.ca (fun Y => eG (sn p) _ _ (((p).num.natAbs) / ((p).den)) 1 (((p.floor : Int) : Rat)) _ (Y.d 2) (Y.d 3) (fun _ => Nat.one_pos) (sn3 p) (aCV (by have h1 := HN.out; have h2 := HZ.out; grind)) (fun h9 => by omega) (ha2 N3 HB (by omega)) (ha2 N5 HB (by omega))) Z $ JC.s3 (n := 1) rfl fRn Z $ Ja.Steps.nil
   clear X gs3;go_wp2_with fail
   exact bT 1 gs4
theorem aFD (x : Value) (p : Rat) (z : Int) (w : World) (hx : Rq w x p) (hB : 100000 * sz p + 3000000 ≤ LIM) :
  Calls Tryz.prog 73 #[x, .int .i64 z] w fun e w' => ∃ r, e = .returned r ∧ Rq w' r (dn (bG z) p) ∧ Q w w' := by
 obtain ⟨x0, x1, x2, rfl, jX⟩ := fmR hx;obtain ⟨w0, hW, hG0, hX0, hR0⟩ := cK w 33 [x0, x1, x2] 33 [.int .i64 0, .slice none 0 0, .slice none 0 0];have HB := yW hB; clear hB;have gs0 := yW (sbR hX0 jX hx (sbZ shR hR0 (St.nil hG0)));clear hG0 hX0 hR0;go_enter Tryz.func73, Tryz.ntmps73
 go_upto_region 1 with fail
 clear hW;generalize w.heap.size = zz at *
 by_cases hZ : p = 0
 ·have HZ := yW hZ; clear hZ;refine reg [eP zz 0, eI (sn p), eB true] [] [] [] gs0 (fun Z => ?_) fun v1 w1 X gs1 => ?_
  ·refine JC.p Z $ JW.ce 0 0 rn0 Z $ JC.u (.bool ((sn p) == (0))) (congrArg Value.bool (beq_iff_eq.2 ((aM.2 HZ.out)))) Z $ Ja.Steps.nil
  rw [X.out.e 2 rfl rfl];clear X gs0;go_upto_region 2 with fail
  refine reg [gR p, .any] [.k, .s 1 0] [] [] gs1 (fun Z => ?_) fun v2 w2 X gs2 => ?_
  ·refine JW.ld 0 Z $ JC.s3 (n := 1) rfl fRn Z $ Ja.Steps.nil
  clear X gs1;go_wp2_with fail
  exact eQ 1 gs2 (hR := fun h hq => by exact ⟨_, rfl, (by rw [show dn (bG z) p = p by rw [HZ.out, vY]]; exact h), hq⟩)
 ·have HZ := yW hZ; clear hZ;obtain ⟨b, Hb⟩ : ∃ b : Nat, Hid (bG z = b ∧ 0 < b ∧ b ≤ 2000 ∧ min (max z 1) 2000 = (b : Int)) := ⟨bG z, yW ⟨rfl, (gD z).1, (gD z).2, by unfold bG; split <;> (try split) <;> omega⟩⟩
  obtain ⟨k, Hk⟩ : ∃ k : Int, Hid (lg (p).num.natAbs (p).den - (b : Int) + 1 = k) := ⟨_, yW rfl⟩
  have Hkb : Hid (k.natAbs ≤ 64 * sz p + 2001 ∧ (lg (p).num.natAbs (p).den - (b : Int)).natAbs ≤ 64 * sz p + 2001) := yW (by have h1 := aGG p; have h2 := Hb.out; have h3 := Hk.out; omega);refine reg [eP zz 0, eI (sn p), eB false] [] [] [] gs0 (fun Z => ?_) fun v1 w1 X gs1 => ?_
  ·refine JC.p Z $ JW.ce 0 0 rn0 Z $ JC.u (.bool ((sn p) == (0))) (congrArg Value.bool (beq_eq_false_iff_ne.2 (aBk HZ.out))) Z $ Ja.Steps.nil
  rw [X.out.e 2 rfl rfl];clear X gs0;go_upto_region 3 with fail
  refine reg [gR p, eI (lg (p).num.natAbs (p).den), eI z, eI (max z 1), eI ((b : Int)), eI (lg (p).num.natAbs (p).den - (b : Int)), eI k, eI k] [] [] [] gs1 (fun Z => ?_) fun v2 w2 X gs2 => ?_
  ·refine JW.ld 0 Z $ JW.ca (fun Y => (aJl _ p _ (Y.d 0) HZ.out (ha1 HB (by omega))).mono mo0) Z $ JC.p Z $ ?_;refine JC.o Z ?_ ?_
   ·intro L vals W hL hJ hd K hK;have d2 : vals 2 = .int .i64 (z) := hd 2 (by kernel_rfl);generalize vals 2 = u2 at d2 hK ⊢;subst d2;go_simp
    exact hK.out (.int .i64 (max z 1)) _ _ (by kernel_rfl) rfl (Q.refl _)
   refine JC.o Z ?_ ?_
   ·intro L vals W hL hJ hd K hK;have d3 : vals 3 = .int .i64 (max z 1) := hd 3 (by kernel_rfl);generalize vals 3 = u3 at d3 hK ⊢;subst d3;go_simp
    rw [show min (max z 1) 2000 = (b : Int) from Hb.out.2.2.2];exact hK.out (.int .i64 ((b : Int))) _ _ (by kernel_rfl) rfl (Q.refl _)
   refine JC.u (.int .i64 (IntKind.i64.wrap ((lg (p).num.natAbs (p).den) - ((b : Int))))) (by exact congrArg (Value.int .i64) (kN (by have := Hkb.out; have := HB.out; rw [aC] at *; omega) (by have := Hkb.out; have := HB.out; rw [aC] at *; omega))) Z $ JC.u (.int .i64 (IntKind.i64.wrap ((lg (p).num.natAbs (p).den - (b : Int)) + (1)))) (by exact congrArg (Value.int .i64) (show IntKind.i64.wrap ((lg (p).num.natAbs (p).den - (b : Int)) + 1) = k from by rw [Hk.out]; exact kN (by have := Hkb.out; have := HB.out; rw [aC] at *; omega) (by have := Hkb.out; have := HB.out; rw [aC] at *; omega))) Z $ JC.p Z $ Ja.Steps.nil
  rw [X.out.e 7 rfl rfl];clear X gs1;go_upto_region 4 with fail
  have B1 : Hid (1000 * sz (p) + 200 * (-k).natAbs + 10000 ≤ LIM) := yW (by have hk9 := Hkb.out.1; have hb9 := HB.out; rw [aC] at *; omega);have Z2 : Hid (sz ((p) * pw (-k)) ≤ 65 * sz (p) + 2003) := yW (by have h99 := aCu (p) (-k); have hk9 := Hkb.out.1; have hb9 := HB.out; omega);have Z3 : Hid (sz (((((p) * pw (-k)).floor : Int) : Rat)) ≤ 65 * sz (p) + 2006) := oz2 (aGI ((p) * pw (-k))) Z2 HB (by omega);have B4 : Hid (1000 * sz (((((p) * pw (-k)).floor : Int) : Rat)) + 200 * (k).natAbs + 10000 ≤ LIM) := yW (by have hk9 := Hkb.out.1; have h0 := Z3.out; have hb9 := HB.out; rw [aC] at *; omega);have Z5 : Hid (sz ((((((p) * pw (-k)).floor : Int) : Rat)) * pw (k)) ≤ 129 * sz (p) + 4009) := yW (by have h99 := aCu (((((p) * pw (-k)).floor : Int) : Rat)) (k); have hk9 := Hkb.out.1; have h0 := Z3.out; have hb9 := HB.out; omega);refine reg [gR p, eI k, eI (-k), gR ((p) * pw (-k)), gR (((((p) * pw (-k)).floor : Int) : Rat)), eI k, gR ((((((p) * pw (-k)).floor : Int) : Rat)) * pw k), .any] [.k, .s 7 6] [] [] gs2 (fun Z => ?_) fun v3 w3 X gs3 => ?_
  ·refine JW.ld 0 Z $ JC.p Z $ JC.u (.int .i64 (IntKind.i64.wrap (0 - (k)))) (by exact congrArg (Value.int .i64) (show IntKind.i64.wrap (0 - (k)) = -k from by rw [Int.zero_sub]; exact kN (by have := Hkb.out; have := HB.out; rw [aC] at *; omega) (by have := Hkb.out; have := HB.out; rw [aC] at *; omega))) Z $ JW.ca (fun Y => aAz _ (p) (-k) _ (Y.d 0) B1.out) Z $ JW.ca (fun Y => aHS _ ((p) * pw (-k)) _ (Y.d 3) (ha2 Z2 HB (by omega))) Z $ JC.p Z $ JW.ca (fun Y => aAz _ (((((p) * pw (-k)).floor : Int) : Rat)) (k) _ (Y.d 4) B4.out) Z $ JC.s3 (n := 1) rfl fRn Z $ Ja.Steps.nil
  clear X gs2;go_wp2_with fail
  exact eQ 1 gs3 (hR := fun h hq => by exact ⟨_, rfl, (by rw [← aJk (b := bG z) (k := k) HZ.out (gD z).1 (by rw [Hb.out.1]; exact Hk.out.symm)]; exact h), hq⟩)
theorem aJy (x : Value) (p : Rat) (z : Int) (w : World) (hx : Rq w x p) (hB : 100000 * sz p + 3000000 ≤ LIM) :
  Calls Tryz.prog 74 #[x, .int .i64 z] w fun e w' => ∃ r, e = .returned r ∧ Rq w' r (up (bG z) p) ∧ Q w w' := by
 obtain ⟨x0, x1, x2, rfl, jX⟩ := fmR hx;obtain ⟨w0, hW, hG0, hX0, hR0⟩ := cK w 33 [x0, x1, x2] 33 [.int .i64 0, .slice none 0 0, .slice none 0 0];have HB := yW hB; clear hB;have gs0 := yW (sbR hX0 jX hx (sbZ shR hR0 (St.nil hG0)));clear hG0 hX0 hR0;go_enter Tryz.func74, Tryz.ntmps74
 go_upto_region 1 with fail
 clear hW;generalize w.heap.size = zz at *
 have Z1 := pJ (zr p);have Z2 : Hid (sz (dn (bG (z)) (-(p))) ≤ 64 * sz (p) + 4006) := yW (by have h99 := (tO (b := bG (z)) (-(p)) (gD _).1).1; have h98 := (gD (z)).2; have h0 := Z1.out; have hb9 := HB.out; omega);have Z3 := pJ Z2;refine reg [gR p, gR (-(p)), eI z, gR (dn (bG z) (-(p))), gR (-(dn (bG z) (-(p)))), .any] [.k, .s 5 4] [] [] gs0 (fun Z => ?_) fun v1 w1 X gs1 => ?_
 ·refine JW.ld 0 Z $ JW.ca (fun Y => zS _ _ _ (Y.d 0)) Z $ JC.p Z $ JW.ca (fun Y => aFD _ (-(p)) z _ (Y.d 1) (ha2 Z1 HB (by omega))) Z $ JW.ca (fun Y => zS _ _ _ (Y.d 3)) Z $ JC.s3 (n := 1) rfl fRn Z $ Ja.Steps.nil
 clear X gs0;go_wp2_with fail
 exact bT 1 gs1
theorem aFE (a : Value) (p q : Rat) (z : Int) (w : World) (ha : Rs w a p q) (hB : 200000 * (sz p + sz q) + 4000000 ≤ LIM) :
  Calls Tryz.prog 26 #[a, .int .i64 z] w fun e w' => ∃ r, e = .returned r ∧ Rs w' r (dn (bG z) (aB p q)) (up (bG z) (aA p q)) ∧ Q w w' := by
 obtain ⟨a0, a1, a2, a3, a4, a5, rfl, jA⟩ := fmT ha;obtain ⟨w0, hW, hG0, hA0, hT0⟩ := cK w 35 [a0, a1, a2, a3, a4, a5] 35 [.int .i64 0, .slice none 0 0, .slice none 0 0, .int .i64 0, .slice none 0 0, .slice none 0 0];have HB := yW hB; clear hB;have gs0 := yW (sbT hA0 jA ha (sbZ shT hT0 (St.nil hG0)));clear hG0 hA0 hT0;go_enter Tryz.func26, Tryz.ntmps26
 go_upto_region 1 with fail
 clear hW;generalize w.heap.size = zz at *
 have Z1 := bO (zr p) (zr q);have Z2 := bL (zr p) (zr q);refine reg [gT p q, gT (aB p q) (aA p q), .any] [.s 2 1] [] [] gs0 (fun Z => ?_) fun v1 w1 X gs1 => ?_
 ·refine JW.ld 0 Z $ JW.ca (fun Y => nT _ _ _ _ (Y.d 0) (ha1 HB (by omega))) Z $ JC.s6 (n := 0) rfl fRs Z $ Ja.Steps.nil
 clear X gs0;go_upto_region 2 with fail
 refine reg [eP zz 0, gR (aB p q), eI z, gR (dn (bG z) (aB p q)), eP zz 3, gR (aA p q), eI z, gR (up (bG z) (aA p q)), gT (dn (bG z) (aB p q)) (up (bG z) (aA p q)), .any] [.k, .s 9 8] [] [] gs1 (fun Z => ?_) fun v2 w2 X gs2 => ?_
 ·refine JC.p Z $ JW.pt 0 0 Z $ JC.p Z $ JW.ca (fun Y => aFD _ (aB p q) z _ (Y.d 1) (ha2 Z1 HB (by omega))) Z $ JC.p Z $ JW.pt 0 3 Z $ JC.p Z $ JW.ca (fun Y => aJy _ (aA p q) z _ (Y.d 5) (ha2 Z2 HB (by omega))) Z $ JC.bt 3 7 Z $ JC.s6 (n := 1) rfl fRs Z $ Ja.Steps.nil
 clear X gs1;go_wp2_with fail
 exact bT 1 gs2
def iR (a b c d : Rat) : Bool × Rat × Rat := if aA a c ≤ aB b d then (true, aA a c, aB b d) else (false, 0, 0)
theorem aEe (a b : Value) (p q pb qb : Rat) (w : World) (ha : Rs w a p q) (hb : Rs w b pb qb) (hB : 5000 * (sz p + sz q + sz pb + sz qb) + 40000 ≤ LIM) :
  Calls Tryz.prog 12 #[a, b] w fun e w' => ∃ r, e = .returned (.tuple #[r, .bool (iR (aB p q) (aA p q) (aB pb qb) (aA pb qb)).1]) ∧ Rs w' r (iR (aB p q) (aA p q) (aB pb qb) (aA pb qb)).2.1 (iR (aB p q) (aA p q) (aB pb qb) (aA pb qb)).2.2 ∧ Q w w' := by
 obtain ⟨a0, a1, a2, a3, a4, a5, rfl, jA⟩ := fmT ha;obtain ⟨b0, b1, b2, b3, b4, b5, rfl, jB⟩ := fmT hb;obtain ⟨w0, hW, hG0, hA0, hB0, hT0⟩ := gQ w 35 [a0, a1, a2, a3, a4, a5] 35 [b0, b1, b2, b3, b4, b5] 35 [.int .i64 0, .slice none 0 0, .slice none 0 0, .int .i64 0, .slice none 0 0, .slice none 0 0];have HB := yW hB; clear hB;have gs0 := yW (sbT hA0 jA ha (sbT hB0 jB hb (sbZ shT hT0 (St.nil hG0))));clear hG0 hA0 hB0 hT0;go_enter Tryz.func12, Tryz.ntmps12
 go_upto_region 1 with fail
 clear hW;generalize w.heap.size = zz at *
 have Z1 := bO (zr p) (zr q);have Z2 := bL (zr p) (zr q);have Z3 := bO (zr pb) (zr qb);have Z4 := bL (zr pb) (zr qb);refine reg [gT p q, gT (aB p q) (aA p q), gT pb qb, gT (aB pb qb) (aA pb qb), .any, .any] [.s 4 1, .s 5 3] [] [] gs0 (fun Z => ?_) fun v1 w1 X gs1 => ?_
 ·refine JW.ld 0 Z $ JW.ca (fun Y => nT _ _ _ _ (Y.d 0) (ha1 HB (by omega))) Z $ JW.ld 1 Z $ JW.ca (fun Y => nT _ _ _ _ (Y.d 2) (ha1 HB (by omega))) Z $ JC.s6 (n := 0) rfl fRs Z $ JC.s6 (n := 1) rfl fRs Z $ Ja.Steps.nil
 clear X gs0;go_upto_region 2 with fail
 have Z5 := bL Z1 Z3;have Z6 := bO Z2 Z4;refine reg [eP zz 0, gR (aB p q), eP ((zz + 1)) 0, gR (aB pb qb), gR (aA (aB p q) (aB pb qb)), eP zz 3, gR (aA p q), eP ((zz + 1)) 3, gR (aA pb qb), gR (aB (aA p q) (aA pb qb)), gT (aA (aB p q) (aB pb qb)) (aB (aA p q) (aA pb qb)), .any, .any] [] [⟨11, 35, [.i, .s, .s, .i, .s, .s], (zR ++ zR), .s 12 10⟩] [] gs1 (fun Z => ?_) fun v2 w2 X gs2 => ?_
 ·refine JC.p Z $ JW.pt 0 0 Z $ JC.p Z $ JW.pt 1 0 Z $ JW.ca (fun Y => qR _ _ _ _ _ (Y.d 1) (Y.d 3) (ha3 Z1 Z3 HB (by omega))) Z $ JC.p Z $ JW.pt 0 3 Z $ JC.p Z $ JW.pt 1 3 Z $ JW.ca (fun Y => qQ _ _ _ _ _ (Y.d 6) (Y.d 8) (ha3 Z2 Z4 HB (by omega))) Z $ JC.bt 4 9 Z $ JC.al (n := 3) shT Z $ JC.s6 (n := 3) rfl fRs Z $ Ja.Steps.nil
 rw [X.out.f 11 rfl];clear X gs1;go_upto_region 3 with fail
 by_cases hC : aA (aB p q) (aB pb qb) ≤ aB (aA p q) (aA pb qb)
 ·have HC := yW hC; clear hC;have HR : Hid (rc (aA (aB p q) (aB pb qb)) (aB (aA p q) (aA pb qb)) ≤ 0) := yW ((eU _ _).2 HC.out); have HM : Hid (iR (aB p q) (aA p q) (aB pb qb) (aA pb qb) = (true, aA (aB p q) (aB pb qb), aB (aA p q) (aA pb qb))) := yW (if_pos HC.out);refine reg [eP ((adr (v2 11))) 0, gR (aA (aB p q) (aB pb qb)), eP ((adr (v2 11))) 3, gR (aB (aA p q) (aA pb qb)), eI (rc (aA (aB p q) (aB pb qb)) (aB (aA p q) (aA pb qb))), eB false] [] [] [] gs2 (fun Z => ?_) fun v3 w3 X gs3 => ?_
  ·refine JC.p Z $ JW.pt 3 0 Z $ JC.p Z $ JW.pt 3 3 Z $ JW.ca (fun Y => (kM _ _ _ _ _ (Y.d 1) (Y.d 3) (ha3 Z5 Z6 HB (by omega))).mono mo0) Z $ JC.u (.bool (decide ((0) < (rc (aA (aB p q) (aB pb qb)) (aB (aA p q) (aA pb qb)))))) (congrArg Value.bool (decide_eq_false (show ¬ ((rc (aA (aB p q) (aB pb qb)) (aB (aA p q) (aA pb qb)) : Int) > 0) from by have h9 := HR.out; omega))) Z $ Ja.Steps.nil
  rw [X.out.e 5 rfl rfl];clear X gs2;go_upto_region 5 with fail
  refine reg [gT (aA (aB p q) (aB pb qb)) (aB (aA p q) (aA pb qb)), .any, eB true] [.k, .k, .s 1 0] [] [] gs3 (fun Z => ?_) fun v4 w4 X gs4 => ?_
  ·refine JW.ld 3 Z $ JC.s6 (n := 2) rfl fRs Z $ JC.p Z $ Ja.Steps.nil
  rw [X.out.e 2 rfl rfl];clear X gs3;go_wp2_with fail
  rw [HM.out];exact iD (u := .bool true) 2 gs4 (hR := fun h hq => by exact ⟨_, rfl, h, hq⟩)
 ·have HC := yW hC; clear hC;have HR : Hid (0 < rc (aA (aB p q) (aB pb qb)) (aB (aA p q) (aA pb qb))) := yW (by have h9 := mt (eU (aA (aB p q) (aB pb qb)) (aB (aA p q) (aA pb qb))).1 HC.out; omega); have HM : Hid (iR (aB p q) (aA p q) (aB pb qb) (aA pb qb) = (false, 0, 0)) := yW (if_neg HC.out);refine reg [eP ((adr (v2 11))) 0, gR (aA (aB p q) (aB pb qb)), eP ((adr (v2 11))) 3, gR (aB (aA p q) (aA pb qb)), eI (rc (aA (aB p q) (aB pb qb)) (aB (aA p q) (aA pb qb))), eB true] [] [] [] gs2 (fun Z => ?_) fun v3 w3 X gs3 => ?_
  ·refine JC.p Z $ JW.pt 3 0 Z $ JC.p Z $ JW.pt 3 3 Z $ JW.ca (fun Y => (kM _ _ _ _ _ (Y.d 1) (Y.d 3) (ha3 Z5 Z6 HB (by omega))).mono mo0) Z $ JC.u (.bool (decide ((0) < (rc (aA (aB p q) (aB pb qb)) (aB (aA p q) (aA pb qb)))))) (congrArg Value.bool (decide_eq_true (show ((rc (aA (aB p q) (aB pb qb)) (aB (aA p q) (aA pb qb)) : Int) > 0) from by have h9 := HR.out; omega))) Z $ Ja.Steps.nil
  rw [X.out.e 5 rfl rfl];clear X gs2;go_upto_region 4 with fail
  refine reg [gT 0 0, .any, eB false] [.k, .k, .s 1 0] [] [] gs3 (fun Z => ?_) fun v4 w4 X gs4 => ?_
  ·refine JC.o Z ?_ ?_
   ·intro L vals W hL hJ hd K hK;go_simp
    exact hK.out (.agg #[.int .i64 0, .slice none 0 0, .slice none 0 0, .int .i64 0, .slice none 0 0, .slice none 0 0]) _ _ (by kernel_rfl) ⟨_, _, _, _, _, _, _, _, _, _, _, _, _, _, rfl, Rq.none W, Rq.none W⟩ (Q.refl _)
   refine JC.s6 (n := 2) rfl fRs Z $ JC.p Z $ Ja.Steps.nil
  rw [X.out.e 2 rfl rfl];clear X gs3;go_wp2_with fail
  rw [HM.out];exact iD (u := .bool false) 2 gs4 (hR := fun h hq => by exact ⟨_, rfl, h, hq⟩)
def qA (p q x : Rat) : Bool := decide (aB p q ≤ x ∧ x ≤ aA p q)
theorem nU (a y : Value) (p q x : Rat) (w : World) (ha : Rs w a p q) (hx : Rq w y x) (hB : 2000 * (sz p + sz q + sz x) + 20000 ≤ LIM) :
  Calls Tryz.prog 30 #[a, y] w fun e w' => e = .returned (.bool (qA p q x)) ∧ Q w w' := by
 obtain ⟨a0, a1, a2, a3, a4, a5, rfl, jA⟩ := fmT ha;obtain ⟨x0, x1, x2, rfl, jX⟩ := fmR hx;obtain ⟨w0, hW, hG0, hA0, hX0⟩ := cK w 35 [a0, a1, a2, a3, a4, a5] 33 [x0, x1, x2];have HB := yW hB; clear hB;have gs0 := yW (sbT hA0 jA ha (sbR hX0 jX hx (St.nil hG0)));clear hG0 hA0 hX0;go_enter Tryz.func30, Tryz.ntmps30
 go_upto_region 1 with fail
 clear hW;generalize w.heap.size = zz at *
 have Z1 := bO (zr p) (zr q);have Z2 := bL (zr p) (zr q);refine reg [gT p q, gT (aB p q) (aA p q), .any] [.s 2 1] [] [] gs0 (fun Z => ?_) fun v1 w1 X gs1 => ?_
 ·refine JW.ld 0 Z $ JW.ca (fun Y => nT _ _ _ _ (Y.d 0) (ha1 HB (by omega))) Z $ JC.s6 (n := 0) rfl fRs Z $ Ja.Steps.nil
 clear X gs0;go_upto_region 2 with fail
 by_cases hA : aB p q ≤ x
 ·have HA := yW hA; clear hA;by_cases hB2 : x ≤ aA p q
  ·have HB2 := yW hB2; clear hB2;have HM : Hid (qA p q x = true) := yW (decide_eq_true ⟨HA.out, HB2.out⟩);refine reg [eP zz 0, gR (aB p q), gR x, eI (rc (aB p q) x), eB true, eB true, gR x, eP zz 3, gR (aA p q), eI (rc x (aA p q)), eB true, eB true, eB true] [] [] [] gs1 (fun Z => ?_) fun v2 w2 X gs2 => ?_
   ·refine JC.p Z $ JW.pt 0 0 Z $ JW.ld 1 Z $ JW.ca (fun Y => (kM _ _ _ _ _ (Y.d 1) (Y.d 2) (ha2 Z1 HB (by omega))).mono mo0) Z $ JC.u (.bool (decide ((rc (aB p q) x) ≤ (0)))) (congrArg Value.bool (decide_eq_true (show ((rc (aB p q) x : Int) ≤ 0) from (eU _ _).2 HA.out))) Z $ JC.p Z $ JW.ld 1 Z $ JC.p Z $ JW.pt 0 3 Z $ JW.ca (fun Y => (kM _ _ _ _ _ (Y.d 6) (Y.d 8) (ha2 Z2 HB (by omega))).mono mo0) Z $ JC.u (.bool (decide ((rc x (aA p q)) ≤ (0)))) (congrArg Value.bool (decide_eq_true (show ((rc x (aA p q) : Int) ≤ 0) from (eU _ _).2 HB2.out))) Z $ JC.p Z $ JC.p Z $ Ja.Steps.nil
   rw [X.out.e 12 rfl rfl];clear X gs1;go_wp2_with fail
   rw [HM.out];go_ret
   exact ⟨rfl, gs2.out.q⟩
  ·have HB2 := yW hB2; clear hB2;have HM : Hid (qA p q x = false) := yW (decide_eq_false (fun h => HB2.out h.2));refine reg [eP zz 0, gR (aB p q), gR x, eI (rc (aB p q) x), eB true, eB true, gR x, eP zz 3, gR (aA p q), eI (rc x (aA p q)), eB false, eB false, eB false] [] [] [] gs1 (fun Z => ?_) fun v2 w2 X gs2 => ?_
   ·refine JC.p Z $ JW.pt 0 0 Z $ JW.ld 1 Z $ JW.ca (fun Y => (kM _ _ _ _ _ (Y.d 1) (Y.d 2) (ha2 Z1 HB (by omega))).mono mo0) Z $ JC.u (.bool (decide ((rc (aB p q) x) ≤ (0)))) (congrArg Value.bool (decide_eq_true (show ((rc (aB p q) x : Int) ≤ 0) from (eU _ _).2 HA.out))) Z $ JC.p Z $ JW.ld 1 Z $ JC.p Z $ JW.pt 0 3 Z $ JW.ca (fun Y => (kM _ _ _ _ _ (Y.d 6) (Y.d 8) (ha2 Z2 HB (by omega))).mono mo0) Z $ JC.u (.bool (decide ((rc x (aA p q)) ≤ (0)))) (congrArg Value.bool (decide_eq_false (show ¬ ((rc x (aA p q) : Int) ≤ 0) from fun h9 => HB2.out ((eU _ _).1 h9)))) Z $ JC.p Z $ JC.p Z $ Ja.Steps.nil
   rw [X.out.e 12 rfl rfl];clear X gs1;go_wp2_with fail
   rw [HM.out];go_ret
   exact ⟨rfl, gs2.out.q⟩
 ·have HA := yW hA; clear hA;have HM : Hid (qA p q x = false) := yW (decide_eq_false (fun h => HA.out h.1));refine reg [eP zz 0, gR (aB p q), gR x, eI (rc (aB p q) x), eB false, eB false, .no, .no, .no, .no, .no, eB false, eB false] [] [] [] gs1 (fun Z => ?_) fun v2 w2 X gs2 => ?_
  ·refine JC.p Z $ JW.pt 0 0 Z $ JW.ld 1 Z $ JW.ca (fun Y => (kM _ _ _ _ _ (Y.d 1) (Y.d 2) (ha2 Z1 HB (by omega))).mono mo0) Z $ JC.u (.bool (decide ((rc (aB p q) x) ≤ (0)))) (congrArg Value.bool (decide_eq_false (show ¬ ((rc (aB p q) x : Int) ≤ 0) from fun h9 => HA.out ((eU _ _).1 h9)))) Z $ JC.p Z $ JC.n Z $ JC.n Z $ JC.n Z $ JC.n Z $ JC.n Z $ JC.p Z $ JC.p Z $ Ja.Steps.nil
  rw [X.out.e 12 rfl rfl];clear X gs1;go_wp2_with fail
  rw [HM.out];go_ret
  exact ⟨rfl, gs2.out.q⟩
theorem aEf (a b : Value) (p q pb qb : Rat) (w : World) (_ : Tb w) (ha : Ns w a p q) (hb : Ns w b pb qb) (hB : sz p + sz q + sz pb + sz qb ≤ 10000000) :
  Calls Tryz.prog 23 #[a, b] w fun e w' => ∃ r, e = .returned r ∧ Ns w' r (aB (aB p q) (aB pb qb)) (aA (aA p q) (aA pb qb)) ∧ Q w w' := by
 obtain ⟨a0, a1, a2, a3, a4, a5, rfl, jA⟩ := fmS ha;obtain ⟨b0, b1, b2, b3, b4, b5, rfl, jB⟩ := fmS hb;obtain ⟨w0, hW, hG0, hA0, hB0, hT0⟩ := gQ w 30 [a0, a1, a2, a3, a4, a5] 30 [b0, b1, b2, b3, b4, b5] 30 [.bool false, .slice none 0 0, .slice none 0 0, .bool false, .slice none 0 0, .slice none 0 0];have gs0 := yW (sbS hA0 jA ha (sbS hB0 jB hb (sbZ shS hT0 (St.nil hG0))));clear hG0 hA0 hB0 hT0;obtain ⟨Z1, Z2, Z3, Z4⟩ := bz4 hB;have ZS := yW hB; clear hB;go_enter Tryz.func23, Tryz.ntmps23
 go_upto_region 1 with fail
 clear hW;generalize w.heap.size = zz at *
 have Z5 := bO Z1 Z2;have Z6 := bL Z1 Z2;have Z7 := bO Z3 Z4;have Z8 := bL Z3 Z4;refine reg [gS p q, gS (aB p q) (aA p q), gS pb qb, gS (aB pb qb) (aA pb qb), .any, .any] [.s 4 1, .s 5 3] [] [] gs0 (fun Z => ?_) fun v1 w1 X gs1 => ?_
 ·refine JW.ld 0 Z $ JW.ca (fun Y => dC _ _ _ _ (Y.d 0) (bb2 Z1 Z2)) Z $ JW.ld 1 Z $ JW.ca (fun Y => dC _ _ _ _ (Y.d 2) (bb2 Z3 Z4)) Z $ JC.s6 (n := 0) rfl aL Z $ JC.s6 (n := 1) rfl aL Z $ Ja.Steps.nil
 clear X gs0;go_upto_region 2 with fail
 have Z9 := bO Z5 Z7;have Z10 := bL Z6 Z8;refine reg [eP zz 0, gN (aB p q), eP ((zz + 1)) 0, gN (aB pb qb), gN (aB (aB p q) (aB pb qb)), eP zz 3, gN (aA p q), eP ((zz + 1)) 3, gN (aA pb qb), gN (aA (aA p q) (aA pb qb)), gS (aB (aB p q) (aB pb qb)) (aA (aA p q) (aA pb qb)), gS (aB (aB p q) (aB pb qb)) (aA (aA p q) (aA pb qb)), .any] [.k, .k, .s 12 11] [] [] gs1 (fun Z => ?_) fun v2 w2 X gs2 => ?_
 ·refine JC.p Z $ JW.pt 0 0 Z $ JC.p Z $ JW.pt 1 0 Z $ JW.ca (fun Y => xY _ _ _ _ _ (Y.d 1) (Y.d 3) (bb2 Z5 Z7)) Z $ JC.p Z $ JW.pt 0 3 Z $ JC.p Z $ JW.pt 1 3 Z $ JW.ca (fun Y => qK _ _ _ _ _ (Y.d 6) (Y.d 8) (bb2 Z6 Z8)) Z $ JC.bs 4 9 Z $ JW.ca (fun Y => qO _ _ _ _ (Y.d 10) (bs2 Z9 Z10)) Z $ JC.s6 (n := 2) rfl aL Z $ Ja.Steps.nil
 clear X gs1;go_wp2_with fail
 exact bT 2 gs2
theorem aEg (a b : Value) (p q pb qb : Rat) (w : World) (_ : Tb w) (ha : Ns w a p q) (hb : Ns w b pb qb) (hB : sz p + sz q + sz pb + sz qb ≤ 10000000) :
  Calls Tryz.prog 11 #[a, b] w fun e w' => ∃ r, e = .returned (.tuple #[r, .bool (iR (aB p q) (aA p q) (aB pb qb) (aA pb qb)).1]) ∧ Ns w' r (iR (aB p q) (aA p q) (aB pb qb) (aA pb qb)).2.1 (iR (aB p q) (aA p q) (aB pb qb) (aA pb qb)).2.2 ∧ Q w w' := by
 obtain ⟨a0, a1, a2, a3, a4, a5, rfl, jA⟩ := fmS ha;obtain ⟨b0, b1, b2, b3, b4, b5, rfl, jB⟩ := fmS hb;obtain ⟨w0, hW, hG0, hA0, hB0, hT0⟩ := gQ w 30 [a0, a1, a2, a3, a4, a5] 30 [b0, b1, b2, b3, b4, b5] 30 [.bool false, .slice none 0 0, .slice none 0 0, .bool false, .slice none 0 0, .slice none 0 0];have gs0 := yW (sbS hA0 jA ha (sbS hB0 jB hb (sbZ shS hT0 (St.nil hG0))));clear hG0 hA0 hB0 hT0;obtain ⟨Z1, Z2, Z3, Z4⟩ := bz4 hB;have ZS := yW hB; clear hB;go_enter Tryz.func11, Tryz.ntmps11
 go_upto_region 1 with fail
 clear hW;generalize w.heap.size = zz at *
 have Z5 := bO Z1 Z2;have Z6 := bL Z1 Z2;have Z7 := bO Z3 Z4;have Z8 := bL Z3 Z4;refine reg [gS p q, gS (aB p q) (aA p q), gS pb qb, gS (aB pb qb) (aA pb qb), .any, .any] [.s 4 1, .s 5 3] [] [] gs0 (fun Z => ?_) fun v1 w1 X gs1 => ?_
 ·refine JW.ld 0 Z $ JW.ca (fun Y => dC _ _ _ _ (Y.d 0) (bb2 Z1 Z2)) Z $ JW.ld 1 Z $ JW.ca (fun Y => dC _ _ _ _ (Y.d 2) (bb2 Z3 Z4)) Z $ JC.s6 (n := 0) rfl aL Z $ JC.s6 (n := 1) rfl aL Z $ Ja.Steps.nil
 clear X gs0;go_upto_region 2 with fail
 have Z9 := bL Z5 Z7;have Z10 := bO Z6 Z8;refine reg [eP zz 0, gN (aB p q), eP ((zz + 1)) 0, gN (aB pb qb), gN (aA (aB p q) (aB pb qb)), eP zz 3, gN (aA p q), eP ((zz + 1)) 3, gN (aA pb qb), gN (aB (aA p q) (aA pb qb)), gS (aA (aB p q) (aB pb qb)) (aB (aA p q) (aA pb qb)), .any, .any] [] [⟨11, 30, [.b, .s, .s, .b, .s, .s], (zN ++ zN), .s 12 10⟩] [] gs1 (fun Z => ?_) fun v2 w2 X gs2 => ?_
 ·refine JC.p Z $ JW.pt 0 0 Z $ JC.p Z $ JW.pt 1 0 Z $ JW.ca (fun Y => qK _ _ _ _ _ (Y.d 1) (Y.d 3) (bb2 Z5 Z7)) Z $ JC.p Z $ JW.pt 0 3 Z $ JC.p Z $ JW.pt 1 3 Z $ JW.ca (fun Y => xY _ _ _ _ _ (Y.d 6) (Y.d 8) (bb2 Z6 Z8)) Z $ JC.bs 4 9 Z $ JC.al (n := 3) shS Z $ JC.s6 (n := 3) rfl aL Z $ Ja.Steps.nil
 rw [X.out.f 11 rfl];clear X gs1;go_upto_region 3 with fail
 by_cases hC : aA (aB p q) (aB pb qb) ≤ aB (aA p q) (aA pb qb)
 ·have HC := yW hC; clear hC;have HR : Hid (rc (aA (aB p q) (aB pb qb)) (aB (aA p q) (aA pb qb)) ≤ 0) := yW ((eU _ _).2 HC.out); have HM : Hid (iR (aB p q) (aA p q) (aB pb qb) (aA pb qb) = (true, aA (aB p q) (aB pb qb), aB (aA p q) (aA pb qb))) := yW (if_pos HC.out);refine reg [eP ((adr (v2 11))) 0, gN (aA (aB p q) (aB pb qb)), eP ((adr (v2 11))) 3, gN (aB (aA p q) (aA pb qb)), eI (rc (aA (aB p q) (aB pb qb)) (aB (aA p q) (aA pb qb))), eB false] [] [] [] gs2 (fun Z => ?_) fun v3 w3 X gs3 => ?_
  ·refine JC.p Z $ JW.pt 3 0 Z $ JC.p Z $ JW.pt 3 3 Z $ JW.ca (fun Y => (iQ _ _ _ _ _ (Y.d 1) (Y.d 3) (bb2 Z9 Z10)).mono mo0) Z $ JC.u (.bool (decide ((0) < (rc (aA (aB p q) (aB pb qb)) (aB (aA p q) (aA pb qb)))))) (congrArg Value.bool (decide_eq_false (show ¬ ((rc (aA (aB p q) (aB pb qb)) (aB (aA p q) (aA pb qb)) : Int) > 0) from by have h9 := HR.out; omega))) Z $ Ja.Steps.nil
  rw [X.out.e 5 rfl rfl];clear X gs2;go_upto_region 5 with fail
  refine reg [gS (aA (aB p q) (aB pb qb)) (aB (aA p q) (aA pb qb)), gS (aA (aB p q) (aB pb qb)) (aB (aA p q) (aA pb qb)), .any, eB true] [.k, .k, .s 2 1] [] [] gs3 (fun Z => ?_) fun v4 w4 X gs4 => ?_
  ·refine JW.ld 3 Z $ JW.ca (fun Y => qO _ _ _ _ (Y.d 0) (bs2 Z9 Z10)) Z $ JC.s6 (n := 2) rfl aL Z $ JC.p Z $ Ja.Steps.nil
  rw [X.out.e 3 rfl rfl];clear X gs3;go_wp2_with fail
  rw [HM.out];exact iD (u := .bool true) 2 gs4 (hR := fun h hq => by exact ⟨_, rfl, h, hq⟩)
 ·have HC := yW hC; clear hC;have HR : Hid (0 < rc (aA (aB p q) (aB pb qb)) (aB (aA p q) (aA pb qb))) := yW (by have h9 := mt (eU (aA (aB p q) (aB pb qb)) (aB (aA p q) (aA pb qb))).1 HC.out; omega); have HM : Hid (iR (aB p q) (aA p q) (aB pb qb) (aA pb qb) = (false, 0, 0)) := yW (if_neg HC.out);refine reg [eP ((adr (v2 11))) 0, gN (aA (aB p q) (aB pb qb)), eP ((adr (v2 11))) 3, gN (aB (aA p q) (aA pb qb)), eI (rc (aA (aB p q) (aB pb qb)) (aB (aA p q) (aA pb qb))), eB true] [] [] [] gs2 (fun Z => ?_) fun v3 w3 X gs3 => ?_
  ·refine JC.p Z $ JW.pt 3 0 Z $ JC.p Z $ JW.pt 3 3 Z $ JW.ca (fun Y => (iQ _ _ _ _ _ (Y.d 1) (Y.d 3) (bb2 Z9 Z10)).mono mo0) Z $ JC.u (.bool (decide ((0) < (rc (aA (aB p q) (aB pb qb)) (aB (aA p q) (aA pb qb)))))) (congrArg Value.bool (decide_eq_true (show ((rc (aA (aB p q) (aB pb qb)) (aB (aA p q) (aA pb qb)) : Int) > 0) from by have h9 := HR.out; omega))) Z $ Ja.Steps.nil
  rw [X.out.e 5 rfl rfl];clear X gs2;go_upto_region 4 with fail
  refine reg [gS 0 0, .any, eB false] [.k, .k, .s 1 0] [] [] gs3 (fun Z => ?_) fun v4 w4 X gs4 => ?_
  ·refine JC.o Z ?_ ?_
   ·intro L vals W hL hJ hd K hK;go_simp
    exact hK.out (.agg #[.bool false, .slice none 0 0, .slice none 0 0, .bool false, .slice none 0 0, .slice none 0 0]) _ _ (by kernel_rfl) ⟨_, _, _, _, _, _, _, _, _, _, _, _, _, _, rfl, iU W, iU W⟩ (Q.refl _)
   refine JC.s6 (n := 2) rfl aL Z $ JC.p Z $ Ja.Steps.nil
  rw [X.out.e 2 rfl rfl];clear X gs3;go_wp2_with fail
  rw [HM.out];exact iD (u := .bool false) 2 gs4 (hR := fun h hq => by exact ⟨_, rfl, h, hq⟩)
theorem wS (x y : Rat) : sz (aR x y).2 ≤ sz x + sz y + 2 := by
 unfold aR;split
 ·exact Nat.le_trans jO (Nat.le_add_left _ _)
 ·have h1 := gB x y⁻¹;have h2 := pG y;show sz (x * y⁻¹) ≤ _;omega
theorem aHT (gL : Nat) (p0 p1 : Rat) {A0a : Option Addr} {k0a c0a : Nat} {A0b : Option Addr} {k0b c0b : Nat} {A1a : Option Addr} {k1a c1a : Nat} {A1b : Option Addr} {k1b c1b : Nat} (w : World) (hBL : Bx w gL 33 [.int .i64 (sn (p0)), .slice A0a k0a c0a, .slice A0b k0b c0b, .int .i64 (sn (p1)), .slice A1a k1a c1a, .slice A1b k1b c1b]) (h0 : Rq w (.agg #[.int .i64 (sn (p0)), .slice A0a k0a c0a, .slice A0b k0b c0b]) p0) (h1 : Rq w (.agg #[.int .i64 (sn (p1)), .slice A1a k1a c1a, .slice A1b k1b c1b]) p1) (hB : 100000 * (sz p0 + sz p1) + 100000 ≤ LIM) :
  Calls Tryz.prog 66 #[.slice (some ⟨gL, 0, none⟩) 2 2] w fun e w' => ∃ r, e = .returned r ∧ Rs w' r (aB (p0) (p1)) (aA (p0) (p1)) ∧ Q w w' := by
 obtain ⟨w0, hW, hG0, hT0⟩ := tT w 35 [.int .i64 0, .slice none 0 0, .slice none 0 0, .int .i64 0, .slice none 0 0, .slice none 0 0];have gs0 := yW (sbZ shT hT0 (St.nil hG0));clear hG0 hT0;go_enter Tryz.func66, Tryz.ntmps66
 go_upto_region 1 with fail
 clear hW;generalize w.heap.size = zz at *
 have hB1 := yW hB; clear hB;refine reg [.eq (.slice (some ⟨gL, 0, none⟩) 2 2), eP gL 0, gR p0, .eq (.slice (some ⟨gL, 0, none⟩) 2 2), eP gL 0, gR p0, gT p0 p0, .any, .any] [] [⟨7, 35, [.i, .s, .s, .i, .s, .s], (zR ++ zR), .s 8 6⟩] [] gs0 (fun Z => ?_) fun v1 w1 X gs1 => ?_
 ·refine JC.p Z $ JC.p Z $ JC.l3 (off := 0) hBL (fun W hN => Rq.q h0 hN) Z $ JC.p Z $ JC.p Z $ JC.l3 (off := 0) hBL (fun W hN => Rq.q h0 hN) Z $ JC.bt 2 5 Z $ JC.al (n := 1) shT Z $ JC.s6 (n := 1) rfl fRs Z $ Ja.Steps.nil
 rw [X.out.f 7 rfl];clear X gs0;go_wp2_with fail
 go_loopw [4] (fun iv wx => ∃ (i : Int) (x y : Rat) (u : Value), iv = .int .i64 i ∧ Hid ((1 = i ∧ p0 = x ∧ p0 = y) ∨ (2 = i ∧ aB (p0) (p1) = x ∧ aA (p0) (p1) = y)) ∧ Hid (St w [⟨zz, 35, [.i, .s, .s, .i, .s, .s], .agg #[.int .i64 0, .slice none 0 0, .slice none 0 0, .int .i64 0, .slice none 0 0, .slice none 0 0], .eq (.agg #[.int .i64 0, .slice none 0 0, .slice none 0 0, .int .i64 0, .slice none 0 0, .slice none 0 0])⟩, ⟨(adr (v1 7)), 35, [.i, .s, .s, .i, .s, .s], u, gT x y⟩] [] wx)) (fun iv _ => 2 - (intOf iv).toNat)
 case atStart => exact ⟨1, p0, p0, _, rfl, yW (Or.inl ⟨rfl, rfl, rfl⟩), gs1⟩
 case round =>
  obtain ⟨i, x, y, u, rfl, HI, gs30⟩ := hrel; clear gs1; generalize wr = w30 at *
  rcases HI.out with ⟨rfl, rfl, rfl⟩ | ⟨rfl, rfl, rfl⟩
  ·clear HI;go_upto_region 5 with fail
   have Z71 := bO (zr p0) (zr p1);have Z72 := bL (zr p0) (zr p1);refine reg [eP ((adr (v1 7))) 0, gR p0, .eq (.slice (some ⟨gL, 0, none⟩) 2 2), eI 1, eP gL 3, gR p1, gR (aB p0 p1), eP ((adr (v1 7))) 3, gR p0, .eq (.slice (some ⟨gL, 0, none⟩) 2 2), eI 1, eP gL 3, gR p1, gR (aA p0 p1), gT (aB p0 p1) (aA p0 p1), .any] [.k, .s 15 14] [] [] gs30 (fun Z => ?_) fun v31 w31 X gs31 => ?_
   ·refine JC.p Z $ JW.pt 1 0 Z $ JC.p Z $ JC.p Z $ JC.p Z $ JC.l3 (off := 3) hBL (fun W hN => Rq.q h1 hN) Z $ JW.ca (fun Y => qQ _ _ _ _ _ (Y.d 1) (Y.d 5) (ha1 hB1 (by omega))) Z $ JC.p Z $ JW.pt 1 3 Z $ JC.p Z $ JC.p Z $ JC.p Z $ JC.l3 (off := 3) hBL (fun W hN => Rq.q h1 hN) Z $ JW.ca (fun Y => qR _ _ _ _ _ (Y.d 8) (Y.d 12) (ha1 hB1 (by omega))) Z $ JC.bt 6 13 Z $ JC.s6 (n := 1) rfl fRs Z $ Ja.Steps.nil
   clear X gs30;go_wp2_with fail
   exact ⟨⟨2, _, _, _, rfl, yW (Or.inr (⟨rfl, rfl, rfl⟩)), gs31⟩, by simp [intOf]⟩
  ·clear HI;have Z91 := bO (zr p0) (zr p1);have Z92 := bL (zr p0) (zr p1);go_upto_region 6 with fail
   refine reg [gT (aB p0 p1) (aA p0 p1), .any] [.s 1 0] [] [] gs30 (fun Z => ?_) fun v31 w31 X gs31 => ?_
   ·refine JW.ld 1 Z $ JC.s6 (n := 0) rfl fRs Z $ Ja.Steps.nil
   clear X gs30;go_wp2_with fail
   exact bT 0 gs31
theorem aHU (gL : Nat) (p0 p1 p2 : Rat) {A0a : Option Addr} {k0a c0a : Nat} {A0b : Option Addr} {k0b c0b : Nat} {A1a : Option Addr} {k1a c1a : Nat} {A1b : Option Addr} {k1b c1b : Nat} {A2a : Option Addr} {k2a c2a : Nat} {A2b : Option Addr} {k2b c2b : Nat} (w : World) (hBL : Bx w gL 33 [.int .i64 (sn (p0)), .slice A0a k0a c0a, .slice A0b k0b c0b, .int .i64 (sn (p1)), .slice A1a k1a c1a, .slice A1b k1b c1b, .int .i64 (sn (p2)), .slice A2a k2a c2a, .slice A2b k2b c2b]) (h0 : Rq w (.agg #[.int .i64 (sn (p0)), .slice A0a k0a c0a, .slice A0b k0b c0b]) p0) (h1 : Rq w (.agg #[.int .i64 (sn (p1)), .slice A1a k1a c1a, .slice A1b k1b c1b]) p1) (h2 : Rq w (.agg #[.int .i64 (sn (p2)), .slice A2a k2a c2a, .slice A2b k2b c2b]) p2) (hB : 100000 * (sz p0 + sz p1 + sz p2) + 100000 ≤ LIM) :
  Calls Tryz.prog 66 #[.slice (some ⟨gL, 0, none⟩) 3 3] w fun e w' => ∃ r, e = .returned r ∧ Rs w' r (aB (aB (p0) (p1)) (p2)) (aA (aA (p0) (p1)) (p2)) ∧ Q w w' := by
 obtain ⟨w0, hW, hG0, hT0⟩ := tT w 35 [.int .i64 0, .slice none 0 0, .slice none 0 0, .int .i64 0, .slice none 0 0, .slice none 0 0];have gs0 := yW (sbZ shT hT0 (St.nil hG0));clear hG0 hT0;go_enter Tryz.func66, Tryz.ntmps66
 go_upto_region 1 with fail
 clear hW;generalize w.heap.size = zz at *
 have hB1 := yW hB; clear hB;refine reg [.eq (.slice (some ⟨gL, 0, none⟩) 3 3), eP gL 0, gR p0, .eq (.slice (some ⟨gL, 0, none⟩) 3 3), eP gL 0, gR p0, gT p0 p0, .any, .any] [] [⟨7, 35, [.i, .s, .s, .i, .s, .s], (zR ++ zR), .s 8 6⟩] [] gs0 (fun Z => ?_) fun v1 w1 X gs1 => ?_
 ·refine JC.p Z $ JC.p Z $ JC.l3 (off := 0) hBL (fun W hN => Rq.q h0 hN) Z $ JC.p Z $ JC.p Z $ JC.l3 (off := 0) hBL (fun W hN => Rq.q h0 hN) Z $ JC.bt 2 5 Z $ JC.al (n := 1) shT Z $ JC.s6 (n := 1) rfl fRs Z $ Ja.Steps.nil
 rw [X.out.f 7 rfl];clear X gs0;go_wp2_with fail
 go_loopw [4] (fun iv wx => ∃ (i : Int) (x y : Rat) (u : Value), iv = .int .i64 i ∧ Hid ((1 = i ∧ p0 = x ∧ p0 = y) ∨ (2 = i ∧ aB (p0) (p1) = x ∧ aA (p0) (p1) = y) ∨ (3 = i ∧ aB (aB (p0) (p1)) (p2) = x ∧ aA (aA (p0) (p1)) (p2) = y)) ∧ Hid (St w [⟨zz, 35, [.i, .s, .s, .i, .s, .s], .agg #[.int .i64 0, .slice none 0 0, .slice none 0 0, .int .i64 0, .slice none 0 0, .slice none 0 0], .eq (.agg #[.int .i64 0, .slice none 0 0, .slice none 0 0, .int .i64 0, .slice none 0 0, .slice none 0 0])⟩, ⟨(adr (v1 7)), 35, [.i, .s, .s, .i, .s, .s], u, gT x y⟩] [] wx)) (fun iv _ => 3 - (intOf iv).toNat)
 case atStart => exact ⟨1, p0, p0, _, rfl, yW (Or.inl ⟨rfl, rfl, rfl⟩), gs1⟩
 case round =>
  obtain ⟨i, x, y, u, rfl, HI, gs30⟩ := hrel; clear gs1; generalize wr = w30 at *
  rcases HI.out with ⟨rfl, rfl, rfl⟩ | ⟨rfl, rfl, rfl⟩ | ⟨rfl, rfl, rfl⟩
  ·clear HI;go_upto_region 5 with fail
   have Z71 := bO (zr p0) (zr p1);have Z72 := bL (zr p0) (zr p1);refine reg [eP ((adr (v1 7))) 0, gR p0, .eq (.slice (some ⟨gL, 0, none⟩) 3 3), eI 1, eP gL 3, gR p1, gR (aB p0 p1), eP ((adr (v1 7))) 3, gR p0, .eq (.slice (some ⟨gL, 0, none⟩) 3 3), eI 1, eP gL 3, gR p1, gR (aA p0 p1), gT (aB p0 p1) (aA p0 p1), .any] [.k, .s 15 14] [] [] gs30 (fun Z => ?_) fun v31 w31 X gs31 => ?_
   ·refine JC.p Z $ JW.pt 1 0 Z $ JC.p Z $ JC.p Z $ JC.p Z $ JC.l3 (off := 3) hBL (fun W hN => Rq.q h1 hN) Z $ JW.ca (fun Y => qQ _ _ _ _ _ (Y.d 1) (Y.d 5) (ha1 hB1 (by omega))) Z $ JC.p Z $ JW.pt 1 3 Z $ JC.p Z $ JC.p Z $ JC.p Z $ JC.l3 (off := 3) hBL (fun W hN => Rq.q h1 hN) Z $ JW.ca (fun Y => qR _ _ _ _ _ (Y.d 8) (Y.d 12) (ha1 hB1 (by omega))) Z $ JC.bt 6 13 Z $ JC.s6 (n := 1) rfl fRs Z $ Ja.Steps.nil
   clear X gs30;go_wp2_with fail
   exact ⟨⟨2, _, _, _, rfl, yW (Or.inr (Or.inl ⟨rfl, rfl, rfl⟩)), gs31⟩, by simp [intOf]⟩
  ·clear HI;have Z91 := bO (zr p0) (zr p1);have Z92 := bL (zr p0) (zr p1);go_upto_region 5 with fail
   have Z93 := bO Z91 (zr p2);have Z94 := bL Z92 (zr p2);refine reg [eP ((adr (v1 7))) 0, gR (aB p0 p1), .eq (.slice (some ⟨gL, 0, none⟩) 3 3), eI 2, eP gL 6, gR p2, gR (aB (aB p0 p1) p2), eP ((adr (v1 7))) 3, gR (aA p0 p1), .eq (.slice (some ⟨gL, 0, none⟩) 3 3), eI 2, eP gL 6, gR p2, gR (aA (aA p0 p1) p2), gT (aB (aB p0 p1) p2) (aA (aA p0 p1) p2), .any] [.k, .s 15 14] [] [] gs30 (fun Z => ?_) fun v31 w31 X gs31 => ?_
   ·refine JC.p Z $ JW.pt 1 0 Z $ JC.p Z $ JC.p Z $ JC.p Z $ JC.l3 (off := 6) hBL (fun W hN => Rq.q h2 hN) Z $ JW.ca (fun Y => qQ _ _ _ _ _ (Y.d 1) (Y.d 5) (ha2 Z91 hB1 (by omega))) Z $ JC.p Z $ JW.pt 1 3 Z $ JC.p Z $ JC.p Z $ JC.p Z $ JC.l3 (off := 6) hBL (fun W hN => Rq.q h2 hN) Z $ JW.ca (fun Y => qR _ _ _ _ _ (Y.d 8) (Y.d 12) (ha2 Z92 hB1 (by omega))) Z $ JC.bt 6 13 Z $ JC.s6 (n := 1) rfl fRs Z $ Ja.Steps.nil
   clear X gs30;go_wp2_with fail
   exact ⟨⟨3, _, _, _, rfl, yW (Or.inr (Or.inr (⟨rfl, rfl, rfl⟩))), gs31⟩, by simp [intOf]⟩
  ·clear HI;have Z111 := bO (zr p0) (zr p1);have Z112 := bO Z111 (zr p2);have Z113 := bL (zr p0) (zr p1);have Z114 := bL Z113 (zr p2);go_upto_region 6 with fail
   refine reg [gT (aB (aB p0 p1) p2) (aA (aA p0 p1) p2), .any] [.s 1 0] [] [] gs30 (fun Z => ?_) fun v31 w31 X gs31 => ?_
   ·refine JW.ld 1 Z $ JC.s6 (n := 0) rfl fRs Z $ Ja.Steps.nil
   clear X gs30;go_wp2_with fail
   exact bT 0 gs31
theorem aHV (gL : Nat) (p0 p1 p2 p3 : Rat) {A0a : Option Addr} {k0a c0a : Nat} {A0b : Option Addr} {k0b c0b : Nat} {A1a : Option Addr} {k1a c1a : Nat} {A1b : Option Addr} {k1b c1b : Nat} {A2a : Option Addr} {k2a c2a : Nat} {A2b : Option Addr} {k2b c2b : Nat} {A3a : Option Addr} {k3a c3a : Nat} {A3b : Option Addr} {k3b c3b : Nat} (w : World) (hBL : Bx w gL 33 [.int .i64 (sn (p0)), .slice A0a k0a c0a, .slice A0b k0b c0b, .int .i64 (sn (p1)), .slice A1a k1a c1a, .slice A1b k1b c1b, .int .i64 (sn (p2)), .slice A2a k2a c2a, .slice A2b k2b c2b, .int .i64 (sn (p3)), .slice A3a k3a c3a, .slice A3b k3b c3b]) (h0 : Rq w (.agg #[.int .i64 (sn (p0)), .slice A0a k0a c0a, .slice A0b k0b c0b]) p0) (h1 : Rq w (.agg #[.int .i64 (sn (p1)), .slice A1a k1a c1a, .slice A1b k1b c1b]) p1) (h2 : Rq w (.agg #[.int .i64 (sn (p2)), .slice A2a k2a c2a, .slice A2b k2b c2b]) p2) (h3 : Rq w (.agg #[.int .i64 (sn (p3)), .slice A3a k3a c3a, .slice A3b k3b c3b]) p3) (hB : 100000 * (sz p0 + sz p1 + sz p2 + sz p3) + 100000 ≤ LIM) :
  Calls Tryz.prog 66 #[.slice (some ⟨gL, 0, none⟩) 4 4] w fun e w' => ∃ r, e = .returned r ∧ Rs w' r (aB (aB (aB (p0) (p1)) (p2)) (p3)) (aA (aA (aA (p0) (p1)) (p2)) (p3)) ∧ Q w w' := by
 obtain ⟨w0, hW, hG0, hT0⟩ := tT w 35 [.int .i64 0, .slice none 0 0, .slice none 0 0, .int .i64 0, .slice none 0 0, .slice none 0 0];have gs0 := yW (sbZ shT hT0 (St.nil hG0));clear hG0 hT0;go_enter Tryz.func66, Tryz.ntmps66
 go_upto_region 1 with fail
 clear hW;generalize w.heap.size = zz at *
 have hB1 := yW hB; clear hB;refine reg [.eq (.slice (some ⟨gL, 0, none⟩) 4 4), eP gL 0, gR p0, .eq (.slice (some ⟨gL, 0, none⟩) 4 4), eP gL 0, gR p0, gT p0 p0, .any, .any] [] [⟨7, 35, [.i, .s, .s, .i, .s, .s], (zR ++ zR), .s 8 6⟩] [] gs0 (fun Z => ?_) fun v1 w1 X gs1 => ?_
 ·refine JC.p Z $ JC.p Z $ JC.l3 (off := 0) hBL (fun W hN => Rq.q h0 hN) Z $ JC.p Z $ JC.p Z $ JC.l3 (off := 0) hBL (fun W hN => Rq.q h0 hN) Z $ JC.bt 2 5 Z $ JC.al (n := 1) shT Z $ JC.s6 (n := 1) rfl fRs Z $ Ja.Steps.nil
 rw [X.out.f 7 rfl];clear X gs0;go_wp2_with fail
 go_loopw [4] (fun iv wx => ∃ (i : Int) (x y : Rat) (u : Value), iv = .int .i64 i ∧ Hid ((1 = i ∧ p0 = x ∧ p0 = y) ∨ (2 = i ∧ aB (p0) (p1) = x ∧ aA (p0) (p1) = y) ∨ (3 = i ∧ aB (aB (p0) (p1)) (p2) = x ∧ aA (aA (p0) (p1)) (p2) = y) ∨ (4 = i ∧ aB (aB (aB (p0) (p1)) (p2)) (p3) = x ∧ aA (aA (aA (p0) (p1)) (p2)) (p3) = y)) ∧ Hid (St w [⟨zz, 35, [.i, .s, .s, .i, .s, .s], .agg #[.int .i64 0, .slice none 0 0, .slice none 0 0, .int .i64 0, .slice none 0 0, .slice none 0 0], .eq (.agg #[.int .i64 0, .slice none 0 0, .slice none 0 0, .int .i64 0, .slice none 0 0, .slice none 0 0])⟩, ⟨(adr (v1 7)), 35, [.i, .s, .s, .i, .s, .s], u, gT x y⟩] [] wx)) (fun iv _ => 4 - (intOf iv).toNat)
 case atStart => exact ⟨1, p0, p0, _, rfl, yW (Or.inl ⟨rfl, rfl, rfl⟩), gs1⟩
 case round =>
  obtain ⟨i, x, y, u, rfl, HI, gs30⟩ := hrel; clear gs1; generalize wr = w30 at *
  rcases HI.out with ⟨rfl, rfl, rfl⟩ | ⟨rfl, rfl, rfl⟩ | ⟨rfl, rfl, rfl⟩ | ⟨rfl, rfl, rfl⟩
  ·clear HI;go_upto_region 5 with fail
   have Z71 := bO (zr p0) (zr p1);have Z72 := bL (zr p0) (zr p1);refine reg [eP ((adr (v1 7))) 0, gR p0, .eq (.slice (some ⟨gL, 0, none⟩) 4 4), eI 1, eP gL 3, gR p1, gR (aB p0 p1), eP ((adr (v1 7))) 3, gR p0, .eq (.slice (some ⟨gL, 0, none⟩) 4 4), eI 1, eP gL 3, gR p1, gR (aA p0 p1), gT (aB p0 p1) (aA p0 p1), .any] [.k, .s 15 14] [] [] gs30 (fun Z => ?_) fun v31 w31 X gs31 => ?_
   ·refine JC.p Z $ JW.pt 1 0 Z $ JC.p Z $ JC.p Z $ JC.p Z $ JC.l3 (off := 3) hBL (fun W hN => Rq.q h1 hN) Z $ JW.ca (fun Y => qQ _ _ _ _ _ (Y.d 1) (Y.d 5) (ha1 hB1 (by omega))) Z $ JC.p Z $ JW.pt 1 3 Z $ JC.p Z $ JC.p Z $ JC.p Z $ JC.l3 (off := 3) hBL (fun W hN => Rq.q h1 hN) Z $ JW.ca (fun Y => qR _ _ _ _ _ (Y.d 8) (Y.d 12) (ha1 hB1 (by omega))) Z $ JC.bt 6 13 Z $ JC.s6 (n := 1) rfl fRs Z $ Ja.Steps.nil
   clear X gs30;go_wp2_with fail
   exact ⟨⟨2, _, _, _, rfl, yW (Or.inr (Or.inl ⟨rfl, rfl, rfl⟩)), gs31⟩, by simp [intOf]⟩
  ·clear HI;have Z91 := bO (zr p0) (zr p1);have Z92 := bL (zr p0) (zr p1);go_upto_region 5 with fail
   have Z93 := bO Z91 (zr p2);have Z94 := bL Z92 (zr p2);refine reg [eP ((adr (v1 7))) 0, gR (aB p0 p1), .eq (.slice (some ⟨gL, 0, none⟩) 4 4), eI 2, eP gL 6, gR p2, gR (aB (aB p0 p1) p2), eP ((adr (v1 7))) 3, gR (aA p0 p1), .eq (.slice (some ⟨gL, 0, none⟩) 4 4), eI 2, eP gL 6, gR p2, gR (aA (aA p0 p1) p2), gT (aB (aB p0 p1) p2) (aA (aA p0 p1) p2), .any] [.k, .s 15 14] [] [] gs30 (fun Z => ?_) fun v31 w31 X gs31 => ?_
   ·refine JC.p Z $ JW.pt 1 0 Z $ JC.p Z $ JC.p Z $ JC.p Z $ JC.l3 (off := 6) hBL (fun W hN => Rq.q h2 hN) Z $ JW.ca (fun Y => qQ _ _ _ _ _ (Y.d 1) (Y.d 5) (ha2 Z91 hB1 (by omega))) Z $ JC.p Z $ JW.pt 1 3 Z $ JC.p Z $ JC.p Z $ JC.p Z $ JC.l3 (off := 6) hBL (fun W hN => Rq.q h2 hN) Z $ JW.ca (fun Y => qR _ _ _ _ _ (Y.d 8) (Y.d 12) (ha2 Z92 hB1 (by omega))) Z $ JC.bt 6 13 Z $ JC.s6 (n := 1) rfl fRs Z $ Ja.Steps.nil
   clear X gs30;go_wp2_with fail
   exact ⟨⟨3, _, _, _, rfl, yW (Or.inr (Or.inr (Or.inl ⟨rfl, rfl, rfl⟩))), gs31⟩, by simp [intOf]⟩
  ·clear HI;have Z111 := bO (zr p0) (zr p1);have Z112 := bO Z111 (zr p2);have Z113 := bL (zr p0) (zr p1);have Z114 := bL Z113 (zr p2);go_upto_region 5 with fail
   have Z115 := bO Z112 (zr p3);have Z116 := bL Z114 (zr p3);refine reg [eP ((adr (v1 7))) 0, gR (aB (aB p0 p1) p2), .eq (.slice (some ⟨gL, 0, none⟩) 4 4), eI 3, eP gL 9, gR p3, gR (aB (aB (aB p0 p1) p2) p3), eP ((adr (v1 7))) 3, gR (aA (aA p0 p1) p2), .eq (.slice (some ⟨gL, 0, none⟩) 4 4), eI 3, eP gL 9, gR p3, gR (aA (aA (aA p0 p1) p2) p3), gT (aB (aB (aB p0 p1) p2) p3) (aA (aA (aA p0 p1) p2) p3), .any] [.k, .s 15 14] [] [] gs30 (fun Z => ?_) fun v31 w31 X gs31 => ?_
   ·refine JC.p Z $ JW.pt 1 0 Z $ JC.p Z $ JC.p Z $ JC.p Z $ JC.l3 (off := 9) hBL (fun W hN => Rq.q h3 hN) Z $ JW.ca (fun Y => qQ _ _ _ _ _ (Y.d 1) (Y.d 5) (ha2 Z112 hB1 (by omega))) Z $ JC.p Z $ JW.pt 1 3 Z $ JC.p Z $ JC.p Z $ JC.p Z $ JC.l3 (off := 9) hBL (fun W hN => Rq.q h3 hN) Z $ JW.ca (fun Y => qR _ _ _ _ _ (Y.d 8) (Y.d 12) (ha2 Z114 hB1 (by omega))) Z $ JC.bt 6 13 Z $ JC.s6 (n := 1) rfl fRs Z $ Ja.Steps.nil
   clear X gs30;go_wp2_with fail
   exact ⟨⟨4, _, _, _, rfl, yW (Or.inr (Or.inr (Or.inr (⟨rfl, rfl, rfl⟩)))), gs31⟩, by simp [intOf]⟩
  ·clear HI;have Z131 := bO (zr p0) (zr p1);have Z132 := bO Z131 (zr p2);have Z133 := bO Z132 (zr p3);have Z134 := bL (zr p0) (zr p1);have Z135 := bL Z134 (zr p2);have Z136 := bL Z135 (zr p3);go_upto_region 6 with fail
   refine reg [gT (aB (aB (aB p0 p1) p2) p3) (aA (aA (aA p0 p1) p2) p3), .any] [.s 1 0] [] [] gs30 (fun Z => ?_) fun v31 w31 X gs31 => ?_
   ·refine JW.ld 1 Z $ JC.s6 (n := 0) rfl fRs Z $ Ja.Steps.nil
   clear X gs30;go_wp2_with fail
   exact bT 0 gs31
theorem Bx.rnap {w w' : World} {g gl : Nat} {row : List Value} (h : Bx w gl 33 row) (hl : 3 < row.length) (ha : Ap w w' g) : Bx w' gl 33 row := by
 have hne : gl ≠ g := by
  intro e;obtain ⟨t, r2, hx, -, -, h3⟩ := ha.row;unfold Bx at h hx;rw [← e, h] at hx;injection hx with hx;injection hx with h4 h5 _;have h6 : row = r2 := (by simpa using h4);have h7 := h3 h5.symm;rw [← h6] at h7;omega
 exact (ha.heap _ hne).trans h
def aGR (p0 p1 : Rat) : Pr := ⟨fun v w => ∃ g A0a k0a c0a A0b k0b c0b A1a k1a c1a A1b k1b c1b, v = .slice (some ⟨g, 0, none⟩) 2 2 ∧ Bx w g 33 [.int .i64 (sn (p0)), .slice A0a k0a c0a, .slice A0b k0b c0b, .int .i64 (sn (p1)), .slice A1a k1a c1a, .slice A1b k1b c1b] ∧ Rq w (.agg #[.int .i64 (sn (p0)), .slice A0a k0a c0a, .slice A0b k0b c0b]) p0 ∧ Rq w (.agg #[.int .i64 (sn (p1)), .slice A1a k1a c1a, .slice A1b k1b c1b]) p1,
 fun ⟨g, A0a, k0a, c0a, A0b, k0b, c0b, A1a, k1a, c1a, A1b, k1b, c1b, e, h, h0, h1⟩ hq => ⟨g, A0a, k0a, c0a, A0b, k0b, c0b, A1a, k1a, c1a, A1b, k1b, c1b, e, h.q hq, h0.q hq, h1.q hq⟩,
 true, fun _ ⟨g, A0a, k0a, c0a, A0b, k0b, c0b, A1a, k1a, c1a, A1b, k1b, c1b, e, h, h0, h1⟩ ha => ⟨g, A0a, k0a, c0a, A0b, k0b, c0b, A1a, k1a, c1a, A1b, k1b, c1b, e, h.rnap (by simp) ha, h0.ap ha, h1.ap ha⟩⟩
theorem aCv {v : Value} {w : World} {p0 p1 : Rat} (h : (aGR p0 p1).p v w) (hB : 100000 * (sz p0 + sz p1) + 100000 ≤ LIM) : Calls Tryz.prog 66 #[v] w fun e w' => ∃ r, e = .returned r ∧ Rs w' r (aB (p0) (p1)) (aA (p0) (p1)) ∧ Q w w' := by
 obtain ⟨g, A0a, k0a, c0a, A0b, k0b, c0b, A1a, k1a, c1a, A1b, k1b, c1b, rfl, h, h0, h1⟩ := h;exact aHT g p0 p1 w h h0 h1 hB
def aIT (p0 p1 p2 : Rat) : Pr := ⟨fun v w => ∃ g A0a k0a c0a A0b k0b c0b A1a k1a c1a A1b k1b c1b A2a k2a c2a A2b k2b c2b, v = .slice (some ⟨g, 0, none⟩) 3 3 ∧ Bx w g 33 [.int .i64 (sn (p0)), .slice A0a k0a c0a, .slice A0b k0b c0b, .int .i64 (sn (p1)), .slice A1a k1a c1a, .slice A1b k1b c1b, .int .i64 (sn (p2)), .slice A2a k2a c2a, .slice A2b k2b c2b] ∧ Rq w (.agg #[.int .i64 (sn (p0)), .slice A0a k0a c0a, .slice A0b k0b c0b]) p0 ∧ Rq w (.agg #[.int .i64 (sn (p1)), .slice A1a k1a c1a, .slice A1b k1b c1b]) p1 ∧ Rq w (.agg #[.int .i64 (sn (p2)), .slice A2a k2a c2a, .slice A2b k2b c2b]) p2,
 fun ⟨g, A0a, k0a, c0a, A0b, k0b, c0b, A1a, k1a, c1a, A1b, k1b, c1b, A2a, k2a, c2a, A2b, k2b, c2b, e, h, h0, h1, h2⟩ hq => ⟨g, A0a, k0a, c0a, A0b, k0b, c0b, A1a, k1a, c1a, A1b, k1b, c1b, A2a, k2a, c2a, A2b, k2b, c2b, e, h.q hq, h0.q hq, h1.q hq, h2.q hq⟩,
 true, fun _ ⟨g, A0a, k0a, c0a, A0b, k0b, c0b, A1a, k1a, c1a, A1b, k1b, c1b, A2a, k2a, c2a, A2b, k2b, c2b, e, h, h0, h1, h2⟩ ha => ⟨g, A0a, k0a, c0a, A0b, k0b, c0b, A1a, k1a, c1a, A1b, k1b, c1b, A2a, k2a, c2a, A2b, k2b, c2b, e, h.rnap (by simp) ha, h0.ap ha, h1.ap ha, h2.ap ha⟩⟩
theorem aGS {v : Value} {w : World} {p0 p1 p2 : Rat} (h : (aIT p0 p1 p2).p v w) (hB : 100000 * (sz p0 + sz p1 + sz p2) + 100000 ≤ LIM) : Calls Tryz.prog 66 #[v] w fun e w' => ∃ r, e = .returned r ∧ Rs w' r (aB (aB (p0) (p1)) (p2)) (aA (aA (p0) (p1)) (p2)) ∧ Q w w' := by
 obtain ⟨g, A0a, k0a, c0a, A0b, k0b, c0b, A1a, k1a, c1a, A1b, k1b, c1b, A2a, k2a, c2a, A2b, k2b, c2b, rfl, h, h0, h1, h2⟩ := h;exact aHU g p0 p1 p2 w h h0 h1 h2 hB
def aGT (p0 p1 p2 p3 : Rat) : Pr := ⟨fun v w => ∃ g A0a k0a c0a A0b k0b c0b A1a k1a c1a A1b k1b c1b A2a k2a c2a A2b k2b c2b A3a k3a c3a A3b k3b c3b, v = .slice (some ⟨g, 0, none⟩) 4 4 ∧ Bx w g 33 [.int .i64 (sn (p0)), .slice A0a k0a c0a, .slice A0b k0b c0b, .int .i64 (sn (p1)), .slice A1a k1a c1a, .slice A1b k1b c1b, .int .i64 (sn (p2)), .slice A2a k2a c2a, .slice A2b k2b c2b, .int .i64 (sn (p3)), .slice A3a k3a c3a, .slice A3b k3b c3b] ∧ Rq w (.agg #[.int .i64 (sn (p0)), .slice A0a k0a c0a, .slice A0b k0b c0b]) p0 ∧ Rq w (.agg #[.int .i64 (sn (p1)), .slice A1a k1a c1a, .slice A1b k1b c1b]) p1 ∧ Rq w (.agg #[.int .i64 (sn (p2)), .slice A2a k2a c2a, .slice A2b k2b c2b]) p2 ∧ Rq w (.agg #[.int .i64 (sn (p3)), .slice A3a k3a c3a, .slice A3b k3b c3b]) p3,
 fun ⟨g, A0a, k0a, c0a, A0b, k0b, c0b, A1a, k1a, c1a, A1b, k1b, c1b, A2a, k2a, c2a, A2b, k2b, c2b, A3a, k3a, c3a, A3b, k3b, c3b, e, h, h0, h1, h2, h3⟩ hq => ⟨g, A0a, k0a, c0a, A0b, k0b, c0b, A1a, k1a, c1a, A1b, k1b, c1b, A2a, k2a, c2a, A2b, k2b, c2b, A3a, k3a, c3a, A3b, k3b, c3b, e, h.q hq, h0.q hq, h1.q hq, h2.q hq, h3.q hq⟩,
 true, fun _ ⟨g, A0a, k0a, c0a, A0b, k0b, c0b, A1a, k1a, c1a, A1b, k1b, c1b, A2a, k2a, c2a, A2b, k2b, c2b, A3a, k3a, c3a, A3b, k3b, c3b, e, h, h0, h1, h2, h3⟩ ha => ⟨g, A0a, k0a, c0a, A0b, k0b, c0b, A1a, k1a, c1a, A1b, k1b, c1b, A2a, k2a, c2a, A2b, k2b, c2b, A3a, k3a, c3a, A3b, k3b, c3b, e, h.rnap (by simp) ha, h0.ap ha, h1.ap ha, h2.ap ha, h3.ap ha⟩⟩
theorem aCw {v : Value} {w : World} {p0 p1 p2 p3 : Rat} (h : (aGT p0 p1 p2 p3).p v w) (hB : 100000 * (sz p0 + sz p1 + sz p2 + sz p3) + 100000 ≤ LIM) : Calls Tryz.prog 66 #[v] w fun e w' => ∃ r, e = .returned r ∧ Rs w' r (aB (aB (aB (p0) (p1)) (p2)) (p3)) (aA (aA (aA (p0) (p1)) (p2)) (p3)) ∧ Q w w' := by
 obtain ⟨g, A0a, k0a, c0a, A0b, k0b, c0b, A1a, k1a, c1a, A1b, k1b, c1b, A2a, k2a, c2a, A2b, k2b, c2b, A3a, k3a, c3a, A3b, k3b, c3b, rfl, h, h0, h1, h2, h3⟩ := h;exact aHV g p0 p1 p2 p3 w h h0 h1 h2 h3 hB
theorem aA2 (a b : Value) (p q pb qb : Rat) (w : World) (ha : Rs w a p q) (hb : Rs w b pb qb) (hB : 300000 * (sz p + sz q + sz pb + sz qb) + 300000 ≤ LIM) :
  Calls Tryz.prog 18 #[a, b] w fun e w' => ∃ r, e = .returned r ∧ Rs w' r (aY p q pb qb) (aZ p q pb qb) ∧ Q w w' := by
 obtain ⟨a0, a1, a2, a3, a4, a5, rfl, jA⟩ := fmT ha;obtain ⟨b0, b1, b2, b3, b4, b5, rfl, jB⟩ := fmT hb;obtain ⟨w0, hW, hG0, hA0, hB0, hT0⟩ := gQ w 35 [a0, a1, a2, a3, a4, a5] 35 [b0, b1, b2, b3, b4, b5] 35 [.int .i64 0, .slice none 0 0, .slice none 0 0, .int .i64 0, .slice none 0 0, .slice none 0 0];have HB := yW hB; clear hB;have gs0 := yW (sbT hA0 jA ha (sbT hB0 jB hb (sbZ shT hT0 (St.nil hG0))));clear hG0 hA0 hB0 hT0;go_enter Tryz.func18, Tryz.ntmps18
 go_upto_region 1 with fail
 clear hW;generalize w.heap.size = zz at *
 have Z1 := kS (zr p) (zr pb);have Z2 := kS (zr p) (zr qb);have Z3 := kS (zr q) (zr pb);have Z4 := kS (zr q) (zr qb);refine reg [eP zz 0, gR p, eP ((zz + 1)) 0, gR pb, gR ((p) * (pb)), eP zz 0, gR p, eP ((zz + 1)) 3, gR qb, gR ((p) * (qb)), eP zz 3, gR q, eP ((zz + 1)) 0, gR pb, gR ((q) * (pb)), eP zz 3, gR q, eP ((zz + 1)) 3, gR qb, gR ((q) * (qb)), .gen (aGT ((p) * (pb)) ((p) * (qb)) ((q) * (pb)) ((q) * (qb))), gT (aB (aB (aB ((p) * (pb)) ((p) * (qb))) ((q) * (pb))) ((q) * (qb))) (aA (aA (aA ((p) * (pb)) ((p) * (qb))) ((q) * (pb))) ((q) * (qb))), .any] [.k, .k, .s 22 21] [] [] gs0 (fun Z => ?_) fun v1 w1 X gs1 => ?_
 ·refine JC.p Z $ JW.pt 0 0 Z $ JC.p Z $ JW.pt 1 0 Z $ JW.ca (fun Y => wQ _ _ _ _ _ (Y.d 1) (Y.d 3) (ha1 HB (by omega))) Z $ JC.p Z $ JW.pt 0 0 Z $ JC.p Z $ JW.pt 1 3 Z $ JW.ca (fun Y => wQ _ _ _ _ _ (Y.d 6) (Y.d 8) (ha1 HB (by omega))) Z $ JC.p Z $ JW.pt 0 3 Z $ JC.p Z $ JW.pt 1 0 Z $ JW.ca (fun Y => wQ _ _ _ _ _ (Y.d 11) (Y.d 13) (ha1 HB (by omega))) Z $ JC.p Z $ JW.pt 0 3 Z $ JC.p Z $ JW.pt 1 3 Z $ JW.ca (fun Y => wQ _ _ _ _ _ (Y.d 16) (Y.d 18) (ha1 HB (by omega))) Z $ ?_;refine JC.o Z ?_ ?_
  ·intro L vals W hL hJ hd K hK;have d4 : Rq W (vals 4) ((p) * (pb)) := hd 4 (by kernel_rfl);have d9 : Rq W (vals 9) ((p) * (qb)) := hd 9 (by kernel_rfl);have d14 : Rq W (vals 14) ((q) * (pb)) := hd 14 (by kernel_rfl);have d19 : Rq W (vals 19) ((q) * (qb)) := hd 19 (by kernel_rfl);generalize vals 4 = u4 at d4 hK ⊢;obtain ⟨Ae0_1, ke0_1, ce0_1, Ae0_2, ke0_2, ce0_2, rfl, -⟩ := (show Rq _ _ _ from d4)
   generalize vals 9 = u9 at d9 hK ⊢;obtain ⟨Ae1_1, ke1_1, ce1_1, Ae1_2, ke1_2, ce1_2, rfl, -⟩ := (show Rq _ _ _ from d9)
   generalize vals 14 = u14 at d14 hK ⊢;obtain ⟨Ae2_1, ke2_1, ce2_1, Ae2_2, ke2_2, ce2_2, rfl, -⟩ := (show Rq _ _ _ from d14)
   generalize vals 19 = u19 at d19 hK ⊢;obtain ⟨Ae3_1, ke3_1, ce3_1, Ae3_2, ke3_2, ce3_2, rfl, -⟩ := (show Rq _ _ _ from d19)
   have hqa : Q W (W.alloc (.cells #[.int .i64 (sn ((p) * (pb))), .slice Ae0_1 ke0_1 ce0_1, .slice Ae0_2 ke0_2 ce0_2, .int .i64 (sn ((p) * (qb))), .slice Ae1_1 ke1_1 ce1_1, .slice Ae1_2 ke1_2 ce1_2, .int .i64 (sn ((q) * (pb))), .slice Ae2_1 ke2_1 ce2_1, .slice Ae2_2 ke2_2 ce2_2, .int .i64 (sn ((q) * (qb))), .slice Ae3_1 ke3_1 ce3_1, .slice Ae3_2 ke3_2 ce3_2] 33)) := (Q.refl _).alloc _;go_simp
   exact hK.out _ _ _ (by kernel_rfl) ⟨_, _, _, _, _, _, _, _, _, _, _, _, _, _, _, _, _, _, _, _, _, _, _, _, _, rfl, Bx.new W _ _, Rq.q d4 hqa, Rq.q d9 hqa, Rq.q d14 hqa, Rq.q d19 hqa⟩ hqa
  refine JW.ca (fun Y => aCw (Y.d 20) (ha5 Z1 Z2 Z3 Z4 HB (by omega))) Z $ JC.s6 (n := 2) rfl fRs Z $ Ja.Steps.nil
 clear X gs0;go_wp2_with fail
 exact bT 2 gs1
theorem aEh (a b : Value) (p q pb qb : Rat) (w : World) (ha : Rs w a p q) (hb : Rs w b pb qb) (hB : 300000 * (sz p + sz q + sz pb + sz qb) + 300000 ≤ LIM) :
  Calls Tryz.prog 24 #[a, b] w fun e w' => ∃ r, e = .returned r ∧ Rs w' r (aB (aB (aB p q) pb) qb) (aA (aA (aA p q) pb) qb) ∧ Q w w' := by
 obtain ⟨a0, a1, a2, a3, a4, a5, rfl, jA⟩ := fmT ha;obtain ⟨b0, b1, b2, b3, b4, b5, rfl, jB⟩ := fmT hb;obtain ⟨w0, hW, hG0, hA0, hB0, hT0⟩ := gQ w 35 [a0, a1, a2, a3, a4, a5] 35 [b0, b1, b2, b3, b4, b5] 35 [.int .i64 0, .slice none 0 0, .slice none 0 0, .int .i64 0, .slice none 0 0, .slice none 0 0];have HB := yW hB; clear hB;have gs0 := yW (sbT hA0 jA ha (sbT hB0 jB hb (sbZ shT hT0 (St.nil hG0))));clear hG0 hA0 hB0 hT0;go_enter Tryz.func24, Tryz.ntmps24
 go_upto_region 1 with fail
 clear hW;generalize w.heap.size = zz at *
 refine reg [eP zz 0, gR p, eP zz 3, gR q, eP ((zz + 1)) 0, gR pb, eP ((zz + 1)) 3, gR qb, .gen (aGT p q pb qb), gT (aB (aB (aB p q) pb) qb) (aA (aA (aA p q) pb) qb), .any] [.k, .k, .s 10 9] [] [] gs0 (fun Z => ?_) fun v1 w1 X gs1 => ?_
 ·refine JC.p Z $ JW.pt 0 0 Z $ JC.p Z $ JW.pt 0 3 Z $ JC.p Z $ JW.pt 1 0 Z $ JC.p Z $ JW.pt 1 3 Z $ ?_;refine JC.o Z ?_ ?_
  ·intro L vals W hL hJ hd K hK;have d1 : Rq W (vals 1) (p) := hd 1 (by kernel_rfl);have d3 : Rq W (vals 3) (q) := hd 3 (by kernel_rfl);have d5 : Rq W (vals 5) (pb) := hd 5 (by kernel_rfl);have d7 : Rq W (vals 7) (qb) := hd 7 (by kernel_rfl);generalize vals 1 = u1 at d1 hK ⊢;obtain ⟨Ae0_1, ke0_1, ce0_1, Ae0_2, ke0_2, ce0_2, rfl, -⟩ := (show Rq _ _ _ from d1)
   generalize vals 3 = u3 at d3 hK ⊢;obtain ⟨Ae1_1, ke1_1, ce1_1, Ae1_2, ke1_2, ce1_2, rfl, -⟩ := (show Rq _ _ _ from d3)
   generalize vals 5 = u5 at d5 hK ⊢;obtain ⟨Ae2_1, ke2_1, ce2_1, Ae2_2, ke2_2, ce2_2, rfl, -⟩ := (show Rq _ _ _ from d5)
   generalize vals 7 = u7 at d7 hK ⊢;obtain ⟨Ae3_1, ke3_1, ce3_1, Ae3_2, ke3_2, ce3_2, rfl, -⟩ := (show Rq _ _ _ from d7)
   have hqa : Q W (W.alloc (.cells #[.int .i64 (sn (p)), .slice Ae0_1 ke0_1 ce0_1, .slice Ae0_2 ke0_2 ce0_2, .int .i64 (sn (q)), .slice Ae1_1 ke1_1 ce1_1, .slice Ae1_2 ke1_2 ce1_2, .int .i64 (sn (pb)), .slice Ae2_1 ke2_1 ce2_1, .slice Ae2_2 ke2_2 ce2_2, .int .i64 (sn (qb)), .slice Ae3_1 ke3_1 ce3_1, .slice Ae3_2 ke3_2 ce3_2] 33)) := (Q.refl _).alloc _;go_simp
   exact hK.out _ _ _ (by kernel_rfl) ⟨_, _, _, _, _, _, _, _, _, _, _, _, _, _, _, _, _, _, _, _, _, _, _, _, _, rfl, Bx.new W _ _, Rq.q d1 hqa, Rq.q d3 hqa, Rq.q d5 hqa, Rq.q d7 hqa⟩ hqa
  refine JW.ca (fun Y => aCw (Y.d 8) (ha1 HB (by omega))) Z $ JC.s6 (n := 2) rfl fRs Z $ Ja.Steps.nil
 clear X gs0;go_wp2_with fail
 exact bT 2 gs1
def uG (p q pb qb : Rat) : Int × Rat × Rat := if qA pb qb 0 = true then (8, 0, 0) else (0, aY p q (aR ((1 : Int) : Rat) pb).2 (aR ((1 : Int) : Rat) qb).2, aZ p q (aR ((1 : Int) : Rat) pb).2 (aR ((1 : Int) : Rat) qb).2)
theorem aFF (a b : Value) (p q pb qb : Rat) (w : World) (ha : Rs w a p q) (hb : Rs w b pb qb) (hB : 300000 * (sz p + sz q + sz pb + sz qb) + 3000000 ≤ LIM) :
  Calls Tryz.prog 10 #[a, b] w fun e w' => ∃ r, e = .returned (.tuple #[r, .int .i64 (uG p q pb qb).1]) ∧ Rs w' r (uG p q pb qb).2.1 (uG p q pb qb).2.2 ∧ Q w w' := by
 obtain ⟨a0, a1, a2, a3, a4, a5, rfl, jA⟩ := fmT ha;obtain ⟨b0, b1, b2, b3, b4, b5, rfl, jB⟩ := fmT hb;obtain ⟨w0, hW, hG0, hA0, hB0, hT0⟩ := gQ w 35 [a0, a1, a2, a3, a4, a5] 35 [b0, b1, b2, b3, b4, b5] 35 [.int .i64 0, .slice none 0 0, .slice none 0 0, .int .i64 0, .slice none 0 0, .slice none 0 0];have HB := yW hB; clear hB;have gs0 := yW (sbT hA0 jA ha (sbT hB0 jB hb (sbZ shT hT0 (St.nil hG0))));clear hG0 hA0 hB0 hT0;go_enter Tryz.func10, Tryz.ntmps10
 go_upto_region 1 with fail
 clear hW;generalize w.heap.size = zz at *
 have Z1 : Hid (sz (0) ≤ 2) := yW jO;by_cases hC : qA pb qb 0 = true
 ·have HC := yW hC; clear hC;have HM : Hid (uG p q pb qb = (8, 0, 0)) := yW (if_pos HC.out);refine reg [gT pb qb, gR 0, eB true] [] [] [] gs0 (fun Z => ?_) fun v1 w1 X gs1 => ?_
  ·refine JW.ld 1 Z $ ?_;refine JC.o Z ?_ ?_
   ·intro L vals W hL hJ hd K hK;go_simp
    exact hK.out (.agg #[.int .i64 0, .slice none 0 0, .slice none 0 0]) _ _ (by kernel_rfl) (Rq.none W) (Q.refl _)
   refine JW.ca (fun Y => (nU _ _ pb qb 0 _ (Y.d 0) (Y.d 1) (ha2 Z1 HB (by omega))).mono (mo1 (congrArg Value.bool (HC.out)))) Z $ Ja.Steps.nil
  rw [X.out.e 2 rfl rfl];clear X gs0;go_upto_region 2 with fail
  refine reg [gT 0 0, .any, eI 8] [.k, .k, .s 1 0] [] [] gs1 (fun Z => ?_) fun v2 w2 X gs2 => ?_
  ·refine JC.o Z ?_ ?_
   ·intro L vals W hL hJ hd K hK;go_simp
    exact hK.out (.agg #[.int .i64 0, .slice none 0 0, .slice none 0 0, .int .i64 0, .slice none 0 0, .slice none 0 0]) _ _ (by kernel_rfl) ⟨_, _, _, _, _, _, _, _, _, _, _, _, _, _, rfl, Rq.none W, Rq.none W⟩ (Q.refl _)
   refine JC.s6 (n := 2) rfl fRs Z $ JC.p Z $ Ja.Steps.nil
  rw [X.out.e 2 rfl rfl];clear X gs1;go_wp2_with fail
  rw [HM.out];exact iD (u := .int .i64 (8)) 2 gs2 (hR := fun h hq => by exact ⟨_, rfl, h, hq⟩)
 ·have HC := yW hC; clear hC;have HM : Hid (uG p q pb qb = (0, aY p q ((aR ((1 : Int) : Rat) pb).2) ((aR ((1 : Int) : Rat) qb).2), aZ p q ((aR ((1 : Int) : Rat) pb).2) ((aR ((1 : Int) : Rat) qb).2))) := yW (if_neg HC.out); have HF : Hid (qA pb qb 0 = false) := yW (by have h9 := HC.out; simpa using h9);refine reg [gT pb qb, gR 0, eB false] [] [] [] gs0 (fun Z => ?_) fun v1 w1 X gs1 => ?_
  ·refine JW.ld 1 Z $ ?_;refine JC.o Z ?_ ?_
   ·intro L vals W hL hJ hd K hK;go_simp
    exact hK.out (.agg #[.int .i64 0, .slice none 0 0, .slice none 0 0]) _ _ (by kernel_rfl) (Rq.none W) (Q.refl _)
   refine JW.ca (fun Y => (nU _ _ pb qb 0 _ (Y.d 0) (Y.d 1) (ha2 Z1 HB (by omega))).mono (mo1 (congrArg Value.bool (HF.out)))) Z $ Ja.Steps.nil
  rw [X.out.e 2 rfl rfl];clear X gs0;go_upto_region 3 with fail
  have Z2 : Hid (sz ((((1) : Int) : Rat)) ≤ 2) := oz1 ((by decide +kernel : sz (((1 : Int) : Rat)) ≤ 2)) HB (by omega);have Z3 : Hid (sz ((aR ((((1) : Int) : Rat)) (pb)).2) ≤ 1 * sz (pb) + 4) := oz2 (wS ((((1) : Int) : Rat)) (pb)) Z2 HB (by omega);refine reg [gR ((((1) : Int) : Rat)), eP ((zz + 1)) 0, gR pb, .gen (pT2 (pRn ((aR ((((1) : Int) : Rat)) pb).2)) (pEq (.int .i64 ((aR ((((1) : Int) : Rat)) pb).1)))), .gen (pT2 (pRn ((aR ((((1) : Int) : Rat)) pb).2)) (pEq (.int .i64 ((aR ((((1) : Int) : Rat)) pb).1)))), gR ((aR ((((1) : Int) : Rat)) pb).2), eI ((aR ((((1) : Int) : Rat)) pb).1), .any, .any, eI ((aR ((((1) : Int) : Rat)) pb).1)] [] [⟨7, 33, [.i, .s, .s], zR, .s 8 5⟩] [] gs1 (fun Z => ?_) fun v2 w2 X gs2 => ?_
  ·refine JW.ca (fun Y => zW 1 _ (by omega) (by omega)) Z $ JC.p Z $ JW.pt 1 0 Z $ JW.ca (fun Y => (aBi _ _ _ _ _ (Y.d 0) (Y.d 2) (ha2 Z2 HB (by omega))).mono (by rintro e W9 ⟨r, rfl, hr, hq9⟩; exact ⟨(.tuple #[r, .int .i64 ((aR ((((1) : Int) : Rat)) (pb)).1)]), rfl, ⟨_, _, rfl, hr, rfl⟩, hq9⟩)) Z $ JC.m 3 Z $ JW.x2 4 0 Z $ JW.x2 4 1 Z $ JC.al (n := 3) shR Z $ JC.s3 (n := 3) rfl fRn Z $ JC.p Z $ Ja.Steps.nil
  rw [X.out.f 7 rfl];clear X gs1;go_upto_region 4 with fail
  have Z4 : Hid (sz ((aR ((((1) : Int) : Rat)) (qb)).2) ≤ 1 * sz (qb) + 4) := oz2 (wS ((((1) : Int) : Rat)) (qb)) Z2 HB (by omega);refine reg [gR ((((1) : Int) : Rat)), eP ((zz + 1)) 3, gR qb, .gen (pT2 (pRn ((aR ((((1) : Int) : Rat)) qb).2)) (pEq (.int .i64 ((aR ((((1) : Int) : Rat)) qb).1)))), .gen (pT2 (pRn ((aR ((((1) : Int) : Rat)) qb).2)) (pEq (.int .i64 ((aR ((((1) : Int) : Rat)) qb).1)))), gR ((aR ((((1) : Int) : Rat)) qb).2), eI ((aR ((((1) : Int) : Rat)) qb).1), .any, .any, eI ((aR ((((1) : Int) : Rat)) qb).1)] [] [⟨7, 33, [.i, .s, .s], zR, .s 8 5⟩] [] gs2 (fun Z => ?_) fun v3 w3 X gs3 => ?_
  ·refine JW.ca (fun Y => zW 1 _ (by omega) (by omega)) Z $ JC.p Z $ JW.pt 1 3 Z $ JW.ca (fun Y => (aBi _ _ _ _ _ (Y.d 0) (Y.d 2) (ha2 Z2 HB (by omega))).mono (by rintro e W9 ⟨r, rfl, hr, hq9⟩; exact ⟨(.tuple #[r, .int .i64 ((aR ((((1) : Int) : Rat)) (qb)).1)]), rfl, ⟨_, _, rfl, hr, rfl⟩, hq9⟩)) Z $ JC.m 3 Z $ JW.x2 4 0 Z $ JW.x2 4 1 Z $ JC.al (n := 4) shR Z $ JC.s3 (n := 4) rfl fRn Z $ JC.p Z $ Ja.Steps.nil
  rw [X.out.f 7 rfl];clear X gs2;go_upto_region 5 with fail
  refine reg [gT p q, gR ((aR ((((1) : Int) : Rat)) pb).2), gR ((aR ((((1) : Int) : Rat)) qb).2), gT ((aR ((((1) : Int) : Rat)) pb).2) ((aR ((((1) : Int) : Rat)) qb).2), gT (aY p q ((aR ((((1) : Int) : Rat)) pb).2) ((aR ((((1) : Int) : Rat)) qb).2)) (aZ p q ((aR ((((1) : Int) : Rat)) pb).2) ((aR ((((1) : Int) : Rat)) qb).2)), .any, eI 0] [.k, .k, .s 5 4] [] [] gs3 (fun Z => ?_) fun v4 w4 X gs4 => ?_
  ·refine JW.ld 0 Z $ JW.ld 3 Z $ JW.ld 4 Z $ JC.bt 1 2 Z $ JW.ca (fun Y => aA2 _ _ p q ((aR ((((1) : Int) : Rat)) pb).2) ((aR ((((1) : Int) : Rat)) qb).2) _ (Y.d 0) (Y.d 3) (ha3 Z3 Z4 HB (by omega))) Z $ JC.s6 (n := 2) rfl fRs Z $ JC.p Z $ Ja.Steps.nil
  rw [X.out.e 6 rfl rfl];clear X gs3;go_wp2_with fail
  rw [HM.out];exact iD (u := .int .i64 (0)) 2 gs4 (hR := fun h hq => by exact ⟨_, rfl, h, hq⟩)
end Go.Proofs.YtajbfablmpmgbaaGreatDoor.K
