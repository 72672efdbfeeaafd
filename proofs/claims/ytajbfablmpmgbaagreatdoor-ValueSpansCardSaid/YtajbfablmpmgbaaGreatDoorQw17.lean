/- ValueSpans: spans of numbers. No condition. -/
import Derived.Test.YtajbfablmpmgbaaGreatDoorQw16
set_option maxHeartbeats 16000000
set_option maxRecDepth 100000
namespace Go.Proofs.YtajbfablmpmgbaaGreatDoor.K
open Go.RowKit
open Ma Me
theorem aJx (w : World) (t1 : TypeId) (r1 : List Value) (t2 : TypeId) (r2 : List Value) (t3 : TypeId) (r3 : List Value) (t4 : TypeId) (r4 : List Value) (t5 : TypeId) (r5 : List Value) : ∃ W, ((((w.alloc (.cells r1.toArray t1)).alloc (.cells r2.toArray t2)).alloc (.cells r3.toArray t3)).alloc (.cells r4.toArray t4)).alloc (.cells r5.toArray t5) = W ∧ Q w W ∧
  Bx W w.heap.size t1 r1 ∧ Bx W (w.heap.size + 1) t2 r2 ∧ Bx W (w.heap.size + 1 + 1) t3 r3 ∧ Bx W (w.heap.size + 1 + 1 + 1) t4 r4 ∧ Bx W (w.heap.size + 1 + 1 + 1 + 1) t5 r5 := by
 obtain ⟨W, e, hq, h1, h2, h3, h4⟩ := aJr w t1 r1 t2 r2 t3 r3 t4 r4;have h5 := Bx.new W t5 r5;have e2 : W.heap.size = w.heap.size + 1 + 1 + 1 + 1 := by rw [← e, World.size_alloc, World.size_alloc, World.size_alloc, World.size_alloc]
 rw [e2] at h5;exact ⟨_, by rw [e], hq.alloc _, h1.q ((Q.refl _).alloc _), h2.q ((Q.refl _).alloc _), h3.q ((Q.refl _).alloc _), h4.q ((Q.refl _).alloc _), h5⟩
def okF (a b c d : ByteArray) : Bool := decide ((aH a.data.toList).1 = 0) && decide ((aH b.data.toList).1 = 0) && decide ((aH c.data.toList).1 = 0) && decide ((aH d.data.toList).1 = 0)
theorem aHL (a b c d : ByteArray) (w : World) (hT : Tb w) (ha : a.size ≤ 9223372036854775806) (hb : b.size ≤ 9223372036854775806) (hc : c.size ≤ 9223372036854775806) (hd : d.size ≤ 9223372036854775806) :
  Calls Tryz.prog 4 #[.agg #[.string a, .string b, .string c, .string d]] w fun e w' => ∃ x y z u, e = .returned (.tuple #[x, y, z, u, .bool (okF a b c d)]) ∧ Ns w' x (aH a.data.toList).2 (aH b.data.toList).2 ∧ Ns w' y (aH c.data.toList).2 (aH d.data.toList).2 ∧ Rs w' z (aH a.data.toList).2 (aH b.data.toList).2 ∧ Rs w' u (aH c.data.toList).2 (aH d.data.toList).2 ∧ Q w w' := by
 obtain ⟨w0, hW, hG0, hF0, hP0, hQ0, hR0, hS0⟩ := aJx w 24 [.string (a), .string (b), .string (c), .string (d)] 30 [.bool false, .slice none 0 0, .slice none 0 0, .bool false, .slice none 0 0, .slice none 0 0] 30 [.bool false, .slice none 0 0, .slice none 0 0, .bool false, .slice none 0 0, .slice none 0 0] 35 [.int .i64 0, .slice none 0 0, .slice none 0 0, .int .i64 0, .slice none 0 0, .slice none 0 0] 35 [.int .i64 0, .slice none 0 0, .slice none 0 0, .int .i64 0, .slice none 0 0, .slice none 0 0];have gs0 := yW (sbZ shF hF0 (sbZ shS hP0 (sbZ shS hQ0 (sbZ shT hR0 (sbZ shT hS0 (St.nil hG0))))));clear hG0 hF0 hP0 hQ0 hR0 hS0;go_enter Tryz.func4, Tryz.ntmps4
 go_upto_region 1 with fail
 clear hW;generalize w.heap.size = zz at *
 have HLa := yW ha; clear ha;have HLb := yW hb; clear hb;have HLc := yW hc; clear hc;have HLd := yW hd; clear hd;obtain ⟨p0, Hp0⟩ : ∃ z : Rat, Hid ((aH a.data.toList).2 = z) := ⟨_, yW rfl⟩
 obtain ⟨b0, Hb0⟩ : ∃ z : Bool, Hid (decide ((aH a.data.toList).1 = 0) = z) := ⟨_, yW rfl⟩
 obtain ⟨p1, Hp1⟩ : ∃ z : Rat, Hid ((aH b.data.toList).2 = z) := ⟨_, yW rfl⟩
 obtain ⟨b1, Hb1⟩ : ∃ z : Bool, Hid (decide ((aH b.data.toList).1 = 0) = z) := ⟨_, yW rfl⟩
 obtain ⟨p2, Hp2⟩ : ∃ z : Rat, Hid ((aH c.data.toList).2 = z) := ⟨_, yW rfl⟩
 obtain ⟨b2, Hb2⟩ : ∃ z : Bool, Hid (decide ((aH c.data.toList).1 = 0) = z) := ⟨_, yW rfl⟩
 obtain ⟨p3, Hp3⟩ : ∃ z : Rat, Hid ((aH d.data.toList).2 = z) := ⟨_, yW rfl⟩
 obtain ⟨b3, Hb3⟩ : ∃ z : Bool, Hid (decide ((aH d.data.toList).1 = 0) = z) := ⟨_, yW rfl⟩
 refine reg [eP zz 0, .eq (.string a), .gen (pT3 (fB p0) (pRn p0) (pEq (.bool b0))), .gen (pT3 (fB p0) (pRn p0) (pEq (.bool b0))), gN p0, gR p0, eB b0, .any, .any, .any, .any, eB b0] [] [⟨7, 28, [.b, .s, .s], zN, .s 9 4⟩, ⟨8, 33, [.i, .s, .s], zR, .s 10 5⟩] [] gs0 (fun Z => ?_) fun v1 w1 X gs1 => ?_
 ·refine JC.p Z $ JW.ce 0 0 eqC Z $ JW.ca (fun Y => (zV a _ (hT.q Y.q) HLa.out).mono (by rintro e W9 ⟨x9, y9, rfl, hx9, hy9, hq9⟩; exact ⟨(.tuple #[x9, y9, .bool (decide ((aH a.data.toList).1 = 0))]), rfl, ⟨_, _, _, rfl, (by have h7 := hx9; rw [Hp0.out] at h7; exact h7), (by have h7 := hy9; rw [Hp0.out] at h7; exact h7), congrArg Value.bool Hb0.out⟩, hq9⟩)) Z $ JC.m 2 Z $ JW.x3 3 0 Z $ JW.x3 3 1 Z $ JW.x3 3 2 Z $ JC.al (n := 5) shN Z $ JC.al (n := 6) shR Z $ JC.s3 (n := 5) rfl iO Z $ JC.s3 (n := 6) rfl fRn Z $ JC.p Z $ Ja.Steps.nil
 rw [X.out.f 7 rfl, X.out.f 8 rfl, X.out.e 11 rfl rfl];clear X gs0;go_upto_region 2 with fail
 refine reg [eP zz 1, .eq (.string b), .gen (pT3 (fB p1) (pRn p1) (pEq (.bool b1))), .gen (pT3 (fB p1) (pRn p1) (pEq (.bool b1))), gN p1, gR p1, eB b1, .any, .any, .any, .any, eB b1] [] [⟨7, 28, [.b, .s, .s], zN, .s 9 4⟩, ⟨8, 33, [.i, .s, .s], zR, .s 10 5⟩] [] gs1 (fun Z => ?_) fun v2 w2 X gs2 => ?_
 ·refine JC.p Z $ JW.ce 0 1 eqC Z $ JW.ca (fun Y => (zV b _ (hT.q Y.q) HLb.out).mono (by rintro e W9 ⟨x9, y9, rfl, hx9, hy9, hq9⟩; exact ⟨(.tuple #[x9, y9, .bool (decide ((aH b.data.toList).1 = 0))]), rfl, ⟨_, _, _, rfl, (by have h7 := hx9; rw [Hp1.out] at h7; exact h7), (by have h7 := hy9; rw [Hp1.out] at h7; exact h7), congrArg Value.bool Hb1.out⟩, hq9⟩)) Z $ JC.m 2 Z $ JW.x3 3 0 Z $ JW.x3 3 1 Z $ JW.x3 3 2 Z $ JC.al (n := 7) shN Z $ JC.al (n := 8) shR Z $ JC.s3 (n := 7) rfl iO Z $ JC.s3 (n := 8) rfl fRn Z $ JC.p Z $ Ja.Steps.nil
 rw [X.out.f 7 rfl, X.out.f 8 rfl, X.out.e 11 rfl rfl];clear X gs1;go_upto_region 3 with fail
 refine reg [eP zz 2, .eq (.string c), .gen (pT3 (fB p2) (pRn p2) (pEq (.bool b2))), .gen (pT3 (fB p2) (pRn p2) (pEq (.bool b2))), gN p2, gR p2, eB b2, .any, .any, .any, .any, eB b2] [] [⟨7, 28, [.b, .s, .s], zN, .s 9 4⟩, ⟨8, 33, [.i, .s, .s], zR, .s 10 5⟩] [] gs2 (fun Z => ?_) fun v3 w3 X gs3 => ?_
 ·refine JC.p Z $ JW.ce 0 2 eqC Z $ JW.ca (fun Y => (zV c _ (hT.q Y.q) HLc.out).mono (by rintro e W9 ⟨x9, y9, rfl, hx9, hy9, hq9⟩; exact ⟨(.tuple #[x9, y9, .bool (decide ((aH c.data.toList).1 = 0))]), rfl, ⟨_, _, _, rfl, (by have h7 := hx9; rw [Hp2.out] at h7; exact h7), (by have h7 := hy9; rw [Hp2.out] at h7; exact h7), congrArg Value.bool Hb2.out⟩, hq9⟩)) Z $ JC.m 2 Z $ JW.x3 3 0 Z $ JW.x3 3 1 Z $ JW.x3 3 2 Z $ JC.al (n := 9) shN Z $ JC.al (n := 10) shR Z $ JC.s3 (n := 9) rfl iO Z $ JC.s3 (n := 10) rfl fRn Z $ JC.p Z $ Ja.Steps.nil
 rw [X.out.f 7 rfl, X.out.f 8 rfl, X.out.e 11 rfl rfl];clear X gs2;go_upto_region 4 with fail
 refine reg [eP zz 3, .eq (.string d), .gen (pT3 (fB p3) (pRn p3) (pEq (.bool b3))), .gen (pT3 (fB p3) (pRn p3) (pEq (.bool b3))), gN p3, gR p3, eB b3, .any, .any, .any, .any, eB b3] [] [⟨7, 28, [.b, .s, .s], zN, .s 9 4⟩, ⟨8, 33, [.i, .s, .s], zR, .s 10 5⟩] [] gs3 (fun Z => ?_) fun v4 w4 X gs4 => ?_
 ·refine JC.p Z $ JW.ce 0 3 eqC Z $ JW.ca (fun Y => (zV d _ (hT.q Y.q) HLd.out).mono (by rintro e W9 ⟨x9, y9, rfl, hx9, hy9, hq9⟩; exact ⟨(.tuple #[x9, y9, .bool (decide ((aH d.data.toList).1 = 0))]), rfl, ⟨_, _, _, rfl, (by have h7 := hx9; rw [Hp3.out] at h7; exact h7), (by have h7 := hy9; rw [Hp3.out] at h7; exact h7), congrArg Value.bool Hb3.out⟩, hq9⟩)) Z $ JC.m 2 Z $ JW.x3 3 0 Z $ JW.x3 3 1 Z $ JW.x3 3 2 Z $ JC.al (n := 11) shN Z $ JC.al (n := 12) shR Z $ JC.s3 (n := 11) rfl iO Z $ JC.s3 (n := 12) rfl fRn Z $ JC.p Z $ Ja.Steps.nil
 rw [X.out.f 7 rfl, X.out.f 8 rfl, X.out.e 11 rfl rfl];clear X gs3;go_upto_region 5 with fail
 go_cut [6] from 47 to 68 (fun bv w1 => bv = .bool (okF a b c d) ∧ ∃ cs9 t u x y, Hid (St w cs9 [] w1) ∧ cs9[1]? = some ⟨(zz + 1), 30, [.b, .s, .s, .b, .s, .s], t, gS p0 p1⟩ ∧ cs9[2]? = some ⟨(zz + 1 + 1), 30, [.b, .s, .s, .b, .s, .s], u, gS p2 p3⟩ ∧ cs9[3]? = some ⟨(zz + 1 + 1 + 1), 35, [.i, .s, .s, .i, .s, .s], x, gT p0 p1⟩ ∧ cs9[4]? = some ⟨(zz + 1 + 1 + 1 + 1), 35, [.i, .s, .s, .i, .s, .s], y, gT p2 p3⟩)
 case first =>
  by_cases hV0 : b0 = true
  ·have HV0 := yW hV0; clear hV0;obtain rfl : b0 = true := HV0.out;by_cases hV1 : b1 = true
   ·have HV1 := yW hV1; clear hV1;obtain rfl : b1 = true := HV1.out;by_cases hV2 : b2 = true
    ·have HV2 := yW hV2; clear hV2;obtain rfl : b2 = true := HV2.out;by_cases hV3 : b3 = true
     ·have HV3 := yW hV3; clear hV3;obtain rfl : b3 = true := HV3.out;refine reg [gN p0, gN p1, gS p0 p1, gN p2, gN p3, gS p2 p3, gR p0, gR p1, gT p0 p1, gR p2, gR p3, gT p2 p3, eB true, eB true, eB true, eB true, eB true, eB true, eB true, eB true, eB true, eB true, .any, .any, .any, .any, eB true] [.k, .s 22 2, .s 23 5, .s 24 8, .s 25 11] [] [] gs4 (fun Z => ?_) fun v5 w5 X gs5 => ?_
      ·refine JW.ld 5 Z $ JW.ld 7 Z $ JC.bs 0 1 Z $ JW.ld 9 Z $ JW.ld 11 Z $ JC.bs 3 4 Z $ JW.ld 6 Z $ JW.ld 8 Z $ JC.bt 6 7 Z $ JW.ld 10 Z $ JW.ld 12 Z $ JC.bt 9 10 Z $ JC.p Z $ JC.p Z $ JC.p Z $ JC.p Z $ JC.p Z $ JC.p Z $ JC.p Z $ JC.p Z $ JC.p Z $ JC.p Z $ JC.s6 (n := 1) rfl aL Z $ JC.s6 (n := 2) rfl aL Z $ JC.s6 (n := 3) rfl fRs Z $ JC.s6 (n := 4) rfl fRs Z $ JC.p Z $ Ja.Steps.nil
      rw [X.out.e 26 rfl rfl];clear X gs4;have hok : okF a b c d = true := (by unfold okF; rw [Hb0.out, Hb1.out, Hb2.out, Hb3.out]; simp);go_wp2_with fail
      go_meet
      case rel => exact ⟨congrArg Value.bool hok.symm, _, _, _, _, _, gs5, rfl, rfl, rfl, rfl⟩
     ·have HV3 := yW hV3; clear hV3;obtain rfl : b3 = false := (by have h := HV3.out; rwa [Bool.not_eq_true] at h);refine reg [gN p0, gN p1, gS p0 p1, gN p2, gN p3, gS p2 p3, gR p0, gR p1, gT p0 p1, gR p2, gR p3, gT p2 p3, eB true, eB true, eB true, eB true, eB true, eB true, eB true, eB true, eB false, eB false, .any, .any, .any, .any, eB false] [.k, .s 22 2, .s 23 5, .s 24 8, .s 25 11] [] [] gs4 (fun Z => ?_) fun v5 w5 X gs5 => ?_
      ·refine JW.ld 5 Z $ JW.ld 7 Z $ JC.bs 0 1 Z $ JW.ld 9 Z $ JW.ld 11 Z $ JC.bs 3 4 Z $ JW.ld 6 Z $ JW.ld 8 Z $ JC.bt 6 7 Z $ JW.ld 10 Z $ JW.ld 12 Z $ JC.bt 9 10 Z $ JC.p Z $ JC.p Z $ JC.p Z $ JC.p Z $ JC.p Z $ JC.p Z $ JC.p Z $ JC.p Z $ JC.p Z $ JC.p Z $ JC.s6 (n := 1) rfl aL Z $ JC.s6 (n := 2) rfl aL Z $ JC.s6 (n := 3) rfl fRs Z $ JC.s6 (n := 4) rfl fRs Z $ JC.p Z $ Ja.Steps.nil
      rw [X.out.e 26 rfl rfl];clear X gs4;have hok : okF a b c d = false := (by unfold okF; rw [Hb0.out, Hb1.out, Hb2.out, Hb3.out]; simp);go_wp2_with fail
      go_meet
      case rel => exact ⟨congrArg Value.bool hok.symm, _, _, _, _, _, gs5, rfl, rfl, rfl, rfl⟩
    ·have HV2 := yW hV2; clear hV2;obtain rfl : b2 = false := (by have h := HV2.out; rwa [Bool.not_eq_true] at h);refine reg [gN p0, gN p1, gS p0 p1, gN p2, gN p3, gS p2 p3, gR p0, gR p1, gT p0 p1, gR p2, gR p3, gT p2 p3, eB true, eB true, eB true, eB true, eB true, eB false, eB false, eB false, .no, eB false, .any, .any, .any, .any, eB false] [.k, .s 22 2, .s 23 5, .s 24 8, .s 25 11] [] [] gs4 (fun Z => ?_) fun v5 w5 X gs5 => ?_
     ·refine JW.ld 5 Z $ JW.ld 7 Z $ JC.bs 0 1 Z $ JW.ld 9 Z $ JW.ld 11 Z $ JC.bs 3 4 Z $ JW.ld 6 Z $ JW.ld 8 Z $ JC.bt 6 7 Z $ JW.ld 10 Z $ JW.ld 12 Z $ JC.bt 9 10 Z $ JC.p Z $ JC.p Z $ JC.p Z $ JC.p Z $ JC.p Z $ JC.p Z $ JC.p Z $ JC.p Z $ JC.n Z $ JC.p Z $ JC.s6 (n := 1) rfl aL Z $ JC.s6 (n := 2) rfl aL Z $ JC.s6 (n := 3) rfl fRs Z $ JC.s6 (n := 4) rfl fRs Z $ JC.p Z $ Ja.Steps.nil
     rw [X.out.e 26 rfl rfl];clear X gs4;have hok : okF a b c d = false := (by unfold okF; rw [Hb0.out, Hb1.out, Hb2.out, Hb3.out]; simp);go_wp2_with fail
     go_meet
     case rel => exact ⟨congrArg Value.bool hok.symm, _, _, _, _, _, gs5, rfl, rfl, rfl, rfl⟩
   ·have HV1 := yW hV1; clear hV1;obtain rfl : b1 = false := (by have h := HV1.out; rwa [Bool.not_eq_true] at h);refine reg [gN p0, gN p1, gS p0 p1, gN p2, gN p3, gS p2 p3, gR p0, gR p1, gT p0 p1, gR p2, gR p3, gT p2 p3, eB true, eB true, eB false, eB false, eB false, .no, eB false, eB false, .no, eB false, .any, .any, .any, .any, eB false] [.k, .s 22 2, .s 23 5, .s 24 8, .s 25 11] [] [] gs4 (fun Z => ?_) fun v5 w5 X gs5 => ?_
    ·refine JW.ld 5 Z $ JW.ld 7 Z $ JC.bs 0 1 Z $ JW.ld 9 Z $ JW.ld 11 Z $ JC.bs 3 4 Z $ JW.ld 6 Z $ JW.ld 8 Z $ JC.bt 6 7 Z $ JW.ld 10 Z $ JW.ld 12 Z $ JC.bt 9 10 Z $ JC.p Z $ JC.p Z $ JC.p Z $ JC.p Z $ JC.p Z $ JC.n Z $ JC.p Z $ JC.p Z $ JC.n Z $ JC.p Z $ JC.s6 (n := 1) rfl aL Z $ JC.s6 (n := 2) rfl aL Z $ JC.s6 (n := 3) rfl fRs Z $ JC.s6 (n := 4) rfl fRs Z $ JC.p Z $ Ja.Steps.nil
    rw [X.out.e 26 rfl rfl];clear X gs4;have hok : okF a b c d = false := (by unfold okF; rw [Hb0.out, Hb1.out, Hb2.out, Hb3.out]; simp);go_wp2_with fail
    go_meet
    case rel => exact ⟨congrArg Value.bool hok.symm, _, _, _, _, _, gs5, rfl, rfl, rfl, rfl⟩
  ·have HV0 := yW hV0; clear hV0;obtain rfl : b0 = false := (by have h := HV0.out; rwa [Bool.not_eq_true] at h);refine reg [gN p0, gN p1, gS p0 p1, gN p2, gN p3, gS p2 p3, gR p0, gR p1, gT p0 p1, gR p2, gR p3, gT p2 p3, eB false, eB false, .no, eB false, eB false, .no, eB false, eB false, .no, eB false, .any, .any, .any, .any, eB false] [.k, .s 22 2, .s 23 5, .s 24 8, .s 25 11] [] [] gs4 (fun Z => ?_) fun v5 w5 X gs5 => ?_
   ·refine JW.ld 5 Z $ JW.ld 7 Z $ JC.bs 0 1 Z $ JW.ld 9 Z $ JW.ld 11 Z $ JC.bs 3 4 Z $ JW.ld 6 Z $ JW.ld 8 Z $ JC.bt 6 7 Z $ JW.ld 10 Z $ JW.ld 12 Z $ JC.bt 9 10 Z $ JC.p Z $ JC.p Z $ JC.n Z $ JC.p Z $ JC.p Z $ JC.n Z $ JC.p Z $ JC.p Z $ JC.n Z $ JC.p Z $ JC.s6 (n := 1) rfl aL Z $ JC.s6 (n := 2) rfl aL Z $ JC.s6 (n := 3) rfl fRs Z $ JC.s6 (n := 4) rfl fRs Z $ JC.p Z $ Ja.Steps.nil
   rw [X.out.e 26 rfl rfl];clear X gs4;have hok : okF a b c d = false := (by unfold okF; rw [Hb0.out, Hb1.out, Hb2.out, Hb3.out]; simp);go_wp2_with fail
   go_meet
   case rel => exact ⟨congrArg Value.bool hok.symm, _, _, _, _, _, gs5, rfl, rfl, rfl, rfl⟩
 case rest =>
  obtain ⟨rfl, cs9, t, u, x, y, gs9, i1, i2, i3, i4⟩ := hcut; generalize wc = w9 at *; clear gs4;go_wp2_with fail
  obtain ⟨rp0, rp1, rp2, rp3, rp4, rp5, hP9, nP9⟩ := St.o6 gs9 _ i1;obtain ⟨rq0, rq1, rq2, rq3, rq4, rq5, hQ9, nQ9⟩ := St.o6 gs9 _ i2;obtain ⟨rr0, rr1, rr2, rr3, rr4, rr5, hR9, nR9⟩ := St.o6 gs9 _ i3;obtain ⟨rs0, rs1, rs2, rs3, rs4, rs5, hS9, nS9⟩ := St.o6 gs9 _ i4;have hG9 := gs9.out.q;have zP0 : w9.cell? ⟨(zz + 1), 0, none⟩ = some (rp0) := hP9.cell 0 rfl;have zP1 : w9.cell? ⟨(zz + 1), 1, none⟩ = some (rp1) := hP9.cell 1 rfl;have zP2 : w9.cell? ⟨(zz + 1), 2, none⟩ = some (rp2) := hP9.cell 2 rfl;have zP3 : w9.cell? ⟨(zz + 1), 3, none⟩ = some (rp3) := hP9.cell 3 rfl;have zP4 : w9.cell? ⟨(zz + 1), 4, none⟩ = some (rp4) := hP9.cell 4 rfl;have zP5 : w9.cell? ⟨(zz + 1), 5, none⟩ = some (rp5) := hP9.cell 5 rfl;have zQ0 : w9.cell? ⟨(zz + 1 + 1), 0, none⟩ = some (rq0) := hQ9.cell 0 rfl;have zQ1 : w9.cell? ⟨(zz + 1 + 1), 1, none⟩ = some (rq1) := hQ9.cell 1 rfl;have zQ2 : w9.cell? ⟨(zz + 1 + 1), 2, none⟩ = some (rq2) := hQ9.cell 2 rfl;have zQ3 : w9.cell? ⟨(zz + 1 + 1), 3, none⟩ = some (rq3) := hQ9.cell 3 rfl;have zQ4 : w9.cell? ⟨(zz + 1 + 1), 4, none⟩ = some (rq4) := hQ9.cell 4 rfl;have zQ5 : w9.cell? ⟨(zz + 1 + 1), 5, none⟩ = some (rq5) := hQ9.cell 5 rfl;have zR0 : w9.cell? ⟨(zz + 1 + 1 + 1), 0, none⟩ = some (rr0) := hR9.cell 0 rfl;have zR1 : w9.cell? ⟨(zz + 1 + 1 + 1), 1, none⟩ = some (rr1) := hR9.cell 1 rfl;have zR2 : w9.cell? ⟨(zz + 1 + 1 + 1), 2, none⟩ = some (rr2) := hR9.cell 2 rfl;have zR3 : w9.cell? ⟨(zz + 1 + 1 + 1), 3, none⟩ = some (rr3) := hR9.cell 3 rfl;have zR4 : w9.cell? ⟨(zz + 1 + 1 + 1), 4, none⟩ = some (rr4) := hR9.cell 4 rfl;have zR5 : w9.cell? ⟨(zz + 1 + 1 + 1), 5, none⟩ = some (rr5) := hR9.cell 5 rfl;have zS0 : w9.cell? ⟨(zz + 1 + 1 + 1 + 1), 0, none⟩ = some (rs0) := hS9.cell 0 rfl;have zS1 : w9.cell? ⟨(zz + 1 + 1 + 1 + 1), 1, none⟩ = some (rs1) := hS9.cell 1 rfl;have zS2 : w9.cell? ⟨(zz + 1 + 1 + 1 + 1), 2, none⟩ = some (rs2) := hS9.cell 2 rfl;have zS3 : w9.cell? ⟨(zz + 1 + 1 + 1 + 1), 3, none⟩ = some (rs3) := hS9.cell 3 rfl;have zS4 : w9.cell? ⟨(zz + 1 + 1 + 1 + 1), 4, none⟩ = some (rs4) := hS9.cell 4 rfl;have zS5 : w9.cell? ⟨(zz + 1 + 1 + 1 + 1), 5, none⟩ = some (rs5) := hS9.cell 5 rfl;refine bodyPost_ret (v := .tuple #[.agg #[rp0, rp1, rp2, rp3, rp4, rp5], .agg #[rq0, rq1, rq2, rq3, rq4, rq5], .agg #[rr0, rr1, rr2, rr3, rr4, rr5], .agg #[rs0, rs1, rs2, rs3, rs4, rs5], .bool (okF a b c d)]) (by simp [results, Tryz.results4, go_sem, zP0, zP1, zP2, zP3, zP4, zP5, zQ0, zQ1, zQ2, zQ3, zQ4, zQ5, zR0, zR1, zR2, zR3, zR4, zR5, zS0, zS1, zS2, zS3, zS4, zS5]) rfl ?_;exact ⟨_, _, _, _, rfl, by rw [Hp0.out, Hp1.out]; exact nP9, by rw [Hp2.out, Hp3.out]; exact nQ9, by rw [Hp0.out, Hp1.out]; exact nR9, by rw [Hp2.out, Hp3.out]; exact nS9, hG9⟩
theorem mY (a b c d : Rat) : sz (aY a b c d) ≤ 2 * (sz a + sz b + sz c + sz d) := by
 have h1 := gB a c; have h2 := gB a d; have h3 := gB b c; have h4 := gB b d;rcases wC a b c d with h | h | h | h <;> rw [h] <;> omega
theorem mZ (a b c d : Rat) : sz (aZ a b c d) ≤ 2 * (sz a + sz b + sz c + sz d) := by
 have h1 := gB a c; have h2 := gB a d; have h3 := gB b c; have h4 := gB b d;rcases wD a b c d with h | h | h | h <;> rw [h] <;> omega
theorem nW (a b : Value) (p q pb qb : Rat) (w : World) (hT : Tb w) (ha : Ns w a p q) (hb : Ns w b pb qb) (h0 : 0 ≤ p) (h1 : p ≤ q) (h2 : pb ≤ qb) (hB : sz p + sz q + sz pb + sz qb ≤ 100000000) :
  Calls Tryz.prog 53 #[a, b] w fun e w' => ∃ r, e = .returned r ∧ Ns w' r (aY p q pb qb) (aZ p q pb qb) ∧ Q w w' := by
 obtain ⟨a0, a1, a2, a3, a4, a5, rfl, jA⟩ := fmS ha;obtain ⟨b0, b1, b2, b3, b4, b5, rfl, jB⟩ := fmS hb;obtain ⟨w0, hW, hG0, hA0, hB0, hT0⟩ := gQ w 30 [a0, a1, a2, a3, a4, a5] 30 [b0, b1, b2, b3, b4, b5] 30 [.bool false, .slice none 0 0, .slice none 0 0, .bool false, .slice none 0 0, .slice none 0 0];have gs0 := yW (sbS hA0 jA ha (sbS hB0 jB hb (sbZ shS hT0 (St.nil hG0))));clear hG0 hA0 hB0 hT0;obtain ⟨Z1, Z2, Z3, Z4⟩ := bz4 hB;have ZS := yW hB; clear hB;go_enter Tryz.func53, Tryz.ntmps53
 go_upto_region 1 with fail
 clear hW;generalize w.heap.size = zz at *
 have hp0 : Hid (¬ p < 0) := yW (Rat.not_lt.2 h0);have hq0 : Hid (¬ q < 0) := yW (Rat.not_lt.2 (Rat.le_trans h0 h1));have H0 := yW h0; have H1 := yW h1; have H2 := yW h2; clear h0 h1 h2;refine reg [eP zz 0, eP zz 0, eB false, eB false, .no, .no, .no, .no, eB false, eB false, .no, .no, .no, eB false, eB false, .no, .no, .no, .no, eB false, eB false] [] [] [] gs0 (fun Z => ?_) fun v1 w1 X gs1 => ?_
 ·refine JC.p Z $ JC.p Z $ JW.ce 0 0 (ns0 (decide_eq_false (hp0.out))) Z $ JC.p Z $ JC.n Z $ JC.n Z $ JC.n Z $ JC.n Z $ JC.p Z $ JC.p Z $ JC.n Z $ JC.n Z $ JC.n Z $ JC.p Z $ JC.p Z $ JC.n Z $ JC.n Z $ JC.n Z $ JC.n Z $ JC.p Z $ JC.p Z $ Ja.Steps.nil
 rw [X.out.e 20 rfl rfl];clear X gs0;go_upto_region 3 with fail
 refine reg [eP zz 3, eP zz 3, eB false, eB false] [] [] [] gs1 (fun Z => ?_) fun v2 w2 X gs2 => ?_
 ·refine JC.p Z $ JC.p Z $ JW.ce 0 3 (ns3 (decide_eq_false (hq0.out))) Z $ JC.p Z $ Ja.Steps.nil
 rw [X.out.e 3 rfl rfl];clear X gs1;go_upto_region 5 with fail
 refine reg [eP zz 0, eP zz 0, eB false, eB false] [] [] [] gs2 (fun Z => ?_) fun v3 w3 X gs3 => ?_
 ·refine JC.p Z $ JC.p Z $ JW.ce 0 0 (ns0 (decide_eq_false (hp0.out))) Z $ JC.p Z $ Ja.Steps.nil
 rw [X.out.e 3 rfl rfl];clear X gs2;go_upto_region 7 with fail
 refine reg [eP zz 0, gN p, eP zz 3, gN q, .any, .any, .any, .any] [] [⟨4, 28, [.b, .s, .s], zN, .s 6 1⟩, ⟨5, 28, [.b, .s, .s], zN, .s 7 3⟩] [] gs3 (fun Z => ?_) fun v4 w4 X gs4 => ?_
 ·refine JC.p Z $ JW.pt 0 0 Z $ JC.p Z $ JW.pt 0 3 Z $ JC.al (n := 3) shN Z $ JC.al (n := 4) shN Z $ JC.s3 (n := 3) rfl iO Z $ JC.s3 (n := 4) rfl iO Z $ Ja.Steps.nil
 rw [X.out.f 4 rfl, X.out.f 5 rfl];clear X gs3;go_upto_region 8 with fail
 by_cases h3 : pb < 0
 ·have H3 := yW h3; clear h3;refine reg [eP ((zz + 1)) 0, eP ((zz + 1)) 0, eB true] [] [] [] gs4 (fun Z => ?_) fun v5 w5 X gs5 => ?_
  ·refine JC.p Z $ JC.p Z $ JW.ce 1 0 (ns0 (decide_eq_true (H3.out))) Z $ Ja.Steps.nil
  rw [X.out.e 2 rfl rfl];clear X gs4;go_upto_region 9 with fail
  refine reg [eP zz 3, gN q, .any] [.k, .k, .k, .s 2 1] [] [] gs5 (fun Z => ?_) fun v6 w6 X gs6 => ?_
  ·refine JC.p Z $ JW.pt 0 3 Z $ JC.s3 (n := 3) rfl iO Z $ Ja.Steps.nil
  clear X gs5;go_upto_region 10 with fail
  by_cases h4 : qb < 0
  ·have H4 := yW h4; clear h4;refine reg [eP ((zz + 1)) 3, eP ((zz + 1)) 3, eB true] [] [] [] gs6 (fun Z => ?_) fun v7 w7 X gs7 => ?_
   ·refine JC.p Z $ JC.p Z $ JW.ce 1 3 (ns3 (decide_eq_true (H4.out))) Z $ Ja.Steps.nil
   rw [X.out.e 2 rfl rfl];clear X gs6;go_upto_region 11 with fail
   refine reg [eP zz 0, gN p, .any] [.k, .k, .k, .k, .s 2 1] [] [] gs7 (fun Z => ?_) fun v8 w8 X gs8 => ?_
   ·refine JC.p Z $ JW.pt 0 0 Z $ JC.s3 (n := 4) rfl iO Z $ Ja.Steps.nil
   clear X gs7;go_upto_region 12 with fail
   have Z5 := kS Z2 Z3;have Z6 := kS Z1 Z4;refine reg [gN q, eP ((zz + 1)) 0, gN pb, gN ((q) * (pb)), gN p, eP ((zz + 1)) 3, gN qb, gN ((p) * (qb)), gS ((q) * (pb)) ((p) * (qb)), .any] [.k, .k, .s 9 8] [] [] gs8 (fun Z => ?_) fun v9 w9 X gs9 => ?_
   ·refine JW.ld 3 Z $ JC.p Z $ JW.pt 1 0 Z $ JW.ca (fun Y => iL _ _ _ _ _ (hT.q Y.q) (Y.d 0) (Y.d 2) (bb2 Z2 Z3)) Z $ JW.ld 4 Z $ JC.p Z $ JW.pt 1 3 Z $ JW.ca (fun Y => iL _ _ _ _ _ (hT.q Y.q) (Y.d 4) (Y.d 6) (bb2 Z1 Z4)) Z $ JC.bs 3 7 Z $ JC.s6 (n := 2) rfl aL Z $ Ja.Steps.nil
   clear X gs8;go_wp2_with fail
   have hps := xO H0.out H1.out H2.out;rw [if_pos H3.out, if_pos H4.out] at hps;exact eQ 2 gs9 (hR := fun h hq => by have h : Ns w9 (v9 8) ((q) * (pb)) ((p) * (qb)) := h; rw [hps.1, hps.2] at h; exact ⟨_, rfl, h, hq⟩)
  ·have H4 := yW h4; clear h4;refine reg [eP ((zz + 1)) 3, eP ((zz + 1)) 3, eB false] [] [] [] gs6 (fun Z => ?_) fun v7 w7 X gs7 => ?_
   ·refine JC.p Z $ JC.p Z $ JW.ce 1 3 (ns3 (decide_eq_false (H4.out))) Z $ Ja.Steps.nil
   rw [X.out.e 2 rfl rfl];clear X gs6;go_upto_region 12 with fail
   have Z5 := kS Z2 Z3;have Z6 := kS Z2 Z4;refine reg [gN q, eP ((zz + 1)) 0, gN pb, gN ((q) * (pb)), gN q, eP ((zz + 1)) 3, gN qb, gN ((q) * (qb)), gS ((q) * (pb)) ((q) * (qb)), .any] [.k, .k, .s 9 8] [] [] gs7 (fun Z => ?_) fun v8 w8 X gs8 => ?_
   ·refine JW.ld 3 Z $ JC.p Z $ JW.pt 1 0 Z $ JW.ca (fun Y => iL _ _ _ _ _ (hT.q Y.q) (Y.d 0) (Y.d 2) (bb2 Z2 Z3)) Z $ JW.ld 4 Z $ JC.p Z $ JW.pt 1 3 Z $ JW.ca (fun Y => iL _ _ _ _ _ (hT.q Y.q) (Y.d 4) (Y.d 6) (bb2 Z2 Z4)) Z $ JC.bs 3 7 Z $ JC.s6 (n := 2) rfl aL Z $ Ja.Steps.nil
   clear X gs7;go_wp2_with fail
   have hps := xO H0.out H1.out H2.out;rw [if_pos H3.out, if_neg H4.out] at hps;exact eQ 2 gs8 (hR := fun h hq => by have h : Ns w8 (v8 8) ((q) * (pb)) ((q) * (qb)) := h; rw [hps.1, hps.2] at h; exact ⟨_, rfl, h, hq⟩)
 ·have H3 := yW h3; clear h3;have H4 : Hid (¬ qb < 0) := yW (fun h => H3.out (by have := H2.out; grind));refine reg [eP ((zz + 1)) 0, eP ((zz + 1)) 0, eB false] [] [] [] gs4 (fun Z => ?_) fun v5 w5 X gs5 => ?_
  ·refine JC.p Z $ JC.p Z $ JW.ce 1 0 (ns0 (decide_eq_false (H3.out))) Z $ Ja.Steps.nil
  rw [X.out.e 2 rfl rfl];clear X gs4;go_upto_region 10 with fail
  refine reg [eP ((zz + 1)) 3, eP ((zz + 1)) 3, eB false] [] [] [] gs5 (fun Z => ?_) fun v6 w6 X gs6 => ?_
  ·refine JC.p Z $ JC.p Z $ JW.ce 1 3 (ns3 (decide_eq_false (H4.out))) Z $ Ja.Steps.nil
  rw [X.out.e 2 rfl rfl];clear X gs5;go_upto_region 12 with fail
  have Z5 := kS Z1 Z3;have Z6 := kS Z2 Z4;refine reg [gN p, eP ((zz + 1)) 0, gN pb, gN ((p) * (pb)), gN q, eP ((zz + 1)) 3, gN qb, gN ((q) * (qb)), gS ((p) * (pb)) ((q) * (qb)), .any] [.k, .k, .s 9 8] [] [] gs6 (fun Z => ?_) fun v7 w7 X gs7 => ?_
  ·refine JW.ld 3 Z $ JC.p Z $ JW.pt 1 0 Z $ JW.ca (fun Y => iL _ _ _ _ _ (hT.q Y.q) (Y.d 0) (Y.d 2) (bb2 Z1 Z3)) Z $ JW.ld 4 Z $ JC.p Z $ JW.pt 1 3 Z $ JW.ca (fun Y => iL _ _ _ _ _ (hT.q Y.q) (Y.d 4) (Y.d 6) (bb2 Z2 Z4)) Z $ JC.bs 3 7 Z $ JC.s6 (n := 2) rfl aL Z $ Ja.Steps.nil
  clear X gs6;go_wp2_with fail
  have hps := xO H0.out H1.out H2.out;rw [if_neg H3.out, if_neg H4.out] at hps;exact eQ 2 gs7 (hR := fun h hq => by have h : Ns w7 (v7 8) ((p) * (pb)) ((q) * (qb)) := h; rw [hps.1, hps.2] at h; exact ⟨_, rfl, h, hq⟩)
theorem uK (a b : Value) (p q pb qb : Rat) (w : World) (hT : Tb w) (ha : Ns w a p q) (hb : Ns w b pb qb) (h0 : q < 0) (h1 : p ≤ q) (h2 : pb ≤ qb) (hB : sz p + sz q + sz pb + sz qb ≤ 100000000) :
  Calls Tryz.prog 53 #[a, b] w fun e w' => ∃ r, e = .returned r ∧ Ns w' r (aY p q pb qb) (aZ p q pb qb) ∧ Q w w' := by
 obtain ⟨a0, a1, a2, a3, a4, a5, rfl, jA⟩ := fmS ha;obtain ⟨b0, b1, b2, b3, b4, b5, rfl, jB⟩ := fmS hb;obtain ⟨w0, hW, hG0, hA0, hB0, hT0⟩ := gQ w 30 [a0, a1, a2, a3, a4, a5] 30 [b0, b1, b2, b3, b4, b5] 30 [.bool false, .slice none 0 0, .slice none 0 0, .bool false, .slice none 0 0, .slice none 0 0];have gs0 := yW (sbS hA0 jA ha (sbS hB0 jB hb (sbZ shS hT0 (St.nil hG0))));clear hG0 hA0 hB0 hT0;obtain ⟨Z1, Z2, Z3, Z4⟩ := bz4 hB;have ZS := yW hB; clear hB;go_enter Tryz.func53, Tryz.ntmps53
 go_upto_region 1 with fail
 clear hW;generalize w.heap.size = zz at *
 have hp0 : Hid (p < 0) := yW (by grind);have H0 := yW h0; have H1 := yW h1; have H2 := yW h2; clear h0 h1 h2;refine reg [eP zz 0, eP zz 0, eB true, eB true, eP zz 3, eP zz 3, eB true, eB false, eB false, eB false, .no, .no, .no, eB false, eB false, .no, .no, .no, .no, eB false, eB false] [] [] [] gs0 (fun Z => ?_) fun v1 w1 X gs1 => ?_
 ·refine JC.p Z $ JC.p Z $ JW.ce 0 0 (ns0 (decide_eq_true (hp0.out))) Z $ JC.p Z $ JC.p Z $ JC.p Z $ JW.ce 0 3 (ns3 (decide_eq_true (H0.out))) Z $ JC.p Z $ JC.p Z $ JC.p Z $ JC.n Z $ JC.n Z $ JC.n Z $ JC.p Z $ JC.p Z $ JC.n Z $ JC.n Z $ JC.n Z $ JC.n Z $ JC.p Z $ JC.p Z $ Ja.Steps.nil
 rw [X.out.e 20 rfl rfl];clear X gs0;go_upto_region 3 with fail
 refine reg [eP zz 3, eP zz 3, eB true, eB true] [] [] [] gs1 (fun Z => ?_) fun v2 w2 X gs2 => ?_
 ·refine JC.p Z $ JC.p Z $ JW.ce 0 3 (ns3 (decide_eq_true (H0.out))) Z $ JC.p Z $ Ja.Steps.nil
 rw [X.out.e 3 rfl rfl];clear X gs1;go_upto_region 4 with fail
 have Z5 := pJ Z2;have Z6 := pJ Z1;have Z7 : Hid (sz (aY (-(q)) (-(p)) (pb) (qb)) ≤ 800000000) := yW (by have h9 := mY (-(q)) (-(p)) (pb) (qb); have h0 := Z5.out; have h1 := Z6.out; have h2 := Z3.out; have h3 := Z4.out; omega);have Z8 : Hid (sz (aZ (-(q)) (-(p)) (pb) (qb)) ≤ 800000000) := yW (by have h9 := mZ (-(q)) (-(p)) (pb) (qb); have h0 := Z5.out; have h1 := Z6.out; have h2 := Z3.out; have h3 := Z4.out; omega);have B9 : Hid (sz (-(q)) + sz (-(p)) + sz (pb) + sz (qb) ≤ 100000000) := yW (by have h0 := Z5.out; have h1 := Z6.out; have h2 := Z3.out; have h3 := Z4.out; have hs := ZS.out; have e1 := fA p; have e2 := fA q; omega);have Z10 := pJ Z8;have Z11 := pJ Z7;refine reg [gS p q, gS (-(q)) (-(p)), gS pb qb, gS (aY (-(q)) (-(p)) pb qb) (aZ (-(q)) (-(p)) pb qb), gS (-(aZ (-(q)) (-(p)) pb qb)) (-(aY (-(q)) (-(p)) pb qb)), .any] [.k, .k, .s 5 4] [] [] gs2 (fun Z => ?_) fun v3 w3 X gs3 => ?_
 ·refine JW.ld 0 Z $ JW.ca (fun Y => rA _ _ _ _ (Y.d 0)) Z $ JW.ld 1 Z $ JW.ca (fun Y => nW _ _ (-(q)) (-(p)) pb qb _ (hT.q Y.q) (Y.d 1) (Y.d 2) (by have := H0.out; grind) (by have := H1.out; grind) H2.out B9.out) Z $ JW.ca (fun Y => rA _ _ _ _ (Y.d 3)) Z $ JC.s6 (n := 2) rfl aL Z $ Ja.Steps.nil
 clear X gs2;go_wp2_with fail
 have hps := aF3 p q pb qb;exact eQ 2 gs3 (hR := fun h hq => by have h : Ns w3 (v3 4) (-(aZ (-(q)) (-(p)) (pb) (qb))) (-(aY (-(q)) (-(p)) (pb) (qb))) := h; rw [hps.1, hps.2] at h; exact ⟨_, rfl, h, hq⟩)
theorem aAy (a b : Value) (p q pb qb : Rat) (w : World) (hT : Tb w) (ha : Ns w a p q) (hb : Ns w b pb qb) (h0 : p < 0) (h1 : ¬ q < 0) (h2 : pb < 0) (h3 : ¬ qb < 0) (hB : sz p + sz q + sz pb + sz qb ≤ 100000000) :
  Calls Tryz.prog 53 #[a, b] w fun e w' => ∃ r, e = .returned r ∧ Ns w' r (aY p q pb qb) (aZ p q pb qb) ∧ Q w w' := by
 obtain ⟨a0, a1, a2, a3, a4, a5, rfl, jA⟩ := fmS ha;obtain ⟨b0, b1, b2, b3, b4, b5, rfl, jB⟩ := fmS hb;obtain ⟨w0, hW, hG0, hA0, hB0, hT0⟩ := gQ w 30 [a0, a1, a2, a3, a4, a5] 30 [b0, b1, b2, b3, b4, b5] 30 [.bool false, .slice none 0 0, .slice none 0 0, .bool false, .slice none 0 0, .slice none 0 0];have gs0 := yW (sbS hA0 jA ha (sbS hB0 jB hb (sbZ shS hT0 (St.nil hG0))));clear hG0 hA0 hB0 hT0;obtain ⟨Z1, Z2, Z3, Z4⟩ := bz4 hB;have ZS := yW hB; clear hB;go_enter Tryz.func53, Tryz.ntmps53
 go_upto_region 1 with fail
 clear hW;generalize w.heap.size = zz at *
 have H0 := yW h0; have H1 := yW h1; have H2 := yW h2; have H3 := yW h3; clear h0 h1 h2 h3;refine reg [eP zz 0, eP zz 0, eB true, eB true, eP zz 3, eP zz 3, eB false, eB true, eB true, eB true, eP ((zz + 1)) 0, eP ((zz + 1)) 0, eB true, eB true, eB true, eP ((zz + 1)) 3, eP ((zz + 1)) 3, eB false, eB true, eB true, eB true] [] [] [] gs0 (fun Z => ?_) fun v1 w1 X gs1 => ?_
 ·refine JC.p Z $ JC.p Z $ JW.ce 0 0 (ns0 (decide_eq_true (H0.out))) Z $ JC.p Z $ JC.p Z $ JC.p Z $ JW.ce 0 3 (ns3 (decide_eq_false (H1.out))) Z $ JC.p Z $ JC.p Z $ JC.p Z $ JC.p Z $ JC.p Z $ JW.ce 1 0 (ns0 (decide_eq_true (H2.out))) Z $ JC.p Z $ JC.p Z $ JC.p Z $ JC.p Z $ JW.ce 1 3 (ns3 (decide_eq_false (H3.out))) Z $ JC.p Z $ JC.p Z $ JC.p Z $ Ja.Steps.nil
 rw [X.out.e 20 rfl rfl];clear X gs0;go_upto_region 2 with fail
 have Z5 := kS Z1 Z4;have Z6 := kS Z2 Z3;have Z7 := bO Z5 Z6;have Z8 := kS Z1 Z3;have Z9 := kS Z2 Z4;have Z10 := bL Z8 Z9;refine reg [eP zz 0, gN p, eP ((zz + 1)) 3, gN qb, gN ((p) * (qb)), eP zz 3, gN q, eP ((zz + 1)) 0, gN pb, gN ((q) * (pb)), gN (aB ((p) * (qb)) ((q) * (pb))), eP zz 0, gN p, eP ((zz + 1)) 0, gN pb, gN ((p) * (pb)), eP zz 3, gN q, eP ((zz + 1)) 3, gN qb, gN ((q) * (qb)), gN (aA ((p) * (pb)) ((q) * (qb))), gS (aB ((p) * (qb)) ((q) * (pb))) (aA ((p) * (pb)) ((q) * (qb))), .any] [.k, .k, .s 23 22] [] [] gs1 (fun Z => ?_) fun v2 w2 X gs2 => ?_
 ·refine JC.p Z $ JW.pt 0 0 Z $ JC.p Z $ JW.pt 1 3 Z $ JW.ca (fun Y => iL _ _ _ _ _ (hT.q Y.q) (Y.d 1) (Y.d 3) (bb2 Z1 Z4)) Z $ JC.p Z $ JW.pt 0 3 Z $ JC.p Z $ JW.pt 1 0 Z $ JW.ca (fun Y => iL _ _ _ _ _ (hT.q Y.q) (Y.d 6) (Y.d 8) (bb2 Z2 Z3)) Z $ JW.ca (fun Y => xY _ _ _ _ _ (Y.d 4) (Y.d 9) (bb2 Z5 Z6)) Z $ JC.p Z $ JW.pt 0 0 Z $ JC.p Z $ JW.pt 1 0 Z $ JW.ca (fun Y => iL _ _ _ _ _ (hT.q Y.q) (Y.d 12) (Y.d 14) (bb2 Z1 Z3)) Z $ JC.p Z $ JW.pt 0 3 Z $ JC.p Z $ JW.pt 1 3 Z $ JW.ca (fun Y => iL _ _ _ _ _ (hT.q Y.q) (Y.d 17) (Y.d 19) (bb2 Z2 Z4)) Z $ JW.ca (fun Y => qK _ _ _ _ _ (Y.d 15) (Y.d 20) (bb2 Z8 Z9)) Z $ JC.bs 10 21 Z $ JC.s6 (n := 2) rfl aL Z $ Ja.Steps.nil
 clear X gs1;go_wp2_with fail
 have hps := aEJ (Rat.le_of_lt H0.out) (Rat.not_lt.1 H1.out) (Rat.le_of_lt H2.out) (Rat.not_lt.1 H3.out);exact eQ 2 gs2 (hR := fun h hq => by have h : Ns w2 (v2 22) (aB ((p) * (qb)) ((q) * (pb))) (aA ((p) * (pb)) ((q) * (qb))) := h; rw [hps.1, hps.2] at h; exact ⟨_, rfl, h, hq⟩)
theorem aCs (a b : Value) (p q pb qb : Rat) (w : World) (hT : Tb w) (ha : Ns w a p q) (hb : Ns w b pb qb) (h0 : p < 0) (h1 : ¬ q < 0) (h3 : ¬ pb < 0) (h4 : p ≤ q) (h5 : pb ≤ qb) (hB : sz p + sz q + sz pb + sz qb ≤ 100000000) :
  Calls Tryz.prog 53 #[a, b] w fun e w' => ∃ r, e = .returned r ∧ Ns w' r (aY p q pb qb) (aZ p q pb qb) ∧ Q w w' := by
 obtain ⟨a0, a1, a2, a3, a4, a5, rfl, jA⟩ := fmS ha;obtain ⟨b0, b1, b2, b3, b4, b5, rfl, jB⟩ := fmS hb;obtain ⟨w0, hW, hG0, hA0, hB0, hT0⟩ := gQ w 30 [a0, a1, a2, a3, a4, a5] 30 [b0, b1, b2, b3, b4, b5] 30 [.bool false, .slice none 0 0, .slice none 0 0, .bool false, .slice none 0 0, .slice none 0 0];have gs0 := yW (sbS hA0 jA ha (sbS hB0 jB hb (sbZ shS hT0 (St.nil hG0))));clear hG0 hA0 hB0 hT0;obtain ⟨Z1, Z2, Z3, Z4⟩ := bz4 hB;have ZS := yW hB; clear hB;go_enter Tryz.func53, Tryz.ntmps53
 go_upto_region 1 with fail
 clear hW;generalize w.heap.size = zz at *
 have H0 := yW h0; have H1 := yW h1; have H3 := yW h3; have H4 := yW h4; have H5 := yW h5; clear h0 h1 h3 h4 h5;refine reg [eP zz 0, eP zz 0, eB true, eB true, eP zz 3, eP zz 3, eB false, eB true, eB true, eB true, eP ((zz + 1)) 0, eP ((zz + 1)) 0, eB false, eB false, eB false, .no, .no, .no, .no, eB false, eB false] [] [] [] gs0 (fun Z => ?_) fun v1 w1 X gs1 => ?_
 ·refine JC.p Z $ JC.p Z $ JW.ce 0 0 (ns0 (decide_eq_true (H0.out))) Z $ JC.p Z $ JC.p Z $ JC.p Z $ JW.ce 0 3 (ns3 (decide_eq_false (H1.out))) Z $ JC.p Z $ JC.p Z $ JC.p Z $ JC.p Z $ JC.p Z $ JW.ce 1 0 (ns0 (decide_eq_false (H3.out))) Z $ JC.p Z $ JC.p Z $ JC.n Z $ JC.n Z $ JC.n Z $ JC.n Z $ JC.p Z $ JC.p Z $ Ja.Steps.nil
 rw [X.out.e 20 rfl rfl];clear X gs0;go_upto_region 3 with fail
 refine reg [eP zz 3, eP zz 3, eB false, eB false] [] [] [] gs1 (fun Z => ?_) fun v2 w2 X gs2 => ?_
 ·refine JC.p Z $ JC.p Z $ JW.ce 0 3 (ns3 (decide_eq_false (H1.out))) Z $ JC.p Z $ Ja.Steps.nil
 rw [X.out.e 3 rfl rfl];clear X gs1;go_upto_region 5 with fail
 refine reg [eP zz 0, eP zz 0, eB true, eB true] [] [] [] gs2 (fun Z => ?_) fun v3 w3 X gs3 => ?_
 ·refine JC.p Z $ JC.p Z $ JW.ce 0 0 (ns0 (decide_eq_true (H0.out))) Z $ JC.p Z $ Ja.Steps.nil
 rw [X.out.e 3 rfl rfl];clear X gs2;go_upto_region 6 with fail
 have Z5 : Hid (sz (aY (pb) (qb) (p) (q)) ≤ 800000000) := yW (by have h9 := mY (pb) (qb) (p) (q); have h0 := Z3.out; have h1 := Z4.out; have h2 := Z1.out; have h3 := Z2.out; omega);have Z6 : Hid (sz (aZ (pb) (qb) (p) (q)) ≤ 800000000) := yW (by have h9 := mZ (pb) (qb) (p) (q); have h0 := Z3.out; have h1 := Z4.out; have h2 := Z1.out; have h3 := Z2.out; omega);have B7 : Hid (sz (pb) + sz (qb) + sz (p) + sz (q) ≤ 100000000) := yW (by have h0 := Z3.out; have h1 := Z4.out; have h2 := Z1.out; have h3 := Z2.out; have hs := ZS.out; have e1 := fA p; have e2 := fA q; omega);refine reg [gS pb qb, gS p q, gS (aY pb qb p q) (aZ pb qb p q), .any] [.k, .k, .s 3 2] [] [] gs3 (fun Z => ?_) fun v4 w4 X gs4 => ?_
 ·refine JW.ld 1 Z $ JW.ld 0 Z $ JW.ca (fun Y => nW _ _ pb qb p q _ (hT.q Y.q) (Y.d 0) (Y.d 1) (Rat.not_lt.1 H3.out) H5.out H4.out B7.out) Z $ JC.s6 (n := 2) rfl aL Z $ Ja.Steps.nil
 clear X gs3;go_wp2_with fail
 have hps := aAJ p q pb qb;exact eQ 2 gs4 (hR := fun h hq => by have h : Ns w4 (v4 2) (aY (pb) (qb) (p) (q)) (aZ (pb) (qb) (p) (q)) := h; rw [hps.1, hps.2] at h; exact ⟨_, rfl, h, hq⟩)
theorem aCt (a b : Value) (p q pb qb : Rat) (w : World) (hT : Tb w) (ha : Ns w a p q) (hb : Ns w b pb qb) (h0 : p < 0) (h1 : ¬ q < 0) (h3 : qb < 0) (h4 : p ≤ q) (h5 : pb ≤ qb) (hB : sz p + sz q + sz pb + sz qb ≤ 100000000) :
  Calls Tryz.prog 53 #[a, b] w fun e w' => ∃ r, e = .returned r ∧ Ns w' r (aY p q pb qb) (aZ p q pb qb) ∧ Q w w' := by
 obtain ⟨a0, a1, a2, a3, a4, a5, rfl, jA⟩ := fmS ha;obtain ⟨b0, b1, b2, b3, b4, b5, rfl, jB⟩ := fmS hb;obtain ⟨w0, hW, hG0, hA0, hB0, hT0⟩ := gQ w 30 [a0, a1, a2, a3, a4, a5] 30 [b0, b1, b2, b3, b4, b5] 30 [.bool false, .slice none 0 0, .slice none 0 0, .bool false, .slice none 0 0, .slice none 0 0];have gs0 := yW (sbS hA0 jA ha (sbS hB0 jB hb (sbZ shS hT0 (St.nil hG0))));clear hG0 hA0 hB0 hT0;obtain ⟨Z1, Z2, Z3, Z4⟩ := bz4 hB;have ZS := yW hB; clear hB;go_enter Tryz.func53, Tryz.ntmps53
 go_upto_region 1 with fail
 clear hW;generalize w.heap.size = zz at *
 have H6 : Hid (pb < 0) := yW (by grind);have H0 := yW h0; have H1 := yW h1; have H3 := yW h3; have H4 := yW h4; have H5 := yW h5; clear h0 h1 h3 h4 h5;refine reg [eP zz 0, eP zz 0, eB true, eB true, eP zz 3, eP zz 3, eB false, eB true, eB true, eB true, eP ((zz + 1)) 0, eP ((zz + 1)) 0, eB true, eB true, eB true, eP ((zz + 1)) 3, eP ((zz + 1)) 3, eB true, eB false, eB false, eB false] [] [] [] gs0 (fun Z => ?_) fun v1 w1 X gs1 => ?_
 ·refine JC.p Z $ JC.p Z $ JW.ce 0 0 (ns0 (decide_eq_true (H0.out))) Z $ JC.p Z $ JC.p Z $ JC.p Z $ JW.ce 0 3 (ns3 (decide_eq_false (H1.out))) Z $ JC.p Z $ JC.p Z $ JC.p Z $ JC.p Z $ JC.p Z $ JW.ce 1 0 (ns0 (decide_eq_true (H6.out))) Z $ JC.p Z $ JC.p Z $ JC.p Z $ JC.p Z $ JW.ce 1 3 (ns3 (decide_eq_true (H3.out))) Z $ JC.p Z $ JC.p Z $ JC.p Z $ Ja.Steps.nil
 rw [X.out.e 20 rfl rfl];clear X gs0;go_upto_region 3 with fail
 refine reg [eP zz 3, eP zz 3, eB false, eB false] [] [] [] gs1 (fun Z => ?_) fun v2 w2 X gs2 => ?_
 ·refine JC.p Z $ JC.p Z $ JW.ce 0 3 (ns3 (decide_eq_false (H1.out))) Z $ JC.p Z $ Ja.Steps.nil
 rw [X.out.e 3 rfl rfl];clear X gs1;go_upto_region 5 with fail
 refine reg [eP zz 0, eP zz 0, eB true, eB true] [] [] [] gs2 (fun Z => ?_) fun v3 w3 X gs3 => ?_
 ·refine JC.p Z $ JC.p Z $ JW.ce 0 0 (ns0 (decide_eq_true (H0.out))) Z $ JC.p Z $ Ja.Steps.nil
 rw [X.out.e 3 rfl rfl];clear X gs2;go_upto_region 6 with fail
 have Z5 : Hid (sz (aY (pb) (qb) (p) (q)) ≤ 800000000) := yW (by have h9 := mY (pb) (qb) (p) (q); have h0 := Z3.out; have h1 := Z4.out; have h2 := Z1.out; have h3 := Z2.out; omega);have Z6 : Hid (sz (aZ (pb) (qb) (p) (q)) ≤ 800000000) := yW (by have h9 := mZ (pb) (qb) (p) (q); have h0 := Z3.out; have h1 := Z4.out; have h2 := Z1.out; have h3 := Z2.out; omega);have B7 : Hid (sz (pb) + sz (qb) + sz (p) + sz (q) ≤ 100000000) := yW (by have h0 := Z3.out; have h1 := Z4.out; have h2 := Z1.out; have h3 := Z2.out; have hs := ZS.out; have e1 := fA p; have e2 := fA q; omega);refine reg [gS pb qb, gS p q, gS (aY pb qb p q) (aZ pb qb p q), .any] [.k, .k, .s 3 2] [] [] gs3 (fun Z => ?_) fun v4 w4 X gs4 => ?_
 ·refine JW.ld 1 Z $ JW.ld 0 Z $ JW.ca (fun Y => uK _ _ pb qb p q _ (hT.q Y.q) (Y.d 0) (Y.d 1) H3.out H5.out H4.out B7.out) Z $ JC.s6 (n := 2) rfl aL Z $ Ja.Steps.nil
 clear X gs3;go_wp2_with fail
 have hps := aAJ p q pb qb;exact eQ 2 gs4 (hR := fun h hq => by have h : Ns w4 (v4 2) (aY (pb) (qb) (p) (q)) (aZ (pb) (qb) (p) (q)) := h; rw [hps.1, hps.2] at h; exact ⟨_, rfl, h, hq⟩)
theorem aAY (a b : Value) (p q pb qb : Rat) (w : World) (hT : Tb w) (ha : Ns w a p q) (hb : Ns w b pb qb) (h1 : p ≤ q) (h2 : pb ≤ qb) (hB : sz p + sz q + sz pb + sz qb ≤ 100000000) :
  Calls Tryz.prog 53 #[a, b] w fun e w' => ∃ r, e = .returned r ∧ Ns w' r (aY p q pb qb) (aZ p q pb qb) ∧ Q w w' := by
 by_cases c1 : p < 0
 ·by_cases c2 : q < 0
  ·exact uK a b p q pb qb w hT ha hb c2 h1 h2 hB
  ·by_cases c3 : pb < 0
   ·by_cases c4 : qb < 0
    ·exact aCt a b p q pb qb w hT ha hb c1 c2 c4 h1 h2 hB
    ·exact aAy a b p q pb qb w hT ha hb c1 c2 c3 c4 hB
   ·exact aCs a b p q pb qb w hT ha hb c1 c2 c3 h1 h2 hB
 ·exact nW a b p q pb qb w hT ha hb (Rat.not_lt.1 c1) h1 h2 hB
def nX (a b c d : Rat) : Int × Rat × Rat := if c ≤ 0 ∧ 0 ≤ d then (8, 0, 0) else (0, aY a b d⁻¹ c⁻¹, aZ a b d⁻¹ c⁻¹)
theorem aFy (a b : Value) (p q pb qb : Rat) (w : World) (hT : Tb w) (ha : Ns w a p q) (hb : Ns w b pb qb) (hB : sz p + sz q + sz pb + sz qb ≤ 10000000) :
  Calls Tryz.prog 17 #[a, b] w fun e w' => ∃ r, e = .returned r ∧ Ns w' r (aY (aB p q) (aA p q) (aB pb qb) (aA pb qb)) (aZ (aB p q) (aA p q) (aB pb qb) (aA pb qb)) ∧ Q w w' := by
 obtain ⟨a0, a1, a2, a3, a4, a5, rfl, jA⟩ := fmS ha;obtain ⟨b0, b1, b2, b3, b4, b5, rfl, jB⟩ := fmS hb;obtain ⟨w0, hW, hG0, hA0, hB0, hT0⟩ := gQ w 30 [a0, a1, a2, a3, a4, a5] 30 [b0, b1, b2, b3, b4, b5] 30 [.bool false, .slice none 0 0, .slice none 0 0, .bool false, .slice none 0 0, .slice none 0 0];have gs0 := yW (sbS hA0 jA ha (sbS hB0 jB hb (sbZ shS hT0 (St.nil hG0))));clear hG0 hA0 hB0 hT0;obtain ⟨Z1, Z2, Z3, Z4⟩ := bz4 hB;have ZS := yW hB; clear hB;go_enter Tryz.func17, Tryz.ntmps17
 go_upto_region 1 with fail
 clear hW;generalize w.heap.size = zz at *
 have Z5 := bO Z1 Z2;have Z6 := bL Z1 Z2;have Z7 := bO Z3 Z4;have Z8 := bL Z3 Z4;have Z9 : Hid (sz (aY (aB (p) (q)) (aA (p) (q)) (aB (pb) (qb)) (aA (pb) (qb))) ≤ 160000000) := yW (by have h9 := mY (aB (p) (q)) (aA (p) (q)) (aB (pb) (qb)) (aA (pb) (qb)); have h0 := Z5.out; have h1 := Z6.out; have h2 := Z7.out; have h3 := Z8.out; omega);have Z10 : Hid (sz (aZ (aB (p) (q)) (aA (p) (q)) (aB (pb) (qb)) (aA (pb) (qb))) ≤ 160000000) := yW (by have h9 := mZ (aB (p) (q)) (aA (p) (q)) (aB (pb) (qb)) (aA (pb) (qb)); have h0 := Z5.out; have h1 := Z6.out; have h2 := Z7.out; have h3 := Z8.out; omega);have B11 : Hid (sz (aB (p) (q)) + sz (aA (p) (q)) + sz (aB (pb) (qb)) + sz (aA (pb) (qb)) ≤ 100000000) := yW (by have h0 := Z5.out; have h1 := Z6.out; have h2 := Z7.out; have h3 := Z8.out; have hs := ZS.out; have e1 := iF p q; have e2 := iG p q; have e3 := iF pb qb; have e4 := iG pb qb; omega);refine reg [gS p q, gS (aB p q) (aA p q), gS pb qb, gS (aB pb qb) (aA pb qb), gS (aY (aB p q) (aA p q) (aB pb qb) (aA pb qb)) (aZ (aB p q) (aA p q) (aB pb qb) (aA pb qb)), .any] [.k, .k, .s 5 4] [] [] gs0 (fun Z => ?_) fun v1 w1 X gs1 => ?_
 ·refine JW.ld 0 Z $ JW.ca (fun Y => dC _ _ _ _ (Y.d 0) (bb2 Z1 Z2)) Z $ JW.ld 1 Z $ JW.ca (fun Y => dC _ _ _ _ (Y.d 2) (bb2 Z3 Z4)) Z $ JW.ca (fun Y => aAY _ _ (aB p q) (aA p q) (aB pb qb) (aA pb qb) _ (hT.q Y.q) (Y.d 1) (Y.d 3) (iT _ _) (iT _ _) B11.out) Z $ JC.s6 (n := 2) rfl aL Z $ Ja.Steps.nil
 clear X gs0;go_wp2_with fail
 exact bT 2 gs1
theorem aFz (a b : Value) (p q pb qb : Rat) (w : World) (hT : Tb w) (ha : Ns w a p q) (hb : Ns w b pb qb) (hB : sz p + sz q + sz pb + sz qb ≤ 10000000) :
  Calls Tryz.prog 9 #[a, b] w fun e w' => ∃ r, e = .returned (.tuple #[r, .int .i64 (nX (aB p q) (aA p q) (aB pb qb) (aA pb qb)).1]) ∧ Ns w' r (nX (aB p q) (aA p q) (aB pb qb) (aA pb qb)).2.1 (nX (aB p q) (aA p q) (aB pb qb) (aA pb qb)).2.2 ∧ Q w w' := by
 obtain ⟨a0, a1, a2, a3, a4, a5, rfl, jA⟩ := fmS ha;obtain ⟨b0, b1, b2, b3, b4, b5, rfl, jB⟩ := fmS hb;obtain ⟨w0, hW, hG0, hA0, hB0, hT0⟩ := gQ w 30 [a0, a1, a2, a3, a4, a5] 30 [b0, b1, b2, b3, b4, b5] 30 [.bool false, .slice none 0 0, .slice none 0 0, .bool false, .slice none 0 0, .slice none 0 0];have gs0 := yW (sbS hA0 jA ha (sbS hB0 jB hb (sbZ shS hT0 (St.nil hG0))));clear hG0 hA0 hB0 hT0;obtain ⟨Z1, Z2, Z3, Z4⟩ := bz4 hB;have ZS := yW hB; clear hB;go_enter Tryz.func9, Tryz.ntmps9
 go_upto_region 1 with fail
 clear hW;generalize w.heap.size = zz at *
 have Z5 : Hid (sz (0) ≤ 2) := yW (jO);have Z6 := bO Z3 Z4;have Z7 := bL Z3 Z4;refine reg [gS pb qb, gS (aB pb qb) (aA pb qb), .any] [.k, .s 2 1] [] [] gs0 (fun Z => ?_) fun v1 w1 X gs1 => ?_
 ·refine JW.ld 1 Z $ JW.ca (fun Y => dC _ _ _ _ (Y.d 0) (bb2 Z3 Z4)) Z $ JC.s6 (n := 1) rfl aL Z $ Ja.Steps.nil
 clear X gs0;go_upto_region 2 with fail
 by_cases hM : aB (pb) (qb) ≤ 0 ∧ 0 ≤ aA (pb) (qb)
 ·have HM := yW hM; clear hM;have HR : Hid (nX (aB (p) (q)) (aA (p) (q)) (aB (pb) (qb)) (aA (pb) (qb)) = (8, 0, 0)) := yW (if_pos HM.out);have B8 : Hid (64 * (sz (aB (pb) (qb)) + sz (aA (pb) (qb)) + sz (0)) + 400 ≤ LIM) := yW (by have h0 := Z6.out; have h1 := Z7.out; have h2 := Z5.out; rw [aC]; omega);refine reg [gS (aB pb qb) (aA pb qb), gN 0, eB true] [] [] [] gs1 (fun Z => ?_) fun v2 w2 X gs2 => ?_
  ·refine JW.ld 1 Z $ ?_;refine JC.o Z ?_ ?_
   ·intro L vals W hL hJ hd K hK;go_simp
    exact hK.out (.agg #[.bool false, .slice none 0 0, .slice none 0 0]) _ _ (by kernel_rfl) (iU W) (Q.refl _)
   refine JW.ca (fun Y => (uD _ _ (aB pb qb) (aA pb qb) 0 _ (Y.d 0) (Y.d 1) B8.out).mono (mo1 (congrArg Value.bool (decide_eq_true HM.out)))) Z $ Ja.Steps.nil
  rw [X.out.e 2 rfl rfl];clear X gs1;go_upto_region 3 with fail
  refine reg [gS 0 0, .any, eI 8] [.k, .k, .s 1 0] [] [] gs2 (fun Z => ?_) fun v3 w3 X gs3 => ?_
  ·refine JC.o Z ?_ ?_
   ·intro L vals W hL hJ hd K hK;go_simp
    exact hK.out (.agg #[.bool false, .slice none 0 0, .slice none 0 0, .bool false, .slice none 0 0, .slice none 0 0]) _ _ (by kernel_rfl) ⟨_, _, _, _, _, _, _, _, _, _, _, _, _, _, rfl, iU W, iU W⟩ (Q.refl _)
   refine JC.s6 (n := 2) rfl aL Z $ JC.p Z $ Ja.Steps.nil
  rw [X.out.e 2 rfl rfl];clear X gs2;go_wp2_with fail
  exact iD (u := .int .i64 8) 2 gs3 (hR := fun h hq => by exact ⟨_, by rw [HR.out], by rw [HR.out]; exact h, hq⟩)
 ·have HM := yW hM; clear hM;have HR : Hid (nX (aB (p) (q)) (aA (p) (q)) (aB (pb) (qb)) (aA (pb) (qb)) = (0, aY (aB (p) (q)) (aA (p) (q)) (aA (pb) (qb))⁻¹ (aB (pb) (qb))⁻¹, aZ (aB (p) (q)) (aA (p) (q)) (aA (pb) (qb))⁻¹ (aB (pb) (qb))⁻¹)) := yW (if_neg HM.out);have HO : Hid (aB (pb) (qb) ≤ aA (pb) (qb)) := yW (iT pb qb);have HN1 : Hid ((aA (pb) (qb)).num ≠ 0) := yW (fun h => HM.out (by have h1 := Rat.num_eq_zero.1 h; have h2 := HO.out; grind));have HN2 : Hid ((aB (pb) (qb)).num ≠ 0) := yW (fun h => HM.out (by have h1 := Rat.num_eq_zero.1 h; have h2 := HO.out; grind));have HS : Hid (0 < aB (pb) (qb) ∨ aA (pb) (qb) < 0) := yW (by have h1 := HM.out; have h2 := HO.out; grind);have B8 : Hid (64 * (sz (aB (pb) (qb)) + sz (aA (pb) (qb)) + sz (0)) + 400 ≤ LIM) := yW (by have h0 := Z6.out; have h1 := Z7.out; have h2 := Z5.out; rw [aC]; omega);refine reg [gS (aB pb qb) (aA pb qb), gN 0, eB false] [] [] [] gs1 (fun Z => ?_) fun v2 w2 X gs2 => ?_
  ·refine JW.ld 1 Z $ ?_;refine JC.o Z ?_ ?_
   ·intro L vals W hL hJ hd K hK;go_simp
    exact hK.out (.agg #[.bool false, .slice none 0 0, .slice none 0 0]) _ _ (by kernel_rfl) (iU W) (Q.refl _)
   refine JW.ca (fun Y => (uD _ _ (aB pb qb) (aA pb qb) 0 _ (Y.d 0) (Y.d 1) B8.out).mono (mo1 (congrArg Value.bool (decide_eq_false HM.out)))) Z $ Ja.Steps.nil
  rw [X.out.e 2 rfl rfl];clear X gs1;go_upto_region 4 with fail
  have Z9 := bO Z1 Z2;have Z10 := bL Z1 Z2;have Z11 := aDQ Z7;have Z12 := aDQ Z6;have Z13 : Hid (sz (aY (aB (p) (q)) (aA (p) (q)) ((aA (pb) (qb))⁻¹) ((aB (pb) (qb))⁻¹)) ≤ 160000004) := yW (by have h9 := mY (aB (p) (q)) (aA (p) (q)) ((aA (pb) (qb))⁻¹) ((aB (pb) (qb))⁻¹); have h0 := Z9.out; have h1 := Z10.out; have h2 := Z11.out; have h3 := Z12.out; omega);have Z14 : Hid (sz (aZ (aB (p) (q)) (aA (p) (q)) ((aA (pb) (qb))⁻¹) ((aB (pb) (qb))⁻¹)) ≤ 160000004) := yW (by have h9 := mZ (aB (p) (q)) (aA (p) (q)) ((aA (pb) (qb))⁻¹) ((aB (pb) (qb))⁻¹); have h0 := Z9.out; have h1 := Z10.out; have h2 := Z11.out; have h3 := Z12.out; omega);have B15 : Hid (sz (aB (p) (q)) + sz (aA (p) (q)) + sz ((aA (pb) (qb))⁻¹) + sz ((aB (pb) (qb))⁻¹) ≤ 100000000) := yW (by have h0 := Z9.out; have h1 := Z10.out; have h2 := Z11.out; have h3 := Z12.out; have hs := ZS.out; have e1 := iF p q; have e2 := iG p q; have e3 := iF pb qb; have e4 := iG pb qb; have e5 := pG (aB (pb) (qb)); have e6 := pG (aA (pb) (qb)); omega);refine reg [gS p q, gS (aB p q) (aA p q), eP ((zz + 1)) 3, gN (aA pb qb), gN ((aA pb qb)⁻¹), eP ((zz + 1)) 0, gN (aB pb qb), gN ((aB pb qb)⁻¹), gS ((aA pb qb)⁻¹) ((aB pb qb)⁻¹), gS (aY (aB p q) (aA p q) ((aA pb qb)⁻¹) ((aB pb qb)⁻¹)) (aZ (aB p q) (aA p q) ((aA pb qb)⁻¹) ((aB pb qb)⁻¹)), .any, eI 0] [.k, .k, .s 10 9] [] [] gs2 (fun Z => ?_) fun v3 w3 X gs3 => ?_
  ·refine JW.ld 0 Z $ JW.ca (fun Y => dC _ _ _ _ (Y.d 0) (bb2 Z1 Z2)) Z $ JC.p Z $ JW.pt 1 3 Z $ JW.ca (fun Y => vG _ _ _ (Y.d 3) HN1.out) Z $ JC.p Z $ JW.pt 1 0 Z $ JW.ca (fun Y => vG _ _ _ (Y.d 6) HN2.out) Z $ JC.bs 4 7 Z $ JW.ca (fun Y => aAY _ _ (aB p q) (aA p q) ((aA pb qb)⁻¹) ((aB pb qb)⁻¹) _ (hT.q Y.q) (Y.d 1) (Y.d 8) (iT _ _) (aIh HO.out HS.out) B15.out) Z $ JC.s6 (n := 2) rfl aL Z $ JC.p Z $ Ja.Steps.nil
  rw [X.out.e 11 rfl rfl];clear X gs2;go_wp2_with fail
  exact iD (u := .int .i64 0) 2 gs3 (hR := fun h hq => by exact ⟨_, by rw [HR.out], by rw [HR.out]; exact h, hq⟩)
theorem aBj (x y : Value) (p q : Rat) (w : World) (hx : Rq w x p) (hy : Rq w y q) (hB : 1000 * (sz p + sz q) + 10000 ≤ LIM) :
  Calls Tryz.prog 64 #[x, y] w fun e w' => ∃ r, e = .returned r ∧ Rq w' r (p + q) ∧ Q w w' := by
 obtain ⟨x0, x1, x2, rfl, jX⟩ := fmR hx;obtain ⟨y0, y1, y2, rfl, jY⟩ := fmR hy;obtain ⟨w0, hW, hG0, hX0, hY0, hR0⟩ := gQ w 33 [x0, x1, x2] 33 [y0, y1, y2] 33 [.int .i64 0, .slice none 0 0, .slice none 0 0];have HB := yW hB; clear hB;have gs0 := yW (sbR hX0 jX hx (sbR hY0 jY hy (sbZ shR hR0 (St.nil hG0))));clear hG0 hX0 hY0 hR0;go_enter Tryz.func64, Tryz.ntmps64
 go_upto_region 1 with fail
 clear hW;generalize w.heap.size = zz at *
 by_cases hZ : p = 0
 ·have HZ := yW hZ; clear hZ;refine reg [eP zz 0, eI (sn p), eB true] [] [] [] gs0 (fun Z => ?_) fun v1 w1 X gs1 => ?_
  ·refine JC.p Z $ JW.ce 0 0 rn0 Z $ JC.u (.bool ((sn p) == (0))) (congrArg Value.bool (beq_iff_eq.2 (aM.2 HZ.out))) Z $ Ja.Steps.nil
  rw [X.out.e 2 rfl rfl];clear X gs0;go_upto_region 2 with fail
  refine reg [gR q, .any] [.k, .k, .s 1 0] [] [] gs1 (fun Z => ?_) fun v2 w2 X gs2 => ?_
  ·refine JW.ld 1 Z $ JC.s3 (n := 2) rfl fRn Z $ Ja.Steps.nil
  clear X gs1;go_wp2_with fail
  exact eQ 2 gs2 (hR := fun h hq => by exact ⟨_, rfl, (by rw [HZ.out, Rat.zero_add]; exact h), hq⟩)
 ·have HZ := yW hZ; clear hZ;refine reg [eP zz 0, eI (sn p), eB false] [] [] [] gs0 (fun Z => ?_) fun v1 w1 X gs1 => ?_
  ·refine JC.p Z $ JW.ce 0 0 rn0 Z $ JC.u (.bool ((sn p) == (0))) (congrArg Value.bool (beq_eq_false_iff_ne.2 (fun h9 => HZ.out (aM.1 h9)))) Z $ Ja.Steps.nil
  rw [X.out.e 2 rfl rfl];clear X gs0;go_upto_region 3 with fail
  by_cases hY : q = 0
  ·have HY := yW hY; clear hY;refine reg [eP ((zz + 1)) 0, eI (sn q), eB true] [] [] [] gs1 (fun Z => ?_) fun v2 w2 X gs2 => ?_
   ·refine JC.p Z $ JW.ce 1 0 rn0 Z $ JC.u (.bool ((sn q) == (0))) (congrArg Value.bool (beq_iff_eq.2 (aM.2 HY.out))) Z $ Ja.Steps.nil
   rw [X.out.e 2 rfl rfl];clear X gs1;go_upto_region 4 with fail
   refine reg [gR p, .any] [.k, .k, .s 1 0] [] [] gs2 (fun Z => ?_) fun v3 w3 X gs3 => ?_
   ·refine JW.ld 0 Z $ JC.s3 (n := 2) rfl fRn Z $ Ja.Steps.nil
   clear X gs2;go_wp2_with fail
   exact eQ 2 gs3 (hR := fun h hq => by exact ⟨_, rfl, (by rw [HY.out, Rat.add_zero]; exact h), hq⟩)
  ·have HY := yW hY; clear hY;refine reg [eP ((zz + 1)) 0, eI (sn q), eB false] [] [] [] gs1 (fun Z => ?_) fun v2 w2 X gs2 => ?_
   ·refine JC.p Z $ JW.ce 1 0 rn0 Z $ JC.u (.bool ((sn q) == (0))) (congrArg Value.bool (beq_eq_false_iff_ne.2 (fun h9 => HY.out (aM.1 h9)))) Z $ Ja.Steps.nil
   rw [X.out.e 2 rfl rfl];clear X gs1;go_upto_region 5 with fail
   refine reg [eP zz 1, .gen (aF ((p).num.natAbs)), eP ((zz + 1)) 1, .gen (aF ((q).num.natAbs)), eP zz 2, .gen (aF ((p).den)), .gen (aF ((p).num.natAbs)), .gen (aF ((q).num.natAbs)), .gen (aF ((p).den))] [] [] [6, 7, 8] gs2 (fun Z => ?_) fun v3 w3 X gs3 => ?_
   ·refine JC.p Z $ JW.ce 0 1 rn1 Z $ JC.p Z $ JW.ce 1 1 rn1 Z $ JC.p Z $ JW.ce 0 2 (rn2 HZ.out) Z $ JC.m 1 Z $ JC.m 3 Z $ JC.m 5 Z $ Ja.Steps.nil
   clear X gs2;go_upto_region 6 with fail
   by_cases hD : p.den = 1
   ·have HD := yW hD; clear hD;by_cases hE : q.den = 1
    ·have HE := yW hE; clear hE;refine reg [eP zz 2, .gen (aF ((p).den)), eB true, eB false, eB false, eP ((zz + 1)) 2, .gen (aF ((q).den)), eB true, eB false, eB false] [] [] [] gs3 (fun Z => ?_) fun v4 w4 X gs4 => ?_
     ·refine JC.p Z $ JW.ce 0 2 (rn2 HZ.out) Z $ JW.ca (fun Y => (mD _ ((p).den) true _ (Y.d 1) (decide_eq_true (HD.out))).mono mo0) Z $ JC.p Z $ JC.p Z $ JC.p Z $ JW.ce 1 2 (rn2 HY.out) Z $ JW.ca (fun Y => (mD _ ((q).den) true _ (Y.d 6) (decide_eq_true (HE.out))).mono mo0) Z $ JC.p Z $ JC.p Z $ Ja.Steps.nil
     rw [X.out.e 9 rfl rfl];clear X gs3;go_upto_region 8 with fail
     by_cases hS : sn p = sn q
     ·have HS := yW hS; clear hS;refine reg [eP zz 0, eI (sn p), eP ((zz + 1)) 0, eI (sn q), eB true] [] [] [] gs4 (fun Z => ?_) fun v5 w5 X gs5 => ?_
      ·refine JC.p Z $ JW.ce 0 0 rn0 Z $ JC.p Z $ JW.ce 1 0 rn0 Z $ JC.u (.bool ((sn p) == (sn q))) (congrArg Value.bool (beq_iff_eq.2 (HS.out))) Z $ Ja.Steps.nil
      rw [X.out.e 4 rfl rfl];clear X gs4;go_upto_region 9 with fail
      have N1 := jJ (zr p);have N2 := jJ (zr q);have N3 := aAw N1 N2;have N4 := kF (zr p);refine reg [eP zz 0, eI (sn p), .gen (aF ((p).num.natAbs)), .gen (aF ((q).num.natAbs)), .gen (aF (((p).num.natAbs) + ((q).num.natAbs))), .gen (aF ((p).den)), gR (p + q), .any] [.k, .k, .s 7 6] [] [] gs5 (fun Z => ?_) fun v6 w6 X gs6 => ?_
      ·refine JC.p Z $ JW.ce 0 0 rn0 Z $ JC.kp 3 _ rfl rfl Z $ JC.kp 4 _ rfl rfl Z $ JW.ca (fun Y => (pV _ _ _ _ _ (Y.d 2) (Y.d 3) (ha2 N1 HB (by omega)) (ha2 N2 HB (by omega))).mono mo4) Z $ JC.kp 5 _ rfl rfl Z $ JW.ca (fun Y => eG (sn p) _ _ (((p).num.natAbs) + ((q).num.natAbs)) ((p).den) (p + q) _ (Y.d 4) (Y.d 5) (fun _ => den_nz p) (sn3 p) (aD4 HD.out HE.out HS.out) (fun h9 => absurd h9 (Nat.ne_of_gt (den_nz p))) (ha2 N3 HB (by omega)) (ha2 N4 HB (by omega))) Z $ JC.s3 (n := 2) rfl fRn Z $ Ja.Steps.nil
      clear X gs5;go_wp2_with fail
      exact bT 2 gs6
     ·have HS := yW hS; clear hS;refine reg [eP zz 0, eI (sn p), eP ((zz + 1)) 0, eI (sn q), eB false] [] [] [] gs4 (fun Z => ?_) fun v5 w5 X gs5 => ?_
      ·refine JC.p Z $ JW.ce 0 0 rn0 Z $ JC.p Z $ JW.ce 1 0 rn0 Z $ JC.u (.bool ((sn p) == (sn q))) (congrArg Value.bool (beq_eq_false_iff_ne.2 (HS.out))) Z $ Ja.Steps.nil
      rw [X.out.e 4 rfl rfl];clear X gs4;go_upto_region 10 with fail
      have HO : Hid (sn q = -sn p) := yW (aCf HZ.out HY.out HS.out);by_cases hL : ((p).num.natAbs) < ((q).num.natAbs)
      ·have HL := yW hL; clear hL;have N1 := jJ (zr p);have N2 := jJ (zr q);refine reg [.gen (aF ((p).num.natAbs)), .gen (aF ((q).num.natAbs)), eI (cmp ((p).num.natAbs) ((q).num.natAbs)), eB true] [] [] [] gs5 (fun Z => ?_) fun v6 w6 X gs6 => ?_
       ·refine JC.kp 3 _ rfl rfl Z $ JC.kp 4 _ rfl rfl Z $ JW.ca (fun Y => (fD _ _ _ _ _ (Y.d 0) (Y.d 1) (ha2 N1 HB (by omega)) (ha2 N2 HB (by omega))).mono mo0) Z $ JC.u (.bool (decide ((cmp ((p).num.natAbs) ((q).num.natAbs)) < (0)))) (congrArg Value.bool (decide_eq_true (show ((cmp ((p).num.natAbs) ((q).num.natAbs) : Int) < 0) from lQ.2 HL.out))) Z $ Ja.Steps.nil
       rw [X.out.e 3 rfl rfl];clear X gs5;go_upto_region 11 with fail
       have N3 : Hid (dg B30 (((q).num.natAbs) - ((p).num.natAbs)) ≤ 3 * sz (q)) := aAx N2 _;have N4 := kF (zr p);refine reg [eP ((zz + 1)) 0, eI (sn q), .gen (aF ((q).num.natAbs)), .gen (aF ((p).num.natAbs)), .gen (aF (((q).num.natAbs) - ((p).num.natAbs))), .gen (aF ((p).den)), gR (p + q), .any] [.k, .k, .s 7 6] [] [] gs6 (fun Z => ?_) fun v7 w7 X gs7 => ?_
       ·refine JC.p Z $ JW.ce 1 0 rn0 Z $ JC.kp 4 _ rfl rfl Z $ JC.kp 3 _ rfl rfl Z $ JW.ca (fun Y => (kL _ _ _ _ _ (Y.d 2) (Y.d 3) (Nat.le_of_lt HL.out) (ha2 N2 HB (by omega))).mono mo4) Z $ JC.kp 5 _ rfl rfl Z $ JW.ca (fun Y => eG (sn q) _ _ (((q).num.natAbs) - ((p).num.natAbs)) ((p).den) (p + q) _ (Y.d 4) (Y.d 5) (fun _ => den_nz p) (sn3 q) (aD5 HD.out HE.out HO.out (Nat.le_of_lt HL.out)) (fun h9 => absurd h9 (Nat.ne_of_gt (den_nz p))) (ha2 N3 HB (by omega)) (ha2 N4 HB (by omega))) Z $ JC.s3 (n := 2) rfl fRn Z $ Ja.Steps.nil
       clear X gs6;go_wp2_with fail
       exact bT 2 gs7
      ·have HL := yW hL; clear hL;have HG : Hid (((q).num.natAbs) ≤ ((p).num.natAbs)) := yW (by have h9 := HL.out; omega);have N1 := jJ (zr p);have N2 := jJ (zr q);refine reg [.gen (aF ((p).num.natAbs)), .gen (aF ((q).num.natAbs)), eI (cmp ((p).num.natAbs) ((q).num.natAbs)), eB false] [] [] [] gs5 (fun Z => ?_) fun v6 w6 X gs6 => ?_
       ·refine JC.kp 3 _ rfl rfl Z $ JC.kp 4 _ rfl rfl Z $ JW.ca (fun Y => (fD _ _ _ _ _ (Y.d 0) (Y.d 1) (ha2 N1 HB (by omega)) (ha2 N2 HB (by omega))).mono mo0) Z $ JC.u (.bool (decide ((cmp ((p).num.natAbs) ((q).num.natAbs)) < (0)))) (congrArg Value.bool (decide_eq_false (show ¬ ((cmp ((p).num.natAbs) ((q).num.natAbs) : Int) < 0) from fun h9 => HL.out (lQ.1 h9)))) Z $ Ja.Steps.nil
       rw [X.out.e 3 rfl rfl];clear X gs5;go_upto_region 12 with fail
       have N3 : Hid (dg B30 (((p).num.natAbs) - ((q).num.natAbs)) ≤ 3 * sz (p)) := aAx N1 _;have N4 := kF (zr p);refine reg [eP zz 0, eI (sn p), .gen (aF ((p).num.natAbs)), .gen (aF ((q).num.natAbs)), .gen (aF (((p).num.natAbs) - ((q).num.natAbs))), .gen (aF ((p).den)), gR (p + q), .any] [.k, .k, .s 7 6] [] [] gs6 (fun Z => ?_) fun v7 w7 X gs7 => ?_
       ·refine JC.p Z $ JW.ce 0 0 rn0 Z $ JC.kp 3 _ rfl rfl Z $ JC.kp 4 _ rfl rfl Z $ JW.ca (fun Y => (kL _ _ _ _ _ (Y.d 2) (Y.d 3) HG.out (ha2 N1 HB (by omega))).mono mo4) Z $ JC.kp 5 _ rfl rfl Z $ JW.ca (fun Y => eG (sn p) _ _ (((p).num.natAbs) - ((q).num.natAbs)) ((p).den) (p + q) _ (Y.d 4) (Y.d 5) (fun _ => den_nz p) (sn3 p) (aD6 HD.out HE.out HO.out HG.out) (fun h9 => absurd h9 (Nat.ne_of_gt (den_nz p))) (ha2 N3 HB (by omega)) (ha2 N4 HB (by omega))) Z $ JC.s3 (n := 2) rfl fRn Z $ Ja.Steps.nil
       clear X gs6;go_wp2_with fail
       exact bT 2 gs7
    ·have HE := yW hE; clear hE;refine reg [eP zz 2, .gen (aF ((p).den)), eB true, eB false, eB false, eP ((zz + 1)) 2, .gen (aF ((q).den)), eB false, eB true, eB true] [] [] [] gs3 (fun Z => ?_) fun v4 w4 X gs4 => ?_
     ·refine JC.p Z $ JW.ce 0 2 (rn2 HZ.out) Z $ JW.ca (fun Y => (mD _ ((p).den) true _ (Y.d 1) (decide_eq_true (HD.out))).mono mo0) Z $ JC.p Z $ JC.p Z $ JC.p Z $ JW.ce 1 2 (rn2 HY.out) Z $ JW.ca (fun Y => (mD _ ((q).den) false _ (Y.d 6) (decide_eq_false (HE.out))).mono mo0) Z $ JC.p Z $ JC.p Z $ Ja.Steps.nil
     rw [X.out.e 9 rfl rfl];clear X gs3;go_upto_region 7 with fail
     have N1 := jJ (zr p);have N2 := kF (zr q);have N3 := rC N1 N2;have N4 := jJ (zr q);have N5 := kF (zr p);have N6 := rC N4 N5;have N7 := rC N5 N2;refine reg [eP zz 1, .gen (aF ((p).num.natAbs)), eP ((zz + 1)) 2, .gen (aF ((q).den)), .gen (aF (((p).num.natAbs) * ((q).den))), eP ((zz + 1)) 1, .gen (aF ((q).num.natAbs)), eP zz 2, .gen (aF ((p).den)), .gen (aF (((q).num.natAbs) * ((p).den))), eP zz 2, .gen (aF ((p).den)), eP ((zz + 1)) 2, .gen (aF ((q).den)), .gen (aF (((p).den) * ((q).den))), .gen (aF (((p).num.natAbs) * ((q).den))), .gen (aF (((q).num.natAbs) * ((p).den))), .gen (aF (((p).den) * ((q).den)))] [] [] [15, 16, 17] gs4 (fun Z => ?_) fun v5 w5 X gs5 => ?_
     ·refine JC.p Z $ JW.ce 0 1 rn1 Z $ JC.p Z $ JW.ce 1 2 (rn2 HY.out) Z $ JW.ca (fun Y => (iH _ _ _ _ _ (Y.d 1) (Y.d 3) (ha3 N1 N2 HB (by omega))).mono mo4) Z $ JC.p Z $ JW.ce 1 1 rn1 Z $ JC.p Z $ JW.ce 0 2 (rn2 HZ.out) Z $ JW.ca (fun Y => (iH _ _ _ _ _ (Y.d 6) (Y.d 8) (ha3 N4 N5 HB (by omega))).mono mo4) Z $ JC.p Z $ JW.ce 0 2 (rn2 HZ.out) Z $ JC.p Z $ JW.ce 1 2 (rn2 HY.out) Z $ JW.ca (fun Y => (iH _ _ _ _ _ (Y.d 11) (Y.d 13) (ha3 N5 N2 HB (by omega))).mono mo4) Z $ JC.m 4 Z $ JC.m 9 Z $ JC.m 14 Z $ Ja.Steps.nil
     clear X gs4;go_upto_region 8 with fail
     by_cases hS : sn p = sn q
     ·have HS := yW hS; clear hS;refine reg [eP zz 0, eI (sn p), eP ((zz + 1)) 0, eI (sn q), eB true] [] [] [] gs5 (fun Z => ?_) fun v6 w6 X gs6 => ?_
      ·refine JC.p Z $ JW.ce 0 0 rn0 Z $ JC.p Z $ JW.ce 1 0 rn0 Z $ JC.u (.bool ((sn p) == (sn q))) (congrArg Value.bool (beq_iff_eq.2 (HS.out))) Z $ Ja.Steps.nil
      rw [X.out.e 4 rfl rfl];clear X gs5;go_upto_region 9 with fail
      have N8 := aAw N3 N6;refine reg [eP zz 0, eI (sn p), .gen (aF (((p).num.natAbs) * ((q).den))), .gen (aF (((q).num.natAbs) * ((p).den))), .gen (aF ((((p).num.natAbs) * ((q).den)) + (((q).num.natAbs) * ((p).den)))), .gen (aF (((p).den) * ((q).den))), gR (p + q), .any] [.k, .k, .s 7 6] [] [] gs6 (fun Z => ?_) fun v7 w7 X gs7 => ?_
      ·refine JC.p Z $ JW.ce 0 0 rn0 Z $ JC.kp 6 _ rfl rfl Z $ JC.kp 7 _ rfl rfl Z $ JW.ca (fun Y => (pV _ _ _ _ _ (Y.d 2) (Y.d 3) (ha2 N3 HB (by omega)) (ha2 N6 HB (by omega))).mono mo4) Z $ JC.kp 8 _ rfl rfl Z $ JW.ca (fun Y => eG (sn p) _ _ ((((p).num.natAbs) * ((q).den)) + (((q).num.natAbs) * ((p).den))) (((p).den) * ((q).den)) (p + q) _ (Y.d 4) (Y.d 5) (fun _ => Nat.mul_pos (den_nz p) (den_nz q)) (sn3 p) (vK HS.out) (fun h9 => absurd h9 (Nat.ne_of_gt (Nat.mul_pos (den_nz p) (den_nz q)))) (ha2 N8 HB (by omega)) (ha2 N7 HB (by omega))) Z $ JC.s3 (n := 2) rfl fRn Z $ Ja.Steps.nil
      clear X gs6;go_wp2_with fail
      exact bT 2 gs7
     ·have HS := yW hS; clear hS;refine reg [eP zz 0, eI (sn p), eP ((zz + 1)) 0, eI (sn q), eB false] [] [] [] gs5 (fun Z => ?_) fun v6 w6 X gs6 => ?_
      ·refine JC.p Z $ JW.ce 0 0 rn0 Z $ JC.p Z $ JW.ce 1 0 rn0 Z $ JC.u (.bool ((sn p) == (sn q))) (congrArg Value.bool (beq_eq_false_iff_ne.2 (HS.out))) Z $ Ja.Steps.nil
      rw [X.out.e 4 rfl rfl];clear X gs5;go_upto_region 10 with fail
      have HO : Hid (sn q = -sn p) := yW (aCf HZ.out HY.out HS.out);by_cases hL : (((p).num.natAbs) * ((q).den)) < (((q).num.natAbs) * ((p).den))
      ·have HL := yW hL; clear hL;refine reg [.gen (aF (((p).num.natAbs) * ((q).den))), .gen (aF (((q).num.natAbs) * ((p).den))), eI (cmp (((p).num.natAbs) * ((q).den)) (((q).num.natAbs) * ((p).den))), eB true] [] [] [] gs6 (fun Z => ?_) fun v7 w7 X gs7 => ?_
       ·refine JC.kp 6 _ rfl rfl Z $ JC.kp 7 _ rfl rfl Z $ JW.ca (fun Y => (fD _ _ _ _ _ (Y.d 0) (Y.d 1) (ha2 N3 HB (by omega)) (ha2 N6 HB (by omega))).mono mo0) Z $ JC.u (.bool (decide ((cmp (((p).num.natAbs) * ((q).den)) (((q).num.natAbs) * ((p).den))) < (0)))) (congrArg Value.bool (decide_eq_true (show ((cmp (((p).num.natAbs) * ((q).den)) (((q).num.natAbs) * ((p).den)) : Int) < 0) from lQ.2 HL.out))) Z $ Ja.Steps.nil
       rw [X.out.e 3 rfl rfl];clear X gs6;go_upto_region 11 with fail
       have N8 : Hid (dg B30 ((((q).num.natAbs) * ((p).den)) - (((p).num.natAbs) * ((q).den))) ≤ 3 * sz (q) + 3 * sz (p)) := aAx N6 _;refine reg [eP ((zz + 1)) 0, eI (sn q), .gen (aF (((q).num.natAbs) * ((p).den))), .gen (aF (((p).num.natAbs) * ((q).den))), .gen (aF ((((q).num.natAbs) * ((p).den)) - (((p).num.natAbs) * ((q).den)))), .gen (aF (((p).den) * ((q).den))), gR (p + q), .any] [.k, .k, .s 7 6] [] [] gs7 (fun Z => ?_) fun v8 w8 X gs8 => ?_
       ·refine JC.p Z $ JW.ce 1 0 rn0 Z $ JC.kp 7 _ rfl rfl Z $ JC.kp 6 _ rfl rfl Z $ JW.ca (fun Y => (kL _ _ _ _ _ (Y.d 2) (Y.d 3) (Nat.le_of_lt HL.out) (ha2 N6 HB (by omega))).mono mo4) Z $ JC.kp 8 _ rfl rfl Z $ JW.ca (fun Y => eG (sn q) _ _ ((((q).num.natAbs) * ((p).den)) - (((p).num.natAbs) * ((q).den))) (((p).den) * ((q).den)) (p + q) _ (Y.d 4) (Y.d 5) (fun _ => Nat.mul_pos (den_nz p) (den_nz q)) (sn3 q) (vM HO.out (Nat.le_of_lt HL.out)) (fun h9 => absurd h9 (Nat.ne_of_gt (Nat.mul_pos (den_nz p) (den_nz q)))) (ha2 N8 HB (by omega)) (ha2 N7 HB (by omega))) Z $ JC.s3 (n := 2) rfl fRn Z $ Ja.Steps.nil
       clear X gs7;go_wp2_with fail
       exact bT 2 gs8
      ·have HL := yW hL; clear hL;have HG : Hid ((((q).num.natAbs) * ((p).den)) ≤ (((p).num.natAbs) * ((q).den))) := yW (by have h9 := HL.out; omega);refine reg [.gen (aF (((p).num.natAbs) * ((q).den))), .gen (aF (((q).num.natAbs) * ((p).den))), eI (cmp (((p).num.natAbs) * ((q).den)) (((q).num.natAbs) * ((p).den))), eB false] [] [] [] gs6 (fun Z => ?_) fun v7 w7 X gs7 => ?_
       ·refine JC.kp 6 _ rfl rfl Z $ JC.kp 7 _ rfl rfl Z $ JW.ca (fun Y => (fD _ _ _ _ _ (Y.d 0) (Y.d 1) (ha2 N3 HB (by omega)) (ha2 N6 HB (by omega))).mono mo0) Z $ JC.u (.bool (decide ((cmp (((p).num.natAbs) * ((q).den)) (((q).num.natAbs) * ((p).den))) < (0)))) (congrArg Value.bool (decide_eq_false (show ¬ ((cmp (((p).num.natAbs) * ((q).den)) (((q).num.natAbs) * ((p).den)) : Int) < 0) from fun h9 => HL.out (lQ.1 h9)))) Z $ Ja.Steps.nil
       rw [X.out.e 3 rfl rfl];clear X gs6;go_upto_region 12 with fail
       have N8 : Hid (dg B30 ((((p).num.natAbs) * ((q).den)) - (((q).num.natAbs) * ((p).den))) ≤ 3 * sz (p) + 3 * sz (q)) := aAx N3 _;refine reg [eP zz 0, eI (sn p), .gen (aF (((p).num.natAbs) * ((q).den))), .gen (aF (((q).num.natAbs) * ((p).den))), .gen (aF ((((p).num.natAbs) * ((q).den)) - (((q).num.natAbs) * ((p).den)))), .gen (aF (((p).den) * ((q).den))), gR (p + q), .any] [.k, .k, .s 7 6] [] [] gs7 (fun Z => ?_) fun v8 w8 X gs8 => ?_
       ·refine JC.p Z $ JW.ce 0 0 rn0 Z $ JC.kp 6 _ rfl rfl Z $ JC.kp 7 _ rfl rfl Z $ JW.ca (fun Y => (kL _ _ _ _ _ (Y.d 2) (Y.d 3) HG.out (ha2 N3 HB (by omega))).mono mo4) Z $ JC.kp 8 _ rfl rfl Z $ JW.ca (fun Y => eG (sn p) _ _ ((((p).num.natAbs) * ((q).den)) - (((q).num.natAbs) * ((p).den))) (((p).den) * ((q).den)) (p + q) _ (Y.d 4) (Y.d 5) (fun _ => Nat.mul_pos (den_nz p) (den_nz q)) (sn3 p) (vN HO.out HG.out) (fun h9 => absurd h9 (Nat.ne_of_gt (Nat.mul_pos (den_nz p) (den_nz q)))) (ha2 N8 HB (by omega)) (ha2 N7 HB (by omega))) Z $ JC.s3 (n := 2) rfl fRn Z $ Ja.Steps.nil
       clear X gs7;go_wp2_with fail
       exact bT 2 gs8
   ·have HD := yW hD; clear hD;refine reg [eP zz 2, .gen (aF ((p).den)), eB false, eB true, eB true, .no, .no, .no, .no, eB true] [] [] [] gs3 (fun Z => ?_) fun v4 w4 X gs4 => ?_
    ·refine JC.p Z $ JW.ce 0 2 (rn2 HZ.out) Z $ JW.ca (fun Y => (mD _ ((p).den) false _ (Y.d 1) (decide_eq_false (HD.out))).mono mo0) Z $ JC.p Z $ JC.p Z $ JC.n Z $ JC.n Z $ JC.n Z $ JC.n Z $ JC.p Z $ Ja.Steps.nil
    rw [X.out.e 9 rfl rfl];clear X gs3;go_upto_region 7 with fail
    have N1 := jJ (zr p);have N2 := kF (zr q);have N3 := rC N1 N2;have N4 := jJ (zr q);have N5 := kF (zr p);have N6 := rC N4 N5;have N7 := rC N5 N2;refine reg [eP zz 1, .gen (aF ((p).num.natAbs)), eP ((zz + 1)) 2, .gen (aF ((q).den)), .gen (aF (((p).num.natAbs) * ((q).den))), eP ((zz + 1)) 1, .gen (aF ((q).num.natAbs)), eP zz 2, .gen (aF ((p).den)), .gen (aF (((q).num.natAbs) * ((p).den))), eP zz 2, .gen (aF ((p).den)), eP ((zz + 1)) 2, .gen (aF ((q).den)), .gen (aF (((p).den) * ((q).den))), .gen (aF (((p).num.natAbs) * ((q).den))), .gen (aF (((q).num.natAbs) * ((p).den))), .gen (aF (((p).den) * ((q).den)))] [] [] [15, 16, 17] gs4 (fun Z => ?_) fun v5 w5 X gs5 => ?_
    ·refine JC.p Z $ JW.ce 0 1 rn1 Z $ JC.p Z $ JW.ce 1 2 (rn2 HY.out) Z $ JW.ca (fun Y => (iH _ _ _ _ _ (Y.d 1) (Y.d 3) (ha3 N1 N2 HB (by omega))).mono mo4) Z $ JC.p Z $ JW.ce 1 1 rn1 Z $ JC.p Z $ JW.ce 0 2 (rn2 HZ.out) Z $ JW.ca (fun Y => (iH _ _ _ _ _ (Y.d 6) (Y.d 8) (ha3 N4 N5 HB (by omega))).mono mo4) Z $ JC.p Z $ JW.ce 0 2 (rn2 HZ.out) Z $ JC.p Z $ JW.ce 1 2 (rn2 HY.out) Z $ JW.ca (fun Y => (iH _ _ _ _ _ (Y.d 11) (Y.d 13) (ha3 N5 N2 HB (by omega))).mono mo4) Z $ JC.m 4 Z $ JC.m 9 Z $ JC.m 14 Z $ Ja.Steps.nil
    clear X gs4;go_upto_region 8 with fail
    by_cases hS : sn p = sn q
    ·have HS := yW hS; clear hS;refine reg [eP zz 0, eI (sn p), eP ((zz + 1)) 0, eI (sn q), eB true] [] [] [] gs5 (fun Z => ?_) fun v6 w6 X gs6 => ?_
     ·refine JC.p Z $ JW.ce 0 0 rn0 Z $ JC.p Z $ JW.ce 1 0 rn0 Z $ JC.u (.bool ((sn p) == (sn q))) (congrArg Value.bool (beq_iff_eq.2 (HS.out))) Z $ Ja.Steps.nil
     rw [X.out.e 4 rfl rfl];clear X gs5;go_upto_region 9 with fail
     have N8 := aAw N3 N6;refine reg [eP zz 0, eI (sn p), .gen (aF (((p).num.natAbs) * ((q).den))), .gen (aF (((q).num.natAbs) * ((p).den))), .gen (aF ((((p).num.natAbs) * ((q).den)) + (((q).num.natAbs) * ((p).den)))), .gen (aF (((p).den) * ((q).den))), gR (p + q), .any] [.k, .k, .s 7 6] [] [] gs6 (fun Z => ?_) fun v7 w7 X gs7 => ?_
     ·refine JC.p Z $ JW.ce 0 0 rn0 Z $ JC.kp 6 _ rfl rfl Z $ JC.kp 7 _ rfl rfl Z $ JW.ca (fun Y => (pV _ _ _ _ _ (Y.d 2) (Y.d 3) (ha2 N3 HB (by omega)) (ha2 N6 HB (by omega))).mono mo4) Z $ JC.kp 8 _ rfl rfl Z $ JW.ca (fun Y => eG (sn p) _ _ ((((p).num.natAbs) * ((q).den)) + (((q).num.natAbs) * ((p).den))) (((p).den) * ((q).den)) (p + q) _ (Y.d 4) (Y.d 5) (fun _ => Nat.mul_pos (den_nz p) (den_nz q)) (sn3 p) (vK HS.out) (fun h9 => absurd h9 (Nat.ne_of_gt (Nat.mul_pos (den_nz p) (den_nz q)))) (ha2 N8 HB (by omega)) (ha2 N7 HB (by omega))) Z $ JC.s3 (n := 2) rfl fRn Z $ Ja.Steps.nil
     clear X gs6;go_wp2_with fail
     exact bT 2 gs7
    ·have HS := yW hS; clear hS;refine reg [eP zz 0, eI (sn p), eP ((zz + 1)) 0, eI (sn q), eB false] [] [] [] gs5 (fun Z => ?_) fun v6 w6 X gs6 => ?_
     ·refine JC.p Z $ JW.ce 0 0 rn0 Z $ JC.p Z $ JW.ce 1 0 rn0 Z $ JC.u (.bool ((sn p) == (sn q))) (congrArg Value.bool (beq_eq_false_iff_ne.2 (HS.out))) Z $ Ja.Steps.nil
     rw [X.out.e 4 rfl rfl];clear X gs5;go_upto_region 10 with fail
     have HO : Hid (sn q = -sn p) := yW (aCf HZ.out HY.out HS.out);by_cases hL : (((p).num.natAbs) * ((q).den)) < (((q).num.natAbs) * ((p).den))
     ·have HL := yW hL; clear hL;refine reg [.gen (aF (((p).num.natAbs) * ((q).den))), .gen (aF (((q).num.natAbs) * ((p).den))), eI (cmp (((p).num.natAbs) * ((q).den)) (((q).num.natAbs) * ((p).den))), eB true] [] [] [] gs6 (fun Z => ?_) fun v7 w7 X gs7 => ?_
      ·refine JC.kp 6 _ rfl rfl Z $ JC.kp 7 _ rfl rfl Z $ JW.ca (fun Y => (fD _ _ _ _ _ (Y.d 0) (Y.d 1) (ha2 N3 HB (by omega)) (ha2 N6 HB (by omega))).mono mo0) Z $ JC.u (.bool (decide ((cmp (((p).num.natAbs) * ((q).den)) (((q).num.natAbs) * ((p).den))) < (0)))) (congrArg Value.bool (decide_eq_true (show ((cmp (((p).num.natAbs) * ((q).den)) (((q).num.natAbs) * ((p).den)) : Int) < 0) from lQ.2 HL.out))) Z $ Ja.Steps.nil
      rw [X.out.e 3 rfl rfl];clear X gs6;go_upto_region 11 with fail
      have N8 : Hid (dg B30 ((((q).num.natAbs) * ((p).den)) - (((p).num.natAbs) * ((q).den))) ≤ 3 * sz (q) + 3 * sz (p)) := aAx N6 _;refine reg [eP ((zz + 1)) 0, eI (sn q), .gen (aF (((q).num.natAbs) * ((p).den))), .gen (aF (((p).num.natAbs) * ((q).den))), .gen (aF ((((q).num.natAbs) * ((p).den)) - (((p).num.natAbs) * ((q).den)))), .gen (aF (((p).den) * ((q).den))), gR (p + q), .any] [.k, .k, .s 7 6] [] [] gs7 (fun Z => ?_) fun v8 w8 X gs8 => ?_
      ·refine JC.p Z $ JW.ce 1 0 rn0 Z $ JC.kp 7 _ rfl rfl Z $ JC.kp 6 _ rfl rfl Z $ JW.ca (fun Y => (kL _ _ _ _ _ (Y.d 2) (Y.d 3) (Nat.le_of_lt HL.out) (ha2 N6 HB (by omega))).mono mo4) Z $ JC.kp 8 _ rfl rfl Z $ JW.ca (fun Y => eG (sn q) _ _ ((((q).num.natAbs) * ((p).den)) - (((p).num.natAbs) * ((q).den))) (((p).den) * ((q).den)) (p + q) _ (Y.d 4) (Y.d 5) (fun _ => Nat.mul_pos (den_nz p) (den_nz q)) (sn3 q) (vM HO.out (Nat.le_of_lt HL.out)) (fun h9 => absurd h9 (Nat.ne_of_gt (Nat.mul_pos (den_nz p) (den_nz q)))) (ha2 N8 HB (by omega)) (ha2 N7 HB (by omega))) Z $ JC.s3 (n := 2) rfl fRn Z $ Ja.Steps.nil
      clear X gs7;go_wp2_with fail
      exact bT 2 gs8
     ·have HL := yW hL; clear hL;have HG : Hid ((((q).num.natAbs) * ((p).den)) ≤ (((p).num.natAbs) * ((q).den))) := yW (by have h9 := HL.out; omega);refine reg [.gen (aF (((p).num.natAbs) * ((q).den))), .gen (aF (((q).num.natAbs) * ((p).den))), eI (cmp (((p).num.natAbs) * ((q).den)) (((q).num.natAbs) * ((p).den))), eB false] [] [] [] gs6 (fun Z => ?_) fun v7 w7 X gs7 => ?_
      ·refine JC.kp 6 _ rfl rfl Z $ JC.kp 7 _ rfl rfl Z $ JW.ca (fun Y => (fD _ _ _ _ _ (Y.d 0) (Y.d 1) (ha2 N3 HB (by omega)) (ha2 N6 HB (by omega))).mono mo0) Z $ JC.u (.bool (decide ((cmp (((p).num.natAbs) * ((q).den)) (((q).num.natAbs) * ((p).den))) < (0)))) (congrArg Value.bool (decide_eq_false (show ¬ ((cmp (((p).num.natAbs) * ((q).den)) (((q).num.natAbs) * ((p).den)) : Int) < 0) from fun h9 => HL.out (lQ.1 h9)))) Z $ Ja.Steps.nil
      rw [X.out.e 3 rfl rfl];clear X gs6;go_upto_region 12 with fail
      have N8 : Hid (dg B30 ((((p).num.natAbs) * ((q).den)) - (((q).num.natAbs) * ((p).den))) ≤ 3 * sz (p) + 3 * sz (q)) := aAx N3 _;refine reg [eP zz 0, eI (sn p), .gen (aF (((p).num.natAbs) * ((q).den))), .gen (aF (((q).num.natAbs) * ((p).den))), .gen (aF ((((p).num.natAbs) * ((q).den)) - (((q).num.natAbs) * ((p).den)))), .gen (aF (((p).den) * ((q).den))), gR (p + q), .any] [.k, .k, .s 7 6] [] [] gs7 (fun Z => ?_) fun v8 w8 X gs8 => ?_
      ·refine JC.p Z $ JW.ce 0 0 rn0 Z $ JC.kp 6 _ rfl rfl Z $ JC.kp 7 _ rfl rfl Z $ JW.ca (fun Y => (kL _ _ _ _ _ (Y.d 2) (Y.d 3) HG.out (ha2 N3 HB (by omega))).mono mo4) Z $ JC.kp 8 _ rfl rfl Z $ JW.ca (fun Y => eG (sn p) _ _ ((((p).num.natAbs) * ((q).den)) - (((q).num.natAbs) * ((p).den))) (((p).den) * ((q).den)) (p + q) _ (Y.d 4) (Y.d 5) (fun _ => Nat.mul_pos (den_nz p) (den_nz q)) (sn3 p) (vN HO.out HG.out) (fun h9 => absurd h9 (Nat.ne_of_gt (Nat.mul_pos (den_nz p) (den_nz q)))) (ha2 N8 HB (by omega)) (ha2 N7 HB (by omega))) Z $ JC.s3 (n := 2) rfl fRn Z $ Ja.Steps.nil
      clear X gs7;go_wp2_with fail
      exact bT 2 gs8
theorem aJi (x y : Value) (p q : Rat) (w : World) (hx : Rq w x p) (hy : Rq w y q) (hB : 1000 * (sz p + sz q) + 10000 ≤ LIM) :
  Calls Tryz.prog 82 #[x, y] w fun e w' => ∃ r, e = .returned r ∧ Rq w' r (p - q) ∧ Q w w' := by
 obtain ⟨x0, x1, x2, rfl, jX⟩ := fmR hx;obtain ⟨y0, y1, y2, rfl, jY⟩ := fmR hy;obtain ⟨w0, hW, hG0, hX0, hY0, hR0⟩ := gQ w 33 [x0, x1, x2] 33 [y0, y1, y2] 33 [.int .i64 0, .slice none 0 0, .slice none 0 0];have HB := yW hB; clear hB;have gs0 := yW (sbR hX0 jX hx (sbR hY0 jY hy (sbZ shR hR0 (St.nil hG0))));clear hG0 hX0 hY0 hR0;go_enter Tryz.func82, Tryz.ntmps82
 go_upto_region 1 with fail
 clear hW;generalize w.heap.size = zz at *
 have Z1 := pJ (zr q);have Z2 := xR (zr p) Z1;refine reg [gR p, gR q, gR (-(q)), gR ((p) + (-(q))), .any] [.k, .k, .s 4 3] [] [] gs0 (fun Z => ?_) fun v1 w1 X gs1 => ?_
 ·refine JW.ld 0 Z $ JW.ld 1 Z $ JW.ca (fun Y => zS _ _ _ (Y.d 1)) Z $ JW.ca (fun Y => aBj _ _ _ _ _ (Y.d 0) (Y.d 2) (ha2 Z1 HB (by omega))) Z $ JC.s3 (n := 2) rfl fRn Z $ Ja.Steps.nil
 clear X gs0;go_wp2_with fail
 exact eQ 2 gs1 (hR := fun h hq => by exact ⟨_, rfl, (by rw [Rat.sub_eq_add_neg]; exact h), hq⟩)
theorem sF (x : Int) (N : Nat) (w : World) (hx : x = (N : Int)) (h : N < 9223372036854775808) : Calls Tryz.prog 114 #[.int .i64 x] w (nD N w) := by
 subst hx;go_enter Tryz.func114, Tryz.ntmps114
 go_wp2_with fail
 have hb : Blk .i64 (w.alloc (Obj.cells #[Value.int IntKind.i64 ((N : Int) % 1073741824), Value.int IntKind.i64 ((N : Int) / 1073741824 % 1073741824), Value.int IntKind.i64 ((N : Int) / 1073741824 / 1073741824)] 2)) w.heap.size 2 [N % B30, N / B30 % B30, N / B30 / B30] :=
  (heap_alloc_new w _).trans (by rw [aO]; simp [nums])
 refine (lZ _ _ (w.heap.size + 1) _ _ _ (by rfl) (Nat.le_refl _) (by omega) (hb.rd (Nat.lt_succ_self _))).mono ?_;rintro e w2 ⟨k, hk2, rfl, hnz, hv, rfl⟩;go_wp2
 go_ret
 refine ⟨_, rfl, Nn.of_blk hb hk2 hk2 hnz ?_ ?_, (Q.refl _).alloc _, Nw.at_ (Nat.le_refl _)⟩
 ·intro d hd; rw [aO] at *; simp at hd; omega
 ·rw [hv]; simp only [dL, aBl]; rw [aO]; omega
theorem dg3 {N : Nat} (h : N < 9223372036854775808) : dg B30 N ≤ 3 := (aI aJ N 3).2 (Nat.lt_of_lt_of_le h (by decide))
theorem aHM (N : Nat) : ((N : Int) : Rat) * ((1 : Nat) : Rat) = ((1 : Int) : Rat) * (N : Rat) := by
 rw [show ((1 : Nat) : Rat) = 1 from rfl, show ((1 : Int) : Rat) = 1 from rfl, Rat.mul_one, Rat.one_mul]; rfl
theorem aHN (k r : Nat) : ((-(2 * (k : Int) + (r : Int)) : Int) : Rat) * ((1 : Nat) : Rat) = ((-1 : Int) : Rat) * (((k + k + r : Nat)) : Rat) := by
 rw [show ((1 : Nat) : Rat) = 1 from rfl, Rat.mul_one, show (((k + k + r : Nat)) : Rat) = ((((k + k + r : Nat)) : Int) : Rat) from rfl, ← Rat.intCast_mul];congr 1;omega
theorem kN {z : Int} (h1 : -9223372036854775808 ≤ z) (h2 : z < 9223372036854775808) : IntKind.i64.wrap z = z := by
 by_cases h0 : z < 0
 ·have e : z % 2 ^ 64 = z + 18446744073709551616 := (by omega);simp only [IntKind.wrap, IntKind.bits, IntKind.signed, e];rw [if_pos]
  ·omega
  ·simp; omega
 ·have e : z % 2 ^ 64 = z := (by omega);simp only [IntKind.wrap, IntKind.bits, IntKind.signed, e];rw [if_neg];simp; omega
theorem aHO {k r : Nat} (hr : r < 2) (hk : k < 4611686018427387905) : IntKind.i64.wrap (-(2 * (k : Int) + (r : Int)).tdiv 2) = -(k : Int) := by
 rw [show (2 * (k : Int) + (r : Int)).tdiv 2 = (k : Int) by rw [Int.tdiv_eq_ediv_of_nonneg (by omega)]; omega];exact kN (by omega) (by omega)
theorem aFA {k : Nat} (hk : k < 4611686018427387905) : IntKind.i64.wrap (0 - -(k : Int)) = (k : Int) := by
 rw [Int.zero_sub, Int.neg_neg]; exact kN (by omega) (by omega)
theorem aIN {k : Nat} (hk : k < 4611686018427387905) : IntKind.i64.wrap (2 * -(k : Int)) = -(2 * (k : Int)) := by
 rw [Int.mul_neg]; exact kN (by omega) (by omega)
theorem aIO {k r : Nat} (hr : r < 2) : IntKind.i64.wrap (-(2 * (k : Int) + (r : Int)) - -(2 * (k : Int))) = -(r : Int) := by
 rw [show -(2 * (k : Int) + (r : Int)) - -(2 * (k : Int)) = -(r : Int) by omega]; exact kN (by omega) (by omega)
theorem aIP {r : Nat} (hr : r < 2) : IntKind.i64.wrap (0 - -(r : Int)) = (r : Int) := by
 rw [Int.zero_sub, Int.neg_neg]; exact kN (by omega) (by omega)
theorem zW (n : Int) (w : World) (h1 : -9223372036854775808 ≤ n) (h2 : n < 9223372036854775808) :
  Calls Tryz.prog 56 #[.int .i64 n] w fun e w' => ∃ r, e = .returned r ∧ Rq w' r ((n : Int) : Rat) ∧ Q w w' := by
 obtain ⟨w0, hW, hG0, hR0⟩ := tT w 33 [.int .i64 0, .slice none 0 0, .slice none 0 0];have gs0 := yW (sbZ shR hR0 (St.nil hG0));clear hG0 hR0;go_enter Tryz.func56, Tryz.ntmps56
 go_upto_region 1 with fail
 clear hW;generalize w.heap.size = zz at *
 by_cases hN : n < 0
 ·have HN := yW hN; clear hN;obtain ⟨k, r, hr, hk, rfl⟩ : ∃ k r : Nat, r < 2 ∧ k < 4611686018427387905 ∧ n = -(2 * (k : Int) + (r : Int)) := ⟨((-n) / 2).toNat, ((-n) % 2).toNat, by omega, by omega, by have := HN.out; omega⟩
  have Hr := yW hr; have Hk := yW hk; clear hr hk h1 h2;refine reg [eI (-(2 * (k : Int) + (r : Int))), eB true] [] [] [] gs0 (fun Z => ?_) fun v1 w1 X gs1 => ?_
  ·refine JC.p Z $ JC.u (.bool (decide ((-(2 * (k : Int) + (r : Int))) < (0)))) (congrArg Value.bool (decide_eq_true (show ((-(2 * (k : Int) + (r : Int)) : Int) < 0) from HN.out))) Z $ Ja.Steps.nil
  rw [X.out.e 1 rfl rfl];clear X gs0;go_upto_region 2 with fail
  refine reg [eI (-(2 * (k : Int) + (r : Int))), eI (-(k : Int)), eI (-(k : Int))] [] [] [] gs1 (fun Z => ?_) fun v2 w2 X gs2 => ?_
  ·refine JC.p Z $ ?_;refine JC.o Z ?_ ?_
   ·intro L vals W hL hJ hd K hK;have d0 : vals 0 = .int .i64 (-(2 * (k : Int) + (r : Int))) := hd 0 (by kernel_rfl);generalize vals 0 = u0 at d0 hK ⊢;subst d0;go_simp
    rw [aHO Hr.out Hk.out];exact hK.out (.int .i64 (-(k : Int))) _ _ (by kernel_rfl) rfl (Q.refl _)
   refine JC.p Z $ Ja.Steps.nil
  rw [X.out.e 2 rfl rfl];clear X gs1;go_upto_region 3 with fail
  have N1 : Hid (dg B30 (k) ≤ 3) := yW (by have h99 := dg3 (Nat.lt_trans Hk.out (by decide)); skip; omega);have N2 := aAw N1 N1;have N3 : Hid (dg B30 (r) ≤ 3) := yW (by have h99 := dg3 (Nat.lt_trans Hr.out (by decide)); skip; omega);have N4 := aAw N2 N3;have N5 := zQ;refine reg [eI (-(k : Int)), eI ((k : Int)), .gen (aF k), eI (-(k : Int)), eI ((k : Int)), .gen (aF k), .gen (aF ((k) + (k))), eI (-(2 * (k : Int) + (r : Int))), eI (-(k : Int)), eI (-(2 * (k : Int))), eI (-(r : Int)), eI ((r : Int)), .gen (aF r), .gen (aF (((k) + (k)) + (r))), .gen (aF 1), gR (((-(2 * (k : Int) + (r : Int)) : Int) : Rat)), .any] [.s 16 15] [] [] gs2 (fun Z => ?_) fun v3 w3 X gs3 => ?_
  ·refine JC.p Z $ JC.u (.int .i64 (IntKind.i64.wrap (0 - (-(k : Int))))) (by exact congrArg (Value.int .i64) (aFA Hk.out)) Z $ JW.ca (fun Y => (sF ((k : Int)) k _ rfl (Nat.lt_trans Hk.out (by decide))).mono mo4) Z $ JC.p Z $ JC.u (.int .i64 (IntKind.i64.wrap (0 - (-(k : Int))))) (by exact congrArg (Value.int .i64) (aFA Hk.out)) Z $ JW.ca (fun Y => (sF ((k : Int)) k _ rfl (Nat.lt_trans Hk.out (by decide))).mono mo4) Z $ JW.ca (fun Y => (pV _ _ _ _ _ (Y.d 2) (Y.d 5) (ha1 N1 (by rw [aC]; omega)) (ha1 N1 (by rw [aC]; omega))).mono mo4) Z $ JC.p Z $ JC.p Z $ JC.u (.int .i64 (IntKind.i64.wrap ((2) * (-(k : Int))))) (by exact congrArg (Value.int .i64) (aIN Hk.out)) Z $ JC.u (.int .i64 (IntKind.i64.wrap ((-(2 * (k : Int) + (r : Int))) - (-(2 * (k : Int)))))) (by exact congrArg (Value.int .i64) (aIO Hr.out)) Z $ JC.u (.int .i64 (IntKind.i64.wrap (0 - (-(r : Int))))) (by exact congrArg (Value.int .i64) (aIP Hr.out)) Z $ JW.ca (fun Y => (sF ((r : Int)) (r) _ (rfl) (Nat.lt_trans Hr.out (by decide))).mono mo4) Z $ JW.ca (fun Y => (pV _ _ _ _ _ (Y.d 6) (Y.d 12) (ha1 N2 (by rw [aC]; omega)) (ha1 N3 (by rw [aC]; omega))).mono mo4) Z $ JW.ca (fun Y => (oG _).mono mo4) Z $ JW.ca (fun Y => eG (-1) _ _ (((k) + (k)) + (r)) (1) (((-(2 * (k : Int) + (r : Int)) : Int) : Rat)) _ (Y.d 13) (Y.d 14) (fun _ => Nat.one_pos) (Or.inl rfl) (aHN k r) (fun h9 => by omega) (ha1 N4 (by rw [aC]; omega)) (ha1 N5 (by rw [aC]; omega))) Z $ JC.s3 (n := 0) rfl fRn Z $ Ja.Steps.nil
  clear X gs2;go_wp2_with fail
  exact bT 0 gs3
 ·have HN := yW hN; clear hN;obtain ⟨N, rfl⟩ : ∃ N : Nat, n = (N : Int) := ⟨n.toNat, by have := HN.out; omega⟩
  have hN9 : N < 9223372036854775808 := (by omega);have Hn := yW hN9; clear hN9 h1 h2;refine reg [eI ((N : Int)), eB false] [] [] [] gs0 (fun Z => ?_) fun v1 w1 X gs1 => ?_
  ·refine JC.p Z $ JC.u (.bool (decide (((N : Int)) < (0)))) (congrArg Value.bool (decide_eq_false (show ¬ (((N : Int) : Int) < 0) from HN.out))) Z $ Ja.Steps.nil
  rw [X.out.e 1 rfl rfl];clear X gs0;go_upto_region 4 with fail
  have N1 : Hid (dg B30 (N) ≤ 3) := yW (by have h99 := dg3 (Hn.out); skip; omega);have N2 := zQ;refine reg [eI ((N : Int)), .gen (aF N), .gen (aF 1), gR (((N : Int) : Rat)), .any] [.s 4 3] [] [] gs1 (fun Z => ?_) fun v2 w2 X gs2 => ?_
  ·refine JC.p Z $ JW.ca (fun Y => (sF ((N : Int)) N _ rfl (Hn.out)).mono mo4) Z $ JW.ca (fun Y => (oG _).mono mo4) Z $ JW.ca (fun Y => eG 1 _ _ N 1 (((N : Int) : Rat)) _ (Y.d 1) (Y.d 2) (fun _ => Nat.one_pos) (Or.inr (Or.inr rfl)) (aHM N) (fun h9 => by omega) (ha1 N1 (by rw [aC]; omega)) (ha1 N2 (by rw [aC]; omega))) Z $ JC.s3 (n := 0) rfl fRn Z $ Ja.Steps.nil
  clear X gs1;go_wp2_with fail
  exact bT 0 gs2
def lg (N D : Nat) : Int := if N * 2 ^ (-((bl N : Int) - (bl D : Int))).toNat < D * 2 ^ ((bl N : Int) - (bl D : Int)).toNat then (bl N : Int) - (bl D : Int) - 1 else (bl N : Int) - (bl D : Int)
theorem aJj {s : Int} {N D : Nat} (hD : 0 < D) : 1 ≤ fl s N D ↔ ¬ N * 2 ^ (-s).toNat < D * 2 ^ s.toNat := by
 unfold fl;have h := Nat.mul_pos hD (two_pow_pos s.toNat);rw [Nat.le_div_iff_mul_le h, Nat.one_mul]; omega
theorem aIQ {N D : Nat} (hN : 0 < N) (hD : 0 < D) : fl (lg N D) N D = 1 := by
 obtain ⟨k, hk⟩ : ∃ k, (bl N : Int) - (bl D : Int) = k := ⟨_, rfl⟩
 have h1 := aAb (b := 1) (s := k - 1) hN hD (by decide) (by omega);have h2 := (aAa (N := N) (k - 1) hD).1;rw [show k - 1 + 1 = k by omega] at h2;have h3 := aJj (s := k) (N := N) hD;have hb : ∀ n : Nat, 0 < n → 2 ^ (bl n - 1) ≤ n ∧ n < 2 ^ bl n := fun n h => (lG h).2;have h4 : 0 < fl (k - 1) N D := by
  rcases Nat.eq_zero_or_pos (fl (k - 1) N D) with h | h
  ·rw [h, mF] at h1; omega
  ·exact h
 obtain ⟨h5, h6⟩ := hb _ h4;unfold lg;rw [hk];rcases h1 with h | h <;> rw [h] at h5 h6
 ·have h7 : fl (k - 1) N D = 1 := (by have e1 : (2 : Nat) ^ (1 - 1) = 1 := rfl; have e2 : (2 : Nat) ^ 1 = 2 := rfl; omega);rw [if_pos (by rw [h7] at h2; omega)];exact h7
 ·have h7 : fl k N D = 1 := (by have e1 : (2 : Nat) ^ (1 + 1 - 1) = 2 := rfl; have e2 : (2 : Nat) ^ (1 + 1) = 4 := rfl; omega);rw [if_neg (by omega)];exact h7
theorem aIR {q : Rat} (h : q ≠ 0) : 0 < q.num.natAbs := by
 have : q.num ≠ 0 := fun e => h (Rat.num_eq_zero.1 e);omega
theorem aIS {b : Nat} {x : Rat} (hx : x ≠ 0) (hb : 0 < b) : ulp b x = lg x.num.natAbs x.den - b + 1 := aHi (aIR hx) (den_nz x) hb (aIQ (aIR hx) (den_nz x))
theorem aJk {b : Nat} {x : Rat} (hx : x ≠ 0) (hb : 0 < b) {k : Int} (hk : k = lg x.num.natAbs x.den - b + 1) : ((x * pw (-k)).floor : Rat) * pw k = dn b x := by
 rw [hk, ← aIS hx hb]; unfold dn; rw [if_neg hx]
theorem aGG (x : Rat) : -(64 * (sz x : Int)) - 1 ≤ lg x.num.natAbs x.den ∧ lg x.num.natAbs x.den ≤ 64 * (sz x : Int) := by
 have h1 := Nat.le_trans (jP x.num.natAbs) (Nat.mul_le_mul_left 64 (gP x));have h2 := Nat.le_trans (jP x.den) (Nat.mul_le_mul_left 64 (fZ x));unfold lg;split <;> omega
theorem aGH (p : Rat) (k : Nat) : p * pw (k : Int) * ((p.den : Nat) : Rat) = ((sn p : Int) : Rat) * ((p.num.natAbs * 2 ^ k : Nat) : Rat) := by
 have h := qZ p;rw [iY, lU];grind
theorem aEb (p : Rat) (k : Nat) : p * pw (-(k : Int)) * ((p.den * 2 ^ k : Nat) : Rat) = ((sn p : Int) : Rat) * ((p.num.natAbs : Nat) : Rat) := by
 have h := qZ p;have h2 := pw_inv' (k : Int);rw [lU] at h2;rw [iY, ← h];grind
theorem wR (N k : Nat) : dg B30 (N * 2 ^ k) ≤ dg B30 N + k + 1 := by
 have h1 := cO aJ N (2 ^ k);have h2 : dg B30 (2 ^ k) ≤ k + 1 := by
  rw [aI aJ];exact Nat.lt_of_lt_of_le (Nat.pow_lt_pow_right (by decide) (Nat.lt_succ_self k)) (Nat.pow_le_pow_left (by decide) _)
 omega
theorem aCu (p : Rat) (s : Int) : sz (p * pw s) ≤ sz p + s.natAbs + 2 := by
 have h1 := gB p (pw s);have h2 := aGZ s;omega
theorem aGI (p : Rat) : sz ((p.floor : Int) : Rat) ≤ sz p + 3 := by
 have h3 : p.num.natAbs / p.den ≤ p.num.natAbs := Nat.div_le_self _ _;have h2 : p.floor.natAbs ≤ p.num.natAbs + 1 := by
  rw [nG];generalize p.num.natAbs / p.den = k at *
  split
  ·rw [Int.natAbs_neg, Int.natAbs_natCast]; split <;> omega
  ·rw [Int.natAbs_natCast]; omega
 have h1 := aU aD h2;have h4 := jS aD p.num.natAbs 1;have h5 := dF aD;have e : sz ((p.floor : Int) : Rat) = dg W64 p.floor.natAbs + dg W64 1 := by
  show dg W64 ((p.floor : Int) : Rat).num.natAbs + dg W64 ((p.floor : Int) : Rat).den = _;rw [Rat.num_intCast, Rat.den_intCast]
 have h6 := aN p;rw [e]; omega
theorem aCT {p : Rat} (hn : p < 0) (hr : ¬ p.num.natAbs % p.den = 0) : ((p.floor : Int) : Rat) * ((1 : Nat) : Rat) = ((sn p : Int) : Rat) * ((p.num.natAbs / p.den + 1 : Nat) : Rat) := by
 rw [nG, if_pos hn, if_neg hr];have h : sn p = -1 := by unfold sn; rw [if_pos hn]
 rw [h, show ((1 : Nat) : Rat) = 1 from rfl, Rat.mul_one, Rat.intCast_neg, Rat.intCast_neg, Rat.intCast_natCast];grind
theorem aCU {p : Rat} (hn : p < 0) (hr : p.num.natAbs % p.den = 0) : ((p.floor : Int) : Rat) * ((1 : Nat) : Rat) = ((sn p : Int) : Rat) * ((p.num.natAbs / p.den : Nat) : Rat) := by
 rw [nG, if_pos hn, if_pos hr];have h : sn p = -1 := by unfold sn; rw [if_pos hn]
 rw [h, show ((1 : Nat) : Rat) = 1 from rfl, Rat.mul_one, Rat.intCast_neg, Rat.intCast_neg, Rat.intCast_natCast, Nat.add_zero];grind
theorem aCV {p : Rat} (hn : 0 < p) : ((p.floor : Int) : Rat) * ((1 : Nat) : Rat) = ((sn p : Int) : Rat) * ((p.num.natAbs / p.den : Nat) : Rat) := by
 rw [nG, if_neg (by grind)];have h : sn p = 1 := by unfold sn; rw [if_neg (by grind), if_neg (by grind)]
 rw [h, show ((1 : Nat) : Rat) = 1 from rfl, Rat.mul_one, Rat.intCast_natCast];grind
theorem aAZ (x : Value) (N : Nat) (w : World) (hx : Nr w x N) (h : dg B30 N ≤ LIM) : Calls Tryz.prog 163 #[x] w fun e w' => e = .returned (.int .i64 (bl N : Int)) ∧ Q w w' := by
 refine (aCe x N w hx h).mono ?_;rintro e w' ⟨h, rfl⟩;exact ⟨h, Q.refl _⟩
theorem aHP {N : Nat} (h : ¬ N = 0) : 0 < dg B30 N := by
 rcases Nat.eq_zero_or_pos (dg B30 N) with e | e
 ·exact absurd (bI aJ e) h
 ·exact e
theorem aBk {p : Rat} (h : p ≠ 0) : ¬ sn p = 0 := fun e => h (aM.1 e)
theorem aDs {p : Rat} (h : p < 0) : sn p < 0 := by unfold sn; rw [if_pos h]; decide
theorem aHQ {p : Rat} (h : ¬ p < 0) : ¬ sn p < 0 := by unfold sn; rw [if_neg h]; split <;> decide
theorem aJl (x : Value) (p : Rat) (w : World) (hx : Rq w x p) (hz : p ≠ 0) (hB : 1000 * sz p + 10000 ≤ LIM) :
  Calls Tryz.prog 122 #[x] w fun e w' => e = .returned (.int .i64 (lg p.num.natAbs p.den)) ∧ Q w w' := by
 have HZ := yW hz; clear hz;obtain ⟨x0, x1, x2, rfl, jX⟩ := fmR hx;obtain ⟨w0, hW, hG0, hX0⟩ := tT w 33 [x0, x1, x2];have HB := yW hB; clear hB;have gs0 := yW (sbR hX0 jX hx (St.nil hG0));clear hG0 hX0;go_enter Tryz.func122, Tryz.ntmps122
 go_upto_region 1 with fail
 clear hW;generalize w.heap.size = zz at *
 obtain ⟨k, Hk⟩ : ∃ k : Int, Hid ((bl (p).num.natAbs : Int) - (bl (p).den : Int) = k) := ⟨_, yW rfl⟩
 have Hkb : Hid (k.natAbs ≤ 64 * sz p) := yW (by have h1 := jP (p).num.natAbs; have h2 := jP (p).den; have h3 := aN p; have h4 := Hk.out; omega);have N1 := jJ (zr p);have N2 := kF (zr p);refine reg [eP zz 1, .gen (aF ((p).num.natAbs)), eI ((bl ((p).num.natAbs) : Int)), eP zz 2, .gen (aF ((p).den)), eI ((bl ((p).den) : Int)), eI k, eI k] [] [] [] gs0 (fun Z => ?_) fun v1 w1 X gs1 => ?_
 ·refine JC.p Z $ JW.ce 0 1 rn1 Z $ JW.ca (fun Y => (aAZ _ ((p).num.natAbs) _ (Y.d 1) (ha2 N1 HB (by omega))).mono mo0) Z $ JC.p Z $ JW.ce 0 2 (rn2 HZ.out) Z $ JW.ca (fun Y => (aAZ _ ((p).den) _ (Y.d 4) (ha2 N2 HB (by omega))).mono mo0) Z $ JC.u (.int .i64 (IntKind.i64.wrap (((bl ((p).num.natAbs) : Int)) - ((bl ((p).den) : Int))))) (by exact congrArg (Value.int .i64) (show IntKind.i64.wrap ((bl (p).num.natAbs : Int) - (bl (p).den : Int)) = k from by rw [Hk.out]; exact kN (by have := Hkb.out; have := HB.out; rw [aC] at *; omega) (by have := Hkb.out; have := HB.out; rw [aC] at *; omega))) Z $ JC.p Z $ Ja.Steps.nil
 rw [X.out.e 7 rfl rfl];clear X gs0;go_upto_region 2 with fail
 by_cases hC : (p).num.natAbs * 2 ^ (-k).toNat < (p).den * 2 ^ k.toNat
 ·have HC := yW hC; clear hC;have B3 : Hid (dg B30 ((p).num.natAbs) + ((-k).toNat) + 2 ≤ LIM) := yW (by have hk9 := Hkb.out; have h50 := N1.out; have hb9 := HB.out; rw [aC] at *; omega);have N4 : Hid (dg B30 (((p).num.natAbs) * 2 ^ ((-k).toNat)) ≤ 67 * sz (p) + 1) := yW (by have h99 := wR ((p).num.natAbs) ((-k).toNat); have hb9 := HB.out; have hk9 := Hkb.out; have h50 := N1.out; omega);have B5 : Hid (dg B30 ((p).den) + (k.toNat) + 2 ≤ LIM) := yW (by have hk9 := Hkb.out; have h50 := N2.out; have hb9 := HB.out; rw [aC] at *; omega);have N6 : Hid (dg B30 (((p).den) * 2 ^ (k.toNat)) ≤ 67 * sz (p) + 1) := yW (by have h99 := wR ((p).den) (k.toNat); have hb9 := HB.out; have hk9 := Hkb.out; have h50 := N2.out; omega);refine reg [eP zz 1, .gen (aF ((p).num.natAbs)), eI k, eI (-k), eI (((-k).toNat : Int)), .gen (aF (((p).num.natAbs) * 2 ^ ((-k).toNat))), eP zz 2, .gen (aF ((p).den)), eI k, eI ((k.toNat : Int)), .gen (aF (((p).den) * 2 ^ (k.toNat))), eI (cmp (((p).num.natAbs) * 2 ^ ((-k).toNat)) (((p).den) * 2 ^ (k.toNat))), eB true] [] [] [] gs1 (fun Z => ?_) fun v2 w2 X gs2 => ?_
  ·refine JC.p Z $ JW.ce 0 1 rn1 Z $ JC.p Z $ JC.u (.int .i64 (IntKind.i64.wrap (0 - (k)))) (by exact congrArg (Value.int .i64) (show IntKind.i64.wrap (0 - (k)) = -k from by rw [Int.zero_sub]; exact kN (by have := Hkb.out; have := HB.out; rw [aC] at *; omega) (by have := Hkb.out; have := HB.out; rw [aC] at *; omega))) Z $ ?_;refine JC.o Z ?_ ?_
   ·intro L vals W hL hJ hd K hK;have d3 : vals 3 = .int .i64 (-k) := hd 3 (by kernel_rfl);generalize vals 3 = u3 at d3 hK ⊢;subst d3;go_simp
    rw [show max (-k) 0 = ((-k).toNat : Int) by omega];exact hK.out (.int .i64 (((-k).toNat : Int))) _ _ (by kernel_rfl) rfl (Q.refl _)
   refine JW.ca (fun Y => (kU _ ((p).num.natAbs) ((-k).toNat) _ _ (Y.d 1) rfl B3.out).mono mo4) Z $ JC.p Z $ JW.ce 0 2 (rn2 HZ.out) Z $ JC.p Z $ ?_;refine JC.o Z ?_ ?_
   ·intro L vals W hL hJ hd K hK;have d8 : vals 8 = .int .i64 (k) := hd 8 (by kernel_rfl);generalize vals 8 = u8 at d8 hK ⊢;subst d8;go_simp
    rw [show max k 0 = (k.toNat : Int) by omega];exact hK.out (.int .i64 ((k.toNat : Int))) _ _ (by kernel_rfl) rfl (Q.refl _)
   refine JW.ca (fun Y => (kU _ ((p).den) (k.toNat) _ _ (Y.d 7) rfl B5.out).mono mo4) Z $ JW.ca (fun Y => (fD _ _ _ _ _ (Y.d 5) (Y.d 10) (ha2 N4 HB (by omega)) (ha2 N6 HB (by omega))).mono mo0) Z $ JC.u (.bool (decide ((cmp (((p).num.natAbs) * 2 ^ ((-k).toNat)) (((p).den) * 2 ^ (k.toNat))) < (0)))) (congrArg Value.bool (decide_eq_true (show ((cmp (((p).num.natAbs) * 2 ^ ((-k).toNat)) (((p).den) * 2 ^ (k.toNat)) : Int) < 0) from lQ.2 HC.out))) Z $ Ja.Steps.nil
  rw [X.out.e 12 rfl rfl];clear X gs1;go_upto_region 3 with fail
  have hk1 : (-9223372036854775808 : Int) ≤ k - 1 := (by have := Hkb.out; have := HB.out; rw [aC] at *; omega);have hk2 : k - 1 ≤ 9223372036854775807 := (by have := Hkb.out; have := HB.out; rw [aC] at *; omega);go_upto_region 4 with fail
  refine reg [eI (k - 1), eI (k - 1)] [] [] [] gs2 (fun Z => ?_) fun v3 w3 X gs3 => ?_
  ·refine JC.p Z $ JC.p Z $ Ja.Steps.nil
  rw [X.out.e 1 rfl rfl];clear X gs2;go_wp2_with fail
  go_ret
  exact ⟨by unfold lg; rw [Hk.out, if_pos HC.out]; rfl, gs3.out.q⟩
 ·have HC := yW hC; clear hC;have B3 : Hid (dg B30 ((p).num.natAbs) + ((-k).toNat) + 2 ≤ LIM) := yW (by have hk9 := Hkb.out; have h50 := N1.out; have hb9 := HB.out; rw [aC] at *; omega);have N4 : Hid (dg B30 (((p).num.natAbs) * 2 ^ ((-k).toNat)) ≤ 67 * sz (p) + 1) := yW (by have h99 := wR ((p).num.natAbs) ((-k).toNat); have hb9 := HB.out; have hk9 := Hkb.out; have h50 := N1.out; omega);have B5 : Hid (dg B30 ((p).den) + (k.toNat) + 2 ≤ LIM) := yW (by have hk9 := Hkb.out; have h50 := N2.out; have hb9 := HB.out; rw [aC] at *; omega);have N6 : Hid (dg B30 (((p).den) * 2 ^ (k.toNat)) ≤ 67 * sz (p) + 1) := yW (by have h99 := wR ((p).den) (k.toNat); have hb9 := HB.out; have hk9 := Hkb.out; have h50 := N2.out; omega);refine reg [eP zz 1, .gen (aF ((p).num.natAbs)), eI k, eI (-k), eI (((-k).toNat : Int)), .gen (aF (((p).num.natAbs) * 2 ^ ((-k).toNat))), eP zz 2, .gen (aF ((p).den)), eI k, eI ((k.toNat : Int)), .gen (aF (((p).den) * 2 ^ (k.toNat))), eI (cmp (((p).num.natAbs) * 2 ^ ((-k).toNat)) (((p).den) * 2 ^ (k.toNat))), eB false] [] [] [] gs1 (fun Z => ?_) fun v2 w2 X gs2 => ?_
  ·refine JC.p Z $ JW.ce 0 1 rn1 Z $ JC.p Z $ JC.u (.int .i64 (IntKind.i64.wrap (0 - (k)))) (by exact congrArg (Value.int .i64) (show IntKind.i64.wrap (0 - (k)) = -k from by rw [Int.zero_sub]; exact kN (by have := Hkb.out; have := HB.out; rw [aC] at *; omega) (by have := Hkb.out; have := HB.out; rw [aC] at *; omega))) Z $ ?_;refine JC.o Z ?_ ?_
   ·intro L vals W hL hJ hd K hK;have d3 : vals 3 = .int .i64 (-k) := hd 3 (by kernel_rfl);generalize vals 3 = u3 at d3 hK ⊢;subst d3;go_simp
    rw [show max (-k) 0 = ((-k).toNat : Int) by omega];exact hK.out (.int .i64 (((-k).toNat : Int))) _ _ (by kernel_rfl) rfl (Q.refl _)
   refine JW.ca (fun Y => (kU _ ((p).num.natAbs) ((-k).toNat) _ _ (Y.d 1) rfl B3.out).mono mo4) Z $ JC.p Z $ JW.ce 0 2 (rn2 HZ.out) Z $ JC.p Z $ ?_;refine JC.o Z ?_ ?_
   ·intro L vals W hL hJ hd K hK;have d8 : vals 8 = .int .i64 (k) := hd 8 (by kernel_rfl);generalize vals 8 = u8 at d8 hK ⊢;subst d8;go_simp
    rw [show max k 0 = (k.toNat : Int) by omega];exact hK.out (.int .i64 ((k.toNat : Int))) _ _ (by kernel_rfl) rfl (Q.refl _)
   refine JW.ca (fun Y => (kU _ ((p).den) (k.toNat) _ _ (Y.d 7) rfl B5.out).mono mo4) Z $ JW.ca (fun Y => (fD _ _ _ _ _ (Y.d 5) (Y.d 10) (ha2 N4 HB (by omega)) (ha2 N6 HB (by omega))).mono mo0) Z $ JC.u (.bool (decide ((cmp (((p).num.natAbs) * 2 ^ ((-k).toNat)) (((p).den) * 2 ^ (k.toNat))) < (0)))) (congrArg Value.bool (decide_eq_false (show ¬ ((cmp (((p).num.natAbs) * 2 ^ ((-k).toNat)) (((p).den) * 2 ^ (k.toNat)) : Int) < 0) from fun h => HC.out (lQ.1 h)))) Z $ Ja.Steps.nil
  rw [X.out.e 12 rfl rfl];clear X gs1;go_upto_region 4 with fail
  refine reg [eI k, eI k] [] [] [] gs2 (fun Z => ?_) fun v3 w3 X gs3 => ?_
  ·refine JC.p Z $ JC.p Z $ Ja.Steps.nil
  rw [X.out.e 1 rfl rfl];clear X gs2;go_wp2_with fail
  go_ret
  exact ⟨by unfold lg; rw [Hk.out, if_neg HC.out]; rfl, gs3.out.q⟩
theorem aGJ (x : Value) (p : Rat) (z : Int) (w : World) (hx : Rq w x p) (hz : p = 0) (hB : 1000 * sz p + 10000 ≤ LIM) :
  Calls Tryz.prog 79 #[x, .int .i64 z] w fun e w' => ∃ r, e = .returned r ∧ Rq w' r (p * pw z) ∧ Q w w' := by
 have HZ := yW hz; clear hz;obtain ⟨x0, x1, x2, rfl, jX⟩ := fmR hx;obtain ⟨w0, hW, hG0, hX0, hR0⟩ := cK w 33 [x0, x1, x2] 33 [.int .i64 0, .slice none 0 0, .slice none 0 0];have HB := yW hB; clear hB;have gs0 := yW (sbR hX0 jX hx (sbZ shR hR0 (St.nil hG0)));clear hG0 hX0 hR0;go_enter Tryz.func79, Tryz.ntmps79
 go_upto_region 1 with fail
 clear hW;generalize w.heap.size = zz at *
 refine reg [eP zz 0, eI (sn p), eB true] [] [] [] gs0 (fun Z => ?_) fun v1 w1 X gs1 => ?_
 ·refine JC.p Z $ JW.ce 0 0 rn0 Z $ JC.u (.bool ((sn p) == (0))) (congrArg Value.bool (beq_iff_eq.2 ((aM.2 HZ.out)))) Z $ Ja.Steps.nil
 rw [X.out.e 2 rfl rfl];clear X gs0;go_upto_region 2 with fail
 refine reg [gR p, .any] [.k, .s 1 0] [] [] gs1 (fun Z => ?_) fun v2 w2 X gs2 => ?_
 ·refine JW.ld 0 Z $ JC.s3 (n := 1) rfl fRn Z $ Ja.Steps.nil
 clear X gs1;go_wp2_with fail
 exact eQ 1 gs2 (hR := fun h hq => by exact ⟨_, rfl, (by rw [show p * pw z = p by rw [HZ.out, Rat.zero_mul]]; exact h), hq⟩)
theorem aGK (x : Value) (p : Rat) (k : Nat) (w : World) (hx : Rq w x p) (hz : p ≠ 0) (hB : 1000 * sz p + 200 * k + 10000 ≤ LIM) :
  Calls Tryz.prog 79 #[x, .int .i64 (k : Int)] w fun e w' => ∃ r, e = .returned r ∧ Rq w' r (p * pw (k : Int)) ∧ Q w w' := by
 have HZ := yW hz; clear hz;obtain ⟨x0, x1, x2, rfl, jX⟩ := fmR hx;obtain ⟨w0, hW, hG0, hX0, hR0⟩ := cK w 33 [x0, x1, x2] 33 [.int .i64 0, .slice none 0 0, .slice none 0 0];have HB := yW hB; clear hB;have gs0 := yW (sbR hX0 jX hx (sbZ shR hR0 (St.nil hG0)));clear hG0 hX0 hR0;go_enter Tryz.func79, Tryz.ntmps79
 go_upto_region 1 with fail
 clear hW;generalize w.heap.size = zz at *
 refine reg [eP zz 0, eI (sn p), eB false] [] [] [] gs0 (fun Z => ?_) fun v1 w1 X gs1 => ?_
 ·refine JC.p Z $ JW.ce 0 0 rn0 Z $ JC.u (.bool ((sn p) == (0))) (congrArg Value.bool (beq_eq_false_iff_ne.2 (aBk HZ.out))) Z $ Ja.Steps.nil
 rw [X.out.e 2 rfl rfl];clear X gs0;go_upto_region 3 with fail
 refine reg [eI ((k : Int)), eB false] [] [] [] gs1 (fun Z => ?_) fun v2 w2 X gs2 => ?_
 ·refine JC.p Z $ JC.u (.bool (decide (((k : Int)) < (0)))) (congrArg Value.bool (decide_eq_false (show ¬ (((k : Int) : Int) < 0) from by omega))) Z $ Ja.Steps.nil
 rw [X.out.e 1 rfl rfl];clear X gs1;go_upto_region 5 with fail
 have N1 := jJ (zr p);have B2 : Hid (dg B30 ((p).num.natAbs) + (k) + 2 ≤ LIM) := yW (by skip; have h50 := N1.out; have hb9 := HB.out; rw [aC] at *; omega);have N3 : Hid (dg B30 (((p).num.natAbs) * 2 ^ (k)) ≤ 3 * sz (p) + 1 * (k) + 1) := yW (by have h99 := wR ((p).num.natAbs) (k); have hb9 := HB.out; skip; have h50 := N1.out; omega);have N4 := kF (zr p);refine reg [eP zz 0, eI (sn p), eP zz 1, .gen (aF ((p).num.natAbs)), eI ((k : Int)), .gen (aF (((p).num.natAbs) * 2 ^ (k))), eP zz 2, .gen (aF ((p).den)), gR (p * pw (k : Int)), .any] [.k, .s 9 8] [] [] gs2 (fun Z => ?_) fun v3 w3 X gs3 => ?_
 ·refine JC.p Z $ JW.ce 0 0 rn0 Z $ JC.p Z $ JW.ce 0 1 rn1 Z $ JC.p Z $ JW.ca (fun Y => (kU _ ((p).num.natAbs) k _ _ (Y.d 3) rfl B2.out).mono mo4) Z $ JC.p Z $ JW.ce 0 2 (rn2 HZ.out) Z $ JW.ca (fun Y => eG (sn p) _ _ (((p).num.natAbs) * 2 ^ (k)) ((p).den) (p * pw (k : Int)) _ (Y.d 5) (Y.d 7) (fun _ => den_nz p) (sn3 p) (aGH p k) (fun h9 => absurd h9 (Nat.ne_of_gt (den_nz p))) (ha2 N3 HB (by omega)) (ha2 N4 HB (by omega))) Z $ JC.s3 (n := 1) rfl fRn Z $ Ja.Steps.nil
 clear X gs2;go_wp2_with fail
 exact bT 1 gs3
theorem aGL (x : Value) (p : Rat) (k : Nat) (w : World) (hx : Rq w x p) (hz : p ≠ 0) (hk : 0 < k) (hB : 1000 * sz p + 200 * k + 10000 ≤ LIM) :
  Calls Tryz.prog 79 #[x, .int .i64 (-(k : Int))] w fun e w' => ∃ r, e = .returned r ∧ Rq w' r (p * pw (-(k : Int))) ∧ Q w w' := by
 have HZ := yW hz; clear hz;obtain ⟨x0, x1, x2, rfl, jX⟩ := fmR hx;obtain ⟨w0, hW, hG0, hX0, hR0⟩ := cK w 33 [x0, x1, x2] 33 [.int .i64 0, .slice none 0 0, .slice none 0 0];have HB := yW hB; clear hB;have gs0 := yW (sbR hX0 jX hx (sbZ shR hR0 (St.nil hG0)));clear hG0 hX0 hR0;go_enter Tryz.func79, Tryz.ntmps79
 go_upto_region 1 with fail
 clear hW;generalize w.heap.size = zz at *
 have HK := yW hk; clear hk;refine reg [eP zz 0, eI (sn p), eB false] [] [] [] gs0 (fun Z => ?_) fun v1 w1 X gs1 => ?_
 ·refine JC.p Z $ JW.ce 0 0 rn0 Z $ JC.u (.bool ((sn p) == (0))) (congrArg Value.bool (beq_eq_false_iff_ne.2 (aBk HZ.out))) Z $ Ja.Steps.nil
 rw [X.out.e 2 rfl rfl];clear X gs0;go_upto_region 3 with fail
 refine reg [eI (-(k : Int)), eB true] [] [] [] gs1 (fun Z => ?_) fun v2 w2 X gs2 => ?_
 ·refine JC.p Z $ JC.u (.bool (decide ((-(k : Int)) < (0)))) (congrArg Value.bool (decide_eq_true (show ((-(k : Int) : Int) < 0) from by have := HK.out; omega))) Z $ Ja.Steps.nil
 rw [X.out.e 1 rfl rfl];clear X gs1;go_upto_region 4 with fail
 have N1 := kF (zr p);have B2 : Hid (dg B30 ((p).den) + (k) + 2 ≤ LIM) := yW (by skip; have h50 := N1.out; have hb9 := HB.out; rw [aC] at *; omega);have N3 : Hid (dg B30 (((p).den) * 2 ^ (k)) ≤ 3 * sz (p) + 1 * (k) + 1) := yW (by have h99 := wR ((p).den) (k); have hb9 := HB.out; skip; have h50 := N1.out; omega);have N4 := jJ (zr p);refine reg [eP zz 0, eI (sn p), eP zz 1, .gen (aF ((p).num.natAbs)), eP zz 2, .gen (aF ((p).den)), eI (-(k : Int)), eI ((k : Int)), .gen (aF (((p).den) * 2 ^ (k))), gR (p * pw (-(k : Int))), .any] [.k, .s 10 9] [] [] gs2 (fun Z => ?_) fun v3 w3 X gs3 => ?_
 ·refine JC.p Z $ JW.ce 0 0 rn0 Z $ JC.p Z $ JW.ce 0 1 rn1 Z $ JC.p Z $ JW.ce 0 2 (rn2 HZ.out) Z $ JC.p Z $ JC.u (.int .i64 (IntKind.i64.wrap (0 - (-(k : Int))))) (by exact congrArg (Value.int .i64) (show IntKind.i64.wrap (0 - (-(k : Int))) = (k : Int) from by rw [Int.zero_sub, Int.neg_neg]; exact kN (by omega) (by have := HB.out; rw [aC] at *; omega))) Z $ JW.ca (fun Y => (kU _ ((p).den) (k) _ _ (Y.d 5) (rfl) B2.out).mono mo4) Z $ JW.ca (fun Y => eG (sn (p)) _ _ ((p).num.natAbs) (((p).den) * 2 ^ (k)) (p * pw (-(k : Int))) _ (Y.d 3) (Y.d 8) (fun _ => Nat.mul_pos (den_nz p) (two_pow_pos k)) (sn3 p) (aEb p k) (fun h9 => absurd h9 (Nat.ne_of_gt (Nat.mul_pos (den_nz p) (two_pow_pos k)))) (ha2 N4 HB (by omega)) (ha2 N3 HB (by omega))) Z $ JC.s3 (n := 1) rfl fRn Z $ Ja.Steps.nil
 clear X gs2;go_wp2_with fail
 exact bT 1 gs3
theorem aAz (x : Value) (p : Rat) (z : Int) (w : World) (hx : Rq w x p) (hB : 1000 * sz p + 200 * z.natAbs + 10000 ≤ LIM) :
  Calls Tryz.prog 79 #[x, .int .i64 z] w fun e w' => ∃ r, e = .returned r ∧ Rq w' r (p * pw z) ∧ Q w w' := by
 by_cases h0 : p = 0
 ·exact aGJ x p z w hx h0 (by omega)
 by_cases hz : z < 0
 ·obtain ⟨k, h1, rfl⟩ : ∃ k : Nat, 0 < k ∧ z = -(k : Int) := ⟨(-z).toNat, by omega, by omega⟩
  exact aGL x p k w hx h0 h1 (by omega)
 ·obtain ⟨k, rfl⟩ : ∃ k : Nat, z = (k : Int) := ⟨z.toNat, by omega⟩
  exact aGK x p k w hx h0 (by omega)
end Go.Proofs.YtajbfablmpmgbaaGreatDoor.K
