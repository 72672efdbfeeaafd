/- ValueSpans: spans of numbers. No condition. -/
import Derived.Test.YtajbfablmpmgbaaGreatDoorQw18
set_option maxHeartbeats 8000000
set_option maxRecDepth 100000
namespace Go.Proofs.YtajbfablmpmgbaaGreatDoor.K
open Go.RowKit
open Ma Me
theorem aAA (p : Rat) (i m : Nat) (h : i ≤ m) : sz (p ^ i) ≤ m * sz p + 2 := by
 have h1 := uY p i;have h2 : i * sz p ≤ m * sz p := Nat.mul_le_mul_right _ h;omega
theorem aFG (x : Value) (p : Rat) (n : Nat) (w : World) (hx : Rq w x p) (hn : n ≤ 64) (hB : 80000 * sz p + 200000 ≤ LIM) :
  Calls Tryz.prog 71 #[x, .int .i64 (n : Int)] w fun e w' => ∃ r, e = .returned (.tuple #[r, .int .i64 0]) ∧ Rq w' r (p ^ n) ∧ Q w w' := by
 obtain ⟨x0, x1, x2, rfl, jX⟩ := fmR hx;obtain ⟨w0, hW, hG0, hX0, hR0⟩ := cK w 33 [x0, x1, x2] 33 [.int .i64 0, .slice none 0 0, .slice none 0 0];have HB := yW hB; clear hB;have gs0 := yW (sbR hX0 jX hx (sbZ shR hR0 (St.nil hG0)));clear hG0 hX0 hR0;go_enter Tryz.func71, Tryz.ntmps71
 go_upto_region 1 with fail
 clear hW;generalize w.heap.size = zz at *
 have HN := yW hn; clear hn;refine reg [eI ((n : Int)), eB false, eB false, eI ((n : Int)), eB false, eB false] [] [] [] gs0 (fun Z => ?_) fun v1 w1 X gs1 => ?_
 ·refine JC.p Z $ JC.u (.bool (decide (((n : Int)) < (-64)))) (congrArg Value.bool (decide_eq_false (show ¬ (((n : Int) : Int) < -64) from by have := HN.out; omega))) Z $ JC.p Z $ JC.p Z $ JC.u (.bool (decide ((64) < ((n : Int))))) (congrArg Value.bool (decide_eq_false (show ¬ (((n : Int) : Int) > 64) from by have := HN.out; omega))) Z $ JC.p Z $ Ja.Steps.nil
 rw [X.out.e 5 rfl rfl];clear X gs0;go_upto_region 3 with fail
 refine reg [eI ((n : Int)), eB false] [] [] [] gs1 (fun Z => ?_) fun v2 w2 X gs2 => ?_
 ·refine JC.p Z $ JC.u (.bool (decide (((n : Int)) < (0)))) (congrArg Value.bool (decide_eq_false (show ¬ (((n : Int) : Int) < 0) from by omega))) Z $ Ja.Steps.nil
 rw [X.out.e 1 rfl rfl];clear X gs1;go_upto_region 8 with fail
 have Z1 : Hid (sz ((((1) : Int) : Rat)) ≤ 2) := oz1 (rQ 1 (by decide)) HB (by omega);refine reg [gR ((((1) : Int) : Rat)), .any, .any] [] [⟨1, 33, [.i, .s, .s], zR, .s 2 0⟩] [] gs2 (fun Z => ?_) fun v3 w3 X gs3 => ?_
 ·refine JW.ca (fun Y => zW 1 _ (by decide) (by decide)) Z $ JC.al (n := 2) shR Z $ JC.s3 (n := 2) rfl fRn Z $ Ja.Steps.nil
 rw [X.out.f 1 rfl];clear X gs2;go_wp2_with fail
 go_loopw [9] (fun iv w1 => ∃ (i : Nat) (u : Value), iv = .int .i64 (i : Int) ∧ i ≤ n ∧ Hid (St w [⟨zz, 33, [.i, .s, .s], .agg #[x0, x1, x2], gR p⟩, ⟨(zz + 1), 33, [.i, .s, .s], .agg #[.int .i64 0, .slice none 0 0, .slice none 0 0], .eq (.agg #[.int .i64 0, .slice none 0 0, .slice none 0 0])⟩, ⟨(adr (v3 1)), 33, [.i, .s, .s], u, gR (p ^ i)⟩] [] w1)) (fun iv _ => n - (intOf iv).toNat)
 case atStart => exact ⟨0, v3 0, rfl, by omega, by rw [Rat.pow_zero]; exact gs3⟩
 case round =>
  obtain ⟨i, u, rfl, hi, gs4⟩ := hrel;generalize wr = w4 at *
  clear gs3;have HI := yW hi; clear hi;have Z2 : Hid (sz (p ^ i) ≤ 64 * sz (p) + 2) := yW (by have h99 := aAA p i 64 (by have := HI.out; have := HN.out; omega); have hb9 := HB.out; omega);by_cases hp : i < n
  ·have h1 : (i : Int) < (n : Int) := (by omega);have HP := yW hp; clear hp;go_upto_region 12 with fail
   clear h1;have Z3 := kS Z2 (zr p);refine reg [gR (p ^ i), gR p, gR ((p ^ i) * (p)), .any] [.k, .k, .s 3 2] [] [] gs4 (fun Z => ?_) fun v5 w5 X gs5 => ?_
   ·refine JW.ld 2 Z $ JW.ld 0 Z $ JW.ca (fun Y => wQ _ _ _ _ _ (Y.d 0) (Y.d 1) (ha2 Z2 HB (by omega))) Z $ JC.s3 (n := 2) rfl fRn Z $ Ja.Steps.nil
   clear X gs4;have hp1 := HP.out; have hn1 := HN.out;go_wp2_with fail
   have ew : (p ^ i) * (p) = p ^ (i + 1) := (Rat.pow_succ p i).symm;rw [ew] at gs5;exact ⟨⟨i + 1, _, rfl, by have := HP.out; omega, gs5⟩, by have := HP.out; simp [intOf]; omega⟩
  ·have h1 : ¬ (i : Int) < (n : Int) := (by omega);have hin : i = n := (by have := HI.out; omega);subst hin;clear hp;go_upto_region 13 with fail
   clear h1;refine reg [gR (p ^ i), .any, eI 0] [.k, .s 1 0] [] [] gs4 (fun Z => ?_) fun v5 w5 X gs5 => ?_
   ·refine JW.ld 2 Z $ JC.s3 (n := 1) rfl fRn Z $ JC.p Z $ Ja.Steps.nil
   rw [X.out.e 2 rfl rfl];clear X gs4;go_wp2_with fail
   exact iD (u := .int .i64 0) 1 gs5 (hR := fun h hq => by exact ⟨_, rfl, h, hq⟩)
theorem aHW {p : Rat} {z : Int} (h : z < -64 ∨ 64 < z) : iW p z = (7, 0) := if_pos h
theorem fI {p : Rat} {n : Nat} (h : n ≤ 64) : iW p (n : Int) = (0, p ^ n) := by
 unfold iW; rw [if_neg (by omega), if_neg (by omega)]; rfl
theorem aGU {m : Nat} (h0 : 0 < m) (h : m ≤ 64) : iW 0 (-(m : Int)) = (8, 0) := by
 unfold iW; rw [if_neg (by omega), if_pos (by omega), if_pos rfl]
theorem aHX {p : Rat} {m : Nat} (hp : p ≠ 0) (h0 : 0 < m) (h : m ≤ 64) : iW p (-(m : Int)) = (0, p⁻¹ ^ m) := by
 unfold iW; rw [if_neg (by omega), if_pos (by omega), if_neg hp, Int.neg_neg]; rfl
theorem aIU {m : Nat} (h : m ≤ 64) : IntKind.i64.wrap (0 - -(m : Int)) = (m : Int) := by
 rw [Int.zero_sub, Int.neg_neg]; exact kN (by omega) (by omega)
theorem aCx : aR (((1) : Int) : Rat) 0 = (8, 0) := if_pos rfl
theorem div_one {p : Rat} (hp : p ≠ 0) : aR (((1) : Int) : Rat) p = (0, p⁻¹) := by
 unfold aR; rw [if_neg hp, show (((1) : Int) : Rat) = 1 from rfl, Rat.one_mul]
theorem aIV (x : Value) (p : Rat) (z : Int) (w : World) (hx : Rq w x p) (hz : z < -64 ∨ 64 < z) :
  Calls Tryz.prog 71 #[x, .int .i64 z] w fun e w' => ∃ r, e = .returned (.tuple #[r, .int .i64 (iW p z).1]) ∧ Rq w' r (iW p z).2 ∧ Q w w' := by
 obtain ⟨x0, x1, x2, rfl, jX⟩ := fmR hx;obtain ⟨w0, hW, hG0, hX0, hR0⟩ := cK w 33 [x0, x1, x2] 33 [.int .i64 0, .slice none 0 0, .slice none 0 0];have gs0 := yW (sbR hX0 jX hx (sbZ shR hR0 (St.nil hG0)));clear hG0 hX0 hR0;go_enter Tryz.func71, Tryz.ntmps71
 go_upto_region 1 with fail
 clear hW;generalize w.heap.size = zz at *
 have HPW : Hid (iW p z = (7, 0)) := yW (aHW hz);by_cases hA : z < -64
 ·have HA := yW hA; clear hA;refine reg [eI z, eB true, eB true, .no, .no, eB true] [] [] [] gs0 (fun Z => ?_) fun v1 w1 X gs1 => ?_
  ·refine JC.p Z $ JC.u (.bool (decide ((z) < (-64)))) (congrArg Value.bool (decide_eq_true (show ((z : Int) < -64) from HA.out))) Z $ JC.p Z $ JC.n Z $ JC.n Z $ JC.p Z $ Ja.Steps.nil
  rw [X.out.e 5 rfl rfl];clear X gs0;go_upto_region 2 with fail
  refine reg [gR 0, .any, eI 7] [.k, .s 1 0] [] [] gs1 (fun Z => ?_) fun v2 w2 X gs2 => ?_
  ·refine JC.o Z ?_ ?_
   ·intro L vals W hL hJ hd K hK;go_simp
    exact hK.out (.agg #[.int .i64 0, .slice none 0 0, .slice none 0 0]) _ _ (by kernel_rfl) (Rq.none W) (Q.refl _)
   refine JC.s3 (n := 1) rfl fRn Z $ JC.p Z $ Ja.Steps.nil
  rw [X.out.e 2 rfl rfl];clear X gs1;go_wp2_with fail
  exact iD (u := .int .i64 (7)) 1 gs2 (hR := fun h hq => by exact ⟨_, by rw [HPW.out], (by rw [HPW.out]; exact h), hq⟩)
 ·have HA := yW hA; clear hA;refine reg [eI z, eB false, eB false, eI z, eB true, eB true] [] [] [] gs0 (fun Z => ?_) fun v1 w1 X gs1 => ?_
  ·refine JC.p Z $ JC.u (.bool (decide ((z) < (-64)))) (congrArg Value.bool (decide_eq_false (show ¬ ((z : Int) < -64) from HA.out))) Z $ JC.p Z $ JC.p Z $ JC.u (.bool (decide ((64) < (z)))) (congrArg Value.bool (decide_eq_true (show ((z : Int) > 64) from by have := HA.out; omega))) Z $ JC.p Z $ Ja.Steps.nil
  rw [X.out.e 5 rfl rfl];clear X gs0;go_upto_region 2 with fail
  refine reg [gR 0, .any, eI 7] [.k, .s 1 0] [] [] gs1 (fun Z => ?_) fun v2 w2 X gs2 => ?_
  ·refine JC.o Z ?_ ?_
   ·intro L vals W hL hJ hd K hK;go_simp
    exact hK.out (.agg #[.int .i64 0, .slice none 0 0, .slice none 0 0]) _ _ (by kernel_rfl) (Rq.none W) (Q.refl _)
   refine JC.s3 (n := 1) rfl fRn Z $ JC.p Z $ Ja.Steps.nil
  rw [X.out.e 2 rfl rfl];clear X gs1;go_wp2_with fail
  exact iD (u := .int .i64 (7)) 1 gs2 (hR := fun h hq => by exact ⟨_, by rw [HPW.out], (by rw [HPW.out]; exact h), hq⟩)
theorem aIW (x : Value) (p : Rat) (m : Nat) (w : World) (hx : Rq w x p) (h0 : 0 < m) (hm : m ≤ 64) (hB : 80000 * sz p + 600000 ≤ LIM) :
  Calls Tryz.prog 71 #[x, .int .i64 (-(m : Int))] w fun e w' => ∃ r, e = .returned (.tuple #[r, .int .i64 (iW p (-(m : Int))).1]) ∧ Rq w' r (iW p (-(m : Int))).2 ∧ Q w w' := by
 obtain ⟨x0, x1, x2, rfl, jX⟩ := fmR hx;obtain ⟨w0, hW, hG0, hX0, hR0⟩ := cK w 33 [x0, x1, x2] 33 [.int .i64 0, .slice none 0 0, .slice none 0 0];have HB := yW hB; clear hB;have gs0 := yW (sbR hX0 jX hx (sbZ shR hR0 (St.nil hG0)));clear hG0 hX0 hR0;go_enter Tryz.func71, Tryz.ntmps71
 go_upto_region 1 with fail
 clear hW;generalize w.heap.size = zz at *
 have HM0 := yW h0; have HM := yW hm; clear h0 hm;refine reg [eI (-(m : Int)), eB false, eB false, eI (-(m : Int)), eB false, eB false] [] [] [] gs0 (fun Z => ?_) fun v1 w1 X gs1 => ?_
 ·refine JC.p Z $ JC.u (.bool (decide ((-(m : Int)) < (-64)))) (congrArg Value.bool (decide_eq_false (show ¬ ((-(m : Int) : Int) < -64) from by have := HM.out; omega))) Z $ JC.p Z $ JC.p Z $ JC.u (.bool (decide ((64) < (-(m : Int))))) (congrArg Value.bool (decide_eq_false (show ¬ ((-(m : Int) : Int) > 64) from by omega))) Z $ JC.p Z $ Ja.Steps.nil
 rw [X.out.e 5 rfl rfl];clear X gs0;go_upto_region 3 with fail
 refine reg [eI (-(m : Int)), eB true] [] [] [] gs1 (fun Z => ?_) fun v2 w2 X gs2 => ?_
 ·refine JC.p Z $ JC.u (.bool (decide ((-(m : Int)) < (0)))) (congrArg Value.bool (decide_eq_true (show ((-(m : Int) : Int) < 0) from by have := HM0.out; omega))) Z $ Ja.Steps.nil
 rw [X.out.e 1 rfl rfl];clear X gs1;go_upto_region 4 with fail
 by_cases hZ : p = 0
 ·have HZ := yW hZ; clear hZ;have Z1 : Hid (sz ((((1) : Int) : Rat)) ≤ 2) := oz1 (rQ 1 (by decide)) HB (by omega);have Z2 : Hid (sz ((aR ((((1) : Int) : Rat)) (p)).2) ≤ 1 * sz (p) + 4) := oz2 (wS ((((1) : Int) : Rat)) (p)) Z1 HB (by omega);refine reg [gR ((((1) : Int) : Rat)), gR p, .gen (pT2 (pRn 0) (pEq (.int .i64 8))), .gen (pT2 (pRn 0) (pEq (.int .i64 8))), gR 0, eI 8, .any, .any, eI 8] [] [⟨6, 33, [.i, .s, .s], zR, .s 7 4⟩] [] gs2 (fun Z => ?_) fun v3 w3 X gs3 => ?_
  ·refine JW.ca (fun Y => zW 1 _ (by decide) (by decide)) Z $ JW.ld 0 Z $ JW.ca (fun Y => (aBi _ _ _ _ _ (Y.d 0) (Y.d 1) (ha2 Z1 HB (by omega))).mono (by rintro e W9 ⟨r, rfl, hr, hq9⟩; exact ⟨(.tuple #[r, .int .i64 ((aR ((((1) : Int) : Rat)) (p)).1)]), rfl, ⟨_, _, rfl, (by have h8 := hr; rw [HZ.out, aCx] at h8; exact h8), congrArg (Value.int .i64) (by rw [HZ.out, aCx])⟩, hq9⟩)) Z $ JC.m 2 Z $ JW.x2 3 0 Z $ JW.x2 3 1 Z $ JC.al (n := 2) shR Z $ JC.s3 (n := 2) rfl fRn Z $ JC.p Z $ Ja.Steps.nil
  rw [X.out.f 6 rfl, X.out.e 8 rfl rfl];clear X gs2;go_upto_region 5 with fail
  refine reg [eI 8, eB true] [] [] [] gs3 (fun Z => ?_) fun v4 w4 X gs4 => ?_
  ·refine JC.p Z $ JC.p Z $ Ja.Steps.nil
  rw [X.out.e 1 rfl rfl];clear X gs3;go_upto_region 6 with fail
  refine reg [gR 0, eI 8, .any, eI 8] [.k, .s 2 0] [] [] gs4 (fun Z => ?_) fun v5 w5 X gs5 => ?_
  ·refine JC.o Z ?_ ?_
   ·intro L vals W hL hJ hd K hK;go_simp
    exact hK.out (.agg #[.int .i64 0, .slice none 0 0, .slice none 0 0]) _ _ (by kernel_rfl) (Rq.none W) (Q.refl _)
   refine JC.p Z $ JC.s3 (n := 1) rfl fRn Z $ JC.p Z $ Ja.Steps.nil
  rw [X.out.e 3 rfl rfl];clear X gs4;have hpw : iW p (-(m : Int)) = (8, 0) := (by rw [HZ.out]; exact aGU HM0.out HM.out);go_wp2_with fail
  exact iD (u := .int .i64 (8)) 1 gs5 (hR := fun h hq => by exact ⟨_, by rw [hpw], (by rw [hpw]; exact h), hq⟩)
 ·have HZ := yW hZ; clear hZ;have Z1 := aDQ (zr p);have Z2 : Hid (sz ((((1) : Int) : Rat)) ≤ 2) := oz1 (rQ 1 (by decide)) HB (by omega);have Z3 : Hid (sz ((aR ((((1) : Int) : Rat)) (p)).2) ≤ 1 * sz (p) + 4) := oz2 (wS ((((1) : Int) : Rat)) (p)) Z2 HB (by omega);refine reg [gR ((((1) : Int) : Rat)), gR p, .gen (pT2 (pRn (p⁻¹)) (pEq (.int .i64 0))), .gen (pT2 (pRn (p⁻¹)) (pEq (.int .i64 0))), gR (p⁻¹), eI 0, .any, .any, eI 0] [] [⟨6, 33, [.i, .s, .s], zR, .s 7 4⟩] [] gs2 (fun Z => ?_) fun v3 w3 X gs3 => ?_
  ·refine JW.ca (fun Y => zW 1 _ (by decide) (by decide)) Z $ JW.ld 0 Z $ JW.ca (fun Y => (aBi _ _ _ _ _ (Y.d 0) (Y.d 1) (ha2 Z2 HB (by omega))).mono (by rintro e W9 ⟨r, rfl, hr, hq9⟩; exact ⟨(.tuple #[r, .int .i64 ((aR ((((1) : Int) : Rat)) (p)).1)]), rfl, ⟨_, _, rfl, (by have h8 := hr; rw [div_one HZ.out] at h8; exact h8), congrArg (Value.int .i64) (by rw [div_one HZ.out])⟩, hq9⟩)) Z $ JC.m 2 Z $ JW.x2 3 0 Z $ JW.x2 3 1 Z $ JC.al (n := 2) shR Z $ JC.s3 (n := 2) rfl fRn Z $ JC.p Z $ Ja.Steps.nil
  rw [X.out.f 6 rfl, X.out.e 8 rfl rfl];clear X gs2;go_upto_region 5 with fail
  refine reg [eI 0, eB false] [] [] [] gs3 (fun Z => ?_) fun v4 w4 X gs4 => ?_
  ·refine JC.p Z $ JC.p Z $ Ja.Steps.nil
  rw [X.out.e 1 rfl rfl];clear X gs3;go_upto_region 7 with fail
  refine reg [gR (p⁻¹), eI (-(m : Int)), eI ((m : Int)), .gen (pT2 (pRn ((p⁻¹) ^ m)) (pEq (.int .i64 0))), gR ((p⁻¹) ^ m), eI 0, .any, eI 0] [.k, .s 6 4] [] [] gs4 (fun Z => ?_) fun v5 w5 X gs5 => ?_
  ·refine JW.ld 2 Z $ JC.p Z $ JC.u (.int .i64 (IntKind.i64.wrap (0 - (-(m : Int))))) (by exact congrArg (Value.int .i64) (aIU HM.out)) Z $ JW.ca (fun Y => (aFG _ (p⁻¹) m _ (Y.d 0) HM.out (ha2 Z1 HB (by omega))).mono (by rintro e W9 ⟨r, rfl, hr, hq9⟩; exact ⟨(.tuple #[r, .int .i64 0]), rfl, ⟨_, _, rfl, hr, rfl⟩, hq9⟩)) Z $ JW.x2 3 0 Z $ JW.x2 3 1 Z $ JC.s3 (n := 1) rfl fRn Z $ JC.p Z $ Ja.Steps.nil
  rw [X.out.e 7 rfl rfl];clear X gs4;have hpw : iW p (-(m : Int)) = (0, p⁻¹ ^ m) := aHX HZ.out HM0.out HM.out;go_wp2_with fail
  exact iD (u := .int .i64 (0)) 1 gs5 (hR := fun h hq => by exact ⟨_, by rw [hpw], (by rw [hpw]; exact h), hq⟩)
theorem aG7 (x : Value) (p : Rat) (z : Int) (w : World) (hx : Rq w x p) (hB : 80000 * sz p + 600000 ≤ LIM) :
  Calls Tryz.prog 71 #[x, .int .i64 z] w fun e w' => ∃ r, e = .returned (.tuple #[r, .int .i64 (iW p z).1]) ∧ Rq w' r (iW p z).2 ∧ Q w w' := by
 by_cases hz : z < -64 ∨ 64 < z
 ·exact aIV x p z w hx hz
 by_cases h0 : z < 0
 ·obtain ⟨m, h1, h2, rfl⟩ : ∃ m : Nat, 0 < m ∧ m ≤ 64 ∧ z = -(m : Int) := ⟨(-z).toNat, by omega, by omega, by omega⟩
  exact aIW x p m w hx h1 h2 hB
 ·obtain ⟨n, h2, rfl⟩ : ∃ n : Nat, n ≤ 64 ∧ z = (n : Int) := ⟨z.toNat, by omega, by omega⟩
  rw [fI h2];exact aFG x p n w hx h2 (by omega)
theorem uH {p : Rat} {n : Nat} (h : n ≤ 64) : iW p (n : Int) = (0, p ^ n) := by
 unfold iW; rw [if_neg (by omega), if_neg (by omega)]; rfl
theorem aFH (a : Value) (p q : Rat) (z : Int) (w : World) (ha : Rs w a p q) (hB : 10000000 * (sz p + sz q) + 10000000 ≤ LIM) :
  Calls Tryz.prog 22 #[a, .int .i64 z] w fun e w' => ∃ r, e = .returned r ∧ Rs w' r (qlo (kC z) p q) (qhi (kC z) p q) ∧ Q w w' := by
 obtain ⟨a0, a1, a2, a3, a4, a5, rfl, jA⟩ := fmT ha;obtain ⟨w0, hW, hG0, hA0, hT0⟩ := cK w 35 [a0, a1, a2, a3, a4, a5] 35 [.int .i64 0, .slice none 0 0, .slice none 0 0, .int .i64 0, .slice none 0 0, .slice none 0 0];have HB := yW hB; clear hB;have gs0 := yW (sbT hA0 jA ha (sbZ shT hT0 (St.nil hG0)));clear hG0 hA0 hT0;obtain ⟨n, hnn⟩ : ∃ n, kC z = n := ⟨_, rfl⟩
 have hn64 : n ≤ 64 := by rw [← hnn]; exact aAs z
 have hmx := zL z;rw [hnn] at hmx;rw [hnn];clear hnn;go_enter Tryz.func22, Tryz.ntmps22
 go_upto_region 2 with fail
 clear hW hmx;generalize w.heap.size = zz at *
 have Z1 : Hid (sz (0) ≤ 2) := yW jO;have Z2 : Hid (sz ((p) ^ n) ≤ 64 * sz (p) + 2) := oz1 (aAA (p) n 64 hn64) HB (by omega);refine reg [eP zz 0, gR p, eI ((n : Int)), .gen (pT2 (pRn ((p) ^ n)) (pEq (.int .i64 0))), .gen (pT2 (pRn ((p) ^ n)) (pEq (.int .i64 0))), gR ((p) ^ n), eI 0, .any, .any, eI 0] [] [⟨7, 33, [.i, .s, .s], zR, .s 8 5⟩] [] gs0 (fun Z => ?_) fun v1 w1 X gs1 => ?_
 ·refine JC.p Z $ JW.pt 0 0 Z $ JC.p Z $ JW.ca (fun Y => (aG7 _ p (n : Int) _ (Y.d 1) (ha1 HB (by omega))).mono (by rintro e W9 ⟨r, rfl, hr, hq9⟩; exact ⟨(.tuple #[r, .int .i64 (iW (p) (n : Int)).1]), rfl, ⟨_, _, rfl, (by have h7 := hr; rw [uH hn64] at h7; exact h7), congrArg (Value.int .i64) (by rw [uH hn64])⟩, hq9⟩)) Z $ JC.m 3 Z $ JW.x2 4 0 Z $ JW.x2 4 1 Z $ JC.al (n := 2) shR Z $ JC.s3 (n := 2) rfl fRn Z $ JC.p Z $ Ja.Steps.nil
 rw [X.out.f 7 rfl];clear X gs0;go_upto_region 3 with fail
 have Z3 : Hid (sz ((q) ^ n) ≤ 64 * sz (q) + 2) := oz1 (aAA (q) n 64 hn64) HB (by omega);refine reg [eP zz 3, gR q, eI ((n : Int)), .gen (pT2 (pRn ((q) ^ n)) (pEq (.int .i64 0))), .gen (pT2 (pRn ((q) ^ n)) (pEq (.int .i64 0))), gR ((q) ^ n), eI 0, .any, .any, eI 0] [] [⟨7, 33, [.i, .s, .s], zR, .s 8 5⟩] [] gs1 (fun Z => ?_) fun v2 w2 X gs2 => ?_
 ·refine JC.p Z $ JW.pt 0 3 Z $ JC.p Z $ JW.ca (fun Y => (aG7 _ q (n : Int) _ (Y.d 1) (ha1 HB (by omega))).mono (by rintro e W9 ⟨r, rfl, hr, hq9⟩; exact ⟨(.tuple #[r, .int .i64 (iW (q) (n : Int)).1]), rfl, ⟨_, _, rfl, (by have h7 := hr; rw [uH hn64] at h7; exact h7), congrArg (Value.int .i64) (by rw [uH hn64])⟩, hq9⟩)) Z $ JC.m 3 Z $ JW.x2 4 0 Z $ JW.x2 4 1 Z $ JC.al (n := 3) shR Z $ JC.s3 (n := 3) rfl fRn Z $ JC.p Z $ Ja.Steps.nil
 rw [X.out.f 7 rfl];clear X gs1;go_upto_region 4 with fail
 by_cases hN : 0 < n
 ·have HN := yW hN; clear hN;by_cases hH : aB p q ≤ 0 ∧ 0 ≤ aA p q
  ·have HH := yW hH; clear hH;have HM : Hid (qlo n p q = aB (aB ((p) ^ n) ((q) ^ n)) 0 ∧ qhi n p q = aA (aA ((p) ^ n) ((q) ^ n)) 0) := yW ⟨if_pos ⟨HN.out, HH.out⟩, if_pos ⟨HN.out, HH.out⟩⟩;have HF : Hid (qA p q 0 = true) := yW (decide_eq_true HH.out);refine reg [eI ((n : Int)), eB true, eB true, gT p q, gR 0, eB true, eB true] [] [] [] gs2 (fun Z => ?_) fun v3 w3 X gs3 => ?_
   ·refine JC.p Z $ JC.u (.bool (decide ((0) < ((n : Int))))) (congrArg Value.bool (decide_eq_true (show (((n : Int) : Int) > 0) from by have h9 := HN.out; omega))) Z $ JC.p Z $ JW.ld 0 Z $ ?_;refine JC.o Z ?_ ?_
    ·intro L vals W hL hJ hd K hK;go_simp
     exact hK.out (.agg #[.int .i64 0, .slice none 0 0, .slice none 0 0]) _ _ (by kernel_rfl) (Rq.none W) (Q.refl _)
    refine JW.ca (fun Y => (nU _ _ p q 0 _ (Y.d 3) (Y.d 4) (ha2 Z1 HB (by omega))).mono (mo1 (congrArg Value.bool (HF.out)))) Z $ JC.p Z $ Ja.Steps.nil
   rw [X.out.e 6 rfl rfl];clear X gs2;go_upto_region 5 with fail
   refine reg [gR ((p) ^ n), gR ((q) ^ n), gR 0, .gen (aIT ((p) ^ n) ((q) ^ n) 0), gT (aB (aB ((p) ^ n) ((q) ^ n)) 0) (aA (aA ((p) ^ n) ((q) ^ n)) 0), .any] [.k, .s 5 4] [] [] gs3 (fun Z => ?_) fun v4 w4 X gs4 => ?_
   ·refine JW.ld 2 Z $ JW.ld 3 Z $ ?_;refine JC.o Z ?_ ?_
    ·intro L vals W hL hJ hd K hK;go_simp
     exact hK.out (.agg #[.int .i64 0, .slice none 0 0, .slice none 0 0]) _ _ (by kernel_rfl) (Rq.none W) (Q.refl _)
    refine JC.o Z ?_ ?_
    ·intro L vals W hL hJ hd K hK;have d0 : Rq W (vals 0) ((p) ^ n) := hd 0 (by kernel_rfl);have d1 : Rq W (vals 1) ((q) ^ n) := hd 1 (by kernel_rfl);have d2 : Rq W (vals 2) (0) := hd 2 (by kernel_rfl);generalize vals 0 = u0 at d0 hK ⊢;obtain ⟨Ae0_1, ke0_1, ce0_1, Ae0_2, ke0_2, ce0_2, rfl, -⟩ := (show Rq _ _ _ from d0)
     generalize vals 1 = u1 at d1 hK ⊢;obtain ⟨Ae1_1, ke1_1, ce1_1, Ae1_2, ke1_2, ce1_2, rfl, -⟩ := (show Rq _ _ _ from d1)
     generalize vals 2 = u2 at d2 hK ⊢;obtain ⟨Ae2_1, ke2_1, ce2_1, Ae2_2, ke2_2, ce2_2, rfl, -⟩ := (show Rq _ _ _ from d2)
     have hqa : Q W (W.alloc (.cells #[.int .i64 (sn ((p) ^ n)), .slice Ae0_1 ke0_1 ce0_1, .slice Ae0_2 ke0_2 ce0_2, .int .i64 (sn ((q) ^ n)), .slice Ae1_1 ke1_1 ce1_1, .slice Ae1_2 ke1_2 ce1_2, .int .i64 (sn (0)), .slice Ae2_1 ke2_1 ce2_1, .slice Ae2_2 ke2_2 ce2_2] 33)) := (Q.refl _).alloc _;go_simp
     exact hK.out _ _ _ (by kernel_rfl) ⟨_, _, _, _, _, _, _, _, _, _, _, _, _, _, _, _, _, _, _, rfl, Bx.new W _ _, Rq.q d0 hqa, Rq.q d1 hqa, Rq.q d2 hqa⟩ hqa
    refine JW.ca (fun Y => aGS (Y.d 3) (ha4 Z2 Z3 Z1 HB (by omega))) Z $ JC.s6 (n := 1) rfl fRs Z $ Ja.Steps.nil
   clear X gs3;go_wp2_with fail
   rw [HM.out.1, HM.out.2];exact bT 1 gs4
  ·have HH := yW hH; clear hH;have HM : Hid (qlo n p q = aB ((p) ^ n) ((q) ^ n) ∧ qhi n p q = aA ((p) ^ n) ((q) ^ n)) := yW ⟨if_neg (fun h => HH.out h.2), if_neg (fun h => HH.out h.2)⟩;have HF : Hid (qA p q 0 = false) := yW (decide_eq_false HH.out);refine reg [eI ((n : Int)), eB true, eB true, gT p q, gR 0, eB false, eB false] [] [] [] gs2 (fun Z => ?_) fun v3 w3 X gs3 => ?_
   ·refine JC.p Z $ JC.u (.bool (decide ((0) < ((n : Int))))) (congrArg Value.bool (decide_eq_true (show (((n : Int) : Int) > 0) from by have h9 := HN.out; omega))) Z $ JC.p Z $ JW.ld 0 Z $ ?_;refine JC.o Z ?_ ?_
    ·intro L vals W hL hJ hd K hK;go_simp
     exact hK.out (.agg #[.int .i64 0, .slice none 0 0, .slice none 0 0]) _ _ (by kernel_rfl) (Rq.none W) (Q.refl _)
    refine JW.ca (fun Y => (nU _ _ p q 0 _ (Y.d 3) (Y.d 4) (ha2 Z1 HB (by omega))).mono (mo1 (congrArg Value.bool (HF.out)))) Z $ JC.p Z $ Ja.Steps.nil
   rw [X.out.e 6 rfl rfl];clear X gs2;go_upto_region 6 with fail
   refine reg [gR ((p) ^ n), gR ((q) ^ n), .gen (aGR ((p) ^ n) ((q) ^ n)), gT (aB ((p) ^ n) ((q) ^ n)) (aA ((p) ^ n) ((q) ^ n)), .any] [.k, .s 4 3] [] [] gs3 (fun Z => ?_) fun v4 w4 X gs4 => ?_
   ·refine JW.ld 2 Z $ JW.ld 3 Z $ ?_;refine JC.o Z ?_ ?_
    ·intro L vals W hL hJ hd K hK;have d0 : Rq W (vals 0) ((p) ^ n) := hd 0 (by kernel_rfl);have d1 : Rq W (vals 1) ((q) ^ n) := hd 1 (by kernel_rfl);generalize vals 0 = u0 at d0 hK ⊢;obtain ⟨Ae0_1, ke0_1, ce0_1, Ae0_2, ke0_2, ce0_2, rfl, -⟩ := (show Rq _ _ _ from d0)
     generalize vals 1 = u1 at d1 hK ⊢;obtain ⟨Ae1_1, ke1_1, ce1_1, Ae1_2, ke1_2, ce1_2, rfl, -⟩ := (show Rq _ _ _ from d1)
     have hqa : Q W (W.alloc (.cells #[.int .i64 (sn ((p) ^ n)), .slice Ae0_1 ke0_1 ce0_1, .slice Ae0_2 ke0_2 ce0_2, .int .i64 (sn ((q) ^ n)), .slice Ae1_1 ke1_1 ce1_1, .slice Ae1_2 ke1_2 ce1_2] 33)) := (Q.refl _).alloc _;go_simp
     exact hK.out _ _ _ (by kernel_rfl) ⟨_, _, _, _, _, _, _, _, _, _, _, _, _, rfl, Bx.new W _ _, Rq.q d0 hqa, Rq.q d1 hqa⟩ hqa
    refine JW.ca (fun Y => aCv (Y.d 2) (ha3 Z2 Z3 HB (by omega))) Z $ JC.s6 (n := 1) rfl fRs Z $ Ja.Steps.nil
   clear X gs3;go_wp2_with fail
   rw [HM.out.1, HM.out.2];exact bT 1 gs4
 ·have HN := yW hN; clear hN;have HM : Hid (qlo n p q = aB ((p) ^ n) ((q) ^ n) ∧ qhi n p q = aA ((p) ^ n) ((q) ^ n)) := yW ⟨if_neg (fun h => HN.out h.1), if_neg (fun h => HN.out h.1)⟩;refine reg [eI ((n : Int)), eB false, eB false, .no, .no, .no, eB false] [] [] [] gs2 (fun Z => ?_) fun v3 w3 X gs3 => ?_
  ·refine JC.p Z $ JC.u (.bool (decide ((0) < ((n : Int))))) (congrArg Value.bool (decide_eq_false (show ¬ (((n : Int) : Int) > 0) from by have h9 := HN.out; omega))) Z $ JC.p Z $ JC.n Z $ JC.n Z $ JC.n Z $ JC.p Z $ Ja.Steps.nil
  rw [X.out.e 6 rfl rfl];clear X gs2;go_upto_region 6 with fail
  refine reg [gR ((p) ^ n), gR ((q) ^ n), .gen (aGR ((p) ^ n) ((q) ^ n)), gT (aB ((p) ^ n) ((q) ^ n)) (aA ((p) ^ n) ((q) ^ n)), .any] [.k, .s 4 3] [] [] gs3 (fun Z => ?_) fun v4 w4 X gs4 => ?_
  ·refine JW.ld 2 Z $ JW.ld 3 Z $ ?_;refine JC.o Z ?_ ?_
   ·intro L vals W hL hJ hd K hK;have d0 : Rq W (vals 0) ((p) ^ n) := hd 0 (by kernel_rfl);have d1 : Rq W (vals 1) ((q) ^ n) := hd 1 (by kernel_rfl);generalize vals 0 = u0 at d0 hK ⊢;obtain ⟨Ae0_1, ke0_1, ce0_1, Ae0_2, ke0_2, ce0_2, rfl, -⟩ := (show Rq _ _ _ from d0)
    generalize vals 1 = u1 at d1 hK ⊢;obtain ⟨Ae1_1, ke1_1, ce1_1, Ae1_2, ke1_2, ce1_2, rfl, -⟩ := (show Rq _ _ _ from d1)
    have hqa : Q W (W.alloc (.cells #[.int .i64 (sn ((p) ^ n)), .slice Ae0_1 ke0_1 ce0_1, .slice Ae0_2 ke0_2 ce0_2, .int .i64 (sn ((q) ^ n)), .slice Ae1_1 ke1_1 ce1_1, .slice Ae1_2 ke1_2 ce1_2] 33)) := (Q.refl _).alloc _;go_simp
    exact hK.out _ _ _ (by kernel_rfl) ⟨_, _, _, _, _, _, _, _, _, _, _, _, _, rfl, Bx.new W _ _, Rq.q d0 hqa, Rq.q d1 hqa⟩ hqa
   refine JW.ca (fun Y => aCv (Y.d 2) (ha3 Z2 Z3 HB (by omega))) Z $ JC.s6 (n := 1) rfl fRs Z $ Ja.Steps.nil
  clear X gs3;go_wp2_with fail
  rw [HM.out.1, HM.out.2];exact bT 1 gs4
end Go.Proofs.YtajbfablmpmgbaaGreatDoor.K
