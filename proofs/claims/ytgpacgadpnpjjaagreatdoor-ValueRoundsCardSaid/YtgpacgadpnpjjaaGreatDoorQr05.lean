/- ValueRounds: for every string and every int the law holds: Down, Up, Floor and Ceil of the number that the string is are what the document says, or nothing if it is none. No condition.. Part of the proof: texts Je9. -/
import Derived.Test.YtgpacgadpnpjjaaGreatDoorQp01
import Derived.Test.YtgpacgadpnpjjaaGreatDoorQp02
import Derived.Test.YtgpacgadpnpjjaaGreatDoorQp03
import Derived.Test.YtgpacgadpnpjjaaGreatDoorQp04
import Derived.Test.YtgpacgadpnpjjaaGreatDoorQp05
import Derived.Test.YtgpacgadpnpjjaaGreatDoorQp06
import Derived.Test.YtgpacgadpnpjjaaGreatDoorQp07
import Derived.Test.YtgpacgadpnpjjaaGreatDoorQp08
import Derived.Test.YtgpacgadpnpjjaaGreatDoorQp09
import Derived.Test.YtgpacgadpnpjjaaGreatDoorQp10
import Derived.Test.YtgpacgadpnpjjaaGreatDoorQp11
import Derived.Test.YtgpacgadpnpjjaaGreatDoorQp12
import Derived.Test.YtgpacgadpnpjjaaGreatDoorQp13
import Derived.Test.YtgpacgadpnpjjaaGreatDoorQp14
import Derived.Test.YtgpacgadpnpjjaaGreatDoorQp15
import Derived.Test.YtgpacgadpnpjjaaGreatDoorQp16
import Derived.Test.YtgpacgadpnpjjaaGreatDoorQp17
import Derived.Test.YtgpacgadpnpjjaaGreatDoorQp18
import Derived.Test.YtgpacgadpnpjjaaGreatDoorQp19
import Derived.Test.YtgpacgadpnpjjaaGreatDoorQp20
import Derived.Test.YtgpacgadpnpjjaaGreatDoorQp21
import Derived.Test.YtgpacgadpnpjjaaGreatDoorQp22
import Derived.Test.YtgpacgadpnpjjaaGreatDoorQp23
import Derived.Test.YtgpacgadpnpjjaaGreatDoorQp24
import Derived.Test.YtgpacgadpnpjjaaGreatDoorQp25
import Derived.Test.YtgpacgadpnpjjaaGreatDoorQp27
import Derived.Test.YtgpacgadpnpjjaaGreatDoorQr02
import Derived.Test.YtgpacgadpnpjjaaGreatDoorQr04
namespace Go.Proofs.YtgpacgadpnpjjaaGreatDoor.K
open Go.RowKit
open Ma Me
set_option maxRecDepth 100000 in
set_option maxHeartbeats 8000000 in
theorem q_ValueRounds (a : ByteArray) (z : Int) (w : World) (hT : Tb w) (hPx : Px w) (ha : a.size ≤ 9223372036854775806) :
  Calls Tryz.prog 6 #[.string a, .int .i64 z] w fun e w' => e = .returned (.bool true) ∧ Q w w' := by
 obtain ⟨w0, hw0, hG0⟩ : ∃ x, w = x ∧ Q w x := ⟨w, rfl, Q.refl w⟩
 rw [hw0];obtain ⟨ca, Hca⟩ : ∃ z : Int, Hid ((aV a.data.toList).1 = z) := ⟨_, Lib.hid rfl⟩
 obtain ⟨p, Hp⟩ : ∃ z : Rat, Hid ((aV a.data.toList).2 = z) := ⟨_, Lib.hid rfl⟩
 have Z1 : Hid (sz (p) ≤ 2000) := Lib.hid (by rw [← Hp.out]; exact parse_sz' _);have sp : sz p ≤ 2000 := by rw [← Hp.out]; exact parse_sz' _
 have sd := aDl (b := iV z) p (qF z).1; have sb := qF z; have sf := dB p; have sc := dB (-p);obtain ⟨d, Hd⟩ : ∃ q : Rat, Hid (dn (iV z) p = q) := ⟨_, Lib.hid rfl⟩
 obtain ⟨u, Hu⟩ : ∃ q : Rat, Hid (up (iV z) p = q) := ⟨_, Lib.hid rfl⟩
 obtain ⟨f, Hf⟩ : ∃ q : Rat, Hid (((p.floor : Int) : Rat) = q) := ⟨_, Lib.hid rfl⟩
 obtain ⟨c, Hc⟩ : ∃ q : Rat, Hid (((-(-p).floor : Int) : Rat) = q) := ⟨_, Lib.hid rfl⟩
 have Z2 : Hid (sz (d) ≤ 200000) := Lib.hid (by rw [← Hd.out]; omega);have Z3 : Hid (sz (u) ≤ 200000) := Lib.hid (by rw [← Hu.out]; omega);have Z4 : Hid (sz (f) ≤ 2003) := Lib.hid (by rw [← Hf.out]; omega);have Z5 : Hid (sz (c) ≤ 2003) := Lib.hid (by rw [← Hc.out, Rat.intCast_neg, nP]; rw [nP] at sc; omega);clear sp sd sb sf sc;go_enter Tryz.func6, Tryz.ntmps6
 go_upto_region 1 with fail
 by_cases hA0 : ca = 0
 ·have HA0 := Lib.hid hA0; clear hA0;have hAt0 : At0 w0 [⟨some 6, 0, 25, [.b, .s, .s], .agg #[.bool false, .slice none 0 0, .slice none 0 0], 8, 3⟩, ⟨some 7, 0, 32, [.i, .s, .s], .agg #[.int .i64 0, .slice none 0 0, .slice none 0 0], 9, 4⟩] [] w0 := At0.of (Q.refl _) ⟨fun h => (by cases h), fun h => (by cases h), trivial⟩ (by (simp [dO] <;> omega)) trivial;refine cK (F := ?F1) w0 ([.eq (.string (a)), .gen (pT3 (aN (p)) (pRn (p)) (pEq (.bool true))), .gen (pT3 (aN (p)) (pRn (p)) (pEq (.bool true))), .gen (aN (p)), .gen (pRn (p)), .eq (.bool true), .any, .any, .any, .any, .eq (.bool true)] : List Vs) _ _ (by kernel_rfl) hAt0 ?hF1 ?st1 ?en1
  case hF1 =>
   intro vals;simp only [Ja.fillL, Act.put, List.setIfInBounds_toArray, List.set_cons_zero, List.set_cons_succ, Nat.reduceAdd];exact rfl
  case st1 =>
   clear hAt0;intro hctx;refine JC.p hctx ?_;refine JC.ca (fun vals W hN hd hk => (tN a W (hT.q (hG0.trans hN)) ha).mono (by rintro e W9 ⟨x9, y9, rfl, hx9, hy9, hq9⟩; exact ⟨(.tuple #[x9, y9, .bool (decide ((aV a.data.toList).1 = 0))]), rfl, ⟨_, _, _, rfl, (by have h7 := hx9; rw [Hp.out] at h7; exact h7), (by have h7 := hy9; rw [Hp.out] at h7; exact h7), congrArg Value.bool (by rw [Hca.out]; exact decide_eq_true HA0.out)⟩, hq9⟩)) hctx ?_;refine JC.m 1 hctx ?_;refine JC.o hctx ?_ ?_
   ·intro L vals W hL hJ hd K hK;have d2 : (pT3 (aN (p)) (pRn (p)) (pEq (.bool true))).p (vals 2) W := hd 2 (by kernel_rfl);generalize vals 2 = u2 at d2 hK ⊢;obtain ⟨e0, e1, e2, rfl, he0, he1, he2⟩ := d2;go_simp
    exact hK.out (e0) _ _ (by kernel_rfl) he0 (Q.refl _)
   refine JC.o hctx ?_ ?_
   ·intro L vals W hL hJ hd K hK;have d2 : (pT3 (aN (p)) (pRn (p)) (pEq (.bool true))).p (vals 2) W := hd 2 (by kernel_rfl);generalize vals 2 = u2 at d2 hK ⊢;obtain ⟨e0, e1, e2, rfl, he0, he1, he2⟩ := d2;go_simp
    exact hK.out (e1) _ _ (by kernel_rfl) he1 (Q.refl _)
   refine JC.o hctx ?_ ?_
   ·intro L vals W hL hJ hd K hK;have d2 : (pT3 (aN (p)) (pRn (p)) (pEq (.bool true))).p (vals 2) W := hd 2 (by kernel_rfl);generalize vals 2 = u2 at d2 hK ⊢;obtain ⟨e0, e1, e2, rfl, he0, he1, he2⟩ := d2;obtain rfl : e2 = .bool true := he2;go_simp
    exact hK.out (.bool true) _ _ (by kernel_rfl) rfl (Q.refl _)
   refine Ja.Steps.cons (JC.alloc (n := 0) (cells := [.bool false, .slice none 0 0, .slice none 0 0].toArray) (t := 25) hctx (by kernel_rfl) (by rfl) (by kernel_rfl) (by rfl) (by rfl) (by kernel_rfl) (by rfl) (fun W => NbV.mk (t := 25) (ck := [.b, .s, .s]) (row := [.bool false, .slice none 0 0, .slice none 0 0]) ⟨⟨_, rfl⟩, ⟨_, _, _, rfl⟩, ⟨_, _, _, rfl⟩, trivial⟩ (Bx.new W _ _)) ?_) ?_
   ·intro vals W K hK;go_simp
    exact hK.out _ (by kernel_rfl)
   refine Ja.Steps.cons (JC.alloc (n := 1) (cells := [.int .i64 0, .slice none 0 0, .slice none 0 0].toArray) (t := 32) hctx (by kernel_rfl) (by rfl) (by kernel_rfl) (by rfl) (by rfl) (by kernel_rfl) (by rfl) (fun W => NbV.mk (t := 32) (ck := [.i, .s, .s]) (row := [.int .i64 0, .slice none 0 0, .slice none 0 0]) ⟨⟨_, rfl⟩, ⟨_, _, _, rfl⟩, ⟨_, _, _, rfl⟩, trivial⟩ (Bx.new W _ _)) ?_) ?_
   ·intro vals W K hK;go_simp
    exact hK.out _ (by kernel_rfl)
   refine JC.s3 (n := 0) rfl vV hctx ?_;refine JC.s3 (n := 1) rfl fRn hctx ?_;refine JC.p hctx ?_;exact Ja.Steps.nil
  intro L vals w1 hall hJ;clear hAt0;have hq1 := hJ.q;have hG1 := hG0.trans hq1;clear hG0 ;obtain ⟨gX, eX, geX, qX⟩ := hJ.fresh 0 rfl rfl (hall 6 (by decide)) (hall 8 (by decide));obtain ⟨sX0, AX1, kX1, cX1, AX2, kX2, cX2, hX1, nX1⟩ := rR (g := gX) (t := 25) qX (show Nq w1 (vals 3) (p) from hJ.s 3 (hall 3 (by decide)));clear qX;obtain ⟨gY, eY, geY, qY⟩ := hJ.fresh 1 rfl rfl (hall 7 (by decide)) (hall 9 (by decide));obtain ⟨AY1, kY1, cY1, AY2, kY2, cY2, hY1, nY1⟩ := aFQ (g := gY) (t := 32) qY (show Rq w1 (vals 4) (p) from hJ.s 4 (hall 4 (by decide)));clear qY;have neYX : gY ≠ gX := hJ.ne 1 0 (by decide) rfl rfl (hall 7 (by decide)) (hall 6 (by decide)) eY eX;rw [eX];clear eX;rw [eY];clear eY;have f7 : vals 10 = .bool true := hJ.s 10 (hall 10 (by decide));rw [f7];clear f7;clear hall hJ;go_upto_region 2 with fail
  refine bJ (F := ?F2) ([.eq (.bool true), .eq (.bool false)] : List Vs) ?hF2 ?st2 ?en2
  case hF2 =>
   intro vals;simp only [Ja.fillL, Act.put, List.setIfInBounds_toArray, List.set_cons_zero, List.set_cons_succ, Nat.reduceAdd];exact rfl
  case st2 =>
   intro hctx;refine JC.p hctx ?_;refine JC.p hctx ?_;exact Ja.Steps.nil
  intro vals w2 hq2 hall;have hG2 := hG1.trans hq2;have hX2 := hX1.q hq2;have nX2 := Nq.q nX1 hq2;have hY2 := hY1.q hq2;have nY2 := Rq.q nY1 hq2;clear hG1 hX1 hY1 nX1 nY1;have f15 : vals 1 = .bool false := hall 1 (by decide);rw [f15];clear f15;clear hall;go_upto_region 4 with fail
  have B6 : Hid (2000 * (sz (p)) + 500000 ≤ LIM) := Lib.hid (by have h0 := Z1.out; rw [aA]; omega);have B7 : Hid (100000 * sz p + 3000000 ≤ LIM) := Lib.hid (by have h0 := Z1.out; rw [aA] at *; omega);have B8 : Hid (2000 * (sz (d)) + 500000 ≤ LIM) := Lib.hid (by have h0 := Z2.out; rw [aA]; omega);have B9 : Hid (2000 * (sz (p)) + 500000 ≤ LIM) := Lib.hid (by have h0 := Z1.out; rw [aA]; omega);have B10 : Hid (100000 * sz p + 3000000 ≤ LIM) := Lib.hid (by have h0 := Z1.out; rw [aA] at *; omega);have B11 : Hid (2000 * (sz (u)) + 500000 ≤ LIM) := Lib.hid (by have h0 := Z3.out; rw [aA]; omega);have B12 : Hid (8 * (sz (p)) + 200 ≤ LIM) := Lib.hid (by have h0 := Z1.out; rw [aA]; omega);have B13 : Hid (1000 * sz p + 10000 ≤ LIM) := Lib.hid (by have h0 := Z1.out; rw [aA] at *; omega);have B14 : Hid (2000 * (sz (f)) + 500000 ≤ LIM) := Lib.hid (by have h0 := Z4.out; rw [aA]; omega);have B15 : Hid (8 * (sz (p)) + 200 ≤ LIM) := Lib.hid (by have h0 := Z1.out; rw [aA]; omega);have B16 : Hid (1000 * sz p + 20000 ≤ LIM) := Lib.hid (by have h0 := Z1.out; rw [aA] at *; omega);have B17 : Hid (2000 * (sz (c)) + 500000 ≤ LIM) := Lib.hid (by have h0 := Z5.out; rw [aA]; omega);refine oO (F := ?F3) ([.gen (aN (p)), .eq (.int .i64 (z)), .gen (aN (d)), .gen (pRn (p)), .eq (.int .i64 (z)), .gen (pRn (d)), .eq (.bool true), .eq (.bool true), .gen (aN (p)), .eq (.int .i64 (z)), .gen (aN (u)), .gen (pRn (p)), .eq (.int .i64 (z)), .gen (pRn (u)), .eq (.bool true), .eq (.bool true), .eq (.bool true), .gen (aN (p)), .gen (aN (f)), .gen (pRn (p)), .gen (pRn (f)), .eq (.bool true), .eq (.bool true), .eq (.bool true), .gen (aN (p)), .gen (aN (c)), .gen (pRn (p)), .gen (pRn (c)), .eq (.bool true), .eq (.bool true), .eq (.bool true), .eq (.bool true), .eq (.bool true), .eq (.bool true)] : List Vs) ?hF3 ?st3 ?en3
  case hF3 =>
   intro vals;simp only [Ja.fillL, Act.put, List.setIfInBounds_toArray, List.set_cons_zero, List.set_cons_succ, Nat.reduceAdd];exact rfl
  case st3 =>
   intro hctx;refine JC.l3 (off := 0) hX2 (fun W hN => (Nq.q nX2 hN)) hctx ?_;refine JC.p hctx ?_;refine JC.ca (fun vals W hN hd hk => (aFl _ p z W (hT.q (hG2.trans hN)) (hd 0 (by kernel_rfl)) B6.out).mono (by rintro e W9 ⟨r, rfl, hr, hq9⟩; exact ⟨r, rfl, (by have h8 := hr; rw [Hd.out] at h8; exact h8), hq9⟩)) hctx ?_;refine JC.l3 (off := 0) hY2 (fun W hN => (Rq.q nY2 hN)) hctx ?_;refine JC.p hctx ?_;refine JC.ca (fun vals W hN hd hk => (vL _ p z W (hd 3 (by kernel_rfl)) B7.out).mono (by rintro e W9 ⟨r, rfl, hr, hq9⟩; exact ⟨r, rfl, (by have h8 := hr; rw [Hd.out] at h8; exact h8), hq9⟩)) hctx ?_;refine JC.ca (fun vals W hN hd hk => (aCO _ _ (d) W (hd 2 (by kernel_rfl)) (hd 5 (by kernel_rfl)) B8.out).mono (by rintro e W9 ⟨rfl, hq9⟩; exact ⟨(.bool true), rfl, rfl, hq9⟩)) hctx ?_;refine JC.p hctx ?_;refine JC.l3 (off := 0) hX2 (fun W hN => (Nq.q nX2 hN)) hctx ?_;refine JC.p hctx ?_;refine JC.ca (fun vals W hN hd hk => (aGg _ p z W (hT.q (hG2.trans hN)) (hd 8 (by kernel_rfl)) B9.out).mono (by rintro e W9 ⟨r, rfl, hr, hq9⟩; exact ⟨r, rfl, (by have h8 := hr; rw [Hu.out] at h8; exact h8), hq9⟩)) hctx ?_;refine JC.l3 (off := 0) hY2 (fun W hN => (Rq.q nY2 hN)) hctx ?_;refine JC.p hctx ?_;refine JC.ca (fun vals W hN hd hk => (aGh _ p z W (hd 11 (by kernel_rfl)) B10.out).mono (by rintro e W9 ⟨r, rfl, hr, hq9⟩; exact ⟨r, rfl, (by have h8 := hr; rw [Hu.out] at h8; exact h8), hq9⟩)) hctx ?_;refine JC.ca (fun vals W hN hd hk => (aCO _ _ (u) W (hd 10 (by kernel_rfl)) (hd 13 (by kernel_rfl)) B11.out).mono (by rintro e W9 ⟨rfl, hq9⟩; exact ⟨(.bool true), rfl, rfl, hq9⟩)) hctx ?_;refine JC.p hctx ?_;refine JC.p hctx ?_;refine JC.l3 (off := 0) hX2 (fun W hN => (Nq.q nX2 hN)) hctx ?_;refine JC.ca (fun vals W hN hd hk => (aFY _ p W (hT.q (hG2.trans hN)) (hd 17 (by kernel_rfl)) B12.out).mono (by rintro e W9 ⟨r, rfl, hr, hq9⟩; exact ⟨r, rfl, (by have h8 := hr; rw [Hf.out] at h8; exact h8), hq9⟩)) hctx ?_;refine JC.l3 (off := 0) hY2 (fun W hN => (Rq.q nY2 hN)) hctx ?_;refine JC.ca (fun vals W hN hd hk => (eB _ p W (hd 19 (by kernel_rfl)) B13.out).mono (by rintro e W9 ⟨r, rfl, hr, hq9⟩; exact ⟨r, rfl, (by have h8 := hr; rw [Hf.out] at h8; exact h8), hq9⟩)) hctx ?_;refine JC.ca (fun vals W hN hd hk => (aCO _ _ (f) W (hd 18 (by kernel_rfl)) (hd 20 (by kernel_rfl)) B14.out).mono (by rintro e W9 ⟨rfl, hq9⟩; exact ⟨(.bool true), rfl, rfl, hq9⟩)) hctx ?_;refine JC.p hctx ?_;refine JC.p hctx ?_;refine JC.l3 (off := 0) hX2 (fun W hN => (Nq.q nX2 hN)) hctx ?_;refine JC.ca (fun vals W hN hd hk => (aF5 _ p W (hT.q (hG2.trans hN)) (hd 24 (by kernel_rfl)) B15.out).mono (by rintro e W9 ⟨r, rfl, hr, hq9⟩; exact ⟨r, rfl, (by have h8 := hr; rw [Hc.out] at h8; exact h8), hq9⟩)) hctx ?_;refine JC.l3 (off := 0) hY2 (fun W hN => (Rq.q nY2 hN)) hctx ?_;refine JC.ca (fun vals W hN hd hk => (aGa _ p W (hd 26 (by kernel_rfl)) B16.out).mono (by rintro e W9 ⟨r, rfl, hr, hq9⟩; exact ⟨r, rfl, (by have h8 := hr; rw [Hc.out] at h8; exact h8), hq9⟩)) hctx ?_;refine JC.ca (fun vals W hN hd hk => (aCO _ _ (c) W (hd 25 (by kernel_rfl)) (hd 27 (by kernel_rfl)) B17.out).mono (by rintro e W9 ⟨rfl, hq9⟩; exact ⟨(.bool true), rfl, rfl, hq9⟩)) hctx ?_;refine JC.p hctx ?_;refine JC.p hctx ?_;refine JC.ca (fun vals W hN hd hk => (aAY W (hT.q (hG2.trans hN)) (hPx.q (hG2.trans hN))).mono (by rintro e W9 ⟨rfl, hq9⟩; exact ⟨(.bool true), rfl, rfl, hq9⟩)) hctx ?_;refine JC.p hctx ?_;refine JC.p hctx ?_;exact Ja.Steps.nil
  intro vals w3 hq3 hall;have hG3 := hG2.trans hq3;have hX3 := hX2.q hq3;have nX3 := Nq.q nX2 hq3;have hY3 := hY2.q hq3;have nY3 := Rq.q nY2 hq3;clear hG2 hX2 hY2 nX2 nY2;have f4 : vals 33 = .bool true := hall 33 (by decide);rw [f4];clear f4;clear hall;go_wp2_with fail
  go_ret
  exact ⟨rfl, by rw [← hw0]; exact hG3⟩
 ·have HA0 := Lib.hid hA0; clear hA0;have hAt0 : At0 w0 [⟨some 6, 0, 25, [.b, .s, .s], .agg #[.bool false, .slice none 0 0, .slice none 0 0], 8, 3⟩, ⟨some 7, 0, 32, [.i, .s, .s], .agg #[.int .i64 0, .slice none 0 0, .slice none 0 0], 9, 4⟩] [] w0 := At0.of (Q.refl _) ⟨fun h => (by cases h), fun h => (by cases h), trivial⟩ (by (simp [dO] <;> omega)) trivial;refine cK (F := ?F4) w0 ([.eq (.string (a)), .gen (pT3 (aN (p)) (pRn (p)) (pEq (.bool false))), .gen (pT3 (aN (p)) (pRn (p)) (pEq (.bool false))), .gen (aN (p)), .gen (pRn (p)), .eq (.bool false), .any, .any, .any, .any, .eq (.bool false)] : List Vs) _ _ (by kernel_rfl) hAt0 ?hF4 ?st4 ?en4
  case hF4 =>
   intro vals;simp only [Ja.fillL, Act.put, List.setIfInBounds_toArray, List.set_cons_zero, List.set_cons_succ, Nat.reduceAdd];exact rfl
  case st4 =>
   clear hAt0;intro hctx;refine JC.p hctx ?_;refine JC.ca (fun vals W hN hd hk => (tN a W (hT.q (hG0.trans hN)) ha).mono (by rintro e W9 ⟨x9, y9, rfl, hx9, hy9, hq9⟩; exact ⟨(.tuple #[x9, y9, .bool (decide ((aV a.data.toList).1 = 0))]), rfl, ⟨_, _, _, rfl, (by have h7 := hx9; rw [Hp.out] at h7; exact h7), (by have h7 := hy9; rw [Hp.out] at h7; exact h7), congrArg Value.bool (by rw [Hca.out]; exact decide_eq_false HA0.out)⟩, hq9⟩)) hctx ?_;refine JC.m 1 hctx ?_;refine JC.o hctx ?_ ?_
   ·intro L vals W hL hJ hd K hK;have d2 : (pT3 (aN (p)) (pRn (p)) (pEq (.bool false))).p (vals 2) W := hd 2 (by kernel_rfl);generalize vals 2 = u2 at d2 hK ⊢;obtain ⟨e0, e1, e2, rfl, he0, he1, he2⟩ := d2;go_simp
    exact hK.out (e0) _ _ (by kernel_rfl) he0 (Q.refl _)
   refine JC.o hctx ?_ ?_
   ·intro L vals W hL hJ hd K hK;have d2 : (pT3 (aN (p)) (pRn (p)) (pEq (.bool false))).p (vals 2) W := hd 2 (by kernel_rfl);generalize vals 2 = u2 at d2 hK ⊢;obtain ⟨e0, e1, e2, rfl, he0, he1, he2⟩ := d2;go_simp
    exact hK.out (e1) _ _ (by kernel_rfl) he1 (Q.refl _)
   refine JC.o hctx ?_ ?_
   ·intro L vals W hL hJ hd K hK;have d2 : (pT3 (aN (p)) (pRn (p)) (pEq (.bool false))).p (vals 2) W := hd 2 (by kernel_rfl);generalize vals 2 = u2 at d2 hK ⊢;obtain ⟨e0, e1, e2, rfl, he0, he1, he2⟩ := d2;obtain rfl : e2 = .bool false := he2;go_simp
    exact hK.out (.bool false) _ _ (by kernel_rfl) rfl (Q.refl _)
   refine Ja.Steps.cons (JC.alloc (n := 0) (cells := [.bool false, .slice none 0 0, .slice none 0 0].toArray) (t := 25) hctx (by kernel_rfl) (by rfl) (by kernel_rfl) (by rfl) (by rfl) (by kernel_rfl) (by rfl) (fun W => NbV.mk (t := 25) (ck := [.b, .s, .s]) (row := [.bool false, .slice none 0 0, .slice none 0 0]) ⟨⟨_, rfl⟩, ⟨_, _, _, rfl⟩, ⟨_, _, _, rfl⟩, trivial⟩ (Bx.new W _ _)) ?_) ?_
   ·intro vals W K hK;go_simp
    exact hK.out _ (by kernel_rfl)
   refine Ja.Steps.cons (JC.alloc (n := 1) (cells := [.int .i64 0, .slice none 0 0, .slice none 0 0].toArray) (t := 32) hctx (by kernel_rfl) (by rfl) (by kernel_rfl) (by rfl) (by rfl) (by kernel_rfl) (by rfl) (fun W => NbV.mk (t := 32) (ck := [.i, .s, .s]) (row := [.int .i64 0, .slice none 0 0, .slice none 0 0]) ⟨⟨_, rfl⟩, ⟨_, _, _, rfl⟩, ⟨_, _, _, rfl⟩, trivial⟩ (Bx.new W _ _)) ?_) ?_
   ·intro vals W K hK;go_simp
    exact hK.out _ (by kernel_rfl)
   refine JC.s3 (n := 0) rfl vV hctx ?_;refine JC.s3 (n := 1) rfl fRn hctx ?_;refine JC.p hctx ?_;exact Ja.Steps.nil
  intro L vals w1 hall hJ;clear hAt0;have hq1 := hJ.q;have hG1 := hG0.trans hq1;clear hG0 ;obtain ⟨gX, eX, geX, qX⟩ := hJ.fresh 0 rfl rfl (hall 6 (by decide)) (hall 8 (by decide));obtain ⟨sX0, AX1, kX1, cX1, AX2, kX2, cX2, hX1, nX1⟩ := rR (g := gX) (t := 25) qX (show Nq w1 (vals 3) (p) from hJ.s 3 (hall 3 (by decide)));clear qX;obtain ⟨gY, eY, geY, qY⟩ := hJ.fresh 1 rfl rfl (hall 7 (by decide)) (hall 9 (by decide));obtain ⟨AY1, kY1, cY1, AY2, kY2, cY2, hY1, nY1⟩ := aFQ (g := gY) (t := 32) qY (show Rq w1 (vals 4) (p) from hJ.s 4 (hall 4 (by decide)));clear qY;have neYX : gY ≠ gX := hJ.ne 1 0 (by decide) rfl rfl (hall 7 (by decide)) (hall 6 (by decide)) eY eX;rw [eX];clear eX;rw [eY];clear eY;have f7 : vals 10 = .bool false := hJ.s 10 (hall 10 (by decide));rw [f7];clear f7;clear hall hJ;go_upto_region 2 with fail
  refine bJ (F := ?F5) ([.eq (.bool false), .eq (.bool true)] : List Vs) ?hF5 ?st5 ?en5
  case hF5 =>
   intro vals;simp only [Ja.fillL, Act.put, List.setIfInBounds_toArray, List.set_cons_zero, List.set_cons_succ, Nat.reduceAdd];exact rfl
  case st5 =>
   intro hctx;refine JC.p hctx ?_;refine JC.p hctx ?_;exact Ja.Steps.nil
  intro vals w2 hq2 hall;have hG2 := hG1.trans hq2;have hX2 := hX1.q hq2;have nX2 := Nq.q nX1 hq2;have hY2 := hY1.q hq2;have nY2 := Rq.q nY1 hq2;clear hG1 hX1 hY1 nX1 nY1;have f15 : vals 1 = .bool true := hall 1 (by decide);rw [f15];clear f15;clear hall;go_upto_region 3 with fail
  refine bJ (F := ?F6) ([.eq (.bool true), .eq (.bool true)] : List Vs) ?hF6 ?st6 ?en6
  case hF6 =>
   intro vals;simp only [Ja.fillL, Act.put, List.setIfInBounds_toArray, List.set_cons_zero, List.set_cons_succ, Nat.reduceAdd];exact rfl
  case st6 =>
   intro hctx;refine JC.ca (fun vals W hN hd hk => (aAY W (hT.q (hG2.trans hN)) (hPx.q (hG2.trans hN))).mono (by rintro e W9 ⟨rfl, hq9⟩; exact ⟨(.bool true), rfl, rfl, hq9⟩)) hctx ?_;refine JC.p hctx ?_;exact Ja.Steps.nil
  intro vals w3 hq3 hall;have hG3 := hG2.trans hq3;have hX3 := hX2.q hq3;have nX3 := Nq.q nX2 hq3;have hY3 := hY2.q hq3;have nY3 := Rq.q nY2 hq3;clear hG2 hX2 hY2 nX2 nY2;have f4 : vals 1 = .bool true := hall 1 (by decide);rw [f4];clear f4;clear hall;go_wp2_with fail
  go_ret
  exact ⟨rfl, by rw [← hw0]; exact hG3⟩
end Go.Proofs.YtgpacgadpnpjjaaGreatDoor.K
