/- ValueSpans: spans of numbers. No condition. -/
import Derived.Test.YtajbfablmpmgbaaGreatDoorQw12
set_option maxHeartbeats 6000000
set_option maxRecDepth 100000
namespace Go.Proofs.YtajbfablmpmgbaaGreatDoor
open Go.RowKit
open Ma Me
theorem aAp {n : Nat} : n ≠ n + 1 + 1 := by omega
theorem aAq {n : Nat} : n + 1 ≠ n + 1 + 1 := by omega
theorem uB {n : Nat} : n ≠ n + 1 := by omega
theorem dU {w : World} {g b o : Nat} {s t u : Value} (h : b ≠ g) : (((w.setCell ⟨g, 0, none⟩ s).setCell ⟨g, 1, none⟩ t).setCell ⟨g, 2, none⟩ u).cell? ⟨b, o, none⟩ = w.cell? ⟨b, o, none⟩ := by
 rw [World.cell?_setCell_other _ _ _ _ (by intro e; cases e; exact h rfl), World.cell?_setCell_other _ _ _ _ (by intro e; cases e; exact h rfl), World.cell?_setCell_other _ _ _ _ (by intro e; cases e; exact h rfl)]
theorem aCb (p : Rat) : sz (gK p) = sz p := by
 unfold gK; split
 ·exact fA p
 ·rfl
theorem lK (q : Rat) : (gK q).num = q.num.natAbs ∧ (gK q).den = q.den := by
 unfold gK;by_cases h : q < 0
 ·have h1 := (bZ q).2 h;rw [if_pos h, Rat.neg_num, Rat.neg_den];exact ⟨by omega, rfl⟩
 ·have h1 : ¬ q.num < 0 := fun h2 => h ((bZ q).1 h2);rw [if_neg h];exact ⟨by omega, rfl⟩
theorem aCc (v : Value) (q : Rat) (w : World) (hv : Nq w v q) : Calls Tryz.prog 80 #[v] w fun e w' => ∃ r, e = .returned r ∧ Nq w' r (gK q) ∧ Q w w' := by
 refine (aIB v _ _ _ w hv).mono ?_;rintro e w' ⟨r, h1, h2, h3⟩;refine ⟨r, h1, ?_, h3⟩;unfold Nq;rw [(lK q).1, (lK q).2, Int.natAbs_natCast, decide_eq_false (by omega)];exact h2
def aR (p q : Rat) : Int × Rat := if q = 0 then (8, 0) else (0, p * q⁻¹)
theorem aD0 (x y : Value) (p q : Rat) (w : World) (hT : Tb w) (hx : Nq w x p) (hy : Nq w y q) (hB : 64 * (sz p + sz q) + 400 ≤ LIM) : Calls Tryz.prog 65 #[x, y] w fun e w' => ∃ r, e = .returned r ∧ Nq w' r (p - q) ∧ Q w w' := by
 obtain ⟨s1, A1, n1, c1, A2, n2, c2, rfl, E1, Z1, O1, hxt, hxb⟩ := hx.form;obtain ⟨s2, A3, n3, c3, A4, n4, c4, rfl, E2, Z2, O2, hyt, hyb⟩ := hy.form;obtain ⟨w0, hW, hG0, hX0, hY0, hR0⟩ := lJ w s1 (.slice A1 n1 c1) (.slice A2 n2 c2) s2 (.slice A3 n3 c3) (.slice A4 n4 c4);have HB := yW hB; clear hB;obtain ⟨x0, x1, x2⟩ := hX0.cells;obtain ⟨y0, y1, y2⟩ := hY0.cells;go_enter Tryz.func65, Tryz.ntmps65
 go_wp2_with fail
 clear hW;clear x0 x1 x2 y0 y1 y2;obtain ⟨x0, x1, x2⟩ := hX0.cells;obtain ⟨y0, y1, y2⟩ := hY0.cells
 go_region_held3 (fun W => W.cell? ⟨w.heap.size, 0, none⟩ = some (.bool s1) ∧ W.cell? ⟨w.heap.size, 1, none⟩ = some (.slice A1 n1 c1) ∧ W.cell? ⟨w.heap.size, 2, none⟩ = some (.slice A2 n2 c2) ∧ W.cell? ⟨w.heap.size + 1, 0, none⟩ = some (.bool s2) ∧ W.cell? ⟨w.heap.size + 1, 1, none⟩ = some (.slice A3 n3 c3) ∧ W.cell? ⟨w.heap.size + 1, 2, none⟩ = some (.slice A4 n4 c4)) (first | exact ⟨x0, x1, x2, y0, y1, y2⟩ | exact ⟨by assumption, by assumption, by assumption, by assumption, by assumption, by assumption⟩ | exact ⟨(dU aAp).trans (by assumption), (dU aAp).trans (by assumption), (dU aAp).trans (by assumption), (dU aAq).trans (by assumption), (dU aAq).trans (by assumption), (dU aAq).trans (by assumption)⟩ | go_keep) (first
  | (go_at_call 63; refine (aBg _ _ p (-q) _ (hT.q hG1) (hx.q hG1) ho1 (show 64 * (sz p + sz (-q)) + 400 ≤ LIM by rw [fA]; exact HB.out)).mono ?_; rintro e w2 ⟨v1, rfl, hv, hq2⟩; have hG2 := hG1.trans hq2; have hX2 := hX1.q hq2; have hY2 := hY1.q hq2; have hR2 := hR1.q hq2; obtain ⟨x0, x1, x2⟩ := hX2.cells; obtain ⟨y0, y1, y2⟩ := hY2.cells; have fz := hR2.frozen; obtain ⟨r0, r1, r2⟩ := hR2.cells; rw [← Rat.sub_eq_add_neg] at hv; obtain ⟨s6, B1, m1, d1, B2, m2, d2, rfl, -⟩ := hv.form)
  | (go_at_call 120; refine (tZ _ q _ (hy.q hG0.drew)).mono ?_; rintro e w1 ⟨o1, rfl, ho1, hq1d⟩; have hq1 : Q w0 w1 := (Q.refl w0).drew.trans hq1d; have hG1 := hG0.trans hq1; have hX1 := hX0.q hq1; have hY1 := hY0.q hq1; have hR1 := hR0.q hq1; obtain ⟨x0, x1, x2⟩ := hX1.cells; obtain ⟨y0, y1, y2⟩ := hY1.cells; obtain ⟨s5, A5, n5, c5, A6, n6, c6, rfl, -⟩ := ho1.form))
 all_goals
  go_wp2_with fail
  obtain ⟨z0, z1, z2, hvF, hqF⟩ := Nq.store hR2 hv hG2 (by exact Nat.le_add_right_of_le (Nat.le_add_right _ _));unfold put3 at z0 z1 z2 hvF hqF;refine rz3 z0 z1 z2 ?_;exact ⟨_, rfl, hvF, hqF⟩
theorem pU (x : Value) (p : Rat) (w : World) (hx : Nq w x p) : Calls Tryz.prog 49 #[x] w fun e w' => e = .returned (.int .i64 (sn p)) ∧ Q w w' := by
 obtain ⟨s1, A1, n1, c1, A2, n2, c2, rfl, E1, Z1, O1, hxt, hxb⟩ := hx.form;obtain ⟨w0, hW, hG0, hX0⟩ := pR w s1 (.slice A1 n1 c1) (.slice A2 n2 c2);obtain ⟨x0, x1, x2⟩ := hX0.cells;rcases bP p with ⟨hp, e⟩ | ⟨hp, e⟩ | ⟨hp, e⟩
 ·rw [e];have k0 : s1 = true := (by rw [E1.out]; exact decide_eq_true ((bZ p).2 hp));subst k0;clear e hp;go_enter Tryz.func49, Tryz.ntmps49
  go_wp2_with fail
  go_ret
  exact ⟨rfl, hG0⟩
 ·rw [e];have k0 : s1 = false := (by rw [E1.out]; exact decide_eq_false (fun h => by have := (bZ p).1 h; grind));subst k0;have k1 : ((n1 : Int) == 0) = true := (by rw [Z1.out.2 hp]; rfl);clear e hp;go_enter Tryz.func49, Tryz.ntmps49
  go_wp2_with fail
  go_ret
  exact ⟨rfl, hG0⟩
 ·rw [e];have k0 : s1 = false := (by rw [E1.out]; exact decide_eq_false (fun h => by have := (bZ p).1 h; grind));subst k0;have k1 : ((n1 : Int) == 0) = false := beq_eq_false_iff_ne.2 (fun h => by have := Z1.out.1 (by omega); grind);clear e hp;go_enter Tryz.func49, Tryz.ntmps49
  go_wp2_with fail
  go_ret
  exact ⟨rfl, hG0⟩
theorem aG2 (x y : Value) (p q : Rat) (w : World) (hT : Tb w) (hx : Nq w x p) (hy : Nq w y q) (hB : 16 * (sz p + sz q) + 200 ≤ LIM) : Calls Tryz.prog 45 #[x, y] w fun e w' => ∃ r, e = .returned (.tuple #[r, .int .i64 (aR p q).1]) ∧ Nq w' r (aR p q).2 ∧ Q w w' := by
 obtain ⟨s1, A1, n1, c1, A2, n2, c2, rfl, E1, Z1, O1, hxt, hxb⟩ := hx.form;obtain ⟨s2, A3, n3, c3, A4, n4, c4, rfl, E2, Z2, O2, hyt, hyb⟩ := hy.form;obtain ⟨w0, hW, hG0, hX0, hY0, hR0⟩ := lJ w s1 (.slice A1 n1 c1) (.slice A2 n2 c2) s2 (.slice A3 n3 c3) (.slice A4 n4 c4);have HB := yW hB; clear hB;by_cases hq0 : q = 0
 ·have k0 : ((n3 : Int) == 0) = true := (by rw [Z2.out.2 hq0]; rfl);have hd : aR p q = ((8 : Int), (0 : Rat)) := if_pos hq0;rw [hd];have hv := dJ w0;clear hd hq0;obtain ⟨y0, y1, y2⟩ := hY0.cells;have fz := hR0.frozen;obtain ⟨r0, r1, r2⟩ := hR0.cells;go_enter Tryz.func45, Tryz.ntmps45
  go_wp2_with fail
  clear hW;obtain ⟨z0, z1, z2, hvF, hqF⟩ := Nq.store hR0 hv hG0 (by exact Nat.le_add_right_of_le (Nat.le_add_right _ _));unfold put3 at z0 z1 z2 hvF hqF;refine rt3 (.int .i64 8) z0 z1 z2 ?_;exact ⟨_, rfl, hvF, hqF⟩
 ·have k0 : ((n3 : Int) == 0) = false := beq_eq_false_iff_ne.2 (fun h => hq0 (Z2.out.1 (by omega)));have hd : aR p q = ((0 : Int), p * q⁻¹) := if_neg hq0;rw [hd];have HQ := yW (fun h => hq0 (Rat.num_eq_zero.1 h) : q.num ≠ 0);clear hd hq0;obtain ⟨x0, x1, x2⟩ := hX0.cells;obtain ⟨y0, y1, y2⟩ := hY0.cells;go_enter Tryz.func45, Tryz.ntmps45
  go_wp2_with fail
  clear hW k0;clear x0 x1 x2 y0 y1 y2;obtain ⟨x0, x1, x2⟩ := hX0.cells;obtain ⟨y0, y1, y2⟩ := hY0.cells
  go_region_held3 (fun W => W.cell? ⟨w.heap.size, 0, none⟩ = some (.bool s1) ∧ W.cell? ⟨w.heap.size, 1, none⟩ = some (.slice A1 n1 c1) ∧ W.cell? ⟨w.heap.size, 2, none⟩ = some (.slice A2 n2 c2) ∧ W.cell? ⟨w.heap.size + 1, 0, none⟩ = some (.bool s2) ∧ W.cell? ⟨w.heap.size + 1, 1, none⟩ = some (.slice A3 n3 c3) ∧ W.cell? ⟨w.heap.size + 1, 2, none⟩ = some (.slice A4 n4 c4)) (first | exact ⟨x0, x1, x2, y0, y1, y2⟩ | exact ⟨by assumption, by assumption, by assumption, by assumption, by assumption, by assumption⟩ | exact ⟨(dU aAp).trans (by assumption), (dU aAp).trans (by assumption), (dU aAp).trans (by assumption), (dU aAq).trans (by assumption), (dU aAq).trans (by assumption), (dU aAq).trans (by assumption)⟩ | go_keep) (first
   | (go_at_call 76; refine (iL _ _ p q⁻¹ _ (hT.q hG1) (hx.q hG1) ho1 (show 16 * (sz p + sz q⁻¹) + 100 ≤ LIM by have := pG q; have := HB.out; rw [aC] at *; omega)).mono ?_; rintro e w2 ⟨v1, rfl, hv, hq2⟩; have hG2 := hG1.trans hq2; have hX2 := hX1.q hq2; have hY2 := hY1.q hq2; have hR2 := hR1.q hq2; obtain ⟨x0, x1, x2⟩ := hX2.cells; obtain ⟨y0, y1, y2⟩ := hY2.cells; have fz := hR2.frozen; obtain ⟨r0, r1, r2⟩ := hR2.cells; obtain ⟨s6, B1, m1, d1, B2, m2, d2, rfl, -⟩ := hv.form)
   | (go_at_call 54; refine (vG _ q _ (hy.q hG0.drew) HQ.out).mono ?_; rintro e w1 ⟨o1, rfl, ho1, hq1d⟩; have hq1 : Q w0 w1 := (Q.refl w0).drew.trans hq1d; have hG1 := hG0.trans hq1; have hX1 := hX0.q hq1; have hY1 := hY0.q hq1; have hR1 := hR0.q hq1; obtain ⟨x0, x1, x2⟩ := hX1.cells; obtain ⟨y0, y1, y2⟩ := hY1.cells; obtain ⟨s5, A5, n5, c5, A6, n6, c6, rfl, -⟩ := ho1.form))
  all_goals
   go_wp2_with fail
   obtain ⟨z0, z1, z2, hvF, hqF⟩ := Nq.store hR2 hv hG2 (by exact Nat.le_add_right_of_le (Nat.le_add_right _ _));unfold put3 at z0 z1 z2 hvF hqF;refine rt3 (.int .i64 0) z0 z1 z2 ?_;exact ⟨_, rfl, hvF, hqF⟩
end Go.Proofs.YtajbfablmpmgbaaGreatDoor
namespace Go.Proofs.YtajbfablmpmgbaaGreatDoor.K
open Go.RowKit
open Ma Me
theorem aG3 {p q : Rat} (hs : sn p = sn q) (hd : ¬ (p.den = 1 ∧ q.den = 1)) : p ≠ 0 ∧ q ≠ 0 := by
 have h : p = 0 ↔ q = 0 := by rw [← aM, ← aM, hs]
 constructor
 ·intro e; exact hd ⟨by rw [e]; rfl, by rw [h.1 e]; rfl⟩
 ·intro e; exact hd ⟨by rw [h.2 e]; rfl, by rw [e]; rfl⟩
theorem aAr (x y : Value) (p q : Rat) (w : World) (hx : Nq w x p) (hy : Nq w y q) (hB : 64 * (sz p + sz q) + 400 ≤ LIM) (hs : sn p = sn q) :
  Calls Tryz.prog 90 #[x, y] w fun e w' => e = .returned (.int .i64 (cmp (p.num.natAbs * q.den) (q.num.natAbs * p.den))) ∧ Q w w' := by
 obtain ⟨a0, a1, a2, rfl, jA⟩ := fmN hx;obtain ⟨b0, b1, b2, rfl, jB⟩ := fmN hy;obtain ⟨w0, hW, hG0, hA0, hB0⟩ := cK w 28 [a0, a1, a2] 28 [b0, b1, b2];have HB := yW hB; clear hB;have gs0 := yW (sbN hA0 jA hx (sbN hB0 jB hy (St.nil hG0)));clear hG0 hA0 hB0;go_enter Tryz.func90, Tryz.ntmps90
 go_upto_region 1 with fail
 clear hW;generalize w.heap.size = zz at *
 have hz1 := aN p; have hz2 := aN q; have hB0 := HB.out; rw [aC] at hB0;have b1 : Hid (dg W64 (p).num.natAbs ≤ LIM ∧ dg W64 (q).den ≤ LIM ∧ dg W64 (q).num.natAbs ≤ LIM ∧ dg W64 (p).den ≤ LIM ∧ dg W64 ((p).num.natAbs * (q).den) ≤ LIM ∧ dg W64 ((q).num.natAbs * (p).den) ≤ LIM ∧ dg W64 (p).num.natAbs + dg W64 (q).den + 8 ≤ LIM ∧ dg W64 (q).num.natAbs + dg W64 (p).den + 8 ≤ LIM) := yW (by have := cO aD (p).num.natAbs (q).den; have := cO aD (q).num.natAbs (p).den; rw [aC]; omega);obtain ⟨La, HLa⟩ : ∃ L : Int, Hid ((bl ((p).num.natAbs) : Int) = L) := ⟨_, yW rfl⟩
 obtain ⟨Lb, HLb⟩ : ∃ L : Int, Hid ((bl ((q).den) : Int) = L) := ⟨_, yW rfl⟩
 obtain ⟨Lc, HLc⟩ : ∃ L : Int, Hid ((bl ((q).num.natAbs) : Int) = L) := ⟨_, yW rfl⟩
 obtain ⟨Ld, HLd⟩ : ∃ L : Int, Hid ((bl ((p).den) : Int) = L) := ⟨_, yW rfl⟩
 obtain ⟨m, HM⟩ : ∃ m : Int, Hid (La + Lb - Lc - Ld = m) := ⟨_, yW rfl⟩
 have T : Hid (IntKind.i64.wrap (La + Lb) = La + Lb ∧ IntKind.i64.wrap (La + Lb - Lc) = La + Lb - Lc ∧ IntKind.i64.wrap (La + Lb - Lc - Ld) = m) := yW (by have k1 := jP (p).num.natAbs; have k2 := jP (q).den; have k3 := jP (q).num.natAbs; have k4 := jP (p).den; have j1 := HLa.out; have j2 := HLb.out; have j3 := HLc.out; have j4 := HLd.out; have h1 := b1.out; rw [aC] at h1; rw [← HM.out]; exact ⟨IntWalk.i64_in _ (by omega), IntWalk.i64_in _ (by omega), IntWalk.i64_in _ (by omega)⟩);have HS := yW hs; clear hs hz1 hz2 hB0;by_cases hP : p.den = 1
 ·have HP := yW hP; clear hP;by_cases hQ : q.den = 1
  ·have HQ := yW hQ; clear hQ;refine reg [gN p, eB true, eB true, gN q, eB true, eB true] [] [] [] gs0 (fun Z => ?_) fun v1 w1 X gs1 => ?_
   ·refine JW.ld 0 Z $ JW.ca (fun Y => (gI _ p _ (Y.d 0)).mono (mo1 (congrArg Value.bool (decide_eq_true (HP.out))))) Z $ JC.p Z $ JW.ld 1 Z $ JW.ca (fun Y => (gI _ q _ (Y.d 3)).mono (mo1 (congrArg Value.bool (decide_eq_true (HQ.out))))) Z $ JC.p Z $ Ja.Steps.nil
   rw [X.out.e 5 rfl rfl];clear X gs0;go_upto_region 2 with fail
   refine reg [eP zz 1, .gen (pVn ((p).num.natAbs)), eP ((zz + 1)) 1, .gen (pVn ((q).num.natAbs)), eI (cmp ((p).num.natAbs) ((q).num.natAbs)), eI (cmp ((p).num.natAbs) ((q).num.natAbs))] [] [] [] gs1 (fun Z => ?_) fun v2 w2 X gs2 => ?_
   ·refine JC.p Z $ JW.ce 0 1 nu1 Z $ JC.p Z $ JW.ce 1 1 nu1 Z $ JW.ca (fun Y => (bM _ _ ((p).num.natAbs) ((q).num.natAbs) _ (Y.d 1) (Y.d 3) b1.out.1 b1.out.2.2.1).mono mo0) Z $ JC.p Z $ Ja.Steps.nil
   rw [X.out.e 5 rfl rfl];clear X gs1;go_wp2_with fail
   go_ret
   exact ⟨by rw [HP.out, HQ.out, Nat.mul_one, Nat.mul_one]; rfl, gs2.out.q⟩
  ·have HQ := yW hQ; clear hQ;have h0 : p ≠ 0 ∧ q ≠ 0 := (by have hs0 := HS.out; have hd : ¬ (p.den = 1 ∧ q.den = 1) := fun h => HQ.out h.2; exact aG3 hs0 hd);have hC := xE (a := (p).num.natAbs) (b := (q).den) (c := (q).num.natAbs) (d := (p).den) (gV h0.1) q.den_pos (gV h0.2) p.den_pos;have HC := yW hC; clear hC h0;refine reg [gN p, eB true, eB true, gN q, eB false, eB false] [] [] [] gs0 (fun Z => ?_) fun v1 w1 X gs1 => ?_
   ·refine JW.ld 0 Z $ JW.ca (fun Y => (gI _ p _ (Y.d 0)).mono (mo1 (congrArg Value.bool (decide_eq_true (HP.out))))) Z $ JC.p Z $ JW.ld 1 Z $ JW.ca (fun Y => (gI _ q _ (Y.d 3)).mono (mo1 (congrArg Value.bool (decide_eq_false (HQ.out))))) Z $ JC.p Z $ Ja.Steps.nil
   rw [X.out.e 5 rfl rfl];clear X gs0;go_upto_region 3 with fail
   refine reg [eP zz 1, .gen (pVn ((p).num.natAbs)), eI La, gN q, .gen (pVn ((q).den)), eI Lb, eI (La + Lb), eP ((zz + 1)) 1, .gen (pVn ((q).num.natAbs)), eI Lc, eI (La + Lb - Lc), gN p, .gen (pVn ((p).den)), eI Ld, eI m, eI m] [] [] [] gs1 (fun Z => ?_) fun v2 w2 X gs2 => ?_
   ·refine JC.p Z $ JW.ce 0 1 nu1 Z $ JW.ca (fun Y => (dI _ ((p).num.natAbs) _ (Y.d 1) b1.out.1).mono (mo2 (congrArg (Value.int .i64) HLa.out))) Z $ JW.ld 1 Z $ JW.ca (fun Y => bH _ q _ (Y.d 3)) Z $ JW.ca (fun Y => (dI _ ((q).den) _ (Y.d 4) b1.out.2.1).mono (mo2 (congrArg (Value.int .i64) HLb.out))) Z $ JC.u (.int .i64 (IntKind.i64.wrap ((La) + (Lb)))) (by exact congrArg (Value.int .i64) T.out.1) Z $ JC.p Z $ JW.ce 1 1 nu1 Z $ JW.ca (fun Y => (dI _ ((q).num.natAbs) _ (Y.d 8) b1.out.2.2.1).mono (mo2 (congrArg (Value.int .i64) HLc.out))) Z $ JC.u (.int .i64 (IntKind.i64.wrap ((La + Lb) - (Lc)))) (by exact congrArg (Value.int .i64) T.out.2.1) Z $ JW.ld 0 Z $ JW.ca (fun Y => bH _ p _ (Y.d 11)) Z $ JW.ca (fun Y => (dI _ ((p).den) _ (Y.d 12) b1.out.2.2.2.1).mono (mo2 (congrArg (Value.int .i64) HLd.out))) Z $ JC.u (.int .i64 (IntKind.i64.wrap ((La + Lb - Lc) - (Ld)))) (by exact congrArg (Value.int .i64) T.out.2.2) Z $ JC.p Z $ Ja.Steps.nil
   rw [X.out.e 15 rfl rfl];clear X gs1;go_upto_region 4 with fail
   by_cases h1 : 1 < m
   ·have H1 := yW h1; clear h1;refine reg [eI m, eB true, eB true] [] [] [] gs2 (fun Z => ?_) fun v3 w3 X gs3 => ?_
    ·refine JC.p Z $ JC.u (.bool (decide ((1) < (m)))) (congrArg Value.bool (decide_eq_true (show ((m : Int) > 1) from H1.out))) Z $ JC.p Z $ Ja.Steps.nil
    rw [X.out.e 2 rfl rfl];clear X gs2;go_upto_region 5 with fail
    refine reg [eI 1] [] [] [] gs3 (fun Z => ?_) fun v4 w4 X gs4 => ?_
    ·refine JC.p Z $ Ja.Steps.nil
    rw [X.out.e 0 rfl rfl];clear X gs3;go_wp2_with fail
    go_ret
    exact ⟨congrArg Ending.returned (congrArg (Value.int .i64) (HC.out.1 (by have := HM.out; have := H1.out; have := HLa.out; have := HLb.out; have := HLc.out; have := HLd.out; omega)).symm), gs4.out.q⟩
   ·have H1 := yW h1; clear h1;refine reg [eI m, eB false, eB false] [] [] [] gs2 (fun Z => ?_) fun v3 w3 X gs3 => ?_
    ·refine JC.p Z $ JC.u (.bool (decide ((1) < (m)))) (congrArg Value.bool (decide_eq_false (show ¬ ((m : Int) > 1) from H1.out))) Z $ JC.p Z $ Ja.Steps.nil
    rw [X.out.e 2 rfl rfl];clear X gs2;go_upto_region 6 with fail
    by_cases h2 : m < -1
    ·have H2 := yW h2; clear h2;refine reg [eI m, eB true, eB true] [] [] [] gs3 (fun Z => ?_) fun v4 w4 X gs4 => ?_
     ·refine JC.p Z $ JC.u (.bool (decide ((m) < (-1)))) (congrArg Value.bool (decide_eq_true (show ((m : Int) < -1) from H2.out))) Z $ JC.p Z $ Ja.Steps.nil
     rw [X.out.e 2 rfl rfl];clear X gs3;go_upto_region 7 with fail
     refine reg [eI (-1)] [] [] [] gs4 (fun Z => ?_) fun v5 w5 X gs5 => ?_
     ·refine JC.p Z $ Ja.Steps.nil
     rw [X.out.e 0 rfl rfl];clear X gs4;go_wp2_with fail
     go_ret
     exact ⟨congrArg Ending.returned (congrArg (Value.int .i64) (HC.out.2 (by have := HM.out; have := H2.out; have := HLa.out; have := HLb.out; have := HLc.out; have := HLd.out; omega)).symm), gs5.out.q⟩
    ·have H2 := yW h2; clear h2;refine reg [eI m, eB false, eB false] [] [] [] gs3 (fun Z => ?_) fun v4 w4 X gs4 => ?_
     ·refine JC.p Z $ JC.u (.bool (decide ((m) < (-1)))) (congrArg Value.bool (decide_eq_false (show ¬ ((m : Int) < -1) from H2.out))) Z $ JC.p Z $ Ja.Steps.nil
     rw [X.out.e 2 rfl rfl];clear X gs3;go_upto_region 8 with fail
     refine reg [eP zz 1, .gen (pVn ((p).num.natAbs)), gN q, .gen (pVn ((q).den)), .gen (pVn (((p).num.natAbs) * ((q).den))), eP ((zz + 1)) 1, .gen (pVn ((q).num.natAbs)), gN p, .gen (pVn ((p).den)), .gen (pVn (((q).num.natAbs) * ((p).den))), eI (cmp (((p).num.natAbs) * ((q).den)) (((q).num.natAbs) * ((p).den))), eI (cmp (((p).num.natAbs) * ((q).den)) (((q).num.natAbs) * ((p).den)))] [] [] [] gs4 (fun Z => ?_) fun v5 w5 X gs5 => ?_
     ·refine JC.p Z $ JW.ce 0 1 nu1 Z $ JW.ld 1 Z $ JW.ca (fun Y => bH _ q _ (Y.d 2)) Z $ JW.ca (fun Y => (bR ((p).num.natAbs) ((q).den) _ _ _ (Y.d 1) (Y.d 3) b1.out.2.2.2.2.2.2.1).mono mo4) Z $ JC.p Z $ JW.ce 1 1 nu1 Z $ JW.ld 0 Z $ JW.ca (fun Y => bH _ p _ (Y.d 7)) Z $ JW.ca (fun Y => (bR ((q).num.natAbs) ((p).den) _ _ _ (Y.d 6) (Y.d 8) b1.out.2.2.2.2.2.2.2).mono mo4) Z $ JW.ca (fun Y => (bM _ _ (((p).num.natAbs) * ((q).den)) (((q).num.natAbs) * ((p).den)) _ (Y.d 4) (Y.d 9) b1.out.2.2.2.2.1 b1.out.2.2.2.2.2.1).mono mo0) Z $ JC.p Z $ Ja.Steps.nil
     rw [X.out.e 11 rfl rfl];clear X gs4;go_wp2_with fail
     go_ret
     exact ⟨rfl, gs5.out.q⟩
 ·have HP := yW hP; clear hP;have h0 : p ≠ 0 ∧ q ≠ 0 := (by have hs0 := HS.out; have hd : ¬ (p.den = 1 ∧ q.den = 1) := fun h => HP.out h.1; exact aG3 hs0 hd);have hC := xE (a := (p).num.natAbs) (b := (q).den) (c := (q).num.natAbs) (d := (p).den) (gV h0.1) q.den_pos (gV h0.2) p.den_pos;have HC := yW hC; clear hC h0;refine reg [gN p, eB false, eB false, .no, .no, eB false] [] [] [] gs0 (fun Z => ?_) fun v1 w1 X gs1 => ?_
  ·refine JW.ld 0 Z $ JW.ca (fun Y => (gI _ p _ (Y.d 0)).mono (mo1 (congrArg Value.bool (decide_eq_false (HP.out))))) Z $ JC.p Z $ JC.n Z $ JC.n Z $ JC.p Z $ Ja.Steps.nil
  rw [X.out.e 5 rfl rfl];clear X gs0;go_upto_region 3 with fail
  refine reg [eP zz 1, .gen (pVn ((p).num.natAbs)), eI La, gN q, .gen (pVn ((q).den)), eI Lb, eI (La + Lb), eP ((zz + 1)) 1, .gen (pVn ((q).num.natAbs)), eI Lc, eI (La + Lb - Lc), gN p, .gen (pVn ((p).den)), eI Ld, eI m, eI m] [] [] [] gs1 (fun Z => ?_) fun v2 w2 X gs2 => ?_
  ·refine JC.p Z $ JW.ce 0 1 nu1 Z $ JW.ca (fun Y => (dI _ ((p).num.natAbs) _ (Y.d 1) b1.out.1).mono (mo2 (congrArg (Value.int .i64) HLa.out))) Z $ JW.ld 1 Z $ JW.ca (fun Y => bH _ q _ (Y.d 3)) Z $ JW.ca (fun Y => (dI _ ((q).den) _ (Y.d 4) b1.out.2.1).mono (mo2 (congrArg (Value.int .i64) HLb.out))) Z $ JC.u (.int .i64 (IntKind.i64.wrap ((La) + (Lb)))) (by exact congrArg (Value.int .i64) T.out.1) Z $ JC.p Z $ JW.ce 1 1 nu1 Z $ JW.ca (fun Y => (dI _ ((q).num.natAbs) _ (Y.d 8) b1.out.2.2.1).mono (mo2 (congrArg (Value.int .i64) HLc.out))) Z $ JC.u (.int .i64 (IntKind.i64.wrap ((La + Lb) - (Lc)))) (by exact congrArg (Value.int .i64) T.out.2.1) Z $ JW.ld 0 Z $ JW.ca (fun Y => bH _ p _ (Y.d 11)) Z $ JW.ca (fun Y => (dI _ ((p).den) _ (Y.d 12) b1.out.2.2.2.1).mono (mo2 (congrArg (Value.int .i64) HLd.out))) Z $ JC.u (.int .i64 (IntKind.i64.wrap ((La + Lb - Lc) - (Ld)))) (by exact congrArg (Value.int .i64) T.out.2.2) Z $ JC.p Z $ Ja.Steps.nil
  rw [X.out.e 15 rfl rfl];clear X gs1;go_upto_region 4 with fail
  by_cases h1 : 1 < m
  ·have H1 := yW h1; clear h1;refine reg [eI m, eB true, eB true] [] [] [] gs2 (fun Z => ?_) fun v3 w3 X gs3 => ?_
   ·refine JC.p Z $ JC.u (.bool (decide ((1) < (m)))) (congrArg Value.bool (decide_eq_true (show ((m : Int) > 1) from H1.out))) Z $ JC.p Z $ Ja.Steps.nil
   rw [X.out.e 2 rfl rfl];clear X gs2;go_upto_region 5 with fail
   refine reg [eI 1] [] [] [] gs3 (fun Z => ?_) fun v4 w4 X gs4 => ?_
   ·refine JC.p Z $ Ja.Steps.nil
   rw [X.out.e 0 rfl rfl];clear X gs3;go_wp2_with fail
   go_ret
   exact ⟨congrArg Ending.returned (congrArg (Value.int .i64) (HC.out.1 (by have := HM.out; have := H1.out; have := HLa.out; have := HLb.out; have := HLc.out; have := HLd.out; omega)).symm), gs4.out.q⟩
  ·have H1 := yW h1; clear h1;refine reg [eI m, eB false, eB false] [] [] [] gs2 (fun Z => ?_) fun v3 w3 X gs3 => ?_
   ·refine JC.p Z $ JC.u (.bool (decide ((1) < (m)))) (congrArg Value.bool (decide_eq_false (show ¬ ((m : Int) > 1) from H1.out))) Z $ JC.p Z $ Ja.Steps.nil
   rw [X.out.e 2 rfl rfl];clear X gs2;go_upto_region 6 with fail
   by_cases h2 : m < -1
   ·have H2 := yW h2; clear h2;refine reg [eI m, eB true, eB true] [] [] [] gs3 (fun Z => ?_) fun v4 w4 X gs4 => ?_
    ·refine JC.p Z $ JC.u (.bool (decide ((m) < (-1)))) (congrArg Value.bool (decide_eq_true (show ((m : Int) < -1) from H2.out))) Z $ JC.p Z $ Ja.Steps.nil
    rw [X.out.e 2 rfl rfl];clear X gs3;go_upto_region 7 with fail
    refine reg [eI (-1)] [] [] [] gs4 (fun Z => ?_) fun v5 w5 X gs5 => ?_
    ·refine JC.p Z $ Ja.Steps.nil
    rw [X.out.e 0 rfl rfl];clear X gs4;go_wp2_with fail
    go_ret
    exact ⟨congrArg Ending.returned (congrArg (Value.int .i64) (HC.out.2 (by have := HM.out; have := H2.out; have := HLa.out; have := HLb.out; have := HLc.out; have := HLd.out; omega)).symm), gs5.out.q⟩
   ·have H2 := yW h2; clear h2;refine reg [eI m, eB false, eB false] [] [] [] gs3 (fun Z => ?_) fun v4 w4 X gs4 => ?_
    ·refine JC.p Z $ JC.u (.bool (decide ((m) < (-1)))) (congrArg Value.bool (decide_eq_false (show ¬ ((m : Int) < -1) from H2.out))) Z $ JC.p Z $ Ja.Steps.nil
    rw [X.out.e 2 rfl rfl];clear X gs3;go_upto_region 8 with fail
    refine reg [eP zz 1, .gen (pVn ((p).num.natAbs)), gN q, .gen (pVn ((q).den)), .gen (pVn (((p).num.natAbs) * ((q).den))), eP ((zz + 1)) 1, .gen (pVn ((q).num.natAbs)), gN p, .gen (pVn ((p).den)), .gen (pVn (((q).num.natAbs) * ((p).den))), eI (cmp (((p).num.natAbs) * ((q).den)) (((q).num.natAbs) * ((p).den))), eI (cmp (((p).num.natAbs) * ((q).den)) (((q).num.natAbs) * ((p).den)))] [] [] [] gs4 (fun Z => ?_) fun v5 w5 X gs5 => ?_
    ·refine JC.p Z $ JW.ce 0 1 nu1 Z $ JW.ld 1 Z $ JW.ca (fun Y => bH _ q _ (Y.d 2)) Z $ JW.ca (fun Y => (bR ((p).num.natAbs) ((q).den) _ _ _ (Y.d 1) (Y.d 3) b1.out.2.2.2.2.2.2.1).mono mo4) Z $ JC.p Z $ JW.ce 1 1 nu1 Z $ JW.ld 0 Z $ JW.ca (fun Y => bH _ p _ (Y.d 7)) Z $ JW.ca (fun Y => (bR ((q).num.natAbs) ((p).den) _ _ _ (Y.d 6) (Y.d 8) b1.out.2.2.2.2.2.2.2).mono mo4) Z $ JW.ca (fun Y => (bM _ _ (((p).num.natAbs) * ((q).den)) (((q).num.natAbs) * ((p).den)) _ (Y.d 4) (Y.d 9) b1.out.2.2.2.2.1 b1.out.2.2.2.2.2.1).mono mo0) Z $ JC.p Z $ Ja.Steps.nil
    rw [X.out.e 11 rfl rfl];clear X gs4;go_wp2_with fail
    go_ret
    exact ⟨rfl, gs5.out.q⟩
end Go.Proofs.YtajbfablmpmgbaaGreatDoor.K
namespace Go.Proofs.YtajbfablmpmgbaaGreatDoor
open Go.RowKit
open Ma Me K
theorem aGz {p q : Rat} : (sn p < sn q → rc p q = -1) ∧ (sn q < sn p → rc p q = 1) := by
 constructor
 ·intro h; refine aBe ?_;rcases bP p with ⟨h1, e1⟩ | ⟨h1, e1⟩ | ⟨h1, e1⟩ <;> rcases bP q with ⟨h2, e2⟩ | ⟨h2, e2⟩ | ⟨h2, e2⟩ <;> rw [e1, e2] at h <;> first | omega | grind
 ·intro h; refine aDE ?_;rcases bP p with ⟨h1, e1⟩ | ⟨h1, e1⟩ | ⟨h1, e1⟩ <;> rcases bP q with ⟨h2, e2⟩ | ⟨h2, e2⟩ | ⟨h2, e2⟩ <;> rw [e1, e2] at h <;> first | omega | grind
theorem aIE (a b : Nat) : -1 ≤ cmp a b ∧ cmp a b ≤ 1 := by
 unfold cmp; split
 ·omega
 ·split <;> omega
theorem aI5 (p : Rat) : -1 ≤ sn p ∧ sn p ≤ 1 := by
 rcases bP p with ⟨-, e⟩ | ⟨-, e⟩ | ⟨-, e⟩ <;> rw [e] <;> decide
theorem aAT {a c : Int} (ha : -1 ≤ a ∧ a ≤ 1) (hc : -1 ≤ c ∧ c ≤ 1) : -9223372036854775808 ≤ a * c ∧ a * c ≤ 9223372036854775807 := by
 rcases (by omega : a = -1 ∨ a = 0 ∨ a = 1) with rfl | rfl | rfl <;> omega
theorem iQ (x y : Value) (p q : Rat) (w : World) (hx : Nq w x p) (hy : Nq w y q) (hB : 64 * (sz p + sz q) + 400 ≤ LIM) : Calls Tryz.prog 40 #[x, y] w fun e w' => e = .returned (.int .i64 (rc p q)) ∧ Q w w' := by
 obtain ⟨s1, A1, n1, c1, A2, n2, c2, rfl, E1, Z1, O1, hxt, hxb⟩ := hx.form;obtain ⟨s2, A3, n3, c3, A4, n4, c4, rfl, E2, Z2, O2, hyt, hyb⟩ := hy.form;obtain ⟨w0, hW, hG0, hX0, hY0⟩ := aE7 w s1 (.slice A1 n1 c1) (.slice A2 n2 c2) s2 (.slice A3 n3 c3) (.slice A4 n4 c4);have HB := yW hB; clear hB;obtain ⟨a, ha⟩ : ∃ a, sn p = a := ⟨_, rfl⟩
 obtain ⟨b, hb⟩ : ∃ b, sn q = b := ⟨_, rfl⟩
 have hlt := @aGz p q; have heq := @sZ p q; have hc := aIE (p.num.natAbs * q.den) (q.num.natAbs * p.den);have hal := aI5 p;have HS := yW (show sn p = sn q ↔ a = b by rw [ha, hb]);rw [ha] at hlt heq hal; rw [hb] at hlt heq;have HA := yW ha; have HBb := yW hb; clear ha hb;have HE := yW heq; have HL := yW hlt; clear heq hlt;have HC := yW hc; clear hc;rcases Int.lt_trichotomy a b with h | h | h
 ·obtain ⟨x0, x1, x2⟩ := hX0.cells;obtain ⟨y0, y1, y2⟩ := hY0.cells;go_enter Tryz.func40, Tryz.ntmps40
  go_wp2_with fail
  clear hW;refine (pU _ p _ (hx.q hG0)).mono ?_;rintro e w1 ⟨rfl, hq1⟩;have hG1 := hG0.trans hq1;have hX1 := hX0.q hq1;have hY1 := hY0.q hq1;clear x0 x1 x2 y0 y1 y2;obtain ⟨x0, x1, x2⟩ := hX1.cells;obtain ⟨y0, y1, y2⟩ := hY1.cells;rw [HA.out];go_wp2_with fail
  refine (pU _ q _ (hy.q hG1)).mono ?_;rintro e w2 ⟨rfl, hq2⟩;have hG2 := hG1.trans hq2;have hX2 := hX1.q hq2;have hY2 := hY1.q hq2;clear x0 x1 x2 y0 y1 y2;obtain ⟨x0, x1, x2⟩ := hX2.cells;obtain ⟨y0, y1, y2⟩ := hY2.cells;rw [HBb.out];go_wp2_with fail
  go_ret
  exact ⟨mQ (HL.out.1 h).symm, hG2⟩
 ·have HAB := yW h;have h1 : ¬ a < b := (by omega);have h2 : ¬ b < a := (by omega);clear h;obtain ⟨x0, x1, x2⟩ := hX0.cells;obtain ⟨y0, y1, y2⟩ := hY0.cells;go_enter Tryz.func40, Tryz.ntmps40
  go_wp2_with fail
  clear hW;refine (pU _ p _ (hx.q hG0)).mono ?_;rintro e w1 ⟨rfl, hq1⟩;have hG1 := hG0.trans hq1;have hX1 := hX0.q hq1;have hY1 := hY0.q hq1;clear x0 x1 x2 y0 y1 y2;obtain ⟨x0, x1, x2⟩ := hX1.cells;obtain ⟨y0, y1, y2⟩ := hY1.cells;rw [HA.out];go_wp2_with fail
  refine (pU _ q _ (hy.q hG1)).mono ?_;rintro e w2 ⟨rfl, hq2⟩;have hG2 := hG1.trans hq2;have hX2 := hX1.q hq2;have hY2 := hY1.q hq2;clear x0 x1 x2 y0 y1 y2;obtain ⟨x0, x1, x2⟩ := hX2.cells;obtain ⟨y0, y1, y2⟩ := hY2.cells;rw [HBb.out];go_wp2_with fail
  have h3 : sn p = sn q := HS.out.2 HAB.out;refine (aAr _ _ p q _ (hx.q hG2) (hy.q hG2) HB.out h3).mono ?_;rintro e w3 ⟨rfl, hq3⟩;have hG3 := hG2.trans hq3;have hX3 := hX2.q hq3;have hY3 := hY2.q hq3;clear x0 x1 x2 y0 y1 y2;have hr := HE.out HAB.out;have hc := HC.out;generalize cmp (p.num.natAbs * q.den) (q.num.natAbs * p.den) = c at hr hc ⊢;have hw : IntKind.i64.wrap (a * c) = a * c := IntWalk.i64_in _ (aAT hal hc);have hw2 : wrap64 (a * c) = a * c := IntWalk.wrap64_in _ (aAT hal hc);have HR := yW hr; clear hr h3;go_wp2_with fail
  go_ret
  exact ⟨mQ HR.out.symm, hG3⟩
 ·have h1 : ¬ a < b := (by omega);obtain ⟨x0, x1, x2⟩ := hX0.cells;obtain ⟨y0, y1, y2⟩ := hY0.cells;go_enter Tryz.func40, Tryz.ntmps40
  go_wp2_with fail
  clear hW;refine (pU _ p _ (hx.q hG0)).mono ?_;rintro e w1 ⟨rfl, hq1⟩;have hG1 := hG0.trans hq1;have hX1 := hX0.q hq1;have hY1 := hY0.q hq1;clear x0 x1 x2 y0 y1 y2;obtain ⟨x0, x1, x2⟩ := hX1.cells;obtain ⟨y0, y1, y2⟩ := hY1.cells;rw [HA.out];go_wp2_with fail
  refine (pU _ q _ (hy.q hG1)).mono ?_;rintro e w2 ⟨rfl, hq2⟩;have hG2 := hG1.trans hq2;have hX2 := hX1.q hq2;have hY2 := hY1.q hq2;clear x0 x1 x2 y0 y1 y2;obtain ⟨x0, x1, x2⟩ := hX2.cells;obtain ⟨y0, y1, y2⟩ := hY2.cells;rw [HBb.out];go_wp2_with fail
  go_ret
  exact ⟨mQ (HL.out.2 h).symm, hG2⟩
theorem xY (x y : Value) (p q : Rat) (w : World) (hx : Nq w x p) (hy : Nq w y q) (hB : 64 * (sz p + sz q) + 400 ≤ LIM) : Calls Tryz.prog 58 #[x, y] w fun e w' => ∃ r, e = .returned r ∧ Nq w' r (aB p q) ∧ Q w w' := by
 obtain ⟨s1, A1, n1, c1, A2, n2, c2, rfl, E1, Z1, O1, hxt, hxb⟩ := hx.form;obtain ⟨s2, A3, n3, c3, A4, n4, c4, rfl, E2, Z2, O2, hyt, hyb⟩ := hy.form;obtain ⟨w0, hW, hG0, hX0, hY0, hR0⟩ := lJ w s1 (.slice A1 n1 c1) (.slice A2 n2 c2) s2 (.slice A3 n3 c3) (.slice A4 n4 c4);have HB := yW hB; clear hB;obtain ⟨c, hc⟩ : ∃ c, rc p q = c := ⟨_, rfl⟩
 have hi := eU p q;rw [hc] at hi;have HC := yW hc; clear hc;by_cases h : c ≤ 0
 ·have hm : aB p q = p := if_pos (hi.1 h);rw [hm];clear hm hi;obtain ⟨x0, x1, x2⟩ := hX0.cells;obtain ⟨y0, y1, y2⟩ := hY0.cells;go_enter Tryz.func58, Tryz.ntmps58
  go_wp2_with fail
  clear hW;refine (iQ _ _ p q _ (hx.q hG0) (hy.q hG0) HB.out).mono ?_;rintro e w1 ⟨rfl, hq1⟩;have hG1 := hG0.trans hq1;have hX1 := hX0.q hq1;have hY1 := hY0.q hq1;have hR1 := hR0.q hq1;clear x0 x1 x2 y0 y1 y2;obtain ⟨x0, x1, x2⟩ := hX1.cells;have fz := hR1.frozen;obtain ⟨r0, r1, r2⟩ := hR1.cells;rw [HC.out];go_wp2_with fail
  have hv := hx.q hG1;obtain ⟨z0, z1, z2, hvF, hqF⟩ := Nq.store hR1 hv hG1 (by exact Nat.le_add_right_of_le (Nat.le_add_right _ _));unfold put3 at z0 z1 z2 hvF hqF;refine rz3 z0 z1 z2 ?_;exact ⟨_, rfl, hvF, hqF⟩
 ·have hm : aB p q = q := if_neg (fun h1 => h (hi.2 h1));rw [hm];clear hm hi;obtain ⟨x0, x1, x2⟩ := hX0.cells;obtain ⟨y0, y1, y2⟩ := hY0.cells;go_enter Tryz.func58, Tryz.ntmps58
  go_wp2_with fail
  clear hW;refine (iQ _ _ p q _ (hx.q hG0) (hy.q hG0) HB.out).mono ?_;rintro e w1 ⟨rfl, hq1⟩;have hG1 := hG0.trans hq1;have hX1 := hX0.q hq1;have hY1 := hY0.q hq1;have hR1 := hR0.q hq1;clear x0 x1 x2 y0 y1 y2;obtain ⟨y0, y1, y2⟩ := hY1.cells;have fz := hR1.frozen;obtain ⟨r0, r1, r2⟩ := hR1.cells;rw [HC.out];go_wp2_with fail
  have hv := hy.q hG1;obtain ⟨z0, z1, z2, hvF, hqF⟩ := Nq.store hR1 hv hG1 (by exact Nat.le_add_right_of_le (Nat.le_add_right _ _));unfold put3 at z0 z1 z2 hvF hqF;refine rz3 z0 z1 z2 ?_;exact ⟨_, rfl, hvF, hqF⟩
theorem qK (x y : Value) (p q : Rat) (w : World) (hx : Nq w x p) (hy : Nq w y q) (hB : 64 * (sz p + sz q) + 400 ≤ LIM) : Calls Tryz.prog 57 #[x, y] w fun e w' => ∃ r, e = .returned r ∧ Nq w' r (aA p q) ∧ Q w w' := by
 obtain ⟨s1, A1, n1, c1, A2, n2, c2, rfl, E1, Z1, O1, hxt, hxb⟩ := hx.form;obtain ⟨s2, A3, n3, c3, A4, n4, c4, rfl, E2, Z2, O2, hyt, hyb⟩ := hy.form;obtain ⟨w0, hW, hG0, hX0, hY0, hR0⟩ := lJ w s1 (.slice A1 n1 c1) (.slice A2 n2 c2) s2 (.slice A3 n3 c3) (.slice A4 n4 c4);have HB := yW hB; clear hB;obtain ⟨c, hc⟩ : ∃ c, rc p q = c := ⟨_, rfl⟩
 have hi := aBf p q;rw [hc] at hi;have HC := yW hc; clear hc;by_cases h : 0 ≤ c
 ·have hm : aA p q = p := if_pos (hi.1 h);rw [hm];clear hm hi;obtain ⟨x0, x1, x2⟩ := hX0.cells;obtain ⟨y0, y1, y2⟩ := hY0.cells;go_enter Tryz.func57, Tryz.ntmps57
  go_wp2_with fail
  clear hW;refine (iQ _ _ p q _ (hx.q hG0) (hy.q hG0) HB.out).mono ?_;rintro e w1 ⟨rfl, hq1⟩;have hG1 := hG0.trans hq1;have hX1 := hX0.q hq1;have hY1 := hY0.q hq1;have hR1 := hR0.q hq1;clear x0 x1 x2 y0 y1 y2;obtain ⟨x0, x1, x2⟩ := hX1.cells;have fz := hR1.frozen;obtain ⟨r0, r1, r2⟩ := hR1.cells;rw [HC.out];go_wp2_with fail
  have hv := hx.q hG1;obtain ⟨z0, z1, z2, hvF, hqF⟩ := Nq.store hR1 hv hG1 (by exact Nat.le_add_right_of_le (Nat.le_add_right _ _));unfold put3 at z0 z1 z2 hvF hqF;refine rz3 z0 z1 z2 ?_;exact ⟨_, rfl, hvF, hqF⟩
 ·have hm : aA p q = q := if_neg (fun h1 => h (hi.2 h1));rw [hm];clear hm hi;obtain ⟨x0, x1, x2⟩ := hX0.cells;obtain ⟨y0, y1, y2⟩ := hY0.cells;go_enter Tryz.func57, Tryz.ntmps57
  go_wp2_with fail
  clear hW;refine (iQ _ _ p q _ (hx.q hG0) (hy.q hG0) HB.out).mono ?_;rintro e w1 ⟨rfl, hq1⟩;have hG1 := hG0.trans hq1;have hX1 := hX0.q hq1;have hY1 := hY0.q hq1;have hR1 := hR0.q hq1;clear x0 x1 x2 y0 y1 y2;obtain ⟨y0, y1, y2⟩ := hY1.cells;have fz := hR1.frozen;obtain ⟨r0, r1, r2⟩ := hR1.cells;rw [HC.out];go_wp2_with fail
  have hv := hy.q hG1;obtain ⟨z0, z1, z2, hvF, hqF⟩ := Nq.store hR1 hv hG1 (by exact Nat.le_add_right_of_le (Nat.le_add_right _ _));unfold put3 at z0 z1 z2 hvF hqF;refine rz3 z0 z1 z2 ?_;exact ⟨_, rfl, hvF, hqF⟩
end Go.Proofs.YtajbfablmpmgbaaGreatDoor
namespace Go.Proofs.YtajbfablmpmgbaaGreatDoor
open Go.RowKit
open Ma Me
theorem aIF (p : Rat) (n : Nat) : (p ^ n).num = sg (decide (p.num < 0) && decide (n % 2 = 1)) (p.num.natAbs ^ n) := by
 rw [Rat.num_pow];have h := rZ p;generalize p.num.natAbs = N at *
 generalize decide (p.num < 0) = s at *
 cases s
 ·rw [← h]; simp [sg]
 ·rw [← h];simp only [sg, Bool.true_and];rw [if_pos trivial]
  induction n with
  | zero => simp
  | succ n ih =>
    rw [Int.pow_succ, ih, Nat.pow_succ, Int.natCast_mul];rcases Nat.mod_two_eq_zero_or_one n with h2 | h2
    ·have h3 : (n + 1) % 2 = 1 := (by omega);rw [if_neg (by rw [h2]; decide), if_pos (decide_eq_true h3), Int.mul_neg]
    ·have h3 : ¬ (n + 1) % 2 = 1 := (by omega);rw [if_pos (by rw [h2]; decide), if_neg (by rw [decide_eq_false h3]; decide), Int.neg_mul_neg]
def iW (p : Rat) (z : Int) : Int × Rat := if z < -64 ∨ 64 < z then (7, 0) else if z < 0 then (if p = 0 then (8, 0) else (0, p⁻¹ ^ (-z).toNat)) else (0, p ^ z.toNat)
theorem aDf (x : Value) (p : Rat) (z : Int) (n : Nat) (w : World) (hx : Nq w x p) (hz : Hid (z = (n : Int))) (hn : n ≤ 64) (hB : 64 * sz p + 400 ≤ LIM) : Calls Tryz.prog 70 #[x, .int .i64 z] w fun e w' => ∃ r, e = .returned r ∧ Nq w' r (p ^ n) ∧ Q w w' := by
 obtain ⟨s1, A1, n1, c1, A2, n2, c2, rfl, E1, Z1, O1, hxt, hxb⟩ := hx.form;obtain ⟨w0, hW, hG0, hX0, hR0⟩ := wK w s1 (.slice A1 n1 c1) (.slice A2 n2 c2);have HB := yW hB; clear hB;have b1 : n * dg W64 p.num.natAbs + 9 ≤ LIM := by have h1 := Nat.mul_le_mul_right (dg W64 p.num.natAbs) hn; have := gP p; have := HB.out; rw [aC] at *; omega
 have b2 : n * dg W64 p.den + 9 ≤ LIM := by have h1 := Nat.mul_le_mul_right (dg W64 p.den) hn; have := fZ p; have := HB.out; rw [aC] at *; omega
 have b3 : n ≤ 4611686018427387904 := by omega
 have hP := aIF p n;rw [← E1.out] at hP;have HP := yW hP; clear hP;rcases Bool.eq_false_or_eq_true s1 with hs | hs
 ·subst hs;rcases Nat.mod_two_eq_zero_or_one n with h2 | h2
  ·have h3 : z.tmod 2 = 0 := (by rw [hz.out, Int.tmod_eq_emod_of_nonneg (by omega)]; omega);have HP2 : Hid ((p ^ n).num = sg false (p.num.natAbs ^ n)) := (by have h := HP.out; rw [h2] at h; exact h);clear HP h2;have HP := HP2; clear HP2;go_enter Tryz.func70, Tryz.ntmps70
   go_wp2_with fail
   clear hW;obtain ⟨x0, x1, x2⟩ := hX0.cells
   go_region_held3 (fun W => W.cell? ⟨w.heap.size, 0, none⟩ = some (.bool true) ∧ W.cell? ⟨w.heap.size, 1, none⟩ = some (.slice A1 n1 c1) ∧ W.cell? ⟨w.heap.size, 2, none⟩ = some (.slice A2 n2 c2)) (first | with_reducible exact ⟨x0, x1, x2⟩ | (refine ⟨?_, ?_, ?_⟩ <;> with_reducible assumption) | exact ⟨(dU uB).trans (by assumption), (dU uB).trans (by assumption), (dU uB).trans (by assumption)⟩ | go_keep) (first
    | (go_at_call 77; (with_reducible refine (bU false _ _ (p.num.natAbs ^ n) (p.den ^ n) _ ((ht1.q hq2).q hq3) ht2).mono ?_); rintro e w4 ⟨v5, rfl, hv5, hq4⟩; have hG4 := hG3.trans hq4; have hX4 := hX3.q hq4; have hR4 := hR3.q hq4; obtain ⟨x0, x1, x2⟩ := hX4.cells; have fz := hR4.frozen; obtain ⟨r0, r1, r2⟩ := hR4.cells; obtain ⟨B1, d1, B2, d2, rfl, -, -⟩ := hv5.form; have hv := Nq.made (q := p ^ n) hv5 HP.out (fun _ => Rat.den_pow p n); generalize (decide (0 < p.num.natAbs ^ n) && false) = s4 at *; generalize dg W64 (if p.num.natAbs ^ n = 0 then 0 else bt (p.den ^ n)) = m2 at *; generalize dg W64 (p.num.natAbs ^ n) = m1 at *)
    | (go_at_call 121; (with_reducible refine (kZ _ p.den n _ _ hu1 hz.out b2 b3).mono ?_); rintro e w3 ⟨t2, rfl, ht2, hq3, -⟩; have hG3 := hG2.trans hq3; have hX3 := hX2.q hq3; have hR3 := hR2.q hq3; obtain ⟨x0, x1, x2⟩ := hX3.cells; obtain ⟨A7, n7, c7, rfl⟩ := ht2.form)
    | (go_at_call 112; (with_reducible refine (bH _ p _ (hx.q hG1)).mono ?_); rintro e w2 ⟨u1, rfl, hu1, hq2⟩; have hG2 := hG1.trans hq2; have hX2 := hX1.q hq2; have hR2 := hR1.q hq2; obtain ⟨x0, x1, x2⟩ := hX2.cells; obtain ⟨A6, n6, c6, rfl⟩ := hu1.form)
    | (go_at_call 121; (with_reducible refine (kZ _ p.num.natAbs n _ _ (hxt.q hG0.drew) hz.out b1 b3).mono ?_); rintro e w1 ⟨t1, rfl, ht1, hq1d, -⟩; have hq1 : Q w0 w1 := (Q.refl w0).drew.trans hq1d; have hG1 := hG0.trans hq1; have hX1 := hX0.q hq1; have hR1 := hR0.q hq1; obtain ⟨x0, x1, x2⟩ := hX1.cells; obtain ⟨A5, n5, c5, rfl⟩ := ht1.form))
   all_goals
    go_wp2_with fail
    obtain ⟨z0, z1, z2, hvF, hqF⟩ := Nq.store hR4 hv hG4 (Nat.le_add_right _ _);unfold put3 at z0 z1 z2 hvF hqF;refine rz3 z0 z1 z2 ?_;exact ⟨_, rfl, hvF, hqF⟩
  ·have h3 : z.tmod 2 = 1 := (by rw [hz.out, Int.tmod_eq_emod_of_nonneg (by omega)]; omega);have HP2 : Hid ((p ^ n).num = sg true (p.num.natAbs ^ n)) := (by have h := HP.out; rw [h2] at h; exact h);clear HP h2;have HP := HP2; clear HP2;go_enter Tryz.func70, Tryz.ntmps70
   go_wp2_with fail
   clear hW;obtain ⟨x0, x1, x2⟩ := hX0.cells
   go_region_held3 (fun W => W.cell? ⟨w.heap.size, 0, none⟩ = some (.bool true) ∧ W.cell? ⟨w.heap.size, 1, none⟩ = some (.slice A1 n1 c1) ∧ W.cell? ⟨w.heap.size, 2, none⟩ = some (.slice A2 n2 c2)) (first | with_reducible exact ⟨x0, x1, x2⟩ | (refine ⟨?_, ?_, ?_⟩ <;> with_reducible assumption) | exact ⟨(dU uB).trans (by assumption), (dU uB).trans (by assumption), (dU uB).trans (by assumption)⟩ | go_keep) (first
    | (go_at_call 77; (with_reducible refine (bU true _ _ (p.num.natAbs ^ n) (p.den ^ n) _ ((ht1.q hq2).q hq3) ht2).mono ?_); rintro e w4 ⟨v5, rfl, hv5, hq4⟩; have hG4 := hG3.trans hq4; have hX4 := hX3.q hq4; have hR4 := hR3.q hq4; obtain ⟨x0, x1, x2⟩ := hX4.cells; have fz := hR4.frozen; obtain ⟨r0, r1, r2⟩ := hR4.cells; obtain ⟨B1, d1, B2, d2, rfl, -, -⟩ := hv5.form; have hv := Nq.made (q := p ^ n) hv5 HP.out (fun _ => Rat.den_pow p n); generalize (decide (0 < p.num.natAbs ^ n) && true) = s4 at *; generalize dg W64 (if p.num.natAbs ^ n = 0 then 0 else bt (p.den ^ n)) = m2 at *; generalize dg W64 (p.num.natAbs ^ n) = m1 at *)
    | (go_at_call 121; (with_reducible refine (kZ _ p.den n _ _ hu1 hz.out b2 b3).mono ?_); rintro e w3 ⟨t2, rfl, ht2, hq3, -⟩; have hG3 := hG2.trans hq3; have hX3 := hX2.q hq3; have hR3 := hR2.q hq3; obtain ⟨x0, x1, x2⟩ := hX3.cells; obtain ⟨A7, n7, c7, rfl⟩ := ht2.form)
    | (go_at_call 112; (with_reducible refine (bH _ p _ (hx.q hG1)).mono ?_); rintro e w2 ⟨u1, rfl, hu1, hq2⟩; have hG2 := hG1.trans hq2; have hX2 := hX1.q hq2; have hR2 := hR1.q hq2; obtain ⟨x0, x1, x2⟩ := hX2.cells; obtain ⟨A6, n6, c6, rfl⟩ := hu1.form)
    | (go_at_call 121; (with_reducible refine (kZ _ p.num.natAbs n _ _ (hxt.q hG0.drew) hz.out b1 b3).mono ?_); rintro e w1 ⟨t1, rfl, ht1, hq1d, -⟩; have hq1 : Q w0 w1 := (Q.refl w0).drew.trans hq1d; have hG1 := hG0.trans hq1; have hX1 := hX0.q hq1; have hR1 := hR0.q hq1; obtain ⟨x0, x1, x2⟩ := hX1.cells; obtain ⟨A5, n5, c5, rfl⟩ := ht1.form))
   all_goals
    go_wp2_with fail
    obtain ⟨z0, z1, z2, hvF, hqF⟩ := Nq.store hR4 hv hG4 (Nat.le_add_right _ _);unfold put3 at z0 z1 z2 hvF hqF;refine rz3 z0 z1 z2 ?_;exact ⟨_, rfl, hvF, hqF⟩
 ·subst hs;have HP2 : Hid ((p ^ n).num = sg false (p.num.natAbs ^ n)) := HP;clear HP;have HP := HP2; clear HP2;go_enter Tryz.func70, Tryz.ntmps70
  go_wp2_with fail
  clear hW;obtain ⟨x0, x1, x2⟩ := hX0.cells;refine wp_region_held_drew (S := fun W => W.cell? ⟨w.heap.size, 0, none⟩ = some (.bool false) ∧ W.cell? ⟨w.heap.size, 1, none⟩ = some (.slice A1 n1 c1) ∧ W.cell? ⟨w.heap.size, 2, none⟩ = some (.slice A2 n2 c2)) (by kernel_rfl) (by exact ⟨x0, x1, x2⟩) (fun hHeld => ?_);refine wpAnyH_take (i := 0) (v := ?v0) rfl (by kernel_rfl) (by kernel_rfl) (by kernel_rfl) (fun _ _ _ h => h) (Or.inl ⟨by rfl, ?h0⟩) (by assumption) ?r0
  case h0 =>
   intro W hSw
   (try dsimp only at hSw)
   go_simp
   try (with_reducible rfl)
  try simp only [Act.put]
  try simp only [List.setIfInBounds_toArray]
  try simp only [List.set_cons_zero, List.set_cons_succ]
  refine wpAnyH_take (i := 1) (v := ?v1) rfl (by kernel_rfl) (by kernel_rfl) (by kernel_rfl) (fun _ _ _ h => h) (Or.inl ⟨by rfl, ?h1⟩) (by assumption) ?r1
  case h1 =>
   intro W hSw
   (try dsimp only at hSw)
   go_simp
   try (with_reducible rfl)
  try simp only [Act.put]
  try simp only [List.setIfInBounds_toArray]
  try simp only [List.set_cons_zero, List.set_cons_succ]
  refine wpAnyH_take (i := 2) (v := ?v2) rfl (by kernel_rfl) (by kernel_rfl) (by kernel_rfl) (fun _ _ _ h => h) (Or.inl ⟨by rfl, ?h2⟩) (by assumption) ?r2
  case h2 =>
   intro W hSw
   (try dsimp only at hSw)
   go_simp
   try (with_reducible rfl)
  try simp only [Act.put]
  try simp only [List.setIfInBounds_toArray]
  try simp only [List.set_cons_zero, List.set_cons_succ]
  refine wpAnyH_take (i := 3) (v := undef) rfl (by kernel_rfl) (by kernel_rfl) (by kernel_rfl) (fun _ _ _ h => h) (Or.inr ⟨by rfl, rfl⟩) (by assumption) ?_;try simp only [Act.put]
  try simp only [List.setIfInBounds_toArray]
  try simp only [List.set_cons_zero, List.set_cons_succ]
  refine wpAnyH_take (i := 4) (v := undef) rfl (by kernel_rfl) (by kernel_rfl) (by kernel_rfl) (fun _ _ _ h => h) (Or.inr ⟨by rfl, rfl⟩) (by assumption) ?_;try simp only [Act.put]
  try simp only [List.setIfInBounds_toArray]
  try simp only [List.set_cons_zero, List.set_cons_succ]
  refine wpAnyH_take (i := 5) (v := undef) rfl (by kernel_rfl) (by kernel_rfl) (by kernel_rfl) (fun _ _ _ h => h) (Or.inr ⟨by rfl, rfl⟩) (by assumption) ?_;try simp only [Act.put]
  try simp only [List.setIfInBounds_toArray]
  try simp only [List.set_cons_zero, List.set_cons_succ]
  refine wpAnyH_take (i := 6) (v := ?v6) rfl (by kernel_rfl) (by kernel_rfl) (by kernel_rfl) (fun _ _ _ h => h) (Or.inl ⟨by rfl, ?h6⟩) (by assumption) ?r6
  case h6 =>
   intro W hSw
   (try dsimp only at hSw)
   go_simp
   try (with_reducible rfl)
  try simp only [Act.put]
  try simp only [List.setIfInBounds_toArray]
  try simp only [List.set_cons_zero, List.set_cons_succ]
  refine wpAnyH_take (i := 7) (v := ?v7) rfl (by kernel_rfl) (by kernel_rfl) (by kernel_rfl) (fun _ _ _ h => h) (Or.inl ⟨by rfl, ?h7⟩) (by assumption) ?r7
  case h7 =>
   intro W hSw
   (try dsimp only at hSw)
   go_simp
   try (with_reducible rfl)
  try simp only [Act.put]
  try simp only [List.setIfInBounds_toArray]
  try simp only [List.set_cons_zero, List.set_cons_succ]
  refine wpAnyH_take (i := 8) (v := ?v8) rfl (by kernel_rfl) (by kernel_rfl) (by kernel_rfl) (fun _ _ _ h => h) (Or.inl ⟨by rfl, ?h8⟩) (by assumption) ?r8
  case h8 =>
   intro W hSw
   (try dsimp only at hSw)
   go_simp
   try (with_reducible rfl)
  try simp only [Act.put]
  try simp only [List.setIfInBounds_toArray]
  try simp only [List.set_cons_zero, List.set_cons_succ]
  refine wpAnyH_take (i := 9) (v := ?v9) rfl (by kernel_rfl) (by kernel_rfl) (by kernel_rfl) (fun _ _ _ h => h) (Or.inl ⟨by rfl, ?h9⟩) (by assumption) ?r9
  case h9 =>
   intro W hSw
   (try dsimp only at hSw)
   go_simp
   try (with_reducible rfl)
  try simp only [Act.put]
  try simp only [List.setIfInBounds_toArray]
  try simp only [List.set_cons_zero, List.set_cons_succ]
  refine wpAnyH_take (i := 11) (v := ?v11) rfl (by kernel_rfl) (by kernel_rfl) (by kernel_rfl) (fun _ _ _ h => h) (Or.inl ⟨by rfl, ?h11⟩) (by assumption) ?r11
  case h11 =>
   intro W hSw
   (try dsimp only at hSw)
   go_simp
   try (with_reducible rfl)
  try simp only [Act.put]
  try simp only [List.setIfInBounds_toArray]
  try simp only [List.set_cons_zero, List.set_cons_succ]
  refine wpAnyH_take (i := 13) (v := ?v13) rfl (by kernel_rfl) (by kernel_rfl) (by kernel_rfl) (fun _ _ _ h => h) (Or.inl ⟨by rfl, ?h13⟩) (by assumption) ?r13
  case h13 =>
   intro W hSw
   (try dsimp only at hSw)
   go_simp
   try (with_reducible rfl)
  try simp only [Act.put]
  try simp only [List.setIfInBounds_toArray]
  try simp only [List.set_cons_zero, List.set_cons_succ]
  refine wpAnyH_ready (rs := [10]) (by kernel_rfl) (by decide) (AllReadyH.cons rfl (fun K hK => ?_) AllReadyH.nil);go_simp
  (with_reducible refine (kZ _ p.num.natAbs n _ _ (hxt.q hG0.drew) hz.out b1 b3).mono ?_)
  rintro e w1 ⟨t1, rfl, ht1, hq1d, -⟩;have hq1 : Q w0 w1 := (Q.refl w0).drew.trans hq1d;have hG1 := hG0.trans hq1;have hX1 := hX0.q hq1;have hR1 := hR0.q hq1;obtain ⟨x0, x1, x2⟩ := hX1.cells;obtain ⟨A5, n5, c5, rfl⟩ := ht1.form;go_wp2_with fail
  refine hK.out _ _ (by exact ⟨by assumption, by assumption, by assumption⟩) (fun hHeld => ?_);clear hK K;try simp only [Act.put]
  try simp only [List.setIfInBounds_toArray]
  try simp only [List.set_cons_zero, List.set_cons_succ]
  refine wpAnyH_ready (rs := [12]) (by kernel_rfl) (by decide) (AllReadyH.cons rfl (fun K hK => ?_) AllReadyH.nil);go_simp
  (with_reducible refine (bH _ p _ (hx.q hG1)).mono ?_)
  rintro e w2 ⟨u1, rfl, hu1, hq2⟩;have hG2 := hG1.trans hq2;have hX2 := hX1.q hq2;have hR2 := hR1.q hq2;obtain ⟨x0, x1, x2⟩ := hX2.cells;obtain ⟨A6, n6, c6, rfl⟩ := hu1.form;go_wp2_with fail
  refine hK.out _ _ (by exact ⟨by assumption, by assumption, by assumption⟩) (fun hHeld => ?_);clear hK K;try simp only [Act.put]
  try simp only [List.setIfInBounds_toArray]
  try simp only [List.set_cons_zero, List.set_cons_succ]
  refine wpAnyH_ready (rs := [14]) (by kernel_rfl) (by decide) (AllReadyH.cons rfl (fun K hK => ?_) AllReadyH.nil);go_simp
  (with_reducible refine (kZ _ p.den n _ _ hu1 hz.out b2 b3).mono ?_)
  rintro e w3 ⟨t2, rfl, ht2, hq3, -⟩;have hG3 := hG2.trans hq3;have hX3 := hX2.q hq3;have hR3 := hR2.q hq3;obtain ⟨x0, x1, x2⟩ := hX3.cells;obtain ⟨A7, n7, c7, rfl⟩ := ht2.form;go_wp2_with fail
  refine hK.out _ _ (by exact ⟨by assumption, by assumption, by assumption⟩) (fun hHeld => ?_);clear hK K;try simp only [Act.put]
  try simp only [List.setIfInBounds_toArray]
  try simp only [List.set_cons_zero, List.set_cons_succ]
  refine wpAnyH_ready (rs := [15]) (by kernel_rfl) (by decide) (AllReadyH.cons rfl (fun K hK => ?_) AllReadyH.nil);go_simp
  (with_reducible refine (bU false _ _ (p.num.natAbs ^ n) (p.den ^ n) _ ((ht1.q hq2).q hq3) ht2).mono ?_)
  rintro e w4 ⟨v5, rfl, hv5, hq4⟩;have hG4 := hG3.trans hq4;have hX4 := hX3.q hq4;have hR4 := hR3.q hq4;obtain ⟨x0, x1, x2⟩ := hX4.cells;have fz := hR4.frozen;obtain ⟨r0, r1, r2⟩ := hR4.cells;obtain ⟨B1, d1, B2, d2, rfl, -, -⟩ := hv5.form;have hv := Nq.made (q := p ^ n) hv5 HP.out (fun _ => Rat.den_pow p n);generalize (decide (0 < p.num.natAbs ^ n) && false) = s4 at *
  generalize dg W64 (if p.num.natAbs ^ n = 0 then 0 else bt (p.den ^ n)) = m2 at *
  generalize dg W64 (p.num.natAbs ^ n) = m1 at *
  go_wp2_with fail
  refine hK.out _ _ (by exact ⟨by assumption, by assumption, by assumption⟩) (fun hHeld => ?_);clear hK K;try simp only [Act.put]
  try simp only [List.setIfInBounds_toArray]
  try simp only [List.set_cons_zero, List.set_cons_succ]
  refine wpAnyH_ready (rs := [16]) (by kernel_rfl) (by decide) (AllReadyH.cons rfl (fun K hK => ?_) AllReadyH.nil);go_simp
  refine hK.out _ _ (by exact ⟨(dU uB).trans (by with_reducible assumption), (dU uB).trans (by with_reducible assumption), (dU uB).trans (by with_reducible assumption)⟩) (fun hHeld => ?_);clear hK K;try simp only [Act.put]
  try simp only [List.setIfInBounds_toArray]
  try simp only [List.set_cons_zero, List.set_cons_succ]
  refine wpAnyH_done (by kernel_rfl) ?_ _;go_wp2_with fail
  obtain ⟨z0, z1, z2, hvF, hqF⟩ := Nq.store hR4 hv hG4 (Nat.le_add_right _ _);unfold put3 at z0 z1 z2 hvF hqF;refine rz3 z0 z1 z2 ?_;exact ⟨_, rfl, hvF, hqF⟩
theorem aHE (a b : Int) (w : World) (hT : Tb w) (a0 : -9223372036854775808 ≤ a) (a1 : a ≤ 9223372036854775807) (b0 : -9223372036854775808 ≤ b) (b1 : b ≤ 9223372036854775807) : Calls Tryz.prog 44 #[.int .i64 a, .int .i64 b] w fun e w' => ∃ r, e = .returned (.tuple #[r, .int .i64 (aR a b).1]) ∧ Nq w' r (aR a b).2 ∧ Q w w' := by
 obtain ⟨w0, hW, hG0, hR0⟩ : ∃ W, w.alloc (.cells #[.bool false, .slice none 0 0, .slice none 0 0] 28) = W ∧ Q w W ∧ Nb W w.heap.size false (.slice none 0 0) (.slice none 0 0) := ⟨_, rfl, (Q.refl _).alloc _, Nb.new w _ _ _⟩
 obtain ⟨er, her⟩ : ∃ er, (aR (a : Rat) (b : Rat)).1 = er := ⟨_, rfl⟩
 rw [her];have HER := yW her; clear her;have sa := rQ a (by rw [bK]; omega); have sb := rQ b (by rw [bK]; omega);go_enter Tryz.func44, Tryz.ntmps44
 go_wp2_with fail
 clear hW;refine (zG a _ a0 a1).mono ?_;rintro e w1 ⟨o1, rfl, ho1, hq1⟩;have hG1 := hG0.trans hq1;have hR1 := hR0.q hq1;obtain ⟨s1, A1, n1, c1, A2, n2, c2, rfl, -⟩ := ho1.form;go_wp2_with fail
 refine (zG b _ b0 b1).mono ?_;rintro e w2 ⟨o2, rfl, ho2, hq2⟩;have hG2 := hG1.trans hq2;have hR2 := hR1.q hq2;have fz := hR2.frozen;obtain ⟨r0, r1, r2⟩ := hR2.cells;obtain ⟨s2, A3, n3, c3, A4, n4, c4, rfl, -⟩ := ho2.form;go_wp2_with fail
 refine (aG2 _ _ a b _ (hT.q hG2) (ho1.q hq2) ho2 (by rw [aC]; omega)).mono ?_;rintro e w3 ⟨v1, rfl, hv, hq3⟩;have hG3 := hG2.trans hq3;have hR3 := hR2.q hq3;clear fz r0 r1 r2;have fz := hR3.frozen;obtain ⟨r0, r1, r2⟩ := hR3.cells;rw [HER.out];obtain ⟨s6, B1, m1, d1, B2, m2, d2, rfl, -⟩ := hv.form;go_wp2_with fail
 obtain ⟨z0, z1, z2, hvF, hqF⟩ := Nq.store hR3 hv hG3 (Nat.le_refl _);unfold put3 at z0 z1 z2 hvF hqF;refine rt3 (.int .i64 er) z0 z1 z2 ?_;exact ⟨_, rfl, hvF, hqF⟩
theorem aE9 {a : Value} {b c : Bool} (h : b = c) : Ending.returned (.tuple #[a, .bool b]) = .returned (.tuple #[a, .bool c]) := by rw [h]
theorem aCd {L R : Nat} (h : L = 0 ↔ R = 0) : ((L : Int) == 0) = decide (R = 0) := by
 by_cases hR : R = 0
 ·rw [decide_eq_true hR, h.2 hR]; rfl
 ·rw [decide_eq_false hR];exact beq_eq_false_iff_ne.2 (fun h1 => hR (h.1 (by omega)))
theorem aFa (x : Value) (p : Rat) (z : Int) (w : World) (hT : Tb w) (hx : Nq w x p) (h0 : p ≠ 0) (hB : 8 * (sz p + z.natAbs) + 200 ≤ LIM) : Calls Tryz.prog 154 #[x, .int .i64 z] w fun e w' => ∃ t, e = .returned (.tuple #[t, .bool (decide (fr z p.num.natAbs p.den = 0))]) ∧ Nm w' t (fl z p.num.natAbs p.den) ∧ Q w w' := by
 obtain ⟨s1, A1, n1, c1, A2, n2, c2, rfl, E1, Z1, O1, hxt, hxb⟩ := hx.form;obtain ⟨w0, hW, hG0, hX0⟩ := pR w s1 (.slice A1 n1 c1) (.slice A2 n2 c2);have hs := aN p;have hN0 := gV h0;have hD0 := p.den_pos;rw [aC] at hB;generalize hN : p.num.natAbs = N at *
 generalize hD : p.den = D at *
 have HD := yW hD; clear hD hN;by_cases hz0 : z ≤ 0
 ·obtain ⟨k, hk⟩ : ∃ k : Nat, (-z).toNat = k := ⟨_, rfl⟩
  have e1 : fl z N D = N * 2 ^ k / D := (by unfold fl; rw [hk, show z.toNat = 0 by omega, Nat.pow_zero, Nat.mul_one]);have e2 : fr z N D = N * 2 ^ k % D := (by unfold fr; rw [hk, show z.toNat = 0 by omega, Nat.pow_zero, Nat.mul_one]);rw [e1, e2];have hk2 : z.natAbs = k := (by omega);have hw : IntKind.i64.wrap (-z) = (k : Int) := (by rw [show -z = (k : Int) by omega]; exact IntWalk.i64_in _ (by omega));have b1 : dg W64 N + k / 64 + 1 ≤ LIM := (by rw [aC]; omega);have b2 : k ≤ 4611686018427387904 := (by omega);have b3 : 4 * (dg W64 (N * 2 ^ k) + dg W64 D) + 60 ≤ LIM := (by have h1 := cO aD N (2 ^ k); have h2 := nN (B := 2) (k := k) (by decide); rw [aC]; omega);clear e1 e2 hk hk2 hB hs h0;go_enter Tryz.func154, Tryz.ntmps154
  go_wp2_with fail
  clear hW;obtain ⟨x0, x1, x2⟩ := hX0.cells
  go_region_held3 (fun W => W.cell? ⟨w.heap.size, 0, none⟩ = some (.bool s1) ∧ W.cell? ⟨w.heap.size, 1, none⟩ = some (.slice A1 n1 c1) ∧ W.cell? ⟨w.heap.size, 2, none⟩ = some (.slice A2 n2 c2)) (first | exact ⟨x0, x1, x2⟩ | exact ⟨by assumption, by assumption, by assumption⟩ | go_keep) (first
   | (go_at_call 159; (with_reducible refine (pO (N * 2 ^ k) D _ _ _ (ht1.q hq2) hu1 hD0 b3).mono ?_); rintro e w3 ⟨t2, t3, rfl, ht2, ht3, hq3, -, -⟩; have hG3 := hG2.trans hq3; have hX3 := hX2.q hq3; obtain ⟨x0, x1, x2⟩ := hX3.cells; obtain ⟨A7, n7, c7, rfl⟩ := ht2.form; obtain ⟨A8, c8, rfl, -⟩ := ht3.parts; obtain ⟨L, hL⟩ : ∃ L, dg W64 (N * 2 ^ k % D) = L := ⟨_, rfl⟩; rw [hL]; have HL := yW hL; clear hL)
   | (go_at_call 112; (with_reducible refine (bH _ p _ (hx.q hG1)).mono ?_); rintro e w2 ⟨u1, rfl, hu1, hq2⟩; have hG2 := hG1.trans hq2; have hX2 := hX1.q hq2; obtain ⟨x0, x1, x2⟩ := hX2.cells; rw [HD.out] at hu1; obtain ⟨A6, n6, c6, rfl⟩ := hu1.form)
   | (go_at_call 133; (with_reducible refine (dY _ N k _ _ (hxt.q hG0.drew) rfl b1 b2).mono ?_); rintro e w1 ⟨t1, rfl, ht1, hq1d, -⟩; have hq1 : Q w0 w1 := (Q.refl w0).drew.trans hq1d; have hG1 := hG0.trans hq1; have hX1 := hX0.q hq1; obtain ⟨x0, x1, x2⟩ := hX1.cells; obtain ⟨A5, n5, c5, rfl⟩ := ht1.form))
  all_goals
   have hzz := qW (D := N * 2 ^ k % D);rw [HL.out] at hzz;have k0 : ((L : Int) == 0) = decide (N * 2 ^ k % D = 0) := aCd hzz;clear hzz hw hz0;go_wp2_with fail
   go_ret2
   exact ⟨_, rfl, ht2, hG3⟩
 ·obtain ⟨k, hk⟩ : ∃ k : Nat, z.toNat = k := ⟨_, rfl⟩
  have hzk : z = (k : Int) := (by omega);obtain ⟨e1, e2⟩ := aF0 (s := z) (N := N) (D := D) (by omega) hN0 hD0;rw [hk] at e1 e2;have hR : decide (fr z N D = 0) = (decide (N / 2 ^ k % D = 0) && decide (z ≤ (tz N : Int))) := (by rw [← Bool.decide_and]; exact decide_eq_decide.2 e2.symm);rw [hR, ← e1];have HZK := yW hzk;have b2 : k ≤ 4611686018427387904 := (by omega);have b1 : dg W64 N ≤ LIM := (by rw [aC]; omega);have b3 : 4 * (dg W64 (N / 2 ^ k) + dg W64 D) + 60 ≤ LIM := (by have h1 := bV aD (Nat.div_le_self N (2 ^ k)); rw [aC]; omega);clear e1 e2 hk hzk hR hB hs h0;go_enter Tryz.func154, Tryz.ntmps154
  go_wp2_with fail
  clear hW;obtain ⟨x0, x1, x2⟩ := hX0.cells
  go_region_held3 (fun W => W.cell? ⟨w.heap.size, 0, none⟩ = some (.bool s1) ∧ W.cell? ⟨w.heap.size, 1, none⟩ = some (.slice A1 n1 c1) ∧ W.cell? ⟨w.heap.size, 2, none⟩ = some (.slice A2 n2 c2)) (first | exact ⟨x0, x1, x2⟩ | exact ⟨by assumption, by assumption, by assumption⟩ | go_keep) (first
   | (go_at_call 159; (with_reducible refine (pO (N / 2 ^ k) D _ _ _ (ht1.q hq2) hu1 hD0 b3).mono ?_); rintro e w3 ⟨t2, t3, rfl, ht2, ht3, hq3, -, -⟩; have hG3 := hG2.trans hq3; have hX3 := hX2.q hq3; obtain ⟨x0, x1, x2⟩ := hX3.cells; obtain ⟨A7, n7, c7, rfl⟩ := ht2.form; obtain ⟨A8, c8, rfl, -⟩ := ht3.parts; obtain ⟨L, hL⟩ : ∃ L, dg W64 (N / 2 ^ k % D) = L := ⟨_, rfl⟩; rw [hL]; have HL := yW hL; clear hL)
   | (go_at_call 112; (with_reducible refine (bH _ p _ (hx.q hG1)).mono ?_); rintro e w2 ⟨u1, rfl, hu1, hq2⟩; have hG2 := hG1.trans hq2; have hX2 := hX1.q hq2; obtain ⟨x0, x1, x2⟩ := hX2.cells; rw [HD.out] at hu1; obtain ⟨A6, n6, c6, rfl⟩ := hu1.form)
   | (go_at_call 135; (with_reducible refine (dS _ N k _ _ (hxt.q hG0.drew) HZK.out b1 b2).mono ?_); rintro e w1 ⟨t1, rfl, ht1, hq1d, -⟩; have hq1 : Q w0 w1 := (Q.refl w0).drew.trans hq1d; have hG1 := hG0.trans hq1; have hX1 := hX0.q hq1; obtain ⟨x0, x1, x2⟩ := hX1.cells; obtain ⟨A5, n5, c5, rfl⟩ := ht1.form))
  all_goals
   have hzz := qW (D := N / 2 ^ k % D);rw [HL.out] at hzz;have HK0 := yW (aCd hzz);clear hzz;by_cases hr0 : N / 2 ^ k % D = 0
   ·have k0 : ((L : Int) == 0) = true := (by rw [HK0.out]; exact decide_eq_true hr0);have HR0 := yW hr0; clear hr0;obtain ⟨x0, x1, x2⟩ := hX3.cells;go_wp2_with fail
    refine (dD _ N _ (hT.q hG3) (hxt.q hG3) b1 hN0).mono ?_;rintro e w7 ⟨rfl, rfl⟩;go_wp2_with fail
    go_ret2
    exact ⟨_, aE9 (by rw [decide_eq_true HR0.out, Bool.true_and]), ht2, hG3⟩
   ·have k0 : ((L : Int) == 0) = false := (by rw [HK0.out]; exact decide_eq_false hr0);have HR0 := yW hr0; clear hr0;obtain ⟨x0, x1, x2⟩ := hX3.cells;go_wp2_with fail
    go_ret2
    exact ⟨_, aE9 (by rw [decide_eq_false HR0.out, Bool.false_and]), ht2, hG3⟩
theorem iP (s : Bool) (x : Value) (g : Nat) (z : Int) (w : World) (hT : Tb w) (hx : Nm w x g) (hg : 0 < g) (hB : 64 * dg W64 g + z.natAbs + 100 ≤ LIM) : Calls Tryz.prog 156 #[.bool s, x, .int .i64 z] w fun e w' => ∃ r, e = .returned r ∧ Nq w' r (sgQ s (((g : Nat) : Rat) * pw z)) ∧ Q w w' := by
 obtain ⟨w0, hW, hG0, hR0⟩ : ∃ W, w.alloc (.cells #[.bool false, .slice none 0 0, .slice none 0 0] 28) = W ∧ Q w W ∧ Nb W w.heap.size false (.slice none 0 0) (.slice none 0 0) := ⟨_, rfl, (Q.refl _).alloc _, Nb.new w _ _ _⟩
 obtain ⟨A1, n1, c1, rfl⟩ := hx.form;rw [aC] at hB;by_cases hz0 : 0 ≤ z
 ·obtain ⟨k, rfl⟩ := Int.eq_ofNat_of_zero_le hz0;have b1 : dg W64 g + k / 64 + 1 ≤ LIM := (by rw [aC]; omega);have b2 : k ≤ 4611686018427387904 := (by omega);obtain ⟨p1, p2⟩ := aEQ s g k;have HP1 := yW p1; have HP2 := yW p2; clear p1 p2 hB;go_enter Tryz.func156, Tryz.ntmps156
  go_wp2_with fail
  clear hW;refine (dY _ g k _ _ (hx.q hG0) rfl b1 b2).mono ?_;rintro e w1 ⟨t1, rfl, ht1, hq1, -⟩;have hG1 := hG0.trans hq1;have hR1 := hR0.q hq1;have fz := hR1.frozen;obtain ⟨r0, r1, r2⟩ := hR1.cells;obtain ⟨A5, n5, c5, rfl⟩ := ht1.form;go_wp2_with fail
  refine (gU s _ (g * 2 ^ k) _ ht1).mono ?_;rintro e w2 ⟨v5, rfl, hv5, hq2⟩;have hG2 := hG1.trans hq2;have hR2 := hR1.q hq2;clear fz r0 r1 r2;have fz := hR2.frozen;obtain ⟨r0, r1, r2⟩ := hR2.cells;obtain ⟨B1, d1, B2, d2, rfl, -, -⟩ := hv5.form;have hv := Nq.int (q := sgQ s (((g : Nat) : Rat) * pw (k : Int))) hv5 HP1.out HP2.out;generalize (decide (0 < g * 2 ^ k) && s) = s4 at *
  generalize dg W64 (g * 2 ^ k) = m1 at *
  generalize dg W64 0 = m2 at *
  go_wp2_with fail
  obtain ⟨z0, z1, z2, hvF, hqF⟩ := Nq.store hR2 hv hG2 (Nat.le_refl _);unfold put3 at z0 z1 z2 hvF hqF;refine rz3 z0 z1 z2 ?_;exact ⟨_, rfl, hvF, hqF⟩
 ·obtain ⟨k, hk⟩ : ∃ k : Nat, (-z).toNat = k := ⟨_, rfl⟩
  have hzk : z = -(k : Int) := (by omega);have hpw : pw z = pw (-(k : Int)) := (by rw [hzk]);rw [hpw];obtain ⟨p1, p2⟩ := aCD s k hg;have htb := iC hg; have hbd := jP g;obtain ⟨t, ht⟩ : ∃ t, tz g = t := ⟨_, rfl⟩
  rw [ht] at p1 p2 htb;obtain ⟨m, hm⟩ : ∃ m, min t k = m := ⟨_, rfl⟩
  rw [hm] at p1 p2;have hmk : m ≤ k := (by omega);have hmin : min (t : Int) (k : Int) = (m : Int) := (by omega);have hkm : (k : Int) - (m : Int) = ((k - m : Nat) : Int) := (by omega);have hnz : -z = (k : Int) := (by omega);have b1 : dg W64 g ≤ LIM := (by rw [aC]; omega);have b2 : m ≤ 4611686018427387904 := (by omega);have b3 : k - m ≤ 4611686018427387904 := (by omega);have b4 : dg W64 1 + (k - m) / 64 + 1 ≤ LIM := (by rw [dF aD, aC]; omega);have b5 : (k : Int) ≤ 1099511627776 := (by omega);have b7 : -1099511627776 ≤ z := (by omega);have b6 : (t : Int) ≤ 80000000000000 := (by omega);have HP1 := yW p1; have HP2 := yW p2; have HT := yW ht; have HZK := yW hzk; clear p1 p2 ht hB hk hm htb hbd hzk hpw;go_enter Tryz.func156, Tryz.ntmps156
  go_wp2_with fail
  clear hW;refine (dD _ g _ (hT.q hG0) (hx.q hG0) b1 hg).mono ?_;rintro e w7 ⟨rfl, rfl⟩;rw [HT.out];go_wp2_with fail
  refine (dS _ g m _ _ (hx.q hG0) rfl b1 b2).mono ?_;rintro e w1 ⟨t1, rfl, ht1, hq1, -⟩;have hG1 := hG0.trans hq1;have hR1 := hR0.q hq1;obtain ⟨A5, n5, c5, rfl⟩ := ht1.form;go_wp2_with fail
  refine (fH 1 1 _ rfl (by decide)).mono ?_;rintro e w2 ⟨t2, rfl, ht2, hq2, -⟩;have hG2 := hG1.trans hq2;have hR2 := hR1.q hq2;obtain ⟨A6, n6, c6, rfl⟩ := ht2.form;go_wp2_with fail
  refine (dY _ 1 (k - m) _ _ ht2 rfl b4 b3).mono ?_;rintro e w3 ⟨t3, rfl, ht3, hq3, -⟩;have hG3 := hG2.trans hq3;have hR3 := hR2.q hq3;have fz := hR3.frozen;obtain ⟨r0, r1, r2⟩ := hR3.cells;obtain ⟨A7, n7, c7, rfl⟩ := ht3.form;rw [Nat.one_mul] at ht3;go_wp2_with fail
  refine (bU s _ _ (g / 2 ^ m) (2 ^ (k - m)) _ ((ht1.q hq2).q hq3) ht3).mono ?_;rintro e w4 ⟨v5, rfl, hv5, hq4⟩;have hG4 := hG3.trans hq4;have hR4 := hR3.q hq4;clear fz r0 r1 r2;have fz := hR4.frozen;obtain ⟨r0, r1, r2⟩ := hR4.cells;obtain ⟨B1, d1, B2, d2, rfl, -, -⟩ := hv5.form;have hv := Nq.made (q := sgQ s (((g : Nat) : Rat) * pw (-(k : Int)))) hv5 HP1.out (fun _ => HP2.out);generalize (decide (0 < g / 2 ^ m) && s) = s4 at *
  generalize dg W64 (if g / 2 ^ m = 0 then 0 else bt (2 ^ (k - m))) = m2 at *
  generalize dg W64 (g / 2 ^ m) = m1 at *
  go_wp2_with fail
  obtain ⟨z0, z1, z2, hvF, hqF⟩ := Nq.store hR4 hv hG4 (Nat.le_refl _);unfold put3 at z0 z1 z2 hvF hqF;refine rz3 z0 z1 z2 ?_;exact ⟨_, rfl, hvF, hqF⟩
theorem aCP (z : Int) : min (max z 1) 2000 = (bG z : Int) := by
 unfold bG; split
 ·omega
 ·split <;> omega
theorem aFb {q : Nat} (h : 0 < q) : 0 < tz q ↔ q % 2 = 0 := by
 constructor
 ·intro h1;rcases Nat.mod_two_eq_zero_or_one q with h2 | h2
  ·exact h2
  ·rw [rD h2] at h1; omega
 ·intro h1;rw [mG h h1]; omega
theorem aAU (x : Value) (p : Rat) (z : Int) (away : Bool) (w : World) (hT : Tb w) (hx : Nq w x p) (hB : 2000 * sz p + 500000 ≤ LIM) : Calls Tryz.prog 111 #[x, .int .i64 z, .bool away] w fun e w' => ∃ r, e = .returned r ∧ Nq w' r (rnd (bG z) p away) ∧ Q w w' := by
 obtain ⟨s1, A1, n1, c1, A2, n2, c2, rfl, E1, Z1, O1, hxt, hxb⟩ := hx.form;obtain ⟨w0, hW, hG0, hX0, hR0⟩ := wK w s1 (.slice A1 n1 c1) (.slice A2 n2 c2);obtain ⟨b, hbz⟩ : ∃ b, bG z = b := ⟨_, rfl⟩
 obtain ⟨hb0, hb1⟩ := gD z;have hmx := aCP z;rw [hbz] at hb0 hb1 hmx;rw [hbz];clear hbz;by_cases h0 : p = 0
 ·have k0 : ((n1 : Int) == 0) = true := (by rw [Z1.out.2 h0]; rfl);rw [show rnd b p away = 0 from if_pos h0];have hv := dJ w0;clear hmx h0;obtain ⟨x0, x1, x2⟩ := hX0.cells;have fz := hR0.frozen;obtain ⟨r0, r1, r2⟩ := hR0.cells;go_enter Tryz.func111, Tryz.ntmps111
  go_wp2_with fail
  clear hW;obtain ⟨z0, z1, z2, hvF, hqF⟩ := Nq.store hR0 hv hG0 (Nat.le_add_right _ _);unfold put3 at z0 z1 z2 hvF hqF;refine rz3 z0 z1 z2 ?_;exact ⟨_, rfl, hvF, hqF⟩
 ·have k0 : ((n1 : Int) == 0) = false := beq_eq_false_iff_ne.2 (fun h => h0 (Z1.out.1 (by omega)));have hszp := aN p;have hbn := jP p.num.natAbs; have hbd := jP p.den;rw [aC] at hB;obtain ⟨sh, hsh⟩ : ∃ sh : Int, (bl p.num.natAbs : Int) - bl p.den - b = sh := ⟨_, rfl⟩
  have hP := aER (x := p) (b := b) away h0 hb0 rfl rfl hsh;rw [← E1.out] at hP;obtain ⟨hP1, hP2, hQ0, hQ1⟩ := hP;have hq8 : 8 * (sz p + sh.natAbs) + 200 ≤ LIM := (by rw [aC]; omega);have hshl : sh.natAbs ≤ 128 * sz p + 2000 := (by omega);have bN : dg W64 p.num.natAbs ≤ LIM := (by rw [aC]; omega);have bD : dg W64 p.den ≤ LIM := (by rw [aC]; omega);obtain ⟨La, hLa⟩ : ∃ La, bl p.num.natAbs = La := ⟨_, rfl⟩; obtain ⟨Lb, hLb⟩ : ∃ Lb, bl p.den = Lb := ⟨_, rfl⟩
  rw [hLa] at hsh hbn; rw [hLb] at hsh hbd;have t1 : IntKind.i64.wrap ((La : Int) - Lb) = (La : Int) - Lb := IntWalk.i64_in _ (by omega);have t2 : IntKind.i64.wrap ((La : Int) - Lb - b) = sh := (by rw [← hsh]; exact IntWalk.i64_in _ (by omega));have HLa := yW hLa; have HLb := yW hLb; clear hLa hLb;have hQd := aG0 (fl sh p.num.natAbs p.den);generalize hQ : fl sh p.num.natAbs p.den = q at *
  generalize hR : fr sh p.num.natAbs p.den = r at *
  have hQl : dg W64 q ≤ 2001 := (by omega);have bQ : dg W64 q ≤ LIM := (by rw [aC]; omega);have bQ1 : dg W64 q + 1 ≤ LIM := (by rw [aC]; omega);have b11 : dg W64 1 + 1 ≤ LIM := (by rw [dF aD, aC]; omega);have HP1 := yW hP1; have HP2 := yW hP2; have HQ := yW hQ; have HR := yW hR; have HB := yW hB;have shl1 : -1099511627776 ≤ sh := (by omega);have shl2 : sh ≤ 1099511627776 := (by omega);have hb2 : (b : Int) ≤ 2000 := (by omega);clear hP1 hP2 hQ hR hsh hQd hB hbn hbd hszp;go_enter Tryz.func111, Tryz.ntmps111
  obtain ⟨x0, x1, x2⟩ := hX0.cells;go_wp2_with fail
  clear hW k0 hmx;clear x0 x1 x2;obtain ⟨x0, x1, x2⟩ := hX0.cells
  go_region_held3 (fun W => W.cell? ⟨w.heap.size, 0, none⟩ = some (.bool s1) ∧ W.cell? ⟨w.heap.size, 1, none⟩ = some (.slice A1 n1 c1) ∧ W.cell? ⟨w.heap.size, 2, none⟩ = some (.slice A2 n2 c2)) (first | exact ⟨x0, x1, x2⟩ | exact ⟨by assumption, by assumption, by assumption⟩ | go_keep) (first
   | (go_at_call 138; (with_reducible refine (dI _ p.den _ hu1 bD).mono ?_); rintro e w92 ⟨rfl, rfl⟩; rw [HLb.out])
   | (go_at_call 112; (with_reducible refine (bH _ p _ (hx.q hG0.drew)).mono ?_); rintro e w1 ⟨u1, rfl, hu1, hq1d⟩; have hq1 : Q w0 w1 := (Q.refl w0).drew.trans hq1d; have hG1 := hG0.trans hq1; have hX1 := hX0.q hq1; have hR1 := hR0.q hq1; obtain ⟨x0, x1, x2⟩ := hX1.cells; obtain ⟨A5, n5, c5, rfl⟩ := hu1.form)
   | (go_at_call 138; (with_reducible refine (dI _ p.num.natAbs _ (hxt.q hG0.drew) bN).mono ?_); rintro e w90 ⟨rfl, rfl⟩; rw [HLa.out]))
  all_goals
   clear t1 t2;obtain ⟨x0, x1, x2⟩ := hX1.cells;go_wp2_with fail
   refine (aFa _ p sh _ (hT.q hG1) (hx.q hG1) h0 hq8).mono ?_;rintro e w2 ⟨t, rfl, ht, hq2⟩;have hG2 := hG1.trans hq2;have hX2 := hX1.q hq2;have hR2 := hR1.q hq2;clear x0 x1 x2;obtain ⟨x0, x1, x2⟩ := hX2.cells;rw [HQ.out] at ht;rw [HR.out];obtain ⟨A6, n6, c6, rfl⟩ := ht.form;go_wp2_with fail
   refine (dI _ q _ ht bQ).mono ?_;rintro e w7 ⟨rfl, rfl⟩;obtain ⟨Lq, hLq⟩ : ∃ Lq, bl q = Lq := ⟨_, rfl⟩
   rw [hLq] at HP1 HP2 hQ1 ⊢;clear hLq;by_cases hbq : b < Lq
   ·have hbq2 : (b : Int) < (Lq : Int) := (by omega);obtain ⟨hr1, hq20⟩ := HP1.out hbq;have HR1 := yW hr1; clear hr1 hbq;have htz := aFb hQ0;have htl := iC hQ0; have htd := jP q;obtain ⟨q2, hq2e⟩ : ∃ q2, q / 2 = q2 := ⟨_, rfl⟩
    have hq2l : dg W64 q2 ≤ 2001 := (by rw [← hq2e]; exact Nat.le_trans (bV aD (Nat.div_le_self _ _)) hQl);have hq2q : q / 2 ^ 1 = q2 := hq2e;rw [hq2e] at hq20 HR1;obtain ⟨tq, htq⟩ : ∃ tq, tz q = tq := ⟨_, rfl⟩
    rw [htq] at htz htl;have htq64 : (tq : Int) ≤ 1000000 := (by omega);have HTZ := yW htz; have HTQ := yW htq; have HQ2 := yW hq2q; clear htz htq hq2e hq2q htl htd;have bq21 : dg W64 q2 + 1 ≤ LIM := (by rw [aC]; omega);have hq2p := hq20;have bq20s : 64 * dg W64 q2 + (sh + 1).natAbs + 100 ≤ LIM := (by have := HB.out; rw [aC]; omega);have bq21s : 64 * dg W64 (q2 + 1) + (sh + 1).natAbs + 100 ≤ LIM := (by have := HB.out; have h1 := jS aD q2 1; rw [dF aD] at h1; rw [aC]; omega);clear hq20;by_cases hr0 : r = 0
    ·have kr : decide (r = 0) = true := decide_eq_true hr0;rw [kr];have HR0 := yW hr0; clear hr0 kr;go_wp2_with fail
     refine (dD _ q _ (hT.q hG2) ht bQ hQ0).mono ?_;rintro e w7 ⟨rfl, rfl⟩;rw [HTQ.out];by_cases htq0 : 0 < tq
     ·have HT0 := yW htq0;have htq1 : (0 : Int) < (tq : Int) := (by omega);have htq2 : decide (0 < tq) = true := decide_eq_true htq0;go_wp2_with fail
      refine (dS _ q 1 _ _ ht rfl bQ (by decide)).mono ?_;rintro e w3 ⟨t5, rfl, ht5, hq3, -⟩;have hG3 := hG2.trans hq3;have hX3 := hX2.q hq3;have hR3 := hR2.q hq3;clear x0 x1 x2;rw [HQ2.out] at ht5;obtain ⟨A7, n7, c7, rfl⟩ := ht5.form;cases away
      ·obtain ⟨x0, x1, x2⟩ := hX3.cells;go_wp2_with fail
       refine (iP s1 _ q2 (sh + 1) _ (hT.q hG3) ht5 hq2p bq20s).mono ?_;rintro e w4 ⟨v9, rfl, hv9, hq4⟩;have hG4 := hG3.trans hq4;have hX4 := hX3.q hq4;have hR4 := hR3.q hq4;clear x0 x1 x2;have fz := hR4.frozen;obtain ⟨r0, r1, r2⟩ := hR4.cells;obtain ⟨s6, B1, m1, d1, B2, m2, d2, rfl, -⟩ := hv9.form;have hv := hv9;rw [show sgQ s1 (((q2 : Nat) : Rat) * pw ((sh + 1))) = rnd b p false from Eq.symm (by rw [HR1.out, if_neg (by simp), Nat.add_zero])] at hv;clear hv9;go_wp2_with fail
       obtain ⟨z0, z1, z2, hvF, hqF⟩ := Nq.store hR4 hv hG4 (Nat.le_add_right _ _);unfold put3 at z0 z1 z2 hvF hqF;refine rz3 z0 z1 z2 ?_;exact ⟨_, rfl, hvF, hqF⟩
      ·obtain ⟨x0, x1, x2⟩ := hX3.cells;go_wp2_with fail
       refine (iP s1 _ q2 (sh + 1) _ (hT.q hG3) ht5 hq2p bq20s).mono ?_;rintro e w4 ⟨v9, rfl, hv9, hq4⟩;have hG4 := hG3.trans hq4;have hX4 := hX3.q hq4;have hR4 := hR3.q hq4;clear x0 x1 x2;have fz := hR4.frozen;obtain ⟨r0, r1, r2⟩ := hR4.cells;obtain ⟨s6, B1, m1, d1, B2, m2, d2, rfl, -⟩ := hv9.form;have hv := hv9;rw [show sgQ s1 (((q2 : Nat) : Rat) * pw ((sh + 1))) = rnd b p true from Eq.symm (by rw [HR1.out, if_neg (fun h => h.2 (⟨HR0.out, HTZ.out.1 HT0.out⟩)), Nat.add_zero])] at hv;clear hv9;go_wp2_with fail
       obtain ⟨z0, z1, z2, hvF, hqF⟩ := Nq.store hR4 hv hG4 (Nat.le_add_right _ _);unfold put3 at z0 z1 z2 hvF hqF;refine rz3 z0 z1 z2 ?_;exact ⟨_, rfl, hvF, hqF⟩
     ·have HT0 := yW htq0;have htq1 : ¬ (0 : Int) < (tq : Int) := (by omega);have htq2 : tq = 0 := (by omega);subst htq2;clear htq0;go_wp2_with fail
      refine (dS _ q 1 _ _ ht rfl bQ (by decide)).mono ?_;rintro e w3 ⟨t5, rfl, ht5, hq3, -⟩;have hG3 := hG2.trans hq3;have hX3 := hX2.q hq3;have hR3 := hR2.q hq3;clear x0 x1 x2;rw [HQ2.out] at ht5;obtain ⟨A7, n7, c7, rfl⟩ := ht5.form;cases away
      ·obtain ⟨x0, x1, x2⟩ := hX3.cells;go_wp2_with fail
       refine (iP s1 _ q2 (sh + 1) _ (hT.q hG3) ht5 hq2p bq20s).mono ?_;rintro e w4 ⟨v9, rfl, hv9, hq4⟩;have hG4 := hG3.trans hq4;have hX4 := hX3.q hq4;have hR4 := hR3.q hq4;clear x0 x1 x2;have fz := hR4.frozen;obtain ⟨r0, r1, r2⟩ := hR4.cells;obtain ⟨s6, B1, m1, d1, B2, m2, d2, rfl, -⟩ := hv9.form;have hv := hv9;rw [show sgQ s1 (((q2 : Nat) : Rat) * pw ((sh + 1))) = rnd b p false from Eq.symm (by rw [HR1.out, if_neg (by simp), Nat.add_zero])] at hv;clear hv9;go_wp2_with fail
       obtain ⟨z0, z1, z2, hvF, hqF⟩ := Nq.store hR4 hv hG4 (Nat.le_add_right _ _);unfold put3 at z0 z1 z2 hvF hqF;refine rz3 z0 z1 z2 ?_;exact ⟨_, rfl, hvF, hqF⟩
      ·go_wp2_with fail
       refine (fH 1 1 _ rfl (by decide)).mono ?_;rintro e w4 ⟨t8, rfl, ht8, hq4, -⟩;have hG4 := hG3.trans hq4;have hX4 := hX3.q hq4;have hR4 := hR3.q hq4;obtain ⟨A8, n8, c8, rfl⟩ := ht8.form;go_wp2_with fail
       refine (rW _ _ q2 1 _ (ht5.q hq4) ht8 bq21 b11).mono ?_;rintro e w5 ⟨t9, rfl, ht9, hq5, -⟩;have hG5 := hG4.trans hq5;have hX5 := hX4.q hq5;have hR5 := hR4.q hq5;obtain ⟨x0, x1, x2⟩ := hX5.cells;obtain ⟨A9, n9, c9, rfl⟩ := ht9.form;go_wp2_with fail
       refine (iP s1 _ (q2 + 1) (sh + 1) _ (hT.q hG5) ht9 (Nat.succ_pos _) bq21s).mono ?_;rintro e w6 ⟨v9, rfl, hv9, hq6⟩;have hG6 := hG5.trans hq6;have hX6 := hX5.q hq6;have hR6 := hR5.q hq6;clear x0 x1 x2;have fz := hR6.frozen;obtain ⟨r0, r1, r2⟩ := hR6.cells;obtain ⟨s6, B1, m1, d1, B2, m2, d2, rfl, -⟩ := hv9.form;have hv := hv9;rw [show sgQ s1 ((((q2 + 1) : Nat) : Rat) * pw ((sh + 1))) = rnd b p true from Eq.symm (by rw [HR1.out, if_pos ⟨by simp, fun h => HT0.out (HTZ.out.2 h.2)⟩])] at hv;clear hv9;go_wp2_with fail
       obtain ⟨z0, z1, z2, hvF, hqF⟩ := Nq.store hR6 hv hG6 (Nat.le_add_right _ _);unfold put3 at z0 z1 z2 hvF hqF;refine rz3 z0 z1 z2 ?_;exact ⟨_, rfl, hvF, hqF⟩
    ·have kr : decide (r = 0) = false := decide_eq_false hr0;rw [kr];have HR0 := yW hr0; clear hr0 kr;go_wp2_with fail
     refine (dS _ q 1 _ _ ht rfl bQ (by decide)).mono ?_;rintro e w3 ⟨t5, rfl, ht5, hq3, -⟩;have hG3 := hG2.trans hq3;have hX3 := hX2.q hq3;have hR3 := hR2.q hq3;clear x0 x1 x2;rw [HQ2.out] at ht5;obtain ⟨A7, n7, c7, rfl⟩ := ht5.form;cases away
     ·obtain ⟨x0, x1, x2⟩ := hX3.cells;go_wp2_with fail
      refine (iP s1 _ q2 (sh + 1) _ (hT.q hG3) ht5 hq2p bq20s).mono ?_;rintro e w4 ⟨v9, rfl, hv9, hq4⟩;have hG4 := hG3.trans hq4;have hX4 := hX3.q hq4;have hR4 := hR3.q hq4;clear x0 x1 x2;have fz := hR4.frozen;obtain ⟨r0, r1, r2⟩ := hR4.cells;obtain ⟨s6, B1, m1, d1, B2, m2, d2, rfl, -⟩ := hv9.form;have hv := hv9;rw [show sgQ s1 (((q2 : Nat) : Rat) * pw ((sh + 1))) = rnd b p false from Eq.symm (by rw [HR1.out, if_neg (by simp), Nat.add_zero])] at hv;clear hv9;go_wp2_with fail
      obtain ⟨z0, z1, z2, hvF, hqF⟩ := Nq.store hR4 hv hG4 (Nat.le_add_right _ _);unfold put3 at z0 z1 z2 hvF hqF;refine rz3 z0 z1 z2 ?_;exact ⟨_, rfl, hvF, hqF⟩
     ·go_wp2_with fail
      refine (fH 1 1 _ rfl (by decide)).mono ?_;rintro e w4 ⟨t8, rfl, ht8, hq4, -⟩;have hG4 := hG3.trans hq4;have hX4 := hX3.q hq4;have hR4 := hR3.q hq4;obtain ⟨A8, n8, c8, rfl⟩ := ht8.form;go_wp2_with fail
      refine (rW _ _ q2 1 _ (ht5.q hq4) ht8 bq21 b11).mono ?_;rintro e w5 ⟨t9, rfl, ht9, hq5, -⟩;have hG5 := hG4.trans hq5;have hX5 := hX4.q hq5;have hR5 := hR4.q hq5;obtain ⟨x0, x1, x2⟩ := hX5.cells;obtain ⟨A9, n9, c9, rfl⟩ := ht9.form;go_wp2_with fail
      refine (iP s1 _ (q2 + 1) (sh + 1) _ (hT.q hG5) ht9 (Nat.succ_pos _) bq21s).mono ?_;rintro e w6 ⟨v9, rfl, hv9, hq6⟩;have hG6 := hG5.trans hq6;have hX6 := hX5.q hq6;have hR6 := hR5.q hq6;clear x0 x1 x2;have fz := hR6.frozen;obtain ⟨r0, r1, r2⟩ := hR6.cells;obtain ⟨s6, B1, m1, d1, B2, m2, d2, rfl, -⟩ := hv9.form;have hv := hv9;rw [show sgQ s1 ((((q2 + 1) : Nat) : Rat) * pw ((sh + 1))) = rnd b p true from Eq.symm (by rw [HR1.out, if_pos ⟨by simp, fun h => HR0.out h.1⟩])] at hv;clear hv9;go_wp2_with fail
      obtain ⟨z0, z1, z2, hvF, hqF⟩ := Nq.store hR6 hv hG6 (Nat.le_add_right _ _);unfold put3 at z0 z1 z2 hvF hqF;refine rz3 z0 z1 z2 ?_;exact ⟨_, rfl, hvF, hqF⟩
   ·have hbq2 : ¬ (b : Int) < (Lq : Int) := (by omega);have hr1 := HP2.out hbq;have HR1 := yW hr1; clear hr1 hbq;have bq1 : dg W64 q + 1 ≤ LIM := bQ1;have hqp := hQ0;have bq0s : 64 * dg W64 q + sh.natAbs + 100 ≤ LIM := (by have := HB.out; rw [aC]; omega);have bq1s : 64 * dg W64 (q + 1) + sh.natAbs + 100 ≤ LIM := (by have := HB.out; have h1 := jS aD q 1; rw [dF aD] at h1; rw [aC]; omega);by_cases hr0 : r = 0
    ·have kr : decide (r = 0) = true := decide_eq_true hr0;rw [kr];have HR0 := yW hr0; clear hr0 kr;cases away
     ·clear x0 x1 x2;obtain ⟨x0, x1, x2⟩ := hX2.cells;go_wp2_with fail
      refine (iP s1 _ q sh _ (hT.q hG2) ht hqp bq0s).mono ?_;rintro e w3 ⟨v9, rfl, hv9, hq3⟩;have hG3 := hG2.trans hq3;have hX3 := hX2.q hq3;have hR3 := hR2.q hq3;clear x0 x1 x2;have fz := hR3.frozen;obtain ⟨r0, r1, r2⟩ := hR3.cells;obtain ⟨s6, B1, m1, d1, B2, m2, d2, rfl, -⟩ := hv9.form;have hv := hv9;rw [show sgQ s1 (((q : Nat) : Rat) * pw (sh)) = rnd b p false from Eq.symm (by rw [HR1.out, if_neg (by simp), Nat.add_zero])] at hv;clear hv9;go_wp2_with fail
      obtain ⟨z0, z1, z2, hvF, hqF⟩ := Nq.store hR3 hv hG3 (Nat.le_add_right _ _);unfold put3 at z0 z1 z2 hvF hqF;refine rz3 z0 z1 z2 ?_;exact ⟨_, rfl, hvF, hqF⟩
     ·clear x0 x1 x2;obtain ⟨x0, x1, x2⟩ := hX2.cells;go_wp2_with fail
      refine (iP s1 _ q sh _ (hT.q hG2) ht hqp bq0s).mono ?_;rintro e w3 ⟨v9, rfl, hv9, hq3⟩;have hG3 := hG2.trans hq3;have hX3 := hX2.q hq3;have hR3 := hR2.q hq3;clear x0 x1 x2;have fz := hR3.frozen;obtain ⟨r0, r1, r2⟩ := hR3.cells;obtain ⟨s6, B1, m1, d1, B2, m2, d2, rfl, -⟩ := hv9.form;have hv := hv9;rw [show sgQ s1 (((q : Nat) : Rat) * pw (sh)) = rnd b p true from Eq.symm (by rw [HR1.out, if_neg (fun h => h.2 HR0.out), Nat.add_zero])] at hv;clear hv9;go_wp2_with fail
      obtain ⟨z0, z1, z2, hvF, hqF⟩ := Nq.store hR3 hv hG3 (Nat.le_add_right _ _);unfold put3 at z0 z1 z2 hvF hqF;refine rz3 z0 z1 z2 ?_;exact ⟨_, rfl, hvF, hqF⟩
    ·have kr : decide (r = 0) = false := decide_eq_false hr0;rw [kr];have HR0 := yW hr0; clear hr0 kr;cases away
     ·clear x0 x1 x2;obtain ⟨x0, x1, x2⟩ := hX2.cells;go_wp2_with fail
      refine (iP s1 _ q sh _ (hT.q hG2) ht hqp bq0s).mono ?_;rintro e w3 ⟨v9, rfl, hv9, hq3⟩;have hG3 := hG2.trans hq3;have hX3 := hX2.q hq3;have hR3 := hR2.q hq3;clear x0 x1 x2;have fz := hR3.frozen;obtain ⟨r0, r1, r2⟩ := hR3.cells;obtain ⟨s6, B1, m1, d1, B2, m2, d2, rfl, -⟩ := hv9.form;have hv := hv9;rw [show sgQ s1 (((q : Nat) : Rat) * pw (sh)) = rnd b p false from Eq.symm (by rw [HR1.out, if_neg (by simp), Nat.add_zero])] at hv;clear hv9;go_wp2_with fail
      obtain ⟨z0, z1, z2, hvF, hqF⟩ := Nq.store hR3 hv hG3 (Nat.le_add_right _ _);unfold put3 at z0 z1 z2 hvF hqF;refine rz3 z0 z1 z2 ?_;exact ⟨_, rfl, hvF, hqF⟩
     ·clear x0 x1 x2;go_wp2_with fail
      refine (fH 1 1 _ rfl (by decide)).mono ?_;rintro e w3 ⟨t8, rfl, ht8, hq3, -⟩;have hG3 := hG2.trans hq3;have hX3 := hX2.q hq3;have hR3 := hR2.q hq3;obtain ⟨A8, n8, c8, rfl⟩ := ht8.form;go_wp2_with fail
      refine (rW _ _ q 1 _ (ht.q hq3) ht8 bq1 b11).mono ?_;rintro e w4 ⟨t9, rfl, ht9, hq4, -⟩;have hG4 := hG3.trans hq4;have hX4 := hX3.q hq4;have hR4 := hR3.q hq4;obtain ⟨x0, x1, x2⟩ := hX4.cells;obtain ⟨A9, n9, c9, rfl⟩ := ht9.form;go_wp2_with fail
      refine (iP s1 _ (q + 1) sh _ (hT.q hG4) ht9 (Nat.succ_pos _) bq1s).mono ?_;rintro e w5 ⟨v9, rfl, hv9, hq5⟩;have hG5 := hG4.trans hq5;have hX5 := hX4.q hq5;have hR5 := hR4.q hq5;clear x0 x1 x2;have fz := hR5.frozen;obtain ⟨r0, r1, r2⟩ := hR5.cells;obtain ⟨s6, B1, m1, d1, B2, m2, d2, rfl, -⟩ := hv9.form;have hv := hv9;rw [show sgQ s1 ((((q + 1) : Nat) : Rat) * pw (sh)) = rnd b p true from Eq.symm (by rw [HR1.out, if_pos ⟨by simp, HR0.out⟩])] at hv;clear hv9;go_wp2_with fail
      obtain ⟨z0, z1, z2, hvF, hqF⟩ := Nq.store hR5 hv hG5 (Nat.le_add_right _ _);unfold put3 at z0 z1 z2 hvF hqF;refine rz3 z0 z1 z2 ?_;exact ⟨_, rfl, hvF, hqF⟩
theorem aFc (x : Value) (p : Rat) (z : Int) (w : World) (hT : Tb w) (hx : Nq w x p) (hB : 2000 * sz p + 500000 ≤ LIM) : Calls Tryz.prog 50 #[x, .int .i64 z] w fun e w' => ∃ r, e = .returned r ∧ Nq w' r (dn (bG z) p) ∧ Q w w' := by
 obtain ⟨s1, A1, n1, c1, A2, n2, c2, rfl, E1, Z1, O1, hxt, hxb⟩ := hx.form;obtain ⟨w0, hW, hG0, hX0, hR0⟩ := wK w s1 (.slice A1 n1 c1) (.slice A2 n2 c2);have he0 : s1 = decide (p < 0) := E1.out.trans (decide_eq_decide.2 (bZ p));have HE := yW he0; clear he0;have HB := yW hB; clear hB;obtain ⟨x0, x1, x2⟩ := hX0.cells;go_enter Tryz.func50, Tryz.ntmps50
 go_wp2_with fail
 clear hW;refine (aAU _ p z s1 _ (hT.q hG0) (hx.q hG0) HB.out).mono ?_;rintro e w1 ⟨r, rfl, hv, hq1⟩;have hG1 := hG0.trans hq1;have hX1 := hX0.q hq1;have hR1 := hR0.q hq1;clear x0 x1 x2;have fz := hR1.frozen;obtain ⟨r0, r1, r2⟩ := hR1.cells;rw [HE.out, aEP] at hv;obtain ⟨s6, B1, m1, d1, B2, m2, d2, rfl, -⟩ := hv.form;go_wp2_with fail
 obtain ⟨z0, z1, z2, hvF, hqF⟩ := Nq.store hR1 hv hG1 (Nat.le_add_right _ _);unfold put3 at z0 z1 z2 hvF hqF;refine rz3 z0 z1 z2 ?_;exact ⟨_, rfl, hvF, hqF⟩
theorem aJw (x : Value) (p : Rat) (z : Int) (w : World) (hT : Tb w) (hx : Nq w x p) (hB : 2000 * sz p + 500000 ≤ LIM) : Calls Tryz.prog 72 #[x, .int .i64 z] w fun e w' => ∃ r, e = .returned r ∧ Nq w' r (up (bG z) p) ∧ Q w w' := by
 obtain ⟨s1, A1, n1, c1, A2, n2, c2, rfl, E1, Z1, O1, hxt, hxb⟩ := hx.form;obtain ⟨w0, hW, hG0, hX0, hR0⟩ := wK w s1 (.slice A1 n1 c1) (.slice A2 n2 c2);have he0 : s1 = decide (p < 0) := E1.out.trans (decide_eq_decide.2 (bZ p));have HE := yW he0; clear he0;have HB := yW hB; clear hB;obtain ⟨x0, x1, x2⟩ := hX0.cells;go_enter Tryz.func72, Tryz.ntmps72
 go_wp2_with fail
 clear hW;refine (aAU _ p z (!s1) _ (hT.q hG0) (hx.q hG0) HB.out).mono ?_;rintro e w1 ⟨r, rfl, hv, hq1⟩;have hG1 := hG0.trans hq1;have hX1 := hX0.q hq1;have hR1 := hR0.q hq1;clear x0 x1 x2;have fz := hR1.frozen;obtain ⟨r0, r1, r2⟩ := hR1.cells;rw [HE.out, aIo] at hv;obtain ⟨s6, B1, m1, d1, B2, m2, d2, rfl, -⟩ := hv.form;go_wp2_with fail
 obtain ⟨z0, z1, z2, hvF, hqF⟩ := Nq.store hR1 hv hG1 (Nat.le_add_right _ _);unfold put3 at z0 z1 z2 hvF hqF;refine rz3 z0 z1 z2 ?_;exact ⟨_, rfl, hvF, hqF⟩
theorem lZ (A : Option Addr) (c B n : Nat) (ds : List Nat) (w : World) (hn : ds.length = n) (hc : n ≤ c) (hm : n ≤ 9223372036854775807) (hx : Rd .i64 w B A ds) :
  Calls Tryz.prog 144 #[.slice A n c] w fun e w' => ∃ k, k ≤ ds.length ∧ e = .returned (.slice A k c) ∧ Nz (ds.take k) ∧ (∀ b, vl b (ds.take k) = vl b ds) ∧ w = w' := by
 subst hn;go_enter Tryz.func144, Tryz.ntmps144
 go_wp2
 go_loop [3] (fun i => ∃ k : Nat, k ≤ ds.length ∧ i = .int .i64 (k : Int) ∧ ∀ b, vl b (ds.take k) = vl b ds) (fun i => (intOf i).toNat)
 case atStart => exact ⟨ds.length, by omega, rfl, fun b => by simp⟩
 case round =>
  obtain ⟨k, hk, rfl, hv⟩ := hrel;have HV := yW hv; clear hv;by_cases hlt : 0 < k
  ·obtain ⟨j, rfl⟩ : ∃ j, k = j + 1 := ⟨k - 1, by omega⟩
   obtain ⟨ad, rfl, hb, hcell⟩ := hx.at_ (k := j) (by omega);by_cases h0 : ds[j] = 0
   ·have h0' : ((ds[j] : Int) == 0) = true := (by simp [h0]);have H : ∀ b, vl b (ds.take j) = vl b ds := fun b => (by rw [← HV.out b, fP b (by omega), h0]; simp);have H := yW H; clear h0 HV;go_wp2
    exact ⟨⟨j, by omega, rfl, H.out⟩, by simp [intOf]⟩
   ·have h0' : ((ds[j] : Int) == 0) = false := (by simp; omega);have H : Nz (ds.take (j + 1)) := zX (by omega) h0;clear h0;go_wp2
    go_ret
    exact ⟨j + 1, by omega, rfl, H, HV.out, rfl⟩
  ·obtain rfl : k = 0 := (by omega);go_wp2
   go_ret
   exact ⟨0, by omega, rfl, aBm, HV.out, rfl⟩
theorem aD1 (A B : Option Addr) (n c d : Nat) (xs ys : List Nat) (w : World) (lx : Hid (xs.length = n)) (ly : Hid (ys.length = n)) (hn : n ≤ 9223372036854775807) (rx : Rd .i64 w w.heap.size A xs) (ry : Rd .i64 w w.heap.size B ys) (wx : Wf B30 xs) (wy : Wf B30 ys) :
  Calls Tryz.prog 99 #[.slice A n c, .slice B n d] w fun e w' => e = .returned (.int .i64 (cmp (vl B30 xs) (vl B30 ys))) ∧ Q w w' := by
 go_enter Tryz.func99, Tryz.ntmps99
 go_wp2
 go_loopw [5] (fun i w1 => ∃ k : Nat, k ≤ n ∧ i = .int .i64 ((k : Int) - 1) ∧ xs.drop k = ys.drop k ∧ ∃ m, w1 = w.drewN m) (fun i _ => (intOf i + 1).toNat)
 case atStart => exact ⟨n, by omega, rfl, by rw [List.drop_of_length_le (by rw [lx.out]; omega), List.drop_of_length_le (by rw [ly.out]; omega)], 0, rfl⟩
 case round =>
  obtain ⟨k, hk, rfl, hdrop, m, rfl⟩ := hrel;have HD := yW hdrop; clear hdrop;by_cases hlt : 0 < k
  ·obtain ⟨j, rfl⟩ : ∃ j, k = j + 1 := ⟨k - 1, by omega⟩
   have jx : j < xs.length := (by rw [lx.out]; omega);have jy : j < ys.length := (by rw [ly.out]; omega);obtain ⟨ad, rfl, hb, hcx⟩ := rx.at_ jx;obtain ⟨ae, rfl, hb', hcy⟩ := ry.at_ jy;rw [show ((j + 1 : Nat) : Int) - 1 = (j : Int) from by omega];have HX := yW (List.getElem?_eq_getElem jx);have HY := yW (List.getElem?_eq_getElem jy);generalize xs[j] = x at *
   generalize ys[j] = y at *
   clear jx jy hb hb';rcases Nat.lt_trichotomy x y with h | h | h
   ·go_wp2
    go_quiet (fail)
    go_wp2
    go_ret
    exact ⟨by rw [gM (nK wx.1 HD.out HX.out HY.out h)]; rfl, (by repeat (first | exact Q.refl _ | refine Q.drewN ?_ _))⟩
   ·subst h;go_wp2
    go_quiet (fail)
    go_wp2
    go_quiet (fail)
    go_wp2
    refine ⟨⟨j, by omega, rfl, ?_, _, rfl⟩, by simp [intOf]⟩;obtain ⟨jx, ex⟩ := List.getElem?_eq_some_iff.1 HX.out;obtain ⟨jy, ey⟩ := List.getElem?_eq_some_iff.1 HY.out;rw [List.drop_eq_getElem_cons jx, List.drop_eq_getElem_cons jy, ex, ey, HD.out]
   ·go_wp2
    go_quiet (fail)
    go_wp2
    go_quiet (fail)
    go_wp2
    go_ret
    exact ⟨by rw [iI (nK wy.1 HD.out.symm HY.out HX.out h)]; rfl, (by repeat (first | exact Q.refl _ | refine Q.drewN ?_ _))⟩
  ·obtain rfl : k = 0 := (by omega);rw [show ((0 : Nat) : Int) - 1 = -1 from by omega];go_wp2
   go_ret
   have e : xs = ys := (by simpa using HD.out);exact ⟨by rw [e, cmp_eq]; rfl, (by repeat (first | exact Q.refl _ | refine Q.drewN ?_ _))⟩
theorem fD (x y : Value) (M N : Nat) (w : World) (hx : Nr w x M) (hy : Nr w y N) (hM : dg B30 M ≤ LIM) (hN : dg B30 N ≤ LIM) :
  Calls Tryz.prog 99 #[x, y] w fun e w' => e = .returned (.int .i64 (cmp M N)) ∧ Q w w' := by
 obtain ⟨A, c, xs, rfl, hc, rx, wx, rfl⟩ := hx;obtain ⟨B, d, ys, rfl, hd, ry, wy, rfl⟩ := hy;rw [← wx.len aJ, aC] at hM;rw [← wy.len aJ, aC] at hN;rcases Nat.lt_trichotomy xs.length ys.length with hlt | heq | hgt
 ·have h := Wf.len_lt (b := B30) (by decide) wx.1 wy.2 hlt;rw [gM h];clear h;go_enter Tryz.func99, Tryz.ntmps99
  go_wp2
  go_ret
  exact ⟨rfl, Q.refl _⟩
 ·obtain ⟨n, hn⟩ : ∃ n, xs.length = n := ⟨_, rfl⟩
  have hn2 : ys.length = n := (by omega);rw [hn, hn2];exact aD1 A B n c d xs ys w hn hn2 (by omega) rx ry wx wy
 ·have h := Wf.len_lt (b := B30) (by decide) wy.1 wx.2 hgt;rw [iI h];clear h;go_enter Tryz.func99, Tryz.ntmps99
  go_wp2
  go_ret
  exact ⟨rfl, Q.refl _⟩
theorem uC : (Tryz.prog.info? 2).map (fun i => (i.zero, i.size, i.bytes)) = some (some (.int .i64 0), 1, 8) := by kernel_rfl
theorem sD (n : Nat) (e : Int) (he : e = (n : Int)) (hn : n ≤ LIM) (w : World) :
  (Instr.makeSlice 31 (.int .i64 e) (.int .i64 e)).run Tryz.prog w = .ok (.slice (some ⟨w.heap.size, 0, none⟩) n n) (w.alloc (.cells (zs .i64 n) 2)) := by
 rw [aC] at hn;subst he;rw [← vT];exact run_make_row' _ _ _ 8 Tryz.underlying31 uC rfl _ _ n (by omega) (by omega) w
theorem aHF (n c : Nat) (a b : Int) (ha : a = (n : Int)) (hb : b = (c : Int)) (hnc : n ≤ c) (hc : c ≤ LIM) (w : World) :
  (Instr.makeSlice 31 (.int .i64 a) (.int .i64 b)).run Tryz.prog w = .ok (.slice (some ⟨w.heap.size, 0, none⟩) n c) (w.alloc (.cells (zs .i64 c) 2)) := by
 rw [aC] at hc;subst ha hb;obtain ⟨i, hi, h1, h2, h3⟩ := info_parts uC;have h := run_make (P := Tryz.prog) w 31 2 i (.int .i64 0) Tryz.underlying31 hi h1 .i64 .i64 (n : Int) (c : Int) (by omega) (by omega) (by rw [h3]; omega) (by omega);rw [h2] at h;simp only [Int.toNat_natCast, Nat.mul_one] at h;rw [h, ← vT];rfl
theorem pV (x y : Value) (M N : Nat) (w : World) (hx : Nr w x M) (hy : Nr w y N) (hM : dg B30 M + 1 ≤ LIM) (hN : dg B30 N + 1 ≤ LIM) :
  Calls Tryz.prog 113 #[x, y] w (nD (M + N) w) := by
 have hlen : dg B30 N ≤ dg B30 M ∨ dg B30 M < dg B30 N := by omega
 rcases hlen with hlen | hlen
 case' inl =>
  obtain ⟨A, c, xs, rfl, hc, rx, wx, rfl⟩ := hx;obtain ⟨B, d, ys, rfl, hd, ry, wy, rfl⟩ := hy;rw [← wx.len aJ, ← wy.len aJ] at hlen;rw [← wx.len aJ] at hM;rw [← wy.len aJ] at hN
 case' inr =>
  obtain ⟨B, d, ys, rfl, hd, ry, wy, rfl⟩ := hx;obtain ⟨A, c, xs, rfl, hc, rx, wx, rfl⟩ := hy;rw [← wx.len aJ, ← wy.len aJ] at hlen;rw [← wy.len aJ] at hM;rw [← wx.len aJ] at hN;rw [Nat.add_comm (vl B30 ys)]
 all_goals
  have hmk := sD (xs.length + 1) ((xs.length : Int) + 1) rfl (by omega);rw [aC] at hM hN;go_enter Tryz.func113, Tryz.ntmps113
  go_wp2
  go_loopw [6, 7] (fun cv iv w1 => ∃ (k cy : Nat) (out : List Nat), k ≤ xs.length ∧ iv = .int .i64 (k : Int) ∧ cv = .int .i64 (cy : Int) ∧ cy ≤ 1 ∧
      out.length = xs.length + 1 ∧ (∀ d ∈ out, d < B30) ∧ vl B30 (out.take k) + B30 ^ k * cy = vl B30 (xs.take k) + vl B30 (ys.take k) ∧
      Blk .i64 w1 w.heap.size 2 out ∧ Q w w1) (fun _ iv _ => xs.length - (intOf iv).toNat)
  case atStart => exact ⟨0, 0, List.replicate (xs.length + 1) 0, by omega, rfl, rfl, by omega, by simp, eD (by decide), by simp [vl], Blk.made _ _ _, (Q.refl _).alloc _⟩
  case round =>
   obtain ⟨k, cy, out, hk, rfl, rfl, hcy, hl, ho, hv, hb, hq⟩ := hrel;have HV := yW hv; clear hv;have HL := yW hl; clear hl;by_cases hlt : k < xs.length
   ·obtain ⟨ad, rfl, hbk, hcx⟩ := (rx.below hq).at_ hlt;have hcell := hb.cell (i := k) (by rw [HL.out]; omega);have hfz := hb.frozen k;have bx : xs[k] < 1073741824 := wx.1 _ (List.getElem_mem _);have HX := yW (List.getElem?_eq_getElem hlt);generalize xs[k] = x at *
    by_cases hlt2 : k < ys.length
    ·obtain ⟨ae, rfl, hbk', hcy'⟩ := (ry.below hq).at_ hlt2;have by_ : ys[k] < 1073741824 := wy.1 _ (List.getElem_mem _);have HY := yW (List.getElem?_eq_getElem hlt2);generalize ys[k] = y at *
     go_wp2
     refine ⟨⟨k + 1, (cy + x + y) / B30, out.set k ((cy + x + y) % B30), by omega, by go_num, congrArg (Value.int _) (by rw [aO]; omega), by rw [aO]; omega,
      by rw [List.length_set, HL.out], dX ho (Nat.mod_lt _ (by decide)), ?_, hb.put k _ (by rw [aO]; omega), hq.setCell (Nat.le_refl _) _⟩, by simp [intOf]; omega⟩
     rw [dG _ (by rw [HL.out]; omega), bS _ HX.out, bS _ HY.out];exact yD HV.out rfl (Nat.mod_add_div _ _).symm
    ·go_wp2
     refine ⟨⟨k + 1, (cy + x) / B30, out.set k ((cy + x) % B30), by omega, by go_num, congrArg (Value.int _) (by rw [aO]; omega), by rw [aO]; omega,
      by rw [List.length_set, HL.out], dX ho (Nat.mod_lt _ (by decide)), ?_, hb.put k _ (by rw [aO]; omega), hq.setCell (Nat.le_refl _) _⟩, by simp [intOf]; omega⟩
     rw [dG _ (by rw [HL.out]; omega), bS _ HX.out, nA _ (by omega)];exact yD HV.out (by omega) (Nat.mod_add_div _ _).symm
   ·obtain rfl : k = xs.length := (by omega);have hcell := hb.cell (i := xs.length) (by rw [HL.out]; omega);have hfz := hb.frozen xs.length;go_wp2_with fail
    have hb2 := hb.put xs.length cy (e := (cy : Int)) rfl;refine (lZ _ _ (w.heap.size + 1) _ _ _ (by rw [List.length_set, HL.out]) (Nat.le_refl _) (by omega) (hb2.rd (Nat.lt_succ_self _))).mono ?_;rintro e w2 ⟨k, hk2, rfl, hnz, hv, rfl⟩;go_wp2
    go_ret
    have ho2 := dX (k := xs.length) ho (show cy < B30 by rw [aO]; omega);refine ⟨_, rfl, Nn.of_blk hb2 hk2 (by rw [List.length_set, HL.out] at hk2; exact hk2) hnz ho2 ?_, hq.setCell (Nat.le_refl _) _, Nw.at_ (Nat.le_refl _)⟩
    rw [hv, ← List.take_of_length_le (l := out.set xs.length cy) (i := xs.length + 1) (by rw [List.length_set, HL.out]; omega), dG _ (by rw [HL.out]; omega), HV.out,
     List.take_length, List.take_of_length_le (by omega)]
theorem kL (x y : Value) (M N : Nat) (w : World) (hx : Nr w x M) (hy : Nr w y N) (hle : N ≤ M) (hM : dg B30 M + 1 ≤ LIM) :
  Calls Tryz.prog 119 #[x, y] w (nD (M - N) w) := by
 obtain ⟨A, c, xs, rfl, hc, rx, wx, rfl⟩ := hx;obtain ⟨B, d, ys, rfl, hd, ry, wy, rfl⟩ := hy;have hlen := Wf.len_le (by decide) wx wy hle;rw [← wx.len aJ] at hM;have hmk := sD xs.length (xs.length : Int) rfl (by omega);rw [aC] at hM;go_enter Tryz.func119, Tryz.ntmps119
 go_wp2
 go_loopw [6, 7, 8] (fun lv iv _ w1 => ∃ (k l : Nat) (out : List Nat), k ≤ xs.length ∧ iv = .int .i64 (k : Int) ∧ lv = .int .i64 (l : Int) ∧ l ≤ 1 ∧
     out.length = xs.length ∧ (∀ d ∈ out, d < B30) ∧ vl B30 (xs.take k) + B30 ^ k * l = vl B30 (out.take k) + vl B30 (ys.take k) ∧
     Blk .i64 w1 w.heap.size 2 out ∧ Q w w1) (fun _ iv _ _ => xs.length - (intOf iv).toNat)
 case atStart => exact ⟨0, 0, List.replicate xs.length 0, by omega, rfl, rfl, by omega, by simp, eD (by decide), by simp [vl], Blk.made _ _ _, (Q.refl _).alloc _⟩
 case round =>
  obtain ⟨k, l, out, hk, rfl, rfl, hl1, hl, ho, hv, hb, hq⟩ := hrel;have HV := yW hv; clear hv;have HL := yW hl; clear hl;by_cases hlt : k < xs.length
  ·obtain ⟨ad, rfl, hbk, hcx⟩ := (rx.below hq).at_ hlt;have hcell := hb.cell (i := k) (by rw [HL.out]; omega);have hfz := hb.frozen k;have bx : xs[k] < 1073741824 := wx.1 _ (List.getElem_mem _);have HX := yW (List.getElem?_eq_getElem hlt);generalize xs[k] = x at *
   by_cases hlt2 : k < ys.length
   ·obtain ⟨ae, rfl, hbk', hcy'⟩ := (ry.below hq).at_ hlt2;have by_ : ys[k] < 1073741824 := wy.1 _ (List.getElem_mem _);have HY := yW (List.getElem?_eq_getElem hlt2);generalize ys[k] = y at *
    by_cases hn : x < l + y
    ·go_wp2
     refine ⟨⟨k + 1, 1, out.set k (x + B30 - l - y), by omega, by go_num, rfl, by omega,
      by rw [List.length_set, HL.out], dX ho (by rw [aO]; omega), ?_, hb.put k _ (by rw [aO]; omega), hq.setCell (Nat.le_refl _) _⟩, by simp [intOf]; omega⟩
     rw [dG _ (by rw [HL.out]; omega), bS _ HX.out, bS _ HY.out];exact nC HV.out (by rw [aO]; omega)
    ·go_wp2
     refine ⟨⟨k + 1, 0, out.set k (x - l - y), by omega, by go_num, rfl, by omega,
      by rw [List.length_set, HL.out], dX ho (by rw [aO]; omega), ?_, hb.put k _ (by omega), hq.setCell (Nat.le_refl _) _⟩, by simp [intOf]; omega⟩
     rw [dG _ (by rw [HL.out]; omega), bS _ HX.out, bS _ HY.out];exact nC HV.out (by omega)
   ·by_cases hn : x < l
    ·go_wp2
     refine ⟨⟨k + 1, 1, out.set k (x + B30 - l), by omega, by go_num, rfl, by omega,
      by rw [List.length_set, HL.out], dX ho (by rw [aO]; omega), ?_, hb.put k _ (by rw [aO]; omega), hq.setCell (Nat.le_refl _) _⟩, by simp [intOf]; omega⟩
     rw [dG _ (by rw [HL.out]; omega), bS _ HX.out, nA _ (by omega)];exact nC HV.out (by rw [aO]; omega)
    ·go_wp2
     refine ⟨⟨k + 1, 0, out.set k (x - l), by omega, by go_num, rfl, by omega,
      by rw [List.length_set, HL.out], dX ho (by rw [aO]; omega), ?_, hb.put k _ (by omega), hq.setCell (Nat.le_refl _) _⟩, by simp [intOf]; omega⟩
     rw [dG _ (by rw [HL.out]; omega), bS _ HX.out, nA _ (by omega)];exact nC HV.out (by omega)
  ·obtain rfl : k = xs.length := (by omega);go_wp2_with fail
   refine (lZ _ _ (w.heap.size + 1) _ _ _ HL.out (Nat.le_refl _) (by omega) (hb.rd (Nat.lt_succ_self _))).mono ?_;rintro e w2 ⟨k, hk2, rfl, hnz, hv, rfl⟩;go_wp2
   go_ret
   refine ⟨_, rfl, Nn.of_blk hb hk2 (by rw [HL.out] at hk2; exact hk2) hnz ho ?_, hq, Nw.at_ (Nat.le_refl _)⟩;rw [hv];refine yE ho HL.out hle (l := l) ?_;have h := HV.out;rw [List.take_length, List.take_of_length_le hlen, List.take_of_length_le (by rw [HL.out]; omega)] at h;exact h
theorem iH (x y : Value) (M N : Nat) (w : World) (hx : Nr w x M) (hy : Nr w y N) (hM : dg B30 M + dg B30 N + 2 ≤ LIM) :
  Calls Tryz.prog 100 #[x, y] w (nD (M * N) w) := by
 obtain ⟨A, c, xs, rfl, hc, rx, wx, rfl⟩ := hx;obtain ⟨B, d, ys, rfl, hd, ry, wy, rfl⟩ := hy;rw [← wx.len aJ, ← wy.len aJ] at hM;have hmk := sD (xs.length + ys.length) ((xs.length : Int) + ys.length) rfl (by omega);rw [aC] at hM;go_enter Tryz.func100, Tryz.ntmps100
 go_wp2
 go_loopw [6, 7, 8] (fun iv _ _ w1 => ∃ (i : Nat) (out : List Nat), i ≤ xs.length ∧ iv = .int .i64 (i : Int) ∧
     out.length = xs.length + ys.length ∧ (∀ d ∈ out, d < B30) ∧ vl B30 (out.take (i + ys.length)) = vl B30 (xs.take i) * vl B30 ys ∧
     out.drop (i + ys.length) = List.replicate (xs.length - i) 0 ∧
     Blk .i64 w1 w.heap.size 2 out ∧ Q w w1) (fun iv _ _ _ => xs.length - (intOf iv).toNat)
 case atStart => exact ⟨0, List.replicate (xs.length + ys.length) 0, by omega, rfl, by simp, eD (by decide), by rw [List.take_replicate, jR]; simp [vl], by simp, Blk.made _ _ _, (Q.refl _).alloc _⟩
 case round =>
  obtain ⟨i, out0, hi, rfl, hl, ho, hv, hdr, hb, hq⟩ := hrel;have HV := yW hv; clear hv;have HL0 := yW hl; clear hl;have HD := yW hdr; clear hdr;by_cases hlt : i < xs.length
  ·obtain ⟨ad, rfl, hbk, hcx0⟩ := rx.at_ hlt;have bx : xs[i] < 1073741824 := wx.1 _ (List.getElem_mem _);have HX := yW (List.getElem?_eq_getElem hlt);generalize xs[i] = x at *
   go_wp2
   obtain ⟨wo, rfl⟩ : ∃ wo : World, wo = wr := ⟨_, rfl⟩
   go_loopw [7, 8] (fun cv kv w1 => ∃ (k cy : Nat) (out : List Nat), k ≤ ys.length ∧ kv = .int .i64 (k : Int) ∧ cv = .int .i64 (cy : Int) ∧ cy < 1073741824 ∧
    out.length = xs.length + ys.length ∧ (∀ d ∈ out, d < B30) ∧ vl B30 (out.take (i + k)) + B30 ^ (i + k) * cy = vl B30 (out0.take (i + k)) + B30 ^ i * (x * vl B30 (ys.take k)) ∧
    out.drop (i + k) = out0.drop (i + k) ∧
    Blk .i64 w1 w.heap.size 2 out ∧ Q w w1) (fun _ kv _ => ys.length - (intOf kv).toNat)
   case atStart => exact ⟨0, 0, out0, by omega, rfl, rfl, by omega, HL0.out, ho, by simp [vl], rfl, hb, hq⟩
   case round =>
    clear hb hq ho;obtain ⟨k, cy, out, hk, rfl, rfl, hcy, hl, ho, hv, hdr, hb, hq⟩ := hrel;have HV2 := yW hv; clear hv;have HL := yW hl; clear hl;have HD2 := yW hdr; clear hdr;by_cases hlt2 : k < ys.length
    ·obtain ⟨ae, rfl, hbk', hcy'⟩ := (ry.below hq).at_ hlt2;have hcx := (hq.cell (p := ad.add i) (by rw [fQ]; exact hbk)).trans hcx0;have by_ : ys[k] < 1073741824 := wy.1 _ (List.getElem_mem _);have HY := yW (List.getElem?_eq_getElem hlt2);generalize ys[k] = y at *
     have hik : i + k < out.length := (by rw [HL.out]; omega);have hcell := hb.cell hik;have hfz := hb.frozen (i + k);have bo : out[i + k] < 1073741824 := ho _ (List.getElem_mem _);have HO := yW (List.getElem?_eq_getElem hik);generalize out[i + k] = o at *
     clear hik;have hp : (x : Int) * y ≤ 1152921502459363329 := by
      have := Nat.mul_le_mul (show x ≤ 1073741823 by omega) (show y ≤ 1073741823 by omega);have e : ((x * y : Nat) : Int) = (x : Int) * y := Int.natCast_mul _ _;omega
     have hp0 : 0 ≤ (x : Int) * y := Int.mul_nonneg (by omega) (by omega);have HP := yW (show ((x * y : Nat) : Int) = (x : Int) * y from Int.natCast_mul _ _);clear hcx0;go_wp2
     go_quiet (fail)
     go_wp2
     have hP := HP.out
     refine ⟨⟨k + 1, (cy + x * y + o) / B30, out.set (i + k) ((cy + x * y + o) % B30), by omega, by go_num, congrArg (Value.int _) (by rw [aO]; omega), by rw [aO]; omega,
      by rw [List.length_set, HL.out], dX ho (Nat.mod_lt _ (by decide)), ?_, ?_, hb.put (i + k) _ (by rw [aO]; omega), (hq.drewN _).setCell (Nat.le_refl _) _⟩, by simp [intOf]; omega⟩
     ·have ho0 : out0[i + k]? = some o := (by rw [← aCy HD2.out]; exact HO.out);rw [← Nat.add_assoc, dG _ (by rw [HL.out]; omega), bS _ HY.out, bS _ ho0, Nat.add_assoc i k 1];exact aFJ HV2.out rfl (Nat.mod_add_div _ _).symm
     ·rw [← Nat.add_assoc, drop_set (by omega)];exact aBn HD2.out
    ·obtain rfl : k = ys.length := (by omega);have hik : i + ys.length < out.length := (by rw [HL.out]; omega);have hcell := hb.cell hik;have hfz := hb.frozen (i + ys.length);generalize out[i + ys.length] = o at *
     clear hik hcx0;go_wp2
     refine ⟨⟨i + 1, out.set (i + ys.length) cy, by omega, by go_num, by rw [List.length_set, HL.out], dX ho (by rw [aO]; omega), ?_, ?_, hb.put _ _ rfl, hq.setCell (Nat.le_refl _) _⟩, by simp [intOf]; omega⟩
     ·rw [show i + 1 + ys.length = i + ys.length + 1 from by omega, dG _ (by rw [HL.out]; omega), HV2.out, HV.out, bS _ HX.out, List.take_length, Nat.add_mul, Nat.mul_assoc]
     ·rw [show i + 1 + ys.length = i + ys.length + 1 from by omega, drop_set (by omega), ← List.drop_drop, HD2.out, HD.out, List.drop_replicate];rfl
  ·obtain rfl : i = xs.length := (by omega);go_wp2_with fail
   refine (lZ _ _ (w.heap.size + 1) _ _ _ HL0.out (Nat.le_refl _) (by omega) (hb.rd (Nat.lt_succ_self _))).mono ?_;rintro e w2 ⟨k, hk2, rfl, hnz, hv, rfl⟩;go_wp2
   go_ret
   refine ⟨_, rfl, Nn.of_blk hb hk2 (by rw [HL0.out] at hk2; exact hk2) hnz ho ?_, hq, Nw.at_ (Nat.le_refl _)⟩;rw [hv];have h := HV.out;rw [List.take_length, List.take_of_length_le (by rw [HL0.out]; omega)] at h;exact h
theorem oG (w : World) : Calls Tryz.prog 96 #[] w (nD 1 w) := by
 go_enter Tryz.func96, Tryz.ntmps96
 go_wp2
 go_ret
 exact ⟨_, rfl, Nn.of_blk (ds := [1]) (k := 1) (heap_alloc_new w _) (by simp) (by omega) (by simp [Nz]) (by simp [B30]) (by simp [vl]), (Q.refl _).alloc _, Nw.at_ (Nat.le_refl _)⟩
theorem wL (x : Int) (N : Nat) (w : World) (hx : x = (N : Int)) (h : N < 1152921504606846976) : Calls Tryz.prog 140 #[.int .i64 x] w (nD N w) := by
 subst hx;go_enter Tryz.func140, Tryz.ntmps140
 go_wp2_with fail
 have hb : Blk .i64 (w.alloc (Obj.cells #[Value.int IntKind.i64 ((N : Int) % 1073741824), Value.int IntKind.i64 ((N : Int) / 1073741824)] 2)) w.heap.size 2 [N % B30, N / B30] :=
  (heap_alloc_new w _).trans (by rw [aO]; simp [nums])
 refine (lZ _ _ (w.heap.size + 1) _ _ _ (by rfl) (Nat.le_refl _) (by omega) (hb.rd (Nat.lt_succ_self _))).mono ?_;rintro e w2 ⟨k, hk2, rfl, hnz, hv, rfl⟩;go_wp2
 go_ret
 refine ⟨_, rfl, Nn.of_blk hb hk2 hk2 hnz ?_ ?_, (Q.refl _).alloc _, Nw.at_ (Nat.le_refl _)⟩
 ·intro d hd; rw [aO] at *; simp at hd; omega
 ·rw [hv]; simp only [dL, aBl]; rw [aO]; omega
theorem kU (x : Value) (N k : Nat) (z : Int) (w : World) (hx : Nr w x N) (hz : z = (k : Int)) (hN : dg B30 N + k + 2 ≤ LIM) : Calls Tryz.prog 126 #[x, .int .i64 z] w (nD (N * 2 ^ k) w) := by
 subst hz;obtain ⟨A, c, xs, rfl, hc, rx, wx, rfl⟩ := hx;rw [← wx.len aJ] at hN;have hmk := aHF (k / 30) (xs.length + k / 30 + 1) ((k : Int) / 30) ((xs.length : Int) + (k : Int) / 30 + 1) (by omega) (by omega) (by omega) (by omega);rw [aC] at hN;obtain ⟨i0, hi, hz0, hz1, hz2⟩ := info_parts uC;have hf := aBO (k % 30) (by omega);have hf1 : 2 ^ (k % 30) ≤ 536870912 := by
  have h1 : 2 ^ (k % 30) ≤ 2 ^ 29 := Nat.pow_le_pow_right (by decide) (by omega);exact h1
 have hf0 : 0 < 2 ^ (k % 30) := Nat.pow_pos (by decide);have HF := yW (rfl : 2 ^ (k % 30) = 2 ^ (k % 30));have HE := yW hf; clear hf;go_enter Tryz.func126, Tryz.ntmps126
 go_wp2_with fail
 rw [HE.out];clear HE;have hq30 : 2 ^ k = B30 ^ (k / 30) * 2 ^ (k % 30) := by
  rw [show B30 = 2 ^ 30 from rfl, ← Nat.pow_mul, ← Nat.pow_add, Nat.div_add_mod]
 have HQ := yW hq30; clear hq30;generalize 2 ^ (k % 30) = f at *
 clear HF;obtain ⟨q, hq⟩ : ∃ q, q = k / 30 := ⟨_, rfl⟩
 rw [← hq] at HQ ⊢;have HK := yW hq;have hqk : q ≤ k := by omega
 clear hmk hq
 go_loopw [5, 7, 8] (fun ov cv iv w1 => ∃ (i cy : Nat) (out : List Nat), i ≤ xs.length ∧ iv = .int .i64 (i : Int) ∧ cv = .int .i64 (cy : Int) ∧ cy < f ∧
     ov = .slice (some ⟨w.heap.size, 0, none⟩) (q + i) (xs.length + q + 1) ∧
     out.length = xs.length + q + 1 ∧ (∀ d ∈ out, d < B30) ∧ vl B30 (out.take (q + i)) + B30 ^ (q + i) * cy = B30 ^ q * (vl B30 (xs.take i) * f) ∧
     Blk .i64 w1 w.heap.size 2 out ∧ Q w w1) (fun _ _ iv _ => xs.length - (intOf iv).toNat)
 case atStart => exact ⟨0, 0, List.replicate (xs.length + q + 1) 0, by omega, rfl, rfl, hf0, rfl, by simp, eD (by decide), by rw [List.take_replicate, jR]; simp [vl], Blk.made _ _ _, (Q.refl _).alloc _⟩
 case round =>
  obtain ⟨i, cy, out, hi1, rfl, rfl, hcy, rfl, hl, ho, hv, hb, hq⟩ := hrel;have HV := yW hv; clear hv;have HL := yW hl; clear hl;by_cases hlt : i < xs.length
  ·obtain ⟨ad, rfl, hbk, hcx⟩ := (rx.below hq).at_ hlt;have bx : xs[i] < 1073741824 := wx.1 _ (List.getElem_mem _);have HX := yW (List.getElem?_eq_getElem hlt);generalize xs[i] = x at *
   have hp : (x : Int) * f ≤ 1073741823 * f := by
    have := Nat.mul_le_mul_right f (show x ≤ 1073741823 by omega);have e : ((x * f : Nat) : Int) = (x : Int) * f := Int.natCast_mul _ _;omega
   have hp0 : 0 ≤ (x : Int) * f := Int.mul_nonneg (by omega) (by omega);have HP := yW (show ((x * f : Nat) : Int) = (x : Int) * f from Int.natCast_mul _ _);go_wp2_with (at_builtin; go_must (refine xH rfl _ _ _ rfl 2 i0 Tryz.underlying31 hi hz1 w.heap.size (q + i) (xs.length + q + 1) out rfl _ _ rfl (hb.alloc _) HL.out (by omega) _ ((cy + x * f) % B30) (by have := HP.out; rw [aO]; omega) (dZ _ _ _) ?_); intro w2 hb2 hg2)
   have hP := HP.out;have hd : (cy + x * f) / B30 < f := by
    rw [Nat.div_lt_iff_lt_mul (by decide), aO]; omega
   refine ⟨⟨i + 1, (cy + x * f) / B30, out.set (q + i) ((cy + x * f) % B30), by omega, by go_num, congrArg (Value.int _) (by rw [aO]; omega), hd, rfl,
    by rw [List.length_set, HL.out], dX ho (Nat.mod_lt _ (by decide)), ?_, hb2, Q.grown (hq.alloc _) hg2 (by intro k e; injection e with e; omega)⟩, by simp [intOf]; omega⟩
   rw [← Nat.add_assoc, dG _ (by rw [HL.out]; omega), bS _ HX.out, Nat.add_assoc q i 1];exact aDu HV.out rfl (Nat.mod_add_div _ _).symm
  ·obtain rfl : i = xs.length := (by omega);go_wp2_with (at_builtin; go_must (refine xH rfl _ _ _ rfl 2 i0 Tryz.underlying31 hi hz1 w.heap.size (q + xs.length) (xs.length + q + 1) out rfl _ _ rfl (hb.alloc _) HL.out (by omega) _ cy rfl (dZ _ _ _) ?_); intro w2 hb2 hg2)
   have ho2 := dX (k := q + xs.length) ho (show cy < B30 by rw [aO]; omega);refine (lZ _ _ (w.heap.size + 1) _ (out.set (q + xs.length) cy) _ (by rw [List.length_set, HL.out]; omega) (by omega) (by omega) (hb2.rd (Nat.lt_succ_self _))).mono ?_;rintro e w3 ⟨k2, hk2, rfl, hnz, hv, rfl⟩;go_wp2
   go_ret
   refine ⟨_, rfl, Nn.of_blk hb2 hk2 (by rw [List.length_set, HL.out] at hk2; exact hk2) hnz ho2 ?_, Q.grown (hq.alloc _) hg2 (by intro k e; injection e with e; omega), Nw.at_ (Nat.le_refl _)⟩
   rw [hv, ← List.take_of_length_le (l := out.set (q + xs.length) cy) (i := q + xs.length + 1) (by rw [List.length_set, HL.out]; omega), dG _ (by rw [HL.out]; omega), HV.out,
       List.take_length, HQ.out]
   grind
end Go.Proofs.YtajbfablmpmgbaaGreatDoor
