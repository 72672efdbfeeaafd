/- The examples of the document about polynomials. No condition. Part of the proof: texts Ve1 Nb1 Ve3 Ve4 Ve7 Vf1 Vf2 Vf3. -/
import Derived.BigQuiet
import Derived.Lib.IndexBytes
import Derived.Lib.IndexLaws
import Derived.WalkSpells
import Derived.Test.YtcplpghmbahjdaaGreatDoorQk02
import Derived.Test.YtcplpghmbahjdaaGreatDoorQk04
import Derived.Test.YtcplpghmbahjdaaGreatDoorQk07
import Derived.Test.YtcplpghmbahjdaaGreatDoorQk12
set_option maxHeartbeats 6000000
namespace Go.Proofs.YtcplpghmbahjdaaGreatDoor
open Go.RowKit
open Ma Me
theorem xJ {n : Nat} : n ≠ n + 1 + 1 := by omega
theorem xK {n : Nat} : n + 1 ≠ n + 1 + 1 := by omega
theorem pR {n : Nat} : n ≠ n + 1 := by omega
theorem bS {w : World} {g b o : Nat} {s t u : Value} (h : b ≠ g) : (((w.setCell ⟨g, 0, none⟩ s).setCell ⟨g, 1, none⟩ t).setCell ⟨g, 2, none⟩ u).cell? ⟨b, o, none⟩ = w.cell? ⟨b, o, none⟩ := by
 rw [World.cell?_setCell_other _ _ _ _ (by intro e; cases e; exact h rfl), World.cell?_setCell_other _ _ _ _ (by intro e; cases e; exact h rfl), World.cell?_setCell_other _ _ _ _ (by intro e; cases e; exact h rfl)]
theorem aEe (p : Rat) : sz (nL p) = sz p := by
 unfold nL; split
 ·exact qV p
 ·rfl
theorem yL (q : Rat) : (nL q).num = q.num.natAbs ∧ (nL q).den = q.den := by
 unfold nL;by_cases h : q < 0
 ·have h1 := (dK q).2 h;rw [if_pos h, Rat.neg_num, Rat.neg_den];exact ⟨by omega, rfl⟩
 ·have h1 : ¬ q.num < 0 := fun h2 => h ((dK q).1 h2);rw [if_neg h];exact ⟨by omega, rfl⟩
theorem aEf (v : Value) (q : Rat) (w : World) (hv : Nq w v q) : Calls Tryz.prog 133 #[v] w fun e w' => ∃ r, e = .returned r ∧ Nq w' r (nL q) ∧ Q w w' := by
 refine (aIU v _ _ _ w hv).mono ?_;rintro e w' ⟨r, h1, h2, h3⟩;refine ⟨r, h1, ?_, h3⟩;unfold Nq;rw [(yL q).1, (yL q).2, Int.natAbs_natCast, decide_eq_false (by omega)];exact h2
def aAP (p q : Rat) : Int × Rat := if q = 0 then (8, 0) else (0, p * q⁻¹)
theorem aKc (x y : Value) (p q : Rat) (w : World) (hT : Tb w) (hx : Nq w x p) (hy : Nq w y q) (hB : 64 * (sz p + sz q) + 400 ≤ LIM) : Calls Tryz.prog 38 #[x, y] w fun e w' => ∃ r, e = .returned r ∧ Nq w' r (p - q) ∧ Q w w' := by
 obtain ⟨s1, A1, n1, c1, A2, n2, c2, rfl, E1, Z1, O1, hxt, hxb⟩ := hx.form;obtain ⟨s2, A3, n3, c3, A4, n4, c4, rfl, E2, Z2, O2, hyt, hyb⟩ := hy.form;obtain ⟨w0, hW, hG0, hX0, hY0, hR0⟩ := iK w s1 (.slice A1 n1 c1) (.slice A2 n2 c2) s2 (.slice A3 n3 c3) (.slice A4 n4 c4);have HB := Lib.hid hB; clear hB;obtain ⟨x0, x1, x2⟩ := hX0.cells;obtain ⟨y0, y1, y2⟩ := hY0.cells;go_enter Tryz.func38, Tryz.ntmps38
 go_wp2_with fail
 clear hW;clear x0 x1 x2 y0 y1 y2;obtain ⟨x0, x1, x2⟩ := hX0.cells;obtain ⟨y0, y1, y2⟩ := hY0.cells
 go_region_held3 (fun W => W.cell? ⟨w.heap.size, 0, none⟩ = some (.bool s1) ∧ W.cell? ⟨w.heap.size, 1, none⟩ = some (.slice A1 n1 c1) ∧ W.cell? ⟨w.heap.size, 2, none⟩ = some (.slice A2 n2 c2) ∧ W.cell? ⟨w.heap.size + 1, 0, none⟩ = some (.bool s2) ∧ W.cell? ⟨w.heap.size + 1, 1, none⟩ = some (.slice A3 n3 c3) ∧ W.cell? ⟨w.heap.size + 1, 2, none⟩ = some (.slice A4 n4 c4)) (first | exact ⟨x0, x1, x2, y0, y1, y2⟩ | exact ⟨by assumption, by assumption, by assumption, by assumption, by assumption, by assumption⟩ | exact ⟨(bS xJ).trans (by assumption), (bS xJ).trans (by assumption), (bS xJ).trans (by assumption), (bS xK).trans (by assumption), (bS xK).trans (by assumption), (bS xK).trans (by assumption)⟩ | go_keep) (first
  | (go_at_call 18; refine (aGD _ _ p (-q) _ (hT.q hG1) (hx.q hG1) ho1 (show 64 * (sz p + sz (-q)) + 400 ≤ LIM by rw [qV]; exact HB.out)).mono ?_; rintro e w2 ⟨v1, rfl, hv, hq2⟩; have hG2 := hG1.trans hq2; have hX2 := hX1.q hq2; have hY2 := hY1.q hq2; have hR2 := hR1.q hq2; obtain ⟨x0, x1, x2⟩ := hX2.cells; obtain ⟨y0, y1, y2⟩ := hY2.cells; have fz := hR2.frozen; obtain ⟨r0, r1, r2⟩ := hR2.cells; rw [← Rat.sub_eq_add_neg] at hv; obtain ⟨s6, B1, m1, d1, B2, m2, d2, rfl, -⟩ := hv.form)
  | (go_at_call 100; refine (pM _ q _ (hy.q hG0.drew)).mono ?_; rintro e w1 ⟨o1, rfl, ho1, hq1d⟩; have hq1 : Q w0 w1 := (Q.refl w0).drew.trans hq1d; have hG1 := hG0.trans hq1; have hX1 := hX0.q hq1; have hY1 := hY0.q hq1; have hR1 := hR0.q hq1; obtain ⟨x0, x1, x2⟩ := hX1.cells; obtain ⟨y0, y1, y2⟩ := hY1.cells; obtain ⟨s5, A5, n5, c5, A6, n6, c6, rfl, -⟩ := ho1.form))
 all_goals
  go_wp2_with fail
  obtain ⟨z0, z1, z2, hvF, hqF⟩ := Nq.store hR2 hv hG2 (by exact Nat.le_add_right_of_le (Nat.le_add_right _ _));unfold put3 at z0 z1 z2 hvF hqF;refine rz3 z0 z1 z2 ?_;exact ⟨_, rfl, hvF, hqF⟩
theorem aKd (x : Value) (p : Rat) (w : World) (hx : Nq w x p) (hB : sz p ≤ LIM) : Calls Tryz.prog 127 #[x] w fun e w' => ∃ r, e = .returned r ∧ Nq w' r (-p) ∧ Q w w' := by
 obtain ⟨s1, A1, n1, c1, A2, n2, c2, rfl, E1, Z1, O1, hxt, hxb⟩ := hx.form;obtain ⟨w0, hW, hG0, hX0, hR0⟩ := lV w s1 (.slice A1 n1 c1) (.slice A2 n2 c2);have HB := Lib.hid hB; clear hB;obtain ⟨x0, x1, x2⟩ := hX0.cells;go_enter Tryz.func127, Tryz.ntmps127
 go_wp2_with fail
 clear hW;refine (pM _ p _ (hx.q hG0)).mono ?_;rintro e w1 ⟨o1, rfl, ho1, hq1⟩;have hG1 := hG0.trans hq1;have hX1 := hX0.q hq1;have hR1 := hR0.q hq1;clear x0 x1 x2;have fz := hR1.frozen;obtain ⟨r0, r1, r2⟩ := hR1.cells;obtain ⟨s5, A5, n5, c5, A6, n6, c6, rfl, -⟩ := ho1.form;go_wp2_with fail
 refine (pO _ (-p) _ ho1 (Nat.le_trans (eQ _) (by rw [qV p]; exact HB.out)) (Nat.le_trans (dQ _) (by rw [qV p]; exact HB.out))).mono ?_;rintro e w2 ⟨v1, rfl, hv, hq2⟩;have hG2 := hG1.trans hq2;have hX2 := hX1.q hq2;have hR2 := hR1.q hq2;clear fz r0 r1 r2;have fz := hR2.frozen;obtain ⟨r0, r1, r2⟩ := hR2.cells;obtain ⟨s6, B1, m1, d1, B2, m2, d2, rfl, -⟩ := hv.form;go_wp2_with fail
 obtain ⟨z0, z1, z2, hvF, hqF⟩ := Nq.store hR2 hv hG2 (Nat.le_add_right _ _);unfold put3 at z0 z1 z2 hvF hqF;refine rz3 z0 z1 z2 ?_;exact ⟨_, rfl, hvF, hqF⟩
theorem aKe (x : Value) (p : Rat) (w : World) (hx : Nq w x p) (hB : sz p ≤ LIM) : Calls Tryz.prog 122 #[x] w fun e w' => ∃ r, e = .returned r ∧ Nq w' r (nL p) ∧ Q w w' := by
 obtain ⟨s1, A1, n1, c1, A2, n2, c2, rfl, E1, Z1, O1, hxt, hxb⟩ := hx.form;obtain ⟨w0, hW, hG0, hX0, hR0⟩ := lV w s1 (.slice A1 n1 c1) (.slice A2 n2 c2);have HB := Lib.hid hB; clear hB;obtain ⟨x0, x1, x2⟩ := hX0.cells;go_enter Tryz.func122, Tryz.ntmps122
 go_wp2_with fail
 clear hW;refine (aEf _ p _ (hx.q hG0)).mono ?_;rintro e w1 ⟨o1, rfl, ho1, hq1⟩;have hG1 := hG0.trans hq1;have hX1 := hX0.q hq1;have hR1 := hR0.q hq1;clear x0 x1 x2;have fz := hR1.frozen;obtain ⟨r0, r1, r2⟩ := hR1.cells;obtain ⟨s5, A5, n5, c5, A6, n6, c6, rfl, -⟩ := ho1.form;go_wp2_with fail
 refine (pO _ (nL p) _ ho1 (Nat.le_trans (eQ _) (by rw [aEe p]; exact HB.out)) (Nat.le_trans (dQ _) (by rw [aEe p]; exact HB.out))).mono ?_;rintro e w2 ⟨v1, rfl, hv, hq2⟩;have hG2 := hG1.trans hq2;have hX2 := hX1.q hq2;have hR2 := hR1.q hq2;clear fz r0 r1 r2;have fz := hR2.frozen;obtain ⟨r0, r1, r2⟩ := hR2.cells;obtain ⟨s6, B1, m1, d1, B2, m2, d2, rfl, -⟩ := hv.form;go_wp2_with fail
 obtain ⟨z0, z1, z2, hvF, hqF⟩ := Nq.store hR2 hv hG2 (Nat.le_add_right _ _);unfold put3 at z0 z1 z2 hvF hqF;refine rz3 z0 z1 z2 ?_;exact ⟨_, rfl, hvF, hqF⟩
theorem mJ (x : Value) (p : Rat) (w : World) (hx : Nq w x p) : Calls Tryz.prog 40 #[x] w fun e w' => e = .returned (.int .i64 (sn p)) ∧ Q w w' := by
 obtain ⟨s1, A1, n1, c1, A2, n2, c2, rfl, E1, Z1, O1, hxt, hxb⟩ := hx.form;obtain ⟨w0, hW, hG0, hX0⟩ := aAN w s1 (.slice A1 n1 c1) (.slice A2 n2 c2);obtain ⟨x0, x1, x2⟩ := hX0.cells;rcases gJ p with ⟨hp, e⟩ | ⟨hp, e⟩ | ⟨hp, e⟩
 ·rw [e];have k0 : s1 = true := (by rw [E1.out]; exact decide_eq_true ((dK p).2 hp));subst k0;clear e hp;go_enter Tryz.func40, Tryz.ntmps40
  go_wp2_with fail
  go_ret
  exact ⟨rfl, hG0⟩
 ·rw [e];have k0 : s1 = false := (by rw [E1.out]; exact decide_eq_false (fun h => by have := (dK p).1 h; grind));subst k0;have k1 : ((n1 : Int) == 0) = true := (by rw [Z1.out.2 hp]; rfl);clear e hp;go_enter Tryz.func40, Tryz.ntmps40
  go_wp2_with fail
  go_ret
  exact ⟨rfl, hG0⟩
 ·rw [e];have k0 : s1 = false := (by rw [E1.out]; exact decide_eq_false (fun h => by have := (dK p).1 h; grind));subst k0;have k1 : ((n1 : Int) == 0) = false := beq_eq_false_iff_ne.2 (fun h => by have := Z1.out.1 (by omega); grind);clear e hp;go_enter Tryz.func40, Tryz.ntmps40
  go_wp2_with fail
  go_ret
  exact ⟨rfl, hG0⟩
theorem aKf (x y : Value) (p q : Rat) (w : World) (hT : Tb w) (hx : Nq w x p) (hy : Nq w y q) (hB : 16 * (sz p + sz q) + 200 ≤ LIM) : Calls Tryz.prog 41 #[x, y] w fun e w' => ∃ r, e = .returned (.tuple #[r, .int .i64 (aAP p q).1]) ∧ Nq w' r (aAP p q).2 ∧ Q w w' := by
 obtain ⟨s1, A1, n1, c1, A2, n2, c2, rfl, E1, Z1, O1, hxt, hxb⟩ := hx.form;obtain ⟨s2, A3, n3, c3, A4, n4, c4, rfl, E2, Z2, O2, hyt, hyb⟩ := hy.form;obtain ⟨w0, hW, hG0, hX0, hY0, hR0⟩ := iK w s1 (.slice A1 n1 c1) (.slice A2 n2 c2) s2 (.slice A3 n3 c3) (.slice A4 n4 c4);have HB := Lib.hid hB; clear hB;by_cases hq0 : q = 0
 ·have k0 : ((n3 : Int) == 0) = true := (by rw [Z2.out.2 hq0]; rfl);have hd : aAP p q = ((8 : Int), (0 : Rat)) := if_pos hq0;rw [hd];have hv := bH w0;clear hd hq0;obtain ⟨y0, y1, y2⟩ := hY0.cells;have fz := hR0.frozen;obtain ⟨r0, r1, r2⟩ := hR0.cells;go_enter Tryz.func41, Tryz.ntmps41
  go_wp2_with fail
  clear hW;obtain ⟨z0, z1, z2, hvF, hqF⟩ := Nq.store hR0 hv hG0 (by exact Nat.le_add_right_of_le (Nat.le_add_right _ _));unfold put3 at z0 z1 z2 hvF hqF;refine rt3 (.int .i64 8) z0 z1 z2 ?_;exact ⟨_, rfl, hvF, hqF⟩
 ·have k0 : ((n3 : Int) == 0) = false := beq_eq_false_iff_ne.2 (fun h => hq0 (Z2.out.1 (by omega)));have hd : aAP p q = ((0 : Int), p * q⁻¹) := if_neg hq0;rw [hd];have HQ := Lib.hid (fun h => hq0 (Rat.num_eq_zero.1 h) : q.num ≠ 0);clear hd hq0;obtain ⟨x0, x1, x2⟩ := hX0.cells;obtain ⟨y0, y1, y2⟩ := hY0.cells;go_enter Tryz.func41, Tryz.ntmps41
  go_wp2_with fail
  clear hW k0;clear x0 x1 x2 y0 y1 y2;obtain ⟨x0, x1, x2⟩ := hX0.cells;obtain ⟨y0, y1, y2⟩ := hY0.cells
  go_region_held3 (fun W => W.cell? ⟨w.heap.size, 0, none⟩ = some (.bool s1) ∧ W.cell? ⟨w.heap.size, 1, none⟩ = some (.slice A1 n1 c1) ∧ W.cell? ⟨w.heap.size, 2, none⟩ = some (.slice A2 n2 c2) ∧ W.cell? ⟨w.heap.size + 1, 0, none⟩ = some (.bool s2) ∧ W.cell? ⟨w.heap.size + 1, 1, none⟩ = some (.slice A3 n3 c3) ∧ W.cell? ⟨w.heap.size + 1, 2, none⟩ = some (.slice A4 n4 c4)) (first | exact ⟨x0, x1, x2, y0, y1, y2⟩ | exact ⟨by assumption, by assumption, by assumption, by assumption, by assumption, by assumption⟩ | exact ⟨(bS xJ).trans (by assumption), (bS xJ).trans (by assumption), (bS xJ).trans (by assumption), (bS xK).trans (by assumption), (bS xK).trans (by assumption), (bS xK).trans (by assumption)⟩ | go_keep) (first
   | (go_at_call 21; refine (zH _ _ p q⁻¹ _ (hT.q hG1) (hx.q hG1) ho1 (show 16 * (sz p + sz q⁻¹) + 100 ≤ LIM by have := aDW q; have := HB.out; rw [aB] at *; omega)).mono ?_; rintro e w2 ⟨v1, rfl, hv, hq2⟩; have hG2 := hG1.trans hq2; have hX2 := hX1.q hq2; have hY2 := hY1.q hq2; have hR2 := hR1.q hq2; obtain ⟨x0, x1, x2⟩ := hX2.cells; obtain ⟨y0, y1, y2⟩ := hY2.cells; have fz := hR2.frozen; obtain ⟨r0, r1, r2⟩ := hR2.cells; obtain ⟨s6, B1, m1, d1, B2, m2, d2, rfl, -⟩ := hv.form)
   | (go_at_call 103; refine (yI _ q _ (hy.q hG0.drew) HQ.out).mono ?_; rintro e w1 ⟨o1, rfl, ho1, hq1d⟩; have hq1 : Q w0 w1 := (Q.refl w0).drew.trans hq1d; have hG1 := hG0.trans hq1; have hX1 := hX0.q hq1; have hY1 := hY0.q hq1; have hR1 := hR0.q hq1; obtain ⟨x0, x1, x2⟩ := hX1.cells; obtain ⟨y0, y1, y2⟩ := hY1.cells; obtain ⟨s5, A5, n5, c5, A6, n6, c6, rfl, -⟩ := ho1.form))
  all_goals
   go_wp2_with fail
   obtain ⟨z0, z1, z2, hvF, hqF⟩ := Nq.store hR2 hv hG2 (by exact Nat.le_add_right_of_le (Nat.le_add_right _ _));unfold put3 at z0 z1 z2 hvF hqF;refine rt3 (.int .i64 0) z0 z1 z2 ?_;exact ⟨_, rfl, hvF, hqF⟩
end Go.Proofs.YtcplpghmbahjdaaGreatDoor
namespace Go.Proofs.YtcplpghmbahjdaaGreatDoor.K
open Go.RowKit
open Ma Me
theorem aGE {p q : Rat} (hs : sn p = sn q) (hd : ¬ (p.den = 1 ∧ q.den = 1)) : p ≠ 0 ∧ q ≠ 0 := by
 have h : p = 0 ↔ q = 0 := by rw [← uA, ← uA, hs]
 constructor
 ·intro e; exact hd ⟨by rw [e]; rfl, by rw [h.1 e]; rfl⟩
 ·intro e; exact hd ⟨by rw [h.2 e]; rfl, by rw [e]; rfl⟩
set_option maxRecDepth 100000 in
theorem xL (x y : Value) (p q : Rat) (w : World) (hx : Nq w x p) (hy : Nq w y q) (hB : 64 * (sz p + sz q) + 400 ≤ LIM) (hs : sn p = sn q) :
  Calls Tryz.prog 56 #[x, y] w fun e w' => e = .returned (.int .i64 (cmp (p.num.natAbs * q.den) (q.num.natAbs * p.den))) ∧ Q w w' := by
 obtain ⟨a0, a1, a2, rfl, jA⟩ := fmN hx;obtain ⟨b0, b1, b2, rfl, jB⟩ := fmN hy;obtain ⟨w0, hW, hG0, hA0, hB0⟩ := aKU w 36 [a0, a1, a2] 36 [b0, b1, b2];have HB := Lib.hid hB; clear hB;have gs0 := Lib.hid (sbN hA0 jA hx (sbN hB0 jB hy (St.nil hG0)));clear hG0 hA0 hB0;go_enter Tryz.func56, Tryz.ntmps56
 go_upto_region 1 with fail
 clear hW;generalize w.heap.size = zz at *
 have hz1 := aO p; have hz2 := aO q; have hB0 := HB.out; rw [aB] at hB0;have b1 : Hid (dg W64 (p).num.natAbs ≤ LIM ∧ dg W64 (q).den ≤ LIM ∧ dg W64 (q).num.natAbs ≤ LIM ∧ dg W64 (p).den ≤ LIM ∧ dg W64 ((p).num.natAbs * (q).den) ≤ LIM ∧ dg W64 ((q).num.natAbs * (p).den) ≤ LIM ∧ dg W64 (p).num.natAbs + dg W64 (q).den + 8 ≤ LIM ∧ dg W64 (q).num.natAbs + dg W64 (p).den + 8 ≤ LIM) := Lib.hid (by have := fE aC (p).num.natAbs (q).den; have := fE aC (q).num.natAbs (p).den; rw [aB]; omega);obtain ⟨La, HLa⟩ : ∃ L : Int, Hid ((bl ((p).num.natAbs) : Int) = L) := ⟨_, Lib.hid rfl⟩
 obtain ⟨Lb, HLb⟩ : ∃ L : Int, Hid ((bl ((q).den) : Int) = L) := ⟨_, Lib.hid rfl⟩
 obtain ⟨Lc, HLc⟩ : ∃ L : Int, Hid ((bl ((q).num.natAbs) : Int) = L) := ⟨_, Lib.hid rfl⟩
 obtain ⟨Ld, HLd⟩ : ∃ L : Int, Hid ((bl ((p).den) : Int) = L) := ⟨_, Lib.hid rfl⟩
 obtain ⟨m, HM⟩ : ∃ m : Int, Hid (La + Lb - Lc - Ld = m) := ⟨_, Lib.hid rfl⟩
 have T : Hid (IntKind.i64.wrap (La + Lb) = La + Lb ∧ IntKind.i64.wrap (La + Lb - Lc) = La + Lb - Lc ∧ IntKind.i64.wrap (La + Lb - Lc - Ld) = m) := Lib.hid (by have k1 := zC (p).num.natAbs; have k2 := zC (q).den; have k3 := zC (q).num.natAbs; have k4 := zC (p).den; have j1 := HLa.out; have j2 := HLb.out; have j3 := HLc.out; have j4 := HLd.out; have h1 := b1.out; rw [aB] at h1; rw [← HM.out]; exact ⟨IntWalk.i64_in _ (by omega), IntWalk.i64_in _ (by omega), IntWalk.i64_in _ (by omega)⟩);have HS := Lib.hid hs; clear hs hz1 hz2 hB0;by_cases hP : p.den = 1
 ·have HP := Lib.hid hP; clear hP;by_cases hQ : q.den = 1
  ·have HQ := Lib.hid hQ; clear hQ;refine reg [gN p, eB true, eB true, gN q, eB true, eB true] [] [] [] gs0 (fun cc => ?_) fun v1 w1 hV gs1 => ?_
   ·refine JW.ld 0 cc <| JW.ca (fun cj => (eO _ (p) _ (cj.d 0)).mono (mo1 (congrArg Value.bool (decide_eq_true (HP.out))))) cc <| JC.p cc <| JW.ld 1 cc <| JW.ca (fun cj => (eO _ (q) _ (cj.d 3)).mono (mo1 (congrArg Value.bool (decide_eq_true (HQ.out))))) cc <| JC.p cc <| Ja.Steps.nil
   rw [hV.out.e 5 rfl rfl];clear hV gs0;go_upto_region 2 with fail
   refine reg [eP zz 1, .gen (pVn ((p).num.natAbs)), eP ((zz + 1)) 1, .gen (pVn ((q).num.natAbs)), eI (cmp ((p).num.natAbs) ((q).num.natAbs)), eI (cmp ((p).num.natAbs) ((q).num.natAbs))] [] [] [] gs1 (fun cc => ?_) fun v2 w2 hV gs2 => ?_
   ·refine JC.p cc <| JW.ce 0 1 nu1 cc <| JC.p cc <| JW.ce 1 1 nu1 cc <| JW.ca (fun cj => (bB _ _ ((p).num.natAbs) ((q).num.natAbs) _ (cj.d 1) (cj.d 3) b1.out.1 b1.out.2.2.1).mono mo0) cc <| JC.p cc <| Ja.Steps.nil
   rw [hV.out.e 5 rfl rfl];clear hV gs1;go_wp2_with fail
   go_ret
   exact ⟨by rw [HP.out, HQ.out, Nat.mul_one, Nat.mul_one]; rfl, gs2.out.q⟩
  ·have HQ := Lib.hid hQ; clear hQ;have h0 : p ≠ 0 ∧ q ≠ 0 := (by have hs0 := HS.out; have hd : ¬ (p.den = 1 ∧ q.den = 1) := fun h => HQ.out h.2; exact aGE hs0 hd);have hC := tZ (a := (p).num.natAbs) (b := (q).den) (c := (q).num.natAbs) (d := (p).den) (fP h0.1) q.den_pos (fP h0.2) p.den_pos;have HC := Lib.hid hC; clear hC h0;refine reg [gN p, eB true, eB true, gN q, eB false, eB false] [] [] [] gs0 (fun cc => ?_) fun v1 w1 hV gs1 => ?_
   ·refine JW.ld 0 cc <| JW.ca (fun cj => (eO _ (p) _ (cj.d 0)).mono (mo1 (congrArg Value.bool (decide_eq_true (HP.out))))) cc <| JC.p cc <| JW.ld 1 cc <| JW.ca (fun cj => (eO _ (q) _ (cj.d 3)).mono (mo1 (congrArg Value.bool (decide_eq_false (HQ.out))))) cc <| JC.p cc <| Ja.Steps.nil
   rw [hV.out.e 5 rfl rfl];clear hV gs0;go_upto_region 3 with fail
   refine reg [eP zz 1, .gen (pVn ((p).num.natAbs)), eI La, gN q, .gen (pVn ((q).den)), eI Lb, eI (La + Lb), eP ((zz + 1)) 1, .gen (pVn ((q).num.natAbs)), eI Lc, eI (La + Lb - Lc), gN p, .gen (pVn ((p).den)), eI Ld, eI m, eI m] [] [] [] gs1 (fun cc => ?_) fun v2 w2 hV gs2 => ?_
   ·refine JC.p cc <| JW.ce 0 1 nu1 cc <| JW.ca (fun cj => (dO _ ((p).num.natAbs) _ (cj.d 1) b1.out.1).mono (mo2 (congrArg (Value.int .i64) HLa.out))) cc <| JW.ld 1 cc <| JW.ca (fun cj => aX _ (q) _ (cj.d 3)) cc <| JW.ca (fun cj => (dO _ ((q).den) _ (cj.d 4) b1.out.2.1).mono (mo2 (congrArg (Value.int .i64) HLb.out))) cc <| JC.u (.int .i64 (IntKind.i64.wrap ((La) + (Lb)))) (by exact congrArg (Value.int .i64) T.out.1) cc <| JC.p cc <| JW.ce 1 1 nu1 cc <| JW.ca (fun cj => (dO _ ((q).num.natAbs) _ (cj.d 8) b1.out.2.2.1).mono (mo2 (congrArg (Value.int .i64) HLc.out))) cc <| JC.u (.int .i64 (IntKind.i64.wrap ((La + Lb) - (Lc)))) (by exact congrArg (Value.int .i64) T.out.2.1) cc <| JW.ld 0 cc <| JW.ca (fun cj => aX _ (p) _ (cj.d 11)) cc <| JW.ca (fun cj => (dO _ ((p).den) _ (cj.d 12) b1.out.2.2.2.1).mono (mo2 (congrArg (Value.int .i64) HLd.out))) cc <| JC.u (.int .i64 (IntKind.i64.wrap ((La + Lb - Lc) - (Ld)))) (by exact congrArg (Value.int .i64) T.out.2.2) cc <| JC.p cc <| Ja.Steps.nil
   rw [hV.out.e 15 rfl rfl];clear hV gs1;go_upto_region 4 with fail
   by_cases h1 : 1 < m
   ·have H1 := Lib.hid h1; clear h1;refine reg [eI m, eB true, eB true] [] [] [] gs2 (fun cc => ?_) fun v3 w3 hV gs3 => ?_
    ·refine JC.p cc <| JC.u (.bool (decide ((1) < (m)))) (congrArg Value.bool (decide_eq_true (show ((m : Int) > 1) from H1.out))) cc <| JC.p cc <| Ja.Steps.nil
    rw [hV.out.e 2 rfl rfl];clear hV gs2;go_upto_region 5 with fail
    refine reg [eI 1] [] [] [] gs3 (fun cc => ?_) fun v4 w4 hV gs4 => ?_
    ·refine JC.p cc <| Ja.Steps.nil
    rw [hV.out.e 0 rfl rfl];clear hV gs3;go_wp2_with fail
    go_ret
    exact ⟨congrArg Ending.returned (congrArg (Value.int .i64) (HC.out.1 (by have := HM.out; have := H1.out; have := HLa.out; have := HLb.out; have := HLc.out; have := HLd.out; omega)).symm), gs4.out.q⟩
   ·have H1 := Lib.hid h1; clear h1;refine reg [eI m, eB false, eB false] [] [] [] gs2 (fun cc => ?_) fun v3 w3 hV gs3 => ?_
    ·refine JC.p cc <| JC.u (.bool (decide ((1) < (m)))) (congrArg Value.bool (decide_eq_false (show ¬ ((m : Int) > 1) from H1.out))) cc <| JC.p cc <| Ja.Steps.nil
    rw [hV.out.e 2 rfl rfl];clear hV gs2;go_upto_region 6 with fail
    by_cases h2 : m < -1
    ·have H2 := Lib.hid h2; clear h2;refine reg [eI m, eB true, eB true] [] [] [] gs3 (fun cc => ?_) fun v4 w4 hV gs4 => ?_
     ·refine JC.p cc <| JC.u (.bool (decide ((m) < (-1)))) (congrArg Value.bool (decide_eq_true (show ((m : Int) < -1) from H2.out))) cc <| JC.p cc <| Ja.Steps.nil
     rw [hV.out.e 2 rfl rfl];clear hV gs3;go_upto_region 7 with fail
     refine reg [eI (-1)] [] [] [] gs4 (fun cc => ?_) fun v5 w5 hV gs5 => ?_
     ·refine JC.p cc <| Ja.Steps.nil
     rw [hV.out.e 0 rfl rfl];clear hV gs4;go_wp2_with fail
     go_ret
     exact ⟨congrArg Ending.returned (congrArg (Value.int .i64) (HC.out.2 (by have := HM.out; have := H2.out; have := HLa.out; have := HLb.out; have := HLc.out; have := HLd.out; omega)).symm), gs5.out.q⟩
    ·have H2 := Lib.hid h2; clear h2;refine reg [eI m, eB false, eB false] [] [] [] gs3 (fun cc => ?_) fun v4 w4 hV gs4 => ?_
     ·refine JC.p cc <| JC.u (.bool (decide ((m) < (-1)))) (congrArg Value.bool (decide_eq_false (show ¬ ((m : Int) < -1) from H2.out))) cc <| JC.p cc <| Ja.Steps.nil
     rw [hV.out.e 2 rfl rfl];clear hV gs3;go_upto_region 8 with fail
     refine reg [eP zz 1, .gen (pVn ((p).num.natAbs)), gN q, .gen (pVn ((q).den)), .gen (pVn (((p).num.natAbs) * ((q).den))), eP ((zz + 1)) 1, .gen (pVn ((q).num.natAbs)), gN p, .gen (pVn ((p).den)), .gen (pVn (((q).num.natAbs) * ((p).den))), eI (cmp (((p).num.natAbs) * ((q).den)) (((q).num.natAbs) * ((p).den))), eI (cmp (((p).num.natAbs) * ((q).den)) (((q).num.natAbs) * ((p).den)))] [] [] [] gs4 (fun cc => ?_) fun v5 w5 hV gs5 => ?_
     ·refine JC.p cc <| JW.ce 0 1 nu1 cc <| JW.ld 1 cc <| JW.ca (fun cj => aX _ (q) _ (cj.d 2)) cc <| JW.ca (fun cj => (aZ ((p).num.natAbs) ((q).den) _ _ _ (cj.d 1) (cj.d 3) b1.out.2.2.2.2.2.2.1).mono mo4) cc <| JC.p cc <| JW.ce 1 1 nu1 cc <| JW.ld 0 cc <| JW.ca (fun cj => aX _ (p) _ (cj.d 7)) cc <| JW.ca (fun cj => (aZ ((q).num.natAbs) ((p).den) _ _ _ (cj.d 6) (cj.d 8) b1.out.2.2.2.2.2.2.2).mono mo4) cc <| JW.ca (fun cj => (bB _ _ (((p).num.natAbs) * ((q).den)) (((q).num.natAbs) * ((p).den)) _ (cj.d 4) (cj.d 9) b1.out.2.2.2.2.1 b1.out.2.2.2.2.2.1).mono mo0) cc <| JC.p cc <| Ja.Steps.nil
     rw [hV.out.e 11 rfl rfl];clear hV gs4;go_wp2_with fail
     go_ret
     exact ⟨rfl, gs5.out.q⟩
 ·have HP := Lib.hid hP; clear hP;have h0 : p ≠ 0 ∧ q ≠ 0 := (by have hs0 := HS.out; have hd : ¬ (p.den = 1 ∧ q.den = 1) := fun h => HP.out h.1; exact aGE hs0 hd);have hC := tZ (a := (p).num.natAbs) (b := (q).den) (c := (q).num.natAbs) (d := (p).den) (fP h0.1) q.den_pos (fP h0.2) p.den_pos;have HC := Lib.hid hC; clear hC h0;refine reg [gN p, eB false, eB false, .no, .no, eB false] [] [] [] gs0 (fun cc => ?_) fun v1 w1 hV gs1 => ?_
  ·refine JW.ld 0 cc <| JW.ca (fun cj => (eO _ (p) _ (cj.d 0)).mono (mo1 (congrArg Value.bool (decide_eq_false (HP.out))))) cc <| JC.p cc <| JC.n cc <| JC.n cc <| JC.p cc <| Ja.Steps.nil
  rw [hV.out.e 5 rfl rfl];clear hV gs0;go_upto_region 3 with fail
  refine reg [eP zz 1, .gen (pVn ((p).num.natAbs)), eI La, gN q, .gen (pVn ((q).den)), eI Lb, eI (La + Lb), eP ((zz + 1)) 1, .gen (pVn ((q).num.natAbs)), eI Lc, eI (La + Lb - Lc), gN p, .gen (pVn ((p).den)), eI Ld, eI m, eI m] [] [] [] gs1 (fun cc => ?_) fun v2 w2 hV gs2 => ?_
  ·refine JC.p cc <| JW.ce 0 1 nu1 cc <| JW.ca (fun cj => (dO _ ((p).num.natAbs) _ (cj.d 1) b1.out.1).mono (mo2 (congrArg (Value.int .i64) HLa.out))) cc <| JW.ld 1 cc <| JW.ca (fun cj => aX _ (q) _ (cj.d 3)) cc <| JW.ca (fun cj => (dO _ ((q).den) _ (cj.d 4) b1.out.2.1).mono (mo2 (congrArg (Value.int .i64) HLb.out))) cc <| JC.u (.int .i64 (IntKind.i64.wrap ((La) + (Lb)))) (by exact congrArg (Value.int .i64) T.out.1) cc <| JC.p cc <| JW.ce 1 1 nu1 cc <| JW.ca (fun cj => (dO _ ((q).num.natAbs) _ (cj.d 8) b1.out.2.2.1).mono (mo2 (congrArg (Value.int .i64) HLc.out))) cc <| JC.u (.int .i64 (IntKind.i64.wrap ((La + Lb) - (Lc)))) (by exact congrArg (Value.int .i64) T.out.2.1) cc <| JW.ld 0 cc <| JW.ca (fun cj => aX _ (p) _ (cj.d 11)) cc <| JW.ca (fun cj => (dO _ ((p).den) _ (cj.d 12) b1.out.2.2.2.1).mono (mo2 (congrArg (Value.int .i64) HLd.out))) cc <| JC.u (.int .i64 (IntKind.i64.wrap ((La + Lb - Lc) - (Ld)))) (by exact congrArg (Value.int .i64) T.out.2.2) cc <| JC.p cc <| Ja.Steps.nil
  rw [hV.out.e 15 rfl rfl];clear hV gs1;go_upto_region 4 with fail
  by_cases h1 : 1 < m
  ·have H1 := Lib.hid h1; clear h1;refine reg [eI m, eB true, eB true] [] [] [] gs2 (fun cc => ?_) fun v3 w3 hV gs3 => ?_
   ·refine JC.p cc <| JC.u (.bool (decide ((1) < (m)))) (congrArg Value.bool (decide_eq_true (show ((m : Int) > 1) from H1.out))) cc <| JC.p cc <| Ja.Steps.nil
   rw [hV.out.e 2 rfl rfl];clear hV gs2;go_upto_region 5 with fail
   refine reg [eI 1] [] [] [] gs3 (fun cc => ?_) fun v4 w4 hV gs4 => ?_
   ·refine JC.p cc <| Ja.Steps.nil
   rw [hV.out.e 0 rfl rfl];clear hV gs3;go_wp2_with fail
   go_ret
   exact ⟨congrArg Ending.returned (congrArg (Value.int .i64) (HC.out.1 (by have := HM.out; have := H1.out; have := HLa.out; have := HLb.out; have := HLc.out; have := HLd.out; omega)).symm), gs4.out.q⟩
  ·have H1 := Lib.hid h1; clear h1;refine reg [eI m, eB false, eB false] [] [] [] gs2 (fun cc => ?_) fun v3 w3 hV gs3 => ?_
   ·refine JC.p cc <| JC.u (.bool (decide ((1) < (m)))) (congrArg Value.bool (decide_eq_false (show ¬ ((m : Int) > 1) from H1.out))) cc <| JC.p cc <| Ja.Steps.nil
   rw [hV.out.e 2 rfl rfl];clear hV gs2;go_upto_region 6 with fail
   by_cases h2 : m < -1
   ·have H2 := Lib.hid h2; clear h2;refine reg [eI m, eB true, eB true] [] [] [] gs3 (fun cc => ?_) fun v4 w4 hV gs4 => ?_
    ·refine JC.p cc <| JC.u (.bool (decide ((m) < (-1)))) (congrArg Value.bool (decide_eq_true (show ((m : Int) < -1) from H2.out))) cc <| JC.p cc <| Ja.Steps.nil
    rw [hV.out.e 2 rfl rfl];clear hV gs3;go_upto_region 7 with fail
    refine reg [eI (-1)] [] [] [] gs4 (fun cc => ?_) fun v5 w5 hV gs5 => ?_
    ·refine JC.p cc <| Ja.Steps.nil
    rw [hV.out.e 0 rfl rfl];clear hV gs4;go_wp2_with fail
    go_ret
    exact ⟨congrArg Ending.returned (congrArg (Value.int .i64) (HC.out.2 (by have := HM.out; have := H2.out; have := HLa.out; have := HLb.out; have := HLc.out; have := HLd.out; omega)).symm), gs5.out.q⟩
   ·have H2 := Lib.hid h2; clear h2;refine reg [eI m, eB false, eB false] [] [] [] gs3 (fun cc => ?_) fun v4 w4 hV gs4 => ?_
    ·refine JC.p cc <| JC.u (.bool (decide ((m) < (-1)))) (congrArg Value.bool (decide_eq_false (show ¬ ((m : Int) < -1) from H2.out))) cc <| JC.p cc <| Ja.Steps.nil
    rw [hV.out.e 2 rfl rfl];clear hV gs3;go_upto_region 8 with fail
    refine reg [eP zz 1, .gen (pVn ((p).num.natAbs)), gN q, .gen (pVn ((q).den)), .gen (pVn (((p).num.natAbs) * ((q).den))), eP ((zz + 1)) 1, .gen (pVn ((q).num.natAbs)), gN p, .gen (pVn ((p).den)), .gen (pVn (((q).num.natAbs) * ((p).den))), eI (cmp (((p).num.natAbs) * ((q).den)) (((q).num.natAbs) * ((p).den))), eI (cmp (((p).num.natAbs) * ((q).den)) (((q).num.natAbs) * ((p).den)))] [] [] [] gs4 (fun cc => ?_) fun v5 w5 hV gs5 => ?_
    ·refine JC.p cc <| JW.ce 0 1 nu1 cc <| JW.ld 1 cc <| JW.ca (fun cj => aX _ (q) _ (cj.d 2)) cc <| JW.ca (fun cj => (aZ ((p).num.natAbs) ((q).den) _ _ _ (cj.d 1) (cj.d 3) b1.out.2.2.2.2.2.2.1).mono mo4) cc <| JC.p cc <| JW.ce 1 1 nu1 cc <| JW.ld 0 cc <| JW.ca (fun cj => aX _ (p) _ (cj.d 7)) cc <| JW.ca (fun cj => (aZ ((q).num.natAbs) ((p).den) _ _ _ (cj.d 6) (cj.d 8) b1.out.2.2.2.2.2.2.2).mono mo4) cc <| JW.ca (fun cj => (bB _ _ (((p).num.natAbs) * ((q).den)) (((q).num.natAbs) * ((p).den)) _ (cj.d 4) (cj.d 9) b1.out.2.2.2.2.1 b1.out.2.2.2.2.2.1).mono mo0) cc <| JC.p cc <| Ja.Steps.nil
    rw [hV.out.e 11 rfl rfl];clear hV gs4;go_wp2_with fail
    go_ret
    exact ⟨rfl, gs5.out.q⟩
end Go.Proofs.YtcplpghmbahjdaaGreatDoor.K
namespace Go.Proofs.YtcplpghmbahjdaaGreatDoor
open Go.RowKit
open Ma Me K
theorem aFQ {p q : Rat} : (sn p < sn q → rc p q = -1) ∧ (sn q < sn p → rc p q = 1) := by
 constructor
 ·intro h; refine aGy ?_;rcases gJ p with ⟨h1, e1⟩ | ⟨h1, e1⟩ | ⟨h1, e1⟩ <;> rcases gJ q with ⟨h2, e2⟩ | ⟨h2, e2⟩ | ⟨h2, e2⟩ <;> rw [e1, e2] at h <;> first | omega | grind
 ·intro h; refine aGz ?_;rcases gJ p with ⟨h1, e1⟩ | ⟨h1, e1⟩ | ⟨h1, e1⟩ <;> rcases gJ q with ⟨h2, e2⟩ | ⟨h2, e2⟩ | ⟨h2, e2⟩ <;> rw [e1, e2] at h <;> first | omega | grind
theorem aIX (a b : Nat) : -1 ≤ cmp a b ∧ cmp a b ≤ 1 := by
 unfold cmp; split
 ·omega
 ·split <;> omega
theorem aKg (p : Rat) : -1 ≤ sn p ∧ sn p ≤ 1 := by
 rcases gJ p with ⟨-, e⟩ | ⟨-, e⟩ | ⟨-, e⟩ <;> rw [e] <;> decide
theorem yM {a c : Int} (ha : -1 ≤ a ∧ a ≤ 1) (hc : -1 ≤ c ∧ c ≤ 1) : -9223372036854775808 ≤ a * c ∧ a * c ≤ 9223372036854775807 := by
 rcases (by omega : a = -1 ∨ a = 0 ∨ a = 1) with rfl | rfl | rfl <;> omega
set_option maxRecDepth 100000 in
theorem vR (x y : Value) (p q : Rat) (w : World) (hx : Nq w x p) (hy : Nq w y q) (hB : 64 * (sz p + sz q) + 400 ≤ LIM) : Calls Tryz.prog 20 #[x, y] w fun e w' => e = .returned (.int .i64 (rc p q)) ∧ Q w w' := by
 obtain ⟨s1, A1, n1, c1, A2, n2, c2, rfl, E1, Z1, O1, hxt, hxb⟩ := hx.form;obtain ⟨s2, A3, n3, c3, A4, n4, c4, rfl, E2, Z2, O2, hyt, hyb⟩ := hy.form;obtain ⟨w0, hW, hG0, hX0, hY0⟩ := aEc w s1 (.slice A1 n1 c1) (.slice A2 n2 c2) s2 (.slice A3 n3 c3) (.slice A4 n4 c4);have HB := Lib.hid hB; clear hB;obtain ⟨a, ha⟩ : ∃ a, sn p = a := ⟨_, rfl⟩
 obtain ⟨b, hb⟩ : ∃ b, sn q = b := ⟨_, rfl⟩
 have hlt := @aFQ p q; have heq := @aFl p q; have hc := aIX (p.num.natAbs * q.den) (q.num.natAbs * p.den);have hal := aKg p;have HS := Lib.hid (show sn p = sn q ↔ a = b by rw [ha, hb]);rw [ha] at hlt heq hal; rw [hb] at hlt heq;have HA := Lib.hid ha; have HBb := Lib.hid hb; clear ha hb;have HE := Lib.hid heq; have HL := Lib.hid hlt; clear heq hlt;have HC := Lib.hid hc; clear hc;rcases Int.lt_trichotomy a b with h | h | h
 ·obtain ⟨x0, x1, x2⟩ := hX0.cells;obtain ⟨y0, y1, y2⟩ := hY0.cells;go_enter Tryz.func20, Tryz.ntmps20
  go_wp2_with fail
  clear hW;refine (mJ _ p _ (hx.q hG0)).mono ?_;rintro e w1 ⟨rfl, hq1⟩;have hG1 := hG0.trans hq1;have hX1 := hX0.q hq1;have hY1 := hY0.q hq1;clear x0 x1 x2 y0 y1 y2;obtain ⟨x0, x1, x2⟩ := hX1.cells;obtain ⟨y0, y1, y2⟩ := hY1.cells;rw [HA.out];go_wp2_with fail
  refine (mJ _ q _ (hy.q hG1)).mono ?_;rintro e w2 ⟨rfl, hq2⟩;have hG2 := hG1.trans hq2;have hX2 := hX1.q hq2;have hY2 := hY1.q hq2;clear x0 x1 x2 y0 y1 y2;obtain ⟨x0, x1, x2⟩ := hX2.cells;obtain ⟨y0, y1, y2⟩ := hY2.cells;rw [HBb.out];go_wp2_with fail
  go_ret
  exact ⟨oI (HL.out.1 h).symm, hG2⟩
 ·have HAB := Lib.hid h;have h1 : ¬ a < b := (by omega);have h2 : ¬ b < a := (by omega);clear h;obtain ⟨x0, x1, x2⟩ := hX0.cells;obtain ⟨y0, y1, y2⟩ := hY0.cells;go_enter Tryz.func20, Tryz.ntmps20
  go_wp2_with fail
  clear hW;refine (mJ _ p _ (hx.q hG0)).mono ?_;rintro e w1 ⟨rfl, hq1⟩;have hG1 := hG0.trans hq1;have hX1 := hX0.q hq1;have hY1 := hY0.q hq1;clear x0 x1 x2 y0 y1 y2;obtain ⟨x0, x1, x2⟩ := hX1.cells;obtain ⟨y0, y1, y2⟩ := hY1.cells;rw [HA.out];go_wp2_with fail
  refine (mJ _ q _ (hy.q hG1)).mono ?_;rintro e w2 ⟨rfl, hq2⟩;have hG2 := hG1.trans hq2;have hX2 := hX1.q hq2;have hY2 := hY1.q hq2;clear x0 x1 x2 y0 y1 y2;obtain ⟨x0, x1, x2⟩ := hX2.cells;obtain ⟨y0, y1, y2⟩ := hY2.cells;rw [HBb.out];go_wp2_with fail
  have h3 : sn p = sn q := HS.out.2 HAB.out;refine (xL _ _ p q _ (hx.q hG2) (hy.q hG2) HB.out h3).mono ?_;rintro e w3 ⟨rfl, hq3⟩;have hG3 := hG2.trans hq3;have hX3 := hX2.q hq3;have hY3 := hY2.q hq3;clear x0 x1 x2 y0 y1 y2;have hr := HE.out HAB.out;have hc := HC.out;generalize cmp (p.num.natAbs * q.den) (q.num.natAbs * p.den) = c at hr hc ⊢;have hw : IntKind.i64.wrap (a * c) = a * c := IntWalk.i64_in _ (yM hal hc);have hw2 : wrap64 (a * c) = a * c := IntWalk.wrap64_in _ (yM hal hc);have HR := Lib.hid hr; clear hr h3;go_wp2_with fail
  go_ret
  exact ⟨oI HR.out.symm, hG3⟩
 ·have h1 : ¬ a < b := (by omega);obtain ⟨x0, x1, x2⟩ := hX0.cells;obtain ⟨y0, y1, y2⟩ := hY0.cells;go_enter Tryz.func20, Tryz.ntmps20
  go_wp2_with fail
  clear hW;refine (mJ _ p _ (hx.q hG0)).mono ?_;rintro e w1 ⟨rfl, hq1⟩;have hG1 := hG0.trans hq1;have hX1 := hX0.q hq1;have hY1 := hY0.q hq1;clear x0 x1 x2 y0 y1 y2;obtain ⟨x0, x1, x2⟩ := hX1.cells;obtain ⟨y0, y1, y2⟩ := hY1.cells;rw [HA.out];go_wp2_with fail
  refine (mJ _ q _ (hy.q hG1)).mono ?_;rintro e w2 ⟨rfl, hq2⟩;have hG2 := hG1.trans hq2;have hX2 := hX1.q hq2;have hY2 := hY1.q hq2;clear x0 x1 x2 y0 y1 y2;obtain ⟨x0, x1, x2⟩ := hX2.cells;obtain ⟨y0, y1, y2⟩ := hY2.cells;rw [HBb.out];go_wp2_with fail
  go_ret
  exact ⟨oI (HL.out.2 h).symm, hG2⟩
set_option maxRecDepth 100000 in
theorem aFR (x y : Value) (p q : Rat) (w : World) (hx : Nq w x p) (hy : Nq w y q) (hB : 64 * (sz p + sz q) + 400 ≤ LIM) : Calls Tryz.prog 132 #[x, y] w fun e w' => ∃ r, e = .returned r ∧ Nq w' r (aCE p q) ∧ Q w w' := by
 obtain ⟨s1, A1, n1, c1, A2, n2, c2, rfl, E1, Z1, O1, hxt, hxb⟩ := hx.form;obtain ⟨s2, A3, n3, c3, A4, n4, c4, rfl, E2, Z2, O2, hyt, hyb⟩ := hy.form;obtain ⟨w0, hW, hG0, hX0, hY0, hR0⟩ := iK w s1 (.slice A1 n1 c1) (.slice A2 n2 c2) s2 (.slice A3 n3 c3) (.slice A4 n4 c4);have HB := Lib.hid hB; clear hB;obtain ⟨c, hc⟩ : ∃ c, rc p q = c := ⟨_, rfl⟩
 have hi := aJ4 p q;rw [hc] at hi;have HC := Lib.hid hc; clear hc;by_cases h : c ≤ 0
 ·have hm : aCE p q = p := if_pos (hi.1 h);rw [hm];clear hm hi;obtain ⟨x0, x1, x2⟩ := hX0.cells;obtain ⟨y0, y1, y2⟩ := hY0.cells;go_enter Tryz.func132, Tryz.ntmps132
  go_wp2_with fail
  clear hW;refine (vR _ _ p q _ (hx.q hG0) (hy.q hG0) HB.out).mono ?_;rintro e w1 ⟨rfl, hq1⟩;have hG1 := hG0.trans hq1;have hX1 := hX0.q hq1;have hY1 := hY0.q hq1;have hR1 := hR0.q hq1;clear x0 x1 x2 y0 y1 y2;obtain ⟨x0, x1, x2⟩ := hX1.cells;have fz := hR1.frozen;obtain ⟨r0, r1, r2⟩ := hR1.cells;rw [HC.out];go_wp2_with fail
  have hv := hx.q hG1;obtain ⟨z0, z1, z2, hvF, hqF⟩ := Nq.store hR1 hv hG1 (by exact Nat.le_add_right_of_le (Nat.le_add_right _ _));unfold put3 at z0 z1 z2 hvF hqF;refine rz3 z0 z1 z2 ?_;exact ⟨_, rfl, hvF, hqF⟩
 ·have hm : aCE p q = q := if_neg (fun h1 => h (hi.2 h1));rw [hm];clear hm hi;obtain ⟨x0, x1, x2⟩ := hX0.cells;obtain ⟨y0, y1, y2⟩ := hY0.cells;go_enter Tryz.func132, Tryz.ntmps132
  go_wp2_with fail
  clear hW;refine (vR _ _ p q _ (hx.q hG0) (hy.q hG0) HB.out).mono ?_;rintro e w1 ⟨rfl, hq1⟩;have hG1 := hG0.trans hq1;have hX1 := hX0.q hq1;have hY1 := hY0.q hq1;have hR1 := hR0.q hq1;clear x0 x1 x2 y0 y1 y2;obtain ⟨y0, y1, y2⟩ := hY1.cells;have fz := hR1.frozen;obtain ⟨r0, r1, r2⟩ := hR1.cells;rw [HC.out];go_wp2_with fail
  have hv := hy.q hG1;obtain ⟨z0, z1, z2, hvF, hqF⟩ := Nq.store hR1 hv hG1 (by exact Nat.le_add_right_of_le (Nat.le_add_right _ _));unfold put3 at z0 z1 z2 hvF hqF;refine rz3 z0 z1 z2 ?_;exact ⟨_, rfl, hvF, hqF⟩
set_option maxRecDepth 100000 in
theorem yN (x y : Value) (p q : Rat) (w : World) (hx : Nq w x p) (hy : Nq w y q) (hB : 64 * (sz p + sz q) + 400 ≤ LIM) : Calls Tryz.prog 101 #[x, y] w fun e w' => ∃ r, e = .returned r ∧ Nq w' r (kE p q) ∧ Q w w' := by
 obtain ⟨s1, A1, n1, c1, A2, n2, c2, rfl, E1, Z1, O1, hxt, hxb⟩ := hx.form;obtain ⟨s2, A3, n3, c3, A4, n4, c4, rfl, E2, Z2, O2, hyt, hyb⟩ := hy.form;obtain ⟨w0, hW, hG0, hX0, hY0, hR0⟩ := iK w s1 (.slice A1 n1 c1) (.slice A2 n2 c2) s2 (.slice A3 n3 c3) (.slice A4 n4 c4);have HB := Lib.hid hB; clear hB;obtain ⟨c, hc⟩ : ∃ c, rc p q = c := ⟨_, rfl⟩
 have hi := aJ5 p q;rw [hc] at hi;have HC := Lib.hid hc; clear hc;by_cases h : 0 ≤ c
 ·have hm : kE p q = p := if_pos (hi.1 h);rw [hm];clear hm hi;obtain ⟨x0, x1, x2⟩ := hX0.cells;obtain ⟨y0, y1, y2⟩ := hY0.cells;go_enter Tryz.func101, Tryz.ntmps101
  go_wp2_with fail
  clear hW;refine (vR _ _ p q _ (hx.q hG0) (hy.q hG0) HB.out).mono ?_;rintro e w1 ⟨rfl, hq1⟩;have hG1 := hG0.trans hq1;have hX1 := hX0.q hq1;have hY1 := hY0.q hq1;have hR1 := hR0.q hq1;clear x0 x1 x2 y0 y1 y2;obtain ⟨x0, x1, x2⟩ := hX1.cells;have fz := hR1.frozen;obtain ⟨r0, r1, r2⟩ := hR1.cells;rw [HC.out];go_wp2_with fail
  have hv := hx.q hG1;obtain ⟨z0, z1, z2, hvF, hqF⟩ := Nq.store hR1 hv hG1 (by exact Nat.le_add_right_of_le (Nat.le_add_right _ _));unfold put3 at z0 z1 z2 hvF hqF;refine rz3 z0 z1 z2 ?_;exact ⟨_, rfl, hvF, hqF⟩
 ·have hm : kE p q = q := if_neg (fun h1 => h (hi.2 h1));rw [hm];clear hm hi;obtain ⟨x0, x1, x2⟩ := hX0.cells;obtain ⟨y0, y1, y2⟩ := hY0.cells;go_enter Tryz.func101, Tryz.ntmps101
  go_wp2_with fail
  clear hW;refine (vR _ _ p q _ (hx.q hG0) (hy.q hG0) HB.out).mono ?_;rintro e w1 ⟨rfl, hq1⟩;have hG1 := hG0.trans hq1;have hX1 := hX0.q hq1;have hY1 := hY0.q hq1;have hR1 := hR0.q hq1;clear x0 x1 x2 y0 y1 y2;obtain ⟨y0, y1, y2⟩ := hY1.cells;have fz := hR1.frozen;obtain ⟨r0, r1, r2⟩ := hR1.cells;rw [HC.out];go_wp2_with fail
  have hv := hy.q hG1;obtain ⟨z0, z1, z2, hvF, hqF⟩ := Nq.store hR1 hv hG1 (by exact Nat.le_add_right_of_le (Nat.le_add_right _ _));unfold put3 at z0 z1 z2 hvF hqF;refine rz3 z0 z1 z2 ?_;exact ⟨_, rfl, hvF, hqF⟩
set_option maxRecDepth 100000 in
theorem aKh (x y : Value) (p q : Rat) (w : World) (hx : Nq w x p) (hy : Nq w y q) (hB : 64 * (sz p + sz q) + 400 ≤ LIM) : Calls Tryz.prog 39 #[x, y] w fun e w' => ∃ r, e = .returned r ∧ Nq w' r (kE p q) ∧ Q w w' := by
 obtain ⟨s1, A1, n1, c1, A2, n2, c2, rfl, E1, Z1, O1, hxt, hxb⟩ := hx.form;obtain ⟨s2, A3, n3, c3, A4, n4, c4, rfl, E2, Z2, O2, hyt, hyb⟩ := hy.form;obtain ⟨w0, hW, hG0, hX0, hY0, hR0⟩ := iK w s1 (.slice A1 n1 c1) (.slice A2 n2 c2) s2 (.slice A3 n3 c3) (.slice A4 n4 c4);have HB := Lib.hid hB; clear hB;obtain ⟨x0, x1, x2⟩ := hX0.cells;obtain ⟨y0, y1, y2⟩ := hY0.cells;go_enter Tryz.func39, Tryz.ntmps39
 go_wp2_with fail
 clear hW;refine (yN _ _ p q _ (hx.q hG0) (hy.q hG0) HB.out).mono ?_;rintro e w1 ⟨o1, rfl, ho1, hq1⟩;have hG1 := hG0.trans hq1;have hX1 := hX0.q hq1;have hY1 := hY0.q hq1;have hR1 := hR0.q hq1;clear x0 x1 x2 y0 y1 y2;have fz := hR1.frozen;obtain ⟨r0, r1, r2⟩ := hR1.cells;obtain ⟨s5, A5, n5, c5, A6, n6, c6, rfl, -⟩ := ho1.form;go_wp2_with fail
 have hsz := aHs p q;refine (pO _ (kE p q) _ ho1 (by have := eQ (kE p q); have := HB.out; rw [aB] at *; omega) (by have := dQ (kE p q); have := HB.out; rw [aB] at *; omega)).mono ?_;rintro e w2 ⟨v1, rfl, hv, hq2⟩;have hG2 := hG1.trans hq2;have hX2 := hX1.q hq2;have hY2 := hY1.q hq2;have hR2 := hR1.q hq2;clear fz r0 r1 r2;have fz := hR2.frozen;obtain ⟨r0, r1, r2⟩ := hR2.cells;obtain ⟨s6, B1, m1, d1, B2, m2, d2, rfl, -⟩ := hv.form;go_wp2_with fail
 obtain ⟨z0, z1, z2, hvF, hqF⟩ := Nq.store hR2 hv hG2 (by exact Nat.le_add_right_of_le (Nat.le_add_right _ _));unfold put3 at z0 z1 z2 hvF hqF;refine rz3 z0 z1 z2 ?_;exact ⟨_, rfl, hvF, hqF⟩
end Go.Proofs.YtcplpghmbahjdaaGreatDoor
namespace Go.Proofs.YtcplpghmbahjdaaGreatDoor
open Go.RowKit
open Ma Me
theorem aIY (p : Rat) (n : Nat) : (p ^ n).num = sg (decide (p.num < 0) && decide (n % 2 = 1)) (p.num.natAbs ^ n) := by
 rw [Rat.num_pow];have h := oO p;generalize p.num.natAbs = N at *
 generalize decide (p.num < 0) = s at *
 cases s
 ·rw [← h]; simp [sg]
 ·rw [← h];simp only [sg, Bool.true_and];rw [if_pos trivial]
  induction n with
  | zero => simp
  | succ n ih =>
    rw [Int.pow_succ, ih, Nat.pow_succ, Int.natCast_mul];rcases Nat.mod_two_eq_zero_or_one n with h2 | h2
    ·have h3 : (n + 1) % 2 = 1 := (by omega);rw [if_neg (by rw [h2]; decide), if_pos (decide_eq_true h3), Int.mul_neg]
    ·have h3 : ¬ (n + 1) % 2 = 1 := (by omega);rw [if_pos (by rw [h2]; decide), if_neg (by rw [decide_eq_false h3]; decide), Int.neg_mul_neg]
def lH (p : Rat) (z : Int) : Int × Rat := if z < -64 ∨ 64 < z then (7, 0) else if z < 0 then (if p = 0 then (8, 0) else (0, p⁻¹ ^ (-z).toNat)) else (0, p ^ z.toNat)
set_option maxRecDepth 100000 in
theorem aBV (x : Value) (p : Rat) (z : Int) (n : Nat) (w : World) (hx : Nq w x p) (hz : Hid (z = (n : Int))) (hn : n ≤ 64) (hB : 64 * sz p + 400 ≤ LIM) : Calls Tryz.prog 226 #[x, .int .i64 z] w fun e w' => ∃ r, e = .returned r ∧ Nq w' r (p ^ n) ∧ Q w w' := by
 obtain ⟨s1, A1, n1, c1, A2, n2, c2, rfl, E1, Z1, O1, hxt, hxb⟩ := hx.form;obtain ⟨w0, hW, hG0, hX0, hR0⟩ := lV w s1 (.slice A1 n1 c1) (.slice A2 n2 c2);have HB := Lib.hid hB; clear hB;have b1 : n * dg W64 p.num.natAbs + 9 ≤ LIM := by have h1 := Nat.mul_le_mul_right (dg W64 p.num.natAbs) hn; have := eQ p; have := HB.out; rw [aB] at *; omega
 have b2 : n * dg W64 p.den + 9 ≤ LIM := by have h1 := Nat.mul_le_mul_right (dg W64 p.den) hn; have := dQ p; have := HB.out; rw [aB] at *; omega
 have b3 : n ≤ 4611686018427387904 := by omega
 have hP := aIY p n;rw [← E1.out] at hP;have HP := Lib.hid hP; clear hP;rcases Bool.eq_false_or_eq_true s1 with hs | hs
 ·subst hs;rcases Nat.mod_two_eq_zero_or_one n with h2 | h2
  ·have h3 : z.tmod 2 = 0 := (by rw [hz.out, Int.tmod_eq_emod_of_nonneg (by omega)]; omega);have HP2 : Hid ((p ^ n).num = sg false (p.num.natAbs ^ n)) := (by have h := HP.out; rw [h2] at h; exact h);clear HP h2;have HP := HP2; clear HP2;go_enter Tryz.func226, Tryz.ntmps226
   go_wp2_with fail
   clear hW;obtain ⟨x0, x1, x2⟩ := hX0.cells
   go_region_held3 (fun W => W.cell? ⟨w.heap.size, 0, none⟩ = some (.bool true) ∧ W.cell? ⟨w.heap.size, 1, none⟩ = some (.slice A1 n1 c1) ∧ W.cell? ⟨w.heap.size, 2, none⟩ = some (.slice A2 n2 c2)) (first | with_reducible exact ⟨x0, x1, x2⟩ | (refine ⟨?_, ?_, ?_⟩ <;> with_reducible assumption) | exact ⟨(bS pR).trans (by assumption), (bS pR).trans (by assumption), (bS pR).trans (by assumption)⟩ | go_keep) (first
    | (go_at_call 53; (with_reducible refine (bD false _ _ (p.num.natAbs ^ n) (p.den ^ n) _ ((ht1.q hq2).q hq3) ht2).mono ?_); rintro e w4 ⟨v5, rfl, hv5, hq4⟩; have hG4 := hG3.trans hq4; have hX4 := hX3.q hq4; have hR4 := hR3.q hq4; obtain ⟨x0, x1, x2⟩ := hX4.cells; have fz := hR4.frozen; obtain ⟨r0, r1, r2⟩ := hR4.cells; obtain ⟨B1, d1, B2, d2, rfl, -, -⟩ := hv5.form; have hv := Nq.made (q := p ^ n) hv5 HP.out (fun _ => Rat.den_pow p n); generalize (decide (0 < p.num.natAbs ^ n) && false) = s4 at *; generalize dg W64 (if p.num.natAbs ^ n = 0 then 0 else bt (p.den ^ n)) = m2 at *; generalize dg W64 (p.num.natAbs ^ n) = m1 at *)
    | (go_at_call 205; (with_reducible refine (jF _ p.den n _ _ hu1 hz.out b2 b3).mono ?_); rintro e w3 ⟨t2, rfl, ht2, hq3, -⟩; have hG3 := hG2.trans hq3; have hX3 := hX2.q hq3; have hR3 := hR2.q hq3; obtain ⟨x0, x1, x2⟩ := hX3.cells; obtain ⟨A7, n7, c7, rfl⟩ := ht2.form)
    | (go_at_call 49; (with_reducible refine (aX _ p _ (hx.q hG1)).mono ?_); rintro e w2 ⟨u1, rfl, hu1, hq2⟩; have hG2 := hG1.trans hq2; have hX2 := hX1.q hq2; have hR2 := hR1.q hq2; obtain ⟨x0, x1, x2⟩ := hX2.cells; obtain ⟨A6, n6, c6, rfl⟩ := hu1.form)
    | (go_at_call 205; (with_reducible refine (jF _ p.num.natAbs n _ _ (hxt.q hG0.drew) hz.out b1 b3).mono ?_); rintro e w1 ⟨t1, rfl, ht1, hq1d, -⟩; have hq1 : Q w0 w1 := (Q.refl w0).drew.trans hq1d; have hG1 := hG0.trans hq1; have hX1 := hX0.q hq1; have hR1 := hR0.q hq1; obtain ⟨x0, x1, x2⟩ := hX1.cells; obtain ⟨A5, n5, c5, rfl⟩ := ht1.form))
   all_goals
    go_wp2_with fail
    obtain ⟨z0, z1, z2, hvF, hqF⟩ := Nq.store hR4 hv hG4 (Nat.le_add_right _ _);unfold put3 at z0 z1 z2 hvF hqF;refine rz3 z0 z1 z2 ?_;exact ⟨_, rfl, hvF, hqF⟩
  ·have h3 : z.tmod 2 = 1 := (by rw [hz.out, Int.tmod_eq_emod_of_nonneg (by omega)]; omega);have HP2 : Hid ((p ^ n).num = sg true (p.num.natAbs ^ n)) := (by have h := HP.out; rw [h2] at h; exact h);clear HP h2;have HP := HP2; clear HP2;go_enter Tryz.func226, Tryz.ntmps226
   go_wp2_with fail
   clear hW;obtain ⟨x0, x1, x2⟩ := hX0.cells
   go_region_held3 (fun W => W.cell? ⟨w.heap.size, 0, none⟩ = some (.bool true) ∧ W.cell? ⟨w.heap.size, 1, none⟩ = some (.slice A1 n1 c1) ∧ W.cell? ⟨w.heap.size, 2, none⟩ = some (.slice A2 n2 c2)) (first | with_reducible exact ⟨x0, x1, x2⟩ | (refine ⟨?_, ?_, ?_⟩ <;> with_reducible assumption) | exact ⟨(bS pR).trans (by assumption), (bS pR).trans (by assumption), (bS pR).trans (by assumption)⟩ | go_keep) (first
    | (go_at_call 53; (with_reducible refine (bD true _ _ (p.num.natAbs ^ n) (p.den ^ n) _ ((ht1.q hq2).q hq3) ht2).mono ?_); rintro e w4 ⟨v5, rfl, hv5, hq4⟩; have hG4 := hG3.trans hq4; have hX4 := hX3.q hq4; have hR4 := hR3.q hq4; obtain ⟨x0, x1, x2⟩ := hX4.cells; have fz := hR4.frozen; obtain ⟨r0, r1, r2⟩ := hR4.cells; obtain ⟨B1, d1, B2, d2, rfl, -, -⟩ := hv5.form; have hv := Nq.made (q := p ^ n) hv5 HP.out (fun _ => Rat.den_pow p n); generalize (decide (0 < p.num.natAbs ^ n) && true) = s4 at *; generalize dg W64 (if p.num.natAbs ^ n = 0 then 0 else bt (p.den ^ n)) = m2 at *; generalize dg W64 (p.num.natAbs ^ n) = m1 at *)
    | (go_at_call 205; (with_reducible refine (jF _ p.den n _ _ hu1 hz.out b2 b3).mono ?_); rintro e w3 ⟨t2, rfl, ht2, hq3, -⟩; have hG3 := hG2.trans hq3; have hX3 := hX2.q hq3; have hR3 := hR2.q hq3; obtain ⟨x0, x1, x2⟩ := hX3.cells; obtain ⟨A7, n7, c7, rfl⟩ := ht2.form)
    | (go_at_call 49; (with_reducible refine (aX _ p _ (hx.q hG1)).mono ?_); rintro e w2 ⟨u1, rfl, hu1, hq2⟩; have hG2 := hG1.trans hq2; have hX2 := hX1.q hq2; have hR2 := hR1.q hq2; obtain ⟨x0, x1, x2⟩ := hX2.cells; obtain ⟨A6, n6, c6, rfl⟩ := hu1.form)
    | (go_at_call 205; (with_reducible refine (jF _ p.num.natAbs n _ _ (hxt.q hG0.drew) hz.out b1 b3).mono ?_); rintro e w1 ⟨t1, rfl, ht1, hq1d, -⟩; have hq1 : Q w0 w1 := (Q.refl w0).drew.trans hq1d; have hG1 := hG0.trans hq1; have hX1 := hX0.q hq1; have hR1 := hR0.q hq1; obtain ⟨x0, x1, x2⟩ := hX1.cells; obtain ⟨A5, n5, c5, rfl⟩ := ht1.form))
   all_goals
    go_wp2_with fail
    obtain ⟨z0, z1, z2, hvF, hqF⟩ := Nq.store hR4 hv hG4 (Nat.le_add_right _ _);unfold put3 at z0 z1 z2 hvF hqF;refine rz3 z0 z1 z2 ?_;exact ⟨_, rfl, hvF, hqF⟩
 ·subst hs;have HP2 : Hid ((p ^ n).num = sg false (p.num.natAbs ^ n)) := HP;clear HP;have HP := HP2; clear HP2;go_enter Tryz.func226, Tryz.ntmps226
  go_wp2_with fail
  clear hW;obtain ⟨x0, x1, x2⟩ := hX0.cells;refine wp_region_held_drew (S := fun W => W.cell? ⟨w.heap.size, 0, none⟩ = some (.bool false) ∧ W.cell? ⟨w.heap.size, 1, none⟩ = some (.slice A1 n1 c1) ∧ W.cell? ⟨w.heap.size, 2, none⟩ = some (.slice A2 n2 c2)) (by kernel_rfl) (by exact ⟨x0, x1, x2⟩) (fun hHeld => ?_);refine wpAnyH_take (i := 0) (v := ?v0) rfl (by kernel_rfl) (by kernel_rfl) (by kernel_rfl) (fun _ _ _ h => h) (Or.inl ⟨by rfl, ?h0⟩) (by assumption) ?r0
  case h0 =>
   intro W hSw
   (try dsimp only at hSw)
   go_simp
   try (with_reducible rfl)
  try simp only [Act.put]
  try simp only [List.setIfInBounds_toArray]
  try simp only [List.set_cons_zero, List.set_cons_succ]
  refine wpAnyH_take (i := 1) (v := ?v1) rfl (by kernel_rfl) (by kernel_rfl) (by kernel_rfl) (fun _ _ _ h => h) (Or.inl ⟨by rfl, ?h1⟩) (by assumption) ?r1
  case h1 =>
   intro W hSw
   (try dsimp only at hSw)
   go_simp
   try (with_reducible rfl)
  try simp only [Act.put]
  try simp only [List.setIfInBounds_toArray]
  try simp only [List.set_cons_zero, List.set_cons_succ]
  refine wpAnyH_take (i := 2) (v := ?v2) rfl (by kernel_rfl) (by kernel_rfl) (by kernel_rfl) (fun _ _ _ h => h) (Or.inl ⟨by rfl, ?h2⟩) (by assumption) ?r2
  case h2 =>
   intro W hSw
   (try dsimp only at hSw)
   go_simp
   try (with_reducible rfl)
  try simp only [Act.put]
  try simp only [List.setIfInBounds_toArray]
  try simp only [List.set_cons_zero, List.set_cons_succ]
  refine wpAnyH_take (i := 3) (v := undef) rfl (by kernel_rfl) (by kernel_rfl) (by kernel_rfl) (fun _ _ _ h => h) (Or.inr ⟨by rfl, rfl⟩) (by assumption) ?_;try simp only [Act.put]
  try simp only [List.setIfInBounds_toArray]
  try simp only [List.set_cons_zero, List.set_cons_succ]
  refine wpAnyH_take (i := 4) (v := undef) rfl (by kernel_rfl) (by kernel_rfl) (by kernel_rfl) (fun _ _ _ h => h) (Or.inr ⟨by rfl, rfl⟩) (by assumption) ?_;try simp only [Act.put]
  try simp only [List.setIfInBounds_toArray]
  try simp only [List.set_cons_zero, List.set_cons_succ]
  refine wpAnyH_take (i := 5) (v := undef) rfl (by kernel_rfl) (by kernel_rfl) (by kernel_rfl) (fun _ _ _ h => h) (Or.inr ⟨by rfl, rfl⟩) (by assumption) ?_;try simp only [Act.put]
  try simp only [List.setIfInBounds_toArray]
  try simp only [List.set_cons_zero, List.set_cons_succ]
  refine wpAnyH_take (i := 6) (v := ?v6) rfl (by kernel_rfl) (by kernel_rfl) (by kernel_rfl) (fun _ _ _ h => h) (Or.inl ⟨by rfl, ?h6⟩) (by assumption) ?r6
  case h6 =>
   intro W hSw
   (try dsimp only at hSw)
   go_simp
   try (with_reducible rfl)
  try simp only [Act.put]
  try simp only [List.setIfInBounds_toArray]
  try simp only [List.set_cons_zero, List.set_cons_succ]
  refine wpAnyH_take (i := 7) (v := ?v7) rfl (by kernel_rfl) (by kernel_rfl) (by kernel_rfl) (fun _ _ _ h => h) (Or.inl ⟨by rfl, ?h7⟩) (by assumption) ?r7
  case h7 =>
   intro W hSw
   (try dsimp only at hSw)
   go_simp
   try (with_reducible rfl)
  try simp only [Act.put]
  try simp only [List.setIfInBounds_toArray]
  try simp only [List.set_cons_zero, List.set_cons_succ]
  refine wpAnyH_take (i := 8) (v := ?v8) rfl (by kernel_rfl) (by kernel_rfl) (by kernel_rfl) (fun _ _ _ h => h) (Or.inl ⟨by rfl, ?h8⟩) (by assumption) ?r8
  case h8 =>
   intro W hSw
   (try dsimp only at hSw)
   go_simp
   try (with_reducible rfl)
  try simp only [Act.put]
  try simp only [List.setIfInBounds_toArray]
  try simp only [List.set_cons_zero, List.set_cons_succ]
  refine wpAnyH_take (i := 9) (v := ?v9) rfl (by kernel_rfl) (by kernel_rfl) (by kernel_rfl) (fun _ _ _ h => h) (Or.inl ⟨by rfl, ?h9⟩) (by assumption) ?r9
  case h9 =>
   intro W hSw
   (try dsimp only at hSw)
   go_simp
   try (with_reducible rfl)
  try simp only [Act.put]
  try simp only [List.setIfInBounds_toArray]
  try simp only [List.set_cons_zero, List.set_cons_succ]
  refine wpAnyH_take (i := 11) (v := ?v11) rfl (by kernel_rfl) (by kernel_rfl) (by kernel_rfl) (fun _ _ _ h => h) (Or.inl ⟨by rfl, ?h11⟩) (by assumption) ?r11
  case h11 =>
   intro W hSw
   (try dsimp only at hSw)
   go_simp
   try (with_reducible rfl)
  try simp only [Act.put]
  try simp only [List.setIfInBounds_toArray]
  try simp only [List.set_cons_zero, List.set_cons_succ]
  refine wpAnyH_take (i := 13) (v := ?v13) rfl (by kernel_rfl) (by kernel_rfl) (by kernel_rfl) (fun _ _ _ h => h) (Or.inl ⟨by rfl, ?h13⟩) (by assumption) ?r13
  case h13 =>
   intro W hSw
   (try dsimp only at hSw)
   go_simp
   try (with_reducible rfl)
  try simp only [Act.put]
  try simp only [List.setIfInBounds_toArray]
  try simp only [List.set_cons_zero, List.set_cons_succ]
  refine wpAnyH_ready (rs := [10]) (by kernel_rfl) (by decide) (AllReadyH.cons rfl (fun K hK => ?_) AllReadyH.nil);go_simp
  (with_reducible refine (jF _ p.num.natAbs n _ _ (hxt.q hG0.drew) hz.out b1 b3).mono ?_)
  rintro e w1 ⟨t1, rfl, ht1, hq1d, -⟩;have hq1 : Q w0 w1 := (Q.refl w0).drew.trans hq1d;have hG1 := hG0.trans hq1;have hX1 := hX0.q hq1;have hR1 := hR0.q hq1;obtain ⟨x0, x1, x2⟩ := hX1.cells;obtain ⟨A5, n5, c5, rfl⟩ := ht1.form;go_wp2_with fail
  refine hK.out _ _ (by exact ⟨by assumption, by assumption, by assumption⟩) (fun hHeld => ?_);clear hK K;try simp only [Act.put]
  try simp only [List.setIfInBounds_toArray]
  try simp only [List.set_cons_zero, List.set_cons_succ]
  refine wpAnyH_ready (rs := [12]) (by kernel_rfl) (by decide) (AllReadyH.cons rfl (fun K hK => ?_) AllReadyH.nil);go_simp
  (with_reducible refine (aX _ p _ (hx.q hG1)).mono ?_)
  rintro e w2 ⟨u1, rfl, hu1, hq2⟩;have hG2 := hG1.trans hq2;have hX2 := hX1.q hq2;have hR2 := hR1.q hq2;obtain ⟨x0, x1, x2⟩ := hX2.cells;obtain ⟨A6, n6, c6, rfl⟩ := hu1.form;go_wp2_with fail
  refine hK.out _ _ (by exact ⟨by assumption, by assumption, by assumption⟩) (fun hHeld => ?_);clear hK K;try simp only [Act.put]
  try simp only [List.setIfInBounds_toArray]
  try simp only [List.set_cons_zero, List.set_cons_succ]
  refine wpAnyH_ready (rs := [14]) (by kernel_rfl) (by decide) (AllReadyH.cons rfl (fun K hK => ?_) AllReadyH.nil);go_simp
  (with_reducible refine (jF _ p.den n _ _ hu1 hz.out b2 b3).mono ?_)
  rintro e w3 ⟨t2, rfl, ht2, hq3, -⟩;have hG3 := hG2.trans hq3;have hX3 := hX2.q hq3;have hR3 := hR2.q hq3;obtain ⟨x0, x1, x2⟩ := hX3.cells;obtain ⟨A7, n7, c7, rfl⟩ := ht2.form;go_wp2_with fail
  refine hK.out _ _ (by exact ⟨by assumption, by assumption, by assumption⟩) (fun hHeld => ?_);clear hK K;try simp only [Act.put]
  try simp only [List.setIfInBounds_toArray]
  try simp only [List.set_cons_zero, List.set_cons_succ]
  refine wpAnyH_ready (rs := [15]) (by kernel_rfl) (by decide) (AllReadyH.cons rfl (fun K hK => ?_) AllReadyH.nil);go_simp
  (with_reducible refine (bD false _ _ (p.num.natAbs ^ n) (p.den ^ n) _ ((ht1.q hq2).q hq3) ht2).mono ?_)
  rintro e w4 ⟨v5, rfl, hv5, hq4⟩;have hG4 := hG3.trans hq4;have hX4 := hX3.q hq4;have hR4 := hR3.q hq4;obtain ⟨x0, x1, x2⟩ := hX4.cells;have fz := hR4.frozen;obtain ⟨r0, r1, r2⟩ := hR4.cells;obtain ⟨B1, d1, B2, d2, rfl, -, -⟩ := hv5.form;have hv := Nq.made (q := p ^ n) hv5 HP.out (fun _ => Rat.den_pow p n);generalize (decide (0 < p.num.natAbs ^ n) && false) = s4 at *
  generalize dg W64 (if p.num.natAbs ^ n = 0 then 0 else bt (p.den ^ n)) = m2 at *
  generalize dg W64 (p.num.natAbs ^ n) = m1 at *
  go_wp2_with fail
  refine hK.out _ _ (by exact ⟨by assumption, by assumption, by assumption⟩) (fun hHeld => ?_);clear hK K;try simp only [Act.put]
  try simp only [List.setIfInBounds_toArray]
  try simp only [List.set_cons_zero, List.set_cons_succ]
  refine wpAnyH_ready (rs := [16]) (by kernel_rfl) (by decide) (AllReadyH.cons rfl (fun K hK => ?_) AllReadyH.nil);go_simp
  refine hK.out _ _ (by exact ⟨(bS pR).trans (by with_reducible assumption), (bS pR).trans (by with_reducible assumption), (bS pR).trans (by with_reducible assumption)⟩) (fun hHeld => ?_);clear hK K;try simp only [Act.put]
  try simp only [List.setIfInBounds_toArray]
  try simp only [List.set_cons_zero, List.set_cons_succ]
  refine wpAnyH_done (by kernel_rfl) ?_ _;go_wp2_with fail
  obtain ⟨z0, z1, z2, hvF, hqF⟩ := Nq.store hR4 hv hG4 (Nat.le_add_right _ _);unfold put3 at z0 z1 z2 hvF hqF;refine rz3 z0 z1 z2 ?_;exact ⟨_, rfl, hvF, hqF⟩
set_option maxRecDepth 100000 in
theorem aKi (x : Value) (p : Rat) (z : Int) (w : World) (hx : Nq w x p) (hB : 64 * sz p + 600 ≤ LIM) : Calls Tryz.prog 217 #[x, .int .i64 z] w fun e w' => ∃ r, e = .returned (.tuple #[r, .int .i64 (lH p z).1]) ∧ Nq w' r (lH p z).2 ∧ Q w w' := by
 obtain ⟨s1, A1, n1, c1, A2, n2, c2, rfl, E1, Z1, O1, hxt, hxb⟩ := hx.form;obtain ⟨w0, hW, hG0, hX0, hR0⟩ := lV w s1 (.slice A1 n1 c1) (.slice A2 n2 c2);have HB := Lib.hid hB; clear hB;by_cases h1 : z < -64
 ·have hd : lH p z = ((7 : Int), (0 : Rat)) := if_pos (.inl h1);rw [hd];clear hd;have hv := bH w0;obtain ⟨x0, x1, x2⟩ := hX0.cells;have fz := hR0.frozen;obtain ⟨r0, r1, r2⟩ := hR0.cells;go_enter Tryz.func217, Tryz.ntmps217
  go_wp2_with fail
  clear hW;obtain ⟨z0, z1, z2, hvF, hqF⟩ := Nq.store hR0 hv hG0 (Nat.le_add_right _ _);unfold put3 at z0 z1 z2 hvF hqF;refine rt3 (.int .i64 7) z0 z1 z2 ?_;exact ⟨_, rfl, hvF, hqF⟩
 ·by_cases h2 : 64 < z
  ·have hd : lH p z = ((7 : Int), (0 : Rat)) := if_pos (.inr h2);rw [hd];clear hd;have hv := bH w0;obtain ⟨x0, x1, x2⟩ := hX0.cells;have fz := hR0.frozen;obtain ⟨r0, r1, r2⟩ := hR0.cells;go_enter Tryz.func217, Tryz.ntmps217
   go_wp2_with fail
   clear hW;obtain ⟨z0, z1, z2, hvF, hqF⟩ := Nq.store hR0 hv hG0 (Nat.le_add_right _ _);unfold put3 at z0 z1 z2 hvF hqF;refine rt3 (.int .i64 7) z0 z1 z2 ?_;exact ⟨_, rfl, hvF, hqF⟩
  ·have hnr : ¬ (z < -64 ∨ 64 < z) := (by omega);by_cases h3 : z < 0
   ·by_cases hp0 : p = 0
    ·have k0 : ((n1 : Int) == 0) = true := (by rw [Z1.out.2 hp0]; rfl);have hd : lH p z = ((8 : Int), (0 : Rat)) := (by unfold lH; rw [if_neg hnr, if_pos h3, if_pos hp0]);rw [hd];clear hd hp0 hnr;have hv := bH w0;obtain ⟨x0, x1, x2⟩ := hX0.cells;have fz := hR0.frozen;obtain ⟨r0, r1, r2⟩ := hR0.cells;go_enter Tryz.func217, Tryz.ntmps217
     go_wp2_with fail
     clear hW;obtain ⟨z0, z1, z2, hvF, hqF⟩ := Nq.store hR0 hv hG0 (Nat.le_add_right _ _);unfold put3 at z0 z1 z2 hvF hqF;refine rt3 (.int .i64 8) z0 z1 z2 ?_;exact ⟨_, rfl, hvF, hqF⟩
    ·have k0 : ((n1 : Int) == 0) = false := beq_eq_false_iff_ne.2 (fun h => hp0 (Z1.out.1 (by omega)));have hd : lH p z = ((0 : Int), p⁻¹ ^ (-z).toNat) := (by unfold lH; rw [if_neg hnr, if_pos h3, if_neg hp0]);rw [hd];have HQ := Lib.hid (fun h => hp0 (Rat.num_eq_zero.1 h) : p.num ≠ 0);obtain ⟨k, hk⟩ : ∃ k : Nat, (-z).toNat = k := ⟨_, rfl⟩
     rw [hk];have hz : Hid (-z = (k : Int)) := (by exact (by omega : -z = (k : Int)));have hk64 : k ≤ 64 := (by omega);clear hd hp0 hnr hk;obtain ⟨x0, x1, x2⟩ := hX0.cells;go_enter Tryz.func217, Tryz.ntmps217
     go_wp2_with fail
     clear hW;refine (yI _ p _ (hx.q hG0) HQ.out).mono ?_;rintro e w1 ⟨o1, rfl, ho1, hq1⟩;have hG1 := hG0.trans hq1;have hX1 := hX0.q hq1;have hR1 := hR0.q hq1;clear x0 x1 x2;have fz := hR1.frozen;obtain ⟨r0, r1, r2⟩ := hR1.cells;obtain ⟨s5, A5, n5, c5, A6, n6, c6, rfl, -⟩ := ho1.form;go_wp2_with fail
     refine (aBV _ p⁻¹ _ k _ ho1 hz hk64 (by have := aDW p; have := HB.out; rw [aB] at *; omega)).mono ?_;rintro e w2 ⟨v1, rfl, hv, hq2⟩;have hG2 := hG1.trans hq2;have hX2 := hX1.q hq2;have hR2 := hR1.q hq2;clear fz r0 r1 r2;have fz := hR2.frozen;obtain ⟨r0, r1, r2⟩ := hR2.cells;obtain ⟨s6, B1, m1, d1, B2, m2, d2, rfl, -⟩ := hv.form;go_wp2_with fail
     obtain ⟨z0, z1, z2, hvF, hqF⟩ := Nq.store hR2 hv hG2 (Nat.le_add_right _ _);unfold put3 at z0 z1 z2 hvF hqF;refine rt3 (.int .i64 0) z0 z1 z2 ?_;exact ⟨_, rfl, hvF, hqF⟩
   ·have hd : lH p z = ((0 : Int), p ^ z.toNat) := (by unfold lH; rw [if_neg hnr, if_neg h3]);rw [hd];obtain ⟨k, hk⟩ : ∃ k : Nat, z.toNat = k := ⟨_, rfl⟩
    rw [hk];have hz : Hid (z = (k : Int)) := (by exact (by omega : z = (k : Int)));have hk64 : k ≤ 64 := (by omega);clear hd hnr hk;obtain ⟨x0, x1, x2⟩ := hX0.cells;go_enter Tryz.func217, Tryz.ntmps217
    go_wp2_with fail
    clear hW;refine (aBV _ p _ k _ (hx.q hG0) hz hk64 (by have := HB.out; rw [aB] at *; omega)).mono ?_;rintro e w1 ⟨v1, rfl, hv, hq1⟩;have hG1 := hG0.trans hq1;have hX1 := hX0.q hq1;have hR1 := hR0.q hq1;clear x0 x1 x2;have fz := hR1.frozen;obtain ⟨r0, r1, r2⟩ := hR1.cells;obtain ⟨s6, B1, m1, d1, B2, m2, d2, rfl, -⟩ := hv.form;go_wp2_with fail
    obtain ⟨z0, z1, z2, hvF, hqF⟩ := Nq.store hR1 hv hG1 (Nat.le_add_right _ _);unfold put3 at z0 z1 z2 hvF hqF;refine rt3 (.int .i64 0) z0 z1 z2 ?_;exact ⟨_, rfl, hvF, hqF⟩
theorem aHA (p : Rat) (away : Bool) : lN p away = sg (decide (p < 0)) (mP p away) := by
 unfold lN sg;by_cases h : p < 0
 ·rw [if_pos h, if_pos (decide_eq_true h)]
 ·rw [if_neg h, if_neg (by rw [decide_eq_false h]; decide)]
theorem xM {p : Rat} {away : Bool} (h : away = false ∨ p.num.natAbs % p.den = 0) : mP p away = p.num.natAbs / p.den := by
 unfold mP;have hc : ¬ (away = true ∧ ¬ p.num.natAbs % p.den = 0) := by
  rintro ⟨h1, h2⟩;rcases h with h | h
  ·rw [h] at h1; cases h1
  ·exact h2 h
 rw [if_neg hc, Nat.add_zero]
theorem aFS {p : Rat} (h : ¬ p.num.natAbs % p.den = 0) : mP p true = p.num.natAbs / p.den + 1 := by
 unfold mP;rw [if_pos ⟨rfl, h⟩]
set_option maxRecDepth 100000 in
theorem aEg (x : Value) (p : Rat) (away : Bool) (w : World) (_ : Tb w) (hx : Nq w x p) (hB : 8 * sz p + 200 ≤ LIM) : Calls Tryz.prog 218 #[x, .bool away] w fun e w' => ∃ r, e = .returned r ∧ Nq w' r ((lN p away : Int) : Rat) ∧ Q w w' := by
 obtain ⟨s1, A1, n1, c1, A2, n2, c2, rfl, E1, Z1, O1, hxt, hxb⟩ := hx.form;obtain ⟨w0, hW, hG0, hX0, hR0⟩ := lV w s1 (.slice A1 n1 c1) (.slice A2 n2 c2);have hs := aO p;have hD0 := p.den_pos;rw [aB] at hB;have b1 : 4 * (dg W64 p.num.natAbs + dg W64 p.den) + 60 ≤ LIM := by rw [aB]; omega
 have b2 : dg W64 (p.num.natAbs / p.den) + 1 ≤ LIM := by have := cZ aC (Nat.div_le_self p.num.natAbs p.den); rw [aB]; omega
 have b11 : dg W64 1 + 1 ≤ LIM := by rw [gZ aC, aB]; omega
 have HN := Lib.hid (aHA p away);have he0 : s1 = decide (p < 0) := E1.out.trans (decide_eq_decide.2 (dK p));have HE := Lib.hid he0; clear he0;clear hs hB;go_enter Tryz.func218, Tryz.ntmps218
 obtain ⟨x0, x1, x2⟩ := hX0.cells;go_wp2_with fail
 clear hW;clear x0 x1 x2;obtain ⟨x0, x1, x2⟩ := hX0.cells
 go_region_held3 (fun W => W.cell? ⟨w.heap.size, 0, none⟩ = some (.bool s1) ∧ W.cell? ⟨w.heap.size, 1, none⟩ = some (.slice A1 n1 c1) ∧ W.cell? ⟨w.heap.size, 2, none⟩ = some (.slice A2 n2 c2)) (first | exact ⟨x0, x1, x2⟩ | exact ⟨by assumption, by assumption, by assumption⟩ | go_keep) (first
  | (go_at_call 115; (with_reducible refine (pK p.num.natAbs p.den _ _ _ (hxt.q hG1) hu1 hD0 b1).mono ?_); rintro e w2 ⟨t2, t3, rfl, ht2, ht3, hq2, -, -⟩; have hG2 := hG1.trans hq2; have hX2 := hX1.q hq2; have hR2 := hR1.q hq2; obtain ⟨x0, x1, x2⟩ := hX2.cells; obtain ⟨A7, n7, c7, rfl⟩ := ht2.form; obtain ⟨A8, c8, rfl, -⟩ := ht3.parts; obtain ⟨L, hL⟩ : ∃ L, dg W64 (p.num.natAbs % p.den) = L := ⟨_, rfl⟩; rw [hL]; have HL := Lib.hid hL; clear hL)
  | (go_at_call 49; (with_reducible refine (aX _ p _ (hx.q hG0.drew)).mono ?_); rintro e w1 ⟨u1, rfl, hu1, hq1d⟩; have hq1 : Q w0 w1 := (Q.refl w0).drew.trans hq1d; have hG1 := hG0.trans hq1; have hX1 := hX0.q hq1; have hR1 := hR0.q hq1; obtain ⟨x0, x1, x2⟩ := hX1.cells; obtain ⟨A5, n5, c5, rfl⟩ := hu1.form))
 all_goals
  have hzz := pG (D := p.num.natAbs % p.den);rw [HL.out] at hzz;by_cases hr0 : p.num.natAbs % p.den = 0
  ·have hL0 : L = 0 := hzz.2 hr0;have HR0 := Lib.hid hr0; clear hr0;subst hL0;clear hzz;cases away
   ·obtain ⟨x0, x1, x2⟩ := hX2.cells;have fz := hR2.frozen;obtain ⟨r0, r1, r2⟩ := hR2.cells;go_wp2_with fail
    refine (bZ s1 _ (p.num.natAbs / p.den) _ ht2).mono ?_;rintro e w3 ⟨v5, rfl, hv5, hq3⟩;have hG3 := hG2.trans hq3;have hX3 := hX2.q hq3;have hR3 := hR2.q hq3;clear x0 x1 x2 fz r0 r1 r2;have fz := hR3.frozen;obtain ⟨r0, r1, r2⟩ := hR3.cells;obtain ⟨B1, d1, B2, d2, rfl, -, -⟩ := hv5.form;have hv := Nq.int (q := ((lN p false : Int) : Rat)) hv5 (by rw [Rat.num_intCast, HN.out, HE.out, xM (.inr HR0.out)]) (Rat.den_intCast _);generalize (decide (0 < p.num.natAbs / p.den) && s1) = s4 at *
    generalize dg W64 (p.num.natAbs / p.den) = m1 at *
    generalize dg W64 0 = m2 at *
    go_wp2_with fail
    obtain ⟨z0, z1, z2, hvF, hqF⟩ := Nq.store hR3 hv hG3 (Nat.le_add_right _ _);unfold put3 at z0 z1 z2 hvF hqF;refine rz3 z0 z1 z2 ?_;exact ⟨_, rfl, hvF, hqF⟩
   ·obtain ⟨x0, x1, x2⟩ := hX2.cells;have fz := hR2.frozen;obtain ⟨r0, r1, r2⟩ := hR2.cells;go_wp2_with fail
    refine (bZ s1 _ (p.num.natAbs / p.den) _ ht2).mono ?_;rintro e w3 ⟨v5, rfl, hv5, hq3⟩;have hG3 := hG2.trans hq3;have hX3 := hX2.q hq3;have hR3 := hR2.q hq3;clear x0 x1 x2 fz r0 r1 r2;have fz := hR3.frozen;obtain ⟨r0, r1, r2⟩ := hR3.cells;obtain ⟨B1, d1, B2, d2, rfl, -, -⟩ := hv5.form;have hv := Nq.int (q := ((lN p true : Int) : Rat)) hv5 (by rw [Rat.num_intCast, HN.out, HE.out, xM (.inr HR0.out)]) (Rat.den_intCast _);generalize (decide (0 < p.num.natAbs / p.den) && s1) = s4 at *
    generalize dg W64 (p.num.natAbs / p.den) = m1 at *
    generalize dg W64 0 = m2 at *
    go_wp2_with fail
    obtain ⟨z0, z1, z2, hvF, hqF⟩ := Nq.store hR3 hv hG3 (Nat.le_add_right _ _);unfold put3 at z0 z1 z2 hvF hqF;refine rz3 z0 z1 z2 ?_;exact ⟨_, rfl, hvF, hqF⟩
  ·have hL0 : 0 < L := Nat.pos_of_ne_zero (fun h => hr0 (hzz.1 h));have hL1 : (0 : Int) < (L : Int) := (by omega);have hL2 : decide (0 < L) = true := decide_eq_true hL0;have HR0 := Lib.hid hr0; clear hr0;clear hzz;cases away
   ·obtain ⟨x0, x1, x2⟩ := hX2.cells;have fz := hR2.frozen;obtain ⟨r0, r1, r2⟩ := hR2.cells;go_wp2_with fail
    refine (bZ s1 _ (p.num.natAbs / p.den) _ ht2).mono ?_;rintro e w3 ⟨v5, rfl, hv5, hq3⟩;have hG3 := hG2.trans hq3;have hX3 := hX2.q hq3;have hR3 := hR2.q hq3;clear x0 x1 x2 fz r0 r1 r2;have fz := hR3.frozen;obtain ⟨r0, r1, r2⟩ := hR3.cells;obtain ⟨B1, d1, B2, d2, rfl, -, -⟩ := hv5.form;have hv := Nq.int (q := ((lN p false : Int) : Rat)) hv5 (by rw [Rat.num_intCast, HN.out, HE.out, xM (.inl rfl)]) (Rat.den_intCast _);generalize (decide (0 < p.num.natAbs / p.den) && s1) = s4 at *
    generalize dg W64 (p.num.natAbs / p.den) = m1 at *
    generalize dg W64 0 = m2 at *
    go_wp2_with fail
    obtain ⟨z0, z1, z2, hvF, hqF⟩ := Nq.store hR3 hv hG3 (Nat.le_add_right _ _);unfold put3 at z0 z1 z2 hvF hqF;refine rz3 z0 z1 z2 ?_;exact ⟨_, rfl, hvF, hqF⟩
   ·go_wp2_with fail
    refine (fM 1 1 _ rfl (by decide)).mono ?_;rintro e w3 ⟨t8, rfl, ht8, hq3, -⟩;have hG3 := hG2.trans hq3;have hX3 := hX2.q hq3;have hR3 := hR2.q hq3;obtain ⟨A9, n9, c9, rfl⟩ := ht8.form;go_wp2_with fail
    refine (vI _ _ (p.num.natAbs / p.den) 1 _ (ht2.q hq3) ht8 b2 b11).mono ?_;rintro e w4 ⟨t9, rfl, ht9, hq4, -⟩;have hG4 := hG3.trans hq4;have hX4 := hX3.q hq4;have hR4 := hR3.q hq4;obtain ⟨A10, n10, c10, rfl⟩ := ht9.form;obtain ⟨x0, x1, x2⟩ := hX4.cells;have fz := hR4.frozen;obtain ⟨r0, r1, r2⟩ := hR4.cells;go_wp2_with fail
    refine (bZ s1 _ (p.num.natAbs / p.den + 1) _ ht9).mono ?_;rintro e w5 ⟨v5, rfl, hv5, hq5⟩;have hG5 := hG4.trans hq5;have hX5 := hX4.q hq5;have hR5 := hR4.q hq5;clear x0 x1 x2 fz r0 r1 r2;have fz := hR5.frozen;obtain ⟨r0, r1, r2⟩ := hR5.cells;obtain ⟨B1, d1, B2, d2, rfl, -, -⟩ := hv5.form;have hv := Nq.int (q := ((lN p true : Int) : Rat)) hv5 (by rw [Rat.num_intCast, HN.out, HE.out, aFS HR0.out]) (Rat.den_intCast _);generalize (decide (0 < p.num.natAbs / p.den + 1) && s1) = s4 at *
    generalize dg W64 (p.num.natAbs / p.den + 1) = m1 at *
    generalize dg W64 0 = m2 at *
    go_wp2_with fail
    obtain ⟨z0, z1, z2, hvF, hqF⟩ := Nq.store hR5 hv hG5 (Nat.le_add_right _ _);unfold put3 at z0 z1 z2 hvF hqF;refine rz3 z0 z1 z2 ?_;exact ⟨_, rfl, hvF, hqF⟩
set_option maxRecDepth 100000 in
theorem aHB (x : Value) (p : Rat) (w : World) (hT : Tb w) (hx : Nq w x p) (hB : 8 * sz p + 200 ≤ LIM) : Calls Tryz.prog 203 #[x] w fun e w' => ∃ r, e = .returned r ∧ Nq w' r ((p.floor : Int) : Rat) ∧ Q w w' := by
 obtain ⟨s1, A1, n1, c1, A2, n2, c2, rfl, E1, Z1, O1, hxt, hxb⟩ := hx.form;obtain ⟨w0, hW, hG0, hX0, hR0⟩ := lV w s1 (.slice A1 n1 c1) (.slice A2 n2 c2);have he0 : s1 = decide (p < 0) := E1.out.trans (decide_eq_decide.2 (dK p));have HE := Lib.hid he0; clear he0;have HB := Lib.hid hB; clear hB;obtain ⟨x0, x1, x2⟩ := hX0.cells;go_enter Tryz.func203, Tryz.ntmps203
 go_wp2_with fail
 clear hW;refine (aEg _ p s1 _ (hT.q hG0) (hx.q hG0) HB.out).mono ?_;rintro e w1 ⟨r, rfl, hv, hq1⟩;have hG1 := hG0.trans hq1;have hX1 := hX0.q hq1;have hR1 := hR0.q hq1;clear x0 x1 x2;have fz := hR1.frozen;obtain ⟨r0, r1, r2⟩ := hR1.cells;rw [HE.out, aCG] at hv;obtain ⟨s6, B1, m1, d1, B2, m2, d2, rfl, -⟩ := hv.form;go_wp2_with fail
 obtain ⟨z0, z1, z2, hvF, hqF⟩ := Nq.store hR1 hv hG1 (Nat.le_add_right _ _);unfold put3 at z0 z1 z2 hvF hqF;refine rz3 z0 z1 z2 ?_;exact ⟨_, rfl, hvF, hqF⟩
theorem aAQ {a b : Value} {x y : Bool} (h : x = y) : Ending.returned (.tuple #[a, b, .bool x]) = .returned (.tuple #[a, b, .bool y]) := by rw [h]
theorem toList_mk (l : List UInt8) : (⟨l.toArray⟩ : ByteArray).data.toList = l := rfl
theorem aHC {l : List UInt8} {c : UInt8} {k : Nat} (h : l[k]? = some c) (hn : ∀ j, j < k → l[j]? ≠ some c) : fU c l = l.take k ∧ aft c l = l.drop (k + 1) ∧ c ∈ l := by
 have hk : k < l.length := by
  rcases Nat.lt_or_ge k l.length with h1 | h1
  ·exact h1
  ·rw [List.getElem?_eq_none h1] at h; cases h
 have e : l = l.take k ++ c :: l.drop (k + 1) := by
  have h1 : l[k] = c := (by rw [List.getElem?_eq_getElem hk] at h; exact Option.some.inj h);rw [← h1, ← List.drop_eq_getElem_cons hk, List.take_append_drop]
 have hc : c ∉ l.take k := by
  intro hm;obtain ⟨j, hj, hj2⟩ := List.getElem_of_mem hm;rw [List.length_take] at hj;refine hn j (by omega) ?_;rw [List.getElem_take] at hj2;rw [List.getElem?_eq_getElem (by omega), hj2]
 have hf := aHh (s := l.drop (k + 1)) hc;rw [← e] at hf;exact ⟨hf.1, hf.2, List.mem_of_getElem? h⟩
def aEh (l : List UInt8) (c : UInt8) (w : World) (e : Ending) (w' : World) : Prop := ∃ a b : ByteArray, e = .returned (.tuple #[.string a, .string b, .bool (decide (c ∈ l))]) ∧ a.data.toList = fU c l ∧ b.data.toList = aft c l ∧ Q w w'
theorem aIZ (s : ByteArray) (c : UInt8) (w : World) (hs : s.size ≤ 9223372036854775806) : Calls Tryz.prog 144 #[.string s, .string ⟨#[c]⟩] w (aEh s.data.toList c w) := by
 have h1 := Lib.indexByte_ge s.data.toList c;have h2 := @Lib.indexByte_none s.data.toList c;have h3 := @Lib.indexByte_some s.data.toList c;have hsz := Lib.size_eq s;obtain ⟨i, hi⟩ : ∃ i, Lib.indexByte s.data.toList c = i := ⟨_, rfl⟩
 rw [hi] at h1 h2 h3;rcases (by omega : i = -1 ∨ 0 ≤ i) with rfl | h0
 ·have hn := h2 rfl;have hnm : c ∉ s.data.toList := fun hm => by
   obtain ⟨j, hj, hj2⟩ := List.getElem_of_mem hm;exact hn j (by rw [List.getElem?_eq_getElem hj, hj2])
  have HI := Lib.hid hi;clear h1 h2 h3 hn hi;obtain ⟨f1, f2⟩ := uF hnm;have HF1 := Lib.hid f1; have HF2 := Lib.hid f2; have HN := Lib.hid hnm;clear f1 f2 hnm hsz;go_enter Tryz.func144, Tryz.ntmps144
  go_wp2_with fail
  refine (Tryz.stringslite_Index_one s c _).mono ?_;rintro e w1 ⟨rfl, rfl⟩;rw [HI.out];go_wp2_with fail
  go_ret3
  exact ⟨s, ⟨#[]⟩, aAQ (decide_eq_false HN.out).symm, HF1.out.symm, HF2.out.symm, Q.refl _⟩
 ·obtain ⟨k, rfl⟩ := Int.eq_ofNat_of_zero_le h0;obtain ⟨hk, hkn⟩ := h3 rfl;obtain ⟨f1, f2, f3⟩ := aHC hk hkn;have hlt : k < s.size := by
   rw [hsz];rcases Nat.lt_or_ge k s.data.toList.length with h1 | h1
   ·exact h1
   ·rw [List.getElem?_eq_none h1] at hk; cases hk
  have HI := Lib.hid hi;have HF1 := Lib.hid f1; have HF2 := Lib.hid f2; have HF3 := Lib.hid f3; have HSZ := Lib.hid hsz;clear h1 h2 h3 hi f1 f2 f3 hk hkn hsz;have q1 : (0 : Int) ≤ (k : Int) := (by omega);have q2 : (k : Int) ≤ (s.size : Int) := (by omega);have q3 : (0 : Int) ≤ (k : Int) + 1 := (by omega);have q4 : (k : Int) + 1 ≤ (s.size : Int) := (by omega);have q5 : IntKind.i64.wrap ((k : Int) + 1) = (k : Int) + 1 := IntWalk.i64_in _ (by omega);have q6 : ((k : Int) + 1).toNat = k + 1 := (by omega);go_enter Tryz.func144, Tryz.ntmps144
  go_wp2_with fail
  refine (Tryz.stringslite_Index_one s c _).mono ?_;rintro e w1 ⟨rfl, rfl⟩;rw [HI.out];go_wp2_with fail
  go_quiet (fail)
  go_wp2_with fail
  go_ret3
  exact ⟨s.extract 0 k, s.extract (k + 1) s.size, aAQ (decide_eq_true HF3.out).symm, by rw [Lib.extract_data, HF1.out]; simp, by rw [Lib.extract_to_end, HF2.out], (Q.refl _).drewN _⟩
theorem aCZ (s : ByteArray) (c : UInt8) (w : World) (hs : s.size ≤ 9223372036854775806) : Calls Tryz.prog 88 #[.string s, .string ⟨#[c]⟩] w (aEh s.data.toList c w) := by
 obtain ⟨t, ht⟩ : ∃ t, decide (c ∈ s.data.toList) = t := ⟨_, rfl⟩
 have HT := Lib.hid ht;clear ht;go_enter Tryz.func88, Tryz.ntmps88
 go_wp2_with fail
 refine (aIZ s c _ hs).mono ?_;rintro e w1 ⟨a, b, rfl, ha, hb, hq⟩;rw [HT.out];have HA := Lib.hid ha; have HBb := Lib.hid hb;clear ha hb;go_wp2_with fail
 go_ret3
 exact ⟨a, b, aAQ HT.out.symm, HA.out, HBb.out, hq⟩
theorem aC0 (l : List UInt8) : Lib.hasPrefix l [45] = kQ l ∧ Lib.trimPrefix l [45] = unsigned l := by
 have e : Lib.hasPrefix l [45] = kQ l := by
  unfold Lib.hasPrefix kQ;cases l with
  | nil => rfl
  | cons c t =>
    simp [List.isPrefixOf];by_cases h : c = 45
    ·subst h; rfl
    ·rw [beq_eq_false_iff_ne.2 (fun h1 => h h1.symm), beq_eq_false_iff_ne.2 h]
 refine ⟨e, ?_⟩;unfold Lib.trimPrefix unsigned;rw [e];split
 ·cases l <;> rfl
 ·rfl
theorem rH (s : ByteArray) (w : World) : Calls Tryz.prog 87 #[.string s, .string ⟨#[45]⟩] w fun e w' => ∃ a : ByteArray, e = .returned (.tuple #[.string a, .bool (kQ s.data.toList)]) ∧ a.data.toList = unsigned s.data.toList ∧ a.size ≤ s.size ∧ w' = w := by
 refine (Tryz.strings_CutPrefix s ⟨#[45]⟩ w).mono ?_;rintro e w' ⟨h1, h2⟩;obtain ⟨e1, e2⟩ := aC0 s.data.toList;have e1' : Lib.hasPrefix s.data.toList (⟨#[45]⟩ : ByteArray).data.toList = kQ s.data.toList := e1;have e2' : Lib.trimPrefix s.data.toList (⟨#[45]⟩ : ByteArray).data.toList = unsigned s.data.toList := e2;rw [e1', e2'] at h1;refine ⟨_, h1, rfl, ?_, h2⟩;rw [Lib.size_eq, Lib.size_eq, toList_mk];unfold unsigned;split
 ·rw [List.length_tail]; omega
 ·exact Nat.le_refl _
theorem aEi (s : ByteArray) (l : List UInt8) (hl : s.data.toList = l) (hpos : 0 < s.size) (hA : bP l) : (s[0].toNat = 48 → decide (Row l) = ((s.size : Int) == 1)) ∧ (¬ s[0].toNat = 48 → decide (Row l) = true) := by
 have hsz := Lib.size_eq s;rw [hl] at hsz;have hh : l.head? = some s[0] := by
  rw [← hl, List.head?_eq_getElem?];have hp : 0 < s.data.toList.length := (by rw [← Lib.size_eq]; exact hpos);rw [List.getElem?_eq_getElem hp]; rfl
 have hne : l ≠ [] := fun h => by rw [h] at hh; cases hh
 constructor
 ·intro h;have h48 : s[0] = 48 := xZ h;rw [h48] at hh;by_cases h1 : s.size = 1
  ·have : l = [48] := by
    cases l with
    | nil => exact absurd rfl hne
    | cons c t =>
      simp at hh hsz;have : t = [] := List.eq_nil_of_length_eq_zero (by omega);rw [hh, this]
   rw [decide_eq_true (show Row l from ⟨hA, hne, fun _ => this⟩), h1]; rfl
  ·rw [decide_eq_false (show ¬ Row l from fun hr => h1 (by rw [hsz, hr.2.2 hh]; rfl))];exact (beq_eq_false_iff_ne.2 (by omega)).symm
 ·intro h;refine decide_eq_true ⟨hA, hne, fun h1 => absurd ?_ h⟩;rw [hh] at h1;rw [Option.some.inj h1]; rfl
theorem aBW (s : ByteArray) (w : World) : Calls Tryz.prog 89 #[.string s] w fun e w' => e = .returned (.bool (decide (Row s.data.toList))) ∧ Q w w' := by
 have hsz := Lib.size_eq s;obtain ⟨l, hl⟩ : ∃ l, s.data.toList = l := ⟨_, rfl⟩
 rw [hl] at hsz ⊢;by_cases h : bP l ∧ l ≠ []
 ·have ha : kS l = true := decide_eq_true h;have hpos : 0 < s.size := (by rw [hsz]; exact List.length_pos_iff.2 h.2);have hk := aEi s l hl hpos h.1;have HA := Lib.hid ha; have HL := Lib.hid hl; have HK := Lib.hid hk;clear ha hl h hsz hk;go_enter Tryz.func89, Tryz.ntmps89
  go_wp2_with fail
  refine (kT s _).mono ?_;rintro e w1 ⟨rfl, hq⟩;rw [HL.out, HA.out];go_wp2_with fail
  ·go_ret
   have h : (s[0].toNat : Int) = 48 := (by assumption);exact ⟨uG (HK.out.1 (by omega)).symm, hq⟩
  ·go_ret
   have h : ¬ (s[0].toNat : Int) = 48 := (by assumption);exact ⟨uG (HK.out.2 (by omega)).symm, hq⟩
 ·have ha : kS l = false := decide_eq_false h;have hr : decide (Row l) = false := decide_eq_false (fun hr => h ⟨hr.1, hr.2.1⟩);rw [hr];clear hr;have HA := Lib.hid ha; have HL := Lib.hid hl;clear ha hl h hsz;go_enter Tryz.func89, Tryz.ntmps89
  go_wp2_with fail
  refine (kT s _).mono ?_;rintro e w1 ⟨rfl, hq⟩;rw [HL.out, HA.out];go_wp2_with fail
  go_ret
  exact ⟨rfl, hq⟩
theorem aHD (N : Nat) : (dec N).length ≤ 20 * dg W64 N + 1 := by
 rw [lL];split
 ·omega
 ·have h : dg 10 N ≤ 20 * dg W64 N := by
   rw [aI (by decide), Nat.pow_mul];exact Nat.lt_of_lt_of_le (aS aC N) (Nat.pow_le_pow_left (by decide) _)
  omega
theorem aEj {t : ByteArray} {p : Rat} (h : t.data.toList = lM p) : t.size ≤ 1 := by
 rw [Lib.size_eq, h];unfold lM;split <;> decide
theorem aAR {t : ByteArray} {N : Nat} (h : t.data.toList = dec N) (hN : dg W64 N ≤ 1000000000) : t.size ≤ 20000000001 := by
 rw [Lib.size_eq, h];have := aHD N;omega
theorem kN (a b : ByteArray) : (a ++ b).data.toList = a.data.toList ++ b.data.toList := by
 simp
theorem aKj {d : Nat} (h : ¬ d = 1) : bt d = d := if_neg h
theorem aEk {a b : ByteArray} {p : Rat} (ha : a.data.toList = lM p) (hb : b.data.toList = dec p.num.natAbs) (hd : p.den = 1) : (a ++ b).data.toList = sK p := by
 rw [kN, ha, hb, aAn, if_pos hd, List.append_nil]
theorem aEl {a b c : ByteArray} {p : Rat} (ha : a.data.toList = lM p) (hb : b.data.toList = dec p.num.natAbs) (hc : c.data.toList = dec (bt p.den)) (hd : ¬ p.den = 1) : (a ++ b ++ (⟨#[47]⟩ ++ c)).data.toList = sK p := by
 rw [kN, kN, kN, ha, hb, hc, aAn, if_neg hd, aKj hd, List.append_assoc];rfl
set_option maxRecDepth 100000 in
theorem aC1 (x : Value) (p : Rat) (w : World) (hx : Nq w x p) : Calls Tryz.prog 67 #[x] w fun e w' => ∃ t : ByteArray, e = .returned (.string t) ∧ t.data.toList = lM p ∧ Q w w' := by
 obtain ⟨s1, A1, n1, c1, A2, n2, c2, rfl, E1, Z1, O1, hxt, hxb⟩ := hx.form;obtain ⟨w0, hW, hG0, hX0⟩ := aAN w s1 (.slice A1 n1 c1) (.slice A2 n2 c2);have he0 : s1 = decide (p < 0) := E1.out.trans (decide_eq_decide.2 (dK p));by_cases hp : p < 0
 ·have k0 : s1 = true := he0.trans (decide_eq_true hp);have HS := Lib.hid (if_pos hp : lM p = [45]);subst k0;clear he0 hp;obtain ⟨x0, x1, x2⟩ := hX0.cells;go_enter Tryz.func67, Tryz.ntmps67
  go_wp2_with fail
  go_ret
  exact ⟨⟨#[45]⟩, rfl, HS.out.symm, hG0⟩
 ·have k0 : s1 = false := he0.trans (decide_eq_false hp);have HS := Lib.hid (if_neg hp : lM p = []);subst k0;clear he0 hp;obtain ⟨x0, x1, x2⟩ := hX0.cells;go_enter Tryz.func67, Tryz.ntmps67
  go_wp2_with fail
  go_ret
  exact ⟨⟨#[]⟩, rfl, HS.out.symm, hG0⟩
set_option maxRecDepth 100000 in
theorem aI0 (x : Value) (p : Rat) (w : World) (hx : Nq w x p) (hB : sz p ≤ 1000000000) : Calls Tryz.prog 27 #[x] w fun e w' => ∃ t : ByteArray, e = .returned (.string t) ∧ t.data.toList = sK p ∧ Q w w' := by
 obtain ⟨s1, A1, n1, c1, A2, n2, c2, rfl, E1, Z1, O1, hxt, hxb⟩ := hx.form;obtain ⟨w0, hW, hG0, hX0⟩ := aAN w s1 (.slice A1 n1 c1) (.slice A2 n2 c2);have b1 : dg W64 p.num.natAbs ≤ 1000000000 := by have := aO p; omega
 have b2 : dg W64 (bt p.den) ≤ 1000000000 := by have := vP p; omega
 go_enter Tryz.func27, Tryz.ntmps27
 obtain ⟨x0, x1, x2⟩ := hX0.cells;go_wp2_with fail
 clear hW;clear x0 x1 x2;obtain ⟨x0, x1, x2⟩ := hX0.cells;refine wp_region_held_drew (S := fun W => W.cell? ⟨w.heap.size, 0, none⟩ = some (.bool s1) ∧ W.cell? ⟨w.heap.size, 1, none⟩ = some (.slice A1 n1 c1) ∧ W.cell? ⟨w.heap.size, 2, none⟩ = some (.slice A2 n2 c2)) (by kernel_rfl) (by exact ⟨x0, x1, x2⟩) (fun hHeld => ?_);refine wpAnyH_take (i := 0) (v := ?v0) rfl (by kernel_rfl) (by kernel_rfl) (by kernel_rfl) (fun _ _ _ h => h) (Or.inl ⟨by rfl, ?h0⟩) (by assumption) ?r0
 case h0 =>
  intro W hSw
  (try dsimp only at hSw)
  go_simp
  try (with_reducible rfl)
 try simp only [Act.put]
 try simp only [List.setIfInBounds_toArray]
 try simp only [List.set_cons_zero, List.set_cons_succ]
 refine wpAnyH_take (i := 2) (v := ?v2) rfl (by kernel_rfl) (by kernel_rfl) (by kernel_rfl) (fun _ _ _ h => h) (Or.inl ⟨by rfl, ?h2⟩) (by assumption) ?r2
 case h2 =>
  intro W hSw
  (try dsimp only at hSw)
  go_simp
  try (with_reducible rfl)
 try simp only [Act.put]
 try simp only [List.setIfInBounds_toArray]
 try simp only [List.set_cons_zero, List.set_cons_succ]
 refine wpAnyH_take (i := 3) (v := ?v3) rfl (by kernel_rfl) (by kernel_rfl) (by kernel_rfl) (fun _ _ _ h => h) (Or.inl ⟨by rfl, ?h3⟩) (by assumption) ?r3
 case h3 =>
  intro W hSw
  (try dsimp only at hSw)
  go_simp
  try (with_reducible rfl)
 try simp only [Act.put]
 try simp only [List.setIfInBounds_toArray]
 try simp only [List.set_cons_zero, List.set_cons_succ]
 refine wpAnyH_ready (rs := [1]) (by kernel_rfl) (by decide) (AllReadyH.cons rfl (fun K hK => ?_) AllReadyH.nil);go_simp
 (with_reducible refine (aC1 _ p _ (hx.q hG0.drew)).mono ?_)
 rintro e w1 ⟨ta, rfl, hta, hq1d⟩;have hq1 : Q w0 w1 := (Q.refl w0).drew.trans hq1d;have hG1 := hG0.trans hq1;have hX1 := hX0.q hq1;obtain ⟨x0, x1, x2⟩ := hX1.cells;have sa := aEj hta;have HTA := Lib.hid hta;clear hta;go_wp2_with fail
 refine hK.out _ _ (by exact ⟨by assumption, by assumption, by assumption⟩) (fun hHeld => ?_);clear hK K;try simp only [Act.put]
 try simp only [List.setIfInBounds_toArray]
 try simp only [List.set_cons_zero, List.set_cons_succ]
 refine wpAnyH_ready (rs := [4]) (by kernel_rfl) (by decide) (AllReadyH.cons rfl (fun K hK => ?_) AllReadyH.nil);go_simp
 (with_reducible refine (vM _ p.num.natAbs _ (hxt.q hG1) b1).mono ?_)
 rintro e w2 ⟨tb, rfl, htb, hq2⟩;have hG2 := hG1.trans hq2;have hX2 := hX1.q hq2;obtain ⟨x0, x1, x2⟩ := hX2.cells;have sb := aAR htb b1;have HTB := Lib.hid htb;clear htb;go_wp2_with fail
 refine hK.out _ _ (by exact ⟨by assumption, by assumption, by assumption⟩) (fun hHeld => ?_);clear hK K;try simp only [Act.put]
 try simp only [List.setIfInBounds_toArray]
 try simp only [List.set_cons_zero, List.set_cons_succ]
 refine wpAnyH_ready (rs := [5]) (by kernel_rfl) (by decide) (AllReadyH.cons rfl (fun K hK => ?_) AllReadyH.nil);go_simp
 rw [if_neg (by have := sa; have := sb; omega)];go_simp
 refine hK.out _ _ (by exact ⟨by assumption, by assumption, by assumption⟩) (fun hHeld => ?_);clear hK K;try simp only [Act.put]
 try simp only [List.setIfInBounds_toArray]
 try simp only [List.set_cons_zero, List.set_cons_succ]
 refine wpAnyH_take (i := 6) (v := ?v6) rfl (by kernel_rfl) (by kernel_rfl) (by kernel_rfl) (fun _ _ _ h => h) (Or.inl ⟨by rfl, ?h6⟩) (by assumption) ?r6
 case h6 =>
  intro W hSw
  (try dsimp only at hSw)
  go_simp
  try (with_reducible rfl)
 try simp only [Act.put]
 try simp only [List.setIfInBounds_toArray]
 try simp only [List.set_cons_zero, List.set_cons_succ]
 refine wpAnyH_done (by kernel_rfl) ?_ _;all_goals
  obtain ⟨x0, x1, x2⟩ := hX2.cells;go_wp2_with fail
  refine (eO _ p _ (hx.q hG2)).mono ?_;rintro e w3 ⟨rfl, hq3⟩;have hG3 := hG2.trans hq3;have hX3 := hX2.q hq3;clear x0 x1 x2;obtain ⟨x0, x1, x2⟩ := hX3.cells;by_cases hd : p.den = 1
  ·rw [decide_eq_true hd];have HD := Lib.hid hd; clear hd;go_wp2_with fail
   go_ret
   exact ⟨_, rfl, aEk HTA.out HTB.out HD.out, hG3⟩
  ·rw [decide_eq_false hd];have HD := Lib.hid hd; clear hd;go_wp2_with fail
   refine (vM _ (bt p.den) _ (hxb.q hG3) b2).mono ?_;rintro e w4 ⟨tc, rfl, htc, hq4⟩;have hG4 := hG3.trans hq4;have hX4 := hX3.q hq4;clear x0 x1 x2;have sc := aAR htc b2; have HTC := Lib.hid htc; clear htc;go_wp2_with fail
   go_ret
   exact ⟨_, rfl, aEl HTA.out HTB.out HTC.out HD.out, hG4⟩
set_option maxRecDepth 100000 in
theorem aEm (z : Int) (w : World) (hB : z.natAbs ≤ 1000000) : Calls Tryz.prog 229 #[.int .i64 z] w fun e w' => ∃ r, e = .returned r ∧ Nq w' r (dG z) ∧ Q w w' := by
 obtain ⟨w0, hW, hG0, hR0⟩ : ∃ W, w.alloc (.cells #[.bool false, .slice none 0 0, .slice none 0 0] 36) = W ∧ Q w W ∧ Nb W w.heap.size false (.slice none 0 0) (.slice none 0 0) := ⟨_, rfl, (Q.refl _).alloc _, Nb.new w _ _ _⟩
 by_cases hz0 : z < 0
 ·obtain ⟨k, hk⟩ : ∃ k : Nat, (-z).toNat = k := ⟨_, rfl⟩
  have hzk : z = -(k : Int) := (by omega);have hnz : -z = (k : Int) := (by omega);have hpw : dG z = dG (-(k : Int)) := (by rw [hzk]);rw [hpw];have b1 : k + 9 ≤ LIM := (by rw [aB]; omega);have b2 : -1000000 ≤ z := (by omega);obtain ⟨p1, p2⟩ := nZ k;have HP1 := Lib.hid p1; have HP2 := Lib.hid p2; clear p1 p2 hpw hk hzk hB;go_enter Tryz.func229, Tryz.ntmps229
  go_wp2_with fail
  clear hW;refine (fM 1 1 _ rfl (by decide)).mono ?_;rintro e w1 ⟨t2, rfl, ht2, hq1, -⟩;have hG1 := hG0.trans hq1;have hR1 := hR0.q hq1;obtain ⟨A6, n6, c6, rfl⟩ := ht2.form;go_wp2_with fail
  refine (xH k _ _ rfl b1).mono ?_;rintro e w2 ⟨t3, rfl, ht3, hq2, -⟩;have hG2 := hG1.trans hq2;have hR2 := hR1.q hq2;have fz := hR2.frozen;obtain ⟨r0, r1, r2⟩ := hR2.cells;obtain ⟨A7, n7, c7, rfl⟩ := ht3.form;go_wp2_with fail
  refine (bD false _ _ 1 (10 ^ k) _ (ht2.q hq2) ht3).mono ?_;rintro e w3 ⟨v5, rfl, hv5, hq3⟩;have hG3 := hG2.trans hq3;have hR3 := hR2.q hq3;clear fz r0 r1 r2;have fz := hR3.frozen;obtain ⟨r0, r1, r2⟩ := hR3.cells;obtain ⟨B1, d1, B2, d2, rfl, -, -⟩ := hv5.form;have hv := Nq.made (q := dG (-(k : Int))) hv5 HP1.out (fun _ => HP2.out);generalize (decide (0 < 1) && false) = s4 at *
  generalize dg W64 (if 1 = 0 then 0 else bt (10 ^ k)) = m2 at *
  generalize dg W64 1 = m1 at *
  go_wp2_with fail
  obtain ⟨z0, z1, z2, hvF, hqF⟩ := Nq.store hR3 hv hG3 (Nat.le_refl _);unfold put3 at z0 z1 z2 hvF hqF;refine rz3 z0 z1 z2 ?_;exact ⟨_, rfl, hvF, hqF⟩
 ·obtain ⟨k, rfl⟩ := Int.eq_ofNat_of_zero_le (show 0 ≤ z by omega);have b1 : k + 9 ≤ LIM := (by rw [aB]; omega);obtain ⟨p1, p2⟩ := nY k;have HP1 := Lib.hid p1; have HP2 := Lib.hid p2; clear p1 p2 hB;go_enter Tryz.func229, Tryz.ntmps229
  go_wp2_with fail
  clear hW;refine (xH k _ _ rfl b1).mono ?_;rintro e w1 ⟨t3, rfl, ht3, hq1, -⟩;have hG1 := hG0.trans hq1;have hR1 := hR0.q hq1;have fz := hR1.frozen;obtain ⟨r0, r1, r2⟩ := hR1.cells;obtain ⟨A7, n7, c7, rfl⟩ := ht3.form;go_wp2_with fail
  refine (bZ false _ (10 ^ k) _ ht3).mono ?_;rintro e w2 ⟨v5, rfl, hv5, hq2⟩;have hG2 := hG1.trans hq2;have hR2 := hR1.q hq2;clear fz r0 r1 r2;have fz := hR2.frozen;obtain ⟨r0, r1, r2⟩ := hR2.cells;obtain ⟨B1, d1, B2, d2, rfl, -, -⟩ := hv5.form;have hv := Nq.int (q := dG (k : Int)) hv5 HP1.out HP2.out;generalize (decide (0 < 10 ^ k) && false) = s4 at *
  generalize dg W64 (10 ^ k) = m1 at *
  generalize dg W64 0 = m2 at *
  go_wp2_with fail
  obtain ⟨z0, z1, z2, hvF, hqF⟩ := Nq.store hR2 hv hG2 (Nat.le_refl _);unfold put3 at z0 z1 z2 hvF hqF;refine rz3 z0 z1 z2 ?_;exact ⟨_, rfl, hvF, hqF⟩
theorem aBX {neg two : Bool} {f b : List UInt8} (_ : Row f) (hz : f = [48]) (h : neg = true ∨ two = true) : bJ neg f b two = (6, 0) := if_pos (.inr ⟨hz, h⟩)
theorem aGF {neg two : Bool} {f : List UInt8} (hr : Row f) (hz : f = [48] ∧ (neg = true ∨ two = true) → False) : ¬ (¬ Row f ∨ (f = [48] ∧ (neg = true ∨ two = true))) := fun h => by
 rcases h with h | h
 ·exact h hr
 ·exact hz h
theorem aAS {neg : Bool} {f b : List UInt8} (hr : Row f) (hz : f = [48] ∧ (neg = true ∨ true = true) → False) (h : ¬ Row b ∨ b = [48] ∨ b = [49]) : bJ neg f b true = (6, 0) := by
 unfold bJ;rw [if_neg (aGF hr hz), if_pos ⟨rfl, h⟩]
theorem zI {neg two : Bool} {f b : List UInt8} (hr : Row f) (hz : f = [48] ∧ (neg = true ∨ two = true) → False) (h : two = true → ¬ (¬ Row b ∨ b = [48] ∨ b = [49])) :
  bJ neg f b two = if 1000 < f.length ∨ 1000 < b.length then (3, 0) else if two = false then (0, mkQ neg (dv f) 1) else if Nat.gcd (dv f) (dv b) ≠ 1 then (6, 0) else (0, mkQ neg (dv f) (dv b)) := by
 unfold bJ;rw [if_neg (aGF hr hz), if_neg (fun h1 => h h1.1 h1.2)]
theorem tF {neg two : Bool} {f b : List UInt8} (hl : 1000 < f.length ∨ 1000 < b.length) (hr : Row f) (hz : f = [48] ∧ (neg = true ∨ two = true) → False) (h : two = true → ¬ (¬ Row b ∨ b = [48] ∨ b = [49])) : bJ neg f b two = (3, 0) := by
 rw [zI hr hz h, if_pos hl]
theorem aEn {neg : Bool} {f b : List UInt8} (hr : Row f) (hz : f = [48] ∧ (neg = true ∨ false = true) → False) (h1 : ¬ 1000 < f.length) (h2 : ¬ 1000 < b.length) : bJ neg f b false = (0, mkQ neg (dv f) 1) := by
 rw [zI hr hz (fun h => by cases h), if_neg (fun h => h.elim h1 h2), if_pos rfl]
theorem aHE {neg : Bool} {f b : List UInt8} (hr : Row f) (hz : f = [48] ∧ (neg = true ∨ true = true) → False) (h : ¬ (¬ Row b ∨ b = [48] ∨ b = [49])) (h1 : ¬ 1000 < f.length) (h2 : ¬ 1000 < b.length) (hg : Nat.gcd (dv f) (dv b) = 1) : bJ neg f b true = (0, mkQ neg (dv f) (dv b)) := by
 rw [zI hr hz (fun _ => h), if_neg (fun h => h.elim h1 h2), if_neg (by decide), if_neg (fun h => h hg)]
theorem aI1 {neg : Bool} {f b : List UInt8} (hr : Row f) (hz : f = [48] ∧ (neg = true ∨ true = true) → False) (h : ¬ (¬ Row b ∨ b = [48] ∨ b = [49])) (h1 : ¬ 1000 < f.length) (h2 : ¬ 1000 < b.length) (hg : ¬ Nat.gcd (dv f) (dv b) = 1) : bJ neg f b true = (6, 0) := by
 rw [zI hr hz (fun _ => h), if_neg (fun h => h.elim h1 h2), if_neg (by decide), if_pos hg]
set_option maxRecDepth 100000 in
theorem aHF (s : ByteArray) (w : World) (hT : Tb w) (hs : s.size ≤ 9223372036854775806) : Calls Tryz.prog 34 #[.string s] w fun e w' => ∃ r, e = .returned (.tuple #[r, .int .i64 (mF s.data.toList).1]) ∧ Nq w' r (mF s.data.toList).2 ∧ Q w w' := by
 obtain ⟨w0, hW, hG0, hR0⟩ : ∃ W, w.alloc (.cells #[.bool false, .slice none 0 0, .slice none 0 0] 36) = W ∧ Q w W ∧ Nb W w.heap.size false (.slice none 0 0) (.slice none 0 0) := ⟨_, rfl, (Q.refl _).alloc _, Nb.new w _ _ _⟩
 obtain ⟨neg, hneg⟩ : ∃ neg, kQ s.data.toList = neg := ⟨_, rfl⟩
 obtain ⟨two, htwo⟩ : ∃ two, decide (47 ∈ unsigned s.data.toList) = two := ⟨_, rfl⟩
 obtain ⟨f, hf⟩ : ∃ f, fU 47 (unsigned s.data.toList) = f := ⟨_, rfl⟩
 obtain ⟨b, hb⟩ : ∃ b, aft 47 (unsigned s.data.toList) = b := ⟨_, rfl⟩
 have hb2 : two = false → b = [] := fun h => by rw [← hb]; exact (uF (of_decide_eq_false (htwo.trans h))).2
 have hP : mF s.data.toList = bJ neg f b two := by unfold mF; rw [hneg, htwo, hf, hb]
 have HP := Lib.hid hP; have HN := Lib.hid hneg; have HT2 := Lib.hid htwo; have HF := Lib.hid hf; have HBb := Lib.hid hb; have HB2 := Lib.hid hb2;clear hP hneg htwo hf hb hb2;go_enter Tryz.func34, Tryz.ntmps34
 go_wp2_with fail
 clear hW;refine (rH s _).mono ?_;rintro e w90 ⟨a, rfl, ha, hsz, rfl⟩;rw [HN.out];have HA := Lib.hid ha; clear ha;go_wp2_with fail
 refine (aCZ a 47 _ (by omega)).mono ?_;rintro e w1 ⟨fa, fb, rfl, hfa, hfb, hq1⟩;have hG1 := hG0.trans hq1;have hR1 := hR0.q hq1;rw [HA.out] at hfa hfb ⊢;rw [HT2.out];rw [HF.out] at hfa;rw [HBb.out] at hfb;have la : fa.size = f.length := by rw [Lib.size_eq, hfa]
 have lb : fb.size = b.length := by rw [Lib.size_eq, hfb]
 have ta : fa.toList = f := (ByteArray.toList_eq _).trans hfa;have tb : fb.toList = b := (ByteArray.toList_eq _).trans hfb;have HFA := Lib.hid hfa; have HFB := Lib.hid hfb; have LA := Lib.hid la; have LB := Lib.hid lb; have TA := Lib.hid ta; have TB := Lib.hid tb; clear hfa hfb la lb ta tb;go_wp2_with fail
 refine (aBW fa _).mono ?_;rintro e w2 ⟨rfl, hq2⟩;have hG2 := hG1.trans hq2;have hR2 := hR1.q hq2;rw [HFA.out];by_cases hr : Row f
 ·rw [decide_eq_true hr];by_cases hz : f = [48]
  ·have tz0 : fa.toList = [48] := TA.out.trans hz;have HZ := Lib.hid hz; clear hz;cases neg
   ·cases two
    ·have hbn : b = [] := HB2.out rfl;have hfb0 : ¬ (1000 : Int) < (fb.size : Int) := (by rw [LB.out, hbn]; decide);have HBN := Lib.hid hbn; clear hbn;by_cases hl : 1000 < f.length
     ·have hl2 : (1000 : Int) < (fa.size : Int) := (by rw [LA.out]; omega);have HLL := Lib.hid hl; clear hl;have fz := hR2.frozen;obtain ⟨r0, r1, r2⟩ := hR2.cells;go_wp2_with fail
      have hv := bH w2;obtain ⟨z0, z1, z2, hvF, hqF⟩ := Nq.store hR2 hv hG2 (Nat.le_refl _);unfold put3 at z0 z1 z2 hvF hqF;refine rt3 (.int .i64 3) z0 z1 z2 ?_;have hres : bJ false f b false = ((3 : Int), (0 : Rat)) := tF (.inl HLL.out) hr (fun h => by rcases h.2 with h | h <;> cases h) (fun h => by cases h);rw [HP.out, hres];exact ⟨_, rfl, hvF, hqF⟩
     ·have hl2 : ¬ (1000 : Int) < (fa.size : Int) := (by rw [LA.out]; omega);have hsf : fa.size + 100 ≤ LIM := (by rw [LA.out, aB]; omega);have HLL := Lib.hid hl; clear hl;go_wp2_with fail
      refine (gG fa _ (by rw [HFA.out]; exact hr.1) hsf).mono ?_;rintro e w3 ⟨t1, rfl, ht1, hq3, -⟩;have hG3 := hG2.trans hq3;have hR3 := hR2.q hq3;have fz := hR3.frozen;obtain ⟨r0, r1, r2⟩ := hR3.cells;rw [HFA.out] at ht1;obtain ⟨A5, n5, c5, rfl⟩ := ht1.form;go_wp2_with fail
      refine (bZ false _ (dv f) _ ht1).mono ?_;rintro e w4 ⟨v5, rfl, hv5, hq4⟩;have hG4 := hG3.trans hq4;have hR4 := hR3.q hq4;clear fz r0 r1 r2;have fz := hR4.frozen;obtain ⟨r0, r1, r2⟩ := hR4.cells;obtain ⟨B1, d1, B2, d2, rfl, -, -⟩ := hv5.form;have hv := Nq.int (q := mkQ false (dv f) 1) hv5 ((jJ (by decide) (Nat.gcd_one_right _)).1) ((jJ (by decide) (Nat.gcd_one_right _)).2);generalize (decide (0 < dv f) && false) = s4 at *
      generalize dg W64 (dv f) = m1 at *
      generalize dg W64 0 = m2 at *
      go_wp2_with fail
      obtain ⟨z0, z1, z2, hvF, hqF⟩ := Nq.store hR4 hv hG4 (Nat.le_refl _);unfold put3 at z0 z1 z2 hvF hqF;refine rt3 (.int .i64 0) z0 z1 z2 ?_;have hres : bJ false f b false = ((0 : Int), (mkQ false (dv f) 1 : Rat)) := aEn hr (fun h => by rcases h.2 with h | h <;> cases h) HLL.out (by rw [HBN.out]; decide);rw [HP.out, hres];exact ⟨_, rfl, hvF, hqF⟩
    ·have fz := hR2.frozen;obtain ⟨r0, r1, r2⟩ := hR2.cells;go_wp2_with fail
     have hv := bH w2;obtain ⟨z0, z1, z2, hvF, hqF⟩ := Nq.store hR2 hv hG2 (Nat.le_refl _);unfold put3 at z0 z1 z2 hvF hqF;refine rt3 (.int .i64 6) z0 z1 z2 ?_;have hres : bJ false f b true = ((6 : Int), (0 : Rat)) := aBX hr HZ.out (.inr rfl);rw [HP.out, hres];exact ⟨_, rfl, hvF, hqF⟩
   ·have fz := hR2.frozen;obtain ⟨r0, r1, r2⟩ := hR2.cells;go_wp2_with fail
    have hv := bH w2;obtain ⟨z0, z1, z2, hvF, hqF⟩ := Nq.store hR2 hv hG2 (Nat.le_refl _);unfold put3 at z0 z1 z2 hvF hqF;refine rt3 (.int .i64 6) z0 z1 z2 ?_;have hres : bJ true f b two = ((6 : Int), (0 : Rat)) := aBX hr HZ.out (.inl rfl);rw [HP.out, hres];exact ⟨_, rfl, hvF, hqF⟩
  ·have tz0 : ¬ fa.toList = [48] := fun h => hz (TA.out.symm.trans h);have tc : (fa.toList == [48]) = false := beq_eq_false_iff_ne.2 tz0;have HZ := Lib.hid hz; clear hz;cases two
   ·have hbn : b = [] := HB2.out rfl;have hfb0 : ¬ (1000 : Int) < (fb.size : Int) := (by rw [LB.out, hbn]; decide);have HBN := Lib.hid hbn; clear hbn;by_cases hl : 1000 < f.length
    ·have hl2 : (1000 : Int) < (fa.size : Int) := (by rw [LA.out]; omega);have HLL := Lib.hid hl; clear hl;have fz := hR2.frozen;obtain ⟨r0, r1, r2⟩ := hR2.cells;go_wp2_with fail
     have hv := bH w2;obtain ⟨z0, z1, z2, hvF, hqF⟩ := Nq.store hR2 hv hG2 (Nat.le_refl _);unfold put3 at z0 z1 z2 hvF hqF;refine rt3 (.int .i64 3) z0 z1 z2 ?_;have hres : bJ neg f b false = ((3 : Int), (0 : Rat)) := tF (.inl HLL.out) hr (fun h => HZ.out h.1) (fun h => by cases h);rw [HP.out, hres];exact ⟨_, rfl, hvF, hqF⟩
    ·have hl2 : ¬ (1000 : Int) < (fa.size : Int) := (by rw [LA.out]; omega);have hsf : fa.size + 100 ≤ LIM := (by rw [LA.out, aB]; omega);have HLL := Lib.hid hl; clear hl;go_wp2_with fail
     refine (gG fa _ (by rw [HFA.out]; exact hr.1) hsf).mono ?_;rintro e w3 ⟨t1, rfl, ht1, hq3, -⟩;have hG3 := hG2.trans hq3;have hR3 := hR2.q hq3;have fz := hR3.frozen;obtain ⟨r0, r1, r2⟩ := hR3.cells;rw [HFA.out] at ht1;obtain ⟨A5, n5, c5, rfl⟩ := ht1.form;go_wp2_with fail
     refine (bZ neg _ (dv f) _ ht1).mono ?_;rintro e w4 ⟨v5, rfl, hv5, hq4⟩;have hG4 := hG3.trans hq4;have hR4 := hR3.q hq4;clear fz r0 r1 r2;have fz := hR4.frozen;obtain ⟨r0, r1, r2⟩ := hR4.cells;obtain ⟨B1, d1, B2, d2, rfl, -, -⟩ := hv5.form;have hv := Nq.int (q := mkQ neg (dv f) 1) hv5 ((jJ (by decide) (Nat.gcd_one_right _)).1) ((jJ (by decide) (Nat.gcd_one_right _)).2);generalize (decide (0 < dv f) && neg) = s4 at *
     generalize dg W64 (dv f) = m1 at *
     generalize dg W64 0 = m2 at *
     go_wp2_with fail
     obtain ⟨z0, z1, z2, hvF, hqF⟩ := Nq.store hR4 hv hG4 (Nat.le_refl _);unfold put3 at z0 z1 z2 hvF hqF;refine rt3 (.int .i64 0) z0 z1 z2 ?_;have hres : bJ neg f b false = ((0 : Int), (mkQ neg (dv f) 1 : Rat)) := aEn hr (fun h => HZ.out h.1) HLL.out (by rw [HBN.out]; decide);rw [HP.out, hres];exact ⟨_, rfl, hvF, hqF⟩
   ·go_wp2_with fail
    refine (aBW fb _).mono ?_;rintro e w3 ⟨rfl, hq3⟩;have hG3 := hG2.trans hq3;have hR3 := hR2.q hq3;rw [HFB.out];by_cases hr2 : Row b
    ·rw [decide_eq_true hr2];by_cases hb0 : b = [48]
     ·have tb0 : fb.toList = [48] := TB.out.trans hb0;have HB0 := Lib.hid hb0; clear hb0;have fz := hR3.frozen;obtain ⟨r0, r1, r2⟩ := hR3.cells;go_wp2_with fail
      have hv := bH w3;obtain ⟨z0, z1, z2, hvF, hqF⟩ := Nq.store hR3 hv hG3 (Nat.le_refl _);unfold put3 at z0 z1 z2 hvF hqF;refine rt3 (.int .i64 6) z0 z1 z2 ?_;have hres : bJ neg f b true = ((6 : Int), (0 : Rat)) := aAS hr (fun h => HZ.out h.1) (.inr (.inl HB0.out));rw [HP.out, hres];exact ⟨_, rfl, hvF, hqF⟩
     ·have tb0 : ¬ fb.toList = [48] := fun h => hb0 (TB.out.symm.trans h);have tc0 : (fb.toList == [48]) = false := beq_eq_false_iff_ne.2 tb0;by_cases hb1 : b = [49]
      ·have tb1 : fb.toList = [49] := TB.out.trans hb1;have HB0 := Lib.hid hb1; clear hb1 hb0 tb0;have fz := hR3.frozen;obtain ⟨r0, r1, r2⟩ := hR3.cells;go_wp2_with fail
       have hv := bH w3;obtain ⟨z0, z1, z2, hvF, hqF⟩ := Nq.store hR3 hv hG3 (Nat.le_refl _);unfold put3 at z0 z1 z2 hvF hqF;refine rt3 (.int .i64 6) z0 z1 z2 ?_;have hres : bJ neg f b true = ((6 : Int), (0 : Rat)) := aAS hr (fun h => HZ.out h.1) (.inr (.inr HB0.out));rw [HP.out, hres];exact ⟨_, rfl, hvF, hqF⟩
      ·have tb1 : ¬ fb.toList = [49] := fun h => hb1 (TB.out.symm.trans h);have tc1 : (fb.toList == [49]) = false := beq_eq_false_iff_ne.2 tb1;have hok : Hid (¬ (¬ Row b ∨ b = [48] ∨ b = [49])) := fun h => h.elim (fun h => h hr2) (fun h => h.elim hb0 hb1);have HB00 := Lib.hid hb0; clear hb0 hb1;by_cases hl : 1000 < f.length
       ·have hl2 : (1000 : Int) < (fa.size : Int) := (by rw [LA.out]; omega);have HLL := Lib.hid hl; clear hl;have fz := hR3.frozen;obtain ⟨r0, r1, r2⟩ := hR3.cells;go_wp2_with fail
        have hv := bH w3;obtain ⟨z0, z1, z2, hvF, hqF⟩ := Nq.store hR3 hv hG3 (Nat.le_refl _);unfold put3 at z0 z1 z2 hvF hqF;refine rt3 (.int .i64 3) z0 z1 z2 ?_;have hres : bJ neg f b true = ((3 : Int), (0 : Rat)) := tF (.inl HLL.out) hr (fun h => HZ.out h.1) (fun _ => hok.out);rw [HP.out, hres];exact ⟨_, rfl, hvF, hqF⟩
       ·have hl2 : ¬ (1000 : Int) < (fa.size : Int) := (by rw [LA.out]; omega);have hsf : fa.size + 100 ≤ LIM := (by rw [LA.out, aB]; omega);have HLL := Lib.hid hl; clear hl;by_cases hl3 : 1000 < b.length
        ·have hl4 : (1000 : Int) < (fb.size : Int) := (by rw [LB.out]; omega);have HL3 := Lib.hid hl3; clear hl3;have fz := hR3.frozen;obtain ⟨r0, r1, r2⟩ := hR3.cells;go_wp2_with fail
         have hv := bH w3;obtain ⟨z0, z1, z2, hvF, hqF⟩ := Nq.store hR3 hv hG3 (Nat.le_refl _);unfold put3 at z0 z1 z2 hvF hqF;refine rt3 (.int .i64 3) z0 z1 z2 ?_;have hres : bJ neg f b true = ((3 : Int), (0 : Rat)) := tF (.inr HL3.out) hr (fun h => HZ.out h.1) (fun _ => hok.out);rw [HP.out, hres];exact ⟨_, rfl, hvF, hqF⟩
        ·have hl4 : ¬ (1000 : Int) < (fb.size : Int) := (by rw [LB.out]; omega);have hsb : fb.size + 100 ≤ LIM := (by rw [LB.out, aB]; omega);have HL3 := Lib.hid hl3; clear hl3;go_wp2_with fail
         refine (gG fa _ (by rw [HFA.out]; exact hr.1) hsf).mono ?_;rintro e w4 ⟨t1, rfl, ht1, hq4, -⟩;have hG4 := hG3.trans hq4;have hR4 := hR3.q hq4;rw [HFA.out] at ht1;obtain ⟨A5, n5, c5, rfl⟩ := ht1.form;go_wp2_with fail
         refine (gG fb _ (by rw [HFB.out]; exact hr2.1) hsb).mono ?_;rintro e w5 ⟨t2, rfl, ht2, hq5, -⟩;have hG5 := hG4.trans hq5;have hR5 := hR4.q hq5;rw [HFB.out] at ht2;obtain ⟨A6, n6, c6, rfl⟩ := ht2.form;have d1 := aCF hr.1 (Nat.le_of_not_lt HLL.out);have d2 := aCF hr2.1 (Nat.le_of_not_lt HL3.out);have hp1 : 0 < dv f := Row.pos hr (HZ.out);have hp2 : 0 < dv b := Row.pos hr2 HB00.out;have hbd : 8 * (dg W64 (dv f) + dg W64 (dv b)) + 80 ≤ LIM := (by rw [aB]; omega);clear d1 d2;go_wp2_with fail
         refine (jL (dv f) (dv b) _ _ _ (hT.q hG5) (ht1.q hq5) ht2 hp1 hp2 hbd).mono ?_;rintro e w6 ⟨t3, rfl, ht3, hq6, -⟩;have hG6 := hG5.trans hq6;have hR6 := hR5.q hq6;obtain ⟨A7, n7, c7, rfl⟩ := ht3.form;go_wp2_with fail
         refine (oK _ _ _ ht3).mono ?_;rintro e w91 ⟨rfl, rfl⟩;by_cases hg : Nat.gcd (dv f) (dv b) = 1
         ·rw [decide_eq_true hg];have HGC := Lib.hid hg; clear hg;go_wp2_with fail
          refine (bD neg _ _ (dv f) (dv b) _ ((ht1.q hq5).q hq6) (ht2.q hq6)).mono ?_;rintro e w7 ⟨v5, rfl, hv5, hq7⟩;have hG7 := hG6.trans hq7;have hR7 := hR6.q hq7;have fz := hR7.frozen;obtain ⟨r0, r1, r2⟩ := hR7.cells;obtain ⟨B1, d1, B2, d2, rfl, -, -⟩ := hv5.form;have hv := Nq.made (q := mkQ neg (dv f) (dv b)) hv5 ((jJ hp2 HGC.out).1) (fun _ => (jJ hp2 HGC.out).2);generalize (decide (0 < dv f) && neg) = s4 at *
          generalize dg W64 (if dv f = 0 then 0 else bt (dv b)) = m2 at *
          generalize dg W64 (dv f) = m1 at *
          go_wp2_with fail
          obtain ⟨z0, z1, z2, hvF, hqF⟩ := Nq.store hR7 hv hG7 (Nat.le_refl _);unfold put3 at z0 z1 z2 hvF hqF;refine rt3 (.int .i64 0) z0 z1 z2 ?_;have hres : bJ neg f b true = ((0 : Int), (mkQ neg (dv f) (dv b) : Rat)) := aHE hr (fun h => HZ.out h.1) hok.out HLL.out HL3.out HGC.out;rw [HP.out, hres];exact ⟨_, rfl, hvF, hqF⟩
         ·rw [decide_eq_false hg];have HGC := Lib.hid hg; clear hg;have fz := hR6.frozen;obtain ⟨r0, r1, r2⟩ := hR6.cells;go_wp2_with fail
          have hv := bH w6;obtain ⟨z0, z1, z2, hvF, hqF⟩ := Nq.store hR6 hv hG6 (Nat.le_refl _);unfold put3 at z0 z1 z2 hvF hqF;refine rt3 (.int .i64 6) z0 z1 z2 ?_;have hres : bJ neg f b true = ((6 : Int), (0 : Rat)) := aI1 hr (fun h => HZ.out h.1) hok.out HLL.out HL3.out HGC.out;rw [HP.out, hres];exact ⟨_, rfl, hvF, hqF⟩
    ·rw [decide_eq_false hr2];have fz := hR3.frozen;obtain ⟨r0, r1, r2⟩ := hR3.cells;go_wp2_with fail
     have hv := bH w3;obtain ⟨z0, z1, z2, hvF, hqF⟩ := Nq.store hR3 hv hG3 (Nat.le_refl _);unfold put3 at z0 z1 z2 hvF hqF;refine rt3 (.int .i64 6) z0 z1 z2 ?_;have hres : bJ neg f b true = ((6 : Int), (0 : Rat)) := aAS hr (fun h => HZ.out h.1) (.inl hr2);rw [HP.out, hres];exact ⟨_, rfl, hvF, hqF⟩
 ·rw [decide_eq_false hr];have fz := hR2.frozen;obtain ⟨r0, r1, r2⟩ := hR2.cells;go_wp2_with fail
  have hv := bH w2;obtain ⟨z0, z1, z2, hvF, hqF⟩ := Nq.store hR2 hv hG2 (Nat.le_refl _);unfold put3 at z0 z1 z2 hvF hqF;refine rt3 (.int .i64 6) z0 z1 z2 ?_;have hres : bJ neg f b two = ((6 : Int), (0 : Rat)) := if_pos (.inl hr);rw [HP.out, hres];exact ⟨_, rfl, hvF, hqF⟩
end Go.Proofs.YtcplpghmbahjdaaGreatDoor
