/- ValueIncludes (a part of the proof): results of numbers are in the results of their spans. No condition. -/
import Derived.Test.YtgpacgadpnpjjaaGreatDoorQn17
set_option maxHeartbeats 6000000
set_option maxRecDepth 100000
namespace Go.Proofs.YtgpacgadpnpjjaaGreatDoor
open Go.RowKit
open Ma Me
theorem aDE {n : Nat} : n ≠ n + 1 + 1 := by omega
theorem aDF {n : Nat} : n + 1 ≠ n + 1 + 1 := by omega
theorem oV {n : Nat} : n ≠ n + 1 := by omega
theorem dX {w : World} {g b o : Nat} {s t u : Value} (h : b ≠ g) : (((w.setCell ⟨g, 0, none⟩ s).setCell ⟨g, 1, none⟩ t).setCell ⟨g, 2, none⟩ u).cell? ⟨b, o, none⟩ = w.cell? ⟨b, o, none⟩ := by
 rw [World.cell?_setCell_other _ _ _ _ (by intro e; cases e; exact h rfl), World.cell?_setCell_other _ _ _ _ (by intro e; cases e; exact h rfl), World.cell?_setCell_other _ _ _ _ (by intro e; cases e; exact h rfl)]
theorem aCq (p : Rat) : sz (gD p) = sz p := by
 unfold gD; split
 ·exact nP p
 ·rfl
theorem qO (q : Rat) : (gD q).num = q.num.natAbs ∧ (gD q).den = q.den := by
 unfold gD;by_cases h : q < 0
 ·have h1 := (bG q).2 h;rw [if_pos h, Rat.neg_num, Rat.neg_den];exact ⟨by omega, rfl⟩
 ·have h1 : ¬ q.num < 0 := fun h2 => h ((bG q).1 h2);rw [if_neg h];exact ⟨by omega, rfl⟩
theorem aCr (v : Value) (q : Rat) (w : World) (hv : Nq w v q) : Calls Tryz.prog 100 #[v] w fun e w' => ∃ r, e = .returned r ∧ Nq w' r (gD q) ∧ Q w w' := by
 refine (aFg v _ _ _ w hv).mono ?_;rintro e w' ⟨r, h1, h2, h3⟩;refine ⟨r, h1, ?_, h3⟩;unfold Nq;rw [(qO q).1, (qO q).2, Int.natAbs_natCast, decide_eq_false (by omega)];exact h2
def mI (p q : Rat) : Int × Rat := if q = 0 then (8, 0) else (0, p * q⁻¹)
theorem aID (x y : Value) (p q : Rat) (w : World) (hT : Tb w) (hx : Nq w x p) (hy : Nq w y q) (hB : 64 * (sz p + sz q) + 400 ≤ LIM) : Calls Tryz.prog 65 #[x, y] w fun e w' => ∃ r, e = .returned r ∧ Nq w' r (p - q) ∧ Q w w' := by
 obtain ⟨s1, A1, n1, c1, A2, n2, c2, rfl, E1, Z1, O1, hxt, hxb⟩ := hx.form;obtain ⟨s2, A3, n3, c3, A4, n4, c4, rfl, E2, Z2, O2, hyt, hyb⟩ := hy.form;obtain ⟨w0, hW, hG0, hX0, hY0, hR0⟩ := vP w s1 (.slice A1 n1 c1) (.slice A2 n2 c2) s2 (.slice A3 n3 c3) (.slice A4 n4 c4);have HB := Lib.hid hB; clear hB;obtain ⟨x0, x1, x2⟩ := hX0.cells;obtain ⟨y0, y1, y2⟩ := hY0.cells;go_enter Tryz.func65, Tryz.ntmps65
 go_wp2_with fail
 clear hW;clear x0 x1 x2 y0 y1 y2;obtain ⟨x0, x1, x2⟩ := hX0.cells;obtain ⟨y0, y1, y2⟩ := hY0.cells
 go_region_held3 (fun W => W.cell? ⟨w.heap.size, 0, none⟩ = some (.bool s1) ∧ W.cell? ⟨w.heap.size, 1, none⟩ = some (.slice A1 n1 c1) ∧ W.cell? ⟨w.heap.size, 2, none⟩ = some (.slice A2 n2 c2) ∧ W.cell? ⟨w.heap.size + 1, 0, none⟩ = some (.bool s2) ∧ W.cell? ⟨w.heap.size + 1, 1, none⟩ = some (.slice A3 n3 c3) ∧ W.cell? ⟨w.heap.size + 1, 2, none⟩ = some (.slice A4 n4 c4)) (first | exact ⟨x0, x1, x2, y0, y1, y2⟩ | exact ⟨by assumption, by assumption, by assumption, by assumption, by assumption, by assumption⟩ | exact ⟨(dX aDE).trans (by assumption), (dX aDE).trans (by assumption), (dX aDE).trans (by assumption), (dX aDF).trans (by assumption), (dX aDF).trans (by assumption), (dX aDF).trans (by assumption)⟩ | go_keep) (first
  | (go_at_call 64; refine (aIu _ _ p (-q) _ (hT.q hG1) (hx.q hG1) ho1 (show 64 * (sz p + sz (-q)) + 400 ≤ LIM by rw [nP]; exact HB.out)).mono ?_; rintro e w2 ⟨v1, rfl, hv, hq2⟩; have hG2 := hG1.trans hq2; have hX2 := hX1.q hq2; have hY2 := hY1.q hq2; have hR2 := hR1.q hq2; obtain ⟨x0, x1, x2⟩ := hX2.cells; obtain ⟨y0, y1, y2⟩ := hY2.cells; have fz := hR2.frozen; obtain ⟨r0, r1, r2⟩ := hR2.cells; rw [← Rat.sub_eq_add_neg] at hv; obtain ⟨s6, B1, m1, d1, B2, m2, d2, rfl, -⟩ := hv.form)
  | (go_at_call 137; refine (aH4 _ q _ (hy.q hG0.drew)).mono ?_; rintro e w1 ⟨o1, rfl, ho1, hq1d⟩; have hq1 : Q w0 w1 := (Q.refl w0).drew.trans hq1d; have hG1 := hG0.trans hq1; have hX1 := hX0.q hq1; have hY1 := hY0.q hq1; have hR1 := hR0.q hq1; obtain ⟨x0, x1, x2⟩ := hX1.cells; obtain ⟨y0, y1, y2⟩ := hY1.cells; obtain ⟨s5, A5, n5, c5, A6, n6, c6, rfl, -⟩ := ho1.form))
 all_goals
  go_wp2_with fail
  obtain ⟨z0, z1, z2, hvF, hqF⟩ := Nq.store hR2 hv hG2 (by exact Nat.le_add_right_of_le (Nat.le_add_right _ _));unfold put3 at z0 z1 z2 hvF hqF;refine bodyPost_ret (v := .agg #[.bool s6, .slice B1 m1 d1, .slice B2 m2 d2]) (by simp [results, Tryz.results65, go_sem, z0, z1, z2]) rfl ?_;exact ⟨_, rfl, hvF, hqF⟩
theorem mJ (x : Value) (p : Rat) (w : World) (hx : Nq w x p) : Calls Tryz.prog 93 #[x] w fun e w' => e = .returned (.int .i64 (sn p)) ∧ Q w w' := by
 obtain ⟨s1, A1, n1, c1, A2, n2, c2, rfl, E1, Z1, O1, hxt, hxb⟩ := hx.form;obtain ⟨w0, hW, hG0, hX0⟩ := kM w s1 (.slice A1 n1 c1) (.slice A2 n2 c2);obtain ⟨x0, x1, x2⟩ := hX0.cells;rcases dF p with ⟨hp, e⟩ | ⟨hp, e⟩ | ⟨hp, e⟩
 ·rw [e];have k0 : s1 = true := (by rw [E1.out]; exact decide_eq_true ((bG p).2 hp));subst k0;clear e hp;go_enter Tryz.func93, Tryz.ntmps93
  go_wp2_with fail
  go_ret
  exact ⟨rfl, hG0⟩
 ·rw [e];have k0 : s1 = false := (by rw [E1.out]; exact decide_eq_false (fun h => by have := (bG p).1 h; grind));subst k0;have k1 : ((n1 : Int) == 0) = true := (by rw [Z1.out.2 hp]; rfl);clear e hp;go_enter Tryz.func93, Tryz.ntmps93
  go_wp2_with fail
  go_ret
  exact ⟨rfl, hG0⟩
 ·rw [e];have k0 : s1 = false := (by rw [E1.out]; exact decide_eq_false (fun h => by have := (bG p).1 h; grind));subst k0;have k1 : ((n1 : Int) == 0) = false := beq_eq_false_iff_ne.2 (fun h => by have := Z1.out.1 (by omega); grind);clear e hp;go_enter Tryz.func93, Tryz.ntmps93
  go_wp2_with fail
  go_ret
  exact ⟨rfl, hG0⟩
theorem aDS (x y : Value) (p q : Rat) (w : World) (hT : Tb w) (hx : Nq w x p) (hy : Nq w y q) (hB : 16 * (sz p + sz q) + 200 ≤ LIM) : Calls Tryz.prog 67 #[x, y] w fun e w' => ∃ r, e = .returned (.tuple #[r, .int .i64 (mI p q).1]) ∧ Nq w' r (mI p q).2 ∧ Q w w' := by
 obtain ⟨s1, A1, n1, c1, A2, n2, c2, rfl, E1, Z1, O1, hxt, hxb⟩ := hx.form;obtain ⟨s2, A3, n3, c3, A4, n4, c4, rfl, E2, Z2, O2, hyt, hyb⟩ := hy.form;obtain ⟨w0, hW, hG0, hX0, hY0, hR0⟩ := vP w s1 (.slice A1 n1 c1) (.slice A2 n2 c2) s2 (.slice A3 n3 c3) (.slice A4 n4 c4);have HB := Lib.hid hB; clear hB;by_cases hq0 : q = 0
 ·have k0 : ((n3 : Int) == 0) = true := (by rw [Z2.out.2 hq0]; rfl);have hd : mI p q = ((8 : Int), (0 : Rat)) := if_pos hq0;rw [hd];have hv := bP w0;clear hd hq0;obtain ⟨y0, y1, y2⟩ := hY0.cells;have fz := hR0.frozen;obtain ⟨r0, r1, r2⟩ := hR0.cells;go_enter Tryz.func67, Tryz.ntmps67
  go_wp2_with fail
  clear hW;obtain ⟨z0, z1, z2, hvF, hqF⟩ := Nq.store hR0 hv hG0 (by exact Nat.le_add_right_of_le (Nat.le_add_right _ _));unfold put3 at z0 z1 z2 hvF hqF;refine bodyPost_ret (v := .tuple #[.agg #[.bool false, .slice none 0 0, .slice none 0 0], .int .i64 8]) (by simp [results, Tryz.results67, go_sem, z0, z1, z2]) rfl ?_;exact ⟨_, rfl, hvF, hqF⟩
 ·have k0 : ((n3 : Int) == 0) = false := beq_eq_false_iff_ne.2 (fun h => hq0 (Z2.out.1 (by omega)));have hd : mI p q = ((0 : Int), p * q⁻¹) := if_neg hq0;rw [hd];have HQ := Lib.hid (fun h => hq0 (Rat.num_eq_zero.1 h) : q.num ≠ 0);clear hd hq0;obtain ⟨x0, x1, x2⟩ := hX0.cells;obtain ⟨y0, y1, y2⟩ := hY0.cells;go_enter Tryz.func67, Tryz.ntmps67
  go_wp2_with fail
  clear hW k0;clear x0 x1 x2 y0 y1 y2;obtain ⟨x0, x1, x2⟩ := hX0.cells;obtain ⟨y0, y1, y2⟩ := hY0.cells
  go_region_held3 (fun W => W.cell? ⟨w.heap.size, 0, none⟩ = some (.bool s1) ∧ W.cell? ⟨w.heap.size, 1, none⟩ = some (.slice A1 n1 c1) ∧ W.cell? ⟨w.heap.size, 2, none⟩ = some (.slice A2 n2 c2) ∧ W.cell? ⟨w.heap.size + 1, 0, none⟩ = some (.bool s2) ∧ W.cell? ⟨w.heap.size + 1, 1, none⟩ = some (.slice A3 n3 c3) ∧ W.cell? ⟨w.heap.size + 1, 2, none⟩ = some (.slice A4 n4 c4)) (first | exact ⟨x0, x1, x2, y0, y1, y2⟩ | exact ⟨by assumption, by assumption, by assumption, by assumption, by assumption, by assumption⟩ | exact ⟨(dX aDE).trans (by assumption), (dX aDE).trans (by assumption), (dX aDE).trans (by assumption), (dX aDF).trans (by assumption), (dX aDF).trans (by assumption), (dX aDF).trans (by assumption)⟩ | go_keep) (first
   | (go_at_call 22; refine (rQ _ _ p q⁻¹ _ (hT.q hG1) (hx.q hG1) ho1 (show 16 * (sz p + sz q⁻¹) + 100 ≤ LIM by have := aEZ q; have := HB.out; rw [aA] at *; omega)).mono ?_; rintro e w2 ⟨v1, rfl, hv, hq2⟩; have hG2 := hG1.trans hq2; have hX2 := hX1.q hq2; have hY2 := hY1.q hq2; have hR2 := hR1.q hq2; obtain ⟨x0, x1, x2⟩ := hX2.cells; obtain ⟨y0, y1, y2⟩ := hY2.cells; have fz := hR2.frozen; obtain ⟨r0, r1, r2⟩ := hR2.cells; obtain ⟨s6, B1, m1, d1, B2, m2, d2, rfl, -⟩ := hv.form)
   | (go_at_call 118; refine (aCo _ q _ (hy.q hG0.drew) HQ.out).mono ?_; rintro e w1 ⟨o1, rfl, ho1, hq1d⟩; have hq1 : Q w0 w1 := (Q.refl w0).drew.trans hq1d; have hG1 := hG0.trans hq1; have hX1 := hX0.q hq1; have hY1 := hY0.q hq1; have hR1 := hR0.q hq1; obtain ⟨x0, x1, x2⟩ := hX1.cells; obtain ⟨y0, y1, y2⟩ := hY1.cells; obtain ⟨s5, A5, n5, c5, A6, n6, c6, rfl, -⟩ := ho1.form))
  all_goals
   go_wp2_with fail
   obtain ⟨z0, z1, z2, hvF, hqF⟩ := Nq.store hR2 hv hG2 (by exact Nat.le_add_right_of_le (Nat.le_add_right _ _));unfold put3 at z0 z1 z2 hvF hqF;refine bodyPost_ret (v := .tuple #[.agg #[.bool s6, .slice B1 m1 d1, .slice B2 m2 d2], .int .i64 0]) (by simp [results, Tryz.results67, go_sem, z0, z1, z2]) rfl ?_;exact ⟨_, rfl, hvF, hqF⟩
theorem aEs (x y : Value) (p q : Rat) (w : World) (hx : Nq w x p) (hy : Nq w y q) (hB : 64 * (sz p + sz q) + 400 ≤ LIM) (hp1 : p.den = 1) (hp2 : q.den = 1) : Calls Tryz.prog 177 #[x, y] w fun e w' => e = .returned (.int .i64 (cmp (p.num.natAbs * q.den) (q.num.natAbs * p.den))) ∧ Q w w' := by
 obtain ⟨s1, A1, n1, c1, A2, n2, c2, rfl, E1, Z1, O1, hxt, hxb⟩ := hx.form;obtain ⟨s2, A3, n3, c3, A4, n4, c4, rfl, E2, Z2, O2, hyt, hyb⟩ := hy.form;obtain ⟨w0, hW, hG0, hX0, hY0⟩ := qK w s1 (.slice A1 n1 c1) (.slice A2 n2 c2) s2 (.slice A3 n3 c3) (.slice A4 n4 c4);have HB := Lib.hid hB; clear hB;obtain ⟨x0, x1, x2⟩ := hX0.cells;obtain ⟨y0, y1, y2⟩ := hY0.cells;go_enter Tryz.func177, Tryz.ntmps177
 go_wp2_with fail
 clear hW;refine (iM _ p _ (hx.q hG0)).mono ?_;rintro e w1 ⟨rfl, hq1⟩;have hG1 := hG0.trans hq1;have hX1 := hX0.q hq1;have hY1 := hY0.q hq1;clear x0 x1 x2 y0 y1 y2;obtain ⟨x0, x1, x2⟩ := hX1.cells;obtain ⟨y0, y1, y2⟩ := hY1.cells;rw [decide_eq_true hp1];have HP1 := Lib.hid hp1; clear hp1;go_wp2_with fail
 refine (iM _ q _ (hy.q hG1)).mono ?_;rintro e w2 ⟨rfl, hq2⟩;have hG2 := hG1.trans hq2;have hX2 := hX1.q hq2;have hY2 := hY1.q hq2;clear x0 x1 x2 y0 y1 y2;obtain ⟨x0, x1, x2⟩ := hX2.cells;obtain ⟨y0, y1, y2⟩ := hY2.cells;rw [decide_eq_true hp2];have HP2 := Lib.hid hp2; clear hp2;go_wp2_with fail
 refine (aZ _ _ _ _ _ (hxt.q hG2) (hyt.q hG2) (show dg W64 p.num.natAbs ≤ LIM by have := HB.out; have := fO p; have := fO q; rw [aA] at *; omega) (show dg W64 q.num.natAbs ≤ LIM by have := HB.out; have := fO p; have := fO q; rw [aA] at *; omega)).mono ?_;rintro e w3 ⟨rfl, hq3⟩;have hG3 := hG2.trans hq3;have hX3 := hX2.q hq3;have hY3 := hY2.q hq3;clear x0 x1 x2 y0 y1 y2;go_wp2_with fail
 go_ret
 exact ⟨fP (by rw [HP1.out, HP2.out, Nat.mul_one, Nat.mul_one]), hG3⟩
theorem aEt (x y : Value) (p q : Rat) (w : World) (hx : Nq w x p) (hy : Nq w y q) (hB : 64 * (sz p + sz q) + 400 ≤ LIM) (hp1 : p.den = 1) (hp2 : ¬ q.den = 1) (h0 : p ≠ 0) (h1 : q ≠ 0) : Calls Tryz.prog 177 #[x, y] w fun e w' => e = .returned (.int .i64 (cmp (p.num.natAbs * q.den) (q.num.natAbs * p.den))) ∧ Q w w' := by
 obtain ⟨s1, A1, n1, c1, A2, n2, c2, rfl, E1, Z1, O1, hxt, hxb⟩ := hx.form;obtain ⟨s2, A3, n3, c3, A4, n4, c4, rfl, E2, Z2, O2, hyt, hyb⟩ := hy.form;obtain ⟨w0, hW, hG0, hX0, hY0⟩ := qK w s1 (.slice A1 n1 c1) (.slice A2 n2 c2) s2 (.slice A3 n3 c3) (.slice A4 n4 c4);have HB := Lib.hid hB; clear hB;have hbl1 := iB p.num.natAbs; have hbl2 := iB q.den; have hbl3 := iB q.num.natAbs; have hbl4 := iB p.den;have hz1 := fO p; have hz2 := fO q; have hB0 := HB.out;have hC := sH (a := p.num.natAbs) (b := q.den) (c := q.num.natAbs) (d := p.den) (fC h0) q.den_pos (fC h1) p.den_pos;obtain ⟨La, hLa⟩ : ∃ L, bl p.num.natAbs = L := ⟨_, rfl⟩
 obtain ⟨Lb, hLb⟩ : ∃ L, bl q.den = L := ⟨_, rfl⟩
 obtain ⟨Lc, hLc⟩ : ∃ L, bl q.num.natAbs = L := ⟨_, rfl⟩
 obtain ⟨Ld, hLd⟩ : ∃ L, bl p.den = L := ⟨_, rfl⟩
 rw [hLa] at hbl1 hC; rw [hLb] at hbl2 hC; rw [hLc] at hbl3 hC; rw [hLd] at hbl4 hC;have HLa := Lib.hid hLa; clear hLa;have HLb := Lib.hid hLb; clear hLb;have HLc := Lib.hid hLc; clear hLc;have HLd := Lib.hid hLd; clear hLd;have b1 : dg W64 p.num.natAbs ≤ LIM := by rw [aA] at *; omega
 have b2 : dg W64 q.den ≤ LIM := by rw [aA] at *; omega
 have b3 : dg W64 q.num.natAbs ≤ LIM := by rw [aA] at *; omega
 have b4 : dg W64 p.den ≤ LIM := by rw [aA] at *; omega
 have b5 : dg W64 p.num.natAbs + dg W64 q.den + 8 ≤ LIM := by rw [aA] at *; omega
 have b6 : dg W64 q.num.natAbs + dg W64 p.den + 8 ≤ LIM := by rw [aA] at *; omega
 have b7 : dg W64 (p.num.natAbs * q.den) ≤ LIM := by have := dY aB p.num.natAbs q.den; rw [aA] at *; omega
 have b8 : dg W64 (q.num.natAbs * p.den) ≤ LIM := by have := dY aB q.num.natAbs p.den; rw [aA] at *; omega
 have HC := Lib.hid hC; clear hC;obtain ⟨m, hM⟩ : ∃ m : Int, (La : Int) + Lb - Lc - Ld = m := ⟨_, rfl⟩
 have t1 : IntKind.i64.wrap ((La : Int) + Lb) = (La : Int) + Lb := IntWalk.i64_in _ (by rw [aA] at *; omega);have t2 : IntKind.i64.wrap ((La : Int) + Lb - Lc) = (La : Int) + Lb - Lc := IntWalk.i64_in _ (by rw [aA] at *; omega);have t3 : IntKind.i64.wrap ((La : Int) + Lb - Lc - Ld) = m := by rw [← hM]; exact IntWalk.i64_in _ (by rw [aA] at *; omega)
 have HM := Lib.hid hM; clear hM;clear hbl1 hbl2 hbl3 hbl4 hz1 hz2 hB0;obtain ⟨x0, x1, x2⟩ := hX0.cells;obtain ⟨y0, y1, y2⟩ := hY0.cells;go_enter Tryz.func177, Tryz.ntmps177
 go_wp2_with fail
 clear hW;refine (iM _ p _ (hx.q hG0)).mono ?_;rintro e w1 ⟨rfl, hq1⟩;have hG1 := hG0.trans hq1;have hX1 := hX0.q hq1;have hY1 := hY0.q hq1;clear x0 x1 x2 y0 y1 y2;obtain ⟨x0, x1, x2⟩ := hX1.cells;obtain ⟨y0, y1, y2⟩ := hY1.cells;rw [decide_eq_true hp1];have HP1 := Lib.hid hp1; clear hp1;go_wp2_with fail
 refine (iM _ q _ (hy.q hG1)).mono ?_;rintro e w2 ⟨rfl, hq2⟩;have hG2 := hG1.trans hq2;have hX2 := hX1.q hq2;have hY2 := hY1.q hq2;clear x0 x1 x2 y0 y1 y2;obtain ⟨x0, x1, x2⟩ := hX2.cells;obtain ⟨y0, y1, y2⟩ := hY2.cells;rw [decide_eq_false hp2];go_wp2_with fail
 clear x0 x1 x2 y0 y1 y2;obtain ⟨x0, x1, x2⟩ := hX2.cells;obtain ⟨y0, y1, y2⟩ := hY2.cells
 go_region_held3 (fun W => W.cell? ⟨w.heap.size, 0, none⟩ = some (.bool s1) ∧ W.cell? ⟨w.heap.size, 1, none⟩ = some (.slice A1 n1 c1) ∧ W.cell? ⟨w.heap.size, 2, none⟩ = some (.slice A2 n2 c2) ∧ W.cell? ⟨w.heap.size + 1, 0, none⟩ = some (.bool s2) ∧ W.cell? ⟨w.heap.size + 1, 1, none⟩ = some (.slice A3 n3 c3) ∧ W.cell? ⟨w.heap.size + 1, 2, none⟩ = some (.slice A4 n4 c4)) (first | exact ⟨x0, x1, x2, y0, y1, y2⟩ | exact ⟨by assumption, by assumption, by assumption, by assumption, by assumption, by assumption⟩ | go_keep) (first
  | (go_at_call 159; (with_reducible refine (bO _ p.den _ hu2 b4).mono ?_); rintro e w95 ⟨rfl, rfl⟩; rw [HLd.out])
  | (go_at_call 135; (with_reducible refine (eU _ p _ (hx.q hG3)).mono ?_); rintro e w4 ⟨u2, rfl, hu2, hq4⟩; have hG4 := hG3.trans hq4; have hX4 := hX3.q hq4; have hY4 := hY3.q hq4; obtain ⟨x0, x1, x2⟩ := hX4.cells; obtain ⟨y0, y1, y2⟩ := hY4.cells; obtain ⟨A6, n6, c6, rfl⟩ := hu2.form)
  | (go_at_call 159; (with_reducible refine (bO _ q.num.natAbs _ (hyt.q hG3) b3).mono ?_); rintro e w93 ⟨rfl, rfl⟩; rw [HLc.out])
  | (go_at_call 159; (with_reducible refine (bO _ q.den _ hu1 b2).mono ?_); rintro e w92 ⟨rfl, rfl⟩; rw [HLb.out])
  | (go_at_call 135; (with_reducible refine (eU _ q _ (hy.q hG2.drew)).mono ?_); rintro e w3 ⟨u1, rfl, hu1, hq3d⟩; have hq3 : Q w2 w3 := (Q.refl w2).drew.trans hq3d; have hG3 := hG2.trans hq3; have hX3 := hX2.q hq3; have hY3 := hY2.q hq3; obtain ⟨x0, x1, x2⟩ := hX3.cells; obtain ⟨y0, y1, y2⟩ := hY3.cells; obtain ⟨A5, n5, c5, rfl⟩ := hu1.form)
  | (go_at_call 159; (with_reducible refine (bO _ p.num.natAbs _ (hxt.q hG2.drew) b1).mono ?_); rintro e w90 ⟨rfl, rfl⟩; rw [HLa.out]))
 all_goals
  clear t1 t2 t3 hu1 hu2;by_cases hm1 : 1 < m
  ·go_wp2_with fail
   go_ret
   exact ⟨fP (HC.out.1 (by have := HM.out; omega)).symm, hG4⟩
  ·by_cases hm2 : m < -1
   ·go_wp2_with fail
    go_ret
    exact ⟨fP (HC.out.2 (by have := HM.out; omega)).symm, hG4⟩
   ·obtain ⟨x0, x1, x2⟩ := hX4.cells;obtain ⟨y0, y1, y2⟩ := hY4.cells;go_wp2_with fail
    clear x0 x1 x2 y0 y1 y2;obtain ⟨x0, x1, x2⟩ := hX4.cells;obtain ⟨y0, y1, y2⟩ := hY4.cells
    go_region_held3 (fun W => W.cell? ⟨w.heap.size, 0, none⟩ = some (.bool s1) ∧ W.cell? ⟨w.heap.size, 1, none⟩ = some (.slice A1 n1 c1) ∧ W.cell? ⟨w.heap.size, 2, none⟩ = some (.slice A2 n2 c2) ∧ W.cell? ⟨w.heap.size + 1, 0, none⟩ = some (.bool s2) ∧ W.cell? ⟨w.heap.size + 1, 1, none⟩ = some (.slice A3 n3 c3) ∧ W.cell? ⟨w.heap.size + 1, 2, none⟩ = some (.slice A4 n4 c4)) (first | exact ⟨x0, x1, x2, y0, y1, y2⟩ | exact ⟨by assumption, by assumption, by assumption, by assumption, by assumption, by assumption⟩ | go_keep) (first
     | (go_at_call 148; (with_reducible refine (aZ _ _ _ _ _ ((hm1.q hq7).q hq8) hm2 b7 b8).mono ?_); rintro e w9 ⟨rfl, hq9⟩; have hG9 := hG8.trans hq9; have hX9 := hX8.q hq9; have hY9 := hY8.q hq9; obtain ⟨x0, x1, x2⟩ := hX9.cells; obtain ⟨y0, y1, y2⟩ := hY9.cells)
     | (go_at_call 104; (with_reducible refine (dP q.num.natAbs p.den _ _ _ (hyt.q hG7) hu4 b6).mono ?_); rintro e w8 ⟨m2, rfl, hm2, hq8, -⟩; have hG8 := hG7.trans hq8; have hX8 := hX7.q hq8; have hY8 := hY7.q hq8; obtain ⟨x0, x1, x2⟩ := hX8.cells; obtain ⟨y0, y1, y2⟩ := hY8.cells; obtain ⟨A10, n10, c10, rfl⟩ := hm2.form)
     | (go_at_call 135; (with_reducible refine (eU _ p _ (hx.q hG6)).mono ?_); rintro e w7 ⟨u4, rfl, hu4, hq7⟩; have hG7 := hG6.trans hq7; have hX7 := hX6.q hq7; have hY7 := hY6.q hq7; obtain ⟨x0, x1, x2⟩ := hX7.cells; obtain ⟨y0, y1, y2⟩ := hY7.cells; obtain ⟨A9, n9, c9, rfl⟩ := hu4.form)
     | (go_at_call 104; (with_reducible refine (dP p.num.natAbs q.den _ _ _ (hxt.q hG5) hu3 b5).mono ?_); rintro e w6 ⟨m1, rfl, hm1, hq6, -⟩; have hG6 := hG5.trans hq6; have hX6 := hX5.q hq6; have hY6 := hY5.q hq6; obtain ⟨x0, x1, x2⟩ := hX6.cells; obtain ⟨y0, y1, y2⟩ := hY6.cells; obtain ⟨A8, n8, c8, rfl⟩ := hm1.form)
     | (go_at_call 135; (with_reducible refine (eU _ q _ (hy.q hG4.drew)).mono ?_); rintro e w5 ⟨u3, rfl, hu3, hq5d⟩; have hq5 : Q w4 w5 := (Q.refl w4).drew.trans hq5d; have hG5 := hG4.trans hq5; have hX5 := hX4.q hq5; have hY5 := hY4.q hq5; obtain ⟨x0, x1, x2⟩ := hX5.cells; obtain ⟨y0, y1, y2⟩ := hY5.cells; obtain ⟨A7, n7, c7, rfl⟩ := hu3.form))
    all_goals
     go_wp2_with fail
     go_ret
     exact ⟨rfl, hG9⟩
theorem aFi (x y : Value) (p q : Rat) (w : World) (hx : Nq w x p) (hy : Nq w y q) (hB : 64 * (sz p + sz q) + 400 ≤ LIM) (hp1 : ¬ p.den = 1) (h0 : p ≠ 0) (h1 : q ≠ 0) : Calls Tryz.prog 177 #[x, y] w fun e w' => e = .returned (.int .i64 (cmp (p.num.natAbs * q.den) (q.num.natAbs * p.den))) ∧ Q w w' := by
 obtain ⟨s1, A1, n1, c1, A2, n2, c2, rfl, E1, Z1, O1, hxt, hxb⟩ := hx.form;obtain ⟨s2, A3, n3, c3, A4, n4, c4, rfl, E2, Z2, O2, hyt, hyb⟩ := hy.form;obtain ⟨w0, hW, hG0, hX0, hY0⟩ := qK w s1 (.slice A1 n1 c1) (.slice A2 n2 c2) s2 (.slice A3 n3 c3) (.slice A4 n4 c4);have HB := Lib.hid hB; clear hB;have hbl1 := iB p.num.natAbs; have hbl2 := iB q.den; have hbl3 := iB q.num.natAbs; have hbl4 := iB p.den;have hz1 := fO p; have hz2 := fO q; have hB0 := HB.out;have hC := sH (a := p.num.natAbs) (b := q.den) (c := q.num.natAbs) (d := p.den) (fC h0) q.den_pos (fC h1) p.den_pos;obtain ⟨La, hLa⟩ : ∃ L, bl p.num.natAbs = L := ⟨_, rfl⟩
 obtain ⟨Lb, hLb⟩ : ∃ L, bl q.den = L := ⟨_, rfl⟩
 obtain ⟨Lc, hLc⟩ : ∃ L, bl q.num.natAbs = L := ⟨_, rfl⟩
 obtain ⟨Ld, hLd⟩ : ∃ L, bl p.den = L := ⟨_, rfl⟩
 rw [hLa] at hbl1 hC; rw [hLb] at hbl2 hC; rw [hLc] at hbl3 hC; rw [hLd] at hbl4 hC;have HLa := Lib.hid hLa; clear hLa;have HLb := Lib.hid hLb; clear hLb;have HLc := Lib.hid hLc; clear hLc;have HLd := Lib.hid hLd; clear hLd;have b1 : dg W64 p.num.natAbs ≤ LIM := by rw [aA] at *; omega
 have b2 : dg W64 q.den ≤ LIM := by rw [aA] at *; omega
 have b3 : dg W64 q.num.natAbs ≤ LIM := by rw [aA] at *; omega
 have b4 : dg W64 p.den ≤ LIM := by rw [aA] at *; omega
 have b5 : dg W64 p.num.natAbs + dg W64 q.den + 8 ≤ LIM := by rw [aA] at *; omega
 have b6 : dg W64 q.num.natAbs + dg W64 p.den + 8 ≤ LIM := by rw [aA] at *; omega
 have b7 : dg W64 (p.num.natAbs * q.den) ≤ LIM := by have := dY aB p.num.natAbs q.den; rw [aA] at *; omega
 have b8 : dg W64 (q.num.natAbs * p.den) ≤ LIM := by have := dY aB q.num.natAbs p.den; rw [aA] at *; omega
 have HC := Lib.hid hC; clear hC;obtain ⟨m, hM⟩ : ∃ m : Int, (La : Int) + Lb - Lc - Ld = m := ⟨_, rfl⟩
 have t1 : IntKind.i64.wrap ((La : Int) + Lb) = (La : Int) + Lb := IntWalk.i64_in _ (by rw [aA] at *; omega);have t2 : IntKind.i64.wrap ((La : Int) + Lb - Lc) = (La : Int) + Lb - Lc := IntWalk.i64_in _ (by rw [aA] at *; omega);have t3 : IntKind.i64.wrap ((La : Int) + Lb - Lc - Ld) = m := by rw [← hM]; exact IntWalk.i64_in _ (by rw [aA] at *; omega)
 have HM := Lib.hid hM; clear hM;clear hbl1 hbl2 hbl3 hbl4 hz1 hz2 hB0;obtain ⟨x0, x1, x2⟩ := hX0.cells;obtain ⟨y0, y1, y2⟩ := hY0.cells;go_enter Tryz.func177, Tryz.ntmps177
 go_wp2_with fail
 clear hW;refine (iM _ p _ (hx.q hG0)).mono ?_;rintro e w1 ⟨rfl, hq1⟩;have hG1 := hG0.trans hq1;have hX1 := hX0.q hq1;have hY1 := hY0.q hq1;clear x0 x1 x2 y0 y1 y2;obtain ⟨x0, x1, x2⟩ := hX1.cells;obtain ⟨y0, y1, y2⟩ := hY1.cells;rw [decide_eq_false hp1];go_wp2_with fail
 clear x0 x1 x2 y0 y1 y2;obtain ⟨x0, x1, x2⟩ := hX1.cells;obtain ⟨y0, y1, y2⟩ := hY1.cells
 go_region_held3 (fun W => W.cell? ⟨w.heap.size, 0, none⟩ = some (.bool s1) ∧ W.cell? ⟨w.heap.size, 1, none⟩ = some (.slice A1 n1 c1) ∧ W.cell? ⟨w.heap.size, 2, none⟩ = some (.slice A2 n2 c2) ∧ W.cell? ⟨w.heap.size + 1, 0, none⟩ = some (.bool s2) ∧ W.cell? ⟨w.heap.size + 1, 1, none⟩ = some (.slice A3 n3 c3) ∧ W.cell? ⟨w.heap.size + 1, 2, none⟩ = some (.slice A4 n4 c4)) (first | exact ⟨x0, x1, x2, y0, y1, y2⟩ | exact ⟨by assumption, by assumption, by assumption, by assumption, by assumption, by assumption⟩ | go_keep) (first
  | (go_at_call 159; (with_reducible refine (bO _ p.den _ hu2 b4).mono ?_); rintro e w95 ⟨rfl, rfl⟩; rw [HLd.out])
  | (go_at_call 135; (with_reducible refine (eU _ p _ (hx.q hG2)).mono ?_); rintro e w3 ⟨u2, rfl, hu2, hq3⟩; have hG3 := hG2.trans hq3; have hX3 := hX2.q hq3; have hY3 := hY2.q hq3; obtain ⟨x0, x1, x2⟩ := hX3.cells; obtain ⟨y0, y1, y2⟩ := hY3.cells; obtain ⟨A6, n6, c6, rfl⟩ := hu2.form)
  | (go_at_call 159; (with_reducible refine (bO _ q.num.natAbs _ (hyt.q hG2) b3).mono ?_); rintro e w93 ⟨rfl, rfl⟩; rw [HLc.out])
  | (go_at_call 159; (with_reducible refine (bO _ q.den _ hu1 b2).mono ?_); rintro e w92 ⟨rfl, rfl⟩; rw [HLb.out])
  | (go_at_call 135; (with_reducible refine (eU _ q _ (hy.q hG1.drew)).mono ?_); rintro e w2 ⟨u1, rfl, hu1, hq2d⟩; have hq2 : Q w1 w2 := (Q.refl w1).drew.trans hq2d; have hG2 := hG1.trans hq2; have hX2 := hX1.q hq2; have hY2 := hY1.q hq2; obtain ⟨x0, x1, x2⟩ := hX2.cells; obtain ⟨y0, y1, y2⟩ := hY2.cells; obtain ⟨A5, n5, c5, rfl⟩ := hu1.form)
  | (go_at_call 159; (with_reducible refine (bO _ p.num.natAbs _ (hxt.q hG1.drew) b1).mono ?_); rintro e w90 ⟨rfl, rfl⟩; rw [HLa.out]))
 all_goals
  clear t1 t2 t3 hu1 hu2;by_cases hm1 : 1 < m
  ·go_wp2_with fail
   go_ret
   exact ⟨fP (HC.out.1 (by have := HM.out; omega)).symm, hG3⟩
  ·by_cases hm2 : m < -1
   ·go_wp2_with fail
    go_ret
    exact ⟨fP (HC.out.2 (by have := HM.out; omega)).symm, hG3⟩
   ·obtain ⟨x0, x1, x2⟩ := hX3.cells;obtain ⟨y0, y1, y2⟩ := hY3.cells;go_wp2_with fail
    clear x0 x1 x2 y0 y1 y2;obtain ⟨x0, x1, x2⟩ := hX3.cells;obtain ⟨y0, y1, y2⟩ := hY3.cells
    go_region_held3 (fun W => W.cell? ⟨w.heap.size, 0, none⟩ = some (.bool s1) ∧ W.cell? ⟨w.heap.size, 1, none⟩ = some (.slice A1 n1 c1) ∧ W.cell? ⟨w.heap.size, 2, none⟩ = some (.slice A2 n2 c2) ∧ W.cell? ⟨w.heap.size + 1, 0, none⟩ = some (.bool s2) ∧ W.cell? ⟨w.heap.size + 1, 1, none⟩ = some (.slice A3 n3 c3) ∧ W.cell? ⟨w.heap.size + 1, 2, none⟩ = some (.slice A4 n4 c4)) (first | exact ⟨x0, x1, x2, y0, y1, y2⟩ | exact ⟨by assumption, by assumption, by assumption, by assumption, by assumption, by assumption⟩ | go_keep) (first
     | (go_at_call 148; (with_reducible refine (aZ _ _ _ _ _ ((hm1.q hq6).q hq7) hm2 b7 b8).mono ?_); rintro e w8 ⟨rfl, hq8⟩; have hG8 := hG7.trans hq8; have hX8 := hX7.q hq8; have hY8 := hY7.q hq8; obtain ⟨x0, x1, x2⟩ := hX8.cells; obtain ⟨y0, y1, y2⟩ := hY8.cells)
     | (go_at_call 104; (with_reducible refine (dP q.num.natAbs p.den _ _ _ (hyt.q hG6) hu4 b6).mono ?_); rintro e w7 ⟨m2, rfl, hm2, hq7, -⟩; have hG7 := hG6.trans hq7; have hX7 := hX6.q hq7; have hY7 := hY6.q hq7; obtain ⟨x0, x1, x2⟩ := hX7.cells; obtain ⟨y0, y1, y2⟩ := hY7.cells; obtain ⟨A10, n10, c10, rfl⟩ := hm2.form)
     | (go_at_call 135; (with_reducible refine (eU _ p _ (hx.q hG5)).mono ?_); rintro e w6 ⟨u4, rfl, hu4, hq6⟩; have hG6 := hG5.trans hq6; have hX6 := hX5.q hq6; have hY6 := hY5.q hq6; obtain ⟨x0, x1, x2⟩ := hX6.cells; obtain ⟨y0, y1, y2⟩ := hY6.cells; obtain ⟨A9, n9, c9, rfl⟩ := hu4.form)
     | (go_at_call 104; (with_reducible refine (dP p.num.natAbs q.den _ _ _ (hxt.q hG4) hu3 b5).mono ?_); rintro e w5 ⟨m1, rfl, hm1, hq5, -⟩; have hG5 := hG4.trans hq5; have hX5 := hX4.q hq5; have hY5 := hY4.q hq5; obtain ⟨x0, x1, x2⟩ := hX5.cells; obtain ⟨y0, y1, y2⟩ := hY5.cells; obtain ⟨A8, n8, c8, rfl⟩ := hm1.form)
     | (go_at_call 135; (with_reducible refine (eU _ q _ (hy.q hG3.drew)).mono ?_); rintro e w4 ⟨u3, rfl, hu3, hq4d⟩; have hq4 : Q w3 w4 := (Q.refl w3).drew.trans hq4d; have hG4 := hG3.trans hq4; have hX4 := hX3.q hq4; have hY4 := hY3.q hq4; obtain ⟨x0, x1, x2⟩ := hX4.cells; obtain ⟨y0, y1, y2⟩ := hY4.cells; obtain ⟨A7, n7, c7, rfl⟩ := hu3.form))
    all_goals
     go_wp2_with fail
     go_ret
     exact ⟨rfl, hG8⟩
theorem vR (x y : Value) (p q : Rat) (w : World) (hx : Nq w x p) (hy : Nq w y q) (hB : 64 * (sz p + sz q) + 400 ≤ LIM) (hs : sn p = sn q) : Calls Tryz.prog 177 #[x, y] w fun e w' => e = .returned (.int .i64 (cmp (p.num.natAbs * q.den) (q.num.natAbs * p.den))) ∧ Q w w' := by
 by_cases hp1 : p.den = 1
 ·by_cases hp2 : q.den = 1
  ·exact aEs x y p q w hx hy hB hp1 hp2
  ·have h1 : q ≠ 0 := fun h => hp2 (by rw [h]; rfl);exact aEt x y p q w hx hy hB hp1 hp2 (fun h => by subst h; rcases dF q with ⟨h2, h3⟩ | ⟨h2, h3⟩ | ⟨h2, h3⟩ <;> simp [sn] at hs h1 ⊢ <;> grind) h1
 ·have h0 : p ≠ 0 := fun h => hp1 (by rw [h]; rfl);exact aFi x y p q w hx hy hB hp1 h0 (fun h => by subst h; rcases dF p with ⟨h2, h3⟩ | ⟨h2, h3⟩ | ⟨h2, h3⟩ <;> simp [sn] at hs h0 ⊢ <;> grind)
theorem aDG {p q : Rat} : (sn p < sn q → rc p q = -1) ∧ (sn q < sn p → rc p q = 1) := by
 constructor
 ·intro h; refine aDN ?_;rcases dF p with ⟨h1, e1⟩ | ⟨h1, e1⟩ | ⟨h1, e1⟩ <;> rcases dF q with ⟨h2, e2⟩ | ⟨h2, e2⟩ | ⟨h2, e2⟩ <;> rw [e1, e2] at h <;> first | omega | grind
 ·intro h; refine aDO ?_;rcases dF p with ⟨h1, e1⟩ | ⟨h1, e1⟩ | ⟨h1, e1⟩ <;> rcases dF q with ⟨h2, e2⟩ | ⟨h2, e2⟩ | ⟨h2, e2⟩ <;> rw [e1, e2] at h <;> first | omega | grind
theorem aFj (a b : Nat) : -1 ≤ cmp a b ∧ cmp a b ≤ 1 := by
 unfold cmp; split
 ·omega
 ·split <;> omega
theorem aFE (p : Rat) : -1 ≤ sn p ∧ sn p ≤ 1 := by
 rcases dF p with ⟨-, e⟩ | ⟨-, e⟩ | ⟨-, e⟩ <;> rw [e] <;> decide
theorem wT {a c : Int} (ha : -1 ≤ a ∧ a ≤ 1) (hc : -1 ≤ c ∧ c ≤ 1) : -9223372036854775808 ≤ a * c ∧ a * c ≤ 9223372036854775807 := by
 rcases (by omega : a = -1 ∨ a = 0 ∨ a = 1) with rfl | rfl | rfl <;> omega
theorem aEu (p q : Rat) : sz (aK p q) ≤ sz p + sz q := by rcases aAF p q with h | h <;> rw [h] <;> omega
theorem aAN (p q : Rat) : sz (aG p q) ≤ sz p + sz q := by rcases aEd p q with h | h <;> rw [h] <;> omega
theorem uS (x y : Value) (p q : Rat) (w : World) (hx : Nq w x p) (hy : Nq w y q) (hB : 64 * (sz p + sz q) + 400 ≤ LIM) : Calls Tryz.prog 114 #[x, y] w fun e w' => e = .returned (.int .i64 (rc p q)) ∧ Q w w' := by
 obtain ⟨s1, A1, n1, c1, A2, n2, c2, rfl, E1, Z1, O1, hxt, hxb⟩ := hx.form;obtain ⟨s2, A3, n3, c3, A4, n4, c4, rfl, E2, Z2, O2, hyt, hyb⟩ := hy.form;obtain ⟨w0, hW, hG0, hX0, hY0⟩ := qK w s1 (.slice A1 n1 c1) (.slice A2 n2 c2) s2 (.slice A3 n3 c3) (.slice A4 n4 c4);have HB := Lib.hid hB; clear hB;obtain ⟨a, ha⟩ : ∃ a, sn p = a := ⟨_, rfl⟩
 obtain ⟨b, hb⟩ : ∃ b, sn q = b := ⟨_, rfl⟩
 have hlt := @aDG p q; have heq := @aDe p q; have hc := aFj (p.num.natAbs * q.den) (q.num.natAbs * p.den);have hal := aFE p;have HS := Lib.hid (show sn p = sn q ↔ a = b by rw [ha, hb]);rw [ha] at hlt heq hal; rw [hb] at hlt heq;have HA := Lib.hid ha; have HBb := Lib.hid hb; clear ha hb;have HE := Lib.hid heq; have HL := Lib.hid hlt; clear heq hlt;have HC := Lib.hid hc; clear hc;rcases Int.lt_trichotomy a b with h | h | h
 ·obtain ⟨x0, x1, x2⟩ := hX0.cells;obtain ⟨y0, y1, y2⟩ := hY0.cells;go_enter Tryz.func114, Tryz.ntmps114
  go_wp2_with fail
  clear hW;refine (mJ _ p _ (hx.q hG0)).mono ?_;rintro e w1 ⟨rfl, hq1⟩;have hG1 := hG0.trans hq1;have hX1 := hX0.q hq1;have hY1 := hY0.q hq1;clear x0 x1 x2 y0 y1 y2;obtain ⟨x0, x1, x2⟩ := hX1.cells;obtain ⟨y0, y1, y2⟩ := hY1.cells;rw [HA.out];go_wp2_with fail
  refine (mJ _ q _ (hy.q hG1)).mono ?_;rintro e w2 ⟨rfl, hq2⟩;have hG2 := hG1.trans hq2;have hX2 := hX1.q hq2;have hY2 := hY1.q hq2;clear x0 x1 x2 y0 y1 y2;obtain ⟨x0, x1, x2⟩ := hX2.cells;obtain ⟨y0, y1, y2⟩ := hY2.cells;rw [HBb.out];go_wp2_with fail
  go_ret
  exact ⟨fP (HL.out.1 h).symm, hG2⟩
 ·have HAB := Lib.hid h;have h1 : ¬ a < b := (by omega);have h2 : ¬ b < a := (by omega);clear h;obtain ⟨x0, x1, x2⟩ := hX0.cells;obtain ⟨y0, y1, y2⟩ := hY0.cells;go_enter Tryz.func114, Tryz.ntmps114
  go_wp2_with fail
  clear hW;refine (mJ _ p _ (hx.q hG0)).mono ?_;rintro e w1 ⟨rfl, hq1⟩;have hG1 := hG0.trans hq1;have hX1 := hX0.q hq1;have hY1 := hY0.q hq1;clear x0 x1 x2 y0 y1 y2;obtain ⟨x0, x1, x2⟩ := hX1.cells;obtain ⟨y0, y1, y2⟩ := hY1.cells;rw [HA.out];go_wp2_with fail
  refine (mJ _ q _ (hy.q hG1)).mono ?_;rintro e w2 ⟨rfl, hq2⟩;have hG2 := hG1.trans hq2;have hX2 := hX1.q hq2;have hY2 := hY1.q hq2;clear x0 x1 x2 y0 y1 y2;obtain ⟨x0, x1, x2⟩ := hX2.cells;obtain ⟨y0, y1, y2⟩ := hY2.cells;rw [HBb.out];go_wp2_with fail
  have h3 : sn p = sn q := HS.out.2 HAB.out;refine (vR _ _ p q _ (hx.q hG2) (hy.q hG2) HB.out h3).mono ?_;rintro e w3 ⟨rfl, hq3⟩;have hG3 := hG2.trans hq3;have hX3 := hX2.q hq3;have hY3 := hY2.q hq3;clear x0 x1 x2 y0 y1 y2;have hr := HE.out HAB.out;have hc := HC.out;generalize cmp (p.num.natAbs * q.den) (q.num.natAbs * p.den) = c at hr hc ⊢;have hw : IntKind.i64.wrap (a * c) = a * c := IntWalk.i64_in _ (wT hal hc);have hw2 : wrap64 (a * c) = a * c := IntWalk.wrap64_in _ (wT hal hc);have HR := Lib.hid hr; clear hr h3;go_wp2_with fail
  go_ret
  exact ⟨fP HR.out.symm, hG3⟩
 ·have h1 : ¬ a < b := (by omega);obtain ⟨x0, x1, x2⟩ := hX0.cells;obtain ⟨y0, y1, y2⟩ := hY0.cells;go_enter Tryz.func114, Tryz.ntmps114
  go_wp2_with fail
  clear hW;refine (mJ _ p _ (hx.q hG0)).mono ?_;rintro e w1 ⟨rfl, hq1⟩;have hG1 := hG0.trans hq1;have hX1 := hX0.q hq1;have hY1 := hY0.q hq1;clear x0 x1 x2 y0 y1 y2;obtain ⟨x0, x1, x2⟩ := hX1.cells;obtain ⟨y0, y1, y2⟩ := hY1.cells;rw [HA.out];go_wp2_with fail
  refine (mJ _ q _ (hy.q hG1)).mono ?_;rintro e w2 ⟨rfl, hq2⟩;have hG2 := hG1.trans hq2;have hX2 := hX1.q hq2;have hY2 := hY1.q hq2;clear x0 x1 x2 y0 y1 y2;obtain ⟨x0, x1, x2⟩ := hX2.cells;obtain ⟨y0, y1, y2⟩ := hY2.cells;rw [HBb.out];go_wp2_with fail
  go_ret
  exact ⟨fP (HL.out.2 h).symm, hG2⟩
theorem aIV (x y : Value) (p q : Rat) (w : World) (hx : Nq w x p) (hy : Nq w y q) (hB : 64 * (sz p + sz q) + 400 ≤ LIM) : Calls Tryz.prog 122 #[x, y] w fun e w' => ∃ r, e = .returned r ∧ Nq w' r (aK p q) ∧ Q w w' := by
 obtain ⟨s1, A1, n1, c1, A2, n2, c2, rfl, E1, Z1, O1, hxt, hxb⟩ := hx.form;obtain ⟨s2, A3, n3, c3, A4, n4, c4, rfl, E2, Z2, O2, hyt, hyb⟩ := hy.form;obtain ⟨w0, hW, hG0, hX0, hY0, hR0⟩ := vP w s1 (.slice A1 n1 c1) (.slice A2 n2 c2) s2 (.slice A3 n3 c3) (.slice A4 n4 c4);have HB := Lib.hid hB; clear hB;obtain ⟨c, hc⟩ : ∃ c, rc p q = c := ⟨_, rfl⟩
 have hi := aFA p q;rw [hc] at hi;have HC := Lib.hid hc; clear hc;by_cases h : c ≤ 0
 ·have hm : aK p q = p := if_pos (hi.1 h);rw [hm];clear hm hi;obtain ⟨x0, x1, x2⟩ := hX0.cells;obtain ⟨y0, y1, y2⟩ := hY0.cells;go_enter Tryz.func122, Tryz.ntmps122
  go_wp2_with fail
  clear hW;refine (uS _ _ p q _ (hx.q hG0) (hy.q hG0) HB.out).mono ?_;rintro e w1 ⟨rfl, hq1⟩;have hG1 := hG0.trans hq1;have hX1 := hX0.q hq1;have hY1 := hY0.q hq1;have hR1 := hR0.q hq1;clear x0 x1 x2 y0 y1 y2;obtain ⟨x0, x1, x2⟩ := hX1.cells;have fz := hR1.frozen;obtain ⟨r0, r1, r2⟩ := hR1.cells;rw [HC.out];go_wp2_with fail
  have hv := hx.q hG1;obtain ⟨z0, z1, z2, hvF, hqF⟩ := Nq.store hR1 hv hG1 (by exact Nat.le_add_right_of_le (Nat.le_add_right _ _));unfold put3 at z0 z1 z2 hvF hqF;refine bodyPost_ret (v := .agg #[.bool s1, .slice A1 n1 c1, .slice A2 n2 c2]) (by simp [results, Tryz.results122, go_sem, z0, z1, z2]) rfl ?_;exact ⟨_, rfl, hvF, hqF⟩
 ·have hm : aK p q = q := if_neg (fun h1 => h (hi.2 h1));rw [hm];clear hm hi;obtain ⟨x0, x1, x2⟩ := hX0.cells;obtain ⟨y0, y1, y2⟩ := hY0.cells;go_enter Tryz.func122, Tryz.ntmps122
  go_wp2_with fail
  clear hW;refine (uS _ _ p q _ (hx.q hG0) (hy.q hG0) HB.out).mono ?_;rintro e w1 ⟨rfl, hq1⟩;have hG1 := hG0.trans hq1;have hX1 := hX0.q hq1;have hY1 := hY0.q hq1;have hR1 := hR0.q hq1;clear x0 x1 x2 y0 y1 y2;obtain ⟨y0, y1, y2⟩ := hY1.cells;have fz := hR1.frozen;obtain ⟨r0, r1, r2⟩ := hR1.cells;rw [HC.out];go_wp2_with fail
  have hv := hy.q hG1;obtain ⟨z0, z1, z2, hvF, hqF⟩ := Nq.store hR1 hv hG1 (by exact Nat.le_add_right_of_le (Nat.le_add_right _ _));unfold put3 at z0 z1 z2 hvF hqF;refine bodyPost_ret (v := .agg #[.bool s2, .slice A3 n3 c3, .slice A4 n4 c4]) (by simp [results, Tryz.results122, go_sem, z0, z1, z2]) rfl ?_;exact ⟨_, rfl, hvF, hqF⟩
theorem aCs (x y : Value) (p q : Rat) (w : World) (hx : Nq w x p) (hy : Nq w y q) (hB : 64 * (sz p + sz q) + 400 ≤ LIM) : Calls Tryz.prog 121 #[x, y] w fun e w' => ∃ r, e = .returned r ∧ Nq w' r (aG p q) ∧ Q w w' := by
 obtain ⟨s1, A1, n1, c1, A2, n2, c2, rfl, E1, Z1, O1, hxt, hxb⟩ := hx.form;obtain ⟨s2, A3, n3, c3, A4, n4, c4, rfl, E2, Z2, O2, hyt, hyb⟩ := hy.form;obtain ⟨w0, hW, hG0, hX0, hY0, hR0⟩ := vP w s1 (.slice A1 n1 c1) (.slice A2 n2 c2) s2 (.slice A3 n3 c3) (.slice A4 n4 c4);have HB := Lib.hid hB; clear hB;obtain ⟨c, hc⟩ : ∃ c, rc p q = c := ⟨_, rfl⟩
 have hi := aDP p q;rw [hc] at hi;have HC := Lib.hid hc; clear hc;by_cases h : 0 ≤ c
 ·have hm : aG p q = p := if_pos (hi.1 h);rw [hm];clear hm hi;obtain ⟨x0, x1, x2⟩ := hX0.cells;obtain ⟨y0, y1, y2⟩ := hY0.cells;go_enter Tryz.func121, Tryz.ntmps121
  go_wp2_with fail
  clear hW;refine (uS _ _ p q _ (hx.q hG0) (hy.q hG0) HB.out).mono ?_;rintro e w1 ⟨rfl, hq1⟩;have hG1 := hG0.trans hq1;have hX1 := hX0.q hq1;have hY1 := hY0.q hq1;have hR1 := hR0.q hq1;clear x0 x1 x2 y0 y1 y2;obtain ⟨x0, x1, x2⟩ := hX1.cells;have fz := hR1.frozen;obtain ⟨r0, r1, r2⟩ := hR1.cells;rw [HC.out];go_wp2_with fail
  have hv := hx.q hG1;obtain ⟨z0, z1, z2, hvF, hqF⟩ := Nq.store hR1 hv hG1 (by exact Nat.le_add_right_of_le (Nat.le_add_right _ _));unfold put3 at z0 z1 z2 hvF hqF;refine bodyPost_ret (v := .agg #[.bool s1, .slice A1 n1 c1, .slice A2 n2 c2]) (by simp [results, Tryz.results121, go_sem, z0, z1, z2]) rfl ?_;exact ⟨_, rfl, hvF, hqF⟩
 ·have hm : aG p q = q := if_neg (fun h1 => h (hi.2 h1));rw [hm];clear hm hi;obtain ⟨x0, x1, x2⟩ := hX0.cells;obtain ⟨y0, y1, y2⟩ := hY0.cells;go_enter Tryz.func121, Tryz.ntmps121
  go_wp2_with fail
  clear hW;refine (uS _ _ p q _ (hx.q hG0) (hy.q hG0) HB.out).mono ?_;rintro e w1 ⟨rfl, hq1⟩;have hG1 := hG0.trans hq1;have hX1 := hX0.q hq1;have hY1 := hY0.q hq1;have hR1 := hR0.q hq1;clear x0 x1 x2 y0 y1 y2;obtain ⟨y0, y1, y2⟩ := hY1.cells;have fz := hR1.frozen;obtain ⟨r0, r1, r2⟩ := hR1.cells;rw [HC.out];go_wp2_with fail
  have hv := hy.q hG1;obtain ⟨z0, z1, z2, hvF, hqF⟩ := Nq.store hR1 hv hG1 (by exact Nat.le_add_right_of_le (Nat.le_add_right _ _));unfold put3 at z0 z1 z2 hvF hqF;refine bodyPost_ret (v := .agg #[.bool s2, .slice A3 n3 c3, .slice A4 n4 c4]) (by simp [results, Tryz.results121, go_sem, z0, z1, z2]) rfl ?_;exact ⟨_, rfl, hvF, hqF⟩
theorem aFk (p : Rat) (n : Nat) : (p ^ n).num = sg (decide (p.num < 0) && decide (n % 2 = 1)) (p.num.natAbs ^ n) := by
 rw [Rat.num_pow];have h := zK p;generalize p.num.natAbs = N at *
 generalize decide (p.num < 0) = s at *
 cases s
 ·rw [← h]; simp [sg]
 ·rw [← h];simp only [sg, Bool.true_and];rw [if_pos trivial]
  induction n with
  | zero => simp
  | succ n ih =>
    rw [Int.pow_succ, ih, Nat.pow_succ, Int.natCast_mul];rcases Nat.mod_two_eq_zero_or_one n with h2 | h2
    ·have h3 : (n + 1) % 2 = 1 := (by omega);rw [if_neg (by rw [h2]; decide), if_pos (decide_eq_true h3), Int.mul_neg]
    ·have h3 : ¬ (n + 1) % 2 = 1 := (by omega);rw [if_pos (by rw [h2]; decide), if_neg (by rw [decide_eq_false h3]; decide), Int.neg_mul_neg]
def aHU (p : Rat) (z : Int) : Int × Rat := if z < -64 ∨ 64 < z then (7, 0) else if z < 0 then (if p = 0 then (8, 0) else (0, p⁻¹ ^ (-z).toNat)) else (0, p ^ z.toNat)
theorem aAO (x : Value) (p : Rat) (z : Int) (n : Nat) (w : World) (hx : Nq w x p) (hz : Hid (z = (n : Int))) (hn : n ≤ 64) (hB : 64 * sz p + 400 ≤ LIM) : Calls Tryz.prog 130 #[x, .int .i64 z] w fun e w' => ∃ r, e = .returned r ∧ Nq w' r (p ^ n) ∧ Q w w' := by
 obtain ⟨s1, A1, n1, c1, A2, n2, c2, rfl, E1, Z1, O1, hxt, hxb⟩ := hx.form;obtain ⟨w0, hW, hG0, hX0, hR0⟩ := vQ w s1 (.slice A1 n1 c1) (.slice A2 n2 c2);have HB := Lib.hid hB; clear hB;have b1 : n * dg W64 p.num.natAbs + 9 ≤ LIM := by have h1 := Nat.mul_le_mul_right (dg W64 p.num.natAbs) hn; have := gI p; have := HB.out; rw [aA] at *; omega
 have b2 : n * dg W64 p.den + 9 ≤ LIM := by have h1 := Nat.mul_le_mul_right (dg W64 p.den) hn; have := lW p; have := HB.out; rw [aA] at *; omega
 have b3 : n ≤ 4611686018427387904 := by omega
 have hP := aFk p n;rw [← E1.out] at hP;have HP := Lib.hid hP; clear hP;rcases Bool.eq_false_or_eq_true s1 with hs | hs
 ·subst hs;rcases Nat.mod_two_eq_zero_or_one n with h2 | h2
  ·have h3 : z.tmod 2 = 0 := (by rw [hz.out, Int.tmod_eq_emod_of_nonneg (by omega)]; omega);have HP2 : Hid ((p ^ n).num = sg false (p.num.natAbs ^ n)) := (by have h := HP.out; rw [h2] at h; exact h);clear HP h2;have HP := HP2; clear HP2;go_enter Tryz.func130, Tryz.ntmps130
   go_wp2_with fail
   clear hW;obtain ⟨x0, x1, x2⟩ := hX0.cells
   go_region_held3 (fun W => W.cell? ⟨w.heap.size, 0, none⟩ = some (.bool true) ∧ W.cell? ⟨w.heap.size, 1, none⟩ = some (.slice A1 n1 c1) ∧ W.cell? ⟨w.heap.size, 2, none⟩ = some (.slice A2 n2 c2)) (first | with_reducible exact ⟨x0, x1, x2⟩ | (refine ⟨?_, ?_, ?_⟩ <;> with_reducible assumption) | exact ⟨(dX oV).trans (by assumption), (dX oV).trans (by assumption), (dX oV).trans (by assumption)⟩ | go_keep) (first
    | (go_at_call 76; (with_reducible refine (dW false _ _ (p.num.natAbs ^ n) (p.den ^ n) _ ((ht1.q hq2).q hq3) ht2).mono ?_); rintro e w4 ⟨v5, rfl, hv5, hq4⟩; have hG4 := hG3.trans hq4; have hX4 := hX3.q hq4; have hR4 := hR3.q hq4; obtain ⟨x0, x1, x2⟩ := hX4.cells; have fz := hR4.frozen; obtain ⟨r0, r1, r2⟩ := hR4.cells; obtain ⟨B1, d1, B2, d2, rfl, -, -⟩ := hv5.form; have hv := Nq.made (q := p ^ n) hv5 HP.out (fun _ => Rat.den_pow p n); generalize (decide (0 < p.num.natAbs ^ n) && false) = s4 at *; generalize dg W64 (if p.num.natAbs ^ n = 0 then 0 else bt (p.den ^ n)) = m2 at *; generalize dg W64 (p.num.natAbs ^ n) = m1 at *)
    | (go_at_call 180; (with_reducible refine (iZ _ p.den n _ _ hu1 hz.out b2 b3).mono ?_); rintro e w3 ⟨t2, rfl, ht2, hq3, -⟩; have hG3 := hG2.trans hq3; have hX3 := hX2.q hq3; have hR3 := hR2.q hq3; obtain ⟨x0, x1, x2⟩ := hX3.cells; obtain ⟨A7, n7, c7, rfl⟩ := ht2.form)
    | (go_at_call 135; (with_reducible refine (eU _ p _ (hx.q hG1)).mono ?_); rintro e w2 ⟨u1, rfl, hu1, hq2⟩; have hG2 := hG1.trans hq2; have hX2 := hX1.q hq2; have hR2 := hR1.q hq2; obtain ⟨x0, x1, x2⟩ := hX2.cells; obtain ⟨A6, n6, c6, rfl⟩ := hu1.form)
    | (go_at_call 180; (with_reducible refine (iZ _ p.num.natAbs n _ _ (hxt.q hG0.drew) hz.out b1 b3).mono ?_); rintro e w1 ⟨t1, rfl, ht1, hq1d, -⟩; have hq1 : Q w0 w1 := (Q.refl w0).drew.trans hq1d; have hG1 := hG0.trans hq1; have hX1 := hX0.q hq1; have hR1 := hR0.q hq1; obtain ⟨x0, x1, x2⟩ := hX1.cells; obtain ⟨A5, n5, c5, rfl⟩ := ht1.form))
   all_goals
    go_wp2_with fail
    obtain ⟨z0, z1, z2, hvF, hqF⟩ := Nq.store hR4 hv hG4 (Nat.le_add_right _ _);unfold put3 at z0 z1 z2 hvF hqF;refine bodyPost_ret (v := .agg #[.bool s4, .slice B1 m1 d1, .slice B2 m2 d2]) (by simp [results, Tryz.results130, go_sem, z0, z1, z2]) rfl ?_;exact ⟨_, rfl, hvF, hqF⟩
  ·have h3 : z.tmod 2 = 1 := (by rw [hz.out, Int.tmod_eq_emod_of_nonneg (by omega)]; omega);have HP2 : Hid ((p ^ n).num = sg true (p.num.natAbs ^ n)) := (by have h := HP.out; rw [h2] at h; exact h);clear HP h2;have HP := HP2; clear HP2;go_enter Tryz.func130, Tryz.ntmps130
   go_wp2_with fail
   clear hW;obtain ⟨x0, x1, x2⟩ := hX0.cells
   go_region_held3 (fun W => W.cell? ⟨w.heap.size, 0, none⟩ = some (.bool true) ∧ W.cell? ⟨w.heap.size, 1, none⟩ = some (.slice A1 n1 c1) ∧ W.cell? ⟨w.heap.size, 2, none⟩ = some (.slice A2 n2 c2)) (first | with_reducible exact ⟨x0, x1, x2⟩ | (refine ⟨?_, ?_, ?_⟩ <;> with_reducible assumption) | exact ⟨(dX oV).trans (by assumption), (dX oV).trans (by assumption), (dX oV).trans (by assumption)⟩ | go_keep) (first
    | (go_at_call 76; (with_reducible refine (dW true _ _ (p.num.natAbs ^ n) (p.den ^ n) _ ((ht1.q hq2).q hq3) ht2).mono ?_); rintro e w4 ⟨v5, rfl, hv5, hq4⟩; have hG4 := hG3.trans hq4; have hX4 := hX3.q hq4; have hR4 := hR3.q hq4; obtain ⟨x0, x1, x2⟩ := hX4.cells; have fz := hR4.frozen; obtain ⟨r0, r1, r2⟩ := hR4.cells; obtain ⟨B1, d1, B2, d2, rfl, -, -⟩ := hv5.form; have hv := Nq.made (q := p ^ n) hv5 HP.out (fun _ => Rat.den_pow p n); generalize (decide (0 < p.num.natAbs ^ n) && true) = s4 at *; generalize dg W64 (if p.num.natAbs ^ n = 0 then 0 else bt (p.den ^ n)) = m2 at *; generalize dg W64 (p.num.natAbs ^ n) = m1 at *)
    | (go_at_call 180; (with_reducible refine (iZ _ p.den n _ _ hu1 hz.out b2 b3).mono ?_); rintro e w3 ⟨t2, rfl, ht2, hq3, -⟩; have hG3 := hG2.trans hq3; have hX3 := hX2.q hq3; have hR3 := hR2.q hq3; obtain ⟨x0, x1, x2⟩ := hX3.cells; obtain ⟨A7, n7, c7, rfl⟩ := ht2.form)
    | (go_at_call 135; (with_reducible refine (eU _ p _ (hx.q hG1)).mono ?_); rintro e w2 ⟨u1, rfl, hu1, hq2⟩; have hG2 := hG1.trans hq2; have hX2 := hX1.q hq2; have hR2 := hR1.q hq2; obtain ⟨x0, x1, x2⟩ := hX2.cells; obtain ⟨A6, n6, c6, rfl⟩ := hu1.form)
    | (go_at_call 180; (with_reducible refine (iZ _ p.num.natAbs n _ _ (hxt.q hG0.drew) hz.out b1 b3).mono ?_); rintro e w1 ⟨t1, rfl, ht1, hq1d, -⟩; have hq1 : Q w0 w1 := (Q.refl w0).drew.trans hq1d; have hG1 := hG0.trans hq1; have hX1 := hX0.q hq1; have hR1 := hR0.q hq1; obtain ⟨x0, x1, x2⟩ := hX1.cells; obtain ⟨A5, n5, c5, rfl⟩ := ht1.form))
   all_goals
    go_wp2_with fail
    obtain ⟨z0, z1, z2, hvF, hqF⟩ := Nq.store hR4 hv hG4 (Nat.le_add_right _ _);unfold put3 at z0 z1 z2 hvF hqF;refine bodyPost_ret (v := .agg #[.bool s4, .slice B1 m1 d1, .slice B2 m2 d2]) (by simp [results, Tryz.results130, go_sem, z0, z1, z2]) rfl ?_;exact ⟨_, rfl, hvF, hqF⟩
 ·subst hs;have HP2 : Hid ((p ^ n).num = sg false (p.num.natAbs ^ n)) := HP;clear HP;have HP := HP2; clear HP2;go_enter Tryz.func130, Tryz.ntmps130
  go_wp2_with fail
  clear hW;obtain ⟨x0, x1, x2⟩ := hX0.cells;refine wp_region_held_drew (S := fun W => W.cell? ⟨w.heap.size, 0, none⟩ = some (.bool false) ∧ W.cell? ⟨w.heap.size, 1, none⟩ = some (.slice A1 n1 c1) ∧ W.cell? ⟨w.heap.size, 2, none⟩ = some (.slice A2 n2 c2)) (by kernel_rfl) (by exact ⟨x0, x1, x2⟩) (fun hHeld => ?_);refine wpAnyH_take (i := 0) (v := ?v0) rfl (by kernel_rfl) (by kernel_rfl) (by kernel_rfl) (fun _ _ _ h => h) (Or.inl ⟨by rfl, ?h0⟩) (by assumption) ?r0
  case h0 =>
   intro W hSw
   (try dsimp only at hSw)
   go_simp
   try (with_reducible rfl)
  try simp only [Act.put]
  try simp only [List.setIfInBounds_toArray]
  try simp only [List.set_cons_zero, List.set_cons_succ]
  refine wpAnyH_take (i := 1) (v := ?v1) rfl (by kernel_rfl) (by kernel_rfl) (by kernel_rfl) (fun _ _ _ h => h) (Or.inl ⟨by rfl, ?h1⟩) (by assumption) ?r1
  case h1 =>
   intro W hSw
   (try dsimp only at hSw)
   go_simp
   try (with_reducible rfl)
  try simp only [Act.put]
  try simp only [List.setIfInBounds_toArray]
  try simp only [List.set_cons_zero, List.set_cons_succ]
  refine wpAnyH_take (i := 2) (v := ?v2) rfl (by kernel_rfl) (by kernel_rfl) (by kernel_rfl) (fun _ _ _ h => h) (Or.inl ⟨by rfl, ?h2⟩) (by assumption) ?r2
  case h2 =>
   intro W hSw
   (try dsimp only at hSw)
   go_simp
   try (with_reducible rfl)
  try simp only [Act.put]
  try simp only [List.setIfInBounds_toArray]
  try simp only [List.set_cons_zero, List.set_cons_succ]
  refine wpAnyH_take (i := 3) (v := undef) rfl (by kernel_rfl) (by kernel_rfl) (by kernel_rfl) (fun _ _ _ h => h) (Or.inr ⟨by rfl, rfl⟩) (by assumption) ?_;try simp only [Act.put]
  try simp only [List.setIfInBounds_toArray]
  try simp only [List.set_cons_zero, List.set_cons_succ]
  refine wpAnyH_take (i := 4) (v := undef) rfl (by kernel_rfl) (by kernel_rfl) (by kernel_rfl) (fun _ _ _ h => h) (Or.inr ⟨by rfl, rfl⟩) (by assumption) ?_;try simp only [Act.put]
  try simp only [List.setIfInBounds_toArray]
  try simp only [List.set_cons_zero, List.set_cons_succ]
  refine wpAnyH_take (i := 5) (v := undef) rfl (by kernel_rfl) (by kernel_rfl) (by kernel_rfl) (fun _ _ _ h => h) (Or.inr ⟨by rfl, rfl⟩) (by assumption) ?_;try simp only [Act.put]
  try simp only [List.setIfInBounds_toArray]
  try simp only [List.set_cons_zero, List.set_cons_succ]
  refine wpAnyH_take (i := 6) (v := ?v6) rfl (by kernel_rfl) (by kernel_rfl) (by kernel_rfl) (fun _ _ _ h => h) (Or.inl ⟨by rfl, ?h6⟩) (by assumption) ?r6
  case h6 =>
   intro W hSw
   (try dsimp only at hSw)
   go_simp
   try (with_reducible rfl)
  try simp only [Act.put]
  try simp only [List.setIfInBounds_toArray]
  try simp only [List.set_cons_zero, List.set_cons_succ]
  refine wpAnyH_take (i := 7) (v := ?v7) rfl (by kernel_rfl) (by kernel_rfl) (by kernel_rfl) (fun _ _ _ h => h) (Or.inl ⟨by rfl, ?h7⟩) (by assumption) ?r7
  case h7 =>
   intro W hSw
   (try dsimp only at hSw)
   go_simp
   try (with_reducible rfl)
  try simp only [Act.put]
  try simp only [List.setIfInBounds_toArray]
  try simp only [List.set_cons_zero, List.set_cons_succ]
  refine wpAnyH_take (i := 8) (v := ?v8) rfl (by kernel_rfl) (by kernel_rfl) (by kernel_rfl) (fun _ _ _ h => h) (Or.inl ⟨by rfl, ?h8⟩) (by assumption) ?r8
  case h8 =>
   intro W hSw
   (try dsimp only at hSw)
   go_simp
   try (with_reducible rfl)
  try simp only [Act.put]
  try simp only [List.setIfInBounds_toArray]
  try simp only [List.set_cons_zero, List.set_cons_succ]
  refine wpAnyH_take (i := 9) (v := ?v9) rfl (by kernel_rfl) (by kernel_rfl) (by kernel_rfl) (fun _ _ _ h => h) (Or.inl ⟨by rfl, ?h9⟩) (by assumption) ?r9
  case h9 =>
   intro W hSw
   (try dsimp only at hSw)
   go_simp
   try (with_reducible rfl)
  try simp only [Act.put]
  try simp only [List.setIfInBounds_toArray]
  try simp only [List.set_cons_zero, List.set_cons_succ]
  refine wpAnyH_take (i := 11) (v := ?v11) rfl (by kernel_rfl) (by kernel_rfl) (by kernel_rfl) (fun _ _ _ h => h) (Or.inl ⟨by rfl, ?h11⟩) (by assumption) ?r11
  case h11 =>
   intro W hSw
   (try dsimp only at hSw)
   go_simp
   try (with_reducible rfl)
  try simp only [Act.put]
  try simp only [List.setIfInBounds_toArray]
  try simp only [List.set_cons_zero, List.set_cons_succ]
  refine wpAnyH_take (i := 13) (v := ?v13) rfl (by kernel_rfl) (by kernel_rfl) (by kernel_rfl) (fun _ _ _ h => h) (Or.inl ⟨by rfl, ?h13⟩) (by assumption) ?r13
  case h13 =>
   intro W hSw
   (try dsimp only at hSw)
   go_simp
   try (with_reducible rfl)
  try simp only [Act.put]
  try simp only [List.setIfInBounds_toArray]
  try simp only [List.set_cons_zero, List.set_cons_succ]
  refine wpAnyH_ready (rs := [10]) (by kernel_rfl) (by decide) (AllReadyH.cons rfl (fun K hK => ?_) AllReadyH.nil);go_simp
  (with_reducible refine (iZ _ p.num.natAbs n _ _ (hxt.q hG0.drew) hz.out b1 b3).mono ?_)
  rintro e w1 ⟨t1, rfl, ht1, hq1d, -⟩;have hq1 : Q w0 w1 := (Q.refl w0).drew.trans hq1d;have hG1 := hG0.trans hq1;have hX1 := hX0.q hq1;have hR1 := hR0.q hq1;obtain ⟨x0, x1, x2⟩ := hX1.cells;obtain ⟨A5, n5, c5, rfl⟩ := ht1.form;go_wp2_with fail
  refine hK.out _ _ (by exact ⟨by assumption, by assumption, by assumption⟩) (fun hHeld => ?_);clear hK K;try simp only [Act.put]
  try simp only [List.setIfInBounds_toArray]
  try simp only [List.set_cons_zero, List.set_cons_succ]
  refine wpAnyH_ready (rs := [12]) (by kernel_rfl) (by decide) (AllReadyH.cons rfl (fun K hK => ?_) AllReadyH.nil);go_simp
  (with_reducible refine (eU _ p _ (hx.q hG1)).mono ?_)
  rintro e w2 ⟨u1, rfl, hu1, hq2⟩;have hG2 := hG1.trans hq2;have hX2 := hX1.q hq2;have hR2 := hR1.q hq2;obtain ⟨x0, x1, x2⟩ := hX2.cells;obtain ⟨A6, n6, c6, rfl⟩ := hu1.form;go_wp2_with fail
  refine hK.out _ _ (by exact ⟨by assumption, by assumption, by assumption⟩) (fun hHeld => ?_);clear hK K;try simp only [Act.put]
  try simp only [List.setIfInBounds_toArray]
  try simp only [List.set_cons_zero, List.set_cons_succ]
  refine wpAnyH_ready (rs := [14]) (by kernel_rfl) (by decide) (AllReadyH.cons rfl (fun K hK => ?_) AllReadyH.nil);go_simp
  (with_reducible refine (iZ _ p.den n _ _ hu1 hz.out b2 b3).mono ?_)
  rintro e w3 ⟨t2, rfl, ht2, hq3, -⟩;have hG3 := hG2.trans hq3;have hX3 := hX2.q hq3;have hR3 := hR2.q hq3;obtain ⟨x0, x1, x2⟩ := hX3.cells;obtain ⟨A7, n7, c7, rfl⟩ := ht2.form;go_wp2_with fail
  refine hK.out _ _ (by exact ⟨by assumption, by assumption, by assumption⟩) (fun hHeld => ?_);clear hK K;try simp only [Act.put]
  try simp only [List.setIfInBounds_toArray]
  try simp only [List.set_cons_zero, List.set_cons_succ]
  refine wpAnyH_ready (rs := [15]) (by kernel_rfl) (by decide) (AllReadyH.cons rfl (fun K hK => ?_) AllReadyH.nil);go_simp
  (with_reducible refine (dW false _ _ (p.num.natAbs ^ n) (p.den ^ n) _ ((ht1.q hq2).q hq3) ht2).mono ?_)
  rintro e w4 ⟨v5, rfl, hv5, hq4⟩;have hG4 := hG3.trans hq4;have hX4 := hX3.q hq4;have hR4 := hR3.q hq4;obtain ⟨x0, x1, x2⟩ := hX4.cells;have fz := hR4.frozen;obtain ⟨r0, r1, r2⟩ := hR4.cells;obtain ⟨B1, d1, B2, d2, rfl, -, -⟩ := hv5.form;have hv := Nq.made (q := p ^ n) hv5 HP.out (fun _ => Rat.den_pow p n);generalize (decide (0 < p.num.natAbs ^ n) && false) = s4 at *
  generalize dg W64 (if p.num.natAbs ^ n = 0 then 0 else bt (p.den ^ n)) = m2 at *
  generalize dg W64 (p.num.natAbs ^ n) = m1 at *
  go_wp2_with fail
  refine hK.out _ _ (by exact ⟨by assumption, by assumption, by assumption⟩) (fun hHeld => ?_);clear hK K;try simp only [Act.put]
  try simp only [List.setIfInBounds_toArray]
  try simp only [List.set_cons_zero, List.set_cons_succ]
  refine wpAnyH_ready (rs := [16]) (by kernel_rfl) (by decide) (AllReadyH.cons rfl (fun K hK => ?_) AllReadyH.nil);go_simp
  refine hK.out _ _ (by exact ⟨(dX oV).trans (by with_reducible assumption), (dX oV).trans (by with_reducible assumption), (dX oV).trans (by with_reducible assumption)⟩) (fun hHeld => ?_);clear hK K;try simp only [Act.put]
  try simp only [List.setIfInBounds_toArray]
  try simp only [List.set_cons_zero, List.set_cons_succ]
  refine wpAnyH_done (by kernel_rfl) ?_ _;go_wp2_with fail
  obtain ⟨z0, z1, z2, hvF, hqF⟩ := Nq.store hR4 hv hG4 (Nat.le_add_right _ _);unfold put3 at z0 z1 z2 hvF hqF;refine bodyPost_ret (v := .agg #[.bool s4, .slice B1 m1 d1, .slice B2 m2 d2]) (by simp [results, Tryz.results130, go_sem, z0, z1, z2]) rfl ?_;exact ⟨_, rfl, hvF, hqF⟩
theorem aJd (x : Value) (p : Rat) (z : Int) (w : World) (hx : Nq w x p) (hB : 64 * sz p + 600 ≤ LIM) : Calls Tryz.prog 66 #[x, .int .i64 z] w fun e w' => ∃ r, e = .returned (.tuple #[r, .int .i64 (aHU p z).1]) ∧ Nq w' r (aHU p z).2 ∧ Q w w' := by
 obtain ⟨s1, A1, n1, c1, A2, n2, c2, rfl, E1, Z1, O1, hxt, hxb⟩ := hx.form;obtain ⟨w0, hW, hG0, hX0, hR0⟩ := vQ w s1 (.slice A1 n1 c1) (.slice A2 n2 c2);have HB := Lib.hid hB; clear hB;by_cases h1 : z < -64
 ·have hd : aHU p z = ((7 : Int), (0 : Rat)) := if_pos (.inl h1);rw [hd];clear hd;have hv := bP w0;obtain ⟨x0, x1, x2⟩ := hX0.cells;have fz := hR0.frozen;obtain ⟨r0, r1, r2⟩ := hR0.cells;go_enter Tryz.func66, Tryz.ntmps66
  go_wp2_with fail
  clear hW;obtain ⟨z0, z1, z2, hvF, hqF⟩ := Nq.store hR0 hv hG0 (Nat.le_add_right _ _);unfold put3 at z0 z1 z2 hvF hqF;refine bodyPost_ret (v := .tuple #[.agg #[.bool false, .slice none 0 0, .slice none 0 0], .int .i64 7]) (by simp [results, Tryz.results66, go_sem, z0, z1, z2]) rfl ?_;exact ⟨_, rfl, hvF, hqF⟩
 ·by_cases h2 : 64 < z
  ·have hd : aHU p z = ((7 : Int), (0 : Rat)) := if_pos (.inr h2);rw [hd];clear hd;have hv := bP w0;obtain ⟨x0, x1, x2⟩ := hX0.cells;have fz := hR0.frozen;obtain ⟨r0, r1, r2⟩ := hR0.cells;go_enter Tryz.func66, Tryz.ntmps66
   go_wp2_with fail
   clear hW;obtain ⟨z0, z1, z2, hvF, hqF⟩ := Nq.store hR0 hv hG0 (Nat.le_add_right _ _);unfold put3 at z0 z1 z2 hvF hqF;refine bodyPost_ret (v := .tuple #[.agg #[.bool false, .slice none 0 0, .slice none 0 0], .int .i64 7]) (by simp [results, Tryz.results66, go_sem, z0, z1, z2]) rfl ?_;exact ⟨_, rfl, hvF, hqF⟩
  ·have hnr : ¬ (z < -64 ∨ 64 < z) := (by omega);by_cases h3 : z < 0
   ·by_cases hp0 : p = 0
    ·have k0 : ((n1 : Int) == 0) = true := (by rw [Z1.out.2 hp0]; rfl);have hd : aHU p z = ((8 : Int), (0 : Rat)) := (by unfold aHU; rw [if_neg hnr, if_pos h3, if_pos hp0]);rw [hd];clear hd hp0 hnr;have hv := bP w0;obtain ⟨x0, x1, x2⟩ := hX0.cells;have fz := hR0.frozen;obtain ⟨r0, r1, r2⟩ := hR0.cells;go_enter Tryz.func66, Tryz.ntmps66
     go_wp2_with fail
     clear hW;obtain ⟨z0, z1, z2, hvF, hqF⟩ := Nq.store hR0 hv hG0 (Nat.le_add_right _ _);unfold put3 at z0 z1 z2 hvF hqF;refine bodyPost_ret (v := .tuple #[.agg #[.bool false, .slice none 0 0, .slice none 0 0], .int .i64 8]) (by simp [results, Tryz.results66, go_sem, z0, z1, z2]) rfl ?_;exact ⟨_, rfl, hvF, hqF⟩
    ·have k0 : ((n1 : Int) == 0) = false := beq_eq_false_iff_ne.2 (fun h => hp0 (Z1.out.1 (by omega)));have hd : aHU p z = ((0 : Int), p⁻¹ ^ (-z).toNat) := (by unfold aHU; rw [if_neg hnr, if_pos h3, if_neg hp0]);rw [hd];have HQ := Lib.hid (fun h => hp0 (Rat.num_eq_zero.1 h) : p.num ≠ 0);obtain ⟨k, hk⟩ : ∃ k : Nat, (-z).toNat = k := ⟨_, rfl⟩
     rw [hk];have hz : Hid (-z = (k : Int)) := (by exact (by omega : -z = (k : Int)));have hk64 : k ≤ 64 := (by omega);clear hd hp0 hnr hk;obtain ⟨x0, x1, x2⟩ := hX0.cells;go_enter Tryz.func66, Tryz.ntmps66
     go_wp2_with fail
     clear hW;refine (aCo _ p _ (hx.q hG0) HQ.out).mono ?_;rintro e w1 ⟨o1, rfl, ho1, hq1⟩;have hG1 := hG0.trans hq1;have hX1 := hX0.q hq1;have hR1 := hR0.q hq1;clear x0 x1 x2;have fz := hR1.frozen;obtain ⟨r0, r1, r2⟩ := hR1.cells;obtain ⟨s5, A5, n5, c5, A6, n6, c6, rfl, -⟩ := ho1.form;go_wp2_with fail
     refine (aAO _ p⁻¹ _ k _ ho1 hz hk64 (by have := aEZ p; have := HB.out; rw [aA] at *; omega)).mono ?_;rintro e w2 ⟨v1, rfl, hv, hq2⟩;have hG2 := hG1.trans hq2;have hX2 := hX1.q hq2;have hR2 := hR1.q hq2;clear fz r0 r1 r2;have fz := hR2.frozen;obtain ⟨r0, r1, r2⟩ := hR2.cells;obtain ⟨s6, B1, m1, d1, B2, m2, d2, rfl, -⟩ := hv.form;go_wp2_with fail
     obtain ⟨z0, z1, z2, hvF, hqF⟩ := Nq.store hR2 hv hG2 (Nat.le_add_right _ _);unfold put3 at z0 z1 z2 hvF hqF;refine bodyPost_ret (v := .tuple #[.agg #[.bool s6, .slice B1 m1 d1, .slice B2 m2 d2], .int .i64 0]) (by simp [results, Tryz.results66, go_sem, z0, z1, z2]) rfl ?_;exact ⟨_, rfl, hvF, hqF⟩
   ·have hd : aHU p z = ((0 : Int), p ^ z.toNat) := (by unfold aHU; rw [if_neg hnr, if_neg h3]);rw [hd];obtain ⟨k, hk⟩ : ∃ k : Nat, z.toNat = k := ⟨_, rfl⟩
    rw [hk];have hz : Hid (z = (k : Int)) := (by exact (by omega : z = (k : Int)));have hk64 : k ≤ 64 := (by omega);clear hd hnr hk;obtain ⟨x0, x1, x2⟩ := hX0.cells;go_enter Tryz.func66, Tryz.ntmps66
    go_wp2_with fail
    clear hW;refine (aAO _ p _ k _ (hx.q hG0) hz hk64 (by have := HB.out; rw [aA] at *; omega)).mono ?_;rintro e w1 ⟨v1, rfl, hv, hq1⟩;have hG1 := hG0.trans hq1;have hX1 := hX0.q hq1;have hR1 := hR0.q hq1;clear x0 x1 x2;have fz := hR1.frozen;obtain ⟨r0, r1, r2⟩ := hR1.cells;obtain ⟨s6, B1, m1, d1, B2, m2, d2, rfl, -⟩ := hv.form;go_wp2_with fail
    obtain ⟨z0, z1, z2, hvF, hqF⟩ := Nq.store hR1 hv hG1 (Nat.le_add_right _ _);unfold put3 at z0 z1 z2 hvF hqF;refine bodyPost_ret (v := .tuple #[.agg #[.bool s6, .slice B1 m1 d1, .slice B2 m2 d2], .int .i64 0]) (by simp [results, Tryz.results66, go_sem, z0, z1, z2]) rfl ?_;exact ⟨_, rfl, hvF, hqF⟩
theorem aEv (a b : Int) (w : World) (hT : Tb w) (a0 : -9223372036854775808 ≤ a) (a1 : a ≤ 9223372036854775807) (b0 : -9223372036854775808 ≤ b) (b1 : b ≤ 9223372036854775807) : Calls Tryz.prog 92 #[.int .i64 a, .int .i64 b] w fun e w' => ∃ r, e = .returned (.tuple #[r, .int .i64 (mI a b).1]) ∧ Nq w' r (mI a b).2 ∧ Q w w' := by
 obtain ⟨w0, hW, hG0, hR0⟩ : ∃ W, w.alloc (.cells #[.bool false, .slice none 0 0, .slice none 0 0] 25) = W ∧ Q w W ∧ Nb W w.heap.size false (.slice none 0 0) (.slice none 0 0) := ⟨_, rfl, (Q.refl _).alloc _, Nb.new w _ _ _⟩
 obtain ⟨er, her⟩ : ∃ er, (mI (a : Rat) (b : Rat)).1 = er := ⟨_, rfl⟩
 rw [her];have HER := Lib.hid her; clear her;have sa := yO a (by rw [aU]; omega); have sb := yO b (by rw [aU]; omega);go_enter Tryz.func92, Tryz.ntmps92
 go_wp2_with fail
 clear hW;refine (uR a _ a0 a1).mono ?_;rintro e w1 ⟨o1, rfl, ho1, hq1⟩;have hG1 := hG0.trans hq1;have hR1 := hR0.q hq1;obtain ⟨s1, A1, n1, c1, A2, n2, c2, rfl, -⟩ := ho1.form;go_wp2_with fail
 refine (uR b _ b0 b1).mono ?_;rintro e w2 ⟨o2, rfl, ho2, hq2⟩;have hG2 := hG1.trans hq2;have hR2 := hR1.q hq2;have fz := hR2.frozen;obtain ⟨r0, r1, r2⟩ := hR2.cells;obtain ⟨s2, A3, n3, c3, A4, n4, c4, rfl, -⟩ := ho2.form;go_wp2_with fail
 refine (aDS _ _ a b _ (hT.q hG2) (ho1.q hq2) ho2 (by rw [aA]; omega)).mono ?_;rintro e w3 ⟨v1, rfl, hv, hq3⟩;have hG3 := hG2.trans hq3;have hR3 := hR2.q hq3;clear fz r0 r1 r2;have fz := hR3.frozen;obtain ⟨r0, r1, r2⟩ := hR3.cells;rw [HER.out];obtain ⟨s6, B1, m1, d1, B2, m2, d2, rfl, -⟩ := hv.form;go_wp2_with fail
 obtain ⟨z0, z1, z2, hvF, hqF⟩ := Nq.store hR3 hv hG3 (Nat.le_refl _);unfold put3 at z0 z1 z2 hvF hqF;refine bodyPost_ret (v := .tuple #[.agg #[.bool s6, .slice B1 m1 d1, .slice B2 m2 d2], .int .i64 er]) (by simp [results, Tryz.results92, go_sem, z0, z1, z2]) rfl ?_;exact ⟨_, rfl, hvF, hqF⟩
end Go.Proofs.YtgpacgadpnpjjaaGreatDoor
