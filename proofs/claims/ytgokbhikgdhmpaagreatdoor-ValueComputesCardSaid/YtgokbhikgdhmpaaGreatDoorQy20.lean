/- x. Part of the proof: texts Ve1 Ve2 Ve3. -/
import Derived.Test.YtgokbhikgdhmpaaGreatDoorQy19
set_option maxHeartbeats 2000000
namespace Go.Proofs.YtgokbhikgdhmpaaGreatDoor
open Go.RowKit
open Ma Me
theorem xY {n : Nat} : n ≠ n + 1 + 1 := by omega
theorem xZ {n : Nat} : n + 1 ≠ n + 1 + 1 := by omega
theorem rM {n : Nat} : n ≠ n + 1 := by omega
theorem dI {w : World} {g b o : Nat} {s t u : Value} (h : b ≠ g) : (((w.setCell ⟨g, 0, none⟩ s).setCell ⟨g, 1, none⟩ t).setCell ⟨g, 2, none⟩ u).cell? ⟨b, o, none⟩ = w.cell? ⟨b, o, none⟩ := by
 rw [World.cell?_setCell_other _ _ _ _ (by intro e; cases e; exact h rfl), World.cell?_setCell_other _ _ _ _ (by intro e; cases e; exact h rfl), World.cell?_setCell_other _ _ _ _ (by intro e; cases e; exact h rfl)]
theorem tK (p : Rat) : sz (eH p) = sz p := by
 unfold eH; split
 ·exact iT p
 ·rfl
theorem kN (q : Rat) : (eH q).num = q.num.natAbs ∧ (eH q).den = q.den := by
 unfold eH;by_cases h : q < 0
 ·have h1 := (cB q).2 h;rw [if_pos h, Rat.neg_num, Rat.neg_den];exact ⟨by omega, rfl⟩
 ·have h1 : ¬ q.num < 0 := fun h2 => h ((cB q).1 h2);rw [if_neg h];exact ⟨by omega, rfl⟩
theorem aAO (v : Value) (q : Rat) (w : World) (hv : Nq w v q) : Calls Tryz.prog 127 #[v] w fun e w' => ∃ r, e = .returned r ∧ Nq w' r (eH q) ∧ Q w w' := by
 refine (aGh v _ _ _ w hv).mono ?_;rintro e w' ⟨r, h1, h2, h3⟩;refine ⟨r, h1, ?_, h3⟩;unfold Nq;rw [(kN q).1, (kN q).2, Int.natAbs_natCast, decide_eq_false (by omega)];exact h2
def aW (p q : Rat) : Int × Rat := if q = 0 then (8, 0) else (0, p * q⁻¹)
theorem aGG (x y : Value) (p q : Rat) (w : World) (hT : Tb w) (hx : Nq w x p) (hy : Nq w y q) (hB : 64 * (sz p + sz q) + 400 ≤ LIM) : Calls Tryz.prog 37 #[x, y] w fun e w' => ∃ r, e = .returned r ∧ Nq w' r (p - q) ∧ Q w w' := by
 obtain ⟨s1, A1, n1, c1, A2, n2, c2, rfl, E1, Z1, O1, hxt, hxb⟩ := hx.form;obtain ⟨s2, A3, n3, c3, A4, n4, c4, rfl, E2, Z2, O2, hyt, hyb⟩ := hy.form;obtain ⟨w0, hW, hG0, hX0, hY0, hR0⟩ := iZ w s1 (.slice A1 n1 c1) (.slice A2 n2 c2) s2 (.slice A3 n3 c3) (.slice A4 n4 c4);have HB := Lib.hid hB; clear hB;obtain ⟨x0, x1, x2⟩ := hX0.cells;obtain ⟨y0, y1, y2⟩ := hY0.cells;go_enter Tryz.func37, Tryz.ntmps37
 go_wp2_with fail
 clear hW;clear x0 x1 x2 y0 y1 y2;obtain ⟨x0, x1, x2⟩ := hX0.cells;obtain ⟨y0, y1, y2⟩ := hY0.cells
 go_region_held3 (fun W => W.cell? ⟨w.heap.size, 0, none⟩ = some (.bool s1) ∧ W.cell? ⟨w.heap.size, 1, none⟩ = some (.slice A1 n1 c1) ∧ W.cell? ⟨w.heap.size, 2, none⟩ = some (.slice A2 n2 c2) ∧ W.cell? ⟨w.heap.size + 1, 0, none⟩ = some (.bool s2) ∧ W.cell? ⟨w.heap.size + 1, 1, none⟩ = some (.slice A3 n3 c3) ∧ W.cell? ⟨w.heap.size + 1, 2, none⟩ = some (.slice A4 n4 c4)) (first | exact ⟨x0, x1, x2, y0, y1, y2⟩ | exact ⟨by assumption, by assumption, by assumption, by assumption, by assumption, by assumption⟩ | exact ⟨(dI xY).trans (by assumption), (dI xY).trans (by assumption), (dI xY).trans (by assumption), (dI xZ).trans (by assumption), (dI xZ).trans (by assumption), (dI xZ).trans (by assumption)⟩ | go_keep) (first
  | (go_at_call 35; refine (aEQ _ _ p (-q) _ (hT.q hG1) (hx.q hG1) ho1 (show 64 * (sz p + sz (-q)) + 400 ≤ LIM by rw [iT]; exact HB.out)).mono ?_; rintro e w2 ⟨v1, rfl, hv, hq2⟩; have hG2 := hG1.trans hq2; have hX2 := hX1.q hq2; have hY2 := hY1.q hq2; have hR2 := hR1.q hq2; obtain ⟨x0, x1, x2⟩ := hX2.cells; obtain ⟨y0, y1, y2⟩ := hY2.cells; have fz := hR2.frozen; obtain ⟨r0, r1, r2⟩ := hR2.cells; rw [← Rat.sub_eq_add_neg] at hv; obtain ⟨s6, B1, m1, d1, B2, m2, d2, rfl, -⟩ := hv.form)
  | (go_at_call 140; refine (wW _ q _ (hy.q hG0.drew)).mono ?_; rintro e w1 ⟨o1, rfl, ho1, hq1d⟩; have hq1 : Q w0 w1 := (Q.refl w0).drew.trans hq1d; have hG1 := hG0.trans hq1; have hX1 := hX0.q hq1; have hY1 := hY0.q hq1; have hR1 := hR0.q hq1; obtain ⟨x0, x1, x2⟩ := hX1.cells; obtain ⟨y0, y1, y2⟩ := hY1.cells; obtain ⟨s5, A5, n5, c5, A6, n6, c6, rfl, -⟩ := ho1.form))
 all_goals
  go_wp2_with fail
  obtain ⟨z0, z1, z2, hvF, hqF⟩ := Nq.store hR2 hv hG2 (by exact Nat.le_add_right_of_le (Nat.le_add_right _ _));unfold put3 at z0 z1 z2 hvF hqF;refine bodyPost_ret (v := .agg #[.bool s6, .slice B1 m1 d1, .slice B2 m2 d2]) (by simp [results, Tryz.results37, go_sem, z0, z1, z2]) rfl ?_;exact ⟨_, rfl, hvF, hqF⟩
theorem aGH (x : Value) (p : Rat) (w : World) (hx : Nq w x p) (hB : sz p ≤ LIM) : Calls Tryz.prog 43 #[x] w fun e w' => ∃ r, e = .returned r ∧ Nq w' r (-p) ∧ Q w w' := by
 obtain ⟨s1, A1, n1, c1, A2, n2, c2, rfl, E1, Z1, O1, hxt, hxb⟩ := hx.form;obtain ⟨w0, hW, hG0, hX0, hR0⟩ := pU w s1 (.slice A1 n1 c1) (.slice A2 n2 c2);have HB := Lib.hid hB; clear hB;obtain ⟨x0, x1, x2⟩ := hX0.cells;go_enter Tryz.func43, Tryz.ntmps43
 go_wp2_with fail
 clear hW;refine (wW _ p _ (hx.q hG0)).mono ?_;rintro e w1 ⟨o1, rfl, ho1, hq1⟩;have hG1 := hG0.trans hq1;have hX1 := hX0.q hq1;have hR1 := hR0.q hq1;clear x0 x1 x2;have fz := hR1.frozen;obtain ⟨r0, r1, r2⟩ := hR1.cells;obtain ⟨s5, A5, n5, c5, A6, n6, c6, rfl, -⟩ := ho1.form;go_wp2_with fail
 refine (rG _ (-p) _ ho1 (Nat.le_trans (fO _) (by rw [iT p]; exact HB.out)) (Nat.le_trans (fC _) (by rw [iT p]; exact HB.out))).mono ?_;rintro e w2 ⟨v1, rfl, hv, hq2⟩;have hG2 := hG1.trans hq2;have hX2 := hX1.q hq2;have hR2 := hR1.q hq2;clear fz r0 r1 r2;have fz := hR2.frozen;obtain ⟨r0, r1, r2⟩ := hR2.cells;obtain ⟨s6, B1, m1, d1, B2, m2, d2, rfl, -⟩ := hv.form;go_wp2_with fail
 obtain ⟨z0, z1, z2, hvF, hqF⟩ := Nq.store hR2 hv hG2 (Nat.le_add_right _ _);unfold put3 at z0 z1 z2 hvF hqF;refine bodyPost_ret (v := .agg #[.bool s6, .slice B1 m1 d1, .slice B2 m2 d2]) (by simp [results, Tryz.results43, go_sem, z0, z1, z2]) rfl ?_;exact ⟨_, rfl, hvF, hqF⟩
theorem aGI (x : Value) (p : Rat) (w : World) (hx : Nq w x p) (hB : sz p ≤ LIM) : Calls Tryz.prog 45 #[x] w fun e w' => ∃ r, e = .returned r ∧ Nq w' r (eH p) ∧ Q w w' := by
 obtain ⟨s1, A1, n1, c1, A2, n2, c2, rfl, E1, Z1, O1, hxt, hxb⟩ := hx.form;obtain ⟨w0, hW, hG0, hX0, hR0⟩ := pU w s1 (.slice A1 n1 c1) (.slice A2 n2 c2);have HB := Lib.hid hB; clear hB;obtain ⟨x0, x1, x2⟩ := hX0.cells;go_enter Tryz.func45, Tryz.ntmps45
 go_wp2_with fail
 clear hW;refine (aAO _ p _ (hx.q hG0)).mono ?_;rintro e w1 ⟨o1, rfl, ho1, hq1⟩;have hG1 := hG0.trans hq1;have hX1 := hX0.q hq1;have hR1 := hR0.q hq1;clear x0 x1 x2;have fz := hR1.frozen;obtain ⟨r0, r1, r2⟩ := hR1.cells;obtain ⟨s5, A5, n5, c5, A6, n6, c6, rfl, -⟩ := ho1.form;go_wp2_with fail
 refine (rG _ (eH p) _ ho1 (Nat.le_trans (fO _) (by rw [tK p]; exact HB.out)) (Nat.le_trans (fC _) (by rw [tK p]; exact HB.out))).mono ?_;rintro e w2 ⟨v1, rfl, hv, hq2⟩;have hG2 := hG1.trans hq2;have hX2 := hX1.q hq2;have hR2 := hR1.q hq2;clear fz r0 r1 r2;have fz := hR2.frozen;obtain ⟨r0, r1, r2⟩ := hR2.cells;obtain ⟨s6, B1, m1, d1, B2, m2, d2, rfl, -⟩ := hv.form;go_wp2_with fail
 obtain ⟨z0, z1, z2, hvF, hqF⟩ := Nq.store hR2 hv hG2 (Nat.le_add_right _ _);unfold put3 at z0 z1 z2 hvF hqF;refine bodyPost_ret (v := .agg #[.bool s6, .slice B1 m1 d1, .slice B2 m2 d2]) (by simp [results, Tryz.results45, go_sem, z0, z1, z2]) rfl ?_;exact ⟨_, rfl, hvF, hqF⟩
theorem mH (x : Value) (p : Rat) (w : World) (hx : Nq w x p) : Calls Tryz.prog 47 #[x] w fun e w' => e = .returned (.int .i64 (sn p)) ∧ Q w w' := by
 obtain ⟨s1, A1, n1, c1, A2, n2, c2, rfl, E1, Z1, O1, hxt, hxb⟩ := hx.form;obtain ⟨w0, hW, hG0, hX0⟩ := nR w s1 (.slice A1 n1 c1) (.slice A2 n2 c2);obtain ⟨x0, x1, x2⟩ := hX0.cells;rcases bH p with ⟨hp, e⟩ | ⟨hp, e⟩ | ⟨hp, e⟩
 ·rw [e];have k0 : s1 = true := (by rw [E1.out]; exact decide_eq_true ((cB p).2 hp));subst k0;clear e hp;go_enter Tryz.func47, Tryz.ntmps47
  go_wp2_with fail
  go_ret
  exact ⟨rfl, hG0⟩
 ·rw [e];have k0 : s1 = false := (by rw [E1.out]; exact decide_eq_false (fun h => by have := (cB p).1 h; grind));subst k0;have k1 : ((n1 : Int) == 0) = true := (by rw [Z1.out.2 hp]; rfl);clear e hp;go_enter Tryz.func47, Tryz.ntmps47
  go_wp2_with fail
  go_ret
  exact ⟨rfl, hG0⟩
 ·rw [e];have k0 : s1 = false := (by rw [E1.out]; exact decide_eq_false (fun h => by have := (cB p).1 h; grind));subst k0;have k1 : ((n1 : Int) == 0) = false := beq_eq_false_iff_ne.2 (fun h => by have := Z1.out.1 (by omega); grind);clear e hp;go_enter Tryz.func47, Tryz.ntmps47
  go_wp2_with fail
  go_ret
  exact ⟨rfl, hG0⟩
theorem aCk (x y : Value) (p q : Rat) (w : World) (hT : Tb w) (hx : Nq w x p) (hy : Nq w y q) (hB : 16 * (sz p + sz q) + 200 ≤ LIM) : Calls Tryz.prog 31 #[x, y] w fun e w' => ∃ r, e = .returned (.tuple #[r, .int .i64 (aW p q).1]) ∧ Nq w' r (aW p q).2 ∧ Q w w' := by
 obtain ⟨s1, A1, n1, c1, A2, n2, c2, rfl, E1, Z1, O1, hxt, hxb⟩ := hx.form;obtain ⟨s2, A3, n3, c3, A4, n4, c4, rfl, E2, Z2, O2, hyt, hyb⟩ := hy.form;obtain ⟨w0, hW, hG0, hX0, hY0, hR0⟩ := iZ w s1 (.slice A1 n1 c1) (.slice A2 n2 c2) s2 (.slice A3 n3 c3) (.slice A4 n4 c4);have HB := Lib.hid hB; clear hB;by_cases hq0 : q = 0
 ·have k0 : ((n3 : Int) == 0) = true := (by rw [Z2.out.2 hq0]; rfl);have hd : aW p q = ((8 : Int), (0 : Rat)) := if_pos hq0;rw [hd];have hv := dE w0;clear hd hq0;obtain ⟨y0, y1, y2⟩ := hY0.cells;have fz := hR0.frozen;obtain ⟨r0, r1, r2⟩ := hR0.cells;go_enter Tryz.func31, Tryz.ntmps31
  go_wp2_with fail
  clear hW;obtain ⟨z0, z1, z2, hvF, hqF⟩ := Nq.store hR0 hv hG0 (by exact Nat.le_add_right_of_le (Nat.le_add_right _ _));unfold put3 at z0 z1 z2 hvF hqF;refine bodyPost_ret (v := .tuple #[.agg #[.bool false, .slice none 0 0, .slice none 0 0], .int .i64 8]) (by simp [results, Tryz.results31, go_sem, z0, z1, z2]) rfl ?_;exact ⟨_, rfl, hvF, hqF⟩
 ·have k0 : ((n3 : Int) == 0) = false := beq_eq_false_iff_ne.2 (fun h => hq0 (Z2.out.1 (by omega)));have hd : aW p q = ((0 : Int), p * q⁻¹) := if_neg hq0;rw [hd];have HQ := Lib.hid (fun h => hq0 (Rat.num_eq_zero.1 h) : q.num ≠ 0);clear hd hq0;obtain ⟨x0, x1, x2⟩ := hX0.cells;obtain ⟨y0, y1, y2⟩ := hY0.cells;go_enter Tryz.func31, Tryz.ntmps31
  go_wp2_with fail
  clear hW k0;clear x0 x1 x2 y0 y1 y2;obtain ⟨x0, x1, x2⟩ := hX0.cells;obtain ⟨y0, y1, y2⟩ := hY0.cells
  go_region_held3 (fun W => W.cell? ⟨w.heap.size, 0, none⟩ = some (.bool s1) ∧ W.cell? ⟨w.heap.size, 1, none⟩ = some (.slice A1 n1 c1) ∧ W.cell? ⟨w.heap.size, 2, none⟩ = some (.slice A2 n2 c2) ∧ W.cell? ⟨w.heap.size + 1, 0, none⟩ = some (.bool s2) ∧ W.cell? ⟨w.heap.size + 1, 1, none⟩ = some (.slice A3 n3 c3) ∧ W.cell? ⟨w.heap.size + 1, 2, none⟩ = some (.slice A4 n4 c4)) (first | exact ⟨x0, x1, x2, y0, y1, y2⟩ | exact ⟨by assumption, by assumption, by assumption, by assumption, by assumption, by assumption⟩ | exact ⟨(dI xY).trans (by assumption), (dI xY).trans (by assumption), (dI xY).trans (by assumption), (dI xZ).trans (by assumption), (dI xZ).trans (by assumption), (dI xZ).trans (by assumption)⟩ | go_keep) (first
   | (go_at_call 29; refine (rH _ _ p q⁻¹ _ (hT.q hG1) (hx.q hG1) ho1 (show 16 * (sz p + sz q⁻¹) + 100 ≤ LIM by have := aAs q; have := HB.out; rw [aA] at *; omega)).mono ?_; rintro e w2 ⟨v1, rfl, hv, hq2⟩; have hG2 := hG1.trans hq2; have hX2 := hX1.q hq2; have hY2 := hY1.q hq2; have hR2 := hR1.q hq2; obtain ⟨x0, x1, x2⟩ := hX2.cells; obtain ⟨y0, y1, y2⟩ := hY2.cells; have fz := hR2.frozen; obtain ⟨r0, r1, r2⟩ := hR2.cells; obtain ⟨s6, B1, m1, d1, B2, m2, d2, rfl, -⟩ := hv.form)
   | (go_at_call 132; refine (aDm _ q _ (hy.q hG0.drew) HQ.out).mono ?_; rintro e w1 ⟨o1, rfl, ho1, hq1d⟩; have hq1 : Q w0 w1 := (Q.refl w0).drew.trans hq1d; have hG1 := hG0.trans hq1; have hX1 := hX0.q hq1; have hY1 := hY0.q hq1; have hR1 := hR0.q hq1; obtain ⟨x0, x1, x2⟩ := hX1.cells; obtain ⟨y0, y1, y2⟩ := hY1.cells; obtain ⟨s5, A5, n5, c5, A6, n6, c6, rfl, -⟩ := ho1.form))
  all_goals
   go_wp2_with fail
   obtain ⟨z0, z1, z2, hvF, hqF⟩ := Nq.store hR2 hv hG2 (by exact Nat.le_add_right_of_le (Nat.le_add_right _ _));unfold put3 at z0 z1 z2 hvF hqF;refine bodyPost_ret (v := .tuple #[.agg #[.bool s6, .slice B1 m1 d1, .slice B2 m2 d2], .int .i64 0]) (by simp [results, Tryz.results31, go_sem, z0, z1, z2]) rfl ?_;exact ⟨_, rfl, hvF, hqF⟩
set_option maxRecDepth 100000 in
theorem aFv (x y : Value) (p q : Rat) (w : World) (hx : Nq w x p) (hy : Nq w y q) (hB : 64 * (sz p + sz q) + 400 ≤ LIM) (hp1 : p.den = 1) (hp2 : q.den = 1) : Calls Tryz.prog 133 #[x, y] w fun e w' => e = .returned (.int .i64 (cmp (p.num.natAbs * q.den) (q.num.natAbs * p.den))) ∧ Q w w' := by
 obtain ⟨s1, A1, n1, c1, A2, n2, c2, rfl, E1, Z1, O1, hxt, hxb⟩ := hx.form;obtain ⟨s2, A3, n3, c3, A4, n4, c4, rfl, E2, Z2, O2, hyt, hyb⟩ := hy.form;obtain ⟨w0, hW, hG0, hX0, hY0⟩ := tH w s1 (.slice A1 n1 c1) (.slice A2 n2 c2) s2 (.slice A3 n3 c3) (.slice A4 n4 c4);have HB := Lib.hid hB; clear hB;obtain ⟨x0, x1, x2⟩ := hX0.cells;obtain ⟨y0, y1, y2⟩ := hY0.cells;go_enter Tryz.func133, Tryz.ntmps133
 go_wp2_with fail
 clear hW;refine (fT _ p _ (hx.q hG0)).mono ?_;rintro e w1 ⟨rfl, hq1⟩;have hG1 := hG0.trans hq1;have hX1 := hX0.q hq1;have hY1 := hY0.q hq1;clear x0 x1 x2 y0 y1 y2;obtain ⟨x0, x1, x2⟩ := hX1.cells;obtain ⟨y0, y1, y2⟩ := hY1.cells;rw [decide_eq_true hp1];have HP1 := Lib.hid hp1; clear hp1;go_wp2_with fail
 refine (fT _ q _ (hy.q hG1)).mono ?_;rintro e w2 ⟨rfl, hq2⟩;have hG2 := hG1.trans hq2;have hX2 := hX1.q hq2;have hY2 := hY1.q hq2;clear x0 x1 x2 y0 y1 y2;obtain ⟨x0, x1, x2⟩ := hX2.cells;obtain ⟨y0, y1, y2⟩ := hY2.cells;rw [decide_eq_true hp2];have HP2 := Lib.hid hp2; clear hp2;go_wp2_with fail
 refine (bL _ _ _ _ _ (hxt.q hG2) (hyt.q hG2) (show dg W64 p.num.natAbs ≤ LIM by have := HB.out; have := aM p; have := aM q; rw [aA] at *; omega) (show dg W64 q.num.natAbs ≤ LIM by have := HB.out; have := aM p; have := aM q; rw [aA] at *; omega)).mono ?_;rintro e w3 ⟨rfl, hq3⟩;have hG3 := hG2.trans hq3;have hX3 := hX2.q hq3;have hY3 := hY2.q hq3;clear x0 x1 x2 y0 y1 y2;go_wp2_with fail
 go_ret
 exact ⟨gV (by rw [HP1.out, HP2.out, Nat.mul_one, Nat.mul_one]), hG3⟩
set_option maxRecDepth 100000 in
theorem aFw (x y : Value) (p q : Rat) (w : World) (hx : Nq w x p) (hy : Nq w y q) (hB : 64 * (sz p + sz q) + 400 ≤ LIM) (hp1 : p.den = 1) (hp2 : ¬ q.den = 1) (h0 : p ≠ 0) (h1 : q ≠ 0) : Calls Tryz.prog 133 #[x, y] w fun e w' => e = .returned (.int .i64 (cmp (p.num.natAbs * q.den) (q.num.natAbs * p.den))) ∧ Q w w' := by
 obtain ⟨s1, A1, n1, c1, A2, n2, c2, rfl, E1, Z1, O1, hxt, hxb⟩ := hx.form;obtain ⟨s2, A3, n3, c3, A4, n4, c4, rfl, E2, Z2, O2, hyt, hyb⟩ := hy.form;obtain ⟨w0, hW, hG0, hX0, hY0⟩ := tH w s1 (.slice A1 n1 c1) (.slice A2 n2 c2) s2 (.slice A3 n3 c3) (.slice A4 n4 c4);have HB := Lib.hid hB; clear hB;have hbl1 := jB p.num.natAbs; have hbl2 := jB q.den; have hbl3 := jB q.num.natAbs; have hbl4 := jB p.den;have hz1 := aM p; have hz2 := aM q; have hB0 := HB.out;have hC := uZ (a := p.num.natAbs) (b := q.den) (c := q.num.natAbs) (d := p.den) (gH h0) q.den_pos (gH h1) p.den_pos;obtain ⟨La, hLa⟩ : ∃ L, bl p.num.natAbs = L := ⟨_, rfl⟩
 obtain ⟨Lb, hLb⟩ : ∃ L, bl q.den = L := ⟨_, rfl⟩
 obtain ⟨Lc, hLc⟩ : ∃ L, bl q.num.natAbs = L := ⟨_, rfl⟩
 obtain ⟨Ld, hLd⟩ : ∃ L, bl p.den = L := ⟨_, rfl⟩
 rw [hLa] at hbl1 hC; rw [hLb] at hbl2 hC; rw [hLc] at hbl3 hC; rw [hLd] at hbl4 hC;have HLa := Lib.hid hLa; clear hLa;have HLb := Lib.hid hLb; clear hLb;have HLc := Lib.hid hLc; clear hLc;have HLd := Lib.hid hLd; clear hLd;have b1 : dg W64 p.num.natAbs ≤ LIM := by rw [aA] at *; omega
 have b2 : dg W64 q.den ≤ LIM := by rw [aA] at *; omega
 have b3 : dg W64 q.num.natAbs ≤ LIM := by rw [aA] at *; omega
 have b4 : dg W64 p.den ≤ LIM := by rw [aA] at *; omega
 have b5 : dg W64 p.num.natAbs + dg W64 q.den + 8 ≤ LIM := by rw [aA] at *; omega
 have b6 : dg W64 q.num.natAbs + dg W64 p.den + 8 ≤ LIM := by rw [aA] at *; omega
 have b7 : dg W64 (p.num.natAbs * q.den) ≤ LIM := by have := bU aB p.num.natAbs q.den; rw [aA] at *; omega
 have b8 : dg W64 (q.num.natAbs * p.den) ≤ LIM := by have := bU aB q.num.natAbs p.den; rw [aA] at *; omega
 have HC := Lib.hid hC; clear hC;obtain ⟨m, hM⟩ : ∃ m : Int, (La : Int) + Lb - Lc - Ld = m := ⟨_, rfl⟩
 have t1 : IntKind.i64.wrap ((La : Int) + Lb) = (La : Int) + Lb := IntWalk.i64_in _ (by rw [aA] at *; omega);have t2 : IntKind.i64.wrap ((La : Int) + Lb - Lc) = (La : Int) + Lb - Lc := IntWalk.i64_in _ (by rw [aA] at *; omega);have t3 : IntKind.i64.wrap ((La : Int) + Lb - Lc - Ld) = m := by rw [← hM]; exact IntWalk.i64_in _ (by rw [aA] at *; omega)
 have HM := Lib.hid hM; clear hM;clear hbl1 hbl2 hbl3 hbl4 hz1 hz2 hB0;obtain ⟨x0, x1, x2⟩ := hX0.cells;obtain ⟨y0, y1, y2⟩ := hY0.cells;go_enter Tryz.func133, Tryz.ntmps133
 go_wp2_with fail
 clear hW;refine (fT _ p _ (hx.q hG0)).mono ?_;rintro e w1 ⟨rfl, hq1⟩;have hG1 := hG0.trans hq1;have hX1 := hX0.q hq1;have hY1 := hY0.q hq1;clear x0 x1 x2 y0 y1 y2;obtain ⟨x0, x1, x2⟩ := hX1.cells;obtain ⟨y0, y1, y2⟩ := hY1.cells;rw [decide_eq_true hp1];have HP1 := Lib.hid hp1; clear hp1;go_wp2_with fail
 refine (fT _ q _ (hy.q hG1)).mono ?_;rintro e w2 ⟨rfl, hq2⟩;have hG2 := hG1.trans hq2;have hX2 := hX1.q hq2;have hY2 := hY1.q hq2;clear x0 x1 x2 y0 y1 y2;obtain ⟨x0, x1, x2⟩ := hX2.cells;obtain ⟨y0, y1, y2⟩ := hY2.cells;rw [decide_eq_false hp2];go_wp2_with fail
 clear x0 x1 x2 y0 y1 y2;obtain ⟨x0, x1, x2⟩ := hX2.cells;obtain ⟨y0, y1, y2⟩ := hY2.cells
 go_region_held3 (fun W => W.cell? ⟨w.heap.size, 0, none⟩ = some (.bool s1) ∧ W.cell? ⟨w.heap.size, 1, none⟩ = some (.slice A1 n1 c1) ∧ W.cell? ⟨w.heap.size, 2, none⟩ = some (.slice A2 n2 c2) ∧ W.cell? ⟨w.heap.size + 1, 0, none⟩ = some (.bool s2) ∧ W.cell? ⟨w.heap.size + 1, 1, none⟩ = some (.slice A3 n3 c3) ∧ W.cell? ⟨w.heap.size + 1, 2, none⟩ = some (.slice A4 n4 c4)) (first | exact ⟨x0, x1, x2, y0, y1, y2⟩ | exact ⟨by assumption, by assumption, by assumption, by assumption, by assumption, by assumption⟩ | go_keep) (first
  | (go_at_call 178; (with_reducible refine (dD _ p.den _ hu2 b4).mono ?_); rintro e w95 ⟨rfl, rfl⟩; rw [HLd.out])
  | (go_at_call 136; (with_reducible refine (bG _ p _ (hx.q hG3)).mono ?_); rintro e w4 ⟨u2, rfl, hu2, hq4⟩; have hG4 := hG3.trans hq4; have hX4 := hX3.q hq4; have hY4 := hY3.q hq4; obtain ⟨x0, x1, x2⟩ := hX4.cells; obtain ⟨y0, y1, y2⟩ := hY4.cells; obtain ⟨A6, n6, c6, rfl⟩ := hu2.form)
  | (go_at_call 178; (with_reducible refine (dD _ q.num.natAbs _ (hyt.q hG3) b3).mono ?_); rintro e w93 ⟨rfl, rfl⟩; rw [HLc.out])
  | (go_at_call 178; (with_reducible refine (dD _ q.den _ hu1 b2).mono ?_); rintro e w92 ⟨rfl, rfl⟩; rw [HLb.out])
  | (go_at_call 136; (with_reducible refine (bG _ q _ (hy.q hG2.drew)).mono ?_); rintro e w3 ⟨u1, rfl, hu1, hq3d⟩; have hq3 : Q w2 w3 := (Q.refl w2).drew.trans hq3d; have hG3 := hG2.trans hq3; have hX3 := hX2.q hq3; have hY3 := hY2.q hq3; obtain ⟨x0, x1, x2⟩ := hX3.cells; obtain ⟨y0, y1, y2⟩ := hY3.cells; obtain ⟨A5, n5, c5, rfl⟩ := hu1.form)
  | (go_at_call 178; (with_reducible refine (dD _ p.num.natAbs _ (hxt.q hG2.drew) b1).mono ?_); rintro e w90 ⟨rfl, rfl⟩; rw [HLa.out]))
 all_goals
  clear t1 t2 t3 hu1 hu2;by_cases hm1 : 1 < m
  ·go_wp2_with fail
   go_ret
   exact ⟨gV (HC.out.1 (by have := HM.out; omega)).symm, hG4⟩
  ·by_cases hm2 : m < -1
   ·go_wp2_with fail
    go_ret
    exact ⟨gV (HC.out.2 (by have := HM.out; omega)).symm, hG4⟩
   ·obtain ⟨x0, x1, x2⟩ := hX4.cells;obtain ⟨y0, y1, y2⟩ := hY4.cells;go_wp2_with fail
    clear x0 x1 x2 y0 y1 y2;obtain ⟨x0, x1, x2⟩ := hX4.cells;obtain ⟨y0, y1, y2⟩ := hY4.cells
    go_region_held3 (fun W => W.cell? ⟨w.heap.size, 0, none⟩ = some (.bool s1) ∧ W.cell? ⟨w.heap.size, 1, none⟩ = some (.slice A1 n1 c1) ∧ W.cell? ⟨w.heap.size, 2, none⟩ = some (.slice A2 n2 c2) ∧ W.cell? ⟨w.heap.size + 1, 0, none⟩ = some (.bool s2) ∧ W.cell? ⟨w.heap.size + 1, 1, none⟩ = some (.slice A3 n3 c3) ∧ W.cell? ⟨w.heap.size + 1, 2, none⟩ = some (.slice A4 n4 c4)) (first | exact ⟨x0, x1, x2, y0, y1, y2⟩ | exact ⟨by assumption, by assumption, by assumption, by assumption, by assumption, by assumption⟩ | go_keep) (first
     | (go_at_call 169; (with_reducible refine (bL _ _ _ _ _ ((hm1.q hq7).q hq8) hm2 b7 b8).mono ?_); rintro e w9 ⟨rfl, hq9⟩; have hG9 := hG8.trans hq9; have hX9 := hX8.q hq9; have hY9 := hY8.q hq9; obtain ⟨x0, x1, x2⟩ := hX9.cells; obtain ⟨y0, y1, y2⟩ := hY9.cells)
     | (go_at_call 129; (with_reducible refine (bM q.num.natAbs p.den _ _ _ (hyt.q hG7) hu4 b6).mono ?_); rintro e w8 ⟨m2, rfl, hm2, hq8, -⟩; have hG8 := hG7.trans hq8; have hX8 := hX7.q hq8; have hY8 := hY7.q hq8; obtain ⟨x0, x1, x2⟩ := hX8.cells; obtain ⟨y0, y1, y2⟩ := hY8.cells; obtain ⟨A10, n10, c10, rfl⟩ := hm2.form)
     | (go_at_call 136; (with_reducible refine (bG _ p _ (hx.q hG6)).mono ?_); rintro e w7 ⟨u4, rfl, hu4, hq7⟩; have hG7 := hG6.trans hq7; have hX7 := hX6.q hq7; have hY7 := hY6.q hq7; obtain ⟨x0, x1, x2⟩ := hX7.cells; obtain ⟨y0, y1, y2⟩ := hY7.cells; obtain ⟨A9, n9, c9, rfl⟩ := hu4.form)
     | (go_at_call 129; (with_reducible refine (bM p.num.natAbs q.den _ _ _ (hxt.q hG5) hu3 b5).mono ?_); rintro e w6 ⟨m1, rfl, hm1, hq6, -⟩; have hG6 := hG5.trans hq6; have hX6 := hX5.q hq6; have hY6 := hY5.q hq6; obtain ⟨x0, x1, x2⟩ := hX6.cells; obtain ⟨y0, y1, y2⟩ := hY6.cells; obtain ⟨A8, n8, c8, rfl⟩ := hm1.form)
     | (go_at_call 136; (with_reducible refine (bG _ q _ (hy.q hG4.drew)).mono ?_); rintro e w5 ⟨u3, rfl, hu3, hq5d⟩; have hq5 : Q w4 w5 := (Q.refl w4).drew.trans hq5d; have hG5 := hG4.trans hq5; have hX5 := hX4.q hq5; have hY5 := hY4.q hq5; obtain ⟨x0, x1, x2⟩ := hX5.cells; obtain ⟨y0, y1, y2⟩ := hY5.cells; obtain ⟨A7, n7, c7, rfl⟩ := hu3.form))
    all_goals
     go_wp2_with fail
     go_ret
     exact ⟨rfl, hG9⟩
set_option maxRecDepth 100000 in
theorem aGk (x y : Value) (p q : Rat) (w : World) (hx : Nq w x p) (hy : Nq w y q) (hB : 64 * (sz p + sz q) + 400 ≤ LIM) (hp1 : ¬ p.den = 1) (h0 : p ≠ 0) (h1 : q ≠ 0) : Calls Tryz.prog 133 #[x, y] w fun e w' => e = .returned (.int .i64 (cmp (p.num.natAbs * q.den) (q.num.natAbs * p.den))) ∧ Q w w' := by
 obtain ⟨s1, A1, n1, c1, A2, n2, c2, rfl, E1, Z1, O1, hxt, hxb⟩ := hx.form;obtain ⟨s2, A3, n3, c3, A4, n4, c4, rfl, E2, Z2, O2, hyt, hyb⟩ := hy.form;obtain ⟨w0, hW, hG0, hX0, hY0⟩ := tH w s1 (.slice A1 n1 c1) (.slice A2 n2 c2) s2 (.slice A3 n3 c3) (.slice A4 n4 c4);have HB := Lib.hid hB; clear hB;have hbl1 := jB p.num.natAbs; have hbl2 := jB q.den; have hbl3 := jB q.num.natAbs; have hbl4 := jB p.den;have hz1 := aM p; have hz2 := aM q; have hB0 := HB.out;have hC := uZ (a := p.num.natAbs) (b := q.den) (c := q.num.natAbs) (d := p.den) (gH h0) q.den_pos (gH h1) p.den_pos;obtain ⟨La, hLa⟩ : ∃ L, bl p.num.natAbs = L := ⟨_, rfl⟩
 obtain ⟨Lb, hLb⟩ : ∃ L, bl q.den = L := ⟨_, rfl⟩
 obtain ⟨Lc, hLc⟩ : ∃ L, bl q.num.natAbs = L := ⟨_, rfl⟩
 obtain ⟨Ld, hLd⟩ : ∃ L, bl p.den = L := ⟨_, rfl⟩
 rw [hLa] at hbl1 hC; rw [hLb] at hbl2 hC; rw [hLc] at hbl3 hC; rw [hLd] at hbl4 hC;have HLa := Lib.hid hLa; clear hLa;have HLb := Lib.hid hLb; clear hLb;have HLc := Lib.hid hLc; clear hLc;have HLd := Lib.hid hLd; clear hLd;have b1 : dg W64 p.num.natAbs ≤ LIM := by rw [aA] at *; omega
 have b2 : dg W64 q.den ≤ LIM := by rw [aA] at *; omega
 have b3 : dg W64 q.num.natAbs ≤ LIM := by rw [aA] at *; omega
 have b4 : dg W64 p.den ≤ LIM := by rw [aA] at *; omega
 have b5 : dg W64 p.num.natAbs + dg W64 q.den + 8 ≤ LIM := by rw [aA] at *; omega
 have b6 : dg W64 q.num.natAbs + dg W64 p.den + 8 ≤ LIM := by rw [aA] at *; omega
 have b7 : dg W64 (p.num.natAbs * q.den) ≤ LIM := by have := bU aB p.num.natAbs q.den; rw [aA] at *; omega
 have b8 : dg W64 (q.num.natAbs * p.den) ≤ LIM := by have := bU aB q.num.natAbs p.den; rw [aA] at *; omega
 have HC := Lib.hid hC; clear hC;obtain ⟨m, hM⟩ : ∃ m : Int, (La : Int) + Lb - Lc - Ld = m := ⟨_, rfl⟩
 have t1 : IntKind.i64.wrap ((La : Int) + Lb) = (La : Int) + Lb := IntWalk.i64_in _ (by rw [aA] at *; omega);have t2 : IntKind.i64.wrap ((La : Int) + Lb - Lc) = (La : Int) + Lb - Lc := IntWalk.i64_in _ (by rw [aA] at *; omega);have t3 : IntKind.i64.wrap ((La : Int) + Lb - Lc - Ld) = m := by rw [← hM]; exact IntWalk.i64_in _ (by rw [aA] at *; omega)
 have HM := Lib.hid hM; clear hM;clear hbl1 hbl2 hbl3 hbl4 hz1 hz2 hB0;obtain ⟨x0, x1, x2⟩ := hX0.cells;obtain ⟨y0, y1, y2⟩ := hY0.cells;go_enter Tryz.func133, Tryz.ntmps133
 go_wp2_with fail
 clear hW;refine (fT _ p _ (hx.q hG0)).mono ?_;rintro e w1 ⟨rfl, hq1⟩;have hG1 := hG0.trans hq1;have hX1 := hX0.q hq1;have hY1 := hY0.q hq1;clear x0 x1 x2 y0 y1 y2;obtain ⟨x0, x1, x2⟩ := hX1.cells;obtain ⟨y0, y1, y2⟩ := hY1.cells;rw [decide_eq_false hp1];go_wp2_with fail
 clear x0 x1 x2 y0 y1 y2;obtain ⟨x0, x1, x2⟩ := hX1.cells;obtain ⟨y0, y1, y2⟩ := hY1.cells
 go_region_held3 (fun W => W.cell? ⟨w.heap.size, 0, none⟩ = some (.bool s1) ∧ W.cell? ⟨w.heap.size, 1, none⟩ = some (.slice A1 n1 c1) ∧ W.cell? ⟨w.heap.size, 2, none⟩ = some (.slice A2 n2 c2) ∧ W.cell? ⟨w.heap.size + 1, 0, none⟩ = some (.bool s2) ∧ W.cell? ⟨w.heap.size + 1, 1, none⟩ = some (.slice A3 n3 c3) ∧ W.cell? ⟨w.heap.size + 1, 2, none⟩ = some (.slice A4 n4 c4)) (first | exact ⟨x0, x1, x2, y0, y1, y2⟩ | exact ⟨by assumption, by assumption, by assumption, by assumption, by assumption, by assumption⟩ | go_keep) (first
  | (go_at_call 178; (with_reducible refine (dD _ p.den _ hu2 b4).mono ?_); rintro e w95 ⟨rfl, rfl⟩; rw [HLd.out])
  | (go_at_call 136; (with_reducible refine (bG _ p _ (hx.q hG2)).mono ?_); rintro e w3 ⟨u2, rfl, hu2, hq3⟩; have hG3 := hG2.trans hq3; have hX3 := hX2.q hq3; have hY3 := hY2.q hq3; obtain ⟨x0, x1, x2⟩ := hX3.cells; obtain ⟨y0, y1, y2⟩ := hY3.cells; obtain ⟨A6, n6, c6, rfl⟩ := hu2.form)
  | (go_at_call 178; (with_reducible refine (dD _ q.num.natAbs _ (hyt.q hG2) b3).mono ?_); rintro e w93 ⟨rfl, rfl⟩; rw [HLc.out])
  | (go_at_call 178; (with_reducible refine (dD _ q.den _ hu1 b2).mono ?_); rintro e w92 ⟨rfl, rfl⟩; rw [HLb.out])
  | (go_at_call 136; (with_reducible refine (bG _ q _ (hy.q hG1.drew)).mono ?_); rintro e w2 ⟨u1, rfl, hu1, hq2d⟩; have hq2 : Q w1 w2 := (Q.refl w1).drew.trans hq2d; have hG2 := hG1.trans hq2; have hX2 := hX1.q hq2; have hY2 := hY1.q hq2; obtain ⟨x0, x1, x2⟩ := hX2.cells; obtain ⟨y0, y1, y2⟩ := hY2.cells; obtain ⟨A5, n5, c5, rfl⟩ := hu1.form)
  | (go_at_call 178; (with_reducible refine (dD _ p.num.natAbs _ (hxt.q hG1.drew) b1).mono ?_); rintro e w90 ⟨rfl, rfl⟩; rw [HLa.out]))
 all_goals
  clear t1 t2 t3 hu1 hu2;by_cases hm1 : 1 < m
  ·go_wp2_with fail
   go_ret
   exact ⟨gV (HC.out.1 (by have := HM.out; omega)).symm, hG3⟩
  ·by_cases hm2 : m < -1
   ·go_wp2_with fail
    go_ret
    exact ⟨gV (HC.out.2 (by have := HM.out; omega)).symm, hG3⟩
   ·obtain ⟨x0, x1, x2⟩ := hX3.cells;obtain ⟨y0, y1, y2⟩ := hY3.cells;go_wp2_with fail
    clear x0 x1 x2 y0 y1 y2;obtain ⟨x0, x1, x2⟩ := hX3.cells;obtain ⟨y0, y1, y2⟩ := hY3.cells
    go_region_held3 (fun W => W.cell? ⟨w.heap.size, 0, none⟩ = some (.bool s1) ∧ W.cell? ⟨w.heap.size, 1, none⟩ = some (.slice A1 n1 c1) ∧ W.cell? ⟨w.heap.size, 2, none⟩ = some (.slice A2 n2 c2) ∧ W.cell? ⟨w.heap.size + 1, 0, none⟩ = some (.bool s2) ∧ W.cell? ⟨w.heap.size + 1, 1, none⟩ = some (.slice A3 n3 c3) ∧ W.cell? ⟨w.heap.size + 1, 2, none⟩ = some (.slice A4 n4 c4)) (first | exact ⟨x0, x1, x2, y0, y1, y2⟩ | exact ⟨by assumption, by assumption, by assumption, by assumption, by assumption, by assumption⟩ | go_keep) (first
     | (go_at_call 169; (with_reducible refine (bL _ _ _ _ _ ((hm1.q hq6).q hq7) hm2 b7 b8).mono ?_); rintro e w8 ⟨rfl, hq8⟩; have hG8 := hG7.trans hq8; have hX8 := hX7.q hq8; have hY8 := hY7.q hq8; obtain ⟨x0, x1, x2⟩ := hX8.cells; obtain ⟨y0, y1, y2⟩ := hY8.cells)
     | (go_at_call 129; (with_reducible refine (bM q.num.natAbs p.den _ _ _ (hyt.q hG6) hu4 b6).mono ?_); rintro e w7 ⟨m2, rfl, hm2, hq7, -⟩; have hG7 := hG6.trans hq7; have hX7 := hX6.q hq7; have hY7 := hY6.q hq7; obtain ⟨x0, x1, x2⟩ := hX7.cells; obtain ⟨y0, y1, y2⟩ := hY7.cells; obtain ⟨A10, n10, c10, rfl⟩ := hm2.form)
     | (go_at_call 136; (with_reducible refine (bG _ p _ (hx.q hG5)).mono ?_); rintro e w6 ⟨u4, rfl, hu4, hq6⟩; have hG6 := hG5.trans hq6; have hX6 := hX5.q hq6; have hY6 := hY5.q hq6; obtain ⟨x0, x1, x2⟩ := hX6.cells; obtain ⟨y0, y1, y2⟩ := hY6.cells; obtain ⟨A9, n9, c9, rfl⟩ := hu4.form)
     | (go_at_call 129; (with_reducible refine (bM p.num.natAbs q.den _ _ _ (hxt.q hG4) hu3 b5).mono ?_); rintro e w5 ⟨m1, rfl, hm1, hq5, -⟩; have hG5 := hG4.trans hq5; have hX5 := hX4.q hq5; have hY5 := hY4.q hq5; obtain ⟨x0, x1, x2⟩ := hX5.cells; obtain ⟨y0, y1, y2⟩ := hY5.cells; obtain ⟨A8, n8, c8, rfl⟩ := hm1.form)
     | (go_at_call 136; (with_reducible refine (bG _ q _ (hy.q hG3.drew)).mono ?_); rintro e w4 ⟨u3, rfl, hu3, hq4d⟩; have hq4 : Q w3 w4 := (Q.refl w3).drew.trans hq4d; have hG4 := hG3.trans hq4; have hX4 := hX3.q hq4; have hY4 := hY3.q hq4; obtain ⟨x0, x1, x2⟩ := hX4.cells; obtain ⟨y0, y1, y2⟩ := hY4.cells; obtain ⟨A7, n7, c7, rfl⟩ := hu3.form))
    all_goals
     go_wp2_with fail
     go_ret
     exact ⟨rfl, hG8⟩
theorem yA (x y : Value) (p q : Rat) (w : World) (hx : Nq w x p) (hy : Nq w y q) (hB : 64 * (sz p + sz q) + 400 ≤ LIM) (hs : sn p = sn q) : Calls Tryz.prog 133 #[x, y] w fun e w' => e = .returned (.int .i64 (cmp (p.num.natAbs * q.den) (q.num.natAbs * p.den))) ∧ Q w w' := by
 by_cases hp1 : p.den = 1
 ·by_cases hp2 : q.den = 1
  ·exact aFv x y p q w hx hy hB hp1 hp2
  ·have h1 : q ≠ 0 := fun h => hp2 (by rw [h]; rfl);exact aFw x y p q w hx hy hB hp1 hp2 (fun h => by subst h; rcases bH q with ⟨h2, h3⟩ | ⟨h2, h3⟩ | ⟨h2, h3⟩ <;> simp [sn] at hs h1 ⊢ <;> grind) h1
 ·have h0 : p ≠ 0 := fun h => hp1 (by rw [h]; rfl);exact aGk x y p q w hx hy hB hp1 h0 (fun h => by subst h; rcases bH p with ⟨h2, h3⟩ | ⟨h2, h3⟩ | ⟨h2, h3⟩ <;> simp [sn] at hs h0 ⊢ <;> grind)
theorem aEC {p q : Rat} : (sn p < sn q → rc p q = -1) ∧ (sn q < sn p → rc p q = 1) := by
 constructor
 ·intro h; refine zN ?_;rcases bH p with ⟨h1, e1⟩ | ⟨h1, e1⟩ | ⟨h1, e1⟩ <;> rcases bH q with ⟨h2, e2⟩ | ⟨h2, e2⟩ | ⟨h2, e2⟩ <;> rw [e1, e2] at h <;> first | omega | grind
 ·intro h; refine aB2 ?_;rcases bH p with ⟨h1, e1⟩ | ⟨h1, e1⟩ | ⟨h1, e1⟩ <;> rcases bH q with ⟨h2, e2⟩ | ⟨h2, e2⟩ | ⟨h2, e2⟩ <;> rw [e1, e2] at h <;> first | omega | grind
theorem aGl (a b : Nat) : -1 ≤ cmp a b ∧ cmp a b ≤ 1 := by
 unfold cmp; split
 ·omega
 ·split <;> omega
theorem aGJ (p : Rat) : -1 ≤ sn p ∧ sn p ≤ 1 := by
 rcases bH p with ⟨-, e⟩ | ⟨-, e⟩ | ⟨-, e⟩ <;> rw [e] <;> decide
theorem yX {a c : Int} (ha : -1 ≤ a ∧ a ≤ 1) (hc : -1 ≤ c ∧ c ≤ 1) : -9223372036854775808 ≤ a * c ∧ a * c ≤ 9223372036854775807 := by
 rcases (by omega : a = -1 ∨ a = 0 ∨ a = 1) with rfl | rfl | rfl <;> omega
theorem yB (p q : Rat) : sz (aK p q) ≤ sz p + sz q := by rcases aBv p q with h | h <;> rw [h] <;> omega
theorem uN (p q : Rat) : sz (aI p q) ≤ sz p + sz q := by rcases aFb p q with h | h <;> rw [h] <;> omega
set_option maxRecDepth 100000 in
theorem oJ (x y : Value) (p q : Rat) (w : World) (hx : Nq w x p) (hy : Nq w y q) (hB : 64 * (sz p + sz q) + 400 ≤ LIM) : Calls Tryz.prog 33 #[x, y] w fun e w' => e = .returned (.int .i64 (rc p q)) ∧ Q w w' := by
 obtain ⟨s1, A1, n1, c1, A2, n2, c2, rfl, E1, Z1, O1, hxt, hxb⟩ := hx.form;obtain ⟨s2, A3, n3, c3, A4, n4, c4, rfl, E2, Z2, O2, hyt, hyb⟩ := hy.form;obtain ⟨w0, hW, hG0, hX0, hY0⟩ := tH w s1 (.slice A1 n1 c1) (.slice A2 n2 c2) s2 (.slice A3 n3 c3) (.slice A4 n4 c4);have HB := Lib.hid hB; clear hB;obtain ⟨a, ha⟩ : ∃ a, sn p = a := ⟨_, rfl⟩
 obtain ⟨b, hb⟩ : ∃ b, sn q = b := ⟨_, rfl⟩
 have hlt := @aEC p q; have heq := @qO p q; have hc := aGl (p.num.natAbs * q.den) (q.num.natAbs * p.den);have hal := aGJ p;have HS := Lib.hid (show sn p = sn q ↔ a = b by rw [ha, hb]);rw [ha] at hlt heq hal; rw [hb] at hlt heq;have HA := Lib.hid ha; have HBb := Lib.hid hb; clear ha hb;have HE := Lib.hid heq; have HL := Lib.hid hlt; clear heq hlt;have HC := Lib.hid hc; clear hc;rcases Int.lt_trichotomy a b with h | h | h
 ·obtain ⟨x0, x1, x2⟩ := hX0.cells;obtain ⟨y0, y1, y2⟩ := hY0.cells;go_enter Tryz.func33, Tryz.ntmps33
  go_wp2_with fail
  clear hW;refine (mH _ p _ (hx.q hG0)).mono ?_;rintro e w1 ⟨rfl, hq1⟩;have hG1 := hG0.trans hq1;have hX1 := hX0.q hq1;have hY1 := hY0.q hq1;clear x0 x1 x2 y0 y1 y2;obtain ⟨x0, x1, x2⟩ := hX1.cells;obtain ⟨y0, y1, y2⟩ := hY1.cells;rw [HA.out];go_wp2_with fail
  refine (mH _ q _ (hy.q hG1)).mono ?_;rintro e w2 ⟨rfl, hq2⟩;have hG2 := hG1.trans hq2;have hX2 := hX1.q hq2;have hY2 := hY1.q hq2;clear x0 x1 x2 y0 y1 y2;obtain ⟨x0, x1, x2⟩ := hX2.cells;obtain ⟨y0, y1, y2⟩ := hY2.cells;rw [HBb.out];go_wp2_with fail
  go_ret
  exact ⟨gV (HL.out.1 h).symm, hG2⟩
 ·have HAB := Lib.hid h;have h1 : ¬ a < b := (by omega);have h2 : ¬ b < a := (by omega);clear h;obtain ⟨x0, x1, x2⟩ := hX0.cells;obtain ⟨y0, y1, y2⟩ := hY0.cells;go_enter Tryz.func33, Tryz.ntmps33
  go_wp2_with fail
  clear hW;refine (mH _ p _ (hx.q hG0)).mono ?_;rintro e w1 ⟨rfl, hq1⟩;have hG1 := hG0.trans hq1;have hX1 := hX0.q hq1;have hY1 := hY0.q hq1;clear x0 x1 x2 y0 y1 y2;obtain ⟨x0, x1, x2⟩ := hX1.cells;obtain ⟨y0, y1, y2⟩ := hY1.cells;rw [HA.out];go_wp2_with fail
  refine (mH _ q _ (hy.q hG1)).mono ?_;rintro e w2 ⟨rfl, hq2⟩;have hG2 := hG1.trans hq2;have hX2 := hX1.q hq2;have hY2 := hY1.q hq2;clear x0 x1 x2 y0 y1 y2;obtain ⟨x0, x1, x2⟩ := hX2.cells;obtain ⟨y0, y1, y2⟩ := hY2.cells;rw [HBb.out];go_wp2_with fail
  have h3 : sn p = sn q := HS.out.2 HAB.out;refine (yA _ _ p q _ (hx.q hG2) (hy.q hG2) HB.out h3).mono ?_;rintro e w3 ⟨rfl, hq3⟩;have hG3 := hG2.trans hq3;have hX3 := hX2.q hq3;have hY3 := hY2.q hq3;clear x0 x1 x2 y0 y1 y2;have hr := HE.out HAB.out;have hc := HC.out;generalize cmp (p.num.natAbs * q.den) (q.num.natAbs * p.den) = c at hr hc ⊢;have hw : IntKind.i64.wrap (a * c) = a * c := IntWalk.i64_in _ (yX hal hc);have hw2 : wrap64 (a * c) = a * c := IntWalk.wrap64_in _ (yX hal hc);have HR := Lib.hid hr; clear hr h3;go_wp2_with fail
  go_ret
  exact ⟨gV HR.out.symm, hG3⟩
 ·have h1 : ¬ a < b := (by omega);obtain ⟨x0, x1, x2⟩ := hX0.cells;obtain ⟨y0, y1, y2⟩ := hY0.cells;go_enter Tryz.func33, Tryz.ntmps33
  go_wp2_with fail
  clear hW;refine (mH _ p _ (hx.q hG0)).mono ?_;rintro e w1 ⟨rfl, hq1⟩;have hG1 := hG0.trans hq1;have hX1 := hX0.q hq1;have hY1 := hY0.q hq1;clear x0 x1 x2 y0 y1 y2;obtain ⟨x0, x1, x2⟩ := hX1.cells;obtain ⟨y0, y1, y2⟩ := hY1.cells;rw [HA.out];go_wp2_with fail
  refine (mH _ q _ (hy.q hG1)).mono ?_;rintro e w2 ⟨rfl, hq2⟩;have hG2 := hG1.trans hq2;have hX2 := hX1.q hq2;have hY2 := hY1.q hq2;clear x0 x1 x2 y0 y1 y2;obtain ⟨x0, x1, x2⟩ := hX2.cells;obtain ⟨y0, y1, y2⟩ := hY2.cells;rw [HBb.out];go_wp2_with fail
  go_ret
  exact ⟨gV (HL.out.2 h).symm, hG2⟩
set_option maxRecDepth 100000 in
theorem aED (x y : Value) (p q : Rat) (w : World) (hx : Nq w x p) (hy : Nq w y q) (hB : 64 * (sz p + sz q) + 400 ≤ LIM) : Calls Tryz.prog 141 #[x, y] w fun e w' => ∃ r, e = .returned r ∧ Nq w' r (aK p q) ∧ Q w w' := by
 obtain ⟨s1, A1, n1, c1, A2, n2, c2, rfl, E1, Z1, O1, hxt, hxb⟩ := hx.form;obtain ⟨s2, A3, n3, c3, A4, n4, c4, rfl, E2, Z2, O2, hyt, hyb⟩ := hy.form;obtain ⟨w0, hW, hG0, hX0, hY0, hR0⟩ := iZ w s1 (.slice A1 n1 c1) (.slice A2 n2 c2) s2 (.slice A3 n3 c3) (.slice A4 n4 c4);have HB := Lib.hid hB; clear hB;obtain ⟨c, hc⟩ : ∃ c, rc p q = c := ⟨_, rfl⟩
 have hi := zO p q;rw [hc] at hi;have HC := Lib.hid hc; clear hc;by_cases h : c ≤ 0
 ·have hm : aK p q = p := if_pos (hi.1 h);rw [hm];clear hm hi;obtain ⟨x0, x1, x2⟩ := hX0.cells;obtain ⟨y0, y1, y2⟩ := hY0.cells;go_enter Tryz.func141, Tryz.ntmps141
  go_wp2_with fail
  clear hW;refine (oJ _ _ p q _ (hx.q hG0) (hy.q hG0) HB.out).mono ?_;rintro e w1 ⟨rfl, hq1⟩;have hG1 := hG0.trans hq1;have hX1 := hX0.q hq1;have hY1 := hY0.q hq1;have hR1 := hR0.q hq1;clear x0 x1 x2 y0 y1 y2;obtain ⟨x0, x1, x2⟩ := hX1.cells;have fz := hR1.frozen;obtain ⟨r0, r1, r2⟩ := hR1.cells;rw [HC.out];go_wp2_with fail
  have hv := hx.q hG1;obtain ⟨z0, z1, z2, hvF, hqF⟩ := Nq.store hR1 hv hG1 (by exact Nat.le_add_right_of_le (Nat.le_add_right _ _));unfold put3 at z0 z1 z2 hvF hqF;refine bodyPost_ret (v := .agg #[.bool s1, .slice A1 n1 c1, .slice A2 n2 c2]) (by simp [results, Tryz.results141, go_sem, z0, z1, z2]) rfl ?_;exact ⟨_, rfl, hvF, hqF⟩
 ·have hm : aK p q = q := if_neg (fun h1 => h (hi.2 h1));rw [hm];clear hm hi;obtain ⟨x0, x1, x2⟩ := hX0.cells;obtain ⟨y0, y1, y2⟩ := hY0.cells;go_enter Tryz.func141, Tryz.ntmps141
  go_wp2_with fail
  clear hW;refine (oJ _ _ p q _ (hx.q hG0) (hy.q hG0) HB.out).mono ?_;rintro e w1 ⟨rfl, hq1⟩;have hG1 := hG0.trans hq1;have hX1 := hX0.q hq1;have hY1 := hY0.q hq1;have hR1 := hR0.q hq1;clear x0 x1 x2 y0 y1 y2;obtain ⟨y0, y1, y2⟩ := hY1.cells;have fz := hR1.frozen;obtain ⟨r0, r1, r2⟩ := hR1.cells;rw [HC.out];go_wp2_with fail
  have hv := hy.q hG1;obtain ⟨z0, z1, z2, hvF, hqF⟩ := Nq.store hR1 hv hG1 (by exact Nat.le_add_right_of_le (Nat.le_add_right _ _));unfold put3 at z0 z1 z2 hvF hqF;refine bodyPost_ret (v := .agg #[.bool s2, .slice A3 n3 c3, .slice A4 n4 c4]) (by simp [results, Tryz.results141, go_sem, z0, z1, z2]) rfl ?_;exact ⟨_, rfl, hvF, hqF⟩
set_option maxRecDepth 100000 in
theorem yY (x y : Value) (p q : Rat) (w : World) (hx : Nq w x p) (hy : Nq w y q) (hB : 64 * (sz p + sz q) + 400 ≤ LIM) : Calls Tryz.prog 143 #[x, y] w fun e w' => ∃ r, e = .returned r ∧ Nq w' r (aI p q) ∧ Q w w' := by
 obtain ⟨s1, A1, n1, c1, A2, n2, c2, rfl, E1, Z1, O1, hxt, hxb⟩ := hx.form;obtain ⟨s2, A3, n3, c3, A4, n4, c4, rfl, E2, Z2, O2, hyt, hyb⟩ := hy.form;obtain ⟨w0, hW, hG0, hX0, hY0, hR0⟩ := iZ w s1 (.slice A1 n1 c1) (.slice A2 n2 c2) s2 (.slice A3 n3 c3) (.slice A4 n4 c4);have HB := Lib.hid hB; clear hB;obtain ⟨c, hc⟩ : ∃ c, rc p q = c := ⟨_, rfl⟩
 have hi := zP p q;rw [hc] at hi;have HC := Lib.hid hc; clear hc;by_cases h : 0 ≤ c
 ·have hm : aI p q = p := if_pos (hi.1 h);rw [hm];clear hm hi;obtain ⟨x0, x1, x2⟩ := hX0.cells;obtain ⟨y0, y1, y2⟩ := hY0.cells;go_enter Tryz.func143, Tryz.ntmps143
  go_wp2_with fail
  clear hW;refine (oJ _ _ p q _ (hx.q hG0) (hy.q hG0) HB.out).mono ?_;rintro e w1 ⟨rfl, hq1⟩;have hG1 := hG0.trans hq1;have hX1 := hX0.q hq1;have hY1 := hY0.q hq1;have hR1 := hR0.q hq1;clear x0 x1 x2 y0 y1 y2;obtain ⟨x0, x1, x2⟩ := hX1.cells;have fz := hR1.frozen;obtain ⟨r0, r1, r2⟩ := hR1.cells;rw [HC.out];go_wp2_with fail
  have hv := hx.q hG1;obtain ⟨z0, z1, z2, hvF, hqF⟩ := Nq.store hR1 hv hG1 (by exact Nat.le_add_right_of_le (Nat.le_add_right _ _));unfold put3 at z0 z1 z2 hvF hqF;refine bodyPost_ret (v := .agg #[.bool s1, .slice A1 n1 c1, .slice A2 n2 c2]) (by simp [results, Tryz.results143, go_sem, z0, z1, z2]) rfl ?_;exact ⟨_, rfl, hvF, hqF⟩
 ·have hm : aI p q = q := if_neg (fun h1 => h (hi.2 h1));rw [hm];clear hm hi;obtain ⟨x0, x1, x2⟩ := hX0.cells;obtain ⟨y0, y1, y2⟩ := hY0.cells;go_enter Tryz.func143, Tryz.ntmps143
  go_wp2_with fail
  clear hW;refine (oJ _ _ p q _ (hx.q hG0) (hy.q hG0) HB.out).mono ?_;rintro e w1 ⟨rfl, hq1⟩;have hG1 := hG0.trans hq1;have hX1 := hX0.q hq1;have hY1 := hY0.q hq1;have hR1 := hR0.q hq1;clear x0 x1 x2 y0 y1 y2;obtain ⟨y0, y1, y2⟩ := hY1.cells;have fz := hR1.frozen;obtain ⟨r0, r1, r2⟩ := hR1.cells;rw [HC.out];go_wp2_with fail
  have hv := hy.q hG1;obtain ⟨z0, z1, z2, hvF, hqF⟩ := Nq.store hR1 hv hG1 (by exact Nat.le_add_right_of_le (Nat.le_add_right _ _));unfold put3 at z0 z1 z2 hvF hqF;refine bodyPost_ret (v := .agg #[.bool s2, .slice A3 n3 c3, .slice A4 n4 c4]) (by simp [results, Tryz.results143, go_sem, z0, z1, z2]) rfl ?_;exact ⟨_, rfl, hvF, hqF⟩
set_option maxRecDepth 100000 in
theorem aGK (x y : Value) (p q : Rat) (w : World) (hx : Nq w x p) (hy : Nq w y q) (hB : 64 * (sz p + sz q) + 400 ≤ LIM) : Calls Tryz.prog 39 #[x, y] w fun e w' => ∃ r, e = .returned r ∧ Nq w' r (aK p q) ∧ Q w w' := by
 obtain ⟨s1, A1, n1, c1, A2, n2, c2, rfl, E1, Z1, O1, hxt, hxb⟩ := hx.form;obtain ⟨s2, A3, n3, c3, A4, n4, c4, rfl, E2, Z2, O2, hyt, hyb⟩ := hy.form;obtain ⟨w0, hW, hG0, hX0, hY0, hR0⟩ := iZ w s1 (.slice A1 n1 c1) (.slice A2 n2 c2) s2 (.slice A3 n3 c3) (.slice A4 n4 c4);have HB := Lib.hid hB; clear hB;obtain ⟨x0, x1, x2⟩ := hX0.cells;obtain ⟨y0, y1, y2⟩ := hY0.cells;go_enter Tryz.func39, Tryz.ntmps39
 go_wp2_with fail
 clear hW;refine (aED _ _ p q _ (hx.q hG0) (hy.q hG0) HB.out).mono ?_;rintro e w1 ⟨o1, rfl, ho1, hq1⟩;have hG1 := hG0.trans hq1;have hX1 := hX0.q hq1;have hY1 := hY0.q hq1;have hR1 := hR0.q hq1;clear x0 x1 x2 y0 y1 y2;have fz := hR1.frozen;obtain ⟨r0, r1, r2⟩ := hR1.cells;obtain ⟨s5, A5, n5, c5, A6, n6, c6, rfl, -⟩ := ho1.form;go_wp2_with fail
 have hsz := yB p q;refine (rG _ (aK p q) _ ho1 (by have := fO (aK p q); have := HB.out; rw [aA] at *; omega) (by have := fC (aK p q); have := HB.out; rw [aA] at *; omega)).mono ?_;rintro e w2 ⟨v1, rfl, hv, hq2⟩;have hG2 := hG1.trans hq2;have hX2 := hX1.q hq2;have hY2 := hY1.q hq2;have hR2 := hR1.q hq2;clear fz r0 r1 r2;have fz := hR2.frozen;obtain ⟨r0, r1, r2⟩ := hR2.cells;obtain ⟨s6, B1, m1, d1, B2, m2, d2, rfl, -⟩ := hv.form;go_wp2_with fail
 obtain ⟨z0, z1, z2, hvF, hqF⟩ := Nq.store hR2 hv hG2 (by exact Nat.le_add_right_of_le (Nat.le_add_right _ _));unfold put3 at z0 z1 z2 hvF hqF;refine bodyPost_ret (v := .agg #[.bool s6, .slice B1 m1 d1, .slice B2 m2 d2]) (by simp [results, Tryz.results39, go_sem, z0, z1, z2]) rfl ?_;exact ⟨_, rfl, hvF, hqF⟩
set_option maxRecDepth 100000 in
theorem aGL (x y : Value) (p q : Rat) (w : World) (hx : Nq w x p) (hy : Nq w y q) (hB : 64 * (sz p + sz q) + 400 ≤ LIM) : Calls Tryz.prog 41 #[x, y] w fun e w' => ∃ r, e = .returned r ∧ Nq w' r (aI p q) ∧ Q w w' := by
 obtain ⟨s1, A1, n1, c1, A2, n2, c2, rfl, E1, Z1, O1, hxt, hxb⟩ := hx.form;obtain ⟨s2, A3, n3, c3, A4, n4, c4, rfl, E2, Z2, O2, hyt, hyb⟩ := hy.form;obtain ⟨w0, hW, hG0, hX0, hY0, hR0⟩ := iZ w s1 (.slice A1 n1 c1) (.slice A2 n2 c2) s2 (.slice A3 n3 c3) (.slice A4 n4 c4);have HB := Lib.hid hB; clear hB;obtain ⟨x0, x1, x2⟩ := hX0.cells;obtain ⟨y0, y1, y2⟩ := hY0.cells;go_enter Tryz.func41, Tryz.ntmps41
 go_wp2_with fail
 clear hW;refine (yY _ _ p q _ (hx.q hG0) (hy.q hG0) HB.out).mono ?_;rintro e w1 ⟨o1, rfl, ho1, hq1⟩;have hG1 := hG0.trans hq1;have hX1 := hX0.q hq1;have hY1 := hY0.q hq1;have hR1 := hR0.q hq1;clear x0 x1 x2 y0 y1 y2;have fz := hR1.frozen;obtain ⟨r0, r1, r2⟩ := hR1.cells;obtain ⟨s5, A5, n5, c5, A6, n6, c6, rfl, -⟩ := ho1.form;go_wp2_with fail
 have hsz := uN p q;refine (rG _ (aI p q) _ ho1 (by have := fO (aI p q); have := HB.out; rw [aA] at *; omega) (by have := fC (aI p q); have := HB.out; rw [aA] at *; omega)).mono ?_;rintro e w2 ⟨v1, rfl, hv, hq2⟩;have hG2 := hG1.trans hq2;have hX2 := hX1.q hq2;have hY2 := hY1.q hq2;have hR2 := hR1.q hq2;clear fz r0 r1 r2;have fz := hR2.frozen;obtain ⟨r0, r1, r2⟩ := hR2.cells;obtain ⟨s6, B1, m1, d1, B2, m2, d2, rfl, -⟩ := hv.form;go_wp2_with fail
 obtain ⟨z0, z1, z2, hvF, hqF⟩ := Nq.store hR2 hv hG2 (by exact Nat.le_add_right_of_le (Nat.le_add_right _ _));unfold put3 at z0 z1 z2 hvF hqF;refine bodyPost_ret (v := .agg #[.bool s6, .slice B1 m1 d1, .slice B2 m2 d2]) (by simp [results, Tryz.results41, go_sem, z0, z1, z2]) rfl ?_;exact ⟨_, rfl, hvF, hqF⟩
end Go.Proofs.YtgokbhikgdhmpaaGreatDoor
