/- ValueTexts (P1.9): the law holds. No condition.. Part of the proof: texts Vd8. -/
import Derived.Test.YtgokbhikgdhmpaaGreatDoorQt16
namespace Go.Proofs.YtgokbhikgdhmpaaGreatDoor
open Go.RowKit
open Ma Me
theorem sg_scale {s : Bool} {p : Rat} (h : s = decide (p.num < 0)) (b : Nat) : sg s (p.num.natAbs * b) = p.num * b := by
 subst h
 have h := sg_num p
 have h2 : sg (decide (p.num < 0)) (p.num.natAbs * b) = sg (decide (p.num < 0)) p.num.natAbs * b := by
  unfold sg
  split
  ·rw [Int.natCast_mul, Int.neg_mul]
  ·rw [Int.natCast_mul]
 rw [h2, h]
theorem dg_sum {s : Bool} {K a b : Nat} {x y : Int} (h : sg s K = x * (a : Int) + y * (b : Int)) : dg W64 K ≤ dg W64 x.natAbs + dg W64 a + dg W64 y.natAbs + dg W64 b + 1 := by
 have h1 : K ≤ x.natAbs * a + y.natAbs * b := by
  have h2 := sg_sg s K
  rw [h] at h2
  have := Int.natAbs_add_le (x * (a : Int)) (y * (b : Int))
  rw [Int.natAbs_mul, Int.natAbs_mul, Int.natAbs_natCast, Int.natAbs_natCast] at this
  omega
 have h3 := dgb_le W64_gt h1
 have h4 := dg_add W64_gt (x.natAbs * a) (y.natAbs * b)
 have h5 := dg_mul W64_gt x.natAbs a
 have h6 := dg_mul W64_gt y.natAbs b
 omega
theorem gcd_le_den (p q : Rat) : dg W64 (Nat.gcd p.den q.den) ≤ sz p := Nat.le_trans (dgb_le W64_gt (Nat.gcd_le_left _ p.den_pos)) (sz_den p)
set_option maxHeartbeats 4000000 in
theorem q_Add_ww (x y : Value) (p q : Rat) (w : World) (_ : Tb w) (hx : Nq w x p) (hy : Nq w y q) (hB : 64 * (sz p + sz q) + 400 ≤ LIM) (hp1 : p.den = 1) (hp2 : q.den = 1) : Calls Tryz.prog 35 #[x, y] w fun e w' => ∃ r, e = .returned r ∧ Nq w' r (p + q) ∧ Q w w' := by
 obtain ⟨s1, A1, n1, c1, A2, n2, c2, rfl, E1, Z1, O1, hxt, hxb⟩ := hx.form
 obtain ⟨s2, A3, n3, c3, A4, n4, c4, rfl, E2, Z2, O2, hyt, hyb⟩ := hy.form
 obtain ⟨w0, hW, hG0, hX0, hY0, hR0⟩ := boxes2r w s1 (.slice A1 n1 c1) (.slice A2 n2 c2) s2 (.slice A3 n3 c3) (.slice A4 n4 c4)
 have HB := Lib.hid hB; clear hB
 obtain ⟨x0, x1, x2⟩ := hX0.cells
 obtain ⟨y0, y1, y2⟩ := hY0.cells
 go_enter Tryz.func35, Tryz.ntmps35
 go_wp2_with fail
 clear hW
 refine (q_whole _ p _ (hx.q hG0)).mono ?_
 rintro e w1 ⟨rfl, hq1⟩
 have hG1 := hG0.trans hq1
 have hX1 := hX0.q hq1
 have hY1 := hY0.q hq1
 have hR1 := hR0.q hq1
 clear x0 x1 x2 y0 y1 y2
 obtain ⟨x0, x1, x2⟩ := hX1.cells
 obtain ⟨y0, y1, y2⟩ := hY1.cells
 rw [decide_eq_true hp1]
 go_wp2_with fail
 refine (q_whole _ q _ (hy.q hG1)).mono ?_
 rintro e w2 ⟨rfl, hq2⟩
 have hG2 := hG1.trans hq2
 have hX2 := hX1.q hq2
 have hY2 := hY1.q hq2
 have hR2 := hR1.q hq2
 clear x0 x1 x2 y0 y1 y2
 obtain ⟨x0, x1, x2⟩ := hX2.cells
 obtain ⟨y0, y1, y2⟩ := hY2.cells
 rw [decide_eq_true hp2]
 clear x0 x1 x2 y0 y1 y2
 obtain ⟨x0, x1, x2⟩ := hX2.cells
 obtain ⟨y0, y1, y2⟩ := hY2.cells
 have fz := hR2.frozen
 obtain ⟨r0, r1, r2⟩ := hR2.cells
 go_wp2_with fail
 refine (v_signedSum s1 s2 _ _ _ _ _ (hxt.q hG2) (hyt.q hG2) (show dg W64 p.num.natAbs + dg W64 q.num.natAbs + 8 ≤ LIM by have := HB.out; have := sz_eq p; have := sz_eq q; rw [LIM_eq] at *; omega)).mono ?_
 rintro e w3 ⟨s5, tv, K, rfl, htv, hK, hq3⟩
 have hG3 := hG2.trans hq3
 have hX3 := hX2.q hq3
 have hY3 := hY2.q hq3
 have hR3 := hR2.q hq3
 clear x0 x1 x2 y0 y1 y2 fz r0 r1 r2
 have fz := hR3.frozen
 obtain ⟨r0, r1, r2⟩ := hR3.cells
 obtain ⟨A5, n5, c5, rfl⟩ := htv.form
 rw [E1.out, E2.out, sg_num, sg_num, ← (add_whole hp1 hp2).1] at hK
 have HK := Lib.hid hK.symm; clear hK
 go_wp2_with fail
 refine (v_integral s5 _ K _ htv).mono ?_
 rintro e w4 ⟨v4, rfl, hv4, hq4⟩
 have hG4 := hG3.trans hq4
 have hX4 := hX3.q hq4
 have hY4 := hY3.q hq4
 have hR4 := hR3.q hq4
 clear fz r0 r1 r2
 have fz := hR4.frozen
 obtain ⟨r0, r1, r2⟩ := hR4.cells
 obtain ⟨B1, d1, B2, d2, rfl, -, -⟩ := hv4.form
 have hv := Nq.int (q := p + q) hv4 HK.out (add_whole hp1 hp2).2
 generalize (decide (0 < K) && s5) = s4 at *
 generalize dg W64 K = m1 at *
 generalize dg W64 0 = m2 at *
 go_wp2_with fail
 obtain ⟨z0, z1, z2, hvF, hqF⟩ := Nq.store hR4 hv hG4 (by exact Nat.le_add_right_of_le (Nat.le_add_right _ _))
 unfold put3 at z0 z1 z2 hvF hqF
 refine bodyPost_ret (v := .agg #[.bool s4, .slice B1 m1 d1, .slice B2 m2 d2]) (by simp [results, Tryz.results35, go_sem, z0, z1, z2]) rfl ?_
 exact ⟨_, rfl, hvF, hqF⟩
set_option maxHeartbeats 4000000 in
theorem q_Add_wf (x y : Value) (p q : Rat) (w : World) (hT : Tb w) (hx : Nq w x p) (hy : Nq w y q) (hB : 64 * (sz p + sz q) + 400 ≤ LIM) (hp1 : p.den = 1) (hp2 : ¬ q.den = 1) : Calls Tryz.prog 35 #[x, y] w fun e w' => ∃ r, e = .returned r ∧ Nq w' r (p + q) ∧ Q w w' := by
 obtain ⟨s1, A1, n1, c1, A2, n2, c2, rfl, E1, Z1, O1, hxt, hxb⟩ := hx.form
 obtain ⟨s2, A3, n3, c3, A4, n4, c4, rfl, E2, Z2, O2, hyt, hyb⟩ := hy.form
 obtain ⟨w0, hW, hG0, hX0, hY0, hR0⟩ := boxes2r w s1 (.slice A1 n1 c1) (.slice A2 n2 c2) s2 (.slice A3 n3 c3) (.slice A4 n4 c4)
 have HB := Lib.hid hB; clear hB
 obtain ⟨x0, x1, x2⟩ := hX0.cells
 obtain ⟨y0, y1, y2⟩ := hY0.cells
 go_enter Tryz.func35, Tryz.ntmps35
 go_wp2_with fail
 clear hW
 refine (q_whole _ p _ (hx.q hG0)).mono ?_
 rintro e w1 ⟨rfl, hq1⟩
 have hG1 := hG0.trans hq1
 have hX1 := hX0.q hq1
 have hY1 := hY0.q hq1
 have hR1 := hR0.q hq1
 clear x0 x1 x2 y0 y1 y2
 obtain ⟨x0, x1, x2⟩ := hX1.cells
 obtain ⟨y0, y1, y2⟩ := hY1.cells
 rw [decide_eq_true hp1]
 go_wp2_with fail
 refine (q_whole _ q _ (hy.q hG1)).mono ?_
 rintro e w2 ⟨rfl, hq2⟩
 have hG2 := hG1.trans hq2
 have hX2 := hX1.q hq2
 have hY2 := hY1.q hq2
 have hR2 := hR1.q hq2
 clear x0 x1 x2 y0 y1 y2
 obtain ⟨x0, x1, x2⟩ := hX2.cells
 obtain ⟨y0, y1, y2⟩ := hY2.cells
 rw [decide_eq_false hp2]
 clear x0 x1 x2 y0 y1 y2
 obtain ⟨x0, x1, x2⟩ := hX2.cells
 obtain ⟨y0, y1, y2⟩ := hY2.cells
 go_wp2_with fail
 clear x0 x1 x2 y0 y1 y2
 obtain ⟨x0, x1, x2⟩ := hX2.cells
 obtain ⟨y0, y1, y2⟩ := hY2.cells
 go_region_held3 (fun W => W.cell? ⟨w.heap.size, 0, none⟩ = some (.bool s1) ∧ W.cell? ⟨w.heap.size, 1, none⟩ = some (.slice A1 n1 c1) ∧ W.cell? ⟨w.heap.size, 2, none⟩ = some (.slice A2 n2 c2) ∧ W.cell? ⟨w.heap.size + 1, 0, none⟩ = some (.bool s2) ∧ W.cell? ⟨w.heap.size + 1, 1, none⟩ = some (.slice A3 n3 c3) ∧ W.cell? ⟨w.heap.size + 1, 2, none⟩ = some (.slice A4 n4 c4)) (first | exact ⟨x0, x1, x2, y0, y1, y2⟩ | exact ⟨by assumption, by assumption, by assumption, by assumption, by assumption, by assumption⟩ | go_keep) (first
  | (go_at_call 104; refine (v_divisor p.den q.den _ _ _ (hT.q hG4) (hu1.q hq4) hu2 p.den_pos q.den_pos (show 8 * (dg W64 p.den + dg W64 q.den) + 80 ≤ LIM by have := HB.out; have := sz_eq p; have := sz_eq q; rw [LIM_eq] at *; omega)).mono ?_; rintro e w5 ⟨dv, rfl, hd, hq5, -⟩; have hG5 := hG4.trans hq5; have hX5 := hX4.q hq5; have hY5 := hY4.q hq5; have hR5 := hR4.q hq5; obtain ⟨x0, x1, x2⟩ := hX5.cells; obtain ⟨y0, y1, y2⟩ := hY5.cells; obtain ⟨A7, n7, c7, rfl⟩ := hd.form)
  | (go_at_call 136; refine (q_under _ q _ (hy.q hG3)).mono ?_; rintro e w4 ⟨u2, rfl, hu2, hq4⟩; have hG4 := hG3.trans hq4; have hX4 := hX3.q hq4; have hY4 := hY3.q hq4; have hR4 := hR3.q hq4; obtain ⟨x0, x1, x2⟩ := hX4.cells; obtain ⟨y0, y1, y2⟩ := hY4.cells; obtain ⟨A6, n6, c6, rfl⟩ := hu2.form)
  | (go_at_call 136; refine (q_under _ p _ (hx.q hG2.drew)).mono ?_; rintro e w3 ⟨u1, rfl, hu1, hq3d⟩; have hq3 : Q w2 w3 := (Q.refl w2).drew.trans hq3d; have hG3 := hG2.trans hq3; have hX3 := hX2.q hq3; have hY3 := hY2.q hq3; have hR3 := hR2.q hq3; obtain ⟨x0, x1, x2⟩ := hX3.cells; obtain ⟨y0, y1, y2⟩ := hY3.cells; obtain ⟨A5, n5, c5, rfl⟩ := hu1.form))
 all_goals
  have hD0 : 0 < Nat.gcd p.den q.den := Nat.gcd_pos_of_pos_left _ p.den_pos
  have hDl := gcd_le_den p q
  have HA1 := Lib.hid (@add_parts1 p q)
  have HA2 := Lib.hid (@add_parts2 p q)
  generalize Nat.gcd p.den q.den = d at *
  have hb1 : dg W64 (p.den / d) ≤ sz p := Nat.le_trans (dgb_le W64_gt (Nat.div_le_self _ _)) (sz_den p)
  have hb2 : dg W64 (q.den / d) ≤ sz q := Nat.le_trans (dgb_le W64_gt (Nat.div_le_self _ _)) (sz_den q)
  obtain ⟨x0, x1, x2⟩ := hX5.cells
  obtain ⟨y0, y1, y2⟩ := hY5.cells
  go_wp2_with fail
  clear x0 x1 x2 y0 y1 y2
  obtain ⟨x0, x1, x2⟩ := hX5.cells
  obtain ⟨y0, y1, y2⟩ := hY5.cells
  go_region_held3 (fun W => W.cell? ⟨w.heap.size, 0, none⟩ = some (.bool s1) ∧ W.cell? ⟨w.heap.size, 1, none⟩ = some (.slice A1 n1 c1) ∧ W.cell? ⟨w.heap.size, 2, none⟩ = some (.slice A2 n2 c2) ∧ W.cell? ⟨w.heap.size + 1, 0, none⟩ = some (.bool s2) ∧ W.cell? ⟨w.heap.size + 1, 1, none⟩ = some (.slice A3 n3 c3) ∧ W.cell? ⟨w.heap.size + 1, 2, none⟩ = some (.slice A4 n4 c4)) (first | exact ⟨x0, x1, x2, y0, y1, y2⟩ | exact ⟨by assumption, by assumption, by assumption, by assumption, by assumption, by assumption⟩ | go_keep) (first
   | (go_at_call 137; refine (v_exactly q.den d _ _ _ (hT.q hG8) hu4 (((hd.q hq6).q hq7).q hq8) hD0 (show 4 * (dg W64 q.den + dg W64 d) + 60 ≤ LIM by have := HB.out; have := sz_eq p; have := sz_eq q; rw [LIM_eq] at *; omega)).mono ?_; rintro e w9 ⟨e2, rfl, he2, hq9, -⟩; have hG9 := hG8.trans hq9; have hX9 := hX8.q hq9; have hY9 := hY8.q hq9; have hR9 := hR8.q hq9; obtain ⟨x0, x1, x2⟩ := hX9.cells; obtain ⟨y0, y1, y2⟩ := hY9.cells; obtain ⟨A11, n11, c11, rfl⟩ := he2.form; have he1 := (he1.q hq8).q hq9; have hd := (((hd.q hq6).q hq7).q hq8).q hq9)
   | (go_at_call 136; refine (q_under _ q _ (hy.q hG7)).mono ?_; rintro e w8 ⟨u4, rfl, hu4, hq8⟩; have hG8 := hG7.trans hq8; have hX8 := hX7.q hq8; have hY8 := hY7.q hq8; have hR8 := hR7.q hq8; obtain ⟨x0, x1, x2⟩ := hX8.cells; obtain ⟨y0, y1, y2⟩ := hY8.cells; obtain ⟨A10, n10, c10, rfl⟩ := hu4.form)
   | (go_at_call 137; refine (v_exactly p.den d _ _ _ (hT.q hG6) hu3 (hd.q hq6) hD0 (show 4 * (dg W64 p.den + dg W64 d) + 60 ≤ LIM by have := HB.out; have := sz_eq p; have := sz_eq q; rw [LIM_eq] at *; omega)).mono ?_; rintro e w7 ⟨e1, rfl, he1, hq7, -⟩; have hG7 := hG6.trans hq7; have hX7 := hX6.q hq7; have hY7 := hY6.q hq7; have hR7 := hR6.q hq7; obtain ⟨x0, x1, x2⟩ := hX7.cells; obtain ⟨y0, y1, y2⟩ := hY7.cells; obtain ⟨A9, n9, c9, rfl⟩ := he1.form)
   | (go_at_call 136; refine (q_under _ p _ (hx.q hG5.drew)).mono ?_; rintro e w6 ⟨u3, rfl, hu3, hq6d⟩; have hq6 : Q w5 w6 := (Q.refl w5).drew.trans hq6d; have hG6 := hG5.trans hq6; have hX6 := hX5.q hq6; have hY6 := hY5.q hq6; have hR6 := hR5.q hq6; obtain ⟨x0, x1, x2⟩ := hX6.cells; obtain ⟨y0, y1, y2⟩ := hY6.cells; obtain ⟨A8, n8, c8, rfl⟩ := hu3.form))
  all_goals
   clear hu1 hu2 hu3 hu4
   obtain ⟨x0, x1, x2⟩ := hX9.cells
   obtain ⟨y0, y1, y2⟩ := hY9.cells
   go_wp2_with fail
   clear x0 x1 x2 y0 y1 y2
   obtain ⟨x0, x1, x2⟩ := hX9.cells
   obtain ⟨y0, y1, y2⟩ := hY9.cells
   go_region_held3 (fun W => W.cell? ⟨w.heap.size, 0, none⟩ = some (.bool s1) ∧ W.cell? ⟨w.heap.size, 1, none⟩ = some (.slice A1 n1 c1) ∧ W.cell? ⟨w.heap.size, 2, none⟩ = some (.slice A2 n2 c2) ∧ W.cell? ⟨w.heap.size + 1, 0, none⟩ = some (.bool s2) ∧ W.cell? ⟨w.heap.size + 1, 1, none⟩ = some (.slice A3 n3 c3) ∧ W.cell? ⟨w.heap.size + 1, 2, none⟩ = some (.slice A4 n4 c4)) (first | exact ⟨x0, x1, x2, y0, y1, y2⟩ | exact ⟨by assumption, by assumption, by assumption, by assumption, by assumption, by assumption⟩ | go_keep) (first
    | (go_at_call 135; refine (v_signedSum s1 s2 _ _ _ _ _ (hm1.q hq11) hm2 (show dg W64 (p.num.natAbs * (q.den / d)) + dg W64 (q.num.natAbs * (p.den / d)) + 8 ≤ LIM by have := HB.out; have := sz_eq p; have := sz_eq q; have := dg_mul W64_gt p.num.natAbs (q.den / d); have := dg_mul W64_gt q.num.natAbs (p.den / d); rw [LIM_eq] at *; omega)).mono ?_; rintro e w12 ⟨s5, tv, K, rfl, htv, hK, hq12⟩; have hG12 := hG11.trans hq12; have hX12 := hX11.q hq12; have hY12 := hY11.q hq12; have hR12 := hR11.q hq12; obtain ⟨x0, x1, x2⟩ := hX12.cells; obtain ⟨y0, y1, y2⟩ := hY12.cells; obtain ⟨A14, c14, rfl, hc14⟩ := htv.parts)
    | (go_at_call 129; refine (v_times q.num.natAbs (p.den / d) _ _ _ (hyt.q hG10) (he1.q hq10) (show dg W64 q.num.natAbs + dg W64 (p.den / d) + 8 ≤ LIM by have := HB.out; have := sz_eq p; have := sz_eq q; rw [LIM_eq] at *; omega)).mono ?_; rintro e w11 ⟨m2, rfl, hm2, hq11, -⟩; have hG11 := hG10.trans hq11; have hX11 := hX10.q hq11; have hY11 := hY10.q hq11; have hR11 := hR10.q hq11; obtain ⟨x0, x1, x2⟩ := hX11.cells; obtain ⟨y0, y1, y2⟩ := hY11.cells; obtain ⟨A13, n13, c13, rfl⟩ := hm2.form)
    | (go_at_call 129; refine (v_times p.num.natAbs (q.den / d) _ _ _ (hxt.q hG9.drew) (by exact he2) (show dg W64 p.num.natAbs + dg W64 (q.den / d) + 8 ≤ LIM by have := HB.out; have := sz_eq p; have := sz_eq q; rw [LIM_eq] at *; omega)).mono ?_; rintro e w10 ⟨m1, rfl, hm1, hq10d, -⟩; have hq10 : Q w9 w10 := (Q.refl w9).drew.trans hq10d; have hG10 := hG9.trans hq10; have hX10 := hX9.q hq10; have hY10 := hY9.q hq10; have hR10 := hR9.q hq10; obtain ⟨x0, x1, x2⟩ := hX10.cells; obtain ⟨y0, y1, y2⟩ := hY10.cells; obtain ⟨A12, n12, c12, rfl⟩ := hm1.form))
   all_goals
    clear hm1 hm2
    rw [sg_scale E1.out, sg_scale E2.out] at hK
    have hKl := dg_sum hK
    have HK := Lib.hid hK; clear hK
    have hd := ((hd.q hq10).q hq11).q hq12
    have he1 := ((he1.q hq10).q hq11).q hq12
    have he2 := ((he2.q hq10).q hq11).q hq12
    have HZ := Lib.hid (dg_z (D := K))
    obtain ⟨L, hL⟩ : ∃ L, dg W64 K = L := ⟨_, rfl⟩
    rw [hL] at htv hc14 HZ hKl ⊢
    have HL := Lib.hid hL; clear hL
    have HS1 := sz_eq p; have HS2 := sz_eq q
    have hLl : L ≤ 2 * (sz p + sz q) + 1 := by omega
    clear HS1 HS2 hKl
    by_cases hK0 : L = 0
    ·have k0 : ((L : Int) == 0) = true := by rw [hK0]; rfl
     have hKz : K = 0 := HZ.out.1 hK0
     have HKz := Lib.hid hKz; clear hKz hK0
     have HF := Lib.hid (HA1.out K s5 HK.out (.inl HKz.out))
     obtain ⟨x0, x1, x2⟩ := hX12.cells
     have fz := hR12.frozen
     obtain ⟨r0, r1, r2⟩ := hR12.cells
     go_wp2_with fail
     refine (q_under _ p _ (hx.q hG12)).mono ?_
     rintro e w13 ⟨u5, rfl, hu5, hq13⟩
     have hG13 := hG12.trans hq13
     have hX13 := hX12.q hq13
     have hY13 := hY12.q hq13
     have hR13 := hR12.q hq13
     clear x0 x1 x2 fz r0 r1 r2
     have fz := hR13.frozen
     obtain ⟨r0, r1, r2⟩ := hR13.cells
     obtain ⟨A15, n15, c15, rfl⟩ := hu5.form
     go_wp2_with fail
     refine (v_times p.den (q.den / d) _ _ _ hu5 (he2.q hq13) (show dg W64 p.den + dg W64 (q.den / d) + 8 ≤ LIM by have := HB.out; have := sz_eq p; have := sz_eq q; rw [LIM_eq] at *; omega)).mono ?_
     rintro e w14 ⟨m3, rfl, hm3, hq14, -⟩
     have hG14 := hG13.trans hq14
     have hX14 := hX13.q hq14
     have hY14 := hY13.q hq14
     have hR14 := hR13.q hq14
     clear fz r0 r1 r2
     have fz := hR14.frozen
     obtain ⟨r0, r1, r2⟩ := hR14.cells
     obtain ⟨A16, n16, c16, rfl⟩ := hm3.form
     go_wp2_with fail
     refine (v_fraction s5 _ _ K (p.den * (q.den / d)) _ ((htv.q hq13).q hq14) hm3).mono ?_
     rintro e w15 ⟨v5, rfl, hv5, hq15⟩
     have hG15 := hG14.trans hq15
     have hX15 := hX14.q hq15
     have hY15 := hY14.q hq15
     have hR15 := hR14.q hq15
     clear fz r0 r1 r2
     have fz := hR15.frozen
     obtain ⟨r0, r1, r2⟩ := hR15.cells
     obtain ⟨B1, d1, B2, d2, rfl, -, -⟩ := hv5.form
     have hv := Nq.made (q := p + q) hv5 HF.out.1 HF.out.2
     generalize (decide (0 < K) && s5) = s4 at *
     generalize dg W64 (if K = 0 then 0 else bt (p.den * (q.den / d))) = m2 at *
     generalize dg W64 K = m1 at *
     go_wp2_with fail
     obtain ⟨z0, z1, z2, hvF, hqF⟩ := Nq.store hR15 hv hG15 (by exact Nat.le_add_right_of_le (Nat.le_add_right _ _))
     unfold put3 at z0 z1 z2 hvF hqF
     refine bodyPost_ret (v := .agg #[.bool s4, .slice B1 m1 d1, .slice B2 m2 d2]) (by simp [results, Tryz.results35, go_sem, z0, z1, z2]) rfl ?_
     exact ⟨_, rfl, hvF, hqF⟩
    ·have k0 : ((L : Int) == 0) = false := beq_eq_false_iff_ne.2 (by omega)
     have hKp : 0 < K := Nat.pos_of_ne_zero (fun h => hK0 (HZ.out.2 h))
     clear hK0
     obtain ⟨x0, x1, x2⟩ := hX12.cells
     go_wp2_with fail
     refine (v_isOne _ d _ hd).mono ?_
     rintro e w7 ⟨rfl, rfl⟩
     by_cases hd1 : d = 1
     ·rw [decide_eq_true hd1]
      have HD := Lib.hid hd1; clear hd1 k0
      have HF := Lib.hid (HA1.out K s5 HK.out (.inr HD.out))
      clear x0 x1 x2
      obtain ⟨x0, x1, x2⟩ := hX12.cells
      have fz := hR12.frozen
      obtain ⟨r0, r1, r2⟩ := hR12.cells
      go_wp2_with fail
      refine (q_under _ p _ (hx.q hG12)).mono ?_
      rintro e w13 ⟨u5, rfl, hu5, hq13⟩
      have hG13 := hG12.trans hq13
      have hX13 := hX12.q hq13
      have hY13 := hY12.q hq13
      have hR13 := hR12.q hq13
      clear x0 x1 x2 fz r0 r1 r2
      have fz := hR13.frozen
      obtain ⟨r0, r1, r2⟩ := hR13.cells
      obtain ⟨A15, n15, c15, rfl⟩ := hu5.form
      go_wp2_with fail
      refine (v_times p.den (q.den / d) _ _ _ hu5 (he2.q hq13) (show dg W64 p.den + dg W64 (q.den / d) + 8 ≤ LIM by have := HB.out; have := sz_eq p; have := sz_eq q; rw [LIM_eq] at *; omega)).mono ?_
      rintro e w14 ⟨m3, rfl, hm3, hq14, -⟩
      have hG14 := hG13.trans hq14
      have hX14 := hX13.q hq14
      have hY14 := hY13.q hq14
      have hR14 := hR13.q hq14
      clear fz r0 r1 r2
      have fz := hR14.frozen
      obtain ⟨r0, r1, r2⟩ := hR14.cells
      obtain ⟨A16, n16, c16, rfl⟩ := hm3.form
      go_wp2_with fail
      refine (v_fraction s5 _ _ K (p.den * (q.den / d)) _ ((htv.q hq13).q hq14) hm3).mono ?_
      rintro e w15 ⟨v5, rfl, hv5, hq15⟩
      have hG15 := hG14.trans hq15
      have hX15 := hX14.q hq15
      have hY15 := hY14.q hq15
      have hR15 := hR14.q hq15
      clear fz r0 r1 r2
      have fz := hR15.frozen
      obtain ⟨r0, r1, r2⟩ := hR15.cells
      obtain ⟨B1, d1, B2, d2, rfl, -, -⟩ := hv5.form
      have hv := Nq.made (q := p + q) hv5 HF.out.1 HF.out.2
      generalize (decide (0 < K) && s5) = s4 at *
      generalize dg W64 (if K = 0 then 0 else bt (p.den * (q.den / d))) = m2 at *
      generalize dg W64 K = m1 at *
      go_wp2_with fail
      obtain ⟨z0, z1, z2, hvF, hqF⟩ := Nq.store hR15 hv hG15 (by exact Nat.le_add_right_of_le (Nat.le_add_right _ _))
      unfold put3 at z0 z1 z2 hvF hqF
      refine bodyPost_ret (v := .agg #[.bool s4, .slice B1 m1 d1, .slice B2 m2 d2]) (by simp [results, Tryz.results35, go_sem, z0, z1, z2]) rfl ?_
      exact ⟨_, rfl, hvF, hqF⟩
     ·rw [decide_eq_false hd1]
      clear hd1 k0
      have HF := Lib.hid (HA2.out K s5 HK.out)
      have hc0 : 0 < Nat.gcd K d := Nat.gcd_pos_of_pos_left _ hKp
      have hcl : dg W64 (Nat.gcd K d) ≤ sz p := Nat.le_trans (dgb_le W64_gt (Nat.gcd_le_right _ hD0)) hDl
      go_wp2_with fail
      refine (v_divisor K d _ _ _ (hT.q hG12) htv hd hKp hD0 (show 8 * (dg W64 K + dg W64 d) + 80 ≤ LIM by have := HB.out; rw [HL.out]; rw [LIM_eq] at *; omega)).mono ?_
      rintro e w13 ⟨dv2, rfl, hd2, hq13, -⟩
      have hG13 := hG12.trans hq13
      have hX13 := hX12.q hq13
      have hY13 := hY12.q hq13
      have hR13 := hR12.q hq13
      clear x0 x1 x2
      obtain ⟨y0, y1, y2⟩ := hY13.cells
      obtain ⟨A17, n17, c17, rfl⟩ := hd2.form
      generalize Nat.gcd K d = c at *
      have hl5 : dg W64 (q.den / c) ≤ sz q := Nat.le_trans (dgb_le W64_gt (Nat.div_le_self _ _)) (sz_den q)
      go_wp2_with fail
      clear y0 y1 y2
      obtain ⟨y0, y1, y2⟩ := hY13.cells
      go_region_held3 (fun W => W.cell? ⟨w.heap.size + 1, 0, none⟩ = some (.bool s2) ∧ W.cell? ⟨w.heap.size + 1, 1, none⟩ = some (.slice A3 n3 c3) ∧ W.cell? ⟨w.heap.size + 1, 2, none⟩ = some (.slice A4 n4 c4)) (first | exact ⟨y0, y1, y2⟩ | exact ⟨by assumption, by assumption, by assumption⟩ | go_keep) (first
       | (go_at_call 105; refine (v_fraction s5 _ _ (K / c) (p.den / d * (q.den / c)) _ (((he3.q hq15).q hq16).q hq17) hm4).mono ?_; rintro e w18 ⟨v5, rfl, hv5, hq18⟩; have hG18 := hG17.trans hq18; have hX18 := hX17.q hq18; have hY18 := hY17.q hq18; have hR18 := hR17.q hq18; obtain ⟨y0, y1, y2⟩ := hY18.cells; have fz := hR18.frozen; obtain ⟨r0, r1, r2⟩ := hR18.cells; obtain ⟨B1, d1, B2, d2, rfl, -, -⟩ := hv5.form; have hv := Nq.made (q := p + q) hv5 HF.out.1 (fun _ => HF.out.2); generalize (decide (0 < K / c) && s5) = s4 at *; generalize dg W64 (if K / c = 0 then 0 else bt (p.den / d * (q.den / c))) = m2 at *; generalize dg W64 (K / c) = m1 at *)
       | (go_at_call 129; refine (v_times (p.den / d) (q.den / c) _ _ _ ((((he1.q hq13).q hq14).q hq15).q hq16) he4 (show dg W64 (p.den / d) + dg W64 (q.den / c) + 8 ≤ LIM by have := HB.out; have := sz_eq p; have := sz_eq q; rw [LIM_eq] at *; omega)).mono ?_; rintro e w17 ⟨m4, rfl, hm4, hq17, -⟩; have hG17 := hG16.trans hq17; have hX17 := hX16.q hq17; have hY17 := hY16.q hq17; have hR17 := hR16.q hq17; obtain ⟨y0, y1, y2⟩ := hY17.cells; obtain ⟨A21, n21, c21, rfl⟩ := hm4.form)
       | (go_at_call 137; refine (v_exactly q.den c _ _ _ (hT.q hG15) hu6 ((hd2.q hq14).q hq15) hc0 (show 4 * (dg W64 q.den + dg W64 c) + 60 ≤ LIM by have := HB.out; have := sz_eq p; have := sz_eq q; rw [LIM_eq] at *; omega)).mono ?_; rintro e w16 ⟨e4, rfl, he4, hq16, -⟩; have hG16 := hG15.trans hq16; have hX16 := hX15.q hq16; have hY16 := hY15.q hq16; have hR16 := hR15.q hq16; obtain ⟨y0, y1, y2⟩ := hY16.cells; obtain ⟨A20, n20, c20, rfl⟩ := he4.form)
       | (go_at_call 136; refine (q_under _ q _ (hy.q hG14)).mono ?_; rintro e w15 ⟨u6, rfl, hu6, hq15⟩; have hG15 := hG14.trans hq15; have hX15 := hX14.q hq15; have hY15 := hY14.q hq15; have hR15 := hR14.q hq15; obtain ⟨y0, y1, y2⟩ := hY15.cells; obtain ⟨A19, n19, c19, rfl⟩ := hu6.form)
       | (go_at_call 137; refine (v_exactly K c _ _ _ (hT.q hG13.drew) (htv.q (hq13.trans (Q.refl _).drew)) (by exact hd2) hc0 (show 4 * (dg W64 K + dg W64 c) + 60 ≤ LIM by have := HB.out; rw [HL.out]; rw [LIM_eq] at *; omega)).mono ?_; rintro e w14 ⟨e3, rfl, he3, hq14d, -⟩; have hq14 : Q w13 w14 := (Q.refl w13).drew.trans hq14d; have hG14 := hG13.trans hq14; have hX14 := hX13.q hq14; have hY14 := hY13.q hq14; have hR14 := hR13.q hq14; obtain ⟨y0, y1, y2⟩ := hY14.cells; obtain ⟨A18, n18, c18, rfl⟩ := he3.form))
      all_goals
       go_wp2_with fail
       obtain ⟨z0, z1, z2, hvF, hqF⟩ := Nq.store hR18 hv hG18 (by exact Nat.le_add_right_of_le (Nat.le_add_right _ _))
       unfold put3 at z0 z1 z2 hvF hqF
       refine bodyPost_ret (v := .agg #[.bool s4, .slice B1 m1 d1, .slice B2 m2 d2]) (by simp [results, Tryz.results35, go_sem, z0, z1, z2]) rfl ?_
       exact ⟨_, rfl, hvF, hqF⟩
end Go.Proofs.YtgokbhikgdhmpaaGreatDoor
