/- ValueKnown (examples): the law holds. No condition.. Part of the proof: texts Jd6. -/
import Derived.Test.YtgokbhikgdhmpaaGreatDoorQk24
namespace Go.Proofs.YtgokbhikgdhmpaaGreatDoor
open Go.RowKit
open Ma Me
set_option maxRecDepth 100000 in
set_option maxHeartbeats 4000000 in
theorem q_SpanMul (a b : Value) (p q pb qb : Rat) (w : World) (hT9 : Tb w) (ha : Ns w a p q) (hb : Ns w b pb qb) (hB : sz p + sz q + sz pb + sz qb ≤ 10000000) : Calls Tryz.prog 75 #[a, b] w fun e w' => ∃ r, e = .returned r ∧ Ns w' r (pmin (rmin p q) (rmax p q) (rmin pb qb) (rmax pb qb)) (pmax (rmin p q) (rmax p q) (rmin pb qb) (rmax pb qb)) ∧ Q w w' := by
 have h1y := ha
 obtain ⟨s11, A11, n11, c11, A12, n12, c12, s12, A13, n13, c13, A14, n14, c14, rfl, lo1, hi1⟩ := ha
 have n1y : Ns w (.agg #[.bool s11, .slice A11 n11 c11, .slice A12 n12 c12, .bool s12, .slice A13 n13 c13, .slice A14 n14 c14]) p q := h1y
 have h2y := hb
 obtain ⟨s21, A21, n21, c21, A22, n22, c22, s22, A23, n23, c23, A24, n24, c24, rfl, lo2, hi2⟩ := hb
 have n2y : Ns w (.agg #[.bool s21, .slice A21 n21 c21, .slice A22 n22 c22, .bool s22, .slice A23 n23 c23, .slice A24 n24 c24]) pb qb := h2y
 obtain ⟨w0, hW, hG0, hA0, hB0, hT0⟩ := boxS2r w s11 (.slice A11 n11 c11) (.slice A12 n12 c12) s12 (.slice A13 n13 c13) (.slice A14 n14 c14) s21 (.slice A21 n21 c21) (.slice A22 n22 c22) s22 (.slice A23 n23 c23) (.slice A24 n24 c24)
 have Z1 : Hid (sz p ≤ 10000000) := Lib.hid (by omega)
 have Z2 : Hid (sz q ≤ 10000000) := Lib.hid (by omega)
 have Z3 : Hid (sz pb ≤ 10000000) := Lib.hid (by omega)
 have Z4 : Hid (sz qb ≤ 10000000) := Lib.hid (by omega)
 have ZS := Lib.hid hB
 clear hB
 have nA0 := n1y.q hG0; have nB0 := n2y.q hG0
 clear h1y h2y n1y n2y lo1 hi1 lo2 hi2
 go_enter Tryz.func75, Tryz.ntmps75
 go_upto_region 1 with fail
 clear hW
 have Z5 : Hid (sz (rmin (p) (q)) ≤ 20000000) := Lib.hid (by have h9 := sz_rmin (p) (q); have h0 := Z1.out; have h1 := Z2.out; omega)
 have Z6 : Hid (sz (rmax (p) (q)) ≤ 20000000) := Lib.hid (by have h9 := sz_rmax (p) (q); have h0 := Z1.out; have h1 := Z2.out; omega)
 have B7 : Hid (64 * (sz (p) + sz (q)) + 400 ≤ LIM) := Lib.hid (by have h0 := Z1.out; have h1 := Z2.out; rw [LIM_eq]; omega)
 have Z8 : Hid (sz (rmin (pb) (qb)) ≤ 20000000) := Lib.hid (by have h9 := sz_rmin (pb) (qb); have h0 := Z3.out; have h1 := Z4.out; omega)
 have Z9 : Hid (sz (rmax (pb) (qb)) ≤ 20000000) := Lib.hid (by have h9 := sz_rmax (pb) (qb); have h0 := Z3.out; have h1 := Z4.out; omega)
 have B10 : Hid (64 * (sz (pb) + sz (qb)) + 400 ≤ LIM) := Lib.hid (by have h0 := Z3.out; have h1 := Z4.out; rw [LIM_eq]; omega)
 have Z11 : Hid (sz (pmin (rmin (p) (q)) (rmax (p) (q)) (rmin (pb) (qb)) (rmax (pb) (qb))) ≤ 160000000) := Lib.hid (by have h9 := sz_pmin (rmin (p) (q)) (rmax (p) (q)) (rmin (pb) (qb)) (rmax (pb) (qb)); have h0 := Z5.out; have h1 := Z6.out; have h2 := Z8.out; have h3 := Z9.out; omega)
 have Z12 : Hid (sz (pmax (rmin (p) (q)) (rmax (p) (q)) (rmin (pb) (qb)) (rmax (pb) (qb))) ≤ 160000000) := Lib.hid (by have h9 := sz_pmax (rmin (p) (q)) (rmax (p) (q)) (rmin (pb) (qb)) (rmax (pb) (qb)); have h0 := Z5.out; have h1 := Z6.out; have h2 := Z8.out; have h3 := Z9.out; omega)
 have B13 : Hid (sz (rmin (p) (q)) + sz (rmax (p) (q)) + sz (rmin (pb) (qb)) + sz (rmax (pb) (qb)) ≤ 100000000) := Lib.hid (by have h0 := Z5.out; have h1 := Z6.out; have h2 := Z8.out; have h3 := Z9.out; have hs := ZS.out; have e1 := sz_rmin p q; have e2 := sz_rmax p q; have e3 := sz_rmin pb qb; have e4 := sz_rmax pb qb; omega)
 have hAt0 : At0 w [{ al := none, g := w.heap.size, big := true, row := .agg #[.bool s11, .slice A11 n11 c11, .slice A12 n12 c12, .bool s12, .slice A13 n13 c13, .slice A14 n14 c14], st := 1000, src := 0 }, { al := none, g := w.heap.size + 1, big := true, row := .agg #[.bool s21, .slice A21 n21 c21, .slice A22 n22 c22, .bool s22, .slice A23 n23 c23, .slice A24 n24 c24], st := 1000, src := 0 }, { al := none, g := w.heap.size + 1 + 1, big := true, row := .agg #[.bool false, .slice none 0 0, .slice none 0 0, .bool false, .slice none 0 0, .slice none 0 0], st := 5, src := 4 }] [(.agg #[.bool s11, .slice A11 n11 c11, .slice A12 n12 c12, .bool s12, .slice A13 n13 c13, .slice A14 n14 c14], .span (p) (q)), (.agg #[.bool s21, .slice A21 n21 c21, .slice A22 n22 c22, .bool s22, .slice A23 n23 c23, .slice A24 n24 c24], .span (pb) (qb))] w0 := At0.of hG0 ⟨fun _ => ⟨by dsimp only; omega, NbV.ofS hA0⟩, fun _ => ⟨by dsimp only; omega, NbV.ofS hB0⟩, fun _ => ⟨by dsimp only; omega, NbV.ofS hT0⟩, trivial⟩ (by (simp [Apart0] <;> omega)) ⟨nA0, nB0, trivial⟩
 clear hG0 hA0 hB0 hT0 nA0 nB0
 refine region_cells (F := ?F2) w ([.span (p) (q), .span (rmin (p) (q)) (rmax (p) (q)), .span (pb) (qb), .span (rmin (pb) (qb)) (rmax (pb) (qb)), .span (pmin (rmin (p) (q)) (rmax (p) (q)) (rmin (pb) (qb)) (rmax (pb) (qb))) (pmax (rmin (p) (q)) (rmax (p) (q)) (rmin (pb) (qb)) (rmax (pb) (qb))), .any] : List Vs) _ _ (by kernel_rfl) (by kernel_rfl) hAt0 ?hF2 ?st2 ?en2
 case hF2 =>
  intro vals
  simp only [Ja.fillL, Act.put, List.setIfInBounds_toArray, List.set_cons_zero, List.set_cons_succ, Nat.reduceAdd]
  exact rfl
 case st2 =>
  clear hAt0
  intro hctx
  refine JC.o hctx ?_ ?_
  ·intro L vals W hL hJ hd K hK
   obtain ⟨z0, z1, z2, z3, z4, z5⟩ := (NbV.outS (hJ.still 0 rfl rfl (Nat.le_of_ble_eq_true (by kernel_rfl)))).cells
   go_simp
   exact hK.out (.agg #[.bool s11, .slice A11 n11 c11, .slice A12 n12 c12, .bool s12, .slice A13 n13 c13, .slice A14 n14 c14]) _ _ (by kernel_rfl) (hJ.kept 0 rfl) (Q.refl _)
  refine JC.o hctx ?_ ?_
  ·intro L vals W hL hJ hd K hK
   have d0 : Ns W (vals 0) (p) (q) := hd 0 (by kernel_rfl)
   go_simp
   (with_reducible refine (q_ordered _ (p) (q) W d0 B7.out).mono ?_)
   rintro e W9 ⟨r, rfl, hr, hq9⟩
   exact hK.out r W9 _ (by kernel_rfl) hr hq9
  refine JC.o hctx ?_ ?_
  ·intro L vals W hL hJ hd K hK
   obtain ⟨z0, z1, z2, z3, z4, z5⟩ := (NbV.outS (hJ.still 1 rfl rfl (Nat.le_of_ble_eq_true (by kernel_rfl)))).cells
   go_simp
   exact hK.out (.agg #[.bool s21, .slice A21 n21 c21, .slice A22 n22 c22, .bool s22, .slice A23 n23 c23, .slice A24 n24 c24]) _ _ (by kernel_rfl) (hJ.kept 1 rfl) (Q.refl _)
  refine JC.o hctx ?_ ?_
  ·intro L vals W hL hJ hd K hK
   have d2 : Ns W (vals 2) (pb) (qb) := hd 2 (by kernel_rfl)
   go_simp
   (with_reducible refine (q_ordered _ (pb) (qb) W d2 B10.out).mono ?_)
   rintro e W9 ⟨r, rfl, hr, hq9⟩
   exact hK.out r W9 _ (by kernel_rfl) hr hq9
  refine JC.o hctx ?_ ?_
  ·intro L vals W hL hJ hd K hK
   have hQ := hJ.q
   have d1 : Ns W (vals 1) (rmin (p) (q)) (rmax (p) (q)) := hd 1 (by kernel_rfl)
   have d3 : Ns W (vals 3) (rmin (pb) (qb)) (rmax (pb) (qb)) := hd 3 (by kernel_rfl)
   go_simp
   (with_reducible refine (q_product _ _ (rmin (p) (q)) (rmax (p) (q)) (rmin (pb) (qb)) (rmax (pb) (qb)) W (hT9.q hQ) d1 d3 (rmin_le_rmax _ _) (rmin_le_rmax _ _) B13.out).mono ?_)
   rintro e W9 ⟨r, rfl, hr, hq9⟩
   exact hK.out r W9 _ (by kernel_rfl) hr hq9
  refine Ja.Steps.cons (JC.store (n := 2) hctx (by kernel_rfl) (by rfl) (by kernel_rfl) (by rfl) (by rfl) (by kernel_rfl) (by rfl) ?_) ?_
  ·intro L vals W g old hJ hp ho hs K hK
   have hs9 : Ns W (vals 4) (pmin (rmin (p) (q)) (rmax (p) (q)) (rmin (pb) (qb)) (rmax (pb) (qb))) (pmax (rmin (p) (q)) (rmax (p) (q)) (rmin (pb) (qb)) (rmax (pb) (qb))) := hs
   dsimp only at hK
   obtain rfl : w.heap.size + 1 + 1 = g := by injection hp with hp; injection hp with hp; injection hp with hp
   generalize vals 4 = uj at hs9 hK ⊢
   obtain ⟨e1, C1, i1, j1, C2, i2, j2, e2, C3, i3, j3, C4, i4, j4, rfl, -, -⟩ := hs9
   obtain ⟨f1, D1, x1, y1, D2, x2, y2, f2, D3, x3, y3, D4, x4, y4, ho1, hb⟩ := ho
   have fz := hb.frozen
   obtain ⟨r0, r1, r2, r3, r4, r5⟩ := hb.cells
   clear hb ho1 hp
   go_simp
   exact hK.out undef _ _ (by kernel_rfl) PutV.ofS
  exact Ja.Steps.nil
 intro L vals w1 hall hJ
 clear hAt0
 have hG1 := hJ.q
 have hA1 : Sp w1 (w.heap.size) (s11) (.slice A11 n11 c11) (.slice A12 n12 c12) (s12) (.slice A13 n13 c13) (.slice A14 n14 c14) := NbV.outS (hJ.still 0 rfl rfl (Nat.le_of_ble_eq_true (by kernel_rfl)))
 have nA1 : Ns w1 (.agg #[.bool s11, .slice A11 n11 c11, .slice A12 n12 c12, .bool s12, .slice A13 n13 c13, .slice A14 n14 c14]) (p) (q) := hJ.kept 0 rfl
 have hB1 : Sp w1 (w.heap.size + 1) (s21) (.slice A21 n21 c21) (.slice A22 n22 c22) (s22) (.slice A23 n23 c23) (.slice A24 n24 c24) := NbV.outS (hJ.still 1 rfl rfl (Nat.le_of_ble_eq_true (by kernel_rfl)))
 have nB1 : Ns w1 (.agg #[.bool s21, .slice A21 n21 c21, .slice A22 n22 c22, .bool s22, .slice A23 n23 c23, .slice A24 n24 c24]) (pb) (qb) := hJ.kept 1 rfl
 have qT : NbV w1 (w.heap.size + 1 + 1) true (vals 4) := hJ.stored 2 rfl rfl (hall 5 (by decide))
 have nT1 : Ns w1 (vals 4) (pmin (rmin (p) (q)) (rmax (p) (q)) (rmin (pb) (qb)) (rmax (pb) (qb))) (pmax (rmin (p) (q)) (rmax (p) (q)) (rmin (pb) (qb)) (rmax (pb) (qb))) := hJ.s 4 (hall 4 (by decide))
 obtain ⟨sT1, AT1, kT1, cT1, AT2, kT2, cT2, sT2, AT3, kT3, cT3, AT4, kT4, cT4, yT, hT1⟩ := qT
 change Sp w1 (w.heap.size + 1 + 1) (sT1) (.slice AT1 kT1 cT1) (.slice AT2 kT2 cT2) (sT2) (.slice AT3 kT3 cT3) (.slice AT4 kT4 cT4) at hT1
 try dsimp only at yT
 rw [yT] at nT1
 clear yT
 clear hall hJ
 go_wp2_with fail
 obtain ⟨z0, z1, z2, z3, z4, z5⟩ := hT1.cells
 refine bodyPost_ret (v := .agg #[.bool sT1, .slice AT1 kT1 cT1, .slice AT2 kT2 cT2, .bool sT2, .slice AT3 kT3 cT3, .slice AT4 kT4 cT4]) (by simp [results, Tryz.results75, go_sem, z0, z1, z2, z3, z4, z5]) rfl ?_
 exact ⟨_, rfl, nT1, hG1⟩
def meetR (a b c d : Rat) : Bool × Rat × Rat := if rmax a c ≤ rmin b d then (true, rmax a c, rmin b d) else (false, 0, 0)
set_option maxRecDepth 100000 in
set_option maxHeartbeats 4000000 in
theorem q_SpanMeet (a b : Value) (p q pb qb : Rat) (w : World) (_ : Tb w) (ha : Ns w a p q) (hb : Ns w b pb qb) (hB : sz p + sz q + sz pb + sz qb ≤ 10000000) : Calls Tryz.prog 69 #[a, b] w fun e w' => ∃ r, e = .returned (.tuple #[r, .bool (meetR (rmin p q) (rmax p q) (rmin pb qb) (rmax pb qb)).1]) ∧ Ns w' r (meetR (rmin p q) (rmax p q) (rmin pb qb) (rmax pb qb)).2.1 (meetR (rmin p q) (rmax p q) (rmin pb qb) (rmax pb qb)).2.2 ∧ Q w w' := by
 have h1y := ha
 obtain ⟨s11, A11, n11, c11, A12, n12, c12, s12, A13, n13, c13, A14, n14, c14, rfl, lo1, hi1⟩ := ha
 have n1y : Ns w (.agg #[.bool s11, .slice A11 n11 c11, .slice A12 n12 c12, .bool s12, .slice A13 n13 c13, .slice A14 n14 c14]) p q := h1y
 have h2y := hb
 obtain ⟨s21, A21, n21, c21, A22, n22, c22, s22, A23, n23, c23, A24, n24, c24, rfl, lo2, hi2⟩ := hb
 have n2y : Ns w (.agg #[.bool s21, .slice A21 n21 c21, .slice A22 n22 c22, .bool s22, .slice A23 n23 c23, .slice A24 n24 c24]) pb qb := h2y
 obtain ⟨w0, hW, hG0, hA0, hB0, hT0⟩ := boxS2r w s11 (.slice A11 n11 c11) (.slice A12 n12 c12) s12 (.slice A13 n13 c13) (.slice A14 n14 c14) s21 (.slice A21 n21 c21) (.slice A22 n22 c22) s22 (.slice A23 n23 c23) (.slice A24 n24 c24)
 have Z1 : Hid (sz p ≤ 10000000) := Lib.hid (by omega)
 have Z2 : Hid (sz q ≤ 10000000) := Lib.hid (by omega)
 have Z3 : Hid (sz pb ≤ 10000000) := Lib.hid (by omega)
 have Z4 : Hid (sz qb ≤ 10000000) := Lib.hid (by omega)
 have ZS := Lib.hid hB
 clear hB
 have nA0 := n1y.q hG0; have nB0 := n2y.q hG0
 clear h1y h2y n1y n2y lo1 hi1 lo2 hi2
 go_enter Tryz.func69, Tryz.ntmps69
 go_upto_region 1 with fail
 clear hW
 have Z5 : Hid (sz (rmin (p) (q)) ≤ 20000000) := Lib.hid (by have h9 := sz_rmin (p) (q); have h0 := Z1.out; have h1 := Z2.out; omega)
 have Z6 : Hid (sz (rmax (p) (q)) ≤ 20000000) := Lib.hid (by have h9 := sz_rmax (p) (q); have h0 := Z1.out; have h1 := Z2.out; omega)
 have B7 : Hid (64 * (sz (p) + sz (q)) + 400 ≤ LIM) := Lib.hid (by have h0 := Z1.out; have h1 := Z2.out; rw [LIM_eq]; omega)
 have Z8 : Hid (sz (rmin (pb) (qb)) ≤ 20000000) := Lib.hid (by have h9 := sz_rmin (pb) (qb); have h0 := Z3.out; have h1 := Z4.out; omega)
 have Z9 : Hid (sz (rmax (pb) (qb)) ≤ 20000000) := Lib.hid (by have h9 := sz_rmax (pb) (qb); have h0 := Z3.out; have h1 := Z4.out; omega)
 have B10 : Hid (64 * (sz (pb) + sz (qb)) + 400 ≤ LIM) := Lib.hid (by have h0 := Z3.out; have h1 := Z4.out; rw [LIM_eq]; omega)
 have hAt0 : At0 w [{ al := none, g := w.heap.size, big := true, row := .agg #[.bool s11, .slice A11 n11 c11, .slice A12 n12 c12, .bool s12, .slice A13 n13 c13, .slice A14 n14 c14], st := 4, src := 1 }, { al := none, g := w.heap.size + 1, big := true, row := .agg #[.bool s21, .slice A21 n21 c21, .slice A22 n22 c22, .bool s22, .slice A23 n23 c23, .slice A24 n24 c24], st := 5, src := 3 }, { al := none, g := w.heap.size + 1 + 1, big := true, row := .agg #[.bool false, .slice none 0 0, .slice none 0 0, .bool false, .slice none 0 0, .slice none 0 0], st := 1000, src := 0 }] [(.agg #[.bool s11, .slice A11 n11 c11, .slice A12 n12 c12, .bool s12, .slice A13 n13 c13, .slice A14 n14 c14], .span (p) (q)), (.agg #[.bool s21, .slice A21 n21 c21, .slice A22 n22 c22, .bool s22, .slice A23 n23 c23, .slice A24 n24 c24], .span (pb) (qb))] w0 := At0.of hG0 ⟨fun _ => ⟨by dsimp only; omega, NbV.ofS hA0⟩, fun _ => ⟨by dsimp only; omega, NbV.ofS hB0⟩, fun _ => ⟨by dsimp only; omega, NbV.ofS hT0⟩, trivial⟩ (by (simp [Apart0] <;> omega)) ⟨nA0, nB0, trivial⟩
 clear hG0 hA0 hB0 hT0 nA0 nB0
 refine region_cells (F := ?F3) w ([.span (p) (q), .span (rmin (p) (q)) (rmax (p) (q)), .span (pb) (qb), .span (rmin (pb) (qb)) (rmax (pb) (qb)), .any, .any] : List Vs) _ _ (by kernel_rfl) (by kernel_rfl) hAt0 ?hF3 ?st3 ?en3
 case hF3 =>
  intro vals
  simp only [Ja.fillL, Act.put, List.setIfInBounds_toArray, List.set_cons_zero, List.set_cons_succ, Nat.reduceAdd]
  exact rfl
 case st3 =>
  clear hAt0
  intro hctx
  refine JC.o hctx ?_ ?_
  ·intro L vals W hL hJ hd K hK
   obtain ⟨z0, z1, z2, z3, z4, z5⟩ := (NbV.outS (hJ.before 0 0 rfl rfl hL (by kernel_rfl) (by kernel_rfl))).cells
   go_simp
   exact hK.out (.agg #[.bool s11, .slice A11 n11 c11, .slice A12 n12 c12, .bool s12, .slice A13 n13 c13, .slice A14 n14 c14]) _ _ (by kernel_rfl) (hJ.kept 0 rfl) (Q.refl _)
  refine JC.o hctx ?_ ?_
  ·intro L vals W hL hJ hd K hK
   have d0 : Ns W (vals 0) (p) (q) := hd 0 (by kernel_rfl)
   go_simp
   (with_reducible refine (q_ordered _ (p) (q) W d0 B7.out).mono ?_)
   rintro e W9 ⟨r, rfl, hr, hq9⟩
   exact hK.out r W9 _ (by kernel_rfl) hr hq9
  refine JC.o hctx ?_ ?_
  ·intro L vals W hL hJ hd K hK
   obtain ⟨z0, z1, z2, z3, z4, z5⟩ := (NbV.outS (hJ.before 1 2 rfl rfl hL (by kernel_rfl) (by kernel_rfl))).cells
   go_simp
   exact hK.out (.agg #[.bool s21, .slice A21 n21 c21, .slice A22 n22 c22, .bool s22, .slice A23 n23 c23, .slice A24 n24 c24]) _ _ (by kernel_rfl) (hJ.kept 1 rfl) (Q.refl _)
  refine JC.o hctx ?_ ?_
  ·intro L vals W hL hJ hd K hK
   have d2 : Ns W (vals 2) (pb) (qb) := hd 2 (by kernel_rfl)
   go_simp
   (with_reducible refine (q_ordered _ (pb) (qb) W d2 B10.out).mono ?_)
   rintro e W9 ⟨r, rfl, hr, hq9⟩
   exact hK.out r W9 _ (by kernel_rfl) hr hq9
  refine Ja.Steps.cons (JC.store (n := 0) hctx (by kernel_rfl) (by rfl) (by kernel_rfl) (by rfl) (by rfl) (by kernel_rfl) (by rfl) ?_) ?_
  ·intro L vals W g old hJ hp ho hs K hK
   have hs9 : Ns W (vals 1) (rmin (p) (q)) (rmax (p) (q)) := hs
   dsimp only at hK
   obtain rfl : w.heap.size = g := by injection hp with hp; injection hp with hp; injection hp with hp
   generalize vals 1 = uj at hs9 hK ⊢
   obtain ⟨e1, C1, i1, j1, C2, i2, j2, e2, C3, i3, j3, C4, i4, j4, rfl, -, -⟩ := hs9
   obtain ⟨f1, D1, x1, y1, D2, x2, y2, f2, D3, x3, y3, D4, x4, y4, ho1, hb⟩ := ho
   have fz := hb.frozen
   obtain ⟨r0, r1, r2, r3, r4, r5⟩ := hb.cells
   clear hb ho1 hp
   go_simp
   exact hK.out undef _ _ (by kernel_rfl) PutV.ofS
  refine Ja.Steps.cons (JC.store (n := 1) hctx (by kernel_rfl) (by rfl) (by kernel_rfl) (by rfl) (by rfl) (by kernel_rfl) (by rfl) ?_) ?_
  ·intro L vals W g old hJ hp ho hs K hK
   have hs9 : Ns W (vals 3) (rmin (pb) (qb)) (rmax (pb) (qb)) := hs
   dsimp only at hK
   obtain rfl : w.heap.size + 1 = g := by injection hp with hp; injection hp with hp; injection hp with hp
   generalize vals 3 = uj at hs9 hK ⊢
   obtain ⟨e1, C1, i1, j1, C2, i2, j2, e2, C3, i3, j3, C4, i4, j4, rfl, -, -⟩ := hs9
   obtain ⟨f1, D1, x1, y1, D2, x2, y2, f2, D3, x3, y3, D4, x4, y4, ho1, hb⟩ := ho
   have fz := hb.frozen
   obtain ⟨r0, r1, r2, r3, r4, r5⟩ := hb.cells
   clear hb ho1 hp
   go_simp
   exact hK.out undef _ _ (by kernel_rfl) PutV.ofS
  exact Ja.Steps.nil
 intro L vals w1 hall hJ
 clear hAt0
 have hG1 := hJ.q
 have qA : NbV w1 (w.heap.size) true (vals 1) := hJ.stored 0 rfl rfl (hall 4 (by decide))
 have nA1 : Ns w1 (vals 1) (rmin (p) (q)) (rmax (p) (q)) := hJ.s 1 (hall 1 (by decide))
 obtain ⟨sA1, AA1, kA1, cA1, AA2, kA2, cA2, sA2, AA3, kA3, cA3, AA4, kA4, cA4, yA, hA1⟩ := qA
 change Sp w1 (w.heap.size) (sA1) (.slice AA1 kA1 cA1) (.slice AA2 kA2 cA2) (sA2) (.slice AA3 kA3 cA3) (.slice AA4 kA4 cA4) at hA1
 try dsimp only at yA
 rw [yA] at nA1
 clear yA
 have qB : NbV w1 (w.heap.size + 1) true (vals 3) := hJ.stored 1 rfl rfl (hall 5 (by decide))
 have nB1 : Ns w1 (vals 3) (rmin (pb) (qb)) (rmax (pb) (qb)) := hJ.s 3 (hall 3 (by decide))
 obtain ⟨sB1, AB1, kB1, cB1, AB2, kB2, cB2, sB2, AB3, kB3, cB3, AB4, kB4, cB4, yB, hB1⟩ := qB
 change Sp w1 (w.heap.size + 1) (sB1) (.slice AB1 kB1 cB1) (.slice AB2 kB2 cB2) (sB2) (.slice AB3 kB3 cB3) (.slice AB4 kB4 cB4) at hB1
 try dsimp only at yB
 rw [yB] at nB1
 clear yB
 have hT1 : Sp w1 (w.heap.size + 1 + 1) (false) (.slice none 0 0) (.slice none 0 0) (false) (.slice none 0 0) (.slice none 0 0) := NbV.outS (hJ.still 2 rfl rfl (Nat.le_of_ble_eq_true (by kernel_rfl)))
 clear hall hJ
 go_upto_region 2 with fail
 have Z11 : Hid (sz (rmax (rmin (p) (q)) (rmin (pb) (qb))) ≤ 40000000) := Lib.hid (by have h9 := sz_rmax (rmin (p) (q)) (rmin (pb) (qb)); have h0 := Z5.out; have h1 := Z8.out; omega)
 have B12 : Hid (64 * (sz (rmin (p) (q)) + sz (rmin (pb) (qb))) + 400 ≤ LIM) := Lib.hid (by have h0 := Z5.out; have h1 := Z8.out; rw [LIM_eq]; omega)
 have Z13 : Hid (sz (rmin (rmax (p) (q)) (rmax (pb) (qb))) ≤ 40000000) := Lib.hid (by have h9 := sz_rmin (rmax (p) (q)) (rmax (pb) (qb)); have h0 := Z6.out; have h1 := Z9.out; omega)
 have B14 : Hid (64 * (sz (rmax (p) (q)) + sz (rmax (pb) (qb))) + 400 ≤ LIM) := Lib.hid (by have h0 := Z6.out; have h1 := Z9.out; rw [LIM_eq]; omega)
 have hAt1 : At0 w [{ al := none, g := w.heap.size, big := true, row := .agg #[.bool sA1, .slice AA1 kA1 cA1, .slice AA2 kA2 cA2, .bool sA2, .slice AA3 kA3 cA3, .slice AA4 kA4 cA4], st := 1000, src := 0 }, { al := none, g := w.heap.size + 1, big := true, row := .agg #[.bool sB1, .slice AB1 kB1 cB1, .slice AB2 kB2 cB2, .bool sB2, .slice AB3 kB3 cB3, .slice AB4 kB4 cB4], st := 1000, src := 0 }, { al := none, g := w.heap.size + 1 + 1, big := true, row := .agg #[.bool false, .slice none 0 0, .slice none 0 0, .bool false, .slice none 0 0, .slice none 0 0], st := 1000, src := 0 }, { al := some 11, g := 0, big := true, row := .agg #[.bool false, .slice none 0 0, .slice none 0 0, .bool false, .slice none 0 0, .slice none 0 0], st := 12, src := 10 }] [(.agg #[.bool sA1, .slice AA1 kA1 cA1, .slice AA2 kA2 cA2, .bool sA2, .slice AA3 kA3 cA3, .slice AA4 kA4 cA4], .span (rmin (p) (q)) (rmax (p) (q))), (.agg #[.bool sB1, .slice AB1 kB1 cB1, .slice AB2 kB2 cB2, .bool sB2, .slice AB3 kB3 cB3, .slice AB4 kB4 cB4], .span (rmin (pb) (qb)) (rmax (pb) (qb)))] w1 := At0.of hG1 ⟨fun _ => ⟨by dsimp only; omega, NbV.ofS hA1⟩, fun _ => ⟨by dsimp only; omega, NbV.ofS hB1⟩, fun _ => ⟨by dsimp only; omega, NbV.ofS hT1⟩, fun h => (by cases h), trivial⟩ (by (simp [Apart0] <;> omega)) ⟨nA1, nB1, trivial⟩
 clear hG1 hA1 hB1 hT1 nA1 nB1
 refine region_cells (F := ?F4) w ([.eq (.pointer (some ⟨w.heap.size, 0, none⟩)), .num (rmin (p) (q)), .eq (.pointer (some ⟨w.heap.size + 1, 0, none⟩)), .num (rmin (pb) (qb)), .num (rmax (rmin (p) (q)) (rmin (pb) (qb))), .eq (.pointer (some ⟨w.heap.size, 3, none⟩)), .num (rmax (p) (q)), .eq (.pointer (some ⟨w.heap.size + 1, 3, none⟩)), .num (rmax (pb) (qb)), .num (rmin (rmax (p) (q)) (rmax (pb) (qb))), .span (rmax (rmin (p) (q)) (rmin (pb) (qb))) (rmin (rmax (p) (q)) (rmax (pb) (qb))), .any, .any] : List Vs) _ _ (by kernel_rfl) (by kernel_rfl) hAt1 ?hF4 ?st4 ?en4
 case hF4 =>
  intro vals
  simp only [Ja.fillL, Act.put, List.setIfInBounds_toArray, List.set_cons_zero, List.set_cons_succ, Nat.reduceAdd]
  exact rfl
 case st4 =>
  clear hAt1
  intro hctx
  refine JC.o hctx ?_ ?_
  ·intro L vals W hL hJ hd K hK
   go_simp
   exact hK.out (.pointer (some ⟨w.heap.size, 0, none⟩)) _ _ (by kernel_rfl) rfl (Q.refl _)
  refine JC.o hctx ?_ ?_
  ·intro L vals W hL hJ hd K hK
   have d0 : vals 0 = .pointer (some ⟨w.heap.size, 0, none⟩) := hd 0 (by kernel_rfl)
   generalize vals 0 = u0 at d0 hK ⊢
   subst d0
   obtain ⟨z0, z1, z2, z3, z4, z5⟩ := (NbV.outS (hJ.still 0 rfl rfl (Nat.le_of_ble_eq_true (by kernel_rfl)))).cells
   go_simp
   exact hK.out (.agg #[.bool sA1, .slice AA1 kA1 cA1, .slice AA2 kA2 cA2]) _ _ (by kernel_rfl) ((NsLo (hJ.kept 0 rfl))) (Q.refl _)
  refine JC.o hctx ?_ ?_
  ·intro L vals W hL hJ hd K hK
   go_simp
   exact hK.out (.pointer (some ⟨w.heap.size + 1, 0, none⟩)) _ _ (by kernel_rfl) rfl (Q.refl _)
  refine JC.o hctx ?_ ?_
  ·intro L vals W hL hJ hd K hK
   have d2 : vals 2 = .pointer (some ⟨w.heap.size + 1, 0, none⟩) := hd 2 (by kernel_rfl)
   generalize vals 2 = u2 at d2 hK ⊢
   subst d2
   obtain ⟨z0, z1, z2, z3, z4, z5⟩ := (NbV.outS (hJ.still 1 rfl rfl (Nat.le_of_ble_eq_true (by kernel_rfl)))).cells
   go_simp
   exact hK.out (.agg #[.bool sB1, .slice AB1 kB1 cB1, .slice AB2 kB2 cB2]) _ _ (by kernel_rfl) ((NsLo (hJ.kept 1 rfl))) (Q.refl _)
  refine JC.o hctx ?_ ?_
  ·intro L vals W hL hJ hd K hK
   have d1 : Nq W (vals 1) (rmin (p) (q)) := hd 1 (by kernel_rfl)
   have d3 : Nq W (vals 3) (rmin (pb) (qb)) := hd 3 (by kernel_rfl)
   go_simp
   (with_reducible refine (q_greater _ _ (rmin (p) (q)) (rmin (pb) (qb)) W d1 d3 B12.out).mono ?_)
   rintro e W9 ⟨r, rfl, hr, hq9⟩
   exact hK.out r W9 _ (by kernel_rfl) hr hq9
  refine JC.o hctx ?_ ?_
  ·intro L vals W hL hJ hd K hK
   go_simp
   exact hK.out (.pointer (some ⟨w.heap.size, 3, none⟩)) _ _ (by kernel_rfl) rfl (Q.refl _)
  refine JC.o hctx ?_ ?_
  ·intro L vals W hL hJ hd K hK
   have d5 : vals 5 = .pointer (some ⟨w.heap.size, 3, none⟩) := hd 5 (by kernel_rfl)
   generalize vals 5 = u5 at d5 hK ⊢
   subst d5
   obtain ⟨z0, z1, z2, z3, z4, z5⟩ := (NbV.outS (hJ.still 0 rfl rfl (Nat.le_of_ble_eq_true (by kernel_rfl)))).cells
   go_simp
   exact hK.out (.agg #[.bool sA2, .slice AA3 kA3 cA3, .slice AA4 kA4 cA4]) _ _ (by kernel_rfl) ((NsHi (hJ.kept 0 rfl))) (Q.refl _)
  refine JC.o hctx ?_ ?_
  ·intro L vals W hL hJ hd K hK
   go_simp
   exact hK.out (.pointer (some ⟨w.heap.size + 1, 3, none⟩)) _ _ (by kernel_rfl) rfl (Q.refl _)
  refine JC.o hctx ?_ ?_
  ·intro L vals W hL hJ hd K hK
   have d7 : vals 7 = .pointer (some ⟨w.heap.size + 1, 3, none⟩) := hd 7 (by kernel_rfl)
   generalize vals 7 = u7 at d7 hK ⊢
   subst d7
   obtain ⟨z0, z1, z2, z3, z4, z5⟩ := (NbV.outS (hJ.still 1 rfl rfl (Nat.le_of_ble_eq_true (by kernel_rfl)))).cells
   go_simp
   exact hK.out (.agg #[.bool sB2, .slice AB3 kB3 cB3, .slice AB4 kB4 cB4]) _ _ (by kernel_rfl) ((NsHi (hJ.kept 1 rfl))) (Q.refl _)
  refine JC.o hctx ?_ ?_
  ·intro L vals W hL hJ hd K hK
   have d6 : Nq W (vals 6) (rmax (p) (q)) := hd 6 (by kernel_rfl)
   have d8 : Nq W (vals 8) (rmax (pb) (qb)) := hd 8 (by kernel_rfl)
   go_simp
   (with_reducible refine (q_lesser _ _ (rmax (p) (q)) (rmax (pb) (qb)) W d6 d8 B14.out).mono ?_)
   rintro e W9 ⟨r, rfl, hr, hq9⟩
   exact hK.out r W9 _ (by kernel_rfl) hr hq9
  refine JC.o hctx ?_ ?_
  ·intro L vals W hL hJ hd K hK
   have d4 : Nq W (vals 4) (rmax (rmin (p) (q)) (rmin (pb) (qb))) := hd 4 (by kernel_rfl)
   have d9 : Nq W (vals 9) (rmin (rmax (p) (q)) (rmax (pb) (qb))) := hd 9 (by kernel_rfl)
   generalize vals 4 = u4 at d4 hK ⊢
   generalize vals 9 = u9 at d9 hK ⊢
   obtain ⟨e1, C1, i1, j1, C2, i2, j2, rfl, -⟩ := Nq.form d4
   obtain ⟨e2, C3, i3, j3, C4, i4, j4, rfl, -⟩ := Nq.form d9
   go_simp
   exact hK.out (.agg #[.bool e1, .slice C1 i1 j1, .slice C2 i2 j2, .bool e2, .slice C3 i3 j3, .slice C4 i4 j4]) _ _ (by kernel_rfl) ⟨_, _, _, _, _, _, _, _, _, _, _, _, _, _, rfl, d4, d9⟩ (Q.refl _)
  refine Ja.Steps.cons (JC.alloc (n := 3) (cells := #[.bool false, .slice none 0 0, .slice none 0 0, .bool false, .slice none 0 0, .slice none 0 0]) (t := 70) hctx (by kernel_rfl) (by rfl) (by kernel_rfl) (by rfl) (by rfl) (by kernel_rfl) (by rfl) (fun W => NbV.ofS (Sp.new W _ _ _ _ _ _)) ?_) ?_
  ·intro vals W K hK
   go_simp
   exact hK.out _ (by kernel_rfl)
  refine Ja.Steps.cons (JC.store (n := 3) hctx (by kernel_rfl) (by rfl) (by kernel_rfl) (by rfl) (by rfl) (by kernel_rfl) (by rfl) ?_) ?_
  ·intro L vals W g old hJ hp ho hs K hK
   have hs9 : Ns W (vals 10) (rmax (rmin (p) (q)) (rmin (pb) (qb))) (rmin (rmax (p) (q)) (rmax (pb) (qb))) := hs
   have hp9 : vals 11 = .pointer (some ⟨g, 0, none⟩) := hp
   dsimp only at hK
   generalize vals 11 = ua at hp9 hK ⊢
   subst hp9
   generalize vals 10 = uj at hs9 hK ⊢
   obtain ⟨e1, C1, i1, j1, C2, i2, j2, e2, C3, i3, j3, C4, i4, j4, rfl, -, -⟩ := hs9
   obtain ⟨f1, D1, x1, y1, D2, x2, y2, f2, D3, x3, y3, D4, x4, y4, ho1, hb⟩ := ho
   have fz := hb.frozen
   obtain ⟨r0, r1, r2, r3, r4, r5⟩ := hb.cells
   clear hb ho1
   go_simp
   exact hK.out undef _ _ (by kernel_rfl) PutV.ofS
  exact Ja.Steps.nil
 intro L vals w2 hall hJ
 clear hAt1
 have hG2 := hJ.q
 have hA2 : Sp w2 (w.heap.size) (sA1) (.slice AA1 kA1 cA1) (.slice AA2 kA2 cA2) (sA2) (.slice AA3 kA3 cA3) (.slice AA4 kA4 cA4) := NbV.outS (hJ.still 0 rfl rfl (Nat.le_of_ble_eq_true (by kernel_rfl)))
 have nA2 : Ns w2 (.agg #[.bool sA1, .slice AA1 kA1 cA1, .slice AA2 kA2 cA2, .bool sA2, .slice AA3 kA3 cA3, .slice AA4 kA4 cA4]) (rmin (p) (q)) (rmax (p) (q)) := hJ.kept 0 rfl
 have hB2 : Sp w2 (w.heap.size + 1) (sB1) (.slice AB1 kB1 cB1) (.slice AB2 kB2 cB2) (sB2) (.slice AB3 kB3 cB3) (.slice AB4 kB4 cB4) := NbV.outS (hJ.still 1 rfl rfl (Nat.le_of_ble_eq_true (by kernel_rfl)))
 have nB2 : Ns w2 (.agg #[.bool sB1, .slice AB1 kB1 cB1, .slice AB2 kB2 cB2, .bool sB2, .slice AB3 kB3 cB3, .slice AB4 kB4 cB4]) (rmin (pb) (qb)) (rmax (pb) (qb)) := hJ.kept 1 rfl
 have hT2 : Sp w2 (w.heap.size + 1 + 1) (false) (.slice none 0 0) (.slice none 0 0) (false) (.slice none 0 0) (.slice none 0 0) := NbV.outS (hJ.still 2 rfl rfl (Nat.le_of_ble_eq_true (by kernel_rfl)))
 obtain ⟨gD, eD, geD, qD⟩ := hJ.fresh 3 rfl rfl (hall 11 (by decide)) (hall 12 (by decide))
 have nD2 : Ns w2 (vals 10) (rmax (rmin (p) (q)) (rmin (pb) (qb))) (rmin (rmax (p) (q)) (rmax (pb) (qb))) := hJ.s 10 (hall 10 (by decide))
 obtain ⟨sD1, AD1, kD1, cD1, AD2, kD2, cD2, sD2, AD3, kD3, cD3, AD4, kD4, cD4, yD, hD2⟩ := qD
 change Sp w2 (gD) (sD1) (.slice AD1 kD1 cD1) (.slice AD2 kD2 cD2) (sD2) (.slice AD3 kD3 cD3) (.slice AD4 kD4 cD4) at hD2
 try dsimp only at yD
 rw [yD] at nD2
 clear yD
 have neDA : gD ≠ w.heap.size := hJ.ne 3 0 (by decide) rfl rfl (hall 11 (by decide)) rfl eD rfl
 have neDB : gD ≠ w.heap.size + 1 := hJ.ne 3 1 (by decide) rfl rfl (hall 11 (by decide)) rfl eD rfl
 have neDT : gD ≠ w.heap.size + 1 + 1 := hJ.ne 3 2 (by decide) rfl rfl (hall 11 (by decide)) rfl eD rfl
 rw [eD]
 clear eD
 clear hall hJ
 go_upto_region 3 with fail
 by_cases hm : rmax (rmin (p) (q)) (rmin (pb) (qb)) ≤ rmin (rmax (p) (q)) (rmax (pb) (qb))
 ·have HM := Lib.hid hm; clear hm
  have HR : Hid (meetR (rmin (p) (q)) (rmax (p) (q)) (rmin (pb) (qb)) (rmax (pb) (qb)) = (true, rmax (rmin (p) (q)) (rmin (pb) (qb)), rmin (rmax (p) (q)) (rmax (pb) (qb)))) := Lib.hid (if_pos HM.out)
  have B15 : Hid (64 * (sz (rmax (rmin (p) (q)) (rmin (pb) (qb))) + sz (rmin (rmax (p) (q)) (rmax (pb) (qb)))) + 400 ≤ LIM) := Lib.hid (by have h0 := Z11.out; have h1 := Z13.out; rw [LIM_eq]; omega)
  refine text_each (F := ?F5) ([.eq (.pointer (some ⟨gD, 0, none⟩)), .num (rmax (rmin (p) (q)) (rmin (pb) (qb))), .eq (.pointer (some ⟨gD, 3, none⟩)), .num (rmin (rmax (p) (q)) (rmax (pb) (qb))), .eq (.int .i64 (rc (rmax (rmin (p) (q)) (rmin (pb) (qb))) (rmin (rmax (p) (q)) (rmax (pb) (qb))))), .eq (.bool false)] : List Vs) (by kernel_rfl) ?hF5 ?st5 ?en5
  case hF5 =>
   intro vals
   simp only [Ja.fillL, Act.put, List.setIfInBounds_toArray, List.set_cons_zero, List.set_cons_succ, Nat.reduceAdd]
   exact rfl
  case st5 =>
   intro hctx
   refine Each.y hctx ?_ ?_
   ·intro vals W hM hd K hK
    go_simp
    exact hK.out (.pointer (some ⟨gD, 0, none⟩)) _ _ (by kernel_rfl) rfl (Q.refl _)
   refine Each.y hctx ?_ ?_
   ·intro vals W hM hd K hK
    have hN : Q w2 W := hM
    have d0 : vals 0 = .pointer (some ⟨gD, 0, none⟩) := hd 0 (by kernel_rfl)
    generalize vals 0 = u0 at d0 hK ⊢
    subst d0
    obtain ⟨z0, z1, z2, z3, z4, z5⟩ := (hD2.q hN).cells
    go_simp
    exact hK.out (.agg #[.bool sD1, .slice AD1 kD1 cD1, .slice AD2 kD2 cD2]) _ _ (by kernel_rfl) (NsLo (nD2.q hN)) (Q.refl _)
   refine Each.y hctx ?_ ?_
   ·intro vals W hM hd K hK
    go_simp
    exact hK.out (.pointer (some ⟨gD, 3, none⟩)) _ _ (by kernel_rfl) rfl (Q.refl _)
   refine Each.y hctx ?_ ?_
   ·intro vals W hM hd K hK
    have hN : Q w2 W := hM
    have d2 : vals 2 = .pointer (some ⟨gD, 3, none⟩) := hd 2 (by kernel_rfl)
    generalize vals 2 = u2 at d2 hK ⊢
    subst d2
    obtain ⟨z0, z1, z2, z3, z4, z5⟩ := (hD2.q hN).cells
    go_simp
    exact hK.out (.agg #[.bool sD2, .slice AD3 kD3 cD3, .slice AD4 kD4 cD4]) _ _ (by kernel_rfl) (NsHi (nD2.q hN)) (Q.refl _)
   refine Each.y hctx ?_ ?_
   ·intro vals W hM hd K hK
    have d1 : Nq W (vals 1) (rmax (rmin (p) (q)) (rmin (pb) (qb))) := hd 1 (by kernel_rfl)
    have d3 : Nq W (vals 3) (rmin (rmax (p) (q)) (rmax (pb) (qb))) := hd 3 (by kernel_rfl)
    go_simp
    (with_reducible refine (q_Cmp _ _ (rmax (rmin (p) (q)) (rmin (pb) (qb))) (rmin (rmax (p) (q)) (rmax (pb) (qb))) W d1 d3 B15.out).mono ?_)
    rintro e W9 ⟨rfl, hq9⟩
    exact hK.out (.int .i64 (rc (rmax (rmin (p) (q)) (rmin (pb) (qb))) (rmin (rmax (p) (q)) (rmax (pb) (qb))))) W9 _ (by kernel_rfl) rfl hq9
   refine Each.y hctx ?_ ?_
   ·intro vals W hM hd K hK
    have d4 : vals 4 = .int .i64 (rc (rmax (rmin (p) (q)) (rmin (pb) (qb))) (rmin (rmax (p) (q)) (rmax (pb) (qb)))) := hd 4 (by kernel_rfl)
    generalize vals 4 = u4 at d4 hK ⊢
    subst d4
    go_simp
    rw [decide_eq_false (show ¬ ((rc (rmax (rmin (p) (q)) (rmin (pb) (qb))) (rmin (rmax (p) (q)) (rmax (pb) (qb))) : Int) > 0) from by have := (rc_le _ _).2 HM.out; omega)]
    exact hK.out (.bool false) _ _ (by kernel_rfl) rfl (Q.refl _)
   exact Ja.Steps.nil
  intro vals w3 hq3 hall
  have hG3 := hG2.trans hq3
  have hA3 := hA2.q hq3
  have nA3 := nA2.q hq3
  have hB3 := hB2.q hq3
  have nB3 := nB2.q hq3
  have hT3 := hT2.q hq3
  have hD3 := hD2.q hq3
  have nD3 := nD2.q hq3
  have f27 : vals 5 = .bool false := hall 5 (by decide)
  rw [f27]
  clear hall hq3 hG2 hA2 hB2 hT2 hD2 nA2 nB2 nD2
  go_upto_region 5 with fail
  have B16 : Hid (sz (rmax (rmin (p) (q)) (rmin (pb) (qb))) + sz (rmin (rmax (p) (q)) (rmax (pb) (qb))) ≤ LIM) := Lib.hid (by have h0 := Z11.out; have h1 := Z13.out; rw [LIM_eq]; omega)
  have hAt3 : At0 w [{ al := none, g := w.heap.size, big := true, row := .agg #[.bool sA1, .slice AA1 kA1 cA1, .slice AA2 kA2 cA2, .bool sA2, .slice AA3 kA3 cA3, .slice AA4 kA4 cA4], st := 1000, src := 0 }, { al := none, g := w.heap.size + 1, big := true, row := .agg #[.bool sB1, .slice AB1 kB1 cB1, .slice AB2 kB2 cB2, .bool sB2, .slice AB3 kB3 cB3, .slice AB4 kB4 cB4], st := 1000, src := 0 }, { al := none, g := w.heap.size + 1 + 1, big := true, row := .agg #[.bool false, .slice none 0 0, .slice none 0 0, .bool false, .slice none 0 0, .slice none 0 0], st := 2, src := 1 }, { al := none, g := gD, big := true, row := .agg #[.bool sD1, .slice AD1 kD1 cD1, .slice AD2 kD2 cD2, .bool sD2, .slice AD3 kD3 cD3, .slice AD4 kD4 cD4], st := 1000, src := 0 }] [(.agg #[.bool sA1, .slice AA1 kA1 cA1, .slice AA2 kA2 cA2, .bool sA2, .slice AA3 kA3 cA3, .slice AA4 kA4 cA4], .span (rmin (p) (q)) (rmax (p) (q))), (.agg #[.bool sB1, .slice AB1 kB1 cB1, .slice AB2 kB2 cB2, .bool sB2, .slice AB3 kB3 cB3, .slice AB4 kB4 cB4], .span (rmin (pb) (qb)) (rmax (pb) (qb))), (.agg #[.bool sD1, .slice AD1 kD1 cD1, .slice AD2 kD2 cD2, .bool sD2, .slice AD3 kD3 cD3, .slice AD4 kD4 cD4], .span (rmax (rmin (p) (q)) (rmin (pb) (qb))) (rmin (rmax (p) (q)) (rmax (pb) (qb))))] w3 := At0.of hG3 ⟨fun _ => ⟨by dsimp only; omega, NbV.ofS hA3⟩, fun _ => ⟨by dsimp only; omega, NbV.ofS hB3⟩, fun _ => ⟨by dsimp only; omega, NbV.ofS hT3⟩, fun _ => ⟨by dsimp only; omega, NbV.ofS hD3⟩, trivial⟩ (by (simp [Apart0] <;> omega)) ⟨nA3, nB3, nD3, trivial⟩
  clear hG3 hA3 hB3 hT3 hD3 nA3 nB3 nD3
  refine text_cells (F := ?F6) w ([.span (rmax (rmin (p) (q)) (rmin (pb) (qb))) (rmin (rmax (p) (q)) (rmax (pb) (qb))), .span (rmax (rmin (p) (q)) (rmin (pb) (qb))) (rmin (rmax (p) (q)) (rmax (pb) (qb))), .any, .eq (.bool true)] : List Vs) _ _ (by kernel_rfl) hAt3 ?hF6 ?st6 ?en6
  case hF6 =>
   intro vals
   simp only [Ja.fillL, Act.put, List.setIfInBounds_toArray, List.set_cons_zero, List.set_cons_succ, Nat.reduceAdd]
   exact rfl
  case st6 =>
   clear hAt3
   intro hctx
   refine JC.o hctx ?_ ?_
   ·intro L vals W hL hJ hd K hK
    obtain ⟨z0, z1, z2, z3, z4, z5⟩ := (NbV.outS (hJ.still 3 rfl rfl (Nat.le_of_ble_eq_true (by kernel_rfl)))).cells
    go_simp
    exact hK.out (.agg #[.bool sD1, .slice AD1 kD1 cD1, .slice AD2 kD2 cD2, .bool sD2, .slice AD3 kD3 cD3, .slice AD4 kD4 cD4]) _ _ (by kernel_rfl) (hJ.kept 2 rfl) (Q.refl _)
   refine JC.o hctx ?_ ?_
   ·intro L vals W hL hJ hd K hK
    have d0 : Ns W (vals 0) (rmax (rmin (p) (q)) (rmin (pb) (qb))) (rmin (rmax (p) (q)) (rmax (pb) (qb))) := hd 0 (by kernel_rfl)
    go_simp
    (with_reducible refine (q_Scopied _ (rmax (rmin (p) (q)) (rmin (pb) (qb))) (rmin (rmax (p) (q)) (rmax (pb) (qb))) W d0 B16.out).mono ?_)
    rintro e W9 ⟨r, rfl, hr, hq9⟩
    exact hK.out r W9 _ (by kernel_rfl) hr hq9
   refine Ja.Steps.cons (JC.store (n := 2) hctx (by kernel_rfl) (by rfl) (by kernel_rfl) (by rfl) (by rfl) (by kernel_rfl) (by rfl) ?_) ?_
   ·intro L vals W g old hJ hp ho hs K hK
    have hs9 : Ns W (vals 1) (rmax (rmin (p) (q)) (rmin (pb) (qb))) (rmin (rmax (p) (q)) (rmax (pb) (qb))) := hs
    dsimp only at hK
    obtain rfl : w.heap.size + 1 + 1 = g := by injection hp with hp; injection hp with hp; injection hp with hp
    generalize vals 1 = uj at hs9 hK ⊢
    obtain ⟨e1, C1, i1, j1, C2, i2, j2, e2, C3, i3, j3, C4, i4, j4, rfl, -, -⟩ := hs9
    obtain ⟨f1, D1, x1, y1, D2, x2, y2, f2, D3, x3, y3, D4, x4, y4, ho1, hb⟩ := ho
    have fz := hb.frozen
    obtain ⟨r0, r1, r2, r3, r4, r5⟩ := hb.cells
    clear hb ho1 hp
    go_simp
    exact hK.out undef _ _ (by kernel_rfl) PutV.ofS
   refine JC.o hctx ?_ ?_
   ·intro L vals W hL hJ hd K hK
    go_simp
    exact hK.out (.bool true) _ _ (by kernel_rfl) rfl (Q.refl _)
   exact Ja.Steps.nil
  intro L vals w4 hall hJ
  clear hAt3
  have hG4 := hJ.q
  have hA4 : Sp w4 (w.heap.size) (sA1) (.slice AA1 kA1 cA1) (.slice AA2 kA2 cA2) (sA2) (.slice AA3 kA3 cA3) (.slice AA4 kA4 cA4) := NbV.outS (hJ.still 0 rfl rfl (Nat.le_of_ble_eq_true (by kernel_rfl)))
  have nA4 : Ns w4 (.agg #[.bool sA1, .slice AA1 kA1 cA1, .slice AA2 kA2 cA2, .bool sA2, .slice AA3 kA3 cA3, .slice AA4 kA4 cA4]) (rmin (p) (q)) (rmax (p) (q)) := hJ.kept 0 rfl
  have hB4 : Sp w4 (w.heap.size + 1) (sB1) (.slice AB1 kB1 cB1) (.slice AB2 kB2 cB2) (sB2) (.slice AB3 kB3 cB3) (.slice AB4 kB4 cB4) := NbV.outS (hJ.still 1 rfl rfl (Nat.le_of_ble_eq_true (by kernel_rfl)))
  have nB4 : Ns w4 (.agg #[.bool sB1, .slice AB1 kB1 cB1, .slice AB2 kB2 cB2, .bool sB2, .slice AB3 kB3 cB3, .slice AB4 kB4 cB4]) (rmin (pb) (qb)) (rmax (pb) (qb)) := hJ.kept 1 rfl
  have qT : NbV w4 (w.heap.size + 1 + 1) true (vals 1) := hJ.stored 2 rfl rfl (hall 2 (by decide))
  have nT4 : Ns w4 (vals 1) (rmax (rmin (p) (q)) (rmin (pb) (qb))) (rmin (rmax (p) (q)) (rmax (pb) (qb))) := hJ.s 1 (hall 1 (by decide))
  obtain ⟨sT1, AT1, kT1, cT1, AT2, kT2, cT2, sT2, AT3, kT3, cT3, AT4, kT4, cT4, yT, hT4⟩ := qT
  change Sp w4 (w.heap.size + 1 + 1) (sT1) (.slice AT1 kT1 cT1) (.slice AT2 kT2 cT2) (sT2) (.slice AT3 kT3 cT3) (.slice AT4 kT4 cT4) at hT4
  try dsimp only at yT
  rw [yT] at nT4
  clear yT
  have hD4 : Sp w4 (gD) (sD1) (.slice AD1 kD1 cD1) (.slice AD2 kD2 cD2) (sD2) (.slice AD3 kD3 cD3) (.slice AD4 kD4 cD4) := NbV.outS (hJ.still 3 rfl rfl (Nat.le_of_ble_eq_true (by kernel_rfl)))
  have nD4 : Ns w4 (.agg #[.bool sD1, .slice AD1 kD1 cD1, .slice AD2 kD2 cD2, .bool sD2, .slice AD3 kD3 cD3, .slice AD4 kD4 cD4]) (rmax (rmin (p) (q)) (rmin (pb) (qb))) (rmin (rmax (p) (q)) (rmax (pb) (qb))) := hJ.kept 2 rfl
  have f5 : vals 3 = .bool true := hJ.s 3 (hall 3 (by decide))
  rw [f5]
  clear hall hJ
  go_wp2_with fail
  obtain ⟨z0, z1, z2, z3, z4, z5⟩ := hT4.cells
  refine bodyPost_ret (v := .tuple #[.agg #[.bool sT1, .slice AT1 kT1 cT1, .slice AT2 kT2 cT2, .bool sT2, .slice AT3 kT3 cT3, .slice AT4 kT4 cT4], .bool true]) (by simp [results, Tryz.results69, go_sem, z0, z1, z2, z3, z4, z5]) rfl ?_
  exact ⟨_, by rw [HR.out], by rw [HR.out]; exact nT4, hG4⟩
 ·have HM := Lib.hid hm; clear hm
  have HR : Hid (meetR (rmin (p) (q)) (rmax (p) (q)) (rmin (pb) (qb)) (rmax (pb) (qb)) = (false, 0, 0)) := Lib.hid (if_neg HM.out)
  have B15 : Hid (64 * (sz (rmax (rmin (p) (q)) (rmin (pb) (qb))) + sz (rmin (rmax (p) (q)) (rmax (pb) (qb)))) + 400 ≤ LIM) := Lib.hid (by have h0 := Z11.out; have h1 := Z13.out; rw [LIM_eq]; omega)
  refine text_each (F := ?F7) ([.eq (.pointer (some ⟨gD, 0, none⟩)), .num (rmax (rmin (p) (q)) (rmin (pb) (qb))), .eq (.pointer (some ⟨gD, 3, none⟩)), .num (rmin (rmax (p) (q)) (rmax (pb) (qb))), .eq (.int .i64 (rc (rmax (rmin (p) (q)) (rmin (pb) (qb))) (rmin (rmax (p) (q)) (rmax (pb) (qb))))), .eq (.bool true)] : List Vs) (by kernel_rfl) ?hF7 ?st7 ?en7
  case hF7 =>
   intro vals
   simp only [Ja.fillL, Act.put, List.setIfInBounds_toArray, List.set_cons_zero, List.set_cons_succ, Nat.reduceAdd]
   exact rfl
  case st7 =>
   intro hctx
   refine Each.y hctx ?_ ?_
   ·intro vals W hM hd K hK
    go_simp
    exact hK.out (.pointer (some ⟨gD, 0, none⟩)) _ _ (by kernel_rfl) rfl (Q.refl _)
   refine Each.y hctx ?_ ?_
   ·intro vals W hM hd K hK
    have hN : Q w2 W := hM
    have d0 : vals 0 = .pointer (some ⟨gD, 0, none⟩) := hd 0 (by kernel_rfl)
    generalize vals 0 = u0 at d0 hK ⊢
    subst d0
    obtain ⟨z0, z1, z2, z3, z4, z5⟩ := (hD2.q hN).cells
    go_simp
    exact hK.out (.agg #[.bool sD1, .slice AD1 kD1 cD1, .slice AD2 kD2 cD2]) _ _ (by kernel_rfl) (NsLo (nD2.q hN)) (Q.refl _)
   refine Each.y hctx ?_ ?_
   ·intro vals W hM hd K hK
    go_simp
    exact hK.out (.pointer (some ⟨gD, 3, none⟩)) _ _ (by kernel_rfl) rfl (Q.refl _)
   refine Each.y hctx ?_ ?_
   ·intro vals W hM hd K hK
    have hN : Q w2 W := hM
    have d2 : vals 2 = .pointer (some ⟨gD, 3, none⟩) := hd 2 (by kernel_rfl)
    generalize vals 2 = u2 at d2 hK ⊢
    subst d2
    obtain ⟨z0, z1, z2, z3, z4, z5⟩ := (hD2.q hN).cells
    go_simp
    exact hK.out (.agg #[.bool sD2, .slice AD3 kD3 cD3, .slice AD4 kD4 cD4]) _ _ (by kernel_rfl) (NsHi (nD2.q hN)) (Q.refl _)
   refine Each.y hctx ?_ ?_
   ·intro vals W hM hd K hK
    have d1 : Nq W (vals 1) (rmax (rmin (p) (q)) (rmin (pb) (qb))) := hd 1 (by kernel_rfl)
    have d3 : Nq W (vals 3) (rmin (rmax (p) (q)) (rmax (pb) (qb))) := hd 3 (by kernel_rfl)
    go_simp
    (with_reducible refine (q_Cmp _ _ (rmax (rmin (p) (q)) (rmin (pb) (qb))) (rmin (rmax (p) (q)) (rmax (pb) (qb))) W d1 d3 B15.out).mono ?_)
    rintro e W9 ⟨rfl, hq9⟩
    exact hK.out (.int .i64 (rc (rmax (rmin (p) (q)) (rmin (pb) (qb))) (rmin (rmax (p) (q)) (rmax (pb) (qb))))) W9 _ (by kernel_rfl) rfl hq9
   refine Each.y hctx ?_ ?_
   ·intro vals W hM hd K hK
    have d4 : vals 4 = .int .i64 (rc (rmax (rmin (p) (q)) (rmin (pb) (qb))) (rmin (rmax (p) (q)) (rmax (pb) (qb)))) := hd 4 (by kernel_rfl)
    generalize vals 4 = u4 at d4 hK ⊢
    subst d4
    go_simp
    rw [decide_eq_true (show ((rc (rmax (rmin (p) (q)) (rmin (pb) (qb))) (rmin (rmax (p) (q)) (rmax (pb) (qb))) : Int) > 0) from by have h9 := HM.out; have := mt (rc_le _ _).1 h9; omega)]
    exact hK.out (.bool true) _ _ (by kernel_rfl) rfl (Q.refl _)
   exact Ja.Steps.nil
  intro vals w3 hq3 hall
  have hG3 := hG2.trans hq3
  have hA3 := hA2.q hq3
  have nA3 := nA2.q hq3
  have hB3 := hB2.q hq3
  have nB3 := nB2.q hq3
  have hT3 := hT2.q hq3
  have hD3 := hD2.q hq3
  have nD3 := nD2.q hq3
  have f27 : vals 5 = .bool true := hall 5 (by decide)
  rw [f27]
  clear hall hq3 hG2 hA2 hB2 hT2 hD2 nA2 nB2 nD2
  go_upto_region 4 with fail
  have hAt3 : At0 w [{ al := none, g := w.heap.size, big := true, row := .agg #[.bool sA1, .slice AA1 kA1 cA1, .slice AA2 kA2 cA2, .bool sA2, .slice AA3 kA3 cA3, .slice AA4 kA4 cA4], st := 1000, src := 0 }, { al := none, g := w.heap.size + 1, big := true, row := .agg #[.bool sB1, .slice AB1 kB1 cB1, .slice AB2 kB2 cB2, .bool sB2, .slice AB3 kB3 cB3, .slice AB4 kB4 cB4], st := 1000, src := 0 }, { al := none, g := w.heap.size + 1 + 1, big := true, row := .agg #[.bool false, .slice none 0 0, .slice none 0 0, .bool false, .slice none 0 0, .slice none 0 0], st := 1, src := 0 }, { al := none, g := gD, big := true, row := .agg #[.bool sD1, .slice AD1 kD1 cD1, .slice AD2 kD2 cD2, .bool sD2, .slice AD3 kD3 cD3, .slice AD4 kD4 cD4], st := 1000, src := 0 }] [(.agg #[.bool sA1, .slice AA1 kA1 cA1, .slice AA2 kA2 cA2, .bool sA2, .slice AA3 kA3 cA3, .slice AA4 kA4 cA4], .span (rmin (p) (q)) (rmax (p) (q))), (.agg #[.bool sB1, .slice AB1 kB1 cB1, .slice AB2 kB2 cB2, .bool sB2, .slice AB3 kB3 cB3, .slice AB4 kB4 cB4], .span (rmin (pb) (qb)) (rmax (pb) (qb))), (.agg #[.bool sD1, .slice AD1 kD1 cD1, .slice AD2 kD2 cD2, .bool sD2, .slice AD3 kD3 cD3, .slice AD4 kD4 cD4], .span (rmax (rmin (p) (q)) (rmin (pb) (qb))) (rmin (rmax (p) (q)) (rmax (pb) (qb))))] w3 := At0.of hG3 ⟨fun _ => ⟨by dsimp only; omega, NbV.ofS hA3⟩, fun _ => ⟨by dsimp only; omega, NbV.ofS hB3⟩, fun _ => ⟨by dsimp only; omega, NbV.ofS hT3⟩, fun _ => ⟨by dsimp only; omega, NbV.ofS hD3⟩, trivial⟩ (by (simp [Apart0] <;> omega)) ⟨nA3, nB3, nD3, trivial⟩
  clear hG3 hA3 hB3 hT3 hD3 nA3 nB3 nD3
  refine text_cells (F := ?F8) w ([.span (0) (0), .any, .eq (.bool false)] : List Vs) _ _ (by kernel_rfl) hAt3 ?hF8 ?st8 ?en8
  case hF8 =>
   intro vals
   simp only [Ja.fillL, Act.put, List.setIfInBounds_toArray, List.set_cons_zero, List.set_cons_succ, Nat.reduceAdd]
   exact rfl
  case st8 =>
   clear hAt3
   intro hctx
   refine JC.o hctx ?_ ?_
   ·intro L vals W hL hJ hd K hK
    go_simp
    exact hK.out (.agg #[.bool false, .slice none 0 0, .slice none 0 0, .bool false, .slice none 0 0, .slice none 0 0]) _ _ (by kernel_rfl) ⟨_, _, _, _, _, _, _, _, _, _, _, _, _, _, rfl, nqNone W, nqNone W⟩ (Q.refl _)
   refine Ja.Steps.cons (JC.store (n := 2) hctx (by kernel_rfl) (by rfl) (by kernel_rfl) (by rfl) (by rfl) (by kernel_rfl) (by rfl) ?_) ?_
   ·intro L vals W g old hJ hp ho hs K hK
    have hs9 : Ns W (vals 0) (0) (0) := hs
    dsimp only at hK
    obtain rfl : w.heap.size + 1 + 1 = g := by injection hp with hp; injection hp with hp; injection hp with hp
    generalize vals 0 = uj at hs9 hK ⊢
    obtain ⟨e1, C1, i1, j1, C2, i2, j2, e2, C3, i3, j3, C4, i4, j4, rfl, -, -⟩ := hs9
    obtain ⟨f1, D1, x1, y1, D2, x2, y2, f2, D3, x3, y3, D4, x4, y4, ho1, hb⟩ := ho
    have fz := hb.frozen
    obtain ⟨r0, r1, r2, r3, r4, r5⟩ := hb.cells
    clear hb ho1 hp
    go_simp
    exact hK.out undef _ _ (by kernel_rfl) PutV.ofS
   refine JC.o hctx ?_ ?_
   ·intro L vals W hL hJ hd K hK
    go_simp
    exact hK.out (.bool false) _ _ (by kernel_rfl) rfl (Q.refl _)
   exact Ja.Steps.nil
  intro L vals w4 hall hJ
  clear hAt3
  have hG4 := hJ.q
  have hA4 : Sp w4 (w.heap.size) (sA1) (.slice AA1 kA1 cA1) (.slice AA2 kA2 cA2) (sA2) (.slice AA3 kA3 cA3) (.slice AA4 kA4 cA4) := NbV.outS (hJ.still 0 rfl rfl (Nat.le_of_ble_eq_true (by kernel_rfl)))
  have nA4 : Ns w4 (.agg #[.bool sA1, .slice AA1 kA1 cA1, .slice AA2 kA2 cA2, .bool sA2, .slice AA3 kA3 cA3, .slice AA4 kA4 cA4]) (rmin (p) (q)) (rmax (p) (q)) := hJ.kept 0 rfl
  have hB4 : Sp w4 (w.heap.size + 1) (sB1) (.slice AB1 kB1 cB1) (.slice AB2 kB2 cB2) (sB2) (.slice AB3 kB3 cB3) (.slice AB4 kB4 cB4) := NbV.outS (hJ.still 1 rfl rfl (Nat.le_of_ble_eq_true (by kernel_rfl)))
  have nB4 : Ns w4 (.agg #[.bool sB1, .slice AB1 kB1 cB1, .slice AB2 kB2 cB2, .bool sB2, .slice AB3 kB3 cB3, .slice AB4 kB4 cB4]) (rmin (pb) (qb)) (rmax (pb) (qb)) := hJ.kept 1 rfl
  have qT : NbV w4 (w.heap.size + 1 + 1) true (vals 0) := hJ.stored 2 rfl rfl (hall 1 (by decide))
  have nT4 : Ns w4 (vals 0) (0) (0) := hJ.s 0 (hall 0 (by decide))
  obtain ⟨sT1, AT1, kT1, cT1, AT2, kT2, cT2, sT2, AT3, kT3, cT3, AT4, kT4, cT4, yT, hT4⟩ := qT
  change Sp w4 (w.heap.size + 1 + 1) (sT1) (.slice AT1 kT1 cT1) (.slice AT2 kT2 cT2) (sT2) (.slice AT3 kT3 cT3) (.slice AT4 kT4 cT4) at hT4
  try dsimp only at yT
  rw [yT] at nT4
  clear yT
  have hD4 : Sp w4 (gD) (sD1) (.slice AD1 kD1 cD1) (.slice AD2 kD2 cD2) (sD2) (.slice AD3 kD3 cD3) (.slice AD4 kD4 cD4) := NbV.outS (hJ.still 3 rfl rfl (Nat.le_of_ble_eq_true (by kernel_rfl)))
  have nD4 : Ns w4 (.agg #[.bool sD1, .slice AD1 kD1 cD1, .slice AD2 kD2 cD2, .bool sD2, .slice AD3 kD3 cD3, .slice AD4 kD4 cD4]) (rmax (rmin (p) (q)) (rmin (pb) (qb))) (rmin (rmax (p) (q)) (rmax (pb) (qb))) := hJ.kept 2 rfl
  have f5 : vals 2 = .bool false := hJ.s 2 (hall 2 (by decide))
  rw [f5]
  clear hall hJ
  go_wp2_with fail
  obtain ⟨z0, z1, z2, z3, z4, z5⟩ := hT4.cells
  refine bodyPost_ret (v := .tuple #[.agg #[.bool sT1, .slice AT1 kT1 cT1, .slice AT2 kT2 cT2, .bool sT2, .slice AT3 kT3 cT3, .slice AT4 kT4 cT4], .bool false]) (by simp [results, Tryz.results69, go_sem, z0, z1, z2, z3, z4, z5]) rfl ?_
  exact ⟨_, by rw [HR.out], by rw [HR.out]; exact nT4, hG4⟩
end Go.Proofs.YtgokbhikgdhmpaaGreatDoor
