/- ValueTexts (P1.9): the law holds. No condition.. Part of the proof: texts Jd2. -/
import Derived.Test.YtgokbhikgdhmpaaGreatDoorQt23
namespace Go.Proofs.YtgokbhikgdhmpaaGreatDoor
open Go.RowKit
open Ma Me
def powN (z : Int) : Nat := if z < 0 then 0 else if 64 < z then 64 else z.toNat
theorem powN_le (z : Int) : powN z ≤ 64 := by unfold powN; split <;> (try split) <;> omega
theorem pow_minmax (z : Int) : min (max z 0) 64 = (powN z : Int) := by unfold powN; split <;> (try split) <;> omega
theorem Nq.sign {w : World} {s : Bool} {t b : Value} {q : Rat} (h : Nq w (.agg #[.bool s, t, b]) q) : s = decide (q < 0) := by
 obtain ⟨t', b', e, -⟩ := h
 simp only [Value.agg.injEq, Array.mk.injEq, List.cons.injEq, Value.bool.injEq, and_true] at e
 rw [e.1]
 exact decide_eq_decide.2 (num_lt_iff q)
set_option maxRecDepth 100000 in
set_option maxHeartbeats 4000000 in
theorem q_SpanPow (a : Value) (p q : Rat) (z : Int) (w : World) (ha : Ns w a p q) (hB : sz p + sz q ≤ 10000000) : Calls Tryz.prog 79 #[a, .int .i64 z] w fun e w' => ∃ r, e = .returned r ∧ Ns w' r (qlo (powN z) (rmin p q) (rmax p q)) (qhi (powN z) (rmin p q) (rmax p q)) ∧ Q w w' := by
 have hay := ha
 obtain ⟨s11, A11, n11, c11, A12, n12, c12, s12, A13, n13, c13, A14, n14, c14, rfl, lo1, hi1⟩ := ha
 have haa : Ns w (.agg #[.bool s11, .slice A11 n11 c11, .slice A12 n12 c12, .bool s12, .slice A13 n13 c13, .slice A14 n14 c14]) p q := hay
 obtain ⟨w0, hW, hG0, hA0, hT0⟩ := boxS1r w s11 (.slice A11 n11 c11) (.slice A12 n12 c12) s12 (.slice A13 n13 c13) (.slice A14 n14 c14)
 have Z0 : Hid (sz p + sz q ≤ 10000000) := Lib.hid hB
 have Z1 : Hid (sz p ≤ 10000000) := Lib.hid (by have := Z0.out; omega)
 have Z2 : Hid (sz q ≤ 10000000) := Lib.hid (by have := Z0.out; omega)
 clear hB
 obtain ⟨n, hnn⟩ : ∃ n, powN z = n := ⟨_, rfl⟩
 have hn64 : n ≤ 64 := by rw [← hnn]; exact powN_le z
 have hmx := pow_minmax z
 rw [hnn] at hmx
 rw [hnn]
 clear hnn
 have nA0 := haa.q hG0
 clear hay haa lo1 hi1
 go_enter Tryz.func79, Tryz.ntmps79
 go_upto_region 1 with fail
 clear hW
 have Z3 : Hid (sz (rmin (p) (q)) ≤ 20000000) := Lib.hid (by have h9 := sz_rmin (p) (q); have h0 := Z1.out; have h1 := Z2.out; omega)
 have Z4 : Hid (sz (rmax (p) (q)) ≤ 20000000) := Lib.hid (by have h9 := sz_rmax (p) (q); have h0 := Z1.out; have h1 := Z2.out; omega)
 have B5 : Hid (64 * (sz (p) + sz (q)) + 400 ≤ LIM) := Lib.hid (by have h0 := Z1.out; have h1 := Z2.out; rw [LIM_eq]; omega)
 have hAt0 : At0 w [{ al := none, g := w.heap.size, big := true, row := .agg #[.bool s11, .slice A11 n11 c11, .slice A12 n12 c12, .bool s12, .slice A13 n13 c13, .slice A14 n14 c14], st := 2, src := 1 }, { al := none, g := w.heap.size + 1, big := true, row := .agg #[.bool false, .slice none 0 0, .slice none 0 0, .bool false, .slice none 0 0, .slice none 0 0], st := 1000, src := 0 }] [(.agg #[.bool s11, .slice A11 n11 c11, .slice A12 n12 c12, .bool s12, .slice A13 n13 c13, .slice A14 n14 c14], .span (p) (q))] w0 := At0.of hG0 ⟨fun _ => ⟨by dsimp only; omega, NbV.ofS hA0⟩, fun _ => ⟨by dsimp only; omega, NbV.ofS hT0⟩, trivial⟩ (by (simp [Apart0] <;> omega)) ⟨nA0, trivial⟩
 clear hG0 hA0 hT0 nA0
 refine text_cells (F := ?F2) w ([.span (p) (q), .span (rmin (p) (q)) (rmax (p) (q)), .any] : List Vs) _ _ (by kernel_rfl) hAt0 ?hF2 ?st2 ?en2
 case hF2 =>
  intro vals
  simp only [Ja.fillL, Act.put, List.setIfInBounds_toArray, List.set_cons_zero, List.set_cons_succ, Nat.reduceAdd]
  exact rfl
 case st2 =>
  clear hAt0
  intro hctx
  refine JC.o hctx ?_ ?_
  ·intro L vals W hL hJ hd K hK
   obtain ⟨z0, z1, z2, z3, z4, z5⟩ := (NbV.outS (hJ.before 0 0 rfl rfl hL (by kernel_rfl) (by kernel_rfl))).cells
   go_simp
   exact hK.out (.agg #[.bool s11, .slice A11 n11 c11, .slice A12 n12 c12, .bool s12, .slice A13 n13 c13, .slice A14 n14 c14]) _ _ (by kernel_rfl) (hJ.kept 0 rfl) (Q.refl _)
  refine JC.o hctx ?_ ?_
  ·intro L vals W hL hJ hd K hK
   have d0 : Ns W (vals 0) (p) (q) := hd 0 (by kernel_rfl)
   go_simp
   (with_reducible refine (q_ordered _ (p) (q) W d0 B5.out).mono ?_)
   rintro e W9 ⟨r, rfl, hr, hq9⟩
   exact hK.out r W9 _ (by kernel_rfl) hr hq9
  refine Ja.Steps.cons (JC.store (n := 0) hctx (by kernel_rfl) (by rfl) (by kernel_rfl) (by rfl) (by rfl) (by kernel_rfl) (by rfl) ?_) ?_
  ·intro L vals W g old hJ hp ho hs K hK
   have hs9 : Ns W (vals 1) (rmin (p) (q)) (rmax (p) (q)) := hs
   dsimp only at hK
   obtain rfl : w.heap.size = g := by injection hp with hp; injection hp with hp; injection hp with hp
   generalize vals 1 = uj at hs9 hK ⊢
   obtain ⟨e1, C1, i1, j1, C2, i2, j2, e2, C3, i3, j3, C4, i4, j4, rfl, -, -⟩ := hs9
   obtain ⟨f1, D1, x1, y1, D2, x2, y2, f2, D3, x3, y3, D4, x4, y4, ho1, hb⟩ := ho
   have fz := hb.frozen
   obtain ⟨r0, r1, r2, r3, r4, r5⟩ := hb.cells
   clear hb ho1 hp
   go_simp
   exact hK.out undef _ _ (by kernel_rfl) PutV.ofS
  exact Ja.Steps.nil
 intro L vals w1 hall hJ
 clear hAt0
 have hG1 := hJ.q
 have qA : NbV w1 (w.heap.size) true (vals 1) := hJ.stored 0 rfl rfl (hall 2 (by decide))
 have nA1 : Ns w1 (vals 1) (rmin (p) (q)) (rmax (p) (q)) := hJ.s 1 (hall 1 (by decide))
 obtain ⟨sA1, AA1, kA1, cA1, AA2, kA2, cA2, sA2, AA3, kA3, cA3, AA4, kA4, cA4, yA, hA1⟩ := qA
 change Sp w1 (w.heap.size) (sA1) (.slice AA1 kA1 cA1) (.slice AA2 kA2 cA2) (sA2) (.slice AA3 kA3 cA3) (.slice AA4 kA4 cA4) at hA1
 try dsimp only at yA
 rw [yA] at nA1
 clear yA
 have hT1 : Sp w1 (w.heap.size + 1) (false) (.slice none 0 0) (.slice none 0 0) (false) (.slice none 0 0) (.slice none 0 0) := NbV.outS (hJ.still 1 rfl rfl (Nat.le_of_ble_eq_true (by kernel_rfl)))
 clear hall hJ
 go_upto_region 3 with fail
 clear hmx
 have Z6 : Hid (sz ((rmin (p) (q)) ^ n) ≤ 1280000002) := Lib.hid (by have h9 := Nat.le_trans (sz_pow (rmin (p) (q)) n) (Nat.add_le_add_right (Nat.mul_le_mul_right _ hn64) 2); have h0 := Z3.out; omega)
 have B7 : Hid (64 * (sz (rmin (p) (q))) + 400 ≤ LIM) := Lib.hid (by have h0 := Z3.out; rw [LIM_eq]; omega)
 have Z8 : Hid (sz ((rmax (p) (q)) ^ n) ≤ 1280000002) := Lib.hid (by have h9 := Nat.le_trans (sz_pow (rmax (p) (q)) n) (Nat.add_le_add_right (Nat.mul_le_mul_right _ hn64) 2); have h0 := Z4.out; omega)
 have B9 : Hid (64 * (sz (rmax (p) (q))) + 400 ≤ LIM) := Lib.hid (by have h0 := Z4.out; rw [LIM_eq]; omega)
 have hAt1 : At0 w [{ al := none, g := w.heap.size, big := true, row := .agg #[.bool sA1, .slice AA1 kA1 cA1, .slice AA2 kA2 cA2, .bool sA2, .slice AA3 kA3 cA3, .slice AA4 kA4 cA4], st := 1000, src := 0 }, { al := none, g := w.heap.size + 1, big := true, row := .agg #[.bool false, .slice none 0 0, .slice none 0 0, .bool false, .slice none 0 0, .slice none 0 0], st := 1000, src := 0 }, { al := some 8, g := 0, big := false, row := .agg #[.bool false, .slice none 0 0, .slice none 0 0], st := 10, src := 3 }, { al := some 9, g := 0, big := false, row := .agg #[.bool false, .slice none 0 0, .slice none 0 0], st := 11, src := 7 }] [(.agg #[.bool sA1, .slice AA1 kA1 cA1, .slice AA2 kA2 cA2, .bool sA2, .slice AA3 kA3 cA3, .slice AA4 kA4 cA4], .span (rmin (p) (q)) (rmax (p) (q)))] w1 := At0.of hG1 ⟨fun _ => ⟨by dsimp only; omega, NbV.ofS hA1⟩, fun _ => ⟨by dsimp only; omega, NbV.ofS hT1⟩, fun h => (by cases h), fun h => (by cases h), trivial⟩ (by (simp [Apart0] <;> omega)) ⟨nA1, trivial⟩
 clear hG1 hA1 hT1 nA1
 refine region_cells (F := ?F3) w ([.eq (.pointer (some ⟨w.heap.size, 0, none⟩)), .num (rmin (p) (q)), .eq (.int .i64 ((n : Int))), .num ((rmin (p) (q)) ^ n), .eq (.pointer (some ⟨w.heap.size, 3, none⟩)), .num (rmax (p) (q)), .eq (.int .i64 ((n : Int))), .num ((rmax (p) (q)) ^ n), .any, .any, .any, .any] : List Vs) _ _ (by kernel_rfl) (by kernel_rfl) hAt1 ?hF3 ?st3 ?en3
 case hF3 =>
  intro vals
  simp only [Ja.fillL, Act.put, List.setIfInBounds_toArray, List.set_cons_zero, List.set_cons_succ, Nat.reduceAdd]
  exact rfl
 case st3 =>
  clear hAt1
  intro hctx
  refine JC.o hctx ?_ ?_
  ·intro L vals W hL hJ hd K hK
   go_simp
   exact hK.out (.pointer (some ⟨w.heap.size, 0, none⟩)) _ _ (by kernel_rfl) rfl (Q.refl _)
  refine JC.o hctx ?_ ?_
  ·intro L vals W hL hJ hd K hK
   have d0 : vals 0 = .pointer (some ⟨w.heap.size, 0, none⟩) := hd 0 (by kernel_rfl)
   generalize vals 0 = u0 at d0 hK ⊢
   subst d0
   obtain ⟨z0, z1, z2, z3, z4, z5⟩ := (NbV.outS (hJ.still 0 rfl rfl (Nat.le_of_ble_eq_true (by kernel_rfl)))).cells
   go_simp
   exact hK.out (.agg #[.bool sA1, .slice AA1 kA1 cA1, .slice AA2 kA2 cA2]) _ _ (by kernel_rfl) ((NsLo (hJ.kept 0 rfl))) (Q.refl _)
  refine JC.o hctx ?_ ?_
  ·intro L vals W hL hJ hd K hK
   go_simp
   exact hK.out (.int .i64 ((n : Int))) _ _ (by kernel_rfl) rfl (Q.refl _)
  refine JC.o hctx ?_ ?_
  ·intro L vals W hL hJ hd K hK
   have d1 : Nq W (vals 1) (rmin (p) (q)) := hd 1 (by kernel_rfl)
   have d2 : vals 2 = .int .i64 ((n : Int)) := hd 2 (by kernel_rfl)
   generalize vals 2 = u2 at d2 hK ⊢
   subst d2
   go_simp
   (with_reducible refine (q_power _ (rmin (p) (q)) _ n W d1 (Lib.hid rfl) hn64 B7.out).mono ?_)
   rintro e W9 ⟨r, rfl, hr, hq9⟩
   exact hK.out r W9 _ (by kernel_rfl) hr hq9
  refine JC.o hctx ?_ ?_
  ·intro L vals W hL hJ hd K hK
   go_simp
   exact hK.out (.pointer (some ⟨w.heap.size, 3, none⟩)) _ _ (by kernel_rfl) rfl (Q.refl _)
  refine JC.o hctx ?_ ?_
  ·intro L vals W hL hJ hd K hK
   have d4 : vals 4 = .pointer (some ⟨w.heap.size, 3, none⟩) := hd 4 (by kernel_rfl)
   generalize vals 4 = u4 at d4 hK ⊢
   subst d4
   obtain ⟨z0, z1, z2, z3, z4, z5⟩ := (NbV.outS (hJ.still 0 rfl rfl (Nat.le_of_ble_eq_true (by kernel_rfl)))).cells
   go_simp
   exact hK.out (.agg #[.bool sA2, .slice AA3 kA3 cA3, .slice AA4 kA4 cA4]) _ _ (by kernel_rfl) ((NsHi (hJ.kept 0 rfl))) (Q.refl _)
  refine JC.o hctx ?_ ?_
  ·intro L vals W hL hJ hd K hK
   go_simp
   exact hK.out (.int .i64 ((n : Int))) _ _ (by kernel_rfl) rfl (Q.refl _)
  refine JC.o hctx ?_ ?_
  ·intro L vals W hL hJ hd K hK
   have d5 : Nq W (vals 5) (rmax (p) (q)) := hd 5 (by kernel_rfl)
   have d6 : vals 6 = .int .i64 ((n : Int)) := hd 6 (by kernel_rfl)
   generalize vals 6 = u6 at d6 hK ⊢
   subst d6
   go_simp
   (with_reducible refine (q_power _ (rmax (p) (q)) _ n W d5 (Lib.hid rfl) hn64 B9.out).mono ?_)
   rintro e W9 ⟨r, rfl, hr, hq9⟩
   exact hK.out r W9 _ (by kernel_rfl) hr hq9
  refine Ja.Steps.cons (JC.alloc (n := 2) (cells := #[.bool false, .slice none 0 0, .slice none 0 0]) (t := 25) hctx (by kernel_rfl) (by rfl) (by kernel_rfl) (by rfl) (by rfl) (by kernel_rfl) (by rfl) (fun W => NbV.of (Nb.new W _ _ _)) ?_) ?_
  ·intro vals W K hK
   go_simp
   exact hK.out _ (by kernel_rfl)
  refine Ja.Steps.cons (JC.alloc (n := 3) (cells := #[.bool false, .slice none 0 0, .slice none 0 0]) (t := 25) hctx (by kernel_rfl) (by rfl) (by kernel_rfl) (by rfl) (by rfl) (by kernel_rfl) (by rfl) (fun W => NbV.of (Nb.new W _ _ _)) ?_) ?_
  ·intro vals W K hK
   go_simp
   exact hK.out _ (by kernel_rfl)
  refine Ja.Steps.cons (JC.store (n := 2) hctx (by kernel_rfl) (by rfl) (by kernel_rfl) (by rfl) (by rfl) (by kernel_rfl) (by rfl) ?_) ?_
  ·intro L vals W g old hJ hp ho hs K hK
   have hs9 : Nq W (vals 3) ((rmin (p) (q)) ^ n) := hs
   have hp9 : vals 8 = .pointer (some ⟨g, 0, none⟩) := hp
   dsimp only at hK
   generalize vals 8 = ua at hp9 hK ⊢
   subst hp9
   generalize vals 3 = uj at hs9 hK ⊢
   obtain ⟨e1, C1, i1, j1, C2, i2, j2, rfl, -⟩ := Nq.form hs9
   obtain ⟨f1, D1, x1, y1, D2, x2, y2, ho1, hb⟩ := ho
   have fz := hb.frozen
   obtain ⟨r0, r1, r2⟩ := hb.cells
   clear hb ho1
   go_simp
   exact hK.out undef _ _ (by kernel_rfl) PutV.of
  refine Ja.Steps.cons (JC.store (n := 3) hctx (by kernel_rfl) (by rfl) (by kernel_rfl) (by rfl) (by rfl) (by kernel_rfl) (by rfl) ?_) ?_
  ·intro L vals W g old hJ hp ho hs K hK
   have hs9 : Nq W (vals 7) ((rmax (p) (q)) ^ n) := hs
   have hp9 : vals 9 = .pointer (some ⟨g, 0, none⟩) := hp
   dsimp only at hK
   generalize vals 9 = ua at hp9 hK ⊢
   subst hp9
   generalize vals 7 = uj at hs9 hK ⊢
   obtain ⟨e1, C1, i1, j1, C2, i2, j2, rfl, -⟩ := Nq.form hs9
   obtain ⟨f1, D1, x1, y1, D2, x2, y2, ho1, hb⟩ := ho
   have fz := hb.frozen
   obtain ⟨r0, r1, r2⟩ := hb.cells
   clear hb ho1
   go_simp
   exact hK.out undef _ _ (by kernel_rfl) PutV.of
  exact Ja.Steps.nil
 intro L vals w2 hall hJ
 clear hAt1
 have hG2 := hJ.q
 have hA2 : Sp w2 (w.heap.size) (sA1) (.slice AA1 kA1 cA1) (.slice AA2 kA2 cA2) (sA2) (.slice AA3 kA3 cA3) (.slice AA4 kA4 cA4) := NbV.outS (hJ.still 0 rfl rfl (Nat.le_of_ble_eq_true (by kernel_rfl)))
 have nA2 : Ns w2 (.agg #[.bool sA1, .slice AA1 kA1 cA1, .slice AA2 kA2 cA2, .bool sA2, .slice AA3 kA3 cA3, .slice AA4 kA4 cA4]) (rmin (p) (q)) (rmax (p) (q)) := hJ.kept 0 rfl
 have hT2 : Sp w2 (w.heap.size + 1) (false) (.slice none 0 0) (.slice none 0 0) (false) (.slice none 0 0) (.slice none 0 0) := NbV.outS (hJ.still 1 rfl rfl (Nat.le_of_ble_eq_true (by kernel_rfl)))
 obtain ⟨gX, eX, geX, qX⟩ := hJ.fresh 2 rfl rfl (hall 8 (by decide)) (hall 10 (by decide))
 have nX2 : Nq w2 (vals 3) ((rmin (p) (q)) ^ n) := hJ.s 3 (hall 3 (by decide))
 obtain ⟨sX, AX1, kX1, cX1, AX2, kX2, cX2, yX, hX2⟩ := qX
 change Nb w2 (gX) (sX) (.slice AX1 kX1 cX1) (.slice AX2 kX2 cX2) at hX2
 try dsimp only at yX
 rw [yX] at nX2
 clear yX
 obtain ⟨gY, eY, geY, qY⟩ := hJ.fresh 3 rfl rfl (hall 9 (by decide)) (hall 11 (by decide))
 have nY2 : Nq w2 (vals 7) ((rmax (p) (q)) ^ n) := hJ.s 7 (hall 7 (by decide))
 obtain ⟨sY, AY1, kY1, cY1, AY2, kY2, cY2, yY, hY2⟩ := qY
 change Nb w2 (gY) (sY) (.slice AY1 kY1 cY1) (.slice AY2 kY2 cY2) at hY2
 try dsimp only at yY
 rw [yY] at nY2
 clear yY
 have neXA : gX ≠ w.heap.size := hJ.ne 2 0 (by decide) rfl rfl (hall 8 (by decide)) rfl eX rfl
 have neXT : gX ≠ w.heap.size + 1 := hJ.ne 2 1 (by decide) rfl rfl (hall 8 (by decide)) rfl eX rfl
 have neYA : gY ≠ w.heap.size := hJ.ne 3 0 (by decide) rfl rfl (hall 9 (by decide)) rfl eY rfl
 have neYT : gY ≠ w.heap.size + 1 := hJ.ne 3 1 (by decide) rfl rfl (hall 9 (by decide)) rfl eY rfl
 have neYX : gY ≠ gX := hJ.ne 3 2 (by decide) rfl rfl (hall 9 (by decide)) (hall 8 (by decide)) eY eX
 rw [eX]
 clear eX
 rw [eY]
 clear eY
 clear hall hJ
 go_upto_region 4 with fail
 have hsa := (NsLo nA2).sign; have hsb := (NsHi nA2).sign
 have hle : rmin (p) (q) ≤ rmax (p) (q) := rmin_le_rmax p q
 have HLE := Lib.hid hle; have HSA := Lib.hid hsa; have HSB := Lib.hid hsb; clear hle hsa hsb
 by_cases h0 : n = 0
 ·have H0 : Hid ((n : Int) = 0) := Lib.hid (by omega)
  have H00 := Lib.hid h0; clear h0
  refine text_each (F := ?F4) ([.eq (.int .i64 ((n : Int))), .eq (.bool true), .eq (.bool true), .any, .any, .any, .eq (.bool true), .eq (.bool true), .any, .any, .any, .any, .eq (.bool true), .eq (.bool true)] : List Vs) (by kernel_rfl) ?hF4 ?st4 ?en4
  case hF4 =>
   intro vals
   simp only [Ja.fillL, Act.put, List.setIfInBounds_toArray, List.set_cons_zero, List.set_cons_succ, Nat.reduceAdd]
   exact rfl
  case st4 =>
   intro hctx
   refine Each.y hctx ?_ ?_
   ·intro vals W hM hd K hK
    go_simp
    exact hK.out (.int .i64 ((n : Int))) _ _ (by kernel_rfl) rfl (Q.refl _)
   refine Each.y hctx ?_ ?_
   ·intro vals W hM hd K hK
    have d0 : vals 0 = .int .i64 ((n : Int)) := hd 0 (by kernel_rfl)
    generalize vals 0 = u0 at d0 hK ⊢
    subst d0
    go_simp
    rw [show ((((n : Int)) : Int) == (0)) = true from beq_iff_eq.2 (H0.out)]
    exact hK.out (.bool true) _ _ (by kernel_rfl) rfl (Q.refl _)
   refine Each.y hctx ?_ ?_
   ·intro vals W hM hd K hK
    have d1 : vals 1 = .bool true := hd 1 (by kernel_rfl)
    generalize vals 1 = u1 at d1 hK ⊢
    subst d1
    go_simp
    exact hK.out (.bool true) _ _ (by kernel_rfl) rfl (Q.refl _)
   refine Each.n hctx ?_
   refine Each.n hctx ?_
   refine Each.n hctx ?_
   refine Each.y hctx ?_ ?_
   ·intro vals W hM hd K hK
    have d2 : vals 2 = .bool true := hd 2 (by kernel_rfl)
    generalize vals 2 = u2 at d2 hK ⊢
    subst d2
    go_simp
    exact hK.out (.bool true) _ _ (by kernel_rfl) rfl (Q.refl _)
   refine Each.y hctx ?_ ?_
   ·intro vals W hM hd K hK
    have d6 : vals 6 = .bool true := hd 6 (by kernel_rfl)
    generalize vals 6 = u6 at d6 hK ⊢
    subst d6
    go_simp
    exact hK.out (.bool true) _ _ (by kernel_rfl) rfl (Q.refl _)
   refine Each.n hctx ?_
   refine Each.n hctx ?_
   refine Each.n hctx ?_
   refine Each.n hctx ?_
   refine Each.y hctx ?_ ?_
   ·intro vals W hM hd K hK
    have d7 : vals 7 = .bool true := hd 7 (by kernel_rfl)
    generalize vals 7 = u7 at d7 hK ⊢
    subst d7
    go_simp
    exact hK.out (.bool true) _ _ (by kernel_rfl) rfl (Q.refl _)
   refine Each.y hctx ?_ ?_
   ·intro vals W hM hd K hK
    have d12 : vals 12 = .bool true := hd 12 (by kernel_rfl)
    generalize vals 12 = u12 at d12 hK ⊢
    subst d12
    go_simp
    exact hK.out (.bool true) _ _ (by kernel_rfl) rfl (Q.refl _)
   exact Ja.Steps.nil
  intro vals w3 hq3 hall
  have hG3 := hG2.trans hq3
  have hA3 := hA2.q hq3
  have nA3 := nA2.q hq3
  have hT3 := hT2.q hq3
  have hX3 := hX2.q hq3
  have nX3 := nX2.q hq3
  have hY3 := hY2.q hq3
  have nY3 := nY2.q hq3
  have f20 : vals 13 = .bool true := hall 13 (by decide)
  rw [f20]
  clear hall hq3 hG2 hA2 hT2 hX2 hY2 nA2 nX2 nY2
  go_upto_region 5 with fail
  have hAt3 : At0 w [{ al := none, g := w.heap.size, big := true, row := .agg #[.bool sA1, .slice AA1 kA1 cA1, .slice AA2 kA2 cA2, .bool sA2, .slice AA3 kA3 cA3, .slice AA4 kA4 cA4], st := 1000, src := 0 }, { al := none, g := w.heap.size + 1, big := true, row := .agg #[.bool false, .slice none 0 0, .slice none 0 0, .bool false, .slice none 0 0, .slice none 0 0], st := 3, src := 2 }, { al := none, g := gX, big := false, row := .agg #[.bool sX, .slice AX1 kX1 cX1, .slice AX2 kX2 cX2], st := 1000, src := 0 }, { al := none, g := gY, big := false, row := .agg #[.bool sY, .slice AY1 kY1 cY1, .slice AY2 kY2 cY2], st := 1000, src := 0 }] [(.agg #[.bool sA1, .slice AA1 kA1 cA1, .slice AA2 kA2 cA2, .bool sA2, .slice AA3 kA3 cA3, .slice AA4 kA4 cA4], .span (rmin (p) (q)) (rmax (p) (q))), (.agg #[.bool sX, .slice AX1 kX1 cX1, .slice AX2 kX2 cX2], .num ((rmin (p) (q)) ^ n)), (.agg #[.bool sY, .slice AY1 kY1 cY1, .slice AY2 kY2 cY2], .num ((rmax (p) (q)) ^ n))] w3 := At0.of hG3 ⟨fun _ => ⟨by dsimp only; omega, NbV.ofS hA3⟩, fun _ => ⟨by dsimp only; omega, NbV.ofS hT3⟩, fun _ => ⟨by dsimp only; omega, NbV.of hX3⟩, fun _ => ⟨by dsimp only; omega, NbV.of hY3⟩, trivial⟩ (by (simp [Apart0] <;> omega)) ⟨nA3, nX3, nY3, trivial⟩
  clear hG3 hA3 hT3 hX3 hY3 nA3 nX3 nY3
  refine text_cells (F := ?F5) w ([.num ((rmin (p) (q)) ^ n), .num ((rmax (p) (q)) ^ n), .span ((rmin (p) (q)) ^ n) ((rmax (p) (q)) ^ n), .any] : List Vs) _ _ (by kernel_rfl) hAt3 ?hF5 ?st5 ?en5
  case hF5 =>
   intro vals
   simp only [Ja.fillL, Act.put, List.setIfInBounds_toArray, List.set_cons_zero, List.set_cons_succ, Nat.reduceAdd]
   exact rfl
  case st5 =>
   clear hAt3
   intro hctx
   refine JC.o hctx ?_ ?_
   ·intro L vals W hL hJ hd K hK
    obtain ⟨z0, z1, z2⟩ := (NbV.out (hJ.still 2 rfl rfl (Nat.le_of_ble_eq_true (by kernel_rfl)))).cells
    go_simp
    exact hK.out (.agg #[.bool sX, .slice AX1 kX1 cX1, .slice AX2 kX2 cX2]) _ _ (by kernel_rfl) (hJ.kept 1 rfl) (Q.refl _)
   refine JC.o hctx ?_ ?_
   ·intro L vals W hL hJ hd K hK
    obtain ⟨z0, z1, z2⟩ := (NbV.out (hJ.still 3 rfl rfl (Nat.le_of_ble_eq_true (by kernel_rfl)))).cells
    go_simp
    exact hK.out (.agg #[.bool sY, .slice AY1 kY1 cY1, .slice AY2 kY2 cY2]) _ _ (by kernel_rfl) (hJ.kept 2 rfl) (Q.refl _)
   refine JC.o hctx ?_ ?_
   ·intro L vals W hL hJ hd K hK
    have d0 : Nq W (vals 0) ((rmin (p) (q)) ^ n) := hd 0 (by kernel_rfl)
    have d1 : Nq W (vals 1) ((rmax (p) (q)) ^ n) := hd 1 (by kernel_rfl)
    generalize vals 0 = u0 at d0 hK ⊢
    generalize vals 1 = u1 at d1 hK ⊢
    obtain ⟨e1, C1, i1, j1, C2, i2, j2, rfl, -⟩ := Nq.form d0
    obtain ⟨e2, C3, i3, j3, C4, i4, j4, rfl, -⟩ := Nq.form d1
    go_simp
    exact hK.out (.agg #[.bool e1, .slice C1 i1 j1, .slice C2 i2 j2, .bool e2, .slice C3 i3 j3, .slice C4 i4 j4]) _ _ (by kernel_rfl) ⟨_, _, _, _, _, _, _, _, _, _, _, _, _, _, rfl, d0, d1⟩ (Q.refl _)
   refine Ja.Steps.cons (JC.store (n := 1) hctx (by kernel_rfl) (by rfl) (by kernel_rfl) (by rfl) (by rfl) (by kernel_rfl) (by rfl) ?_) ?_
   ·intro L vals W g old hJ hp ho hs K hK
    have hs9 : Ns W (vals 2) ((rmin (p) (q)) ^ n) ((rmax (p) (q)) ^ n) := hs
    dsimp only at hK
    obtain rfl : w.heap.size + 1 = g := by injection hp with hp; injection hp with hp; injection hp with hp
    generalize vals 2 = uj at hs9 hK ⊢
    obtain ⟨e1, C1, i1, j1, C2, i2, j2, e2, C3, i3, j3, C4, i4, j4, rfl, -, -⟩ := hs9
    obtain ⟨f1, D1, x1, y1, D2, x2, y2, f2, D3, x3, y3, D4, x4, y4, ho1, hb⟩ := ho
    have fz := hb.frozen
    obtain ⟨r0, r1, r2, r3, r4, r5⟩ := hb.cells
    clear hb ho1 hp
    go_simp
    exact hK.out undef _ _ (by kernel_rfl) PutV.ofS
   exact Ja.Steps.nil
  intro L vals w4 hall hJ
  clear hAt3
  have hG4 := hJ.q
  have hA4 : Sp w4 (w.heap.size) (sA1) (.slice AA1 kA1 cA1) (.slice AA2 kA2 cA2) (sA2) (.slice AA3 kA3 cA3) (.slice AA4 kA4 cA4) := NbV.outS (hJ.still 0 rfl rfl (Nat.le_of_ble_eq_true (by kernel_rfl)))
  have nA4 : Ns w4 (.agg #[.bool sA1, .slice AA1 kA1 cA1, .slice AA2 kA2 cA2, .bool sA2, .slice AA3 kA3 cA3, .slice AA4 kA4 cA4]) (rmin (p) (q)) (rmax (p) (q)) := hJ.kept 0 rfl
  have qT : NbV w4 (w.heap.size + 1) true (vals 2) := hJ.stored 1 rfl rfl (hall 3 (by decide))
  have nT4 : Ns w4 (vals 2) ((rmin (p) (q)) ^ n) ((rmax (p) (q)) ^ n) := hJ.s 2 (hall 2 (by decide))
  obtain ⟨sT1, AT1, kT1, cT1, AT2, kT2, cT2, sT2, AT3, kT3, cT3, AT4, kT4, cT4, yT, hT4⟩ := qT
  change Sp w4 (w.heap.size + 1) (sT1) (.slice AT1 kT1 cT1) (.slice AT2 kT2 cT2) (sT2) (.slice AT3 kT3 cT3) (.slice AT4 kT4 cT4) at hT4
  try dsimp only at yT
  rw [yT] at nT4
  clear yT
  have hX4 : Nb w4 (gX) (sX) (.slice AX1 kX1 cX1) (.slice AX2 kX2 cX2) := NbV.out (hJ.still 2 rfl rfl (Nat.le_of_ble_eq_true (by kernel_rfl)))
  have nX4 : Nq w4 (.agg #[.bool sX, .slice AX1 kX1 cX1, .slice AX2 kX2 cX2]) ((rmin (p) (q)) ^ n) := hJ.kept 1 rfl
  have hY4 : Nb w4 (gY) (sY) (.slice AY1 kY1 cY1) (.slice AY2 kY2 cY2) := NbV.out (hJ.still 3 rfl rfl (Nat.le_of_ble_eq_true (by kernel_rfl)))
  have nY4 : Nq w4 (.agg #[.bool sY, .slice AY1 kY1 cY1, .slice AY2 kY2 cY2]) ((rmax (p) (q)) ^ n) := hJ.kept 2 rfl
  clear hall hJ
  go_wp2_with fail
  have hps := pow_span1 HLE.out (Or.inl H00.out)
  rw [hps.1, hps.2] at nT4
  obtain ⟨z0, z1, z2, z3, z4, z5⟩ := hT4.cells
  refine bodyPost_ret (v := .agg #[.bool sT1, .slice AT1 kT1 cT1, .slice AT2 kT2 cT2, .bool sT2, .slice AT3 kT3 cT3, .slice AT4 kT4 cT4]) (by simp [results, Tryz.results79, go_sem, z0, z1, z2, z3, z4, z5]) rfl ?_
  exact ⟨_, rfl, nT4, hG4⟩
 have H0 : Hid (¬ (n : Int) = 0) := Lib.hid (by omega)
 have H00 := Lib.hid h0; clear h0
 by_cases h1 : n % 2 = 1
 ·have H1 : Hid ((n : Int).tmod 2 = 1) := Lib.hid (by have : (n : Int).tmod 2 = ((n % 2 : Nat) : Int) := rfl; omega)
  have H11 := Lib.hid h1; clear h1
  refine text_each (F := ?F6) ([.eq (.int .i64 ((n : Int))), .eq (.bool false), .eq (.bool false), .eq (.int .i64 ((n : Int))), .eq (.int .i64 ((n : Int).tmod 2)), .eq (.bool true), .eq (.bool true), .eq (.bool true), .any, .any, .any, .any, .eq (.bool true), .eq (.bool true)] : List Vs) (by kernel_rfl) ?hF6 ?st6 ?en6
  case hF6 =>
   intro vals
   simp only [Ja.fillL, Act.put, List.setIfInBounds_toArray, List.set_cons_zero, List.set_cons_succ, Nat.reduceAdd]
   exact rfl
  case st6 =>
   intro hctx
   refine Each.y hctx ?_ ?_
   ·intro vals W hM hd K hK
    go_simp
    exact hK.out (.int .i64 ((n : Int))) _ _ (by kernel_rfl) rfl (Q.refl _)
   refine Each.y hctx ?_ ?_
   ·intro vals W hM hd K hK
    have d0 : vals 0 = .int .i64 ((n : Int)) := hd 0 (by kernel_rfl)
    generalize vals 0 = u0 at d0 hK ⊢
    subst d0
    go_simp
    rw [show ((((n : Int)) : Int) == (0)) = false from beq_eq_false_iff_ne.2 (H0.out)]
    exact hK.out (.bool false) _ _ (by kernel_rfl) rfl (Q.refl _)
   refine Each.y hctx ?_ ?_
   ·intro vals W hM hd K hK
    have d1 : vals 1 = .bool false := hd 1 (by kernel_rfl)
    generalize vals 1 = u1 at d1 hK ⊢
    subst d1
    go_simp
    exact hK.out (.bool false) _ _ (by kernel_rfl) rfl (Q.refl _)
   refine Each.y hctx ?_ ?_
   ·intro vals W hM hd K hK
    go_simp
    exact hK.out (.int .i64 ((n : Int))) _ _ (by kernel_rfl) rfl (Q.refl _)
   refine Each.y hctx ?_ ?_
   ·intro vals W hM hd K hK
    have d3 : vals 3 = .int .i64 ((n : Int)) := hd 3 (by kernel_rfl)
    generalize vals 3 = u3 at d3 hK ⊢
    subst d3
    go_simp
    exact hK.out (.int .i64 ((n : Int).tmod 2)) _ _ (by kernel_rfl) rfl (Q.refl _)
   refine Each.y hctx ?_ ?_
   ·intro vals W hM hd K hK
    have d4 : vals 4 = .int .i64 ((n : Int).tmod 2) := hd 4 (by kernel_rfl)
    generalize vals 4 = u4 at d4 hK ⊢
    subst d4
    go_simp
    rw [show ((((n : Int).tmod 2) : Int) == (1)) = true from beq_iff_eq.2 (H1.out)]
    exact hK.out (.bool true) _ _ (by kernel_rfl) rfl (Q.refl _)
   refine Each.y hctx ?_ ?_
   ·intro vals W hM hd K hK
    have d2 : vals 2 = .bool false := hd 2 (by kernel_rfl)
    generalize vals 2 = u2 at d2 hK ⊢
    subst d2
    have d5 : vals 5 = .bool true := hd 5 (by kernel_rfl)
    generalize vals 5 = u5 at d5 hK ⊢
    subst d5
    go_simp
    exact hK.out (.bool true) _ _ (by kernel_rfl) rfl (Q.refl _)
   refine Each.y hctx ?_ ?_
   ·intro vals W hM hd K hK
    have d6 : vals 6 = .bool true := hd 6 (by kernel_rfl)
    generalize vals 6 = u6 at d6 hK ⊢
    subst d6
    go_simp
    exact hK.out (.bool true) _ _ (by kernel_rfl) rfl (Q.refl _)
   refine Each.n hctx ?_
   refine Each.n hctx ?_
   refine Each.n hctx ?_
   refine Each.n hctx ?_
   refine Each.y hctx ?_ ?_
   ·intro vals W hM hd K hK
    have d7 : vals 7 = .bool true := hd 7 (by kernel_rfl)
    generalize vals 7 = u7 at d7 hK ⊢
    subst d7
    go_simp
    exact hK.out (.bool true) _ _ (by kernel_rfl) rfl (Q.refl _)
   refine Each.y hctx ?_ ?_
   ·intro vals W hM hd K hK
    have d12 : vals 12 = .bool true := hd 12 (by kernel_rfl)
    generalize vals 12 = u12 at d12 hK ⊢
    subst d12
    go_simp
    exact hK.out (.bool true) _ _ (by kernel_rfl) rfl (Q.refl _)
   exact Ja.Steps.nil
  intro vals w3 hq3 hall
  have hG3 := hG2.trans hq3
  have hA3 := hA2.q hq3
  have nA3 := nA2.q hq3
  have hT3 := hT2.q hq3
  have hX3 := hX2.q hq3
  have nX3 := nX2.q hq3
  have hY3 := hY2.q hq3
  have nY3 := nY2.q hq3
  have f20 : vals 13 = .bool true := hall 13 (by decide)
  rw [f20]
  clear hall hq3 hG2 hA2 hT2 hX2 hY2 nA2 nX2 nY2
  go_upto_region 5 with fail
  have hAt3 : At0 w [{ al := none, g := w.heap.size, big := true, row := .agg #[.bool sA1, .slice AA1 kA1 cA1, .slice AA2 kA2 cA2, .bool sA2, .slice AA3 kA3 cA3, .slice AA4 kA4 cA4], st := 1000, src := 0 }, { al := none, g := w.heap.size + 1, big := true, row := .agg #[.bool false, .slice none 0 0, .slice none 0 0, .bool false, .slice none 0 0, .slice none 0 0], st := 3, src := 2 }, { al := none, g := gX, big := false, row := .agg #[.bool sX, .slice AX1 kX1 cX1, .slice AX2 kX2 cX2], st := 1000, src := 0 }, { al := none, g := gY, big := false, row := .agg #[.bool sY, .slice AY1 kY1 cY1, .slice AY2 kY2 cY2], st := 1000, src := 0 }] [(.agg #[.bool sA1, .slice AA1 kA1 cA1, .slice AA2 kA2 cA2, .bool sA2, .slice AA3 kA3 cA3, .slice AA4 kA4 cA4], .span (rmin (p) (q)) (rmax (p) (q))), (.agg #[.bool sX, .slice AX1 kX1 cX1, .slice AX2 kX2 cX2], .num ((rmin (p) (q)) ^ n)), (.agg #[.bool sY, .slice AY1 kY1 cY1, .slice AY2 kY2 cY2], .num ((rmax (p) (q)) ^ n))] w3 := At0.of hG3 ⟨fun _ => ⟨by dsimp only; omega, NbV.ofS hA3⟩, fun _ => ⟨by dsimp only; omega, NbV.ofS hT3⟩, fun _ => ⟨by dsimp only; omega, NbV.of hX3⟩, fun _ => ⟨by dsimp only; omega, NbV.of hY3⟩, trivial⟩ (by (simp [Apart0] <;> omega)) ⟨nA3, nX3, nY3, trivial⟩
  clear hG3 hA3 hT3 hX3 hY3 nA3 nX3 nY3
  refine text_cells (F := ?F7) w ([.num ((rmin (p) (q)) ^ n), .num ((rmax (p) (q)) ^ n), .span ((rmin (p) (q)) ^ n) ((rmax (p) (q)) ^ n), .any] : List Vs) _ _ (by kernel_rfl) hAt3 ?hF7 ?st7 ?en7
  case hF7 =>
   intro vals
   simp only [Ja.fillL, Act.put, List.setIfInBounds_toArray, List.set_cons_zero, List.set_cons_succ, Nat.reduceAdd]
   exact rfl
  case st7 =>
   clear hAt3
   intro hctx
   refine JC.o hctx ?_ ?_
   ·intro L vals W hL hJ hd K hK
    obtain ⟨z0, z1, z2⟩ := (NbV.out (hJ.still 2 rfl rfl (Nat.le_of_ble_eq_true (by kernel_rfl)))).cells
    go_simp
    exact hK.out (.agg #[.bool sX, .slice AX1 kX1 cX1, .slice AX2 kX2 cX2]) _ _ (by kernel_rfl) (hJ.kept 1 rfl) (Q.refl _)
   refine JC.o hctx ?_ ?_
   ·intro L vals W hL hJ hd K hK
    obtain ⟨z0, z1, z2⟩ := (NbV.out (hJ.still 3 rfl rfl (Nat.le_of_ble_eq_true (by kernel_rfl)))).cells
    go_simp
    exact hK.out (.agg #[.bool sY, .slice AY1 kY1 cY1, .slice AY2 kY2 cY2]) _ _ (by kernel_rfl) (hJ.kept 2 rfl) (Q.refl _)
   refine JC.o hctx ?_ ?_
   ·intro L vals W hL hJ hd K hK
    have d0 : Nq W (vals 0) ((rmin (p) (q)) ^ n) := hd 0 (by kernel_rfl)
    have d1 : Nq W (vals 1) ((rmax (p) (q)) ^ n) := hd 1 (by kernel_rfl)
    generalize vals 0 = u0 at d0 hK ⊢
    generalize vals 1 = u1 at d1 hK ⊢
    obtain ⟨e1, C1, i1, j1, C2, i2, j2, rfl, -⟩ := Nq.form d0
    obtain ⟨e2, C3, i3, j3, C4, i4, j4, rfl, -⟩ := Nq.form d1
    go_simp
    exact hK.out (.agg #[.bool e1, .slice C1 i1 j1, .slice C2 i2 j2, .bool e2, .slice C3 i3 j3, .slice C4 i4 j4]) _ _ (by kernel_rfl) ⟨_, _, _, _, _, _, _, _, _, _, _, _, _, _, rfl, d0, d1⟩ (Q.refl _)
   refine Ja.Steps.cons (JC.store (n := 1) hctx (by kernel_rfl) (by rfl) (by kernel_rfl) (by rfl) (by rfl) (by kernel_rfl) (by rfl) ?_) ?_
   ·intro L vals W g old hJ hp ho hs K hK
    have hs9 : Ns W (vals 2) ((rmin (p) (q)) ^ n) ((rmax (p) (q)) ^ n) := hs
    dsimp only at hK
    obtain rfl : w.heap.size + 1 = g := by injection hp with hp; injection hp with hp; injection hp with hp
    generalize vals 2 = uj at hs9 hK ⊢
    obtain ⟨e1, C1, i1, j1, C2, i2, j2, e2, C3, i3, j3, C4, i4, j4, rfl, -, -⟩ := hs9
    obtain ⟨f1, D1, x1, y1, D2, x2, y2, f2, D3, x3, y3, D4, x4, y4, ho1, hb⟩ := ho
    have fz := hb.frozen
    obtain ⟨r0, r1, r2, r3, r4, r5⟩ := hb.cells
    clear hb ho1 hp
    go_simp
    exact hK.out undef _ _ (by kernel_rfl) PutV.ofS
   exact Ja.Steps.nil
  intro L vals w4 hall hJ
  clear hAt3
  have hG4 := hJ.q
  have hA4 : Sp w4 (w.heap.size) (sA1) (.slice AA1 kA1 cA1) (.slice AA2 kA2 cA2) (sA2) (.slice AA3 kA3 cA3) (.slice AA4 kA4 cA4) := NbV.outS (hJ.still 0 rfl rfl (Nat.le_of_ble_eq_true (by kernel_rfl)))
  have nA4 : Ns w4 (.agg #[.bool sA1, .slice AA1 kA1 cA1, .slice AA2 kA2 cA2, .bool sA2, .slice AA3 kA3 cA3, .slice AA4 kA4 cA4]) (rmin (p) (q)) (rmax (p) (q)) := hJ.kept 0 rfl
  have qT : NbV w4 (w.heap.size + 1) true (vals 2) := hJ.stored 1 rfl rfl (hall 3 (by decide))
  have nT4 : Ns w4 (vals 2) ((rmin (p) (q)) ^ n) ((rmax (p) (q)) ^ n) := hJ.s 2 (hall 2 (by decide))
  obtain ⟨sT1, AT1, kT1, cT1, AT2, kT2, cT2, sT2, AT3, kT3, cT3, AT4, kT4, cT4, yT, hT4⟩ := qT
  change Sp w4 (w.heap.size + 1) (sT1) (.slice AT1 kT1 cT1) (.slice AT2 kT2 cT2) (sT2) (.slice AT3 kT3 cT3) (.slice AT4 kT4 cT4) at hT4
  try dsimp only at yT
  rw [yT] at nT4
  clear yT
  have hX4 : Nb w4 (gX) (sX) (.slice AX1 kX1 cX1) (.slice AX2 kX2 cX2) := NbV.out (hJ.still 2 rfl rfl (Nat.le_of_ble_eq_true (by kernel_rfl)))
  have nX4 : Nq w4 (.agg #[.bool sX, .slice AX1 kX1 cX1, .slice AX2 kX2 cX2]) ((rmin (p) (q)) ^ n) := hJ.kept 1 rfl
  have hY4 : Nb w4 (gY) (sY) (.slice AY1 kY1 cY1) (.slice AY2 kY2 cY2) := NbV.out (hJ.still 3 rfl rfl (Nat.le_of_ble_eq_true (by kernel_rfl)))
  have nY4 : Nq w4 (.agg #[.bool sY, .slice AY1 kY1 cY1, .slice AY2 kY2 cY2]) ((rmax (p) (q)) ^ n) := hJ.kept 2 rfl
  clear hall hJ
  go_wp2_with fail
  have hps := pow_span1 HLE.out (Or.inr (Or.inl H11.out))
  rw [hps.1, hps.2] at nT4
  obtain ⟨z0, z1, z2, z3, z4, z5⟩ := hT4.cells
  refine bodyPost_ret (v := .agg #[.bool sT1, .slice AT1 kT1 cT1, .slice AT2 kT2 cT2, .bool sT2, .slice AT3 kT3 cT3, .slice AT4 kT4 cT4]) (by simp [results, Tryz.results79, go_sem, z0, z1, z2, z3, z4, z5]) rfl ?_
  exact ⟨_, rfl, nT4, hG4⟩
 have H1 : Hid (¬ (n : Int).tmod 2 = 1) := Lib.hid (by have : (n : Int).tmod 2 = ((n % 2 : Nat) : Int) := rfl; omega)
 have H11 : Hid (n % 2 = 0) := Lib.hid (by omega); clear h1
 by_cases h2 : rmin (p) (q) < 0
 ·have H2 := Lib.hid h2; clear h2
  refine text_each (F := ?F8) ([.eq (.int .i64 ((n : Int))), .eq (.bool false), .eq (.bool false), .eq (.int .i64 ((n : Int))), .eq (.int .i64 ((n : Int).tmod 2)), .eq (.bool false), .eq (.bool false), .eq (.bool false), .eq (.pointer (some ⟨w.heap.size, 0, none⟩)), .eq (.pointer (some ⟨w.heap.size, 0, none⟩)), .eq (.bool true), .eq (.bool false), .eq (.bool false), .eq (.bool false)] : List Vs) (by kernel_rfl) ?hF8 ?st8 ?en8
  case hF8 =>
   intro vals
   simp only [Ja.fillL, Act.put, List.setIfInBounds_toArray, List.set_cons_zero, List.set_cons_succ, Nat.reduceAdd]
   exact rfl
  case st8 =>
   intro hctx
   refine Each.y hctx ?_ ?_
   ·intro vals W hM hd K hK
    go_simp
    exact hK.out (.int .i64 ((n : Int))) _ _ (by kernel_rfl) rfl (Q.refl _)
   refine Each.y hctx ?_ ?_
   ·intro vals W hM hd K hK
    have d0 : vals 0 = .int .i64 ((n : Int)) := hd 0 (by kernel_rfl)
    generalize vals 0 = u0 at d0 hK ⊢
    subst d0
    go_simp
    rw [show ((((n : Int)) : Int) == (0)) = false from beq_eq_false_iff_ne.2 (H0.out)]
    exact hK.out (.bool false) _ _ (by kernel_rfl) rfl (Q.refl _)
   refine Each.y hctx ?_ ?_
   ·intro vals W hM hd K hK
    have d1 : vals 1 = .bool false := hd 1 (by kernel_rfl)
    generalize vals 1 = u1 at d1 hK ⊢
    subst d1
    go_simp
    exact hK.out (.bool false) _ _ (by kernel_rfl) rfl (Q.refl _)
   refine Each.y hctx ?_ ?_
   ·intro vals W hM hd K hK
    go_simp
    exact hK.out (.int .i64 ((n : Int))) _ _ (by kernel_rfl) rfl (Q.refl _)
   refine Each.y hctx ?_ ?_
   ·intro vals W hM hd K hK
    have d3 : vals 3 = .int .i64 ((n : Int)) := hd 3 (by kernel_rfl)
    generalize vals 3 = u3 at d3 hK ⊢
    subst d3
    go_simp
    exact hK.out (.int .i64 ((n : Int).tmod 2)) _ _ (by kernel_rfl) rfl (Q.refl _)
   refine Each.y hctx ?_ ?_
   ·intro vals W hM hd K hK
    have d4 : vals 4 = .int .i64 ((n : Int).tmod 2) := hd 4 (by kernel_rfl)
    generalize vals 4 = u4 at d4 hK ⊢
    subst d4
    go_simp
    rw [show ((((n : Int).tmod 2) : Int) == (1)) = false from beq_eq_false_iff_ne.2 (H1.out)]
    exact hK.out (.bool false) _ _ (by kernel_rfl) rfl (Q.refl _)
   refine Each.y hctx ?_ ?_
   ·intro vals W hM hd K hK
    have d2 : vals 2 = .bool false := hd 2 (by kernel_rfl)
    generalize vals 2 = u2 at d2 hK ⊢
    subst d2
    have d5 : vals 5 = .bool false := hd 5 (by kernel_rfl)
    generalize vals 5 = u5 at d5 hK ⊢
    subst d5
    go_simp
    exact hK.out (.bool false) _ _ (by kernel_rfl) rfl (Q.refl _)
   refine Each.y hctx ?_ ?_
   ·intro vals W hM hd K hK
    have d6 : vals 6 = .bool false := hd 6 (by kernel_rfl)
    generalize vals 6 = u6 at d6 hK ⊢
    subst d6
    go_simp
    exact hK.out (.bool false) _ _ (by kernel_rfl) rfl (Q.refl _)
   refine Each.y hctx ?_ ?_
   ·intro vals W hM hd K hK
    go_simp
    exact hK.out (.pointer (some ⟨w.heap.size, 0, none⟩)) _ _ (by kernel_rfl) rfl (Q.refl _)
   refine Each.y hctx ?_ ?_
   ·intro vals W hM hd K hK
    have d8 : vals 8 = .pointer (some ⟨w.heap.size, 0, none⟩) := hd 8 (by kernel_rfl)
    generalize vals 8 = u8 at d8 hK ⊢
    subst d8
    go_simp
    exact hK.out (.pointer (some ⟨w.heap.size, 0, none⟩)) _ _ (by kernel_rfl) rfl (Q.refl _)
   refine Each.y hctx ?_ ?_
   ·intro vals W hM hd K hK
    have hN : Q w2 W := hM
    have d9 : vals 9 = .pointer (some ⟨w.heap.size, 0, none⟩) := hd 9 (by kernel_rfl)
    generalize vals 9 = u9 at d9 hK ⊢
    subst d9
    obtain ⟨z0, z1, z2, z3, z4, z5⟩ := (hA2.q hN).cells
    go_simp
    exact hK.out (.bool sA1) _ _ (by kernel_rfl) (congrArg Value.bool ((HSA.out.trans (decide_eq_true H2.out)))) (Q.refl _)
   refine Each.y hctx ?_ ?_
   ·intro vals W hM hd K hK
    have d10 : vals 10 = .bool true := hd 10 (by kernel_rfl)
    generalize vals 10 = u10 at d10 hK ⊢
    subst d10
    go_simp
    exact hK.out (.bool false) _ _ (by kernel_rfl) rfl (Q.refl _)
   refine Each.y hctx ?_ ?_
   ·intro vals W hM hd K hK
    have d7 : vals 7 = .bool false := hd 7 (by kernel_rfl)
    generalize vals 7 = u7 at d7 hK ⊢
    subst d7
    have d11 : vals 11 = .bool false := hd 11 (by kernel_rfl)
    generalize vals 11 = u11 at d11 hK ⊢
    subst d11
    go_simp
    exact hK.out (.bool false) _ _ (by kernel_rfl) rfl (Q.refl _)
   refine Each.y hctx ?_ ?_
   ·intro vals W hM hd K hK
    have d12 : vals 12 = .bool false := hd 12 (by kernel_rfl)
    generalize vals 12 = u12 at d12 hK ⊢
    subst d12
    go_simp
    exact hK.out (.bool false) _ _ (by kernel_rfl) rfl (Q.refl _)
   exact Ja.Steps.nil
  intro vals w3 hq3 hall
  have hG3 := hG2.trans hq3
  have hA3 := hA2.q hq3
  have nA3 := nA2.q hq3
  have hT3 := hT2.q hq3
  have hX3 := hX2.q hq3
  have nX3 := nX2.q hq3
  have hY3 := hY2.q hq3
  have nY3 := nY2.q hq3
  have f20 : vals 13 = .bool false := hall 13 (by decide)
  rw [f20]
  clear hall hq3 hG2 hA2 hT2 hX2 hY2 nA2 nX2 nY2
  go_upto_region 6 with fail
  by_cases h3 : rmax (p) (q) < 0
  ·have H3 := Lib.hid h3; clear h3
   refine text_each (F := ?F9) ([.eq (.pointer (some ⟨w.heap.size, 3, none⟩)), .eq (.pointer (some ⟨w.heap.size, 3, none⟩)), .eq (.bool true), .eq (.bool true)] : List Vs) (by kernel_rfl) ?hF9 ?st9 ?en9
   case hF9 =>
    intro vals
    simp only [Ja.fillL, Act.put, List.setIfInBounds_toArray, List.set_cons_zero, List.set_cons_succ, Nat.reduceAdd]
    exact rfl
   case st9 =>
    intro hctx
    refine Each.y hctx ?_ ?_
    ·intro vals W hM hd K hK
     go_simp
     exact hK.out (.pointer (some ⟨w.heap.size, 3, none⟩)) _ _ (by kernel_rfl) rfl (Q.refl _)
    refine Each.y hctx ?_ ?_
    ·intro vals W hM hd K hK
     have d0 : vals 0 = .pointer (some ⟨w.heap.size, 3, none⟩) := hd 0 (by kernel_rfl)
     generalize vals 0 = u0 at d0 hK ⊢
     subst d0
     go_simp
     exact hK.out (.pointer (some ⟨w.heap.size, 3, none⟩)) _ _ (by kernel_rfl) rfl (Q.refl _)
    refine Each.y hctx ?_ ?_
    ·intro vals W hM hd K hK
     have hN : Q w3 W := hM
     have d1 : vals 1 = .pointer (some ⟨w.heap.size, 3, none⟩) := hd 1 (by kernel_rfl)
     generalize vals 1 = u1 at d1 hK ⊢
     subst d1
     obtain ⟨z0, z1, z2, z3, z4, z5⟩ := (hA3.q hN).cells
     go_simp
     exact hK.out (.bool sA2) _ _ (by kernel_rfl) (congrArg Value.bool ((HSB.out.trans (decide_eq_true H3.out)))) (Q.refl _)
    refine Each.y hctx ?_ ?_
    ·intro vals W hM hd K hK
     have d2 : vals 2 = .bool true := hd 2 (by kernel_rfl)
     generalize vals 2 = u2 at d2 hK ⊢
     subst d2
     go_simp
     exact hK.out (.bool true) _ _ (by kernel_rfl) rfl (Q.refl _)
    exact Ja.Steps.nil
   intro vals w4 hq4 hall
   have hG4 := hG3.trans hq4
   have hA4 := hA3.q hq4
   have nA4 := nA3.q hq4
   have hT4 := hT3.q hq4
   have hX4 := hX3.q hq4
   have nX4 := nX3.q hq4
   have hY4 := hY3.q hq4
   have nY4 := nY3.q hq4
   have f37 : vals 3 = .bool true := hall 3 (by decide)
   rw [f37]
   clear hall hq4 hG3 hA3 hT3 hX3 hY3 nA3 nX3 nY3
   go_upto_region 7 with fail
   have hAt4 : At0 w [{ al := none, g := w.heap.size, big := true, row := .agg #[.bool sA1, .slice AA1 kA1 cA1, .slice AA2 kA2 cA2, .bool sA2, .slice AA3 kA3 cA3, .slice AA4 kA4 cA4], st := 1000, src := 0 }, { al := none, g := w.heap.size + 1, big := true, row := .agg #[.bool false, .slice none 0 0, .slice none 0 0, .bool false, .slice none 0 0, .slice none 0 0], st := 3, src := 2 }, { al := none, g := gX, big := false, row := .agg #[.bool sX, .slice AX1 kX1 cX1, .slice AX2 kX2 cX2], st := 1000, src := 0 }, { al := none, g := gY, big := false, row := .agg #[.bool sY, .slice AY1 kY1 cY1, .slice AY2 kY2 cY2], st := 1000, src := 0 }] [(.agg #[.bool sA1, .slice AA1 kA1 cA1, .slice AA2 kA2 cA2, .bool sA2, .slice AA3 kA3 cA3, .slice AA4 kA4 cA4], .span (rmin (p) (q)) (rmax (p) (q))), (.agg #[.bool sX, .slice AX1 kX1 cX1, .slice AX2 kX2 cX2], .num ((rmin (p) (q)) ^ n)), (.agg #[.bool sY, .slice AY1 kY1 cY1, .slice AY2 kY2 cY2], .num ((rmax (p) (q)) ^ n))] w4 := At0.of hG4 ⟨fun _ => ⟨by dsimp only; omega, NbV.ofS hA4⟩, fun _ => ⟨by dsimp only; omega, NbV.ofS hT4⟩, fun _ => ⟨by dsimp only; omega, NbV.of hX4⟩, fun _ => ⟨by dsimp only; omega, NbV.of hY4⟩, trivial⟩ (by (simp [Apart0] <;> omega)) ⟨nA4, nX4, nY4, trivial⟩
   clear hG4 hA4 hT4 hX4 hY4 nA4 nX4 nY4
   refine text_cells (F := ?F10) w ([.num ((rmax (p) (q)) ^ n), .num ((rmin (p) (q)) ^ n), .span ((rmax (p) (q)) ^ n) ((rmin (p) (q)) ^ n), .any] : List Vs) _ _ (by kernel_rfl) hAt4 ?hF10 ?st10 ?en10
   case hF10 =>
    intro vals
    simp only [Ja.fillL, Act.put, List.setIfInBounds_toArray, List.set_cons_zero, List.set_cons_succ, Nat.reduceAdd]
    exact rfl
   case st10 =>
    clear hAt4
    intro hctx
    refine JC.o hctx ?_ ?_
    ·intro L vals W hL hJ hd K hK
     obtain ⟨z0, z1, z2⟩ := (NbV.out (hJ.still 3 rfl rfl (Nat.le_of_ble_eq_true (by kernel_rfl)))).cells
     go_simp
     exact hK.out (.agg #[.bool sY, .slice AY1 kY1 cY1, .slice AY2 kY2 cY2]) _ _ (by kernel_rfl) (hJ.kept 2 rfl) (Q.refl _)
    refine JC.o hctx ?_ ?_
    ·intro L vals W hL hJ hd K hK
     obtain ⟨z0, z1, z2⟩ := (NbV.out (hJ.still 2 rfl rfl (Nat.le_of_ble_eq_true (by kernel_rfl)))).cells
     go_simp
     exact hK.out (.agg #[.bool sX, .slice AX1 kX1 cX1, .slice AX2 kX2 cX2]) _ _ (by kernel_rfl) (hJ.kept 1 rfl) (Q.refl _)
    refine JC.o hctx ?_ ?_
    ·intro L vals W hL hJ hd K hK
     have d0 : Nq W (vals 0) ((rmax (p) (q)) ^ n) := hd 0 (by kernel_rfl)
     have d1 : Nq W (vals 1) ((rmin (p) (q)) ^ n) := hd 1 (by kernel_rfl)
     generalize vals 0 = u0 at d0 hK ⊢
     generalize vals 1 = u1 at d1 hK ⊢
     obtain ⟨e1, C1, i1, j1, C2, i2, j2, rfl, -⟩ := Nq.form d0
     obtain ⟨e2, C3, i3, j3, C4, i4, j4, rfl, -⟩ := Nq.form d1
     go_simp
     exact hK.out (.agg #[.bool e1, .slice C1 i1 j1, .slice C2 i2 j2, .bool e2, .slice C3 i3 j3, .slice C4 i4 j4]) _ _ (by kernel_rfl) ⟨_, _, _, _, _, _, _, _, _, _, _, _, _, _, rfl, d0, d1⟩ (Q.refl _)
    refine Ja.Steps.cons (JC.store (n := 1) hctx (by kernel_rfl) (by rfl) (by kernel_rfl) (by rfl) (by rfl) (by kernel_rfl) (by rfl) ?_) ?_
    ·intro L vals W g old hJ hp ho hs K hK
     have hs9 : Ns W (vals 2) ((rmax (p) (q)) ^ n) ((rmin (p) (q)) ^ n) := hs
     dsimp only at hK
     obtain rfl : w.heap.size + 1 = g := by injection hp with hp; injection hp with hp; injection hp with hp
     generalize vals 2 = uj at hs9 hK ⊢
     obtain ⟨e1, C1, i1, j1, C2, i2, j2, e2, C3, i3, j3, C4, i4, j4, rfl, -, -⟩ := hs9
     obtain ⟨f1, D1, x1, y1, D2, x2, y2, f2, D3, x3, y3, D4, x4, y4, ho1, hb⟩ := ho
     have fz := hb.frozen
     obtain ⟨r0, r1, r2, r3, r4, r5⟩ := hb.cells
     clear hb ho1 hp
     go_simp
     exact hK.out undef _ _ (by kernel_rfl) PutV.ofS
    exact Ja.Steps.nil
   intro L vals w5 hall hJ
   clear hAt4
   have hG5 := hJ.q
   have hA5 : Sp w5 (w.heap.size) (sA1) (.slice AA1 kA1 cA1) (.slice AA2 kA2 cA2) (sA2) (.slice AA3 kA3 cA3) (.slice AA4 kA4 cA4) := NbV.outS (hJ.still 0 rfl rfl (Nat.le_of_ble_eq_true (by kernel_rfl)))
   have nA5 : Ns w5 (.agg #[.bool sA1, .slice AA1 kA1 cA1, .slice AA2 kA2 cA2, .bool sA2, .slice AA3 kA3 cA3, .slice AA4 kA4 cA4]) (rmin (p) (q)) (rmax (p) (q)) := hJ.kept 0 rfl
   have qT : NbV w5 (w.heap.size + 1) true (vals 2) := hJ.stored 1 rfl rfl (hall 3 (by decide))
   have nT5 : Ns w5 (vals 2) ((rmax (p) (q)) ^ n) ((rmin (p) (q)) ^ n) := hJ.s 2 (hall 2 (by decide))
   obtain ⟨sT1, AT1, kT1, cT1, AT2, kT2, cT2, sT2, AT3, kT3, cT3, AT4, kT4, cT4, yT, hT5⟩ := qT
   change Sp w5 (w.heap.size + 1) (sT1) (.slice AT1 kT1 cT1) (.slice AT2 kT2 cT2) (sT2) (.slice AT3 kT3 cT3) (.slice AT4 kT4 cT4) at hT5
   try dsimp only at yT
   rw [yT] at nT5
   clear yT
   have hX5 : Nb w5 (gX) (sX) (.slice AX1 kX1 cX1) (.slice AX2 kX2 cX2) := NbV.out (hJ.still 2 rfl rfl (Nat.le_of_ble_eq_true (by kernel_rfl)))
   have nX5 : Nq w5 (.agg #[.bool sX, .slice AX1 kX1 cX1, .slice AX2 kX2 cX2]) ((rmin (p) (q)) ^ n) := hJ.kept 1 rfl
   have hY5 : Nb w5 (gY) (sY) (.slice AY1 kY1 cY1) (.slice AY2 kY2 cY2) := NbV.out (hJ.still 3 rfl rfl (Nat.le_of_ble_eq_true (by kernel_rfl)))
   have nY5 : Nq w5 (.agg #[.bool sY, .slice AY1 kY1 cY1, .slice AY2 kY2 cY2]) ((rmax (p) (q)) ^ n) := hJ.kept 2 rfl
   clear hall hJ
   go_wp2_with fail
   have hps := pow_span2 HLE.out H11.out H3.out
   rw [hps.1, hps.2] at nT5
   obtain ⟨z0, z1, z2, z3, z4, z5⟩ := hT5.cells
   refine bodyPost_ret (v := .agg #[.bool sT1, .slice AT1 kT1 cT1, .slice AT2 kT2 cT2, .bool sT2, .slice AT3 kT3 cT3, .slice AT4 kT4 cT4]) (by simp [results, Tryz.results79, go_sem, z0, z1, z2, z3, z4, z5]) rfl ?_
   exact ⟨_, rfl, nT5, hG5⟩
  ·have H3 := Lib.hid h3; clear h3
   refine text_each (F := ?F11) ([.eq (.pointer (some ⟨w.heap.size, 3, none⟩)), .eq (.pointer (some ⟨w.heap.size, 3, none⟩)), .eq (.bool false), .eq (.bool false)] : List Vs) (by kernel_rfl) ?hF11 ?st11 ?en11
   case hF11 =>
    intro vals
    simp only [Ja.fillL, Act.put, List.setIfInBounds_toArray, List.set_cons_zero, List.set_cons_succ, Nat.reduceAdd]
    exact rfl
   case st11 =>
    intro hctx
    refine Each.y hctx ?_ ?_
    ·intro vals W hM hd K hK
     go_simp
     exact hK.out (.pointer (some ⟨w.heap.size, 3, none⟩)) _ _ (by kernel_rfl) rfl (Q.refl _)
    refine Each.y hctx ?_ ?_
    ·intro vals W hM hd K hK
     have d0 : vals 0 = .pointer (some ⟨w.heap.size, 3, none⟩) := hd 0 (by kernel_rfl)
     generalize vals 0 = u0 at d0 hK ⊢
     subst d0
     go_simp
     exact hK.out (.pointer (some ⟨w.heap.size, 3, none⟩)) _ _ (by kernel_rfl) rfl (Q.refl _)
    refine Each.y hctx ?_ ?_
    ·intro vals W hM hd K hK
     have hN : Q w3 W := hM
     have d1 : vals 1 = .pointer (some ⟨w.heap.size, 3, none⟩) := hd 1 (by kernel_rfl)
     generalize vals 1 = u1 at d1 hK ⊢
     subst d1
     obtain ⟨z0, z1, z2, z3, z4, z5⟩ := (hA3.q hN).cells
     go_simp
     exact hK.out (.bool sA2) _ _ (by kernel_rfl) (congrArg Value.bool ((HSB.out.trans (decide_eq_false H3.out)))) (Q.refl _)
    refine Each.y hctx ?_ ?_
    ·intro vals W hM hd K hK
     have d2 : vals 2 = .bool false := hd 2 (by kernel_rfl)
     generalize vals 2 = u2 at d2 hK ⊢
     subst d2
     go_simp
     exact hK.out (.bool false) _ _ (by kernel_rfl) rfl (Q.refl _)
    exact Ja.Steps.nil
   intro vals w4 hq4 hall
   have hG4 := hG3.trans hq4
   have hA4 := hA3.q hq4
   have nA4 := nA3.q hq4
   have hT4 := hT3.q hq4
   have hX4 := hX3.q hq4
   have nX4 := nX3.q hq4
   have hY4 := hY3.q hq4
   have nY4 := nY3.q hq4
   have f37 : vals 3 = .bool false := hall 3 (by decide)
   rw [f37]
   clear hall hq4 hG3 hA3 hT3 hX3 hY3 nA3 nX3 nY3
   go_upto_region 8 with fail
   have Z10 : Hid (sz (rmax ((rmin (p) (q)) ^ n) ((rmax (p) (q)) ^ n)) ≤ 2560000004) := Lib.hid (by have h9 := sz_rmax ((rmin (p) (q)) ^ n) ((rmax (p) (q)) ^ n); have h0 := Z6.out; have h1 := Z8.out; omega)
   have B11 : Hid (64 * (sz ((rmin (p) (q)) ^ n) + sz ((rmax (p) (q)) ^ n)) + 400 ≤ LIM) := Lib.hid (by have h0 := Z6.out; have h1 := Z8.out; rw [LIM_eq]; omega)
   have hAt4 : At0 w [{ al := none, g := w.heap.size, big := true, row := .agg #[.bool sA1, .slice AA1 kA1 cA1, .slice AA2 kA2 cA2, .bool sA2, .slice AA3 kA3 cA3, .slice AA4 kA4 cA4], st := 1000, src := 0 }, { al := none, g := w.heap.size + 1, big := true, row := .agg #[.bool false, .slice none 0 0, .slice none 0 0, .bool false, .slice none 0 0, .slice none 0 0], st := 5, src := 4 }, { al := none, g := gX, big := false, row := .agg #[.bool sX, .slice AX1 kX1 cX1, .slice AX2 kX2 cX2], st := 1000, src := 0 }, { al := none, g := gY, big := false, row := .agg #[.bool sY, .slice AY1 kY1 cY1, .slice AY2 kY2 cY2], st := 1000, src := 0 }] [(.agg #[.bool sA1, .slice AA1 kA1 cA1, .slice AA2 kA2 cA2, .bool sA2, .slice AA3 kA3 cA3, .slice AA4 kA4 cA4], .span (rmin (p) (q)) (rmax (p) (q))), (.agg #[.bool sX, .slice AX1 kX1 cX1, .slice AX2 kX2 cX2], .num ((rmin (p) (q)) ^ n)), (.agg #[.bool sY, .slice AY1 kY1 cY1, .slice AY2 kY2 cY2], .num ((rmax (p) (q)) ^ n))] w4 := At0.of hG4 ⟨fun _ => ⟨by dsimp only; omega, NbV.ofS hA4⟩, fun _ => ⟨by dsimp only; omega, NbV.ofS hT4⟩, fun _ => ⟨by dsimp only; omega, NbV.of hX4⟩, fun _ => ⟨by dsimp only; omega, NbV.of hY4⟩, trivial⟩ (by (simp [Apart0] <;> omega)) ⟨nA4, nX4, nY4, trivial⟩
   clear hG4 hA4 hT4 hX4 hY4 nA4 nX4 nY4
   refine text_cells (F := ?F12) w ([.num (0), .num ((rmin (p) (q)) ^ n), .num ((rmax (p) (q)) ^ n), .num (rmax ((rmin (p) (q)) ^ n) ((rmax (p) (q)) ^ n)), .span (0) (rmax ((rmin (p) (q)) ^ n) ((rmax (p) (q)) ^ n)), .any] : List Vs) _ _ (by kernel_rfl) hAt4 ?hF12 ?st12 ?en12
   case hF12 =>
    intro vals
    simp only [Ja.fillL, Act.put, List.setIfInBounds_toArray, List.set_cons_zero, List.set_cons_succ, Nat.reduceAdd]
    exact rfl
   case st12 =>
    clear hAt4
    intro hctx
    refine JC.o hctx ?_ ?_
    ·intro L vals W hL hJ hd K hK
     go_simp
     exact hK.out (.agg #[.bool false, .slice none 0 0, .slice none 0 0]) _ _ (by kernel_rfl) (nqNone W) (Q.refl _)
    refine JC.o hctx ?_ ?_
    ·intro L vals W hL hJ hd K hK
     obtain ⟨z0, z1, z2⟩ := (NbV.out (hJ.still 2 rfl rfl (Nat.le_of_ble_eq_true (by kernel_rfl)))).cells
     go_simp
     exact hK.out (.agg #[.bool sX, .slice AX1 kX1 cX1, .slice AX2 kX2 cX2]) _ _ (by kernel_rfl) (hJ.kept 1 rfl) (Q.refl _)
    refine JC.o hctx ?_ ?_
    ·intro L vals W hL hJ hd K hK
     obtain ⟨z0, z1, z2⟩ := (NbV.out (hJ.still 3 rfl rfl (Nat.le_of_ble_eq_true (by kernel_rfl)))).cells
     go_simp
     exact hK.out (.agg #[.bool sY, .slice AY1 kY1 cY1, .slice AY2 kY2 cY2]) _ _ (by kernel_rfl) (hJ.kept 2 rfl) (Q.refl _)
    refine JC.o hctx ?_ ?_
    ·intro L vals W hL hJ hd K hK
     have d1 : Nq W (vals 1) ((rmin (p) (q)) ^ n) := hd 1 (by kernel_rfl)
     have d2 : Nq W (vals 2) ((rmax (p) (q)) ^ n) := hd 2 (by kernel_rfl)
     go_simp
     (with_reducible refine (q_greater _ _ ((rmin (p) (q)) ^ n) ((rmax (p) (q)) ^ n) W d1 d2 B11.out).mono ?_)
     rintro e W9 ⟨r, rfl, hr, hq9⟩
     exact hK.out r W9 _ (by kernel_rfl) hr hq9
    refine JC.o hctx ?_ ?_
    ·intro L vals W hL hJ hd K hK
     have d0 : Nq W (vals 0) (0) := hd 0 (by kernel_rfl)
     have d3 : Nq W (vals 3) (rmax ((rmin (p) (q)) ^ n) ((rmax (p) (q)) ^ n)) := hd 3 (by kernel_rfl)
     generalize vals 0 = u0 at d0 hK ⊢
     generalize vals 3 = u3 at d3 hK ⊢
     obtain ⟨e1, C1, i1, j1, C2, i2, j2, rfl, -⟩ := Nq.form d0
     obtain ⟨e2, C3, i3, j3, C4, i4, j4, rfl, -⟩ := Nq.form d3
     go_simp
     exact hK.out (.agg #[.bool e1, .slice C1 i1 j1, .slice C2 i2 j2, .bool e2, .slice C3 i3 j3, .slice C4 i4 j4]) _ _ (by kernel_rfl) ⟨_, _, _, _, _, _, _, _, _, _, _, _, _, _, rfl, d0, d3⟩ (Q.refl _)
    refine Ja.Steps.cons (JC.store (n := 1) hctx (by kernel_rfl) (by rfl) (by kernel_rfl) (by rfl) (by rfl) (by kernel_rfl) (by rfl) ?_) ?_
    ·intro L vals W g old hJ hp ho hs K hK
     have hs9 : Ns W (vals 4) (0) (rmax ((rmin (p) (q)) ^ n) ((rmax (p) (q)) ^ n)) := hs
     dsimp only at hK
     obtain rfl : w.heap.size + 1 = g := by injection hp with hp; injection hp with hp; injection hp with hp
     generalize vals 4 = uj at hs9 hK ⊢
     obtain ⟨e1, C1, i1, j1, C2, i2, j2, e2, C3, i3, j3, C4, i4, j4, rfl, -, -⟩ := hs9
     obtain ⟨f1, D1, x1, y1, D2, x2, y2, f2, D3, x3, y3, D4, x4, y4, ho1, hb⟩ := ho
     have fz := hb.frozen
     obtain ⟨r0, r1, r2, r3, r4, r5⟩ := hb.cells
     clear hb ho1 hp
     go_simp
     exact hK.out undef _ _ (by kernel_rfl) PutV.ofS
    exact Ja.Steps.nil
   intro L vals w5 hall hJ
   clear hAt4
   have hG5 := hJ.q
   have hA5 : Sp w5 (w.heap.size) (sA1) (.slice AA1 kA1 cA1) (.slice AA2 kA2 cA2) (sA2) (.slice AA3 kA3 cA3) (.slice AA4 kA4 cA4) := NbV.outS (hJ.still 0 rfl rfl (Nat.le_of_ble_eq_true (by kernel_rfl)))
   have nA5 : Ns w5 (.agg #[.bool sA1, .slice AA1 kA1 cA1, .slice AA2 kA2 cA2, .bool sA2, .slice AA3 kA3 cA3, .slice AA4 kA4 cA4]) (rmin (p) (q)) (rmax (p) (q)) := hJ.kept 0 rfl
   have qT : NbV w5 (w.heap.size + 1) true (vals 4) := hJ.stored 1 rfl rfl (hall 5 (by decide))
   have nT5 : Ns w5 (vals 4) (0) (rmax ((rmin (p) (q)) ^ n) ((rmax (p) (q)) ^ n)) := hJ.s 4 (hall 4 (by decide))
   obtain ⟨sT1, AT1, kT1, cT1, AT2, kT2, cT2, sT2, AT3, kT3, cT3, AT4, kT4, cT4, yT, hT5⟩ := qT
   change Sp w5 (w.heap.size + 1) (sT1) (.slice AT1 kT1 cT1) (.slice AT2 kT2 cT2) (sT2) (.slice AT3 kT3 cT3) (.slice AT4 kT4 cT4) at hT5
   try dsimp only at yT
   rw [yT] at nT5
   clear yT
   have hX5 : Nb w5 (gX) (sX) (.slice AX1 kX1 cX1) (.slice AX2 kX2 cX2) := NbV.out (hJ.still 2 rfl rfl (Nat.le_of_ble_eq_true (by kernel_rfl)))
   have nX5 : Nq w5 (.agg #[.bool sX, .slice AX1 kX1 cX1, .slice AX2 kX2 cX2]) ((rmin (p) (q)) ^ n) := hJ.kept 1 rfl
   have hY5 : Nb w5 (gY) (sY) (.slice AY1 kY1 cY1) (.slice AY2 kY2 cY2) := NbV.out (hJ.still 3 rfl rfl (Nat.le_of_ble_eq_true (by kernel_rfl)))
   have nY5 : Nq w5 (.agg #[.bool sY, .slice AY1 kY1 cY1, .slice AY2 kY2 cY2]) ((rmax (p) (q)) ^ n) := hJ.kept 2 rfl
   clear hall hJ
   go_wp2_with fail
   have hps := pow_span3 (Nat.pos_of_ne_zero H00.out) H11.out H2.out (Rat.not_lt.1 H3.out)
   rw [hps.1, hps.2] at nT5
   obtain ⟨z0, z1, z2, z3, z4, z5⟩ := hT5.cells
   refine bodyPost_ret (v := .agg #[.bool sT1, .slice AT1 kT1 cT1, .slice AT2 kT2 cT2, .bool sT2, .slice AT3 kT3 cT3, .slice AT4 kT4 cT4]) (by simp [results, Tryz.results79, go_sem, z0, z1, z2, z3, z4, z5]) rfl ?_
   exact ⟨_, rfl, nT5, hG5⟩
 ·have H2 := Lib.hid h2; clear h2
  refine text_each (F := ?F13) ([.eq (.int .i64 ((n : Int))), .eq (.bool false), .eq (.bool false), .eq (.int .i64 ((n : Int))), .eq (.int .i64 ((n : Int).tmod 2)), .eq (.bool false), .eq (.bool false), .eq (.bool false), .eq (.pointer (some ⟨w.heap.size, 0, none⟩)), .eq (.pointer (some ⟨w.heap.size, 0, none⟩)), .eq (.bool false), .eq (.bool true), .eq (.bool true), .eq (.bool true)] : List Vs) (by kernel_rfl) ?hF13 ?st13 ?en13
  case hF13 =>
   intro vals
   simp only [Ja.fillL, Act.put, List.setIfInBounds_toArray, List.set_cons_zero, List.set_cons_succ, Nat.reduceAdd]
   exact rfl
  case st13 =>
   intro hctx
   refine Each.y hctx ?_ ?_
   ·intro vals W hM hd K hK
    go_simp
    exact hK.out (.int .i64 ((n : Int))) _ _ (by kernel_rfl) rfl (Q.refl _)
   refine Each.y hctx ?_ ?_
   ·intro vals W hM hd K hK
    have d0 : vals 0 = .int .i64 ((n : Int)) := hd 0 (by kernel_rfl)
    generalize vals 0 = u0 at d0 hK ⊢
    subst d0
    go_simp
    rw [show ((((n : Int)) : Int) == (0)) = false from beq_eq_false_iff_ne.2 (H0.out)]
    exact hK.out (.bool false) _ _ (by kernel_rfl) rfl (Q.refl _)
   refine Each.y hctx ?_ ?_
   ·intro vals W hM hd K hK
    have d1 : vals 1 = .bool false := hd 1 (by kernel_rfl)
    generalize vals 1 = u1 at d1 hK ⊢
    subst d1
    go_simp
    exact hK.out (.bool false) _ _ (by kernel_rfl) rfl (Q.refl _)
   refine Each.y hctx ?_ ?_
   ·intro vals W hM hd K hK
    go_simp
    exact hK.out (.int .i64 ((n : Int))) _ _ (by kernel_rfl) rfl (Q.refl _)
   refine Each.y hctx ?_ ?_
   ·intro vals W hM hd K hK
    have d3 : vals 3 = .int .i64 ((n : Int)) := hd 3 (by kernel_rfl)
    generalize vals 3 = u3 at d3 hK ⊢
    subst d3
    go_simp
    exact hK.out (.int .i64 ((n : Int).tmod 2)) _ _ (by kernel_rfl) rfl (Q.refl _)
   refine Each.y hctx ?_ ?_
   ·intro vals W hM hd K hK
    have d4 : vals 4 = .int .i64 ((n : Int).tmod 2) := hd 4 (by kernel_rfl)
    generalize vals 4 = u4 at d4 hK ⊢
    subst d4
    go_simp
    rw [show ((((n : Int).tmod 2) : Int) == (1)) = false from beq_eq_false_iff_ne.2 (H1.out)]
    exact hK.out (.bool false) _ _ (by kernel_rfl) rfl (Q.refl _)
   refine Each.y hctx ?_ ?_
   ·intro vals W hM hd K hK
    have d2 : vals 2 = .bool false := hd 2 (by kernel_rfl)
    generalize vals 2 = u2 at d2 hK ⊢
    subst d2
    have d5 : vals 5 = .bool false := hd 5 (by kernel_rfl)
    generalize vals 5 = u5 at d5 hK ⊢
    subst d5
    go_simp
    exact hK.out (.bool false) _ _ (by kernel_rfl) rfl (Q.refl _)
   refine Each.y hctx ?_ ?_
   ·intro vals W hM hd K hK
    have d6 : vals 6 = .bool false := hd 6 (by kernel_rfl)
    generalize vals 6 = u6 at d6 hK ⊢
    subst d6
    go_simp
    exact hK.out (.bool false) _ _ (by kernel_rfl) rfl (Q.refl _)
   refine Each.y hctx ?_ ?_
   ·intro vals W hM hd K hK
    go_simp
    exact hK.out (.pointer (some ⟨w.heap.size, 0, none⟩)) _ _ (by kernel_rfl) rfl (Q.refl _)
   refine Each.y hctx ?_ ?_
   ·intro vals W hM hd K hK
    have d8 : vals 8 = .pointer (some ⟨w.heap.size, 0, none⟩) := hd 8 (by kernel_rfl)
    generalize vals 8 = u8 at d8 hK ⊢
    subst d8
    go_simp
    exact hK.out (.pointer (some ⟨w.heap.size, 0, none⟩)) _ _ (by kernel_rfl) rfl (Q.refl _)
   refine Each.y hctx ?_ ?_
   ·intro vals W hM hd K hK
    have hN : Q w2 W := hM
    have d9 : vals 9 = .pointer (some ⟨w.heap.size, 0, none⟩) := hd 9 (by kernel_rfl)
    generalize vals 9 = u9 at d9 hK ⊢
    subst d9
    obtain ⟨z0, z1, z2, z3, z4, z5⟩ := (hA2.q hN).cells
    go_simp
    exact hK.out (.bool sA1) _ _ (by kernel_rfl) (congrArg Value.bool ((HSA.out.trans (decide_eq_false H2.out)))) (Q.refl _)
   refine Each.y hctx ?_ ?_
   ·intro vals W hM hd K hK
    have d10 : vals 10 = .bool false := hd 10 (by kernel_rfl)
    generalize vals 10 = u10 at d10 hK ⊢
    subst d10
    go_simp
    exact hK.out (.bool true) _ _ (by kernel_rfl) rfl (Q.refl _)
   refine Each.y hctx ?_ ?_
   ·intro vals W hM hd K hK
    have d7 : vals 7 = .bool false := hd 7 (by kernel_rfl)
    generalize vals 7 = u7 at d7 hK ⊢
    subst d7
    have d11 : vals 11 = .bool true := hd 11 (by kernel_rfl)
    generalize vals 11 = u11 at d11 hK ⊢
    subst d11
    go_simp
    exact hK.out (.bool true) _ _ (by kernel_rfl) rfl (Q.refl _)
   refine Each.y hctx ?_ ?_
   ·intro vals W hM hd K hK
    have d12 : vals 12 = .bool true := hd 12 (by kernel_rfl)
    generalize vals 12 = u12 at d12 hK ⊢
    subst d12
    go_simp
    exact hK.out (.bool true) _ _ (by kernel_rfl) rfl (Q.refl _)
   exact Ja.Steps.nil
  intro vals w3 hq3 hall
  have hG3 := hG2.trans hq3
  have hA3 := hA2.q hq3
  have nA3 := nA2.q hq3
  have hT3 := hT2.q hq3
  have hX3 := hX2.q hq3
  have nX3 := nX2.q hq3
  have hY3 := hY2.q hq3
  have nY3 := nY2.q hq3
  have f20 : vals 13 = .bool true := hall 13 (by decide)
  rw [f20]
  clear hall hq3 hG2 hA2 hT2 hX2 hY2 nA2 nX2 nY2
  go_upto_region 5 with fail
  have hAt3 : At0 w [{ al := none, g := w.heap.size, big := true, row := .agg #[.bool sA1, .slice AA1 kA1 cA1, .slice AA2 kA2 cA2, .bool sA2, .slice AA3 kA3 cA3, .slice AA4 kA4 cA4], st := 1000, src := 0 }, { al := none, g := w.heap.size + 1, big := true, row := .agg #[.bool false, .slice none 0 0, .slice none 0 0, .bool false, .slice none 0 0, .slice none 0 0], st := 3, src := 2 }, { al := none, g := gX, big := false, row := .agg #[.bool sX, .slice AX1 kX1 cX1, .slice AX2 kX2 cX2], st := 1000, src := 0 }, { al := none, g := gY, big := false, row := .agg #[.bool sY, .slice AY1 kY1 cY1, .slice AY2 kY2 cY2], st := 1000, src := 0 }] [(.agg #[.bool sA1, .slice AA1 kA1 cA1, .slice AA2 kA2 cA2, .bool sA2, .slice AA3 kA3 cA3, .slice AA4 kA4 cA4], .span (rmin (p) (q)) (rmax (p) (q))), (.agg #[.bool sX, .slice AX1 kX1 cX1, .slice AX2 kX2 cX2], .num ((rmin (p) (q)) ^ n)), (.agg #[.bool sY, .slice AY1 kY1 cY1, .slice AY2 kY2 cY2], .num ((rmax (p) (q)) ^ n))] w3 := At0.of hG3 ⟨fun _ => ⟨by dsimp only; omega, NbV.ofS hA3⟩, fun _ => ⟨by dsimp only; omega, NbV.ofS hT3⟩, fun _ => ⟨by dsimp only; omega, NbV.of hX3⟩, fun _ => ⟨by dsimp only; omega, NbV.of hY3⟩, trivial⟩ (by (simp [Apart0] <;> omega)) ⟨nA3, nX3, nY3, trivial⟩
  clear hG3 hA3 hT3 hX3 hY3 nA3 nX3 nY3
  refine text_cells (F := ?F14) w ([.num ((rmin (p) (q)) ^ n), .num ((rmax (p) (q)) ^ n), .span ((rmin (p) (q)) ^ n) ((rmax (p) (q)) ^ n), .any] : List Vs) _ _ (by kernel_rfl) hAt3 ?hF14 ?st14 ?en14
  case hF14 =>
   intro vals
   simp only [Ja.fillL, Act.put, List.setIfInBounds_toArray, List.set_cons_zero, List.set_cons_succ, Nat.reduceAdd]
   exact rfl
  case st14 =>
   clear hAt3
   intro hctx
   refine JC.o hctx ?_ ?_
   ·intro L vals W hL hJ hd K hK
    obtain ⟨z0, z1, z2⟩ := (NbV.out (hJ.still 2 rfl rfl (Nat.le_of_ble_eq_true (by kernel_rfl)))).cells
    go_simp
    exact hK.out (.agg #[.bool sX, .slice AX1 kX1 cX1, .slice AX2 kX2 cX2]) _ _ (by kernel_rfl) (hJ.kept 1 rfl) (Q.refl _)
   refine JC.o hctx ?_ ?_
   ·intro L vals W hL hJ hd K hK
    obtain ⟨z0, z1, z2⟩ := (NbV.out (hJ.still 3 rfl rfl (Nat.le_of_ble_eq_true (by kernel_rfl)))).cells
    go_simp
    exact hK.out (.agg #[.bool sY, .slice AY1 kY1 cY1, .slice AY2 kY2 cY2]) _ _ (by kernel_rfl) (hJ.kept 2 rfl) (Q.refl _)
   refine JC.o hctx ?_ ?_
   ·intro L vals W hL hJ hd K hK
    have d0 : Nq W (vals 0) ((rmin (p) (q)) ^ n) := hd 0 (by kernel_rfl)
    have d1 : Nq W (vals 1) ((rmax (p) (q)) ^ n) := hd 1 (by kernel_rfl)
    generalize vals 0 = u0 at d0 hK ⊢
    generalize vals 1 = u1 at d1 hK ⊢
    obtain ⟨e1, C1, i1, j1, C2, i2, j2, rfl, -⟩ := Nq.form d0
    obtain ⟨e2, C3, i3, j3, C4, i4, j4, rfl, -⟩ := Nq.form d1
    go_simp
    exact hK.out (.agg #[.bool e1, .slice C1 i1 j1, .slice C2 i2 j2, .bool e2, .slice C3 i3 j3, .slice C4 i4 j4]) _ _ (by kernel_rfl) ⟨_, _, _, _, _, _, _, _, _, _, _, _, _, _, rfl, d0, d1⟩ (Q.refl _)
   refine Ja.Steps.cons (JC.store (n := 1) hctx (by kernel_rfl) (by rfl) (by kernel_rfl) (by rfl) (by rfl) (by kernel_rfl) (by rfl) ?_) ?_
   ·intro L vals W g old hJ hp ho hs K hK
    have hs9 : Ns W (vals 2) ((rmin (p) (q)) ^ n) ((rmax (p) (q)) ^ n) := hs
    dsimp only at hK
    obtain rfl : w.heap.size + 1 = g := by injection hp with hp; injection hp with hp; injection hp with hp
    generalize vals 2 = uj at hs9 hK ⊢
    obtain ⟨e1, C1, i1, j1, C2, i2, j2, e2, C3, i3, j3, C4, i4, j4, rfl, -, -⟩ := hs9
    obtain ⟨f1, D1, x1, y1, D2, x2, y2, f2, D3, x3, y3, D4, x4, y4, ho1, hb⟩ := ho
    have fz := hb.frozen
    obtain ⟨r0, r1, r2, r3, r4, r5⟩ := hb.cells
    clear hb ho1 hp
    go_simp
    exact hK.out undef _ _ (by kernel_rfl) PutV.ofS
   exact Ja.Steps.nil
  intro L vals w4 hall hJ
  clear hAt3
  have hG4 := hJ.q
  have hA4 : Sp w4 (w.heap.size) (sA1) (.slice AA1 kA1 cA1) (.slice AA2 kA2 cA2) (sA2) (.slice AA3 kA3 cA3) (.slice AA4 kA4 cA4) := NbV.outS (hJ.still 0 rfl rfl (Nat.le_of_ble_eq_true (by kernel_rfl)))
  have nA4 : Ns w4 (.agg #[.bool sA1, .slice AA1 kA1 cA1, .slice AA2 kA2 cA2, .bool sA2, .slice AA3 kA3 cA3, .slice AA4 kA4 cA4]) (rmin (p) (q)) (rmax (p) (q)) := hJ.kept 0 rfl
  have qT : NbV w4 (w.heap.size + 1) true (vals 2) := hJ.stored 1 rfl rfl (hall 3 (by decide))
  have nT4 : Ns w4 (vals 2) ((rmin (p) (q)) ^ n) ((rmax (p) (q)) ^ n) := hJ.s 2 (hall 2 (by decide))
  obtain ⟨sT1, AT1, kT1, cT1, AT2, kT2, cT2, sT2, AT3, kT3, cT3, AT4, kT4, cT4, yT, hT4⟩ := qT
  change Sp w4 (w.heap.size + 1) (sT1) (.slice AT1 kT1 cT1) (.slice AT2 kT2 cT2) (sT2) (.slice AT3 kT3 cT3) (.slice AT4 kT4 cT4) at hT4
  try dsimp only at yT
  rw [yT] at nT4
  clear yT
  have hX4 : Nb w4 (gX) (sX) (.slice AX1 kX1 cX1) (.slice AX2 kX2 cX2) := NbV.out (hJ.still 2 rfl rfl (Nat.le_of_ble_eq_true (by kernel_rfl)))
  have nX4 : Nq w4 (.agg #[.bool sX, .slice AX1 kX1 cX1, .slice AX2 kX2 cX2]) ((rmin (p) (q)) ^ n) := hJ.kept 1 rfl
  have hY4 : Nb w4 (gY) (sY) (.slice AY1 kY1 cY1) (.slice AY2 kY2 cY2) := NbV.out (hJ.still 3 rfl rfl (Nat.le_of_ble_eq_true (by kernel_rfl)))
  have nY4 : Nq w4 (.agg #[.bool sY, .slice AY1 kY1 cY1, .slice AY2 kY2 cY2]) ((rmax (p) (q)) ^ n) := hJ.kept 2 rfl
  clear hall hJ
  go_wp2_with fail
  have hps := pow_span1 (n := n) HLE.out (Or.inr (Or.inr (Rat.not_lt.1 H2.out)))
  rw [hps.1, hps.2] at nT4
  obtain ⟨z0, z1, z2, z3, z4, z5⟩ := hT4.cells
  refine bodyPost_ret (v := .agg #[.bool sT1, .slice AT1 kT1 cT1, .slice AT2 kT2 cT2, .bool sT2, .slice AT3 kT3 cT3, .slice AT4 kT4 cT4]) (by simp [results, Tryz.results79, go_sem, z0, z1, z2, z3, z4, z5]) rfl ?_
  exact ⟨_, rfl, nT4, hG4⟩
end Go.Proofs.YtgokbhikgdhmpaaGreatDoor
