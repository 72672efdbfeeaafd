/- ValueKnown (examples): the law holds. No condition.. Part of the proof: texts Jd5. -/
import Derived.Test.YtgokbhikgdhmpaaGreatDoorQk22
import Derived.Test.YtgokbhikgdhmpaaGreatDoorQk23
namespace Go.Proofs.YtgokbhikgdhmpaaGreatDoor
open Go.RowKit
open Ma Me
theorem sz_pmin (a b c d : Rat) : sz (pmin a b c d) ≤ 2 * (sz a + sz b + sz c + sz d) := by
 have h1 := sz_mul a c; have h2 := sz_mul a d; have h3 := sz_mul b c; have h4 := sz_mul b d
 rcases pmin_or a b c d with h | h | h | h <;> rw [h] <;> omega
theorem sz_pmax (a b c d : Rat) : sz (pmax a b c d) ≤ 2 * (sz a + sz b + sz c + sz d) := by
 have h1 := sz_mul a c; have h2 := sz_mul a d; have h3 := sz_mul b c; have h4 := sz_mul b d
 rcases pmax_or a b c d with h | h | h | h <;> rw [h] <;> omega
set_option maxRecDepth 100000 in
set_option maxHeartbeats 4000000 in
theorem q_product_pos (a b : Value) (p q pb qb : Rat) (w : World) (hT9 : Tb w) (ha : Ns w a p q) (hb : Ns w b pb qb) (h0 : 0 ≤ p) (h1 : p ≤ q) (h2 : pb ≤ qb) (hB : sz p + sz q + sz pb + sz qb ≤ 100000000) : Calls Tryz.prog 155 #[a, b] w fun e w' => ∃ r, e = .returned r ∧ Ns w' r (pmin p q pb qb) (pmax p q pb qb) ∧ Q w w' := by
 have h1y := ha
 obtain ⟨s11, A11, n11, c11, A12, n12, c12, s12, A13, n13, c13, A14, n14, c14, rfl, lo1, hi1⟩ := ha
 have n1y : Ns w (.agg #[.bool s11, .slice A11 n11 c11, .slice A12 n12 c12, .bool s12, .slice A13 n13 c13, .slice A14 n14 c14]) p q := h1y
 have h2y := hb
 obtain ⟨s21, A21, n21, c21, A22, n22, c22, s22, A23, n23, c23, A24, n24, c24, rfl, lo2, hi2⟩ := hb
 have n2y : Ns w (.agg #[.bool s21, .slice A21 n21 c21, .slice A22 n22 c22, .bool s22, .slice A23 n23 c23, .slice A24 n24 c24]) pb qb := h2y
 obtain ⟨w0, hW, hG0, hA0, hB0, hT0⟩ := boxS2r w s11 (.slice A11 n11 c11) (.slice A12 n12 c12) s12 (.slice A13 n13 c13) (.slice A14 n14 c14) s21 (.slice A21 n21 c21) (.slice A22 n22 c22) s22 (.slice A23 n23 c23) (.slice A24 n24 c24)
 have Z1 : Hid (sz p ≤ 100000000) := Lib.hid (by omega)
 have Z2 : Hid (sz q ≤ 100000000) := Lib.hid (by omega)
 have Z3 : Hid (sz pb ≤ 100000000) := Lib.hid (by omega)
 have Z4 : Hid (sz qb ≤ 100000000) := Lib.hid (by omega)
 have ZS := Lib.hid hB
 clear hB
 have nA0 := n1y.q hG0; have nB0 := n2y.q hG0
 clear h1y h2y n1y n2y lo1 hi1 lo2 hi2
 go_enter Tryz.func155, Tryz.ntmps155
 go_upto_region 1 with fail
 clear hW
 have hsa := (NsLo nA0).sign; have hsb := (NsHi nA0).sign; have hsc := (NsLo nB0).sign; have hsd := (NsHi nB0).sign
 have HSA := Lib.hid hsa; clear hsa
 have HSB := Lib.hid hsb; clear hsb
 have HSC := Lib.hid hsc; clear hsc
 have HSD := Lib.hid hsd; clear hsd
 have hp0 : Hid (¬ p < 0) := Lib.hid (Rat.not_lt.2 h0)
 have hq0 : Hid (¬ q < 0) := Lib.hid (Rat.not_lt.2 (Rat.le_trans h0 h1))
 have H0 := Lib.hid h0; have H1 := Lib.hid h1; have H2 := Lib.hid h2; clear h0 h1 h2
 refine text_each (F := ?F2) ([.eq (.pointer (some ⟨w.heap.size, 0, none⟩)), .eq (.pointer (some ⟨w.heap.size, 0, none⟩)), .eq (.bool false), .eq (.bool false), .any, .any, .any, .any, .eq (.bool false), .eq (.bool false), .any, .any, .any, .eq (.bool false), .eq (.bool false), .any, .any, .any, .any, .eq (.bool false), .eq (.bool false)] : List Vs) (by kernel_rfl) ?hF2 ?st2 ?en2
 case hF2 =>
  intro vals
  simp only [Ja.fillL, Act.put, List.setIfInBounds_toArray, List.set_cons_zero, List.set_cons_succ, Nat.reduceAdd]
  exact rfl
 case st2 =>
  intro hctx
  refine Each.y hctx ?_ ?_
  ·intro vals W hM hd K hK
   go_simp
   exact hK.out (.pointer (some ⟨w.heap.size, 0, none⟩)) _ _ (by kernel_rfl) rfl (Q.refl _)
  refine Each.y hctx ?_ ?_
  ·intro vals W hM hd K hK
   have d0 : vals 0 = .pointer (some ⟨w.heap.size, 0, none⟩) := hd 0 (by kernel_rfl)
   generalize vals 0 = u0 at d0 hK ⊢
   subst d0
   go_simp
   exact hK.out (.pointer (some ⟨w.heap.size, 0, none⟩)) _ _ (by kernel_rfl) rfl (Q.refl _)
  refine Each.y hctx ?_ ?_
  ·intro vals W hM hd K hK
   have hN : Q w0 W := hM
   have d1 : vals 1 = .pointer (some ⟨w.heap.size, 0, none⟩) := hd 1 (by kernel_rfl)
   generalize vals 1 = u1 at d1 hK ⊢
   subst d1
   obtain ⟨z0, z1, z2, z3, z4, z5⟩ := (hA0.q hN).cells
   go_simp
   exact hK.out (.bool s11) _ _ (by kernel_rfl) (congrArg Value.bool ((HSA.out.trans (decide_eq_false (hp0.out))))) (Q.refl _)
  refine Each.y hctx ?_ ?_
  ·intro vals W hM hd K hK
   have d2 : vals 2 = .bool false := hd 2 (by kernel_rfl)
   generalize vals 2 = u2 at d2 hK ⊢
   subst d2
   go_simp
   exact hK.out (.bool false) _ _ (by kernel_rfl) rfl (Q.refl _)
  refine Each.n hctx ?_
  refine Each.n hctx ?_
  refine Each.n hctx ?_
  refine Each.n hctx ?_
  refine Each.y hctx ?_ ?_
  ·intro vals W hM hd K hK
   have d3 : vals 3 = .bool false := hd 3 (by kernel_rfl)
   generalize vals 3 = u3 at d3 hK ⊢
   subst d3
   go_simp
   exact hK.out (.bool false) _ _ (by kernel_rfl) rfl (Q.refl _)
  refine Each.y hctx ?_ ?_
  ·intro vals W hM hd K hK
   have d8 : vals 8 = .bool false := hd 8 (by kernel_rfl)
   generalize vals 8 = u8 at d8 hK ⊢
   subst d8
   go_simp
   exact hK.out (.bool false) _ _ (by kernel_rfl) rfl (Q.refl _)
  refine Each.n hctx ?_
  refine Each.n hctx ?_
  refine Each.n hctx ?_
  refine Each.y hctx ?_ ?_
  ·intro vals W hM hd K hK
   have d9 : vals 9 = .bool false := hd 9 (by kernel_rfl)
   generalize vals 9 = u9 at d9 hK ⊢
   subst d9
   go_simp
   exact hK.out (.bool false) _ _ (by kernel_rfl) rfl (Q.refl _)
  refine Each.y hctx ?_ ?_
  ·intro vals W hM hd K hK
   have d13 : vals 13 = .bool false := hd 13 (by kernel_rfl)
   generalize vals 13 = u13 at d13 hK ⊢
   subst d13
   go_simp
   exact hK.out (.bool false) _ _ (by kernel_rfl) rfl (Q.refl _)
  refine Each.n hctx ?_
  refine Each.n hctx ?_
  refine Each.n hctx ?_
  refine Each.n hctx ?_
  refine Each.y hctx ?_ ?_
  ·intro vals W hM hd K hK
   have d14 : vals 14 = .bool false := hd 14 (by kernel_rfl)
   generalize vals 14 = u14 at d14 hK ⊢
   subst d14
   go_simp
   exact hK.out (.bool false) _ _ (by kernel_rfl) rfl (Q.refl _)
  refine Each.y hctx ?_ ?_
  ·intro vals W hM hd K hK
   have d19 : vals 19 = .bool false := hd 19 (by kernel_rfl)
   generalize vals 19 = u19 at d19 hK ⊢
   subst d19
   go_simp
   exact hK.out (.bool false) _ _ (by kernel_rfl) rfl (Q.refl _)
  exact Ja.Steps.nil
 intro vals w1 hq1 hall
 have hG1 := hG0.trans hq1
 have hA1 := hA0.q hq1
 have nA1 := nA0.q hq1
 have hB1 := hB0.q hq1
 have nB1 := nB0.q hq1
 have hT1 := hT0.q hq1
 have f7 : vals 20 = .bool false := hall 20 (by decide)
 rw [f7]
 clear hall hq1 hG0 hA0 hB0 hT0 nA0 nB0
 go_upto_region 3 with fail
 refine text_each (F := ?F3) ([.eq (.pointer (some ⟨w.heap.size, 3, none⟩)), .eq (.pointer (some ⟨w.heap.size, 3, none⟩)), .eq (.bool false), .eq (.bool false)] : List Vs) (by kernel_rfl) ?hF3 ?st3 ?en3
 case hF3 =>
  intro vals
  simp only [Ja.fillL, Act.put, List.setIfInBounds_toArray, List.set_cons_zero, List.set_cons_succ, Nat.reduceAdd]
  exact rfl
 case st3 =>
  intro hctx
  refine Each.y hctx ?_ ?_
  ·intro vals W hM hd K hK
   go_simp
   exact hK.out (.pointer (some ⟨w.heap.size, 3, none⟩)) _ _ (by kernel_rfl) rfl (Q.refl _)
  refine Each.y hctx ?_ ?_
  ·intro vals W hM hd K hK
   have d0 : vals 0 = .pointer (some ⟨w.heap.size, 3, none⟩) := hd 0 (by kernel_rfl)
   generalize vals 0 = u0 at d0 hK ⊢
   subst d0
   go_simp
   exact hK.out (.pointer (some ⟨w.heap.size, 3, none⟩)) _ _ (by kernel_rfl) rfl (Q.refl _)
  refine Each.y hctx ?_ ?_
  ·intro vals W hM hd K hK
   have hN : Q w1 W := hM
   have d1 : vals 1 = .pointer (some ⟨w.heap.size, 3, none⟩) := hd 1 (by kernel_rfl)
   generalize vals 1 = u1 at d1 hK ⊢
   subst d1
   obtain ⟨z0, z1, z2, z3, z4, z5⟩ := (hA1.q hN).cells
   go_simp
   exact hK.out (.bool s12) _ _ (by kernel_rfl) (congrArg Value.bool ((HSB.out.trans (decide_eq_false (hq0.out))))) (Q.refl _)
  refine Each.y hctx ?_ ?_
  ·intro vals W hM hd K hK
   have d2 : vals 2 = .bool false := hd 2 (by kernel_rfl)
   generalize vals 2 = u2 at d2 hK ⊢
   subst d2
   go_simp
   exact hK.out (.bool false) _ _ (by kernel_rfl) rfl (Q.refl _)
  exact Ja.Steps.nil
 intro vals w2 hq2 hall
 have hG2 := hG1.trans hq2
 have hA2 := hA1.q hq2
 have nA2 := nA1.q hq2
 have hB2 := hB1.q hq2
 have nB2 := nB1.q hq2
 have hT2 := hT1.q hq2
 have f51 : vals 3 = .bool false := hall 3 (by decide)
 rw [f51]
 clear hall hq2 hG1 hA1 hB1 hT1 nA1 nB1
 go_upto_region 5 with fail
 refine text_each (F := ?F4) ([.eq (.pointer (some ⟨w.heap.size, 0, none⟩)), .eq (.pointer (some ⟨w.heap.size, 0, none⟩)), .eq (.bool false), .eq (.bool false)] : List Vs) (by kernel_rfl) ?hF4 ?st4 ?en4
 case hF4 =>
  intro vals
  simp only [Ja.fillL, Act.put, List.setIfInBounds_toArray, List.set_cons_zero, List.set_cons_succ, Nat.reduceAdd]
  exact rfl
 case st4 =>
  intro hctx
  refine Each.y hctx ?_ ?_
  ·intro vals W hM hd K hK
   go_simp
   exact hK.out (.pointer (some ⟨w.heap.size, 0, none⟩)) _ _ (by kernel_rfl) rfl (Q.refl _)
  refine Each.y hctx ?_ ?_
  ·intro vals W hM hd K hK
   have d0 : vals 0 = .pointer (some ⟨w.heap.size, 0, none⟩) := hd 0 (by kernel_rfl)
   generalize vals 0 = u0 at d0 hK ⊢
   subst d0
   go_simp
   exact hK.out (.pointer (some ⟨w.heap.size, 0, none⟩)) _ _ (by kernel_rfl) rfl (Q.refl _)
  refine Each.y hctx ?_ ?_
  ·intro vals W hM hd K hK
   have hN : Q w2 W := hM
   have d1 : vals 1 = .pointer (some ⟨w.heap.size, 0, none⟩) := hd 1 (by kernel_rfl)
   generalize vals 1 = u1 at d1 hK ⊢
   subst d1
   obtain ⟨z0, z1, z2, z3, z4, z5⟩ := (hA2.q hN).cells
   go_simp
   exact hK.out (.bool s11) _ _ (by kernel_rfl) (congrArg Value.bool ((HSA.out.trans (decide_eq_false (hp0.out))))) (Q.refl _)
  refine Each.y hctx ?_ ?_
  ·intro vals W hM hd K hK
   have d2 : vals 2 = .bool false := hd 2 (by kernel_rfl)
   generalize vals 2 = u2 at d2 hK ⊢
   subst d2
   go_simp
   exact hK.out (.bool false) _ _ (by kernel_rfl) rfl (Q.refl _)
  exact Ja.Steps.nil
 intro vals w3 hq3 hall
 have hG3 := hG2.trans hq3
 have hA3 := hA2.q hq3
 have nA3 := nA2.q hq3
 have hB3 := hB2.q hq3
 have nB3 := nB2.q hq3
 have hT3 := hT2.q hq3
 have f60 : vals 3 = .bool false := hall 3 (by decide)
 rw [f60]
 clear hall hq3 hG2 hA2 hB2 hT2 nA2 nB2
 go_upto_region 7 with fail
 have hAt3 : At0 w [{ al := none, g := w.heap.size, big := true, row := .agg #[.bool s11, .slice A11 n11 c11, .slice A12 n12 c12, .bool s12, .slice A13 n13 c13, .slice A14 n14 c14], st := 1000, src := 0 }, { al := none, g := w.heap.size + 1, big := true, row := .agg #[.bool s21, .slice A21 n21 c21, .slice A22 n22 c22, .bool s22, .slice A23 n23 c23, .slice A24 n24 c24], st := 1000, src := 0 }, { al := none, g := w.heap.size + 1 + 1, big := true, row := .agg #[.bool false, .slice none 0 0, .slice none 0 0, .bool false, .slice none 0 0, .slice none 0 0], st := 1000, src := 0 }, { al := some 4, g := 0, big := false, row := .agg #[.bool false, .slice none 0 0, .slice none 0 0], st := 6, src := 1 }, { al := some 5, g := 0, big := false, row := .agg #[.bool false, .slice none 0 0, .slice none 0 0], st := 7, src := 3 }] [(.agg #[.bool s11, .slice A11 n11 c11, .slice A12 n12 c12, .bool s12, .slice A13 n13 c13, .slice A14 n14 c14], .span (p) (q)), (.agg #[.bool s21, .slice A21 n21 c21, .slice A22 n22 c22, .bool s22, .slice A23 n23 c23, .slice A24 n24 c24], .span (pb) (qb))] w3 := At0.of hG3 ⟨fun _ => ⟨by dsimp only; omega, NbV.ofS hA3⟩, fun _ => ⟨by dsimp only; omega, NbV.ofS hB3⟩, fun _ => ⟨by dsimp only; omega, NbV.ofS hT3⟩, fun h => (by cases h), fun h => (by cases h), trivial⟩ (by (simp [Apart0] <;> omega)) ⟨nA3, nB3, trivial⟩
 clear hG3 hA3 hB3 hT3 nA3 nB3
 refine region_cells (F := ?F5) w ([.eq (.pointer (some ⟨w.heap.size, 0, none⟩)), .num (p), .eq (.pointer (some ⟨w.heap.size, 3, none⟩)), .num (q), .any, .any, .any, .any] : List Vs) _ _ (by kernel_rfl) (by kernel_rfl) hAt3 ?hF5 ?st5 ?en5
 case hF5 =>
  intro vals
  simp only [Ja.fillL, Act.put, List.setIfInBounds_toArray, List.set_cons_zero, List.set_cons_succ, Nat.reduceAdd]
  exact rfl
 case st5 =>
  clear hAt3
  intro hctx
  refine JC.o hctx ?_ ?_
  ·intro L vals W hL hJ hd K hK
   go_simp
   exact hK.out (.pointer (some ⟨w.heap.size, 0, none⟩)) _ _ (by kernel_rfl) rfl (Q.refl _)
  refine JC.o hctx ?_ ?_
  ·intro L vals W hL hJ hd K hK
   have d0 : vals 0 = .pointer (some ⟨w.heap.size, 0, none⟩) := hd 0 (by kernel_rfl)
   generalize vals 0 = u0 at d0 hK ⊢
   subst d0
   obtain ⟨z0, z1, z2, z3, z4, z5⟩ := (NbV.outS (hJ.still 0 rfl rfl (Nat.le_of_ble_eq_true (by kernel_rfl)))).cells
   go_simp
   exact hK.out (.agg #[.bool s11, .slice A11 n11 c11, .slice A12 n12 c12]) _ _ (by kernel_rfl) ((NsLo (hJ.kept 0 rfl))) (Q.refl _)
  refine JC.o hctx ?_ ?_
  ·intro L vals W hL hJ hd K hK
   go_simp
   exact hK.out (.pointer (some ⟨w.heap.size, 3, none⟩)) _ _ (by kernel_rfl) rfl (Q.refl _)
  refine JC.o hctx ?_ ?_
  ·intro L vals W hL hJ hd K hK
   have d2 : vals 2 = .pointer (some ⟨w.heap.size, 3, none⟩) := hd 2 (by kernel_rfl)
   generalize vals 2 = u2 at d2 hK ⊢
   subst d2
   obtain ⟨z0, z1, z2, z3, z4, z5⟩ := (NbV.outS (hJ.still 0 rfl rfl (Nat.le_of_ble_eq_true (by kernel_rfl)))).cells
   go_simp
   exact hK.out (.agg #[.bool s12, .slice A13 n13 c13, .slice A14 n14 c14]) _ _ (by kernel_rfl) ((NsHi (hJ.kept 0 rfl))) (Q.refl _)
  refine Ja.Steps.cons (JC.alloc (n := 3) (cells := #[.bool false, .slice none 0 0, .slice none 0 0]) (t := 25) hctx (by kernel_rfl) (by rfl) (by kernel_rfl) (by rfl) (by rfl) (by kernel_rfl) (by rfl) (fun W => NbV.of (Nb.new W _ _ _)) ?_) ?_
  ·intro vals W K hK
   go_simp
   exact hK.out _ (by kernel_rfl)
  refine Ja.Steps.cons (JC.alloc (n := 4) (cells := #[.bool false, .slice none 0 0, .slice none 0 0]) (t := 25) hctx (by kernel_rfl) (by rfl) (by kernel_rfl) (by rfl) (by rfl) (by kernel_rfl) (by rfl) (fun W => NbV.of (Nb.new W _ _ _)) ?_) ?_
  ·intro vals W K hK
   go_simp
   exact hK.out _ (by kernel_rfl)
  refine Ja.Steps.cons (JC.store (n := 3) hctx (by kernel_rfl) (by rfl) (by kernel_rfl) (by rfl) (by rfl) (by kernel_rfl) (by rfl) ?_) ?_
  ·intro L vals W g old hJ hp ho hs K hK
   have hs9 : Nq W (vals 1) (p) := hs
   have hp9 : vals 4 = .pointer (some ⟨g, 0, none⟩) := hp
   dsimp only at hK
   generalize vals 4 = ua at hp9 hK ⊢
   subst hp9
   generalize vals 1 = uj at hs9 hK ⊢
   obtain ⟨e1, C1, i1, j1, C2, i2, j2, rfl, -⟩ := Nq.form hs9
   obtain ⟨f1, D1, x1, y1, D2, x2, y2, ho1, hb⟩ := ho
   have fz := hb.frozen
   obtain ⟨r0, r1, r2⟩ := hb.cells
   clear hb ho1
   go_simp
   exact hK.out undef _ _ (by kernel_rfl) PutV.of
  refine Ja.Steps.cons (JC.store (n := 4) hctx (by kernel_rfl) (by rfl) (by kernel_rfl) (by rfl) (by rfl) (by kernel_rfl) (by rfl) ?_) ?_
  ·intro L vals W g old hJ hp ho hs K hK
   have hs9 : Nq W (vals 3) (q) := hs
   have hp9 : vals 5 = .pointer (some ⟨g, 0, none⟩) := hp
   dsimp only at hK
   generalize vals 5 = ua at hp9 hK ⊢
   subst hp9
   generalize vals 3 = uj at hs9 hK ⊢
   obtain ⟨e1, C1, i1, j1, C2, i2, j2, rfl, -⟩ := Nq.form hs9
   obtain ⟨f1, D1, x1, y1, D2, x2, y2, ho1, hb⟩ := ho
   have fz := hb.frozen
   obtain ⟨r0, r1, r2⟩ := hb.cells
   clear hb ho1
   go_simp
   exact hK.out undef _ _ (by kernel_rfl) PutV.of
  exact Ja.Steps.nil
 intro L vals w4 hall hJ
 clear hAt3
 have hG4 := hJ.q
 have hA4 : Sp w4 (w.heap.size) (s11) (.slice A11 n11 c11) (.slice A12 n12 c12) (s12) (.slice A13 n13 c13) (.slice A14 n14 c14) := NbV.outS (hJ.still 0 rfl rfl (Nat.le_of_ble_eq_true (by kernel_rfl)))
 have nA4 : Ns w4 (.agg #[.bool s11, .slice A11 n11 c11, .slice A12 n12 c12, .bool s12, .slice A13 n13 c13, .slice A14 n14 c14]) (p) (q) := hJ.kept 0 rfl
 have hB4 : Sp w4 (w.heap.size + 1) (s21) (.slice A21 n21 c21) (.slice A22 n22 c22) (s22) (.slice A23 n23 c23) (.slice A24 n24 c24) := NbV.outS (hJ.still 1 rfl rfl (Nat.le_of_ble_eq_true (by kernel_rfl)))
 have nB4 : Ns w4 (.agg #[.bool s21, .slice A21 n21 c21, .slice A22 n22 c22, .bool s22, .slice A23 n23 c23, .slice A24 n24 c24]) (pb) (qb) := hJ.kept 1 rfl
 have hT4 : Sp w4 (w.heap.size + 1 + 1) (false) (.slice none 0 0) (.slice none 0 0) (false) (.slice none 0 0) (.slice none 0 0) := NbV.outS (hJ.still 2 rfl rfl (Nat.le_of_ble_eq_true (by kernel_rfl)))
 obtain ⟨gX, eX, geX, qX⟩ := hJ.fresh 3 rfl rfl (hall 4 (by decide)) (hall 6 (by decide))
 have nX4 : Nq w4 (vals 1) (p) := hJ.s 1 (hall 1 (by decide))
 obtain ⟨sX, AX1, kX1, cX1, AX2, kX2, cX2, yX, hX4⟩ := qX
 change Nb w4 (gX) (sX) (.slice AX1 kX1 cX1) (.slice AX2 kX2 cX2) at hX4
 try dsimp only at yX
 rw [yX] at nX4
 clear yX
 obtain ⟨gY, eY, geY, qY⟩ := hJ.fresh 4 rfl rfl (hall 5 (by decide)) (hall 7 (by decide))
 have nY4 : Nq w4 (vals 3) (q) := hJ.s 3 (hall 3 (by decide))
 obtain ⟨sY, AY1, kY1, cY1, AY2, kY2, cY2, yY, hY4⟩ := qY
 change Nb w4 (gY) (sY) (.slice AY1 kY1 cY1) (.slice AY2 kY2 cY2) at hY4
 try dsimp only at yY
 rw [yY] at nY4
 clear yY
 have neXA : gX ≠ w.heap.size := hJ.ne 3 0 (by decide) rfl rfl (hall 4 (by decide)) rfl eX rfl
 have neXB : gX ≠ w.heap.size + 1 := hJ.ne 3 1 (by decide) rfl rfl (hall 4 (by decide)) rfl eX rfl
 have neXT : gX ≠ w.heap.size + 1 + 1 := hJ.ne 3 2 (by decide) rfl rfl (hall 4 (by decide)) rfl eX rfl
 have neYA : gY ≠ w.heap.size := hJ.ne 4 0 (by decide) rfl rfl (hall 5 (by decide)) rfl eY rfl
 have neYB : gY ≠ w.heap.size + 1 := hJ.ne 4 1 (by decide) rfl rfl (hall 5 (by decide)) rfl eY rfl
 have neYT : gY ≠ w.heap.size + 1 + 1 := hJ.ne 4 2 (by decide) rfl rfl (hall 5 (by decide)) rfl eY rfl
 have neYX : gY ≠ gX := hJ.ne 4 3 (by decide) rfl rfl (hall 5 (by decide)) (hall 4 (by decide)) eY eX
 rw [eX]
 clear eX
 rw [eY]
 clear eY
 clear hall hJ
 go_upto_region 8 with fail
 by_cases h3 : pb < 0
 ·have H3 := Lib.hid h3; clear h3
  refine text_each (F := ?F6) ([.eq (.pointer (some ⟨w.heap.size + 1, 0, none⟩)), .eq (.pointer (some ⟨w.heap.size + 1, 0, none⟩)), .eq (.bool true)] : List Vs) (by kernel_rfl) ?hF6 ?st6 ?en6
  case hF6 =>
   intro vals
   simp only [Ja.fillL, Act.put, List.setIfInBounds_toArray, List.set_cons_zero, List.set_cons_succ, Nat.reduceAdd]
   exact rfl
  case st6 =>
   intro hctx
   refine Each.y hctx ?_ ?_
   ·intro vals W hM hd K hK
    go_simp
    exact hK.out (.pointer (some ⟨w.heap.size + 1, 0, none⟩)) _ _ (by kernel_rfl) rfl (Q.refl _)
   refine Each.y hctx ?_ ?_
   ·intro vals W hM hd K hK
    have d0 : vals 0 = .pointer (some ⟨w.heap.size + 1, 0, none⟩) := hd 0 (by kernel_rfl)
    generalize vals 0 = u0 at d0 hK ⊢
    subst d0
    go_simp
    exact hK.out (.pointer (some ⟨w.heap.size + 1, 0, none⟩)) _ _ (by kernel_rfl) rfl (Q.refl _)
   refine Each.y hctx ?_ ?_
   ·intro vals W hM hd K hK
    have hN : Q w4 W := hM
    have d1 : vals 1 = .pointer (some ⟨w.heap.size + 1, 0, none⟩) := hd 1 (by kernel_rfl)
    generalize vals 1 = u1 at d1 hK ⊢
    subst d1
    obtain ⟨z0, z1, z2, z3, z4, z5⟩ := (hB4.q hN).cells
    go_simp
    exact hK.out (.bool s21) _ _ (by kernel_rfl) (congrArg Value.bool ((HSC.out.trans (decide_eq_true (H3.out))))) (Q.refl _)
   exact Ja.Steps.nil
  intro vals w5 hq5 hall
  have hG5 := hG4.trans hq5
  have hA5 := hA4.q hq5
  have nA5 := nA4.q hq5
  have hB5 := hB4.q hq5
  have nB5 := nB4.q hq5
  have hT5 := hT4.q hq5
  have hX5 := hX4.q hq5
  have nX5 := nX4.q hq5
  have hY5 := hY4.q hq5
  have nY5 := nY4.q hq5
  have f73 : vals 2 = .bool true := hall 2 (by decide)
  rw [f73]
  clear hall hq5 hG4 hA4 hB4 hT4 hX4 hY4 nA4 nB4 nX4 nY4
  go_upto_region 9 with fail
  have hAt5 : At0 w [{ al := none, g := w.heap.size, big := true, row := .agg #[.bool s11, .slice A11 n11 c11, .slice A12 n12 c12, .bool s12, .slice A13 n13 c13, .slice A14 n14 c14], st := 1000, src := 0 }, { al := none, g := w.heap.size + 1, big := true, row := .agg #[.bool s21, .slice A21 n21 c21, .slice A22 n22 c22, .bool s22, .slice A23 n23 c23, .slice A24 n24 c24], st := 1000, src := 0 }, { al := none, g := w.heap.size + 1 + 1, big := true, row := .agg #[.bool false, .slice none 0 0, .slice none 0 0, .bool false, .slice none 0 0, .slice none 0 0], st := 1000, src := 0 }, { al := none, g := gX, big := false, row := .agg #[.bool sX, .slice AX1 kX1 cX1, .slice AX2 kX2 cX2], st := 2, src := 1 }, { al := none, g := gY, big := false, row := .agg #[.bool sY, .slice AY1 kY1 cY1, .slice AY2 kY2 cY2], st := 1000, src := 0 }] [(.agg #[.bool s11, .slice A11 n11 c11, .slice A12 n12 c12, .bool s12, .slice A13 n13 c13, .slice A14 n14 c14], .span (p) (q)), (.agg #[.bool s21, .slice A21 n21 c21, .slice A22 n22 c22, .bool s22, .slice A23 n23 c23, .slice A24 n24 c24], .span (pb) (qb)), (.agg #[.bool sX, .slice AX1 kX1 cX1, .slice AX2 kX2 cX2], .num (p)), (.agg #[.bool sY, .slice AY1 kY1 cY1, .slice AY2 kY2 cY2], .num (q))] w5 := At0.of hG5 ⟨fun _ => ⟨by dsimp only; omega, NbV.ofS hA5⟩, fun _ => ⟨by dsimp only; omega, NbV.ofS hB5⟩, fun _ => ⟨by dsimp only; omega, NbV.ofS hT5⟩, fun _ => ⟨by dsimp only; omega, NbV.of hX5⟩, fun _ => ⟨by dsimp only; omega, NbV.of hY5⟩, trivial⟩ (by (simp [Apart0] <;> omega)) ⟨nA5, nB5, nX5, nY5, trivial⟩
  clear hG5 hA5 hB5 hT5 hX5 hY5 nA5 nB5 nX5 nY5
  refine text_cells (F := ?F7) w ([.eq (.pointer (some ⟨w.heap.size, 3, none⟩)), .num (q), .any] : List Vs) _ _ (by kernel_rfl) hAt5 ?hF7 ?st7 ?en7
  case hF7 =>
   intro vals
   simp only [Ja.fillL, Act.put, List.setIfInBounds_toArray, List.set_cons_zero, List.set_cons_succ, Nat.reduceAdd]
   exact rfl
  case st7 =>
   clear hAt5
   intro hctx
   refine JC.o hctx ?_ ?_
   ·intro L vals W hL hJ hd K hK
    go_simp
    exact hK.out (.pointer (some ⟨w.heap.size, 3, none⟩)) _ _ (by kernel_rfl) rfl (Q.refl _)
   refine JC.o hctx ?_ ?_
   ·intro L vals W hL hJ hd K hK
    have d0 : vals 0 = .pointer (some ⟨w.heap.size, 3, none⟩) := hd 0 (by kernel_rfl)
    generalize vals 0 = u0 at d0 hK ⊢
    subst d0
    obtain ⟨z0, z1, z2, z3, z4, z5⟩ := (NbV.outS (hJ.still 0 rfl rfl (Nat.le_of_ble_eq_true (by kernel_rfl)))).cells
    go_simp
    exact hK.out (.agg #[.bool s12, .slice A13 n13 c13, .slice A14 n14 c14]) _ _ (by kernel_rfl) ((NsHi (hJ.kept 0 rfl))) (Q.refl _)
   refine Ja.Steps.cons (JC.store (n := 3) hctx (by kernel_rfl) (by rfl) (by kernel_rfl) (by rfl) (by rfl) (by kernel_rfl) (by rfl) ?_) ?_
   ·intro L vals W g old hJ hp ho hs K hK
    have hs9 : Nq W (vals 1) (q) := hs
    dsimp only at hK
    obtain rfl : gX = g := by injection hp with hp; injection hp with hp; injection hp with hp
    generalize vals 1 = uj at hs9 hK ⊢
    obtain ⟨e1, C1, i1, j1, C2, i2, j2, rfl, -⟩ := Nq.form hs9
    obtain ⟨f1, D1, x1, y1, D2, x2, y2, ho1, hb⟩ := ho
    have fz := hb.frozen
    obtain ⟨r0, r1, r2⟩ := hb.cells
    clear hb ho1 hp
    go_simp
    exact hK.out undef _ _ (by kernel_rfl) PutV.of
   exact Ja.Steps.nil
  intro L vals w6 hall hJ
  clear hAt5
  have hG6 := hJ.q
  have hA6 : Sp w6 (w.heap.size) (s11) (.slice A11 n11 c11) (.slice A12 n12 c12) (s12) (.slice A13 n13 c13) (.slice A14 n14 c14) := NbV.outS (hJ.still 0 rfl rfl (Nat.le_of_ble_eq_true (by kernel_rfl)))
  have nA6 : Ns w6 (.agg #[.bool s11, .slice A11 n11 c11, .slice A12 n12 c12, .bool s12, .slice A13 n13 c13, .slice A14 n14 c14]) (p) (q) := hJ.kept 0 rfl
  have hB6 : Sp w6 (w.heap.size + 1) (s21) (.slice A21 n21 c21) (.slice A22 n22 c22) (s22) (.slice A23 n23 c23) (.slice A24 n24 c24) := NbV.outS (hJ.still 1 rfl rfl (Nat.le_of_ble_eq_true (by kernel_rfl)))
  have nB6 : Ns w6 (.agg #[.bool s21, .slice A21 n21 c21, .slice A22 n22 c22, .bool s22, .slice A23 n23 c23, .slice A24 n24 c24]) (pb) (qb) := hJ.kept 1 rfl
  have hT6 : Sp w6 (w.heap.size + 1 + 1) (false) (.slice none 0 0) (.slice none 0 0) (false) (.slice none 0 0) (.slice none 0 0) := NbV.outS (hJ.still 2 rfl rfl (Nat.le_of_ble_eq_true (by kernel_rfl)))
  have qX : NbV w6 (gX) false (vals 1) := hJ.stored 3 rfl rfl (hall 2 (by decide))
  have nX6 : Nq w6 (vals 1) (q) := hJ.s 1 (hall 1 (by decide))
  obtain ⟨sX, AX1, kX1, cX1, AX2, kX2, cX2, yX, hX6⟩ := qX
  change Nb w6 (gX) (sX) (.slice AX1 kX1 cX1) (.slice AX2 kX2 cX2) at hX6
  try dsimp only at yX
  rw [yX] at nX6
  clear yX
  have hY6 : Nb w6 (gY) (sY) (.slice AY1 kY1 cY1) (.slice AY2 kY2 cY2) := NbV.out (hJ.still 4 rfl rfl (Nat.le_of_ble_eq_true (by kernel_rfl)))
  have nY6 : Nq w6 (.agg #[.bool sY, .slice AY1 kY1 cY1, .slice AY2 kY2 cY2]) (q) := hJ.kept 3 rfl
  clear hall hJ
  go_upto_region 10 with fail
  by_cases h4 : qb < 0
  ·have H4 := Lib.hid h4; clear h4
   refine text_each (F := ?F8) ([.eq (.pointer (some ⟨w.heap.size + 1, 3, none⟩)), .eq (.pointer (some ⟨w.heap.size + 1, 3, none⟩)), .eq (.bool true)] : List Vs) (by kernel_rfl) ?hF8 ?st8 ?en8
   case hF8 =>
    intro vals
    simp only [Ja.fillL, Act.put, List.setIfInBounds_toArray, List.set_cons_zero, List.set_cons_succ, Nat.reduceAdd]
    exact rfl
   case st8 =>
    intro hctx
    refine Each.y hctx ?_ ?_
    ·intro vals W hM hd K hK
     go_simp
     exact hK.out (.pointer (some ⟨w.heap.size + 1, 3, none⟩)) _ _ (by kernel_rfl) rfl (Q.refl _)
    refine Each.y hctx ?_ ?_
    ·intro vals W hM hd K hK
     have d0 : vals 0 = .pointer (some ⟨w.heap.size + 1, 3, none⟩) := hd 0 (by kernel_rfl)
     generalize vals 0 = u0 at d0 hK ⊢
     subst d0
     go_simp
     exact hK.out (.pointer (some ⟨w.heap.size + 1, 3, none⟩)) _ _ (by kernel_rfl) rfl (Q.refl _)
    refine Each.y hctx ?_ ?_
    ·intro vals W hM hd K hK
     have hN : Q w6 W := hM
     have d1 : vals 1 = .pointer (some ⟨w.heap.size + 1, 3, none⟩) := hd 1 (by kernel_rfl)
     generalize vals 1 = u1 at d1 hK ⊢
     subst d1
     obtain ⟨z0, z1, z2, z3, z4, z5⟩ := (hB6.q hN).cells
     go_simp
     exact hK.out (.bool s22) _ _ (by kernel_rfl) (congrArg Value.bool ((HSD.out.trans (decide_eq_true (H4.out))))) (Q.refl _)
    exact Ja.Steps.nil
   intro vals w7 hq7 hall
   have hG7 := hG6.trans hq7
   have hA7 := hA6.q hq7
   have nA7 := nA6.q hq7
   have hB7 := hB6.q hq7
   have nB7 := nB6.q hq7
   have hT7 := hT6.q hq7
   have hX7 := hX6.q hq7
   have nX7 := nX6.q hq7
   have hY7 := hY6.q hq7
   have nY7 := nY6.q hq7
   have f78 : vals 2 = .bool true := hall 2 (by decide)
   rw [f78]
   clear hall hq7 hG6 hA6 hB6 hT6 hX6 hY6 nA6 nB6 nX6 nY6
   go_upto_region 11 with fail
   have hAt7 : At0 w [{ al := none, g := w.heap.size, big := true, row := .agg #[.bool s11, .slice A11 n11 c11, .slice A12 n12 c12, .bool s12, .slice A13 n13 c13, .slice A14 n14 c14], st := 1000, src := 0 }, { al := none, g := w.heap.size + 1, big := true, row := .agg #[.bool s21, .slice A21 n21 c21, .slice A22 n22 c22, .bool s22, .slice A23 n23 c23, .slice A24 n24 c24], st := 1000, src := 0 }, { al := none, g := w.heap.size + 1 + 1, big := true, row := .agg #[.bool false, .slice none 0 0, .slice none 0 0, .bool false, .slice none 0 0, .slice none 0 0], st := 1000, src := 0 }, { al := none, g := gX, big := false, row := .agg #[.bool sX, .slice AX1 kX1 cX1, .slice AX2 kX2 cX2], st := 1000, src := 0 }, { al := none, g := gY, big := false, row := .agg #[.bool sY, .slice AY1 kY1 cY1, .slice AY2 kY2 cY2], st := 2, src := 1 }] [(.agg #[.bool s11, .slice A11 n11 c11, .slice A12 n12 c12, .bool s12, .slice A13 n13 c13, .slice A14 n14 c14], .span (p) (q)), (.agg #[.bool s21, .slice A21 n21 c21, .slice A22 n22 c22, .bool s22, .slice A23 n23 c23, .slice A24 n24 c24], .span (pb) (qb)), (.agg #[.bool sX, .slice AX1 kX1 cX1, .slice AX2 kX2 cX2], .num (q)), (.agg #[.bool sY, .slice AY1 kY1 cY1, .slice AY2 kY2 cY2], .num (q))] w7 := At0.of hG7 ⟨fun _ => ⟨by dsimp only; omega, NbV.ofS hA7⟩, fun _ => ⟨by dsimp only; omega, NbV.ofS hB7⟩, fun _ => ⟨by dsimp only; omega, NbV.ofS hT7⟩, fun _ => ⟨by dsimp only; omega, NbV.of hX7⟩, fun _ => ⟨by dsimp only; omega, NbV.of hY7⟩, trivial⟩ (by (simp [Apart0] <;> omega)) ⟨nA7, nB7, nX7, nY7, trivial⟩
   clear hG7 hA7 hB7 hT7 hX7 hY7 nA7 nB7 nX7 nY7
   refine text_cells (F := ?F9) w ([.eq (.pointer (some ⟨w.heap.size, 0, none⟩)), .num (p), .any] : List Vs) _ _ (by kernel_rfl) hAt7 ?hF9 ?st9 ?en9
   case hF9 =>
    intro vals
    simp only [Ja.fillL, Act.put, List.setIfInBounds_toArray, List.set_cons_zero, List.set_cons_succ, Nat.reduceAdd]
    exact rfl
   case st9 =>
    clear hAt7
    intro hctx
    refine JC.o hctx ?_ ?_
    ·intro L vals W hL hJ hd K hK
     go_simp
     exact hK.out (.pointer (some ⟨w.heap.size, 0, none⟩)) _ _ (by kernel_rfl) rfl (Q.refl _)
    refine JC.o hctx ?_ ?_
    ·intro L vals W hL hJ hd K hK
     have d0 : vals 0 = .pointer (some ⟨w.heap.size, 0, none⟩) := hd 0 (by kernel_rfl)
     generalize vals 0 = u0 at d0 hK ⊢
     subst d0
     obtain ⟨z0, z1, z2, z3, z4, z5⟩ := (NbV.outS (hJ.still 0 rfl rfl (Nat.le_of_ble_eq_true (by kernel_rfl)))).cells
     go_simp
     exact hK.out (.agg #[.bool s11, .slice A11 n11 c11, .slice A12 n12 c12]) _ _ (by kernel_rfl) ((NsLo (hJ.kept 0 rfl))) (Q.refl _)
    refine Ja.Steps.cons (JC.store (n := 4) hctx (by kernel_rfl) (by rfl) (by kernel_rfl) (by rfl) (by rfl) (by kernel_rfl) (by rfl) ?_) ?_
    ·intro L vals W g old hJ hp ho hs K hK
     have hs9 : Nq W (vals 1) (p) := hs
     dsimp only at hK
     obtain rfl : gY = g := by injection hp with hp; injection hp with hp; injection hp with hp
     generalize vals 1 = uj at hs9 hK ⊢
     obtain ⟨e1, C1, i1, j1, C2, i2, j2, rfl, -⟩ := Nq.form hs9
     obtain ⟨f1, D1, x1, y1, D2, x2, y2, ho1, hb⟩ := ho
     have fz := hb.frozen
     obtain ⟨r0, r1, r2⟩ := hb.cells
     clear hb ho1 hp
     go_simp
     exact hK.out undef _ _ (by kernel_rfl) PutV.of
    exact Ja.Steps.nil
   intro L vals w8 hall hJ
   clear hAt7
   have hG8 := hJ.q
   have hA8 : Sp w8 (w.heap.size) (s11) (.slice A11 n11 c11) (.slice A12 n12 c12) (s12) (.slice A13 n13 c13) (.slice A14 n14 c14) := NbV.outS (hJ.still 0 rfl rfl (Nat.le_of_ble_eq_true (by kernel_rfl)))
   have nA8 : Ns w8 (.agg #[.bool s11, .slice A11 n11 c11, .slice A12 n12 c12, .bool s12, .slice A13 n13 c13, .slice A14 n14 c14]) (p) (q) := hJ.kept 0 rfl
   have hB8 : Sp w8 (w.heap.size + 1) (s21) (.slice A21 n21 c21) (.slice A22 n22 c22) (s22) (.slice A23 n23 c23) (.slice A24 n24 c24) := NbV.outS (hJ.still 1 rfl rfl (Nat.le_of_ble_eq_true (by kernel_rfl)))
   have nB8 : Ns w8 (.agg #[.bool s21, .slice A21 n21 c21, .slice A22 n22 c22, .bool s22, .slice A23 n23 c23, .slice A24 n24 c24]) (pb) (qb) := hJ.kept 1 rfl
   have hT8 : Sp w8 (w.heap.size + 1 + 1) (false) (.slice none 0 0) (.slice none 0 0) (false) (.slice none 0 0) (.slice none 0 0) := NbV.outS (hJ.still 2 rfl rfl (Nat.le_of_ble_eq_true (by kernel_rfl)))
   have hX8 : Nb w8 (gX) (sX) (.slice AX1 kX1 cX1) (.slice AX2 kX2 cX2) := NbV.out (hJ.still 3 rfl rfl (Nat.le_of_ble_eq_true (by kernel_rfl)))
   have nX8 : Nq w8 (.agg #[.bool sX, .slice AX1 kX1 cX1, .slice AX2 kX2 cX2]) (q) := hJ.kept 2 rfl
   have qY : NbV w8 (gY) false (vals 1) := hJ.stored 4 rfl rfl (hall 2 (by decide))
   have nY8 : Nq w8 (vals 1) (p) := hJ.s 1 (hall 1 (by decide))
   obtain ⟨sY, AY1, kY1, cY1, AY2, kY2, cY2, yY, hY8⟩ := qY
   change Nb w8 (gY) (sY) (.slice AY1 kY1 cY1) (.slice AY2 kY2 cY2) at hY8
   try dsimp only at yY
   rw [yY] at nY8
   clear yY
   clear hall hJ
   go_upto_region 12 with fail
   have Z5 : Hid (sz ((q) * (pb)) ≤ 200000000) := Lib.hid (by have h9 := sz_mul (q) (pb); have h0 := Z2.out; have h1 := Z3.out; omega)
   have B6 : Hid (16 * (sz (q) + sz (pb)) + 100 ≤ LIM) := Lib.hid (by have h0 := Z2.out; have h1 := Z3.out; rw [LIM_eq]; omega)
   have Z7 : Hid (sz ((p) * (qb)) ≤ 200000000) := Lib.hid (by have h9 := sz_mul (p) (qb); have h0 := Z1.out; have h1 := Z4.out; omega)
   have B8 : Hid (16 * (sz (p) + sz (qb)) + 100 ≤ LIM) := Lib.hid (by have h0 := Z1.out; have h1 := Z4.out; rw [LIM_eq]; omega)
   have hAt8 : At0 w [{ al := none, g := w.heap.size, big := true, row := .agg #[.bool s11, .slice A11 n11 c11, .slice A12 n12 c12, .bool s12, .slice A13 n13 c13, .slice A14 n14 c14], st := 1000, src := 0 }, { al := none, g := w.heap.size + 1, big := true, row := .agg #[.bool s21, .slice A21 n21 c21, .slice A22 n22 c22, .bool s22, .slice A23 n23 c23, .slice A24 n24 c24], st := 1000, src := 0 }, { al := none, g := w.heap.size + 1 + 1, big := true, row := .agg #[.bool false, .slice none 0 0, .slice none 0 0, .bool false, .slice none 0 0, .slice none 0 0], st := 9, src := 8 }, { al := none, g := gX, big := false, row := .agg #[.bool sX, .slice AX1 kX1 cX1, .slice AX2 kX2 cX2], st := 1000, src := 0 }, { al := none, g := gY, big := false, row := .agg #[.bool sY, .slice AY1 kY1 cY1, .slice AY2 kY2 cY2], st := 1000, src := 0 }] [(.agg #[.bool s11, .slice A11 n11 c11, .slice A12 n12 c12, .bool s12, .slice A13 n13 c13, .slice A14 n14 c14], .span (p) (q)), (.agg #[.bool s21, .slice A21 n21 c21, .slice A22 n22 c22, .bool s22, .slice A23 n23 c23, .slice A24 n24 c24], .span (pb) (qb)), (.agg #[.bool sX, .slice AX1 kX1 cX1, .slice AX2 kX2 cX2], .num (q)), (.agg #[.bool sY, .slice AY1 kY1 cY1, .slice AY2 kY2 cY2], .num (p))] w8 := At0.of hG8 ⟨fun _ => ⟨by dsimp only; omega, NbV.ofS hA8⟩, fun _ => ⟨by dsimp only; omega, NbV.ofS hB8⟩, fun _ => ⟨by dsimp only; omega, NbV.ofS hT8⟩, fun _ => ⟨by dsimp only; omega, NbV.of hX8⟩, fun _ => ⟨by dsimp only; omega, NbV.of hY8⟩, trivial⟩ (by (simp [Apart0] <;> omega)) ⟨nA8, nB8, nX8, nY8, trivial⟩
   clear hG8 hA8 hB8 hT8 hX8 hY8 nA8 nB8 nX8 nY8
   refine region_cells (F := ?F10) w ([.num (q), .eq (.pointer (some ⟨w.heap.size + 1, 0, none⟩)), .num (pb), .num ((q) * (pb)), .num (p), .eq (.pointer (some ⟨w.heap.size + 1, 3, none⟩)), .num (qb), .num ((p) * (qb)), .span ((q) * (pb)) ((p) * (qb)), .any] : List Vs) _ _ (by kernel_rfl) (by kernel_rfl) hAt8 ?hF10 ?st10 ?en10
   case hF10 =>
    intro vals
    simp only [Ja.fillL, Act.put, List.setIfInBounds_toArray, List.set_cons_zero, List.set_cons_succ, Nat.reduceAdd]
    exact rfl
   case st10 =>
    clear hAt8
    intro hctx
    refine JC.o hctx ?_ ?_
    ·intro L vals W hL hJ hd K hK
     obtain ⟨z0, z1, z2⟩ := (NbV.out (hJ.still 3 rfl rfl (Nat.le_of_ble_eq_true (by kernel_rfl)))).cells
     go_simp
     exact hK.out (.agg #[.bool sX, .slice AX1 kX1 cX1, .slice AX2 kX2 cX2]) _ _ (by kernel_rfl) (hJ.kept 2 rfl) (Q.refl _)
    refine JC.o hctx ?_ ?_
    ·intro L vals W hL hJ hd K hK
     go_simp
     exact hK.out (.pointer (some ⟨w.heap.size + 1, 0, none⟩)) _ _ (by kernel_rfl) rfl (Q.refl _)
    refine JC.o hctx ?_ ?_
    ·intro L vals W hL hJ hd K hK
     have d1 : vals 1 = .pointer (some ⟨w.heap.size + 1, 0, none⟩) := hd 1 (by kernel_rfl)
     generalize vals 1 = u1 at d1 hK ⊢
     subst d1
     obtain ⟨z0, z1, z2, z3, z4, z5⟩ := (NbV.outS (hJ.still 1 rfl rfl (Nat.le_of_ble_eq_true (by kernel_rfl)))).cells
     go_simp
     exact hK.out (.agg #[.bool s21, .slice A21 n21 c21, .slice A22 n22 c22]) _ _ (by kernel_rfl) ((NsLo (hJ.kept 1 rfl))) (Q.refl _)
    refine JC.o hctx ?_ ?_
    ·intro L vals W hL hJ hd K hK
     have hQ := hJ.q
     have d0 : Nq W (vals 0) (q) := hd 0 (by kernel_rfl)
     have d2 : Nq W (vals 2) (pb) := hd 2 (by kernel_rfl)
     go_simp
     (with_reducible refine (q_Mul _ _ (q) (pb) W (hT9.q hQ) d0 d2 B6.out).mono ?_)
     rintro e W9 ⟨r, rfl, hr, hq9⟩
     exact hK.out r W9 _ (by kernel_rfl) hr hq9
    refine JC.o hctx ?_ ?_
    ·intro L vals W hL hJ hd K hK
     obtain ⟨z0, z1, z2⟩ := (NbV.out (hJ.still 4 rfl rfl (Nat.le_of_ble_eq_true (by kernel_rfl)))).cells
     go_simp
     exact hK.out (.agg #[.bool sY, .slice AY1 kY1 cY1, .slice AY2 kY2 cY2]) _ _ (by kernel_rfl) (hJ.kept 3 rfl) (Q.refl _)
    refine JC.o hctx ?_ ?_
    ·intro L vals W hL hJ hd K hK
     go_simp
     exact hK.out (.pointer (some ⟨w.heap.size + 1, 3, none⟩)) _ _ (by kernel_rfl) rfl (Q.refl _)
    refine JC.o hctx ?_ ?_
    ·intro L vals W hL hJ hd K hK
     have d5 : vals 5 = .pointer (some ⟨w.heap.size + 1, 3, none⟩) := hd 5 (by kernel_rfl)
     generalize vals 5 = u5 at d5 hK ⊢
     subst d5
     obtain ⟨z0, z1, z2, z3, z4, z5⟩ := (NbV.outS (hJ.still 1 rfl rfl (Nat.le_of_ble_eq_true (by kernel_rfl)))).cells
     go_simp
     exact hK.out (.agg #[.bool s22, .slice A23 n23 c23, .slice A24 n24 c24]) _ _ (by kernel_rfl) ((NsHi (hJ.kept 1 rfl))) (Q.refl _)
    refine JC.o hctx ?_ ?_
    ·intro L vals W hL hJ hd K hK
     have hQ := hJ.q
     have d4 : Nq W (vals 4) (p) := hd 4 (by kernel_rfl)
     have d6 : Nq W (vals 6) (qb) := hd 6 (by kernel_rfl)
     go_simp
     (with_reducible refine (q_Mul _ _ (p) (qb) W (hT9.q hQ) d4 d6 B8.out).mono ?_)
     rintro e W9 ⟨r, rfl, hr, hq9⟩
     exact hK.out r W9 _ (by kernel_rfl) hr hq9
    refine JC.o hctx ?_ ?_
    ·intro L vals W hL hJ hd K hK
     have d3 : Nq W (vals 3) ((q) * (pb)) := hd 3 (by kernel_rfl)
     have d7 : Nq W (vals 7) ((p) * (qb)) := hd 7 (by kernel_rfl)
     generalize vals 3 = u3 at d3 hK ⊢
     generalize vals 7 = u7 at d7 hK ⊢
     obtain ⟨e1, C1, i1, j1, C2, i2, j2, rfl, -⟩ := Nq.form d3
     obtain ⟨e2, C3, i3, j3, C4, i4, j4, rfl, -⟩ := Nq.form d7
     go_simp
     exact hK.out (.agg #[.bool e1, .slice C1 i1 j1, .slice C2 i2 j2, .bool e2, .slice C3 i3 j3, .slice C4 i4 j4]) _ _ (by kernel_rfl) ⟨_, _, _, _, _, _, _, _, _, _, _, _, _, _, rfl, d3, d7⟩ (Q.refl _)
    refine Ja.Steps.cons (JC.store (n := 2) hctx (by kernel_rfl) (by rfl) (by kernel_rfl) (by rfl) (by rfl) (by kernel_rfl) (by rfl) ?_) ?_
    ·intro L vals W g old hJ hp ho hs K hK
     have hs9 : Ns W (vals 8) ((q) * (pb)) ((p) * (qb)) := hs
     dsimp only at hK
     obtain rfl : w.heap.size + 1 + 1 = g := by injection hp with hp; injection hp with hp; injection hp with hp
     generalize vals 8 = uj at hs9 hK ⊢
     obtain ⟨e1, C1, i1, j1, C2, i2, j2, e2, C3, i3, j3, C4, i4, j4, rfl, -, -⟩ := hs9
     obtain ⟨f1, D1, x1, y1, D2, x2, y2, f2, D3, x3, y3, D4, x4, y4, ho1, hb⟩ := ho
     have fz := hb.frozen
     obtain ⟨r0, r1, r2, r3, r4, r5⟩ := hb.cells
     clear hb ho1 hp
     go_simp
     exact hK.out undef _ _ (by kernel_rfl) PutV.ofS
    exact Ja.Steps.nil
   intro L vals w9 hall hJ
   clear hAt8
   have hG9 := hJ.q
   have hA9 : Sp w9 (w.heap.size) (s11) (.slice A11 n11 c11) (.slice A12 n12 c12) (s12) (.slice A13 n13 c13) (.slice A14 n14 c14) := NbV.outS (hJ.still 0 rfl rfl (Nat.le_of_ble_eq_true (by kernel_rfl)))
   have nA9 : Ns w9 (.agg #[.bool s11, .slice A11 n11 c11, .slice A12 n12 c12, .bool s12, .slice A13 n13 c13, .slice A14 n14 c14]) (p) (q) := hJ.kept 0 rfl
   have hB9 : Sp w9 (w.heap.size + 1) (s21) (.slice A21 n21 c21) (.slice A22 n22 c22) (s22) (.slice A23 n23 c23) (.slice A24 n24 c24) := NbV.outS (hJ.still 1 rfl rfl (Nat.le_of_ble_eq_true (by kernel_rfl)))
   have nB9 : Ns w9 (.agg #[.bool s21, .slice A21 n21 c21, .slice A22 n22 c22, .bool s22, .slice A23 n23 c23, .slice A24 n24 c24]) (pb) (qb) := hJ.kept 1 rfl
   have qT : NbV w9 (w.heap.size + 1 + 1) true (vals 8) := hJ.stored 2 rfl rfl (hall 9 (by decide))
   have nT9 : Ns w9 (vals 8) ((q) * (pb)) ((p) * (qb)) := hJ.s 8 (hall 8 (by decide))
   obtain ⟨sT1, AT1, kT1, cT1, AT2, kT2, cT2, sT2, AT3, kT3, cT3, AT4, kT4, cT4, yT, hT9⟩ := qT
   change Sp w9 (w.heap.size + 1 + 1) (sT1) (.slice AT1 kT1 cT1) (.slice AT2 kT2 cT2) (sT2) (.slice AT3 kT3 cT3) (.slice AT4 kT4 cT4) at hT9
   try dsimp only at yT
   rw [yT] at nT9
   clear yT
   have hX9 : Nb w9 (gX) (sX) (.slice AX1 kX1 cX1) (.slice AX2 kX2 cX2) := NbV.out (hJ.still 3 rfl rfl (Nat.le_of_ble_eq_true (by kernel_rfl)))
   have nX9 : Nq w9 (.agg #[.bool sX, .slice AX1 kX1 cX1, .slice AX2 kX2 cX2]) (q) := hJ.kept 2 rfl
   have hY9 : Nb w9 (gY) (sY) (.slice AY1 kY1 cY1) (.slice AY2 kY2 cY2) := NbV.out (hJ.still 4 rfl rfl (Nat.le_of_ble_eq_true (by kernel_rfl)))
   have nY9 : Nq w9 (.agg #[.bool sY, .slice AY1 kY1 cY1, .slice AY2 kY2 cY2]) (p) := hJ.kept 3 rfl
   clear hall hJ
   go_wp2_with fail
   have hps := prod_pos H0.out H1.out H2.out
   rw [if_pos H3.out, if_pos H4.out] at hps
   rw [hps.1, hps.2] at nT9
   obtain ⟨z0, z1, z2, z3, z4, z5⟩ := hT9.cells
   refine bodyPost_ret (v := .agg #[.bool sT1, .slice AT1 kT1 cT1, .slice AT2 kT2 cT2, .bool sT2, .slice AT3 kT3 cT3, .slice AT4 kT4 cT4]) (by simp [results, Tryz.results155, go_sem, z0, z1, z2, z3, z4, z5]) rfl ?_
   exact ⟨_, rfl, nT9, hG9⟩
  ·have H4 := Lib.hid h4; clear h4
   refine text_each (F := ?F11) ([.eq (.pointer (some ⟨w.heap.size + 1, 3, none⟩)), .eq (.pointer (some ⟨w.heap.size + 1, 3, none⟩)), .eq (.bool false)] : List Vs) (by kernel_rfl) ?hF11 ?st11 ?en11
   case hF11 =>
    intro vals
    simp only [Ja.fillL, Act.put, List.setIfInBounds_toArray, List.set_cons_zero, List.set_cons_succ, Nat.reduceAdd]
    exact rfl
   case st11 =>
    intro hctx
    refine Each.y hctx ?_ ?_
    ·intro vals W hM hd K hK
     go_simp
     exact hK.out (.pointer (some ⟨w.heap.size + 1, 3, none⟩)) _ _ (by kernel_rfl) rfl (Q.refl _)
    refine Each.y hctx ?_ ?_
    ·intro vals W hM hd K hK
     have d0 : vals 0 = .pointer (some ⟨w.heap.size + 1, 3, none⟩) := hd 0 (by kernel_rfl)
     generalize vals 0 = u0 at d0 hK ⊢
     subst d0
     go_simp
     exact hK.out (.pointer (some ⟨w.heap.size + 1, 3, none⟩)) _ _ (by kernel_rfl) rfl (Q.refl _)
    refine Each.y hctx ?_ ?_
    ·intro vals W hM hd K hK
     have hN : Q w6 W := hM
     have d1 : vals 1 = .pointer (some ⟨w.heap.size + 1, 3, none⟩) := hd 1 (by kernel_rfl)
     generalize vals 1 = u1 at d1 hK ⊢
     subst d1
     obtain ⟨z0, z1, z2, z3, z4, z5⟩ := (hB6.q hN).cells
     go_simp
     exact hK.out (.bool s22) _ _ (by kernel_rfl) (congrArg Value.bool ((HSD.out.trans (decide_eq_false (H4.out))))) (Q.refl _)
    exact Ja.Steps.nil
   intro vals w7 hq7 hall
   have hG7 := hG6.trans hq7
   have hA7 := hA6.q hq7
   have nA7 := nA6.q hq7
   have hB7 := hB6.q hq7
   have nB7 := nB6.q hq7
   have hT7 := hT6.q hq7
   have hX7 := hX6.q hq7
   have nX7 := nX6.q hq7
   have hY7 := hY6.q hq7
   have nY7 := nY6.q hq7
   have f78 : vals 2 = .bool false := hall 2 (by decide)
   rw [f78]
   clear hall hq7 hG6 hA6 hB6 hT6 hX6 hY6 nA6 nB6 nX6 nY6
   go_upto_region 12 with fail
   have Z5 : Hid (sz ((q) * (pb)) ≤ 200000000) := Lib.hid (by have h9 := sz_mul (q) (pb); have h0 := Z2.out; have h1 := Z3.out; omega)
   have B6 : Hid (16 * (sz (q) + sz (pb)) + 100 ≤ LIM) := Lib.hid (by have h0 := Z2.out; have h1 := Z3.out; rw [LIM_eq]; omega)
   have Z7 : Hid (sz ((q) * (qb)) ≤ 200000000) := Lib.hid (by have h9 := sz_mul (q) (qb); have h0 := Z2.out; have h1 := Z4.out; omega)
   have B8 : Hid (16 * (sz (q) + sz (qb)) + 100 ≤ LIM) := Lib.hid (by have h0 := Z2.out; have h1 := Z4.out; rw [LIM_eq]; omega)
   have hAt7 : At0 w [{ al := none, g := w.heap.size, big := true, row := .agg #[.bool s11, .slice A11 n11 c11, .slice A12 n12 c12, .bool s12, .slice A13 n13 c13, .slice A14 n14 c14], st := 1000, src := 0 }, { al := none, g := w.heap.size + 1, big := true, row := .agg #[.bool s21, .slice A21 n21 c21, .slice A22 n22 c22, .bool s22, .slice A23 n23 c23, .slice A24 n24 c24], st := 1000, src := 0 }, { al := none, g := w.heap.size + 1 + 1, big := true, row := .agg #[.bool false, .slice none 0 0, .slice none 0 0, .bool false, .slice none 0 0, .slice none 0 0], st := 9, src := 8 }, { al := none, g := gX, big := false, row := .agg #[.bool sX, .slice AX1 kX1 cX1, .slice AX2 kX2 cX2], st := 1000, src := 0 }, { al := none, g := gY, big := false, row := .agg #[.bool sY, .slice AY1 kY1 cY1, .slice AY2 kY2 cY2], st := 1000, src := 0 }] [(.agg #[.bool s11, .slice A11 n11 c11, .slice A12 n12 c12, .bool s12, .slice A13 n13 c13, .slice A14 n14 c14], .span (p) (q)), (.agg #[.bool s21, .slice A21 n21 c21, .slice A22 n22 c22, .bool s22, .slice A23 n23 c23, .slice A24 n24 c24], .span (pb) (qb)), (.agg #[.bool sX, .slice AX1 kX1 cX1, .slice AX2 kX2 cX2], .num (q)), (.agg #[.bool sY, .slice AY1 kY1 cY1, .slice AY2 kY2 cY2], .num (q))] w7 := At0.of hG7 ⟨fun _ => ⟨by dsimp only; omega, NbV.ofS hA7⟩, fun _ => ⟨by dsimp only; omega, NbV.ofS hB7⟩, fun _ => ⟨by dsimp only; omega, NbV.ofS hT7⟩, fun _ => ⟨by dsimp only; omega, NbV.of hX7⟩, fun _ => ⟨by dsimp only; omega, NbV.of hY7⟩, trivial⟩ (by (simp [Apart0] <;> omega)) ⟨nA7, nB7, nX7, nY7, trivial⟩
   clear hG7 hA7 hB7 hT7 hX7 hY7 nA7 nB7 nX7 nY7
   refine region_cells (F := ?F12) w ([.num (q), .eq (.pointer (some ⟨w.heap.size + 1, 0, none⟩)), .num (pb), .num ((q) * (pb)), .num (q), .eq (.pointer (some ⟨w.heap.size + 1, 3, none⟩)), .num (qb), .num ((q) * (qb)), .span ((q) * (pb)) ((q) * (qb)), .any] : List Vs) _ _ (by kernel_rfl) (by kernel_rfl) hAt7 ?hF12 ?st12 ?en12
   case hF12 =>
    intro vals
    simp only [Ja.fillL, Act.put, List.setIfInBounds_toArray, List.set_cons_zero, List.set_cons_succ, Nat.reduceAdd]
    exact rfl
   case st12 =>
    clear hAt7
    intro hctx
    refine JC.o hctx ?_ ?_
    ·intro L vals W hL hJ hd K hK
     obtain ⟨z0, z1, z2⟩ := (NbV.out (hJ.still 3 rfl rfl (Nat.le_of_ble_eq_true (by kernel_rfl)))).cells
     go_simp
     exact hK.out (.agg #[.bool sX, .slice AX1 kX1 cX1, .slice AX2 kX2 cX2]) _ _ (by kernel_rfl) (hJ.kept 2 rfl) (Q.refl _)
    refine JC.o hctx ?_ ?_
    ·intro L vals W hL hJ hd K hK
     go_simp
     exact hK.out (.pointer (some ⟨w.heap.size + 1, 0, none⟩)) _ _ (by kernel_rfl) rfl (Q.refl _)
    refine JC.o hctx ?_ ?_
    ·intro L vals W hL hJ hd K hK
     have d1 : vals 1 = .pointer (some ⟨w.heap.size + 1, 0, none⟩) := hd 1 (by kernel_rfl)
     generalize vals 1 = u1 at d1 hK ⊢
     subst d1
     obtain ⟨z0, z1, z2, z3, z4, z5⟩ := (NbV.outS (hJ.still 1 rfl rfl (Nat.le_of_ble_eq_true (by kernel_rfl)))).cells
     go_simp
     exact hK.out (.agg #[.bool s21, .slice A21 n21 c21, .slice A22 n22 c22]) _ _ (by kernel_rfl) ((NsLo (hJ.kept 1 rfl))) (Q.refl _)
    refine JC.o hctx ?_ ?_
    ·intro L vals W hL hJ hd K hK
     have hQ := hJ.q
     have d0 : Nq W (vals 0) (q) := hd 0 (by kernel_rfl)
     have d2 : Nq W (vals 2) (pb) := hd 2 (by kernel_rfl)
     go_simp
     (with_reducible refine (q_Mul _ _ (q) (pb) W (hT9.q hQ) d0 d2 B6.out).mono ?_)
     rintro e W9 ⟨r, rfl, hr, hq9⟩
     exact hK.out r W9 _ (by kernel_rfl) hr hq9
    refine JC.o hctx ?_ ?_
    ·intro L vals W hL hJ hd K hK
     obtain ⟨z0, z1, z2⟩ := (NbV.out (hJ.still 4 rfl rfl (Nat.le_of_ble_eq_true (by kernel_rfl)))).cells
     go_simp
     exact hK.out (.agg #[.bool sY, .slice AY1 kY1 cY1, .slice AY2 kY2 cY2]) _ _ (by kernel_rfl) (hJ.kept 3 rfl) (Q.refl _)
    refine JC.o hctx ?_ ?_
    ·intro L vals W hL hJ hd K hK
     go_simp
     exact hK.out (.pointer (some ⟨w.heap.size + 1, 3, none⟩)) _ _ (by kernel_rfl) rfl (Q.refl _)
    refine JC.o hctx ?_ ?_
    ·intro L vals W hL hJ hd K hK
     have d5 : vals 5 = .pointer (some ⟨w.heap.size + 1, 3, none⟩) := hd 5 (by kernel_rfl)
     generalize vals 5 = u5 at d5 hK ⊢
     subst d5
     obtain ⟨z0, z1, z2, z3, z4, z5⟩ := (NbV.outS (hJ.still 1 rfl rfl (Nat.le_of_ble_eq_true (by kernel_rfl)))).cells
     go_simp
     exact hK.out (.agg #[.bool s22, .slice A23 n23 c23, .slice A24 n24 c24]) _ _ (by kernel_rfl) ((NsHi (hJ.kept 1 rfl))) (Q.refl _)
    refine JC.o hctx ?_ ?_
    ·intro L vals W hL hJ hd K hK
     have hQ := hJ.q
     have d4 : Nq W (vals 4) (q) := hd 4 (by kernel_rfl)
     have d6 : Nq W (vals 6) (qb) := hd 6 (by kernel_rfl)
     go_simp
     (with_reducible refine (q_Mul _ _ (q) (qb) W (hT9.q hQ) d4 d6 B8.out).mono ?_)
     rintro e W9 ⟨r, rfl, hr, hq9⟩
     exact hK.out r W9 _ (by kernel_rfl) hr hq9
    refine JC.o hctx ?_ ?_
    ·intro L vals W hL hJ hd K hK
     have d3 : Nq W (vals 3) ((q) * (pb)) := hd 3 (by kernel_rfl)
     have d7 : Nq W (vals 7) ((q) * (qb)) := hd 7 (by kernel_rfl)
     generalize vals 3 = u3 at d3 hK ⊢
     generalize vals 7 = u7 at d7 hK ⊢
     obtain ⟨e1, C1, i1, j1, C2, i2, j2, rfl, -⟩ := Nq.form d3
     obtain ⟨e2, C3, i3, j3, C4, i4, j4, rfl, -⟩ := Nq.form d7
     go_simp
     exact hK.out (.agg #[.bool e1, .slice C1 i1 j1, .slice C2 i2 j2, .bool e2, .slice C3 i3 j3, .slice C4 i4 j4]) _ _ (by kernel_rfl) ⟨_, _, _, _, _, _, _, _, _, _, _, _, _, _, rfl, d3, d7⟩ (Q.refl _)
    refine Ja.Steps.cons (JC.store (n := 2) hctx (by kernel_rfl) (by rfl) (by kernel_rfl) (by rfl) (by rfl) (by kernel_rfl) (by rfl) ?_) ?_
    ·intro L vals W g old hJ hp ho hs K hK
     have hs9 : Ns W (vals 8) ((q) * (pb)) ((q) * (qb)) := hs
     dsimp only at hK
     obtain rfl : w.heap.size + 1 + 1 = g := by injection hp with hp; injection hp with hp; injection hp with hp
     generalize vals 8 = uj at hs9 hK ⊢
     obtain ⟨e1, C1, i1, j1, C2, i2, j2, e2, C3, i3, j3, C4, i4, j4, rfl, -, -⟩ := hs9
     obtain ⟨f1, D1, x1, y1, D2, x2, y2, f2, D3, x3, y3, D4, x4, y4, ho1, hb⟩ := ho
     have fz := hb.frozen
     obtain ⟨r0, r1, r2, r3, r4, r5⟩ := hb.cells
     clear hb ho1 hp
     go_simp
     exact hK.out undef _ _ (by kernel_rfl) PutV.ofS
    exact Ja.Steps.nil
   intro L vals w8 hall hJ
   clear hAt7
   have hG8 := hJ.q
   have hA8 : Sp w8 (w.heap.size) (s11) (.slice A11 n11 c11) (.slice A12 n12 c12) (s12) (.slice A13 n13 c13) (.slice A14 n14 c14) := NbV.outS (hJ.still 0 rfl rfl (Nat.le_of_ble_eq_true (by kernel_rfl)))
   have nA8 : Ns w8 (.agg #[.bool s11, .slice A11 n11 c11, .slice A12 n12 c12, .bool s12, .slice A13 n13 c13, .slice A14 n14 c14]) (p) (q) := hJ.kept 0 rfl
   have hB8 : Sp w8 (w.heap.size + 1) (s21) (.slice A21 n21 c21) (.slice A22 n22 c22) (s22) (.slice A23 n23 c23) (.slice A24 n24 c24) := NbV.outS (hJ.still 1 rfl rfl (Nat.le_of_ble_eq_true (by kernel_rfl)))
   have nB8 : Ns w8 (.agg #[.bool s21, .slice A21 n21 c21, .slice A22 n22 c22, .bool s22, .slice A23 n23 c23, .slice A24 n24 c24]) (pb) (qb) := hJ.kept 1 rfl
   have qT : NbV w8 (w.heap.size + 1 + 1) true (vals 8) := hJ.stored 2 rfl rfl (hall 9 (by decide))
   have nT8 : Ns w8 (vals 8) ((q) * (pb)) ((q) * (qb)) := hJ.s 8 (hall 8 (by decide))
   obtain ⟨sT1, AT1, kT1, cT1, AT2, kT2, cT2, sT2, AT3, kT3, cT3, AT4, kT4, cT4, yT, hT8⟩ := qT
   change Sp w8 (w.heap.size + 1 + 1) (sT1) (.slice AT1 kT1 cT1) (.slice AT2 kT2 cT2) (sT2) (.slice AT3 kT3 cT3) (.slice AT4 kT4 cT4) at hT8
   try dsimp only at yT
   rw [yT] at nT8
   clear yT
   have hX8 : Nb w8 (gX) (sX) (.slice AX1 kX1 cX1) (.slice AX2 kX2 cX2) := NbV.out (hJ.still 3 rfl rfl (Nat.le_of_ble_eq_true (by kernel_rfl)))
   have nX8 : Nq w8 (.agg #[.bool sX, .slice AX1 kX1 cX1, .slice AX2 kX2 cX2]) (q) := hJ.kept 2 rfl
   have hY8 : Nb w8 (gY) (sY) (.slice AY1 kY1 cY1) (.slice AY2 kY2 cY2) := NbV.out (hJ.still 4 rfl rfl (Nat.le_of_ble_eq_true (by kernel_rfl)))
   have nY8 : Nq w8 (.agg #[.bool sY, .slice AY1 kY1 cY1, .slice AY2 kY2 cY2]) (q) := hJ.kept 3 rfl
   clear hall hJ
   go_wp2_with fail
   have hps := prod_pos H0.out H1.out H2.out
   rw [if_pos H3.out, if_neg H4.out] at hps
   rw [hps.1, hps.2] at nT8
   obtain ⟨z0, z1, z2, z3, z4, z5⟩ := hT8.cells
   refine bodyPost_ret (v := .agg #[.bool sT1, .slice AT1 kT1 cT1, .slice AT2 kT2 cT2, .bool sT2, .slice AT3 kT3 cT3, .slice AT4 kT4 cT4]) (by simp [results, Tryz.results155, go_sem, z0, z1, z2, z3, z4, z5]) rfl ?_
   exact ⟨_, rfl, nT8, hG8⟩
 ·have H3 := Lib.hid h3; clear h3
  have H4 : Hid (¬ qb < 0) := Lib.hid (fun h => H3.out (by have := H2.out; grind))
  refine text_each (F := ?F13) ([.eq (.pointer (some ⟨w.heap.size + 1, 0, none⟩)), .eq (.pointer (some ⟨w.heap.size + 1, 0, none⟩)), .eq (.bool false)] : List Vs) (by kernel_rfl) ?hF13 ?st13 ?en13
  case hF13 =>
   intro vals
   simp only [Ja.fillL, Act.put, List.setIfInBounds_toArray, List.set_cons_zero, List.set_cons_succ, Nat.reduceAdd]
   exact rfl
  case st13 =>
   intro hctx
   refine Each.y hctx ?_ ?_
   ·intro vals W hM hd K hK
    go_simp
    exact hK.out (.pointer (some ⟨w.heap.size + 1, 0, none⟩)) _ _ (by kernel_rfl) rfl (Q.refl _)
   refine Each.y hctx ?_ ?_
   ·intro vals W hM hd K hK
    have d0 : vals 0 = .pointer (some ⟨w.heap.size + 1, 0, none⟩) := hd 0 (by kernel_rfl)
    generalize vals 0 = u0 at d0 hK ⊢
    subst d0
    go_simp
    exact hK.out (.pointer (some ⟨w.heap.size + 1, 0, none⟩)) _ _ (by kernel_rfl) rfl (Q.refl _)
   refine Each.y hctx ?_ ?_
   ·intro vals W hM hd K hK
    have hN : Q w4 W := hM
    have d1 : vals 1 = .pointer (some ⟨w.heap.size + 1, 0, none⟩) := hd 1 (by kernel_rfl)
    generalize vals 1 = u1 at d1 hK ⊢
    subst d1
    obtain ⟨z0, z1, z2, z3, z4, z5⟩ := (hB4.q hN).cells
    go_simp
    exact hK.out (.bool s21) _ _ (by kernel_rfl) (congrArg Value.bool ((HSC.out.trans (decide_eq_false (H3.out))))) (Q.refl _)
   exact Ja.Steps.nil
  intro vals w5 hq5 hall
  have hG5 := hG4.trans hq5
  have hA5 := hA4.q hq5
  have nA5 := nA4.q hq5
  have hB5 := hB4.q hq5
  have nB5 := nB4.q hq5
  have hT5 := hT4.q hq5
  have hX5 := hX4.q hq5
  have nX5 := nX4.q hq5
  have hY5 := hY4.q hq5
  have nY5 := nY4.q hq5
  have f73 : vals 2 = .bool false := hall 2 (by decide)
  rw [f73]
  clear hall hq5 hG4 hA4 hB4 hT4 hX4 hY4 nA4 nB4 nX4 nY4
  go_upto_region 10 with fail
  refine text_each (F := ?F14) ([.eq (.pointer (some ⟨w.heap.size + 1, 3, none⟩)), .eq (.pointer (some ⟨w.heap.size + 1, 3, none⟩)), .eq (.bool false)] : List Vs) (by kernel_rfl) ?hF14 ?st14 ?en14
  case hF14 =>
   intro vals
   simp only [Ja.fillL, Act.put, List.setIfInBounds_toArray, List.set_cons_zero, List.set_cons_succ, Nat.reduceAdd]
   exact rfl
  case st14 =>
   intro hctx
   refine Each.y hctx ?_ ?_
   ·intro vals W hM hd K hK
    go_simp
    exact hK.out (.pointer (some ⟨w.heap.size + 1, 3, none⟩)) _ _ (by kernel_rfl) rfl (Q.refl _)
   refine Each.y hctx ?_ ?_
   ·intro vals W hM hd K hK
    have d0 : vals 0 = .pointer (some ⟨w.heap.size + 1, 3, none⟩) := hd 0 (by kernel_rfl)
    generalize vals 0 = u0 at d0 hK ⊢
    subst d0
    go_simp
    exact hK.out (.pointer (some ⟨w.heap.size + 1, 3, none⟩)) _ _ (by kernel_rfl) rfl (Q.refl _)
   refine Each.y hctx ?_ ?_
   ·intro vals W hM hd K hK
    have hN : Q w5 W := hM
    have d1 : vals 1 = .pointer (some ⟨w.heap.size + 1, 3, none⟩) := hd 1 (by kernel_rfl)
    generalize vals 1 = u1 at d1 hK ⊢
    subst d1
    obtain ⟨z0, z1, z2, z3, z4, z5⟩ := (hB5.q hN).cells
    go_simp
    exact hK.out (.bool s22) _ _ (by kernel_rfl) (congrArg Value.bool ((HSD.out.trans (decide_eq_false (H4.out))))) (Q.refl _)
   exact Ja.Steps.nil
  intro vals w6 hq6 hall
  have hG6 := hG5.trans hq6
  have hA6 := hA5.q hq6
  have nA6 := nA5.q hq6
  have hB6 := hB5.q hq6
  have nB6 := nB5.q hq6
  have hT6 := hT5.q hq6
  have hX6 := hX5.q hq6
  have nX6 := nX5.q hq6
  have hY6 := hY5.q hq6
  have nY6 := nY5.q hq6
  have f78 : vals 2 = .bool false := hall 2 (by decide)
  rw [f78]
  clear hall hq6 hG5 hA5 hB5 hT5 hX5 hY5 nA5 nB5 nX5 nY5
  go_upto_region 12 with fail
  have Z5 : Hid (sz ((p) * (pb)) ≤ 200000000) := Lib.hid (by have h9 := sz_mul (p) (pb); have h0 := Z1.out; have h1 := Z3.out; omega)
  have B6 : Hid (16 * (sz (p) + sz (pb)) + 100 ≤ LIM) := Lib.hid (by have h0 := Z1.out; have h1 := Z3.out; rw [LIM_eq]; omega)
  have Z7 : Hid (sz ((q) * (qb)) ≤ 200000000) := Lib.hid (by have h9 := sz_mul (q) (qb); have h0 := Z2.out; have h1 := Z4.out; omega)
  have B8 : Hid (16 * (sz (q) + sz (qb)) + 100 ≤ LIM) := Lib.hid (by have h0 := Z2.out; have h1 := Z4.out; rw [LIM_eq]; omega)
  have hAt6 : At0 w [{ al := none, g := w.heap.size, big := true, row := .agg #[.bool s11, .slice A11 n11 c11, .slice A12 n12 c12, .bool s12, .slice A13 n13 c13, .slice A14 n14 c14], st := 1000, src := 0 }, { al := none, g := w.heap.size + 1, big := true, row := .agg #[.bool s21, .slice A21 n21 c21, .slice A22 n22 c22, .bool s22, .slice A23 n23 c23, .slice A24 n24 c24], st := 1000, src := 0 }, { al := none, g := w.heap.size + 1 + 1, big := true, row := .agg #[.bool false, .slice none 0 0, .slice none 0 0, .bool false, .slice none 0 0, .slice none 0 0], st := 9, src := 8 }, { al := none, g := gX, big := false, row := .agg #[.bool sX, .slice AX1 kX1 cX1, .slice AX2 kX2 cX2], st := 1000, src := 0 }, { al := none, g := gY, big := false, row := .agg #[.bool sY, .slice AY1 kY1 cY1, .slice AY2 kY2 cY2], st := 1000, src := 0 }] [(.agg #[.bool s11, .slice A11 n11 c11, .slice A12 n12 c12, .bool s12, .slice A13 n13 c13, .slice A14 n14 c14], .span (p) (q)), (.agg #[.bool s21, .slice A21 n21 c21, .slice A22 n22 c22, .bool s22, .slice A23 n23 c23, .slice A24 n24 c24], .span (pb) (qb)), (.agg #[.bool sX, .slice AX1 kX1 cX1, .slice AX2 kX2 cX2], .num (p)), (.agg #[.bool sY, .slice AY1 kY1 cY1, .slice AY2 kY2 cY2], .num (q))] w6 := At0.of hG6 ⟨fun _ => ⟨by dsimp only; omega, NbV.ofS hA6⟩, fun _ => ⟨by dsimp only; omega, NbV.ofS hB6⟩, fun _ => ⟨by dsimp only; omega, NbV.ofS hT6⟩, fun _ => ⟨by dsimp only; omega, NbV.of hX6⟩, fun _ => ⟨by dsimp only; omega, NbV.of hY6⟩, trivial⟩ (by (simp [Apart0] <;> omega)) ⟨nA6, nB6, nX6, nY6, trivial⟩
  clear hG6 hA6 hB6 hT6 hX6 hY6 nA6 nB6 nX6 nY6
  refine region_cells (F := ?F15) w ([.num (p), .eq (.pointer (some ⟨w.heap.size + 1, 0, none⟩)), .num (pb), .num ((p) * (pb)), .num (q), .eq (.pointer (some ⟨w.heap.size + 1, 3, none⟩)), .num (qb), .num ((q) * (qb)), .span ((p) * (pb)) ((q) * (qb)), .any] : List Vs) _ _ (by kernel_rfl) (by kernel_rfl) hAt6 ?hF15 ?st15 ?en15
  case hF15 =>
   intro vals
   simp only [Ja.fillL, Act.put, List.setIfInBounds_toArray, List.set_cons_zero, List.set_cons_succ, Nat.reduceAdd]
   exact rfl
  case st15 =>
   clear hAt6
   intro hctx
   refine JC.o hctx ?_ ?_
   ·intro L vals W hL hJ hd K hK
    obtain ⟨z0, z1, z2⟩ := (NbV.out (hJ.still 3 rfl rfl (Nat.le_of_ble_eq_true (by kernel_rfl)))).cells
    go_simp
    exact hK.out (.agg #[.bool sX, .slice AX1 kX1 cX1, .slice AX2 kX2 cX2]) _ _ (by kernel_rfl) (hJ.kept 2 rfl) (Q.refl _)
   refine JC.o hctx ?_ ?_
   ·intro L vals W hL hJ hd K hK
    go_simp
    exact hK.out (.pointer (some ⟨w.heap.size + 1, 0, none⟩)) _ _ (by kernel_rfl) rfl (Q.refl _)
   refine JC.o hctx ?_ ?_
   ·intro L vals W hL hJ hd K hK
    have d1 : vals 1 = .pointer (some ⟨w.heap.size + 1, 0, none⟩) := hd 1 (by kernel_rfl)
    generalize vals 1 = u1 at d1 hK ⊢
    subst d1
    obtain ⟨z0, z1, z2, z3, z4, z5⟩ := (NbV.outS (hJ.still 1 rfl rfl (Nat.le_of_ble_eq_true (by kernel_rfl)))).cells
    go_simp
    exact hK.out (.agg #[.bool s21, .slice A21 n21 c21, .slice A22 n22 c22]) _ _ (by kernel_rfl) ((NsLo (hJ.kept 1 rfl))) (Q.refl _)
   refine JC.o hctx ?_ ?_
   ·intro L vals W hL hJ hd K hK
    have hQ := hJ.q
    have d0 : Nq W (vals 0) (p) := hd 0 (by kernel_rfl)
    have d2 : Nq W (vals 2) (pb) := hd 2 (by kernel_rfl)
    go_simp
    (with_reducible refine (q_Mul _ _ (p) (pb) W (hT9.q hQ) d0 d2 B6.out).mono ?_)
    rintro e W9 ⟨r, rfl, hr, hq9⟩
    exact hK.out r W9 _ (by kernel_rfl) hr hq9
   refine JC.o hctx ?_ ?_
   ·intro L vals W hL hJ hd K hK
    obtain ⟨z0, z1, z2⟩ := (NbV.out (hJ.still 4 rfl rfl (Nat.le_of_ble_eq_true (by kernel_rfl)))).cells
    go_simp
    exact hK.out (.agg #[.bool sY, .slice AY1 kY1 cY1, .slice AY2 kY2 cY2]) _ _ (by kernel_rfl) (hJ.kept 3 rfl) (Q.refl _)
   refine JC.o hctx ?_ ?_
   ·intro L vals W hL hJ hd K hK
    go_simp
    exact hK.out (.pointer (some ⟨w.heap.size + 1, 3, none⟩)) _ _ (by kernel_rfl) rfl (Q.refl _)
   refine JC.o hctx ?_ ?_
   ·intro L vals W hL hJ hd K hK
    have d5 : vals 5 = .pointer (some ⟨w.heap.size + 1, 3, none⟩) := hd 5 (by kernel_rfl)
    generalize vals 5 = u5 at d5 hK ⊢
    subst d5
    obtain ⟨z0, z1, z2, z3, z4, z5⟩ := (NbV.outS (hJ.still 1 rfl rfl (Nat.le_of_ble_eq_true (by kernel_rfl)))).cells
    go_simp
    exact hK.out (.agg #[.bool s22, .slice A23 n23 c23, .slice A24 n24 c24]) _ _ (by kernel_rfl) ((NsHi (hJ.kept 1 rfl))) (Q.refl _)
   refine JC.o hctx ?_ ?_
   ·intro L vals W hL hJ hd K hK
    have hQ := hJ.q
    have d4 : Nq W (vals 4) (q) := hd 4 (by kernel_rfl)
    have d6 : Nq W (vals 6) (qb) := hd 6 (by kernel_rfl)
    go_simp
    (with_reducible refine (q_Mul _ _ (q) (qb) W (hT9.q hQ) d4 d6 B8.out).mono ?_)
    rintro e W9 ⟨r, rfl, hr, hq9⟩
    exact hK.out r W9 _ (by kernel_rfl) hr hq9
   refine JC.o hctx ?_ ?_
   ·intro L vals W hL hJ hd K hK
    have d3 : Nq W (vals 3) ((p) * (pb)) := hd 3 (by kernel_rfl)
    have d7 : Nq W (vals 7) ((q) * (qb)) := hd 7 (by kernel_rfl)
    generalize vals 3 = u3 at d3 hK ⊢
    generalize vals 7 = u7 at d7 hK ⊢
    obtain ⟨e1, C1, i1, j1, C2, i2, j2, rfl, -⟩ := Nq.form d3
    obtain ⟨e2, C3, i3, j3, C4, i4, j4, rfl, -⟩ := Nq.form d7
    go_simp
    exact hK.out (.agg #[.bool e1, .slice C1 i1 j1, .slice C2 i2 j2, .bool e2, .slice C3 i3 j3, .slice C4 i4 j4]) _ _ (by kernel_rfl) ⟨_, _, _, _, _, _, _, _, _, _, _, _, _, _, rfl, d3, d7⟩ (Q.refl _)
   refine Ja.Steps.cons (JC.store (n := 2) hctx (by kernel_rfl) (by rfl) (by kernel_rfl) (by rfl) (by rfl) (by kernel_rfl) (by rfl) ?_) ?_
   ·intro L vals W g old hJ hp ho hs K hK
    have hs9 : Ns W (vals 8) ((p) * (pb)) ((q) * (qb)) := hs
    dsimp only at hK
    obtain rfl : w.heap.size + 1 + 1 = g := by injection hp with hp; injection hp with hp; injection hp with hp
    generalize vals 8 = uj at hs9 hK ⊢
    obtain ⟨e1, C1, i1, j1, C2, i2, j2, e2, C3, i3, j3, C4, i4, j4, rfl, -, -⟩ := hs9
    obtain ⟨f1, D1, x1, y1, D2, x2, y2, f2, D3, x3, y3, D4, x4, y4, ho1, hb⟩ := ho
    have fz := hb.frozen
    obtain ⟨r0, r1, r2, r3, r4, r5⟩ := hb.cells
    clear hb ho1 hp
    go_simp
    exact hK.out undef _ _ (by kernel_rfl) PutV.ofS
   exact Ja.Steps.nil
  intro L vals w7 hall hJ
  clear hAt6
  have hG7 := hJ.q
  have hA7 : Sp w7 (w.heap.size) (s11) (.slice A11 n11 c11) (.slice A12 n12 c12) (s12) (.slice A13 n13 c13) (.slice A14 n14 c14) := NbV.outS (hJ.still 0 rfl rfl (Nat.le_of_ble_eq_true (by kernel_rfl)))
  have nA7 : Ns w7 (.agg #[.bool s11, .slice A11 n11 c11, .slice A12 n12 c12, .bool s12, .slice A13 n13 c13, .slice A14 n14 c14]) (p) (q) := hJ.kept 0 rfl
  have hB7 : Sp w7 (w.heap.size + 1) (s21) (.slice A21 n21 c21) (.slice A22 n22 c22) (s22) (.slice A23 n23 c23) (.slice A24 n24 c24) := NbV.outS (hJ.still 1 rfl rfl (Nat.le_of_ble_eq_true (by kernel_rfl)))
  have nB7 : Ns w7 (.agg #[.bool s21, .slice A21 n21 c21, .slice A22 n22 c22, .bool s22, .slice A23 n23 c23, .slice A24 n24 c24]) (pb) (qb) := hJ.kept 1 rfl
  have qT : NbV w7 (w.heap.size + 1 + 1) true (vals 8) := hJ.stored 2 rfl rfl (hall 9 (by decide))
  have nT7 : Ns w7 (vals 8) ((p) * (pb)) ((q) * (qb)) := hJ.s 8 (hall 8 (by decide))
  obtain ⟨sT1, AT1, kT1, cT1, AT2, kT2, cT2, sT2, AT3, kT3, cT3, AT4, kT4, cT4, yT, hT7⟩ := qT
  change Sp w7 (w.heap.size + 1 + 1) (sT1) (.slice AT1 kT1 cT1) (.slice AT2 kT2 cT2) (sT2) (.slice AT3 kT3 cT3) (.slice AT4 kT4 cT4) at hT7
  try dsimp only at yT
  rw [yT] at nT7
  clear yT
  have hX7 : Nb w7 (gX) (sX) (.slice AX1 kX1 cX1) (.slice AX2 kX2 cX2) := NbV.out (hJ.still 3 rfl rfl (Nat.le_of_ble_eq_true (by kernel_rfl)))
  have nX7 : Nq w7 (.agg #[.bool sX, .slice AX1 kX1 cX1, .slice AX2 kX2 cX2]) (p) := hJ.kept 2 rfl
  have hY7 : Nb w7 (gY) (sY) (.slice AY1 kY1 cY1) (.slice AY2 kY2 cY2) := NbV.out (hJ.still 4 rfl rfl (Nat.le_of_ble_eq_true (by kernel_rfl)))
  have nY7 : Nq w7 (.agg #[.bool sY, .slice AY1 kY1 cY1, .slice AY2 kY2 cY2]) (q) := hJ.kept 3 rfl
  clear hall hJ
  go_wp2_with fail
  have hps := prod_pos H0.out H1.out H2.out
  rw [if_neg H3.out, if_neg H4.out] at hps
  rw [hps.1, hps.2] at nT7
  obtain ⟨z0, z1, z2, z3, z4, z5⟩ := hT7.cells
  refine bodyPost_ret (v := .agg #[.bool sT1, .slice AT1 kT1 cT1, .slice AT2 kT2 cT2, .bool sT2, .slice AT3 kT3 cT3, .slice AT4 kT4 cT4]) (by simp [results, Tryz.results155, go_sem, z0, z1, z2, z3, z4, z5]) rfl ?_
  exact ⟨_, rfl, nT7, hG7⟩
set_option maxRecDepth 100000 in
set_option maxHeartbeats 4000000 in
theorem q_product_neg (a b : Value) (p q pb qb : Rat) (w : World) (hT9 : Tb w) (ha : Ns w a p q) (hb : Ns w b pb qb) (h0 : q < 0) (h1 : p ≤ q) (h2 : pb ≤ qb) (hB : sz p + sz q + sz pb + sz qb ≤ 100000000) : Calls Tryz.prog 155 #[a, b] w fun e w' => ∃ r, e = .returned r ∧ Ns w' r (pmin p q pb qb) (pmax p q pb qb) ∧ Q w w' := by
 have h1y := ha
 obtain ⟨s11, A11, n11, c11, A12, n12, c12, s12, A13, n13, c13, A14, n14, c14, rfl, lo1, hi1⟩ := ha
 have n1y : Ns w (.agg #[.bool s11, .slice A11 n11 c11, .slice A12 n12 c12, .bool s12, .slice A13 n13 c13, .slice A14 n14 c14]) p q := h1y
 have h2y := hb
 obtain ⟨s21, A21, n21, c21, A22, n22, c22, s22, A23, n23, c23, A24, n24, c24, rfl, lo2, hi2⟩ := hb
 have n2y : Ns w (.agg #[.bool s21, .slice A21 n21 c21, .slice A22 n22 c22, .bool s22, .slice A23 n23 c23, .slice A24 n24 c24]) pb qb := h2y
 obtain ⟨w0, hW, hG0, hA0, hB0, hT0⟩ := boxS2r w s11 (.slice A11 n11 c11) (.slice A12 n12 c12) s12 (.slice A13 n13 c13) (.slice A14 n14 c14) s21 (.slice A21 n21 c21) (.slice A22 n22 c22) s22 (.slice A23 n23 c23) (.slice A24 n24 c24)
 have Z1 : Hid (sz p ≤ 100000000) := Lib.hid (by omega)
 have Z2 : Hid (sz q ≤ 100000000) := Lib.hid (by omega)
 have Z3 : Hid (sz pb ≤ 100000000) := Lib.hid (by omega)
 have Z4 : Hid (sz qb ≤ 100000000) := Lib.hid (by omega)
 have ZS := Lib.hid hB
 clear hB
 have nA0 := n1y.q hG0; have nB0 := n2y.q hG0
 clear h1y h2y n1y n2y lo1 hi1 lo2 hi2
 go_enter Tryz.func155, Tryz.ntmps155
 go_upto_region 1 with fail
 clear hW
 have hsa := (NsLo nA0).sign; have hsb := (NsHi nA0).sign; have hsc := (NsLo nB0).sign; have hsd := (NsHi nB0).sign
 have HSA := Lib.hid hsa; clear hsa
 have HSB := Lib.hid hsb; clear hsb
 have HSC := Lib.hid hsc; clear hsc
 have HSD := Lib.hid hsd; clear hsd
 have hp0 : Hid (p < 0) := Lib.hid (by grind)
 have H0 := Lib.hid h0; have H1 := Lib.hid h1; have H2 := Lib.hid h2; clear h0 h1 h2
 refine text_each (F := ?F16) ([.eq (.pointer (some ⟨w.heap.size, 0, none⟩)), .eq (.pointer (some ⟨w.heap.size, 0, none⟩)), .eq (.bool true), .eq (.bool true), .eq (.pointer (some ⟨w.heap.size, 3, none⟩)), .eq (.pointer (some ⟨w.heap.size, 3, none⟩)), .eq (.bool true), .eq (.bool false), .eq (.bool false), .eq (.bool false), .any, .any, .any, .eq (.bool false), .eq (.bool false), .any, .any, .any, .any, .eq (.bool false), .eq (.bool false)] : List Vs) (by kernel_rfl) ?hF16 ?st16 ?en16
 case hF16 =>
  intro vals
  simp only [Ja.fillL, Act.put, List.setIfInBounds_toArray, List.set_cons_zero, List.set_cons_succ, Nat.reduceAdd]
  exact rfl
 case st16 =>
  intro hctx
  refine Each.y hctx ?_ ?_
  ·intro vals W hM hd K hK
   go_simp
   exact hK.out (.pointer (some ⟨w.heap.size, 0, none⟩)) _ _ (by kernel_rfl) rfl (Q.refl _)
  refine Each.y hctx ?_ ?_
  ·intro vals W hM hd K hK
   have d0 : vals 0 = .pointer (some ⟨w.heap.size, 0, none⟩) := hd 0 (by kernel_rfl)
   generalize vals 0 = u0 at d0 hK ⊢
   subst d0
   go_simp
   exact hK.out (.pointer (some ⟨w.heap.size, 0, none⟩)) _ _ (by kernel_rfl) rfl (Q.refl _)
  refine Each.y hctx ?_ ?_
  ·intro vals W hM hd K hK
   have hN : Q w0 W := hM
   have d1 : vals 1 = .pointer (some ⟨w.heap.size, 0, none⟩) := hd 1 (by kernel_rfl)
   generalize vals 1 = u1 at d1 hK ⊢
   subst d1
   obtain ⟨z0, z1, z2, z3, z4, z5⟩ := (hA0.q hN).cells
   go_simp
   exact hK.out (.bool s11) _ _ (by kernel_rfl) (congrArg Value.bool ((HSA.out.trans (decide_eq_true (hp0.out))))) (Q.refl _)
  refine Each.y hctx ?_ ?_
  ·intro vals W hM hd K hK
   have d2 : vals 2 = .bool true := hd 2 (by kernel_rfl)
   generalize vals 2 = u2 at d2 hK ⊢
   subst d2
   go_simp
   exact hK.out (.bool true) _ _ (by kernel_rfl) rfl (Q.refl _)
  refine Each.y hctx ?_ ?_
  ·intro vals W hM hd K hK
   go_simp
   exact hK.out (.pointer (some ⟨w.heap.size, 3, none⟩)) _ _ (by kernel_rfl) rfl (Q.refl _)
  refine Each.y hctx ?_ ?_
  ·intro vals W hM hd K hK
   have d4 : vals 4 = .pointer (some ⟨w.heap.size, 3, none⟩) := hd 4 (by kernel_rfl)
   generalize vals 4 = u4 at d4 hK ⊢
   subst d4
   go_simp
   exact hK.out (.pointer (some ⟨w.heap.size, 3, none⟩)) _ _ (by kernel_rfl) rfl (Q.refl _)
  refine Each.y hctx ?_ ?_
  ·intro vals W hM hd K hK
   have hN : Q w0 W := hM
   have d5 : vals 5 = .pointer (some ⟨w.heap.size, 3, none⟩) := hd 5 (by kernel_rfl)
   generalize vals 5 = u5 at d5 hK ⊢
   subst d5
   obtain ⟨z0, z1, z2, z3, z4, z5⟩ := (hA0.q hN).cells
   go_simp
   exact hK.out (.bool s12) _ _ (by kernel_rfl) (congrArg Value.bool ((HSB.out.trans (decide_eq_true (H0.out))))) (Q.refl _)
  refine Each.y hctx ?_ ?_
  ·intro vals W hM hd K hK
   have d6 : vals 6 = .bool true := hd 6 (by kernel_rfl)
   generalize vals 6 = u6 at d6 hK ⊢
   subst d6
   go_simp
   exact hK.out (.bool false) _ _ (by kernel_rfl) rfl (Q.refl _)
  refine Each.y hctx ?_ ?_
  ·intro vals W hM hd K hK
   have d3 : vals 3 = .bool true := hd 3 (by kernel_rfl)
   generalize vals 3 = u3 at d3 hK ⊢
   subst d3
   have d7 : vals 7 = .bool false := hd 7 (by kernel_rfl)
   generalize vals 7 = u7 at d7 hK ⊢
   subst d7
   go_simp
   exact hK.out (.bool false) _ _ (by kernel_rfl) rfl (Q.refl _)
  refine Each.y hctx ?_ ?_
  ·intro vals W hM hd K hK
   have d8 : vals 8 = .bool false := hd 8 (by kernel_rfl)
   generalize vals 8 = u8 at d8 hK ⊢
   subst d8
   go_simp
   exact hK.out (.bool false) _ _ (by kernel_rfl) rfl (Q.refl _)
  refine Each.n hctx ?_
  refine Each.n hctx ?_
  refine Each.n hctx ?_
  refine Each.y hctx ?_ ?_
  ·intro vals W hM hd K hK
   have d9 : vals 9 = .bool false := hd 9 (by kernel_rfl)
   generalize vals 9 = u9 at d9 hK ⊢
   subst d9
   go_simp
   exact hK.out (.bool false) _ _ (by kernel_rfl) rfl (Q.refl _)
  refine Each.y hctx ?_ ?_
  ·intro vals W hM hd K hK
   have d13 : vals 13 = .bool false := hd 13 (by kernel_rfl)
   generalize vals 13 = u13 at d13 hK ⊢
   subst d13
   go_simp
   exact hK.out (.bool false) _ _ (by kernel_rfl) rfl (Q.refl _)
  refine Each.n hctx ?_
  refine Each.n hctx ?_
  refine Each.n hctx ?_
  refine Each.n hctx ?_
  refine Each.y hctx ?_ ?_
  ·intro vals W hM hd K hK
   have d14 : vals 14 = .bool false := hd 14 (by kernel_rfl)
   generalize vals 14 = u14 at d14 hK ⊢
   subst d14
   go_simp
   exact hK.out (.bool false) _ _ (by kernel_rfl) rfl (Q.refl _)
  refine Each.y hctx ?_ ?_
  ·intro vals W hM hd K hK
   have d19 : vals 19 = .bool false := hd 19 (by kernel_rfl)
   generalize vals 19 = u19 at d19 hK ⊢
   subst d19
   go_simp
   exact hK.out (.bool false) _ _ (by kernel_rfl) rfl (Q.refl _)
  exact Ja.Steps.nil
 intro vals w1 hq1 hall
 have hG1 := hG0.trans hq1
 have hA1 := hA0.q hq1
 have nA1 := nA0.q hq1
 have hB1 := hB0.q hq1
 have nB1 := nB0.q hq1
 have hT1 := hT0.q hq1
 have f7 : vals 20 = .bool false := hall 20 (by decide)
 rw [f7]
 clear hall hq1 hG0 hA0 hB0 hT0 nA0 nB0
 go_upto_region 3 with fail
 refine text_each (F := ?F17) ([.eq (.pointer (some ⟨w.heap.size, 3, none⟩)), .eq (.pointer (some ⟨w.heap.size, 3, none⟩)), .eq (.bool true), .eq (.bool true)] : List Vs) (by kernel_rfl) ?hF17 ?st17 ?en17
 case hF17 =>
  intro vals
  simp only [Ja.fillL, Act.put, List.setIfInBounds_toArray, List.set_cons_zero, List.set_cons_succ, Nat.reduceAdd]
  exact rfl
 case st17 =>
  intro hctx
  refine Each.y hctx ?_ ?_
  ·intro vals W hM hd K hK
   go_simp
   exact hK.out (.pointer (some ⟨w.heap.size, 3, none⟩)) _ _ (by kernel_rfl) rfl (Q.refl _)
  refine Each.y hctx ?_ ?_
  ·intro vals W hM hd K hK
   have d0 : vals 0 = .pointer (some ⟨w.heap.size, 3, none⟩) := hd 0 (by kernel_rfl)
   generalize vals 0 = u0 at d0 hK ⊢
   subst d0
   go_simp
   exact hK.out (.pointer (some ⟨w.heap.size, 3, none⟩)) _ _ (by kernel_rfl) rfl (Q.refl _)
  refine Each.y hctx ?_ ?_
  ·intro vals W hM hd K hK
   have hN : Q w1 W := hM
   have d1 : vals 1 = .pointer (some ⟨w.heap.size, 3, none⟩) := hd 1 (by kernel_rfl)
   generalize vals 1 = u1 at d1 hK ⊢
   subst d1
   obtain ⟨z0, z1, z2, z3, z4, z5⟩ := (hA1.q hN).cells
   go_simp
   exact hK.out (.bool s12) _ _ (by kernel_rfl) (congrArg Value.bool ((HSB.out.trans (decide_eq_true (H0.out))))) (Q.refl _)
  refine Each.y hctx ?_ ?_
  ·intro vals W hM hd K hK
   have d2 : vals 2 = .bool true := hd 2 (by kernel_rfl)
   generalize vals 2 = u2 at d2 hK ⊢
   subst d2
   go_simp
   exact hK.out (.bool true) _ _ (by kernel_rfl) rfl (Q.refl _)
  exact Ja.Steps.nil
 intro vals w2 hq2 hall
 have hG2 := hG1.trans hq2
 have hA2 := hA1.q hq2
 have nA2 := nA1.q hq2
 have hB2 := hB1.q hq2
 have nB2 := nB1.q hq2
 have hT2 := hT1.q hq2
 have f51 : vals 3 = .bool true := hall 3 (by decide)
 rw [f51]
 clear hall hq2 hG1 hA1 hB1 hT1 nA1 nB1
 go_upto_region 4 with fail
 have Z5 : Hid (sz (-(q)) ≤ 100000000) := Lib.hid (by have h9 := sz_neg (q); have h0 := Z2.out; omega)
 have Z6 : Hid (sz (-(p)) ≤ 100000000) := Lib.hid (by have h9 := sz_neg (p); have h0 := Z1.out; omega)
 have Z7 : Hid (sz (pmin (-(q)) (-(p)) (pb) (qb)) ≤ 800000000) := Lib.hid (by have h9 := sz_pmin (-(q)) (-(p)) (pb) (qb); have h0 := Z5.out; have h1 := Z6.out; have h2 := Z3.out; have h3 := Z4.out; omega)
 have Z8 : Hid (sz (pmax (-(q)) (-(p)) (pb) (qb)) ≤ 800000000) := Lib.hid (by have h9 := sz_pmax (-(q)) (-(p)) (pb) (qb); have h0 := Z5.out; have h1 := Z6.out; have h2 := Z3.out; have h3 := Z4.out; omega)
 have B9 : Hid (sz (-(q)) + sz (-(p)) + sz (pb) + sz (qb) ≤ 100000000) := Lib.hid (by have h0 := Z5.out; have h1 := Z6.out; have h2 := Z3.out; have h3 := Z4.out; have hs := ZS.out; have e1 := sz_neg p; have e2 := sz_neg q; omega)
 have Z10 : Hid (sz (-(pmax (-(q)) (-(p)) (pb) (qb))) ≤ 800000000) := Lib.hid (by have h9 := sz_neg (pmax (-(q)) (-(p)) (pb) (qb)); have h0 := Z8.out; omega)
 have Z11 : Hid (sz (-(pmin (-(q)) (-(p)) (pb) (qb))) ≤ 800000000) := Lib.hid (by have h9 := sz_neg (pmin (-(q)) (-(p)) (pb) (qb)); have h0 := Z7.out; omega)
 have hAt2 : At0 w [{ al := none, g := w.heap.size, big := true, row := .agg #[.bool s11, .slice A11 n11 c11, .slice A12 n12 c12, .bool s12, .slice A13 n13 c13, .slice A14 n14 c14], st := 1000, src := 0 }, { al := none, g := w.heap.size + 1, big := true, row := .agg #[.bool s21, .slice A21 n21 c21, .slice A22 n22 c22, .bool s22, .slice A23 n23 c23, .slice A24 n24 c24], st := 1000, src := 0 }, { al := none, g := w.heap.size + 1 + 1, big := true, row := .agg #[.bool false, .slice none 0 0, .slice none 0 0, .bool false, .slice none 0 0, .slice none 0 0], st := 5, src := 4 }] [(.agg #[.bool s11, .slice A11 n11 c11, .slice A12 n12 c12, .bool s12, .slice A13 n13 c13, .slice A14 n14 c14], .span (p) (q)), (.agg #[.bool s21, .slice A21 n21 c21, .slice A22 n22 c22, .bool s22, .slice A23 n23 c23, .slice A24 n24 c24], .span (pb) (qb))] w2 := At0.of hG2 ⟨fun _ => ⟨by dsimp only; omega, NbV.ofS hA2⟩, fun _ => ⟨by dsimp only; omega, NbV.ofS hB2⟩, fun _ => ⟨by dsimp only; omega, NbV.ofS hT2⟩, trivial⟩ (by (simp [Apart0] <;> omega)) ⟨nA2, nB2, trivial⟩
 clear hG2 hA2 hB2 hT2 nA2 nB2
 refine region_cells (F := ?F18) w ([.span (p) (q), .span (-(q)) (-(p)), .span (pb) (qb), .span (pmin (-(q)) (-(p)) (pb) (qb)) (pmax (-(q)) (-(p)) (pb) (qb)), .span (-(pmax (-(q)) (-(p)) (pb) (qb))) (-(pmin (-(q)) (-(p)) (pb) (qb))), .any] : List Vs) _ _ (by kernel_rfl) (by kernel_rfl) hAt2 ?hF18 ?st18 ?en18
 case hF18 =>
  intro vals
  simp only [Ja.fillL, Act.put, List.setIfInBounds_toArray, List.set_cons_zero, List.set_cons_succ, Nat.reduceAdd]
  exact rfl
 case st18 =>
  clear hAt2
  intro hctx
  refine JC.o hctx ?_ ?_
  ·intro L vals W hL hJ hd K hK
   obtain ⟨z0, z1, z2, z3, z4, z5⟩ := (NbV.outS (hJ.still 0 rfl rfl (Nat.le_of_ble_eq_true (by kernel_rfl)))).cells
   go_simp
   exact hK.out (.agg #[.bool s11, .slice A11 n11 c11, .slice A12 n12 c12, .bool s12, .slice A13 n13 c13, .slice A14 n14 c14]) _ _ (by kernel_rfl) (hJ.kept 0 rfl) (Q.refl _)
  refine JC.o hctx ?_ ?_
  ·intro L vals W hL hJ hd K hK
   have d0 : Ns W (vals 0) (p) (q) := hd 0 (by kernel_rfl)
   go_simp
   (with_reducible refine (q_Sopposite _ (p) (q) W d0).mono ?_)
   rintro e W9 ⟨r, rfl, hr, hq9⟩
   exact hK.out r W9 _ (by kernel_rfl) hr hq9
  refine JC.o hctx ?_ ?_
  ·intro L vals W hL hJ hd K hK
   obtain ⟨z0, z1, z2, z3, z4, z5⟩ := (NbV.outS (hJ.still 1 rfl rfl (Nat.le_of_ble_eq_true (by kernel_rfl)))).cells
   go_simp
   exact hK.out (.agg #[.bool s21, .slice A21 n21 c21, .slice A22 n22 c22, .bool s22, .slice A23 n23 c23, .slice A24 n24 c24]) _ _ (by kernel_rfl) (hJ.kept 1 rfl) (Q.refl _)
  refine JC.o hctx ?_ ?_
  ·intro L vals W hL hJ hd K hK
   have hQ := hJ.q
   have d1 : Ns W (vals 1) (-(q)) (-(p)) := hd 1 (by kernel_rfl)
   have d2 : Ns W (vals 2) (pb) (qb) := hd 2 (by kernel_rfl)
   go_simp
   (with_reducible refine (q_product_pos _ _ (-(q)) (-(p)) (pb) (qb) W (hT9.q hQ) d1 d2 (by have := H0.out; grind) (by have := H1.out; grind) H2.out B9.out).mono ?_)
   rintro e W9 ⟨r, rfl, hr, hq9⟩
   exact hK.out r W9 _ (by kernel_rfl) hr hq9
  refine JC.o hctx ?_ ?_
  ·intro L vals W hL hJ hd K hK
   have d3 : Ns W (vals 3) (pmin (-(q)) (-(p)) (pb) (qb)) (pmax (-(q)) (-(p)) (pb) (qb)) := hd 3 (by kernel_rfl)
   go_simp
   (with_reducible refine (q_Sopposite _ (pmin (-(q)) (-(p)) (pb) (qb)) (pmax (-(q)) (-(p)) (pb) (qb)) W d3).mono ?_)
   rintro e W9 ⟨r, rfl, hr, hq9⟩
   exact hK.out r W9 _ (by kernel_rfl) hr hq9
  refine Ja.Steps.cons (JC.store (n := 2) hctx (by kernel_rfl) (by rfl) (by kernel_rfl) (by rfl) (by rfl) (by kernel_rfl) (by rfl) ?_) ?_
  ·intro L vals W g old hJ hp ho hs K hK
   have hs9 : Ns W (vals 4) (-(pmax (-(q)) (-(p)) (pb) (qb))) (-(pmin (-(q)) (-(p)) (pb) (qb))) := hs
   dsimp only at hK
   obtain rfl : w.heap.size + 1 + 1 = g := by injection hp with hp; injection hp with hp; injection hp with hp
   generalize vals 4 = uj at hs9 hK ⊢
   obtain ⟨e1, C1, i1, j1, C2, i2, j2, e2, C3, i3, j3, C4, i4, j4, rfl, -, -⟩ := hs9
   obtain ⟨f1, D1, x1, y1, D2, x2, y2, f2, D3, x3, y3, D4, x4, y4, ho1, hb⟩ := ho
   have fz := hb.frozen
   obtain ⟨r0, r1, r2, r3, r4, r5⟩ := hb.cells
   clear hb ho1 hp
   go_simp
   exact hK.out undef _ _ (by kernel_rfl) PutV.ofS
  exact Ja.Steps.nil
 intro L vals w3 hall hJ
 clear hAt2
 have hG3 := hJ.q
 have hA3 : Sp w3 (w.heap.size) (s11) (.slice A11 n11 c11) (.slice A12 n12 c12) (s12) (.slice A13 n13 c13) (.slice A14 n14 c14) := NbV.outS (hJ.still 0 rfl rfl (Nat.le_of_ble_eq_true (by kernel_rfl)))
 have nA3 : Ns w3 (.agg #[.bool s11, .slice A11 n11 c11, .slice A12 n12 c12, .bool s12, .slice A13 n13 c13, .slice A14 n14 c14]) (p) (q) := hJ.kept 0 rfl
 have hB3 : Sp w3 (w.heap.size + 1) (s21) (.slice A21 n21 c21) (.slice A22 n22 c22) (s22) (.slice A23 n23 c23) (.slice A24 n24 c24) := NbV.outS (hJ.still 1 rfl rfl (Nat.le_of_ble_eq_true (by kernel_rfl)))
 have nB3 : Ns w3 (.agg #[.bool s21, .slice A21 n21 c21, .slice A22 n22 c22, .bool s22, .slice A23 n23 c23, .slice A24 n24 c24]) (pb) (qb) := hJ.kept 1 rfl
 have qT : NbV w3 (w.heap.size + 1 + 1) true (vals 4) := hJ.stored 2 rfl rfl (hall 5 (by decide))
 have nT3 : Ns w3 (vals 4) (-(pmax (-(q)) (-(p)) (pb) (qb))) (-(pmin (-(q)) (-(p)) (pb) (qb))) := hJ.s 4 (hall 4 (by decide))
 obtain ⟨sT1, AT1, kT1, cT1, AT2, kT2, cT2, sT2, AT3, kT3, cT3, AT4, kT4, cT4, yT, hT3⟩ := qT
 change Sp w3 (w.heap.size + 1 + 1) (sT1) (.slice AT1 kT1 cT1) (.slice AT2 kT2 cT2) (sT2) (.slice AT3 kT3 cT3) (.slice AT4 kT4 cT4) at hT3
 try dsimp only at yT
 rw [yT] at nT3
 clear yT
 clear hall hJ
 go_wp2_with fail
 have hps := prod_neg p q pb qb
 rw [hps.1, hps.2] at nT3
 obtain ⟨z0, z1, z2, z3, z4, z5⟩ := hT3.cells
 refine bodyPost_ret (v := .agg #[.bool sT1, .slice AT1 kT1 cT1, .slice AT2 kT2 cT2, .bool sT2, .slice AT3 kT3 cT3, .slice AT4 kT4 cT4]) (by simp [results, Tryz.results155, go_sem, z0, z1, z2, z3, z4, z5]) rfl ?_
 exact ⟨_, rfl, nT3, hG3⟩
set_option maxRecDepth 100000 in
set_option maxHeartbeats 4000000 in
theorem q_product_both (a b : Value) (p q pb qb : Rat) (w : World) (hT9 : Tb w) (ha : Ns w a p q) (hb : Ns w b pb qb) (h0 : p < 0) (h1 : ¬ q < 0) (h2 : pb < 0) (h3 : ¬ qb < 0) (hB : sz p + sz q + sz pb + sz qb ≤ 100000000) : Calls Tryz.prog 155 #[a, b] w fun e w' => ∃ r, e = .returned r ∧ Ns w' r (pmin p q pb qb) (pmax p q pb qb) ∧ Q w w' := by
 have h1y := ha
 obtain ⟨s11, A11, n11, c11, A12, n12, c12, s12, A13, n13, c13, A14, n14, c14, rfl, lo1, hi1⟩ := ha
 have n1y : Ns w (.agg #[.bool s11, .slice A11 n11 c11, .slice A12 n12 c12, .bool s12, .slice A13 n13 c13, .slice A14 n14 c14]) p q := h1y
 have h2y := hb
 obtain ⟨s21, A21, n21, c21, A22, n22, c22, s22, A23, n23, c23, A24, n24, c24, rfl, lo2, hi2⟩ := hb
 have n2y : Ns w (.agg #[.bool s21, .slice A21 n21 c21, .slice A22 n22 c22, .bool s22, .slice A23 n23 c23, .slice A24 n24 c24]) pb qb := h2y
 obtain ⟨w0, hW, hG0, hA0, hB0, hT0⟩ := boxS2r w s11 (.slice A11 n11 c11) (.slice A12 n12 c12) s12 (.slice A13 n13 c13) (.slice A14 n14 c14) s21 (.slice A21 n21 c21) (.slice A22 n22 c22) s22 (.slice A23 n23 c23) (.slice A24 n24 c24)
 have Z1 : Hid (sz p ≤ 100000000) := Lib.hid (by omega)
 have Z2 : Hid (sz q ≤ 100000000) := Lib.hid (by omega)
 have Z3 : Hid (sz pb ≤ 100000000) := Lib.hid (by omega)
 have Z4 : Hid (sz qb ≤ 100000000) := Lib.hid (by omega)
 have ZS := Lib.hid hB
 clear hB
 have nA0 := n1y.q hG0; have nB0 := n2y.q hG0
 clear h1y h2y n1y n2y lo1 hi1 lo2 hi2
 go_enter Tryz.func155, Tryz.ntmps155
 go_upto_region 1 with fail
 clear hW
 have hsa := (NsLo nA0).sign; have hsb := (NsHi nA0).sign; have hsc := (NsLo nB0).sign; have hsd := (NsHi nB0).sign
 have HSA := Lib.hid hsa; clear hsa
 have HSB := Lib.hid hsb; clear hsb
 have HSC := Lib.hid hsc; clear hsc
 have HSD := Lib.hid hsd; clear hsd
 have H0 := Lib.hid h0; have H1 := Lib.hid h1; have H2 := Lib.hid h2; have H3 := Lib.hid h3; clear h0 h1 h2 h3
 refine text_each (F := ?F19) ([.eq (.pointer (some ⟨w.heap.size, 0, none⟩)), .eq (.pointer (some ⟨w.heap.size, 0, none⟩)), .eq (.bool true), .eq (.bool true), .eq (.pointer (some ⟨w.heap.size, 3, none⟩)), .eq (.pointer (some ⟨w.heap.size, 3, none⟩)), .eq (.bool false), .eq (.bool true), .eq (.bool true), .eq (.bool true), .eq (.pointer (some ⟨w.heap.size + 1, 0, none⟩)), .eq (.pointer (some ⟨w.heap.size + 1, 0, none⟩)), .eq (.bool true), .eq (.bool true), .eq (.bool true), .eq (.pointer (some ⟨w.heap.size + 1, 3, none⟩)), .eq (.pointer (some ⟨w.heap.size + 1, 3, none⟩)), .eq (.bool false), .eq (.bool true), .eq (.bool true), .eq (.bool true)] : List Vs) (by kernel_rfl) ?hF19 ?st19 ?en19
 case hF19 =>
  intro vals
  simp only [Ja.fillL, Act.put, List.setIfInBounds_toArray, List.set_cons_zero, List.set_cons_succ, Nat.reduceAdd]
  exact rfl
 case st19 =>
  intro hctx
  refine Each.y hctx ?_ ?_
  ·intro vals W hM hd K hK
   go_simp
   exact hK.out (.pointer (some ⟨w.heap.size, 0, none⟩)) _ _ (by kernel_rfl) rfl (Q.refl _)
  refine Each.y hctx ?_ ?_
  ·intro vals W hM hd K hK
   have d0 : vals 0 = .pointer (some ⟨w.heap.size, 0, none⟩) := hd 0 (by kernel_rfl)
   generalize vals 0 = u0 at d0 hK ⊢
   subst d0
   go_simp
   exact hK.out (.pointer (some ⟨w.heap.size, 0, none⟩)) _ _ (by kernel_rfl) rfl (Q.refl _)
  refine Each.y hctx ?_ ?_
  ·intro vals W hM hd K hK
   have hN : Q w0 W := hM
   have d1 : vals 1 = .pointer (some ⟨w.heap.size, 0, none⟩) := hd 1 (by kernel_rfl)
   generalize vals 1 = u1 at d1 hK ⊢
   subst d1
   obtain ⟨z0, z1, z2, z3, z4, z5⟩ := (hA0.q hN).cells
   go_simp
   exact hK.out (.bool s11) _ _ (by kernel_rfl) (congrArg Value.bool ((HSA.out.trans (decide_eq_true (H0.out))))) (Q.refl _)
  refine Each.y hctx ?_ ?_
  ·intro vals W hM hd K hK
   have d2 : vals 2 = .bool true := hd 2 (by kernel_rfl)
   generalize vals 2 = u2 at d2 hK ⊢
   subst d2
   go_simp
   exact hK.out (.bool true) _ _ (by kernel_rfl) rfl (Q.refl _)
  refine Each.y hctx ?_ ?_
  ·intro vals W hM hd K hK
   go_simp
   exact hK.out (.pointer (some ⟨w.heap.size, 3, none⟩)) _ _ (by kernel_rfl) rfl (Q.refl _)
  refine Each.y hctx ?_ ?_
  ·intro vals W hM hd K hK
   have d4 : vals 4 = .pointer (some ⟨w.heap.size, 3, none⟩) := hd 4 (by kernel_rfl)
   generalize vals 4 = u4 at d4 hK ⊢
   subst d4
   go_simp
   exact hK.out (.pointer (some ⟨w.heap.size, 3, none⟩)) _ _ (by kernel_rfl) rfl (Q.refl _)
  refine Each.y hctx ?_ ?_
  ·intro vals W hM hd K hK
   have hN : Q w0 W := hM
   have d5 : vals 5 = .pointer (some ⟨w.heap.size, 3, none⟩) := hd 5 (by kernel_rfl)
   generalize vals 5 = u5 at d5 hK ⊢
   subst d5
   obtain ⟨z0, z1, z2, z3, z4, z5⟩ := (hA0.q hN).cells
   go_simp
   exact hK.out (.bool s12) _ _ (by kernel_rfl) (congrArg Value.bool ((HSB.out.trans (decide_eq_false (H1.out))))) (Q.refl _)
  refine Each.y hctx ?_ ?_
  ·intro vals W hM hd K hK
   have d6 : vals 6 = .bool false := hd 6 (by kernel_rfl)
   generalize vals 6 = u6 at d6 hK ⊢
   subst d6
   go_simp
   exact hK.out (.bool true) _ _ (by kernel_rfl) rfl (Q.refl _)
  refine Each.y hctx ?_ ?_
  ·intro vals W hM hd K hK
   have d3 : vals 3 = .bool true := hd 3 (by kernel_rfl)
   generalize vals 3 = u3 at d3 hK ⊢
   subst d3
   have d7 : vals 7 = .bool true := hd 7 (by kernel_rfl)
   generalize vals 7 = u7 at d7 hK ⊢
   subst d7
   go_simp
   exact hK.out (.bool true) _ _ (by kernel_rfl) rfl (Q.refl _)
  refine Each.y hctx ?_ ?_
  ·intro vals W hM hd K hK
   have d8 : vals 8 = .bool true := hd 8 (by kernel_rfl)
   generalize vals 8 = u8 at d8 hK ⊢
   subst d8
   go_simp
   exact hK.out (.bool true) _ _ (by kernel_rfl) rfl (Q.refl _)
  refine Each.y hctx ?_ ?_
  ·intro vals W hM hd K hK
   go_simp
   exact hK.out (.pointer (some ⟨w.heap.size + 1, 0, none⟩)) _ _ (by kernel_rfl) rfl (Q.refl _)
  refine Each.y hctx ?_ ?_
  ·intro vals W hM hd K hK
   have d10 : vals 10 = .pointer (some ⟨w.heap.size + 1, 0, none⟩) := hd 10 (by kernel_rfl)
   generalize vals 10 = u10 at d10 hK ⊢
   subst d10
   go_simp
   exact hK.out (.pointer (some ⟨w.heap.size + 1, 0, none⟩)) _ _ (by kernel_rfl) rfl (Q.refl _)
  refine Each.y hctx ?_ ?_
  ·intro vals W hM hd K hK
   have hN : Q w0 W := hM
   have d11 : vals 11 = .pointer (some ⟨w.heap.size + 1, 0, none⟩) := hd 11 (by kernel_rfl)
   generalize vals 11 = u11 at d11 hK ⊢
   subst d11
   obtain ⟨z0, z1, z2, z3, z4, z5⟩ := (hB0.q hN).cells
   go_simp
   exact hK.out (.bool s21) _ _ (by kernel_rfl) (congrArg Value.bool ((HSC.out.trans (decide_eq_true (H2.out))))) (Q.refl _)
  refine Each.y hctx ?_ ?_
  ·intro vals W hM hd K hK
   have d9 : vals 9 = .bool true := hd 9 (by kernel_rfl)
   generalize vals 9 = u9 at d9 hK ⊢
   subst d9
   have d12 : vals 12 = .bool true := hd 12 (by kernel_rfl)
   generalize vals 12 = u12 at d12 hK ⊢
   subst d12
   go_simp
   exact hK.out (.bool true) _ _ (by kernel_rfl) rfl (Q.refl _)
  refine Each.y hctx ?_ ?_
  ·intro vals W hM hd K hK
   have d13 : vals 13 = .bool true := hd 13 (by kernel_rfl)
   generalize vals 13 = u13 at d13 hK ⊢
   subst d13
   go_simp
   exact hK.out (.bool true) _ _ (by kernel_rfl) rfl (Q.refl _)
  refine Each.y hctx ?_ ?_
  ·intro vals W hM hd K hK
   go_simp
   exact hK.out (.pointer (some ⟨w.heap.size + 1, 3, none⟩)) _ _ (by kernel_rfl) rfl (Q.refl _)
  refine Each.y hctx ?_ ?_
  ·intro vals W hM hd K hK
   have d15 : vals 15 = .pointer (some ⟨w.heap.size + 1, 3, none⟩) := hd 15 (by kernel_rfl)
   generalize vals 15 = u15 at d15 hK ⊢
   subst d15
   go_simp
   exact hK.out (.pointer (some ⟨w.heap.size + 1, 3, none⟩)) _ _ (by kernel_rfl) rfl (Q.refl _)
  refine Each.y hctx ?_ ?_
  ·intro vals W hM hd K hK
   have hN : Q w0 W := hM
   have d16 : vals 16 = .pointer (some ⟨w.heap.size + 1, 3, none⟩) := hd 16 (by kernel_rfl)
   generalize vals 16 = u16 at d16 hK ⊢
   subst d16
   obtain ⟨z0, z1, z2, z3, z4, z5⟩ := (hB0.q hN).cells
   go_simp
   exact hK.out (.bool s22) _ _ (by kernel_rfl) (congrArg Value.bool ((HSD.out.trans (decide_eq_false (H3.out))))) (Q.refl _)
  refine Each.y hctx ?_ ?_
  ·intro vals W hM hd K hK
   have d17 : vals 17 = .bool false := hd 17 (by kernel_rfl)
   generalize vals 17 = u17 at d17 hK ⊢
   subst d17
   go_simp
   exact hK.out (.bool true) _ _ (by kernel_rfl) rfl (Q.refl _)
  refine Each.y hctx ?_ ?_
  ·intro vals W hM hd K hK
   have d14 : vals 14 = .bool true := hd 14 (by kernel_rfl)
   generalize vals 14 = u14 at d14 hK ⊢
   subst d14
   have d18 : vals 18 = .bool true := hd 18 (by kernel_rfl)
   generalize vals 18 = u18 at d18 hK ⊢
   subst d18
   go_simp
   exact hK.out (.bool true) _ _ (by kernel_rfl) rfl (Q.refl _)
  refine Each.y hctx ?_ ?_
  ·intro vals W hM hd K hK
   have d19 : vals 19 = .bool true := hd 19 (by kernel_rfl)
   generalize vals 19 = u19 at d19 hK ⊢
   subst d19
   go_simp
   exact hK.out (.bool true) _ _ (by kernel_rfl) rfl (Q.refl _)
  exact Ja.Steps.nil
 intro vals w1 hq1 hall
 have hG1 := hG0.trans hq1
 have hA1 := hA0.q hq1
 have nA1 := nA0.q hq1
 have hB1 := hB0.q hq1
 have nB1 := nB0.q hq1
 have hT1 := hT0.q hq1
 have f7 : vals 20 = .bool true := hall 20 (by decide)
 rw [f7]
 clear hall hq1 hG0 hA0 hB0 hT0 nA0 nB0
 go_upto_region 2 with fail
 have Z5 : Hid (sz ((p) * (qb)) ≤ 200000000) := Lib.hid (by have h9 := sz_mul (p) (qb); have h0 := Z1.out; have h1 := Z4.out; omega)
 have B6 : Hid (16 * (sz (p) + sz (qb)) + 100 ≤ LIM) := Lib.hid (by have h0 := Z1.out; have h1 := Z4.out; rw [LIM_eq]; omega)
 have Z7 : Hid (sz ((q) * (pb)) ≤ 200000000) := Lib.hid (by have h9 := sz_mul (q) (pb); have h0 := Z2.out; have h1 := Z3.out; omega)
 have B8 : Hid (16 * (sz (q) + sz (pb)) + 100 ≤ LIM) := Lib.hid (by have h0 := Z2.out; have h1 := Z3.out; rw [LIM_eq]; omega)
 have Z9 : Hid (sz (rmin ((p) * (qb)) ((q) * (pb))) ≤ 400000000) := Lib.hid (by have h9 := sz_rmin ((p) * (qb)) ((q) * (pb)); have h0 := Z5.out; have h1 := Z7.out; omega)
 have B10 : Hid (64 * (sz ((p) * (qb)) + sz ((q) * (pb))) + 400 ≤ LIM) := Lib.hid (by have h0 := Z5.out; have h1 := Z7.out; rw [LIM_eq]; omega)
 have Z11 : Hid (sz ((p) * (pb)) ≤ 200000000) := Lib.hid (by have h9 := sz_mul (p) (pb); have h0 := Z1.out; have h1 := Z3.out; omega)
 have B12 : Hid (16 * (sz (p) + sz (pb)) + 100 ≤ LIM) := Lib.hid (by have h0 := Z1.out; have h1 := Z3.out; rw [LIM_eq]; omega)
 have Z13 : Hid (sz ((q) * (qb)) ≤ 200000000) := Lib.hid (by have h9 := sz_mul (q) (qb); have h0 := Z2.out; have h1 := Z4.out; omega)
 have B14 : Hid (16 * (sz (q) + sz (qb)) + 100 ≤ LIM) := Lib.hid (by have h0 := Z2.out; have h1 := Z4.out; rw [LIM_eq]; omega)
 have Z15 : Hid (sz (rmax ((p) * (pb)) ((q) * (qb))) ≤ 400000000) := Lib.hid (by have h9 := sz_rmax ((p) * (pb)) ((q) * (qb)); have h0 := Z11.out; have h1 := Z13.out; omega)
 have B16 : Hid (64 * (sz ((p) * (pb)) + sz ((q) * (qb))) + 400 ≤ LIM) := Lib.hid (by have h0 := Z11.out; have h1 := Z13.out; rw [LIM_eq]; omega)
 have hAt1 : At0 w [{ al := none, g := w.heap.size, big := true, row := .agg #[.bool s11, .slice A11 n11 c11, .slice A12 n12 c12, .bool s12, .slice A13 n13 c13, .slice A14 n14 c14], st := 1000, src := 0 }, { al := none, g := w.heap.size + 1, big := true, row := .agg #[.bool s21, .slice A21 n21 c21, .slice A22 n22 c22, .bool s22, .slice A23 n23 c23, .slice A24 n24 c24], st := 1000, src := 0 }, { al := none, g := w.heap.size + 1 + 1, big := true, row := .agg #[.bool false, .slice none 0 0, .slice none 0 0, .bool false, .slice none 0 0, .slice none 0 0], st := 23, src := 22 }] [(.agg #[.bool s11, .slice A11 n11 c11, .slice A12 n12 c12, .bool s12, .slice A13 n13 c13, .slice A14 n14 c14], .span (p) (q)), (.agg #[.bool s21, .slice A21 n21 c21, .slice A22 n22 c22, .bool s22, .slice A23 n23 c23, .slice A24 n24 c24], .span (pb) (qb))] w1 := At0.of hG1 ⟨fun _ => ⟨by dsimp only; omega, NbV.ofS hA1⟩, fun _ => ⟨by dsimp only; omega, NbV.ofS hB1⟩, fun _ => ⟨by dsimp only; omega, NbV.ofS hT1⟩, trivial⟩ (by (simp [Apart0] <;> omega)) ⟨nA1, nB1, trivial⟩
 clear hG1 hA1 hB1 hT1 nA1 nB1
 refine region_cells (F := ?F20) w ([.eq (.pointer (some ⟨w.heap.size, 0, none⟩)), .num (p), .eq (.pointer (some ⟨w.heap.size + 1, 3, none⟩)), .num (qb), .num ((p) * (qb)), .eq (.pointer (some ⟨w.heap.size, 3, none⟩)), .num (q), .eq (.pointer (some ⟨w.heap.size + 1, 0, none⟩)), .num (pb), .num ((q) * (pb)), .num (rmin ((p) * (qb)) ((q) * (pb))), .eq (.pointer (some ⟨w.heap.size, 0, none⟩)), .num (p), .eq (.pointer (some ⟨w.heap.size + 1, 0, none⟩)), .num (pb), .num ((p) * (pb)), .eq (.pointer (some ⟨w.heap.size, 3, none⟩)), .num (q), .eq (.pointer (some ⟨w.heap.size + 1, 3, none⟩)), .num (qb), .num ((q) * (qb)), .num (rmax ((p) * (pb)) ((q) * (qb))), .span (rmin ((p) * (qb)) ((q) * (pb))) (rmax ((p) * (pb)) ((q) * (qb))), .any] : List Vs) _ _ (by kernel_rfl) (by kernel_rfl) hAt1 ?hF20 ?st20 ?en20
 case hF20 =>
  intro vals
  simp only [Ja.fillL, Act.put, List.setIfInBounds_toArray, List.set_cons_zero, List.set_cons_succ, Nat.reduceAdd]
  exact rfl
 case st20 =>
  clear hAt1
  intro hctx
  refine JC.o hctx ?_ ?_
  ·intro L vals W hL hJ hd K hK
   go_simp
   exact hK.out (.pointer (some ⟨w.heap.size, 0, none⟩)) _ _ (by kernel_rfl) rfl (Q.refl _)
  refine JC.o hctx ?_ ?_
  ·intro L vals W hL hJ hd K hK
   have d0 : vals 0 = .pointer (some ⟨w.heap.size, 0, none⟩) := hd 0 (by kernel_rfl)
   generalize vals 0 = u0 at d0 hK ⊢
   subst d0
   obtain ⟨z0, z1, z2, z3, z4, z5⟩ := (NbV.outS (hJ.still 0 rfl rfl (Nat.le_of_ble_eq_true (by kernel_rfl)))).cells
   go_simp
   exact hK.out (.agg #[.bool s11, .slice A11 n11 c11, .slice A12 n12 c12]) _ _ (by kernel_rfl) ((NsLo (hJ.kept 0 rfl))) (Q.refl _)
  refine JC.o hctx ?_ ?_
  ·intro L vals W hL hJ hd K hK
   go_simp
   exact hK.out (.pointer (some ⟨w.heap.size + 1, 3, none⟩)) _ _ (by kernel_rfl) rfl (Q.refl _)
  refine JC.o hctx ?_ ?_
  ·intro L vals W hL hJ hd K hK
   have d2 : vals 2 = .pointer (some ⟨w.heap.size + 1, 3, none⟩) := hd 2 (by kernel_rfl)
   generalize vals 2 = u2 at d2 hK ⊢
   subst d2
   obtain ⟨z0, z1, z2, z3, z4, z5⟩ := (NbV.outS (hJ.still 1 rfl rfl (Nat.le_of_ble_eq_true (by kernel_rfl)))).cells
   go_simp
   exact hK.out (.agg #[.bool s22, .slice A23 n23 c23, .slice A24 n24 c24]) _ _ (by kernel_rfl) ((NsHi (hJ.kept 1 rfl))) (Q.refl _)
  refine JC.o hctx ?_ ?_
  ·intro L vals W hL hJ hd K hK
   have hQ := hJ.q
   have d1 : Nq W (vals 1) (p) := hd 1 (by kernel_rfl)
   have d3 : Nq W (vals 3) (qb) := hd 3 (by kernel_rfl)
   go_simp
   (with_reducible refine (q_Mul _ _ (p) (qb) W (hT9.q hQ) d1 d3 B6.out).mono ?_)
   rintro e W9 ⟨r, rfl, hr, hq9⟩
   exact hK.out r W9 _ (by kernel_rfl) hr hq9
  refine JC.o hctx ?_ ?_
  ·intro L vals W hL hJ hd K hK
   go_simp
   exact hK.out (.pointer (some ⟨w.heap.size, 3, none⟩)) _ _ (by kernel_rfl) rfl (Q.refl _)
  refine JC.o hctx ?_ ?_
  ·intro L vals W hL hJ hd K hK
   have d5 : vals 5 = .pointer (some ⟨w.heap.size, 3, none⟩) := hd 5 (by kernel_rfl)
   generalize vals 5 = u5 at d5 hK ⊢
   subst d5
   obtain ⟨z0, z1, z2, z3, z4, z5⟩ := (NbV.outS (hJ.still 0 rfl rfl (Nat.le_of_ble_eq_true (by kernel_rfl)))).cells
   go_simp
   exact hK.out (.agg #[.bool s12, .slice A13 n13 c13, .slice A14 n14 c14]) _ _ (by kernel_rfl) ((NsHi (hJ.kept 0 rfl))) (Q.refl _)
  refine JC.o hctx ?_ ?_
  ·intro L vals W hL hJ hd K hK
   go_simp
   exact hK.out (.pointer (some ⟨w.heap.size + 1, 0, none⟩)) _ _ (by kernel_rfl) rfl (Q.refl _)
  refine JC.o hctx ?_ ?_
  ·intro L vals W hL hJ hd K hK
   have d7 : vals 7 = .pointer (some ⟨w.heap.size + 1, 0, none⟩) := hd 7 (by kernel_rfl)
   generalize vals 7 = u7 at d7 hK ⊢
   subst d7
   obtain ⟨z0, z1, z2, z3, z4, z5⟩ := (NbV.outS (hJ.still 1 rfl rfl (Nat.le_of_ble_eq_true (by kernel_rfl)))).cells
   go_simp
   exact hK.out (.agg #[.bool s21, .slice A21 n21 c21, .slice A22 n22 c22]) _ _ (by kernel_rfl) ((NsLo (hJ.kept 1 rfl))) (Q.refl _)
  refine JC.o hctx ?_ ?_
  ·intro L vals W hL hJ hd K hK
   have hQ := hJ.q
   have d6 : Nq W (vals 6) (q) := hd 6 (by kernel_rfl)
   have d8 : Nq W (vals 8) (pb) := hd 8 (by kernel_rfl)
   go_simp
   (with_reducible refine (q_Mul _ _ (q) (pb) W (hT9.q hQ) d6 d8 B8.out).mono ?_)
   rintro e W9 ⟨r, rfl, hr, hq9⟩
   exact hK.out r W9 _ (by kernel_rfl) hr hq9
  refine JC.o hctx ?_ ?_
  ·intro L vals W hL hJ hd K hK
   have d4 : Nq W (vals 4) ((p) * (qb)) := hd 4 (by kernel_rfl)
   have d9 : Nq W (vals 9) ((q) * (pb)) := hd 9 (by kernel_rfl)
   go_simp
   (with_reducible refine (q_lesser _ _ ((p) * (qb)) ((q) * (pb)) W d4 d9 B10.out).mono ?_)
   rintro e W9 ⟨r, rfl, hr, hq9⟩
   exact hK.out r W9 _ (by kernel_rfl) hr hq9
  refine JC.o hctx ?_ ?_
  ·intro L vals W hL hJ hd K hK
   go_simp
   exact hK.out (.pointer (some ⟨w.heap.size, 0, none⟩)) _ _ (by kernel_rfl) rfl (Q.refl _)
  refine JC.o hctx ?_ ?_
  ·intro L vals W hL hJ hd K hK
   have d11 : vals 11 = .pointer (some ⟨w.heap.size, 0, none⟩) := hd 11 (by kernel_rfl)
   generalize vals 11 = u11 at d11 hK ⊢
   subst d11
   obtain ⟨z0, z1, z2, z3, z4, z5⟩ := (NbV.outS (hJ.still 0 rfl rfl (Nat.le_of_ble_eq_true (by kernel_rfl)))).cells
   go_simp
   exact hK.out (.agg #[.bool s11, .slice A11 n11 c11, .slice A12 n12 c12]) _ _ (by kernel_rfl) ((NsLo (hJ.kept 0 rfl))) (Q.refl _)
  refine JC.o hctx ?_ ?_
  ·intro L vals W hL hJ hd K hK
   go_simp
   exact hK.out (.pointer (some ⟨w.heap.size + 1, 0, none⟩)) _ _ (by kernel_rfl) rfl (Q.refl _)
  refine JC.o hctx ?_ ?_
  ·intro L vals W hL hJ hd K hK
   have d13 : vals 13 = .pointer (some ⟨w.heap.size + 1, 0, none⟩) := hd 13 (by kernel_rfl)
   generalize vals 13 = u13 at d13 hK ⊢
   subst d13
   obtain ⟨z0, z1, z2, z3, z4, z5⟩ := (NbV.outS (hJ.still 1 rfl rfl (Nat.le_of_ble_eq_true (by kernel_rfl)))).cells
   go_simp
   exact hK.out (.agg #[.bool s21, .slice A21 n21 c21, .slice A22 n22 c22]) _ _ (by kernel_rfl) ((NsLo (hJ.kept 1 rfl))) (Q.refl _)
  refine JC.o hctx ?_ ?_
  ·intro L vals W hL hJ hd K hK
   have hQ := hJ.q
   have d12 : Nq W (vals 12) (p) := hd 12 (by kernel_rfl)
   have d14 : Nq W (vals 14) (pb) := hd 14 (by kernel_rfl)
   go_simp
   (with_reducible refine (q_Mul _ _ (p) (pb) W (hT9.q hQ) d12 d14 B12.out).mono ?_)
   rintro e W9 ⟨r, rfl, hr, hq9⟩
   exact hK.out r W9 _ (by kernel_rfl) hr hq9
  refine JC.o hctx ?_ ?_
  ·intro L vals W hL hJ hd K hK
   go_simp
   exact hK.out (.pointer (some ⟨w.heap.size, 3, none⟩)) _ _ (by kernel_rfl) rfl (Q.refl _)
  refine JC.o hctx ?_ ?_
  ·intro L vals W hL hJ hd K hK
   have d16 : vals 16 = .pointer (some ⟨w.heap.size, 3, none⟩) := hd 16 (by kernel_rfl)
   generalize vals 16 = u16 at d16 hK ⊢
   subst d16
   obtain ⟨z0, z1, z2, z3, z4, z5⟩ := (NbV.outS (hJ.still 0 rfl rfl (Nat.le_of_ble_eq_true (by kernel_rfl)))).cells
   go_simp
   exact hK.out (.agg #[.bool s12, .slice A13 n13 c13, .slice A14 n14 c14]) _ _ (by kernel_rfl) ((NsHi (hJ.kept 0 rfl))) (Q.refl _)
  refine JC.o hctx ?_ ?_
  ·intro L vals W hL hJ hd K hK
   go_simp
   exact hK.out (.pointer (some ⟨w.heap.size + 1, 3, none⟩)) _ _ (by kernel_rfl) rfl (Q.refl _)
  refine JC.o hctx ?_ ?_
  ·intro L vals W hL hJ hd K hK
   have d18 : vals 18 = .pointer (some ⟨w.heap.size + 1, 3, none⟩) := hd 18 (by kernel_rfl)
   generalize vals 18 = u18 at d18 hK ⊢
   subst d18
   obtain ⟨z0, z1, z2, z3, z4, z5⟩ := (NbV.outS (hJ.still 1 rfl rfl (Nat.le_of_ble_eq_true (by kernel_rfl)))).cells
   go_simp
   exact hK.out (.agg #[.bool s22, .slice A23 n23 c23, .slice A24 n24 c24]) _ _ (by kernel_rfl) ((NsHi (hJ.kept 1 rfl))) (Q.refl _)
  refine JC.o hctx ?_ ?_
  ·intro L vals W hL hJ hd K hK
   have hQ := hJ.q
   have d17 : Nq W (vals 17) (q) := hd 17 (by kernel_rfl)
   have d19 : Nq W (vals 19) (qb) := hd 19 (by kernel_rfl)
   go_simp
   (with_reducible refine (q_Mul _ _ (q) (qb) W (hT9.q hQ) d17 d19 B14.out).mono ?_)
   rintro e W9 ⟨r, rfl, hr, hq9⟩
   exact hK.out r W9 _ (by kernel_rfl) hr hq9
  refine JC.o hctx ?_ ?_
  ·intro L vals W hL hJ hd K hK
   have d15 : Nq W (vals 15) ((p) * (pb)) := hd 15 (by kernel_rfl)
   have d20 : Nq W (vals 20) ((q) * (qb)) := hd 20 (by kernel_rfl)
   go_simp
   (with_reducible refine (q_greater _ _ ((p) * (pb)) ((q) * (qb)) W d15 d20 B16.out).mono ?_)
   rintro e W9 ⟨r, rfl, hr, hq9⟩
   exact hK.out r W9 _ (by kernel_rfl) hr hq9
  refine JC.o hctx ?_ ?_
  ·intro L vals W hL hJ hd K hK
   have d10 : Nq W (vals 10) (rmin ((p) * (qb)) ((q) * (pb))) := hd 10 (by kernel_rfl)
   have d21 : Nq W (vals 21) (rmax ((p) * (pb)) ((q) * (qb))) := hd 21 (by kernel_rfl)
   generalize vals 10 = u10 at d10 hK ⊢
   generalize vals 21 = u21 at d21 hK ⊢
   obtain ⟨e1, C1, i1, j1, C2, i2, j2, rfl, -⟩ := Nq.form d10
   obtain ⟨e2, C3, i3, j3, C4, i4, j4, rfl, -⟩ := Nq.form d21
   go_simp
   exact hK.out (.agg #[.bool e1, .slice C1 i1 j1, .slice C2 i2 j2, .bool e2, .slice C3 i3 j3, .slice C4 i4 j4]) _ _ (by kernel_rfl) ⟨_, _, _, _, _, _, _, _, _, _, _, _, _, _, rfl, d10, d21⟩ (Q.refl _)
  refine Ja.Steps.cons (JC.store (n := 2) hctx (by kernel_rfl) (by rfl) (by kernel_rfl) (by rfl) (by rfl) (by kernel_rfl) (by rfl) ?_) ?_
  ·intro L vals W g old hJ hp ho hs K hK
   have hs9 : Ns W (vals 22) (rmin ((p) * (qb)) ((q) * (pb))) (rmax ((p) * (pb)) ((q) * (qb))) := hs
   dsimp only at hK
   obtain rfl : w.heap.size + 1 + 1 = g := by injection hp with hp; injection hp with hp; injection hp with hp
   generalize vals 22 = uj at hs9 hK ⊢
   obtain ⟨e1, C1, i1, j1, C2, i2, j2, e2, C3, i3, j3, C4, i4, j4, rfl, -, -⟩ := hs9
   obtain ⟨f1, D1, x1, y1, D2, x2, y2, f2, D3, x3, y3, D4, x4, y4, ho1, hb⟩ := ho
   have fz := hb.frozen
   obtain ⟨r0, r1, r2, r3, r4, r5⟩ := hb.cells
   clear hb ho1 hp
   go_simp
   exact hK.out undef _ _ (by kernel_rfl) PutV.ofS
  exact Ja.Steps.nil
 intro L vals w2 hall hJ
 clear hAt1
 have hG2 := hJ.q
 have hA2 : Sp w2 (w.heap.size) (s11) (.slice A11 n11 c11) (.slice A12 n12 c12) (s12) (.slice A13 n13 c13) (.slice A14 n14 c14) := NbV.outS (hJ.still 0 rfl rfl (Nat.le_of_ble_eq_true (by kernel_rfl)))
 have nA2 : Ns w2 (.agg #[.bool s11, .slice A11 n11 c11, .slice A12 n12 c12, .bool s12, .slice A13 n13 c13, .slice A14 n14 c14]) (p) (q) := hJ.kept 0 rfl
 have hB2 : Sp w2 (w.heap.size + 1) (s21) (.slice A21 n21 c21) (.slice A22 n22 c22) (s22) (.slice A23 n23 c23) (.slice A24 n24 c24) := NbV.outS (hJ.still 1 rfl rfl (Nat.le_of_ble_eq_true (by kernel_rfl)))
 have nB2 : Ns w2 (.agg #[.bool s21, .slice A21 n21 c21, .slice A22 n22 c22, .bool s22, .slice A23 n23 c23, .slice A24 n24 c24]) (pb) (qb) := hJ.kept 1 rfl
 have qT : NbV w2 (w.heap.size + 1 + 1) true (vals 22) := hJ.stored 2 rfl rfl (hall 23 (by decide))
 have nT2 : Ns w2 (vals 22) (rmin ((p) * (qb)) ((q) * (pb))) (rmax ((p) * (pb)) ((q) * (qb))) := hJ.s 22 (hall 22 (by decide))
 obtain ⟨sT1, AT1, kT1, cT1, AT2, kT2, cT2, sT2, AT3, kT3, cT3, AT4, kT4, cT4, yT, hT2⟩ := qT
 change Sp w2 (w.heap.size + 1 + 1) (sT1) (.slice AT1 kT1 cT1) (.slice AT2 kT2 cT2) (sT2) (.slice AT3 kT3 cT3) (.slice AT4 kT4 cT4) at hT2
 try dsimp only at yT
 rw [yT] at nT2
 clear yT
 clear hall hJ
 go_wp2_with fail
 have hps := prod_both (Rat.le_of_lt H0.out) (Rat.not_lt.1 H1.out) (Rat.le_of_lt H2.out) (Rat.not_lt.1 H3.out)
 rw [hps.1, hps.2] at nT2
 obtain ⟨z0, z1, z2, z3, z4, z5⟩ := hT2.cells
 refine bodyPost_ret (v := .agg #[.bool sT1, .slice AT1 kT1 cT1, .slice AT2 kT2 cT2, .bool sT2, .slice AT3 kT3 cT3, .slice AT4 kT4 cT4]) (by simp [results, Tryz.results155, go_sem, z0, z1, z2, z3, z4, z5]) rfl ?_
 exact ⟨_, rfl, nT2, hG2⟩
set_option maxRecDepth 100000 in
set_option maxHeartbeats 4000000 in
theorem q_product_sp (a b : Value) (p q pb qb : Rat) (w : World) (hT9 : Tb w) (ha : Ns w a p q) (hb : Ns w b pb qb) (h0 : p < 0) (h1 : ¬ q < 0) (h3 : ¬ pb < 0) (h4 : p ≤ q) (h5 : pb ≤ qb) (hB : sz p + sz q + sz pb + sz qb ≤ 100000000) : Calls Tryz.prog 155 #[a, b] w fun e w' => ∃ r, e = .returned r ∧ Ns w' r (pmin p q pb qb) (pmax p q pb qb) ∧ Q w w' := by
 have h1y := ha
 obtain ⟨s11, A11, n11, c11, A12, n12, c12, s12, A13, n13, c13, A14, n14, c14, rfl, lo1, hi1⟩ := ha
 have n1y : Ns w (.agg #[.bool s11, .slice A11 n11 c11, .slice A12 n12 c12, .bool s12, .slice A13 n13 c13, .slice A14 n14 c14]) p q := h1y
 have h2y := hb
 obtain ⟨s21, A21, n21, c21, A22, n22, c22, s22, A23, n23, c23, A24, n24, c24, rfl, lo2, hi2⟩ := hb
 have n2y : Ns w (.agg #[.bool s21, .slice A21 n21 c21, .slice A22 n22 c22, .bool s22, .slice A23 n23 c23, .slice A24 n24 c24]) pb qb := h2y
 obtain ⟨w0, hW, hG0, hA0, hB0, hT0⟩ := boxS2r w s11 (.slice A11 n11 c11) (.slice A12 n12 c12) s12 (.slice A13 n13 c13) (.slice A14 n14 c14) s21 (.slice A21 n21 c21) (.slice A22 n22 c22) s22 (.slice A23 n23 c23) (.slice A24 n24 c24)
 have Z1 : Hid (sz p ≤ 100000000) := Lib.hid (by omega)
 have Z2 : Hid (sz q ≤ 100000000) := Lib.hid (by omega)
 have Z3 : Hid (sz pb ≤ 100000000) := Lib.hid (by omega)
 have Z4 : Hid (sz qb ≤ 100000000) := Lib.hid (by omega)
 have ZS := Lib.hid hB
 clear hB
 have nA0 := n1y.q hG0; have nB0 := n2y.q hG0
 clear h1y h2y n1y n2y lo1 hi1 lo2 hi2
 go_enter Tryz.func155, Tryz.ntmps155
 go_upto_region 1 with fail
 clear hW
 have hsa := (NsLo nA0).sign; have hsb := (NsHi nA0).sign; have hsc := (NsLo nB0).sign; have hsd := (NsHi nB0).sign
 have HSA := Lib.hid hsa; clear hsa
 have HSB := Lib.hid hsb; clear hsb
 have HSC := Lib.hid hsc; clear hsc
 have HSD := Lib.hid hsd; clear hsd
 have H0 := Lib.hid h0; have H1 := Lib.hid h1; have H3 := Lib.hid h3; have H4 := Lib.hid h4; have H5 := Lib.hid h5; clear h0 h1 h3 h4 h5
 refine text_each (F := ?F21) ([.eq (.pointer (some ⟨w.heap.size, 0, none⟩)), .eq (.pointer (some ⟨w.heap.size, 0, none⟩)), .eq (.bool true), .eq (.bool true), .eq (.pointer (some ⟨w.heap.size, 3, none⟩)), .eq (.pointer (some ⟨w.heap.size, 3, none⟩)), .eq (.bool false), .eq (.bool true), .eq (.bool true), .eq (.bool true), .eq (.pointer (some ⟨w.heap.size + 1, 0, none⟩)), .eq (.pointer (some ⟨w.heap.size + 1, 0, none⟩)), .eq (.bool false), .eq (.bool false), .eq (.bool false), .any, .any, .any, .any, .eq (.bool false), .eq (.bool false)] : List Vs) (by kernel_rfl) ?hF21 ?st21 ?en21
 case hF21 =>
  intro vals
  simp only [Ja.fillL, Act.put, List.setIfInBounds_toArray, List.set_cons_zero, List.set_cons_succ, Nat.reduceAdd]
  exact rfl
 case st21 =>
  intro hctx
  refine Each.y hctx ?_ ?_
  ·intro vals W hM hd K hK
   go_simp
   exact hK.out (.pointer (some ⟨w.heap.size, 0, none⟩)) _ _ (by kernel_rfl) rfl (Q.refl _)
  refine Each.y hctx ?_ ?_
  ·intro vals W hM hd K hK
   have d0 : vals 0 = .pointer (some ⟨w.heap.size, 0, none⟩) := hd 0 (by kernel_rfl)
   generalize vals 0 = u0 at d0 hK ⊢
   subst d0
   go_simp
   exact hK.out (.pointer (some ⟨w.heap.size, 0, none⟩)) _ _ (by kernel_rfl) rfl (Q.refl _)
  refine Each.y hctx ?_ ?_
  ·intro vals W hM hd K hK
   have hN : Q w0 W := hM
   have d1 : vals 1 = .pointer (some ⟨w.heap.size, 0, none⟩) := hd 1 (by kernel_rfl)
   generalize vals 1 = u1 at d1 hK ⊢
   subst d1
   obtain ⟨z0, z1, z2, z3, z4, z5⟩ := (hA0.q hN).cells
   go_simp
   exact hK.out (.bool s11) _ _ (by kernel_rfl) (congrArg Value.bool ((HSA.out.trans (decide_eq_true (H0.out))))) (Q.refl _)
  refine Each.y hctx ?_ ?_
  ·intro vals W hM hd K hK
   have d2 : vals 2 = .bool true := hd 2 (by kernel_rfl)
   generalize vals 2 = u2 at d2 hK ⊢
   subst d2
   go_simp
   exact hK.out (.bool true) _ _ (by kernel_rfl) rfl (Q.refl _)
  refine Each.y hctx ?_ ?_
  ·intro vals W hM hd K hK
   go_simp
   exact hK.out (.pointer (some ⟨w.heap.size, 3, none⟩)) _ _ (by kernel_rfl) rfl (Q.refl _)
  refine Each.y hctx ?_ ?_
  ·intro vals W hM hd K hK
   have d4 : vals 4 = .pointer (some ⟨w.heap.size, 3, none⟩) := hd 4 (by kernel_rfl)
   generalize vals 4 = u4 at d4 hK ⊢
   subst d4
   go_simp
   exact hK.out (.pointer (some ⟨w.heap.size, 3, none⟩)) _ _ (by kernel_rfl) rfl (Q.refl _)
  refine Each.y hctx ?_ ?_
  ·intro vals W hM hd K hK
   have hN : Q w0 W := hM
   have d5 : vals 5 = .pointer (some ⟨w.heap.size, 3, none⟩) := hd 5 (by kernel_rfl)
   generalize vals 5 = u5 at d5 hK ⊢
   subst d5
   obtain ⟨z0, z1, z2, z3, z4, z5⟩ := (hA0.q hN).cells
   go_simp
   exact hK.out (.bool s12) _ _ (by kernel_rfl) (congrArg Value.bool ((HSB.out.trans (decide_eq_false (H1.out))))) (Q.refl _)
  refine Each.y hctx ?_ ?_
  ·intro vals W hM hd K hK
   have d6 : vals 6 = .bool false := hd 6 (by kernel_rfl)
   generalize vals 6 = u6 at d6 hK ⊢
   subst d6
   go_simp
   exact hK.out (.bool true) _ _ (by kernel_rfl) rfl (Q.refl _)
  refine Each.y hctx ?_ ?_
  ·intro vals W hM hd K hK
   have d3 : vals 3 = .bool true := hd 3 (by kernel_rfl)
   generalize vals 3 = u3 at d3 hK ⊢
   subst d3
   have d7 : vals 7 = .bool true := hd 7 (by kernel_rfl)
   generalize vals 7 = u7 at d7 hK ⊢
   subst d7
   go_simp
   exact hK.out (.bool true) _ _ (by kernel_rfl) rfl (Q.refl _)
  refine Each.y hctx ?_ ?_
  ·intro vals W hM hd K hK
   have d8 : vals 8 = .bool true := hd 8 (by kernel_rfl)
   generalize vals 8 = u8 at d8 hK ⊢
   subst d8
   go_simp
   exact hK.out (.bool true) _ _ (by kernel_rfl) rfl (Q.refl _)
  refine Each.y hctx ?_ ?_
  ·intro vals W hM hd K hK
   go_simp
   exact hK.out (.pointer (some ⟨w.heap.size + 1, 0, none⟩)) _ _ (by kernel_rfl) rfl (Q.refl _)
  refine Each.y hctx ?_ ?_
  ·intro vals W hM hd K hK
   have d10 : vals 10 = .pointer (some ⟨w.heap.size + 1, 0, none⟩) := hd 10 (by kernel_rfl)
   generalize vals 10 = u10 at d10 hK ⊢
   subst d10
   go_simp
   exact hK.out (.pointer (some ⟨w.heap.size + 1, 0, none⟩)) _ _ (by kernel_rfl) rfl (Q.refl _)
  refine Each.y hctx ?_ ?_
  ·intro vals W hM hd K hK
   have hN : Q w0 W := hM
   have d11 : vals 11 = .pointer (some ⟨w.heap.size + 1, 0, none⟩) := hd 11 (by kernel_rfl)
   generalize vals 11 = u11 at d11 hK ⊢
   subst d11
   obtain ⟨z0, z1, z2, z3, z4, z5⟩ := (hB0.q hN).cells
   go_simp
   exact hK.out (.bool s21) _ _ (by kernel_rfl) (congrArg Value.bool ((HSC.out.trans (decide_eq_false (H3.out))))) (Q.refl _)
  refine Each.y hctx ?_ ?_
  ·intro vals W hM hd K hK
   have d9 : vals 9 = .bool true := hd 9 (by kernel_rfl)
   generalize vals 9 = u9 at d9 hK ⊢
   subst d9
   have d12 : vals 12 = .bool false := hd 12 (by kernel_rfl)
   generalize vals 12 = u12 at d12 hK ⊢
   subst d12
   go_simp
   exact hK.out (.bool false) _ _ (by kernel_rfl) rfl (Q.refl _)
  refine Each.y hctx ?_ ?_
  ·intro vals W hM hd K hK
   have d13 : vals 13 = .bool false := hd 13 (by kernel_rfl)
   generalize vals 13 = u13 at d13 hK ⊢
   subst d13
   go_simp
   exact hK.out (.bool false) _ _ (by kernel_rfl) rfl (Q.refl _)
  refine Each.n hctx ?_
  refine Each.n hctx ?_
  refine Each.n hctx ?_
  refine Each.n hctx ?_
  refine Each.y hctx ?_ ?_
  ·intro vals W hM hd K hK
   have d14 : vals 14 = .bool false := hd 14 (by kernel_rfl)
   generalize vals 14 = u14 at d14 hK ⊢
   subst d14
   go_simp
   exact hK.out (.bool false) _ _ (by kernel_rfl) rfl (Q.refl _)
  refine Each.y hctx ?_ ?_
  ·intro vals W hM hd K hK
   have d19 : vals 19 = .bool false := hd 19 (by kernel_rfl)
   generalize vals 19 = u19 at d19 hK ⊢
   subst d19
   go_simp
   exact hK.out (.bool false) _ _ (by kernel_rfl) rfl (Q.refl _)
  exact Ja.Steps.nil
 intro vals w1 hq1 hall
 have hG1 := hG0.trans hq1
 have hA1 := hA0.q hq1
 have nA1 := nA0.q hq1
 have hB1 := hB0.q hq1
 have nB1 := nB0.q hq1
 have hT1 := hT0.q hq1
 have f7 : vals 20 = .bool false := hall 20 (by decide)
 rw [f7]
 clear hall hq1 hG0 hA0 hB0 hT0 nA0 nB0
 go_upto_region 3 with fail
 refine text_each (F := ?F22) ([.eq (.pointer (some ⟨w.heap.size, 3, none⟩)), .eq (.pointer (some ⟨w.heap.size, 3, none⟩)), .eq (.bool false), .eq (.bool false)] : List Vs) (by kernel_rfl) ?hF22 ?st22 ?en22
 case hF22 =>
  intro vals
  simp only [Ja.fillL, Act.put, List.setIfInBounds_toArray, List.set_cons_zero, List.set_cons_succ, Nat.reduceAdd]
  exact rfl
 case st22 =>
  intro hctx
  refine Each.y hctx ?_ ?_
  ·intro vals W hM hd K hK
   go_simp
   exact hK.out (.pointer (some ⟨w.heap.size, 3, none⟩)) _ _ (by kernel_rfl) rfl (Q.refl _)
  refine Each.y hctx ?_ ?_
  ·intro vals W hM hd K hK
   have d0 : vals 0 = .pointer (some ⟨w.heap.size, 3, none⟩) := hd 0 (by kernel_rfl)
   generalize vals 0 = u0 at d0 hK ⊢
   subst d0
   go_simp
   exact hK.out (.pointer (some ⟨w.heap.size, 3, none⟩)) _ _ (by kernel_rfl) rfl (Q.refl _)
  refine Each.y hctx ?_ ?_
  ·intro vals W hM hd K hK
   have hN : Q w1 W := hM
   have d1 : vals 1 = .pointer (some ⟨w.heap.size, 3, none⟩) := hd 1 (by kernel_rfl)
   generalize vals 1 = u1 at d1 hK ⊢
   subst d1
   obtain ⟨z0, z1, z2, z3, z4, z5⟩ := (hA1.q hN).cells
   go_simp
   exact hK.out (.bool s12) _ _ (by kernel_rfl) (congrArg Value.bool ((HSB.out.trans (decide_eq_false (H1.out))))) (Q.refl _)
  refine Each.y hctx ?_ ?_
  ·intro vals W hM hd K hK
   have d2 : vals 2 = .bool false := hd 2 (by kernel_rfl)
   generalize vals 2 = u2 at d2 hK ⊢
   subst d2
   go_simp
   exact hK.out (.bool false) _ _ (by kernel_rfl) rfl (Q.refl _)
  exact Ja.Steps.nil
 intro vals w2 hq2 hall
 have hG2 := hG1.trans hq2
 have hA2 := hA1.q hq2
 have nA2 := nA1.q hq2
 have hB2 := hB1.q hq2
 have nB2 := nB1.q hq2
 have hT2 := hT1.q hq2
 have f51 : vals 3 = .bool false := hall 3 (by decide)
 rw [f51]
 clear hall hq2 hG1 hA1 hB1 hT1 nA1 nB1
 go_upto_region 5 with fail
 refine text_each (F := ?F23) ([.eq (.pointer (some ⟨w.heap.size, 0, none⟩)), .eq (.pointer (some ⟨w.heap.size, 0, none⟩)), .eq (.bool true), .eq (.bool true)] : List Vs) (by kernel_rfl) ?hF23 ?st23 ?en23
 case hF23 =>
  intro vals
  simp only [Ja.fillL, Act.put, List.setIfInBounds_toArray, List.set_cons_zero, List.set_cons_succ, Nat.reduceAdd]
  exact rfl
 case st23 =>
  intro hctx
  refine Each.y hctx ?_ ?_
  ·intro vals W hM hd K hK
   go_simp
   exact hK.out (.pointer (some ⟨w.heap.size, 0, none⟩)) _ _ (by kernel_rfl) rfl (Q.refl _)
  refine Each.y hctx ?_ ?_
  ·intro vals W hM hd K hK
   have d0 : vals 0 = .pointer (some ⟨w.heap.size, 0, none⟩) := hd 0 (by kernel_rfl)
   generalize vals 0 = u0 at d0 hK ⊢
   subst d0
   go_simp
   exact hK.out (.pointer (some ⟨w.heap.size, 0, none⟩)) _ _ (by kernel_rfl) rfl (Q.refl _)
  refine Each.y hctx ?_ ?_
  ·intro vals W hM hd K hK
   have hN : Q w2 W := hM
   have d1 : vals 1 = .pointer (some ⟨w.heap.size, 0, none⟩) := hd 1 (by kernel_rfl)
   generalize vals 1 = u1 at d1 hK ⊢
   subst d1
   obtain ⟨z0, z1, z2, z3, z4, z5⟩ := (hA2.q hN).cells
   go_simp
   exact hK.out (.bool s11) _ _ (by kernel_rfl) (congrArg Value.bool ((HSA.out.trans (decide_eq_true (H0.out))))) (Q.refl _)
  refine Each.y hctx ?_ ?_
  ·intro vals W hM hd K hK
   have d2 : vals 2 = .bool true := hd 2 (by kernel_rfl)
   generalize vals 2 = u2 at d2 hK ⊢
   subst d2
   go_simp
   exact hK.out (.bool true) _ _ (by kernel_rfl) rfl (Q.refl _)
  exact Ja.Steps.nil
 intro vals w3 hq3 hall
 have hG3 := hG2.trans hq3
 have hA3 := hA2.q hq3
 have nA3 := nA2.q hq3
 have hB3 := hB2.q hq3
 have nB3 := nB2.q hq3
 have hT3 := hT2.q hq3
 have f60 : vals 3 = .bool true := hall 3 (by decide)
 rw [f60]
 clear hall hq3 hG2 hA2 hB2 hT2 nA2 nB2
 go_upto_region 6 with fail
 have Z5 : Hid (sz (pmin (pb) (qb) (p) (q)) ≤ 800000000) := Lib.hid (by have h9 := sz_pmin (pb) (qb) (p) (q); have h0 := Z3.out; have h1 := Z4.out; have h2 := Z1.out; have h3 := Z2.out; omega)
 have Z6 : Hid (sz (pmax (pb) (qb) (p) (q)) ≤ 800000000) := Lib.hid (by have h9 := sz_pmax (pb) (qb) (p) (q); have h0 := Z3.out; have h1 := Z4.out; have h2 := Z1.out; have h3 := Z2.out; omega)
 have B7 : Hid (sz (pb) + sz (qb) + sz (p) + sz (q) ≤ 100000000) := Lib.hid (by have h0 := Z3.out; have h1 := Z4.out; have h2 := Z1.out; have h3 := Z2.out; have hs := ZS.out; have e1 := sz_neg p; have e2 := sz_neg q; omega)
 have hAt3 : At0 w [{ al := none, g := w.heap.size, big := true, row := .agg #[.bool s11, .slice A11 n11 c11, .slice A12 n12 c12, .bool s12, .slice A13 n13 c13, .slice A14 n14 c14], st := 1000, src := 0 }, { al := none, g := w.heap.size + 1, big := true, row := .agg #[.bool s21, .slice A21 n21 c21, .slice A22 n22 c22, .bool s22, .slice A23 n23 c23, .slice A24 n24 c24], st := 1000, src := 0 }, { al := none, g := w.heap.size + 1 + 1, big := true, row := .agg #[.bool false, .slice none 0 0, .slice none 0 0, .bool false, .slice none 0 0, .slice none 0 0], st := 3, src := 2 }] [(.agg #[.bool s11, .slice A11 n11 c11, .slice A12 n12 c12, .bool s12, .slice A13 n13 c13, .slice A14 n14 c14], .span (p) (q)), (.agg #[.bool s21, .slice A21 n21 c21, .slice A22 n22 c22, .bool s22, .slice A23 n23 c23, .slice A24 n24 c24], .span (pb) (qb))] w3 := At0.of hG3 ⟨fun _ => ⟨by dsimp only; omega, NbV.ofS hA3⟩, fun _ => ⟨by dsimp only; omega, NbV.ofS hB3⟩, fun _ => ⟨by dsimp only; omega, NbV.ofS hT3⟩, trivial⟩ (by (simp [Apart0] <;> omega)) ⟨nA3, nB3, trivial⟩
 clear hG3 hA3 hB3 hT3 nA3 nB3
 refine text_cells (F := ?F24) w ([.span (pb) (qb), .span (p) (q), .span (pmin (pb) (qb) (p) (q)) (pmax (pb) (qb) (p) (q)), .any] : List Vs) _ _ (by kernel_rfl) hAt3 ?hF24 ?st24 ?en24
 case hF24 =>
  intro vals
  simp only [Ja.fillL, Act.put, List.setIfInBounds_toArray, List.set_cons_zero, List.set_cons_succ, Nat.reduceAdd]
  exact rfl
 case st24 =>
  clear hAt3
  intro hctx
  refine JC.o hctx ?_ ?_
  ·intro L vals W hL hJ hd K hK
   obtain ⟨z0, z1, z2, z3, z4, z5⟩ := (NbV.outS (hJ.still 1 rfl rfl (Nat.le_of_ble_eq_true (by kernel_rfl)))).cells
   go_simp
   exact hK.out (.agg #[.bool s21, .slice A21 n21 c21, .slice A22 n22 c22, .bool s22, .slice A23 n23 c23, .slice A24 n24 c24]) _ _ (by kernel_rfl) (hJ.kept 1 rfl) (Q.refl _)
  refine JC.o hctx ?_ ?_
  ·intro L vals W hL hJ hd K hK
   obtain ⟨z0, z1, z2, z3, z4, z5⟩ := (NbV.outS (hJ.still 0 rfl rfl (Nat.le_of_ble_eq_true (by kernel_rfl)))).cells
   go_simp
   exact hK.out (.agg #[.bool s11, .slice A11 n11 c11, .slice A12 n12 c12, .bool s12, .slice A13 n13 c13, .slice A14 n14 c14]) _ _ (by kernel_rfl) (hJ.kept 0 rfl) (Q.refl _)
  refine JC.o hctx ?_ ?_
  ·intro L vals W hL hJ hd K hK
   have hQ := hJ.q
   have d0 : Ns W (vals 0) (pb) (qb) := hd 0 (by kernel_rfl)
   have d1 : Ns W (vals 1) (p) (q) := hd 1 (by kernel_rfl)
   go_simp
   (with_reducible refine (q_product_pos _ _ (pb) (qb) (p) (q) W (hT9.q hQ) d0 d1 (Rat.not_lt.1 H3.out) H5.out H4.out B7.out).mono ?_)
   rintro e W9 ⟨r, rfl, hr, hq9⟩
   exact hK.out r W9 _ (by kernel_rfl) hr hq9
  refine Ja.Steps.cons (JC.store (n := 2) hctx (by kernel_rfl) (by rfl) (by kernel_rfl) (by rfl) (by rfl) (by kernel_rfl) (by rfl) ?_) ?_
  ·intro L vals W g old hJ hp ho hs K hK
   have hs9 : Ns W (vals 2) (pmin (pb) (qb) (p) (q)) (pmax (pb) (qb) (p) (q)) := hs
   dsimp only at hK
   obtain rfl : w.heap.size + 1 + 1 = g := by injection hp with hp; injection hp with hp; injection hp with hp
   generalize vals 2 = uj at hs9 hK ⊢
   obtain ⟨e1, C1, i1, j1, C2, i2, j2, e2, C3, i3, j3, C4, i4, j4, rfl, -, -⟩ := hs9
   obtain ⟨f1, D1, x1, y1, D2, x2, y2, f2, D3, x3, y3, D4, x4, y4, ho1, hb⟩ := ho
   have fz := hb.frozen
   obtain ⟨r0, r1, r2, r3, r4, r5⟩ := hb.cells
   clear hb ho1 hp
   go_simp
   exact hK.out undef _ _ (by kernel_rfl) PutV.ofS
  exact Ja.Steps.nil
 intro L vals w4 hall hJ
 clear hAt3
 have hG4 := hJ.q
 have hA4 : Sp w4 (w.heap.size) (s11) (.slice A11 n11 c11) (.slice A12 n12 c12) (s12) (.slice A13 n13 c13) (.slice A14 n14 c14) := NbV.outS (hJ.still 0 rfl rfl (Nat.le_of_ble_eq_true (by kernel_rfl)))
 have nA4 : Ns w4 (.agg #[.bool s11, .slice A11 n11 c11, .slice A12 n12 c12, .bool s12, .slice A13 n13 c13, .slice A14 n14 c14]) (p) (q) := hJ.kept 0 rfl
 have hB4 : Sp w4 (w.heap.size + 1) (s21) (.slice A21 n21 c21) (.slice A22 n22 c22) (s22) (.slice A23 n23 c23) (.slice A24 n24 c24) := NbV.outS (hJ.still 1 rfl rfl (Nat.le_of_ble_eq_true (by kernel_rfl)))
 have nB4 : Ns w4 (.agg #[.bool s21, .slice A21 n21 c21, .slice A22 n22 c22, .bool s22, .slice A23 n23 c23, .slice A24 n24 c24]) (pb) (qb) := hJ.kept 1 rfl
 have qT : NbV w4 (w.heap.size + 1 + 1) true (vals 2) := hJ.stored 2 rfl rfl (hall 3 (by decide))
 have nT4 : Ns w4 (vals 2) (pmin (pb) (qb) (p) (q)) (pmax (pb) (qb) (p) (q)) := hJ.s 2 (hall 2 (by decide))
 obtain ⟨sT1, AT1, kT1, cT1, AT2, kT2, cT2, sT2, AT3, kT3, cT3, AT4, kT4, cT4, yT, hT4⟩ := qT
 change Sp w4 (w.heap.size + 1 + 1) (sT1) (.slice AT1 kT1 cT1) (.slice AT2 kT2 cT2) (sT2) (.slice AT3 kT3 cT3) (.slice AT4 kT4 cT4) at hT4
 try dsimp only at yT
 rw [yT] at nT4
 clear yT
 clear hall hJ
 go_wp2_with fail
 have hps := prod_swap p q pb qb
 rw [hps.1, hps.2] at nT4
 obtain ⟨z0, z1, z2, z3, z4, z5⟩ := hT4.cells
 refine bodyPost_ret (v := .agg #[.bool sT1, .slice AT1 kT1 cT1, .slice AT2 kT2 cT2, .bool sT2, .slice AT3 kT3 cT3, .slice AT4 kT4 cT4]) (by simp [results, Tryz.results155, go_sem, z0, z1, z2, z3, z4, z5]) rfl ?_
 exact ⟨_, rfl, nT4, hG4⟩
set_option maxRecDepth 100000 in
set_option maxHeartbeats 4000000 in
theorem q_product_sn (a b : Value) (p q pb qb : Rat) (w : World) (hT9 : Tb w) (ha : Ns w a p q) (hb : Ns w b pb qb) (h0 : p < 0) (h1 : ¬ q < 0) (h3 : qb < 0) (h4 : p ≤ q) (h5 : pb ≤ qb) (hB : sz p + sz q + sz pb + sz qb ≤ 100000000) : Calls Tryz.prog 155 #[a, b] w fun e w' => ∃ r, e = .returned r ∧ Ns w' r (pmin p q pb qb) (pmax p q pb qb) ∧ Q w w' := by
 have h1y := ha
 obtain ⟨s11, A11, n11, c11, A12, n12, c12, s12, A13, n13, c13, A14, n14, c14, rfl, lo1, hi1⟩ := ha
 have n1y : Ns w (.agg #[.bool s11, .slice A11 n11 c11, .slice A12 n12 c12, .bool s12, .slice A13 n13 c13, .slice A14 n14 c14]) p q := h1y
 have h2y := hb
 obtain ⟨s21, A21, n21, c21, A22, n22, c22, s22, A23, n23, c23, A24, n24, c24, rfl, lo2, hi2⟩ := hb
 have n2y : Ns w (.agg #[.bool s21, .slice A21 n21 c21, .slice A22 n22 c22, .bool s22, .slice A23 n23 c23, .slice A24 n24 c24]) pb qb := h2y
 obtain ⟨w0, hW, hG0, hA0, hB0, hT0⟩ := boxS2r w s11 (.slice A11 n11 c11) (.slice A12 n12 c12) s12 (.slice A13 n13 c13) (.slice A14 n14 c14) s21 (.slice A21 n21 c21) (.slice A22 n22 c22) s22 (.slice A23 n23 c23) (.slice A24 n24 c24)
 have Z1 : Hid (sz p ≤ 100000000) := Lib.hid (by omega)
 have Z2 : Hid (sz q ≤ 100000000) := Lib.hid (by omega)
 have Z3 : Hid (sz pb ≤ 100000000) := Lib.hid (by omega)
 have Z4 : Hid (sz qb ≤ 100000000) := Lib.hid (by omega)
 have ZS := Lib.hid hB
 clear hB
 have nA0 := n1y.q hG0; have nB0 := n2y.q hG0
 clear h1y h2y n1y n2y lo1 hi1 lo2 hi2
 go_enter Tryz.func155, Tryz.ntmps155
 go_upto_region 1 with fail
 clear hW
 have hsa := (NsLo nA0).sign; have hsb := (NsHi nA0).sign; have hsc := (NsLo nB0).sign; have hsd := (NsHi nB0).sign
 have HSA := Lib.hid hsa; clear hsa
 have HSB := Lib.hid hsb; clear hsb
 have HSC := Lib.hid hsc; clear hsc
 have HSD := Lib.hid hsd; clear hsd
 have H6 : Hid (pb < 0) := Lib.hid (by grind)
 have H0 := Lib.hid h0; have H1 := Lib.hid h1; have H3 := Lib.hid h3; have H4 := Lib.hid h4; have H5 := Lib.hid h5; clear h0 h1 h3 h4 h5
 refine text_each (F := ?F25) ([.eq (.pointer (some ⟨w.heap.size, 0, none⟩)), .eq (.pointer (some ⟨w.heap.size, 0, none⟩)), .eq (.bool true), .eq (.bool true), .eq (.pointer (some ⟨w.heap.size, 3, none⟩)), .eq (.pointer (some ⟨w.heap.size, 3, none⟩)), .eq (.bool false), .eq (.bool true), .eq (.bool true), .eq (.bool true), .eq (.pointer (some ⟨w.heap.size + 1, 0, none⟩)), .eq (.pointer (some ⟨w.heap.size + 1, 0, none⟩)), .eq (.bool true), .eq (.bool true), .eq (.bool true), .eq (.pointer (some ⟨w.heap.size + 1, 3, none⟩)), .eq (.pointer (some ⟨w.heap.size + 1, 3, none⟩)), .eq (.bool true), .eq (.bool false), .eq (.bool false), .eq (.bool false)] : List Vs) (by kernel_rfl) ?hF25 ?st25 ?en25
 case hF25 =>
  intro vals
  simp only [Ja.fillL, Act.put, List.setIfInBounds_toArray, List.set_cons_zero, List.set_cons_succ, Nat.reduceAdd]
  exact rfl
 case st25 =>
  intro hctx
  refine Each.y hctx ?_ ?_
  ·intro vals W hM hd K hK
   go_simp
   exact hK.out (.pointer (some ⟨w.heap.size, 0, none⟩)) _ _ (by kernel_rfl) rfl (Q.refl _)
  refine Each.y hctx ?_ ?_
  ·intro vals W hM hd K hK
   have d0 : vals 0 = .pointer (some ⟨w.heap.size, 0, none⟩) := hd 0 (by kernel_rfl)
   generalize vals 0 = u0 at d0 hK ⊢
   subst d0
   go_simp
   exact hK.out (.pointer (some ⟨w.heap.size, 0, none⟩)) _ _ (by kernel_rfl) rfl (Q.refl _)
  refine Each.y hctx ?_ ?_
  ·intro vals W hM hd K hK
   have hN : Q w0 W := hM
   have d1 : vals 1 = .pointer (some ⟨w.heap.size, 0, none⟩) := hd 1 (by kernel_rfl)
   generalize vals 1 = u1 at d1 hK ⊢
   subst d1
   obtain ⟨z0, z1, z2, z3, z4, z5⟩ := (hA0.q hN).cells
   go_simp
   exact hK.out (.bool s11) _ _ (by kernel_rfl) (congrArg Value.bool ((HSA.out.trans (decide_eq_true (H0.out))))) (Q.refl _)
  refine Each.y hctx ?_ ?_
  ·intro vals W hM hd K hK
   have d2 : vals 2 = .bool true := hd 2 (by kernel_rfl)
   generalize vals 2 = u2 at d2 hK ⊢
   subst d2
   go_simp
   exact hK.out (.bool true) _ _ (by kernel_rfl) rfl (Q.refl _)
  refine Each.y hctx ?_ ?_
  ·intro vals W hM hd K hK
   go_simp
   exact hK.out (.pointer (some ⟨w.heap.size, 3, none⟩)) _ _ (by kernel_rfl) rfl (Q.refl _)
  refine Each.y hctx ?_ ?_
  ·intro vals W hM hd K hK
   have d4 : vals 4 = .pointer (some ⟨w.heap.size, 3, none⟩) := hd 4 (by kernel_rfl)
   generalize vals 4 = u4 at d4 hK ⊢
   subst d4
   go_simp
   exact hK.out (.pointer (some ⟨w.heap.size, 3, none⟩)) _ _ (by kernel_rfl) rfl (Q.refl _)
  refine Each.y hctx ?_ ?_
  ·intro vals W hM hd K hK
   have hN : Q w0 W := hM
   have d5 : vals 5 = .pointer (some ⟨w.heap.size, 3, none⟩) := hd 5 (by kernel_rfl)
   generalize vals 5 = u5 at d5 hK ⊢
   subst d5
   obtain ⟨z0, z1, z2, z3, z4, z5⟩ := (hA0.q hN).cells
   go_simp
   exact hK.out (.bool s12) _ _ (by kernel_rfl) (congrArg Value.bool ((HSB.out.trans (decide_eq_false (H1.out))))) (Q.refl _)
  refine Each.y hctx ?_ ?_
  ·intro vals W hM hd K hK
   have d6 : vals 6 = .bool false := hd 6 (by kernel_rfl)
   generalize vals 6 = u6 at d6 hK ⊢
   subst d6
   go_simp
   exact hK.out (.bool true) _ _ (by kernel_rfl) rfl (Q.refl _)
  refine Each.y hctx ?_ ?_
  ·intro vals W hM hd K hK
   have d3 : vals 3 = .bool true := hd 3 (by kernel_rfl)
   generalize vals 3 = u3 at d3 hK ⊢
   subst d3
   have d7 : vals 7 = .bool true := hd 7 (by kernel_rfl)
   generalize vals 7 = u7 at d7 hK ⊢
   subst d7
   go_simp
   exact hK.out (.bool true) _ _ (by kernel_rfl) rfl (Q.refl _)
  refine Each.y hctx ?_ ?_
  ·intro vals W hM hd K hK
   have d8 : vals 8 = .bool true := hd 8 (by kernel_rfl)
   generalize vals 8 = u8 at d8 hK ⊢
   subst d8
   go_simp
   exact hK.out (.bool true) _ _ (by kernel_rfl) rfl (Q.refl _)
  refine Each.y hctx ?_ ?_
  ·intro vals W hM hd K hK
   go_simp
   exact hK.out (.pointer (some ⟨w.heap.size + 1, 0, none⟩)) _ _ (by kernel_rfl) rfl (Q.refl _)
  refine Each.y hctx ?_ ?_
  ·intro vals W hM hd K hK
   have d10 : vals 10 = .pointer (some ⟨w.heap.size + 1, 0, none⟩) := hd 10 (by kernel_rfl)
   generalize vals 10 = u10 at d10 hK ⊢
   subst d10
   go_simp
   exact hK.out (.pointer (some ⟨w.heap.size + 1, 0, none⟩)) _ _ (by kernel_rfl) rfl (Q.refl _)
  refine Each.y hctx ?_ ?_
  ·intro vals W hM hd K hK
   have hN : Q w0 W := hM
   have d11 : vals 11 = .pointer (some ⟨w.heap.size + 1, 0, none⟩) := hd 11 (by kernel_rfl)
   generalize vals 11 = u11 at d11 hK ⊢
   subst d11
   obtain ⟨z0, z1, z2, z3, z4, z5⟩ := (hB0.q hN).cells
   go_simp
   exact hK.out (.bool s21) _ _ (by kernel_rfl) (congrArg Value.bool ((HSC.out.trans (decide_eq_true (H6.out))))) (Q.refl _)
  refine Each.y hctx ?_ ?_
  ·intro vals W hM hd K hK
   have d9 : vals 9 = .bool true := hd 9 (by kernel_rfl)
   generalize vals 9 = u9 at d9 hK ⊢
   subst d9
   have d12 : vals 12 = .bool true := hd 12 (by kernel_rfl)
   generalize vals 12 = u12 at d12 hK ⊢
   subst d12
   go_simp
   exact hK.out (.bool true) _ _ (by kernel_rfl) rfl (Q.refl _)
  refine Each.y hctx ?_ ?_
  ·intro vals W hM hd K hK
   have d13 : vals 13 = .bool true := hd 13 (by kernel_rfl)
   generalize vals 13 = u13 at d13 hK ⊢
   subst d13
   go_simp
   exact hK.out (.bool true) _ _ (by kernel_rfl) rfl (Q.refl _)
  refine Each.y hctx ?_ ?_
  ·intro vals W hM hd K hK
   go_simp
   exact hK.out (.pointer (some ⟨w.heap.size + 1, 3, none⟩)) _ _ (by kernel_rfl) rfl (Q.refl _)
  refine Each.y hctx ?_ ?_
  ·intro vals W hM hd K hK
   have d15 : vals 15 = .pointer (some ⟨w.heap.size + 1, 3, none⟩) := hd 15 (by kernel_rfl)
   generalize vals 15 = u15 at d15 hK ⊢
   subst d15
   go_simp
   exact hK.out (.pointer (some ⟨w.heap.size + 1, 3, none⟩)) _ _ (by kernel_rfl) rfl (Q.refl _)
  refine Each.y hctx ?_ ?_
  ·intro vals W hM hd K hK
   have hN : Q w0 W := hM
   have d16 : vals 16 = .pointer (some ⟨w.heap.size + 1, 3, none⟩) := hd 16 (by kernel_rfl)
   generalize vals 16 = u16 at d16 hK ⊢
   subst d16
   obtain ⟨z0, z1, z2, z3, z4, z5⟩ := (hB0.q hN).cells
   go_simp
   exact hK.out (.bool s22) _ _ (by kernel_rfl) (congrArg Value.bool ((HSD.out.trans (decide_eq_true (H3.out))))) (Q.refl _)
  refine Each.y hctx ?_ ?_
  ·intro vals W hM hd K hK
   have d17 : vals 17 = .bool true := hd 17 (by kernel_rfl)
   generalize vals 17 = u17 at d17 hK ⊢
   subst d17
   go_simp
   exact hK.out (.bool false) _ _ (by kernel_rfl) rfl (Q.refl _)
  refine Each.y hctx ?_ ?_
  ·intro vals W hM hd K hK
   have d14 : vals 14 = .bool true := hd 14 (by kernel_rfl)
   generalize vals 14 = u14 at d14 hK ⊢
   subst d14
   have d18 : vals 18 = .bool false := hd 18 (by kernel_rfl)
   generalize vals 18 = u18 at d18 hK ⊢
   subst d18
   go_simp
   exact hK.out (.bool false) _ _ (by kernel_rfl) rfl (Q.refl _)
  refine Each.y hctx ?_ ?_
  ·intro vals W hM hd K hK
   have d19 : vals 19 = .bool false := hd 19 (by kernel_rfl)
   generalize vals 19 = u19 at d19 hK ⊢
   subst d19
   go_simp
   exact hK.out (.bool false) _ _ (by kernel_rfl) rfl (Q.refl _)
  exact Ja.Steps.nil
 intro vals w1 hq1 hall
 have hG1 := hG0.trans hq1
 have hA1 := hA0.q hq1
 have nA1 := nA0.q hq1
 have hB1 := hB0.q hq1
 have nB1 := nB0.q hq1
 have hT1 := hT0.q hq1
 have f7 : vals 20 = .bool false := hall 20 (by decide)
 rw [f7]
 clear hall hq1 hG0 hA0 hB0 hT0 nA0 nB0
 go_upto_region 3 with fail
 refine text_each (F := ?F26) ([.eq (.pointer (some ⟨w.heap.size, 3, none⟩)), .eq (.pointer (some ⟨w.heap.size, 3, none⟩)), .eq (.bool false), .eq (.bool false)] : List Vs) (by kernel_rfl) ?hF26 ?st26 ?en26
 case hF26 =>
  intro vals
  simp only [Ja.fillL, Act.put, List.setIfInBounds_toArray, List.set_cons_zero, List.set_cons_succ, Nat.reduceAdd]
  exact rfl
 case st26 =>
  intro hctx
  refine Each.y hctx ?_ ?_
  ·intro vals W hM hd K hK
   go_simp
   exact hK.out (.pointer (some ⟨w.heap.size, 3, none⟩)) _ _ (by kernel_rfl) rfl (Q.refl _)
  refine Each.y hctx ?_ ?_
  ·intro vals W hM hd K hK
   have d0 : vals 0 = .pointer (some ⟨w.heap.size, 3, none⟩) := hd 0 (by kernel_rfl)
   generalize vals 0 = u0 at d0 hK ⊢
   subst d0
   go_simp
   exact hK.out (.pointer (some ⟨w.heap.size, 3, none⟩)) _ _ (by kernel_rfl) rfl (Q.refl _)
  refine Each.y hctx ?_ ?_
  ·intro vals W hM hd K hK
   have hN : Q w1 W := hM
   have d1 : vals 1 = .pointer (some ⟨w.heap.size, 3, none⟩) := hd 1 (by kernel_rfl)
   generalize vals 1 = u1 at d1 hK ⊢
   subst d1
   obtain ⟨z0, z1, z2, z3, z4, z5⟩ := (hA1.q hN).cells
   go_simp
   exact hK.out (.bool s12) _ _ (by kernel_rfl) (congrArg Value.bool ((HSB.out.trans (decide_eq_false (H1.out))))) (Q.refl _)
  refine Each.y hctx ?_ ?_
  ·intro vals W hM hd K hK
   have d2 : vals 2 = .bool false := hd 2 (by kernel_rfl)
   generalize vals 2 = u2 at d2 hK ⊢
   subst d2
   go_simp
   exact hK.out (.bool false) _ _ (by kernel_rfl) rfl (Q.refl _)
  exact Ja.Steps.nil
 intro vals w2 hq2 hall
 have hG2 := hG1.trans hq2
 have hA2 := hA1.q hq2
 have nA2 := nA1.q hq2
 have hB2 := hB1.q hq2
 have nB2 := nB1.q hq2
 have hT2 := hT1.q hq2
 have f51 : vals 3 = .bool false := hall 3 (by decide)
 rw [f51]
 clear hall hq2 hG1 hA1 hB1 hT1 nA1 nB1
 go_upto_region 5 with fail
 refine text_each (F := ?F27) ([.eq (.pointer (some ⟨w.heap.size, 0, none⟩)), .eq (.pointer (some ⟨w.heap.size, 0, none⟩)), .eq (.bool true), .eq (.bool true)] : List Vs) (by kernel_rfl) ?hF27 ?st27 ?en27
 case hF27 =>
  intro vals
  simp only [Ja.fillL, Act.put, List.setIfInBounds_toArray, List.set_cons_zero, List.set_cons_succ, Nat.reduceAdd]
  exact rfl
 case st27 =>
  intro hctx
  refine Each.y hctx ?_ ?_
  ·intro vals W hM hd K hK
   go_simp
   exact hK.out (.pointer (some ⟨w.heap.size, 0, none⟩)) _ _ (by kernel_rfl) rfl (Q.refl _)
  refine Each.y hctx ?_ ?_
  ·intro vals W hM hd K hK
   have d0 : vals 0 = .pointer (some ⟨w.heap.size, 0, none⟩) := hd 0 (by kernel_rfl)
   generalize vals 0 = u0 at d0 hK ⊢
   subst d0
   go_simp
   exact hK.out (.pointer (some ⟨w.heap.size, 0, none⟩)) _ _ (by kernel_rfl) rfl (Q.refl _)
  refine Each.y hctx ?_ ?_
  ·intro vals W hM hd K hK
   have hN : Q w2 W := hM
   have d1 : vals 1 = .pointer (some ⟨w.heap.size, 0, none⟩) := hd 1 (by kernel_rfl)
   generalize vals 1 = u1 at d1 hK ⊢
   subst d1
   obtain ⟨z0, z1, z2, z3, z4, z5⟩ := (hA2.q hN).cells
   go_simp
   exact hK.out (.bool s11) _ _ (by kernel_rfl) (congrArg Value.bool ((HSA.out.trans (decide_eq_true (H0.out))))) (Q.refl _)
  refine Each.y hctx ?_ ?_
  ·intro vals W hM hd K hK
   have d2 : vals 2 = .bool true := hd 2 (by kernel_rfl)
   generalize vals 2 = u2 at d2 hK ⊢
   subst d2
   go_simp
   exact hK.out (.bool true) _ _ (by kernel_rfl) rfl (Q.refl _)
  exact Ja.Steps.nil
 intro vals w3 hq3 hall
 have hG3 := hG2.trans hq3
 have hA3 := hA2.q hq3
 have nA3 := nA2.q hq3
 have hB3 := hB2.q hq3
 have nB3 := nB2.q hq3
 have hT3 := hT2.q hq3
 have f60 : vals 3 = .bool true := hall 3 (by decide)
 rw [f60]
 clear hall hq3 hG2 hA2 hB2 hT2 nA2 nB2
 go_upto_region 6 with fail
 have Z5 : Hid (sz (pmin (pb) (qb) (p) (q)) ≤ 800000000) := Lib.hid (by have h9 := sz_pmin (pb) (qb) (p) (q); have h0 := Z3.out; have h1 := Z4.out; have h2 := Z1.out; have h3 := Z2.out; omega)
 have Z6 : Hid (sz (pmax (pb) (qb) (p) (q)) ≤ 800000000) := Lib.hid (by have h9 := sz_pmax (pb) (qb) (p) (q); have h0 := Z3.out; have h1 := Z4.out; have h2 := Z1.out; have h3 := Z2.out; omega)
 have B7 : Hid (sz (pb) + sz (qb) + sz (p) + sz (q) ≤ 100000000) := Lib.hid (by have h0 := Z3.out; have h1 := Z4.out; have h2 := Z1.out; have h3 := Z2.out; have hs := ZS.out; have e1 := sz_neg p; have e2 := sz_neg q; omega)
 have hAt3 : At0 w [{ al := none, g := w.heap.size, big := true, row := .agg #[.bool s11, .slice A11 n11 c11, .slice A12 n12 c12, .bool s12, .slice A13 n13 c13, .slice A14 n14 c14], st := 1000, src := 0 }, { al := none, g := w.heap.size + 1, big := true, row := .agg #[.bool s21, .slice A21 n21 c21, .slice A22 n22 c22, .bool s22, .slice A23 n23 c23, .slice A24 n24 c24], st := 1000, src := 0 }, { al := none, g := w.heap.size + 1 + 1, big := true, row := .agg #[.bool false, .slice none 0 0, .slice none 0 0, .bool false, .slice none 0 0, .slice none 0 0], st := 3, src := 2 }] [(.agg #[.bool s11, .slice A11 n11 c11, .slice A12 n12 c12, .bool s12, .slice A13 n13 c13, .slice A14 n14 c14], .span (p) (q)), (.agg #[.bool s21, .slice A21 n21 c21, .slice A22 n22 c22, .bool s22, .slice A23 n23 c23, .slice A24 n24 c24], .span (pb) (qb))] w3 := At0.of hG3 ⟨fun _ => ⟨by dsimp only; omega, NbV.ofS hA3⟩, fun _ => ⟨by dsimp only; omega, NbV.ofS hB3⟩, fun _ => ⟨by dsimp only; omega, NbV.ofS hT3⟩, trivial⟩ (by (simp [Apart0] <;> omega)) ⟨nA3, nB3, trivial⟩
 clear hG3 hA3 hB3 hT3 nA3 nB3
 refine text_cells (F := ?F28) w ([.span (pb) (qb), .span (p) (q), .span (pmin (pb) (qb) (p) (q)) (pmax (pb) (qb) (p) (q)), .any] : List Vs) _ _ (by kernel_rfl) hAt3 ?hF28 ?st28 ?en28
 case hF28 =>
  intro vals
  simp only [Ja.fillL, Act.put, List.setIfInBounds_toArray, List.set_cons_zero, List.set_cons_succ, Nat.reduceAdd]
  exact rfl
 case st28 =>
  clear hAt3
  intro hctx
  refine JC.o hctx ?_ ?_
  ·intro L vals W hL hJ hd K hK
   obtain ⟨z0, z1, z2, z3, z4, z5⟩ := (NbV.outS (hJ.still 1 rfl rfl (Nat.le_of_ble_eq_true (by kernel_rfl)))).cells
   go_simp
   exact hK.out (.agg #[.bool s21, .slice A21 n21 c21, .slice A22 n22 c22, .bool s22, .slice A23 n23 c23, .slice A24 n24 c24]) _ _ (by kernel_rfl) (hJ.kept 1 rfl) (Q.refl _)
  refine JC.o hctx ?_ ?_
  ·intro L vals W hL hJ hd K hK
   obtain ⟨z0, z1, z2, z3, z4, z5⟩ := (NbV.outS (hJ.still 0 rfl rfl (Nat.le_of_ble_eq_true (by kernel_rfl)))).cells
   go_simp
   exact hK.out (.agg #[.bool s11, .slice A11 n11 c11, .slice A12 n12 c12, .bool s12, .slice A13 n13 c13, .slice A14 n14 c14]) _ _ (by kernel_rfl) (hJ.kept 0 rfl) (Q.refl _)
  refine JC.o hctx ?_ ?_
  ·intro L vals W hL hJ hd K hK
   have hQ := hJ.q
   have d0 : Ns W (vals 0) (pb) (qb) := hd 0 (by kernel_rfl)
   have d1 : Ns W (vals 1) (p) (q) := hd 1 (by kernel_rfl)
   go_simp
   (with_reducible refine (q_product_neg _ _ (pb) (qb) (p) (q) W (hT9.q hQ) d0 d1 H3.out H5.out H4.out B7.out).mono ?_)
   rintro e W9 ⟨r, rfl, hr, hq9⟩
   exact hK.out r W9 _ (by kernel_rfl) hr hq9
  refine Ja.Steps.cons (JC.store (n := 2) hctx (by kernel_rfl) (by rfl) (by kernel_rfl) (by rfl) (by rfl) (by kernel_rfl) (by rfl) ?_) ?_
  ·intro L vals W g old hJ hp ho hs K hK
   have hs9 : Ns W (vals 2) (pmin (pb) (qb) (p) (q)) (pmax (pb) (qb) (p) (q)) := hs
   dsimp only at hK
   obtain rfl : w.heap.size + 1 + 1 = g := by injection hp with hp; injection hp with hp; injection hp with hp
   generalize vals 2 = uj at hs9 hK ⊢
   obtain ⟨e1, C1, i1, j1, C2, i2, j2, e2, C3, i3, j3, C4, i4, j4, rfl, -, -⟩ := hs9
   obtain ⟨f1, D1, x1, y1, D2, x2, y2, f2, D3, x3, y3, D4, x4, y4, ho1, hb⟩ := ho
   have fz := hb.frozen
   obtain ⟨r0, r1, r2, r3, r4, r5⟩ := hb.cells
   clear hb ho1 hp
   go_simp
   exact hK.out undef _ _ (by kernel_rfl) PutV.ofS
  exact Ja.Steps.nil
 intro L vals w4 hall hJ
 clear hAt3
 have hG4 := hJ.q
 have hA4 : Sp w4 (w.heap.size) (s11) (.slice A11 n11 c11) (.slice A12 n12 c12) (s12) (.slice A13 n13 c13) (.slice A14 n14 c14) := NbV.outS (hJ.still 0 rfl rfl (Nat.le_of_ble_eq_true (by kernel_rfl)))
 have nA4 : Ns w4 (.agg #[.bool s11, .slice A11 n11 c11, .slice A12 n12 c12, .bool s12, .slice A13 n13 c13, .slice A14 n14 c14]) (p) (q) := hJ.kept 0 rfl
 have hB4 : Sp w4 (w.heap.size + 1) (s21) (.slice A21 n21 c21) (.slice A22 n22 c22) (s22) (.slice A23 n23 c23) (.slice A24 n24 c24) := NbV.outS (hJ.still 1 rfl rfl (Nat.le_of_ble_eq_true (by kernel_rfl)))
 have nB4 : Ns w4 (.agg #[.bool s21, .slice A21 n21 c21, .slice A22 n22 c22, .bool s22, .slice A23 n23 c23, .slice A24 n24 c24]) (pb) (qb) := hJ.kept 1 rfl
 have qT : NbV w4 (w.heap.size + 1 + 1) true (vals 2) := hJ.stored 2 rfl rfl (hall 3 (by decide))
 have nT4 : Ns w4 (vals 2) (pmin (pb) (qb) (p) (q)) (pmax (pb) (qb) (p) (q)) := hJ.s 2 (hall 2 (by decide))
 obtain ⟨sT1, AT1, kT1, cT1, AT2, kT2, cT2, sT2, AT3, kT3, cT3, AT4, kT4, cT4, yT, hT4⟩ := qT
 change Sp w4 (w.heap.size + 1 + 1) (sT1) (.slice AT1 kT1 cT1) (.slice AT2 kT2 cT2) (sT2) (.slice AT3 kT3 cT3) (.slice AT4 kT4 cT4) at hT4
 try dsimp only at yT
 rw [yT] at nT4
 clear yT
 clear hall hJ
 go_wp2_with fail
 have hps := prod_swap p q pb qb
 rw [hps.1, hps.2] at nT4
 obtain ⟨z0, z1, z2, z3, z4, z5⟩ := hT4.cells
 refine bodyPost_ret (v := .agg #[.bool sT1, .slice AT1 kT1 cT1, .slice AT2 kT2 cT2, .bool sT2, .slice AT3 kT3 cT3, .slice AT4 kT4 cT4]) (by simp [results, Tryz.results155, go_sem, z0, z1, z2, z3, z4, z5]) rfl ?_
 exact ⟨_, rfl, nT4, hG4⟩
theorem q_product (a b : Value) (p q pb qb : Rat) (w : World) (hT : Tb w) (ha : Ns w a p q) (hb : Ns w b pb qb) (h1 : p ≤ q) (h2 : pb ≤ qb) (hB : sz p + sz q + sz pb + sz qb ≤ 100000000) :
    Calls Tryz.prog 155 #[a, b] w fun e w' => ∃ r, e = .returned r ∧ Ns w' r (pmin p q pb qb) (pmax p q pb qb) ∧ Q w w' := by
  by_cases c1 : p < 0
  · by_cases c2 : q < 0
    · exact q_product_neg a b p q pb qb w hT ha hb c2 h1 h2 hB
    · by_cases c3 : pb < 0
      · by_cases c4 : qb < 0
        · exact q_product_sn a b p q pb qb w hT ha hb c1 c2 c4 h1 h2 hB
        · exact q_product_both a b p q pb qb w hT ha hb c1 c2 c3 c4 hB
      · exact q_product_sp a b p q pb qb w hT ha hb c1 c2 c3 h1 h2 hB
  · exact q_product_pos a b p q pb qb w hT ha hb (Rat.not_lt.1 c1) h1 h2 hB
end Go.Proofs.YtgokbhikgdhmpaaGreatDoor
