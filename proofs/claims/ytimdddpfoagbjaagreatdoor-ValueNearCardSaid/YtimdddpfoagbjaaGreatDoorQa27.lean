/- Laws of values (P1.7, P1.8), each for every three strings; no condition. Part of the proof: texts Jd1. -/
import Derived.Test.YtimdddpfoagbjaaGreatDoorQa23
import Derived.Test.YtimdddpfoagbjaaGreatDoorQa25
namespace Go.Proofs.YtimdddpfoagbjaaGreatDoor
open Go.RowKit
open Ma Me
set_option maxRecDepth 100000 in
set_option maxHeartbeats 2000000 in
theorem q_three (a b c : ByteArray) (w : World) (hT9 : Tb w) (ha : a.size ≤ 9223372036854775806) (hb : b.size ≤ 9223372036854775806) (hc : c.size ≤ 9223372036854775806) : Calls Tryz.prog 95 #[.string a, .string b, .string c] w fun e w' => ∃ x y z, e = .returned (.tuple #[x, y, z, .bool (decide ((parseS a.data.toList).1 = 0) && decide ((parseS b.data.toList).1 = 0) && decide ((parseS c.data.toList).1 = 0))]) ∧ Nq w' x (parseS a.data.toList).2 ∧ Nq w' y (parseS b.data.toList).2 ∧ Nq w' z (parseS c.data.toList).2 ∧ Q w w' := by
  obtain ⟨w0, hW, hG0, hR0, hS0, hT0⟩ := boxes2r w false (.slice none 0 0) (.slice none 0 0) false (.slice none 0 0) (.slice none 0 0)
  go_enter Tryz.func95, Tryz.ntmps95
  go_upto_region 1 with fail
  clear hW
  have hA0 : At0 w [{ al := none, g := w.heap.size, big := false, row := .agg #[.bool false, .slice none 0 0, .slice none 0 0], st := 1000, src := 0 }, { al := none, g := w.heap.size + 1, big := false, row := .agg #[.bool false, .slice none 0 0, .slice none 0 0], st := 1000, src := 0 }, { al := none, g := w.heap.size + 1 + 1, big := false, row := .agg #[.bool false, .slice none 0 0, .slice none 0 0], st := 1000, src := 0 }, { al := some 5, g := 0, big := false, row := .agg #[.bool false, .slice none 0 0, .slice none 0 0], st := 6, src := 3 }] [] w0 := At0.of hG0 ⟨fun _ => ⟨by dsimp only; omega, NbV.of hR0⟩, fun _ => ⟨by dsimp only; omega, NbV.of hS0⟩, fun _ => ⟨by dsimp only; omega, NbV.of hT0⟩, fun h => (by cases h), trivial⟩ (by (simp [Apart0] <;> omega)) trivial
  clear hG0 hR0 hS0 hT0
  refine text_cells (F := ?F2) w ([.eq (.string (a)), .pair ((parseS a.data.toList).2) ((parseS a.data.toList).1), .pair ((parseS a.data.toList).2) ((parseS a.data.toList).1), .num ((parseS a.data.toList).2), .eq (.int .i64 ((parseS a.data.toList).1)), .any, .any, .eq (.int .i64 ((parseS a.data.toList).1))] : List Vs) _ _ (by kernel_rfl) hA0 ?hF2 ?st2 ?en2
  case hF2 =>
    intro vals
    simp only [Ja.fillL, Act.put, List.setIfInBounds_toArray, List.set_cons_zero, List.set_cons_succ, Nat.reduceAdd]
    exact rfl
  case st2 =>
    clear hA0
    intro hctx
    refine Ja.Steps.cons (JC.other hctx (by kernel_rfl) (by rfl) (by kernel_rfl) (by kernel_rfl) ?_) ?_
    · intro L vals W hL hJ hd K hK
      have hQ := hJ.q
      go_simp
      exact hK.out (.string (a)) _ _ (by kernel_rfl) rfl (Q.refl _)
    refine Ja.Steps.cons (JC.other hctx (by kernel_rfl) (by rfl) (by kernel_rfl) (by kernel_rfl) ?_) ?_
    · intro L vals W hL hJ hd K hK
      have hQ := hJ.q
      have d0 : vals 0 = .string (a) := hd 0 (by kernel_rfl)
      generalize vals 0 = u0 at d0 hK ⊢
      subst d0
      go_simp
      (with_reducible refine (q_Parse a W (hT9.q hQ) ha).mono ?_)
      rintro e W9 ⟨r, rfl, hr, hq9⟩
      exact hK.out (.tuple #[r, .int .i64 (parseS a.data.toList).1]) W9 _ (by kernel_rfl) ⟨r, rfl, hr⟩ hq9
    refine Ja.Steps.cons (JC.other hctx (by kernel_rfl) (by rfl) (by kernel_rfl) (by kernel_rfl) ?_) ?_
    · intro L vals W hL hJ hd K hK
      have hQ := hJ.q
      have d1 : ∃ r, vals 1 = .tuple #[r, .int .i64 ((parseS a.data.toList).1)] ∧ Nq W r ((parseS a.data.toList).2) := hd 1 (by kernel_rfl)
      go_simp
      exact hK.out (vals 1) _ _ (by kernel_rfl) d1 (Q.refl _)
    refine Ja.Steps.cons (JC.other hctx (by kernel_rfl) (by rfl) (by kernel_rfl) (by kernel_rfl) ?_) ?_
    · intro L vals W hL hJ hd K hK
      have hQ := hJ.q
      have d2 : ∃ r, vals 2 = .tuple #[r, .int .i64 ((parseS a.data.toList).1)] ∧ Nq W r ((parseS a.data.toList).2) := hd 2 (by kernel_rfl)
      generalize vals 2 = u2 at d2 hK ⊢
      obtain ⟨r, rfl, hr⟩ := d2
      go_simp
      exact hK.out r _ _ (by kernel_rfl) hr (Q.refl _)
    refine Ja.Steps.cons (JC.other hctx (by kernel_rfl) (by rfl) (by kernel_rfl) (by kernel_rfl) ?_) ?_
    · intro L vals W hL hJ hd K hK
      have hQ := hJ.q
      have d2 : ∃ r, vals 2 = .tuple #[r, .int .i64 ((parseS a.data.toList).1)] ∧ Nq W r ((parseS a.data.toList).2) := hd 2 (by kernel_rfl)
      generalize vals 2 = u2 at d2 hK ⊢
      obtain ⟨r, rfl, hr⟩ := d2
      go_simp
      exact hK.out (.int .i64 ((parseS a.data.toList).1)) _ _ (by kernel_rfl) rfl (Q.refl _)
    refine Ja.Steps.cons (JC.alloc (n := 3) (cells := #[.bool false, .slice none 0 0, .slice none 0 0]) (t := 25) hctx (by kernel_rfl) (by rfl) (by kernel_rfl) (by rfl) (by rfl) (by kernel_rfl) (by rfl) (fun W => NbV.of (Nb.new W _ _ _)) ?_) ?_
    · intro vals W K hK
      go_simp
      exact hK.out _ (by kernel_rfl)
    refine Ja.Steps.cons (JC.store (n := 3) hctx (by kernel_rfl) (by rfl) (by kernel_rfl) (by rfl) (by rfl) (by kernel_rfl) (by rfl) ?_) ?_
    · intro L vals W g old hJ hp ho hs K hK
      have hs9 : Nq W (vals 3) ((parseS a.data.toList).2) := hs
      have hp9 : vals 5 = .pointer (some ⟨g, 0, none⟩) := hp
      dsimp only at hK
      generalize vals 5 = ua at hp9 hK ⊢
      subst hp9
      generalize vals 3 = uj at hs9 hK ⊢
      obtain ⟨e1, C1, i1, j1, C2, i2, j2, rfl, -⟩ := Nq.form hs9
      obtain ⟨f1, D1, x1, y1, D2, x2, y2, ho1, hb⟩ := ho
      have fz := hb.frozen
      obtain ⟨r0, r1, r2⟩ := hb.cells
      clear hb ho1
      go_simp
      exact hK.out undef _ _ (by kernel_rfl) PutV.of
    refine Ja.Steps.cons (JC.other hctx (by kernel_rfl) (by rfl) (by kernel_rfl) (by kernel_rfl) ?_) ?_
    · intro L vals W hL hJ hd K hK
      have hQ := hJ.q
      have d4 : vals 4 = .int .i64 ((parseS a.data.toList).1) := hd 4 (by kernel_rfl)
      generalize vals 4 = u4 at d4 hK ⊢
      subst d4
      go_simp
      exact hK.out (.int .i64 ((parseS a.data.toList).1)) _ _ (by kernel_rfl) rfl (Q.refl _)
    exact Ja.Steps.nil
  intro L vals w1 hall hJ
  clear hA0
  have hG1 := hJ.q
  have hR1 : Nb w1 (w.heap.size) (false) (.slice none 0 0) (.slice none 0 0) := NbV.out (hJ.still 0 rfl rfl (Nat.le_of_ble_eq_true (by kernel_rfl)))
  have hS1 : Nb w1 (w.heap.size + 1) (false) (.slice none 0 0) (.slice none 0 0) := NbV.out (hJ.still 1 rfl rfl (Nat.le_of_ble_eq_true (by kernel_rfl)))
  have hT1 : Nb w1 (w.heap.size + 1 + 1) (false) (.slice none 0 0) (.slice none 0 0) := NbV.out (hJ.still 2 rfl rfl (Nat.le_of_ble_eq_true (by kernel_rfl)))
  obtain ⟨gX, eX, geX, qX⟩ := hJ.fresh 3 rfl rfl (hall 5 (by decide)) (hall 6 (by decide))
  have nX1 : Nq w1 (vals 3) ((parseS a.data.toList).2) := hJ.s 3 (hall 3 (by decide))
  obtain ⟨sX, AX1, kX1, cX1, AX2, kX2, cX2, yX, hX1⟩ := qX
  change Nb w1 (gX) (sX) (.slice AX1 kX1 cX1) (.slice AX2 kX2 cX2) at hX1
  try dsimp only at yX
  rw [yX] at nX1
  clear yX
  have neXR : gX ≠ w.heap.size := hJ.ne 3 0 (by decide) rfl rfl (hall 5 (by decide)) rfl eX rfl
  have neXS : gX ≠ w.heap.size + 1 := hJ.ne 3 1 (by decide) rfl rfl (hall 5 (by decide)) rfl eX rfl
  have neXT : gX ≠ w.heap.size + 1 + 1 := hJ.ne 3 2 (by decide) rfl rfl (hall 5 (by decide)) rfl eX rfl
  rw [eX]
  clear eX
  have f11 : vals 7 = .int .i64 ((parseS a.data.toList).1) := hJ.s 7 (hall 7 (by decide))
  rw [f11]
  clear hall hJ
  go_upto_region 2 with fail
  have hA1 : At0 w [{ al := none, g := w.heap.size, big := false, row := .agg #[.bool false, .slice none 0 0, .slice none 0 0], st := 1000, src := 0 }, { al := none, g := w.heap.size + 1, big := false, row := .agg #[.bool false, .slice none 0 0, .slice none 0 0], st := 1000, src := 0 }, { al := none, g := w.heap.size + 1 + 1, big := false, row := .agg #[.bool false, .slice none 0 0, .slice none 0 0], st := 1000, src := 0 }, { al := none, g := gX, big := false, row := .agg #[.bool sX, .slice AX1 kX1 cX1, .slice AX2 kX2 cX2], st := 1000, src := 0 }, { al := some 5, g := 0, big := false, row := .agg #[.bool false, .slice none 0 0, .slice none 0 0], st := 6, src := 3 }] [(.agg #[.bool sX, .slice AX1 kX1 cX1, .slice AX2 kX2 cX2], .num ((parseS a.data.toList).2))] w1 := At0.of hG1 ⟨fun _ => ⟨by dsimp only; omega, NbV.of hR1⟩, fun _ => ⟨by dsimp only; omega, NbV.of hS1⟩, fun _ => ⟨by dsimp only; omega, NbV.of hT1⟩, fun _ => ⟨by dsimp only; omega, NbV.of hX1⟩, fun h => (by cases h), trivial⟩ (by (simp [Apart0] <;> omega)) ⟨nX1, trivial⟩
  clear hG1 hR1 hS1 hT1 hX1 nX1
  refine text_cells (F := ?F3) w ([.eq (.string (b)), .pair ((parseS b.data.toList).2) ((parseS b.data.toList).1), .pair ((parseS b.data.toList).2) ((parseS b.data.toList).1), .num ((parseS b.data.toList).2), .eq (.int .i64 ((parseS b.data.toList).1)), .any, .any, .eq (.int .i64 ((parseS b.data.toList).1))] : List Vs) _ _ (by kernel_rfl) hA1 ?hF3 ?st3 ?en3
  case hF3 =>
    intro vals
    simp only [Ja.fillL, Act.put, List.setIfInBounds_toArray, List.set_cons_zero, List.set_cons_succ, Nat.reduceAdd]
    exact rfl
  case st3 =>
    clear hA1
    intro hctx
    refine Ja.Steps.cons (JC.other hctx (by kernel_rfl) (by rfl) (by kernel_rfl) (by kernel_rfl) ?_) ?_
    · intro L vals W hL hJ hd K hK
      have hQ := hJ.q
      go_simp
      exact hK.out (.string (b)) _ _ (by kernel_rfl) rfl (Q.refl _)
    refine Ja.Steps.cons (JC.other hctx (by kernel_rfl) (by rfl) (by kernel_rfl) (by kernel_rfl) ?_) ?_
    · intro L vals W hL hJ hd K hK
      have hQ := hJ.q
      have d0 : vals 0 = .string (b) := hd 0 (by kernel_rfl)
      generalize vals 0 = u0 at d0 hK ⊢
      subst d0
      go_simp
      (with_reducible refine (q_Parse b W (hT9.q hQ) hb).mono ?_)
      rintro e W9 ⟨r, rfl, hr, hq9⟩
      exact hK.out (.tuple #[r, .int .i64 (parseS b.data.toList).1]) W9 _ (by kernel_rfl) ⟨r, rfl, hr⟩ hq9
    refine Ja.Steps.cons (JC.other hctx (by kernel_rfl) (by rfl) (by kernel_rfl) (by kernel_rfl) ?_) ?_
    · intro L vals W hL hJ hd K hK
      have hQ := hJ.q
      have d1 : ∃ r, vals 1 = .tuple #[r, .int .i64 ((parseS b.data.toList).1)] ∧ Nq W r ((parseS b.data.toList).2) := hd 1 (by kernel_rfl)
      go_simp
      exact hK.out (vals 1) _ _ (by kernel_rfl) d1 (Q.refl _)
    refine Ja.Steps.cons (JC.other hctx (by kernel_rfl) (by rfl) (by kernel_rfl) (by kernel_rfl) ?_) ?_
    · intro L vals W hL hJ hd K hK
      have hQ := hJ.q
      have d2 : ∃ r, vals 2 = .tuple #[r, .int .i64 ((parseS b.data.toList).1)] ∧ Nq W r ((parseS b.data.toList).2) := hd 2 (by kernel_rfl)
      generalize vals 2 = u2 at d2 hK ⊢
      obtain ⟨r, rfl, hr⟩ := d2
      go_simp
      exact hK.out r _ _ (by kernel_rfl) hr (Q.refl _)
    refine Ja.Steps.cons (JC.other hctx (by kernel_rfl) (by rfl) (by kernel_rfl) (by kernel_rfl) ?_) ?_
    · intro L vals W hL hJ hd K hK
      have hQ := hJ.q
      have d2 : ∃ r, vals 2 = .tuple #[r, .int .i64 ((parseS b.data.toList).1)] ∧ Nq W r ((parseS b.data.toList).2) := hd 2 (by kernel_rfl)
      generalize vals 2 = u2 at d2 hK ⊢
      obtain ⟨r, rfl, hr⟩ := d2
      go_simp
      exact hK.out (.int .i64 ((parseS b.data.toList).1)) _ _ (by kernel_rfl) rfl (Q.refl _)
    refine Ja.Steps.cons (JC.alloc (n := 4) (cells := #[.bool false, .slice none 0 0, .slice none 0 0]) (t := 25) hctx (by kernel_rfl) (by rfl) (by kernel_rfl) (by rfl) (by rfl) (by kernel_rfl) (by rfl) (fun W => NbV.of (Nb.new W _ _ _)) ?_) ?_
    · intro vals W K hK
      go_simp
      exact hK.out _ (by kernel_rfl)
    refine Ja.Steps.cons (JC.store (n := 4) hctx (by kernel_rfl) (by rfl) (by kernel_rfl) (by rfl) (by rfl) (by kernel_rfl) (by rfl) ?_) ?_
    · intro L vals W g old hJ hp ho hs K hK
      have hs9 : Nq W (vals 3) ((parseS b.data.toList).2) := hs
      have hp9 : vals 5 = .pointer (some ⟨g, 0, none⟩) := hp
      dsimp only at hK
      generalize vals 5 = ua at hp9 hK ⊢
      subst hp9
      generalize vals 3 = uj at hs9 hK ⊢
      obtain ⟨e1, C1, i1, j1, C2, i2, j2, rfl, -⟩ := Nq.form hs9
      obtain ⟨f1, D1, x1, y1, D2, x2, y2, ho1, hb⟩ := ho
      have fz := hb.frozen
      obtain ⟨r0, r1, r2⟩ := hb.cells
      clear hb ho1
      go_simp
      exact hK.out undef _ _ (by kernel_rfl) PutV.of
    refine Ja.Steps.cons (JC.other hctx (by kernel_rfl) (by rfl) (by kernel_rfl) (by kernel_rfl) ?_) ?_
    · intro L vals W hL hJ hd K hK
      have hQ := hJ.q
      have d4 : vals 4 = .int .i64 ((parseS b.data.toList).1) := hd 4 (by kernel_rfl)
      generalize vals 4 = u4 at d4 hK ⊢
      subst d4
      go_simp
      exact hK.out (.int .i64 ((parseS b.data.toList).1)) _ _ (by kernel_rfl) rfl (Q.refl _)
    exact Ja.Steps.nil
  intro L vals w2 hall hJ
  clear hA1
  have hG2 := hJ.q
  have hR2 : Nb w2 (w.heap.size) (false) (.slice none 0 0) (.slice none 0 0) := NbV.out (hJ.still 0 rfl rfl (Nat.le_of_ble_eq_true (by kernel_rfl)))
  have hS2 : Nb w2 (w.heap.size + 1) (false) (.slice none 0 0) (.slice none 0 0) := NbV.out (hJ.still 1 rfl rfl (Nat.le_of_ble_eq_true (by kernel_rfl)))
  have hT2 : Nb w2 (w.heap.size + 1 + 1) (false) (.slice none 0 0) (.slice none 0 0) := NbV.out (hJ.still 2 rfl rfl (Nat.le_of_ble_eq_true (by kernel_rfl)))
  have hX2 : Nb w2 (gX) (sX) (.slice AX1 kX1 cX1) (.slice AX2 kX2 cX2) := NbV.out (hJ.still 3 rfl rfl (Nat.le_of_ble_eq_true (by kernel_rfl)))
  have nX2 : Nq w2 (.agg #[.bool sX, .slice AX1 kX1 cX1, .slice AX2 kX2 cX2]) ((parseS a.data.toList).2) := hJ.kept 0 rfl
  obtain ⟨gY, eY, geY, qY⟩ := hJ.fresh 4 rfl rfl (hall 5 (by decide)) (hall 6 (by decide))
  have nY2 : Nq w2 (vals 3) ((parseS b.data.toList).2) := hJ.s 3 (hall 3 (by decide))
  obtain ⟨sY, AY1, kY1, cY1, AY2, kY2, cY2, yY, hY2⟩ := qY
  change Nb w2 (gY) (sY) (.slice AY1 kY1 cY1) (.slice AY2 kY2 cY2) at hY2
  try dsimp only at yY
  rw [yY] at nY2
  clear yY
  have neYR : gY ≠ w.heap.size := hJ.ne 4 0 (by decide) rfl rfl (hall 5 (by decide)) rfl eY rfl
  have neYS : gY ≠ w.heap.size + 1 := hJ.ne 4 1 (by decide) rfl rfl (hall 5 (by decide)) rfl eY rfl
  have neYT : gY ≠ w.heap.size + 1 + 1 := hJ.ne 4 2 (by decide) rfl rfl (hall 5 (by decide)) rfl eY rfl
  have neYX : gY ≠ gX := hJ.ne 4 3 (by decide) rfl rfl (hall 5 (by decide)) rfl eY rfl
  rw [eY]
  clear eY
  have f13 : vals 7 = .int .i64 ((parseS b.data.toList).1) := hJ.s 7 (hall 7 (by decide))
  rw [f13]
  clear hall hJ
  go_upto_region 3 with fail
  have hA2 : At0 w [{ al := none, g := w.heap.size, big := false, row := .agg #[.bool false, .slice none 0 0, .slice none 0 0], st := 1000, src := 0 }, { al := none, g := w.heap.size + 1, big := false, row := .agg #[.bool false, .slice none 0 0, .slice none 0 0], st := 1000, src := 0 }, { al := none, g := w.heap.size + 1 + 1, big := false, row := .agg #[.bool false, .slice none 0 0, .slice none 0 0], st := 1000, src := 0 }, { al := none, g := gX, big := false, row := .agg #[.bool sX, .slice AX1 kX1 cX1, .slice AX2 kX2 cX2], st := 1000, src := 0 }, { al := none, g := gY, big := false, row := .agg #[.bool sY, .slice AY1 kY1 cY1, .slice AY2 kY2 cY2], st := 1000, src := 0 }, { al := some 5, g := 0, big := false, row := .agg #[.bool false, .slice none 0 0, .slice none 0 0], st := 6, src := 3 }] [(.agg #[.bool sX, .slice AX1 kX1 cX1, .slice AX2 kX2 cX2], .num ((parseS a.data.toList).2)), (.agg #[.bool sY, .slice AY1 kY1 cY1, .slice AY2 kY2 cY2], .num ((parseS b.data.toList).2))] w2 := At0.of hG2 ⟨fun _ => ⟨by dsimp only; omega, NbV.of hR2⟩, fun _ => ⟨by dsimp only; omega, NbV.of hS2⟩, fun _ => ⟨by dsimp only; omega, NbV.of hT2⟩, fun _ => ⟨by dsimp only; omega, NbV.of hX2⟩, fun _ => ⟨by dsimp only; omega, NbV.of hY2⟩, fun h => (by cases h), trivial⟩ (by (simp [Apart0] <;> omega)) ⟨nX2, nY2, trivial⟩
  clear hG2 hR2 hS2 hT2 hX2 hY2 nX2 nY2
  refine text_cells (F := ?F4) w ([.eq (.string (c)), .pair ((parseS c.data.toList).2) ((parseS c.data.toList).1), .pair ((parseS c.data.toList).2) ((parseS c.data.toList).1), .num ((parseS c.data.toList).2), .eq (.int .i64 ((parseS c.data.toList).1)), .any, .any, .eq (.int .i64 ((parseS c.data.toList).1))] : List Vs) _ _ (by kernel_rfl) hA2 ?hF4 ?st4 ?en4
  case hF4 =>
    intro vals
    simp only [Ja.fillL, Act.put, List.setIfInBounds_toArray, List.set_cons_zero, List.set_cons_succ, Nat.reduceAdd]
    exact rfl
  case st4 =>
    clear hA2
    intro hctx
    refine Ja.Steps.cons (JC.other hctx (by kernel_rfl) (by rfl) (by kernel_rfl) (by kernel_rfl) ?_) ?_
    · intro L vals W hL hJ hd K hK
      have hQ := hJ.q
      go_simp
      exact hK.out (.string (c)) _ _ (by kernel_rfl) rfl (Q.refl _)
    refine Ja.Steps.cons (JC.other hctx (by kernel_rfl) (by rfl) (by kernel_rfl) (by kernel_rfl) ?_) ?_
    · intro L vals W hL hJ hd K hK
      have hQ := hJ.q
      have d0 : vals 0 = .string (c) := hd 0 (by kernel_rfl)
      generalize vals 0 = u0 at d0 hK ⊢
      subst d0
      go_simp
      (with_reducible refine (q_Parse c W (hT9.q hQ) hc).mono ?_)
      rintro e W9 ⟨r, rfl, hr, hq9⟩
      exact hK.out (.tuple #[r, .int .i64 (parseS c.data.toList).1]) W9 _ (by kernel_rfl) ⟨r, rfl, hr⟩ hq9
    refine Ja.Steps.cons (JC.other hctx (by kernel_rfl) (by rfl) (by kernel_rfl) (by kernel_rfl) ?_) ?_
    · intro L vals W hL hJ hd K hK
      have hQ := hJ.q
      have d1 : ∃ r, vals 1 = .tuple #[r, .int .i64 ((parseS c.data.toList).1)] ∧ Nq W r ((parseS c.data.toList).2) := hd 1 (by kernel_rfl)
      go_simp
      exact hK.out (vals 1) _ _ (by kernel_rfl) d1 (Q.refl _)
    refine Ja.Steps.cons (JC.other hctx (by kernel_rfl) (by rfl) (by kernel_rfl) (by kernel_rfl) ?_) ?_
    · intro L vals W hL hJ hd K hK
      have hQ := hJ.q
      have d2 : ∃ r, vals 2 = .tuple #[r, .int .i64 ((parseS c.data.toList).1)] ∧ Nq W r ((parseS c.data.toList).2) := hd 2 (by kernel_rfl)
      generalize vals 2 = u2 at d2 hK ⊢
      obtain ⟨r, rfl, hr⟩ := d2
      go_simp
      exact hK.out r _ _ (by kernel_rfl) hr (Q.refl _)
    refine Ja.Steps.cons (JC.other hctx (by kernel_rfl) (by rfl) (by kernel_rfl) (by kernel_rfl) ?_) ?_
    · intro L vals W hL hJ hd K hK
      have hQ := hJ.q
      have d2 : ∃ r, vals 2 = .tuple #[r, .int .i64 ((parseS c.data.toList).1)] ∧ Nq W r ((parseS c.data.toList).2) := hd 2 (by kernel_rfl)
      generalize vals 2 = u2 at d2 hK ⊢
      obtain ⟨r, rfl, hr⟩ := d2
      go_simp
      exact hK.out (.int .i64 ((parseS c.data.toList).1)) _ _ (by kernel_rfl) rfl (Q.refl _)
    refine Ja.Steps.cons (JC.alloc (n := 5) (cells := #[.bool false, .slice none 0 0, .slice none 0 0]) (t := 25) hctx (by kernel_rfl) (by rfl) (by kernel_rfl) (by rfl) (by rfl) (by kernel_rfl) (by rfl) (fun W => NbV.of (Nb.new W _ _ _)) ?_) ?_
    · intro vals W K hK
      go_simp
      exact hK.out _ (by kernel_rfl)
    refine Ja.Steps.cons (JC.store (n := 5) hctx (by kernel_rfl) (by rfl) (by kernel_rfl) (by rfl) (by rfl) (by kernel_rfl) (by rfl) ?_) ?_
    · intro L vals W g old hJ hp ho hs K hK
      have hs9 : Nq W (vals 3) ((parseS c.data.toList).2) := hs
      have hp9 : vals 5 = .pointer (some ⟨g, 0, none⟩) := hp
      dsimp only at hK
      generalize vals 5 = ua at hp9 hK ⊢
      subst hp9
      generalize vals 3 = uj at hs9 hK ⊢
      obtain ⟨e1, C1, i1, j1, C2, i2, j2, rfl, -⟩ := Nq.form hs9
      obtain ⟨f1, D1, x1, y1, D2, x2, y2, ho1, hb⟩ := ho
      have fz := hb.frozen
      obtain ⟨r0, r1, r2⟩ := hb.cells
      clear hb ho1
      go_simp
      exact hK.out undef _ _ (by kernel_rfl) PutV.of
    refine Ja.Steps.cons (JC.other hctx (by kernel_rfl) (by rfl) (by kernel_rfl) (by kernel_rfl) ?_) ?_
    · intro L vals W hL hJ hd K hK
      have hQ := hJ.q
      have d4 : vals 4 = .int .i64 ((parseS c.data.toList).1) := hd 4 (by kernel_rfl)
      generalize vals 4 = u4 at d4 hK ⊢
      subst d4
      go_simp
      exact hK.out (.int .i64 ((parseS c.data.toList).1)) _ _ (by kernel_rfl) rfl (Q.refl _)
    exact Ja.Steps.nil
  intro L vals w3 hall hJ
  clear hA2
  have hG3 := hJ.q
  have hR3 : Nb w3 (w.heap.size) (false) (.slice none 0 0) (.slice none 0 0) := NbV.out (hJ.still 0 rfl rfl (Nat.le_of_ble_eq_true (by kernel_rfl)))
  have hS3 : Nb w3 (w.heap.size + 1) (false) (.slice none 0 0) (.slice none 0 0) := NbV.out (hJ.still 1 rfl rfl (Nat.le_of_ble_eq_true (by kernel_rfl)))
  have hT3 : Nb w3 (w.heap.size + 1 + 1) (false) (.slice none 0 0) (.slice none 0 0) := NbV.out (hJ.still 2 rfl rfl (Nat.le_of_ble_eq_true (by kernel_rfl)))
  have hX3 : Nb w3 (gX) (sX) (.slice AX1 kX1 cX1) (.slice AX2 kX2 cX2) := NbV.out (hJ.still 3 rfl rfl (Nat.le_of_ble_eq_true (by kernel_rfl)))
  have nX3 : Nq w3 (.agg #[.bool sX, .slice AX1 kX1 cX1, .slice AX2 kX2 cX2]) ((parseS a.data.toList).2) := hJ.kept 0 rfl
  have hY3 : Nb w3 (gY) (sY) (.slice AY1 kY1 cY1) (.slice AY2 kY2 cY2) := NbV.out (hJ.still 4 rfl rfl (Nat.le_of_ble_eq_true (by kernel_rfl)))
  have nY3 : Nq w3 (.agg #[.bool sY, .slice AY1 kY1 cY1, .slice AY2 kY2 cY2]) ((parseS b.data.toList).2) := hJ.kept 1 rfl
  obtain ⟨gZ, eZ, geZ, qZ⟩ := hJ.fresh 5 rfl rfl (hall 5 (by decide)) (hall 6 (by decide))
  have nZ3 : Nq w3 (vals 3) ((parseS c.data.toList).2) := hJ.s 3 (hall 3 (by decide))
  obtain ⟨sZ, AZ1, kZ1, cZ1, AZ2, kZ2, cZ2, yZ, hZ3⟩ := qZ
  change Nb w3 (gZ) (sZ) (.slice AZ1 kZ1 cZ1) (.slice AZ2 kZ2 cZ2) at hZ3
  try dsimp only at yZ
  rw [yZ] at nZ3
  clear yZ
  have neZR : gZ ≠ w.heap.size := hJ.ne 5 0 (by decide) rfl rfl (hall 5 (by decide)) rfl eZ rfl
  have neZS : gZ ≠ w.heap.size + 1 := hJ.ne 5 1 (by decide) rfl rfl (hall 5 (by decide)) rfl eZ rfl
  have neZT : gZ ≠ w.heap.size + 1 + 1 := hJ.ne 5 2 (by decide) rfl rfl (hall 5 (by decide)) rfl eZ rfl
  have neZX : gZ ≠ gX := hJ.ne 5 3 (by decide) rfl rfl (hall 5 (by decide)) rfl eZ rfl
  have neZY : gZ ≠ gY := hJ.ne 5 4 (by decide) rfl rfl (hall 5 (by decide)) rfl eZ rfl
  rw [eZ]
  clear eZ
  have f15 : vals 7 = .int .i64 ((parseS c.data.toList).1) := hJ.s 7 (hall 7 (by decide))
  rw [f15]
  clear hall hJ
  go_upto_region 4 with fail
  obtain ⟨ca, hca⟩ : ∃ z, (parseS a.data.toList).1 = z := ⟨_, rfl⟩
  obtain ⟨cb, hcb⟩ : ∃ z, (parseS b.data.toList).1 = z := ⟨_, rfl⟩
  obtain ⟨cc, hcc⟩ : ∃ z, (parseS c.data.toList).1 = z := ⟨_, rfl⟩
  rw [hca, hcb, hcc]
  by_cases hca0 : ca = 0

  case neg =>
    have Hca := Lib.hid hca0; clear hca0
    have hA3 : At0 w [{ al := none, g := w.heap.size, big := false, row := .agg #[.bool false, .slice none 0 0, .slice none 0 0], st := 13, src := 0 }, { al := none, g := w.heap.size + 1, big := false, row := .agg #[.bool false, .slice none 0 0, .slice none 0 0], st := 14, src := 1 }, { al := none, g := w.heap.size + 1 + 1, big := false, row := .agg #[.bool false, .slice none 0 0, .slice none 0 0], st := 15, src := 2 }, { al := none, g := gX, big := false, row := .agg #[.bool sX, .slice AX1 kX1 cX1, .slice AX2 kX2 cX2], st := 1000, src := 0 }, { al := none, g := gY, big := false, row := .agg #[.bool sY, .slice AY1 kY1 cY1, .slice AY2 kY2 cY2], st := 1000, src := 0 }, { al := none, g := gZ, big := false, row := .agg #[.bool sZ, .slice AZ1 kZ1 cZ1, .slice AZ2 kZ2 cZ2], st := 1000, src := 0 }] [(.agg #[.bool sX, .slice AX1 kX1 cX1, .slice AX2 kX2 cX2], .num ((parseS a.data.toList).2)), (.agg #[.bool sY, .slice AY1 kY1 cY1, .slice AY2 kY2 cY2], .num ((parseS b.data.toList).2)), (.agg #[.bool sZ, .slice AZ1 kZ1 cZ1, .slice AZ2 kZ2 cZ2], .num ((parseS c.data.toList).2))] w3 := At0.of hG3 ⟨fun _ => ⟨by dsimp only; omega, NbV.of hR3⟩, fun _ => ⟨by dsimp only; omega, NbV.of hS3⟩, fun _ => ⟨by dsimp only; omega, NbV.of hT3⟩, fun _ => ⟨by dsimp only; omega, NbV.of hX3⟩, fun _ => ⟨by dsimp only; omega, NbV.of hY3⟩, fun _ => ⟨by dsimp only; omega, NbV.of hZ3⟩, trivial⟩ (by (simp [Apart0] <;> omega)) ⟨nX3, nY3, nZ3, trivial⟩
    clear hG3 hR3 hS3 hT3 hX3 hY3 hZ3 nX3 nY3 nZ3
    refine region_cells (F := ?F5) w ([.num ((parseS a.data.toList).2), .num ((parseS b.data.toList).2), .num ((parseS c.data.toList).2), .eq (.int .i64 (ca)), .eq (.bool false), .eq (.bool false), .any, .any, .eq (.bool false), .eq (.bool false), .any, .any, .eq (.bool false), .any, .any, .any, .eq (.bool false)] : List Vs) _ _ (by kernel_rfl) (by kernel_rfl) hA3 ?hF5 ?st5 ?en5
    case hF5 =>
      intro vals
      simp only [Ja.fillL, Act.put, List.setIfInBounds_toArray, List.set_cons_zero, List.set_cons_succ, Nat.reduceAdd]
      exact rfl
    case st5 =>
      clear hA3
      intro hctx
      refine Ja.Steps.cons (JC.other hctx (by kernel_rfl) (by rfl) (by kernel_rfl) (by kernel_rfl) ?_) ?_
      · intro L vals W hL hJ hd K hK
        have hQ := hJ.q
        obtain ⟨z0, z1, z2⟩ := (NbV.out (hJ.still 3 rfl rfl (Nat.le_of_ble_eq_true (by kernel_rfl)))).cells
        go_simp
        exact hK.out (.agg #[.bool sX, .slice AX1 kX1 cX1, .slice AX2 kX2 cX2]) _ _ (by kernel_rfl) (hJ.kept 0 rfl) (Q.refl _)
      refine Ja.Steps.cons (JC.other hctx (by kernel_rfl) (by rfl) (by kernel_rfl) (by kernel_rfl) ?_) ?_
      · intro L vals W hL hJ hd K hK
        have hQ := hJ.q
        obtain ⟨z0, z1, z2⟩ := (NbV.out (hJ.still 4 rfl rfl (Nat.le_of_ble_eq_true (by kernel_rfl)))).cells
        go_simp
        exact hK.out (.agg #[.bool sY, .slice AY1 kY1 cY1, .slice AY2 kY2 cY2]) _ _ (by kernel_rfl) (hJ.kept 1 rfl) (Q.refl _)
      refine Ja.Steps.cons (JC.other hctx (by kernel_rfl) (by rfl) (by kernel_rfl) (by kernel_rfl) ?_) ?_
      · intro L vals W hL hJ hd K hK
        have hQ := hJ.q
        obtain ⟨z0, z1, z2⟩ := (NbV.out (hJ.still 5 rfl rfl (Nat.le_of_ble_eq_true (by kernel_rfl)))).cells
        go_simp
        exact hK.out (.agg #[.bool sZ, .slice AZ1 kZ1 cZ1, .slice AZ2 kZ2 cZ2]) _ _ (by kernel_rfl) (hJ.kept 2 rfl) (Q.refl _)
      refine Ja.Steps.cons (JC.other hctx (by kernel_rfl) (by rfl) (by kernel_rfl) (by kernel_rfl) ?_) ?_
      · intro L vals W hL hJ hd K hK
        have hQ := hJ.q
        go_simp
        exact hK.out (.int .i64 (ca)) _ _ (by kernel_rfl) rfl (Q.refl _)
      refine Ja.Steps.cons (JC.other hctx (by kernel_rfl) (by rfl) (by kernel_rfl) (by kernel_rfl) ?_) ?_
      · intro L vals W hL hJ hd K hK
        have hQ := hJ.q
        have d3 : vals 3 = .int .i64 (ca) := hd 3 (by kernel_rfl)
        generalize vals 3 = u3 at d3 hK ⊢
        subst d3
        go_simp
        rw [show (((ca) : Int) == (0)) = false from beq_eq_false_iff_ne.2 (Hca.out)]
        exact hK.out (.bool false) _ _ (by kernel_rfl) rfl (Q.refl _)
      refine Ja.Steps.cons (JC.other hctx (by kernel_rfl) (by rfl) (by kernel_rfl) (by kernel_rfl) ?_) ?_
      · intro L vals W hL hJ hd K hK
        have hQ := hJ.q
        have d4 : vals 4 = .bool false := hd 4 (by kernel_rfl)
        generalize vals 4 = u4 at d4 hK ⊢
        subst d4
        go_simp
        exact hK.out (.bool false) _ _ (by kernel_rfl) rfl (Q.refl _)
      refine Ja.Steps.cons (JC.no hctx (by kernel_rfl) (by rfl) (by kernel_rfl) (by kernel_rfl) (by rfl)) ?_
      refine Ja.Steps.cons (JC.no hctx (by kernel_rfl) (by rfl) (by kernel_rfl) (by kernel_rfl) (by rfl)) ?_
      refine Ja.Steps.cons (JC.other hctx (by kernel_rfl) (by rfl) (by kernel_rfl) (by kernel_rfl) ?_) ?_
      · intro L vals W hL hJ hd K hK
        have hQ := hJ.q
        have d5 : vals 5 = .bool false := hd 5 (by kernel_rfl)
        generalize vals 5 = u5 at d5 hK ⊢
        subst d5
        go_simp
        exact hK.out (.bool false) _ _ (by kernel_rfl) rfl (Q.refl _)
      refine Ja.Steps.cons (JC.other hctx (by kernel_rfl) (by rfl) (by kernel_rfl) (by kernel_rfl) ?_) ?_
      · intro L vals W hL hJ hd K hK
        have hQ := hJ.q
        have d8 : vals 8 = .bool false := hd 8 (by kernel_rfl)
        generalize vals 8 = u8 at d8 hK ⊢
        subst d8
        go_simp
        exact hK.out (.bool false) _ _ (by kernel_rfl) rfl (Q.refl _)
      refine Ja.Steps.cons (JC.no hctx (by kernel_rfl) (by rfl) (by kernel_rfl) (by kernel_rfl) (by rfl)) ?_
      refine Ja.Steps.cons (JC.no hctx (by kernel_rfl) (by rfl) (by kernel_rfl) (by kernel_rfl) (by rfl)) ?_
      refine Ja.Steps.cons (JC.other hctx (by kernel_rfl) (by rfl) (by kernel_rfl) (by kernel_rfl) ?_) ?_
      · intro L vals W hL hJ hd K hK
        have hQ := hJ.q
        have d9 : vals 9 = .bool false := hd 9 (by kernel_rfl)
        generalize vals 9 = u9 at d9 hK ⊢
        subst d9
        go_simp
        exact hK.out (.bool false) _ _ (by kernel_rfl) rfl (Q.refl _)
      refine Ja.Steps.cons (JC.store (n := 0) hctx (by kernel_rfl) (by rfl) (by kernel_rfl) (by rfl) (by rfl) (by kernel_rfl) (by rfl) ?_) ?_
      · intro L vals W g old hJ hp ho hs K hK
        have hs9 : Nq W (vals 0) ((parseS a.data.toList).2) := hs
        dsimp only at hK
        obtain rfl : w.heap.size = g := by injection hp with hp; injection hp with hp; injection hp with hp
        generalize vals 0 = uj at hs9 hK ⊢
        obtain ⟨e1, C1, i1, j1, C2, i2, j2, rfl, -⟩ := Nq.form hs9
        obtain ⟨f1, D1, x1, y1, D2, x2, y2, ho1, hb⟩ := ho
        have fz := hb.frozen
        obtain ⟨r0, r1, r2⟩ := hb.cells
        clear hb ho1 hp
        go_simp
        exact hK.out undef _ _ (by kernel_rfl) PutV.of
      refine Ja.Steps.cons (JC.store (n := 1) hctx (by kernel_rfl) (by rfl) (by kernel_rfl) (by rfl) (by rfl) (by kernel_rfl) (by rfl) ?_) ?_
      · intro L vals W g old hJ hp ho hs K hK
        have hs9 : Nq W (vals 1) ((parseS b.data.toList).2) := hs
        dsimp only at hK
        obtain rfl : w.heap.size + 1 = g := by injection hp with hp; injection hp with hp; injection hp with hp
        generalize vals 1 = uj at hs9 hK ⊢
        obtain ⟨e1, C1, i1, j1, C2, i2, j2, rfl, -⟩ := Nq.form hs9
        obtain ⟨f1, D1, x1, y1, D2, x2, y2, ho1, hb⟩ := ho
        have fz := hb.frozen
        obtain ⟨r0, r1, r2⟩ := hb.cells
        clear hb ho1 hp
        go_simp
        exact hK.out undef _ _ (by kernel_rfl) PutV.of
      refine Ja.Steps.cons (JC.store (n := 2) hctx (by kernel_rfl) (by rfl) (by kernel_rfl) (by rfl) (by rfl) (by kernel_rfl) (by rfl) ?_) ?_
      · intro L vals W g old hJ hp ho hs K hK
        have hs9 : Nq W (vals 2) ((parseS c.data.toList).2) := hs
        dsimp only at hK
        obtain rfl : w.heap.size + 1 + 1 = g := by injection hp with hp; injection hp with hp; injection hp with hp
        generalize vals 2 = uj at hs9 hK ⊢
        obtain ⟨e1, C1, i1, j1, C2, i2, j2, rfl, -⟩ := Nq.form hs9
        obtain ⟨f1, D1, x1, y1, D2, x2, y2, ho1, hb⟩ := ho
        have fz := hb.frozen
        obtain ⟨r0, r1, r2⟩ := hb.cells
        clear hb ho1 hp
        go_simp
        exact hK.out undef _ _ (by kernel_rfl) PutV.of
      refine Ja.Steps.cons (JC.other hctx (by kernel_rfl) (by rfl) (by kernel_rfl) (by kernel_rfl) ?_) ?_
      · intro L vals W hL hJ hd K hK
        have hQ := hJ.q
        have d12 : vals 12 = .bool false := hd 12 (by kernel_rfl)
        generalize vals 12 = u12 at d12 hK ⊢
        subst d12
        go_simp
        exact hK.out (.bool false) _ _ (by kernel_rfl) rfl (Q.refl _)
      exact Ja.Steps.nil
    intro L vals w4 hall hJ
    clear hA3
    have hG4 := hJ.q
    have qR : NbV w4 (w.heap.size) false (vals 0) := hJ.stored 0 rfl rfl (hall 13 (by decide))
    have nR4 : Nq w4 (vals 0) ((parseS a.data.toList).2) := hJ.s 0 (hall 0 (by decide))
    obtain ⟨sR, AR1, kR1, cR1, AR2, kR2, cR2, yR, hR4⟩ := qR
    change Nb w4 (w.heap.size) (sR) (.slice AR1 kR1 cR1) (.slice AR2 kR2 cR2) at hR4
    try dsimp only at yR
    rw [yR] at nR4
    clear yR
    have qS : NbV w4 (w.heap.size + 1) false (vals 1) := hJ.stored 1 rfl rfl (hall 14 (by decide))
    have nS4 : Nq w4 (vals 1) ((parseS b.data.toList).2) := hJ.s 1 (hall 1 (by decide))
    obtain ⟨sS, AS1, kS1, cS1, AS2, kS2, cS2, yS, hS4⟩ := qS
    change Nb w4 (w.heap.size + 1) (sS) (.slice AS1 kS1 cS1) (.slice AS2 kS2 cS2) at hS4
    try dsimp only at yS
    rw [yS] at nS4
    clear yS
    have qT : NbV w4 (w.heap.size + 1 + 1) false (vals 2) := hJ.stored 2 rfl rfl (hall 15 (by decide))
    have nT4 : Nq w4 (vals 2) ((parseS c.data.toList).2) := hJ.s 2 (hall 2 (by decide))
    obtain ⟨sT, AT1, kT1, cT1, AT2, kT2, cT2, yT, hT4⟩ := qT
    change Nb w4 (w.heap.size + 1 + 1) (sT) (.slice AT1 kT1 cT1) (.slice AT2 kT2 cT2) at hT4
    try dsimp only at yT
    rw [yT] at nT4
    clear yT
    have hX4 : Nb w4 (gX) (sX) (.slice AX1 kX1 cX1) (.slice AX2 kX2 cX2) := NbV.out (hJ.still 3 rfl rfl (Nat.le_of_ble_eq_true (by kernel_rfl)))
    have nX4 : Nq w4 (.agg #[.bool sX, .slice AX1 kX1 cX1, .slice AX2 kX2 cX2]) ((parseS a.data.toList).2) := hJ.kept 0 rfl
    have hY4 : Nb w4 (gY) (sY) (.slice AY1 kY1 cY1) (.slice AY2 kY2 cY2) := NbV.out (hJ.still 4 rfl rfl (Nat.le_of_ble_eq_true (by kernel_rfl)))
    have nY4 : Nq w4 (.agg #[.bool sY, .slice AY1 kY1 cY1, .slice AY2 kY2 cY2]) ((parseS b.data.toList).2) := hJ.kept 1 rfl
    have hZ4 : Nb w4 (gZ) (sZ) (.slice AZ1 kZ1 cZ1) (.slice AZ2 kZ2 cZ2) := NbV.out (hJ.still 5 rfl rfl (Nat.le_of_ble_eq_true (by kernel_rfl)))
    have nZ4 : Nq w4 (.agg #[.bool sZ, .slice AZ1 kZ1 cZ1, .slice AZ2 kZ2 cZ2]) ((parseS c.data.toList).2) := hJ.kept 2 rfl
    have f9 : vals 16 = .bool false := hJ.s 16 (hall 16 (by decide))
    rw [f9]
    clear hall hJ
    go_wp2_with fail
    obtain ⟨z0, z1, z2⟩ := hR4.cells
    obtain ⟨z3, z4, z5⟩ := hS4.cells
    obtain ⟨z6, z7, z8⟩ := hT4.cells
    refine bodyPost_ret (v := .tuple #[.agg #[.bool sR, .slice AR1 kR1 cR1, .slice AR2 kR2 cR2], .agg #[.bool sS, .slice AS1 kS1 cS1, .slice AS2 kS2 cS2], .agg #[.bool sT, .slice AT1 kT1 cT1, .slice AT2 kT2 cT2], .bool false]) (by simp [results, Tryz.results95, go_sem, z0, z1, z2, z3, z4, z5, z6, z7, z8]) rfl ?_
    exact ⟨_, _, _, by first | rfl | simp [hca, hcb, hcc, Hca.out], nR4, nS4, nT4, hG4⟩
  have Hca := Lib.hid hca0; clear hca0
  by_cases hcb0 : cb = 0

  case neg =>
    have Hcb := Lib.hid hcb0; clear hcb0
    have hA3 : At0 w [{ al := none, g := w.heap.size, big := false, row := .agg #[.bool false, .slice none 0 0, .slice none 0 0], st := 13, src := 0 }, { al := none, g := w.heap.size + 1, big := false, row := .agg #[.bool false, .slice none 0 0, .slice none 0 0], st := 14, src := 1 }, { al := none, g := w.heap.size + 1 + 1, big := false, row := .agg #[.bool false, .slice none 0 0, .slice none 0 0], st := 15, src := 2 }, { al := none, g := gX, big := false, row := .agg #[.bool sX, .slice AX1 kX1 cX1, .slice AX2 kX2 cX2], st := 1000, src := 0 }, { al := none, g := gY, big := false, row := .agg #[.bool sY, .slice AY1 kY1 cY1, .slice AY2 kY2 cY2], st := 1000, src := 0 }, { al := none, g := gZ, big := false, row := .agg #[.bool sZ, .slice AZ1 kZ1 cZ1, .slice AZ2 kZ2 cZ2], st := 1000, src := 0 }] [(.agg #[.bool sX, .slice AX1 kX1 cX1, .slice AX2 kX2 cX2], .num ((parseS a.data.toList).2)), (.agg #[.bool sY, .slice AY1 kY1 cY1, .slice AY2 kY2 cY2], .num ((parseS b.data.toList).2)), (.agg #[.bool sZ, .slice AZ1 kZ1 cZ1, .slice AZ2 kZ2 cZ2], .num ((parseS c.data.toList).2))] w3 := At0.of hG3 ⟨fun _ => ⟨by dsimp only; omega, NbV.of hR3⟩, fun _ => ⟨by dsimp only; omega, NbV.of hS3⟩, fun _ => ⟨by dsimp only; omega, NbV.of hT3⟩, fun _ => ⟨by dsimp only; omega, NbV.of hX3⟩, fun _ => ⟨by dsimp only; omega, NbV.of hY3⟩, fun _ => ⟨by dsimp only; omega, NbV.of hZ3⟩, trivial⟩ (by (simp [Apart0] <;> omega)) ⟨nX3, nY3, nZ3, trivial⟩
    clear hG3 hR3 hS3 hT3 hX3 hY3 hZ3 nX3 nY3 nZ3
    refine region_cells (F := ?F6) w ([.num ((parseS a.data.toList).2), .num ((parseS b.data.toList).2), .num ((parseS c.data.toList).2), .eq (.int .i64 (ca)), .eq (.bool true), .eq (.bool true), .eq (.int .i64 (cb)), .eq (.bool false), .eq (.bool false), .eq (.bool false), .any, .any, .eq (.bool false), .any, .any, .any, .eq (.bool false)] : List Vs) _ _ (by kernel_rfl) (by kernel_rfl) hA3 ?hF6 ?st6 ?en6
    case hF6 =>
      intro vals
      simp only [Ja.fillL, Act.put, List.setIfInBounds_toArray, List.set_cons_zero, List.set_cons_succ, Nat.reduceAdd]
      exact rfl
    case st6 =>
      clear hA3
      intro hctx
      refine Ja.Steps.cons (JC.other hctx (by kernel_rfl) (by rfl) (by kernel_rfl) (by kernel_rfl) ?_) ?_
      · intro L vals W hL hJ hd K hK
        have hQ := hJ.q
        obtain ⟨z0, z1, z2⟩ := (NbV.out (hJ.still 3 rfl rfl (Nat.le_of_ble_eq_true (by kernel_rfl)))).cells
        go_simp
        exact hK.out (.agg #[.bool sX, .slice AX1 kX1 cX1, .slice AX2 kX2 cX2]) _ _ (by kernel_rfl) (hJ.kept 0 rfl) (Q.refl _)
      refine Ja.Steps.cons (JC.other hctx (by kernel_rfl) (by rfl) (by kernel_rfl) (by kernel_rfl) ?_) ?_
      · intro L vals W hL hJ hd K hK
        have hQ := hJ.q
        obtain ⟨z0, z1, z2⟩ := (NbV.out (hJ.still 4 rfl rfl (Nat.le_of_ble_eq_true (by kernel_rfl)))).cells
        go_simp
        exact hK.out (.agg #[.bool sY, .slice AY1 kY1 cY1, .slice AY2 kY2 cY2]) _ _ (by kernel_rfl) (hJ.kept 1 rfl) (Q.refl _)
      refine Ja.Steps.cons (JC.other hctx (by kernel_rfl) (by rfl) (by kernel_rfl) (by kernel_rfl) ?_) ?_
      · intro L vals W hL hJ hd K hK
        have hQ := hJ.q
        obtain ⟨z0, z1, z2⟩ := (NbV.out (hJ.still 5 rfl rfl (Nat.le_of_ble_eq_true (by kernel_rfl)))).cells
        go_simp
        exact hK.out (.agg #[.bool sZ, .slice AZ1 kZ1 cZ1, .slice AZ2 kZ2 cZ2]) _ _ (by kernel_rfl) (hJ.kept 2 rfl) (Q.refl _)
      refine Ja.Steps.cons (JC.other hctx (by kernel_rfl) (by rfl) (by kernel_rfl) (by kernel_rfl) ?_) ?_
      · intro L vals W hL hJ hd K hK
        have hQ := hJ.q
        go_simp
        exact hK.out (.int .i64 (ca)) _ _ (by kernel_rfl) rfl (Q.refl _)
      refine Ja.Steps.cons (JC.other hctx (by kernel_rfl) (by rfl) (by kernel_rfl) (by kernel_rfl) ?_) ?_
      · intro L vals W hL hJ hd K hK
        have hQ := hJ.q
        have d3 : vals 3 = .int .i64 (ca) := hd 3 (by kernel_rfl)
        generalize vals 3 = u3 at d3 hK ⊢
        subst d3
        go_simp
        rw [show (((ca) : Int) == (0)) = true from beq_iff_eq.2 (Hca.out)]
        exact hK.out (.bool true) _ _ (by kernel_rfl) rfl (Q.refl _)
      refine Ja.Steps.cons (JC.other hctx (by kernel_rfl) (by rfl) (by kernel_rfl) (by kernel_rfl) ?_) ?_
      · intro L vals W hL hJ hd K hK
        have hQ := hJ.q
        have d4 : vals 4 = .bool true := hd 4 (by kernel_rfl)
        generalize vals 4 = u4 at d4 hK ⊢
        subst d4
        go_simp
        exact hK.out (.bool true) _ _ (by kernel_rfl) rfl (Q.refl _)
      refine Ja.Steps.cons (JC.other hctx (by kernel_rfl) (by rfl) (by kernel_rfl) (by kernel_rfl) ?_) ?_
      · intro L vals W hL hJ hd K hK
        have hQ := hJ.q
        go_simp
        exact hK.out (.int .i64 (cb)) _ _ (by kernel_rfl) rfl (Q.refl _)
      refine Ja.Steps.cons (JC.other hctx (by kernel_rfl) (by rfl) (by kernel_rfl) (by kernel_rfl) ?_) ?_
      · intro L vals W hL hJ hd K hK
        have hQ := hJ.q
        have d6 : vals 6 = .int .i64 (cb) := hd 6 (by kernel_rfl)
        generalize vals 6 = u6 at d6 hK ⊢
        subst d6
        go_simp
        rw [show (((cb) : Int) == (0)) = false from beq_eq_false_iff_ne.2 (Hcb.out)]
        exact hK.out (.bool false) _ _ (by kernel_rfl) rfl (Q.refl _)
      refine Ja.Steps.cons (JC.other hctx (by kernel_rfl) (by rfl) (by kernel_rfl) (by kernel_rfl) ?_) ?_
      · intro L vals W hL hJ hd K hK
        have hQ := hJ.q
        have d5 : vals 5 = .bool true := hd 5 (by kernel_rfl)
        generalize vals 5 = u5 at d5 hK ⊢
        subst d5
        have d7 : vals 7 = .bool false := hd 7 (by kernel_rfl)
        generalize vals 7 = u7 at d7 hK ⊢
        subst d7
        go_simp
        exact hK.out (.bool false) _ _ (by kernel_rfl) rfl (Q.refl _)
      refine Ja.Steps.cons (JC.other hctx (by kernel_rfl) (by rfl) (by kernel_rfl) (by kernel_rfl) ?_) ?_
      · intro L vals W hL hJ hd K hK
        have hQ := hJ.q
        have d8 : vals 8 = .bool false := hd 8 (by kernel_rfl)
        generalize vals 8 = u8 at d8 hK ⊢
        subst d8
        go_simp
        exact hK.out (.bool false) _ _ (by kernel_rfl) rfl (Q.refl _)
      refine Ja.Steps.cons (JC.no hctx (by kernel_rfl) (by rfl) (by kernel_rfl) (by kernel_rfl) (by rfl)) ?_
      refine Ja.Steps.cons (JC.no hctx (by kernel_rfl) (by rfl) (by kernel_rfl) (by kernel_rfl) (by rfl)) ?_
      refine Ja.Steps.cons (JC.other hctx (by kernel_rfl) (by rfl) (by kernel_rfl) (by kernel_rfl) ?_) ?_
      · intro L vals W hL hJ hd K hK
        have hQ := hJ.q
        have d9 : vals 9 = .bool false := hd 9 (by kernel_rfl)
        generalize vals 9 = u9 at d9 hK ⊢
        subst d9
        go_simp
        exact hK.out (.bool false) _ _ (by kernel_rfl) rfl (Q.refl _)
      refine Ja.Steps.cons (JC.store (n := 0) hctx (by kernel_rfl) (by rfl) (by kernel_rfl) (by rfl) (by rfl) (by kernel_rfl) (by rfl) ?_) ?_
      · intro L vals W g old hJ hp ho hs K hK
        have hs9 : Nq W (vals 0) ((parseS a.data.toList).2) := hs
        dsimp only at hK
        obtain rfl : w.heap.size = g := by injection hp with hp; injection hp with hp; injection hp with hp
        generalize vals 0 = uj at hs9 hK ⊢
        obtain ⟨e1, C1, i1, j1, C2, i2, j2, rfl, -⟩ := Nq.form hs9
        obtain ⟨f1, D1, x1, y1, D2, x2, y2, ho1, hb⟩ := ho
        have fz := hb.frozen
        obtain ⟨r0, r1, r2⟩ := hb.cells
        clear hb ho1 hp
        go_simp
        exact hK.out undef _ _ (by kernel_rfl) PutV.of
      refine Ja.Steps.cons (JC.store (n := 1) hctx (by kernel_rfl) (by rfl) (by kernel_rfl) (by rfl) (by rfl) (by kernel_rfl) (by rfl) ?_) ?_
      · intro L vals W g old hJ hp ho hs K hK
        have hs9 : Nq W (vals 1) ((parseS b.data.toList).2) := hs
        dsimp only at hK
        obtain rfl : w.heap.size + 1 = g := by injection hp with hp; injection hp with hp; injection hp with hp
        generalize vals 1 = uj at hs9 hK ⊢
        obtain ⟨e1, C1, i1, j1, C2, i2, j2, rfl, -⟩ := Nq.form hs9
        obtain ⟨f1, D1, x1, y1, D2, x2, y2, ho1, hb⟩ := ho
        have fz := hb.frozen
        obtain ⟨r0, r1, r2⟩ := hb.cells
        clear hb ho1 hp
        go_simp
        exact hK.out undef _ _ (by kernel_rfl) PutV.of
      refine Ja.Steps.cons (JC.store (n := 2) hctx (by kernel_rfl) (by rfl) (by kernel_rfl) (by rfl) (by rfl) (by kernel_rfl) (by rfl) ?_) ?_
      · intro L vals W g old hJ hp ho hs K hK
        have hs9 : Nq W (vals 2) ((parseS c.data.toList).2) := hs
        dsimp only at hK
        obtain rfl : w.heap.size + 1 + 1 = g := by injection hp with hp; injection hp with hp; injection hp with hp
        generalize vals 2 = uj at hs9 hK ⊢
        obtain ⟨e1, C1, i1, j1, C2, i2, j2, rfl, -⟩ := Nq.form hs9
        obtain ⟨f1, D1, x1, y1, D2, x2, y2, ho1, hb⟩ := ho
        have fz := hb.frozen
        obtain ⟨r0, r1, r2⟩ := hb.cells
        clear hb ho1 hp
        go_simp
        exact hK.out undef _ _ (by kernel_rfl) PutV.of
      refine Ja.Steps.cons (JC.other hctx (by kernel_rfl) (by rfl) (by kernel_rfl) (by kernel_rfl) ?_) ?_
      · intro L vals W hL hJ hd K hK
        have hQ := hJ.q
        have d12 : vals 12 = .bool false := hd 12 (by kernel_rfl)
        generalize vals 12 = u12 at d12 hK ⊢
        subst d12
        go_simp
        exact hK.out (.bool false) _ _ (by kernel_rfl) rfl (Q.refl _)
      exact Ja.Steps.nil
    intro L vals w4 hall hJ
    clear hA3
    have hG4 := hJ.q
    have qR : NbV w4 (w.heap.size) false (vals 0) := hJ.stored 0 rfl rfl (hall 13 (by decide))
    have nR4 : Nq w4 (vals 0) ((parseS a.data.toList).2) := hJ.s 0 (hall 0 (by decide))
    obtain ⟨sR, AR1, kR1, cR1, AR2, kR2, cR2, yR, hR4⟩ := qR
    change Nb w4 (w.heap.size) (sR) (.slice AR1 kR1 cR1) (.slice AR2 kR2 cR2) at hR4
    try dsimp only at yR
    rw [yR] at nR4
    clear yR
    have qS : NbV w4 (w.heap.size + 1) false (vals 1) := hJ.stored 1 rfl rfl (hall 14 (by decide))
    have nS4 : Nq w4 (vals 1) ((parseS b.data.toList).2) := hJ.s 1 (hall 1 (by decide))
    obtain ⟨sS, AS1, kS1, cS1, AS2, kS2, cS2, yS, hS4⟩ := qS
    change Nb w4 (w.heap.size + 1) (sS) (.slice AS1 kS1 cS1) (.slice AS2 kS2 cS2) at hS4
    try dsimp only at yS
    rw [yS] at nS4
    clear yS
    have qT : NbV w4 (w.heap.size + 1 + 1) false (vals 2) := hJ.stored 2 rfl rfl (hall 15 (by decide))
    have nT4 : Nq w4 (vals 2) ((parseS c.data.toList).2) := hJ.s 2 (hall 2 (by decide))
    obtain ⟨sT, AT1, kT1, cT1, AT2, kT2, cT2, yT, hT4⟩ := qT
    change Nb w4 (w.heap.size + 1 + 1) (sT) (.slice AT1 kT1 cT1) (.slice AT2 kT2 cT2) at hT4
    try dsimp only at yT
    rw [yT] at nT4
    clear yT
    have hX4 : Nb w4 (gX) (sX) (.slice AX1 kX1 cX1) (.slice AX2 kX2 cX2) := NbV.out (hJ.still 3 rfl rfl (Nat.le_of_ble_eq_true (by kernel_rfl)))
    have nX4 : Nq w4 (.agg #[.bool sX, .slice AX1 kX1 cX1, .slice AX2 kX2 cX2]) ((parseS a.data.toList).2) := hJ.kept 0 rfl
    have hY4 : Nb w4 (gY) (sY) (.slice AY1 kY1 cY1) (.slice AY2 kY2 cY2) := NbV.out (hJ.still 4 rfl rfl (Nat.le_of_ble_eq_true (by kernel_rfl)))
    have nY4 : Nq w4 (.agg #[.bool sY, .slice AY1 kY1 cY1, .slice AY2 kY2 cY2]) ((parseS b.data.toList).2) := hJ.kept 1 rfl
    have hZ4 : Nb w4 (gZ) (sZ) (.slice AZ1 kZ1 cZ1) (.slice AZ2 kZ2 cZ2) := NbV.out (hJ.still 5 rfl rfl (Nat.le_of_ble_eq_true (by kernel_rfl)))
    have nZ4 : Nq w4 (.agg #[.bool sZ, .slice AZ1 kZ1 cZ1, .slice AZ2 kZ2 cZ2]) ((parseS c.data.toList).2) := hJ.kept 2 rfl
    have f9 : vals 16 = .bool false := hJ.s 16 (hall 16 (by decide))
    rw [f9]
    clear hall hJ
    go_wp2_with fail
    obtain ⟨z0, z1, z2⟩ := hR4.cells
    obtain ⟨z3, z4, z5⟩ := hS4.cells
    obtain ⟨z6, z7, z8⟩ := hT4.cells
    refine bodyPost_ret (v := .tuple #[.agg #[.bool sR, .slice AR1 kR1 cR1, .slice AR2 kR2 cR2], .agg #[.bool sS, .slice AS1 kS1 cS1, .slice AS2 kS2 cS2], .agg #[.bool sT, .slice AT1 kT1 cT1, .slice AT2 kT2 cT2], .bool false]) (by simp [results, Tryz.results95, go_sem, z0, z1, z2, z3, z4, z5, z6, z7, z8]) rfl ?_
    exact ⟨_, _, _, by first | rfl | simp [hca, hcb, hcc, Hca.out, Hcb.out], nR4, nS4, nT4, hG4⟩
  have Hcb := Lib.hid hcb0; clear hcb0
  by_cases hcc0 : cc = 0

  case neg =>
    have Hcc := Lib.hid hcc0; clear hcc0
    have hA3 : At0 w [{ al := none, g := w.heap.size, big := false, row := .agg #[.bool false, .slice none 0 0, .slice none 0 0], st := 13, src := 0 }, { al := none, g := w.heap.size + 1, big := false, row := .agg #[.bool false, .slice none 0 0, .slice none 0 0], st := 14, src := 1 }, { al := none, g := w.heap.size + 1 + 1, big := false, row := .agg #[.bool false, .slice none 0 0, .slice none 0 0], st := 15, src := 2 }, { al := none, g := gX, big := false, row := .agg #[.bool sX, .slice AX1 kX1 cX1, .slice AX2 kX2 cX2], st := 1000, src := 0 }, { al := none, g := gY, big := false, row := .agg #[.bool sY, .slice AY1 kY1 cY1, .slice AY2 kY2 cY2], st := 1000, src := 0 }, { al := none, g := gZ, big := false, row := .agg #[.bool sZ, .slice AZ1 kZ1 cZ1, .slice AZ2 kZ2 cZ2], st := 1000, src := 0 }] [(.agg #[.bool sX, .slice AX1 kX1 cX1, .slice AX2 kX2 cX2], .num ((parseS a.data.toList).2)), (.agg #[.bool sY, .slice AY1 kY1 cY1, .slice AY2 kY2 cY2], .num ((parseS b.data.toList).2)), (.agg #[.bool sZ, .slice AZ1 kZ1 cZ1, .slice AZ2 kZ2 cZ2], .num ((parseS c.data.toList).2))] w3 := At0.of hG3 ⟨fun _ => ⟨by dsimp only; omega, NbV.of hR3⟩, fun _ => ⟨by dsimp only; omega, NbV.of hS3⟩, fun _ => ⟨by dsimp only; omega, NbV.of hT3⟩, fun _ => ⟨by dsimp only; omega, NbV.of hX3⟩, fun _ => ⟨by dsimp only; omega, NbV.of hY3⟩, fun _ => ⟨by dsimp only; omega, NbV.of hZ3⟩, trivial⟩ (by (simp [Apart0] <;> omega)) ⟨nX3, nY3, nZ3, trivial⟩
    clear hG3 hR3 hS3 hT3 hX3 hY3 hZ3 nX3 nY3 nZ3
    refine region_cells (F := ?F7) w ([.num ((parseS a.data.toList).2), .num ((parseS b.data.toList).2), .num ((parseS c.data.toList).2), .eq (.int .i64 (ca)), .eq (.bool true), .eq (.bool true), .eq (.int .i64 (cb)), .eq (.bool true), .eq (.bool true), .eq (.bool true), .eq (.int .i64 (cc)), .eq (.bool false), .eq (.bool false), .any, .any, .any, .eq (.bool false)] : List Vs) _ _ (by kernel_rfl) (by kernel_rfl) hA3 ?hF7 ?st7 ?en7
    case hF7 =>
      intro vals
      simp only [Ja.fillL, Act.put, List.setIfInBounds_toArray, List.set_cons_zero, List.set_cons_succ, Nat.reduceAdd]
      exact rfl
    case st7 =>
      clear hA3
      intro hctx
      refine Ja.Steps.cons (JC.other hctx (by kernel_rfl) (by rfl) (by kernel_rfl) (by kernel_rfl) ?_) ?_
      · intro L vals W hL hJ hd K hK
        have hQ := hJ.q
        obtain ⟨z0, z1, z2⟩ := (NbV.out (hJ.still 3 rfl rfl (Nat.le_of_ble_eq_true (by kernel_rfl)))).cells
        go_simp
        exact hK.out (.agg #[.bool sX, .slice AX1 kX1 cX1, .slice AX2 kX2 cX2]) _ _ (by kernel_rfl) (hJ.kept 0 rfl) (Q.refl _)
      refine Ja.Steps.cons (JC.other hctx (by kernel_rfl) (by rfl) (by kernel_rfl) (by kernel_rfl) ?_) ?_
      · intro L vals W hL hJ hd K hK
        have hQ := hJ.q
        obtain ⟨z0, z1, z2⟩ := (NbV.out (hJ.still 4 rfl rfl (Nat.le_of_ble_eq_true (by kernel_rfl)))).cells
        go_simp
        exact hK.out (.agg #[.bool sY, .slice AY1 kY1 cY1, .slice AY2 kY2 cY2]) _ _ (by kernel_rfl) (hJ.kept 1 rfl) (Q.refl _)
      refine Ja.Steps.cons (JC.other hctx (by kernel_rfl) (by rfl) (by kernel_rfl) (by kernel_rfl) ?_) ?_
      · intro L vals W hL hJ hd K hK
        have hQ := hJ.q
        obtain ⟨z0, z1, z2⟩ := (NbV.out (hJ.still 5 rfl rfl (Nat.le_of_ble_eq_true (by kernel_rfl)))).cells
        go_simp
        exact hK.out (.agg #[.bool sZ, .slice AZ1 kZ1 cZ1, .slice AZ2 kZ2 cZ2]) _ _ (by kernel_rfl) (hJ.kept 2 rfl) (Q.refl _)
      refine Ja.Steps.cons (JC.other hctx (by kernel_rfl) (by rfl) (by kernel_rfl) (by kernel_rfl) ?_) ?_
      · intro L vals W hL hJ hd K hK
        have hQ := hJ.q
        go_simp
        exact hK.out (.int .i64 (ca)) _ _ (by kernel_rfl) rfl (Q.refl _)
      refine Ja.Steps.cons (JC.other hctx (by kernel_rfl) (by rfl) (by kernel_rfl) (by kernel_rfl) ?_) ?_
      · intro L vals W hL hJ hd K hK
        have hQ := hJ.q
        have d3 : vals 3 = .int .i64 (ca) := hd 3 (by kernel_rfl)
        generalize vals 3 = u3 at d3 hK ⊢
        subst d3
        go_simp
        rw [show (((ca) : Int) == (0)) = true from beq_iff_eq.2 (Hca.out)]
        exact hK.out (.bool true) _ _ (by kernel_rfl) rfl (Q.refl _)
      refine Ja.Steps.cons (JC.other hctx (by kernel_rfl) (by rfl) (by kernel_rfl) (by kernel_rfl) ?_) ?_
      · intro L vals W hL hJ hd K hK
        have hQ := hJ.q
        have d4 : vals 4 = .bool true := hd 4 (by kernel_rfl)
        generalize vals 4 = u4 at d4 hK ⊢
        subst d4
        go_simp
        exact hK.out (.bool true) _ _ (by kernel_rfl) rfl (Q.refl _)
      refine Ja.Steps.cons (JC.other hctx (by kernel_rfl) (by rfl) (by kernel_rfl) (by kernel_rfl) ?_) ?_
      · intro L vals W hL hJ hd K hK
        have hQ := hJ.q
        go_simp
        exact hK.out (.int .i64 (cb)) _ _ (by kernel_rfl) rfl (Q.refl _)
      refine Ja.Steps.cons (JC.other hctx (by kernel_rfl) (by rfl) (by kernel_rfl) (by kernel_rfl) ?_) ?_
      · intro L vals W hL hJ hd K hK
        have hQ := hJ.q
        have d6 : vals 6 = .int .i64 (cb) := hd 6 (by kernel_rfl)
        generalize vals 6 = u6 at d6 hK ⊢
        subst d6
        go_simp
        rw [show (((cb) : Int) == (0)) = true from beq_iff_eq.2 (Hcb.out)]
        exact hK.out (.bool true) _ _ (by kernel_rfl) rfl (Q.refl _)
      refine Ja.Steps.cons (JC.other hctx (by kernel_rfl) (by rfl) (by kernel_rfl) (by kernel_rfl) ?_) ?_
      · intro L vals W hL hJ hd K hK
        have hQ := hJ.q
        have d5 : vals 5 = .bool true := hd 5 (by kernel_rfl)
        generalize vals 5 = u5 at d5 hK ⊢
        subst d5
        have d7 : vals 7 = .bool true := hd 7 (by kernel_rfl)
        generalize vals 7 = u7 at d7 hK ⊢
        subst d7
        go_simp
        exact hK.out (.bool true) _ _ (by kernel_rfl) rfl (Q.refl _)
      refine Ja.Steps.cons (JC.other hctx (by kernel_rfl) (by rfl) (by kernel_rfl) (by kernel_rfl) ?_) ?_
      · intro L vals W hL hJ hd K hK
        have hQ := hJ.q
        have d8 : vals 8 = .bool true := hd 8 (by kernel_rfl)
        generalize vals 8 = u8 at d8 hK ⊢
        subst d8
        go_simp
        exact hK.out (.bool true) _ _ (by kernel_rfl) rfl (Q.refl _)
      refine Ja.Steps.cons (JC.other hctx (by kernel_rfl) (by rfl) (by kernel_rfl) (by kernel_rfl) ?_) ?_
      · intro L vals W hL hJ hd K hK
        have hQ := hJ.q
        go_simp
        exact hK.out (.int .i64 (cc)) _ _ (by kernel_rfl) rfl (Q.refl _)
      refine Ja.Steps.cons (JC.other hctx (by kernel_rfl) (by rfl) (by kernel_rfl) (by kernel_rfl) ?_) ?_
      · intro L vals W hL hJ hd K hK
        have hQ := hJ.q
        have d10 : vals 10 = .int .i64 (cc) := hd 10 (by kernel_rfl)
        generalize vals 10 = u10 at d10 hK ⊢
        subst d10
        go_simp
        rw [show (((cc) : Int) == (0)) = false from beq_eq_false_iff_ne.2 (Hcc.out)]
        exact hK.out (.bool false) _ _ (by kernel_rfl) rfl (Q.refl _)
      refine Ja.Steps.cons (JC.other hctx (by kernel_rfl) (by rfl) (by kernel_rfl) (by kernel_rfl) ?_) ?_
      · intro L vals W hL hJ hd K hK
        have hQ := hJ.q
        have d9 : vals 9 = .bool true := hd 9 (by kernel_rfl)
        generalize vals 9 = u9 at d9 hK ⊢
        subst d9
        have d11 : vals 11 = .bool false := hd 11 (by kernel_rfl)
        generalize vals 11 = u11 at d11 hK ⊢
        subst d11
        go_simp
        exact hK.out (.bool false) _ _ (by kernel_rfl) rfl (Q.refl _)
      refine Ja.Steps.cons (JC.store (n := 0) hctx (by kernel_rfl) (by rfl) (by kernel_rfl) (by rfl) (by rfl) (by kernel_rfl) (by rfl) ?_) ?_
      · intro L vals W g old hJ hp ho hs K hK
        have hs9 : Nq W (vals 0) ((parseS a.data.toList).2) := hs
        dsimp only at hK
        obtain rfl : w.heap.size = g := by injection hp with hp; injection hp with hp; injection hp with hp
        generalize vals 0 = uj at hs9 hK ⊢
        obtain ⟨e1, C1, i1, j1, C2, i2, j2, rfl, -⟩ := Nq.form hs9
        obtain ⟨f1, D1, x1, y1, D2, x2, y2, ho1, hb⟩ := ho
        have fz := hb.frozen
        obtain ⟨r0, r1, r2⟩ := hb.cells
        clear hb ho1 hp
        go_simp
        exact hK.out undef _ _ (by kernel_rfl) PutV.of
      refine Ja.Steps.cons (JC.store (n := 1) hctx (by kernel_rfl) (by rfl) (by kernel_rfl) (by rfl) (by rfl) (by kernel_rfl) (by rfl) ?_) ?_
      · intro L vals W g old hJ hp ho hs K hK
        have hs9 : Nq W (vals 1) ((parseS b.data.toList).2) := hs
        dsimp only at hK
        obtain rfl : w.heap.size + 1 = g := by injection hp with hp; injection hp with hp; injection hp with hp
        generalize vals 1 = uj at hs9 hK ⊢
        obtain ⟨e1, C1, i1, j1, C2, i2, j2, rfl, -⟩ := Nq.form hs9
        obtain ⟨f1, D1, x1, y1, D2, x2, y2, ho1, hb⟩ := ho
        have fz := hb.frozen
        obtain ⟨r0, r1, r2⟩ := hb.cells
        clear hb ho1 hp
        go_simp
        exact hK.out undef _ _ (by kernel_rfl) PutV.of
      refine Ja.Steps.cons (JC.store (n := 2) hctx (by kernel_rfl) (by rfl) (by kernel_rfl) (by rfl) (by rfl) (by kernel_rfl) (by rfl) ?_) ?_
      · intro L vals W g old hJ hp ho hs K hK
        have hs9 : Nq W (vals 2) ((parseS c.data.toList).2) := hs
        dsimp only at hK
        obtain rfl : w.heap.size + 1 + 1 = g := by injection hp with hp; injection hp with hp; injection hp with hp
        generalize vals 2 = uj at hs9 hK ⊢
        obtain ⟨e1, C1, i1, j1, C2, i2, j2, rfl, -⟩ := Nq.form hs9
        obtain ⟨f1, D1, x1, y1, D2, x2, y2, ho1, hb⟩ := ho
        have fz := hb.frozen
        obtain ⟨r0, r1, r2⟩ := hb.cells
        clear hb ho1 hp
        go_simp
        exact hK.out undef _ _ (by kernel_rfl) PutV.of
      refine Ja.Steps.cons (JC.other hctx (by kernel_rfl) (by rfl) (by kernel_rfl) (by kernel_rfl) ?_) ?_
      · intro L vals W hL hJ hd K hK
        have hQ := hJ.q
        have d12 : vals 12 = .bool false := hd 12 (by kernel_rfl)
        generalize vals 12 = u12 at d12 hK ⊢
        subst d12
        go_simp
        exact hK.out (.bool false) _ _ (by kernel_rfl) rfl (Q.refl _)
      exact Ja.Steps.nil
    intro L vals w4 hall hJ
    clear hA3
    have hG4 := hJ.q
    have qR : NbV w4 (w.heap.size) false (vals 0) := hJ.stored 0 rfl rfl (hall 13 (by decide))
    have nR4 : Nq w4 (vals 0) ((parseS a.data.toList).2) := hJ.s 0 (hall 0 (by decide))
    obtain ⟨sR, AR1, kR1, cR1, AR2, kR2, cR2, yR, hR4⟩ := qR
    change Nb w4 (w.heap.size) (sR) (.slice AR1 kR1 cR1) (.slice AR2 kR2 cR2) at hR4
    try dsimp only at yR
    rw [yR] at nR4
    clear yR
    have qS : NbV w4 (w.heap.size + 1) false (vals 1) := hJ.stored 1 rfl rfl (hall 14 (by decide))
    have nS4 : Nq w4 (vals 1) ((parseS b.data.toList).2) := hJ.s 1 (hall 1 (by decide))
    obtain ⟨sS, AS1, kS1, cS1, AS2, kS2, cS2, yS, hS4⟩ := qS
    change Nb w4 (w.heap.size + 1) (sS) (.slice AS1 kS1 cS1) (.slice AS2 kS2 cS2) at hS4
    try dsimp only at yS
    rw [yS] at nS4
    clear yS
    have qT : NbV w4 (w.heap.size + 1 + 1) false (vals 2) := hJ.stored 2 rfl rfl (hall 15 (by decide))
    have nT4 : Nq w4 (vals 2) ((parseS c.data.toList).2) := hJ.s 2 (hall 2 (by decide))
    obtain ⟨sT, AT1, kT1, cT1, AT2, kT2, cT2, yT, hT4⟩ := qT
    change Nb w4 (w.heap.size + 1 + 1) (sT) (.slice AT1 kT1 cT1) (.slice AT2 kT2 cT2) at hT4
    try dsimp only at yT
    rw [yT] at nT4
    clear yT
    have hX4 : Nb w4 (gX) (sX) (.slice AX1 kX1 cX1) (.slice AX2 kX2 cX2) := NbV.out (hJ.still 3 rfl rfl (Nat.le_of_ble_eq_true (by kernel_rfl)))
    have nX4 : Nq w4 (.agg #[.bool sX, .slice AX1 kX1 cX1, .slice AX2 kX2 cX2]) ((parseS a.data.toList).2) := hJ.kept 0 rfl
    have hY4 : Nb w4 (gY) (sY) (.slice AY1 kY1 cY1) (.slice AY2 kY2 cY2) := NbV.out (hJ.still 4 rfl rfl (Nat.le_of_ble_eq_true (by kernel_rfl)))
    have nY4 : Nq w4 (.agg #[.bool sY, .slice AY1 kY1 cY1, .slice AY2 kY2 cY2]) ((parseS b.data.toList).2) := hJ.kept 1 rfl
    have hZ4 : Nb w4 (gZ) (sZ) (.slice AZ1 kZ1 cZ1) (.slice AZ2 kZ2 cZ2) := NbV.out (hJ.still 5 rfl rfl (Nat.le_of_ble_eq_true (by kernel_rfl)))
    have nZ4 : Nq w4 (.agg #[.bool sZ, .slice AZ1 kZ1 cZ1, .slice AZ2 kZ2 cZ2]) ((parseS c.data.toList).2) := hJ.kept 2 rfl
    have f9 : vals 16 = .bool false := hJ.s 16 (hall 16 (by decide))
    rw [f9]
    clear hall hJ
    go_wp2_with fail
    obtain ⟨z0, z1, z2⟩ := hR4.cells
    obtain ⟨z3, z4, z5⟩ := hS4.cells
    obtain ⟨z6, z7, z8⟩ := hT4.cells
    refine bodyPost_ret (v := .tuple #[.agg #[.bool sR, .slice AR1 kR1 cR1, .slice AR2 kR2 cR2], .agg #[.bool sS, .slice AS1 kS1 cS1, .slice AS2 kS2 cS2], .agg #[.bool sT, .slice AT1 kT1 cT1, .slice AT2 kT2 cT2], .bool false]) (by simp [results, Tryz.results95, go_sem, z0, z1, z2, z3, z4, z5, z6, z7, z8]) rfl ?_
    exact ⟨_, _, _, by first | rfl | simp [hca, hcb, hcc, Hca.out, Hcb.out, Hcc.out], nR4, nS4, nT4, hG4⟩
  have Hcc := Lib.hid hcc0; clear hcc0
  have hA3 : At0 w [{ al := none, g := w.heap.size, big := false, row := .agg #[.bool false, .slice none 0 0, .slice none 0 0], st := 13, src := 0 }, { al := none, g := w.heap.size + 1, big := false, row := .agg #[.bool false, .slice none 0 0, .slice none 0 0], st := 14, src := 1 }, { al := none, g := w.heap.size + 1 + 1, big := false, row := .agg #[.bool false, .slice none 0 0, .slice none 0 0], st := 15, src := 2 }, { al := none, g := gX, big := false, row := .agg #[.bool sX, .slice AX1 kX1 cX1, .slice AX2 kX2 cX2], st := 1000, src := 0 }, { al := none, g := gY, big := false, row := .agg #[.bool sY, .slice AY1 kY1 cY1, .slice AY2 kY2 cY2], st := 1000, src := 0 }, { al := none, g := gZ, big := false, row := .agg #[.bool sZ, .slice AZ1 kZ1 cZ1, .slice AZ2 kZ2 cZ2], st := 1000, src := 0 }] [(.agg #[.bool sX, .slice AX1 kX1 cX1, .slice AX2 kX2 cX2], .num ((parseS a.data.toList).2)), (.agg #[.bool sY, .slice AY1 kY1 cY1, .slice AY2 kY2 cY2], .num ((parseS b.data.toList).2)), (.agg #[.bool sZ, .slice AZ1 kZ1 cZ1, .slice AZ2 kZ2 cZ2], .num ((parseS c.data.toList).2))] w3 := At0.of hG3 ⟨fun _ => ⟨by dsimp only; omega, NbV.of hR3⟩, fun _ => ⟨by dsimp only; omega, NbV.of hS3⟩, fun _ => ⟨by dsimp only; omega, NbV.of hT3⟩, fun _ => ⟨by dsimp only; omega, NbV.of hX3⟩, fun _ => ⟨by dsimp only; omega, NbV.of hY3⟩, fun _ => ⟨by dsimp only; omega, NbV.of hZ3⟩, trivial⟩ (by (simp [Apart0] <;> omega)) ⟨nX3, nY3, nZ3, trivial⟩
  clear hG3 hR3 hS3 hT3 hX3 hY3 hZ3 nX3 nY3 nZ3
  refine region_cells (F := ?F8) w ([.num ((parseS a.data.toList).2), .num ((parseS b.data.toList).2), .num ((parseS c.data.toList).2), .eq (.int .i64 (ca)), .eq (.bool true), .eq (.bool true), .eq (.int .i64 (cb)), .eq (.bool true), .eq (.bool true), .eq (.bool true), .eq (.int .i64 (cc)), .eq (.bool true), .eq (.bool true), .any, .any, .any, .eq (.bool true)] : List Vs) _ _ (by kernel_rfl) (by kernel_rfl) hA3 ?hF8 ?st8 ?en8
  case hF8 =>
    intro vals
    simp only [Ja.fillL, Act.put, List.setIfInBounds_toArray, List.set_cons_zero, List.set_cons_succ, Nat.reduceAdd]
    exact rfl
  case st8 =>
    clear hA3
    intro hctx
    refine Ja.Steps.cons (JC.other hctx (by kernel_rfl) (by rfl) (by kernel_rfl) (by kernel_rfl) ?_) ?_
    · intro L vals W hL hJ hd K hK
      have hQ := hJ.q
      obtain ⟨z0, z1, z2⟩ := (NbV.out (hJ.still 3 rfl rfl (Nat.le_of_ble_eq_true (by kernel_rfl)))).cells
      go_simp
      exact hK.out (.agg #[.bool sX, .slice AX1 kX1 cX1, .slice AX2 kX2 cX2]) _ _ (by kernel_rfl) (hJ.kept 0 rfl) (Q.refl _)
    refine Ja.Steps.cons (JC.other hctx (by kernel_rfl) (by rfl) (by kernel_rfl) (by kernel_rfl) ?_) ?_
    · intro L vals W hL hJ hd K hK
      have hQ := hJ.q
      obtain ⟨z0, z1, z2⟩ := (NbV.out (hJ.still 4 rfl rfl (Nat.le_of_ble_eq_true (by kernel_rfl)))).cells
      go_simp
      exact hK.out (.agg #[.bool sY, .slice AY1 kY1 cY1, .slice AY2 kY2 cY2]) _ _ (by kernel_rfl) (hJ.kept 1 rfl) (Q.refl _)
    refine Ja.Steps.cons (JC.other hctx (by kernel_rfl) (by rfl) (by kernel_rfl) (by kernel_rfl) ?_) ?_
    · intro L vals W hL hJ hd K hK
      have hQ := hJ.q
      obtain ⟨z0, z1, z2⟩ := (NbV.out (hJ.still 5 rfl rfl (Nat.le_of_ble_eq_true (by kernel_rfl)))).cells
      go_simp
      exact hK.out (.agg #[.bool sZ, .slice AZ1 kZ1 cZ1, .slice AZ2 kZ2 cZ2]) _ _ (by kernel_rfl) (hJ.kept 2 rfl) (Q.refl _)
    refine Ja.Steps.cons (JC.other hctx (by kernel_rfl) (by rfl) (by kernel_rfl) (by kernel_rfl) ?_) ?_
    · intro L vals W hL hJ hd K hK
      have hQ := hJ.q
      go_simp
      exact hK.out (.int .i64 (ca)) _ _ (by kernel_rfl) rfl (Q.refl _)
    refine Ja.Steps.cons (JC.other hctx (by kernel_rfl) (by rfl) (by kernel_rfl) (by kernel_rfl) ?_) ?_
    · intro L vals W hL hJ hd K hK
      have hQ := hJ.q
      have d3 : vals 3 = .int .i64 (ca) := hd 3 (by kernel_rfl)
      generalize vals 3 = u3 at d3 hK ⊢
      subst d3
      go_simp
      rw [show (((ca) : Int) == (0)) = true from beq_iff_eq.2 (Hca.out)]
      exact hK.out (.bool true) _ _ (by kernel_rfl) rfl (Q.refl _)
    refine Ja.Steps.cons (JC.other hctx (by kernel_rfl) (by rfl) (by kernel_rfl) (by kernel_rfl) ?_) ?_
    · intro L vals W hL hJ hd K hK
      have hQ := hJ.q
      have d4 : vals 4 = .bool true := hd 4 (by kernel_rfl)
      generalize vals 4 = u4 at d4 hK ⊢
      subst d4
      go_simp
      exact hK.out (.bool true) _ _ (by kernel_rfl) rfl (Q.refl _)
    refine Ja.Steps.cons (JC.other hctx (by kernel_rfl) (by rfl) (by kernel_rfl) (by kernel_rfl) ?_) ?_
    · intro L vals W hL hJ hd K hK
      have hQ := hJ.q
      go_simp
      exact hK.out (.int .i64 (cb)) _ _ (by kernel_rfl) rfl (Q.refl _)
    refine Ja.Steps.cons (JC.other hctx (by kernel_rfl) (by rfl) (by kernel_rfl) (by kernel_rfl) ?_) ?_
    · intro L vals W hL hJ hd K hK
      have hQ := hJ.q
      have d6 : vals 6 = .int .i64 (cb) := hd 6 (by kernel_rfl)
      generalize vals 6 = u6 at d6 hK ⊢
      subst d6
      go_simp
      rw [show (((cb) : Int) == (0)) = true from beq_iff_eq.2 (Hcb.out)]
      exact hK.out (.bool true) _ _ (by kernel_rfl) rfl (Q.refl _)
    refine Ja.Steps.cons (JC.other hctx (by kernel_rfl) (by rfl) (by kernel_rfl) (by kernel_rfl) ?_) ?_
    · intro L vals W hL hJ hd K hK
      have hQ := hJ.q
      have d5 : vals 5 = .bool true := hd 5 (by kernel_rfl)
      generalize vals 5 = u5 at d5 hK ⊢
      subst d5
      have d7 : vals 7 = .bool true := hd 7 (by kernel_rfl)
      generalize vals 7 = u7 at d7 hK ⊢
      subst d7
      go_simp
      exact hK.out (.bool true) _ _ (by kernel_rfl) rfl (Q.refl _)
    refine Ja.Steps.cons (JC.other hctx (by kernel_rfl) (by rfl) (by kernel_rfl) (by kernel_rfl) ?_) ?_
    · intro L vals W hL hJ hd K hK
      have hQ := hJ.q
      have d8 : vals 8 = .bool true := hd 8 (by kernel_rfl)
      generalize vals 8 = u8 at d8 hK ⊢
      subst d8
      go_simp
      exact hK.out (.bool true) _ _ (by kernel_rfl) rfl (Q.refl _)
    refine Ja.Steps.cons (JC.other hctx (by kernel_rfl) (by rfl) (by kernel_rfl) (by kernel_rfl) ?_) ?_
    · intro L vals W hL hJ hd K hK
      have hQ := hJ.q
      go_simp
      exact hK.out (.int .i64 (cc)) _ _ (by kernel_rfl) rfl (Q.refl _)
    refine Ja.Steps.cons (JC.other hctx (by kernel_rfl) (by rfl) (by kernel_rfl) (by kernel_rfl) ?_) ?_
    · intro L vals W hL hJ hd K hK
      have hQ := hJ.q
      have d10 : vals 10 = .int .i64 (cc) := hd 10 (by kernel_rfl)
      generalize vals 10 = u10 at d10 hK ⊢
      subst d10
      go_simp
      rw [show (((cc) : Int) == (0)) = true from beq_iff_eq.2 (Hcc.out)]
      exact hK.out (.bool true) _ _ (by kernel_rfl) rfl (Q.refl _)
    refine Ja.Steps.cons (JC.other hctx (by kernel_rfl) (by rfl) (by kernel_rfl) (by kernel_rfl) ?_) ?_
    · intro L vals W hL hJ hd K hK
      have hQ := hJ.q
      have d9 : vals 9 = .bool true := hd 9 (by kernel_rfl)
      generalize vals 9 = u9 at d9 hK ⊢
      subst d9
      have d11 : vals 11 = .bool true := hd 11 (by kernel_rfl)
      generalize vals 11 = u11 at d11 hK ⊢
      subst d11
      go_simp
      exact hK.out (.bool true) _ _ (by kernel_rfl) rfl (Q.refl _)
    refine Ja.Steps.cons (JC.store (n := 0) hctx (by kernel_rfl) (by rfl) (by kernel_rfl) (by rfl) (by rfl) (by kernel_rfl) (by rfl) ?_) ?_
    · intro L vals W g old hJ hp ho hs K hK
      have hs9 : Nq W (vals 0) ((parseS a.data.toList).2) := hs
      dsimp only at hK
      obtain rfl : w.heap.size = g := by injection hp with hp; injection hp with hp; injection hp with hp
      generalize vals 0 = uj at hs9 hK ⊢
      obtain ⟨e1, C1, i1, j1, C2, i2, j2, rfl, -⟩ := Nq.form hs9
      obtain ⟨f1, D1, x1, y1, D2, x2, y2, ho1, hb⟩ := ho
      have fz := hb.frozen
      obtain ⟨r0, r1, r2⟩ := hb.cells
      clear hb ho1 hp
      go_simp
      exact hK.out undef _ _ (by kernel_rfl) PutV.of
    refine Ja.Steps.cons (JC.store (n := 1) hctx (by kernel_rfl) (by rfl) (by kernel_rfl) (by rfl) (by rfl) (by kernel_rfl) (by rfl) ?_) ?_
    · intro L vals W g old hJ hp ho hs K hK
      have hs9 : Nq W (vals 1) ((parseS b.data.toList).2) := hs
      dsimp only at hK
      obtain rfl : w.heap.size + 1 = g := by injection hp with hp; injection hp with hp; injection hp with hp
      generalize vals 1 = uj at hs9 hK ⊢
      obtain ⟨e1, C1, i1, j1, C2, i2, j2, rfl, -⟩ := Nq.form hs9
      obtain ⟨f1, D1, x1, y1, D2, x2, y2, ho1, hb⟩ := ho
      have fz := hb.frozen
      obtain ⟨r0, r1, r2⟩ := hb.cells
      clear hb ho1 hp
      go_simp
      exact hK.out undef _ _ (by kernel_rfl) PutV.of
    refine Ja.Steps.cons (JC.store (n := 2) hctx (by kernel_rfl) (by rfl) (by kernel_rfl) (by rfl) (by rfl) (by kernel_rfl) (by rfl) ?_) ?_
    · intro L vals W g old hJ hp ho hs K hK
      have hs9 : Nq W (vals 2) ((parseS c.data.toList).2) := hs
      dsimp only at hK
      obtain rfl : w.heap.size + 1 + 1 = g := by injection hp with hp; injection hp with hp; injection hp with hp
      generalize vals 2 = uj at hs9 hK ⊢
      obtain ⟨e1, C1, i1, j1, C2, i2, j2, rfl, -⟩ := Nq.form hs9
      obtain ⟨f1, D1, x1, y1, D2, x2, y2, ho1, hb⟩ := ho
      have fz := hb.frozen
      obtain ⟨r0, r1, r2⟩ := hb.cells
      clear hb ho1 hp
      go_simp
      exact hK.out undef _ _ (by kernel_rfl) PutV.of
    refine Ja.Steps.cons (JC.other hctx (by kernel_rfl) (by rfl) (by kernel_rfl) (by kernel_rfl) ?_) ?_
    · intro L vals W hL hJ hd K hK
      have hQ := hJ.q
      have d12 : vals 12 = .bool true := hd 12 (by kernel_rfl)
      generalize vals 12 = u12 at d12 hK ⊢
      subst d12
      go_simp
      exact hK.out (.bool true) _ _ (by kernel_rfl) rfl (Q.refl _)
    exact Ja.Steps.nil
  intro L vals w4 hall hJ
  clear hA3
  have hG4 := hJ.q
  have qR : NbV w4 (w.heap.size) false (vals 0) := hJ.stored 0 rfl rfl (hall 13 (by decide))
  have nR4 : Nq w4 (vals 0) ((parseS a.data.toList).2) := hJ.s 0 (hall 0 (by decide))
  obtain ⟨sR, AR1, kR1, cR1, AR2, kR2, cR2, yR, hR4⟩ := qR
  change Nb w4 (w.heap.size) (sR) (.slice AR1 kR1 cR1) (.slice AR2 kR2 cR2) at hR4
  try dsimp only at yR
  rw [yR] at nR4
  clear yR
  have qS : NbV w4 (w.heap.size + 1) false (vals 1) := hJ.stored 1 rfl rfl (hall 14 (by decide))
  have nS4 : Nq w4 (vals 1) ((parseS b.data.toList).2) := hJ.s 1 (hall 1 (by decide))
  obtain ⟨sS, AS1, kS1, cS1, AS2, kS2, cS2, yS, hS4⟩ := qS
  change Nb w4 (w.heap.size + 1) (sS) (.slice AS1 kS1 cS1) (.slice AS2 kS2 cS2) at hS4
  try dsimp only at yS
  rw [yS] at nS4
  clear yS
  have qT : NbV w4 (w.heap.size + 1 + 1) false (vals 2) := hJ.stored 2 rfl rfl (hall 15 (by decide))
  have nT4 : Nq w4 (vals 2) ((parseS c.data.toList).2) := hJ.s 2 (hall 2 (by decide))
  obtain ⟨sT, AT1, kT1, cT1, AT2, kT2, cT2, yT, hT4⟩ := qT
  change Nb w4 (w.heap.size + 1 + 1) (sT) (.slice AT1 kT1 cT1) (.slice AT2 kT2 cT2) at hT4
  try dsimp only at yT
  rw [yT] at nT4
  clear yT
  have hX4 : Nb w4 (gX) (sX) (.slice AX1 kX1 cX1) (.slice AX2 kX2 cX2) := NbV.out (hJ.still 3 rfl rfl (Nat.le_of_ble_eq_true (by kernel_rfl)))
  have nX4 : Nq w4 (.agg #[.bool sX, .slice AX1 kX1 cX1, .slice AX2 kX2 cX2]) ((parseS a.data.toList).2) := hJ.kept 0 rfl
  have hY4 : Nb w4 (gY) (sY) (.slice AY1 kY1 cY1) (.slice AY2 kY2 cY2) := NbV.out (hJ.still 4 rfl rfl (Nat.le_of_ble_eq_true (by kernel_rfl)))
  have nY4 : Nq w4 (.agg #[.bool sY, .slice AY1 kY1 cY1, .slice AY2 kY2 cY2]) ((parseS b.data.toList).2) := hJ.kept 1 rfl
  have hZ4 : Nb w4 (gZ) (sZ) (.slice AZ1 kZ1 cZ1) (.slice AZ2 kZ2 cZ2) := NbV.out (hJ.still 5 rfl rfl (Nat.le_of_ble_eq_true (by kernel_rfl)))
  have nZ4 : Nq w4 (.agg #[.bool sZ, .slice AZ1 kZ1 cZ1, .slice AZ2 kZ2 cZ2]) ((parseS c.data.toList).2) := hJ.kept 2 rfl
  have f9 : vals 16 = .bool true := hJ.s 16 (hall 16 (by decide))
  rw [f9]
  clear hall hJ
  go_wp2_with fail
  obtain ⟨z0, z1, z2⟩ := hR4.cells
  obtain ⟨z3, z4, z5⟩ := hS4.cells
  obtain ⟨z6, z7, z8⟩ := hT4.cells
  refine bodyPost_ret (v := .tuple #[.agg #[.bool sR, .slice AR1 kR1 cR1, .slice AR2 kR2 cR2], .agg #[.bool sS, .slice AS1 kS1 cS1, .slice AS2 kS2 cS2], .agg #[.bool sT, .slice AT1 kT1 cT1, .slice AT2 kT2 cT2], .bool true]) (by simp [results, Tryz.results95, go_sem, z0, z1, z2, z3, z4, z5, z6, z7, z8]) rfl ?_
  exact ⟨_, _, _, by first | rfl | simp [hca, hcb, hcc, Hca.out, Hcb.out, Hcc.out], nR4, nS4, nT4, hG4⟩
end Go.Proofs.YtimdddpfoagbjaaGreatDoor
