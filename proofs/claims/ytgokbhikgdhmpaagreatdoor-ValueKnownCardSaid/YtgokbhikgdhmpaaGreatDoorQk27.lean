/- ValueKnown (examples): the law holds. No condition.. Part of the proof: texts Jd3. -/
import Derived.Test.YtgokbhikgdhmpaaGreatDoorQk23
import Derived.Test.YtgokbhikgdhmpaaGreatDoorQk26
namespace Go.Proofs.YtgokbhikgdhmpaaGreatDoor
open Go.RowKit
open Ma Me
set_option maxRecDepth 100000 in
set_option maxHeartbeats 4000000 in
theorem q_Awake (w : World) (hT : Tb w) (hPx : Px w) : Calls Tryz.prog 23 #[] w fun e w' => e = .returned (.bool true) ∧ Q w w' := by
 obtain ⟨w0, hw0, hG0⟩ : ∃ x, w = x ∧ Q w x := ⟨w, rfl, Q.refl w⟩
 rw [hw0]
 go_enter Tryz.func23, Tryz.ntmps23
 go_upto_region 1 with fail
 obtain ⟨x1, Hx1⟩ : ∃ x : Rat, Hid (x = 4700) := ⟨_, Lib.hid rfl⟩
 have Z1 : Hid (sz (x1) ≤ 100) := Lib.hid (by rw [Hx1.out]; decide +kernel)
 obtain ⟨x2, Hx2⟩ : ∃ x : Rat, Hid (x = -3/4) := ⟨_, Lib.hid rfl⟩
 have Z2 : Hid (sz (x2) ≤ 100) := Lib.hid (by rw [Hx2.out]; decide +kernel)
 obtain ⟨x3, Hx3⟩ : ∃ x : Rat, Hid (x = 0) := ⟨_, Lib.hid rfl⟩
 have Z3 : Hid (sz (x3) ≤ 100) := Lib.hid (by rw [Hx3.out]; decide +kernel)
 obtain ⟨x4, Hx4⟩ : ∃ x : Rat, Hid (x = 9) := ⟨_, Lib.hid rfl⟩
 have Z4 : Hid (sz (x4) ≤ 100) := Lib.hid (by rw [Hx4.out]; decide +kernel)
 have hAt0 : At0 w [{ al := some 4, g := 0, big := false, row := .agg #[.bool false, .slice none 0 0, .slice none 0 0], st := 5, src := 2 }] [] w0 := At0.of hG0 ⟨fun h => (by cases h), trivial⟩ (by simp [Apart0]) trivial
 clear hG0 
 refine text_cells (F := ?F2) w ([.pair (x1) (0), .pair (x1) (0), .num (x1), .eq (.int .i64 (0)), .any, .any, .eq (.int .i64 (0))] : List Vs) _ _ (by kernel_rfl) hAt0 ?hF2 ?st2 ?en2
 case hF2 =>
  intro vals
  simp only [Ja.fillL, Act.put, List.setIfInBounds_toArray, List.set_cons_zero, List.set_cons_succ, Nat.reduceAdd]
  exact rfl
 case st2 =>
  clear hAt0
  intro hctx
  refine JC.o hctx ?_ ?_
  ·intro L vals W hL hJ hd K hK
   have hQ := hJ.q
   go_simp
   (with_reducible refine (q_Read ⟨#[52, 46, 55, 107]⟩ W (hT.q hQ) (hPx.q hQ) (by decide)).mono ?_)
   rintro e W9 ⟨r, rfl, hr, hq9⟩
   exact hK.out (.tuple #[r, .int .i64 (readS (⟨#[52, 46, 55, 107]⟩ : ByteArray).data.toList).1]) W9 _ (by kernel_rfl) ⟨r, by rw [show ((readS (⟨#[52, 46, 55, 107]⟩ : ByteArray).data.toList).1 : Int) = 0 from by decide +kernel], by have h7 := hr; rw [show ((readS (⟨#[52, 46, 55, 107]⟩ : ByteArray).data.toList).2 : Rat) = x1 from by rw [Hx1.out]; decide +kernel] at h7; exact h7⟩ hq9
  refine JC.o hctx ?_ ?_
  ·intro L vals W hL hJ hd K hK
   have d0 : ∃ r, vals 0 = .tuple #[r, .int .i64 (0)] ∧ Nq W r (x1) := hd 0 (by kernel_rfl)
   go_simp
   exact hK.out (vals 0) _ _ (by kernel_rfl) d0 (Q.refl _)
  refine JC.o hctx ?_ ?_
  ·intro L vals W hL hJ hd K hK
   have d1 : ∃ r, vals 1 = .tuple #[r, .int .i64 (0)] ∧ Nq W r (x1) := hd 1 (by kernel_rfl)
   generalize vals 1 = u1 at d1 hK ⊢
   obtain ⟨r, rfl, hr⟩ := d1
   go_simp
   exact hK.out r _ _ (by kernel_rfl) hr (Q.refl _)
  refine JC.o hctx ?_ ?_
  ·intro L vals W hL hJ hd K hK
   have d1 : ∃ r, vals 1 = .tuple #[r, .int .i64 (0)] ∧ Nq W r (x1) := hd 1 (by kernel_rfl)
   generalize vals 1 = u1 at d1 hK ⊢
   obtain ⟨r, rfl, hr⟩ := d1
   go_simp
   exact hK.out (.int .i64 (0)) _ _ (by kernel_rfl) rfl (Q.refl _)
  refine Ja.Steps.cons (JC.alloc (n := 0) (cells := #[.bool false, .slice none 0 0, .slice none 0 0]) (t := 25) hctx (by kernel_rfl) (by rfl) (by kernel_rfl) (by rfl) (by rfl) (by kernel_rfl) (by rfl) (fun W => NbV.of (Nb.new W _ _ _)) ?_) ?_
  ·intro vals W K hK
   go_simp
   exact hK.out _ (by kernel_rfl)
  refine Ja.Steps.cons (JC.store (n := 0) hctx (by kernel_rfl) (by rfl) (by kernel_rfl) (by rfl) (by rfl) (by kernel_rfl) (by rfl) ?_) ?_
  ·intro L vals W g old hJ hp ho hs K hK
   have hs9 : Nq W (vals 2) (x1) := hs
   have hp9 : vals 4 = .pointer (some ⟨g, 0, none⟩) := hp
   dsimp only at hK
   generalize vals 4 = ua at hp9 hK ⊢
   subst hp9
   generalize vals 2 = uj at hs9 hK ⊢
   obtain ⟨e1, C1, i1, j1, C2, i2, j2, rfl, -⟩ := Nq.form hs9
   obtain ⟨f1, D1, x1, y1, D2, x2, y2, ho1, hb⟩ := ho
   have fz := hb.frozen
   obtain ⟨r0, r1, r2⟩ := hb.cells
   clear hb ho1
   go_simp
   exact hK.out undef _ _ (by kernel_rfl) PutV.of
  refine JC.o hctx ?_ ?_
  ·intro L vals W hL hJ hd K hK
   have d3 : vals 3 = .int .i64 (0) := hd 3 (by kernel_rfl)
   generalize vals 3 = u3 at d3 hK ⊢
   subst d3
   go_simp
   exact hK.out (.int .i64 (0)) _ _ (by kernel_rfl) rfl (Q.refl _)
  exact Ja.Steps.nil
 intro L vals w1 hall hJ
 clear hAt0
 have hG1 := hJ.q
 obtain ⟨gX, eX, geX, qX⟩ := hJ.fresh 0 rfl rfl (hall 4 (by decide)) (hall 5 (by decide))
 have nX1 : Nq w1 (vals 2) (x1) := hJ.s 2 (hall 2 (by decide))
 obtain ⟨sX, AX1, kX1, cX1, AX2, kX2, cX2, yX, hX1⟩ := qX
 change Nb w1 (gX) (sX) (.slice AX1 kX1 cX1) (.slice AX2 kX2 cX2) at hX1
 try dsimp only at yX
 rw [yX] at nX1
 clear yX
 rw [eX]
 clear eX
 have f2 : vals 6 = .int .i64 (0) := hJ.s 6 (hall 6 (by decide))
 rw [f2]
 clear hall hJ
 go_upto_region 2 with fail
 have hAt1 : At0 w [{ al := none, g := gX, big := false, row := .agg #[.bool sX, .slice AX1 kX1 cX1, .slice AX2 kX2 cX2], st := 1000, src := 0 }, { al := some 4, g := 0, big := false, row := .agg #[.bool false, .slice none 0 0, .slice none 0 0], st := 5, src := 2 }] [(.agg #[.bool sX, .slice AX1 kX1 cX1, .slice AX2 kX2 cX2], .num (x1))] w1 := At0.of hG1 ⟨fun _ => ⟨by dsimp only; omega, NbV.of hX1⟩, fun h => (by cases h), trivial⟩ (by (simp [Apart0] <;> omega)) ⟨nX1, trivial⟩
 clear hG1 hX1 nX1
 refine text_cells (F := ?F3) w ([.pair (x2) (0), .pair (x2) (0), .num (x2), .eq (.int .i64 (0)), .any, .any, .eq (.int .i64 (0))] : List Vs) _ _ (by kernel_rfl) hAt1 ?hF3 ?st3 ?en3
 case hF3 =>
  intro vals
  simp only [Ja.fillL, Act.put, List.setIfInBounds_toArray, List.set_cons_zero, List.set_cons_succ, Nat.reduceAdd]
  exact rfl
 case st3 =>
  clear hAt1
  intro hctx
  refine JC.o hctx ?_ ?_
  ·intro L vals W hL hJ hd K hK
   have hQ := hJ.q
   go_simp
   (with_reducible refine (q_Ratio (6) (-8) W (hT.q hQ) (by decide) (by decide) (by decide) (by decide)).mono ?_)
   rintro e W9 ⟨r, rfl, hr, hq9⟩
   exact hK.out (.tuple #[r, .int .i64 (divR ((6 : Int) : Rat) ((-8 : Int) : Rat)).1]) W9 _ (by kernel_rfl) ⟨r, by rw [show ((divR ((6 : Int) : Rat) ((-8 : Int) : Rat)).1 : Int) = 0 from by decide +kernel], by have h7 := hr; rw [show ((divR ((6 : Int) : Rat) ((-8 : Int) : Rat)).2 : Rat) = x2 from by rw [Hx2.out]; decide +kernel] at h7; exact h7⟩ hq9
  refine JC.o hctx ?_ ?_
  ·intro L vals W hL hJ hd K hK
   have d0 : ∃ r, vals 0 = .tuple #[r, .int .i64 (0)] ∧ Nq W r (x2) := hd 0 (by kernel_rfl)
   go_simp
   exact hK.out (vals 0) _ _ (by kernel_rfl) d0 (Q.refl _)
  refine JC.o hctx ?_ ?_
  ·intro L vals W hL hJ hd K hK
   have d1 : ∃ r, vals 1 = .tuple #[r, .int .i64 (0)] ∧ Nq W r (x2) := hd 1 (by kernel_rfl)
   generalize vals 1 = u1 at d1 hK ⊢
   obtain ⟨r, rfl, hr⟩ := d1
   go_simp
   exact hK.out r _ _ (by kernel_rfl) hr (Q.refl _)
  refine JC.o hctx ?_ ?_
  ·intro L vals W hL hJ hd K hK
   have d1 : ∃ r, vals 1 = .tuple #[r, .int .i64 (0)] ∧ Nq W r (x2) := hd 1 (by kernel_rfl)
   generalize vals 1 = u1 at d1 hK ⊢
   obtain ⟨r, rfl, hr⟩ := d1
   go_simp
   exact hK.out (.int .i64 (0)) _ _ (by kernel_rfl) rfl (Q.refl _)
  refine Ja.Steps.cons (JC.alloc (n := 1) (cells := #[.bool false, .slice none 0 0, .slice none 0 0]) (t := 25) hctx (by kernel_rfl) (by rfl) (by kernel_rfl) (by rfl) (by rfl) (by kernel_rfl) (by rfl) (fun W => NbV.of (Nb.new W _ _ _)) ?_) ?_
  ·intro vals W K hK
   go_simp
   exact hK.out _ (by kernel_rfl)
  refine Ja.Steps.cons (JC.store (n := 1) hctx (by kernel_rfl) (by rfl) (by kernel_rfl) (by rfl) (by rfl) (by kernel_rfl) (by rfl) ?_) ?_
  ·intro L vals W g old hJ hp ho hs K hK
   have hs9 : Nq W (vals 2) (x2) := hs
   have hp9 : vals 4 = .pointer (some ⟨g, 0, none⟩) := hp
   dsimp only at hK
   generalize vals 4 = ua at hp9 hK ⊢
   subst hp9
   generalize vals 2 = uj at hs9 hK ⊢
   obtain ⟨e1, C1, i1, j1, C2, i2, j2, rfl, -⟩ := Nq.form hs9
   obtain ⟨f1, D1, x1, y1, D2, x2, y2, ho1, hb⟩ := ho
   have fz := hb.frozen
   obtain ⟨r0, r1, r2⟩ := hb.cells
   clear hb ho1
   go_simp
   exact hK.out undef _ _ (by kernel_rfl) PutV.of
  refine JC.o hctx ?_ ?_
  ·intro L vals W hL hJ hd K hK
   have d3 : vals 3 = .int .i64 (0) := hd 3 (by kernel_rfl)
   generalize vals 3 = u3 at d3 hK ⊢
   subst d3
   go_simp
   exact hK.out (.int .i64 (0)) _ _ (by kernel_rfl) rfl (Q.refl _)
  exact Ja.Steps.nil
 intro L vals w2 hall hJ
 clear hAt1
 have hG2 := hJ.q
 have hX2 : Nb w2 (gX) (sX) (.slice AX1 kX1 cX1) (.slice AX2 kX2 cX2) := NbV.out (hJ.still 0 rfl rfl (Nat.le_of_ble_eq_true (by kernel_rfl)))
 have nX2 : Nq w2 (.agg #[.bool sX, .slice AX1 kX1 cX1, .slice AX2 kX2 cX2]) (x1) := hJ.kept 0 rfl
 obtain ⟨gY, eY, geY, qY⟩ := hJ.fresh 1 rfl rfl (hall 4 (by decide)) (hall 5 (by decide))
 have nY2 : Nq w2 (vals 2) (x2) := hJ.s 2 (hall 2 (by decide))
 obtain ⟨sY, AY1, kY1, cY1, AY2, kY2, cY2, yY, hY2⟩ := qY
 change Nb w2 (gY) (sY) (.slice AY1 kY1 cY1) (.slice AY2 kY2 cY2) at hY2
 try dsimp only at yY
 rw [yY] at nY2
 clear yY
 have neYX : gY ≠ gX := hJ.ne 1 0 (by decide) rfl rfl (hall 4 (by decide)) rfl eY rfl
 rw [eY]
 clear eY
 have f4 : vals 6 = .int .i64 (0) := hJ.s 6 (hall 6 (by decide))
 rw [f4]
 clear hall hJ
 go_upto_region 3 with fail
 have Z5 : Hid (sz (((0 : Int) : Rat)) ≤ 2) := Lib.hid (by decide +kernel)
 have B6 : Hid (16 * (sz (x1) + sz (((0 : Int) : Rat))) + 200 ≤ LIM) := Lib.hid (by have h0 := Z1.out; have h1 := Z5.out; rw [LIM_eq]; omega)
 have hAt2 : At0 w [{ al := none, g := gX, big := false, row := .agg #[.bool sX, .slice AX1 kX1 cX1, .slice AX2 kX2 cX2], st := 1000, src := 0 }, { al := none, g := gY, big := false, row := .agg #[.bool sY, .slice AY1 kY1 cY1, .slice AY2 kY2 cY2], st := 1000, src := 0 }, { al := some 6, g := 0, big := false, row := .agg #[.bool false, .slice none 0 0, .slice none 0 0], st := 7, src := 4 }] [(.agg #[.bool sX, .slice AX1 kX1 cX1, .slice AX2 kX2 cX2], .num (x1)), (.agg #[.bool sY, .slice AY1 kY1 cY1, .slice AY2 kY2 cY2], .num (x2))] w2 := At0.of hG2 ⟨fun _ => ⟨by dsimp only; omega, NbV.of hX2⟩, fun _ => ⟨by dsimp only; omega, NbV.of hY2⟩, fun h => (by cases h), trivial⟩ (by (simp [Apart0] <;> omega)) ⟨nX2, nY2, trivial⟩
 clear hG2 hX2 hY2 nX2 nY2
 refine region_cells (F := ?F4) w ([.num (x1), .num (((0 : Int) : Rat)), .pair (x3) (8), .pair (x3) (8), .num (x3), .eq (.int .i64 (8)), .any, .any, .eq (.int .i64 (8))] : List Vs) _ _ (by kernel_rfl) (by kernel_rfl) hAt2 ?hF4 ?st4 ?en4
 case hF4 =>
  intro vals
  simp only [Ja.fillL, Act.put, List.setIfInBounds_toArray, List.set_cons_zero, List.set_cons_succ, Nat.reduceAdd]
  exact rfl
 case st4 =>
  clear hAt2
  intro hctx
  refine JC.o hctx ?_ ?_
  ·intro L vals W hL hJ hd K hK
   obtain ⟨z0, z1, z2⟩ := (NbV.out (hJ.still 0 rfl rfl (Nat.le_of_ble_eq_true (by kernel_rfl)))).cells
   go_simp
   exact hK.out (.agg #[.bool sX, .slice AX1 kX1 cX1, .slice AX2 kX2 cX2]) _ _ (by kernel_rfl) (hJ.kept 0 rfl) (Q.refl _)
  refine JC.o hctx ?_ ?_
  ·intro L vals W hL hJ hd K hK
   go_simp
   (with_reducible refine (q_Int (0) W (by decide) (by decide)).mono ?_)
   rintro e W9 ⟨r, rfl, hr, hq9⟩
   exact hK.out r W9 _ (by kernel_rfl) hr hq9
  refine JC.o hctx ?_ ?_
  ·intro L vals W hL hJ hd K hK
   have hQ := hJ.q
   have d0 : Nq W (vals 0) (x1) := hd 0 (by kernel_rfl)
   have d1 : Nq W (vals 1) (((0 : Int) : Rat)) := hd 1 (by kernel_rfl)
   go_simp
   (with_reducible refine (q_Div _ _ (x1) (((0 : Int) : Rat)) W (hT.q hQ) d0 d1 B6.out).mono ?_)
   rintro e W9 ⟨r, rfl, hr, hq9⟩
   exact hK.out (.tuple #[r, .int .i64 (divR (x1) (((0 : Int) : Rat))).1]) W9 _ (by kernel_rfl) ⟨r, by rw [show ((divR (x1) (((0 : Int) : Rat))).1 : Int) = 8 from by rw [Hx1.out]; decide +kernel], by have h7 := hr; rw [show ((divR (x1) (((0 : Int) : Rat))).2 : Rat) = x3 from by rw [Hx1.out, Hx3.out]; decide +kernel] at h7; exact h7⟩ hq9
  refine JC.o hctx ?_ ?_
  ·intro L vals W hL hJ hd K hK
   have d2 : ∃ r, vals 2 = .tuple #[r, .int .i64 (8)] ∧ Nq W r (x3) := hd 2 (by kernel_rfl)
   go_simp
   exact hK.out (vals 2) _ _ (by kernel_rfl) d2 (Q.refl _)
  refine JC.o hctx ?_ ?_
  ·intro L vals W hL hJ hd K hK
   have d3 : ∃ r, vals 3 = .tuple #[r, .int .i64 (8)] ∧ Nq W r (x3) := hd 3 (by kernel_rfl)
   generalize vals 3 = u3 at d3 hK ⊢
   obtain ⟨r, rfl, hr⟩ := d3
   go_simp
   exact hK.out r _ _ (by kernel_rfl) hr (Q.refl _)
  refine JC.o hctx ?_ ?_
  ·intro L vals W hL hJ hd K hK
   have d3 : ∃ r, vals 3 = .tuple #[r, .int .i64 (8)] ∧ Nq W r (x3) := hd 3 (by kernel_rfl)
   generalize vals 3 = u3 at d3 hK ⊢
   obtain ⟨r, rfl, hr⟩ := d3
   go_simp
   exact hK.out (.int .i64 (8)) _ _ (by kernel_rfl) rfl (Q.refl _)
  refine Ja.Steps.cons (JC.alloc (n := 2) (cells := #[.bool false, .slice none 0 0, .slice none 0 0]) (t := 25) hctx (by kernel_rfl) (by rfl) (by kernel_rfl) (by rfl) (by rfl) (by kernel_rfl) (by rfl) (fun W => NbV.of (Nb.new W _ _ _)) ?_) ?_
  ·intro vals W K hK
   go_simp
   exact hK.out _ (by kernel_rfl)
  refine Ja.Steps.cons (JC.store (n := 2) hctx (by kernel_rfl) (by rfl) (by kernel_rfl) (by rfl) (by rfl) (by kernel_rfl) (by rfl) ?_) ?_
  ·intro L vals W g old hJ hp ho hs K hK
   have hs9 : Nq W (vals 4) (x3) := hs
   have hp9 : vals 6 = .pointer (some ⟨g, 0, none⟩) := hp
   dsimp only at hK
   generalize vals 6 = ua at hp9 hK ⊢
   subst hp9
   generalize vals 4 = uj at hs9 hK ⊢
   obtain ⟨e1, C1, i1, j1, C2, i2, j2, rfl, -⟩ := Nq.form hs9
   obtain ⟨f1, D1, x1, y1, D2, x2, y2, ho1, hb⟩ := ho
   have fz := hb.frozen
   obtain ⟨r0, r1, r2⟩ := hb.cells
   clear hb ho1
   go_simp
   exact hK.out undef _ _ (by kernel_rfl) PutV.of
  refine JC.o hctx ?_ ?_
  ·intro L vals W hL hJ hd K hK
   have d5 : vals 5 = .int .i64 (8) := hd 5 (by kernel_rfl)
   generalize vals 5 = u5 at d5 hK ⊢
   subst d5
   go_simp
   exact hK.out (.int .i64 (8)) _ _ (by kernel_rfl) rfl (Q.refl _)
  exact Ja.Steps.nil
 intro L vals w3 hall hJ
 clear hAt2
 have hG3 := hJ.q
 have hX3 : Nb w3 (gX) (sX) (.slice AX1 kX1 cX1) (.slice AX2 kX2 cX2) := NbV.out (hJ.still 0 rfl rfl (Nat.le_of_ble_eq_true (by kernel_rfl)))
 have nX3 : Nq w3 (.agg #[.bool sX, .slice AX1 kX1 cX1, .slice AX2 kX2 cX2]) (x1) := hJ.kept 0 rfl
 have hY3 : Nb w3 (gY) (sY) (.slice AY1 kY1 cY1) (.slice AY2 kY2 cY2) := NbV.out (hJ.still 1 rfl rfl (Nat.le_of_ble_eq_true (by kernel_rfl)))
 have nY3 : Nq w3 (.agg #[.bool sY, .slice AY1 kY1 cY1, .slice AY2 kY2 cY2]) (x2) := hJ.kept 1 rfl
 obtain ⟨gZ, eZ, geZ, qZ⟩ := hJ.fresh 2 rfl rfl (hall 6 (by decide)) (hall 7 (by decide))
 have nZ3 : Nq w3 (vals 4) (x3) := hJ.s 4 (hall 4 (by decide))
 obtain ⟨sZ, AZ1, kZ1, cZ1, AZ2, kZ2, cZ2, yZ, hZ3⟩ := qZ
 change Nb w3 (gZ) (sZ) (.slice AZ1 kZ1 cZ1) (.slice AZ2 kZ2 cZ2) at hZ3
 try dsimp only at yZ
 rw [yZ] at nZ3
 clear yZ
 have neZX : gZ ≠ gX := hJ.ne 2 0 (by decide) rfl rfl (hall 6 (by decide)) rfl eZ rfl
 have neZY : gZ ≠ gY := hJ.ne 2 1 (by decide) rfl rfl (hall 6 (by decide)) rfl eZ rfl
 rw [eZ]
 clear eZ
 have f6 : vals 8 = .int .i64 (8) := hJ.s 8 (hall 8 (by decide))
 rw [f6]
 clear hall hJ
 go_upto_region 4 with fail
 have Z7 : Hid (sz (((2 : Int) : Rat)) ≤ 2) := Lib.hid (by decide +kernel)
 have Z8 : Hid (sz (((-3 : Int) : Rat)) ≤ 2) := Lib.hid (by decide +kernel)
 have hAt3 : At0 w [{ al := none, g := gX, big := false, row := .agg #[.bool sX, .slice AX1 kX1 cX1, .slice AX2 kX2 cX2], st := 1000, src := 0 }, { al := none, g := gY, big := false, row := .agg #[.bool sY, .slice AY1 kY1 cY1, .slice AY2 kY2 cY2], st := 1000, src := 0 }, { al := none, g := gZ, big := false, row := .agg #[.bool sZ, .slice AZ1 kZ1 cZ1, .slice AZ2 kZ2 cZ2], st := 1000, src := 0 }, { al := some 4, g := 0, big := true, row := .agg #[.bool false, .slice none 0 0, .slice none 0 0, .bool false, .slice none 0 0, .slice none 0 0], st := 5, src := 3 }] [(.agg #[.bool sX, .slice AX1 kX1 cX1, .slice AX2 kX2 cX2], .num (x1)), (.agg #[.bool sY, .slice AY1 kY1 cY1, .slice AY2 kY2 cY2], .num (x2)), (.agg #[.bool sZ, .slice AZ1 kZ1 cZ1, .slice AZ2 kZ2 cZ2], .num (x3))] w3 := At0.of hG3 ⟨fun _ => ⟨by dsimp only; omega, NbV.of hX3⟩, fun _ => ⟨by dsimp only; omega, NbV.of hY3⟩, fun _ => ⟨by dsimp only; omega, NbV.of hZ3⟩, fun h => (by cases h), trivial⟩ (by (simp [Apart0] <;> omega)) ⟨nX3, nY3, nZ3, trivial⟩
 clear hG3 hX3 hY3 hZ3 nX3 nY3 nZ3
 refine text_cells (F := ?F5) w ([.num (((2 : Int) : Rat)), .num (((-3 : Int) : Rat)), .span (((2 : Int) : Rat)) (((-3 : Int) : Rat)), .span (x3) (x4), .any, .any] : List Vs) _ _ (by kernel_rfl) hAt3 ?hF5 ?st5 ?en5
 case hF5 =>
  intro vals
  simp only [Ja.fillL, Act.put, List.setIfInBounds_toArray, List.set_cons_zero, List.set_cons_succ, Nat.reduceAdd]
  exact rfl
 case st5 =>
  clear hAt3
  intro hctx
  refine JC.o hctx ?_ ?_
  ·intro L vals W hL hJ hd K hK
   go_simp
   (with_reducible refine (q_Int (2) W (by decide) (by decide)).mono ?_)
   rintro e W9 ⟨r, rfl, hr, hq9⟩
   exact hK.out r W9 _ (by kernel_rfl) hr hq9
  refine JC.o hctx ?_ ?_
  ·intro L vals W hL hJ hd K hK
   go_simp
   (with_reducible refine (q_Int (-3) W (by decide) (by decide)).mono ?_)
   rintro e W9 ⟨r, rfl, hr, hq9⟩
   exact hK.out r W9 _ (by kernel_rfl) hr hq9
  refine JC.o hctx ?_ ?_
  ·intro L vals W hL hJ hd K hK
   have d0 : Nq W (vals 0) (((2 : Int) : Rat)) := hd 0 (by kernel_rfl)
   have d1 : Nq W (vals 1) (((-3 : Int) : Rat)) := hd 1 (by kernel_rfl)
   generalize vals 0 = u0 at d0 hK ⊢
   generalize vals 1 = u1 at d1 hK ⊢
   obtain ⟨e1, C1, i1, j1, C2, i2, j2, rfl, -⟩ := Nq.form d0
   obtain ⟨e2, C3, i3, j3, C4, i4, j4, rfl, -⟩ := Nq.form d1
   go_simp
   exact hK.out (.agg #[.bool e1, .slice C1 i1 j1, .slice C2 i2 j2, .bool e2, .slice C3 i3 j3, .slice C4 i4 j4]) _ _ (by kernel_rfl) ⟨_, _, _, _, _, _, _, _, _, _, _, _, _, _, rfl, d0, d1⟩ (Q.refl _)
  refine JC.o hctx ?_ ?_
  ·intro L vals W hL hJ hd K hK
   have d2 : Ns W (vals 2) (((2 : Int) : Rat)) (((-3 : Int) : Rat)) := hd 2 (by kernel_rfl)
   go_simp
   (with_reducible refine (q_SpanPow _ (((2 : Int) : Rat)) (((-3 : Int) : Rat)) (2) W d2 (by have h0 := Z7.out; have h1 := Z8.out; omega)).mono ?_)
   rintro e W9 ⟨r, rfl, hr, hq9⟩
   exact hK.out r W9 _ (by kernel_rfl) (by have h7 := hr; rw [show (qlo (powN (2)) (rmin (((2 : Int) : Rat)) (((-3 : Int) : Rat))) (rmax (((2 : Int) : Rat)) (((-3 : Int) : Rat))) : Rat) = x3 from by rw [Hx3.out]; decide +kernel, show (qhi (powN (2)) (rmin (((2 : Int) : Rat)) (((-3 : Int) : Rat))) (rmax (((2 : Int) : Rat)) (((-3 : Int) : Rat))) : Rat) = x4 from by rw [Hx4.out]; decide +kernel] at h7; exact h7) hq9
  refine Ja.Steps.cons (JC.alloc (n := 3) (cells := #[.bool false, .slice none 0 0, .slice none 0 0, .bool false, .slice none 0 0, .slice none 0 0]) (t := 70) hctx (by kernel_rfl) (by rfl) (by kernel_rfl) (by rfl) (by rfl) (by kernel_rfl) (by rfl) (fun W => NbV.ofS (Sp.new W _ _ _ _ _ _)) ?_) ?_
  ·intro vals W K hK
   go_simp
   exact hK.out _ (by kernel_rfl)
  refine Ja.Steps.cons (JC.store (n := 3) hctx (by kernel_rfl) (by rfl) (by kernel_rfl) (by rfl) (by rfl) (by kernel_rfl) (by rfl) ?_) ?_
  ·intro L vals W g old hJ hp ho hs K hK
   have hs9 : Ns W (vals 3) (x3) (x4) := hs
   have hp9 : vals 4 = .pointer (some ⟨g, 0, none⟩) := hp
   dsimp only at hK
   generalize vals 4 = ua at hp9 hK ⊢
   subst hp9
   generalize vals 3 = uj at hs9 hK ⊢
   obtain ⟨e1, C1, i1, j1, C2, i2, j2, e2, C3, i3, j3, C4, i4, j4, rfl, -, -⟩ := hs9
   obtain ⟨f1, D1, x1, y1, D2, x2, y2, f2, D3, x3, y3, D4, x4, y4, ho1, hb⟩ := ho
   have fz := hb.frozen
   obtain ⟨r0, r1, r2, r3, r4, r5⟩ := hb.cells
   clear hb ho1
   go_simp
   exact hK.out undef _ _ (by kernel_rfl) PutV.ofS
  exact Ja.Steps.nil
 intro L vals w4 hall hJ
 clear hAt3
 have hG4 := hJ.q
 have hX4 : Nb w4 (gX) (sX) (.slice AX1 kX1 cX1) (.slice AX2 kX2 cX2) := NbV.out (hJ.still 0 rfl rfl (Nat.le_of_ble_eq_true (by kernel_rfl)))
 have nX4 : Nq w4 (.agg #[.bool sX, .slice AX1 kX1 cX1, .slice AX2 kX2 cX2]) (x1) := hJ.kept 0 rfl
 have hY4 : Nb w4 (gY) (sY) (.slice AY1 kY1 cY1) (.slice AY2 kY2 cY2) := NbV.out (hJ.still 1 rfl rfl (Nat.le_of_ble_eq_true (by kernel_rfl)))
 have nY4 : Nq w4 (.agg #[.bool sY, .slice AY1 kY1 cY1, .slice AY2 kY2 cY2]) (x2) := hJ.kept 1 rfl
 have hZ4 : Nb w4 (gZ) (sZ) (.slice AZ1 kZ1 cZ1) (.slice AZ2 kZ2 cZ2) := NbV.out (hJ.still 2 rfl rfl (Nat.le_of_ble_eq_true (by kernel_rfl)))
 have nZ4 : Nq w4 (.agg #[.bool sZ, .slice AZ1 kZ1 cZ1, .slice AZ2 kZ2 cZ2]) (x3) := hJ.kept 2 rfl
 obtain ⟨gS, eS, geS, qS⟩ := hJ.fresh 3 rfl rfl (hall 4 (by decide)) (hall 5 (by decide))
 have nS4 : Ns w4 (vals 3) (x3) (x4) := hJ.s 3 (hall 3 (by decide))
 obtain ⟨sS1, AS1, kS1, cS1, AS2, kS2, cS2, sS2, AS3, kS3, cS3, AS4, kS4, cS4, yS, hS4⟩ := qS
 change Sp w4 (gS) (sS1) (.slice AS1 kS1 cS1) (.slice AS2 kS2 cS2) (sS2) (.slice AS3 kS3 cS3) (.slice AS4 kS4 cS4) at hS4
 try dsimp only at yS
 rw [yS] at nS4
 clear yS
 have neSX : gS ≠ gX := hJ.ne 3 0 (by decide) rfl rfl (hall 4 (by decide)) rfl eS rfl
 have neSY : gS ≠ gY := hJ.ne 3 1 (by decide) rfl rfl (hall 4 (by decide)) rfl eS rfl
 have neSZ : gS ≠ gZ := hJ.ne 3 2 (by decide) rfl rfl (hall 4 (by decide)) rfl eS rfl
 rw [eS]
 clear eS
 clear hall hJ
 go_upto_region 5 with fail
 have B9 : Hid (2000 * (sz (x1)) + 500000 ≤ LIM) := Lib.hid (by have h0 := Z1.out; rw [LIM_eq]; omega)
 have Z10 : Hid (sz (dn (bitsN 1) x2) ≤ 10406) := Lib.hid (by have h9 := (sz_dn_up (x2) (bitsN_pos 1).1).1; have h8 := (bitsN_pos 1).2; have h0 := Z2.out; omega)
 have B11 : Hid (2000 * (sz (x2)) + 500000 ≤ LIM) := Lib.hid (by have h0 := Z2.out; rw [LIM_eq]; omega)
 refine text_each (F := ?F6) ([.eq (.int .i64 (0)), .eq (.bool true), .eq (.bool true), .eq (.int .i64 (0)), .eq (.bool true), .eq (.bool true), .eq (.bool true), .eq (.int .i64 (8)), .eq (.bool true), .eq (.bool true), .eq (.bool true), .num (x1), .eq (.string (⟨#[52, 55, 48, 48]⟩)), .eq (.bool true), .eq (.bool true), .eq (.bool true), .num (x1), .eq (.string (⟨#[52, 46, 55, 107]⟩)), .eq (.bool true), .eq (.bool true), .eq (.bool true), .num (x2), .eq (.string (⟨#[45, 51, 47, 52]⟩)), .eq (.bool true), .eq (.bool true), .eq (.bool true), .eq (.pointer (some ⟨gS, 0, none⟩)), .num (x3), .eq (.int .i64 (0)), .eq (.bool true), .eq (.bool true), .eq (.bool true), .eq (.pointer (some ⟨gS, 3, none⟩)), .num (x4), .eq (.string (⟨#[57]⟩)), .eq (.bool true), .eq (.bool true), .eq (.bool true), .num (x2), .num (dn (bitsN 1) x2), .eq (.string (⟨#[45, 49]⟩)), .eq (.bool true), .eq (.bool true), .eq (.bool true)] : List Vs) (by kernel_rfl) ?hF6 ?st6 ?en6
 case hF6 =>
  intro vals
  simp only [Ja.fillL, Act.put, List.setIfInBounds_toArray, List.set_cons_zero, List.set_cons_succ, Nat.reduceAdd]
  exact rfl
 case st6 =>
  intro hctx
  refine Each.y hctx ?_ ?_
  ·intro vals W hM hd K hK
   go_simp
   exact hK.out (.int .i64 (0)) _ _ (by kernel_rfl) rfl (Q.refl _)
  refine Each.y hctx ?_ ?_
  ·intro vals W hM hd K hK
   have d0 : vals 0 = .int .i64 (0) := hd 0 (by kernel_rfl)
   generalize vals 0 = u0 at d0 hK ⊢
   subst d0
   go_simp
   exact hK.out (.bool true) _ _ (by kernel_rfl) rfl (Q.refl _)
  refine Each.y hctx ?_ ?_
  ·intro vals W hM hd K hK
   have d1 : vals 1 = .bool true := hd 1 (by kernel_rfl)
   generalize vals 1 = u1 at d1 hK ⊢
   subst d1
   go_simp
   exact hK.out (.bool true) _ _ (by kernel_rfl) rfl (Q.refl _)
  refine Each.y hctx ?_ ?_
  ·intro vals W hM hd K hK
   go_simp
   exact hK.out (.int .i64 (0)) _ _ (by kernel_rfl) rfl (Q.refl _)
  refine Each.y hctx ?_ ?_
  ·intro vals W hM hd K hK
   have d3 : vals 3 = .int .i64 (0) := hd 3 (by kernel_rfl)
   generalize vals 3 = u3 at d3 hK ⊢
   subst d3
   go_simp
   exact hK.out (.bool true) _ _ (by kernel_rfl) rfl (Q.refl _)
  refine Each.y hctx ?_ ?_
  ·intro vals W hM hd K hK
   have d2 : vals 2 = .bool true := hd 2 (by kernel_rfl)
   generalize vals 2 = u2 at d2 hK ⊢
   subst d2
   have d4 : vals 4 = .bool true := hd 4 (by kernel_rfl)
   generalize vals 4 = u4 at d4 hK ⊢
   subst d4
   go_simp
   exact hK.out (.bool true) _ _ (by kernel_rfl) rfl (Q.refl _)
  refine Each.y hctx ?_ ?_
  ·intro vals W hM hd K hK
   have d5 : vals 5 = .bool true := hd 5 (by kernel_rfl)
   generalize vals 5 = u5 at d5 hK ⊢
   subst d5
   go_simp
   exact hK.out (.bool true) _ _ (by kernel_rfl) rfl (Q.refl _)
  refine Each.y hctx ?_ ?_
  ·intro vals W hM hd K hK
   go_simp
   exact hK.out (.int .i64 (8)) _ _ (by kernel_rfl) rfl (Q.refl _)
  refine Each.y hctx ?_ ?_
  ·intro vals W hM hd K hK
   have d7 : vals 7 = .int .i64 (8) := hd 7 (by kernel_rfl)
   generalize vals 7 = u7 at d7 hK ⊢
   subst d7
   go_simp
   exact hK.out (.bool true) _ _ (by kernel_rfl) rfl (Q.refl _)
  refine Each.y hctx ?_ ?_
  ·intro vals W hM hd K hK
   have d6 : vals 6 = .bool true := hd 6 (by kernel_rfl)
   generalize vals 6 = u6 at d6 hK ⊢
   subst d6
   have d8 : vals 8 = .bool true := hd 8 (by kernel_rfl)
   generalize vals 8 = u8 at d8 hK ⊢
   subst d8
   go_simp
   exact hK.out (.bool true) _ _ (by kernel_rfl) rfl (Q.refl _)
  refine Each.y hctx ?_ ?_
  ·intro vals W hM hd K hK
   have d9 : vals 9 = .bool true := hd 9 (by kernel_rfl)
   generalize vals 9 = u9 at d9 hK ⊢
   subst d9
   go_simp
   exact hK.out (.bool true) _ _ (by kernel_rfl) rfl (Q.refl _)
  refine Each.y hctx ?_ ?_
  ·intro vals W hM hd K hK
   have hN : Q w4 W := hM
   obtain ⟨z0, z1, z2⟩ := (hX4.q hN).cells
   go_simp
   exact hK.out (.agg #[.bool sX, .slice AX1 kX1 cX1, .slice AX2 kX2 cX2]) _ _ (by kernel_rfl) (nX4.q hN) (Q.refl _)
  refine Each.y hctx ?_ ?_
  ·intro vals W hM hd K hK
   have d11 : Nq W (vals 11) (x1) := hd 11 (by kernel_rfl)
   go_simp
   (with_reducible refine (q_Text _ (x1) W d11 (by have h0 := Z1.out; omega)).mono ?_)
   rintro e W9 ⟨t, rfl, ht, hq9⟩
   exact hK.out (.string t) W9 _ (by kernel_rfl) (congrArg Value.string ((str_of ht).trans (show ofL (textQ (x1)) = (⟨#[52, 55, 48, 48]⟩ : ByteArray) from congrArg ofL (show textQ (x1) = [52, 55, 48, 48] by rw [Hx1.out]; decide +kernel)))) hq9
  refine Each.y hctx ?_ ?_
  ·intro vals W hM hd K hK
   have d12 : vals 12 = .string (⟨#[52, 55, 48, 48]⟩) := hd 12 (by kernel_rfl)
   generalize vals 12 = u12 at d12 hK ⊢
   subst d12
   go_simp
   exact hK.out (.bool true) _ _ (by kernel_rfl) rfl (Q.refl _)
  refine Each.y hctx ?_ ?_
  ·intro vals W hM hd K hK
   have d10 : vals 10 = .bool true := hd 10 (by kernel_rfl)
   generalize vals 10 = u10 at d10 hK ⊢
   subst d10
   have d13 : vals 13 = .bool true := hd 13 (by kernel_rfl)
   generalize vals 13 = u13 at d13 hK ⊢
   subst d13
   go_simp
   exact hK.out (.bool true) _ _ (by kernel_rfl) rfl (Q.refl _)
  refine Each.y hctx ?_ ?_
  ·intro vals W hM hd K hK
   have d14 : vals 14 = .bool true := hd 14 (by kernel_rfl)
   generalize vals 14 = u14 at d14 hK ⊢
   subst d14
   go_simp
   exact hK.out (.bool true) _ _ (by kernel_rfl) rfl (Q.refl _)
  refine Each.y hctx ?_ ?_
  ·intro vals W hM hd K hK
   have hN : Q w4 W := hM
   obtain ⟨z0, z1, z2⟩ := (hX4.q hN).cells
   go_simp
   exact hK.out (.agg #[.bool sX, .slice AX1 kX1 cX1, .slice AX2 kX2 cX2]) _ _ (by kernel_rfl) (nX4.q hN) (Q.refl _)
  refine Each.y hctx ?_ ?_
  ·intro vals W hM hd K hK
   have hN : Q w4 W := hM
   have hQ := hG4.trans hN
   have d16 : Nq W (vals 16) (x1) := hd 16 (by kernel_rfl)
   go_simp
   (with_reducible refine (q_Show _ (x1) W (hT.q hQ) (hPx.q hQ) d16 B9.out).mono ?_)
   rintro e W9 ⟨t, rfl, ht, hq9⟩
   exact hK.out (.string t) W9 _ (by kernel_rfl) (congrArg Value.string ((str_of ht).trans (show ofL (showQ (x1)) = (⟨#[52, 46, 55, 107]⟩ : ByteArray) from congrArg ofL (show showQ (x1) = [52, 46, 55, 107] by rw [Hx1.out]; decide +kernel)))) hq9
  refine Each.y hctx ?_ ?_
  ·intro vals W hM hd K hK
   have d17 : vals 17 = .string (⟨#[52, 46, 55, 107]⟩) := hd 17 (by kernel_rfl)
   generalize vals 17 = u17 at d17 hK ⊢
   subst d17
   go_simp
   exact hK.out (.bool true) _ _ (by kernel_rfl) rfl (Q.refl _)
  refine Each.y hctx ?_ ?_
  ·intro vals W hM hd K hK
   have d15 : vals 15 = .bool true := hd 15 (by kernel_rfl)
   generalize vals 15 = u15 at d15 hK ⊢
   subst d15
   have d18 : vals 18 = .bool true := hd 18 (by kernel_rfl)
   generalize vals 18 = u18 at d18 hK ⊢
   subst d18
   go_simp
   exact hK.out (.bool true) _ _ (by kernel_rfl) rfl (Q.refl _)
  refine Each.y hctx ?_ ?_
  ·intro vals W hM hd K hK
   have d19 : vals 19 = .bool true := hd 19 (by kernel_rfl)
   generalize vals 19 = u19 at d19 hK ⊢
   subst d19
   go_simp
   exact hK.out (.bool true) _ _ (by kernel_rfl) rfl (Q.refl _)
  refine Each.y hctx ?_ ?_
  ·intro vals W hM hd K hK
   have hN : Q w4 W := hM
   obtain ⟨z0, z1, z2⟩ := (hY4.q hN).cells
   go_simp
   exact hK.out (.agg #[.bool sY, .slice AY1 kY1 cY1, .slice AY2 kY2 cY2]) _ _ (by kernel_rfl) (nY4.q hN) (Q.refl _)
  refine Each.y hctx ?_ ?_
  ·intro vals W hM hd K hK
   have d21 : Nq W (vals 21) (x2) := hd 21 (by kernel_rfl)
   go_simp
   (with_reducible refine (q_Text _ (x2) W d21 (by have h0 := Z2.out; omega)).mono ?_)
   rintro e W9 ⟨t, rfl, ht, hq9⟩
   exact hK.out (.string t) W9 _ (by kernel_rfl) (congrArg Value.string ((str_of ht).trans (show ofL (textQ (x2)) = (⟨#[45, 51, 47, 52]⟩ : ByteArray) from congrArg ofL (show textQ (x2) = [45, 51, 47, 52] by rw [Hx2.out]; decide +kernel)))) hq9
  refine Each.y hctx ?_ ?_
  ·intro vals W hM hd K hK
   have d22 : vals 22 = .string (⟨#[45, 51, 47, 52]⟩) := hd 22 (by kernel_rfl)
   generalize vals 22 = u22 at d22 hK ⊢
   subst d22
   go_simp
   exact hK.out (.bool true) _ _ (by kernel_rfl) rfl (Q.refl _)
  refine Each.y hctx ?_ ?_
  ·intro vals W hM hd K hK
   have d20 : vals 20 = .bool true := hd 20 (by kernel_rfl)
   generalize vals 20 = u20 at d20 hK ⊢
   subst d20
   have d23 : vals 23 = .bool true := hd 23 (by kernel_rfl)
   generalize vals 23 = u23 at d23 hK ⊢
   subst d23
   go_simp
   exact hK.out (.bool true) _ _ (by kernel_rfl) rfl (Q.refl _)
  refine Each.y hctx ?_ ?_
  ·intro vals W hM hd K hK
   have d24 : vals 24 = .bool true := hd 24 (by kernel_rfl)
   generalize vals 24 = u24 at d24 hK ⊢
   subst d24
   go_simp
   exact hK.out (.bool true) _ _ (by kernel_rfl) rfl (Q.refl _)
  refine Each.y hctx ?_ ?_
  ·intro vals W hM hd K hK
   go_simp
   exact hK.out (.pointer (some ⟨gS, 0, none⟩)) _ _ (by kernel_rfl) rfl (Q.refl _)
  refine Each.y hctx ?_ ?_
  ·intro vals W hM hd K hK
   have hN : Q w4 W := hM
   have d26 : vals 26 = .pointer (some ⟨gS, 0, none⟩) := hd 26 (by kernel_rfl)
   generalize vals 26 = u26 at d26 hK ⊢
   subst d26
   obtain ⟨z0, z1, z2, z3, z4, z5⟩ := (hS4.q hN).cells
   go_simp
   exact hK.out (.agg #[.bool sS1, .slice AS1 kS1 cS1, .slice AS2 kS2 cS2]) _ _ (by kernel_rfl) (NsLo (nS4.q hN)) (Q.refl _)
  refine Each.y hctx ?_ ?_
  ·intro vals W hM hd K hK
   have d27 : Nq W (vals 27) (x3) := hd 27 (by kernel_rfl)
   go_simp
   (with_reducible refine (q_Sign _ (x3) W d27).mono ?_)
   rintro e W9 ⟨rfl, hq9⟩
   exact hK.out (.int .i64 (sn (x3))) W9 _ (by kernel_rfl) (congrArg (Value.int .i64) ((show sn x3 = 0 by rw [Hx3.out]; decide +kernel))) hq9
  refine Each.y hctx ?_ ?_
  ·intro vals W hM hd K hK
   have d28 : vals 28 = .int .i64 (0) := hd 28 (by kernel_rfl)
   generalize vals 28 = u28 at d28 hK ⊢
   subst d28
   go_simp
   exact hK.out (.bool true) _ _ (by kernel_rfl) rfl (Q.refl _)
  refine Each.y hctx ?_ ?_
  ·intro vals W hM hd K hK
   have d25 : vals 25 = .bool true := hd 25 (by kernel_rfl)
   generalize vals 25 = u25 at d25 hK ⊢
   subst d25
   have d29 : vals 29 = .bool true := hd 29 (by kernel_rfl)
   generalize vals 29 = u29 at d29 hK ⊢
   subst d29
   go_simp
   exact hK.out (.bool true) _ _ (by kernel_rfl) rfl (Q.refl _)
  refine Each.y hctx ?_ ?_
  ·intro vals W hM hd K hK
   have d30 : vals 30 = .bool true := hd 30 (by kernel_rfl)
   generalize vals 30 = u30 at d30 hK ⊢
   subst d30
   go_simp
   exact hK.out (.bool true) _ _ (by kernel_rfl) rfl (Q.refl _)
  refine Each.y hctx ?_ ?_
  ·intro vals W hM hd K hK
   go_simp
   exact hK.out (.pointer (some ⟨gS, 3, none⟩)) _ _ (by kernel_rfl) rfl (Q.refl _)
  refine Each.y hctx ?_ ?_
  ·intro vals W hM hd K hK
   have hN : Q w4 W := hM
   have d32 : vals 32 = .pointer (some ⟨gS, 3, none⟩) := hd 32 (by kernel_rfl)
   generalize vals 32 = u32 at d32 hK ⊢
   subst d32
   obtain ⟨z0, z1, z2, z3, z4, z5⟩ := (hS4.q hN).cells
   go_simp
   exact hK.out (.agg #[.bool sS2, .slice AS3 kS3 cS3, .slice AS4 kS4 cS4]) _ _ (by kernel_rfl) (NsHi (nS4.q hN)) (Q.refl _)
  refine Each.y hctx ?_ ?_
  ·intro vals W hM hd K hK
   have d33 : Nq W (vals 33) (x4) := hd 33 (by kernel_rfl)
   go_simp
   (with_reducible refine (q_Text _ (x4) W d33 (by have h0 := Z4.out; omega)).mono ?_)
   rintro e W9 ⟨t, rfl, ht, hq9⟩
   exact hK.out (.string t) W9 _ (by kernel_rfl) (congrArg Value.string ((str_of ht).trans (show ofL (textQ (x4)) = (⟨#[57]⟩ : ByteArray) from congrArg ofL (show textQ (x4) = [57] by rw [Hx4.out]; decide +kernel)))) hq9
  refine Each.y hctx ?_ ?_
  ·intro vals W hM hd K hK
   have d34 : vals 34 = .string (⟨#[57]⟩) := hd 34 (by kernel_rfl)
   generalize vals 34 = u34 at d34 hK ⊢
   subst d34
   go_simp
   exact hK.out (.bool true) _ _ (by kernel_rfl) rfl (Q.refl _)
  refine Each.y hctx ?_ ?_
  ·intro vals W hM hd K hK
   have d31 : vals 31 = .bool true := hd 31 (by kernel_rfl)
   generalize vals 31 = u31 at d31 hK ⊢
   subst d31
   have d35 : vals 35 = .bool true := hd 35 (by kernel_rfl)
   generalize vals 35 = u35 at d35 hK ⊢
   subst d35
   go_simp
   exact hK.out (.bool true) _ _ (by kernel_rfl) rfl (Q.refl _)
  refine Each.y hctx ?_ ?_
  ·intro vals W hM hd K hK
   have d36 : vals 36 = .bool true := hd 36 (by kernel_rfl)
   generalize vals 36 = u36 at d36 hK ⊢
   subst d36
   go_simp
   exact hK.out (.bool true) _ _ (by kernel_rfl) rfl (Q.refl _)
  refine Each.y hctx ?_ ?_
  ·intro vals W hM hd K hK
   have hN : Q w4 W := hM
   obtain ⟨z0, z1, z2⟩ := (hY4.q hN).cells
   go_simp
   exact hK.out (.agg #[.bool sY, .slice AY1 kY1 cY1, .slice AY2 kY2 cY2]) _ _ (by kernel_rfl) (nY4.q hN) (Q.refl _)
  refine Each.y hctx ?_ ?_
  ·intro vals W hM hd K hK
   have hN : Q w4 W := hM
   have hQ := hG4.trans hN
   have d38 : Nq W (vals 38) (x2) := hd 38 (by kernel_rfl)
   go_simp
   (with_reducible refine (q_Down _ (x2) (1) W (hT.q hQ) d38 B11.out).mono ?_)
   rintro e W9 ⟨r, rfl, hr, hq9⟩
   exact hK.out r W9 _ (by kernel_rfl) hr hq9
  refine Each.y hctx ?_ ?_
  ·intro vals W hM hd K hK
   have d39 : Nq W (vals 39) (dn (bitsN 1) x2) := hd 39 (by kernel_rfl)
   go_simp
   (with_reducible refine (q_Text _ (dn (bitsN 1) x2) W d39 (by have h0 := Z10.out; omega)).mono ?_)
   rintro e W9 ⟨t, rfl, ht, hq9⟩
   exact hK.out (.string t) W9 _ (by kernel_rfl) (congrArg Value.string ((str_of ht).trans (show ofL (textQ (dn (bitsN 1) x2)) = (⟨#[45, 49]⟩ : ByteArray) from congrArg ofL (show textQ (dn (bitsN 1) x2) = [45, 49] by rw [Hx2.out]; decide +kernel)))) hq9
  refine Each.y hctx ?_ ?_
  ·intro vals W hM hd K hK
   have d40 : vals 40 = .string (⟨#[45, 49]⟩) := hd 40 (by kernel_rfl)
   generalize vals 40 = u40 at d40 hK ⊢
   subst d40
   go_simp
   exact hK.out (.bool true) _ _ (by kernel_rfl) rfl (Q.refl _)
  refine Each.y hctx ?_ ?_
  ·intro vals W hM hd K hK
   have d37 : vals 37 = .bool true := hd 37 (by kernel_rfl)
   generalize vals 37 = u37 at d37 hK ⊢
   subst d37
   have d41 : vals 41 = .bool true := hd 41 (by kernel_rfl)
   generalize vals 41 = u41 at d41 hK ⊢
   subst d41
   go_simp
   exact hK.out (.bool true) _ _ (by kernel_rfl) rfl (Q.refl _)
  refine Each.y hctx ?_ ?_
  ·intro vals W hM hd K hK
   have d42 : vals 42 = .bool true := hd 42 (by kernel_rfl)
   generalize vals 42 = u42 at d42 hK ⊢
   subst d42
   go_simp
   exact hK.out (.bool true) _ _ (by kernel_rfl) rfl (Q.refl _)
  exact Ja.Steps.nil
 intro vals w5 hq5 hall
 have hG5 := hG4.trans hq5
 have hX5 := hX4.q hq5
 have nX5 := nX4.q hq5
 have hY5 := hY4.q hq5
 have nY5 := nY4.q hq5
 have hZ5 := hZ4.q hq5
 have nZ5 := nZ4.q hq5
 have hS5 := hS4.q hq5
 have nS5 := nS4.q hq5
 have f0 : vals 43 = .bool true := hall 43 (by decide)
 rw [f0]
 clear hall hq5 hG4 hX4 hY4 hZ4 hS4 nX4 nY4 nZ4 nS4
 go_wp2_with fail
 go_ret
 exact ⟨ret_bool rfl, by rw [← hw0]; exact hG5⟩
end Go.Proofs.YtgokbhikgdhmpaaGreatDoor
