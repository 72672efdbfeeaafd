/- Laws of values (P1.7, P1.8), each for every three strings; no condition. Part of the proof: texts Je2. -/
import Derived.Test.YtimdddpfoagbjaaGreatDoorQa26
import Derived.Test.YtimdddpfoagbjaaGreatDoorQa27
namespace Go.Proofs.YtimdddpfoagbjaaGreatDoor
open Go.RowKit
open Ma Me
theorem sz_divR (x y : Rat) (h : sz x + sz y ≤ 9000) : sz (divR x y).2 ≤ 10000 := by
  unfold divR
  split
  · exact Nat.le_trans sz_zero (by decide)
  · have h1 := sz_mul x y⁻¹
    have h2 := sz_inv y
    exact Nat.le_trans h1 (by omega)
set_option maxRecDepth 100000 in
set_option maxHeartbeats 8000000 in
theorem q_ValueField (a b c : ByteArray) (w : World) (hT : Tb w) (hPx : Px w) (ha : a.size ≤ 9223372036854775806) (hb : b.size ≤ 9223372036854775806) (hc : c.size ≤ 9223372036854775806) : Calls Tryz.prog 10 #[.string a, .string b, .string c] w fun e w' => e = .returned (.bool true) ∧ Q w w' := by
  obtain ⟨w0, hw0, hG0⟩ : ∃ x, w = x ∧ Q w x := ⟨w, rfl, Q.refl w⟩
  rw [hw0]
  obtain ⟨p, hp⟩ : ∃ x, (parseS a.data.toList).2 = x := ⟨_, rfl⟩
  have HP := Lib.hid hp; clear hp
  have Z1 : Hid (sz p ≤ 2000) := Lib.hid (by rw [← HP.out]; exact parse_sz' _)
  obtain ⟨q, hq⟩ : ∃ x, (parseS b.data.toList).2 = x := ⟨_, rfl⟩
  have HQ := Lib.hid hq; clear hq
  have Z2 : Hid (sz q ≤ 2000) := Lib.hid (by rw [← HQ.out]; exact parse_sz' _)
  obtain ⟨r, hr⟩ : ∃ x, (parseS c.data.toList).2 = x := ⟨_, rfl⟩
  have HR := Lib.hid hr; clear hr
  have Z3 : Hid (sz r ≤ 2000) := Lib.hid (by rw [← HR.out]; exact parse_sz' _)
  obtain ⟨is, his⟩ : ∃ x, (decide ((parseS a.data.toList).1 = 0) && decide ((parseS b.data.toList).1 = 0) && decide ((parseS c.data.toList).1 = 0)) = x := ⟨_, rfl⟩
  have HI := Lib.hid his; clear his
  go_enter Tryz.func10, Tryz.ntmps10
  go_upto_region 1 with fail
  cases is
  · have hAt0 : At0 w [{ al := some 9, g := 0, big := false, row := .agg #[.bool false, .slice none 0 0, .slice none 0 0], st := 12, src := 5 }, { al := some 10, g := 0, big := false, row := .agg #[.bool false, .slice none 0 0, .slice none 0 0], st := 13, src := 6 }, { al := some 11, g := 0, big := false, row := .agg #[.bool false, .slice none 0 0, .slice none 0 0], st := 14, src := 7 }] [] w0 := At0.of hG0 ⟨fun h => (by cases h), fun h => (by cases h), fun h => (by cases h), trivial⟩ (by (simp [Apart0] <;> omega)) trivial
    clear hG0 
    refine text_cells (F := ?F2) w ([.eq (.string (a)), .eq (.string (b)), .eq (.string (c)), .three (p) (q) (r) false, .three (p) (q) (r) false, .num (p), .num (q), .num (r), .eq (.bool false), .any, .any, .any, .any, .any, .any, .eq (.bool false)] : List Vs) _ _ (by kernel_rfl) hAt0 ?hF2 ?st2 ?en2
    case hF2 =>
      intro vals
      simp only [Ja.fillL, Act.put, List.setIfInBounds_toArray, List.set_cons_zero, List.set_cons_succ, Nat.reduceAdd]
      exact rfl
    case st2 =>
      clear hAt0
      intro hctx
      refine Ja.Steps.cons (JC.other hctx (by kernel_rfl) (by rfl) (by kernel_rfl) (by kernel_rfl) ?_) ?_
      · intro L vals W hL hJ hd K hK
        have hQ := hJ.q
        go_simp
        exact hK.out (.string (a)) _ _ (by kernel_rfl) rfl (Q.refl _)
      refine Ja.Steps.cons (JC.other hctx (by kernel_rfl) (by rfl) (by kernel_rfl) (by kernel_rfl) ?_) ?_
      · intro L vals W hL hJ hd K hK
        have hQ := hJ.q
        go_simp
        exact hK.out (.string (b)) _ _ (by kernel_rfl) rfl (Q.refl _)
      refine Ja.Steps.cons (JC.other hctx (by kernel_rfl) (by rfl) (by kernel_rfl) (by kernel_rfl) ?_) ?_
      · intro L vals W hL hJ hd K hK
        have hQ := hJ.q
        go_simp
        exact hK.out (.string (c)) _ _ (by kernel_rfl) rfl (Q.refl _)
      refine Ja.Steps.cons (JC.other hctx (by kernel_rfl) (by rfl) (by kernel_rfl) (by kernel_rfl) ?_) ?_
      · intro L vals W hL hJ hd K hK
        have hQ := hJ.q
        have d0 : vals 0 = .string (a) := hd 0 (by kernel_rfl)
        generalize vals 0 = u0 at d0 hK ⊢
        subst d0
        have d1 : vals 1 = .string (b) := hd 1 (by kernel_rfl)
        generalize vals 1 = u1 at d1 hK ⊢
        subst d1
        have d2 : vals 2 = .string (c) := hd 2 (by kernel_rfl)
        generalize vals 2 = u2 at d2 hK ⊢
        subst d2
        go_simp
        (with_reducible refine (q_three a b c W (hT.q hQ) ha hb hc).mono ?_)
        rintro e W9 ⟨x, y, z, rfl, hx9, hy9, hz9, hq9⟩
        exact hK.out (.tuple #[x, y, z, .bool (decide ((parseS a.data.toList).1 = 0) && decide ((parseS b.data.toList).1 = 0) && decide ((parseS c.data.toList).1 = 0))]) W9 _ (by kernel_rfl) ⟨x, y, z, by rw [HI.out], HP.out ▸ hx9, HQ.out ▸ hy9, HR.out ▸ hz9⟩ hq9
      refine Ja.Steps.cons (JC.other hctx (by kernel_rfl) (by rfl) (by kernel_rfl) (by kernel_rfl) ?_) ?_
      · intro L vals W hL hJ hd K hK
        have hQ := hJ.q
        have d3 : ∃ x y z, vals 3 = .tuple #[x, y, z, .bool false] ∧ Nq W x (p) ∧ Nq W y (q) ∧ Nq W z (r) := hd 3 (by kernel_rfl)
        go_simp
        exact hK.out (vals 3) _ _ (by kernel_rfl) d3 (Q.refl _)
      refine Ja.Steps.cons (JC.other hctx (by kernel_rfl) (by rfl) (by kernel_rfl) (by kernel_rfl) ?_) ?_
      · intro L vals W hL hJ hd K hK
        have hQ := hJ.q
        have d4 : ∃ x y z, vals 4 = .tuple #[x, y, z, .bool false] ∧ Nq W x (p) ∧ Nq W y (q) ∧ Nq W z (r) := hd 4 (by kernel_rfl)
        generalize vals 4 = u4 at d4 hK ⊢
        obtain ⟨rx, ry, rz, rfl, hrx, hry, hrz⟩ := d4
        go_simp
        exact hK.out rx _ _ (by kernel_rfl) hrx (Q.refl _)
      refine Ja.Steps.cons (JC.other hctx (by kernel_rfl) (by rfl) (by kernel_rfl) (by kernel_rfl) ?_) ?_
      · intro L vals W hL hJ hd K hK
        have hQ := hJ.q
        have d4 : ∃ x y z, vals 4 = .tuple #[x, y, z, .bool false] ∧ Nq W x (p) ∧ Nq W y (q) ∧ Nq W z (r) := hd 4 (by kernel_rfl)
        generalize vals 4 = u4 at d4 hK ⊢
        obtain ⟨rx, ry, rz, rfl, hrx, hry, hrz⟩ := d4
        go_simp
        exact hK.out ry _ _ (by kernel_rfl) hry (Q.refl _)
      refine Ja.Steps.cons (JC.other hctx (by kernel_rfl) (by rfl) (by kernel_rfl) (by kernel_rfl) ?_) ?_
      · intro L vals W hL hJ hd K hK
        have hQ := hJ.q
        have d4 : ∃ x y z, vals 4 = .tuple #[x, y, z, .bool false] ∧ Nq W x (p) ∧ Nq W y (q) ∧ Nq W z (r) := hd 4 (by kernel_rfl)
        generalize vals 4 = u4 at d4 hK ⊢
        obtain ⟨rx, ry, rz, rfl, hrx, hry, hrz⟩ := d4
        go_simp
        exact hK.out rz _ _ (by kernel_rfl) hrz (Q.refl _)
      refine Ja.Steps.cons (JC.other hctx (by kernel_rfl) (by rfl) (by kernel_rfl) (by kernel_rfl) ?_) ?_
      · intro L vals W hL hJ hd K hK
        have hQ := hJ.q
        have d4 : ∃ x y z, vals 4 = .tuple #[x, y, z, .bool false] ∧ Nq W x (p) ∧ Nq W y (q) ∧ Nq W z (r) := hd 4 (by kernel_rfl)
        generalize vals 4 = u4 at d4 hK ⊢
        obtain ⟨rx, ry, rz, rfl, hrx, hry, hrz⟩ := d4
        go_simp
        exact hK.out (.bool false) _ _ (by kernel_rfl) rfl (Q.refl _)
      refine Ja.Steps.cons (JC.alloc (n := 0) (cells := #[.bool false, .slice none 0 0, .slice none 0 0]) (t := 25) hctx (by kernel_rfl) (by rfl) (by kernel_rfl) (by rfl) (by rfl) (by kernel_rfl) (by rfl) (fun W => NbV.of (Nb.new W _ _ _)) ?_) ?_
      · intro vals W K hK
        go_simp
        exact hK.out _ (by kernel_rfl)
      refine Ja.Steps.cons (JC.alloc (n := 1) (cells := #[.bool false, .slice none 0 0, .slice none 0 0]) (t := 25) hctx (by kernel_rfl) (by rfl) (by kernel_rfl) (by rfl) (by rfl) (by kernel_rfl) (by rfl) (fun W => NbV.of (Nb.new W _ _ _)) ?_) ?_
      · intro vals W K hK
        go_simp
        exact hK.out _ (by kernel_rfl)
      refine Ja.Steps.cons (JC.alloc (n := 2) (cells := #[.bool false, .slice none 0 0, .slice none 0 0]) (t := 25) hctx (by kernel_rfl) (by rfl) (by kernel_rfl) (by rfl) (by rfl) (by kernel_rfl) (by rfl) (fun W => NbV.of (Nb.new W _ _ _)) ?_) ?_
      · intro vals W K hK
        go_simp
        exact hK.out _ (by kernel_rfl)
      refine Ja.Steps.cons (JC.store (n := 0) hctx (by kernel_rfl) (by rfl) (by kernel_rfl) (by rfl) (by rfl) (by kernel_rfl) (by rfl) ?_) ?_
      · intro L vals W g old hJ hp ho hs K hK
        have hs9 : Nq W (vals 5) (p) := hs
        have hp9 : vals 9 = .pointer (some ⟨g, 0, none⟩) := hp
        dsimp only at hK
        generalize vals 9 = ua at hp9 hK ⊢
        subst hp9
        generalize vals 5 = uj at hs9 hK ⊢
        obtain ⟨e1, C1, i1, j1, C2, i2, j2, rfl, -⟩ := Nq.form hs9
        obtain ⟨f1, D1, x1, y1, D2, x2, y2, ho1, hb⟩ := ho
        have fz := hb.frozen
        obtain ⟨r0, r1, r2⟩ := hb.cells
        clear hb ho1
        go_simp
        exact hK.out undef _ _ (by kernel_rfl) PutV.of
      refine Ja.Steps.cons (JC.store (n := 1) hctx (by kernel_rfl) (by rfl) (by kernel_rfl) (by rfl) (by rfl) (by kernel_rfl) (by rfl) ?_) ?_
      · intro L vals W g old hJ hp ho hs K hK
        have hs9 : Nq W (vals 6) (q) := hs
        have hp9 : vals 10 = .pointer (some ⟨g, 0, none⟩) := hp
        dsimp only at hK
        generalize vals 10 = ua at hp9 hK ⊢
        subst hp9
        generalize vals 6 = uj at hs9 hK ⊢
        obtain ⟨e1, C1, i1, j1, C2, i2, j2, rfl, -⟩ := Nq.form hs9
        obtain ⟨f1, D1, x1, y1, D2, x2, y2, ho1, hb⟩ := ho
        have fz := hb.frozen
        obtain ⟨r0, r1, r2⟩ := hb.cells
        clear hb ho1
        go_simp
        exact hK.out undef _ _ (by kernel_rfl) PutV.of
      refine Ja.Steps.cons (JC.store (n := 2) hctx (by kernel_rfl) (by rfl) (by kernel_rfl) (by rfl) (by rfl) (by kernel_rfl) (by rfl) ?_) ?_
      · intro L vals W g old hJ hp ho hs K hK
        have hs9 : Nq W (vals 7) (r) := hs
        have hp9 : vals 11 = .pointer (some ⟨g, 0, none⟩) := hp
        dsimp only at hK
        generalize vals 11 = ua at hp9 hK ⊢
        subst hp9
        generalize vals 7 = uj at hs9 hK ⊢
        obtain ⟨e1, C1, i1, j1, C2, i2, j2, rfl, -⟩ := Nq.form hs9
        obtain ⟨f1, D1, x1, y1, D2, x2, y2, ho1, hb⟩ := ho
        have fz := hb.frozen
        obtain ⟨r0, r1, r2⟩ := hb.cells
        clear hb ho1
        go_simp
        exact hK.out undef _ _ (by kernel_rfl) PutV.of
      refine Ja.Steps.cons (JC.other hctx (by kernel_rfl) (by rfl) (by kernel_rfl) (by kernel_rfl) ?_) ?_
      · intro L vals W hL hJ hd K hK
        have hQ := hJ.q
        have d8 : vals 8 = .bool false := hd 8 (by kernel_rfl)
        generalize vals 8 = u8 at d8 hK ⊢
        subst d8
        go_simp
        exact hK.out (.bool false) _ _ (by kernel_rfl) rfl (Q.refl _)
      exact Ja.Steps.nil
    intro L vals w1 hall hJ
    clear hAt0
    have hG1 := hJ.q
    obtain ⟨gX, eX, geX, qX⟩ := hJ.fresh 0 rfl rfl (hall 9 (by decide)) (hall 12 (by decide))
    have nX1 : Nq w1 (vals 5) (p) := hJ.s 5 (hall 5 (by decide))
    obtain ⟨sX, AX1, kX1, cX1, AX2, kX2, cX2, yX, hX1⟩ := qX
    change Nb w1 (gX) (sX) (.slice AX1 kX1 cX1) (.slice AX2 kX2 cX2) at hX1
    try dsimp only at yX
    rw [yX] at nX1
    clear yX
    obtain ⟨gY, eY, geY, qY⟩ := hJ.fresh 1 rfl rfl (hall 10 (by decide)) (hall 13 (by decide))
    have nY1 : Nq w1 (vals 6) (q) := hJ.s 6 (hall 6 (by decide))
    obtain ⟨sY, AY1, kY1, cY1, AY2, kY2, cY2, yY, hY1⟩ := qY
    change Nb w1 (gY) (sY) (.slice AY1 kY1 cY1) (.slice AY2 kY2 cY2) at hY1
    try dsimp only at yY
    rw [yY] at nY1
    clear yY
    obtain ⟨gZ, eZ, geZ, qZ⟩ := hJ.fresh 2 rfl rfl (hall 11 (by decide)) (hall 14 (by decide))
    have nZ1 : Nq w1 (vals 7) (r) := hJ.s 7 (hall 7 (by decide))
    obtain ⟨sZ, AZ1, kZ1, cZ1, AZ2, kZ2, cZ2, yZ, hZ1⟩ := qZ
    change Nb w1 (gZ) (sZ) (.slice AZ1 kZ1 cZ1) (.slice AZ2 kZ2 cZ2) at hZ1
    try dsimp only at yZ
    rw [yZ] at nZ1
    clear yZ
    have neYX : gY ≠ gX := hJ.ne 1 0 (by decide) rfl rfl (hall 10 (by decide)) (hall 9 (by decide)) eY eX
    have neZX : gZ ≠ gX := hJ.ne 2 0 (by decide) rfl rfl (hall 11 (by decide)) (hall 9 (by decide)) eZ eX
    have neZY : gZ ≠ gY := hJ.ne 2 1 (by decide) rfl rfl (hall 11 (by decide)) (hall 10 (by decide)) eZ eY
    rw [eX]
    clear eX
    rw [eY]
    clear eY
    rw [eZ]
    clear eZ
    have f10 : vals 15 = .bool false := hJ.s 15 (hall 15 (by decide))
    rw [f10]
    clear hall hJ
    go_upto_region 3 with fail
    refine text_each (F := ?F3) ([.eq (.bool true), .eq (.bool true)] : List Vs) (by kernel_rfl) ?hF3 ?st3 ?en3
    case hF3 =>
      intro vals
      simp only [Ja.fillL, Act.put, List.setIfInBounds_toArray, List.set_cons_zero, List.set_cons_succ, Nat.reduceAdd]
      exact rfl
    case st3 =>
      intro hctx
      refine Ja.Steps.cons (Each.yes hctx (by rfl) (by kernel_rfl) ?_) ?_
      · intro vals W hM hd K hK
        have hN : Q w1 W := hM
        have hQ := hG1.trans hN
        go_simp
        (with_reducible refine (q_Awake W (hT.q hQ) (hPx.q hQ)).mono ?_)
        rintro e W9 ⟨rfl, hq9⟩
        exact hK.out (.bool true) W9 _ (by kernel_rfl) rfl hq9
      refine Ja.Steps.cons (Each.yes hctx (by rfl) (by kernel_rfl) ?_) ?_
      · intro vals W hM hd K hK
        have hN : Q w1 W := hM
        have hQ := hG1.trans hN
        have d0 : vals 0 = .bool true := hd 0 (by kernel_rfl)
        generalize vals 0 = u0 at d0 hK ⊢
        subst d0
        go_simp
        exact hK.out (.bool true) _ _ (by kernel_rfl) rfl (Q.refl _)
      exact Ja.Steps.nil
    intro vals w2 hq2 hall
    have hG2 := hG1.trans hq2
    have hX2 := hX1.q hq2
    have nX2 := nX1.q hq2
    have hY2 := hY1.q hq2
    have nY2 := nY1.q hq2
    have hZ2 := hZ1.q hq2
    have nZ2 := nZ1.q hq2
    have f6 : vals 1 = .bool true := hall 1 (by decide)
    rw [f6]
    clear hall hq2 hG1 hX1 hY1 hZ1 nX1 nY1 nZ1
    go_wp2_with fail
    go_ret
    exact ⟨ret_bool rfl, by rw [← hw0]; exact hG2⟩
  have hAt0 : At0 w [{ al := some 9, g := 0, big := false, row := .agg #[.bool false, .slice none 0 0, .slice none 0 0], st := 12, src := 5 }, { al := some 10, g := 0, big := false, row := .agg #[.bool false, .slice none 0 0, .slice none 0 0], st := 13, src := 6 }, { al := some 11, g := 0, big := false, row := .agg #[.bool false, .slice none 0 0, .slice none 0 0], st := 14, src := 7 }] [] w0 := At0.of hG0 ⟨fun h => (by cases h), fun h => (by cases h), fun h => (by cases h), trivial⟩ (by (simp [Apart0] <;> omega)) trivial
  clear hG0 
  refine text_cells (F := ?F4) w ([.eq (.string (a)), .eq (.string (b)), .eq (.string (c)), .three (p) (q) (r) true, .three (p) (q) (r) true, .num (p), .num (q), .num (r), .eq (.bool true), .any, .any, .any, .any, .any, .any, .eq (.bool true)] : List Vs) _ _ (by kernel_rfl) hAt0 ?hF4 ?st4 ?en4
  case hF4 =>
    intro vals
    simp only [Ja.fillL, Act.put, List.setIfInBounds_toArray, List.set_cons_zero, List.set_cons_succ, Nat.reduceAdd]
    exact rfl
  case st4 =>
    clear hAt0
    intro hctx
    refine Ja.Steps.cons (JC.other hctx (by kernel_rfl) (by rfl) (by kernel_rfl) (by kernel_rfl) ?_) ?_
    · intro L vals W hL hJ hd K hK
      have hQ := hJ.q
      go_simp
      exact hK.out (.string (a)) _ _ (by kernel_rfl) rfl (Q.refl _)
    refine Ja.Steps.cons (JC.other hctx (by kernel_rfl) (by rfl) (by kernel_rfl) (by kernel_rfl) ?_) ?_
    · intro L vals W hL hJ hd K hK
      have hQ := hJ.q
      go_simp
      exact hK.out (.string (b)) _ _ (by kernel_rfl) rfl (Q.refl _)
    refine Ja.Steps.cons (JC.other hctx (by kernel_rfl) (by rfl) (by kernel_rfl) (by kernel_rfl) ?_) ?_
    · intro L vals W hL hJ hd K hK
      have hQ := hJ.q
      go_simp
      exact hK.out (.string (c)) _ _ (by kernel_rfl) rfl (Q.refl _)
    refine Ja.Steps.cons (JC.other hctx (by kernel_rfl) (by rfl) (by kernel_rfl) (by kernel_rfl) ?_) ?_
    · intro L vals W hL hJ hd K hK
      have hQ := hJ.q
      have d0 : vals 0 = .string (a) := hd 0 (by kernel_rfl)
      generalize vals 0 = u0 at d0 hK ⊢
      subst d0
      have d1 : vals 1 = .string (b) := hd 1 (by kernel_rfl)
      generalize vals 1 = u1 at d1 hK ⊢
      subst d1
      have d2 : vals 2 = .string (c) := hd 2 (by kernel_rfl)
      generalize vals 2 = u2 at d2 hK ⊢
      subst d2
      go_simp
      (with_reducible refine (q_three a b c W (hT.q hQ) ha hb hc).mono ?_)
      rintro e W9 ⟨x, y, z, rfl, hx9, hy9, hz9, hq9⟩
      exact hK.out (.tuple #[x, y, z, .bool (decide ((parseS a.data.toList).1 = 0) && decide ((parseS b.data.toList).1 = 0) && decide ((parseS c.data.toList).1 = 0))]) W9 _ (by kernel_rfl) ⟨x, y, z, by rw [HI.out], HP.out ▸ hx9, HQ.out ▸ hy9, HR.out ▸ hz9⟩ hq9
    refine Ja.Steps.cons (JC.other hctx (by kernel_rfl) (by rfl) (by kernel_rfl) (by kernel_rfl) ?_) ?_
    · intro L vals W hL hJ hd K hK
      have hQ := hJ.q
      have d3 : ∃ x y z, vals 3 = .tuple #[x, y, z, .bool true] ∧ Nq W x (p) ∧ Nq W y (q) ∧ Nq W z (r) := hd 3 (by kernel_rfl)
      go_simp
      exact hK.out (vals 3) _ _ (by kernel_rfl) d3 (Q.refl _)
    refine Ja.Steps.cons (JC.other hctx (by kernel_rfl) (by rfl) (by kernel_rfl) (by kernel_rfl) ?_) ?_
    · intro L vals W hL hJ hd K hK
      have hQ := hJ.q
      have d4 : ∃ x y z, vals 4 = .tuple #[x, y, z, .bool true] ∧ Nq W x (p) ∧ Nq W y (q) ∧ Nq W z (r) := hd 4 (by kernel_rfl)
      generalize vals 4 = u4 at d4 hK ⊢
      obtain ⟨rx, ry, rz, rfl, hrx, hry, hrz⟩ := d4
      go_simp
      exact hK.out rx _ _ (by kernel_rfl) hrx (Q.refl _)
    refine Ja.Steps.cons (JC.other hctx (by kernel_rfl) (by rfl) (by kernel_rfl) (by kernel_rfl) ?_) ?_
    · intro L vals W hL hJ hd K hK
      have hQ := hJ.q
      have d4 : ∃ x y z, vals 4 = .tuple #[x, y, z, .bool true] ∧ Nq W x (p) ∧ Nq W y (q) ∧ Nq W z (r) := hd 4 (by kernel_rfl)
      generalize vals 4 = u4 at d4 hK ⊢
      obtain ⟨rx, ry, rz, rfl, hrx, hry, hrz⟩ := d4
      go_simp
      exact hK.out ry _ _ (by kernel_rfl) hry (Q.refl _)
    refine Ja.Steps.cons (JC.other hctx (by kernel_rfl) (by rfl) (by kernel_rfl) (by kernel_rfl) ?_) ?_
    · intro L vals W hL hJ hd K hK
      have hQ := hJ.q
      have d4 : ∃ x y z, vals 4 = .tuple #[x, y, z, .bool true] ∧ Nq W x (p) ∧ Nq W y (q) ∧ Nq W z (r) := hd 4 (by kernel_rfl)
      generalize vals 4 = u4 at d4 hK ⊢
      obtain ⟨rx, ry, rz, rfl, hrx, hry, hrz⟩ := d4
      go_simp
      exact hK.out rz _ _ (by kernel_rfl) hrz (Q.refl _)
    refine Ja.Steps.cons (JC.other hctx (by kernel_rfl) (by rfl) (by kernel_rfl) (by kernel_rfl) ?_) ?_
    · intro L vals W hL hJ hd K hK
      have hQ := hJ.q
      have d4 : ∃ x y z, vals 4 = .tuple #[x, y, z, .bool true] ∧ Nq W x (p) ∧ Nq W y (q) ∧ Nq W z (r) := hd 4 (by kernel_rfl)
      generalize vals 4 = u4 at d4 hK ⊢
      obtain ⟨rx, ry, rz, rfl, hrx, hry, hrz⟩ := d4
      go_simp
      exact hK.out (.bool true) _ _ (by kernel_rfl) rfl (Q.refl _)
    refine Ja.Steps.cons (JC.alloc (n := 0) (cells := #[.bool false, .slice none 0 0, .slice none 0 0]) (t := 25) hctx (by kernel_rfl) (by rfl) (by kernel_rfl) (by rfl) (by rfl) (by kernel_rfl) (by rfl) (fun W => NbV.of (Nb.new W _ _ _)) ?_) ?_
    · intro vals W K hK
      go_simp
      exact hK.out _ (by kernel_rfl)
    refine Ja.Steps.cons (JC.alloc (n := 1) (cells := #[.bool false, .slice none 0 0, .slice none 0 0]) (t := 25) hctx (by kernel_rfl) (by rfl) (by kernel_rfl) (by rfl) (by rfl) (by kernel_rfl) (by rfl) (fun W => NbV.of (Nb.new W _ _ _)) ?_) ?_
    · intro vals W K hK
      go_simp
      exact hK.out _ (by kernel_rfl)
    refine Ja.Steps.cons (JC.alloc (n := 2) (cells := #[.bool false, .slice none 0 0, .slice none 0 0]) (t := 25) hctx (by kernel_rfl) (by rfl) (by kernel_rfl) (by rfl) (by rfl) (by kernel_rfl) (by rfl) (fun W => NbV.of (Nb.new W _ _ _)) ?_) ?_
    · intro vals W K hK
      go_simp
      exact hK.out _ (by kernel_rfl)
    refine Ja.Steps.cons (JC.store (n := 0) hctx (by kernel_rfl) (by rfl) (by kernel_rfl) (by rfl) (by rfl) (by kernel_rfl) (by rfl) ?_) ?_
    · intro L vals W g old hJ hp ho hs K hK
      have hs9 : Nq W (vals 5) (p) := hs
      have hp9 : vals 9 = .pointer (some ⟨g, 0, none⟩) := hp
      dsimp only at hK
      generalize vals 9 = ua at hp9 hK ⊢
      subst hp9
      generalize vals 5 = uj at hs9 hK ⊢
      obtain ⟨e1, C1, i1, j1, C2, i2, j2, rfl, -⟩ := Nq.form hs9
      obtain ⟨f1, D1, x1, y1, D2, x2, y2, ho1, hb⟩ := ho
      have fz := hb.frozen
      obtain ⟨r0, r1, r2⟩ := hb.cells
      clear hb ho1
      go_simp
      exact hK.out undef _ _ (by kernel_rfl) PutV.of
    refine Ja.Steps.cons (JC.store (n := 1) hctx (by kernel_rfl) (by rfl) (by kernel_rfl) (by rfl) (by rfl) (by kernel_rfl) (by rfl) ?_) ?_
    · intro L vals W g old hJ hp ho hs K hK
      have hs9 : Nq W (vals 6) (q) := hs
      have hp9 : vals 10 = .pointer (some ⟨g, 0, none⟩) := hp
      dsimp only at hK
      generalize vals 10 = ua at hp9 hK ⊢
      subst hp9
      generalize vals 6 = uj at hs9 hK ⊢
      obtain ⟨e1, C1, i1, j1, C2, i2, j2, rfl, -⟩ := Nq.form hs9
      obtain ⟨f1, D1, x1, y1, D2, x2, y2, ho1, hb⟩ := ho
      have fz := hb.frozen
      obtain ⟨r0, r1, r2⟩ := hb.cells
      clear hb ho1
      go_simp
      exact hK.out undef _ _ (by kernel_rfl) PutV.of
    refine Ja.Steps.cons (JC.store (n := 2) hctx (by kernel_rfl) (by rfl) (by kernel_rfl) (by rfl) (by rfl) (by kernel_rfl) (by rfl) ?_) ?_
    · intro L vals W g old hJ hp ho hs K hK
      have hs9 : Nq W (vals 7) (r) := hs
      have hp9 : vals 11 = .pointer (some ⟨g, 0, none⟩) := hp
      dsimp only at hK
      generalize vals 11 = ua at hp9 hK ⊢
      subst hp9
      generalize vals 7 = uj at hs9 hK ⊢
      obtain ⟨e1, C1, i1, j1, C2, i2, j2, rfl, -⟩ := Nq.form hs9
      obtain ⟨f1, D1, x1, y1, D2, x2, y2, ho1, hb⟩ := ho
      have fz := hb.frozen
      obtain ⟨r0, r1, r2⟩ := hb.cells
      clear hb ho1
      go_simp
      exact hK.out undef _ _ (by kernel_rfl) PutV.of
    refine Ja.Steps.cons (JC.other hctx (by kernel_rfl) (by rfl) (by kernel_rfl) (by kernel_rfl) ?_) ?_
    · intro L vals W hL hJ hd K hK
      have hQ := hJ.q
      have d8 : vals 8 = .bool true := hd 8 (by kernel_rfl)
      generalize vals 8 = u8 at d8 hK ⊢
      subst d8
      go_simp
      exact hK.out (.bool true) _ _ (by kernel_rfl) rfl (Q.refl _)
    exact Ja.Steps.nil
  intro L vals w1 hall hJ
  clear hAt0
  have hG1 := hJ.q
  obtain ⟨gX, eX, geX, qX⟩ := hJ.fresh 0 rfl rfl (hall 9 (by decide)) (hall 12 (by decide))
  have nX1 : Nq w1 (vals 5) (p) := hJ.s 5 (hall 5 (by decide))
  obtain ⟨sX, AX1, kX1, cX1, AX2, kX2, cX2, yX, hX1⟩ := qX
  change Nb w1 (gX) (sX) (.slice AX1 kX1 cX1) (.slice AX2 kX2 cX2) at hX1
  try dsimp only at yX
  rw [yX] at nX1
  clear yX
  obtain ⟨gY, eY, geY, qY⟩ := hJ.fresh 1 rfl rfl (hall 10 (by decide)) (hall 13 (by decide))
  have nY1 : Nq w1 (vals 6) (q) := hJ.s 6 (hall 6 (by decide))
  obtain ⟨sY, AY1, kY1, cY1, AY2, kY2, cY2, yY, hY1⟩ := qY
  change Nb w1 (gY) (sY) (.slice AY1 kY1 cY1) (.slice AY2 kY2 cY2) at hY1
  try dsimp only at yY
  rw [yY] at nY1
  clear yY
  obtain ⟨gZ, eZ, geZ, qZ⟩ := hJ.fresh 2 rfl rfl (hall 11 (by decide)) (hall 14 (by decide))
  have nZ1 : Nq w1 (vals 7) (r) := hJ.s 7 (hall 7 (by decide))
  obtain ⟨sZ, AZ1, kZ1, cZ1, AZ2, kZ2, cZ2, yZ, hZ1⟩ := qZ
  change Nb w1 (gZ) (sZ) (.slice AZ1 kZ1 cZ1) (.slice AZ2 kZ2 cZ2) at hZ1
  try dsimp only at yZ
  rw [yZ] at nZ1
  clear yZ
  have neYX : gY ≠ gX := hJ.ne 1 0 (by decide) rfl rfl (hall 10 (by decide)) (hall 9 (by decide)) eY eX
  have neZX : gZ ≠ gX := hJ.ne 2 0 (by decide) rfl rfl (hall 11 (by decide)) (hall 9 (by decide)) eZ eX
  have neZY : gZ ≠ gY := hJ.ne 2 1 (by decide) rfl rfl (hall 11 (by decide)) (hall 10 (by decide)) eZ eY
  rw [eX]
  clear eX
  rw [eY]
  clear eY
  rw [eZ]
  clear eZ
  have f10 : vals 15 = .bool true := hJ.s 15 (hall 15 (by decide))
  rw [f10]
  clear hall hJ
  go_upto_region 4 with fail
  have Z4 : Hid (sz ((p) + (q)) ≤ 8001) := Lib.hid (by have h9 := sz_add (p) (q); have h0 := Z1.out; have h1 := Z2.out; omega)
  have B5 : Hid (64 * (sz (p) + sz (q)) + 400 ≤ LIM) := Lib.hid (by have h0 := Z1.out; have h1 := Z2.out; rw [LIM_eq]; omega)
  have Z6 : Hid (sz ((p) * (q)) ≤ 4000) := Lib.hid (by have h9 := sz_mul (p) (q); have h0 := Z1.out; have h1 := Z2.out; omega)
  have B7 : Hid (16 * (sz (p) + sz (q)) + 100 ≤ LIM) := Lib.hid (by have h0 := Z1.out; have h1 := Z2.out; rw [LIM_eq]; omega)
  have hAt1 : At0 w [{ al := none, g := gX, big := false, row := .agg #[.bool sX, .slice AX1 kX1 cX1, .slice AX2 kX2 cX2], st := 1000, src := 0 }, { al := none, g := gY, big := false, row := .agg #[.bool sY, .slice AY1 kY1 cY1, .slice AY2 kY2 cY2], st := 1000, src := 0 }, { al := none, g := gZ, big := false, row := .agg #[.bool sZ, .slice AZ1 kZ1 cZ1, .slice AZ2 kZ2 cZ2], st := 1000, src := 0 }, { al := some 6, g := 0, big := false, row := .agg #[.bool false, .slice none 0 0, .slice none 0 0], st := 8, src := 2 }, { al := some 7, g := 0, big := false, row := .agg #[.bool false, .slice none 0 0, .slice none 0 0], st := 9, src := 5 }] [(.agg #[.bool sX, .slice AX1 kX1 cX1, .slice AX2 kX2 cX2], .num (p)), (.agg #[.bool sY, .slice AY1 kY1 cY1, .slice AY2 kY2 cY2], .num (q)), (.agg #[.bool sZ, .slice AZ1 kZ1 cZ1, .slice AZ2 kZ2 cZ2], .num (r))] w1 := At0.of hG1 ⟨fun _ => ⟨by dsimp only; omega, NbV.of hX1⟩, fun _ => ⟨by dsimp only; omega, NbV.of hY1⟩, fun _ => ⟨by dsimp only; omega, NbV.of hZ1⟩, fun h => (by cases h), fun h => (by cases h), trivial⟩ (by (simp [Apart0] <;> omega)) ⟨nX1, nY1, nZ1, trivial⟩
  clear hG1 hX1 hY1 hZ1 nX1 nY1 nZ1
  refine region_cells (F := ?F5) w ([.num (p), .num (q), .num ((p) + (q)), .num (p), .num (q), .num ((p) * (q)), .any, .any, .any, .any] : List Vs) _ _ (by kernel_rfl) (by kernel_rfl) hAt1 ?hF5 ?st5 ?en5
  case hF5 =>
    intro vals
    simp only [Ja.fillL, Act.put, List.setIfInBounds_toArray, List.set_cons_zero, List.set_cons_succ, Nat.reduceAdd]
    exact rfl
  case st5 =>
    clear hAt1
    intro hctx
    refine Ja.Steps.cons (JC.other hctx (by kernel_rfl) (by rfl) (by kernel_rfl) (by kernel_rfl) ?_) ?_
    · intro L vals W hL hJ hd K hK
      have hQ := hJ.q
      obtain ⟨z0, z1, z2⟩ := (NbV.out (hJ.still 0 rfl rfl (Nat.le_of_ble_eq_true (by kernel_rfl)))).cells
      go_simp
      exact hK.out (.agg #[.bool sX, .slice AX1 kX1 cX1, .slice AX2 kX2 cX2]) _ _ (by kernel_rfl) (hJ.kept 0 rfl) (Q.refl _)
    refine Ja.Steps.cons (JC.other hctx (by kernel_rfl) (by rfl) (by kernel_rfl) (by kernel_rfl) ?_) ?_
    · intro L vals W hL hJ hd K hK
      have hQ := hJ.q
      obtain ⟨z0, z1, z2⟩ := (NbV.out (hJ.still 1 rfl rfl (Nat.le_of_ble_eq_true (by kernel_rfl)))).cells
      go_simp
      exact hK.out (.agg #[.bool sY, .slice AY1 kY1 cY1, .slice AY2 kY2 cY2]) _ _ (by kernel_rfl) (hJ.kept 1 rfl) (Q.refl _)
    refine Ja.Steps.cons (JC.other hctx (by kernel_rfl) (by rfl) (by kernel_rfl) (by kernel_rfl) ?_) ?_
    · intro L vals W hL hJ hd K hK
      have hQ := hJ.q
      have d0 : Nq W (vals 0) (p) := hd 0 (by kernel_rfl)
      have d1 : Nq W (vals 1) (q) := hd 1 (by kernel_rfl)
      go_simp
      (with_reducible refine (q_Add _ _ (p) (q) W (hT.q hQ) d0 d1 B5.out).mono ?_)
      rintro e W9 ⟨r, rfl, hr, hq9⟩
      exact hK.out r W9 _ (by kernel_rfl) hr hq9
    refine Ja.Steps.cons (JC.other hctx (by kernel_rfl) (by rfl) (by kernel_rfl) (by kernel_rfl) ?_) ?_
    · intro L vals W hL hJ hd K hK
      have hQ := hJ.q
      obtain ⟨z0, z1, z2⟩ := (NbV.out (hJ.still 0 rfl rfl (Nat.le_of_ble_eq_true (by kernel_rfl)))).cells
      go_simp
      exact hK.out (.agg #[.bool sX, .slice AX1 kX1 cX1, .slice AX2 kX2 cX2]) _ _ (by kernel_rfl) (hJ.kept 0 rfl) (Q.refl _)
    refine Ja.Steps.cons (JC.other hctx (by kernel_rfl) (by rfl) (by kernel_rfl) (by kernel_rfl) ?_) ?_
    · intro L vals W hL hJ hd K hK
      have hQ := hJ.q
      obtain ⟨z0, z1, z2⟩ := (NbV.out (hJ.still 1 rfl rfl (Nat.le_of_ble_eq_true (by kernel_rfl)))).cells
      go_simp
      exact hK.out (.agg #[.bool sY, .slice AY1 kY1 cY1, .slice AY2 kY2 cY2]) _ _ (by kernel_rfl) (hJ.kept 1 rfl) (Q.refl _)
    refine Ja.Steps.cons (JC.other hctx (by kernel_rfl) (by rfl) (by kernel_rfl) (by kernel_rfl) ?_) ?_
    · intro L vals W hL hJ hd K hK
      have hQ := hJ.q
      have d3 : Nq W (vals 3) (p) := hd 3 (by kernel_rfl)
      have d4 : Nq W (vals 4) (q) := hd 4 (by kernel_rfl)
      go_simp
      (with_reducible refine (q_Mul _ _ (p) (q) W (hT.q hQ) d3 d4 B7.out).mono ?_)
      rintro e W9 ⟨r, rfl, hr, hq9⟩
      exact hK.out r W9 _ (by kernel_rfl) hr hq9
    refine Ja.Steps.cons (JC.alloc (n := 3) (cells := #[.bool false, .slice none 0 0, .slice none 0 0]) (t := 25) hctx (by kernel_rfl) (by rfl) (by kernel_rfl) (by rfl) (by rfl) (by kernel_rfl) (by rfl) (fun W => NbV.of (Nb.new W _ _ _)) ?_) ?_
    · intro vals W K hK
      go_simp
      exact hK.out _ (by kernel_rfl)
    refine Ja.Steps.cons (JC.alloc (n := 4) (cells := #[.bool false, .slice none 0 0, .slice none 0 0]) (t := 25) hctx (by kernel_rfl) (by rfl) (by kernel_rfl) (by rfl) (by rfl) (by kernel_rfl) (by rfl) (fun W => NbV.of (Nb.new W _ _ _)) ?_) ?_
    · intro vals W K hK
      go_simp
      exact hK.out _ (by kernel_rfl)
    refine Ja.Steps.cons (JC.store (n := 3) hctx (by kernel_rfl) (by rfl) (by kernel_rfl) (by rfl) (by rfl) (by kernel_rfl) (by rfl) ?_) ?_
    · intro L vals W g old hJ hp ho hs K hK
      have hs9 : Nq W (vals 2) ((p) + (q)) := hs
      have hp9 : vals 6 = .pointer (some ⟨g, 0, none⟩) := hp
      dsimp only at hK
      generalize vals 6 = ua at hp9 hK ⊢
      subst hp9
      generalize vals 2 = uj at hs9 hK ⊢
      obtain ⟨e1, C1, i1, j1, C2, i2, j2, rfl, -⟩ := Nq.form hs9
      obtain ⟨f1, D1, x1, y1, D2, x2, y2, ho1, hb⟩ := ho
      have fz := hb.frozen
      obtain ⟨r0, r1, r2⟩ := hb.cells
      clear hb ho1
      go_simp
      exact hK.out undef _ _ (by kernel_rfl) PutV.of
    refine Ja.Steps.cons (JC.store (n := 4) hctx (by kernel_rfl) (by rfl) (by kernel_rfl) (by rfl) (by rfl) (by kernel_rfl) (by rfl) ?_) ?_
    · intro L vals W g old hJ hp ho hs K hK
      have hs9 : Nq W (vals 5) ((p) * (q)) := hs
      have hp9 : vals 7 = .pointer (some ⟨g, 0, none⟩) := hp
      dsimp only at hK
      generalize vals 7 = ua at hp9 hK ⊢
      subst hp9
      generalize vals 5 = uj at hs9 hK ⊢
      obtain ⟨e1, C1, i1, j1, C2, i2, j2, rfl, -⟩ := Nq.form hs9
      obtain ⟨f1, D1, x1, y1, D2, x2, y2, ho1, hb⟩ := ho
      have fz := hb.frozen
      obtain ⟨r0, r1, r2⟩ := hb.cells
      clear hb ho1
      go_simp
      exact hK.out undef _ _ (by kernel_rfl) PutV.of
    exact Ja.Steps.nil
  intro L vals w2 hall hJ
  clear hAt1
  have hG2 := hJ.q
  have hX2 : Nb w2 (gX) (sX) (.slice AX1 kX1 cX1) (.slice AX2 kX2 cX2) := NbV.out (hJ.still 0 rfl rfl (Nat.le_of_ble_eq_true (by kernel_rfl)))
  have nX2 : Nq w2 (.agg #[.bool sX, .slice AX1 kX1 cX1, .slice AX2 kX2 cX2]) (p) := hJ.kept 0 rfl
  have hY2 : Nb w2 (gY) (sY) (.slice AY1 kY1 cY1) (.slice AY2 kY2 cY2) := NbV.out (hJ.still 1 rfl rfl (Nat.le_of_ble_eq_true (by kernel_rfl)))
  have nY2 : Nq w2 (.agg #[.bool sY, .slice AY1 kY1 cY1, .slice AY2 kY2 cY2]) (q) := hJ.kept 1 rfl
  have hZ2 : Nb w2 (gZ) (sZ) (.slice AZ1 kZ1 cZ1) (.slice AZ2 kZ2 cZ2) := NbV.out (hJ.still 2 rfl rfl (Nat.le_of_ble_eq_true (by kernel_rfl)))
  have nZ2 : Nq w2 (.agg #[.bool sZ, .slice AZ1 kZ1 cZ1, .slice AZ2 kZ2 cZ2]) (r) := hJ.kept 2 rfl
  obtain ⟨gU, eU, geU, qU⟩ := hJ.fresh 3 rfl rfl (hall 6 (by decide)) (hall 8 (by decide))
  have nU2 : Nq w2 (vals 2) ((p) + (q)) := hJ.s 2 (hall 2 (by decide))
  obtain ⟨sU, AU1, kU1, cU1, AU2, kU2, cU2, yU, hU2⟩ := qU
  change Nb w2 (gU) (sU) (.slice AU1 kU1 cU1) (.slice AU2 kU2 cU2) at hU2
  try dsimp only at yU
  rw [yU] at nU2
  clear yU
  obtain ⟨gV, eV, geV, qV⟩ := hJ.fresh 4 rfl rfl (hall 7 (by decide)) (hall 9 (by decide))
  have nV2 : Nq w2 (vals 5) ((p) * (q)) := hJ.s 5 (hall 5 (by decide))
  obtain ⟨sV, AV1, kV1, cV1, AV2, kV2, cV2, yV, hV2⟩ := qV
  change Nb w2 (gV) (sV) (.slice AV1 kV1 cV1) (.slice AV2 kV2 cV2) at hV2
  try dsimp only at yV
  rw [yV] at nV2
  clear yV
  have neUX : gU ≠ gX := hJ.ne 3 0 (by decide) rfl rfl (hall 6 (by decide)) rfl eU rfl
  have neUY : gU ≠ gY := hJ.ne 3 1 (by decide) rfl rfl (hall 6 (by decide)) rfl eU rfl
  have neUZ : gU ≠ gZ := hJ.ne 3 2 (by decide) rfl rfl (hall 6 (by decide)) rfl eU rfl
  have neVX : gV ≠ gX := hJ.ne 4 0 (by decide) rfl rfl (hall 7 (by decide)) rfl eV rfl
  have neVY : gV ≠ gY := hJ.ne 4 1 (by decide) rfl rfl (hall 7 (by decide)) rfl eV rfl
  have neVZ : gV ≠ gZ := hJ.ne 4 2 (by decide) rfl rfl (hall 7 (by decide)) rfl eV rfl
  have neVU : gV ≠ gU := hJ.ne 4 3 (by decide) rfl rfl (hall 7 (by decide)) (hall 6 (by decide)) eV eU
  rw [eU]
  clear eU
  rw [eV]
  clear eV
  clear hall hJ
  go_upto_region 5 with fail
  have Z8 : Hid (sz ((q) + (p)) ≤ 8001) := Lib.hid (by have h9 := sz_add (q) (p); have h0 := Z2.out; have h1 := Z1.out; omega)
  have B9 : Hid (64 * (sz (q) + sz (p)) + 400 ≤ LIM) := Lib.hid (by have h0 := Z2.out; have h1 := Z1.out; rw [LIM_eq]; omega)
  have B10 : Hid (2000 * (sz ((p) + (q))) + 500000 ≤ LIM) := Lib.hid (by have h0 := Z4.out; rw [LIM_eq]; omega)
  have Z11 : Hid (sz ((q) * (p)) ≤ 4000) := Lib.hid (by have h9 := sz_mul (q) (p); have h0 := Z2.out; have h1 := Z1.out; omega)
  have B12 : Hid (16 * (sz (q) + sz (p)) + 100 ≤ LIM) := Lib.hid (by have h0 := Z2.out; have h1 := Z1.out; rw [LIM_eq]; omega)
  have B13 : Hid (2000 * (sz ((p) * (q))) + 500000 ≤ LIM) := Lib.hid (by have h0 := Z6.out; rw [LIM_eq]; omega)
  have Z14 : Hid (sz (((p) + (q)) + (r)) ≤ 20003) := Lib.hid (by have h9 := sz_add ((p) + (q)) (r); have h0 := Z4.out; have h1 := Z3.out; omega)
  have B15 : Hid (64 * (sz ((p) + (q)) + sz (r)) + 400 ≤ LIM) := Lib.hid (by have h0 := Z4.out; have h1 := Z3.out; rw [LIM_eq]; omega)
  have Z16 : Hid (sz ((q) + (r)) ≤ 8001) := Lib.hid (by have h9 := sz_add (q) (r); have h0 := Z2.out; have h1 := Z3.out; omega)
  have B17 : Hid (64 * (sz (q) + sz (r)) + 400 ≤ LIM) := Lib.hid (by have h0 := Z2.out; have h1 := Z3.out; rw [LIM_eq]; omega)
  have Z18 : Hid (sz ((p) + ((q) + (r))) ≤ 20003) := Lib.hid (by have h9 := sz_add (p) ((q) + (r)); have h0 := Z1.out; have h1 := Z16.out; omega)
  have B19 : Hid (64 * (sz (p) + sz ((q) + (r))) + 400 ≤ LIM) := Lib.hid (by have h0 := Z1.out; have h1 := Z16.out; rw [LIM_eq]; omega)
  have B20 : Hid (2000 * (sz (((p) + (q)) + (r))) + 500000 ≤ LIM) := Lib.hid (by have h0 := Z14.out; rw [LIM_eq]; omega)
  have Z21 : Hid (sz (((p) * (q)) * (r)) ≤ 6000) := Lib.hid (by have h9 := sz_mul ((p) * (q)) (r); have h0 := Z6.out; have h1 := Z3.out; omega)
  have B22 : Hid (16 * (sz ((p) * (q)) + sz (r)) + 100 ≤ LIM) := Lib.hid (by have h0 := Z6.out; have h1 := Z3.out; rw [LIM_eq]; omega)
  have Z23 : Hid (sz ((q) * (r)) ≤ 4000) := Lib.hid (by have h9 := sz_mul (q) (r); have h0 := Z2.out; have h1 := Z3.out; omega)
  have B24 : Hid (16 * (sz (q) + sz (r)) + 100 ≤ LIM) := Lib.hid (by have h0 := Z2.out; have h1 := Z3.out; rw [LIM_eq]; omega)
  have Z25 : Hid (sz ((p) * ((q) * (r))) ≤ 6000) := Lib.hid (by have h9 := sz_mul (p) ((q) * (r)); have h0 := Z1.out; have h1 := Z23.out; omega)
  have B26 : Hid (16 * (sz (p) + sz ((q) * (r))) + 100 ≤ LIM) := Lib.hid (by have h0 := Z1.out; have h1 := Z23.out; rw [LIM_eq]; omega)
  have B27 : Hid (2000 * (sz (((p) * (q)) * (r))) + 500000 ≤ LIM) := Lib.hid (by have h0 := Z21.out; rw [LIM_eq]; omega)
  refine region_each (F := ?F6) ([.num ((p) + (q)), .num (q), .num (p), .num ((q) + (p)), .eq (.bool true), .eq (.bool false), .eq (.bool false), .num ((p) * (q)), .num (q), .num (p), .num ((q) * (p)), .eq (.bool true), .eq (.bool false), .eq (.bool false), .eq (.bool false), .num ((p) + (q)), .num (r), .num (((p) + (q)) + (r)), .num (p), .num (q), .num (r), .num ((q) + (r)), .num ((p) + ((q) + (r))), .eq (.bool true), .eq (.bool false), .eq (.bool false), .eq (.bool false), .num ((p) * (q)), .num (r), .num (((p) * (q)) * (r)), .num (p), .num (q), .num (r), .num ((q) * (r)), .num ((p) * ((q) * (r))), .eq (.bool true), .eq (.bool false), .eq (.bool false)] : List Vs) (by kernel_rfl) (by kernel_rfl) ?hF6 ?st6 ?en6
  case hF6 =>
    intro vals
    simp only [Ja.fillL, Act.put, List.setIfInBounds_toArray, List.set_cons_zero, List.set_cons_succ, Nat.reduceAdd]
    exact rfl
  case st6 =>
    intro hctx
    refine Ja.Steps.cons (Each.yes hctx (by rfl) (by kernel_rfl) ?_) ?_
    · intro vals W hM hd K hK
      have hN : Q w2 W := (Q.refl _).drew.trans hM
      have hQ := hG2.trans hN
      obtain ⟨z0, z1, z2⟩ := (hU2.q hN).cells
      go_simp
      exact hK.out (.agg #[.bool sU, .slice AU1 kU1 cU1, .slice AU2 kU2 cU2]) _ _ (by kernel_rfl) (nU2.q hN) (Q.refl _)
    refine Ja.Steps.cons (Each.yes hctx (by rfl) (by kernel_rfl) ?_) ?_
    · intro vals W hM hd K hK
      have hN : Q w2 W := (Q.refl _).drew.trans hM
      have hQ := hG2.trans hN
      obtain ⟨z0, z1, z2⟩ := (hY2.q hN).cells
      go_simp
      exact hK.out (.agg #[.bool sY, .slice AY1 kY1 cY1, .slice AY2 kY2 cY2]) _ _ (by kernel_rfl) (nY2.q hN) (Q.refl _)
    refine Ja.Steps.cons (Each.yes hctx (by rfl) (by kernel_rfl) ?_) ?_
    · intro vals W hM hd K hK
      have hN : Q w2 W := (Q.refl _).drew.trans hM
      have hQ := hG2.trans hN
      obtain ⟨z0, z1, z2⟩ := (hX2.q hN).cells
      go_simp
      exact hK.out (.agg #[.bool sX, .slice AX1 kX1 cX1, .slice AX2 kX2 cX2]) _ _ (by kernel_rfl) (nX2.q hN) (Q.refl _)
    refine Ja.Steps.cons (Each.yes hctx (by rfl) (by kernel_rfl) ?_) ?_
    · intro vals W hM hd K hK
      have hN : Q w2 W := (Q.refl _).drew.trans hM
      have hQ := hG2.trans hN
      have d1 : Nq W (vals 1) (q) := hd 1 (by kernel_rfl)
      have d2 : Nq W (vals 2) (p) := hd 2 (by kernel_rfl)
      go_simp
      (with_reducible refine (q_Add _ _ (q) (p) W (hT.q hQ) d1 d2 B9.out).mono ?_)
      rintro e W9 ⟨r, rfl, hr, hq9⟩
      exact hK.out r W9 _ (by kernel_rfl) hr hq9
    refine Ja.Steps.cons (Each.yes hctx (by rfl) (by kernel_rfl) ?_) ?_
    · intro vals W hM hd K hK
      have hN : Q w2 W := (Q.refl _).drew.trans hM
      have hQ := hG2.trans hN
      have d0 : Nq W (vals 0) ((p) + (q)) := hd 0 (by kernel_rfl)
      have d3 : Nq W (vals 3) ((q) + (p)) := hd 3 (by kernel_rfl)
      go_simp
      (with_reducible refine (q_equal _ _ ((p) + (q)) W (hT.q hQ) (hPx.q hQ) d0 (by rw [show ((p) + (q) : Rat) = (q) + (p) from Rat.add_comm p q]; exact d3) B10.out).mono ?_)
      rintro e W9 ⟨rfl, hq9⟩
      exact hK.out (.bool true) W9 _ (by kernel_rfl) rfl hq9
    refine Ja.Steps.cons (Each.yes hctx (by rfl) (by kernel_rfl) ?_) ?_
    · intro vals W hM hd K hK
      have hN : Q w2 W := (Q.refl _).drew.trans hM
      have hQ := hG2.trans hN
      have d4 : vals 4 = .bool true := hd 4 (by kernel_rfl)
      generalize vals 4 = u4 at d4 hK ⊢
      subst d4
      go_simp
      exact hK.out (.bool false) _ _ (by kernel_rfl) rfl (Q.refl _)
    refine Ja.Steps.cons (Each.yes hctx (by rfl) (by kernel_rfl) ?_) ?_
    · intro vals W hM hd K hK
      have hN : Q w2 W := (Q.refl _).drew.trans hM
      have hQ := hG2.trans hN
      have d5 : vals 5 = .bool false := hd 5 (by kernel_rfl)
      generalize vals 5 = u5 at d5 hK ⊢
      subst d5
      go_simp
      exact hK.out (.bool false) _ _ (by kernel_rfl) rfl (Q.refl _)
    refine Ja.Steps.cons (Each.yes hctx (by rfl) (by kernel_rfl) ?_) ?_
    · intro vals W hM hd K hK
      have hN : Q w2 W := (Q.refl _).drew.trans hM
      have hQ := hG2.trans hN
      obtain ⟨z0, z1, z2⟩ := (hV2.q hN).cells
      go_simp
      exact hK.out (.agg #[.bool sV, .slice AV1 kV1 cV1, .slice AV2 kV2 cV2]) _ _ (by kernel_rfl) (nV2.q hN) (Q.refl _)
    refine Ja.Steps.cons (Each.yes hctx (by rfl) (by kernel_rfl) ?_) ?_
    · intro vals W hM hd K hK
      have hN : Q w2 W := (Q.refl _).drew.trans hM
      have hQ := hG2.trans hN
      obtain ⟨z0, z1, z2⟩ := (hY2.q hN).cells
      go_simp
      exact hK.out (.agg #[.bool sY, .slice AY1 kY1 cY1, .slice AY2 kY2 cY2]) _ _ (by kernel_rfl) (nY2.q hN) (Q.refl _)
    refine Ja.Steps.cons (Each.yes hctx (by rfl) (by kernel_rfl) ?_) ?_
    · intro vals W hM hd K hK
      have hN : Q w2 W := (Q.refl _).drew.trans hM
      have hQ := hG2.trans hN
      obtain ⟨z0, z1, z2⟩ := (hX2.q hN).cells
      go_simp
      exact hK.out (.agg #[.bool sX, .slice AX1 kX1 cX1, .slice AX2 kX2 cX2]) _ _ (by kernel_rfl) (nX2.q hN) (Q.refl _)
    refine Ja.Steps.cons (Each.yes hctx (by rfl) (by kernel_rfl) ?_) ?_
    · intro vals W hM hd K hK
      have hN : Q w2 W := (Q.refl _).drew.trans hM
      have hQ := hG2.trans hN
      have d8 : Nq W (vals 8) (q) := hd 8 (by kernel_rfl)
      have d9 : Nq W (vals 9) (p) := hd 9 (by kernel_rfl)
      go_simp
      (with_reducible refine (q_Mul _ _ (q) (p) W (hT.q hQ) d8 d9 B12.out).mono ?_)
      rintro e W9 ⟨r, rfl, hr, hq9⟩
      exact hK.out r W9 _ (by kernel_rfl) hr hq9
    refine Ja.Steps.cons (Each.yes hctx (by rfl) (by kernel_rfl) ?_) ?_
    · intro vals W hM hd K hK
      have hN : Q w2 W := (Q.refl _).drew.trans hM
      have hQ := hG2.trans hN
      have d7 : Nq W (vals 7) ((p) * (q)) := hd 7 (by kernel_rfl)
      have d10 : Nq W (vals 10) ((q) * (p)) := hd 10 (by kernel_rfl)
      go_simp
      (with_reducible refine (q_equal _ _ ((p) * (q)) W (hT.q hQ) (hPx.q hQ) d7 (by rw [show ((p) * (q) : Rat) = (q) * (p) from Rat.mul_comm p q]; exact d10) B13.out).mono ?_)
      rintro e W9 ⟨rfl, hq9⟩
      exact hK.out (.bool true) W9 _ (by kernel_rfl) rfl hq9
    refine Ja.Steps.cons (Each.yes hctx (by rfl) (by kernel_rfl) ?_) ?_
    · intro vals W hM hd K hK
      have hN : Q w2 W := (Q.refl _).drew.trans hM
      have hQ := hG2.trans hN
      have d11 : vals 11 = .bool true := hd 11 (by kernel_rfl)
      generalize vals 11 = u11 at d11 hK ⊢
      subst d11
      go_simp
      exact hK.out (.bool false) _ _ (by kernel_rfl) rfl (Q.refl _)
    refine Ja.Steps.cons (Each.yes hctx (by rfl) (by kernel_rfl) ?_) ?_
    · intro vals W hM hd K hK
      have hN : Q w2 W := (Q.refl _).drew.trans hM
      have hQ := hG2.trans hN
      have d6 : vals 6 = .bool false := hd 6 (by kernel_rfl)
      generalize vals 6 = u6 at d6 hK ⊢
      subst d6
      have d12 : vals 12 = .bool false := hd 12 (by kernel_rfl)
      generalize vals 12 = u12 at d12 hK ⊢
      subst d12
      go_simp
      exact hK.out (.bool false) _ _ (by kernel_rfl) rfl (Q.refl _)
    refine Ja.Steps.cons (Each.yes hctx (by rfl) (by kernel_rfl) ?_) ?_
    · intro vals W hM hd K hK
      have hN : Q w2 W := (Q.refl _).drew.trans hM
      have hQ := hG2.trans hN
      have d13 : vals 13 = .bool false := hd 13 (by kernel_rfl)
      generalize vals 13 = u13 at d13 hK ⊢
      subst d13
      go_simp
      exact hK.out (.bool false) _ _ (by kernel_rfl) rfl (Q.refl _)
    refine Ja.Steps.cons (Each.yes hctx (by rfl) (by kernel_rfl) ?_) ?_
    · intro vals W hM hd K hK
      have hN : Q w2 W := (Q.refl _).drew.trans hM
      have hQ := hG2.trans hN
      obtain ⟨z0, z1, z2⟩ := (hU2.q hN).cells
      go_simp
      exact hK.out (.agg #[.bool sU, .slice AU1 kU1 cU1, .slice AU2 kU2 cU2]) _ _ (by kernel_rfl) (nU2.q hN) (Q.refl _)
    refine Ja.Steps.cons (Each.yes hctx (by rfl) (by kernel_rfl) ?_) ?_
    · intro vals W hM hd K hK
      have hN : Q w2 W := (Q.refl _).drew.trans hM
      have hQ := hG2.trans hN
      obtain ⟨z0, z1, z2⟩ := (hZ2.q hN).cells
      go_simp
      exact hK.out (.agg #[.bool sZ, .slice AZ1 kZ1 cZ1, .slice AZ2 kZ2 cZ2]) _ _ (by kernel_rfl) (nZ2.q hN) (Q.refl _)
    refine Ja.Steps.cons (Each.yes hctx (by rfl) (by kernel_rfl) ?_) ?_
    · intro vals W hM hd K hK
      have hN : Q w2 W := (Q.refl _).drew.trans hM
      have hQ := hG2.trans hN
      have d15 : Nq W (vals 15) ((p) + (q)) := hd 15 (by kernel_rfl)
      have d16 : Nq W (vals 16) (r) := hd 16 (by kernel_rfl)
      go_simp
      (with_reducible refine (q_Add _ _ ((p) + (q)) (r) W (hT.q hQ) d15 d16 B15.out).mono ?_)
      rintro e W9 ⟨r, rfl, hr, hq9⟩
      exact hK.out r W9 _ (by kernel_rfl) hr hq9
    refine Ja.Steps.cons (Each.yes hctx (by rfl) (by kernel_rfl) ?_) ?_
    · intro vals W hM hd K hK
      have hN : Q w2 W := (Q.refl _).drew.trans hM
      have hQ := hG2.trans hN
      obtain ⟨z0, z1, z2⟩ := (hX2.q hN).cells
      go_simp
      exact hK.out (.agg #[.bool sX, .slice AX1 kX1 cX1, .slice AX2 kX2 cX2]) _ _ (by kernel_rfl) (nX2.q hN) (Q.refl _)
    refine Ja.Steps.cons (Each.yes hctx (by rfl) (by kernel_rfl) ?_) ?_
    · intro vals W hM hd K hK
      have hN : Q w2 W := (Q.refl _).drew.trans hM
      have hQ := hG2.trans hN
      obtain ⟨z0, z1, z2⟩ := (hY2.q hN).cells
      go_simp
      exact hK.out (.agg #[.bool sY, .slice AY1 kY1 cY1, .slice AY2 kY2 cY2]) _ _ (by kernel_rfl) (nY2.q hN) (Q.refl _)
    refine Ja.Steps.cons (Each.yes hctx (by rfl) (by kernel_rfl) ?_) ?_
    · intro vals W hM hd K hK
      have hN : Q w2 W := (Q.refl _).drew.trans hM
      have hQ := hG2.trans hN
      obtain ⟨z0, z1, z2⟩ := (hZ2.q hN).cells
      go_simp
      exact hK.out (.agg #[.bool sZ, .slice AZ1 kZ1 cZ1, .slice AZ2 kZ2 cZ2]) _ _ (by kernel_rfl) (nZ2.q hN) (Q.refl _)
    refine Ja.Steps.cons (Each.yes hctx (by rfl) (by kernel_rfl) ?_) ?_
    · intro vals W hM hd K hK
      have hN : Q w2 W := (Q.refl _).drew.trans hM
      have hQ := hG2.trans hN
      have d19 : Nq W (vals 19) (q) := hd 19 (by kernel_rfl)
      have d20 : Nq W (vals 20) (r) := hd 20 (by kernel_rfl)
      go_simp
      (with_reducible refine (q_Add _ _ (q) (r) W (hT.q hQ) d19 d20 B17.out).mono ?_)
      rintro e W9 ⟨r, rfl, hr, hq9⟩
      exact hK.out r W9 _ (by kernel_rfl) hr hq9
    refine Ja.Steps.cons (Each.yes hctx (by rfl) (by kernel_rfl) ?_) ?_
    · intro vals W hM hd K hK
      have hN : Q w2 W := (Q.refl _).drew.trans hM
      have hQ := hG2.trans hN
      have d18 : Nq W (vals 18) (p) := hd 18 (by kernel_rfl)
      have d21 : Nq W (vals 21) ((q) + (r)) := hd 21 (by kernel_rfl)
      go_simp
      (with_reducible refine (q_Add _ _ (p) ((q) + (r)) W (hT.q hQ) d18 d21 B19.out).mono ?_)
      rintro e W9 ⟨r, rfl, hr, hq9⟩
      exact hK.out r W9 _ (by kernel_rfl) hr hq9
    refine Ja.Steps.cons (Each.yes hctx (by rfl) (by kernel_rfl) ?_) ?_
    · intro vals W hM hd K hK
      have hN : Q w2 W := (Q.refl _).drew.trans hM
      have hQ := hG2.trans hN
      have d17 : Nq W (vals 17) (((p) + (q)) + (r)) := hd 17 (by kernel_rfl)
      have d22 : Nq W (vals 22) ((p) + ((q) + (r))) := hd 22 (by kernel_rfl)
      go_simp
      (with_reducible refine (q_equal _ _ (((p) + (q)) + (r)) W (hT.q hQ) (hPx.q hQ) d17 (by rw [show (((p) + (q)) + (r) : Rat) = (p) + ((q) + (r)) from Rat.add_assoc p q r]; exact d22) B20.out).mono ?_)
      rintro e W9 ⟨rfl, hq9⟩
      exact hK.out (.bool true) W9 _ (by kernel_rfl) rfl hq9
    refine Ja.Steps.cons (Each.yes hctx (by rfl) (by kernel_rfl) ?_) ?_
    · intro vals W hM hd K hK
      have hN : Q w2 W := (Q.refl _).drew.trans hM
      have hQ := hG2.trans hN
      have d23 : vals 23 = .bool true := hd 23 (by kernel_rfl)
      generalize vals 23 = u23 at d23 hK ⊢
      subst d23
      go_simp
      exact hK.out (.bool false) _ _ (by kernel_rfl) rfl (Q.refl _)
    refine Ja.Steps.cons (Each.yes hctx (by rfl) (by kernel_rfl) ?_) ?_
    · intro vals W hM hd K hK
      have hN : Q w2 W := (Q.refl _).drew.trans hM
      have hQ := hG2.trans hN
      have d14 : vals 14 = .bool false := hd 14 (by kernel_rfl)
      generalize vals 14 = u14 at d14 hK ⊢
      subst d14
      have d24 : vals 24 = .bool false := hd 24 (by kernel_rfl)
      generalize vals 24 = u24 at d24 hK ⊢
      subst d24
      go_simp
      exact hK.out (.bool false) _ _ (by kernel_rfl) rfl (Q.refl _)
    refine Ja.Steps.cons (Each.yes hctx (by rfl) (by kernel_rfl) ?_) ?_
    · intro vals W hM hd K hK
      have hN : Q w2 W := (Q.refl _).drew.trans hM
      have hQ := hG2.trans hN
      have d25 : vals 25 = .bool false := hd 25 (by kernel_rfl)
      generalize vals 25 = u25 at d25 hK ⊢
      subst d25
      go_simp
      exact hK.out (.bool false) _ _ (by kernel_rfl) rfl (Q.refl _)
    refine Ja.Steps.cons (Each.yes hctx (by rfl) (by kernel_rfl) ?_) ?_
    · intro vals W hM hd K hK
      have hN : Q w2 W := (Q.refl _).drew.trans hM
      have hQ := hG2.trans hN
      obtain ⟨z0, z1, z2⟩ := (hV2.q hN).cells
      go_simp
      exact hK.out (.agg #[.bool sV, .slice AV1 kV1 cV1, .slice AV2 kV2 cV2]) _ _ (by kernel_rfl) (nV2.q hN) (Q.refl _)
    refine Ja.Steps.cons (Each.yes hctx (by rfl) (by kernel_rfl) ?_) ?_
    · intro vals W hM hd K hK
      have hN : Q w2 W := (Q.refl _).drew.trans hM
      have hQ := hG2.trans hN
      obtain ⟨z0, z1, z2⟩ := (hZ2.q hN).cells
      go_simp
      exact hK.out (.agg #[.bool sZ, .slice AZ1 kZ1 cZ1, .slice AZ2 kZ2 cZ2]) _ _ (by kernel_rfl) (nZ2.q hN) (Q.refl _)
    refine Ja.Steps.cons (Each.yes hctx (by rfl) (by kernel_rfl) ?_) ?_
    · intro vals W hM hd K hK
      have hN : Q w2 W := (Q.refl _).drew.trans hM
      have hQ := hG2.trans hN
      have d27 : Nq W (vals 27) ((p) * (q)) := hd 27 (by kernel_rfl)
      have d28 : Nq W (vals 28) (r) := hd 28 (by kernel_rfl)
      go_simp
      (with_reducible refine (q_Mul _ _ ((p) * (q)) (r) W (hT.q hQ) d27 d28 B22.out).mono ?_)
      rintro e W9 ⟨r, rfl, hr, hq9⟩
      exact hK.out r W9 _ (by kernel_rfl) hr hq9
    refine Ja.Steps.cons (Each.yes hctx (by rfl) (by kernel_rfl) ?_) ?_
    · intro vals W hM hd K hK
      have hN : Q w2 W := (Q.refl _).drew.trans hM
      have hQ := hG2.trans hN
      obtain ⟨z0, z1, z2⟩ := (hX2.q hN).cells
      go_simp
      exact hK.out (.agg #[.bool sX, .slice AX1 kX1 cX1, .slice AX2 kX2 cX2]) _ _ (by kernel_rfl) (nX2.q hN) (Q.refl _)
    refine Ja.Steps.cons (Each.yes hctx (by rfl) (by kernel_rfl) ?_) ?_
    · intro vals W hM hd K hK
      have hN : Q w2 W := (Q.refl _).drew.trans hM
      have hQ := hG2.trans hN
      obtain ⟨z0, z1, z2⟩ := (hY2.q hN).cells
      go_simp
      exact hK.out (.agg #[.bool sY, .slice AY1 kY1 cY1, .slice AY2 kY2 cY2]) _ _ (by kernel_rfl) (nY2.q hN) (Q.refl _)
    refine Ja.Steps.cons (Each.yes hctx (by rfl) (by kernel_rfl) ?_) ?_
    · intro vals W hM hd K hK
      have hN : Q w2 W := (Q.refl _).drew.trans hM
      have hQ := hG2.trans hN
      obtain ⟨z0, z1, z2⟩ := (hZ2.q hN).cells
      go_simp
      exact hK.out (.agg #[.bool sZ, .slice AZ1 kZ1 cZ1, .slice AZ2 kZ2 cZ2]) _ _ (by kernel_rfl) (nZ2.q hN) (Q.refl _)
    refine Ja.Steps.cons (Each.yes hctx (by rfl) (by kernel_rfl) ?_) ?_
    · intro vals W hM hd K hK
      have hN : Q w2 W := (Q.refl _).drew.trans hM
      have hQ := hG2.trans hN
      have d31 : Nq W (vals 31) (q) := hd 31 (by kernel_rfl)
      have d32 : Nq W (vals 32) (r) := hd 32 (by kernel_rfl)
      go_simp
      (with_reducible refine (q_Mul _ _ (q) (r) W (hT.q hQ) d31 d32 B24.out).mono ?_)
      rintro e W9 ⟨r, rfl, hr, hq9⟩
      exact hK.out r W9 _ (by kernel_rfl) hr hq9
    refine Ja.Steps.cons (Each.yes hctx (by rfl) (by kernel_rfl) ?_) ?_
    · intro vals W hM hd K hK
      have hN : Q w2 W := (Q.refl _).drew.trans hM
      have hQ := hG2.trans hN
      have d30 : Nq W (vals 30) (p) := hd 30 (by kernel_rfl)
      have d33 : Nq W (vals 33) ((q) * (r)) := hd 33 (by kernel_rfl)
      go_simp
      (with_reducible refine (q_Mul _ _ (p) ((q) * (r)) W (hT.q hQ) d30 d33 B26.out).mono ?_)
      rintro e W9 ⟨r, rfl, hr, hq9⟩
      exact hK.out r W9 _ (by kernel_rfl) hr hq9
    refine Ja.Steps.cons (Each.yes hctx (by rfl) (by kernel_rfl) ?_) ?_
    · intro vals W hM hd K hK
      have hN : Q w2 W := (Q.refl _).drew.trans hM
      have hQ := hG2.trans hN
      have d29 : Nq W (vals 29) (((p) * (q)) * (r)) := hd 29 (by kernel_rfl)
      have d34 : Nq W (vals 34) ((p) * ((q) * (r))) := hd 34 (by kernel_rfl)
      go_simp
      (with_reducible refine (q_equal _ _ (((p) * (q)) * (r)) W (hT.q hQ) (hPx.q hQ) d29 (by rw [show (((p) * (q)) * (r) : Rat) = (p) * ((q) * (r)) from Rat.mul_assoc p q r]; exact d34) B27.out).mono ?_)
      rintro e W9 ⟨rfl, hq9⟩
      exact hK.out (.bool true) W9 _ (by kernel_rfl) rfl hq9
    refine Ja.Steps.cons (Each.yes hctx (by rfl) (by kernel_rfl) ?_) ?_
    · intro vals W hM hd K hK
      have hN : Q w2 W := (Q.refl _).drew.trans hM
      have hQ := hG2.trans hN
      have d35 : vals 35 = .bool true := hd 35 (by kernel_rfl)
      generalize vals 35 = u35 at d35 hK ⊢
      subst d35
      go_simp
      exact hK.out (.bool false) _ _ (by kernel_rfl) rfl (Q.refl _)
    refine Ja.Steps.cons (Each.yes hctx (by rfl) (by kernel_rfl) ?_) ?_
    · intro vals W hM hd K hK
      have hN : Q w2 W := (Q.refl _).drew.trans hM
      have hQ := hG2.trans hN
      have d26 : vals 26 = .bool false := hd 26 (by kernel_rfl)
      generalize vals 26 = u26 at d26 hK ⊢
      subst d26
      have d36 : vals 36 = .bool false := hd 36 (by kernel_rfl)
      generalize vals 36 = u36 at d36 hK ⊢
      subst d36
      go_simp
      exact hK.out (.bool false) _ _ (by kernel_rfl) rfl (Q.refl _)
    exact Ja.Steps.nil
  intro vals w3 hq3 hall
  have hG3 := hG2.trans hq3
  have hX3 := hX2.q hq3
  have nX3 := nX2.q hq3
  have hY3 := hY2.q hq3
  have nY3 := nY2.q hq3
  have hZ3 := hZ2.q hq3
  have nZ3 := nZ2.q hq3
  have hU3 := hU2.q hq3
  have nU3 := nU2.q hq3
  have hV3 := hV2.q hq3
  have nV3 := nV2.q hq3
  have f70 : vals 37 = .bool false := hall 37 (by decide)
  rw [f70]
  clear hall hq3 hG2 hX2 hY2 hZ2 hU2 hV2 nX2 nY2 nZ2 nU2 nV2
  go_upto_region 7 with fail
  have Z28 : Hid (sz (((p) + (q)) * (r)) ≤ 10001) := Lib.hid (by have h9 := sz_mul ((p) + (q)) (r); have h0 := Z4.out; have h1 := Z3.out; omega)
  have B29 : Hid (16 * (sz ((p) + (q)) + sz (r)) + 100 ≤ LIM) := Lib.hid (by have h0 := Z4.out; have h1 := Z3.out; rw [LIM_eq]; omega)
  have Z30 : Hid (sz ((p) * (r)) ≤ 4000) := Lib.hid (by have h9 := sz_mul (p) (r); have h0 := Z1.out; have h1 := Z3.out; omega)
  have B31 : Hid (16 * (sz (p) + sz (r)) + 100 ≤ LIM) := Lib.hid (by have h0 := Z1.out; have h1 := Z3.out; rw [LIM_eq]; omega)
  have B32 : Hid (16 * (sz (q) + sz (r)) + 100 ≤ LIM) := Lib.hid (by have h0 := Z2.out; have h1 := Z3.out; rw [LIM_eq]; omega)
  have Z33 : Hid (sz (((p) * (r)) + ((q) * (r))) ≤ 16001) := Lib.hid (by have h9 := sz_add ((p) * (r)) ((q) * (r)); have h0 := Z30.out; have h1 := Z23.out; omega)
  have B34 : Hid (64 * (sz ((p) * (r)) + sz ((q) * (r))) + 400 ≤ LIM) := Lib.hid (by have h0 := Z30.out; have h1 := Z23.out; rw [LIM_eq]; omega)
  have B35 : Hid (2000 * (sz (((p) + (q)) * (r))) + 500000 ≤ LIM) := Lib.hid (by have h0 := Z28.out; rw [LIM_eq]; omega)
  have Z36 : Hid (sz (((p) + (q)) - (q)) ≤ 20003) := Lib.hid (by have h9 := sz_sub ((p) + (q)) (q); have h0 := Z4.out; have h1 := Z2.out; omega)
  have B37 : Hid (64 * (sz ((p) + (q)) + sz (q)) + 400 ≤ LIM) := Lib.hid (by have h0 := Z4.out; have h1 := Z2.out; rw [LIM_eq]; omega)
  have B38 : Hid (2000 * (sz (((p) + (q)) - (q))) + 500000 ≤ LIM) := Lib.hid (by have h0 := Z36.out; rw [LIM_eq]; omega)
  have Z39 : Hid (sz (-(p)) ≤ 2000) := Lib.hid (by have h9 := sz_neg (p); have h0 := Z1.out; omega)
  have B40 : Hid (sz (p) ≤ LIM) := Lib.hid (by have h0 := Z1.out; rw [LIM_eq]; omega)
  have Z41 : Hid (sz ((p) + (-(p))) ≤ 8001) := Lib.hid (by have h9 := sz_add (p) (-(p)); have h0 := Z1.out; have h1 := Z39.out; omega)
  have B42 : Hid (64 * (sz (p) + sz (-(p))) + 400 ≤ LIM) := Lib.hid (by have h0 := Z1.out; have h1 := Z39.out; rw [LIM_eq]; omega)
  refine region_each (F := ?F7) ([.num ((p) + (q)), .num (r), .num (((p) + (q)) * (r)), .num (p), .num (r), .num ((p) * (r)), .num (q), .num (r), .num ((q) * (r)), .num (((p) * (r)) + ((q) * (r))), .eq (.bool true), .eq (.bool false), .eq (.bool false), .num ((p) + (q)), .num (q), .num (((p) + (q)) - (q)), .num (p), .eq (.bool true), .eq (.bool false), .eq (.bool false), .eq (.bool false), .num (p), .num (p), .num (-(p)), .num ((p) + (-(p))), .eq (.int .i64 (0)), .eq (.bool false), .eq (.bool false)] : List Vs) (by kernel_rfl) (by kernel_rfl) ?hF7 ?st7 ?en7
  case hF7 =>
    intro vals
    simp only [Ja.fillL, Act.put, List.setIfInBounds_toArray, List.set_cons_zero, List.set_cons_succ, Nat.reduceAdd]
    exact rfl
  case st7 =>
    intro hctx
    refine Ja.Steps.cons (Each.yes hctx (by rfl) (by kernel_rfl) ?_) ?_
    · intro vals W hM hd K hK
      have hN : Q w3 W := (Q.refl _).drew.trans hM
      have hQ := hG3.trans hN
      obtain ⟨z0, z1, z2⟩ := (hU3.q hN).cells
      go_simp
      exact hK.out (.agg #[.bool sU, .slice AU1 kU1 cU1, .slice AU2 kU2 cU2]) _ _ (by kernel_rfl) (nU3.q hN) (Q.refl _)
    refine Ja.Steps.cons (Each.yes hctx (by rfl) (by kernel_rfl) ?_) ?_
    · intro vals W hM hd K hK
      have hN : Q w3 W := (Q.refl _).drew.trans hM
      have hQ := hG3.trans hN
      obtain ⟨z0, z1, z2⟩ := (hZ3.q hN).cells
      go_simp
      exact hK.out (.agg #[.bool sZ, .slice AZ1 kZ1 cZ1, .slice AZ2 kZ2 cZ2]) _ _ (by kernel_rfl) (nZ3.q hN) (Q.refl _)
    refine Ja.Steps.cons (Each.yes hctx (by rfl) (by kernel_rfl) ?_) ?_
    · intro vals W hM hd K hK
      have hN : Q w3 W := (Q.refl _).drew.trans hM
      have hQ := hG3.trans hN
      have d0 : Nq W (vals 0) ((p) + (q)) := hd 0 (by kernel_rfl)
      have d1 : Nq W (vals 1) (r) := hd 1 (by kernel_rfl)
      go_simp
      (with_reducible refine (q_Mul _ _ ((p) + (q)) (r) W (hT.q hQ) d0 d1 B29.out).mono ?_)
      rintro e W9 ⟨r, rfl, hr, hq9⟩
      exact hK.out r W9 _ (by kernel_rfl) hr hq9
    refine Ja.Steps.cons (Each.yes hctx (by rfl) (by kernel_rfl) ?_) ?_
    · intro vals W hM hd K hK
      have hN : Q w3 W := (Q.refl _).drew.trans hM
      have hQ := hG3.trans hN
      obtain ⟨z0, z1, z2⟩ := (hX3.q hN).cells
      go_simp
      exact hK.out (.agg #[.bool sX, .slice AX1 kX1 cX1, .slice AX2 kX2 cX2]) _ _ (by kernel_rfl) (nX3.q hN) (Q.refl _)
    refine Ja.Steps.cons (Each.yes hctx (by rfl) (by kernel_rfl) ?_) ?_
    · intro vals W hM hd K hK
      have hN : Q w3 W := (Q.refl _).drew.trans hM
      have hQ := hG3.trans hN
      obtain ⟨z0, z1, z2⟩ := (hZ3.q hN).cells
      go_simp
      exact hK.out (.agg #[.bool sZ, .slice AZ1 kZ1 cZ1, .slice AZ2 kZ2 cZ2]) _ _ (by kernel_rfl) (nZ3.q hN) (Q.refl _)
    refine Ja.Steps.cons (Each.yes hctx (by rfl) (by kernel_rfl) ?_) ?_
    · intro vals W hM hd K hK
      have hN : Q w3 W := (Q.refl _).drew.trans hM
      have hQ := hG3.trans hN
      have d3 : Nq W (vals 3) (p) := hd 3 (by kernel_rfl)
      have d4 : Nq W (vals 4) (r) := hd 4 (by kernel_rfl)
      go_simp
      (with_reducible refine (q_Mul _ _ (p) (r) W (hT.q hQ) d3 d4 B31.out).mono ?_)
      rintro e W9 ⟨r, rfl, hr, hq9⟩
      exact hK.out r W9 _ (by kernel_rfl) hr hq9
    refine Ja.Steps.cons (Each.yes hctx (by rfl) (by kernel_rfl) ?_) ?_
    · intro vals W hM hd K hK
      have hN : Q w3 W := (Q.refl _).drew.trans hM
      have hQ := hG3.trans hN
      obtain ⟨z0, z1, z2⟩ := (hY3.q hN).cells
      go_simp
      exact hK.out (.agg #[.bool sY, .slice AY1 kY1 cY1, .slice AY2 kY2 cY2]) _ _ (by kernel_rfl) (nY3.q hN) (Q.refl _)
    refine Ja.Steps.cons (Each.yes hctx (by rfl) (by kernel_rfl) ?_) ?_
    · intro vals W hM hd K hK
      have hN : Q w3 W := (Q.refl _).drew.trans hM
      have hQ := hG3.trans hN
      obtain ⟨z0, z1, z2⟩ := (hZ3.q hN).cells
      go_simp
      exact hK.out (.agg #[.bool sZ, .slice AZ1 kZ1 cZ1, .slice AZ2 kZ2 cZ2]) _ _ (by kernel_rfl) (nZ3.q hN) (Q.refl _)
    refine Ja.Steps.cons (Each.yes hctx (by rfl) (by kernel_rfl) ?_) ?_
    · intro vals W hM hd K hK
      have hN : Q w3 W := (Q.refl _).drew.trans hM
      have hQ := hG3.trans hN
      have d6 : Nq W (vals 6) (q) := hd 6 (by kernel_rfl)
      have d7 : Nq W (vals 7) (r) := hd 7 (by kernel_rfl)
      go_simp
      (with_reducible refine (q_Mul _ _ (q) (r) W (hT.q hQ) d6 d7 B32.out).mono ?_)
      rintro e W9 ⟨r, rfl, hr, hq9⟩
      exact hK.out r W9 _ (by kernel_rfl) hr hq9
    refine Ja.Steps.cons (Each.yes hctx (by rfl) (by kernel_rfl) ?_) ?_
    · intro vals W hM hd K hK
      have hN : Q w3 W := (Q.refl _).drew.trans hM
      have hQ := hG3.trans hN
      have d5 : Nq W (vals 5) ((p) * (r)) := hd 5 (by kernel_rfl)
      have d8 : Nq W (vals 8) ((q) * (r)) := hd 8 (by kernel_rfl)
      go_simp
      (with_reducible refine (q_Add _ _ ((p) * (r)) ((q) * (r)) W (hT.q hQ) d5 d8 B34.out).mono ?_)
      rintro e W9 ⟨r, rfl, hr, hq9⟩
      exact hK.out r W9 _ (by kernel_rfl) hr hq9
    refine Ja.Steps.cons (Each.yes hctx (by rfl) (by kernel_rfl) ?_) ?_
    · intro vals W hM hd K hK
      have hN : Q w3 W := (Q.refl _).drew.trans hM
      have hQ := hG3.trans hN
      have d2 : Nq W (vals 2) (((p) + (q)) * (r)) := hd 2 (by kernel_rfl)
      have d9 : Nq W (vals 9) (((p) * (r)) + ((q) * (r))) := hd 9 (by kernel_rfl)
      go_simp
      (with_reducible refine (q_equal _ _ (((p) + (q)) * (r)) W (hT.q hQ) (hPx.q hQ) d2 (by rw [show (((p) + (q)) * (r) : Rat) = ((p) * (r)) + ((q) * (r)) from Rat.add_mul p q r]; exact d9) B35.out).mono ?_)
      rintro e W9 ⟨rfl, hq9⟩
      exact hK.out (.bool true) W9 _ (by kernel_rfl) rfl hq9
    refine Ja.Steps.cons (Each.yes hctx (by rfl) (by kernel_rfl) ?_) ?_
    · intro vals W hM hd K hK
      have hN : Q w3 W := (Q.refl _).drew.trans hM
      have hQ := hG3.trans hN
      have d10 : vals 10 = .bool true := hd 10 (by kernel_rfl)
      generalize vals 10 = u10 at d10 hK ⊢
      subst d10
      go_simp
      exact hK.out (.bool false) _ _ (by kernel_rfl) rfl (Q.refl _)
    refine Ja.Steps.cons (Each.yes hctx (by rfl) (by kernel_rfl) ?_) ?_
    · intro vals W hM hd K hK
      have hN : Q w3 W := (Q.refl _).drew.trans hM
      have hQ := hG3.trans hN
      have d11 : vals 11 = .bool false := hd 11 (by kernel_rfl)
      generalize vals 11 = u11 at d11 hK ⊢
      subst d11
      go_simp
      exact hK.out (.bool false) _ _ (by kernel_rfl) rfl (Q.refl _)
    refine Ja.Steps.cons (Each.yes hctx (by rfl) (by kernel_rfl) ?_) ?_
    · intro vals W hM hd K hK
      have hN : Q w3 W := (Q.refl _).drew.trans hM
      have hQ := hG3.trans hN
      obtain ⟨z0, z1, z2⟩ := (hU3.q hN).cells
      go_simp
      exact hK.out (.agg #[.bool sU, .slice AU1 kU1 cU1, .slice AU2 kU2 cU2]) _ _ (by kernel_rfl) (nU3.q hN) (Q.refl _)
    refine Ja.Steps.cons (Each.yes hctx (by rfl) (by kernel_rfl) ?_) ?_
    · intro vals W hM hd K hK
      have hN : Q w3 W := (Q.refl _).drew.trans hM
      have hQ := hG3.trans hN
      obtain ⟨z0, z1, z2⟩ := (hY3.q hN).cells
      go_simp
      exact hK.out (.agg #[.bool sY, .slice AY1 kY1 cY1, .slice AY2 kY2 cY2]) _ _ (by kernel_rfl) (nY3.q hN) (Q.refl _)
    refine Ja.Steps.cons (Each.yes hctx (by rfl) (by kernel_rfl) ?_) ?_
    · intro vals W hM hd K hK
      have hN : Q w3 W := (Q.refl _).drew.trans hM
      have hQ := hG3.trans hN
      have d13 : Nq W (vals 13) ((p) + (q)) := hd 13 (by kernel_rfl)
      have d14 : Nq W (vals 14) (q) := hd 14 (by kernel_rfl)
      go_simp
      (with_reducible refine (q_Sub _ _ ((p) + (q)) (q) W (hT.q hQ) d13 d14 B37.out).mono ?_)
      rintro e W9 ⟨r, rfl, hr, hq9⟩
      exact hK.out r W9 _ (by kernel_rfl) hr hq9
    refine Ja.Steps.cons (Each.yes hctx (by rfl) (by kernel_rfl) ?_) ?_
    · intro vals W hM hd K hK
      have hN : Q w3 W := (Q.refl _).drew.trans hM
      have hQ := hG3.trans hN
      obtain ⟨z0, z1, z2⟩ := (hX3.q hN).cells
      go_simp
      exact hK.out (.agg #[.bool sX, .slice AX1 kX1 cX1, .slice AX2 kX2 cX2]) _ _ (by kernel_rfl) (nX3.q hN) (Q.refl _)
    refine Ja.Steps.cons (Each.yes hctx (by rfl) (by kernel_rfl) ?_) ?_
    · intro vals W hM hd K hK
      have hN : Q w3 W := (Q.refl _).drew.trans hM
      have hQ := hG3.trans hN
      have d15 : Nq W (vals 15) (((p) + (q)) - (q)) := hd 15 (by kernel_rfl)
      have d16 : Nq W (vals 16) (p) := hd 16 (by kernel_rfl)
      go_simp
      (with_reducible refine (q_equal _ _ (((p) + (q)) - (q)) W (hT.q hQ) (hPx.q hQ) d15 (by rw [show (((p) + (q)) - (q) : Rat) = p from by grind]; exact d16) B38.out).mono ?_)
      rintro e W9 ⟨rfl, hq9⟩
      exact hK.out (.bool true) W9 _ (by kernel_rfl) rfl hq9
    refine Ja.Steps.cons (Each.yes hctx (by rfl) (by kernel_rfl) ?_) ?_
    · intro vals W hM hd K hK
      have hN : Q w3 W := (Q.refl _).drew.trans hM
      have hQ := hG3.trans hN
      have d17 : vals 17 = .bool true := hd 17 (by kernel_rfl)
      generalize vals 17 = u17 at d17 hK ⊢
      subst d17
      go_simp
      exact hK.out (.bool false) _ _ (by kernel_rfl) rfl (Q.refl _)
    refine Ja.Steps.cons (Each.yes hctx (by rfl) (by kernel_rfl) ?_) ?_
    · intro vals W hM hd K hK
      have hN : Q w3 W := (Q.refl _).drew.trans hM
      have hQ := hG3.trans hN
      have d12 : vals 12 = .bool false := hd 12 (by kernel_rfl)
      generalize vals 12 = u12 at d12 hK ⊢
      subst d12
      have d18 : vals 18 = .bool false := hd 18 (by kernel_rfl)
      generalize vals 18 = u18 at d18 hK ⊢
      subst d18
      go_simp
      exact hK.out (.bool false) _ _ (by kernel_rfl) rfl (Q.refl _)
    refine Ja.Steps.cons (Each.yes hctx (by rfl) (by kernel_rfl) ?_) ?_
    · intro vals W hM hd K hK
      have hN : Q w3 W := (Q.refl _).drew.trans hM
      have hQ := hG3.trans hN
      have d19 : vals 19 = .bool false := hd 19 (by kernel_rfl)
      generalize vals 19 = u19 at d19 hK ⊢
      subst d19
      go_simp
      exact hK.out (.bool false) _ _ (by kernel_rfl) rfl (Q.refl _)
    refine Ja.Steps.cons (Each.yes hctx (by rfl) (by kernel_rfl) ?_) ?_
    · intro vals W hM hd K hK
      have hN : Q w3 W := (Q.refl _).drew.trans hM
      have hQ := hG3.trans hN
      obtain ⟨z0, z1, z2⟩ := (hX3.q hN).cells
      go_simp
      exact hK.out (.agg #[.bool sX, .slice AX1 kX1 cX1, .slice AX2 kX2 cX2]) _ _ (by kernel_rfl) (nX3.q hN) (Q.refl _)
    refine Ja.Steps.cons (Each.yes hctx (by rfl) (by kernel_rfl) ?_) ?_
    · intro vals W hM hd K hK
      have hN : Q w3 W := (Q.refl _).drew.trans hM
      have hQ := hG3.trans hN
      obtain ⟨z0, z1, z2⟩ := (hX3.q hN).cells
      go_simp
      exact hK.out (.agg #[.bool sX, .slice AX1 kX1 cX1, .slice AX2 kX2 cX2]) _ _ (by kernel_rfl) (nX3.q hN) (Q.refl _)
    refine Ja.Steps.cons (Each.yes hctx (by rfl) (by kernel_rfl) ?_) ?_
    · intro vals W hM hd K hK
      have hN : Q w3 W := (Q.refl _).drew.trans hM
      have hQ := hG3.trans hN
      have d22 : Nq W (vals 22) (p) := hd 22 (by kernel_rfl)
      go_simp
      (with_reducible refine (q_Neg _ (p) W d22 B40.out).mono ?_)
      rintro e W9 ⟨r, rfl, hr, hq9⟩
      exact hK.out r W9 _ (by kernel_rfl) hr hq9
    refine Ja.Steps.cons (Each.yes hctx (by rfl) (by kernel_rfl) ?_) ?_
    · intro vals W hM hd K hK
      have hN : Q w3 W := (Q.refl _).drew.trans hM
      have hQ := hG3.trans hN
      have d21 : Nq W (vals 21) (p) := hd 21 (by kernel_rfl)
      have d23 : Nq W (vals 23) (-(p)) := hd 23 (by kernel_rfl)
      go_simp
      (with_reducible refine (q_Add _ _ (p) (-(p)) W (hT.q hQ) d21 d23 B42.out).mono ?_)
      rintro e W9 ⟨r, rfl, hr, hq9⟩
      exact hK.out r W9 _ (by kernel_rfl) hr hq9
    refine Ja.Steps.cons (Each.yes hctx (by rfl) (by kernel_rfl) ?_) ?_
    · intro vals W hM hd K hK
      have hN : Q w3 W := (Q.refl _).drew.trans hM
      have hQ := hG3.trans hN
      have d24 : Nq W (vals 24) ((p) + (-(p))) := hd 24 (by kernel_rfl)
      go_simp
      (with_reducible refine (q_Sign _ ((p) + (-(p))) W d24).mono ?_)
      rintro e W9 ⟨rfl, hq9⟩
      exact hK.out (.int .i64 (sn ((p) + (-(p))))) W9 _ (by kernel_rfl) (congrArg (Value.int .i64) ((show sn (p + -p) = 0 by rw [Rat.add_neg_cancel]; decide +kernel))) hq9
    refine Ja.Steps.cons (Each.yes hctx (by rfl) (by kernel_rfl) ?_) ?_
    · intro vals W hM hd K hK
      have hN : Q w3 W := (Q.refl _).drew.trans hM
      have hQ := hG3.trans hN
      have d25 : vals 25 = .int .i64 (0) := hd 25 (by kernel_rfl)
      generalize vals 25 = u25 at d25 hK ⊢
      subst d25
      go_simp
      exact hK.out (.bool false) _ _ (by kernel_rfl) rfl (Q.refl _)
    refine Ja.Steps.cons (Each.yes hctx (by rfl) (by kernel_rfl) ?_) ?_
    · intro vals W hM hd K hK
      have hN : Q w3 W := (Q.refl _).drew.trans hM
      have hQ := hG3.trans hN
      have d20 : vals 20 = .bool false := hd 20 (by kernel_rfl)
      generalize vals 20 = u20 at d20 hK ⊢
      subst d20
      have d26 : vals 26 = .bool false := hd 26 (by kernel_rfl)
      generalize vals 26 = u26 at d26 hK ⊢
      subst d26
      go_simp
      exact hK.out (.bool false) _ _ (by kernel_rfl) rfl (Q.refl _)
    exact Ja.Steps.nil
  intro vals w4 hq4 hall
  have hG4 := hG3.trans hq4
  have hX4 := hX3.q hq4
  have nX4 := nX3.q hq4
  have hY4 := hY3.q hq4
  have nY4 := nY3.q hq4
  have hZ4 := hZ3.q hq4
  have nZ4 := nZ3.q hq4
  have hU4 := hU3.q hq4
  have nU4 := nU3.q hq4
  have hV4 := hV3.q hq4
  have nV4 := nV3.q hq4
  have f98 : vals 27 = .bool false := hall 27 (by decide)
  rw [f98]
  clear hall hq4 hG3 hX3 hY3 hZ3 hU3 hV3 nX3 nY3 nZ3 nU3 nV3
  go_upto_region 9 with fail
  obtain ⟨er, her⟩ : ∃ x, (divR (p * q) q).1 = x := ⟨_, rfl⟩
  obtain ⟨dv, hdv⟩ : ∃ x, (divR (p * q) q).2 = x := ⟨_, rfl⟩
  obtain ⟨sg, hsg⟩ : ∃ x, sn q = x := ⟨_, rfl⟩
  have zdv : sz dv ≤ 10000 := by rw [← hdv]; exact sz_divR _ _ (by have := sz_mul p q; have h1 := Z1.out; have h2 := Z2.out; omega)
  have ZD := Lib.hid zdv; clear zdv
  have HER := Lib.hid her; clear her
  have HDV := Lib.hid hdv; clear hdv
  have HSG := Lib.hid hsg; clear hsg
  have B43 : Hid (16 * (sz ((p) * (q)) + sz (q)) + 200 ≤ LIM) := Lib.hid (by have h0 := Z6.out; have h1 := Z2.out; rw [LIM_eq]; omega)
  have hAt4 : At0 w [{ al := none, g := gX, big := false, row := .agg #[.bool sX, .slice AX1 kX1 cX1, .slice AX2 kX2 cX2], st := 1000, src := 0 }, { al := none, g := gY, big := false, row := .agg #[.bool sY, .slice AY1 kY1 cY1, .slice AY2 kY2 cY2], st := 1000, src := 0 }, { al := none, g := gZ, big := false, row := .agg #[.bool sZ, .slice AZ1 kZ1 cZ1, .slice AZ2 kZ2 cZ2], st := 1000, src := 0 }, { al := none, g := gU, big := false, row := .agg #[.bool sU, .slice AU1 kU1 cU1, .slice AU2 kU2 cU2], st := 1000, src := 0 }, { al := none, g := gV, big := false, row := .agg #[.bool sV, .slice AV1 kV1 cV1, .slice AV2 kV2 cV2], st := 1000, src := 0 }, { al := some 6, g := 0, big := false, row := .agg #[.bool false, .slice none 0 0, .slice none 0 0], st := 7, src := 4 }] [(.agg #[.bool sX, .slice AX1 kX1 cX1, .slice AX2 kX2 cX2], .num (p)), (.agg #[.bool sY, .slice AY1 kY1 cY1, .slice AY2 kY2 cY2], .num (q)), (.agg #[.bool sZ, .slice AZ1 kZ1 cZ1, .slice AZ2 kZ2 cZ2], .num (r)), (.agg #[.bool sU, .slice AU1 kU1 cU1, .slice AU2 kU2 cU2], .num ((p) + (q))), (.agg #[.bool sV, .slice AV1 kV1 cV1, .slice AV2 kV2 cV2], .num ((p) * (q)))] w4 := At0.of hG4 ⟨fun _ => ⟨by dsimp only; omega, NbV.of hX4⟩, fun _ => ⟨by dsimp only; omega, NbV.of hY4⟩, fun _ => ⟨by dsimp only; omega, NbV.of hZ4⟩, fun _ => ⟨by dsimp only; omega, NbV.of hU4⟩, fun _ => ⟨by dsimp only; omega, NbV.of hV4⟩, fun h => (by cases h), trivial⟩ (by (simp [Apart0] <;> omega)) ⟨nX4, nY4, nZ4, nU4, nV4, trivial⟩
  clear hG4 hX4 hY4 hZ4 hU4 hV4 nX4 nY4 nZ4 nU4 nV4
  refine text_cells (F := ?F8) w ([.num ((p) * (q)), .num (q), .pair (dv) (er), .pair (dv) (er), .num (dv), .eq (.int .i64 (er)), .any, .any, .eq (.int .i64 (er))] : List Vs) _ _ (by kernel_rfl) hAt4 ?hF8 ?st8 ?en8
  case hF8 =>
    intro vals
    simp only [Ja.fillL, Act.put, List.setIfInBounds_toArray, List.set_cons_zero, List.set_cons_succ, Nat.reduceAdd]
    exact rfl
  case st8 =>
    clear hAt4
    intro hctx
    refine Ja.Steps.cons (JC.other hctx (by kernel_rfl) (by rfl) (by kernel_rfl) (by kernel_rfl) ?_) ?_
    · intro L vals W hL hJ hd K hK
      have hQ := hJ.q
      obtain ⟨z0, z1, z2⟩ := (NbV.out (hJ.still 4 rfl rfl (Nat.le_of_ble_eq_true (by kernel_rfl)))).cells
      go_simp
      exact hK.out (.agg #[.bool sV, .slice AV1 kV1 cV1, .slice AV2 kV2 cV2]) _ _ (by kernel_rfl) (hJ.kept 4 rfl) (Q.refl _)
    refine Ja.Steps.cons (JC.other hctx (by kernel_rfl) (by rfl) (by kernel_rfl) (by kernel_rfl) ?_) ?_
    · intro L vals W hL hJ hd K hK
      have hQ := hJ.q
      obtain ⟨z0, z1, z2⟩ := (NbV.out (hJ.still 1 rfl rfl (Nat.le_of_ble_eq_true (by kernel_rfl)))).cells
      go_simp
      exact hK.out (.agg #[.bool sY, .slice AY1 kY1 cY1, .slice AY2 kY2 cY2]) _ _ (by kernel_rfl) (hJ.kept 1 rfl) (Q.refl _)
    refine Ja.Steps.cons (JC.other hctx (by kernel_rfl) (by rfl) (by kernel_rfl) (by kernel_rfl) ?_) ?_
    · intro L vals W hL hJ hd K hK
      have hQ := hJ.q
      have d0 : Nq W (vals 0) ((p) * (q)) := hd 0 (by kernel_rfl)
      have d1 : Nq W (vals 1) (q) := hd 1 (by kernel_rfl)
      go_simp
      (with_reducible refine (q_Div _ _ ((p) * (q)) (q) W (hT.q hQ) d0 d1 B43.out).mono ?_)
      rintro e W9 ⟨r, rfl, hr, hq9⟩
      exact hK.out (.tuple #[r, .int .i64 (divR ((p) * (q)) (q)).1]) W9 _ (by kernel_rfl) ⟨r, by rw [show ((divR ((p) * (q)) (q)).1 : Int) = er from HER.out], by have h7 := hr; rw [show ((divR ((p) * (q)) (q)).2 : Rat) = dv from HDV.out] at h7; exact h7⟩ hq9
    refine Ja.Steps.cons (JC.other hctx (by kernel_rfl) (by rfl) (by kernel_rfl) (by kernel_rfl) ?_) ?_
    · intro L vals W hL hJ hd K hK
      have hQ := hJ.q
      have d2 : ∃ r, vals 2 = .tuple #[r, .int .i64 (er)] ∧ Nq W r (dv) := hd 2 (by kernel_rfl)
      go_simp
      exact hK.out (vals 2) _ _ (by kernel_rfl) d2 (Q.refl _)
    refine Ja.Steps.cons (JC.other hctx (by kernel_rfl) (by rfl) (by kernel_rfl) (by kernel_rfl) ?_) ?_
    · intro L vals W hL hJ hd K hK
      have hQ := hJ.q
      have d3 : ∃ r, vals 3 = .tuple #[r, .int .i64 (er)] ∧ Nq W r (dv) := hd 3 (by kernel_rfl)
      generalize vals 3 = u3 at d3 hK ⊢
      obtain ⟨r, rfl, hr⟩ := d3
      go_simp
      exact hK.out r _ _ (by kernel_rfl) hr (Q.refl _)
    refine Ja.Steps.cons (JC.other hctx (by kernel_rfl) (by rfl) (by kernel_rfl) (by kernel_rfl) ?_) ?_
    · intro L vals W hL hJ hd K hK
      have hQ := hJ.q
      have d3 : ∃ r, vals 3 = .tuple #[r, .int .i64 (er)] ∧ Nq W r (dv) := hd 3 (by kernel_rfl)
      generalize vals 3 = u3 at d3 hK ⊢
      obtain ⟨r, rfl, hr⟩ := d3
      go_simp
      exact hK.out (.int .i64 (er)) _ _ (by kernel_rfl) rfl (Q.refl _)
    refine Ja.Steps.cons (JC.alloc (n := 5) (cells := #[.bool false, .slice none 0 0, .slice none 0 0]) (t := 25) hctx (by kernel_rfl) (by rfl) (by kernel_rfl) (by rfl) (by rfl) (by kernel_rfl) (by rfl) (fun W => NbV.of (Nb.new W _ _ _)) ?_) ?_
    · intro vals W K hK
      go_simp
      exact hK.out _ (by kernel_rfl)
    refine Ja.Steps.cons (JC.store (n := 5) hctx (by kernel_rfl) (by rfl) (by kernel_rfl) (by rfl) (by rfl) (by kernel_rfl) (by rfl) ?_) ?_
    · intro L vals W g old hJ hp ho hs K hK
      have hs9 : Nq W (vals 4) (dv) := hs
      have hp9 : vals 6 = .pointer (some ⟨g, 0, none⟩) := hp
      dsimp only at hK
      generalize vals 6 = ua at hp9 hK ⊢
      subst hp9
      generalize vals 4 = uj at hs9 hK ⊢
      obtain ⟨e1, C1, i1, j1, C2, i2, j2, rfl, -⟩ := Nq.form hs9
      obtain ⟨f1, D1, x1, y1, D2, x2, y2, ho1, hb⟩ := ho
      have fz := hb.frozen
      obtain ⟨r0, r1, r2⟩ := hb.cells
      clear hb ho1
      go_simp
      exact hK.out undef _ _ (by kernel_rfl) PutV.of
    refine Ja.Steps.cons (JC.other hctx (by kernel_rfl) (by rfl) (by kernel_rfl) (by kernel_rfl) ?_) ?_
    · intro L vals W hL hJ hd K hK
      have hQ := hJ.q
      have d5 : vals 5 = .int .i64 (er) := hd 5 (by kernel_rfl)
      generalize vals 5 = u5 at d5 hK ⊢
      subst d5
      go_simp
      exact hK.out (.int .i64 (er)) _ _ (by kernel_rfl) rfl (Q.refl _)
    exact Ja.Steps.nil
  intro L vals w5 hall hJ
  clear hAt4
  have hG5 := hJ.q
  have hX5 : Nb w5 (gX) (sX) (.slice AX1 kX1 cX1) (.slice AX2 kX2 cX2) := NbV.out (hJ.still 0 rfl rfl (Nat.le_of_ble_eq_true (by kernel_rfl)))
  have nX5 : Nq w5 (.agg #[.bool sX, .slice AX1 kX1 cX1, .slice AX2 kX2 cX2]) (p) := hJ.kept 0 rfl
  have hY5 : Nb w5 (gY) (sY) (.slice AY1 kY1 cY1) (.slice AY2 kY2 cY2) := NbV.out (hJ.still 1 rfl rfl (Nat.le_of_ble_eq_true (by kernel_rfl)))
  have nY5 : Nq w5 (.agg #[.bool sY, .slice AY1 kY1 cY1, .slice AY2 kY2 cY2]) (q) := hJ.kept 1 rfl
  have hZ5 : Nb w5 (gZ) (sZ) (.slice AZ1 kZ1 cZ1) (.slice AZ2 kZ2 cZ2) := NbV.out (hJ.still 2 rfl rfl (Nat.le_of_ble_eq_true (by kernel_rfl)))
  have nZ5 : Nq w5 (.agg #[.bool sZ, .slice AZ1 kZ1 cZ1, .slice AZ2 kZ2 cZ2]) (r) := hJ.kept 2 rfl
  have hU5 : Nb w5 (gU) (sU) (.slice AU1 kU1 cU1) (.slice AU2 kU2 cU2) := NbV.out (hJ.still 3 rfl rfl (Nat.le_of_ble_eq_true (by kernel_rfl)))
  have nU5 : Nq w5 (.agg #[.bool sU, .slice AU1 kU1 cU1, .slice AU2 kU2 cU2]) ((p) + (q)) := hJ.kept 3 rfl
  have hV5 : Nb w5 (gV) (sV) (.slice AV1 kV1 cV1) (.slice AV2 kV2 cV2) := NbV.out (hJ.still 4 rfl rfl (Nat.le_of_ble_eq_true (by kernel_rfl)))
  have nV5 : Nq w5 (.agg #[.bool sV, .slice AV1 kV1 cV1, .slice AV2 kV2 cV2]) ((p) * (q)) := hJ.kept 4 rfl
  obtain ⟨gD, eD, geD, qD⟩ := hJ.fresh 5 rfl rfl (hall 6 (by decide)) (hall 7 (by decide))
  have nD5 : Nq w5 (vals 4) (dv) := hJ.s 4 (hall 4 (by decide))
  obtain ⟨sD, AD1, kD1, cD1, AD2, kD2, cD2, yD, hD5⟩ := qD
  change Nb w5 (gD) (sD) (.slice AD1 kD1 cD1) (.slice AD2 kD2 cD2) at hD5
  try dsimp only at yD
  rw [yD] at nD5
  clear yD
  have neDX : gD ≠ gX := hJ.ne 5 0 (by decide) rfl rfl (hall 6 (by decide)) rfl eD rfl
  have neDY : gD ≠ gY := hJ.ne 5 1 (by decide) rfl rfl (hall 6 (by decide)) rfl eD rfl
  have neDZ : gD ≠ gZ := hJ.ne 5 2 (by decide) rfl rfl (hall 6 (by decide)) rfl eD rfl
  have neDU : gD ≠ gU := hJ.ne 5 3 (by decide) rfl rfl (hall 6 (by decide)) rfl eD rfl
  have neDV : gD ≠ gV := hJ.ne 5 4 (by decide) rfl rfl (hall 6 (by decide)) rfl eD rfl
  rw [eD]
  clear eD
  have f14 : vals 8 = .int .i64 (er) := hJ.s 8 (hall 8 (by decide))
  rw [f14]
  clear hall hJ
  go_upto_region 10 with fail
  by_cases hq0 : q = 0
  · have hs0 : Hid (sg = 0) := Lib.hid (by rw [← HSG.out, hq0]; decide +kernel)
    have he8 : Hid (er = 8) := Lib.hid (by rw [← HER.out, hq0]; exact congrArg Prod.fst (if_pos rfl))
    have hd0 : Hid (dv = 0) := Lib.hid (by rw [← HDV.out, hq0]; exact congrArg Prod.snd (if_pos rfl))
    clear hq0
    refine text_each (F := ?F9) ([.num (q), .eq (.int .i64 (sg)), .eq (.bool true)] : List Vs) (by kernel_rfl) ?hF9 ?st9 ?en9
    case hF9 =>
      intro vals
      simp only [Ja.fillL, Act.put, List.setIfInBounds_toArray, List.set_cons_zero, List.set_cons_succ, Nat.reduceAdd]
      exact rfl
    case st9 =>
      intro hctx
      refine Ja.Steps.cons (Each.yes hctx (by rfl) (by kernel_rfl) ?_) ?_
      · intro vals W hM hd K hK
        have hN : Q w5 W := hM
        have hQ := hG5.trans hN
        obtain ⟨z0, z1, z2⟩ := (hY5.q hN).cells
        go_simp
        exact hK.out (.agg #[.bool sY, .slice AY1 kY1 cY1, .slice AY2 kY2 cY2]) _ _ (by kernel_rfl) (nY5.q hN) (Q.refl _)
      refine Ja.Steps.cons (Each.yes hctx (by rfl) (by kernel_rfl) ?_) ?_
      · intro vals W hM hd K hK
        have hN : Q w5 W := hM
        have hQ := hG5.trans hN
        have d0 : Nq W (vals 0) (q) := hd 0 (by kernel_rfl)
        go_simp
        (with_reducible refine (q_Sign _ (q) W d0).mono ?_)
        rintro e W9 ⟨rfl, hq9⟩
        exact hK.out (.int .i64 (sn (q))) W9 _ (by kernel_rfl) (congrArg (Value.int .i64) (HSG.out)) hq9
      refine Ja.Steps.cons (Each.yes hctx (by rfl) (by kernel_rfl) ?_) ?_
      · intro vals W hM hd K hK
        have hN : Q w5 W := hM
        have hQ := hG5.trans hN
        have d1 : vals 1 = .int .i64 (sg) := hd 1 (by kernel_rfl)
        generalize vals 1 = u1 at d1 hK ⊢
        subst d1
        go_simp
        rw [show (((sg) : Int) == (0)) = true from beq_iff_eq.2 (hs0.out)]
        exact hK.out (.bool true) _ _ (by kernel_rfl) rfl (Q.refl _)
      exact Ja.Steps.nil
    intro vals w6 hq6 hall
    have hG6 := hG5.trans hq6
    have hX6 := hX5.q hq6
    have nX6 := nX5.q hq6
    have hY6 := hY5.q hq6
    have nY6 := nY5.q hq6
    have hZ6 := hZ5.q hq6
    have nZ6 := nZ5.q hq6
    have hU6 := hU5.q hq6
    have nU6 := nU5.q hq6
    have hV6 := hV5.q hq6
    have nV6 := nV5.q hq6
    have hD6 := hD5.q hq6
    have nD6 := nD5.q hq6
    have f107 : vals 2 = .bool true := hall 2 (by decide)
    rw [f107]
    clear hall hq6 hG5 hX5 hY5 hZ5 hU5 hV5 hD5 nX5 nY5 nZ5 nU5 nV5 nD5
    go_upto_region 11 with fail
    refine text_each (F := ?F10) ([.eq (.int .i64 (er)), .eq (.bool true), .eq (.bool true), .num (dv), .eq (.int .i64 (0)), .eq (.bool true), .eq (.bool true), .eq (.bool true), .eq (.bool true), .eq (.bool true), .eq (.bool true)] : List Vs) (by kernel_rfl) ?hF10 ?st10 ?en10
    case hF10 =>
      intro vals
      simp only [Ja.fillL, Act.put, List.setIfInBounds_toArray, List.set_cons_zero, List.set_cons_succ, Nat.reduceAdd]
      exact rfl
    case st10 =>
      intro hctx
      refine Ja.Steps.cons (Each.yes hctx (by rfl) (by kernel_rfl) ?_) ?_
      · intro vals W hM hd K hK
        have hN : Q w6 W := hM
        have hQ := hG6.trans hN
        go_simp
        exact hK.out (.int .i64 (er)) _ _ (by kernel_rfl) rfl (Q.refl _)
      refine Ja.Steps.cons (Each.yes hctx (by rfl) (by kernel_rfl) ?_) ?_
      · intro vals W hM hd K hK
        have hN : Q w6 W := hM
        have hQ := hG6.trans hN
        have d0 : vals 0 = .int .i64 (er) := hd 0 (by kernel_rfl)
        generalize vals 0 = u0 at d0 hK ⊢
        subst d0
        go_simp
        rw [show (((er) : Int) == (8)) = true from beq_iff_eq.2 (he8.out)]
        exact hK.out (.bool true) _ _ (by kernel_rfl) rfl (Q.refl _)
      refine Ja.Steps.cons (Each.yes hctx (by rfl) (by kernel_rfl) ?_) ?_
      · intro vals W hM hd K hK
        have hN : Q w6 W := hM
        have hQ := hG6.trans hN
        have d1 : vals 1 = .bool true := hd 1 (by kernel_rfl)
        generalize vals 1 = u1 at d1 hK ⊢
        subst d1
        go_simp
        exact hK.out (.bool true) _ _ (by kernel_rfl) rfl (Q.refl _)
      refine Ja.Steps.cons (Each.yes hctx (by rfl) (by kernel_rfl) ?_) ?_
      · intro vals W hM hd K hK
        have hN : Q w6 W := hM
        have hQ := hG6.trans hN
        obtain ⟨z0, z1, z2⟩ := (hD6.q hN).cells
        go_simp
        exact hK.out (.agg #[.bool sD, .slice AD1 kD1 cD1, .slice AD2 kD2 cD2]) _ _ (by kernel_rfl) (nD6.q hN) (Q.refl _)
      refine Ja.Steps.cons (Each.yes hctx (by rfl) (by kernel_rfl) ?_) ?_
      · intro vals W hM hd K hK
        have hN : Q w6 W := hM
        have hQ := hG6.trans hN
        have d3 : Nq W (vals 3) (dv) := hd 3 (by kernel_rfl)
        go_simp
        (with_reducible refine (q_Sign _ (dv) W d3).mono ?_)
        rintro e W9 ⟨rfl, hq9⟩
        exact hK.out (.int .i64 (sn (dv))) W9 _ (by kernel_rfl) (congrArg (Value.int .i64) ((show sn dv = 0 by rw [hd0.out]; decide +kernel))) hq9
      refine Ja.Steps.cons (Each.yes hctx (by rfl) (by kernel_rfl) ?_) ?_
      · intro vals W hM hd K hK
        have hN : Q w6 W := hM
        have hQ := hG6.trans hN
        have d4 : vals 4 = .int .i64 (0) := hd 4 (by kernel_rfl)
        generalize vals 4 = u4 at d4 hK ⊢
        subst d4
        go_simp
        exact hK.out (.bool true) _ _ (by kernel_rfl) rfl (Q.refl _)
      refine Ja.Steps.cons (Each.yes hctx (by rfl) (by kernel_rfl) ?_) ?_
      · intro vals W hM hd K hK
        have hN : Q w6 W := hM
        have hQ := hG6.trans hN
        have d2 : vals 2 = .bool true := hd 2 (by kernel_rfl)
        generalize vals 2 = u2 at d2 hK ⊢
        subst d2
        have d5 : vals 5 = .bool true := hd 5 (by kernel_rfl)
        generalize vals 5 = u5 at d5 hK ⊢
        subst d5
        go_simp
        exact hK.out (.bool true) _ _ (by kernel_rfl) rfl (Q.refl _)
      refine Ja.Steps.cons (Each.yes hctx (by rfl) (by kernel_rfl) ?_) ?_
      · intro vals W hM hd K hK
        have hN : Q w6 W := hM
        have hQ := hG6.trans hN
        have d6 : vals 6 = .bool true := hd 6 (by kernel_rfl)
        generalize vals 6 = u6 at d6 hK ⊢
        subst d6
        go_simp
        exact hK.out (.bool true) _ _ (by kernel_rfl) rfl (Q.refl _)
      refine Ja.Steps.cons (Each.yes hctx (by rfl) (by kernel_rfl) ?_) ?_
      · intro vals W hM hd K hK
        have hN : Q w6 W := hM
        have hQ := hG6.trans hN
        go_simp
        (with_reducible refine (q_Awake W (hT.q hQ) (hPx.q hQ)).mono ?_)
        rintro e W9 ⟨rfl, hq9⟩
        exact hK.out (.bool true) W9 _ (by kernel_rfl) rfl hq9
      refine Ja.Steps.cons (Each.yes hctx (by rfl) (by kernel_rfl) ?_) ?_
      · intro vals W hM hd K hK
        have hN : Q w6 W := hM
        have hQ := hG6.trans hN
        have d7 : vals 7 = .bool true := hd 7 (by kernel_rfl)
        generalize vals 7 = u7 at d7 hK ⊢
        subst d7
        have d8 : vals 8 = .bool true := hd 8 (by kernel_rfl)
        generalize vals 8 = u8 at d8 hK ⊢
        subst d8
        go_simp
        exact hK.out (.bool true) _ _ (by kernel_rfl) rfl (Q.refl _)
      refine Ja.Steps.cons (Each.yes hctx (by rfl) (by kernel_rfl) ?_) ?_
      · intro vals W hM hd K hK
        have hN : Q w6 W := hM
        have hQ := hG6.trans hN
        have d9 : vals 9 = .bool true := hd 9 (by kernel_rfl)
        generalize vals 9 = u9 at d9 hK ⊢
        subst d9
        go_simp
        exact hK.out (.bool true) _ _ (by kernel_rfl) rfl (Q.refl _)
      exact Ja.Steps.nil
    intro vals w7 hq7 hall
    have hG7 := hG6.trans hq7
    have hX7 := hX6.q hq7
    have nX7 := nX6.q hq7
    have hY7 := hY6.q hq7
    have nY7 := nY6.q hq7
    have hZ7 := hZ6.q hq7
    have nZ7 := nZ6.q hq7
    have hU7 := hU6.q hq7
    have nU7 := nU6.q hq7
    have hV7 := hV6.q hq7
    have nV7 := nV6.q hq7
    have hD7 := hD6.q hq7
    have nD7 := nD6.q hq7
    have f6 : vals 10 = .bool true := hall 10 (by decide)
    rw [f6]
    clear hall hq7 hG6 hX6 hY6 hZ6 hU6 hV6 hD6 nX6 nY6 nZ6 nU6 nV6 nD6
    go_wp2_with fail
    go_ret
    exact ⟨ret_bool rfl, by rw [← hw0]; exact hG7⟩
  · have hs0 : Hid (¬ sg = 0) := Lib.hid (by rw [← HSG.out]; rcases sn_cases q with ⟨_, h⟩ | ⟨h, _⟩ | ⟨_, h⟩; rw [h]; decide; exact absurd h hq0; rw [h]; decide)
    have he8 : Hid (er = 0) := Lib.hid (by rw [← HER.out]; exact congrArg Prod.fst (if_neg hq0))
    have hd0 : Hid (dv = p) := Lib.hid (by rw [← HDV.out, show (divR (p * q) q).2 = p * q * q⁻¹ from congrArg Prod.snd (if_neg hq0), Rat.mul_assoc, Rat.mul_inv_cancel _ hq0, Rat.mul_one])
    clear hq0
    refine text_each (F := ?F11) ([.num (q), .eq (.int .i64 (sg)), .eq (.bool false)] : List Vs) (by kernel_rfl) ?hF11 ?st11 ?en11
    case hF11 =>
      intro vals
      simp only [Ja.fillL, Act.put, List.setIfInBounds_toArray, List.set_cons_zero, List.set_cons_succ, Nat.reduceAdd]
      exact rfl
    case st11 =>
      intro hctx
      refine Ja.Steps.cons (Each.yes hctx (by rfl) (by kernel_rfl) ?_) ?_
      · intro vals W hM hd K hK
        have hN : Q w5 W := hM
        have hQ := hG5.trans hN
        obtain ⟨z0, z1, z2⟩ := (hY5.q hN).cells
        go_simp
        exact hK.out (.agg #[.bool sY, .slice AY1 kY1 cY1, .slice AY2 kY2 cY2]) _ _ (by kernel_rfl) (nY5.q hN) (Q.refl _)
      refine Ja.Steps.cons (Each.yes hctx (by rfl) (by kernel_rfl) ?_) ?_
      · intro vals W hM hd K hK
        have hN : Q w5 W := hM
        have hQ := hG5.trans hN
        have d0 : Nq W (vals 0) (q) := hd 0 (by kernel_rfl)
        go_simp
        (with_reducible refine (q_Sign _ (q) W d0).mono ?_)
        rintro e W9 ⟨rfl, hq9⟩
        exact hK.out (.int .i64 (sn (q))) W9 _ (by kernel_rfl) (congrArg (Value.int .i64) (HSG.out)) hq9
      refine Ja.Steps.cons (Each.yes hctx (by rfl) (by kernel_rfl) ?_) ?_
      · intro vals W hM hd K hK
        have hN : Q w5 W := hM
        have hQ := hG5.trans hN
        have d1 : vals 1 = .int .i64 (sg) := hd 1 (by kernel_rfl)
        generalize vals 1 = u1 at d1 hK ⊢
        subst d1
        go_simp
        rw [show (((sg) : Int) == (0)) = false from beq_eq_false_iff_ne.2 (hs0.out)]
        exact hK.out (.bool false) _ _ (by kernel_rfl) rfl (Q.refl _)
      exact Ja.Steps.nil
    intro vals w6 hq6 hall
    have hG6 := hG5.trans hq6
    have hX6 := hX5.q hq6
    have nX6 := nX5.q hq6
    have hY6 := hY5.q hq6
    have nY6 := nY5.q hq6
    have hZ6 := hZ5.q hq6
    have nZ6 := nZ5.q hq6
    have hU6 := hU5.q hq6
    have nU6 := nU5.q hq6
    have hV6 := hV5.q hq6
    have nV6 := nV5.q hq6
    have hD6 := hD5.q hq6
    have nD6 := nD5.q hq6
    have f107 : vals 2 = .bool false := hall 2 (by decide)
    rw [f107]
    clear hall hq6 hG5 hX5 hY5 hZ5 hU5 hV5 hD5 nX5 nY5 nZ5 nU5 nV5 nD5
    go_upto_region 12 with fail
    have B44 : Hid (2000 * (sz (dv)) + 500000 ≤ LIM) := Lib.hid (by have h0 := ZD.out; rw [LIM_eq]; omega)
    refine text_each (F := ?F12) ([.eq (.int .i64 (er)), .eq (.bool true), .eq (.bool true), .num (dv), .num (p), .eq (.bool true), .eq (.bool true), .eq (.bool true), .eq (.bool true), .eq (.bool true), .eq (.bool true)] : List Vs) (by kernel_rfl) ?hF12 ?st12 ?en12
    case hF12 =>
      intro vals
      simp only [Ja.fillL, Act.put, List.setIfInBounds_toArray, List.set_cons_zero, List.set_cons_succ, Nat.reduceAdd]
      exact rfl
    case st12 =>
      intro hctx
      refine Ja.Steps.cons (Each.yes hctx (by rfl) (by kernel_rfl) ?_) ?_
      · intro vals W hM hd K hK
        have hN : Q w6 W := hM
        have hQ := hG6.trans hN
        go_simp
        exact hK.out (.int .i64 (er)) _ _ (by kernel_rfl) rfl (Q.refl _)
      refine Ja.Steps.cons (Each.yes hctx (by rfl) (by kernel_rfl) ?_) ?_
      · intro vals W hM hd K hK
        have hN : Q w6 W := hM
        have hQ := hG6.trans hN
        have d0 : vals 0 = .int .i64 (er) := hd 0 (by kernel_rfl)
        generalize vals 0 = u0 at d0 hK ⊢
        subst d0
        go_simp
        rw [show (((er) : Int) == (0)) = true from beq_iff_eq.2 (he8.out)]
        exact hK.out (.bool true) _ _ (by kernel_rfl) rfl (Q.refl _)
      refine Ja.Steps.cons (Each.yes hctx (by rfl) (by kernel_rfl) ?_) ?_
      · intro vals W hM hd K hK
        have hN : Q w6 W := hM
        have hQ := hG6.trans hN
        have d1 : vals 1 = .bool true := hd 1 (by kernel_rfl)
        generalize vals 1 = u1 at d1 hK ⊢
        subst d1
        go_simp
        exact hK.out (.bool true) _ _ (by kernel_rfl) rfl (Q.refl _)
      refine Ja.Steps.cons (Each.yes hctx (by rfl) (by kernel_rfl) ?_) ?_
      · intro vals W hM hd K hK
        have hN : Q w6 W := hM
        have hQ := hG6.trans hN
        obtain ⟨z0, z1, z2⟩ := (hD6.q hN).cells
        go_simp
        exact hK.out (.agg #[.bool sD, .slice AD1 kD1 cD1, .slice AD2 kD2 cD2]) _ _ (by kernel_rfl) (nD6.q hN) (Q.refl _)
      refine Ja.Steps.cons (Each.yes hctx (by rfl) (by kernel_rfl) ?_) ?_
      · intro vals W hM hd K hK
        have hN : Q w6 W := hM
        have hQ := hG6.trans hN
        obtain ⟨z0, z1, z2⟩ := (hX6.q hN).cells
        go_simp
        exact hK.out (.agg #[.bool sX, .slice AX1 kX1 cX1, .slice AX2 kX2 cX2]) _ _ (by kernel_rfl) (nX6.q hN) (Q.refl _)
      refine Ja.Steps.cons (Each.yes hctx (by rfl) (by kernel_rfl) ?_) ?_
      · intro vals W hM hd K hK
        have hN : Q w6 W := hM
        have hQ := hG6.trans hN
        have d3 : Nq W (vals 3) (dv) := hd 3 (by kernel_rfl)
        have d4 : Nq W (vals 4) (p) := hd 4 (by kernel_rfl)
        go_simp
        (with_reducible refine (q_equal _ _ (dv) W (hT.q hQ) (hPx.q hQ) d3 (by rw [show (dv : Rat) = p from hd0.out]; exact d4) B44.out).mono ?_)
        rintro e W9 ⟨rfl, hq9⟩
        exact hK.out (.bool true) W9 _ (by kernel_rfl) rfl hq9
      refine Ja.Steps.cons (Each.yes hctx (by rfl) (by kernel_rfl) ?_) ?_
      · intro vals W hM hd K hK
        have hN : Q w6 W := hM
        have hQ := hG6.trans hN
        have d2 : vals 2 = .bool true := hd 2 (by kernel_rfl)
        generalize vals 2 = u2 at d2 hK ⊢
        subst d2
        have d5 : vals 5 = .bool true := hd 5 (by kernel_rfl)
        generalize vals 5 = u5 at d5 hK ⊢
        subst d5
        go_simp
        exact hK.out (.bool true) _ _ (by kernel_rfl) rfl (Q.refl _)
      refine Ja.Steps.cons (Each.yes hctx (by rfl) (by kernel_rfl) ?_) ?_
      · intro vals W hM hd K hK
        have hN : Q w6 W := hM
        have hQ := hG6.trans hN
        have d6 : vals 6 = .bool true := hd 6 (by kernel_rfl)
        generalize vals 6 = u6 at d6 hK ⊢
        subst d6
        go_simp
        exact hK.out (.bool true) _ _ (by kernel_rfl) rfl (Q.refl _)
      refine Ja.Steps.cons (Each.yes hctx (by rfl) (by kernel_rfl) ?_) ?_
      · intro vals W hM hd K hK
        have hN : Q w6 W := hM
        have hQ := hG6.trans hN
        go_simp
        (with_reducible refine (q_Awake W (hT.q hQ) (hPx.q hQ)).mono ?_)
        rintro e W9 ⟨rfl, hq9⟩
        exact hK.out (.bool true) W9 _ (by kernel_rfl) rfl hq9
      refine Ja.Steps.cons (Each.yes hctx (by rfl) (by kernel_rfl) ?_) ?_
      · intro vals W hM hd K hK
        have hN : Q w6 W := hM
        have hQ := hG6.trans hN
        have d7 : vals 7 = .bool true := hd 7 (by kernel_rfl)
        generalize vals 7 = u7 at d7 hK ⊢
        subst d7
        have d8 : vals 8 = .bool true := hd 8 (by kernel_rfl)
        generalize vals 8 = u8 at d8 hK ⊢
        subst d8
        go_simp
        exact hK.out (.bool true) _ _ (by kernel_rfl) rfl (Q.refl _)
      refine Ja.Steps.cons (Each.yes hctx (by rfl) (by kernel_rfl) ?_) ?_
      · intro vals W hM hd K hK
        have hN : Q w6 W := hM
        have hQ := hG6.trans hN
        have d9 : vals 9 = .bool true := hd 9 (by kernel_rfl)
        generalize vals 9 = u9 at d9 hK ⊢
        subst d9
        go_simp
        exact hK.out (.bool true) _ _ (by kernel_rfl) rfl (Q.refl _)
      exact Ja.Steps.nil
    intro vals w7 hq7 hall
    have hG7 := hG6.trans hq7
    have hX7 := hX6.q hq7
    have nX7 := nX6.q hq7
    have hY7 := hY6.q hq7
    have nY7 := nY6.q hq7
    have hZ7 := hZ6.q hq7
    have nZ7 := nZ6.q hq7
    have hU7 := hU6.q hq7
    have nU7 := nU6.q hq7
    have hV7 := hV6.q hq7
    have nV7 := nV6.q hq7
    have hD7 := hD6.q hq7
    have nD7 := nD6.q hq7
    have f6 : vals 10 = .bool true := hall 10 (by decide)
    rw [f6]
    clear hall hq7 hG6 hX6 hY6 hZ6 hU6 hV6 hD6 nX6 nY6 nZ6 nU6 nV6 nD6
    go_wp2_with fail
    go_ret
    exact ⟨ret_bool rfl, by rw [← hw0]; exact hG7⟩
end Go.Proofs.YtimdddpfoagbjaaGreatDoor
