/- Laws of values (P1.7, P1.8), each for every three strings; no condition. Part of the proof: texts Je1. -/
import Derived.Test.YtimdddpfoagbjaaGreatDoorQa26
import Derived.Test.YtimdddpfoagbjaaGreatDoorQa27
namespace Go.Proofs.YtimdddpfoagbjaaGreatDoor
open Go.RowKit
open Ma Me
theorem wrap_one {z : Int} (h : -1 ≤ z ∧ z ≤ 1) : IntKind.i64.wrap z = z := by
  rcases (by omega : z = -1 ∨ z = 0 ∨ z = 1) with rfl | rfl | rfl <;> rfl
theorem rc_bounds (x y : Rat) : -1 ≤ rc x y ∧ rc x y ≤ 1 := by rcases rc_cases x y with ⟨_, h⟩ | ⟨_, h⟩ | ⟨_, h⟩ <;> rw [h] <;> decide
theorem sn_bounds (x : Rat) : -1 ≤ sn x ∧ sn x ≤ 1 := by rcases sn_cases x with ⟨_, h⟩ | ⟨_, h⟩ | ⟨_, h⟩ <;> rw [h] <;> decide
theorem mul_bounds {c e : Int} (h : -1 ≤ c ∧ c ≤ 1) (k : -1 ≤ e ∧ e ≤ 1) : -1 ≤ c * e ∧ c * e ≤ 1 := by
  have h1 : c = -1 ∨ c = 0 ∨ c = 1 := by omega
  have h2 : e = -1 ∨ e = 0 ∨ e = 1 := by omega
  rcases h1 with rfl | rfl | rfl <;> rcases h2 with rfl | rfl | rfl <;> decide
set_option maxRecDepth 100000 in
set_option maxHeartbeats 8000000 in
theorem q_ValueOrder (a b c : ByteArray) (w : World) (hT : Tb w) (hPx : Px w) (ha : a.size ≤ 9223372036854775806) (hb : b.size ≤ 9223372036854775806) (hc : c.size ≤ 9223372036854775806) : Calls Tryz.prog 11 #[.string a, .string b, .string c] w fun e w' => e = .returned (.bool true) ∧ Q w w' := by
  obtain ⟨w0, hw0, hG0⟩ : ∃ x, w = x ∧ Q w x := ⟨w, rfl, Q.refl w⟩
  rw [hw0]
  obtain ⟨p, hp⟩ : ∃ x, (parseS a.data.toList).2 = x := ⟨_, rfl⟩
  have HP := Lib.hid hp; clear hp
  have Z1 : Hid (sz p ≤ 2000) := Lib.hid (by rw [← HP.out]; exact parse_sz' _)
  obtain ⟨q, hq⟩ : ∃ x, (parseS b.data.toList).2 = x := ⟨_, rfl⟩
  have HQ := Lib.hid hq; clear hq
  have Z2 : Hid (sz q ≤ 2000) := Lib.hid (by rw [← HQ.out]; exact parse_sz' _)
  obtain ⟨r, hr⟩ : ∃ x, (parseS c.data.toList).2 = x := ⟨_, rfl⟩
  have HR := Lib.hid hr; clear hr
  have Z3 : Hid (sz r ≤ 2000) := Lib.hid (by rw [← HR.out]; exact parse_sz' _)
  obtain ⟨is, his⟩ : ∃ x, (decide ((parseS a.data.toList).1 = 0) && decide ((parseS b.data.toList).1 = 0) && decide ((parseS c.data.toList).1 = 0)) = x := ⟨_, rfl⟩
  have HI := Lib.hid his; clear his
  go_enter Tryz.func11, Tryz.ntmps11
  go_upto_region 1 with fail
  cases is
  · have hAt0 : At0 w [{ al := some 9, g := 0, big := false, row := .agg #[.bool false, .slice none 0 0, .slice none 0 0], st := 12, src := 5 }, { al := some 10, g := 0, big := false, row := .agg #[.bool false, .slice none 0 0, .slice none 0 0], st := 13, src := 6 }, { al := some 11, g := 0, big := false, row := .agg #[.bool false, .slice none 0 0, .slice none 0 0], st := 14, src := 7 }] [] w0 := At0.of hG0 ⟨fun h => (by cases h), fun h => (by cases h), fun h => (by cases h), trivial⟩ (by (simp [Apart0] <;> omega)) trivial
    clear hG0 
    refine text_cells (F := ?F2) w ([.eq (.string (a)), .eq (.string (b)), .eq (.string (c)), .three (p) (q) (r) false, .three (p) (q) (r) false, .num (p), .num (q), .num (r), .eq (.bool false), .any, .any, .any, .any, .any, .any, .eq (.bool false)] : List Vs) _ _ (by kernel_rfl) hAt0 ?hF2 ?st2 ?en2
    case hF2 =>
      intro vals
      simp only [Ja.fillL, Act.put, List.setIfInBounds_toArray, List.set_cons_zero, List.set_cons_succ, Nat.reduceAdd]
      exact rfl
    case st2 =>
      clear hAt0
      intro hctx
      refine Ja.Steps.cons (JC.other hctx (by kernel_rfl) (by rfl) (by kernel_rfl) (by kernel_rfl) ?_) ?_
      · intro L vals W hL hJ hd K hK
        have hQ := hJ.q
        go_simp
        exact hK.out (.string (a)) _ _ (by kernel_rfl) rfl (Q.refl _)
      refine Ja.Steps.cons (JC.other hctx (by kernel_rfl) (by rfl) (by kernel_rfl) (by kernel_rfl) ?_) ?_
      · intro L vals W hL hJ hd K hK
        have hQ := hJ.q
        go_simp
        exact hK.out (.string (b)) _ _ (by kernel_rfl) rfl (Q.refl _)
      refine Ja.Steps.cons (JC.other hctx (by kernel_rfl) (by rfl) (by kernel_rfl) (by kernel_rfl) ?_) ?_
      · intro L vals W hL hJ hd K hK
        have hQ := hJ.q
        go_simp
        exact hK.out (.string (c)) _ _ (by kernel_rfl) rfl (Q.refl _)
      refine Ja.Steps.cons (JC.other hctx (by kernel_rfl) (by rfl) (by kernel_rfl) (by kernel_rfl) ?_) ?_
      · intro L vals W hL hJ hd K hK
        have hQ := hJ.q
        have d0 : vals 0 = .string (a) := hd 0 (by kernel_rfl)
        generalize vals 0 = u0 at d0 hK ⊢
        subst d0
        have d1 : vals 1 = .string (b) := hd 1 (by kernel_rfl)
        generalize vals 1 = u1 at d1 hK ⊢
        subst d1
        have d2 : vals 2 = .string (c) := hd 2 (by kernel_rfl)
        generalize vals 2 = u2 at d2 hK ⊢
        subst d2
        go_simp
        (with_reducible refine (q_three a b c W (hT.q hQ) ha hb hc).mono ?_)
        rintro e W9 ⟨x, y, z, rfl, hx9, hy9, hz9, hq9⟩
        exact hK.out (.tuple #[x, y, z, .bool (decide ((parseS a.data.toList).1 = 0) && decide ((parseS b.data.toList).1 = 0) && decide ((parseS c.data.toList).1 = 0))]) W9 _ (by kernel_rfl) ⟨x, y, z, by rw [HI.out], HP.out ▸ hx9, HQ.out ▸ hy9, HR.out ▸ hz9⟩ hq9
      refine Ja.Steps.cons (JC.other hctx (by kernel_rfl) (by rfl) (by kernel_rfl) (by kernel_rfl) ?_) ?_
      · intro L vals W hL hJ hd K hK
        have hQ := hJ.q
        have d3 : ∃ x y z, vals 3 = .tuple #[x, y, z, .bool false] ∧ Nq W x (p) ∧ Nq W y (q) ∧ Nq W z (r) := hd 3 (by kernel_rfl)
        go_simp
        exact hK.out (vals 3) _ _ (by kernel_rfl) d3 (Q.refl _)
      refine Ja.Steps.cons (JC.other hctx (by kernel_rfl) (by rfl) (by kernel_rfl) (by kernel_rfl) ?_) ?_
      · intro L vals W hL hJ hd K hK
        have hQ := hJ.q
        have d4 : ∃ x y z, vals 4 = .tuple #[x, y, z, .bool false] ∧ Nq W x (p) ∧ Nq W y (q) ∧ Nq W z (r) := hd 4 (by kernel_rfl)
        generalize vals 4 = u4 at d4 hK ⊢
        obtain ⟨rx, ry, rz, rfl, hrx, hry, hrz⟩ := d4
        go_simp
        exact hK.out rx _ _ (by kernel_rfl) hrx (Q.refl _)
      refine Ja.Steps.cons (JC.other hctx (by kernel_rfl) (by rfl) (by kernel_rfl) (by kernel_rfl) ?_) ?_
      · intro L vals W hL hJ hd K hK
        have hQ := hJ.q
        have d4 : ∃ x y z, vals 4 = .tuple #[x, y, z, .bool false] ∧ Nq W x (p) ∧ Nq W y (q) ∧ Nq W z (r) := hd 4 (by kernel_rfl)
        generalize vals 4 = u4 at d4 hK ⊢
        obtain ⟨rx, ry, rz, rfl, hrx, hry, hrz⟩ := d4
        go_simp
        exact hK.out ry _ _ (by kernel_rfl) hry (Q.refl _)
      refine Ja.Steps.cons (JC.other hctx (by kernel_rfl) (by rfl) (by kernel_rfl) (by kernel_rfl) ?_) ?_
      · intro L vals W hL hJ hd K hK
        have hQ := hJ.q
        have d4 : ∃ x y z, vals 4 = .tuple #[x, y, z, .bool false] ∧ Nq W x (p) ∧ Nq W y (q) ∧ Nq W z (r) := hd 4 (by kernel_rfl)
        generalize vals 4 = u4 at d4 hK ⊢
        obtain ⟨rx, ry, rz, rfl, hrx, hry, hrz⟩ := d4
        go_simp
        exact hK.out rz _ _ (by kernel_rfl) hrz (Q.refl _)
      refine Ja.Steps.cons (JC.other hctx (by kernel_rfl) (by rfl) (by kernel_rfl) (by kernel_rfl) ?_) ?_
      · intro L vals W hL hJ hd K hK
        have hQ := hJ.q
        have d4 : ∃ x y z, vals 4 = .tuple #[x, y, z, .bool false] ∧ Nq W x (p) ∧ Nq W y (q) ∧ Nq W z (r) := hd 4 (by kernel_rfl)
        generalize vals 4 = u4 at d4 hK ⊢
        obtain ⟨rx, ry, rz, rfl, hrx, hry, hrz⟩ := d4
        go_simp
        exact hK.out (.bool false) _ _ (by kernel_rfl) rfl (Q.refl _)
      refine Ja.Steps.cons (JC.alloc (n := 0) (cells := #[.bool false, .slice none 0 0, .slice none 0 0]) (t := 25) hctx (by kernel_rfl) (by rfl) (by kernel_rfl) (by rfl) (by rfl) (by kernel_rfl) (by rfl) (fun W => NbV.of (Nb.new W _ _ _)) ?_) ?_
      · intro vals W K hK
        go_simp
        exact hK.out _ (by kernel_rfl)
      refine Ja.Steps.cons (JC.alloc (n := 1) (cells := #[.bool false, .slice none 0 0, .slice none 0 0]) (t := 25) hctx (by kernel_rfl) (by rfl) (by kernel_rfl) (by rfl) (by rfl) (by kernel_rfl) (by rfl) (fun W => NbV.of (Nb.new W _ _ _)) ?_) ?_
      · intro vals W K hK
        go_simp
        exact hK.out _ (by kernel_rfl)
      refine Ja.Steps.cons (JC.alloc (n := 2) (cells := #[.bool false, .slice none 0 0, .slice none 0 0]) (t := 25) hctx (by kernel_rfl) (by rfl) (by kernel_rfl) (by rfl) (by rfl) (by kernel_rfl) (by rfl) (fun W => NbV.of (Nb.new W _ _ _)) ?_) ?_
      · intro vals W K hK
        go_simp
        exact hK.out _ (by kernel_rfl)
      refine Ja.Steps.cons (JC.store (n := 0) hctx (by kernel_rfl) (by rfl) (by kernel_rfl) (by rfl) (by rfl) (by kernel_rfl) (by rfl) ?_) ?_
      · intro L vals W g old hJ hp ho hs K hK
        have hs9 : Nq W (vals 5) (p) := hs
        have hp9 : vals 9 = .pointer (some ⟨g, 0, none⟩) := hp
        dsimp only at hK
        generalize vals 9 = ua at hp9 hK ⊢
        subst hp9
        generalize vals 5 = uj at hs9 hK ⊢
        obtain ⟨e1, C1, i1, j1, C2, i2, j2, rfl, -⟩ := Nq.form hs9
        obtain ⟨f1, D1, x1, y1, D2, x2, y2, ho1, hb⟩ := ho
        have fz := hb.frozen
        obtain ⟨r0, r1, r2⟩ := hb.cells
        clear hb ho1
        go_simp
        exact hK.out undef _ _ (by kernel_rfl) PutV.of
      refine Ja.Steps.cons (JC.store (n := 1) hctx (by kernel_rfl) (by rfl) (by kernel_rfl) (by rfl) (by rfl) (by kernel_rfl) (by rfl) ?_) ?_
      · intro L vals W g old hJ hp ho hs K hK
        have hs9 : Nq W (vals 6) (q) := hs
        have hp9 : vals 10 = .pointer (some ⟨g, 0, none⟩) := hp
        dsimp only at hK
        generalize vals 10 = ua at hp9 hK ⊢
        subst hp9
        generalize vals 6 = uj at hs9 hK ⊢
        obtain ⟨e1, C1, i1, j1, C2, i2, j2, rfl, -⟩ := Nq.form hs9
        obtain ⟨f1, D1, x1, y1, D2, x2, y2, ho1, hb⟩ := ho
        have fz := hb.frozen
        obtain ⟨r0, r1, r2⟩ := hb.cells
        clear hb ho1
        go_simp
        exact hK.out undef _ _ (by kernel_rfl) PutV.of
      refine Ja.Steps.cons (JC.store (n := 2) hctx (by kernel_rfl) (by rfl) (by kernel_rfl) (by rfl) (by rfl) (by kernel_rfl) (by rfl) ?_) ?_
      · intro L vals W g old hJ hp ho hs K hK
        have hs9 : Nq W (vals 7) (r) := hs
        have hp9 : vals 11 = .pointer (some ⟨g, 0, none⟩) := hp
        dsimp only at hK
        generalize vals 11 = ua at hp9 hK ⊢
        subst hp9
        generalize vals 7 = uj at hs9 hK ⊢
        obtain ⟨e1, C1, i1, j1, C2, i2, j2, rfl, -⟩ := Nq.form hs9
        obtain ⟨f1, D1, x1, y1, D2, x2, y2, ho1, hb⟩ := ho
        have fz := hb.frozen
        obtain ⟨r0, r1, r2⟩ := hb.cells
        clear hb ho1
        go_simp
        exact hK.out undef _ _ (by kernel_rfl) PutV.of
      refine Ja.Steps.cons (JC.other hctx (by kernel_rfl) (by rfl) (by kernel_rfl) (by kernel_rfl) ?_) ?_
      · intro L vals W hL hJ hd K hK
        have hQ := hJ.q
        have d8 : vals 8 = .bool false := hd 8 (by kernel_rfl)
        generalize vals 8 = u8 at d8 hK ⊢
        subst d8
        go_simp
        exact hK.out (.bool false) _ _ (by kernel_rfl) rfl (Q.refl _)
      exact Ja.Steps.nil
    intro L vals w1 hall hJ
    clear hAt0
    have hG1 := hJ.q
    obtain ⟨gX, eX, geX, qX⟩ := hJ.fresh 0 rfl rfl (hall 9 (by decide)) (hall 12 (by decide))
    have nX1 : Nq w1 (vals 5) (p) := hJ.s 5 (hall 5 (by decide))
    obtain ⟨sX, AX1, kX1, cX1, AX2, kX2, cX2, yX, hX1⟩ := qX
    change Nb w1 (gX) (sX) (.slice AX1 kX1 cX1) (.slice AX2 kX2 cX2) at hX1
    try dsimp only at yX
    rw [yX] at nX1
    clear yX
    obtain ⟨gY, eY, geY, qY⟩ := hJ.fresh 1 rfl rfl (hall 10 (by decide)) (hall 13 (by decide))
    have nY1 : Nq w1 (vals 6) (q) := hJ.s 6 (hall 6 (by decide))
    obtain ⟨sY, AY1, kY1, cY1, AY2, kY2, cY2, yY, hY1⟩ := qY
    change Nb w1 (gY) (sY) (.slice AY1 kY1 cY1) (.slice AY2 kY2 cY2) at hY1
    try dsimp only at yY
    rw [yY] at nY1
    clear yY
    obtain ⟨gZ, eZ, geZ, qZ⟩ := hJ.fresh 2 rfl rfl (hall 11 (by decide)) (hall 14 (by decide))
    have nZ1 : Nq w1 (vals 7) (r) := hJ.s 7 (hall 7 (by decide))
    obtain ⟨sZ, AZ1, kZ1, cZ1, AZ2, kZ2, cZ2, yZ, hZ1⟩ := qZ
    change Nb w1 (gZ) (sZ) (.slice AZ1 kZ1 cZ1) (.slice AZ2 kZ2 cZ2) at hZ1
    try dsimp only at yZ
    rw [yZ] at nZ1
    clear yZ
    have neYX : gY ≠ gX := hJ.ne 1 0 (by decide) rfl rfl (hall 10 (by decide)) (hall 9 (by decide)) eY eX
    have neZX : gZ ≠ gX := hJ.ne 2 0 (by decide) rfl rfl (hall 11 (by decide)) (hall 9 (by decide)) eZ eX
    have neZY : gZ ≠ gY := hJ.ne 2 1 (by decide) rfl rfl (hall 11 (by decide)) (hall 10 (by decide)) eZ eY
    rw [eX]
    clear eX
    rw [eY]
    clear eY
    rw [eZ]
    clear eZ
    have f10 : vals 15 = .bool false := hJ.s 15 (hall 15 (by decide))
    rw [f10]
    clear hall hJ
    go_upto_region 3 with fail
    refine text_each (F := ?F3) ([.eq (.bool true), .eq (.bool true)] : List Vs) (by kernel_rfl) ?hF3 ?st3 ?en3
    case hF3 =>
      intro vals
      simp only [Ja.fillL, Act.put, List.setIfInBounds_toArray, List.set_cons_zero, List.set_cons_succ, Nat.reduceAdd]
      exact rfl
    case st3 =>
      intro hctx
      refine Ja.Steps.cons (Each.yes hctx (by rfl) (by kernel_rfl) ?_) ?_
      · intro vals W hM hd K hK
        have hN : Q w1 W := hM
        have hQ := hG1.trans hN
        go_simp
        (with_reducible refine (q_Awake W (hT.q hQ) (hPx.q hQ)).mono ?_)
        rintro e W9 ⟨rfl, hq9⟩
        exact hK.out (.bool true) W9 _ (by kernel_rfl) rfl hq9
      refine Ja.Steps.cons (Each.yes hctx (by rfl) (by kernel_rfl) ?_) ?_
      · intro vals W hM hd K hK
        have hN : Q w1 W := hM
        have hQ := hG1.trans hN
        have d0 : vals 0 = .bool true := hd 0 (by kernel_rfl)
        generalize vals 0 = u0 at d0 hK ⊢
        subst d0
        go_simp
        exact hK.out (.bool true) _ _ (by kernel_rfl) rfl (Q.refl _)
      exact Ja.Steps.nil
    intro vals w2 hq2 hall
    have hG2 := hG1.trans hq2
    have hX2 := hX1.q hq2
    have nX2 := nX1.q hq2
    have hY2 := hY1.q hq2
    have nY2 := nY1.q hq2
    have hZ2 := hZ1.q hq2
    have nZ2 := nZ1.q hq2
    have f6 : vals 1 = .bool true := hall 1 (by decide)
    rw [f6]
    clear hall hq2 hG1 hX1 hY1 hZ1 nX1 nY1 nZ1
    go_wp2_with fail
    go_ret
    exact ⟨ret_bool rfl, by rw [← hw0]; exact hG2⟩
  have hAt0 : At0 w [{ al := some 9, g := 0, big := false, row := .agg #[.bool false, .slice none 0 0, .slice none 0 0], st := 12, src := 5 }, { al := some 10, g := 0, big := false, row := .agg #[.bool false, .slice none 0 0, .slice none 0 0], st := 13, src := 6 }, { al := some 11, g := 0, big := false, row := .agg #[.bool false, .slice none 0 0, .slice none 0 0], st := 14, src := 7 }] [] w0 := At0.of hG0 ⟨fun h => (by cases h), fun h => (by cases h), fun h => (by cases h), trivial⟩ (by (simp [Apart0] <;> omega)) trivial
  clear hG0 
  refine text_cells (F := ?F4) w ([.eq (.string (a)), .eq (.string (b)), .eq (.string (c)), .three (p) (q) (r) true, .three (p) (q) (r) true, .num (p), .num (q), .num (r), .eq (.bool true), .any, .any, .any, .any, .any, .any, .eq (.bool true)] : List Vs) _ _ (by kernel_rfl) hAt0 ?hF4 ?st4 ?en4
  case hF4 =>
    intro vals
    simp only [Ja.fillL, Act.put, List.setIfInBounds_toArray, List.set_cons_zero, List.set_cons_succ, Nat.reduceAdd]
    exact rfl
  case st4 =>
    clear hAt0
    intro hctx
    refine Ja.Steps.cons (JC.other hctx (by kernel_rfl) (by rfl) (by kernel_rfl) (by kernel_rfl) ?_) ?_
    · intro L vals W hL hJ hd K hK
      have hQ := hJ.q
      go_simp
      exact hK.out (.string (a)) _ _ (by kernel_rfl) rfl (Q.refl _)
    refine Ja.Steps.cons (JC.other hctx (by kernel_rfl) (by rfl) (by kernel_rfl) (by kernel_rfl) ?_) ?_
    · intro L vals W hL hJ hd K hK
      have hQ := hJ.q
      go_simp
      exact hK.out (.string (b)) _ _ (by kernel_rfl) rfl (Q.refl _)
    refine Ja.Steps.cons (JC.other hctx (by kernel_rfl) (by rfl) (by kernel_rfl) (by kernel_rfl) ?_) ?_
    · intro L vals W hL hJ hd K hK
      have hQ := hJ.q
      go_simp
      exact hK.out (.string (c)) _ _ (by kernel_rfl) rfl (Q.refl _)
    refine Ja.Steps.cons (JC.other hctx (by kernel_rfl) (by rfl) (by kernel_rfl) (by kernel_rfl) ?_) ?_
    · intro L vals W hL hJ hd K hK
      have hQ := hJ.q
      have d0 : vals 0 = .string (a) := hd 0 (by kernel_rfl)
      generalize vals 0 = u0 at d0 hK ⊢
      subst d0
      have d1 : vals 1 = .string (b) := hd 1 (by kernel_rfl)
      generalize vals 1 = u1 at d1 hK ⊢
      subst d1
      have d2 : vals 2 = .string (c) := hd 2 (by kernel_rfl)
      generalize vals 2 = u2 at d2 hK ⊢
      subst d2
      go_simp
      (with_reducible refine (q_three a b c W (hT.q hQ) ha hb hc).mono ?_)
      rintro e W9 ⟨x, y, z, rfl, hx9, hy9, hz9, hq9⟩
      exact hK.out (.tuple #[x, y, z, .bool (decide ((parseS a.data.toList).1 = 0) && decide ((parseS b.data.toList).1 = 0) && decide ((parseS c.data.toList).1 = 0))]) W9 _ (by kernel_rfl) ⟨x, y, z, by rw [HI.out], HP.out ▸ hx9, HQ.out ▸ hy9, HR.out ▸ hz9⟩ hq9
    refine Ja.Steps.cons (JC.other hctx (by kernel_rfl) (by rfl) (by kernel_rfl) (by kernel_rfl) ?_) ?_
    · intro L vals W hL hJ hd K hK
      have hQ := hJ.q
      have d3 : ∃ x y z, vals 3 = .tuple #[x, y, z, .bool true] ∧ Nq W x (p) ∧ Nq W y (q) ∧ Nq W z (r) := hd 3 (by kernel_rfl)
      go_simp
      exact hK.out (vals 3) _ _ (by kernel_rfl) d3 (Q.refl _)
    refine Ja.Steps.cons (JC.other hctx (by kernel_rfl) (by rfl) (by kernel_rfl) (by kernel_rfl) ?_) ?_
    · intro L vals W hL hJ hd K hK
      have hQ := hJ.q
      have d4 : ∃ x y z, vals 4 = .tuple #[x, y, z, .bool true] ∧ Nq W x (p) ∧ Nq W y (q) ∧ Nq W z (r) := hd 4 (by kernel_rfl)
      generalize vals 4 = u4 at d4 hK ⊢
      obtain ⟨rx, ry, rz, rfl, hrx, hry, hrz⟩ := d4
      go_simp
      exact hK.out rx _ _ (by kernel_rfl) hrx (Q.refl _)
    refine Ja.Steps.cons (JC.other hctx (by kernel_rfl) (by rfl) (by kernel_rfl) (by kernel_rfl) ?_) ?_
    · intro L vals W hL hJ hd K hK
      have hQ := hJ.q
      have d4 : ∃ x y z, vals 4 = .tuple #[x, y, z, .bool true] ∧ Nq W x (p) ∧ Nq W y (q) ∧ Nq W z (r) := hd 4 (by kernel_rfl)
      generalize vals 4 = u4 at d4 hK ⊢
      obtain ⟨rx, ry, rz, rfl, hrx, hry, hrz⟩ := d4
      go_simp
      exact hK.out ry _ _ (by kernel_rfl) hry (Q.refl _)
    refine Ja.Steps.cons (JC.other hctx (by kernel_rfl) (by rfl) (by kernel_rfl) (by kernel_rfl) ?_) ?_
    · intro L vals W hL hJ hd K hK
      have hQ := hJ.q
      have d4 : ∃ x y z, vals 4 = .tuple #[x, y, z, .bool true] ∧ Nq W x (p) ∧ Nq W y (q) ∧ Nq W z (r) := hd 4 (by kernel_rfl)
      generalize vals 4 = u4 at d4 hK ⊢
      obtain ⟨rx, ry, rz, rfl, hrx, hry, hrz⟩ := d4
      go_simp
      exact hK.out rz _ _ (by kernel_rfl) hrz (Q.refl _)
    refine Ja.Steps.cons (JC.other hctx (by kernel_rfl) (by rfl) (by kernel_rfl) (by kernel_rfl) ?_) ?_
    · intro L vals W hL hJ hd K hK
      have hQ := hJ.q
      have d4 : ∃ x y z, vals 4 = .tuple #[x, y, z, .bool true] ∧ Nq W x (p) ∧ Nq W y (q) ∧ Nq W z (r) := hd 4 (by kernel_rfl)
      generalize vals 4 = u4 at d4 hK ⊢
      obtain ⟨rx, ry, rz, rfl, hrx, hry, hrz⟩ := d4
      go_simp
      exact hK.out (.bool true) _ _ (by kernel_rfl) rfl (Q.refl _)
    refine Ja.Steps.cons (JC.alloc (n := 0) (cells := #[.bool false, .slice none 0 0, .slice none 0 0]) (t := 25) hctx (by kernel_rfl) (by rfl) (by kernel_rfl) (by rfl) (by rfl) (by kernel_rfl) (by rfl) (fun W => NbV.of (Nb.new W _ _ _)) ?_) ?_
    · intro vals W K hK
      go_simp
      exact hK.out _ (by kernel_rfl)
    refine Ja.Steps.cons (JC.alloc (n := 1) (cells := #[.bool false, .slice none 0 0, .slice none 0 0]) (t := 25) hctx (by kernel_rfl) (by rfl) (by kernel_rfl) (by rfl) (by rfl) (by kernel_rfl) (by rfl) (fun W => NbV.of (Nb.new W _ _ _)) ?_) ?_
    · intro vals W K hK
      go_simp
      exact hK.out _ (by kernel_rfl)
    refine Ja.Steps.cons (JC.alloc (n := 2) (cells := #[.bool false, .slice none 0 0, .slice none 0 0]) (t := 25) hctx (by kernel_rfl) (by rfl) (by kernel_rfl) (by rfl) (by rfl) (by kernel_rfl) (by rfl) (fun W => NbV.of (Nb.new W _ _ _)) ?_) ?_
    · intro vals W K hK
      go_simp
      exact hK.out _ (by kernel_rfl)
    refine Ja.Steps.cons (JC.store (n := 0) hctx (by kernel_rfl) (by rfl) (by kernel_rfl) (by rfl) (by rfl) (by kernel_rfl) (by rfl) ?_) ?_
    · intro L vals W g old hJ hp ho hs K hK
      have hs9 : Nq W (vals 5) (p) := hs
      have hp9 : vals 9 = .pointer (some ⟨g, 0, none⟩) := hp
      dsimp only at hK
      generalize vals 9 = ua at hp9 hK ⊢
      subst hp9
      generalize vals 5 = uj at hs9 hK ⊢
      obtain ⟨e1, C1, i1, j1, C2, i2, j2, rfl, -⟩ := Nq.form hs9
      obtain ⟨f1, D1, x1, y1, D2, x2, y2, ho1, hb⟩ := ho
      have fz := hb.frozen
      obtain ⟨r0, r1, r2⟩ := hb.cells
      clear hb ho1
      go_simp
      exact hK.out undef _ _ (by kernel_rfl) PutV.of
    refine Ja.Steps.cons (JC.store (n := 1) hctx (by kernel_rfl) (by rfl) (by kernel_rfl) (by rfl) (by rfl) (by kernel_rfl) (by rfl) ?_) ?_
    · intro L vals W g old hJ hp ho hs K hK
      have hs9 : Nq W (vals 6) (q) := hs
      have hp9 : vals 10 = .pointer (some ⟨g, 0, none⟩) := hp
      dsimp only at hK
      generalize vals 10 = ua at hp9 hK ⊢
      subst hp9
      generalize vals 6 = uj at hs9 hK ⊢
      obtain ⟨e1, C1, i1, j1, C2, i2, j2, rfl, -⟩ := Nq.form hs9
      obtain ⟨f1, D1, x1, y1, D2, x2, y2, ho1, hb⟩ := ho
      have fz := hb.frozen
      obtain ⟨r0, r1, r2⟩ := hb.cells
      clear hb ho1
      go_simp
      exact hK.out undef _ _ (by kernel_rfl) PutV.of
    refine Ja.Steps.cons (JC.store (n := 2) hctx (by kernel_rfl) (by rfl) (by kernel_rfl) (by rfl) (by rfl) (by kernel_rfl) (by rfl) ?_) ?_
    · intro L vals W g old hJ hp ho hs K hK
      have hs9 : Nq W (vals 7) (r) := hs
      have hp9 : vals 11 = .pointer (some ⟨g, 0, none⟩) := hp
      dsimp only at hK
      generalize vals 11 = ua at hp9 hK ⊢
      subst hp9
      generalize vals 7 = uj at hs9 hK ⊢
      obtain ⟨e1, C1, i1, j1, C2, i2, j2, rfl, -⟩ := Nq.form hs9
      obtain ⟨f1, D1, x1, y1, D2, x2, y2, ho1, hb⟩ := ho
      have fz := hb.frozen
      obtain ⟨r0, r1, r2⟩ := hb.cells
      clear hb ho1
      go_simp
      exact hK.out undef _ _ (by kernel_rfl) PutV.of
    refine Ja.Steps.cons (JC.other hctx (by kernel_rfl) (by rfl) (by kernel_rfl) (by kernel_rfl) ?_) ?_
    · intro L vals W hL hJ hd K hK
      have hQ := hJ.q
      have d8 : vals 8 = .bool true := hd 8 (by kernel_rfl)
      generalize vals 8 = u8 at d8 hK ⊢
      subst d8
      go_simp
      exact hK.out (.bool true) _ _ (by kernel_rfl) rfl (Q.refl _)
    exact Ja.Steps.nil
  intro L vals w1 hall hJ
  clear hAt0
  have hG1 := hJ.q
  obtain ⟨gX, eX, geX, qX⟩ := hJ.fresh 0 rfl rfl (hall 9 (by decide)) (hall 12 (by decide))
  have nX1 : Nq w1 (vals 5) (p) := hJ.s 5 (hall 5 (by decide))
  obtain ⟨sX, AX1, kX1, cX1, AX2, kX2, cX2, yX, hX1⟩ := qX
  change Nb w1 (gX) (sX) (.slice AX1 kX1 cX1) (.slice AX2 kX2 cX2) at hX1
  try dsimp only at yX
  rw [yX] at nX1
  clear yX
  obtain ⟨gY, eY, geY, qY⟩ := hJ.fresh 1 rfl rfl (hall 10 (by decide)) (hall 13 (by decide))
  have nY1 : Nq w1 (vals 6) (q) := hJ.s 6 (hall 6 (by decide))
  obtain ⟨sY, AY1, kY1, cY1, AY2, kY2, cY2, yY, hY1⟩ := qY
  change Nb w1 (gY) (sY) (.slice AY1 kY1 cY1) (.slice AY2 kY2 cY2) at hY1
  try dsimp only at yY
  rw [yY] at nY1
  clear yY
  obtain ⟨gZ, eZ, geZ, qZ⟩ := hJ.fresh 2 rfl rfl (hall 11 (by decide)) (hall 14 (by decide))
  have nZ1 : Nq w1 (vals 7) (r) := hJ.s 7 (hall 7 (by decide))
  obtain ⟨sZ, AZ1, kZ1, cZ1, AZ2, kZ2, cZ2, yZ, hZ1⟩ := qZ
  change Nb w1 (gZ) (sZ) (.slice AZ1 kZ1 cZ1) (.slice AZ2 kZ2 cZ2) at hZ1
  try dsimp only at yZ
  rw [yZ] at nZ1
  clear yZ
  have neYX : gY ≠ gX := hJ.ne 1 0 (by decide) rfl rfl (hall 10 (by decide)) (hall 9 (by decide)) eY eX
  have neZX : gZ ≠ gX := hJ.ne 2 0 (by decide) rfl rfl (hall 11 (by decide)) (hall 9 (by decide)) eZ eX
  have neZY : gZ ≠ gY := hJ.ne 2 1 (by decide) rfl rfl (hall 11 (by decide)) (hall 10 (by decide)) eZ eY
  rw [eX]
  clear eX
  rw [eY]
  clear eY
  rw [eZ]
  clear eZ
  have f10 : vals 15 = .bool true := hJ.s 15 (hall 15 (by decide))
  rw [f10]
  clear hall hJ
  go_upto_region 4 with fail
  obtain ⟨k, hk⟩ : ∃ x, rc p q = x := ⟨_, rfl⟩
  obtain ⟨d, hd⟩ : ∃ x, rc q r = x := ⟨_, rfl⟩
  obtain ⟨e, he⟩ : ∃ x, sn r = x := ⟨_, rfl⟩
  have hkb := rc_bounds p q; have heb := sn_bounds r; rw [hk] at hkb; rw [he] at heb
  have hm := mul_bounds hkb heb
  have HK := Lib.hid hk
  have HD := Lib.hid hd
  have HE := Lib.hid he
  have HKB := Lib.hid hkb
  have HM := Lib.hid hm
  clear hk hd he hkb heb hm
  have B4 : Hid (64 * (sz (p) + sz (q)) + 400 ≤ LIM) := Lib.hid (by have h0 := Z1.out; have h1 := Z2.out; rw [LIM_eq]; omega)
  have B5 : Hid (64 * (sz (q) + sz (r)) + 400 ≤ LIM) := Lib.hid (by have h0 := Z2.out; have h1 := Z3.out; rw [LIM_eq]; omega)
  refine region_each (F := ?F5) ([.num (p), .num (q), .eq (.int .i64 (k)), .num (q), .num (r), .eq (.int .i64 (d)), .eq (.int .i64 (k)), .eq (.int .i64 (d))] : List Vs) (by kernel_rfl) (by kernel_rfl) ?hF5 ?st5 ?en5
  case hF5 =>
    intro vals
    simp only [Ja.fillL, Act.put, List.setIfInBounds_toArray, List.set_cons_zero, List.set_cons_succ, Nat.reduceAdd]
    exact rfl
  case st5 =>
    intro hctx
    refine Ja.Steps.cons (Each.yes hctx (by rfl) (by kernel_rfl) ?_) ?_
    · intro vals W hM hd K hK
      have hN : Q w1 W := (Q.refl _).drew.trans hM
      have hQ := hG1.trans hN
      obtain ⟨x0, x1, x2⟩ := (hX1.q hN).cells
      go_simp
      exact hK.out (.agg #[.bool sX, .slice AX1 kX1 cX1, .slice AX2 kX2 cX2]) _ _ (by kernel_rfl) (nX1.q hN) (Q.refl _)
    refine Ja.Steps.cons (Each.yes hctx (by rfl) (by kernel_rfl) ?_) ?_
    · intro vals W hM hd K hK
      have hN : Q w1 W := (Q.refl _).drew.trans hM
      have hQ := hG1.trans hN
      obtain ⟨y0, y1, y2⟩ := (hY1.q hN).cells
      go_simp
      exact hK.out (.agg #[.bool sY, .slice AY1 kY1 cY1, .slice AY2 kY2 cY2]) _ _ (by kernel_rfl) (nY1.q hN) (Q.refl _)
    refine Ja.Steps.cons (Each.yes hctx (by rfl) (by kernel_rfl) ?_) ?_
    · intro vals W hM hd K hK
      have hN : Q w1 W := (Q.refl _).drew.trans hM
      have hQ := hG1.trans hN
      have d0 : Nq W (vals 0) (p) := hd 0 (by kernel_rfl)
      have d1 : Nq W (vals 1) (q) := hd 1 (by kernel_rfl)
      go_simp
      (with_reducible refine (q_Cmp _ _ (p) (q) W d0 d1 B4.out).mono ?_)
      rintro e W9 ⟨rfl, hq9⟩
      exact hK.out (.int .i64 (rc (p) (q))) W9 _ (by kernel_rfl) (congrArg (Value.int .i64) (HK.out)) hq9
    refine Ja.Steps.cons (Each.yes hctx (by rfl) (by kernel_rfl) ?_) ?_
    · intro vals W hM hd K hK
      have hN : Q w1 W := (Q.refl _).drew.trans hM
      have hQ := hG1.trans hN
      obtain ⟨y0, y1, y2⟩ := (hY1.q hN).cells
      go_simp
      exact hK.out (.agg #[.bool sY, .slice AY1 kY1 cY1, .slice AY2 kY2 cY2]) _ _ (by kernel_rfl) (nY1.q hN) (Q.refl _)
    refine Ja.Steps.cons (Each.yes hctx (by rfl) (by kernel_rfl) ?_) ?_
    · intro vals W hM hd K hK
      have hN : Q w1 W := (Q.refl _).drew.trans hM
      have hQ := hG1.trans hN
      obtain ⟨z0, z1, z2⟩ := (hZ1.q hN).cells
      go_simp
      exact hK.out (.agg #[.bool sZ, .slice AZ1 kZ1 cZ1, .slice AZ2 kZ2 cZ2]) _ _ (by kernel_rfl) (nZ1.q hN) (Q.refl _)
    refine Ja.Steps.cons (Each.yes hctx (by rfl) (by kernel_rfl) ?_) ?_
    · intro vals W hM hd K hK
      have hN : Q w1 W := (Q.refl _).drew.trans hM
      have hQ := hG1.trans hN
      have d3 : Nq W (vals 3) (q) := hd 3 (by kernel_rfl)
      have d4 : Nq W (vals 4) (r) := hd 4 (by kernel_rfl)
      go_simp
      (with_reducible refine (q_Cmp _ _ (q) (r) W d3 d4 B5.out).mono ?_)
      rintro e W9 ⟨rfl, hq9⟩
      exact hK.out (.int .i64 (rc (q) (r))) W9 _ (by kernel_rfl) (congrArg (Value.int .i64) (HD.out)) hq9
    refine Ja.Steps.cons (Each.yes hctx (by rfl) (by kernel_rfl) ?_) ?_
    · intro vals W hM hd K hK
      have hN : Q w1 W := (Q.refl _).drew.trans hM
      have hQ := hG1.trans hN
      have d2 : vals 2 = .int .i64 (k) := hd 2 (by kernel_rfl)
      generalize vals 2 = u2 at d2 hK ⊢
      subst d2
      go_simp
      exact hK.out (.int .i64 (k)) _ _ (by kernel_rfl) rfl (Q.refl _)
    refine Ja.Steps.cons (Each.yes hctx (by rfl) (by kernel_rfl) ?_) ?_
    · intro vals W hM hd K hK
      have hN : Q w1 W := (Q.refl _).drew.trans hM
      have hQ := hG1.trans hN
      have d5 : vals 5 = .int .i64 (d) := hd 5 (by kernel_rfl)
      generalize vals 5 = u5 at d5 hK ⊢
      subst d5
      go_simp
      exact hK.out (.int .i64 (d)) _ _ (by kernel_rfl) rfl (Q.refl _)
    exact Ja.Steps.nil
  intro vals w2 hq2 hall
  have hG2 := hG1.trans hq2
  have hX2 := hX1.q hq2
  have nX2 := nX1.q hq2
  have hY2 := hY1.q hq2
  have nY2 := nY1.q hq2
  have hZ2 := hZ1.q hq2
  have nZ2 := nZ1.q hq2
  have f11 : vals 6 = .int .i64 (k) := hall 6 (by decide)
  rw [f11]
  have f12 : vals 7 = .int .i64 (d) := hall 7 (by decide)
  rw [f12]
  clear hall hq2 hG1 hX1 hY1 hZ1 nX1 nY1 nZ1
  go_upto_region 5 with fail
  by_cases hc0 : k ≤ 0
  · have HC0 := Lib.hid hc0; clear hc0
    by_cases hd0 : d ≤ 0
    · have HD0 := Lib.hid hd0; clear hd0
      have B6 : Hid (64 * (sz (q) + sz (p)) + 400 ≤ LIM) := Lib.hid (by have h0 := Z2.out; have h1 := Z1.out; rw [LIM_eq]; omega)
      have Z7 : Hid (sz ((p) - (q)) ≤ 8001) := Lib.hid (by have h9 := sz_sub (p) (q); have h0 := Z1.out; have h1 := Z2.out; omega)
      have B8 : Hid (64 * (sz (p) + sz (q)) + 400 ≤ LIM) := Lib.hid (by have h0 := Z1.out; have h1 := Z2.out; rw [LIM_eq]; omega)
      have B9 : Hid (64 * (sz (p) + sz (r)) + 400 ≤ LIM) := Lib.hid (by have h0 := Z1.out; have h1 := Z3.out; rw [LIM_eq]; omega)
      refine text_each (F := ?F6) ([.eq (.int .i64 (k)), .eq (.bool false), .eq (.bool false), .eq (.int .i64 (k)), .eq (.bool false), .eq (.bool false), .eq (.bool false), .num (q), .num (p), .eq (.int .i64 (-k)), .eq (.int .i64 (k)), .eq (.int .i64 (-k)), .eq (.bool false), .eq (.bool false), .eq (.bool false), .num (p), .num (q), .num ((p) - (q)), .eq (.int .i64 (k)), .eq (.int .i64 (k)), .eq (.bool false), .eq (.bool false), .eq (.bool false), .eq (.int .i64 (k)), .eq (.bool true), .eq (.bool true), .eq (.int .i64 (d)), .eq (.bool true), .eq (.bool true), .eq (.bool true), .num (p), .num (r), .eq (.int .i64 (min k d)), .eq (.int .i64 (k)), .eq (.int .i64 (d)), .eq (.int .i64 (min k d)), .eq (.bool false), .eq (.bool false), .eq (.bool false)] : List Vs) (by kernel_rfl) ?hF6 ?st6 ?en6
      case hF6 =>
        intro vals
        simp only [Ja.fillL, Act.put, List.setIfInBounds_toArray, List.set_cons_zero, List.set_cons_succ, Nat.reduceAdd]
        exact rfl
      case st6 =>
        intro hctx
        refine Ja.Steps.cons (Each.yes hctx (by rfl) (by kernel_rfl) ?_) ?_
        · intro vals W hM hd K hK
          have hN : Q w2 W := hM
          have hQ := hG2.trans hN
          go_simp
          exact hK.out (.int .i64 (k)) _ _ (by kernel_rfl) rfl (Q.refl _)
        refine Ja.Steps.cons (Each.yes hctx (by rfl) (by kernel_rfl) ?_) ?_
        · intro vals W hM hd K hK
          have hN : Q w2 W := hM
          have hQ := hG2.trans hN
          have d0 : vals 0 = .int .i64 (k) := hd 0 (by kernel_rfl)
          generalize vals 0 = u0 at d0 hK ⊢
          subst d0
          go_simp
          rw [decide_eq_false (show ¬ ((k : Int) < -1) from by have := HKB.out; omega)]
          exact hK.out (.bool false) _ _ (by kernel_rfl) rfl (Q.refl _)
        refine Ja.Steps.cons (Each.yes hctx (by rfl) (by kernel_rfl) ?_) ?_
        · intro vals W hM hd K hK
          have hN : Q w2 W := hM
          have hQ := hG2.trans hN
          have d1 : vals 1 = .bool false := hd 1 (by kernel_rfl)
          generalize vals 1 = u1 at d1 hK ⊢
          subst d1
          go_simp
          exact hK.out (.bool false) _ _ (by kernel_rfl) rfl (Q.refl _)
        refine Ja.Steps.cons (Each.yes hctx (by rfl) (by kernel_rfl) ?_) ?_
        · intro vals W hM hd K hK
          have hN : Q w2 W := hM
          have hQ := hG2.trans hN
          go_simp
          exact hK.out (.int .i64 (k)) _ _ (by kernel_rfl) rfl (Q.refl _)
        refine Ja.Steps.cons (Each.yes hctx (by rfl) (by kernel_rfl) ?_) ?_
        · intro vals W hM hd K hK
          have hN : Q w2 W := hM
          have hQ := hG2.trans hN
          have d3 : vals 3 = .int .i64 (k) := hd 3 (by kernel_rfl)
          generalize vals 3 = u3 at d3 hK ⊢
          subst d3
          go_simp
          rw [decide_eq_false (show ¬ ((k : Int) > 1) from by have := HKB.out; omega)]
          exact hK.out (.bool false) _ _ (by kernel_rfl) rfl (Q.refl _)
        refine Ja.Steps.cons (Each.yes hctx (by rfl) (by kernel_rfl) ?_) ?_
        · intro vals W hM hd K hK
          have hN : Q w2 W := hM
          have hQ := hG2.trans hN
          have d2 : vals 2 = .bool false := hd 2 (by kernel_rfl)
          generalize vals 2 = u2 at d2 hK ⊢
          subst d2
          have d4 : vals 4 = .bool false := hd 4 (by kernel_rfl)
          generalize vals 4 = u4 at d4 hK ⊢
          subst d4
          go_simp
          exact hK.out (.bool false) _ _ (by kernel_rfl) rfl (Q.refl _)
        refine Ja.Steps.cons (Each.yes hctx (by rfl) (by kernel_rfl) ?_) ?_
        · intro vals W hM hd K hK
          have hN : Q w2 W := hM
          have hQ := hG2.trans hN
          have d5 : vals 5 = .bool false := hd 5 (by kernel_rfl)
          generalize vals 5 = u5 at d5 hK ⊢
          subst d5
          go_simp
          exact hK.out (.bool false) _ _ (by kernel_rfl) rfl (Q.refl _)
        refine Ja.Steps.cons (Each.yes hctx (by rfl) (by kernel_rfl) ?_) ?_
        · intro vals W hM hd K hK
          have hN : Q w2 W := hM
          have hQ := hG2.trans hN
          obtain ⟨y0, y1, y2⟩ := (hY2.q hN).cells
          go_simp
          exact hK.out (.agg #[.bool sY, .slice AY1 kY1 cY1, .slice AY2 kY2 cY2]) _ _ (by kernel_rfl) (nY2.q hN) (Q.refl _)
        refine Ja.Steps.cons (Each.yes hctx (by rfl) (by kernel_rfl) ?_) ?_
        · intro vals W hM hd K hK
          have hN : Q w2 W := hM
          have hQ := hG2.trans hN
          obtain ⟨x0, x1, x2⟩ := (hX2.q hN).cells
          go_simp
          exact hK.out (.agg #[.bool sX, .slice AX1 kX1 cX1, .slice AX2 kX2 cX2]) _ _ (by kernel_rfl) (nX2.q hN) (Q.refl _)
        refine Ja.Steps.cons (Each.yes hctx (by rfl) (by kernel_rfl) ?_) ?_
        · intro vals W hM hd K hK
          have hN : Q w2 W := hM
          have hQ := hG2.trans hN
          have d7 : Nq W (vals 7) (q) := hd 7 (by kernel_rfl)
          have d8 : Nq W (vals 8) (p) := hd 8 (by kernel_rfl)
          go_simp
          (with_reducible refine (q_Cmp _ _ (q) (p) W d7 d8 B6.out).mono ?_)
          rintro e W9 ⟨rfl, hq9⟩
          exact hK.out (.int .i64 (rc (q) (p))) W9 _ (by kernel_rfl) (congrArg (Value.int .i64) ((rc_swap p q).trans (by rw [HK.out]))) hq9
        refine Ja.Steps.cons (Each.yes hctx (by rfl) (by kernel_rfl) ?_) ?_
        · intro vals W hM hd K hK
          have hN : Q w2 W := hM
          have hQ := hG2.trans hN
          go_simp
          exact hK.out (.int .i64 (k)) _ _ (by kernel_rfl) rfl (Q.refl _)
        refine Ja.Steps.cons (Each.yes hctx (by rfl) (by kernel_rfl) ?_) ?_
        · intro vals W hM hd K hK
          have hN : Q w2 W := hM
          have hQ := hG2.trans hN
          have d10 : vals 10 = .int .i64 (k) := hd 10 (by kernel_rfl)
          generalize vals 10 = u10 at d10 hK ⊢
          subst d10
          go_simp
          rw [wrap_one (z := -k) ⟨by have := HKB.out; omega, by have := HKB.out; omega⟩]
          exact hK.out (.int .i64 (-k)) _ _ (by kernel_rfl) rfl (Q.refl _)
        refine Ja.Steps.cons (Each.yes hctx (by rfl) (by kernel_rfl) ?_) ?_
        · intro vals W hM hd K hK
          have hN : Q w2 W := hM
          have hQ := hG2.trans hN
          have d9 : vals 9 = .int .i64 (-k) := hd 9 (by kernel_rfl)
          generalize vals 9 = u9 at d9 hK ⊢
          subst d9
          have d11 : vals 11 = .int .i64 (-k) := hd 11 (by kernel_rfl)
          generalize vals 11 = u11 at d11 hK ⊢
          subst d11
          go_simp
          exact hK.out (.bool false) _ _ (by kernel_rfl) rfl (Q.refl _)
        refine Ja.Steps.cons (Each.yes hctx (by rfl) (by kernel_rfl) ?_) ?_
        · intro vals W hM hd K hK
          have hN : Q w2 W := hM
          have hQ := hG2.trans hN
          have d6 : vals 6 = .bool false := hd 6 (by kernel_rfl)
          generalize vals 6 = u6 at d6 hK ⊢
          subst d6
          have d12 : vals 12 = .bool false := hd 12 (by kernel_rfl)
          generalize vals 12 = u12 at d12 hK ⊢
          subst d12
          go_simp
          exact hK.out (.bool false) _ _ (by kernel_rfl) rfl (Q.refl _)
        refine Ja.Steps.cons (Each.yes hctx (by rfl) (by kernel_rfl) ?_) ?_
        · intro vals W hM hd K hK
          have hN : Q w2 W := hM
          have hQ := hG2.trans hN
          have d13 : vals 13 = .bool false := hd 13 (by kernel_rfl)
          generalize vals 13 = u13 at d13 hK ⊢
          subst d13
          go_simp
          exact hK.out (.bool false) _ _ (by kernel_rfl) rfl (Q.refl _)
        refine Ja.Steps.cons (Each.yes hctx (by rfl) (by kernel_rfl) ?_) ?_
        · intro vals W hM hd K hK
          have hN : Q w2 W := hM
          have hQ := hG2.trans hN
          obtain ⟨x0, x1, x2⟩ := (hX2.q hN).cells
          go_simp
          exact hK.out (.agg #[.bool sX, .slice AX1 kX1 cX1, .slice AX2 kX2 cX2]) _ _ (by kernel_rfl) (nX2.q hN) (Q.refl _)
        refine Ja.Steps.cons (Each.yes hctx (by rfl) (by kernel_rfl) ?_) ?_
        · intro vals W hM hd K hK
          have hN : Q w2 W := hM
          have hQ := hG2.trans hN
          obtain ⟨y0, y1, y2⟩ := (hY2.q hN).cells
          go_simp
          exact hK.out (.agg #[.bool sY, .slice AY1 kY1 cY1, .slice AY2 kY2 cY2]) _ _ (by kernel_rfl) (nY2.q hN) (Q.refl _)
        refine Ja.Steps.cons (Each.yes hctx (by rfl) (by kernel_rfl) ?_) ?_
        · intro vals W hM hd K hK
          have hN : Q w2 W := hM
          have hQ := hG2.trans hN
          have d15 : Nq W (vals 15) (p) := hd 15 (by kernel_rfl)
          have d16 : Nq W (vals 16) (q) := hd 16 (by kernel_rfl)
          go_simp
          (with_reducible refine (q_Sub _ _ (p) (q) W (hT.q hQ) d15 d16 B8.out).mono ?_)
          rintro e W9 ⟨r, rfl, hr, hq9⟩
          exact hK.out r W9 _ (by kernel_rfl) hr hq9
        refine Ja.Steps.cons (Each.yes hctx (by rfl) (by kernel_rfl) ?_) ?_
        · intro vals W hM hd K hK
          have hN : Q w2 W := hM
          have hQ := hG2.trans hN
          have d17 : Nq W (vals 17) ((p) - (q)) := hd 17 (by kernel_rfl)
          go_simp
          (with_reducible refine (q_Sign _ ((p) - (q)) W d17).mono ?_)
          rintro e W9 ⟨rfl, hq9⟩
          exact hK.out (.int .i64 (sn ((p) - (q)))) W9 _ (by kernel_rfl) (congrArg (Value.int .i64) ((sn_sub p q).trans HK.out)) hq9
        refine Ja.Steps.cons (Each.yes hctx (by rfl) (by kernel_rfl) ?_) ?_
        · intro vals W hM hd K hK
          have hN : Q w2 W := hM
          have hQ := hG2.trans hN
          go_simp
          exact hK.out (.int .i64 (k)) _ _ (by kernel_rfl) rfl (Q.refl _)
        refine Ja.Steps.cons (Each.yes hctx (by rfl) (by kernel_rfl) ?_) ?_
        · intro vals W hM hd K hK
          have hN : Q w2 W := hM
          have hQ := hG2.trans hN
          have d18 : vals 18 = .int .i64 (k) := hd 18 (by kernel_rfl)
          generalize vals 18 = u18 at d18 hK ⊢
          subst d18
          have d19 : vals 19 = .int .i64 (k) := hd 19 (by kernel_rfl)
          generalize vals 19 = u19 at d19 hK ⊢
          subst d19
          go_simp
          exact hK.out (.bool false) _ _ (by kernel_rfl) rfl (Q.refl _)
        refine Ja.Steps.cons (Each.yes hctx (by rfl) (by kernel_rfl) ?_) ?_
        · intro vals W hM hd K hK
          have hN : Q w2 W := hM
          have hQ := hG2.trans hN
          have d14 : vals 14 = .bool false := hd 14 (by kernel_rfl)
          generalize vals 14 = u14 at d14 hK ⊢
          subst d14
          have d20 : vals 20 = .bool false := hd 20 (by kernel_rfl)
          generalize vals 20 = u20 at d20 hK ⊢
          subst d20
          go_simp
          exact hK.out (.bool false) _ _ (by kernel_rfl) rfl (Q.refl _)
        refine Ja.Steps.cons (Each.yes hctx (by rfl) (by kernel_rfl) ?_) ?_
        · intro vals W hM hd K hK
          have hN : Q w2 W := hM
          have hQ := hG2.trans hN
          have d21 : vals 21 = .bool false := hd 21 (by kernel_rfl)
          generalize vals 21 = u21 at d21 hK ⊢
          subst d21
          go_simp
          exact hK.out (.bool false) _ _ (by kernel_rfl) rfl (Q.refl _)
        refine Ja.Steps.cons (Each.yes hctx (by rfl) (by kernel_rfl) ?_) ?_
        · intro vals W hM hd K hK
          have hN : Q w2 W := hM
          have hQ := hG2.trans hN
          go_simp
          exact hK.out (.int .i64 (k)) _ _ (by kernel_rfl) rfl (Q.refl _)
        refine Ja.Steps.cons (Each.yes hctx (by rfl) (by kernel_rfl) ?_) ?_
        · intro vals W hM hd K hK
          have hN : Q w2 W := hM
          have hQ := hG2.trans hN
          have d23 : vals 23 = .int .i64 (k) := hd 23 (by kernel_rfl)
          generalize vals 23 = u23 at d23 hK ⊢
          subst d23
          go_simp
          rw [decide_eq_true (show ((k : Int) ≤ 0) from HC0.out)]
          exact hK.out (.bool true) _ _ (by kernel_rfl) rfl (Q.refl _)
        refine Ja.Steps.cons (Each.yes hctx (by rfl) (by kernel_rfl) ?_) ?_
        · intro vals W hM hd K hK
          have hN : Q w2 W := hM
          have hQ := hG2.trans hN
          have d24 : vals 24 = .bool true := hd 24 (by kernel_rfl)
          generalize vals 24 = u24 at d24 hK ⊢
          subst d24
          go_simp
          exact hK.out (.bool true) _ _ (by kernel_rfl) rfl (Q.refl _)
        refine Ja.Steps.cons (Each.yes hctx (by rfl) (by kernel_rfl) ?_) ?_
        · intro vals W hM hd K hK
          have hN : Q w2 W := hM
          have hQ := hG2.trans hN
          go_simp
          exact hK.out (.int .i64 (d)) _ _ (by kernel_rfl) rfl (Q.refl _)
        refine Ja.Steps.cons (Each.yes hctx (by rfl) (by kernel_rfl) ?_) ?_
        · intro vals W hM hd K hK
          have hN : Q w2 W := hM
          have hQ := hG2.trans hN
          have d26 : vals 26 = .int .i64 (d) := hd 26 (by kernel_rfl)
          generalize vals 26 = u26 at d26 hK ⊢
          subst d26
          go_simp
          rw [decide_eq_true (show ((d : Int) ≤ 0) from HD0.out)]
          exact hK.out (.bool true) _ _ (by kernel_rfl) rfl (Q.refl _)
        refine Ja.Steps.cons (Each.yes hctx (by rfl) (by kernel_rfl) ?_) ?_
        · intro vals W hM hd K hK
          have hN : Q w2 W := hM
          have hQ := hG2.trans hN
          have d25 : vals 25 = .bool true := hd 25 (by kernel_rfl)
          generalize vals 25 = u25 at d25 hK ⊢
          subst d25
          have d27 : vals 27 = .bool true := hd 27 (by kernel_rfl)
          generalize vals 27 = u27 at d27 hK ⊢
          subst d27
          go_simp
          exact hK.out (.bool true) _ _ (by kernel_rfl) rfl (Q.refl _)
        refine Ja.Steps.cons (Each.yes hctx (by rfl) (by kernel_rfl) ?_) ?_
        · intro vals W hM hd K hK
          have hN : Q w2 W := hM
          have hQ := hG2.trans hN
          have d28 : vals 28 = .bool true := hd 28 (by kernel_rfl)
          generalize vals 28 = u28 at d28 hK ⊢
          subst d28
          go_simp
          exact hK.out (.bool true) _ _ (by kernel_rfl) rfl (Q.refl _)
        refine Ja.Steps.cons (Each.yes hctx (by rfl) (by kernel_rfl) ?_) ?_
        · intro vals W hM hd K hK
          have hN : Q w2 W := hM
          have hQ := hG2.trans hN
          obtain ⟨x0, x1, x2⟩ := (hX2.q hN).cells
          go_simp
          exact hK.out (.agg #[.bool sX, .slice AX1 kX1 cX1, .slice AX2 kX2 cX2]) _ _ (by kernel_rfl) (nX2.q hN) (Q.refl _)
        refine Ja.Steps.cons (Each.yes hctx (by rfl) (by kernel_rfl) ?_) ?_
        · intro vals W hM hd K hK
          have hN : Q w2 W := hM
          have hQ := hG2.trans hN
          obtain ⟨z0, z1, z2⟩ := (hZ2.q hN).cells
          go_simp
          exact hK.out (.agg #[.bool sZ, .slice AZ1 kZ1 cZ1, .slice AZ2 kZ2 cZ2]) _ _ (by kernel_rfl) (nZ2.q hN) (Q.refl _)
        refine Ja.Steps.cons (Each.yes hctx (by rfl) (by kernel_rfl) ?_) ?_
        · intro vals W hM hd K hK
          have hN : Q w2 W := hM
          have hQ := hG2.trans hN
          have d30 : Nq W (vals 30) (p) := hd 30 (by kernel_rfl)
          have d31 : Nq W (vals 31) (r) := hd 31 (by kernel_rfl)
          go_simp
          (with_reducible refine (q_Cmp _ _ (p) (r) W d30 d31 B9.out).mono ?_)
          rintro e W9 ⟨rfl, hq9⟩
          exact hK.out (.int .i64 (rc (p) (r))) W9 _ (by kernel_rfl) (congrArg (Value.int .i64) ((rc_trans p q r (by rw [HK.out]; exact HC0.out) (by rw [HD.out]; exact HD0.out)).trans (by rw [HK.out, HD.out]))) hq9
        refine Ja.Steps.cons (Each.yes hctx (by rfl) (by kernel_rfl) ?_) ?_
        · intro vals W hM hd K hK
          have hN : Q w2 W := hM
          have hQ := hG2.trans hN
          go_simp
          exact hK.out (.int .i64 (k)) _ _ (by kernel_rfl) rfl (Q.refl _)
        refine Ja.Steps.cons (Each.yes hctx (by rfl) (by kernel_rfl) ?_) ?_
        · intro vals W hM hd K hK
          have hN : Q w2 W := hM
          have hQ := hG2.trans hN
          go_simp
          exact hK.out (.int .i64 (d)) _ _ (by kernel_rfl) rfl (Q.refl _)
        refine Ja.Steps.cons (Each.yes hctx (by rfl) (by kernel_rfl) ?_) ?_
        · intro vals W hM hd K hK
          have hN : Q w2 W := hM
          have hQ := hG2.trans hN
          have d33 : vals 33 = .int .i64 (k) := hd 33 (by kernel_rfl)
          generalize vals 33 = u33 at d33 hK ⊢
          subst d33
          have d34 : vals 34 = .int .i64 (d) := hd 34 (by kernel_rfl)
          generalize vals 34 = u34 at d34 hK ⊢
          subst d34
          go_simp
          exact hK.out (.int .i64 (min k d)) _ _ (by kernel_rfl) rfl (Q.refl _)
        refine Ja.Steps.cons (Each.yes hctx (by rfl) (by kernel_rfl) ?_) ?_
        · intro vals W hM hd K hK
          have hN : Q w2 W := hM
          have hQ := hG2.trans hN
          have d32 : vals 32 = .int .i64 (min k d) := hd 32 (by kernel_rfl)
          generalize vals 32 = u32 at d32 hK ⊢
          subst d32
          have d35 : vals 35 = .int .i64 (min k d) := hd 35 (by kernel_rfl)
          generalize vals 35 = u35 at d35 hK ⊢
          subst d35
          go_simp
          exact hK.out (.bool false) _ _ (by kernel_rfl) rfl (Q.refl _)
        refine Ja.Steps.cons (Each.yes hctx (by rfl) (by kernel_rfl) ?_) ?_
        · intro vals W hM hd K hK
          have hN : Q w2 W := hM
          have hQ := hG2.trans hN
          have d29 : vals 29 = .bool true := hd 29 (by kernel_rfl)
          generalize vals 29 = u29 at d29 hK ⊢
          subst d29
          have d36 : vals 36 = .bool false := hd 36 (by kernel_rfl)
          generalize vals 36 = u36 at d36 hK ⊢
          subst d36
          go_simp
          exact hK.out (.bool false) _ _ (by kernel_rfl) rfl (Q.refl _)
        refine Ja.Steps.cons (Each.yes hctx (by rfl) (by kernel_rfl) ?_) ?_
        · intro vals W hM hd K hK
          have hN : Q w2 W := hM
          have hQ := hG2.trans hN
          have d22 : vals 22 = .bool false := hd 22 (by kernel_rfl)
          generalize vals 22 = u22 at d22 hK ⊢
          subst d22
          have d37 : vals 37 = .bool false := hd 37 (by kernel_rfl)
          generalize vals 37 = u37 at d37 hK ⊢
          subst d37
          go_simp
          exact hK.out (.bool false) _ _ (by kernel_rfl) rfl (Q.refl _)
        exact Ja.Steps.nil
      intro vals w3 hq3 hall
      have hG3 := hG2.trans hq3
      have hX3 := hX2.q hq3
      have nX3 := nX2.q hq3
      have hY3 := hY2.q hq3
      have nY3 := nY2.q hq3
      have hZ3 := hZ2.q hq3
      have nZ3 := nZ2.q hq3
      have f69 : vals 38 = .bool false := hall 38 (by decide)
      rw [f69]
      clear hall hq3 hG2 hX2 hY2 hZ2 nX2 nY2 nZ2
      go_upto_region 7 with fail
      have Z10 : Hid (sz ((p) + (r)) ≤ 8001) := Lib.hid (by have h9 := sz_add (p) (r); have h0 := Z1.out; have h1 := Z3.out; omega)
      have B11 : Hid (64 * (sz (p) + sz (r)) + 400 ≤ LIM) := Lib.hid (by have h0 := Z1.out; have h1 := Z3.out; rw [LIM_eq]; omega)
      have Z12 : Hid (sz ((q) + (r)) ≤ 8001) := Lib.hid (by have h9 := sz_add (q) (r); have h0 := Z2.out; have h1 := Z3.out; omega)
      have B13 : Hid (64 * (sz (q) + sz (r)) + 400 ≤ LIM) := Lib.hid (by have h0 := Z2.out; have h1 := Z3.out; rw [LIM_eq]; omega)
      have B14 : Hid (64 * (sz ((p) + (r)) + sz ((q) + (r))) + 400 ≤ LIM) := Lib.hid (by have h0 := Z10.out; have h1 := Z12.out; rw [LIM_eq]; omega)
      have Z15 : Hid (sz ((p) * (r)) ≤ 4000) := Lib.hid (by have h9 := sz_mul (p) (r); have h0 := Z1.out; have h1 := Z3.out; omega)
      have B16 : Hid (16 * (sz (p) + sz (r)) + 100 ≤ LIM) := Lib.hid (by have h0 := Z1.out; have h1 := Z3.out; rw [LIM_eq]; omega)
      have Z17 : Hid (sz ((q) * (r)) ≤ 4000) := Lib.hid (by have h9 := sz_mul (q) (r); have h0 := Z2.out; have h1 := Z3.out; omega)
      have B18 : Hid (16 * (sz (q) + sz (r)) + 100 ≤ LIM) := Lib.hid (by have h0 := Z2.out; have h1 := Z3.out; rw [LIM_eq]; omega)
      have B19 : Hid (64 * (sz ((p) * (r)) + sz ((q) * (r))) + 400 ≤ LIM) := Lib.hid (by have h0 := Z15.out; have h1 := Z17.out; rw [LIM_eq]; omega)
      refine region_each (F := ?F7) ([.num (p), .num (r), .num ((p) + (r)), .num (q), .num (r), .num ((q) + (r)), .eq (.int .i64 (k)), .eq (.int .i64 (k)), .eq (.bool false), .eq (.bool false), .num (p), .num (r), .num ((p) * (r)), .num (q), .num (r), .num ((q) * (r)), .eq (.int .i64 (k * e)), .eq (.int .i64 (k)), .num (r), .eq (.int .i64 (e)), .eq (.int .i64 (k * e)), .eq (.bool false), .eq (.bool false)] : List Vs) (by kernel_rfl) (by kernel_rfl) ?hF7 ?st7 ?en7
      case hF7 =>
        intro vals
        simp only [Ja.fillL, Act.put, List.setIfInBounds_toArray, List.set_cons_zero, List.set_cons_succ, Nat.reduceAdd]
        exact rfl
      case st7 =>
        intro hctx
        refine Ja.Steps.cons (Each.yes hctx (by rfl) (by kernel_rfl) ?_) ?_
        · intro vals W hM hd K hK
          have hN : Q w3 W := (Q.refl _).drew.trans hM
          have hQ := hG3.trans hN
          obtain ⟨x0, x1, x2⟩ := (hX3.q hN).cells
          go_simp
          exact hK.out (.agg #[.bool sX, .slice AX1 kX1 cX1, .slice AX2 kX2 cX2]) _ _ (by kernel_rfl) (nX3.q hN) (Q.refl _)
        refine Ja.Steps.cons (Each.yes hctx (by rfl) (by kernel_rfl) ?_) ?_
        · intro vals W hM hd K hK
          have hN : Q w3 W := (Q.refl _).drew.trans hM
          have hQ := hG3.trans hN
          obtain ⟨z0, z1, z2⟩ := (hZ3.q hN).cells
          go_simp
          exact hK.out (.agg #[.bool sZ, .slice AZ1 kZ1 cZ1, .slice AZ2 kZ2 cZ2]) _ _ (by kernel_rfl) (nZ3.q hN) (Q.refl _)
        refine Ja.Steps.cons (Each.yes hctx (by rfl) (by kernel_rfl) ?_) ?_
        · intro vals W hM hd K hK
          have hN : Q w3 W := (Q.refl _).drew.trans hM
          have hQ := hG3.trans hN
          have d0 : Nq W (vals 0) (p) := hd 0 (by kernel_rfl)
          have d1 : Nq W (vals 1) (r) := hd 1 (by kernel_rfl)
          go_simp
          (with_reducible refine (q_Add _ _ (p) (r) W (hT.q hQ) d0 d1 B11.out).mono ?_)
          rintro e W9 ⟨r, rfl, hr, hq9⟩
          exact hK.out r W9 _ (by kernel_rfl) hr hq9
        refine Ja.Steps.cons (Each.yes hctx (by rfl) (by kernel_rfl) ?_) ?_
        · intro vals W hM hd K hK
          have hN : Q w3 W := (Q.refl _).drew.trans hM
          have hQ := hG3.trans hN
          obtain ⟨y0, y1, y2⟩ := (hY3.q hN).cells
          go_simp
          exact hK.out (.agg #[.bool sY, .slice AY1 kY1 cY1, .slice AY2 kY2 cY2]) _ _ (by kernel_rfl) (nY3.q hN) (Q.refl _)
        refine Ja.Steps.cons (Each.yes hctx (by rfl) (by kernel_rfl) ?_) ?_
        · intro vals W hM hd K hK
          have hN : Q w3 W := (Q.refl _).drew.trans hM
          have hQ := hG3.trans hN
          obtain ⟨z0, z1, z2⟩ := (hZ3.q hN).cells
          go_simp
          exact hK.out (.agg #[.bool sZ, .slice AZ1 kZ1 cZ1, .slice AZ2 kZ2 cZ2]) _ _ (by kernel_rfl) (nZ3.q hN) (Q.refl _)
        refine Ja.Steps.cons (Each.yes hctx (by rfl) (by kernel_rfl) ?_) ?_
        · intro vals W hM hd K hK
          have hN : Q w3 W := (Q.refl _).drew.trans hM
          have hQ := hG3.trans hN
          have d3 : Nq W (vals 3) (q) := hd 3 (by kernel_rfl)
          have d4 : Nq W (vals 4) (r) := hd 4 (by kernel_rfl)
          go_simp
          (with_reducible refine (q_Add _ _ (q) (r) W (hT.q hQ) d3 d4 B13.out).mono ?_)
          rintro e W9 ⟨r, rfl, hr, hq9⟩
          exact hK.out r W9 _ (by kernel_rfl) hr hq9
        refine Ja.Steps.cons (Each.yes hctx (by rfl) (by kernel_rfl) ?_) ?_
        · intro vals W hM hd K hK
          have hN : Q w3 W := (Q.refl _).drew.trans hM
          have hQ := hG3.trans hN
          have d2 : Nq W (vals 2) ((p) + (r)) := hd 2 (by kernel_rfl)
          have d5 : Nq W (vals 5) ((q) + (r)) := hd 5 (by kernel_rfl)
          go_simp
          (with_reducible refine (q_Cmp _ _ ((p) + (r)) ((q) + (r)) W d2 d5 B14.out).mono ?_)
          rintro e W9 ⟨rfl, hq9⟩
          exact hK.out (.int .i64 (rc ((p) + (r)) ((q) + (r)))) W9 _ (by kernel_rfl) (congrArg (Value.int .i64) ((rc_add p q r).trans HK.out)) hq9
        refine Ja.Steps.cons (Each.yes hctx (by rfl) (by kernel_rfl) ?_) ?_
        · intro vals W hM hd K hK
          have hN : Q w3 W := (Q.refl _).drew.trans hM
          have hQ := hG3.trans hN
          go_simp
          exact hK.out (.int .i64 (k)) _ _ (by kernel_rfl) rfl (Q.refl _)
        refine Ja.Steps.cons (Each.yes hctx (by rfl) (by kernel_rfl) ?_) ?_
        · intro vals W hM hd K hK
          have hN : Q w3 W := (Q.refl _).drew.trans hM
          have hQ := hG3.trans hN
          have d6 : vals 6 = .int .i64 (k) := hd 6 (by kernel_rfl)
          generalize vals 6 = u6 at d6 hK ⊢
          subst d6
          have d7 : vals 7 = .int .i64 (k) := hd 7 (by kernel_rfl)
          generalize vals 7 = u7 at d7 hK ⊢
          subst d7
          go_simp
          exact hK.out (.bool false) _ _ (by kernel_rfl) rfl (Q.refl _)
        refine Ja.Steps.cons (Each.yes hctx (by rfl) (by kernel_rfl) ?_) ?_
        · intro vals W hM hd K hK
          have hN : Q w3 W := (Q.refl _).drew.trans hM
          have hQ := hG3.trans hN
          have d8 : vals 8 = .bool false := hd 8 (by kernel_rfl)
          generalize vals 8 = u8 at d8 hK ⊢
          subst d8
          go_simp
          exact hK.out (.bool false) _ _ (by kernel_rfl) rfl (Q.refl _)
        refine Ja.Steps.cons (Each.yes hctx (by rfl) (by kernel_rfl) ?_) ?_
        · intro vals W hM hd K hK
          have hN : Q w3 W := (Q.refl _).drew.trans hM
          have hQ := hG3.trans hN
          obtain ⟨x0, x1, x2⟩ := (hX3.q hN).cells
          go_simp
          exact hK.out (.agg #[.bool sX, .slice AX1 kX1 cX1, .slice AX2 kX2 cX2]) _ _ (by kernel_rfl) (nX3.q hN) (Q.refl _)
        refine Ja.Steps.cons (Each.yes hctx (by rfl) (by kernel_rfl) ?_) ?_
        · intro vals W hM hd K hK
          have hN : Q w3 W := (Q.refl _).drew.trans hM
          have hQ := hG3.trans hN
          obtain ⟨z0, z1, z2⟩ := (hZ3.q hN).cells
          go_simp
          exact hK.out (.agg #[.bool sZ, .slice AZ1 kZ1 cZ1, .slice AZ2 kZ2 cZ2]) _ _ (by kernel_rfl) (nZ3.q hN) (Q.refl _)
        refine Ja.Steps.cons (Each.yes hctx (by rfl) (by kernel_rfl) ?_) ?_
        · intro vals W hM hd K hK
          have hN : Q w3 W := (Q.refl _).drew.trans hM
          have hQ := hG3.trans hN
          have d10 : Nq W (vals 10) (p) := hd 10 (by kernel_rfl)
          have d11 : Nq W (vals 11) (r) := hd 11 (by kernel_rfl)
          go_simp
          (with_reducible refine (q_Mul _ _ (p) (r) W (hT.q hQ) d10 d11 B16.out).mono ?_)
          rintro e W9 ⟨r, rfl, hr, hq9⟩
          exact hK.out r W9 _ (by kernel_rfl) hr hq9
        refine Ja.Steps.cons (Each.yes hctx (by rfl) (by kernel_rfl) ?_) ?_
        · intro vals W hM hd K hK
          have hN : Q w3 W := (Q.refl _).drew.trans hM
          have hQ := hG3.trans hN
          obtain ⟨y0, y1, y2⟩ := (hY3.q hN).cells
          go_simp
          exact hK.out (.agg #[.bool sY, .slice AY1 kY1 cY1, .slice AY2 kY2 cY2]) _ _ (by kernel_rfl) (nY3.q hN) (Q.refl _)
        refine Ja.Steps.cons (Each.yes hctx (by rfl) (by kernel_rfl) ?_) ?_
        · intro vals W hM hd K hK
          have hN : Q w3 W := (Q.refl _).drew.trans hM
          have hQ := hG3.trans hN
          obtain ⟨z0, z1, z2⟩ := (hZ3.q hN).cells
          go_simp
          exact hK.out (.agg #[.bool sZ, .slice AZ1 kZ1 cZ1, .slice AZ2 kZ2 cZ2]) _ _ (by kernel_rfl) (nZ3.q hN) (Q.refl _)
        refine Ja.Steps.cons (Each.yes hctx (by rfl) (by kernel_rfl) ?_) ?_
        · intro vals W hM hd K hK
          have hN : Q w3 W := (Q.refl _).drew.trans hM
          have hQ := hG3.trans hN
          have d13 : Nq W (vals 13) (q) := hd 13 (by kernel_rfl)
          have d14 : Nq W (vals 14) (r) := hd 14 (by kernel_rfl)
          go_simp
          (with_reducible refine (q_Mul _ _ (q) (r) W (hT.q hQ) d13 d14 B18.out).mono ?_)
          rintro e W9 ⟨r, rfl, hr, hq9⟩
          exact hK.out r W9 _ (by kernel_rfl) hr hq9
        refine Ja.Steps.cons (Each.yes hctx (by rfl) (by kernel_rfl) ?_) ?_
        · intro vals W hM hd K hK
          have hN : Q w3 W := (Q.refl _).drew.trans hM
          have hQ := hG3.trans hN
          have d12 : Nq W (vals 12) ((p) * (r)) := hd 12 (by kernel_rfl)
          have d15 : Nq W (vals 15) ((q) * (r)) := hd 15 (by kernel_rfl)
          go_simp
          (with_reducible refine (q_Cmp _ _ ((p) * (r)) ((q) * (r)) W d12 d15 B19.out).mono ?_)
          rintro e W9 ⟨rfl, hq9⟩
          exact hK.out (.int .i64 (rc ((p) * (r)) ((q) * (r)))) W9 _ (by kernel_rfl) (congrArg (Value.int .i64) ((rc_mul p q r).trans (by rw [HK.out, HE.out]))) hq9
        refine Ja.Steps.cons (Each.yes hctx (by rfl) (by kernel_rfl) ?_) ?_
        · intro vals W hM hd K hK
          have hN : Q w3 W := (Q.refl _).drew.trans hM
          have hQ := hG3.trans hN
          go_simp
          exact hK.out (.int .i64 (k)) _ _ (by kernel_rfl) rfl (Q.refl _)
        refine Ja.Steps.cons (Each.yes hctx (by rfl) (by kernel_rfl) ?_) ?_
        · intro vals W hM hd K hK
          have hN : Q w3 W := (Q.refl _).drew.trans hM
          have hQ := hG3.trans hN
          obtain ⟨z0, z1, z2⟩ := (hZ3.q hN).cells
          go_simp
          exact hK.out (.agg #[.bool sZ, .slice AZ1 kZ1 cZ1, .slice AZ2 kZ2 cZ2]) _ _ (by kernel_rfl) (nZ3.q hN) (Q.refl _)
        refine Ja.Steps.cons (Each.yes hctx (by rfl) (by kernel_rfl) ?_) ?_
        · intro vals W hM hd K hK
          have hN : Q w3 W := (Q.refl _).drew.trans hM
          have hQ := hG3.trans hN
          have d18 : Nq W (vals 18) (r) := hd 18 (by kernel_rfl)
          go_simp
          (with_reducible refine (q_Sign _ (r) W d18).mono ?_)
          rintro e W9 ⟨rfl, hq9⟩
          exact hK.out (.int .i64 (sn (r))) W9 _ (by kernel_rfl) (congrArg (Value.int .i64) (HE.out)) hq9
        refine Ja.Steps.cons (Each.yes hctx (by rfl) (by kernel_rfl) ?_) ?_
        · intro vals W hM hd K hK
          have hN : Q w3 W := (Q.refl _).drew.trans hM
          have hQ := hG3.trans hN
          have d17 : vals 17 = .int .i64 (k) := hd 17 (by kernel_rfl)
          generalize vals 17 = u17 at d17 hK ⊢
          subst d17
          have d19 : vals 19 = .int .i64 (e) := hd 19 (by kernel_rfl)
          generalize vals 19 = u19 at d19 hK ⊢
          subst d19
          go_simp
          rw [wrap_one HM.out]
          exact hK.out (.int .i64 (k * e)) _ _ (by kernel_rfl) rfl (Q.refl _)
        refine Ja.Steps.cons (Each.yes hctx (by rfl) (by kernel_rfl) ?_) ?_
        · intro vals W hM hd K hK
          have hN : Q w3 W := (Q.refl _).drew.trans hM
          have hQ := hG3.trans hN
          have d16 : vals 16 = .int .i64 (k * e) := hd 16 (by kernel_rfl)
          generalize vals 16 = u16 at d16 hK ⊢
          subst d16
          have d20 : vals 20 = .int .i64 (k * e) := hd 20 (by kernel_rfl)
          generalize vals 20 = u20 at d20 hK ⊢
          subst d20
          go_simp
          exact hK.out (.bool false) _ _ (by kernel_rfl) rfl (Q.refl _)
        refine Ja.Steps.cons (Each.yes hctx (by rfl) (by kernel_rfl) ?_) ?_
        · intro vals W hM hd K hK
          have hN : Q w3 W := (Q.refl _).drew.trans hM
          have hQ := hG3.trans hN
          have d9 : vals 9 = .bool false := hd 9 (by kernel_rfl)
          generalize vals 9 = u9 at d9 hK ⊢
          subst d9
          have d21 : vals 21 = .bool false := hd 21 (by kernel_rfl)
          generalize vals 21 = u21 at d21 hK ⊢
          subst d21
          go_simp
          exact hK.out (.bool false) _ _ (by kernel_rfl) rfl (Q.refl _)
        exact Ja.Steps.nil
      intro vals w4 hq4 hall
      have hG4 := hG3.trans hq4
      have hX4 := hX3.q hq4
      have nX4 := nX3.q hq4
      have hY4 := hY3.q hq4
      have nY4 := nY3.q hq4
      have hZ4 := hZ3.q hq4
      have nZ4 := nZ3.q hq4
      have f92 : vals 22 = .bool false := hall 22 (by decide)
      rw [f92]
      clear hall hq4 hG3 hX3 hY3 hZ3 nX3 nY3 nZ3
      go_upto_region 9 with fail
      have Z20 : Hid (sz (rmin (p) (q)) ≤ 4000) := Lib.hid (by have h9 := sz_rmin (p) (q); have h0 := Z1.out; have h1 := Z2.out; omega)
      have B21 : Hid (64 * (sz (p) + sz (q)) + 400 ≤ LIM) := Lib.hid (by have h0 := Z1.out; have h1 := Z2.out; rw [LIM_eq]; omega)
      have Z22 : Hid (sz (rmax (p) (q)) ≤ 4000) := Lib.hid (by have h9 := sz_rmax (p) (q); have h0 := Z1.out; have h1 := Z2.out; omega)
      have B23 : Hid (64 * (sz (p) + sz (q)) + 400 ≤ LIM) := Lib.hid (by have h0 := Z1.out; have h1 := Z2.out; rw [LIM_eq]; omega)
      have Z24 : Hid (sz ((rmin (p) (q)) + (rmax (p) (q))) ≤ 16001) := Lib.hid (by have h9 := sz_add (rmin (p) (q)) (rmax (p) (q)); have h0 := Z20.out; have h1 := Z22.out; omega)
      have B25 : Hid (64 * (sz (rmin (p) (q)) + sz (rmax (p) (q))) + 400 ≤ LIM) := Lib.hid (by have h0 := Z20.out; have h1 := Z22.out; rw [LIM_eq]; omega)
      have Z26 : Hid (sz ((p) + (q)) ≤ 8001) := Lib.hid (by have h9 := sz_add (p) (q); have h0 := Z1.out; have h1 := Z2.out; omega)
      have B27 : Hid (64 * (sz (p) + sz (q)) + 400 ≤ LIM) := Lib.hid (by have h0 := Z1.out; have h1 := Z2.out; rw [LIM_eq]; omega)
      have B28 : Hid (2000 * (sz ((rmin (p) (q)) + (rmax (p) (q)))) + 500000 ≤ LIM) := Lib.hid (by have h0 := Z24.out; rw [LIM_eq]; omega)
      have B29 : Hid (64 * (sz (p) + sz (q)) + 400 ≤ LIM) := Lib.hid (by have h0 := Z1.out; have h1 := Z2.out; rw [LIM_eq]; omega)
      have B30 : Hid (64 * (sz (p) + sz (q)) + 400 ≤ LIM) := Lib.hid (by have h0 := Z1.out; have h1 := Z2.out; rw [LIM_eq]; omega)
      have B31 : Hid (64 * (sz (rmin (p) (q)) + sz (rmax (p) (q))) + 400 ≤ LIM) := Lib.hid (by have h0 := Z20.out; have h1 := Z22.out; rw [LIM_eq]; omega)
      refine region_each (F := ?F8) ([.num (p), .num (q), .num (rmin (p) (q)), .num (p), .num (q), .num (rmax (p) (q)), .num ((rmin (p) (q)) + (rmax (p) (q))), .num (p), .num (q), .num ((p) + (q)), .eq (.bool true), .eq (.bool true), .num (p), .num (q), .num (rmin (p) (q)), .num (p), .num (q), .num (rmax (p) (q)), .eq (.int .i64 (rc (rmin (p) (q)) (rmax (p) (q)))), .eq (.bool true), .eq (.bool true), .eq (.bool true), .eq (.bool true), .eq (.bool true), .eq (.bool true)] : List Vs) (by kernel_rfl) (by kernel_rfl) ?hF8 ?st8 ?en8
      case hF8 =>
        intro vals
        simp only [Ja.fillL, Act.put, List.setIfInBounds_toArray, List.set_cons_zero, List.set_cons_succ, Nat.reduceAdd]
        exact rfl
      case st8 =>
        intro hctx
        refine Ja.Steps.cons (Each.yes hctx (by rfl) (by kernel_rfl) ?_) ?_
        · intro vals W hM hd K hK
          have hN : Q w4 W := (Q.refl _).drew.trans hM
          have hQ := hG4.trans hN
          obtain ⟨x0, x1, x2⟩ := (hX4.q hN).cells
          go_simp
          exact hK.out (.agg #[.bool sX, .slice AX1 kX1 cX1, .slice AX2 kX2 cX2]) _ _ (by kernel_rfl) (nX4.q hN) (Q.refl _)
        refine Ja.Steps.cons (Each.yes hctx (by rfl) (by kernel_rfl) ?_) ?_
        · intro vals W hM hd K hK
          have hN : Q w4 W := (Q.refl _).drew.trans hM
          have hQ := hG4.trans hN
          obtain ⟨y0, y1, y2⟩ := (hY4.q hN).cells
          go_simp
          exact hK.out (.agg #[.bool sY, .slice AY1 kY1 cY1, .slice AY2 kY2 cY2]) _ _ (by kernel_rfl) (nY4.q hN) (Q.refl _)
        refine Ja.Steps.cons (Each.yes hctx (by rfl) (by kernel_rfl) ?_) ?_
        · intro vals W hM hd K hK
          have hN : Q w4 W := (Q.refl _).drew.trans hM
          have hQ := hG4.trans hN
          have d0 : Nq W (vals 0) (p) := hd 0 (by kernel_rfl)
          have d1 : Nq W (vals 1) (q) := hd 1 (by kernel_rfl)
          go_simp
          (with_reducible refine (q_Min _ _ (p) (q) W d0 d1 B21.out).mono ?_)
          rintro e W9 ⟨r, rfl, hr, hq9⟩
          exact hK.out r W9 _ (by kernel_rfl) hr hq9
        refine Ja.Steps.cons (Each.yes hctx (by rfl) (by kernel_rfl) ?_) ?_
        · intro vals W hM hd K hK
          have hN : Q w4 W := (Q.refl _).drew.trans hM
          have hQ := hG4.trans hN
          obtain ⟨x0, x1, x2⟩ := (hX4.q hN).cells
          go_simp
          exact hK.out (.agg #[.bool sX, .slice AX1 kX1 cX1, .slice AX2 kX2 cX2]) _ _ (by kernel_rfl) (nX4.q hN) (Q.refl _)
        refine Ja.Steps.cons (Each.yes hctx (by rfl) (by kernel_rfl) ?_) ?_
        · intro vals W hM hd K hK
          have hN : Q w4 W := (Q.refl _).drew.trans hM
          have hQ := hG4.trans hN
          obtain ⟨y0, y1, y2⟩ := (hY4.q hN).cells
          go_simp
          exact hK.out (.agg #[.bool sY, .slice AY1 kY1 cY1, .slice AY2 kY2 cY2]) _ _ (by kernel_rfl) (nY4.q hN) (Q.refl _)
        refine Ja.Steps.cons (Each.yes hctx (by rfl) (by kernel_rfl) ?_) ?_
        · intro vals W hM hd K hK
          have hN : Q w4 W := (Q.refl _).drew.trans hM
          have hQ := hG4.trans hN
          have d3 : Nq W (vals 3) (p) := hd 3 (by kernel_rfl)
          have d4 : Nq W (vals 4) (q) := hd 4 (by kernel_rfl)
          go_simp
          (with_reducible refine (q_Max _ _ (p) (q) W d3 d4 B23.out).mono ?_)
          rintro e W9 ⟨r, rfl, hr, hq9⟩
          exact hK.out r W9 _ (by kernel_rfl) hr hq9
        refine Ja.Steps.cons (Each.yes hctx (by rfl) (by kernel_rfl) ?_) ?_
        · intro vals W hM hd K hK
          have hN : Q w4 W := (Q.refl _).drew.trans hM
          have hQ := hG4.trans hN
          have d2 : Nq W (vals 2) (rmin (p) (q)) := hd 2 (by kernel_rfl)
          have d5 : Nq W (vals 5) (rmax (p) (q)) := hd 5 (by kernel_rfl)
          go_simp
          (with_reducible refine (q_Add _ _ (rmin (p) (q)) (rmax (p) (q)) W (hT.q hQ) d2 d5 B25.out).mono ?_)
          rintro e W9 ⟨r, rfl, hr, hq9⟩
          exact hK.out r W9 _ (by kernel_rfl) hr hq9
        refine Ja.Steps.cons (Each.yes hctx (by rfl) (by kernel_rfl) ?_) ?_
        · intro vals W hM hd K hK
          have hN : Q w4 W := (Q.refl _).drew.trans hM
          have hQ := hG4.trans hN
          obtain ⟨x0, x1, x2⟩ := (hX4.q hN).cells
          go_simp
          exact hK.out (.agg #[.bool sX, .slice AX1 kX1 cX1, .slice AX2 kX2 cX2]) _ _ (by kernel_rfl) (nX4.q hN) (Q.refl _)
        refine Ja.Steps.cons (Each.yes hctx (by rfl) (by kernel_rfl) ?_) ?_
        · intro vals W hM hd K hK
          have hN : Q w4 W := (Q.refl _).drew.trans hM
          have hQ := hG4.trans hN
          obtain ⟨y0, y1, y2⟩ := (hY4.q hN).cells
          go_simp
          exact hK.out (.agg #[.bool sY, .slice AY1 kY1 cY1, .slice AY2 kY2 cY2]) _ _ (by kernel_rfl) (nY4.q hN) (Q.refl _)
        refine Ja.Steps.cons (Each.yes hctx (by rfl) (by kernel_rfl) ?_) ?_
        · intro vals W hM hd K hK
          have hN : Q w4 W := (Q.refl _).drew.trans hM
          have hQ := hG4.trans hN
          have d7 : Nq W (vals 7) (p) := hd 7 (by kernel_rfl)
          have d8 : Nq W (vals 8) (q) := hd 8 (by kernel_rfl)
          go_simp
          (with_reducible refine (q_Add _ _ (p) (q) W (hT.q hQ) d7 d8 B27.out).mono ?_)
          rintro e W9 ⟨r, rfl, hr, hq9⟩
          exact hK.out r W9 _ (by kernel_rfl) hr hq9
        refine Ja.Steps.cons (Each.yes hctx (by rfl) (by kernel_rfl) ?_) ?_
        · intro vals W hM hd K hK
          have hN : Q w4 W := (Q.refl _).drew.trans hM
          have hQ := hG4.trans hN
          have d6 : Nq W (vals 6) ((rmin (p) (q)) + (rmax (p) (q))) := hd 6 (by kernel_rfl)
          have d9 : Nq W (vals 9) ((p) + (q)) := hd 9 (by kernel_rfl)
          go_simp
          (with_reducible refine (q_equal _ _ ((rmin (p) (q)) + (rmax (p) (q))) W (hT.q hQ) (hPx.q hQ) d6 (by rw [show ((rmin (p) (q)) + (rmax (p) (q)) : Rat) = (p) + (q) from rmin_add_rmax p q]; exact d9) B28.out).mono ?_)
          rintro e W9 ⟨rfl, hq9⟩
          exact hK.out (.bool true) W9 _ (by kernel_rfl) rfl hq9
        refine Ja.Steps.cons (Each.yes hctx (by rfl) (by kernel_rfl) ?_) ?_
        · intro vals W hM hd K hK
          have hN : Q w4 W := (Q.refl _).drew.trans hM
          have hQ := hG4.trans hN
          have d10 : vals 10 = .bool true := hd 10 (by kernel_rfl)
          generalize vals 10 = u10 at d10 hK ⊢
          subst d10
          go_simp
          exact hK.out (.bool true) _ _ (by kernel_rfl) rfl (Q.refl _)
        refine Ja.Steps.cons (Each.yes hctx (by rfl) (by kernel_rfl) ?_) ?_
        · intro vals W hM hd K hK
          have hN : Q w4 W := (Q.refl _).drew.trans hM
          have hQ := hG4.trans hN
          obtain ⟨x0, x1, x2⟩ := (hX4.q hN).cells
          go_simp
          exact hK.out (.agg #[.bool sX, .slice AX1 kX1 cX1, .slice AX2 kX2 cX2]) _ _ (by kernel_rfl) (nX4.q hN) (Q.refl _)
        refine Ja.Steps.cons (Each.yes hctx (by rfl) (by kernel_rfl) ?_) ?_
        · intro vals W hM hd K hK
          have hN : Q w4 W := (Q.refl _).drew.trans hM
          have hQ := hG4.trans hN
          obtain ⟨y0, y1, y2⟩ := (hY4.q hN).cells
          go_simp
          exact hK.out (.agg #[.bool sY, .slice AY1 kY1 cY1, .slice AY2 kY2 cY2]) _ _ (by kernel_rfl) (nY4.q hN) (Q.refl _)
        refine Ja.Steps.cons (Each.yes hctx (by rfl) (by kernel_rfl) ?_) ?_
        · intro vals W hM hd K hK
          have hN : Q w4 W := (Q.refl _).drew.trans hM
          have hQ := hG4.trans hN
          have d12 : Nq W (vals 12) (p) := hd 12 (by kernel_rfl)
          have d13 : Nq W (vals 13) (q) := hd 13 (by kernel_rfl)
          go_simp
          (with_reducible refine (q_Min _ _ (p) (q) W d12 d13 B29.out).mono ?_)
          rintro e W9 ⟨r, rfl, hr, hq9⟩
          exact hK.out r W9 _ (by kernel_rfl) hr hq9
        refine Ja.Steps.cons (Each.yes hctx (by rfl) (by kernel_rfl) ?_) ?_
        · intro vals W hM hd K hK
          have hN : Q w4 W := (Q.refl _).drew.trans hM
          have hQ := hG4.trans hN
          obtain ⟨x0, x1, x2⟩ := (hX4.q hN).cells
          go_simp
          exact hK.out (.agg #[.bool sX, .slice AX1 kX1 cX1, .slice AX2 kX2 cX2]) _ _ (by kernel_rfl) (nX4.q hN) (Q.refl _)
        refine Ja.Steps.cons (Each.yes hctx (by rfl) (by kernel_rfl) ?_) ?_
        · intro vals W hM hd K hK
          have hN : Q w4 W := (Q.refl _).drew.trans hM
          have hQ := hG4.trans hN
          obtain ⟨y0, y1, y2⟩ := (hY4.q hN).cells
          go_simp
          exact hK.out (.agg #[.bool sY, .slice AY1 kY1 cY1, .slice AY2 kY2 cY2]) _ _ (by kernel_rfl) (nY4.q hN) (Q.refl _)
        refine Ja.Steps.cons (Each.yes hctx (by rfl) (by kernel_rfl) ?_) ?_
        · intro vals W hM hd K hK
          have hN : Q w4 W := (Q.refl _).drew.trans hM
          have hQ := hG4.trans hN
          have d15 : Nq W (vals 15) (p) := hd 15 (by kernel_rfl)
          have d16 : Nq W (vals 16) (q) := hd 16 (by kernel_rfl)
          go_simp
          (with_reducible refine (q_Max _ _ (p) (q) W d15 d16 B30.out).mono ?_)
          rintro e W9 ⟨r, rfl, hr, hq9⟩
          exact hK.out r W9 _ (by kernel_rfl) hr hq9
        refine Ja.Steps.cons (Each.yes hctx (by rfl) (by kernel_rfl) ?_) ?_
        · intro vals W hM hd K hK
          have hN : Q w4 W := (Q.refl _).drew.trans hM
          have hQ := hG4.trans hN
          have d14 : Nq W (vals 14) (rmin (p) (q)) := hd 14 (by kernel_rfl)
          have d17 : Nq W (vals 17) (rmax (p) (q)) := hd 17 (by kernel_rfl)
          go_simp
          (with_reducible refine (q_Cmp _ _ (rmin (p) (q)) (rmax (p) (q)) W d14 d17 B31.out).mono ?_)
          rintro e W9 ⟨rfl, hq9⟩
          exact hK.out (.int .i64 (rc (rmin (p) (q)) (rmax (p) (q)))) W9 _ (by kernel_rfl) rfl hq9
        refine Ja.Steps.cons (Each.yes hctx (by rfl) (by kernel_rfl) ?_) ?_
        · intro vals W hM hd K hK
          have hN : Q w4 W := (Q.refl _).drew.trans hM
          have hQ := hG4.trans hN
          have d18 : vals 18 = .int .i64 (rc (rmin (p) (q)) (rmax (p) (q))) := hd 18 (by kernel_rfl)
          generalize vals 18 = u18 at d18 hK ⊢
          subst d18
          go_simp
          rw [decide_eq_true (show ((rc (rmin (p) (q)) (rmax (p) (q)) : Int) ≤ 0) from (rc_le _ _).2 (rmin_le_rmax p q))]
          exact hK.out (.bool true) _ _ (by kernel_rfl) rfl (Q.refl _)
        refine Ja.Steps.cons (Each.yes hctx (by rfl) (by kernel_rfl) ?_) ?_
        · intro vals W hM hd K hK
          have hN : Q w4 W := (Q.refl _).drew.trans hM
          have hQ := hG4.trans hN
          have d11 : vals 11 = .bool true := hd 11 (by kernel_rfl)
          generalize vals 11 = u11 at d11 hK ⊢
          subst d11
          have d19 : vals 19 = .bool true := hd 19 (by kernel_rfl)
          generalize vals 19 = u19 at d19 hK ⊢
          subst d19
          go_simp
          exact hK.out (.bool true) _ _ (by kernel_rfl) rfl (Q.refl _)
        refine Ja.Steps.cons (Each.yes hctx (by rfl) (by kernel_rfl) ?_) ?_
        · intro vals W hM hd K hK
          have hN : Q w4 W := (Q.refl _).drew.trans hM
          have hQ := hG4.trans hN
          have d20 : vals 20 = .bool true := hd 20 (by kernel_rfl)
          generalize vals 20 = u20 at d20 hK ⊢
          subst d20
          go_simp
          exact hK.out (.bool true) _ _ (by kernel_rfl) rfl (Q.refl _)
        refine Ja.Steps.cons (Each.yes hctx (by rfl) (by kernel_rfl) ?_) ?_
        · intro vals W hM hd K hK
          have hN : Q w4 W := (Q.refl _).drew.trans hM
          have hQ := hG4.trans hN
          go_simp
          (with_reducible refine (q_Awake W (hT.q hQ) (hPx.q hQ)).mono ?_)
          rintro e W9 ⟨rfl, hq9⟩
          exact hK.out (.bool true) W9 _ (by kernel_rfl) rfl hq9
        refine Ja.Steps.cons (Each.yes hctx (by rfl) (by kernel_rfl) ?_) ?_
        · intro vals W hM hd K hK
          have hN : Q w4 W := (Q.refl _).drew.trans hM
          have hQ := hG4.trans hN
          have d21 : vals 21 = .bool true := hd 21 (by kernel_rfl)
          generalize vals 21 = u21 at d21 hK ⊢
          subst d21
          have d22 : vals 22 = .bool true := hd 22 (by kernel_rfl)
          generalize vals 22 = u22 at d22 hK ⊢
          subst d22
          go_simp
          exact hK.out (.bool true) _ _ (by kernel_rfl) rfl (Q.refl _)
        refine Ja.Steps.cons (Each.yes hctx (by rfl) (by kernel_rfl) ?_) ?_
        · intro vals W hM hd K hK
          have hN : Q w4 W := (Q.refl _).drew.trans hM
          have hQ := hG4.trans hN
          have d23 : vals 23 = .bool true := hd 23 (by kernel_rfl)
          generalize vals 23 = u23 at d23 hK ⊢
          subst d23
          go_simp
          exact hK.out (.bool true) _ _ (by kernel_rfl) rfl (Q.refl _)
        exact Ja.Steps.nil
      intro vals w5 hq5 hall
      have hG5 := hG4.trans hq5
      have hX5 := hX4.q hq5
      have nX5 := nX4.q hq5
      have hY5 := hY4.q hq5
      have nY5 := nY4.q hq5
      have hZ5 := hZ4.q hq5
      have nZ5 := nZ4.q hq5
      have f6 : vals 24 = .bool true := hall 24 (by decide)
      rw [f6]
      clear hall hq5 hG4 hX4 hY4 hZ4 nX4 nY4 nZ4
      go_wp2_with fail
      go_ret
      exact ⟨ret_bool rfl, by rw [← hw0]; exact hG5⟩
    · have HD0 := Lib.hid hd0; clear hd0
      have B6 : Hid (64 * (sz (q) + sz (p)) + 400 ≤ LIM) := Lib.hid (by have h0 := Z2.out; have h1 := Z1.out; rw [LIM_eq]; omega)
      have Z7 : Hid (sz ((p) - (q)) ≤ 8001) := Lib.hid (by have h9 := sz_sub (p) (q); have h0 := Z1.out; have h1 := Z2.out; omega)
      have B8 : Hid (64 * (sz (p) + sz (q)) + 400 ≤ LIM) := Lib.hid (by have h0 := Z1.out; have h1 := Z2.out; rw [LIM_eq]; omega)
      refine text_each (F := ?F9) ([.eq (.int .i64 (k)), .eq (.bool false), .eq (.bool false), .eq (.int .i64 (k)), .eq (.bool false), .eq (.bool false), .eq (.bool false), .num (q), .num (p), .eq (.int .i64 (-k)), .eq (.int .i64 (k)), .eq (.int .i64 (-k)), .eq (.bool false), .eq (.bool false), .eq (.bool false), .num (p), .num (q), .num ((p) - (q)), .eq (.int .i64 (k)), .eq (.int .i64 (k)), .eq (.bool false), .eq (.bool false), .eq (.bool false), .eq (.int .i64 (k)), .eq (.bool true), .eq (.bool true), .eq (.int .i64 (d)), .eq (.bool false), .eq (.bool false), .eq (.bool false), .any, .any, .any, .any, .any, .any, .any, .eq (.bool false), .eq (.bool false)] : List Vs) (by kernel_rfl) ?hF9 ?st9 ?en9
      case hF9 =>
        intro vals
        simp only [Ja.fillL, Act.put, List.setIfInBounds_toArray, List.set_cons_zero, List.set_cons_succ, Nat.reduceAdd]
        exact rfl
      case st9 =>
        intro hctx
        refine Ja.Steps.cons (Each.yes hctx (by rfl) (by kernel_rfl) ?_) ?_
        · intro vals W hM hd K hK
          have hN : Q w2 W := hM
          have hQ := hG2.trans hN
          go_simp
          exact hK.out (.int .i64 (k)) _ _ (by kernel_rfl) rfl (Q.refl _)
        refine Ja.Steps.cons (Each.yes hctx (by rfl) (by kernel_rfl) ?_) ?_
        · intro vals W hM hd K hK
          have hN : Q w2 W := hM
          have hQ := hG2.trans hN
          have d0 : vals 0 = .int .i64 (k) := hd 0 (by kernel_rfl)
          generalize vals 0 = u0 at d0 hK ⊢
          subst d0
          go_simp
          rw [decide_eq_false (show ¬ ((k : Int) < -1) from by have := HKB.out; omega)]
          exact hK.out (.bool false) _ _ (by kernel_rfl) rfl (Q.refl _)
        refine Ja.Steps.cons (Each.yes hctx (by rfl) (by kernel_rfl) ?_) ?_
        · intro vals W hM hd K hK
          have hN : Q w2 W := hM
          have hQ := hG2.trans hN
          have d1 : vals 1 = .bool false := hd 1 (by kernel_rfl)
          generalize vals 1 = u1 at d1 hK ⊢
          subst d1
          go_simp
          exact hK.out (.bool false) _ _ (by kernel_rfl) rfl (Q.refl _)
        refine Ja.Steps.cons (Each.yes hctx (by rfl) (by kernel_rfl) ?_) ?_
        · intro vals W hM hd K hK
          have hN : Q w2 W := hM
          have hQ := hG2.trans hN
          go_simp
          exact hK.out (.int .i64 (k)) _ _ (by kernel_rfl) rfl (Q.refl _)
        refine Ja.Steps.cons (Each.yes hctx (by rfl) (by kernel_rfl) ?_) ?_
        · intro vals W hM hd K hK
          have hN : Q w2 W := hM
          have hQ := hG2.trans hN
          have d3 : vals 3 = .int .i64 (k) := hd 3 (by kernel_rfl)
          generalize vals 3 = u3 at d3 hK ⊢
          subst d3
          go_simp
          rw [decide_eq_false (show ¬ ((k : Int) > 1) from by have := HKB.out; omega)]
          exact hK.out (.bool false) _ _ (by kernel_rfl) rfl (Q.refl _)
        refine Ja.Steps.cons (Each.yes hctx (by rfl) (by kernel_rfl) ?_) ?_
        · intro vals W hM hd K hK
          have hN : Q w2 W := hM
          have hQ := hG2.trans hN
          have d2 : vals 2 = .bool false := hd 2 (by kernel_rfl)
          generalize vals 2 = u2 at d2 hK ⊢
          subst d2
          have d4 : vals 4 = .bool false := hd 4 (by kernel_rfl)
          generalize vals 4 = u4 at d4 hK ⊢
          subst d4
          go_simp
          exact hK.out (.bool false) _ _ (by kernel_rfl) rfl (Q.refl _)
        refine Ja.Steps.cons (Each.yes hctx (by rfl) (by kernel_rfl) ?_) ?_
        · intro vals W hM hd K hK
          have hN : Q w2 W := hM
          have hQ := hG2.trans hN
          have d5 : vals 5 = .bool false := hd 5 (by kernel_rfl)
          generalize vals 5 = u5 at d5 hK ⊢
          subst d5
          go_simp
          exact hK.out (.bool false) _ _ (by kernel_rfl) rfl (Q.refl _)
        refine Ja.Steps.cons (Each.yes hctx (by rfl) (by kernel_rfl) ?_) ?_
        · intro vals W hM hd K hK
          have hN : Q w2 W := hM
          have hQ := hG2.trans hN
          obtain ⟨y0, y1, y2⟩ := (hY2.q hN).cells
          go_simp
          exact hK.out (.agg #[.bool sY, .slice AY1 kY1 cY1, .slice AY2 kY2 cY2]) _ _ (by kernel_rfl) (nY2.q hN) (Q.refl _)
        refine Ja.Steps.cons (Each.yes hctx (by rfl) (by kernel_rfl) ?_) ?_
        · intro vals W hM hd K hK
          have hN : Q w2 W := hM
          have hQ := hG2.trans hN
          obtain ⟨x0, x1, x2⟩ := (hX2.q hN).cells
          go_simp
          exact hK.out (.agg #[.bool sX, .slice AX1 kX1 cX1, .slice AX2 kX2 cX2]) _ _ (by kernel_rfl) (nX2.q hN) (Q.refl _)
        refine Ja.Steps.cons (Each.yes hctx (by rfl) (by kernel_rfl) ?_) ?_
        · intro vals W hM hd K hK
          have hN : Q w2 W := hM
          have hQ := hG2.trans hN
          have d7 : Nq W (vals 7) (q) := hd 7 (by kernel_rfl)
          have d8 : Nq W (vals 8) (p) := hd 8 (by kernel_rfl)
          go_simp
          (with_reducible refine (q_Cmp _ _ (q) (p) W d7 d8 B6.out).mono ?_)
          rintro e W9 ⟨rfl, hq9⟩
          exact hK.out (.int .i64 (rc (q) (p))) W9 _ (by kernel_rfl) (congrArg (Value.int .i64) ((rc_swap p q).trans (by rw [HK.out]))) hq9
        refine Ja.Steps.cons (Each.yes hctx (by rfl) (by kernel_rfl) ?_) ?_
        · intro vals W hM hd K hK
          have hN : Q w2 W := hM
          have hQ := hG2.trans hN
          go_simp
          exact hK.out (.int .i64 (k)) _ _ (by kernel_rfl) rfl (Q.refl _)
        refine Ja.Steps.cons (Each.yes hctx (by rfl) (by kernel_rfl) ?_) ?_
        · intro vals W hM hd K hK
          have hN : Q w2 W := hM
          have hQ := hG2.trans hN
          have d10 : vals 10 = .int .i64 (k) := hd 10 (by kernel_rfl)
          generalize vals 10 = u10 at d10 hK ⊢
          subst d10
          go_simp
          rw [wrap_one (z := -k) ⟨by have := HKB.out; omega, by have := HKB.out; omega⟩]
          exact hK.out (.int .i64 (-k)) _ _ (by kernel_rfl) rfl (Q.refl _)
        refine Ja.Steps.cons (Each.yes hctx (by rfl) (by kernel_rfl) ?_) ?_
        · intro vals W hM hd K hK
          have hN : Q w2 W := hM
          have hQ := hG2.trans hN
          have d9 : vals 9 = .int .i64 (-k) := hd 9 (by kernel_rfl)
          generalize vals 9 = u9 at d9 hK ⊢
          subst d9
          have d11 : vals 11 = .int .i64 (-k) := hd 11 (by kernel_rfl)
          generalize vals 11 = u11 at d11 hK ⊢
          subst d11
          go_simp
          exact hK.out (.bool false) _ _ (by kernel_rfl) rfl (Q.refl _)
        refine Ja.Steps.cons (Each.yes hctx (by rfl) (by kernel_rfl) ?_) ?_
        · intro vals W hM hd K hK
          have hN : Q w2 W := hM
          have hQ := hG2.trans hN
          have d6 : vals 6 = .bool false := hd 6 (by kernel_rfl)
          generalize vals 6 = u6 at d6 hK ⊢
          subst d6
          have d12 : vals 12 = .bool false := hd 12 (by kernel_rfl)
          generalize vals 12 = u12 at d12 hK ⊢
          subst d12
          go_simp
          exact hK.out (.bool false) _ _ (by kernel_rfl) rfl (Q.refl _)
        refine Ja.Steps.cons (Each.yes hctx (by rfl) (by kernel_rfl) ?_) ?_
        · intro vals W hM hd K hK
          have hN : Q w2 W := hM
          have hQ := hG2.trans hN
          have d13 : vals 13 = .bool false := hd 13 (by kernel_rfl)
          generalize vals 13 = u13 at d13 hK ⊢
          subst d13
          go_simp
          exact hK.out (.bool false) _ _ (by kernel_rfl) rfl (Q.refl _)
        refine Ja.Steps.cons (Each.yes hctx (by rfl) (by kernel_rfl) ?_) ?_
        · intro vals W hM hd K hK
          have hN : Q w2 W := hM
          have hQ := hG2.trans hN
          obtain ⟨x0, x1, x2⟩ := (hX2.q hN).cells
          go_simp
          exact hK.out (.agg #[.bool sX, .slice AX1 kX1 cX1, .slice AX2 kX2 cX2]) _ _ (by kernel_rfl) (nX2.q hN) (Q.refl _)
        refine Ja.Steps.cons (Each.yes hctx (by rfl) (by kernel_rfl) ?_) ?_
        · intro vals W hM hd K hK
          have hN : Q w2 W := hM
          have hQ := hG2.trans hN
          obtain ⟨y0, y1, y2⟩ := (hY2.q hN).cells
          go_simp
          exact hK.out (.agg #[.bool sY, .slice AY1 kY1 cY1, .slice AY2 kY2 cY2]) _ _ (by kernel_rfl) (nY2.q hN) (Q.refl _)
        refine Ja.Steps.cons (Each.yes hctx (by rfl) (by kernel_rfl) ?_) ?_
        · intro vals W hM hd K hK
          have hN : Q w2 W := hM
          have hQ := hG2.trans hN
          have d15 : Nq W (vals 15) (p) := hd 15 (by kernel_rfl)
          have d16 : Nq W (vals 16) (q) := hd 16 (by kernel_rfl)
          go_simp
          (with_reducible refine (q_Sub _ _ (p) (q) W (hT.q hQ) d15 d16 B8.out).mono ?_)
          rintro e W9 ⟨r, rfl, hr, hq9⟩
          exact hK.out r W9 _ (by kernel_rfl) hr hq9
        refine Ja.Steps.cons (Each.yes hctx (by rfl) (by kernel_rfl) ?_) ?_
        · intro vals W hM hd K hK
          have hN : Q w2 W := hM
          have hQ := hG2.trans hN
          have d17 : Nq W (vals 17) ((p) - (q)) := hd 17 (by kernel_rfl)
          go_simp
          (with_reducible refine (q_Sign _ ((p) - (q)) W d17).mono ?_)
          rintro e W9 ⟨rfl, hq9⟩
          exact hK.out (.int .i64 (sn ((p) - (q)))) W9 _ (by kernel_rfl) (congrArg (Value.int .i64) ((sn_sub p q).trans HK.out)) hq9
        refine Ja.Steps.cons (Each.yes hctx (by rfl) (by kernel_rfl) ?_) ?_
        · intro vals W hM hd K hK
          have hN : Q w2 W := hM
          have hQ := hG2.trans hN
          go_simp
          exact hK.out (.int .i64 (k)) _ _ (by kernel_rfl) rfl (Q.refl _)
        refine Ja.Steps.cons (Each.yes hctx (by rfl) (by kernel_rfl) ?_) ?_
        · intro vals W hM hd K hK
          have hN : Q w2 W := hM
          have hQ := hG2.trans hN
          have d18 : vals 18 = .int .i64 (k) := hd 18 (by kernel_rfl)
          generalize vals 18 = u18 at d18 hK ⊢
          subst d18
          have d19 : vals 19 = .int .i64 (k) := hd 19 (by kernel_rfl)
          generalize vals 19 = u19 at d19 hK ⊢
          subst d19
          go_simp
          exact hK.out (.bool false) _ _ (by kernel_rfl) rfl (Q.refl _)
        refine Ja.Steps.cons (Each.yes hctx (by rfl) (by kernel_rfl) ?_) ?_
        · intro vals W hM hd K hK
          have hN : Q w2 W := hM
          have hQ := hG2.trans hN
          have d14 : vals 14 = .bool false := hd 14 (by kernel_rfl)
          generalize vals 14 = u14 at d14 hK ⊢
          subst d14
          have d20 : vals 20 = .bool false := hd 20 (by kernel_rfl)
          generalize vals 20 = u20 at d20 hK ⊢
          subst d20
          go_simp
          exact hK.out (.bool false) _ _ (by kernel_rfl) rfl (Q.refl _)
        refine Ja.Steps.cons (Each.yes hctx (by rfl) (by kernel_rfl) ?_) ?_
        · intro vals W hM hd K hK
          have hN : Q w2 W := hM
          have hQ := hG2.trans hN
          have d21 : vals 21 = .bool false := hd 21 (by kernel_rfl)
          generalize vals 21 = u21 at d21 hK ⊢
          subst d21
          go_simp
          exact hK.out (.bool false) _ _ (by kernel_rfl) rfl (Q.refl _)
        refine Ja.Steps.cons (Each.yes hctx (by rfl) (by kernel_rfl) ?_) ?_
        · intro vals W hM hd K hK
          have hN : Q w2 W := hM
          have hQ := hG2.trans hN
          go_simp
          exact hK.out (.int .i64 (k)) _ _ (by kernel_rfl) rfl (Q.refl _)
        refine Ja.Steps.cons (Each.yes hctx (by rfl) (by kernel_rfl) ?_) ?_
        · intro vals W hM hd K hK
          have hN : Q w2 W := hM
          have hQ := hG2.trans hN
          have d23 : vals 23 = .int .i64 (k) := hd 23 (by kernel_rfl)
          generalize vals 23 = u23 at d23 hK ⊢
          subst d23
          go_simp
          rw [decide_eq_true (show ((k : Int) ≤ 0) from HC0.out)]
          exact hK.out (.bool true) _ _ (by kernel_rfl) rfl (Q.refl _)
        refine Ja.Steps.cons (Each.yes hctx (by rfl) (by kernel_rfl) ?_) ?_
        · intro vals W hM hd K hK
          have hN : Q w2 W := hM
          have hQ := hG2.trans hN
          have d24 : vals 24 = .bool true := hd 24 (by kernel_rfl)
          generalize vals 24 = u24 at d24 hK ⊢
          subst d24
          go_simp
          exact hK.out (.bool true) _ _ (by kernel_rfl) rfl (Q.refl _)
        refine Ja.Steps.cons (Each.yes hctx (by rfl) (by kernel_rfl) ?_) ?_
        · intro vals W hM hd K hK
          have hN : Q w2 W := hM
          have hQ := hG2.trans hN
          go_simp
          exact hK.out (.int .i64 (d)) _ _ (by kernel_rfl) rfl (Q.refl _)
        refine Ja.Steps.cons (Each.yes hctx (by rfl) (by kernel_rfl) ?_) ?_
        · intro vals W hM hd K hK
          have hN : Q w2 W := hM
          have hQ := hG2.trans hN
          have d26 : vals 26 = .int .i64 (d) := hd 26 (by kernel_rfl)
          generalize vals 26 = u26 at d26 hK ⊢
          subst d26
          go_simp
          rw [decide_eq_false (show ¬ ((d : Int) ≤ 0) from HD0.out)]
          exact hK.out (.bool false) _ _ (by kernel_rfl) rfl (Q.refl _)
        refine Ja.Steps.cons (Each.yes hctx (by rfl) (by kernel_rfl) ?_) ?_
        · intro vals W hM hd K hK
          have hN : Q w2 W := hM
          have hQ := hG2.trans hN
          have d25 : vals 25 = .bool true := hd 25 (by kernel_rfl)
          generalize vals 25 = u25 at d25 hK ⊢
          subst d25
          have d27 : vals 27 = .bool false := hd 27 (by kernel_rfl)
          generalize vals 27 = u27 at d27 hK ⊢
          subst d27
          go_simp
          exact hK.out (.bool false) _ _ (by kernel_rfl) rfl (Q.refl _)
        refine Ja.Steps.cons (Each.yes hctx (by rfl) (by kernel_rfl) ?_) ?_
        · intro vals W hM hd K hK
          have hN : Q w2 W := hM
          have hQ := hG2.trans hN
          have d28 : vals 28 = .bool false := hd 28 (by kernel_rfl)
          generalize vals 28 = u28 at d28 hK ⊢
          subst d28
          go_simp
          exact hK.out (.bool false) _ _ (by kernel_rfl) rfl (Q.refl _)
        refine Ja.Steps.cons (Each.no hctx (by rfl) (by kernel_rfl) ⟨trivial, rfl⟩) ?_
        refine Ja.Steps.cons (Each.no hctx (by rfl) (by kernel_rfl) ⟨trivial, rfl⟩) ?_
        refine Ja.Steps.cons (Each.no hctx (by rfl) (by kernel_rfl) ⟨trivial, rfl⟩) ?_
        refine Ja.Steps.cons (Each.no hctx (by rfl) (by kernel_rfl) ⟨trivial, rfl⟩) ?_
        refine Ja.Steps.cons (Each.no hctx (by rfl) (by kernel_rfl) ⟨trivial, rfl⟩) ?_
        refine Ja.Steps.cons (Each.no hctx (by rfl) (by kernel_rfl) ⟨trivial, rfl⟩) ?_
        refine Ja.Steps.cons (Each.no hctx (by rfl) (by kernel_rfl) ⟨trivial, rfl⟩) ?_
        refine Ja.Steps.cons (Each.yes hctx (by rfl) (by kernel_rfl) ?_) ?_
        · intro vals W hM hd K hK
          have hN : Q w2 W := hM
          have hQ := hG2.trans hN
          have d29 : vals 29 = .bool false := hd 29 (by kernel_rfl)
          generalize vals 29 = u29 at d29 hK ⊢
          subst d29
          go_simp
          exact hK.out (.bool false) _ _ (by kernel_rfl) rfl (Q.refl _)
        refine Ja.Steps.cons (Each.yes hctx (by rfl) (by kernel_rfl) ?_) ?_
        · intro vals W hM hd K hK
          have hN : Q w2 W := hM
          have hQ := hG2.trans hN
          have d22 : vals 22 = .bool false := hd 22 (by kernel_rfl)
          generalize vals 22 = u22 at d22 hK ⊢
          subst d22
          have d37 : vals 37 = .bool false := hd 37 (by kernel_rfl)
          generalize vals 37 = u37 at d37 hK ⊢
          subst d37
          go_simp
          exact hK.out (.bool false) _ _ (by kernel_rfl) rfl (Q.refl _)
        exact Ja.Steps.nil
      intro vals w3 hq3 hall
      have hG3 := hG2.trans hq3
      have hX3 := hX2.q hq3
      have nX3 := nX2.q hq3
      have hY3 := hY2.q hq3
      have nY3 := nY2.q hq3
      have hZ3 := hZ2.q hq3
      have nZ3 := nZ2.q hq3
      have f69 : vals 38 = .bool false := hall 38 (by decide)
      rw [f69]
      clear hall hq3 hG2 hX2 hY2 hZ2 nX2 nY2 nZ2
      go_upto_region 7 with fail
      have Z9 : Hid (sz ((p) + (r)) ≤ 8001) := Lib.hid (by have h9 := sz_add (p) (r); have h0 := Z1.out; have h1 := Z3.out; omega)
      have B10 : Hid (64 * (sz (p) + sz (r)) + 400 ≤ LIM) := Lib.hid (by have h0 := Z1.out; have h1 := Z3.out; rw [LIM_eq]; omega)
      have Z11 : Hid (sz ((q) + (r)) ≤ 8001) := Lib.hid (by have h9 := sz_add (q) (r); have h0 := Z2.out; have h1 := Z3.out; omega)
      have B12 : Hid (64 * (sz (q) + sz (r)) + 400 ≤ LIM) := Lib.hid (by have h0 := Z2.out; have h1 := Z3.out; rw [LIM_eq]; omega)
      have B13 : Hid (64 * (sz ((p) + (r)) + sz ((q) + (r))) + 400 ≤ LIM) := Lib.hid (by have h0 := Z9.out; have h1 := Z11.out; rw [LIM_eq]; omega)
      have Z14 : Hid (sz ((p) * (r)) ≤ 4000) := Lib.hid (by have h9 := sz_mul (p) (r); have h0 := Z1.out; have h1 := Z3.out; omega)
      have B15 : Hid (16 * (sz (p) + sz (r)) + 100 ≤ LIM) := Lib.hid (by have h0 := Z1.out; have h1 := Z3.out; rw [LIM_eq]; omega)
      have Z16 : Hid (sz ((q) * (r)) ≤ 4000) := Lib.hid (by have h9 := sz_mul (q) (r); have h0 := Z2.out; have h1 := Z3.out; omega)
      have B17 : Hid (16 * (sz (q) + sz (r)) + 100 ≤ LIM) := Lib.hid (by have h0 := Z2.out; have h1 := Z3.out; rw [LIM_eq]; omega)
      have B18 : Hid (64 * (sz ((p) * (r)) + sz ((q) * (r))) + 400 ≤ LIM) := Lib.hid (by have h0 := Z14.out; have h1 := Z16.out; rw [LIM_eq]; omega)
      refine region_each (F := ?F10) ([.num (p), .num (r), .num ((p) + (r)), .num (q), .num (r), .num ((q) + (r)), .eq (.int .i64 (k)), .eq (.int .i64 (k)), .eq (.bool false), .eq (.bool false), .num (p), .num (r), .num ((p) * (r)), .num (q), .num (r), .num ((q) * (r)), .eq (.int .i64 (k * e)), .eq (.int .i64 (k)), .num (r), .eq (.int .i64 (e)), .eq (.int .i64 (k * e)), .eq (.bool false), .eq (.bool false)] : List Vs) (by kernel_rfl) (by kernel_rfl) ?hF10 ?st10 ?en10
      case hF10 =>
        intro vals
        simp only [Ja.fillL, Act.put, List.setIfInBounds_toArray, List.set_cons_zero, List.set_cons_succ, Nat.reduceAdd]
        exact rfl
      case st10 =>
        intro hctx
        refine Ja.Steps.cons (Each.yes hctx (by rfl) (by kernel_rfl) ?_) ?_
        · intro vals W hM hd K hK
          have hN : Q w3 W := (Q.refl _).drew.trans hM
          have hQ := hG3.trans hN
          obtain ⟨x0, x1, x2⟩ := (hX3.q hN).cells
          go_simp
          exact hK.out (.agg #[.bool sX, .slice AX1 kX1 cX1, .slice AX2 kX2 cX2]) _ _ (by kernel_rfl) (nX3.q hN) (Q.refl _)
        refine Ja.Steps.cons (Each.yes hctx (by rfl) (by kernel_rfl) ?_) ?_
        · intro vals W hM hd K hK
          have hN : Q w3 W := (Q.refl _).drew.trans hM
          have hQ := hG3.trans hN
          obtain ⟨z0, z1, z2⟩ := (hZ3.q hN).cells
          go_simp
          exact hK.out (.agg #[.bool sZ, .slice AZ1 kZ1 cZ1, .slice AZ2 kZ2 cZ2]) _ _ (by kernel_rfl) (nZ3.q hN) (Q.refl _)
        refine Ja.Steps.cons (Each.yes hctx (by rfl) (by kernel_rfl) ?_) ?_
        · intro vals W hM hd K hK
          have hN : Q w3 W := (Q.refl _).drew.trans hM
          have hQ := hG3.trans hN
          have d0 : Nq W (vals 0) (p) := hd 0 (by kernel_rfl)
          have d1 : Nq W (vals 1) (r) := hd 1 (by kernel_rfl)
          go_simp
          (with_reducible refine (q_Add _ _ (p) (r) W (hT.q hQ) d0 d1 B10.out).mono ?_)
          rintro e W9 ⟨r, rfl, hr, hq9⟩
          exact hK.out r W9 _ (by kernel_rfl) hr hq9
        refine Ja.Steps.cons (Each.yes hctx (by rfl) (by kernel_rfl) ?_) ?_
        · intro vals W hM hd K hK
          have hN : Q w3 W := (Q.refl _).drew.trans hM
          have hQ := hG3.trans hN
          obtain ⟨y0, y1, y2⟩ := (hY3.q hN).cells
          go_simp
          exact hK.out (.agg #[.bool sY, .slice AY1 kY1 cY1, .slice AY2 kY2 cY2]) _ _ (by kernel_rfl) (nY3.q hN) (Q.refl _)
        refine Ja.Steps.cons (Each.yes hctx (by rfl) (by kernel_rfl) ?_) ?_
        · intro vals W hM hd K hK
          have hN : Q w3 W := (Q.refl _).drew.trans hM
          have hQ := hG3.trans hN
          obtain ⟨z0, z1, z2⟩ := (hZ3.q hN).cells
          go_simp
          exact hK.out (.agg #[.bool sZ, .slice AZ1 kZ1 cZ1, .slice AZ2 kZ2 cZ2]) _ _ (by kernel_rfl) (nZ3.q hN) (Q.refl _)
        refine Ja.Steps.cons (Each.yes hctx (by rfl) (by kernel_rfl) ?_) ?_
        · intro vals W hM hd K hK
          have hN : Q w3 W := (Q.refl _).drew.trans hM
          have hQ := hG3.trans hN
          have d3 : Nq W (vals 3) (q) := hd 3 (by kernel_rfl)
          have d4 : Nq W (vals 4) (r) := hd 4 (by kernel_rfl)
          go_simp
          (with_reducible refine (q_Add _ _ (q) (r) W (hT.q hQ) d3 d4 B12.out).mono ?_)
          rintro e W9 ⟨r, rfl, hr, hq9⟩
          exact hK.out r W9 _ (by kernel_rfl) hr hq9
        refine Ja.Steps.cons (Each.yes hctx (by rfl) (by kernel_rfl) ?_) ?_
        · intro vals W hM hd K hK
          have hN : Q w3 W := (Q.refl _).drew.trans hM
          have hQ := hG3.trans hN
          have d2 : Nq W (vals 2) ((p) + (r)) := hd 2 (by kernel_rfl)
          have d5 : Nq W (vals 5) ((q) + (r)) := hd 5 (by kernel_rfl)
          go_simp
          (with_reducible refine (q_Cmp _ _ ((p) + (r)) ((q) + (r)) W d2 d5 B13.out).mono ?_)
          rintro e W9 ⟨rfl, hq9⟩
          exact hK.out (.int .i64 (rc ((p) + (r)) ((q) + (r)))) W9 _ (by kernel_rfl) (congrArg (Value.int .i64) ((rc_add p q r).trans HK.out)) hq9
        refine Ja.Steps.cons (Each.yes hctx (by rfl) (by kernel_rfl) ?_) ?_
        · intro vals W hM hd K hK
          have hN : Q w3 W := (Q.refl _).drew.trans hM
          have hQ := hG3.trans hN
          go_simp
          exact hK.out (.int .i64 (k)) _ _ (by kernel_rfl) rfl (Q.refl _)
        refine Ja.Steps.cons (Each.yes hctx (by rfl) (by kernel_rfl) ?_) ?_
        · intro vals W hM hd K hK
          have hN : Q w3 W := (Q.refl _).drew.trans hM
          have hQ := hG3.trans hN
          have d6 : vals 6 = .int .i64 (k) := hd 6 (by kernel_rfl)
          generalize vals 6 = u6 at d6 hK ⊢
          subst d6
          have d7 : vals 7 = .int .i64 (k) := hd 7 (by kernel_rfl)
          generalize vals 7 = u7 at d7 hK ⊢
          subst d7
          go_simp
          exact hK.out (.bool false) _ _ (by kernel_rfl) rfl (Q.refl _)
        refine Ja.Steps.cons (Each.yes hctx (by rfl) (by kernel_rfl) ?_) ?_
        · intro vals W hM hd K hK
          have hN : Q w3 W := (Q.refl _).drew.trans hM
          have hQ := hG3.trans hN
          have d8 : vals 8 = .bool false := hd 8 (by kernel_rfl)
          generalize vals 8 = u8 at d8 hK ⊢
          subst d8
          go_simp
          exact hK.out (.bool false) _ _ (by kernel_rfl) rfl (Q.refl _)
        refine Ja.Steps.cons (Each.yes hctx (by rfl) (by kernel_rfl) ?_) ?_
        · intro vals W hM hd K hK
          have hN : Q w3 W := (Q.refl _).drew.trans hM
          have hQ := hG3.trans hN
          obtain ⟨x0, x1, x2⟩ := (hX3.q hN).cells
          go_simp
          exact hK.out (.agg #[.bool sX, .slice AX1 kX1 cX1, .slice AX2 kX2 cX2]) _ _ (by kernel_rfl) (nX3.q hN) (Q.refl _)
        refine Ja.Steps.cons (Each.yes hctx (by rfl) (by kernel_rfl) ?_) ?_
        · intro vals W hM hd K hK
          have hN : Q w3 W := (Q.refl _).drew.trans hM
          have hQ := hG3.trans hN
          obtain ⟨z0, z1, z2⟩ := (hZ3.q hN).cells
          go_simp
          exact hK.out (.agg #[.bool sZ, .slice AZ1 kZ1 cZ1, .slice AZ2 kZ2 cZ2]) _ _ (by kernel_rfl) (nZ3.q hN) (Q.refl _)
        refine Ja.Steps.cons (Each.yes hctx (by rfl) (by kernel_rfl) ?_) ?_
        · intro vals W hM hd K hK
          have hN : Q w3 W := (Q.refl _).drew.trans hM
          have hQ := hG3.trans hN
          have d10 : Nq W (vals 10) (p) := hd 10 (by kernel_rfl)
          have d11 : Nq W (vals 11) (r) := hd 11 (by kernel_rfl)
          go_simp
          (with_reducible refine (q_Mul _ _ (p) (r) W (hT.q hQ) d10 d11 B15.out).mono ?_)
          rintro e W9 ⟨r, rfl, hr, hq9⟩
          exact hK.out r W9 _ (by kernel_rfl) hr hq9
        refine Ja.Steps.cons (Each.yes hctx (by rfl) (by kernel_rfl) ?_) ?_
        · intro vals W hM hd K hK
          have hN : Q w3 W := (Q.refl _).drew.trans hM
          have hQ := hG3.trans hN
          obtain ⟨y0, y1, y2⟩ := (hY3.q hN).cells
          go_simp
          exact hK.out (.agg #[.bool sY, .slice AY1 kY1 cY1, .slice AY2 kY2 cY2]) _ _ (by kernel_rfl) (nY3.q hN) (Q.refl _)
        refine Ja.Steps.cons (Each.yes hctx (by rfl) (by kernel_rfl) ?_) ?_
        · intro vals W hM hd K hK
          have hN : Q w3 W := (Q.refl _).drew.trans hM
          have hQ := hG3.trans hN
          obtain ⟨z0, z1, z2⟩ := (hZ3.q hN).cells
          go_simp
          exact hK.out (.agg #[.bool sZ, .slice AZ1 kZ1 cZ1, .slice AZ2 kZ2 cZ2]) _ _ (by kernel_rfl) (nZ3.q hN) (Q.refl _)
        refine Ja.Steps.cons (Each.yes hctx (by rfl) (by kernel_rfl) ?_) ?_
        · intro vals W hM hd K hK
          have hN : Q w3 W := (Q.refl _).drew.trans hM
          have hQ := hG3.trans hN
          have d13 : Nq W (vals 13) (q) := hd 13 (by kernel_rfl)
          have d14 : Nq W (vals 14) (r) := hd 14 (by kernel_rfl)
          go_simp
          (with_reducible refine (q_Mul _ _ (q) (r) W (hT.q hQ) d13 d14 B17.out).mono ?_)
          rintro e W9 ⟨r, rfl, hr, hq9⟩
          exact hK.out r W9 _ (by kernel_rfl) hr hq9
        refine Ja.Steps.cons (Each.yes hctx (by rfl) (by kernel_rfl) ?_) ?_
        · intro vals W hM hd K hK
          have hN : Q w3 W := (Q.refl _).drew.trans hM
          have hQ := hG3.trans hN
          have d12 : Nq W (vals 12) ((p) * (r)) := hd 12 (by kernel_rfl)
          have d15 : Nq W (vals 15) ((q) * (r)) := hd 15 (by kernel_rfl)
          go_simp
          (with_reducible refine (q_Cmp _ _ ((p) * (r)) ((q) * (r)) W d12 d15 B18.out).mono ?_)
          rintro e W9 ⟨rfl, hq9⟩
          exact hK.out (.int .i64 (rc ((p) * (r)) ((q) * (r)))) W9 _ (by kernel_rfl) (congrArg (Value.int .i64) ((rc_mul p q r).trans (by rw [HK.out, HE.out]))) hq9
        refine Ja.Steps.cons (Each.yes hctx (by rfl) (by kernel_rfl) ?_) ?_
        · intro vals W hM hd K hK
          have hN : Q w3 W := (Q.refl _).drew.trans hM
          have hQ := hG3.trans hN
          go_simp
          exact hK.out (.int .i64 (k)) _ _ (by kernel_rfl) rfl (Q.refl _)
        refine Ja.Steps.cons (Each.yes hctx (by rfl) (by kernel_rfl) ?_) ?_
        · intro vals W hM hd K hK
          have hN : Q w3 W := (Q.refl _).drew.trans hM
          have hQ := hG3.trans hN
          obtain ⟨z0, z1, z2⟩ := (hZ3.q hN).cells
          go_simp
          exact hK.out (.agg #[.bool sZ, .slice AZ1 kZ1 cZ1, .slice AZ2 kZ2 cZ2]) _ _ (by kernel_rfl) (nZ3.q hN) (Q.refl _)
        refine Ja.Steps.cons (Each.yes hctx (by rfl) (by kernel_rfl) ?_) ?_
        · intro vals W hM hd K hK
          have hN : Q w3 W := (Q.refl _).drew.trans hM
          have hQ := hG3.trans hN
          have d18 : Nq W (vals 18) (r) := hd 18 (by kernel_rfl)
          go_simp
          (with_reducible refine (q_Sign _ (r) W d18).mono ?_)
          rintro e W9 ⟨rfl, hq9⟩
          exact hK.out (.int .i64 (sn (r))) W9 _ (by kernel_rfl) (congrArg (Value.int .i64) (HE.out)) hq9
        refine Ja.Steps.cons (Each.yes hctx (by rfl) (by kernel_rfl) ?_) ?_
        · intro vals W hM hd K hK
          have hN : Q w3 W := (Q.refl _).drew.trans hM
          have hQ := hG3.trans hN
          have d17 : vals 17 = .int .i64 (k) := hd 17 (by kernel_rfl)
          generalize vals 17 = u17 at d17 hK ⊢
          subst d17
          have d19 : vals 19 = .int .i64 (e) := hd 19 (by kernel_rfl)
          generalize vals 19 = u19 at d19 hK ⊢
          subst d19
          go_simp
          rw [wrap_one HM.out]
          exact hK.out (.int .i64 (k * e)) _ _ (by kernel_rfl) rfl (Q.refl _)
        refine Ja.Steps.cons (Each.yes hctx (by rfl) (by kernel_rfl) ?_) ?_
        · intro vals W hM hd K hK
          have hN : Q w3 W := (Q.refl _).drew.trans hM
          have hQ := hG3.trans hN
          have d16 : vals 16 = .int .i64 (k * e) := hd 16 (by kernel_rfl)
          generalize vals 16 = u16 at d16 hK ⊢
          subst d16
          have d20 : vals 20 = .int .i64 (k * e) := hd 20 (by kernel_rfl)
          generalize vals 20 = u20 at d20 hK ⊢
          subst d20
          go_simp
          exact hK.out (.bool false) _ _ (by kernel_rfl) rfl (Q.refl _)
        refine Ja.Steps.cons (Each.yes hctx (by rfl) (by kernel_rfl) ?_) ?_
        · intro vals W hM hd K hK
          have hN : Q w3 W := (Q.refl _).drew.trans hM
          have hQ := hG3.trans hN
          have d9 : vals 9 = .bool false := hd 9 (by kernel_rfl)
          generalize vals 9 = u9 at d9 hK ⊢
          subst d9
          have d21 : vals 21 = .bool false := hd 21 (by kernel_rfl)
          generalize vals 21 = u21 at d21 hK ⊢
          subst d21
          go_simp
          exact hK.out (.bool false) _ _ (by kernel_rfl) rfl (Q.refl _)
        exact Ja.Steps.nil
      intro vals w4 hq4 hall
      have hG4 := hG3.trans hq4
      have hX4 := hX3.q hq4
      have nX4 := nX3.q hq4
      have hY4 := hY3.q hq4
      have nY4 := nY3.q hq4
      have hZ4 := hZ3.q hq4
      have nZ4 := nZ3.q hq4
      have f92 : vals 22 = .bool false := hall 22 (by decide)
      rw [f92]
      clear hall hq4 hG3 hX3 hY3 hZ3 nX3 nY3 nZ3
      go_upto_region 9 with fail
      have Z19 : Hid (sz (rmin (p) (q)) ≤ 4000) := Lib.hid (by have h9 := sz_rmin (p) (q); have h0 := Z1.out; have h1 := Z2.out; omega)
      have B20 : Hid (64 * (sz (p) + sz (q)) + 400 ≤ LIM) := Lib.hid (by have h0 := Z1.out; have h1 := Z2.out; rw [LIM_eq]; omega)
      have Z21 : Hid (sz (rmax (p) (q)) ≤ 4000) := Lib.hid (by have h9 := sz_rmax (p) (q); have h0 := Z1.out; have h1 := Z2.out; omega)
      have B22 : Hid (64 * (sz (p) + sz (q)) + 400 ≤ LIM) := Lib.hid (by have h0 := Z1.out; have h1 := Z2.out; rw [LIM_eq]; omega)
      have Z23 : Hid (sz ((rmin (p) (q)) + (rmax (p) (q))) ≤ 16001) := Lib.hid (by have h9 := sz_add (rmin (p) (q)) (rmax (p) (q)); have h0 := Z19.out; have h1 := Z21.out; omega)
      have B24 : Hid (64 * (sz (rmin (p) (q)) + sz (rmax (p) (q))) + 400 ≤ LIM) := Lib.hid (by have h0 := Z19.out; have h1 := Z21.out; rw [LIM_eq]; omega)
      have Z25 : Hid (sz ((p) + (q)) ≤ 8001) := Lib.hid (by have h9 := sz_add (p) (q); have h0 := Z1.out; have h1 := Z2.out; omega)
      have B26 : Hid (64 * (sz (p) + sz (q)) + 400 ≤ LIM) := Lib.hid (by have h0 := Z1.out; have h1 := Z2.out; rw [LIM_eq]; omega)
      have B27 : Hid (2000 * (sz ((rmin (p) (q)) + (rmax (p) (q)))) + 500000 ≤ LIM) := Lib.hid (by have h0 := Z23.out; rw [LIM_eq]; omega)
      have B28 : Hid (64 * (sz (p) + sz (q)) + 400 ≤ LIM) := Lib.hid (by have h0 := Z1.out; have h1 := Z2.out; rw [LIM_eq]; omega)
      have B29 : Hid (64 * (sz (p) + sz (q)) + 400 ≤ LIM) := Lib.hid (by have h0 := Z1.out; have h1 := Z2.out; rw [LIM_eq]; omega)
      have B30 : Hid (64 * (sz (rmin (p) (q)) + sz (rmax (p) (q))) + 400 ≤ LIM) := Lib.hid (by have h0 := Z19.out; have h1 := Z21.out; rw [LIM_eq]; omega)
      refine region_each (F := ?F11) ([.num (p), .num (q), .num (rmin (p) (q)), .num (p), .num (q), .num (rmax (p) (q)), .num ((rmin (p) (q)) + (rmax (p) (q))), .num (p), .num (q), .num ((p) + (q)), .eq (.bool true), .eq (.bool true), .num (p), .num (q), .num (rmin (p) (q)), .num (p), .num (q), .num (rmax (p) (q)), .eq (.int .i64 (rc (rmin (p) (q)) (rmax (p) (q)))), .eq (.bool true), .eq (.bool true), .eq (.bool true), .eq (.bool true), .eq (.bool true), .eq (.bool true)] : List Vs) (by kernel_rfl) (by kernel_rfl) ?hF11 ?st11 ?en11
      case hF11 =>
        intro vals
        simp only [Ja.fillL, Act.put, List.setIfInBounds_toArray, List.set_cons_zero, List.set_cons_succ, Nat.reduceAdd]
        exact rfl
      case st11 =>
        intro hctx
        refine Ja.Steps.cons (Each.yes hctx (by rfl) (by kernel_rfl) ?_) ?_
        · intro vals W hM hd K hK
          have hN : Q w4 W := (Q.refl _).drew.trans hM
          have hQ := hG4.trans hN
          obtain ⟨x0, x1, x2⟩ := (hX4.q hN).cells
          go_simp
          exact hK.out (.agg #[.bool sX, .slice AX1 kX1 cX1, .slice AX2 kX2 cX2]) _ _ (by kernel_rfl) (nX4.q hN) (Q.refl _)
        refine Ja.Steps.cons (Each.yes hctx (by rfl) (by kernel_rfl) ?_) ?_
        · intro vals W hM hd K hK
          have hN : Q w4 W := (Q.refl _).drew.trans hM
          have hQ := hG4.trans hN
          obtain ⟨y0, y1, y2⟩ := (hY4.q hN).cells
          go_simp
          exact hK.out (.agg #[.bool sY, .slice AY1 kY1 cY1, .slice AY2 kY2 cY2]) _ _ (by kernel_rfl) (nY4.q hN) (Q.refl _)
        refine Ja.Steps.cons (Each.yes hctx (by rfl) (by kernel_rfl) ?_) ?_
        · intro vals W hM hd K hK
          have hN : Q w4 W := (Q.refl _).drew.trans hM
          have hQ := hG4.trans hN
          have d0 : Nq W (vals 0) (p) := hd 0 (by kernel_rfl)
          have d1 : Nq W (vals 1) (q) := hd 1 (by kernel_rfl)
          go_simp
          (with_reducible refine (q_Min _ _ (p) (q) W d0 d1 B20.out).mono ?_)
          rintro e W9 ⟨r, rfl, hr, hq9⟩
          exact hK.out r W9 _ (by kernel_rfl) hr hq9
        refine Ja.Steps.cons (Each.yes hctx (by rfl) (by kernel_rfl) ?_) ?_
        · intro vals W hM hd K hK
          have hN : Q w4 W := (Q.refl _).drew.trans hM
          have hQ := hG4.trans hN
          obtain ⟨x0, x1, x2⟩ := (hX4.q hN).cells
          go_simp
          exact hK.out (.agg #[.bool sX, .slice AX1 kX1 cX1, .slice AX2 kX2 cX2]) _ _ (by kernel_rfl) (nX4.q hN) (Q.refl _)
        refine Ja.Steps.cons (Each.yes hctx (by rfl) (by kernel_rfl) ?_) ?_
        · intro vals W hM hd K hK
          have hN : Q w4 W := (Q.refl _).drew.trans hM
          have hQ := hG4.trans hN
          obtain ⟨y0, y1, y2⟩ := (hY4.q hN).cells
          go_simp
          exact hK.out (.agg #[.bool sY, .slice AY1 kY1 cY1, .slice AY2 kY2 cY2]) _ _ (by kernel_rfl) (nY4.q hN) (Q.refl _)
        refine Ja.Steps.cons (Each.yes hctx (by rfl) (by kernel_rfl) ?_) ?_
        · intro vals W hM hd K hK
          have hN : Q w4 W := (Q.refl _).drew.trans hM
          have hQ := hG4.trans hN
          have d3 : Nq W (vals 3) (p) := hd 3 (by kernel_rfl)
          have d4 : Nq W (vals 4) (q) := hd 4 (by kernel_rfl)
          go_simp
          (with_reducible refine (q_Max _ _ (p) (q) W d3 d4 B22.out).mono ?_)
          rintro e W9 ⟨r, rfl, hr, hq9⟩
          exact hK.out r W9 _ (by kernel_rfl) hr hq9
        refine Ja.Steps.cons (Each.yes hctx (by rfl) (by kernel_rfl) ?_) ?_
        · intro vals W hM hd K hK
          have hN : Q w4 W := (Q.refl _).drew.trans hM
          have hQ := hG4.trans hN
          have d2 : Nq W (vals 2) (rmin (p) (q)) := hd 2 (by kernel_rfl)
          have d5 : Nq W (vals 5) (rmax (p) (q)) := hd 5 (by kernel_rfl)
          go_simp
          (with_reducible refine (q_Add _ _ (rmin (p) (q)) (rmax (p) (q)) W (hT.q hQ) d2 d5 B24.out).mono ?_)
          rintro e W9 ⟨r, rfl, hr, hq9⟩
          exact hK.out r W9 _ (by kernel_rfl) hr hq9
        refine Ja.Steps.cons (Each.yes hctx (by rfl) (by kernel_rfl) ?_) ?_
        · intro vals W hM hd K hK
          have hN : Q w4 W := (Q.refl _).drew.trans hM
          have hQ := hG4.trans hN
          obtain ⟨x0, x1, x2⟩ := (hX4.q hN).cells
          go_simp
          exact hK.out (.agg #[.bool sX, .slice AX1 kX1 cX1, .slice AX2 kX2 cX2]) _ _ (by kernel_rfl) (nX4.q hN) (Q.refl _)
        refine Ja.Steps.cons (Each.yes hctx (by rfl) (by kernel_rfl) ?_) ?_
        · intro vals W hM hd K hK
          have hN : Q w4 W := (Q.refl _).drew.trans hM
          have hQ := hG4.trans hN
          obtain ⟨y0, y1, y2⟩ := (hY4.q hN).cells
          go_simp
          exact hK.out (.agg #[.bool sY, .slice AY1 kY1 cY1, .slice AY2 kY2 cY2]) _ _ (by kernel_rfl) (nY4.q hN) (Q.refl _)
        refine Ja.Steps.cons (Each.yes hctx (by rfl) (by kernel_rfl) ?_) ?_
        · intro vals W hM hd K hK
          have hN : Q w4 W := (Q.refl _).drew.trans hM
          have hQ := hG4.trans hN
          have d7 : Nq W (vals 7) (p) := hd 7 (by kernel_rfl)
          have d8 : Nq W (vals 8) (q) := hd 8 (by kernel_rfl)
          go_simp
          (with_reducible refine (q_Add _ _ (p) (q) W (hT.q hQ) d7 d8 B26.out).mono ?_)
          rintro e W9 ⟨r, rfl, hr, hq9⟩
          exact hK.out r W9 _ (by kernel_rfl) hr hq9
        refine Ja.Steps.cons (Each.yes hctx (by rfl) (by kernel_rfl) ?_) ?_
        · intro vals W hM hd K hK
          have hN : Q w4 W := (Q.refl _).drew.trans hM
          have hQ := hG4.trans hN
          have d6 : Nq W (vals 6) ((rmin (p) (q)) + (rmax (p) (q))) := hd 6 (by kernel_rfl)
          have d9 : Nq W (vals 9) ((p) + (q)) := hd 9 (by kernel_rfl)
          go_simp
          (with_reducible refine (q_equal _ _ ((rmin (p) (q)) + (rmax (p) (q))) W (hT.q hQ) (hPx.q hQ) d6 (by rw [show ((rmin (p) (q)) + (rmax (p) (q)) : Rat) = (p) + (q) from rmin_add_rmax p q]; exact d9) B27.out).mono ?_)
          rintro e W9 ⟨rfl, hq9⟩
          exact hK.out (.bool true) W9 _ (by kernel_rfl) rfl hq9
        refine Ja.Steps.cons (Each.yes hctx (by rfl) (by kernel_rfl) ?_) ?_
        · intro vals W hM hd K hK
          have hN : Q w4 W := (Q.refl _).drew.trans hM
          have hQ := hG4.trans hN
          have d10 : vals 10 = .bool true := hd 10 (by kernel_rfl)
          generalize vals 10 = u10 at d10 hK ⊢
          subst d10
          go_simp
          exact hK.out (.bool true) _ _ (by kernel_rfl) rfl (Q.refl _)
        refine Ja.Steps.cons (Each.yes hctx (by rfl) (by kernel_rfl) ?_) ?_
        · intro vals W hM hd K hK
          have hN : Q w4 W := (Q.refl _).drew.trans hM
          have hQ := hG4.trans hN
          obtain ⟨x0, x1, x2⟩ := (hX4.q hN).cells
          go_simp
          exact hK.out (.agg #[.bool sX, .slice AX1 kX1 cX1, .slice AX2 kX2 cX2]) _ _ (by kernel_rfl) (nX4.q hN) (Q.refl _)
        refine Ja.Steps.cons (Each.yes hctx (by rfl) (by kernel_rfl) ?_) ?_
        · intro vals W hM hd K hK
          have hN : Q w4 W := (Q.refl _).drew.trans hM
          have hQ := hG4.trans hN
          obtain ⟨y0, y1, y2⟩ := (hY4.q hN).cells
          go_simp
          exact hK.out (.agg #[.bool sY, .slice AY1 kY1 cY1, .slice AY2 kY2 cY2]) _ _ (by kernel_rfl) (nY4.q hN) (Q.refl _)
        refine Ja.Steps.cons (Each.yes hctx (by rfl) (by kernel_rfl) ?_) ?_
        · intro vals W hM hd K hK
          have hN : Q w4 W := (Q.refl _).drew.trans hM
          have hQ := hG4.trans hN
          have d12 : Nq W (vals 12) (p) := hd 12 (by kernel_rfl)
          have d13 : Nq W (vals 13) (q) := hd 13 (by kernel_rfl)
          go_simp
          (with_reducible refine (q_Min _ _ (p) (q) W d12 d13 B28.out).mono ?_)
          rintro e W9 ⟨r, rfl, hr, hq9⟩
          exact hK.out r W9 _ (by kernel_rfl) hr hq9
        refine Ja.Steps.cons (Each.yes hctx (by rfl) (by kernel_rfl) ?_) ?_
        · intro vals W hM hd K hK
          have hN : Q w4 W := (Q.refl _).drew.trans hM
          have hQ := hG4.trans hN
          obtain ⟨x0, x1, x2⟩ := (hX4.q hN).cells
          go_simp
          exact hK.out (.agg #[.bool sX, .slice AX1 kX1 cX1, .slice AX2 kX2 cX2]) _ _ (by kernel_rfl) (nX4.q hN) (Q.refl _)
        refine Ja.Steps.cons (Each.yes hctx (by rfl) (by kernel_rfl) ?_) ?_
        · intro vals W hM hd K hK
          have hN : Q w4 W := (Q.refl _).drew.trans hM
          have hQ := hG4.trans hN
          obtain ⟨y0, y1, y2⟩ := (hY4.q hN).cells
          go_simp
          exact hK.out (.agg #[.bool sY, .slice AY1 kY1 cY1, .slice AY2 kY2 cY2]) _ _ (by kernel_rfl) (nY4.q hN) (Q.refl _)
        refine Ja.Steps.cons (Each.yes hctx (by rfl) (by kernel_rfl) ?_) ?_
        · intro vals W hM hd K hK
          have hN : Q w4 W := (Q.refl _).drew.trans hM
          have hQ := hG4.trans hN
          have d15 : Nq W (vals 15) (p) := hd 15 (by kernel_rfl)
          have d16 : Nq W (vals 16) (q) := hd 16 (by kernel_rfl)
          go_simp
          (with_reducible refine (q_Max _ _ (p) (q) W d15 d16 B29.out).mono ?_)
          rintro e W9 ⟨r, rfl, hr, hq9⟩
          exact hK.out r W9 _ (by kernel_rfl) hr hq9
        refine Ja.Steps.cons (Each.yes hctx (by rfl) (by kernel_rfl) ?_) ?_
        · intro vals W hM hd K hK
          have hN : Q w4 W := (Q.refl _).drew.trans hM
          have hQ := hG4.trans hN
          have d14 : Nq W (vals 14) (rmin (p) (q)) := hd 14 (by kernel_rfl)
          have d17 : Nq W (vals 17) (rmax (p) (q)) := hd 17 (by kernel_rfl)
          go_simp
          (with_reducible refine (q_Cmp _ _ (rmin (p) (q)) (rmax (p) (q)) W d14 d17 B30.out).mono ?_)
          rintro e W9 ⟨rfl, hq9⟩
          exact hK.out (.int .i64 (rc (rmin (p) (q)) (rmax (p) (q)))) W9 _ (by kernel_rfl) rfl hq9
        refine Ja.Steps.cons (Each.yes hctx (by rfl) (by kernel_rfl) ?_) ?_
        · intro vals W hM hd K hK
          have hN : Q w4 W := (Q.refl _).drew.trans hM
          have hQ := hG4.trans hN
          have d18 : vals 18 = .int .i64 (rc (rmin (p) (q)) (rmax (p) (q))) := hd 18 (by kernel_rfl)
          generalize vals 18 = u18 at d18 hK ⊢
          subst d18
          go_simp
          rw [decide_eq_true (show ((rc (rmin (p) (q)) (rmax (p) (q)) : Int) ≤ 0) from (rc_le _ _).2 (rmin_le_rmax p q))]
          exact hK.out (.bool true) _ _ (by kernel_rfl) rfl (Q.refl _)
        refine Ja.Steps.cons (Each.yes hctx (by rfl) (by kernel_rfl) ?_) ?_
        · intro vals W hM hd K hK
          have hN : Q w4 W := (Q.refl _).drew.trans hM
          have hQ := hG4.trans hN
          have d11 : vals 11 = .bool true := hd 11 (by kernel_rfl)
          generalize vals 11 = u11 at d11 hK ⊢
          subst d11
          have d19 : vals 19 = .bool true := hd 19 (by kernel_rfl)
          generalize vals 19 = u19 at d19 hK ⊢
          subst d19
          go_simp
          exact hK.out (.bool true) _ _ (by kernel_rfl) rfl (Q.refl _)
        refine Ja.Steps.cons (Each.yes hctx (by rfl) (by kernel_rfl) ?_) ?_
        · intro vals W hM hd K hK
          have hN : Q w4 W := (Q.refl _).drew.trans hM
          have hQ := hG4.trans hN
          have d20 : vals 20 = .bool true := hd 20 (by kernel_rfl)
          generalize vals 20 = u20 at d20 hK ⊢
          subst d20
          go_simp
          exact hK.out (.bool true) _ _ (by kernel_rfl) rfl (Q.refl _)
        refine Ja.Steps.cons (Each.yes hctx (by rfl) (by kernel_rfl) ?_) ?_
        · intro vals W hM hd K hK
          have hN : Q w4 W := (Q.refl _).drew.trans hM
          have hQ := hG4.trans hN
          go_simp
          (with_reducible refine (q_Awake W (hT.q hQ) (hPx.q hQ)).mono ?_)
          rintro e W9 ⟨rfl, hq9⟩
          exact hK.out (.bool true) W9 _ (by kernel_rfl) rfl hq9
        refine Ja.Steps.cons (Each.yes hctx (by rfl) (by kernel_rfl) ?_) ?_
        · intro vals W hM hd K hK
          have hN : Q w4 W := (Q.refl _).drew.trans hM
          have hQ := hG4.trans hN
          have d21 : vals 21 = .bool true := hd 21 (by kernel_rfl)
          generalize vals 21 = u21 at d21 hK ⊢
          subst d21
          have d22 : vals 22 = .bool true := hd 22 (by kernel_rfl)
          generalize vals 22 = u22 at d22 hK ⊢
          subst d22
          go_simp
          exact hK.out (.bool true) _ _ (by kernel_rfl) rfl (Q.refl _)
        refine Ja.Steps.cons (Each.yes hctx (by rfl) (by kernel_rfl) ?_) ?_
        · intro vals W hM hd K hK
          have hN : Q w4 W := (Q.refl _).drew.trans hM
          have hQ := hG4.trans hN
          have d23 : vals 23 = .bool true := hd 23 (by kernel_rfl)
          generalize vals 23 = u23 at d23 hK ⊢
          subst d23
          go_simp
          exact hK.out (.bool true) _ _ (by kernel_rfl) rfl (Q.refl _)
        exact Ja.Steps.nil
      intro vals w5 hq5 hall
      have hG5 := hG4.trans hq5
      have hX5 := hX4.q hq5
      have nX5 := nX4.q hq5
      have hY5 := hY4.q hq5
      have nY5 := nY4.q hq5
      have hZ5 := hZ4.q hq5
      have nZ5 := nZ4.q hq5
      have f6 : vals 24 = .bool true := hall 24 (by decide)
      rw [f6]
      clear hall hq5 hG4 hX4 hY4 hZ4 nX4 nY4 nZ4
      go_wp2_with fail
      go_ret
      exact ⟨ret_bool rfl, by rw [← hw0]; exact hG5⟩
  · have HC0 := Lib.hid hc0; clear hc0
    have B6 : Hid (64 * (sz (q) + sz (p)) + 400 ≤ LIM) := Lib.hid (by have h0 := Z2.out; have h1 := Z1.out; rw [LIM_eq]; omega)
    have Z7 : Hid (sz ((p) - (q)) ≤ 8001) := Lib.hid (by have h9 := sz_sub (p) (q); have h0 := Z1.out; have h1 := Z2.out; omega)
    have B8 : Hid (64 * (sz (p) + sz (q)) + 400 ≤ LIM) := Lib.hid (by have h0 := Z1.out; have h1 := Z2.out; rw [LIM_eq]; omega)
    refine text_each (F := ?F12) ([.eq (.int .i64 (k)), .eq (.bool false), .eq (.bool false), .eq (.int .i64 (k)), .eq (.bool false), .eq (.bool false), .eq (.bool false), .num (q), .num (p), .eq (.int .i64 (-k)), .eq (.int .i64 (k)), .eq (.int .i64 (-k)), .eq (.bool false), .eq (.bool false), .eq (.bool false), .num (p), .num (q), .num ((p) - (q)), .eq (.int .i64 (k)), .eq (.int .i64 (k)), .eq (.bool false), .eq (.bool false), .eq (.bool false), .eq (.int .i64 (k)), .eq (.bool false), .eq (.bool false), .any, .any, .eq (.bool false), .eq (.bool false), .any, .any, .any, .any, .any, .any, .any, .eq (.bool false), .eq (.bool false)] : List Vs) (by kernel_rfl) ?hF12 ?st12 ?en12
    case hF12 =>
      intro vals
      simp only [Ja.fillL, Act.put, List.setIfInBounds_toArray, List.set_cons_zero, List.set_cons_succ, Nat.reduceAdd]
      exact rfl
    case st12 =>
      intro hctx
      refine Ja.Steps.cons (Each.yes hctx (by rfl) (by kernel_rfl) ?_) ?_
      · intro vals W hM hd K hK
        have hN : Q w2 W := hM
        have hQ := hG2.trans hN
        go_simp
        exact hK.out (.int .i64 (k)) _ _ (by kernel_rfl) rfl (Q.refl _)
      refine Ja.Steps.cons (Each.yes hctx (by rfl) (by kernel_rfl) ?_) ?_
      · intro vals W hM hd K hK
        have hN : Q w2 W := hM
        have hQ := hG2.trans hN
        have d0 : vals 0 = .int .i64 (k) := hd 0 (by kernel_rfl)
        generalize vals 0 = u0 at d0 hK ⊢
        subst d0
        go_simp
        rw [decide_eq_false (show ¬ ((k : Int) < -1) from by have := HKB.out; omega)]
        exact hK.out (.bool false) _ _ (by kernel_rfl) rfl (Q.refl _)
      refine Ja.Steps.cons (Each.yes hctx (by rfl) (by kernel_rfl) ?_) ?_
      · intro vals W hM hd K hK
        have hN : Q w2 W := hM
        have hQ := hG2.trans hN
        have d1 : vals 1 = .bool false := hd 1 (by kernel_rfl)
        generalize vals 1 = u1 at d1 hK ⊢
        subst d1
        go_simp
        exact hK.out (.bool false) _ _ (by kernel_rfl) rfl (Q.refl _)
      refine Ja.Steps.cons (Each.yes hctx (by rfl) (by kernel_rfl) ?_) ?_
      · intro vals W hM hd K hK
        have hN : Q w2 W := hM
        have hQ := hG2.trans hN
        go_simp
        exact hK.out (.int .i64 (k)) _ _ (by kernel_rfl) rfl (Q.refl _)
      refine Ja.Steps.cons (Each.yes hctx (by rfl) (by kernel_rfl) ?_) ?_
      · intro vals W hM hd K hK
        have hN : Q w2 W := hM
        have hQ := hG2.trans hN
        have d3 : vals 3 = .int .i64 (k) := hd 3 (by kernel_rfl)
        generalize vals 3 = u3 at d3 hK ⊢
        subst d3
        go_simp
        rw [decide_eq_false (show ¬ ((k : Int) > 1) from by have := HKB.out; omega)]
        exact hK.out (.bool false) _ _ (by kernel_rfl) rfl (Q.refl _)
      refine Ja.Steps.cons (Each.yes hctx (by rfl) (by kernel_rfl) ?_) ?_
      · intro vals W hM hd K hK
        have hN : Q w2 W := hM
        have hQ := hG2.trans hN
        have d2 : vals 2 = .bool false := hd 2 (by kernel_rfl)
        generalize vals 2 = u2 at d2 hK ⊢
        subst d2
        have d4 : vals 4 = .bool false := hd 4 (by kernel_rfl)
        generalize vals 4 = u4 at d4 hK ⊢
        subst d4
        go_simp
        exact hK.out (.bool false) _ _ (by kernel_rfl) rfl (Q.refl _)
      refine Ja.Steps.cons (Each.yes hctx (by rfl) (by kernel_rfl) ?_) ?_
      · intro vals W hM hd K hK
        have hN : Q w2 W := hM
        have hQ := hG2.trans hN
        have d5 : vals 5 = .bool false := hd 5 (by kernel_rfl)
        generalize vals 5 = u5 at d5 hK ⊢
        subst d5
        go_simp
        exact hK.out (.bool false) _ _ (by kernel_rfl) rfl (Q.refl _)
      refine Ja.Steps.cons (Each.yes hctx (by rfl) (by kernel_rfl) ?_) ?_
      · intro vals W hM hd K hK
        have hN : Q w2 W := hM
        have hQ := hG2.trans hN
        obtain ⟨y0, y1, y2⟩ := (hY2.q hN).cells
        go_simp
        exact hK.out (.agg #[.bool sY, .slice AY1 kY1 cY1, .slice AY2 kY2 cY2]) _ _ (by kernel_rfl) (nY2.q hN) (Q.refl _)
      refine Ja.Steps.cons (Each.yes hctx (by rfl) (by kernel_rfl) ?_) ?_
      · intro vals W hM hd K hK
        have hN : Q w2 W := hM
        have hQ := hG2.trans hN
        obtain ⟨x0, x1, x2⟩ := (hX2.q hN).cells
        go_simp
        exact hK.out (.agg #[.bool sX, .slice AX1 kX1 cX1, .slice AX2 kX2 cX2]) _ _ (by kernel_rfl) (nX2.q hN) (Q.refl _)
      refine Ja.Steps.cons (Each.yes hctx (by rfl) (by kernel_rfl) ?_) ?_
      · intro vals W hM hd K hK
        have hN : Q w2 W := hM
        have hQ := hG2.trans hN
        have d7 : Nq W (vals 7) (q) := hd 7 (by kernel_rfl)
        have d8 : Nq W (vals 8) (p) := hd 8 (by kernel_rfl)
        go_simp
        (with_reducible refine (q_Cmp _ _ (q) (p) W d7 d8 B6.out).mono ?_)
        rintro e W9 ⟨rfl, hq9⟩
        exact hK.out (.int .i64 (rc (q) (p))) W9 _ (by kernel_rfl) (congrArg (Value.int .i64) ((rc_swap p q).trans (by rw [HK.out]))) hq9
      refine Ja.Steps.cons (Each.yes hctx (by rfl) (by kernel_rfl) ?_) ?_
      · intro vals W hM hd K hK
        have hN : Q w2 W := hM
        have hQ := hG2.trans hN
        go_simp
        exact hK.out (.int .i64 (k)) _ _ (by kernel_rfl) rfl (Q.refl _)
      refine Ja.Steps.cons (Each.yes hctx (by rfl) (by kernel_rfl) ?_) ?_
      · intro vals W hM hd K hK
        have hN : Q w2 W := hM
        have hQ := hG2.trans hN
        have d10 : vals 10 = .int .i64 (k) := hd 10 (by kernel_rfl)
        generalize vals 10 = u10 at d10 hK ⊢
        subst d10
        go_simp
        rw [wrap_one (z := -k) ⟨by have := HKB.out; omega, by have := HKB.out; omega⟩]
        exact hK.out (.int .i64 (-k)) _ _ (by kernel_rfl) rfl (Q.refl _)
      refine Ja.Steps.cons (Each.yes hctx (by rfl) (by kernel_rfl) ?_) ?_
      · intro vals W hM hd K hK
        have hN : Q w2 W := hM
        have hQ := hG2.trans hN
        have d9 : vals 9 = .int .i64 (-k) := hd 9 (by kernel_rfl)
        generalize vals 9 = u9 at d9 hK ⊢
        subst d9
        have d11 : vals 11 = .int .i64 (-k) := hd 11 (by kernel_rfl)
        generalize vals 11 = u11 at d11 hK ⊢
        subst d11
        go_simp
        exact hK.out (.bool false) _ _ (by kernel_rfl) rfl (Q.refl _)
      refine Ja.Steps.cons (Each.yes hctx (by rfl) (by kernel_rfl) ?_) ?_
      · intro vals W hM hd K hK
        have hN : Q w2 W := hM
        have hQ := hG2.trans hN
        have d6 : vals 6 = .bool false := hd 6 (by kernel_rfl)
        generalize vals 6 = u6 at d6 hK ⊢
        subst d6
        have d12 : vals 12 = .bool false := hd 12 (by kernel_rfl)
        generalize vals 12 = u12 at d12 hK ⊢
        subst d12
        go_simp
        exact hK.out (.bool false) _ _ (by kernel_rfl) rfl (Q.refl _)
      refine Ja.Steps.cons (Each.yes hctx (by rfl) (by kernel_rfl) ?_) ?_
      · intro vals W hM hd K hK
        have hN : Q w2 W := hM
        have hQ := hG2.trans hN
        have d13 : vals 13 = .bool false := hd 13 (by kernel_rfl)
        generalize vals 13 = u13 at d13 hK ⊢
        subst d13
        go_simp
        exact hK.out (.bool false) _ _ (by kernel_rfl) rfl (Q.refl _)
      refine Ja.Steps.cons (Each.yes hctx (by rfl) (by kernel_rfl) ?_) ?_
      · intro vals W hM hd K hK
        have hN : Q w2 W := hM
        have hQ := hG2.trans hN
        obtain ⟨x0, x1, x2⟩ := (hX2.q hN).cells
        go_simp
        exact hK.out (.agg #[.bool sX, .slice AX1 kX1 cX1, .slice AX2 kX2 cX2]) _ _ (by kernel_rfl) (nX2.q hN) (Q.refl _)
      refine Ja.Steps.cons (Each.yes hctx (by rfl) (by kernel_rfl) ?_) ?_
      · intro vals W hM hd K hK
        have hN : Q w2 W := hM
        have hQ := hG2.trans hN
        obtain ⟨y0, y1, y2⟩ := (hY2.q hN).cells
        go_simp
        exact hK.out (.agg #[.bool sY, .slice AY1 kY1 cY1, .slice AY2 kY2 cY2]) _ _ (by kernel_rfl) (nY2.q hN) (Q.refl _)
      refine Ja.Steps.cons (Each.yes hctx (by rfl) (by kernel_rfl) ?_) ?_
      · intro vals W hM hd K hK
        have hN : Q w2 W := hM
        have hQ := hG2.trans hN
        have d15 : Nq W (vals 15) (p) := hd 15 (by kernel_rfl)
        have d16 : Nq W (vals 16) (q) := hd 16 (by kernel_rfl)
        go_simp
        (with_reducible refine (q_Sub _ _ (p) (q) W (hT.q hQ) d15 d16 B8.out).mono ?_)
        rintro e W9 ⟨r, rfl, hr, hq9⟩
        exact hK.out r W9 _ (by kernel_rfl) hr hq9
      refine Ja.Steps.cons (Each.yes hctx (by rfl) (by kernel_rfl) ?_) ?_
      · intro vals W hM hd K hK
        have hN : Q w2 W := hM
        have hQ := hG2.trans hN
        have d17 : Nq W (vals 17) ((p) - (q)) := hd 17 (by kernel_rfl)
        go_simp
        (with_reducible refine (q_Sign _ ((p) - (q)) W d17).mono ?_)
        rintro e W9 ⟨rfl, hq9⟩
        exact hK.out (.int .i64 (sn ((p) - (q)))) W9 _ (by kernel_rfl) (congrArg (Value.int .i64) ((sn_sub p q).trans HK.out)) hq9
      refine Ja.Steps.cons (Each.yes hctx (by rfl) (by kernel_rfl) ?_) ?_
      · intro vals W hM hd K hK
        have hN : Q w2 W := hM
        have hQ := hG2.trans hN
        go_simp
        exact hK.out (.int .i64 (k)) _ _ (by kernel_rfl) rfl (Q.refl _)
      refine Ja.Steps.cons (Each.yes hctx (by rfl) (by kernel_rfl) ?_) ?_
      · intro vals W hM hd K hK
        have hN : Q w2 W := hM
        have hQ := hG2.trans hN
        have d18 : vals 18 = .int .i64 (k) := hd 18 (by kernel_rfl)
        generalize vals 18 = u18 at d18 hK ⊢
        subst d18
        have d19 : vals 19 = .int .i64 (k) := hd 19 (by kernel_rfl)
        generalize vals 19 = u19 at d19 hK ⊢
        subst d19
        go_simp
        exact hK.out (.bool false) _ _ (by kernel_rfl) rfl (Q.refl _)
      refine Ja.Steps.cons (Each.yes hctx (by rfl) (by kernel_rfl) ?_) ?_
      · intro vals W hM hd K hK
        have hN : Q w2 W := hM
        have hQ := hG2.trans hN
        have d14 : vals 14 = .bool false := hd 14 (by kernel_rfl)
        generalize vals 14 = u14 at d14 hK ⊢
        subst d14
        have d20 : vals 20 = .bool false := hd 20 (by kernel_rfl)
        generalize vals 20 = u20 at d20 hK ⊢
        subst d20
        go_simp
        exact hK.out (.bool false) _ _ (by kernel_rfl) rfl (Q.refl _)
      refine Ja.Steps.cons (Each.yes hctx (by rfl) (by kernel_rfl) ?_) ?_
      · intro vals W hM hd K hK
        have hN : Q w2 W := hM
        have hQ := hG2.trans hN
        have d21 : vals 21 = .bool false := hd 21 (by kernel_rfl)
        generalize vals 21 = u21 at d21 hK ⊢
        subst d21
        go_simp
        exact hK.out (.bool false) _ _ (by kernel_rfl) rfl (Q.refl _)
      refine Ja.Steps.cons (Each.yes hctx (by rfl) (by kernel_rfl) ?_) ?_
      · intro vals W hM hd K hK
        have hN : Q w2 W := hM
        have hQ := hG2.trans hN
        go_simp
        exact hK.out (.int .i64 (k)) _ _ (by kernel_rfl) rfl (Q.refl _)
      refine Ja.Steps.cons (Each.yes hctx (by rfl) (by kernel_rfl) ?_) ?_
      · intro vals W hM hd K hK
        have hN : Q w2 W := hM
        have hQ := hG2.trans hN
        have d23 : vals 23 = .int .i64 (k) := hd 23 (by kernel_rfl)
        generalize vals 23 = u23 at d23 hK ⊢
        subst d23
        go_simp
        rw [decide_eq_false (show ¬ ((k : Int) ≤ 0) from HC0.out)]
        exact hK.out (.bool false) _ _ (by kernel_rfl) rfl (Q.refl _)
      refine Ja.Steps.cons (Each.yes hctx (by rfl) (by kernel_rfl) ?_) ?_
      · intro vals W hM hd K hK
        have hN : Q w2 W := hM
        have hQ := hG2.trans hN
        have d24 : vals 24 = .bool false := hd 24 (by kernel_rfl)
        generalize vals 24 = u24 at d24 hK ⊢
        subst d24
        go_simp
        exact hK.out (.bool false) _ _ (by kernel_rfl) rfl (Q.refl _)
      refine Ja.Steps.cons (Each.no hctx (by rfl) (by kernel_rfl) ⟨trivial, rfl⟩) ?_
      refine Ja.Steps.cons (Each.no hctx (by rfl) (by kernel_rfl) ⟨trivial, rfl⟩) ?_
      refine Ja.Steps.cons (Each.yes hctx (by rfl) (by kernel_rfl) ?_) ?_
      · intro vals W hM hd K hK
        have hN : Q w2 W := hM
        have hQ := hG2.trans hN
        have d25 : vals 25 = .bool false := hd 25 (by kernel_rfl)
        generalize vals 25 = u25 at d25 hK ⊢
        subst d25
        go_simp
        exact hK.out (.bool false) _ _ (by kernel_rfl) rfl (Q.refl _)
      refine Ja.Steps.cons (Each.yes hctx (by rfl) (by kernel_rfl) ?_) ?_
      · intro vals W hM hd K hK
        have hN : Q w2 W := hM
        have hQ := hG2.trans hN
        have d28 : vals 28 = .bool false := hd 28 (by kernel_rfl)
        generalize vals 28 = u28 at d28 hK ⊢
        subst d28
        go_simp
        exact hK.out (.bool false) _ _ (by kernel_rfl) rfl (Q.refl _)
      refine Ja.Steps.cons (Each.no hctx (by rfl) (by kernel_rfl) ⟨trivial, rfl⟩) ?_
      refine Ja.Steps.cons (Each.no hctx (by rfl) (by kernel_rfl) ⟨trivial, rfl⟩) ?_
      refine Ja.Steps.cons (Each.no hctx (by rfl) (by kernel_rfl) ⟨trivial, rfl⟩) ?_
      refine Ja.Steps.cons (Each.no hctx (by rfl) (by kernel_rfl) ⟨trivial, rfl⟩) ?_
      refine Ja.Steps.cons (Each.no hctx (by rfl) (by kernel_rfl) ⟨trivial, rfl⟩) ?_
      refine Ja.Steps.cons (Each.no hctx (by rfl) (by kernel_rfl) ⟨trivial, rfl⟩) ?_
      refine Ja.Steps.cons (Each.no hctx (by rfl) (by kernel_rfl) ⟨trivial, rfl⟩) ?_
      refine Ja.Steps.cons (Each.yes hctx (by rfl) (by kernel_rfl) ?_) ?_
      · intro vals W hM hd K hK
        have hN : Q w2 W := hM
        have hQ := hG2.trans hN
        have d29 : vals 29 = .bool false := hd 29 (by kernel_rfl)
        generalize vals 29 = u29 at d29 hK ⊢
        subst d29
        go_simp
        exact hK.out (.bool false) _ _ (by kernel_rfl) rfl (Q.refl _)
      refine Ja.Steps.cons (Each.yes hctx (by rfl) (by kernel_rfl) ?_) ?_
      · intro vals W hM hd K hK
        have hN : Q w2 W := hM
        have hQ := hG2.trans hN
        have d22 : vals 22 = .bool false := hd 22 (by kernel_rfl)
        generalize vals 22 = u22 at d22 hK ⊢
        subst d22
        have d37 : vals 37 = .bool false := hd 37 (by kernel_rfl)
        generalize vals 37 = u37 at d37 hK ⊢
        subst d37
        go_simp
        exact hK.out (.bool false) _ _ (by kernel_rfl) rfl (Q.refl _)
      exact Ja.Steps.nil
    intro vals w3 hq3 hall
    have hG3 := hG2.trans hq3
    have hX3 := hX2.q hq3
    have nX3 := nX2.q hq3
    have hY3 := hY2.q hq3
    have nY3 := nY2.q hq3
    have hZ3 := hZ2.q hq3
    have nZ3 := nZ2.q hq3
    have f69 : vals 38 = .bool false := hall 38 (by decide)
    rw [f69]
    clear hall hq3 hG2 hX2 hY2 hZ2 nX2 nY2 nZ2
    go_upto_region 7 with fail
    have Z9 : Hid (sz ((p) + (r)) ≤ 8001) := Lib.hid (by have h9 := sz_add (p) (r); have h0 := Z1.out; have h1 := Z3.out; omega)
    have B10 : Hid (64 * (sz (p) + sz (r)) + 400 ≤ LIM) := Lib.hid (by have h0 := Z1.out; have h1 := Z3.out; rw [LIM_eq]; omega)
    have Z11 : Hid (sz ((q) + (r)) ≤ 8001) := Lib.hid (by have h9 := sz_add (q) (r); have h0 := Z2.out; have h1 := Z3.out; omega)
    have B12 : Hid (64 * (sz (q) + sz (r)) + 400 ≤ LIM) := Lib.hid (by have h0 := Z2.out; have h1 := Z3.out; rw [LIM_eq]; omega)
    have B13 : Hid (64 * (sz ((p) + (r)) + sz ((q) + (r))) + 400 ≤ LIM) := Lib.hid (by have h0 := Z9.out; have h1 := Z11.out; rw [LIM_eq]; omega)
    have Z14 : Hid (sz ((p) * (r)) ≤ 4000) := Lib.hid (by have h9 := sz_mul (p) (r); have h0 := Z1.out; have h1 := Z3.out; omega)
    have B15 : Hid (16 * (sz (p) + sz (r)) + 100 ≤ LIM) := Lib.hid (by have h0 := Z1.out; have h1 := Z3.out; rw [LIM_eq]; omega)
    have Z16 : Hid (sz ((q) * (r)) ≤ 4000) := Lib.hid (by have h9 := sz_mul (q) (r); have h0 := Z2.out; have h1 := Z3.out; omega)
    have B17 : Hid (16 * (sz (q) + sz (r)) + 100 ≤ LIM) := Lib.hid (by have h0 := Z2.out; have h1 := Z3.out; rw [LIM_eq]; omega)
    have B18 : Hid (64 * (sz ((p) * (r)) + sz ((q) * (r))) + 400 ≤ LIM) := Lib.hid (by have h0 := Z14.out; have h1 := Z16.out; rw [LIM_eq]; omega)
    refine region_each (F := ?F13) ([.num (p), .num (r), .num ((p) + (r)), .num (q), .num (r), .num ((q) + (r)), .eq (.int .i64 (k)), .eq (.int .i64 (k)), .eq (.bool false), .eq (.bool false), .num (p), .num (r), .num ((p) * (r)), .num (q), .num (r), .num ((q) * (r)), .eq (.int .i64 (k * e)), .eq (.int .i64 (k)), .num (r), .eq (.int .i64 (e)), .eq (.int .i64 (k * e)), .eq (.bool false), .eq (.bool false)] : List Vs) (by kernel_rfl) (by kernel_rfl) ?hF13 ?st13 ?en13
    case hF13 =>
      intro vals
      simp only [Ja.fillL, Act.put, List.setIfInBounds_toArray, List.set_cons_zero, List.set_cons_succ, Nat.reduceAdd]
      exact rfl
    case st13 =>
      intro hctx
      refine Ja.Steps.cons (Each.yes hctx (by rfl) (by kernel_rfl) ?_) ?_
      · intro vals W hM hd K hK
        have hN : Q w3 W := (Q.refl _).drew.trans hM
        have hQ := hG3.trans hN
        obtain ⟨x0, x1, x2⟩ := (hX3.q hN).cells
        go_simp
        exact hK.out (.agg #[.bool sX, .slice AX1 kX1 cX1, .slice AX2 kX2 cX2]) _ _ (by kernel_rfl) (nX3.q hN) (Q.refl _)
      refine Ja.Steps.cons (Each.yes hctx (by rfl) (by kernel_rfl) ?_) ?_
      · intro vals W hM hd K hK
        have hN : Q w3 W := (Q.refl _).drew.trans hM
        have hQ := hG3.trans hN
        obtain ⟨z0, z1, z2⟩ := (hZ3.q hN).cells
        go_simp
        exact hK.out (.agg #[.bool sZ, .slice AZ1 kZ1 cZ1, .slice AZ2 kZ2 cZ2]) _ _ (by kernel_rfl) (nZ3.q hN) (Q.refl _)
      refine Ja.Steps.cons (Each.yes hctx (by rfl) (by kernel_rfl) ?_) ?_
      · intro vals W hM hd K hK
        have hN : Q w3 W := (Q.refl _).drew.trans hM
        have hQ := hG3.trans hN
        have d0 : Nq W (vals 0) (p) := hd 0 (by kernel_rfl)
        have d1 : Nq W (vals 1) (r) := hd 1 (by kernel_rfl)
        go_simp
        (with_reducible refine (q_Add _ _ (p) (r) W (hT.q hQ) d0 d1 B10.out).mono ?_)
        rintro e W9 ⟨r, rfl, hr, hq9⟩
        exact hK.out r W9 _ (by kernel_rfl) hr hq9
      refine Ja.Steps.cons (Each.yes hctx (by rfl) (by kernel_rfl) ?_) ?_
      · intro vals W hM hd K hK
        have hN : Q w3 W := (Q.refl _).drew.trans hM
        have hQ := hG3.trans hN
        obtain ⟨y0, y1, y2⟩ := (hY3.q hN).cells
        go_simp
        exact hK.out (.agg #[.bool sY, .slice AY1 kY1 cY1, .slice AY2 kY2 cY2]) _ _ (by kernel_rfl) (nY3.q hN) (Q.refl _)
      refine Ja.Steps.cons (Each.yes hctx (by rfl) (by kernel_rfl) ?_) ?_
      · intro vals W hM hd K hK
        have hN : Q w3 W := (Q.refl _).drew.trans hM
        have hQ := hG3.trans hN
        obtain ⟨z0, z1, z2⟩ := (hZ3.q hN).cells
        go_simp
        exact hK.out (.agg #[.bool sZ, .slice AZ1 kZ1 cZ1, .slice AZ2 kZ2 cZ2]) _ _ (by kernel_rfl) (nZ3.q hN) (Q.refl _)
      refine Ja.Steps.cons (Each.yes hctx (by rfl) (by kernel_rfl) ?_) ?_
      · intro vals W hM hd K hK
        have hN : Q w3 W := (Q.refl _).drew.trans hM
        have hQ := hG3.trans hN
        have d3 : Nq W (vals 3) (q) := hd 3 (by kernel_rfl)
        have d4 : Nq W (vals 4) (r) := hd 4 (by kernel_rfl)
        go_simp
        (with_reducible refine (q_Add _ _ (q) (r) W (hT.q hQ) d3 d4 B12.out).mono ?_)
        rintro e W9 ⟨r, rfl, hr, hq9⟩
        exact hK.out r W9 _ (by kernel_rfl) hr hq9
      refine Ja.Steps.cons (Each.yes hctx (by rfl) (by kernel_rfl) ?_) ?_
      · intro vals W hM hd K hK
        have hN : Q w3 W := (Q.refl _).drew.trans hM
        have hQ := hG3.trans hN
        have d2 : Nq W (vals 2) ((p) + (r)) := hd 2 (by kernel_rfl)
        have d5 : Nq W (vals 5) ((q) + (r)) := hd 5 (by kernel_rfl)
        go_simp
        (with_reducible refine (q_Cmp _ _ ((p) + (r)) ((q) + (r)) W d2 d5 B13.out).mono ?_)
        rintro e W9 ⟨rfl, hq9⟩
        exact hK.out (.int .i64 (rc ((p) + (r)) ((q) + (r)))) W9 _ (by kernel_rfl) (congrArg (Value.int .i64) ((rc_add p q r).trans HK.out)) hq9
      refine Ja.Steps.cons (Each.yes hctx (by rfl) (by kernel_rfl) ?_) ?_
      · intro vals W hM hd K hK
        have hN : Q w3 W := (Q.refl _).drew.trans hM
        have hQ := hG3.trans hN
        go_simp
        exact hK.out (.int .i64 (k)) _ _ (by kernel_rfl) rfl (Q.refl _)
      refine Ja.Steps.cons (Each.yes hctx (by rfl) (by kernel_rfl) ?_) ?_
      · intro vals W hM hd K hK
        have hN : Q w3 W := (Q.refl _).drew.trans hM
        have hQ := hG3.trans hN
        have d6 : vals 6 = .int .i64 (k) := hd 6 (by kernel_rfl)
        generalize vals 6 = u6 at d6 hK ⊢
        subst d6
        have d7 : vals 7 = .int .i64 (k) := hd 7 (by kernel_rfl)
        generalize vals 7 = u7 at d7 hK ⊢
        subst d7
        go_simp
        exact hK.out (.bool false) _ _ (by kernel_rfl) rfl (Q.refl _)
      refine Ja.Steps.cons (Each.yes hctx (by rfl) (by kernel_rfl) ?_) ?_
      · intro vals W hM hd K hK
        have hN : Q w3 W := (Q.refl _).drew.trans hM
        have hQ := hG3.trans hN
        have d8 : vals 8 = .bool false := hd 8 (by kernel_rfl)
        generalize vals 8 = u8 at d8 hK ⊢
        subst d8
        go_simp
        exact hK.out (.bool false) _ _ (by kernel_rfl) rfl (Q.refl _)
      refine Ja.Steps.cons (Each.yes hctx (by rfl) (by kernel_rfl) ?_) ?_
      · intro vals W hM hd K hK
        have hN : Q w3 W := (Q.refl _).drew.trans hM
        have hQ := hG3.trans hN
        obtain ⟨x0, x1, x2⟩ := (hX3.q hN).cells
        go_simp
        exact hK.out (.agg #[.bool sX, .slice AX1 kX1 cX1, .slice AX2 kX2 cX2]) _ _ (by kernel_rfl) (nX3.q hN) (Q.refl _)
      refine Ja.Steps.cons (Each.yes hctx (by rfl) (by kernel_rfl) ?_) ?_
      · intro vals W hM hd K hK
        have hN : Q w3 W := (Q.refl _).drew.trans hM
        have hQ := hG3.trans hN
        obtain ⟨z0, z1, z2⟩ := (hZ3.q hN).cells
        go_simp
        exact hK.out (.agg #[.bool sZ, .slice AZ1 kZ1 cZ1, .slice AZ2 kZ2 cZ2]) _ _ (by kernel_rfl) (nZ3.q hN) (Q.refl _)
      refine Ja.Steps.cons (Each.yes hctx (by rfl) (by kernel_rfl) ?_) ?_
      · intro vals W hM hd K hK
        have hN : Q w3 W := (Q.refl _).drew.trans hM
        have hQ := hG3.trans hN
        have d10 : Nq W (vals 10) (p) := hd 10 (by kernel_rfl)
        have d11 : Nq W (vals 11) (r) := hd 11 (by kernel_rfl)
        go_simp
        (with_reducible refine (q_Mul _ _ (p) (r) W (hT.q hQ) d10 d11 B15.out).mono ?_)
        rintro e W9 ⟨r, rfl, hr, hq9⟩
        exact hK.out r W9 _ (by kernel_rfl) hr hq9
      refine Ja.Steps.cons (Each.yes hctx (by rfl) (by kernel_rfl) ?_) ?_
      · intro vals W hM hd K hK
        have hN : Q w3 W := (Q.refl _).drew.trans hM
        have hQ := hG3.trans hN
        obtain ⟨y0, y1, y2⟩ := (hY3.q hN).cells
        go_simp
        exact hK.out (.agg #[.bool sY, .slice AY1 kY1 cY1, .slice AY2 kY2 cY2]) _ _ (by kernel_rfl) (nY3.q hN) (Q.refl _)
      refine Ja.Steps.cons (Each.yes hctx (by rfl) (by kernel_rfl) ?_) ?_
      · intro vals W hM hd K hK
        have hN : Q w3 W := (Q.refl _).drew.trans hM
        have hQ := hG3.trans hN
        obtain ⟨z0, z1, z2⟩ := (hZ3.q hN).cells
        go_simp
        exact hK.out (.agg #[.bool sZ, .slice AZ1 kZ1 cZ1, .slice AZ2 kZ2 cZ2]) _ _ (by kernel_rfl) (nZ3.q hN) (Q.refl _)
      refine Ja.Steps.cons (Each.yes hctx (by rfl) (by kernel_rfl) ?_) ?_
      · intro vals W hM hd K hK
        have hN : Q w3 W := (Q.refl _).drew.trans hM
        have hQ := hG3.trans hN
        have d13 : Nq W (vals 13) (q) := hd 13 (by kernel_rfl)
        have d14 : Nq W (vals 14) (r) := hd 14 (by kernel_rfl)
        go_simp
        (with_reducible refine (q_Mul _ _ (q) (r) W (hT.q hQ) d13 d14 B17.out).mono ?_)
        rintro e W9 ⟨r, rfl, hr, hq9⟩
        exact hK.out r W9 _ (by kernel_rfl) hr hq9
      refine Ja.Steps.cons (Each.yes hctx (by rfl) (by kernel_rfl) ?_) ?_
      · intro vals W hM hd K hK
        have hN : Q w3 W := (Q.refl _).drew.trans hM
        have hQ := hG3.trans hN
        have d12 : Nq W (vals 12) ((p) * (r)) := hd 12 (by kernel_rfl)
        have d15 : Nq W (vals 15) ((q) * (r)) := hd 15 (by kernel_rfl)
        go_simp
        (with_reducible refine (q_Cmp _ _ ((p) * (r)) ((q) * (r)) W d12 d15 B18.out).mono ?_)
        rintro e W9 ⟨rfl, hq9⟩
        exact hK.out (.int .i64 (rc ((p) * (r)) ((q) * (r)))) W9 _ (by kernel_rfl) (congrArg (Value.int .i64) ((rc_mul p q r).trans (by rw [HK.out, HE.out]))) hq9
      refine Ja.Steps.cons (Each.yes hctx (by rfl) (by kernel_rfl) ?_) ?_
      · intro vals W hM hd K hK
        have hN : Q w3 W := (Q.refl _).drew.trans hM
        have hQ := hG3.trans hN
        go_simp
        exact hK.out (.int .i64 (k)) _ _ (by kernel_rfl) rfl (Q.refl _)
      refine Ja.Steps.cons (Each.yes hctx (by rfl) (by kernel_rfl) ?_) ?_
      · intro vals W hM hd K hK
        have hN : Q w3 W := (Q.refl _).drew.trans hM
        have hQ := hG3.trans hN
        obtain ⟨z0, z1, z2⟩ := (hZ3.q hN).cells
        go_simp
        exact hK.out (.agg #[.bool sZ, .slice AZ1 kZ1 cZ1, .slice AZ2 kZ2 cZ2]) _ _ (by kernel_rfl) (nZ3.q hN) (Q.refl _)
      refine Ja.Steps.cons (Each.yes hctx (by rfl) (by kernel_rfl) ?_) ?_
      · intro vals W hM hd K hK
        have hN : Q w3 W := (Q.refl _).drew.trans hM
        have hQ := hG3.trans hN
        have d18 : Nq W (vals 18) (r) := hd 18 (by kernel_rfl)
        go_simp
        (with_reducible refine (q_Sign _ (r) W d18).mono ?_)
        rintro e W9 ⟨rfl, hq9⟩
        exact hK.out (.int .i64 (sn (r))) W9 _ (by kernel_rfl) (congrArg (Value.int .i64) (HE.out)) hq9
      refine Ja.Steps.cons (Each.yes hctx (by rfl) (by kernel_rfl) ?_) ?_
      · intro vals W hM hd K hK
        have hN : Q w3 W := (Q.refl _).drew.trans hM
        have hQ := hG3.trans hN
        have d17 : vals 17 = .int .i64 (k) := hd 17 (by kernel_rfl)
        generalize vals 17 = u17 at d17 hK ⊢
        subst d17
        have d19 : vals 19 = .int .i64 (e) := hd 19 (by kernel_rfl)
        generalize vals 19 = u19 at d19 hK ⊢
        subst d19
        go_simp
        rw [wrap_one HM.out]
        exact hK.out (.int .i64 (k * e)) _ _ (by kernel_rfl) rfl (Q.refl _)
      refine Ja.Steps.cons (Each.yes hctx (by rfl) (by kernel_rfl) ?_) ?_
      · intro vals W hM hd K hK
        have hN : Q w3 W := (Q.refl _).drew.trans hM
        have hQ := hG3.trans hN
        have d16 : vals 16 = .int .i64 (k * e) := hd 16 (by kernel_rfl)
        generalize vals 16 = u16 at d16 hK ⊢
        subst d16
        have d20 : vals 20 = .int .i64 (k * e) := hd 20 (by kernel_rfl)
        generalize vals 20 = u20 at d20 hK ⊢
        subst d20
        go_simp
        exact hK.out (.bool false) _ _ (by kernel_rfl) rfl (Q.refl _)
      refine Ja.Steps.cons (Each.yes hctx (by rfl) (by kernel_rfl) ?_) ?_
      · intro vals W hM hd K hK
        have hN : Q w3 W := (Q.refl _).drew.trans hM
        have hQ := hG3.trans hN
        have d9 : vals 9 = .bool false := hd 9 (by kernel_rfl)
        generalize vals 9 = u9 at d9 hK ⊢
        subst d9
        have d21 : vals 21 = .bool false := hd 21 (by kernel_rfl)
        generalize vals 21 = u21 at d21 hK ⊢
        subst d21
        go_simp
        exact hK.out (.bool false) _ _ (by kernel_rfl) rfl (Q.refl _)
      exact Ja.Steps.nil
    intro vals w4 hq4 hall
    have hG4 := hG3.trans hq4
    have hX4 := hX3.q hq4
    have nX4 := nX3.q hq4
    have hY4 := hY3.q hq4
    have nY4 := nY3.q hq4
    have hZ4 := hZ3.q hq4
    have nZ4 := nZ3.q hq4
    have f92 : vals 22 = .bool false := hall 22 (by decide)
    rw [f92]
    clear hall hq4 hG3 hX3 hY3 hZ3 nX3 nY3 nZ3
    go_upto_region 9 with fail
    have Z19 : Hid (sz (rmin (p) (q)) ≤ 4000) := Lib.hid (by have h9 := sz_rmin (p) (q); have h0 := Z1.out; have h1 := Z2.out; omega)
    have B20 : Hid (64 * (sz (p) + sz (q)) + 400 ≤ LIM) := Lib.hid (by have h0 := Z1.out; have h1 := Z2.out; rw [LIM_eq]; omega)
    have Z21 : Hid (sz (rmax (p) (q)) ≤ 4000) := Lib.hid (by have h9 := sz_rmax (p) (q); have h0 := Z1.out; have h1 := Z2.out; omega)
    have B22 : Hid (64 * (sz (p) + sz (q)) + 400 ≤ LIM) := Lib.hid (by have h0 := Z1.out; have h1 := Z2.out; rw [LIM_eq]; omega)
    have Z23 : Hid (sz ((rmin (p) (q)) + (rmax (p) (q))) ≤ 16001) := Lib.hid (by have h9 := sz_add (rmin (p) (q)) (rmax (p) (q)); have h0 := Z19.out; have h1 := Z21.out; omega)
    have B24 : Hid (64 * (sz (rmin (p) (q)) + sz (rmax (p) (q))) + 400 ≤ LIM) := Lib.hid (by have h0 := Z19.out; have h1 := Z21.out; rw [LIM_eq]; omega)
    have Z25 : Hid (sz ((p) + (q)) ≤ 8001) := Lib.hid (by have h9 := sz_add (p) (q); have h0 := Z1.out; have h1 := Z2.out; omega)
    have B26 : Hid (64 * (sz (p) + sz (q)) + 400 ≤ LIM) := Lib.hid (by have h0 := Z1.out; have h1 := Z2.out; rw [LIM_eq]; omega)
    have B27 : Hid (2000 * (sz ((rmin (p) (q)) + (rmax (p) (q)))) + 500000 ≤ LIM) := Lib.hid (by have h0 := Z23.out; rw [LIM_eq]; omega)
    have B28 : Hid (64 * (sz (p) + sz (q)) + 400 ≤ LIM) := Lib.hid (by have h0 := Z1.out; have h1 := Z2.out; rw [LIM_eq]; omega)
    have B29 : Hid (64 * (sz (p) + sz (q)) + 400 ≤ LIM) := Lib.hid (by have h0 := Z1.out; have h1 := Z2.out; rw [LIM_eq]; omega)
    have B30 : Hid (64 * (sz (rmin (p) (q)) + sz (rmax (p) (q))) + 400 ≤ LIM) := Lib.hid (by have h0 := Z19.out; have h1 := Z21.out; rw [LIM_eq]; omega)
    refine region_each (F := ?F14) ([.num (p), .num (q), .num (rmin (p) (q)), .num (p), .num (q), .num (rmax (p) (q)), .num ((rmin (p) (q)) + (rmax (p) (q))), .num (p), .num (q), .num ((p) + (q)), .eq (.bool true), .eq (.bool true), .num (p), .num (q), .num (rmin (p) (q)), .num (p), .num (q), .num (rmax (p) (q)), .eq (.int .i64 (rc (rmin (p) (q)) (rmax (p) (q)))), .eq (.bool true), .eq (.bool true), .eq (.bool true), .eq (.bool true), .eq (.bool true), .eq (.bool true)] : List Vs) (by kernel_rfl) (by kernel_rfl) ?hF14 ?st14 ?en14
    case hF14 =>
      intro vals
      simp only [Ja.fillL, Act.put, List.setIfInBounds_toArray, List.set_cons_zero, List.set_cons_succ, Nat.reduceAdd]
      exact rfl
    case st14 =>
      intro hctx
      refine Ja.Steps.cons (Each.yes hctx (by rfl) (by kernel_rfl) ?_) ?_
      · intro vals W hM hd K hK
        have hN : Q w4 W := (Q.refl _).drew.trans hM
        have hQ := hG4.trans hN
        obtain ⟨x0, x1, x2⟩ := (hX4.q hN).cells
        go_simp
        exact hK.out (.agg #[.bool sX, .slice AX1 kX1 cX1, .slice AX2 kX2 cX2]) _ _ (by kernel_rfl) (nX4.q hN) (Q.refl _)
      refine Ja.Steps.cons (Each.yes hctx (by rfl) (by kernel_rfl) ?_) ?_
      · intro vals W hM hd K hK
        have hN : Q w4 W := (Q.refl _).drew.trans hM
        have hQ := hG4.trans hN
        obtain ⟨y0, y1, y2⟩ := (hY4.q hN).cells
        go_simp
        exact hK.out (.agg #[.bool sY, .slice AY1 kY1 cY1, .slice AY2 kY2 cY2]) _ _ (by kernel_rfl) (nY4.q hN) (Q.refl _)
      refine Ja.Steps.cons (Each.yes hctx (by rfl) (by kernel_rfl) ?_) ?_
      · intro vals W hM hd K hK
        have hN : Q w4 W := (Q.refl _).drew.trans hM
        have hQ := hG4.trans hN
        have d0 : Nq W (vals 0) (p) := hd 0 (by kernel_rfl)
        have d1 : Nq W (vals 1) (q) := hd 1 (by kernel_rfl)
        go_simp
        (with_reducible refine (q_Min _ _ (p) (q) W d0 d1 B20.out).mono ?_)
        rintro e W9 ⟨r, rfl, hr, hq9⟩
        exact hK.out r W9 _ (by kernel_rfl) hr hq9
      refine Ja.Steps.cons (Each.yes hctx (by rfl) (by kernel_rfl) ?_) ?_
      · intro vals W hM hd K hK
        have hN : Q w4 W := (Q.refl _).drew.trans hM
        have hQ := hG4.trans hN
        obtain ⟨x0, x1, x2⟩ := (hX4.q hN).cells
        go_simp
        exact hK.out (.agg #[.bool sX, .slice AX1 kX1 cX1, .slice AX2 kX2 cX2]) _ _ (by kernel_rfl) (nX4.q hN) (Q.refl _)
      refine Ja.Steps.cons (Each.yes hctx (by rfl) (by kernel_rfl) ?_) ?_
      · intro vals W hM hd K hK
        have hN : Q w4 W := (Q.refl _).drew.trans hM
        have hQ := hG4.trans hN
        obtain ⟨y0, y1, y2⟩ := (hY4.q hN).cells
        go_simp
        exact hK.out (.agg #[.bool sY, .slice AY1 kY1 cY1, .slice AY2 kY2 cY2]) _ _ (by kernel_rfl) (nY4.q hN) (Q.refl _)
      refine Ja.Steps.cons (Each.yes hctx (by rfl) (by kernel_rfl) ?_) ?_
      · intro vals W hM hd K hK
        have hN : Q w4 W := (Q.refl _).drew.trans hM
        have hQ := hG4.trans hN
        have d3 : Nq W (vals 3) (p) := hd 3 (by kernel_rfl)
        have d4 : Nq W (vals 4) (q) := hd 4 (by kernel_rfl)
        go_simp
        (with_reducible refine (q_Max _ _ (p) (q) W d3 d4 B22.out).mono ?_)
        rintro e W9 ⟨r, rfl, hr, hq9⟩
        exact hK.out r W9 _ (by kernel_rfl) hr hq9
      refine Ja.Steps.cons (Each.yes hctx (by rfl) (by kernel_rfl) ?_) ?_
      · intro vals W hM hd K hK
        have hN : Q w4 W := (Q.refl _).drew.trans hM
        have hQ := hG4.trans hN
        have d2 : Nq W (vals 2) (rmin (p) (q)) := hd 2 (by kernel_rfl)
        have d5 : Nq W (vals 5) (rmax (p) (q)) := hd 5 (by kernel_rfl)
        go_simp
        (with_reducible refine (q_Add _ _ (rmin (p) (q)) (rmax (p) (q)) W (hT.q hQ) d2 d5 B24.out).mono ?_)
        rintro e W9 ⟨r, rfl, hr, hq9⟩
        exact hK.out r W9 _ (by kernel_rfl) hr hq9
      refine Ja.Steps.cons (Each.yes hctx (by rfl) (by kernel_rfl) ?_) ?_
      · intro vals W hM hd K hK
        have hN : Q w4 W := (Q.refl _).drew.trans hM
        have hQ := hG4.trans hN
        obtain ⟨x0, x1, x2⟩ := (hX4.q hN).cells
        go_simp
        exact hK.out (.agg #[.bool sX, .slice AX1 kX1 cX1, .slice AX2 kX2 cX2]) _ _ (by kernel_rfl) (nX4.q hN) (Q.refl _)
      refine Ja.Steps.cons (Each.yes hctx (by rfl) (by kernel_rfl) ?_) ?_
      · intro vals W hM hd K hK
        have hN : Q w4 W := (Q.refl _).drew.trans hM
        have hQ := hG4.trans hN
        obtain ⟨y0, y1, y2⟩ := (hY4.q hN).cells
        go_simp
        exact hK.out (.agg #[.bool sY, .slice AY1 kY1 cY1, .slice AY2 kY2 cY2]) _ _ (by kernel_rfl) (nY4.q hN) (Q.refl _)
      refine Ja.Steps.cons (Each.yes hctx (by rfl) (by kernel_rfl) ?_) ?_
      · intro vals W hM hd K hK
        have hN : Q w4 W := (Q.refl _).drew.trans hM
        have hQ := hG4.trans hN
        have d7 : Nq W (vals 7) (p) := hd 7 (by kernel_rfl)
        have d8 : Nq W (vals 8) (q) := hd 8 (by kernel_rfl)
        go_simp
        (with_reducible refine (q_Add _ _ (p) (q) W (hT.q hQ) d7 d8 B26.out).mono ?_)
        rintro e W9 ⟨r, rfl, hr, hq9⟩
        exact hK.out r W9 _ (by kernel_rfl) hr hq9
      refine Ja.Steps.cons (Each.yes hctx (by rfl) (by kernel_rfl) ?_) ?_
      · intro vals W hM hd K hK
        have hN : Q w4 W := (Q.refl _).drew.trans hM
        have hQ := hG4.trans hN
        have d6 : Nq W (vals 6) ((rmin (p) (q)) + (rmax (p) (q))) := hd 6 (by kernel_rfl)
        have d9 : Nq W (vals 9) ((p) + (q)) := hd 9 (by kernel_rfl)
        go_simp
        (with_reducible refine (q_equal _ _ ((rmin (p) (q)) + (rmax (p) (q))) W (hT.q hQ) (hPx.q hQ) d6 (by rw [show ((rmin (p) (q)) + (rmax (p) (q)) : Rat) = (p) + (q) from rmin_add_rmax p q]; exact d9) B27.out).mono ?_)
        rintro e W9 ⟨rfl, hq9⟩
        exact hK.out (.bool true) W9 _ (by kernel_rfl) rfl hq9
      refine Ja.Steps.cons (Each.yes hctx (by rfl) (by kernel_rfl) ?_) ?_
      · intro vals W hM hd K hK
        have hN : Q w4 W := (Q.refl _).drew.trans hM
        have hQ := hG4.trans hN
        have d10 : vals 10 = .bool true := hd 10 (by kernel_rfl)
        generalize vals 10 = u10 at d10 hK ⊢
        subst d10
        go_simp
        exact hK.out (.bool true) _ _ (by kernel_rfl) rfl (Q.refl _)
      refine Ja.Steps.cons (Each.yes hctx (by rfl) (by kernel_rfl) ?_) ?_
      · intro vals W hM hd K hK
        have hN : Q w4 W := (Q.refl _).drew.trans hM
        have hQ := hG4.trans hN
        obtain ⟨x0, x1, x2⟩ := (hX4.q hN).cells
        go_simp
        exact hK.out (.agg #[.bool sX, .slice AX1 kX1 cX1, .slice AX2 kX2 cX2]) _ _ (by kernel_rfl) (nX4.q hN) (Q.refl _)
      refine Ja.Steps.cons (Each.yes hctx (by rfl) (by kernel_rfl) ?_) ?_
      · intro vals W hM hd K hK
        have hN : Q w4 W := (Q.refl _).drew.trans hM
        have hQ := hG4.trans hN
        obtain ⟨y0, y1, y2⟩ := (hY4.q hN).cells
        go_simp
        exact hK.out (.agg #[.bool sY, .slice AY1 kY1 cY1, .slice AY2 kY2 cY2]) _ _ (by kernel_rfl) (nY4.q hN) (Q.refl _)
      refine Ja.Steps.cons (Each.yes hctx (by rfl) (by kernel_rfl) ?_) ?_
      · intro vals W hM hd K hK
        have hN : Q w4 W := (Q.refl _).drew.trans hM
        have hQ := hG4.trans hN
        have d12 : Nq W (vals 12) (p) := hd 12 (by kernel_rfl)
        have d13 : Nq W (vals 13) (q) := hd 13 (by kernel_rfl)
        go_simp
        (with_reducible refine (q_Min _ _ (p) (q) W d12 d13 B28.out).mono ?_)
        rintro e W9 ⟨r, rfl, hr, hq9⟩
        exact hK.out r W9 _ (by kernel_rfl) hr hq9
      refine Ja.Steps.cons (Each.yes hctx (by rfl) (by kernel_rfl) ?_) ?_
      · intro vals W hM hd K hK
        have hN : Q w4 W := (Q.refl _).drew.trans hM
        have hQ := hG4.trans hN
        obtain ⟨x0, x1, x2⟩ := (hX4.q hN).cells
        go_simp
        exact hK.out (.agg #[.bool sX, .slice AX1 kX1 cX1, .slice AX2 kX2 cX2]) _ _ (by kernel_rfl) (nX4.q hN) (Q.refl _)
      refine Ja.Steps.cons (Each.yes hctx (by rfl) (by kernel_rfl) ?_) ?_
      · intro vals W hM hd K hK
        have hN : Q w4 W := (Q.refl _).drew.trans hM
        have hQ := hG4.trans hN
        obtain ⟨y0, y1, y2⟩ := (hY4.q hN).cells
        go_simp
        exact hK.out (.agg #[.bool sY, .slice AY1 kY1 cY1, .slice AY2 kY2 cY2]) _ _ (by kernel_rfl) (nY4.q hN) (Q.refl _)
      refine Ja.Steps.cons (Each.yes hctx (by rfl) (by kernel_rfl) ?_) ?_
      · intro vals W hM hd K hK
        have hN : Q w4 W := (Q.refl _).drew.trans hM
        have hQ := hG4.trans hN
        have d15 : Nq W (vals 15) (p) := hd 15 (by kernel_rfl)
        have d16 : Nq W (vals 16) (q) := hd 16 (by kernel_rfl)
        go_simp
        (with_reducible refine (q_Max _ _ (p) (q) W d15 d16 B29.out).mono ?_)
        rintro e W9 ⟨r, rfl, hr, hq9⟩
        exact hK.out r W9 _ (by kernel_rfl) hr hq9
      refine Ja.Steps.cons (Each.yes hctx (by rfl) (by kernel_rfl) ?_) ?_
      · intro vals W hM hd K hK
        have hN : Q w4 W := (Q.refl _).drew.trans hM
        have hQ := hG4.trans hN
        have d14 : Nq W (vals 14) (rmin (p) (q)) := hd 14 (by kernel_rfl)
        have d17 : Nq W (vals 17) (rmax (p) (q)) := hd 17 (by kernel_rfl)
        go_simp
        (with_reducible refine (q_Cmp _ _ (rmin (p) (q)) (rmax (p) (q)) W d14 d17 B30.out).mono ?_)
        rintro e W9 ⟨rfl, hq9⟩
        exact hK.out (.int .i64 (rc (rmin (p) (q)) (rmax (p) (q)))) W9 _ (by kernel_rfl) rfl hq9
      refine Ja.Steps.cons (Each.yes hctx (by rfl) (by kernel_rfl) ?_) ?_
      · intro vals W hM hd K hK
        have hN : Q w4 W := (Q.refl _).drew.trans hM
        have hQ := hG4.trans hN
        have d18 : vals 18 = .int .i64 (rc (rmin (p) (q)) (rmax (p) (q))) := hd 18 (by kernel_rfl)
        generalize vals 18 = u18 at d18 hK ⊢
        subst d18
        go_simp
        rw [decide_eq_true (show ((rc (rmin (p) (q)) (rmax (p) (q)) : Int) ≤ 0) from (rc_le _ _).2 (rmin_le_rmax p q))]
        exact hK.out (.bool true) _ _ (by kernel_rfl) rfl (Q.refl _)
      refine Ja.Steps.cons (Each.yes hctx (by rfl) (by kernel_rfl) ?_) ?_
      · intro vals W hM hd K hK
        have hN : Q w4 W := (Q.refl _).drew.trans hM
        have hQ := hG4.trans hN
        have d11 : vals 11 = .bool true := hd 11 (by kernel_rfl)
        generalize vals 11 = u11 at d11 hK ⊢
        subst d11
        have d19 : vals 19 = .bool true := hd 19 (by kernel_rfl)
        generalize vals 19 = u19 at d19 hK ⊢
        subst d19
        go_simp
        exact hK.out (.bool true) _ _ (by kernel_rfl) rfl (Q.refl _)
      refine Ja.Steps.cons (Each.yes hctx (by rfl) (by kernel_rfl) ?_) ?_
      · intro vals W hM hd K hK
        have hN : Q w4 W := (Q.refl _).drew.trans hM
        have hQ := hG4.trans hN
        have d20 : vals 20 = .bool true := hd 20 (by kernel_rfl)
        generalize vals 20 = u20 at d20 hK ⊢
        subst d20
        go_simp
        exact hK.out (.bool true) _ _ (by kernel_rfl) rfl (Q.refl _)
      refine Ja.Steps.cons (Each.yes hctx (by rfl) (by kernel_rfl) ?_) ?_
      · intro vals W hM hd K hK
        have hN : Q w4 W := (Q.refl _).drew.trans hM
        have hQ := hG4.trans hN
        go_simp
        (with_reducible refine (q_Awake W (hT.q hQ) (hPx.q hQ)).mono ?_)
        rintro e W9 ⟨rfl, hq9⟩
        exact hK.out (.bool true) W9 _ (by kernel_rfl) rfl hq9
      refine Ja.Steps.cons (Each.yes hctx (by rfl) (by kernel_rfl) ?_) ?_
      · intro vals W hM hd K hK
        have hN : Q w4 W := (Q.refl _).drew.trans hM
        have hQ := hG4.trans hN
        have d21 : vals 21 = .bool true := hd 21 (by kernel_rfl)
        generalize vals 21 = u21 at d21 hK ⊢
        subst d21
        have d22 : vals 22 = .bool true := hd 22 (by kernel_rfl)
        generalize vals 22 = u22 at d22 hK ⊢
        subst d22
        go_simp
        exact hK.out (.bool true) _ _ (by kernel_rfl) rfl (Q.refl _)
      refine Ja.Steps.cons (Each.yes hctx (by rfl) (by kernel_rfl) ?_) ?_
      · intro vals W hM hd K hK
        have hN : Q w4 W := (Q.refl _).drew.trans hM
        have hQ := hG4.trans hN
        have d23 : vals 23 = .bool true := hd 23 (by kernel_rfl)
        generalize vals 23 = u23 at d23 hK ⊢
        subst d23
        go_simp
        exact hK.out (.bool true) _ _ (by kernel_rfl) rfl (Q.refl _)
      exact Ja.Steps.nil
    intro vals w5 hq5 hall
    have hG5 := hG4.trans hq5
    have hX5 := hX4.q hq5
    have nX5 := nX4.q hq5
    have hY5 := hY4.q hq5
    have nY5 := nY4.q hq5
    have hZ5 := hZ4.q hq5
    have nZ5 := nZ4.q hq5
    have f6 : vals 24 = .bool true := hall 24 (by decide)
    rw [f6]
    clear hall hq5 hG4 hX4 hY4 hZ4 nX4 nY4 nZ4
    go_wp2_with fail
    go_ret
    exact ⟨ret_bool rfl, by rw [← hw0]; exact hG5⟩
end Go.Proofs.YtimdddpfoagbjaaGreatDoor
