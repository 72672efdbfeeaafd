/- ValueTexts (P1.9): the law holds. No condition.. Part of the proof: texts Je5. -/
import Derived.Test.YtgokbhikgdhmpaaGreatDoorQt22
import Derived.Test.YtgokbhikgdhmpaaGreatDoorQt25
namespace Go.Proofs.YtgokbhikgdhmpaaGreatDoor.K
open Go.RowKit
open Ma Me
def Ez (w : World) (g o : Nat) (x y z : Value) : Prop := g < w.heap.size ∧ w.cell? ⟨g, o, none⟩ = some x ∧ w.cell? ⟨g, o + 1, none⟩ = some y ∧ w.cell? ⟨g, o + 2, none⟩ = some z
theorem Ez.q {w w' : World} {g o : Nat} {x y z : Value} (h : Ez w g o x y z) (hq : Q w w') : Ez w' g o x y z :=
 ⟨Nat.lt_of_lt_of_le h.1 hq.size, (hq.cell h.1).trans h.2.1, (hq.cell h.1).trans h.2.2.1, (hq.cell h.1).trans h.2.2.2⟩
theorem elems {w : World} {g : Nat} {p q r : Rat} {s1 s2 s3 : Bool} {A1 A2 A3 A4 A5 A6 : Option Addr} {n1 c1 n2 c2 n3 c3 n4 c4 n5 c5 n6 c6 : Nat}
    (h : Bx w g 25 [.bool s1, .slice A1 n1 c1, .slice A2 n2 c2, .bool s2, .slice A3 n3 c3, .slice A4 n4 c4, .bool s3, .slice A5 n5 c5, .slice A6 n6 c6])
    (h1 : Nq w (.agg #[.bool s1, .slice A1 n1 c1, .slice A2 n2 c2]) p) (h2 : Nq w (.agg #[.bool s2, .slice A3 n3 c3, .slice A4 n4 c4]) q) (h3 : Nq w (.agg #[.bool s3, .slice A5 n5 c5, .slice A6 n6 c6]) r) :
    ∀ i, i < 3 → ∃ t s A n c A' n' c', (t = p ∨ t = q ∨ t = r) ∧ Ez w g (i * 3) (.bool s) (.slice A n c) (.slice A' n' c') ∧ Nq w (.agg #[.bool s, .slice A n c, .slice A' n' c']) t := by
  intro i hi
  have hi3 : i = 0 ∨ i = 1 ∨ i = 2 := by omega
  rcases hi3 with rfl | rfl | rfl
  · exact ⟨p, _, _, _, _, _, _, _, Or.inl rfl, ⟨h.lt, h.cell 0 rfl, h.cell 1 rfl, h.cell 2 rfl⟩, h1⟩
  · exact ⟨q, _, _, _, _, _, _, _, Or.inr (Or.inl rfl), ⟨h.lt, h.cell 3 rfl, h.cell 4 rfl, h.cell 5 rfl⟩, h2⟩
  · exact ⟨r, _, _, _, _, _, _, _, Or.inr (Or.inr rfl), ⟨h.lt, h.cell 6 rfl, h.cell 7 rfl, h.cell 8 rfl⟩, h3⟩
set_option maxRecDepth 100000 in
set_option maxHeartbeats 8000000 in
theorem q_ValueTexts (a b : ByteArray) (w : World) (hT : Tb w) (hPx : Px w) (ha : a.size ≤ 9223372036854775806) (hb : b.size ≤ 9223372036854775806) :
    Calls Tryz.prog 12 #[.string a, .string b] w fun e w' => e = .returned (.bool true) ∧ Q w w' := by
  obtain ⟨w0, hw0, hG0⟩ : ∃ x, w = x ∧ Q w x := ⟨w, rfl, Q.refl w⟩
  rw [hw0]
  obtain ⟨ca, Hca⟩ : ∃ z : Int, Hid ((parseS a.data.toList).1 = z) := ⟨_, Lib.hid rfl⟩
  obtain ⟨p, Hp⟩ : ∃ z : Rat, Hid ((parseS a.data.toList).2 = z) := ⟨_, Lib.hid rfl⟩
  have Z1 : Hid (sz (p) ≤ 2000) := Lib.hid (by rw [← Hp.out]; exact parse_sz' _)
  obtain ⟨cb, Hcb⟩ : ∃ z : Int, Hid ((parseS b.data.toList).1 = z) := ⟨_, Lib.hid rfl⟩
  obtain ⟨q, Hq⟩ : ∃ z : Rat, Hid ((parseS b.data.toList).2 = z) := ⟨_, Lib.hid rfl⟩
  have Z2 : Hid (sz (q) ≤ 2000) := Lib.hid (by rw [← Hq.out]; exact parse_sz' _)
  go_enter Tryz.func12, Tryz.ntmps12
  go_upto_region 1 with fail
  have hAt0 : At0 w0 [{ al := some 5, g := 0, t := 25, ck := [.b, .s, .s], row := .agg #[.bool false, .slice none 0 0, .slice none 0 0], st := 6, src := 3 }] [] w0 := At0.of (Q.refl _) ⟨fun h => (by cases h), trivial⟩ (by simp [Apart0]) trivial
  refine text_cells (F := ?F1) w0 ([.eq (.string (a)), .gen (pT2 (pNum (p)) (pEq (.int .i64 (ca)))), .gen (pT2 (pNum (p)) (pEq (.int .i64 (ca)))), .gen (pNum (p)), .eq (.int .i64 (ca)), .any, .any, .eq (.int .i64 (ca))] : List Vs) _ _ (by kernel_rfl) hAt0 ?hF1 ?st1 ?en1
  case hF1 =>
    intro vals
    simp only [Ja.fillL, Act.put, List.setIfInBounds_toArray, List.set_cons_zero, List.set_cons_succ, Nat.reduceAdd]
    exact rfl
  case st1 =>
    clear hAt0
    intro hctx
    refine JC.p hctx ?_
    refine JC.ca (fun vals W hN hd hk => (q_Parse a W (hT.q (hG0.trans hN)) ha).mono (by rintro e W9 ⟨r, rfl, hr, hq9⟩; exact ⟨(.tuple #[r, .int .i64 (parseS a.data.toList).1]), rfl, ⟨_, _, rfl, (by have h7 := hr; rw [Hp.out] at h7; exact h7), congrArg (Value.int .i64) Hca.out⟩, hq9⟩)) hctx ?_
    refine JC.m 1 hctx ?_
    refine JC.o hctx ?_ ?_
    · intro L vals W hL hJ hd K hK
      have d2 : (pT2 (pNum (p)) (pEq (.int .i64 (ca)))).p (vals 2) W := hd 2 (by kernel_rfl)
      generalize vals 2 = u2 at d2 hK ⊢
      obtain ⟨e0, e1, rfl, he0, he1⟩ := d2
      go_simp
      exact hK.out (e0) _ _ (by kernel_rfl) he0 (Q.refl _)
    refine JC.o hctx ?_ ?_
    · intro L vals W hL hJ hd K hK
      have d2 : (pT2 (pNum (p)) (pEq (.int .i64 (ca)))).p (vals 2) W := hd 2 (by kernel_rfl)
      generalize vals 2 = u2 at d2 hK ⊢
      obtain ⟨e0, e1, rfl, he0, he1⟩ := d2
      obtain rfl : e1 = .int .i64 (ca) := he1
      go_simp
      exact hK.out (.int .i64 (ca)) _ _ (by kernel_rfl) rfl (Q.refl _)
    refine Ja.Steps.cons (JC.alloc (n := 0) (cells := [.bool false, .slice none 0 0, .slice none 0 0].toArray) (t := 25) hctx (by kernel_rfl) (by rfl) (by kernel_rfl) (by rfl) (by rfl) (by kernel_rfl) (by rfl) (fun W => NbV.mk (t := 25) (ck := [.b, .s, .s]) (row := [.bool false, .slice none 0 0, .slice none 0 0]) ⟨⟨_, rfl⟩, ⟨_, _, _, rfl⟩, ⟨_, _, _, rfl⟩, trivial⟩ (Bx.new W _ _)) ?_) ?_
    · intro vals W K hK
      go_simp
      exact hK.out _ (by kernel_rfl)
    refine JC.s3 (n := 0) rfl fNum hctx ?_
    refine JC.p hctx ?_
    exact Ja.Steps.nil
  intro L vals w1 hall hJ
  clear hAt0
  have hq1 := hJ.q
  have hG1 := hG0.trans hq1
  clear hG0 
  obtain ⟨gX, eX, geX, qX⟩ := hJ.fresh 0 rfl rfl (hall 5 (by decide)) (hall 6 (by decide))
  have nX1 : Nq w1 (vals 3) (p) := hJ.s 3 (hall 3 (by decide))
  have qxX := NbV.ex qX
  obtain ⟨sX0, AX1, kX1, cX1, AX2, kX2, cX2, yX, hX1⟩ := qxX
  change Bx w1 (gX) 25 [.bool sX0, .slice AX1 kX1 cX1, .slice AX2 kX2 cX2] at hX1
  try dsimp only at yX
  rw [yX] at nX1
  clear yX qX
  rw [eX]
  clear eX
  have f6 : vals 7 = .int .i64 (ca) := hJ.s 7 (hall 7 (by decide))
  rw [f6]
  clear f6
  clear hall hJ
  go_upto_region 2 with fail
  have hAt1 : At0 w1 [{ al := some 5, g := 0, t := 25, ck := [.b, .s, .s], row := .agg #[.bool false, .slice none 0 0, .slice none 0 0], st := 6, src := 3 }] [] w1 := At0.of (Q.refl _) ⟨fun h => (by cases h), trivial⟩ (by simp [Apart0]) trivial
  refine text_cells (F := ?F2) w1 ([.eq (.string (b)), .gen (pT2 (pNum (q)) (pEq (.int .i64 (cb)))), .gen (pT2 (pNum (q)) (pEq (.int .i64 (cb)))), .gen (pNum (q)), .eq (.int .i64 (cb)), .any, .any, .eq (.int .i64 (cb))] : List Vs) _ _ (by kernel_rfl) hAt1 ?hF2 ?st2 ?en2
  case hF2 =>
    intro vals
    simp only [Ja.fillL, Act.put, List.setIfInBounds_toArray, List.set_cons_zero, List.set_cons_succ, Nat.reduceAdd]
    exact rfl
  case st2 =>
    clear hAt1
    intro hctx
    refine JC.p hctx ?_
    refine JC.ca (fun vals W hN hd hk => (q_Parse b W (hT.q (hG1.trans hN)) hb).mono (by rintro e W9 ⟨r, rfl, hr, hq9⟩; exact ⟨(.tuple #[r, .int .i64 (parseS b.data.toList).1]), rfl, ⟨_, _, rfl, (by have h7 := hr; rw [Hq.out] at h7; exact h7), congrArg (Value.int .i64) Hcb.out⟩, hq9⟩)) hctx ?_
    refine JC.m 1 hctx ?_
    refine JC.o hctx ?_ ?_
    · intro L vals W hL hJ hd K hK
      have d2 : (pT2 (pNum (q)) (pEq (.int .i64 (cb)))).p (vals 2) W := hd 2 (by kernel_rfl)
      generalize vals 2 = u2 at d2 hK ⊢
      obtain ⟨e0, e1, rfl, he0, he1⟩ := d2
      go_simp
      exact hK.out (e0) _ _ (by kernel_rfl) he0 (Q.refl _)
    refine JC.o hctx ?_ ?_
    · intro L vals W hL hJ hd K hK
      have d2 : (pT2 (pNum (q)) (pEq (.int .i64 (cb)))).p (vals 2) W := hd 2 (by kernel_rfl)
      generalize vals 2 = u2 at d2 hK ⊢
      obtain ⟨e0, e1, rfl, he0, he1⟩ := d2
      obtain rfl : e1 = .int .i64 (cb) := he1
      go_simp
      exact hK.out (.int .i64 (cb)) _ _ (by kernel_rfl) rfl (Q.refl _)
    refine Ja.Steps.cons (JC.alloc (n := 0) (cells := [.bool false, .slice none 0 0, .slice none 0 0].toArray) (t := 25) hctx (by kernel_rfl) (by rfl) (by kernel_rfl) (by rfl) (by rfl) (by kernel_rfl) (by rfl) (fun W => NbV.mk (t := 25) (ck := [.b, .s, .s]) (row := [.bool false, .slice none 0 0, .slice none 0 0]) ⟨⟨_, rfl⟩, ⟨_, _, _, rfl⟩, ⟨_, _, _, rfl⟩, trivial⟩ (Bx.new W _ _)) ?_) ?_
    · intro vals W K hK
      go_simp
      exact hK.out _ (by kernel_rfl)
    refine JC.s3 (n := 0) rfl fNum hctx ?_
    refine JC.p hctx ?_
    exact Ja.Steps.nil
  intro L vals w2 hall hJ
  clear hAt1
  have hq2 := hJ.q
  have hG2 := hG1.trans hq2
  have hX2 := hX1.q hq2
  have nX2 := Nq.q nX1 hq2
  clear hG1 hX1 nX1
  obtain ⟨gY, eY, geY, qY⟩ := hJ.fresh 0 rfl rfl (hall 5 (by decide)) (hall 6 (by decide))
  have nY2 : Nq w2 (vals 3) (q) := hJ.s 3 (hall 3 (by decide))
  have qxY := NbV.ex qY
  obtain ⟨sY0, AY1, kY1, cY1, AY2, kY2, cY2, yY, hY2⟩ := qxY
  change Bx w2 (gY) 25 [.bool sY0, .slice AY1 kY1 cY1, .slice AY2 kY2 cY2] at hY2
  try dsimp only at yY
  rw [yY] at nY2
  clear yY qY
  rw [eY]
  clear eY
  have f8 : vals 7 = .int .i64 (cb) := hJ.s 7 (hall 7 (by decide))
  rw [f8]
  clear f8
  clear hall hJ
  go_upto_region 3 with fail
  by_cases hA0 : ca = 0
  · have HA0 := Lib.hid hA0; clear hA0
    by_cases hB0 : cb = 0
    · have HB0 := Lib.hid hB0; clear hB0
      have hAt2 : At0 w2 [] [] w2 := At0.of (Q.refl _) trivial (by simp [Apart0]) trivial
      refine text_cells (F := ?F3) w2 ([.eq (.int .i64 (ca)), .eq (.bool false), .eq (.bool false), .eq (.int .i64 (cb)), .eq (.bool false), .eq (.bool false)] : List Vs) _ _ (by kernel_rfl) hAt2 ?hF3 ?st3 ?en3
      case hF3 =>
        intro vals
        simp only [Ja.fillL, Act.put, List.setIfInBounds_toArray, List.set_cons_zero, List.set_cons_succ, Nat.reduceAdd]
        exact rfl
      case st3 =>
        clear hAt2
        intro hctx
        refine JC.p hctx ?_
        refine JC.u (.bool (!((ca) == (0)))) (congrArg Value.bool (bne_eq_false_iff_eq.2 (HA0.out))) hctx ?_
        refine JC.p hctx ?_
        refine JC.p hctx ?_
        refine JC.u (.bool (!((cb) == (0)))) (congrArg Value.bool (bne_eq_false_iff_eq.2 (HB0.out))) hctx ?_
        refine JC.p hctx ?_
        exact Ja.Steps.nil
      intro L vals w3 hall hJ
      clear hAt2
      have hq3 := hJ.q
      have hG3 := hG2.trans hq3
      have hX3 := hX2.q hq3
      have nX3 := Nq.q nX2 hq3
      have hY3 := hY2.q hq3
      have nY3 := Nq.q nY2 hq3
      clear hG2 hX2 hY2 nX2 nY2
      have f32 : vals 5 = .bool false := hJ.s 5 (hall 5 (by decide))
      rw [f32]
      clear f32
      clear hall hJ
      go_upto_region 5 with fail
      have hab := texts_beq (a := a) (b := b) (p := p) (q := q) (Prod.ext (Hca.out.trans HA0.out) Hp.out) (Prod.ext (Hcb.out.trans HB0.out) Hq.out)
      obtain ⟨b9, Hb9⟩ : ∃ x : Bool, Hid (decide (p = q) = x) := ⟨_, Lib.hid rfl⟩
      have E1 : Hid ((a.toList == b.toList) = b9) := Lib.hid (by rw [← Hb9.out]; exact hab.1)
      have E2 : Hid (((rc p q : Int) == 0) = b9) := Lib.hid (by rw [← Hb9.out]; exact hab.2.1)
      have E3 : Hid (((ofL (showQ p)).toList == (ofL (showQ q)).toList) = b9) := Lib.hid (by rw [← Hb9.out]; exact hab.2.2)
      clear hab
      have B3 : Hid (64 * (sz (p) + sz (q)) + 400 ≤ LIM) := Lib.hid (by have h0 := Z1.out; have h1 := Z2.out; rw [LIM_eq]; omega)
      have B4 : Hid (2000 * (sz (p)) + 500000 ≤ LIM) := Lib.hid (by have h0 := Z1.out; rw [LIM_eq]; omega)
      have B5 : Hid (2000 * (sz (q)) + 500000 ≤ LIM) := Lib.hid (by have h0 := Z2.out; rw [LIM_eq]; omega)
      have hAt3 : At0 w3 [] [] w3 := At0.of (Q.refl _) trivial (by simp [Apart0]) trivial
      refine region_cells (F := ?F4) w3 ([.eq (.string (a)), .eq (.string (b)), .eq (.bool (b9)), .gen (pNum (p)), .gen (pNum (q)), .eq (.int .i64 (rc (p) (q))), .eq (.bool (b9)), .eq (.bool false), .eq (.bool false), .eq (.string (a)), .eq (.string (b)), .eq (.bool (b9)), .gen (pNum (p)), .eq (.string (ofL (showQ (p)))), .gen (pNum (q)), .eq (.string (ofL (showQ (q)))), .eq (.bool (b9)), .eq (.bool false), .eq (.bool false)] : List Vs) _ _ (by kernel_rfl) (by kernel_rfl) hAt3 ?hF4 ?st4 ?en4
      case hF4 =>
        intro vals
        simp only [Ja.fillL, Act.put, List.setIfInBounds_toArray, List.set_cons_zero, List.set_cons_succ, Nat.reduceAdd]
        exact rfl
      case st4 =>
        clear hAt3
        intro hctx
        refine JC.p hctx ?_
        refine JC.p hctx ?_
        refine JC.o hctx ?_ ?_
        · intro L vals W hL hJ hd K hK
          have d0 : vals 0 = .string (a) := hd 0 (by kernel_rfl)
          generalize vals 0 = u0 at d0 hK ⊢
          subst d0
          have d1 : vals 1 = .string (b) := hd 1 (by kernel_rfl)
          generalize vals 1 = u1 at d1 hK ⊢
          subst d1
          go_simp
          rw [E1.out]
          exact hK.out (.bool b9) _ _ (by kernel_rfl) rfl (Q.refl _)
        refine JC.l3 (off := 0) hX3 (fun W hN => (Nq.q nX3 hN)) hctx ?_
        refine JC.l3 (off := 0) hY3 (fun W hN => (Nq.q nY3 hN)) hctx ?_
        refine JC.ca (fun vals W hN hd hk => (q_Cmp _ _ (p) (q) W (hd 3 (by kernel_rfl)) (hd 4 (by kernel_rfl)) B3.out).mono (by rintro e W9 ⟨rfl, hq9⟩; exact ⟨(.int .i64 (rc (p) (q))), rfl, rfl, hq9⟩)) hctx ?_
        refine JC.o hctx ?_ ?_
        · intro L vals W hL hJ hd K hK
          have d5 : vals 5 = .int .i64 (rc (p) (q)) := hd 5 (by kernel_rfl)
          generalize vals 5 = u5 at d5 hK ⊢
          subst d5
          go_simp
          rw [show (((rc (p) (q)) : Int) == (0)) = b9 from E2.out]
          exact hK.out (.bool b9) _ _ (by kernel_rfl) rfl (Q.refl _)
        refine JC.o hctx ?_ ?_
        · intro L vals W hL hJ hd K hK
          have d2 : vals 2 = .bool (b9) := hd 2 (by kernel_rfl)
          generalize vals 2 = u2 at d2 hK ⊢
          subst d2
          have d6 : vals 6 = .bool (b9) := hd 6 (by kernel_rfl)
          generalize vals 6 = u6 at d6 hK ⊢
          subst d6
          go_simp
          exact hK.out (.bool false) _ _ (by kernel_rfl) rfl (Q.refl _)
        refine JC.p hctx ?_
        refine JC.p hctx ?_
        refine JC.p hctx ?_
        refine JC.o hctx ?_ ?_
        · intro L vals W hL hJ hd K hK
          have d9 : vals 9 = .string (a) := hd 9 (by kernel_rfl)
          generalize vals 9 = u9 at d9 hK ⊢
          subst d9
          have d10 : vals 10 = .string (b) := hd 10 (by kernel_rfl)
          generalize vals 10 = u10 at d10 hK ⊢
          subst d10
          go_simp
          rw [E1.out]
          exact hK.out (.bool b9) _ _ (by kernel_rfl) rfl (Q.refl _)
        refine JC.l3 (off := 0) hX3 (fun W hN => (Nq.q nX3 hN)) hctx ?_
        refine JC.ca (fun vals W hN hd hk => (q_Show _ (p) W (hT.q (hG3.trans hN)) (hPx.q (hG3.trans hN)) (hd 12 (by kernel_rfl)) B4.out).mono (by rintro e W9 ⟨t, rfl, ht, hq9⟩; exact ⟨(.string t), rfl, (congrArg Value.string (str_of ht)), hq9⟩)) hctx ?_
        refine JC.l3 (off := 0) hY3 (fun W hN => (Nq.q nY3 hN)) hctx ?_
        refine JC.ca (fun vals W hN hd hk => (q_Show _ (q) W (hT.q (hG3.trans hN)) (hPx.q (hG3.trans hN)) (hd 14 (by kernel_rfl)) B5.out).mono (by rintro e W9 ⟨t, rfl, ht, hq9⟩; exact ⟨(.string t), rfl, (congrArg Value.string (str_of ht)), hq9⟩)) hctx ?_
        refine JC.o hctx ?_ ?_
        · intro L vals W hL hJ hd K hK
          have d13 : vals 13 = .string (ofL (showQ (p))) := hd 13 (by kernel_rfl)
          generalize vals 13 = u13 at d13 hK ⊢
          subst d13
          have d15 : vals 15 = .string (ofL (showQ (q))) := hd 15 (by kernel_rfl)
          generalize vals 15 = u15 at d15 hK ⊢
          subst d15
          go_simp
          rw [E3.out]
          exact hK.out (.bool b9) _ _ (by kernel_rfl) rfl (Q.refl _)
        refine JC.o hctx ?_ ?_
        · intro L vals W hL hJ hd K hK
          have d11 : vals 11 = .bool (b9) := hd 11 (by kernel_rfl)
          generalize vals 11 = u11 at d11 hK ⊢
          subst d11
          have d16 : vals 16 = .bool (b9) := hd 16 (by kernel_rfl)
          generalize vals 16 = u16 at d16 hK ⊢
          subst d16
          go_simp
          exact hK.out (.bool false) _ _ (by kernel_rfl) rfl (Q.refl _)
        refine JC.p hctx ?_
        exact Ja.Steps.nil
      intro L vals w4 hall hJ
      clear hAt3
      have hq4 := hJ.q
      have hG4 := hG3.trans hq4
      have hX4 := hX3.q hq4
      have nX4 := Nq.q nX3 hq4
      have hY4 := hY3.q hq4
      have nY4 := Nq.q nY3 hq4
      clear hG3 hX3 hY3 nX3 nY3
      have f52 : vals 18 = .bool false := hJ.s 18 (hall 18 (by decide))
      rw [f52]
      clear f52
      clear hall hJ
      go_upto_region 7 with fail
      clear E1 E2 E3
      have Z6 : Hid (sz ((p) * (q)) ≤ 4000) := Lib.hid (by have h9 := sz_mul (p) (q); have h0 := Z1.out; have h1 := Z2.out; omega)
      have B7 : Hid (16 * (sz (p) + sz (q)) + 100 ≤ LIM) := Lib.hid (by have h0 := Z1.out; have h1 := Z2.out; rw [LIM_eq]; omega)
      have Z8 : Hid (sz ((p) * (p)) ≤ 4000) := Lib.hid (by have h9 := sz_mul (p) (p); have h0 := Z1.out; have h1 := Z1.out; omega)
      have B9 : Hid (16 * (sz (p) + sz (p)) + 100 ≤ LIM) := Lib.hid (by have h0 := Z1.out; have h1 := Z1.out; rw [LIM_eq]; omega)
      have Z10 : Hid (sz (((p) * (p)) - (q)) ≤ 12001) := Lib.hid (by have h9 := sz_sub ((p) * (p)) (q); have h0 := Z8.out; have h1 := Z2.out; omega)
      have B11 : Hid (64 * (sz ((p) * (p)) + sz (q)) + 400 ≤ LIM) := Lib.hid (by have h0 := Z8.out; have h1 := Z2.out; rw [LIM_eq]; omega)
      have hAt4 : At0 w4 [] [] w4 := At0.of (Q.refl _) trivial (by simp [Apart0]) trivial
      refine region_cells (F := ?F5) w4 ([.gen (pNum (p)), .gen (pNum (p)), .gen (pNum (q)), .gen (pNum ((p) * (q))), .gen (pNum (p)), .gen (pNum (p)), .gen (pNum ((p) * (p))), .gen (pNum (q)), .gen (pNum (((p) * (p)) - (q))), .gen (pL3 (p) ((p) * (q)) (((p) * (p)) - (q))), .gen (pL3 (p) ((p) * (q)) (((p) * (p)) - (q)))] : List Vs) _ _ (by kernel_rfl) (by kernel_rfl) hAt4 ?hF5 ?st5 ?en5
      case hF5 =>
        intro vals
        simp only [Ja.fillL, Act.put, List.setIfInBounds_toArray, List.set_cons_zero, List.set_cons_succ, Nat.reduceAdd]
        exact rfl
      case st5 =>
        clear hAt4
        intro hctx
        refine JC.l3 (off := 0) hX4 (fun W hN => (Nq.q nX4 hN)) hctx ?_
        refine JC.l3 (off := 0) hX4 (fun W hN => (Nq.q nX4 hN)) hctx ?_
        refine JC.l3 (off := 0) hY4 (fun W hN => (Nq.q nY4 hN)) hctx ?_
        refine JC.ca (fun vals W hN hd hk => (q_Mul _ _ (p) (q) W (hT.q (hG4.trans hN)) (hd 1 (by kernel_rfl)) (hd 2 (by kernel_rfl)) B7.out).mono (by rintro e W9 ⟨r, rfl, hr, hq9⟩; exact ⟨r, rfl, hr, hq9⟩)) hctx ?_
        refine JC.l3 (off := 0) hX4 (fun W hN => (Nq.q nX4 hN)) hctx ?_
        refine JC.l3 (off := 0) hX4 (fun W hN => (Nq.q nX4 hN)) hctx ?_
        refine JC.ca (fun vals W hN hd hk => (q_Mul _ _ (p) (p) W (hT.q (hG4.trans hN)) (hd 4 (by kernel_rfl)) (hd 5 (by kernel_rfl)) B9.out).mono (by rintro e W9 ⟨r, rfl, hr, hq9⟩; exact ⟨r, rfl, hr, hq9⟩)) hctx ?_
        refine JC.l3 (off := 0) hY4 (fun W hN => (Nq.q nY4 hN)) hctx ?_
        refine JC.ca (fun vals W hN hd hk => (q_Sub _ _ ((p) * (p)) (q) W (hT.q (hG4.trans hN)) (hd 6 (by kernel_rfl)) (hd 7 (by kernel_rfl)) B11.out).mono (by rintro e W9 ⟨r, rfl, hr, hq9⟩; exact ⟨r, rfl, hr, hq9⟩)) hctx ?_
        refine JC.o hctx ?_ ?_
        · intro L vals W hL hJ hd K hK
          have d0 : Nq W (vals 0) (p) := hd 0 (by kernel_rfl)
          have d3 : Nq W (vals 3) ((p) * (q)) := hd 3 (by kernel_rfl)
          have d8 : Nq W (vals 8) (((p) * (p)) - (q)) := hd 8 (by kernel_rfl)
          generalize vals 0 = u0 at d0 hK ⊢
          obtain ⟨se0_0, Ae0_1, ke0_1, ce0_1, Ae0_2, ke0_2, ce0_2, rfl, -⟩ := Nq.form d0
          generalize vals 3 = u3 at d3 hK ⊢
          obtain ⟨se1_0, Ae1_1, ke1_1, ce1_1, Ae1_2, ke1_2, ce1_2, rfl, -⟩ := Nq.form d3
          generalize vals 8 = u8 at d8 hK ⊢
          obtain ⟨se2_0, Ae2_1, ke2_1, ce2_1, Ae2_2, ke2_2, ce2_2, rfl, -⟩ := Nq.form d8
          have hqa : Q W (W.alloc (.cells #[.bool se0_0, .slice Ae0_1 ke0_1 ce0_1, .slice Ae0_2 ke0_2 ce0_2, .bool se1_0, .slice Ae1_1 ke1_1 ce1_1, .slice Ae1_2 ke1_2 ce1_2, .bool se2_0, .slice Ae2_1 ke2_1 ce2_1, .slice Ae2_2 ke2_2 ce2_2] 25)) := (Q.refl _).alloc _
          go_simp
          exact hK.out _ _ _ (by kernel_rfl) ⟨_, _, _, _, _, _, _, _, _, _, _, _, _, _, _, _, _, _, _, _, _, _, rfl, Bx.new W _ _, Nq.q d0 hqa, Nq.q d3 hqa, Nq.q d8 hqa⟩ hqa
        refine JC.m 9 hctx ?_
        exact Ja.Steps.nil
      intro L vals w5 hall hJ
      clear hAt4
      have hq5 := hJ.q
      have hG5 := hG4.trans hq5
      have hX5 := hX4.q hq5
      have nX5 := Nq.q nX4 hq5
      have hY5 := hY4.q hq5
      have nY5 := Nq.q nY4 hq5
      clear hG4 hX4 hY4 nX4 nY4
      obtain ⟨x9_5, ex9_5⟩ : ∃ x, x = vals 10 := ⟨_, rfl⟩
      have v9_5_5 : (pL3 (p) ((p) * (q)) (((p) * (p)) - (q))).p (x9_5) w5 := (by have h9 : (pL3 (p) ((p) * (q)) (((p) * (p)) - (q))).p (vals 10) w5 := hJ.s 10 (hall 10 (by decide)); rw [← ex9_5] at h9; exact h9)
      rw [← ex9_5]; clear ex9_5
      clear hall hJ
      obtain ⟨gL, sM0_0, AM0_1, kM0_1, cM0_1, AM0_2, kM0_2, cM0_2, sM1_0, AM1_1, kM1_1, cM1_1, AM1_2, kM1_2, cM1_2, sM2_0, AM2_1, kM2_1, cM2_1, AM2_2, kM2_2, cM2_2, rfl, hL, hM0, hM1, hM2⟩ := v9_5_5
      have HEL := Lib.hid (elems hL hM0 hM1 hM2); clear hL hM0 hM1 hM2 hX5 nX5 hY5 nY5
      have HP : Hid (sz p ≤ 13000 ∧ sz (p * q) ≤ 13000 ∧ sz (p * p - q) ≤ 13000) := Lib.hid (by have h0 := Z1.out; have h1 := Z2.out; have h2 := sz_mul p q; have h3 := sz_mul p p; have h4 := sz_sub (p * p) q; refine ⟨?_, ?_, ?_⟩ <;> omega)
      go_wp2_with fail
      go_loopw [10] (fun iv w1 => ∃ i : Nat, iv = .int .i64 (i : Int) ∧ i ≤ 3 ∧ Q w5 w1) (fun iv _ => 3 - (intOf iv).toNat)
      case atStart => exact ⟨0, rfl, by omega, Q.refl _⟩
      case round =>
        obtain ⟨i, rfl, hi, hqr⟩ := hrel
        have hGr := hG5.trans hqr
        by_cases hp : i < 3
        · have h1 : (i : Int) < 3 := by omega
          have h0 : (0 : Int) ≤ (i : Int) := by omega
          have h2 : (i : Int).toNat = i := rfl
          have hG30 := hGr
          generalize wr = w30 at *
          clear hGr
          obtain ⟨t, sE0, AE1, kE1, cE1, AE2, kE2, cE2, htt, hEz, hnt⟩ := HEL.out i hp
          have hE30 := hEz.q hqr
          have vt_30 : Nq w30 (.agg #[.bool sE0, .slice AE1 kE1 cE1, .slice AE2 kE2 cE2]) t := Nq.q hnt hqr
          have ZT : Hid (sz t ≤ 13000) := Lib.hid (by have h9 := HP.out; rcases htt with h | h | h <;> rw [h] <;> omega)
          clear HEL HP hEz hnt htt Z1 Z2
          go_upto_region 11 with fail
          by_cases hD : digQ t ≤ 1000
          · have HD := Lib.hid hD; clear hD
            have B51 : Hid (100 * (sz (t)) + 100 ≤ LIM) := Lib.hid (by have h0 := ZT.out; rw [LIM_eq]; omega)
            have hAt30 : At0 w30 [] [] w30 := At0.of (Q.refl _) trivial (by simp [Apart0]) trivial
            refine text_cells (F := ?F6) w30 ([.eq (.slice (some ⟨gL, 0, none⟩) 3 3), .eq (.int .i64 ((i : Int))), .eq (.pointer (some ⟨gL, i * 3, none⟩)), .gen (pNum (t)), .eq (.int .i64 (((digQ (t) : Nat) : Int))), .eq (.bool false), .eq (.bool false)] : List Vs) _ _ (by kernel_rfl) hAt30 ?hF6 ?st6 ?en6
            case hF6 =>
              intro vals
              simp only [Ja.fillL, Act.put, List.setIfInBounds_toArray, List.set_cons_zero, List.set_cons_succ, Nat.reduceAdd]
              exact rfl
            case st6 =>
              clear hAt30
              intro hctx
              refine JC.p hctx ?_
              refine JC.p hctx ?_
              refine JC.o hctx ?_ ?_
              · intro L vals W hL hJ hd K hK
                have d0 : vals 0 = .slice (some ⟨gL, 0, none⟩) 3 3 := hd 0 (by kernel_rfl)
                generalize vals 0 = u0 at d0 hK ⊢
                subst d0
                have d1 : vals 1 = .int .i64 ((i : Int)) := hd 1 (by kernel_rfl)
                generalize vals 1 = u1 at d1 hK ⊢
                subst d1
                go_simp
                exact hK.out (.pointer (some ⟨gL, i * 3, none⟩)) _ _ (by kernel_rfl) rfl (Q.refl _)
              refine JC.o hctx ?_ ?_
              · intro L vals W hL hJ hd K hK
                have hN := hJ.q
                have d2 : vals 2 = .pointer (some ⟨gL, i * 3, none⟩) := hd 2 (by kernel_rfl)
                generalize vals 2 = u2 at d2 hK ⊢
                subst d2
                have z0 : W.cell? ⟨gL, i * 3, none⟩ = some (.bool sE0) := (hE30.q hN).2.1
                have z1 : W.cell? ⟨gL, i * 3 + 1, none⟩ = some (.slice AE1 kE1 cE1) := (hE30.q hN).2.2.1
                have z2 : W.cell? ⟨gL, i * 3 + 2, none⟩ = some (.slice AE2 kE2 cE2) := (hE30.q hN).2.2.2
                go_simp
                exact hK.out (.agg #[.bool sE0, .slice AE1 kE1 cE1, .slice AE2 kE2 cE2]) _ _ (by kernel_rfl) ((pNum (t)).q vt_30 hN) (Q.refl _)
              refine JC.ca (fun vals W hN hd hk => (q_Digits _ (t) W (hd 3 (by kernel_rfl)) B51.out).mono (by rintro e W9 ⟨rfl, hq9⟩; exact ⟨_, rfl, rfl, hq9⟩)) hctx ?_
              refine JC.u (.bool (decide ((1000) < (((digQ (t) : Nat) : Int))))) (congrArg Value.bool (decide_eq_false (show ¬ ((((digQ (t) : Nat) : Int) : Int) > 1000) from (by have h9 := HD.out; omega)))) hctx ?_
              refine JC.p hctx ?_
              exact Ja.Steps.nil
            intro L vals w31 hall hJ
            clear hAt30
            have hq31 := hJ.q
            have hG31 := hG30.trans hq31
            have hE31 := hE30.q hq31
            have vt_31 := Nq.q vt_30 hq31
            clear hG30 hE30 vt_30
            have f11 : vals 6 = .bool false := hJ.s 6 (hall 6 (by decide))
            rw [f11]
            clear f11
            clear hall hJ
            have HPT : Hid (parseS (ofL (textQ t)).data.toList = (0, t)) := Lib.hid (by show parseS (textQ t) = _; rw [parse_of_text, if_pos HD.out])
            go_upto_region 12 with fail
            have hAt31 : At0 w31 [{ al := some 9, g := 0, t := 25, ck := [.b, .s, .s], row := .agg #[.bool false, .slice none 0 0, .slice none 0 0], st := 10, src := 7 }] [] w31 := At0.of (Q.refl _) ⟨fun h => (by cases h), trivial⟩ (by simp [Apart0]) trivial
            refine text_cells (F := ?F7) w31 ([.eq (.slice (some ⟨gL, 0, none⟩) 3 3), .eq (.int .i64 ((i : Int))), .eq (.pointer (some ⟨gL, i * 3, none⟩)), .gen (pNum (t)), .eq (.string ((ofL (textQ t)))), .gen (pT2 (pNum (t)) (pEq (.int .i64 (0)))), .gen (pT2 (pNum (t)) (pEq (.int .i64 (0)))), .gen (pNum (t)), .eq (.int .i64 (0)), .any, .any, .eq (.int .i64 (0))] : List Vs) _ _ (by kernel_rfl) hAt31 ?hF7 ?st7 ?en7
            case hF7 =>
              intro vals
              simp only [Ja.fillL, Act.put, List.setIfInBounds_toArray, List.set_cons_zero, List.set_cons_succ, Nat.reduceAdd]
              exact rfl
            case st7 =>
              clear hAt31
              intro hctx
              refine JC.p hctx ?_
              refine JC.p hctx ?_
              refine JC.o hctx ?_ ?_
              · intro L vals W hL hJ hd K hK
                have d0 : vals 0 = .slice (some ⟨gL, 0, none⟩) 3 3 := hd 0 (by kernel_rfl)
                generalize vals 0 = u0 at d0 hK ⊢
                subst d0
                have d1 : vals 1 = .int .i64 ((i : Int)) := hd 1 (by kernel_rfl)
                generalize vals 1 = u1 at d1 hK ⊢
                subst d1
                go_simp
                exact hK.out (.pointer (some ⟨gL, i * 3, none⟩)) _ _ (by kernel_rfl) rfl (Q.refl _)
              refine JC.o hctx ?_ ?_
              · intro L vals W hL hJ hd K hK
                have hN := hJ.q
                have d2 : vals 2 = .pointer (some ⟨gL, i * 3, none⟩) := hd 2 (by kernel_rfl)
                generalize vals 2 = u2 at d2 hK ⊢
                subst d2
                have z0 : W.cell? ⟨gL, i * 3, none⟩ = some (.bool sE0) := (hE31.q hN).2.1
                have z1 : W.cell? ⟨gL, i * 3 + 1, none⟩ = some (.slice AE1 kE1 cE1) := (hE31.q hN).2.2.1
                have z2 : W.cell? ⟨gL, i * 3 + 2, none⟩ = some (.slice AE2 kE2 cE2) := (hE31.q hN).2.2.2
                go_simp
                exact hK.out (.agg #[.bool sE0, .slice AE1 kE1 cE1, .slice AE2 kE2 cE2]) _ _ (by kernel_rfl) ((pNum (t)).q vt_31 hN) (Q.refl _)
              refine JC.ca (fun vals W hN hd hk => (q_Text _ (t) W (hd 3 (by kernel_rfl)) (by have h0 := ZT.out; omega)).mono (by rintro e W9 ⟨t, rfl, ht, hq9⟩; exact ⟨(.string t), rfl, (congrArg Value.string ((str_of ht))), hq9⟩)) hctx ?_
              refine JC.ca (fun vals W hN hd hk => (q_Parse (ofL (textQ t)) W (hT.q (hG31.trans hN)) (text_size t (by have := ZT.out; omega))).mono (by rintro e W9 ⟨r, rfl, hr, hq9⟩; exact ⟨(.tuple #[r, .int .i64 (parseS (ofL (textQ t)).data.toList).1]), rfl, ⟨_, _, rfl, (by have h7 := hr; rw [HPT.out] at h7; exact h7), congrArg (Value.int .i64) (by rw [HPT.out])⟩, hq9⟩)) hctx ?_
              refine JC.m 5 hctx ?_
              refine JC.o hctx ?_ ?_
              · intro L vals W hL hJ hd K hK
                have d6 : (pT2 (pNum (t)) (pEq (.int .i64 (0)))).p (vals 6) W := hd 6 (by kernel_rfl)
                generalize vals 6 = u6 at d6 hK ⊢
                obtain ⟨e0, e1, rfl, he0, he1⟩ := d6
                go_simp
                exact hK.out (e0) _ _ (by kernel_rfl) he0 (Q.refl _)
              refine JC.o hctx ?_ ?_
              · intro L vals W hL hJ hd K hK
                have d6 : (pT2 (pNum (t)) (pEq (.int .i64 (0)))).p (vals 6) W := hd 6 (by kernel_rfl)
                generalize vals 6 = u6 at d6 hK ⊢
                obtain ⟨e0, e1, rfl, he0, he1⟩ := d6
                obtain rfl : e1 = .int .i64 (0) := he1
                go_simp
                exact hK.out (.int .i64 (0)) _ _ (by kernel_rfl) rfl (Q.refl _)
              refine Ja.Steps.cons (JC.alloc (n := 0) (cells := [.bool false, .slice none 0 0, .slice none 0 0].toArray) (t := 25) hctx (by kernel_rfl) (by rfl) (by kernel_rfl) (by rfl) (by rfl) (by kernel_rfl) (by rfl) (fun W => NbV.mk (t := 25) (ck := [.b, .s, .s]) (row := [.bool false, .slice none 0 0, .slice none 0 0]) ⟨⟨_, rfl⟩, ⟨_, _, _, rfl⟩, ⟨_, _, _, rfl⟩, trivial⟩ (Bx.new W _ _)) ?_) ?_
              · intro vals W K hK
                go_simp
                exact hK.out _ (by kernel_rfl)
              refine JC.s3 (n := 0) rfl fNum hctx ?_
              refine JC.p hctx ?_
              exact Ja.Steps.nil
            intro L vals w32 hall hJ
            clear hAt31
            have hq32 := hJ.q
            have hG32 := hG31.trans hq32
            have hE32 := hE31.q hq32
            have vt_32 := Nq.q vt_31 hq32
            clear hG31 hE31 vt_31
            obtain ⟨gZ, eZ, geZ, qZ⟩ := hJ.fresh 0 rfl rfl (hall 9 (by decide)) (hall 10 (by decide))
            have nZ32 : Nq w32 (vals 7) (t) := hJ.s 7 (hall 7 (by decide))
            have qxZ := NbV.ex qZ
            obtain ⟨sZ0, AZ1, kZ1, cZ1, AZ2, kZ2, cZ2, yZ, hZ32⟩ := qxZ
            change Bx w32 (gZ) 25 [.bool sZ0, .slice AZ1 kZ1 cZ1, .slice AZ2 kZ2 cZ2] at hZ32
            try dsimp only at yZ
            rw [yZ] at nZ32
            clear yZ qZ
            rw [eZ]
            clear eZ
            have f13 : vals 11 = .int .i64 (0) := hJ.s 11 (hall 11 (by decide))
            rw [f13]
            clear f13
            clear hall hJ
            go_upto_region 13 with fail
            have B52 : Hid (2000 * (sz (t)) + 500000 ≤ LIM) := Lib.hid (by have h0 := ZT.out; rw [LIM_eq]; omega)
            have hAt32 : At0 w32 [] [] w32 := At0.of (Q.refl _) trivial (by simp [Apart0]) trivial
            refine text_cells (F := ?F8) w32 ([.eq (.slice (some ⟨gL, 0, none⟩) 3 3), .eq (.int .i64 ((i : Int))), .eq (.pointer (some ⟨gL, i * 3, none⟩)), .gen (pNum (t)), .eq (.string ((ofL (showQ t)))), .eq (.string ((ofL (showQ t))))] : List Vs) _ _ (by kernel_rfl) hAt32 ?hF8 ?st8 ?en8
            case hF8 =>
              intro vals
              simp only [Ja.fillL, Act.put, List.setIfInBounds_toArray, List.set_cons_zero, List.set_cons_succ, Nat.reduceAdd]
              exact rfl
            case st8 =>
              clear hAt32
              intro hctx
              refine JC.p hctx ?_
              refine JC.p hctx ?_
              refine JC.o hctx ?_ ?_
              · intro L vals W hL hJ hd K hK
                have d0 : vals 0 = .slice (some ⟨gL, 0, none⟩) 3 3 := hd 0 (by kernel_rfl)
                generalize vals 0 = u0 at d0 hK ⊢
                subst d0
                have d1 : vals 1 = .int .i64 ((i : Int)) := hd 1 (by kernel_rfl)
                generalize vals 1 = u1 at d1 hK ⊢
                subst d1
                go_simp
                exact hK.out (.pointer (some ⟨gL, i * 3, none⟩)) _ _ (by kernel_rfl) rfl (Q.refl _)
              refine JC.o hctx ?_ ?_
              · intro L vals W hL hJ hd K hK
                have hN := hJ.q
                have d2 : vals 2 = .pointer (some ⟨gL, i * 3, none⟩) := hd 2 (by kernel_rfl)
                generalize vals 2 = u2 at d2 hK ⊢
                subst d2
                have z0 : W.cell? ⟨gL, i * 3, none⟩ = some (.bool sE0) := (hE32.q hN).2.1
                have z1 : W.cell? ⟨gL, i * 3 + 1, none⟩ = some (.slice AE1 kE1 cE1) := (hE32.q hN).2.2.1
                have z2 : W.cell? ⟨gL, i * 3 + 2, none⟩ = some (.slice AE2 kE2 cE2) := (hE32.q hN).2.2.2
                go_simp
                exact hK.out (.agg #[.bool sE0, .slice AE1 kE1 cE1, .slice AE2 kE2 cE2]) _ _ (by kernel_rfl) ((pNum (t)).q vt_32 hN) (Q.refl _)
              refine JC.ca (fun vals W hN hd hk => (q_Show _ (t) W (hT.q (hG32.trans hN)) (hPx.q (hG32.trans hN)) (hd 3 (by kernel_rfl)) B52.out).mono (by rintro e W9 ⟨t, rfl, ht, hq9⟩; exact ⟨(.string t), rfl, (congrArg Value.string ((str_of ht))), hq9⟩)) hctx ?_
              refine JC.p hctx ?_
              exact Ja.Steps.nil
            intro L vals w33 hall hJ
            clear hAt32
            have hq33 := hJ.q
            have hG33 := hG32.trans hq33
            have hE33 := hE32.q hq33
            have hZ33 := hZ32.q hq33
            have nZ33 := Nq.q nZ32 hq33
            have vt_33 := Nq.q vt_32 hq33
            clear hG32 hE32 hZ32 nZ32 vt_32
            have f14 : vals 5 = .string ((ofL (showQ t))) := hJ.s 5 (hall 5 (by decide))
            rw [f14]
            clear f14
            clear hall hJ
            go_upto_region 14 with fail
            by_cases hR : readS (showQ t) = (0, t)
            · have HR := Lib.hid hR; clear hR
              by_cases hS : showQ t = textQ t
              · have HS := Lib.hid hS; clear hS
                have hAt33 : At0 w33 [{ al := some 5, g := 0, t := 25, ck := [.b, .s, .s], row := .agg #[.bool false, .slice none 0 0, .slice none 0 0], st := 6, src := 3 }] [] w33 := At0.of (Q.refl _) ⟨fun h => (by cases h), trivial⟩ (by simp [Apart0]) trivial
                refine text_cells (F := ?F9) w33 ([.eq (.string ((ofL (showQ t)))), .gen (pT2 (pNum (t)) (pEq (.int .i64 (0)))), .gen (pT2 (pNum (t)) (pEq (.int .i64 (0)))), .gen (pNum (t)), .eq (.int .i64 (0)), .any, .any, .eq (.int .i64 (0))] : List Vs) _ _ (by kernel_rfl) hAt33 ?hF9 ?st9 ?en9
                case hF9 =>
                  intro vals
                  simp only [Ja.fillL, Act.put, List.setIfInBounds_toArray, List.set_cons_zero, List.set_cons_succ, Nat.reduceAdd]
                  exact rfl
                case st9 =>
                  clear hAt33
                  intro hctx
                  refine JC.p hctx ?_
                  refine JC.ca (fun vals W hN hd hk => (q_Read (ofL (showQ t)) W (hT.q (hG33.trans hN)) (hPx.q (hG33.trans hN)) (show_size t (by have := ZT.out; omega))).mono (by rintro e W9 ⟨r, rfl, hr, hq9⟩; exact ⟨(.tuple #[r, .int .i64 (readS ((ofL (showQ t)) : ByteArray).data.toList).1]), rfl, ⟨_, _, rfl, (by have h7 := hr; rw [show (readS (ofL (showQ t)).data.toList).2 = t from congrArg Prod.snd HR.out] at h7; exact h7), congrArg (Value.int .i64) (congrArg Prod.fst HR.out)⟩, hq9⟩)) hctx ?_
                  refine JC.m 1 hctx ?_
                  refine JC.o hctx ?_ ?_
                  · intro L vals W hL hJ hd K hK
                    have d2 : (pT2 (pNum (t)) (pEq (.int .i64 (0)))).p (vals 2) W := hd 2 (by kernel_rfl)
                    generalize vals 2 = u2 at d2 hK ⊢
                    obtain ⟨e0, e1, rfl, he0, he1⟩ := d2
                    go_simp
                    exact hK.out (e0) _ _ (by kernel_rfl) he0 (Q.refl _)
                  refine JC.o hctx ?_ ?_
                  · intro L vals W hL hJ hd K hK
                    have d2 : (pT2 (pNum (t)) (pEq (.int .i64 (0)))).p (vals 2) W := hd 2 (by kernel_rfl)
                    generalize vals 2 = u2 at d2 hK ⊢
                    obtain ⟨e0, e1, rfl, he0, he1⟩ := d2
                    obtain rfl : e1 = .int .i64 (0) := he1
                    go_simp
                    exact hK.out (.int .i64 (0)) _ _ (by kernel_rfl) rfl (Q.refl _)
                  refine Ja.Steps.cons (JC.alloc (n := 0) (cells := [.bool false, .slice none 0 0, .slice none 0 0].toArray) (t := 25) hctx (by kernel_rfl) (by rfl) (by kernel_rfl) (by rfl) (by rfl) (by kernel_rfl) (by rfl) (fun W => NbV.mk (t := 25) (ck := [.b, .s, .s]) (row := [.bool false, .slice none 0 0, .slice none 0 0]) ⟨⟨_, rfl⟩, ⟨_, _, _, rfl⟩, ⟨_, _, _, rfl⟩, trivial⟩ (Bx.new W _ _)) ?_) ?_
                  · intro vals W K hK
                    go_simp
                    exact hK.out _ (by kernel_rfl)
                  refine JC.s3 (n := 0) rfl fNum hctx ?_
                  refine JC.p hctx ?_
                  exact Ja.Steps.nil
                intro L vals w34 hall hJ
                clear hAt33
                have hq34 := hJ.q
                have hG34 := hG33.trans hq34
                have hE34 := hE33.q hq34
                have hZ34 := hZ33.q hq34
                have nZ34 := Nq.q nZ33 hq34
                have vt_34 := Nq.q vt_33 hq34
                clear hG33 hE33 hZ33 nZ33 vt_33
                obtain ⟨gU, eU, geU, qU⟩ := hJ.fresh 0 rfl rfl (hall 5 (by decide)) (hall 6 (by decide))
                have nU34 : Nq w34 (vals 3) (t) := hJ.s 3 (hall 3 (by decide))
                have qxU := NbV.ex qU
                obtain ⟨sU0, AU1, kU1, cU1, AU2, kU2, cU2, yU, hU34⟩ := qxU
                change Bx w34 (gU) 25 [.bool sU0, .slice AU1 kU1 cU1, .slice AU2 kU2 cU2] at hU34
                try dsimp only at yU
                rw [yU] at nU34
                clear yU qU
                rw [eU]
                clear eU
                have f16 : vals 7 = .int .i64 (0) := hJ.s 7 (hall 7 (by decide))
                rw [f16]
                clear f16
                clear hall hJ
                go_upto_region 15 with fail
                have B53 : Hid (2000 * (sz (t)) + 500000 ≤ LIM) := Lib.hid (by have h0 := ZT.out; rw [LIM_eq]; omega)
                have hAt34 : At0 w34 [] [] w34 := At0.of (Q.refl _) trivial (by simp [Apart0]) trivial
                refine region_cells (F := ?F10) w34 ([.eq (.bool false), .eq (.int .i64 (0)), .eq (.bool false), .eq (.bool false), .eq (.bool false), .eq (.bool false), .eq (.bool true), .eq (.bool true), .eq (.int .i64 (0)), .eq (.bool false), .eq (.bool false), .gen (pNum (t)), .eq (.slice (some ⟨gL, 0, none⟩) 3 3), .eq (.int .i64 ((i : Int))), .eq (.pointer (some ⟨gL, i * 3, none⟩)), .gen (pNum (t)), .eq (.bool true), .eq (.bool false), .eq (.bool false), .eq (.bool false), .eq (.bool false)] : List Vs) _ _ (by kernel_rfl) (by kernel_rfl) hAt34 ?hF10 ?st10 ?en10
                case hF10 =>
                  intro vals
                  simp only [Ja.fillL, Act.put, List.setIfInBounds_toArray, List.set_cons_zero, List.set_cons_succ, Nat.reduceAdd]
                  exact rfl
                case st10 =>
                  clear hAt34
                  intro hctx
                  refine JC.p hctx ?_
                  refine JC.p hctx ?_
                  refine JC.p hctx ?_
                  refine JC.o hctx ?_ ?_
                  · intro L vals W hL hJ hd K hK
                    have d0 : vals 0 = .bool false := hd 0 (by kernel_rfl)
                    generalize vals 0 = u0 at d0 hK ⊢
                    subst d0
                    have d2 : vals 2 = .bool false := hd 2 (by kernel_rfl)
                    generalize vals 2 = u2 at d2 hK ⊢
                    subst d2
                    go_simp
                    exact hK.out (.bool false) _ _ (by kernel_rfl) rfl (Q.refl _)
                  refine JC.p hctx ?_
                  refine JC.p hctx ?_
                  refine JC.p hctx ?_
                  refine JC.p hctx ?_
                  refine JC.p hctx ?_
                  refine JC.p hctx ?_
                  refine JC.p hctx ?_
                  refine JC.l3 (off := 0) hZ34 (fun W hN => (Nq.q nZ34 hN)) hctx ?_
                  refine JC.p hctx ?_
                  refine JC.p hctx ?_
                  refine JC.o hctx ?_ ?_
                  · intro L vals W hL hJ hd K hK
                    have d12 : vals 12 = .slice (some ⟨gL, 0, none⟩) 3 3 := hd 12 (by kernel_rfl)
                    generalize vals 12 = u12 at d12 hK ⊢
                    subst d12
                    have d13 : vals 13 = .int .i64 ((i : Int)) := hd 13 (by kernel_rfl)
                    generalize vals 13 = u13 at d13 hK ⊢
                    subst d13
                    go_simp
                    exact hK.out (.pointer (some ⟨gL, i * 3, none⟩)) _ _ (by kernel_rfl) rfl (Q.refl _)
                  refine JC.o hctx ?_ ?_
                  · intro L vals W hL hJ hd K hK
                    have hN := hJ.q
                    have d14 : vals 14 = .pointer (some ⟨gL, i * 3, none⟩) := hd 14 (by kernel_rfl)
                    generalize vals 14 = u14 at d14 hK ⊢
                    subst d14
                    have z0 : W.cell? ⟨gL, i * 3, none⟩ = some (.bool sE0) := (hE34.q hN).2.1
                    have z1 : W.cell? ⟨gL, i * 3 + 1, none⟩ = some (.slice AE1 kE1 cE1) := (hE34.q hN).2.2.1
                    have z2 : W.cell? ⟨gL, i * 3 + 2, none⟩ = some (.slice AE2 kE2 cE2) := (hE34.q hN).2.2.2
                    go_simp
                    exact hK.out (.agg #[.bool sE0, .slice AE1 kE1 cE1, .slice AE2 kE2 cE2]) _ _ (by kernel_rfl) ((pNum (t)).q vt_34 hN) (Q.refl _)
                  refine JC.ca (fun vals W hN hd hk => (q_equal _ _ (t) W (hT.q (hG34.trans hN)) (hPx.q (hG34.trans hN)) (hd 11 (by kernel_rfl)) (by rw [show (t : Rat) = t from rfl]; exact (hd 15 (by kernel_rfl))) B53.out).mono (by rintro e W9 ⟨rfl, hq9⟩; exact ⟨(.bool true), rfl, rfl, hq9⟩)) hctx ?_
                  refine JC.p hctx ?_
                  refine JC.p hctx ?_
                  refine JC.p hctx ?_
                  refine JC.p hctx ?_
                  exact Ja.Steps.nil
                intro L vals w35 hall hJ
                clear hAt34
                have hq35 := hJ.q
                have hG35 := hG34.trans hq35
                have hE35 := hE34.q hq35
                have hZ35 := hZ34.q hq35
                have nZ35 := Nq.q nZ34 hq35
                have hU35 := hU34.q hq35
                have nU35 := Nq.q nU34 hq35
                have vt_35 := Nq.q vt_34 hq35
                clear hG34 hE34 hZ34 hU34 nZ34 nU34 vt_34
                have f114 : vals 20 = .bool false := hJ.s 20 (hall 20 (by decide))
                rw [f114]
                clear f114
                clear hall hJ
                go_upto_region 17 with fail
                have B54 : Hid (2000 * (sz (t)) + 500000 ≤ LIM) := Lib.hid (by have h0 := ZT.out; rw [LIM_eq]; omega)
                have hAt35 : At0 w35 [] [] w35 := At0.of (Q.refl _) trivial (by simp [Apart0]) trivial
                refine region_cells (F := ?F11) w35 ([.eq (.string ((ofL (showQ t)))), .eq (.slice (some ⟨gL, 0, none⟩) 3 3), .eq (.int .i64 ((i : Int))), .eq (.pointer (some ⟨gL, i * 3, none⟩)), .gen (pNum (t)), .eq (.string ((ofL (textQ t)))), .eq (.bool false), .eq (.bool false), .no, .no, .no, .no, .no, .no, .eq (.bool false), .eq (.bool false), .eq (.int .i64 (0)), .eq (.bool true), .eq (.bool true), .gen (pNum (t)), .eq (.slice (some ⟨gL, 0, none⟩) 3 3), .eq (.int .i64 ((i : Int))), .eq (.pointer (some ⟨gL, i * 3, none⟩)), .gen (pNum (t)), .eq (.bool true), .eq (.bool false), .eq (.bool false), .eq (.bool false)] : List Vs) _ _ (by kernel_rfl) (by kernel_rfl) hAt35 ?hF11 ?st11 ?en11
                case hF11 =>
                  intro vals
                  simp only [Ja.fillL, Act.put, List.setIfInBounds_toArray, List.set_cons_zero, List.set_cons_succ, Nat.reduceAdd]
                  exact rfl
                case st11 =>
                  clear hAt35
                  intro hctx
                  refine JC.p hctx ?_
                  refine JC.p hctx ?_
                  refine JC.p hctx ?_
                  refine JC.o hctx ?_ ?_
                  · intro L vals W hL hJ hd K hK
                    have d1 : vals 1 = .slice (some ⟨gL, 0, none⟩) 3 3 := hd 1 (by kernel_rfl)
                    generalize vals 1 = u1 at d1 hK ⊢
                    subst d1
                    have d2 : vals 2 = .int .i64 ((i : Int)) := hd 2 (by kernel_rfl)
                    generalize vals 2 = u2 at d2 hK ⊢
                    subst d2
                    go_simp
                    exact hK.out (.pointer (some ⟨gL, i * 3, none⟩)) _ _ (by kernel_rfl) rfl (Q.refl _)
                  refine JC.o hctx ?_ ?_
                  · intro L vals W hL hJ hd K hK
                    have hN := hJ.q
                    have d3 : vals 3 = .pointer (some ⟨gL, i * 3, none⟩) := hd 3 (by kernel_rfl)
                    generalize vals 3 = u3 at d3 hK ⊢
                    subst d3
                    have z0 : W.cell? ⟨gL, i * 3, none⟩ = some (.bool sE0) := (hE35.q hN).2.1
                    have z1 : W.cell? ⟨gL, i * 3 + 1, none⟩ = some (.slice AE1 kE1 cE1) := (hE35.q hN).2.2.1
                    have z2 : W.cell? ⟨gL, i * 3 + 2, none⟩ = some (.slice AE2 kE2 cE2) := (hE35.q hN).2.2.2
                    go_simp
                    exact hK.out (.agg #[.bool sE0, .slice AE1 kE1 cE1, .slice AE2 kE2 cE2]) _ _ (by kernel_rfl) ((pNum (t)).q vt_35 hN) (Q.refl _)
                  refine JC.ca (fun vals W hN hd hk => (q_Text _ (t) W (hd 4 (by kernel_rfl)) (by have h0 := ZT.out; omega)).mono (by rintro e W9 ⟨t, rfl, ht, hq9⟩; exact ⟨(.string t), rfl, (congrArg Value.string ((str_of ht))), hq9⟩)) hctx ?_
                  refine JC.o hctx ?_ ?_
                  · intro L vals W hL hJ hd K hK
                    have d0 : vals 0 = .string ((ofL (showQ t))) := hd 0 (by kernel_rfl)
                    generalize vals 0 = u0 at d0 hK ⊢
                    subst d0
                    have d5 : vals 5 = .string ((ofL (textQ t))) := hd 5 (by kernel_rfl)
                    generalize vals 5 = u5 at d5 hK ⊢
                    subst d5
                    go_simp
                    rw [show ((ofL (showQ t)).toList == (ofL (textQ t)).toList) = true from by rw [ofL_toList, ofL_toList]; exact beq_iff_eq.2 HS.out]
                    exact hK.out (.bool false) _ _ (by kernel_rfl) rfl (Q.refl _)
                  refine JC.p hctx ?_
                  refine JC.n hctx ?_
                  refine JC.n hctx ?_
                  refine JC.n hctx ?_
                  refine JC.n hctx ?_
                  refine JC.n hctx ?_
                  refine JC.n hctx ?_
                  refine JC.p hctx ?_
                  refine JC.p hctx ?_
                  refine JC.p hctx ?_
                  refine JC.p hctx ?_
                  refine JC.p hctx ?_
                  refine JC.l3 (off := 0) hU35 (fun W hN => (Nq.q nU35 hN)) hctx ?_
                  refine JC.p hctx ?_
                  refine JC.p hctx ?_
                  refine JC.o hctx ?_ ?_
                  · intro L vals W hL hJ hd K hK
                    have d20 : vals 20 = .slice (some ⟨gL, 0, none⟩) 3 3 := hd 20 (by kernel_rfl)
                    generalize vals 20 = u20 at d20 hK ⊢
                    subst d20
                    have d21 : vals 21 = .int .i64 ((i : Int)) := hd 21 (by kernel_rfl)
                    generalize vals 21 = u21 at d21 hK ⊢
                    subst d21
                    go_simp
                    exact hK.out (.pointer (some ⟨gL, i * 3, none⟩)) _ _ (by kernel_rfl) rfl (Q.refl _)
                  refine JC.o hctx ?_ ?_
                  · intro L vals W hL hJ hd K hK
                    have hN := hJ.q
                    have d22 : vals 22 = .pointer (some ⟨gL, i * 3, none⟩) := hd 22 (by kernel_rfl)
                    generalize vals 22 = u22 at d22 hK ⊢
                    subst d22
                    have z0 : W.cell? ⟨gL, i * 3, none⟩ = some (.bool sE0) := (hE35.q hN).2.1
                    have z1 : W.cell? ⟨gL, i * 3 + 1, none⟩ = some (.slice AE1 kE1 cE1) := (hE35.q hN).2.2.1
                    have z2 : W.cell? ⟨gL, i * 3 + 2, none⟩ = some (.slice AE2 kE2 cE2) := (hE35.q hN).2.2.2
                    go_simp
                    exact hK.out (.agg #[.bool sE0, .slice AE1 kE1 cE1, .slice AE2 kE2 cE2]) _ _ (by kernel_rfl) ((pNum (t)).q vt_35 hN) (Q.refl _)
                  refine JC.ca (fun vals W hN hd hk => (q_equal _ _ (t) W (hT.q (hG35.trans hN)) (hPx.q (hG35.trans hN)) (hd 19 (by kernel_rfl)) (by rw [show (t : Rat) = t from rfl]; exact (hd 23 (by kernel_rfl))) B54.out).mono (by rintro e W9 ⟨rfl, hq9⟩; exact ⟨(.bool true), rfl, rfl, hq9⟩)) hctx ?_
                  refine JC.p hctx ?_
                  refine JC.p hctx ?_
                  refine JC.p hctx ?_
                  exact Ja.Steps.nil
                intro L vals w36 hall hJ
                clear hAt35
                have hq36 := hJ.q
                have hG36 := hG35.trans hq36
                have hE36 := hE35.q hq36
                have hZ36 := hZ35.q hq36
                have nZ36 := Nq.q nZ35 hq36
                have hU36 := hU35.q hq36
                have nU36 := Nq.q nU35 hq36
                have vt_36 := Nq.q vt_35 hq36
                clear hG35 hE35 hZ35 hU35 nZ35 nU35 vt_35
                have f142 : vals 27 = .bool false := hJ.s 27 (hall 27 (by decide))
                rw [f142]
                clear f142
                clear hall hJ
                go_wp2_with fail
                exact ⟨⟨i + 1, rfl, by omega, ((((((hqr.trans hq31).trans hq32).trans hq33).trans hq34).trans hq35).trans hq36)⟩, by simp [intOf]; omega⟩
              · have HS := Lib.hid hS; clear hS
                have hAt33 : At0 w33 [{ al := some 5, g := 0, t := 25, ck := [.b, .s, .s], row := .agg #[.bool false, .slice none 0 0, .slice none 0 0], st := 6, src := 3 }] [] w33 := At0.of (Q.refl _) ⟨fun h => (by cases h), trivial⟩ (by simp [Apart0]) trivial
                refine text_cells (F := ?F12) w33 ([.eq (.string ((ofL (showQ t)))), .gen (pT2 (pNum (t)) (pEq (.int .i64 (0)))), .gen (pT2 (pNum (t)) (pEq (.int .i64 (0)))), .gen (pNum (t)), .eq (.int .i64 (0)), .any, .any, .eq (.int .i64 (0))] : List Vs) _ _ (by kernel_rfl) hAt33 ?hF12 ?st12 ?en12
                case hF12 =>
                  intro vals
                  simp only [Ja.fillL, Act.put, List.setIfInBounds_toArray, List.set_cons_zero, List.set_cons_succ, Nat.reduceAdd]
                  exact rfl
                case st12 =>
                  clear hAt33
                  intro hctx
                  refine JC.p hctx ?_
                  refine JC.ca (fun vals W hN hd hk => (q_Read (ofL (showQ t)) W (hT.q (hG33.trans hN)) (hPx.q (hG33.trans hN)) (show_size t (by have := ZT.out; omega))).mono (by rintro e W9 ⟨r, rfl, hr, hq9⟩; exact ⟨(.tuple #[r, .int .i64 (readS ((ofL (showQ t)) : ByteArray).data.toList).1]), rfl, ⟨_, _, rfl, (by have h7 := hr; rw [show (readS (ofL (showQ t)).data.toList).2 = t from congrArg Prod.snd HR.out] at h7; exact h7), congrArg (Value.int .i64) (congrArg Prod.fst HR.out)⟩, hq9⟩)) hctx ?_
                  refine JC.m 1 hctx ?_
                  refine JC.o hctx ?_ ?_
                  · intro L vals W hL hJ hd K hK
                    have d2 : (pT2 (pNum (t)) (pEq (.int .i64 (0)))).p (vals 2) W := hd 2 (by kernel_rfl)
                    generalize vals 2 = u2 at d2 hK ⊢
                    obtain ⟨e0, e1, rfl, he0, he1⟩ := d2
                    go_simp
                    exact hK.out (e0) _ _ (by kernel_rfl) he0 (Q.refl _)
                  refine JC.o hctx ?_ ?_
                  · intro L vals W hL hJ hd K hK
                    have d2 : (pT2 (pNum (t)) (pEq (.int .i64 (0)))).p (vals 2) W := hd 2 (by kernel_rfl)
                    generalize vals 2 = u2 at d2 hK ⊢
                    obtain ⟨e0, e1, rfl, he0, he1⟩ := d2
                    obtain rfl : e1 = .int .i64 (0) := he1
                    go_simp
                    exact hK.out (.int .i64 (0)) _ _ (by kernel_rfl) rfl (Q.refl _)
                  refine Ja.Steps.cons (JC.alloc (n := 0) (cells := [.bool false, .slice none 0 0, .slice none 0 0].toArray) (t := 25) hctx (by kernel_rfl) (by rfl) (by kernel_rfl) (by rfl) (by rfl) (by kernel_rfl) (by rfl) (fun W => NbV.mk (t := 25) (ck := [.b, .s, .s]) (row := [.bool false, .slice none 0 0, .slice none 0 0]) ⟨⟨_, rfl⟩, ⟨_, _, _, rfl⟩, ⟨_, _, _, rfl⟩, trivial⟩ (Bx.new W _ _)) ?_) ?_
                  · intro vals W K hK
                    go_simp
                    exact hK.out _ (by kernel_rfl)
                  refine JC.s3 (n := 0) rfl fNum hctx ?_
                  refine JC.p hctx ?_
                  exact Ja.Steps.nil
                intro L vals w34 hall hJ
                clear hAt33
                have hq34 := hJ.q
                have hG34 := hG33.trans hq34
                have hE34 := hE33.q hq34
                have hZ34 := hZ33.q hq34
                have nZ34 := Nq.q nZ33 hq34
                have vt_34 := Nq.q vt_33 hq34
                clear hG33 hE33 hZ33 nZ33 vt_33
                obtain ⟨gU, eU, geU, qU⟩ := hJ.fresh 0 rfl rfl (hall 5 (by decide)) (hall 6 (by decide))
                have nU34 : Nq w34 (vals 3) (t) := hJ.s 3 (hall 3 (by decide))
                have qxU := NbV.ex qU
                obtain ⟨sU0, AU1, kU1, cU1, AU2, kU2, cU2, yU, hU34⟩ := qxU
                change Bx w34 (gU) 25 [.bool sU0, .slice AU1 kU1 cU1, .slice AU2 kU2 cU2] at hU34
                try dsimp only at yU
                rw [yU] at nU34
                clear yU qU
                rw [eU]
                clear eU
                have f16 : vals 7 = .int .i64 (0) := hJ.s 7 (hall 7 (by decide))
                rw [f16]
                clear f16
                clear hall hJ
                go_upto_region 15 with fail
                have B53 : Hid (2000 * (sz (t)) + 500000 ≤ LIM) := Lib.hid (by have h0 := ZT.out; rw [LIM_eq]; omega)
                have hAt34 : At0 w34 [] [] w34 := At0.of (Q.refl _) trivial (by simp [Apart0]) trivial
                refine region_cells (F := ?F13) w34 ([.eq (.bool false), .eq (.int .i64 (0)), .eq (.bool false), .eq (.bool false), .eq (.bool false), .eq (.bool false), .eq (.bool true), .eq (.bool true), .eq (.int .i64 (0)), .eq (.bool false), .eq (.bool false), .gen (pNum (t)), .eq (.slice (some ⟨gL, 0, none⟩) 3 3), .eq (.int .i64 ((i : Int))), .eq (.pointer (some ⟨gL, i * 3, none⟩)), .gen (pNum (t)), .eq (.bool true), .eq (.bool false), .eq (.bool false), .eq (.bool false), .eq (.bool false)] : List Vs) _ _ (by kernel_rfl) (by kernel_rfl) hAt34 ?hF13 ?st13 ?en13
                case hF13 =>
                  intro vals
                  simp only [Ja.fillL, Act.put, List.setIfInBounds_toArray, List.set_cons_zero, List.set_cons_succ, Nat.reduceAdd]
                  exact rfl
                case st13 =>
                  clear hAt34
                  intro hctx
                  refine JC.p hctx ?_
                  refine JC.p hctx ?_
                  refine JC.p hctx ?_
                  refine JC.o hctx ?_ ?_
                  · intro L vals W hL hJ hd K hK
                    have d0 : vals 0 = .bool false := hd 0 (by kernel_rfl)
                    generalize vals 0 = u0 at d0 hK ⊢
                    subst d0
                    have d2 : vals 2 = .bool false := hd 2 (by kernel_rfl)
                    generalize vals 2 = u2 at d2 hK ⊢
                    subst d2
                    go_simp
                    exact hK.out (.bool false) _ _ (by kernel_rfl) rfl (Q.refl _)
                  refine JC.p hctx ?_
                  refine JC.p hctx ?_
                  refine JC.p hctx ?_
                  refine JC.p hctx ?_
                  refine JC.p hctx ?_
                  refine JC.p hctx ?_
                  refine JC.p hctx ?_
                  refine JC.l3 (off := 0) hZ34 (fun W hN => (Nq.q nZ34 hN)) hctx ?_
                  refine JC.p hctx ?_
                  refine JC.p hctx ?_
                  refine JC.o hctx ?_ ?_
                  · intro L vals W hL hJ hd K hK
                    have d12 : vals 12 = .slice (some ⟨gL, 0, none⟩) 3 3 := hd 12 (by kernel_rfl)
                    generalize vals 12 = u12 at d12 hK ⊢
                    subst d12
                    have d13 : vals 13 = .int .i64 ((i : Int)) := hd 13 (by kernel_rfl)
                    generalize vals 13 = u13 at d13 hK ⊢
                    subst d13
                    go_simp
                    exact hK.out (.pointer (some ⟨gL, i * 3, none⟩)) _ _ (by kernel_rfl) rfl (Q.refl _)
                  refine JC.o hctx ?_ ?_
                  · intro L vals W hL hJ hd K hK
                    have hN := hJ.q
                    have d14 : vals 14 = .pointer (some ⟨gL, i * 3, none⟩) := hd 14 (by kernel_rfl)
                    generalize vals 14 = u14 at d14 hK ⊢
                    subst d14
                    have z0 : W.cell? ⟨gL, i * 3, none⟩ = some (.bool sE0) := (hE34.q hN).2.1
                    have z1 : W.cell? ⟨gL, i * 3 + 1, none⟩ = some (.slice AE1 kE1 cE1) := (hE34.q hN).2.2.1
                    have z2 : W.cell? ⟨gL, i * 3 + 2, none⟩ = some (.slice AE2 kE2 cE2) := (hE34.q hN).2.2.2
                    go_simp
                    exact hK.out (.agg #[.bool sE0, .slice AE1 kE1 cE1, .slice AE2 kE2 cE2]) _ _ (by kernel_rfl) ((pNum (t)).q vt_34 hN) (Q.refl _)
                  refine JC.ca (fun vals W hN hd hk => (q_equal _ _ (t) W (hT.q (hG34.trans hN)) (hPx.q (hG34.trans hN)) (hd 11 (by kernel_rfl)) (by rw [show (t : Rat) = t from rfl]; exact (hd 15 (by kernel_rfl))) B53.out).mono (by rintro e W9 ⟨rfl, hq9⟩; exact ⟨(.bool true), rfl, rfl, hq9⟩)) hctx ?_
                  refine JC.p hctx ?_
                  refine JC.p hctx ?_
                  refine JC.p hctx ?_
                  refine JC.p hctx ?_
                  exact Ja.Steps.nil
                intro L vals w35 hall hJ
                clear hAt34
                have hq35 := hJ.q
                have hG35 := hG34.trans hq35
                have hE35 := hE34.q hq35
                have hZ35 := hZ34.q hq35
                have nZ35 := Nq.q nZ34 hq35
                have hU35 := hU34.q hq35
                have nU35 := Nq.q nU34 hq35
                have vt_35 := Nq.q vt_34 hq35
                clear hG34 hE34 hZ34 hU34 nZ34 nU34 vt_34
                have f114 : vals 20 = .bool false := hJ.s 20 (hall 20 (by decide))
                rw [f114]
                clear f114
                clear hall hJ
                go_upto_region 17 with fail
                have B54 : Hid (2000 * (sz (t)) + 500000 ≤ LIM) := Lib.hid (by have h0 := ZT.out; rw [LIM_eq]; omega)
                have hAt35 : At0 w35 [] [] w35 := At0.of (Q.refl _) trivial (by simp [Apart0]) trivial
                refine region_cells (F := ?F14) w35 ([.eq (.string ((ofL (showQ t)))), .eq (.slice (some ⟨gL, 0, none⟩) 3 3), .eq (.int .i64 ((i : Int))), .eq (.pointer (some ⟨gL, i * 3, none⟩)), .gen (pNum (t)), .eq (.string ((ofL (textQ t)))), .eq (.bool true), .eq (.bool true), .eq (.int .i64 (0)), .eq (.bool false), .eq (.bool false), .eq (.string ((ofL (showQ t)))), .eq (.bool false), .eq (.bool false), .eq (.bool false), .eq (.bool false), .eq (.int .i64 (0)), .eq (.bool true), .eq (.bool true), .gen (pNum (t)), .eq (.slice (some ⟨gL, 0, none⟩) 3 3), .eq (.int .i64 ((i : Int))), .eq (.pointer (some ⟨gL, i * 3, none⟩)), .gen (pNum (t)), .eq (.bool true), .eq (.bool false), .eq (.bool false), .eq (.bool false)] : List Vs) _ _ (by kernel_rfl) (by kernel_rfl) hAt35 ?hF14 ?st14 ?en14
                case hF14 =>
                  intro vals
                  simp only [Ja.fillL, Act.put, List.setIfInBounds_toArray, List.set_cons_zero, List.set_cons_succ, Nat.reduceAdd]
                  exact rfl
                case st14 =>
                  clear hAt35
                  intro hctx
                  refine JC.p hctx ?_
                  refine JC.p hctx ?_
                  refine JC.p hctx ?_
                  refine JC.o hctx ?_ ?_
                  · intro L vals W hL hJ hd K hK
                    have d1 : vals 1 = .slice (some ⟨gL, 0, none⟩) 3 3 := hd 1 (by kernel_rfl)
                    generalize vals 1 = u1 at d1 hK ⊢
                    subst d1
                    have d2 : vals 2 = .int .i64 ((i : Int)) := hd 2 (by kernel_rfl)
                    generalize vals 2 = u2 at d2 hK ⊢
                    subst d2
                    go_simp
                    exact hK.out (.pointer (some ⟨gL, i * 3, none⟩)) _ _ (by kernel_rfl) rfl (Q.refl _)
                  refine JC.o hctx ?_ ?_
                  · intro L vals W hL hJ hd K hK
                    have hN := hJ.q
                    have d3 : vals 3 = .pointer (some ⟨gL, i * 3, none⟩) := hd 3 (by kernel_rfl)
                    generalize vals 3 = u3 at d3 hK ⊢
                    subst d3
                    have z0 : W.cell? ⟨gL, i * 3, none⟩ = some (.bool sE0) := (hE35.q hN).2.1
                    have z1 : W.cell? ⟨gL, i * 3 + 1, none⟩ = some (.slice AE1 kE1 cE1) := (hE35.q hN).2.2.1
                    have z2 : W.cell? ⟨gL, i * 3 + 2, none⟩ = some (.slice AE2 kE2 cE2) := (hE35.q hN).2.2.2
                    go_simp
                    exact hK.out (.agg #[.bool sE0, .slice AE1 kE1 cE1, .slice AE2 kE2 cE2]) _ _ (by kernel_rfl) ((pNum (t)).q vt_35 hN) (Q.refl _)
                  refine JC.ca (fun vals W hN hd hk => (q_Text _ (t) W (hd 4 (by kernel_rfl)) (by have h0 := ZT.out; omega)).mono (by rintro e W9 ⟨t, rfl, ht, hq9⟩; exact ⟨(.string t), rfl, (congrArg Value.string ((str_of ht))), hq9⟩)) hctx ?_
                  refine JC.o hctx ?_ ?_
                  · intro L vals W hL hJ hd K hK
                    have d0 : vals 0 = .string ((ofL (showQ t))) := hd 0 (by kernel_rfl)
                    generalize vals 0 = u0 at d0 hK ⊢
                    subst d0
                    have d5 : vals 5 = .string ((ofL (textQ t))) := hd 5 (by kernel_rfl)
                    generalize vals 5 = u5 at d5 hK ⊢
                    subst d5
                    go_simp
                    rw [show ((ofL (showQ t)).toList == (ofL (textQ t)).toList) = false from by rw [ofL_toList, ofL_toList]; exact beq_eq_false_iff_ne.2 HS.out]
                    exact hK.out (.bool true) _ _ (by kernel_rfl) rfl (Q.refl _)
                  refine JC.p hctx ?_
                  refine JC.p hctx ?_
                  refine JC.p hctx ?_
                  refine JC.p hctx ?_
                  refine JC.p hctx ?_
                  refine JC.ca (fun vals W hN hd hk => (v_slash (ofL (showQ t)) W (show_size t (by have := ZT.out; omega))).mono (by rintro e W9 ⟨rfl, hq9⟩; exact ⟨(.bool (hasSlash (ofL (showQ t)))), rfl, (congrArg Value.bool (decide_eq_false (show_noslash HR.out HS.out))), hq9⟩)) hctx ?_
                  refine JC.p hctx ?_
                  refine JC.p hctx ?_
                  refine JC.p hctx ?_
                  refine JC.p hctx ?_
                  refine JC.p hctx ?_
                  refine JC.p hctx ?_
                  refine JC.l3 (off := 0) hU35 (fun W hN => (Nq.q nU35 hN)) hctx ?_
                  refine JC.p hctx ?_
                  refine JC.p hctx ?_
                  refine JC.o hctx ?_ ?_
                  · intro L vals W hL hJ hd K hK
                    have d20 : vals 20 = .slice (some ⟨gL, 0, none⟩) 3 3 := hd 20 (by kernel_rfl)
                    generalize vals 20 = u20 at d20 hK ⊢
                    subst d20
                    have d21 : vals 21 = .int .i64 ((i : Int)) := hd 21 (by kernel_rfl)
                    generalize vals 21 = u21 at d21 hK ⊢
                    subst d21
                    go_simp
                    exact hK.out (.pointer (some ⟨gL, i * 3, none⟩)) _ _ (by kernel_rfl) rfl (Q.refl _)
                  refine JC.o hctx ?_ ?_
                  · intro L vals W hL hJ hd K hK
                    have hN := hJ.q
                    have d22 : vals 22 = .pointer (some ⟨gL, i * 3, none⟩) := hd 22 (by kernel_rfl)
                    generalize vals 22 = u22 at d22 hK ⊢
                    subst d22
                    have z0 : W.cell? ⟨gL, i * 3, none⟩ = some (.bool sE0) := (hE35.q hN).2.1
                    have z1 : W.cell? ⟨gL, i * 3 + 1, none⟩ = some (.slice AE1 kE1 cE1) := (hE35.q hN).2.2.1
                    have z2 : W.cell? ⟨gL, i * 3 + 2, none⟩ = some (.slice AE2 kE2 cE2) := (hE35.q hN).2.2.2
                    go_simp
                    exact hK.out (.agg #[.bool sE0, .slice AE1 kE1 cE1, .slice AE2 kE2 cE2]) _ _ (by kernel_rfl) ((pNum (t)).q vt_35 hN) (Q.refl _)
                  refine JC.ca (fun vals W hN hd hk => (q_equal _ _ (t) W (hT.q (hG35.trans hN)) (hPx.q (hG35.trans hN)) (hd 19 (by kernel_rfl)) (by rw [show (t : Rat) = t from rfl]; exact (hd 23 (by kernel_rfl))) B54.out).mono (by rintro e W9 ⟨rfl, hq9⟩; exact ⟨(.bool true), rfl, rfl, hq9⟩)) hctx ?_
                  refine JC.p hctx ?_
                  refine JC.p hctx ?_
                  refine JC.p hctx ?_
                  exact Ja.Steps.nil
                intro L vals w36 hall hJ
                clear hAt35
                have hq36 := hJ.q
                have hG36 := hG35.trans hq36
                have hE36 := hE35.q hq36
                have hZ36 := hZ35.q hq36
                have nZ36 := Nq.q nZ35 hq36
                have hU36 := hU35.q hq36
                have nU36 := Nq.q nU35 hq36
                have vt_36 := Nq.q vt_35 hq36
                clear hG35 hE35 hZ35 hU35 nZ35 nU35 vt_35
                have f142 : vals 27 = .bool false := hJ.s 27 (hall 27 (by decide))
                rw [f142]
                clear f142
                clear hall hJ
                go_wp2_with fail
                exact ⟨⟨i + 1, rfl, by omega, ((((((hqr.trans hq31).trans hq32).trans hq33).trans hq34).trans hq35).trans hq36)⟩, by simp [intOf]; omega⟩
            · have HR := Lib.hid hR; clear hR
              have HC : Hid (showQ t = textQ t ∧ (readS (showQ t)).2 = 0 ∧ (readS (showQ t)).1 ≠ 0) := Lib.hid (show_other HR.out)
              obtain ⟨e9, He9⟩ : ∃ z : Int, Hid ((readS (showQ t)).1 = z) := ⟨_, Lib.hid rfl⟩
              have HE9 : Hid (e9 ≠ 0) := Lib.hid (by rw [← He9.out]; exact HC.out.2.2)
              have Z53 : Hid (sz (0) ≤ 2) := Lib.hid (sz_zero)
              have hAt33 : At0 w33 [{ al := some 5, g := 0, t := 25, ck := [.b, .s, .s], row := .agg #[.bool false, .slice none 0 0, .slice none 0 0], st := 6, src := 3 }] [] w33 := At0.of (Q.refl _) ⟨fun h => (by cases h), trivial⟩ (by simp [Apart0]) trivial
              refine text_cells (F := ?F15) w33 ([.eq (.string ((ofL (showQ t)))), .gen (pT2 (pNum (0)) (pEq (.int .i64 (e9)))), .gen (pT2 (pNum (0)) (pEq (.int .i64 (e9)))), .gen (pNum (0)), .eq (.int .i64 (e9)), .any, .any, .eq (.int .i64 (e9))] : List Vs) _ _ (by kernel_rfl) hAt33 ?hF15 ?st15 ?en15
              case hF15 =>
                intro vals
                simp only [Ja.fillL, Act.put, List.setIfInBounds_toArray, List.set_cons_zero, List.set_cons_succ, Nat.reduceAdd]
                exact rfl
              case st15 =>
                clear hAt33
                intro hctx
                refine JC.p hctx ?_
                refine JC.ca (fun vals W hN hd hk => (q_Read (ofL (showQ t)) W (hT.q (hG33.trans hN)) (hPx.q (hG33.trans hN)) (show_size t (by have := ZT.out; omega))).mono (by rintro e W9 ⟨r, rfl, hr, hq9⟩; exact ⟨(.tuple #[r, .int .i64 (readS ((ofL (showQ t)) : ByteArray).data.toList).1]), rfl, ⟨_, _, rfl, (by have h7 := hr; rw [show (readS (ofL (showQ t)).data.toList).2 = 0 from HC.out.2.1] at h7; exact h7), congrArg (Value.int .i64) He9.out⟩, hq9⟩)) hctx ?_
                refine JC.m 1 hctx ?_
                refine JC.o hctx ?_ ?_
                · intro L vals W hL hJ hd K hK
                  have d2 : (pT2 (pNum (0)) (pEq (.int .i64 (e9)))).p (vals 2) W := hd 2 (by kernel_rfl)
                  generalize vals 2 = u2 at d2 hK ⊢
                  obtain ⟨e0, e1, rfl, he0, he1⟩ := d2
                  go_simp
                  exact hK.out (e0) _ _ (by kernel_rfl) he0 (Q.refl _)
                refine JC.o hctx ?_ ?_
                · intro L vals W hL hJ hd K hK
                  have d2 : (pT2 (pNum (0)) (pEq (.int .i64 (e9)))).p (vals 2) W := hd 2 (by kernel_rfl)
                  generalize vals 2 = u2 at d2 hK ⊢
                  obtain ⟨e0, e1, rfl, he0, he1⟩ := d2
                  obtain rfl : e1 = .int .i64 (e9) := he1
                  go_simp
                  exact hK.out (.int .i64 (e9)) _ _ (by kernel_rfl) rfl (Q.refl _)
                refine Ja.Steps.cons (JC.alloc (n := 0) (cells := [.bool false, .slice none 0 0, .slice none 0 0].toArray) (t := 25) hctx (by kernel_rfl) (by rfl) (by kernel_rfl) (by rfl) (by rfl) (by kernel_rfl) (by rfl) (fun W => NbV.mk (t := 25) (ck := [.b, .s, .s]) (row := [.bool false, .slice none 0 0, .slice none 0 0]) ⟨⟨_, rfl⟩, ⟨_, _, _, rfl⟩, ⟨_, _, _, rfl⟩, trivial⟩ (Bx.new W _ _)) ?_) ?_
                · intro vals W K hK
                  go_simp
                  exact hK.out _ (by kernel_rfl)
                refine JC.s3 (n := 0) rfl fNum hctx ?_
                refine JC.p hctx ?_
                exact Ja.Steps.nil
              intro L vals w34 hall hJ
              clear hAt33
              have hq34 := hJ.q
              have hG34 := hG33.trans hq34
              have hE34 := hE33.q hq34
              have hZ34 := hZ33.q hq34
              have nZ34 := Nq.q nZ33 hq34
              have vt_34 := Nq.q vt_33 hq34
              clear hG33 hE33 hZ33 nZ33 vt_33
              obtain ⟨gU, eU, geU, qU⟩ := hJ.fresh 0 rfl rfl (hall 5 (by decide)) (hall 6 (by decide))
              have nU34 : Nq w34 (vals 3) (0) := hJ.s 3 (hall 3 (by decide))
              have qxU := NbV.ex qU
              obtain ⟨sU0, AU1, kU1, cU1, AU2, kU2, cU2, yU, hU34⟩ := qxU
              change Bx w34 (gU) 25 [.bool sU0, .slice AU1 kU1 cU1, .slice AU2 kU2 cU2] at hU34
              try dsimp only at yU
              rw [yU] at nU34
              clear yU qU
              rw [eU]
              clear eU
              have f16 : vals 7 = .int .i64 (e9) := hJ.s 7 (hall 7 (by decide))
              rw [f16]
              clear f16
              clear hall hJ
              go_upto_region 15 with fail
              have B54 : Hid (2000 * (sz (t)) + 500000 ≤ LIM) := Lib.hid (by have h0 := ZT.out; rw [LIM_eq]; omega)
              have hAt34 : At0 w34 [] [] w34 := At0.of (Q.refl _) trivial (by simp [Apart0]) trivial
              refine region_cells (F := ?F16) w34 ([.eq (.bool false), .eq (.int .i64 (0)), .eq (.bool false), .eq (.bool false), .eq (.bool false), .eq (.bool false), .eq (.bool true), .eq (.bool true), .eq (.int .i64 (0)), .eq (.bool false), .eq (.bool false), .gen (pNum (t)), .eq (.slice (some ⟨gL, 0, none⟩) 3 3), .eq (.int .i64 ((i : Int))), .eq (.pointer (some ⟨gL, i * 3, none⟩)), .gen (pNum (t)), .eq (.bool true), .eq (.bool false), .eq (.bool false), .eq (.bool false), .eq (.bool false)] : List Vs) _ _ (by kernel_rfl) (by kernel_rfl) hAt34 ?hF16 ?st16 ?en16
              case hF16 =>
                intro vals
                simp only [Ja.fillL, Act.put, List.setIfInBounds_toArray, List.set_cons_zero, List.set_cons_succ, Nat.reduceAdd]
                exact rfl
              case st16 =>
                clear hAt34
                intro hctx
                refine JC.p hctx ?_
                refine JC.p hctx ?_
                refine JC.p hctx ?_
                refine JC.o hctx ?_ ?_
                · intro L vals W hL hJ hd K hK
                  have d0 : vals 0 = .bool false := hd 0 (by kernel_rfl)
                  generalize vals 0 = u0 at d0 hK ⊢
                  subst d0
                  have d2 : vals 2 = .bool false := hd 2 (by kernel_rfl)
                  generalize vals 2 = u2 at d2 hK ⊢
                  subst d2
                  go_simp
                  exact hK.out (.bool false) _ _ (by kernel_rfl) rfl (Q.refl _)
                refine JC.p hctx ?_
                refine JC.p hctx ?_
                refine JC.p hctx ?_
                refine JC.p hctx ?_
                refine JC.p hctx ?_
                refine JC.p hctx ?_
                refine JC.p hctx ?_
                refine JC.l3 (off := 0) hZ34 (fun W hN => (Nq.q nZ34 hN)) hctx ?_
                refine JC.p hctx ?_
                refine JC.p hctx ?_
                refine JC.o hctx ?_ ?_
                · intro L vals W hL hJ hd K hK
                  have d12 : vals 12 = .slice (some ⟨gL, 0, none⟩) 3 3 := hd 12 (by kernel_rfl)
                  generalize vals 12 = u12 at d12 hK ⊢
                  subst d12
                  have d13 : vals 13 = .int .i64 ((i : Int)) := hd 13 (by kernel_rfl)
                  generalize vals 13 = u13 at d13 hK ⊢
                  subst d13
                  go_simp
                  exact hK.out (.pointer (some ⟨gL, i * 3, none⟩)) _ _ (by kernel_rfl) rfl (Q.refl _)
                refine JC.o hctx ?_ ?_
                · intro L vals W hL hJ hd K hK
                  have hN := hJ.q
                  have d14 : vals 14 = .pointer (some ⟨gL, i * 3, none⟩) := hd 14 (by kernel_rfl)
                  generalize vals 14 = u14 at d14 hK ⊢
                  subst d14
                  have z0 : W.cell? ⟨gL, i * 3, none⟩ = some (.bool sE0) := (hE34.q hN).2.1
                  have z1 : W.cell? ⟨gL, i * 3 + 1, none⟩ = some (.slice AE1 kE1 cE1) := (hE34.q hN).2.2.1
                  have z2 : W.cell? ⟨gL, i * 3 + 2, none⟩ = some (.slice AE2 kE2 cE2) := (hE34.q hN).2.2.2
                  go_simp
                  exact hK.out (.agg #[.bool sE0, .slice AE1 kE1 cE1, .slice AE2 kE2 cE2]) _ _ (by kernel_rfl) ((pNum (t)).q vt_34 hN) (Q.refl _)
                refine JC.ca (fun vals W hN hd hk => (q_equal _ _ (t) W (hT.q (hG34.trans hN)) (hPx.q (hG34.trans hN)) (hd 11 (by kernel_rfl)) (by rw [show (t : Rat) = t from rfl]; exact (hd 15 (by kernel_rfl))) B54.out).mono (by rintro e W9 ⟨rfl, hq9⟩; exact ⟨(.bool true), rfl, rfl, hq9⟩)) hctx ?_
                refine JC.p hctx ?_
                refine JC.p hctx ?_
                refine JC.p hctx ?_
                refine JC.p hctx ?_
                exact Ja.Steps.nil
              intro L vals w35 hall hJ
              clear hAt34
              have hq35 := hJ.q
              have hG35 := hG34.trans hq35
              have hE35 := hE34.q hq35
              have hZ35 := hZ34.q hq35
              have nZ35 := Nq.q nZ34 hq35
              have hU35 := hU34.q hq35
              have nU35 := Nq.q nU34 hq35
              have vt_35 := Nq.q vt_34 hq35
              clear hG34 hE34 hZ34 hU34 nZ34 nU34 vt_34
              have f114 : vals 20 = .bool false := hJ.s 20 (hall 20 (by decide))
              rw [f114]
              clear f114
              clear hall hJ
              go_upto_region 17 with fail
              have hAt35 : At0 w35 [] [] w35 := At0.of (Q.refl _) trivial (by simp [Apart0]) trivial
              refine region_cells (F := ?F17) w35 ([.eq (.string ((ofL (showQ t)))), .eq (.slice (some ⟨gL, 0, none⟩) 3 3), .eq (.int .i64 ((i : Int))), .eq (.pointer (some ⟨gL, i * 3, none⟩)), .gen (pNum (t)), .eq (.string ((ofL (textQ t)))), .eq (.bool false), .eq (.bool false), .no, .no, .no, .no, .no, .no, .eq (.bool false), .eq (.bool false), .eq (.int .i64 (e9)), .eq (.bool false), .eq (.bool false), .no, .no, .no, .no, .no, .no, .no, .eq (.bool false), .eq (.bool false)] : List Vs) _ _ (by kernel_rfl) (by kernel_rfl) hAt35 ?hF17 ?st17 ?en17
              case hF17 =>
                intro vals
                simp only [Ja.fillL, Act.put, List.setIfInBounds_toArray, List.set_cons_zero, List.set_cons_succ, Nat.reduceAdd]
                exact rfl
              case st17 =>
                clear hAt35
                intro hctx
                refine JC.p hctx ?_
                refine JC.p hctx ?_
                refine JC.p hctx ?_
                refine JC.o hctx ?_ ?_
                · intro L vals W hL hJ hd K hK
                  have d1 : vals 1 = .slice (some ⟨gL, 0, none⟩) 3 3 := hd 1 (by kernel_rfl)
                  generalize vals 1 = u1 at d1 hK ⊢
                  subst d1
                  have d2 : vals 2 = .int .i64 ((i : Int)) := hd 2 (by kernel_rfl)
                  generalize vals 2 = u2 at d2 hK ⊢
                  subst d2
                  go_simp
                  exact hK.out (.pointer (some ⟨gL, i * 3, none⟩)) _ _ (by kernel_rfl) rfl (Q.refl _)
                refine JC.o hctx ?_ ?_
                · intro L vals W hL hJ hd K hK
                  have hN := hJ.q
                  have d3 : vals 3 = .pointer (some ⟨gL, i * 3, none⟩) := hd 3 (by kernel_rfl)
                  generalize vals 3 = u3 at d3 hK ⊢
                  subst d3
                  have z0 : W.cell? ⟨gL, i * 3, none⟩ = some (.bool sE0) := (hE35.q hN).2.1
                  have z1 : W.cell? ⟨gL, i * 3 + 1, none⟩ = some (.slice AE1 kE1 cE1) := (hE35.q hN).2.2.1
                  have z2 : W.cell? ⟨gL, i * 3 + 2, none⟩ = some (.slice AE2 kE2 cE2) := (hE35.q hN).2.2.2
                  go_simp
                  exact hK.out (.agg #[.bool sE0, .slice AE1 kE1 cE1, .slice AE2 kE2 cE2]) _ _ (by kernel_rfl) ((pNum (t)).q vt_35 hN) (Q.refl _)
                refine JC.ca (fun vals W hN hd hk => (q_Text _ (t) W (hd 4 (by kernel_rfl)) (by have h0 := ZT.out; omega)).mono (by rintro e W9 ⟨t, rfl, ht, hq9⟩; exact ⟨(.string t), rfl, (congrArg Value.string ((str_of ht))), hq9⟩)) hctx ?_
                refine JC.o hctx ?_ ?_
                · intro L vals W hL hJ hd K hK
                  have d0 : vals 0 = .string ((ofL (showQ t))) := hd 0 (by kernel_rfl)
                  generalize vals 0 = u0 at d0 hK ⊢
                  subst d0
                  have d5 : vals 5 = .string ((ofL (textQ t))) := hd 5 (by kernel_rfl)
                  generalize vals 5 = u5 at d5 hK ⊢
                  subst d5
                  go_simp
                  rw [show ((ofL (showQ t)).toList == (ofL (textQ t)).toList) = true from by rw [ofL_toList, ofL_toList]; exact beq_iff_eq.2 HC.out.1]
                  exact hK.out (.bool false) _ _ (by kernel_rfl) rfl (Q.refl _)
                refine JC.p hctx ?_
                refine JC.n hctx ?_
                refine JC.n hctx ?_
                refine JC.n hctx ?_
                refine JC.n hctx ?_
                refine JC.n hctx ?_
                refine JC.n hctx ?_
                refine JC.p hctx ?_
                refine JC.p hctx ?_
                refine JC.p hctx ?_
                refine JC.u (.bool ((e9) == (0))) (congrArg Value.bool (beq_eq_false_iff_ne.2 (HE9.out))) hctx ?_
                refine JC.p hctx ?_
                refine JC.n hctx ?_
                refine JC.n hctx ?_
                refine JC.n hctx ?_
                refine JC.n hctx ?_
                refine JC.n hctx ?_
                refine JC.n hctx ?_
                refine JC.n hctx ?_
                refine JC.p hctx ?_
                refine JC.p hctx ?_
                exact Ja.Steps.nil
              intro L vals w36 hall hJ
              clear hAt35
              have hq36 := hJ.q
              have hG36 := hG35.trans hq36
              have hE36 := hE35.q hq36
              have hZ36 := hZ35.q hq36
              have nZ36 := Nq.q nZ35 hq36
              have hU36 := hU35.q hq36
              have nU36 := Nq.q nU35 hq36
              have vt_36 := Nq.q vt_35 hq36
              clear hG35 hE35 hZ35 hU35 nZ35 nU35 vt_35
              have f142 : vals 27 = .bool false := hJ.s 27 (hall 27 (by decide))
              rw [f142]
              clear f142
              clear hall hJ
              go_wp2_with fail
              exact ⟨⟨i + 1, rfl, by omega, ((((((hqr.trans hq31).trans hq32).trans hq33).trans hq34).trans hq35).trans hq36)⟩, by simp [intOf]; omega⟩
          · have HD := Lib.hid hD; clear hD
            have B51 : Hid (100 * (sz (t)) + 100 ≤ LIM) := Lib.hid (by have h0 := ZT.out; rw [LIM_eq]; omega)
            have hAt30 : At0 w30 [] [] w30 := At0.of (Q.refl _) trivial (by simp [Apart0]) trivial
            refine text_cells (F := ?F18) w30 ([.eq (.slice (some ⟨gL, 0, none⟩) 3 3), .eq (.int .i64 ((i : Int))), .eq (.pointer (some ⟨gL, i * 3, none⟩)), .gen (pNum (t)), .eq (.int .i64 (((digQ (t) : Nat) : Int))), .eq (.bool true), .eq (.bool true)] : List Vs) _ _ (by kernel_rfl) hAt30 ?hF18 ?st18 ?en18
            case hF18 =>
              intro vals
              simp only [Ja.fillL, Act.put, List.setIfInBounds_toArray, List.set_cons_zero, List.set_cons_succ, Nat.reduceAdd]
              exact rfl
            case st18 =>
              clear hAt30
              intro hctx
              refine JC.p hctx ?_
              refine JC.p hctx ?_
              refine JC.o hctx ?_ ?_
              · intro L vals W hL hJ hd K hK
                have d0 : vals 0 = .slice (some ⟨gL, 0, none⟩) 3 3 := hd 0 (by kernel_rfl)
                generalize vals 0 = u0 at d0 hK ⊢
                subst d0
                have d1 : vals 1 = .int .i64 ((i : Int)) := hd 1 (by kernel_rfl)
                generalize vals 1 = u1 at d1 hK ⊢
                subst d1
                go_simp
                exact hK.out (.pointer (some ⟨gL, i * 3, none⟩)) _ _ (by kernel_rfl) rfl (Q.refl _)
              refine JC.o hctx ?_ ?_
              · intro L vals W hL hJ hd K hK
                have hN := hJ.q
                have d2 : vals 2 = .pointer (some ⟨gL, i * 3, none⟩) := hd 2 (by kernel_rfl)
                generalize vals 2 = u2 at d2 hK ⊢
                subst d2
                have z0 : W.cell? ⟨gL, i * 3, none⟩ = some (.bool sE0) := (hE30.q hN).2.1
                have z1 : W.cell? ⟨gL, i * 3 + 1, none⟩ = some (.slice AE1 kE1 cE1) := (hE30.q hN).2.2.1
                have z2 : W.cell? ⟨gL, i * 3 + 2, none⟩ = some (.slice AE2 kE2 cE2) := (hE30.q hN).2.2.2
                go_simp
                exact hK.out (.agg #[.bool sE0, .slice AE1 kE1 cE1, .slice AE2 kE2 cE2]) _ _ (by kernel_rfl) ((pNum (t)).q vt_30 hN) (Q.refl _)
              refine JC.ca (fun vals W hN hd hk => (q_Digits _ (t) W (hd 3 (by kernel_rfl)) B51.out).mono (by rintro e W9 ⟨rfl, hq9⟩; exact ⟨_, rfl, rfl, hq9⟩)) hctx ?_
              refine JC.u (.bool (decide ((1000) < (((digQ (t) : Nat) : Int))))) (congrArg Value.bool (decide_eq_true (show ((((digQ (t) : Nat) : Int) : Int) > 1000) from (by have h9 := HD.out; omega)))) hctx ?_
              refine JC.p hctx ?_
              exact Ja.Steps.nil
            intro L vals w31 hall hJ
            clear hAt30
            have hq31 := hJ.q
            have hG31 := hG30.trans hq31
            have hE31 := hE30.q hq31
            have vt_31 := Nq.q vt_30 hq31
            clear hG30 hE30 vt_30
            have f11 : vals 6 = .bool true := hJ.s 6 (hall 6 (by decide))
            rw [f11]
            clear f11
            clear hall hJ
            have HPT : Hid (parseS (ofL (textQ t)).data.toList = (3, 0)) := Lib.hid (by show parseS (textQ t) = _; rw [parse_of_text, if_neg HD.out])
            go_upto_region 12 with fail
            have Z52 : Hid (sz (0) ≤ 2) := Lib.hid (sz_zero)
            have hAt31 : At0 w31 [{ al := some 9, g := 0, t := 25, ck := [.b, .s, .s], row := .agg #[.bool false, .slice none 0 0, .slice none 0 0], st := 10, src := 7 }] [] w31 := At0.of (Q.refl _) ⟨fun h => (by cases h), trivial⟩ (by simp [Apart0]) trivial
            refine text_cells (F := ?F19) w31 ([.eq (.slice (some ⟨gL, 0, none⟩) 3 3), .eq (.int .i64 ((i : Int))), .eq (.pointer (some ⟨gL, i * 3, none⟩)), .gen (pNum (t)), .eq (.string ((ofL (textQ t)))), .gen (pT2 (pNum (0)) (pEq (.int .i64 (3)))), .gen (pT2 (pNum (0)) (pEq (.int .i64 (3)))), .gen (pNum (0)), .eq (.int .i64 (3)), .any, .any, .eq (.int .i64 (3))] : List Vs) _ _ (by kernel_rfl) hAt31 ?hF19 ?st19 ?en19
            case hF19 =>
              intro vals
              simp only [Ja.fillL, Act.put, List.setIfInBounds_toArray, List.set_cons_zero, List.set_cons_succ, Nat.reduceAdd]
              exact rfl
            case st19 =>
              clear hAt31
              intro hctx
              refine JC.p hctx ?_
              refine JC.p hctx ?_
              refine JC.o hctx ?_ ?_
              · intro L vals W hL hJ hd K hK
                have d0 : vals 0 = .slice (some ⟨gL, 0, none⟩) 3 3 := hd 0 (by kernel_rfl)
                generalize vals 0 = u0 at d0 hK ⊢
                subst d0
                have d1 : vals 1 = .int .i64 ((i : Int)) := hd 1 (by kernel_rfl)
                generalize vals 1 = u1 at d1 hK ⊢
                subst d1
                go_simp
                exact hK.out (.pointer (some ⟨gL, i * 3, none⟩)) _ _ (by kernel_rfl) rfl (Q.refl _)
              refine JC.o hctx ?_ ?_
              · intro L vals W hL hJ hd K hK
                have hN := hJ.q
                have d2 : vals 2 = .pointer (some ⟨gL, i * 3, none⟩) := hd 2 (by kernel_rfl)
                generalize vals 2 = u2 at d2 hK ⊢
                subst d2
                have z0 : W.cell? ⟨gL, i * 3, none⟩ = some (.bool sE0) := (hE31.q hN).2.1
                have z1 : W.cell? ⟨gL, i * 3 + 1, none⟩ = some (.slice AE1 kE1 cE1) := (hE31.q hN).2.2.1
                have z2 : W.cell? ⟨gL, i * 3 + 2, none⟩ = some (.slice AE2 kE2 cE2) := (hE31.q hN).2.2.2
                go_simp
                exact hK.out (.agg #[.bool sE0, .slice AE1 kE1 cE1, .slice AE2 kE2 cE2]) _ _ (by kernel_rfl) ((pNum (t)).q vt_31 hN) (Q.refl _)
              refine JC.ca (fun vals W hN hd hk => (q_Text _ (t) W (hd 3 (by kernel_rfl)) (by have h0 := ZT.out; omega)).mono (by rintro e W9 ⟨t, rfl, ht, hq9⟩; exact ⟨(.string t), rfl, (congrArg Value.string ((str_of ht))), hq9⟩)) hctx ?_
              refine JC.ca (fun vals W hN hd hk => (q_Parse (ofL (textQ t)) W (hT.q (hG31.trans hN)) (text_size t (by have := ZT.out; omega))).mono (by rintro e W9 ⟨r, rfl, hr, hq9⟩; exact ⟨(.tuple #[r, .int .i64 (parseS (ofL (textQ t)).data.toList).1]), rfl, ⟨_, _, rfl, (by have h7 := hr; rw [HPT.out] at h7; exact h7), congrArg (Value.int .i64) (by rw [HPT.out])⟩, hq9⟩)) hctx ?_
              refine JC.m 5 hctx ?_
              refine JC.o hctx ?_ ?_
              · intro L vals W hL hJ hd K hK
                have d6 : (pT2 (pNum (0)) (pEq (.int .i64 (3)))).p (vals 6) W := hd 6 (by kernel_rfl)
                generalize vals 6 = u6 at d6 hK ⊢
                obtain ⟨e0, e1, rfl, he0, he1⟩ := d6
                go_simp
                exact hK.out (e0) _ _ (by kernel_rfl) he0 (Q.refl _)
              refine JC.o hctx ?_ ?_
              · intro L vals W hL hJ hd K hK
                have d6 : (pT2 (pNum (0)) (pEq (.int .i64 (3)))).p (vals 6) W := hd 6 (by kernel_rfl)
                generalize vals 6 = u6 at d6 hK ⊢
                obtain ⟨e0, e1, rfl, he0, he1⟩ := d6
                obtain rfl : e1 = .int .i64 (3) := he1
                go_simp
                exact hK.out (.int .i64 (3)) _ _ (by kernel_rfl) rfl (Q.refl _)
              refine Ja.Steps.cons (JC.alloc (n := 0) (cells := [.bool false, .slice none 0 0, .slice none 0 0].toArray) (t := 25) hctx (by kernel_rfl) (by rfl) (by kernel_rfl) (by rfl) (by rfl) (by kernel_rfl) (by rfl) (fun W => NbV.mk (t := 25) (ck := [.b, .s, .s]) (row := [.bool false, .slice none 0 0, .slice none 0 0]) ⟨⟨_, rfl⟩, ⟨_, _, _, rfl⟩, ⟨_, _, _, rfl⟩, trivial⟩ (Bx.new W _ _)) ?_) ?_
              · intro vals W K hK
                go_simp
                exact hK.out _ (by kernel_rfl)
              refine JC.s3 (n := 0) rfl fNum hctx ?_
              refine JC.p hctx ?_
              exact Ja.Steps.nil
            intro L vals w32 hall hJ
            clear hAt31
            have hq32 := hJ.q
            have hG32 := hG31.trans hq32
            have hE32 := hE31.q hq32
            have vt_32 := Nq.q vt_31 hq32
            clear hG31 hE31 vt_31
            obtain ⟨gZ, eZ, geZ, qZ⟩ := hJ.fresh 0 rfl rfl (hall 9 (by decide)) (hall 10 (by decide))
            have nZ32 : Nq w32 (vals 7) (0) := hJ.s 7 (hall 7 (by decide))
            have qxZ := NbV.ex qZ
            obtain ⟨sZ0, AZ1, kZ1, cZ1, AZ2, kZ2, cZ2, yZ, hZ32⟩ := qxZ
            change Bx w32 (gZ) 25 [.bool sZ0, .slice AZ1 kZ1 cZ1, .slice AZ2 kZ2 cZ2] at hZ32
            try dsimp only at yZ
            rw [yZ] at nZ32
            clear yZ qZ
            rw [eZ]
            clear eZ
            have f13 : vals 11 = .int .i64 (3) := hJ.s 11 (hall 11 (by decide))
            rw [f13]
            clear f13
            clear hall hJ
            go_upto_region 13 with fail
            have B53 : Hid (2000 * (sz (t)) + 500000 ≤ LIM) := Lib.hid (by have h0 := ZT.out; rw [LIM_eq]; omega)
            have hAt32 : At0 w32 [] [] w32 := At0.of (Q.refl _) trivial (by simp [Apart0]) trivial
            refine text_cells (F := ?F20) w32 ([.eq (.slice (some ⟨gL, 0, none⟩) 3 3), .eq (.int .i64 ((i : Int))), .eq (.pointer (some ⟨gL, i * 3, none⟩)), .gen (pNum (t)), .eq (.string ((ofL (showQ t)))), .eq (.string ((ofL (showQ t))))] : List Vs) _ _ (by kernel_rfl) hAt32 ?hF20 ?st20 ?en20
            case hF20 =>
              intro vals
              simp only [Ja.fillL, Act.put, List.setIfInBounds_toArray, List.set_cons_zero, List.set_cons_succ, Nat.reduceAdd]
              exact rfl
            case st20 =>
              clear hAt32
              intro hctx
              refine JC.p hctx ?_
              refine JC.p hctx ?_
              refine JC.o hctx ?_ ?_
              · intro L vals W hL hJ hd K hK
                have d0 : vals 0 = .slice (some ⟨gL, 0, none⟩) 3 3 := hd 0 (by kernel_rfl)
                generalize vals 0 = u0 at d0 hK ⊢
                subst d0
                have d1 : vals 1 = .int .i64 ((i : Int)) := hd 1 (by kernel_rfl)
                generalize vals 1 = u1 at d1 hK ⊢
                subst d1
                go_simp
                exact hK.out (.pointer (some ⟨gL, i * 3, none⟩)) _ _ (by kernel_rfl) rfl (Q.refl _)
              refine JC.o hctx ?_ ?_
              · intro L vals W hL hJ hd K hK
                have hN := hJ.q
                have d2 : vals 2 = .pointer (some ⟨gL, i * 3, none⟩) := hd 2 (by kernel_rfl)
                generalize vals 2 = u2 at d2 hK ⊢
                subst d2
                have z0 : W.cell? ⟨gL, i * 3, none⟩ = some (.bool sE0) := (hE32.q hN).2.1
                have z1 : W.cell? ⟨gL, i * 3 + 1, none⟩ = some (.slice AE1 kE1 cE1) := (hE32.q hN).2.2.1
                have z2 : W.cell? ⟨gL, i * 3 + 2, none⟩ = some (.slice AE2 kE2 cE2) := (hE32.q hN).2.2.2
                go_simp
                exact hK.out (.agg #[.bool sE0, .slice AE1 kE1 cE1, .slice AE2 kE2 cE2]) _ _ (by kernel_rfl) ((pNum (t)).q vt_32 hN) (Q.refl _)
              refine JC.ca (fun vals W hN hd hk => (q_Show _ (t) W (hT.q (hG32.trans hN)) (hPx.q (hG32.trans hN)) (hd 3 (by kernel_rfl)) B53.out).mono (by rintro e W9 ⟨t, rfl, ht, hq9⟩; exact ⟨(.string t), rfl, (congrArg Value.string ((str_of ht))), hq9⟩)) hctx ?_
              refine JC.p hctx ?_
              exact Ja.Steps.nil
            intro L vals w33 hall hJ
            clear hAt32
            have hq33 := hJ.q
            have hG33 := hG32.trans hq33
            have hE33 := hE32.q hq33
            have hZ33 := hZ32.q hq33
            have nZ33 := Nq.q nZ32 hq33
            have vt_33 := Nq.q vt_32 hq33
            clear hG32 hE32 hZ32 nZ32 vt_32
            have f14 : vals 5 = .string ((ofL (showQ t))) := hJ.s 5 (hall 5 (by decide))
            rw [f14]
            clear f14
            clear hall hJ
            go_upto_region 14 with fail
            by_cases hR : readS (showQ t) = (0, t)
            · have HR := Lib.hid hR; clear hR
              by_cases hS : showQ t = textQ t
              · have HS := Lib.hid hS; clear hS
                have hAt33 : At0 w33 [{ al := some 5, g := 0, t := 25, ck := [.b, .s, .s], row := .agg #[.bool false, .slice none 0 0, .slice none 0 0], st := 6, src := 3 }] [] w33 := At0.of (Q.refl _) ⟨fun h => (by cases h), trivial⟩ (by simp [Apart0]) trivial
                refine text_cells (F := ?F21) w33 ([.eq (.string ((ofL (showQ t)))), .gen (pT2 (pNum (t)) (pEq (.int .i64 (0)))), .gen (pT2 (pNum (t)) (pEq (.int .i64 (0)))), .gen (pNum (t)), .eq (.int .i64 (0)), .any, .any, .eq (.int .i64 (0))] : List Vs) _ _ (by kernel_rfl) hAt33 ?hF21 ?st21 ?en21
                case hF21 =>
                  intro vals
                  simp only [Ja.fillL, Act.put, List.setIfInBounds_toArray, List.set_cons_zero, List.set_cons_succ, Nat.reduceAdd]
                  exact rfl
                case st21 =>
                  clear hAt33
                  intro hctx
                  refine JC.p hctx ?_
                  refine JC.ca (fun vals W hN hd hk => (q_Read (ofL (showQ t)) W (hT.q (hG33.trans hN)) (hPx.q (hG33.trans hN)) (show_size t (by have := ZT.out; omega))).mono (by rintro e W9 ⟨r, rfl, hr, hq9⟩; exact ⟨(.tuple #[r, .int .i64 (readS ((ofL (showQ t)) : ByteArray).data.toList).1]), rfl, ⟨_, _, rfl, (by have h7 := hr; rw [show (readS (ofL (showQ t)).data.toList).2 = t from congrArg Prod.snd HR.out] at h7; exact h7), congrArg (Value.int .i64) (congrArg Prod.fst HR.out)⟩, hq9⟩)) hctx ?_
                  refine JC.m 1 hctx ?_
                  refine JC.o hctx ?_ ?_
                  · intro L vals W hL hJ hd K hK
                    have d2 : (pT2 (pNum (t)) (pEq (.int .i64 (0)))).p (vals 2) W := hd 2 (by kernel_rfl)
                    generalize vals 2 = u2 at d2 hK ⊢
                    obtain ⟨e0, e1, rfl, he0, he1⟩ := d2
                    go_simp
                    exact hK.out (e0) _ _ (by kernel_rfl) he0 (Q.refl _)
                  refine JC.o hctx ?_ ?_
                  · intro L vals W hL hJ hd K hK
                    have d2 : (pT2 (pNum (t)) (pEq (.int .i64 (0)))).p (vals 2) W := hd 2 (by kernel_rfl)
                    generalize vals 2 = u2 at d2 hK ⊢
                    obtain ⟨e0, e1, rfl, he0, he1⟩ := d2
                    obtain rfl : e1 = .int .i64 (0) := he1
                    go_simp
                    exact hK.out (.int .i64 (0)) _ _ (by kernel_rfl) rfl (Q.refl _)
                  refine Ja.Steps.cons (JC.alloc (n := 0) (cells := [.bool false, .slice none 0 0, .slice none 0 0].toArray) (t := 25) hctx (by kernel_rfl) (by rfl) (by kernel_rfl) (by rfl) (by rfl) (by kernel_rfl) (by rfl) (fun W => NbV.mk (t := 25) (ck := [.b, .s, .s]) (row := [.bool false, .slice none 0 0, .slice none 0 0]) ⟨⟨_, rfl⟩, ⟨_, _, _, rfl⟩, ⟨_, _, _, rfl⟩, trivial⟩ (Bx.new W _ _)) ?_) ?_
                  · intro vals W K hK
                    go_simp
                    exact hK.out _ (by kernel_rfl)
                  refine JC.s3 (n := 0) rfl fNum hctx ?_
                  refine JC.p hctx ?_
                  exact Ja.Steps.nil
                intro L vals w34 hall hJ
                clear hAt33
                have hq34 := hJ.q
                have hG34 := hG33.trans hq34
                have hE34 := hE33.q hq34
                have hZ34 := hZ33.q hq34
                have nZ34 := Nq.q nZ33 hq34
                have vt_34 := Nq.q vt_33 hq34
                clear hG33 hE33 hZ33 nZ33 vt_33
                obtain ⟨gU, eU, geU, qU⟩ := hJ.fresh 0 rfl rfl (hall 5 (by decide)) (hall 6 (by decide))
                have nU34 : Nq w34 (vals 3) (t) := hJ.s 3 (hall 3 (by decide))
                have qxU := NbV.ex qU
                obtain ⟨sU0, AU1, kU1, cU1, AU2, kU2, cU2, yU, hU34⟩ := qxU
                change Bx w34 (gU) 25 [.bool sU0, .slice AU1 kU1 cU1, .slice AU2 kU2 cU2] at hU34
                try dsimp only at yU
                rw [yU] at nU34
                clear yU qU
                rw [eU]
                clear eU
                have f16 : vals 7 = .int .i64 (0) := hJ.s 7 (hall 7 (by decide))
                rw [f16]
                clear f16
                clear hall hJ
                go_upto_region 15 with fail
                have hAt34 : At0 w34 [] [] w34 := At0.of (Q.refl _) trivial (by simp [Apart0]) trivial
                refine region_cells (F := ?F22) w34 ([.eq (.bool true), .eq (.int .i64 (3)), .eq (.bool true), .eq (.bool false), .eq (.bool false), .eq (.bool true), .eq (.bool false), .eq (.bool false), .no, .no, .no, .no, .no, .no, .no, .no, .no, .no, .no, .eq (.bool false), .eq (.bool false)] : List Vs) _ _ (by kernel_rfl) (by kernel_rfl) hAt34 ?hF22 ?st22 ?en22
                case hF22 =>
                  intro vals
                  simp only [Ja.fillL, Act.put, List.setIfInBounds_toArray, List.set_cons_zero, List.set_cons_succ, Nat.reduceAdd]
                  exact rfl
                case st22 =>
                  clear hAt34
                  intro hctx
                  refine JC.p hctx ?_
                  refine JC.p hctx ?_
                  refine JC.p hctx ?_
                  refine JC.o hctx ?_ ?_
                  · intro L vals W hL hJ hd K hK
                    have d0 : vals 0 = .bool true := hd 0 (by kernel_rfl)
                    generalize vals 0 = u0 at d0 hK ⊢
                    subst d0
                    have d2 : vals 2 = .bool true := hd 2 (by kernel_rfl)
                    generalize vals 2 = u2 at d2 hK ⊢
                    subst d2
                    go_simp
                    exact hK.out (.bool false) _ _ (by kernel_rfl) rfl (Q.refl _)
                  refine JC.p hctx ?_
                  refine JC.p hctx ?_
                  refine JC.p hctx ?_
                  refine JC.p hctx ?_
                  refine JC.n hctx ?_
                  refine JC.n hctx ?_
                  refine JC.n hctx ?_
                  refine JC.n hctx ?_
                  refine JC.n hctx ?_
                  refine JC.n hctx ?_
                  refine JC.n hctx ?_
                  refine JC.n hctx ?_
                  refine JC.n hctx ?_
                  refine JC.n hctx ?_
                  refine JC.n hctx ?_
                  refine JC.p hctx ?_
                  refine JC.p hctx ?_
                  exact Ja.Steps.nil
                intro L vals w35 hall hJ
                clear hAt34
                have hq35 := hJ.q
                have hG35 := hG34.trans hq35
                have hE35 := hE34.q hq35
                have hZ35 := hZ34.q hq35
                have nZ35 := Nq.q nZ34 hq35
                have hU35 := hU34.q hq35
                have nU35 := Nq.q nU34 hq35
                have vt_35 := Nq.q vt_34 hq35
                clear hG34 hE34 hZ34 hU34 nZ34 nU34 vt_34
                have f114 : vals 20 = .bool false := hJ.s 20 (hall 20 (by decide))
                rw [f114]
                clear f114
                clear hall hJ
                go_upto_region 17 with fail
                have B54 : Hid (2000 * (sz (t)) + 500000 ≤ LIM) := Lib.hid (by have h0 := ZT.out; rw [LIM_eq]; omega)
                have hAt35 : At0 w35 [] [] w35 := At0.of (Q.refl _) trivial (by simp [Apart0]) trivial
                refine region_cells (F := ?F23) w35 ([.eq (.string ((ofL (showQ t)))), .eq (.slice (some ⟨gL, 0, none⟩) 3 3), .eq (.int .i64 ((i : Int))), .eq (.pointer (some ⟨gL, i * 3, none⟩)), .gen (pNum (t)), .eq (.string ((ofL (textQ t)))), .eq (.bool false), .eq (.bool false), .no, .no, .no, .no, .no, .no, .eq (.bool false), .eq (.bool false), .eq (.int .i64 (0)), .eq (.bool true), .eq (.bool true), .gen (pNum (t)), .eq (.slice (some ⟨gL, 0, none⟩) 3 3), .eq (.int .i64 ((i : Int))), .eq (.pointer (some ⟨gL, i * 3, none⟩)), .gen (pNum (t)), .eq (.bool true), .eq (.bool false), .eq (.bool false), .eq (.bool false)] : List Vs) _ _ (by kernel_rfl) (by kernel_rfl) hAt35 ?hF23 ?st23 ?en23
                case hF23 =>
                  intro vals
                  simp only [Ja.fillL, Act.put, List.setIfInBounds_toArray, List.set_cons_zero, List.set_cons_succ, Nat.reduceAdd]
                  exact rfl
                case st23 =>
                  clear hAt35
                  intro hctx
                  refine JC.p hctx ?_
                  refine JC.p hctx ?_
                  refine JC.p hctx ?_
                  refine JC.o hctx ?_ ?_
                  · intro L vals W hL hJ hd K hK
                    have d1 : vals 1 = .slice (some ⟨gL, 0, none⟩) 3 3 := hd 1 (by kernel_rfl)
                    generalize vals 1 = u1 at d1 hK ⊢
                    subst d1
                    have d2 : vals 2 = .int .i64 ((i : Int)) := hd 2 (by kernel_rfl)
                    generalize vals 2 = u2 at d2 hK ⊢
                    subst d2
                    go_simp
                    exact hK.out (.pointer (some ⟨gL, i * 3, none⟩)) _ _ (by kernel_rfl) rfl (Q.refl _)
                  refine JC.o hctx ?_ ?_
                  · intro L vals W hL hJ hd K hK
                    have hN := hJ.q
                    have d3 : vals 3 = .pointer (some ⟨gL, i * 3, none⟩) := hd 3 (by kernel_rfl)
                    generalize vals 3 = u3 at d3 hK ⊢
                    subst d3
                    have z0 : W.cell? ⟨gL, i * 3, none⟩ = some (.bool sE0) := (hE35.q hN).2.1
                    have z1 : W.cell? ⟨gL, i * 3 + 1, none⟩ = some (.slice AE1 kE1 cE1) := (hE35.q hN).2.2.1
                    have z2 : W.cell? ⟨gL, i * 3 + 2, none⟩ = some (.slice AE2 kE2 cE2) := (hE35.q hN).2.2.2
                    go_simp
                    exact hK.out (.agg #[.bool sE0, .slice AE1 kE1 cE1, .slice AE2 kE2 cE2]) _ _ (by kernel_rfl) ((pNum (t)).q vt_35 hN) (Q.refl _)
                  refine JC.ca (fun vals W hN hd hk => (q_Text _ (t) W (hd 4 (by kernel_rfl)) (by have h0 := ZT.out; omega)).mono (by rintro e W9 ⟨t, rfl, ht, hq9⟩; exact ⟨(.string t), rfl, (congrArg Value.string ((str_of ht))), hq9⟩)) hctx ?_
                  refine JC.o hctx ?_ ?_
                  · intro L vals W hL hJ hd K hK
                    have d0 : vals 0 = .string ((ofL (showQ t))) := hd 0 (by kernel_rfl)
                    generalize vals 0 = u0 at d0 hK ⊢
                    subst d0
                    have d5 : vals 5 = .string ((ofL (textQ t))) := hd 5 (by kernel_rfl)
                    generalize vals 5 = u5 at d5 hK ⊢
                    subst d5
                    go_simp
                    rw [show ((ofL (showQ t)).toList == (ofL (textQ t)).toList) = true from by rw [ofL_toList, ofL_toList]; exact beq_iff_eq.2 HS.out]
                    exact hK.out (.bool false) _ _ (by kernel_rfl) rfl (Q.refl _)
                  refine JC.p hctx ?_
                  refine JC.n hctx ?_
                  refine JC.n hctx ?_
                  refine JC.n hctx ?_
                  refine JC.n hctx ?_
                  refine JC.n hctx ?_
                  refine JC.n hctx ?_
                  refine JC.p hctx ?_
                  refine JC.p hctx ?_
                  refine JC.p hctx ?_
                  refine JC.p hctx ?_
                  refine JC.p hctx ?_
                  refine JC.l3 (off := 0) hU35 (fun W hN => (Nq.q nU35 hN)) hctx ?_
                  refine JC.p hctx ?_
                  refine JC.p hctx ?_
                  refine JC.o hctx ?_ ?_
                  · intro L vals W hL hJ hd K hK
                    have d20 : vals 20 = .slice (some ⟨gL, 0, none⟩) 3 3 := hd 20 (by kernel_rfl)
                    generalize vals 20 = u20 at d20 hK ⊢
                    subst d20
                    have d21 : vals 21 = .int .i64 ((i : Int)) := hd 21 (by kernel_rfl)
                    generalize vals 21 = u21 at d21 hK ⊢
                    subst d21
                    go_simp
                    exact hK.out (.pointer (some ⟨gL, i * 3, none⟩)) _ _ (by kernel_rfl) rfl (Q.refl _)
                  refine JC.o hctx ?_ ?_
                  · intro L vals W hL hJ hd K hK
                    have hN := hJ.q
                    have d22 : vals 22 = .pointer (some ⟨gL, i * 3, none⟩) := hd 22 (by kernel_rfl)
                    generalize vals 22 = u22 at d22 hK ⊢
                    subst d22
                    have z0 : W.cell? ⟨gL, i * 3, none⟩ = some (.bool sE0) := (hE35.q hN).2.1
                    have z1 : W.cell? ⟨gL, i * 3 + 1, none⟩ = some (.slice AE1 kE1 cE1) := (hE35.q hN).2.2.1
                    have z2 : W.cell? ⟨gL, i * 3 + 2, none⟩ = some (.slice AE2 kE2 cE2) := (hE35.q hN).2.2.2
                    go_simp
                    exact hK.out (.agg #[.bool sE0, .slice AE1 kE1 cE1, .slice AE2 kE2 cE2]) _ _ (by kernel_rfl) ((pNum (t)).q vt_35 hN) (Q.refl _)
                  refine JC.ca (fun vals W hN hd hk => (q_equal _ _ (t) W (hT.q (hG35.trans hN)) (hPx.q (hG35.trans hN)) (hd 19 (by kernel_rfl)) (by rw [show (t : Rat) = t from rfl]; exact (hd 23 (by kernel_rfl))) B54.out).mono (by rintro e W9 ⟨rfl, hq9⟩; exact ⟨(.bool true), rfl, rfl, hq9⟩)) hctx ?_
                  refine JC.p hctx ?_
                  refine JC.p hctx ?_
                  refine JC.p hctx ?_
                  exact Ja.Steps.nil
                intro L vals w36 hall hJ
                clear hAt35
                have hq36 := hJ.q
                have hG36 := hG35.trans hq36
                have hE36 := hE35.q hq36
                have hZ36 := hZ35.q hq36
                have nZ36 := Nq.q nZ35 hq36
                have hU36 := hU35.q hq36
                have nU36 := Nq.q nU35 hq36
                have vt_36 := Nq.q vt_35 hq36
                clear hG35 hE35 hZ35 hU35 nZ35 nU35 vt_35
                have f142 : vals 27 = .bool false := hJ.s 27 (hall 27 (by decide))
                rw [f142]
                clear f142
                clear hall hJ
                go_wp2_with fail
                exact ⟨⟨i + 1, rfl, by omega, ((((((hqr.trans hq31).trans hq32).trans hq33).trans hq34).trans hq35).trans hq36)⟩, by simp [intOf]; omega⟩
              · have HS := Lib.hid hS; clear hS
                have hAt33 : At0 w33 [{ al := some 5, g := 0, t := 25, ck := [.b, .s, .s], row := .agg #[.bool false, .slice none 0 0, .slice none 0 0], st := 6, src := 3 }] [] w33 := At0.of (Q.refl _) ⟨fun h => (by cases h), trivial⟩ (by simp [Apart0]) trivial
                refine text_cells (F := ?F24) w33 ([.eq (.string ((ofL (showQ t)))), .gen (pT2 (pNum (t)) (pEq (.int .i64 (0)))), .gen (pT2 (pNum (t)) (pEq (.int .i64 (0)))), .gen (pNum (t)), .eq (.int .i64 (0)), .any, .any, .eq (.int .i64 (0))] : List Vs) _ _ (by kernel_rfl) hAt33 ?hF24 ?st24 ?en24
                case hF24 =>
                  intro vals
                  simp only [Ja.fillL, Act.put, List.setIfInBounds_toArray, List.set_cons_zero, List.set_cons_succ, Nat.reduceAdd]
                  exact rfl
                case st24 =>
                  clear hAt33
                  intro hctx
                  refine JC.p hctx ?_
                  refine JC.ca (fun vals W hN hd hk => (q_Read (ofL (showQ t)) W (hT.q (hG33.trans hN)) (hPx.q (hG33.trans hN)) (show_size t (by have := ZT.out; omega))).mono (by rintro e W9 ⟨r, rfl, hr, hq9⟩; exact ⟨(.tuple #[r, .int .i64 (readS ((ofL (showQ t)) : ByteArray).data.toList).1]), rfl, ⟨_, _, rfl, (by have h7 := hr; rw [show (readS (ofL (showQ t)).data.toList).2 = t from congrArg Prod.snd HR.out] at h7; exact h7), congrArg (Value.int .i64) (congrArg Prod.fst HR.out)⟩, hq9⟩)) hctx ?_
                  refine JC.m 1 hctx ?_
                  refine JC.o hctx ?_ ?_
                  · intro L vals W hL hJ hd K hK
                    have d2 : (pT2 (pNum (t)) (pEq (.int .i64 (0)))).p (vals 2) W := hd 2 (by kernel_rfl)
                    generalize vals 2 = u2 at d2 hK ⊢
                    obtain ⟨e0, e1, rfl, he0, he1⟩ := d2
                    go_simp
                    exact hK.out (e0) _ _ (by kernel_rfl) he0 (Q.refl _)
                  refine JC.o hctx ?_ ?_
                  · intro L vals W hL hJ hd K hK
                    have d2 : (pT2 (pNum (t)) (pEq (.int .i64 (0)))).p (vals 2) W := hd 2 (by kernel_rfl)
                    generalize vals 2 = u2 at d2 hK ⊢
                    obtain ⟨e0, e1, rfl, he0, he1⟩ := d2
                    obtain rfl : e1 = .int .i64 (0) := he1
                    go_simp
                    exact hK.out (.int .i64 (0)) _ _ (by kernel_rfl) rfl (Q.refl _)
                  refine Ja.Steps.cons (JC.alloc (n := 0) (cells := [.bool false, .slice none 0 0, .slice none 0 0].toArray) (t := 25) hctx (by kernel_rfl) (by rfl) (by kernel_rfl) (by rfl) (by rfl) (by kernel_rfl) (by rfl) (fun W => NbV.mk (t := 25) (ck := [.b, .s, .s]) (row := [.bool false, .slice none 0 0, .slice none 0 0]) ⟨⟨_, rfl⟩, ⟨_, _, _, rfl⟩, ⟨_, _, _, rfl⟩, trivial⟩ (Bx.new W _ _)) ?_) ?_
                  · intro vals W K hK
                    go_simp
                    exact hK.out _ (by kernel_rfl)
                  refine JC.s3 (n := 0) rfl fNum hctx ?_
                  refine JC.p hctx ?_
                  exact Ja.Steps.nil
                intro L vals w34 hall hJ
                clear hAt33
                have hq34 := hJ.q
                have hG34 := hG33.trans hq34
                have hE34 := hE33.q hq34
                have hZ34 := hZ33.q hq34
                have nZ34 := Nq.q nZ33 hq34
                have vt_34 := Nq.q vt_33 hq34
                clear hG33 hE33 hZ33 nZ33 vt_33
                obtain ⟨gU, eU, geU, qU⟩ := hJ.fresh 0 rfl rfl (hall 5 (by decide)) (hall 6 (by decide))
                have nU34 : Nq w34 (vals 3) (t) := hJ.s 3 (hall 3 (by decide))
                have qxU := NbV.ex qU
                obtain ⟨sU0, AU1, kU1, cU1, AU2, kU2, cU2, yU, hU34⟩ := qxU
                change Bx w34 (gU) 25 [.bool sU0, .slice AU1 kU1 cU1, .slice AU2 kU2 cU2] at hU34
                try dsimp only at yU
                rw [yU] at nU34
                clear yU qU
                rw [eU]
                clear eU
                have f16 : vals 7 = .int .i64 (0) := hJ.s 7 (hall 7 (by decide))
                rw [f16]
                clear f16
                clear hall hJ
                go_upto_region 15 with fail
                have hAt34 : At0 w34 [] [] w34 := At0.of (Q.refl _) trivial (by simp [Apart0]) trivial
                refine region_cells (F := ?F25) w34 ([.eq (.bool true), .eq (.int .i64 (3)), .eq (.bool true), .eq (.bool false), .eq (.bool false), .eq (.bool true), .eq (.bool false), .eq (.bool false), .no, .no, .no, .no, .no, .no, .no, .no, .no, .no, .no, .eq (.bool false), .eq (.bool false)] : List Vs) _ _ (by kernel_rfl) (by kernel_rfl) hAt34 ?hF25 ?st25 ?en25
                case hF25 =>
                  intro vals
                  simp only [Ja.fillL, Act.put, List.setIfInBounds_toArray, List.set_cons_zero, List.set_cons_succ, Nat.reduceAdd]
                  exact rfl
                case st25 =>
                  clear hAt34
                  intro hctx
                  refine JC.p hctx ?_
                  refine JC.p hctx ?_
                  refine JC.p hctx ?_
                  refine JC.o hctx ?_ ?_
                  · intro L vals W hL hJ hd K hK
                    have d0 : vals 0 = .bool true := hd 0 (by kernel_rfl)
                    generalize vals 0 = u0 at d0 hK ⊢
                    subst d0
                    have d2 : vals 2 = .bool true := hd 2 (by kernel_rfl)
                    generalize vals 2 = u2 at d2 hK ⊢
                    subst d2
                    go_simp
                    exact hK.out (.bool false) _ _ (by kernel_rfl) rfl (Q.refl _)
                  refine JC.p hctx ?_
                  refine JC.p hctx ?_
                  refine JC.p hctx ?_
                  refine JC.p hctx ?_
                  refine JC.n hctx ?_
                  refine JC.n hctx ?_
                  refine JC.n hctx ?_
                  refine JC.n hctx ?_
                  refine JC.n hctx ?_
                  refine JC.n hctx ?_
                  refine JC.n hctx ?_
                  refine JC.n hctx ?_
                  refine JC.n hctx ?_
                  refine JC.n hctx ?_
                  refine JC.n hctx ?_
                  refine JC.p hctx ?_
                  refine JC.p hctx ?_
                  exact Ja.Steps.nil
                intro L vals w35 hall hJ
                clear hAt34
                have hq35 := hJ.q
                have hG35 := hG34.trans hq35
                have hE35 := hE34.q hq35
                have hZ35 := hZ34.q hq35
                have nZ35 := Nq.q nZ34 hq35
                have hU35 := hU34.q hq35
                have nU35 := Nq.q nU34 hq35
                have vt_35 := Nq.q vt_34 hq35
                clear hG34 hE34 hZ34 hU34 nZ34 nU34 vt_34
                have f114 : vals 20 = .bool false := hJ.s 20 (hall 20 (by decide))
                rw [f114]
                clear f114
                clear hall hJ
                go_upto_region 17 with fail
                have B54 : Hid (2000 * (sz (t)) + 500000 ≤ LIM) := Lib.hid (by have h0 := ZT.out; rw [LIM_eq]; omega)
                have hAt35 : At0 w35 [] [] w35 := At0.of (Q.refl _) trivial (by simp [Apart0]) trivial
                refine region_cells (F := ?F26) w35 ([.eq (.string ((ofL (showQ t)))), .eq (.slice (some ⟨gL, 0, none⟩) 3 3), .eq (.int .i64 ((i : Int))), .eq (.pointer (some ⟨gL, i * 3, none⟩)), .gen (pNum (t)), .eq (.string ((ofL (textQ t)))), .eq (.bool true), .eq (.bool true), .eq (.int .i64 (0)), .eq (.bool false), .eq (.bool false), .eq (.string ((ofL (showQ t)))), .eq (.bool false), .eq (.bool false), .eq (.bool false), .eq (.bool false), .eq (.int .i64 (0)), .eq (.bool true), .eq (.bool true), .gen (pNum (t)), .eq (.slice (some ⟨gL, 0, none⟩) 3 3), .eq (.int .i64 ((i : Int))), .eq (.pointer (some ⟨gL, i * 3, none⟩)), .gen (pNum (t)), .eq (.bool true), .eq (.bool false), .eq (.bool false), .eq (.bool false)] : List Vs) _ _ (by kernel_rfl) (by kernel_rfl) hAt35 ?hF26 ?st26 ?en26
                case hF26 =>
                  intro vals
                  simp only [Ja.fillL, Act.put, List.setIfInBounds_toArray, List.set_cons_zero, List.set_cons_succ, Nat.reduceAdd]
                  exact rfl
                case st26 =>
                  clear hAt35
                  intro hctx
                  refine JC.p hctx ?_
                  refine JC.p hctx ?_
                  refine JC.p hctx ?_
                  refine JC.o hctx ?_ ?_
                  · intro L vals W hL hJ hd K hK
                    have d1 : vals 1 = .slice (some ⟨gL, 0, none⟩) 3 3 := hd 1 (by kernel_rfl)
                    generalize vals 1 = u1 at d1 hK ⊢
                    subst d1
                    have d2 : vals 2 = .int .i64 ((i : Int)) := hd 2 (by kernel_rfl)
                    generalize vals 2 = u2 at d2 hK ⊢
                    subst d2
                    go_simp
                    exact hK.out (.pointer (some ⟨gL, i * 3, none⟩)) _ _ (by kernel_rfl) rfl (Q.refl _)
                  refine JC.o hctx ?_ ?_
                  · intro L vals W hL hJ hd K hK
                    have hN := hJ.q
                    have d3 : vals 3 = .pointer (some ⟨gL, i * 3, none⟩) := hd 3 (by kernel_rfl)
                    generalize vals 3 = u3 at d3 hK ⊢
                    subst d3
                    have z0 : W.cell? ⟨gL, i * 3, none⟩ = some (.bool sE0) := (hE35.q hN).2.1
                    have z1 : W.cell? ⟨gL, i * 3 + 1, none⟩ = some (.slice AE1 kE1 cE1) := (hE35.q hN).2.2.1
                    have z2 : W.cell? ⟨gL, i * 3 + 2, none⟩ = some (.slice AE2 kE2 cE2) := (hE35.q hN).2.2.2
                    go_simp
                    exact hK.out (.agg #[.bool sE0, .slice AE1 kE1 cE1, .slice AE2 kE2 cE2]) _ _ (by kernel_rfl) ((pNum (t)).q vt_35 hN) (Q.refl _)
                  refine JC.ca (fun vals W hN hd hk => (q_Text _ (t) W (hd 4 (by kernel_rfl)) (by have h0 := ZT.out; omega)).mono (by rintro e W9 ⟨t, rfl, ht, hq9⟩; exact ⟨(.string t), rfl, (congrArg Value.string ((str_of ht))), hq9⟩)) hctx ?_
                  refine JC.o hctx ?_ ?_
                  · intro L vals W hL hJ hd K hK
                    have d0 : vals 0 = .string ((ofL (showQ t))) := hd 0 (by kernel_rfl)
                    generalize vals 0 = u0 at d0 hK ⊢
                    subst d0
                    have d5 : vals 5 = .string ((ofL (textQ t))) := hd 5 (by kernel_rfl)
                    generalize vals 5 = u5 at d5 hK ⊢
                    subst d5
                    go_simp
                    rw [show ((ofL (showQ t)).toList == (ofL (textQ t)).toList) = false from by rw [ofL_toList, ofL_toList]; exact beq_eq_false_iff_ne.2 HS.out]
                    exact hK.out (.bool true) _ _ (by kernel_rfl) rfl (Q.refl _)
                  refine JC.p hctx ?_
                  refine JC.p hctx ?_
                  refine JC.p hctx ?_
                  refine JC.p hctx ?_
                  refine JC.p hctx ?_
                  refine JC.ca (fun vals W hN hd hk => (v_slash (ofL (showQ t)) W (show_size t (by have := ZT.out; omega))).mono (by rintro e W9 ⟨rfl, hq9⟩; exact ⟨(.bool (hasSlash (ofL (showQ t)))), rfl, (congrArg Value.bool (decide_eq_false (show_noslash HR.out HS.out))), hq9⟩)) hctx ?_
                  refine JC.p hctx ?_
                  refine JC.p hctx ?_
                  refine JC.p hctx ?_
                  refine JC.p hctx ?_
                  refine JC.p hctx ?_
                  refine JC.p hctx ?_
                  refine JC.l3 (off := 0) hU35 (fun W hN => (Nq.q nU35 hN)) hctx ?_
                  refine JC.p hctx ?_
                  refine JC.p hctx ?_
                  refine JC.o hctx ?_ ?_
                  · intro L vals W hL hJ hd K hK
                    have d20 : vals 20 = .slice (some ⟨gL, 0, none⟩) 3 3 := hd 20 (by kernel_rfl)
                    generalize vals 20 = u20 at d20 hK ⊢
                    subst d20
                    have d21 : vals 21 = .int .i64 ((i : Int)) := hd 21 (by kernel_rfl)
                    generalize vals 21 = u21 at d21 hK ⊢
                    subst d21
                    go_simp
                    exact hK.out (.pointer (some ⟨gL, i * 3, none⟩)) _ _ (by kernel_rfl) rfl (Q.refl _)
                  refine JC.o hctx ?_ ?_
                  · intro L vals W hL hJ hd K hK
                    have hN := hJ.q
                    have d22 : vals 22 = .pointer (some ⟨gL, i * 3, none⟩) := hd 22 (by kernel_rfl)
                    generalize vals 22 = u22 at d22 hK ⊢
                    subst d22
                    have z0 : W.cell? ⟨gL, i * 3, none⟩ = some (.bool sE0) := (hE35.q hN).2.1
                    have z1 : W.cell? ⟨gL, i * 3 + 1, none⟩ = some (.slice AE1 kE1 cE1) := (hE35.q hN).2.2.1
                    have z2 : W.cell? ⟨gL, i * 3 + 2, none⟩ = some (.slice AE2 kE2 cE2) := (hE35.q hN).2.2.2
                    go_simp
                    exact hK.out (.agg #[.bool sE0, .slice AE1 kE1 cE1, .slice AE2 kE2 cE2]) _ _ (by kernel_rfl) ((pNum (t)).q vt_35 hN) (Q.refl _)
                  refine JC.ca (fun vals W hN hd hk => (q_equal _ _ (t) W (hT.q (hG35.trans hN)) (hPx.q (hG35.trans hN)) (hd 19 (by kernel_rfl)) (by rw [show (t : Rat) = t from rfl]; exact (hd 23 (by kernel_rfl))) B54.out).mono (by rintro e W9 ⟨rfl, hq9⟩; exact ⟨(.bool true), rfl, rfl, hq9⟩)) hctx ?_
                  refine JC.p hctx ?_
                  refine JC.p hctx ?_
                  refine JC.p hctx ?_
                  exact Ja.Steps.nil
                intro L vals w36 hall hJ
                clear hAt35
                have hq36 := hJ.q
                have hG36 := hG35.trans hq36
                have hE36 := hE35.q hq36
                have hZ36 := hZ35.q hq36
                have nZ36 := Nq.q nZ35 hq36
                have hU36 := hU35.q hq36
                have nU36 := Nq.q nU35 hq36
                have vt_36 := Nq.q vt_35 hq36
                clear hG35 hE35 hZ35 hU35 nZ35 nU35 vt_35
                have f142 : vals 27 = .bool false := hJ.s 27 (hall 27 (by decide))
                rw [f142]
                clear f142
                clear hall hJ
                go_wp2_with fail
                exact ⟨⟨i + 1, rfl, by omega, ((((((hqr.trans hq31).trans hq32).trans hq33).trans hq34).trans hq35).trans hq36)⟩, by simp [intOf]; omega⟩
            · have HR := Lib.hid hR; clear hR
              have HC : Hid (showQ t = textQ t ∧ (readS (showQ t)).2 = 0 ∧ (readS (showQ t)).1 ≠ 0) := Lib.hid (show_other HR.out)
              obtain ⟨e9, He9⟩ : ∃ z : Int, Hid ((readS (showQ t)).1 = z) := ⟨_, Lib.hid rfl⟩
              have HE9 : Hid (e9 ≠ 0) := Lib.hid (by rw [← He9.out]; exact HC.out.2.2)
              have hAt33 : At0 w33 [{ al := some 5, g := 0, t := 25, ck := [.b, .s, .s], row := .agg #[.bool false, .slice none 0 0, .slice none 0 0], st := 6, src := 3 }] [] w33 := At0.of (Q.refl _) ⟨fun h => (by cases h), trivial⟩ (by simp [Apart0]) trivial
              refine text_cells (F := ?F27) w33 ([.eq (.string ((ofL (showQ t)))), .gen (pT2 (pNum (0)) (pEq (.int .i64 (e9)))), .gen (pT2 (pNum (0)) (pEq (.int .i64 (e9)))), .gen (pNum (0)), .eq (.int .i64 (e9)), .any, .any, .eq (.int .i64 (e9))] : List Vs) _ _ (by kernel_rfl) hAt33 ?hF27 ?st27 ?en27
              case hF27 =>
                intro vals
                simp only [Ja.fillL, Act.put, List.setIfInBounds_toArray, List.set_cons_zero, List.set_cons_succ, Nat.reduceAdd]
                exact rfl
              case st27 =>
                clear hAt33
                intro hctx
                refine JC.p hctx ?_
                refine JC.ca (fun vals W hN hd hk => (q_Read (ofL (showQ t)) W (hT.q (hG33.trans hN)) (hPx.q (hG33.trans hN)) (show_size t (by have := ZT.out; omega))).mono (by rintro e W9 ⟨r, rfl, hr, hq9⟩; exact ⟨(.tuple #[r, .int .i64 (readS ((ofL (showQ t)) : ByteArray).data.toList).1]), rfl, ⟨_, _, rfl, (by have h7 := hr; rw [show (readS (ofL (showQ t)).data.toList).2 = 0 from HC.out.2.1] at h7; exact h7), congrArg (Value.int .i64) He9.out⟩, hq9⟩)) hctx ?_
                refine JC.m 1 hctx ?_
                refine JC.o hctx ?_ ?_
                · intro L vals W hL hJ hd K hK
                  have d2 : (pT2 (pNum (0)) (pEq (.int .i64 (e9)))).p (vals 2) W := hd 2 (by kernel_rfl)
                  generalize vals 2 = u2 at d2 hK ⊢
                  obtain ⟨e0, e1, rfl, he0, he1⟩ := d2
                  go_simp
                  exact hK.out (e0) _ _ (by kernel_rfl) he0 (Q.refl _)
                refine JC.o hctx ?_ ?_
                · intro L vals W hL hJ hd K hK
                  have d2 : (pT2 (pNum (0)) (pEq (.int .i64 (e9)))).p (vals 2) W := hd 2 (by kernel_rfl)
                  generalize vals 2 = u2 at d2 hK ⊢
                  obtain ⟨e0, e1, rfl, he0, he1⟩ := d2
                  obtain rfl : e1 = .int .i64 (e9) := he1
                  go_simp
                  exact hK.out (.int .i64 (e9)) _ _ (by kernel_rfl) rfl (Q.refl _)
                refine Ja.Steps.cons (JC.alloc (n := 0) (cells := [.bool false, .slice none 0 0, .slice none 0 0].toArray) (t := 25) hctx (by kernel_rfl) (by rfl) (by kernel_rfl) (by rfl) (by rfl) (by kernel_rfl) (by rfl) (fun W => NbV.mk (t := 25) (ck := [.b, .s, .s]) (row := [.bool false, .slice none 0 0, .slice none 0 0]) ⟨⟨_, rfl⟩, ⟨_, _, _, rfl⟩, ⟨_, _, _, rfl⟩, trivial⟩ (Bx.new W _ _)) ?_) ?_
                · intro vals W K hK
                  go_simp
                  exact hK.out _ (by kernel_rfl)
                refine JC.s3 (n := 0) rfl fNum hctx ?_
                refine JC.p hctx ?_
                exact Ja.Steps.nil
              intro L vals w34 hall hJ
              clear hAt33
              have hq34 := hJ.q
              have hG34 := hG33.trans hq34
              have hE34 := hE33.q hq34
              have hZ34 := hZ33.q hq34
              have nZ34 := Nq.q nZ33 hq34
              have vt_34 := Nq.q vt_33 hq34
              clear hG33 hE33 hZ33 nZ33 vt_33
              obtain ⟨gU, eU, geU, qU⟩ := hJ.fresh 0 rfl rfl (hall 5 (by decide)) (hall 6 (by decide))
              have nU34 : Nq w34 (vals 3) (0) := hJ.s 3 (hall 3 (by decide))
              have qxU := NbV.ex qU
              obtain ⟨sU0, AU1, kU1, cU1, AU2, kU2, cU2, yU, hU34⟩ := qxU
              change Bx w34 (gU) 25 [.bool sU0, .slice AU1 kU1 cU1, .slice AU2 kU2 cU2] at hU34
              try dsimp only at yU
              rw [yU] at nU34
              clear yU qU
              rw [eU]
              clear eU
              have f16 : vals 7 = .int .i64 (e9) := hJ.s 7 (hall 7 (by decide))
              rw [f16]
              clear f16
              clear hall hJ
              go_upto_region 15 with fail
              have hAt34 : At0 w34 [] [] w34 := At0.of (Q.refl _) trivial (by simp [Apart0]) trivial
              refine region_cells (F := ?F28) w34 ([.eq (.bool true), .eq (.int .i64 (3)), .eq (.bool true), .eq (.bool false), .eq (.bool false), .eq (.bool true), .eq (.bool false), .eq (.bool false), .no, .no, .no, .no, .no, .no, .no, .no, .no, .no, .no, .eq (.bool false), .eq (.bool false)] : List Vs) _ _ (by kernel_rfl) (by kernel_rfl) hAt34 ?hF28 ?st28 ?en28
              case hF28 =>
                intro vals
                simp only [Ja.fillL, Act.put, List.setIfInBounds_toArray, List.set_cons_zero, List.set_cons_succ, Nat.reduceAdd]
                exact rfl
              case st28 =>
                clear hAt34
                intro hctx
                refine JC.p hctx ?_
                refine JC.p hctx ?_
                refine JC.p hctx ?_
                refine JC.o hctx ?_ ?_
                · intro L vals W hL hJ hd K hK
                  have d0 : vals 0 = .bool true := hd 0 (by kernel_rfl)
                  generalize vals 0 = u0 at d0 hK ⊢
                  subst d0
                  have d2 : vals 2 = .bool true := hd 2 (by kernel_rfl)
                  generalize vals 2 = u2 at d2 hK ⊢
                  subst d2
                  go_simp
                  exact hK.out (.bool false) _ _ (by kernel_rfl) rfl (Q.refl _)
                refine JC.p hctx ?_
                refine JC.p hctx ?_
                refine JC.p hctx ?_
                refine JC.p hctx ?_
                refine JC.n hctx ?_
                refine JC.n hctx ?_
                refine JC.n hctx ?_
                refine JC.n hctx ?_
                refine JC.n hctx ?_
                refine JC.n hctx ?_
                refine JC.n hctx ?_
                refine JC.n hctx ?_
                refine JC.n hctx ?_
                refine JC.n hctx ?_
                refine JC.n hctx ?_
                refine JC.p hctx ?_
                refine JC.p hctx ?_
                exact Ja.Steps.nil
              intro L vals w35 hall hJ
              clear hAt34
              have hq35 := hJ.q
              have hG35 := hG34.trans hq35
              have hE35 := hE34.q hq35
              have hZ35 := hZ34.q hq35
              have nZ35 := Nq.q nZ34 hq35
              have hU35 := hU34.q hq35
              have nU35 := Nq.q nU34 hq35
              have vt_35 := Nq.q vt_34 hq35
              clear hG34 hE34 hZ34 hU34 nZ34 nU34 vt_34
              have f114 : vals 20 = .bool false := hJ.s 20 (hall 20 (by decide))
              rw [f114]
              clear f114
              clear hall hJ
              go_upto_region 17 with fail
              have hAt35 : At0 w35 [] [] w35 := At0.of (Q.refl _) trivial (by simp [Apart0]) trivial
              refine region_cells (F := ?F29) w35 ([.eq (.string ((ofL (showQ t)))), .eq (.slice (some ⟨gL, 0, none⟩) 3 3), .eq (.int .i64 ((i : Int))), .eq (.pointer (some ⟨gL, i * 3, none⟩)), .gen (pNum (t)), .eq (.string ((ofL (textQ t)))), .eq (.bool false), .eq (.bool false), .no, .no, .no, .no, .no, .no, .eq (.bool false), .eq (.bool false), .eq (.int .i64 (e9)), .eq (.bool false), .eq (.bool false), .no, .no, .no, .no, .no, .no, .no, .eq (.bool false), .eq (.bool false)] : List Vs) _ _ (by kernel_rfl) (by kernel_rfl) hAt35 ?hF29 ?st29 ?en29
              case hF29 =>
                intro vals
                simp only [Ja.fillL, Act.put, List.setIfInBounds_toArray, List.set_cons_zero, List.set_cons_succ, Nat.reduceAdd]
                exact rfl
              case st29 =>
                clear hAt35
                intro hctx
                refine JC.p hctx ?_
                refine JC.p hctx ?_
                refine JC.p hctx ?_
                refine JC.o hctx ?_ ?_
                · intro L vals W hL hJ hd K hK
                  have d1 : vals 1 = .slice (some ⟨gL, 0, none⟩) 3 3 := hd 1 (by kernel_rfl)
                  generalize vals 1 = u1 at d1 hK ⊢
                  subst d1
                  have d2 : vals 2 = .int .i64 ((i : Int)) := hd 2 (by kernel_rfl)
                  generalize vals 2 = u2 at d2 hK ⊢
                  subst d2
                  go_simp
                  exact hK.out (.pointer (some ⟨gL, i * 3, none⟩)) _ _ (by kernel_rfl) rfl (Q.refl _)
                refine JC.o hctx ?_ ?_
                · intro L vals W hL hJ hd K hK
                  have hN := hJ.q
                  have d3 : vals 3 = .pointer (some ⟨gL, i * 3, none⟩) := hd 3 (by kernel_rfl)
                  generalize vals 3 = u3 at d3 hK ⊢
                  subst d3
                  have z0 : W.cell? ⟨gL, i * 3, none⟩ = some (.bool sE0) := (hE35.q hN).2.1
                  have z1 : W.cell? ⟨gL, i * 3 + 1, none⟩ = some (.slice AE1 kE1 cE1) := (hE35.q hN).2.2.1
                  have z2 : W.cell? ⟨gL, i * 3 + 2, none⟩ = some (.slice AE2 kE2 cE2) := (hE35.q hN).2.2.2
                  go_simp
                  exact hK.out (.agg #[.bool sE0, .slice AE1 kE1 cE1, .slice AE2 kE2 cE2]) _ _ (by kernel_rfl) ((pNum (t)).q vt_35 hN) (Q.refl _)
                refine JC.ca (fun vals W hN hd hk => (q_Text _ (t) W (hd 4 (by kernel_rfl)) (by have h0 := ZT.out; omega)).mono (by rintro e W9 ⟨t, rfl, ht, hq9⟩; exact ⟨(.string t), rfl, (congrArg Value.string ((str_of ht))), hq9⟩)) hctx ?_
                refine JC.o hctx ?_ ?_
                · intro L vals W hL hJ hd K hK
                  have d0 : vals 0 = .string ((ofL (showQ t))) := hd 0 (by kernel_rfl)
                  generalize vals 0 = u0 at d0 hK ⊢
                  subst d0
                  have d5 : vals 5 = .string ((ofL (textQ t))) := hd 5 (by kernel_rfl)
                  generalize vals 5 = u5 at d5 hK ⊢
                  subst d5
                  go_simp
                  rw [show ((ofL (showQ t)).toList == (ofL (textQ t)).toList) = true from by rw [ofL_toList, ofL_toList]; exact beq_iff_eq.2 HC.out.1]
                  exact hK.out (.bool false) _ _ (by kernel_rfl) rfl (Q.refl _)
                refine JC.p hctx ?_
                refine JC.n hctx ?_
                refine JC.n hctx ?_
                refine JC.n hctx ?_
                refine JC.n hctx ?_
                refine JC.n hctx ?_
                refine JC.n hctx ?_
                refine JC.p hctx ?_
                refine JC.p hctx ?_
                refine JC.p hctx ?_
                refine JC.u (.bool ((e9) == (0))) (congrArg Value.bool (beq_eq_false_iff_ne.2 (HE9.out))) hctx ?_
                refine JC.p hctx ?_
                refine JC.n hctx ?_
                refine JC.n hctx ?_
                refine JC.n hctx ?_
                refine JC.n hctx ?_
                refine JC.n hctx ?_
                refine JC.n hctx ?_
                refine JC.n hctx ?_
                refine JC.p hctx ?_
                refine JC.p hctx ?_
                exact Ja.Steps.nil
              intro L vals w36 hall hJ
              clear hAt35
              have hq36 := hJ.q
              have hG36 := hG35.trans hq36
              have hE36 := hE35.q hq36
              have hZ36 := hZ35.q hq36
              have nZ36 := Nq.q nZ35 hq36
              have hU36 := hU35.q hq36
              have nU36 := Nq.q nU35 hq36
              have vt_36 := Nq.q vt_35 hq36
              clear hG35 hE35 hZ35 hU35 nZ35 nU35 vt_35
              have f142 : vals 27 = .bool false := hJ.s 27 (hall 27 (by decide))
              rw [f142]
              clear f142
              clear hall hJ
              go_wp2_with fail
              exact ⟨⟨i + 1, rfl, by omega, ((((((hqr.trans hq31).trans hq32).trans hq33).trans hq34).trans hq35).trans hq36)⟩, by simp [intOf]; omega⟩
        · have h1 : ¬ (i : Int) < 3 := by omega
          have hG90 := hGr
          generalize wr = w90 at *
          clear HEL hGr hqr hi hp
          go_upto_region 19 with fail
          have hAt90 : At0 w90 [] [] w90 := At0.of (Q.refl _) trivial (by simp [Apart0]) trivial
          refine text_cells (F := ?F30) w90 ([.eq (.bool true), .eq (.bool true)] : List Vs) _ _ (by kernel_rfl) hAt90 ?hF30 ?st30 ?en30
          case hF30 =>
            intro vals
            simp only [Ja.fillL, Act.put, List.setIfInBounds_toArray, List.set_cons_zero, List.set_cons_succ, Nat.reduceAdd]
            exact rfl
          case st30 =>
            clear hAt90
            intro hctx
            refine JC.ca (fun vals W hN hd hk => (q_Awake W (hT.q (hG90.trans hN)) (hPx.q (hG90.trans hN))).mono (by rintro e W9 ⟨rfl, hq9⟩; exact ⟨(.bool true), rfl, rfl, hq9⟩)) hctx ?_
            refine JC.p hctx ?_
            exact Ja.Steps.nil
          intro L vals w91 hall hJ
          clear hAt90
          have hq91 := hJ.q
          have hG91 := hG90.trans hq91
          clear hG90 
          have f4 : vals 1 = .bool true := hJ.s 1 (hall 1 (by decide))
          rw [f4]
          clear f4
          clear hall hJ
          go_wp2_with fail
          go_ret
          exact ⟨ret_bool rfl, by rw [← hw0]; exact hG91⟩
    · have HB0 := Lib.hid hB0; clear hB0
      have hAt2 : At0 w2 [] [] w2 := At0.of (Q.refl _) trivial (by simp [Apart0]) trivial
      refine text_cells (F := ?F31) w2 ([.eq (.int .i64 (ca)), .eq (.bool false), .eq (.bool false), .eq (.int .i64 (cb)), .eq (.bool true), .eq (.bool true)] : List Vs) _ _ (by kernel_rfl) hAt2 ?hF31 ?st31 ?en31
      case hF31 =>
        intro vals
        simp only [Ja.fillL, Act.put, List.setIfInBounds_toArray, List.set_cons_zero, List.set_cons_succ, Nat.reduceAdd]
        exact rfl
      case st31 =>
        clear hAt2
        intro hctx
        refine JC.p hctx ?_
        refine JC.u (.bool (!((ca) == (0)))) (congrArg Value.bool (bne_eq_false_iff_eq.2 (HA0.out))) hctx ?_
        refine JC.p hctx ?_
        refine JC.p hctx ?_
        refine JC.u (.bool (!((cb) == (0)))) (congrArg Value.bool (bne_iff_ne.2 (HB0.out))) hctx ?_
        refine JC.p hctx ?_
        exact Ja.Steps.nil
      intro L vals w3 hall hJ
      clear hAt2
      have hq3 := hJ.q
      have hG3 := hG2.trans hq3
      have hX3 := hX2.q hq3
      have nX3 := Nq.q nX2 hq3
      have hY3 := hY2.q hq3
      have nY3 := Nq.q nY2 hq3
      clear hG2 hX2 hY2 nX2 nY2
      have f32 : vals 5 = .bool true := hJ.s 5 (hall 5 (by decide))
      rw [f32]
      clear f32
      clear hall hJ
      go_upto_region 4 with fail
      have hAt3 : At0 w3 [] [] w3 := At0.of (Q.refl _) trivial (by simp [Apart0]) trivial
      refine text_cells (F := ?F32) w3 ([.eq (.bool true), .eq (.bool true)] : List Vs) _ _ (by kernel_rfl) hAt3 ?hF32 ?st32 ?en32
      case hF32 =>
        intro vals
        simp only [Ja.fillL, Act.put, List.setIfInBounds_toArray, List.set_cons_zero, List.set_cons_succ, Nat.reduceAdd]
        exact rfl
      case st32 =>
        clear hAt3
        intro hctx
        refine JC.ca (fun vals W hN hd hk => (q_Awake W (hT.q (hG3.trans hN)) (hPx.q (hG3.trans hN))).mono (by rintro e W9 ⟨rfl, hq9⟩; exact ⟨(.bool true), rfl, rfl, hq9⟩)) hctx ?_
        refine JC.p hctx ?_
        exact Ja.Steps.nil
      intro L vals w4 hall hJ
      clear hAt3
      have hq4 := hJ.q
      have hG4 := hG3.trans hq4
      have hX4 := hX3.q hq4
      have nX4 := Nq.q nX3 hq4
      have hY4 := hY3.q hq4
      have nY4 := Nq.q nY3 hq4
      clear hG3 hX3 hY3 nX3 nY3
      have f4 : vals 1 = .bool true := hJ.s 1 (hall 1 (by decide))
      rw [f4]
      clear f4
      clear hall hJ
      go_wp2_with fail
      go_ret
      exact ⟨ret_bool rfl, by rw [← hw0]; exact hG4⟩
  · have HA0 := Lib.hid hA0; clear hA0
    have hAt2 : At0 w2 [] [] w2 := At0.of (Q.refl _) trivial (by simp [Apart0]) trivial
    refine text_cells (F := ?F33) w2 ([.eq (.int .i64 (ca)), .eq (.bool true), .eq (.bool true), .no, .no, .eq (.bool true)] : List Vs) _ _ (by kernel_rfl) hAt2 ?hF33 ?st33 ?en33
    case hF33 =>
      intro vals
      simp only [Ja.fillL, Act.put, List.setIfInBounds_toArray, List.set_cons_zero, List.set_cons_succ, Nat.reduceAdd]
      exact rfl
    case st33 =>
      clear hAt2
      intro hctx
      refine JC.p hctx ?_
      refine JC.u (.bool (!((ca) == (0)))) (congrArg Value.bool (bne_iff_ne.2 (HA0.out))) hctx ?_
      refine JC.p hctx ?_
      refine JC.n hctx ?_
      refine JC.n hctx ?_
      refine JC.p hctx ?_
      exact Ja.Steps.nil
    intro L vals w3 hall hJ
    clear hAt2
    have hq3 := hJ.q
    have hG3 := hG2.trans hq3
    have hX3 := hX2.q hq3
    have nX3 := Nq.q nX2 hq3
    have hY3 := hY2.q hq3
    have nY3 := Nq.q nY2 hq3
    clear hG2 hX2 hY2 nX2 nY2
    have f32 : vals 5 = .bool true := hJ.s 5 (hall 5 (by decide))
    rw [f32]
    clear f32
    clear hall hJ
    go_upto_region 4 with fail
    have hAt3 : At0 w3 [] [] w3 := At0.of (Q.refl _) trivial (by simp [Apart0]) trivial
    refine text_cells (F := ?F34) w3 ([.eq (.bool true), .eq (.bool true)] : List Vs) _ _ (by kernel_rfl) hAt3 ?hF34 ?st34 ?en34
    case hF34 =>
      intro vals
      simp only [Ja.fillL, Act.put, List.setIfInBounds_toArray, List.set_cons_zero, List.set_cons_succ, Nat.reduceAdd]
      exact rfl
    case st34 =>
      clear hAt3
      intro hctx
      refine JC.ca (fun vals W hN hd hk => (q_Awake W (hT.q (hG3.trans hN)) (hPx.q (hG3.trans hN))).mono (by rintro e W9 ⟨rfl, hq9⟩; exact ⟨(.bool true), rfl, rfl, hq9⟩)) hctx ?_
      refine JC.p hctx ?_
      exact Ja.Steps.nil
    intro L vals w4 hall hJ
    clear hAt3
    have hq4 := hJ.q
    have hG4 := hG3.trans hq4
    have hX4 := hX3.q hq4
    have nX4 := Nq.q nX3 hq4
    have hY4 := hY3.q hq4
    have nY4 := Nq.q nY3 hq4
    clear hG3 hX3 hY3 nX3 nY3
    have f4 : vals 1 = .bool true := hJ.s 1 (hall 1 (by decide))
    rw [f4]
    clear f4
    clear hall hJ
    go_wp2_with fail
    go_ret
    exact ⟨ret_bool rfl, by rw [← hw0]; exact hG4⟩
end Go.Proofs.YtgokbhikgdhmpaaGreatDoor.K
