/- Laws of values (P1.7, P1.8), each for every three strings; no condition. Part of the proof: texts Jb2. -/
import Derived.Test.YtimdddpfoagbjaaGreatDoorQa22
namespace Go.Proofs.YtimdddpfoagbjaaGreatDoor
open Go.RowKit
open Ma Me
def ofL (l : List UInt8) : ByteArray := ⟨l.toArray⟩
theorem str_of {t : ByteArray} {l : List UInt8} (h : t.data.toList = l) : t = ofL l := by
  unfold ofL
  rw [← h]
set_option maxRecDepth 100000 in
set_option maxHeartbeats 2000000 in
theorem q_equal (x y : Value) (p : Rat) (w : World) (hT : Tb w) (hPx : Px w) (hx : Nq w x p) (hy : Nq w y p) (hB : 2000 * sz p + 500000 ≤ LIM) : Calls Tryz.prog 96 #[x, y] w fun e w' => e = .returned (.bool true) ∧ Q w w' := by
  obtain ⟨s1, A1, n1, c1, A2, n2, c2, rfl, E1, Z1, O1, hxt, hxb⟩ := hx.form
  obtain ⟨s2, A3, n3, c3, A4, n4, c4, rfl, E2, Z2, O2, hyt, hyb⟩ := hy.form
  obtain ⟨w0, hW, hG0, hX0, hY0⟩ := boxes2 w s1 (.slice A1 n1 c1) (.slice A2 n2 c2) s2 (.slice A3 n3 c3) (.slice A4 n4 c4)
  have Z0 : Hid (sz p ≤ 549755563) := Lib.hid (by rw [LIM_eq] at hB; omega)
  clear hB
  have nX0 := hx.q hG0; have nY0 := hy.q hG0
  obtain ⟨x0, x1, x2⟩ := hX0.cells
  obtain ⟨y0, y1, y2⟩ := hY0.cells
  go_enter Tryz.func96, Tryz.ntmps96
  go_wp2_with fail
  clear hW
  have B1 : Hid (64 * (sz (p) + sz (p)) + 400 ≤ LIM) := Lib.hid (by have h0 := Z0.out; have h1 := Z0.out; rw [LIM_eq]; omega)
  have B2 : Hid (2000 * (sz (p)) + 500000 ≤ LIM) := Lib.hid (by have h0 := Z0.out; rw [LIM_eq]; omega)
  have B3 : Hid (2000 * (sz (p)) + 500000 ≤ LIM) := Lib.hid (by have h0 := Z0.out; rw [LIM_eq]; omega)
  clear x0 x1 x2 y0 y1 y2
  refine region_each (F := ?F1) ([.num (p), .num (p), .eq (.int .i64 (0)), .eq (.bool true), .eq (.bool true), .num (p), .eq (.string (ofL (textQ (p)))), .num (p), .eq (.string (ofL (textQ (p)))), .eq (.bool true), .eq (.bool true), .eq (.bool true), .num (p), .eq (.string (ofL (showQ (p)))), .num (p), .eq (.string (ofL (showQ (p)))), .eq (.bool true), .eq (.bool true), .eq (.bool true)] : List Vs) (by kernel_rfl) (by kernel_rfl) ?hF1 ?st1 ?en1
  case hF1 =>
    intro vals
    simp only [Ja.fillL, Act.put, List.setIfInBounds_toArray, List.set_cons_zero, List.set_cons_succ, Nat.reduceAdd]
    exact rfl
  case st1 =>
    intro hctx
    refine Ja.Steps.cons (Each.yes hctx (by rfl) (by kernel_rfl) ?_) ?_
    · intro vals W hM hd K hK
      have hN : Q w0 W := (Q.refl _).drew.trans hM
      have hQ := hG0.trans hN
      obtain ⟨z0, z1, z2⟩ := (hX0.q hN).cells
      go_simp
      exact hK.out (.agg #[.bool s1, .slice A1 n1 c1, .slice A2 n2 c2]) _ _ (by kernel_rfl) (nX0.q hN) (Q.refl _)
    refine Ja.Steps.cons (Each.yes hctx (by rfl) (by kernel_rfl) ?_) ?_
    · intro vals W hM hd K hK
      have hN : Q w0 W := (Q.refl _).drew.trans hM
      have hQ := hG0.trans hN
      obtain ⟨z0, z1, z2⟩ := (hY0.q hN).cells
      go_simp
      exact hK.out (.agg #[.bool s2, .slice A3 n3 c3, .slice A4 n4 c4]) _ _ (by kernel_rfl) (nY0.q hN) (Q.refl _)
    refine Ja.Steps.cons (Each.yes hctx (by rfl) (by kernel_rfl) ?_) ?_
    · intro vals W hM hd K hK
      have hN : Q w0 W := (Q.refl _).drew.trans hM
      have hQ := hG0.trans hN
      have d0 : Nq W (vals 0) (p) := hd 0 (by kernel_rfl)
      have d1 : Nq W (vals 1) (p) := hd 1 (by kernel_rfl)
      go_simp
      (with_reducible refine (q_Cmp _ _ (p) (p) W d0 d1 B1.out).mono ?_)
      rintro e W9 ⟨rfl, hq9⟩
      exact hK.out (.int .i64 (rc (p) (p))) W9 _ (by kernel_rfl) (congrArg (Value.int .i64) (rc_eq (p))) hq9
    refine Ja.Steps.cons (Each.yes hctx (by rfl) (by kernel_rfl) ?_) ?_
    · intro vals W hM hd K hK
      have hN : Q w0 W := (Q.refl _).drew.trans hM
      have hQ := hG0.trans hN
      have d2 : vals 2 = .int .i64 (0) := hd 2 (by kernel_rfl)
      generalize vals 2 = u2 at d2 hK ⊢
      subst d2
      go_simp
      exact hK.out (.bool true) _ _ (by kernel_rfl) rfl (Q.refl _)
    refine Ja.Steps.cons (Each.yes hctx (by rfl) (by kernel_rfl) ?_) ?_
    · intro vals W hM hd K hK
      have hN : Q w0 W := (Q.refl _).drew.trans hM
      have hQ := hG0.trans hN
      have d3 : vals 3 = .bool true := hd 3 (by kernel_rfl)
      generalize vals 3 = u3 at d3 hK ⊢
      subst d3
      go_simp
      exact hK.out (.bool true) _ _ (by kernel_rfl) rfl (Q.refl _)
    refine Ja.Steps.cons (Each.yes hctx (by rfl) (by kernel_rfl) ?_) ?_
    · intro vals W hM hd K hK
      have hN : Q w0 W := (Q.refl _).drew.trans hM
      have hQ := hG0.trans hN
      obtain ⟨z0, z1, z2⟩ := (hX0.q hN).cells
      go_simp
      exact hK.out (.agg #[.bool s1, .slice A1 n1 c1, .slice A2 n2 c2]) _ _ (by kernel_rfl) (nX0.q hN) (Q.refl _)
    refine Ja.Steps.cons (Each.yes hctx (by rfl) (by kernel_rfl) ?_) ?_
    · intro vals W hM hd K hK
      have hN : Q w0 W := (Q.refl _).drew.trans hM
      have hQ := hG0.trans hN
      have d5 : Nq W (vals 5) (p) := hd 5 (by kernel_rfl)
      go_simp
      (with_reducible refine (q_Text _ (p) W d5 (by have h0 := Z0.out; omega)).mono ?_)
      rintro e W9 ⟨t, rfl, ht, hq9⟩
      exact hK.out (.string t) W9 _ (by kernel_rfl) (congrArg Value.string (str_of ht)) hq9
    refine Ja.Steps.cons (Each.yes hctx (by rfl) (by kernel_rfl) ?_) ?_
    · intro vals W hM hd K hK
      have hN : Q w0 W := (Q.refl _).drew.trans hM
      have hQ := hG0.trans hN
      obtain ⟨z0, z1, z2⟩ := (hY0.q hN).cells
      go_simp
      exact hK.out (.agg #[.bool s2, .slice A3 n3 c3, .slice A4 n4 c4]) _ _ (by kernel_rfl) (nY0.q hN) (Q.refl _)
    refine Ja.Steps.cons (Each.yes hctx (by rfl) (by kernel_rfl) ?_) ?_
    · intro vals W hM hd K hK
      have hN : Q w0 W := (Q.refl _).drew.trans hM
      have hQ := hG0.trans hN
      have d7 : Nq W (vals 7) (p) := hd 7 (by kernel_rfl)
      go_simp
      (with_reducible refine (q_Text _ (p) W d7 (by have h0 := Z0.out; omega)).mono ?_)
      rintro e W9 ⟨t, rfl, ht, hq9⟩
      exact hK.out (.string t) W9 _ (by kernel_rfl) (congrArg Value.string (str_of ht)) hq9
    refine Ja.Steps.cons (Each.yes hctx (by rfl) (by kernel_rfl) ?_) ?_
    · intro vals W hM hd K hK
      have hN : Q w0 W := (Q.refl _).drew.trans hM
      have hQ := hG0.trans hN
      have d6 : vals 6 = .string (ofL (textQ (p))) := hd 6 (by kernel_rfl)
      generalize vals 6 = u6 at d6 hK ⊢
      subst d6
      have d8 : vals 8 = .string (ofL (textQ (p))) := hd 8 (by kernel_rfl)
      generalize vals 8 = u8 at d8 hK ⊢
      subst d8
      go_simp
      exact hK.out (.bool true) _ _ (by kernel_rfl) rfl (Q.refl _)
    refine Ja.Steps.cons (Each.yes hctx (by rfl) (by kernel_rfl) ?_) ?_
    · intro vals W hM hd K hK
      have hN : Q w0 W := (Q.refl _).drew.trans hM
      have hQ := hG0.trans hN
      have d4 : vals 4 = .bool true := hd 4 (by kernel_rfl)
      generalize vals 4 = u4 at d4 hK ⊢
      subst d4
      have d9 : vals 9 = .bool true := hd 9 (by kernel_rfl)
      generalize vals 9 = u9 at d9 hK ⊢
      subst d9
      go_simp
      exact hK.out (.bool true) _ _ (by kernel_rfl) rfl (Q.refl _)
    refine Ja.Steps.cons (Each.yes hctx (by rfl) (by kernel_rfl) ?_) ?_
    · intro vals W hM hd K hK
      have hN : Q w0 W := (Q.refl _).drew.trans hM
      have hQ := hG0.trans hN
      have d10 : vals 10 = .bool true := hd 10 (by kernel_rfl)
      generalize vals 10 = u10 at d10 hK ⊢
      subst d10
      go_simp
      exact hK.out (.bool true) _ _ (by kernel_rfl) rfl (Q.refl _)
    refine Ja.Steps.cons (Each.yes hctx (by rfl) (by kernel_rfl) ?_) ?_
    · intro vals W hM hd K hK
      have hN : Q w0 W := (Q.refl _).drew.trans hM
      have hQ := hG0.trans hN
      obtain ⟨z0, z1, z2⟩ := (hX0.q hN).cells
      go_simp
      exact hK.out (.agg #[.bool s1, .slice A1 n1 c1, .slice A2 n2 c2]) _ _ (by kernel_rfl) (nX0.q hN) (Q.refl _)
    refine Ja.Steps.cons (Each.yes hctx (by rfl) (by kernel_rfl) ?_) ?_
    · intro vals W hM hd K hK
      have hN : Q w0 W := (Q.refl _).drew.trans hM
      have hQ := hG0.trans hN
      have d12 : Nq W (vals 12) (p) := hd 12 (by kernel_rfl)
      go_simp
      (with_reducible refine (q_Show _ (p) W (hT.q hQ) (hPx.q hQ) d12 B2.out).mono ?_)
      rintro e W9 ⟨t, rfl, ht, hq9⟩
      exact hK.out (.string t) W9 _ (by kernel_rfl) (congrArg Value.string (str_of ht)) hq9
    refine Ja.Steps.cons (Each.yes hctx (by rfl) (by kernel_rfl) ?_) ?_
    · intro vals W hM hd K hK
      have hN : Q w0 W := (Q.refl _).drew.trans hM
      have hQ := hG0.trans hN
      obtain ⟨z0, z1, z2⟩ := (hY0.q hN).cells
      go_simp
      exact hK.out (.agg #[.bool s2, .slice A3 n3 c3, .slice A4 n4 c4]) _ _ (by kernel_rfl) (nY0.q hN) (Q.refl _)
    refine Ja.Steps.cons (Each.yes hctx (by rfl) (by kernel_rfl) ?_) ?_
    · intro vals W hM hd K hK
      have hN : Q w0 W := (Q.refl _).drew.trans hM
      have hQ := hG0.trans hN
      have d14 : Nq W (vals 14) (p) := hd 14 (by kernel_rfl)
      go_simp
      (with_reducible refine (q_Show _ (p) W (hT.q hQ) (hPx.q hQ) d14 B3.out).mono ?_)
      rintro e W9 ⟨t, rfl, ht, hq9⟩
      exact hK.out (.string t) W9 _ (by kernel_rfl) (congrArg Value.string (str_of ht)) hq9
    refine Ja.Steps.cons (Each.yes hctx (by rfl) (by kernel_rfl) ?_) ?_
    · intro vals W hM hd K hK
      have hN : Q w0 W := (Q.refl _).drew.trans hM
      have hQ := hG0.trans hN
      have d13 : vals 13 = .string (ofL (showQ (p))) := hd 13 (by kernel_rfl)
      generalize vals 13 = u13 at d13 hK ⊢
      subst d13
      have d15 : vals 15 = .string (ofL (showQ (p))) := hd 15 (by kernel_rfl)
      generalize vals 15 = u15 at d15 hK ⊢
      subst d15
      go_simp
      exact hK.out (.bool true) _ _ (by kernel_rfl) rfl (Q.refl _)
    refine Ja.Steps.cons (Each.yes hctx (by rfl) (by kernel_rfl) ?_) ?_
    · intro vals W hM hd K hK
      have hN : Q w0 W := (Q.refl _).drew.trans hM
      have hQ := hG0.trans hN
      have d11 : vals 11 = .bool true := hd 11 (by kernel_rfl)
      generalize vals 11 = u11 at d11 hK ⊢
      subst d11
      have d16 : vals 16 = .bool true := hd 16 (by kernel_rfl)
      generalize vals 16 = u16 at d16 hK ⊢
      subst d16
      go_simp
      exact hK.out (.bool true) _ _ (by kernel_rfl) rfl (Q.refl _)
    refine Ja.Steps.cons (Each.yes hctx (by rfl) (by kernel_rfl) ?_) ?_
    · intro vals W hM hd K hK
      have hN : Q w0 W := (Q.refl _).drew.trans hM
      have hQ := hG0.trans hN
      have d17 : vals 17 = .bool true := hd 17 (by kernel_rfl)
      generalize vals 17 = u17 at d17 hK ⊢
      subst d17
      go_simp
      exact hK.out (.bool true) _ _ (by kernel_rfl) rfl (Q.refl _)
    exact Ja.Steps.nil
  intro vals w1 hq1 hall
  have hG1 := hG0.trans hq1
  have hX1 := hX0.q hq1
  have nX1 := nX0.q hq1
  have hY1 := hY0.q hq1
  have nY1 := nY0.q hq1
  have f4 : vals 18 = .bool true := hall 18 (by decide)
  rw [f4]
  clear hall hq1 hG0 hX0 hY0 nX0 nY0
  go_wp2_with fail
  go_ret
  exact ⟨ret_bool rfl, hG1⟩
end Go.Proofs.YtimdddpfoagbjaaGreatDoor
