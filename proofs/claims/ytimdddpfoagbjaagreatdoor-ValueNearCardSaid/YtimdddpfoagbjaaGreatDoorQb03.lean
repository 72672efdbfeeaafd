/- ValueNear (P1.10) for every string and every uint16; no condition. Part of the proof: texts Je3. -/
import Derived.Deep.RegionHeld
import Derived.Test.YtimdddpfoagbjaaGreatDoorQa01
import Derived.Test.YtimdddpfoagbjaaGreatDoorQa02
import Derived.Test.YtimdddpfoagbjaaGreatDoorQa03
import Derived.Test.YtimdddpfoagbjaaGreatDoorQa04
import Derived.Test.YtimdddpfoagbjaaGreatDoorQa05
import Derived.Test.YtimdddpfoagbjaaGreatDoorQa06
import Derived.Test.YtimdddpfoagbjaaGreatDoorQa07
import Derived.Test.YtimdddpfoagbjaaGreatDoorQa08
import Derived.Test.YtimdddpfoagbjaaGreatDoorQa09
import Derived.Test.YtimdddpfoagbjaaGreatDoorQa10
import Derived.Test.YtimdddpfoagbjaaGreatDoorQa11
import Derived.Test.YtimdddpfoagbjaaGreatDoorQa12
import Derived.Test.YtimdddpfoagbjaaGreatDoorQa13
import Derived.Test.YtimdddpfoagbjaaGreatDoorQa14
import Derived.Test.YtimdddpfoagbjaaGreatDoorQa15
import Derived.Test.YtimdddpfoagbjaaGreatDoorQa16
import Derived.Test.YtimdddpfoagbjaaGreatDoorQa17
import Derived.Test.YtimdddpfoagbjaaGreatDoorQa18
import Derived.Test.YtimdddpfoagbjaaGreatDoorQa19
import Derived.Test.YtimdddpfoagbjaaGreatDoorQa20
import Derived.Test.YtimdddpfoagbjaaGreatDoorQa21
import Derived.Test.YtimdddpfoagbjaaGreatDoorQa22
import Derived.Test.YtimdddpfoagbjaaGreatDoorQa23
import Derived.Test.YtimdddpfoagbjaaGreatDoorQa24
import Derived.Test.YtimdddpfoagbjaaGreatDoorQa25
import Derived.Test.YtimdddpfoagbjaaGreatDoorQa26
import Derived.Test.YtimdddpfoagbjaaGreatDoorQa27
import Derived.Test.YtimdddpfoagbjaaGreatDoorQa29
import Derived.Test.YtimdddpfoagbjaaGreatDoorQb02
namespace Go.Proofs.YtimdddpfoagbjaaGreatDoor
open Go.RowKit
open Ma Me
theorem wrap_m {m : Nat} (h : 0 < m ∧ m ≤ 200) : IntKind.i64.wrap ((m : Int) + 1) = (m : Int) + 1 := by
  rw [IntKind.wrap_i64]
  omega
theorem near_n (b : Nat) : 0 < 1 + b % 200 ∧ 1 + b % 200 ≤ 200 := by omega
theorem bits_n {m : Nat} (h : 0 < m ∧ m ≤ 200) : bitsN (m : Int) = m := by unfold bitsN; split <;> (try split) <;> omega
theorem bits_n1 {m : Nat} (h : 0 < m ∧ m ≤ 200) : bitsN ((m : Int) + 1) = m + 1 := by unfold bitsN; split <;> (try split) <;> omega
set_option maxRecDepth 100000 in
set_option maxHeartbeats 8000000 in
theorem q_ValueNear (a : ByteArray) (b : Nat) (w : World) (hT : Tb w) (hPx : Px w) (ha : a.size ≤ 9223372036854775806) (hbb : b ≤ 65535) : Calls Tryz.prog 13 #[.string a, .int .u16 (b : Int)] w fun e w' => e = .returned (.bool true) ∧ Q w w' := by
  obtain ⟨w0, hw0, hG0⟩ : ∃ x, w = x ∧ Q w x := ⟨w, rfl, Q.refl w⟩
  rw [hw0]
  obtain ⟨p, hp⟩ : ∃ x, (parseS a.data.toList).2 = x := ⟨_, rfl⟩
  have HP := Lib.hid hp; clear hp
  obtain ⟨er, her⟩ : ∃ x, (parseS a.data.toList).1 = x := ⟨_, rfl⟩
  have HER := Lib.hid her; clear her
  have Z1 : Hid (sz p ≤ 2000) := Lib.hid (by rw [← HP.out]; exact parse_sz' _)
  obtain ⟨m, hm⟩ : ∃ m, 1 + b % 200 = m := ⟨_, rfl⟩
  have hm0 := near_n b; rw [hm] at hm0
  have hr1 : ((b : Int)).tmod 200 = ((b % 200 : Nat) : Int) := rfl
  have hr2 : (1 : Int) + ((b % 200 : Nat) : Int) = (m : Int) := by omega
  have hr3 : (1 : Int) + (b : Int) % 200 = (m : Int) := by omega
  have hb0 : (0 : Int) ≤ (b : Int) := by omega
  have hb1 : (b : Int) ≤ 65535 := by omega
  go_enter Tryz.func13, Tryz.ntmps13
  go_upto_region 1 with fail
  have hAt0 : At0 w [{ al := some 5, g := 0, big := false, row := .agg #[.bool false, .slice none 0 0, .slice none 0 0], st := 6, src := 3 }] [] w0 := At0.of hG0 ⟨fun h => (by cases h), trivial⟩ (by (simp [Apart0] <;> omega)) trivial
  clear hG0 
  refine text_cells (F := ?F2) w ([.eq (.string (a)), .pair (p) (er), .pair (p) (er), .num (p), .eq (.int .i64 (er)), .any, .any, .eq (.int .i64 (er))] : List Vs) _ _ (by kernel_rfl) hAt0 ?hF2 ?st2 ?en2
  case hF2 =>
    intro vals
    simp only [Ja.fillL, Act.put, List.setIfInBounds_toArray, List.set_cons_zero, List.set_cons_succ, Nat.reduceAdd]
    exact rfl
  case st2 =>
    clear hAt0
    intro hctx
    refine Ja.Steps.cons (JC.other hctx (by kernel_rfl) (by rfl) (by kernel_rfl) (by kernel_rfl) ?_) ?_
    · intro L vals W hL hJ hd K hK
      have hQ := hJ.q
      go_simp
      exact hK.out (.string (a)) _ _ (by kernel_rfl) rfl (Q.refl _)
    refine Ja.Steps.cons (JC.other hctx (by kernel_rfl) (by rfl) (by kernel_rfl) (by kernel_rfl) ?_) ?_
    · intro L vals W hL hJ hd K hK
      have hQ := hJ.q
      have d0 : vals 0 = .string (a) := hd 0 (by kernel_rfl)
      generalize vals 0 = u0 at d0 hK ⊢
      subst d0
      go_simp
      (with_reducible refine (q_Parse a W (hT.q hQ) ha).mono ?_)
      rintro e W9 ⟨r, rfl, hr, hq9⟩
      exact hK.out (.tuple #[r, .int .i64 (parseS a.data.toList).1]) W9 _ (by kernel_rfl) ⟨r, by rw [show ((parseS a.data.toList).1 : Int) = er from HER.out], by have h7 := hr; rw [show ((parseS a.data.toList).2 : Rat) = p from HP.out] at h7; exact h7⟩ hq9
    refine Ja.Steps.cons (JC.other hctx (by kernel_rfl) (by rfl) (by kernel_rfl) (by kernel_rfl) ?_) ?_
    · intro L vals W hL hJ hd K hK
      have hQ := hJ.q
      have d1 : ∃ r, vals 1 = .tuple #[r, .int .i64 (er)] ∧ Nq W r (p) := hd 1 (by kernel_rfl)
      go_simp
      exact hK.out (vals 1) _ _ (by kernel_rfl) d1 (Q.refl _)
    refine Ja.Steps.cons (JC.other hctx (by kernel_rfl) (by rfl) (by kernel_rfl) (by kernel_rfl) ?_) ?_
    · intro L vals W hL hJ hd K hK
      have hQ := hJ.q
      have d2 : ∃ r, vals 2 = .tuple #[r, .int .i64 (er)] ∧ Nq W r (p) := hd 2 (by kernel_rfl)
      generalize vals 2 = u2 at d2 hK ⊢
      obtain ⟨r, rfl, hr⟩ := d2
      go_simp
      exact hK.out r _ _ (by kernel_rfl) hr (Q.refl _)
    refine Ja.Steps.cons (JC.other hctx (by kernel_rfl) (by rfl) (by kernel_rfl) (by kernel_rfl) ?_) ?_
    · intro L vals W hL hJ hd K hK
      have hQ := hJ.q
      have d2 : ∃ r, vals 2 = .tuple #[r, .int .i64 (er)] ∧ Nq W r (p) := hd 2 (by kernel_rfl)
      generalize vals 2 = u2 at d2 hK ⊢
      obtain ⟨r, rfl, hr⟩ := d2
      go_simp
      exact hK.out (.int .i64 (er)) _ _ (by kernel_rfl) rfl (Q.refl _)
    refine Ja.Steps.cons (JC.alloc (n := 0) (cells := #[.bool false, .slice none 0 0, .slice none 0 0]) (t := 25) hctx (by kernel_rfl) (by rfl) (by kernel_rfl) (by rfl) (by rfl) (by kernel_rfl) (by rfl) (fun W => NbV.of (Nb.new W _ _ _)) ?_) ?_
    · intro vals W K hK
      go_simp
      exact hK.out _ (by kernel_rfl)
    refine Ja.Steps.cons (JC.store (n := 0) hctx (by kernel_rfl) (by rfl) (by kernel_rfl) (by rfl) (by rfl) (by kernel_rfl) (by rfl) ?_) ?_
    · intro L vals W g old hJ hp ho hs K hK
      have hs9 : Nq W (vals 3) (p) := hs
      have hp9 : vals 5 = .pointer (some ⟨g, 0, none⟩) := hp
      dsimp only at hK
      generalize vals 5 = ua at hp9 hK ⊢
      subst hp9
      generalize vals 3 = uj at hs9 hK ⊢
      obtain ⟨e1, C1, i1, j1, C2, i2, j2, rfl, -⟩ := Nq.form hs9
      obtain ⟨f1, D1, x1, y1, D2, x2, y2, ho1, hb⟩ := ho
      have fz := hb.frozen
      obtain ⟨r0, r1, r2⟩ := hb.cells
      clear hb ho1
      go_simp
      exact hK.out undef _ _ (by kernel_rfl) PutV.of
    refine Ja.Steps.cons (JC.other hctx (by kernel_rfl) (by rfl) (by kernel_rfl) (by kernel_rfl) ?_) ?_
    · intro L vals W hL hJ hd K hK
      have hQ := hJ.q
      have d4 : vals 4 = .int .i64 (er) := hd 4 (by kernel_rfl)
      generalize vals 4 = u4 at d4 hK ⊢
      subst d4
      go_simp
      exact hK.out (.int .i64 (er)) _ _ (by kernel_rfl) rfl (Q.refl _)
    exact Ja.Steps.nil
  intro L vals w1 hall hJ
  clear hAt0
  have hG1 := hJ.q
  obtain ⟨gX, eX, geX, qX⟩ := hJ.fresh 0 rfl rfl (hall 5 (by decide)) (hall 6 (by decide))
  have nX1 : Nq w1 (vals 3) (p) := hJ.s 3 (hall 3 (by decide))
  obtain ⟨sX, AX1, kX1, cX1, AX2, kX2, cX2, yX, hX1⟩ := qX
  change Nb w1 (gX) (sX) (.slice AX1 kX1 cX1) (.slice AX2 kX2 cX2) at hX1
  try dsimp only at yX
  rw [yX] at nX1
  clear yX
  rw [eX]
  clear eX
  have f6 : vals 7 = .int .i64 (er) := hJ.s 7 (hall 7 (by decide))
  rw [f6]
  clear hall hJ
  go_upto_region 3 with fail
  clear hr1 hr2 hr3 hb0 hb1 hm
  have HM0 := Lib.hid hm0; have hmi : Hid ((0 : Int) < (m : Int) ∧ (m : Int) ≤ 200) := Lib.hid (by omega)
  have hnr := near hm0.1 p
  obtain ⟨A, hA⟩ : ∃ x, dn m p = x := ⟨_, rfl⟩
  have HA := Lib.hid hA; clear hA
  have Z2 : Hid (sz (A) ≤ 140000) := Lib.hid (by rw [← HA.out]; have h1 := Z1.out; have h2 := (sz_dn_up (b := m) p (by omega)).1; have h3 := HM0.out; omega)
  obtain ⟨B, hB⟩ : ∃ x, up m p = x := ⟨_, rfl⟩
  have HB := Lib.hid hB; clear hB
  have Z3 : Hid (sz (B) ≤ 140000) := Lib.hid (by rw [← HB.out]; have h1 := Z1.out; have h2 := (sz_dn_up (b := m) p (by omega)).2; have h3 := HM0.out; omega)
  obtain ⟨C, hC⟩ : ∃ x, dn (m + 1) p = x := ⟨_, rfl⟩
  have HC := Lib.hid hC; clear hC
  have Z4 : Hid (sz (C) ≤ 140000) := Lib.hid (by rw [← HC.out]; have h1 := Z1.out; have h2 := (sz_dn_up (b := m + 1) p (by omega)).1; have h3 := HM0.out; omega)
  obtain ⟨D, hD⟩ : ∃ x, up (m + 1) p = x := ⟨_, rfl⟩
  have HD := Lib.hid hD; clear hD
  have Z5 : Hid (sz (D) ≤ 140000) := Lib.hid (by rw [← HD.out]; have h1 := Z1.out; have h2 := (sz_dn_up (b := m + 1) p (by omega)).2; have h3 := HM0.out; omega)
  obtain ⟨nr1, nr2, nr3, nr4, nr5, nr6⟩ := hnr
  rw [HA.out, HB.out] at nr5 nr6; rw [HA.out, HC.out] at nr1; rw [HC.out] at nr2; rw [HD.out] at nr3; rw [HD.out, HB.out] at nr4
  have NR1 := Lib.hid nr1; clear nr1
  have NR2 := Lib.hid nr2; clear nr2
  have NR3 := Lib.hid nr3; clear nr3
  have NR4 := Lib.hid nr4; clear nr4
  have NR5 := Lib.hid nr5; clear nr5
  have NR6 := Lib.hid nr6; clear nr6
  clear hm0
  by_cases he0 : er = 0
  rotate_left
  · have HE0 := Lib.hid he0; clear he0
    refine text_each (F := ?F3) ([.eq (.int .i64 (er)), .eq (.bool true)] : List Vs) (by kernel_rfl) ?hF3 ?st3 ?en3
    case hF3 =>
      intro vals
      simp only [Ja.fillL, Act.put, List.setIfInBounds_toArray, List.set_cons_zero, List.set_cons_succ, Nat.reduceAdd]
      exact rfl
    case st3 =>
      intro hctx
      refine Ja.Steps.cons (Each.yes hctx (by rfl) (by kernel_rfl) ?_) ?_
      · intro vals W hM hd K hK
        have hN : Q w1 W := hM
        have hQ := hG1.trans hN
        go_simp
        exact hK.out (.int .i64 (er)) _ _ (by kernel_rfl) rfl (Q.refl _)
      refine Ja.Steps.cons (Each.yes hctx (by rfl) (by kernel_rfl) ?_) ?_
      · intro vals W hM hd K hK
        have hN : Q w1 W := hM
        have hQ := hG1.trans hN
        have d0 : vals 0 = .int .i64 (er) := hd 0 (by kernel_rfl)
        generalize vals 0 = u0 at d0 hK ⊢
        subst d0
        go_simp
        rw [show (((er) : Int) != (0)) = true from bne_iff_ne.2 (HE0.out)]
        exact hK.out (.bool true) _ _ (by kernel_rfl) rfl (Q.refl _)
      exact Ja.Steps.nil
    intro vals w2 hq2 hall
    have hG2 := hG1.trans hq2
    have hX2 := hX1.q hq2
    have nX2 := nX1.q hq2
    have f23 : vals 1 = .bool true := hall 1 (by decide)
    rw [f23]
    clear hall hq2 hG1 hX1 nX1
    go_upto_region 4 with fail
    refine text_each (F := ?F4) ([.eq (.bool true), .eq (.bool true)] : List Vs) (by kernel_rfl) ?hF4 ?st4 ?en4
    case hF4 =>
      intro vals
      simp only [Ja.fillL, Act.put, List.setIfInBounds_toArray, List.set_cons_zero, List.set_cons_succ, Nat.reduceAdd]
      exact rfl
    case st4 =>
      intro hctx
      refine Ja.Steps.cons (Each.yes hctx (by rfl) (by kernel_rfl) ?_) ?_
      · intro vals W hM hd K hK
        have hN : Q w2 W := hM
        have hQ := hG2.trans hN
        go_simp
        (with_reducible refine (q_Awake W (hT.q hQ) (hPx.q hQ)).mono ?_)
        rintro e W9 ⟨rfl, hq9⟩
        exact hK.out (.bool true) W9 _ (by kernel_rfl) rfl hq9
      refine Ja.Steps.cons (Each.yes hctx (by rfl) (by kernel_rfl) ?_) ?_
      · intro vals W hM hd K hK
        have hN : Q w2 W := hM
        have hQ := hG2.trans hN
        have d0 : vals 0 = .bool true := hd 0 (by kernel_rfl)
        generalize vals 0 = u0 at d0 hK ⊢
        subst d0
        go_simp
        exact hK.out (.bool true) _ _ (by kernel_rfl) rfl (Q.refl _)
      exact Ja.Steps.nil
    intro vals w3 hq3 hall
    have hG3 := hG2.trans hq3
    have hX3 := hX2.q hq3
    have nX3 := nX2.q hq3
    have f4 : vals 1 = .bool true := hall 1 (by decide)
    rw [f4]
    clear hall hq3 hG2 hX2 nX2
    go_wp2_with fail
    go_ret
    exact ⟨ret_bool rfl, by rw [← hw0]; exact hG3⟩
  have HE0 := Lib.hid he0; clear he0
  refine text_each (F := ?F5) ([.eq (.int .i64 (er)), .eq (.bool false)] : List Vs) (by kernel_rfl) ?hF5 ?st5 ?en5
  case hF5 =>
    intro vals
    simp only [Ja.fillL, Act.put, List.setIfInBounds_toArray, List.set_cons_zero, List.set_cons_succ, Nat.reduceAdd]
    exact rfl
  case st5 =>
    intro hctx
    refine Ja.Steps.cons (Each.yes hctx (by rfl) (by kernel_rfl) ?_) ?_
    · intro vals W hM hd K hK
      have hN : Q w1 W := hM
      have hQ := hG1.trans hN
      go_simp
      exact hK.out (.int .i64 (er)) _ _ (by kernel_rfl) rfl (Q.refl _)
    refine Ja.Steps.cons (Each.yes hctx (by rfl) (by kernel_rfl) ?_) ?_
    · intro vals W hM hd K hK
      have hN : Q w1 W := hM
      have hQ := hG1.trans hN
      have d0 : vals 0 = .int .i64 (er) := hd 0 (by kernel_rfl)
      generalize vals 0 = u0 at d0 hK ⊢
      subst d0
      go_simp
      rw [show (((er) : Int) != (0)) = false from bne_eq_false_iff_eq.2 (HE0.out)]
      exact hK.out (.bool false) _ _ (by kernel_rfl) rfl (Q.refl _)
    exact Ja.Steps.nil
  intro vals w2 hq2 hall
  have hG2 := hG1.trans hq2
  have hX2 := hX1.q hq2
  have nX2 := nX1.q hq2
  have f23 : vals 1 = .bool false := hall 1 (by decide)
  rw [f23]
  clear hall hq2 hG1 hX1 nX1
  go_upto_region 5 with fail
  have Z6 : Hid (sz (dn (m) (p)) ≤ 132006) := Lib.hid (by have h9 := (sz_dn_up (p) (HM0.out.1)).1; have h8 := HM0.out.2; have h0 := Z1.out; omega)
  have B7 : Hid (2000 * (sz (p)) + 500000 ≤ LIM) := Lib.hid (by have h0 := Z1.out; rw [LIM_eq]; omega)
  have Z8 : Hid (sz (up (m) (p)) ≤ 132006) := Lib.hid (by have h9 := (sz_dn_up (p) (HM0.out.1)).2; have h8 := HM0.out.2; have h0 := Z1.out; omega)
  have B9 : Hid (2000 * (sz (p)) + 500000 ≤ LIM) := Lib.hid (by have h0 := Z1.out; rw [LIM_eq]; omega)
  have hAt2 : At0 w [{ al := none, g := gX, big := false, row := .agg #[.bool sX, .slice AX1 kX1 cX1, .slice AX2 kX2 cX2], st := 1000, src := 0 }, { al := some 6, g := 0, big := false, row := .agg #[.bool false, .slice none 0 0, .slice none 0 0], st := 8, src := 2 }, { al := some 7, g := 0, big := false, row := .agg #[.bool false, .slice none 0 0, .slice none 0 0], st := 9, src := 5 }] [(.agg #[.bool sX, .slice AX1 kX1 cX1, .slice AX2 kX2 cX2], .num (p))] w2 := At0.of hG2 ⟨fun _ => ⟨by dsimp only; omega, NbV.of hX2⟩, fun h => (by cases h), fun h => (by cases h), trivial⟩ (by (simp [Apart0] <;> omega)) ⟨nX2, trivial⟩
  clear hG2 hX2 nX2
  refine region_cells (F := ?F6) w ([.num (p), .eq (.int .i64 ((m : Int))), .num (A), .num (p), .eq (.int .i64 ((m : Int))), .num (B), .any, .any, .any, .any] : List Vs) _ _ (by kernel_rfl) (by kernel_rfl) hAt2 ?hF6 ?st6 ?en6
  case hF6 =>
    intro vals
    simp only [Ja.fillL, Act.put, List.setIfInBounds_toArray, List.set_cons_zero, List.set_cons_succ, Nat.reduceAdd]
    exact rfl
  case st6 =>
    clear hAt2
    intro hctx
    refine Ja.Steps.cons (JC.other hctx (by kernel_rfl) (by rfl) (by kernel_rfl) (by kernel_rfl) ?_) ?_
    · intro L vals W hL hJ hd K hK
      have hQ := hJ.q
      obtain ⟨z0, z1, z2⟩ := (NbV.out (hJ.still 0 rfl rfl (Nat.le_of_ble_eq_true (by kernel_rfl)))).cells
      go_simp
      exact hK.out (.agg #[.bool sX, .slice AX1 kX1 cX1, .slice AX2 kX2 cX2]) _ _ (by kernel_rfl) (hJ.kept 0 rfl) (Q.refl _)
    refine Ja.Steps.cons (JC.other hctx (by kernel_rfl) (by rfl) (by kernel_rfl) (by kernel_rfl) ?_) ?_
    · intro L vals W hL hJ hd K hK
      have hQ := hJ.q
      go_simp
      exact hK.out (.int .i64 ((m : Int))) _ _ (by kernel_rfl) rfl (Q.refl _)
    refine Ja.Steps.cons (JC.other hctx (by kernel_rfl) (by rfl) (by kernel_rfl) (by kernel_rfl) ?_) ?_
    · intro L vals W hL hJ hd K hK
      have hQ := hJ.q
      have d0 : Nq W (vals 0) (p) := hd 0 (by kernel_rfl)
      have d1 : vals 1 = .int .i64 ((m : Int)) := hd 1 (by kernel_rfl)
      generalize vals 1 = u1 at d1 hK ⊢
      subst d1
      go_simp
      (with_reducible refine (q_Down _ (p) ((m : Int)) W (hT.q hQ) d0 B7.out).mono ?_)
      rintro e W9 ⟨r, rfl, hr, hq9⟩
      exact hK.out r W9 _ (by kernel_rfl) (by have h8 := (by have h7 := hr; rw [show bitsN ((m : Int)) = m from bits_n HM0.out] at h7; exact h7); rw [show (dn (m) (p) : Rat) = A from HA.out] at h8; exact h8) hq9
    refine Ja.Steps.cons (JC.other hctx (by kernel_rfl) (by rfl) (by kernel_rfl) (by kernel_rfl) ?_) ?_
    · intro L vals W hL hJ hd K hK
      have hQ := hJ.q
      obtain ⟨z0, z1, z2⟩ := (NbV.out (hJ.still 0 rfl rfl (Nat.le_of_ble_eq_true (by kernel_rfl)))).cells
      go_simp
      exact hK.out (.agg #[.bool sX, .slice AX1 kX1 cX1, .slice AX2 kX2 cX2]) _ _ (by kernel_rfl) (hJ.kept 0 rfl) (Q.refl _)
    refine Ja.Steps.cons (JC.other hctx (by kernel_rfl) (by rfl) (by kernel_rfl) (by kernel_rfl) ?_) ?_
    · intro L vals W hL hJ hd K hK
      have hQ := hJ.q
      go_simp
      exact hK.out (.int .i64 ((m : Int))) _ _ (by kernel_rfl) rfl (Q.refl _)
    refine Ja.Steps.cons (JC.other hctx (by kernel_rfl) (by rfl) (by kernel_rfl) (by kernel_rfl) ?_) ?_
    · intro L vals W hL hJ hd K hK
      have hQ := hJ.q
      have d3 : Nq W (vals 3) (p) := hd 3 (by kernel_rfl)
      have d4 : vals 4 = .int .i64 ((m : Int)) := hd 4 (by kernel_rfl)
      generalize vals 4 = u4 at d4 hK ⊢
      subst d4
      go_simp
      (with_reducible refine (q_Up _ (p) ((m : Int)) W (hT.q hQ) d3 B9.out).mono ?_)
      rintro e W9 ⟨r, rfl, hr, hq9⟩
      exact hK.out r W9 _ (by kernel_rfl) (by have h8 := (by have h7 := hr; rw [show bitsN ((m : Int)) = m from bits_n HM0.out] at h7; exact h7); rw [show (up (m) (p) : Rat) = B from HB.out] at h8; exact h8) hq9
    refine Ja.Steps.cons (JC.alloc (n := 1) (cells := #[.bool false, .slice none 0 0, .slice none 0 0]) (t := 25) hctx (by kernel_rfl) (by rfl) (by kernel_rfl) (by rfl) (by rfl) (by kernel_rfl) (by rfl) (fun W => NbV.of (Nb.new W _ _ _)) ?_) ?_
    · intro vals W K hK
      go_simp
      exact hK.out _ (by kernel_rfl)
    refine Ja.Steps.cons (JC.alloc (n := 2) (cells := #[.bool false, .slice none 0 0, .slice none 0 0]) (t := 25) hctx (by kernel_rfl) (by rfl) (by kernel_rfl) (by rfl) (by rfl) (by kernel_rfl) (by rfl) (fun W => NbV.of (Nb.new W _ _ _)) ?_) ?_
    · intro vals W K hK
      go_simp
      exact hK.out _ (by kernel_rfl)
    refine Ja.Steps.cons (JC.store (n := 1) hctx (by kernel_rfl) (by rfl) (by kernel_rfl) (by rfl) (by rfl) (by kernel_rfl) (by rfl) ?_) ?_
    · intro L vals W g old hJ hp ho hs K hK
      have hs9 : Nq W (vals 2) (A) := hs
      have hp9 : vals 6 = .pointer (some ⟨g, 0, none⟩) := hp
      dsimp only at hK
      generalize vals 6 = ua at hp9 hK ⊢
      subst hp9
      generalize vals 2 = uj at hs9 hK ⊢
      obtain ⟨e1, C1, i1, j1, C2, i2, j2, rfl, -⟩ := Nq.form hs9
      obtain ⟨f1, D1, x1, y1, D2, x2, y2, ho1, hb⟩ := ho
      have fz := hb.frozen
      obtain ⟨r0, r1, r2⟩ := hb.cells
      clear hb ho1
      go_simp
      exact hK.out undef _ _ (by kernel_rfl) PutV.of
    refine Ja.Steps.cons (JC.store (n := 2) hctx (by kernel_rfl) (by rfl) (by kernel_rfl) (by rfl) (by rfl) (by kernel_rfl) (by rfl) ?_) ?_
    · intro L vals W g old hJ hp ho hs K hK
      have hs9 : Nq W (vals 5) (B) := hs
      have hp9 : vals 7 = .pointer (some ⟨g, 0, none⟩) := hp
      dsimp only at hK
      generalize vals 7 = ua at hp9 hK ⊢
      subst hp9
      generalize vals 5 = uj at hs9 hK ⊢
      obtain ⟨e1, C1, i1, j1, C2, i2, j2, rfl, -⟩ := Nq.form hs9
      obtain ⟨f1, D1, x1, y1, D2, x2, y2, ho1, hb⟩ := ho
      have fz := hb.frozen
      obtain ⟨r0, r1, r2⟩ := hb.cells
      clear hb ho1
      go_simp
      exact hK.out undef _ _ (by kernel_rfl) PutV.of
    exact Ja.Steps.nil
  intro L vals w3 hall hJ
  clear hAt2
  have hG3 := hJ.q
  have hX3 : Nb w3 (gX) (sX) (.slice AX1 kX1 cX1) (.slice AX2 kX2 cX2) := NbV.out (hJ.still 0 rfl rfl (Nat.le_of_ble_eq_true (by kernel_rfl)))
  have nX3 : Nq w3 (.agg #[.bool sX, .slice AX1 kX1 cX1, .slice AX2 kX2 cX2]) (p) := hJ.kept 0 rfl
  obtain ⟨gU, eU, geU, qU⟩ := hJ.fresh 1 rfl rfl (hall 6 (by decide)) (hall 8 (by decide))
  have nU3 : Nq w3 (vals 2) (A) := hJ.s 2 (hall 2 (by decide))
  obtain ⟨sU, AU1, kU1, cU1, AU2, kU2, cU2, yU, hU3⟩ := qU
  change Nb w3 (gU) (sU) (.slice AU1 kU1 cU1) (.slice AU2 kU2 cU2) at hU3
  try dsimp only at yU
  rw [yU] at nU3
  clear yU
  obtain ⟨gV, eV, geV, qV⟩ := hJ.fresh 2 rfl rfl (hall 7 (by decide)) (hall 9 (by decide))
  have nV3 : Nq w3 (vals 5) (B) := hJ.s 5 (hall 5 (by decide))
  obtain ⟨sV, AV1, kV1, cV1, AV2, kV2, cV2, yV, hV3⟩ := qV
  change Nb w3 (gV) (sV) (.slice AV1 kV1 cV1) (.slice AV2 kV2 cV2) at hV3
  try dsimp only at yV
  rw [yV] at nV3
  clear yV
  have neUX : gU ≠ gX := hJ.ne 1 0 (by decide) rfl rfl (hall 6 (by decide)) rfl eU rfl
  have neVX : gV ≠ gX := hJ.ne 2 0 (by decide) rfl rfl (hall 7 (by decide)) rfl eV rfl
  have neVU : gV ≠ gU := hJ.ne 2 1 (by decide) rfl rfl (hall 7 (by decide)) (hall 6 (by decide)) eV eU
  rw [eU]
  clear eU
  rw [eV]
  clear eV
  clear hall hJ
  go_upto_region 6 with fail
  have Z10 : Hid (sz (dn (m + 1) (p)) ≤ 132006) := Lib.hid (by have h9 := (sz_dn_up (p) (Nat.lt_of_lt_of_le HM0.out.1 (Nat.le_add_right m 1))).1; have h8 := HM0.out.2; have h0 := Z1.out; omega)
  have B11 : Hid (2000 * (sz (p)) + 500000 ≤ LIM) := Lib.hid (by have h0 := Z1.out; rw [LIM_eq]; omega)
  have Z12 : Hid (sz (up (m + 1) (p)) ≤ 132006) := Lib.hid (by have h9 := (sz_dn_up (p) (Nat.lt_of_lt_of_le HM0.out.1 (Nat.le_add_right m 1))).2; have h8 := HM0.out.2; have h0 := Z1.out; omega)
  have B13 : Hid (2000 * (sz (p)) + 500000 ≤ LIM) := Lib.hid (by have h0 := Z1.out; rw [LIM_eq]; omega)
  have hAt3 : At0 w [{ al := none, g := gX, big := false, row := .agg #[.bool sX, .slice AX1 kX1 cX1, .slice AX2 kX2 cX2], st := 1000, src := 0 }, { al := none, g := gU, big := false, row := .agg #[.bool sU, .slice AU1 kU1 cU1, .slice AU2 kU2 cU2], st := 1000, src := 0 }, { al := none, g := gV, big := false, row := .agg #[.bool sV, .slice AV1 kV1 cV1, .slice AV2 kV2 cV2], st := 1000, src := 0 }, { al := some 8, g := 0, big := false, row := .agg #[.bool false, .slice none 0 0, .slice none 0 0], st := 10, src := 3 }, { al := some 9, g := 0, big := false, row := .agg #[.bool false, .slice none 0 0, .slice none 0 0], st := 11, src := 7 }] [(.agg #[.bool sX, .slice AX1 kX1 cX1, .slice AX2 kX2 cX2], .num (p)), (.agg #[.bool sU, .slice AU1 kU1 cU1, .slice AU2 kU2 cU2], .num (A)), (.agg #[.bool sV, .slice AV1 kV1 cV1, .slice AV2 kV2 cV2], .num (B))] w3 := At0.of hG3 ⟨fun _ => ⟨by dsimp only; omega, NbV.of hX3⟩, fun _ => ⟨by dsimp only; omega, NbV.of hU3⟩, fun _ => ⟨by dsimp only; omega, NbV.of hV3⟩, fun h => (by cases h), fun h => (by cases h), trivial⟩ (by (simp [Apart0] <;> omega)) ⟨nX3, nU3, nV3, trivial⟩
  clear hG3 hX3 hU3 hV3 nX3 nU3 nV3
  refine region_cells (F := ?F7) w ([.num (p), .eq (.int .i64 ((m : Int))), .eq (.int .i64 ((m : Int) + 1)), .num (C), .num (p), .eq (.int .i64 ((m : Int))), .eq (.int .i64 ((m : Int) + 1)), .num (D), .any, .any, .any, .any] : List Vs) _ _ (by kernel_rfl) (by kernel_rfl) hAt3 ?hF7 ?st7 ?en7
  case hF7 =>
    intro vals
    simp only [Ja.fillL, Act.put, List.setIfInBounds_toArray, List.set_cons_zero, List.set_cons_succ, Nat.reduceAdd]
    exact rfl
  case st7 =>
    clear hAt3
    intro hctx
    refine Ja.Steps.cons (JC.other hctx (by kernel_rfl) (by rfl) (by kernel_rfl) (by kernel_rfl) ?_) ?_
    · intro L vals W hL hJ hd K hK
      have hQ := hJ.q
      obtain ⟨z0, z1, z2⟩ := (NbV.out (hJ.still 0 rfl rfl (Nat.le_of_ble_eq_true (by kernel_rfl)))).cells
      go_simp
      exact hK.out (.agg #[.bool sX, .slice AX1 kX1 cX1, .slice AX2 kX2 cX2]) _ _ (by kernel_rfl) (hJ.kept 0 rfl) (Q.refl _)
    refine Ja.Steps.cons (JC.other hctx (by kernel_rfl) (by rfl) (by kernel_rfl) (by kernel_rfl) ?_) ?_
    · intro L vals W hL hJ hd K hK
      have hQ := hJ.q
      go_simp
      exact hK.out (.int .i64 ((m : Int))) _ _ (by kernel_rfl) rfl (Q.refl _)
    refine Ja.Steps.cons (JC.other hctx (by kernel_rfl) (by rfl) (by kernel_rfl) (by kernel_rfl) ?_) ?_
    · intro L vals W hL hJ hd K hK
      have hQ := hJ.q
      have d1 : vals 1 = .int .i64 ((m : Int)) := hd 1 (by kernel_rfl)
      generalize vals 1 = u1 at d1 hK ⊢
      subst d1
      go_simp
      rw [wrap_m HM0.out]
      exact hK.out (.int .i64 ((m : Int) + 1)) _ _ (by kernel_rfl) rfl (Q.refl _)
    refine Ja.Steps.cons (JC.other hctx (by kernel_rfl) (by rfl) (by kernel_rfl) (by kernel_rfl) ?_) ?_
    · intro L vals W hL hJ hd K hK
      have hQ := hJ.q
      have d0 : Nq W (vals 0) (p) := hd 0 (by kernel_rfl)
      have d2 : vals 2 = .int .i64 ((m : Int) + 1) := hd 2 (by kernel_rfl)
      generalize vals 2 = u2 at d2 hK ⊢
      subst d2
      go_simp
      (with_reducible refine (q_Down _ (p) ((m : Int) + 1) W (hT.q hQ) d0 B11.out).mono ?_)
      rintro e W9 ⟨r, rfl, hr, hq9⟩
      exact hK.out r W9 _ (by kernel_rfl) (by have h8 := (by have h7 := hr; rw [show bitsN ((m : Int) + 1) = m + 1 from bits_n1 HM0.out] at h7; exact h7); rw [show (dn (m + 1) (p) : Rat) = C from HC.out] at h8; exact h8) hq9
    refine Ja.Steps.cons (JC.other hctx (by kernel_rfl) (by rfl) (by kernel_rfl) (by kernel_rfl) ?_) ?_
    · intro L vals W hL hJ hd K hK
      have hQ := hJ.q
      obtain ⟨z0, z1, z2⟩ := (NbV.out (hJ.still 0 rfl rfl (Nat.le_of_ble_eq_true (by kernel_rfl)))).cells
      go_simp
      exact hK.out (.agg #[.bool sX, .slice AX1 kX1 cX1, .slice AX2 kX2 cX2]) _ _ (by kernel_rfl) (hJ.kept 0 rfl) (Q.refl _)
    refine Ja.Steps.cons (JC.other hctx (by kernel_rfl) (by rfl) (by kernel_rfl) (by kernel_rfl) ?_) ?_
    · intro L vals W hL hJ hd K hK
      have hQ := hJ.q
      go_simp
      exact hK.out (.int .i64 ((m : Int))) _ _ (by kernel_rfl) rfl (Q.refl _)
    refine Ja.Steps.cons (JC.other hctx (by kernel_rfl) (by rfl) (by kernel_rfl) (by kernel_rfl) ?_) ?_
    · intro L vals W hL hJ hd K hK
      have hQ := hJ.q
      have d5 : vals 5 = .int .i64 ((m : Int)) := hd 5 (by kernel_rfl)
      generalize vals 5 = u5 at d5 hK ⊢
      subst d5
      go_simp
      rw [wrap_m HM0.out]
      exact hK.out (.int .i64 ((m : Int) + 1)) _ _ (by kernel_rfl) rfl (Q.refl _)
    refine Ja.Steps.cons (JC.other hctx (by kernel_rfl) (by rfl) (by kernel_rfl) (by kernel_rfl) ?_) ?_
    · intro L vals W hL hJ hd K hK
      have hQ := hJ.q
      have d4 : Nq W (vals 4) (p) := hd 4 (by kernel_rfl)
      have d6 : vals 6 = .int .i64 ((m : Int) + 1) := hd 6 (by kernel_rfl)
      generalize vals 6 = u6 at d6 hK ⊢
      subst d6
      go_simp
      (with_reducible refine (q_Up _ (p) ((m : Int) + 1) W (hT.q hQ) d4 B13.out).mono ?_)
      rintro e W9 ⟨r, rfl, hr, hq9⟩
      exact hK.out r W9 _ (by kernel_rfl) (by have h8 := (by have h7 := hr; rw [show bitsN ((m : Int) + 1) = m + 1 from bits_n1 HM0.out] at h7; exact h7); rw [show (up (m + 1) (p) : Rat) = D from HD.out] at h8; exact h8) hq9
    refine Ja.Steps.cons (JC.alloc (n := 3) (cells := #[.bool false, .slice none 0 0, .slice none 0 0]) (t := 25) hctx (by kernel_rfl) (by rfl) (by kernel_rfl) (by rfl) (by rfl) (by kernel_rfl) (by rfl) (fun W => NbV.of (Nb.new W _ _ _)) ?_) ?_
    · intro vals W K hK
      go_simp
      exact hK.out _ (by kernel_rfl)
    refine Ja.Steps.cons (JC.alloc (n := 4) (cells := #[.bool false, .slice none 0 0, .slice none 0 0]) (t := 25) hctx (by kernel_rfl) (by rfl) (by kernel_rfl) (by rfl) (by rfl) (by kernel_rfl) (by rfl) (fun W => NbV.of (Nb.new W _ _ _)) ?_) ?_
    · intro vals W K hK
      go_simp
      exact hK.out _ (by kernel_rfl)
    refine Ja.Steps.cons (JC.store (n := 3) hctx (by kernel_rfl) (by rfl) (by kernel_rfl) (by rfl) (by rfl) (by kernel_rfl) (by rfl) ?_) ?_
    · intro L vals W g old hJ hp ho hs K hK
      have hs9 : Nq W (vals 3) (C) := hs
      have hp9 : vals 8 = .pointer (some ⟨g, 0, none⟩) := hp
      dsimp only at hK
      generalize vals 8 = ua at hp9 hK ⊢
      subst hp9
      generalize vals 3 = uj at hs9 hK ⊢
      obtain ⟨e1, C1, i1, j1, C2, i2, j2, rfl, -⟩ := Nq.form hs9
      obtain ⟨f1, D1, x1, y1, D2, x2, y2, ho1, hb⟩ := ho
      have fz := hb.frozen
      obtain ⟨r0, r1, r2⟩ := hb.cells
      clear hb ho1
      go_simp
      exact hK.out undef _ _ (by kernel_rfl) PutV.of
    refine Ja.Steps.cons (JC.store (n := 4) hctx (by kernel_rfl) (by rfl) (by kernel_rfl) (by rfl) (by rfl) (by kernel_rfl) (by rfl) ?_) ?_
    · intro L vals W g old hJ hp ho hs K hK
      have hs9 : Nq W (vals 7) (D) := hs
      have hp9 : vals 9 = .pointer (some ⟨g, 0, none⟩) := hp
      dsimp only at hK
      generalize vals 9 = ua at hp9 hK ⊢
      subst hp9
      generalize vals 7 = uj at hs9 hK ⊢
      obtain ⟨e1, C1, i1, j1, C2, i2, j2, rfl, -⟩ := Nq.form hs9
      obtain ⟨f1, D1, x1, y1, D2, x2, y2, ho1, hb⟩ := ho
      have fz := hb.frozen
      obtain ⟨r0, r1, r2⟩ := hb.cells
      clear hb ho1
      go_simp
      exact hK.out undef _ _ (by kernel_rfl) PutV.of
    exact Ja.Steps.nil
  intro L vals w4 hall hJ
  clear hAt3
  have hG4 := hJ.q
  have hX4 : Nb w4 (gX) (sX) (.slice AX1 kX1 cX1) (.slice AX2 kX2 cX2) := NbV.out (hJ.still 0 rfl rfl (Nat.le_of_ble_eq_true (by kernel_rfl)))
  have nX4 : Nq w4 (.agg #[.bool sX, .slice AX1 kX1 cX1, .slice AX2 kX2 cX2]) (p) := hJ.kept 0 rfl
  have hU4 : Nb w4 (gU) (sU) (.slice AU1 kU1 cU1) (.slice AU2 kU2 cU2) := NbV.out (hJ.still 1 rfl rfl (Nat.le_of_ble_eq_true (by kernel_rfl)))
  have nU4 : Nq w4 (.agg #[.bool sU, .slice AU1 kU1 cU1, .slice AU2 kU2 cU2]) (A) := hJ.kept 1 rfl
  have hV4 : Nb w4 (gV) (sV) (.slice AV1 kV1 cV1) (.slice AV2 kV2 cV2) := NbV.out (hJ.still 2 rfl rfl (Nat.le_of_ble_eq_true (by kernel_rfl)))
  have nV4 : Nq w4 (.agg #[.bool sV, .slice AV1 kV1 cV1, .slice AV2 kV2 cV2]) (B) := hJ.kept 2 rfl
  obtain ⟨gY, eY, geY, qY⟩ := hJ.fresh 3 rfl rfl (hall 8 (by decide)) (hall 10 (by decide))
  have nY4 : Nq w4 (vals 3) (C) := hJ.s 3 (hall 3 (by decide))
  obtain ⟨sY, AY1, kY1, cY1, AY2, kY2, cY2, yY, hY4⟩ := qY
  change Nb w4 (gY) (sY) (.slice AY1 kY1 cY1) (.slice AY2 kY2 cY2) at hY4
  try dsimp only at yY
  rw [yY] at nY4
  clear yY
  obtain ⟨gE, eE, geE, qE⟩ := hJ.fresh 4 rfl rfl (hall 9 (by decide)) (hall 11 (by decide))
  have nE4 : Nq w4 (vals 7) (D) := hJ.s 7 (hall 7 (by decide))
  obtain ⟨sE, AE1, kE1, cE1, AE2, kE2, cE2, yE, hE4⟩ := qE
  change Nb w4 (gE) (sE) (.slice AE1 kE1 cE1) (.slice AE2 kE2 cE2) at hE4
  try dsimp only at yE
  rw [yE] at nE4
  clear yE
  have neYX : gY ≠ gX := hJ.ne 3 0 (by decide) rfl rfl (hall 8 (by decide)) rfl eY rfl
  have neYU : gY ≠ gU := hJ.ne 3 1 (by decide) rfl rfl (hall 8 (by decide)) rfl eY rfl
  have neYV : gY ≠ gV := hJ.ne 3 2 (by decide) rfl rfl (hall 8 (by decide)) rfl eY rfl
  have neEX : gE ≠ gX := hJ.ne 4 0 (by decide) rfl rfl (hall 9 (by decide)) rfl eE rfl
  have neEU : gE ≠ gU := hJ.ne 4 1 (by decide) rfl rfl (hall 9 (by decide)) rfl eE rfl
  have neEV : gE ≠ gV := hJ.ne 4 2 (by decide) rfl rfl (hall 9 (by decide)) rfl eE rfl
  have neEY : gE ≠ gY := hJ.ne 4 3 (by decide) rfl rfl (hall 9 (by decide)) (hall 8 (by decide)) eE eY
  rw [eY]
  clear eY
  rw [eE]
  clear eE
  clear hall hJ
  go_upto_region 7 with fail
  have B14 : Hid (64 * (sz (A) + sz (C)) + 400 ≤ LIM) := Lib.hid (by have h0 := Z2.out; have h1 := Z4.out; rw [LIM_eq]; omega)
  have B15 : Hid (64 * (sz (C) + sz (p)) + 400 ≤ LIM) := Lib.hid (by have h0 := Z4.out; have h1 := Z1.out; rw [LIM_eq]; omega)
  have B16 : Hid (64 * (sz (p) + sz (D)) + 400 ≤ LIM) := Lib.hid (by have h0 := Z1.out; have h1 := Z5.out; rw [LIM_eq]; omega)
  have B17 : Hid (64 * (sz (D) + sz (B)) + 400 ≤ LIM) := Lib.hid (by have h0 := Z5.out; have h1 := Z3.out; rw [LIM_eq]; omega)
  have Z18 : Hid (sz (-(A)) ≤ 140000) := Lib.hid (by have h9 := sz_neg (A); have h0 := Z2.out; omega)
  have B19 : Hid (sz (A) ≤ LIM) := Lib.hid (by have h0 := Z2.out; rw [LIM_eq]; omega)
  have Z20 : Hid (sz (-(p)) ≤ 2000) := Lib.hid (by have h9 := sz_neg (p); have h0 := Z1.out; omega)
  have B21 : Hid (sz (p) ≤ LIM) := Lib.hid (by have h0 := Z1.out; rw [LIM_eq]; omega)
  have Z22 : Hid (sz (up (m) (-(p))) ≤ 132006) := Lib.hid (by have h9 := (sz_dn_up (-(p)) (HM0.out.1)).2; have h8 := HM0.out.2; have h0 := Z20.out; omega)
  have B23 : Hid (2000 * (sz (-(p))) + 500000 ≤ LIM) := Lib.hid (by have h0 := Z20.out; rw [LIM_eq]; omega)
  have B24 : Hid (2000 * (sz (-(A))) + 500000 ≤ LIM) := Lib.hid (by have h0 := Z18.out; rw [LIM_eq]; omega)
  refine region_each (F := ?F8) ([.num (A), .num (C), .eq (.int .i64 (rc (A) (C))), .eq (.bool false), .eq (.bool false), .num (C), .num (p), .eq (.int .i64 (rc (C) (p))), .eq (.bool false), .eq (.bool false), .eq (.bool false), .num (p), .num (D), .eq (.int .i64 (rc (p) (D))), .eq (.bool false), .eq (.bool false), .eq (.bool false), .num (D), .num (B), .eq (.int .i64 (rc (D) (B))), .eq (.bool false), .eq (.bool false), .eq (.bool false), .num (A), .num (-(A)), .num (p), .num (-(p)), .eq (.int .i64 ((m : Int))), .num (-(A)), .eq (.bool true), .eq (.bool false), .eq (.bool false)] : List Vs) (by kernel_rfl) (by kernel_rfl) ?hF8 ?st8 ?en8
  case hF8 =>
    intro vals
    simp only [Ja.fillL, Act.put, List.setIfInBounds_toArray, List.set_cons_zero, List.set_cons_succ, Nat.reduceAdd]
    exact rfl
  case st8 =>
    intro hctx
    refine Ja.Steps.cons (Each.yes hctx (by rfl) (by kernel_rfl) ?_) ?_
    · intro vals W hM hd K hK
      have hN : Q w4 W := (Q.refl _).drew.trans hM
      have hQ := hG4.trans hN
      obtain ⟨z0, z1, z2⟩ := (hU4.q hN).cells
      go_simp
      exact hK.out (.agg #[.bool sU, .slice AU1 kU1 cU1, .slice AU2 kU2 cU2]) _ _ (by kernel_rfl) (nU4.q hN) (Q.refl _)
    refine Ja.Steps.cons (Each.yes hctx (by rfl) (by kernel_rfl) ?_) ?_
    · intro vals W hM hd K hK
      have hN : Q w4 W := (Q.refl _).drew.trans hM
      have hQ := hG4.trans hN
      obtain ⟨z0, z1, z2⟩ := (hY4.q hN).cells
      go_simp
      exact hK.out (.agg #[.bool sY, .slice AY1 kY1 cY1, .slice AY2 kY2 cY2]) _ _ (by kernel_rfl) (nY4.q hN) (Q.refl _)
    refine Ja.Steps.cons (Each.yes hctx (by rfl) (by kernel_rfl) ?_) ?_
    · intro vals W hM hd K hK
      have hN : Q w4 W := (Q.refl _).drew.trans hM
      have hQ := hG4.trans hN
      have d0 : Nq W (vals 0) (A) := hd 0 (by kernel_rfl)
      have d1 : Nq W (vals 1) (C) := hd 1 (by kernel_rfl)
      go_simp
      (with_reducible refine (q_Cmp _ _ (A) (C) W d0 d1 B14.out).mono ?_)
      rintro e W9 ⟨rfl, hq9⟩
      exact hK.out (.int .i64 (rc (A) (C))) W9 _ (by kernel_rfl) rfl hq9
    refine Ja.Steps.cons (Each.yes hctx (by rfl) (by kernel_rfl) ?_) ?_
    · intro vals W hM hd K hK
      have hN : Q w4 W := (Q.refl _).drew.trans hM
      have hQ := hG4.trans hN
      have d2 : vals 2 = .int .i64 (rc (A) (C)) := hd 2 (by kernel_rfl)
      generalize vals 2 = u2 at d2 hK ⊢
      subst d2
      go_simp
      rw [decide_eq_false (show ¬ ((rc (A) (C) : Int) > 0) from by have := (rc_le A C).2 NR1.out; omega)]
      exact hK.out (.bool false) _ _ (by kernel_rfl) rfl (Q.refl _)
    refine Ja.Steps.cons (Each.yes hctx (by rfl) (by kernel_rfl) ?_) ?_
    · intro vals W hM hd K hK
      have hN : Q w4 W := (Q.refl _).drew.trans hM
      have hQ := hG4.trans hN
      have d3 : vals 3 = .bool false := hd 3 (by kernel_rfl)
      generalize vals 3 = u3 at d3 hK ⊢
      subst d3
      go_simp
      exact hK.out (.bool false) _ _ (by kernel_rfl) rfl (Q.refl _)
    refine Ja.Steps.cons (Each.yes hctx (by rfl) (by kernel_rfl) ?_) ?_
    · intro vals W hM hd K hK
      have hN : Q w4 W := (Q.refl _).drew.trans hM
      have hQ := hG4.trans hN
      obtain ⟨z0, z1, z2⟩ := (hY4.q hN).cells
      go_simp
      exact hK.out (.agg #[.bool sY, .slice AY1 kY1 cY1, .slice AY2 kY2 cY2]) _ _ (by kernel_rfl) (nY4.q hN) (Q.refl _)
    refine Ja.Steps.cons (Each.yes hctx (by rfl) (by kernel_rfl) ?_) ?_
    · intro vals W hM hd K hK
      have hN : Q w4 W := (Q.refl _).drew.trans hM
      have hQ := hG4.trans hN
      obtain ⟨z0, z1, z2⟩ := (hX4.q hN).cells
      go_simp
      exact hK.out (.agg #[.bool sX, .slice AX1 kX1 cX1, .slice AX2 kX2 cX2]) _ _ (by kernel_rfl) (nX4.q hN) (Q.refl _)
    refine Ja.Steps.cons (Each.yes hctx (by rfl) (by kernel_rfl) ?_) ?_
    · intro vals W hM hd K hK
      have hN : Q w4 W := (Q.refl _).drew.trans hM
      have hQ := hG4.trans hN
      have d5 : Nq W (vals 5) (C) := hd 5 (by kernel_rfl)
      have d6 : Nq W (vals 6) (p) := hd 6 (by kernel_rfl)
      go_simp
      (with_reducible refine (q_Cmp _ _ (C) (p) W d5 d6 B15.out).mono ?_)
      rintro e W9 ⟨rfl, hq9⟩
      exact hK.out (.int .i64 (rc (C) (p))) W9 _ (by kernel_rfl) rfl hq9
    refine Ja.Steps.cons (Each.yes hctx (by rfl) (by kernel_rfl) ?_) ?_
    · intro vals W hM hd K hK
      have hN : Q w4 W := (Q.refl _).drew.trans hM
      have hQ := hG4.trans hN
      have d7 : vals 7 = .int .i64 (rc (C) (p)) := hd 7 (by kernel_rfl)
      generalize vals 7 = u7 at d7 hK ⊢
      subst d7
      go_simp
      rw [decide_eq_false (show ¬ ((rc (C) (p) : Int) > 0) from by have := (rc_le C p).2 NR2.out; omega)]
      exact hK.out (.bool false) _ _ (by kernel_rfl) rfl (Q.refl _)
    refine Ja.Steps.cons (Each.yes hctx (by rfl) (by kernel_rfl) ?_) ?_
    · intro vals W hM hd K hK
      have hN : Q w4 W := (Q.refl _).drew.trans hM
      have hQ := hG4.trans hN
      have d4 : vals 4 = .bool false := hd 4 (by kernel_rfl)
      generalize vals 4 = u4 at d4 hK ⊢
      subst d4
      have d8 : vals 8 = .bool false := hd 8 (by kernel_rfl)
      generalize vals 8 = u8 at d8 hK ⊢
      subst d8
      go_simp
      exact hK.out (.bool false) _ _ (by kernel_rfl) rfl (Q.refl _)
    refine Ja.Steps.cons (Each.yes hctx (by rfl) (by kernel_rfl) ?_) ?_
    · intro vals W hM hd K hK
      have hN : Q w4 W := (Q.refl _).drew.trans hM
      have hQ := hG4.trans hN
      have d9 : vals 9 = .bool false := hd 9 (by kernel_rfl)
      generalize vals 9 = u9 at d9 hK ⊢
      subst d9
      go_simp
      exact hK.out (.bool false) _ _ (by kernel_rfl) rfl (Q.refl _)
    refine Ja.Steps.cons (Each.yes hctx (by rfl) (by kernel_rfl) ?_) ?_
    · intro vals W hM hd K hK
      have hN : Q w4 W := (Q.refl _).drew.trans hM
      have hQ := hG4.trans hN
      obtain ⟨z0, z1, z2⟩ := (hX4.q hN).cells
      go_simp
      exact hK.out (.agg #[.bool sX, .slice AX1 kX1 cX1, .slice AX2 kX2 cX2]) _ _ (by kernel_rfl) (nX4.q hN) (Q.refl _)
    refine Ja.Steps.cons (Each.yes hctx (by rfl) (by kernel_rfl) ?_) ?_
    · intro vals W hM hd K hK
      have hN : Q w4 W := (Q.refl _).drew.trans hM
      have hQ := hG4.trans hN
      obtain ⟨z0, z1, z2⟩ := (hE4.q hN).cells
      go_simp
      exact hK.out (.agg #[.bool sE, .slice AE1 kE1 cE1, .slice AE2 kE2 cE2]) _ _ (by kernel_rfl) (nE4.q hN) (Q.refl _)
    refine Ja.Steps.cons (Each.yes hctx (by rfl) (by kernel_rfl) ?_) ?_
    · intro vals W hM hd K hK
      have hN : Q w4 W := (Q.refl _).drew.trans hM
      have hQ := hG4.trans hN
      have d11 : Nq W (vals 11) (p) := hd 11 (by kernel_rfl)
      have d12 : Nq W (vals 12) (D) := hd 12 (by kernel_rfl)
      go_simp
      (with_reducible refine (q_Cmp _ _ (p) (D) W d11 d12 B16.out).mono ?_)
      rintro e W9 ⟨rfl, hq9⟩
      exact hK.out (.int .i64 (rc (p) (D))) W9 _ (by kernel_rfl) rfl hq9
    refine Ja.Steps.cons (Each.yes hctx (by rfl) (by kernel_rfl) ?_) ?_
    · intro vals W hM hd K hK
      have hN : Q w4 W := (Q.refl _).drew.trans hM
      have hQ := hG4.trans hN
      have d13 : vals 13 = .int .i64 (rc (p) (D)) := hd 13 (by kernel_rfl)
      generalize vals 13 = u13 at d13 hK ⊢
      subst d13
      go_simp
      rw [decide_eq_false (show ¬ ((rc (p) (D) : Int) > 0) from by have := (rc_le p D).2 NR3.out; omega)]
      exact hK.out (.bool false) _ _ (by kernel_rfl) rfl (Q.refl _)
    refine Ja.Steps.cons (Each.yes hctx (by rfl) (by kernel_rfl) ?_) ?_
    · intro vals W hM hd K hK
      have hN : Q w4 W := (Q.refl _).drew.trans hM
      have hQ := hG4.trans hN
      have d10 : vals 10 = .bool false := hd 10 (by kernel_rfl)
      generalize vals 10 = u10 at d10 hK ⊢
      subst d10
      have d14 : vals 14 = .bool false := hd 14 (by kernel_rfl)
      generalize vals 14 = u14 at d14 hK ⊢
      subst d14
      go_simp
      exact hK.out (.bool false) _ _ (by kernel_rfl) rfl (Q.refl _)
    refine Ja.Steps.cons (Each.yes hctx (by rfl) (by kernel_rfl) ?_) ?_
    · intro vals W hM hd K hK
      have hN : Q w4 W := (Q.refl _).drew.trans hM
      have hQ := hG4.trans hN
      have d15 : vals 15 = .bool false := hd 15 (by kernel_rfl)
      generalize vals 15 = u15 at d15 hK ⊢
      subst d15
      go_simp
      exact hK.out (.bool false) _ _ (by kernel_rfl) rfl (Q.refl _)
    refine Ja.Steps.cons (Each.yes hctx (by rfl) (by kernel_rfl) ?_) ?_
    · intro vals W hM hd K hK
      have hN : Q w4 W := (Q.refl _).drew.trans hM
      have hQ := hG4.trans hN
      obtain ⟨z0, z1, z2⟩ := (hE4.q hN).cells
      go_simp
      exact hK.out (.agg #[.bool sE, .slice AE1 kE1 cE1, .slice AE2 kE2 cE2]) _ _ (by kernel_rfl) (nE4.q hN) (Q.refl _)
    refine Ja.Steps.cons (Each.yes hctx (by rfl) (by kernel_rfl) ?_) ?_
    · intro vals W hM hd K hK
      have hN : Q w4 W := (Q.refl _).drew.trans hM
      have hQ := hG4.trans hN
      obtain ⟨z0, z1, z2⟩ := (hV4.q hN).cells
      go_simp
      exact hK.out (.agg #[.bool sV, .slice AV1 kV1 cV1, .slice AV2 kV2 cV2]) _ _ (by kernel_rfl) (nV4.q hN) (Q.refl _)
    refine Ja.Steps.cons (Each.yes hctx (by rfl) (by kernel_rfl) ?_) ?_
    · intro vals W hM hd K hK
      have hN : Q w4 W := (Q.refl _).drew.trans hM
      have hQ := hG4.trans hN
      have d17 : Nq W (vals 17) (D) := hd 17 (by kernel_rfl)
      have d18 : Nq W (vals 18) (B) := hd 18 (by kernel_rfl)
      go_simp
      (with_reducible refine (q_Cmp _ _ (D) (B) W d17 d18 B17.out).mono ?_)
      rintro e W9 ⟨rfl, hq9⟩
      exact hK.out (.int .i64 (rc (D) (B))) W9 _ (by kernel_rfl) rfl hq9
    refine Ja.Steps.cons (Each.yes hctx (by rfl) (by kernel_rfl) ?_) ?_
    · intro vals W hM hd K hK
      have hN : Q w4 W := (Q.refl _).drew.trans hM
      have hQ := hG4.trans hN
      have d19 : vals 19 = .int .i64 (rc (D) (B)) := hd 19 (by kernel_rfl)
      generalize vals 19 = u19 at d19 hK ⊢
      subst d19
      go_simp
      rw [decide_eq_false (show ¬ ((rc (D) (B) : Int) > 0) from by have := (rc_le D B).2 NR4.out; omega)]
      exact hK.out (.bool false) _ _ (by kernel_rfl) rfl (Q.refl _)
    refine Ja.Steps.cons (Each.yes hctx (by rfl) (by kernel_rfl) ?_) ?_
    · intro vals W hM hd K hK
      have hN : Q w4 W := (Q.refl _).drew.trans hM
      have hQ := hG4.trans hN
      have d16 : vals 16 = .bool false := hd 16 (by kernel_rfl)
      generalize vals 16 = u16 at d16 hK ⊢
      subst d16
      have d20 : vals 20 = .bool false := hd 20 (by kernel_rfl)
      generalize vals 20 = u20 at d20 hK ⊢
      subst d20
      go_simp
      exact hK.out (.bool false) _ _ (by kernel_rfl) rfl (Q.refl _)
    refine Ja.Steps.cons (Each.yes hctx (by rfl) (by kernel_rfl) ?_) ?_
    · intro vals W hM hd K hK
      have hN : Q w4 W := (Q.refl _).drew.trans hM
      have hQ := hG4.trans hN
      have d21 : vals 21 = .bool false := hd 21 (by kernel_rfl)
      generalize vals 21 = u21 at d21 hK ⊢
      subst d21
      go_simp
      exact hK.out (.bool false) _ _ (by kernel_rfl) rfl (Q.refl _)
    refine Ja.Steps.cons (Each.yes hctx (by rfl) (by kernel_rfl) ?_) ?_
    · intro vals W hM hd K hK
      have hN : Q w4 W := (Q.refl _).drew.trans hM
      have hQ := hG4.trans hN
      obtain ⟨z0, z1, z2⟩ := (hU4.q hN).cells
      go_simp
      exact hK.out (.agg #[.bool sU, .slice AU1 kU1 cU1, .slice AU2 kU2 cU2]) _ _ (by kernel_rfl) (nU4.q hN) (Q.refl _)
    refine Ja.Steps.cons (Each.yes hctx (by rfl) (by kernel_rfl) ?_) ?_
    · intro vals W hM hd K hK
      have hN : Q w4 W := (Q.refl _).drew.trans hM
      have hQ := hG4.trans hN
      have d23 : Nq W (vals 23) (A) := hd 23 (by kernel_rfl)
      go_simp
      (with_reducible refine (q_Neg _ (A) W d23 B19.out).mono ?_)
      rintro e W9 ⟨r, rfl, hr, hq9⟩
      exact hK.out r W9 _ (by kernel_rfl) hr hq9
    refine Ja.Steps.cons (Each.yes hctx (by rfl) (by kernel_rfl) ?_) ?_
    · intro vals W hM hd K hK
      have hN : Q w4 W := (Q.refl _).drew.trans hM
      have hQ := hG4.trans hN
      obtain ⟨z0, z1, z2⟩ := (hX4.q hN).cells
      go_simp
      exact hK.out (.agg #[.bool sX, .slice AX1 kX1 cX1, .slice AX2 kX2 cX2]) _ _ (by kernel_rfl) (nX4.q hN) (Q.refl _)
    refine Ja.Steps.cons (Each.yes hctx (by rfl) (by kernel_rfl) ?_) ?_
    · intro vals W hM hd K hK
      have hN : Q w4 W := (Q.refl _).drew.trans hM
      have hQ := hG4.trans hN
      have d25 : Nq W (vals 25) (p) := hd 25 (by kernel_rfl)
      go_simp
      (with_reducible refine (q_Neg _ (p) W d25 B21.out).mono ?_)
      rintro e W9 ⟨r, rfl, hr, hq9⟩
      exact hK.out r W9 _ (by kernel_rfl) hr hq9
    refine Ja.Steps.cons (Each.yes hctx (by rfl) (by kernel_rfl) ?_) ?_
    · intro vals W hM hd K hK
      have hN : Q w4 W := (Q.refl _).drew.trans hM
      have hQ := hG4.trans hN
      go_simp
      exact hK.out (.int .i64 ((m : Int))) _ _ (by kernel_rfl) rfl (Q.refl _)
    refine Ja.Steps.cons (Each.yes hctx (by rfl) (by kernel_rfl) ?_) ?_
    · intro vals W hM hd K hK
      have hN : Q w4 W := (Q.refl _).drew.trans hM
      have hQ := hG4.trans hN
      have d26 : Nq W (vals 26) (-(p)) := hd 26 (by kernel_rfl)
      have d27 : vals 27 = .int .i64 ((m : Int)) := hd 27 (by kernel_rfl)
      generalize vals 27 = u27 at d27 hK ⊢
      subst d27
      go_simp
      (with_reducible refine (q_Up _ (-(p)) ((m : Int)) W (hT.q hQ) d26 B23.out).mono ?_)
      rintro e W9 ⟨r, rfl, hr, hq9⟩
      exact hK.out r W9 _ (by kernel_rfl) (by have h8 := (by have h7 := hr; rw [show bitsN ((m : Int)) = m from bits_n HM0.out] at h7; exact h7); rw [show (up (m) (-(p)) : Rat) = -(A) from (by unfold up; rw [Rat.neg_neg, HA.out])] at h8; exact h8) hq9
    refine Ja.Steps.cons (Each.yes hctx (by rfl) (by kernel_rfl) ?_) ?_
    · intro vals W hM hd K hK
      have hN : Q w4 W := (Q.refl _).drew.trans hM
      have hQ := hG4.trans hN
      have d24 : Nq W (vals 24) (-(A)) := hd 24 (by kernel_rfl)
      have d28 : Nq W (vals 28) (-(A)) := hd 28 (by kernel_rfl)
      go_simp
      (with_reducible refine (q_equal _ _ (-(A)) W (hT.q hQ) (hPx.q hQ) d24 (by rw [show (-(A) : Rat) = -(A) from rfl]; exact d28) B24.out).mono ?_)
      rintro e W9 ⟨rfl, hq9⟩
      exact hK.out (.bool true) W9 _ (by kernel_rfl) rfl hq9
    refine Ja.Steps.cons (Each.yes hctx (by rfl) (by kernel_rfl) ?_) ?_
    · intro vals W hM hd K hK
      have hN : Q w4 W := (Q.refl _).drew.trans hM
      have hQ := hG4.trans hN
      have d29 : vals 29 = .bool true := hd 29 (by kernel_rfl)
      generalize vals 29 = u29 at d29 hK ⊢
      subst d29
      go_simp
      exact hK.out (.bool false) _ _ (by kernel_rfl) rfl (Q.refl _)
    refine Ja.Steps.cons (Each.yes hctx (by rfl) (by kernel_rfl) ?_) ?_
    · intro vals W hM hd K hK
      have hN : Q w4 W := (Q.refl _).drew.trans hM
      have hQ := hG4.trans hN
      have d22 : vals 22 = .bool false := hd 22 (by kernel_rfl)
      generalize vals 22 = u22 at d22 hK ⊢
      subst d22
      have d30 : vals 30 = .bool false := hd 30 (by kernel_rfl)
      generalize vals 30 = u30 at d30 hK ⊢
      subst d30
      go_simp
      exact hK.out (.bool false) _ _ (by kernel_rfl) rfl (Q.refl _)
    exact Ja.Steps.nil
  intro vals w5 hq5 hall
  have hG5 := hG4.trans hq5
  have hX5 := hX4.q hq5
  have nX5 := nX4.q hq5
  have hU5 := hU4.q hq5
  have nU5 := nU4.q hq5
  have hV5 := hV4.q hq5
  have nV5 := nV4.q hq5
  have hY5 := hY4.q hq5
  have nY5 := nY4.q hq5
  have hE5 := hE4.q hq5
  have nE5 := nE4.q hq5
  have f70 : vals 31 = .bool false := hall 31 (by decide)
  rw [f70]
  clear hall hq5 hG4 hX4 hU4 hV4 hY4 hE4 nX4 nU4 nV4 nY4 nE4
  go_upto_region 9 with fail
  by_cases hab : A = B
  · have HAB := Lib.hid hab; clear hab
    have B25 : Hid (64 * (sz (A) + sz (B)) + 400 ≤ LIM) := Lib.hid (by have h0 := Z2.out; have h1 := Z3.out; rw [LIM_eq]; omega)
    refine text_each (F := ?F9) ([.num (A), .num (B), .eq (.int .i64 (rc (A) (B))), .eq (.bool true)] : List Vs) (by kernel_rfl) ?hF9 ?st9 ?en9
    case hF9 =>
      intro vals
      simp only [Ja.fillL, Act.put, List.setIfInBounds_toArray, List.set_cons_zero, List.set_cons_succ, Nat.reduceAdd]
      exact rfl
    case st9 =>
      intro hctx
      refine Ja.Steps.cons (Each.yes hctx (by rfl) (by kernel_rfl) ?_) ?_
      · intro vals W hM hd K hK
        have hN : Q w5 W := hM
        have hQ := hG5.trans hN
        obtain ⟨z0, z1, z2⟩ := (hU5.q hN).cells
        go_simp
        exact hK.out (.agg #[.bool sU, .slice AU1 kU1 cU1, .slice AU2 kU2 cU2]) _ _ (by kernel_rfl) (nU5.q hN) (Q.refl _)
      refine Ja.Steps.cons (Each.yes hctx (by rfl) (by kernel_rfl) ?_) ?_
      · intro vals W hM hd K hK
        have hN : Q w5 W := hM
        have hQ := hG5.trans hN
        obtain ⟨z0, z1, z2⟩ := (hV5.q hN).cells
        go_simp
        exact hK.out (.agg #[.bool sV, .slice AV1 kV1 cV1, .slice AV2 kV2 cV2]) _ _ (by kernel_rfl) (nV5.q hN) (Q.refl _)
      refine Ja.Steps.cons (Each.yes hctx (by rfl) (by kernel_rfl) ?_) ?_
      · intro vals W hM hd K hK
        have hN : Q w5 W := hM
        have hQ := hG5.trans hN
        have d0 : Nq W (vals 0) (A) := hd 0 (by kernel_rfl)
        have d1 : Nq W (vals 1) (B) := hd 1 (by kernel_rfl)
        go_simp
        (with_reducible refine (q_Cmp _ _ (A) (B) W d0 d1 B25.out).mono ?_)
        rintro e W9 ⟨rfl, hq9⟩
        exact hK.out (.int .i64 (rc (A) (B))) W9 _ (by kernel_rfl) rfl hq9
      refine Ja.Steps.cons (Each.yes hctx (by rfl) (by kernel_rfl) ?_) ?_
      · intro vals W hM hd K hK
        have hN : Q w5 W := hM
        have hQ := hG5.trans hN
        have d2 : vals 2 = .int .i64 (rc (A) (B)) := hd 2 (by kernel_rfl)
        generalize vals 2 = u2 at d2 hK ⊢
        subst d2
        go_simp
        rw [show (((rc (A) (B)) : Int) == (0)) = true from beq_iff_eq.2 ((rc_zero A B).2 HAB.out)]
        exact hK.out (.bool true) _ _ (by kernel_rfl) rfl (Q.refl _)
      exact Ja.Steps.nil
    intro vals w6 hq6 hall
    have hG6 := hG5.trans hq6
    have hX6 := hX5.q hq6
    have nX6 := nX5.q hq6
    have hU6 := hU5.q hq6
    have nU6 := nU5.q hq6
    have hV6 := hV5.q hq6
    have nV6 := nV5.q hq6
    have hY6 := hY5.q hq6
    have nY6 := nY5.q hq6
    have hE6 := hE5.q hq6
    have nE6 := nE5.q hq6
    have f74 : vals 3 = .bool true := hall 3 (by decide)
    rw [f74]
    clear hall hq6 hG5 hX5 hU5 hV5 hY5 hE5 nX5 nU5 nV5 nY5 nE5
    go_upto_region 10 with fail
    have B26 : Hid (2000 * (sz (A)) + 500000 ≤ LIM) := Lib.hid (by have h0 := Z2.out; rw [LIM_eq]; omega)
    refine text_each (F := ?F10) ([.num (A), .num (p), .eq (.bool true), .eq (.bool true), .eq (.bool true), .eq (.bool true), .eq (.bool true)] : List Vs) (by kernel_rfl) ?hF10 ?st10 ?en10
    case hF10 =>
      intro vals
      simp only [Ja.fillL, Act.put, List.setIfInBounds_toArray, List.set_cons_zero, List.set_cons_succ, Nat.reduceAdd]
      exact rfl
    case st10 =>
      intro hctx
      refine Ja.Steps.cons (Each.yes hctx (by rfl) (by kernel_rfl) ?_) ?_
      · intro vals W hM hd K hK
        have hN : Q w6 W := hM
        have hQ := hG6.trans hN
        obtain ⟨z0, z1, z2⟩ := (hU6.q hN).cells
        go_simp
        exact hK.out (.agg #[.bool sU, .slice AU1 kU1 cU1, .slice AU2 kU2 cU2]) _ _ (by kernel_rfl) (nU6.q hN) (Q.refl _)
      refine Ja.Steps.cons (Each.yes hctx (by rfl) (by kernel_rfl) ?_) ?_
      · intro vals W hM hd K hK
        have hN : Q w6 W := hM
        have hQ := hG6.trans hN
        obtain ⟨z0, z1, z2⟩ := (hX6.q hN).cells
        go_simp
        exact hK.out (.agg #[.bool sX, .slice AX1 kX1 cX1, .slice AX2 kX2 cX2]) _ _ (by kernel_rfl) (nX6.q hN) (Q.refl _)
      refine Ja.Steps.cons (Each.yes hctx (by rfl) (by kernel_rfl) ?_) ?_
      · intro vals W hM hd K hK
        have hN : Q w6 W := hM
        have hQ := hG6.trans hN
        have d0 : Nq W (vals 0) (A) := hd 0 (by kernel_rfl)
        have d1 : Nq W (vals 1) (p) := hd 1 (by kernel_rfl)
        go_simp
        (with_reducible refine (q_equal _ _ (A) W (hT.q hQ) (hPx.q hQ) d0 (by rw [show (A : Rat) = p from NR5.out HAB.out]; exact d1) B26.out).mono ?_)
        rintro e W9 ⟨rfl, hq9⟩
        exact hK.out (.bool true) W9 _ (by kernel_rfl) rfl hq9
      refine Ja.Steps.cons (Each.yes hctx (by rfl) (by kernel_rfl) ?_) ?_
      · intro vals W hM hd K hK
        have hN : Q w6 W := hM
        have hQ := hG6.trans hN
        have d2 : vals 2 = .bool true := hd 2 (by kernel_rfl)
        generalize vals 2 = u2 at d2 hK ⊢
        subst d2
        go_simp
        exact hK.out (.bool true) _ _ (by kernel_rfl) rfl (Q.refl _)
      refine Ja.Steps.cons (Each.yes hctx (by rfl) (by kernel_rfl) ?_) ?_
      · intro vals W hM hd K hK
        have hN : Q w6 W := hM
        have hQ := hG6.trans hN
        go_simp
        (with_reducible refine (q_Awake W (hT.q hQ) (hPx.q hQ)).mono ?_)
        rintro e W9 ⟨rfl, hq9⟩
        exact hK.out (.bool true) W9 _ (by kernel_rfl) rfl hq9
      refine Ja.Steps.cons (Each.yes hctx (by rfl) (by kernel_rfl) ?_) ?_
      · intro vals W hM hd K hK
        have hN : Q w6 W := hM
        have hQ := hG6.trans hN
        have d3 : vals 3 = .bool true := hd 3 (by kernel_rfl)
        generalize vals 3 = u3 at d3 hK ⊢
        subst d3
        have d4 : vals 4 = .bool true := hd 4 (by kernel_rfl)
        generalize vals 4 = u4 at d4 hK ⊢
        subst d4
        go_simp
        exact hK.out (.bool true) _ _ (by kernel_rfl) rfl (Q.refl _)
      refine Ja.Steps.cons (Each.yes hctx (by rfl) (by kernel_rfl) ?_) ?_
      · intro vals W hM hd K hK
        have hN : Q w6 W := hM
        have hQ := hG6.trans hN
        have d5 : vals 5 = .bool true := hd 5 (by kernel_rfl)
        generalize vals 5 = u5 at d5 hK ⊢
        subst d5
        go_simp
        exact hK.out (.bool true) _ _ (by kernel_rfl) rfl (Q.refl _)
      exact Ja.Steps.nil
    intro vals w7 hq7 hall
    have hG7 := hG6.trans hq7
    have hX7 := hX6.q hq7
    have nX7 := nX6.q hq7
    have hU7 := hU6.q hq7
    have nU7 := nU6.q hq7
    have hV7 := hV6.q hq7
    have nV7 := nV6.q hq7
    have hY7 := hY6.q hq7
    have nY7 := nY6.q hq7
    have hE7 := hE6.q hq7
    have nE7 := nE6.q hq7
    have f4 : vals 6 = .bool true := hall 6 (by decide)
    rw [f4]
    clear hall hq7 hG6 hX6 hU6 hV6 hY6 hE6 nX6 nU6 nV6 nY6 nE6
    go_wp2_with fail
    go_ret
    exact ⟨ret_bool rfl, by rw [← hw0]; exact hG7⟩
  have HAB := Lib.hid hab; clear hab
  have B25 : Hid (64 * (sz (A) + sz (B)) + 400 ≤ LIM) := Lib.hid (by have h0 := Z2.out; have h1 := Z3.out; rw [LIM_eq]; omega)
  refine text_each (F := ?F11) ([.num (A), .num (B), .eq (.int .i64 (rc (A) (B))), .eq (.bool false)] : List Vs) (by kernel_rfl) ?hF11 ?st11 ?en11
  case hF11 =>
    intro vals
    simp only [Ja.fillL, Act.put, List.setIfInBounds_toArray, List.set_cons_zero, List.set_cons_succ, Nat.reduceAdd]
    exact rfl
  case st11 =>
    intro hctx
    refine Ja.Steps.cons (Each.yes hctx (by rfl) (by kernel_rfl) ?_) ?_
    · intro vals W hM hd K hK
      have hN : Q w5 W := hM
      have hQ := hG5.trans hN
      obtain ⟨z0, z1, z2⟩ := (hU5.q hN).cells
      go_simp
      exact hK.out (.agg #[.bool sU, .slice AU1 kU1 cU1, .slice AU2 kU2 cU2]) _ _ (by kernel_rfl) (nU5.q hN) (Q.refl _)
    refine Ja.Steps.cons (Each.yes hctx (by rfl) (by kernel_rfl) ?_) ?_
    · intro vals W hM hd K hK
      have hN : Q w5 W := hM
      have hQ := hG5.trans hN
      obtain ⟨z0, z1, z2⟩ := (hV5.q hN).cells
      go_simp
      exact hK.out (.agg #[.bool sV, .slice AV1 kV1 cV1, .slice AV2 kV2 cV2]) _ _ (by kernel_rfl) (nV5.q hN) (Q.refl _)
    refine Ja.Steps.cons (Each.yes hctx (by rfl) (by kernel_rfl) ?_) ?_
    · intro vals W hM hd K hK
      have hN : Q w5 W := hM
      have hQ := hG5.trans hN
      have d0 : Nq W (vals 0) (A) := hd 0 (by kernel_rfl)
      have d1 : Nq W (vals 1) (B) := hd 1 (by kernel_rfl)
      go_simp
      (with_reducible refine (q_Cmp _ _ (A) (B) W d0 d1 B25.out).mono ?_)
      rintro e W9 ⟨rfl, hq9⟩
      exact hK.out (.int .i64 (rc (A) (B))) W9 _ (by kernel_rfl) rfl hq9
    refine Ja.Steps.cons (Each.yes hctx (by rfl) (by kernel_rfl) ?_) ?_
    · intro vals W hM hd K hK
      have hN : Q w5 W := hM
      have hQ := hG5.trans hN
      have d2 : vals 2 = .int .i64 (rc (A) (B)) := hd 2 (by kernel_rfl)
      generalize vals 2 = u2 at d2 hK ⊢
      subst d2
      go_simp
      rw [show (((rc (A) (B)) : Int) == (0)) = false from beq_eq_false_iff_ne.2 (fun h => HAB.out ((rc_zero A B).1 h))]
      exact hK.out (.bool false) _ _ (by kernel_rfl) rfl (Q.refl _)
    exact Ja.Steps.nil
  intro vals w6 hq6 hall
  have hG6 := hG5.trans hq6
  have hX6 := hX5.q hq6
  have nX6 := nX5.q hq6
  have hU6 := hU5.q hq6
  have nU6 := nU5.q hq6
  have hV6 := hV5.q hq6
  have nV6 := nV5.q hq6
  have hY6 := hY5.q hq6
  have nY6 := nY5.q hq6
  have hE6 := hE5.q hq6
  have nE6 := nE5.q hq6
  have f74 : vals 3 = .bool false := hall 3 (by decide)
  rw [f74]
  clear hall hq6 hG5 hX5 hU5 hV5 hY5 hE5 nX5 nU5 nV5 nY5 nE5
  go_upto_region 11 with fail
  obtain ⟨m1, m2, m3, m4, m5, m6⟩ := NR6.out HAB.out
  have M1 := Lib.hid m1; clear m1
  have M2 := Lib.hid m2; clear m2
  have M3 := Lib.hid m3; clear m3
  have M4 := Lib.hid m4; clear m4
  have M5 := Lib.hid m5; clear m5
  have M6 := Lib.hid m6; clear m6
  have Z26 : Hid (sz ((A) + (B)) ≤ 560001) := Lib.hid (by have h9 := sz_add (A) (B); have h0 := Z2.out; have h1 := Z3.out; omega)
  have Z27 : Hid (sz (((A) + (B)) * (1 / 2)) ≤ 560005) := Lib.hid (by have h9 := sz_mul ((A) + (B)) (1 / 2); have h8 := sz_half; have h0 := Z26.out; omega)
  have B28 : Hid (64 * (sz (A) + sz (B)) + 400 ≤ LIM) := Lib.hid (by have h0 := Z2.out; have h1 := Z3.out; rw [LIM_eq]; omega)
  have hAt6 : At0 w [{ al := none, g := gX, big := false, row := .agg #[.bool sX, .slice AX1 kX1 cX1, .slice AX2 kX2 cX2], st := 1000, src := 0 }, { al := none, g := gU, big := false, row := .agg #[.bool sU, .slice AU1 kU1 cU1, .slice AU2 kU2 cU2], st := 1000, src := 0 }, { al := none, g := gV, big := false, row := .agg #[.bool sV, .slice AV1 kV1 cV1, .slice AV2 kV2 cV2], st := 1000, src := 0 }, { al := none, g := gY, big := false, row := .agg #[.bool sY, .slice AY1 kY1 cY1, .slice AY2 kY2 cY2], st := 1000, src := 0 }, { al := none, g := gE, big := false, row := .agg #[.bool sE, .slice AE1 kE1 cE1, .slice AE2 kE2 cE2], st := 1000, src := 0 }, { al := some 4, g := 0, big := false, row := .agg #[.bool false, .slice none 0 0, .slice none 0 0], st := 5, src := 3 }] [(.agg #[.bool sX, .slice AX1 kX1 cX1, .slice AX2 kX2 cX2], .num (p)), (.agg #[.bool sU, .slice AU1 kU1 cU1, .slice AU2 kU2 cU2], .num (A)), (.agg #[.bool sV, .slice AV1 kV1 cV1, .slice AV2 kV2 cV2], .num (B)), (.agg #[.bool sY, .slice AY1 kY1 cY1, .slice AY2 kY2 cY2], .num (C)), (.agg #[.bool sE, .slice AE1 kE1 cE1, .slice AE2 kE2 cE2], .num (D))] w6 := At0.of hG6 ⟨fun _ => ⟨by dsimp only; omega, NbV.of hX6⟩, fun _ => ⟨by dsimp only; omega, NbV.of hU6⟩, fun _ => ⟨by dsimp only; omega, NbV.of hV6⟩, fun _ => ⟨by dsimp only; omega, NbV.of hY6⟩, fun _ => ⟨by dsimp only; omega, NbV.of hE6⟩, fun h => (by cases h), trivial⟩ (by (simp [Apart0] <;> omega)) ⟨nX6, nU6, nV6, nY6, nE6, trivial⟩
  clear hG6 hX6 hU6 hV6 hY6 hE6 nX6 nU6 nV6 nY6 nE6
  refine text_cells (F := ?F12) w ([.num (A), .num (B), .span (A) (B), .num (((A) + (B)) * (1 / 2)), .any, .any] : List Vs) _ _ (by kernel_rfl) hAt6 ?hF12 ?st12 ?en12
  case hF12 =>
    intro vals
    simp only [Ja.fillL, Act.put, List.setIfInBounds_toArray, List.set_cons_zero, List.set_cons_succ, Nat.reduceAdd]
    exact rfl
  case st12 =>
    clear hAt6
    intro hctx
    refine Ja.Steps.cons (JC.other hctx (by kernel_rfl) (by rfl) (by kernel_rfl) (by kernel_rfl) ?_) ?_
    · intro L vals W hL hJ hd K hK
      have hQ := hJ.q
      obtain ⟨z0, z1, z2⟩ := (NbV.out (hJ.still 1 rfl rfl (Nat.le_of_ble_eq_true (by kernel_rfl)))).cells
      go_simp
      exact hK.out (.agg #[.bool sU, .slice AU1 kU1 cU1, .slice AU2 kU2 cU2]) _ _ (by kernel_rfl) (hJ.kept 1 rfl) (Q.refl _)
    refine Ja.Steps.cons (JC.other hctx (by kernel_rfl) (by rfl) (by kernel_rfl) (by kernel_rfl) ?_) ?_
    · intro L vals W hL hJ hd K hK
      have hQ := hJ.q
      obtain ⟨z0, z1, z2⟩ := (NbV.out (hJ.still 2 rfl rfl (Nat.le_of_ble_eq_true (by kernel_rfl)))).cells
      go_simp
      exact hK.out (.agg #[.bool sV, .slice AV1 kV1 cV1, .slice AV2 kV2 cV2]) _ _ (by kernel_rfl) (hJ.kept 2 rfl) (Q.refl _)
    refine Ja.Steps.cons (JC.other hctx (by kernel_rfl) (by rfl) (by kernel_rfl) (by kernel_rfl) ?_) ?_
    · intro L vals W hL hJ hd K hK
      have hQ := hJ.q
      have d0 : Nq W (vals 0) (A) := hd 0 (by kernel_rfl)
      have d1 : Nq W (vals 1) (B) := hd 1 (by kernel_rfl)
      generalize vals 0 = u0 at d0 hK ⊢
      generalize vals 1 = u1 at d1 hK ⊢
      obtain ⟨e1, C1, i1, j1, C2, i2, j2, rfl, -⟩ := Nq.form d0
      obtain ⟨e2, C3, i3, j3, C4, i4, j4, rfl, -⟩ := Nq.form d1
      go_simp
      exact hK.out (.agg #[.bool e1, .slice C1 i1 j1, .slice C2 i2 j2, .bool e2, .slice C3 i3 j3, .slice C4 i4 j4]) _ _ (by kernel_rfl) ⟨_, _, _, _, _, _, _, _, _, _, _, _, _, _, rfl, d0, d1⟩ (Q.refl _)
    refine Ja.Steps.cons (JC.other hctx (by kernel_rfl) (by rfl) (by kernel_rfl) (by kernel_rfl) ?_) ?_
    · intro L vals W hL hJ hd K hK
      have hQ := hJ.q
      have d2 : Ns W (vals 2) (A) (B) := hd 2 (by kernel_rfl)
      go_simp
      (with_reducible refine (q_SpanMid _ (A) (B) W (hT.q hQ) d2 B28.out).mono ?_)
      rintro e W9 ⟨r, rfl, hr, hq9⟩
      exact hK.out r W9 _ (by kernel_rfl) hr hq9
    refine Ja.Steps.cons (JC.alloc (n := 5) (cells := #[.bool false, .slice none 0 0, .slice none 0 0]) (t := 25) hctx (by kernel_rfl) (by rfl) (by kernel_rfl) (by rfl) (by rfl) (by kernel_rfl) (by rfl) (fun W => NbV.of (Nb.new W _ _ _)) ?_) ?_
    · intro vals W K hK
      go_simp
      exact hK.out _ (by kernel_rfl)
    refine Ja.Steps.cons (JC.store (n := 5) hctx (by kernel_rfl) (by rfl) (by kernel_rfl) (by rfl) (by rfl) (by kernel_rfl) (by rfl) ?_) ?_
    · intro L vals W g old hJ hp ho hs K hK
      have hs9 : Nq W (vals 3) (((A) + (B)) * (1 / 2)) := hs
      have hp9 : vals 4 = .pointer (some ⟨g, 0, none⟩) := hp
      dsimp only at hK
      generalize vals 4 = ua at hp9 hK ⊢
      subst hp9
      generalize vals 3 = uj at hs9 hK ⊢
      obtain ⟨e1, C1, i1, j1, C2, i2, j2, rfl, -⟩ := Nq.form hs9
      obtain ⟨f1, D1, x1, y1, D2, x2, y2, ho1, hb⟩ := ho
      have fz := hb.frozen
      obtain ⟨r0, r1, r2⟩ := hb.cells
      clear hb ho1
      go_simp
      exact hK.out undef _ _ (by kernel_rfl) PutV.of
    exact Ja.Steps.nil
  intro L vals w7 hall hJ
  clear hAt6
  have hG7 := hJ.q
  have hX7 : Nb w7 (gX) (sX) (.slice AX1 kX1 cX1) (.slice AX2 kX2 cX2) := NbV.out (hJ.still 0 rfl rfl (Nat.le_of_ble_eq_true (by kernel_rfl)))
  have nX7 : Nq w7 (.agg #[.bool sX, .slice AX1 kX1 cX1, .slice AX2 kX2 cX2]) (p) := hJ.kept 0 rfl
  have hU7 : Nb w7 (gU) (sU) (.slice AU1 kU1 cU1) (.slice AU2 kU2 cU2) := NbV.out (hJ.still 1 rfl rfl (Nat.le_of_ble_eq_true (by kernel_rfl)))
  have nU7 : Nq w7 (.agg #[.bool sU, .slice AU1 kU1 cU1, .slice AU2 kU2 cU2]) (A) := hJ.kept 1 rfl
  have hV7 : Nb w7 (gV) (sV) (.slice AV1 kV1 cV1) (.slice AV2 kV2 cV2) := NbV.out (hJ.still 2 rfl rfl (Nat.le_of_ble_eq_true (by kernel_rfl)))
  have nV7 : Nq w7 (.agg #[.bool sV, .slice AV1 kV1 cV1, .slice AV2 kV2 cV2]) (B) := hJ.kept 2 rfl
  have hY7 : Nb w7 (gY) (sY) (.slice AY1 kY1 cY1) (.slice AY2 kY2 cY2) := NbV.out (hJ.still 3 rfl rfl (Nat.le_of_ble_eq_true (by kernel_rfl)))
  have nY7 : Nq w7 (.agg #[.bool sY, .slice AY1 kY1 cY1, .slice AY2 kY2 cY2]) (C) := hJ.kept 3 rfl
  have hE7 : Nb w7 (gE) (sE) (.slice AE1 kE1 cE1) (.slice AE2 kE2 cE2) := NbV.out (hJ.still 4 rfl rfl (Nat.le_of_ble_eq_true (by kernel_rfl)))
  have nE7 : Nq w7 (.agg #[.bool sE, .slice AE1 kE1 cE1, .slice AE2 kE2 cE2]) (D) := hJ.kept 4 rfl
  obtain ⟨gD, eD, geD, qD⟩ := hJ.fresh 5 rfl rfl (hall 4 (by decide)) (hall 5 (by decide))
  have nD7 : Nq w7 (vals 3) (((A) + (B)) * (1 / 2)) := hJ.s 3 (hall 3 (by decide))
  obtain ⟨sD, AD1, kD1, cD1, AD2, kD2, cD2, yD, hD7⟩ := qD
  change Nb w7 (gD) (sD) (.slice AD1 kD1 cD1) (.slice AD2 kD2 cD2) at hD7
  try dsimp only at yD
  rw [yD] at nD7
  clear yD
  have neDX : gD ≠ gX := hJ.ne 5 0 (by decide) rfl rfl (hall 4 (by decide)) rfl eD rfl
  have neDU : gD ≠ gU := hJ.ne 5 1 (by decide) rfl rfl (hall 4 (by decide)) rfl eD rfl
  have neDV : gD ≠ gV := hJ.ne 5 2 (by decide) rfl rfl (hall 4 (by decide)) rfl eD rfl
  have neDY : gD ≠ gY := hJ.ne 5 3 (by decide) rfl rfl (hall 4 (by decide)) rfl eD rfl
  have neDE : gD ≠ gE := hJ.ne 5 4 (by decide) rfl rfl (hall 4 (by decide)) rfl eD rfl
  rw [eD]
  clear eD
  clear hall hJ
  go_upto_region 12 with fail
  have B29 : Hid (64 * (sz (A) + sz (p)) + 400 ≤ LIM) := Lib.hid (by have h0 := Z2.out; have h1 := Z1.out; rw [LIM_eq]; omega)
  have B30 : Hid (64 * (sz (p) + sz (B)) + 400 ≤ LIM) := Lib.hid (by have h0 := Z1.out; have h1 := Z3.out; rw [LIM_eq]; omega)
  have Z31 : Hid (sz (dn (m) (((A) + (B)) * (1 / 2))) ≤ 35844326) := Lib.hid (by have h9 := (sz_dn_up (((A) + (B)) * (1 / 2)) (HM0.out.1)).1; have h8 := HM0.out.2; have h0 := Z27.out; omega)
  have B32 : Hid (2000 * (sz (((A) + (B)) * (1 / 2))) + 500000 ≤ LIM) := Lib.hid (by have h0 := Z27.out; rw [LIM_eq]; omega)
  have B33 : Hid (2000 * (sz (A)) + 500000 ≤ LIM) := Lib.hid (by have h0 := Z2.out; rw [LIM_eq]; omega)
  have Z34 : Hid (sz (up (m) (((A) + (B)) * (1 / 2))) ≤ 35844326) := Lib.hid (by have h9 := (sz_dn_up (((A) + (B)) * (1 / 2)) (HM0.out.1)).2; have h8 := HM0.out.2; have h0 := Z27.out; omega)
  have B35 : Hid (2000 * (sz (((A) + (B)) * (1 / 2))) + 500000 ≤ LIM) := Lib.hid (by have h0 := Z27.out; rw [LIM_eq]; omega)
  have B36 : Hid (2000 * (sz (B)) + 500000 ≤ LIM) := Lib.hid (by have h0 := Z3.out; rw [LIM_eq]; omega)
  have Z37 : Hid (sz (dn (m) (A)) ≤ 8964006) := Lib.hid (by have h9 := (sz_dn_up (A) (HM0.out.1)).1; have h8 := HM0.out.2; have h0 := Z2.out; omega)
  have B38 : Hid (2000 * (sz (A)) + 500000 ≤ LIM) := Lib.hid (by have h0 := Z2.out; rw [LIM_eq]; omega)
  have B39 : Hid (2000 * (sz (A)) + 500000 ≤ LIM) := Lib.hid (by have h0 := Z2.out; rw [LIM_eq]; omega)
  have Z40 : Hid (sz (up (m) (B)) ≤ 8964006) := Lib.hid (by have h9 := (sz_dn_up (B) (HM0.out.1)).2; have h8 := HM0.out.2; have h0 := Z3.out; omega)
  have B41 : Hid (2000 * (sz (B)) + 500000 ≤ LIM) := Lib.hid (by have h0 := Z3.out; rw [LIM_eq]; omega)
  have B42 : Hid (2000 * (sz (B)) + 500000 ≤ LIM) := Lib.hid (by have h0 := Z3.out; rw [LIM_eq]; omega)
  refine region_each (F := ?F13) ([.num (A), .num (p), .eq (.int .i64 (rc (A) (p))), .eq (.bool true), .eq (.bool true), .num (p), .num (B), .eq (.int .i64 (rc (p) (B))), .eq (.bool true), .eq (.bool true), .eq (.bool true), .num (((A) + (B)) * (1 / 2)), .eq (.int .i64 ((m : Int))), .num (A), .num (A), .eq (.bool true), .eq (.bool true), .eq (.bool true), .num (((A) + (B)) * (1 / 2)), .eq (.int .i64 ((m : Int))), .num (B), .num (B), .eq (.bool true), .eq (.bool true), .eq (.bool true), .num (A), .eq (.int .i64 ((m : Int))), .num (A), .num (A), .eq (.bool true), .eq (.bool true), .eq (.bool true), .num (B), .eq (.int .i64 ((m : Int))), .num (B), .num (B), .eq (.bool true), .eq (.bool true), .eq (.bool true), .eq (.bool true), .eq (.bool true), .eq (.bool true)] : List Vs) (by kernel_rfl) (by kernel_rfl) ?hF13 ?st13 ?en13
  case hF13 =>
    intro vals
    simp only [Ja.fillL, Act.put, List.setIfInBounds_toArray, List.set_cons_zero, List.set_cons_succ, Nat.reduceAdd]
    exact rfl
  case st13 =>
    intro hctx
    refine Ja.Steps.cons (Each.yes hctx (by rfl) (by kernel_rfl) ?_) ?_
    · intro vals W hM hd K hK
      have hN : Q w7 W := (Q.refl _).drew.trans hM
      have hQ := hG7.trans hN
      obtain ⟨z0, z1, z2⟩ := (hU7.q hN).cells
      go_simp
      exact hK.out (.agg #[.bool sU, .slice AU1 kU1 cU1, .slice AU2 kU2 cU2]) _ _ (by kernel_rfl) (nU7.q hN) (Q.refl _)
    refine Ja.Steps.cons (Each.yes hctx (by rfl) (by kernel_rfl) ?_) ?_
    · intro vals W hM hd K hK
      have hN : Q w7 W := (Q.refl _).drew.trans hM
      have hQ := hG7.trans hN
      obtain ⟨z0, z1, z2⟩ := (hX7.q hN).cells
      go_simp
      exact hK.out (.agg #[.bool sX, .slice AX1 kX1 cX1, .slice AX2 kX2 cX2]) _ _ (by kernel_rfl) (nX7.q hN) (Q.refl _)
    refine Ja.Steps.cons (Each.yes hctx (by rfl) (by kernel_rfl) ?_) ?_
    · intro vals W hM hd K hK
      have hN : Q w7 W := (Q.refl _).drew.trans hM
      have hQ := hG7.trans hN
      have d0 : Nq W (vals 0) (A) := hd 0 (by kernel_rfl)
      have d1 : Nq W (vals 1) (p) := hd 1 (by kernel_rfl)
      go_simp
      (with_reducible refine (q_Cmp _ _ (A) (p) W d0 d1 B29.out).mono ?_)
      rintro e W9 ⟨rfl, hq9⟩
      exact hK.out (.int .i64 (rc (A) (p))) W9 _ (by kernel_rfl) rfl hq9
    refine Ja.Steps.cons (Each.yes hctx (by rfl) (by kernel_rfl) ?_) ?_
    · intro vals W hM hd K hK
      have hN : Q w7 W := (Q.refl _).drew.trans hM
      have hQ := hG7.trans hN
      have d2 : vals 2 = .int .i64 (rc (A) (p)) := hd 2 (by kernel_rfl)
      generalize vals 2 = u2 at d2 hK ⊢
      subst d2
      go_simp
      rw [decide_eq_true (show ((rc (A) (p) : Int) < 0) from by rw [rc_lt M1.out]; decide)]
      exact hK.out (.bool true) _ _ (by kernel_rfl) rfl (Q.refl _)
    refine Ja.Steps.cons (Each.yes hctx (by rfl) (by kernel_rfl) ?_) ?_
    · intro vals W hM hd K hK
      have hN : Q w7 W := (Q.refl _).drew.trans hM
      have hQ := hG7.trans hN
      have d3 : vals 3 = .bool true := hd 3 (by kernel_rfl)
      generalize vals 3 = u3 at d3 hK ⊢
      subst d3
      go_simp
      exact hK.out (.bool true) _ _ (by kernel_rfl) rfl (Q.refl _)
    refine Ja.Steps.cons (Each.yes hctx (by rfl) (by kernel_rfl) ?_) ?_
    · intro vals W hM hd K hK
      have hN : Q w7 W := (Q.refl _).drew.trans hM
      have hQ := hG7.trans hN
      obtain ⟨z0, z1, z2⟩ := (hX7.q hN).cells
      go_simp
      exact hK.out (.agg #[.bool sX, .slice AX1 kX1 cX1, .slice AX2 kX2 cX2]) _ _ (by kernel_rfl) (nX7.q hN) (Q.refl _)
    refine Ja.Steps.cons (Each.yes hctx (by rfl) (by kernel_rfl) ?_) ?_
    · intro vals W hM hd K hK
      have hN : Q w7 W := (Q.refl _).drew.trans hM
      have hQ := hG7.trans hN
      obtain ⟨z0, z1, z2⟩ := (hV7.q hN).cells
      go_simp
      exact hK.out (.agg #[.bool sV, .slice AV1 kV1 cV1, .slice AV2 kV2 cV2]) _ _ (by kernel_rfl) (nV7.q hN) (Q.refl _)
    refine Ja.Steps.cons (Each.yes hctx (by rfl) (by kernel_rfl) ?_) ?_
    · intro vals W hM hd K hK
      have hN : Q w7 W := (Q.refl _).drew.trans hM
      have hQ := hG7.trans hN
      have d5 : Nq W (vals 5) (p) := hd 5 (by kernel_rfl)
      have d6 : Nq W (vals 6) (B) := hd 6 (by kernel_rfl)
      go_simp
      (with_reducible refine (q_Cmp _ _ (p) (B) W d5 d6 B30.out).mono ?_)
      rintro e W9 ⟨rfl, hq9⟩
      exact hK.out (.int .i64 (rc (p) (B))) W9 _ (by kernel_rfl) rfl hq9
    refine Ja.Steps.cons (Each.yes hctx (by rfl) (by kernel_rfl) ?_) ?_
    · intro vals W hM hd K hK
      have hN : Q w7 W := (Q.refl _).drew.trans hM
      have hQ := hG7.trans hN
      have d7 : vals 7 = .int .i64 (rc (p) (B)) := hd 7 (by kernel_rfl)
      generalize vals 7 = u7 at d7 hK ⊢
      subst d7
      go_simp
      rw [decide_eq_true (show ((rc (p) (B) : Int) < 0) from by rw [rc_lt M2.out]; decide)]
      exact hK.out (.bool true) _ _ (by kernel_rfl) rfl (Q.refl _)
    refine Ja.Steps.cons (Each.yes hctx (by rfl) (by kernel_rfl) ?_) ?_
    · intro vals W hM hd K hK
      have hN : Q w7 W := (Q.refl _).drew.trans hM
      have hQ := hG7.trans hN
      have d4 : vals 4 = .bool true := hd 4 (by kernel_rfl)
      generalize vals 4 = u4 at d4 hK ⊢
      subst d4
      have d8 : vals 8 = .bool true := hd 8 (by kernel_rfl)
      generalize vals 8 = u8 at d8 hK ⊢
      subst d8
      go_simp
      exact hK.out (.bool true) _ _ (by kernel_rfl) rfl (Q.refl _)
    refine Ja.Steps.cons (Each.yes hctx (by rfl) (by kernel_rfl) ?_) ?_
    · intro vals W hM hd K hK
      have hN : Q w7 W := (Q.refl _).drew.trans hM
      have hQ := hG7.trans hN
      have d9 : vals 9 = .bool true := hd 9 (by kernel_rfl)
      generalize vals 9 = u9 at d9 hK ⊢
      subst d9
      go_simp
      exact hK.out (.bool true) _ _ (by kernel_rfl) rfl (Q.refl _)
    refine Ja.Steps.cons (Each.yes hctx (by rfl) (by kernel_rfl) ?_) ?_
    · intro vals W hM hd K hK
      have hN : Q w7 W := (Q.refl _).drew.trans hM
      have hQ := hG7.trans hN
      obtain ⟨z0, z1, z2⟩ := (hD7.q hN).cells
      go_simp
      exact hK.out (.agg #[.bool sD, .slice AD1 kD1 cD1, .slice AD2 kD2 cD2]) _ _ (by kernel_rfl) (nD7.q hN) (Q.refl _)
    refine Ja.Steps.cons (Each.yes hctx (by rfl) (by kernel_rfl) ?_) ?_
    · intro vals W hM hd K hK
      have hN : Q w7 W := (Q.refl _).drew.trans hM
      have hQ := hG7.trans hN
      go_simp
      exact hK.out (.int .i64 ((m : Int))) _ _ (by kernel_rfl) rfl (Q.refl _)
    refine Ja.Steps.cons (Each.yes hctx (by rfl) (by kernel_rfl) ?_) ?_
    · intro vals W hM hd K hK
      have hN : Q w7 W := (Q.refl _).drew.trans hM
      have hQ := hG7.trans hN
      have d11 : Nq W (vals 11) (((A) + (B)) * (1 / 2)) := hd 11 (by kernel_rfl)
      have d12 : vals 12 = .int .i64 ((m : Int)) := hd 12 (by kernel_rfl)
      generalize vals 12 = u12 at d12 hK ⊢
      subst d12
      go_simp
      (with_reducible refine (q_Down _ (((A) + (B)) * (1 / 2)) ((m : Int)) W (hT.q hQ) d11 B32.out).mono ?_)
      rintro e W9 ⟨r, rfl, hr, hq9⟩
      exact hK.out r W9 _ (by kernel_rfl) (by have h8 := (by have h7 := hr; rw [show bitsN ((m : Int)) = m from bits_n HM0.out] at h7; exact h7); rw [show (dn (m) (((A) + (B)) * (1 / 2)) : Rat) = A from M3.out] at h8; exact h8) hq9
    refine Ja.Steps.cons (Each.yes hctx (by rfl) (by kernel_rfl) ?_) ?_
    · intro vals W hM hd K hK
      have hN : Q w7 W := (Q.refl _).drew.trans hM
      have hQ := hG7.trans hN
      obtain ⟨z0, z1, z2⟩ := (hU7.q hN).cells
      go_simp
      exact hK.out (.agg #[.bool sU, .slice AU1 kU1 cU1, .slice AU2 kU2 cU2]) _ _ (by kernel_rfl) (nU7.q hN) (Q.refl _)
    refine Ja.Steps.cons (Each.yes hctx (by rfl) (by kernel_rfl) ?_) ?_
    · intro vals W hM hd K hK
      have hN : Q w7 W := (Q.refl _).drew.trans hM
      have hQ := hG7.trans hN
      have d13 : Nq W (vals 13) (A) := hd 13 (by kernel_rfl)
      have d14 : Nq W (vals 14) (A) := hd 14 (by kernel_rfl)
      go_simp
      (with_reducible refine (q_equal _ _ (A) W (hT.q hQ) (hPx.q hQ) d13 (by rw [show (A : Rat) = A from rfl]; exact d14) B33.out).mono ?_)
      rintro e W9 ⟨rfl, hq9⟩
      exact hK.out (.bool true) W9 _ (by kernel_rfl) rfl hq9
    refine Ja.Steps.cons (Each.yes hctx (by rfl) (by kernel_rfl) ?_) ?_
    · intro vals W hM hd K hK
      have hN : Q w7 W := (Q.refl _).drew.trans hM
      have hQ := hG7.trans hN
      have d10 : vals 10 = .bool true := hd 10 (by kernel_rfl)
      generalize vals 10 = u10 at d10 hK ⊢
      subst d10
      have d15 : vals 15 = .bool true := hd 15 (by kernel_rfl)
      generalize vals 15 = u15 at d15 hK ⊢
      subst d15
      go_simp
      exact hK.out (.bool true) _ _ (by kernel_rfl) rfl (Q.refl _)
    refine Ja.Steps.cons (Each.yes hctx (by rfl) (by kernel_rfl) ?_) ?_
    · intro vals W hM hd K hK
      have hN : Q w7 W := (Q.refl _).drew.trans hM
      have hQ := hG7.trans hN
      have d16 : vals 16 = .bool true := hd 16 (by kernel_rfl)
      generalize vals 16 = u16 at d16 hK ⊢
      subst d16
      go_simp
      exact hK.out (.bool true) _ _ (by kernel_rfl) rfl (Q.refl _)
    refine Ja.Steps.cons (Each.yes hctx (by rfl) (by kernel_rfl) ?_) ?_
    · intro vals W hM hd K hK
      have hN : Q w7 W := (Q.refl _).drew.trans hM
      have hQ := hG7.trans hN
      obtain ⟨z0, z1, z2⟩ := (hD7.q hN).cells
      go_simp
      exact hK.out (.agg #[.bool sD, .slice AD1 kD1 cD1, .slice AD2 kD2 cD2]) _ _ (by kernel_rfl) (nD7.q hN) (Q.refl _)
    refine Ja.Steps.cons (Each.yes hctx (by rfl) (by kernel_rfl) ?_) ?_
    · intro vals W hM hd K hK
      have hN : Q w7 W := (Q.refl _).drew.trans hM
      have hQ := hG7.trans hN
      go_simp
      exact hK.out (.int .i64 ((m : Int))) _ _ (by kernel_rfl) rfl (Q.refl _)
    refine Ja.Steps.cons (Each.yes hctx (by rfl) (by kernel_rfl) ?_) ?_
    · intro vals W hM hd K hK
      have hN : Q w7 W := (Q.refl _).drew.trans hM
      have hQ := hG7.trans hN
      have d18 : Nq W (vals 18) (((A) + (B)) * (1 / 2)) := hd 18 (by kernel_rfl)
      have d19 : vals 19 = .int .i64 ((m : Int)) := hd 19 (by kernel_rfl)
      generalize vals 19 = u19 at d19 hK ⊢
      subst d19
      go_simp
      (with_reducible refine (q_Up _ (((A) + (B)) * (1 / 2)) ((m : Int)) W (hT.q hQ) d18 B35.out).mono ?_)
      rintro e W9 ⟨r, rfl, hr, hq9⟩
      exact hK.out r W9 _ (by kernel_rfl) (by have h8 := (by have h7 := hr; rw [show bitsN ((m : Int)) = m from bits_n HM0.out] at h7; exact h7); rw [show (up (m) (((A) + (B)) * (1 / 2)) : Rat) = B from M4.out] at h8; exact h8) hq9
    refine Ja.Steps.cons (Each.yes hctx (by rfl) (by kernel_rfl) ?_) ?_
    · intro vals W hM hd K hK
      have hN : Q w7 W := (Q.refl _).drew.trans hM
      have hQ := hG7.trans hN
      obtain ⟨z0, z1, z2⟩ := (hV7.q hN).cells
      go_simp
      exact hK.out (.agg #[.bool sV, .slice AV1 kV1 cV1, .slice AV2 kV2 cV2]) _ _ (by kernel_rfl) (nV7.q hN) (Q.refl _)
    refine Ja.Steps.cons (Each.yes hctx (by rfl) (by kernel_rfl) ?_) ?_
    · intro vals W hM hd K hK
      have hN : Q w7 W := (Q.refl _).drew.trans hM
      have hQ := hG7.trans hN
      have d20 : Nq W (vals 20) (B) := hd 20 (by kernel_rfl)
      have d21 : Nq W (vals 21) (B) := hd 21 (by kernel_rfl)
      go_simp
      (with_reducible refine (q_equal _ _ (B) W (hT.q hQ) (hPx.q hQ) d20 (by rw [show (B : Rat) = B from rfl]; exact d21) B36.out).mono ?_)
      rintro e W9 ⟨rfl, hq9⟩
      exact hK.out (.bool true) W9 _ (by kernel_rfl) rfl hq9
    refine Ja.Steps.cons (Each.yes hctx (by rfl) (by kernel_rfl) ?_) ?_
    · intro vals W hM hd K hK
      have hN : Q w7 W := (Q.refl _).drew.trans hM
      have hQ := hG7.trans hN
      have d17 : vals 17 = .bool true := hd 17 (by kernel_rfl)
      generalize vals 17 = u17 at d17 hK ⊢
      subst d17
      have d22 : vals 22 = .bool true := hd 22 (by kernel_rfl)
      generalize vals 22 = u22 at d22 hK ⊢
      subst d22
      go_simp
      exact hK.out (.bool true) _ _ (by kernel_rfl) rfl (Q.refl _)
    refine Ja.Steps.cons (Each.yes hctx (by rfl) (by kernel_rfl) ?_) ?_
    · intro vals W hM hd K hK
      have hN : Q w7 W := (Q.refl _).drew.trans hM
      have hQ := hG7.trans hN
      have d23 : vals 23 = .bool true := hd 23 (by kernel_rfl)
      generalize vals 23 = u23 at d23 hK ⊢
      subst d23
      go_simp
      exact hK.out (.bool true) _ _ (by kernel_rfl) rfl (Q.refl _)
    refine Ja.Steps.cons (Each.yes hctx (by rfl) (by kernel_rfl) ?_) ?_
    · intro vals W hM hd K hK
      have hN : Q w7 W := (Q.refl _).drew.trans hM
      have hQ := hG7.trans hN
      obtain ⟨z0, z1, z2⟩ := (hU7.q hN).cells
      go_simp
      exact hK.out (.agg #[.bool sU, .slice AU1 kU1 cU1, .slice AU2 kU2 cU2]) _ _ (by kernel_rfl) (nU7.q hN) (Q.refl _)
    refine Ja.Steps.cons (Each.yes hctx (by rfl) (by kernel_rfl) ?_) ?_
    · intro vals W hM hd K hK
      have hN : Q w7 W := (Q.refl _).drew.trans hM
      have hQ := hG7.trans hN
      go_simp
      exact hK.out (.int .i64 ((m : Int))) _ _ (by kernel_rfl) rfl (Q.refl _)
    refine Ja.Steps.cons (Each.yes hctx (by rfl) (by kernel_rfl) ?_) ?_
    · intro vals W hM hd K hK
      have hN : Q w7 W := (Q.refl _).drew.trans hM
      have hQ := hG7.trans hN
      have d25 : Nq W (vals 25) (A) := hd 25 (by kernel_rfl)
      have d26 : vals 26 = .int .i64 ((m : Int)) := hd 26 (by kernel_rfl)
      generalize vals 26 = u26 at d26 hK ⊢
      subst d26
      go_simp
      (with_reducible refine (q_Down _ (A) ((m : Int)) W (hT.q hQ) d25 B38.out).mono ?_)
      rintro e W9 ⟨r, rfl, hr, hq9⟩
      exact hK.out r W9 _ (by kernel_rfl) (by have h8 := (by have h7 := hr; rw [show bitsN ((m : Int)) = m from bits_n HM0.out] at h7; exact h7); rw [show (dn (m) (A) : Rat) = A from M5.out] at h8; exact h8) hq9
    refine Ja.Steps.cons (Each.yes hctx (by rfl) (by kernel_rfl) ?_) ?_
    · intro vals W hM hd K hK
      have hN : Q w7 W := (Q.refl _).drew.trans hM
      have hQ := hG7.trans hN
      obtain ⟨z0, z1, z2⟩ := (hU7.q hN).cells
      go_simp
      exact hK.out (.agg #[.bool sU, .slice AU1 kU1 cU1, .slice AU2 kU2 cU2]) _ _ (by kernel_rfl) (nU7.q hN) (Q.refl _)
    refine Ja.Steps.cons (Each.yes hctx (by rfl) (by kernel_rfl) ?_) ?_
    · intro vals W hM hd K hK
      have hN : Q w7 W := (Q.refl _).drew.trans hM
      have hQ := hG7.trans hN
      have d27 : Nq W (vals 27) (A) := hd 27 (by kernel_rfl)
      have d28 : Nq W (vals 28) (A) := hd 28 (by kernel_rfl)
      go_simp
      (with_reducible refine (q_equal _ _ (A) W (hT.q hQ) (hPx.q hQ) d27 (by rw [show (A : Rat) = A from rfl]; exact d28) B39.out).mono ?_)
      rintro e W9 ⟨rfl, hq9⟩
      exact hK.out (.bool true) W9 _ (by kernel_rfl) rfl hq9
    refine Ja.Steps.cons (Each.yes hctx (by rfl) (by kernel_rfl) ?_) ?_
    · intro vals W hM hd K hK
      have hN : Q w7 W := (Q.refl _).drew.trans hM
      have hQ := hG7.trans hN
      have d24 : vals 24 = .bool true := hd 24 (by kernel_rfl)
      generalize vals 24 = u24 at d24 hK ⊢
      subst d24
      have d29 : vals 29 = .bool true := hd 29 (by kernel_rfl)
      generalize vals 29 = u29 at d29 hK ⊢
      subst d29
      go_simp
      exact hK.out (.bool true) _ _ (by kernel_rfl) rfl (Q.refl _)
    refine Ja.Steps.cons (Each.yes hctx (by rfl) (by kernel_rfl) ?_) ?_
    · intro vals W hM hd K hK
      have hN : Q w7 W := (Q.refl _).drew.trans hM
      have hQ := hG7.trans hN
      have d30 : vals 30 = .bool true := hd 30 (by kernel_rfl)
      generalize vals 30 = u30 at d30 hK ⊢
      subst d30
      go_simp
      exact hK.out (.bool true) _ _ (by kernel_rfl) rfl (Q.refl _)
    refine Ja.Steps.cons (Each.yes hctx (by rfl) (by kernel_rfl) ?_) ?_
    · intro vals W hM hd K hK
      have hN : Q w7 W := (Q.refl _).drew.trans hM
      have hQ := hG7.trans hN
      obtain ⟨z0, z1, z2⟩ := (hV7.q hN).cells
      go_simp
      exact hK.out (.agg #[.bool sV, .slice AV1 kV1 cV1, .slice AV2 kV2 cV2]) _ _ (by kernel_rfl) (nV7.q hN) (Q.refl _)
    refine Ja.Steps.cons (Each.yes hctx (by rfl) (by kernel_rfl) ?_) ?_
    · intro vals W hM hd K hK
      have hN : Q w7 W := (Q.refl _).drew.trans hM
      have hQ := hG7.trans hN
      go_simp
      exact hK.out (.int .i64 ((m : Int))) _ _ (by kernel_rfl) rfl (Q.refl _)
    refine Ja.Steps.cons (Each.yes hctx (by rfl) (by kernel_rfl) ?_) ?_
    · intro vals W hM hd K hK
      have hN : Q w7 W := (Q.refl _).drew.trans hM
      have hQ := hG7.trans hN
      have d32 : Nq W (vals 32) (B) := hd 32 (by kernel_rfl)
      have d33 : vals 33 = .int .i64 ((m : Int)) := hd 33 (by kernel_rfl)
      generalize vals 33 = u33 at d33 hK ⊢
      subst d33
      go_simp
      (with_reducible refine (q_Up _ (B) ((m : Int)) W (hT.q hQ) d32 B41.out).mono ?_)
      rintro e W9 ⟨r, rfl, hr, hq9⟩
      exact hK.out r W9 _ (by kernel_rfl) (by have h8 := (by have h7 := hr; rw [show bitsN ((m : Int)) = m from bits_n HM0.out] at h7; exact h7); rw [show (up (m) (B) : Rat) = B from M6.out] at h8; exact h8) hq9
    refine Ja.Steps.cons (Each.yes hctx (by rfl) (by kernel_rfl) ?_) ?_
    · intro vals W hM hd K hK
      have hN : Q w7 W := (Q.refl _).drew.trans hM
      have hQ := hG7.trans hN
      obtain ⟨z0, z1, z2⟩ := (hV7.q hN).cells
      go_simp
      exact hK.out (.agg #[.bool sV, .slice AV1 kV1 cV1, .slice AV2 kV2 cV2]) _ _ (by kernel_rfl) (nV7.q hN) (Q.refl _)
    refine Ja.Steps.cons (Each.yes hctx (by rfl) (by kernel_rfl) ?_) ?_
    · intro vals W hM hd K hK
      have hN : Q w7 W := (Q.refl _).drew.trans hM
      have hQ := hG7.trans hN
      have d34 : Nq W (vals 34) (B) := hd 34 (by kernel_rfl)
      have d35 : Nq W (vals 35) (B) := hd 35 (by kernel_rfl)
      go_simp
      (with_reducible refine (q_equal _ _ (B) W (hT.q hQ) (hPx.q hQ) d34 (by rw [show (B : Rat) = B from rfl]; exact d35) B42.out).mono ?_)
      rintro e W9 ⟨rfl, hq9⟩
      exact hK.out (.bool true) W9 _ (by kernel_rfl) rfl hq9
    refine Ja.Steps.cons (Each.yes hctx (by rfl) (by kernel_rfl) ?_) ?_
    · intro vals W hM hd K hK
      have hN : Q w7 W := (Q.refl _).drew.trans hM
      have hQ := hG7.trans hN
      have d31 : vals 31 = .bool true := hd 31 (by kernel_rfl)
      generalize vals 31 = u31 at d31 hK ⊢
      subst d31
      have d36 : vals 36 = .bool true := hd 36 (by kernel_rfl)
      generalize vals 36 = u36 at d36 hK ⊢
      subst d36
      go_simp
      exact hK.out (.bool true) _ _ (by kernel_rfl) rfl (Q.refl _)
    refine Ja.Steps.cons (Each.yes hctx (by rfl) (by kernel_rfl) ?_) ?_
    · intro vals W hM hd K hK
      have hN : Q w7 W := (Q.refl _).drew.trans hM
      have hQ := hG7.trans hN
      have d37 : vals 37 = .bool true := hd 37 (by kernel_rfl)
      generalize vals 37 = u37 at d37 hK ⊢
      subst d37
      go_simp
      exact hK.out (.bool true) _ _ (by kernel_rfl) rfl (Q.refl _)
    refine Ja.Steps.cons (Each.yes hctx (by rfl) (by kernel_rfl) ?_) ?_
    · intro vals W hM hd K hK
      have hN : Q w7 W := (Q.refl _).drew.trans hM
      have hQ := hG7.trans hN
      go_simp
      (with_reducible refine (q_Awake W (hT.q hQ) (hPx.q hQ)).mono ?_)
      rintro e W9 ⟨rfl, hq9⟩
      exact hK.out (.bool true) W9 _ (by kernel_rfl) rfl hq9
    refine Ja.Steps.cons (Each.yes hctx (by rfl) (by kernel_rfl) ?_) ?_
    · intro vals W hM hd K hK
      have hN : Q w7 W := (Q.refl _).drew.trans hM
      have hQ := hG7.trans hN
      have d38 : vals 38 = .bool true := hd 38 (by kernel_rfl)
      generalize vals 38 = u38 at d38 hK ⊢
      subst d38
      have d39 : vals 39 = .bool true := hd 39 (by kernel_rfl)
      generalize vals 39 = u39 at d39 hK ⊢
      subst d39
      go_simp
      exact hK.out (.bool true) _ _ (by kernel_rfl) rfl (Q.refl _)
    refine Ja.Steps.cons (Each.yes hctx (by rfl) (by kernel_rfl) ?_) ?_
    · intro vals W hM hd K hK
      have hN : Q w7 W := (Q.refl _).drew.trans hM
      have hQ := hG7.trans hN
      have d40 : vals 40 = .bool true := hd 40 (by kernel_rfl)
      generalize vals 40 = u40 at d40 hK ⊢
      subst d40
      go_simp
      exact hK.out (.bool true) _ _ (by kernel_rfl) rfl (Q.refl _)
    exact Ja.Steps.nil
  intro vals w8 hq8 hall
  have hG8 := hG7.trans hq8
  have hX8 := hX7.q hq8
  have nX8 := nX7.q hq8
  have hU8 := hU7.q hq8
  have nU8 := nU7.q hq8
  have hV8 := hV7.q hq8
  have nV8 := nV7.q hq8
  have hY8 := hY7.q hq8
  have nY8 := nY7.q hq8
  have hE8 := hE7.q hq8
  have nE8 := nE7.q hq8
  have hD8 := hD7.q hq8
  have nD8 := nD7.q hq8
  have f4 : vals 41 = .bool true := hall 41 (by decide)
  rw [f4]
  clear hall hq8 hG7 hX7 hU7 hV7 hY7 hE7 hD7 nX7 nU7 nV7 nY7 nE7 nD7
  go_wp2_with fail
  go_ret
  exact ⟨ret_bool rfl, by rw [← hw0]; exact hG8⟩
end Go.Proofs.YtimdddpfoagbjaaGreatDoor
