/- Laws of values (P1.7, P1.8), each for every three strings; no condition. Part of the proof: texts Ve4 Ve5 Ve6 Ve7. -/
import Derived.Test.YtimdddpfoagbjaaGreatDoorQa07
import Derived.Test.YtimdddpfoagbjaaGreatDoorQa18
namespace Go.Proofs.YtimdddpfoagbjaaGreatDoor
open Go.RowKit
open Ma Me
theorem pow_sg (p : Rat) (n : Nat) : (p ^ n).num = sg (decide (p.num < 0) && decide (n % 2 = 1)) (p.num.natAbs ^ n) := by
  rw [Rat.num_pow]
  have h := sg_num p
  generalize p.num.natAbs = N at *
  generalize decide (p.num < 0) = s at *
  cases s
  · rw [← h]; simp [sg]
  · rw [← h]
    simp only [sg, Bool.true_and]
    rw [if_pos trivial]
    induction n with
    | zero => simp
    | succ n ih =>
      rw [Int.pow_succ, ih, Nat.pow_succ, Int.natCast_mul]
      rcases Nat.mod_two_eq_zero_or_one n with h2 | h2
      · have h3 : (n + 1) % 2 = 1 := by omega
        rw [if_neg (by rw [h2]; decide), if_pos (decide_eq_true h3), Int.mul_neg]
      · have h3 : ¬ (n + 1) % 2 = 1 := by omega
        rw [if_pos (by rw [h2]; decide), if_neg (by rw [decide_eq_false h3]; decide), Int.neg_mul_neg]
set_option maxRecDepth 100000 in
set_option maxHeartbeats 6000000 in
theorem q_power (x : Value) (p : Rat) (z : Int) (n : Nat) (w : World) (hx : Nq w x p) (hz : Hid (z = (n : Int))) (hn : n ≤ 64) (hB : 64 * sz p + 400 ≤ LIM) : Calls Tryz.prog 144 #[x, .int .i64 z] w fun e w' => ∃ r, e = .returned r ∧ Nq w' r (p ^ n) ∧ Q w w' := by
  obtain ⟨s1, A1, n1, c1, A2, n2, c2, rfl, E1, Z1, O1, hxt, hxb⟩ := hx.form
  obtain ⟨w0, hW, hG0, hX0, hR0⟩ := boxes1r w s1 (.slice A1 n1 c1) (.slice A2 n2 c2)
  have HB := Lib.hid hB; clear hB
  have b1 : n * dg W64 p.num.natAbs + 9 ≤ LIM := by have h1 := Nat.mul_le_mul_right (dg W64 p.num.natAbs) hn; have := sz_num p; have := HB.out; rw [LIM_eq] at *; omega
  have b2 : n * dg W64 p.den + 9 ≤ LIM := by have h1 := Nat.mul_le_mul_right (dg W64 p.den) hn; have := sz_den p; have := HB.out; rw [LIM_eq] at *; omega
  have b3 : n ≤ 4611686018427387904 := by omega
  have hP := pow_sg p n
  rw [← E1.out] at hP
  have HP := Lib.hid hP; clear hP
  rcases Bool.eq_false_or_eq_true s1 with hs | hs
  · subst hs
    rcases Nat.mod_two_eq_zero_or_one n with h2 | h2
    · have h3 : z.tmod 2 = 0 := by rw [hz.out, Int.tmod_eq_emod_of_nonneg (by omega)]; omega
      have HP2 : Hid ((p ^ n).num = sg false (p.num.natAbs ^ n)) := by have h := HP.out; rw [h2] at h; exact h
      clear HP h2
      have HP := HP2; clear HP2
      go_enter Tryz.func144, Tryz.ntmps144
      go_wp2_with fail
      clear hW
      obtain ⟨x0, x1, x2⟩ := hX0.cells
      go_region_held3 (fun W => W.cell? ⟨w.heap.size, 0, none⟩ = some (.bool true) ∧ W.cell? ⟨w.heap.size, 1, none⟩ = some (.slice A1 n1 c1) ∧ W.cell? ⟨w.heap.size, 2, none⟩ = some (.slice A2 n2 c2)) (first | with_reducible exact ⟨x0, x1, x2⟩ | (refine ⟨?_, ?_, ?_⟩ <;> with_reducible assumption) | exact ⟨(keep3 neX1).trans (by assumption), (keep3 neX1).trans (by assumption), (keep3 neX1).trans (by assumption)⟩ | go_keep) (first
        | (go_at_call 105; (with_reducible refine (v_fraction false _ _ (p.num.natAbs ^ n) (p.den ^ n) _ ((ht1.q hq2).q hq3) ht2).mono ?_); rintro e w4 ⟨v5, rfl, hv5, hq4⟩; have hG4 := hG3.trans hq4; have hX4 := hX3.q hq4; have hR4 := hR3.q hq4; obtain ⟨x0, x1, x2⟩ := hX4.cells; have fz := hR4.frozen; obtain ⟨r0, r1, r2⟩ := hR4.cells; obtain ⟨B1, d1, B2, d2, rfl, -, -⟩ := hv5.form; have hv := Nq.made (q := p ^ n) hv5 HP.out (fun _ => Rat.den_pow p n); generalize (decide (0 < p.num.natAbs ^ n) && false) = s4 at *; generalize dg W64 (if p.num.natAbs ^ n = 0 then 0 else bt (p.den ^ n)) = m2 at *; generalize dg W64 (p.num.natAbs ^ n) = m1 at *)
        | (go_at_call 194; (with_reducible refine (v_raised _ p.den n _ _ hu1 hz.out b2 b3).mono ?_); rintro e w3 ⟨t2, rfl, ht2, hq3, -⟩; have hG3 := hG2.trans hq3; have hX3 := hX2.q hq3; have hR3 := hR2.q hq3; obtain ⟨x0, x1, x2⟩ := hX3.cells; obtain ⟨A7, n7, c7, rfl⟩ := ht2.form)
        | (go_at_call 136; (with_reducible refine (q_under _ p _ (hx.q hG1)).mono ?_); rintro e w2 ⟨u1, rfl, hu1, hq2⟩; have hG2 := hG1.trans hq2; have hX2 := hX1.q hq2; have hR2 := hR1.q hq2; obtain ⟨x0, x1, x2⟩ := hX2.cells; obtain ⟨A6, n6, c6, rfl⟩ := hu1.form)
        | (go_at_call 194; (with_reducible refine (v_raised _ p.num.natAbs n _ _ (hxt.q hG0.drew) hz.out b1 b3).mono ?_); rintro e w1 ⟨t1, rfl, ht1, hq1d, -⟩; have hq1 : Q w0 w1 := (Q.refl w0).drew.trans hq1d; have hG1 := hG0.trans hq1; have hX1 := hX0.q hq1; have hR1 := hR0.q hq1; obtain ⟨x0, x1, x2⟩ := hX1.cells; obtain ⟨A5, n5, c5, rfl⟩ := ht1.form))
      all_goals
        go_wp2_with fail
        obtain ⟨z0, z1, z2, hvF, hqF⟩ := Nq.store hR4 hv hG4 (Nat.le_add_right _ _)
        unfold put3 at z0 z1 z2 hvF hqF
        refine bodyPost_ret (v := .agg #[.bool s4, .slice B1 m1 d1, .slice B2 m2 d2]) (by simp [results, Tryz.results144, go_sem, z0, z1, z2]) rfl ?_
        exact ⟨_, rfl, hvF, hqF⟩
    · have h3 : z.tmod 2 = 1 := by rw [hz.out, Int.tmod_eq_emod_of_nonneg (by omega)]; omega
      have HP2 : Hid ((p ^ n).num = sg true (p.num.natAbs ^ n)) := by have h := HP.out; rw [h2] at h; exact h
      clear HP h2
      have HP := HP2; clear HP2
      go_enter Tryz.func144, Tryz.ntmps144
      go_wp2_with fail
      clear hW
      obtain ⟨x0, x1, x2⟩ := hX0.cells
      go_region_held3 (fun W => W.cell? ⟨w.heap.size, 0, none⟩ = some (.bool true) ∧ W.cell? ⟨w.heap.size, 1, none⟩ = some (.slice A1 n1 c1) ∧ W.cell? ⟨w.heap.size, 2, none⟩ = some (.slice A2 n2 c2)) (first | with_reducible exact ⟨x0, x1, x2⟩ | (refine ⟨?_, ?_, ?_⟩ <;> with_reducible assumption) | exact ⟨(keep3 neX1).trans (by assumption), (keep3 neX1).trans (by assumption), (keep3 neX1).trans (by assumption)⟩ | go_keep) (first
        | (go_at_call 105; (with_reducible refine (v_fraction true _ _ (p.num.natAbs ^ n) (p.den ^ n) _ ((ht1.q hq2).q hq3) ht2).mono ?_); rintro e w4 ⟨v5, rfl, hv5, hq4⟩; have hG4 := hG3.trans hq4; have hX4 := hX3.q hq4; have hR4 := hR3.q hq4; obtain ⟨x0, x1, x2⟩ := hX4.cells; have fz := hR4.frozen; obtain ⟨r0, r1, r2⟩ := hR4.cells; obtain ⟨B1, d1, B2, d2, rfl, -, -⟩ := hv5.form; have hv := Nq.made (q := p ^ n) hv5 HP.out (fun _ => Rat.den_pow p n); generalize (decide (0 < p.num.natAbs ^ n) && true) = s4 at *; generalize dg W64 (if p.num.natAbs ^ n = 0 then 0 else bt (p.den ^ n)) = m2 at *; generalize dg W64 (p.num.natAbs ^ n) = m1 at *)
        | (go_at_call 194; (with_reducible refine (v_raised _ p.den n _ _ hu1 hz.out b2 b3).mono ?_); rintro e w3 ⟨t2, rfl, ht2, hq3, -⟩; have hG3 := hG2.trans hq3; have hX3 := hX2.q hq3; have hR3 := hR2.q hq3; obtain ⟨x0, x1, x2⟩ := hX3.cells; obtain ⟨A7, n7, c7, rfl⟩ := ht2.form)
        | (go_at_call 136; (with_reducible refine (q_under _ p _ (hx.q hG1)).mono ?_); rintro e w2 ⟨u1, rfl, hu1, hq2⟩; have hG2 := hG1.trans hq2; have hX2 := hX1.q hq2; have hR2 := hR1.q hq2; obtain ⟨x0, x1, x2⟩ := hX2.cells; obtain ⟨A6, n6, c6, rfl⟩ := hu1.form)
        | (go_at_call 194; (with_reducible refine (v_raised _ p.num.natAbs n _ _ (hxt.q hG0.drew) hz.out b1 b3).mono ?_); rintro e w1 ⟨t1, rfl, ht1, hq1d, -⟩; have hq1 : Q w0 w1 := (Q.refl w0).drew.trans hq1d; have hG1 := hG0.trans hq1; have hX1 := hX0.q hq1; have hR1 := hR0.q hq1; obtain ⟨x0, x1, x2⟩ := hX1.cells; obtain ⟨A5, n5, c5, rfl⟩ := ht1.form))
      all_goals
        go_wp2_with fail
        obtain ⟨z0, z1, z2, hvF, hqF⟩ := Nq.store hR4 hv hG4 (Nat.le_add_right _ _)
        unfold put3 at z0 z1 z2 hvF hqF
        refine bodyPost_ret (v := .agg #[.bool s4, .slice B1 m1 d1, .slice B2 m2 d2]) (by simp [results, Tryz.results144, go_sem, z0, z1, z2]) rfl ?_
        exact ⟨_, rfl, hvF, hqF⟩
  · subst hs
    have HP2 : Hid ((p ^ n).num = sg false (p.num.natAbs ^ n)) := HP
    clear HP
    have HP := HP2; clear HP2
    go_enter Tryz.func144, Tryz.ntmps144
    go_wp2_with fail
    clear hW
    obtain ⟨x0, x1, x2⟩ := hX0.cells
    refine wp_region_held_drew (S := fun W => W.cell? ⟨w.heap.size, 0, none⟩ = some (.bool false) ∧ W.cell? ⟨w.heap.size, 1, none⟩ = some (.slice A1 n1 c1) ∧ W.cell? ⟨w.heap.size, 2, none⟩ = some (.slice A2 n2 c2)) (by kernel_rfl) (by exact ⟨x0, x1, x2⟩) (fun hHeld => ?_)
    refine wpAnyH_take (i := 0) (v := ?v0) rfl (by kernel_rfl) (by kernel_rfl) (by kernel_rfl) (fun _ _ _ h => h) (Or.inl ⟨by rfl, ?h0⟩) (by assumption) ?r0
    case h0 =>
      intro W hSw
      (try dsimp only at hSw)
      go_simp
      try (with_reducible rfl)
    try simp only [Act.put]
    try simp only [List.setIfInBounds_toArray]
    try simp only [List.set_cons_zero, List.set_cons_succ]
    refine wpAnyH_take (i := 1) (v := ?v1) rfl (by kernel_rfl) (by kernel_rfl) (by kernel_rfl) (fun _ _ _ h => h) (Or.inl ⟨by rfl, ?h1⟩) (by assumption) ?r1
    case h1 =>
      intro W hSw
      (try dsimp only at hSw)
      go_simp
      try (with_reducible rfl)
    try simp only [Act.put]
    try simp only [List.setIfInBounds_toArray]
    try simp only [List.set_cons_zero, List.set_cons_succ]
    refine wpAnyH_take (i := 2) (v := ?v2) rfl (by kernel_rfl) (by kernel_rfl) (by kernel_rfl) (fun _ _ _ h => h) (Or.inl ⟨by rfl, ?h2⟩) (by assumption) ?r2
    case h2 =>
      intro W hSw
      (try dsimp only at hSw)
      go_simp
      try (with_reducible rfl)
    try simp only [Act.put]
    try simp only [List.setIfInBounds_toArray]
    try simp only [List.set_cons_zero, List.set_cons_succ]
    refine wpAnyH_take (i := 3) (v := undef) rfl (by kernel_rfl) (by kernel_rfl) (by kernel_rfl) (fun _ _ _ h => h) (Or.inr ⟨by rfl, rfl⟩) (by assumption) ?_
    try simp only [Act.put]
    try simp only [List.setIfInBounds_toArray]
    try simp only [List.set_cons_zero, List.set_cons_succ]
    refine wpAnyH_take (i := 4) (v := undef) rfl (by kernel_rfl) (by kernel_rfl) (by kernel_rfl) (fun _ _ _ h => h) (Or.inr ⟨by rfl, rfl⟩) (by assumption) ?_
    try simp only [Act.put]
    try simp only [List.setIfInBounds_toArray]
    try simp only [List.set_cons_zero, List.set_cons_succ]
    refine wpAnyH_take (i := 5) (v := undef) rfl (by kernel_rfl) (by kernel_rfl) (by kernel_rfl) (fun _ _ _ h => h) (Or.inr ⟨by rfl, rfl⟩) (by assumption) ?_
    try simp only [Act.put]
    try simp only [List.setIfInBounds_toArray]
    try simp only [List.set_cons_zero, List.set_cons_succ]
    refine wpAnyH_take (i := 6) (v := ?v6) rfl (by kernel_rfl) (by kernel_rfl) (by kernel_rfl) (fun _ _ _ h => h) (Or.inl ⟨by rfl, ?h6⟩) (by assumption) ?r6
    case h6 =>
      intro W hSw
      (try dsimp only at hSw)
      go_simp
      try (with_reducible rfl)
    try simp only [Act.put]
    try simp only [List.setIfInBounds_toArray]
    try simp only [List.set_cons_zero, List.set_cons_succ]
    refine wpAnyH_take (i := 7) (v := ?v7) rfl (by kernel_rfl) (by kernel_rfl) (by kernel_rfl) (fun _ _ _ h => h) (Or.inl ⟨by rfl, ?h7⟩) (by assumption) ?r7
    case h7 =>
      intro W hSw
      (try dsimp only at hSw)
      go_simp
      try (with_reducible rfl)
    try simp only [Act.put]
    try simp only [List.setIfInBounds_toArray]
    try simp only [List.set_cons_zero, List.set_cons_succ]
    refine wpAnyH_take (i := 8) (v := ?v8) rfl (by kernel_rfl) (by kernel_rfl) (by kernel_rfl) (fun _ _ _ h => h) (Or.inl ⟨by rfl, ?h8⟩) (by assumption) ?r8
    case h8 =>
      intro W hSw
      (try dsimp only at hSw)
      go_simp
      try (with_reducible rfl)
    try simp only [Act.put]
    try simp only [List.setIfInBounds_toArray]
    try simp only [List.set_cons_zero, List.set_cons_succ]
    refine wpAnyH_take (i := 9) (v := ?v9) rfl (by kernel_rfl) (by kernel_rfl) (by kernel_rfl) (fun _ _ _ h => h) (Or.inl ⟨by rfl, ?h9⟩) (by assumption) ?r9
    case h9 =>
      intro W hSw
      (try dsimp only at hSw)
      go_simp
      try (with_reducible rfl)
    try simp only [Act.put]
    try simp only [List.setIfInBounds_toArray]
    try simp only [List.set_cons_zero, List.set_cons_succ]
    refine wpAnyH_take (i := 11) (v := ?v11) rfl (by kernel_rfl) (by kernel_rfl) (by kernel_rfl) (fun _ _ _ h => h) (Or.inl ⟨by rfl, ?h11⟩) (by assumption) ?r11
    case h11 =>
      intro W hSw
      (try dsimp only at hSw)
      go_simp
      try (with_reducible rfl)
    try simp only [Act.put]
    try simp only [List.setIfInBounds_toArray]
    try simp only [List.set_cons_zero, List.set_cons_succ]
    refine wpAnyH_take (i := 13) (v := ?v13) rfl (by kernel_rfl) (by kernel_rfl) (by kernel_rfl) (fun _ _ _ h => h) (Or.inl ⟨by rfl, ?h13⟩) (by assumption) ?r13
    case h13 =>
      intro W hSw
      (try dsimp only at hSw)
      go_simp
      try (with_reducible rfl)
    try simp only [Act.put]
    try simp only [List.setIfInBounds_toArray]
    try simp only [List.set_cons_zero, List.set_cons_succ]
    refine wpAnyH_ready (rs := [10]) (by kernel_rfl) (by decide) (AllReadyH.cons rfl (fun K hK => ?_) AllReadyH.nil)
    go_simp
    (with_reducible refine (v_raised _ p.num.natAbs n _ _ (hxt.q hG0.drew) hz.out b1 b3).mono ?_)
    rintro e w1 ⟨t1, rfl, ht1, hq1d, -⟩
    have hq1 : Q w0 w1 := (Q.refl w0).drew.trans hq1d
    have hG1 := hG0.trans hq1
    have hX1 := hX0.q hq1
    have hR1 := hR0.q hq1
    obtain ⟨x0, x1, x2⟩ := hX1.cells
    obtain ⟨A5, n5, c5, rfl⟩ := ht1.form
    go_wp2_with fail
    refine hK.out _ _ (by exact ⟨by assumption, by assumption, by assumption⟩) (fun hHeld => ?_)
    clear hK K
    try simp only [Act.put]
    try simp only [List.setIfInBounds_toArray]
    try simp only [List.set_cons_zero, List.set_cons_succ]
    refine wpAnyH_ready (rs := [12]) (by kernel_rfl) (by decide) (AllReadyH.cons rfl (fun K hK => ?_) AllReadyH.nil)
    go_simp
    (with_reducible refine (q_under _ p _ (hx.q hG1)).mono ?_)
    rintro e w2 ⟨u1, rfl, hu1, hq2⟩
    have hG2 := hG1.trans hq2
    have hX2 := hX1.q hq2
    have hR2 := hR1.q hq2
    obtain ⟨x0, x1, x2⟩ := hX2.cells
    obtain ⟨A6, n6, c6, rfl⟩ := hu1.form
    go_wp2_with fail
    refine hK.out _ _ (by exact ⟨by assumption, by assumption, by assumption⟩) (fun hHeld => ?_)
    clear hK K
    try simp only [Act.put]
    try simp only [List.setIfInBounds_toArray]
    try simp only [List.set_cons_zero, List.set_cons_succ]
    refine wpAnyH_ready (rs := [14]) (by kernel_rfl) (by decide) (AllReadyH.cons rfl (fun K hK => ?_) AllReadyH.nil)
    go_simp
    (with_reducible refine (v_raised _ p.den n _ _ hu1 hz.out b2 b3).mono ?_)
    rintro e w3 ⟨t2, rfl, ht2, hq3, -⟩
    have hG3 := hG2.trans hq3
    have hX3 := hX2.q hq3
    have hR3 := hR2.q hq3
    obtain ⟨x0, x1, x2⟩ := hX3.cells
    obtain ⟨A7, n7, c7, rfl⟩ := ht2.form
    go_wp2_with fail
    refine hK.out _ _ (by exact ⟨by assumption, by assumption, by assumption⟩) (fun hHeld => ?_)
    clear hK K
    try simp only [Act.put]
    try simp only [List.setIfInBounds_toArray]
    try simp only [List.set_cons_zero, List.set_cons_succ]
    refine wpAnyH_ready (rs := [15]) (by kernel_rfl) (by decide) (AllReadyH.cons rfl (fun K hK => ?_) AllReadyH.nil)
    go_simp
    (with_reducible refine (v_fraction false _ _ (p.num.natAbs ^ n) (p.den ^ n) _ ((ht1.q hq2).q hq3) ht2).mono ?_)
    rintro e w4 ⟨v5, rfl, hv5, hq4⟩
    have hG4 := hG3.trans hq4
    have hX4 := hX3.q hq4
    have hR4 := hR3.q hq4
    obtain ⟨x0, x1, x2⟩ := hX4.cells
    have fz := hR4.frozen
    obtain ⟨r0, r1, r2⟩ := hR4.cells
    obtain ⟨B1, d1, B2, d2, rfl, -, -⟩ := hv5.form
    have hv := Nq.made (q := p ^ n) hv5 HP.out (fun _ => Rat.den_pow p n)
    generalize (decide (0 < p.num.natAbs ^ n) && false) = s4 at *
    generalize dg W64 (if p.num.natAbs ^ n = 0 then 0 else bt (p.den ^ n)) = m2 at *
    generalize dg W64 (p.num.natAbs ^ n) = m1 at *
    go_wp2_with fail
    refine hK.out _ _ (by exact ⟨by assumption, by assumption, by assumption⟩) (fun hHeld => ?_)
    clear hK K
    try simp only [Act.put]
    try simp only [List.setIfInBounds_toArray]
    try simp only [List.set_cons_zero, List.set_cons_succ]
    refine wpAnyH_ready (rs := [16]) (by kernel_rfl) (by decide) (AllReadyH.cons rfl (fun K hK => ?_) AllReadyH.nil)
    go_simp
    refine hK.out _ _ (by exact ⟨(keep3 neX1).trans (by with_reducible assumption), (keep3 neX1).trans (by with_reducible assumption), (keep3 neX1).trans (by with_reducible assumption)⟩) (fun hHeld => ?_)
    clear hK K
    try simp only [Act.put]
    try simp only [List.setIfInBounds_toArray]
    try simp only [List.set_cons_zero, List.set_cons_succ]
    refine wpAnyH_done (by kernel_rfl) ?_ _
    go_wp2_with fail
    obtain ⟨z0, z1, z2, hvF, hqF⟩ := Nq.store hR4 hv hG4 (Nat.le_add_right _ _)
    unfold put3 at z0 z1 z2 hvF hqF
    refine bodyPost_ret (v := .agg #[.bool s4, .slice B1 m1 d1, .slice B2 m2 d2]) (by simp [results, Tryz.results144, go_sem, z0, z1, z2]) rfl ?_
    exact ⟨_, rfl, hvF, hqF⟩
set_option maxRecDepth 100000 in
set_option maxHeartbeats 1000000 in
theorem q_Ratio (a b : Int) (w : World) (hT : Tb w) (a0 : -9223372036854775808 ≤ a) (a1 : a ≤ 9223372036854775807) (b0 : -9223372036854775808 ≤ b) (b1 : b ≤ 9223372036854775807) : Calls Tryz.prog 49 #[.int .i64 a, .int .i64 b] w fun e w' => ∃ r, e = .returned (.tuple #[r, .int .i64 (divR a b).1]) ∧ Nq w' r (divR a b).2 ∧ Q w w' := by
  obtain ⟨w0, hW, hG0, hR0⟩ : ∃ W, w.alloc (.cells #[.bool false, .slice none 0 0, .slice none 0 0] 25) = W ∧ Q w W ∧ Nb W w.heap.size false (.slice none 0 0) (.slice none 0 0) := ⟨_, rfl, (Q.refl _).alloc _, Nb.new w _ _ _⟩
  obtain ⟨er, her⟩ : ∃ er, (divR (a : Rat) (b : Rat)).1 = er := ⟨_, rfl⟩
  rw [her]
  have HER := Lib.hid her; clear her
  have sa := sz_int a (by rw [W64_eq]; omega); have sb := sz_int b (by rw [W64_eq]; omega)
  go_enter Tryz.func49, Tryz.ntmps49
  go_wp2_with fail
  clear hW
  refine (q_Int a _ a0 a1).mono ?_
  rintro e w1 ⟨o1, rfl, ho1, hq1⟩
  have hG1 := hG0.trans hq1
  have hR1 := hR0.q hq1
  obtain ⟨s1, A1, n1, c1, A2, n2, c2, rfl, -⟩ := ho1.form
  go_wp2_with fail
  refine (q_Int b _ b0 b1).mono ?_
  rintro e w2 ⟨o2, rfl, ho2, hq2⟩
  have hG2 := hG1.trans hq2
  have hR2 := hR1.q hq2
  have fz := hR2.frozen
  obtain ⟨r0, r1, r2⟩ := hR2.cells
  obtain ⟨s2, A3, n3, c3, A4, n4, c4, rfl, -⟩ := ho2.form
  go_wp2_with fail
  refine (q_Div _ _ a b _ (hT.q hG2) (ho1.q hq2) ho2 (by rw [LIM_eq]; omega)).mono ?_
  rintro e w3 ⟨v1, rfl, hv, hq3⟩
  have hG3 := hG2.trans hq3
  have hR3 := hR2.q hq3
  clear fz r0 r1 r2
  have fz := hR3.frozen
  obtain ⟨r0, r1, r2⟩ := hR3.cells
  rw [HER.out]
  obtain ⟨s6, B1, m1, d1, B2, m2, d2, rfl, -⟩ := hv.form
  go_wp2_with fail
  obtain ⟨z0, z1, z2, hvF, hqF⟩ := Nq.store hR3 hv hG3 (Nat.le_refl _)
  unfold put3 at z0 z1 z2 hvF hqF
  refine bodyPost_ret (v := .tuple #[.agg #[.bool s6, .slice B1 m1 d1, .slice B2 m2 d2], .int .i64 er]) (by simp [results, Tryz.results49, go_sem, z0, z1, z2]) rfl ?_
  exact ⟨_, rfl, hvF, hqF⟩
end Go.Proofs.YtimdddpfoagbjaaGreatDoor
namespace Go.Proofs.YtimdddpfoagbjaaGreatDoor
open Go.RowKit
open Ma Me
theorem ret_tb {a : Value} {b c : Bool} (h : b = c) : Ending.returned (.tuple #[a, .bool b]) = .returned (.tuple #[a, .bool c]) := by rw [h]
theorem len_zero {L R : Nat} (h : L = 0 ↔ R = 0) : ((L : Int) == 0) = decide (R = 0) := by
  by_cases hR : R = 0
  · rw [decide_eq_true hR, h.2 hR]; rfl
  · rw [decide_eq_false hR]
    exact beq_eq_false_iff_ne.2 (fun h1 => hR (h.1 (by omega)))
set_option maxRecDepth 100000 in
set_option maxHeartbeats 2000000 in
theorem q_shifted (x : Value) (p : Rat) (z : Int) (w : World) (hT : Tb w) (hx : Nq w x p) (h0 : p ≠ 0) (hB : 8 * (sz p + z.natAbs) + 200 ≤ LIM) : Calls Tryz.prog 195 #[x, .int .i64 z] w fun e w' => ∃ t, e = .returned (.tuple #[t, .bool (decide (fr z p.num.natAbs p.den = 0))]) ∧ Nm w' t (fl z p.num.natAbs p.den) ∧ Q w w' := by
  obtain ⟨s1, A1, n1, c1, A2, n2, c2, rfl, E1, Z1, O1, hxt, hxb⟩ := hx.form
  obtain ⟨w0, hW, hG0, hX0⟩ := boxes1 w s1 (.slice A1 n1 c1) (.slice A2 n2 c2)
  have hs := sz_eq p
  have hN0 := num_pos_of h0
  have hD0 := p.den_pos
  rw [LIM_eq] at hB
  generalize hN : p.num.natAbs = N at *
  generalize hD : p.den = D at *
  have HD := Lib.hid hD; clear hD hN
  by_cases hz0 : z ≤ 0
  · obtain ⟨k, hk⟩ : ∃ k : Nat, (-z).toNat = k := ⟨_, rfl⟩
    have e1 : fl z N D = N * 2 ^ k / D := by unfold fl; rw [hk, show z.toNat = 0 by omega, Nat.pow_zero, Nat.mul_one]
    have e2 : fr z N D = N * 2 ^ k % D := by unfold fr; rw [hk, show z.toNat = 0 by omega, Nat.pow_zero, Nat.mul_one]
    rw [e1, e2]
    have hk2 : z.natAbs = k := by omega
    have hw : IntKind.i64.wrap (-z) = (k : Int) := by rw [show -z = (k : Int) by omega]; exact IntWalk.i64_in _ (by omega)
    have b1 : dg W64 N + k / 64 + 1 ≤ LIM := by rw [LIM_eq]; omega
    have b2 : k ≤ 4611686018427387904 := by omega
    have b3 : 4 * (dg W64 (N * 2 ^ k) + dg W64 D) + 60 ≤ LIM := by have h1 := dg_mul W64_gt N (2 ^ k); have h2 := dg_pow_le (B := 2) (k := k) (by decide); rw [LIM_eq]; omega
    clear e1 e2 hk hk2 hB hs h0
    go_enter Tryz.func195, Tryz.ntmps195
    go_wp2_with fail
    clear hW
    obtain ⟨x0, x1, x2⟩ := hX0.cells
    go_region_held3 (fun W => W.cell? ⟨w.heap.size, 0, none⟩ = some (.bool s1) ∧ W.cell? ⟨w.heap.size, 1, none⟩ = some (.slice A1 n1 c1) ∧ W.cell? ⟨w.heap.size, 2, none⟩ = some (.slice A2 n2 c2)) (first | exact ⟨x0, x1, x2⟩ | exact ⟨by assumption, by assumption, by assumption⟩ | go_keep) (first
      | (go_at_call 192; (with_reducible refine (v_divide (N * 2 ^ k) D _ _ _ (ht1.q hq2) hu1 hD0 b3).mono ?_); rintro e w3 ⟨t2, t3, rfl, ht2, ht3, hq3, -, -⟩; have hG3 := hG2.trans hq3; have hX3 := hX2.q hq3; obtain ⟨x0, x1, x2⟩ := hX3.cells; obtain ⟨A7, n7, c7, rfl⟩ := ht2.form; obtain ⟨A8, c8, rfl, -⟩ := ht3.parts; obtain ⟨L, hL⟩ : ∃ L, dg W64 (N * 2 ^ k % D) = L := ⟨_, rfl⟩; rw [hL]; have HL := Lib.hid hL; clear hL)
      | (go_at_call 136; (with_reducible refine (q_under _ p _ (hx.q hG1)).mono ?_); rintro e w2 ⟨u1, rfl, hu1, hq2⟩; have hG2 := hG1.trans hq2; have hX2 := hX1.q hq2; obtain ⟨x0, x1, x2⟩ := hX2.cells; rw [HD.out] at hu1; obtain ⟨A6, n6, c6, rfl⟩ := hu1.form)
      | (go_at_call 166; (with_reducible refine (v_shiftLeft _ N k _ _ (hxt.q hG0.drew) rfl b1 b2).mono ?_); rintro e w1 ⟨t1, rfl, ht1, hq1d, -⟩; have hq1 : Q w0 w1 := (Q.refl w0).drew.trans hq1d; have hG1 := hG0.trans hq1; have hX1 := hX0.q hq1; obtain ⟨x0, x1, x2⟩ := hX1.cells; obtain ⟨A5, n5, c5, rfl⟩ := ht1.form))
    all_goals
      have hzz := dg_z (D := N * 2 ^ k % D)
      rw [HL.out] at hzz
      have k0 : ((L : Int) == 0) = decide (N * 2 ^ k % D = 0) := len_zero hzz
      clear hzz hw hz0
      go_wp2_with fail
      go_ret2
      exact ⟨_, rfl, ht2, hG3⟩
  · obtain ⟨k, hk⟩ : ∃ k : Nat, z.toNat = k := ⟨_, rfl⟩
    have hzk : z = (k : Int) := by omega
    obtain ⟨e1, e2⟩ := fl_shift (s := z) (N := N) (D := D) (by omega) hN0 hD0
    rw [hk] at e1 e2
    have hR : decide (fr z N D = 0) = (decide (N / 2 ^ k % D = 0) && decide (z ≤ (tz N : Int))) := by rw [← Bool.decide_and]; exact decide_eq_decide.2 e2.symm
    rw [hR, ← e1]
    have HZK := Lib.hid hzk
    have b2 : k ≤ 4611686018427387904 := by omega
    have b1 : dg W64 N ≤ LIM := by rw [LIM_eq]; omega
    have b3 : 4 * (dg W64 (N / 2 ^ k) + dg W64 D) + 60 ≤ LIM := by have h1 := dgb_le W64_gt (Nat.div_le_self N (2 ^ k)); rw [LIM_eq]; omega
    clear e1 e2 hk hzk hR hB hs h0
    go_enter Tryz.func195, Tryz.ntmps195
    go_wp2_with fail
    clear hW
    obtain ⟨x0, x1, x2⟩ := hX0.cells
    go_region_held3 (fun W => W.cell? ⟨w.heap.size, 0, none⟩ = some (.bool s1) ∧ W.cell? ⟨w.heap.size, 1, none⟩ = some (.slice A1 n1 c1) ∧ W.cell? ⟨w.heap.size, 2, none⟩ = some (.slice A2 n2 c2)) (first | exact ⟨x0, x1, x2⟩ | exact ⟨by assumption, by assumption, by assumption⟩ | go_keep) (first
      | (go_at_call 192; (with_reducible refine (v_divide (N / 2 ^ k) D _ _ _ (ht1.q hq2) hu1 hD0 b3).mono ?_); rintro e w3 ⟨t2, t3, rfl, ht2, ht3, hq3, -, -⟩; have hG3 := hG2.trans hq3; have hX3 := hX2.q hq3; obtain ⟨x0, x1, x2⟩ := hX3.cells; obtain ⟨A7, n7, c7, rfl⟩ := ht2.form; obtain ⟨A8, c8, rfl, -⟩ := ht3.parts; obtain ⟨L, hL⟩ : ∃ L, dg W64 (N / 2 ^ k % D) = L := ⟨_, rfl⟩; rw [hL]; have HL := Lib.hid hL; clear hL)
      | (go_at_call 136; (with_reducible refine (q_under _ p _ (hx.q hG1)).mono ?_); rintro e w2 ⟨u1, rfl, hu1, hq2⟩; have hG2 := hG1.trans hq2; have hX2 := hX1.q hq2; obtain ⟨x0, x1, x2⟩ := hX2.cells; rw [HD.out] at hu1; obtain ⟨A6, n6, c6, rfl⟩ := hu1.form)
      | (go_at_call 168; (with_reducible refine (v_shiftRight _ N k _ _ (hxt.q hG0.drew) HZK.out b1 b2).mono ?_); rintro e w1 ⟨t1, rfl, ht1, hq1d, -⟩; have hq1 : Q w0 w1 := (Q.refl w0).drew.trans hq1d; have hG1 := hG0.trans hq1; have hX1 := hX0.q hq1; obtain ⟨x0, x1, x2⟩ := hX1.cells; obtain ⟨A5, n5, c5, rfl⟩ := ht1.form))
    all_goals
      have hzz := dg_z (D := N / 2 ^ k % D)
      rw [HL.out] at hzz
      have HK0 := Lib.hid (len_zero hzz)
      clear hzz
      by_cases hr0 : N / 2 ^ k % D = 0
      · have k0 : ((L : Int) == 0) = true := by rw [HK0.out]; exact decide_eq_true hr0
        have HR0 := Lib.hid hr0; clear hr0
        obtain ⟨x0, x1, x2⟩ := hX3.cells
        go_wp2_with fail
        refine (v_lowZeros _ N _ (hT.q hG3) (hxt.q hG3) b1 hN0).mono ?_
        rintro e w7 ⟨rfl, rfl⟩
        go_wp2_with fail
        go_ret2
        exact ⟨_, ret_tb (by rw [decide_eq_true HR0.out, Bool.true_and]), ht2, hG3⟩
      · have k0 : ((L : Int) == 0) = false := by rw [HK0.out]; exact decide_eq_false hr0
        have HR0 := Lib.hid hr0; clear hr0
        obtain ⟨x0, x1, x2⟩ := hX3.cells
        go_wp2_with fail
        go_ret2
        exact ⟨_, ret_tb (by rw [decide_eq_false HR0.out, Bool.false_and]), ht2, hG3⟩
set_option maxRecDepth 100000 in
set_option maxHeartbeats 1000000 in
theorem q_scaled (s : Bool) (x : Value) (g : Nat) (z : Int) (w : World) (hT : Tb w) (hx : Nm w x g) (hg : 0 < g) (hB : 64 * dg W64 g + z.natAbs + 100 ≤ LIM) : Calls Tryz.prog 196 #[.bool s, x, .int .i64 z] w fun e w' => ∃ r, e = .returned r ∧ Nq w' r (sgQ s (((g : Nat) : Rat) * pw z)) ∧ Q w w' := by
  obtain ⟨w0, hW, hG0, hR0⟩ : ∃ W, w.alloc (.cells #[.bool false, .slice none 0 0, .slice none 0 0] 25) = W ∧ Q w W ∧ Nb W w.heap.size false (.slice none 0 0) (.slice none 0 0) := ⟨_, rfl, (Q.refl _).alloc _, Nb.new w _ _ _⟩
  obtain ⟨A1, n1, c1, rfl⟩ := hx.form
  rw [LIM_eq] at hB
  by_cases hz0 : 0 ≤ z
  · obtain ⟨k, rfl⟩ := Int.eq_ofNat_of_zero_le hz0
    have b1 : dg W64 g + k / 64 + 1 ≤ LIM := by rw [LIM_eq]; omega
    have b2 : k ≤ 4611686018427387904 := by omega
    obtain ⟨p1, p2⟩ := scaled_up s g k
    have HP1 := Lib.hid p1; have HP2 := Lib.hid p2; clear p1 p2 hB
    go_enter Tryz.func196, Tryz.ntmps196
    go_wp2_with fail
    clear hW
    refine (v_shiftLeft _ g k _ _ (hx.q hG0) rfl b1 b2).mono ?_
    rintro e w1 ⟨t1, rfl, ht1, hq1, -⟩
    have hG1 := hG0.trans hq1
    have hR1 := hR0.q hq1
    have fz := hR1.frozen
    obtain ⟨r0, r1, r2⟩ := hR1.cells
    obtain ⟨A5, n5, c5, rfl⟩ := ht1.form
    go_wp2_with fail
    refine (v_integral s _ (g * 2 ^ k) _ ht1).mono ?_
    rintro e w2 ⟨v5, rfl, hv5, hq2⟩
    have hG2 := hG1.trans hq2
    have hR2 := hR1.q hq2
    clear fz r0 r1 r2
    have fz := hR2.frozen
    obtain ⟨r0, r1, r2⟩ := hR2.cells
    obtain ⟨B1, d1, B2, d2, rfl, -, -⟩ := hv5.form
    have hv := Nq.int (q := sgQ s (((g : Nat) : Rat) * pw (k : Int))) hv5 HP1.out HP2.out
    generalize (decide (0 < g * 2 ^ k) && s) = s4 at *
    generalize dg W64 (g * 2 ^ k) = m1 at *
    generalize dg W64 0 = m2 at *
    go_wp2_with fail
    obtain ⟨z0, z1, z2, hvF, hqF⟩ := Nq.store hR2 hv hG2 (Nat.le_refl _)
    unfold put3 at z0 z1 z2 hvF hqF
    refine bodyPost_ret (v := .agg #[.bool s4, .slice B1 m1 d1, .slice B2 m2 d2]) (by simp [results, Tryz.results196, go_sem, z0, z1, z2]) rfl ?_
    exact ⟨_, rfl, hvF, hqF⟩
  · obtain ⟨k, hk⟩ : ∃ k : Nat, (-z).toNat = k := ⟨_, rfl⟩
    have hzk : z = -(k : Int) := by omega
    have hpw : pw z = pw (-(k : Int)) := by rw [hzk]
    rw [hpw]
    obtain ⟨p1, p2⟩ := scaled_down s k hg
    have htb := tz_lt_bl hg; have hbd := bl_dg g
    obtain ⟨t, ht⟩ : ∃ t, tz g = t := ⟨_, rfl⟩
    rw [ht] at p1 p2 htb
    obtain ⟨m, hm⟩ : ∃ m, min t k = m := ⟨_, rfl⟩
    rw [hm] at p1 p2
    have hmk : m ≤ k := by omega
    have hmin : min (t : Int) (k : Int) = (m : Int) := by omega
    have hkm : (k : Int) - (m : Int) = ((k - m : Nat) : Int) := by omega
    have hnz : -z = (k : Int) := by omega
    have b1 : dg W64 g ≤ LIM := by rw [LIM_eq]; omega
    have b2 : m ≤ 4611686018427387904 := by omega
    have b3 : k - m ≤ 4611686018427387904 := by omega
    have b4 : dg W64 1 + (k - m) / 64 + 1 ≤ LIM := by rw [dg_one W64_gt, LIM_eq]; omega
    have b5 : (k : Int) ≤ 1099511627776 := by omega
    have b7 : -1099511627776 ≤ z := by omega
    have b6 : (t : Int) ≤ 80000000000000 := by omega
    have HP1 := Lib.hid p1; have HP2 := Lib.hid p2; have HT := Lib.hid ht; have HZK := Lib.hid hzk; clear p1 p2 ht hB hk hm htb hbd hzk hpw
    go_enter Tryz.func196, Tryz.ntmps196
    go_wp2_with fail
    clear hW
    refine (v_lowZeros _ g _ (hT.q hG0) (hx.q hG0) b1 hg).mono ?_
    rintro e w7 ⟨rfl, rfl⟩
    rw [HT.out]
    go_wp2_with fail
    refine (v_shiftRight _ g m _ _ (hx.q hG0) rfl b1 b2).mono ?_
    rintro e w1 ⟨t1, rfl, ht1, hq1, -⟩
    have hG1 := hG0.trans hq1
    have hR1 := hR0.q hq1
    obtain ⟨A5, n5, c5, rfl⟩ := ht1.form
    go_wp2_with fail
    refine (v_word 1 1 _ rfl (by decide)).mono ?_
    rintro e w2 ⟨t2, rfl, ht2, hq2, -⟩
    have hG2 := hG1.trans hq2
    have hR2 := hR1.q hq2
    obtain ⟨A6, n6, c6, rfl⟩ := ht2.form
    go_wp2_with fail
    refine (v_shiftLeft _ 1 (k - m) _ _ ht2 rfl b4 b3).mono ?_
    rintro e w3 ⟨t3, rfl, ht3, hq3, -⟩
    have hG3 := hG2.trans hq3
    have hR3 := hR2.q hq3
    have fz := hR3.frozen
    obtain ⟨r0, r1, r2⟩ := hR3.cells
    obtain ⟨A7, n7, c7, rfl⟩ := ht3.form
    rw [Nat.one_mul] at ht3
    go_wp2_with fail
    refine (v_fraction s _ _ (g / 2 ^ m) (2 ^ (k - m)) _ ((ht1.q hq2).q hq3) ht3).mono ?_
    rintro e w4 ⟨v5, rfl, hv5, hq4⟩
    have hG4 := hG3.trans hq4
    have hR4 := hR3.q hq4
    clear fz r0 r1 r2
    have fz := hR4.frozen
    obtain ⟨r0, r1, r2⟩ := hR4.cells
    obtain ⟨B1, d1, B2, d2, rfl, -, -⟩ := hv5.form
    have hv := Nq.made (q := sgQ s (((g : Nat) : Rat) * pw (-(k : Int)))) hv5 HP1.out (fun _ => HP2.out)
    generalize (decide (0 < g / 2 ^ m) && s) = s4 at *
    generalize dg W64 (if g / 2 ^ m = 0 then 0 else bt (2 ^ (k - m))) = m2 at *
    generalize dg W64 (g / 2 ^ m) = m1 at *
    go_wp2_with fail
    obtain ⟨z0, z1, z2, hvF, hqF⟩ := Nq.store hR4 hv hG4 (Nat.le_refl _)
    unfold put3 at z0 z1 z2 hvF hqF
    refine bodyPost_ret (v := .agg #[.bool s4, .slice B1 m1 d1, .slice B2 m2 d2]) (by simp [results, Tryz.results196, go_sem, z0, z1, z2]) rfl ?_
    exact ⟨_, rfl, hvF, hqF⟩
end Go.Proofs.YtimdddpfoagbjaaGreatDoor
namespace Go.Proofs.YtimdddpfoagbjaaGreatDoor
open Go.RowKit
open Ma Me
theorem bits_minmax (z : Int) : min (max z 1) 2000 = (bitsN z : Int) := by
  unfold bitsN; split
  · omega
  · split <;> omega
theorem tz_parity {q : Nat} (h : 0 < q) : 0 < tz q ↔ q % 2 = 0 := by
  constructor
  · intro h1
    rcases Nat.mod_two_eq_zero_or_one q with h2 | h2
    · exact h2
    · rw [tz_odd h2] at h1; omega
  · intro h1
    rw [tz_even h h1]; omega
set_option maxRecDepth 100000 in
set_option maxHeartbeats 4000000 in
theorem q_rounded (x : Value) (p : Rat) (z : Int) (away : Bool) (w : World) (hT : Tb w) (hx : Nq w x p) (hB : 2000 * sz p + 500000 ≤ LIM) : Calls Tryz.prog 148 #[x, .int .i64 z, .bool away] w fun e w' => ∃ r, e = .returned r ∧ Nq w' r (rnd (bitsN z) p away) ∧ Q w w' := by
  obtain ⟨s1, A1, n1, c1, A2, n2, c2, rfl, E1, Z1, O1, hxt, hxb⟩ := hx.form
  obtain ⟨w0, hW, hG0, hX0, hR0⟩ := boxes1r w s1 (.slice A1 n1 c1) (.slice A2 n2 c2)
  obtain ⟨b, hbz⟩ : ∃ b, bitsN z = b := ⟨_, rfl⟩
  obtain ⟨hb0, hb1⟩ := bitsN_pos z
  have hmx := bits_minmax z
  rw [hbz] at hb0 hb1 hmx
  rw [hbz]
  clear hbz
  by_cases h0 : p = 0
  · have k0 : ((n1 : Int) == 0) = true := by rw [Z1.out.2 h0]; rfl
    rw [show rnd b p away = 0 from if_pos h0]
    have hv := nq_zero w0
    clear hmx h0
    obtain ⟨x0, x1, x2⟩ := hX0.cells
    have fz := hR0.frozen
    obtain ⟨r0, r1, r2⟩ := hR0.cells
    go_enter Tryz.func148, Tryz.ntmps148
    go_wp2_with fail
    clear hW
    obtain ⟨z0, z1, z2, hvF, hqF⟩ := Nq.store hR0 hv hG0 (Nat.le_add_right _ _)
    unfold put3 at z0 z1 z2 hvF hqF
    refine bodyPost_ret (v := .agg #[.bool false, .slice none 0 0, .slice none 0 0]) (by simp [results, Tryz.results148, go_sem, z0, z1, z2]) rfl ?_
    exact ⟨_, rfl, hvF, hqF⟩
  · have k0 : ((n1 : Int) == 0) = false := beq_eq_false_iff_ne.2 (fun h => h0 (Z1.out.1 (by omega)))
    have hszp := sz_eq p
    have hbn := bl_dg p.num.natAbs; have hbd := bl_dg p.den
    rw [LIM_eq] at hB
    obtain ⟨sh, hsh⟩ : ∃ sh : Int, (bl p.num.natAbs : Int) - bl p.den - b = sh := ⟨_, rfl⟩
    have hP := rnd_parts (x := p) (b := b) away h0 hb0 rfl rfl hsh
    rw [← E1.out] at hP
    obtain ⟨hP1, hP2, hQ0, hQ1⟩ := hP
    have hq8 : 8 * (sz p + sh.natAbs) + 200 ≤ LIM := by rw [LIM_eq]; omega
    have hshl : sh.natAbs ≤ 128 * sz p + 2000 := by omega
    have bN : dg W64 p.num.natAbs ≤ LIM := by rw [LIM_eq]; omega
    have bD : dg W64 p.den ≤ LIM := by rw [LIM_eq]; omega
    obtain ⟨La, hLa⟩ : ∃ La, bl p.num.natAbs = La := ⟨_, rfl⟩; obtain ⟨Lb, hLb⟩ : ∃ Lb, bl p.den = Lb := ⟨_, rfl⟩
    rw [hLa] at hsh hbn; rw [hLb] at hsh hbd
    have t1 : IntKind.i64.wrap ((La : Int) - Lb) = (La : Int) - Lb := IntWalk.i64_in _ (by omega)
    have t2 : IntKind.i64.wrap ((La : Int) - Lb - b) = sh := by rw [← hsh]; exact IntWalk.i64_in _ (by omega)
    have HLa := Lib.hid hLa; have HLb := Lib.hid hLb; clear hLa hLb
    have hQd := dg_bl (fl sh p.num.natAbs p.den)
    generalize hQ : fl sh p.num.natAbs p.den = q at *
    generalize hR : fr sh p.num.natAbs p.den = r at *
    have hQl : dg W64 q ≤ 2001 := by omega
    have bQ : dg W64 q ≤ LIM := by rw [LIM_eq]; omega
    have bQ1 : dg W64 q + 1 ≤ LIM := by rw [LIM_eq]; omega
    have b11 : dg W64 1 + 1 ≤ LIM := by rw [dg_one W64_gt, LIM_eq]; omega
    have HP1 := Lib.hid hP1; have HP2 := Lib.hid hP2; have HQ := Lib.hid hQ; have HR := Lib.hid hR; have HB := Lib.hid hB
    have shl1 : -1099511627776 ≤ sh := by omega
    have shl2 : sh ≤ 1099511627776 := by omega
    have hb2 : (b : Int) ≤ 2000 := by omega
    clear hP1 hP2 hQ hR hsh hQd hB hbn hbd hszp
    go_enter Tryz.func148, Tryz.ntmps148
    obtain ⟨x0, x1, x2⟩ := hX0.cells
    go_wp2_with fail
    clear hW k0 hmx
    clear x0 x1 x2
    obtain ⟨x0, x1, x2⟩ := hX0.cells
    go_region_held3 (fun W => W.cell? ⟨w.heap.size, 0, none⟩ = some (.bool s1) ∧ W.cell? ⟨w.heap.size, 1, none⟩ = some (.slice A1 n1 c1) ∧ W.cell? ⟨w.heap.size, 2, none⟩ = some (.slice A2 n2 c2)) (first | exact ⟨x0, x1, x2⟩ | exact ⟨by assumption, by assumption, by assumption⟩ | go_keep) (first
      | (go_at_call 178; (with_reducible refine (v_bitLength _ p.den _ hu1 bD).mono ?_); rintro e w92 ⟨rfl, rfl⟩; rw [HLb.out])
      | (go_at_call 136; (with_reducible refine (q_under _ p _ (hx.q hG0.drew)).mono ?_); rintro e w1 ⟨u1, rfl, hu1, hq1d⟩; have hq1 : Q w0 w1 := (Q.refl w0).drew.trans hq1d; have hG1 := hG0.trans hq1; have hX1 := hX0.q hq1; have hR1 := hR0.q hq1; obtain ⟨x0, x1, x2⟩ := hX1.cells; obtain ⟨A5, n5, c5, rfl⟩ := hu1.form)
      | (go_at_call 178; (with_reducible refine (v_bitLength _ p.num.natAbs _ (hxt.q hG0.drew) bN).mono ?_); rintro e w90 ⟨rfl, rfl⟩; rw [HLa.out]))
    all_goals
      clear t1 t2
      obtain ⟨x0, x1, x2⟩ := hX1.cells
      go_wp2_with fail
      refine (q_shifted _ p sh _ (hT.q hG1) (hx.q hG1) h0 hq8).mono ?_
      rintro e w2 ⟨t, rfl, ht, hq2⟩
      have hG2 := hG1.trans hq2
      have hX2 := hX1.q hq2
      have hR2 := hR1.q hq2
      clear x0 x1 x2
      obtain ⟨x0, x1, x2⟩ := hX2.cells
      rw [HQ.out] at ht
      rw [HR.out]
      obtain ⟨A6, n6, c6, rfl⟩ := ht.form
      go_wp2_with fail
      refine (v_bitLength _ q _ ht bQ).mono ?_
      rintro e w7 ⟨rfl, rfl⟩
      obtain ⟨Lq, hLq⟩ : ∃ Lq, bl q = Lq := ⟨_, rfl⟩
      rw [hLq] at HP1 HP2 hQ1 ⊢
      clear hLq
      by_cases hbq : b < Lq
      · have hbq2 : (b : Int) < (Lq : Int) := by omega
        obtain ⟨hr1, hq20⟩ := HP1.out hbq
        have HR1 := Lib.hid hr1; clear hr1 hbq
        have htz := tz_parity hQ0
        have htl := tz_lt_bl hQ0; have htd := bl_dg q
        obtain ⟨q2, hq2e⟩ : ∃ q2, q / 2 = q2 := ⟨_, rfl⟩
        have hq2l : dg W64 q2 ≤ 2001 := by rw [← hq2e]; exact Nat.le_trans (dgb_le W64_gt (Nat.div_le_self _ _)) hQl
        have hq2q : q / 2 ^ 1 = q2 := hq2e
        rw [hq2e] at hq20 HR1
        obtain ⟨tq, htq⟩ : ∃ tq, tz q = tq := ⟨_, rfl⟩
        rw [htq] at htz htl
        have htq64 : (tq : Int) ≤ 1000000 := by omega
        have HTZ := Lib.hid htz; have HTQ := Lib.hid htq; have HQ2 := Lib.hid hq2q; clear htz htq hq2e hq2q htl htd
        have bq21 : dg W64 q2 + 1 ≤ LIM := by rw [LIM_eq]; omega
        have hq2p := hq20
        have bq20s : 64 * dg W64 q2 + (sh + 1).natAbs + 100 ≤ LIM := by have := HB.out; rw [LIM_eq]; omega
        have bq21s : 64 * dg W64 (q2 + 1) + (sh + 1).natAbs + 100 ≤ LIM := by have := HB.out; have h1 := dg_add W64_gt q2 1; rw [dg_one W64_gt] at h1; rw [LIM_eq]; omega
        clear hq20
        by_cases hr0 : r = 0
        · have kr : decide (r = 0) = true := decide_eq_true hr0
          rw [kr]
          have HR0 := Lib.hid hr0; clear hr0 kr
          go_wp2_with fail
          refine (v_lowZeros _ q _ (hT.q hG2) ht bQ hQ0).mono ?_
          rintro e w7 ⟨rfl, rfl⟩
          rw [HTQ.out]
          by_cases htq0 : 0 < tq
          · have HT0 := Lib.hid htq0
            have htq1 : (0 : Int) < (tq : Int) := by omega
            have htq2 : decide (0 < tq) = true := decide_eq_true htq0
            go_wp2_with fail
            refine (v_shiftRight _ q 1 _ _ ht rfl bQ (by decide)).mono ?_
            rintro e w3 ⟨t5, rfl, ht5, hq3, -⟩
            have hG3 := hG2.trans hq3
            have hX3 := hX2.q hq3
            have hR3 := hR2.q hq3
            clear x0 x1 x2
            rw [HQ2.out] at ht5
            obtain ⟨A7, n7, c7, rfl⟩ := ht5.form
            cases away
            · obtain ⟨x0, x1, x2⟩ := hX3.cells
              go_wp2_with fail
              refine (q_scaled s1 _ q2 (sh + 1) _ (hT.q hG3) ht5 hq2p bq20s).mono ?_
              rintro e w4 ⟨v9, rfl, hv9, hq4⟩
              have hG4 := hG3.trans hq4
              have hX4 := hX3.q hq4
              have hR4 := hR3.q hq4
              clear x0 x1 x2
              have fz := hR4.frozen
              obtain ⟨r0, r1, r2⟩ := hR4.cells
              obtain ⟨s6, B1, m1, d1, B2, m2, d2, rfl, -⟩ := hv9.form
              have hv := hv9
              rw [show sgQ s1 (((q2 : Nat) : Rat) * pw ((sh + 1))) = rnd b p false from Eq.symm (by rw [HR1.out, if_neg (by simp), Nat.add_zero])] at hv
              clear hv9
              go_wp2_with fail
              obtain ⟨z0, z1, z2, hvF, hqF⟩ := Nq.store hR4 hv hG4 (Nat.le_add_right _ _)
              unfold put3 at z0 z1 z2 hvF hqF
              refine bodyPost_ret (v := .agg #[.bool s6, .slice B1 m1 d1, .slice B2 m2 d2]) (by simp [results, Tryz.results148, go_sem, z0, z1, z2]) rfl ?_
              exact ⟨_, rfl, hvF, hqF⟩
            · obtain ⟨x0, x1, x2⟩ := hX3.cells
              go_wp2_with fail
              refine (q_scaled s1 _ q2 (sh + 1) _ (hT.q hG3) ht5 hq2p bq20s).mono ?_
              rintro e w4 ⟨v9, rfl, hv9, hq4⟩
              have hG4 := hG3.trans hq4
              have hX4 := hX3.q hq4
              have hR4 := hR3.q hq4
              clear x0 x1 x2
              have fz := hR4.frozen
              obtain ⟨r0, r1, r2⟩ := hR4.cells
              obtain ⟨s6, B1, m1, d1, B2, m2, d2, rfl, -⟩ := hv9.form
              have hv := hv9
              rw [show sgQ s1 (((q2 : Nat) : Rat) * pw ((sh + 1))) = rnd b p true from Eq.symm (by rw [HR1.out, if_neg (fun h => h.2 (⟨HR0.out, HTZ.out.1 HT0.out⟩)), Nat.add_zero])] at hv
              clear hv9
              go_wp2_with fail
              obtain ⟨z0, z1, z2, hvF, hqF⟩ := Nq.store hR4 hv hG4 (Nat.le_add_right _ _)
              unfold put3 at z0 z1 z2 hvF hqF
              refine bodyPost_ret (v := .agg #[.bool s6, .slice B1 m1 d1, .slice B2 m2 d2]) (by simp [results, Tryz.results148, go_sem, z0, z1, z2]) rfl ?_
              exact ⟨_, rfl, hvF, hqF⟩
          · have HT0 := Lib.hid htq0
            have htq1 : ¬ (0 : Int) < (tq : Int) := by omega
            have htq2 : tq = 0 := by omega
            subst htq2
            clear htq0
            go_wp2_with fail
            refine (v_shiftRight _ q 1 _ _ ht rfl bQ (by decide)).mono ?_
            rintro e w3 ⟨t5, rfl, ht5, hq3, -⟩
            have hG3 := hG2.trans hq3
            have hX3 := hX2.q hq3
            have hR3 := hR2.q hq3
            clear x0 x1 x2
            rw [HQ2.out] at ht5
            obtain ⟨A7, n7, c7, rfl⟩ := ht5.form
            cases away
            · obtain ⟨x0, x1, x2⟩ := hX3.cells
              go_wp2_with fail
              refine (q_scaled s1 _ q2 (sh + 1) _ (hT.q hG3) ht5 hq2p bq20s).mono ?_
              rintro e w4 ⟨v9, rfl, hv9, hq4⟩
              have hG4 := hG3.trans hq4
              have hX4 := hX3.q hq4
              have hR4 := hR3.q hq4
              clear x0 x1 x2
              have fz := hR4.frozen
              obtain ⟨r0, r1, r2⟩ := hR4.cells
              obtain ⟨s6, B1, m1, d1, B2, m2, d2, rfl, -⟩ := hv9.form
              have hv := hv9
              rw [show sgQ s1 (((q2 : Nat) : Rat) * pw ((sh + 1))) = rnd b p false from Eq.symm (by rw [HR1.out, if_neg (by simp), Nat.add_zero])] at hv
              clear hv9
              go_wp2_with fail
              obtain ⟨z0, z1, z2, hvF, hqF⟩ := Nq.store hR4 hv hG4 (Nat.le_add_right _ _)
              unfold put3 at z0 z1 z2 hvF hqF
              refine bodyPost_ret (v := .agg #[.bool s6, .slice B1 m1 d1, .slice B2 m2 d2]) (by simp [results, Tryz.results148, go_sem, z0, z1, z2]) rfl ?_
              exact ⟨_, rfl, hvF, hqF⟩
            · go_wp2_with fail
              refine (v_word 1 1 _ rfl (by decide)).mono ?_
              rintro e w4 ⟨t8, rfl, ht8, hq4, -⟩
              have hG4 := hG3.trans hq4
              have hX4 := hX3.q hq4
              have hR4 := hR3.q hq4
              obtain ⟨A8, n8, c8, rfl⟩ := ht8.form
              go_wp2_with fail
              refine (v_plus _ _ q2 1 _ (ht5.q hq4) ht8 bq21 b11).mono ?_
              rintro e w5 ⟨t9, rfl, ht9, hq5, -⟩
              have hG5 := hG4.trans hq5
              have hX5 := hX4.q hq5
              have hR5 := hR4.q hq5
              obtain ⟨x0, x1, x2⟩ := hX5.cells
              obtain ⟨A9, n9, c9, rfl⟩ := ht9.form
              go_wp2_with fail
              refine (q_scaled s1 _ (q2 + 1) (sh + 1) _ (hT.q hG5) ht9 (Nat.succ_pos _) bq21s).mono ?_
              rintro e w6 ⟨v9, rfl, hv9, hq6⟩
              have hG6 := hG5.trans hq6
              have hX6 := hX5.q hq6
              have hR6 := hR5.q hq6
              clear x0 x1 x2
              have fz := hR6.frozen
              obtain ⟨r0, r1, r2⟩ := hR6.cells
              obtain ⟨s6, B1, m1, d1, B2, m2, d2, rfl, -⟩ := hv9.form
              have hv := hv9
              rw [show sgQ s1 ((((q2 + 1) : Nat) : Rat) * pw ((sh + 1))) = rnd b p true from Eq.symm (by rw [HR1.out, if_pos ⟨by simp, fun h => HT0.out (HTZ.out.2 h.2)⟩])] at hv
              clear hv9
              go_wp2_with fail
              obtain ⟨z0, z1, z2, hvF, hqF⟩ := Nq.store hR6 hv hG6 (Nat.le_add_right _ _)
              unfold put3 at z0 z1 z2 hvF hqF
              refine bodyPost_ret (v := .agg #[.bool s6, .slice B1 m1 d1, .slice B2 m2 d2]) (by simp [results, Tryz.results148, go_sem, z0, z1, z2]) rfl ?_
              exact ⟨_, rfl, hvF, hqF⟩
        · have kr : decide (r = 0) = false := decide_eq_false hr0
          rw [kr]
          have HR0 := Lib.hid hr0; clear hr0 kr
          go_wp2_with fail
          refine (v_shiftRight _ q 1 _ _ ht rfl bQ (by decide)).mono ?_
          rintro e w3 ⟨t5, rfl, ht5, hq3, -⟩
          have hG3 := hG2.trans hq3
          have hX3 := hX2.q hq3
          have hR3 := hR2.q hq3
          clear x0 x1 x2
          rw [HQ2.out] at ht5
          obtain ⟨A7, n7, c7, rfl⟩ := ht5.form
          cases away
          · obtain ⟨x0, x1, x2⟩ := hX3.cells
            go_wp2_with fail
            refine (q_scaled s1 _ q2 (sh + 1) _ (hT.q hG3) ht5 hq2p bq20s).mono ?_
            rintro e w4 ⟨v9, rfl, hv9, hq4⟩
            have hG4 := hG3.trans hq4
            have hX4 := hX3.q hq4
            have hR4 := hR3.q hq4
            clear x0 x1 x2
            have fz := hR4.frozen
            obtain ⟨r0, r1, r2⟩ := hR4.cells
            obtain ⟨s6, B1, m1, d1, B2, m2, d2, rfl, -⟩ := hv9.form
            have hv := hv9
            rw [show sgQ s1 (((q2 : Nat) : Rat) * pw ((sh + 1))) = rnd b p false from Eq.symm (by rw [HR1.out, if_neg (by simp), Nat.add_zero])] at hv
            clear hv9
            go_wp2_with fail
            obtain ⟨z0, z1, z2, hvF, hqF⟩ := Nq.store hR4 hv hG4 (Nat.le_add_right _ _)
            unfold put3 at z0 z1 z2 hvF hqF
            refine bodyPost_ret (v := .agg #[.bool s6, .slice B1 m1 d1, .slice B2 m2 d2]) (by simp [results, Tryz.results148, go_sem, z0, z1, z2]) rfl ?_
            exact ⟨_, rfl, hvF, hqF⟩
          · go_wp2_with fail
            refine (v_word 1 1 _ rfl (by decide)).mono ?_
            rintro e w4 ⟨t8, rfl, ht8, hq4, -⟩
            have hG4 := hG3.trans hq4
            have hX4 := hX3.q hq4
            have hR4 := hR3.q hq4
            obtain ⟨A8, n8, c8, rfl⟩ := ht8.form
            go_wp2_with fail
            refine (v_plus _ _ q2 1 _ (ht5.q hq4) ht8 bq21 b11).mono ?_
            rintro e w5 ⟨t9, rfl, ht9, hq5, -⟩
            have hG5 := hG4.trans hq5
            have hX5 := hX4.q hq5
            have hR5 := hR4.q hq5
            obtain ⟨x0, x1, x2⟩ := hX5.cells
            obtain ⟨A9, n9, c9, rfl⟩ := ht9.form
            go_wp2_with fail
            refine (q_scaled s1 _ (q2 + 1) (sh + 1) _ (hT.q hG5) ht9 (Nat.succ_pos _) bq21s).mono ?_
            rintro e w6 ⟨v9, rfl, hv9, hq6⟩
            have hG6 := hG5.trans hq6
            have hX6 := hX5.q hq6
            have hR6 := hR5.q hq6
            clear x0 x1 x2
            have fz := hR6.frozen
            obtain ⟨r0, r1, r2⟩ := hR6.cells
            obtain ⟨s6, B1, m1, d1, B2, m2, d2, rfl, -⟩ := hv9.form
            have hv := hv9
            rw [show sgQ s1 ((((q2 + 1) : Nat) : Rat) * pw ((sh + 1))) = rnd b p true from Eq.symm (by rw [HR1.out, if_pos ⟨by simp, fun h => HR0.out h.1⟩])] at hv
            clear hv9
            go_wp2_with fail
            obtain ⟨z0, z1, z2, hvF, hqF⟩ := Nq.store hR6 hv hG6 (Nat.le_add_right _ _)
            unfold put3 at z0 z1 z2 hvF hqF
            refine bodyPost_ret (v := .agg #[.bool s6, .slice B1 m1 d1, .slice B2 m2 d2]) (by simp [results, Tryz.results148, go_sem, z0, z1, z2]) rfl ?_
            exact ⟨_, rfl, hvF, hqF⟩
      · have hbq2 : ¬ (b : Int) < (Lq : Int) := by omega
        have hr1 := HP2.out hbq
        have HR1 := Lib.hid hr1; clear hr1 hbq
        have bq1 : dg W64 q + 1 ≤ LIM := bQ1
        have hqp := hQ0
        have bq0s : 64 * dg W64 q + sh.natAbs + 100 ≤ LIM := by have := HB.out; rw [LIM_eq]; omega
        have bq1s : 64 * dg W64 (q + 1) + sh.natAbs + 100 ≤ LIM := by have := HB.out; have h1 := dg_add W64_gt q 1; rw [dg_one W64_gt] at h1; rw [LIM_eq]; omega
        by_cases hr0 : r = 0
        · have kr : decide (r = 0) = true := decide_eq_true hr0
          rw [kr]
          have HR0 := Lib.hid hr0; clear hr0 kr
          cases away
          · clear x0 x1 x2
            obtain ⟨x0, x1, x2⟩ := hX2.cells
            go_wp2_with fail
            refine (q_scaled s1 _ q sh _ (hT.q hG2) ht hqp bq0s).mono ?_
            rintro e w3 ⟨v9, rfl, hv9, hq3⟩
            have hG3 := hG2.trans hq3
            have hX3 := hX2.q hq3
            have hR3 := hR2.q hq3
            clear x0 x1 x2
            have fz := hR3.frozen
            obtain ⟨r0, r1, r2⟩ := hR3.cells
            obtain ⟨s6, B1, m1, d1, B2, m2, d2, rfl, -⟩ := hv9.form
            have hv := hv9
            rw [show sgQ s1 (((q : Nat) : Rat) * pw (sh)) = rnd b p false from Eq.symm (by rw [HR1.out, if_neg (by simp), Nat.add_zero])] at hv
            clear hv9
            go_wp2_with fail
            obtain ⟨z0, z1, z2, hvF, hqF⟩ := Nq.store hR3 hv hG3 (Nat.le_add_right _ _)
            unfold put3 at z0 z1 z2 hvF hqF
            refine bodyPost_ret (v := .agg #[.bool s6, .slice B1 m1 d1, .slice B2 m2 d2]) (by simp [results, Tryz.results148, go_sem, z0, z1, z2]) rfl ?_
            exact ⟨_, rfl, hvF, hqF⟩
          · clear x0 x1 x2
            obtain ⟨x0, x1, x2⟩ := hX2.cells
            go_wp2_with fail
            refine (q_scaled s1 _ q sh _ (hT.q hG2) ht hqp bq0s).mono ?_
            rintro e w3 ⟨v9, rfl, hv9, hq3⟩
            have hG3 := hG2.trans hq3
            have hX3 := hX2.q hq3
            have hR3 := hR2.q hq3
            clear x0 x1 x2
            have fz := hR3.frozen
            obtain ⟨r0, r1, r2⟩ := hR3.cells
            obtain ⟨s6, B1, m1, d1, B2, m2, d2, rfl, -⟩ := hv9.form
            have hv := hv9
            rw [show sgQ s1 (((q : Nat) : Rat) * pw (sh)) = rnd b p true from Eq.symm (by rw [HR1.out, if_neg (fun h => h.2 HR0.out), Nat.add_zero])] at hv
            clear hv9
            go_wp2_with fail
            obtain ⟨z0, z1, z2, hvF, hqF⟩ := Nq.store hR3 hv hG3 (Nat.le_add_right _ _)
            unfold put3 at z0 z1 z2 hvF hqF
            refine bodyPost_ret (v := .agg #[.bool s6, .slice B1 m1 d1, .slice B2 m2 d2]) (by simp [results, Tryz.results148, go_sem, z0, z1, z2]) rfl ?_
            exact ⟨_, rfl, hvF, hqF⟩
        · have kr : decide (r = 0) = false := decide_eq_false hr0
          rw [kr]
          have HR0 := Lib.hid hr0; clear hr0 kr
          cases away
          · clear x0 x1 x2
            obtain ⟨x0, x1, x2⟩ := hX2.cells
            go_wp2_with fail
            refine (q_scaled s1 _ q sh _ (hT.q hG2) ht hqp bq0s).mono ?_
            rintro e w3 ⟨v9, rfl, hv9, hq3⟩
            have hG3 := hG2.trans hq3
            have hX3 := hX2.q hq3
            have hR3 := hR2.q hq3
            clear x0 x1 x2
            have fz := hR3.frozen
            obtain ⟨r0, r1, r2⟩ := hR3.cells
            obtain ⟨s6, B1, m1, d1, B2, m2, d2, rfl, -⟩ := hv9.form
            have hv := hv9
            rw [show sgQ s1 (((q : Nat) : Rat) * pw (sh)) = rnd b p false from Eq.symm (by rw [HR1.out, if_neg (by simp), Nat.add_zero])] at hv
            clear hv9
            go_wp2_with fail
            obtain ⟨z0, z1, z2, hvF, hqF⟩ := Nq.store hR3 hv hG3 (Nat.le_add_right _ _)
            unfold put3 at z0 z1 z2 hvF hqF
            refine bodyPost_ret (v := .agg #[.bool s6, .slice B1 m1 d1, .slice B2 m2 d2]) (by simp [results, Tryz.results148, go_sem, z0, z1, z2]) rfl ?_
            exact ⟨_, rfl, hvF, hqF⟩
          · clear x0 x1 x2
            go_wp2_with fail
            refine (v_word 1 1 _ rfl (by decide)).mono ?_
            rintro e w3 ⟨t8, rfl, ht8, hq3, -⟩
            have hG3 := hG2.trans hq3
            have hX3 := hX2.q hq3
            have hR3 := hR2.q hq3
            obtain ⟨A8, n8, c8, rfl⟩ := ht8.form
            go_wp2_with fail
            refine (v_plus _ _ q 1 _ (ht.q hq3) ht8 bq1 b11).mono ?_
            rintro e w4 ⟨t9, rfl, ht9, hq4, -⟩
            have hG4 := hG3.trans hq4
            have hX4 := hX3.q hq4
            have hR4 := hR3.q hq4
            obtain ⟨x0, x1, x2⟩ := hX4.cells
            obtain ⟨A9, n9, c9, rfl⟩ := ht9.form
            go_wp2_with fail
            refine (q_scaled s1 _ (q + 1) sh _ (hT.q hG4) ht9 (Nat.succ_pos _) bq1s).mono ?_
            rintro e w5 ⟨v9, rfl, hv9, hq5⟩
            have hG5 := hG4.trans hq5
            have hX5 := hX4.q hq5
            have hR5 := hR4.q hq5
            clear x0 x1 x2
            have fz := hR5.frozen
            obtain ⟨r0, r1, r2⟩ := hR5.cells
            obtain ⟨s6, B1, m1, d1, B2, m2, d2, rfl, -⟩ := hv9.form
            have hv := hv9
            rw [show sgQ s1 ((((q + 1) : Nat) : Rat) * pw (sh)) = rnd b p true from Eq.symm (by rw [HR1.out, if_pos ⟨by simp, HR0.out⟩])] at hv
            clear hv9
            go_wp2_with fail
            obtain ⟨z0, z1, z2, hvF, hqF⟩ := Nq.store hR5 hv hG5 (Nat.le_add_right _ _)
            unfold put3 at z0 z1 z2 hvF hqF
            refine bodyPost_ret (v := .agg #[.bool s6, .slice B1 m1 d1, .slice B2 m2 d2]) (by simp [results, Tryz.results148, go_sem, z0, z1, z2]) rfl ?_
            exact ⟨_, rfl, hvF, hqF⟩
end Go.Proofs.YtimdddpfoagbjaaGreatDoor
namespace Go.Proofs.YtimdddpfoagbjaaGreatDoor
open Go.RowKit
open Ma Me
set_option maxRecDepth 100000 in
set_option maxHeartbeats 1000000 in
theorem q_Down (x : Value) (p : Rat) (z : Int) (w : World) (hT : Tb w) (hx : Nq w x p) (hB : 2000 * sz p + 500000 ≤ LIM) : Calls Tryz.prog 55 #[x, .int .i64 z] w fun e w' => ∃ r, e = .returned r ∧ Nq w' r (dn (bitsN z) p) ∧ Q w w' := by
  obtain ⟨s1, A1, n1, c1, A2, n2, c2, rfl, E1, Z1, O1, hxt, hxb⟩ := hx.form
  obtain ⟨w0, hW, hG0, hX0, hR0⟩ := boxes1r w s1 (.slice A1 n1 c1) (.slice A2 n2 c2)
  have he0 : s1 = decide (p < 0) := E1.out.trans (decide_eq_decide.2 (num_lt_iff p))
  have HE := Lib.hid he0; clear he0
  have HB := Lib.hid hB; clear hB
  obtain ⟨x0, x1, x2⟩ := hX0.cells
  go_enter Tryz.func55, Tryz.ntmps55
  go_wp2_with fail
  clear hW
  refine (q_rounded _ p z s1 _ (hT.q hG0) (hx.q hG0) HB.out).mono ?_
  rintro e w1 ⟨r, rfl, hv, hq1⟩
  have hG1 := hG0.trans hq1
  have hX1 := hX0.q hq1
  have hR1 := hR0.q hq1
  clear x0 x1 x2
  have fz := hR1.frozen
  obtain ⟨r0, r1, r2⟩ := hR1.cells
  rw [HE.out, rnd_dn] at hv
  obtain ⟨s6, B1, m1, d1, B2, m2, d2, rfl, -⟩ := hv.form
  go_wp2_with fail
  obtain ⟨z0, z1, z2, hvF, hqF⟩ := Nq.store hR1 hv hG1 (Nat.le_add_right _ _)
  unfold put3 at z0 z1 z2 hvF hqF
  refine bodyPost_ret (v := .agg #[.bool s6, .slice B1 m1 d1, .slice B2 m2 d2]) (by simp [results, Tryz.results55, go_sem, z0, z1, z2]) rfl ?_
  exact ⟨_, rfl, hvF, hqF⟩
end Go.Proofs.YtimdddpfoagbjaaGreatDoor
