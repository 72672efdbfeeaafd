/- ValueIncludes (a part of the proof): results of numbers are in the results of their spans. No condition. -/
import Derived.StillTailTactics
import Derived.Test.YtgpacgadpnpjjaaGreatDoorQn21
set_option maxHeartbeats 1000000
set_option maxRecDepth 100000
namespace Go.Proofs.YtgpacgadpnpjjaaGreatDoor
open Go.RowKit
open Ma Me
theorem aHQ {w : World} {g b o : Nat} {x0 x1 x2 x3 x4 x5 : Value} (h : b ≠ g) : ((((((w.setCell ⟨g, 0, none⟩ x0).setCell ⟨g, 1, none⟩ x1).setCell ⟨g, 2, none⟩ x2).setCell ⟨g, 3, none⟩ x3).setCell ⟨g, 4, none⟩ x4).setCell ⟨g, 5, none⟩ x5).cell? ⟨b, o, none⟩ = w.cell? ⟨b, o, none⟩ := by
 have ne : ∀ k, (⟨g, k, none⟩ : Addr) ≠ ⟨b, o, none⟩ := fun k e => by cases e; exact h rfl
 have ne' : ∀ k, (⟨b, o, none⟩ : Addr) ≠ ⟨g, k, none⟩ := fun k e => by cases e; exact h rfl
 first
  | rw [World.cell?_setCell_other _ _ _ _ (ne _), World.cell?_setCell_other _ _ _ _ (ne _), World.cell?_setCell_other _ _ _ _ (ne _), World.cell?_setCell_other _ _ _ _ (ne _), World.cell?_setCell_other _ _ _ _ (ne _), World.cell?_setCell_other _ _ _ _ (ne _)]
  | rw [World.cell?_setCell_other _ _ _ _ (ne' _), World.cell?_setCell_other _ _ _ _ (ne' _), World.cell?_setCell_other _ _ _ _ (ne' _), World.cell?_setCell_other _ _ _ _ (ne' _), World.cell?_setCell_other _ _ _ _ (ne' _), World.cell?_setCell_other _ _ _ _ (ne' _)]
theorem aIZ (w : World) (s1 : Bool) (t1 b1 : Value) (s2 : Bool) (t2 b2 : Value) (s3 : Bool) (t3 b3 : Value) : ∃ W, (w.alloc (.cells #[.bool s1, t1, b1, .bool s2, t2, b2] 59)).alloc (.cells #[.bool s3, t3, b3] 25) = W ∧
  Q w W ∧ Sp W w.heap.size s1 t1 b1 s2 t2 b2 ∧ Nb W (w.heap.size + 1) s3 t3 b3 := by
 have h1 := Sp.new w s1 t1 b1 s2 t2 b2;have h2 := Nb.new (w.alloc (.cells #[.bool s1, t1, b1, .bool s2, t2, b2] 59)) s3 t3 b3;rw [World.size_alloc] at h2;exact ⟨_, rfl, ((Q.refl _).alloc _).alloc _, h1.q ((Q.refl _).alloc _), h2⟩
theorem aIj (a : Value) (p q : Rat) (w : World) (ha : Ns w a p q) : Calls Tryz.prog 129 #[a] w fun e w' => ∃ r, e = .returned r ∧ Ns w' r (-q) (-p) ∧ Q w w' := by
 obtain ⟨s11, A11, n11, c11, A12, n12, c12, s12, A13, n13, c13, A14, n14, c14, rfl, lo1, hi1⟩ := ha;obtain ⟨w0, hW, hG0, hA0, hT0⟩ := aFs w s11 (.slice A11 n11 c11) (.slice A12 n12 c12) s12 (.slice A13 n13 c13) (.slice A14 n14 c14);obtain ⟨a0, a1, a2, a3, a4, a5⟩ := hA0.cells;go_enter Tryz.func129, Tryz.ntmps129
 go_wp2_with fail
 clear hW;clear a0 a1 a2 a3 a4 a5;obtain ⟨a0, a1, a2, a3, a4, a5⟩ := hA0.cells;refine wp_region_held_drew (S := fun W => W.cell? ⟨w.heap.size, 0, none⟩ = some (.bool s11) ∧ W.cell? ⟨w.heap.size, 1, none⟩ = some (.slice A11 n11 c11) ∧ W.cell? ⟨w.heap.size, 2, none⟩ = some (.slice A12 n12 c12) ∧ W.cell? ⟨w.heap.size, 3, none⟩ = some (.bool s12) ∧ W.cell? ⟨w.heap.size, 4, none⟩ = some (.slice A13 n13 c13) ∧ W.cell? ⟨w.heap.size, 5, none⟩ = some (.slice A14 n14 c14)) (by kernel_rfl) (by exact ⟨a0, a1, a2, a3, a4, a5⟩) (fun hHeld => ?_);refine wpAnyH_take (i := 0) (v := ?v0) rfl (by kernel_rfl) (by kernel_rfl) (by kernel_rfl) (fun _ _ _ h => h) (Or.inl ⟨by rfl, ?h0⟩) (by assumption) ?r0
 case h0 =>
  intro W hSw
  (try dsimp only at hSw)
  go_simp
  try (with_reducible rfl)
 try simp only [Act.put]
 try simp only [List.setIfInBounds_toArray]
 try simp only [List.set_cons_succ]
 try simp only [List.set_cons_zero]
 refine wpAnyH_take (i := 1) (v := ?v1) rfl (by kernel_rfl) (by kernel_rfl) (by kernel_rfl) (fun _ _ _ h => h) (Or.inl ⟨by rfl, ?h1⟩) (by assumption) ?r1
 case h1 =>
  intro W hSw
  (try dsimp only at hSw)
  go_simp
  try (with_reducible rfl)
 try simp only [Act.put]
 try simp only [List.setIfInBounds_toArray]
 try simp only [List.set_cons_succ]
 try simp only [List.set_cons_zero]
 refine wpAnyH_take (i := 3) (v := ?v3) rfl (by kernel_rfl) (by kernel_rfl) (by kernel_rfl) (fun _ _ _ h => h) (Or.inl ⟨by rfl, ?h3⟩) (by assumption) ?r3
 case h3 =>
  intro W hSw
  (try dsimp only at hSw)
  go_simp
  try (with_reducible rfl)
 try simp only [Act.put]
 try simp only [List.setIfInBounds_toArray]
 try simp only [List.set_cons_succ]
 try simp only [List.set_cons_zero]
 refine wpAnyH_take (i := 4) (v := ?v4) rfl (by kernel_rfl) (by kernel_rfl) (by kernel_rfl) (fun _ _ _ h => h) (Or.inl ⟨by rfl, ?h4⟩) (by assumption) ?r4
 case h4 =>
  intro W hSw
  (try dsimp only at hSw)
  go_simp
  try (with_reducible rfl)
 try simp only [Act.put]
 try simp only [List.setIfInBounds_toArray]
 try simp only [List.set_cons_succ]
 try simp only [List.set_cons_zero]
 refine wpAnyH_ready (rs := [2]) (by kernel_rfl) (by decide) (AllReadyH.cons rfl (fun K hK => ?_) AllReadyH.nil);go_simp
 (with_reducible refine (aH4 _ q _ (hi1.q hG0.drew)).mono ?_)
 rintro e w1 ⟨v1, rfl, hv1, hq1d⟩;have hq1 : Q w0 w1 := (Q.refl w0).drew.trans hq1d;have hG1 := hG0.trans hq1;have hA1 := hA0.q hq1;have hT1 := hT0.q hq1;obtain ⟨a0, a1, a2, a3, a4, a5⟩ := hA1.cells;obtain ⟨t1, B1, m1, d1, C1, l1, g1, rfl, -⟩ := hv1.form;go_wp2_with fail
 refine hK.out _ _ (by with_reducible exact ⟨a0, a1, a2, a3, a4, a5⟩) (fun hHeld => ?_);clear hK K;try simp only [Act.put]
 try simp only [List.setIfInBounds_toArray]
 try simp only [List.set_cons_succ]
 try simp only [List.set_cons_zero]
 refine wpAnyH_ready (rs := [5]) (by kernel_rfl) (by decide) (AllReadyH.cons rfl (fun K hK => ?_) AllReadyH.nil);go_simp
 (with_reducible refine (aH4 _ p _ (lo1.q hG1)).mono ?_)
 rintro e w2 ⟨v2, rfl, hv2, hq2⟩;have hG2 := hG1.trans hq2;have hA2 := hA1.q hq2;have hT2 := hT1.q hq2;obtain ⟨a0, a1, a2, a3, a4, a5⟩ := hA2.cells;have fz := hT2.frozen;obtain ⟨r0, r1, r2, r3, r4, r5⟩ := hT2.cells;obtain ⟨t2, B2, m2, d2, C2, l2, g2, rfl, -⟩ := hv2.form;go_wp2_with fail
 refine hK.out _ _ (by with_reducible exact ⟨a0, a1, a2, a3, a4, a5⟩) (fun hHeld => ?_);clear hK K;try simp only [Act.put]
 try simp only [List.setIfInBounds_toArray]
 try simp only [List.set_cons_succ]
 try simp only [List.set_cons_zero]
 refine wpAnyH_take (i := 6) (v := ?v6) rfl (by kernel_rfl) (by kernel_rfl) (by kernel_rfl) (fun _ _ _ h => h) (Or.inl ⟨by rfl, ?h6⟩) (by assumption) ?r6
 case h6 =>
  intro W hSw
  (try dsimp only at hSw)
  go_simp
  try (with_reducible rfl)
 try simp only [Act.put]
 try simp only [List.setIfInBounds_toArray]
 try simp only [List.set_cons_succ]
 try simp only [List.set_cons_zero]
 refine wpAnyH_ready (rs := [7]) (by kernel_rfl) (by decide) (AllReadyH.cons rfl (fun K hK => ?_) AllReadyH.nil);go_simp
 refine hK.out _ _ (by exact ⟨(aHQ oV).trans a0, (aHQ oV).trans a1, (aHQ oV).trans a2, (aHQ oV).trans a3, (aHQ oV).trans a4, (aHQ oV).trans a5⟩) (fun hHeld => ?_);clear hK K;try simp only [Act.put]
 try simp only [List.setIfInBounds_toArray]
 try simp only [List.set_cons_succ]
 try simp only [List.set_cons_zero]
 refine wpAnyH_done (by kernel_rfl) ?_ _;go_wp2_with fail
 obtain ⟨z0, z1, z2, z3, z4, z5, hvF, hqF⟩ := Ns.store hT2 (hv1.q hq2) hv2 hG2 (Nat.le_add_right _ _);unfold put6 at z0 z1 z2 z3 z4 z5 hvF hqF;refine bodyPost_ret (v := .agg #[.bool t1, .slice B1 m1 d1, .slice C1 l1 g1, .bool t2, .slice B2 m2 d2, .slice C2 l2 g2]) (by simp [results, Tryz.results129, go_sem, z0, z1, z2, z3, z4, z5]) rfl ?_;exact ⟨_, rfl, hvF, hqF⟩
theorem aII (a : Value) (p q : Rat) (w : World) (ha : Ns w a p q) (hB : sz p + sz q ≤ LIM) : Calls Tryz.prog 123 #[a] w fun e w' => ∃ r, e = .returned r ∧ Ns w' r (p) (q) ∧ Q w w' := by
 obtain ⟨s11, A11, n11, c11, A12, n12, c12, s12, A13, n13, c13, A14, n14, c14, rfl, lo1, hi1⟩ := ha;obtain ⟨w0, hW, hG0, hA0, hT0⟩ := aFs w s11 (.slice A11 n11 c11) (.slice A12 n12 c12) s12 (.slice A13 n13 c13) (.slice A14 n14 c14);have bp1 : dg W64 p.num.natAbs ≤ LIM := by have := gI p; omega
 have bp2 : dg W64 p.den ≤ LIM := by have := lW p; omega
 have bq1 : dg W64 q.num.natAbs ≤ LIM := by have := gI q; omega
 have bq2 : dg W64 q.den ≤ LIM := by have := lW q; omega
 obtain ⟨a0, a1, a2, a3, a4, a5⟩ := hA0.cells;go_enter Tryz.func123, Tryz.ntmps123
 go_wp2_with fail
 clear hW;clear a0 a1 a2 a3 a4 a5;obtain ⟨a0, a1, a2, a3, a4, a5⟩ := hA0.cells;refine wp_region_held_drew (S := fun W => W.cell? ⟨w.heap.size, 0, none⟩ = some (.bool s11) ∧ W.cell? ⟨w.heap.size, 1, none⟩ = some (.slice A11 n11 c11) ∧ W.cell? ⟨w.heap.size, 2, none⟩ = some (.slice A12 n12 c12) ∧ W.cell? ⟨w.heap.size, 3, none⟩ = some (.bool s12) ∧ W.cell? ⟨w.heap.size, 4, none⟩ = some (.slice A13 n13 c13) ∧ W.cell? ⟨w.heap.size, 5, none⟩ = some (.slice A14 n14 c14)) (by kernel_rfl) (by exact ⟨a0, a1, a2, a3, a4, a5⟩) (fun hHeld => ?_);refine wpAnyH_take (i := 0) (v := ?v0) rfl (by kernel_rfl) (by kernel_rfl) (by kernel_rfl) (fun _ _ _ h => h) (Or.inl ⟨by rfl, ?h0⟩) (by assumption) ?r0
 case h0 =>
  intro W hSw
  (try dsimp only at hSw)
  go_simp
  try (with_reducible rfl)
 try simp only [Act.put]
 try simp only [List.setIfInBounds_toArray]
 try simp only [List.set_cons_succ]
 try simp only [List.set_cons_zero]
 refine wpAnyH_take (i := 1) (v := ?v1) rfl (by kernel_rfl) (by kernel_rfl) (by kernel_rfl) (fun _ _ _ h => h) (Or.inl ⟨by rfl, ?h1⟩) (by assumption) ?r1
 case h1 =>
  intro W hSw
  (try dsimp only at hSw)
  go_simp
  try (with_reducible rfl)
 try simp only [Act.put]
 try simp only [List.setIfInBounds_toArray]
 try simp only [List.set_cons_succ]
 try simp only [List.set_cons_zero]
 refine wpAnyH_take (i := 3) (v := ?v3) rfl (by kernel_rfl) (by kernel_rfl) (by kernel_rfl) (fun _ _ _ h => h) (Or.inl ⟨by rfl, ?h3⟩) (by assumption) ?r3
 case h3 =>
  intro W hSw
  (try dsimp only at hSw)
  go_simp
  try (with_reducible rfl)
 try simp only [Act.put]
 try simp only [List.setIfInBounds_toArray]
 try simp only [List.set_cons_succ]
 try simp only [List.set_cons_zero]
 refine wpAnyH_take (i := 4) (v := ?v4) rfl (by kernel_rfl) (by kernel_rfl) (by kernel_rfl) (fun _ _ _ h => h) (Or.inl ⟨by rfl, ?h4⟩) (by assumption) ?r4
 case h4 =>
  intro W hSw
  (try dsimp only at hSw)
  go_simp
  try (with_reducible rfl)
 try simp only [Act.put]
 try simp only [List.setIfInBounds_toArray]
 try simp only [List.set_cons_succ]
 try simp only [List.set_cons_zero]
 refine wpAnyH_ready (rs := [2]) (by kernel_rfl) (by decide) (AllReadyH.cons rfl (fun K hK => ?_) AllReadyH.nil);go_simp
 (with_reducible refine (aIz _ p _ (lo1.q hG0.drew) bp1 bp2).mono ?_)
 rintro e w1 ⟨v1, rfl, hv1, hq1d⟩;have hq1 : Q w0 w1 := (Q.refl w0).drew.trans hq1d;have hG1 := hG0.trans hq1;have hA1 := hA0.q hq1;have hT1 := hT0.q hq1;obtain ⟨a0, a1, a2, a3, a4, a5⟩ := hA1.cells;obtain ⟨t1, B1, m1, d1, C1, l1, g1, rfl, -⟩ := hv1.form;go_wp2_with fail
 refine hK.out _ _ (by with_reducible exact ⟨a0, a1, a2, a3, a4, a5⟩) (fun hHeld => ?_);clear hK K;try simp only [Act.put]
 try simp only [List.setIfInBounds_toArray]
 try simp only [List.set_cons_succ]
 try simp only [List.set_cons_zero]
 refine wpAnyH_ready (rs := [5]) (by kernel_rfl) (by decide) (AllReadyH.cons rfl (fun K hK => ?_) AllReadyH.nil);go_simp
 (with_reducible refine (aIz _ q _ (hi1.q hG1) bq1 bq2).mono ?_)
 rintro e w2 ⟨v2, rfl, hv2, hq2⟩;have hG2 := hG1.trans hq2;have hA2 := hA1.q hq2;have hT2 := hT1.q hq2;obtain ⟨a0, a1, a2, a3, a4, a5⟩ := hA2.cells;have fz := hT2.frozen;obtain ⟨r0, r1, r2, r3, r4, r5⟩ := hT2.cells;obtain ⟨t2, B2, m2, d2, C2, l2, g2, rfl, -⟩ := hv2.form;go_wp2_with fail
 refine hK.out _ _ (by with_reducible exact ⟨a0, a1, a2, a3, a4, a5⟩) (fun hHeld => ?_);clear hK K;try simp only [Act.put]
 try simp only [List.setIfInBounds_toArray]
 try simp only [List.set_cons_succ]
 try simp only [List.set_cons_zero]
 refine wpAnyH_take (i := 6) (v := ?v6) rfl (by kernel_rfl) (by kernel_rfl) (by kernel_rfl) (fun _ _ _ h => h) (Or.inl ⟨by rfl, ?h6⟩) (by assumption) ?r6
 case h6 =>
  intro W hSw
  (try dsimp only at hSw)
  go_simp
  try (with_reducible rfl)
 try simp only [Act.put]
 try simp only [List.setIfInBounds_toArray]
 try simp only [List.set_cons_succ]
 try simp only [List.set_cons_zero]
 refine wpAnyH_ready (rs := [7]) (by kernel_rfl) (by decide) (AllReadyH.cons rfl (fun K hK => ?_) AllReadyH.nil);go_simp
 refine hK.out _ _ (by exact ⟨(aHQ oV).trans a0, (aHQ oV).trans a1, (aHQ oV).trans a2, (aHQ oV).trans a3, (aHQ oV).trans a4, (aHQ oV).trans a5⟩) (fun hHeld => ?_);clear hK K;try simp only [Act.put]
 try simp only [List.setIfInBounds_toArray]
 try simp only [List.set_cons_succ]
 try simp only [List.set_cons_zero]
 refine wpAnyH_done (by kernel_rfl) ?_ _;go_wp2_with fail
 obtain ⟨z0, z1, z2, z3, z4, z5, hvF, hqF⟩ := Ns.store hT2 (hv1.q hq2) hv2 hG2 (Nat.le_add_right _ _);unfold put6 at z0 z1 z2 z3 z4 z5 hvF hqF;refine bodyPost_ret (v := .agg #[.bool t1, .slice B1 m1 d1, .slice C1 l1 g1, .bool t2, .slice B2 m2 d2, .slice C2 l2 g2]) (by simp [results, Tryz.results123, go_sem, z0, z1, z2, z3, z4, z5]) rfl ?_;exact ⟨_, rfl, hvF, hqF⟩
theorem aH6 (a y : Value) (p q x : Rat) (w : World) (ha : Ns w a p q) (hx : Nq w y x) (hB : 64 * (sz p + sz q + sz x) + 400 ≤ LIM) : Calls Tryz.prog 116 #[a, y] w fun e w' => e = .returned (.bool (decide (p ≤ x ∧ x ≤ q))) ∧ Q w w' := by
 obtain ⟨s11, A11, n11, c11, A12, n12, c12, s12, A13, n13, c13, A14, n14, c14, rfl, lo1, hi1⟩ := ha;obtain ⟨s1, A1, n1, c1, A2, n2, c2, rfl, E1, Z1, O1, hxt, hxb⟩ := hx.form;obtain ⟨w0, hW, hG0, hA0, hX0⟩ := aIZ w s11 (.slice A11 n11 c11) (.slice A12 n12 c12) s12 (.slice A13 n13 c13) (.slice A14 n14 c14) s1 (.slice A1 n1 c1) (.slice A2 n2 c2);have HB := Lib.hid hB; clear hB;have b1 : 64 * (sz p + sz x) + 400 ≤ LIM := by have := HB.out; omega
 have b2 : 64 * (sz x + sz q) + 400 ≤ LIM := by have := HB.out; omega
 obtain ⟨c, hc⟩ : ∃ c, rc p x = c := ⟨_, rfl⟩
 obtain ⟨d, hd⟩ : ∃ d, rc x q = d := ⟨_, rfl⟩
 have hle := aFA p x; have hle2 := aFA x q;rw [hc] at hle; rw [hd] at hle2;obtain ⟨r, hr⟩ : ∃ r, decide (p ≤ x ∧ x ≤ q) = r := ⟨_, rfl⟩
 rw [hr];have HC := Lib.hid hc; have HD := Lib.hid hd; have HLE := Lib.hid hle; have HLE2 := Lib.hid hle2; have HR := Lib.hid hr; clear hc hd hle hle2 hr;by_cases h : c ≤ 0
 ·by_cases h2 : d ≤ 0
  ·have hr2 : r = true := (by rw [← HR.out]; exact decide_eq_true ⟨HLE.out.1 h, HLE2.out.1 h2⟩);subst hr2;obtain ⟨a0, a1, a2, a3, a4, a5⟩ := hA0.cells;obtain ⟨x0, x1, x2⟩ := hX0.cells;go_enter Tryz.func116, Tryz.ntmps116
   go_wp2_with fail
   clear hW;refine (uS _ _ p x _ (lo1.q hG0) (hx.q hG0) b1).mono ?_;rintro e w1 ⟨rfl, hq1⟩;have hG1 := hG0.trans hq1;have hA1 := hA0.q hq1;have hX1 := hX0.q hq1;clear a0 a1 a2 a3 a4 a5 x0 x1 x2;obtain ⟨a0, a1, a2, a3, a4, a5⟩ := hA1.cells;obtain ⟨x0, x1, x2⟩ := hX1.cells;rw [HC.out];go_wp2_with fail
   refine (uS _ _ x q _ (hx.q hG1) (hi1.q hG1) b2).mono ?_;rintro e w2 ⟨rfl, hq2⟩;have hG2 := hG1.trans hq2;have hA2 := hA1.q hq2;have hX2 := hX1.q hq2;clear a0 a1 a2 a3 a4 a5 x0 x1 x2;rw [HD.out];go_wp2_with fail
   go_ret
   exact ⟨rfl, hG2⟩
  ·have hr2 : r = false := (by rw [← HR.out]; exact decide_eq_false (fun h3 => h2 (HLE2.out.2 h3.2)));subst hr2;obtain ⟨a0, a1, a2, a3, a4, a5⟩ := hA0.cells;obtain ⟨x0, x1, x2⟩ := hX0.cells;go_enter Tryz.func116, Tryz.ntmps116
   go_wp2_with fail
   clear hW;refine (uS _ _ p x _ (lo1.q hG0) (hx.q hG0) b1).mono ?_;rintro e w1 ⟨rfl, hq1⟩;have hG1 := hG0.trans hq1;have hA1 := hA0.q hq1;have hX1 := hX0.q hq1;clear a0 a1 a2 a3 a4 a5 x0 x1 x2;obtain ⟨a0, a1, a2, a3, a4, a5⟩ := hA1.cells;obtain ⟨x0, x1, x2⟩ := hX1.cells;rw [HC.out];go_wp2_with fail
   refine (uS _ _ x q _ (hx.q hG1) (hi1.q hG1) b2).mono ?_;rintro e w2 ⟨rfl, hq2⟩;have hG2 := hG1.trans hq2;have hA2 := hA1.q hq2;have hX2 := hX1.q hq2;clear a0 a1 a2 a3 a4 a5 x0 x1 x2;rw [HD.out];go_wp2_with fail
   go_ret
   exact ⟨sS (decide_eq_false (by omega)), hG2⟩
 ·have hr2 : r = false := (by rw [← HR.out]; exact decide_eq_false (fun h3 => h (HLE.out.2 h3.1)));subst hr2;obtain ⟨a0, a1, a2, a3, a4, a5⟩ := hA0.cells;obtain ⟨x0, x1, x2⟩ := hX0.cells;go_enter Tryz.func116, Tryz.ntmps116
  go_wp2_with fail
  clear hW;refine (uS _ _ p x _ (lo1.q hG0) (hx.q hG0) b1).mono ?_;rintro e w1 ⟨rfl, hq1⟩;have hG1 := hG0.trans hq1;have hA1 := hA0.q hq1;have hX1 := hX0.q hq1;clear a0 a1 a2 a3 a4 a5 x0 x1 x2;obtain ⟨a0, a1, a2, a3, a4, a5⟩ := hA1.cells;obtain ⟨x0, x1, x2⟩ := hX1.cells;rw [HC.out];go_wp2_with fail
  go_ret
  exact ⟨rfl, hG1⟩
theorem aI9 (w : World) (s3 : Bool) (t3 b3 : Value) : ∃ W, (w.alloc (.cells #[.bool s3, t3, b3] 25)).alloc (.cells #[.bool false, .slice none 0 0, .slice none 0 0, .bool false, .slice none 0 0, .slice none 0 0] 59) = W ∧
  Q w W ∧ Nb W w.heap.size s3 t3 b3 ∧ Sp W (w.heap.size + 1) false (.slice none 0 0) (.slice none 0 0) false (.slice none 0 0) (.slice none 0 0) := by
 have h1 := Nb.new w s3 t3 b3;have h2 := Sp.new (w.alloc (.cells #[.bool s3, t3, b3] 25)) false (.slice none 0 0) (.slice none 0 0) false (.slice none 0 0) (.slice none 0 0);rw [World.size_alloc] at h2;exact ⟨_, rfl, ((Q.refl _).alloc _).alloc _, h1.q ((Q.refl _).alloc _), h2⟩
theorem aHP (a y : Value) (p q x : Rat) (w : World) (ha : Ns w a p q) (hx : Nq w y x) (hB : 64 * (2 * (sz p + sz q) + sz x) + 400 ≤ LIM) : Calls Tryz.prog 56 #[a, y] w fun e w' => e = .returned (.bool (decide (aK p q ≤ x ∧ x ≤ aG p q))) ∧ Q w w' := by
 have hay := ha;obtain ⟨s11, A11, n11, c11, A12, n12, c12, s12, A13, n13, c13, A14, n14, c14, rfl, lo1, hi1⟩ := ha;obtain ⟨s1, A1, n1, c1, A2, n2, c2, rfl, E1, Z1, O1, hxt, hxb⟩ := hx.form;obtain ⟨w0, hW, hG0, hA0, hX0⟩ := aIZ w s11 (.slice A11 n11 c11) (.slice A12 n12 c12) s12 (.slice A13 n13 c13) (.slice A14 n14 c14) s1 (.slice A1 n1 c1) (.slice A2 n2 c2);have hz1 := aEu p q; have hz2 := aAN p q;have b1 : 64 * (sz p + sz q) + 400 ≤ LIM := by omega
 have b2 : 64 * (sz (aK p q) + sz (aG p q) + sz x) + 400 ≤ LIM := by omega
 clear hB hz1 hz2;obtain ⟨r, hr⟩ : ∃ r, decide (aK p q ≤ x ∧ x ≤ aG p q) = r := ⟨_, rfl⟩
 rw [hr];have HR := Lib.hid hr; clear hr;have haa : Ns w (.agg #[.bool s11, .slice A11 n11 c11, .slice A12 n12 c12, .bool s12, .slice A13 n13 c13, .slice A14 n14 c14]) p q := hay;go_enter Tryz.func56, Tryz.ntmps56
 obtain ⟨a0, a1, a2, a3, a4, a5⟩ := hA0.cells;obtain ⟨x0, x1, x2⟩ := hX0.cells;go_wp2_with fail
 clear hW;clear a0 a1 a2 a3 a4 a5 x0 x1 x2;obtain ⟨a0, a1, a2, a3, a4, a5⟩ := hA0.cells;obtain ⟨x0, x1, x2⟩ := hX0.cells
 go_region_held3 (fun W => W.cell? ⟨w.heap.size, 0, none⟩ = some (.bool s11) ∧ W.cell? ⟨w.heap.size, 1, none⟩ = some (.slice A11 n11 c11) ∧ W.cell? ⟨w.heap.size, 2, none⟩ = some (.slice A12 n12 c12) ∧ W.cell? ⟨w.heap.size, 3, none⟩ = some (.bool s12) ∧ W.cell? ⟨w.heap.size, 4, none⟩ = some (.slice A13 n13 c13) ∧ W.cell? ⟨w.heap.size, 5, none⟩ = some (.slice A14 n14 c14) ∧ W.cell? ⟨w.heap.size + 1, 0, none⟩ = some (.bool s1) ∧ W.cell? ⟨w.heap.size + 1, 1, none⟩ = some (.slice A1 n1 c1) ∧ W.cell? ⟨w.heap.size + 1, 2, none⟩ = some (.slice A2 n2 c2)) (first | with_reducible exact ⟨a0, a1, a2, a3, a4, a5, x0, x1, x2⟩ | (refine ⟨?_, ?_, ?_, ?_, ?_, ?_, ?_, ?_, ?_⟩ <;> with_reducible assumption) | go_keep) (first
  | (go_at_call 116; (with_reducible refine (aH6 _ _ (aK p q) (aG p q) x _ hv1 (hx.q hG1) b2).mono ?_); rintro e w2 ⟨rfl, hq2⟩; have hG2 := hG1.trans hq2; have hA2 := hA1.q hq2; have hX2 := hX1.q hq2; obtain ⟨a0, a1, a2, a3, a4, a5⟩ := hA2.cells; obtain ⟨x0, x1, x2⟩ := hX2.cells; rw [HR.out])
  | (go_at_call 115; (with_reducible refine (aCJ _ p q _ (haa.q hG0.drew) b1).mono ?_); rintro e w1 ⟨v1, rfl, hv1, hq1d⟩; have hq1 : Q w0 w1 := (Q.refl w0).drew.trans hq1d; have hG1 := hG0.trans hq1; have hA1 := hA0.q hq1; have hX1 := hX0.q hq1; obtain ⟨a0, a1, a2, a3, a4, a5⟩ := hA1.cells; obtain ⟨x0, x1, x2⟩ := hX1.cells; obtain ⟨t1, B1, m1, d1, C1, l1, g1, t2, B2, m2, d2, C2, l2, g2, rfl, hlo, hhi⟩ := hv1; have hv1 : Ns w1 (.agg #[.bool t1, .slice B1 m1 d1, .slice C1 l1 g1, .bool t2, .slice B2 m2 d2, .slice C2 l2 g2]) (aK p q) (aG p q) := ⟨_, _, _, _, _, _, _, _, _, _, _, _, _, _, rfl, hlo, hhi⟩))
 all_goals
  go_wp2_with fail
  go_ret
  exact ⟨rfl, hG2⟩
theorem aI3 (y : Value) (x : Rat) (w : World) (hx : Nq w y x) (hB : sz x + sz x ≤ LIM) : Calls Tryz.prog 62 #[y] w fun e w' => ∃ r, e = .returned r ∧ Ns w' r x x ∧ Q w w' := by
 obtain ⟨s1, A1, n1, c1, A2, n2, c2, rfl, E1, Z1, O1, hxt, hxb⟩ := hx.form;obtain ⟨w0, hW, hG0, hX0, hT0⟩ := aI9 w s1 (.slice A1 n1 c1) (.slice A2 n2 c2);have hS : Ns w (.agg #[.bool s1, .slice A1 n1 c1, .slice A2 n2 c2, .bool s1, .slice A1 n1 c1, .slice A2 n2 c2]) x x := ⟨_, _, _, _, _, _, _, _, _, _, _, _, _, _, rfl, hx, hx⟩
 go_enter Tryz.func62, Tryz.ntmps62
 obtain ⟨x0, x1, x2⟩ := hX0.cells;go_wp2_with fail
 clear hW;refine (aII _ x x _ (hS.q hG0) hB).mono ?_;rintro e w1 ⟨v1, rfl, hv1, hq1⟩;have hG1 := hG0.trans hq1;have hX1 := hX0.q hq1;have hT1 := hT0.q hq1;clear x0 x1 x2;have fz := hT1.frozen;obtain ⟨r0, r1, r2, r3, r4, r5⟩ := hT1.cells;obtain ⟨t1, B1, m1, d1, C1, l1, g1, t2, B2, m2, d2, C2, l2, g2, rfl, hlo, hhi⟩ := hv1;go_wp2_with fail
 obtain ⟨z0, z1, z2, z3, z4, z5, hvF, hqF⟩ := Ns.store hT1 hlo hhi hG1 (Nat.le_add_right _ _);unfold put6 at z0 z1 z2 z3 z4 z5 hvF hqF;refine bodyPost_ret (v := .agg #[.bool t1, .slice B1 m1 d1, .slice C1 l1 g1, .bool t2, .slice B2 m2 d2, .slice C2 l2 g2]) (by simp [results, Tryz.results62, go_sem, z0, z1, z2, z3, z4, z5]) rfl ?_;exact ⟨_, rfl, hvF, hqF⟩
theorem aIJ (a : Value) (p q : Rat) (z : Int) (w : World) (hT : Tb w) (ha : Ns w a p q) (hB : 2000 * (sz p + sz q) + 500000 ≤ LIM) : Calls Tryz.prog 52 #[a, .int .i64 z] w fun e w' => ∃ r, e = .returned r ∧ Ns w' r (dn (iV z) (aK p q)) (up (iV z) (aG p q)) ∧ Q w w' := by
 have hay := ha;obtain ⟨s11, A11, n11, c11, A12, n12, c12, s12, A13, n13, c13, A14, n14, c14, rfl, lo1, hi1⟩ := ha;have haa : Ns w (.agg #[.bool s11, .slice A11 n11 c11, .slice A12 n12 c12, .bool s12, .slice A13 n13 c13, .slice A14 n14 c14]) p q := hay;obtain ⟨w0, hW, hG0, hA0, hT0⟩ := aFs w s11 (.slice A11 n11 c11) (.slice A12 n12 c12) s12 (.slice A13 n13 c13) (.slice A14 n14 c14);have hz1 := aEu p q; have hz2 := aAN p q;have b1 : 64 * (sz p + sz q) + 400 ≤ LIM := by omega
 have b2 : 2000 * sz (aK p q) + 500000 ≤ LIM := by omega
 have b3 : 2000 * sz (aG p q) + 500000 ≤ LIM := by omega
 clear hz1 hz2 hB;obtain ⟨a0, a1, a2, a3, a4, a5⟩ := hA0.cells;go_enter Tryz.func52, Tryz.ntmps52
 go_wp2_with fail
 clear hW;refine (aCJ _ p q _ (haa.q hG0) b1).mono ?_;rintro e w1 ⟨v1, rfl, hv1, hq1⟩;have hG1 := hG0.trans hq1;have hA1 := hA0.q hq1;have hT1 := hT0.q hq1;clear a0 a1 a2 a3 a4 a5;obtain ⟨a0, a1, a2, a3, a4, a5⟩ := hA1.cells;have fz := hA1.frozen;obtain ⟨t1, B1, m1, d1, C1, l1, g1, t2, B2, m2, d2, C2, l2, g2, rfl, hlo, hhi⟩ := hv1;have hK2 : Sp (put6 w1 w.heap.size t1 (.slice B1 m1 d1) (.slice C1 l1 g1) t2 (.slice B2 m2 d2) (.slice C2 l2 g2)) w.heap.size t1 (.slice B1 m1 d1) (.slice C1 l1 g1) t2 (.slice B2 m2 d2) (.slice C2 l2 g2) := hA1.put;have hG2 := aFr (g := w.heap.size) (s1 := t1) (t1 := .slice B1 m1 d1) (b1 := .slice C1 l1 g1) (s2 := t2) (t2 := .slice B2 m2 d2) (b2 := .slice C2 l2 g2) hG1 (Nat.le_refl _);have hT2 : Sp (put6 w1 w.heap.size t1 (.slice B1 m1 d1) (.slice C1 l1 g1) t2 (.slice B2 m2 d2) (.slice C2 l2 g2)) (w.heap.size + 1) false (.slice none 0 0) (.slice none 0 0) false (.slice none 0 0) (.slice none 0 0) := (aCH (Nat.succ_ne_self _)).trans hT1;have hl2 := hlo.apart6 (s1' := t1) (t1' := .slice B1 m1 d1) (b1' := .slice C1 l1 g1) (s2' := t2) (t2' := .slice B2 m2 d2) (b2' := .slice C2 l2 g2) hA1;have hh2 := hhi.apart6 (s1' := t1) (t1' := .slice B1 m1 d1) (b1' := .slice C1 l1 g1) (s2' := t2) (t2' := .slice B2 m2 d2) (b2' := .slice C2 l2 g2) hA1;go_wp2_with fail
 unfold put6 at hK2 hG2 hT2 hl2 hh2;generalize (((((w1.setCell ⟨w.heap.size, 0, none⟩ (.bool t1)).setCell ⟨w.heap.size, 1, none⟩ (.slice B1 m1 d1)).setCell ⟨w.heap.size, 2, none⟩ (.slice C1 l1 g1)).setCell ⟨w.heap.size, 3, none⟩ (.bool t2)).setCell ⟨w.heap.size, 4, none⟩ (.slice B2 m2 d2)).setCell ⟨w.heap.size, 5, none⟩ (.slice C2 l2 g2) = w2 at hK2 hG2 hT2 hl2 hh2 ⊢;clear a0 a1 a2 a3 a4 a5 fz;obtain ⟨k0, k1, k2, k3, k4, k5⟩ := hK2.cells;refine wp_region_held_drew (S := fun W => W.cell? ⟨w.heap.size, 0, none⟩ = some (.bool t1) ∧ W.cell? ⟨w.heap.size, 1, none⟩ = some (.slice B1 m1 d1) ∧ W.cell? ⟨w.heap.size, 2, none⟩ = some (.slice C1 l1 g1) ∧ W.cell? ⟨w.heap.size, 3, none⟩ = some (.bool t2) ∧ W.cell? ⟨w.heap.size, 4, none⟩ = some (.slice B2 m2 d2) ∧ W.cell? ⟨w.heap.size, 5, none⟩ = some (.slice C2 l2 g2)) (by kernel_rfl) (by exact ⟨k0, k1, k2, k3, k4, k5⟩) (fun hHeld => ?_);refine wpAnyH_take (i := 0) (v := ?v0) rfl (by kernel_rfl) (by kernel_rfl) (by kernel_rfl) (fun _ _ _ h => h) (Or.inl ⟨by rfl, ?h0⟩) (by assumption) ?r0
 case h0 =>
  intro W hSw
  (try dsimp only at hSw)
  go_simp
  try (with_reducible rfl)
 try simp only [Act.put]
 try simp only [List.setIfInBounds_toArray]
 try simp only [List.set_cons_succ]
 try simp only [List.set_cons_zero]
 refine wpAnyH_take (i := 1) (v := ?v1) rfl (by kernel_rfl) (by kernel_rfl) (by kernel_rfl) (fun _ _ _ h => h) (Or.inl ⟨by rfl, ?h1⟩) (by assumption) ?r1
 case h1 =>
  intro W hSw
  (try dsimp only at hSw)
  go_simp
  try (with_reducible rfl)
 try simp only [Act.put]
 try simp only [List.setIfInBounds_toArray]
 try simp only [List.set_cons_succ]
 try simp only [List.set_cons_zero]
 refine wpAnyH_take (i := 2) (v := ?v2) rfl (by kernel_rfl) (by kernel_rfl) (by kernel_rfl) (fun _ _ _ h => h) (Or.inl ⟨by rfl, ?h2⟩) (by assumption) ?r2
 case h2 =>
  intro W hSw
  (try dsimp only at hSw)
  go_simp
  try (with_reducible rfl)
 try simp only [Act.put]
 try simp only [List.setIfInBounds_toArray]
 try simp only [List.set_cons_succ]
 try simp only [List.set_cons_zero]
 refine wpAnyH_take (i := 4) (v := ?v4) rfl (by kernel_rfl) (by kernel_rfl) (by kernel_rfl) (fun _ _ _ h => h) (Or.inl ⟨by rfl, ?h4⟩) (by assumption) ?r4
 case h4 =>
  intro W hSw
  (try dsimp only at hSw)
  go_simp
  try (with_reducible rfl)
 try simp only [Act.put]
 try simp only [List.setIfInBounds_toArray]
 try simp only [List.set_cons_succ]
 try simp only [List.set_cons_zero]
 refine wpAnyH_take (i := 5) (v := ?v5) rfl (by kernel_rfl) (by kernel_rfl) (by kernel_rfl) (fun _ _ _ h => h) (Or.inl ⟨by rfl, ?h5⟩) (by assumption) ?r5
 case h5 =>
  intro W hSw
  (try dsimp only at hSw)
  go_simp
  try (with_reducible rfl)
 try simp only [Act.put]
 try simp only [List.setIfInBounds_toArray]
 try simp only [List.set_cons_succ]
 try simp only [List.set_cons_zero]
 refine wpAnyH_take (i := 6) (v := ?v6) rfl (by kernel_rfl) (by kernel_rfl) (by kernel_rfl) (fun _ _ _ h => h) (Or.inl ⟨by rfl, ?h6⟩) (by assumption) ?r6
 case h6 =>
  intro W hSw
  (try dsimp only at hSw)
  go_simp
  try (with_reducible rfl)
 try simp only [Act.put]
 try simp only [List.setIfInBounds_toArray]
 try simp only [List.set_cons_succ]
 try simp only [List.set_cons_zero]
 refine wpAnyH_ready (rs := [3]) (by kernel_rfl) (by decide) (AllReadyH.cons rfl (fun K hK => ?_) AllReadyH.nil);go_simp
 (with_reducible refine (aFl _ (aK p q) z _ (hT.q hG2.drew) (hl2.q (Q.refl _).drew) b2).mono ?_)
 rintro e w3 ⟨v3, rfl, hv3, hq3d⟩;have hq3 : Q w2 w3 := (Q.refl w2).drew.trans hq3d;have hG3 := hG2.trans hq3;have hK3 := hK2.q hq3;have hT3 := hT2.q hq3;obtain ⟨k0, k1, k2, k3, k4, k5⟩ := hK3.cells;obtain ⟨t3, B3, m3, d3, C3, l3, g3, rfl, -⟩ := hv3.form;go_wp2_with fail
 refine hK.out _ _ (by with_reducible exact ⟨k0, k1, k2, k3, k4, k5⟩) (fun hHeld => ?_);clear hK K;try simp only [Act.put]
 try simp only [List.setIfInBounds_toArray]
 try simp only [List.set_cons_succ]
 try simp only [List.set_cons_zero]
 refine wpAnyH_ready (rs := [7]) (by kernel_rfl) (by decide) (AllReadyH.cons rfl (fun K hK => ?_) AllReadyH.nil);go_simp
 (with_reducible refine (aGg _ (aG p q) z _ (hT.q hG3) (hh2.q hq3) b3).mono ?_)
 rintro e w4 ⟨v4, rfl, hv4, hq4⟩;have hG4 := hG3.trans hq4;have hK4 := hK3.q hq4;have hT4 := hT3.q hq4;obtain ⟨k0, k1, k2, k3, k4, k5⟩ := hK4.cells;have fz := hT4.frozen;obtain ⟨r0, r1, r2, r3, r4, r5⟩ := hT4.cells;obtain ⟨t4, B4, m4, d4, C4, l4, g4, rfl, -⟩ := hv4.form;go_wp2_with fail
 refine hK.out _ _ (by with_reducible exact ⟨k0, k1, k2, k3, k4, k5⟩) (fun hHeld => ?_);clear hK K;try simp only [Act.put]
 try simp only [List.setIfInBounds_toArray]
 try simp only [List.set_cons_succ]
 try simp only [List.set_cons_zero]
 refine wpAnyH_take (i := 8) (v := ?v8) rfl (by kernel_rfl) (by kernel_rfl) (by kernel_rfl) (fun _ _ _ h => h) (Or.inl ⟨by rfl, ?h8⟩) (by assumption) ?r8
 case h8 =>
  intro W hSw
  (try dsimp only at hSw)
  go_simp
  try (with_reducible rfl)
 try simp only [Act.put]
 try simp only [List.setIfInBounds_toArray]
 try simp only [List.set_cons_succ]
 try simp only [List.set_cons_zero]
 refine wpAnyH_ready (rs := [9]) (by kernel_rfl) (by decide) (AllReadyH.cons rfl (fun K hK => ?_) AllReadyH.nil);go_simp
 refine hK.out _ _ (by exact ⟨(aHQ oV).trans k0, (aHQ oV).trans k1, (aHQ oV).trans k2, (aHQ oV).trans k3, (aHQ oV).trans k4, (aHQ oV).trans k5⟩) (fun hHeld => ?_);clear hK K;try simp only [Act.put]
 try simp only [List.setIfInBounds_toArray]
 try simp only [List.set_cons_succ]
 try simp only [List.set_cons_zero]
 refine wpAnyH_done (by kernel_rfl) ?_ _;go_wp2_with fail
 obtain ⟨z0, z1, z2, z3, z4, z5, hvF, hqF⟩ := Ns.store hT4 (hv3.q hq4) hv4 hG4 (Nat.le_add_right _ _);unfold put6 at z0 z1 z2 z3 z4 z5 hvF hqF;refine bodyPost_ret (v := .agg #[.bool t3, .slice B3 m3 d3, .slice C3 l3 g3, .bool t4, .slice B4 m4 d4, .slice C4 l4 g4]) (by simp [results, Tryz.results52, go_sem, z0, z1, z2, z3, z4, z5]) rfl ?_;exact ⟨_, rfl, hvF, hqF⟩
theorem kX (A : Option Addr) (c B n : Nat) (ds : List Nat) (w : World) (hn : ds.length = n) (hc : n ≤ c) (hm : n ≤ 9223372036854775807) (hx : Rd .i64 w B A ds) :
  Calls Tryz.prog 162 #[.slice A n c] w fun e w' => ∃ k, k ≤ ds.length ∧ e = .returned (.slice A k c) ∧ Nz (ds.take k) ∧ (∀ b, vl b (ds.take k) = vl b ds) ∧ w = w' := by
 subst hn;go_enter Tryz.func162, Tryz.ntmps162
 go_wp2
 go_loop [3] (fun i => ∃ k : Nat, k ≤ ds.length ∧ i = .int .i64 (k : Int) ∧ ∀ b, vl b (ds.take k) = vl b ds) (fun i => (intOf i).toNat)
 case atStart => exact ⟨ds.length, by omega, rfl, fun b => by simp⟩
 case round =>
  obtain ⟨k, hk, rfl, hv⟩ := hrel;have HV := Lib.hid hv; clear hv;by_cases hlt : 0 < k
  ·obtain ⟨j, rfl⟩ : ∃ j, k = j + 1 := ⟨k - 1, by omega⟩
   obtain ⟨ad, rfl, hb, hcell⟩ := hx.at_ (k := j) (by omega);by_cases h0 : ds[j] = 0
   ·have h0' : ((ds[j] : Int) == 0) = true := (by simp [h0]);have H : ∀ b, vl b (ds.take j) = vl b ds := fun b => (by rw [← HV.out b, dZ b (by omega), h0]; simp);have H := Lib.hid H; clear h0 HV;go_wp2
    exact ⟨⟨j, by omega, rfl, H.out⟩, by simp [intOf]⟩
   ·have h0' : ((ds[j] : Int) == 0) = false := (by simp; omega);have H : Nz (ds.take (j + 1)) := uZ (by omega) h0;clear h0;go_wp2
    go_ret
    exact ⟨j + 1, by omega, rfl, H, HV.out, rfl⟩
  ·obtain rfl : k = 0 := (by omega);go_wp2
   go_ret
   exact ⟨0, by omega, rfl, xK, HV.out, rfl⟩
theorem aBw (A B : Option Addr) (n c d : Nat) (xs ys : List Nat) (w : World) (lx : Hid (xs.length = n)) (ly : Hid (ys.length = n)) (hn : n ≤ 9223372036854775807) (rx : Rd .i64 w w.heap.size A xs) (ry : Rd .i64 w w.heap.size B ys) (wx : Wf B30 xs) (wy : Wf B30 ys) :
  Calls Tryz.prog 153 #[.slice A n c, .slice B n d] w fun e w' => e = .returned (.int .i64 (cmp (vl B30 xs) (vl B30 ys))) ∧ Q w w' := by
 go_enter Tryz.func153, Tryz.ntmps153
 go_wp2
 go_loopw [5] (fun i w1 => ∃ k : Nat, k ≤ n ∧ i = .int .i64 ((k : Int) - 1) ∧ xs.drop k = ys.drop k ∧ ∃ m, w1 = w.drewN m) (fun i _ => (intOf i + 1).toNat)
 case atStart => exact ⟨n, by omega, rfl, by rw [List.drop_of_length_le (by rw [lx.out]; omega), List.drop_of_length_le (by rw [ly.out]; omega)], 0, rfl⟩
 case round =>
  obtain ⟨k, hk, rfl, hdrop, m, rfl⟩ := hrel;have HD := Lib.hid hdrop; clear hdrop;by_cases hlt : 0 < k
  ·obtain ⟨j, rfl⟩ : ∃ j, k = j + 1 := ⟨k - 1, by omega⟩
   have jx : j < xs.length := (by rw [lx.out]; omega);have jy : j < ys.length := (by rw [ly.out]; omega);obtain ⟨ad, rfl, hb, hcx⟩ := rx.at_ jx;obtain ⟨ae, rfl, hb', hcy⟩ := ry.at_ jy;rw [show ((j + 1 : Nat) : Int) - 1 = (j : Int) from by omega];have HX := Lib.hid (List.getElem?_eq_getElem jx);have HY := Lib.hid (List.getElem?_eq_getElem jy);generalize xs[j] = x at *
   generalize ys[j] = y at *
   clear jx jy hb hb';rcases Nat.lt_trichotomy x y with h | h | h
   ·go_wp2
    go_quiet (fail)
    go_wp2
    go_ret
    exact ⟨by rw [fQ (kE wx.1 HD.out HX.out HY.out h)]; rfl, (by repeat (first | exact Q.refl _ | refine Q.drewN ?_ _))⟩
   ·subst h;go_wp2
    go_quiet (fail)
    go_wp2
    go_quiet (fail)
    go_wp2
    refine ⟨⟨j, by omega, rfl, ?_, _, rfl⟩, by simp [intOf]⟩;obtain ⟨jx, ex⟩ := List.getElem?_eq_some_iff.1 HX.out;obtain ⟨jy, ey⟩ := List.getElem?_eq_some_iff.1 HY.out;rw [List.drop_eq_getElem_cons jx, List.drop_eq_getElem_cons jy, ex, ey, HD.out]
   ·go_wp2
    go_quiet (fail)
    go_wp2
    go_quiet (fail)
    go_wp2
    go_ret
    exact ⟨by rw [gT (kE wy.1 HD.out.symm HY.out HX.out h)]; rfl, (by repeat (first | exact Q.refl _ | refine Q.drewN ?_ _))⟩
  ·obtain rfl : k = 0 := (by omega);rw [show ((0 : Nat) : Int) - 1 = -1 from by omega];go_wp2
   go_ret
   have e : xs = ys := (by simpa using HD.out);exact ⟨by rw [e, cmp_eq]; rfl, (by repeat (first | exact Q.refl _ | refine Q.drewN ?_ _))⟩
theorem jR (x y : Value) (M N : Nat) (w : World) (hx : Nr w x M) (hy : Nr w y N) (hM : dg B30 M ≤ LIM) (hN : dg B30 N ≤ LIM) :
  Calls Tryz.prog 153 #[x, y] w fun e w' => e = .returned (.int .i64 (cmp M N)) ∧ Q w w' := by
 obtain ⟨A, c, xs, rfl, hc, rx, wx, rfl⟩ := hx;obtain ⟨B, d, ys, rfl, hd, ry, wy, rfl⟩ := hy;rw [← wx.len aF, aA] at hM;rw [← wy.len aF, aA] at hN;rcases Nat.lt_trichotomy xs.length ys.length with hlt | heq | hgt
 ·have h := Wf.len_lt (b := B30) (by decide) wx.1 wy.2 hlt;rw [fQ h];clear h;go_enter Tryz.func153, Tryz.ntmps153
  go_wp2
  go_ret
  exact ⟨rfl, Q.refl _⟩
 ·obtain ⟨n, hn⟩ : ∃ n, xs.length = n := ⟨_, rfl⟩
  have hn2 : ys.length = n := (by omega);rw [hn, hn2];exact aBw A B n c d xs ys w hn hn2 (by omega) rx ry wx wy
 ·have h := Wf.len_lt (b := B30) (by decide) wy.1 wx.2 hgt;rw [gT h];clear h;go_enter Tryz.func153, Tryz.ntmps153
  go_wp2
  go_ret
  exact ⟨rfl, Q.refl _⟩
theorem oZ : (Tryz.prog.info? 2).map (fun i => (i.zero, i.size, i.bytes)) = some (some (.int .i64 0), 1, 8) := by kernel_rfl
theorem nW (n : Nat) (e : Int) (he : e = (n : Int)) (hn : n ≤ LIM) (w : World) :
  (Instr.makeSlice 30 (.int .i64 e) (.int .i64 e)).run Tryz.prog w = .ok (.slice (some ⟨w.heap.size, 0, none⟩) n n) (w.alloc (.cells (zs .i64 n) 2)) := by
 rw [aA] at hn;subst he;rw [← rE];exact run_make_row' _ _ _ 8 Tryz.underlying30 oZ rfl _ _ n (by omega) (by omega) w
theorem aEz (n c : Nat) (a b : Int) (ha : a = (n : Int)) (hb : b = (c : Int)) (hnc : n ≤ c) (hc : c ≤ LIM) (w : World) :
  (Instr.makeSlice 30 (.int .i64 a) (.int .i64 b)).run Tryz.prog w = .ok (.slice (some ⟨w.heap.size, 0, none⟩) n c) (w.alloc (.cells (zs .i64 c) 2)) := by
 rw [aA] at hc;subst ha hb;obtain ⟨i, hi, h1, h2, h3⟩ := info_parts oZ;have h := run_make (P := Tryz.prog) w 30 2 i (.int .i64 0) Tryz.underlying30 hi h1 .i64 .i64 (n : Int) (c : Int) (by omega) (by omega) (by rw [h3]; omega) (by omega);rw [h2] at h;simp only [Int.toNat_natCast, Nat.mul_one] at h;rw [h, ← rE];rfl
theorem aFu (x y : Value) (M N : Nat) (w : World) (hx : Nr w x M) (hy : Nr w y N) (hM : dg B30 M + 1 ≤ LIM) (hN : dg B30 N + 1 ≤ LIM) :
  Calls Tryz.prog 113 #[x, y] w (mQ (M + N) w) := by
 have hlen : dg B30 N ≤ dg B30 M ∨ dg B30 M < dg B30 N := by omega
 rcases hlen with hlen | hlen
 case' inl =>
  obtain ⟨A, c, xs, rfl, hc, rx, wx, rfl⟩ := hx;obtain ⟨B, d, ys, rfl, hd, ry, wy, rfl⟩ := hy;rw [← wx.len aF, ← wy.len aF] at hlen;rw [← wx.len aF] at hM;rw [← wy.len aF] at hN
 case' inr =>
  obtain ⟨B, d, ys, rfl, hd, ry, wy, rfl⟩ := hx;obtain ⟨A, c, xs, rfl, hc, rx, wx, rfl⟩ := hy;rw [← wx.len aF, ← wy.len aF] at hlen;rw [← wy.len aF] at hM;rw [← wx.len aF] at hN;rw [Nat.add_comm (vl B30 ys)]
 all_goals
  have hmk := nW (xs.length + 1) ((xs.length : Int) + 1) rfl (by omega);rw [aA] at hM hN;go_enter Tryz.func113, Tryz.ntmps113
  go_wp2
  go_loopw [6, 7] (fun cv iv w1 => ∃ (k cy : Nat) (out : List Nat), k ≤ xs.length ∧ iv = .int .i64 (k : Int) ∧ cv = .int .i64 (cy : Int) ∧ cy ≤ 1 ∧
      out.length = xs.length + 1 ∧ (∀ d ∈ out, d < B30) ∧ vl B30 (out.take k) + B30 ^ k * cy = vl B30 (xs.take k) + vl B30 (ys.take k) ∧
      Blk .i64 w1 w.heap.size 2 out ∧ Q w w1) (fun _ iv _ => xs.length - (intOf iv).toNat)
  case atStart => exact ⟨0, 0, List.replicate (xs.length + 1) 0, by omega, rfl, rfl, by omega, by simp, cZ (by decide), by simp [vl], Blk.made _ _ _, (Q.refl _).alloc _⟩
  case round =>
   obtain ⟨k, cy, out, hk, rfl, rfl, hcy, hl, ho, hv, hb, hq⟩ := hrel;have HV := Lib.hid hv; clear hv;have HL := Lib.hid hl; clear hl;by_cases hlt : k < xs.length
   ·obtain ⟨ad, rfl, hbk, hcx⟩ := (rx.below hq).at_ hlt;have hcell := hb.cell (i := k) (by rw [HL.out]; omega);have hfz := hb.frozen k;have bx : xs[k] < 1073741824 := wx.1 _ (List.getElem_mem _);have HX := Lib.hid (List.getElem?_eq_getElem hlt);generalize xs[k] = x at *
    by_cases hlt2 : k < ys.length
    ·obtain ⟨ae, rfl, hbk', hcy'⟩ := (ry.below hq).at_ hlt2;have by_ : ys[k] < 1073741824 := wy.1 _ (List.getElem_mem _);have HY := Lib.hid (List.getElem?_eq_getElem hlt2);generalize ys[k] = y at *
     go_wp2
     refine ⟨⟨k + 1, (cy + x + y) / B30, out.set k ((cy + x + y) % B30), by omega, by go_num, congrArg (Value.int _) (by rw [aL]; omega), by rw [aL]; omega,
      by rw [List.length_set, HL.out], bY ho (Nat.mod_lt _ (by decide)), ?_, hb.put k _ (by rw [aL]; omega), hq.setCell (Nat.le_refl _) _⟩, by simp [intOf]; omega⟩
     rw [bK _ (by rw [HL.out]; omega), aX _ HX.out, aX _ HY.out];exact tO HV.out rfl (Nat.mod_add_div _ _).symm
    ·go_wp2
     refine ⟨⟨k + 1, (cy + x) / B30, out.set k ((cy + x) % B30), by omega, by go_num, congrArg (Value.int _) (by rw [aL]; omega), by rw [aL]; omega,
      by rw [List.length_set, HL.out], bY ho (Nat.mod_lt _ (by decide)), ?_, hb.put k _ (by rw [aL]; omega), hq.setCell (Nat.le_refl _) _⟩, by simp [intOf]; omega⟩
     rw [bK _ (by rw [HL.out]; omega), aX _ HX.out, jU _ (by omega)];exact tO HV.out (by omega) (Nat.mod_add_div _ _).symm
   ·obtain rfl : k = xs.length := (by omega);have hcell := hb.cell (i := xs.length) (by rw [HL.out]; omega);have hfz := hb.frozen xs.length;go_wp2_with fail
    have hb2 := hb.put xs.length cy (e := (cy : Int)) rfl;refine (kX _ _ (w.heap.size + 1) _ _ _ (by rw [List.length_set, HL.out]) (Nat.le_refl _) (by omega) (hb2.rd (Nat.lt_succ_self _))).mono ?_;rintro e w2 ⟨k, hk2, rfl, hnz, hv, rfl⟩;go_wp2
    go_ret
    have ho2 := bY (k := xs.length) ho (show cy < B30 by rw [aL]; omega);refine ⟨_, rfl, Nn.of_blk hb2 hk2 (by rw [List.length_set, HL.out] at hk2; exact hk2) hnz ho2 ?_, hq.setCell (Nat.le_refl _) _, Nw.at_ (Nat.le_refl _)⟩
    rw [hv, ← List.take_of_length_le (l := out.set xs.length cy) (i := xs.length + 1) (by rw [List.length_set, HL.out]; omega), bK _ (by rw [HL.out]; omega), HV.out,
     List.take_length, List.take_of_length_le (by omega)]
theorem vW (x y : Value) (M N : Nat) (w : World) (hx : Nr w x M) (hy : Nr w y N) (hle : N ≤ M) (hM : dg B30 M + 1 ≤ LIM) :
  Calls Tryz.prog 155 #[x, y] w (mQ (M - N) w) := by
 obtain ⟨A, c, xs, rfl, hc, rx, wx, rfl⟩ := hx;obtain ⟨B, d, ys, rfl, hd, ry, wy, rfl⟩ := hy;have hlen := Wf.len_le (by decide) wx wy hle;rw [← wx.len aF] at hM;have hmk := nW xs.length (xs.length : Int) rfl (by omega);rw [aA] at hM;go_enter Tryz.func155, Tryz.ntmps155
 go_wp2
 go_loopw [6, 7, 8] (fun lv iv _ w1 => ∃ (k l : Nat) (out : List Nat), k ≤ xs.length ∧ iv = .int .i64 (k : Int) ∧ lv = .int .i64 (l : Int) ∧ l ≤ 1 ∧
     out.length = xs.length ∧ (∀ d ∈ out, d < B30) ∧ vl B30 (xs.take k) + B30 ^ k * l = vl B30 (out.take k) + vl B30 (ys.take k) ∧
     Blk .i64 w1 w.heap.size 2 out ∧ Q w w1) (fun _ iv _ _ => xs.length - (intOf iv).toNat)
 case atStart => exact ⟨0, 0, List.replicate xs.length 0, by omega, rfl, rfl, by omega, by simp, cZ (by decide), by simp [vl], Blk.made _ _ _, (Q.refl _).alloc _⟩
 case round =>
  obtain ⟨k, l, out, hk, rfl, rfl, hl1, hl, ho, hv, hb, hq⟩ := hrel;have HV := Lib.hid hv; clear hv;have HL := Lib.hid hl; clear hl;by_cases hlt : k < xs.length
  ·obtain ⟨ad, rfl, hbk, hcx⟩ := (rx.below hq).at_ hlt;have hcell := hb.cell (i := k) (by rw [HL.out]; omega);have hfz := hb.frozen k;have bx : xs[k] < 1073741824 := wx.1 _ (List.getElem_mem _);have HX := Lib.hid (List.getElem?_eq_getElem hlt);generalize xs[k] = x at *
   by_cases hlt2 : k < ys.length
   ·obtain ⟨ae, rfl, hbk', hcy'⟩ := (ry.below hq).at_ hlt2;have by_ : ys[k] < 1073741824 := wy.1 _ (List.getElem_mem _);have HY := Lib.hid (List.getElem?_eq_getElem hlt2);generalize ys[k] = y at *
    by_cases hn : x < l + y
    ·go_wp2
     refine ⟨⟨k + 1, 1, out.set k (x + B30 - l - y), by omega, by go_num, rfl, by omega,
      by rw [List.length_set, HL.out], bY ho (by rw [aL]; omega), ?_, hb.put k _ (by rw [aL]; omega), hq.setCell (Nat.le_refl _) _⟩, by simp [intOf]; omega⟩
     rw [bK _ (by rw [HL.out]; omega), aX _ HX.out, aX _ HY.out];exact jV HV.out (by rw [aL]; omega)
    ·go_wp2
     refine ⟨⟨k + 1, 0, out.set k (x - l - y), by omega, by go_num, rfl, by omega,
      by rw [List.length_set, HL.out], bY ho (by rw [aL]; omega), ?_, hb.put k _ (by omega), hq.setCell (Nat.le_refl _) _⟩, by simp [intOf]; omega⟩
     rw [bK _ (by rw [HL.out]; omega), aX _ HX.out, aX _ HY.out];exact jV HV.out (by omega)
   ·by_cases hn : x < l
    ·go_wp2
     refine ⟨⟨k + 1, 1, out.set k (x + B30 - l), by omega, by go_num, rfl, by omega,
      by rw [List.length_set, HL.out], bY ho (by rw [aL]; omega), ?_, hb.put k _ (by rw [aL]; omega), hq.setCell (Nat.le_refl _) _⟩, by simp [intOf]; omega⟩
     rw [bK _ (by rw [HL.out]; omega), aX _ HX.out, jU _ (by omega)];exact jV HV.out (by rw [aL]; omega)
    ·go_wp2
     refine ⟨⟨k + 1, 0, out.set k (x - l), by omega, by go_num, rfl, by omega,
      by rw [List.length_set, HL.out], bY ho (by rw [aL]; omega), ?_, hb.put k _ (by omega), hq.setCell (Nat.le_refl _) _⟩, by simp [intOf]; omega⟩
     rw [bK _ (by rw [HL.out]; omega), aX _ HX.out, jU _ (by omega)];exact jV HV.out (by omega)
  ·obtain rfl : k = xs.length := (by omega);go_wp2_with fail
   refine (kX _ _ (w.heap.size + 1) _ _ _ HL.out (Nat.le_refl _) (by omega) (hb.rd (Nat.lt_succ_self _))).mono ?_;rintro e w2 ⟨k, hk2, rfl, hnz, hv, rfl⟩;go_wp2
   go_ret
   refine ⟨_, rfl, Nn.of_blk hb hk2 (by rw [HL.out] at hk2; exact hk2) hnz ho ?_, hq, Nw.at_ (Nat.le_refl _)⟩;rw [hv];refine tQ ho HL.out hle (l := l) ?_;have h := HV.out;rw [List.take_length, List.take_of_length_le hlen, List.take_of_length_le (by rw [HL.out]; omega)] at h;exact h
theorem aAV (x y : Value) (M N : Nat) (w : World) (hx : Nr w x M) (hy : Nr w y N) (hM : dg B30 M + dg B30 N + 2 ≤ LIM) :
  Calls Tryz.prog 106 #[x, y] w (mQ (M * N) w) := by
 obtain ⟨A, c, xs, rfl, hc, rx, wx, rfl⟩ := hx;obtain ⟨B, d, ys, rfl, hd, ry, wy, rfl⟩ := hy;rw [← wx.len aF, ← wy.len aF] at hM;have hmk := nW (xs.length + ys.length) ((xs.length : Int) + ys.length) rfl (by omega);rw [aA] at hM;go_enter Tryz.func106, Tryz.ntmps106
 go_wp2
 go_loopw [6, 7, 8] (fun iv _ _ w1 => ∃ (i : Nat) (out : List Nat), i ≤ xs.length ∧ iv = .int .i64 (i : Int) ∧
     out.length = xs.length + ys.length ∧ (∀ d ∈ out, d < B30) ∧ vl B30 (out.take (i + ys.length)) = vl B30 (xs.take i) * vl B30 ys ∧
     out.drop (i + ys.length) = List.replicate (xs.length - i) 0 ∧
     Blk .i64 w1 w.heap.size 2 out ∧ Q w w1) (fun iv _ _ _ => xs.length - (intOf iv).toNat)
 case atStart => exact ⟨0, List.replicate (xs.length + ys.length) 0, by omega, rfl, by simp, cZ (by decide), by rw [List.take_replicate, iD]; simp [vl], by simp, Blk.made _ _ _, (Q.refl _).alloc _⟩
 case round =>
  obtain ⟨i, out0, hi, rfl, hl, ho, hv, hdr, hb, hq⟩ := hrel;have HV := Lib.hid hv; clear hv;have HL0 := Lib.hid hl; clear hl;have HD := Lib.hid hdr; clear hdr;by_cases hlt : i < xs.length
  ·obtain ⟨ad, rfl, hbk, hcx0⟩ := rx.at_ hlt;have bx : xs[i] < 1073741824 := wx.1 _ (List.getElem_mem _);have HX := Lib.hid (List.getElem?_eq_getElem hlt);generalize xs[i] = x at *
   go_wp2
   obtain ⟨wo, rfl⟩ : ∃ wo : World, wo = wr := ⟨_, rfl⟩
   go_loopw [7, 8] (fun cv kv w1 => ∃ (k cy : Nat) (out : List Nat), k ≤ ys.length ∧ kv = .int .i64 (k : Int) ∧ cv = .int .i64 (cy : Int) ∧ cy < 1073741824 ∧
    out.length = xs.length + ys.length ∧ (∀ d ∈ out, d < B30) ∧ vl B30 (out.take (i + k)) + B30 ^ (i + k) * cy = vl B30 (out0.take (i + k)) + B30 ^ i * (x * vl B30 (ys.take k)) ∧
    out.drop (i + k) = out0.drop (i + k) ∧
    Blk .i64 w1 w.heap.size 2 out ∧ Q w w1) (fun _ kv _ => ys.length - (intOf kv).toNat)
   case atStart => exact ⟨0, 0, out0, by omega, rfl, rfl, by omega, HL0.out, ho, by simp [vl], rfl, hb, hq⟩
   case round =>
    clear hb hq ho;obtain ⟨k, cy, out, hk, rfl, rfl, hcy, hl, ho, hv, hdr, hb, hq⟩ := hrel;have HV2 := Lib.hid hv; clear hv;have HL := Lib.hid hl; clear hl;have HD2 := Lib.hid hdr; clear hdr;by_cases hlt2 : k < ys.length
    ·obtain ⟨ae, rfl, hbk', hcy'⟩ := (ry.below hq).at_ hlt2;have hcx := (hq.cell (p := ad.add i) (by rw [eF]; exact hbk)).trans hcx0;have by_ : ys[k] < 1073741824 := wy.1 _ (List.getElem_mem _);have HY := Lib.hid (List.getElem?_eq_getElem hlt2);generalize ys[k] = y at *
     have hik : i + k < out.length := (by rw [HL.out]; omega);have hcell := hb.cell hik;have hfz := hb.frozen (i + k);have bo : out[i + k] < 1073741824 := ho _ (List.getElem_mem _);have HO := Lib.hid (List.getElem?_eq_getElem hik);generalize out[i + k] = o at *
     clear hik;have hp : (x : Int) * y ≤ 1152921502459363329 := by
      have := Nat.mul_le_mul (show x ≤ 1073741823 by omega) (show y ≤ 1073741823 by omega);have e : ((x * y : Nat) : Int) = (x : Int) * y := Int.natCast_mul _ _;omega
     have hp0 : 0 ≤ (x : Int) * y := Int.mul_nonneg (by omega) (by omega);have HP := Lib.hid (show ((x * y : Nat) : Int) = (x : Int) * y from Int.natCast_mul _ _);clear hcx0;go_wp2
     go_quiet (fail)
     go_wp2
     have hP := HP.out
     refine ⟨⟨k + 1, (cy + x * y + o) / B30, out.set (i + k) ((cy + x * y + o) % B30), by omega, by go_num, congrArg (Value.int _) (by rw [aL]; omega), by rw [aL]; omega,
      by rw [List.length_set, HL.out], bY ho (Nat.mod_lt _ (by decide)), ?_, ?_, hb.put (i + k) _ (by rw [aL]; omega), (hq.drewN _).setCell (Nat.le_refl _) _⟩, by simp [intOf]; omega⟩
     ·have ho0 : out0[i + k]? = some o := (by rw [← aAb HD2.out]; exact HO.out);rw [← Nat.add_assoc, bK _ (by rw [HL.out]; omega), aX _ HY.out, aX _ ho0, Nat.add_assoc i k 1];exact aCQ HV2.out rfl (Nat.mod_add_div _ _).symm
     ·rw [← Nat.add_assoc, drop_set (by omega)];exact xL HD2.out
    ·obtain rfl : k = ys.length := (by omega);have hik : i + ys.length < out.length := (by rw [HL.out]; omega);have hcell := hb.cell hik;have hfz := hb.frozen (i + ys.length);generalize out[i + ys.length] = o at *
     clear hik hcx0;go_wp2
     refine ⟨⟨i + 1, out.set (i + ys.length) cy, by omega, by go_num, by rw [List.length_set, HL.out], bY ho (by rw [aL]; omega), ?_, ?_, hb.put _ _ rfl, hq.setCell (Nat.le_refl _) _⟩, by simp [intOf]; omega⟩
     ·rw [show i + 1 + ys.length = i + ys.length + 1 from by omega, bK _ (by rw [HL.out]; omega), HV2.out, HV.out, aX _ HX.out, List.take_length, Nat.add_mul, Nat.mul_assoc]
     ·rw [show i + 1 + ys.length = i + ys.length + 1 from by omega, drop_set (by omega), ← List.drop_drop, HD2.out, HD.out, List.drop_replicate];rfl
  ·obtain rfl : i = xs.length := (by omega);go_wp2_with fail
   refine (kX _ _ (w.heap.size + 1) _ _ _ HL0.out (Nat.le_refl _) (by omega) (hb.rd (Nat.lt_succ_self _))).mono ?_;rintro e w2 ⟨k, hk2, rfl, hnz, hv, rfl⟩;go_wp2
   go_ret
   refine ⟨_, rfl, Nn.of_blk hb hk2 (by rw [HL0.out] at hk2; exact hk2) hnz ho ?_, hq, Nw.at_ (Nat.le_refl _)⟩;rw [hv];have h := HV.out;rw [List.take_length, List.take_of_length_le (by rw [HL0.out]; omega)] at h;exact h
theorem xJ (w : World) : Calls Tryz.prog 82 #[] w (mQ 1 w) := by
 go_enter Tryz.func82, Tryz.ntmps82
 go_wp2
 go_ret
 exact ⟨_, rfl, Nn.of_blk (ds := [1]) (k := 1) (heap_alloc_new w _) (by simp) (by omega) (by simp [Nz]) (by simp [B30]) (by simp [vl]), (Q.refl _).alloc _, Nw.at_ (Nat.le_refl _)⟩
theorem rT (x : Int) (N : Nat) (w : World) (hx : x = (N : Int)) (h : N < 1152921504606846976) : Calls Tryz.prog 150 #[.int .i64 x] w (mQ N w) := by
 subst hx;go_enter Tryz.func150, Tryz.ntmps150
 go_wp2_with fail
 have hb : Blk .i64 (w.alloc (Obj.cells #[Value.int IntKind.i64 ((N : Int) % 1073741824), Value.int IntKind.i64 ((N : Int) / 1073741824)] 2)) w.heap.size 2 [N % B30, N / B30] :=
  (heap_alloc_new w _).trans (by rw [aL]; simp [nums])
 refine (kX _ _ (w.heap.size + 1) _ _ _ (by rfl) (Nat.le_refl _) (by omega) (hb.rd (Nat.lt_succ_self _))).mono ?_;rintro e w2 ⟨k, hk2, rfl, hnz, hv, rfl⟩;go_wp2
 go_ret
 refine ⟨_, rfl, Nn.of_blk hb hk2 hk2 hnz ?_ ?_, (Q.refl _).alloc _, Nw.at_ (Nat.le_refl _)⟩
 ·intro d hd; rw [aL] at *; simp at hd; omega
 ·rw [hv]; simp only [bX, aEH]; rw [aL]; omega
theorem uW (x : Value) (N k : Nat) (z : Int) (w : World) (hx : Nr w x N) (hz : z = (k : Int)) (hN : dg B30 N + k + 2 ≤ LIM) : Calls Tryz.prog 154 #[x, .int .i64 z] w (mQ (N * 2 ^ k) w) := by
 subst hz;obtain ⟨A, c, xs, rfl, hc, rx, wx, rfl⟩ := hx;rw [← wx.len aF] at hN;have hmk := aEz (k / 30) (xs.length + k / 30 + 1) ((k : Int) / 30) ((xs.length : Int) + (k : Int) / 30 + 1) (by omega) (by omega) (by omega) (by omega);rw [aA] at hN;obtain ⟨i0, hi, hz0, hz1, hz2⟩ := info_parts oZ;have hf := yD (k % 30) (by omega);have hf1 : 2 ^ (k % 30) ≤ 536870912 := by
  have h1 : 2 ^ (k % 30) ≤ 2 ^ 29 := Nat.pow_le_pow_right (by decide) (by omega);exact h1
 have hf0 : 0 < 2 ^ (k % 30) := Nat.pow_pos (by decide);have HF := Lib.hid (rfl : 2 ^ (k % 30) = 2 ^ (k % 30));have HE := Lib.hid hf; clear hf;go_enter Tryz.func154, Tryz.ntmps154
 go_wp2_with fail
 rw [HE.out];clear HE;have hq30 : 2 ^ k = B30 ^ (k / 30) * 2 ^ (k % 30) := by
  rw [show B30 = 2 ^ 30 from rfl, ← Nat.pow_mul, ← Nat.pow_add, Nat.div_add_mod]
 have HQ := Lib.hid hq30; clear hq30;generalize 2 ^ (k % 30) = f at *
 clear HF;obtain ⟨q, hq⟩ : ∃ q, q = k / 30 := ⟨_, rfl⟩
 rw [← hq] at HQ ⊢;have HK := Lib.hid hq;have hqk : q ≤ k := by omega
 clear hmk hq
 go_loopw [5, 7, 8] (fun ov cv iv w1 => ∃ (i cy : Nat) (out : List Nat), i ≤ xs.length ∧ iv = .int .i64 (i : Int) ∧ cv = .int .i64 (cy : Int) ∧ cy < f ∧
     ov = .slice (some ⟨w.heap.size, 0, none⟩) (q + i) (xs.length + q + 1) ∧
     out.length = xs.length + q + 1 ∧ (∀ d ∈ out, d < B30) ∧ vl B30 (out.take (q + i)) + B30 ^ (q + i) * cy = B30 ^ q * (vl B30 (xs.take i) * f) ∧
     Blk .i64 w1 w.heap.size 2 out ∧ Q w w1) (fun _ _ iv _ => xs.length - (intOf iv).toNat)
 case atStart => exact ⟨0, 0, List.replicate (xs.length + q + 1) 0, by omega, rfl, rfl, hf0, rfl, by simp, cZ (by decide), by rw [List.take_replicate, iD]; simp [vl], Blk.made _ _ _, (Q.refl _).alloc _⟩
 case round =>
  obtain ⟨i, cy, out, hi1, rfl, rfl, hcy, rfl, hl, ho, hv, hb, hq⟩ := hrel;have HV := Lib.hid hv; clear hv;have HL := Lib.hid hl; clear hl;by_cases hlt : i < xs.length
  ·obtain ⟨ad, rfl, hbk, hcx⟩ := (rx.below hq).at_ hlt;have bx : xs[i] < 1073741824 := wx.1 _ (List.getElem_mem _);have HX := Lib.hid (List.getElem?_eq_getElem hlt);generalize xs[i] = x at *
   have hp : (x : Int) * f ≤ 1073741823 * f := by
    have := Nat.mul_le_mul_right f (show x ≤ 1073741823 by omega);have e : ((x * f : Nat) : Int) = (x : Int) * f := Int.natCast_mul _ _;omega
   have hp0 : 0 ≤ (x : Int) * f := Int.mul_nonneg (by omega) (by omega);have HP := Lib.hid (show ((x * f : Nat) : Int) = (x : Int) * f from Int.natCast_mul _ _);go_wp2_with (at_builtin; go_must (refine sG rfl _ _ _ rfl 2 i0 Tryz.underlying30 hi hz1 w.heap.size (q + i) (xs.length + q + 1) out rfl _ _ rfl (hb.alloc _) HL.out (by omega) _ ((cy + x * f) % B30) (by have := HP.out; rw [aL]; omega) (cO _ _ _) ?_); intro w2 hb2 hg2)
   have hP := HP.out;have hd : (cy + x * f) / B30 < f := by
    rw [Nat.div_lt_iff_lt_mul (by decide), aL]; omega
   refine ⟨⟨i + 1, (cy + x * f) / B30, out.set (q + i) ((cy + x * f) % B30), by omega, by go_num, congrArg (Value.int _) (by rw [aL]; omega), hd, rfl,
    by rw [List.length_set, HL.out], bY ho (Nat.mod_lt _ (by decide)), ?_, hb2, Q.grown (hq.alloc _) hg2 (by intro k e; injection e with e; omega)⟩, by simp [intOf]; omega⟩
   rw [← Nat.add_assoc, bK _ (by rw [HL.out]; omega), aX _ HX.out, Nat.add_assoc q i 1];exact aA5 HV.out rfl (Nat.mod_add_div _ _).symm
  ·obtain rfl : i = xs.length := (by omega);go_wp2_with (at_builtin; go_must (refine sG rfl _ _ _ rfl 2 i0 Tryz.underlying30 hi hz1 w.heap.size (q + xs.length) (xs.length + q + 1) out rfl _ _ rfl (hb.alloc _) HL.out (by omega) _ cy rfl (cO _ _ _) ?_); intro w2 hb2 hg2)
   have ho2 := bY (k := q + xs.length) ho (show cy < B30 by rw [aL]; omega);refine (kX _ _ (w.heap.size + 1) _ (out.set (q + xs.length) cy) _ (by rw [List.length_set, HL.out]; omega) (by omega) (by omega) (hb2.rd (Nat.lt_succ_self _))).mono ?_;rintro e w3 ⟨k2, hk2, rfl, hnz, hv, rfl⟩;go_wp2
   go_ret
   refine ⟨_, rfl, Nn.of_blk hb2 hk2 (by rw [List.length_set, HL.out] at hk2; exact hk2) hnz ho2 ?_, Q.grown (hq.alloc _) hg2 (by intro k e; injection e with e; omega), Nw.at_ (Nat.le_refl _)⟩
   rw [hv, ← List.take_of_length_le (l := out.set (q + xs.length) cy) (i := q + xs.length + 1) (by rw [List.length_set, HL.out]; omega), bK _ (by rw [HL.out]; omega), HV.out,
       List.take_length, HQ.out]
   grind
theorem aFI (x : Value) (N : Nat) (w : World) (hx : Nr w x N) : Calls Tryz.prog 83 #[x] w fun e w' => e = .returned (.bool (decide (N = 1))) ∧ w = w' := by
 obtain ⟨A, c, xs, rfl, hc, rx, wx, rfl⟩ := hx;by_cases h1 : xs.length = 1
 ·obtain ⟨d, rfl⟩ : ∃ d, xs = [d] := List.length_eq_one_iff.1 h1;obtain ⟨ad, rfl, hb, hcell⟩ := rx.head (by simp);simp only [List.getElem_cons_zero] at hcell;have e : decide (vl B30 [d] = 1) = ((d : Int) == 1) := by
   have e0 : vl B30 [d] = d := (by simp [vl]);rw [e0, Bool.eq_iff_iff, decide_eq_true_iff, beq_iff_eq]; omega
  rw [e];have HE := Lib.hid e; clear e h1;go_enter Tryz.func83, Tryz.ntmps83
  go_wp2
  go_ret
  exact ⟨rfl, rfl⟩
 ·have e : decide (vl B30 xs = 1) = false := by
   simp only [decide_eq_false_iff_not];intro e;apply h1;rw [wx.len aF, e, bZ aF]
  rw [e];have h2 : ((xs.length : Int) == 1) = false := (by simp; omega);go_enter Tryz.func83, Tryz.ntmps83
  go_wp2
  go_ret
  exact ⟨rfl, rfl⟩
theorem aAW (x : Value) (N : Nat) (w : World) (hx : Nr w x N) (h : dg B30 N ≤ 2) : Calls Tryz.prog 156 #[x] w fun e w' => e = .returned (.int .i64 (N : Int)) ∧ w = w' := by
 obtain ⟨A, c, xs, rfl, hc, rx, wx, rfl⟩ := hx;rw [← wx.len aF] at h;go_enter Tryz.func156, Tryz.ntmps156
 go_wp2
 go_loop [3, 4] (fun nv iv => ∃ (k : Nat) (V : Nat), k ≤ xs.length ∧ iv = .int .i64 ((k : Int) - 1) ∧ nv = .int .i64 (V : Int) ∧ V = vl B30 (xs.drop k)) (fun _ iv => (intOf iv + 1).toNat)
 case atStart => exact ⟨xs.length, 0, by omega, rfl, rfl, by simp [vl]⟩
 case round =>
  obtain ⟨k, V, hk, rfl, rfl, hV⟩ := hrel;have HV := Lib.hid hV; clear hV;by_cases hlt : 0 < k
  ·obtain ⟨j, rfl⟩ : ∃ j, k = j + 1 := ⟨k - 1, by omega⟩
   have jx : j < xs.length := (by omega);obtain ⟨ad, rfl, hb, hcx⟩ := rx.at_ jx;have ba : xs[j] < 1073741824 := wx.1 _ (List.getElem_mem _);have HX := Lib.hid (bS B30 jx);rw [show ((j + 1 : Nat) : Int) - 1 = (j : Int) from by omega];have hV2 : V < 1073741824 := by
    rw [HV.out];refine Nat.lt_of_lt_of_le (aA6 (b := B30) (j + 1) wx.1) ?_;have := Nat.pow_le_pow_right (n := B30) (by decide) (show xs.length - (j + 1) ≤ 1 by omega);rw [Nat.pow_one] at this; exact this
   generalize xs[j] = x at *
   clear jx;go_wp2
   exact ⟨⟨j, V * B30 + x, by omega, rfl, congrArg (Value.int _) (by rw [aL]; omega), by rw [HX.out, ← HV.out]; grind⟩, by simp [intOf]⟩
  ·obtain rfl : k = 0 := (by omega);rw [show ((0 : Nat) : Int) - 1 = -1 from by omega];go_wp2
   go_ret
   exact ⟨by rw [HV.out]; rfl, rfl⟩
theorem aDK (x : Value) (N : Nat) (w : World) (hx : Nr w x N) (h : dg B30 N ≤ LIM) : Calls Tryz.prog 175 #[x] w fun e w' => e = .returned (.int .i64 (bl N : Int)) ∧ w = w' := by
 obtain ⟨A, c, xs, rfl, hc, rx, wx, rfl⟩ := hx;rw [← wx.len aF, aA] at h;by_cases h0 : xs.length = 0
 ·obtain rfl : xs = [] := List.eq_nil_of_length_eq_zero h0;have h2 : ((0 : Int) == 0) = true := rfl;rw [show bl (vl B30 []) = 0 from lC];simp only [List.length_nil];clear h0;go_enter Tryz.func175, Tryz.ntmps175
  go_wp2
  go_ret
  exact ⟨rfl, rfl⟩
 ·obtain ⟨n, hn⟩ : ∃ n, xs.length = n + 1 := ⟨xs.length - 1, by omega⟩
  obtain ⟨ad, rfl, hb, hcx⟩ := rx.at_ (k := n) (by omega);have ba : xs[n] < 1073741824 := wx.1 _ (List.getElem_mem _);have bz : 0 < xs[n] := by
   have h1 := wx.2;rw [Nz, List.getLast?_eq_getElem?, hn, Nat.add_sub_cancel, List.getElem?_eq_getElem (by omega)] at h1;simp at h1; omega
  have hB := vY (p := 30) (n := n) wx.1 hn (List.getElem?_eq_getElem (by omega)) bz;change bl (vl B30 xs) = _ at hB;rw [hn, hB];clear hB hc wx;generalize xs[n] = t0 at *
  have h2 : ((n : Int) + 1 == 0) = false := (by simp; omega);have hbl : bl t0 ≤ 30 := (aT _ _).2 ba;go_enter Tryz.func175, Tryz.ntmps175
  go_wp2
  go_loop [3, 4] (fun nv tv => ∃ (m t : Nat), nv = .int .i64 (m : Int) ∧ tv = .int .i64 (t : Int) ∧ m + bl t = 30 * n + bl t0 ∧ t < 1073741824) (fun _ tv => (intOf tv).toNat)
  case atStart => exact ⟨30 * n, t0, congrArg (Value.int _) (by omega), rfl, rfl, ba⟩
  case round =>
   obtain ⟨m, t, rfl, rfl, hm, ht⟩ := hrel;by_cases hp : 0 < t
   ·have hm2 : m + 1 + bl (t / 2) = 30 * n + bl t0 := (by rw [iE hp] at hm; omega);have hm1 : m ≤ 30 * n + 30 := (by omega);have HM := Lib.hid hm2; clear hm hm2;go_wp2
    exact ⟨⟨m + 1, t / 2, by go_num, congrArg (Value.int _) (by omega), HM.out, by omega⟩, by simp [intOf]; omega⟩
   ·obtain rfl : t = 0 := (by omega);rw [lC] at hm;have HM := Lib.hid hm; clear hm;go_wp2
    go_ret
    exact ⟨fP (by have := HM.out; omega), rfl⟩
theorem rU (x : Value) (N : Nat) (w : World) (hx : Nr w x N) (h : dg B30 N ≤ LIM) (h0 : 0 < N) : Calls Tryz.prog 151 #[x] w fun e w' => e = .returned (.int .i64 (tz N : Int)) ∧ w = w' := by
 obtain ⟨A, c, xs, rfl, hc, rx, wx, rfl⟩ := hx;rw [← wx.len aF, aA] at h;go_enter Tryz.func151, Tryz.ntmps151
 go_wp2
 go_loop [3] (fun nv => ∃ (q : Nat), nv = .int .i64 (30 * (q : Int)) ∧ q < xs.length ∧ ∀ j, j < q → xs[j]? = some 0) (fun nv => xs.length * 30 - (intOf nv).toNat)
 case atStart =>
  refine ⟨0, rfl, ?_, by omega⟩;rcases xs with _ | _
  ·simp [vl] at h0
  ·simp
 case round =>
  obtain ⟨q, rfl, hq, hz⟩ := hrel;obtain ⟨ad, rfl, hb, hcx⟩ := rx.at_ hq;have ba : xs[q] < 1073741824 := wx.1 _ (List.getElem_mem _);by_cases hx0 : xs[q] = 0
  ·have hnext : q + 1 < xs.length := by
    rcases Nat.lt_or_ge (q + 1) xs.length with h1 | h1
    ·exact h1
    ·exfalso;have h2 := wx.2;rw [Nz, List.getLast?_eq_getElem?, show xs.length - 1 = q by omega, List.getElem?_eq_getElem hq, hx0] at h2;exact h2 rfl
   have hz2 : ∀ j, j < q + 1 → xs[j]? = some 0 := by
    intro j hj;rcases Nat.lt_or_ge j q with h1 | h1
    ·exact hz j h1
    ·obtain rfl : j = q := (by omega);rw [List.getElem?_eq_getElem hq, hx0]
   have HZ2 := Lib.hid hz2; clear hz2 hz;have h3 : ((xs[q] : Int) == 0) = true := (by simp [hx0]);clear hx0;generalize xs[q] = t at *
   go_wp2
   exact ⟨⟨q + 1, congrArg (Value.int _) (by omega), hnext, HZ2.out⟩, by simp [intOf]; omega⟩
  ·have hB := vZ (p := 30) (q := q) hz (List.getElem?_eq_getElem hq) (by omega) ba;change tz (vl B30 xs) = _ at hB;have HB := Lib.hid hB;have h3 : ((xs[q] : Int) == 0) = false := (by simp; omega);clear hB hz wx h0 hc;have hpos : 0 < xs[q] := (by omega);clear hx0;have htz : tz xs[q] ≤ 30 := by
    rcases Nat.lt_or_ge 30 (tz xs[q]) with h1 | h1
    ·exfalso;have h2 := (eQ hpos).1;have h4 : 0 < xs[q] / 2 ^ tz xs[q] := by
      rcases Nat.eq_zero_or_pos (xs[q] / 2 ^ tz xs[q]) with h5 | h5
      ·rw [h5] at h2; omega
      ·exact h5
     have h5 := Nat.mul_le_mul_left (2 ^ tz xs[q]) h4;have h6 : 2 ^ 30 ≤ 2 ^ tz xs[q] := Nat.pow_le_pow_right (by decide) (by omega);have h7 : (2 : Nat) ^ 30 = 1073741824 := rfl;omega
    ·exact h1
   generalize xs[q] = t0 at *
   go_wp2
   go_loop [3, 4] (fun nv tv => ∃ (m t : Nat), nv = .int .i64 (m : Int) ∧ tv = .int .i64 (t : Int) ∧ m + tz t = 30 * q + tz t0 ∧ t < 1073741824 ∧ 0 < t) (fun _ tv => (intOf tv).toNat)
   case atStart => exact ⟨30 * q, t0, congrArg (Value.int _) (by omega), rfl, rfl, ba, hpos⟩
   case round =>
    obtain ⟨m, t, rfl, rfl, hm, ht, ht0⟩ := hrel;by_cases hp : t % 2 = 0
    ·have hm2 : m + 1 + tz (t / 2) = 30 * q + tz t0 := (by rw [jJ ht0 hp] at hm; omega);have hm1 : m ≤ 30 * q + 30 := (by omega);have HM := Lib.hid hm2; clear hm hm2;have h4 : ((t : Int) % 2 == 0) = true := (by simp; omega);have ht2 : 2 ≤ t := (by omega);clear hp;go_wp2
     exact ⟨⟨m + 1, t / 2, by go_num, congrArg (Value.int _) (by omega), HM.out, by omega, by omega⟩, by simp [intOf]; omega⟩
    ·rw [nI (by omega)] at hm;have HM := Lib.hid hm; clear hm;have h4 : ((t : Int) % 2 == 0) = false := (by simp; omega);clear hp;go_wp2
     go_ret
     exact ⟨fP (by have := HM.out; have := HB.out; omega), rfl⟩
end Go.Proofs.YtgpacgadpnpjjaaGreatDoor
