/- ValueNear (P1.10) for every string and every uint16; no condition. Part of the proof: texts Ve7 Vg2 Vg4 Vg5. -/
import Derived.Below
import Derived.BigQuiet
import Derived.Deep.Cut
import Derived.Deep.CutBlock
import Derived.Deep.DeepMust
import Derived.Deep.Draws
import Derived.Deep.OwnRows
import Derived.Deep.QuietTactic
import Derived.Deep.RegionHeld3
import Derived.Deep.RegionWith
import Derived.IntWalk
import Derived.Laws.AppendOwn
import Derived.Laws.BitsAllLaws
import Derived.Laws.CopyOwn
import Derived.Laws.IdiomStrings
import Derived.Laws.OwnMore
import Derived.Laws.RangeAny
import Derived.Laws.RangeString
import Derived.Laws.Rows
import Derived.Lib.Hide
import Derived.Lib.IndexBytes
import Derived.Lib.IndexLaws
import Derived.Lib.OthersKept
import Derived.Lib.SliceRun
import Derived.Maps.AppendAt
import Derived.OwnWalk
import Derived.Shelf.Bits.Mul64
import Derived.Shelf.Lays7
import Derived.Shelf.LaysM
import Derived.Shelf.Small.Bits
import Derived.Shelf.Small.Strs
import Derived.Shelf.Small.Utf8
import Derived.Shelf.Small.Wraps
import Derived.Shelf.Spec.BitsCarry
import Derived.Shelf.Spec.TrailingZeros
import Derived.Shelf.Strconv.Itoa0
import Derived.Shelf.Strings.AsciiSet
import Derived.Shelf.Strings.Builder1
import Derived.Shelf.Strings.Builder2
import Derived.Shelf.Strings.Builder2Cap
import Derived.Shelf.Strings.BuilderF
import Derived.Shelf.Strings.BuilderK
import Derived.Shelf.Strings.Cut
import Derived.Shelf.Strings.Prefix
import Derived.Shelf.Strings.Repeat
import Derived.Shelf.Strings.Runes
import Derived.Shelf.Strings.Search1
import Derived.Shelf.Strings.Search2
import Derived.Shelf.Strings.Search3
import Derived.Shelf.Strings.Shaped
import Derived.Shelf.Strings.Trim
import Derived.Shelf.Unicode.DecodeSlow
import Derived.Test.YtimdddpfoagbjaaGreatDoorProg
import Derived.Test.YtimdddpfoagbjaaGreatDoorQa01
import Derived.Test.YtimdddpfoagbjaaGreatDoorQa02
import Derived.Test.YtimdddpfoagbjaaGreatDoorQa03
import Derived.Test.YtimdddpfoagbjaaGreatDoorQa04
import Derived.Test.YtimdddpfoagbjaaGreatDoorQa05
import Derived.Test.YtimdddpfoagbjaaGreatDoorQa06
import Derived.Test.YtimdddpfoagbjaaGreatDoorQa07
import Derived.Test.YtimdddpfoagbjaaGreatDoorQa08
import Derived.Test.YtimdddpfoagbjaaGreatDoorQa09
import Derived.Test.YtimdddpfoagbjaaGreatDoorQa10
import Derived.Test.YtimdddpfoagbjaaGreatDoorQa11
import Derived.Test.YtimdddpfoagbjaaGreatDoorQa12
import Derived.Test.YtimdddpfoagbjaaGreatDoorQa13
import Derived.Test.YtimdddpfoagbjaaGreatDoorQa14
import Derived.Test.YtimdddpfoagbjaaGreatDoorQa15
import Derived.Test.YtimdddpfoagbjaaGreatDoorQa16
import Derived.Test.YtimdddpfoagbjaaGreatDoorQa17
import Derived.Test.YtimdddpfoagbjaaGreatDoorQa18
import Derived.Test.YtimdddpfoagbjaaGreatDoorQa19
import Derived.Test.YtimdddpfoagbjaaGreatDoorQa20
import Derived.Test.YtimdddpfoagbjaaGreatDoorQa21
import Derived.Test.YtimdddpfoagbjaaGreatDoorQa22
import Derived.Test.YtimdddpfoagbjaaGreatDoorQa23
import Derived.Test.YtimdddpfoagbjaaGreatDoorQa24
import Derived.Test.YtimdddpfoagbjaaGreatDoorQa25
import Derived.Test.YtimdddpfoagbjaaGreatDoorQa26
import Derived.Test.YtimdddpfoagbjaaGreatDoorQa27
import Derived.Test.YtimdddpfoagbjaaGreatDoorQa29
import Derived.WalkKit
import Derived.WalkLawsBesides
import Derived.WalkSmall
import Derived.WalkSpells
import Derived.Test.YtimdddpfoagbjaaGreatDoorQb01
namespace Go.Proofs.YtimdddpfoagbjaaGreatDoor
open Go.RowKit
open Ma Me
set_option maxRecDepth 100000 in
set_option maxHeartbeats 1000000 in
theorem q_Up (x : Value) (p : Rat) (z : Int) (w : World) (hT : Tb w) (hx : Nq w x p) (hB : 2000 * sz p + 500000 ≤ LIM) : Calls Tryz.prog 57 #[x, .int .i64 z] w fun e w' => ∃ r, e = .returned r ∧ Nq w' r (up (bitsN z) p) ∧ Q w w' := by
  obtain ⟨s1, A1, n1, c1, A2, n2, c2, rfl, E1, Z1, O1, hxt, hxb⟩ := hx.form
  obtain ⟨w0, hW, hG0, hX0, hR0⟩ := boxes1r w s1 (.slice A1 n1 c1) (.slice A2 n2 c2)
  have he0 : s1 = decide (p < 0) := E1.out.trans (decide_eq_decide.2 (num_lt_iff p))
  have HE := Lib.hid he0; clear he0
  have HB := Lib.hid hB; clear hB
  obtain ⟨x0, x1, x2⟩ := hX0.cells
  go_enter Tryz.func57, Tryz.ntmps57
  go_wp2_with fail
  clear hW
  refine (q_rounded _ p z (!s1) _ (hT.q hG0) (hx.q hG0) HB.out).mono ?_
  rintro e w1 ⟨r, rfl, hv, hq1⟩
  have hG1 := hG0.trans hq1
  have hX1 := hX0.q hq1
  have hR1 := hR0.q hq1
  clear x0 x1 x2
  have fz := hR1.frozen
  obtain ⟨r0, r1, r2⟩ := hR1.cells
  rw [HE.out, rnd_up] at hv
  obtain ⟨s6, B1, m1, d1, B2, m2, d2, rfl, -⟩ := hv.form
  go_wp2_with fail
  obtain ⟨z0, z1, z2, hvF, hqF⟩ := Nq.store hR1 hv hG1 (Nat.le_add_right _ _)
  unfold put3 at z0 z1 z2 hvF hqF
  refine bodyPost_ret (v := .agg #[.bool s6, .slice B1 m1 d1, .slice B2 m2 d2]) (by simp [results, Tryz.results57, go_sem, z0, z1, z2]) rfl ?_
  exact ⟨_, rfl, hvF, hqF⟩
end Go.Proofs.YtimdddpfoagbjaaGreatDoor
namespace Go.Proofs.YtimdddpfoagbjaaGreatDoor
open Go.RowKit
open Ma Me
theorem boxSN (w : World) (s1 : Bool) (t1 b1 : Value) (s2 : Bool) (t2 b2 : Value) (s3 : Bool) (t3 b3 : Value) : ∃ W, (w.alloc (.cells #[.bool s1, t1, b1, .bool s2, t2, b2] 70)).alloc (.cells #[.bool s3, t3, b3] 25) = W ∧
    Q w W ∧ Sp W w.heap.size s1 t1 b1 s2 t2 b2 ∧ Nb W (w.heap.size + 1) s3 t3 b3 := by
  have h1 := Sp.new w s1 t1 b1 s2 t2 b2
  have h2 := Nb.new (w.alloc (.cells #[.bool s1, t1, b1, .bool s2, t2, b2] 70)) s3 t3 b3
  rw [World.size_alloc] at h2
  exact ⟨_, rfl, ((Q.refl _).alloc _).alloc _, h1.q ((Q.refl _).alloc _), h2⟩
end Go.Proofs.YtimdddpfoagbjaaGreatDoor
namespace Go.Proofs.YtimdddpfoagbjaaGreatDoor
open Go.RowKit
open Ma Me
theorem boxSNr (w : World) (s1 : Bool) (t1 b1 : Value) (s2 : Bool) (t2 b2 : Value) : ∃ W, (w.alloc (.cells #[.bool s1, t1, b1, .bool s2, t2, b2] 70)).alloc (.cells #[.bool false, .slice none 0 0, .slice none 0 0] 25) = W ∧
    Q w W ∧ Sp W w.heap.size s1 t1 b1 s2 t2 b2 ∧ Nb W (w.heap.size + 1) false (.slice none 0 0) (.slice none 0 0) := boxSN w s1 t1 b1 s2 t2 b2 false (.slice none 0 0) (.slice none 0 0)
end Go.Proofs.YtimdddpfoagbjaaGreatDoor
namespace Go.Proofs.YtimdddpfoagbjaaGreatDoor
open Go.RowKit
open Ma Me
theorem sz_half : sz (1 / 2 : Rat) ≤ 4 := by
  have h1 : (1 / 2 : Rat).num.natAbs = 1 := by decide +kernel
  have h2 : (1 / 2 : Rat).den = 2 := by decide +kernel
  rw [← sz_eq, h1, h2, dg_one W64_gt]
  have := (dg_le_iff W64_gt 2 1).2 (by decide)
  omega
set_option maxRecDepth 100000 in
set_option maxHeartbeats 1000000 in
theorem q_SpanMid (a : Value) (p q : Rat) (w : World) (hT : Tb w) (ha : Ns w a p q) (hB : 64 * (sz p + sz q) + 400 ≤ LIM) : Calls Tryz.prog 89 #[a] w fun e w' => ∃ r, e = .returned r ∧ Nq w' r ((p + q) * (1 / 2)) ∧ Q w w' := by
  obtain ⟨s11, A11, n11, c11, A12, n12, c12, s12, A13, n13, c13, A14, n14, c14, rfl, lo1, hi1⟩ := ha
  obtain ⟨w0, hW, hG0, hA0, hR0⟩ := boxSNr w s11 (.slice A11 n11 c11) (.slice A12 n12 c12) s12 (.slice A13 n13 c13) (.slice A14 n14 c14)
  have hz1 := sz_add p q; have hz2 := sz_half
  have b1 : 16 * (sz (p + q) + sz (1 / 2 : Rat)) + 100 ≤ LIM := by omega
  have hh1 : (1 / 2 : Rat).num = sg false 1 := by decide +kernel
  have hh2 : (1 / 2 : Rat).den = 2 := by decide +kernel
  obtain ⟨hf, hhf⟩ : ∃ hf : Rat, (1 / 2 : Rat) = hf := ⟨_, rfl⟩
  rw [hhf] at b1 hh1 hh2 ⊢
  have H1 := Lib.hid hh1; have H2 := Lib.hid hh2; clear hh1 hh2 hhf hz1 hz2
  obtain ⟨a0, a1, a2, a3, a4, a5⟩ := hA0.cells
  go_enter Tryz.func89, Tryz.ntmps89
  go_wp2_with fail
  clear hW
  refine (q_Add _ _ p q _ (hT.q hG0) (lo1.q hG0) (hi1.q hG0) hB).mono ?_
  rintro e w1 ⟨v1, rfl, hv1, hq1⟩
  have hG1 := hG0.trans hq1
  have hA1 := hA0.q hq1
  have hR1 := hR0.q hq1
  clear a0 a1 a2 a3 a4 a5
  have hv1c := hv1
  obtain ⟨t1, B1, m1, d1, C1, l1, g1, rfl, -⟩ := hv1.form
  go_wp2_with fail
  refine (v_word 1 1 _ rfl (by decide)).mono ?_
  rintro e w2 ⟨x1, rfl, hx1, hq2, -⟩
  have hG2 := hG1.trans hq2
  have hA2 := hA1.q hq2
  have hR2 := hR1.q hq2
  obtain ⟨D1, e1, f1, rfl⟩ := hx1.form
  go_wp2_with fail
  refine (v_word 2 2 _ rfl (by decide)).mono ?_
  rintro e w3 ⟨x2, rfl, hx2, hq3, -⟩
  have hG3 := hG2.trans hq3
  have hA3 := hA2.q hq3
  have hR3 := hR2.q hq3
  obtain ⟨D2, e2, f2, rfl⟩ := hx2.form
  go_wp2_with fail
  refine (v_fraction false _ _ 1 2 _ (hx1.q hq3) hx2).mono ?_
  rintro e w4 ⟨v5, rfl, hv5, hq4⟩
  have hG4 := hG3.trans hq4
  have hA4 := hA3.q hq4
  have hR4 := hR3.q hq4
  have hv5c := Nq.made (q := hf) hv5 H1.out (fun _ => H2.out)
  obtain ⟨t2, B2, m2, d2, C2, l2, g2, rfl, -⟩ := hv5c.form
  go_wp2_with fail
  refine (q_Mul _ _ (p + q) hf _ (hT.q hG4) (((hv1c.q hq2).q hq3).q hq4) hv5c b1).mono ?_
  rintro e w5 ⟨v6, rfl, hv, hq5⟩
  have hG5 := hG4.trans hq5
  have hA5 := hA4.q hq5
  have hR5 := hR4.q hq5
  have fz := hR5.frozen
  obtain ⟨r0, r1, r2⟩ := hR5.cells
  obtain ⟨t3, B3, m3, d3, C3, l3, g3, rfl, -⟩ := hv.form
  go_wp2_with fail
  obtain ⟨z0, z1, z2, hvF, hqF⟩ := Nq.store hR5 hv hG5 (Nat.le_add_right _ _)
  unfold put3 at z0 z1 z2 hvF hqF
  refine bodyPost_ret (v := .agg #[.bool t3, .slice B3 m3 d3, .slice C3 l3 g3]) (by simp [results, Tryz.results89, go_sem, z0, z1, z2]) rfl ?_
  exact ⟨_, rfl, hvF, hqF⟩
end Go.Proofs.YtimdddpfoagbjaaGreatDoor
