/- ValueInts: for every two int64 and every int the law holds. Part of the proof: texts Ve4 Ra5 Kb2 Ke1 Ke2 Ke3 Ke4. -/
import Derived.Below
import Derived.BigQuiet
import Derived.Deep.Cut
import Derived.Deep.CutBlock
import Derived.Deep.DeepFit
import Derived.Deep.DeepMust
import Derived.Deep.Draws
import Derived.Deep.LoopGhost
import Derived.Deep.OwnRows
import Derived.Deep.QuietTactic
import Derived.Deep.RegionHeld
import Derived.Deep.RegionHeld3
import Derived.Deep.RegionWith
import Derived.IntWalk
import Derived.Laws.AppendOwn
import Derived.Laws.BitsAllLaws
import Derived.Laws.CopyOwn
import Derived.Laws.IdiomStrings
import Derived.Laws.OwnMore
import Derived.Laws.RangeAny
import Derived.Laws.RangeString
import Derived.Laws.Rows
import Derived.Lib.Hide
import Derived.Lib.IndexBytes
import Derived.Lib.IndexLaws
import Derived.Lib.OthersKept
import Derived.Lib.SliceRun
import Derived.Maps.AppendAt
import Derived.OwnWalk
import Derived.Shelf.Bits.Mul64
import Derived.Shelf.Lays7
import Derived.Shelf.LaysM
import Derived.Shelf.Small.Bits
import Derived.Shelf.Small.Strs
import Derived.Shelf.Small.Utf8
import Derived.Shelf.Small.Wraps
import Derived.Shelf.Spec.BitsCarry
import Derived.Shelf.Spec.TrailingZeros
import Derived.Shelf.Strconv.Itoa0
import Derived.Shelf.Strings.AsciiSet
import Derived.Shelf.Strings.Builder1
import Derived.Shelf.Strings.Builder2
import Derived.Shelf.Strings.Builder2Cap
import Derived.Shelf.Strings.BuilderCap
import Derived.Shelf.Strings.BuilderF
import Derived.Shelf.Strings.BuilderK
import Derived.Shelf.Strings.Cut
import Derived.Shelf.Strings.Prefix
import Derived.Shelf.Strings.Repeat
import Derived.Shelf.Strings.Runes
import Derived.Shelf.Strings.Search1
import Derived.Shelf.Strings.Search2
import Derived.Shelf.Strings.Search3
import Derived.Shelf.Strings.Shaped
import Derived.Shelf.Strings.Trim
import Derived.Shelf.Unicode.Decode
import Derived.Shelf.Unicode.DecodeAny
import Derived.Shelf.Unicode.DecodeLast
import Derived.Shelf.Unicode.DecodeSlow
import Derived.StillTailTactics
import Derived.Test.YtgokbhikgdhmpaaGreatDoorProg
import Derived.Test.YtgokbhikgdhmpaaGreatDoorQy01
import Derived.Test.YtgokbhikgdhmpaaGreatDoorQy02
import Derived.Test.YtgokbhikgdhmpaaGreatDoorQy03
import Derived.Test.YtgokbhikgdhmpaaGreatDoorQy04
import Derived.Test.YtgokbhikgdhmpaaGreatDoorQy05
import Derived.Test.YtgokbhikgdhmpaaGreatDoorQy06
import Derived.Test.YtgokbhikgdhmpaaGreatDoorQy07
import Derived.Test.YtgokbhikgdhmpaaGreatDoorQy08
import Derived.Test.YtgokbhikgdhmpaaGreatDoorQy09
import Derived.Test.YtgokbhikgdhmpaaGreatDoorQy10
import Derived.Test.YtgokbhikgdhmpaaGreatDoorQy11
import Derived.Test.YtgokbhikgdhmpaaGreatDoorQy12
import Derived.Test.YtgokbhikgdhmpaaGreatDoorQy13
import Derived.Test.YtgokbhikgdhmpaaGreatDoorQy14
import Derived.Test.YtgokbhikgdhmpaaGreatDoorQy15
import Derived.Test.YtgokbhikgdhmpaaGreatDoorQy16
import Derived.Test.YtgokbhikgdhmpaaGreatDoorQy17
import Derived.Test.YtgokbhikgdhmpaaGreatDoorQy18
import Derived.Test.YtgokbhikgdhmpaaGreatDoorQy19
import Derived.Test.YtgokbhikgdhmpaaGreatDoorQy20
import Derived.Test.YtgokbhikgdhmpaaGreatDoorQy21
import Derived.Test.YtgokbhikgdhmpaaGreatDoorQy22
import Derived.Test.YtgokbhikgdhmpaaGreatDoorQy23
import Derived.Test.YtgokbhikgdhmpaaGreatDoorQy24
import Derived.Test.YtgokbhikgdhmpaaGreatDoorQy25
import Derived.Test.YtgokbhikgdhmpaaGreatDoorQy26
import Derived.Test.YtgokbhikgdhmpaaGreatDoorQy27
import Derived.Test.YtgokbhikgdhmpaaGreatDoorQy28
import Derived.Test.YtgokbhikgdhmpaaGreatDoorQy29
import Derived.Test.YtgokbhikgdhmpaaGreatDoorQy32
import Derived.WalkKit
import Derived.WalkLawsBesides
import Derived.WalkSmall
import Derived.WalkSpells

set_option maxHeartbeats 8000000
namespace Go.Proofs.YtgokbhikgdhmpaaGreatDoor
open Go.RowKit
open Ma Me
def bA (p : Rat) (z : Int) : Int × Rat := if z < -64 ∨ 64 < z then (7, 0) else if z < 0 then (if p = 0 then (8, 0) else (0, p⁻¹ ^ (-z).toNat)) else (0, p ^ z.toNat)
set_option maxRecDepth 100000 in
theorem oN (x : Value) (p : Rat) (z : Int) (w : World) (hx : Nq w x p) (hB : 64 * sz p + 600 ≤ LIM) : Calls Tryz.prog 51 #[x, .int .i64 z] w fun e w' => ∃ r, e = .returned (.tuple #[r, .int .i64 (bA p z).1]) ∧ Nq w' r (bA p z).2 ∧ Q w w' := by
 obtain ⟨s1, A1, n1, c1, A2, n2, c2, rfl, E1, Z1, O1, hxt, hxb⟩ := hx.form;obtain ⟨w0, hW, hG0, hX0, hR0⟩ := pU w s1 (.slice A1 n1 c1) (.slice A2 n2 c2);have HB := Lib.hid hB; clear hB;by_cases h1 : z < -64
 ·have hd : bA p z = ((7 : Int), (0 : Rat)) := if_pos (.inl h1);rw [hd];clear hd;have hv := dE w0;obtain ⟨x0, x1, x2⟩ := hX0.cells;have fz := hR0.frozen;obtain ⟨r0, r1, r2⟩ := hR0.cells;go_enter Tryz.func51, Tryz.ntmps51
  go_wp2_with fail
  clear hW;obtain ⟨z0, z1, z2, hvF, hqF⟩ := Nq.store hR0 hv hG0 (Nat.le_add_right _ _);unfold put3 at z0 z1 z2 hvF hqF;refine bodyPost_ret (v := .tuple #[.agg #[.bool false, .slice none 0 0, .slice none 0 0], .int .i64 7]) (by simp [results, Tryz.results51, go_sem, z0, z1, z2]) rfl ?_;exact ⟨_, rfl, hvF, hqF⟩
 ·by_cases h2 : 64 < z
  ·have hd : bA p z = ((7 : Int), (0 : Rat)) := if_pos (.inr h2);rw [hd];clear hd;have hv := dE w0;obtain ⟨x0, x1, x2⟩ := hX0.cells;have fz := hR0.frozen;obtain ⟨r0, r1, r2⟩ := hR0.cells;go_enter Tryz.func51, Tryz.ntmps51
   go_wp2_with fail
   clear hW;obtain ⟨z0, z1, z2, hvF, hqF⟩ := Nq.store hR0 hv hG0 (Nat.le_add_right _ _);unfold put3 at z0 z1 z2 hvF hqF;refine bodyPost_ret (v := .tuple #[.agg #[.bool false, .slice none 0 0, .slice none 0 0], .int .i64 7]) (by simp [results, Tryz.results51, go_sem, z0, z1, z2]) rfl ?_;exact ⟨_, rfl, hvF, hqF⟩
  ·have hnr : ¬ (z < -64 ∨ 64 < z) := (by omega);by_cases h3 : z < 0
   ·by_cases hp0 : p = 0
    ·have k0 : ((n1 : Int) == 0) = true := (by rw [Z1.out.2 hp0]; rfl);have hd : bA p z = ((8 : Int), (0 : Rat)) := (by unfold bA; rw [if_neg hnr, if_pos h3, if_pos hp0]);rw [hd];clear hd hp0 hnr;have hv := dE w0;obtain ⟨x0, x1, x2⟩ := hX0.cells;have fz := hR0.frozen;obtain ⟨r0, r1, r2⟩ := hR0.cells;go_enter Tryz.func51, Tryz.ntmps51
     go_wp2_with fail
     clear hW;obtain ⟨z0, z1, z2, hvF, hqF⟩ := Nq.store hR0 hv hG0 (Nat.le_add_right _ _);unfold put3 at z0 z1 z2 hvF hqF;refine bodyPost_ret (v := .tuple #[.agg #[.bool false, .slice none 0 0, .slice none 0 0], .int .i64 8]) (by simp [results, Tryz.results51, go_sem, z0, z1, z2]) rfl ?_;exact ⟨_, rfl, hvF, hqF⟩
    ·have k0 : ((n1 : Int) == 0) = false := beq_eq_false_iff_ne.2 (fun h => hp0 (Z1.out.1 (by omega)));have hd : bA p z = ((0 : Int), p⁻¹ ^ (-z).toNat) := (by unfold bA; rw [if_neg hnr, if_pos h3, if_neg hp0]);rw [hd];have HQ := Lib.hid (fun h => hp0 (Rat.num_eq_zero.1 h) : p.num ≠ 0);obtain ⟨k, hk⟩ : ∃ k : Nat, (-z).toNat = k := ⟨_, rfl⟩
     rw [hk];have hz : Hid (-z = (k : Int)) := (by exact (by omega : -z = (k : Int)));have hk64 : k ≤ 64 := (by omega);clear hd hp0 hnr hk;obtain ⟨x0, x1, x2⟩ := hX0.cells;go_enter Tryz.func51, Tryz.ntmps51
     go_wp2_with fail
     clear hW;refine (aDm _ p _ (hx.q hG0) HQ.out).mono ?_;rintro e w1 ⟨o1, rfl, ho1, hq1⟩;have hG1 := hG0.trans hq1;have hX1 := hX0.q hq1;have hR1 := hR0.q hq1;clear x0 x1 x2;have fz := hR1.frozen;obtain ⟨r0, r1, r2⟩ := hR1.cells;obtain ⟨s5, A5, n5, c5, A6, n6, c6, rfl, -⟩ := ho1.form;go_wp2_with fail
     refine (aBF _ p⁻¹ _ k _ ho1 hz hk64 (by have := aAs p; have := HB.out; rw [aA] at *; omega)).mono ?_;rintro e w2 ⟨v1, rfl, hv, hq2⟩;have hG2 := hG1.trans hq2;have hX2 := hX1.q hq2;have hR2 := hR1.q hq2;clear fz r0 r1 r2;have fz := hR2.frozen;obtain ⟨r0, r1, r2⟩ := hR2.cells;obtain ⟨s6, B1, m1, d1, B2, m2, d2, rfl, -⟩ := hv.form;go_wp2_with fail
     obtain ⟨z0, z1, z2, hvF, hqF⟩ := Nq.store hR2 hv hG2 (Nat.le_add_right _ _);unfold put3 at z0 z1 z2 hvF hqF;refine bodyPost_ret (v := .tuple #[.agg #[.bool s6, .slice B1 m1 d1, .slice B2 m2 d2], .int .i64 0]) (by simp [results, Tryz.results51, go_sem, z0, z1, z2]) rfl ?_;exact ⟨_, rfl, hvF, hqF⟩
   ·have hd : bA p z = ((0 : Int), p ^ z.toNat) := (by unfold bA; rw [if_neg hnr, if_neg h3]);rw [hd];obtain ⟨k, hk⟩ : ∃ k : Nat, z.toNat = k := ⟨_, rfl⟩
    rw [hk];have hz : Hid (z = (k : Int)) := (by exact (by omega : z = (k : Int)));have hk64 : k ≤ 64 := (by omega);clear hd hnr hk;obtain ⟨x0, x1, x2⟩ := hX0.cells;go_enter Tryz.func51, Tryz.ntmps51
    go_wp2_with fail
    clear hW;refine (aBF _ p _ k _ (hx.q hG0) hz hk64 (by have := HB.out; rw [aA] at *; omega)).mono ?_;rintro e w1 ⟨v1, rfl, hv, hq1⟩;have hG1 := hG0.trans hq1;have hX1 := hX0.q hq1;have hR1 := hR0.q hq1;clear x0 x1 x2;have fz := hR1.frozen;obtain ⟨r0, r1, r2⟩ := hR1.cells;obtain ⟨s6, B1, m1, d1, B2, m2, d2, rfl, -⟩ := hv.form;go_wp2_with fail
    obtain ⟨z0, z1, z2, hvF, hqF⟩ := Nq.store hR1 hv hG1 (Nat.le_add_right _ _);unfold put3 at z0 z1 z2 hvF hqF;refine bodyPost_ret (v := .tuple #[.agg #[.bool s6, .slice B1 m1 d1, .slice B2 m2 d2], .int .i64 0]) (by simp [results, Tryz.results51, go_sem, z0, z1, z2]) rfl ?_;exact ⟨_, rfl, hvF, hqF⟩
theorem bB (x : Int) (N : Nat) (w : World) (hx : x = (N : Int)) (h : N ≤ 9223372036854775807) : Calls Tryz.prog 147 #[.int .i64 x] w (nW N w) := by
 subst hx;go_enter Tryz.func147, Tryz.ntmps147
 go_wp2_with fail
 have hb : Blk .i64 (w.alloc (Obj.cells #[Value.int IntKind.i64 ((N : Int) % 1073741824), Value.int IntKind.i64 ((N : Int) / 1073741824 % 1073741824), Value.int IntKind.i64 ((N : Int) / 1073741824 / 1073741824)] 2)) w.heap.size 2 [N % B30, N / B30 % B30, N / B30 / B30] :=
  (heap_alloc_new w _).trans (by rw [aR]; simp [nums])
 refine (mU _ _ (w.heap.size + 1) _ _ _ (by rfl) (Nat.le_refl _) (by omega) (hb.rd (Nat.lt_succ_self _))).mono ?_;rintro e w2 ⟨k, hk2, rfl, hnz, hv, rfl⟩;go_wp2
 go_ret
 refine ⟨_, rfl, Nn.of_blk hb hk2 hk2 hnz ?_ ?_, (Q.refl _).alloc _, Nw.at_ (Nat.le_refl _)⟩
 ·intro d hd; rw [aR] at *; simp at hd; omega
 ·rw [hv]; simp only [dL, aFJ]; rw [aR]; omega
end Go.Proofs.YtgokbhikgdhmpaaGreatDoor
namespace Go.Proofs.YtgokbhikgdhmpaaGreatDoor.K
open Go.RowKit
open Ma Me
theorem dN : dg B30 1 ≤ 1 := by rw [dP aH]; exact Nat.le_refl _
theorem bB (x : Int) (N : Nat) (w : World) (hx : x = (N : Int)) (h : N < 9223372036854775808) : Calls Tryz.prog 147 #[.int .i64 x] w (nW N w) := by
 subst hx;go_enter Tryz.func147, Tryz.ntmps147
 go_wp2_with fail
 have hb : Blk .i64 (w.alloc (Obj.cells #[Value.int IntKind.i64 ((N : Int) % 1073741824), Value.int IntKind.i64 ((N : Int) / 1073741824 % 1073741824), Value.int IntKind.i64 ((N : Int) / 1073741824 / 1073741824)] 2)) w.heap.size 2 [N % B30, N / B30 % B30, N / B30 / B30] :=
  (heap_alloc_new w _).trans (by rw [aR]; simp [nums])
 refine (mU _ _ (w.heap.size + 1) _ _ _ (by rfl) (Nat.le_refl _) (by omega) (hb.rd (Nat.lt_succ_self _))).mono ?_;rintro e w2 ⟨k, hk2, rfl, hnz, hv, rfl⟩;go_wp2
 go_ret
 refine ⟨_, rfl, Nn.of_blk hb hk2 hk2 hnz ?_ ?_, (Q.refl _).alloc _, Nw.at_ (Nat.le_refl _)⟩
 ·intro d hd; rw [aR] at *; simp at hd; omega
 ·rw [hv]; simp only [dL, aFJ]; rw [aR]; omega
theorem dg3 {N : Nat} (h : N < 9223372036854775808) : dg B30 N ≤ 3 := (aG aH N 3).2 (Nat.lt_of_lt_of_le h (by decide))
theorem dR (N : Nat) : ((N : Int) : Rat) * ((1 : Nat) : Rat) = ((1 : Int) : Rat) * (N : Rat) := by
 rw [show ((1 : Nat) : Rat) = 1 from rfl, show ((1 : Int) : Rat) = 1 from rfl, Rat.mul_one, Rat.one_mul]; rfl
theorem eB (k r : Nat) : ((-(2 * (k : Int) + (r : Int)) : Int) : Rat) * ((1 : Nat) : Rat) = ((-1 : Int) : Rat) * (((k + k + r : Nat)) : Rat) := by
 rw [show ((1 : Nat) : Rat) = 1 from rfl, Rat.mul_one, show (((k + k + r : Nat)) : Rat) = ((((k + k + r : Nat)) : Int) : Rat) from rfl, ← Rat.intCast_mul];congr 1;omega
theorem bD {z : Int} (h1 : -9223372036854775808 ≤ z) (h2 : z < 9223372036854775808) : IntKind.i64.wrap z = z := by
 by_cases h0 : z < 0
 ·have e : z % 2 ^ 64 = z + 18446744073709551616 := (by omega);simp only [IntKind.wrap, IntKind.bits, IntKind.signed, e];rw [if_pos]
  ·omega
  ·simp; omega
 ·have e : z % 2 ^ 64 = z := (by omega);simp only [IntKind.wrap, IntKind.bits, IntKind.signed, e];rw [if_neg];simp; omega
theorem eD {k r : Nat} (hr : r < 2) (hk : k < 4611686018427387905) : IntKind.i64.wrap (-(2 * (k : Int) + (r : Int)).tdiv 2) = -(k : Int) := by
 rw [show (2 * (k : Int) + (r : Int)).tdiv 2 = (k : Int) by rw [Int.tdiv_eq_ediv_of_nonneg (by omega)]; omega];exact bD (by omega) (by omega)
theorem dA {k : Nat} (hk : k < 4611686018427387905) : IntKind.i64.wrap (0 - -(k : Int)) = (k : Int) := by
 rw [Int.zero_sub, Int.neg_neg]; exact bD (by omega) (by omega)
theorem kG {k : Nat} (hk : k < 4611686018427387905) : IntKind.i64.wrap (2 * -(k : Int)) = -(2 * (k : Int)) := by
 rw [Int.mul_neg]; exact bD (by omega) (by omega)
theorem lL {k r : Nat} (hr : r < 2) : IntKind.i64.wrap (-(2 * (k : Int) + (r : Int)) - -(2 * (k : Int))) = -(r : Int) := by
 rw [show -(2 * (k : Int) + (r : Int)) - -(2 * (k : Int)) = -(r : Int) by omega]; exact bD (by omega) (by omega)
theorem lM {r : Nat} (hr : r < 2) : IntKind.i64.wrap (0 - -(r : Int)) = (r : Int) := by
 rw [Int.zero_sub, Int.neg_neg]; exact bD (by omega) (by omega)
set_option maxRecDepth 100000 in
theorem bN (n : Int) (w : World) (h1 : -9223372036854775808 ≤ n) (h2 : n < 9223372036854775808) :
  Calls Tryz.prog 54 #[.int .i64 n] w fun e w' => ∃ r, e = .returned r ∧ Rq w' r ((n : Int) : Rat) ∧ Q w w' := by
 obtain ⟨w0, hW, hG0, hR0⟩ := aCa w 32 [.int .i64 0, .slice none 0 0, .slice none 0 0];go_enter Tryz.func54, Tryz.ntmps54
 go_upto_region 1 with fail
 clear hW;by_cases hN : n < 0
 ·have HN := Lib.hid hN; clear hN;obtain ⟨k, r, hr, hk, rfl⟩ : ∃ k r : Nat, r < 2 ∧ k < 4611686018427387905 ∧ n = -(2 * (k : Int) + (r : Int)) := ⟨((-n) / 2).toNat, ((-n) % 2).toNat, by omega, by omega, by have := HN.out; omega⟩
  have Hr := Lib.hid hr; have Hk := Lib.hid hk; clear hr hk h1 h2;refine aJ (F := ?F1) ([.eq (.int .i64 (-(2 * (k : Int) + (r : Int)))), .eq (.bool true)] : List Vs) ?hF1 ?st1 ?en1
  case hF1 =>
   intro vals;simp only [Ja.fillL, Act.put, List.setIfInBounds_toArray, List.set_cons_zero, List.set_cons_succ, Nat.reduceAdd];exact rfl
  case st1 =>
   intro hctx;refine JC.p hctx ?_;refine JC.u (.bool (decide ((-(2 * (k : Int) + (r : Int))) < (0)))) (congrArg Value.bool (decide_eq_true (show ((-(2 * (k : Int) + (r : Int)) : Int) < 0) from HN.out))) hctx ?_;exact Ja.Steps.nil
  intro vals w1 hq1 hall;have hG1 := hG0.trans hq1;have hR1 := hR0.q hq1;clear hG0 hR0;have f5 : vals 1 = .bool true := hall 1 (by decide);rw [f5];clear f5;clear hall;go_upto_region 2 with fail
  refine aJ (F := ?F2) ([.eq (.int .i64 (-(2 * (k : Int) + (r : Int)))), .eq (.int .i64 (-(k : Int))), .eq (.int .i64 (-(k : Int)))] : List Vs) ?hF2 ?st2 ?en2
  case hF2 =>
   intro vals;simp only [Ja.fillL, Act.put, List.setIfInBounds_toArray, List.set_cons_zero, List.set_cons_succ, Nat.reduceAdd];exact rfl
  case st2 =>
   intro hctx;refine JC.p hctx ?_;refine JC.o hctx ?_ ?_
   ·intro L vals W hL hJ hd K hK;have d0 : vals 0 = .int .i64 (-(2 * (k : Int) + (r : Int))) := hd 0 (by kernel_rfl);generalize vals 0 = u0 at d0 hK ⊢;subst d0;go_simp
    rw [eD Hr.out Hk.out];exact hK.out (.int .i64 (-(k : Int))) _ _ (by kernel_rfl) rfl (Q.refl _)
   refine JC.p hctx ?_;exact Ja.Steps.nil
  intro vals w2 hq2 hall;have hG2 := hG1.trans hq2;have hR2 := hR1.q hq2;clear hG1 hR1;have f3 : vals 2 = .int .i64 (-(k : Int)) := hall 2 (by decide);rw [f3];clear f3;clear hall;go_upto_region 3 with fail
  have N1 : Hid (dg B30 (k) ≤ 3) := Lib.hid (by have h99 := dg3 (Nat.lt_trans Hk.out (by decide)); skip; omega);have N2 : Hid (dg B30 ((k) + (k)) ≤ 7) := Lib.hid (by have h99 := aCt (k) (k); skip; have h50 := N1.out; have h51 := N1.out; omega);have B3 : Hid (dg B30 (k) + 1 ≤ LIM) := Lib.hid (by have h50 := N1.out; skip; rw [aA] at *; omega);have B4 : Hid (dg B30 (k) + 1 ≤ LIM) := Lib.hid (by have h50 := N1.out; skip; rw [aA] at *; omega);have N5 : Hid (dg B30 (r) ≤ 3) := Lib.hid (by have h99 := dg3 (Nat.lt_trans Hr.out (by decide)); skip; omega);have N6 : Hid (dg B30 (((k) + (k)) + (r)) ≤ 11) := Lib.hid (by have h99 := aCt ((k) + (k)) (r); skip; have h50 := N2.out; have h51 := N5.out; omega);have B7 : Hid (dg B30 ((k) + (k)) + 1 ≤ LIM) := Lib.hid (by have h50 := N2.out; skip; rw [aA] at *; omega);have B8 : Hid (dg B30 (r) + 1 ≤ LIM) := Lib.hid (by have h50 := N5.out; skip; rw [aA] at *; omega);have B9 : Hid (31 * dg B30 (((k) + (k)) + (r)) + 80 ≤ LIM) := Lib.hid (by have h50 := N6.out; skip; rw [aA] at *; omega);have N10 : Hid (dg B30 (1) ≤ 1) := Lib.hid (by have h99 := dN; skip; omega);have B11 : Hid (31 * dg B30 (1) + 80 ≤ LIM) := Lib.hid (by have h50 := N10.out; skip; rw [aA] at *; omega);have hAt2 : At0 w [⟨none, w.heap.size, 32, [.i, .s, .s], .agg #[.int .i64 0, .slice none 0 0, .slice none 0 0], 16, 15⟩] [] w2 := At0.of hG2 ⟨aT hR2 (by omega), trivial⟩ (by simp [aP]) trivial;clear hG2 hR2;refine aN (F := ?F3) w ([.eq (.int .i64 (-(k : Int))), .eq (.int .i64 ((k : Int))), .gen (aD (k)), .eq (.int .i64 (-(k : Int))), .eq (.int .i64 ((k : Int))), .gen (aD (k)), .gen (aD ((k) + (k))), .eq (.int .i64 (-(2 * (k : Int) + (r : Int)))), .eq (.int .i64 (-(k : Int))), .eq (.int .i64 (-(2 * (k : Int)))), .eq (.int .i64 (-(r : Int))), .eq (.int .i64 ((r : Int))), .gen (aD (r)), .gen (aD (((k) + (k)) + (r))), .gen (aD (1)), .gen (pRn (((-(2 * (k : Int) + (r : Int)) : Int) : Rat))), .any] : List Vs) _ _ (by kernel_rfl) hAt2 ?hF3 ?st3 ?en3
  case hF3 =>
   intro vals;simp only [Ja.fillL, Act.put, List.setIfInBounds_toArray, List.set_cons_zero, List.set_cons_succ, Nat.reduceAdd];exact rfl
  case st3 =>
   clear hAt2;intro hctx;refine JC.p hctx ?_;refine JC.u (.int .i64 (IntKind.i64.wrap (0 - (-(k : Int))))) (by exact congrArg (Value.int .i64) (dA Hk.out)) hctx ?_;refine JC.ca (fun vals W hN hd hk => (bB ((k : Int)) (k) W (rfl) (Nat.lt_trans Hk.out (by decide))).mono (by rintro e W9 ⟨r, rfl, hr, hq9, -⟩; exact ⟨r, rfl, hr, hq9⟩)) hctx ?_;refine JC.p hctx ?_;refine JC.u (.int .i64 (IntKind.i64.wrap (0 - (-(k : Int))))) (by exact congrArg (Value.int .i64) (dA Hk.out)) hctx ?_;refine JC.ca (fun vals W hN hd hk => (bB ((k : Int)) (k) W (rfl) (Nat.lt_trans Hk.out (by decide))).mono (by rintro e W9 ⟨r, rfl, hr, hq9, -⟩; exact ⟨r, rfl, hr, hq9⟩)) hctx ?_;refine JC.ca (fun vals W hN hd hk => (xE _ _ (k) (k) W (hd 2 (by kernel_rfl)) (hd 5 (by kernel_rfl)) B3.out B4.out).mono (by rintro e W9 ⟨r, rfl, hr, hq9, -⟩; exact ⟨r, rfl, hr, hq9⟩)) hctx ?_;refine JC.p hctx ?_;refine JC.p hctx ?_;refine JC.u (.int .i64 (IntKind.i64.wrap ((2) * (-(k : Int))))) (by exact congrArg (Value.int .i64) (kG Hk.out)) hctx ?_;refine JC.u (.int .i64 (IntKind.i64.wrap ((-(2 * (k : Int) + (r : Int))) - (-(2 * (k : Int)))))) (by exact congrArg (Value.int .i64) (lL Hr.out)) hctx ?_;refine JC.u (.int .i64 (IntKind.i64.wrap (0 - (-(r : Int))))) (by exact congrArg (Value.int .i64) (lM Hr.out)) hctx ?_;refine JC.ca (fun vals W hN hd hk => (bB ((r : Int)) (r) W (rfl) (Nat.lt_trans Hr.out (by decide))).mono (by rintro e W9 ⟨r, rfl, hr, hq9, -⟩; exact ⟨r, rfl, hr, hq9⟩)) hctx ?_;refine JC.ca (fun vals W hN hd hk => (xE _ _ ((k) + (k)) (r) W (hd 6 (by kernel_rfl)) (hd 12 (by kernel_rfl)) B7.out B8.out).mono (by rintro e W9 ⟨r, rfl, hr, hq9, -⟩; exact ⟨r, rfl, hr, hq9⟩)) hctx ?_;refine JC.ca (fun vals W hN hd hk => (aCr W).mono (by rintro e W9 ⟨r, rfl, hr, hq9, -⟩; exact ⟨r, rfl, hr, hq9⟩)) hctx ?_;refine JC.ca (fun vals W hN hd hk => (iK (-1) _ _ (((k) + (k)) + (r)) (1) (((-(2 * (k : Int) + (r : Int)) : Int) : Rat)) W (hd 13 (by kernel_rfl)) (hd 14 (by kernel_rfl)) (fun _ => Nat.one_pos) (Or.inl rfl) (eB k r) (fun h9 => by omega) B9.out B11.out).mono (by rintro e W9 ⟨r, rfl, hr, hq9⟩; exact ⟨r, rfl, hr, hq9⟩)) hctx ?_;refine JC.s3 (n := 0) rfl fRn hctx ?_;exact Ja.Steps.nil
  intro L vals w3 hall hJ;clear hAt2;have hG3 := hJ.q;obtain ⟨AR1, kR1, cR1, AR2, kR2, cR2, hR3, nR3⟩ := dZ (g := w.heap.size) (t := 32) (hJ.stored 0 rfl rfl (hall 16 (by decide))) (show Rq w3 (vals 15) (((-(2 * (k : Int) + (r : Int)) : Int) : Rat)) from hJ.s 15 (hall 15 (by decide)));clear hall hJ;go_wp2_with fail
  exact jA hR3 (⟨_, rfl, nR3, hG3⟩)
 ·have HN := Lib.hid hN; clear hN;obtain ⟨N, rfl⟩ : ∃ N : Nat, n = (N : Int) := ⟨n.toNat, by have := HN.out; omega⟩
  have hN9 : N < 9223372036854775808 := (by omega);have Hn := Lib.hid hN9; clear hN9 h1 h2;refine aJ (F := ?F4) ([.eq (.int .i64 ((N : Int))), .eq (.bool false)] : List Vs) ?hF4 ?st4 ?en4
  case hF4 =>
   intro vals;simp only [Ja.fillL, Act.put, List.setIfInBounds_toArray, List.set_cons_zero, List.set_cons_succ, Nat.reduceAdd];exact rfl
  case st4 =>
   intro hctx;refine JC.p hctx ?_;refine JC.u (.bool (decide (((N : Int)) < (0)))) (congrArg Value.bool (decide_eq_false (show ¬ (((N : Int) : Int) < 0) from HN.out))) hctx ?_;exact Ja.Steps.nil
  intro vals w1 hq1 hall;have hG1 := hG0.trans hq1;have hR1 := hR0.q hq1;clear hG0 hR0;have f5 : vals 1 = .bool false := hall 1 (by decide);rw [f5];clear f5;clear hall;go_upto_region 4 with fail
  have N1 : Hid (dg B30 (N) ≤ 3) := Lib.hid (by have h99 := dg3 (Hn.out); skip; omega);have B2 : Hid (31 * dg B30 (N) + 80 ≤ LIM) := Lib.hid (by have h50 := N1.out; skip; rw [aA] at *; omega);have N3 : Hid (dg B30 (1) ≤ 1) := Lib.hid (by have h99 := dN; skip; omega);have B4 : Hid (31 * dg B30 (1) + 80 ≤ LIM) := Lib.hid (by have h50 := N3.out; skip; rw [aA] at *; omega);have hAt1 : At0 w [⟨none, w.heap.size, 32, [.i, .s, .s], .agg #[.int .i64 0, .slice none 0 0, .slice none 0 0], 4, 3⟩] [] w1 := At0.of hG1 ⟨aT hR1 (by omega), trivial⟩ (by simp [aP]) trivial;clear hG1 hR1;refine aN (F := ?F5) w ([.eq (.int .i64 ((N : Int))), .gen (aD (N)), .gen (aD (1)), .gen (pRn (((N : Int) : Rat))), .any] : List Vs) _ _ (by kernel_rfl) hAt1 ?hF5 ?st5 ?en5
  case hF5 =>
   intro vals;simp only [Ja.fillL, Act.put, List.setIfInBounds_toArray, List.set_cons_zero, List.set_cons_succ, Nat.reduceAdd];exact rfl
  case st5 =>
   clear hAt1;intro hctx;refine JC.p hctx ?_;refine JC.ca (fun vals W hN hd hk => (bB ((N : Int)) (N) W (rfl) (Hn.out)).mono (by rintro e W9 ⟨r, rfl, hr, hq9, -⟩; exact ⟨r, rfl, hr, hq9⟩)) hctx ?_;refine JC.ca (fun vals W hN hd hk => (aCr W).mono (by rintro e W9 ⟨r, rfl, hr, hq9, -⟩; exact ⟨r, rfl, hr, hq9⟩)) hctx ?_;refine JC.ca (fun vals W hN hd hk => (iK (1) _ _ (N) (1) (((N : Int) : Rat)) W (hd 1 (by kernel_rfl)) (hd 2 (by kernel_rfl)) (fun _ => Nat.one_pos) (Or.inr (Or.inr rfl)) (dR N) (fun h9 => by omega) B2.out B4.out).mono (by rintro e W9 ⟨r, rfl, hr, hq9⟩; exact ⟨r, rfl, hr, hq9⟩)) hctx ?_;refine JC.s3 (n := 0) rfl fRn hctx ?_;exact Ja.Steps.nil
  intro L vals w2 hall hJ;clear hAt1;have hG2 := hJ.q;obtain ⟨AR1, kR1, cR1, AR2, kR2, cR2, hR2, nR2⟩ := dZ (g := w.heap.size) (t := 32) (hJ.stored 0 rfl rfl (hall 4 (by decide))) (show Rq w2 (vals 3) (((N : Int) : Rat)) from hJ.s 3 (hall 3 (by decide)));clear hall hJ;go_wp2_with fail
  exact jA hR2 (⟨_, rfl, nR2, hG2⟩)
theorem aFG (x y : Rat) : sz (aW x y).2 ≤ sz x + sz y + 2 := by
 unfold aW;split
 ·exact Nat.le_trans xQ (Nat.le_add_left _ _)
 ·have h1 := mD x y⁻¹;have h2 := aAs y;show sz (x * y⁻¹) ≤ _;omega
set_option maxRecDepth 100000 in
theorem eP (a b : Int) (w : World) (a1 : -9223372036854775808 ≤ a) (a2 : a < 9223372036854775808) (b1 : -9223372036854775808 ≤ b) (b2 : b < 9223372036854775808) :
  Calls Tryz.prog 50 #[.int .i64 a, .int .i64 b] w fun e w' => ∃ r, e = .returned (.tuple #[r, .int .i64 (aW (a : Rat) (b : Rat)).1]) ∧ Rq w' r (aW (a : Rat) (b : Rat)).2 ∧ Q w w' := by
 obtain ⟨w0, hW, hG0, hR0⟩ := aCa w 32 [.int .i64 0, .slice none 0 0, .slice none 0 0];go_enter Tryz.func50, Tryz.ntmps50
 go_upto_region 1 with fail
 clear hW;have Ha1 := Lib.hid a1; have Ha2 := Lib.hid a2; have Hb1 := Lib.hid b1; have Hb2 := Lib.hid b2; clear a1 a2 b1 b2;have Z1 : Hid (sz ((((a) : Int) : Rat)) ≤ 2) := Lib.hid (by have h99 := aAu a (by have h1 := Ha1.out; have h2 := Ha2.out; rw [bJ]; omega); skip; omega);have Z2 : Hid (sz ((((b) : Int) : Rat)) ≤ 2) := Lib.hid (by have h99 := aAu b (by have h1 := Hb1.out; have h2 := Hb2.out; rw [bJ]; omega); skip; omega);have Z3 : Hid (sz ((aW ((((a) : Int) : Rat)) ((((b) : Int) : Rat))).2) ≤ 6) := Lib.hid (by have h99 := aFG ((((a) : Int) : Rat)) ((((b) : Int) : Rat)); have h0 := Z1.out; have h1 := Z2.out; omega);have B4 : Hid (1000 * (sz ((((a) : Int) : Rat)) + sz ((((b) : Int) : Rat))) + 20000 ≤ LIM) := Lib.hid (by have h0 := Z1.out; have h1 := Z2.out; rw [aA] at *; omega);have hAt0 : At0 w [⟨none, w.heap.size, 32, [.i, .s, .s], .agg #[.int .i64 0, .slice none 0 0, .slice none 0 0], 7, 5⟩] [] w0 := At0.of hG0 ⟨aT hR0 (by omega), trivial⟩ (by simp [aP]) trivial;clear hG0 hR0;refine aN (F := ?F1) w ([.eq (.int .i64 (a)), .gen (pRn ((((a) : Int) : Rat))), .eq (.int .i64 (b)), .gen (pRn ((((b) : Int) : Rat))), .gen (pT2 (pRn ((aW ((((a) : Int) : Rat)) ((((b) : Int) : Rat))).2)) (pEq (.int .i64 ((aW ((((a) : Int) : Rat)) ((((b) : Int) : Rat))).1)))), .gen (pRn ((aW ((((a) : Int) : Rat)) ((((b) : Int) : Rat))).2)), .eq (.int .i64 ((aW ((((a) : Int) : Rat)) ((((b) : Int) : Rat))).1)), .any, .eq (.int .i64 ((aW ((((a) : Int) : Rat)) ((((b) : Int) : Rat))).1))] : List Vs) _ _ (by kernel_rfl) hAt0 ?hF1 ?st1 ?en1
 case hF1 =>
  intro vals;simp only [Ja.fillL, Act.put, List.setIfInBounds_toArray, List.set_cons_zero, List.set_cons_succ, Nat.reduceAdd];exact rfl
 case st1 =>
  clear hAt0;intro hctx;refine JC.p hctx ?_;refine JC.ca (fun vals W hN hd hk => (bN (a) W Ha1.out Ha2.out).mono (by rintro e W9 ⟨r, rfl, hr, hq9⟩; exact ⟨r, rfl, hr, hq9⟩)) hctx ?_;refine JC.p hctx ?_;refine JC.ca (fun vals W hN hd hk => (bN (b) W Hb1.out Hb2.out).mono (by rintro e W9 ⟨r, rfl, hr, hq9⟩; exact ⟨r, rfl, hr, hq9⟩)) hctx ?_;refine JC.ca (fun vals W hN hd hk => (aGR _ _ ((((a) : Int) : Rat)) ((((b) : Int) : Rat)) W (hd 1 (by kernel_rfl)) (hd 3 (by kernel_rfl)) B4.out).mono (by rintro e W9 ⟨r, rfl, hr, hq9⟩; exact ⟨(.tuple #[r, .int .i64 ((aW ((((a) : Int) : Rat)) ((((b) : Int) : Rat))).1)]), rfl, ⟨_, _, rfl, hr, rfl⟩, hq9⟩)) hctx ?_;refine JC.o hctx ?_ ?_
  ·intro L vals W hL hJ hd K hK;have d4 : (pT2 (pRn ((aW ((((a) : Int) : Rat)) ((((b) : Int) : Rat))).2)) (pEq (.int .i64 ((aW ((((a) : Int) : Rat)) ((((b) : Int) : Rat))).1)))).p (vals 4) W := hd 4 (by kernel_rfl);generalize vals 4 = u4 at d4 hK ⊢;obtain ⟨e0, e1, rfl, he0, he1⟩ := d4;go_simp
   exact hK.out (e0) _ _ (by kernel_rfl) he0 (Q.refl _)
  refine JC.o hctx ?_ ?_
  ·intro L vals W hL hJ hd K hK;have d4 : (pT2 (pRn ((aW ((((a) : Int) : Rat)) ((((b) : Int) : Rat))).2)) (pEq (.int .i64 ((aW ((((a) : Int) : Rat)) ((((b) : Int) : Rat))).1)))).p (vals 4) W := hd 4 (by kernel_rfl);generalize vals 4 = u4 at d4 hK ⊢;obtain ⟨e0, e1, rfl, he0, he1⟩ := d4;obtain rfl : e1 = .int .i64 ((aW ((((a) : Int) : Rat)) ((((b) : Int) : Rat))).1) := he1;go_simp
   exact hK.out (.int .i64 ((aW ((((a) : Int) : Rat)) ((((b) : Int) : Rat))).1)) _ _ (by kernel_rfl) rfl (Q.refl _)
  refine JC.s3 (n := 0) rfl fRn hctx ?_;refine JC.p hctx ?_;exact Ja.Steps.nil
 intro L vals w1 hall hJ;clear hAt0;have hG1 := hJ.q;obtain ⟨AR1, kR1, cR1, AR2, kR2, cR2, hR1, nR1⟩ := dZ (g := w.heap.size) (t := 32) (hJ.stored 0 rfl rfl (hall 7 (by decide))) (show Rq w1 (vals 5) ((aW ((((a) : Int) : Rat)) ((((b) : Int) : Rat))).2) from hJ.s 5 (hall 5 (by decide)));have f5 : vals 8 = .int .i64 ((aW ((((a) : Int) : Rat)) ((((b) : Int) : Rat))).1) := hJ.s 8 (hall 8 (by decide));rw [f5];clear f5;clear hall hJ;go_wp2_with fail
 have zR0 : w1.cell? ⟨w.heap.size, 0, none⟩ = some (.int .i64 (sn ((aW ((((a) : Int) : Rat)) ((((b) : Int) : Rat))).2))) := hR1.cell 0 rfl;have zR1 : w1.cell? ⟨w.heap.size, 1, none⟩ = some (.slice AR1 kR1 cR1) := hR1.cell 1 rfl;have zR2 : w1.cell? ⟨w.heap.size, 2, none⟩ = some (.slice AR2 kR2 cR2) := hR1.cell 2 rfl;refine bodyPost_ret (v := .tuple #[.agg #[.int .i64 (sn ((aW ((((a) : Int) : Rat)) ((((b) : Int) : Rat))).2)), .slice AR1 kR1 cR1, .slice AR2 kR2 cR2], .int .i64 ((aW (a : Rat) (b : Rat)).1)]) (by simp [results, Tryz.results50, go_sem, zR0, zR1, zR2]) rfl ?_;exact ⟨_, rfl, nR1, hG1⟩
theorem bX (p : Rat) (i m : Nat) (h : i ≤ m) : sz (p ^ i) ≤ m * sz p + 2 := by
 have h1 := aC3 p i;have h2 : i * sz p ≤ m * sz p := Nat.mul_le_mul_right _ h;omega
set_option maxRecDepth 100000 in
theorem dB (x : Value) (p : Rat) (n : Nat) (w : World) (hx : Rq w x p) (hn : n ≤ 64) (hB : 80000 * sz p + 200000 ≤ LIM) :
  Calls Tryz.prog 52 #[x, .int .i64 (n : Int)] w fun e w' => ∃ r, e = .returned (.tuple #[r, .int .i64 0]) ∧ Rq w' r (p ^ n) ∧ Q w w' := by
 have hxy := hx;obtain ⟨AX1, kX1, cX1, AX2, kX2, cX2, rfl, -⟩ := hxy;obtain ⟨w0, hW, hG0, hX0, hR0⟩ := vM w 32 [.int .i64 (sn (p)), .slice AX1 kX1 cX1, .slice AX2 kX2 cX2] 32 [.int .i64 0, .slice none 0 0, .slice none 0 0];have nX0 : Rq w0 (.agg #[.int .i64 (sn (p)), .slice AX1 kX1 cX1, .slice AX2 kX2 cX2]) (p) := hx.q hG0;have HB := Lib.hid hB; clear hB;go_enter Tryz.func52, Tryz.ntmps52
 go_upto_region 1 with fail
 clear hW;have HN := Lib.hid hn; clear hn;refine aJ (F := ?F2) ([.eq (.int .i64 ((n : Int))), .eq (.bool false), .eq (.bool false), .eq (.int .i64 ((n : Int))), .eq (.bool false), .eq (.bool false)] : List Vs) ?hF2 ?st2 ?en2
 case hF2 =>
  intro vals;simp only [Ja.fillL, Act.put, List.setIfInBounds_toArray, List.set_cons_zero, List.set_cons_succ, Nat.reduceAdd];exact rfl
 case st2 =>
  intro hctx;refine JC.p hctx ?_;refine JC.u (.bool (decide (((n : Int)) < (-64)))) (congrArg Value.bool (decide_eq_false (show ¬ (((n : Int) : Int) < -64) from by have := HN.out; omega))) hctx ?_;refine JC.p hctx ?_;refine JC.p hctx ?_;refine JC.u (.bool (decide ((64) < ((n : Int))))) (congrArg Value.bool (decide_eq_false (show ¬ (((n : Int) : Int) > 64) from by have := HN.out; omega))) hctx ?_;refine JC.p hctx ?_;exact Ja.Steps.nil
 intro vals w1 hq1 hall;have hG1 := hG0.trans hq1;have hX1 := hX0.q hq1;have nX1 := Rq.q nX0 hq1;have hR1 := hR0.q hq1;clear hG0 hX0 hR0 nX0;have f15 : vals 5 = .bool false := hall 5 (by decide);rw [f15];clear f15;clear hall;go_upto_region 3 with fail
 refine aJ (F := ?F3) ([.eq (.int .i64 ((n : Int))), .eq (.bool false)] : List Vs) ?hF3 ?st3 ?en3
 case hF3 =>
  intro vals;simp only [Ja.fillL, Act.put, List.setIfInBounds_toArray, List.set_cons_zero, List.set_cons_succ, Nat.reduceAdd];exact rfl
 case st3 =>
  intro hctx;refine JC.p hctx ?_;refine JC.u (.bool (decide (((n : Int)) < (0)))) (congrArg Value.bool (decide_eq_false (show ¬ (((n : Int) : Int) < 0) from by omega))) hctx ?_;exact Ja.Steps.nil
 intro vals w2 hq2 hall;have hG2 := hG1.trans hq2;have hX2 := hX1.q hq2;have nX2 := Rq.q nX1 hq2;have hR2 := hR1.q hq2;clear hG1 hX1 hR1 nX1;have f18 : vals 1 = .bool false := hall 1 (by decide);rw [f18];clear f18;clear hall;go_upto_region 8 with fail
 have hs9 := hR2.lt;have Z1 : Hid (sz ((((1) : Int) : Rat)) ≤ 2) := Lib.hid (by have h99 := aAu 1 (by decide); have hb9 := HB.out; omega);have hAt2 : At0 w2 [⟨some 1, 0, 32, [.i, .s, .s], .agg #[.int .i64 0, .slice none 0 0, .slice none 0 0], 2, 0⟩] [] w2 := At0.of (Q.refl _) ⟨fun h => (by cases h), trivial⟩ (by simp [aP]) trivial;refine aN (F := ?F4) w2 ([.gen (pRn ((((1) : Int) : Rat))), .any, .any] : List Vs) _ _ (by kernel_rfl) hAt2 ?hF4 ?st4 ?en4
 case hF4 =>
  intro vals;simp only [Ja.fillL, Act.put, List.setIfInBounds_toArray, List.set_cons_zero, List.set_cons_succ, Nat.reduceAdd];exact rfl
 case st4 =>
  clear hAt2;intro hctx;refine JC.ca (fun vals W hN hd hk => (bN (1) W (by decide) (by decide)).mono (by rintro e W9 ⟨r, rfl, hr, hq9⟩; exact ⟨r, rfl, hr, hq9⟩)) hctx ?_;refine Ja.Steps.cons (JC.alloc (n := 0) (cells := [.int .i64 0, .slice none 0 0, .slice none 0 0].toArray) (t := 32) hctx (by kernel_rfl) (by rfl) (by kernel_rfl) (by rfl) (by rfl) (by kernel_rfl) (by rfl) (fun W => NbV.mk (t := 32) (ck := [.i, .s, .s]) (row := [.int .i64 0, .slice none 0 0, .slice none 0 0]) ⟨⟨_, rfl⟩, ⟨_, _, _, rfl⟩, ⟨_, _, _, rfl⟩, trivial⟩ (Bx.new W _ _)) ?_) ?_
  ·intro vals W K hK;go_simp
   exact hK.out _ (by kernel_rfl)
  refine JC.s3 (n := 0) rfl fRn hctx ?_;exact Ja.Steps.nil
 intro L vals w3 hall hJ;clear hAt2;have hq3 := hJ.q;have hG3 := hG2.trans hq3;have hX3 := hX2.q hq3;have nX3 := Rq.q nX2 hq3;have hR3 := hR2.q hq3;clear hG2 hX2 hR2 nX2;obtain ⟨gO, eO, geO, qO⟩ := hJ.fresh 0 rfl rfl (hall 1 (by decide)) (hall 2 (by decide));obtain ⟨AO1, kO1, cO1, AO2, kO2, cO2, hO3, nO3⟩ := dZ (g := gO) (t := 32) qO (show Rq w3 (vals 0) ((((1) : Int) : Rat)) from hJ.s 0 (hall 0 (by decide)));clear qO;rw [eO];clear eO;clear hall hJ;go_wp2_with fail
 go_loopw [9] (fun iv w1 => ∃ i : Nat, iv = .int .i64 (i : Int) ∧ i ≤ n ∧ Q w w1 ∧ Bx w1 (w.heap.size) 32 [.int .i64 (sn (p)), .slice AX1 kX1 cX1, .slice AX2 kX2 cX2] ∧ Rq w1 (.agg #[.int .i64 (sn (p)), .slice AX1 kX1 cX1, .slice AX2 kX2 cX2]) (p) ∧ Bx w1 (w.heap.size + 1) 32 [.int .i64 0, .slice none 0 0, .slice none 0 0] ∧ ∃ AO1 kO1 cO1 AO2 kO2 cO2, Bx w1 (gO) 32 [.int .i64 (sn (p ^ i)), .slice AO1 kO1 cO1, .slice AO2 kO2 cO2] ∧ Rq w1 (.agg #[.int .i64 (sn (p ^ i)), .slice AO1 kO1 cO1, .slice AO2 kO2 cO2]) (p ^ i)) (fun iv _ => n - (intOf iv).toNat)
 case atStart => exact ⟨0, rfl, by omega, hG3, hX3, nX3, hR3, _, _, _, _, _, _, (by rw [Rat.pow_zero]; exact hO3), by rw [Rat.pow_zero]; exact nO3⟩
 case round =>
  obtain ⟨i, rfl, hi, hG4, hX4, nX4, hR4, AO1, kO1, cO1, AO2, kO2, cO2, hO4, nO4⟩ := hrel;generalize wr = w4 at *
  clear hG3 hX3 nX3 hR3 hO3 nO3;have HI := Lib.hid hi; clear hi;have Z2 : Hid (sz (p ^ i) ≤ 64 * sz (p) + 2) := Lib.hid (by have h99 := bX p i 64 (by have := HI.out; have := HN.out; omega); have hb9 := HB.out; omega);by_cases hp : i < n
  ·have h1 : (i : Int) < (n : Int) := (by omega);have HP := Lib.hid hp; clear hp;go_upto_region 12 with fail
   clear h1;have Z3 : Hid (sz ((p ^ i) * (p)) ≤ 65 * sz (p) + 2) := Lib.hid (by have h99 := mD (p ^ i) (p); have h0 := Z2.out; have hb9 := HB.out; omega);have B4 : Hid (1000 * (sz (p ^ i) + sz (p)) + 10000 ≤ LIM) := Lib.hid (by have h0 := Z2.out; have hb9 := HB.out; rw [aA] at *; omega);have hAt4 : At0 w [⟨none, w.heap.size, 32, [.i, .s, .s], .agg #[.int .i64 (sn (p)), .slice AX1 kX1 cX1, .slice AX2 kX2 cX2], 1000, 0⟩, ⟨none, w.heap.size + 1, 32, [.i, .s, .s], .agg #[.int .i64 0, .slice none 0 0, .slice none 0 0], 1000, 0⟩, ⟨none, gO, 32, [.i, .s, .s], .agg #[.int .i64 (sn (p ^ i)), .slice AO1 kO1 cO1, .slice AO2 kO2 cO2], 3, 2⟩] [(.agg #[.int .i64 (sn (p)), .slice AX1 kX1 cX1, .slice AX2 kX2 cX2], .gen (pRn (p))), (.agg #[.int .i64 (sn (p ^ i)), .slice AO1 kO1 cO1, .slice AO2 kO2 cO2], .gen (pRn (p ^ i)))] w4 := At0.of hG4 ⟨aT hX4 (by omega), aT hR4 (by omega), aT hO4 (by omega), trivial⟩ (by (simp [aP] <;> omega)) ⟨nX4, nO4, trivial⟩;clear hG4 hX4 hR4 hO4 nX4 nO4;refine aN (F := ?F5) w ([.gen (pRn (p ^ i)), .gen (pRn (p)), .gen (pRn ((p ^ i) * (p))), .any] : List Vs) _ _ (by kernel_rfl) hAt4 ?hF5 ?st5 ?en5
   case hF5 =>
    intro vals;simp only [Ja.fillL, Act.put, List.setIfInBounds_toArray, List.set_cons_zero, List.set_cons_succ, Nat.reduceAdd];exact rfl
   case st5 =>
    clear hAt4;intro hctx;refine JC.r3 (off := 0) (row := [.int .i64 (sn (p ^ i)), .slice AO1 kO1 cO1, .slice AO2 kO2 cO2]) (fun _ _ _ hL hJ => hJ.before 2 0 rfl rfl hL (by kernel_rfl) (by kernel_rfl)) (fun _ _ _ hJ => (hJ.kept 1 rfl)) hctx ?_;refine JC.r3 (off := 0) (row := [.int .i64 (sn (p)), .slice AX1 kX1 cX1, .slice AX2 kX2 cX2]) (fun _ _ _ hL hJ => hJ.still 0 rfl rfl (Nat.le_of_ble_eq_true (by kernel_rfl))) (fun _ _ _ hJ => (hJ.kept 0 rfl)) hctx ?_;refine JC.ca (fun vals W hN hd hk => (aET _ _ (p ^ i) (p) W (hd 0 (by kernel_rfl)) (hd 1 (by kernel_rfl)) B4.out).mono (by rintro e W9 ⟨r, rfl, hr, hq9⟩; exact ⟨r, rfl, hr, hq9⟩)) hctx ?_;refine JC.s3 (n := 2) rfl fRn hctx ?_;exact Ja.Steps.nil
   intro L vals w5 hall hJ;clear hAt4;have hG5 := hJ.q;have hX5 : Bx w5 (w.heap.size) 32 [.int .i64 (sn (p)), .slice AX1 kX1 cX1, .slice AX2 kX2 cX2] := NbV.out (hJ.still 0 rfl rfl (Nat.le_of_ble_eq_true (by kernel_rfl)));have nX5 : Rq w5 (.agg #[.int .i64 (sn (p)), .slice AX1 kX1 cX1, .slice AX2 kX2 cX2]) (p) := hJ.kept 0 rfl;have hR5 : Bx w5 (w.heap.size + 1) 32 [.int .i64 0, .slice none 0 0, .slice none 0 0] := NbV.out (hJ.still 1 rfl rfl (Nat.le_of_ble_eq_true (by kernel_rfl)));obtain ⟨AO1, kO1, cO1, AO2, kO2, cO2, hO5, nO5⟩ := dZ (g := gO) (t := 32) (hJ.stored 2 rfl rfl (hall 3 (by decide))) (show Rq w5 (vals 2) ((p ^ i) * (p)) from hJ.s 2 (hall 2 (by decide)));clear hall hJ;have hp1 := HP.out; have hn1 := HN.out;go_wp2_with fail
   have ew : (p ^ i) * (p) = p ^ (i + 1) := (Rat.pow_succ p i).symm;rw [ew] at hO5 nO5;exact ⟨⟨i + 1, rfl, by have := HP.out; omega, hG5, hX5, nX5, hR5, _, _, _, _, _, _, hO5, nO5⟩, by have := HP.out; simp [intOf]; omega⟩
  ·have h1 : ¬ (i : Int) < (n : Int) := (by omega);have hin : i = n := (by have := HI.out; omega);subst hin;clear hp;go_upto_region 13 with fail
   clear h1;have hAt4 : At0 w [⟨none, w.heap.size, 32, [.i, .s, .s], .agg #[.int .i64 (sn (p)), .slice AX1 kX1 cX1, .slice AX2 kX2 cX2], 1000, 0⟩, ⟨none, w.heap.size + 1, 32, [.i, .s, .s], .agg #[.int .i64 0, .slice none 0 0, .slice none 0 0], 1, 0⟩, ⟨none, gO, 32, [.i, .s, .s], .agg #[.int .i64 (sn (p ^ i)), .slice AO1 kO1 cO1, .slice AO2 kO2 cO2], 1000, 0⟩] [(.agg #[.int .i64 (sn (p)), .slice AX1 kX1 cX1, .slice AX2 kX2 cX2], .gen (pRn (p))), (.agg #[.int .i64 (sn (p ^ i)), .slice AO1 kO1 cO1, .slice AO2 kO2 cO2], .gen (pRn (p ^ i)))] w4 := At0.of hG4 ⟨aT hX4 (by omega), aT hR4 (by omega), aT hO4 (by omega), trivial⟩ (by (simp [aP] <;> omega)) ⟨nX4, nO4, trivial⟩;clear hG4 hX4 hR4 hO4 nX4 nO4;refine aN (F := ?F6) w ([.gen (pRn (p ^ i)), .any, .eq (.int .i64 (0))] : List Vs) _ _ (by kernel_rfl) hAt4 ?hF6 ?st6 ?en6
   case hF6 =>
    intro vals;simp only [Ja.fillL, Act.put, List.setIfInBounds_toArray, List.set_cons_zero, List.set_cons_succ, Nat.reduceAdd];exact rfl
   case st6 =>
    clear hAt4;intro hctx;refine JC.r3 (off := 0) (row := [.int .i64 (sn (p ^ i)), .slice AO1 kO1 cO1, .slice AO2 kO2 cO2]) (fun _ _ _ hL hJ => hJ.still 2 rfl rfl (Nat.le_of_ble_eq_true (by kernel_rfl))) (fun _ _ _ hJ => (hJ.kept 1 rfl)) hctx ?_;refine JC.s3 (n := 1) rfl fRn hctx ?_;refine JC.p hctx ?_;exact Ja.Steps.nil
   intro L vals w5 hall hJ;clear hAt4;have hG5 := hJ.q;obtain ⟨AR1, kR1, cR1, AR2, kR2, cR2, hR5, nR5⟩ := dZ (g := w.heap.size + 1) (t := 32) (hJ.stored 1 rfl rfl (hall 1 (by decide))) (show Rq w5 (vals 0) (p ^ i) from hJ.s 0 (hall 0 (by decide)));have f5 : vals 2 = .int .i64 (0) := hJ.s 2 (hall 2 (by decide));rw [f5];clear f5;clear hall hJ;go_wp2_with fail
   have zR0 : w5.cell? ⟨w.heap.size + 1, 0, none⟩ = some (.int .i64 (sn (p ^ i))) := hR5.cell 0 rfl;have zR1 : w5.cell? ⟨w.heap.size + 1, 1, none⟩ = some (.slice AR1 kR1 cR1) := hR5.cell 1 rfl;have zR2 : w5.cell? ⟨w.heap.size + 1, 2, none⟩ = some (.slice AR2 kR2 cR2) := hR5.cell 2 rfl;refine bodyPost_ret (v := .tuple #[.agg #[.int .i64 (sn (p ^ i)), .slice AR1 kR1 cR1, .slice AR2 kR2 cR2], .int .i64 0]) (by simp [results, Tryz.results52, go_sem, zR0, zR1, zR2]) rfl ?_;exact ⟨_, rfl, nR5, hG5⟩
end Go.Proofs.YtgokbhikgdhmpaaGreatDoor.K
