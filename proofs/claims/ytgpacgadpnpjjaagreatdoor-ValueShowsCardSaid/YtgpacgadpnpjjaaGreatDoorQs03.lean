/- ValueShows: for every two strings the law holds: Show of the number that the first one is, and of its product with the other one, is what the document says, or nothing if one is none. No condition.. Part of the proof: texts Ke1 Ke2 Ke3 Kg5 Kg6. -/
import Derived.Below
import Derived.BigQuiet
import Derived.Deep.Cut
import Derived.Deep.CutBlock
import Derived.Deep.DeepMust
import Derived.Deep.Draws
import Derived.Deep.LoopGhost
import Derived.Deep.OwnRows
import Derived.Deep.QuietTactic
import Derived.Deep.RegionHeld3
import Derived.Deep.RegionWith
import Derived.IntWalk
import Derived.Laws.AppendOwn
import Derived.Laws.BitsAllLaws
import Derived.Laws.CopyOwn
import Derived.Laws.IdiomStrings
import Derived.Laws.OwnMore
import Derived.Laws.RangeAny
import Derived.Laws.RangeString
import Derived.Laws.Rows
import Derived.Lib.Hide
import Derived.Lib.IndexBytes
import Derived.Lib.IndexLaws
import Derived.Lib.OthersKept
import Derived.Lib.SliceRun
import Derived.Maps.AppendAt
import Derived.OwnWalk
import Derived.Shelf.Bits.Mul64
import Derived.Shelf.Lays7
import Derived.Shelf.Small.Bits
import Derived.Shelf.Small.Strs
import Derived.Shelf.Small.Utf8
import Derived.Shelf.Small.Wraps
import Derived.Shelf.Spec.BitsCarry
import Derived.Shelf.Spec.TrailingZeros
import Derived.Shelf.Strconv.Itoa0
import Derived.Shelf.Strings.Builder1
import Derived.Shelf.Strings.Builder2
import Derived.Shelf.Strings.Builder2Cap
import Derived.Shelf.Strings.BuilderF
import Derived.Shelf.Strings.BuilderK
import Derived.Shelf.Strings.Cut
import Derived.Shelf.Strings.Prefix
import Derived.Shelf.Strings.Repeat
import Derived.Shelf.Strings.Search1
import Derived.Shelf.Strings.Search2
import Derived.Shelf.Strings.Search3
import Derived.Shelf.Strings.Trim
import Derived.Shelf.Unicode.DecodeSlow
import Derived.Test.YtgpacgadpnpjjaaGreatDoorProg
import Derived.Test.YtgpacgadpnpjjaaGreatDoorQp01
import Derived.Test.YtgpacgadpnpjjaaGreatDoorQp02
import Derived.Test.YtgpacgadpnpjjaaGreatDoorQp03
import Derived.Test.YtgpacgadpnpjjaaGreatDoorQp04
import Derived.Test.YtgpacgadpnpjjaaGreatDoorQp05
import Derived.Test.YtgpacgadpnpjjaaGreatDoorQp06
import Derived.Test.YtgpacgadpnpjjaaGreatDoorQp07
import Derived.Test.YtgpacgadpnpjjaaGreatDoorQp08
import Derived.Test.YtgpacgadpnpjjaaGreatDoorQp09
import Derived.Test.YtgpacgadpnpjjaaGreatDoorQp10
import Derived.Test.YtgpacgadpnpjjaaGreatDoorQp11
import Derived.Test.YtgpacgadpnpjjaaGreatDoorQp12
import Derived.Test.YtgpacgadpnpjjaaGreatDoorQp13
import Derived.Test.YtgpacgadpnpjjaaGreatDoorQp14
import Derived.Test.YtgpacgadpnpjjaaGreatDoorQp15
import Derived.Test.YtgpacgadpnpjjaaGreatDoorQp16
import Derived.Test.YtgpacgadpnpjjaaGreatDoorQp17
import Derived.Test.YtgpacgadpnpjjaaGreatDoorQp18
import Derived.Test.YtgpacgadpnpjjaaGreatDoorQp19
import Derived.Test.YtgpacgadpnpjjaaGreatDoorQp20
import Derived.Test.YtgpacgadpnpjjaaGreatDoorQp21
import Derived.Test.YtgpacgadpnpjjaaGreatDoorQp22
import Derived.Test.YtgpacgadpnpjjaaGreatDoorQp23
import Derived.Test.YtgpacgadpnpjjaaGreatDoorQp24
import Derived.Test.YtgpacgadpnpjjaaGreatDoorQp25
import Derived.Test.YtgpacgadpnpjjaaGreatDoorQp27
import Derived.WalkKit
import Derived.WalkLawsBesides
import Derived.WalkSmall
import Derived.WalkSpells
import Derived.Test.YtgpacgadpnpjjaaGreatDoorQs01
import Derived.Test.YtgpacgadpnpjjaaGreatDoorQs02
set_option maxHeartbeats 8000000
namespace Go.Proofs.YtgpacgadpnpjjaaGreatDoor.K
open Go.RowKit
open Ma Me
theorem aGl (x : Int) (N : Nat) (w : World) (hx : x = (N : Int)) (h : N < 9223372036854775808) : Calls Tryz.prog 178 #[.int .i64 x] w (mQ N w) := by
 subst hx;go_enter Tryz.func178, Tryz.ntmps178
 go_wp2_with fail
 have hb : Blk .i64 (w.alloc (Obj.cells #[Value.int IntKind.i64 ((N : Int) % 1073741824), Value.int IntKind.i64 ((N : Int) / 1073741824 % 1073741824), Value.int IntKind.i64 ((N : Int) / 1073741824 / 1073741824)] 2)) w.heap.size 2 [N % B30, N / B30 % B30, N / B30 / B30] :=
  (heap_alloc_new w _).trans (by rw [aL]; simp [nums])
 refine (kX _ _ (w.heap.size + 1) _ _ _ (by rfl) (Nat.le_refl _) (by omega) (hb.rd (Nat.lt_succ_self _))).mono ?_;rintro e w2 ⟨k, hk2, rfl, hnz, hv, rfl⟩;go_wp2
 go_ret
 refine ⟨_, rfl, Nn.of_blk hb hk2 hk2 hnz ?_ ?_, (Q.refl _).alloc _, Nw.at_ (Nat.le_refl _)⟩
 ·intro d hd; rw [aL] at *; simp at hd; omega
 ·rw [hv]; simp only [bX, aEH]; rw [aL]; omega
theorem dg3 {N : Nat} (h : N < 9223372036854775808) : dg B30 N ≤ 3 := (aD aF N 3).2 (Nat.lt_of_lt_of_le h (by decide))
theorem aGL (N : Nat) : ((N : Int) : Rat) * ((1 : Nat) : Rat) = ((1 : Int) : Rat) * (N : Rat) := by
 rw [show ((1 : Nat) : Rat) = 1 from rfl, show ((1 : Int) : Rat) = 1 from rfl, Rat.mul_one, Rat.one_mul]; rfl
theorem aGM (k r : Nat) : ((-(2 * (k : Int) + (r : Int)) : Int) : Rat) * ((1 : Nat) : Rat) = ((-1 : Int) : Rat) * (((k + k + r : Nat)) : Rat) := by
 rw [show ((1 : Nat) : Rat) = 1 from rfl, Rat.mul_one, show (((k + k + r : Nat)) : Rat) = ((((k + k + r : Nat)) : Int) : Rat) from rfl, ← Rat.intCast_mul];congr 1;omega
theorem dA {z : Int} (h1 : -9223372036854775808 ≤ z) (h2 : z < 9223372036854775808) : IntKind.i64.wrap z = z := by
 by_cases h0 : z < 0
 ·have e : z % 2 ^ 64 = z + 18446744073709551616 := (by omega);simp only [IntKind.wrap, IntKind.bits, IntKind.signed, e];rw [if_pos]
  ·omega
  ·simp; omega
 ·have e : z % 2 ^ 64 = z := (by omega);simp only [IntKind.wrap, IntKind.bits, IntKind.signed, e];rw [if_neg];simp; omega
theorem aGN {k r : Nat} (hr : r < 2) (hk : k < 4611686018427387905) : IntKind.i64.wrap (-(2 * (k : Int) + (r : Int)).tdiv 2) = -(k : Int) := by
 rw [show (2 * (k : Int) + (r : Int)).tdiv 2 = (k : Int) by rw [Int.tdiv_eq_ediv_of_nonneg (by omega)]; omega];exact dA (by omega) (by omega)
theorem aGC {k : Nat} (hk : k < 4611686018427387905) : IntKind.i64.wrap (0 - -(k : Int)) = (k : Int) := by
 rw [Int.zero_sub, Int.neg_neg]; exact dA (by omega) (by omega)
theorem aGS {k : Nat} (hk : k < 4611686018427387905) : IntKind.i64.wrap (2 * -(k : Int)) = -(2 * (k : Int)) := by
 rw [Int.mul_neg]; exact dA (by omega) (by omega)
theorem aGT {k r : Nat} (hr : r < 2) : IntKind.i64.wrap (-(2 * (k : Int) + (r : Int)) - -(2 * (k : Int))) = -(r : Int) := by
 rw [show -(2 * (k : Int) + (r : Int)) - -(2 * (k : Int)) = -(r : Int) by omega]; exact dA (by omega) (by omega)
theorem aGU {r : Nat} (hr : r < 2) : IntKind.i64.wrap (0 - -(r : Int)) = (r : Int) := by
 rw [Int.zero_sub, Int.neg_neg]; exact dA (by omega) (by omega)
set_option maxRecDepth 100000 in
theorem aGs (n : Int) (w : World) (h1 : -9223372036854775808 ≤ n) (h2 : n < 9223372036854775808) :
  Calls Tryz.prog 120 #[.int .i64 n] w fun e w' => ∃ r, e = .returned r ∧ Rq w' r ((n : Int) : Rat) ∧ Q w w' := by
 obtain ⟨w0, hW, hG0, hR0⟩ := yR w 32 [.int .i64 0, .slice none 0 0, .slice none 0 0];go_enter Tryz.func120, Tryz.ntmps120
 go_upto_region 1 with fail
 clear hW;by_cases hN : n < 0
 ·have HN := Lib.hid hN; clear hN;obtain ⟨k, r, hr, hk, rfl⟩ : ∃ k r : Nat, r < 2 ∧ k < 4611686018427387905 ∧ n = -(2 * (k : Int) + (r : Int)) := ⟨((-n) / 2).toNat, ((-n) % 2).toNat, by omega, by omega, by have := HN.out; omega⟩
  have Hr := Lib.hid hr; have Hk := Lib.hid hk; clear hr hk h1 h2;refine bJ (F := ?F1) ([.eq (.int .i64 (-(2 * (k : Int) + (r : Int)))), .eq (.bool true)] : List Vs) ?hF1 ?st1 ?en1
  case hF1 =>
   intro vals;simp only [Ja.fillL, Act.put, List.setIfInBounds_toArray, List.set_cons_zero, List.set_cons_succ, Nat.reduceAdd];exact rfl
  case st1 =>
   intro hctx;refine JC.p hctx ?_;refine JC.u (.bool (decide ((-(2 * (k : Int) + (r : Int))) < (0)))) (congrArg Value.bool (decide_eq_true (show ((-(2 * (k : Int) + (r : Int)) : Int) < 0) from HN.out))) hctx ?_;exact Ja.Steps.nil
  intro vals w1 hq1 hall;have hG1 := hG0.trans hq1;have hR1 := hR0.q hq1;clear hG0 hR0;have f5 : vals 1 = .bool true := hall 1 (by decide);rw [f5];clear f5;clear hall;go_upto_region 2 with fail
  refine bJ (F := ?F2) ([.eq (.int .i64 (-(2 * (k : Int) + (r : Int)))), .eq (.int .i64 (-(k : Int))), .eq (.int .i64 (-(k : Int)))] : List Vs) ?hF2 ?st2 ?en2
  case hF2 =>
   intro vals;simp only [Ja.fillL, Act.put, List.setIfInBounds_toArray, List.set_cons_zero, List.set_cons_succ, Nat.reduceAdd];exact rfl
  case st2 =>
   intro hctx;refine JC.p hctx ?_;refine JC.o hctx ?_ ?_
   ·intro L vals W hL hJ hd K hK;have d0 : vals 0 = .int .i64 (-(2 * (k : Int) + (r : Int))) := hd 0 (by kernel_rfl);generalize vals 0 = u0 at d0 hK ⊢;subst d0;go_simp
    rw [aGN Hr.out Hk.out];exact hK.out (.int .i64 (-(k : Int))) _ _ (by kernel_rfl) rfl (Q.refl _)
   refine JC.p hctx ?_;exact Ja.Steps.nil
  intro vals w2 hq2 hall;have hG2 := hG1.trans hq2;have hR2 := hR1.q hq2;clear hG1 hR1;have f3 : vals 2 = .int .i64 (-(k : Int)) := hall 2 (by decide);rw [f3];clear f3;clear hall;go_upto_region 3 with fail
  have N1 : Hid (dg B30 (k) ≤ 3) := Lib.hid (by have h99 := dg3 (Nat.lt_trans Hk.out (by decide)); skip; omega);have N2 : Hid (dg B30 ((k) + (k)) ≤ 7) := Lib.hid (by have h99 := aGb (k) (k); skip; have h50 := N1.out; have h51 := N1.out; omega);have B3 : Hid (dg B30 (k) + 1 ≤ LIM) := Lib.hid (by have h50 := N1.out; skip; rw [aA] at *; omega);have B4 : Hid (dg B30 (k) + 1 ≤ LIM) := Lib.hid (by have h50 := N1.out; skip; rw [aA] at *; omega);have N5 : Hid (dg B30 (r) ≤ 3) := Lib.hid (by have h99 := dg3 (Nat.lt_trans Hr.out (by decide)); skip; omega);have N6 : Hid (dg B30 (((k) + (k)) + (r)) ≤ 11) := Lib.hid (by have h99 := aGb ((k) + (k)) (r); skip; have h50 := N2.out; have h51 := N5.out; omega);have B7 : Hid (dg B30 ((k) + (k)) + 1 ≤ LIM) := Lib.hid (by have h50 := N2.out; skip; rw [aA] at *; omega);have B8 : Hid (dg B30 (r) + 1 ≤ LIM) := Lib.hid (by have h50 := N5.out; skip; rw [aA] at *; omega);have B9 : Hid (31 * dg B30 (((k) + (k)) + (r)) + 80 ≤ LIM) := Lib.hid (by have h50 := N6.out; skip; rw [aA] at *; omega);have N10 : Hid (dg B30 (1) ≤ 1) := Lib.hid (by have h99 := qM; skip; omega);have B11 : Hid (31 * dg B30 (1) + 80 ≤ LIM) := Lib.hid (by have h50 := N10.out; skip; rw [aA] at *; omega);have hAt2 : At0 w [⟨none, w.heap.size, 32, [.i, .s, .s], .agg #[.int .i64 0, .slice none 0 0, .slice none 0 0], 16, 15⟩] [] w2 := At0.of hG2 ⟨bA hR2 (by omega), trivial⟩ (by simp [dO]) trivial;clear hG2 hR2;refine cK (F := ?F3) w ([.eq (.int .i64 (-(k : Int))), .eq (.int .i64 ((k : Int))), .gen (lZ (k)), .eq (.int .i64 (-(k : Int))), .eq (.int .i64 ((k : Int))), .gen (lZ (k)), .gen (lZ ((k) + (k))), .eq (.int .i64 (-(2 * (k : Int) + (r : Int)))), .eq (.int .i64 (-(k : Int))), .eq (.int .i64 (-(2 * (k : Int)))), .eq (.int .i64 (-(r : Int))), .eq (.int .i64 ((r : Int))), .gen (lZ (r)), .gen (lZ (((k) + (k)) + (r))), .gen (lZ (1)), .gen (pRn (((-(2 * (k : Int) + (r : Int)) : Int) : Rat))), .any] : List Vs) _ _ (by kernel_rfl) hAt2 ?hF3 ?st3 ?en3
  case hF3 =>
   intro vals;simp only [Ja.fillL, Act.put, List.setIfInBounds_toArray, List.set_cons_zero, List.set_cons_succ, Nat.reduceAdd];exact rfl
  case st3 =>
   clear hAt2;intro hctx;refine JC.p hctx ?_;refine JC.u (.int .i64 (IntKind.i64.wrap (0 - (-(k : Int))))) (by exact congrArg (Value.int .i64) (aGC Hk.out)) hctx ?_;refine JC.ca (fun vals W hN hd hk => (aGl ((k : Int)) (k) W (rfl) (Nat.lt_trans Hk.out (by decide))).mono (by rintro e W9 ⟨r, rfl, hr, hq9, -⟩; exact ⟨r, rfl, hr, hq9⟩)) hctx ?_;refine JC.p hctx ?_;refine JC.u (.int .i64 (IntKind.i64.wrap (0 - (-(k : Int))))) (by exact congrArg (Value.int .i64) (aGC Hk.out)) hctx ?_;refine JC.ca (fun vals W hN hd hk => (aGl ((k : Int)) (k) W (rfl) (Nat.lt_trans Hk.out (by decide))).mono (by rintro e W9 ⟨r, rfl, hr, hq9, -⟩; exact ⟨r, rfl, hr, hq9⟩)) hctx ?_;refine JC.ca (fun vals W hN hd hk => (aFu _ _ (k) (k) W (hd 2 (by kernel_rfl)) (hd 5 (by kernel_rfl)) B3.out B4.out).mono (by rintro e W9 ⟨r, rfl, hr, hq9, -⟩; exact ⟨r, rfl, hr, hq9⟩)) hctx ?_;refine JC.p hctx ?_;refine JC.p hctx ?_;refine JC.u (.int .i64 (IntKind.i64.wrap ((2) * (-(k : Int))))) (by exact congrArg (Value.int .i64) (aGS Hk.out)) hctx ?_;refine JC.u (.int .i64 (IntKind.i64.wrap ((-(2 * (k : Int) + (r : Int))) - (-(2 * (k : Int)))))) (by exact congrArg (Value.int .i64) (aGT Hr.out)) hctx ?_;refine JC.u (.int .i64 (IntKind.i64.wrap (0 - (-(r : Int))))) (by exact congrArg (Value.int .i64) (aGU Hr.out)) hctx ?_;refine JC.ca (fun vals W hN hd hk => (aGl ((r : Int)) (r) W (rfl) (Nat.lt_trans Hr.out (by decide))).mono (by rintro e W9 ⟨r, rfl, hr, hq9, -⟩; exact ⟨r, rfl, hr, hq9⟩)) hctx ?_;refine JC.ca (fun vals W hN hd hk => (aFu _ _ ((k) + (k)) (r) W (hd 6 (by kernel_rfl)) (hd 12 (by kernel_rfl)) B7.out B8.out).mono (by rintro e W9 ⟨r, rfl, hr, hq9, -⟩; exact ⟨r, rfl, hr, hq9⟩)) hctx ?_;refine JC.ca (fun vals W hN hd hk => (xJ W).mono (by rintro e W9 ⟨r, rfl, hr, hq9, -⟩; exact ⟨r, rfl, hr, hq9⟩)) hctx ?_;refine JC.ca (fun vals W hN hd hk => (zU (-1) _ _ (((k) + (k)) + (r)) (1) (((-(2 * (k : Int) + (r : Int)) : Int) : Rat)) W (hd 13 (by kernel_rfl)) (hd 14 (by kernel_rfl)) (fun _ => Nat.one_pos) (Or.inl rfl) (aGM k r) (fun h9 => by omega) B9.out B11.out).mono (by rintro e W9 ⟨r, rfl, hr, hq9⟩; exact ⟨r, rfl, hr, hq9⟩)) hctx ?_;refine JC.s3 (n := 0) rfl fRn hctx ?_;exact Ja.Steps.nil
  intro L vals w3 hall hJ;clear hAt2;have hG3 := hJ.q;obtain ⟨AR1, kR1, cR1, AR2, kR2, cR2, hR3, nR3⟩ := aFQ (g := w.heap.size) (t := 32) (hJ.stored 0 rfl rfl (hall 16 (by decide))) (show Rq w3 (vals 15) (((-(2 * (k : Int) + (r : Int)) : Int) : Rat)) from hJ.s 15 (hall 15 (by decide)));clear hall hJ;go_wp2_with fail
  exact bQ hR3 (⟨_, rfl, nR3, hG3⟩)
 ·have HN := Lib.hid hN; clear hN;obtain ⟨N, rfl⟩ : ∃ N : Nat, n = (N : Int) := ⟨n.toNat, by have := HN.out; omega⟩
  have hN9 : N < 9223372036854775808 := (by omega);have Hn := Lib.hid hN9; clear hN9 h1 h2;refine bJ (F := ?F4) ([.eq (.int .i64 ((N : Int))), .eq (.bool false)] : List Vs) ?hF4 ?st4 ?en4
  case hF4 =>
   intro vals;simp only [Ja.fillL, Act.put, List.setIfInBounds_toArray, List.set_cons_zero, List.set_cons_succ, Nat.reduceAdd];exact rfl
  case st4 =>
   intro hctx;refine JC.p hctx ?_;refine JC.u (.bool (decide (((N : Int)) < (0)))) (congrArg Value.bool (decide_eq_false (show ¬ (((N : Int) : Int) < 0) from HN.out))) hctx ?_;exact Ja.Steps.nil
  intro vals w1 hq1 hall;have hG1 := hG0.trans hq1;have hR1 := hR0.q hq1;clear hG0 hR0;have f5 : vals 1 = .bool false := hall 1 (by decide);rw [f5];clear f5;clear hall;go_upto_region 4 with fail
  have N1 : Hid (dg B30 (N) ≤ 3) := Lib.hid (by have h99 := dg3 (Hn.out); skip; omega);have B2 : Hid (31 * dg B30 (N) + 80 ≤ LIM) := Lib.hid (by have h50 := N1.out; skip; rw [aA] at *; omega);have N3 : Hid (dg B30 (1) ≤ 1) := Lib.hid (by have h99 := qM; skip; omega);have B4 : Hid (31 * dg B30 (1) + 80 ≤ LIM) := Lib.hid (by have h50 := N3.out; skip; rw [aA] at *; omega);have hAt1 : At0 w [⟨none, w.heap.size, 32, [.i, .s, .s], .agg #[.int .i64 0, .slice none 0 0, .slice none 0 0], 4, 3⟩] [] w1 := At0.of hG1 ⟨bA hR1 (by omega), trivial⟩ (by simp [dO]) trivial;clear hG1 hR1;refine cK (F := ?F5) w ([.eq (.int .i64 ((N : Int))), .gen (lZ (N)), .gen (lZ (1)), .gen (pRn (((N : Int) : Rat))), .any] : List Vs) _ _ (by kernel_rfl) hAt1 ?hF5 ?st5 ?en5
  case hF5 =>
   intro vals;simp only [Ja.fillL, Act.put, List.setIfInBounds_toArray, List.set_cons_zero, List.set_cons_succ, Nat.reduceAdd];exact rfl
  case st5 =>
   clear hAt1;intro hctx;refine JC.p hctx ?_;refine JC.ca (fun vals W hN hd hk => (aGl ((N : Int)) (N) W (rfl) (Hn.out)).mono (by rintro e W9 ⟨r, rfl, hr, hq9, -⟩; exact ⟨r, rfl, hr, hq9⟩)) hctx ?_;refine JC.ca (fun vals W hN hd hk => (xJ W).mono (by rintro e W9 ⟨r, rfl, hr, hq9, -⟩; exact ⟨r, rfl, hr, hq9⟩)) hctx ?_;refine JC.ca (fun vals W hN hd hk => (zU (1) _ _ (N) (1) (((N : Int) : Rat)) W (hd 1 (by kernel_rfl)) (hd 2 (by kernel_rfl)) (fun _ => Nat.one_pos) (Or.inr (Or.inr rfl)) (aGL N) (fun h9 => by omega) B2.out B4.out).mono (by rintro e W9 ⟨r, rfl, hr, hq9⟩; exact ⟨r, rfl, hr, hq9⟩)) hctx ?_;refine JC.s3 (n := 0) rfl fRn hctx ?_;exact Ja.Steps.nil
  intro L vals w2 hall hJ;clear hAt1;have hG2 := hJ.q;obtain ⟨AR1, kR1, cR1, AR2, kR2, cR2, hR2, nR2⟩ := aFQ (g := w.heap.size) (t := 32) (hJ.stored 0 rfl rfl (hall 4 (by decide))) (show Rq w2 (vals 3) (((N : Int) : Rat)) from hJ.s 3 (hall 3 (by decide)));clear hall hJ;go_wp2_with fail
  exact bQ hR2 (⟨_, rfl, nR2, hG2⟩)
theorem aGO (x y : Rat) : sz (mI x y).2 ≤ sz x + sz y + 2 := by
 unfold mI;split
 ·exact Nat.le_trans aAJ (Nat.le_add_left _ _)
 ·have h1 := qC x y⁻¹;have h2 := aEZ y;show sz (x * y⁻¹) ≤ _;omega
theorem JC.before2 {w0 : World} {ops : Array Oper} {l : List Vs} {cs : List Ce} {ks : List (Value × Vs)} {L : Nat → Bool} {vals : Nat → Value} {W : World} (h : JC w0 ops l cs ks L vals W) (n i : Nat) {x : Ce} (hx : cs[n]? = some x) (hal : x.al = none) (hi : L i = false) (h1 : waits ops x.st i = true) : NbV W x.g x.t x.ck x.row := by
 refine h.at n hx hal ?_;cases hs : L x.st with
 | false => rfl
 | true =>
   have := h.cl _ _ hs h1;rw [hi] at this; cases this
theorem aGV : (((1) : Int) : Rat) = aS ((0 : Nat) : Int) := aB3.symm
theorem aGW (i : Nat) : (aS (i : Int)) * ((((10) : Int) : Rat)) = aS ((i + 1 : Nat) : Int) := (aGB i).symm
theorem aGx {n : Nat} : mI (((1) : Int) : Rat) (aS (n : Int)) = (0, aS (-(n : Int))) := by
 have h0 : aS (n : Int) ≠ 0 := fun h => by have := yK (n : Int); rw [h] at this; exact absurd this (by decide)
 have h1 := aDh (n : Int);unfold mI;rw [if_neg h0, show (((1) : Int) : Rat) = 1 from rfl, Rat.one_mul];congr 1;grind
set_option maxRecDepth 100000 in
theorem aGX (n : Nat) (w : World) (hn : n ≤ 1000) :
  Calls Tryz.prog 98 #[.int .i64 (n : Int)] w fun e w' => ∃ r, e = .returned r ∧ Rq w' r (aS (n : Int)) ∧ Q w w' := by
 obtain ⟨w0, hW, hG0, hR0⟩ := yR w 32 [.int .i64 0, .slice none 0 0, .slice none 0 0];go_enter Tryz.func98, Tryz.ntmps98
 go_upto_region 1 with fail
 clear hW;have HN := Lib.hid hn; clear hn;have hs9 := hR0.lt;have Z1 : Hid (sz ((((1) : Int) : Rat)) ≤ 2) := Lib.hid (by have h99 := yO 1 (by decide); skip; omega);have hAt0 : At0 w0 [⟨some 1, 0, 32, [.i, .s, .s], .agg #[.int .i64 0, .slice none 0 0, .slice none 0 0], 2, 0⟩] [] w0 := At0.of (Q.refl _) ⟨fun h => (by cases h), trivial⟩ (by simp [dO]) trivial;refine cK (F := ?F1) w0 ([.gen (pRn (aS ((0 : Nat) : Int))), .any, .any] : List Vs) _ _ (by kernel_rfl) hAt0 ?hF1 ?st1 ?en1
 case hF1 =>
  intro vals;simp only [Ja.fillL, Act.put, List.setIfInBounds_toArray, List.set_cons_zero, List.set_cons_succ, Nat.reduceAdd];exact rfl
 case st1 =>
  clear hAt0;intro hctx;refine JC.ca (fun vals W hN hd hk => (aGs (1) W (by decide) (by decide)).mono (by rintro e W9 ⟨r, rfl, hr, hq9⟩; exact ⟨r, rfl, (by have h8 := hr; rw [show ((((1) : Int) : Rat) : Rat) = aS ((0 : Nat) : Int) from aGV] at h8; exact h8), hq9⟩)) hctx ?_;refine Ja.Steps.cons (JC.alloc (n := 0) (cells := [.int .i64 0, .slice none 0 0, .slice none 0 0].toArray) (t := 32) hctx (by kernel_rfl) (by rfl) (by kernel_rfl) (by rfl) (by rfl) (by kernel_rfl) (by rfl) (fun W => NbV.mk (t := 32) (ck := [.i, .s, .s]) (row := [.int .i64 0, .slice none 0 0, .slice none 0 0]) ⟨⟨_, rfl⟩, ⟨_, _, _, rfl⟩, ⟨_, _, _, rfl⟩, trivial⟩ (Bx.new W _ _)) ?_) ?_
  ·intro vals W K hK;go_simp
   exact hK.out _ (by kernel_rfl)
  refine JC.s3 (n := 0) rfl fRn hctx ?_;exact Ja.Steps.nil
 intro L vals w1 hall hJ;clear hAt0;have hq1 := hJ.q;have hG1 := hG0.trans hq1;have hR1 := hR0.q hq1;clear hG0 hR0;obtain ⟨gO, eO, geO, qO⟩ := hJ.fresh 0 rfl rfl (hall 1 (by decide)) (hall 2 (by decide));obtain ⟨AO1, kO1, cO1, AO2, kO2, cO2, hO1, nO1⟩ := aFQ (g := gO) (t := 32) qO (show Rq w1 (vals 0) (aS ((0 : Nat) : Int)) from hJ.s 0 (hall 0 (by decide)));clear qO;rw [eO];clear eO;clear hall hJ;go_upto_region 2 with fail
 refine bJ (F := ?F2) ([.eq (.int .i64 (0))] : List Vs) ?hF2 ?st2 ?en2
 case hF2 =>
  intro vals;simp only [Ja.fillL, Act.put, List.setIfInBounds_toArray, List.set_cons_zero, List.set_cons_succ];exact rfl
 case st2 =>
  intro hctx;refine JC.p hctx ?_;exact Ja.Steps.nil
 intro vals w2 hq2 hall;have hG2 := hG1.trans hq2;have hR2 := hR1.q hq2;have hO2 := hO1.q hq2;have nO2 := Rq.q nO1 hq2;clear hG1 hR1 hO1 nO1;have f4 : vals 0 = .int .i64 (0) := hall 0 (by decide);rw [f4];clear f4;clear hall;go_wp2_with fail
 go_loopw [4] (fun iv w1 => ∃ i : Nat, iv = .int .i64 (i : Int) ∧ i ≤ n ∧ Q w w1 ∧ Bx w1 (w.heap.size) 32 [.int .i64 0, .slice none 0 0, .slice none 0 0] ∧ ∃ AO1 kO1 cO1 AO2 kO2 cO2, Bx w1 (gO) 32 [.int .i64 (sn (aS (i : Int))), .slice AO1 kO1 cO1, .slice AO2 kO2 cO2] ∧ Rq w1 (.agg #[.int .i64 (sn (aS (i : Int))), .slice AO1 kO1 cO1, .slice AO2 kO2 cO2]) (aS (i : Int))) (fun iv _ => n - (intOf iv).toNat)
 case atStart => exact ⟨0, rfl, Nat.zero_le _, hG2, hR2, _, _, _, _, _, _, hO2, nO2⟩
 case round =>
  obtain ⟨i, rfl, hi, hG3, hR3, AO1, kO1, cO1, AO2, kO2, cO2, hO3, nO3⟩ := hrel;generalize wr = w3 at *
  clear hG2 hR2 hO2 nO2;have HI := Lib.hid hi; clear hi;have Z2 : Hid (sz (aS (i : Int)) ≤ 1002) := Lib.hid (by have h99 := qD (i : Int); have := HI.out; have := HN.out; skip; omega);by_cases hp : i < n
  ·have HP := Lib.hid hp; clear hp;go_upto_region 3 with fail
   refine bJ (F := ?F3) ([.eq (.int .i64 ((i : Int))), .eq (.int .i64 ((n : Int))), .eq (.bool true), .eq (.bool true), .no, .no, .no, .no, .eq (.bool true)] : List Vs) ?hF3 ?st3 ?en3
   case hF3 =>
    intro vals;simp only [Ja.fillL, Act.put, List.setIfInBounds_toArray, List.set_cons_zero, List.set_cons_succ, Nat.reduceAdd];exact rfl
   case st3 =>
    intro hctx;refine JC.p hctx ?_;refine JC.p hctx ?_;refine JC.u (.bool (decide (((i : Int)) < ((n : Int))))) (congrArg Value.bool (decide_eq_true (show (((i : Int) : Int) < (n : Int)) from by have := HP.out; omega))) hctx ?_;refine JC.p hctx ?_;refine JC.n hctx ?_;refine JC.n hctx ?_;refine JC.n hctx ?_;refine JC.n hctx ?_;refine JC.p hctx ?_;exact Ja.Steps.nil
   intro vals w4 hq4 hall;have hG4 := hG3.trans hq4;have hR4 := hR3.q hq4;have hO4 := hO3.q hq4;have nO4 := Rq.q nO3 hq4;clear hG3 hR3 hO3 nO3;have f14 : vals 8 = .bool true := hall 8 (by decide);rw [f14];clear f14;clear hall;go_upto_region 5 with fail
   have Z3 : Hid (sz ((((10) : Int) : Rat)) ≤ 2) := Lib.hid (by have h99 := yO 10 (by decide); skip; omega);have Z4 : Hid (sz ((aS (i : Int)) * ((((10) : Int) : Rat))) ≤ 1004) := Lib.hid (by have h99 := qC (aS (i : Int)) ((((10) : Int) : Rat)); have h0 := Z2.out; have h1 := Z3.out; omega);have B5 : Hid (1000 * (sz (aS (i : Int)) + sz ((((10) : Int) : Rat))) + 10000 ≤ LIM) := Lib.hid (by have h0 := Z2.out; have h1 := Z3.out; rw [aA] at *; omega);have hAt4 : At0 w [⟨none, w.heap.size, 32, [.i, .s, .s], .agg #[.int .i64 0, .slice none 0 0, .slice none 0 0], 1000, 0⟩, ⟨none, gO, 32, [.i, .s, .s], .agg #[.int .i64 (sn (aS (i : Int))), .slice AO1 kO1 cO1, .slice AO2 kO2 cO2], 3, 2⟩] [(.agg #[.int .i64 (sn (aS (i : Int))), .slice AO1 kO1 cO1, .slice AO2 kO2 cO2], .gen (pRn (aS (i : Int))))] w4 := At0.of hG4 ⟨bA hR4 (by omega), bA hO4 (by omega), trivial⟩ (by (simp [dO] <;> omega)) ⟨nO4, trivial⟩;clear hG4 hR4 hO4 nO4;refine mE (F := ?F4) w ([.gen (pRn (aS (i : Int))), .gen (pRn ((((10) : Int) : Rat))), .gen (pRn (aS ((i + 1 : Nat) : Int))), .any] : List Vs) _ _ (by kernel_rfl) (by kernel_rfl) hAt4 ?hF4 ?st4 ?en4
   case hF4 =>
    intro vals;simp only [Ja.fillL, Act.put, List.setIfInBounds_toArray, List.set_cons_zero, List.set_cons_succ, Nat.reduceAdd];exact rfl
   case st4 =>
    clear hAt4;intro hctx;refine JC.r3 (off := 0) (row := [.int .i64 (sn (aS (i : Int))), .slice AO1 kO1 cO1, .slice AO2 kO2 cO2]) (fun _ _ _ hL hJ => hJ.before 1 0 rfl rfl hL (by kernel_rfl) (by kernel_rfl)) (fun _ _ _ hJ => (hJ.kept 0 rfl)) hctx ?_;refine JC.ca (fun vals W hN hd hk => (aGs (10) W (by decide) (by decide)).mono (by rintro e W9 ⟨r, rfl, hr, hq9⟩; exact ⟨r, rfl, hr, hq9⟩)) hctx ?_;refine JC.ca (fun vals W hN hd hk => (aGr _ _ (aS (i : Int)) ((((10) : Int) : Rat)) W (hd 0 (by kernel_rfl)) (hd 1 (by kernel_rfl)) B5.out).mono (by rintro e W9 ⟨r, rfl, hr, hq9⟩; exact ⟨r, rfl, (by have h8 := hr; rw [show ((aS (i : Int)) * ((((10) : Int) : Rat)) : Rat) = aS ((i + 1 : Nat) : Int) from aGW i] at h8; exact h8), hq9⟩)) hctx ?_;refine JC.s3 (n := 1) rfl fRn hctx ?_;exact Ja.Steps.nil
   intro L vals w5 hall hJ;clear hAt4;have hG5 := hJ.q;have hR5 : Bx w5 (w.heap.size) 32 [.int .i64 0, .slice none 0 0, .slice none 0 0] := NbV.out (hJ.still 0 rfl rfl (Nat.le_of_ble_eq_true (by kernel_rfl)));obtain ⟨AO1, kO1, cO1, AO2, kO2, cO2, hO5, nO5⟩ := aFQ (g := gO) (t := 32) (hJ.stored 1 rfl rfl (hall 3 (by decide))) (show Rq w5 (vals 2) (aS ((i + 1 : Nat) : Int)) from hJ.s 2 (hall 2 (by decide)));clear hall hJ;have hp1 := HP.out; have hn1 := HN.out;go_wp2_with fail
   exact ⟨⟨i + 1, rfl, by have := HP.out; omega, hG5, hR5, _, _, _, _, _, _, hO5, nO5⟩, by have := HP.out; simp [intOf]; omega⟩
  ·have hin : i = n := (by have := HI.out; omega);subst hin;clear hp;go_upto_region 3 with fail
   refine bJ (F := ?F5) ([.eq (.int .i64 ((i : Int))), .eq (.int .i64 ((i : Int))), .eq (.bool false), .eq (.bool false), .eq (.int .i64 ((i : Int))), .eq (.int .i64 ((i : Int))), .eq (.int .i64 (-(i : Int))), .eq (.bool false), .eq (.bool false)] : List Vs) ?hF5 ?st5 ?en5
   case hF5 =>
    intro vals;simp only [Ja.fillL, Act.put, List.setIfInBounds_toArray, List.set_cons_zero, List.set_cons_succ, Nat.reduceAdd];exact rfl
   case st5 =>
    intro hctx;refine JC.p hctx ?_;refine JC.p hctx ?_;refine JC.u (.bool (decide (((i : Int)) < ((i : Int))))) (congrArg Value.bool (decide_eq_false (show ¬ (((i : Int) : Int) < (i : Int)) from by omega))) hctx ?_;refine JC.p hctx ?_;refine JC.p hctx ?_;refine JC.p hctx ?_;refine JC.u (.int .i64 (IntKind.i64.wrap (0 - ((i : Int))))) (by exact congrArg (Value.int .i64) (show IntKind.i64.wrap (0 - ((i : Int))) = -(i : Int) from by rw [Int.zero_sub]; exact dA (by have := HN.out; omega) (by have := HN.out; omega))) hctx ?_;refine JC.u (.bool (decide (((i : Int)) < (-(i : Int))))) (congrArg Value.bool (decide_eq_false (show ¬ (((i : Int) : Int) < -(i : Int)) from by omega))) hctx ?_;refine JC.p hctx ?_;exact Ja.Steps.nil
   intro vals w4 hq4 hall;have hG4 := hG3.trans hq4;have hR4 := hR3.q hq4;have hO4 := hO3.q hq4;have nO4 := Rq.q nO3 hq4;clear hG3 hR3 hO3 nO3;have f14 : vals 8 = .bool false := hall 8 (by decide);rw [f14];clear f14;clear hall;go_upto_region 6 with fail
   refine bJ (F := ?F6) ([.eq (.int .i64 ((i : Int))), .eq (.bool false)] : List Vs) ?hF6 ?st6 ?en6
   case hF6 =>
    intro vals;simp only [Ja.fillL, Act.put, List.setIfInBounds_toArray, List.set_cons_zero, List.set_cons_succ, Nat.reduceAdd];exact rfl
   case st6 =>
    intro hctx;refine JC.p hctx ?_;refine JC.u (.bool (decide (((i : Int)) < (0)))) (congrArg Value.bool (decide_eq_false (show ¬ (((i : Int) : Int) < 0) from by omega))) hctx ?_;exact Ja.Steps.nil
   intro vals w5 hq5 hall;have hG5 := hG4.trans hq5;have hR5 := hR4.q hq5;have hO5 := hO4.q hq5;have nO5 := Rq.q nO4 hq5;clear hG4 hR4 hO4 nO4;have f21 : vals 1 = .bool false := hall 1 (by decide);rw [f21];clear f21;clear hall;go_upto_region 8 with fail
   have hAt5 : At0 w [⟨none, w.heap.size, 32, [.i, .s, .s], .agg #[.int .i64 0, .slice none 0 0, .slice none 0 0], 1, 0⟩, ⟨none, gO, 32, [.i, .s, .s], .agg #[.int .i64 (sn (aS (i : Int))), .slice AO1 kO1 cO1, .slice AO2 kO2 cO2], 1000, 0⟩] [(.agg #[.int .i64 (sn (aS (i : Int))), .slice AO1 kO1 cO1, .slice AO2 kO2 cO2], .gen (pRn (aS (i : Int))))] w5 := At0.of hG5 ⟨bA hR5 (by omega), bA hO5 (by omega), trivial⟩ (by (simp [dO] <;> omega)) ⟨nO5, trivial⟩;clear hG5 hR5 hO5 nO5;refine cK (F := ?F7) w ([.gen (pRn (aS (i : Int))), .any] : List Vs) _ _ (by kernel_rfl) hAt5 ?hF7 ?st7 ?en7
   case hF7 =>
    intro vals;simp only [Ja.fillL, Act.put, List.setIfInBounds_toArray, List.set_cons_zero, List.set_cons_succ];exact rfl
   case st7 =>
    clear hAt5;intro hctx;refine JC.r3 (off := 0) (row := [.int .i64 (sn (aS (i : Int))), .slice AO1 kO1 cO1, .slice AO2 kO2 cO2]) (fun _ _ _ hL hJ => hJ.still 1 rfl rfl (Nat.le_of_ble_eq_true (by kernel_rfl))) (fun _ _ _ hJ => (hJ.kept 0 rfl)) hctx ?_;refine JC.s3 (n := 0) rfl fRn hctx ?_;exact Ja.Steps.nil
   intro L vals w6 hall hJ;clear hAt5;have hG6 := hJ.q;obtain ⟨AR1, kR1, cR1, AR2, kR2, cR2, hR6, nR6⟩ := aFQ (g := w.heap.size) (t := 32) (hJ.stored 0 rfl rfl (hall 1 (by decide))) (show Rq w6 (vals 0) (aS (i : Int)) from hJ.s 0 (hall 0 (by decide)));clear hall hJ;go_wp2_with fail
   exact bQ hR6 (⟨_, rfl, nR6, hG6⟩)
set_option maxRecDepth 100000 in
theorem aGY (n : Nat) (w : World) (hn0 : 0 < n) (hn : n ≤ 1000) :
  Calls Tryz.prog 98 #[.int .i64 (-(n : Int))] w fun e w' => ∃ r, e = .returned r ∧ Rq w' r (aS (-(n : Int))) ∧ Q w w' := by
 obtain ⟨w0, hW, hG0, hR0⟩ := yR w 32 [.int .i64 0, .slice none 0 0, .slice none 0 0];go_enter Tryz.func98, Tryz.ntmps98
 go_upto_region 1 with fail
 clear hW;have HN := Lib.hid hn; clear hn;have HN0 := Lib.hid hn0; clear hn0;have hs9 := hR0.lt;have Z1 : Hid (sz ((((1) : Int) : Rat)) ≤ 2) := Lib.hid (by have h99 := yO 1 (by decide); skip; omega);have hAt0 : At0 w0 [⟨some 1, 0, 32, [.i, .s, .s], .agg #[.int .i64 0, .slice none 0 0, .slice none 0 0], 2, 0⟩] [] w0 := At0.of (Q.refl _) ⟨fun h => (by cases h), trivial⟩ (by simp [dO]) trivial;refine cK (F := ?F8) w0 ([.gen (pRn (aS ((0 : Nat) : Int))), .any, .any] : List Vs) _ _ (by kernel_rfl) hAt0 ?hF8 ?st8 ?en8
 case hF8 =>
  intro vals;simp only [Ja.fillL, Act.put, List.setIfInBounds_toArray, List.set_cons_zero, List.set_cons_succ, Nat.reduceAdd];exact rfl
 case st8 =>
  clear hAt0;intro hctx;refine JC.ca (fun vals W hN hd hk => (aGs (1) W (by decide) (by decide)).mono (by rintro e W9 ⟨r, rfl, hr, hq9⟩; exact ⟨r, rfl, (by have h8 := hr; rw [show ((((1) : Int) : Rat) : Rat) = aS ((0 : Nat) : Int) from aGV] at h8; exact h8), hq9⟩)) hctx ?_;refine Ja.Steps.cons (JC.alloc (n := 0) (cells := [.int .i64 0, .slice none 0 0, .slice none 0 0].toArray) (t := 32) hctx (by kernel_rfl) (by rfl) (by kernel_rfl) (by rfl) (by rfl) (by kernel_rfl) (by rfl) (fun W => NbV.mk (t := 32) (ck := [.i, .s, .s]) (row := [.int .i64 0, .slice none 0 0, .slice none 0 0]) ⟨⟨_, rfl⟩, ⟨_, _, _, rfl⟩, ⟨_, _, _, rfl⟩, trivial⟩ (Bx.new W _ _)) ?_) ?_
  ·intro vals W K hK;go_simp
   exact hK.out _ (by kernel_rfl)
  refine JC.s3 (n := 0) rfl fRn hctx ?_;exact Ja.Steps.nil
 intro L vals w1 hall hJ;clear hAt0;have hq1 := hJ.q;have hG1 := hG0.trans hq1;have hR1 := hR0.q hq1;clear hG0 hR0;obtain ⟨gO, eO, geO, qO⟩ := hJ.fresh 0 rfl rfl (hall 1 (by decide)) (hall 2 (by decide));obtain ⟨AO1, kO1, cO1, AO2, kO2, cO2, hO1, nO1⟩ := aFQ (g := gO) (t := 32) qO (show Rq w1 (vals 0) (aS ((0 : Nat) : Int)) from hJ.s 0 (hall 0 (by decide)));clear qO;rw [eO];clear eO;clear hall hJ;go_upto_region 2 with fail
 refine bJ (F := ?F9) ([.eq (.int .i64 (0))] : List Vs) ?hF9 ?st9 ?en9
 case hF9 =>
  intro vals;simp only [Ja.fillL, Act.put, List.setIfInBounds_toArray, List.set_cons_zero, List.set_cons_succ];exact rfl
 case st9 =>
  intro hctx;refine JC.p hctx ?_;exact Ja.Steps.nil
 intro vals w2 hq2 hall;have hG2 := hG1.trans hq2;have hR2 := hR1.q hq2;have hO2 := hO1.q hq2;have nO2 := Rq.q nO1 hq2;clear hG1 hR1 hO1 nO1;have f4 : vals 0 = .int .i64 (0) := hall 0 (by decide);rw [f4];clear f4;clear hall;go_wp2_with fail
 go_loopw [4] (fun iv w1 => ∃ i : Nat, iv = .int .i64 (i : Int) ∧ i ≤ n ∧ Q w w1 ∧ Bx w1 (w.heap.size) 32 [.int .i64 0, .slice none 0 0, .slice none 0 0] ∧ ∃ AO1 kO1 cO1 AO2 kO2 cO2, Bx w1 (gO) 32 [.int .i64 (sn (aS (i : Int))), .slice AO1 kO1 cO1, .slice AO2 kO2 cO2] ∧ Rq w1 (.agg #[.int .i64 (sn (aS (i : Int))), .slice AO1 kO1 cO1, .slice AO2 kO2 cO2]) (aS (i : Int))) (fun iv _ => n - (intOf iv).toNat)
 case atStart => exact ⟨0, rfl, Nat.zero_le _, hG2, hR2, _, _, _, _, _, _, hO2, nO2⟩
 case round =>
  obtain ⟨i, rfl, hi, hG3, hR3, AO1, kO1, cO1, AO2, kO2, cO2, hO3, nO3⟩ := hrel;generalize wr = w3 at *
  clear hG2 hR2 hO2 nO2;have HI := Lib.hid hi; clear hi;have Z2 : Hid (sz (aS (i : Int)) ≤ 1002) := Lib.hid (by have h99 := qD (i : Int); have := HI.out; have := HN.out; skip; omega);by_cases hp : i < n
  ·have HP := Lib.hid hp; clear hp;go_upto_region 3 with fail
   refine bJ (F := ?F10) ([.eq (.int .i64 ((i : Int))), .eq (.int .i64 (-(n : Int))), .eq (.bool false), .eq (.bool false), .eq (.int .i64 ((i : Int))), .eq (.int .i64 (-(n : Int))), .eq (.int .i64 ((n : Int))), .eq (.bool true), .eq (.bool true)] : List Vs) ?hF10 ?st10 ?en10
   case hF10 =>
    intro vals;simp only [Ja.fillL, Act.put, List.setIfInBounds_toArray, List.set_cons_zero, List.set_cons_succ, Nat.reduceAdd];exact rfl
   case st10 =>
    intro hctx;refine JC.p hctx ?_;refine JC.p hctx ?_;refine JC.u (.bool (decide (((i : Int)) < (-(n : Int))))) (congrArg Value.bool (decide_eq_false (show ¬ (((i : Int) : Int) < -(n : Int)) from by have := HN0.out; omega))) hctx ?_;refine JC.p hctx ?_;refine JC.p hctx ?_;refine JC.p hctx ?_;refine JC.u (.int .i64 (IntKind.i64.wrap (0 - (-(n : Int))))) (by exact congrArg (Value.int .i64) (show IntKind.i64.wrap (0 - (-(n : Int))) = (n : Int) from by rw [Int.zero_sub, Int.neg_neg]; exact dA (by have := HN.out; omega) (by have := HN.out; omega))) hctx ?_;refine JC.u (.bool (decide (((i : Int)) < ((n : Int))))) (congrArg Value.bool (decide_eq_true (show (((i : Int) : Int) < (n : Int)) from by have := HP.out; omega))) hctx ?_;refine JC.p hctx ?_;exact Ja.Steps.nil
   intro vals w4 hq4 hall;have hG4 := hG3.trans hq4;have hR4 := hR3.q hq4;have hO4 := hO3.q hq4;have nO4 := Rq.q nO3 hq4;clear hG3 hR3 hO3 nO3;have f14 : vals 8 = .bool true := hall 8 (by decide);rw [f14];clear f14;clear hall;go_upto_region 5 with fail
   have Z3 : Hid (sz ((((10) : Int) : Rat)) ≤ 2) := Lib.hid (by have h99 := yO 10 (by decide); skip; omega);have Z4 : Hid (sz ((aS (i : Int)) * ((((10) : Int) : Rat))) ≤ 1004) := Lib.hid (by have h99 := qC (aS (i : Int)) ((((10) : Int) : Rat)); have h0 := Z2.out; have h1 := Z3.out; omega);have B5 : Hid (1000 * (sz (aS (i : Int)) + sz ((((10) : Int) : Rat))) + 10000 ≤ LIM) := Lib.hid (by have h0 := Z2.out; have h1 := Z3.out; rw [aA] at *; omega);have hAt4 : At0 w [⟨none, w.heap.size, 32, [.i, .s, .s], .agg #[.int .i64 0, .slice none 0 0, .slice none 0 0], 1000, 0⟩, ⟨none, gO, 32, [.i, .s, .s], .agg #[.int .i64 (sn (aS (i : Int))), .slice AO1 kO1 cO1, .slice AO2 kO2 cO2], 3, 2⟩] [(.agg #[.int .i64 (sn (aS (i : Int))), .slice AO1 kO1 cO1, .slice AO2 kO2 cO2], .gen (pRn (aS (i : Int))))] w4 := At0.of hG4 ⟨bA hR4 (by omega), bA hO4 (by omega), trivial⟩ (by (simp [dO] <;> omega)) ⟨nO4, trivial⟩;clear hG4 hR4 hO4 nO4;refine mE (F := ?F11) w ([.gen (pRn (aS (i : Int))), .gen (pRn ((((10) : Int) : Rat))), .gen (pRn (aS ((i + 1 : Nat) : Int))), .any] : List Vs) _ _ (by kernel_rfl) (by kernel_rfl) hAt4 ?hF11 ?st11 ?en11
   case hF11 =>
    intro vals;simp only [Ja.fillL, Act.put, List.setIfInBounds_toArray, List.set_cons_zero, List.set_cons_succ, Nat.reduceAdd];exact rfl
   case st11 =>
    clear hAt4;intro hctx;refine JC.r3 (off := 0) (row := [.int .i64 (sn (aS (i : Int))), .slice AO1 kO1 cO1, .slice AO2 kO2 cO2]) (fun _ _ _ hL hJ => hJ.before 1 0 rfl rfl hL (by kernel_rfl) (by kernel_rfl)) (fun _ _ _ hJ => (hJ.kept 0 rfl)) hctx ?_;refine JC.ca (fun vals W hN hd hk => (aGs (10) W (by decide) (by decide)).mono (by rintro e W9 ⟨r, rfl, hr, hq9⟩; exact ⟨r, rfl, hr, hq9⟩)) hctx ?_;refine JC.ca (fun vals W hN hd hk => (aGr _ _ (aS (i : Int)) ((((10) : Int) : Rat)) W (hd 0 (by kernel_rfl)) (hd 1 (by kernel_rfl)) B5.out).mono (by rintro e W9 ⟨r, rfl, hr, hq9⟩; exact ⟨r, rfl, (by have h8 := hr; rw [show ((aS (i : Int)) * ((((10) : Int) : Rat)) : Rat) = aS ((i + 1 : Nat) : Int) from aGW i] at h8; exact h8), hq9⟩)) hctx ?_;refine JC.s3 (n := 1) rfl fRn hctx ?_;exact Ja.Steps.nil
   intro L vals w5 hall hJ;clear hAt4;have hG5 := hJ.q;have hR5 : Bx w5 (w.heap.size) 32 [.int .i64 0, .slice none 0 0, .slice none 0 0] := NbV.out (hJ.still 0 rfl rfl (Nat.le_of_ble_eq_true (by kernel_rfl)));obtain ⟨AO1, kO1, cO1, AO2, kO2, cO2, hO5, nO5⟩ := aFQ (g := gO) (t := 32) (hJ.stored 1 rfl rfl (hall 3 (by decide))) (show Rq w5 (vals 2) (aS ((i + 1 : Nat) : Int)) from hJ.s 2 (hall 2 (by decide)));clear hall hJ;have hp1 := HP.out; have hn1 := HN.out;go_wp2_with fail
   exact ⟨⟨i + 1, rfl, by have := HP.out; omega, hG5, hR5, _, _, _, _, _, _, hO5, nO5⟩, by have := HP.out; simp [intOf]; omega⟩
  ·have hin : i = n := (by have := HI.out; omega);subst hin;clear hp;go_upto_region 3 with fail
   refine bJ (F := ?F12) ([.eq (.int .i64 ((i : Int))), .eq (.int .i64 (-(i : Int))), .eq (.bool false), .eq (.bool false), .eq (.int .i64 ((i : Int))), .eq (.int .i64 (-(i : Int))), .eq (.int .i64 ((i : Int))), .eq (.bool false), .eq (.bool false)] : List Vs) ?hF12 ?st12 ?en12
   case hF12 =>
    intro vals;simp only [Ja.fillL, Act.put, List.setIfInBounds_toArray, List.set_cons_zero, List.set_cons_succ, Nat.reduceAdd];exact rfl
   case st12 =>
    intro hctx;refine JC.p hctx ?_;refine JC.p hctx ?_;refine JC.u (.bool (decide (((i : Int)) < (-(i : Int))))) (congrArg Value.bool (decide_eq_false (show ¬ (((i : Int) : Int) < -(i : Int)) from by have := HN0.out; omega))) hctx ?_;refine JC.p hctx ?_;refine JC.p hctx ?_;refine JC.p hctx ?_;refine JC.u (.int .i64 (IntKind.i64.wrap (0 - (-(i : Int))))) (by exact congrArg (Value.int .i64) (show IntKind.i64.wrap (0 - (-(i : Int))) = (i : Int) from by rw [Int.zero_sub, Int.neg_neg]; exact dA (by have := HN.out; omega) (by have := HN.out; omega))) hctx ?_;refine JC.u (.bool (decide (((i : Int)) < ((i : Int))))) (congrArg Value.bool (decide_eq_false (show ¬ (((i : Int) : Int) < (i : Int)) from by omega))) hctx ?_;refine JC.p hctx ?_;exact Ja.Steps.nil
   intro vals w4 hq4 hall;have hG4 := hG3.trans hq4;have hR4 := hR3.q hq4;have hO4 := hO3.q hq4;have nO4 := Rq.q nO3 hq4;clear hG3 hR3 hO3 nO3;have f14 : vals 8 = .bool false := hall 8 (by decide);rw [f14];clear f14;clear hall;go_upto_region 6 with fail
   refine bJ (F := ?F13) ([.eq (.int .i64 (-(i : Int))), .eq (.bool true)] : List Vs) ?hF13 ?st13 ?en13
   case hF13 =>
    intro vals;simp only [Ja.fillL, Act.put, List.setIfInBounds_toArray, List.set_cons_zero, List.set_cons_succ, Nat.reduceAdd];exact rfl
   case st13 =>
    intro hctx;refine JC.p hctx ?_;refine JC.u (.bool (decide ((-(i : Int)) < (0)))) (congrArg Value.bool (decide_eq_true (show ((-(i : Int) : Int) < 0) from by have := HN0.out; omega))) hctx ?_;exact Ja.Steps.nil
   intro vals w5 hq5 hall;have hG5 := hG4.trans hq5;have hR5 := hR4.q hq5;have hO5 := hO4.q hq5;have nO5 := Rq.q nO4 hq5;clear hG4 hR4 hO4 nO4;have f21 : vals 1 = .bool true := hall 1 (by decide);rw [f21];clear f21;clear hall;go_upto_region 7 with fail
   have Z3 : Hid (sz ((mI ((((1) : Int) : Rat)) (aS (i : Int))).2) ≤ 1006) := Lib.hid (by have h99 := aGO ((((1) : Int) : Rat)) (aS (i : Int)); have h0 := Z1.out; have h1 := Z2.out; omega);have B4 : Hid (1000 * (sz ((((1) : Int) : Rat)) + sz (aS (i : Int))) + 20000 ≤ LIM) := Lib.hid (by have h0 := Z1.out; have h1 := Z2.out; rw [aA] at *; omega);have hAt5 : At0 w [⟨none, w.heap.size, 32, [.i, .s, .s], .agg #[.int .i64 0, .slice none 0 0, .slice none 0 0], 1000, 0⟩, ⟨none, gO, 32, [.i, .s, .s], .agg #[.int .i64 (sn (aS (i : Int))), .slice AO1 kO1 cO1, .slice AO2 kO2 cO2], 6, 4⟩] [(.agg #[.int .i64 (sn (aS (i : Int))), .slice AO1 kO1 cO1, .slice AO2 kO2 cO2], .gen (pRn (aS (i : Int))))] w5 := At0.of hG5 ⟨bA hR5 (by omega), bA hO5 (by omega), trivial⟩ (by (simp [dO] <;> omega)) ⟨nO5, trivial⟩;clear hG5 hR5 hO5 nO5;refine mE (F := ?F14) w ([.gen (pRn ((((1) : Int) : Rat))), .gen (pRn (aS (i : Int))), .gen (pT2 (pRn (aS (-(i : Int)))) (pEq (.int .i64 (0)))), .gen (pT2 (pRn (aS (-(i : Int)))) (pEq (.int .i64 (0)))), .gen (pRn (aS (-(i : Int)))), .eq (.int .i64 (0)), .any] : List Vs) _ _ (by kernel_rfl) (by kernel_rfl) hAt5 ?hF14 ?st14 ?en14
   case hF14 =>
    intro vals;simp only [Ja.fillL, Act.put, List.setIfInBounds_toArray, List.set_cons_zero, List.set_cons_succ, Nat.reduceAdd];exact rfl
   case st14 =>
    clear hAt5;intro hctx;refine JC.ca (fun vals W hN hd hk => (aGs (1) W (by decide) (by decide)).mono (by rintro e W9 ⟨r, rfl, hr, hq9⟩; exact ⟨r, rfl, hr, hq9⟩)) hctx ?_;refine JC.r3 (off := 0) (row := [.int .i64 (sn (aS (i : Int))), .slice AO1 kO1 cO1, .slice AO2 kO2 cO2]) (fun _ _ _ hL hJ => hJ.before2 1 1 rfl rfl hL (by kernel_rfl)) (fun _ _ _ hJ => (hJ.kept 0 rfl)) hctx ?_;refine JC.ca (fun vals W hN hd hk => (aG1 _ _ ((((1) : Int) : Rat)) (aS (i : Int)) W (hd 0 (by kernel_rfl)) (hd 1 (by kernel_rfl)) B4.out).mono (by rintro e W9 ⟨r, rfl, hr, hq9⟩; exact ⟨(.tuple #[r, .int .i64 ((mI ((((1) : Int) : Rat)) (aS (i : Int))).1)]), rfl, ⟨_, _, rfl, (by have h8 := hr; rw [aGx] at h8; exact h8), congrArg (Value.int .i64) (by rw [aGx])⟩, hq9⟩)) hctx ?_;refine JC.m 2 hctx ?_;refine JC.o hctx ?_ ?_
    ·intro L vals W hL hJ hd K hK;have d3 : (pT2 (pRn (aS (-(i : Int)))) (pEq (.int .i64 (0)))).p (vals 3) W := hd 3 (by kernel_rfl);generalize vals 3 = u3 at d3 hK ⊢;obtain ⟨e0, e1, rfl, he0, he1⟩ := d3;go_simp
     exact hK.out (e0) _ _ (by kernel_rfl) he0 (Q.refl _)
    refine JC.o hctx ?_ ?_
    ·intro L vals W hL hJ hd K hK;have d3 : (pT2 (pRn (aS (-(i : Int)))) (pEq (.int .i64 (0)))).p (vals 3) W := hd 3 (by kernel_rfl);generalize vals 3 = u3 at d3 hK ⊢;obtain ⟨e0, e1, rfl, he0, he1⟩ := d3;obtain rfl : e1 = .int .i64 (0) := he1;go_simp
     exact hK.out (.int .i64 (0)) _ _ (by kernel_rfl) rfl (Q.refl _)
    refine JC.s3 (n := 1) rfl fRn hctx ?_;exact Ja.Steps.nil
   intro L vals w6 hall hJ;clear hAt5;have hG6 := hJ.q;have hR6 : Bx w6 (w.heap.size) 32 [.int .i64 0, .slice none 0 0, .slice none 0 0] := NbV.out (hJ.still 0 rfl rfl (Nat.le_of_ble_eq_true (by kernel_rfl)));obtain ⟨AO1, kO1, cO1, AO2, kO2, cO2, hO6, nO6⟩ := aFQ (g := gO) (t := 32) (hJ.stored 1 rfl rfl (hall 6 (by decide))) (show Rq w6 (vals 4) (aS (-(i : Int))) from hJ.s 4 (hall 4 (by decide)));clear hall hJ;go_upto_region 8 with fail
   have hAt6 : At0 w [⟨none, w.heap.size, 32, [.i, .s, .s], .agg #[.int .i64 0, .slice none 0 0, .slice none 0 0], 1, 0⟩, ⟨none, gO, 32, [.i, .s, .s], .agg #[.int .i64 (sn (aS (-(i : Int)))), .slice AO1 kO1 cO1, .slice AO2 kO2 cO2], 1000, 0⟩] [(.agg #[.int .i64 (sn (aS (-(i : Int)))), .slice AO1 kO1 cO1, .slice AO2 kO2 cO2], .gen (pRn (aS (-(i : Int)))))] w6 := At0.of hG6 ⟨bA hR6 (by omega), bA hO6 (by omega), trivial⟩ (by (simp [dO] <;> omega)) ⟨nO6, trivial⟩;clear hG6 hR6 hO6 nO6;refine cK (F := ?F15) w ([.gen (pRn (aS (-(i : Int)))), .any] : List Vs) _ _ (by kernel_rfl) hAt6 ?hF15 ?st15 ?en15
   case hF15 =>
    intro vals;simp only [Ja.fillL, Act.put, List.setIfInBounds_toArray, List.set_cons_zero, List.set_cons_succ];exact rfl
   case st15 =>
    clear hAt6;intro hctx;refine JC.r3 (off := 0) (row := [.int .i64 (sn (aS (-(i : Int)))), .slice AO1 kO1 cO1, .slice AO2 kO2 cO2]) (fun _ _ _ hL hJ => hJ.still 1 rfl rfl (Nat.le_of_ble_eq_true (by kernel_rfl))) (fun _ _ _ hJ => (hJ.kept 0 rfl)) hctx ?_;refine JC.s3 (n := 0) rfl fRn hctx ?_;exact Ja.Steps.nil
   intro L vals w7 hall hJ;clear hAt6;have hG7 := hJ.q;obtain ⟨AR1, kR1, cR1, AR2, kR2, cR2, hR7, nR7⟩ := aFQ (g := w.heap.size) (t := 32) (hJ.stored 0 rfl rfl (hall 1 (by decide))) (show Rq w7 (vals 0) (aS (-(i : Int))) from hJ.s 0 (hall 0 (by decide)));clear hall hJ;go_wp2_with fail
   exact bQ hR7 (⟨_, rfl, nR7, hG7⟩)
theorem aGI (z : Int) (w : World) (hz : z.natAbs ≤ 1000) :
  Calls Tryz.prog 98 #[.int .i64 z] w fun e w' => ∃ r, e = .returned r ∧ Rq w' r (aS (z)) ∧ Q w w' := by
 by_cases h0 : z < 0
 ·obtain ⟨n, h1, rfl⟩ : ∃ n : Nat, 0 < n ∧ z = -(n : Int) := ⟨(-z).toNat, by omega, by omega⟩
  exact aGY n w h1 (by omega)
 ·obtain ⟨n, rfl⟩ : ∃ n : Nat, z = (n : Int) := ⟨z.toNat, by omega⟩
  exact aGX n w (by omega)
theorem aGy (a b : List UInt8) : ofK a ++ ofK b = ofK (a ++ b) := zV (by rw [tL, mO, mO])
def aGj : List UInt8 := [102, 112, 110, 117, 109, 32, 107, 77, 71, 84]
theorem aDI (l : List UInt8) : (iP l).1.length ≤ l.length := by
 unfold iP; split
 ·split
  ·rw [List.length_dropLast]; omega
  ·exact Nat.le_refl _
 ·exact Nat.le_refl _
theorem aDJ (c : UInt8) (l : List UInt8) : (eG c l).length + (aft c l).length ≤ l.length := by
 rcases oJ c l with ⟨-, h1, h2⟩ | ⟨-, h⟩
 ·rw [h1, h2]; simp
 ·have := congrArg List.length h;rw [List.length_append, List.length_cons] at this;omega
theorem aGQ {i : Nat} {pc : UInt8} {h : i < ({ data := #[102, 112, 110, 117, 109, 32, 107, 77, 71, 84] } : ByteArray).size} (hp : ({ data := #[102, 112, 110, 117, 109, 32, 107, 77, 71, 84] } : ByteArray)[i]'h = pc) : aGj[i]? = some pc := by
 rw [← hp]; exact byte_at h
theorem aGG (l : List UInt8) (n : Nat) : (ofK l).extract 0 n = ofK (l.take n) := zV (by rw [show ((ofK l).extract 0 n).data.toList = (ofK l).data.toList.take n by simp]; rfl)
end Go.Proofs.YtgpacgadpnpjjaaGreatDoor.K
