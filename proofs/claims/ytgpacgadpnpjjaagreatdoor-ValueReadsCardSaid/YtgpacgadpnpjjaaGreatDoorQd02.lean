/- ValueReads: for every string the law holds: what Read returns is what the document says. No condition.. Part of the proof: texts Ka1 Ka2 Ka6 Ra5 Kb2 Kc1 Kc2 Ke1 Ke2 Ke3. -/
import Derived.Below
import Derived.BigQuiet
import Derived.Deep.Cut
import Derived.Deep.CutBlock
import Derived.Deep.DeepFit
import Derived.Deep.DeepMust
import Derived.Deep.Draws
import Derived.Deep.LoopGhost
import Derived.Deep.OwnRows
import Derived.Deep.QuietTactic
import Derived.Deep.RegionHeld
import Derived.Deep.RegionHeld3
import Derived.Deep.RegionWith
import Derived.IntWalk
import Derived.Laws.AppendOwn
import Derived.Laws.BitsAllLaws
import Derived.Laws.CopyOwn
import Derived.Laws.IdiomStrings
import Derived.Laws.OwnMore
import Derived.Laws.RangeAny
import Derived.Laws.RangeString
import Derived.Laws.Rows
import Derived.Lib.Hide
import Derived.Lib.IndexBytes
import Derived.Lib.IndexLaws
import Derived.Lib.OthersKept
import Derived.Lib.SliceRun
import Derived.Maps.AppendAt
import Derived.OwnWalk
import Derived.Shelf.Bits.Mul64
import Derived.Shelf.Lays7
import Derived.Shelf.Small.Bits
import Derived.Shelf.Small.Strs
import Derived.Shelf.Small.Utf8
import Derived.Shelf.Small.Wraps
import Derived.Shelf.Spec.BitsCarry
import Derived.Shelf.Spec.TrailingZeros
import Derived.Shelf.Strconv.Itoa0
import Derived.Shelf.Strings.Builder1
import Derived.Shelf.Strings.Builder2
import Derived.Shelf.Strings.Builder2Cap
import Derived.Shelf.Strings.BuilderF
import Derived.Shelf.Strings.BuilderK
import Derived.Shelf.Strings.Cut
import Derived.Shelf.Strings.Prefix
import Derived.Shelf.Strings.Repeat
import Derived.Shelf.Strings.Search1
import Derived.Shelf.Strings.Search2
import Derived.Shelf.Strings.Search3
import Derived.Shelf.Strings.Trim
import Derived.Shelf.Unicode.DecodeSlow
import Derived.StillTailTactics
import Derived.Test.YtgpacgadpnpjjaaGreatDoorProg
import Derived.Test.YtgpacgadpnpjjaaGreatDoorQp01
import Derived.Test.YtgpacgadpnpjjaaGreatDoorQp02
import Derived.Test.YtgpacgadpnpjjaaGreatDoorQp03
import Derived.Test.YtgpacgadpnpjjaaGreatDoorQp04
import Derived.Test.YtgpacgadpnpjjaaGreatDoorQp05
import Derived.Test.YtgpacgadpnpjjaaGreatDoorQp06
import Derived.Test.YtgpacgadpnpjjaaGreatDoorQp07
import Derived.Test.YtgpacgadpnpjjaaGreatDoorQp08
import Derived.Test.YtgpacgadpnpjjaaGreatDoorQp09
import Derived.Test.YtgpacgadpnpjjaaGreatDoorQp10
import Derived.Test.YtgpacgadpnpjjaaGreatDoorQp11
import Derived.Test.YtgpacgadpnpjjaaGreatDoorQp12
import Derived.Test.YtgpacgadpnpjjaaGreatDoorQp13
import Derived.Test.YtgpacgadpnpjjaaGreatDoorQp14
import Derived.Test.YtgpacgadpnpjjaaGreatDoorQp15
import Derived.Test.YtgpacgadpnpjjaaGreatDoorQp16
import Derived.Test.YtgpacgadpnpjjaaGreatDoorQp17
import Derived.Test.YtgpacgadpnpjjaaGreatDoorQp18
import Derived.Test.YtgpacgadpnpjjaaGreatDoorQp19
import Derived.Test.YtgpacgadpnpjjaaGreatDoorQp20
import Derived.Test.YtgpacgadpnpjjaaGreatDoorQp21
import Derived.Test.YtgpacgadpnpjjaaGreatDoorQp22
import Derived.Test.YtgpacgadpnpjjaaGreatDoorQp23
import Derived.Test.YtgpacgadpnpjjaaGreatDoorQp24
import Derived.Test.YtgpacgadpnpjjaaGreatDoorQp25
import Derived.Test.YtgpacgadpnpjjaaGreatDoorQp27
import Derived.WalkKit
import Derived.WalkLawsBesides
import Derived.WalkSmall
import Derived.WalkSpells
import Derived.Test.YtgpacgadpnpjjaaGreatDoorQd01
set_option maxHeartbeats 4000000
namespace Go.Proofs.YtgpacgadpnpjjaaGreatDoor.K
open Go.RowKit
open Ma Me
section
variable {w w' a : World} {g k i : Nat} {t : TypeId} {row l : List Value} {x : Value}
end
section
variable {w w' : World} {A : Option Addr} {ds : List Nat} {g N : Nat} {v : Value}
end
def pT3 (a b c : Pr) : Pr := ⟨fun v w => ∃ x y z, v = .tuple #[x, y, z] ∧ a.p x w ∧ b.p y w ∧ c.p z w, fun ⟨x, y, z, e, h1, h2, h3⟩ hq => ⟨x, y, z, e, a.q h1 hq, b.q h2 hq, c.q h3 hq⟩, a.ok && b.ok && c.ok, fun ho ⟨x, y, z, e, h1, h2, h3⟩ hq => by
 simp only [Bool.and_eq_true] at ho;exact ⟨x, y, z, e, a.a ho.1.1 h1 hq, b.a ho.1.2 h2 hq, c.a ho.2 h3 hq⟩⟩
section
variable {P : Program} {ops : Array Oper} {Q' : Exit → Act → World → Prop} {l : List Vs} {F : (Nat → Value) → Act} {a : Act} {w1 : World}
end
section
variable {w w' a : World} {g g2 : Nat} {t : TypeId} {ck : List Ck} {v u old : Value}
end
section
variable {P : Program} {ops : Array Oper} {Q' : Exit → Act → World → Prop} {l : List Vs} {cs : List Ce} {ks : List (Value × Vs)} {F : (Nat → Value) → Act} {a : Act} {w0 : World} {L : Nat → Bool} {vals : Nat → Value} {W : World}
open Ja (upd)
end
section
variable {ops : Array Oper} {l : List Vs} {cs : List Ce} {ks : List (Value × Vs)} {w0 : World} {L : Nat → Bool} {vals : Nat → Value} {W : World}
end
end Go.Proofs.YtgpacgadpnpjjaaGreatDoor.K
namespace Go.Proofs.YtgpacgadpnpjjaaGreatDoor.K
open Go.RowKit
open Ma Me
section
variable {w : World} {q p : Rat} {s : Int} {A1 A2 A3 A4 : Option Addr} {n1 c1 n2 c2 n3 c3 n4 c4 : Nat}
end
section
variable {w : World} {q p : Rat} {s1 s2 : Int} {A1 A2 A3 A4 : Option Addr} {n1 c1 n2 c2 n3 c3 n4 c4 : Nat}
end
theorem aGR (w : World) (t1 : TypeId) (r1 : List Value) (t2 : TypeId) (r2 : List Value) (t3 : TypeId) (r3 : List Value) : ∃ W, ((w.alloc (.cells r1.toArray t1)).alloc (.cells r2.toArray t2)).alloc (.cells r3.toArray t3) = W ∧ Q w W ∧
  Bx W w.heap.size t1 r1 ∧ Bx W (w.heap.size + 1) t2 r2 ∧ Bx W (w.heap.size + 1 + 1) t3 r3 := by
 obtain ⟨W, e, hq, h1, h2⟩ := aE6 w t1 r1 t2 r2;have h3 := Bx.new W t3 r3;have e2 : W.heap.size = w.heap.size + 1 + 1 := by rw [← e, World.size_alloc, World.size_alloc]
 rw [e2] at h3;exact ⟨_, by rw [e], hq.alloc _, h1.q ((Q.refl _).alloc _), h2.q ((Q.refl _).alloc _), h3⟩
end Go.Proofs.YtgpacgadpnpjjaaGreatDoor.K
namespace Go.Proofs.YtgpacgadpnpjjaaGreatDoor.K
open Go.RowKit
open Ma Me
section
variable {P : Program} {ops : Array Oper} {Q' : Exit → Act → World → Prop} {F : (Nat → Value) → Act} {a : Act} {w : World}
end
theorem bA {w0 w : World} {g : Nat} {t : TypeId} {s : Int} {A1 A2 : Option Addr} {k1 c1 k2 c2 : Nat} (h : Bx w g t [.int .i64 s, .slice A1 k1 c1, .slice A2 k2 c2]) (hg : w0.heap.size ≤ g) {P : Prop} : P → w0.heap.size ≤ g ∧ NbV w g t [.i, .s, .s] (.agg #[.int .i64 s, .slice A1 k1 c1, .slice A2 k2 c2]) :=
 fun _ => ⟨hg, _, rfl, ⟨⟨_, rfl⟩, ⟨_, _, _, rfl⟩, ⟨_, _, _, rfl⟩, trivial⟩, h⟩
theorem bQ {fn : Func} {R : Ending → World → Prop} {a : Act} {w : World} {g : Nat} {t T : TypeId} {c : Nat} {v0 v1 v2 : Value} (hb : Bx w g t [v0, v1, v2]) (hR : R (.returned (.agg #[v0, v1, v2])) w)
  (hres : fn.results = #[.cell c T] := by rfl) (hslot : a.tmps.getD c undef = .pointer (some ⟨g, 0, none⟩) := by kernel_rfl) (hT : ∀ w, Sem.run Tryz.prog (isAgg T) w = .ok true w := by intro _; kernel_rfl) (hS : ∀ w, Sem.run Tryz.prog (sizeOf T) w = .ok 3 w := by intro _; kernel_rfl)
  (hd : a.defers = [] := by rfl) : bodyPost Tryz.prog fn R .ret a w := by
 have h0 := hb.cell 0 rfl;have h1 := hb.cell 1 rfl;have h2 := hb.cell 2 rfl;refine bodyPost_ret (v := .agg #[v0, v1, v2]) ?_ hd hR;unfold results;rw [hres];rw [Array.getD_eq_getD_getElem?] at hslot;simp [go_sem, hslot, hT, hS, loadVar, loadCells, loadCellsFrom, Addr.add, h0, h1, h2]
end Go.Proofs.YtgpacgadpnpjjaaGreatDoor.K
namespace Go.Proofs.YtgpacgadpnpjjaaGreatDoor
open Go.RowKit
open Ma Me
theorem aGl (x : Int) (N : Nat) (w : World) (hx : x = (N : Int)) (h : N ≤ 9223372036854775807) : Calls Tryz.prog 178 #[.int .i64 x] w (mQ N w) := by
 subst hx;go_enter Tryz.func178, Tryz.ntmps178
 go_wp2_with fail
 have hb : Blk .i64 (w.alloc (Obj.cells #[Value.int IntKind.i64 ((N : Int) % 1073741824), Value.int IntKind.i64 ((N : Int) / 1073741824 % 1073741824), Value.int IntKind.i64 ((N : Int) / 1073741824 / 1073741824)] 2)) w.heap.size 2 [N % B30, N / B30 % B30, N / B30 / B30] :=
  (heap_alloc_new w _).trans (by rw [aL]; simp [nums])
 refine (kX _ _ (w.heap.size + 1) _ _ _ (by rfl) (Nat.le_refl _) (by omega) (hb.rd (Nat.lt_succ_self _))).mono ?_;rintro e w2 ⟨k, hk2, rfl, hnz, hv, rfl⟩;go_wp2
 go_ret
 refine ⟨_, rfl, Nn.of_blk hb hk2 hk2 hnz ?_ ?_, (Q.refl _).alloc _, Nw.at_ (Nat.le_refl _)⟩
 ·intro d hd; rw [aL] at *; simp at hd; omega
 ·rw [hv]; simp only [bX, aEH]; rw [aL]; omega
end Go.Proofs.YtgpacgadpnpjjaaGreatDoor
namespace Go.Proofs.YtgpacgadpnpjjaaGreatDoor.K
open Go.RowKit
open Ma Me
theorem qM : dg B30 1 ≤ 1 := by rw [bZ aF]; exact Nat.le_refl _
theorem aGH (M N : Nat) : dg B30 (M * N) ≤ dg B30 M + dg B30 N := dY aF M N
theorem aGb (M N : Nat) : dg B30 (M + N) ≤ dg B30 M + dg B30 N + 1 := by
 have := lH aF M N;omega
theorem aGc {z : Int} (h : -1 ≤ z ∧ z ≤ 1) : IntKind.i64.wrap z = z := by
 unfold IntKind.wrap;obtain ⟨h1, h2⟩ := h;have : z = -1 ∨ z = 0 ∨ z = 1 := by omega
 rcases this with rfl | rfl | rfl <;> rfl
theorem aFV (q : Rat) : -1 ≤ sn q ∧ sn q ≤ 1 := by rcases dF q with ⟨_, h⟩ | ⟨_, h⟩ | ⟨_, h⟩ <;> rw [h] <;> decide
theorem sn3 (q : Rat) : sn q = -1 ∨ sn q = 0 ∨ sn q = 1 := by rcases dF q with ⟨_, h⟩ | ⟨_, h⟩ | ⟨_, h⟩ <;> simp [h]
theorem aFZ (p q : Rat) : -1 ≤ sn p * sn q ∧ sn p * sn q ≤ 1 := by rw [← aF3]; exact aFV _
theorem aF6 (q : Rat) : (q.num : Int) = sn q * (q.num.natAbs : Int) := by
 rw [uF]; exact (Int.sign_mul_natAbs _).symm
theorem aF7 (q : Rat) : q * ((q.den : Nat) : Rat) = ((sn q : Int) : Rat) * ((q.num.natAbs : Nat) : Rat) := by
 rw [← rF];have h := aF6 q;have h2 : ((q.num : Int) : Rat) = ((sn q * (q.num.natAbs : Int) : Int) : Rat) := by rw [← h]
 rw [h2, Rat.intCast_mul]; rfl
theorem sN (a b : Nat) : ((a * b : Nat) : Rat) = (a : Rat) * (b : Rat) := Rat.natCast_mul a b
theorem aGE (p q : Rat) : (p * q) * ((p.den * q.den : Nat) : Rat) = ((sn p * sn q : Int) : Rat) * ((p.num.natAbs * q.num.natAbs : Nat) : Rat) := by
 have h1 := aF7 p;have h2 := aF7 q;rw [sN, sN, Rat.intCast_mul];grind
theorem aGo {q : Rat} (h : q ≠ 0) : sn q⁻¹ = sn q ∧ q.den = (q⁻¹).num.natAbs ∧ q.num.natAbs = (q⁻¹).den := by
 have h1 : q.num ≠ 0 := fun e => h (Rat.num_eq_zero.1 e);refine ⟨?_, ?_, ?_⟩
 ·rw [uF, uF, Rat.num_inv, Int.sign_mul, Int.sign_sign];have h2 : Int.sign ((q.den : Nat) : Int) = 1 := Int.sign_eq_one_of_pos (by have := q.den_pos; omega);rw [h2, Int.mul_one]
 ·rw [Rat.num_inv, Int.natAbs_mul, Int.natAbs_sign, if_neg h1, Nat.one_mul, Int.natAbs_natCast]
 ·rw [Rat.den_inv, if_neg h1]
set_option maxRecDepth 100000 in
theorem aGr (x y : Value) (p q : Rat) (w : World) (hx : Rq w x p) (hy : Rq w y q) (hB : 1000 * (sz p + sz q) + 10000 ≤ LIM) :
  Calls Tryz.prog 23 #[x, y] w fun e w' => ∃ r, e = .returned r ∧ Rq w' r (p * q) ∧ Q w w' := by
 have hxy := hx;obtain ⟨AX1, kX1, cX1, AX2, kX2, cX2, rfl, -⟩ := hxy;have hyy := hy;obtain ⟨AY1, kY1, cY1, AY2, kY2, cY2, rfl, -⟩ := hyy;obtain ⟨w0, hW, hG0, hX0, hY0, hR0⟩ := aGR w 32 [.int .i64 (sn (p)), .slice AX1 kX1 cX1, .slice AX2 kX2 cX2] 32 [.int .i64 (sn (q)), .slice AY1 kY1 cY1, .slice AY2 kY2 cY2] 32 [.int .i64 0, .slice none 0 0, .slice none 0 0];have nX0 : Rq w0 (.agg #[.int .i64 (sn (p)), .slice AX1 kX1 cX1, .slice AX2 kX2 cX2]) (p) := hx.q hG0;have nY0 : Rq w0 (.agg #[.int .i64 (sn (q)), .slice AY1 kY1 cY1, .slice AY2 kY2 cY2]) (q) := hy.q hG0;have HB := Lib.hid hB; clear hB;go_enter Tryz.func23, Tryz.ntmps23
 go_upto_region 1 with fail
 clear hW;by_cases hZ : p * q = 0
 ·have HZ := Lib.hid hZ; clear hZ;refine bJ (F := ?F1) ([.eq (.pointer (some ⟨w.heap.size, 0, none⟩)), .eq (.int .i64 (sn (p))), .eq (.pointer (some ⟨w.heap.size + 1, 0, none⟩)), .eq (.int .i64 (sn (q))), .eq (.int .i64 (sn (p) * sn (q))), .eq (.bool true)] : List Vs) ?hF1 ?st1 ?en1
  case hF1 =>
   intro vals;simp only [Ja.fillL, Act.put, List.setIfInBounds_toArray, List.set_cons_zero, List.set_cons_succ, Nat.reduceAdd];exact rfl
  case st1 =>
   intro hctx;refine JC.p hctx ?_;refine JC.l1 (off := 0) hX0 (fun W hN => rfl) hctx ?_;refine JC.p hctx ?_;refine JC.l1 (off := 0) hY0 (fun W hN => rfl) hctx ?_;refine JC.u (.int .i64 (IntKind.i64.wrap ((sn (p)) * (sn (q))))) (by rw [aGc (aFZ p q)]) hctx ?_;refine JC.u (.bool ((sn (p) * sn (q)) == (0))) (congrArg Value.bool (beq_iff_eq.2 (by rw [← aF3]; exact fG.2 HZ.out))) hctx ?_;exact Ja.Steps.nil
  intro vals w1 hq1 hall;have hG1 := hG0.trans hq1;have hX1 := hX0.q hq1;have nX1 := Rq.q nX0 hq1;have hY1 := hY0.q hq1;have nY1 := Rq.q nY0 hq1;have hR1 := hR0.q hq1;clear hG0 hX0 hY0 hR0 nX0 nY0;have f10 : vals 5 = .bool true := hall 5 (by decide);rw [f10];clear f10;clear hall;go_upto_region 2 with fail
  have hAt1 : At0 w [⟨none, w.heap.size, 32, [.i, .s, .s], .agg #[.int .i64 (sn (p)), .slice AX1 kX1 cX1, .slice AX2 kX2 cX2], 1000, 0⟩, ⟨none, w.heap.size + 1, 32, [.i, .s, .s], .agg #[.int .i64 (sn (q)), .slice AY1 kY1 cY1, .slice AY2 kY2 cY2], 1000, 0⟩, ⟨none, w.heap.size + 1 + 1, 32, [.i, .s, .s], .agg #[.int .i64 0, .slice none 0 0, .slice none 0 0], 1, 0⟩] [(.agg #[.int .i64 (sn (p)), .slice AX1 kX1 cX1, .slice AX2 kX2 cX2], .gen (pRn (p))), (.agg #[.int .i64 (sn (q)), .slice AY1 kY1 cY1, .slice AY2 kY2 cY2], .gen (pRn (q)))] w1 := At0.of hG1 ⟨bA hX1 (by omega), bA hY1 (by omega), bA hR1 (by omega), trivial⟩ (by (simp [dO] <;> omega)) ⟨nX1, nY1, trivial⟩;clear hG1 hX1 hY1 hR1 nX1 nY1;refine cK (F := ?F2) w ([.gen (pRn (0)), .any] : List Vs) _ _ (by kernel_rfl) hAt1 ?hF2 ?st2 ?en2
  case hF2 =>
   intro vals;simp only [Ja.fillL, Act.put, List.setIfInBounds_toArray, List.set_cons_zero, List.set_cons_succ];exact rfl
  case st2 =>
   clear hAt1;intro hctx;refine JC.o hctx ?_ ?_
   ·intro L vals W hL hJ hd K hK;go_simp
    exact hK.out (.agg #[.int .i64 0, .slice none 0 0, .slice none 0 0]) _ _ (by kernel_rfl) (Rq.none W) (Q.refl _)
   refine JC.s3 (n := 2) rfl fRn hctx ?_;exact Ja.Steps.nil
  intro L vals w2 hall hJ;clear hAt1;have hG2 := hJ.q;obtain ⟨AR1, kR1, cR1, AR2, kR2, cR2, hR2, nR2⟩ := aFQ (g := w.heap.size + 1 + 1) (t := 32) (hJ.stored 2 rfl rfl (hall 1 (by decide))) (show Rq w2 (vals 0) (0) from hJ.s 0 (hall 0 (by decide)));clear hall hJ;go_wp2_with fail
  exact bQ hR2 (⟨_, rfl, (by rw [HZ.out]; exact nR2), hG2⟩)
 ·have HZ := Lib.hid hZ; clear hZ;refine bJ (F := ?F3) ([.eq (.pointer (some ⟨w.heap.size, 0, none⟩)), .eq (.int .i64 (sn (p))), .eq (.pointer (some ⟨w.heap.size + 1, 0, none⟩)), .eq (.int .i64 (sn (q))), .eq (.int .i64 (sn (p) * sn (q))), .eq (.bool false)] : List Vs) ?hF3 ?st3 ?en3
  case hF3 =>
   intro vals;simp only [Ja.fillL, Act.put, List.setIfInBounds_toArray, List.set_cons_zero, List.set_cons_succ, Nat.reduceAdd];exact rfl
  case st3 =>
   intro hctx;refine JC.p hctx ?_;refine JC.l1 (off := 0) hX0 (fun W hN => rfl) hctx ?_;refine JC.p hctx ?_;refine JC.l1 (off := 0) hY0 (fun W hN => rfl) hctx ?_;refine JC.u (.int .i64 (IntKind.i64.wrap ((sn (p)) * (sn (q))))) (by rw [aGc (aFZ p q)]) hctx ?_;refine JC.u (.bool ((sn (p) * sn (q)) == (0))) (congrArg Value.bool (beq_eq_false_iff_ne.2 (by rw [← aF3]; exact fun h9 => HZ.out (fG.1 h9)))) hctx ?_;exact Ja.Steps.nil
  intro vals w1 hq1 hall;have hG1 := hG0.trans hq1;have hX1 := hX0.q hq1;have nX1 := Rq.q nX0 hq1;have hY1 := hY0.q hq1;have nY1 := Rq.q nY0 hq1;have hR1 := hR0.q hq1;clear hG0 hX0 hY0 hR0 nX0 nY0;have f10 : vals 5 = .bool false := hall 5 (by decide);rw [f10];clear f10;clear hall;go_upto_region 3 with fail
  have hp0 : p ≠ 0 := fun h9 => HZ.out (by rw [h9]; exact Rat.zero_mul _);have hq0 : q ≠ 0 := fun h9 => HZ.out (by rw [h9]; exact Rat.mul_zero _);have N1 : Hid (dg B30 ((p).num.natAbs) ≤ 3 * sz (p)) := Lib.hid (by have h99 := aDV (p); have hb9 := HB.out; omega);have N2 : Hid (dg B30 ((q).num.natAbs) ≤ 3 * sz (q)) := Lib.hid (by have h99 := aDV (q); have hb9 := HB.out; omega);have N3 : Hid (dg B30 (((p).num.natAbs) * ((q).num.natAbs)) ≤ 3 * sz (p) + 3 * sz (q)) := Lib.hid (by have h99 := aGH ((p).num.natAbs) ((q).num.natAbs); have hb9 := HB.out; have h50 := N1.out; have h51 := N2.out; omega);have B4 : Hid (dg B30 ((p).num.natAbs) + dg B30 ((q).num.natAbs) + 2 ≤ LIM) := Lib.hid (by have h50 := N1.out; have h51 := N2.out; have hb9 := HB.out; rw [aA] at *; omega);have N5 : Hid (dg B30 ((p).den) ≤ 3 * sz (p)) := Lib.hid (by have h99 := aBy (p); have hb9 := HB.out; omega);have N6 : Hid (dg B30 ((q).den) ≤ 3 * sz (q)) := Lib.hid (by have h99 := aBy (q); have hb9 := HB.out; omega);have N7 : Hid (dg B30 (((p).den) * ((q).den)) ≤ 3 * sz (p) + 3 * sz (q)) := Lib.hid (by have h99 := aGH ((p).den) ((q).den); have hb9 := HB.out; have h50 := N5.out; have h51 := N6.out; omega);have B8 : Hid (dg B30 ((p).den) + dg B30 ((q).den) + 2 ≤ LIM) := Lib.hid (by have h50 := N5.out; have h51 := N6.out; have hb9 := HB.out; rw [aA] at *; omega);have B9 : Hid (31 * dg B30 (((p).num.natAbs) * ((q).num.natAbs)) + 80 ≤ LIM) := Lib.hid (by have h50 := N3.out; have hb9 := HB.out; rw [aA] at *; omega);have B10 : Hid (31 * dg B30 (((p).den) * ((q).den)) + 80 ≤ LIM) := Lib.hid (by have h50 := N7.out; have hb9 := HB.out; rw [aA] at *; omega);have hAt1 : At0 w [⟨none, w.heap.size, 32, [.i, .s, .s], .agg #[.int .i64 (sn (p)), .slice AX1 kX1 cX1, .slice AX2 kX2 cX2], 1000, 0⟩, ⟨none, w.heap.size + 1, 32, [.i, .s, .s], .agg #[.int .i64 (sn (q)), .slice AY1 kY1 cY1, .slice AY2 kY2 cY2], 1000, 0⟩, ⟨none, w.heap.size + 1 + 1, 32, [.i, .s, .s], .agg #[.int .i64 0, .slice none 0 0, .slice none 0 0], 16, 15⟩] [(.agg #[.int .i64 (sn (p)), .slice AX1 kX1 cX1, .slice AX2 kX2 cX2], .gen (pRn (p))), (.agg #[.int .i64 (sn (q)), .slice AY1 kY1 cY1, .slice AY2 kY2 cY2], .gen (pRn (q)))] w1 := At0.of hG1 ⟨bA hX1 (by omega), bA hY1 (by omega), bA hR1 (by omega), trivial⟩ (by (simp [dO] <;> omega)) ⟨nX1, nY1, trivial⟩;clear hG1 hX1 hY1 hR1 nX1 nY1;refine mE (F := ?F4) w ([.eq (.pointer (some ⟨w.heap.size, 0, none⟩)), .eq (.int .i64 (sn (p))), .eq (.pointer (some ⟨w.heap.size + 1, 0, none⟩)), .eq (.int .i64 (sn (q))), .eq (.int .i64 (sn (p) * sn (q))), .eq (.pointer (some ⟨w.heap.size, 1, none⟩)), .gen (lZ ((p).num.natAbs)), .eq (.pointer (some ⟨w.heap.size + 1, 1, none⟩)), .gen (lZ ((q).num.natAbs)), .gen (lZ (((p).num.natAbs) * ((q).num.natAbs))), .eq (.pointer (some ⟨w.heap.size, 2, none⟩)), .gen (lZ ((p).den)), .eq (.pointer (some ⟨w.heap.size + 1, 2, none⟩)), .gen (lZ ((q).den)), .gen (lZ (((p).den) * ((q).den))), .gen (pRn (p * q)), .any] : List Vs) _ _ (by kernel_rfl) (by kernel_rfl) hAt1 ?hF4 ?st4 ?en4
  case hF4 =>
   intro vals;simp only [Ja.fillL, Act.put, List.setIfInBounds_toArray, List.set_cons_zero, List.set_cons_succ, Nat.reduceAdd];exact rfl
  case st4 =>
   clear hAt1;intro hctx;refine JC.p hctx ?_;refine JC.r1 (off := 0) (row := [.int .i64 (sn (p)), .slice AX1 kX1 cX1, .slice AX2 kX2 cX2]) (fun _ _ _ hL hJ => hJ.still 0 rfl rfl (Nat.le_of_ble_eq_true (by kernel_rfl))) (fun _ _ _ hJ => rfl) hctx ?_;refine JC.p hctx ?_;refine JC.r1 (off := 0) (row := [.int .i64 (sn (q)), .slice AY1 kY1 cY1, .slice AY2 kY2 cY2]) (fun _ _ _ hL hJ => hJ.still 1 rfl rfl (Nat.le_of_ble_eq_true (by kernel_rfl))) (fun _ _ _ hJ => rfl) hctx ?_;refine JC.u (.int .i64 (IntKind.i64.wrap ((sn (p)) * (sn (q))))) (by rw [aGc (aFZ p q)]) hctx ?_;refine JC.p hctx ?_;refine JC.r1 (off := 1) (row := [.int .i64 (sn (p)), .slice AX1 kX1 cX1, .slice AX2 kX2 cX2]) (fun _ _ _ hL hJ => hJ.still 0 rfl rfl (Nat.le_of_ble_eq_true (by kernel_rfl))) (fun _ _ _ hJ => (Rq.top (hJ.kept 0 rfl))) hctx ?_;refine JC.p hctx ?_;refine JC.r1 (off := 1) (row := [.int .i64 (sn (q)), .slice AY1 kY1 cY1, .slice AY2 kY2 cY2]) (fun _ _ _ hL hJ => hJ.still 1 rfl rfl (Nat.le_of_ble_eq_true (by kernel_rfl))) (fun _ _ _ hJ => (Rq.top (hJ.kept 1 rfl))) hctx ?_;refine JC.ca (fun vals W hN hd hk => (aAV _ _ ((p).num.natAbs) ((q).num.natAbs) W (hd 6 (by kernel_rfl)) (hd 8 (by kernel_rfl)) B4.out).mono (by rintro e W9 ⟨r, rfl, hr, hq9, -⟩; exact ⟨r, rfl, hr, hq9⟩)) hctx ?_;refine JC.p hctx ?_;refine JC.r1 (off := 2) (row := [.int .i64 (sn (p)), .slice AX1 kX1 cX1, .slice AX2 kX2 cX2]) (fun _ _ _ hL hJ => hJ.still 0 rfl rfl (Nat.le_of_ble_eq_true (by kernel_rfl))) (fun _ _ _ hJ => (Rq.bot (hJ.kept 0 rfl) hp0)) hctx ?_;refine JC.p hctx ?_;refine JC.r1 (off := 2) (row := [.int .i64 (sn (q)), .slice AY1 kY1 cY1, .slice AY2 kY2 cY2]) (fun _ _ _ hL hJ => hJ.still 1 rfl rfl (Nat.le_of_ble_eq_true (by kernel_rfl))) (fun _ _ _ hJ => (Rq.bot (hJ.kept 1 rfl) hq0)) hctx ?_;refine JC.ca (fun vals W hN hd hk => (aAV _ _ ((p).den) ((q).den) W (hd 11 (by kernel_rfl)) (hd 13 (by kernel_rfl)) B8.out).mono (by rintro e W9 ⟨r, rfl, hr, hq9, -⟩; exact ⟨r, rfl, hr, hq9⟩)) hctx ?_;refine JC.ca (fun vals W hN hd hk => (zU (sn (p) * sn (q)) _ _ (((p).num.natAbs) * ((q).num.natAbs)) (((p).den) * ((q).den)) (p * q) W (hd 9 (by kernel_rfl)) (hd 14 (by kernel_rfl)) (fun _ => Nat.mul_pos (den_nz p) (den_nz q)) (by rw [← aF3]; exact sn3 _) (aGE p q) (fun h9 => absurd h9 (Nat.ne_of_gt (Nat.mul_pos (den_nz p) (den_nz q)))) B9.out B10.out).mono (by rintro e W9 ⟨r, rfl, hr, hq9⟩; exact ⟨r, rfl, hr, hq9⟩)) hctx ?_;refine JC.s3 (n := 2) rfl fRn hctx ?_;exact Ja.Steps.nil
  intro L vals w2 hall hJ;clear hAt1;have hG2 := hJ.q;obtain ⟨AR1, kR1, cR1, AR2, kR2, cR2, hR2, nR2⟩ := aFQ (g := w.heap.size + 1 + 1) (t := 32) (hJ.stored 2 rfl rfl (hall 16 (by decide))) (show Rq w2 (vals 15) (p * q) from hJ.s 15 (hall 15 (by decide)));clear hall hJ;go_wp2_with fail
  exact bQ hR2 (⟨_, rfl, nR2, hG2⟩)
set_option maxRecDepth 100000 in
theorem aG1 (x y : Value) (p q : Rat) (w : World) (hx : Rq w x p) (hy : Rq w y q) (hB : 1000 * (sz p + sz q) + 20000 ≤ LIM) :
  Calls Tryz.prog 119 #[x, y] w fun e w' => ∃ r, e = .returned (.tuple #[r, .int .i64 (mI p q).1]) ∧ Rq w' r (mI p q).2 ∧ Q w w' := by
 have hxy := hx;obtain ⟨AX1, kX1, cX1, AX2, kX2, cX2, rfl, -⟩ := hxy;have hyy := hy;obtain ⟨AY1, kY1, cY1, AY2, kY2, cY2, rfl, -⟩ := hyy;obtain ⟨w0, hW, hG0, hX0, hY0, hR0⟩ := aGR w 32 [.int .i64 (sn (p)), .slice AX1 kX1 cX1, .slice AX2 kX2 cX2] 32 [.int .i64 (sn (q)), .slice AY1 kY1 cY1, .slice AY2 kY2 cY2] 32 [.int .i64 0, .slice none 0 0, .slice none 0 0];have nX0 : Rq w0 (.agg #[.int .i64 (sn (p)), .slice AX1 kX1 cX1, .slice AX2 kX2 cX2]) (p) := hx.q hG0;have nY0 : Rq w0 (.agg #[.int .i64 (sn (q)), .slice AY1 kY1 cY1, .slice AY2 kY2 cY2]) (q) := hy.q hG0;have HB := Lib.hid hB; clear hB;go_enter Tryz.func119, Tryz.ntmps119
 go_upto_region 1 with fail
 clear hW;by_cases hZ : q = 0
 ·have HZ := Lib.hid hZ; clear hZ;refine bJ (F := ?F2) ([.eq (.pointer (some ⟨w.heap.size + 1, 0, none⟩)), .eq (.int .i64 (sn (q))), .eq (.bool true)] : List Vs) ?hF2 ?st2 ?en2
  case hF2 =>
   intro vals;simp only [Ja.fillL, Act.put, List.setIfInBounds_toArray, List.set_cons_zero, List.set_cons_succ, Nat.reduceAdd];exact rfl
  case st2 =>
   intro hctx;refine JC.p hctx ?_;refine JC.l1 (off := 0) hY0 (fun W hN => rfl) hctx ?_;refine JC.u (.bool ((sn (q)) == (0))) (congrArg Value.bool (beq_iff_eq.2 (fG.2 HZ.out))) hctx ?_;exact Ja.Steps.nil
  intro vals w1 hq1 hall;have hG1 := hG0.trans hq1;have hX1 := hX0.q hq1;have nX1 := Rq.q nX0 hq1;have hY1 := hY0.q hq1;have nY1 := Rq.q nY0 hq1;have hR1 := hR0.q hq1;clear hG0 hX0 hY0 hR0 nX0 nY0;have f8 : vals 2 = .bool true := hall 2 (by decide);rw [f8];clear f8;clear hall;go_upto_region 2 with fail
  have hAt1 : At0 w [⟨none, w.heap.size, 32, [.i, .s, .s], .agg #[.int .i64 (sn (p)), .slice AX1 kX1 cX1, .slice AX2 kX2 cX2], 1000, 0⟩, ⟨none, w.heap.size + 1, 32, [.i, .s, .s], .agg #[.int .i64 (sn (q)), .slice AY1 kY1 cY1, .slice AY2 kY2 cY2], 1000, 0⟩, ⟨none, w.heap.size + 1 + 1, 32, [.i, .s, .s], .agg #[.int .i64 0, .slice none 0 0, .slice none 0 0], 1, 0⟩] [(.agg #[.int .i64 (sn (p)), .slice AX1 kX1 cX1, .slice AX2 kX2 cX2], .gen (pRn (p))), (.agg #[.int .i64 (sn (q)), .slice AY1 kY1 cY1, .slice AY2 kY2 cY2], .gen (pRn (q)))] w1 := At0.of hG1 ⟨bA hX1 (by omega), bA hY1 (by omega), bA hR1 (by omega), trivial⟩ (by (simp [dO] <;> omega)) ⟨nX1, nY1, trivial⟩;clear hG1 hX1 hY1 hR1 nX1 nY1;refine cK (F := ?F3) w ([.gen (pRn (0)), .any, .eq (.int .i64 (8))] : List Vs) _ _ (by kernel_rfl) hAt1 ?hF3 ?st3 ?en3
  case hF3 =>
   intro vals;simp only [Ja.fillL, Act.put, List.setIfInBounds_toArray, List.set_cons_zero, List.set_cons_succ, Nat.reduceAdd];exact rfl
  case st3 =>
   clear hAt1;intro hctx;refine JC.o hctx ?_ ?_
   ·intro L vals W hL hJ hd K hK;go_simp
    exact hK.out (.agg #[.int .i64 0, .slice none 0 0, .slice none 0 0]) _ _ (by kernel_rfl) (Rq.none W) (Q.refl _)
   refine JC.s3 (n := 2) rfl fRn hctx ?_;refine JC.p hctx ?_;exact Ja.Steps.nil
  intro L vals w2 hall hJ;clear hAt1;have hG2 := hJ.q;obtain ⟨AR1, kR1, cR1, AR2, kR2, cR2, hR2, nR2⟩ := aFQ (g := w.heap.size + 1 + 1) (t := 32) (hJ.stored 2 rfl rfl (hall 1 (by decide))) (show Rq w2 (vals 0) (0) from hJ.s 0 (hall 0 (by decide)));have f5 : vals 2 = .int .i64 (8) := hJ.s 2 (hall 2 (by decide));rw [f5];clear f5;clear hall hJ;go_wp2_with fail
  have zR0 : w2.cell? ⟨w.heap.size + 1 + 1, 0, none⟩ = some (.int .i64 (sn (0))) := hR2.cell 0 rfl;have zR1 : w2.cell? ⟨w.heap.size + 1 + 1, 1, none⟩ = some (.slice AR1 kR1 cR1) := hR2.cell 1 rfl;have zR2 : w2.cell? ⟨w.heap.size + 1 + 1, 2, none⟩ = some (.slice AR2 kR2 cR2) := hR2.cell 2 rfl;refine bodyPost_ret (v := .tuple #[.agg #[.int .i64 (sn (0)), .slice AR1 kR1 cR1, .slice AR2 kR2 cR2], .int .i64 (8)]) (by simp [results, Tryz.results119, go_sem, zR0, zR1, zR2]) rfl ?_;exact ⟨_, by rw [show mI p q = (8, 0) from if_pos HZ.out], (by rw [show mI p q = (8, 0) from if_pos HZ.out]; exact nR2), hG2⟩
 ·have HZ := Lib.hid hZ; clear hZ;refine bJ (F := ?F4) ([.eq (.pointer (some ⟨w.heap.size + 1, 0, none⟩)), .eq (.int .i64 (sn (q))), .eq (.bool false)] : List Vs) ?hF4 ?st4 ?en4
  case hF4 =>
   intro vals;simp only [Ja.fillL, Act.put, List.setIfInBounds_toArray, List.set_cons_zero, List.set_cons_succ, Nat.reduceAdd];exact rfl
  case st4 =>
   intro hctx;refine JC.p hctx ?_;refine JC.l1 (off := 0) hY0 (fun W hN => rfl) hctx ?_;refine JC.u (.bool ((sn (q)) == (0))) (congrArg Value.bool (beq_eq_false_iff_ne.2 (fun h9 => HZ.out (fG.1 h9)))) hctx ?_;exact Ja.Steps.nil
  intro vals w1 hq1 hall;have hG1 := hG0.trans hq1;have hX1 := hX0.q hq1;have nX1 := Rq.q nX0 hq1;have hY1 := hY0.q hq1;have nY1 := Rq.q nY0 hq1;have hR1 := hR0.q hq1;clear hG0 hX0 hY0 hR0 nX0 nY0;have f8 : vals 2 = .bool false := hall 2 (by decide);rw [f8];clear f8;clear hall;go_upto_region 3 with fail
  have Z1 : Hid (sz ((q)⁻¹) ≤ 1 * sz (q) + 1) := Lib.hid (by have h99 := aEZ q; have hb9 := HB.out; omega);have Z2 : Hid (sz ((p) * ((q)⁻¹)) ≤ 1 * sz (p) + 1 * sz (q) + 1) := Lib.hid (by have h99 := qC (p) ((q)⁻¹); have h1 := Z1.out; have hb9 := HB.out; omega);have B3 : Hid (1000 * (sz (p) + sz ((q)⁻¹)) + 10000 ≤ LIM) := Lib.hid (by have h1 := Z1.out; have hb9 := HB.out; rw [aA] at *; omega);have hAt1 : At0 w [⟨none, w.heap.size, 32, [.i, .s, .s], .agg #[.int .i64 (sn (p)), .slice AX1 kX1 cX1, .slice AX2 kX2 cX2], 1000, 0⟩, ⟨none, w.heap.size + 1, 32, [.i, .s, .s], .agg #[.int .i64 (sn (q)), .slice AY1 kY1 cY1, .slice AY2 kY2 cY2], 1000, 0⟩, ⟨none, w.heap.size + 1 + 1, 32, [.i, .s, .s], .agg #[.int .i64 0, .slice none 0 0, .slice none 0 0], 9, 8⟩] [(.agg #[.int .i64 (sn (p)), .slice AX1 kX1 cX1, .slice AX2 kX2 cX2], .gen (pRn (p))), (.agg #[.int .i64 (sn (q)), .slice AY1 kY1 cY1, .slice AY2 kY2 cY2], .gen (pRn (q)))] w1 := At0.of hG1 ⟨bA hX1 (by omega), bA hY1 (by omega), bA hR1 (by omega), trivial⟩ (by (simp [dO] <;> omega)) ⟨nX1, nY1, trivial⟩;clear hG1 hX1 hY1 hR1 nX1 nY1;refine cK (F := ?F5) w ([.gen (pRn (p)), .eq (.pointer (some ⟨w.heap.size + 1, 0, none⟩)), .eq (.int .i64 (sn (q))), .eq (.pointer (some ⟨w.heap.size + 1, 2, none⟩)), .gen (lZ ((q).den)), .eq (.pointer (some ⟨w.heap.size + 1, 1, none⟩)), .gen (lZ ((q).num.natAbs)), .gen (pRn ((q)⁻¹)), .gen (pRn ((p) * ((q)⁻¹))), .any, .eq (.int .i64 (0))] : List Vs) _ _ (by kernel_rfl) hAt1 ?hF5 ?st5 ?en5
  case hF5 =>
   intro vals;simp only [Ja.fillL, Act.put, List.setIfInBounds_toArray, List.set_cons_zero, List.set_cons_succ, Nat.reduceAdd];exact rfl
  case st5 =>
   clear hAt1;intro hctx;refine JC.r3 (off := 0) (row := [.int .i64 (sn (p)), .slice AX1 kX1 cX1, .slice AX2 kX2 cX2]) (fun _ _ _ hL hJ => hJ.still 0 rfl rfl (Nat.le_of_ble_eq_true (by kernel_rfl))) (fun _ _ _ hJ => (hJ.kept 0 rfl)) hctx ?_;refine JC.p hctx ?_;refine JC.r1 (off := 0) (row := [.int .i64 (sn (q)), .slice AY1 kY1 cY1, .slice AY2 kY2 cY2]) (fun _ _ _ hL hJ => hJ.still 1 rfl rfl (Nat.le_of_ble_eq_true (by kernel_rfl))) (fun _ _ _ hJ => rfl) hctx ?_;refine JC.p hctx ?_;refine JC.r1 (off := 2) (row := [.int .i64 (sn (q)), .slice AY1 kY1 cY1, .slice AY2 kY2 cY2]) (fun _ _ _ hL hJ => hJ.still 1 rfl rfl (Nat.le_of_ble_eq_true (by kernel_rfl))) (fun _ _ _ hJ => (Rq.bot (hJ.kept 1 rfl) HZ.out)) hctx ?_;refine JC.p hctx ?_;refine JC.r1 (off := 1) (row := [.int .i64 (sn (q)), .slice AY1 kY1 cY1, .slice AY2 kY2 cY2]) (fun _ _ _ hL hJ => hJ.still 1 rfl rfl (Nat.le_of_ble_eq_true (by kernel_rfl))) (fun _ _ _ hJ => (Rq.top (hJ.kept 1 rfl))) hctx ?_;refine JC.o hctx ?_ ?_
   ·intro L vals W hL hJ hd K hK;have d2 : vals 2 = .int .i64 (sn (q)) := hd 2 (by kernel_rfl);generalize vals 2 = u2 at d2 hK ⊢;subst d2;have d4 : Nr W (vals 4) ((q).den) := hd 4 (by kernel_rfl);have d6 : Nr W (vals 6) ((q).num.natAbs) := hd 6 (by kernel_rfl);generalize vals 4 = u4 at d4 hK ⊢;obtain ⟨X4, Y4, Z4, rfl⟩ := Nr.form d4;generalize vals 6 = u6 at d6 hK ⊢;obtain ⟨X6, Y6, Z6, rfl⟩ := Nr.form d6;go_simp
    exact hK.out (.agg #[.int .i64 (sn (q)), .slice X4 Y4 Z4, .slice X6 Y6 Z6]) _ _ (by kernel_rfl) (Rq.mk (by have h9 := d4; rw [show ((q).den : Nat) = ((q)⁻¹).num.natAbs from (aGo HZ.out).2.1] at h9; exact h9) (fun hz9 => by have h9 := d6; rw [show ((q).num.natAbs : Nat) = ((q)⁻¹).den from (aGo HZ.out).2.2] at h9; exact h9) ⟨_, _, _, rfl⟩ ((aGo HZ.out).1.symm)) (Q.refl _)
   refine JC.ca (fun vals W hN hd hk => (aGr _ _ (p) ((q)⁻¹) W (hd 0 (by kernel_rfl)) (hd 7 (by kernel_rfl)) B3.out).mono (by rintro e W9 ⟨r, rfl, hr, hq9⟩; exact ⟨r, rfl, hr, hq9⟩)) hctx ?_;refine JC.s3 (n := 2) rfl fRn hctx ?_;refine JC.p hctx ?_;exact Ja.Steps.nil
  intro L vals w2 hall hJ;clear hAt1;have hG2 := hJ.q;obtain ⟨AR1, kR1, cR1, AR2, kR2, cR2, hR2, nR2⟩ := aFQ (g := w.heap.size + 1 + 1) (t := 32) (hJ.stored 2 rfl rfl (hall 9 (by decide))) (show Rq w2 (vals 8) ((p) * ((q)⁻¹)) from hJ.s 8 (hall 8 (by decide)));have f5 : vals 10 = .int .i64 (0) := hJ.s 10 (hall 10 (by decide));rw [f5];clear f5;clear hall hJ;go_wp2_with fail
  have zR0 : w2.cell? ⟨w.heap.size + 1 + 1, 0, none⟩ = some (.int .i64 (sn ((p) * ((q)⁻¹)))) := hR2.cell 0 rfl;have zR1 : w2.cell? ⟨w.heap.size + 1 + 1, 1, none⟩ = some (.slice AR1 kR1 cR1) := hR2.cell 1 rfl;have zR2 : w2.cell? ⟨w.heap.size + 1 + 1, 2, none⟩ = some (.slice AR2 kR2 cR2) := hR2.cell 2 rfl;refine bodyPost_ret (v := .tuple #[.agg #[.int .i64 (sn ((p) * ((q)⁻¹))), .slice AR1 kR1 cR1, .slice AR2 kR2 cR2], .int .i64 (0)]) (by simp [results, Tryz.results119, go_sem, zR0, zR1, zR2]) rfl ?_;exact ⟨_, by rw [show mI p q = (0, p * q⁻¹) from if_neg HZ.out], (by rw [show mI p q = (0, p * q⁻¹) from if_neg HZ.out]; exact nR2), hG2⟩
theorem aGl (x : Int) (N : Nat) (w : World) (hx : x = (N : Int)) (h : N < 9223372036854775808) : Calls Tryz.prog 178 #[.int .i64 x] w (mQ N w) := by
 subst hx;go_enter Tryz.func178, Tryz.ntmps178
 go_wp2_with fail
 have hb : Blk .i64 (w.alloc (Obj.cells #[Value.int IntKind.i64 ((N : Int) % 1073741824), Value.int IntKind.i64 ((N : Int) / 1073741824 % 1073741824), Value.int IntKind.i64 ((N : Int) / 1073741824 / 1073741824)] 2)) w.heap.size 2 [N % B30, N / B30 % B30, N / B30 / B30] :=
  (heap_alloc_new w _).trans (by rw [aL]; simp [nums])
 refine (kX _ _ (w.heap.size + 1) _ _ _ (by rfl) (Nat.le_refl _) (by omega) (hb.rd (Nat.lt_succ_self _))).mono ?_;rintro e w2 ⟨k, hk2, rfl, hnz, hv, rfl⟩;go_wp2
 go_ret
 refine ⟨_, rfl, Nn.of_blk hb hk2 hk2 hnz ?_ ?_, (Q.refl _).alloc _, Nw.at_ (Nat.le_refl _)⟩
 ·intro d hd; rw [aL] at *; simp at hd; omega
 ·rw [hv]; simp only [bX, aEH]; rw [aL]; omega
theorem dg3 {N : Nat} (h : N < 9223372036854775808) : dg B30 N ≤ 3 := (aD aF N 3).2 (Nat.lt_of_lt_of_le h (by decide))
theorem aGL (N : Nat) : ((N : Int) : Rat) * ((1 : Nat) : Rat) = ((1 : Int) : Rat) * (N : Rat) := by
 rw [show ((1 : Nat) : Rat) = 1 from rfl, show ((1 : Int) : Rat) = 1 from rfl, Rat.mul_one, Rat.one_mul]; rfl
theorem aGM (k r : Nat) : ((-(2 * (k : Int) + (r : Int)) : Int) : Rat) * ((1 : Nat) : Rat) = ((-1 : Int) : Rat) * (((k + k + r : Nat)) : Rat) := by
 rw [show ((1 : Nat) : Rat) = 1 from rfl, Rat.mul_one, show (((k + k + r : Nat)) : Rat) = ((((k + k + r : Nat)) : Int) : Rat) from rfl, ← Rat.intCast_mul];congr 1;omega
theorem dA {z : Int} (h1 : -9223372036854775808 ≤ z) (h2 : z < 9223372036854775808) : IntKind.i64.wrap z = z := by
 by_cases h0 : z < 0
 ·have e : z % 2 ^ 64 = z + 18446744073709551616 := (by omega);simp only [IntKind.wrap, IntKind.bits, IntKind.signed, e];rw [if_pos]
  ·omega
  ·simp; omega
 ·have e : z % 2 ^ 64 = z := (by omega);simp only [IntKind.wrap, IntKind.bits, IntKind.signed, e];rw [if_neg];simp; omega
theorem aGN {k r : Nat} (hr : r < 2) (hk : k < 4611686018427387905) : IntKind.i64.wrap (-(2 * (k : Int) + (r : Int)).tdiv 2) = -(k : Int) := by
 rw [show (2 * (k : Int) + (r : Int)).tdiv 2 = (k : Int) by rw [Int.tdiv_eq_ediv_of_nonneg (by omega)]; omega];exact dA (by omega) (by omega)
theorem aGC {k : Nat} (hk : k < 4611686018427387905) : IntKind.i64.wrap (0 - -(k : Int)) = (k : Int) := by
 rw [Int.zero_sub, Int.neg_neg]; exact dA (by omega) (by omega)
theorem aGS {k : Nat} (hk : k < 4611686018427387905) : IntKind.i64.wrap (2 * -(k : Int)) = -(2 * (k : Int)) := by
 rw [Int.mul_neg]; exact dA (by omega) (by omega)
theorem aGT {k r : Nat} (hr : r < 2) : IntKind.i64.wrap (-(2 * (k : Int) + (r : Int)) - -(2 * (k : Int))) = -(r : Int) := by
 rw [show -(2 * (k : Int) + (r : Int)) - -(2 * (k : Int)) = -(r : Int) by omega]; exact dA (by omega) (by omega)
theorem aGU {r : Nat} (hr : r < 2) : IntKind.i64.wrap (0 - -(r : Int)) = (r : Int) := by
 rw [Int.zero_sub, Int.neg_neg]; exact dA (by omega) (by omega)
set_option maxRecDepth 100000 in
theorem aGs (n : Int) (w : World) (h1 : -9223372036854775808 ≤ n) (h2 : n < 9223372036854775808) :
  Calls Tryz.prog 120 #[.int .i64 n] w fun e w' => ∃ r, e = .returned r ∧ Rq w' r ((n : Int) : Rat) ∧ Q w w' := by
 obtain ⟨w0, hW, hG0, hR0⟩ := yR w 32 [.int .i64 0, .slice none 0 0, .slice none 0 0];go_enter Tryz.func120, Tryz.ntmps120
 go_upto_region 1 with fail
 clear hW;by_cases hN : n < 0
 ·have HN := Lib.hid hN; clear hN;obtain ⟨k, r, hr, hk, rfl⟩ : ∃ k r : Nat, r < 2 ∧ k < 4611686018427387905 ∧ n = -(2 * (k : Int) + (r : Int)) := ⟨((-n) / 2).toNat, ((-n) % 2).toNat, by omega, by omega, by have := HN.out; omega⟩
  have Hr := Lib.hid hr; have Hk := Lib.hid hk; clear hr hk h1 h2;refine bJ (F := ?F1) ([.eq (.int .i64 (-(2 * (k : Int) + (r : Int)))), .eq (.bool true)] : List Vs) ?hF1 ?st1 ?en1
  case hF1 =>
   intro vals;simp only [Ja.fillL, Act.put, List.setIfInBounds_toArray, List.set_cons_zero, List.set_cons_succ, Nat.reduceAdd];exact rfl
  case st1 =>
   intro hctx;refine JC.p hctx ?_;refine JC.u (.bool (decide ((-(2 * (k : Int) + (r : Int))) < (0)))) (congrArg Value.bool (decide_eq_true (show ((-(2 * (k : Int) + (r : Int)) : Int) < 0) from HN.out))) hctx ?_;exact Ja.Steps.nil
  intro vals w1 hq1 hall;have hG1 := hG0.trans hq1;have hR1 := hR0.q hq1;clear hG0 hR0;have f5 : vals 1 = .bool true := hall 1 (by decide);rw [f5];clear f5;clear hall;go_upto_region 2 with fail
  refine bJ (F := ?F2) ([.eq (.int .i64 (-(2 * (k : Int) + (r : Int)))), .eq (.int .i64 (-(k : Int))), .eq (.int .i64 (-(k : Int)))] : List Vs) ?hF2 ?st2 ?en2
  case hF2 =>
   intro vals;simp only [Ja.fillL, Act.put, List.setIfInBounds_toArray, List.set_cons_zero, List.set_cons_succ, Nat.reduceAdd];exact rfl
  case st2 =>
   intro hctx;refine JC.p hctx ?_;refine JC.o hctx ?_ ?_
   ·intro L vals W hL hJ hd K hK;have d0 : vals 0 = .int .i64 (-(2 * (k : Int) + (r : Int))) := hd 0 (by kernel_rfl);generalize vals 0 = u0 at d0 hK ⊢;subst d0;go_simp
    rw [aGN Hr.out Hk.out];exact hK.out (.int .i64 (-(k : Int))) _ _ (by kernel_rfl) rfl (Q.refl _)
   refine JC.p hctx ?_;exact Ja.Steps.nil
  intro vals w2 hq2 hall;have hG2 := hG1.trans hq2;have hR2 := hR1.q hq2;clear hG1 hR1;have f3 : vals 2 = .int .i64 (-(k : Int)) := hall 2 (by decide);rw [f3];clear f3;clear hall;go_upto_region 3 with fail
  have N1 : Hid (dg B30 (k) ≤ 3) := Lib.hid (by have h99 := dg3 (Nat.lt_trans Hk.out (by decide)); skip; omega);have N2 : Hid (dg B30 ((k) + (k)) ≤ 7) := Lib.hid (by have h99 := aGb (k) (k); skip; have h50 := N1.out; have h51 := N1.out; omega);have B3 : Hid (dg B30 (k) + 1 ≤ LIM) := Lib.hid (by have h50 := N1.out; skip; rw [aA] at *; omega);have B4 : Hid (dg B30 (k) + 1 ≤ LIM) := Lib.hid (by have h50 := N1.out; skip; rw [aA] at *; omega);have N5 : Hid (dg B30 (r) ≤ 3) := Lib.hid (by have h99 := dg3 (Nat.lt_trans Hr.out (by decide)); skip; omega);have N6 : Hid (dg B30 (((k) + (k)) + (r)) ≤ 11) := Lib.hid (by have h99 := aGb ((k) + (k)) (r); skip; have h50 := N2.out; have h51 := N5.out; omega);have B7 : Hid (dg B30 ((k) + (k)) + 1 ≤ LIM) := Lib.hid (by have h50 := N2.out; skip; rw [aA] at *; omega);have B8 : Hid (dg B30 (r) + 1 ≤ LIM) := Lib.hid (by have h50 := N5.out; skip; rw [aA] at *; omega);have B9 : Hid (31 * dg B30 (((k) + (k)) + (r)) + 80 ≤ LIM) := Lib.hid (by have h50 := N6.out; skip; rw [aA] at *; omega);have N10 : Hid (dg B30 (1) ≤ 1) := Lib.hid (by have h99 := qM; skip; omega);have B11 : Hid (31 * dg B30 (1) + 80 ≤ LIM) := Lib.hid (by have h50 := N10.out; skip; rw [aA] at *; omega);have hAt2 : At0 w [⟨none, w.heap.size, 32, [.i, .s, .s], .agg #[.int .i64 0, .slice none 0 0, .slice none 0 0], 16, 15⟩] [] w2 := At0.of hG2 ⟨bA hR2 (by omega), trivial⟩ (by simp [dO]) trivial;clear hG2 hR2;refine cK (F := ?F3) w ([.eq (.int .i64 (-(k : Int))), .eq (.int .i64 ((k : Int))), .gen (lZ (k)), .eq (.int .i64 (-(k : Int))), .eq (.int .i64 ((k : Int))), .gen (lZ (k)), .gen (lZ ((k) + (k))), .eq (.int .i64 (-(2 * (k : Int) + (r : Int)))), .eq (.int .i64 (-(k : Int))), .eq (.int .i64 (-(2 * (k : Int)))), .eq (.int .i64 (-(r : Int))), .eq (.int .i64 ((r : Int))), .gen (lZ (r)), .gen (lZ (((k) + (k)) + (r))), .gen (lZ (1)), .gen (pRn (((-(2 * (k : Int) + (r : Int)) : Int) : Rat))), .any] : List Vs) _ _ (by kernel_rfl) hAt2 ?hF3 ?st3 ?en3
  case hF3 =>
   intro vals;simp only [Ja.fillL, Act.put, List.setIfInBounds_toArray, List.set_cons_zero, List.set_cons_succ, Nat.reduceAdd];exact rfl
  case st3 =>
   clear hAt2;intro hctx;refine JC.p hctx ?_;refine JC.u (.int .i64 (IntKind.i64.wrap (0 - (-(k : Int))))) (by exact congrArg (Value.int .i64) (aGC Hk.out)) hctx ?_;refine JC.ca (fun vals W hN hd hk => (aGl ((k : Int)) (k) W (rfl) (Nat.lt_trans Hk.out (by decide))).mono (by rintro e W9 ⟨r, rfl, hr, hq9, -⟩; exact ⟨r, rfl, hr, hq9⟩)) hctx ?_;refine JC.p hctx ?_;refine JC.u (.int .i64 (IntKind.i64.wrap (0 - (-(k : Int))))) (by exact congrArg (Value.int .i64) (aGC Hk.out)) hctx ?_;refine JC.ca (fun vals W hN hd hk => (aGl ((k : Int)) (k) W (rfl) (Nat.lt_trans Hk.out (by decide))).mono (by rintro e W9 ⟨r, rfl, hr, hq9, -⟩; exact ⟨r, rfl, hr, hq9⟩)) hctx ?_;refine JC.ca (fun vals W hN hd hk => (aFu _ _ (k) (k) W (hd 2 (by kernel_rfl)) (hd 5 (by kernel_rfl)) B3.out B4.out).mono (by rintro e W9 ⟨r, rfl, hr, hq9, -⟩; exact ⟨r, rfl, hr, hq9⟩)) hctx ?_;refine JC.p hctx ?_;refine JC.p hctx ?_;refine JC.u (.int .i64 (IntKind.i64.wrap ((2) * (-(k : Int))))) (by exact congrArg (Value.int .i64) (aGS Hk.out)) hctx ?_;refine JC.u (.int .i64 (IntKind.i64.wrap ((-(2 * (k : Int) + (r : Int))) - (-(2 * (k : Int)))))) (by exact congrArg (Value.int .i64) (aGT Hr.out)) hctx ?_;refine JC.u (.int .i64 (IntKind.i64.wrap (0 - (-(r : Int))))) (by exact congrArg (Value.int .i64) (aGU Hr.out)) hctx ?_;refine JC.ca (fun vals W hN hd hk => (aGl ((r : Int)) (r) W (rfl) (Nat.lt_trans Hr.out (by decide))).mono (by rintro e W9 ⟨r, rfl, hr, hq9, -⟩; exact ⟨r, rfl, hr, hq9⟩)) hctx ?_;refine JC.ca (fun vals W hN hd hk => (aFu _ _ ((k) + (k)) (r) W (hd 6 (by kernel_rfl)) (hd 12 (by kernel_rfl)) B7.out B8.out).mono (by rintro e W9 ⟨r, rfl, hr, hq9, -⟩; exact ⟨r, rfl, hr, hq9⟩)) hctx ?_;refine JC.ca (fun vals W hN hd hk => (xJ W).mono (by rintro e W9 ⟨r, rfl, hr, hq9, -⟩; exact ⟨r, rfl, hr, hq9⟩)) hctx ?_;refine JC.ca (fun vals W hN hd hk => (zU (-1) _ _ (((k) + (k)) + (r)) (1) (((-(2 * (k : Int) + (r : Int)) : Int) : Rat)) W (hd 13 (by kernel_rfl)) (hd 14 (by kernel_rfl)) (fun _ => Nat.one_pos) (Or.inl rfl) (aGM k r) (fun h9 => by omega) B9.out B11.out).mono (by rintro e W9 ⟨r, rfl, hr, hq9⟩; exact ⟨r, rfl, hr, hq9⟩)) hctx ?_;refine JC.s3 (n := 0) rfl fRn hctx ?_;exact Ja.Steps.nil
  intro L vals w3 hall hJ;clear hAt2;have hG3 := hJ.q;obtain ⟨AR1, kR1, cR1, AR2, kR2, cR2, hR3, nR3⟩ := aFQ (g := w.heap.size) (t := 32) (hJ.stored 0 rfl rfl (hall 16 (by decide))) (show Rq w3 (vals 15) (((-(2 * (k : Int) + (r : Int)) : Int) : Rat)) from hJ.s 15 (hall 15 (by decide)));clear hall hJ;go_wp2_with fail
  exact bQ hR3 (⟨_, rfl, nR3, hG3⟩)
 ·have HN := Lib.hid hN; clear hN;obtain ⟨N, rfl⟩ : ∃ N : Nat, n = (N : Int) := ⟨n.toNat, by have := HN.out; omega⟩
  have hN9 : N < 9223372036854775808 := (by omega);have Hn := Lib.hid hN9; clear hN9 h1 h2;refine bJ (F := ?F4) ([.eq (.int .i64 ((N : Int))), .eq (.bool false)] : List Vs) ?hF4 ?st4 ?en4
  case hF4 =>
   intro vals;simp only [Ja.fillL, Act.put, List.setIfInBounds_toArray, List.set_cons_zero, List.set_cons_succ, Nat.reduceAdd];exact rfl
  case st4 =>
   intro hctx;refine JC.p hctx ?_;refine JC.u (.bool (decide (((N : Int)) < (0)))) (congrArg Value.bool (decide_eq_false (show ¬ (((N : Int) : Int) < 0) from HN.out))) hctx ?_;exact Ja.Steps.nil
  intro vals w1 hq1 hall;have hG1 := hG0.trans hq1;have hR1 := hR0.q hq1;clear hG0 hR0;have f5 : vals 1 = .bool false := hall 1 (by decide);rw [f5];clear f5;clear hall;go_upto_region 4 with fail
  have N1 : Hid (dg B30 (N) ≤ 3) := Lib.hid (by have h99 := dg3 (Hn.out); skip; omega);have B2 : Hid (31 * dg B30 (N) + 80 ≤ LIM) := Lib.hid (by have h50 := N1.out; skip; rw [aA] at *; omega);have N3 : Hid (dg B30 (1) ≤ 1) := Lib.hid (by have h99 := qM; skip; omega);have B4 : Hid (31 * dg B30 (1) + 80 ≤ LIM) := Lib.hid (by have h50 := N3.out; skip; rw [aA] at *; omega);have hAt1 : At0 w [⟨none, w.heap.size, 32, [.i, .s, .s], .agg #[.int .i64 0, .slice none 0 0, .slice none 0 0], 4, 3⟩] [] w1 := At0.of hG1 ⟨bA hR1 (by omega), trivial⟩ (by simp [dO]) trivial;clear hG1 hR1;refine cK (F := ?F5) w ([.eq (.int .i64 ((N : Int))), .gen (lZ (N)), .gen (lZ (1)), .gen (pRn (((N : Int) : Rat))), .any] : List Vs) _ _ (by kernel_rfl) hAt1 ?hF5 ?st5 ?en5
  case hF5 =>
   intro vals;simp only [Ja.fillL, Act.put, List.setIfInBounds_toArray, List.set_cons_zero, List.set_cons_succ, Nat.reduceAdd];exact rfl
  case st5 =>
   clear hAt1;intro hctx;refine JC.p hctx ?_;refine JC.ca (fun vals W hN hd hk => (aGl ((N : Int)) (N) W (rfl) (Hn.out)).mono (by rintro e W9 ⟨r, rfl, hr, hq9, -⟩; exact ⟨r, rfl, hr, hq9⟩)) hctx ?_;refine JC.ca (fun vals W hN hd hk => (xJ W).mono (by rintro e W9 ⟨r, rfl, hr, hq9, -⟩; exact ⟨r, rfl, hr, hq9⟩)) hctx ?_;refine JC.ca (fun vals W hN hd hk => (zU (1) _ _ (N) (1) (((N : Int) : Rat)) W (hd 1 (by kernel_rfl)) (hd 2 (by kernel_rfl)) (fun _ => Nat.one_pos) (Or.inr (Or.inr rfl)) (aGL N) (fun h9 => by omega) B2.out B4.out).mono (by rintro e W9 ⟨r, rfl, hr, hq9⟩; exact ⟨r, rfl, hr, hq9⟩)) hctx ?_;refine JC.s3 (n := 0) rfl fRn hctx ?_;exact Ja.Steps.nil
  intro L vals w2 hall hJ;clear hAt1;have hG2 := hJ.q;obtain ⟨AR1, kR1, cR1, AR2, kR2, cR2, hR2, nR2⟩ := aFQ (g := w.heap.size) (t := 32) (hJ.stored 0 rfl rfl (hall 4 (by decide))) (show Rq w2 (vals 3) (((N : Int) : Rat)) from hJ.s 3 (hall 3 (by decide)));clear hall hJ;go_wp2_with fail
  exact bQ hR2 (⟨_, rfl, nR2, hG2⟩)
theorem aGO (x y : Rat) : sz (mI x y).2 ≤ sz x + sz y + 2 := by
 unfold mI;split
 ·exact Nat.le_trans aAJ (Nat.le_add_left _ _)
 ·have h1 := qC x y⁻¹;have h2 := aEZ y;show sz (x * y⁻¹) ≤ _;omega
end Go.Proofs.YtgpacgadpnpjjaaGreatDoor.K
