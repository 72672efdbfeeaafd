/- ValueReads: for every string the law holds: what Read returns is what the document says. No condition.. Part of the proof: texts Kg5. -/
import Derived.Test.YtgpacgadpnpjjaaGreatDoorQp01
import Derived.Test.YtgpacgadpnpjjaaGreatDoorQp02
import Derived.Test.YtgpacgadpnpjjaaGreatDoorQp03
import Derived.Test.YtgpacgadpnpjjaaGreatDoorQp04
import Derived.Test.YtgpacgadpnpjjaaGreatDoorQp05
import Derived.Test.YtgpacgadpnpjjaaGreatDoorQp06
import Derived.Test.YtgpacgadpnpjjaaGreatDoorQp07
import Derived.Test.YtgpacgadpnpjjaaGreatDoorQp08
import Derived.Test.YtgpacgadpnpjjaaGreatDoorQp09
import Derived.Test.YtgpacgadpnpjjaaGreatDoorQp10
import Derived.Test.YtgpacgadpnpjjaaGreatDoorQp11
import Derived.Test.YtgpacgadpnpjjaaGreatDoorQp12
import Derived.Test.YtgpacgadpnpjjaaGreatDoorQp13
import Derived.Test.YtgpacgadpnpjjaaGreatDoorQp14
import Derived.Test.YtgpacgadpnpjjaaGreatDoorQp15
import Derived.Test.YtgpacgadpnpjjaaGreatDoorQp16
import Derived.Test.YtgpacgadpnpjjaaGreatDoorQp17
import Derived.Test.YtgpacgadpnpjjaaGreatDoorQp18
import Derived.Test.YtgpacgadpnpjjaaGreatDoorQp19
import Derived.Test.YtgpacgadpnpjjaaGreatDoorQp20
import Derived.Test.YtgpacgadpnpjjaaGreatDoorQp21
import Derived.Test.YtgpacgadpnpjjaaGreatDoorQp22
import Derived.Test.YtgpacgadpnpjjaaGreatDoorQp23
import Derived.Test.YtgpacgadpnpjjaaGreatDoorQp24
import Derived.Test.YtgpacgadpnpjjaaGreatDoorQp25
import Derived.Test.YtgpacgadpnpjjaaGreatDoorQp27
import Derived.Test.YtgpacgadpnpjjaaGreatDoorQd01
import Derived.Test.YtgpacgadpnpjjaaGreatDoorQd02
set_option maxHeartbeats 8000000
namespace Go.Proofs.YtgpacgadpnpjjaaGreatDoor.K
open Go.RowKit
open Ma Me
theorem JC.before2 {w0 : World} {ops : Array Oper} {l : List Vs} {cs : List Ce} {ks : List (Value × Vs)} {L : Nat → Bool} {vals : Nat → Value} {W : World} (h : JC w0 ops l cs ks L vals W) (n i : Nat) {x : Ce} (hx : cs[n]? = some x) (hal : x.al = none) (hi : L i = false) (h1 : waits ops x.st i = true) : NbV W x.g x.t x.ck x.row := by
 refine h.at n hx hal ?_;cases hs : L x.st with
 | false => rfl
 | true =>
   have := h.cl _ _ hs h1;rw [hi] at this; cases this
theorem aGV : (((1) : Int) : Rat) = aS ((0 : Nat) : Int) := aB3.symm
theorem aGW (i : Nat) : (aS (i : Int)) * ((((10) : Int) : Rat)) = aS ((i + 1 : Nat) : Int) := (aGB i).symm
theorem aGx {n : Nat} : mI (((1) : Int) : Rat) (aS (n : Int)) = (0, aS (-(n : Int))) := by
 have h0 : aS (n : Int) ≠ 0 := fun h => by have := yK (n : Int); rw [h] at this; exact absurd this (by decide)
 have h1 := aDh (n : Int);unfold mI;rw [if_neg h0, show (((1) : Int) : Rat) = 1 from rfl, Rat.one_mul];congr 1;grind
set_option maxRecDepth 100000 in
theorem aGX (n : Nat) (w : World) (hn : n ≤ 1000) :
  Calls Tryz.prog 98 #[.int .i64 (n : Int)] w fun e w' => ∃ r, e = .returned r ∧ Rq w' r (aS (n : Int)) ∧ Q w w' := by
 obtain ⟨w0, hW, hG0, hR0⟩ := yR w 32 [.int .i64 0, .slice none 0 0, .slice none 0 0];go_enter Tryz.func98, Tryz.ntmps98
 go_upto_region 1 with fail
 clear hW;have HN := Lib.hid hn; clear hn;have hs9 := hR0.lt;have Z1 : Hid (sz ((((1) : Int) : Rat)) ≤ 2) := Lib.hid (by have h99 := yO 1 (by decide); skip; omega);have hAt0 : At0 w0 [⟨some 1, 0, 32, [.i, .s, .s], .agg #[.int .i64 0, .slice none 0 0, .slice none 0 0], 2, 0⟩] [] w0 := At0.of (Q.refl _) ⟨fun h => (by cases h), trivial⟩ (by simp [dO]) trivial;refine cK (F := ?F1) w0 ([.gen (pRn (aS ((0 : Nat) : Int))), .any, .any] : List Vs) _ _ (by kernel_rfl) hAt0 ?hF1 ?st1 ?en1
 case hF1 =>
  intro vals;simp only [Ja.fillL, Act.put, List.setIfInBounds_toArray, List.set_cons_zero, List.set_cons_succ, Nat.reduceAdd];exact rfl
 case st1 =>
  clear hAt0;intro hctx;refine JC.ca (fun vals W hN hd hk => (aGs (1) W (by decide) (by decide)).mono (by rintro e W9 ⟨r, rfl, hr, hq9⟩; exact ⟨r, rfl, (by have h8 := hr; rw [show ((((1) : Int) : Rat) : Rat) = aS ((0 : Nat) : Int) from aGV] at h8; exact h8), hq9⟩)) hctx ?_;refine Ja.Steps.cons (JC.alloc (n := 0) (cells := [.int .i64 0, .slice none 0 0, .slice none 0 0].toArray) (t := 32) hctx (by kernel_rfl) (by rfl) (by kernel_rfl) (by rfl) (by rfl) (by kernel_rfl) (by rfl) (fun W => NbV.mk (t := 32) (ck := [.i, .s, .s]) (row := [.int .i64 0, .slice none 0 0, .slice none 0 0]) ⟨⟨_, rfl⟩, ⟨_, _, _, rfl⟩, ⟨_, _, _, rfl⟩, trivial⟩ (Bx.new W _ _)) ?_) ?_
  ·intro vals W K hK;go_simp
   exact hK.out _ (by kernel_rfl)
  refine JC.s3 (n := 0) rfl fRn hctx ?_;exact Ja.Steps.nil
 intro L vals w1 hall hJ;clear hAt0;have hq1 := hJ.q;have hG1 := hG0.trans hq1;have hR1 := hR0.q hq1;clear hG0 hR0;obtain ⟨gO, eO, geO, qO⟩ := hJ.fresh 0 rfl rfl (hall 1 (by decide)) (hall 2 (by decide));obtain ⟨AO1, kO1, cO1, AO2, kO2, cO2, hO1, nO1⟩ := aFQ (g := gO) (t := 32) qO (show Rq w1 (vals 0) (aS ((0 : Nat) : Int)) from hJ.s 0 (hall 0 (by decide)));clear qO;rw [eO];clear eO;clear hall hJ;go_upto_region 2 with fail
 refine bJ (F := ?F2) ([.eq (.int .i64 (0))] : List Vs) ?hF2 ?st2 ?en2
 case hF2 =>
  intro vals;simp only [Ja.fillL, Act.put, List.setIfInBounds_toArray, List.set_cons_zero, List.set_cons_succ];exact rfl
 case st2 =>
  intro hctx;refine JC.p hctx ?_;exact Ja.Steps.nil
 intro vals w2 hq2 hall;have hG2 := hG1.trans hq2;have hR2 := hR1.q hq2;have hO2 := hO1.q hq2;have nO2 := Rq.q nO1 hq2;clear hG1 hR1 hO1 nO1;have f4 : vals 0 = .int .i64 (0) := hall 0 (by decide);rw [f4];clear f4;clear hall;go_wp2_with fail
 go_loopw [4] (fun iv w1 => ∃ i : Nat, iv = .int .i64 (i : Int) ∧ i ≤ n ∧ Q w w1 ∧ Bx w1 (w.heap.size) 32 [.int .i64 0, .slice none 0 0, .slice none 0 0] ∧ ∃ AO1 kO1 cO1 AO2 kO2 cO2, Bx w1 (gO) 32 [.int .i64 (sn (aS (i : Int))), .slice AO1 kO1 cO1, .slice AO2 kO2 cO2] ∧ Rq w1 (.agg #[.int .i64 (sn (aS (i : Int))), .slice AO1 kO1 cO1, .slice AO2 kO2 cO2]) (aS (i : Int))) (fun iv _ => n - (intOf iv).toNat)
 case atStart => exact ⟨0, rfl, Nat.zero_le _, hG2, hR2, _, _, _, _, _, _, hO2, nO2⟩
 case round =>
  obtain ⟨i, rfl, hi, hG3, hR3, AO1, kO1, cO1, AO2, kO2, cO2, hO3, nO3⟩ := hrel;generalize wr = w3 at *
  clear hG2 hR2 hO2 nO2;have HI := Lib.hid hi; clear hi;have Z2 : Hid (sz (aS (i : Int)) ≤ 1002) := Lib.hid (by have h99 := qD (i : Int); have := HI.out; have := HN.out; skip; omega);by_cases hp : i < n
  ·have HP := Lib.hid hp; clear hp;go_upto_region 3 with fail
   refine bJ (F := ?F3) ([.eq (.int .i64 ((i : Int))), .eq (.int .i64 ((n : Int))), .eq (.bool true), .eq (.bool true), .no, .no, .no, .no, .eq (.bool true)] : List Vs) ?hF3 ?st3 ?en3
   case hF3 =>
    intro vals;simp only [Ja.fillL, Act.put, List.setIfInBounds_toArray, List.set_cons_zero, List.set_cons_succ, Nat.reduceAdd];exact rfl
   case st3 =>
    intro hctx;refine JC.p hctx ?_;refine JC.p hctx ?_;refine JC.u (.bool (decide (((i : Int)) < ((n : Int))))) (congrArg Value.bool (decide_eq_true (show (((i : Int) : Int) < (n : Int)) from by have := HP.out; omega))) hctx ?_;refine JC.p hctx ?_;refine JC.n hctx ?_;refine JC.n hctx ?_;refine JC.n hctx ?_;refine JC.n hctx ?_;refine JC.p hctx ?_;exact Ja.Steps.nil
   intro vals w4 hq4 hall;have hG4 := hG3.trans hq4;have hR4 := hR3.q hq4;have hO4 := hO3.q hq4;have nO4 := Rq.q nO3 hq4;clear hG3 hR3 hO3 nO3;have f14 : vals 8 = .bool true := hall 8 (by decide);rw [f14];clear f14;clear hall;go_upto_region 5 with fail
   have Z3 : Hid (sz ((((10) : Int) : Rat)) ≤ 2) := Lib.hid (by have h99 := yO 10 (by decide); skip; omega);have Z4 : Hid (sz ((aS (i : Int)) * ((((10) : Int) : Rat))) ≤ 1004) := Lib.hid (by have h99 := qC (aS (i : Int)) ((((10) : Int) : Rat)); have h0 := Z2.out; have h1 := Z3.out; omega);have B5 : Hid (1000 * (sz (aS (i : Int)) + sz ((((10) : Int) : Rat))) + 10000 ≤ LIM) := Lib.hid (by have h0 := Z2.out; have h1 := Z3.out; rw [aA] at *; omega);have hAt4 : At0 w [⟨none, w.heap.size, 32, [.i, .s, .s], .agg #[.int .i64 0, .slice none 0 0, .slice none 0 0], 1000, 0⟩, ⟨none, gO, 32, [.i, .s, .s], .agg #[.int .i64 (sn (aS (i : Int))), .slice AO1 kO1 cO1, .slice AO2 kO2 cO2], 3, 2⟩] [(.agg #[.int .i64 (sn (aS (i : Int))), .slice AO1 kO1 cO1, .slice AO2 kO2 cO2], .gen (pRn (aS (i : Int))))] w4 := At0.of hG4 ⟨bA hR4 (by omega), bA hO4 (by omega), trivial⟩ (by (simp [dO] <;> omega)) ⟨nO4, trivial⟩;clear hG4 hR4 hO4 nO4;refine mE (F := ?F4) w ([.gen (pRn (aS (i : Int))), .gen (pRn ((((10) : Int) : Rat))), .gen (pRn (aS ((i + 1 : Nat) : Int))), .any] : List Vs) _ _ (by kernel_rfl) (by kernel_rfl) hAt4 ?hF4 ?st4 ?en4
   case hF4 =>
    intro vals;simp only [Ja.fillL, Act.put, List.setIfInBounds_toArray, List.set_cons_zero, List.set_cons_succ, Nat.reduceAdd];exact rfl
   case st4 =>
    clear hAt4;intro hctx;refine JC.r3 (off := 0) (row := [.int .i64 (sn (aS (i : Int))), .slice AO1 kO1 cO1, .slice AO2 kO2 cO2]) (fun _ _ _ hL hJ => hJ.before 1 0 rfl rfl hL (by kernel_rfl) (by kernel_rfl)) (fun _ _ _ hJ => (hJ.kept 0 rfl)) hctx ?_;refine JC.ca (fun vals W hN hd hk => (aGs (10) W (by decide) (by decide)).mono (by rintro e W9 ⟨r, rfl, hr, hq9⟩; exact ⟨r, rfl, hr, hq9⟩)) hctx ?_;refine JC.ca (fun vals W hN hd hk => (aGr _ _ (aS (i : Int)) ((((10) : Int) : Rat)) W (hd 0 (by kernel_rfl)) (hd 1 (by kernel_rfl)) B5.out).mono (by rintro e W9 ⟨r, rfl, hr, hq9⟩; exact ⟨r, rfl, (by have h8 := hr; rw [show ((aS (i : Int)) * ((((10) : Int) : Rat)) : Rat) = aS ((i + 1 : Nat) : Int) from aGW i] at h8; exact h8), hq9⟩)) hctx ?_;refine JC.s3 (n := 1) rfl fRn hctx ?_;exact Ja.Steps.nil
   intro L vals w5 hall hJ;clear hAt4;have hG5 := hJ.q;have hR5 : Bx w5 (w.heap.size) 32 [.int .i64 0, .slice none 0 0, .slice none 0 0] := NbV.out (hJ.still 0 rfl rfl (Nat.le_of_ble_eq_true (by kernel_rfl)));obtain ⟨AO1, kO1, cO1, AO2, kO2, cO2, hO5, nO5⟩ := aFQ (g := gO) (t := 32) (hJ.stored 1 rfl rfl (hall 3 (by decide))) (show Rq w5 (vals 2) (aS ((i + 1 : Nat) : Int)) from hJ.s 2 (hall 2 (by decide)));clear hall hJ;have hp1 := HP.out; have hn1 := HN.out;go_wp2_with fail
   exact ⟨⟨i + 1, rfl, by have := HP.out; omega, hG5, hR5, _, _, _, _, _, _, hO5, nO5⟩, by have := HP.out; simp [intOf]; omega⟩
  ·have hin : i = n := (by have := HI.out; omega);subst hin;clear hp;go_upto_region 3 with fail
   refine bJ (F := ?F5) ([.eq (.int .i64 ((i : Int))), .eq (.int .i64 ((i : Int))), .eq (.bool false), .eq (.bool false), .eq (.int .i64 ((i : Int))), .eq (.int .i64 ((i : Int))), .eq (.int .i64 (-(i : Int))), .eq (.bool false), .eq (.bool false)] : List Vs) ?hF5 ?st5 ?en5
   case hF5 =>
    intro vals;simp only [Ja.fillL, Act.put, List.setIfInBounds_toArray, List.set_cons_zero, List.set_cons_succ, Nat.reduceAdd];exact rfl
   case st5 =>
    intro hctx;refine JC.p hctx ?_;refine JC.p hctx ?_;refine JC.u (.bool (decide (((i : Int)) < ((i : Int))))) (congrArg Value.bool (decide_eq_false (show ¬ (((i : Int) : Int) < (i : Int)) from by omega))) hctx ?_;refine JC.p hctx ?_;refine JC.p hctx ?_;refine JC.p hctx ?_;refine JC.u (.int .i64 (IntKind.i64.wrap (0 - ((i : Int))))) (by exact congrArg (Value.int .i64) (show IntKind.i64.wrap (0 - ((i : Int))) = -(i : Int) from by rw [Int.zero_sub]; exact dA (by have := HN.out; omega) (by have := HN.out; omega))) hctx ?_;refine JC.u (.bool (decide (((i : Int)) < (-(i : Int))))) (congrArg Value.bool (decide_eq_false (show ¬ (((i : Int) : Int) < -(i : Int)) from by omega))) hctx ?_;refine JC.p hctx ?_;exact Ja.Steps.nil
   intro vals w4 hq4 hall;have hG4 := hG3.trans hq4;have hR4 := hR3.q hq4;have hO4 := hO3.q hq4;have nO4 := Rq.q nO3 hq4;clear hG3 hR3 hO3 nO3;have f14 : vals 8 = .bool false := hall 8 (by decide);rw [f14];clear f14;clear hall;go_upto_region 6 with fail
   refine bJ (F := ?F6) ([.eq (.int .i64 ((i : Int))), .eq (.bool false)] : List Vs) ?hF6 ?st6 ?en6
   case hF6 =>
    intro vals;simp only [Ja.fillL, Act.put, List.setIfInBounds_toArray, List.set_cons_zero, List.set_cons_succ, Nat.reduceAdd];exact rfl
   case st6 =>
    intro hctx;refine JC.p hctx ?_;refine JC.u (.bool (decide (((i : Int)) < (0)))) (congrArg Value.bool (decide_eq_false (show ¬ (((i : Int) : Int) < 0) from by omega))) hctx ?_;exact Ja.Steps.nil
   intro vals w5 hq5 hall;have hG5 := hG4.trans hq5;have hR5 := hR4.q hq5;have hO5 := hO4.q hq5;have nO5 := Rq.q nO4 hq5;clear hG4 hR4 hO4 nO4;have f21 : vals 1 = .bool false := hall 1 (by decide);rw [f21];clear f21;clear hall;go_upto_region 8 with fail
   have hAt5 : At0 w [⟨none, w.heap.size, 32, [.i, .s, .s], .agg #[.int .i64 0, .slice none 0 0, .slice none 0 0], 1, 0⟩, ⟨none, gO, 32, [.i, .s, .s], .agg #[.int .i64 (sn (aS (i : Int))), .slice AO1 kO1 cO1, .slice AO2 kO2 cO2], 1000, 0⟩] [(.agg #[.int .i64 (sn (aS (i : Int))), .slice AO1 kO1 cO1, .slice AO2 kO2 cO2], .gen (pRn (aS (i : Int))))] w5 := At0.of hG5 ⟨bA hR5 (by omega), bA hO5 (by omega), trivial⟩ (by (simp [dO] <;> omega)) ⟨nO5, trivial⟩;clear hG5 hR5 hO5 nO5;refine cK (F := ?F7) w ([.gen (pRn (aS (i : Int))), .any] : List Vs) _ _ (by kernel_rfl) hAt5 ?hF7 ?st7 ?en7
   case hF7 =>
    intro vals;simp only [Ja.fillL, Act.put, List.setIfInBounds_toArray, List.set_cons_zero, List.set_cons_succ];exact rfl
   case st7 =>
    clear hAt5;intro hctx;refine JC.r3 (off := 0) (row := [.int .i64 (sn (aS (i : Int))), .slice AO1 kO1 cO1, .slice AO2 kO2 cO2]) (fun _ _ _ hL hJ => hJ.still 1 rfl rfl (Nat.le_of_ble_eq_true (by kernel_rfl))) (fun _ _ _ hJ => (hJ.kept 0 rfl)) hctx ?_;refine JC.s3 (n := 0) rfl fRn hctx ?_;exact Ja.Steps.nil
   intro L vals w6 hall hJ;clear hAt5;have hG6 := hJ.q;obtain ⟨AR1, kR1, cR1, AR2, kR2, cR2, hR6, nR6⟩ := aFQ (g := w.heap.size) (t := 32) (hJ.stored 0 rfl rfl (hall 1 (by decide))) (show Rq w6 (vals 0) (aS (i : Int)) from hJ.s 0 (hall 0 (by decide)));clear hall hJ;go_wp2_with fail
   exact bQ hR6 (⟨_, rfl, nR6, hG6⟩)
set_option maxRecDepth 100000 in
theorem aGY (n : Nat) (w : World) (hn0 : 0 < n) (hn : n ≤ 1000) :
  Calls Tryz.prog 98 #[.int .i64 (-(n : Int))] w fun e w' => ∃ r, e = .returned r ∧ Rq w' r (aS (-(n : Int))) ∧ Q w w' := by
 obtain ⟨w0, hW, hG0, hR0⟩ := yR w 32 [.int .i64 0, .slice none 0 0, .slice none 0 0];go_enter Tryz.func98, Tryz.ntmps98
 go_upto_region 1 with fail
 clear hW;have HN := Lib.hid hn; clear hn;have HN0 := Lib.hid hn0; clear hn0;have hs9 := hR0.lt;have Z1 : Hid (sz ((((1) : Int) : Rat)) ≤ 2) := Lib.hid (by have h99 := yO 1 (by decide); skip; omega);have hAt0 : At0 w0 [⟨some 1, 0, 32, [.i, .s, .s], .agg #[.int .i64 0, .slice none 0 0, .slice none 0 0], 2, 0⟩] [] w0 := At0.of (Q.refl _) ⟨fun h => (by cases h), trivial⟩ (by simp [dO]) trivial;refine cK (F := ?F8) w0 ([.gen (pRn (aS ((0 : Nat) : Int))), .any, .any] : List Vs) _ _ (by kernel_rfl) hAt0 ?hF8 ?st8 ?en8
 case hF8 =>
  intro vals;simp only [Ja.fillL, Act.put, List.setIfInBounds_toArray, List.set_cons_zero, List.set_cons_succ, Nat.reduceAdd];exact rfl
 case st8 =>
  clear hAt0;intro hctx;refine JC.ca (fun vals W hN hd hk => (aGs (1) W (by decide) (by decide)).mono (by rintro e W9 ⟨r, rfl, hr, hq9⟩; exact ⟨r, rfl, (by have h8 := hr; rw [show ((((1) : Int) : Rat) : Rat) = aS ((0 : Nat) : Int) from aGV] at h8; exact h8), hq9⟩)) hctx ?_;refine Ja.Steps.cons (JC.alloc (n := 0) (cells := [.int .i64 0, .slice none 0 0, .slice none 0 0].toArray) (t := 32) hctx (by kernel_rfl) (by rfl) (by kernel_rfl) (by rfl) (by rfl) (by kernel_rfl) (by rfl) (fun W => NbV.mk (t := 32) (ck := [.i, .s, .s]) (row := [.int .i64 0, .slice none 0 0, .slice none 0 0]) ⟨⟨_, rfl⟩, ⟨_, _, _, rfl⟩, ⟨_, _, _, rfl⟩, trivial⟩ (Bx.new W _ _)) ?_) ?_
  ·intro vals W K hK;go_simp
   exact hK.out _ (by kernel_rfl)
  refine JC.s3 (n := 0) rfl fRn hctx ?_;exact Ja.Steps.nil
 intro L vals w1 hall hJ;clear hAt0;have hq1 := hJ.q;have hG1 := hG0.trans hq1;have hR1 := hR0.q hq1;clear hG0 hR0;obtain ⟨gO, eO, geO, qO⟩ := hJ.fresh 0 rfl rfl (hall 1 (by decide)) (hall 2 (by decide));obtain ⟨AO1, kO1, cO1, AO2, kO2, cO2, hO1, nO1⟩ := aFQ (g := gO) (t := 32) qO (show Rq w1 (vals 0) (aS ((0 : Nat) : Int)) from hJ.s 0 (hall 0 (by decide)));clear qO;rw [eO];clear eO;clear hall hJ;go_upto_region 2 with fail
 refine bJ (F := ?F9) ([.eq (.int .i64 (0))] : List Vs) ?hF9 ?st9 ?en9
 case hF9 =>
  intro vals;simp only [Ja.fillL, Act.put, List.setIfInBounds_toArray, List.set_cons_zero, List.set_cons_succ];exact rfl
 case st9 =>
  intro hctx;refine JC.p hctx ?_;exact Ja.Steps.nil
 intro vals w2 hq2 hall;have hG2 := hG1.trans hq2;have hR2 := hR1.q hq2;have hO2 := hO1.q hq2;have nO2 := Rq.q nO1 hq2;clear hG1 hR1 hO1 nO1;have f4 : vals 0 = .int .i64 (0) := hall 0 (by decide);rw [f4];clear f4;clear hall;go_wp2_with fail
 go_loopw [4] (fun iv w1 => ∃ i : Nat, iv = .int .i64 (i : Int) ∧ i ≤ n ∧ Q w w1 ∧ Bx w1 (w.heap.size) 32 [.int .i64 0, .slice none 0 0, .slice none 0 0] ∧ ∃ AO1 kO1 cO1 AO2 kO2 cO2, Bx w1 (gO) 32 [.int .i64 (sn (aS (i : Int))), .slice AO1 kO1 cO1, .slice AO2 kO2 cO2] ∧ Rq w1 (.agg #[.int .i64 (sn (aS (i : Int))), .slice AO1 kO1 cO1, .slice AO2 kO2 cO2]) (aS (i : Int))) (fun iv _ => n - (intOf iv).toNat)
 case atStart => exact ⟨0, rfl, Nat.zero_le _, hG2, hR2, _, _, _, _, _, _, hO2, nO2⟩
 case round =>
  obtain ⟨i, rfl, hi, hG3, hR3, AO1, kO1, cO1, AO2, kO2, cO2, hO3, nO3⟩ := hrel;generalize wr = w3 at *
  clear hG2 hR2 hO2 nO2;have HI := Lib.hid hi; clear hi;have Z2 : Hid (sz (aS (i : Int)) ≤ 1002) := Lib.hid (by have h99 := qD (i : Int); have := HI.out; have := HN.out; skip; omega);by_cases hp : i < n
  ·have HP := Lib.hid hp; clear hp;go_upto_region 3 with fail
   refine bJ (F := ?F10) ([.eq (.int .i64 ((i : Int))), .eq (.int .i64 (-(n : Int))), .eq (.bool false), .eq (.bool false), .eq (.int .i64 ((i : Int))), .eq (.int .i64 (-(n : Int))), .eq (.int .i64 ((n : Int))), .eq (.bool true), .eq (.bool true)] : List Vs) ?hF10 ?st10 ?en10
   case hF10 =>
    intro vals;simp only [Ja.fillL, Act.put, List.setIfInBounds_toArray, List.set_cons_zero, List.set_cons_succ, Nat.reduceAdd];exact rfl
   case st10 =>
    intro hctx;refine JC.p hctx ?_;refine JC.p hctx ?_;refine JC.u (.bool (decide (((i : Int)) < (-(n : Int))))) (congrArg Value.bool (decide_eq_false (show ¬ (((i : Int) : Int) < -(n : Int)) from by have := HN0.out; omega))) hctx ?_;refine JC.p hctx ?_;refine JC.p hctx ?_;refine JC.p hctx ?_;refine JC.u (.int .i64 (IntKind.i64.wrap (0 - (-(n : Int))))) (by exact congrArg (Value.int .i64) (show IntKind.i64.wrap (0 - (-(n : Int))) = (n : Int) from by rw [Int.zero_sub, Int.neg_neg]; exact dA (by have := HN.out; omega) (by have := HN.out; omega))) hctx ?_;refine JC.u (.bool (decide (((i : Int)) < ((n : Int))))) (congrArg Value.bool (decide_eq_true (show (((i : Int) : Int) < (n : Int)) from by have := HP.out; omega))) hctx ?_;refine JC.p hctx ?_;exact Ja.Steps.nil
   intro vals w4 hq4 hall;have hG4 := hG3.trans hq4;have hR4 := hR3.q hq4;have hO4 := hO3.q hq4;have nO4 := Rq.q nO3 hq4;clear hG3 hR3 hO3 nO3;have f14 : vals 8 = .bool true := hall 8 (by decide);rw [f14];clear f14;clear hall;go_upto_region 5 with fail
   have Z3 : Hid (sz ((((10) : Int) : Rat)) ≤ 2) := Lib.hid (by have h99 := yO 10 (by decide); skip; omega);have Z4 : Hid (sz ((aS (i : Int)) * ((((10) : Int) : Rat))) ≤ 1004) := Lib.hid (by have h99 := qC (aS (i : Int)) ((((10) : Int) : Rat)); have h0 := Z2.out; have h1 := Z3.out; omega);have B5 : Hid (1000 * (sz (aS (i : Int)) + sz ((((10) : Int) : Rat))) + 10000 ≤ LIM) := Lib.hid (by have h0 := Z2.out; have h1 := Z3.out; rw [aA] at *; omega);have hAt4 : At0 w [⟨none, w.heap.size, 32, [.i, .s, .s], .agg #[.int .i64 0, .slice none 0 0, .slice none 0 0], 1000, 0⟩, ⟨none, gO, 32, [.i, .s, .s], .agg #[.int .i64 (sn (aS (i : Int))), .slice AO1 kO1 cO1, .slice AO2 kO2 cO2], 3, 2⟩] [(.agg #[.int .i64 (sn (aS (i : Int))), .slice AO1 kO1 cO1, .slice AO2 kO2 cO2], .gen (pRn (aS (i : Int))))] w4 := At0.of hG4 ⟨bA hR4 (by omega), bA hO4 (by omega), trivial⟩ (by (simp [dO] <;> omega)) ⟨nO4, trivial⟩;clear hG4 hR4 hO4 nO4;refine mE (F := ?F11) w ([.gen (pRn (aS (i : Int))), .gen (pRn ((((10) : Int) : Rat))), .gen (pRn (aS ((i + 1 : Nat) : Int))), .any] : List Vs) _ _ (by kernel_rfl) (by kernel_rfl) hAt4 ?hF11 ?st11 ?en11
   case hF11 =>
    intro vals;simp only [Ja.fillL, Act.put, List.setIfInBounds_toArray, List.set_cons_zero, List.set_cons_succ, Nat.reduceAdd];exact rfl
   case st11 =>
    clear hAt4;intro hctx;refine JC.r3 (off := 0) (row := [.int .i64 (sn (aS (i : Int))), .slice AO1 kO1 cO1, .slice AO2 kO2 cO2]) (fun _ _ _ hL hJ => hJ.before 1 0 rfl rfl hL (by kernel_rfl) (by kernel_rfl)) (fun _ _ _ hJ => (hJ.kept 0 rfl)) hctx ?_;refine JC.ca (fun vals W hN hd hk => (aGs (10) W (by decide) (by decide)).mono (by rintro e W9 ⟨r, rfl, hr, hq9⟩; exact ⟨r, rfl, hr, hq9⟩)) hctx ?_;refine JC.ca (fun vals W hN hd hk => (aGr _ _ (aS (i : Int)) ((((10) : Int) : Rat)) W (hd 0 (by kernel_rfl)) (hd 1 (by kernel_rfl)) B5.out).mono (by rintro e W9 ⟨r, rfl, hr, hq9⟩; exact ⟨r, rfl, (by have h8 := hr; rw [show ((aS (i : Int)) * ((((10) : Int) : Rat)) : Rat) = aS ((i + 1 : Nat) : Int) from aGW i] at h8; exact h8), hq9⟩)) hctx ?_;refine JC.s3 (n := 1) rfl fRn hctx ?_;exact Ja.Steps.nil
   intro L vals w5 hall hJ;clear hAt4;have hG5 := hJ.q;have hR5 : Bx w5 (w.heap.size) 32 [.int .i64 0, .slice none 0 0, .slice none 0 0] := NbV.out (hJ.still 0 rfl rfl (Nat.le_of_ble_eq_true (by kernel_rfl)));obtain ⟨AO1, kO1, cO1, AO2, kO2, cO2, hO5, nO5⟩ := aFQ (g := gO) (t := 32) (hJ.stored 1 rfl rfl (hall 3 (by decide))) (show Rq w5 (vals 2) (aS ((i + 1 : Nat) : Int)) from hJ.s 2 (hall 2 (by decide)));clear hall hJ;have hp1 := HP.out; have hn1 := HN.out;go_wp2_with fail
   exact ⟨⟨i + 1, rfl, by have := HP.out; omega, hG5, hR5, _, _, _, _, _, _, hO5, nO5⟩, by have := HP.out; simp [intOf]; omega⟩
  ·have hin : i = n := (by have := HI.out; omega);subst hin;clear hp;go_upto_region 3 with fail
   refine bJ (F := ?F12) ([.eq (.int .i64 ((i : Int))), .eq (.int .i64 (-(i : Int))), .eq (.bool false), .eq (.bool false), .eq (.int .i64 ((i : Int))), .eq (.int .i64 (-(i : Int))), .eq (.int .i64 ((i : Int))), .eq (.bool false), .eq (.bool false)] : List Vs) ?hF12 ?st12 ?en12
   case hF12 =>
    intro vals;simp only [Ja.fillL, Act.put, List.setIfInBounds_toArray, List.set_cons_zero, List.set_cons_succ, Nat.reduceAdd];exact rfl
   case st12 =>
    intro hctx;refine JC.p hctx ?_;refine JC.p hctx ?_;refine JC.u (.bool (decide (((i : Int)) < (-(i : Int))))) (congrArg Value.bool (decide_eq_false (show ¬ (((i : Int) : Int) < -(i : Int)) from by have := HN0.out; omega))) hctx ?_;refine JC.p hctx ?_;refine JC.p hctx ?_;refine JC.p hctx ?_;refine JC.u (.int .i64 (IntKind.i64.wrap (0 - (-(i : Int))))) (by exact congrArg (Value.int .i64) (show IntKind.i64.wrap (0 - (-(i : Int))) = (i : Int) from by rw [Int.zero_sub, Int.neg_neg]; exact dA (by have := HN.out; omega) (by have := HN.out; omega))) hctx ?_;refine JC.u (.bool (decide (((i : Int)) < ((i : Int))))) (congrArg Value.bool (decide_eq_false (show ¬ (((i : Int) : Int) < (i : Int)) from by omega))) hctx ?_;refine JC.p hctx ?_;exact Ja.Steps.nil
   intro vals w4 hq4 hall;have hG4 := hG3.trans hq4;have hR4 := hR3.q hq4;have hO4 := hO3.q hq4;have nO4 := Rq.q nO3 hq4;clear hG3 hR3 hO3 nO3;have f14 : vals 8 = .bool false := hall 8 (by decide);rw [f14];clear f14;clear hall;go_upto_region 6 with fail
   refine bJ (F := ?F13) ([.eq (.int .i64 (-(i : Int))), .eq (.bool true)] : List Vs) ?hF13 ?st13 ?en13
   case hF13 =>
    intro vals;simp only [Ja.fillL, Act.put, List.setIfInBounds_toArray, List.set_cons_zero, List.set_cons_succ, Nat.reduceAdd];exact rfl
   case st13 =>
    intro hctx;refine JC.p hctx ?_;refine JC.u (.bool (decide ((-(i : Int)) < (0)))) (congrArg Value.bool (decide_eq_true (show ((-(i : Int) : Int) < 0) from by have := HN0.out; omega))) hctx ?_;exact Ja.Steps.nil
   intro vals w5 hq5 hall;have hG5 := hG4.trans hq5;have hR5 := hR4.q hq5;have hO5 := hO4.q hq5;have nO5 := Rq.q nO4 hq5;clear hG4 hR4 hO4 nO4;have f21 : vals 1 = .bool true := hall 1 (by decide);rw [f21];clear f21;clear hall;go_upto_region 7 with fail
   have Z3 : Hid (sz ((mI ((((1) : Int) : Rat)) (aS (i : Int))).2) ≤ 1006) := Lib.hid (by have h99 := aGO ((((1) : Int) : Rat)) (aS (i : Int)); have h0 := Z1.out; have h1 := Z2.out; omega);have B4 : Hid (1000 * (sz ((((1) : Int) : Rat)) + sz (aS (i : Int))) + 20000 ≤ LIM) := Lib.hid (by have h0 := Z1.out; have h1 := Z2.out; rw [aA] at *; omega);have hAt5 : At0 w [⟨none, w.heap.size, 32, [.i, .s, .s], .agg #[.int .i64 0, .slice none 0 0, .slice none 0 0], 1000, 0⟩, ⟨none, gO, 32, [.i, .s, .s], .agg #[.int .i64 (sn (aS (i : Int))), .slice AO1 kO1 cO1, .slice AO2 kO2 cO2], 6, 4⟩] [(.agg #[.int .i64 (sn (aS (i : Int))), .slice AO1 kO1 cO1, .slice AO2 kO2 cO2], .gen (pRn (aS (i : Int))))] w5 := At0.of hG5 ⟨bA hR5 (by omega), bA hO5 (by omega), trivial⟩ (by (simp [dO] <;> omega)) ⟨nO5, trivial⟩;clear hG5 hR5 hO5 nO5;refine mE (F := ?F14) w ([.gen (pRn ((((1) : Int) : Rat))), .gen (pRn (aS (i : Int))), .gen (pT2 (pRn (aS (-(i : Int)))) (pEq (.int .i64 (0)))), .gen (pT2 (pRn (aS (-(i : Int)))) (pEq (.int .i64 (0)))), .gen (pRn (aS (-(i : Int)))), .eq (.int .i64 (0)), .any] : List Vs) _ _ (by kernel_rfl) (by kernel_rfl) hAt5 ?hF14 ?st14 ?en14
   case hF14 =>
    intro vals;simp only [Ja.fillL, Act.put, List.setIfInBounds_toArray, List.set_cons_zero, List.set_cons_succ, Nat.reduceAdd];exact rfl
   case st14 =>
    clear hAt5;intro hctx;refine JC.ca (fun vals W hN hd hk => (aGs (1) W (by decide) (by decide)).mono (by rintro e W9 ⟨r, rfl, hr, hq9⟩; exact ⟨r, rfl, hr, hq9⟩)) hctx ?_;refine JC.r3 (off := 0) (row := [.int .i64 (sn (aS (i : Int))), .slice AO1 kO1 cO1, .slice AO2 kO2 cO2]) (fun _ _ _ hL hJ => hJ.before2 1 1 rfl rfl hL (by kernel_rfl)) (fun _ _ _ hJ => (hJ.kept 0 rfl)) hctx ?_;refine JC.ca (fun vals W hN hd hk => (aG1 _ _ ((((1) : Int) : Rat)) (aS (i : Int)) W (hd 0 (by kernel_rfl)) (hd 1 (by kernel_rfl)) B4.out).mono (by rintro e W9 ⟨r, rfl, hr, hq9⟩; exact ⟨(.tuple #[r, .int .i64 ((mI ((((1) : Int) : Rat)) (aS (i : Int))).1)]), rfl, ⟨_, _, rfl, (by have h8 := hr; rw [aGx] at h8; exact h8), congrArg (Value.int .i64) (by rw [aGx])⟩, hq9⟩)) hctx ?_;refine JC.m 2 hctx ?_;refine JC.o hctx ?_ ?_
    ·intro L vals W hL hJ hd K hK;have d3 : (pT2 (pRn (aS (-(i : Int)))) (pEq (.int .i64 (0)))).p (vals 3) W := hd 3 (by kernel_rfl);generalize vals 3 = u3 at d3 hK ⊢;obtain ⟨e0, e1, rfl, he0, he1⟩ := d3;go_simp
     exact hK.out (e0) _ _ (by kernel_rfl) he0 (Q.refl _)
    refine JC.o hctx ?_ ?_
    ·intro L vals W hL hJ hd K hK;have d3 : (pT2 (pRn (aS (-(i : Int)))) (pEq (.int .i64 (0)))).p (vals 3) W := hd 3 (by kernel_rfl);generalize vals 3 = u3 at d3 hK ⊢;obtain ⟨e0, e1, rfl, he0, he1⟩ := d3;obtain rfl : e1 = .int .i64 (0) := he1;go_simp
     exact hK.out (.int .i64 (0)) _ _ (by kernel_rfl) rfl (Q.refl _)
    refine JC.s3 (n := 1) rfl fRn hctx ?_;exact Ja.Steps.nil
   intro L vals w6 hall hJ;clear hAt5;have hG6 := hJ.q;have hR6 : Bx w6 (w.heap.size) 32 [.int .i64 0, .slice none 0 0, .slice none 0 0] := NbV.out (hJ.still 0 rfl rfl (Nat.le_of_ble_eq_true (by kernel_rfl)));obtain ⟨AO1, kO1, cO1, AO2, kO2, cO2, hO6, nO6⟩ := aFQ (g := gO) (t := 32) (hJ.stored 1 rfl rfl (hall 6 (by decide))) (show Rq w6 (vals 4) (aS (-(i : Int))) from hJ.s 4 (hall 4 (by decide)));clear hall hJ;go_upto_region 8 with fail
   have hAt6 : At0 w [⟨none, w.heap.size, 32, [.i, .s, .s], .agg #[.int .i64 0, .slice none 0 0, .slice none 0 0], 1, 0⟩, ⟨none, gO, 32, [.i, .s, .s], .agg #[.int .i64 (sn (aS (-(i : Int)))), .slice AO1 kO1 cO1, .slice AO2 kO2 cO2], 1000, 0⟩] [(.agg #[.int .i64 (sn (aS (-(i : Int)))), .slice AO1 kO1 cO1, .slice AO2 kO2 cO2], .gen (pRn (aS (-(i : Int)))))] w6 := At0.of hG6 ⟨bA hR6 (by omega), bA hO6 (by omega), trivial⟩ (by (simp [dO] <;> omega)) ⟨nO6, trivial⟩;clear hG6 hR6 hO6 nO6;refine cK (F := ?F15) w ([.gen (pRn (aS (-(i : Int)))), .any] : List Vs) _ _ (by kernel_rfl) hAt6 ?hF15 ?st15 ?en15
   case hF15 =>
    intro vals;simp only [Ja.fillL, Act.put, List.setIfInBounds_toArray, List.set_cons_zero, List.set_cons_succ];exact rfl
   case st15 =>
    clear hAt6;intro hctx;refine JC.r3 (off := 0) (row := [.int .i64 (sn (aS (-(i : Int)))), .slice AO1 kO1 cO1, .slice AO2 kO2 cO2]) (fun _ _ _ hL hJ => hJ.still 1 rfl rfl (Nat.le_of_ble_eq_true (by kernel_rfl))) (fun _ _ _ hJ => (hJ.kept 0 rfl)) hctx ?_;refine JC.s3 (n := 0) rfl fRn hctx ?_;exact Ja.Steps.nil
   intro L vals w7 hall hJ;clear hAt6;have hG7 := hJ.q;obtain ⟨AR1, kR1, cR1, AR2, kR2, cR2, hR7, nR7⟩ := aFQ (g := w.heap.size) (t := 32) (hJ.stored 0 rfl rfl (hall 1 (by decide))) (show Rq w7 (vals 0) (aS (-(i : Int))) from hJ.s 0 (hall 0 (by decide)));clear hall hJ;go_wp2_with fail
   exact bQ hR7 (⟨_, rfl, nR7, hG7⟩)
theorem aGI (z : Int) (w : World) (hz : z.natAbs ≤ 1000) :
  Calls Tryz.prog 98 #[.int .i64 z] w fun e w' => ∃ r, e = .returned r ∧ Rq w' r (aS (z)) ∧ Q w w' := by
 by_cases h0 : z < 0
 ·obtain ⟨n, h1, rfl⟩ : ∃ n : Nat, 0 < n ∧ z = -(n : Int) := ⟨(-z).toNat, by omega, by omega⟩
  exact aGY n w h1 (by omega)
 ·obtain ⟨n, rfl⟩ : ∃ n : Nat, z = (n : Int) := ⟨z.toNat, by omega⟩
  exact aGX n w (by omega)
end Go.Proofs.YtgpacgadpnpjjaaGreatDoor.K
