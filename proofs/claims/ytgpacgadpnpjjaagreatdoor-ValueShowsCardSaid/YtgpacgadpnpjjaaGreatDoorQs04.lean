/- ValueShows: for every two strings the law holds: Show of the number that the first one is, and of its product with the other one, is what the document says, or nothing if one is none. No condition.. Part of the proof: texts Kg7. -/
import Derived.Test.YtgpacgadpnpjjaaGreatDoorQp01
import Derived.Test.YtgpacgadpnpjjaaGreatDoorQp02
import Derived.Test.YtgpacgadpnpjjaaGreatDoorQp03
import Derived.Test.YtgpacgadpnpjjaaGreatDoorQp04
import Derived.Test.YtgpacgadpnpjjaaGreatDoorQp05
import Derived.Test.YtgpacgadpnpjjaaGreatDoorQp06
import Derived.Test.YtgpacgadpnpjjaaGreatDoorQp07
import Derived.Test.YtgpacgadpnpjjaaGreatDoorQp08
import Derived.Test.YtgpacgadpnpjjaaGreatDoorQp09
import Derived.Test.YtgpacgadpnpjjaaGreatDoorQp10
import Derived.Test.YtgpacgadpnpjjaaGreatDoorQp11
import Derived.Test.YtgpacgadpnpjjaaGreatDoorQp12
import Derived.Test.YtgpacgadpnpjjaaGreatDoorQp13
import Derived.Test.YtgpacgadpnpjjaaGreatDoorQp14
import Derived.Test.YtgpacgadpnpjjaaGreatDoorQp15
import Derived.Test.YtgpacgadpnpjjaaGreatDoorQp16
import Derived.Test.YtgpacgadpnpjjaaGreatDoorQp17
import Derived.Test.YtgpacgadpnpjjaaGreatDoorQp18
import Derived.Test.YtgpacgadpnpjjaaGreatDoorQp19
import Derived.Test.YtgpacgadpnpjjaaGreatDoorQp20
import Derived.Test.YtgpacgadpnpjjaaGreatDoorQp21
import Derived.Test.YtgpacgadpnpjjaaGreatDoorQp22
import Derived.Test.YtgpacgadpnpjjaaGreatDoorQp23
import Derived.Test.YtgpacgadpnpjjaaGreatDoorQp24
import Derived.Test.YtgpacgadpnpjjaaGreatDoorQp25
import Derived.Test.YtgpacgadpnpjjaaGreatDoorQp27
import Derived.Test.YtgpacgadpnpjjaaGreatDoorQs03
namespace Go.Proofs.YtgpacgadpnpjjaaGreatDoor.K
open Go.RowKit
open Ma Me
def aHL : Value → Nat | .string t => t.size | _ => 0
theorem aHG (q : Rat) : sz (gD q) ≤ sz q := aCq q
theorem aHw (b N : Nat) : b + 1 ≤ (aG2 b N).length := by unfold aG2; rw [List.length_append, List.length_replicate]; omega
theorem aHx (x : Rat) : iQ x 1 = 0 := by unfold iQ; split <;> rfl
theorem aHy {x : Rat} {i : Nat} (h : aS (3 * (i : Int) - 15) ≤ x) : iQ x (i + 1) = i := if_pos h
theorem aHH {x : Rat} {i : Nat} (h : ¬ aS (3 * (i : Int) - 15) ≤ x) : iQ x (i + 1) = iQ x i := if_neg h
theorem aHz (m : Rat) : Beh m 0 := ⟨Nat.zero_le _, fun _ hj => absurd hj (Nat.not_lt_zero _)⟩
theorem aHA {m : Rat} {b : Nat} (h : Beh m b) (hb : b ≤ 12) (hd : ¬ (m * aS (b : Int)).den = 1) : Beh m (b + 1) := ⟨by omega, fun j hj => by
 rcases Nat.lt_or_ge j b with h3 | h3
 ·exact h.no j h3
 ·obtain rfl : j = b := (by omega);exact hd⟩
theorem aHa (c : UInt8) (l : List UInt8) : (⟨#[c]⟩ : ByteArray) ++ ofK l = ofK (c :: l) := zV (by rw [tL, mO]; rfl)
theorem aHB {k N : Nat} {L : List UInt8} (h : List.replicate k 48 ++ dec N = L) : List.replicate (k + 1) 48 ++ dec N = 48 :: L := by rw [List.replicate_succ, List.cons_append, h]
theorem aHh {k N : Nat} {L : List UInt8} (h : List.replicate k 48 ++ dec N = L) : L.length = k + (dec N).length := by rw [← h, List.length_append, List.length_replicate]
theorem aHI {k N b : Nat} {L : List UInt8} (h : List.replicate k 48 ++ dec N = L) (hk : k ≤ b + 1 - (dec N).length) (hl : ¬ L.length ≤ b) : aG2 b N = L := by
 have h1 := aHh h;unfold aG2;rw [← h, show b + 1 - (dec N).length = k by omega]
theorem aHc {p m : Rat} {a : Nat} (hp : p ≠ 0) (ha : iQ (gD p) 10 = a) (hm : gD p * aS (15 - 3 * (a : Int)) = m) (hs : dH (m * aS 12) = none) : oM p = bW p := by
 subst ha;unfold oM;rw [if_neg hp, show nO p = m * aS 12 by rw [← hm]; rfl, hs]
theorem aG3 {p m : Rat} {a : Nat} {d : List UInt8} (hp : p ≠ 0) (ha : iQ (gD p) 10 = a) (hm : gD p * aS (15 - 3 * (a : Int)) = m) (hs : dH (m * aS 12) = some d) : oM p = gN p ++ d ++ letter a := by
 subst ha;unfold oM;rw [if_neg hp, show nO p = m * aS 12 by rw [← hm]; rfl, hs]
theorem aHm {m : Rat} {b : Nat} {L : List UInt8} (h : Beh m b) (h0 : 0 ≤ m) (hb : b ≤ 12) (hd : (m * aS (b : Int)).den = 1) (hL : aG2 b (m * aS (b : Int)).num.natAbs = L) (hl : 400 < L.length) : dH (m * aS 12) = none := by
 rw [aG9 h h0 hb hd, hL, if_pos hl]
theorem aHp {m : Rat} {b : Nat} {L : List UInt8} (h : Beh m b) (h0 : 0 ≤ m) (hb : b ≤ 12) (hd : (m * aS (b : Int)).den = 1) (hL : aG2 b (m * aS (b : Int)).num.natAbs = L) (hl : ¬ 400 < L.length) (hp : 0 < b) : dH (m * aS 12) = some (L.take (L.length - b) ++ 46 :: L.drop (L.length - b)) := by
 rw [aG9 h h0 hb hd, hL, if_neg hl, if_pos hp]
theorem aHq {m : Rat} {b : Nat} {L : List UInt8} (h : Beh m b) (h0 : 0 ≤ m) (hb : b ≤ 12) (hd : (m * aS (b : Int)).den = 1) (hL : aG2 b (m * aS (b : Int)).num.natAbs = L) (hl : ¬ 400 < L.length) (hp : ¬ 0 < b) : dH (m * aS 12) = some L := by
 rw [aG9 h h0 hb hd, hL, if_neg hl, if_neg hp]
theorem aHn (p : Rat) (z : Int) : 0 ≤ gD p * aS z := by
 have h1 : 0 ≤ gD p := by unfold gD; split <;> grind
 exact Rat.mul_nonneg h1 (Rat.le_of_lt (yK z))
theorem aG6 {p : Rat} (h : sn p < 0) : gN p = [45] := by
 unfold gN;rcases dF p with ⟨h1, h2⟩ | ⟨h1, h2⟩ | ⟨h1, h2⟩
 ·exact if_pos h1
 ·omega
 ·omega
theorem aG7 {p : Rat} (h : ¬ sn p < 0) : gN p = [] := by
 unfold gN;rcases dF p with ⟨h1, h2⟩ | ⟨h1, h2⟩ | ⟨h1, h2⟩
 ·omega
 ·exact if_neg (by grind)
 ·exact if_neg (by grind)
theorem aG5 {a : Nat} (ha : a < 10) (h5 : a ≠ 5) : letter a = [aGj.getD a 0] := by
 rcases (show a = 0 ∨ a = 1 ∨ a = 2 ∨ a = 3 ∨ a = 4 ∨ a = 6 ∨ a = 7 ∨ a = 8 ∨ a = 9 by omega) with rfl | rfl | rfl | rfl | rfl | rfl | rfl | rfl | rfl <;> rfl
theorem aG4 {a : Nat} (ha : a < 10) (h5 : a ≠ 5) : ({ data := #[102, 112, 110, 117, 109, 32, 107, 77, 71, 84] } : ByteArray).extract a (a + 1) = ofK (letter a) := by
 rcases (show a = 0 ∨ a = 1 ∨ a = 2 ∨ a = 3 ∨ a = 4 ∨ a = 6 ∨ a = 7 ∨ a = 8 ∨ a = 9 by omega) with rfl | rfl | rfl | rfl | rfl | rfl | rfl | rfl | rfl <;> rfl
theorem aG8 {a : Nat} (ha : a < 10) (h5 : a ≠ 5) {c : UInt8} (hc : aGj[a]? = some c) : c ≠ 32 := by
 rcases (show a = 0 ∨ a = 1 ∨ a = 2 ∨ a = 3 ∨ a = 4 ∨ a = 6 ∨ a = 7 ∨ a = 8 ∨ a = 9 by omega) with rfl | rfl | rfl | rfl | rfl | rfl | rfl | rfl | rfl <;>
  (simp only [aGj, List.getElem?_cons_zero, List.getElem?_cons_succ, Option.some.injEq] at hc; subst hc; decide)
theorem aHd {a : Nat} {c : UInt8} (h : a = 5) (hc : aGj[a]? = some c) : c = 32 := by subst h; exact (Option.some.inj hc).symm
theorem aHC (l : List UInt8) (n : Nat) : (ofK l).extract n (ofK l).size = ofK (l.drop n) := zV (Lib.extract_to_end _ _)
set_option maxRecDepth 100000 in
set_option maxHeartbeats 16000000 in
theorem aHr (x : Value) (p : Rat) (w : World) (hx : Rq w x p) (hB : 2000 * sz p + 10000000 ≤ LIM) :
  Calls Tryz.prog 21 #[x] w fun e w' => ∃ t : ByteArray, e = .returned (.string t) ∧ t.data.toList = oM p ∧ Q w w' := by
 have hxy := hx;obtain ⟨AX1, kX1, cX1, AX2, kX2, cX2, rfl, -⟩ := hxy;obtain ⟨w0, hW, hG0, hX0⟩ := yR w 32 [.int .i64 (sn (p)), .slice AX1 kX1 cX1, .slice AX2 kX2 cX2];have nX0 : Rq w0 (.agg #[.int .i64 (sn (p)), .slice AX1 kX1 cX1, .slice AX2 kX2 cX2]) (p) := hx.q hG0;have HB := Lib.hid hB; clear hB;go_enter Tryz.func21, Tryz.ntmps21
 go_upto_region 1 with fail
 clear hW;by_cases hZ : p = 0
 ·have HZ := Lib.hid hZ; clear hZ;refine bJ (F := ?F1) ([.eq (.pointer (some ⟨w.heap.size, 0, none⟩)), .eq (.int .i64 (sn (p))), .eq (.bool true)] : List Vs) ?hF1 ?st1 ?en1
  case hF1 =>
   intro vals;simp only [Ja.fillL, Act.put, List.setIfInBounds_toArray, List.set_cons_zero, List.set_cons_succ, Nat.reduceAdd];exact rfl
  case st1 =>
   intro hctx;refine JC.p hctx ?_;refine JC.l1 (off := 0) hX0 (fun W hN => rfl) hctx ?_;refine JC.u (.bool ((sn (p)) == (0))) (congrArg Value.bool (beq_iff_eq.2 ((fG.2 HZ.out)))) hctx ?_;exact Ja.Steps.nil
  intro vals w1 hq1 hall;have hG1 := hG0.trans hq1;have hX1 := hX0.q hq1;have nX1 := Rq.q nX0 hq1;clear hG0 hX0 nX0;have f10 : vals 2 = .bool true := hall 2 (by decide);rw [f10];clear f10;clear hall;go_upto_region 2 with fail
  refine bJ (F := ?F2) ([.eq (.string ((⟨#[48]⟩ : ByteArray)))] : List Vs) ?hF2 ?st2 ?en2
  case hF2 =>
   intro vals;simp only [Ja.fillL, Act.put, List.setIfInBounds_toArray, List.set_cons_zero, List.set_cons_succ];exact rfl
  case st2 =>
   intro hctx;refine JC.p hctx ?_;exact Ja.Steps.nil
  intro vals w2 hq2 hall;have hG2 := hG1.trans hq2;have hX2 := hX1.q hq2;have nX2 := Rq.q nX1 hq2;clear hG1 hX1 nX1;have f2 : vals 0 = .string ((⟨#[48]⟩ : ByteArray)) := hall 0 (by decide);rw [f2];clear f2;clear hall;go_wp2_with fail
  go_ret
  exact ⟨_, rfl, by rw [HZ.out, aHo], hG2⟩
 ·have HZ := Lib.hid hZ; clear hZ;obtain ⟨A, HA⟩ : ∃ z : Rat, Hid (gD p = z) := ⟨_, Lib.hid rfl⟩
  have ZA : Hid (sz A ≤ 1 * sz p) := Lib.hid (by rw [← HA.out]; have := aHG p; omega);refine bJ (F := ?F3) ([.eq (.pointer (some ⟨w.heap.size, 0, none⟩)), .eq (.int .i64 (sn (p))), .eq (.bool false)] : List Vs) ?hF3 ?st3 ?en3
  case hF3 =>
   intro vals;simp only [Ja.fillL, Act.put, List.setIfInBounds_toArray, List.set_cons_zero, List.set_cons_succ, Nat.reduceAdd];exact rfl
  case st3 =>
   intro hctx;refine JC.p hctx ?_;refine JC.l1 (off := 0) hX0 (fun W hN => rfl) hctx ?_;refine JC.u (.bool ((sn (p)) == (0))) (congrArg Value.bool (beq_eq_false_iff_ne.2 ((fun h9 => HZ.out (fG.1 h9))))) hctx ?_;exact Ja.Steps.nil
  intro vals w1 hq1 hall;have hG1 := hG0.trans hq1;have hX1 := hX0.q hq1;have nX1 := Rq.q nX0 hq1;clear hG0 hX0 nX0;have f10 : vals 2 = .bool false := hall 2 (by decide);rw [f10];clear f10;clear hall;go_upto_region 3 with fail
  refine bJ (F := ?F4) ([.eq (.int .i64 (0))] : List Vs) ?hF4 ?st4 ?en4
  case hF4 =>
   intro vals;simp only [Ja.fillL, Act.put, List.setIfInBounds_toArray, List.set_cons_zero, List.set_cons_succ];exact rfl
  case st4 =>
   intro hctx;refine JC.p hctx ?_;exact Ja.Steps.nil
  intro vals w2 hq2 hall;have hG2 := hG1.trans hq2;have hX2 := hX1.q hq2;have nX2 := Rq.q nX1 hq2;clear hG1 hX1 nX1;have f3 : vals 0 = .int .i64 (0) := hall 0 (by decide);rw [f3];clear f3;clear hall;go_upto_region 4 with fail
  refine bJ (F := ?F5) ([.eq (.int .i64 (1))] : List Vs) ?hF5 ?st5 ?en5
  case hF5 =>
   intro vals;simp only [Ja.fillL, Act.put, List.setIfInBounds_toArray, List.set_cons_zero, List.set_cons_succ];exact rfl
  case st5 =>
   intro hctx;refine JC.p hctx ?_;exact Ja.Steps.nil
  intro vals w3 hq3 hall;have hG3 := hG2.trans hq3;have hX3 := hX2.q hq3;have nX3 := Rq.q nX2 hq3;clear hG2 hX2 nX2;have f4 : vals 0 = .int .i64 (1) := hall 0 (by decide);rw [f4];clear f4;clear hall;go_upto_block 0 with fail
  go_cut [3] from 11 to 23 (fun av w1 => av = .int .i64 ((iQ A 10 : Nat) : Int) ∧ Q w w1 ∧ Bx w1 (w.heap.size) 32 [.int .i64 (sn (p)), .slice AX1 kX1 cX1, .slice AX2 kX2 cX2] ∧ Rq w1 (.agg #[.int .i64 (sn (p)), .slice AX1 kX1 cX1, .slice AX2 kX2 cX2]) (p))
  case first =>
   go_wp2_with fail
   go_loopw [3, 4] (fun av iv w1 => ∃ i : Nat, iv = .int .i64 (i : Int) ∧ 1 ≤ i ∧ i ≤ 10 ∧ av = .int .i64 ((iQ A i : Nat) : Int) ∧ Q w w1 ∧ Bx w1 (w.heap.size) 32 [.int .i64 (sn (p)), .slice AX1 kX1 cX1, .slice AX2 kX2 cX2] ∧ Rq w1 (.agg #[.int .i64 (sn (p)), .slice AX1 kX1 cX1, .slice AX2 kX2 cX2]) (p)) (fun _ iv _ => 10 - (intOf iv).toNat)
   case atStart => exact ⟨1, rfl, by decide, by decide, by rw [aHx]; rfl, hG3, hX3, nX3⟩
   case round =>
    obtain ⟨i, rfl, hi1, hi, rfl, hG4, hX4, nX4⟩ := hrel;generalize wr = w4 at *
    clear hG3 hX3 nX3;have HI := Lib.hid (show 1 ≤ i ∧ i ≤ 10 from ⟨hi1, hi⟩); clear hi1 hi;by_cases hL : i < 10
    ·have HL := Lib.hid hL; clear hL;go_upto_region 5 with fail
     refine bJ (F := ?F6) ([.eq (.int .i64 ((i : Int))), .eq (.bool true)] : List Vs) ?hF6 ?st6 ?en6
     case hF6 =>
      intro vals;simp only [Ja.fillL, Act.put, List.setIfInBounds_toArray, List.set_cons_zero, List.set_cons_succ, Nat.reduceAdd];exact rfl
     case st6 =>
      intro hctx;refine JC.p hctx ?_;refine JC.u (.bool (decide (((i : Int)) < (10)))) (congrArg Value.bool (decide_eq_true (show (((i : Int) : Int) < 10) from by have := HL.out; omega))) hctx ?_;exact Ja.Steps.nil
     intro vals w5 hq5 hall;have hG5 := hG4.trans hq5;have hX5 := hX4.q hq5;have nX5 := Rq.q nX4 hq5;clear hG4 hX4 nX4;have f12 : vals 1 = .bool true := hall 1 (by decide);rw [f12];clear f12;clear hall;go_upto_region 7 with fail
     by_cases hC : aS (3 * (i : Int) - 15) ≤ A
     ·have HC := Lib.hid hC; clear hC;have Z1 : Hid (sz (aS (3 * (i : Int) - 15)) ≤ 1002) := Lib.hid (by have h99 := qD (3 * (i : Int) - 15); have h98 := (show (3 * (i : Int) - 15).natAbs ≤ 1000 by have := HL.out; omega); have hb9 := HB.out; omega);have B2 : Hid (1000 * (sz (A) + sz (aS (3 * (i : Int) - 15))) + 10000 ≤ LIM) := Lib.hid (by have h0 := ZA.out; have h1 := Z1.out; have hb9 := HB.out; rw [aA] at *; omega);refine bJ (F := ?F7) ([.gen (pRn (p)), .gen (pRn (A)), .eq (.int .i64 ((i : Int))), .eq (.int .i64 (3 * (i : Int))), .eq (.int .i64 (3 * (i : Int) - 15)), .gen (pRn (aS (3 * (i : Int) - 15))), .eq (.int .i64 (rc (A) (aS (3 * (i : Int) - 15)))), .eq (.bool true)] : List Vs) ?hF7 ?st7 ?en7
      case hF7 =>
       intro vals;simp only [Ja.fillL, Act.put, List.setIfInBounds_toArray, List.set_cons_zero, List.set_cons_succ, Nat.reduceAdd];exact rfl
      case st7 =>
       intro hctx;refine JC.l3 (off := 0) hX5 (fun W hN => (Rq.q nX5 hN)) hctx ?_;refine JC.ca (fun vals W hN hd hk => (aHl _ (p) W (hd 0 (by kernel_rfl))).mono (by rintro e W9 ⟨r, rfl, hr, hq9⟩; exact ⟨r, rfl, (by have h8 := hr; rw [show (vX (p) : Rat) = A from HA.out] at h8; exact h8), hq9⟩)) hctx ?_;refine JC.p hctx ?_;refine JC.u (.int .i64 (IntKind.i64.wrap ((3) * ((i : Int))))) (by exact congrArg (Value.int .i64) (dA (by have := HL.out; omega) (by have := HL.out; omega))) hctx ?_;refine JC.u (.int .i64 (IntKind.i64.wrap ((3 * (i : Int)) - (15)))) (by exact congrArg (Value.int .i64) (dA (by have := HL.out; omega) (by have := HL.out; omega))) hctx ?_;refine JC.ca (fun vals W hN hd hk => (aGI (3 * (i : Int) - 15) W (by have := HL.out; omega)).mono (by rintro e W9 ⟨r, rfl, hr, hq9⟩; exact ⟨r, rfl, hr, hq9⟩)) hctx ?_;refine JC.ca (fun vals W hN hd hk => (aHD _ _ (A) (aS (3 * (i : Int) - 15)) W (hd 1 (by kernel_rfl)) (hd 5 (by kernel_rfl)) B2.out).mono (by rintro e W9 ⟨rfl, hq9⟩; exact ⟨(.int .i64 (rc (A) (aS (3 * (i : Int) - 15)))), rfl, rfl, hq9⟩)) hctx ?_;refine JC.u (.bool (decide ((0) ≤ (rc (A) (aS (3 * (i : Int) - 15)))))) (congrArg Value.bool (decide_eq_true (show ((rc (A) (aS (3 * (i : Int) - 15)) : Int) ≥ 0) from (aDP _ _).2 HC.out))) hctx ?_;exact Ja.Steps.nil
      intro vals w6 hq6 hall;have hG6 := hG5.trans hq6;have hX6 := hX5.q hq6;have nX6 := Rq.q nX5 hq6;clear hG5 hX5 nX5;have f22 : vals 7 = .bool true := hall 7 (by decide);rw [f22];clear f22;clear hall;go_upto_region 8 with fail
      refine bJ (F := ?F8) ([.eq (.int .i64 ((i : Int))), .eq (.int .i64 ((i : Int)))] : List Vs) ?hF8 ?st8 ?en8
      case hF8 =>
       intro vals;simp only [Ja.fillL, Act.put, List.setIfInBounds_toArray, List.set_cons_zero, List.set_cons_succ, Nat.reduceAdd];exact rfl
      case st8 =>
       intro hctx;refine JC.p hctx ?_;refine JC.p hctx ?_;exact Ja.Steps.nil
      intro vals w7 hq7 hall;have hG7 := hG6.trans hq7;have hX7 := hX6.q hq7;have nX7 := Rq.q nX6 hq7;clear hG6 hX6 nX6;have f3 : vals 1 = .int .i64 ((i : Int)) := hall 1 (by decide);rw [f3];clear f3;clear hall;have hl9 := HL.out;go_wp2_with fail
      exact ⟨⟨i + 1, rfl, by omega, by omega, by rw [aHy HC.out], hG7, hX7, nX7⟩, by simp [intOf]; omega⟩
     ·have HC := Lib.hid hC; clear hC;have Z1 : Hid (sz (aS (3 * (i : Int) - 15)) ≤ 1002) := Lib.hid (by have h99 := qD (3 * (i : Int) - 15); have h98 := (show (3 * (i : Int) - 15).natAbs ≤ 1000 by have := HL.out; omega); have hb9 := HB.out; omega);have B2 : Hid (1000 * (sz (A) + sz (aS (3 * (i : Int) - 15))) + 10000 ≤ LIM) := Lib.hid (by have h0 := ZA.out; have h1 := Z1.out; have hb9 := HB.out; rw [aA] at *; omega);refine bJ (F := ?F9) ([.gen (pRn (p)), .gen (pRn (A)), .eq (.int .i64 ((i : Int))), .eq (.int .i64 (3 * (i : Int))), .eq (.int .i64 (3 * (i : Int) - 15)), .gen (pRn (aS (3 * (i : Int) - 15))), .eq (.int .i64 (rc (A) (aS (3 * (i : Int) - 15)))), .eq (.bool false)] : List Vs) ?hF9 ?st9 ?en9
      case hF9 =>
       intro vals;simp only [Ja.fillL, Act.put, List.setIfInBounds_toArray, List.set_cons_zero, List.set_cons_succ, Nat.reduceAdd];exact rfl
      case st9 =>
       intro hctx;refine JC.l3 (off := 0) hX5 (fun W hN => (Rq.q nX5 hN)) hctx ?_;refine JC.ca (fun vals W hN hd hk => (aHl _ (p) W (hd 0 (by kernel_rfl))).mono (by rintro e W9 ⟨r, rfl, hr, hq9⟩; exact ⟨r, rfl, (by have h8 := hr; rw [show (vX (p) : Rat) = A from HA.out] at h8; exact h8), hq9⟩)) hctx ?_;refine JC.p hctx ?_;refine JC.u (.int .i64 (IntKind.i64.wrap ((3) * ((i : Int))))) (by exact congrArg (Value.int .i64) (dA (by have := HL.out; omega) (by have := HL.out; omega))) hctx ?_;refine JC.u (.int .i64 (IntKind.i64.wrap ((3 * (i : Int)) - (15)))) (by exact congrArg (Value.int .i64) (dA (by have := HL.out; omega) (by have := HL.out; omega))) hctx ?_;refine JC.ca (fun vals W hN hd hk => (aGI (3 * (i : Int) - 15) W (by have := HL.out; omega)).mono (by rintro e W9 ⟨r, rfl, hr, hq9⟩; exact ⟨r, rfl, hr, hq9⟩)) hctx ?_;refine JC.ca (fun vals W hN hd hk => (aHD _ _ (A) (aS (3 * (i : Int) - 15)) W (hd 1 (by kernel_rfl)) (hd 5 (by kernel_rfl)) B2.out).mono (by rintro e W9 ⟨rfl, hq9⟩; exact ⟨(.int .i64 (rc (A) (aS (3 * (i : Int) - 15)))), rfl, rfl, hq9⟩)) hctx ?_;refine JC.u (.bool (decide ((0) ≤ (rc (A) (aS (3 * (i : Int) - 15)))))) (congrArg Value.bool (decide_eq_false (show ¬ ((rc (A) (aS (3 * (i : Int) - 15)) : Int) ≥ 0) from fun h => HC.out ((aDP _ _).1 h)))) hctx ?_;exact Ja.Steps.nil
      intro vals w6 hq6 hall;have hG6 := hG5.trans hq6;have hX6 := hX5.q hq6;have nX6 := Rq.q nX5 hq6;clear hG5 hX5 nX5;have f22 : vals 7 = .bool false := hall 7 (by decide);rw [f22];clear f22;clear hall;have hl9 := HL.out;go_wp2_with fail
      exact ⟨⟨i + 1, rfl, by omega, by omega, by rw [aHH HC.out], hG6, hX6, nX6⟩, by simp [intOf]; omega⟩
    ·have HL := Lib.hid hL; clear hL;obtain rfl : i = 10 := (by have := HI.out; have := HL.out; omega);go_upto_region 5 with fail
     refine bJ (F := ?F10) ([.eq (.int .i64 ((10 : Int))), .eq (.bool false)] : List Vs) ?hF10 ?st10 ?en10
     case hF10 =>
      intro vals;simp only [Ja.fillL, Act.put, List.setIfInBounds_toArray, List.set_cons_zero, List.set_cons_succ, Nat.reduceAdd];exact rfl
     case st10 =>
      intro hctx;refine JC.p hctx ?_;refine JC.u (.bool (decide (((10 : Int)) < (10)))) (congrArg Value.bool (decide_eq_false (show ¬ (((10 : Int) : Int) < 10) from by decide))) hctx ?_;exact Ja.Steps.nil
     intro vals w5 hq5 hall;have hG5 := hG4.trans hq5;have hX5 := hX4.q hq5;have nX5 := Rq.q nX4 hq5;clear hG4 hX4 nX4;have f12 : vals 1 = .bool false := hall 1 (by decide);rw [f12];clear f12;clear hall;go_wp2_with fail
     go_meet
     case rel => exact ⟨rfl, hG5, hX5, nX5⟩
  case rest =>
   obtain ⟨rfl, hG4, hX4, nX4⟩ := hcut;generalize wc = w4 at *
   clear hG3 hX3 nX3;obtain ⟨a, Ha⟩ : ∃ a : Nat, Hid (iQ A 10 = a ∧ a < 10) := ⟨_, Lib.hid ⟨rfl, aEf A 10 (by decide)⟩⟩
   rw [Ha.out.1];obtain ⟨m, Hm⟩ : ∃ m : Rat, Hid (A * aS (15 - 3 * (a : Int)) = m) := ⟨_, Lib.hid rfl⟩
   have Zm : Hid (sz m ≤ 1 * sz p + 1002) := Lib.hid (by rw [← Hm.out]; have h1 := qC A (aS (15 - 3 * (a : Int))); have h2 := qD (15 - 3 * (a : Int)); have h3 := ZA.out; have h4 := Ha.out.2; omega);have Hm0 : Hid (0 ≤ m) := Lib.hid (by rw [← Hm.out, ← HA.out]; exact aHn _ _);have HM : Hid (gD p * aS (15 - 3 * (a : Int)) = m) := Lib.hid (by rw [HA.out]; exact Hm.out); have HP : Hid (iQ (gD p) 10 = a) := Lib.hid (by rw [HA.out]; exact Ha.out.1);go_upto_region 9 with fail
   have hs9 := hX4.lt;have Z1 : Hid (sz (aS (15 - 3 * (a : Int))) ≤ 1002) := Lib.hid (by have h99 := qD (15 - 3 * (a : Int)); have h98 := (show (15 - 3 * (a : Int)).natAbs ≤ 1000 by have := Ha.out.2; omega); have hb9 := HB.out; omega);have Z2 : Hid (sz ((A) * (aS (15 - 3 * (a : Int)))) ≤ 1 * sz (p) + 1002) := Lib.hid (by have h99 := qC (A) (aS (15 - 3 * (a : Int))); have h0 := ZA.out; have h1 := Z1.out; have hb9 := HB.out; omega);have B3 : Hid (1000 * (sz (A) + sz (aS (15 - 3 * (a : Int)))) + 10000 ≤ LIM) := Lib.hid (by have h0 := ZA.out; have h1 := Z1.out; have hb9 := HB.out; rw [aA] at *; omega);have hAt4 : At0 w4 [⟨some 7, 0, 32, [.i, .s, .s], .agg #[.int .i64 0, .slice none 0 0, .slice none 0 0], 8, 6⟩] [] w4 := At0.of (Q.refl _) ⟨fun h => (by cases h), trivial⟩ (by simp [dO]) trivial;refine cK (F := ?F11) w4 ([.gen (pRn (p)), .gen (pRn (A)), .eq (.int .i64 ((a : Int))), .eq (.int .i64 (3 * (a : Int))), .eq (.int .i64 (15 - 3 * (a : Int))), .gen (pRn (aS (15 - 3 * (a : Int)))), .gen (pRn (m)), .any, .any] : List Vs) _ _ (by kernel_rfl) hAt4 ?hF11 ?st11 ?en11
   case hF11 =>
    intro vals;simp only [Ja.fillL, Act.put, List.setIfInBounds_toArray, List.set_cons_zero, List.set_cons_succ, Nat.reduceAdd];exact rfl
   case st11 =>
    clear hAt4;intro hctx;refine JC.l3 (off := 0) hX4 (fun W hN => (Rq.q nX4 hN)) hctx ?_;refine JC.ca (fun vals W hN hd hk => (aHl _ (p) W (hd 0 (by kernel_rfl))).mono (by rintro e W9 ⟨r, rfl, hr, hq9⟩; exact ⟨r, rfl, (by have h8 := hr; rw [show (vX (p) : Rat) = A from HA.out] at h8; exact h8), hq9⟩)) hctx ?_;refine JC.p hctx ?_;refine JC.u (.int .i64 (IntKind.i64.wrap ((3) * ((a : Int))))) (by exact congrArg (Value.int .i64) (dA (by have := Ha.out.2; omega) (by have := Ha.out.2; omega))) hctx ?_;refine JC.u (.int .i64 (IntKind.i64.wrap ((15) - (3 * (a : Int))))) (by exact congrArg (Value.int .i64) (dA (by have := Ha.out.2; omega) (by have := Ha.out.2; omega))) hctx ?_;refine JC.ca (fun vals W hN hd hk => (aGI (15 - 3 * (a : Int)) W (by have := Ha.out.2; omega)).mono (by rintro e W9 ⟨r, rfl, hr, hq9⟩; exact ⟨r, rfl, hr, hq9⟩)) hctx ?_;refine JC.ca (fun vals W hN hd hk => (aGr _ _ (A) (aS (15 - 3 * (a : Int))) W (hd 1 (by kernel_rfl)) (hd 5 (by kernel_rfl)) B3.out).mono (by rintro e W9 ⟨r, rfl, hr, hq9⟩; exact ⟨r, rfl, (by have h8 := hr; rw [show ((A) * (aS (15 - 3 * (a : Int))) : Rat) = m from Hm.out] at h8; exact h8), hq9⟩)) hctx ?_;refine Ja.Steps.cons (JC.alloc (n := 0) (cells := [.int .i64 0, .slice none 0 0, .slice none 0 0].toArray) (t := 32) hctx (by kernel_rfl) (by rfl) (by kernel_rfl) (by rfl) (by rfl) (by kernel_rfl) (by rfl) (fun W => NbV.mk (t := 32) (ck := [.i, .s, .s]) (row := [.int .i64 0, .slice none 0 0, .slice none 0 0]) ⟨⟨_, rfl⟩, ⟨_, _, _, rfl⟩, ⟨_, _, _, rfl⟩, trivial⟩ (Bx.new W _ _)) ?_) ?_
    ·intro vals W K hK;go_simp
     exact hK.out _ (by kernel_rfl)
    refine JC.s3 (n := 0) rfl fRn hctx ?_;exact Ja.Steps.nil
   intro L vals w5 hall hJ;clear hAt4;have hq5 := hJ.q;have hG5 := hG4.trans hq5;have hX5 := hX4.q hq5;have nX5 := Rq.q nX4 hq5;clear hG4 hX4 nX4;obtain ⟨gM, eM, geM, qM⟩ := hJ.fresh 0 rfl rfl (hall 7 (by decide)) (hall 8 (by decide));obtain ⟨AM1, kM1, cM1, AM2, kM2, cM2, hM5, nM5⟩ := aFQ (g := gM) (t := 32) qM (show Rq w5 (vals 6) (m) from hJ.s 6 (hall 6 (by decide)));clear qM;rw [eM];clear eM;clear hall hJ;go_upto_region 10 with fail
   refine bJ (F := ?F12) ([.eq (.int .i64 (0))] : List Vs) ?hF12 ?st12 ?en12
   case hF12 =>
    intro vals;simp only [Ja.fillL, Act.put, List.setIfInBounds_toArray, List.set_cons_zero, List.set_cons_succ];exact rfl
   case st12 =>
    intro hctx;refine JC.p hctx ?_;exact Ja.Steps.nil
   intro vals w6 hq6 hall;have hG6 := hG5.trans hq6;have hX6 := hX5.q hq6;have nX6 := Rq.q nX5 hq6;have hM6 := hM5.q hq6;have nM6 := Rq.q nM5 hq6;clear hG5 hX5 hM5 nX5 nM5;have f6 : vals 0 = .int .i64 (0) := hall 0 (by decide);rw [f6];clear f6;clear hall;go_upto_block 2 with fail
   go_cut [6] from 31 to 43 (fun bv w1 => ∃ b : Nat, bv = .int .i64 (b : Int) ∧ Hid (Beh m b ∧ (b = 13 ∨ b ≤ 12 ∧ ((m) * (aS ((b : Int)))).den = 1)) ∧ Q w w1 ∧ Bx w1 (w.heap.size) 32 [.int .i64 (sn (p)), .slice AX1 kX1 cX1, .slice AX2 kX2 cX2] ∧ Rq w1 (.agg #[.int .i64 (sn (p)), .slice AX1 kX1 cX1, .slice AX2 kX2 cX2]) (p) ∧ Bx w1 (gM) 32 [.int .i64 (sn (m)), .slice AM1 kM1 cM1, .slice AM2 kM2 cM2] ∧ Rq w1 (.agg #[.int .i64 (sn (m)), .slice AM1 kM1 cM1, .slice AM2 kM2 cM2]) (m))
   case first =>
    go_wp2_with fail
    go_loopw [6] (fun bv w1 => ∃ b : Nat, bv = .int .i64 (b : Int) ∧ Hid (Beh m b) ∧ Q w w1 ∧ Bx w1 (w.heap.size) 32 [.int .i64 (sn (p)), .slice AX1 kX1 cX1, .slice AX2 kX2 cX2] ∧ Rq w1 (.agg #[.int .i64 (sn (p)), .slice AX1 kX1 cX1, .slice AX2 kX2 cX2]) (p) ∧ Bx w1 (gM) 32 [.int .i64 (sn (m)), .slice AM1 kM1 cM1, .slice AM2 kM2 cM2] ∧ Rq w1 (.agg #[.int .i64 (sn (m)), .slice AM1 kM1 cM1, .slice AM2 kM2 cM2]) (m)) (fun bv _ => 13 - (intOf bv).toNat)
    case atStart => exact ⟨0, rfl, Lib.hid (aHz m), hG6, hX6, nX6, hM6, nM6⟩
    case round =>
     obtain ⟨b, rfl, HBe, hG7, hX7, nX7, hM7, nM7⟩ := hrel;generalize wr = w7 at *
     clear hG6 hX6 nX6 hM6 nM6;have HB13 := Lib.hid HBe.out.le;by_cases hL : b ≤ 12
     ·have HL := Lib.hid hL; clear hL;by_cases hD : ((m) * (aS ((b : Int)))).den = 1
      ·have HD := Lib.hid hD; clear hD;go_upto_region 11 with fail
       have Z4 : Hid (sz (aS ((b : Int))) ≤ 1002) := Lib.hid (by have h99 := qD ((b : Int)); have h98 := (show (b : Int).natAbs ≤ 1000 by have := HB13.out; omega); have hb9 := HB.out; omega);have Z5 : Hid (sz ((m) * (aS ((b : Int)))) ≤ 1 * sz (p) + 2004) := Lib.hid (by have h99 := qC (m) (aS ((b : Int))); have h0 := Zm.out; have h1 := Z4.out; have hb9 := HB.out; omega);have B6 : Hid (1000 * (sz (m) + sz (aS ((b : Int)))) + 10000 ≤ LIM) := Lib.hid (by have h0 := Zm.out; have h1 := Z4.out; have hb9 := HB.out; rw [aA] at *; omega);refine oO (F := ?F13) ([.eq (.int .i64 ((b : Int))), .eq (.bool true), .eq (.bool true), .gen (pRn (m)), .eq (.int .i64 ((b : Int))), .gen (pRn (aS ((b : Int)))), .gen (pRn ((m) * (aS ((b : Int))))), .gen (lZ (((m) * (aS ((b : Int)))).den)), .eq (.bool true), .eq (.bool false), .eq (.bool false)] : List Vs) ?hF13 ?st13 ?en13
       case hF13 =>
        intro vals;simp only [Ja.fillL, Act.put, List.setIfInBounds_toArray, List.set_cons_zero, List.set_cons_succ, Nat.reduceAdd];exact rfl
       case st13 =>
        intro hctx;refine JC.p hctx ?_;refine JC.u (.bool (decide (((b : Int)) ≤ (12)))) (congrArg Value.bool (decide_eq_true (show (((b : Int) : Int) ≤ 12) from by have := HL.out; omega))) hctx ?_;refine JC.p hctx ?_;refine JC.l3 (off := 0) hM7 (fun W hN => (Rq.q nM7 hN)) hctx ?_;refine JC.p hctx ?_;refine JC.ca (fun vals W hN hd hk => (aGI ((b : Int)) W (by have := HB13.out; omega)).mono (by rintro e W9 ⟨r, rfl, hr, hq9⟩; exact ⟨r, rfl, hr, hq9⟩)) hctx ?_;refine JC.ca (fun vals W hN hd hk => (aGr _ _ (m) (aS ((b : Int))) W (hd 3 (by kernel_rfl)) (hd 5 (by kernel_rfl)) B6.out).mono (by rintro e W9 ⟨r, rfl, hr, hq9⟩; exact ⟨r, rfl, hr, hq9⟩)) hctx ?_;refine JC.ca (fun vals W hN hd hk => (aED _ ((m) * (aS ((b : Int)))) W (hd 6 (by kernel_rfl))).mono (by rintro e W9 ⟨r, rfl, hr, hq9⟩; exact ⟨r, rfl, hr, hq9⟩)) hctx ?_;refine JC.ca (fun vals W hN hd hk => (uX _ (((m) * (aS ((b : Int)))).den) true W (hd 7 (by kernel_rfl)) (decide_eq_true (HD.out))).mono (by rintro e W9 ⟨rfl, hq9⟩; exact ⟨(.bool true), rfl, rfl, hq9⟩)) hctx ?_;refine JC.p hctx ?_;refine JC.p hctx ?_;exact Ja.Steps.nil
       intro vals w8 hq8 hall;have hG8 := hG7.trans hq8;have hX8 := hX7.q hq8;have nX8 := Rq.q nX7 hq8;have hM8 := hM7.q hq8;have nM8 := Rq.q nM7 hq8;clear hG7 hX7 hM7 nX7 nM7;have f41 : vals 10 = .bool false := hall 10 (by decide);rw [f41];clear f41;clear hall;go_wp2_with fail
       go_meet
       case rel => exact ⟨b, rfl, Lib.hid ⟨HBe.out, Or.inr ⟨HL.out, HD.out⟩⟩, hG8, hX8, nX8, hM8, nM8⟩
      ·have HD := Lib.hid hD; clear hD;go_upto_region 11 with fail
       have Z4 : Hid (sz (aS ((b : Int))) ≤ 1002) := Lib.hid (by have h99 := qD ((b : Int)); have h98 := (show (b : Int).natAbs ≤ 1000 by have := HB13.out; omega); have hb9 := HB.out; omega);have Z5 : Hid (sz ((m) * (aS ((b : Int)))) ≤ 1 * sz (p) + 2004) := Lib.hid (by have h99 := qC (m) (aS ((b : Int))); have h0 := Zm.out; have h1 := Z4.out; have hb9 := HB.out; omega);have B6 : Hid (1000 * (sz (m) + sz (aS ((b : Int)))) + 10000 ≤ LIM) := Lib.hid (by have h0 := Zm.out; have h1 := Z4.out; have hb9 := HB.out; rw [aA] at *; omega);refine oO (F := ?F14) ([.eq (.int .i64 ((b : Int))), .eq (.bool true), .eq (.bool true), .gen (pRn (m)), .eq (.int .i64 ((b : Int))), .gen (pRn (aS ((b : Int)))), .gen (pRn ((m) * (aS ((b : Int))))), .gen (lZ (((m) * (aS ((b : Int)))).den)), .eq (.bool false), .eq (.bool true), .eq (.bool true)] : List Vs) ?hF14 ?st14 ?en14
       case hF14 =>
        intro vals;simp only [Ja.fillL, Act.put, List.setIfInBounds_toArray, List.set_cons_zero, List.set_cons_succ, Nat.reduceAdd];exact rfl
       case st14 =>
        intro hctx;refine JC.p hctx ?_;refine JC.u (.bool (decide (((b : Int)) ≤ (12)))) (congrArg Value.bool (decide_eq_true (show (((b : Int) : Int) ≤ 12) from by have := HL.out; omega))) hctx ?_;refine JC.p hctx ?_;refine JC.l3 (off := 0) hM7 (fun W hN => (Rq.q nM7 hN)) hctx ?_;refine JC.p hctx ?_;refine JC.ca (fun vals W hN hd hk => (aGI ((b : Int)) W (by have := HB13.out; omega)).mono (by rintro e W9 ⟨r, rfl, hr, hq9⟩; exact ⟨r, rfl, hr, hq9⟩)) hctx ?_;refine JC.ca (fun vals W hN hd hk => (aGr _ _ (m) (aS ((b : Int))) W (hd 3 (by kernel_rfl)) (hd 5 (by kernel_rfl)) B6.out).mono (by rintro e W9 ⟨r, rfl, hr, hq9⟩; exact ⟨r, rfl, hr, hq9⟩)) hctx ?_;refine JC.ca (fun vals W hN hd hk => (aED _ ((m) * (aS ((b : Int)))) W (hd 6 (by kernel_rfl))).mono (by rintro e W9 ⟨r, rfl, hr, hq9⟩; exact ⟨r, rfl, hr, hq9⟩)) hctx ?_;refine JC.ca (fun vals W hN hd hk => (uX _ (((m) * (aS ((b : Int)))).den) false W (hd 7 (by kernel_rfl)) (decide_eq_false (HD.out))).mono (by rintro e W9 ⟨rfl, hq9⟩; exact ⟨(.bool false), rfl, rfl, hq9⟩)) hctx ?_;refine JC.p hctx ?_;refine JC.p hctx ?_;exact Ja.Steps.nil
       intro vals w8 hq8 hall;have hG8 := hG7.trans hq8;have hX8 := hX7.q hq8;have nX8 := Rq.q nX7 hq8;have hM8 := hM7.q hq8;have nM8 := Rq.q nM7 hq8;clear hG7 hX7 hM7 nX7 nM7;have f41 : vals 10 = .bool true := hall 10 (by decide);rw [f41];clear f41;clear hall;have hl9 := HL.out;go_wp2_with fail
       exact ⟨⟨b + 1, rfl, Lib.hid (aHA HBe.out hl9 HD.out), hG8, hX8, nX8, hM8, nM8⟩, by simp [intOf]; omega⟩
     ·have HL := Lib.hid hL; clear hL;have hb13 : b = 13 := (by have := HB13.out; have := HL.out; omega);go_upto_region 11 with fail
      refine oO (F := ?F15) ([.eq (.int .i64 ((b : Int))), .eq (.bool false), .eq (.bool false), .no, .no, .no, .no, .no, .no, .no, .eq (.bool false)] : List Vs) ?hF15 ?st15 ?en15
      case hF15 =>
       intro vals;simp only [Ja.fillL, Act.put, List.setIfInBounds_toArray, List.set_cons_zero, List.set_cons_succ, Nat.reduceAdd];exact rfl
      case st15 =>
       intro hctx;refine JC.p hctx ?_;refine JC.u (.bool (decide (((b : Int)) ≤ (12)))) (congrArg Value.bool (decide_eq_false (show ¬ (((b : Int) : Int) ≤ 12) from by have := HL.out; omega))) hctx ?_;refine JC.p hctx ?_;refine JC.n hctx ?_;refine JC.n hctx ?_;refine JC.n hctx ?_;refine JC.n hctx ?_;refine JC.n hctx ?_;refine JC.n hctx ?_;refine JC.n hctx ?_;refine JC.p hctx ?_;exact Ja.Steps.nil
      intro vals w8 hq8 hall;have hG8 := hG7.trans hq8;have hX8 := hX7.q hq8;have nX8 := Rq.q nX7 hq8;have hM8 := hM7.q hq8;have nM8 := Rq.q nM7 hq8;clear hG7 hX7 hM7 nX7 nM7;have f41 : vals 10 = .bool false := hall 10 (by decide);rw [f41];clear f41;clear hall;go_wp2_with fail
      go_meet
      case rel => exact ⟨b, rfl, Lib.hid ⟨HBe.out, Or.inl hb13⟩, hG8, hX8, nX8, hM8, nM8⟩
   case rest =>
    obtain ⟨b, rfl, HBe, hG7, hX7, nX7, hM7, nM7⟩ := hcut;generalize wc = w7 at *
    clear hG6 hX6 nX6 hM6 nM6;have HB13 := Lib.hid HBe.out.1.le;obtain ⟨N, HN⟩ : ∃ N : Nat, Hid (((m) * (aS ((b : Int)))).num.natAbs = N) := ⟨_, Lib.hid rfl⟩
    have HNl : Hid ((dec N).length ≤ 20 * (1 * sz p + 2010) + 1) := Lib.hid (by have h1 := aDW N; rw [aA3] at h1; have h2 := gI ((m) * (aS ((b : Int)))); rw [HN.out] at h2; have h3 := qC (m) (aS (b : Int)); have h4 := qD (b : Int); have h5 := Zm.out; have h6 := HB13.out; omega);go_upto_region 13 with fail
    have Z4 : Hid (sz (aS ((b : Int))) ≤ 1002) := Lib.hid (by have h99 := qD ((b : Int)); have h98 := (show (b : Int).natAbs ≤ 1000 by have := HB13.out; omega); have hb9 := HB.out; omega);have Z5 : Hid (sz ((m) * (aS ((b : Int)))) ≤ 1 * sz (p) + 2004) := Lib.hid (by have h99 := qC (m) (aS ((b : Int))); have h0 := Zm.out; have h1 := Z4.out; have hb9 := HB.out; omega);have B6 : Hid (1000 * (sz (m) + sz (aS ((b : Int)))) + 10000 ≤ LIM) := Lib.hid (by have h0 := Zm.out; have h1 := Z4.out; have hb9 := HB.out; rw [aA] at *; omega);have N7 : Hid (dg B30 (((m) * (aS ((b : Int)))).num.natAbs) ≤ 3 * sz (p) + 6012) := Lib.hid (by have h99 := aDV ((m) * (aS ((b : Int)))); have h0 := Z5.out; have hb9 := HB.out; omega);have B8 : Hid (dg B30 (((m) * (aS ((b : Int)))).num.natAbs) + 1 ≤ LIM) := Lib.hid (by have h50 := N7.out; have hb9 := HB.out; rw [aA] at *; omega);refine oO (F := ?F16) ([.gen (pRn (m)), .eq (.int .i64 ((b : Int))), .gen (pRn (aS ((b : Int)))), .gen (pRn ((m) * (aS ((b : Int))))), .gen (lZ (((m) * (aS ((b : Int)))).num.natAbs)), .eq (.string (ofK (dec (((m) * (aS ((b : Int)))).num.natAbs)))), .eq (.string (ofK (dec (((m) * (aS ((b : Int)))).num.natAbs))))] : List Vs) ?hF16 ?st16 ?en16
    case hF16 =>
     intro vals;simp only [Ja.fillL, Act.put, List.setIfInBounds_toArray, List.set_cons_zero, List.set_cons_succ, Nat.reduceAdd];exact rfl
    case st16 =>
     intro hctx;refine JC.l3 (off := 0) hM7 (fun W hN => (Rq.q nM7 hN)) hctx ?_;refine JC.p hctx ?_;refine JC.ca (fun vals W hN hd hk => (aGI ((b : Int)) W (by have := HB13.out; omega)).mono (by rintro e W9 ⟨r, rfl, hr, hq9⟩; exact ⟨r, rfl, hr, hq9⟩)) hctx ?_;refine JC.ca (fun vals W hN hd hk => (aGr _ _ (m) (aS ((b : Int))) W (hd 0 (by kernel_rfl)) (hd 2 (by kernel_rfl)) B6.out).mono (by rintro e W9 ⟨r, rfl, hr, hq9⟩; exact ⟨r, rfl, hr, hq9⟩)) hctx ?_;refine JC.o hctx ?_ ?_
     ·intro L vals W hL hJ hd K hK;have d3 : Rq W (vals 3) ((m) * (aS ((b : Int)))) := hd 3 (by kernel_rfl);generalize vals 3 = u3 at d3 hK ⊢;have dx := d3;obtain ⟨Ae1, ke1, ce1, Ae2, ke2, ce2, rfl, -⟩ := (show Rq _ _ _ from dx)
      go_simp
      exact hK.out (.slice Ae1 ke1 ce1) _ _ (by kernel_rfl) (Rq.top d3) (Q.refl _)
     refine JC.ca (fun vals W hN hd hk => (kQ _ (((m) * (aS ((b : Int)))).num.natAbs) W (hd 4 (by kernel_rfl)) B8.out).mono (by rintro e W9 ⟨t, rfl, ht, hq9⟩; exact ⟨(.string t), rfl, (congrArg Value.string (zV ht)), hq9⟩)) hctx ?_;refine JC.p hctx ?_;exact Ja.Steps.nil
    intro vals w8 hq8 hall;have hG8 := hG7.trans hq8;have hX8 := hX7.q hq8;have nX8 := Rq.q nX7 hq8;have hM8 := hM7.q hq8;have nM8 := Rq.q nM7 hq8;clear hG7 hX7 hM7 nX7 nM7;have f7 : vals 6 = .string (ofK (dec (((m) * (aS ((b : Int)))).num.natAbs))) := hall 6 (by decide);rw [f7];clear f7;clear hall;rw [HN.out];have HLIM : Hid (sz p ≤ 600000000) := Lib.hid (by have h1 := HB.out; rw [aA] at h1; omega);go_upto_block 4 with fail
    go_cut [7] from 50 to 55 (fun sv w1 => ∃ ls : List UInt8, sv = .string (ofK ls) ∧ Hid (aG2 b N = ls ∧ ls.length ≤ 20 * (1 * sz p + 2010) + 20) ∧ Q w w1 ∧ Bx w1 (w.heap.size) 32 [.int .i64 (sn (p)), .slice AX1 kX1 cX1, .slice AX2 kX2 cX2] ∧ Rq w1 (.agg #[.int .i64 (sn (p)), .slice AX1 kX1 cX1, .slice AX2 kX2 cX2]) (p))
    case first =>
     go_wp2_with fail
     go_loopw [7] (fun sv w1 => ∃ (j : Nat) (ls : List UInt8), Hid (List.replicate j 48 ++ dec N = ls ∧ j ≤ b + 1 - (dec N).length) ∧ sv = .string (ofK ls) ∧ Q w w1 ∧ Bx w1 (w.heap.size) 32 [.int .i64 (sn (p)), .slice AX1 kX1 cX1, .slice AX2 kX2 cX2] ∧ Rq w1 (.agg #[.int .i64 (sn (p)), .slice AX1 kX1 cX1, .slice AX2 kX2 cX2]) (p)) (fun sv _ => b + 1 - aHL sv)
     case atStart => exact ⟨0, dec N, Lib.hid ⟨rfl, Nat.zero_le _⟩, rfl, hG8, hX8, nX8⟩
     case round =>
      obtain ⟨j, ls, HJ, rfl, hG9, hX9, nX9⟩ := hrel;generalize wr = w9 at *
      clear hG8 hX8 nX8 hM8 nM8;have HLl : Hid (ls.length = j + (dec N).length) := Lib.hid (aHh HJ.out.1);by_cases hC : ls.length ≤ b
      ·have HC := Lib.hid hC; clear hC;go_upto_region 14 with fail
       refine bJ (F := ?F17) ([.eq (.string (ofK ls)), .eq (.int .i64 ((ls.length : Int))), .eq (.int .i64 ((b : Int))), .eq (.bool true)] : List Vs) ?hF17 ?st17 ?en17
       case hF17 =>
        intro vals;simp only [Ja.fillL, Act.put, List.setIfInBounds_toArray, List.set_cons_zero, List.set_cons_succ, Nat.reduceAdd];exact rfl
       case st17 =>
        intro hctx;refine JC.p hctx ?_;refine JC.o hctx ?_ ?_
        ·intro L vals W hL hJ hd K hK;have d0 : vals 0 = .string (ofK ls) := hd 0 (by kernel_rfl);generalize vals 0 = u0 at d0 hK ⊢;subst d0;go_simp
         rw [aA3];exact hK.out (.int .i64 ((ls.length : Int))) _ _ (by kernel_rfl) rfl (Q.refl _)
        refine JC.p hctx ?_;refine JC.u (.bool (decide (((ls.length : Int)) ≤ ((b : Int))))) (congrArg Value.bool (decide_eq_true (show (((ls.length : Int) : Int) ≤ (b : Int)) from by have := HC.out; omega))) hctx ?_;exact Ja.Steps.nil
       intro vals w10 hq10 hall;have hG10 := hG9.trans hq10;have hX10 := hX9.q hq10;have nX10 := Rq.q nX9 hq10;clear hG9 hX9 nX9;have f53 : vals 3 = .bool true := hall 3 (by decide);rw [f53];clear f53;clear hall;have hc9 : ¬ 9223372036854775807 < 1 + (ofK ls).size := (by rw [aA3]; have h1 := HC.out; have h2 := HB13.out; omega);have hl9 := HC.out; have hl8 := HLl.out; have hl7 := HJ.out.2;go_wp2_with fail
       exact ⟨⟨j + 1, 48 :: ls, Lib.hid ⟨aHB HJ.out.1, by omega⟩, congrArg Value.string (aHa 48 ls), hG10, hX10, nX10⟩, by show b + 1 - ((⟨#[48]⟩ : ByteArray) ++ ofK ls).size < b + 1 - (ofK ls).size; rw [aHa, aA3, aA3, List.length_cons]; omega⟩
      ·have HC := Lib.hid hC; clear hC;go_upto_region 14 with fail
       refine bJ (F := ?F18) ([.eq (.string (ofK ls)), .eq (.int .i64 ((ls.length : Int))), .eq (.int .i64 ((b : Int))), .eq (.bool false)] : List Vs) ?hF18 ?st18 ?en18
       case hF18 =>
        intro vals;simp only [Ja.fillL, Act.put, List.setIfInBounds_toArray, List.set_cons_zero, List.set_cons_succ, Nat.reduceAdd];exact rfl
       case st18 =>
        intro hctx;refine JC.p hctx ?_;refine JC.o hctx ?_ ?_
        ·intro L vals W hL hJ hd K hK;have d0 : vals 0 = .string (ofK ls) := hd 0 (by kernel_rfl);generalize vals 0 = u0 at d0 hK ⊢;subst d0;go_simp
         rw [aA3];exact hK.out (.int .i64 ((ls.length : Int))) _ _ (by kernel_rfl) rfl (Q.refl _)
        refine JC.p hctx ?_;refine JC.u (.bool (decide (((ls.length : Int)) ≤ ((b : Int))))) (congrArg Value.bool (decide_eq_false (show ¬ (((ls.length : Int) : Int) ≤ (b : Int)) from by have := HC.out; omega))) hctx ?_;exact Ja.Steps.nil
       intro vals w10 hq10 hall;have hG10 := hG9.trans hq10;have hX10 := hX9.q hq10;have nX10 := Rq.q nX9 hq10;clear hG9 hX9 nX9;have f53 : vals 3 = .bool false := hall 3 (by decide);rw [f53];clear f53;clear hall;go_wp2_with fail
       go_meet
       case rel => exact ⟨ls, rfl, Lib.hid ⟨aHI HJ.out.1 HJ.out.2 HC.out, by have h1 := HLl.out; have h2 := HNl.out; have h3 := HJ.out.2; have h4 := HB13.out; omega⟩, hG10, hX10, nX10⟩
    case rest =>
     obtain ⟨ls, rfl, HL, hG9, hX9, nX9⟩ := hcut;generalize wc = w9 at *
     clear hG8 hX8 nX8 hM8 nM8;by_cases hC : b ≤ 12
     ·have HC := Lib.hid hC; clear hC;have HD : Hid (((m) * (aS ((b : Int)))).den = 1) := Lib.hid (by rcases HBe.out.2 with h | h; (have := HC.out; omega); exact h.2);have HPD : Hid (aG2 b (m * aS (b : Int)).num.natAbs = ls) := Lib.hid (by rw [HN.out]; exact HL.out.1);by_cases hW : 400 < ls.length
      ·have HW := Lib.hid hW; clear hW;go_upto_region 16 with fail
       refine bJ (F := ?F19) ([.eq (.int .i64 ((b : Int))), .eq (.bool false), .eq (.bool false), .eq (.string (ofK ls)), .eq (.int .i64 ((ls.length : Int))), .eq (.bool true), .eq (.bool true)] : List Vs) ?hF19 ?st19 ?en19
       case hF19 =>
        intro vals;simp only [Ja.fillL, Act.put, List.setIfInBounds_toArray, List.set_cons_zero, List.set_cons_succ, Nat.reduceAdd];exact rfl
       case st19 =>
        intro hctx;refine JC.p hctx ?_;refine JC.u (.bool (decide ((12) < ((b : Int))))) (congrArg Value.bool (decide_eq_false (show ¬ (((b : Int) : Int) > 12) from by have := HC.out; omega))) hctx ?_;refine JC.p hctx ?_;refine JC.p hctx ?_;refine JC.o hctx ?_ ?_
        ·intro L vals W hL hJ hd K hK;have d3 : vals 3 = .string (ofK ls) := hd 3 (by kernel_rfl);generalize vals 3 = u3 at d3 hK ⊢;subst d3;go_simp
         rw [aA3];exact hK.out (.int .i64 ((ls.length : Int))) _ _ (by kernel_rfl) rfl (Q.refl _)
        refine JC.u (.bool (decide ((400) < ((ls.length : Int))))) (congrArg Value.bool (decide_eq_true (show (((ls.length : Int) : Int) > 400) from by have := HW.out; omega))) hctx ?_;refine JC.p hctx ?_;exact Ja.Steps.nil
       intro vals w10 hq10 hall;have hG10 := hG9.trans hq10;have hX10 := hX9.q hq10;have nX10 := Rq.q nX9 hq10;clear hG9 hX9 nX9;have f62 : vals 6 = .bool true := hall 6 (by decide);rw [f62];clear f62;clear hall;go_upto_region 17 with fail
       have B9 : Hid (1000 * sz (p) + 10000 ≤ LIM) := Lib.hid (by have hb9 := HB.out; rw [aA] at *; omega);refine bJ (F := ?F20) ([.gen (pRn (p)), .eq (.string (ofK (bW (p)))), .eq (.string (ofK (bW (p))))] : List Vs) ?hF20 ?st20 ?en20
       case hF20 =>
        intro vals;simp only [Ja.fillL, Act.put, List.setIfInBounds_toArray, List.set_cons_zero, List.set_cons_succ, Nat.reduceAdd];exact rfl
       case st20 =>
        intro hctx;refine JC.l3 (off := 0) hX10 (fun W hN => (Rq.q nX10 hN)) hctx ?_;refine JC.ca (fun vals W hN hd hk => (aFw _ (p) W (hd 0 (by kernel_rfl)) B9.out).mono (by rintro e W9 ⟨t, rfl, ht, hq9⟩; exact ⟨(.string t), rfl, (congrArg Value.string (zV ht)), hq9⟩)) hctx ?_;refine JC.p hctx ?_;exact Ja.Steps.nil
       intro vals w11 hq11 hall;have hG11 := hG10.trans hq11;have hX11 := hX10.q hq11;have nX11 := Rq.q nX10 hq11;clear hG10 hX10 nX10;have f2 : vals 2 = .string (ofK (bW (p))) := hall 2 (by decide);rw [f2];clear f2;clear hall;have hsn : dH (m * aS 12) = none := aHm HBe.out.1 Hm0.out HC.out HD.out HPD.out HW.out;go_wp2_with fail
       go_ret
       exact ⟨_, rfl, by rw [aHc HZ.out HP.out HM.out hsn]; rfl, hG11⟩
      ·have HW := Lib.hid hW; clear hW;go_upto_region 16 with fail
       refine bJ (F := ?F21) ([.eq (.int .i64 ((b : Int))), .eq (.bool false), .eq (.bool false), .eq (.string (ofK ls)), .eq (.int .i64 ((ls.length : Int))), .eq (.bool false), .eq (.bool false)] : List Vs) ?hF21 ?st21 ?en21
       case hF21 =>
        intro vals;simp only [Ja.fillL, Act.put, List.setIfInBounds_toArray, List.set_cons_zero, List.set_cons_succ, Nat.reduceAdd];exact rfl
       case st21 =>
        intro hctx;refine JC.p hctx ?_;refine JC.u (.bool (decide ((12) < ((b : Int))))) (congrArg Value.bool (decide_eq_false (show ¬ (((b : Int) : Int) > 12) from by have := HC.out; omega))) hctx ?_;refine JC.p hctx ?_;refine JC.p hctx ?_;refine JC.o hctx ?_ ?_
        ·intro L vals W hL hJ hd K hK;have d3 : vals 3 = .string (ofK ls) := hd 3 (by kernel_rfl);generalize vals 3 = u3 at d3 hK ⊢;subst d3;go_simp
         rw [aA3];exact hK.out (.int .i64 ((ls.length : Int))) _ _ (by kernel_rfl) rfl (Q.refl _)
        refine JC.u (.bool (decide ((400) < ((ls.length : Int))))) (congrArg Value.bool (decide_eq_false (show ¬ (((ls.length : Int) : Int) > 400) from by have := HW.out; omega))) hctx ?_;refine JC.p hctx ?_;exact Ja.Steps.nil
       intro vals w10 hq10 hall;have hG10 := hG9.trans hq10;have hX10 := hX9.q hq10;have nX10 := Rq.q nX9 hq10;clear hG9 hX9 nX9;have f62 : vals 6 = .bool false := hall 6 (by decide);rw [f62];clear f62;clear hall;by_cases hO : 0 < b
       ·have HO := Lib.hid hO; clear hO;go_upto_region 18 with fail
        refine bJ (F := ?F22) ([.eq (.int .i64 ((b : Int))), .eq (.bool true)] : List Vs) ?hF22 ?st22 ?en22
        case hF22 =>
         intro vals;simp only [Ja.fillL, Act.put, List.setIfInBounds_toArray, List.set_cons_zero, List.set_cons_succ, Nat.reduceAdd];exact rfl
        case st22 =>
         intro hctx;refine JC.p hctx ?_;refine JC.u (.bool (decide ((0) < ((b : Int))))) (congrArg Value.bool (decide_eq_true (show (((b : Int) : Int) > 0) from by have := HO.out; omega))) hctx ?_;exact Ja.Steps.nil
        intro vals w11 hq11 hall;have hG11 := hG10.trans hq11;have hX11 := hX10.q hq11;have nX11 := Rq.q nX10 hq11;clear hG10 hX10 nX10;have f66 : vals 1 = .bool true := hall 1 (by decide);rw [f66];clear f66;clear hall;go_upto_region 19 with fail
        obtain ⟨n, Hn⟩ : ∃ n : Nat, Hid (ls.length - b = n ∧ ls.length = n + b) := ⟨_, Lib.hid ⟨rfl, by have h1 := HL.out.1; have h2 := aHw b N; rw [h1] at h2; omega⟩⟩
        have hu1 : ((ofK ls).size : Int) - (b : Int) = (n : Int) := (by rw [aA3]; have := Hn.out; omega);have hlw : ls.length ≤ 400 := (by have := HW.out; omega);have hn0 : (0 : Int) ≤ (n : Int) := (by omega); have hn1 : (n : Int) ≤ ((ofK ls).size : Int) := (by omega); have hn2 : (n : Int).toNat = n := rfl; have hn3 : (n : Int) ≤ 1000 := (by have := Hn.out; omega);have E1 : (ofK ls).extract 0 n = ofK (ls.take n) := aGG _ _;have E2 : (ofK ls).extract n (ofK ls).size = ofK (ls.drop n) := aHC _ _;have ht1 : (ofK (ls.take n)).size ≤ 400 := (by rw [aA3, List.length_take]; omega);have ht2 : (ofK (ls.drop n)).size ≤ 400 := (by rw [aA3, List.length_drop]; omega);have hc1 : ¬ 9223372036854775807 < (ofK (ls.take n)).size + 1 := (by omega);have hc2 : ¬ 9223372036854775807 < (ofK (ls.take n)).size + 1 + (ofK (ls.drop n)).size := (by omega);have Hlw := Lib.hid hlw; have HT := Lib.hid (And.intro ht1 ht2); clear hlw ht1 ht2;go_wp2_with fail
        go_region
        go_upto_region 20 with fail
        have hqd : Q w11 w11.drew := (Q.refl _).drew;generalize w11.drew = w12 at hqd ⊢;have hG12 := hG11.trans hqd; have hX12 := hX11.q hqd; have nX12 := nX11.q hqd; clear hG11 hX11 nX11 hqd hc1 hc2 E1 E2 hn0 hn1 hn2 hn3 hu1;obtain ⟨d, Hd⟩ : ∃ d : List UInt8, Hid (ls.take n ++ 46 :: ls.drop n = d) := ⟨_, Lib.hid rfl⟩
        rw [show ofK (ls.take n) ++ ({ data := #[46] } : ByteArray) ++ ofK (ls.drop n) = ofK d by rw [ByteArray.append_assoc, aHa, aGy, Hd.out]];have HS9 : Hid (dH (m * aS 12) = some d) := Lib.hid (by rw [← Hd.out, ← Hn.out.1]; exact aHp HBe.out.1 Hm0.out HC.out HD.out HPD.out HW.out HO.out);have HDl : Hid (d.length ≤ 1000) := Lib.hid (by rw [← Hd.out, List.length_append, List.length_cons, ← aA3, ← aA3]; have := HT.out; omega);have x0 := hX12.cell 0 rfl;have ha9 := Ha.out.2;obtain ⟨pc, hpc⟩ : ∃ pc, ({ data := #[102, 112, 110, 117, 109, 32, 107, 77, 71, 84] } : ByteArray)[a]'(by show a < 10; exact ha9) = pc := ⟨_, rfl⟩
        have HPF := Lib.hid (aGQ hpc);have ha0 : (0 : Int) ≤ (a : Int) := (by omega); have ha1 : (a : Int) < 10 := (by omega); have ha2 : (a : Int).toNat = a := rfl; have ha3 : (a : Int) + 1 ≤ 10 := (by omega); have ha4 : ((a : Int) + 1).toNat = a + 1 := (by omega);by_cases hG : sn p < 0
        ·have HG := Lib.hid hG; clear hG;by_cases hF : a = 5
         ·have HF := Lib.hid hF; clear hF;have hdl : (ofK d).size ≤ 1000 := (by rw [aA3]; exact HDl.out);have hg : sn p < 0 := HG.out;have hp32 := aHd HF.out HPF.out;have hpi : (pc.toNat : Int) = 32 := (by rw [hp32]; rfl);have hpb : ((pc.toNat : Int) == 32) = true := beq_iff_eq.2 hpi;have HP32 := Lib.hid hp32; clear hp32;have hs1 : ¬ 9223372036854775807 < 1 + (ofK d).size := (by omega); have hs2 : ¬ 9223372036854775807 < (ofK d).size + 1 := (by omega); have hs3 : ¬ 9223372036854775807 < 1 + (ofK d).size + 1 := (by omega);go_wp2_with fail
          go_ret
          exact ⟨_, rfl, by rw [aG3 HZ.out HP.out HM.out HS9.out, aG6 HG.out, HF.out, show letter 5 = [] from rfl]; simp [mO], hG12⟩
         ·have HF := Lib.hid hF; clear hF;have hdl : (ofK d).size ≤ 1000 := (by rw [aA3]; exact HDl.out);have hg : sn p < 0 := HG.out;have hp32 := aG8 ha9 HF.out HPF.out;have hpi : ¬ (pc.toNat : Int) = 32 := fun h => hp32 (UInt8.toNat_inj.1 (by have : (32 : UInt8).toNat = 32 := rfl; omega));have hpb : ((pc.toNat : Int) == 32) = false := beq_eq_false_iff_ne.2 hpi;have E3 : ({ data := #[102, 112, 110, 117, 109, 32, 107, 77, 71, 84] } : ByteArray).extract a (a + 1) = ofK (letter a) := aG4 ha9 HF.out;have hll : (ofK (letter a)).size = 1 := (by rw [aA3, aG5 ha9 HF.out]; rfl);have HP32 := Lib.hid hp32; clear hp32;have hs1 : ¬ 9223372036854775807 < 1 + (ofK d).size := (by omega); have hs2 : ¬ 9223372036854775807 < (ofK d).size + 1 := (by omega); have hs3 : ¬ 9223372036854775807 < 1 + (ofK d).size + 1 := (by omega);go_wp2_with fail
          go_ret
          exact ⟨_, rfl, by rw [aG3 HZ.out HP.out HM.out HS9.out, aG6 HG.out]; simp [mO], hG12⟩
        ·have HG := Lib.hid hG; clear hG;by_cases hF : a = 5
         ·have HF := Lib.hid hF; clear hF;have hdl : (ofK d).size ≤ 1000 := (by rw [aA3]; exact HDl.out);have hg : ¬ sn p < 0 := HG.out;have hp32 := aHd HF.out HPF.out;have hpi : (pc.toNat : Int) = 32 := (by rw [hp32]; rfl);have hpb : ((pc.toNat : Int) == 32) = true := beq_iff_eq.2 hpi;have HP32 := Lib.hid hp32; clear hp32;have hs1 : ¬ 9223372036854775807 < 1 + (ofK d).size := (by omega); have hs2 : ¬ 9223372036854775807 < (ofK d).size + 1 := (by omega); have hs3 : ¬ 9223372036854775807 < 1 + (ofK d).size + 1 := (by omega);go_wp2_with fail
          go_ret
          exact ⟨_, rfl, by rw [aG3 HZ.out HP.out HM.out HS9.out, aG7 (by have h := HG.out; omega), HF.out, show letter 5 = [] from rfl]; simp [mO], hG12⟩
         ·have HF := Lib.hid hF; clear hF;have hdl : (ofK d).size ≤ 1000 := (by rw [aA3]; exact HDl.out);have hg : ¬ sn p < 0 := HG.out;have hp32 := aG8 ha9 HF.out HPF.out;have hpi : ¬ (pc.toNat : Int) = 32 := fun h => hp32 (UInt8.toNat_inj.1 (by have : (32 : UInt8).toNat = 32 := rfl; omega));have hpb : ((pc.toNat : Int) == 32) = false := beq_eq_false_iff_ne.2 hpi;have E3 : ({ data := #[102, 112, 110, 117, 109, 32, 107, 77, 71, 84] } : ByteArray).extract a (a + 1) = ofK (letter a) := aG4 ha9 HF.out;have hll : (ofK (letter a)).size = 1 := (by rw [aA3, aG5 ha9 HF.out]; rfl);have HP32 := Lib.hid hp32; clear hp32;have hs1 : ¬ 9223372036854775807 < 1 + (ofK d).size := (by omega); have hs2 : ¬ 9223372036854775807 < (ofK d).size + 1 := (by omega); have hs3 : ¬ 9223372036854775807 < 1 + (ofK d).size + 1 := (by omega);go_wp2_with fail
          go_ret
          exact ⟨_, rfl, by rw [aG3 HZ.out HP.out HM.out HS9.out, aG7 (by have h := HG.out; omega)]; simp [mO], hG12⟩
       ·have HO := Lib.hid hO; clear hO;go_upto_region 18 with fail
        refine bJ (F := ?F23) ([.eq (.int .i64 ((b : Int))), .eq (.bool false)] : List Vs) ?hF23 ?st23 ?en23
        case hF23 =>
         intro vals;simp only [Ja.fillL, Act.put, List.setIfInBounds_toArray, List.set_cons_zero, List.set_cons_succ, Nat.reduceAdd];exact rfl
        case st23 =>
         intro hctx;refine JC.p hctx ?_;refine JC.u (.bool (decide ((0) < ((b : Int))))) (congrArg Value.bool (decide_eq_false (show ¬ (((b : Int) : Int) > 0) from by have := HO.out; omega))) hctx ?_;exact Ja.Steps.nil
        intro vals w11 hq11 hall;have hG11 := hG10.trans hq11;have hX11 := hX10.q hq11;have nX11 := Rq.q nX10 hq11;clear hG10 hX10 nX10;have f66 : vals 1 = .bool false := hall 1 (by decide);rw [f66];clear f66;clear hall;have HS9 : Hid (dH (m * aS 12) = some ls) := Lib.hid (aHq HBe.out.1 Hm0.out HC.out HD.out HPD.out HW.out HO.out);have HDl : Hid (ls.length ≤ 1000) := Lib.hid (by have := HW.out; omega);go_upto_region 20 with fail
        have x0 := hX11.cell 0 rfl;have ha9 := Ha.out.2;obtain ⟨pc, hpc⟩ : ∃ pc, ({ data := #[102, 112, 110, 117, 109, 32, 107, 77, 71, 84] } : ByteArray)[a]'(by show a < 10; exact ha9) = pc := ⟨_, rfl⟩
        have HPF := Lib.hid (aGQ hpc);have ha0 : (0 : Int) ≤ (a : Int) := (by omega); have ha1 : (a : Int) < 10 := (by omega); have ha2 : (a : Int).toNat = a := rfl; have ha3 : (a : Int) + 1 ≤ 10 := (by omega); have ha4 : ((a : Int) + 1).toNat = a + 1 := (by omega);by_cases hG : sn p < 0
        ·have HG := Lib.hid hG; clear hG;by_cases hF : a = 5
         ·have HF := Lib.hid hF; clear hF;have hdl : (ofK ls).size ≤ 1000 := (by rw [aA3]; exact HDl.out);have hg : sn p < 0 := HG.out;have hp32 := aHd HF.out HPF.out;have hpi : (pc.toNat : Int) = 32 := (by rw [hp32]; rfl);have hpb : ((pc.toNat : Int) == 32) = true := beq_iff_eq.2 hpi;have HP32 := Lib.hid hp32; clear hp32;have hs1 : ¬ 9223372036854775807 < 1 + (ofK ls).size := (by omega); have hs2 : ¬ 9223372036854775807 < (ofK ls).size + 1 := (by omega); have hs3 : ¬ 9223372036854775807 < 1 + (ofK ls).size + 1 := (by omega);go_wp2_with fail
          go_ret
          exact ⟨_, rfl, by rw [aG3 HZ.out HP.out HM.out HS9.out, aG6 HG.out, HF.out, show letter 5 = [] from rfl]; simp [mO], hG11⟩
         ·have HF := Lib.hid hF; clear hF;have hdl : (ofK ls).size ≤ 1000 := (by rw [aA3]; exact HDl.out);have hg : sn p < 0 := HG.out;have hp32 := aG8 ha9 HF.out HPF.out;have hpi : ¬ (pc.toNat : Int) = 32 := fun h => hp32 (UInt8.toNat_inj.1 (by have : (32 : UInt8).toNat = 32 := rfl; omega));have hpb : ((pc.toNat : Int) == 32) = false := beq_eq_false_iff_ne.2 hpi;have E3 : ({ data := #[102, 112, 110, 117, 109, 32, 107, 77, 71, 84] } : ByteArray).extract a (a + 1) = ofK (letter a) := aG4 ha9 HF.out;have hll : (ofK (letter a)).size = 1 := (by rw [aA3, aG5 ha9 HF.out]; rfl);have HP32 := Lib.hid hp32; clear hp32;have hs1 : ¬ 9223372036854775807 < 1 + (ofK ls).size := (by omega); have hs2 : ¬ 9223372036854775807 < (ofK ls).size + 1 := (by omega); have hs3 : ¬ 9223372036854775807 < 1 + (ofK ls).size + 1 := (by omega);go_wp2_with fail
          go_ret
          exact ⟨_, rfl, by rw [aG3 HZ.out HP.out HM.out HS9.out, aG6 HG.out]; simp [mO], hG11⟩
        ·have HG := Lib.hid hG; clear hG;by_cases hF : a = 5
         ·have HF := Lib.hid hF; clear hF;have hdl : (ofK ls).size ≤ 1000 := (by rw [aA3]; exact HDl.out);have hg : ¬ sn p < 0 := HG.out;have hp32 := aHd HF.out HPF.out;have hpi : (pc.toNat : Int) = 32 := (by rw [hp32]; rfl);have hpb : ((pc.toNat : Int) == 32) = true := beq_iff_eq.2 hpi;have HP32 := Lib.hid hp32; clear hp32;have hs1 : ¬ 9223372036854775807 < 1 + (ofK ls).size := (by omega); have hs2 : ¬ 9223372036854775807 < (ofK ls).size + 1 := (by omega); have hs3 : ¬ 9223372036854775807 < 1 + (ofK ls).size + 1 := (by omega);go_wp2_with fail
          go_ret
          exact ⟨_, rfl, by rw [aG3 HZ.out HP.out HM.out HS9.out, aG7 (by have h := HG.out; omega), HF.out, show letter 5 = [] from rfl]; simp [mO], hG11⟩
         ·have HF := Lib.hid hF; clear hF;have hdl : (ofK ls).size ≤ 1000 := (by rw [aA3]; exact HDl.out);have hg : ¬ sn p < 0 := HG.out;have hp32 := aG8 ha9 HF.out HPF.out;have hpi : ¬ (pc.toNat : Int) = 32 := fun h => hp32 (UInt8.toNat_inj.1 (by have : (32 : UInt8).toNat = 32 := rfl; omega));have hpb : ((pc.toNat : Int) == 32) = false := beq_eq_false_iff_ne.2 hpi;have E3 : ({ data := #[102, 112, 110, 117, 109, 32, 107, 77, 71, 84] } : ByteArray).extract a (a + 1) = ofK (letter a) := aG4 ha9 HF.out;have hll : (ofK (letter a)).size = 1 := (by rw [aA3, aG5 ha9 HF.out]; rfl);have HP32 := Lib.hid hp32; clear hp32;have hs1 : ¬ 9223372036854775807 < 1 + (ofK ls).size := (by omega); have hs2 : ¬ 9223372036854775807 < (ofK ls).size + 1 := (by omega); have hs3 : ¬ 9223372036854775807 < 1 + (ofK ls).size + 1 := (by omega);go_wp2_with fail
          go_ret
          exact ⟨_, rfl, by rw [aG3 HZ.out HP.out HM.out HS9.out, aG7 (by have h := HG.out; omega)]; simp [mO], hG11⟩
     ·have HC := Lib.hid hC; clear hC;obtain rfl : b = 13 := by rcases HBe.out.2 with h | h; exact h; exact absurd h.1 HC.out
      go_upto_region 16 with fail
      refine bJ (F := ?F24) ([.eq (.int .i64 ((13 : Int))), .eq (.bool true), .eq (.bool true), .no, .no, .no, .eq (.bool true)] : List Vs) ?hF24 ?st24 ?en24
      case hF24 =>
       intro vals;simp only [Ja.fillL, Act.put, List.setIfInBounds_toArray, List.set_cons_zero, List.set_cons_succ, Nat.reduceAdd];exact rfl
      case st24 =>
       intro hctx;refine JC.p hctx ?_;refine JC.u (.bool (decide ((12) < ((13 : Int))))) (congrArg Value.bool (decide_eq_true (show (((13 : Int) : Int) > 12) from by decide))) hctx ?_;refine JC.p hctx ?_;refine JC.n hctx ?_;refine JC.n hctx ?_;refine JC.n hctx ?_;refine JC.p hctx ?_;exact Ja.Steps.nil
      intro vals w10 hq10 hall;have hG10 := hG9.trans hq10;have hX10 := hX9.q hq10;have nX10 := Rq.q nX9 hq10;clear hG9 hX9 nX9;have f62 : vals 6 = .bool true := hall 6 (by decide);rw [f62];clear f62;clear hall;go_upto_region 17 with fail
      have B9 : Hid (1000 * sz (p) + 10000 ≤ LIM) := Lib.hid (by have hb9 := HB.out; rw [aA] at *; omega);refine bJ (F := ?F25) ([.gen (pRn (p)), .eq (.string (ofK (bW (p)))), .eq (.string (ofK (bW (p))))] : List Vs) ?hF25 ?st25 ?en25
      case hF25 =>
       intro vals;simp only [Ja.fillL, Act.put, List.setIfInBounds_toArray, List.set_cons_zero, List.set_cons_succ, Nat.reduceAdd];exact rfl
      case st25 =>
       intro hctx;refine JC.l3 (off := 0) hX10 (fun W hN => (Rq.q nX10 hN)) hctx ?_;refine JC.ca (fun vals W hN hd hk => (aFw _ (p) W (hd 0 (by kernel_rfl)) B9.out).mono (by rintro e W9 ⟨t, rfl, ht, hq9⟩; exact ⟨(.string t), rfl, (congrArg Value.string (zV ht)), hq9⟩)) hctx ?_;refine JC.p hctx ?_;exact Ja.Steps.nil
      intro vals w11 hq11 hall;have hG11 := hG10.trans hq11;have hX11 := hX10.q hq11;have nX11 := Rq.q nX10 hq11;clear hG10 hX10 nX10;have f2 : vals 2 = .string (ofK (bW (p))) := hall 2 (by decide);rw [f2];clear f2;clear hall;have hsn : dH (m * aS 12) = none := aHu HBe.out.1;go_wp2_with fail
      go_ret
      exact ⟨_, rfl, by rw [aHc HZ.out HP.out HM.out hsn]; rfl, hG11⟩
end Go.Proofs.YtgpacgadpnpjjaaGreatDoor.K
