/- ValueParses: for every string the law holds: what Check, Parse, Text and Digits return is what the document says. No condition.. Part of the proof: texts Kc4 Kd3 Kg4. -/
import Derived.Test.YtgpacgadpnpjjaaGreatDoorQp04
import Derived.Test.YtgpacgadpnpjjaaGreatDoorQp22
import Derived.Test.YtgpacgadpnpjjaaGreatDoorQp23
import Derived.Test.YtgpacgadpnpjjaaGreatDoorQp24
set_option maxHeartbeats 4000000
namespace Go.Proofs.YtgpacgadpnpjjaaGreatDoor.K
open Go.RowKit
open Ma Me
theorem tL (a b : ByteArray) : (a ++ b).data.toList = a.data.toList ++ b.data.toList := by simp
theorem aDW (N : Nat) : (ofK (dec N)).size ≤ 20 * dg W64 N + 1 := by
 have e : (ofK (dec N)).size = (dec N).length := by unfold ofK; simp [ByteArray.size]
 rw [e, dU];split
 ·omega
 ·have h := (aD aB N (dg W64 N)).1 (Nat.le_refl _);have h2 : W64 ^ dg W64 N ≤ 10 ^ (20 * dg W64 N) := by
   rw [Nat.pow_mul];exact Nat.pow_le_pow_left (by decide) _
  have h3 := (aD (by decide : 1 < 10) N (20 * dg W64 N)).2 (Nat.lt_of_lt_of_le h h2);omega
theorem qW {p : Rat} (h : 1000 * sz p + 10000 ≤ LIM) : (ofK (dec p.num.natAbs)).size + (ofK (dec p.den)).size + 10 ≤ 9223372036854775807 := by
 have h1 := aDW p.num.natAbs;have h2 := aDW p.den;have h3 := fO p;rw [aA] at h;omega
theorem text_zero' {q : Rat} (h : q = 0) : (ofK (dec q.num.natAbs)).data.toList = bW q := by
 subst h;rw [mO];simp [bW]
theorem kY {q : Rat} {n d : Bool} (hn : decide (q.num < 0) = n) (hd : decide (q.den = 1) = d) : bW q = (if n then [45] else []) ++ dec q.num.natAbs ++ (if d then [] else 47 :: dec q.den) := by
 subst hn; subst hd;unfold bW;simp
theorem uY {q : Rat} : sn q < 0 ↔ q.num < 0 := by
 rw [bG];rcases dF q with ⟨h, e⟩ | ⟨h, e⟩ | ⟨h, e⟩
 ·rw [e]; exact ⟨fun _ => h, fun _ => by decide⟩
 ·rw [e, h]; exact ⟨fun h => absurd h (by decide), fun h => absurd h (by decide)⟩
 ·rw [e]; exact ⟨fun h => absurd h (by decide), fun h2 => by grind⟩
set_option maxRecDepth 100000 in
theorem aFw (x : Value) (p : Rat) (w : World) (hx : Rq w x p) (hB : 1000 * sz p + 10000 ≤ LIM) :
  Calls Tryz.prog 85 #[x] w fun e w' => ∃ t : ByteArray, e = .returned (.string t) ∧ t.data.toList = bW p ∧ Q w w' := by
 have hxy := hx;obtain ⟨AX1, kX1, cX1, AX2, kX2, cX2, rfl, -⟩ := hxy;obtain ⟨w0, hW, hG0, hX0⟩ := yR w 32 [.int .i64 (sn (p)), .slice AX1 kX1 cX1, .slice AX2 kX2 cX2];have nX0 : Rq w0 (.agg #[.int .i64 (sn (p)), .slice AX1 kX1 cX1, .slice AX2 kX2 cX2]) (p) := hx.q hG0;have HB := Lib.hid hB; clear hB;go_enter Tryz.func85, Tryz.ntmps85
 go_upto_region 1 with fail
 clear hW;have N1 : Hid (dg B30 ((p).num.natAbs) ≤ 3 * sz (p)) := Lib.hid (by have h99 := aDV (p); have hb9 := HB.out; omega);have B2 : Hid (dg B30 ((p).num.natAbs) + 1 ≤ LIM) := Lib.hid (by have h50 := N1.out; have hb9 := HB.out; rw [aA] at *; omega);refine bJ (F := ?F1) ([.eq (.pointer (some ⟨w.heap.size, 1, none⟩)), .gen (lZ ((p).num.natAbs)), .eq (.string (ofK (dec ((p).num.natAbs)))), .eq (.string (ofK (dec ((p).num.natAbs))))] : List Vs) ?hF1 ?st1 ?en1
 case hF1 =>
  intro vals;simp only [Ja.fillL, Act.put, List.setIfInBounds_toArray, List.set_cons_zero, List.set_cons_succ, Nat.reduceAdd];exact rfl
 case st1 =>
  intro hctx;refine JC.p hctx ?_;refine JC.l1 (off := 1) hX0 (fun W hN => (Rq.top (Rq.q nX0 hN))) hctx ?_;refine JC.ca (fun vals W hN hd hk => (kQ _ ((p).num.natAbs) W (hd 1 (by kernel_rfl)) B2.out).mono (by rintro e W9 ⟨t, rfl, ht, hq9⟩; exact ⟨(.string t), rfl, (congrArg Value.string (zV ht)), hq9⟩)) hctx ?_;refine JC.p hctx ?_;exact Ja.Steps.nil
 intro vals w1 hq1 hall;have hG1 := hG0.trans hq1;have hX1 := hX0.q hq1;have nX1 := Rq.q nX0 hq1;clear hG0 hX0 nX0;have f3 : vals 3 = .string (ofK (dec ((p).num.natAbs))) := hall 3 (by decide);rw [f3];clear f3;clear hall;go_upto_region 2 with fail
 by_cases hZ : p = 0
 ·have HZ := Lib.hid hZ; clear hZ;refine bJ (F := ?F2) ([.eq (.pointer (some ⟨w.heap.size, 0, none⟩)), .eq (.int .i64 (sn (p))), .eq (.bool false)] : List Vs) ?hF2 ?st2 ?en2
  case hF2 =>
   intro vals;simp only [Ja.fillL, Act.put, List.setIfInBounds_toArray, List.set_cons_zero, List.set_cons_succ, Nat.reduceAdd];exact rfl
  case st2 =>
   intro hctx;refine JC.p hctx ?_;refine JC.l1 (off := 0) hX1 (fun W hN => rfl) hctx ?_;refine JC.u (.bool (decide ((sn (p)) < (0)))) (congrArg Value.bool (decide_eq_false (show ¬ ((sn (p) : Int) < 0) from (by have h9 := fG.2 HZ.out; omega)))) hctx ?_;exact Ja.Steps.nil
  intro vals w2 hq2 hall;have hG2 := hG1.trans hq2;have hX2 := hX1.q hq2;have nX2 := Rq.q nX1 hq2;clear hG1 hX1 nX1;have f9 : vals 2 = .bool false := hall 2 (by decide);rw [f9];clear f9;clear hall;go_upto_region 4 with fail
  refine bJ (F := ?F3) ([.eq (.pointer (some ⟨w.heap.size, 0, none⟩)), .eq (.int .i64 (sn (p))), .eq (.bool false), .eq (.bool false), .no, .no, .no, .no, .eq (.bool false)] : List Vs) ?hF3 ?st3 ?en3
  case hF3 =>
   intro vals;simp only [Ja.fillL, Act.put, List.setIfInBounds_toArray, List.set_cons_zero, List.set_cons_succ, Nat.reduceAdd];exact rfl
  case st3 =>
   intro hctx;refine JC.p hctx ?_;refine JC.l1 (off := 0) hX2 (fun W hN => rfl) hctx ?_;refine JC.u (.bool (!((sn (p)) == (0)))) (congrArg Value.bool (bne_eq_false_iff_eq.2 (fG.2 HZ.out))) hctx ?_;refine JC.p hctx ?_;refine JC.n hctx ?_;refine JC.n hctx ?_;refine JC.n hctx ?_;refine JC.n hctx ?_;refine JC.p hctx ?_;exact Ja.Steps.nil
  intro vals w3 hq3 hall;have hG3 := hG2.trans hq3;have hX3 := hX2.q hq3;have nX3 := Rq.q nX2 hq3;clear hG2 hX2 nX2;have f20 : vals 8 = .bool false := hall 8 (by decide);rw [f20];clear f20;clear hall;go_upto_region 6 with fail
  refine bJ (F := ?F4) ([.eq (.string (ofK (dec ((p).num.natAbs)))), .eq (.string (ofK (dec ((p).num.natAbs))))] : List Vs) ?hF4 ?st4 ?en4
  case hF4 =>
   intro vals;simp only [Ja.fillL, Act.put, List.setIfInBounds_toArray, List.set_cons_zero, List.set_cons_succ, Nat.reduceAdd];exact rfl
  case st4 =>
   intro hctx;refine JC.p hctx ?_;refine JC.p hctx ?_;exact Ja.Steps.nil
  intro vals w4 hq4 hall;have hG4 := hG3.trans hq4;have hX4 := hX3.q hq4;have nX4 := Rq.q nX3 hq4;clear hG3 hX3 nX3;have f2 : vals 1 = .string (ofK (dec ((p).num.natAbs))) := hall 1 (by decide);rw [f2];clear f2;clear hall;go_wp2_with fail
  go_ret
  exact ⟨_, rfl, text_zero' HZ.out, hG4⟩
 ·have HZ := Lib.hid hZ; clear hZ;have hc0 : ¬ 9223372036854775807 < 1 + (ofK (dec p.num.natAbs)).size := (by have := qW HB.out; omega);have hc1 : ¬ 9223372036854775807 < (ofK (dec p.num.natAbs)).size + 1 := (by have := qW HB.out; omega);have hc2 : ¬ 9223372036854775807 < 1 + (ofK (dec p.num.natAbs)).size + 1 := (by have := qW HB.out; omega);have hc3 : ¬ 9223372036854775807 < (ofK (dec p.num.natAbs)).size + 1 + (ofK (dec p.den)).size := (by have := qW HB.out; omega);have hc4 : ¬ 9223372036854775807 < 1 + (ofK (dec p.num.natAbs)).size + 1 + (ofK (dec p.den)).size := (by have := qW HB.out; omega);by_cases hN : sn p < 0
  ·have HN := Lib.hid hN; clear hN;refine bJ (F := ?F5) ([.eq (.pointer (some ⟨w.heap.size, 0, none⟩)), .eq (.int .i64 (sn (p))), .eq (.bool true)] : List Vs) ?hF5 ?st5 ?en5
   case hF5 =>
    intro vals;simp only [Ja.fillL, Act.put, List.setIfInBounds_toArray, List.set_cons_zero, List.set_cons_succ, Nat.reduceAdd];exact rfl
   case st5 =>
    intro hctx;refine JC.p hctx ?_;refine JC.l1 (off := 0) hX1 (fun W hN => rfl) hctx ?_;refine JC.u (.bool (decide ((sn (p)) < (0)))) (congrArg Value.bool (decide_eq_true (show ((sn (p) : Int) < 0) from HN.out))) hctx ?_;exact Ja.Steps.nil
   intro vals w2 hq2 hall;have hG2 := hG1.trans hq2;have hX2 := hX1.q hq2;have nX2 := Rq.q nX1 hq2;clear hG1 hX1 nX1;have f9 : vals 2 = .bool true := hall 2 (by decide);rw [f9];clear f9;clear hall;go_upto_region 4 with fail
   by_cases hD : p.den = 1
   ·have HD := Lib.hid hD; clear hD;refine bJ (F := ?F6) ([.eq (.pointer (some ⟨w.heap.size, 0, none⟩)), .eq (.int .i64 (sn (p))), .eq (.bool true), .eq (.bool true), .eq (.pointer (some ⟨w.heap.size, 2, none⟩)), .gen (lZ ((p).den)), .eq (.bool true), .eq (.bool false), .eq (.bool false)] : List Vs) ?hF6 ?st6 ?en6
    case hF6 =>
     intro vals;simp only [Ja.fillL, Act.put, List.setIfInBounds_toArray, List.set_cons_zero, List.set_cons_succ, Nat.reduceAdd];exact rfl
    case st6 =>
     intro hctx;refine JC.p hctx ?_;refine JC.l1 (off := 0) hX2 (fun W hN => rfl) hctx ?_;refine JC.u (.bool (!((sn (p)) == (0)))) (congrArg Value.bool (bne_iff_ne.2 (fun h9 => HZ.out (fG.1 h9)))) hctx ?_;refine JC.p hctx ?_;refine JC.p hctx ?_;refine JC.l1 (off := 2) hX2 (fun W hN => (Rq.bot (Rq.q nX2 hN) HZ.out)) hctx ?_;refine JC.ca (fun vals W hN hd hk => (uX _ ((p).den) true W (hd 5 (by kernel_rfl)) (decide_eq_true (HD.out))).mono (by rintro e W9 ⟨rfl, hq9⟩; exact ⟨(.bool true), rfl, rfl, hq9⟩)) hctx ?_;refine JC.p hctx ?_;refine JC.p hctx ?_;exact Ja.Steps.nil
    intro vals w3 hq3 hall;have hG3 := hG2.trans hq3;have hX3 := hX2.q hq3;have nX3 := Rq.q nX2 hq3;clear hG2 hX2 nX2;have f20 : vals 8 = .bool false := hall 8 (by decide);rw [f20];clear f20;clear hall;go_upto_region 6 with fail
    refine bJ (F := ?F7) ([.eq (.string ((⟨#[45]⟩ : ByteArray) ++ ofK (dec ((p).num.natAbs)))), .eq (.string ((⟨#[45]⟩ : ByteArray) ++ ofK (dec ((p).num.natAbs))))] : List Vs) ?hF7 ?st7 ?en7
    case hF7 =>
     intro vals;simp only [Ja.fillL, Act.put, List.setIfInBounds_toArray, List.set_cons_zero, List.set_cons_succ, Nat.reduceAdd];exact rfl
    case st7 =>
     intro hctx;refine JC.p hctx ?_;refine JC.p hctx ?_;exact Ja.Steps.nil
    intro vals w4 hq4 hall;have hG4 := hG3.trans hq4;have hX4 := hX3.q hq4;have nX4 := Rq.q nX3 hq4;clear hG3 hX3 nX3;have f2 : vals 1 = .string ((⟨#[45]⟩ : ByteArray) ++ ofK (dec ((p).num.natAbs))) := hall 1 (by decide);rw [f2];clear f2;clear hall;go_wp2_with fail
    go_ret
    exact ⟨_, rfl, by rw [kY (n := true) (d := true) (decide_eq_true (uY.1 HN.out)) (decide_eq_true HD.out)]; simp only [tL, mO]; simp, hG4⟩
   ·have HD := Lib.hid hD; clear hD;refine bJ (F := ?F8) ([.eq (.pointer (some ⟨w.heap.size, 0, none⟩)), .eq (.int .i64 (sn (p))), .eq (.bool true), .eq (.bool true), .eq (.pointer (some ⟨w.heap.size, 2, none⟩)), .gen (lZ ((p).den)), .eq (.bool false), .eq (.bool true), .eq (.bool true)] : List Vs) ?hF8 ?st8 ?en8
    case hF8 =>
     intro vals;simp only [Ja.fillL, Act.put, List.setIfInBounds_toArray, List.set_cons_zero, List.set_cons_succ, Nat.reduceAdd];exact rfl
    case st8 =>
     intro hctx;refine JC.p hctx ?_;refine JC.l1 (off := 0) hX2 (fun W hN => rfl) hctx ?_;refine JC.u (.bool (!((sn (p)) == (0)))) (congrArg Value.bool (bne_iff_ne.2 (fun h9 => HZ.out (fG.1 h9)))) hctx ?_;refine JC.p hctx ?_;refine JC.p hctx ?_;refine JC.l1 (off := 2) hX2 (fun W hN => (Rq.bot (Rq.q nX2 hN) HZ.out)) hctx ?_;refine JC.ca (fun vals W hN hd hk => (uX _ ((p).den) false W (hd 5 (by kernel_rfl)) (decide_eq_false (HD.out))).mono (by rintro e W9 ⟨rfl, hq9⟩; exact ⟨(.bool false), rfl, rfl, hq9⟩)) hctx ?_;refine JC.p hctx ?_;refine JC.p hctx ?_;exact Ja.Steps.nil
    intro vals w3 hq3 hall;have hG3 := hG2.trans hq3;have hX3 := hX2.q hq3;have nX3 := Rq.q nX2 hq3;clear hG2 hX2 nX2;have f20 : vals 8 = .bool true := hall 8 (by decide);rw [f20];clear f20;clear hall;have x2 := hX3.cell 2 rfl;have N3 : Hid (dg B30 ((p).den) ≤ 3 * sz (p)) := Lib.hid (by have h99 := aBy (p); have hb9 := HB.out; omega);have B4 : Hid (dg B30 ((p).den) + 1 ≤ LIM) := Lib.hid (by have h50 := N3.out; have hb9 := HB.out; rw [aA] at *; omega);go_wp2_with fail
    refine (kQ _ (p.den) _ (Rq.bot nX3 HZ.out) B4.out).mono ?_;rintro e w4 ⟨t9, rfl, ht9, hq4⟩;obtain rfl := zV ht9;have hG4 := hG3.trans hq4; have hX4 := hX3.q hq4; have nX4 := nX3.q hq4; clear x2 hX3 nX3 hG3;go_upto_region 6 with fail
    refine bJ (F := ?F9) ([.eq (.string (((⟨#[45]⟩ : ByteArray) ++ ofK (dec ((p).num.natAbs))) ++ (⟨#[47]⟩ : ByteArray) ++ ofK (dec p.den))), .eq (.string (((⟨#[45]⟩ : ByteArray) ++ ofK (dec ((p).num.natAbs))) ++ (⟨#[47]⟩ : ByteArray) ++ ofK (dec p.den)))] : List Vs) ?hF9 ?st9 ?en9
    case hF9 =>
     intro vals;simp only [Ja.fillL, Act.put, List.setIfInBounds_toArray, List.set_cons_zero, List.set_cons_succ, Nat.reduceAdd];exact rfl
    case st9 =>
     intro hctx;refine JC.p hctx ?_;refine JC.p hctx ?_;exact Ja.Steps.nil
    intro vals w5 hq5 hall;have hG5 := hG4.trans hq5;have hX5 := hX4.q hq5;have nX5 := Rq.q nX4 hq5;clear hG4 hX4 nX4;have f2 : vals 1 = .string (((⟨#[45]⟩ : ByteArray) ++ ofK (dec ((p).num.natAbs))) ++ (⟨#[47]⟩ : ByteArray) ++ ofK (dec p.den)) := hall 1 (by decide);rw [f2];clear f2;clear hall;go_wp2_with fail
    go_ret
    exact ⟨_, rfl, by rw [kY (n := true) (d := false) (decide_eq_true (uY.1 HN.out)) (decide_eq_false HD.out)]; simp only [tL, mO]; simp, hG5⟩
  ·have HN := Lib.hid hN; clear hN;refine bJ (F := ?F10) ([.eq (.pointer (some ⟨w.heap.size, 0, none⟩)), .eq (.int .i64 (sn (p))), .eq (.bool false)] : List Vs) ?hF10 ?st10 ?en10
   case hF10 =>
    intro vals;simp only [Ja.fillL, Act.put, List.setIfInBounds_toArray, List.set_cons_zero, List.set_cons_succ, Nat.reduceAdd];exact rfl
   case st10 =>
    intro hctx;refine JC.p hctx ?_;refine JC.l1 (off := 0) hX1 (fun W hN => rfl) hctx ?_;refine JC.u (.bool (decide ((sn (p)) < (0)))) (congrArg Value.bool (decide_eq_false (show ¬ ((sn (p) : Int) < 0) from HN.out))) hctx ?_;exact Ja.Steps.nil
   intro vals w2 hq2 hall;have hG2 := hG1.trans hq2;have hX2 := hX1.q hq2;have nX2 := Rq.q nX1 hq2;clear hG1 hX1 nX1;have f9 : vals 2 = .bool false := hall 2 (by decide);rw [f9];clear f9;clear hall;go_upto_region 4 with fail
   by_cases hD : p.den = 1
   ·have HD := Lib.hid hD; clear hD;refine bJ (F := ?F11) ([.eq (.pointer (some ⟨w.heap.size, 0, none⟩)), .eq (.int .i64 (sn (p))), .eq (.bool true), .eq (.bool true), .eq (.pointer (some ⟨w.heap.size, 2, none⟩)), .gen (lZ ((p).den)), .eq (.bool true), .eq (.bool false), .eq (.bool false)] : List Vs) ?hF11 ?st11 ?en11
    case hF11 =>
     intro vals;simp only [Ja.fillL, Act.put, List.setIfInBounds_toArray, List.set_cons_zero, List.set_cons_succ, Nat.reduceAdd];exact rfl
    case st11 =>
     intro hctx;refine JC.p hctx ?_;refine JC.l1 (off := 0) hX2 (fun W hN => rfl) hctx ?_;refine JC.u (.bool (!((sn (p)) == (0)))) (congrArg Value.bool (bne_iff_ne.2 (fun h9 => HZ.out (fG.1 h9)))) hctx ?_;refine JC.p hctx ?_;refine JC.p hctx ?_;refine JC.l1 (off := 2) hX2 (fun W hN => (Rq.bot (Rq.q nX2 hN) HZ.out)) hctx ?_;refine JC.ca (fun vals W hN hd hk => (uX _ ((p).den) true W (hd 5 (by kernel_rfl)) (decide_eq_true (HD.out))).mono (by rintro e W9 ⟨rfl, hq9⟩; exact ⟨(.bool true), rfl, rfl, hq9⟩)) hctx ?_;refine JC.p hctx ?_;refine JC.p hctx ?_;exact Ja.Steps.nil
    intro vals w3 hq3 hall;have hG3 := hG2.trans hq3;have hX3 := hX2.q hq3;have nX3 := Rq.q nX2 hq3;clear hG2 hX2 nX2;have f20 : vals 8 = .bool false := hall 8 (by decide);rw [f20];clear f20;clear hall;go_upto_region 6 with fail
    refine bJ (F := ?F12) ([.eq (.string (ofK (dec ((p).num.natAbs)))), .eq (.string (ofK (dec ((p).num.natAbs))))] : List Vs) ?hF12 ?st12 ?en12
    case hF12 =>
     intro vals;simp only [Ja.fillL, Act.put, List.setIfInBounds_toArray, List.set_cons_zero, List.set_cons_succ, Nat.reduceAdd];exact rfl
    case st12 =>
     intro hctx;refine JC.p hctx ?_;refine JC.p hctx ?_;exact Ja.Steps.nil
    intro vals w4 hq4 hall;have hG4 := hG3.trans hq4;have hX4 := hX3.q hq4;have nX4 := Rq.q nX3 hq4;clear hG3 hX3 nX3;have f2 : vals 1 = .string (ofK (dec ((p).num.natAbs))) := hall 1 (by decide);rw [f2];clear f2;clear hall;go_wp2_with fail
    go_ret
    exact ⟨_, rfl, by rw [kY (n := false) (d := true) (decide_eq_false (fun h9 => by have h8 := uY.2 h9; have h7 := HN.out; omega)) (decide_eq_true HD.out)]; simp only [mO]; simp, hG4⟩
   ·have HD := Lib.hid hD; clear hD;refine bJ (F := ?F13) ([.eq (.pointer (some ⟨w.heap.size, 0, none⟩)), .eq (.int .i64 (sn (p))), .eq (.bool true), .eq (.bool true), .eq (.pointer (some ⟨w.heap.size, 2, none⟩)), .gen (lZ ((p).den)), .eq (.bool false), .eq (.bool true), .eq (.bool true)] : List Vs) ?hF13 ?st13 ?en13
    case hF13 =>
     intro vals;simp only [Ja.fillL, Act.put, List.setIfInBounds_toArray, List.set_cons_zero, List.set_cons_succ, Nat.reduceAdd];exact rfl
    case st13 =>
     intro hctx;refine JC.p hctx ?_;refine JC.l1 (off := 0) hX2 (fun W hN => rfl) hctx ?_;refine JC.u (.bool (!((sn (p)) == (0)))) (congrArg Value.bool (bne_iff_ne.2 (fun h9 => HZ.out (fG.1 h9)))) hctx ?_;refine JC.p hctx ?_;refine JC.p hctx ?_;refine JC.l1 (off := 2) hX2 (fun W hN => (Rq.bot (Rq.q nX2 hN) HZ.out)) hctx ?_;refine JC.ca (fun vals W hN hd hk => (uX _ ((p).den) false W (hd 5 (by kernel_rfl)) (decide_eq_false (HD.out))).mono (by rintro e W9 ⟨rfl, hq9⟩; exact ⟨(.bool false), rfl, rfl, hq9⟩)) hctx ?_;refine JC.p hctx ?_;refine JC.p hctx ?_;exact Ja.Steps.nil
    intro vals w3 hq3 hall;have hG3 := hG2.trans hq3;have hX3 := hX2.q hq3;have nX3 := Rq.q nX2 hq3;clear hG2 hX2 nX2;have f20 : vals 8 = .bool true := hall 8 (by decide);rw [f20];clear f20;clear hall;have x2 := hX3.cell 2 rfl;have N3 : Hid (dg B30 ((p).den) ≤ 3 * sz (p)) := Lib.hid (by have h99 := aBy (p); have hb9 := HB.out; omega);have B4 : Hid (dg B30 ((p).den) + 1 ≤ LIM) := Lib.hid (by have h50 := N3.out; have hb9 := HB.out; rw [aA] at *; omega);go_wp2_with fail
    refine (kQ _ (p.den) _ (Rq.bot nX3 HZ.out) B4.out).mono ?_;rintro e w4 ⟨t9, rfl, ht9, hq4⟩;obtain rfl := zV ht9;have hG4 := hG3.trans hq4; have hX4 := hX3.q hq4; have nX4 := nX3.q hq4; clear x2 hX3 nX3 hG3;go_upto_region 6 with fail
    refine bJ (F := ?F14) ([.eq (.string ((ofK (dec ((p).num.natAbs))) ++ (⟨#[47]⟩ : ByteArray) ++ ofK (dec p.den))), .eq (.string ((ofK (dec ((p).num.natAbs))) ++ (⟨#[47]⟩ : ByteArray) ++ ofK (dec p.den)))] : List Vs) ?hF14 ?st14 ?en14
    case hF14 =>
     intro vals;simp only [Ja.fillL, Act.put, List.setIfInBounds_toArray, List.set_cons_zero, List.set_cons_succ, Nat.reduceAdd];exact rfl
    case st14 =>
     intro hctx;refine JC.p hctx ?_;refine JC.p hctx ?_;exact Ja.Steps.nil
    intro vals w5 hq5 hall;have hG5 := hG4.trans hq5;have hX5 := hX4.q hq5;have nX5 := Rq.q nX4 hq5;clear hG4 hX4 nX4;have f2 : vals 1 = .string ((ofK (dec ((p).num.natAbs))) ++ (⟨#[47]⟩ : ByteArray) ++ ofK (dec p.den)) := hall 1 (by decide);rw [f2];clear f2;clear hall;go_wp2_with fail
    go_ret
    exact ⟨_, rfl, by rw [kY (n := false) (d := false) (decide_eq_false (fun h9 => by have h8 := uY.2 h9; have h7 := HN.out; omega)) (decide_eq_false HD.out)]; simp only [tL, mO]; simp, hG5⟩
set_option maxRecDepth 100000 in
theorem aCO (x y : Value) (p : Rat) (w : World) (hx : Nq w x p) (hy : Rq w y p) (hB : 2000 * sz p + 500000 ≤ LIM) :
  Calls Tryz.prog 12 #[x, y] w fun e w' => e = .returned (.bool true) ∧ Q w w' := by
 have hxy := hx; obtain ⟨sX0, AX1, kX1, cX1, AX2, kX2, cX2, rfl, -⟩ := Nq.form hxy;have hyy := hy;obtain ⟨AY1, kY1, cY1, AY2, kY2, cY2, rfl, -⟩ := hyy;obtain ⟨w0, hW, hG0, hX0, hY0⟩ := aE6 w 25 [.bool sX0, .slice AX1 kX1 cX1, .slice AX2 kX2 cX2] 32 [.int .i64 (sn (p)), .slice AY1 kY1 cY1, .slice AY2 kY2 cY2];have nX0 : Nq w0 (.agg #[.bool sX0, .slice AX1 kX1 cX1, .slice AX2 kX2 cX2]) (p) := hx.q hG0;have nY0 : Rq w0 (.agg #[.int .i64 (sn (p)), .slice AY1 kY1 cY1, .slice AY2 kY2 cY2]) (p) := hy.q hG0;go_enter Tryz.func12, Tryz.ntmps12
 go_upto_region 1 with fail
 clear hW;have Z1 : Hid (sz p ≤ 549755563) := Lib.hid (by rw [aA] at hB; omega);have B1 : Hid (1000 * sz (p) + 10000 ≤ LIM) := Lib.hid (by have h0 := Z1.out; rw [aA] at *; omega);refine oO (F := ?F1) ([.gen (aN (p)), .eq (.string (ofL (bW (p)))), .gen (pRn (p)), .eq (.string (ofL (bW (p)))), .eq (.bool true), .eq (.bool true)] : List Vs) ?hF1 ?st1 ?en1
 case hF1 =>
  intro vals;simp only [Ja.fillL, Act.put, List.setIfInBounds_toArray, List.set_cons_zero, List.set_cons_succ, Nat.reduceAdd];exact rfl
 case st1 =>
  intro hctx;refine JC.l3 (off := 0) hX0 (fun W hN => (Nq.q nX0 hN)) hctx ?_;refine JC.ca (fun vals W hN hd hk => (mK _ (p) W (hd 0 (by kernel_rfl)) (by have h0 := Z1.out; omega)).mono (by rintro e W9 ⟨t, rfl, ht, hq9⟩; exact ⟨(.string t), rfl, (congrArg Value.string (kP ht)), hq9⟩)) hctx ?_;refine JC.l3 (off := 0) hY0 (fun W hN => (Rq.q nY0 hN)) hctx ?_;refine JC.ca (fun vals W hN hd hk => (aFw _ (p) W (hd 2 (by kernel_rfl)) B1.out).mono (by rintro e W9 ⟨t, rfl, ht, hq9⟩; exact ⟨(.string t), rfl, (congrArg Value.string (kP ht)), hq9⟩)) hctx ?_;refine JC.o hctx ?_ ?_
  ·intro L vals W hL hJ hd K hK;have d1 : vals 1 = .string (ofL (bW (p))) := hd 1 (by kernel_rfl);generalize vals 1 = u1 at d1 hK ⊢;subst d1;have d3 : vals 3 = .string (ofL (bW (p))) := hd 3 (by kernel_rfl);generalize vals 3 = u3 at d3 hK ⊢;subst d3;go_simp
   exact hK.out (.bool true) _ _ (by kernel_rfl) rfl (Q.refl _)
  refine JC.p hctx ?_;exact Ja.Steps.nil
 intro vals w1 hq1 hall;have hG1 := hG0.trans hq1;have hX1 := hX0.q hq1;have nX1 := Nq.q nX0 hq1;have hY1 := hY0.q hq1;have nY1 := Rq.q nY0 hq1;clear hG0 hX0 hY0 nX0 nY0;have f4 : vals 5 = .bool true := hall 5 (by decide);rw [f4];clear f4;clear hall;go_wp2_with fail
 go_ret
 exact ⟨rfl, hG1⟩
theorem aA3 (l : List UInt8) : (ofK l).size = l.length := by unfold ofK; simp [ByteArray.size]
theorem aFJ {p : Rat} (h : p = 0) : 1 = p.den := by rw [h]; rfl
theorem sn_nz' {p : Rat} (h : p ≠ 0) : ¬ sn p = 0 := fun e => h (fG.1 e)
set_option maxRecDepth 100000 in
theorem aED (x : Value) (p : Rat) (w : World) (hx : Rq w x p) :
  Calls Tryz.prog 91 #[x] w fun e w' => ∃ r, e = .returned r ∧ Nr w' r (p.den) ∧ Q w w' := by
 have hxy := hx;obtain ⟨AX1, kX1, cX1, AX2, kX2, cX2, rfl, -⟩ := hxy;obtain ⟨w0, hW, hG0, hX0⟩ := yR w 32 [.int .i64 (sn (p)), .slice AX1 kX1 cX1, .slice AX2 kX2 cX2];have nX0 : Rq w0 (.agg #[.int .i64 (sn (p)), .slice AX1 kX1 cX1, .slice AX2 kX2 cX2]) (p) := hx.q hG0;go_enter Tryz.func91, Tryz.ntmps91
 go_upto_region 1 with fail
 clear hW;by_cases hZ : p = 0
 ·have HZ := Lib.hid hZ; clear hZ;refine bJ (F := ?F1) ([.eq (.pointer (some ⟨w.heap.size, 0, none⟩)), .eq (.int .i64 (sn (p))), .eq (.bool true)] : List Vs) ?hF1 ?st1 ?en1
  case hF1 =>
   intro vals;simp only [Ja.fillL, Act.put, List.setIfInBounds_toArray, List.set_cons_zero, List.set_cons_succ, Nat.reduceAdd];exact rfl
  case st1 =>
   intro hctx;refine JC.p hctx ?_;refine JC.l1 (off := 0) hX0 (fun W hN => rfl) hctx ?_;refine JC.u (.bool ((sn (p)) == (0))) (congrArg Value.bool (beq_iff_eq.2 ((fG.2 HZ.out)))) hctx ?_;exact Ja.Steps.nil
  intro vals w1 hq1 hall;have hG1 := hG0.trans hq1;have hX1 := hX0.q hq1;have nX1 := Rq.q nX0 hq1;clear hG0 hX0 nX0;have f5 : vals 2 = .bool true := hall 2 (by decide);rw [f5];clear f5;clear hall;go_upto_region 2 with fail
  refine bJ (F := ?F2) ([.gen (lZ ((p).den)), .gen (lZ ((p).den))] : List Vs) ?hF2 ?st2 ?en2
  case hF2 =>
   intro vals;simp only [Ja.fillL, Act.put, List.setIfInBounds_toArray, List.set_cons_zero, List.set_cons_succ, Nat.reduceAdd];exact rfl
  case st2 =>
   intro hctx;refine JC.ca (fun vals W hN hd hk => (xJ W).mono (by rintro e W9 ⟨r, rfl, hr, hq9, -⟩; exact ⟨r, rfl, (by have h8 := hr; rw [show (1 : Nat) = (p).den from aFJ HZ.out] at h8; exact h8), hq9⟩)) hctx ?_;refine JC.m 0 hctx ?_;exact Ja.Steps.nil
  intro vals w2 hq2 hall;have hG2 := hG1.trans hq2;have hX2 := hX1.q hq2;have nX2 := Rq.q nX1 hq2;clear hG1 hX1 nX1;obtain ⟨x2_2, ex2_2⟩ : ∃ x, x = vals 1 := ⟨_, rfl⟩
  have v2_2_2 : Nr w2 (x2_2) ((p).den) := (by have h9 : Nr w2 (vals 1) ((p).den) := hall 1 (by decide); rw [← ex2_2] at h9; exact h9)
  rw [← ex2_2]; clear ex2_2;clear hall;go_wp2_with fail
  go_ret
  exact ⟨_, rfl, v2_2_2, hG2⟩
 ·have HZ := Lib.hid hZ; clear hZ;refine bJ (F := ?F3) ([.eq (.pointer (some ⟨w.heap.size, 0, none⟩)), .eq (.int .i64 (sn (p))), .eq (.bool false)] : List Vs) ?hF3 ?st3 ?en3
  case hF3 =>
   intro vals;simp only [Ja.fillL, Act.put, List.setIfInBounds_toArray, List.set_cons_zero, List.set_cons_succ, Nat.reduceAdd];exact rfl
  case st3 =>
   intro hctx;refine JC.p hctx ?_;refine JC.l1 (off := 0) hX0 (fun W hN => rfl) hctx ?_;refine JC.u (.bool ((sn (p)) == (0))) (congrArg Value.bool (beq_eq_false_iff_ne.2 (sn_nz' HZ.out))) hctx ?_;exact Ja.Steps.nil
  intro vals w1 hq1 hall;have hG1 := hG0.trans hq1;have hX1 := hX0.q hq1;have nX1 := Rq.q nX0 hq1;clear hG0 hX0 nX0;have f5 : vals 2 = .bool false := hall 2 (by decide);rw [f5];clear f5;clear hall;go_upto_region 3 with fail
  refine bJ (F := ?F4) ([.eq (.pointer (some ⟨w.heap.size, 2, none⟩)), .gen (lZ ((p).den)), .gen (lZ ((p).den))] : List Vs) ?hF4 ?st4 ?en4
  case hF4 =>
   intro vals;simp only [Ja.fillL, Act.put, List.setIfInBounds_toArray, List.set_cons_zero, List.set_cons_succ, Nat.reduceAdd];exact rfl
  case st4 =>
   intro hctx;refine JC.p hctx ?_;refine JC.l1 (off := 2) hX1 (fun W hN => (Rq.bot (Rq.q nX1 hN) HZ.out)) hctx ?_;refine JC.m 1 hctx ?_;exact Ja.Steps.nil
  intro vals w2 hq2 hall;have hG2 := hG1.trans hq2;have hX2 := hX1.q hq2;have nX2 := Rq.q nX1 hq2;clear hG1 hX1 nX1;obtain ⟨x2_2, ex2_2⟩ : ∃ x, x = vals 2 := ⟨_, rfl⟩
  have v2_2_2 : Nr w2 (x2_2) ((p).den) := (by have h9 : Nr w2 (vals 2) ((p).den) := hall 2 (by decide); rw [← ex2_2] at h9; exact h9)
  rw [← ex2_2]; clear ex2_2;clear hall;go_wp2_with fail
  go_ret
  exact ⟨_, rfl, v2_2_2, hG2⟩
set_option maxRecDepth 100000 in
theorem aAa (x : Value) (p : Rat) (w : World) (hx : Rq w x p) (hB : 1000 * sz p + 10000 ≤ LIM) :
  Calls Tryz.prog 15 #[x] w fun e w' => e = .returned (.int .i64 ((gF p : Nat) : Int)) ∧ Q w w' := by
 have hxy := hx;obtain ⟨AX1, kX1, cX1, AX2, kX2, cX2, rfl, -⟩ := hxy;obtain ⟨w0, hW, hG0, hX0⟩ := yR w 32 [.int .i64 (sn (p)), .slice AX1 kX1 cX1, .slice AX2 kX2 cX2];have nX0 : Rq w0 (.agg #[.int .i64 (sn (p)), .slice AX1 kX1 cX1, .slice AX2 kX2 cX2]) (p) := hx.q hG0;have HB := Lib.hid hB; clear hB;go_enter Tryz.func15, Tryz.ntmps15
 go_upto_region 1 with fail
 clear hW;have N1 : Hid (dg B30 ((p).num.natAbs) ≤ 3 * sz (p)) := Lib.hid (by have h99 := aDV (p); have hb9 := HB.out; omega);have B2 : Hid (dg B30 ((p).num.natAbs) + 1 ≤ LIM) := Lib.hid (by have h50 := N1.out; have hb9 := HB.out; rw [aA] at *; omega);have N3 : Hid (dg B30 ((p).den) ≤ 3 * sz (p)) := Lib.hid (by have h99 := aBy (p); have hb9 := HB.out; omega);have B4 : Hid (dg B30 ((p).den) + 1 ≤ LIM) := Lib.hid (by have h50 := N3.out; have hb9 := HB.out; rw [aA] at *; omega);refine oO (F := ?F5) ([.eq (.pointer (some ⟨w.heap.size, 1, none⟩)), .gen (lZ ((p).num.natAbs)), .eq (.string (ofK (dec ((p).num.natAbs)))), .eq (.int .i64 (((dec ((p).num.natAbs)).length : Int))), .gen (pRn (p)), .gen (lZ ((p).den)), .eq (.string (ofK (dec ((p).den)))), .eq (.int .i64 (((dec ((p).den)).length : Int))), .eq (.int .i64 (((gF p : Nat) : Int))), .eq (.int .i64 (((gF p : Nat) : Int)))] : List Vs) ?hF5 ?st5 ?en5
 case hF5 =>
  intro vals;simp only [Ja.fillL, Act.put, List.setIfInBounds_toArray, List.set_cons_zero, List.set_cons_succ, Nat.reduceAdd];exact rfl
 case st5 =>
  intro hctx;refine JC.p hctx ?_;refine JC.l1 (off := 1) hX0 (fun W hN => (Rq.top (Rq.q nX0 hN))) hctx ?_;refine JC.ca (fun vals W hN hd hk => (kQ _ ((p).num.natAbs) W (hd 1 (by kernel_rfl)) B2.out).mono (by rintro e W9 ⟨t, rfl, ht, hq9⟩; exact ⟨(.string t), rfl, (congrArg Value.string (zV ht)), hq9⟩)) hctx ?_;refine JC.o hctx ?_ ?_
  ·intro L vals W hL hJ hd K hK;have d2 : vals 2 = .string (ofK (dec ((p).num.natAbs))) := hd 2 (by kernel_rfl);generalize vals 2 = u2 at d2 hK ⊢;subst d2;go_simp
   rw [aA3];exact hK.out (.int .i64 (((dec ((p).num.natAbs)).length : Int))) _ _ (by kernel_rfl) rfl (Q.refl _)
  refine JC.l3 (off := 0) hX0 (fun W hN => (Rq.q nX0 hN)) hctx ?_;refine JC.ca (fun vals W hN hd hk => (aED _ (p) W (hd 4 (by kernel_rfl))).mono (by rintro e W9 ⟨r, rfl, hr, hq9⟩; exact ⟨r, rfl, hr, hq9⟩)) hctx ?_;refine JC.ca (fun vals W hN hd hk => (kQ _ ((p).den) W (hd 5 (by kernel_rfl)) B4.out).mono (by rintro e W9 ⟨t, rfl, ht, hq9⟩; exact ⟨(.string t), rfl, (congrArg Value.string (zV ht)), hq9⟩)) hctx ?_;refine JC.o hctx ?_ ?_
  ·intro L vals W hL hJ hd K hK;have d6 : vals 6 = .string (ofK (dec ((p).den))) := hd 6 (by kernel_rfl);generalize vals 6 = u6 at d6 hK ⊢;subst d6;go_simp
   rw [aA3];exact hK.out (.int .i64 (((dec ((p).den)).length : Int))) _ _ (by kernel_rfl) rfl (Q.refl _)
  refine JC.o hctx ?_ ?_
  ·intro L vals W hL hJ hd K hK;have d3 : vals 3 = .int .i64 (((dec ((p).num.natAbs)).length : Int)) := hd 3 (by kernel_rfl);generalize vals 3 = u3 at d3 hK ⊢;subst d3;have d7 : vals 7 = .int .i64 (((dec ((p).den)).length : Int)) := hd 7 (by kernel_rfl);generalize vals 7 = u7 at d7 hK ⊢;subst d7;go_simp
   rw [show max ((dec ((p).num.natAbs)).length : Int) ((dec ((p).den)).length : Int) = ((gF p : Nat) : Int) by unfold gF; omega];exact hK.out (.int .i64 (((gF p : Nat) : Int))) _ _ (by kernel_rfl) rfl (Q.refl _)
  refine JC.p hctx ?_;exact Ja.Steps.nil
 intro vals w1 hq1 hall;have hG1 := hG0.trans hq1;have hX1 := hX0.q hq1;have nX1 := Rq.q nX0 hq1;clear hG0 hX0 nX0;have f2 : vals 9 = .int .i64 (((gF p : Nat) : Int)) := hall 9 (by decide);rw [f2];clear f2;clear hall;go_wp2_with fail
 go_ret
 exact ⟨rfl, hG1⟩
end Go.Proofs.YtgpacgadpnpjjaaGreatDoor.K
