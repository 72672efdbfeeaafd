/- ValueRounds: for every string and every int the law holds: Down, Up, Floor and Ceil of the number that the string is are what the document says, or nothing if it is none. No condition.. Part of the proof: texts Kg2. -/
import Derived.Test.YtgpacgadpnpjjaaGreatDoorQp01
import Derived.Test.YtgpacgadpnpjjaaGreatDoorQp02
import Derived.Test.YtgpacgadpnpjjaaGreatDoorQp03
import Derived.Test.YtgpacgadpnpjjaaGreatDoorQp04
import Derived.Test.YtgpacgadpnpjjaaGreatDoorQp05
import Derived.Test.YtgpacgadpnpjjaaGreatDoorQp06
import Derived.Test.YtgpacgadpnpjjaaGreatDoorQp07
import Derived.Test.YtgpacgadpnpjjaaGreatDoorQp08
import Derived.Test.YtgpacgadpnpjjaaGreatDoorQp09
import Derived.Test.YtgpacgadpnpjjaaGreatDoorQp10
import Derived.Test.YtgpacgadpnpjjaaGreatDoorQp11
import Derived.Test.YtgpacgadpnpjjaaGreatDoorQp12
import Derived.Test.YtgpacgadpnpjjaaGreatDoorQp13
import Derived.Test.YtgpacgadpnpjjaaGreatDoorQp14
import Derived.Test.YtgpacgadpnpjjaaGreatDoorQp15
import Derived.Test.YtgpacgadpnpjjaaGreatDoorQp16
import Derived.Test.YtgpacgadpnpjjaaGreatDoorQp17
import Derived.Test.YtgpacgadpnpjjaaGreatDoorQp18
import Derived.Test.YtgpacgadpnpjjaaGreatDoorQp19
import Derived.Test.YtgpacgadpnpjjaaGreatDoorQp20
import Derived.Test.YtgpacgadpnpjjaaGreatDoorQp21
import Derived.Test.YtgpacgadpnpjjaaGreatDoorQp22
import Derived.Test.YtgpacgadpnpjjaaGreatDoorQp23
import Derived.Test.YtgpacgadpnpjjaaGreatDoorQp24
import Derived.Test.YtgpacgadpnpjjaaGreatDoorQp25
import Derived.Test.YtgpacgadpnpjjaaGreatDoorQp27
import Derived.Test.YtgpacgadpnpjjaaGreatDoorQr02
set_option maxHeartbeats 4000000
namespace Go.Proofs.YtgpacgadpnpjjaaGreatDoor.K
open Go.RowKit
open Ma Me
set_option maxRecDepth 100000 in
theorem aGf (x : Value) (p : Rat) (w : World) (hx : Rq w x p) (hz : p ≠ 0) (hB : 1000 * sz p + 10000 ≤ LIM) :
  Calls Tryz.prog 108 #[x] w fun e w' => e = .returned (.int .i64 (lg p.num.natAbs p.den)) ∧ Q w w' := by
 have HZ := Lib.hid hz; clear hz;have hxy := hx;obtain ⟨AX1, kX1, cX1, AX2, kX2, cX2, rfl, -⟩ := hxy;obtain ⟨w0, hW, hG0, hX0⟩ := yR w 32 [.int .i64 (sn (p)), .slice AX1 kX1 cX1, .slice AX2 kX2 cX2];have nX0 : Rq w0 (.agg #[.int .i64 (sn (p)), .slice AX1 kX1 cX1, .slice AX2 kX2 cX2]) (p) := hx.q hG0;have HB := Lib.hid hB; clear hB;go_enter Tryz.func108, Tryz.ntmps108
 go_upto_region 1 with fail
 clear hW;obtain ⟨k, Hk⟩ : ∃ k : Int, Hid ((bl (p).num.natAbs : Int) - (bl (p).den : Int) = k) := ⟨_, Lib.hid rfl⟩
 have Hkb : Hid (k.natAbs ≤ 64 * sz p) := Lib.hid (by have h1 := iB (p).num.natAbs; have h2 := iB (p).den; have h3 := fO p; have h4 := Hk.out; omega);have N1 : Hid (dg B30 ((p).num.natAbs) ≤ 3 * sz (p)) := Lib.hid (by have h99 := aDV (p); have hb9 := HB.out; omega);have B2 : Hid (dg B30 ((p).num.natAbs) ≤ LIM) := Lib.hid (by have h50 := N1.out; have hb9 := HB.out; rw [aA] at *; omega);have N3 : Hid (dg B30 ((p).den) ≤ 3 * sz (p)) := Lib.hid (by have h99 := aBy (p); have hb9 := HB.out; omega);have B4 : Hid (dg B30 ((p).den) ≤ LIM) := Lib.hid (by have h50 := N3.out; have hb9 := HB.out; rw [aA] at *; omega);refine oO (F := ?F1) ([.eq (.pointer (some ⟨w.heap.size, 1, none⟩)), .gen (lZ ((p).num.natAbs)), .eq (.int .i64 ((bl ((p).num.natAbs) : Int))), .eq (.pointer (some ⟨w.heap.size, 2, none⟩)), .gen (lZ ((p).den)), .eq (.int .i64 ((bl ((p).den) : Int))), .eq (.int .i64 (k)), .eq (.int .i64 (k))] : List Vs) ?hF1 ?st1 ?en1
 case hF1 =>
  intro vals;simp only [Ja.fillL, Act.put, List.setIfInBounds_toArray, List.set_cons_zero, List.set_cons_succ, Nat.reduceAdd];exact rfl
 case st1 =>
  intro hctx;refine JC.p hctx ?_;refine JC.l1 (off := 1) hX0 (fun W hN => (Rq.top (Rq.q nX0 hN))) hctx ?_;refine JC.ca (fun vals W hN hd hk => (eT _ ((p).num.natAbs) W (hd 1 (by kernel_rfl)) B2.out).mono (by rintro e W9 ⟨rfl, hq9⟩; exact ⟨(.int .i64 (bl ((p).num.natAbs) : Int)), rfl, rfl, hq9⟩)) hctx ?_;refine JC.p hctx ?_;refine JC.l1 (off := 2) hX0 (fun W hN => (Rq.bot (Rq.q nX0 hN) HZ.out)) hctx ?_;refine JC.ca (fun vals W hN hd hk => (eT _ ((p).den) W (hd 4 (by kernel_rfl)) B4.out).mono (by rintro e W9 ⟨rfl, hq9⟩; exact ⟨(.int .i64 (bl ((p).den) : Int)), rfl, rfl, hq9⟩)) hctx ?_;refine JC.u (.int .i64 (IntKind.i64.wrap (((bl ((p).num.natAbs) : Int)) - ((bl ((p).den) : Int))))) (by exact congrArg (Value.int .i64) (show IntKind.i64.wrap ((bl (p).num.natAbs : Int) - (bl (p).den : Int)) = k from by rw [Hk.out]; exact dA (by have := Hkb.out; have := HB.out; rw [aA] at *; omega) (by have := Hkb.out; have := HB.out; rw [aA] at *; omega))) hctx ?_;refine JC.p hctx ?_;exact Ja.Steps.nil
 intro vals w1 hq1 hall;have hG1 := hG0.trans hq1;have hX1 := hX0.q hq1;have nX1 := Rq.q nX0 hq1;clear hG0 hX0 nX0;have f3 : vals 7 = .int .i64 (k) := hall 7 (by decide);rw [f3];clear f3;clear hall;go_upto_region 2 with fail
 by_cases hC : (p).num.natAbs * 2 ^ (-k).toNat < (p).den * 2 ^ k.toNat
 ·have HC := Lib.hid hC; clear hC;have B5 : Hid (dg B30 ((p).num.natAbs) + ((-k).toNat) + 2 ≤ LIM) := Lib.hid (by have hk9 := Hkb.out; have h50 := N1.out; have hb9 := HB.out; rw [aA] at *; omega);have N6 : Hid (dg B30 (((p).num.natAbs) * 2 ^ ((-k).toNat)) ≤ 67 * sz (p) + 1) := Lib.hid (by have h99 := dM ((p).num.natAbs) ((-k).toNat); have hb9 := HB.out; have hk9 := Hkb.out; have h50 := N1.out; omega);have B7 : Hid (dg B30 ((p).den) + (k.toNat) + 2 ≤ LIM) := Lib.hid (by have hk9 := Hkb.out; have h50 := N3.out; have hb9 := HB.out; rw [aA] at *; omega);have N8 : Hid (dg B30 (((p).den) * 2 ^ (k.toNat)) ≤ 67 * sz (p) + 1) := Lib.hid (by have h99 := dM ((p).den) (k.toNat); have hb9 := HB.out; have hk9 := Hkb.out; have h50 := N3.out; omega);have B9 : Hid (dg B30 (((p).num.natAbs) * 2 ^ ((-k).toNat)) ≤ LIM) := Lib.hid (by have h50 := N6.out; have hb9 := HB.out; rw [aA] at *; omega);have B10 : Hid (dg B30 (((p).den) * 2 ^ (k.toNat)) ≤ LIM) := Lib.hid (by have h50 := N8.out; have hb9 := HB.out; rw [aA] at *; omega);refine oO (F := ?F2) ([.eq (.pointer (some ⟨w.heap.size, 1, none⟩)), .gen (lZ ((p).num.natAbs)), .eq (.int .i64 (k)), .eq (.int .i64 (-k)), .eq (.int .i64 (((-k).toNat : Int))), .gen (lZ (((p).num.natAbs) * 2 ^ ((-k).toNat))), .eq (.pointer (some ⟨w.heap.size, 2, none⟩)), .gen (lZ ((p).den)), .eq (.int .i64 (k)), .eq (.int .i64 ((k.toNat : Int))), .gen (lZ (((p).den) * 2 ^ (k.toNat))), .eq (.int .i64 (cmp (((p).num.natAbs) * 2 ^ ((-k).toNat)) (((p).den) * 2 ^ (k.toNat)))), .eq (.bool true)] : List Vs) ?hF2 ?st2 ?en2
  case hF2 =>
   intro vals;simp only [Ja.fillL, Act.put, List.setIfInBounds_toArray, List.set_cons_zero, List.set_cons_succ, Nat.reduceAdd];exact rfl
  case st2 =>
   intro hctx;refine JC.p hctx ?_;refine JC.l1 (off := 1) hX1 (fun W hN => (Rq.top (Rq.q nX1 hN))) hctx ?_;refine JC.p hctx ?_;refine JC.u (.int .i64 (IntKind.i64.wrap (0 - (k)))) (by exact congrArg (Value.int .i64) (show IntKind.i64.wrap (0 - (k)) = -k from by rw [Int.zero_sub]; exact dA (by have := Hkb.out; have := HB.out; rw [aA] at *; omega) (by have := Hkb.out; have := HB.out; rw [aA] at *; omega))) hctx ?_;refine JC.o hctx ?_ ?_
   ·intro L vals W hL hJ hd K hK;have d3 : vals 3 = .int .i64 (-k) := hd 3 (by kernel_rfl);generalize vals 3 = u3 at d3 hK ⊢;subst d3;go_simp
    rw [show max (-k) 0 = ((-k).toNat : Int) by omega];exact hK.out (.int .i64 (((-k).toNat : Int))) _ _ (by kernel_rfl) rfl (Q.refl _)
   refine JC.ca (fun vals W hN hd hk => (uW _ ((p).num.natAbs) ((-k).toNat) _ W (hd 1 (by kernel_rfl)) (rfl) B5.out).mono (by rintro e W9 ⟨r, rfl, hr, hq9, -⟩; exact ⟨r, rfl, hr, hq9⟩)) hctx ?_;refine JC.p hctx ?_;refine JC.l1 (off := 2) hX1 (fun W hN => (Rq.bot (Rq.q nX1 hN) HZ.out)) hctx ?_;refine JC.p hctx ?_;refine JC.o hctx ?_ ?_
   ·intro L vals W hL hJ hd K hK;have d8 : vals 8 = .int .i64 (k) := hd 8 (by kernel_rfl);generalize vals 8 = u8 at d8 hK ⊢;subst d8;go_simp
    rw [show max k 0 = (k.toNat : Int) by omega];exact hK.out (.int .i64 ((k.toNat : Int))) _ _ (by kernel_rfl) rfl (Q.refl _)
   refine JC.ca (fun vals W hN hd hk => (uW _ ((p).den) (k.toNat) _ W (hd 7 (by kernel_rfl)) (rfl) B7.out).mono (by rintro e W9 ⟨r, rfl, hr, hq9, -⟩; exact ⟨r, rfl, hr, hq9⟩)) hctx ?_;refine JC.ca (fun vals W hN hd hk => (jR _ _ (((p).num.natAbs) * 2 ^ ((-k).toNat)) (((p).den) * 2 ^ (k.toNat)) W (hd 5 (by kernel_rfl)) (hd 10 (by kernel_rfl)) B9.out B10.out).mono (by rintro e W9 ⟨rfl, hq9⟩; exact ⟨(.int .i64 (cmp (((p).num.natAbs) * 2 ^ ((-k).toNat)) (((p).den) * 2 ^ (k.toNat)))), rfl, rfl, hq9⟩)) hctx ?_;refine JC.u (.bool (decide ((cmp (((p).num.natAbs) * 2 ^ ((-k).toNat)) (((p).den) * 2 ^ (k.toNat))) < (0)))) (congrArg Value.bool (decide_eq_true (show ((cmp (((p).num.natAbs) * 2 ^ ((-k).toNat)) (((p).den) * 2 ^ (k.toNat)) : Int) < 0) from lN.2 HC.out))) hctx ?_;exact Ja.Steps.nil
  intro vals w2 hq2 hall;have hG2 := hG1.trans hq2;have hX2 := hX1.q hq2;have nX2 := Rq.q nX1 hq2;clear hG1 hX1 nX1;have f23 : vals 12 = .bool true := hall 12 (by decide);rw [f23];clear f23;clear hall;go_upto_region 3 with fail
  have hk1 : (-9223372036854775808 : Int) ≤ k - 1 := (by have := Hkb.out; have := HB.out; rw [aA] at *; omega);have hk2 : k - 1 ≤ 9223372036854775807 := (by have := Hkb.out; have := HB.out; rw [aA] at *; omega);go_upto_region 4 with fail
  refine bJ (F := ?F3) ([.eq (.int .i64 (k - 1)), .eq (.int .i64 (k - 1))] : List Vs) ?hF3 ?st3 ?en3
  case hF3 =>
   intro vals;simp only [Ja.fillL, Act.put, List.setIfInBounds_toArray, List.set_cons_zero, List.set_cons_succ, Nat.reduceAdd];exact rfl
  case st3 =>
   intro hctx;refine JC.p hctx ?_;refine JC.p hctx ?_;exact Ja.Steps.nil
  intro vals w3 hq3 hall;have hG3 := hG2.trans hq3;have hX3 := hX2.q hq3;have nX3 := Rq.q nX2 hq3;clear hG2 hX2 nX2;have f2 : vals 1 = .int .i64 (k - 1) := hall 1 (by decide);rw [f2];clear f2;clear hall;go_wp2_with fail
  go_ret
  exact ⟨by unfold lg; rw [Hk.out, if_pos HC.out]; rfl, hG3⟩
 ·have HC := Lib.hid hC; clear hC;have B5 : Hid (dg B30 ((p).num.natAbs) + ((-k).toNat) + 2 ≤ LIM) := Lib.hid (by have hk9 := Hkb.out; have h50 := N1.out; have hb9 := HB.out; rw [aA] at *; omega);have N6 : Hid (dg B30 (((p).num.natAbs) * 2 ^ ((-k).toNat)) ≤ 67 * sz (p) + 1) := Lib.hid (by have h99 := dM ((p).num.natAbs) ((-k).toNat); have hb9 := HB.out; have hk9 := Hkb.out; have h50 := N1.out; omega);have B7 : Hid (dg B30 ((p).den) + (k.toNat) + 2 ≤ LIM) := Lib.hid (by have hk9 := Hkb.out; have h50 := N3.out; have hb9 := HB.out; rw [aA] at *; omega);have N8 : Hid (dg B30 (((p).den) * 2 ^ (k.toNat)) ≤ 67 * sz (p) + 1) := Lib.hid (by have h99 := dM ((p).den) (k.toNat); have hb9 := HB.out; have hk9 := Hkb.out; have h50 := N3.out; omega);have B9 : Hid (dg B30 (((p).num.natAbs) * 2 ^ ((-k).toNat)) ≤ LIM) := Lib.hid (by have h50 := N6.out; have hb9 := HB.out; rw [aA] at *; omega);have B10 : Hid (dg B30 (((p).den) * 2 ^ (k.toNat)) ≤ LIM) := Lib.hid (by have h50 := N8.out; have hb9 := HB.out; rw [aA] at *; omega);refine oO (F := ?F4) ([.eq (.pointer (some ⟨w.heap.size, 1, none⟩)), .gen (lZ ((p).num.natAbs)), .eq (.int .i64 (k)), .eq (.int .i64 (-k)), .eq (.int .i64 (((-k).toNat : Int))), .gen (lZ (((p).num.natAbs) * 2 ^ ((-k).toNat))), .eq (.pointer (some ⟨w.heap.size, 2, none⟩)), .gen (lZ ((p).den)), .eq (.int .i64 (k)), .eq (.int .i64 ((k.toNat : Int))), .gen (lZ (((p).den) * 2 ^ (k.toNat))), .eq (.int .i64 (cmp (((p).num.natAbs) * 2 ^ ((-k).toNat)) (((p).den) * 2 ^ (k.toNat)))), .eq (.bool false)] : List Vs) ?hF4 ?st4 ?en4
  case hF4 =>
   intro vals;simp only [Ja.fillL, Act.put, List.setIfInBounds_toArray, List.set_cons_zero, List.set_cons_succ, Nat.reduceAdd];exact rfl
  case st4 =>
   intro hctx;refine JC.p hctx ?_;refine JC.l1 (off := 1) hX1 (fun W hN => (Rq.top (Rq.q nX1 hN))) hctx ?_;refine JC.p hctx ?_;refine JC.u (.int .i64 (IntKind.i64.wrap (0 - (k)))) (by exact congrArg (Value.int .i64) (show IntKind.i64.wrap (0 - (k)) = -k from by rw [Int.zero_sub]; exact dA (by have := Hkb.out; have := HB.out; rw [aA] at *; omega) (by have := Hkb.out; have := HB.out; rw [aA] at *; omega))) hctx ?_;refine JC.o hctx ?_ ?_
   ·intro L vals W hL hJ hd K hK;have d3 : vals 3 = .int .i64 (-k) := hd 3 (by kernel_rfl);generalize vals 3 = u3 at d3 hK ⊢;subst d3;go_simp
    rw [show max (-k) 0 = ((-k).toNat : Int) by omega];exact hK.out (.int .i64 (((-k).toNat : Int))) _ _ (by kernel_rfl) rfl (Q.refl _)
   refine JC.ca (fun vals W hN hd hk => (uW _ ((p).num.natAbs) ((-k).toNat) _ W (hd 1 (by kernel_rfl)) (rfl) B5.out).mono (by rintro e W9 ⟨r, rfl, hr, hq9, -⟩; exact ⟨r, rfl, hr, hq9⟩)) hctx ?_;refine JC.p hctx ?_;refine JC.l1 (off := 2) hX1 (fun W hN => (Rq.bot (Rq.q nX1 hN) HZ.out)) hctx ?_;refine JC.p hctx ?_;refine JC.o hctx ?_ ?_
   ·intro L vals W hL hJ hd K hK;have d8 : vals 8 = .int .i64 (k) := hd 8 (by kernel_rfl);generalize vals 8 = u8 at d8 hK ⊢;subst d8;go_simp
    rw [show max k 0 = (k.toNat : Int) by omega];exact hK.out (.int .i64 ((k.toNat : Int))) _ _ (by kernel_rfl) rfl (Q.refl _)
   refine JC.ca (fun vals W hN hd hk => (uW _ ((p).den) (k.toNat) _ W (hd 7 (by kernel_rfl)) (rfl) B7.out).mono (by rintro e W9 ⟨r, rfl, hr, hq9, -⟩; exact ⟨r, rfl, hr, hq9⟩)) hctx ?_;refine JC.ca (fun vals W hN hd hk => (jR _ _ (((p).num.natAbs) * 2 ^ ((-k).toNat)) (((p).den) * 2 ^ (k.toNat)) W (hd 5 (by kernel_rfl)) (hd 10 (by kernel_rfl)) B9.out B10.out).mono (by rintro e W9 ⟨rfl, hq9⟩; exact ⟨(.int .i64 (cmp (((p).num.natAbs) * 2 ^ ((-k).toNat)) (((p).den) * 2 ^ (k.toNat)))), rfl, rfl, hq9⟩)) hctx ?_;refine JC.u (.bool (decide ((cmp (((p).num.natAbs) * 2 ^ ((-k).toNat)) (((p).den) * 2 ^ (k.toNat))) < (0)))) (congrArg Value.bool (decide_eq_false (show ¬ ((cmp (((p).num.natAbs) * 2 ^ ((-k).toNat)) (((p).den) * 2 ^ (k.toNat)) : Int) < 0) from fun h => HC.out (lN.1 h)))) hctx ?_;exact Ja.Steps.nil
  intro vals w2 hq2 hall;have hG2 := hG1.trans hq2;have hX2 := hX1.q hq2;have nX2 := Rq.q nX1 hq2;clear hG1 hX1 nX1;have f23 : vals 12 = .bool false := hall 12 (by decide);rw [f23];clear f23;clear hall;go_upto_region 4 with fail
  refine bJ (F := ?F5) ([.eq (.int .i64 (k)), .eq (.int .i64 (k))] : List Vs) ?hF5 ?st5 ?en5
  case hF5 =>
   intro vals;simp only [Ja.fillL, Act.put, List.setIfInBounds_toArray, List.set_cons_zero, List.set_cons_succ, Nat.reduceAdd];exact rfl
  case st5 =>
   intro hctx;refine JC.p hctx ?_;refine JC.p hctx ?_;exact Ja.Steps.nil
  intro vals w3 hq3 hall;have hG3 := hG2.trans hq3;have hX3 := hX2.q hq3;have nX3 := Rq.q nX2 hq3;clear hG2 hX2 nX2;have f2 : vals 1 = .int .i64 (k) := hall 1 (by decide);rw [f2];clear f2;clear hall;go_wp2_with fail
  go_ret
  exact ⟨by unfold lg; rw [Hk.out, if_neg HC.out]; rfl, hG3⟩
set_option maxRecDepth 100000 in
theorem aFS (x : Value) (p : Rat) (z : Int) (w : World) (hx : Rq w x p) (hz : p = 0) (hB : 1000 * sz p + 10000 ≤ LIM) :
  Calls Tryz.prog 109 #[x, .int .i64 z] w fun e w' => ∃ r, e = .returned r ∧ Rq w' r (p * pw z) ∧ Q w w' := by
 have HZ := Lib.hid hz; clear hz;have hxy := hx;obtain ⟨AX1, kX1, cX1, AX2, kX2, cX2, rfl, -⟩ := hxy;obtain ⟨w0, hW, hG0, hX0, hR0⟩ := aE6 w 32 [.int .i64 (sn (p)), .slice AX1 kX1 cX1, .slice AX2 kX2 cX2] 32 [.int .i64 0, .slice none 0 0, .slice none 0 0];have nX0 : Rq w0 (.agg #[.int .i64 (sn (p)), .slice AX1 kX1 cX1, .slice AX2 kX2 cX2]) (p) := hx.q hG0;have HB := Lib.hid hB; clear hB;go_enter Tryz.func109, Tryz.ntmps109
 go_upto_region 1 with fail
 clear hW;refine bJ (F := ?F6) ([.eq (.pointer (some ⟨w.heap.size, 0, none⟩)), .eq (.int .i64 (sn (p))), .eq (.bool true)] : List Vs) ?hF6 ?st6 ?en6
 case hF6 =>
  intro vals;simp only [Ja.fillL, Act.put, List.setIfInBounds_toArray, List.set_cons_zero, List.set_cons_succ, Nat.reduceAdd];exact rfl
 case st6 =>
  intro hctx;refine JC.p hctx ?_;refine JC.l1 (off := 0) hX0 (fun W hN => rfl) hctx ?_;refine JC.u (.bool ((sn (p)) == (0))) (congrArg Value.bool (beq_iff_eq.2 ((fG.2 HZ.out)))) hctx ?_;exact Ja.Steps.nil
 intro vals w1 hq1 hall;have hG1 := hG0.trans hq1;have hX1 := hX0.q hq1;have nX1 := Rq.q nX0 hq1;have hR1 := hR0.q hq1;clear hG0 hX0 hR0 nX0;have f7 : vals 2 = .bool true := hall 2 (by decide);rw [f7];clear f7;clear hall;go_upto_region 2 with fail
 have hAt1 : At0 w [⟨none, w.heap.size, 32, [.i, .s, .s], .agg #[.int .i64 (sn (p)), .slice AX1 kX1 cX1, .slice AX2 kX2 cX2], 1000, 0⟩, ⟨none, w.heap.size + 1, 32, [.i, .s, .s], .agg #[.int .i64 0, .slice none 0 0, .slice none 0 0], 1, 0⟩] [(.agg #[.int .i64 (sn (p)), .slice AX1 kX1 cX1, .slice AX2 kX2 cX2], .gen (pRn (p)))] w1 := At0.of hG1 ⟨bA hX1 (by omega), bA hR1 (by omega), trivial⟩ (by (simp [dO] <;> omega)) ⟨nX1, trivial⟩;clear hG1 hX1 hR1 nX1;refine cK (F := ?F7) w ([.gen (pRn (p)), .any] : List Vs) _ _ (by kernel_rfl) hAt1 ?hF7 ?st7 ?en7
 case hF7 =>
  intro vals;simp only [Ja.fillL, Act.put, List.setIfInBounds_toArray, List.set_cons_zero, List.set_cons_succ];exact rfl
 case st7 =>
  clear hAt1;intro hctx;refine JC.r3 (off := 0) (row := [.int .i64 (sn (p)), .slice AX1 kX1 cX1, .slice AX2 kX2 cX2]) (fun _ _ _ hL hJ => hJ.still 0 rfl rfl (Nat.le_of_ble_eq_true (by kernel_rfl))) (fun _ _ _ hJ => (hJ.kept 0 rfl)) hctx ?_;refine JC.s3 (n := 1) rfl fRn hctx ?_;exact Ja.Steps.nil
 intro L vals w2 hall hJ;clear hAt1;have hG2 := hJ.q;obtain ⟨AR1, kR1, cR1, AR2, kR2, cR2, hR2, nR2⟩ := aFQ (g := w.heap.size + 1) (t := 32) (hJ.stored 1 rfl rfl (hall 1 (by decide))) (show Rq w2 (vals 0) (p) from hJ.s 0 (hall 0 (by decide)));clear hall hJ;go_wp2_with fail
 exact bQ hR2 (⟨_, rfl, (by rw [show p * pw z = p by rw [HZ.out, Rat.zero_mul]]; exact nR2), hG2⟩)
set_option maxRecDepth 100000 in
theorem aFT (x : Value) (p : Rat) (k : Nat) (w : World) (hx : Rq w x p) (hz : p ≠ 0) (hB : 1000 * sz p + 200 * k + 10000 ≤ LIM) :
  Calls Tryz.prog 109 #[x, .int .i64 (k : Int)] w fun e w' => ∃ r, e = .returned r ∧ Rq w' r (p * pw (k : Int)) ∧ Q w w' := by
 have HZ := Lib.hid hz; clear hz;have hxy := hx;obtain ⟨AX1, kX1, cX1, AX2, kX2, cX2, rfl, -⟩ := hxy;obtain ⟨w0, hW, hG0, hX0, hR0⟩ := aE6 w 32 [.int .i64 (sn (p)), .slice AX1 kX1 cX1, .slice AX2 kX2 cX2] 32 [.int .i64 0, .slice none 0 0, .slice none 0 0];have nX0 : Rq w0 (.agg #[.int .i64 (sn (p)), .slice AX1 kX1 cX1, .slice AX2 kX2 cX2]) (p) := hx.q hG0;have HB := Lib.hid hB; clear hB;go_enter Tryz.func109, Tryz.ntmps109
 go_upto_region 1 with fail
 clear hW;refine bJ (F := ?F8) ([.eq (.pointer (some ⟨w.heap.size, 0, none⟩)), .eq (.int .i64 (sn (p))), .eq (.bool false)] : List Vs) ?hF8 ?st8 ?en8
 case hF8 =>
  intro vals;simp only [Ja.fillL, Act.put, List.setIfInBounds_toArray, List.set_cons_zero, List.set_cons_succ, Nat.reduceAdd];exact rfl
 case st8 =>
  intro hctx;refine JC.p hctx ?_;refine JC.l1 (off := 0) hX0 (fun W hN => rfl) hctx ?_;refine JC.u (.bool ((sn (p)) == (0))) (congrArg Value.bool (beq_eq_false_iff_ne.2 (gZ HZ.out))) hctx ?_;exact Ja.Steps.nil
 intro vals w1 hq1 hall;have hG1 := hG0.trans hq1;have hX1 := hX0.q hq1;have nX1 := Rq.q nX0 hq1;have hR1 := hR0.q hq1;clear hG0 hX0 hR0 nX0;have f7 : vals 2 = .bool false := hall 2 (by decide);rw [f7];clear f7;clear hall;go_upto_region 3 with fail
 refine bJ (F := ?F9) ([.eq (.int .i64 ((k : Int))), .eq (.bool false)] : List Vs) ?hF9 ?st9 ?en9
 case hF9 =>
  intro vals;simp only [Ja.fillL, Act.put, List.setIfInBounds_toArray, List.set_cons_zero, List.set_cons_succ, Nat.reduceAdd];exact rfl
 case st9 =>
  intro hctx;refine JC.p hctx ?_;refine JC.u (.bool (decide (((k : Int)) < (0)))) (congrArg Value.bool (decide_eq_false (show ¬ (((k : Int) : Int) < 0) from by omega))) hctx ?_;exact Ja.Steps.nil
 intro vals w2 hq2 hall;have hG2 := hG1.trans hq2;have hX2 := hX1.q hq2;have nX2 := Rq.q nX1 hq2;have hR2 := hR1.q hq2;clear hG1 hX1 hR1 nX1;have f10 : vals 1 = .bool false := hall 1 (by decide);rw [f10];clear f10;clear hall;go_upto_region 5 with fail
 have N1 : Hid (dg B30 ((p).num.natAbs) ≤ 3 * sz (p)) := Lib.hid (by have h99 := aDV (p); have hb9 := HB.out; omega);have B2 : Hid (dg B30 ((p).num.natAbs) + (k) + 2 ≤ LIM) := Lib.hid (by skip; have h50 := N1.out; have hb9 := HB.out; rw [aA] at *; omega);have N3 : Hid (dg B30 (((p).num.natAbs) * 2 ^ (k)) ≤ 3 * sz (p) + 1 * (k) + 1) := Lib.hid (by have h99 := dM ((p).num.natAbs) (k); have hb9 := HB.out; skip; have h50 := N1.out; omega);have B4 : Hid (31 * dg B30 (((p).num.natAbs) * 2 ^ (k)) + 80 ≤ LIM) := Lib.hid (by have h50 := N3.out; have hb9 := HB.out; rw [aA] at *; omega);have N5 : Hid (dg B30 ((p).den) ≤ 3 * sz (p)) := Lib.hid (by have h99 := aBy (p); have hb9 := HB.out; omega);have B6 : Hid (31 * dg B30 ((p).den) + 80 ≤ LIM) := Lib.hid (by have h50 := N5.out; have hb9 := HB.out; rw [aA] at *; omega);have hAt2 : At0 w [⟨none, w.heap.size, 32, [.i, .s, .s], .agg #[.int .i64 (sn (p)), .slice AX1 kX1 cX1, .slice AX2 kX2 cX2], 1000, 0⟩, ⟨none, w.heap.size + 1, 32, [.i, .s, .s], .agg #[.int .i64 0, .slice none 0 0, .slice none 0 0], 9, 8⟩] [(.agg #[.int .i64 (sn (p)), .slice AX1 kX1 cX1, .slice AX2 kX2 cX2], .gen (pRn (p)))] w2 := At0.of hG2 ⟨bA hX2 (by omega), bA hR2 (by omega), trivial⟩ (by (simp [dO] <;> omega)) ⟨nX2, trivial⟩;clear hG2 hX2 hR2 nX2;refine mE (F := ?F10) w ([.eq (.pointer (some ⟨w.heap.size, 0, none⟩)), .eq (.int .i64 (sn (p))), .eq (.pointer (some ⟨w.heap.size, 1, none⟩)), .gen (lZ ((p).num.natAbs)), .eq (.int .i64 ((k : Int))), .gen (lZ (((p).num.natAbs) * 2 ^ (k))), .eq (.pointer (some ⟨w.heap.size, 2, none⟩)), .gen (lZ ((p).den)), .gen (pRn (p * pw (k : Int))), .any] : List Vs) _ _ (by kernel_rfl) (by kernel_rfl) hAt2 ?hF10 ?st10 ?en10
 case hF10 =>
  intro vals;simp only [Ja.fillL, Act.put, List.setIfInBounds_toArray, List.set_cons_zero, List.set_cons_succ, Nat.reduceAdd];exact rfl
 case st10 =>
  clear hAt2;intro hctx;refine JC.p hctx ?_;refine JC.r1 (off := 0) (row := [.int .i64 (sn (p)), .slice AX1 kX1 cX1, .slice AX2 kX2 cX2]) (fun _ _ _ hL hJ => hJ.still 0 rfl rfl (Nat.le_of_ble_eq_true (by kernel_rfl))) (fun _ _ _ hJ => rfl) hctx ?_;refine JC.p hctx ?_;refine JC.r1 (off := 1) (row := [.int .i64 (sn (p)), .slice AX1 kX1 cX1, .slice AX2 kX2 cX2]) (fun _ _ _ hL hJ => hJ.still 0 rfl rfl (Nat.le_of_ble_eq_true (by kernel_rfl))) (fun _ _ _ hJ => (Rq.top (hJ.kept 0 rfl))) hctx ?_;refine JC.p hctx ?_;refine JC.ca (fun vals W hN hd hk => (uW _ ((p).num.natAbs) (k) _ W (hd 3 (by kernel_rfl)) (rfl) B2.out).mono (by rintro e W9 ⟨r, rfl, hr, hq9, -⟩; exact ⟨r, rfl, hr, hq9⟩)) hctx ?_;refine JC.p hctx ?_;refine JC.r1 (off := 2) (row := [.int .i64 (sn (p)), .slice AX1 kX1 cX1, .slice AX2 kX2 cX2]) (fun _ _ _ hL hJ => hJ.still 0 rfl rfl (Nat.le_of_ble_eq_true (by kernel_rfl))) (fun _ _ _ hJ => (Rq.bot (hJ.kept 0 rfl) HZ.out)) hctx ?_;refine JC.ca (fun vals W hN hd hk => (zU (sn (p)) _ _ (((p).num.natAbs) * 2 ^ (k)) ((p).den) (p * pw (k : Int)) W (hd 5 (by kernel_rfl)) (hd 7 (by kernel_rfl)) (fun _ => den_nz p) (sn3 p) (aFR p k) (fun h9 => absurd h9 (Nat.ne_of_gt (den_nz p))) B4.out B6.out).mono (by rintro e W9 ⟨r, rfl, hr, hq9⟩; exact ⟨r, rfl, hr, hq9⟩)) hctx ?_;refine JC.s3 (n := 1) rfl fRn hctx ?_;exact Ja.Steps.nil
 intro L vals w3 hall hJ;clear hAt2;have hG3 := hJ.q;obtain ⟨AR1, kR1, cR1, AR2, kR2, cR2, hR3, nR3⟩ := aFQ (g := w.heap.size + 1) (t := 32) (hJ.stored 1 rfl rfl (hall 9 (by decide))) (show Rq w3 (vals 8) (p * pw (k : Int)) from hJ.s 8 (hall 8 (by decide)));clear hall hJ;go_wp2_with fail
 exact bQ hR3 (⟨_, rfl, nR3, hG3⟩)
set_option maxRecDepth 100000 in
theorem aFU (x : Value) (p : Rat) (k : Nat) (w : World) (hx : Rq w x p) (hz : p ≠ 0) (hk : 0 < k) (hB : 1000 * sz p + 200 * k + 10000 ≤ LIM) :
  Calls Tryz.prog 109 #[x, .int .i64 (-(k : Int))] w fun e w' => ∃ r, e = .returned r ∧ Rq w' r (p * pw (-(k : Int))) ∧ Q w w' := by
 have HZ := Lib.hid hz; clear hz;have hxy := hx;obtain ⟨AX1, kX1, cX1, AX2, kX2, cX2, rfl, -⟩ := hxy;obtain ⟨w0, hW, hG0, hX0, hR0⟩ := aE6 w 32 [.int .i64 (sn (p)), .slice AX1 kX1 cX1, .slice AX2 kX2 cX2] 32 [.int .i64 0, .slice none 0 0, .slice none 0 0];have nX0 : Rq w0 (.agg #[.int .i64 (sn (p)), .slice AX1 kX1 cX1, .slice AX2 kX2 cX2]) (p) := hx.q hG0;have HB := Lib.hid hB; clear hB;go_enter Tryz.func109, Tryz.ntmps109
 go_upto_region 1 with fail
 clear hW;have HK := Lib.hid hk; clear hk;refine bJ (F := ?F11) ([.eq (.pointer (some ⟨w.heap.size, 0, none⟩)), .eq (.int .i64 (sn (p))), .eq (.bool false)] : List Vs) ?hF11 ?st11 ?en11
 case hF11 =>
  intro vals;simp only [Ja.fillL, Act.put, List.setIfInBounds_toArray, List.set_cons_zero, List.set_cons_succ, Nat.reduceAdd];exact rfl
 case st11 =>
  intro hctx;refine JC.p hctx ?_;refine JC.l1 (off := 0) hX0 (fun W hN => rfl) hctx ?_;refine JC.u (.bool ((sn (p)) == (0))) (congrArg Value.bool (beq_eq_false_iff_ne.2 (gZ HZ.out))) hctx ?_;exact Ja.Steps.nil
 intro vals w1 hq1 hall;have hG1 := hG0.trans hq1;have hX1 := hX0.q hq1;have nX1 := Rq.q nX0 hq1;have hR1 := hR0.q hq1;clear hG0 hX0 hR0 nX0;have f7 : vals 2 = .bool false := hall 2 (by decide);rw [f7];clear f7;clear hall;go_upto_region 3 with fail
 refine bJ (F := ?F12) ([.eq (.int .i64 (-(k : Int))), .eq (.bool true)] : List Vs) ?hF12 ?st12 ?en12
 case hF12 =>
  intro vals;simp only [Ja.fillL, Act.put, List.setIfInBounds_toArray, List.set_cons_zero, List.set_cons_succ, Nat.reduceAdd];exact rfl
 case st12 =>
  intro hctx;refine JC.p hctx ?_;refine JC.u (.bool (decide ((-(k : Int)) < (0)))) (congrArg Value.bool (decide_eq_true (show ((-(k : Int) : Int) < 0) from by have := HK.out; omega))) hctx ?_;exact Ja.Steps.nil
 intro vals w2 hq2 hall;have hG2 := hG1.trans hq2;have hX2 := hX1.q hq2;have nX2 := Rq.q nX1 hq2;have hR2 := hR1.q hq2;clear hG1 hX1 hR1 nX1;have f10 : vals 1 = .bool true := hall 1 (by decide);rw [f10];clear f10;clear hall;go_upto_region 4 with fail
 have N1 : Hid (dg B30 ((p).den) ≤ 3 * sz (p)) := Lib.hid (by have h99 := aBy (p); have hb9 := HB.out; omega);have B2 : Hid (dg B30 ((p).den) + (k) + 2 ≤ LIM) := Lib.hid (by skip; have h50 := N1.out; have hb9 := HB.out; rw [aA] at *; omega);have N3 : Hid (dg B30 (((p).den) * 2 ^ (k)) ≤ 3 * sz (p) + 1 * (k) + 1) := Lib.hid (by have h99 := dM ((p).den) (k); have hb9 := HB.out; skip; have h50 := N1.out; omega);have N4 : Hid (dg B30 ((p).num.natAbs) ≤ 3 * sz (p)) := Lib.hid (by have h99 := aDV (p); have hb9 := HB.out; omega);have B5 : Hid (31 * dg B30 ((p).num.natAbs) + 80 ≤ LIM) := Lib.hid (by have h50 := N4.out; have hb9 := HB.out; rw [aA] at *; omega);have B6 : Hid (31 * dg B30 (((p).den) * 2 ^ (k)) + 80 ≤ LIM) := Lib.hid (by have h50 := N3.out; have hb9 := HB.out; rw [aA] at *; omega);have hAt2 : At0 w [⟨none, w.heap.size, 32, [.i, .s, .s], .agg #[.int .i64 (sn (p)), .slice AX1 kX1 cX1, .slice AX2 kX2 cX2], 1000, 0⟩, ⟨none, w.heap.size + 1, 32, [.i, .s, .s], .agg #[.int .i64 0, .slice none 0 0, .slice none 0 0], 10, 9⟩] [(.agg #[.int .i64 (sn (p)), .slice AX1 kX1 cX1, .slice AX2 kX2 cX2], .gen (pRn (p)))] w2 := At0.of hG2 ⟨bA hX2 (by omega), bA hR2 (by omega), trivial⟩ (by (simp [dO] <;> omega)) ⟨nX2, trivial⟩;clear hG2 hX2 hR2 nX2;refine mE (F := ?F13) w ([.eq (.pointer (some ⟨w.heap.size, 0, none⟩)), .eq (.int .i64 (sn (p))), .eq (.pointer (some ⟨w.heap.size, 1, none⟩)), .gen (lZ ((p).num.natAbs)), .eq (.pointer (some ⟨w.heap.size, 2, none⟩)), .gen (lZ ((p).den)), .eq (.int .i64 (-(k : Int))), .eq (.int .i64 ((k : Int))), .gen (lZ (((p).den) * 2 ^ (k))), .gen (pRn (p * pw (-(k : Int)))), .any] : List Vs) _ _ (by kernel_rfl) (by kernel_rfl) hAt2 ?hF13 ?st13 ?en13
 case hF13 =>
  intro vals;simp only [Ja.fillL, Act.put, List.setIfInBounds_toArray, List.set_cons_zero, List.set_cons_succ, Nat.reduceAdd];exact rfl
 case st13 =>
  clear hAt2;intro hctx;refine JC.p hctx ?_;refine JC.r1 (off := 0) (row := [.int .i64 (sn (p)), .slice AX1 kX1 cX1, .slice AX2 kX2 cX2]) (fun _ _ _ hL hJ => hJ.still 0 rfl rfl (Nat.le_of_ble_eq_true (by kernel_rfl))) (fun _ _ _ hJ => rfl) hctx ?_;refine JC.p hctx ?_;refine JC.r1 (off := 1) (row := [.int .i64 (sn (p)), .slice AX1 kX1 cX1, .slice AX2 kX2 cX2]) (fun _ _ _ hL hJ => hJ.still 0 rfl rfl (Nat.le_of_ble_eq_true (by kernel_rfl))) (fun _ _ _ hJ => (Rq.top (hJ.kept 0 rfl))) hctx ?_;refine JC.p hctx ?_;refine JC.r1 (off := 2) (row := [.int .i64 (sn (p)), .slice AX1 kX1 cX1, .slice AX2 kX2 cX2]) (fun _ _ _ hL hJ => hJ.still 0 rfl rfl (Nat.le_of_ble_eq_true (by kernel_rfl))) (fun _ _ _ hJ => (Rq.bot (hJ.kept 0 rfl) HZ.out)) hctx ?_;refine JC.p hctx ?_;refine JC.u (.int .i64 (IntKind.i64.wrap (0 - (-(k : Int))))) (by exact congrArg (Value.int .i64) (show IntKind.i64.wrap (0 - (-(k : Int))) = (k : Int) from by rw [Int.zero_sub, Int.neg_neg]; exact dA (by omega) (by have := HB.out; rw [aA] at *; omega))) hctx ?_;refine JC.ca (fun vals W hN hd hk => (uW _ ((p).den) (k) _ W (hd 5 (by kernel_rfl)) (rfl) B2.out).mono (by rintro e W9 ⟨r, rfl, hr, hq9, -⟩; exact ⟨r, rfl, hr, hq9⟩)) hctx ?_;refine JC.ca (fun vals W hN hd hk => (zU (sn (p)) _ _ ((p).num.natAbs) (((p).den) * 2 ^ (k)) (p * pw (-(k : Int))) W (hd 3 (by kernel_rfl)) (hd 8 (by kernel_rfl)) (fun _ => Nat.mul_pos (den_nz p) (two_pow_pos k)) (sn3 p) (qN p k) (fun h9 => absurd h9 (Nat.ne_of_gt (Nat.mul_pos (den_nz p) (two_pow_pos k)))) B5.out B6.out).mono (by rintro e W9 ⟨r, rfl, hr, hq9⟩; exact ⟨r, rfl, hr, hq9⟩)) hctx ?_;refine JC.s3 (n := 1) rfl fRn hctx ?_;exact Ja.Steps.nil
 intro L vals w3 hall hJ;clear hAt2;have hG3 := hJ.q;obtain ⟨AR1, kR1, cR1, AR2, kR2, cR2, hR3, nR3⟩ := aFQ (g := w.heap.size + 1) (t := 32) (hJ.stored 1 rfl rfl (hall 10 (by decide))) (show Rq w3 (vals 9) (p * pw (-(k : Int))) from hJ.s 9 (hall 9 (by decide)));clear hall hJ;go_wp2_with fail
 exact bQ hR3 (⟨_, rfl, nR3, hG3⟩)
theorem lY (x : Value) (p : Rat) (z : Int) (w : World) (hx : Rq w x p) (hB : 1000 * sz p + 200 * z.natAbs + 10000 ≤ LIM) :
  Calls Tryz.prog 109 #[x, .int .i64 z] w fun e w' => ∃ r, e = .returned r ∧ Rq w' r (p * pw z) ∧ Q w w' := by
 by_cases h0 : p = 0
 ·exact aFS x p z w hx h0 (by omega)
 by_cases hz : z < 0
 ·obtain ⟨k, h1, rfl⟩ : ∃ k : Nat, 0 < k ∧ z = -(k : Int) := ⟨(-z).toNat, by omega, by omega⟩
  exact aFU x p k w hx h0 h1 (by omega)
 ·obtain ⟨k, rfl⟩ : ∃ k : Nat, z = (k : Int) := ⟨z.toNat, by omega⟩
  exact aFT x p k w hx h0 (by omega)
end Go.Proofs.YtgpacgadpnpjjaaGreatDoor.K
