/- ValueIncludes (a part of the proof): results of numbers are in the results of their spans. No condition. -/
import Derived.Test.YtgpacgadpnpjjaaGreatDoorQn18
set_option maxHeartbeats 4000000
set_option maxRecDepth 100000
namespace Go.Proofs.YtgpacgadpnpjjaaGreatDoor
open Go.RowKit
open Ma Me
theorem aCt {a : Value} {b c : Bool} (h : b = c) : Ending.returned (.tuple #[a, .bool b]) = .returned (.tuple #[a, .bool c]) := by rw [h]
theorem zL {L R : Nat} (h : L = 0 ↔ R = 0) : ((L : Int) == 0) = decide (R = 0) := by
 by_cases hR : R = 0
 ·rw [decide_eq_true hR, h.2 hR]; rfl
 ·rw [decide_eq_false hR];exact beq_eq_false_iff_ne.2 (fun h1 => hR (h.1 (by omega)))
theorem aCu (x : Value) (p : Rat) (z : Int) (w : World) (hT : Tb w) (hx : Nq w x p) (h0 : p ≠ 0) (hB : 8 * (sz p + z.natAbs) + 200 ≤ LIM) : Calls Tryz.prog 173 #[x, .int .i64 z] w fun e w' => ∃ t, e = .returned (.tuple #[t, .bool (decide (fr z p.num.natAbs p.den = 0))]) ∧ Nm w' t (fl z p.num.natAbs p.den) ∧ Q w w' := by
 obtain ⟨s1, A1, n1, c1, A2, n2, c2, rfl, E1, Z1, O1, hxt, hxb⟩ := hx.form;obtain ⟨w0, hW, hG0, hX0⟩ := kM w s1 (.slice A1 n1 c1) (.slice A2 n2 c2);have hs := fO p;have hN0 := fC h0;have hD0 := p.den_pos;rw [aA] at hB;generalize hN : p.num.natAbs = N at *
 generalize hD : p.den = D at *
 have HD := Lib.hid hD; clear hD hN;by_cases hz0 : z ≤ 0
 ·obtain ⟨k, hk⟩ : ∃ k : Nat, (-z).toNat = k := ⟨_, rfl⟩
  have e1 : fl z N D = N * 2 ^ k / D := (by unfold fl; rw [hk, show z.toNat = 0 by omega, Nat.pow_zero, Nat.mul_one]);have e2 : fr z N D = N * 2 ^ k % D := (by unfold fr; rw [hk, show z.toNat = 0 by omega, Nat.pow_zero, Nat.mul_one]);rw [e1, e2];have hk2 : z.natAbs = k := (by omega);have hw : IntKind.i64.wrap (-z) = (k : Int) := (by rw [show -z = (k : Int) by omega]; exact IntWalk.i64_in _ (by omega));have b1 : dg W64 N + k / 64 + 1 ≤ LIM := (by rw [aA]; omega);have b2 : k ≤ 4611686018427387904 := (by omega);have b3 : 4 * (dg W64 (N * 2 ^ k) + dg W64 D) + 60 ≤ LIM := (by have h1 := dY aB N (2 ^ k); have h2 := kI (B := 2) (k := k) (by decide); rw [aA]; omega);clear e1 e2 hk hk2 hB hs h0;go_enter Tryz.func173, Tryz.ntmps173
  go_wp2_with fail
  clear hW;obtain ⟨x0, x1, x2⟩ := hX0.cells
  go_region_held3 (fun W => W.cell? ⟨w.heap.size, 0, none⟩ = some (.bool s1) ∧ W.cell? ⟨w.heap.size, 1, none⟩ = some (.slice A1 n1 c1) ∧ W.cell? ⟨w.heap.size, 2, none⟩ = some (.slice A2 n2 c2)) (first | exact ⟨x0, x1, x2⟩ | exact ⟨by assumption, by assumption, by assumption⟩ | go_keep) (first
   | (go_at_call 176; (with_reducible refine (mH (N * 2 ^ k) D _ _ _ (ht1.q hq2) hu1 hD0 b3).mono ?_); rintro e w3 ⟨t2, t3, rfl, ht2, ht3, hq3, -, -⟩; have hG3 := hG2.trans hq3; have hX3 := hX2.q hq3; obtain ⟨x0, x1, x2⟩ := hX3.cells; obtain ⟨A7, n7, c7, rfl⟩ := ht2.form; obtain ⟨A8, c8, rfl, -⟩ := ht3.parts; obtain ⟨L, hL⟩ : ∃ L, dg W64 (N * 2 ^ k % D) = L := ⟨_, rfl⟩; rw [hL]; have HL := Lib.hid hL; clear hL)
   | (go_at_call 135; (with_reducible refine (eU _ p _ (hx.q hG1)).mono ?_); rintro e w2 ⟨u1, rfl, hu1, hq2⟩; have hG2 := hG1.trans hq2; have hX2 := hX1.q hq2; obtain ⟨x0, x1, x2⟩ := hX2.cells; rw [HD.out] at hu1; obtain ⟨A6, n6, c6, rfl⟩ := hu1.form)
   | (go_at_call 145; (with_reducible refine (cB _ N k _ _ (hxt.q hG0.drew) rfl b1 b2).mono ?_); rintro e w1 ⟨t1, rfl, ht1, hq1d, -⟩; have hq1 : Q w0 w1 := (Q.refl w0).drew.trans hq1d; have hG1 := hG0.trans hq1; have hX1 := hX0.q hq1; obtain ⟨x0, x1, x2⟩ := hX1.cells; obtain ⟨A5, n5, c5, rfl⟩ := ht1.form))
  all_goals
   have hzz := tJ (D := N * 2 ^ k % D);rw [HL.out] at hzz;have k0 : ((L : Int) == 0) = decide (N * 2 ^ k % D = 0) := zL hzz;clear hzz hw hz0;go_wp2_with fail
   go_ret2
   exact ⟨_, rfl, ht2, hG3⟩
 ·obtain ⟨k, hk⟩ : ∃ k : Nat, z.toNat = k := ⟨_, rfl⟩
  have hzk : z = (k : Int) := (by omega);obtain ⟨e1, e2⟩ := aDb (s := z) (N := N) (D := D) (by omega) hN0 hD0;rw [hk] at e1 e2;have hR : decide (fr z N D = 0) = (decide (N / 2 ^ k % D = 0) && decide (z ≤ (tz N : Int))) := (by rw [← Bool.decide_and]; exact decide_eq_decide.2 e2.symm);rw [hR, ← e1];have HZK := Lib.hid hzk;have b2 : k ≤ 4611686018427387904 := (by omega);have b1 : dg W64 N ≤ LIM := (by rw [aA]; omega);have b3 : 4 * (dg W64 (N / 2 ^ k) + dg W64 D) + 60 ≤ LIM := (by have h1 := fV aB (Nat.div_le_self N (2 ^ k)); rw [aA]; omega);clear e1 e2 hk hzk hR hB hs h0;go_enter Tryz.func173, Tryz.ntmps173
  go_wp2_with fail
  clear hW;obtain ⟨x0, x1, x2⟩ := hX0.cells
  go_region_held3 (fun W => W.cell? ⟨w.heap.size, 0, none⟩ = some (.bool s1) ∧ W.cell? ⟨w.heap.size, 1, none⟩ = some (.slice A1 n1 c1) ∧ W.cell? ⟨w.heap.size, 2, none⟩ = some (.slice A2 n2 c2)) (first | exact ⟨x0, x1, x2⟩ | exact ⟨by assumption, by assumption, by assumption⟩ | go_keep) (first
   | (go_at_call 176; (with_reducible refine (mH (N / 2 ^ k) D _ _ _ (ht1.q hq2) hu1 hD0 b3).mono ?_); rintro e w3 ⟨t2, t3, rfl, ht2, ht3, hq3, -, -⟩; have hG3 := hG2.trans hq3; have hX3 := hX2.q hq3; obtain ⟨x0, x1, x2⟩ := hX3.cells; obtain ⟨A7, n7, c7, rfl⟩ := ht2.form; obtain ⟨A8, c8, rfl, -⟩ := ht3.parts; obtain ⟨L, hL⟩ : ∃ L, dg W64 (N / 2 ^ k % D) = L := ⟨_, rfl⟩; rw [hL]; have HL := Lib.hid hL; clear hL)
   | (go_at_call 135; (with_reducible refine (eU _ p _ (hx.q hG1)).mono ?_); rintro e w2 ⟨u1, rfl, hu1, hq2⟩; have hG2 := hG1.trans hq2; have hX2 := hX1.q hq2; obtain ⟨x0, x1, x2⟩ := hX2.cells; rw [HD.out] at hu1; obtain ⟨A6, n6, c6, rfl⟩ := hu1.form)
   | (go_at_call 147; (with_reducible refine (bT _ N k _ _ (hxt.q hG0.drew) HZK.out b1 b2).mono ?_); rintro e w1 ⟨t1, rfl, ht1, hq1d, -⟩; have hq1 : Q w0 w1 := (Q.refl w0).drew.trans hq1d; have hG1 := hG0.trans hq1; have hX1 := hX0.q hq1; obtain ⟨x0, x1, x2⟩ := hX1.cells; obtain ⟨A5, n5, c5, rfl⟩ := ht1.form))
  all_goals
   have hzz := tJ (D := N / 2 ^ k % D);rw [HL.out] at hzz;have HK0 := Lib.hid (zL hzz);clear hzz;by_cases hr0 : N / 2 ^ k % D = 0
   ·have k0 : ((L : Int) == 0) = true := (by rw [HK0.out]; exact decide_eq_true hr0);have HR0 := Lib.hid hr0; clear hr0;obtain ⟨x0, x1, x2⟩ := hX3.cells;go_wp2_with fail
    refine (bH _ N _ (hT.q hG3) (hxt.q hG3) b1 hN0).mono ?_;rintro e w7 ⟨rfl, rfl⟩;go_wp2_with fail
    go_ret2
    exact ⟨_, aCt (by rw [decide_eq_true HR0.out, Bool.true_and]), ht2, hG3⟩
   ·have k0 : ((L : Int) == 0) = false := (by rw [HK0.out]; exact decide_eq_false hr0);have HR0 := Lib.hid hr0; clear hr0;obtain ⟨x0, x1, x2⟩ := hX3.cells;go_wp2_with fail
    go_ret2
    exact ⟨_, aCt (by rw [decide_eq_false HR0.out, Bool.false_and]), ht2, hG3⟩
theorem gG (s : Bool) (x : Value) (g : Nat) (z : Int) (w : World) (hT : Tb w) (hx : Nm w x g) (hg : 0 < g) (hB : 64 * dg W64 g + z.natAbs + 100 ≤ LIM) : Calls Tryz.prog 174 #[.bool s, x, .int .i64 z] w fun e w' => ∃ r, e = .returned r ∧ Nq w' r (sgQ s (((g : Nat) : Rat) * pw z)) ∧ Q w w' := by
 obtain ⟨w0, hW, hG0, hR0⟩ : ∃ W, w.alloc (.cells #[.bool false, .slice none 0 0, .slice none 0 0] 25) = W ∧ Q w W ∧ Nb W w.heap.size false (.slice none 0 0) (.slice none 0 0) := ⟨_, rfl, (Q.refl _).alloc _, Nb.new w _ _ _⟩
 obtain ⟨A1, n1, c1, rfl⟩ := hx.form;rw [aA] at hB;by_cases hz0 : 0 ≤ z
 ·obtain ⟨k, rfl⟩ := Int.eq_ofNat_of_zero_le hz0;have b1 : dg W64 g + k / 64 + 1 ≤ LIM := (by rw [aA]; omega);have b2 : k ≤ 4611686018427387904 := (by omega);obtain ⟨p1, p2⟩ := aB7 s g k;have HP1 := Lib.hid p1; have HP2 := Lib.hid p2; clear p1 p2 hB;go_enter Tryz.func174, Tryz.ntmps174
  go_wp2_with fail
  clear hW;refine (cB _ g k _ _ (hx.q hG0) rfl b1 b2).mono ?_;rintro e w1 ⟨t1, rfl, ht1, hq1, -⟩;have hG1 := hG0.trans hq1;have hR1 := hR0.q hq1;have fz := hR1.frozen;obtain ⟨r0, r1, r2⟩ := hR1.cells;obtain ⟨A5, n5, c5, rfl⟩ := ht1.form;go_wp2_with fail
  refine (fZ s _ (g * 2 ^ k) _ ht1).mono ?_;rintro e w2 ⟨v5, rfl, hv5, hq2⟩;have hG2 := hG1.trans hq2;have hR2 := hR1.q hq2;clear fz r0 r1 r2;have fz := hR2.frozen;obtain ⟨r0, r1, r2⟩ := hR2.cells;obtain ⟨B1, d1, B2, d2, rfl, -, -⟩ := hv5.form;have hv := Nq.int (q := sgQ s (((g : Nat) : Rat) * pw (k : Int))) hv5 HP1.out HP2.out;generalize (decide (0 < g * 2 ^ k) && s) = s4 at *
  generalize dg W64 (g * 2 ^ k) = m1 at *
  generalize dg W64 0 = m2 at *
  go_wp2_with fail
  obtain ⟨z0, z1, z2, hvF, hqF⟩ := Nq.store hR2 hv hG2 (Nat.le_refl _);unfold put3 at z0 z1 z2 hvF hqF;refine bodyPost_ret (v := .agg #[.bool s4, .slice B1 m1 d1, .slice B2 m2 d2]) (by simp [results, Tryz.results174, go_sem, z0, z1, z2]) rfl ?_;exact ⟨_, rfl, hvF, hqF⟩
 ·obtain ⟨k, hk⟩ : ∃ k : Nat, (-z).toNat = k := ⟨_, rfl⟩
  have hzk : z = -(k : Int) := (by omega);have hpw : pw z = pw (-(k : Int)) := (by rw [hzk]);rw [hpw];obtain ⟨p1, p2⟩ := aAh s k hg;have htb := fK hg; have hbd := iB g;obtain ⟨t, ht⟩ : ∃ t, tz g = t := ⟨_, rfl⟩
  rw [ht] at p1 p2 htb;obtain ⟨m, hm⟩ : ∃ m, min t k = m := ⟨_, rfl⟩
  rw [hm] at p1 p2;have hmk : m ≤ k := (by omega);have hmin : min (t : Int) (k : Int) = (m : Int) := (by omega);have hkm : (k : Int) - (m : Int) = ((k - m : Nat) : Int) := (by omega);have hnz : -z = (k : Int) := (by omega);have b1 : dg W64 g ≤ LIM := (by rw [aA]; omega);have b2 : m ≤ 4611686018427387904 := (by omega);have b3 : k - m ≤ 4611686018427387904 := (by omega);have b4 : dg W64 1 + (k - m) / 64 + 1 ≤ LIM := (by rw [bZ aB, aA]; omega);have b5 : (k : Int) ≤ 1099511627776 := (by omega);have b7 : -1099511627776 ≤ z := (by omega);have b6 : (t : Int) ≤ 80000000000000 := (by omega);have HP1 := Lib.hid p1; have HP2 := Lib.hid p2; have HT := Lib.hid ht; have HZK := Lib.hid hzk; clear p1 p2 ht hB hk hm htb hbd hzk hpw;go_enter Tryz.func174, Tryz.ntmps174
  go_wp2_with fail
  clear hW;refine (bH _ g _ (hT.q hG0) (hx.q hG0) b1 hg).mono ?_;rintro e w7 ⟨rfl, rfl⟩;rw [HT.out];go_wp2_with fail
  refine (bT _ g m _ _ (hx.q hG0) rfl b1 b2).mono ?_;rintro e w1 ⟨t1, rfl, ht1, hq1, -⟩;have hG1 := hG0.trans hq1;have hR1 := hR0.q hq1;obtain ⟨A5, n5, c5, rfl⟩ := ht1.form;go_wp2_with fail
  refine (fB 1 1 _ rfl (by decide)).mono ?_;rintro e w2 ⟨t2, rfl, ht2, hq2, -⟩;have hG2 := hG1.trans hq2;have hR2 := hR1.q hq2;obtain ⟨A6, n6, c6, rfl⟩ := ht2.form;go_wp2_with fail
  refine (cB _ 1 (k - m) _ _ ht2 rfl b4 b3).mono ?_;rintro e w3 ⟨t3, rfl, ht3, hq3, -⟩;have hG3 := hG2.trans hq3;have hR3 := hR2.q hq3;have fz := hR3.frozen;obtain ⟨r0, r1, r2⟩ := hR3.cells;obtain ⟨A7, n7, c7, rfl⟩ := ht3.form;rw [Nat.one_mul] at ht3;go_wp2_with fail
  refine (dW s _ _ (g / 2 ^ m) (2 ^ (k - m)) _ ((ht1.q hq2).q hq3) ht3).mono ?_;rintro e w4 ⟨v5, rfl, hv5, hq4⟩;have hG4 := hG3.trans hq4;have hR4 := hR3.q hq4;clear fz r0 r1 r2;have fz := hR4.frozen;obtain ⟨r0, r1, r2⟩ := hR4.cells;obtain ⟨B1, d1, B2, d2, rfl, -, -⟩ := hv5.form;have hv := Nq.made (q := sgQ s (((g : Nat) : Rat) * pw (-(k : Int)))) hv5 HP1.out (fun _ => HP2.out);generalize (decide (0 < g / 2 ^ m) && s) = s4 at *
  generalize dg W64 (if g / 2 ^ m = 0 then 0 else bt (2 ^ (k - m))) = m2 at *
  generalize dg W64 (g / 2 ^ m) = m1 at *
  go_wp2_with fail
  obtain ⟨z0, z1, z2, hvF, hqF⟩ := Nq.store hR4 hv hG4 (Nat.le_refl _);unfold put3 at z0 z1 z2 hvF hqF;refine bodyPost_ret (v := .agg #[.bool s4, .slice B1 m1 d1, .slice B2 m2 d2]) (by simp [results, Tryz.results174, go_sem, z0, z1, z2]) rfl ?_;exact ⟨_, rfl, hvF, hqF⟩
theorem aAs (z : Int) : min (max z 1) 2000 = (iV z : Int) := by
 unfold iV; split
 ·omega
 ·split <;> omega
theorem aCv {q : Nat} (h : 0 < q) : 0 < tz q ↔ q % 2 = 0 := by
 constructor
 ·intro h1;rcases Nat.mod_two_eq_zero_or_one q with h2 | h2
  ·exact h2
  ·rw [nI h2] at h1; omega
 ·intro h1;rw [jJ h h1]; omega
theorem aCw (x : Value) (p : Rat) (z : Int) (away : Bool) (w : World) (hT : Tb w) (hx : Nq w x p) (hB : 2000 * sz p + 500000 ≤ LIM) : Calls Tryz.prog 107 #[x, .int .i64 z, .bool away] w fun e w' => ∃ r, e = .returned r ∧ Nq w' r (rnd (iV z) p away) ∧ Q w w' := by
 obtain ⟨s1, A1, n1, c1, A2, n2, c2, rfl, E1, Z1, O1, hxt, hxb⟩ := hx.form;obtain ⟨w0, hW, hG0, hX0, hR0⟩ := vQ w s1 (.slice A1 n1 c1) (.slice A2 n2 c2);obtain ⟨b, hbz⟩ : ∃ b, iV z = b := ⟨_, rfl⟩
 obtain ⟨hb0, hb1⟩ := qF z;have hmx := aAs z;rw [hbz] at hb0 hb1 hmx;rw [hbz];clear hbz;by_cases h0 : p = 0
 ·have k0 : ((n1 : Int) == 0) = true := (by rw [Z1.out.2 h0]; rfl);rw [show rnd b p away = 0 from if_pos h0];have hv := bP w0;clear hmx h0;obtain ⟨x0, x1, x2⟩ := hX0.cells;have fz := hR0.frozen;obtain ⟨r0, r1, r2⟩ := hR0.cells;go_enter Tryz.func107, Tryz.ntmps107
  go_wp2_with fail
  clear hW;obtain ⟨z0, z1, z2, hvF, hqF⟩ := Nq.store hR0 hv hG0 (Nat.le_add_right _ _);unfold put3 at z0 z1 z2 hvF hqF;refine bodyPost_ret (v := .agg #[.bool false, .slice none 0 0, .slice none 0 0]) (by simp [results, Tryz.results107, go_sem, z0, z1, z2]) rfl ?_;exact ⟨_, rfl, hvF, hqF⟩
 ·have k0 : ((n1 : Int) == 0) = false := beq_eq_false_iff_ne.2 (fun h => h0 (Z1.out.1 (by omega)));have hszp := fO p;have hbn := iB p.num.natAbs; have hbd := iB p.den;rw [aA] at hB;obtain ⟨sh, hsh⟩ : ∃ sh : Int, (bl p.num.natAbs : Int) - bl p.den - b = sh := ⟨_, rfl⟩
  have hP := aB8 (x := p) (b := b) away h0 hb0 rfl rfl hsh;rw [← E1.out] at hP;obtain ⟨hP1, hP2, hQ0, hQ1⟩ := hP;have hq8 : 8 * (sz p + sh.natAbs) + 200 ≤ LIM := (by rw [aA]; omega);have hshl : sh.natAbs ≤ 128 * sz p + 2000 := (by omega);have bN : dg W64 p.num.natAbs ≤ LIM := (by rw [aA]; omega);have bD : dg W64 p.den ≤ LIM := (by rw [aA]; omega);obtain ⟨La, hLa⟩ : ∃ La, bl p.num.natAbs = La := ⟨_, rfl⟩; obtain ⟨Lb, hLb⟩ : ∃ Lb, bl p.den = Lb := ⟨_, rfl⟩
  rw [hLa] at hsh hbn; rw [hLb] at hsh hbd;have t1 : IntKind.i64.wrap ((La : Int) - Lb) = (La : Int) - Lb := IntWalk.i64_in _ (by omega);have t2 : IntKind.i64.wrap ((La : Int) - Lb - b) = sh := (by rw [← hsh]; exact IntWalk.i64_in _ (by omega));have HLa := Lib.hid hLa; have HLb := Lib.hid hLb; clear hLa hLb;have hQd := aDR (fl sh p.num.natAbs p.den);generalize hQ : fl sh p.num.natAbs p.den = q at *
  generalize hR : fr sh p.num.natAbs p.den = r at *
  have hQl : dg W64 q ≤ 2001 := (by omega);have bQ : dg W64 q ≤ LIM := (by rw [aA]; omega);have bQ1 : dg W64 q + 1 ≤ LIM := (by rw [aA]; omega);have b11 : dg W64 1 + 1 ≤ LIM := (by rw [bZ aB, aA]; omega);have HP1 := Lib.hid hP1; have HP2 := Lib.hid hP2; have HQ := Lib.hid hQ; have HR := Lib.hid hR; have HB := Lib.hid hB;have shl1 : -1099511627776 ≤ sh := (by omega);have shl2 : sh ≤ 1099511627776 := (by omega);have hb2 : (b : Int) ≤ 2000 := (by omega);clear hP1 hP2 hQ hR hsh hQd hB hbn hbd hszp;go_enter Tryz.func107, Tryz.ntmps107
  obtain ⟨x0, x1, x2⟩ := hX0.cells;go_wp2_with fail
  clear hW k0 hmx;clear x0 x1 x2;obtain ⟨x0, x1, x2⟩ := hX0.cells
  go_region_held3 (fun W => W.cell? ⟨w.heap.size, 0, none⟩ = some (.bool s1) ∧ W.cell? ⟨w.heap.size, 1, none⟩ = some (.slice A1 n1 c1) ∧ W.cell? ⟨w.heap.size, 2, none⟩ = some (.slice A2 n2 c2)) (first | exact ⟨x0, x1, x2⟩ | exact ⟨by assumption, by assumption, by assumption⟩ | go_keep) (first
   | (go_at_call 159; (with_reducible refine (bO _ p.den _ hu1 bD).mono ?_); rintro e w92 ⟨rfl, rfl⟩; rw [HLb.out])
   | (go_at_call 135; (with_reducible refine (eU _ p _ (hx.q hG0.drew)).mono ?_); rintro e w1 ⟨u1, rfl, hu1, hq1d⟩; have hq1 : Q w0 w1 := (Q.refl w0).drew.trans hq1d; have hG1 := hG0.trans hq1; have hX1 := hX0.q hq1; have hR1 := hR0.q hq1; obtain ⟨x0, x1, x2⟩ := hX1.cells; obtain ⟨A5, n5, c5, rfl⟩ := hu1.form)
   | (go_at_call 159; (with_reducible refine (bO _ p.num.natAbs _ (hxt.q hG0.drew) bN).mono ?_); rintro e w90 ⟨rfl, rfl⟩; rw [HLa.out]))
  all_goals
   clear t1 t2;obtain ⟨x0, x1, x2⟩ := hX1.cells;go_wp2_with fail
   refine (aCu _ p sh _ (hT.q hG1) (hx.q hG1) h0 hq8).mono ?_;rintro e w2 ⟨t, rfl, ht, hq2⟩;have hG2 := hG1.trans hq2;have hX2 := hX1.q hq2;have hR2 := hR1.q hq2;clear x0 x1 x2;obtain ⟨x0, x1, x2⟩ := hX2.cells;rw [HQ.out] at ht;rw [HR.out];obtain ⟨A6, n6, c6, rfl⟩ := ht.form;go_wp2_with fail
   refine (bO _ q _ ht bQ).mono ?_;rintro e w7 ⟨rfl, rfl⟩;obtain ⟨Lq, hLq⟩ : ∃ Lq, bl q = Lq := ⟨_, rfl⟩
   rw [hLq] at HP1 HP2 hQ1 ⊢;clear hLq;by_cases hbq : b < Lq
   ·have hbq2 : (b : Int) < (Lq : Int) := (by omega);obtain ⟨hr1, hq20⟩ := HP1.out hbq;have HR1 := Lib.hid hr1; clear hr1 hbq;have htz := aCv hQ0;have htl := fK hQ0; have htd := iB q;obtain ⟨q2, hq2e⟩ : ∃ q2, q / 2 = q2 := ⟨_, rfl⟩
    have hq2l : dg W64 q2 ≤ 2001 := (by rw [← hq2e]; exact Nat.le_trans (fV aB (Nat.div_le_self _ _)) hQl);have hq2q : q / 2 ^ 1 = q2 := hq2e;rw [hq2e] at hq20 HR1;obtain ⟨tq, htq⟩ : ∃ tq, tz q = tq := ⟨_, rfl⟩
    rw [htq] at htz htl;have htq64 : (tq : Int) ≤ 1000000 := (by omega);have HTZ := Lib.hid htz; have HTQ := Lib.hid htq; have HQ2 := Lib.hid hq2q; clear htz htq hq2e hq2q htl htd;have bq21 : dg W64 q2 + 1 ≤ LIM := (by rw [aA]; omega);have hq2p := hq20;have bq20s : 64 * dg W64 q2 + (sh + 1).natAbs + 100 ≤ LIM := (by have := HB.out; rw [aA]; omega);have bq21s : 64 * dg W64 (q2 + 1) + (sh + 1).natAbs + 100 ≤ LIM := (by have := HB.out; have h1 := lH aB q2 1; rw [bZ aB] at h1; rw [aA]; omega);clear hq20;by_cases hr0 : r = 0
    ·have kr : decide (r = 0) = true := decide_eq_true hr0;rw [kr];have HR0 := Lib.hid hr0; clear hr0 kr;go_wp2_with fail
     refine (bH _ q _ (hT.q hG2) ht bQ hQ0).mono ?_;rintro e w7 ⟨rfl, rfl⟩;rw [HTQ.out];by_cases htq0 : 0 < tq
     ·have HT0 := Lib.hid htq0;have htq1 : (0 : Int) < (tq : Int) := (by omega);have htq2 : decide (0 < tq) = true := decide_eq_true htq0;go_wp2_with fail
      refine (bT _ q 1 _ _ ht rfl bQ (by decide)).mono ?_;rintro e w3 ⟨t5, rfl, ht5, hq3, -⟩;have hG3 := hG2.trans hq3;have hX3 := hX2.q hq3;have hR3 := hR2.q hq3;clear x0 x1 x2;rw [HQ2.out] at ht5;obtain ⟨A7, n7, c7, rfl⟩ := ht5.form;cases away
      ·obtain ⟨x0, x1, x2⟩ := hX3.cells;go_wp2_with fail
       refine (gG s1 _ q2 (sh + 1) _ (hT.q hG3) ht5 hq2p bq20s).mono ?_;rintro e w4 ⟨v9, rfl, hv9, hq4⟩;have hG4 := hG3.trans hq4;have hX4 := hX3.q hq4;have hR4 := hR3.q hq4;clear x0 x1 x2;have fz := hR4.frozen;obtain ⟨r0, r1, r2⟩ := hR4.cells;obtain ⟨s6, B1, m1, d1, B2, m2, d2, rfl, -⟩ := hv9.form;have hv := hv9;rw [show sgQ s1 (((q2 : Nat) : Rat) * pw ((sh + 1))) = rnd b p false from Eq.symm (by rw [HR1.out, if_neg (by simp), Nat.add_zero])] at hv;clear hv9;go_wp2_with fail
       obtain ⟨z0, z1, z2, hvF, hqF⟩ := Nq.store hR4 hv hG4 (Nat.le_add_right _ _);unfold put3 at z0 z1 z2 hvF hqF;refine bodyPost_ret (v := .agg #[.bool s6, .slice B1 m1 d1, .slice B2 m2 d2]) (by simp [results, Tryz.results107, go_sem, z0, z1, z2]) rfl ?_;exact ⟨_, rfl, hvF, hqF⟩
      ·obtain ⟨x0, x1, x2⟩ := hX3.cells;go_wp2_with fail
       refine (gG s1 _ q2 (sh + 1) _ (hT.q hG3) ht5 hq2p bq20s).mono ?_;rintro e w4 ⟨v9, rfl, hv9, hq4⟩;have hG4 := hG3.trans hq4;have hX4 := hX3.q hq4;have hR4 := hR3.q hq4;clear x0 x1 x2;have fz := hR4.frozen;obtain ⟨r0, r1, r2⟩ := hR4.cells;obtain ⟨s6, B1, m1, d1, B2, m2, d2, rfl, -⟩ := hv9.form;have hv := hv9;rw [show sgQ s1 (((q2 : Nat) : Rat) * pw ((sh + 1))) = rnd b p true from Eq.symm (by rw [HR1.out, if_neg (fun h => h.2 (⟨HR0.out, HTZ.out.1 HT0.out⟩)), Nat.add_zero])] at hv;clear hv9;go_wp2_with fail
       obtain ⟨z0, z1, z2, hvF, hqF⟩ := Nq.store hR4 hv hG4 (Nat.le_add_right _ _);unfold put3 at z0 z1 z2 hvF hqF;refine bodyPost_ret (v := .agg #[.bool s6, .slice B1 m1 d1, .slice B2 m2 d2]) (by simp [results, Tryz.results107, go_sem, z0, z1, z2]) rfl ?_;exact ⟨_, rfl, hvF, hqF⟩
     ·have HT0 := Lib.hid htq0;have htq1 : ¬ (0 : Int) < (tq : Int) := (by omega);have htq2 : tq = 0 := (by omega);subst htq2;clear htq0;go_wp2_with fail
      refine (bT _ q 1 _ _ ht rfl bQ (by decide)).mono ?_;rintro e w3 ⟨t5, rfl, ht5, hq3, -⟩;have hG3 := hG2.trans hq3;have hX3 := hX2.q hq3;have hR3 := hR2.q hq3;clear x0 x1 x2;rw [HQ2.out] at ht5;obtain ⟨A7, n7, c7, rfl⟩ := ht5.form;cases away
      ·obtain ⟨x0, x1, x2⟩ := hX3.cells;go_wp2_with fail
       refine (gG s1 _ q2 (sh + 1) _ (hT.q hG3) ht5 hq2p bq20s).mono ?_;rintro e w4 ⟨v9, rfl, hv9, hq4⟩;have hG4 := hG3.trans hq4;have hX4 := hX3.q hq4;have hR4 := hR3.q hq4;clear x0 x1 x2;have fz := hR4.frozen;obtain ⟨r0, r1, r2⟩ := hR4.cells;obtain ⟨s6, B1, m1, d1, B2, m2, d2, rfl, -⟩ := hv9.form;have hv := hv9;rw [show sgQ s1 (((q2 : Nat) : Rat) * pw ((sh + 1))) = rnd b p false from Eq.symm (by rw [HR1.out, if_neg (by simp), Nat.add_zero])] at hv;clear hv9;go_wp2_with fail
       obtain ⟨z0, z1, z2, hvF, hqF⟩ := Nq.store hR4 hv hG4 (Nat.le_add_right _ _);unfold put3 at z0 z1 z2 hvF hqF;refine bodyPost_ret (v := .agg #[.bool s6, .slice B1 m1 d1, .slice B2 m2 d2]) (by simp [results, Tryz.results107, go_sem, z0, z1, z2]) rfl ?_;exact ⟨_, rfl, hvF, hqF⟩
      ·go_wp2_with fail
       refine (fB 1 1 _ rfl (by decide)).mono ?_;rintro e w4 ⟨t8, rfl, ht8, hq4, -⟩;have hG4 := hG3.trans hq4;have hX4 := hX3.q hq4;have hR4 := hR3.q hq4;obtain ⟨A8, n8, c8, rfl⟩ := ht8.form;go_wp2_with fail
       refine (qH _ _ q2 1 _ (ht5.q hq4) ht8 bq21 b11).mono ?_;rintro e w5 ⟨t9, rfl, ht9, hq5, -⟩;have hG5 := hG4.trans hq5;have hX5 := hX4.q hq5;have hR5 := hR4.q hq5;obtain ⟨x0, x1, x2⟩ := hX5.cells;obtain ⟨A9, n9, c9, rfl⟩ := ht9.form;go_wp2_with fail
       refine (gG s1 _ (q2 + 1) (sh + 1) _ (hT.q hG5) ht9 (Nat.succ_pos _) bq21s).mono ?_;rintro e w6 ⟨v9, rfl, hv9, hq6⟩;have hG6 := hG5.trans hq6;have hX6 := hX5.q hq6;have hR6 := hR5.q hq6;clear x0 x1 x2;have fz := hR6.frozen;obtain ⟨r0, r1, r2⟩ := hR6.cells;obtain ⟨s6, B1, m1, d1, B2, m2, d2, rfl, -⟩ := hv9.form;have hv := hv9;rw [show sgQ s1 ((((q2 + 1) : Nat) : Rat) * pw ((sh + 1))) = rnd b p true from Eq.symm (by rw [HR1.out, if_pos ⟨by simp, fun h => HT0.out (HTZ.out.2 h.2)⟩])] at hv;clear hv9;go_wp2_with fail
       obtain ⟨z0, z1, z2, hvF, hqF⟩ := Nq.store hR6 hv hG6 (Nat.le_add_right _ _);unfold put3 at z0 z1 z2 hvF hqF;refine bodyPost_ret (v := .agg #[.bool s6, .slice B1 m1 d1, .slice B2 m2 d2]) (by simp [results, Tryz.results107, go_sem, z0, z1, z2]) rfl ?_;exact ⟨_, rfl, hvF, hqF⟩
    ·have kr : decide (r = 0) = false := decide_eq_false hr0;rw [kr];have HR0 := Lib.hid hr0; clear hr0 kr;go_wp2_with fail
     refine (bT _ q 1 _ _ ht rfl bQ (by decide)).mono ?_;rintro e w3 ⟨t5, rfl, ht5, hq3, -⟩;have hG3 := hG2.trans hq3;have hX3 := hX2.q hq3;have hR3 := hR2.q hq3;clear x0 x1 x2;rw [HQ2.out] at ht5;obtain ⟨A7, n7, c7, rfl⟩ := ht5.form;cases away
     ·obtain ⟨x0, x1, x2⟩ := hX3.cells;go_wp2_with fail
      refine (gG s1 _ q2 (sh + 1) _ (hT.q hG3) ht5 hq2p bq20s).mono ?_;rintro e w4 ⟨v9, rfl, hv9, hq4⟩;have hG4 := hG3.trans hq4;have hX4 := hX3.q hq4;have hR4 := hR3.q hq4;clear x0 x1 x2;have fz := hR4.frozen;obtain ⟨r0, r1, r2⟩ := hR4.cells;obtain ⟨s6, B1, m1, d1, B2, m2, d2, rfl, -⟩ := hv9.form;have hv := hv9;rw [show sgQ s1 (((q2 : Nat) : Rat) * pw ((sh + 1))) = rnd b p false from Eq.symm (by rw [HR1.out, if_neg (by simp), Nat.add_zero])] at hv;clear hv9;go_wp2_with fail
      obtain ⟨z0, z1, z2, hvF, hqF⟩ := Nq.store hR4 hv hG4 (Nat.le_add_right _ _);unfold put3 at z0 z1 z2 hvF hqF;refine bodyPost_ret (v := .agg #[.bool s6, .slice B1 m1 d1, .slice B2 m2 d2]) (by simp [results, Tryz.results107, go_sem, z0, z1, z2]) rfl ?_;exact ⟨_, rfl, hvF, hqF⟩
     ·go_wp2_with fail
      refine (fB 1 1 _ rfl (by decide)).mono ?_;rintro e w4 ⟨t8, rfl, ht8, hq4, -⟩;have hG4 := hG3.trans hq4;have hX4 := hX3.q hq4;have hR4 := hR3.q hq4;obtain ⟨A8, n8, c8, rfl⟩ := ht8.form;go_wp2_with fail
      refine (qH _ _ q2 1 _ (ht5.q hq4) ht8 bq21 b11).mono ?_;rintro e w5 ⟨t9, rfl, ht9, hq5, -⟩;have hG5 := hG4.trans hq5;have hX5 := hX4.q hq5;have hR5 := hR4.q hq5;obtain ⟨x0, x1, x2⟩ := hX5.cells;obtain ⟨A9, n9, c9, rfl⟩ := ht9.form;go_wp2_with fail
      refine (gG s1 _ (q2 + 1) (sh + 1) _ (hT.q hG5) ht9 (Nat.succ_pos _) bq21s).mono ?_;rintro e w6 ⟨v9, rfl, hv9, hq6⟩;have hG6 := hG5.trans hq6;have hX6 := hX5.q hq6;have hR6 := hR5.q hq6;clear x0 x1 x2;have fz := hR6.frozen;obtain ⟨r0, r1, r2⟩ := hR6.cells;obtain ⟨s6, B1, m1, d1, B2, m2, d2, rfl, -⟩ := hv9.form;have hv := hv9;rw [show sgQ s1 ((((q2 + 1) : Nat) : Rat) * pw ((sh + 1))) = rnd b p true from Eq.symm (by rw [HR1.out, if_pos ⟨by simp, fun h => HR0.out h.1⟩])] at hv;clear hv9;go_wp2_with fail
      obtain ⟨z0, z1, z2, hvF, hqF⟩ := Nq.store hR6 hv hG6 (Nat.le_add_right _ _);unfold put3 at z0 z1 z2 hvF hqF;refine bodyPost_ret (v := .agg #[.bool s6, .slice B1 m1 d1, .slice B2 m2 d2]) (by simp [results, Tryz.results107, go_sem, z0, z1, z2]) rfl ?_;exact ⟨_, rfl, hvF, hqF⟩
   ·have hbq2 : ¬ (b : Int) < (Lq : Int) := (by omega);have hr1 := HP2.out hbq;have HR1 := Lib.hid hr1; clear hr1 hbq;have bq1 : dg W64 q + 1 ≤ LIM := bQ1;have hqp := hQ0;have bq0s : 64 * dg W64 q + sh.natAbs + 100 ≤ LIM := (by have := HB.out; rw [aA]; omega);have bq1s : 64 * dg W64 (q + 1) + sh.natAbs + 100 ≤ LIM := (by have := HB.out; have h1 := lH aB q 1; rw [bZ aB] at h1; rw [aA]; omega);by_cases hr0 : r = 0
    ·have kr : decide (r = 0) = true := decide_eq_true hr0;rw [kr];have HR0 := Lib.hid hr0; clear hr0 kr;cases away
     ·clear x0 x1 x2;obtain ⟨x0, x1, x2⟩ := hX2.cells;go_wp2_with fail
      refine (gG s1 _ q sh _ (hT.q hG2) ht hqp bq0s).mono ?_;rintro e w3 ⟨v9, rfl, hv9, hq3⟩;have hG3 := hG2.trans hq3;have hX3 := hX2.q hq3;have hR3 := hR2.q hq3;clear x0 x1 x2;have fz := hR3.frozen;obtain ⟨r0, r1, r2⟩ := hR3.cells;obtain ⟨s6, B1, m1, d1, B2, m2, d2, rfl, -⟩ := hv9.form;have hv := hv9;rw [show sgQ s1 (((q : Nat) : Rat) * pw (sh)) = rnd b p false from Eq.symm (by rw [HR1.out, if_neg (by simp), Nat.add_zero])] at hv;clear hv9;go_wp2_with fail
      obtain ⟨z0, z1, z2, hvF, hqF⟩ := Nq.store hR3 hv hG3 (Nat.le_add_right _ _);unfold put3 at z0 z1 z2 hvF hqF;refine bodyPost_ret (v := .agg #[.bool s6, .slice B1 m1 d1, .slice B2 m2 d2]) (by simp [results, Tryz.results107, go_sem, z0, z1, z2]) rfl ?_;exact ⟨_, rfl, hvF, hqF⟩
     ·clear x0 x1 x2;obtain ⟨x0, x1, x2⟩ := hX2.cells;go_wp2_with fail
      refine (gG s1 _ q sh _ (hT.q hG2) ht hqp bq0s).mono ?_;rintro e w3 ⟨v9, rfl, hv9, hq3⟩;have hG3 := hG2.trans hq3;have hX3 := hX2.q hq3;have hR3 := hR2.q hq3;clear x0 x1 x2;have fz := hR3.frozen;obtain ⟨r0, r1, r2⟩ := hR3.cells;obtain ⟨s6, B1, m1, d1, B2, m2, d2, rfl, -⟩ := hv9.form;have hv := hv9;rw [show sgQ s1 (((q : Nat) : Rat) * pw (sh)) = rnd b p true from Eq.symm (by rw [HR1.out, if_neg (fun h => h.2 HR0.out), Nat.add_zero])] at hv;clear hv9;go_wp2_with fail
      obtain ⟨z0, z1, z2, hvF, hqF⟩ := Nq.store hR3 hv hG3 (Nat.le_add_right _ _);unfold put3 at z0 z1 z2 hvF hqF;refine bodyPost_ret (v := .agg #[.bool s6, .slice B1 m1 d1, .slice B2 m2 d2]) (by simp [results, Tryz.results107, go_sem, z0, z1, z2]) rfl ?_;exact ⟨_, rfl, hvF, hqF⟩
    ·have kr : decide (r = 0) = false := decide_eq_false hr0;rw [kr];have HR0 := Lib.hid hr0; clear hr0 kr;cases away
     ·clear x0 x1 x2;obtain ⟨x0, x1, x2⟩ := hX2.cells;go_wp2_with fail
      refine (gG s1 _ q sh _ (hT.q hG2) ht hqp bq0s).mono ?_;rintro e w3 ⟨v9, rfl, hv9, hq3⟩;have hG3 := hG2.trans hq3;have hX3 := hX2.q hq3;have hR3 := hR2.q hq3;clear x0 x1 x2;have fz := hR3.frozen;obtain ⟨r0, r1, r2⟩ := hR3.cells;obtain ⟨s6, B1, m1, d1, B2, m2, d2, rfl, -⟩ := hv9.form;have hv := hv9;rw [show sgQ s1 (((q : Nat) : Rat) * pw (sh)) = rnd b p false from Eq.symm (by rw [HR1.out, if_neg (by simp), Nat.add_zero])] at hv;clear hv9;go_wp2_with fail
      obtain ⟨z0, z1, z2, hvF, hqF⟩ := Nq.store hR3 hv hG3 (Nat.le_add_right _ _);unfold put3 at z0 z1 z2 hvF hqF;refine bodyPost_ret (v := .agg #[.bool s6, .slice B1 m1 d1, .slice B2 m2 d2]) (by simp [results, Tryz.results107, go_sem, z0, z1, z2]) rfl ?_;exact ⟨_, rfl, hvF, hqF⟩
     ·clear x0 x1 x2;go_wp2_with fail
      refine (fB 1 1 _ rfl (by decide)).mono ?_;rintro e w3 ⟨t8, rfl, ht8, hq3, -⟩;have hG3 := hG2.trans hq3;have hX3 := hX2.q hq3;have hR3 := hR2.q hq3;obtain ⟨A8, n8, c8, rfl⟩ := ht8.form;go_wp2_with fail
      refine (qH _ _ q 1 _ (ht.q hq3) ht8 bq1 b11).mono ?_;rintro e w4 ⟨t9, rfl, ht9, hq4, -⟩;have hG4 := hG3.trans hq4;have hX4 := hX3.q hq4;have hR4 := hR3.q hq4;obtain ⟨x0, x1, x2⟩ := hX4.cells;obtain ⟨A9, n9, c9, rfl⟩ := ht9.form;go_wp2_with fail
      refine (gG s1 _ (q + 1) sh _ (hT.q hG4) ht9 (Nat.succ_pos _) bq1s).mono ?_;rintro e w5 ⟨v9, rfl, hv9, hq5⟩;have hG5 := hG4.trans hq5;have hX5 := hX4.q hq5;have hR5 := hR4.q hq5;clear x0 x1 x2;have fz := hR5.frozen;obtain ⟨r0, r1, r2⟩ := hR5.cells;obtain ⟨s6, B1, m1, d1, B2, m2, d2, rfl, -⟩ := hv9.form;have hv := hv9;rw [show sgQ s1 ((((q + 1) : Nat) : Rat) * pw (sh)) = rnd b p true from Eq.symm (by rw [HR1.out, if_pos ⟨by simp, HR0.out⟩])] at hv;clear hv9;go_wp2_with fail
      obtain ⟨z0, z1, z2, hvF, hqF⟩ := Nq.store hR5 hv hG5 (Nat.le_add_right _ _);unfold put3 at z0 z1 z2 hvF hqF;refine bodyPost_ret (v := .agg #[.bool s6, .slice B1 m1 d1, .slice B2 m2 d2]) (by simp [results, Tryz.results107, go_sem, z0, z1, z2]) rfl ?_;exact ⟨_, rfl, hvF, hqF⟩
theorem aFl (x : Value) (p : Rat) (z : Int) (w : World) (hT : Tb w) (hx : Nq w x p) (hB : 2000 * sz p + 500000 ≤ LIM) : Calls Tryz.prog 24 #[x, .int .i64 z] w fun e w' => ∃ r, e = .returned r ∧ Nq w' r (dn (iV z) p) ∧ Q w w' := by
 obtain ⟨s1, A1, n1, c1, A2, n2, c2, rfl, E1, Z1, O1, hxt, hxb⟩ := hx.form;obtain ⟨w0, hW, hG0, hX0, hR0⟩ := vQ w s1 (.slice A1 n1 c1) (.slice A2 n2 c2);have he0 : s1 = decide (p < 0) := E1.out.trans (decide_eq_decide.2 (bG p));have HE := Lib.hid he0; clear he0;have HB := Lib.hid hB; clear hB;obtain ⟨x0, x1, x2⟩ := hX0.cells;go_enter Tryz.func24, Tryz.ntmps24
 go_wp2_with fail
 clear hW;refine (aCw _ p z s1 _ (hT.q hG0) (hx.q hG0) HB.out).mono ?_;rintro e w1 ⟨r, rfl, hv, hq1⟩;have hG1 := hG0.trans hq1;have hX1 := hX0.q hq1;have hR1 := hR0.q hq1;clear x0 x1 x2;have fz := hR1.frozen;obtain ⟨r0, r1, r2⟩ := hR1.cells;rw [HE.out, aE3] at hv;obtain ⟨s6, B1, m1, d1, B2, m2, d2, rfl, -⟩ := hv.form;go_wp2_with fail
 obtain ⟨z0, z1, z2, hvF, hqF⟩ := Nq.store hR1 hv hG1 (Nat.le_add_right _ _);unfold put3 at z0 z1 z2 hvF hqF;refine bodyPost_ret (v := .agg #[.bool s6, .slice B1 m1 d1, .slice B2 m2 d2]) (by simp [results, Tryz.results24, go_sem, z0, z1, z2]) rfl ?_;exact ⟨_, rfl, hvF, hqF⟩
theorem aGg (x : Value) (p : Rat) (z : Int) (w : World) (hT : Tb w) (hx : Nq w x p) (hB : 2000 * sz p + 500000 ≤ LIM) : Calls Tryz.prog 26 #[x, .int .i64 z] w fun e w' => ∃ r, e = .returned r ∧ Nq w' r (up (iV z) p) ∧ Q w w' := by
 obtain ⟨s1, A1, n1, c1, A2, n2, c2, rfl, E1, Z1, O1, hxt, hxb⟩ := hx.form;obtain ⟨w0, hW, hG0, hX0, hR0⟩ := vQ w s1 (.slice A1 n1 c1) (.slice A2 n2 c2);have he0 : s1 = decide (p < 0) := E1.out.trans (decide_eq_decide.2 (bG p));have HE := Lib.hid he0; clear he0;have HB := Lib.hid hB; clear hB;obtain ⟨x0, x1, x2⟩ := hX0.cells;go_enter Tryz.func26, Tryz.ntmps26
 go_wp2_with fail
 clear hW;refine (aCw _ p z (!s1) _ (hT.q hG0) (hx.q hG0) HB.out).mono ?_;rintro e w1 ⟨r, rfl, hv, hq1⟩;have hG1 := hG0.trans hq1;have hX1 := hX0.q hq1;have hR1 := hR0.q hq1;clear x0 x1 x2;have fz := hR1.frozen;obtain ⟨r0, r1, r2⟩ := hR1.cells;rw [HE.out, aF4] at hv;obtain ⟨s6, B1, m1, d1, B2, m2, d2, rfl, -⟩ := hv.form;go_wp2_with fail
 obtain ⟨z0, z1, z2, hvF, hqF⟩ := Nq.store hR1 hv hG1 (Nat.le_add_right _ _);unfold put3 at z0 z1 z2 hvF hqF;refine bodyPost_ret (v := .agg #[.bool s6, .slice B1 m1 d1, .slice B2 m2 d2]) (by simp [results, Tryz.results26, go_sem, z0, z1, z2]) rfl ?_;exact ⟨_, rfl, hvF, hqF⟩
theorem zM {a b : Value} {x y : Bool} (h : x = y) : Ending.returned (.tuple #[a, b, .bool x]) = .returned (.tuple #[a, b, .bool y]) := by rw [h]
theorem toList_mk (l : List UInt8) : (⟨l.toArray⟩ : ByteArray).data.toList = l := rfl
theorem vS {l : List UInt8} {c : UInt8} {k : Nat} (h : l[k]? = some c) (hn : ∀ j, j < k → l[j]? ≠ some c) : eG c l = l.take k ∧ aft c l = l.drop (k + 1) ∧ c ∈ l := by
 have hk : k < l.length := by
  rcases Nat.lt_or_ge k l.length with h1 | h1
  ·exact h1
  ·rw [List.getElem?_eq_none h1] at h; cases h
 have e : l = l.take k ++ c :: l.drop (k + 1) := by
  have h1 : l[k] = c := (by rw [List.getElem?_eq_getElem hk] at h; exact Option.some.inj h);rw [← h1, ← List.drop_eq_getElem_cons hk, List.take_append_drop]
 have hc : c ∉ l.take k := by
  intro hm;obtain ⟨j, hj, hj2⟩ := List.getElem_of_mem hm;rw [List.length_take] at hj;refine hn j (by omega) ?_;rw [List.getElem_take] at hj2;rw [List.getElem?_eq_getElem (by omega), hj2]
 have hf := aAG (s := l.drop (k + 1)) hc;rw [← e] at hf;exact ⟨hf.1, hf.2, List.mem_of_getElem? h⟩
def aCx (l : List UInt8) (c : UInt8) (w : World) (e : Ending) (w' : World) : Prop := ∃ a b : ByteArray, e = .returned (.tuple #[.string a, .string b, .bool (decide (c ∈ l))]) ∧ a.data.toList = eG c l ∧ b.data.toList = aft c l ∧ Q w w'
theorem aFm (s : ByteArray) (c : UInt8) (w : World) (hs : s.size ≤ 9223372036854775806) : Calls Tryz.prog 140 #[.string s, .string ⟨#[c]⟩] w (aCx s.data.toList c w) := by
 have h1 := Lib.indexByte_ge s.data.toList c;have h2 := @Lib.indexByte_none s.data.toList c;have h3 := @Lib.indexByte_some s.data.toList c;have hsz := Lib.size_eq s;obtain ⟨i, hi⟩ : ∃ i, Lib.indexByte s.data.toList c = i := ⟨_, rfl⟩
 rw [hi] at h1 h2 h3;rcases (by omega : i = -1 ∨ 0 ≤ i) with rfl | h0
 ·have hn := h2 rfl;have hnm : c ∉ s.data.toList := fun hm => by
   obtain ⟨j, hj, hj2⟩ := List.getElem_of_mem hm;exact hn j (by rw [List.getElem?_eq_getElem hj, hj2])
  have HI := Lib.hid hi;clear h1 h2 h3 hn hi;obtain ⟨f1, f2⟩ := oK hnm;have HF1 := Lib.hid f1; have HF2 := Lib.hid f2; have HN := Lib.hid hnm;clear f1 f2 hnm hsz;go_enter Tryz.func140, Tryz.ntmps140
  go_wp2_with fail
  refine (Tryz.stringslite_Index_one s c _).mono ?_;rintro e w1 ⟨rfl, rfl⟩;rw [HI.out];go_wp2_with fail
  go_ret3
  exact ⟨s, ⟨#[]⟩, zM (decide_eq_false HN.out).symm, HF1.out.symm, HF2.out.symm, Q.refl _⟩
 ·obtain ⟨k, rfl⟩ := Int.eq_ofNat_of_zero_le h0;obtain ⟨hk, hkn⟩ := h3 rfl;obtain ⟨f1, f2, f3⟩ := vS hk hkn;have hlt : k < s.size := by
   rw [hsz];rcases Nat.lt_or_ge k s.data.toList.length with h1 | h1
   ·exact h1
   ·rw [List.getElem?_eq_none h1] at hk; cases hk
  have HI := Lib.hid hi;have HF1 := Lib.hid f1; have HF2 := Lib.hid f2; have HF3 := Lib.hid f3; have HSZ := Lib.hid hsz;clear h1 h2 h3 hi f1 f2 f3 hk hkn hsz;have q1 : (0 : Int) ≤ (k : Int) := (by omega);have q2 : (k : Int) ≤ (s.size : Int) := (by omega);have q3 : (0 : Int) ≤ (k : Int) + 1 := (by omega);have q4 : (k : Int) + 1 ≤ (s.size : Int) := (by omega);have q5 : IntKind.i64.wrap ((k : Int) + 1) = (k : Int) + 1 := IntWalk.i64_in _ (by omega);have q6 : ((k : Int) + 1).toNat = k + 1 := (by omega);go_enter Tryz.func140, Tryz.ntmps140
  go_wp2_with fail
  refine (Tryz.stringslite_Index_one s c _).mono ?_;rintro e w1 ⟨rfl, rfl⟩;rw [HI.out];go_wp2_with fail
  go_quiet (fail)
  go_wp2_with fail
  go_ret3
  exact ⟨s.extract 0 k, s.extract (k + 1) s.size, zM (decide_eq_true HF3.out).symm, by rw [Lib.extract_data, HF1.out]; simp, by rw [Lib.extract_to_end, HF2.out], (Q.refl _).drewN _⟩
theorem aDT (s : ByteArray) (c : UInt8) (w : World) (hs : s.size ≤ 9223372036854775806) : Calls Tryz.prog 70 #[.string s, .string ⟨#[c]⟩] w (aCx s.data.toList c w) := by
 obtain ⟨t, ht⟩ : ∃ t, decide (c ∈ s.data.toList) = t := ⟨_, rfl⟩
 have HT := Lib.hid ht;clear ht;go_enter Tryz.func70, Tryz.ntmps70
 go_wp2_with fail
 refine (aFm s c _ hs).mono ?_;rintro e w1 ⟨a, b, rfl, ha, hb, hq⟩;rw [HT.out];have HA := Lib.hid ha; have HBb := Lib.hid hb;clear ha hb;go_wp2_with fail
 go_ret3
 exact ⟨a, b, zM HT.out.symm, HA.out, HBb.out, hq⟩
theorem aBr (l : List UInt8) : Lib.hasPrefix l [45] = dG l ∧ Lib.trimPrefix l [45] = unsigned l := by
 have e : Lib.hasPrefix l [45] = dG l := by
  unfold Lib.hasPrefix dG;cases l with
  | nil => rfl
  | cons c t =>
    simp [List.isPrefixOf];by_cases h : c = 45
    ·subst h; rfl
    ·rw [beq_eq_false_iff_ne.2 (fun h1 => h h1.symm), beq_eq_false_iff_ne.2 h]
 refine ⟨e, ?_⟩;unfold Lib.trimPrefix unsigned;rw [e];split
 ·cases l <;> rfl
 ·rfl
theorem qP (s : ByteArray) (w : World) : Calls Tryz.prog 69 #[.string s, .string ⟨#[45]⟩] w fun e w' => ∃ a : ByteArray, e = .returned (.tuple #[.string a, .bool (dG s.data.toList)]) ∧ a.data.toList = unsigned s.data.toList ∧ a.size ≤ s.size ∧ w' = w := by
 refine (Tryz.strings_CutPrefix s ⟨#[45]⟩ w).mono ?_;rintro e w' ⟨h1, h2⟩;obtain ⟨e1, e2⟩ := aBr s.data.toList;have e1' : Lib.hasPrefix s.data.toList (⟨#[45]⟩ : ByteArray).data.toList = dG s.data.toList := e1;have e2' : Lib.trimPrefix s.data.toList (⟨#[45]⟩ : ByteArray).data.toList = unsigned s.data.toList := e2;rw [e1', e2'] at h1;refine ⟨_, h1, rfl, ?_, h2⟩;rw [Lib.size_eq, Lib.size_eq, toList_mk];unfold unsigned;split
 ·rw [List.length_tail]; omega
 ·exact Nat.le_refl _
theorem aCy (s : ByteArray) (l : List UInt8) (hl : s.data.toList = l) (hpos : 0 < s.size) (hA : aY l) : (s[0].toNat = 48 → decide (Row l) = ((s.size : Int) == 1)) ∧ (¬ s[0].toNat = 48 → decide (Row l) = true) := by
 have hsz := Lib.size_eq s;rw [hl] at hsz;have hh : l.head? = some s[0] := by
  rw [← hl, List.head?_eq_getElem?];have hp : 0 < s.data.toList.length := (by rw [← Lib.size_eq]; exact hpos);rw [List.getElem?_eq_getElem hp]; rfl
 have hne : l ≠ [] := fun h => by rw [h] at hh; cases hh
 constructor
 ·intro h;have h48 : s[0] = 48 := wF h;rw [h48] at hh;by_cases h1 : s.size = 1
  ·have : l = [48] := by
    cases l with
    | nil => exact absurd rfl hne
    | cons c t =>
      simp at hh hsz;have : t = [] := List.eq_nil_of_length_eq_zero (by omega);rw [hh, this]
   rw [decide_eq_true (show Row l from ⟨hA, hne, fun _ => this⟩), h1]; rfl
  ·rw [decide_eq_false (show ¬ Row l from fun hr => h1 (by rw [hsz, hr.2.2 hh]; rfl))];exact (beq_eq_false_iff_ne.2 (by omega)).symm
 ·intro h;refine decide_eq_true ⟨hA, hne, fun h1 => absurd ?_ h⟩;rw [hh] at h1;rw [Option.some.inj h1]; rfl
theorem aAP (s : ByteArray) (w : World) : Calls Tryz.prog 71 #[.string s] w fun e w' => e = .returned (.bool (decide (Row s.data.toList))) ∧ Q w w' := by
 have hsz := Lib.size_eq s;obtain ⟨l, hl⟩ : ∃ l, s.data.toList = l := ⟨_, rfl⟩
 rw [hl] at hsz ⊢;by_cases h : aY l ∧ l ≠ []
 ·have ha : jY l = true := decide_eq_true h;have hpos : 0 < s.size := (by rw [hsz]; exact List.length_pos_iff.2 h.2);have hk := aCy s l hl hpos h.1;have HA := Lib.hid ha; have HL := Lib.hid hl; have HK := Lib.hid hk;clear ha hl h hsz hk;go_enter Tryz.func71, Tryz.ntmps71
  go_wp2_with fail
  refine (jZ s _).mono ?_;rintro e w1 ⟨rfl, hq⟩;rw [HL.out, HA.out];go_wp2_with fail
  ·go_ret
   have h : (s[0].toNat : Int) = 48 := (by assumption);exact ⟨sS (HK.out.1 (by omega)).symm, hq⟩
  ·go_ret
   have h : ¬ (s[0].toNat : Int) = 48 := (by assumption);exact ⟨sS (HK.out.2 (by omega)).symm, hq⟩
 ·have ha : jY l = false := decide_eq_false h;have hr : decide (Row l) = false := decide_eq_false (fun hr => h ⟨hr.1, hr.2.1⟩);rw [hr];clear hr;have HA := Lib.hid ha; have HL := Lib.hid hl;clear ha hl h hsz;go_enter Tryz.func71, Tryz.ntmps71
  go_wp2_with fail
  refine (jZ s _).mono ?_;rintro e w1 ⟨rfl, hq⟩;rw [HL.out, HA.out];go_wp2_with fail
  go_ret
  exact ⟨rfl, hq⟩
theorem aEw (N : Nat) : (dec N).length ≤ 20 * dg W64 N + 1 := by
 rw [dU];split
 ·omega
 ·have h : dg 10 N ≤ 20 * dg W64 N := by
   rw [aD (by decide), Nat.pow_mul];exact Nat.lt_of_lt_of_le (aM aB N) (Nat.pow_le_pow_left (by decide) _)
  omega
theorem wU {t : ByteArray} {p : Rat} (h : t.data.toList = gN p) : t.size ≤ 1 := by
 rw [Lib.size_eq, h];unfold gN;split <;> decide
theorem zN {t : ByteArray} {N : Nat} (h : t.data.toList = dec N) (hN : dg W64 N ≤ 1000000000) : t.size ≤ 20000000001 := by
 rw [Lib.size_eq, h];have := aEw N;omega
theorem dQ (a b : ByteArray) : (a ++ b).data.toList = a.data.toList ++ b.data.toList := by
 simp
theorem aFF {d : Nat} (h : ¬ d = 1) : bt d = d := if_neg h
theorem aCz {a b : ByteArray} {p : Rat} (ha : a.data.toList = gN p) (hb : b.data.toList = dec p.num.natAbs) (hd : p.den = 1) : (a ++ b).data.toList = bW p := by
 rw [dQ, ha, hb, sV, if_pos hd, List.append_nil]
theorem aCA {a b c : ByteArray} {p : Rat} (ha : a.data.toList = gN p) (hb : b.data.toList = dec p.num.natAbs) (hc : c.data.toList = dec (bt p.den)) (hd : ¬ p.den = 1) : (a ++ b ++ (⟨#[47]⟩ ++ c)).data.toList = bW p := by
 rw [dQ, dQ, dQ, ha, hb, hc, sV, if_neg hd, aFF hd, List.append_assoc];rfl
theorem uT (x : Value) (p : Rat) (w : World) (hx : Nq w x p) : Calls Tryz.prog 86 #[x] w fun e w' => ∃ t : ByteArray, e = .returned (.string t) ∧ t.data.toList = gN p ∧ Q w w' := by
 obtain ⟨s1, A1, n1, c1, A2, n2, c2, rfl, E1, Z1, O1, hxt, hxb⟩ := hx.form;obtain ⟨w0, hW, hG0, hX0⟩ := kM w s1 (.slice A1 n1 c1) (.slice A2 n2 c2);have he0 : s1 = decide (p < 0) := E1.out.trans (decide_eq_decide.2 (bG p));by_cases hp : p < 0
 ·have k0 : s1 = true := he0.trans (decide_eq_true hp);have HS := Lib.hid (if_pos hp : gN p = [45]);subst k0;clear he0 hp;obtain ⟨x0, x1, x2⟩ := hX0.cells;go_enter Tryz.func86, Tryz.ntmps86
  go_wp2_with fail
  go_ret
  exact ⟨⟨#[45]⟩, rfl, HS.out.symm, hG0⟩
 ·have k0 : s1 = false := he0.trans (decide_eq_false hp);have HS := Lib.hid (if_neg hp : gN p = []);subst k0;clear he0 hp;obtain ⟨x0, x1, x2⟩ := hX0.cells;go_enter Tryz.func86, Tryz.ntmps86
  go_wp2_with fail
  go_ret
  exact ⟨⟨#[]⟩, rfl, HS.out.symm, hG0⟩
theorem mK (x : Value) (p : Rat) (w : World) (hx : Nq w x p) (hB : sz p ≤ 1000000000) : Calls Tryz.prog 13 #[x] w fun e w' => ∃ t : ByteArray, e = .returned (.string t) ∧ t.data.toList = bW p ∧ Q w w' := by
 obtain ⟨s1, A1, n1, c1, A2, n2, c2, rfl, E1, Z1, O1, hxt, hxb⟩ := hx.form;obtain ⟨w0, hW, hG0, hX0⟩ := kM w s1 (.slice A1 n1 c1) (.slice A2 n2 c2);have b1 : dg W64 p.num.natAbs ≤ 1000000000 := by have := fO p; omega
 have b2 : dg W64 (bt p.den) ≤ 1000000000 := by have := rP p; omega
 go_enter Tryz.func13, Tryz.ntmps13
 obtain ⟨x0, x1, x2⟩ := hX0.cells;go_wp2_with fail
 clear hW;clear x0 x1 x2;obtain ⟨x0, x1, x2⟩ := hX0.cells;refine wp_region_held_drew (S := fun W => W.cell? ⟨w.heap.size, 0, none⟩ = some (.bool s1) ∧ W.cell? ⟨w.heap.size, 1, none⟩ = some (.slice A1 n1 c1) ∧ W.cell? ⟨w.heap.size, 2, none⟩ = some (.slice A2 n2 c2)) (by kernel_rfl) (by exact ⟨x0, x1, x2⟩) (fun hHeld => ?_);refine wpAnyH_take (i := 0) (v := ?v0) rfl (by kernel_rfl) (by kernel_rfl) (by kernel_rfl) (fun _ _ _ h => h) (Or.inl ⟨by rfl, ?h0⟩) (by assumption) ?r0
 case h0 =>
  intro W hSw
  (try dsimp only at hSw)
  go_simp
  try (with_reducible rfl)
 try simp only [Act.put]
 try simp only [List.setIfInBounds_toArray]
 try simp only [List.set_cons_zero, List.set_cons_succ]
 refine wpAnyH_take (i := 2) (v := ?v2) rfl (by kernel_rfl) (by kernel_rfl) (by kernel_rfl) (fun _ _ _ h => h) (Or.inl ⟨by rfl, ?h2⟩) (by assumption) ?r2
 case h2 =>
  intro W hSw
  (try dsimp only at hSw)
  go_simp
  try (with_reducible rfl)
 try simp only [Act.put]
 try simp only [List.setIfInBounds_toArray]
 try simp only [List.set_cons_zero, List.set_cons_succ]
 refine wpAnyH_take (i := 3) (v := ?v3) rfl (by kernel_rfl) (by kernel_rfl) (by kernel_rfl) (fun _ _ _ h => h) (Or.inl ⟨by rfl, ?h3⟩) (by assumption) ?r3
 case h3 =>
  intro W hSw
  (try dsimp only at hSw)
  go_simp
  try (with_reducible rfl)
 try simp only [Act.put]
 try simp only [List.setIfInBounds_toArray]
 try simp only [List.set_cons_zero, List.set_cons_succ]
 refine wpAnyH_ready (rs := [1]) (by kernel_rfl) (by decide) (AllReadyH.cons rfl (fun K hK => ?_) AllReadyH.nil);go_simp
 (with_reducible refine (uT _ p _ (hx.q hG0.drew)).mono ?_)
 rintro e w1 ⟨ta, rfl, hta, hq1d⟩;have hq1 : Q w0 w1 := (Q.refl w0).drew.trans hq1d;have hG1 := hG0.trans hq1;have hX1 := hX0.q hq1;obtain ⟨x0, x1, x2⟩ := hX1.cells;have sa := wU hta;have HTA := Lib.hid hta;clear hta;go_wp2_with fail
 refine hK.out _ _ (by exact ⟨by assumption, by assumption, by assumption⟩) (fun hHeld => ?_);clear hK K;try simp only [Act.put]
 try simp only [List.setIfInBounds_toArray]
 try simp only [List.set_cons_zero, List.set_cons_succ]
 refine wpAnyH_ready (rs := [4]) (by kernel_rfl) (by decide) (AllReadyH.cons rfl (fun K hK => ?_) AllReadyH.nil);go_simp
 (with_reducible refine (oU _ p.num.natAbs _ (hxt.q hG1) b1).mono ?_)
 rintro e w2 ⟨tb, rfl, htb, hq2⟩;have hG2 := hG1.trans hq2;have hX2 := hX1.q hq2;obtain ⟨x0, x1, x2⟩ := hX2.cells;have sb := zN htb b1;have HTB := Lib.hid htb;clear htb;go_wp2_with fail
 refine hK.out _ _ (by exact ⟨by assumption, by assumption, by assumption⟩) (fun hHeld => ?_);clear hK K;try simp only [Act.put]
 try simp only [List.setIfInBounds_toArray]
 try simp only [List.set_cons_zero, List.set_cons_succ]
 refine wpAnyH_ready (rs := [5]) (by kernel_rfl) (by decide) (AllReadyH.cons rfl (fun K hK => ?_) AllReadyH.nil);go_simp
 rw [if_neg (by have := sa; have := sb; omega)];go_simp
 refine hK.out _ _ (by exact ⟨by assumption, by assumption, by assumption⟩) (fun hHeld => ?_);clear hK K;try simp only [Act.put]
 try simp only [List.setIfInBounds_toArray]
 try simp only [List.set_cons_zero, List.set_cons_succ]
 refine wpAnyH_take (i := 6) (v := ?v6) rfl (by kernel_rfl) (by kernel_rfl) (by kernel_rfl) (fun _ _ _ h => h) (Or.inl ⟨by rfl, ?h6⟩) (by assumption) ?r6
 case h6 =>
  intro W hSw
  (try dsimp only at hSw)
  go_simp
  try (with_reducible rfl)
 try simp only [Act.put]
 try simp only [List.setIfInBounds_toArray]
 try simp only [List.set_cons_zero, List.set_cons_succ]
 refine wpAnyH_done (by kernel_rfl) ?_ _;all_goals
  obtain ⟨x0, x1, x2⟩ := hX2.cells;go_wp2_with fail
  refine (iM _ p _ (hx.q hG2)).mono ?_;rintro e w3 ⟨rfl, hq3⟩;have hG3 := hG2.trans hq3;have hX3 := hX2.q hq3;clear x0 x1 x2;obtain ⟨x0, x1, x2⟩ := hX3.cells;by_cases hd : p.den = 1
  ·rw [decide_eq_true hd];have HD := Lib.hid hd; clear hd;go_wp2_with fail
   go_ret
   exact ⟨_, rfl, aCz HTA.out HTB.out HD.out, hG3⟩
  ·rw [decide_eq_false hd];have HD := Lib.hid hd; clear hd;go_wp2_with fail
   refine (oU _ (bt p.den) _ (hxb.q hG3) b2).mono ?_;rintro e w4 ⟨tc, rfl, htc, hq4⟩;have hG4 := hG3.trans hq4;have hX4 := hX3.q hq4;clear x0 x1 x2;have sc := zN htc b2; have HTC := Lib.hid htc; clear htc;go_wp2_with fail
   go_ret
   exact ⟨_, rfl, aCA HTA.out HTB.out HTC.out HD.out, hG4⟩
theorem nU (z : Int) (w : World) (hB : z.natAbs ≤ 1000000) : Calls Tryz.prog 97 #[.int .i64 z] w fun e w' => ∃ r, e = .returned r ∧ Nq w' r (aS z) ∧ Q w w' := by
 obtain ⟨w0, hW, hG0, hR0⟩ : ∃ W, w.alloc (.cells #[.bool false, .slice none 0 0, .slice none 0 0] 25) = W ∧ Q w W ∧ Nb W w.heap.size false (.slice none 0 0) (.slice none 0 0) := ⟨_, rfl, (Q.refl _).alloc _, Nb.new w _ _ _⟩
 by_cases hz0 : z < 0
 ·obtain ⟨k, hk⟩ : ∃ k : Nat, (-z).toNat = k := ⟨_, rfl⟩
  have hzk : z = -(k : Int) := (by omega);have hnz : -z = (k : Int) := (by omega);have hpw : aS z = aS (-(k : Int)) := (by rw [hzk]);rw [hpw];have b1 : k + 9 ≤ LIM := (by rw [aA]; omega);have b2 : -1000000 ≤ z := (by omega);obtain ⟨p1, p2⟩ := nN k;have HP1 := Lib.hid p1; have HP2 := Lib.hid p2; clear p1 p2 hpw hk hzk hB;go_enter Tryz.func97, Tryz.ntmps97
  go_wp2_with fail
  clear hW;refine (fB 1 1 _ rfl (by decide)).mono ?_;rintro e w1 ⟨t2, rfl, ht2, hq1, -⟩;have hG1 := hG0.trans hq1;have hR1 := hR0.q hq1;obtain ⟨A6, n6, c6, rfl⟩ := ht2.form;go_wp2_with fail
  refine (nS k _ _ rfl b1).mono ?_;rintro e w2 ⟨t3, rfl, ht3, hq2, -⟩;have hG2 := hG1.trans hq2;have hR2 := hR1.q hq2;have fz := hR2.frozen;obtain ⟨r0, r1, r2⟩ := hR2.cells;obtain ⟨A7, n7, c7, rfl⟩ := ht3.form;go_wp2_with fail
  refine (dW false _ _ 1 (10 ^ k) _ (ht2.q hq2) ht3).mono ?_;rintro e w3 ⟨v5, rfl, hv5, hq3⟩;have hG3 := hG2.trans hq3;have hR3 := hR2.q hq3;clear fz r0 r1 r2;have fz := hR3.frozen;obtain ⟨r0, r1, r2⟩ := hR3.cells;obtain ⟨B1, d1, B2, d2, rfl, -, -⟩ := hv5.form;have hv := Nq.made (q := aS (-(k : Int))) hv5 HP1.out (fun _ => HP2.out);generalize (decide (0 < 1) && false) = s4 at *
  generalize dg W64 (if 1 = 0 then 0 else bt (10 ^ k)) = m2 at *
  generalize dg W64 1 = m1 at *
  go_wp2_with fail
  obtain ⟨z0, z1, z2, hvF, hqF⟩ := Nq.store hR3 hv hG3 (Nat.le_refl _);unfold put3 at z0 z1 z2 hvF hqF;refine bodyPost_ret (v := .agg #[.bool s4, .slice B1 m1 d1, .slice B2 m2 d2]) (by simp [results, Tryz.results97, go_sem, z0, z1, z2]) rfl ?_;exact ⟨_, rfl, hvF, hqF⟩
 ·obtain ⟨k, rfl⟩ := Int.eq_ofNat_of_zero_le (show 0 ≤ z by omega);have b1 : k + 9 ≤ LIM := (by rw [aA]; omega);obtain ⟨p1, p2⟩ := nM k;have HP1 := Lib.hid p1; have HP2 := Lib.hid p2; clear p1 p2 hB;go_enter Tryz.func97, Tryz.ntmps97
  go_wp2_with fail
  clear hW;refine (nS k _ _ rfl b1).mono ?_;rintro e w1 ⟨t3, rfl, ht3, hq1, -⟩;have hG1 := hG0.trans hq1;have hR1 := hR0.q hq1;have fz := hR1.frozen;obtain ⟨r0, r1, r2⟩ := hR1.cells;obtain ⟨A7, n7, c7, rfl⟩ := ht3.form;go_wp2_with fail
  refine (fZ false _ (10 ^ k) _ ht3).mono ?_;rintro e w2 ⟨v5, rfl, hv5, hq2⟩;have hG2 := hG1.trans hq2;have hR2 := hR1.q hq2;clear fz r0 r1 r2;have fz := hR2.frozen;obtain ⟨r0, r1, r2⟩ := hR2.cells;obtain ⟨B1, d1, B2, d2, rfl, -, -⟩ := hv5.form;have hv := Nq.int (q := aS (k : Int)) hv5 HP1.out HP2.out;generalize (decide (0 < 10 ^ k) && false) = s4 at *
  generalize dg W64 (10 ^ k) = m1 at *
  generalize dg W64 0 = m2 at *
  go_wp2_with fail
  obtain ⟨z0, z1, z2, hvF, hqF⟩ := Nq.store hR2 hv hG2 (Nat.le_refl _);unfold put3 at z0 z1 z2 hvF hqF;refine bodyPost_ret (v := .agg #[.bool s4, .slice B1 m1 d1, .slice B2 m2 d2]) (by simp [results, Tryz.results97, go_sem, z0, z1, z2]) rfl ?_;exact ⟨_, rfl, hvF, hqF⟩
end Go.Proofs.YtgpacgadpnpjjaaGreatDoor
