/- ValueParses: for every string the law holds: what Check, Parse, Text and Digits return is what the document says. No condition.. Part of the proof: texts Kd2 Rb2. -/
import Derived.Deep.LoopGhost
import Derived.Lib.IndexBytes
import Derived.Test.YtgpacgadpnpjjaaGreatDoorQp01
import Derived.Test.YtgpacgadpnpjjaaGreatDoorQp02
import Derived.Test.YtgpacgadpnpjjaaGreatDoorQp03
import Derived.Test.YtgpacgadpnpjjaaGreatDoorQp19
import Derived.Test.YtgpacgadpnpjjaaGreatDoorQp20
import Derived.Test.YtgpacgadpnpjjaaGreatDoorQp22
import Derived.Test.YtgpacgadpnpjjaaGreatDoorQp23
set_option maxHeartbeats 8000000
namespace Go.Proofs.YtgpacgadpnpjjaaGreatDoor.K
open Go.RowKit
open Ma Me
theorem dD {w a : World} {g : Nat} {row : List Value} (hR : Bx w g 32 row) (hl : row.length = 3) (hQ : Q a w) (hg : a.heap.size ≤ g) : Bx (((w.setCell ⟨g, 0, none⟩ (.int .i64 0)).setCell ⟨g, 1, none⟩ (.slice none 0 0)).setCell ⟨g, 2, none⟩ (.slice none 0 0)) g 32 [.int .i64 0, .slice none 0 0, .slice none 0 0] ∧ Q a (((w.setCell ⟨g, 0, none⟩ (.int .i64 0)).setCell ⟨g, 1, none⟩ (.slice none 0 0)).setCell ⟨g, 2, none⟩ (.slice none 0 0)) :=
 ⟨hR.put (l := [.int .i64 0, .slice none 0 0, .slice none 0 0]) hl, lX (l := [.int .i64 0, .slice none 0 0, .slice none 0 0]) hQ hg⟩
theorem lF {f : List UInt8} (h : mP f = true) (hl : ¬ 1 < f.length ∨ f.head? ≠ some 48) : Row f := by
 obtain ⟨h1, h2⟩ := pF.1 h;refine ⟨h1, h2, fun h3 => ?_⟩;rcases hl with h4 | h4
 ·match f, h2, h3, h4 with
  | [c], _, h3, _ => simp at h3; rw [h3]
  | c :: d :: r, _, _, h4 => simp at h4
 ·exact absurd h3 h4
theorem aCM {f : List UInt8} (h : mP f = false) : ¬ Row f := fun hr => by
 rw [pF.2 ⟨hr.1, hr.2.1⟩] at h; cases h
theorem aA0 {f : List UInt8} (h1 : 1 < f.length) (h2 : f.head? = some 48) : ¬ Row f := fun hr => by
 rw [hr.2.2 h2] at h1; simp at h1
theorem zY {neg two : Bool} {f b : List UInt8} (h : ¬ Row f) : aH neg f b two = (6, 0) := if_pos (.inl h)
theorem nY {neg : Bool} {f b : List UInt8} (h : ¬ Row b ∨ b = [48] ∨ b = [49]) : aH neg f b true = (6, 0) := by
 unfold aH;split
 ·rfl
 ·rw [if_pos ⟨rfl, h⟩]
theorem wW {b : List UInt8} (h2 : b.head? = some 48) : ¬ Row b ∨ b = [48] ∨ b = [49] := by
 by_cases h : Row b
 ·exact .inr (.inl (h.2.2 h2))
 ·exact .inl h
theorem rV {s : ByteArray} {l : List UInt8} (h : s.data.toList = l) (hp : 0 < s.size) : l.head? = some (s[0]'hp) := by
 rw [List.head?_eq_getElem?, ← h]; exact byte_at hp
theorem zZ {neg : Bool} {n : Nat} {sg : Int} (h : (if neg then -1 else 1) = sg) : mkQ neg n 1 * ((1 : Nat) : Rat) = (sg : Rat) * (n : Rat) := by
 have h1 := (eH (neg := neg) (n := n) (d := 1) (by decide) (Nat.gcd_one_right n)).1;have h2 := (eH (neg := neg) (n := n) (d := 1) (by decide) (Nat.gcd_one_right n)).2;have h3 := rF (mkQ neg n 1);rw [h2] at h3;rw [← h3, h1, ← h];cases neg
 ·show (((n : Nat) : Int) : Rat) = ((1 : Int) : Rat) * (n : Rat)
  rw [Rat.intCast_natCast]; simp
 ·show ((-(n : Int) : Int) : Rat) = ((-1 : Int) : Rat) * (n : Rat)
  rw [Rat.intCast_neg, Rat.intCast_natCast];have e : ((-1 : Int) : Rat) = -1 := rfl;rw [e]; grind
theorem aA1 {neg : Bool} {n d : Nat} {sg : Int} (h : (if neg then -1 else 1) = sg) (hn : 0 < n) (hd : 0 < d) (hc : Nat.gcd n d = 1) : sg = sn (mkQ neg n d) ∧ (mkQ neg n d).num.natAbs = n ∧ (mkQ neg n d).den = d := by
 obtain ⟨h1, h2⟩ := eH (neg := neg) hd hc;refine ⟨?_, ?_, h2⟩
 ·rw [uF, h1, ← h];cases neg
  ·exact (Int.sign_eq_one_of_pos (show (0 : Int) < (n : Int) by omega)).symm
  ·exact (Int.sign_eq_neg_one_of_neg (show (-(n : Int)) < 0 by omega)).symm
 ·rw [h1]; cases neg <;> simp
theorem nZ {l : List UInt8} (h : Row l) (h0 : l ≠ [48]) : 0 < dv l := by
 rcases Nat.eq_zero_or_pos (dv l) with e | e
 ·have h1 := xV h;rw [e, lU] at h1;exact absurd h1.symm h0
 ·exact e
theorem pG {l : List UInt8} (h : aY l) (hl : ¬ 1000 < l.length) : 31 * dg B30 (dv l) + 80 ≤ LIM := by
 have h1 : dg B30 (dv l) ≤ l.length := eD aF (Nat.lt_of_lt_of_le (rD h) (Nat.pow_le_pow_left (by decide) _));rw [aA]; omega
set_option maxRecDepth 100000 in
theorem aEC (s : ByteArray) (w : World) (hs : s.size ≤ 9223372036854775806) :
  Calls Tryz.prog 10 #[.string s] w fun e w' => ∃ r, e = .returned (.tuple #[r, .int .i64 (aV s.data.toList).1]) ∧ Rq w' r (aV s.data.toList).2 ∧ Q w w' := by
 obtain ⟨W, hW, hG0, hR0⟩ := yR w 32 [.int .i64 0, .slice none 0 0, .slice none 0 0];obtain ⟨neg, hneg⟩ : ∃ neg, dG s.data.toList = neg := ⟨_, rfl⟩
 obtain ⟨two, htwo⟩ : ∃ two, decide (47 ∈ unsigned s.data.toList) = two := ⟨_, rfl⟩
 obtain ⟨f, hf⟩ : ∃ f, eG 47 (unsigned s.data.toList) = f := ⟨_, rfl⟩
 obtain ⟨b, hb⟩ : ∃ b, aft 47 (unsigned s.data.toList) = b := ⟨_, rfl⟩
 obtain ⟨sg, hsg⟩ : ∃ sg : Int, (if neg then -1 else 1) = sg := ⟨_, rfl⟩
 have hb2 : two = false → b = [] := fun h => by rw [← hb]; exact (qV (of_decide_eq_false (htwo.trans h))).2
 have hP : aV s.data.toList = aH neg f b two := by unfold aV; rw [hneg, htwo, hf, hb]
 have HP := Lib.hid hP; have HN := Lib.hid hneg; have HT2 := Lib.hid htwo; have HF := Lib.hid hf; have HBb := Lib.hid hb; have HB2 := Lib.hid hb2; have HSG := Lib.hid hsg;clear hP hneg htwo hf hb hb2 hsg;go_enter Tryz.func10, Tryz.ntmps10
 go_wp2_with fail
 clear hW;refine (aDL s sg _ (by rw [HN.out]; exact HSG.out) hs).mono ?_;rintro e w1 ⟨a, rfl, ha, hsz, hq1⟩;have hG1 := hG0.trans hq1; have hR1 := hR0.q hq1;clear hG0 hR0 hq1;have HA := Lib.hid ha; clear ha;go_wp2_with fail
 refine (aEB a 47 two _ (by rw [HA.out]; exact HT2.out) (by omega)).mono ?_;rintro e w2 ⟨fa, fb, rfl, hfa, hfb, hza, hzb, hq2⟩;have hG2 := hG1.trans hq2; have hR2 := hR1.q hq2;clear hG1 hR1 hq2;rw [HA.out] at hfa hfb;rw [HF.out] at hfa;rw [HBb.out] at hfb;have la : fa.size = f.length := by rw [← hfa, jT]
 have lb : fb.size = b.length := by rw [← hfb, jT]
 have ta : fa.toList = f := (ByteArray.toList_eq _).trans hfa;have tb : fb.toList = b := (ByteArray.toList_eq _).trans hfb;have HFA := Lib.hid hfa; have HFB := Lib.hid hfb; have LA := Lib.hid la; have LB := Lib.hid lb; have TA := Lib.hid ta; have TB := Lib.hid tb; clear hfa hfb la lb ta tb;have HSZ : Hid (fa.size ≤ 9223372036854775806 ∧ fb.size ≤ 9223372036854775806) := Lib.hid (by omega);clear hza hzb hsz;go_wp2_with fail
 refine (zX fa _ HSZ.out.1).mono ?_;rintro e w3 ⟨rfl, hq3⟩;have hG3 := hG2.trans hq3; have hR3 := hR2.q hq3;clear hG2 hR2 hq3;rw [HFA.out];by_cases hd : mP f = true
 ·rw [hd];have HDF := Lib.hid hd; clear hd;cases two
  ·by_cases hl1 : 1 < fa.size
   ·have h1 : (1 : Int) < (fa.size : Int) := (by omega);have hp0 : 0 < fa.size := (by omega);have hcc := rV HFA.out hp0;generalize hca : fa[0]'hp0 = ca at *
    by_cases hc1 : ca = 48
    ·subst hc1;have HH := Lib.hid (aA0 (by rw [← LA.out]; exact hl1) hcc); clear hcc hl1;have fz := hR3.frozen;have r0 := hR3.cell 0 rfl;have r1 := hR3.cell 1 rfl;have r2 := hR3.cell 2 rfl;go_wp2_with fail
     obtain ⟨hb9, hq9⟩ := dD hR3 rfl hG3 (Nat.le_refl _);have z0 := hb9.cell 0 rfl;have z1 := hb9.cell 1 rfl;have z2 := hb9.cell 2 rfl;refine bodyPost_ret (v := .tuple #[.agg #[.int .i64 0, .slice none 0 0, .slice none 0 0], .int .i64 6]) (by simp [results, Tryz.results10, go_sem, z0, z1, z2]) rfl ?_;rw [HP.out, (zY HH.out : aH _ _ _ _ = (6, 0))];exact ⟨_, rfl, Rq.none _, hq9⟩
    ·have hn1 : ¬ (ca.toNat : Int) = 48 := fun h => hc1 (UInt8.toNat_inj.1 (by have : (48 : UInt8).toNat = 48 := rfl; omega));have hn1b : ((ca.toNat : Int) == 48) = false := beq_eq_false_iff_ne.2 hn1;have HRW : Hid (Row f) := Lib.hid (lF HDF.out (.inr (by rw [hcc]; exact fun h => hc1 (Option.some.inj h))));clear hcc hc1;have HBN := Lib.hid (HB2.out rfl);have t1 : (fb.toList == [49]) = false := (by rw [TB.out, HBN.out]; rfl);have hz : ¬ f = [48] := fun h => (by have h9 := LA.out; rw [h] at h9; simp at h9; omega);have t0 : (fa.toList == [48]) = false := (by rw [TA.out]; exact beq_eq_false_iff_ne.2 hz);have HZ2 : Hid (f = [48] ∧ (neg = true ∨ false = true) → False) := Lib.hid (fun h => hz h.1);clear hz;by_cases hl1 : 1000 < f.length
     ·have hl2 : (1000 : Int) < (fa.size : Int) := (by rw [LA.out]; omega);have Hl1 := Lib.hid hl1; clear hl1;have fz := hR3.frozen;have r0 := hR3.cell 0 rfl;have r1 := hR3.cell 1 rfl;have r2 := hR3.cell 2 rfl;go_wp2_with fail
      obtain ⟨hb9, hq9⟩ := dD hR3 rfl hG3 (Nat.le_refl _);have z0 := hb9.cell 0 rfl;have z1 := hb9.cell 1 rfl;have z2 := hb9.cell 2 rfl;refine bodyPost_ret (v := .tuple #[.agg #[.int .i64 0, .slice none 0 0, .slice none 0 0], .int .i64 3]) (by simp [results, Tryz.results10, go_sem, z0, z1, z2]) rfl ?_;rw [HP.out, (jG (.inl Hl1.out) HRW.out HZ2.out (fun h => by cases h) : aH _ _ _ _ = (3, 0))];exact ⟨_, rfl, Rq.none _, hq9⟩
     ·have hl2 : ¬ (1000 : Int) < (fa.size : Int) := (by rw [LA.out]; omega);have Hl1 := Lib.hid hl1; clear hl1;have hl3 : ¬ (1000 : Int) < (fb.size : Int) := (by rw [LB.out, HBN.out]; decide);have Hl2 : Hid (¬ 1000 < b.length) := Lib.hid (by rw [HBN.out]; decide);go_wp2_with fail
      refine (iI fa _ (by rw [HFA.out]; exact HRW.out.1) (by have h8 := Hl1.out; have h9 := LA.out; rw [aA]; omega)).mono ?_;rintro e w4 ⟨va, rfl, hva, hq4, -⟩;have hG4 := hG3.trans hq4; have hR4 := hR3.q hq4;rw [HFA.out] at hva;go_wp2_with fail
      refine (xJ _).mono ?_;rintro e w5 ⟨vo, rfl, hvo, hq5, -⟩;have hG5 := hG4.trans hq5; have hR5 := hR4.q hq5;have hva2 := hva.q hq5;go_wp2_with fail
      refine (zU sg _ _ (dv f) 1 (mkQ neg (dv f) 1) _ hva2 hvo (fun _ => by decide) (by have h9 := HSG.out; cases neg <;> simp at h9 <;> omega) (zZ HSG.out) (fun h9 => by cases h9) (pG HRW.out.1 Hl1.out) (by rw [bZ aF, aA]; decide)).mono ?_;rintro e w6 ⟨v, rfl, hv, hq6⟩;have hG6 := hG5.trans hq6; have hR6 := hR5.q hq6;obtain ⟨A1, n1, c1, A2, n2, c2, rfl, -⟩ := (show Rq _ _ _ from hv)
      have fz := hR6.frozen;have r0 := hR6.cell 0 rfl;have r1 := hR6.cell 1 rfl;have r2 := hR6.cell 2 rfl;go_wp2_with fail
      obtain ⟨h71, h72, h73⟩ := hv.parts;have hb9 := hR6.put (l := [.int .i64 (sn (mkQ neg (dv f) 1)), .slice A1 n1 c1, .slice A2 n2 c2]) rfl;have hv9 := hv.ap (g := w.heap.size) (w' := gJ w6 w.heap.size 0 [.int .i64 (sn (mkQ neg (dv f) 1)), .slice A1 n1 c1, .slice A2 n2 c2]) ⟨fun k hk => jE hk, kK, _, _, hR6, by decide, iN⟩;have hq9 := lX (i := 0) (l := [.int .i64 (sn (mkQ neg (dv f) 1)), .slice A1 n1 c1, .slice A2 n2 c2]) hG6 (Nat.le_refl _);simp only [gJ, Nat.reduceAdd] at hb9 hv9 hq9;have z0 := hb9.cell 0 rfl;have z1 := hb9.cell 1 rfl;have z2 := hb9.cell 2 rfl;refine bodyPost_ret (v := .tuple #[.agg #[.int .i64 (sn (mkQ neg (dv f) 1)), .slice A1 n1 c1, .slice A2 n2 c2], .int .i64 0]) (by simp [results, Tryz.results10, go_sem, z0, z1, z2]) rfl ?_;rw [HP.out, (qQ HRW.out HZ2.out Hl1.out Hl2.out : aH _ _ _ _ = (0, _))];exact ⟨_, rfl, hv9, hq9⟩
   ·have h1 : ¬ (1 : Int) < (fa.size : Int) := (by omega);have HRW : Hid (Row f) := Lib.hid (lF HDF.out (.inl (by rw [← LA.out]; exact hl1)));have hsm : fa.size ≤ 1 := (by omega);clear hl1;have HBN := Lib.hid (HB2.out rfl);have t1 : (fb.toList == [49]) = false := (by rw [TB.out, HBN.out]; rfl);by_cases hz : f = [48]
    ·have t0 : (fa.toList == [48]) = true := (by rw [TA.out, hz]; rfl);cases neg
     ·have hs9 : ¬ sg < 0 := (by have h9 := HSG.out; simp at h9; omega);have HZ2 : Hid (f = [48] ∧ (false = true ∨ false = true) → False) := Lib.hid (fun h => by rcases h.2 with h | h <;> cases h);clear hz;have hl1 : ¬ 1000 < f.length := (by have h9 := LA.out; omega);have hl2 : ¬ (1000 : Int) < (fa.size : Int) := (by rw [LA.out]; omega);have Hl1 := Lib.hid hl1; clear hl1;have hl3 : ¬ (1000 : Int) < (fb.size : Int) := (by rw [LB.out, HBN.out]; decide);have Hl2 : Hid (¬ 1000 < b.length) := Lib.hid (by rw [HBN.out]; decide);go_wp2_with fail
      refine (iI fa _ (by rw [HFA.out]; exact HRW.out.1) (by have h8 := Hl1.out; have h9 := LA.out; rw [aA]; omega)).mono ?_;rintro e w4 ⟨va, rfl, hva, hq4, -⟩;have hG4 := hG3.trans hq4; have hR4 := hR3.q hq4;rw [HFA.out] at hva;go_wp2_with fail
      refine (xJ _).mono ?_;rintro e w5 ⟨vo, rfl, hvo, hq5, -⟩;have hG5 := hG4.trans hq5; have hR5 := hR4.q hq5;have hva2 := hva.q hq5;go_wp2_with fail
      refine (zU sg _ _ (dv f) 1 (mkQ false (dv f) 1) _ hva2 hvo (fun _ => by decide) (by have h9 := HSG.out; simp at h9; omega) (zZ HSG.out) (fun h9 => by cases h9) (pG HRW.out.1 Hl1.out) (by rw [bZ aF, aA]; decide)).mono ?_;rintro e w6 ⟨v, rfl, hv, hq6⟩;have hG6 := hG5.trans hq6; have hR6 := hR5.q hq6;obtain ⟨A1, n1, c1, A2, n2, c2, rfl, -⟩ := (show Rq _ _ _ from hv)
      have fz := hR6.frozen;have r0 := hR6.cell 0 rfl;have r1 := hR6.cell 1 rfl;have r2 := hR6.cell 2 rfl;go_wp2_with fail
      obtain ⟨h71, h72, h73⟩ := hv.parts;have hb9 := hR6.put (l := [.int .i64 (sn (mkQ false (dv f) 1)), .slice A1 n1 c1, .slice A2 n2 c2]) rfl;have hv9 := hv.ap (g := w.heap.size) (w' := gJ w6 w.heap.size 0 [.int .i64 (sn (mkQ false (dv f) 1)), .slice A1 n1 c1, .slice A2 n2 c2]) ⟨fun k hk => jE hk, kK, _, _, hR6, by decide, iN⟩;have hq9 := lX (i := 0) (l := [.int .i64 (sn (mkQ false (dv f) 1)), .slice A1 n1 c1, .slice A2 n2 c2]) hG6 (Nat.le_refl _);simp only [gJ, Nat.reduceAdd] at hb9 hv9 hq9;have z0 := hb9.cell 0 rfl;have z1 := hb9.cell 1 rfl;have z2 := hb9.cell 2 rfl;refine bodyPost_ret (v := .tuple #[.agg #[.int .i64 (sn (mkQ false (dv f) 1)), .slice A1 n1 c1, .slice A2 n2 c2], .int .i64 0]) (by simp [results, Tryz.results10, go_sem, z0, z1, z2]) rfl ?_;rw [HP.out, (qQ HRW.out HZ2.out Hl1.out Hl2.out : aH _ _ _ _ = (0, _))];exact ⟨_, rfl, hv9, hq9⟩
     ·have hs9 : sg < 0 := (by have h9 := HSG.out; simp at h9; omega);have HZ := Lib.hid hz; clear hz;have fz := hR3.frozen;have r0 := hR3.cell 0 rfl;have r1 := hR3.cell 1 rfl;have r2 := hR3.cell 2 rfl;go_wp2_with fail
      obtain ⟨hb9, hq9⟩ := dD hR3 rfl hG3 (Nat.le_refl _);have z0 := hb9.cell 0 rfl;have z1 := hb9.cell 1 rfl;have z2 := hb9.cell 2 rfl;refine bodyPost_ret (v := .tuple #[.agg #[.int .i64 0, .slice none 0 0, .slice none 0 0], .int .i64 6]) (by simp [results, Tryz.results10, go_sem, z0, z1, z2]) rfl ?_;rw [HP.out, (nV HRW.out HZ.out (.inl rfl) : aH _ _ _ _ = (6, 0))];exact ⟨_, rfl, Rq.none _, hq9⟩
    ·have t0 : (fa.toList == [48]) = false := (by rw [TA.out]; exact beq_eq_false_iff_ne.2 hz);have HZ2 : Hid (f = [48] ∧ (neg = true ∨ false = true) → False) := Lib.hid (fun h => hz h.1);clear hz;have hl1 : ¬ 1000 < f.length := (by have h9 := LA.out; omega);have hl2 : ¬ (1000 : Int) < (fa.size : Int) := (by rw [LA.out]; omega);have Hl1 := Lib.hid hl1; clear hl1;have hl3 : ¬ (1000 : Int) < (fb.size : Int) := (by rw [LB.out, HBN.out]; decide);have Hl2 : Hid (¬ 1000 < b.length) := Lib.hid (by rw [HBN.out]; decide);go_wp2_with fail
     refine (iI fa _ (by rw [HFA.out]; exact HRW.out.1) (by have h8 := Hl1.out; have h9 := LA.out; rw [aA]; omega)).mono ?_;rintro e w4 ⟨va, rfl, hva, hq4, -⟩;have hG4 := hG3.trans hq4; have hR4 := hR3.q hq4;rw [HFA.out] at hva;go_wp2_with fail
     refine (xJ _).mono ?_;rintro e w5 ⟨vo, rfl, hvo, hq5, -⟩;have hG5 := hG4.trans hq5; have hR5 := hR4.q hq5;have hva2 := hva.q hq5;go_wp2_with fail
     refine (zU sg _ _ (dv f) 1 (mkQ neg (dv f) 1) _ hva2 hvo (fun _ => by decide) (by have h9 := HSG.out; cases neg <;> simp at h9 <;> omega) (zZ HSG.out) (fun h9 => by cases h9) (pG HRW.out.1 Hl1.out) (by rw [bZ aF, aA]; decide)).mono ?_;rintro e w6 ⟨v, rfl, hv, hq6⟩;have hG6 := hG5.trans hq6; have hR6 := hR5.q hq6;obtain ⟨A1, n1, c1, A2, n2, c2, rfl, -⟩ := (show Rq _ _ _ from hv)
     have fz := hR6.frozen;have r0 := hR6.cell 0 rfl;have r1 := hR6.cell 1 rfl;have r2 := hR6.cell 2 rfl;go_wp2_with fail
     obtain ⟨h71, h72, h73⟩ := hv.parts;have hb9 := hR6.put (l := [.int .i64 (sn (mkQ neg (dv f) 1)), .slice A1 n1 c1, .slice A2 n2 c2]) rfl;have hv9 := hv.ap (g := w.heap.size) (w' := gJ w6 w.heap.size 0 [.int .i64 (sn (mkQ neg (dv f) 1)), .slice A1 n1 c1, .slice A2 n2 c2]) ⟨fun k hk => jE hk, kK, _, _, hR6, by decide, iN⟩;have hq9 := lX (i := 0) (l := [.int .i64 (sn (mkQ neg (dv f) 1)), .slice A1 n1 c1, .slice A2 n2 c2]) hG6 (Nat.le_refl _);simp only [gJ, Nat.reduceAdd] at hb9 hv9 hq9;have z0 := hb9.cell 0 rfl;have z1 := hb9.cell 1 rfl;have z2 := hb9.cell 2 rfl;refine bodyPost_ret (v := .tuple #[.agg #[.int .i64 (sn (mkQ neg (dv f) 1)), .slice A1 n1 c1, .slice A2 n2 c2], .int .i64 0]) (by simp [results, Tryz.results10, go_sem, z0, z1, z2]) rfl ?_;rw [HP.out, (qQ HRW.out HZ2.out Hl1.out Hl2.out : aH _ _ _ _ = (0, _))];exact ⟨_, rfl, hv9, hq9⟩
  ·go_wp2_with fail
   refine (zX fb _ HSZ.out.2).mono ?_;rintro e w4 ⟨rfl, hq4⟩;have hG4 := hG3.trans hq4; have hR4 := hR3.q hq4;clear hG3 hR3 hq4;rw [HFB.out];by_cases hd2 : mP b = true
   ·rw [hd2];have HDB := Lib.hid hd2; clear hd2;by_cases hl1 : 1 < fa.size
    ·have h1 : (1 : Int) < (fa.size : Int) := (by omega);have hp0 : 0 < fa.size := (by omega);have hcc := rV HFA.out hp0;generalize hca : fa[0]'hp0 = ca at *
     by_cases hc1 : ca = 48
     ·subst hc1;have HH := Lib.hid (aA0 (by rw [← LA.out]; exact hl1) hcc); clear hcc hl1;have fz := hR4.frozen;have r0 := hR4.cell 0 rfl;have r1 := hR4.cell 1 rfl;have r2 := hR4.cell 2 rfl;go_wp2_with fail
      obtain ⟨hb9, hq9⟩ := dD hR4 rfl hG4 (Nat.le_refl _);have z0 := hb9.cell 0 rfl;have z1 := hb9.cell 1 rfl;have z2 := hb9.cell 2 rfl;refine bodyPost_ret (v := .tuple #[.agg #[.int .i64 0, .slice none 0 0, .slice none 0 0], .int .i64 6]) (by simp [results, Tryz.results10, go_sem, z0, z1, z2]) rfl ?_;rw [HP.out, (zY HH.out : aH _ _ _ _ = (6, 0))];exact ⟨_, rfl, Rq.none _, hq9⟩
     ·have hn1 : ¬ (ca.toNat : Int) = 48 := fun h => hc1 (UInt8.toNat_inj.1 (by have : (48 : UInt8).toNat = 48 := rfl; omega));have hn1b : ((ca.toNat : Int) == 48) = false := beq_eq_false_iff_ne.2 hn1;have HRW : Hid (Row f) := Lib.hid (lF HDF.out (.inr (by rw [hcc]; exact fun h => hc1 (Option.some.inj h))));clear hcc hc1;have hpb : 0 < fb.size := by rw [LB.out]; have := (pF.1 HDB.out).2; rcases b with _ | ⟨x, y⟩ <;> simp at *
      have hbb := rV HFB.out hpb;generalize hcb : fb[0]'hpb = cb at *
      by_cases hc2 : cb = 48
      ·subst hc2;have HH := Lib.hid (wW hbb); clear hbb;have fz := hR4.frozen;have r0 := hR4.cell 0 rfl;have r1 := hR4.cell 1 rfl;have r2 := hR4.cell 2 rfl;go_wp2_with fail
       obtain ⟨hb9, hq9⟩ := dD hR4 rfl hG4 (Nat.le_refl _);have z0 := hb9.cell 0 rfl;have z1 := hb9.cell 1 rfl;have z2 := hb9.cell 2 rfl;refine bodyPost_ret (v := .tuple #[.agg #[.int .i64 0, .slice none 0 0, .slice none 0 0], .int .i64 6]) (by simp [results, Tryz.results10, go_sem, z0, z1, z2]) rfl ?_;rw [HP.out, (nY HH.out : aH _ _ _ _ = (6, 0))];exact ⟨_, rfl, Rq.none _, hq9⟩
      ·have hn2 : ¬ (cb.toNat : Int) = 48 := fun h => hc2 (UInt8.toNat_inj.1 (by have : (48 : UInt8).toNat = 48 := rfl; omega));have hn2b : ((cb.toNat : Int) == 48) = false := beq_eq_false_iff_ne.2 hn2;have HBH : Hid (b.head? ≠ some 48) := Lib.hid (by rw [hbb]; exact fun h => hc2 (Option.some.inj h));have HRB : Hid (Row b) := Lib.hid (lF HDB.out (.inr HBH.out));clear hbb hc2;have hz : ¬ f = [48] := fun h => (by have h9 := LA.out; rw [h] at h9; simp at h9; omega);have t0 : (fa.toList == [48]) = false := (by rw [TA.out]; exact beq_eq_false_iff_ne.2 hz);have HZ := Lib.hid hz; clear hz;by_cases h9 : b = [49]
       ·have t1 : (fb.toList == [49]) = true := (by rw [TB.out, h9]; rfl);have H9 := Lib.hid h9; clear h9;have fz := hR4.frozen;have r0 := hR4.cell 0 rfl;have r1 := hR4.cell 1 rfl;have r2 := hR4.cell 2 rfl;go_wp2_with fail
        obtain ⟨hb9, hq9⟩ := dD hR4 rfl hG4 (Nat.le_refl _);have z0 := hb9.cell 0 rfl;have z1 := hb9.cell 1 rfl;have z2 := hb9.cell 2 rfl;refine bodyPost_ret (v := .tuple #[.agg #[.int .i64 0, .slice none 0 0, .slice none 0 0], .int .i64 6]) (by simp [results, Tryz.results10, go_sem, z0, z1, z2]) rfl ?_;rw [HP.out, (nY (.inr (.inr H9.out)) : aH _ _ _ _ = (6, 0))];exact ⟨_, rfl, Rq.none _, hq9⟩
       ·have t1 : (fb.toList == [49]) = false := (by rw [TB.out]; exact beq_eq_false_iff_ne.2 h9);have HOK : Hid (¬ (¬ Row b ∨ b = [48] ∨ b = [49])) := Lib.hid (by rintro (h | h | h); exact h HRB.out; (rw [h] at HBH; exact HBH.out rfl); exact h9 h);clear h9;by_cases hl1 : 1000 < f.length
        ·have hl2 : (1000 : Int) < (fa.size : Int) := (by rw [LA.out]; omega);have Hl1 := Lib.hid hl1; clear hl1;have fz := hR4.frozen;have r0 := hR4.cell 0 rfl;have r1 := hR4.cell 1 rfl;have r2 := hR4.cell 2 rfl;go_wp2_with fail
         obtain ⟨hb9, hq9⟩ := dD hR4 rfl hG4 (Nat.le_refl _);have z0 := hb9.cell 0 rfl;have z1 := hb9.cell 1 rfl;have z2 := hb9.cell 2 rfl;refine bodyPost_ret (v := .tuple #[.agg #[.int .i64 0, .slice none 0 0, .slice none 0 0], .int .i64 3]) (by simp [results, Tryz.results10, go_sem, z0, z1, z2]) rfl ?_;rw [HP.out, (jG (.inl Hl1.out) HRW.out (fun h => HZ.out h.1) (fun _ => HOK.out) : aH _ _ _ _ = (3, 0))];exact ⟨_, rfl, Rq.none _, hq9⟩
        ·have hl2 : ¬ (1000 : Int) < (fa.size : Int) := (by rw [LA.out]; omega);have Hl1 := Lib.hid hl1; clear hl1;by_cases hl2 : 1000 < b.length
         ·have hl3 : (1000 : Int) < (fb.size : Int) := (by rw [LB.out]; omega);have Hl2 := Lib.hid hl2; clear hl2;have fz := hR4.frozen;have r0 := hR4.cell 0 rfl;have r1 := hR4.cell 1 rfl;have r2 := hR4.cell 2 rfl;go_wp2_with fail
          obtain ⟨hb9, hq9⟩ := dD hR4 rfl hG4 (Nat.le_refl _);have z0 := hb9.cell 0 rfl;have z1 := hb9.cell 1 rfl;have z2 := hb9.cell 2 rfl;refine bodyPost_ret (v := .tuple #[.agg #[.int .i64 0, .slice none 0 0, .slice none 0 0], .int .i64 3]) (by simp [results, Tryz.results10, go_sem, z0, z1, z2]) rfl ?_;rw [HP.out, (jG (.inr Hl2.out) HRW.out (fun h => HZ.out h.1) (fun _ => HOK.out) : aH _ _ _ _ = (3, 0))];exact ⟨_, rfl, Rq.none _, hq9⟩
         ·have hl3 : ¬ (1000 : Int) < (fb.size : Int) := (by rw [LB.out]; omega);have Hl2 := Lib.hid hl2; clear hl2;go_wp2_with fail
          refine (iI fa _ (by rw [HFA.out]; exact HRW.out.1) (by have h8 := Hl1.out; have h9 := LA.out; rw [aA]; omega)).mono ?_;rintro e w5 ⟨va, rfl, hva, hq5, -⟩;have hG5 := hG4.trans hq5; have hR5 := hR4.q hq5;rw [HFA.out] at hva;go_wp2_with fail
          refine (iI fb _ (by rw [HFB.out]; exact HRB.out.1) (by have h8 := Hl2.out; have h9 := LB.out; rw [aA]; omega)).mono ?_;rintro e w6 ⟨vb, rfl, hvb, hq6, -⟩;have hG6 := hG5.trans hq6; have hR6 := hR5.q hq6;rw [HFB.out] at hvb;have hva2 := hva.q hq6;go_wp2_with fail
          refine (qU _ _ (dv f) (dv b) _ hva2 hvb (nZ HRB.out (fun h => HOK.out (.inr (.inl h)))) (pG HRW.out.1 Hl1.out) (pG HRB.out.1 Hl2.out)).mono ?_;rintro e w7 ⟨vd, rfl, hvd, hq7⟩;have hG7 := hG6.trans hq7; have hR7 := hR6.q hq7;have hva3 := hva2.q hq7; have hvb3 := hvb.q hq7;by_cases hg : Nat.gcd (dv f) (dv b) = 1
          ·have d1 : decide (Nat.gcd (dv f) (dv b) = 1) = true := decide_eq_true hg;have HGC := Lib.hid hg; clear hg;go_wp2_with fail
           refine (gU _ (Nat.gcd (dv f) (dv b)) true _ hvd d1).mono ?_;rintro e w9 ⟨rfl, rfl⟩;obtain ⟨A1, n1, c1, rfl⟩ := Nr.form hva3;obtain ⟨A2, n2, c2, rfl⟩ := Nr.form hvb3;have fz := hR7.frozen;have r0 := hR7.cell 0 rfl;have r1 := hR7.cell 1 rfl;have r2 := hR7.cell 2 rfl;go_wp2_with fail
           obtain ⟨e1, e2, e3⟩ := aA1 HSG.out (nZ HRW.out HZ.out) (nZ HRB.out (fun h => HOK.out (.inr (.inl h)))) HGC.out;obtain ⟨hb9, hv9, hq9⟩ := jS hR7 rfl iN hva3 hvb3 e1 e2 e3 hG7 (Nat.le_refl _);have z0 := hb9.cell 0 rfl;have z1 := hb9.cell 1 rfl;have z2 := hb9.cell 2 rfl;refine bodyPost_ret (v := .tuple #[.agg #[.int .i64 sg, .slice A1 n1 c1, .slice A2 n2 c2], .int .i64 0]) (by simp [results, Tryz.results10, go_sem, z0, z1, z2]) rfl ?_;rw [HP.out, (vT HRW.out (fun h => HZ.out h.1) HOK.out Hl1.out Hl2.out HGC.out : aH _ _ _ _ = (0, _))];exact ⟨_, rfl, hv9, hq9⟩
          ·have d1 : decide (Nat.gcd (dv f) (dv b) = 1) = false := decide_eq_false hg;have HGC := Lib.hid hg; clear hg;go_wp2_with fail
           refine (gU _ (Nat.gcd (dv f) (dv b)) false _ hvd d1).mono ?_;rintro e w9 ⟨rfl, rfl⟩;have fz := hR7.frozen;have r0 := hR7.cell 0 rfl;have r1 := hR7.cell 1 rfl;have r2 := hR7.cell 2 rfl;go_wp2_with fail
           obtain ⟨hb9, hq9⟩ := dD hR7 rfl hG7 (Nat.le_refl _);have z0 := hb9.cell 0 rfl;have z1 := hb9.cell 1 rfl;have z2 := hb9.cell 2 rfl;refine bodyPost_ret (v := .tuple #[.agg #[.int .i64 0, .slice none 0 0, .slice none 0 0], .int .i64 6]) (by simp [results, Tryz.results10, go_sem, z0, z1, z2]) rfl ?_;rw [HP.out, (zQ HRW.out (fun h => HZ.out h.1) HOK.out Hl1.out Hl2.out HGC.out : aH _ _ _ _ = (6, 0))];exact ⟨_, rfl, Rq.none _, hq9⟩
    ·have h1 : ¬ (1 : Int) < (fa.size : Int) := (by omega);have HRW : Hid (Row f) := Lib.hid (lF HDF.out (.inl (by rw [← LA.out]; exact hl1)));have hsm : fa.size ≤ 1 := (by omega);clear hl1;have hpb : 0 < fb.size := by rw [LB.out]; have := (pF.1 HDB.out).2; rcases b with _ | ⟨x, y⟩ <;> simp at *
     have hbb := rV HFB.out hpb;generalize hcb : fb[0]'hpb = cb at *
     by_cases hc2 : cb = 48
     ·subst hc2;have HH := Lib.hid (wW hbb); clear hbb;have fz := hR4.frozen;have r0 := hR4.cell 0 rfl;have r1 := hR4.cell 1 rfl;have r2 := hR4.cell 2 rfl;go_wp2_with fail
      obtain ⟨hb9, hq9⟩ := dD hR4 rfl hG4 (Nat.le_refl _);have z0 := hb9.cell 0 rfl;have z1 := hb9.cell 1 rfl;have z2 := hb9.cell 2 rfl;refine bodyPost_ret (v := .tuple #[.agg #[.int .i64 0, .slice none 0 0, .slice none 0 0], .int .i64 6]) (by simp [results, Tryz.results10, go_sem, z0, z1, z2]) rfl ?_;rw [HP.out, (nY HH.out : aH _ _ _ _ = (6, 0))];exact ⟨_, rfl, Rq.none _, hq9⟩
     ·have hn2 : ¬ (cb.toNat : Int) = 48 := fun h => hc2 (UInt8.toNat_inj.1 (by have : (48 : UInt8).toNat = 48 := rfl; omega));have hn2b : ((cb.toNat : Int) == 48) = false := beq_eq_false_iff_ne.2 hn2;have HBH : Hid (b.head? ≠ some 48) := Lib.hid (by rw [hbb]; exact fun h => hc2 (Option.some.inj h));have HRB : Hid (Row b) := Lib.hid (lF HDB.out (.inr HBH.out));clear hbb hc2;by_cases hz : f = [48]
      ·have t0 : (fa.toList == [48]) = true := (by rw [TA.out, hz]; rfl);have HZ := Lib.hid hz; clear hz;cases neg
       ·have hs9 : ¬ sg < 0 := (by have h9 := HSG.out; simp at h9; omega);have fz := hR4.frozen;have r0 := hR4.cell 0 rfl;have r1 := hR4.cell 1 rfl;have r2 := hR4.cell 2 rfl;go_wp2_with fail
        obtain ⟨hb9, hq9⟩ := dD hR4 rfl hG4 (Nat.le_refl _);have z0 := hb9.cell 0 rfl;have z1 := hb9.cell 1 rfl;have z2 := hb9.cell 2 rfl;refine bodyPost_ret (v := .tuple #[.agg #[.int .i64 0, .slice none 0 0, .slice none 0 0], .int .i64 6]) (by simp [results, Tryz.results10, go_sem, z0, z1, z2]) rfl ?_;rw [HP.out, (nV HRW.out HZ.out (.inr rfl) : aH _ _ _ _ = (6, 0))];exact ⟨_, rfl, Rq.none _, hq9⟩
       ·have hs9 : sg < 0 := (by have h9 := HSG.out; simp at h9; omega);have fz := hR4.frozen;have r0 := hR4.cell 0 rfl;have r1 := hR4.cell 1 rfl;have r2 := hR4.cell 2 rfl;go_wp2_with fail
        obtain ⟨hb9, hq9⟩ := dD hR4 rfl hG4 (Nat.le_refl _);have z0 := hb9.cell 0 rfl;have z1 := hb9.cell 1 rfl;have z2 := hb9.cell 2 rfl;refine bodyPost_ret (v := .tuple #[.agg #[.int .i64 0, .slice none 0 0, .slice none 0 0], .int .i64 6]) (by simp [results, Tryz.results10, go_sem, z0, z1, z2]) rfl ?_;rw [HP.out, (nV HRW.out HZ.out (.inl rfl) : aH _ _ _ _ = (6, 0))];exact ⟨_, rfl, Rq.none _, hq9⟩
      ·have t0 : (fa.toList == [48]) = false := (by rw [TA.out]; exact beq_eq_false_iff_ne.2 hz);have HZ := Lib.hid hz; clear hz;by_cases h9 : b = [49]
       ·have t1 : (fb.toList == [49]) = true := (by rw [TB.out, h9]; rfl);have H9 := Lib.hid h9; clear h9;have fz := hR4.frozen;have r0 := hR4.cell 0 rfl;have r1 := hR4.cell 1 rfl;have r2 := hR4.cell 2 rfl;go_wp2_with fail
        obtain ⟨hb9, hq9⟩ := dD hR4 rfl hG4 (Nat.le_refl _);have z0 := hb9.cell 0 rfl;have z1 := hb9.cell 1 rfl;have z2 := hb9.cell 2 rfl;refine bodyPost_ret (v := .tuple #[.agg #[.int .i64 0, .slice none 0 0, .slice none 0 0], .int .i64 6]) (by simp [results, Tryz.results10, go_sem, z0, z1, z2]) rfl ?_;rw [HP.out, (nY (.inr (.inr H9.out)) : aH _ _ _ _ = (6, 0))];exact ⟨_, rfl, Rq.none _, hq9⟩
       ·have t1 : (fb.toList == [49]) = false := (by rw [TB.out]; exact beq_eq_false_iff_ne.2 h9);have HOK : Hid (¬ (¬ Row b ∨ b = [48] ∨ b = [49])) := Lib.hid (by rintro (h | h | h); exact h HRB.out; (rw [h] at HBH; exact HBH.out rfl); exact h9 h);clear h9;have hl1 : ¬ 1000 < f.length := (by have h9 := LA.out; omega);have hl2 : ¬ (1000 : Int) < (fa.size : Int) := (by rw [LA.out]; omega);have Hl1 := Lib.hid hl1; clear hl1;by_cases hl2 : 1000 < b.length
        ·have hl3 : (1000 : Int) < (fb.size : Int) := (by rw [LB.out]; omega);have Hl2 := Lib.hid hl2; clear hl2;have fz := hR4.frozen;have r0 := hR4.cell 0 rfl;have r1 := hR4.cell 1 rfl;have r2 := hR4.cell 2 rfl;go_wp2_with fail
         obtain ⟨hb9, hq9⟩ := dD hR4 rfl hG4 (Nat.le_refl _);have z0 := hb9.cell 0 rfl;have z1 := hb9.cell 1 rfl;have z2 := hb9.cell 2 rfl;refine bodyPost_ret (v := .tuple #[.agg #[.int .i64 0, .slice none 0 0, .slice none 0 0], .int .i64 3]) (by simp [results, Tryz.results10, go_sem, z0, z1, z2]) rfl ?_;rw [HP.out, (jG (.inr Hl2.out) HRW.out (fun h => HZ.out h.1) (fun _ => HOK.out) : aH _ _ _ _ = (3, 0))];exact ⟨_, rfl, Rq.none _, hq9⟩
        ·have hl3 : ¬ (1000 : Int) < (fb.size : Int) := (by rw [LB.out]; omega);have Hl2 := Lib.hid hl2; clear hl2;go_wp2_with fail
         refine (iI fa _ (by rw [HFA.out]; exact HRW.out.1) (by have h8 := Hl1.out; have h9 := LA.out; rw [aA]; omega)).mono ?_;rintro e w5 ⟨va, rfl, hva, hq5, -⟩;have hG5 := hG4.trans hq5; have hR5 := hR4.q hq5;rw [HFA.out] at hva;go_wp2_with fail
         refine (iI fb _ (by rw [HFB.out]; exact HRB.out.1) (by have h8 := Hl2.out; have h9 := LB.out; rw [aA]; omega)).mono ?_;rintro e w6 ⟨vb, rfl, hvb, hq6, -⟩;have hG6 := hG5.trans hq6; have hR6 := hR5.q hq6;rw [HFB.out] at hvb;have hva2 := hva.q hq6;go_wp2_with fail
         refine (qU _ _ (dv f) (dv b) _ hva2 hvb (nZ HRB.out (fun h => HOK.out (.inr (.inl h)))) (pG HRW.out.1 Hl1.out) (pG HRB.out.1 Hl2.out)).mono ?_;rintro e w7 ⟨vd, rfl, hvd, hq7⟩;have hG7 := hG6.trans hq7; have hR7 := hR6.q hq7;have hva3 := hva2.q hq7; have hvb3 := hvb.q hq7;by_cases hg : Nat.gcd (dv f) (dv b) = 1
         ·have d1 : decide (Nat.gcd (dv f) (dv b) = 1) = true := decide_eq_true hg;have HGC := Lib.hid hg; clear hg;go_wp2_with fail
          refine (gU _ (Nat.gcd (dv f) (dv b)) true _ hvd d1).mono ?_;rintro e w9 ⟨rfl, rfl⟩;obtain ⟨A1, n1, c1, rfl⟩ := Nr.form hva3;obtain ⟨A2, n2, c2, rfl⟩ := Nr.form hvb3;have fz := hR7.frozen;have r0 := hR7.cell 0 rfl;have r1 := hR7.cell 1 rfl;have r2 := hR7.cell 2 rfl;go_wp2_with fail
          obtain ⟨e1, e2, e3⟩ := aA1 HSG.out (nZ HRW.out HZ.out) (nZ HRB.out (fun h => HOK.out (.inr (.inl h)))) HGC.out;obtain ⟨hb9, hv9, hq9⟩ := jS hR7 rfl iN hva3 hvb3 e1 e2 e3 hG7 (Nat.le_refl _);have z0 := hb9.cell 0 rfl;have z1 := hb9.cell 1 rfl;have z2 := hb9.cell 2 rfl;refine bodyPost_ret (v := .tuple #[.agg #[.int .i64 sg, .slice A1 n1 c1, .slice A2 n2 c2], .int .i64 0]) (by simp [results, Tryz.results10, go_sem, z0, z1, z2]) rfl ?_;rw [HP.out, (vT HRW.out (fun h => HZ.out h.1) HOK.out Hl1.out Hl2.out HGC.out : aH _ _ _ _ = (0, _))];exact ⟨_, rfl, hv9, hq9⟩
         ·have d1 : decide (Nat.gcd (dv f) (dv b) = 1) = false := decide_eq_false hg;have HGC := Lib.hid hg; clear hg;go_wp2_with fail
          refine (gU _ (Nat.gcd (dv f) (dv b)) false _ hvd d1).mono ?_;rintro e w9 ⟨rfl, rfl⟩;have fz := hR7.frozen;have r0 := hR7.cell 0 rfl;have r1 := hR7.cell 1 rfl;have r2 := hR7.cell 2 rfl;go_wp2_with fail
          obtain ⟨hb9, hq9⟩ := dD hR7 rfl hG7 (Nat.le_refl _);have z0 := hb9.cell 0 rfl;have z1 := hb9.cell 1 rfl;have z2 := hb9.cell 2 rfl;refine bodyPost_ret (v := .tuple #[.agg #[.int .i64 0, .slice none 0 0, .slice none 0 0], .int .i64 6]) (by simp [results, Tryz.results10, go_sem, z0, z1, z2]) rfl ?_;rw [HP.out, (zQ HRW.out (fun h => HZ.out h.1) HOK.out Hl1.out Hl2.out HGC.out : aH _ _ _ _ = (6, 0))];exact ⟨_, rfl, Rq.none _, hq9⟩
   ·rw [Bool.not_eq_true] at hd2;rw [hd2];have HD2 := Lib.hid hd2; clear hd2;have fz := hR4.frozen;have r0 := hR4.cell 0 rfl;have r1 := hR4.cell 1 rfl;have r2 := hR4.cell 2 rfl;go_wp2_with fail
    obtain ⟨hb9, hq9⟩ := dD hR4 rfl hG4 (Nat.le_refl _);have z0 := hb9.cell 0 rfl;have z1 := hb9.cell 1 rfl;have z2 := hb9.cell 2 rfl;refine bodyPost_ret (v := .tuple #[.agg #[.int .i64 0, .slice none 0 0, .slice none 0 0], .int .i64 6]) (by simp [results, Tryz.results10, go_sem, z0, z1, z2]) rfl ?_;rw [HP.out, (nY (.inl (aCM HD2.out)) : aH _ _ _ _ = (6, 0))];exact ⟨_, rfl, Rq.none _, hq9⟩
 ·rw [Bool.not_eq_true] at hd;rw [hd];have HD := Lib.hid hd; clear hd;have fz := hR3.frozen;have r0 := hR3.cell 0 rfl;have r1 := hR3.cell 1 rfl;have r2 := hR3.cell 2 rfl;go_wp2_with fail
  obtain ⟨hb9, hq9⟩ := dD hR3 rfl hG3 (Nat.le_refl _);have z0 := hb9.cell 0 rfl;have z1 := hb9.cell 1 rfl;have z2 := hb9.cell 2 rfl;refine bodyPost_ret (v := .tuple #[.agg #[.int .i64 0, .slice none 0 0, .slice none 0 0], .int .i64 6]) (by simp [results, Tryz.results10, go_sem, z0, z1, z2]) rfl ?_;rw [HP.out, (zY (aCM HD.out) : aH _ _ _ _ = (6, 0))];exact ⟨_, rfl, Rq.none _, hq9⟩
end Go.Proofs.YtgpacgadpnpjjaaGreatDoor.K
namespace Go.Proofs.YtgpacgadpnpjjaaGreatDoor
open Go.RowKit
open Ma Me
theorem aCN (W : World) (E : Int) : (convert 155 9 (.slice (some ⟨W.heap.size, 0, none⟩) 1 1)).run Tryz.prog (W.alloc (.cells #[.int .u8 E] 5)) =
  .ok (.string (strOfNums [E])) (W.alloc (.cells #[.int .u8 E] 5)) := by
 refine run_convert_bytes_arg (P := Tryz.prog) _ 155 5 Tryz.underlying155 Tryz.underlying5 _ 0 1 1 [E] rfl ?_ 9 Tryz.underlying9;intro i hi;obtain rfl : i = 0 := by omega
 exact cO _ _ _
theorem aA2 (q : Nat) (p : ByteArray) (E : Int) (hE : E = ((48 + q : Nat) : Int)) : (strOfNums [E] ++ p).data.toList = dig q :: p.data.toList := by
 subst hE;rw [ByteArray.data_append, Array.toList_append, strOfNums_data];simp only [List.map_cons, List.map_nil, Int.toNat_natCast];rfl
theorem jI (E : Int) : (strOfNums [E]).size = 1 := by rw [strOfNums_size]; rfl
set_option maxRecDepth 100000 in
theorem kQ (x : Value) (N : Nat) (w : World) (hx : Nr w x N) (lN : dg B30 N + 1 ≤ LIM) :
  Calls Tryz.prog 90 #[x] w fun e w' => ∃ t : ByteArray, e = .returned (.string t) ∧ t.data.toList = dec N ∧ Q w w' := by
 obtain ⟨A, c, xs, rfl, hc, rx, wx, hv⟩ := hx;have hl := wx.len aF;rw [hv] at hl;rcases Nat.eq_zero_or_pos N with h0 | h0
 ·subst h0;rw [aQ] at hl;have h1 : ((xs.length : Int) == 0) = true := (by rw [hl]; rfl);clear hl;go_enter Tryz.func90, Tryz.ntmps90
  go_wp2_with fail
  go_ret
  exact ⟨_, rfl, by rw [bE (by decide)]; rfl, Q.refl _⟩
 ·have h1 : ((xs.length : Int) == 0) = false := by
   refine beq_eq_false_iff_ne.2 ?_;have : dg B30 N ≠ 0 := fun h => (by have := aW aF h; omega);omega
  rw [aA] at lN;have hL : xs.length + 1 ≤ 1099511627776 := (by omega);have hx0 : Nr w (.slice A xs.length c) N := ⟨A, c, xs, rfl, hc, rx, wx, hv⟩
  clear hl hv rx wx;go_enter Tryz.func90, Tryz.ntmps90
  go_wp2_with fail
  go_loopg [0, 3] N (fun gk av sv w1 => ∃ (t : ByteArray), sv = .string t ∧ t.size ≤ 10995116277760 ∧ Nr w1 av gk ∧ dg B30 gk + 1 ≤ 1099511627776 ∧ (0 < gk ∧ dec N = dec gk ++ t.data.toList ∨ gk = 0 ∧ dec N = t.data.toList) ∧ Q w w1)
  case atStart => exact ⟨ByteArray.empty, rfl, by simp, hx0, lN, Or.inl ⟨h0, by simp⟩, Q.refl _⟩
  case round =>
   obtain ⟨w1, rfl⟩ : ∃ w1 : World, w1 = wr := ⟨_, rfl⟩
   obtain ⟨t, rfl, hts, hav, hlg, hdec, hq⟩ := hrel;obtain ⟨A1, c1, ds, rfl, hc1, rd, wd, hvd⟩ := hav;have HV := Lib.hid hvd; clear hvd;have hl := wd.len aF;rw [HV.out] at hl;have HDEC := Lib.hid hdec; clear hdec;rcases Nat.eq_zero_or_pos gk with hg | hg
   ·have hd0 : ds.length ≤ 0 := (by rw [hl, hg, aQ]; exact Nat.le_refl _);clear hl;go_wp2_with fail
    go_ret
    refine ⟨_, rfl, ?_, hq⟩;rcases HDEC.out with ⟨h, _⟩ | ⟨_, h⟩
    ·omega
    ·exact h.symm
   ·have hd0 : 0 < ds.length := by
     have : dg B30 gk ≠ 0 := fun h => (by have := aW aF h; omega);omega
    have hmk := nW ds.length (ds.length : Int) rfl (by rw [aA]; omega);have hlm : ds.length ≤ 1099511627776 := (by omega);clear hl;go_wp2_with fail
    clear hmk
    go_loopw [5, 6] (fun rv iv w2 => ∃ (j r : Nat) (out : List Nat), j ≤ ds.length ∧ iv = .int .i64 ((j : Int) - 1) ∧ rv = .int .i64 (r : Int) ∧ r < 1000000000 ∧
     vl B30 (ds.drop j) = vl B30 (out.drop j) * 1000000000 + r ∧ out.length = ds.length ∧ (∀ d ∈ out, d < B30) ∧ Blk .i64 w2 w1.heap.size 2 out ∧ Q w1 w2) (fun _ iv _ => (intOf iv + 1).toNat)
    case atStart => exact ⟨ds.length, 0, List.replicate ds.length 0, by omega, rfl, rfl, by omega, by simp [vl], by simp, cZ (by decide), Blk.made _ _ _, (Q.refl _).alloc _⟩
    case round =>
     obtain ⟨j, r, out, hj, rfl, rfl, hr, hv, hlo, ho, hb, hq2⟩ := hrel;have HV2 := Lib.hid hv; clear hv;have HLO := Lib.hid hlo; clear hlo;by_cases hlt : 0 < j
     ·obtain ⟨i, rfl⟩ : ∃ i, j = i + 1 := ⟨j - 1, by omega⟩
      rw [show ((i + 1 : Nat) : Int) - 1 = (i : Int) from by omega];obtain ⟨ad, rfl, hbx, hcx⟩ := (rd.below hq2).at_ (k := i) (by omega);have bx : ds[i] < 1073741824 := wd.1 _ (List.getElem_mem _);have HD := Lib.hid (bS B30 (show i < ds.length by omega));generalize ds[i] = a at *
      have hcell := hb.cell (i := i) (by rw [HLO.out]; omega);have hfz := hb.frozen i;go_wp2_with fail
      refine ⟨⟨i, (r * B30 + a) % 1000000000, out.set i ((r * B30 + a) / 1000000000), by omega, rfl, congrArg (Value.int _) (by rw [aL]; omega), by omega, ?_, by rw [List.length_set, HLO.out],
       bY ho (by rw [aL]; omega), hb.put i _ (by rw [aL]; omega), hq2.setCell (Nat.le_refl _) _⟩, by simp [intOf]⟩
      rw [HD.out, HV2.out, bS B30 (ds := out.set i ((r * B30 + a) / 1000000000)) (j := i) (by rw [List.length_set, HLO.out]; omega), List.getElem_set_self, drop_set (by omega)];refine sK (V := 1000000000) ?_;rw [Nat.mul_comm B30 r, Nat.mul_comm]; omega
     ·obtain rfl : j = 0 := (by omega);rw [show ((0 : Nat) : Int) - 1 = -1 from by omega];go_wp2_with fail
      refine (kX _ _ (w1.heap.size + 1) _ _ _ HLO.out (Nat.le_refl _) (by omega) (hb.rd (Nat.lt_succ_self _))).mono ?_;rintro e w3 ⟨k3, hk3, rfl, hnz3, hv3, rfl⟩;have hfin := HV2.out;rw [List.drop_zero, List.drop_zero, HV.out] at hfin;have hqv : Nr wr (.slice (some ⟨w1.heap.size, 0, none⟩) k3 ds.length) (vl B30 out) :=
       Nn.of_blk hb hk3 (by rw [HLO.out] at hk3; exact hk3) hnz3 ho (hv3 _)
      have hk3' : k3 = dg B30 (vl B30 out) := by
       have h1 := Wf.len (b := B30) aF (xs := out.take k3) ⟨aI ho, hnz3⟩;rw [hv3, List.length_take, Nat.min_eq_left hk3] at h1;exact h1
      generalize vl B30 out = G at *
      have HK := Lib.hid hk3';have HF := Lib.hid hfin;clear hk3' hfin hv3 hnz3 hk3 hb;clear hd0;have hqq := hq.trans hq2;go_wp2_with fail
      rcases Nat.eq_zero_or_pos G with hG | hG
      ·have hk0 : k3 ≤ 0 := (by rw [HK.out, hG, aQ]; exact Nat.le_refl _);have hr0 : 0 < r := (by have := HF.out; rw [hG] at this; omega);have hrg : gk = r := (by have := HF.out; rw [hG] at this; omega);have HRG := Lib.hid hrg; have HGZ := Lib.hid hG; clear hrg hG;obtain ⟨wo, rfl⟩ : ∃ wo : World, wo = wr := ⟨_, rfl⟩
       go_loopw [5, 7, 8] (fun rv pv iv w4 => ∃ (i q : Nat) (p : ByteArray), i ≤ 9 ∧ iv = .int .i64 (i : Int) ∧ rv = .int .i64 (q : Int) ∧ pv = .string p ∧ q = r / 10 ^ i ∧ q < 1000000000 ∧ (0 < q ∧ dec r = dec q ++ p.data.toList ∨ q = 0 ∧ dec r = p.data.toList) ∧ p.size = i ∧ Q wo w4) (fun _ _ iv _ => 9 - (intOf iv).toNat)
       case atStart => exact ⟨0, r, ByteArray.empty, by omega, rfl, rfl, rfl, by simp, hr, Or.inl ⟨hr0, by simp⟩, rfl, Q.refl _⟩
       case round =>
        obtain ⟨i, q, p, hi, rfl, rfl, rfl, hq0, hq9, hp, hps, hq4⟩ := hrel;have HQ := Lib.hid hq0; have HP := Lib.hid hp; have HPS := Lib.hid hps; clear hq0 hp hps;have hq00 : 9 ≤ i → q = 0 := by
         intro h;obtain rfl : i = 9 := (by omega);rw [HQ.out]; exact Nat.div_eq_of_lt hr
        rcases Nat.eq_zero_or_pos q with hqz | hqz
        ·have hps9 : p.size ≤ 9 := (by rw [HPS.out]; exact hi);have hdr : dec r = p.data.toList := by
          rcases HP.out with ⟨h, _⟩ | ⟨_, h⟩
          ·omega
          ·exact h
         have hnew : dec N = (p ++ t).data.toList := by
          rw [ByteArray.data_append, Array.toList_append, ← hdr, ← HRG.out];rcases HDEC.out with ⟨_, h⟩ | ⟨h, _⟩
          ·exact h
          ·omega
         have hsz : (p ++ t).size ≤ 10995116277760 := by
          have h1 := congrArg List.length hnew;rw [dU, if_neg (by omega)] at h1;have h3 : (p ++ t).data.toList.length = (p ++ t).size := (by rw [Array.length_toList]; rfl);have h2 : dg 10 N ≤ 10 * dg B30 N := by
           refine eD (by decide) ?_;rw [Nat.pow_mul];exact Nat.lt_of_lt_of_le (aM aF N) (Nat.pow_le_pow_left (by decide) _)
          omega
         have hG4 : Nr wr (.slice (some ⟨w1.heap.size, 0, none⟩) k3 ds.length) 0 := by
          have := hqv.q hq4
          rwa [HGZ.out] at this
         have HN := Lib.hid hnew; clear hnew hdr hq00;subst hqz;by_cases h9 : i < 9;all_goals
          go_wp2_with fail
          go_roundg 0
          case measure => exact hg
          case rel => exact ⟨p ++ t, rfl, hsz, hG4, by rw [aQ]; omega, Or.inr ⟨rfl, HN.out⟩, hqq.trans hq4⟩
        ·have h9 : i < 9 := by
          rcases Nat.lt_or_ge i 9 with h | h
          ·exact h
          ·have := hq00 h; omega
         clear hq00;have hcv := aCN;have hs1 : (strOfNums [48 + (q : Int) % 10]).size ≤ 1 := Nat.le_of_eq (jI _);have hps9 : p.size ≤ 9 := (by rw [HPS.out]; exact hi);have hdg := aA2 (q % 10) p (48 + (q : Int) % 10) (by omega);have hq2' : q / 10 = r / 10 ^ (i + 1) := (by rw [HQ.out, Nat.pow_succ, Nat.div_div_eq_div_mul]);have hdr : dec r = dec q ++ p.data.toList := by
          rcases HP.out with ⟨_, h⟩ | ⟨h, _⟩
          ·exact h
          ·omega
         have hstep : 0 < q / 10 ∧ dec r = dec (q / 10) ++ (dig (q % 10) :: p.data.toList) ∨ q / 10 = 0 ∧ dec r = dig (q % 10) :: p.data.toList := by
          rcases Nat.lt_or_ge q 10 with h | h
          ·refine Or.inr ⟨by omega, ?_⟩;rw [hdr, bE h, Nat.mod_eq_of_lt h]; rfl
          ·refine Or.inl ⟨by omega, ?_⟩;rw [hdr, iA h, List.append_assoc]; rfl
         rw [← hdg] at hstep;have HST := Lib.hid hstep; have HQ2 := Lib.hid hq2'; clear hdg hq2' hstep hdr;go_wp2_with fail
         refine ⟨⟨i + 1, q / 10, strOfNums [48 + (q : Int) % 10] ++ p, by omega, by go_num, congrArg (Value.int _) (by omega), rfl, HQ2.out, by omega, HST.out, ?_, hq4.alloc _⟩, by simp [intOf]; omega⟩;rw [ByteArray.size_append, jI, HPS.out]; omega
      ·have hk0 : 0 < k3 := by
        rw [HK.out];rcases Nat.eq_zero_or_pos (dg B30 G) with h | h
        ·have := aW aF h; omega
        ·exact h
       obtain ⟨wo, rfl⟩ : ∃ wo : World, wo = wr := ⟨_, rfl⟩
       go_loopw [5, 7, 8] (fun rv pv iv w4 => ∃ (i q : Nat) (p : ByteArray), i ≤ 9 ∧ iv = .int .i64 (i : Int) ∧ rv = .int .i64 (q : Int) ∧ pv = .string p ∧ q = r / 10 ^ i ∧ q < 1000000000 ∧ p.data.toList = pd i r ∧ p.size = i ∧ Q wo w4) (fun _ _ iv _ => 9 - (intOf iv).toNat)
       case atStart => exact ⟨0, r, ByteArray.empty, by omega, rfl, rfl, rfl, by simp, hr, rfl, rfl, Q.refl _⟩
       case round =>
        obtain ⟨i, q, p, hi, rfl, rfl, rfl, hq0, hq9, hp, hps, hq4⟩ := hrel;have HQ := Lib.hid hq0; have HP := Lib.hid hp; have HPS := Lib.hid hps; clear hq0 hp hps;by_cases h9 : i < 9
        ·have hcv := aCN;have hs1 : (strOfNums [48 + (q : Int) % 10]).size ≤ 1 := Nat.le_of_eq (jI _);have hps9 : p.size ≤ 9 := (by rw [HPS.out]; exact hi);have hdg := aA2 (q % 10) p (48 + (q : Int) % 10) (by omega);have hq2' : q / 10 = r / 10 ^ (i + 1) := (by rw [HQ.out, Nat.pow_succ, Nat.div_div_eq_div_mul]);have HDG := Lib.hid hdg; have HQ2 := Lib.hid hq2'; clear hdg hq2';go_wp2_with fail
         refine ⟨⟨i + 1, q / 10, strOfNums [48 + (q : Int) % 10] ++ p, by omega, by go_num, congrArg (Value.int _) (by omega), rfl, HQ2.out, by omega, ?_, ?_, hq4.alloc _⟩, by simp [intOf]; omega⟩
         ·rw [HDG.out, HP.out, pd_succ', HQ.out]
         ·rw [ByteArray.size_append, jI, HPS.out]; omega
        ·obtain rfl : i = 9 := (by omega);have hps9 : p.size ≤ 9 := (by rw [HPS.out]; exact Nat.le_refl _);have hnew : dec N = dec G ++ (p ++ t).data.toList := by
          rw [ByteArray.data_append, Array.toList_append, HP.out, ← List.append_assoc, ← tZ hG 9 r hr, show G * 10 ^ 9 + r = gk from HF.out.symm];rcases HDEC.out with ⟨_, h⟩ | ⟨h, _⟩
          ·exact h
          ·omega
         have hsz : (p ++ t).size ≤ 10995116277760 := by
          have h1 := congrArg List.length hnew;rw [List.length_append, dU, if_neg (by omega)] at h1;have h3 : (p ++ t).data.toList.length = (p ++ t).size := (by rw [Array.length_toList]; rfl);have h2 : dg 10 N ≤ 10 * dg B30 N := by
           refine eD (by decide) ?_;rw [Nat.pow_mul];exact Nat.lt_of_lt_of_le (aM aF N) (Nat.pow_le_pow_left (by decide) _)
          omega
         have hGk : G < gk := (by have := HF.out; omega);have hlG : dg B30 G + 1 ≤ 1099511627776 := (by have := aR aF (Nat.le_of_lt hGk); omega);have HN := Lib.hid hnew; clear hnew;go_wp2_with fail
         go_roundg G
         case measure => exact hGk
         case rel => exact ⟨p ++ t, rfl, hsz, hqv.q hq4, hlG, Or.inl ⟨hG, HN.out⟩, hqq.trans hq4⟩
end Go.Proofs.YtgpacgadpnpjjaaGreatDoor
