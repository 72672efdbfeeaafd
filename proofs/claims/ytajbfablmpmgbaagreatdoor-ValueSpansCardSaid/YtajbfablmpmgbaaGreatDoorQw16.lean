/- ValueSpans: spans of numbers. No condition. -/
import Derived.Test.YtajbfablmpmgbaaGreatDoorQw15
set_option maxHeartbeats 8000000
set_option maxRecDepth 100000
namespace Go.Proofs.YtajbfablmpmgbaaGreatDoor
open Go.RowKit
open Ma Me
theorem kE (s : ByteArray) (w : World) (hd : bW s.data.toList) (hs : s.size + 80 ≤ LIM) :
  Calls Tryz.prog 95 #[.string s] w (nD (dv s.data.toList) w) := by
 rw [aC] at hs;obtain ⟨L, hL⟩ : ∃ L, L = s.data.toList := ⟨_, rfl⟩
 have hLs : L.length = s.size := by rw [hL, Array.length_toList]; rfl
 rw [← hL] at hd ⊢;have HL := yW hL;have HLs := yW hLs; clear hL hLs;go_enter Tryz.func95, Tryz.ntmps95
 go_wp2_with fail
 go_loopw [0, 3] (fun sv ov w1 => ∃ (t : ByteArray) (k : Nat), sv = .string t ∧ k ≤ s.size ∧ t.data.toList = L.drop k ∧ t.size = s.size - k ∧ Nr w1 ov (dv (L.take k)) ∧ Q w w1 ∧ Nw w.heap.size ov) (fun sv _ _ => match sv with | .string t => t.size | _ => 0)
 case atStart => exact ⟨s, 0, rfl, by omega, by rw [HL.out]; rfl, by omega, Nn.zero _ _, Q.refl _, Nw.nil⟩
 case round =>
  obtain ⟨t, k, rfl, hk, ht, hts, hov, hq, hnw⟩ := hrel;have HT := yW ht;have HTS := yW hts;clear ht hts;have hts2 : t.size ≤ 1099511627776 := (by have := HTS.out; omega);rcases Nat.eq_zero_or_pos t.size with h0 | h0
  ·go_wp2_with fail
   go_ret
   have e : k = s.size := (by have := HTS.out; omega);rw [List.take_of_length_le (by rw [HLs.out]; omega)] at hov;exact ⟨_, rfl, hov, hq, hnw⟩
  ·obtain ⟨n, hn⟩ : ∃ n, n = min t.size 9 := ⟨_, rfl⟩
   have hn1 : n ≤ 9 := (by omega);have hn2 : n ≤ t.size := (by omega);have hn3 : 0 < n := (by omega);have hcase : t.size < 9 ∧ t.size ≤ n ∨ 9 ≤ t.size ∧ t.size ≤ 9 ∧ 9 ≤ n ∨ 9 < t.size ∧ 9 ≤ n := (by omega);clear hn;have HD : bW (t.data.toList) := (by rw [HT.out]; exact hd.drop k);have HTL : t.data.toList.length = t.size := (by rw [Array.length_toList]; rfl);have HTL := yW HTL;rcases hcase with ⟨h9, h9a⟩ | ⟨h9, h9b, h9a⟩ | ⟨h9, h9a⟩
   all_goals
    go_wp2_with fail
    obtain ⟨wo, rfl⟩ : ∃ wo : World, wo = wr := ⟨_, rfl⟩
    go_loop [5, 6, 7] (fun pv fv iv => ∃ (i p f : Nat), i ≤ n ∧ iv = .int .i64 (i : Int) ∧ pv = .int .i64 (p : Int) ∧ fv = .int .i64 (f : Int) ∧ p = dv (t.data.toList.take i) ∧ f = 10 ^ i ∧ p < f ∧ f ≤ 1000000000) (fun _ _ iv => n - (intOf iv).toNat)
    case atStart => exact ⟨0, 0, 1, by omega, rfl, rfl, rfl, rfl, rfl, by omega, by omega⟩
    case round =>
     obtain ⟨i, p, f, hi, rfl, rfl, rfl, hp, hf, hpf, hf9⟩ := hrel;have HP := yW hp; have HF := yW hf; clear hp hf;by_cases hlt : i < n
     ·have hit : i < t.size := (by omega);have hc := HD (t[i]) (by rw [show t[i] = t.data.toList[i]'(by rw [HTL.out]; exact hit) from by simp; rfl]; exact List.getElem_mem _);have hei : t.data.toList[i]'(by rw [HTL.out]; exact hit) = t[i] := (by simp; rfl);have hp2 : 10 * p + (t[i].toNat - 48) = dv (t.data.toList.take (i + 1)) := by
       rw [uR (by rw [HTL.out]; exact hit), hei, ← HP.out]
      have hf2 : 10 * f = 10 ^ (i + 1) := (by rw [Nat.pow_succ, ← HF.out, Nat.mul_comm]);have hf3 : 10 ^ (i + 1) ≤ 10 ^ 9 := Nat.pow_le_pow_right (by decide) (by omega);have hf4 : 10 * f ≤ 1000000000 := (by rw [hf2]; exact hf3);have HP2 := yW hp2; have HF2 := yW hf2;clear hp2 hf2 hf3 hei;go_wp2_with fail
      exact ⟨⟨i + 1, 10 * p + (t[i].toNat - 48), 10 * f, by omega, by go_num, congrArg (Value.int _) (by omega), congrArg (Value.int _) (by omega), HP2.out, HF2.out, by omega, hf4⟩, by simp [intOf]; omega⟩
     ·obtain rfl : i = n := (by omega);have lval : dg B30 (dv (L.take k)) + 1 ≤ LIM := by
       have h1 : dg B30 (dv (L.take k)) ≤ (L.take k).length := by
        refine fT aJ (Nat.lt_of_lt_of_le (vW (hd.take k)) (Nat.pow_le_pow_left (by decide) _))
       rw [List.length_take, HLs.out] at h1;rw [aC]; omega
      have lf : dg B30 f ≤ 1 := fT aJ (by rw [Nat.pow_one, aO]; omega);have lp : dg B30 p ≤ 1 := fT aJ (by rw [Nat.pow_one, aO]; omega);have lmul := cO aJ (dv (L.take k)) f;have lks : dg B30 (dv (L.take k)) + 10 ≤ LIM := by
       have h1 : dg B30 (dv (L.take k)) ≤ (L.take k).length := by
        refine fT aJ (Nat.lt_of_lt_of_le (vW (hd.take k)) (Nat.pow_le_pow_left (by decide) _))
       rw [List.length_take, HLs.out] at h1;rw [aC]; omega
      have hval : dv (L.take k) * f + p = dv (L.take (k + i)) := by
       rw [List.take_add, aEz, ← HT.out, ← HP.out, HF.out, List.length_take, HTL.out, Nat.min_eq_left hn2]
      have HV := yW hval; clear hval;go_wp2_with fail
      refine (wL _ f _ rfl (by omega)).mono ?_;rintro e w2 ⟨vf, rfl, hvf, hq2, -⟩;go_wp2_with fail
      refine (iH _ _ _ f _ (hov.q hq2) hvf (by omega)).mono ?_;rintro e w3 ⟨vt, rfl, hvt, hq3, -⟩;go_wp2_with fail
      refine (wL _ p _ rfl (by omega)).mono ?_;rintro e w4 ⟨vp, rfl, hvp, hq4, -⟩;go_wp2_with fail
      refine (pV _ _ _ p _ (hvt.q hq4) hvp (by omega) (by omega)).mono ?_;rintro e w5 ⟨vs, rfl, hvs, hq5, hnw5⟩;have hqq := ((hq2.trans hq3).trans hq4).trans hq5;have hnw6 : Nw w.heap.size vs := hnw5.more (by have := hq.size; have := hq2.size; have := hq3.size; have := hq4.size; omega);rw [HV.out] at hvs;clear lmul hvt hvp hvf;have hkk : k + i ≤ s.size := (by have := HTS.out; omega);go_wp2_with fail
      first
      | (refine ⟨⟨ByteArray.empty, k + i, rfl, hkk, ?_, ?_, hvs, hq.trans hqq, hnw6⟩, ?_⟩
         ·rw [List.drop_of_length_le (by rw [HLs.out]; have := HTS.out; omega)]; rfl
         ·have := HTS.out; show 0 = _; omega
         ·show 0 < t.size; omega)
      | (refine ⟨⟨t.extract 9 t.size, k + i, rfl, hkk, ?_, ?_, hvs, hq.trans hqq, hnw6⟩, ?_⟩
         ·obtain rfl : i = 9 := (by omega);rw [Lib.extract_to_end, HT.out, List.drop_drop]
         ·have := HTS.out; rw [ByteArray.size_extract]; omega
         ·show (t.extract 9 t.size).size < t.size;rw [ByteArray.size_extract]; omega)
      | (have hmin : (min (t.size : Int) 9).toNat = i := by omega
         refine ⟨⟨t.extract (min (t.size : Int) 9).toNat t.size, k + i, rfl, hkk, ?_, ?_, hvs, hq.trans hqq, hnw6⟩, ?_⟩
         ·rw [hmin, Lib.extract_to_end, HT.out, List.drop_drop]
         ·have := HTS.out; rw [hmin, ByteArray.size_extract]; omega
         ·show (t.extract (min (t.size : Int) 9).toNat t.size).size < t.size;rw [hmin, ByteArray.size_extract]; omega)
end Go.Proofs.YtajbfablmpmgbaaGreatDoor
namespace Go.Proofs.YtajbfablmpmgbaaGreatDoor.K
open Go.RowKit
open Ma Me
theorem eH {w a : World} {g : Nat} {row : List Value} (hR : Bx w g 33 row) (hl : row.length = 3) (hQ : Q a w) (hg : a.heap.size ≤ g) : Bx (((w.setCell ⟨g, 0, none⟩ (.int .i64 0)).setCell ⟨g, 1, none⟩ (.slice none 0 0)).setCell ⟨g, 2, none⟩ (.slice none 0 0)) g 33 [.int .i64 0, .slice none 0 0, .slice none 0 0] ∧ Q a (((w.setCell ⟨g, 0, none⟩ (.int .i64 0)).setCell ⟨g, 1, none⟩ (.slice none 0 0)).setCell ⟨g, 2, none⟩ (.slice none 0 0)) :=
 ⟨hR.put (l := [.int .i64 0, .slice none 0 0, .slice none 0 0]) hl, lX (l := [.int .i64 0, .slice none 0 0, .slice none 0 0]) hQ hg⟩
theorem oM {f : List UInt8} (h : pY f = true) (hl : ¬ 1 < f.length ∨ f.head? ≠ some 48) : Row f := by
 obtain ⟨h1, h2⟩ := uE.1 h;refine ⟨h1, h2, fun h3 => ?_⟩;rcases hl with h4 | h4
 ·match f, h2, h3, h4 with
  | [c], _, h3, _ => simp at h3; rw [h3]
  | c :: d :: r, _, _, h4 => simp at h4
 ·exact absurd h3 h4
theorem aFu {f : List UInt8} (h : pY f = false) : ¬ Row f := fun hr => by
 rw [uE.2 ⟨hr.1, hr.2.1⟩] at h; cases h
theorem aDp {f : List UInt8} (h1 : 1 < f.length) (h2 : f.head? = some 48) : ¬ Row f := fun hr => by
 rw [hr.2.2 h2] at h1; simp at h1
theorem aCo {neg two : Bool} {f b : List UInt8} (h : ¬ Row f) : aK neg f b two = (6, 0) := if_pos (.inl h)
theorem sK {neg : Bool} {f b : List UInt8} (h : ¬ Row b ∨ b = [48] ∨ b = [49]) : aK neg f b true = (6, 0) := by
 unfold aK;split
 ·rfl
 ·rw [if_pos ⟨rfl, h⟩]
theorem aAX {b : List UInt8} (h2 : b.head? = some 48) : ¬ Row b ∨ b = [48] ∨ b = [49] := by
 by_cases h : Row b
 ·exact .inr (.inl (h.2.2 h2))
 ·exact .inl h
theorem wP {s : ByteArray} {l : List UInt8} (h : s.data.toList = l) (hp : 0 < s.size) : l.head? = some (s[0]'hp) := by
 rw [List.head?_eq_getElem?, ← h]; exact byte_at hp
theorem aCp {neg : Bool} {n : Nat} {sg : Int} (h : (if neg then -1 else 1) = sg) : mkQ neg n 1 * ((1 : Nat) : Rat) = (sg : Rat) * (n : Rat) := by
 have h1 := (fV (neg := neg) (n := n) (d := 1) (by decide) (Nat.gcd_one_right n)).1;have h2 := (fV (neg := neg) (n := n) (d := 1) (by decide) (Nat.gcd_one_right n)).2;have h3 := mJ (mkQ neg n 1);rw [h2] at h3;rw [← h3, h1, ← h];cases neg
 ·show (((n : Nat) : Int) : Rat) = ((1 : Int) : Rat) * (n : Rat)
  rw [Rat.intCast_natCast]; simp
 ·show ((-(n : Int) : Int) : Rat) = ((-1 : Int) : Rat) * (n : Rat)
  rw [Rat.intCast_neg, Rat.intCast_natCast];have e : ((-1 : Int) : Rat) = -1 := rfl;rw [e]; grind
theorem aDq {neg : Bool} {n d : Nat} {sg : Int} (h : (if neg then -1 else 1) = sg) (hn : 0 < n) (hd : 0 < d) (hc : Nat.gcd n d = 1) : sg = sn (mkQ neg n d) ∧ (mkQ neg n d).num.natAbs = n ∧ (mkQ neg n d).den = d := by
 obtain ⟨h1, h2⟩ := fV (neg := neg) hd hc;refine ⟨?_, ?_, h2⟩
 ·rw [oZ, h1, ← h];cases neg
  ·exact (Int.sign_eq_one_of_pos (show (0 : Int) < (n : Int) by omega)).symm
  ·exact (Int.sign_eq_neg_one_of_neg (show (-(n : Int)) < 0 by omega)).symm
 ·rw [h1]; cases neg <;> simp
theorem sO {l : List UInt8} (h : Row l) (h0 : l ≠ [48]) : 0 < dv l := by
 rcases Nat.eq_zero_or_pos (dv l) with e | e
 ·have h1 := aBx h;rw [e, tL] at h1;exact absurd h1.symm h0
 ·exact e
theorem uF {l : List UInt8} (h : bW l) (hl : ¬ 1000 < l.length) : 31 * dg B30 (dv l) + 80 ≤ LIM := by
 have h1 : dg B30 (dv l) ≤ l.length := fT aJ (Nat.lt_of_lt_of_le (vW h) (Nat.pow_le_pow_left (by decide) _));rw [aC]; omega
theorem aAv (s : ByteArray) (w : World) (hs : s.size ≤ 9223372036854775806) :
  Calls Tryz.prog 41 #[.string s] w fun e w' => ∃ r, e = .returned (.tuple #[r, .int .i64 (aH s.data.toList).1]) ∧ Rq w' r (aH s.data.toList).2 ∧ Q w w' := by
 obtain ⟨W, hW, hG0, hR0⟩ := tT w 33 [.int .i64 0, .slice none 0 0, .slice none 0 0];obtain ⟨neg, hneg⟩ : ∃ neg, eX s.data.toList = neg := ⟨_, rfl⟩
 obtain ⟨two, htwo⟩ : ∃ two, decide (47 ∈ unsigned s.data.toList) = two := ⟨_, rfl⟩
 obtain ⟨f, hf⟩ : ∃ f, fU 47 (unsigned s.data.toList) = f := ⟨_, rfl⟩
 obtain ⟨b, hb⟩ : ∃ b, aft 47 (unsigned s.data.toList) = b := ⟨_, rfl⟩
 obtain ⟨sg, hsg⟩ : ∃ sg : Int, (if neg then -1 else 1) = sg := ⟨_, rfl⟩
 have hb2 : two = false → b = [] := fun h => by rw [← hb]; exact (vQ (of_decide_eq_false (htwo.trans h))).2
 have hP : aH s.data.toList = aK neg f b two := by unfold aH; rw [hneg, htwo, hf, hb]
 have HP := yW hP; have HN := yW hneg; have HT2 := yW htwo; have HF := yW hf; have HBb := yW hb; have HB2 := yW hb2; have HSG := yW hsg;clear hP hneg htwo hf hb hb2 hsg;go_enter Tryz.func41, Tryz.ntmps41
 go_wp2_with fail
 clear hW;refine (aGE s sg _ (by rw [HN.out]; exact HSG.out) hs).mono ?_;rintro e w1 ⟨a, rfl, ha, hsz, hq1⟩;have hG1 := hG0.trans hq1; have hR1 := hR0.q hq1;clear hG0 hR0 hq1;have HA := yW ha; clear ha;go_wp2_with fail
 refine (aHK a 47 two _ (by rw [HA.out]; exact HT2.out) (by omega)).mono ?_;rintro e w2 ⟨fa, fb, rfl, hfa, hfb, hza, hzb, hq2⟩;have hG2 := hG1.trans hq2; have hR2 := hR1.q hq2;clear hG1 hR1 hq2;rw [HA.out] at hfa hfb;rw [HF.out] at hfa;rw [HBb.out] at hfb;have la : fa.size = f.length := by rw [← hfa, mX]
 have lb : fb.size = b.length := by rw [← hfb, mX]
 have ta : fa.toList = f := (ByteArray.toList_eq _).trans hfa;have tb : fb.toList = b := (ByteArray.toList_eq _).trans hfb;have HFA := yW hfa; have HFB := yW hfb; have LA := yW la; have LB := yW lb; have TA := yW ta; have TB := yW tb; clear hfa hfb la lb ta tb;have HSZ : Hid (fa.size ≤ 9223372036854775806 ∧ fb.size ≤ 9223372036854775806) := yW (by omega);clear hza hzb hsz;go_wp2_with fail
 refine (aCn fa _ HSZ.out.1).mono ?_;rintro e w3 ⟨rfl, hq3⟩;have hG3 := hG2.trans hq3; have hR3 := hR2.q hq3;clear hG2 hR2 hq3;rw [HFA.out];by_cases hd : pY f = true
 ·rw [hd];have HDF := yW hd; clear hd;cases two
  ·by_cases hl1 : 1 < fa.size
   ·have h1 : (1 : Int) < (fa.size : Int) := (by omega);have hp0 : 0 < fa.size := (by omega);have hcc := wP HFA.out hp0;generalize hca : fa[0]'hp0 = ca at *
    by_cases hc1 : ca = 48
    ·subst hc1;have HH := yW (aDp (by rw [← LA.out]; exact hl1) hcc); clear hcc hl1;have fz := hR3.frozen;have r0 := hR3.cell 0 rfl;have r1 := hR3.cell 1 rfl;have r2 := hR3.cell 2 rfl;go_wp2_with fail
     obtain ⟨hb9, hq9⟩ := eH hR3 rfl hG3 (Nat.le_refl _);have z0 := hb9.cell 0 rfl;have z1 := hb9.cell 1 rfl;have z2 := hb9.cell 2 rfl;refine rt3 (.int .i64 6) z0 z1 z2 ?_;rw [HP.out, (aCo HH.out : aK _ _ _ _ = (6, 0))];exact ⟨_, rfl, Rq.none _, hq9⟩
    ·have hn1 : ¬ (ca.toNat : Int) = 48 := fun h => hc1 (UInt8.toNat_inj.1 (by have : (48 : UInt8).toNat = 48 := rfl; omega));have hn1b : ((ca.toNat : Int) == 48) = false := beq_eq_false_iff_ne.2 hn1;have HRW : Hid (Row f) := yW (oM HDF.out (.inr (by rw [hcc]; exact fun h => hc1 (Option.some.inj h))));clear hcc hc1;have HBN := yW (HB2.out rfl);have t1 : (fb.toList == [49]) = false := (by rw [TB.out, HBN.out]; rfl);have hz : ¬ f = [48] := fun h => (by have h9 := LA.out; rw [h] at h9; simp at h9; omega);have t0 : (fa.toList == [48]) = false := (by rw [TA.out]; exact beq_eq_false_iff_ne.2 hz);have HZ2 : Hid (f = [48] ∧ (neg = true ∨ false = true) → False) := yW (fun h => hz h.1);clear hz;by_cases hl1 : 1000 < f.length
     ·have hl2 : (1000 : Int) < (fa.size : Int) := (by rw [LA.out]; omega);have Hl1 := yW hl1; clear hl1;have fz := hR3.frozen;have r0 := hR3.cell 0 rfl;have r1 := hR3.cell 1 rfl;have r2 := hR3.cell 2 rfl;go_wp2_with fail
      obtain ⟨hb9, hq9⟩ := eH hR3 rfl hG3 (Nat.le_refl _);have z0 := hb9.cell 0 rfl;have z1 := hb9.cell 1 rfl;have z2 := hb9.cell 2 rfl;refine rt3 (.int .i64 3) z0 z1 z2 ?_;rw [HP.out, (lS (.inl Hl1.out) HRW.out HZ2.out (fun h => by cases h) : aK _ _ _ _ = (3, 0))];exact ⟨_, rfl, Rq.none _, hq9⟩
     ·have hl2 : ¬ (1000 : Int) < (fa.size : Int) := (by rw [LA.out]; omega);have Hl1 := yW hl1; clear hl1;have hl3 : ¬ (1000 : Int) < (fb.size : Int) := (by rw [LB.out, HBN.out]; decide);have Hl2 : Hid (¬ 1000 < b.length) := yW (by rw [HBN.out]; decide);go_wp2_with fail
      refine (kE fa _ (by rw [HFA.out]; exact HRW.out.1) (by have h8 := Hl1.out; have h9 := LA.out; rw [aC]; omega)).mono ?_;rintro e w4 ⟨va, rfl, hva, hq4, -⟩;have hG4 := hG3.trans hq4; have hR4 := hR3.q hq4;rw [HFA.out] at hva;go_wp2_with fail
      refine (oG _).mono ?_;rintro e w5 ⟨vo, rfl, hvo, hq5, -⟩;have hG5 := hG4.trans hq5; have hR5 := hR4.q hq5;have hva2 := hva.q hq5;go_wp2_with fail
      refine (eG sg _ _ (dv f) 1 (mkQ neg (dv f) 1) _ hva2 hvo (fun _ => by decide) (by have h9 := HSG.out; cases neg <;> simp at h9 <;> omega) (aCp HSG.out) (fun h9 => by cases h9) (uF HRW.out.1 Hl1.out) (by rw [dF aJ, aC]; decide)).mono ?_;rintro e w6 ⟨v, rfl, hv, hq6⟩;have hG6 := hG5.trans hq6; have hR6 := hR5.q hq6;obtain ⟨A1, n1, c1, A2, n2, c2, rfl, -⟩ := (show Rq _ _ _ from hv)
      have fz := hR6.frozen;have r0 := hR6.cell 0 rfl;have r1 := hR6.cell 1 rfl;have r2 := hR6.cell 2 rfl;go_wp2_with fail
      obtain ⟨h71, h72, h73⟩ := hv.parts;have hb9 := hR6.put (l := [.int .i64 (sn (mkQ neg (dv f) 1)), .slice A1 n1 c1, .slice A2 n2 c2]) rfl;have hv9 := hv.ap (g := w.heap.size) (w' := gF w6 w.heap.size 0 [.int .i64 (sn (mkQ neg (dv f) 1)), .slice A1 n1 c1, .slice A2 n2 c2]) ⟨fun k hk => jD hk, jW, _, _, hR6, by decide, iX, fun _ => Nat.le_refl 3⟩;have hq9 := lX (i := 0) (l := [.int .i64 (sn (mkQ neg (dv f) 1)), .slice A1 n1 c1, .slice A2 n2 c2]) hG6 (Nat.le_refl _);simp only [gF, Nat.reduceAdd] at hb9 hv9 hq9;have z0 := hb9.cell 0 rfl;have z1 := hb9.cell 1 rfl;have z2 := hb9.cell 2 rfl;refine rt3 (.int .i64 0) z0 z1 z2 ?_;rw [HP.out, (vP HRW.out HZ2.out Hl1.out Hl2.out : aK _ _ _ _ = (0, _))];exact ⟨_, rfl, hv9, hq9⟩
   ·have h1 : ¬ (1 : Int) < (fa.size : Int) := (by omega);have HRW : Hid (Row f) := yW (oM HDF.out (.inl (by rw [← LA.out]; exact hl1)));have hsm : fa.size ≤ 1 := (by omega);clear hl1;have HBN := yW (HB2.out rfl);have t1 : (fb.toList == [49]) = false := (by rw [TB.out, HBN.out]; rfl);by_cases hz : f = [48]
    ·have t0 : (fa.toList == [48]) = true := (by rw [TA.out, hz]; rfl);cases neg
     ·have hs9 : ¬ sg < 0 := (by have h9 := HSG.out; simp at h9; omega);have HZ2 : Hid (f = [48] ∧ (false = true ∨ false = true) → False) := yW (fun h => by rcases h.2 with h | h <;> cases h);clear hz;have hl1 : ¬ 1000 < f.length := (by have h9 := LA.out; omega);have hl2 : ¬ (1000 : Int) < (fa.size : Int) := (by rw [LA.out]; omega);have Hl1 := yW hl1; clear hl1;have hl3 : ¬ (1000 : Int) < (fb.size : Int) := (by rw [LB.out, HBN.out]; decide);have Hl2 : Hid (¬ 1000 < b.length) := yW (by rw [HBN.out]; decide);go_wp2_with fail
      refine (kE fa _ (by rw [HFA.out]; exact HRW.out.1) (by have h8 := Hl1.out; have h9 := LA.out; rw [aC]; omega)).mono ?_;rintro e w4 ⟨va, rfl, hva, hq4, -⟩;have hG4 := hG3.trans hq4; have hR4 := hR3.q hq4;rw [HFA.out] at hva;go_wp2_with fail
      refine (oG _).mono ?_;rintro e w5 ⟨vo, rfl, hvo, hq5, -⟩;have hG5 := hG4.trans hq5; have hR5 := hR4.q hq5;have hva2 := hva.q hq5;go_wp2_with fail
      refine (eG sg _ _ (dv f) 1 (mkQ false (dv f) 1) _ hva2 hvo (fun _ => by decide) (by have h9 := HSG.out; simp at h9; omega) (aCp HSG.out) (fun h9 => by cases h9) (uF HRW.out.1 Hl1.out) (by rw [dF aJ, aC]; decide)).mono ?_;rintro e w6 ⟨v, rfl, hv, hq6⟩;have hG6 := hG5.trans hq6; have hR6 := hR5.q hq6;obtain ⟨A1, n1, c1, A2, n2, c2, rfl, -⟩ := (show Rq _ _ _ from hv)
      have fz := hR6.frozen;have r0 := hR6.cell 0 rfl;have r1 := hR6.cell 1 rfl;have r2 := hR6.cell 2 rfl;go_wp2_with fail
      obtain ⟨h71, h72, h73⟩ := hv.parts;have hb9 := hR6.put (l := [.int .i64 (sn (mkQ false (dv f) 1)), .slice A1 n1 c1, .slice A2 n2 c2]) rfl;have hv9 := hv.ap (g := w.heap.size) (w' := gF w6 w.heap.size 0 [.int .i64 (sn (mkQ false (dv f) 1)), .slice A1 n1 c1, .slice A2 n2 c2]) ⟨fun k hk => jD hk, jW, _, _, hR6, by decide, iX, fun _ => Nat.le_refl 3⟩;have hq9 := lX (i := 0) (l := [.int .i64 (sn (mkQ false (dv f) 1)), .slice A1 n1 c1, .slice A2 n2 c2]) hG6 (Nat.le_refl _);simp only [gF, Nat.reduceAdd] at hb9 hv9 hq9;have z0 := hb9.cell 0 rfl;have z1 := hb9.cell 1 rfl;have z2 := hb9.cell 2 rfl;refine rt3 (.int .i64 0) z0 z1 z2 ?_;rw [HP.out, (vP HRW.out HZ2.out Hl1.out Hl2.out : aK _ _ _ _ = (0, _))];exact ⟨_, rfl, hv9, hq9⟩
     ·have hs9 : sg < 0 := (by have h9 := HSG.out; simp at h9; omega);have HZ := yW hz; clear hz;have fz := hR3.frozen;have r0 := hR3.cell 0 rfl;have r1 := hR3.cell 1 rfl;have r2 := hR3.cell 2 rfl;go_wp2_with fail
      obtain ⟨hb9, hq9⟩ := eH hR3 rfl hG3 (Nat.le_refl _);have z0 := hb9.cell 0 rfl;have z1 := hb9.cell 1 rfl;have z2 := hb9.cell 2 rfl;refine rt3 (.int .i64 6) z0 z1 z2 ?_;rw [HP.out, (sJ HRW.out HZ.out (.inl rfl) : aK _ _ _ _ = (6, 0))];exact ⟨_, rfl, Rq.none _, hq9⟩
    ·have t0 : (fa.toList == [48]) = false := (by rw [TA.out]; exact beq_eq_false_iff_ne.2 hz);have HZ2 : Hid (f = [48] ∧ (neg = true ∨ false = true) → False) := yW (fun h => hz h.1);clear hz;have hl1 : ¬ 1000 < f.length := (by have h9 := LA.out; omega);have hl2 : ¬ (1000 : Int) < (fa.size : Int) := (by rw [LA.out]; omega);have Hl1 := yW hl1; clear hl1;have hl3 : ¬ (1000 : Int) < (fb.size : Int) := (by rw [LB.out, HBN.out]; decide);have Hl2 : Hid (¬ 1000 < b.length) := yW (by rw [HBN.out]; decide);go_wp2_with fail
     refine (kE fa _ (by rw [HFA.out]; exact HRW.out.1) (by have h8 := Hl1.out; have h9 := LA.out; rw [aC]; omega)).mono ?_;rintro e w4 ⟨va, rfl, hva, hq4, -⟩;have hG4 := hG3.trans hq4; have hR4 := hR3.q hq4;rw [HFA.out] at hva;go_wp2_with fail
     refine (oG _).mono ?_;rintro e w5 ⟨vo, rfl, hvo, hq5, -⟩;have hG5 := hG4.trans hq5; have hR5 := hR4.q hq5;have hva2 := hva.q hq5;go_wp2_with fail
     refine (eG sg _ _ (dv f) 1 (mkQ neg (dv f) 1) _ hva2 hvo (fun _ => by decide) (by have h9 := HSG.out; cases neg <;> simp at h9 <;> omega) (aCp HSG.out) (fun h9 => by cases h9) (uF HRW.out.1 Hl1.out) (by rw [dF aJ, aC]; decide)).mono ?_;rintro e w6 ⟨v, rfl, hv, hq6⟩;have hG6 := hG5.trans hq6; have hR6 := hR5.q hq6;obtain ⟨A1, n1, c1, A2, n2, c2, rfl, -⟩ := (show Rq _ _ _ from hv)
     have fz := hR6.frozen;have r0 := hR6.cell 0 rfl;have r1 := hR6.cell 1 rfl;have r2 := hR6.cell 2 rfl;go_wp2_with fail
     obtain ⟨h71, h72, h73⟩ := hv.parts;have hb9 := hR6.put (l := [.int .i64 (sn (mkQ neg (dv f) 1)), .slice A1 n1 c1, .slice A2 n2 c2]) rfl;have hv9 := hv.ap (g := w.heap.size) (w' := gF w6 w.heap.size 0 [.int .i64 (sn (mkQ neg (dv f) 1)), .slice A1 n1 c1, .slice A2 n2 c2]) ⟨fun k hk => jD hk, jW, _, _, hR6, by decide, iX, fun _ => Nat.le_refl 3⟩;have hq9 := lX (i := 0) (l := [.int .i64 (sn (mkQ neg (dv f) 1)), .slice A1 n1 c1, .slice A2 n2 c2]) hG6 (Nat.le_refl _);simp only [gF, Nat.reduceAdd] at hb9 hv9 hq9;have z0 := hb9.cell 0 rfl;have z1 := hb9.cell 1 rfl;have z2 := hb9.cell 2 rfl;refine rt3 (.int .i64 0) z0 z1 z2 ?_;rw [HP.out, (vP HRW.out HZ2.out Hl1.out Hl2.out : aK _ _ _ _ = (0, _))];exact ⟨_, rfl, hv9, hq9⟩
  ·go_wp2_with fail
   refine (aCn fb _ HSZ.out.2).mono ?_;rintro e w4 ⟨rfl, hq4⟩;have hG4 := hG3.trans hq4; have hR4 := hR3.q hq4;clear hG3 hR3 hq4;rw [HFB.out];by_cases hd2 : pY b = true
   ·rw [hd2];have HDB := yW hd2; clear hd2;by_cases hl1 : 1 < fa.size
    ·have h1 : (1 : Int) < (fa.size : Int) := (by omega);have hp0 : 0 < fa.size := (by omega);have hcc := wP HFA.out hp0;generalize hca : fa[0]'hp0 = ca at *
     by_cases hc1 : ca = 48
     ·subst hc1;have HH := yW (aDp (by rw [← LA.out]; exact hl1) hcc); clear hcc hl1;have fz := hR4.frozen;have r0 := hR4.cell 0 rfl;have r1 := hR4.cell 1 rfl;have r2 := hR4.cell 2 rfl;go_wp2_with fail
      obtain ⟨hb9, hq9⟩ := eH hR4 rfl hG4 (Nat.le_refl _);have z0 := hb9.cell 0 rfl;have z1 := hb9.cell 1 rfl;have z2 := hb9.cell 2 rfl;refine rt3 (.int .i64 6) z0 z1 z2 ?_;rw [HP.out, (aCo HH.out : aK _ _ _ _ = (6, 0))];exact ⟨_, rfl, Rq.none _, hq9⟩
     ·have hn1 : ¬ (ca.toNat : Int) = 48 := fun h => hc1 (UInt8.toNat_inj.1 (by have : (48 : UInt8).toNat = 48 := rfl; omega));have hn1b : ((ca.toNat : Int) == 48) = false := beq_eq_false_iff_ne.2 hn1;have HRW : Hid (Row f) := yW (oM HDF.out (.inr (by rw [hcc]; exact fun h => hc1 (Option.some.inj h))));clear hcc hc1;have hpb : 0 < fb.size := by rw [LB.out]; have := (uE.1 HDB.out).2; rcases b with _ | ⟨x, y⟩ <;> simp at *
      have hbb := wP HFB.out hpb;generalize hcb : fb[0]'hpb = cb at *
      by_cases hc2 : cb = 48
      ·subst hc2;have HH := yW (aAX hbb); clear hbb;have fz := hR4.frozen;have r0 := hR4.cell 0 rfl;have r1 := hR4.cell 1 rfl;have r2 := hR4.cell 2 rfl;go_wp2_with fail
       obtain ⟨hb9, hq9⟩ := eH hR4 rfl hG4 (Nat.le_refl _);have z0 := hb9.cell 0 rfl;have z1 := hb9.cell 1 rfl;have z2 := hb9.cell 2 rfl;refine rt3 (.int .i64 6) z0 z1 z2 ?_;rw [HP.out, (sK HH.out : aK _ _ _ _ = (6, 0))];exact ⟨_, rfl, Rq.none _, hq9⟩
      ·have hn2 : ¬ (cb.toNat : Int) = 48 := fun h => hc2 (UInt8.toNat_inj.1 (by have : (48 : UInt8).toNat = 48 := rfl; omega));have hn2b : ((cb.toNat : Int) == 48) = false := beq_eq_false_iff_ne.2 hn2;have HBH : Hid (b.head? ≠ some 48) := yW (by rw [hbb]; exact fun h => hc2 (Option.some.inj h));have HRB : Hid (Row b) := yW (oM HDB.out (.inr HBH.out));clear hbb hc2;have hz : ¬ f = [48] := fun h => (by have h9 := LA.out; rw [h] at h9; simp at h9; omega);have t0 : (fa.toList == [48]) = false := (by rw [TA.out]; exact beq_eq_false_iff_ne.2 hz);have HZ := yW hz; clear hz;by_cases h9 : b = [49]
       ·have t1 : (fb.toList == [49]) = true := (by rw [TB.out, h9]; rfl);have H9 := yW h9; clear h9;have fz := hR4.frozen;have r0 := hR4.cell 0 rfl;have r1 := hR4.cell 1 rfl;have r2 := hR4.cell 2 rfl;go_wp2_with fail
        obtain ⟨hb9, hq9⟩ := eH hR4 rfl hG4 (Nat.le_refl _);have z0 := hb9.cell 0 rfl;have z1 := hb9.cell 1 rfl;have z2 := hb9.cell 2 rfl;refine rt3 (.int .i64 6) z0 z1 z2 ?_;rw [HP.out, (sK (.inr (.inr H9.out)) : aK _ _ _ _ = (6, 0))];exact ⟨_, rfl, Rq.none _, hq9⟩
       ·have t1 : (fb.toList == [49]) = false := (by rw [TB.out]; exact beq_eq_false_iff_ne.2 h9);have HOK : Hid (¬ (¬ Row b ∨ b = [48] ∨ b = [49])) := yW (by rintro (h | h | h); exact h HRB.out; (rw [h] at HBH; exact HBH.out rfl); exact h9 h);clear h9;by_cases hl1 : 1000 < f.length
        ·have hl2 : (1000 : Int) < (fa.size : Int) := (by rw [LA.out]; omega);have Hl1 := yW hl1; clear hl1;have fz := hR4.frozen;have r0 := hR4.cell 0 rfl;have r1 := hR4.cell 1 rfl;have r2 := hR4.cell 2 rfl;go_wp2_with fail
         obtain ⟨hb9, hq9⟩ := eH hR4 rfl hG4 (Nat.le_refl _);have z0 := hb9.cell 0 rfl;have z1 := hb9.cell 1 rfl;have z2 := hb9.cell 2 rfl;refine rt3 (.int .i64 3) z0 z1 z2 ?_;rw [HP.out, (lS (.inl Hl1.out) HRW.out (fun h => HZ.out h.1) (fun _ => HOK.out) : aK _ _ _ _ = (3, 0))];exact ⟨_, rfl, Rq.none _, hq9⟩
        ·have hl2 : ¬ (1000 : Int) < (fa.size : Int) := (by rw [LA.out]; omega);have Hl1 := yW hl1; clear hl1;by_cases hl2 : 1000 < b.length
         ·have hl3 : (1000 : Int) < (fb.size : Int) := (by rw [LB.out]; omega);have Hl2 := yW hl2; clear hl2;have fz := hR4.frozen;have r0 := hR4.cell 0 rfl;have r1 := hR4.cell 1 rfl;have r2 := hR4.cell 2 rfl;go_wp2_with fail
          obtain ⟨hb9, hq9⟩ := eH hR4 rfl hG4 (Nat.le_refl _);have z0 := hb9.cell 0 rfl;have z1 := hb9.cell 1 rfl;have z2 := hb9.cell 2 rfl;refine rt3 (.int .i64 3) z0 z1 z2 ?_;rw [HP.out, (lS (.inr Hl2.out) HRW.out (fun h => HZ.out h.1) (fun _ => HOK.out) : aK _ _ _ _ = (3, 0))];exact ⟨_, rfl, Rq.none _, hq9⟩
         ·have hl3 : ¬ (1000 : Int) < (fb.size : Int) := (by rw [LB.out]; omega);have Hl2 := yW hl2; clear hl2;go_wp2_with fail
          refine (kE fa _ (by rw [HFA.out]; exact HRW.out.1) (by have h8 := Hl1.out; have h9 := LA.out; rw [aC]; omega)).mono ?_;rintro e w5 ⟨va, rfl, hva, hq5, -⟩;have hG5 := hG4.trans hq5; have hR5 := hR4.q hq5;rw [HFA.out] at hva;go_wp2_with fail
          refine (kE fb _ (by rw [HFB.out]; exact HRB.out.1) (by have h8 := Hl2.out; have h9 := LB.out; rw [aC]; omega)).mono ?_;rintro e w6 ⟨vb, rfl, hvb, hq6, -⟩;have hG6 := hG5.trans hq6; have hR6 := hR5.q hq6;rw [HFB.out] at hvb;have hva2 := hva.q hq6;go_wp2_with fail
          refine (vI _ _ (dv f) (dv b) _ hva2 hvb (sO HRB.out (fun h => HOK.out (.inr (.inl h)))) (uF HRW.out.1 Hl1.out) (uF HRB.out.1 Hl2.out)).mono ?_;rintro e w7 ⟨vd, rfl, hvd, hq7⟩;have hG7 := hG6.trans hq7; have hR7 := hR6.q hq7;have hva3 := hva2.q hq7; have hvb3 := hvb.q hq7;by_cases hg : Nat.gcd (dv f) (dv b) = 1
          ·have d1 : decide (Nat.gcd (dv f) (dv b) = 1) = true := decide_eq_true hg;have HGC := yW hg; clear hg;go_wp2_with fail
           refine (jK _ (Nat.gcd (dv f) (dv b)) true _ hvd d1).mono ?_;rintro e w9 ⟨rfl, rfl⟩;obtain ⟨A1, n1, c1, rfl⟩ := Nr.form hva3;obtain ⟨A2, n2, c2, rfl⟩ := Nr.form hvb3;have fz := hR7.frozen;have r0 := hR7.cell 0 rfl;have r1 := hR7.cell 1 rfl;have r2 := hR7.cell 2 rfl;go_wp2_with fail
           obtain ⟨e1, e2, e3⟩ := aDq HSG.out (sO HRW.out HZ.out) (sO HRB.out (fun h => HOK.out (.inr (.inl h)))) HGC.out;obtain ⟨hb9, hv9, hq9⟩ := mW hR7 rfl iX hva3 hvb3 e1 e2 e3 hG7 (Nat.le_refl _);have z0 := hb9.cell 0 rfl;have z1 := hb9.cell 1 rfl;have z2 := hb9.cell 2 rfl;refine rt3 (.int .i64 0) z0 z1 z2 ?_;rw [HP.out, (aAu HRW.out (fun h => HZ.out h.1) HOK.out Hl1.out Hl2.out HGC.out : aK _ _ _ _ = (0, _))];exact ⟨_, rfl, hv9, hq9⟩
          ·have d1 : decide (Nat.gcd (dv f) (dv b) = 1) = false := decide_eq_false hg;have HGC := yW hg; clear hg;go_wp2_with fail
           refine (jK _ (Nat.gcd (dv f) (dv b)) false _ hvd d1).mono ?_;rintro e w9 ⟨rfl, rfl⟩;have fz := hR7.frozen;have r0 := hR7.cell 0 rfl;have r1 := hR7.cell 1 rfl;have r2 := hR7.cell 2 rfl;go_wp2_with fail
           obtain ⟨hb9, hq9⟩ := eH hR7 rfl hG7 (Nat.le_refl _);have z0 := hb9.cell 0 rfl;have z1 := hb9.cell 1 rfl;have z2 := hb9.cell 2 rfl;refine rt3 (.int .i64 6) z0 z1 z2 ?_;rw [HP.out, (aCj HRW.out (fun h => HZ.out h.1) HOK.out Hl1.out Hl2.out HGC.out : aK _ _ _ _ = (6, 0))];exact ⟨_, rfl, Rq.none _, hq9⟩
    ·have h1 : ¬ (1 : Int) < (fa.size : Int) := (by omega);have HRW : Hid (Row f) := yW (oM HDF.out (.inl (by rw [← LA.out]; exact hl1)));have hsm : fa.size ≤ 1 := (by omega);clear hl1;have hpb : 0 < fb.size := by rw [LB.out]; have := (uE.1 HDB.out).2; rcases b with _ | ⟨x, y⟩ <;> simp at *
     have hbb := wP HFB.out hpb;generalize hcb : fb[0]'hpb = cb at *
     by_cases hc2 : cb = 48
     ·subst hc2;have HH := yW (aAX hbb); clear hbb;have fz := hR4.frozen;have r0 := hR4.cell 0 rfl;have r1 := hR4.cell 1 rfl;have r2 := hR4.cell 2 rfl;go_wp2_with fail
      obtain ⟨hb9, hq9⟩ := eH hR4 rfl hG4 (Nat.le_refl _);have z0 := hb9.cell 0 rfl;have z1 := hb9.cell 1 rfl;have z2 := hb9.cell 2 rfl;refine rt3 (.int .i64 6) z0 z1 z2 ?_;rw [HP.out, (sK HH.out : aK _ _ _ _ = (6, 0))];exact ⟨_, rfl, Rq.none _, hq9⟩
     ·have hn2 : ¬ (cb.toNat : Int) = 48 := fun h => hc2 (UInt8.toNat_inj.1 (by have : (48 : UInt8).toNat = 48 := rfl; omega));have hn2b : ((cb.toNat : Int) == 48) = false := beq_eq_false_iff_ne.2 hn2;have HBH : Hid (b.head? ≠ some 48) := yW (by rw [hbb]; exact fun h => hc2 (Option.some.inj h));have HRB : Hid (Row b) := yW (oM HDB.out (.inr HBH.out));clear hbb hc2;by_cases hz : f = [48]
      ·have t0 : (fa.toList == [48]) = true := (by rw [TA.out, hz]; rfl);have HZ := yW hz; clear hz;cases neg
       ·have hs9 : ¬ sg < 0 := (by have h9 := HSG.out; simp at h9; omega);have fz := hR4.frozen;have r0 := hR4.cell 0 rfl;have r1 := hR4.cell 1 rfl;have r2 := hR4.cell 2 rfl;go_wp2_with fail
        obtain ⟨hb9, hq9⟩ := eH hR4 rfl hG4 (Nat.le_refl _);have z0 := hb9.cell 0 rfl;have z1 := hb9.cell 1 rfl;have z2 := hb9.cell 2 rfl;refine rt3 (.int .i64 6) z0 z1 z2 ?_;rw [HP.out, (sJ HRW.out HZ.out (.inr rfl) : aK _ _ _ _ = (6, 0))];exact ⟨_, rfl, Rq.none _, hq9⟩
       ·have hs9 : sg < 0 := (by have h9 := HSG.out; simp at h9; omega);have fz := hR4.frozen;have r0 := hR4.cell 0 rfl;have r1 := hR4.cell 1 rfl;have r2 := hR4.cell 2 rfl;go_wp2_with fail
        obtain ⟨hb9, hq9⟩ := eH hR4 rfl hG4 (Nat.le_refl _);have z0 := hb9.cell 0 rfl;have z1 := hb9.cell 1 rfl;have z2 := hb9.cell 2 rfl;refine rt3 (.int .i64 6) z0 z1 z2 ?_;rw [HP.out, (sJ HRW.out HZ.out (.inl rfl) : aK _ _ _ _ = (6, 0))];exact ⟨_, rfl, Rq.none _, hq9⟩
      ·have t0 : (fa.toList == [48]) = false := (by rw [TA.out]; exact beq_eq_false_iff_ne.2 hz);have HZ := yW hz; clear hz;by_cases h9 : b = [49]
       ·have t1 : (fb.toList == [49]) = true := (by rw [TB.out, h9]; rfl);have H9 := yW h9; clear h9;have fz := hR4.frozen;have r0 := hR4.cell 0 rfl;have r1 := hR4.cell 1 rfl;have r2 := hR4.cell 2 rfl;go_wp2_with fail
        obtain ⟨hb9, hq9⟩ := eH hR4 rfl hG4 (Nat.le_refl _);have z0 := hb9.cell 0 rfl;have z1 := hb9.cell 1 rfl;have z2 := hb9.cell 2 rfl;refine rt3 (.int .i64 6) z0 z1 z2 ?_;rw [HP.out, (sK (.inr (.inr H9.out)) : aK _ _ _ _ = (6, 0))];exact ⟨_, rfl, Rq.none _, hq9⟩
       ·have t1 : (fb.toList == [49]) = false := (by rw [TB.out]; exact beq_eq_false_iff_ne.2 h9);have HOK : Hid (¬ (¬ Row b ∨ b = [48] ∨ b = [49])) := yW (by rintro (h | h | h); exact h HRB.out; (rw [h] at HBH; exact HBH.out rfl); exact h9 h);clear h9;have hl1 : ¬ 1000 < f.length := (by have h9 := LA.out; omega);have hl2 : ¬ (1000 : Int) < (fa.size : Int) := (by rw [LA.out]; omega);have Hl1 := yW hl1; clear hl1;by_cases hl2 : 1000 < b.length
        ·have hl3 : (1000 : Int) < (fb.size : Int) := (by rw [LB.out]; omega);have Hl2 := yW hl2; clear hl2;have fz := hR4.frozen;have r0 := hR4.cell 0 rfl;have r1 := hR4.cell 1 rfl;have r2 := hR4.cell 2 rfl;go_wp2_with fail
         obtain ⟨hb9, hq9⟩ := eH hR4 rfl hG4 (Nat.le_refl _);have z0 := hb9.cell 0 rfl;have z1 := hb9.cell 1 rfl;have z2 := hb9.cell 2 rfl;refine rt3 (.int .i64 3) z0 z1 z2 ?_;rw [HP.out, (lS (.inr Hl2.out) HRW.out (fun h => HZ.out h.1) (fun _ => HOK.out) : aK _ _ _ _ = (3, 0))];exact ⟨_, rfl, Rq.none _, hq9⟩
        ·have hl3 : ¬ (1000 : Int) < (fb.size : Int) := (by rw [LB.out]; omega);have Hl2 := yW hl2; clear hl2;go_wp2_with fail
         refine (kE fa _ (by rw [HFA.out]; exact HRW.out.1) (by have h8 := Hl1.out; have h9 := LA.out; rw [aC]; omega)).mono ?_;rintro e w5 ⟨va, rfl, hva, hq5, -⟩;have hG5 := hG4.trans hq5; have hR5 := hR4.q hq5;rw [HFA.out] at hva;go_wp2_with fail
         refine (kE fb _ (by rw [HFB.out]; exact HRB.out.1) (by have h8 := Hl2.out; have h9 := LB.out; rw [aC]; omega)).mono ?_;rintro e w6 ⟨vb, rfl, hvb, hq6, -⟩;have hG6 := hG5.trans hq6; have hR6 := hR5.q hq6;rw [HFB.out] at hvb;have hva2 := hva.q hq6;go_wp2_with fail
         refine (vI _ _ (dv f) (dv b) _ hva2 hvb (sO HRB.out (fun h => HOK.out (.inr (.inl h)))) (uF HRW.out.1 Hl1.out) (uF HRB.out.1 Hl2.out)).mono ?_;rintro e w7 ⟨vd, rfl, hvd, hq7⟩;have hG7 := hG6.trans hq7; have hR7 := hR6.q hq7;have hva3 := hva2.q hq7; have hvb3 := hvb.q hq7;by_cases hg : Nat.gcd (dv f) (dv b) = 1
         ·have d1 : decide (Nat.gcd (dv f) (dv b) = 1) = true := decide_eq_true hg;have HGC := yW hg; clear hg;go_wp2_with fail
          refine (jK _ (Nat.gcd (dv f) (dv b)) true _ hvd d1).mono ?_;rintro e w9 ⟨rfl, rfl⟩;obtain ⟨A1, n1, c1, rfl⟩ := Nr.form hva3;obtain ⟨A2, n2, c2, rfl⟩ := Nr.form hvb3;have fz := hR7.frozen;have r0 := hR7.cell 0 rfl;have r1 := hR7.cell 1 rfl;have r2 := hR7.cell 2 rfl;go_wp2_with fail
          obtain ⟨e1, e2, e3⟩ := aDq HSG.out (sO HRW.out HZ.out) (sO HRB.out (fun h => HOK.out (.inr (.inl h)))) HGC.out;obtain ⟨hb9, hv9, hq9⟩ := mW hR7 rfl iX hva3 hvb3 e1 e2 e3 hG7 (Nat.le_refl _);have z0 := hb9.cell 0 rfl;have z1 := hb9.cell 1 rfl;have z2 := hb9.cell 2 rfl;refine rt3 (.int .i64 0) z0 z1 z2 ?_;rw [HP.out, (aAu HRW.out (fun h => HZ.out h.1) HOK.out Hl1.out Hl2.out HGC.out : aK _ _ _ _ = (0, _))];exact ⟨_, rfl, hv9, hq9⟩
         ·have d1 : decide (Nat.gcd (dv f) (dv b) = 1) = false := decide_eq_false hg;have HGC := yW hg; clear hg;go_wp2_with fail
          refine (jK _ (Nat.gcd (dv f) (dv b)) false _ hvd d1).mono ?_;rintro e w9 ⟨rfl, rfl⟩;have fz := hR7.frozen;have r0 := hR7.cell 0 rfl;have r1 := hR7.cell 1 rfl;have r2 := hR7.cell 2 rfl;go_wp2_with fail
          obtain ⟨hb9, hq9⟩ := eH hR7 rfl hG7 (Nat.le_refl _);have z0 := hb9.cell 0 rfl;have z1 := hb9.cell 1 rfl;have z2 := hb9.cell 2 rfl;refine rt3 (.int .i64 6) z0 z1 z2 ?_;rw [HP.out, (aCj HRW.out (fun h => HZ.out h.1) HOK.out Hl1.out Hl2.out HGC.out : aK _ _ _ _ = (6, 0))];exact ⟨_, rfl, Rq.none _, hq9⟩
   ·rw [Bool.not_eq_true] at hd2;rw [hd2];have HD2 := yW hd2; clear hd2;have fz := hR4.frozen;have r0 := hR4.cell 0 rfl;have r1 := hR4.cell 1 rfl;have r2 := hR4.cell 2 rfl;go_wp2_with fail
    obtain ⟨hb9, hq9⟩ := eH hR4 rfl hG4 (Nat.le_refl _);have z0 := hb9.cell 0 rfl;have z1 := hb9.cell 1 rfl;have z2 := hb9.cell 2 rfl;refine rt3 (.int .i64 6) z0 z1 z2 ?_;rw [HP.out, (sK (.inl (aFu HD2.out)) : aK _ _ _ _ = (6, 0))];exact ⟨_, rfl, Rq.none _, hq9⟩
 ·rw [Bool.not_eq_true] at hd;rw [hd];have HD := yW hd; clear hd;have fz := hR3.frozen;have r0 := hR3.cell 0 rfl;have r1 := hR3.cell 1 rfl;have r2 := hR3.cell 2 rfl;go_wp2_with fail
  obtain ⟨hb9, hq9⟩ := eH hR3 rfl hG3 (Nat.le_refl _);have z0 := hb9.cell 0 rfl;have z1 := hb9.cell 1 rfl;have z2 := hb9.cell 2 rfl;refine rt3 (.int .i64 6) z0 z1 z2 ?_;rw [HP.out, (aCo (aFu HD.out) : aK _ _ _ _ = (6, 0))];exact ⟨_, rfl, Rq.none _, hq9⟩
end Go.Proofs.YtajbfablmpmgbaaGreatDoor.K
namespace Go.Proofs.YtajbfablmpmgbaaGreatDoor.K
open Go.RowKit
open Ma Me
section
variable {q : Rat} {M N a b : Nat}
theorem zQ : Hid (dg B30 1 ≤ 1) := yW aI9
theorem jJ (h1 : Hid (sz q ≤ a)) : Hid (dg B30 q.num.natAbs ≤ 3 * a) := oz1 (aI7 q) h1 (by omega)
theorem kF (h1 : Hid (sz q ≤ a)) : Hid (dg B30 q.den ≤ 3 * a) := oz1 (aI8 q) h1 (by omega)
theorem rC (h1 : Hid (dg B30 M ≤ a)) (h2 : Hid (dg B30 N ≤ b)) : Hid (dg B30 (M * N) ≤ a + b) := oz2 (aJa M N) h1 h2 (by omega)
theorem aAw (h1 : Hid (dg B30 M ≤ a)) (h2 : Hid (dg B30 N ≤ b)) : Hid (dg B30 (M + N) ≤ a + b + 1) := oz2 (aJb M N) h1 h2 (by omega)
theorem aAx (h1 : Hid (dg B30 M ≤ a)) (N : Nat) : Hid (dg B30 (M - N) ≤ a) := oz1 (aJc M N) h1 (by omega)
end
end Go.Proofs.YtajbfablmpmgbaaGreatDoor.K
namespace Go.Proofs.YtajbfablmpmgbaaGreatDoor.K
open Go.RowKit
open Ma Me
theorem wQ (x y : Value) (p q : Rat) (w : World) (hx : Rq w x p) (hy : Rq w y q) (hB : 1000 * (sz p + sz q) + 10000 ≤ LIM) :
  Calls Tryz.prog 67 #[x, y] w fun e w' => ∃ r, e = .returned r ∧ Rq w' r (p * q) ∧ Q w w' := by
 obtain ⟨x0, x1, x2, rfl, jX⟩ := fmR hx;obtain ⟨y0, y1, y2, rfl, jY⟩ := fmR hy;obtain ⟨w0, hW, hG0, hX0, hY0, hR0⟩ := gQ w 33 [x0, x1, x2] 33 [y0, y1, y2] 33 [.int .i64 0, .slice none 0 0, .slice none 0 0];have HB := yW hB; clear hB;have gs0 := yW (sbR hX0 jX hx (sbR hY0 jY hy (sbZ shR hR0 (St.nil hG0))));clear hG0 hX0 hY0 hR0;go_enter Tryz.func67, Tryz.ntmps67
 go_upto_region 1 with fail
 clear hW;generalize w.heap.size = zz at *
 by_cases hZ : p * q = 0
 ·have HZ := yW hZ; clear hZ;refine reg [eP zz 0, eI (sn p), eP ((zz + 1)) 0, eI (sn q), eI (sn p * sn q), eB true] [] [] [] gs0 (fun Z => ?_) fun v1 w1 X gs1 => ?_
  ·refine JC.p Z $ JW.ce 0 0 rn0 Z $ JC.p Z $ JW.ce 1 0 rn0 Z $ JC.u (.int .i64 (IntKind.i64.wrap ((sn p) * (sn q)))) (by rw [wN (sH p q)]) Z $ JC.u (.bool ((sn p * sn q) == (0))) (congrArg Value.bool (beq_iff_eq.2 (by rw [← yN]; exact aM.2 HZ.out))) Z $ Ja.Steps.nil
  rw [X.out.e 5 rfl rfl];clear X gs0;go_upto_region 2 with fail
  refine reg [gR 0, .any] [.k, .k, .s 1 0] [] [] gs1 (fun Z => ?_) fun v2 w2 X gs2 => ?_
  ·refine JC.o Z ?_ ?_
   ·intro L vals W hL hJ hd K hK;go_simp
    exact hK.out (.agg #[.int .i64 0, .slice none 0 0, .slice none 0 0]) _ _ (by kernel_rfl) (Rq.none W) (Q.refl _)
   refine JC.s3 (n := 2) rfl fRn Z $ Ja.Steps.nil
  clear X gs1;go_wp2_with fail
  exact eQ 2 gs2 (hR := fun h hq => by exact ⟨_, rfl, (by rw [HZ.out]; exact h), hq⟩)
 ·have HZ := yW hZ; clear hZ;refine reg [eP zz 0, eI (sn p), eP ((zz + 1)) 0, eI (sn q), eI (sn p * sn q), eB false] [] [] [] gs0 (fun Z => ?_) fun v1 w1 X gs1 => ?_
  ·refine JC.p Z $ JW.ce 0 0 rn0 Z $ JC.p Z $ JW.ce 1 0 rn0 Z $ JC.u (.int .i64 (IntKind.i64.wrap ((sn p) * (sn q)))) (by rw [wN (sH p q)]) Z $ JC.u (.bool ((sn p * sn q) == (0))) (congrArg Value.bool (beq_eq_false_iff_ne.2 (by rw [← yN]; exact fun h9 => HZ.out (aM.1 h9)))) Z $ Ja.Steps.nil
  rw [X.out.e 5 rfl rfl];clear X gs0;go_upto_region 3 with fail
  have hp0 : p ≠ 0 := fun h9 => HZ.out (by rw [h9]; exact Rat.zero_mul _);have hq0 : q ≠ 0 := fun h9 => HZ.out (by rw [h9]; exact Rat.mul_zero _);have N1 := jJ (zr p);have N2 := jJ (zr q);have N3 := rC N1 N2;have N4 := kF (zr p);have N5 := kF (zr q);have N6 := rC N4 N5;refine reg [eP zz 0, eI (sn p), eP ((zz + 1)) 0, eI (sn q), eI (sn p * sn q), eP zz 1, .gen (aF ((p).num.natAbs)), eP ((zz + 1)) 1, .gen (aF ((q).num.natAbs)), .gen (aF (((p).num.natAbs) * ((q).num.natAbs))), eP zz 2, .gen (aF ((p).den)), eP ((zz + 1)) 2, .gen (aF ((q).den)), .gen (aF (((p).den) * ((q).den))), gR (p * q), .any] [.k, .k, .s 16 15] [] [] gs1 (fun Z => ?_) fun v2 w2 X gs2 => ?_
  ·refine JC.p Z $ JW.ce 0 0 rn0 Z $ JC.p Z $ JW.ce 1 0 rn0 Z $ JC.u (.int .i64 (IntKind.i64.wrap ((sn p) * (sn q)))) (by rw [wN (sH p q)]) Z $ JC.p Z $ JW.ce 0 1 rn1 Z $ JC.p Z $ JW.ce 1 1 rn1 Z $ JW.ca (fun Y => (iH _ _ _ _ _ (Y.d 6) (Y.d 8) (ha3 N1 N2 HB (by omega))).mono mo4) Z $ JC.p Z $ JW.ce 0 2 (rn2 hp0) Z $ JC.p Z $ JW.ce 1 2 (rn2 hq0) Z $ JW.ca (fun Y => (iH _ _ _ _ _ (Y.d 11) (Y.d 13) (ha3 N4 N5 HB (by omega))).mono mo4) Z $ JW.ca (fun Y => eG (sn p * sn q) _ _ (((p).num.natAbs) * ((q).num.natAbs)) (((p).den) * ((q).den)) (p * q) _ (Y.d 9) (Y.d 14) (fun _ => Nat.mul_pos (den_nz p) (den_nz q)) (by rw [← yN]; exact sn3 _) (aGA p q) (fun h9 => absurd h9 (Nat.ne_of_gt (Nat.mul_pos (den_nz p) (den_nz q)))) (ha2 N3 HB (by omega)) (ha2 N6 HB (by omega))) Z $ JC.s3 (n := 2) rfl fRn Z $ Ja.Steps.nil
  clear X gs1;go_wp2_with fail
  exact bT 2 gs2
theorem zS (x : Value) (p : Rat) (w : World) (hx : Rq w x p) : Calls Tryz.prog 69 #[x] w fun e w' => ∃ r, e = .returned r ∧ Rq w' r (-p) ∧ Q w w' := by
 obtain ⟨A1, n1, c1, A2, n2, c2, rfl, h1, h2⟩ := hx;obtain ⟨W, hW, hG0, hX0, hR0⟩ := cK w 33 [.int .i64 (sn p), .slice A1 n1 c1, .slice A2 n2 c2] 33 [.int .i64 0, .slice none 0 0, .slice none 0 0];have x0 := hX0.cell 0 rfl;have x1 := hX0.cell 1 rfl;have x2 := hX0.cell 2 rfl;have fz := hR0.frozen;have r0 := hR0.cell 0 rfl;have r1 := hR0.cell 1 rfl;have r2 := hR0.cell 2 rfl;have hwr : IntKind.i64.wrap (-sn p) = -sn p := wN (by first | exact sH p p | (have := aD3 p; omega));go_enter Tryz.func69, Tryz.ntmps69
 go_wp2_with fail
 have hs9 := (nQ p).1;have ht9 := (nQ p).2.1;have hb9 := (nQ p).2.2;have hz9 : -p ≠ 0 → p ≠ 0 := fun h e => h (by rw [e]; rfl);have hr9 : Rq W (.agg #[.int .i64 (-sn p), .slice A1 n1 c1, .slice A2 n2 c2]) (-p) := ⟨_, _, _, _, _, _, by rw [← hs9], by rw [← ht9]; exact h1.q hG0, fun h => by rw [← hb9]; exact (h2 (hz9 h)).q hG0⟩
 have hR9 := hR0.put (l := [.int .i64 (-sn p), .slice A1 n1 c1, .slice A2 n2 c2]) rfl;have hq9 := lX (g := w.heap.size + 1) (i := 0) (l := [.int .i64 (-sn p), .slice A1 n1 c1, .slice A2 n2 c2]) hG0 (Nat.le_succ _);have hr9 := hr9.ap (g := w.heap.size + 1) (w' := gF W (w.heap.size + 1) 0 [.int .i64 (-sn p), .slice A1 n1 c1, .slice A2 n2 c2]) ⟨fun k hk => jD hk, jW, _, _, hR0, by decide, iX, fun _ => Nat.le_refl 3⟩;simp only [gF, Nat.reduceAdd] at hR9 hq9 hr9;have z0 := hR9.cell 0 rfl;have z1 := hR9.cell 1 rfl;have z2 := hR9.cell 2 rfl;refine rz3 z0 z1 z2 ?_;exact ⟨_, rfl, hr9, hq9⟩
theorem aJg (x : Value) (p : Rat) (w : World) (hx : Rq w x p) : Calls Tryz.prog 81 #[x] w fun e w' => ∃ r, e = .returned r ∧ Rq w' r (nV p) ∧ Q w w' := by
 obtain ⟨A1, n1, c1, A2, n2, c2, rfl, h1, h2⟩ := hx;obtain ⟨W, hW, hG0, hX0, hR0⟩ := cK w 33 [.int .i64 (sn p), .slice A1 n1 c1, .slice A2 n2 c2] 33 [.int .i64 0, .slice none 0 0, .slice none 0 0];have x0 := hX0.cell 0 rfl;have x1 := hX0.cell 1 rfl;have x2 := hX0.cell 2 rfl;have fz := hR0.frozen;have r0 := hR0.cell 0 rfl;have r1 := hR0.cell 1 rfl;have r2 := hR0.cell 2 rfl;have hwr : IntKind.i64.wrap (sn p * sn p) = sn p * sn p := wN (by first | exact sH p p | (have := aD3 p; omega));go_enter Tryz.func81, Tryz.ntmps81
 go_wp2_with fail
 have hs9 := (lK p).1;have ht9 := (lK p).2.1;have hb9 := (lK p).2.2;have hz9 : nV p ≠ 0 → p ≠ 0 := fun h e => h (by rw [e]; rfl);have hr9 : Rq W (.agg #[.int .i64 (sn p * sn p), .slice A1 n1 c1, .slice A2 n2 c2]) (nV p) := ⟨_, _, _, _, _, _, by rw [← hs9], by rw [← ht9]; exact h1.q hG0, fun h => by rw [← hb9]; exact (h2 (hz9 h)).q hG0⟩
 have hR9 := hR0.put (l := [.int .i64 (sn p * sn p), .slice A1 n1 c1, .slice A2 n2 c2]) rfl;have hq9 := lX (g := w.heap.size + 1) (i := 0) (l := [.int .i64 (sn p * sn p), .slice A1 n1 c1, .slice A2 n2 c2]) hG0 (Nat.le_succ _);have hr9 := hr9.ap (g := w.heap.size + 1) (w' := gF W (w.heap.size + 1) 0 [.int .i64 (sn p * sn p), .slice A1 n1 c1, .slice A2 n2 c2]) ⟨fun k hk => jD hk, jW, _, _, hR0, by decide, iX, fun _ => Nat.le_refl 3⟩;simp only [gF, Nat.reduceAdd] at hR9 hq9 hr9;have z0 := hR9.cell 0 rfl;have z1 := hR9.cell 1 rfl;have z2 := hR9.cell 2 rfl;refine rz3 z0 z1 z2 ?_;exact ⟨_, rfl, hr9, hq9⟩
theorem aBi (x y : Value) (p q : Rat) (w : World) (hx : Rq w x p) (hy : Rq w y q) (hB : 1000 * (sz p + sz q) + 20000 ≤ LIM) :
  Calls Tryz.prog 55 #[x, y] w fun e w' => ∃ r, e = .returned (.tuple #[r, .int .i64 (aR p q).1]) ∧ Rq w' r (aR p q).2 ∧ Q w w' := by
 obtain ⟨x0, x1, x2, rfl, jX⟩ := fmR hx;obtain ⟨y0, y1, y2, rfl, jY⟩ := fmR hy;obtain ⟨w0, hW, hG0, hX0, hY0, hR0⟩ := gQ w 33 [x0, x1, x2] 33 [y0, y1, y2] 33 [.int .i64 0, .slice none 0 0, .slice none 0 0];have HB := yW hB; clear hB;have gs0 := yW (sbR hX0 jX hx (sbR hY0 jY hy (sbZ shR hR0 (St.nil hG0))));clear hG0 hX0 hY0 hR0;go_enter Tryz.func55, Tryz.ntmps55
 go_upto_region 1 with fail
 clear hW;generalize w.heap.size = zz at *
 by_cases hZ : q = 0
 ·have HZ := yW hZ; clear hZ;refine reg [eP ((zz + 1)) 0, eI (sn q), eB true] [] [] [] gs0 (fun Z => ?_) fun v1 w1 X gs1 => ?_
  ·refine JC.p Z $ JW.ce 1 0 rn0 Z $ JC.u (.bool ((sn q) == (0))) (congrArg Value.bool (beq_iff_eq.2 (aM.2 HZ.out))) Z $ Ja.Steps.nil
  rw [X.out.e 2 rfl rfl];clear X gs0;go_upto_region 2 with fail
  refine reg [gR 0, .any, eI 8] [.k, .k, .s 1 0] [] [] gs1 (fun Z => ?_) fun v2 w2 X gs2 => ?_
  ·refine JC.o Z ?_ ?_
   ·intro L vals W hL hJ hd K hK;go_simp
    exact hK.out (.agg #[.int .i64 0, .slice none 0 0, .slice none 0 0]) _ _ (by kernel_rfl) (Rq.none W) (Q.refl _)
   refine JC.s3 (n := 2) rfl fRn Z $ JC.p Z $ Ja.Steps.nil
  rw [X.out.e 2 rfl rfl];clear X gs1;go_wp2_with fail
  exact iD (u := .int .i64 (8)) 2 gs2 (hR := fun h hq => by exact ⟨_, by rw [show aR p q = (8, 0) from if_pos HZ.out], (by rw [show aR p q = (8, 0) from if_pos HZ.out]; exact h), hq⟩)
 ·have HZ := yW hZ; clear hZ;refine reg [eP ((zz + 1)) 0, eI (sn q), eB false] [] [] [] gs0 (fun Z => ?_) fun v1 w1 X gs1 => ?_
  ·refine JC.p Z $ JW.ce 1 0 rn0 Z $ JC.u (.bool ((sn q) == (0))) (congrArg Value.bool (beq_eq_false_iff_ne.2 (fun h9 => HZ.out (aM.1 h9)))) Z $ Ja.Steps.nil
  rw [X.out.e 2 rfl rfl];clear X gs0;go_upto_region 3 with fail
  have Z1 := aDQ (zr q);have Z2 := kS (zr p) Z1;refine reg [gR p, eP ((zz + 1)) 0, eI (sn q), eP ((zz + 1)) 2, .gen (aF ((q).den)), eP ((zz + 1)) 1, .gen (aF ((q).num.natAbs)), gR ((q)⁻¹), gR ((p) * ((q)⁻¹)), .any, eI 0] [.k, .k, .s 9 8] [] [] gs1 (fun Z => ?_) fun v2 w2 X gs2 => ?_
  ·refine JW.ld 0 Z $ JC.p Z $ JW.ce 1 0 rn0 Z $ JC.p Z $ JW.ce 1 2 (rn2 HZ.out) Z $ JC.p Z $ JW.ce 1 1 rn1 Z $ ?_;refine JC.o Z ?_ ?_
   ·intro L vals W hL hJ hd K hK;have d2 : vals 2 = .int .i64 (sn (q)) := hd 2 (by kernel_rfl);generalize vals 2 = u2 at d2 hK ⊢;subst d2;have d4 : Nr W (vals 4) ((q).den) := hd 4 (by kernel_rfl);have d6 : Nr W (vals 6) ((q).num.natAbs) := hd 6 (by kernel_rfl);generalize vals 4 = u4 at d4 hK ⊢;obtain ⟨X4, Y4, Z4, rfl⟩ := Nr.form d4;generalize vals 6 = u6 at d6 hK ⊢;obtain ⟨X6, Y6, Z6, rfl⟩ := Nr.form d6;go_simp
    exact hK.out (.agg #[.int .i64 (sn (q)), .slice X4 Y4 Z4, .slice X6 Y6 Z6]) _ _ (by kernel_rfl) (Rq.mk (by have h9 := d4; rw [show ((q).den : Nat) = ((q)⁻¹).num.natAbs from (vJ HZ.out).2.1] at h9; exact h9) (fun hz9 => by have h9 := d6; rw [show ((q).num.natAbs : Nat) = ((q)⁻¹).den from (vJ HZ.out).2.2] at h9; exact h9) ⟨_, _, _, rfl⟩ ((vJ HZ.out).1.symm)) (Q.refl _)
   refine JW.ca (fun Y => wQ _ _ _ _ _ (Y.d 0) (Y.d 7) (ha2 Z1 HB (by omega))) Z $ JC.s3 (n := 2) rfl fRn Z $ JC.p Z $ Ja.Steps.nil
  rw [X.out.e 10 rfl rfl];clear X gs1;go_wp2_with fail
  exact iD (u := .int .i64 (0)) 2 gs2 (hR := fun h hq => by exact ⟨_, by rw [show aR p q = (0, p * q⁻¹) from if_neg HZ.out], (by rw [show aR p q = (0, p * q⁻¹) from if_neg HZ.out]; exact h), hq⟩)
theorem aJh (p q : Rat) : -1 ≤ rc p q ∧ rc p q ≤ 1 := by rcases sW p q with ⟨_, h⟩ | ⟨_, h⟩ | ⟨_, h⟩ <;> rw [h] <;> decide
theorem aCq {p q : Rat} (h : sn p < sn q) : rc p q = -1 := by
 refine aBe ?_;rcases bP p with ⟨h1, e1⟩ | ⟨h1, e1⟩ | ⟨h1, e1⟩ <;> rcases bP q with ⟨h2, e2⟩ | ⟨h2, e2⟩ | ⟨h2, e2⟩ <;> rw [e1, e2] at h <;> first | omega | grind
theorem aGF {p q : Rat} (h : sn p > sn q) : rc p q = 1 := by
 rw [aHj, aCq h]; rfl
theorem kM (x y : Value) (p q : Rat) (w : World) (hx : Rq w x p) (hy : Rq w y q) (hB : 1000 * (sz p + sz q) + 10000 ≤ LIM) :
  Calls Tryz.prog 42 #[x, y] w fun e w' => e = .returned (.int .i64 (rc p q)) ∧ Q w w' := by
 obtain ⟨x0, x1, x2, rfl, jX⟩ := fmR hx;obtain ⟨y0, y1, y2, rfl, jY⟩ := fmR hy;obtain ⟨w0, hW, hG0, hX0, hY0⟩ := cK w 33 [x0, x1, x2] 33 [y0, y1, y2];have HB := yW hB; clear hB;have gs0 := yW (sbR hX0 jX hx (sbR hY0 jY hy (St.nil hG0)));clear hG0 hX0 hY0;go_enter Tryz.func42, Tryz.ntmps42
 go_upto_region 1 with fail
 clear hW;generalize w.heap.size = zz at *
 have HL := HB; clear HB;by_cases hA : sn p < sn q
 ·have HA := yW hA; clear hA;refine reg [eP zz 0, eI (sn p), eP ((zz + 1)) 0, eI (sn q), eB true] [] [] [] gs0 (fun Z => ?_) fun v1 w1 X gs1 => ?_
  ·refine JC.p Z $ JW.ce 0 0 rn0 Z $ JC.p Z $ JW.ce 1 0 rn0 Z $ JC.u (.bool (decide ((sn p) < (sn q)))) (congrArg Value.bool (decide_eq_true (show ((sn p : Int) < sn q) from HA.out))) Z $ Ja.Steps.nil
  rw [X.out.e 4 rfl rfl];clear X gs0;go_upto_region 2 with fail
  refine reg [eI (-1)] [] [] [] gs1 (fun Z => ?_) fun v2 w2 X gs2 => ?_
  ·refine JC.p Z $ Ja.Steps.nil
  rw [X.out.e 0 rfl rfl];clear X gs1;go_wp2_with fail
  go_ret
  exact ⟨by rw [show rc p q = -1 from aCq HA.out]; rfl, gs2.out.q⟩
 ·have HA := yW hA; clear hA;refine reg [eP zz 0, eI (sn p), eP ((zz + 1)) 0, eI (sn q), eB false] [] [] [] gs0 (fun Z => ?_) fun v1 w1 X gs1 => ?_
  ·refine JC.p Z $ JW.ce 0 0 rn0 Z $ JC.p Z $ JW.ce 1 0 rn0 Z $ JC.u (.bool (decide ((sn p) < (sn q)))) (congrArg Value.bool (decide_eq_false (show ¬ ((sn p : Int) < sn q) from HA.out))) Z $ Ja.Steps.nil
  rw [X.out.e 4 rfl rfl];clear X gs0;go_upto_region 3 with fail
  by_cases hB1 : sn p > sn q
  ·have HB1 := yW hB1; clear hB1;refine reg [eP zz 0, eI (sn p), eP ((zz + 1)) 0, eI (sn q), eB true] [] [] [] gs1 (fun Z => ?_) fun v2 w2 X gs2 => ?_
   ·refine JC.p Z $ JW.ce 0 0 rn0 Z $ JC.p Z $ JW.ce 1 0 rn0 Z $ JC.u (.bool (decide ((sn q) < (sn p)))) (congrArg Value.bool (decide_eq_true (show ((sn p : Int) > sn q) from HB1.out))) Z $ Ja.Steps.nil
   rw [X.out.e 4 rfl rfl];clear X gs1;go_upto_region 4 with fail
   refine reg [eI 1] [] [] [] gs2 (fun Z => ?_) fun v3 w3 X gs3 => ?_
   ·refine JC.p Z $ Ja.Steps.nil
   rw [X.out.e 0 rfl rfl];clear X gs2;go_wp2_with fail
   go_ret
   exact ⟨by rw [show rc p q = 1 from aGF HB1.out]; rfl, gs3.out.q⟩
  ·have HB1 := yW hB1; clear hB1;refine reg [eP zz 0, eI (sn p), eP ((zz + 1)) 0, eI (sn q), eB false] [] [] [] gs1 (fun Z => ?_) fun v2 w2 X gs2 => ?_
   ·refine JC.p Z $ JW.ce 0 0 rn0 Z $ JC.p Z $ JW.ce 1 0 rn0 Z $ JC.u (.bool (decide ((sn q) < (sn p)))) (congrArg Value.bool (decide_eq_false (show ¬ ((sn p : Int) > sn q) from HB1.out))) Z $ Ja.Steps.nil
   rw [X.out.e 4 rfl rfl];clear X gs1;go_upto_region 5 with fail
   have HS : Hid (sn p = sn q) := yW (by have h1 := HA.out; have h2 := HB1.out; omega);by_cases hZ : p = 0
   ·have HZ := yW hZ; clear hZ;refine reg [eP zz 0, eI (sn p), eB true] [] [] [] gs2 (fun Z => ?_) fun v3 w3 X gs3 => ?_
    ·refine JC.p Z $ JW.ce 0 0 rn0 Z $ JC.u (.bool ((sn p) == (0))) (congrArg Value.bool (beq_iff_eq.2 (aM.2 HZ.out))) Z $ Ja.Steps.nil
    rw [X.out.e 2 rfl rfl];clear X gs2;go_upto_region 6 with fail
    refine reg [eI 0] [] [] [] gs3 (fun Z => ?_) fun v4 w4 X gs4 => ?_
    ·refine JC.p Z $ Ja.Steps.nil
    rw [X.out.e 0 rfl rfl];clear X gs3;go_wp2_with fail
    go_ret
    exact ⟨by rw [show rc p q = 0 from by rw [sZ HS.out, aM.2 HZ.out, Int.zero_mul]]; rfl, gs4.out.q⟩
   ·have HZ := yW hZ; clear hZ;refine reg [eP zz 0, eI (sn p), eB false] [] [] [] gs2 (fun Z => ?_) fun v3 w3 X gs3 => ?_
    ·refine JC.p Z $ JW.ce 0 0 rn0 Z $ JC.u (.bool ((sn p) == (0))) (congrArg Value.bool (beq_eq_false_iff_ne.2 (fun h9 => HZ.out (aM.1 h9)))) Z $ Ja.Steps.nil
    rw [X.out.e 2 rfl rfl];clear X gs2;go_upto_region 7 with fail
    have hq0 : q ≠ 0 := fun h9 => HZ.out (aM.1 (HS.out.trans (aM.2 h9)));have N1 := jJ (zr p);have N2 := kF (zr q);have N3 := rC N1 N2;have N4 := jJ (zr q);have N5 := kF (zr p);have N6 := rC N4 N5;refine reg [eP zz 0, eI (sn p), eP zz 1, .gen (aF ((p).num.natAbs)), eP ((zz + 1)) 2, .gen (aF ((q).den)), .gen (aF (((p).num.natAbs) * ((q).den))), eP ((zz + 1)) 1, .gen (aF ((q).num.natAbs)), eP zz 2, .gen (aF ((p).den)), .gen (aF (((q).num.natAbs) * ((p).den))), eI (cmp (((p).num.natAbs) * ((q).den)) (((q).num.natAbs) * ((p).den))), eI (sn p * cmp ((p).num.natAbs * (q).den) ((q).num.natAbs * (p).den)), eI (sn p * cmp ((p).num.natAbs * (q).den) ((q).num.natAbs * (p).den))] [] [] [] gs3 (fun Z => ?_) fun v4 w4 X gs4 => ?_
    ·refine JC.p Z $ JW.ce 0 0 rn0 Z $ JC.p Z $ JW.ce 0 1 rn1 Z $ JC.p Z $ JW.ce 1 2 (rn2 hq0) Z $ JW.ca (fun Y => (iH _ _ _ _ _ (Y.d 3) (Y.d 5) (ha3 N1 N2 HL (by omega))).mono mo4) Z $ JC.p Z $ JW.ce 1 1 rn1 Z $ JC.p Z $ JW.ce 0 2 (rn2 HZ.out) Z $ JW.ca (fun Y => (iH _ _ _ _ _ (Y.d 8) (Y.d 10) (ha3 N4 N5 HL (by omega))).mono mo4) Z $ JW.ca (fun Y => (fD _ _ _ _ _ (Y.d 6) (Y.d 11) (ha2 N3 HL (by omega)) (ha2 N6 HL (by omega))).mono mo0) Z $ JC.u (.int .i64 (IntKind.i64.wrap ((sn p) * (cmp (((p).num.natAbs) * ((q).den)) (((q).num.natAbs) * ((p).den)))))) (by rw [wN (z := sn p * cmp ((p).num.natAbs * (q).den) ((q).num.natAbs * (p).den)) (by rw [← sZ HS.out]; exact aJh p q)]) Z $ JC.p Z $ Ja.Steps.nil
    rw [X.out.e 14 rfl rfl];clear X gs3;go_wp2_with fail
    go_ret
    exact ⟨by rw [show rc p q = sn p * cmp ((p).num.natAbs * (q).den) ((q).num.natAbs * (p).den) from sZ HS.out]; rfl, gs4.out.q⟩
theorem qQ (x y : Value) (p q : Rat) (w : World) (hx : Rq w x p) (hy : Rq w y q) (hB : 1000 * (sz p + sz q) + 10000 ≤ LIM) :
  Calls Tryz.prog 62 #[x, y] w fun e w' => ∃ r, e = .returned r ∧ Rq w' r (aB p q) ∧ Q w w' := by
 obtain ⟨x0, x1, x2, rfl, jX⟩ := fmR hx;obtain ⟨y0, y1, y2, rfl, jY⟩ := fmR hy;obtain ⟨w0, hW, hG0, hX0, hY0, hR0⟩ := gQ w 33 [x0, x1, x2] 33 [y0, y1, y2] 33 [.int .i64 0, .slice none 0 0, .slice none 0 0];have HB := yW hB; clear hB;have gs0 := yW (sbR hX0 jX hx (sbR hY0 jY hy (sbZ shR hR0 (St.nil hG0))));clear hG0 hX0 hY0 hR0;go_enter Tryz.func62, Tryz.ntmps62
 go_upto_region 1 with fail
 clear hW;generalize w.heap.size = zz at *
 by_cases hC : rc p q ≤ 0
 ·have HC := yW hC; clear hC;refine reg [gR p, gR q, eI (rc p q), eB true] [] [] [] gs0 (fun Z => ?_) fun v1 w1 X gs1 => ?_
  ·refine JW.ld 0 Z $ JW.ld 1 Z $ JW.ca (fun Y => (kM _ _ _ _ _ (Y.d 0) (Y.d 1) (ha1 HB (by omega))).mono mo0) Z $ JC.u (.bool (decide ((rc p q) ≤ (0)))) (congrArg Value.bool (decide_eq_true (show ((rc p q : Int) ≤ 0) from HC.out))) Z $ Ja.Steps.nil
  rw [X.out.e 3 rfl rfl];clear X gs0;go_upto_region 2 with fail
  refine reg [gR p, .any] [.k, .k, .s 1 0] [] [] gs1 (fun Z => ?_) fun v2 w2 X gs2 => ?_
  ·refine JW.ld 0 Z $ JC.s3 (n := 2) rfl fRn Z $ Ja.Steps.nil
  clear X gs1;go_wp2_with fail
  exact eQ 2 gs2 (hR := fun h hq => by exact ⟨_, rfl, (by rw [show aB p q = p from if_pos ((eU p q).1 HC.out)]; exact h), hq⟩)
 ·have HC := yW hC; clear hC;refine reg [gR p, gR q, eI (rc p q), eB false] [] [] [] gs0 (fun Z => ?_) fun v1 w1 X gs1 => ?_
  ·refine JW.ld 0 Z $ JW.ld 1 Z $ JW.ca (fun Y => (kM _ _ _ _ _ (Y.d 0) (Y.d 1) (ha1 HB (by omega))).mono mo0) Z $ JC.u (.bool (decide ((rc p q) ≤ (0)))) (congrArg Value.bool (decide_eq_false (show ¬ ((rc p q : Int) ≤ 0) from HC.out))) Z $ Ja.Steps.nil
  rw [X.out.e 3 rfl rfl];clear X gs0;go_upto_region 3 with fail
  refine reg [gR q, .any] [.k, .k, .s 1 0] [] [] gs1 (fun Z => ?_) fun v2 w2 X gs2 => ?_
  ·refine JW.ld 1 Z $ JC.s3 (n := 2) rfl fRn Z $ Ja.Steps.nil
  clear X gs1;go_wp2_with fail
  exact eQ 2 gs2 (hR := fun h hq => by exact ⟨_, rfl, (by rw [show aB p q = q from if_neg (fun h9 => by have h8 := (eU p q).2 h9; have h7 := HC.out; omega)]; exact h), hq⟩)
theorem qR (x y : Value) (p q : Rat) (w : World) (hx : Rq w x p) (hy : Rq w y q) (hB : 1000 * (sz p + sz q) + 10000 ≤ LIM) :
  Calls Tryz.prog 61 #[x, y] w fun e w' => ∃ r, e = .returned r ∧ Rq w' r (aA p q) ∧ Q w w' := by
 obtain ⟨x0, x1, x2, rfl, jX⟩ := fmR hx;obtain ⟨y0, y1, y2, rfl, jY⟩ := fmR hy;obtain ⟨w0, hW, hG0, hX0, hY0, hR0⟩ := gQ w 33 [x0, x1, x2] 33 [y0, y1, y2] 33 [.int .i64 0, .slice none 0 0, .slice none 0 0];have HB := yW hB; clear hB;have gs0 := yW (sbR hX0 jX hx (sbR hY0 jY hy (sbZ shR hR0 (St.nil hG0))));clear hG0 hX0 hY0 hR0;go_enter Tryz.func61, Tryz.ntmps61
 go_upto_region 1 with fail
 clear hW;generalize w.heap.size = zz at *
 by_cases hC : rc p q ≥ 0
 ·have HC := yW hC; clear hC;refine reg [gR p, gR q, eI (rc p q), eB true] [] [] [] gs0 (fun Z => ?_) fun v1 w1 X gs1 => ?_
  ·refine JW.ld 0 Z $ JW.ld 1 Z $ JW.ca (fun Y => (kM _ _ _ _ _ (Y.d 0) (Y.d 1) (ha1 HB (by omega))).mono mo0) Z $ JC.u (.bool (decide ((0) ≤ (rc p q)))) (congrArg Value.bool (decide_eq_true (show ((rc p q : Int) ≥ 0) from HC.out))) Z $ Ja.Steps.nil
  rw [X.out.e 3 rfl rfl];clear X gs0;go_upto_region 2 with fail
  refine reg [gR p, .any] [.k, .k, .s 1 0] [] [] gs1 (fun Z => ?_) fun v2 w2 X gs2 => ?_
  ·refine JW.ld 0 Z $ JC.s3 (n := 2) rfl fRn Z $ Ja.Steps.nil
  clear X gs1;go_wp2_with fail
  exact eQ 2 gs2 (hR := fun h hq => by exact ⟨_, rfl, (by rw [show aA p q = p from if_pos ((aBf p q).1 HC.out)]; exact h), hq⟩)
 ·have HC := yW hC; clear hC;refine reg [gR p, gR q, eI (rc p q), eB false] [] [] [] gs0 (fun Z => ?_) fun v1 w1 X gs1 => ?_
  ·refine JW.ld 0 Z $ JW.ld 1 Z $ JW.ca (fun Y => (kM _ _ _ _ _ (Y.d 0) (Y.d 1) (ha1 HB (by omega))).mono mo0) Z $ JC.u (.bool (decide ((0) ≤ (rc p q)))) (congrArg Value.bool (decide_eq_false (show ¬ ((rc p q : Int) ≥ 0) from HC.out))) Z $ Ja.Steps.nil
  rw [X.out.e 3 rfl rfl];clear X gs0;go_upto_region 3 with fail
  refine reg [gR q, .any] [.k, .k, .s 1 0] [] [] gs1 (fun Z => ?_) fun v2 w2 X gs2 => ?_
  ·refine JW.ld 1 Z $ JC.s3 (n := 2) rfl fRn Z $ Ja.Steps.nil
  clear X gs1;go_wp2_with fail
  exact eQ 2 gs2 (hR := fun h hq => by exact ⟨_, rfl, (by rw [show aA p q = q from if_neg (fun h9 => by have h8 := (aBf p q).2 h9; have h7 := HC.out; omega)]; exact h), hq⟩)
end Go.Proofs.YtajbfablmpmgbaaGreatDoor.K
namespace Go.Proofs.YtajbfablmpmgbaaGreatDoor
open Go.RowKit
open Ma Me
theorem aFv (W : World) (E : Int) : (convert 149 9 (.slice (some ⟨W.heap.size, 0, none⟩) 1 1)).run Tryz.prog (W.alloc (.cells #[.int .u8 E] 5)) =
  .ok (.string (strOfNums [E])) (W.alloc (.cells #[.int .u8 E] 5)) := by
 refine run_convert_bytes_arg (P := Tryz.prog) _ 149 5 Tryz.underlying149 Tryz.underlying5 _ 0 1 1 [E] rfl ?_ 9 Tryz.underlying9;intro i hi;obtain rfl : i = 0 := by omega
 exact dZ _ _ _
theorem aDr (q : Nat) (p : ByteArray) (E : Int) (hE : E = ((48 + q : Nat) : Int)) : (strOfNums [E] ++ p).data.toList = dig q :: p.data.toList := by
 subst hE;rw [ByteArray.data_append, Array.toList_append, strOfNums_data];simp only [List.map_cons, List.map_nil, Int.toNat_natCast];rfl
theorem mE (E : Int) : (strOfNums [E]).size = 1 := by rw [strOfNums_size]; rfl
theorem vR (x : Value) (N : Nat) (w : World) (hx : Nr w x N) (lN : dg B30 N + 1 ≤ LIM) :
  Calls Tryz.prog 124 #[x] w fun e w' => ∃ t : ByteArray, e = .returned (.string t) ∧ t.data.toList = dec N ∧ Q w w' := by
 obtain ⟨A, c, xs, rfl, hc, rx, wx, hv⟩ := hx;have hl := wx.len aJ;rw [hv] at hl;rcases Nat.eq_zero_or_pos N with h0 | h0
 ·subst h0;rw [aT] at hl;have h1 : ((xs.length : Int) == 0) = true := (by rw [hl]; rfl);clear hl;go_enter Tryz.func124, Tryz.ntmps124
  go_wp2_with fail
  go_ret
  exact ⟨_, rfl, by rw [cZ (by decide)]; rfl, Q.refl _⟩
 ·have h1 : ((xs.length : Int) == 0) = false := by
   refine beq_eq_false_iff_ne.2 ?_;have : dg B30 N ≠ 0 := fun h => (by have := bI aJ h; omega);omega
  rw [aC] at lN;have hL : xs.length + 1 ≤ 1099511627776 := (by omega);have hx0 : Nr w (.slice A xs.length c) N := ⟨A, c, xs, rfl, hc, rx, wx, hv⟩
  clear hl hv rx wx;go_enter Tryz.func124, Tryz.ntmps124
  go_wp2_with fail
  go_loopg [0, 3] N (fun gk av sv w1 => ∃ (t : ByteArray), sv = .string t ∧ t.size ≤ 10995116277760 ∧ Nr w1 av gk ∧ dg B30 gk + 1 ≤ 1099511627776 ∧ (0 < gk ∧ dec N = dec gk ++ t.data.toList ∨ gk = 0 ∧ dec N = t.data.toList) ∧ Q w w1)
  case atStart => exact ⟨ByteArray.empty, rfl, by simp, hx0, lN, Or.inl ⟨h0, by simp⟩, Q.refl _⟩
  case round =>
   obtain ⟨w1, rfl⟩ : ∃ w1 : World, w1 = wr := ⟨_, rfl⟩
   obtain ⟨t, rfl, hts, hav, hlg, hdec, hq⟩ := hrel;obtain ⟨A1, c1, ds, rfl, hc1, rd, wd, hvd⟩ := hav;have HV := yW hvd; clear hvd;have hl := wd.len aJ;rw [HV.out] at hl;have HDEC := yW hdec; clear hdec;rcases Nat.eq_zero_or_pos gk with hg | hg
   ·have hd0 : ds.length ≤ 0 := (by rw [hl, hg, aT]; exact Nat.le_refl _);clear hl;go_wp2_with fail
    go_ret
    refine ⟨_, rfl, ?_, hq⟩;rcases HDEC.out with ⟨h, _⟩ | ⟨_, h⟩
    ·omega
    ·exact h.symm
   ·have hd0 : 0 < ds.length := by
     have : dg B30 gk ≠ 0 := fun h => (by have := bI aJ h; omega);omega
    have hmk := sD ds.length (ds.length : Int) rfl (by rw [aC]; omega);have hlm : ds.length ≤ 1099511627776 := (by omega);clear hl;go_wp2_with fail
    clear hmk
    go_loopw [5, 6] (fun rv iv w2 => ∃ (j r : Nat) (out : List Nat), j ≤ ds.length ∧ iv = .int .i64 ((j : Int) - 1) ∧ rv = .int .i64 (r : Int) ∧ r < 1000000000 ∧
     vl B30 (ds.drop j) = vl B30 (out.drop j) * 1000000000 + r ∧ out.length = ds.length ∧ (∀ d ∈ out, d < B30) ∧ Blk .i64 w2 w1.heap.size 2 out ∧ Q w1 w2) (fun _ iv _ => (intOf iv + 1).toNat)
    case atStart => exact ⟨ds.length, 0, List.replicate ds.length 0, by omega, rfl, rfl, by omega, by simp [vl], by simp, eD (by decide), Blk.made _ _ _, (Q.refl _).alloc _⟩
    case round =>
     obtain ⟨j, r, out, hj, rfl, rfl, hr, hv, hlo, ho, hb, hq2⟩ := hrel;have HV2 := yW hv; clear hv;have HLO := yW hlo; clear hlo;by_cases hlt : 0 < j
     ·obtain ⟨i, rfl⟩ : ∃ i, j = i + 1 := ⟨j - 1, by omega⟩
      rw [show ((i + 1 : Nat) : Int) - 1 = (i : Int) from by omega];obtain ⟨ad, rfl, hbx, hcx⟩ := (rd.below hq2).at_ (k := i) (by omega);have bx : ds[i] < 1073741824 := wd.1 _ (List.getElem_mem _);have HD := yW (dQ B30 (show i < ds.length by omega));generalize ds[i] = a at *
      have hcell := hb.cell (i := i) (by rw [HLO.out]; omega);have hfz := hb.frozen i;go_wp2_with fail
      refine ⟨⟨i, (r * B30 + a) % 1000000000, out.set i ((r * B30 + a) / 1000000000), by omega, rfl, congrArg (Value.int _) (by rw [aO]; omega), by omega, ?_, by rw [List.length_set, HLO.out],
       dX ho (by rw [aO]; omega), hb.put i _ (by rw [aO]; omega), hq2.setCell (Nat.le_refl _) _⟩, by simp [intOf]⟩
      rw [HD.out, HV2.out, dQ B30 (ds := out.set i ((r * B30 + a) / 1000000000)) (j := i) (by rw [List.length_set, HLO.out]; omega), List.getElem_set_self, drop_set (by omega)];refine xK (V := 1000000000) ?_;rw [Nat.mul_comm B30 r, Nat.mul_comm]; omega
     ·obtain rfl : j = 0 := (by omega);rw [show ((0 : Nat) : Int) - 1 = -1 from by omega];go_wp2_with fail
      refine (lZ _ _ (w1.heap.size + 1) _ _ _ HLO.out (Nat.le_refl _) (by omega) (hb.rd (Nat.lt_succ_self _))).mono ?_;rintro e w3 ⟨k3, hk3, rfl, hnz3, hv3, rfl⟩;have hfin := HV2.out;rw [List.drop_zero, List.drop_zero, HV.out] at hfin;have hqv : Nr wr (.slice (some ⟨w1.heap.size, 0, none⟩) k3 ds.length) (vl B30 out) :=
       Nn.of_blk hb hk3 (by rw [HLO.out] at hk3; exact hk3) hnz3 ho (hv3 _)
      have hk3' : k3 = dg B30 (vl B30 out) := by
       have h1 := Wf.len (b := B30) aJ (xs := out.take k3) ⟨aP ho, hnz3⟩;rw [hv3, List.length_take, Nat.min_eq_left hk3] at h1;exact h1
      generalize vl B30 out = G at *
      have HK := yW hk3';have HF := yW hfin;clear hk3' hfin hv3 hnz3 hk3 hb;clear hd0;have hqq := hq.trans hq2;go_wp2_with fail
      rcases Nat.eq_zero_or_pos G with hG | hG
      ·have hk0 : k3 ≤ 0 := (by rw [HK.out, hG, aT]; exact Nat.le_refl _);have hr0 : 0 < r := (by have := HF.out; rw [hG] at this; omega);have hrg : gk = r := (by have := HF.out; rw [hG] at this; omega);have HRG := yW hrg; have HGZ := yW hG; clear hrg hG;obtain ⟨wo, rfl⟩ : ∃ wo : World, wo = wr := ⟨_, rfl⟩
       go_loopw [5, 7, 8] (fun rv pv iv w4 => ∃ (i q : Nat) (p : ByteArray), i ≤ 9 ∧ iv = .int .i64 (i : Int) ∧ rv = .int .i64 (q : Int) ∧ pv = .string p ∧ q = r / 10 ^ i ∧ q < 1000000000 ∧ (0 < q ∧ dec r = dec q ++ p.data.toList ∨ q = 0 ∧ dec r = p.data.toList) ∧ p.size = i ∧ Q wo w4) (fun _ _ iv _ => 9 - (intOf iv).toNat)
       case atStart => exact ⟨0, r, ByteArray.empty, by omega, rfl, rfl, rfl, by simp, hr, Or.inl ⟨hr0, by simp⟩, rfl, Q.refl _⟩
       case round =>
        obtain ⟨i, q, p, hi, rfl, rfl, rfl, hq0, hq9, hp, hps, hq4⟩ := hrel;have HQ := yW hq0; have HP := yW hp; have HPS := yW hps; clear hq0 hp hps;have hq00 : 9 ≤ i → q = 0 := by
         intro h;obtain rfl : i = 9 := (by omega);rw [HQ.out]; exact Nat.div_eq_of_lt hr
        rcases Nat.eq_zero_or_pos q with hqz | hqz
        ·have hps9 : p.size ≤ 9 := (by rw [HPS.out]; exact hi);have hdr : dec r = p.data.toList := by
          rcases HP.out with ⟨h, _⟩ | ⟨_, h⟩
          ·omega
          ·exact h
         have hnew : dec N = (p ++ t).data.toList := by
          rw [ByteArray.data_append, Array.toList_append, ← hdr, ← HRG.out];rcases HDEC.out with ⟨_, h⟩ | ⟨h, _⟩
          ·exact h
          ·omega
         have hsz : (p ++ t).size ≤ 10995116277760 := by
          have h1 := congrArg List.length hnew;rw [fM, if_neg (by omega)] at h1;have h3 : (p ++ t).data.toList.length = (p ++ t).size := (by rw [Array.length_toList]; rfl);have h2 : dg 10 N ≤ 10 * dg B30 N := by
           refine fT (by decide) ?_;rw [Nat.pow_mul];exact Nat.lt_of_lt_of_le (aS aJ N) (Nat.pow_le_pow_left (by decide) _)
          omega
         have hG4 : Nr wr (.slice (some ⟨w1.heap.size, 0, none⟩) k3 ds.length) 0 := by
          have := hqv.q hq4
          rwa [HGZ.out] at this
         have HN := yW hnew; clear hnew hdr hq00;subst hqz;by_cases h9 : i < 9;all_goals
          go_wp2_with fail
          go_roundg 0
          case measure => exact hg
          case rel => exact ⟨p ++ t, rfl, hsz, hG4, by rw [aT]; omega, Or.inr ⟨rfl, HN.out⟩, hqq.trans hq4⟩
        ·have h9 : i < 9 := by
          rcases Nat.lt_or_ge i 9 with h | h
          ·exact h
          ·have := hq00 h; omega
         clear hq00;have hcv := aFv;have hs1 : (strOfNums [48 + (q : Int) % 10]).size ≤ 1 := Nat.le_of_eq (mE _);have hps9 : p.size ≤ 9 := (by rw [HPS.out]; exact hi);have hdg := aDr (q % 10) p (48 + (q : Int) % 10) (by omega);have hq2' : q / 10 = r / 10 ^ (i + 1) := (by rw [HQ.out, Nat.pow_succ, Nat.div_div_eq_div_mul]);have hdr : dec r = dec q ++ p.data.toList := by
          rcases HP.out with ⟨_, h⟩ | ⟨h, _⟩
          ·exact h
          ·omega
         have hstep : 0 < q / 10 ∧ dec r = dec (q / 10) ++ (dig (q % 10) :: p.data.toList) ∨ q / 10 = 0 ∧ dec r = dig (q % 10) :: p.data.toList := by
          rcases Nat.lt_or_ge q 10 with h | h
          ·refine Or.inr ⟨by omega, ?_⟩;rw [hdr, cZ h, Nat.mod_eq_of_lt h]; rfl
          ·refine Or.inl ⟨by omega, ?_⟩;rw [hdr, jN h, List.append_assoc]; rfl
         rw [← hdg] at hstep;have HST := yW hstep; have HQ2 := yW hq2'; clear hdg hq2' hstep hdr;go_wp2_with fail
         refine ⟨⟨i + 1, q / 10, strOfNums [48 + (q : Int) % 10] ++ p, by omega, by go_num, congrArg (Value.int _) (by omega), rfl, HQ2.out, by omega, HST.out, ?_, hq4.alloc _⟩, by simp [intOf]; omega⟩;rw [ByteArray.size_append, mE, HPS.out]; omega
      ·have hk0 : 0 < k3 := by
        rw [HK.out];rcases Nat.eq_zero_or_pos (dg B30 G) with h | h
        ·have := bI aJ h; omega
        ·exact h
       obtain ⟨wo, rfl⟩ : ∃ wo : World, wo = wr := ⟨_, rfl⟩
       go_loopw [5, 7, 8] (fun rv pv iv w4 => ∃ (i q : Nat) (p : ByteArray), i ≤ 9 ∧ iv = .int .i64 (i : Int) ∧ rv = .int .i64 (q : Int) ∧ pv = .string p ∧ q = r / 10 ^ i ∧ q < 1000000000 ∧ p.data.toList = pd i r ∧ p.size = i ∧ Q wo w4) (fun _ _ iv _ => 9 - (intOf iv).toNat)
       case atStart => exact ⟨0, r, ByteArray.empty, by omega, rfl, rfl, rfl, by simp, hr, rfl, rfl, Q.refl _⟩
       case round =>
        obtain ⟨i, q, p, hi, rfl, rfl, rfl, hq0, hq9, hp, hps, hq4⟩ := hrel;have HQ := yW hq0; have HP := yW hp; have HPS := yW hps; clear hq0 hp hps;by_cases h9 : i < 9
        ·have hcv := aFv;have hs1 : (strOfNums [48 + (q : Int) % 10]).size ≤ 1 := Nat.le_of_eq (mE _);have hps9 : p.size ≤ 9 := (by rw [HPS.out]; exact hi);have hdg := aDr (q % 10) p (48 + (q : Int) % 10) (by omega);have hq2' : q / 10 = r / 10 ^ (i + 1) := (by rw [HQ.out, Nat.pow_succ, Nat.div_div_eq_div_mul]);have HDG := yW hdg; have HQ2 := yW hq2'; clear hdg hq2';go_wp2_with fail
         refine ⟨⟨i + 1, q / 10, strOfNums [48 + (q : Int) % 10] ++ p, by omega, by go_num, congrArg (Value.int _) (by omega), rfl, HQ2.out, by omega, ?_, ?_, hq4.alloc _⟩, by simp [intOf]; omega⟩
         ·rw [HDG.out, HP.out, pd_succ', HQ.out]
         ·rw [ByteArray.size_append, mE, HPS.out]; omega
        ·obtain rfl : i = 9 := (by omega);have hps9 : p.size ≤ 9 := (by rw [HPS.out]; exact Nat.le_refl _);have hnew : dec N = dec G ++ (p ++ t).data.toList := by
          rw [ByteArray.data_append, Array.toList_append, HP.out, ← List.append_assoc, ← yJ hG 9 r hr, show G * 10 ^ 9 + r = gk from HF.out.symm];rcases HDEC.out with ⟨_, h⟩ | ⟨h, _⟩
          ·exact h
          ·omega
         have hsz : (p ++ t).size ≤ 10995116277760 := by
          have h1 := congrArg List.length hnew;rw [List.length_append, fM, if_neg (by omega)] at h1;have h3 : (p ++ t).data.toList.length = (p ++ t).size := (by rw [Array.length_toList]; rfl);have h2 : dg 10 N ≤ 10 * dg B30 N := by
           refine fT (by decide) ?_;rw [Nat.pow_mul];exact Nat.lt_of_lt_of_le (aS aJ N) (Nat.pow_le_pow_left (by decide) _)
          omega
         have hGk : G < gk := (by have := HF.out; omega);have hlG : dg B30 G + 1 ≤ 1099511627776 := (by have := aU aJ (Nat.le_of_lt hGk); omega);have HN := yW hnew; clear hnew;go_wp2_with fail
         go_roundg G
         case measure => exact hGk
         case rel => exact ⟨p ++ t, rfl, hsz, hqv.q hq4, hlG, Or.inl ⟨hG, HN.out⟩, hqq.trans hq4⟩
end Go.Proofs.YtajbfablmpmgbaaGreatDoor
namespace Go.Proofs.YtajbfablmpmgbaaGreatDoor.K
open Go.RowKit
open Ma Me
theorem yB (a b : ByteArray) : (a ++ b).data.toList = a.data.toList ++ b.data.toList := by simp
theorem aG6 (N : Nat) : (ofK (dec N)).size ≤ 20 * dg W64 N + 1 := by
 have e : (ofK (dec N)).size = (dec N).length := by unfold ofK; simp [ByteArray.size]
 rw [e, fM];split
 ·omega
 ·have h := (aI aD N (dg W64 N)).1 (Nat.le_refl _);have h2 : W64 ^ dg W64 N ≤ 10 ^ (20 * dg W64 N) := by
   rw [Nat.pow_mul];exact Nat.pow_le_pow_left (by decide) _
  have h3 := (aI (by decide : 1 < 10) N (20 * dg W64 N)).2 (Nat.lt_of_lt_of_le h h2);omega
theorem vS {p : Rat} (h : 1000 * sz p + 10000 ≤ LIM) : (ofK (dec p.num.natAbs)).size + (ofK (dec p.den)).size + 10 ≤ 9223372036854775807 := by
 have h1 := aG6 p.num.natAbs;have h2 := aG6 p.den;have h3 := aN p;rw [aC] at h;omega
theorem text_zero' {q : Rat} (h : q = 0) : (ofK (dec q.num.natAbs)).data.toList = aX q := by
 subst h;rw [pW];simp [aX]
theorem oH {q : Rat} {n d : Bool} (hn : decide (q.num < 0) = n) (hd : decide (q.den = 1) = d) : aX q = (if n then [45] else []) ++ dec q.num.natAbs ++ (if d then [] else 47 :: dec q.den) := by
 subst hn; subst hd;unfold aX;simp
theorem zT {q : Rat} : sn q < 0 ↔ q.num < 0 := by
 rw [bZ];rcases bP q with ⟨h, e⟩ | ⟨h, e⟩ | ⟨h, e⟩
 ·rw [e]; exact ⟨fun _ => h, fun _ => by decide⟩
 ·rw [e, h]; exact ⟨fun h => absurd h (by decide), fun h => absurd h (by decide)⟩
 ·rw [e]; exact ⟨fun h => absurd h (by decide), fun h2 => by grind⟩
theorem aCr (x : Value) (p : Rat) (w : World) (hx : Rq w x p) (hB : 1000 * sz p + 10000 ≤ LIM) :
  Calls Tryz.prog 75 #[x] w fun e w' => ∃ t : ByteArray, e = .returned (.string t) ∧ t.data.toList = aX p ∧ Q w w' := by
 obtain ⟨x0, x1, x2, rfl, jX⟩ := fmR hx;obtain ⟨w0, hW, hG0, hX0⟩ := tT w 33 [x0, x1, x2];have HB := yW hB; clear hB;have gs0 := yW (sbR hX0 jX hx (St.nil hG0));clear hG0 hX0;go_enter Tryz.func75, Tryz.ntmps75
 go_upto_region 1 with fail
 clear hW;generalize w.heap.size = zz at *
 have N1 := jJ (zr p);refine reg [eP zz 1, .gen (aF ((p).num.natAbs)), .eq (.string (ofK (dec ((p).num.natAbs)))), .eq (.string (ofK (dec ((p).num.natAbs))))] [] [] [] gs0 (fun Z => ?_) fun v1 w1 X gs1 => ?_
 ·refine JC.p Z $ JW.ce 0 1 rn1 Z $ JW.ca (fun Y => (vR _ ((p).num.natAbs) _ (Y.d 1) (ha2 N1 HB (by omega))).mono (by rintro e W9 ⟨t, rfl, ht, hq9⟩; exact ⟨(.string t), rfl, (congrArg Value.string (xZ ht)), hq9⟩)) Z $ JC.p Z $ Ja.Steps.nil
 rw [X.out.e 3 rfl rfl];clear X gs0;go_upto_region 2 with fail
 by_cases hZ : p = 0
 ·have HZ := yW hZ; clear hZ;refine reg [eP zz 0, eI (sn p), eB false] [] [] [] gs1 (fun Z => ?_) fun v2 w2 X gs2 => ?_
  ·refine JC.p Z $ JW.ce 0 0 rn0 Z $ JC.u (.bool (decide ((sn p) < (0)))) (congrArg Value.bool (decide_eq_false (show ¬ ((sn p : Int) < 0) from (by have h9 := aM.2 HZ.out; omega)))) Z $ Ja.Steps.nil
  rw [X.out.e 2 rfl rfl];clear X gs1;go_upto_region 4 with fail
  refine reg [eP zz 0, eI (sn p), eB false, eB false, .no, .no, .no, .no, eB false] [] [] [] gs2 (fun Z => ?_) fun v3 w3 X gs3 => ?_
  ·refine JC.p Z $ JW.ce 0 0 rn0 Z $ JC.u (.bool (!((sn p) == (0)))) (congrArg Value.bool (bne_eq_false_iff_eq.2 (aM.2 HZ.out))) Z $ JC.p Z $ JC.n Z $ JC.n Z $ JC.n Z $ JC.n Z $ JC.p Z $ Ja.Steps.nil
  rw [X.out.e 8 rfl rfl];clear X gs2;go_upto_region 6 with fail
  refine reg [.eq (.string (ofK (dec ((p).num.natAbs)))), .eq (.string (ofK (dec ((p).num.natAbs))))] [] [] [] gs3 (fun Z => ?_) fun v4 w4 X gs4 => ?_
  ·refine JC.p Z $ JC.p Z $ Ja.Steps.nil
  rw [X.out.e 1 rfl rfl];clear X gs3;go_wp2_with fail
  go_ret
  exact ⟨_, rfl, text_zero' HZ.out, gs4.out.q⟩
 ·have HZ := yW hZ; clear hZ;have hc0 : ¬ 9223372036854775807 < 1 + (ofK (dec p.num.natAbs)).size := (by have := vS HB.out; omega);have hc1 : ¬ 9223372036854775807 < (ofK (dec p.num.natAbs)).size + 1 := (by have := vS HB.out; omega);have hc2 : ¬ 9223372036854775807 < 1 + (ofK (dec p.num.natAbs)).size + 1 := (by have := vS HB.out; omega);have hc3 : ¬ 9223372036854775807 < (ofK (dec p.num.natAbs)).size + 1 + (ofK (dec p.den)).size := (by have := vS HB.out; omega);have hc4 : ¬ 9223372036854775807 < 1 + (ofK (dec p.num.natAbs)).size + 1 + (ofK (dec p.den)).size := (by have := vS HB.out; omega);by_cases hN : sn p < 0
  ·have HN := yW hN; clear hN;refine reg [eP zz 0, eI (sn p), eB true] [] [] [] gs1 (fun Z => ?_) fun v2 w2 X gs2 => ?_
   ·refine JC.p Z $ JW.ce 0 0 rn0 Z $ JC.u (.bool (decide ((sn p) < (0)))) (congrArg Value.bool (decide_eq_true (show ((sn p : Int) < 0) from HN.out))) Z $ Ja.Steps.nil
   rw [X.out.e 2 rfl rfl];clear X gs1;go_upto_region 4 with fail
   by_cases hD : p.den = 1
   ·have HD := yW hD; clear hD;refine reg [eP zz 0, eI (sn p), eB true, eB true, eP zz 2, .gen (aF ((p).den)), eB true, eB false, eB false] [] [] [] gs2 (fun Z => ?_) fun v3 w3 X gs3 => ?_
    ·refine JC.p Z $ JW.ce 0 0 rn0 Z $ JC.u (.bool (!((sn p) == (0)))) (congrArg Value.bool (bne_iff_ne.2 (fun h9 => HZ.out (aM.1 h9)))) Z $ JC.p Z $ JC.p Z $ JW.ce 0 2 (rn2 HZ.out) Z $ JW.ca (fun Y => (mD _ ((p).den) true _ (Y.d 5) (decide_eq_true (HD.out))).mono mo0) Z $ JC.p Z $ JC.p Z $ Ja.Steps.nil
    rw [X.out.e 8 rfl rfl];clear X gs2;go_upto_region 6 with fail
    refine reg [.eq (.string ((⟨#[45]⟩ : ByteArray) ++ ofK (dec ((p).num.natAbs)))), .eq (.string ((⟨#[45]⟩ : ByteArray) ++ ofK (dec ((p).num.natAbs))))] [] [] [] gs3 (fun Z => ?_) fun v4 w4 X gs4 => ?_
    ·refine JC.p Z $ JC.p Z $ Ja.Steps.nil
    rw [X.out.e 1 rfl rfl];clear X gs3;go_wp2_with fail
    go_ret
    exact ⟨_, rfl, by rw [oH (n := true) (d := true) (decide_eq_true (zT.1 HN.out)) (decide_eq_true HD.out)]; simp only [yB, pW]; simp, gs4.out.q⟩
   ·have HD := yW hD; clear hD;refine reg [eP zz 0, eI (sn p), eB true, eB true, eP zz 2, .gen (aF ((p).den)), eB false, eB true, eB true] [] [] [] gs2 (fun Z => ?_) fun v3 w3 X gs3 => ?_
    ·refine JC.p Z $ JW.ce 0 0 rn0 Z $ JC.u (.bool (!((sn p) == (0)))) (congrArg Value.bool (bne_iff_ne.2 (fun h9 => HZ.out (aM.1 h9)))) Z $ JC.p Z $ JC.p Z $ JW.ce 0 2 (rn2 HZ.out) Z $ JW.ca (fun Y => (mD _ ((p).den) false _ (Y.d 5) (decide_eq_false (HD.out))).mono mo0) Z $ JC.p Z $ JC.p Z $ Ja.Steps.nil
    rw [X.out.e 8 rfl rfl];clear X gs2;obtain ⟨rx0, rx1, rx2, hX3, nX3⟩ := St.o3 gs3 0; have x2 := hX3.cell 2 rfl;have N2 := kF (zr p);go_wp2_with fail
    refine (vR _ (p.den) _ (rn2 HZ.out _ _ nX3) (ha2 N2 HB (by omega))).mono ?_;rintro e w4 ⟨t9, rfl, ht9, hq4⟩;obtain rfl := xZ ht9;have gs4 := yW (gs3.out.mv hq4); clear x2 hX3 nX3 gs3;go_upto_region 6 with fail
    refine reg [.eq (.string (((⟨#[45]⟩ : ByteArray) ++ ofK (dec ((p).num.natAbs))) ++ (⟨#[47]⟩ : ByteArray) ++ ofK (dec p.den))), .eq (.string (((⟨#[45]⟩ : ByteArray) ++ ofK (dec ((p).num.natAbs))) ++ (⟨#[47]⟩ : ByteArray) ++ ofK (dec p.den)))] [] [] [] gs4 (fun Z => ?_) fun v5 w5 X gs5 => ?_
    ·refine JC.p Z $ JC.p Z $ Ja.Steps.nil
    rw [X.out.e 1 rfl rfl];clear X gs4;go_wp2_with fail
    go_ret
    exact ⟨_, rfl, by rw [oH (n := true) (d := false) (decide_eq_true (zT.1 HN.out)) (decide_eq_false HD.out)]; simp only [yB, pW]; simp, gs5.out.q⟩
  ·have HN := yW hN; clear hN;refine reg [eP zz 0, eI (sn p), eB false] [] [] [] gs1 (fun Z => ?_) fun v2 w2 X gs2 => ?_
   ·refine JC.p Z $ JW.ce 0 0 rn0 Z $ JC.u (.bool (decide ((sn p) < (0)))) (congrArg Value.bool (decide_eq_false (show ¬ ((sn p : Int) < 0) from HN.out))) Z $ Ja.Steps.nil
   rw [X.out.e 2 rfl rfl];clear X gs1;go_upto_region 4 with fail
   by_cases hD : p.den = 1
   ·have HD := yW hD; clear hD;refine reg [eP zz 0, eI (sn p), eB true, eB true, eP zz 2, .gen (aF ((p).den)), eB true, eB false, eB false] [] [] [] gs2 (fun Z => ?_) fun v3 w3 X gs3 => ?_
    ·refine JC.p Z $ JW.ce 0 0 rn0 Z $ JC.u (.bool (!((sn p) == (0)))) (congrArg Value.bool (bne_iff_ne.2 (fun h9 => HZ.out (aM.1 h9)))) Z $ JC.p Z $ JC.p Z $ JW.ce 0 2 (rn2 HZ.out) Z $ JW.ca (fun Y => (mD _ ((p).den) true _ (Y.d 5) (decide_eq_true (HD.out))).mono mo0) Z $ JC.p Z $ JC.p Z $ Ja.Steps.nil
    rw [X.out.e 8 rfl rfl];clear X gs2;go_upto_region 6 with fail
    refine reg [.eq (.string (ofK (dec ((p).num.natAbs)))), .eq (.string (ofK (dec ((p).num.natAbs))))] [] [] [] gs3 (fun Z => ?_) fun v4 w4 X gs4 => ?_
    ·refine JC.p Z $ JC.p Z $ Ja.Steps.nil
    rw [X.out.e 1 rfl rfl];clear X gs3;go_wp2_with fail
    go_ret
    exact ⟨_, rfl, by rw [oH (n := false) (d := true) (decide_eq_false (fun h9 => by have h8 := zT.2 h9; have h7 := HN.out; omega)) (decide_eq_true HD.out)]; simp only [pW]; simp, gs4.out.q⟩
   ·have HD := yW hD; clear hD;refine reg [eP zz 0, eI (sn p), eB true, eB true, eP zz 2, .gen (aF ((p).den)), eB false, eB true, eB true] [] [] [] gs2 (fun Z => ?_) fun v3 w3 X gs3 => ?_
    ·refine JC.p Z $ JW.ce 0 0 rn0 Z $ JC.u (.bool (!((sn p) == (0)))) (congrArg Value.bool (bne_iff_ne.2 (fun h9 => HZ.out (aM.1 h9)))) Z $ JC.p Z $ JC.p Z $ JW.ce 0 2 (rn2 HZ.out) Z $ JW.ca (fun Y => (mD _ ((p).den) false _ (Y.d 5) (decide_eq_false (HD.out))).mono mo0) Z $ JC.p Z $ JC.p Z $ Ja.Steps.nil
    rw [X.out.e 8 rfl rfl];clear X gs2;obtain ⟨rx0, rx1, rx2, hX3, nX3⟩ := St.o3 gs3 0; have x2 := hX3.cell 2 rfl;have N2 := kF (zr p);go_wp2_with fail
    refine (vR _ (p.den) _ (rn2 HZ.out _ _ nX3) (ha2 N2 HB (by omega))).mono ?_;rintro e w4 ⟨t9, rfl, ht9, hq4⟩;obtain rfl := xZ ht9;have gs4 := yW (gs3.out.mv hq4); clear x2 hX3 nX3 gs3;go_upto_region 6 with fail
    refine reg [.eq (.string ((ofK (dec ((p).num.natAbs))) ++ (⟨#[47]⟩ : ByteArray) ++ ofK (dec p.den))), .eq (.string ((ofK (dec ((p).num.natAbs))) ++ (⟨#[47]⟩ : ByteArray) ++ ofK (dec p.den)))] [] [] [] gs4 (fun Z => ?_) fun v5 w5 X gs5 => ?_
    ·refine JC.p Z $ JC.p Z $ Ja.Steps.nil
    rw [X.out.e 1 rfl rfl];clear X gs4;go_wp2_with fail
    go_ret
    exact ⟨_, rfl, by rw [oH (n := false) (d := false) (decide_eq_false (fun h9 => by have h8 := zT.2 h9; have h7 := HN.out; omega)) (decide_eq_false HD.out)]; simp only [yB, pW]; simp, gs5.out.q⟩
theorem zU (x y : Value) (p : Rat) (w : World) (hx : Nq w x p) (hy : Rq w y p) (hB : 2000 * sz p + 500000 ≤ LIM) :
  Calls Tryz.prog 31 #[x, y] w fun e w' => e = .returned (.bool true) ∧ Q w w' := by
 obtain ⟨x0, x1, x2, rfl, jX⟩ := fmN hx;obtain ⟨y0, y1, y2, rfl, jY⟩ := fmR hy;obtain ⟨w0, hW, hG0, hX0, hY0⟩ := cK w 28 [x0, x1, x2] 33 [y0, y1, y2];have gs0 := yW (sbN hX0 jX hx (sbR hY0 jY hy (St.nil hG0)));clear hG0 hX0 hY0;go_enter Tryz.func31, Tryz.ntmps31
 go_upto_region 1 with fail
 clear hW;generalize w.heap.size = zz at *
 have Z1 : Hid (sz p ≤ 549755563) := yW (by rw [aC] at hB; omega);refine reg [gN p, .eq (.string (ofL (aX p))), gR p, .eq (.string (ofL (aX p))), eB true, eB true] [] [] [] gs0 (fun Z => ?_) fun v1 w1 X gs1 => ?_
 ·refine JW.ld 0 Z $ JW.ca (fun Y => (nR _ _ _ (Y.d 0) (by have h0 := Z1.out; omega)).mono (by rintro e W9 ⟨t, rfl, ht, hq9⟩; exact ⟨(.string t), rfl, (congrArg Value.string (pX ht)), hq9⟩)) Z $ JW.ld 1 Z $ JW.ca (fun Y => (aCr _ _ _ (Y.d 2) (ha1 Z1 (by rw [aC]; omega))).mono (by rintro e W9 ⟨t, rfl, ht, hq9⟩; exact ⟨(.string t), rfl, (congrArg Value.string (pX ht)), hq9⟩)) Z $ ?_;refine JC.o Z ?_ ?_
  ·intro L vals W hL hJ hd K hK;have d1 : vals 1 = .string (ofL (aX (p))) := hd 1 (by kernel_rfl);generalize vals 1 = u1 at d1 hK ⊢;subst d1;have d3 : vals 3 = .string (ofL (aX (p))) := hd 3 (by kernel_rfl);generalize vals 3 = u3 at d3 hK ⊢;subst d3;go_simp
   exact hK.out (.bool true) _ _ (by kernel_rfl) rfl (Q.refl _)
  refine JC.p Z $ Ja.Steps.nil
 rw [X.out.e 5 rfl rfl];clear X gs0;go_wp2_with fail
 go_ret
 exact ⟨rfl, gs1.out.q⟩
theorem zV (a : ByteArray) (w : World) (hT : Tb w) (ha : a.size ≤ 9223372036854775806) :
  Calls Tryz.prog 38 #[.string a] w fun e w' => ∃ x y, e = .returned (.tuple #[x, y, .bool (decide ((aH a.data.toList).1 = 0))]) ∧ Nq w' x (aH a.data.toList).2 ∧ Rq w' y (aH a.data.toList).2 ∧ Q w w' := by
 obtain ⟨w0, hW, hG0, hP0, hR0⟩ := cK w 28 [.bool false, .slice none 0 0, .slice none 0 0] 33 [.int .i64 0, .slice none 0 0, .slice none 0 0];have gs0 := yW (sbZ shN hP0 (sbZ shR hR0 (St.nil hG0)));clear hG0 hP0 hR0;go_enter Tryz.func38, Tryz.ntmps38
 go_upto_region 1 with fail
 clear hW;generalize w.heap.size = zz at *
 obtain ⟨ca, Hca⟩ : ∃ z : Int, Hid ((aH a.data.toList).1 = z) := ⟨_, yW rfl⟩
 obtain ⟨p, Hp⟩ : ∃ z : Rat, Hid ((aH a.data.toList).2 = z) := ⟨_, yW rfl⟩
 refine reg [.eq (.string a), .gen (pT2 (fB p) (pEq (.int .i64 ca))), .gen (pT2 (fB p) (pEq (.int .i64 ca))), gN p, eI ca, .any, .any, eI ca] [] [⟨5, 28, [.b, .s, .s], zN, .s 6 3⟩] [] gs0 (fun Z => ?_) fun v1 w1 X gs1 => ?_
 ·refine JC.p Z $ JW.ca (fun Y => (wO a _ (hT.q Y.q) ha).mono (by rintro e W9 ⟨r, rfl, hr, hq9⟩; exact ⟨(.tuple #[r, .int .i64 (aH a.data.toList).1]), rfl, ⟨_, _, rfl, (by have h7 := hr; rw [Hp.out] at h7; exact h7), congrArg (Value.int .i64) Hca.out⟩, hq9⟩)) Z $ JC.m 1 Z $ JW.x2 2 0 Z $ JW.x2 2 1 Z $ JC.al (n := 2) shN Z $ JC.s3 (n := 2) rfl iO Z $ JC.p Z $ Ja.Steps.nil
 rw [X.out.f 5 rfl, X.out.e 7 rfl rfl];clear X gs0;go_upto_region 2 with fail
 refine reg [.eq (.string a), .gen (pT2 (pRn p) (pEq (.int .i64 ca))), .gen (pT2 (pRn p) (pEq (.int .i64 ca))), gR p, eI ca, .any, .any, eI ca] [] [⟨5, 33, [.i, .s, .s], zR, .s 6 3⟩] [] gs1 (fun Z => ?_) fun v2 w2 X gs2 => ?_
 ·refine JC.p Z $ JW.ca (fun Y => (aAv a _ ha).mono (by rintro e W9 ⟨r, rfl, hr, hq9⟩; exact ⟨(.tuple #[r, .int .i64 ((aH a.data.toList).1)]), rfl, ⟨_, _, rfl, (by have h7 := hr; rw [Hp.out] at h7; exact h7), congrArg (Value.int .i64) Hca.out⟩, hq9⟩)) Z $ JC.m 1 Z $ JW.x2 2 0 Z $ JW.x2 2 1 Z $ JC.al (n := 3) shR Z $ JC.s3 (n := 3) rfl fRn Z $ JC.p Z $ Ja.Steps.nil
 rw [X.out.f 5 rfl, X.out.e 7 rfl rfl];clear X gs1;go_upto_region 3 with fail
 by_cases hZ : ca = 0
 ·have HZ := yW hZ; clear hZ;refine reg [gN p, gR p, eI ca, eB true, eB true, eI ca, eB true, eB true, .any, .any, eB true] [.s 8 0, .s 9 1] [] [] gs2 (fun Z => ?_) fun v3 w3 X gs3 => ?_
  ·refine JW.ld 2 Z $ JW.ld 3 Z $ JC.p Z $ JC.u (.bool ((ca) == (0))) (congrArg Value.bool (beq_iff_eq.2 (HZ.out))) Z $ JC.p Z $ JC.p Z $ JC.u (.bool ((ca) == (0))) (congrArg Value.bool (beq_iff_eq.2 (HZ.out))) Z $ JC.p Z $ JC.s3 (n := 0) rfl iO Z $ JC.s3 (n := 1) rfl fRn Z $ JC.p Z $ Ja.Steps.nil
  rw [X.out.e 10 rfl rfl];clear X gs2;go_wp2_with fail
  obtain ⟨rp0, rp1, rp2, hP3, nP3⟩ := St.o3 gs3 0;have hG3 := gs3.out.q;obtain ⟨rr0, rr1, rr2, hR3, nR3⟩ := St.o3 gs3 1;have hG3 := gs3.out.q;have zP0 : w3.cell? ⟨zz, 0, none⟩ = some (rp0) := hP3.cell 0 rfl;have zP1 : w3.cell? ⟨zz, 1, none⟩ = some (rp1) := hP3.cell 1 rfl;have zP2 : w3.cell? ⟨zz, 2, none⟩ = some (rp2) := hP3.cell 2 rfl;have zR0 : w3.cell? ⟨(zz + 1), 0, none⟩ = some (rr0) := hR3.cell 0 rfl;have zR1 : w3.cell? ⟨(zz + 1), 1, none⟩ = some (rr1) := hR3.cell 1 rfl;have zR2 : w3.cell? ⟨(zz + 1), 2, none⟩ = some (rr2) := hR3.cell 2 rfl;refine bodyPost_ret (v := .tuple #[.agg #[rp0, rp1, rp2], .agg #[rr0, rr1, rr2], .bool true]) (by simp [results, Tryz.results38, go_sem, zP0, zP1, zP2, zR0, zR1, zR2]) rfl ?_;exact ⟨_, _, by rw [Hca.out, decide_eq_true HZ.out], by rw [Hp.out]; exact nP3, by rw [Hp.out]; exact nR3, hG3⟩
 ·have HZ := yW hZ; clear hZ;refine reg [gN p, gR p, eI ca, eB false, eB false, .no, .no, eB false, .any, .any, eB false] [.s 8 0, .s 9 1] [] [] gs2 (fun Z => ?_) fun v3 w3 X gs3 => ?_
  ·refine JW.ld 2 Z $ JW.ld 3 Z $ JC.p Z $ JC.u (.bool ((ca) == (0))) (congrArg Value.bool (beq_eq_false_iff_ne.2 (HZ.out))) Z $ JC.p Z $ JC.n Z $ JC.n Z $ JC.p Z $ JC.s3 (n := 0) rfl iO Z $ JC.s3 (n := 1) rfl fRn Z $ JC.p Z $ Ja.Steps.nil
  rw [X.out.e 10 rfl rfl];clear X gs2;go_wp2_with fail
  obtain ⟨rp0, rp1, rp2, hP3, nP3⟩ := St.o3 gs3 0;have hG3 := gs3.out.q;obtain ⟨rr0, rr1, rr2, hR3, nR3⟩ := St.o3 gs3 1;have hG3 := gs3.out.q;have zP0 : w3.cell? ⟨zz, 0, none⟩ = some (rp0) := hP3.cell 0 rfl;have zP1 : w3.cell? ⟨zz, 1, none⟩ = some (rp1) := hP3.cell 1 rfl;have zP2 : w3.cell? ⟨zz, 2, none⟩ = some (rp2) := hP3.cell 2 rfl;have zR0 : w3.cell? ⟨(zz + 1), 0, none⟩ = some (rr0) := hR3.cell 0 rfl;have zR1 : w3.cell? ⟨(zz + 1), 1, none⟩ = some (rr1) := hR3.cell 1 rfl;have zR2 : w3.cell? ⟨(zz + 1), 2, none⟩ = some (rr2) := hR3.cell 2 rfl;refine bodyPost_ret (v := .tuple #[.agg #[rp0, rp1, rp2], .agg #[rr0, rr1, rr2], .bool false]) (by simp [results, Tryz.results38, go_sem, zP0, zP1, zP2, zR0, zR1, zR2]) rfl ?_;exact ⟨_, _, by rw [Hca.out, decide_eq_false HZ.out], by rw [Hp.out]; exact nP3, by rw [Hp.out]; exact nR3, hG3⟩
theorem aFw (a b : Value) (p q pb qb : Rat) (w : World) (hT : Tb w) (ha : Ns w a p q) (hb : Ns w b pb qb) (hB : sz p + sz q + sz pb + sz qb ≤ 10000000) :
  Calls Tryz.prog 13 #[a, b] w fun e w' => ∃ r, e = .returned r ∧ Ns w' r (aB p q + aB pb qb) (aA p q + aA pb qb) ∧ Q w w' := by
 obtain ⟨a0, a1, a2, a3, a4, a5, rfl, jA⟩ := fmS ha;obtain ⟨b0, b1, b2, b3, b4, b5, rfl, jB⟩ := fmS hb;obtain ⟨w0, hW, hG0, hA0, hB0, hT0⟩ := gQ w 30 [a0, a1, a2, a3, a4, a5] 30 [b0, b1, b2, b3, b4, b5] 30 [.bool false, .slice none 0 0, .slice none 0 0, .bool false, .slice none 0 0, .slice none 0 0];have gs0 := yW (sbS hA0 jA ha (sbS hB0 jB hb (sbZ shS hT0 (St.nil hG0))));clear hG0 hA0 hB0 hT0;obtain ⟨Z1, Z2, Z3, Z4⟩ := bz4 hB;have ZS := yW hB; clear hB;go_enter Tryz.func13, Tryz.ntmps13
 go_upto_region 1 with fail
 clear hW;generalize w.heap.size = zz at *
 have Z5 := bO Z1 Z2;have Z6 := bL Z1 Z2;have Z7 := bO Z3 Z4;have Z8 := bL Z3 Z4;refine reg [gS p q, gS (aB p q) (aA p q), gS pb qb, gS (aB pb qb) (aA pb qb), .any, .any] [.s 4 1, .s 5 3] [] [] gs0 (fun Z => ?_) fun v1 w1 X gs1 => ?_
 ·refine JW.ld 0 Z $ JW.ca (fun Y => dC _ _ _ _ (Y.d 0) (bb2 Z1 Z2)) Z $ JW.ld 1 Z $ JW.ca (fun Y => dC _ _ _ _ (Y.d 2) (bb2 Z3 Z4)) Z $ JC.s6 (n := 0) rfl aL Z $ JC.s6 (n := 1) rfl aL Z $ Ja.Steps.nil
 clear X gs0;go_upto_region 2 with fail
 have Z9 := xR Z5 Z7;have Z10 := xR Z6 Z8;refine reg [eP zz 0, gN (aB p q), eP ((zz + 1)) 0, gN (aB pb qb), gN ((aB p q) + (aB pb qb)), eP zz 3, gN (aA p q), eP ((zz + 1)) 3, gN (aA pb qb), gN ((aA p q) + (aA pb qb)), gS ((aB p q) + (aB pb qb)) ((aA p q) + (aA pb qb)), .any] [.k, .k, .s 11 10] [] [] gs1 (fun Z => ?_) fun v2 w2 X gs2 => ?_
 ·refine JC.p Z $ JW.pt 0 0 Z $ JC.p Z $ JW.pt 1 0 Z $ JW.ca (fun Y => aBg _ _ _ _ _ (hT.q Y.q) (Y.d 1) (Y.d 3) (bb2 Z5 Z7)) Z $ JC.p Z $ JW.pt 0 3 Z $ JC.p Z $ JW.pt 1 3 Z $ JW.ca (fun Y => aBg _ _ _ _ _ (hT.q Y.q) (Y.d 6) (Y.d 8) (bb2 Z6 Z8)) Z $ JC.bs 4 9 Z $ JC.s6 (n := 2) rfl aL Z $ Ja.Steps.nil
 clear X gs1;go_wp2_with fail
 exact bT 2 gs2
theorem aFx (a b : Value) (p q pb qb : Rat) (w : World) (hT : Tb w) (ha : Ns w a p q) (hb : Ns w b pb qb) (hB : sz p + sz q + sz pb + sz qb ≤ 10000000) :
  Calls Tryz.prog 15 #[a, b] w fun e w' => ∃ r, e = .returned r ∧ Ns w' r (aB p q - aA pb qb) (aA p q - aB pb qb) ∧ Q w w' := by
 obtain ⟨a0, a1, a2, a3, a4, a5, rfl, jA⟩ := fmS ha;obtain ⟨b0, b1, b2, b3, b4, b5, rfl, jB⟩ := fmS hb;obtain ⟨w0, hW, hG0, hA0, hB0, hT0⟩ := gQ w 30 [a0, a1, a2, a3, a4, a5] 30 [b0, b1, b2, b3, b4, b5] 30 [.bool false, .slice none 0 0, .slice none 0 0, .bool false, .slice none 0 0, .slice none 0 0];have gs0 := yW (sbS hA0 jA ha (sbS hB0 jB hb (sbZ shS hT0 (St.nil hG0))));clear hG0 hA0 hB0 hT0;obtain ⟨Z1, Z2, Z3, Z4⟩ := bz4 hB;have ZS := yW hB; clear hB;go_enter Tryz.func15, Tryz.ntmps15
 go_upto_region 1 with fail
 clear hW;generalize w.heap.size = zz at *
 have Z5 := bO Z1 Z2;have Z6 := bL Z1 Z2;have Z7 := bO Z3 Z4;have Z8 := bL Z3 Z4;refine reg [gS p q, gS (aB p q) (aA p q), gS pb qb, gS (aB pb qb) (aA pb qb), .any, .any] [.s 4 1, .s 5 3] [] [] gs0 (fun Z => ?_) fun v1 w1 X gs1 => ?_
 ·refine JW.ld 0 Z $ JW.ca (fun Y => dC _ _ _ _ (Y.d 0) (bb2 Z1 Z2)) Z $ JW.ld 1 Z $ JW.ca (fun Y => dC _ _ _ _ (Y.d 2) (bb2 Z3 Z4)) Z $ JC.s6 (n := 0) rfl aL Z $ JC.s6 (n := 1) rfl aL Z $ Ja.Steps.nil
 clear X gs0;go_upto_region 2 with fail
 have Z9 := aDP Z5 Z8;have Z10 := aDP Z6 Z7;refine reg [eP zz 0, gN (aB p q), eP ((zz + 1)) 3, gN (aA pb qb), gN ((aB p q) - (aA pb qb)), eP zz 3, gN (aA p q), eP ((zz + 1)) 0, gN (aB pb qb), gN ((aA p q) - (aB pb qb)), gS ((aB p q) - (aA pb qb)) ((aA p q) - (aB pb qb)), .any] [.k, .k, .s 11 10] [] [] gs1 (fun Z => ?_) fun v2 w2 X gs2 => ?_
 ·refine JC.p Z $ JW.pt 0 0 Z $ JC.p Z $ JW.pt 1 3 Z $ JW.ca (fun Y => aD0 _ _ _ _ _ (hT.q Y.q) (Y.d 1) (Y.d 3) (bb2 Z5 Z8)) Z $ JC.p Z $ JW.pt 0 3 Z $ JC.p Z $ JW.pt 1 0 Z $ JW.ca (fun Y => aD0 _ _ _ _ _ (hT.q Y.q) (Y.d 6) (Y.d 8) (bb2 Z6 Z7)) Z $ JC.bs 4 9 Z $ JC.s6 (n := 2) rfl aL Z $ Ja.Steps.nil
 clear X gs1;go_wp2_with fail
 exact bT 2 gs2
end Go.Proofs.YtajbfablmpmgbaaGreatDoor.K
