/- ValueIncludes (a part of the proof): results of numbers are in the results of their spans. No condition. -/
import Derived.Test.YtgpacgadpnpjjaaGreatDoorQn19
set_option maxHeartbeats 4000000
set_option maxRecDepth 100000
namespace Go.Proofs.YtgpacgadpnpjjaaGreatDoor
open Go.RowKit
open Ma Me
theorem nV {neg two : Bool} {f b : List UInt8} (_ : Row f) (hz : f = [48]) (h : neg = true ∨ two = true) : aH neg f b two = (6, 0) := if_pos (.inr ⟨hz, h⟩)
theorem aDU {neg two : Bool} {f : List UInt8} (hr : Row f) (hz : f = [48] ∧ (neg = true ∨ two = true) → False) : ¬ (¬ Row f ∨ (f = [48] ∧ (neg = true ∨ two = true))) := fun h => by
 rcases h with h | h
 ·exact h hr
 ·exact hz h
theorem zP {neg : Bool} {f b : List UInt8} (hr : Row f) (hz : f = [48] ∧ (neg = true ∨ true = true) → False) (h : ¬ Row b ∨ b = [48] ∨ b = [49]) : aH neg f b true = (6, 0) := by
 unfold aH;rw [if_neg (aDU hr hz), if_pos ⟨rfl, h⟩]
theorem xI {neg two : Bool} {f b : List UInt8} (hr : Row f) (hz : f = [48] ∧ (neg = true ∨ two = true) → False) (h : two = true → ¬ (¬ Row b ∨ b = [48] ∨ b = [49])) :
  aH neg f b two = if 1000 < f.length ∨ 1000 < b.length then (3, 0) else if two = false then (0, mkQ neg (dv f) 1) else if Nat.gcd (dv f) (dv b) ≠ 1 then (6, 0) else (0, mkQ neg (dv f) (dv b)) := by
 unfold aH;rw [if_neg (aDU hr hz), if_neg (fun h1 => h h1.1 h1.2)]
theorem jG {neg two : Bool} {f b : List UInt8} (hl : 1000 < f.length ∨ 1000 < b.length) (hr : Row f) (hz : f = [48] ∧ (neg = true ∨ two = true) → False) (h : two = true → ¬ (¬ Row b ∨ b = [48] ∨ b = [49])) : aH neg f b two = (3, 0) := by
 rw [xI hr hz h, if_pos hl]
theorem qQ {neg : Bool} {f b : List UInt8} (hr : Row f) (hz : f = [48] ∧ (neg = true ∨ false = true) → False) (h1 : ¬ 1000 < f.length) (h2 : ¬ 1000 < b.length) : aH neg f b false = (0, mkQ neg (dv f) 1) := by
 rw [xI hr hz (fun h => by cases h), if_neg (fun h => h.elim h1 h2), if_pos rfl]
theorem vT {neg : Bool} {f b : List UInt8} (hr : Row f) (hz : f = [48] ∧ (neg = true ∨ true = true) → False) (h : ¬ (¬ Row b ∨ b = [48] ∨ b = [49])) (h1 : ¬ 1000 < f.length) (h2 : ¬ 1000 < b.length) (hg : Nat.gcd (dv f) (dv b) = 1) : aH neg f b true = (0, mkQ neg (dv f) (dv b)) := by
 rw [xI hr hz (fun _ => h), if_neg (fun h => h.elim h1 h2), if_neg (by decide), if_neg (fun h => h hg)]
theorem zQ {neg : Bool} {f b : List UInt8} (hr : Row f) (hz : f = [48] ∧ (neg = true ∨ true = true) → False) (h : ¬ (¬ Row b ∨ b = [48] ∨ b = [49])) (h1 : ¬ 1000 < f.length) (h2 : ¬ 1000 < b.length) (hg : ¬ Nat.gcd (dv f) (dv b) = 1) : aH neg f b true = (6, 0) := by
 rw [xI hr hz (fun _ => h), if_neg (fun h => h.elim h1 h2), if_neg (by decide), if_pos hg]
theorem vU (s : ByteArray) (w : World) (hT : Tb w) (hs : s.size ≤ 9223372036854775806) : Calls Tryz.prog 9 #[.string s] w fun e w' => ∃ r, e = .returned (.tuple #[r, .int .i64 (aV s.data.toList).1]) ∧ Nq w' r (aV s.data.toList).2 ∧ Q w w' := by
 obtain ⟨w0, hW, hG0, hR0⟩ : ∃ W, w.alloc (.cells #[.bool false, .slice none 0 0, .slice none 0 0] 25) = W ∧ Q w W ∧ Nb W w.heap.size false (.slice none 0 0) (.slice none 0 0) := ⟨_, rfl, (Q.refl _).alloc _, Nb.new w _ _ _⟩
 obtain ⟨neg, hneg⟩ : ∃ neg, dG s.data.toList = neg := ⟨_, rfl⟩
 obtain ⟨two, htwo⟩ : ∃ two, decide (47 ∈ unsigned s.data.toList) = two := ⟨_, rfl⟩
 obtain ⟨f, hf⟩ : ∃ f, eG 47 (unsigned s.data.toList) = f := ⟨_, rfl⟩
 obtain ⟨b, hb⟩ : ∃ b, aft 47 (unsigned s.data.toList) = b := ⟨_, rfl⟩
 have hb2 : two = false → b = [] := fun h => by rw [← hb]; exact (oK (of_decide_eq_false (htwo.trans h))).2
 have hP : aV s.data.toList = aH neg f b two := by unfold aV; rw [hneg, htwo, hf, hb]
 have HP := Lib.hid hP; have HN := Lib.hid hneg; have HT2 := Lib.hid htwo; have HF := Lib.hid hf; have HBb := Lib.hid hb; have HB2 := Lib.hid hb2;clear hP hneg htwo hf hb hb2;go_enter Tryz.func9, Tryz.ntmps9
 go_wp2_with fail
 clear hW;refine (qP s _).mono ?_;rintro e w90 ⟨a, rfl, ha, hsz, rfl⟩;rw [HN.out];have HA := Lib.hid ha; clear ha;go_wp2_with fail
 refine (aDT a 47 _ (by omega)).mono ?_;rintro e w1 ⟨fa, fb, rfl, hfa, hfb, hq1⟩;have hG1 := hG0.trans hq1;have hR1 := hR0.q hq1;rw [HA.out] at hfa hfb ⊢;rw [HT2.out];rw [HF.out] at hfa;rw [HBb.out] at hfb;have la : fa.size = f.length := by rw [Lib.size_eq, hfa]
 have lb : fb.size = b.length := by rw [Lib.size_eq, hfb]
 have ta : fa.toList = f := (ByteArray.toList_eq _).trans hfa;have tb : fb.toList = b := (ByteArray.toList_eq _).trans hfb;have HFA := Lib.hid hfa; have HFB := Lib.hid hfb; have LA := Lib.hid la; have LB := Lib.hid lb; have TA := Lib.hid ta; have TB := Lib.hid tb; clear hfa hfb la lb ta tb;go_wp2_with fail
 refine (aAP fa _).mono ?_;rintro e w2 ⟨rfl, hq2⟩;have hG2 := hG1.trans hq2;have hR2 := hR1.q hq2;rw [HFA.out];by_cases hr : Row f
 ·rw [decide_eq_true hr];by_cases hz : f = [48]
  ·have tz0 : fa.toList = [48] := TA.out.trans hz;have HZ := Lib.hid hz; clear hz;cases neg
   ·cases two
    ·have hbn : b = [] := HB2.out rfl;have hfb0 : ¬ (1000 : Int) < (fb.size : Int) := (by rw [LB.out, hbn]; decide);have HBN := Lib.hid hbn; clear hbn;by_cases hl : 1000 < f.length
     ·have hl2 : (1000 : Int) < (fa.size : Int) := (by rw [LA.out]; omega);have HLL := Lib.hid hl; clear hl;have fz := hR2.frozen;obtain ⟨r0, r1, r2⟩ := hR2.cells;go_wp2_with fail
      have hv := bP w2;obtain ⟨z0, z1, z2, hvF, hqF⟩ := Nq.store hR2 hv hG2 (Nat.le_refl _);unfold put3 at z0 z1 z2 hvF hqF;refine bodyPost_ret (v := .tuple #[.agg #[.bool false, .slice none 0 0, .slice none 0 0], .int .i64 3]) (by simp [results, Tryz.results9, go_sem, z0, z1, z2]) rfl ?_;have hres : aH false f b false = ((3 : Int), (0 : Rat)) := jG (.inl HLL.out) hr (fun h => by rcases h.2 with h | h <;> cases h) (fun h => by cases h);rw [HP.out, hres];exact ⟨_, rfl, hvF, hqF⟩
     ·have hl2 : ¬ (1000 : Int) < (fa.size : Int) := (by rw [LA.out]; omega);have hsf : fa.size + 100 ≤ LIM := (by rw [LA.out, aA]; omega);have HLL := Lib.hid hl; clear hl;go_wp2_with fail
      refine (gK fa _ (by rw [HFA.out]; exact hr.1) hsf).mono ?_;rintro e w3 ⟨t1, rfl, ht1, hq3, -⟩;have hG3 := hG2.trans hq3;have hR3 := hR2.q hq3;have fz := hR3.frozen;obtain ⟨r0, r1, r2⟩ := hR3.cells;rw [HFA.out] at ht1;obtain ⟨A5, n5, c5, rfl⟩ := ht1.form;go_wp2_with fail
      refine (fZ false _ (dv f) _ ht1).mono ?_;rintro e w4 ⟨v5, rfl, hv5, hq4⟩;have hG4 := hG3.trans hq4;have hR4 := hR3.q hq4;clear fz r0 r1 r2;have fz := hR4.frozen;obtain ⟨r0, r1, r2⟩ := hR4.cells;obtain ⟨B1, d1, B2, d2, rfl, -, -⟩ := hv5.form;have hv := Nq.int (q := mkQ false (dv f) 1) hv5 ((eH (by decide) (Nat.gcd_one_right _)).1) ((eH (by decide) (Nat.gcd_one_right _)).2);generalize (decide (0 < dv f) && false) = s4 at *
      generalize dg W64 (dv f) = m1 at *
      generalize dg W64 0 = m2 at *
      go_wp2_with fail
      obtain ⟨z0, z1, z2, hvF, hqF⟩ := Nq.store hR4 hv hG4 (Nat.le_refl _);unfold put3 at z0 z1 z2 hvF hqF;refine bodyPost_ret (v := .tuple #[.agg #[.bool s4, .slice B1 m1 d1, .slice B2 m2 d2], .int .i64 0]) (by simp [results, Tryz.results9, go_sem, z0, z1, z2]) rfl ?_;have hres : aH false f b false = ((0 : Int), (mkQ false (dv f) 1 : Rat)) := qQ hr (fun h => by rcases h.2 with h | h <;> cases h) HLL.out (by rw [HBN.out]; decide);rw [HP.out, hres];exact ⟨_, rfl, hvF, hqF⟩
    ·have fz := hR2.frozen;obtain ⟨r0, r1, r2⟩ := hR2.cells;go_wp2_with fail
     have hv := bP w2;obtain ⟨z0, z1, z2, hvF, hqF⟩ := Nq.store hR2 hv hG2 (Nat.le_refl _);unfold put3 at z0 z1 z2 hvF hqF;refine bodyPost_ret (v := .tuple #[.agg #[.bool false, .slice none 0 0, .slice none 0 0], .int .i64 6]) (by simp [results, Tryz.results9, go_sem, z0, z1, z2]) rfl ?_;have hres : aH false f b true = ((6 : Int), (0 : Rat)) := nV hr HZ.out (.inr rfl);rw [HP.out, hres];exact ⟨_, rfl, hvF, hqF⟩
   ·have fz := hR2.frozen;obtain ⟨r0, r1, r2⟩ := hR2.cells;go_wp2_with fail
    have hv := bP w2;obtain ⟨z0, z1, z2, hvF, hqF⟩ := Nq.store hR2 hv hG2 (Nat.le_refl _);unfold put3 at z0 z1 z2 hvF hqF;refine bodyPost_ret (v := .tuple #[.agg #[.bool false, .slice none 0 0, .slice none 0 0], .int .i64 6]) (by simp [results, Tryz.results9, go_sem, z0, z1, z2]) rfl ?_;have hres : aH true f b two = ((6 : Int), (0 : Rat)) := nV hr HZ.out (.inl rfl);rw [HP.out, hres];exact ⟨_, rfl, hvF, hqF⟩
  ·have tz0 : ¬ fa.toList = [48] := fun h => hz (TA.out.symm.trans h);have tc : (fa.toList == [48]) = false := beq_eq_false_iff_ne.2 tz0;have HZ := Lib.hid hz; clear hz;cases two
   ·have hbn : b = [] := HB2.out rfl;have hfb0 : ¬ (1000 : Int) < (fb.size : Int) := (by rw [LB.out, hbn]; decide);have HBN := Lib.hid hbn; clear hbn;by_cases hl : 1000 < f.length
    ·have hl2 : (1000 : Int) < (fa.size : Int) := (by rw [LA.out]; omega);have HLL := Lib.hid hl; clear hl;have fz := hR2.frozen;obtain ⟨r0, r1, r2⟩ := hR2.cells;go_wp2_with fail
     have hv := bP w2;obtain ⟨z0, z1, z2, hvF, hqF⟩ := Nq.store hR2 hv hG2 (Nat.le_refl _);unfold put3 at z0 z1 z2 hvF hqF;refine bodyPost_ret (v := .tuple #[.agg #[.bool false, .slice none 0 0, .slice none 0 0], .int .i64 3]) (by simp [results, Tryz.results9, go_sem, z0, z1, z2]) rfl ?_;have hres : aH neg f b false = ((3 : Int), (0 : Rat)) := jG (.inl HLL.out) hr (fun h => HZ.out h.1) (fun h => by cases h);rw [HP.out, hres];exact ⟨_, rfl, hvF, hqF⟩
    ·have hl2 : ¬ (1000 : Int) < (fa.size : Int) := (by rw [LA.out]; omega);have hsf : fa.size + 100 ≤ LIM := (by rw [LA.out, aA]; omega);have HLL := Lib.hid hl; clear hl;go_wp2_with fail
     refine (gK fa _ (by rw [HFA.out]; exact hr.1) hsf).mono ?_;rintro e w3 ⟨t1, rfl, ht1, hq3, -⟩;have hG3 := hG2.trans hq3;have hR3 := hR2.q hq3;have fz := hR3.frozen;obtain ⟨r0, r1, r2⟩ := hR3.cells;rw [HFA.out] at ht1;obtain ⟨A5, n5, c5, rfl⟩ := ht1.form;go_wp2_with fail
     refine (fZ neg _ (dv f) _ ht1).mono ?_;rintro e w4 ⟨v5, rfl, hv5, hq4⟩;have hG4 := hG3.trans hq4;have hR4 := hR3.q hq4;clear fz r0 r1 r2;have fz := hR4.frozen;obtain ⟨r0, r1, r2⟩ := hR4.cells;obtain ⟨B1, d1, B2, d2, rfl, -, -⟩ := hv5.form;have hv := Nq.int (q := mkQ neg (dv f) 1) hv5 ((eH (by decide) (Nat.gcd_one_right _)).1) ((eH (by decide) (Nat.gcd_one_right _)).2);generalize (decide (0 < dv f) && neg) = s4 at *
     generalize dg W64 (dv f) = m1 at *
     generalize dg W64 0 = m2 at *
     go_wp2_with fail
     obtain ⟨z0, z1, z2, hvF, hqF⟩ := Nq.store hR4 hv hG4 (Nat.le_refl _);unfold put3 at z0 z1 z2 hvF hqF;refine bodyPost_ret (v := .tuple #[.agg #[.bool s4, .slice B1 m1 d1, .slice B2 m2 d2], .int .i64 0]) (by simp [results, Tryz.results9, go_sem, z0, z1, z2]) rfl ?_;have hres : aH neg f b false = ((0 : Int), (mkQ neg (dv f) 1 : Rat)) := qQ hr (fun h => HZ.out h.1) HLL.out (by rw [HBN.out]; decide);rw [HP.out, hres];exact ⟨_, rfl, hvF, hqF⟩
   ·go_wp2_with fail
    refine (aAP fb _).mono ?_;rintro e w3 ⟨rfl, hq3⟩;have hG3 := hG2.trans hq3;have hR3 := hR2.q hq3;rw [HFB.out];by_cases hr2 : Row b
    ·rw [decide_eq_true hr2];by_cases hb0 : b = [48]
     ·have tb0 : fb.toList = [48] := TB.out.trans hb0;have HB0 := Lib.hid hb0; clear hb0;have fz := hR3.frozen;obtain ⟨r0, r1, r2⟩ := hR3.cells;go_wp2_with fail
      have hv := bP w3;obtain ⟨z0, z1, z2, hvF, hqF⟩ := Nq.store hR3 hv hG3 (Nat.le_refl _);unfold put3 at z0 z1 z2 hvF hqF;refine bodyPost_ret (v := .tuple #[.agg #[.bool false, .slice none 0 0, .slice none 0 0], .int .i64 6]) (by simp [results, Tryz.results9, go_sem, z0, z1, z2]) rfl ?_;have hres : aH neg f b true = ((6 : Int), (0 : Rat)) := zP hr (fun h => HZ.out h.1) (.inr (.inl HB0.out));rw [HP.out, hres];exact ⟨_, rfl, hvF, hqF⟩
     ·have tb0 : ¬ fb.toList = [48] := fun h => hb0 (TB.out.symm.trans h);have tc0 : (fb.toList == [48]) = false := beq_eq_false_iff_ne.2 tb0;by_cases hb1 : b = [49]
      ·have tb1 : fb.toList = [49] := TB.out.trans hb1;have HB0 := Lib.hid hb1; clear hb1 hb0 tb0;have fz := hR3.frozen;obtain ⟨r0, r1, r2⟩ := hR3.cells;go_wp2_with fail
       have hv := bP w3;obtain ⟨z0, z1, z2, hvF, hqF⟩ := Nq.store hR3 hv hG3 (Nat.le_refl _);unfold put3 at z0 z1 z2 hvF hqF;refine bodyPost_ret (v := .tuple #[.agg #[.bool false, .slice none 0 0, .slice none 0 0], .int .i64 6]) (by simp [results, Tryz.results9, go_sem, z0, z1, z2]) rfl ?_;have hres : aH neg f b true = ((6 : Int), (0 : Rat)) := zP hr (fun h => HZ.out h.1) (.inr (.inr HB0.out));rw [HP.out, hres];exact ⟨_, rfl, hvF, hqF⟩
      ·have tb1 : ¬ fb.toList = [49] := fun h => hb1 (TB.out.symm.trans h);have tc1 : (fb.toList == [49]) = false := beq_eq_false_iff_ne.2 tb1;have hok : Hid (¬ (¬ Row b ∨ b = [48] ∨ b = [49])) := fun h => h.elim (fun h => h hr2) (fun h => h.elim hb0 hb1);have HB00 := Lib.hid hb0; clear hb0 hb1;by_cases hl : 1000 < f.length
       ·have hl2 : (1000 : Int) < (fa.size : Int) := (by rw [LA.out]; omega);have HLL := Lib.hid hl; clear hl;have fz := hR3.frozen;obtain ⟨r0, r1, r2⟩ := hR3.cells;go_wp2_with fail
        have hv := bP w3;obtain ⟨z0, z1, z2, hvF, hqF⟩ := Nq.store hR3 hv hG3 (Nat.le_refl _);unfold put3 at z0 z1 z2 hvF hqF;refine bodyPost_ret (v := .tuple #[.agg #[.bool false, .slice none 0 0, .slice none 0 0], .int .i64 3]) (by simp [results, Tryz.results9, go_sem, z0, z1, z2]) rfl ?_;have hres : aH neg f b true = ((3 : Int), (0 : Rat)) := jG (.inl HLL.out) hr (fun h => HZ.out h.1) (fun _ => hok.out);rw [HP.out, hres];exact ⟨_, rfl, hvF, hqF⟩
       ·have hl2 : ¬ (1000 : Int) < (fa.size : Int) := (by rw [LA.out]; omega);have hsf : fa.size + 100 ≤ LIM := (by rw [LA.out, aA]; omega);have HLL := Lib.hid hl; clear hl;by_cases hl3 : 1000 < b.length
        ·have hl4 : (1000 : Int) < (fb.size : Int) := (by rw [LB.out]; omega);have HL3 := Lib.hid hl3; clear hl3;have fz := hR3.frozen;obtain ⟨r0, r1, r2⟩ := hR3.cells;go_wp2_with fail
         have hv := bP w3;obtain ⟨z0, z1, z2, hvF, hqF⟩ := Nq.store hR3 hv hG3 (Nat.le_refl _);unfold put3 at z0 z1 z2 hvF hqF;refine bodyPost_ret (v := .tuple #[.agg #[.bool false, .slice none 0 0, .slice none 0 0], .int .i64 3]) (by simp [results, Tryz.results9, go_sem, z0, z1, z2]) rfl ?_;have hres : aH neg f b true = ((3 : Int), (0 : Rat)) := jG (.inr HL3.out) hr (fun h => HZ.out h.1) (fun _ => hok.out);rw [HP.out, hres];exact ⟨_, rfl, hvF, hqF⟩
        ·have hl4 : ¬ (1000 : Int) < (fb.size : Int) := (by rw [LB.out]; omega);have hsb : fb.size + 100 ≤ LIM := (by rw [LB.out, aA]; omega);have HL3 := Lib.hid hl3; clear hl3;go_wp2_with fail
         refine (gK fa _ (by rw [HFA.out]; exact hr.1) hsf).mono ?_;rintro e w4 ⟨t1, rfl, ht1, hq4, -⟩;have hG4 := hG3.trans hq4;have hR4 := hR3.q hq4;rw [HFA.out] at ht1;obtain ⟨A5, n5, c5, rfl⟩ := ht1.form;go_wp2_with fail
         refine (gK fb _ (by rw [HFB.out]; exact hr2.1) hsb).mono ?_;rintro e w5 ⟨t2, rfl, ht2, hq5, -⟩;have hG5 := hG4.trans hq5;have hR5 := hR4.q hq5;rw [HFB.out] at ht2;obtain ⟨A6, n6, c6, rfl⟩ := ht2.form;have d1 := aBg hr.1 (Nat.le_of_not_lt HLL.out);have d2 := aBg hr2.1 (Nat.le_of_not_lt HL3.out);have hp1 : 0 < dv f := Row.pos hr (HZ.out);have hp2 : 0 < dv b := Row.pos hr2 HB00.out;have hbd : 8 * (dg W64 (dv f) + dg W64 (dv b)) + 80 ≤ LIM := (by rw [aA]; omega);clear d1 d2;go_wp2_with fail
         refine (wR (dv f) (dv b) _ _ _ (hT.q hG5) (ht1.q hq5) ht2 hp1 hp2 hbd).mono ?_;rintro e w6 ⟨t3, rfl, ht3, hq6, -⟩;have hG6 := hG5.trans hq6;have hR6 := hR5.q hq6;obtain ⟨A7, n7, c7, rfl⟩ := ht3.form;go_wp2_with fail
         refine (vJ _ _ _ ht3).mono ?_;rintro e w91 ⟨rfl, rfl⟩;by_cases hg : Nat.gcd (dv f) (dv b) = 1
         ·rw [decide_eq_true hg];have HGC := Lib.hid hg; clear hg;go_wp2_with fail
          refine (dW neg _ _ (dv f) (dv b) _ ((ht1.q hq5).q hq6) (ht2.q hq6)).mono ?_;rintro e w7 ⟨v5, rfl, hv5, hq7⟩;have hG7 := hG6.trans hq7;have hR7 := hR6.q hq7;have fz := hR7.frozen;obtain ⟨r0, r1, r2⟩ := hR7.cells;obtain ⟨B1, d1, B2, d2, rfl, -, -⟩ := hv5.form;have hv := Nq.made (q := mkQ neg (dv f) (dv b)) hv5 ((eH hp2 HGC.out).1) (fun _ => (eH hp2 HGC.out).2);generalize (decide (0 < dv f) && neg) = s4 at *
          generalize dg W64 (if dv f = 0 then 0 else bt (dv b)) = m2 at *
          generalize dg W64 (dv f) = m1 at *
          go_wp2_with fail
          obtain ⟨z0, z1, z2, hvF, hqF⟩ := Nq.store hR7 hv hG7 (Nat.le_refl _);unfold put3 at z0 z1 z2 hvF hqF;refine bodyPost_ret (v := .tuple #[.agg #[.bool s4, .slice B1 m1 d1, .slice B2 m2 d2], .int .i64 0]) (by simp [results, Tryz.results9, go_sem, z0, z1, z2]) rfl ?_;have hres : aH neg f b true = ((0 : Int), (mkQ neg (dv f) (dv b) : Rat)) := vT hr (fun h => HZ.out h.1) hok.out HLL.out HL3.out HGC.out;rw [HP.out, hres];exact ⟨_, rfl, hvF, hqF⟩
         ·rw [decide_eq_false hg];have HGC := Lib.hid hg; clear hg;have fz := hR6.frozen;obtain ⟨r0, r1, r2⟩ := hR6.cells;go_wp2_with fail
          have hv := bP w6;obtain ⟨z0, z1, z2, hvF, hqF⟩ := Nq.store hR6 hv hG6 (Nat.le_refl _);unfold put3 at z0 z1 z2 hvF hqF;refine bodyPost_ret (v := .tuple #[.agg #[.bool false, .slice none 0 0, .slice none 0 0], .int .i64 6]) (by simp [results, Tryz.results9, go_sem, z0, z1, z2]) rfl ?_;have hres : aH neg f b true = ((6 : Int), (0 : Rat)) := zQ hr (fun h => HZ.out h.1) hok.out HLL.out HL3.out HGC.out;rw [HP.out, hres];exact ⟨_, rfl, hvF, hqF⟩
    ·rw [decide_eq_false hr2];have fz := hR3.frozen;obtain ⟨r0, r1, r2⟩ := hR3.cells;go_wp2_with fail
     have hv := bP w3;obtain ⟨z0, z1, z2, hvF, hqF⟩ := Nq.store hR3 hv hG3 (Nat.le_refl _);unfold put3 at z0 z1 z2 hvF hqF;refine bodyPost_ret (v := .tuple #[.agg #[.bool false, .slice none 0 0, .slice none 0 0], .int .i64 6]) (by simp [results, Tryz.results9, go_sem, z0, z1, z2]) rfl ?_;have hres : aH neg f b true = ((6 : Int), (0 : Rat)) := zP hr (fun h => HZ.out h.1) (.inl hr2);rw [HP.out, hres];exact ⟨_, rfl, hvF, hqF⟩
 ·rw [decide_eq_false hr];have fz := hR2.frozen;obtain ⟨r0, r1, r2⟩ := hR2.cells;go_wp2_with fail
  have hv := bP w2;obtain ⟨z0, z1, z2, hvF, hqF⟩ := Nq.store hR2 hv hG2 (Nat.le_refl _);unfold put3 at z0 z1 z2 hvF hqF;refine bodyPost_ret (v := .tuple #[.agg #[.bool false, .slice none 0 0, .slice none 0 0], .int .i64 6]) (by simp [results, Tryz.results9, go_sem, z0, z1, z2]) rfl ?_;have hres : aH neg f b two = ((6 : Int), (0 : Rat)) := if_pos (.inl hr);rw [HP.out, hres];exact ⟨_, rfl, hvF, hqF⟩
def bR (k : Nat) : ByteArray := ⟨(letter k).toArray⟩
def bC (k : Nat) : Int := 3 * (k : Int) - 15
def aFG (k : Nat) : Value := .agg #[.string (bR k), .int .i64 (bC k)]
def gL : Array Value := #[.string (bR 0), .int .i64 (bC 0), .string (bR 1), .int .i64 (bC 1), .string (bR 2), .int .i64 (bC 2), .string (bR 3), .int .i64 (bC 3), .string (bR 4), .int .i64 (bC 4),
 .string (bR 5), .int .i64 (bC 5), .string (bR 6), .int .i64 (bC 6), .string (bR 7), .int .i64 (bC 7), .string (bR 8), .int .i64 (bC 8), .string (bR 9), .int .i64 (bC 9)]
def Px (w : World) : Prop := ∃ t fr, w.heap[(0 : Nat)]? = some (.cells gL t fr)
theorem Px.q {w w' : World} (h : Px w) (hq : Q w w') : Px w' := by
 obtain ⟨t, fr, h⟩ := h;have hlt : (0 : Nat) < w.heap.size := by
  rcases Nat.lt_or_ge (0 : Nat) w.heap.size with hlt | hge
  ·exact hlt
  ·rw [Array.getElem?_eq_none hge] at h; cases h
 exact ⟨t, fr, (hq.heap hlt).trans h⟩
theorem aAQ : (Tryz.prog.info? 165).map (·.size) = some gL.size := by kernel_rfl
theorem tK (k : Nat) (hk : k < 10) (w : World) : (Instr.index 165 (.agg gL) (.int .i64 (k : Int))).run Tryz.prog w = .ok (aFG k) w := by
 rcases (by omega : k = 0 ∨ k = 1 ∨ k = 2 ∨ k = 3 ∨ k = 4 ∨ k = 5 ∨ k = 6 ∨ k = 7 ∨ k = 8 ∨ k = 9) with h | h | h | h | h | h | h | h | h | h
 ·rw [h]; kernel_rfl
 ·rw [h]; kernel_rfl
 ·rw [h]; kernel_rfl
 ·rw [h]; kernel_rfl
 ·rw [h]; kernel_rfl
 ·rw [h]; kernel_rfl
 ·rw [h]; kernel_rfl
 ·rw [h]; kernel_rfl
 ·rw [h]; kernel_rfl
 ·rw [h]; kernel_rfl
theorem aCB {a : Value} {x y : Int} (h : x = y) : Ending.returned (.tuple #[a, .int .i64 x]) = .returned (.tuple #[a, .int .i64 y]) := by rw [h]
def Sf (l : List UInt8) (j : Nat) : Prop := j ≠ 5 ∧ Lib.hasSuffix l (letter j) = true
theorem aAR (l : List UInt8) (c : UInt8) : Lib.hasSuffix l [c] = true ↔ l.getLast? = some c := by
 unfold Lib.hasSuffix;rw [List.isSuffixOf_iff_suffix];constructor
 ·rintro ⟨t, rfl⟩; simp
 ·intro h;obtain ⟨t, ht⟩ := List.getLast?_eq_some_iff.1 h;exact ⟨t, ht.symm⟩
theorem aDH {l : List UInt8} {c : UInt8} (h : Lib.hasSuffix l [c] = true) : Lib.trimSuffix l [c] = l.dropLast := by
 unfold Lib.trimSuffix;rw [if_pos h, List.dropLast_eq_take];rfl
theorem aBs {c : UInt8} {p : Int} (h : pfx c = some p) : ∃ k, k < 10 ∧ k ≠ 5 ∧ letter k = [c] ∧ p = bC k := by
 unfold pfx at h;split at h
 ·cases h; rename_i e; subst e; exact ⟨0, by decide, by decide, rfl, rfl⟩
 split at h
 ·cases h; rename_i e; subst e; exact ⟨1, by decide, by decide, rfl, rfl⟩
 split at h
 ·cases h; rename_i e; subst e; exact ⟨2, by decide, by decide, rfl, rfl⟩
 split at h
 ·cases h; rename_i e; subst e; exact ⟨3, by decide, by decide, rfl, rfl⟩
 split at h
 ·cases h; rename_i e; subst e; exact ⟨4, by decide, by decide, rfl, rfl⟩
 split at h
 ·cases h; rename_i e; subst e; exact ⟨6, by decide, by decide, rfl, rfl⟩
 split at h
 ·cases h; rename_i e; subst e; exact ⟨7, by decide, by decide, rfl, rfl⟩
 split at h
 ·cases h; rename_i e; subst e; exact ⟨8, by decide, by decide, rfl, rfl⟩
 split at h
 ·cases h; rename_i e; subst e; exact ⟨9, by decide, by decide, rfl, rfl⟩
 ·cases h
theorem aCC {l : List UInt8} (h : ∀ j, j < 10 → ¬ Sf l j) : iP l = (l, 0) := by
 unfold iP;cases hl : l.getLast? with
 | none => rfl
 | some c =>
   cases hp : pfx c with
   | none => simp only [hp]
   | some p =>
     obtain ⟨k, hk, h5, hc, -⟩ := aBs hp;exact absurd ⟨h5, by rw [hc]; exact (aAR l c).2 hl⟩ (h k hk)
theorem uU {k : Nat} (hk : k < 10) (h5 : k ≠ 5) : ∃ c, letter k = [c] ∧ pfx c = some (bC k) := by
 rcases (by omega : k = 0 ∨ k = 1 ∨ k = 2 ∨ k = 3 ∨ k = 4 ∨ k = 6 ∨ k = 7 ∨ k = 8 ∨ k = 9) with rfl | rfl | rfl | rfl | rfl | rfl | rfl | rfl | rfl
 ·exact ⟨102, rfl, rfl⟩
 ·exact ⟨112, rfl, rfl⟩
 ·exact ⟨110, rfl, rfl⟩
 ·exact ⟨117, rfl, rfl⟩
 ·exact ⟨109, rfl, rfl⟩
 ·exact ⟨107, rfl, rfl⟩
 ·exact ⟨77, rfl, rfl⟩
 ·exact ⟨71, rfl, rfl⟩
 ·exact ⟨84, rfl, rfl⟩
theorem aCD {l : List UInt8} {k : Nat} (hk : k < 10) (h : Sf l k) : iP l = (Lib.trimSuffix l (letter k), bC k) := by
 obtain ⟨c, hc, hp⟩ := uU hk h.1;have h2 := h.2;rw [hc] at h2 ⊢;rw [aDH h2];unfold iP;rw [(aAR l c).1 h2];simp only [hp]
theorem aAS {k : Nat} (hk : k < 10) (h5 : k ≠ 5) : ((bR k).toList == []) = false := by
 obtain ⟨c, hc, -⟩ := uU hk h5;rw [ByteArray.toList_eq];have : (bR k).data.toList = [c] := hc;rw [this]; rfl
def aEx (l : List UInt8) (w : World) (e : Ending) (w' : World) : Prop := ∃ a : ByteArray, e = .returned (.tuple #[.string a, .int .i64 (iP l).2]) ∧ a.data.toList = (iP l).1 ∧ Q w w'
theorem aAt (s : ByteArray) (w : World) (hp : Px w) (hs : s.size ≤ 9223372036854775806) : Calls Tryz.prog 95 #[.string s] w (aEx s.data.toList w) := by
 obtain ⟨t, fr, hp⟩ := hp;go_enter Tryz.func95, Tryz.ntmps95
 go_wp2_with (refine wpList_load_row rfl 165 (.global 0) rfl 0 rfl t gL fr _ hp Tryz.underlying165 rfl aAQ ?_)
 clear hp;go_loopw [9] (fun i wr => ∃ k : Nat, k ≤ 10 ∧ i = .int .i64 (k : Int) ∧ (∀ j, j < k → ¬ Sf s.data.toList j) ∧ Q w wr) (fun i _ => 10 - (intOf i).toNat)
 case atStart => exact ⟨0, Nat.zero_le _, rfl, fun j hj => absurd hj (Nat.not_lt_zero j), Q.refl _⟩
 case round =>
  obtain ⟨k, hk, rfl, hno, hq⟩ := hrel;by_cases hlt : k < 10
  ·have hix := tK k hlt;obtain ⟨pl, hpl⟩ : ∃ pl, bR k = pl := ⟨_, rfl⟩
   obtain ⟨pp, hpp⟩ : ∃ pp, bC k = pp := ⟨_, rfl⟩
   have hix2 : ∀ w, (Instr.index 165 (.agg gL) (.int .i64 (k : Int))).run Tryz.prog w = .ok (.agg #[.string pl, .int .i64 pp]) w := fun w => by
    rw [tK k hlt w, ← hpl, ← hpp]; rfl
   have HNO := Lib.hid hno;have HPL := Lib.hid hpl; have HPP := Lib.hid hpp;clear hix hno hpl hpp;have hqq := hq.alloc (.cells #[.string pl, .int .i64 pp] 164);go_wp2_with fail
   refine (Tryz.strings_CutSuffix s pl _ (by omega)).mono ?_;rintro e w1 ⟨rfl, rfl⟩;have hrel : Lib.hasSuffix s.data.toList pl.data.toList = Lib.hasSuffix s.data.toList (letter k) := (by rw [← HPL.out]; rfl);have hrel2 : Lib.trimSuffix s.data.toList pl.data.toList = Lib.trimSuffix s.data.toList (letter k) := (by rw [← HPL.out]; rfl);rw [hrel, hrel2];clear hrel hrel2;obtain ⟨ta, hta⟩ : ∃ ta : ByteArray, ⟨(Lib.trimSuffix s.data.toList (letter k)).toArray⟩ = ta := ⟨_, rfl⟩
   rw [hta];have HTA := Lib.hid hta; clear hta;by_cases hsf : Lib.hasSuffix s.data.toList (letter k) = true
   ·rw [hsf];by_cases h5 : k = 5
    ·have hpl5 : (pl.toList == []) = true := (by rw [← HPL.out, h5, ByteArray.toList_eq]; rfl);have hpl6 : pl.toList = [] := (by rw [← HPL.out, h5, ByteArray.toList_eq]; rfl);have H5 := Lib.hid h5; have HSF := Lib.hid hsf; clear h5 hsf;go_wp2_with fail
     go_roundw
     case rel => exact ⟨k + 1, by omega, by go_num, by
      intro j hj hS;rcases (by omega : j < k ∨ j = k) with h | h
      ·exact HNO.out j h hS
      ·subst h; exact hS.1 H5.out, hqq⟩
     case measure => simp [intOf]; omega
    ·have hpl5 : (pl.toList == []) = false := (by rw [← HPL.out]; exact aAS hlt h5);have hpl6 : ¬ pl.toList = [] := (by rw [← HPL.out]; exact ne_of_beq_false (aAS hlt h5));have hres := aCD hlt (l := s.data.toList) ⟨h5, hsf⟩;have HR := Lib.hid hres; have HSF := Lib.hid hsf; clear hres h5 hsf;go_wp2_with fail
     go_quiet (fail)
     go_wp2_with fail
     go_ret2
     exact ⟨ta, aCB (by rw [HR.out, ← HPP.out]), by rw [HR.out, ← HTA.out], hqq.drewN _⟩
   ·have hsf2 : Lib.hasSuffix s.data.toList (letter k) = false := (by simpa using hsf);rw [hsf2];have HSF := Lib.hid hsf; clear hsf hsf2;go_wp2_with fail
    go_roundw
    case rel => exact ⟨k + 1, by omega, by go_num, by
     intro j hj hS;rcases (by omega : j < k ∨ j = k) with h | h
     ·exact HNO.out j h hS
     ·subst h; exact HSF.out hS.2, hqq⟩
    case measure => simp [intOf]; omega
  ·have hk10 : k = 10 := (by omega);have hres := aCC (l := s.data.toList) (fun j hj => hno j (by omega));have HR := Lib.hid hres; clear hres hno;go_wp2_with fail
   go_ret2
   exact ⟨s, aCB (by rw [HR.out]), by rw [HR.out], hq⟩
theorem aFo {a b : ByteArray} {x y : Int} (h1 : a = b) (h2 : x = y) : Ending.returned (.tuple #[.string a, .int .i64 x]) = .returned (.tuple #[.string b, .int .i64 y]) := by rw [h1, h2]
def Eb (w : World) (g : Nat) (pl : ByteArray) (pp : Int) : Prop := w.heap[g]? = some (.cells #[.string pl, .int .i64 pp] 164 (0, 0))
theorem Eb.cells {w : World} {g : Nat} {pl : ByteArray} {pp : Int} (h : Eb w g pl pp) : w.cell? ⟨g, 0, none⟩ = some (.string pl) ∧ w.cell? ⟨g, 1, none⟩ = some (.int .i64 pp) := by
 unfold Eb at h;constructor <;> simp [World.cell?, h]
theorem Eb.frozen {w : World} {g : Nat} {pl : ByteArray} {pp : Int} (h : Eb w g pl pp) (i : Nat) : w.frozen? ⟨g, i, none⟩ = false := by
 unfold Eb at h;simp [World.frozen?, h]
theorem Eb.lt {w : World} {g : Nat} {pl : ByteArray} {pp : Int} (h : Eb w g pl pp) : g < w.heap.size := by
 rcases Nat.lt_or_ge g w.heap.size with hlt | hge
 ·exact hlt
 ·unfold Eb at h; rw [Array.getElem?_eq_none hge] at h; cases h
theorem Eb.q {w w' : World} {g : Nat} {pl : ByteArray} {pp : Int} (h : Eb w g pl pp) (hq : Q w w') : Eb w' g pl pp := (hq.heap h.lt).trans h
def Pb (w : World) (g : Nat) (j : Nat) : Prop := Eb w g (bR j) (bC j)
theorem Pb.cells {w : World} {g j : Nat} (h : Pb w g j) : w.cell? ⟨g, 0, none⟩ = some (.string (bR j)) ∧ w.cell? ⟨g, 1, none⟩ = some (.int .i64 (bC j)) := Eb.cells h
theorem Pb.frozen {w : World} {g j : Nat} (h : Pb w g j) (i : Nat) : w.frozen? ⟨g, i, none⟩ = false := Eb.frozen h i
theorem Pb.lt {w : World} {g j : Nat} (h : Pb w g j) : g < w.heap.size := Eb.lt h
theorem Pb.q {w w' : World} {g j : Nat} (h : Pb w g j) (hq : Q w w') : Pb w' g j := Eb.q h hq
theorem Pb.put {w : World} {g j k : Nat} {pl : ByteArray} {pp : Int} (h : Pb w g j) (h1 : bR k = pl) (h2 : bC k = pp) : Pb ((w.setCell ⟨g, 0, none⟩ (.string pl)).setCell ⟨g, 1, none⟩ (.int .i64 pp)) g k := by
 subst h1 h2;unfold Pb Eb at h ⊢;simp [World.setCell, Array.getElem?_modify, h]
theorem Nb.far {w : World} {g b : Nat} {s : Bool} {t u x y : Value} (h : Nb w g s t u) (hne : g ≠ b) : Nb ((w.setCell ⟨b, 0, none⟩ x).setCell ⟨b, 1, none⟩ y) g s t u := by
 unfold Nb at h ⊢;rw [Below.heap_setCell _ _ _ _ hne, Below.heap_setCell _ _ _ _ hne];exact h
theorem aEy {w w' : World} {g : Nat} {o : Obj} (h : w.heap[g]? = some o) (hq : Q w w') (hg : g < w.heap.size) : w'.heap[g]? = some o := (hq.heap hg).trans h
theorem aBt (x : Value) (p : Rat) (w : World) (hPx : Px w) (hx : Nq w x p) (hB : 64 * sz p + 2000 ≤ LIM) : Calls Tryz.prog 99 #[x] w fun e w' => e = .returned (.tuple #[.string (bR (iQ p 10)), .int .i64 (bC (iQ p 10))]) ∧ Q w w' := by
 obtain ⟨s1, A1, n1, c1, A2, n2, c2, rfl, E1, Z1, O1, hxt, hxb⟩ := hx.form;obtain ⟨w0, hW, hG0, hX0⟩ := kM w s1 (.slice A1 n1 c1) (.slice A2 n2 c2);have HB := Lib.hid hB; clear hB;obtain ⟨t, fr, hp⟩ := hPx.q hG0;have g0 : w0.cell? ⟨0, 0, none⟩ = some (.string (bR 0)) := by rw [cell_of_row w0 _ 0 _ t fr hp]; rfl
 have g1 : w0.cell? ⟨0, 1, none⟩ = some (.int .i64 (bC 0)) := by rw [cell_of_row w0 _ 1 _ t fr hp]; rfl
 have glt : (0 : Nat) < w0.heap.size := World.block_lt_of_cell? w0 _ g0;have hs0 : w.heap.size ≠ w0.heap.size := Nat.ne_of_lt hX0.lt;have hs0le : w.heap.size ≤ w0.heap.size := Nat.le_of_lt hX0.lt;go_enter Tryz.func99, Tryz.ntmps99
 go_wp2_with (refine wpList_load_row rfl 165 (.global 0) rfl 0 rfl t gL fr _ (aEy hp ((Q.refl _).alloc _) glt) Tryz.underlying165 rfl aAQ ?_)
 clear hW;have hb0 : Pb (w0.alloc (.cells #[.string (bR 0), .int .i64 (bC 0)] 164)) w0.heap.size 0 := heap_alloc_new w0 _;have hX1 := hX0.q ((Q.refl w0).alloc (.cells #[.string (bR 0), .int .i64 (bC 0)] 164));have hG1 := hG0.alloc (.cells #[.string (bR 0), .int .i64 (bC 0)] 164);clear g0 g1 hp;go_loopw [10] (fun i wr => ∃ k : Nat, k ≤ 10 ∧ i = .int .i64 (k : Int) ∧ Pb wr w0.heap.size (iQ p k) ∧ Nb wr w.heap.size s1 (.slice A1 n1 c1) (.slice A2 n2 c2) ∧ Q w wr) (fun i _ => 10 - (intOf i).toNat)
 case atStart => exact ⟨0, Nat.zero_le _, rfl, hb0, hX1, hG1⟩
 case round =>
  obtain ⟨k, hk, rfl, hbk, hXk, hGk⟩ := hrel;clear hb0 hX1 hG1;obtain ⟨j, hj⟩ : ∃ j, iQ p k = j := ⟨_, rfl⟩
  rw [hj] at hbk;have HJ := Lib.hid hj; clear hj;by_cases hlt : k < 10
  ·obtain ⟨pl, hpl⟩ : ∃ pl, bR k = pl := ⟨_, rfl⟩
   obtain ⟨pp, hpp⟩ : ∃ pp, bC k = pp := ⟨_, rfl⟩
   have hix2 : ∀ w, (Instr.index 165 (.agg gL) (.int .i64 (k : Int))).run Tryz.prog w = .ok (.agg #[.string pl, .int .i64 pp]) w := fun w => by
    rw [tK k hlt w, ← hpl, ← hpp]; rfl
   have hp15 : pp.natAbs ≤ 15 := (by rw [← hpp]; unfold bC; omega);have hp1m : pp.natAbs ≤ 1000000 := (by omega);have hcb : 64 * (sz p + sz (aS pp)) + 400 ≤ LIM := (by have h1 := qD pp; have := HB.out; rw [aA] at *; omega);obtain ⟨c, hc⟩ : ∃ c, rc p (aS pp) = c := ⟨_, rfl⟩
   have hcge := aDP p (aS pp);rw [hc] at hcge;have hstep : iQ p (k + 1) = if 0 ≤ c then k else j := by
    have h1 : iQ p (k + 1) = if aS (3 * (k : Int) - 15) ≤ p then k else iQ p k := rfl;rw [h1, HJ.out];have h2 : aS (3 * (k : Int) - 15) = aS pp := (by rw [← hpp]; rfl);rw [h2];by_cases h : 0 ≤ c
    ·rw [if_pos h, if_pos (hcge.1 h)]
    ·rw [if_neg h, if_neg (fun h3 => h (hcge.2 h3))]
   have HC := Lib.hid hc; have HPL := Lib.hid hpl; have HPP := Lib.hid hpp; have HST := Lib.hid hstep;clear hc hpl hpp hstep hcge hp15;obtain ⟨w2, hw2⟩ : ∃ w2, wr.alloc (.cells #[.string pl, .int .i64 pp] 164) = w2 := ⟨_, rfl⟩
   have hqa : Q wr w2 := (by rw [← hw2]; exact (Q.refl _).alloc _);have hEn : w2.heap[wr.heap.size]? = some (.cells #[.string pl, .int .i64 pp] 164 (0, 0)) := (by rw [← hw2]; exact heap_alloc_new wr _);have hne : wr.heap.size ≠ w0.heap.size := (by have := hbk.lt; omega);go_wp2_with fail
   clear hw2 hix2;have hX2 := hXk.q hqa;have hb2 := hbk.q hqa;have hG2 := hGk.trans hqa;have hE2 : Eb w2 wr.heap.size pl pp := hEn;clear hEn;obtain ⟨x0, x1, x2⟩ := hX2.cells;obtain ⟨f0, f1⟩ := hE2.cells
   go_region_held3 (fun W => W.cell? ⟨w.heap.size, 0, none⟩ = some (.bool s1) ∧ W.cell? ⟨w.heap.size, 1, none⟩ = some (.slice A1 n1 c1) ∧ W.cell? ⟨w.heap.size, 2, none⟩ = some (.slice A2 n2 c2) ∧ W.cell? ⟨wr.heap.size, 1, none⟩ = some (.int .i64 pp)) (first | exact ⟨x0, x1, x2, f1⟩ | exact ⟨by assumption, by assumption, by assumption, by assumption⟩ | go_keep) (first
    | (go_at_call 114; (with_reducible refine (uS _ _ p (aS pp) _ (hx.q hG3) htv hcb).mono ?_); rintro e w4 ⟨rfl, hq4⟩; rw [HC.out]; have hG4 := hG3.trans hq4; have hX4 := hX3.q hq4; have hE4 := hE3.q hq4; have hb4 := hb3.q hq4; obtain ⟨x0, x1, x2⟩ := hX4.cells; obtain ⟨f0, f1⟩ := hE4.cells)
    | (go_at_call 97; (with_reducible refine (nU pp _ hp1m).mono ?_); rintro e w3 ⟨tv, rfl, htv, hq3d⟩; have hq3 : Q w2 w3 := (Q.refl w2).drew.trans hq3d; obtain ⟨s7, A7, n7, c7, A8, n8, c8, rfl, -⟩ := htv.form; have hG3 := hG2.trans hq3; have hX3 := hX2.q hq3; have hE3 := hE2.q hq3; have hb3 := hb2.q hq3; obtain ⟨x0, x1, x2⟩ := hX3.cells; obtain ⟨f0, f1⟩ := hE3.cells))
   all_goals
    obtain ⟨f0, f1⟩ := hE4.cells;obtain ⟨r0, r1⟩ := hb4.cells;have fz := hb4.frozen;by_cases hc0 : 0 ≤ c
    ·have hres : iQ p (k + 1) = k := (by rw [HST.out, if_pos hc0]);have HRES := Lib.hid hres; clear hres;go_wp2_with fail
     go_roundw
     case rel => exact ⟨k + 1, by omega, by go_num, by rw [HRES.out]; exact hb4.put HPL.out HPP.out, hX4.far hs0, (hG4.setCell (by exact hs0le) _).setCell (by exact hs0le) _⟩
     case measure => simp [intOf]; omega
    ·have hres : iQ p (k + 1) = j := (by rw [HST.out, if_neg hc0]);have HRES := Lib.hid hres; clear hres;go_wp2_with fail
     go_roundw
     case rel => exact ⟨k + 1, by omega, by go_num, by rw [HRES.out]; exact hb4, hX4, hG4⟩
     case measure => simp [intOf]; omega
  ·have hk10 : k = 10 := (by omega);subst hk10;obtain ⟨pl, hpl⟩ : ∃ pl, bR j = pl := ⟨_, rfl⟩
   obtain ⟨pp, hpp⟩ : ∃ pp, bC j = pp := ⟨_, rfl⟩
   obtain ⟨r0, r1⟩ := hbk.cells;rw [hpl] at r0;rw [hpp] at r1;have HPL := Lib.hid hpl; have HPP := Lib.hid hpp;clear hpl hpp;go_wp2_with fail
   go_quiet (fail)
   go_wp2_with fail
   go_ret2
   exact ⟨aFo (by rw [HJ.out, HPL.out]) (by rw [HJ.out, HPP.out]), hGk.drewN _⟩
theorem uV {neg two : Bool} {f b : List UInt8} {p : Int} (h : ¬ (¬ jP f ∨ (two = true ∧ ¬ jP b))) (hl : 400 < f.length + b.length) : iU neg f b two p = (3, 0) := by
 unfold iU;rw [if_neg h, if_pos hl]
theorem zR {neg two : Bool} {f b : List UInt8} {p : Int} (h : ¬ (¬ jP f ∨ (two = true ∧ ¬ jP b))) (hl : ¬ 400 < f.length + b.length) : iU neg f b two p = (0, sgQ neg ((dv (f ++ b) : Nat) : Rat) * aS (p - b.length)) := by
 unfold iU;rw [if_neg h, if_neg hl]
theorem zS (l : List UInt8) : 0 ≤ Lib.indexByte l 47 ↔ 47 ∈ l := by
 have h1 := Lib.indexByte_ge l 47;constructor
 ·intro h;obtain ⟨k, hk⟩ := Int.eq_ofNat_of_zero_le h;exact List.mem_of_getElem? (Lib.indexByte_some hk).1
 ·intro hm;rcases (by omega : Lib.indexByte l 47 = -1 ∨ 0 ≤ Lib.indexByte l 47) with h | h
  ·obtain ⟨j, hj, hj2⟩ := List.getElem_of_mem hm;exact absurd (by rw [List.getElem?_eq_getElem hj, hj2]) (Lib.indexByte_none h j)
  ·exact h
theorem aDI (l : List UInt8) : (iP l).1.length ≤ l.length := by
 unfold iP;split
 ·split
  ·show l.dropLast.length ≤ _; rw [List.length_dropLast]; omega
  ·exact Nat.le_refl _
 ·exact Nat.le_refl _
theorem aDJ (c : UInt8) (l : List UInt8) : (eG c l).length + (aft c l).length ≤ l.length := by
 rcases oJ c l with ⟨-, h1, h2⟩ | ⟨-, h⟩
 ·rw [h1, h2]; simp
 ·have := congrArg List.length h;rw [List.length_append, List.length_cons] at this;omega
theorem nD (s : Bool) (n : Nat) : (sgQ s ((n : Nat) : Rat)).num = sg s n ∧ (sgQ s ((n : Nat) : Rat)).den = 1 := by
 cases s
 ·exact ⟨Rat.num_natCast _, Rat.den_natCast _⟩
 ·unfold sgQ sg;rw [if_pos rfl, if_pos rfl, Rat.neg_num, Rat.neg_den];exact ⟨by rw [Rat.num_natCast], Rat.den_natCast _⟩
theorem aAT (s : Bool) (l : List UInt8) (h : aY l) (hl : l.length ≤ 400) : sz (sgQ s ((dv l : Nat) : Rat)) ≤ 401 := by
 have h1 := uJ (dv l);have h2 := aBg h hl;unfold sgQ;split
 ·rw [nP]; omega
 ·omega
theorem aFp (s : ByteArray) (w : World) (hT : Tb w) (hPx : Px w) (hs : s.size ≤ 9223372036854775806) : Calls Tryz.prog 17 #[.string s] w fun e w' => ∃ r, e = .returned (.tuple #[r, .int .i64 (oL s.data.toList).1]) ∧ Nq w' r (oL s.data.toList).2 ∧ Q w w' := by
 obtain ⟨w0, hW, hG0, hR0⟩ : ∃ W, w.alloc (.cells #[.bool false, .slice none 0 0, .slice none 0 0] 25) = W ∧ Q w W ∧ Nb W w.heap.size false (.slice none 0 0) (.slice none 0 0) := ⟨_, rfl, (Q.refl _).alloc _, Nb.new w _ _ _⟩
 by_cases h47 : 47 ∈ s.data.toList
 ·have hP : oL s.data.toList = aV s.data.toList := if_pos h47;have HP := Lib.hid hP; clear hP;have hix := (zS s.data.toList).2 h47;have HIX := Lib.hid hix; clear hix h47;obtain ⟨er, her⟩ : ∃ er, (aV s.data.toList).1 = er := ⟨_, rfl⟩
  have HER := Lib.hid her; clear her;go_enter Tryz.func17, Tryz.ntmps17
  go_wp2_with fail
  clear hW;refine (Tryz.strings_Contains_one s 47 _).mono ?_;rintro e w90 ⟨rfl, rfl⟩;rw [decide_eq_true HIX.out];go_wp2_with fail
  refine (vU s _ (hT.q hG0) hs).mono ?_;rintro e w1 ⟨r, rfl, hv, hq1⟩;have hG1 := hG0.trans hq1;have hR1 := hR0.q hq1;have fz := hR1.frozen;obtain ⟨r0, r1, r2⟩ := hR1.cells;rw [HER.out];obtain ⟨s6, B1, m1, d1, B2, m2, d2, rfl, -⟩ := hv.form;go_wp2_with fail
  obtain ⟨z0, z1, z2, hvF, hqF⟩ := Nq.store hR1 hv hG1 (Nat.le_refl _);unfold put3 at z0 z1 z2 hvF hqF;refine bodyPost_ret (v := .tuple #[.agg #[.bool s6, .slice B1 m1 d1, .slice B2 m2 d2], .int .i64 er]) (by simp [results, Tryz.results17, go_sem, z0, z1, z2]) rfl ?_;rw [HP.out, HER.out];exact ⟨_, rfl, hvF, hqF⟩
 ·have HIX : Hid (decide (0 ≤ Lib.indexByte s.data.toList 47) = false) := decide_eq_false (fun h => h47 ((zS s.data.toList).1 h));obtain ⟨neg, hneg⟩ : ∃ neg, dG s.data.toList = neg := ⟨_, rfl⟩
  obtain ⟨r, hr⟩ : ∃ r, (iP (unsigned s.data.toList)).1 = r := ⟨_, rfl⟩
  obtain ⟨p, hp⟩ : ∃ p, (iP (unsigned s.data.toList)).2 = p := ⟨_, rfl⟩
  have hpl := aEl (unsigned s.data.toList);rw [hp] at hpl;obtain ⟨two, htwo⟩ : ∃ two, decide (46 ∈ r) = two := ⟨_, rfl⟩
  obtain ⟨f, hf⟩ : ∃ f, eG 46 r = f := ⟨_, rfl⟩
  obtain ⟨b, hb⟩ : ∃ b, aft 46 r = b := ⟨_, rfl⟩
  have hb2 : two = false → b = [] := fun h => (by rw [← hb]; exact (oK (of_decide_eq_false (htwo.trans h))).2);have hP : oL s.data.toList = iU neg f b two p := (by unfold oL; rw [if_neg h47, hneg, hr, hp, htwo, hf, hb]);have HP := Lib.hid hP; clear hP;have HN := Lib.hid hneg; clear hneg;have HRR := Lib.hid hr; clear hr;have HPP := Lib.hid hp; clear hp;have HT2 := Lib.hid htwo; clear htwo;have HF := Lib.hid hf; clear hf;have HBb := Lib.hid hb; clear hb;have HB2 := Lib.hid hb2; clear hb2;have H47 := Lib.hid h47; clear h47;have hpl1 : -15 ≤ p := (by omega);have hpl2 : p ≤ 15 := (by omega);clear hpl;go_enter Tryz.func17, Tryz.ntmps17
  go_wp2_with fail
  clear hW;refine (Tryz.strings_Contains_one s 47 _).mono ?_;rintro e w90 ⟨rfl, rfl⟩;rw [HIX.out];go_wp2_with fail
  refine (qP s _).mono ?_;rintro e w91 ⟨a, rfl, ha, hsz, rfl⟩;rw [HN.out];have HA := Lib.hid ha; clear ha;go_wp2_with fail
  refine (aAt a _ (hPx.q hG0) (by omega)).mono ?_;rintro e w1 ⟨c, rfl, hc, hq1⟩;have hG1 := hG0.trans hq1;have hR1 := hR0.q hq1;rw [HA.out] at hc ⊢;rw [HPP.out];rw [HRR.out] at hc;have hcs : c.size ≤ 9223372036854775806 := (by have h1 := aDI (unsigned s.data.toList); rw [HRR.out, ← hc, ← HA.out, ← Lib.size_eq, ← Lib.size_eq] at h1; omega);have HC := Lib.hid hc; clear hc;go_wp2_with fail
  refine (aDT c 46 _ hcs).mono ?_;rintro e w2 ⟨fa, fb, rfl, hfa, hfb, hq2⟩;have hG2 := hG1.trans hq2;have hR2 := hR1.q hq2;rw [HC.out] at hfa hfb ⊢;rw [HT2.out];rw [HF.out] at hfa;rw [HBb.out] at hfb;have la : fa.size = f.length := (by rw [Lib.size_eq, hfa]);have lb : fb.size = b.length := (by rw [Lib.size_eq, hfb]);have lc : fa.size + fb.size ≤ c.size := (by have h1 := aDJ 46 r; rw [HF.out, HBb.out] at h1; rw [la, lb, Lib.size_eq, HC.out]; exact h1);have HFA := Lib.hid hfa; have HFB := Lib.hid hfb; have LA := Lib.hid la; have LB := Lib.hid lb; clear hfa hfb la lb;go_wp2_with fail
  refine (jZ fa _).mono ?_;rintro e w3 ⟨rfl, hq3⟩;have hG3 := hG2.trans hq3;have hR3 := hR2.q hq3;rw [HFA.out];by_cases hd : jP f
  ·rw [show jY f = true from decide_eq_true hd];cases two
   ·have hok : Hid (¬ (¬ jP f ∨ (false = true ∧ ¬ jP b))) := fun h => h.elim (fun h => h hd) (fun h => by cases h.1);have hAb : aY b := (by rw [HB2.out rfl]; intro c hc; simp at hc);have HAB : Hid (aY (f ++ b)) := fun c hc => (List.mem_append.1 hc).elim (hd.1 c) (hAb c);clear hAb;by_cases hl : 400 < f.length + b.length
    ·have hl2 : (400 : Int) < (fa.size : Int) + (fb.size : Int) := (by rw [LA.out, LB.out]; omega);have HLL := Lib.hid hl; clear hl;have fz := hR3.frozen;obtain ⟨r0, r1, r2⟩ := hR3.cells;go_wp2_with fail
     have hv := bP w3;have hres : iU neg f b false p = ((3 : Int), (0 : Rat)) := uV (by have h := hok.out; simp at h ⊢; exact h) HLL.out;obtain ⟨z0, z1, z2, hvF, hqF⟩ := Nq.store hR3 hv hG3 (Nat.le_refl _);unfold put3 at z0 z1 z2 hvF hqF;refine bodyPost_ret (v := .tuple #[.agg #[.bool false, .slice none 0 0, .slice none 0 0], .int .i64 3]) (by simp [results, Tryz.results17, go_sem, z0, z1, z2]) rfl ?_;rw [HP.out, hres];exact ⟨_, rfl, hvF, hqF⟩
    ·have hl2 : ¬ (400 : Int) < (fa.size : Int) + (fb.size : Int) := (by rw [LA.out, LB.out]; omega);have hsa : fa.size ≤ 400 := (by rw [LA.out]; omega);have hsb : fb.size ≤ 400 := (by rw [LB.out]; omega);have HLL := Lib.hid hl; clear hl;have hcat : (fa ++ fb).data.toList = f ++ b := (by rw [dQ, HFA.out, HFB.out]);have hcs2 : (fa ++ fb).size + 100 ≤ LIM := (by rw [ByteArray.size_append, aA]; omega);have HCAT := Lib.hid hcat; clear hcat;go_wp2_with fail
     refine (gK (fa ++ fb) _ (by rw [HCAT.out]; exact HAB.out) hcs2).mono ?_;rintro e w4 ⟨t1, rfl, ht1, hq4, -⟩;have hG4 := hG3.trans hq4;have hR4 := hR3.q hq4;rw [HCAT.out] at ht1;obtain ⟨A5, n5, c5, rfl⟩ := ht1.form;go_wp2_with fail
     refine (fZ neg _ (dv (f ++ b)) _ ht1).mono ?_;rintro e w5 ⟨v5, rfl, hv5, hq5⟩;have hG5 := hG4.trans hq5;have hR5 := hR4.q hq5;obtain ⟨B1, d1, B2, d2, rfl, -, -⟩ := hv5.form;have hv := Nq.int (q := sgQ neg ((dv (f ++ b) : Nat) : Rat)) hv5 (nD neg _).1 (nD neg _).2;generalize (decide (0 < dv (f ++ b)) && neg) = s4 at *
     generalize dg W64 (dv (f ++ b)) = m1 at *
     generalize dg W64 0 = m2 at *
     have hqd : Q w5 (w5.alloc (.cells #[.bool s4, .slice B1 m1 d1, .slice B2 m2 d2] 25)) := (Q.refl _).alloc _;have hE : Nb (w5.alloc (.cells #[.bool s4, .slice B1 m1 d1, .slice B2 m2 d2] 25)) w5.heap.size s4 (.slice B1 m1 d1) (.slice B2 m2 d2) := Nb.new _ _ _ _;have neE : w5.heap.size ≠ w.heap.size := (by have := hR5.lt; omega);have tw1 : IntKind.i64.wrap (p - (fb.size : Int)) = p - (fb.size : Int) := IntWalk.i64_in _ (by omega);have hz2 := aAT neg (f ++ b) HAB.out (show (f ++ b).length ≤ 400 by rw [List.length_append]; exact Nat.le_of_not_lt HLL.out);have hz3 := qD (p - (fb.size : Int));have hB : 16 * (sz (sgQ neg ((dv (f ++ b) : Nat) : Rat)) + sz (aS (p - (fb.size : Int)))) + 100 ≤ LIM := (by rw [aA]; omega);clear hz2 hz3;go_wp2_with fail
     generalize hwd : w5.alloc (.cells #[.bool s4, .slice B1 m1 d1, .slice B2 m2 d2] 25) = w6 at *
     clear hwd;have hG6 := hG5.trans hqd;have hR6 := hR5.q hqd;have hE6 := hE;have hv6 := hv.q hqd;clear hv;obtain ⟨e0, e1, e2⟩ := hE6.cells
     go_region_held3 (fun W => W.cell? ⟨w5.heap.size, 0, none⟩ = some (.bool s4) ∧ W.cell? ⟨w5.heap.size, 1, none⟩ = some (.slice B1 m1 d1) ∧ W.cell? ⟨w5.heap.size, 2, none⟩ = some (.slice B2 m2 d2)) (first | exact ⟨e0, e1, e2⟩ | exact ⟨by assumption, by assumption, by assumption⟩ | exact ⟨(dX neE).trans (by assumption), (dX neE).trans (by assumption), (dX neE).trans (by assumption)⟩ | go_keep) (first
      | (go_at_call 22; refine (rQ _ _ (sgQ neg ((dv (f ++ b) : Nat) : Rat)) (aS (p - (fb.size : Int))) _ (hT.q hG7) (hv6.q hq7) htv hB).mono ?_; rintro e w8 ⟨v9, rfl, hv, hq8⟩; have hG8 := hG7.trans hq8; have hR8 := hR7.q hq8; have hE8 := hE7.q hq8; obtain ⟨e0, e1, e2⟩ := hE8.cells; have fz := hR8.frozen; obtain ⟨r0, r1, r2⟩ := hR8.cells; obtain ⟨s8, C1, l1, g1, C2, l2, g2, rfl, -⟩ := hv.form)
      | (go_at_call 97; refine (nU (p - (fb.size : Int)) _ (by omega)).mono ?_; rintro e w7 ⟨tv, rfl, htv, hq7d⟩; have hq7 : Q w6 w7 := (Q.refl w6).drew.trans hq7d; have hG7 := hG6.trans hq7; have hR7 := hR6.q hq7; have hE7 := hE6.q hq7; obtain ⟨e0, e1, e2⟩ := hE7.cells; obtain ⟨s7, A7, n7, c7, A8, n8, c8, rfl, -⟩ := htv.form))
     all_goals
      go_wp2_with fail
      have hres : iU neg f b false p = ((0 : Int), sgQ neg ((dv (f ++ b) : Nat) : Rat) * aS (p - (fb.size : Int))) := (by rw [LB.out]; exact zR (by have h := hok.out; simp at h ⊢; exact h) HLL.out);obtain ⟨z0, z1, z2, hvF, hqF⟩ := Nq.store hR8 hv hG8 (Nat.le_refl _);unfold put3 at z0 z1 z2 hvF hqF;refine bodyPost_ret (v := .tuple #[.agg #[.bool s8, .slice C1 l1 g1, .slice C2 l2 g2], .int .i64 0]) (by simp [results, Tryz.results17, go_sem, z0, z1, z2]) rfl ?_;rw [HP.out, hres];exact ⟨_, rfl, hvF, hqF⟩
   ·go_wp2_with fail
    refine (jZ fb _).mono ?_;rintro e w4 ⟨rfl, hq4⟩;have hG4 := hG3.trans hq4;have hR4 := hR3.q hq4;rw [HFB.out];by_cases hd2 : jP b
    ·rw [show jY b = true from decide_eq_true hd2];have hok : Hid (¬ (¬ jP f ∨ (true = true ∧ ¬ jP b))) := fun h => h.elim (fun h => h hd) (fun h => h.2 hd2);have hAb : aY b := hd2.1;have HAB : Hid (aY (f ++ b)) := fun c hc => (List.mem_append.1 hc).elim (hd.1 c) (hAb c);clear hAb;by_cases hl : 400 < f.length + b.length
     ·have hl2 : (400 : Int) < (fa.size : Int) + (fb.size : Int) := (by rw [LA.out, LB.out]; omega);have HLL := Lib.hid hl; clear hl;have fz := hR4.frozen;obtain ⟨r0, r1, r2⟩ := hR4.cells;go_wp2_with fail
      have hv := bP w4;have hres : iU neg f b true p = ((3 : Int), (0 : Rat)) := uV (by have h := hok.out; simp at h ⊢; exact h) HLL.out;obtain ⟨z0, z1, z2, hvF, hqF⟩ := Nq.store hR4 hv hG4 (Nat.le_refl _);unfold put3 at z0 z1 z2 hvF hqF;refine bodyPost_ret (v := .tuple #[.agg #[.bool false, .slice none 0 0, .slice none 0 0], .int .i64 3]) (by simp [results, Tryz.results17, go_sem, z0, z1, z2]) rfl ?_;rw [HP.out, hres];exact ⟨_, rfl, hvF, hqF⟩
     ·have hl2 : ¬ (400 : Int) < (fa.size : Int) + (fb.size : Int) := (by rw [LA.out, LB.out]; omega);have hsa : fa.size ≤ 400 := (by rw [LA.out]; omega);have hsb : fb.size ≤ 400 := (by rw [LB.out]; omega);have HLL := Lib.hid hl; clear hl;have hcat : (fa ++ fb).data.toList = f ++ b := (by rw [dQ, HFA.out, HFB.out]);have hcs2 : (fa ++ fb).size + 100 ≤ LIM := (by rw [ByteArray.size_append, aA]; omega);have HCAT := Lib.hid hcat; clear hcat;go_wp2_with fail
      refine (gK (fa ++ fb) _ (by rw [HCAT.out]; exact HAB.out) hcs2).mono ?_;rintro e w5 ⟨t1, rfl, ht1, hq5, -⟩;have hG5 := hG4.trans hq5;have hR5 := hR4.q hq5;rw [HCAT.out] at ht1;obtain ⟨A5, n5, c5, rfl⟩ := ht1.form;go_wp2_with fail
      refine (fZ neg _ (dv (f ++ b)) _ ht1).mono ?_;rintro e w6 ⟨v5, rfl, hv5, hq6⟩;have hG6 := hG5.trans hq6;have hR6 := hR5.q hq6;obtain ⟨B1, d1, B2, d2, rfl, -, -⟩ := hv5.form;have hv := Nq.int (q := sgQ neg ((dv (f ++ b) : Nat) : Rat)) hv5 (nD neg _).1 (nD neg _).2;generalize (decide (0 < dv (f ++ b)) && neg) = s4 at *
      generalize dg W64 (dv (f ++ b)) = m1 at *
      generalize dg W64 0 = m2 at *
      have hqd : Q w6 (w6.alloc (.cells #[.bool s4, .slice B1 m1 d1, .slice B2 m2 d2] 25)) := (Q.refl _).alloc _;have hE : Nb (w6.alloc (.cells #[.bool s4, .slice B1 m1 d1, .slice B2 m2 d2] 25)) w6.heap.size s4 (.slice B1 m1 d1) (.slice B2 m2 d2) := Nb.new _ _ _ _;have neE : w6.heap.size ≠ w.heap.size := (by have := hR6.lt; omega);have tw1 : IntKind.i64.wrap (p - (fb.size : Int)) = p - (fb.size : Int) := IntWalk.i64_in _ (by omega);have hz2 := aAT neg (f ++ b) HAB.out (show (f ++ b).length ≤ 400 by rw [List.length_append]; exact Nat.le_of_not_lt HLL.out);have hz3 := qD (p - (fb.size : Int));have hB : 16 * (sz (sgQ neg ((dv (f ++ b) : Nat) : Rat)) + sz (aS (p - (fb.size : Int)))) + 100 ≤ LIM := (by rw [aA]; omega);clear hz2 hz3;go_wp2_with fail
      generalize hwd : w6.alloc (.cells #[.bool s4, .slice B1 m1 d1, .slice B2 m2 d2] 25) = w7 at *
      clear hwd;have hG7 := hG6.trans hqd;have hR7 := hR6.q hqd;have hE7 := hE;have hv6 := hv.q hqd;clear hv;obtain ⟨e0, e1, e2⟩ := hE7.cells
      go_region_held3 (fun W => W.cell? ⟨w6.heap.size, 0, none⟩ = some (.bool s4) ∧ W.cell? ⟨w6.heap.size, 1, none⟩ = some (.slice B1 m1 d1) ∧ W.cell? ⟨w6.heap.size, 2, none⟩ = some (.slice B2 m2 d2)) (first | exact ⟨e0, e1, e2⟩ | exact ⟨by assumption, by assumption, by assumption⟩ | exact ⟨(dX neE).trans (by assumption), (dX neE).trans (by assumption), (dX neE).trans (by assumption)⟩ | go_keep) (first
       | (go_at_call 22; refine (rQ _ _ (sgQ neg ((dv (f ++ b) : Nat) : Rat)) (aS (p - (fb.size : Int))) _ (hT.q hG8) (hv6.q hq8) htv hB).mono ?_; rintro e w9 ⟨v9, rfl, hv, hq9⟩; have hG9 := hG8.trans hq9; have hR9 := hR8.q hq9; have hE9 := hE8.q hq9; obtain ⟨e0, e1, e2⟩ := hE9.cells; have fz := hR9.frozen; obtain ⟨r0, r1, r2⟩ := hR9.cells; obtain ⟨s8, C1, l1, g1, C2, l2, g2, rfl, -⟩ := hv.form)
       | (go_at_call 97; refine (nU (p - (fb.size : Int)) _ (by omega)).mono ?_; rintro e w8 ⟨tv, rfl, htv, hq8d⟩; have hq8 : Q w7 w8 := (Q.refl w7).drew.trans hq8d; have hG8 := hG7.trans hq8; have hR8 := hR7.q hq8; have hE8 := hE7.q hq8; obtain ⟨e0, e1, e2⟩ := hE8.cells; obtain ⟨s7, A7, n7, c7, A8, n8, c8, rfl, -⟩ := htv.form))
      all_goals
       go_wp2_with fail
       have hres : iU neg f b true p = ((0 : Int), sgQ neg ((dv (f ++ b) : Nat) : Rat) * aS (p - (fb.size : Int))) := (by rw [LB.out]; exact zR (by have h := hok.out; simp at h ⊢; exact h) HLL.out);obtain ⟨z0, z1, z2, hvF, hqF⟩ := Nq.store hR9 hv hG9 (Nat.le_refl _);unfold put3 at z0 z1 z2 hvF hqF;refine bodyPost_ret (v := .tuple #[.agg #[.bool s8, .slice C1 l1 g1, .slice C2 l2 g2], .int .i64 0]) (by simp [results, Tryz.results17, go_sem, z0, z1, z2]) rfl ?_;rw [HP.out, hres];exact ⟨_, rfl, hvF, hqF⟩
    ·rw [show jY b = false from decide_eq_false hd2];have fz := hR4.frozen;obtain ⟨r0, r1, r2⟩ := hR4.cells;go_wp2_with fail
     have hv := bP w4;have hres : iU neg f b true p = ((6 : Int), (0 : Rat)) := if_pos (.inr ⟨rfl, hd2⟩);obtain ⟨z0, z1, z2, hvF, hqF⟩ := Nq.store hR4 hv hG4 (Nat.le_refl _);unfold put3 at z0 z1 z2 hvF hqF;refine bodyPost_ret (v := .tuple #[.agg #[.bool false, .slice none 0 0, .slice none 0 0], .int .i64 6]) (by simp [results, Tryz.results17, go_sem, z0, z1, z2]) rfl ?_;rw [HP.out, hres];exact ⟨_, rfl, hvF, hqF⟩
  ·rw [show jY f = false from decide_eq_false hd];have fz := hR3.frozen;obtain ⟨r0, r1, r2⟩ := hR3.cells;go_wp2_with fail
   have hv := bP w3;have hres : iU neg f b two p = ((6 : Int), (0 : Rat)) := if_pos (.inl hd);obtain ⟨z0, z1, z2, hvF, hqF⟩ := Nq.store hR3 hv hG3 (Nat.le_refl _);unfold put3 at z0 z1 z2 hvF hqF;refine bodyPost_ret (v := .tuple #[.agg #[.bool false, .slice none 0 0, .slice none 0 0], .int .i64 6]) (by simp [results, Tryz.results17, go_sem, z0, z1, z2]) rfl ?_;rw [HP.out, hres];exact ⟨_, rfl, hvF, hqF⟩
end Go.Proofs.YtgpacgadpnpjjaaGreatDoor
