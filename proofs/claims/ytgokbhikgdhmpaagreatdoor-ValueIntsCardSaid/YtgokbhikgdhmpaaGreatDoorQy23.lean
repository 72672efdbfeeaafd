/- x. Part of the proof: texts Vf5 Vf7 Vf8 Vg1 Ka3 Ka5. -/
import Derived.Test.YtgokbhikgdhmpaaGreatDoorQy05
import Derived.Test.YtgokbhikgdhmpaaGreatDoorQy06
import Derived.Test.YtgokbhikgdhmpaaGreatDoorQy22
set_option maxHeartbeats 4000000
namespace Go.Proofs.YtgokbhikgdhmpaaGreatDoor
open Go.RowKit
open Ma Me
theorem xD {neg two : Bool} {f b : List UInt8} {p : Int} (h : ¬ (¬ lC f ∨ (two = true ∧ ¬ lC b))) (hl : 400 < f.length + b.length) : jX neg f b two p = (3, 0) := by
 unfold jX;rw [if_neg h, if_pos hl]
theorem aAU {neg two : Bool} {f b : List UInt8} {p : Int} (h : ¬ (¬ lC f ∨ (two = true ∧ ¬ lC b))) (hl : ¬ 400 < f.length + b.length) : jX neg f b two p = (0, sgQ neg ((dv (f ++ b) : Nat) : Rat) * bE (p - b.length)) := by
 unfold jX;rw [if_neg h, if_neg hl]
theorem aAV (l : List UInt8) : 0 ≤ Lib.indexByte l 47 ↔ 47 ∈ l := by
 have h1 := Lib.indexByte_ge l 47;constructor
 ·intro h;obtain ⟨k, hk⟩ := Int.eq_ofNat_of_zero_le h;exact List.mem_of_getElem? (Lib.indexByte_some hk).1
 ·intro hm;rcases (by omega : Lib.indexByte l 47 = -1 ∨ 0 ≤ Lib.indexByte l 47) with h | h
  ·obtain ⟨j, hj, hj2⟩ := List.getElem_of_mem hm;exact absurd (by rw [List.getElem?_eq_getElem hj, hj2]) (Lib.indexByte_none h j)
  ·exact h
theorem aEF (l : List UInt8) : (jR l).1.length ≤ l.length := by
 unfold jR;split
 ·split
  ·show l.dropLast.length ≤ _; rw [List.length_dropLast]; omega
  ·exact Nat.le_refl _
 ·exact Nat.le_refl _
theorem aEG (c : UInt8) (l : List UInt8) : (fJ c l).length + (aft c l).length ≤ l.length := by
 rcases qQ c l with ⟨-, h1, h2⟩ | ⟨-, h⟩
 ·rw [h1, h2]; simp
 ·have := congrArg List.length h;rw [List.length_append, List.length_cons] at this;omega
theorem oK (s : Bool) (n : Nat) : (sgQ s ((n : Nat) : Rat)).num = sg s n ∧ (sgQ s ((n : Nat) : Rat)).den = 1 := by
 cases s
 ·exact ⟨Rat.num_natCast _, Rat.den_natCast _⟩
 ·unfold sgQ sg;rw [if_pos rfl, if_pos rfl, Rat.neg_num, Rat.neg_den];exact ⟨by rw [Rat.num_natCast], Rat.den_natCast _⟩
theorem aBL (s : Bool) (l : List UInt8) (h : bR l) (hl : l.length ≤ 400) : sz (sgQ s ((dv l : Nat) : Rat)) ≤ 401 := by
 have h1 := wN (dv l);have h2 := aB7 h hl;unfold sgQ;split
 ·rw [iT]; omega
 ·omega
set_option maxRecDepth 100000 in
theorem aGq (s : ByteArray) (w : World) (hT : Tb w) (hPx : Px w) (hs : s.size ≤ 9223372036854775806) : Calls Tryz.prog 24 #[.string s] w fun e w' => ∃ r, e = .returned (.tuple #[r, .int .i64 (qV s.data.toList).1]) ∧ Nq w' r (qV s.data.toList).2 ∧ Q w w' := by
 obtain ⟨w0, hW, hG0, hR0⟩ : ∃ W, w.alloc (.cells #[.bool false, .slice none 0 0, .slice none 0 0] 25) = W ∧ Q w W ∧ Nb W w.heap.size false (.slice none 0 0) (.slice none 0 0) := ⟨_, rfl, (Q.refl _).alloc _, Nb.new w _ _ _⟩
 by_cases h47 : 47 ∈ s.data.toList
 ·have hP : qV s.data.toList = aZ s.data.toList := if_pos h47;have HP := Lib.hid hP; clear hP;have hix := (aAV s.data.toList).2 h47;have HIX := Lib.hid hix; clear hix h47;obtain ⟨er, her⟩ : ∃ er, (aZ s.data.toList).1 = er := ⟨_, rfl⟩
  have HER := Lib.hid her; clear her;go_enter Tryz.func24, Tryz.ntmps24
  go_wp2_with fail
  clear hW;refine (Tryz.strings_Contains_one s 47 _).mono ?_;rintro e w90 ⟨rfl, rfl⟩;rw [decide_eq_true HIX.out];go_wp2_with fail
  refine (aBH s _ (hT.q hG0) hs).mono ?_;rintro e w1 ⟨r, rfl, hv, hq1⟩;have hG1 := hG0.trans hq1;have hR1 := hR0.q hq1;have fz := hR1.frozen;obtain ⟨r0, r1, r2⟩ := hR1.cells;rw [HER.out];obtain ⟨s6, B1, m1, d1, B2, m2, d2, rfl, -⟩ := hv.form;go_wp2_with fail
  obtain ⟨z0, z1, z2, hvF, hqF⟩ := Nq.store hR1 hv hG1 (Nat.le_refl _);unfold put3 at z0 z1 z2 hvF hqF;refine bodyPost_ret (v := .tuple #[.agg #[.bool s6, .slice B1 m1 d1, .slice B2 m2 d2], .int .i64 er]) (by simp [results, Tryz.results24, go_sem, z0, z1, z2]) rfl ?_;rw [HP.out, HER.out];exact ⟨_, rfl, hvF, hqF⟩
 ·have HIX : Hid (decide (0 ≤ Lib.indexByte s.data.toList 47) = false) := decide_eq_false (fun h => h47 ((aAV s.data.toList).1 h));obtain ⟨neg, hneg⟩ : ∃ neg, eF s.data.toList = neg := ⟨_, rfl⟩
  obtain ⟨r, hr⟩ : ∃ r, (jR (unsigned s.data.toList)).1 = r := ⟨_, rfl⟩
  obtain ⟨p, hp⟩ : ∃ p, (jR (unsigned s.data.toList)).2 = p := ⟨_, rfl⟩
  have hpl := aFn (unsigned s.data.toList);rw [hp] at hpl;obtain ⟨two, htwo⟩ : ∃ two, decide (46 ∈ r) = two := ⟨_, rfl⟩
  obtain ⟨f, hf⟩ : ∃ f, fJ 46 r = f := ⟨_, rfl⟩
  obtain ⟨b, hb⟩ : ∃ b, aft 46 r = b := ⟨_, rfl⟩
  have hb2 : two = false → b = [] := fun h => (by rw [← hb]; exact (qR (of_decide_eq_false (htwo.trans h))).2);have hP : qV s.data.toList = jX neg f b two p := (by unfold qV; rw [if_neg h47, hneg, hr, hp, htwo, hf, hb]);have HP := Lib.hid hP; clear hP;have HN := Lib.hid hneg; clear hneg;have HRR := Lib.hid hr; clear hr;have HPP := Lib.hid hp; clear hp;have HT2 := Lib.hid htwo; clear htwo;have HF := Lib.hid hf; clear hf;have HBb := Lib.hid hb; clear hb;have HB2 := Lib.hid hb2; clear hb2;have H47 := Lib.hid h47; clear h47;have hpl1 : -15 ≤ p := (by omega);have hpl2 : p ≤ 15 := (by omega);clear hpl;go_enter Tryz.func24, Tryz.ntmps24
  go_wp2_with fail
  clear hW;refine (Tryz.strings_Contains_one s 47 _).mono ?_;rintro e w90 ⟨rfl, rfl⟩;rw [HIX.out];go_wp2_with fail
  refine (tL s _).mono ?_;rintro e w91 ⟨a, rfl, ha, hsz, rfl⟩;rw [HN.out];have HA := Lib.hid ha; clear ha;go_wp2_with fail
  refine (aBl a _ (hPx.q hG0) (by omega)).mono ?_;rintro e w1 ⟨c, rfl, hc, hq1⟩;have hG1 := hG0.trans hq1;have hR1 := hR0.q hq1;rw [HA.out] at hc ⊢;rw [HPP.out];rw [HRR.out] at hc;have hcs : c.size ≤ 9223372036854775806 := (by have h1 := aEF (unsigned s.data.toList); rw [HRR.out, ← hc, ← HA.out, ← Lib.size_eq, ← Lib.size_eq] at h1; omega);have HC := Lib.hid hc; clear hc;go_wp2_with fail
  refine (aER c 46 _ hcs).mono ?_;rintro e w2 ⟨fa, fb, rfl, hfa, hfb, hq2⟩;have hG2 := hG1.trans hq2;have hR2 := hR1.q hq2;rw [HC.out] at hfa hfb ⊢;rw [HT2.out];rw [HF.out] at hfa;rw [HBb.out] at hfb;have la : fa.size = f.length := (by rw [Lib.size_eq, hfa]);have lb : fb.size = b.length := (by rw [Lib.size_eq, hfb]);have lc : fa.size + fb.size ≤ c.size := (by have h1 := aEG 46 r; rw [HF.out, HBb.out] at h1; rw [la, lb, Lib.size_eq, HC.out]; exact h1);have HFA := Lib.hid hfa; have HFB := Lib.hid hfb; have LA := Lib.hid la; have LB := Lib.hid lb; clear hfa hfb la lb;go_wp2_with fail
  refine (lS fa _).mono ?_;rintro e w3 ⟨rfl, hq3⟩;have hG3 := hG2.trans hq3;have hR3 := hR2.q hq3;rw [HFA.out];by_cases hd : lC f
  ·rw [show lQ f = true from decide_eq_true hd];cases two
   ·have hok : Hid (¬ (¬ lC f ∨ (false = true ∧ ¬ lC b))) := fun h => h.elim (fun h => h hd) (fun h => by cases h.1);have hAb : bR b := (by rw [HB2.out rfl]; intro c hc; simp at hc);have HAB : Hid (bR (f ++ b)) := fun c hc => (List.mem_append.1 hc).elim (hd.1 c) (hAb c);clear hAb;by_cases hl : 400 < f.length + b.length
    ·have hl2 : (400 : Int) < (fa.size : Int) + (fb.size : Int) := (by rw [LA.out, LB.out]; omega);have HLL := Lib.hid hl; clear hl;have fz := hR3.frozen;obtain ⟨r0, r1, r2⟩ := hR3.cells;go_wp2_with fail
     have hv := dE w3;have hres : jX neg f b false p = ((3 : Int), (0 : Rat)) := xD (by have h := hok.out; simp at h ⊢; exact h) HLL.out;obtain ⟨z0, z1, z2, hvF, hqF⟩ := Nq.store hR3 hv hG3 (Nat.le_refl _);unfold put3 at z0 z1 z2 hvF hqF;refine bodyPost_ret (v := .tuple #[.agg #[.bool false, .slice none 0 0, .slice none 0 0], .int .i64 3]) (by simp [results, Tryz.results24, go_sem, z0, z1, z2]) rfl ?_;rw [HP.out, hres];exact ⟨_, rfl, hvF, hqF⟩
    ·have hl2 : ¬ (400 : Int) < (fa.size : Int) + (fb.size : Int) := (by rw [LA.out, LB.out]; omega);have hsa : fa.size ≤ 400 := (by rw [LA.out]; omega);have hsb : fb.size ≤ 400 := (by rw [LB.out]; omega);have HLL := Lib.hid hl; clear hl;have hcat : (fa ++ fb).data.toList = f ++ b := (by rw [fD, HFA.out, HFB.out]);have hcs2 : (fa ++ fb).size + 100 ≤ LIM := (by rw [ByteArray.size_append, aA]; omega);have HCAT := Lib.hid hcat; clear hcat;go_wp2_with fail
     refine (iH (fa ++ fb) _ (by rw [HCAT.out]; exact HAB.out) hcs2).mono ?_;rintro e w4 ⟨t1, rfl, ht1, hq4, -⟩;have hG4 := hG3.trans hq4;have hR4 := hR3.q hq4;rw [HCAT.out] at ht1;obtain ⟨A5, n5, c5, rfl⟩ := ht1.form;go_wp2_with fail
     refine (gG neg _ (dv (f ++ b)) _ ht1).mono ?_;rintro e w5 ⟨v5, rfl, hv5, hq5⟩;have hG5 := hG4.trans hq5;have hR5 := hR4.q hq5;obtain ⟨B1, d1, B2, d2, rfl, -, -⟩ := hv5.form;have hv := Nq.int (q := sgQ neg ((dv (f ++ b) : Nat) : Rat)) hv5 (oK neg _).1 (oK neg _).2;generalize (decide (0 < dv (f ++ b)) && neg) = s4 at *
     generalize dg W64 (dv (f ++ b)) = m1 at *
     generalize dg W64 0 = m2 at *
     have hqd : Q w5 (w5.alloc (.cells #[.bool s4, .slice B1 m1 d1, .slice B2 m2 d2] 25)) := (Q.refl _).alloc _;have hE : Nb (w5.alloc (.cells #[.bool s4, .slice B1 m1 d1, .slice B2 m2 d2] 25)) w5.heap.size s4 (.slice B1 m1 d1) (.slice B2 m2 d2) := Nb.new _ _ _ _;have neE : w5.heap.size ≠ w.heap.size := (by have := hR5.lt; omega);have tw1 : IntKind.i64.wrap (p - (fb.size : Int)) = p - (fb.size : Int) := IntWalk.i64_in _ (by omega);have hz2 := aBL neg (f ++ b) HAB.out (show (f ++ b).length ≤ 400 by rw [List.length_append]; exact Nat.le_of_not_lt HLL.out);have hz3 := sU (p - (fb.size : Int));have hB : 16 * (sz (sgQ neg ((dv (f ++ b) : Nat) : Rat)) + sz (bE (p - (fb.size : Int)))) + 100 ≤ LIM := (by rw [aA]; omega);clear hz2 hz3;go_wp2_with fail
     generalize hwd : w5.alloc (.cells #[.bool s4, .slice B1 m1 d1, .slice B2 m2 d2] 25) = w6 at *
     clear hwd;have hG6 := hG5.trans hqd;have hR6 := hR5.q hqd;have hE6 := hE;have hv6 := hv.q hqd;clear hv;obtain ⟨e0, e1, e2⟩ := hE6.cells
     go_region_held3 (fun W => W.cell? ⟨w5.heap.size, 0, none⟩ = some (.bool s4) ∧ W.cell? ⟨w5.heap.size, 1, none⟩ = some (.slice B1 m1 d1) ∧ W.cell? ⟨w5.heap.size, 2, none⟩ = some (.slice B2 m2 d2)) (first | exact ⟨e0, e1, e2⟩ | exact ⟨by assumption, by assumption, by assumption⟩ | exact ⟨(dI neE).trans (by assumption), (dI neE).trans (by assumption), (dI neE).trans (by assumption)⟩ | go_keep) (first
      | (go_at_call 29; refine (rH _ _ (sgQ neg ((dv (f ++ b) : Nat) : Rat)) (bE (p - (fb.size : Int))) _ (hT.q hG7) (hv6.q hq7) htv hB).mono ?_; rintro e w8 ⟨v9, rfl, hv, hq8⟩; have hG8 := hG7.trans hq8; have hR8 := hR7.q hq8; have hE8 := hE7.q hq8; obtain ⟨e0, e1, e2⟩ := hE8.cells; have fz := hR8.frozen; obtain ⟨r0, r1, r2⟩ := hR8.cells; obtain ⟨s8, C1, l1, g1, C2, l2, g2, rfl, -⟩ := hv.form)
      | (go_at_call 124; refine (pW (p - (fb.size : Int)) _ (by omega)).mono ?_; rintro e w7 ⟨tv, rfl, htv, hq7d⟩; have hq7 : Q w6 w7 := (Q.refl w6).drew.trans hq7d; have hG7 := hG6.trans hq7; have hR7 := hR6.q hq7; have hE7 := hE6.q hq7; obtain ⟨e0, e1, e2⟩ := hE7.cells; obtain ⟨s7, A7, n7, c7, A8, n8, c8, rfl, -⟩ := htv.form))
     all_goals
      go_wp2_with fail
      have hres : jX neg f b false p = ((0 : Int), sgQ neg ((dv (f ++ b) : Nat) : Rat) * bE (p - (fb.size : Int))) := (by rw [LB.out]; exact aAU (by have h := hok.out; simp at h ⊢; exact h) HLL.out);obtain ⟨z0, z1, z2, hvF, hqF⟩ := Nq.store hR8 hv hG8 (Nat.le_refl _);unfold put3 at z0 z1 z2 hvF hqF;refine bodyPost_ret (v := .tuple #[.agg #[.bool s8, .slice C1 l1 g1, .slice C2 l2 g2], .int .i64 0]) (by simp [results, Tryz.results24, go_sem, z0, z1, z2]) rfl ?_;rw [HP.out, hres];exact ⟨_, rfl, hvF, hqF⟩
   ·go_wp2_with fail
    refine (lS fb _).mono ?_;rintro e w4 ⟨rfl, hq4⟩;have hG4 := hG3.trans hq4;have hR4 := hR3.q hq4;rw [HFB.out];by_cases hd2 : lC b
    ·rw [show lQ b = true from decide_eq_true hd2];have hok : Hid (¬ (¬ lC f ∨ (true = true ∧ ¬ lC b))) := fun h => h.elim (fun h => h hd) (fun h => h.2 hd2);have hAb : bR b := hd2.1;have HAB : Hid (bR (f ++ b)) := fun c hc => (List.mem_append.1 hc).elim (hd.1 c) (hAb c);clear hAb;by_cases hl : 400 < f.length + b.length
     ·have hl2 : (400 : Int) < (fa.size : Int) + (fb.size : Int) := (by rw [LA.out, LB.out]; omega);have HLL := Lib.hid hl; clear hl;have fz := hR4.frozen;obtain ⟨r0, r1, r2⟩ := hR4.cells;go_wp2_with fail
      have hv := dE w4;have hres : jX neg f b true p = ((3 : Int), (0 : Rat)) := xD (by have h := hok.out; simp at h ⊢; exact h) HLL.out;obtain ⟨z0, z1, z2, hvF, hqF⟩ := Nq.store hR4 hv hG4 (Nat.le_refl _);unfold put3 at z0 z1 z2 hvF hqF;refine bodyPost_ret (v := .tuple #[.agg #[.bool false, .slice none 0 0, .slice none 0 0], .int .i64 3]) (by simp [results, Tryz.results24, go_sem, z0, z1, z2]) rfl ?_;rw [HP.out, hres];exact ⟨_, rfl, hvF, hqF⟩
     ·have hl2 : ¬ (400 : Int) < (fa.size : Int) + (fb.size : Int) := (by rw [LA.out, LB.out]; omega);have hsa : fa.size ≤ 400 := (by rw [LA.out]; omega);have hsb : fb.size ≤ 400 := (by rw [LB.out]; omega);have HLL := Lib.hid hl; clear hl;have hcat : (fa ++ fb).data.toList = f ++ b := (by rw [fD, HFA.out, HFB.out]);have hcs2 : (fa ++ fb).size + 100 ≤ LIM := (by rw [ByteArray.size_append, aA]; omega);have HCAT := Lib.hid hcat; clear hcat;go_wp2_with fail
      refine (iH (fa ++ fb) _ (by rw [HCAT.out]; exact HAB.out) hcs2).mono ?_;rintro e w5 ⟨t1, rfl, ht1, hq5, -⟩;have hG5 := hG4.trans hq5;have hR5 := hR4.q hq5;rw [HCAT.out] at ht1;obtain ⟨A5, n5, c5, rfl⟩ := ht1.form;go_wp2_with fail
      refine (gG neg _ (dv (f ++ b)) _ ht1).mono ?_;rintro e w6 ⟨v5, rfl, hv5, hq6⟩;have hG6 := hG5.trans hq6;have hR6 := hR5.q hq6;obtain ⟨B1, d1, B2, d2, rfl, -, -⟩ := hv5.form;have hv := Nq.int (q := sgQ neg ((dv (f ++ b) : Nat) : Rat)) hv5 (oK neg _).1 (oK neg _).2;generalize (decide (0 < dv (f ++ b)) && neg) = s4 at *
      generalize dg W64 (dv (f ++ b)) = m1 at *
      generalize dg W64 0 = m2 at *
      have hqd : Q w6 (w6.alloc (.cells #[.bool s4, .slice B1 m1 d1, .slice B2 m2 d2] 25)) := (Q.refl _).alloc _;have hE : Nb (w6.alloc (.cells #[.bool s4, .slice B1 m1 d1, .slice B2 m2 d2] 25)) w6.heap.size s4 (.slice B1 m1 d1) (.slice B2 m2 d2) := Nb.new _ _ _ _;have neE : w6.heap.size ≠ w.heap.size := (by have := hR6.lt; omega);have tw1 : IntKind.i64.wrap (p - (fb.size : Int)) = p - (fb.size : Int) := IntWalk.i64_in _ (by omega);have hz2 := aBL neg (f ++ b) HAB.out (show (f ++ b).length ≤ 400 by rw [List.length_append]; exact Nat.le_of_not_lt HLL.out);have hz3 := sU (p - (fb.size : Int));have hB : 16 * (sz (sgQ neg ((dv (f ++ b) : Nat) : Rat)) + sz (bE (p - (fb.size : Int)))) + 100 ≤ LIM := (by rw [aA]; omega);clear hz2 hz3;go_wp2_with fail
      generalize hwd : w6.alloc (.cells #[.bool s4, .slice B1 m1 d1, .slice B2 m2 d2] 25) = w7 at *
      clear hwd;have hG7 := hG6.trans hqd;have hR7 := hR6.q hqd;have hE7 := hE;have hv6 := hv.q hqd;clear hv;obtain ⟨e0, e1, e2⟩ := hE7.cells
      go_region_held3 (fun W => W.cell? ⟨w6.heap.size, 0, none⟩ = some (.bool s4) ∧ W.cell? ⟨w6.heap.size, 1, none⟩ = some (.slice B1 m1 d1) ∧ W.cell? ⟨w6.heap.size, 2, none⟩ = some (.slice B2 m2 d2)) (first | exact ⟨e0, e1, e2⟩ | exact ⟨by assumption, by assumption, by assumption⟩ | exact ⟨(dI neE).trans (by assumption), (dI neE).trans (by assumption), (dI neE).trans (by assumption)⟩ | go_keep) (first
       | (go_at_call 29; refine (rH _ _ (sgQ neg ((dv (f ++ b) : Nat) : Rat)) (bE (p - (fb.size : Int))) _ (hT.q hG8) (hv6.q hq8) htv hB).mono ?_; rintro e w9 ⟨v9, rfl, hv, hq9⟩; have hG9 := hG8.trans hq9; have hR9 := hR8.q hq9; have hE9 := hE8.q hq9; obtain ⟨e0, e1, e2⟩ := hE9.cells; have fz := hR9.frozen; obtain ⟨r0, r1, r2⟩ := hR9.cells; obtain ⟨s8, C1, l1, g1, C2, l2, g2, rfl, -⟩ := hv.form)
       | (go_at_call 124; refine (pW (p - (fb.size : Int)) _ (by omega)).mono ?_; rintro e w8 ⟨tv, rfl, htv, hq8d⟩; have hq8 : Q w7 w8 := (Q.refl w7).drew.trans hq8d; have hG8 := hG7.trans hq8; have hR8 := hR7.q hq8; have hE8 := hE7.q hq8; obtain ⟨e0, e1, e2⟩ := hE8.cells; obtain ⟨s7, A7, n7, c7, A8, n8, c8, rfl, -⟩ := htv.form))
      all_goals
       go_wp2_with fail
       have hres : jX neg f b true p = ((0 : Int), sgQ neg ((dv (f ++ b) : Nat) : Rat) * bE (p - (fb.size : Int))) := (by rw [LB.out]; exact aAU (by have h := hok.out; simp at h ⊢; exact h) HLL.out);obtain ⟨z0, z1, z2, hvF, hqF⟩ := Nq.store hR9 hv hG9 (Nat.le_refl _);unfold put3 at z0 z1 z2 hvF hqF;refine bodyPost_ret (v := .tuple #[.agg #[.bool s8, .slice C1 l1 g1, .slice C2 l2 g2], .int .i64 0]) (by simp [results, Tryz.results24, go_sem, z0, z1, z2]) rfl ?_;rw [HP.out, hres];exact ⟨_, rfl, hvF, hqF⟩
    ·rw [show lQ b = false from decide_eq_false hd2];have fz := hR4.frozen;obtain ⟨r0, r1, r2⟩ := hR4.cells;go_wp2_with fail
     have hv := dE w4;have hres : jX neg f b true p = ((6 : Int), (0 : Rat)) := if_pos (.inr ⟨rfl, hd2⟩);obtain ⟨z0, z1, z2, hvF, hqF⟩ := Nq.store hR4 hv hG4 (Nat.le_refl _);unfold put3 at z0 z1 z2 hvF hqF;refine bodyPost_ret (v := .tuple #[.agg #[.bool false, .slice none 0 0, .slice none 0 0], .int .i64 6]) (by simp [results, Tryz.results24, go_sem, z0, z1, z2]) rfl ?_;rw [HP.out, hres];exact ⟨_, rfl, hvF, hqF⟩
  ·rw [show lQ f = false from decide_eq_false hd];have fz := hR3.frozen;obtain ⟨r0, r1, r2⟩ := hR3.cells;go_wp2_with fail
   have hv := dE w3;have hres : jX neg f b two p = ((6 : Int), (0 : Rat)) := if_pos (.inl hd);obtain ⟨z0, z1, z2, hvF, hqF⟩ := Nq.store hR3 hv hG3 (Nat.le_refl _);unfold put3 at z0 z1 z2 hvF hqF;refine bodyPost_ret (v := .tuple #[.agg #[.bool false, .slice none 0 0, .slice none 0 0], .int .i64 6]) (by simp [results, Tryz.results24, go_sem, z0, z1, z2]) rfl ?_;rw [HP.out, hres];exact ⟨_, rfl, hvF, hqF⟩
theorem Nq.top {w : World} {s : Bool} {t b : Value} {q : Rat} (h : Nq w (.agg #[.bool s, t, b]) q) : Nm w t q.num.natAbs := by
 obtain ⟨t2, b2, e, h1, h2⟩ := h;cases e;exact h1
theorem mI {a : Value} {x y : Bool} (h : x = y) : Ending.returned (.tuple #[a, .bool x]) = .returned (.tuple #[a, .bool y]) := by rw [h]
theorem aBm {U : Nat} (h : 412 < (dec U).length) : nL U = none := by
 unfold nL;have := aB9 U h;rw [if_pos (by omega)]
theorem aDz {u : Rat} {U : Nat} (_ : 0 ≤ u) (hd : u.den = 1) (hU : u.num.natAbs = U) : eG u = nL U := by
 unfold eG;rw [if_pos hd, hU]
def aGO (o : Option (List UInt8)) (w : World) (e : Ending) (w' : World) : Prop := ∃ t : ByteArray, e = .returned (.tuple #[.string t, .bool o.isSome]) ∧ t.data.toList = o.getD [] ∧ Q w w'
theorem aDA (w : World) : Calls Tryz.prog 184 #[.string ⟨#[48]⟩, .int .i64 12] w fun e w' => ∃ z : ByteArray, e = .returned (.string z) ∧ z.data.toList = List.replicate 12 48 ∧ z.size = 12 ∧ Q w w' := by
 refine Calls.mono (Tryz.strings_Repeat_main ⟨#[48]⟩ 12 w (by decide) (by decide) (by decide) (by decide)) ?_;rintro e w' ⟨h1, h2⟩;exact ⟨_, h1, rfl, rfl, h2⟩
set_option maxRecDepth 100000 in
theorem zK (x : Value) (p : Rat) (w : World) (hT : Tb w) (hx : Nq w x p) (h0 : 0 ≤ p) (hB : 200 * sz p + 50000 ≤ LIM) : Calls Tryz.prog 128 #[x] w (aGO (eG (p * bE 12)) w) := by
 obtain ⟨s1, A1, n1, c1, A2, n2, c2, rfl, E1, Z1, O1, hxt, hxb⟩ := hx.form;obtain ⟨w0, hW, hG0, hX0⟩ := nR w s1 (.slice A1 n1 c1) (.slice A2 n2 c2);have hz1 := sU 12;have hz2 := mD p (bE 12);have hu0 : 0 ≤ p * bE 12 := Rat.mul_nonneg h0 (Rat.le_of_lt (aAj _));have hB1 : 16 * (sz p + sz (bE 12)) + 100 ≤ LIM := by rw [aA] at *; omega
 generalize hu : p * bE 12 = u at *
 have HU := Lib.hid hu; clear hu;have hzu : 100 * dg W64 u.num.natAbs + 100 ≤ LIM := by have := fO u; rw [aA] at *; omega
 have HB := Lib.hid hB; clear hB hz1 h0;obtain ⟨x0, x1, x2⟩ := hX0.cells;go_enter Tryz.func128, Tryz.ntmps128
 go_wp2_with fail
 clear hW;have c0 : ∀ W, Q w0 W → W.cell? ⟨w.heap.size, 0, none⟩ = some (.bool s1) := fun W h => (hX0.q h).cells.1;have c1' : ∀ W, Q w0 W → W.cell? ⟨w.heap.size, 1, none⟩ = some (.slice A1 n1 c1) := fun W h => (hX0.q h).cells.2.1;have c2' : ∀ W, Q w0 W → W.cell? ⟨w.heap.size, 2, none⟩ = some (.slice A2 n2 c2) := fun W h => (hX0.q h).cells.2.2;clear x0 x1 x2
 go_region_held3 (fun W => Q w0 W) (first | with_reducible exact (Q.refl w0).drew | with_reducible exact hq1 | with_reducible exact hS2 | with_reducible exact ((Q.refl w0).alloc _).drew | with_reducible exact hq1.alloc _ | with_reducible exact hS2.alloc _ | with_reducible exact ((hS2.setCell hgE0 _).setCell hgE0 _).setCell hgE0 _) (first
  | (go_at_call 29; (with_reducible refine (rH _ _ p (bE 12) w1 (hT.q hG1) (hx.q hG1) htv hB1).mono ?_); rintro e w2 ⟨uv, rfl, huv, hq2⟩; rw [HU.out] at huv; obtain ⟨s3, A3, n3, c3, A4, n4, c4, rfl, E3, Z3, O3, hut, hub⟩ := huv.form; have hG2 := hG1.trans hq2; have hS2 := hq1.trans hq2; first | (have hE2 := hE1.q hq2; have fz := hE2.frozen; obtain ⟨r0, r1, r2⟩ := hE2.cells) | skip)
  | (go_at_call 29; (with_reducible refine (rH _ _ p (bE 12) _ (hT.q (hG1.alloc _)) (hx.q (hG1.alloc _)) (htv.q ((Q.refl _).alloc _)) hB1).mono ?_); rintro e w2 ⟨uv, rfl, huv, hq2d⟩; have hq2 : Q w1 w2 := ((Q.refl _).alloc _).trans hq2d; rw [HU.out] at huv; obtain ⟨s3, A3, n3, c3, A4, n4, c4, rfl, E3, Z3, O3, hut, hub⟩ := huv.form; have hG2 := hG1.trans hq2; have hS2 := hq1.trans hq2; have hE2 := (Nb.new w1 false (.slice none 0 0) (.slice none 0 0)).q hq2d; have hgE0 : w0.heap.size ≤ w1.heap.size := hq1.size; have hgE := Nat.le_trans hG0.size hgE0; have fz := hE2.frozen; obtain ⟨r0, r1, r2⟩ := hE2.cells)
  | (go_at_call 124; (with_reducible refine (pW 12 w0.drew (by decide)).mono ?_); rintro e w1 ⟨tv, rfl, htv, hq1d⟩; have hq1 : Q w0 w1 := (Q.refl w0).drew.trans hq1d; obtain ⟨s7, A7, n7, c7, A8, n8, c8, rfl, -⟩ := htv.form; have hG1 := hG0.trans hq1)
  | (go_at_call 124; (with_reducible refine (pW 12 (w0.alloc (.cells #[.bool false, .slice none 0 0, .slice none 0 0] 25)).drew (by decide)).mono ?_); rintro e w1 ⟨tv, rfl, htv, hq1d⟩; have hq1 : Q w0 w1 := ((Q.refl w0).alloc _).drew.trans hq1d; obtain ⟨s7, A7, n7, c7, A8, n8, c8, rfl, -⟩ := htv.form; have hG1 := hG0.trans hq1; have hE1 : Nb w1 w0.heap.size false (.slice none 0 0) (.slice none 0 0) := (Nb.new w0 false (.slice none 0 0) (.slice none 0 0)).q ((Q.refl _).drew.trans hq1d); have hgE0 : w0.heap.size ≤ w0.heap.size := Nat.le_refl _; have hgE := hG0.size))
 have hEE : Nb (w2.alloc (.cells #[.bool s3, .slice A3 n3 c3, .slice A4 n4 c4] 25)) w2.heap.size s3 (.slice A3 n3 c3) (.slice A4 n4 c4) := Nb.new w2 _ _ _;have hGE := hG2.alloc (.cells #[.bool s3, .slice A3 n3 c3, .slice A4 n4 c4] 25);have huE := huv.q ((Q.refl w2).alloc (.cells #[.bool s3, .slice A3 n3 c3, .slice A4 n4 c4] 25));generalize w2.alloc (.cells #[.bool s3, .slice A3 n3 c3, .slice A4 n4 c4] 25) = wE at hEE hGE huE ⊢;generalize w2.heap.size = gE at hEE ⊢
 rotate_left
 have hEE := hE2.put (s := s3) (t := .slice A3 n3 c3) (b := .slice A4 n4 c4);have hGE := nQ (g := w1.heap.size) (s := s3) (t := .slice A3 n3 c3) (b := .slice A4 n4 c4) hG2 hgE;have huE := Nq.apart (s' := s3) (t' := .slice A3 n3 c3) (b' := .slice A4 n4 c4) huv hE2;unfold put3 at hEE hGE huE;generalize ((w2.setCell ⟨w1.heap.size, 0, none⟩ (.bool s3)).setCell ⟨w1.heap.size, 1, none⟩ (.slice A3 n3 c3)).setCell ⟨w1.heap.size, 2, none⟩ (.slice A4 n4 c4) = wE at hEE hGE huE ⊢;generalize w1.heap.size = gE at hEE ⊢
 rotate_left
 have hEE := hE2.put (s := s3) (t := .slice A3 n3 c3) (b := .slice A4 n4 c4);have hGE := nQ (g := w0.heap.size) (s := s3) (t := .slice A3 n3 c3) (b := .slice A4 n4 c4) hG2 hgE;have huE := Nq.apart (s' := s3) (t' := .slice A3 n3 c3) (b' := .slice A4 n4 c4) huv hE2;unfold put3 at hEE hGE huE;generalize ((w2.setCell ⟨w0.heap.size, 0, none⟩ (.bool s3)).setCell ⟨w0.heap.size, 1, none⟩ (.slice A3 n3 c3)).setCell ⟨w0.heap.size, 2, none⟩ (.slice A4 n4 c4) = wE at hEE hGE huE ⊢;generalize w0.heap.size = gE at hEE ⊢
 rotate_left
 all_goals
  clear c0 c1' c2' hut hub huv;have hut := huE.top;obtain ⟨U, hU⟩ : ∃ U, u.num.natAbs = U := ⟨_, rfl⟩
  rw [hU] at hut hzu;have HUU := Lib.hid hU; clear hU;have hutE := hut;obtain ⟨e0, e1, e2⟩ := hEE.cells;go_wp2_with fail
  refine (fT _ u _ huE).mono ?_;rintro e w11 ⟨rfl, hq11⟩;have hG11 := hGE.trans hq11;have hE11 := hEE.q hq11;clear e0 e1 e2;obtain ⟨e0, e1, e2⟩ := hE11.cells;by_cases hd : u.den = 1
  ·rw [decide_eq_true hd];have hS := aDz hu0 hd HUU.out;have HS := Lib.hid hS; have HD := Lib.hid hd; clear hS hd;go_wp2_with fail
   refine (zJ _ U _ (hutE.q hq11) hzu).mono ?_;rintro e w12 ⟨rfl, hq12⟩;have hG12 := hG11.trans hq12;have hE12 := hE11.q hq12;clear e0 e1 e2;obtain ⟨n, hn⟩ : ∃ n, (dec U).length = n := ⟨_, rfl⟩
   rw [hn];have HN := Lib.hid hn; clear hn;by_cases hl : 412 < n
   ·have hl2 : (412 : Int) < (n : Int) := (by omega);have hno : eG u = none := (by rw [HS.out]; exact aBm (by rw [HN.out]; exact hl));have HNO := Lib.hid hno; clear hno hl;go_wp2_with fail
    go_ret2
    exact ⟨⟨#[]⟩, mI (by rw [HNO.out]; rfl), by rw [HNO.out]; rfl, hG12⟩
   ·have hl2 : ¬ (412 : Int) < (n : Int) := (by omega);have hn412 : n ≤ 412 := (by omega);have hdU : dg W64 U ≤ 1000000000 := (by have := aAv U; rw [HN.out] at this; omega);clear hl;go_wp2_with fail
    obtain ⟨e0, e1, e2⟩ := hE12.cells;refine wp_region_held_drew (S := fun W => W.cell? ⟨gE, 0, none⟩ = some (.bool s3) ∧ W.cell? ⟨gE, 1, none⟩ = some (.slice A3 n3 c3) ∧ W.cell? ⟨gE, 2, none⟩ = some (.slice A4 n4 c4)) (by kernel_rfl) (by exact ⟨e0, e1, e2⟩) (fun hHeld => ?_);refine wpAnyH_take (i := 1) (v := ?_) rfl (by kernel_rfl) (by kernel_rfl) (by kernel_rfl) (fun _ _ _ h => h) (Or.inl ⟨by rfl, ?_⟩) (by assumption) ?_
    rotate_left
    ·intro W hSw
     (try dsimp only at hSw)
     go_simp
     try (with_reducible rfl)
    try simp only [Act.put]
    try simp only [List.setIfInBounds_toArray]
    try simp only [List.set_cons_zero, List.set_cons_succ]
    refine wpAnyH_take (i := 2) (v := ?_) rfl (by kernel_rfl) (by kernel_rfl) (by kernel_rfl) (fun _ _ _ h => h) (Or.inl ⟨by rfl, ?_⟩) (by assumption) ?_
    rotate_left
    ·intro W hSw
     (try dsimp only at hSw)
     go_simp
     try (with_reducible rfl)
    try simp only [Act.put]
    try simp only [List.setIfInBounds_toArray]
    try simp only [List.set_cons_zero, List.set_cons_succ]
    refine wpAnyH_ready (rs := [0]) (by kernel_rfl) (by decide) (AllReadyH.cons rfl (fun K hK => ?_) AllReadyH.nil);go_simp
    (with_reducible refine (aDA _).mono ?_)
    rintro e w13 ⟨z, rfl, hz, hz12, hq13d⟩;have hq13 : Q w12 w13 := (Q.refl w12).drew.trans hq13d;have hG13 := hG12.trans hq13;have hE13 := hE12.q hq13;obtain ⟨e0, e1, e2⟩ := hE13.cells;have HZ := Lib.hid hz;clear hz;have HZ12 := Lib.hid hz12;have hz13 := Nat.le_of_eq hz12;clear hz12;go_wp2_with fail
    refine hK.out _ _ (by exact ⟨by assumption, by assumption, by assumption⟩) (fun hHeld => ?_);clear hK K;try simp only [Act.put]
    try simp only [List.setIfInBounds_toArray]
    try simp only [List.set_cons_zero, List.set_cons_succ]
    refine wpAnyH_ready (rs := [3]) (by kernel_rfl) (by decide) (AllReadyH.cons rfl (fun K hK => ?_) AllReadyH.nil);go_simp
    (with_reducible refine (rF _ U _ ((hutE.q (hq11.trans hq12)).q hq13) hdU).mono ?_)
    rintro e w14 ⟨tb, rfl, htb, hq14⟩;have hG14 := hG13.trans hq14;have hE14 := hE13.q hq14;obtain ⟨e0, e1, e2⟩ := hE14.cells;have htn : tb.size = n := (Lib.size_eq tb).trans ((congrArg List.length htb).trans HN.out);have htn2 : tb.size ≤ 412 := (by omega)
    have HTB := Lib.hid htb;have HTN := Lib.hid htn;clear htb htn;go_wp2_with fail
    refine hK.out _ _ (by exact ⟨by assumption, by assumption, by assumption⟩) (fun hHeld => ?_);clear hK K;try simp only [Act.put]
    try simp only [List.setIfInBounds_toArray]
    try simp only [List.set_cons_zero, List.set_cons_succ]
    refine wpAnyH_ready (rs := [4]) (by kernel_rfl) (by decide) (AllReadyH.cons rfl (fun K hK => ?_) AllReadyH.nil);go_simp
    rw [if_neg (by omega)];go_simp
    refine hK.out _ _ (by exact ⟨by assumption, by assumption, by assumption⟩) (fun hHeld => ?_);clear hK K;try simp only [Act.put]
    try simp only [List.setIfInBounds_toArray]
    try simp only [List.set_cons_zero, List.set_cons_succ]
    refine wpAnyH_take (i := 5) (v := ?_) rfl (by kernel_rfl) (by kernel_rfl) (by kernel_rfl) (fun _ _ _ h => h) (Or.inl ⟨by rfl, ?_⟩) (by assumption) ?_
    rotate_left
    ·intro W hSw
     (try dsimp only at hSw)
     go_simp
     try (with_reducible rfl)
    try simp only [Act.put]
    try simp only [List.setIfInBounds_toArray]
    try simp only [List.set_cons_zero, List.set_cons_succ]
    refine wpAnyH_done (by kernel_rfl) ?_ _;all_goals
     obtain ⟨sa1, sa2⟩ := aC7 U;rw [HN.out] at sa1 sa2;have hal : (z ++ tb).data.toList = List.replicate 12 48 ++ dec U := (by rw [fD, HZ.out, HTB.out]);have has : (z ++ tb).size = 12 + n := (by rw [ByteArray.size_append, HZ12.out, HTN.out]);rw [← hal] at sa1 sa2;clear hal;generalize z ++ tb = al at *
     have hpt : (al.size : Int) - 12 = (n : Int) := (by omega);have q1 : (0 : Int) ≤ (n : Int) := (by omega);have q2 : (n : Int) ≤ (al.size : Int) := (by omega);have q3 : al.size ≤ 424 := (by omega);have hex1 : (al.extract 0 n).data.toList = al.data.toList.take n := (by rw [Lib.extract_data]; simp);have hex2 : (al.extract n al.size).data.toList = al.data.toList.drop n := Lib.extract_to_end _ _;have hxs : (al.extract n al.size).size ≤ 9223372036854775807 := (by rw [Lib.size_eq, hex2, List.length_drop, ← Lib.size_eq]; omega);obtain ⟨fa, hfa⟩ : ∃ fa : ByteArray, ⟨(Lib.trimLeftB (al.extract 0 n).data.toList 48).toArray⟩ = fa := ⟨_, rfl⟩
     obtain ⟨fb, hfb⟩ : ∃ fb : ByteArray, ⟨(Lib.trimRightB (al.extract n al.size).data.toList 48).toArray⟩ = fb := ⟨_, rfl⟩
     have la : fa.data.toList = if U / 1000000000000 = 0 then [] else dec (U / 1000000000000) := (by rw [← hfa, ← sa2, ← hex1]; rfl);have lb : fb.data.toList = wG (pd 12 (U % 1000000000000)) := (by rw [← hfb, ← sa1, ← hex2]; rfl);have hsh := aC8 la lb;rw [← HS.out] at hsh;have hLC : ∀ W : World, Calls Tryz.prog 185 #[.string (al.extract 0 n), .string ⟨#[48]⟩] W fun e w' => e = .returned (.string fa) ∧ w' = W := fun W => (by have h := Tryz.strings_TrimLeft_one (al.extract 0 n) 48 (by decide) W; rw [hfa] at h; exact h);have hRC : ∀ W : World, Calls Tryz.prog 186 #[.string (al.extract n al.size), .string ⟨#[48]⟩] W fun e w' => e = .returned (.string fb) ∧ w' = W := fun W => (by have h := Tryz.strings_TrimRight_one (al.extract n al.size) 48 (by decide) W hxs; rw [hfb] at h; exact h);have HLC := Lib.hid hLC; have HRC := Lib.hid hRC; clear hLC hRC;have fl1 : fa.size ≤ 424 := (by rw [← hfa, Lib.size_eq, toList_mk]; exact Nat.le_trans (List.dropWhile_sublist _).length_le (by rw [hex1, List.length_take, ← Lib.size_eq]; omega));have fl2 : fb.size ≤ 424 := (by rw [← hfb, Lib.size_eq, toList_mk]; unfold Lib.trimRightB; rw [List.length_reverse]; exact Nat.le_trans (List.dropWhile_sublist _).length_le (by rw [List.length_reverse, hex2, List.length_drop, ← Lib.size_eq]; omega));have ta := ByteArray.toList_eq fa;have tbb := ByteArray.toList_eq fb;have sza := Lib.size_eq fa;have szb := Lib.size_eq fb;generalize hfl : fa.data.toList = f at *
     generalize hbl : fb.data.toList = bb at *
     have HFA := Lib.hid hfa; have HFB := Lib.hid hfb; have HSH := Lib.hid hsh; have HFL := Lib.hid hfl; have HBL := Lib.hid hbl; have TA := Lib.hid ta; have TB2 := Lib.hid tbb; have SZA := Lib.hid sza; have SZB := Lib.hid szb;clear hfa hfb hsh hfl hbl ta tbb sza szb sa1 sa2 la lb hex1 hex2 has;go_wp2_with fail
     go_quiet ((first | (go_at_call 185; exact Calls.quiet_of_same (HLC.out _)) | (go_at_call 186; exact Calls.quiet_of_same (HRC.out _))))
     by_cases hf0 : f = []
     ·have faa : fa.toList = [] := TA.out.trans hf0;have fab : (fa.toList == []) = true := (by rw [faa]; rfl);have fac : fa.toList.isEmpty = true := (by rw [faa]; rfl);have hsh2 : eG u = if 400 < ([48] : List UInt8).length + bb.length then none else some ([48] ++ if bb = [] then [] else 46 :: bb) := (by have h := HSH.out; rw [if_pos hf0] at h; exact h);have HS2 := Lib.hid hsh2; clear hsh2;have HF0 := Lib.hid hf0; clear hf0;by_cases hll : 400 < ([48] : List UInt8).length + bb.length
      ·have hl4 : (400 : Int) < (1 : Int) + (fb.size : Int) := (by rw [SZB.out]; simp at hll; omega);have hno : eG u = none := (by rw [HS2.out, if_pos hll]);have HNO := Lib.hid hno; clear hno hll;go_wp2_with fail
       go_ret2
       exact ⟨⟨#[]⟩, mI (by rw [HNO.out]; rfl), by rw [HNO.out]; rfl, hG14.drewN _⟩
      ·have hl4 : ¬ (400 : Int) < (1 : Int) + (fb.size : Int) := (by rw [SZB.out]; simp at hll; omega);by_cases hb0 : bb = []
       ·have fba : fb.toList = [] := TB2.out.trans hb0;have fbb : (fb.toList == []) = true := (by rw [fba]; rfl);have fbc : fb.toList.isEmpty = true := (by rw [fba]; rfl);have hsome : eG u = some ([48] ++ []) := (by rw [HS2.out, if_neg hll, if_pos hb0]);have HSO := Lib.hid hsome; clear hsome hll hb0;go_wp2_with fail
        go_ret2
        exact ⟨⟨#[48]⟩, mI (by rw [HSO.out]; rfl), by rw [HSO.out]; simp, hG14.drewN _⟩
       ·have fba : ¬ fb.toList = [] := fun h => hb0 (TB2.out.symm.trans h);have fbb : (fb.toList == []) = false := beq_eq_false_iff_ne.2 fba;have fbc : fb.toList.isEmpty = false := by cases hx : fb.toList with | nil => exact absurd hx fba | cons _ _ => rfl
        have hsome : eG u = some ([48] ++ 46 :: bb) := (by rw [HS2.out, if_neg hll, if_neg hb0]);have HSO := Lib.hid hsome; clear hsome hll hb0;go_wp2_with fail
        go_ret2
        exact ⟨⟨#[48]⟩ ++ ⟨#[46]⟩ ++ fb, mI (by rw [HSO.out]; rfl), by rw [HSO.out, fD, fD, HBL.out]; simp, hG14.drewN _⟩
     ·have faa : ¬ fa.toList = [] := fun h => hf0 (TA.out.symm.trans h);have fab : (fa.toList == []) = false := beq_eq_false_iff_ne.2 faa;have fac : fa.toList.isEmpty = false := by cases hx : fa.toList with | nil => exact absurd hx faa | cons _ _ => rfl
      have hsh2 : eG u = if 400 < (f : List UInt8).length + bb.length then none else some (f ++ if bb = [] then [] else 46 :: bb) := (by have h := HSH.out; rw [if_neg hf0] at h; exact h);have HS2 := Lib.hid hsh2; clear hsh2;have HF0 := Lib.hid hf0; clear hf0;by_cases hll : 400 < (f : List UInt8).length + bb.length
      ·have hl4 : (400 : Int) < (fa.size : Int) + (fb.size : Int) := (by rw [SZB.out, SZA.out]; omega);have hno : eG u = none := (by rw [HS2.out, if_pos hll]);have HNO := Lib.hid hno; clear hno hll;go_wp2_with fail
       go_ret2
       exact ⟨⟨#[]⟩, mI (by rw [HNO.out]; rfl), by rw [HNO.out]; rfl, hG14.drewN _⟩
      ·have hl4 : ¬ (400 : Int) < (fa.size : Int) + (fb.size : Int) := (by rw [SZB.out, SZA.out]; omega);by_cases hb0 : bb = []
       ·have fba : fb.toList = [] := TB2.out.trans hb0;have fbb : (fb.toList == []) = true := (by rw [fba]; rfl);have fbc : fb.toList.isEmpty = true := (by rw [fba]; rfl);have hsome : eG u = some (f ++ []) := (by rw [HS2.out, if_neg hll, if_pos hb0]);have HSO := Lib.hid hsome; clear hsome hll hb0;go_wp2_with fail
        go_ret2
        exact ⟨fa, mI (by rw [HSO.out]; rfl), by rw [HSO.out]; simp; exact HFL.out, hG14.drewN _⟩
       ·have fba : ¬ fb.toList = [] := fun h => hb0 (TB2.out.symm.trans h);have fbb : (fb.toList == []) = false := beq_eq_false_iff_ne.2 fba;have fbc : fb.toList.isEmpty = false := by cases hx : fb.toList with | nil => exact absurd hx fba | cons _ _ => rfl
        have hsome : eG u = some (f ++ 46 :: bb) := (by rw [HS2.out, if_neg hll, if_neg hb0]);have HSO := Lib.hid hsome; clear hsome hll hb0;go_wp2_with fail
        go_ret2
        exact ⟨fa ++ ⟨#[46]⟩ ++ fb, mI (by rw [HSO.out]; rfl), by rw [HSO.out, fD, fD, HBL.out, HFL.out]; simp, hG14.drewN _⟩
  ·rw [decide_eq_false hd];have hno : eG u = none := if_neg hd;have HNO := Lib.hid hno; clear hno hd;go_wp2_with fail
   go_ret2
   exact ⟨⟨#[]⟩, mI (by rw [HNO.out]; rfl), by rw [HNO.out]; rfl, hG11⟩
theorem aCo (i : Nat) : (letter i).length ≤ 1 := by
 unfold letter;rcases Nat.lt_or_ge i 10 with h | h
 ·rcases (by omega : i = 0 ∨ i = 1 ∨ i = 2 ∨ i = 3 ∨ i = 4 ∨ i = 5 ∨ i = 6 ∨ i = 7 ∨ i = 8 ∨ i = 9) with rfl | rfl | rfl | rfl | rfl | rfl | rfl | rfl | rfl | rfl <;> decide
 ·rw [List.getElem?_eq_none (by simpa using h)]; decide
theorem aDB {u : Rat} {o : Option (List UInt8)} (h : eG u = o) : ∀ d, o = some d → d.length ≤ 401 := by
 intro d hd;subst hd;unfold eG at h;split at h
 ·unfold nL at h;split at h
  ·cases h
  ·rename_i hl;have e := Option.some.inj h;rw [← e, List.length_append];split
   ·simp; omega
   ·rw [List.length_cons]; omega
 ·cases h
set_option maxRecDepth 100000 in
theorem aGr (x : Value) (p : Rat) (w : World) (hT : Tb w) (hPx : Px w) (hx : Nq w x p) (hB : 2000 * sz p + 500000 ≤ LIM) : Calls Tryz.prog 27 #[x] w fun e w' => ∃ t : ByteArray, e = .returned (.string t) ∧ t.data.toList = qW p ∧ Q w w' := by
 obtain ⟨s1, A1, n1, c1, A2, n2, c2, rfl, E1, Z1, O1, hxt, hxb⟩ := hx.form;obtain ⟨w0, hW, hG0, hX0⟩ := nR w s1 (.slice A1 n1 c1) (.slice A2 n2 c2);have HB := Lib.hid hB; clear hB;by_cases hp0 : p = 0
 ·have k0 : ((n1 : Int) == 0) = true := (by rw [Z1.out.2 hp0]; rfl);have HS : Hid (qW p = [48]) := if_pos hp0;clear hp0;obtain ⟨x0, x1, x2⟩ := hX0.cells;go_enter Tryz.func27, Tryz.ntmps27
  go_wp2_with fail
  go_ret
  exact ⟨⟨#[48]⟩, rfl, HS.out.symm, hG0⟩
 ·have k0 : ((n1 : Int) == 0) = false := beq_eq_false_iff_ne.2 (fun h => hp0 (Z1.out.1 (by omega)));obtain ⟨i, hi⟩ : ∃ i, jS (eH p) 10 = i := ⟨_, rfl⟩
  have hi10 := aFg (eH p) 10 (by decide);rw [hi] at hi10;obtain ⟨pw10, hpw⟩ : ∃ z : Int, bT i = z := ⟨_, rfl⟩
  obtain ⟨pl, hpl⟩ : ∃ b, dF i = b := ⟨_, rfl⟩
  have hpl2 : pl.data.toList = letter i := (by rw [← hpl]; rfl);have hplz : pl.size ≤ 1 := (by rw [Lib.size_eq, hpl2]; exact aCo i);have hpb : -15 ≤ pw10 ∧ pw10 ≤ 15 := (by rw [← hpw]; unfold bT; omega);have hpb1 := hpb.1; have hpb2 := hpb.2; clear hpb;have hun : pG p = eH p * bE (-pw10) * bE 12 := (by unfold pG; rw [hi, ← hpw]; unfold bT; congr 2; congr 1; omega);have hsh : qW p = match eG (pG p) with | some d => iN p ++ d ++ letter i | none => dS p := by unfold qW; rw [if_neg hp0, hi]; cases eG (pG p) <;> rfl
  obtain ⟨o, ho⟩ : ∃ o, eG (pG p) = o := ⟨_, rfl⟩
  rw [ho] at hsh;rw [hun] at ho;have hol := aDB ho;have hzt := sU (-pw10);have hzm := mD (eH p) (bE (-pw10));have hza := tK p;have hBm : 16 * (sz (eH p) + sz (bE (-pw10))) + 100 ≤ LIM := (by have := HB.out; rw [aA] at *; omega);have hBs : 200 * sz (eH p * bE (-pw10)) + 50000 ≤ LIM := (by have := HB.out; rw [aA] at *; omega);have hBp : 64 * sz (eH p) + 2000 ≤ LIM := (by have := HB.out; rw [aA] at *; omega);have hBt : sz p ≤ 1000000000 := (by have := HB.out; rw [aA] at *; omega);have hnn : 0 ≤ eH p * bE (-pw10) := Rat.mul_nonneg (by unfold eH; split <;> grind) (Rat.le_of_lt (aAj _));have hm1 : (-pw10).natAbs ≤ 1000000 := (by omega);have HI := Lib.hid hi; clear hi;have HPW := Lib.hid hpw; clear hpw;have HPL := Lib.hid hpl; clear hpl;have HPL2 := Lib.hid hpl2; clear hpl2;have HSH := Lib.hid hsh; clear hsh;have HO := Lib.hid ho; clear ho;have HOL := Lib.hid hol; clear hol;have HP0 := Lib.hid hp0; clear hp0;have HNN := Lib.hid hnn; clear hnn;clear hun hzt hzm hza;obtain ⟨x0, x1, x2⟩ := hX0.cells;go_enter Tryz.func27, Tryz.ntmps27
  go_wp2_with fail
  clear hW k0;refine (aAO _ p _ (hx.q hG0)).mono ?_;rintro e w1 ⟨v1, rfl, hv1, hq1⟩;have hG1 := hG0.trans hq1;have hX1 := hX0.q hq1;clear x0 x1 x2;obtain ⟨s5, A5, n5, c5, A6, n6, c6, rfl, -⟩ := hv1.form;go_wp2_with fail
  refine (aCn _ (eH p) _ (hPx.q hG1) hv1 hBp).mono ?_;rintro e w2 ⟨rfl, hq2⟩;have hG2 := hG1.trans hq2;have hX2 := hX1.q hq2;obtain ⟨x0, x1, x2⟩ := hX2.cells;rw [HI.out, HPW.out, HPL.out];go_wp2_with fail
  refine (aAO _ p _ (hx.q hG2)).mono ?_;rintro e w3 ⟨v2, rfl, hv2, hq3⟩;have hG3 := hG2.trans hq3;have hX3 := hX2.q hq3;clear x0 x1 x2;obtain ⟨x0, x1, x2⟩ := hX3.cells;obtain ⟨s7, A7, n7, c7, A8, n8, c8, rfl, -⟩ := hv2.form;go_wp2_with fail
  refine (pW (-pw10) _ hm1).mono ?_;rintro e w4 ⟨v3, rfl, hv3, hq4⟩;have hG4 := hG3.trans hq4;have hX4 := hX3.q hq4;clear x0 x1 x2;obtain ⟨x0, x1, x2⟩ := hX4.cells;obtain ⟨s9, A9, n9, c9, A10, n10, c10, rfl, -⟩ := hv3.form;go_wp2_with fail
  refine (rH _ _ (eH p) (bE (-pw10)) _ (hT.q hG4) (hv2.q hq4) hv3 hBm).mono ?_;rintro e w5 ⟨v4, rfl, hv4, hq5⟩;have hG5 := hG4.trans hq5;have hX5 := hX4.q hq5;clear x0 x1 x2;obtain ⟨x0, x1, x2⟩ := hX5.cells;obtain ⟨s11, A11, n11, c11, A12, n12, c12, rfl, -⟩ := hv4.form;go_wp2_with fail
  refine (zK _ (eH p * bE (-pw10)) _ (hT.q hG5) hv4 HNN.out hBs).mono ?_;rintro e w6 ⟨td, rfl, htd, hq6⟩;have hG6 := hG5.trans hq6;have hX6 := hX5.q hq6;clear x0 x1 x2;obtain ⟨x0, x1, x2⟩ := hX6.cells;rw [HO.out] at htd ⊢;cases o with
  | none =>
    have hR : qW p = dS p := HSH.out;have HR := Lib.hid hR; clear hR;go_wp2_with fail
    refine (pV _ p _ (hx.q hG6) hBt).mono ?_;rintro e w7 ⟨tt, rfl, htt, hq7⟩;have hG7 := hG6.trans hq7;have hX7 := hX6.q hq7;clear x0 x1 x2;have HTT := Lib.hid htt; clear htt;go_wp2_with fail
    go_ret
    exact ⟨tt, rfl, HTT.out.trans HR.out.symm, hG7⟩
  | some d =>
    have hR : qW p = iN p ++ d ++ letter i := HSH.out;have HR := Lib.hid hR; clear hR;have htd2 : td.data.toList = d := htd;have htz : td.size ≤ 401 := (by rw [Lib.size_eq, htd2]; exact HOL.out d rfl);have HTD := Lib.hid htd2; clear htd htd2;go_wp2_with fail
    refine (xB _ p _ (hx.q hG6)).mono ?_;rintro e w7 ⟨ts, rfl, hts, hq7⟩;have hG7 := hG6.trans hq7;have hX7 := hX6.q hq7;clear x0 x1 x2;have hsz1 := yZ hts;have HTS := Lib.hid hts; clear hts;go_wp2_with fail
    go_ret
    exact ⟨_, rfl, by rw [fD, fD, HTS.out, HTD.out, HPL2.out, HR.out], hG7⟩
def Ns (w : World) (v : Value) (p q : Rat) : Prop := ∃ s1 A1 n1 c1 A2 n2 c2 s2 A3 n3 c3 A4 n4 c4, v = .agg #[.bool s1, .slice A1 n1 c1, .slice A2 n2 c2, .bool s2, .slice A3 n3 c3, .slice A4 n4 c4] ∧
 Nq w (.agg #[.bool s1, .slice A1 n1 c1, .slice A2 n2 c2]) p ∧ Nq w (.agg #[.bool s2, .slice A3 n3 c3, .slice A4 n4 c4]) q
theorem Ns.q {w w' : World} {v : Value} {p q : Rat} (h : Ns w v p q) (hq : Q w w') : Ns w' v p q := by
 obtain ⟨s1, A1, n1, c1, A2, n2, c2, s2, A3, n3, c3, A4, n4, c4, e, h1, h2⟩ := h;exact ⟨s1, A1, n1, c1, A2, n2, c2, s2, A3, n3, c3, A4, n4, c4, e, h1.q hq, h2.q hq⟩
def Sp (w : World) (g : Nat) (s1 : Bool) (t1 b1 : Value) (s2 : Bool) (t2 b2 : Value) : Prop := w.heap[g]? = some (.cells #[.bool s1, t1, b1, .bool s2, t2, b2] 70 (0, 0))
section
variable {w w' : World} {g : Nat} {s1 s2 : Bool} {t1 b1 t2 b2 : Value}
theorem Sp.cells (h : Sp w g s1 t1 b1 s2 t2 b2) : w.cell? ⟨g, 0, none⟩ = some (.bool s1) ∧ w.cell? ⟨g, 1, none⟩ = some t1 ∧ w.cell? ⟨g, 2, none⟩ = some b1 ∧ w.cell? ⟨g, 3, none⟩ = some (.bool s2) ∧ w.cell? ⟨g, 4, none⟩ = some t2 ∧ w.cell? ⟨g, 5, none⟩ = some b2 := by
 unfold Sp at h;refine ⟨?_, ?_, ?_, ?_, ?_, ?_⟩ <;> simp [World.cell?, h]
theorem Sp.frozen (h : Sp w g s1 t1 b1 s2 t2 b2) (i : Nat) : w.frozen? ⟨g, i, none⟩ = false := by
 unfold Sp at h;simp [World.frozen?, h]
theorem Sp.lt (h : Sp w g s1 t1 b1 s2 t2 b2) : g < w.heap.size := by
 rcases Nat.lt_or_ge g w.heap.size with hlt | hge
 ·exact hlt
 ·unfold Sp at h; rw [Array.getElem?_eq_none hge] at h; cases h
theorem Sp.q (h : Sp w g s1 t1 b1 s2 t2 b2) (hq : Q w w') : Sp w' g s1 t1 b1 s2 t2 b2 := (hq.heap h.lt).trans h
theorem Sp.new (w : World) (s1 : Bool) (t1 b1 : Value) (s2 : Bool) (t2 b2 : Value) : Sp (w.alloc (.cells #[.bool s1, t1, b1, .bool s2, t2, b2] 70)) w.heap.size s1 t1 b1 s2 t2 b2 := heap_alloc_new w _
end
def put6 (w : World) (g : Nat) (s1 : Bool) (t1 b1 : Value) (s2 : Bool) (t2 b2 : Value) : World :=
 (((((w.setCell ⟨g, 0, none⟩ (.bool s1)).setCell ⟨g, 1, none⟩ t1).setCell ⟨g, 2, none⟩ b1).setCell ⟨g, 3, none⟩ (.bool s2)).setCell ⟨g, 4, none⟩ t2).setCell ⟨g, 5, none⟩ b2
theorem Sp.put {w : World} {g : Nat} {s1 s2 s1' s2' : Bool} {t1 b1 t2 b2 t1' b1' t2' b2' : Value} (h : Sp w g s1' t1' b1' s2' t2' b2') : Sp (put6 w g s1 t1 b1 s2 t2 b2) g s1 t1 b1 s2 t2 b2 := by
 unfold Sp at h ⊢;unfold put6;simp [World.setCell, Array.getElem?_modify, h]
theorem aGs {a w : World} {g : Nat} {s1 s2 : Bool} {t1 b1 t2 b2 : Value} (h : Q a w) (hg : a.heap.size ≤ g) : Q a (put6 w g s1 t1 b1 s2 t2 b2) :=
 (((((h.setCell (p := ⟨g, 0, none⟩) hg _).setCell (p := ⟨g, 1, none⟩) hg _).setCell (p := ⟨g, 2, none⟩) hg _).setCell (p := ⟨g, 3, none⟩) hg _).setCell (p := ⟨g, 4, none⟩) hg _).setCell (p := ⟨g, 5, none⟩) hg _
theorem aDC {w : World} {g k : Nat} {s1 s2 : Bool} {t1 b1 t2 b2 : Value} (h : k ≠ g) : (put6 w g s1 t1 b1 s2 t2 b2).heap[k]? = w.heap[k]? := by
 unfold put6;rw [Below.heap_setCell _ _ _ _ h, Below.heap_setCell _ _ _ _ h, Below.heap_setCell _ _ _ _ h, Below.heap_setCell _ _ _ _ h, Below.heap_setCell _ _ _ _ h, Below.heap_setCell _ _ _ _ h]
theorem aDD {w : World} {g : Nat} {s1 s2 : Bool} {t1 b1 t2 b2 : Value} : (put6 w g s1 t1 b1 s2 t2 b2).heap.size = w.heap.size := by
 unfold put6; simp
theorem Sp.no_word {w : World} {g o : Nat} {s1 s2 : Bool} {A1 A2 A3 A4 : Option Addr} {n1 c1 n2 c2 n3 c3 n4 c4 : Nat} {d : Int} (hb : Sp w g s1 (.slice A1 n1 c1) (.slice A2 n2 c2) s2 (.slice A3 n3 c3) (.slice A4 n4 c4)) : w.cell? ⟨g, o, none⟩ ≠ some (.int .u64 d) := by
 unfold Sp at hb;intro h6;simp only [World.cell?, hb] at h6;rcases o with _ | _ | _ | _ | _ | _ | o <;> simp at h6
theorem Me.Nm.put6 {w : World} {x : Value} {N g : Nat} {s1 s2 s1' s2' : Bool} {A1 A2 A3 A4 : Option Addr} {n1 c1 n2 c2 n3 c3 n4 c4 : Nat} {t1' b1' t2' b2' : Value} (h : Nm w x N) (hb : Sp w g s1 (.slice A1 n1 c1) (.slice A2 n2 c2) s2 (.slice A3 n3 c3) (.slice A4 n4 c4)) : Nm (put6 w g s1' t1' b1' s2' t2' b2') x N := by
 obtain ⟨A, c, ws, rfl, h2, h3, h4, h5⟩ := h;refine ⟨A, c, ws, rfl, h2, fun hn => ?_, h4, h5⟩;obtain ⟨bl, o, rfl, hlt, hc⟩ := h3 hn;have hne : bl ≠ g := by
  rintro rfl;exact hb.no_word (hc 0 _ (List.getElem?_eq_getElem hn))
 refine ⟨bl, o, rfl, by rw [aDD]; exact hlt, fun j d hd => ?_⟩;have := hc j d hd;unfold World.cell? at this ⊢;rw [aDC hne];exact this
theorem Nq.apart6 {w : World} {v : Value} {q : Rat} {g : Nat} {s1 s2 s1' s2' : Bool} {A1 A2 A3 A4 : Option Addr} {n1 c1 n2 c2 n3 c3 n4 c4 : Nat} {t1' b1' t2' b2' : Value} (h : Nq w v q) (hb : Sp w g s1 (.slice A1 n1 c1) (.slice A2 n2 c2) s2 (.slice A3 n3 c3) (.slice A4 n4 c4)) : Nq (put6 w g s1' t1' b1' s2' t2' b2') v q := by
 obtain ⟨t, b, h1, h2, h3⟩ := h;exact ⟨t, b, h1, h2.put6 hb, h3.put6 hb⟩
theorem Ns.store {a w : World} {g : Nat} {s1 s2 s1' s2' : Bool} {A1 A2 A3 A4 B1 B2 B3 B4 : Option Addr} {n1 c1 n2 c2 n3 c3 n4 c4 m1 d1 m2 d2 m3 d3 m4 d4 : Nat} {p q : Rat} (hr : Sp w g s1' (.slice B1 m1 d1) (.slice B2 m2 d2) s2' (.slice B3 m3 d3) (.slice B4 m4 d4)) (hlo : Nq w (.agg #[.bool s1, .slice A1 n1 c1, .slice A2 n2 c2]) p) (hhi : Nq w (.agg #[.bool s2, .slice A3 n3 c3, .slice A4 n4 c4]) q) (hq : Q a w) (hg : a.heap.size ≤ g) : (put6 w g s1 (.slice A1 n1 c1) (.slice A2 n2 c2) s2 (.slice A3 n3 c3) (.slice A4 n4 c4)).cell? ⟨g, 0, none⟩ = some (.bool s1) ∧ (put6 w g s1 (.slice A1 n1 c1) (.slice A2 n2 c2) s2 (.slice A3 n3 c3) (.slice A4 n4 c4)).cell? ⟨g, 1, none⟩ = some (.slice A1 n1 c1) ∧ (put6 w g s1 (.slice A1 n1 c1) (.slice A2 n2 c2) s2 (.slice A3 n3 c3) (.slice A4 n4 c4)).cell? ⟨g, 2, none⟩ = some (.slice A2 n2 c2) ∧ (put6 w g s1 (.slice A1 n1 c1) (.slice A2 n2 c2) s2 (.slice A3 n3 c3) (.slice A4 n4 c4)).cell? ⟨g, 3, none⟩ = some (.bool s2) ∧ (put6 w g s1 (.slice A1 n1 c1) (.slice A2 n2 c2) s2 (.slice A3 n3 c3) (.slice A4 n4 c4)).cell? ⟨g, 4, none⟩ = some (.slice A3 n3 c3) ∧ (put6 w g s1 (.slice A1 n1 c1) (.slice A2 n2 c2) s2 (.slice A3 n3 c3) (.slice A4 n4 c4)).cell? ⟨g, 5, none⟩ = some (.slice A4 n4 c4) ∧
  Ns (put6 w g s1 (.slice A1 n1 c1) (.slice A2 n2 c2) s2 (.slice A3 n3 c3) (.slice A4 n4 c4)) (.agg #[.bool s1, .slice A1 n1 c1, .slice A2 n2 c2, .bool s2, .slice A3 n3 c3, .slice A4 n4 c4]) p q ∧ Q a (put6 w g s1 (.slice A1 n1 c1) (.slice A2 n2 c2) s2 (.slice A3 n3 c3) (.slice A4 n4 c4)) := by
 obtain ⟨r0, r1, r2, r3, r4, r5⟩ := (hr.put (s1 := s1) (t1 := .slice A1 n1 c1) (b1 := .slice A2 n2 c2) (s2 := s2) (t2 := .slice A3 n3 c3) (b2 := .slice A4 n4 c4)).cells;exact ⟨r0, r1, r2, r3, r4, r5, ⟨_, _, _, _, _, _, _, _, _, _, _, _, _, _, rfl, hlo.apart6 hr, hhi.apart6 hr⟩, aGs hq hg⟩
theorem aGt (w : World) (s1 : Bool) (t1 b1 : Value) (s2 : Bool) (t2 b2 : Value) : ∃ W, (w.alloc (.cells #[.bool s1, t1, b1, .bool s2, t2, b2] 70)).alloc (.cells #[.bool false, .slice none 0 0, .slice none 0 0, .bool false, .slice none 0 0, .slice none 0 0] 70) = W ∧
  Q w W ∧ Sp W w.heap.size s1 t1 b1 s2 t2 b2 ∧ Sp W (w.heap.size + 1) false (.slice none 0 0) (.slice none 0 0) false (.slice none 0 0) (.slice none 0 0) := by
 have h1 := Sp.new w s1 t1 b1 s2 t2 b2;have h2 := Sp.new (w.alloc (.cells #[.bool s1, t1, b1, .bool s2, t2, b2] 70)) false (.slice none 0 0) (.slice none 0 0) false (.slice none 0 0) (.slice none 0 0);rw [World.size_alloc] at h2;exact ⟨_, rfl, ((Q.refl _).alloc _).alloc _, h1.q ((Q.refl _).alloc _), h2⟩
set_option maxRecDepth 100000 in
theorem aDE (a : Value) (p q : Rat) (w : World) (ha : Ns w a p q) (hB : 64 * (sz p + sz q) + 400 ≤ LIM) : Calls Tryz.prog 153 #[a] w fun e w' => ∃ r, e = .returned r ∧ Ns w' r (aK p q) (aI p q) ∧ Q w w' := by
 obtain ⟨s11, A11, n11, c11, A12, n12, c12, s12, A13, n13, c13, A14, n14, c14, rfl, lo1, hi1⟩ := ha;obtain ⟨w0, hW, hG0, hA0, hT0⟩ := aGt w s11 (.slice A11 n11 c11) (.slice A12 n12 c12) s12 (.slice A13 n13 c13) (.slice A14 n14 c14);have HB := Lib.hid hB; clear hB;obtain ⟨c, hc⟩ : ∃ c, rc p q = c := ⟨_, rfl⟩
 have hle := zO p q;rw [hc] at hle;have HC := Lib.hid hc; have HLE := Lib.hid hle; clear hc hle;by_cases h : 0 < c
 ·have HH := Lib.hid h;have hnle : ¬ p ≤ q := fun h1 => (by have := HLE.out.2 h1; have := HH.out; omega);have hge : q ≤ p := (by grind);have hm1 : aK p q = q := if_neg hnle;have hm2 : aI p q = p := if_pos hge;rw [hm1, hm2];clear hm1 hm2 hnle hge;obtain ⟨a0, a1, a2, a3, a4, a5⟩ := hA0.cells;go_enter Tryz.func153, Tryz.ntmps153
  go_wp2_with fail
  clear hW;refine (oJ _ _ p q _ (lo1.q hG0) (hi1.q hG0) HB.out).mono ?_;rintro e w1 ⟨rfl, hq1⟩;have hG1 := hG0.trans hq1;have hA1 := hA0.q hq1;have hT1 := hT0.q hq1;clear a0 a1 a2 a3 a4 a5;obtain ⟨a0, a1, a2, a3, a4, a5⟩ := hA1.cells;have fz := hT1.frozen;obtain ⟨r0, r1, r2, r3, r4, r5⟩ := hT1.cells;rw [HC.out];go_wp2_with fail
  obtain ⟨z0, z1, z2, z3, z4, z5, hvF, hqF⟩ := Ns.store hT1 (hi1.q hG1) (lo1.q hG1) hG1 (Nat.le_add_right _ _);unfold put6 at z0 z1 z2 z3 z4 z5 hvF hqF;refine bodyPost_ret (v := .agg #[.bool s12, .slice A13 n13 c13, .slice A14 n14 c14, .bool s11, .slice A11 n11 c11, .slice A12 n12 c12]) (by simp [results, Tryz.results153, go_sem, z0, z1, z2, z3, z4, z5]) rfl ?_;exact ⟨_, rfl, hvF, hqF⟩
 ·have HH := Lib.hid h;have hm1 : aK p q = p := if_pos (HLE.out.1 (by have := HH.out; omega));have hm2 : aI p q = q := kK (HLE.out.1 (by have := HH.out; omega));rw [hm1, hm2];clear hm1 hm2;obtain ⟨a0, a1, a2, a3, a4, a5⟩ := hA0.cells;go_enter Tryz.func153, Tryz.ntmps153
  go_wp2_with fail
  clear hW;refine (oJ _ _ p q _ (lo1.q hG0) (hi1.q hG0) HB.out).mono ?_;rintro e w1 ⟨rfl, hq1⟩;have hG1 := hG0.trans hq1;have hA1 := hA0.q hq1;have hT1 := hT0.q hq1;clear a0 a1 a2 a3 a4 a5;obtain ⟨a0, a1, a2, a3, a4, a5⟩ := hA1.cells;have fz := hT1.frozen;obtain ⟨r0, r1, r2, r3, r4, r5⟩ := hT1.cells;rw [HC.out];go_wp2_with fail
  obtain ⟨z0, z1, z2, z3, z4, z5, hvF, hqF⟩ := Ns.store hT1 (lo1.q hG1) (hi1.q hG1) hG1 (Nat.le_add_right _ _);unfold put6 at z0 z1 z2 z3 z4 z5 hvF hqF;refine bodyPost_ret (v := .agg #[.bool s11, .slice A11 n11 c11, .slice A12 n12 c12, .bool s12, .slice A13 n13 c13, .slice A14 n14 c14]) (by simp [results, Tryz.results153, go_sem, z0, z1, z2, z3, z4, z5]) rfl ?_;exact ⟨_, rfl, hvF, hqF⟩
end Go.Proofs.YtgokbhikgdhmpaaGreatDoor
namespace Go.Proofs.YtgokbhikgdhmpaaGreatDoor.K
open Go.RowKit
open Ma Me
theorem aCp {w w' : World} {v : Value} {q : Rat} {g : Nat} (h : Nq w v q) (ha : Ap w w' g) : Nq w' v q := by
 obtain ⟨t, b, e, h1, h2⟩ := h;exact ⟨t, b, e, ha.nm h1, ha.nm h2⟩
def aF (q : Rat) : Pr := ⟨fun v w => Nq w v q, fun h hq => Nq.q h hq, true, fun _ h ha => aCp h ha⟩
def iG (p q : Rat) : Pr := ⟨fun v w => Ns w v p q, fun h hq => Ns.q h hq, true,
 fun _ ⟨s1, A1, n1, c1, A2, n2, c2, s2, A3, n3, c3, A4, n4, c4, e, h1, h2⟩ ha => ⟨s1, A1, n1, c1, A2, n2, c2, s2, A3, n3, c3, A4, n4, c4, e, aCp h1 ha, aCp h2 ha⟩⟩
theorem aGu (w : World) : Nq w (.agg #[.bool false, .slice none 0 0, .slice none 0 0]) 0 := ⟨_, _, rfl, Nm.zero Option.none 0, Nm.zero Option.none 0⟩
section
variable {w : World} {s1 s2 : Bool} {A1 A2 A3 A4 : Option Addr} {n1 c1 n2 c2 n3 c3 n4 c4 : Nat} {p q : Rat}
theorem mZ (h : Ns w (.agg #[.bool s1, .slice A1 n1 c1, .slice A2 n2 c2, .bool s2, .slice A3 n3 c3, .slice A4 n4 c4]) p q) : Nq w (.agg #[.bool s1, .slice A1 n1 c1, .slice A2 n2 c2]) p ∧ Nq w (.agg #[.bool s2, .slice A3 n3 c3, .slice A4 n4 c4]) q := by
 obtain ⟨s1', A1', n1', c1', A2', n2', c2', s2', A3', n3', c3', A4', n4', c4', e, h⟩ := h;simp only [Value.agg.injEq, Array.mk.injEq, List.cons.injEq, Value.bool.injEq, Value.slice.injEq, and_true] at e;obtain ⟨rfl, ⟨rfl, rfl, rfl⟩, ⟨rfl, rfl, rfl⟩, rfl, ⟨rfl, rfl, rfl⟩, rfl, rfl, rfl⟩ := e;exact h
end
end Go.Proofs.YtgokbhikgdhmpaaGreatDoor.K
namespace Go.Proofs.YtgokbhikgdhmpaaGreatDoor.K
open Go.RowKit
open Ma Me
theorem kF {q : Rat} : ∀ v W, (Vs.gen (aF q)).holds v W → ∃ v0 v1 v2, v = .agg #[v0, v1, v2] ∧ Sh [.b, .s, .s] [v0, v1, v2] := fun v W h => by
 obtain ⟨s, A1, n1, c1, A2, n2, c2, e, -⟩ := Nq.form (show Nq W v q from h);exact ⟨_, _, _, e, ⟨_, rfl⟩, ⟨_, _, _, rfl⟩, ⟨_, _, _, rfl⟩, trivial⟩
end Go.Proofs.YtgokbhikgdhmpaaGreatDoor.K
