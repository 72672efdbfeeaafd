/- ValueSpans: spans of numbers. No condition. -/
import Derived.Test.YtajbfablmpmgbaaGreatDoorQw14
set_option maxHeartbeats 4000000
set_option maxRecDepth 100000
namespace Go.Proofs.YtajbfablmpmgbaaGreatDoor
open Go.RowKit
open Ma Me
theorem aHH (N : Nat) : (dec N).length ≤ 20 * dg W64 N + 1 := by
 rw [fM];split
 ·omega
 ·have h : dg 10 N ≤ 20 * dg W64 N := by
   rw [aI (by decide), Nat.pow_mul];exact Nat.lt_of_lt_of_le (aS aD N) (Nat.pow_le_pow_left (by decide) _)
  omega
theorem aAW {t : ByteArray} {p : Rat} (h : t.data.toList = jF p) : t.size ≤ 1 := by
 rw [Lib.size_eq, h];unfold jF;split <;> decide
theorem aCh {t : ByteArray} {N : Nat} (h : t.data.toList = dec N) (hN : dg W64 N ≤ 1000000000) : t.size ≤ 20000000001 := by
 rw [Lib.size_eq, h];have := aHH N;omega
theorem fJ (a b : ByteArray) : (a ++ b).data.toList = a.data.toList ++ b.data.toList := by
 simp
theorem aJd {d : Nat} (h : ¬ d = 1) : bt d = d := if_neg h
theorem aFm {a b : ByteArray} {p : Rat} (ha : a.data.toList = jF p) (hb : b.data.toList = dec p.num.natAbs) (hd : p.den = 1) : (a ++ b).data.toList = aX p := by
 rw [fJ, ha, hb, xP, if_pos hd, List.append_nil]
theorem aFn {a b c : ByteArray} {p : Rat} (ha : a.data.toList = jF p) (hb : b.data.toList = dec p.num.natAbs) (hc : c.data.toList = dec (bt p.den)) (hd : ¬ p.den = 1) : (a ++ b ++ (⟨#[47]⟩ ++ c)).data.toList = aX p := by
 rw [fJ, fJ, fJ, ha, hb, hc, xP, if_neg hd, aJd hd, List.append_assoc];rfl
theorem zM (x : Value) (p : Rat) (w : World) (hx : Nq w x p) : Calls Tryz.prog 106 #[x] w fun e w' => ∃ t : ByteArray, e = .returned (.string t) ∧ t.data.toList = jF p ∧ Q w w' := by
 obtain ⟨s1, A1, n1, c1, A2, n2, c2, rfl, E1, Z1, O1, hxt, hxb⟩ := hx.form;obtain ⟨w0, hW, hG0, hX0⟩ := pR w s1 (.slice A1 n1 c1) (.slice A2 n2 c2);have he0 : s1 = decide (p < 0) := E1.out.trans (decide_eq_decide.2 (bZ p));by_cases hp : p < 0
 ·have k0 : s1 = true := he0.trans (decide_eq_true hp);have HS := yW (if_pos hp : jF p = [45]);subst k0;clear he0 hp;obtain ⟨x0, x1, x2⟩ := hX0.cells;go_enter Tryz.func106, Tryz.ntmps106
  go_wp2_with fail
  go_ret
  exact ⟨⟨#[45]⟩, rfl, HS.out.symm, hG0⟩
 ·have k0 : s1 = false := he0.trans (decide_eq_false hp);have HS := yW (if_neg hp : jF p = []);subst k0;clear he0 hp;obtain ⟨x0, x1, x2⟩ := hX0.cells;go_enter Tryz.func106, Tryz.ntmps106
  go_wp2_with fail
  go_ret
  exact ⟨⟨#[]⟩, rfl, HS.out.symm, hG0⟩
theorem nR (x : Value) (p : Rat) (w : World) (hx : Nq w x p) (hB : sz p ≤ 1000000000) : Calls Tryz.prog 47 #[x] w fun e w' => ∃ t : ByteArray, e = .returned (.string t) ∧ t.data.toList = aX p ∧ Q w w' := by
 obtain ⟨s1, A1, n1, c1, A2, n2, c2, rfl, E1, Z1, O1, hxt, hxb⟩ := hx.form;obtain ⟨w0, hW, hG0, hX0⟩ := pR w s1 (.slice A1 n1 c1) (.slice A2 n2 c2);have b1 : dg W64 p.num.natAbs ≤ 1000000000 := by have := aN p; omega
 have b2 : dg W64 (bt p.den) ≤ 1000000000 := by have := zJ p; omega
 go_enter Tryz.func47, Tryz.ntmps47
 obtain ⟨x0, x1, x2⟩ := hX0.cells;go_wp2_with fail
 clear hW;clear x0 x1 x2;obtain ⟨x0, x1, x2⟩ := hX0.cells;refine wp_region_held_drew (S := fun W => W.cell? ⟨w.heap.size, 0, none⟩ = some (.bool s1) ∧ W.cell? ⟨w.heap.size, 1, none⟩ = some (.slice A1 n1 c1) ∧ W.cell? ⟨w.heap.size, 2, none⟩ = some (.slice A2 n2 c2)) (by kernel_rfl) (by exact ⟨x0, x1, x2⟩) (fun hHeld => ?_);refine wpAnyH_take (i := 0) (v := ?v0) rfl (by kernel_rfl) (by kernel_rfl) (by kernel_rfl) (fun _ _ _ h => h) (Or.inl ⟨by rfl, ?h0⟩) (by assumption) ?r0
 case h0 =>
  intro W hSw
  (try dsimp only at hSw)
  go_simp
  try (with_reducible rfl)
 try simp only [Act.put]
 try simp only [List.setIfInBounds_toArray]
 try simp only [List.set_cons_zero, List.set_cons_succ]
 refine wpAnyH_take (i := 2) (v := ?v2) rfl (by kernel_rfl) (by kernel_rfl) (by kernel_rfl) (fun _ _ _ h => h) (Or.inl ⟨by rfl, ?h2⟩) (by assumption) ?r2
 case h2 =>
  intro W hSw
  (try dsimp only at hSw)
  go_simp
  try (with_reducible rfl)
 try simp only [Act.put]
 try simp only [List.setIfInBounds_toArray]
 try simp only [List.set_cons_zero, List.set_cons_succ]
 refine wpAnyH_take (i := 3) (v := ?v3) rfl (by kernel_rfl) (by kernel_rfl) (by kernel_rfl) (fun _ _ _ h => h) (Or.inl ⟨by rfl, ?h3⟩) (by assumption) ?r3
 case h3 =>
  intro W hSw
  (try dsimp only at hSw)
  go_simp
  try (with_reducible rfl)
 try simp only [Act.put]
 try simp only [List.setIfInBounds_toArray]
 try simp only [List.set_cons_zero, List.set_cons_succ]
 refine wpAnyH_ready (rs := [1]) (by kernel_rfl) (by decide) (AllReadyH.cons rfl (fun K hK => ?_) AllReadyH.nil);go_simp
 (with_reducible refine (zM _ p _ (hx.q hG0.drew)).mono ?_)
 rintro e w1 ⟨ta, rfl, hta, hq1d⟩;have hq1 : Q w0 w1 := (Q.refl w0).drew.trans hq1d;have hG1 := hG0.trans hq1;have hX1 := hX0.q hq1;obtain ⟨x0, x1, x2⟩ := hX1.cells;have sa := aAW hta;have HTA := yW hta;clear hta;go_wp2_with fail
 refine hK.out _ _ (by exact ⟨by assumption, by assumption, by assumption⟩) (fun hHeld => ?_);clear hK K;try simp only [Act.put]
 try simp only [List.setIfInBounds_toArray]
 try simp only [List.set_cons_zero, List.set_cons_succ]
 refine wpAnyH_ready (rs := [4]) (by kernel_rfl) (by decide) (AllReadyH.cons rfl (fun K hK => ?_) AllReadyH.nil);go_simp
 (with_reducible refine (tY _ p.num.natAbs _ (hxt.q hG1) b1).mono ?_)
 rintro e w2 ⟨tb, rfl, htb, hq2⟩;have hG2 := hG1.trans hq2;have hX2 := hX1.q hq2;obtain ⟨x0, x1, x2⟩ := hX2.cells;have sb := aCh htb b1;have HTB := yW htb;clear htb;go_wp2_with fail
 refine hK.out _ _ (by exact ⟨by assumption, by assumption, by assumption⟩) (fun hHeld => ?_);clear hK K;try simp only [Act.put]
 try simp only [List.setIfInBounds_toArray]
 try simp only [List.set_cons_zero, List.set_cons_succ]
 refine wpAnyH_ready (rs := [5]) (by kernel_rfl) (by decide) (AllReadyH.cons rfl (fun K hK => ?_) AllReadyH.nil);go_simp
 rw [if_neg (by have := sa; have := sb; omega)];go_simp
 refine hK.out _ _ (by exact ⟨by assumption, by assumption, by assumption⟩) (fun hHeld => ?_);clear hK K;try simp only [Act.put]
 try simp only [List.setIfInBounds_toArray]
 try simp only [List.set_cons_zero, List.set_cons_succ]
 refine wpAnyH_take (i := 6) (v := ?v6) rfl (by kernel_rfl) (by kernel_rfl) (by kernel_rfl) (fun _ _ _ h => h) (Or.inl ⟨by rfl, ?h6⟩) (by assumption) ?r6
 case h6 =>
  intro W hSw
  (try dsimp only at hSw)
  go_simp
  try (with_reducible rfl)
 try simp only [Act.put]
 try simp only [List.setIfInBounds_toArray]
 try simp only [List.set_cons_zero, List.set_cons_succ]
 refine wpAnyH_done (by kernel_rfl) ?_ _;all_goals
  obtain ⟨x0, x1, x2⟩ := hX2.cells;go_wp2_with fail
  refine (gI _ p _ (hx.q hG2)).mono ?_;rintro e w3 ⟨rfl, hq3⟩;have hG3 := hG2.trans hq3;have hX3 := hX2.q hq3;clear x0 x1 x2;obtain ⟨x0, x1, x2⟩ := hX3.cells;by_cases hd : p.den = 1
  ·rw [decide_eq_true hd];have HD := yW hd; clear hd;go_wp2_with fail
   go_ret
   exact ⟨_, rfl, aFm HTA.out HTB.out HD.out, hG3⟩
  ·rw [decide_eq_false hd];have HD := yW hd; clear hd;go_wp2_with fail
   refine (tY _ (bt p.den) _ (hxb.q hG3) b2).mono ?_;rintro e w4 ⟨tc, rfl, htc, hq4⟩;have hG4 := hG3.trans hq4;have hX4 := hX3.q hq4;clear x0 x1 x2;have sc := aCh htc b2; have HTC := yW htc; clear htc;go_wp2_with fail
   go_ret
   exact ⟨_, rfl, aFn HTA.out HTB.out HTC.out HD.out, hG4⟩
theorem sI (z : Int) (w : World) (hB : z.natAbs ≤ 1000000) : Calls Tryz.prog 104 #[.int .i64 z] w fun e w' => ∃ r, e = .returned r ∧ Nq w' r (bE z) ∧ Q w w' := by
 obtain ⟨w0, hW, hG0, hR0⟩ : ∃ W, w.alloc (.cells #[.bool false, .slice none 0 0, .slice none 0 0] 28) = W ∧ Q w W ∧ Nb W w.heap.size false (.slice none 0 0) (.slice none 0 0) := ⟨_, rfl, (Q.refl _).alloc _, Nb.new w _ _ _⟩
 by_cases hz0 : z < 0
 ·obtain ⟨k, hk⟩ : ∃ k : Nat, (-z).toNat = k := ⟨_, rfl⟩
  have hzk : z = -(k : Int) := (by omega);have hnz : -z = (k : Int) := (by omega);have hpw : bE z = bE (-(k : Int)) := (by rw [hzk]);rw [hpw];have b1 : k + 9 ≤ LIM := (by rw [aC]; omega);have b2 : -1000000 ≤ z := (by omega);obtain ⟨p1, p2⟩ := rO k;have HP1 := yW p1; have HP2 := yW p2; clear p1 p2 hpw hk hzk hB;go_enter Tryz.func104, Tryz.ntmps104
  go_wp2_with fail
  clear hW;refine (fH 1 1 _ rfl (by decide)).mono ?_;rintro e w1 ⟨t2, rfl, ht2, hq1, -⟩;have hG1 := hG0.trans hq1;have hR1 := hR0.q hq1;obtain ⟨A6, n6, c6, rfl⟩ := ht2.form;go_wp2_with fail
  refine (rY k _ _ rfl b1).mono ?_;rintro e w2 ⟨t3, rfl, ht3, hq2, -⟩;have hG2 := hG1.trans hq2;have hR2 := hR1.q hq2;have fz := hR2.frozen;obtain ⟨r0, r1, r2⟩ := hR2.cells;obtain ⟨A7, n7, c7, rfl⟩ := ht3.form;go_wp2_with fail
  refine (bU false _ _ 1 (10 ^ k) _ (ht2.q hq2) ht3).mono ?_;rintro e w3 ⟨v5, rfl, hv5, hq3⟩;have hG3 := hG2.trans hq3;have hR3 := hR2.q hq3;clear fz r0 r1 r2;have fz := hR3.frozen;obtain ⟨r0, r1, r2⟩ := hR3.cells;obtain ⟨B1, d1, B2, d2, rfl, -, -⟩ := hv5.form;have hv := Nq.made (q := bE (-(k : Int))) hv5 HP1.out (fun _ => HP2.out);generalize (decide (0 < 1) && false) = s4 at *
  generalize dg W64 (if 1 = 0 then 0 else bt (10 ^ k)) = m2 at *
  generalize dg W64 1 = m1 at *
  go_wp2_with fail
  obtain ⟨z0, z1, z2, hvF, hqF⟩ := Nq.store hR3 hv hG3 (Nat.le_refl _);unfold put3 at z0 z1 z2 hvF hqF;refine rz3 z0 z1 z2 ?_;exact ⟨_, rfl, hvF, hqF⟩
 ·obtain ⟨k, rfl⟩ := Int.eq_ofNat_of_zero_le (show 0 ≤ z by omega);have b1 : k + 9 ≤ LIM := (by rw [aC]; omega);obtain ⟨p1, p2⟩ := rM k;have HP1 := yW p1; have HP2 := yW p2; clear p1 p2 hB;go_enter Tryz.func104, Tryz.ntmps104
  go_wp2_with fail
  clear hW;refine (rY k _ _ rfl b1).mono ?_;rintro e w1 ⟨t3, rfl, ht3, hq1, -⟩;have hG1 := hG0.trans hq1;have hR1 := hR0.q hq1;have fz := hR1.frozen;obtain ⟨r0, r1, r2⟩ := hR1.cells;obtain ⟨A7, n7, c7, rfl⟩ := ht3.form;go_wp2_with fail
  refine (gU false _ (10 ^ k) _ ht3).mono ?_;rintro e w2 ⟨v5, rfl, hv5, hq2⟩;have hG2 := hG1.trans hq2;have hR2 := hR1.q hq2;clear fz r0 r1 r2;have fz := hR2.frozen;obtain ⟨r0, r1, r2⟩ := hR2.cells;obtain ⟨B1, d1, B2, d2, rfl, -, -⟩ := hv5.form;have hv := Nq.int (q := bE (k : Int)) hv5 HP1.out HP2.out;generalize (decide (0 < 10 ^ k) && false) = s4 at *
  generalize dg W64 (10 ^ k) = m1 at *
  generalize dg W64 0 = m2 at *
  go_wp2_with fail
  obtain ⟨z0, z1, z2, hvF, hqF⟩ := Nq.store hR2 hv hG2 (Nat.le_refl _);unfold put3 at z0 z1 z2 hvF hqF;refine rz3 z0 z1 z2 ?_;exact ⟨_, rfl, hvF, hqF⟩
theorem sJ {neg two : Bool} {f b : List UInt8} (_ : Row f) (hz : f = [48]) (h : neg = true ∨ two = true) : aK neg f b two = (6, 0) := if_pos (.inr ⟨hz, h⟩)
theorem aG5 {neg two : Bool} {f : List UInt8} (hr : Row f) (hz : f = [48] ∧ (neg = true ∨ two = true) → False) : ¬ (¬ Row f ∨ (f = [48] ∧ (neg = true ∨ two = true))) := fun h => by
 rcases h with h | h
 ·exact h hr
 ·exact hz h
theorem aCi {neg : Bool} {f b : List UInt8} (hr : Row f) (hz : f = [48] ∧ (neg = true ∨ true = true) → False) (h : ¬ Row b ∨ b = [48] ∨ b = [49]) : aK neg f b true = (6, 0) := by
 unfold aK;rw [if_neg (aG5 hr hz), if_pos ⟨rfl, h⟩]
theorem aBh {neg two : Bool} {f b : List UInt8} (hr : Row f) (hz : f = [48] ∧ (neg = true ∨ two = true) → False) (h : two = true → ¬ (¬ Row b ∨ b = [48] ∨ b = [49])) :
  aK neg f b two = if 1000 < f.length ∨ 1000 < b.length then (3, 0) else if two = false then (0, mkQ neg (dv f) 1) else if Nat.gcd (dv f) (dv b) ≠ 1 then (6, 0) else (0, mkQ neg (dv f) (dv b)) := by
 unfold aK;rw [if_neg (aG5 hr hz), if_neg (fun h1 => h h1.1 h1.2)]
theorem lS {neg two : Bool} {f b : List UInt8} (hl : 1000 < f.length ∨ 1000 < b.length) (hr : Row f) (hz : f = [48] ∧ (neg = true ∨ two = true) → False) (h : two = true → ¬ (¬ Row b ∨ b = [48] ∨ b = [49])) : aK neg f b two = (3, 0) := by
 rw [aBh hr hz h, if_pos hl]
theorem vP {neg : Bool} {f b : List UInt8} (hr : Row f) (hz : f = [48] ∧ (neg = true ∨ false = true) → False) (h1 : ¬ 1000 < f.length) (h2 : ¬ 1000 < b.length) : aK neg f b false = (0, mkQ neg (dv f) 1) := by
 rw [aBh hr hz (fun h => by cases h), if_neg (fun h => h.elim h1 h2), if_pos rfl]
theorem aAu {neg : Bool} {f b : List UInt8} (hr : Row f) (hz : f = [48] ∧ (neg = true ∨ true = true) → False) (h : ¬ (¬ Row b ∨ b = [48] ∨ b = [49])) (h1 : ¬ 1000 < f.length) (h2 : ¬ 1000 < b.length) (hg : Nat.gcd (dv f) (dv b) = 1) : aK neg f b true = (0, mkQ neg (dv f) (dv b)) := by
 rw [aBh hr hz (fun _ => h), if_neg (fun h => h.elim h1 h2), if_neg (by decide), if_neg (fun h => h hg)]
theorem aCj {neg : Bool} {f b : List UInt8} (hr : Row f) (hz : f = [48] ∧ (neg = true ∨ true = true) → False) (h : ¬ (¬ Row b ∨ b = [48] ∨ b = [49])) (h1 : ¬ 1000 < f.length) (h2 : ¬ 1000 < b.length) (hg : ¬ Nat.gcd (dv f) (dv b) = 1) : aK neg f b true = (6, 0) := by
 rw [aBh hr hz (fun _ => h), if_neg (fun h => h.elim h1 h2), if_neg (by decide), if_pos hg]
theorem wO (s : ByteArray) (w : World) (hT : Tb w) (hs : s.size ≤ 9223372036854775806) : Calls Tryz.prog 39 #[.string s] w fun e w' => ∃ r, e = .returned (.tuple #[r, .int .i64 (aH s.data.toList).1]) ∧ Nq w' r (aH s.data.toList).2 ∧ Q w w' := by
 obtain ⟨w0, hW, hG0, hR0⟩ : ∃ W, w.alloc (.cells #[.bool false, .slice none 0 0, .slice none 0 0] 28) = W ∧ Q w W ∧ Nb W w.heap.size false (.slice none 0 0) (.slice none 0 0) := ⟨_, rfl, (Q.refl _).alloc _, Nb.new w _ _ _⟩
 obtain ⟨neg, hneg⟩ : ∃ neg, eX s.data.toList = neg := ⟨_, rfl⟩
 obtain ⟨two, htwo⟩ : ∃ two, decide (47 ∈ unsigned s.data.toList) = two := ⟨_, rfl⟩
 obtain ⟨f, hf⟩ : ∃ f, fU 47 (unsigned s.data.toList) = f := ⟨_, rfl⟩
 obtain ⟨b, hb⟩ : ∃ b, aft 47 (unsigned s.data.toList) = b := ⟨_, rfl⟩
 have hb2 : two = false → b = [] := fun h => by rw [← hb]; exact (tH (of_decide_eq_false (htwo.trans h))).2
 have hP : aH s.data.toList = aK neg f b two := by unfold aH; rw [hneg, htwo, hf, hb]
 have HP := yW hP; have HN := yW hneg; have HT2 := yW htwo; have HF := yW hf; have HBb := yW hb; have HB2 := yW hb2;clear hP hneg htwo hf hb hb2;go_enter Tryz.func39, Tryz.ntmps39
 go_wp2_with fail
 clear hW;refine (vO s _).mono ?_;rintro e w90 ⟨a, rfl, ha, hsz, rfl⟩;rw [HN.out];have HA := yW ha; clear ha;go_wp2_with fail
 refine (aG4 a 47 _ (by omega)).mono ?_;rintro e w1 ⟨fa, fb, rfl, hfa, hfb, hq1⟩;have hG1 := hG0.trans hq1;have hR1 := hR0.q hq1;rw [HA.out] at hfa hfb ⊢;rw [HT2.out];rw [HF.out] at hfa;rw [HBb.out] at hfb;have la : fa.size = f.length := by rw [Lib.size_eq, hfa]
 have lb : fb.size = b.length := by rw [Lib.size_eq, hfb]
 have ta : fa.toList = f := (ByteArray.toList_eq _).trans hfa;have tb : fb.toList = b := (ByteArray.toList_eq _).trans hfb;have HFA := yW hfa; have HFB := yW hfb; have LA := yW la; have LB := yW lb; have TA := yW ta; have TB := yW tb; clear hfa hfb la lb ta tb;go_wp2_with fail
 refine (aDi fa _).mono ?_;rintro e w2 ⟨rfl, hq2⟩;have hG2 := hG1.trans hq2;have hR2 := hR1.q hq2;rw [HFA.out];by_cases hr : Row f
 ·rw [decide_eq_true hr];by_cases hz : f = [48]
  ·have tz0 : fa.toList = [48] := TA.out.trans hz;have HZ := yW hz; clear hz;cases neg
   ·cases two
    ·have hbn : b = [] := HB2.out rfl;have hfb0 : ¬ (1000 : Int) < (fb.size : Int) := (by rw [LB.out, hbn]; decide);have HBN := yW hbn; clear hbn;by_cases hl : 1000 < f.length
     ·have hl2 : (1000 : Int) < (fa.size : Int) := (by rw [LA.out]; omega);have HLL := yW hl; clear hl;have fz := hR2.frozen;obtain ⟨r0, r1, r2⟩ := hR2.cells;go_wp2_with fail
      have hv := dJ w2;obtain ⟨z0, z1, z2, hvF, hqF⟩ := Nq.store hR2 hv hG2 (Nat.le_refl _);unfold put3 at z0 z1 z2 hvF hqF;refine rt3 (.int .i64 3) z0 z1 z2 ?_;have hres : aK false f b false = ((3 : Int), (0 : Rat)) := lS (.inl HLL.out) hr (fun h => by rcases h.2 with h | h <;> cases h) (fun h => by cases h);rw [HP.out, hres];exact ⟨_, rfl, hvF, hqF⟩
     ·have hl2 : ¬ (1000 : Int) < (fa.size : Int) := (by rw [LA.out]; omega);have hsf : fa.size + 100 ≤ LIM := (by rw [LA.out, aC]; omega);have HLL := yW hl; clear hl;go_wp2_with fail
      refine (iV fa _ (by rw [HFA.out]; exact hr.1) hsf).mono ?_;rintro e w3 ⟨t1, rfl, ht1, hq3, -⟩;have hG3 := hG2.trans hq3;have hR3 := hR2.q hq3;have fz := hR3.frozen;obtain ⟨r0, r1, r2⟩ := hR3.cells;rw [HFA.out] at ht1;obtain ⟨A5, n5, c5, rfl⟩ := ht1.form;go_wp2_with fail
      refine (gU false _ (dv f) _ ht1).mono ?_;rintro e w4 ⟨v5, rfl, hv5, hq4⟩;have hG4 := hG3.trans hq4;have hR4 := hR3.q hq4;clear fz r0 r1 r2;have fz := hR4.frozen;obtain ⟨r0, r1, r2⟩ := hR4.cells;obtain ⟨B1, d1, B2, d2, rfl, -, -⟩ := hv5.form;have hv := Nq.int (q := mkQ false (dv f) 1) hv5 ((fV (by decide) (Nat.gcd_one_right _)).1) ((fV (by decide) (Nat.gcd_one_right _)).2);generalize (decide (0 < dv f) && false) = s4 at *
      generalize dg W64 (dv f) = m1 at *
      generalize dg W64 0 = m2 at *
      go_wp2_with fail
      obtain ⟨z0, z1, z2, hvF, hqF⟩ := Nq.store hR4 hv hG4 (Nat.le_refl _);unfold put3 at z0 z1 z2 hvF hqF;refine rt3 (.int .i64 0) z0 z1 z2 ?_;have hres : aK false f b false = ((0 : Int), (mkQ false (dv f) 1 : Rat)) := vP hr (fun h => by rcases h.2 with h | h <;> cases h) HLL.out (by rw [HBN.out]; decide);rw [HP.out, hres];exact ⟨_, rfl, hvF, hqF⟩
    ·have fz := hR2.frozen;obtain ⟨r0, r1, r2⟩ := hR2.cells;go_wp2_with fail
     have hv := dJ w2;obtain ⟨z0, z1, z2, hvF, hqF⟩ := Nq.store hR2 hv hG2 (Nat.le_refl _);unfold put3 at z0 z1 z2 hvF hqF;refine rt3 (.int .i64 6) z0 z1 z2 ?_;have hres : aK false f b true = ((6 : Int), (0 : Rat)) := sJ hr HZ.out (.inr rfl);rw [HP.out, hres];exact ⟨_, rfl, hvF, hqF⟩
   ·have fz := hR2.frozen;obtain ⟨r0, r1, r2⟩ := hR2.cells;go_wp2_with fail
    have hv := dJ w2;obtain ⟨z0, z1, z2, hvF, hqF⟩ := Nq.store hR2 hv hG2 (Nat.le_refl _);unfold put3 at z0 z1 z2 hvF hqF;refine rt3 (.int .i64 6) z0 z1 z2 ?_;have hres : aK true f b two = ((6 : Int), (0 : Rat)) := sJ hr HZ.out (.inl rfl);rw [HP.out, hres];exact ⟨_, rfl, hvF, hqF⟩
  ·have tz0 : ¬ fa.toList = [48] := fun h => hz (TA.out.symm.trans h);have tc : (fa.toList == [48]) = false := beq_eq_false_iff_ne.2 tz0;have HZ := yW hz; clear hz;cases two
   ·have hbn : b = [] := HB2.out rfl;have hfb0 : ¬ (1000 : Int) < (fb.size : Int) := (by rw [LB.out, hbn]; decide);have HBN := yW hbn; clear hbn;by_cases hl : 1000 < f.length
    ·have hl2 : (1000 : Int) < (fa.size : Int) := (by rw [LA.out]; omega);have HLL := yW hl; clear hl;have fz := hR2.frozen;obtain ⟨r0, r1, r2⟩ := hR2.cells;go_wp2_with fail
     have hv := dJ w2;obtain ⟨z0, z1, z2, hvF, hqF⟩ := Nq.store hR2 hv hG2 (Nat.le_refl _);unfold put3 at z0 z1 z2 hvF hqF;refine rt3 (.int .i64 3) z0 z1 z2 ?_;have hres : aK neg f b false = ((3 : Int), (0 : Rat)) := lS (.inl HLL.out) hr (fun h => HZ.out h.1) (fun h => by cases h);rw [HP.out, hres];exact ⟨_, rfl, hvF, hqF⟩
    ·have hl2 : ¬ (1000 : Int) < (fa.size : Int) := (by rw [LA.out]; omega);have hsf : fa.size + 100 ≤ LIM := (by rw [LA.out, aC]; omega);have HLL := yW hl; clear hl;go_wp2_with fail
     refine (iV fa _ (by rw [HFA.out]; exact hr.1) hsf).mono ?_;rintro e w3 ⟨t1, rfl, ht1, hq3, -⟩;have hG3 := hG2.trans hq3;have hR3 := hR2.q hq3;have fz := hR3.frozen;obtain ⟨r0, r1, r2⟩ := hR3.cells;rw [HFA.out] at ht1;obtain ⟨A5, n5, c5, rfl⟩ := ht1.form;go_wp2_with fail
     refine (gU neg _ (dv f) _ ht1).mono ?_;rintro e w4 ⟨v5, rfl, hv5, hq4⟩;have hG4 := hG3.trans hq4;have hR4 := hR3.q hq4;clear fz r0 r1 r2;have fz := hR4.frozen;obtain ⟨r0, r1, r2⟩ := hR4.cells;obtain ⟨B1, d1, B2, d2, rfl, -, -⟩ := hv5.form;have hv := Nq.int (q := mkQ neg (dv f) 1) hv5 ((fV (by decide) (Nat.gcd_one_right _)).1) ((fV (by decide) (Nat.gcd_one_right _)).2);generalize (decide (0 < dv f) && neg) = s4 at *
     generalize dg W64 (dv f) = m1 at *
     generalize dg W64 0 = m2 at *
     go_wp2_with fail
     obtain ⟨z0, z1, z2, hvF, hqF⟩ := Nq.store hR4 hv hG4 (Nat.le_refl _);unfold put3 at z0 z1 z2 hvF hqF;refine rt3 (.int .i64 0) z0 z1 z2 ?_;have hres : aK neg f b false = ((0 : Int), (mkQ neg (dv f) 1 : Rat)) := vP hr (fun h => HZ.out h.1) HLL.out (by rw [HBN.out]; decide);rw [HP.out, hres];exact ⟨_, rfl, hvF, hqF⟩
   ·go_wp2_with fail
    refine (aDi fb _).mono ?_;rintro e w3 ⟨rfl, hq3⟩;have hG3 := hG2.trans hq3;have hR3 := hR2.q hq3;rw [HFB.out];by_cases hr2 : Row b
    ·rw [decide_eq_true hr2];by_cases hb0 : b = [48]
     ·have tb0 : fb.toList = [48] := TB.out.trans hb0;have HB0 := yW hb0; clear hb0;have fz := hR3.frozen;obtain ⟨r0, r1, r2⟩ := hR3.cells;go_wp2_with fail
      have hv := dJ w3;obtain ⟨z0, z1, z2, hvF, hqF⟩ := Nq.store hR3 hv hG3 (Nat.le_refl _);unfold put3 at z0 z1 z2 hvF hqF;refine rt3 (.int .i64 6) z0 z1 z2 ?_;have hres : aK neg f b true = ((6 : Int), (0 : Rat)) := aCi hr (fun h => HZ.out h.1) (.inr (.inl HB0.out));rw [HP.out, hres];exact ⟨_, rfl, hvF, hqF⟩
     ·have tb0 : ¬ fb.toList = [48] := fun h => hb0 (TB.out.symm.trans h);have tc0 : (fb.toList == [48]) = false := beq_eq_false_iff_ne.2 tb0;by_cases hb1 : b = [49]
      ·have tb1 : fb.toList = [49] := TB.out.trans hb1;have HB0 := yW hb1; clear hb1 hb0 tb0;have fz := hR3.frozen;obtain ⟨r0, r1, r2⟩ := hR3.cells;go_wp2_with fail
       have hv := dJ w3;obtain ⟨z0, z1, z2, hvF, hqF⟩ := Nq.store hR3 hv hG3 (Nat.le_refl _);unfold put3 at z0 z1 z2 hvF hqF;refine rt3 (.int .i64 6) z0 z1 z2 ?_;have hres : aK neg f b true = ((6 : Int), (0 : Rat)) := aCi hr (fun h => HZ.out h.1) (.inr (.inr HB0.out));rw [HP.out, hres];exact ⟨_, rfl, hvF, hqF⟩
      ·have tb1 : ¬ fb.toList = [49] := fun h => hb1 (TB.out.symm.trans h);have tc1 : (fb.toList == [49]) = false := beq_eq_false_iff_ne.2 tb1;have hok : Hid (¬ (¬ Row b ∨ b = [48] ∨ b = [49])) := fun h => h.elim (fun h => h hr2) (fun h => h.elim hb0 hb1);have HB00 := yW hb0; clear hb0 hb1;by_cases hl : 1000 < f.length
       ·have hl2 : (1000 : Int) < (fa.size : Int) := (by rw [LA.out]; omega);have HLL := yW hl; clear hl;have fz := hR3.frozen;obtain ⟨r0, r1, r2⟩ := hR3.cells;go_wp2_with fail
        have hv := dJ w3;obtain ⟨z0, z1, z2, hvF, hqF⟩ := Nq.store hR3 hv hG3 (Nat.le_refl _);unfold put3 at z0 z1 z2 hvF hqF;refine rt3 (.int .i64 3) z0 z1 z2 ?_;have hres : aK neg f b true = ((3 : Int), (0 : Rat)) := lS (.inl HLL.out) hr (fun h => HZ.out h.1) (fun _ => hok.out);rw [HP.out, hres];exact ⟨_, rfl, hvF, hqF⟩
       ·have hl2 : ¬ (1000 : Int) < (fa.size : Int) := (by rw [LA.out]; omega);have hsf : fa.size + 100 ≤ LIM := (by rw [LA.out, aC]; omega);have HLL := yW hl; clear hl;by_cases hl3 : 1000 < b.length
        ·have hl4 : (1000 : Int) < (fb.size : Int) := (by rw [LB.out]; omega);have HL3 := yW hl3; clear hl3;have fz := hR3.frozen;obtain ⟨r0, r1, r2⟩ := hR3.cells;go_wp2_with fail
         have hv := dJ w3;obtain ⟨z0, z1, z2, hvF, hqF⟩ := Nq.store hR3 hv hG3 (Nat.le_refl _);unfold put3 at z0 z1 z2 hvF hqF;refine rt3 (.int .i64 3) z0 z1 z2 ?_;have hres : aK neg f b true = ((3 : Int), (0 : Rat)) := lS (.inr HL3.out) hr (fun h => HZ.out h.1) (fun _ => hok.out);rw [HP.out, hres];exact ⟨_, rfl, hvF, hqF⟩
        ·have hl4 : ¬ (1000 : Int) < (fb.size : Int) := (by rw [LB.out]; omega);have hsb : fb.size + 100 ≤ LIM := (by rw [LB.out, aC]; omega);have HL3 := yW hl3; clear hl3;go_wp2_with fail
         refine (iV fa _ (by rw [HFA.out]; exact hr.1) hsf).mono ?_;rintro e w4 ⟨t1, rfl, ht1, hq4, -⟩;have hG4 := hG3.trans hq4;have hR4 := hR3.q hq4;rw [HFA.out] at ht1;obtain ⟨A5, n5, c5, rfl⟩ := ht1.form;go_wp2_with fail
         refine (iV fb _ (by rw [HFB.out]; exact hr2.1) hsb).mono ?_;rintro e w5 ⟨t2, rfl, ht2, hq5, -⟩;have hG5 := hG4.trans hq5;have hR5 := hR4.q hq5;rw [HFB.out] at ht2;obtain ⟨A6, n6, c6, rfl⟩ := ht2.form;have d1 := aDH hr.1 (Nat.le_of_not_lt HLL.out);have d2 := aDH hr2.1 (Nat.le_of_not_lt HL3.out);have hp1 : 0 < dv f := Row.pos hr (HZ.out);have hp2 : 0 < dv b := Row.pos hr2 HB00.out;have hbd : 8 * (dg W64 (dv f) + dg W64 (dv b)) + 80 ≤ LIM := (by rw [aC]; omega);clear d1 d2;go_wp2_with fail
         refine (lI (dv f) (dv b) _ _ _ (hT.q hG5) (ht1.q hq5) ht2 hp1 hp2 hbd).mono ?_;rintro e w6 ⟨t3, rfl, ht3, hq6, -⟩;have hG6 := hG5.trans hq6;have hR6 := hR5.q hq6;obtain ⟨A7, n7, c7, rfl⟩ := ht3.form;go_wp2_with fail
         refine (rU _ _ _ ht3).mono ?_;rintro e w91 ⟨rfl, rfl⟩;by_cases hg : Nat.gcd (dv f) (dv b) = 1
         ·rw [decide_eq_true hg];have HGC := yW hg; clear hg;go_wp2_with fail
          refine (bU neg _ _ (dv f) (dv b) _ ((ht1.q hq5).q hq6) (ht2.q hq6)).mono ?_;rintro e w7 ⟨v5, rfl, hv5, hq7⟩;have hG7 := hG6.trans hq7;have hR7 := hR6.q hq7;have fz := hR7.frozen;obtain ⟨r0, r1, r2⟩ := hR7.cells;obtain ⟨B1, d1, B2, d2, rfl, -, -⟩ := hv5.form;have hv := Nq.made (q := mkQ neg (dv f) (dv b)) hv5 ((fV hp2 HGC.out).1) (fun _ => (fV hp2 HGC.out).2);generalize (decide (0 < dv f) && neg) = s4 at *
          generalize dg W64 (if dv f = 0 then 0 else bt (dv b)) = m2 at *
          generalize dg W64 (dv f) = m1 at *
          go_wp2_with fail
          obtain ⟨z0, z1, z2, hvF, hqF⟩ := Nq.store hR7 hv hG7 (Nat.le_refl _);unfold put3 at z0 z1 z2 hvF hqF;refine rt3 (.int .i64 0) z0 z1 z2 ?_;have hres : aK neg f b true = ((0 : Int), (mkQ neg (dv f) (dv b) : Rat)) := aAu hr (fun h => HZ.out h.1) hok.out HLL.out HL3.out HGC.out;rw [HP.out, hres];exact ⟨_, rfl, hvF, hqF⟩
         ·rw [decide_eq_false hg];have HGC := yW hg; clear hg;have fz := hR6.frozen;obtain ⟨r0, r1, r2⟩ := hR6.cells;go_wp2_with fail
          have hv := dJ w6;obtain ⟨z0, z1, z2, hvF, hqF⟩ := Nq.store hR6 hv hG6 (Nat.le_refl _);unfold put3 at z0 z1 z2 hvF hqF;refine rt3 (.int .i64 6) z0 z1 z2 ?_;have hres : aK neg f b true = ((6 : Int), (0 : Rat)) := aCj hr (fun h => HZ.out h.1) hok.out HLL.out HL3.out HGC.out;rw [HP.out, hres];exact ⟨_, rfl, hvF, hqF⟩
    ·rw [decide_eq_false hr2];have fz := hR3.frozen;obtain ⟨r0, r1, r2⟩ := hR3.cells;go_wp2_with fail
     have hv := dJ w3;obtain ⟨z0, z1, z2, hvF, hqF⟩ := Nq.store hR3 hv hG3 (Nat.le_refl _);unfold put3 at z0 z1 z2 hvF hqF;refine rt3 (.int .i64 6) z0 z1 z2 ?_;have hres : aK neg f b true = ((6 : Int), (0 : Rat)) := aCi hr (fun h => HZ.out h.1) (.inl hr2);rw [HP.out, hres];exact ⟨_, rfl, hvF, hqF⟩
 ·rw [decide_eq_false hr];have fz := hR2.frozen;obtain ⟨r0, r1, r2⟩ := hR2.cells;go_wp2_with fail
  have hv := dJ w2;obtain ⟨z0, z1, z2, hvF, hqF⟩ := Nq.store hR2 hv hG2 (Nat.le_refl _);unfold put3 at z0 z1 z2 hvF hqF;refine rt3 (.int .i64 6) z0 z1 z2 ?_;have hres : aK neg f b two = ((6 : Int), (0 : Rat)) := if_pos (.inl hr);rw [HP.out, hres];exact ⟨_, rfl, hvF, hqF⟩
def dK (k : Nat) : ByteArray := ⟨(letter k).toArray⟩
def cB (k : Nat) : Int := 3 * (k : Int) - 15
def aJe (k : Nat) : Value := .agg #[.string (dK k), .int .i64 (cB k)]
def iZ : Array Value := #[.string (dK 0), .int .i64 (cB 0), .string (dK 1), .int .i64 (cB 1), .string (dK 2), .int .i64 (cB 2), .string (dK 3), .int .i64 (cB 3), .string (dK 4), .int .i64 (cB 4),
 .string (dK 5), .int .i64 (cB 5), .string (dK 6), .int .i64 (cB 6), .string (dK 7), .int .i64 (cB 7), .string (dK 8), .int .i64 (cB 8), .string (dK 9), .int .i64 (cB 9)]
def Px (w : World) : Prop := ∃ t fr, w.heap[(0 : Nat)]? = some (.cells iZ t fr)
theorem Px.q {w w' : World} (h : Px w) (hq : Q w w') : Px w' := by
 obtain ⟨t, fr, h⟩ := h;have hlt : (0 : Nat) < w.heap.size := by
  rcases Nat.lt_or_ge (0 : Nat) w.heap.size with hlt | hge
  ·exact hlt
  ·rw [Array.getElem?_eq_none hge] at h; cases h
 exact ⟨t, fr, (hq.heap hlt).trans h⟩
theorem aDj : (Tryz.prog.info? 147).map (·.size) = some iZ.size := by kernel_rfl
theorem yA (k : Nat) (hk : k < 10) (w : World) : (Instr.index 147 (.agg iZ) (.int .i64 (k : Int))).run Tryz.prog w = .ok (aJe k) w := by
 rcases (by omega : k = 0 ∨ k = 1 ∨ k = 2 ∨ k = 3 ∨ k = 4 ∨ k = 5 ∨ k = 6 ∨ k = 7 ∨ k = 8 ∨ k = 9) with h | h | h | h | h | h | h | h | h | h
 ·rw [h]; kernel_rfl
 ·rw [h]; kernel_rfl
 ·rw [h]; kernel_rfl
 ·rw [h]; kernel_rfl
 ·rw [h]; kernel_rfl
 ·rw [h]; kernel_rfl
 ·rw [h]; kernel_rfl
 ·rw [h]; kernel_rfl
 ·rw [h]; kernel_rfl
 ·rw [h]; kernel_rfl
theorem aFo {a : Value} {x y : Int} (h : x = y) : Ending.returned (.tuple #[a, .int .i64 x]) = .returned (.tuple #[a, .int .i64 y]) := by rw [h]
def Sf (l : List UInt8) (j : Nat) : Prop := j ≠ 5 ∧ Lib.hasSuffix l (letter j) = true
theorem aDk (l : List UInt8) (c : UInt8) : Lib.hasSuffix l [c] = true ↔ l.getLast? = some c := by
 unfold Lib.hasSuffix;rw [List.isSuffixOf_iff_suffix];constructor
 ·rintro ⟨t, rfl⟩; simp
 ·intro h;obtain ⟨t, ht⟩ := List.getLast?_eq_some_iff.1 h;exact ⟨t, ht.symm⟩
theorem aGB {l : List UInt8} {c : UInt8} (h : Lib.hasSuffix l [c] = true) : Lib.trimSuffix l [c] = l.dropLast := by
 unfold Lib.trimSuffix;rw [if_pos h, List.dropLast_eq_take];rfl
theorem aD8 {c : UInt8} {p : Int} (h : pfx c = some p) : ∃ k, k < 10 ∧ k ≠ 5 ∧ letter k = [c] ∧ p = cB k := by
 unfold pfx at h;split at h
 ·cases h; rename_i e; subst e; exact ⟨0, by decide, by decide, rfl, rfl⟩
 split at h
 ·cases h; rename_i e; subst e; exact ⟨1, by decide, by decide, rfl, rfl⟩
 split at h
 ·cases h; rename_i e; subst e; exact ⟨2, by decide, by decide, rfl, rfl⟩
 split at h
 ·cases h; rename_i e; subst e; exact ⟨3, by decide, by decide, rfl, rfl⟩
 split at h
 ·cases h; rename_i e; subst e; exact ⟨4, by decide, by decide, rfl, rfl⟩
 split at h
 ·cases h; rename_i e; subst e; exact ⟨6, by decide, by decide, rfl, rfl⟩
 split at h
 ·cases h; rename_i e; subst e; exact ⟨7, by decide, by decide, rfl, rfl⟩
 split at h
 ·cases h; rename_i e; subst e; exact ⟨8, by decide, by decide, rfl, rfl⟩
 split at h
 ·cases h; rename_i e; subst e; exact ⟨9, by decide, by decide, rfl, rfl⟩
 ·cases h
theorem aFp {l : List UInt8} (h : ∀ j, j < 10 → ¬ Sf l j) : kQ l = (l, 0) := by
 unfold kQ;cases hl : l.getLast? with
 | none => rfl
 | some c =>
   cases hp : pfx c with
   | none => simp only [hp]
   | some p =>
     obtain ⟨k, hk, h5, hc, -⟩ := aD8 hp;exact absurd ⟨h5, by rw [hc]; exact (aDk l c).2 hl⟩ (h k hk)
theorem zO {k : Nat} (hk : k < 10) (h5 : k ≠ 5) : ∃ c, letter k = [c] ∧ pfx c = some (cB k) := by
 rcases (by omega : k = 0 ∨ k = 1 ∨ k = 2 ∨ k = 3 ∨ k = 4 ∨ k = 6 ∨ k = 7 ∨ k = 8 ∨ k = 9) with rfl | rfl | rfl | rfl | rfl | rfl | rfl | rfl | rfl
 ·exact ⟨102, rfl, rfl⟩
 ·exact ⟨112, rfl, rfl⟩
 ·exact ⟨110, rfl, rfl⟩
 ·exact ⟨117, rfl, rfl⟩
 ·exact ⟨109, rfl, rfl⟩
 ·exact ⟨107, rfl, rfl⟩
 ·exact ⟨77, rfl, rfl⟩
 ·exact ⟨71, rfl, rfl⟩
 ·exact ⟨84, rfl, rfl⟩
theorem aFq {l : List UInt8} {k : Nat} (hk : k < 10) (h : Sf l k) : kQ l = (Lib.trimSuffix l (letter k), cB k) := by
 obtain ⟨c, hc, hp⟩ := zO hk h.1;have h2 := h.2;rw [hc] at h2 ⊢;rw [aGB h2];unfold kQ;rw [(aDk l c).1 h2];simp only [hp]
theorem aDl {k : Nat} (hk : k < 10) (h5 : k ≠ 5) : ((dK k).toList == []) = false := by
 obtain ⟨c, hc, -⟩ := zO hk h5;rw [ByteArray.toList_eq];have : (dK k).data.toList = [c] := hc;rw [this]; rfl
def aHI (l : List UInt8) (w : World) (e : Ending) (w' : World) : Prop := ∃ a : ByteArray, e = .returned (.tuple #[.string a, .int .i64 (kQ l).2]) ∧ a.data.toList = (kQ l).1 ∧ Q w w'
theorem aCR (s : ByteArray) (w : World) (hp : Px w) (hs : s.size ≤ 9223372036854775806) : Calls Tryz.prog 102 #[.string s] w (aHI s.data.toList w) := by
 obtain ⟨t, fr, hp⟩ := hp;go_enter Tryz.func102, Tryz.ntmps102
 go_wp2_with (refine wpList_load_row rfl 147 (.global 0) rfl 0 rfl t iZ fr _ hp Tryz.underlying147 rfl aDj ?_)
 clear hp;go_loopw [9] (fun i wr => ∃ k : Nat, k ≤ 10 ∧ i = .int .i64 (k : Int) ∧ (∀ j, j < k → ¬ Sf s.data.toList j) ∧ Q w wr) (fun i _ => 10 - (intOf i).toNat)
 case atStart => exact ⟨0, Nat.zero_le _, rfl, fun j hj => absurd hj (Nat.not_lt_zero j), Q.refl _⟩
 case round =>
  obtain ⟨k, hk, rfl, hno, hq⟩ := hrel;by_cases hlt : k < 10
  ·have hix := yA k hlt;obtain ⟨pl, hpl⟩ : ∃ pl, dK k = pl := ⟨_, rfl⟩
   obtain ⟨pp, hpp⟩ : ∃ pp, cB k = pp := ⟨_, rfl⟩
   have hix2 : ∀ w, (Instr.index 147 (.agg iZ) (.int .i64 (k : Int))).run Tryz.prog w = .ok (.agg #[.string pl, .int .i64 pp]) w := fun w => by
    rw [yA k hlt w, ← hpl, ← hpp]; rfl
   have HNO := yW hno;have HPL := yW hpl; have HPP := yW hpp;clear hix hno hpl hpp;have hqq := hq.alloc (.cells #[.string pl, .int .i64 pp] 146);go_wp2_with fail
   refine (Tryz.strings_CutSuffix s pl _ (by omega)).mono ?_;rintro e w1 ⟨rfl, rfl⟩;have hrel : Lib.hasSuffix s.data.toList pl.data.toList = Lib.hasSuffix s.data.toList (letter k) := (by rw [← HPL.out]; rfl);have hrel2 : Lib.trimSuffix s.data.toList pl.data.toList = Lib.trimSuffix s.data.toList (letter k) := (by rw [← HPL.out]; rfl);rw [hrel, hrel2];clear hrel hrel2;obtain ⟨ta, hta⟩ : ∃ ta : ByteArray, ⟨(Lib.trimSuffix s.data.toList (letter k)).toArray⟩ = ta := ⟨_, rfl⟩
   rw [hta];have HTA := yW hta; clear hta;by_cases hsf : Lib.hasSuffix s.data.toList (letter k) = true
   ·rw [hsf];by_cases h5 : k = 5
    ·have hpl5 : (pl.toList == []) = true := (by rw [← HPL.out, h5, ByteArray.toList_eq]; rfl);have hpl6 : pl.toList = [] := (by rw [← HPL.out, h5, ByteArray.toList_eq]; rfl);have H5 := yW h5; have HSF := yW hsf; clear h5 hsf;go_wp2_with fail
     go_roundw
     case rel => exact ⟨k + 1, by omega, by go_num, by
      intro j hj hS;rcases (by omega : j < k ∨ j = k) with h | h
      ·exact HNO.out j h hS
      ·subst h; exact hS.1 H5.out, hqq⟩
     case measure => simp [intOf]; omega
    ·have hpl5 : (pl.toList == []) = false := (by rw [← HPL.out]; exact aDl hlt h5);have hpl6 : ¬ pl.toList = [] := (by rw [← HPL.out]; exact ne_of_beq_false (aDl hlt h5));have hres := aFq hlt (l := s.data.toList) ⟨h5, hsf⟩;have HR := yW hres; have HSF := yW hsf; clear hres h5 hsf;go_wp2_with fail
     go_quiet (fail)
     go_wp2_with fail
     go_ret2
     exact ⟨ta, aFo (by rw [HR.out, ← HPP.out]), by rw [HR.out, ← HTA.out], hqq.drewN _⟩
   ·have hsf2 : Lib.hasSuffix s.data.toList (letter k) = false := (by simpa using hsf);rw [hsf2];have HSF := yW hsf; clear hsf hsf2;go_wp2_with fail
    go_roundw
    case rel => exact ⟨k + 1, by omega, by go_num, by
     intro j hj hS;rcases (by omega : j < k ∨ j = k) with h | h
     ·exact HNO.out j h hS
     ·subst h; exact HSF.out hS.2, hqq⟩
    case measure => simp [intOf]; omega
  ·have hk10 : k = 10 := (by omega);have hres := aFp (l := s.data.toList) (fun j hj => hno j (by omega));have HR := yW hres; clear hres hno;go_wp2_with fail
   go_ret2
   exact ⟨s, aFo (by rw [HR.out]), by rw [HR.out], hq⟩
theorem aIK {a b : ByteArray} {x y : Int} (h1 : a = b) (h2 : x = y) : Ending.returned (.tuple #[.string a, .int .i64 x]) = .returned (.tuple #[.string b, .int .i64 y]) := by rw [h1, h2]
def Eb (w : World) (g : Nat) (pl : ByteArray) (pp : Int) : Prop := w.heap[g]? = some (.cells #[.string pl, .int .i64 pp] 146 (0, 0))
theorem Eb.cells {w : World} {g : Nat} {pl : ByteArray} {pp : Int} (h : Eb w g pl pp) : w.cell? ⟨g, 0, none⟩ = some (.string pl) ∧ w.cell? ⟨g, 1, none⟩ = some (.int .i64 pp) := by
 unfold Eb at h;constructor <;> simp [World.cell?, h]
theorem Eb.frozen {w : World} {g : Nat} {pl : ByteArray} {pp : Int} (h : Eb w g pl pp) (i : Nat) : w.frozen? ⟨g, i, none⟩ = false := by
 unfold Eb at h;simp [World.frozen?, h]
theorem Eb.lt {w : World} {g : Nat} {pl : ByteArray} {pp : Int} (h : Eb w g pl pp) : g < w.heap.size := by
 rcases Nat.lt_or_ge g w.heap.size with hlt | hge
 ·exact hlt
 ·unfold Eb at h; rw [Array.getElem?_eq_none hge] at h; cases h
theorem Eb.q {w w' : World} {g : Nat} {pl : ByteArray} {pp : Int} (h : Eb w g pl pp) (hq : Q w w') : Eb w' g pl pp := (hq.heap h.lt).trans h
def Pb (w : World) (g : Nat) (j : Nat) : Prop := Eb w g (dK j) (cB j)
theorem Pb.cells {w : World} {g j : Nat} (h : Pb w g j) : w.cell? ⟨g, 0, none⟩ = some (.string (dK j)) ∧ w.cell? ⟨g, 1, none⟩ = some (.int .i64 (cB j)) := Eb.cells h
theorem Pb.frozen {w : World} {g j : Nat} (h : Pb w g j) (i : Nat) : w.frozen? ⟨g, i, none⟩ = false := Eb.frozen h i
theorem Pb.lt {w : World} {g j : Nat} (h : Pb w g j) : g < w.heap.size := Eb.lt h
theorem Pb.q {w w' : World} {g j : Nat} (h : Pb w g j) (hq : Q w w') : Pb w' g j := Eb.q h hq
theorem Pb.put {w : World} {g j k : Nat} {pl : ByteArray} {pp : Int} (h : Pb w g j) (h1 : dK k = pl) (h2 : cB k = pp) : Pb ((w.setCell ⟨g, 0, none⟩ (.string pl)).setCell ⟨g, 1, none⟩ (.int .i64 pp)) g k := by
 subst h1 h2;unfold Pb Eb at h ⊢;simp [World.setCell, Array.getElem?_modify, h]
theorem Nb.far {w : World} {g b : Nat} {s : Bool} {t u x y : Value} (h : Nb w g s t u) (hne : g ≠ b) : Nb ((w.setCell ⟨b, 0, none⟩ x).setCell ⟨b, 1, none⟩ y) g s t u := by
 unfold Nb at h ⊢;rw [Below.heap_setCell _ _ _ _ hne, Below.heap_setCell _ _ _ _ hne];exact h
theorem aHJ {w w' : World} {g : Nat} {o : Obj} (h : w.heap[g]? = some o) (hq : Q w w') (hg : g < w.heap.size) : w'.heap[g]? = some o := (hq.heap hg).trans h
theorem aD9 (x : Value) (p : Rat) (w : World) (hPx : Px w) (hx : Nq w x p) (hB : 64 * sz p + 2000 ≤ LIM) : Calls Tryz.prog 109 #[x] w fun e w' => e = .returned (.tuple #[.string (dK (kR p 10)), .int .i64 (cB (kR p 10))]) ∧ Q w w' := by
 obtain ⟨s1, A1, n1, c1, A2, n2, c2, rfl, E1, Z1, O1, hxt, hxb⟩ := hx.form;obtain ⟨w0, hW, hG0, hX0⟩ := pR w s1 (.slice A1 n1 c1) (.slice A2 n2 c2);have HB := yW hB; clear hB;obtain ⟨t, fr, hp⟩ := hPx.q hG0;have g0 : w0.cell? ⟨0, 0, none⟩ = some (.string (dK 0)) := by rw [cell_of_row w0 _ 0 _ t fr hp]; rfl
 have g1 : w0.cell? ⟨0, 1, none⟩ = some (.int .i64 (cB 0)) := by rw [cell_of_row w0 _ 1 _ t fr hp]; rfl
 have glt : (0 : Nat) < w0.heap.size := World.block_lt_of_cell? w0 _ g0;have hs0 : w.heap.size ≠ w0.heap.size := Nat.ne_of_lt hX0.lt;have hs0le : w.heap.size ≤ w0.heap.size := Nat.le_of_lt hX0.lt;go_enter Tryz.func109, Tryz.ntmps109
 go_wp2_with (refine wpList_load_row rfl 147 (.global 0) rfl 0 rfl t iZ fr _ (aHJ hp ((Q.refl _).alloc _) glt) Tryz.underlying147 rfl aDj ?_)
 clear hW;have hb0 : Pb (w0.alloc (.cells #[.string (dK 0), .int .i64 (cB 0)] 146)) w0.heap.size 0 := heap_alloc_new w0 _;have hX1 := hX0.q ((Q.refl w0).alloc (.cells #[.string (dK 0), .int .i64 (cB 0)] 146));have hG1 := hG0.alloc (.cells #[.string (dK 0), .int .i64 (cB 0)] 146);clear g0 g1 hp;go_loopw [10] (fun i wr => ∃ k : Nat, k ≤ 10 ∧ i = .int .i64 (k : Int) ∧ Pb wr w0.heap.size (kR p k) ∧ Nb wr w.heap.size s1 (.slice A1 n1 c1) (.slice A2 n2 c2) ∧ Q w wr) (fun i _ => 10 - (intOf i).toNat)
 case atStart => exact ⟨0, Nat.zero_le _, rfl, hb0, hX1, hG1⟩
 case round =>
  obtain ⟨k, hk, rfl, hbk, hXk, hGk⟩ := hrel;clear hb0 hX1 hG1;obtain ⟨j, hj⟩ : ∃ j, kR p k = j := ⟨_, rfl⟩
  rw [hj] at hbk;have HJ := yW hj; clear hj;by_cases hlt : k < 10
  ·obtain ⟨pl, hpl⟩ : ∃ pl, dK k = pl := ⟨_, rfl⟩
   obtain ⟨pp, hpp⟩ : ∃ pp, cB k = pp := ⟨_, rfl⟩
   have hix2 : ∀ w, (Instr.index 147 (.agg iZ) (.int .i64 (k : Int))).run Tryz.prog w = .ok (.agg #[.string pl, .int .i64 pp]) w := fun w => by
    rw [yA k hlt w, ← hpl, ← hpp]; rfl
   have hp15 : pp.natAbs ≤ 15 := (by rw [← hpp]; unfold cB; omega);have hp1m : pp.natAbs ≤ 1000000 := (by omega);have hcb : 64 * (sz p + sz (bE pp)) + 400 ≤ LIM := (by have h1 := uZ pp; have := HB.out; rw [aC] at *; omega);obtain ⟨c, hc⟩ : ∃ c, rc p (bE pp) = c := ⟨_, rfl⟩
   have hcge := aBf p (bE pp);rw [hc] at hcge;have hstep : kR p (k + 1) = if 0 ≤ c then k else j := by
    have h1 : kR p (k + 1) = if bE (3 * (k : Int) - 15) ≤ p then k else kR p k := rfl;rw [h1, HJ.out];have h2 : bE (3 * (k : Int) - 15) = bE pp := (by rw [← hpp]; rfl);rw [h2];by_cases h : 0 ≤ c
    ·rw [if_pos h, if_pos (hcge.1 h)]
    ·rw [if_neg h, if_neg (fun h3 => h (hcge.2 h3))]
   have HC := yW hc; have HPL := yW hpl; have HPP := yW hpp; have HST := yW hstep;clear hc hpl hpp hstep hcge hp15;obtain ⟨w2, hw2⟩ : ∃ w2, wr.alloc (.cells #[.string pl, .int .i64 pp] 146) = w2 := ⟨_, rfl⟩
   have hqa : Q wr w2 := (by rw [← hw2]; exact (Q.refl _).alloc _);have hEn : w2.heap[wr.heap.size]? = some (.cells #[.string pl, .int .i64 pp] 146 (0, 0)) := (by rw [← hw2]; exact heap_alloc_new wr _);have hne : wr.heap.size ≠ w0.heap.size := (by have := hbk.lt; omega);go_wp2_with fail
   clear hw2 hix2;have hX2 := hXk.q hqa;have hb2 := hbk.q hqa;have hG2 := hGk.trans hqa;have hE2 : Eb w2 wr.heap.size pl pp := hEn;clear hEn;obtain ⟨x0, x1, x2⟩ := hX2.cells;obtain ⟨f0, f1⟩ := hE2.cells
   go_region_held3 (fun W => W.cell? ⟨w.heap.size, 0, none⟩ = some (.bool s1) ∧ W.cell? ⟨w.heap.size, 1, none⟩ = some (.slice A1 n1 c1) ∧ W.cell? ⟨w.heap.size, 2, none⟩ = some (.slice A2 n2 c2) ∧ W.cell? ⟨wr.heap.size, 1, none⟩ = some (.int .i64 pp)) (first | exact ⟨x0, x1, x2, f1⟩ | exact ⟨by assumption, by assumption, by assumption, by assumption⟩ | go_keep) (first
    | (go_at_call 40; (with_reducible refine (iQ _ _ p (bE pp) _ (hx.q hG3) htv hcb).mono ?_); rintro e w4 ⟨rfl, hq4⟩; rw [HC.out]; have hG4 := hG3.trans hq4; have hX4 := hX3.q hq4; have hE4 := hE3.q hq4; have hb4 := hb3.q hq4; obtain ⟨x0, x1, x2⟩ := hX4.cells; obtain ⟨f0, f1⟩ := hE4.cells)
    | (go_at_call 104; (with_reducible refine (sI pp _ hp1m).mono ?_); rintro e w3 ⟨tv, rfl, htv, hq3d⟩; have hq3 : Q w2 w3 := (Q.refl w2).drew.trans hq3d; obtain ⟨s7, A7, n7, c7, A8, n8, c8, rfl, -⟩ := htv.form; have hG3 := hG2.trans hq3; have hX3 := hX2.q hq3; have hE3 := hE2.q hq3; have hb3 := hb2.q hq3; obtain ⟨x0, x1, x2⟩ := hX3.cells; obtain ⟨f0, f1⟩ := hE3.cells))
   all_goals
    obtain ⟨f0, f1⟩ := hE4.cells;obtain ⟨r0, r1⟩ := hb4.cells;have fz := hb4.frozen;by_cases hc0 : 0 ≤ c
    ·have hres : kR p (k + 1) = k := (by rw [HST.out, if_pos hc0]);have HRES := yW hres; clear hres;go_wp2_with fail
     go_roundw
     case rel => exact ⟨k + 1, by omega, by go_num, by rw [HRES.out]; exact hb4.put HPL.out HPP.out, hX4.far hs0, (hG4.setCell (by exact hs0le) _).setCell (by exact hs0le) _⟩
     case measure => simp [intOf]; omega
    ·have hres : kR p (k + 1) = j := (by rw [HST.out, if_neg hc0]);have HRES := yW hres; clear hres;go_wp2_with fail
     go_roundw
     case rel => exact ⟨k + 1, by omega, by go_num, by rw [HRES.out]; exact hb4, hX4, hG4⟩
     case measure => simp [intOf]; omega
  ·have hk10 : k = 10 := (by omega);subst hk10;obtain ⟨pl, hpl⟩ : ∃ pl, dK j = pl := ⟨_, rfl⟩
   obtain ⟨pp, hpp⟩ : ∃ pp, cB j = pp := ⟨_, rfl⟩
   obtain ⟨r0, r1⟩ := hbk.cells;rw [hpl] at r0;rw [hpp] at r1;have HPL := yW hpl; have HPP := yW hpp;clear hpl hpp;go_wp2_with fail
   go_quiet (fail)
   go_wp2_with fail
   go_ret2
   exact ⟨aIK (by rw [HJ.out, HPL.out]) (by rw [HJ.out, HPP.out]), hGk.drewN _⟩
theorem zP {neg two : Bool} {f b : List UInt8} {p : Int} (h : ¬ (¬ mO f ∨ (two = true ∧ ¬ mO b))) (hl : 400 < f.length + b.length) : kW neg f b two p = (3, 0) := by
 unfold kW;rw [if_neg h, if_pos hl]
theorem aCk {neg two : Bool} {f b : List UInt8} {p : Int} (h : ¬ (¬ mO f ∨ (two = true ∧ ¬ mO b))) (hl : ¬ 400 < f.length + b.length) : kW neg f b two p = (0, sgQ neg ((dv (f ++ b) : Nat) : Rat) * bE (p - b.length)) := by
 unfold kW;rw [if_neg h, if_neg hl]
theorem aCl (l : List UInt8) : 0 ≤ Lib.indexByte l 47 ↔ 47 ∈ l := by
 have h1 := Lib.indexByte_ge l 47;constructor
 ·intro h;obtain ⟨k, hk⟩ := Int.eq_ofNat_of_zero_le h;exact List.mem_of_getElem? (Lib.indexByte_some hk).1
 ·intro hm;rcases (by omega : Lib.indexByte l 47 = -1 ∨ 0 ≤ Lib.indexByte l 47) with h | h
  ·obtain ⟨j, hj, hj2⟩ := List.getElem_of_mem hm;exact absurd (by rw [List.getElem?_eq_getElem hj, hj2]) (Lib.indexByte_none h j)
  ·exact h
theorem aGC (l : List UInt8) : (kQ l).1.length ≤ l.length := by
 unfold kQ;split
 ·split
  ·show l.dropLast.length ≤ _; rw [List.length_dropLast]; omega
  ·exact Nat.le_refl _
 ·exact Nat.le_refl _
theorem aGD (c : UInt8) (l : List UInt8) : (fU c l).length + (aft c l).length ≤ l.length := by
 rcases tF c l with ⟨-, h1, h2⟩ | ⟨-, h⟩
 ·rw [h1, h2]; simp
 ·have := congrArg List.length h;rw [List.length_append, List.length_cons] at this;omega
theorem qP (s : Bool) (n : Nat) : (sgQ s ((n : Nat) : Rat)).num = sg s n ∧ (sgQ s ((n : Nat) : Rat)).den = 1 := by
 cases s
 ·exact ⟨Rat.num_natCast _, Rat.den_natCast _⟩
 ·unfold sgQ sg;rw [if_pos rfl, if_pos rfl, Rat.neg_num, Rat.neg_den];exact ⟨by rw [Rat.num_natCast], Rat.den_natCast _⟩
theorem aDm (s : Bool) (l : List UInt8) (h : bW l) (hl : l.length ≤ 400) : sz (sgQ s ((dv l : Nat) : Rat)) ≤ 401 := by
 have h1 := yR (dv l);have h2 := aDH h hl;unfold sgQ;split
 ·rw [fA]; omega
 ·omega
theorem aIL (s : ByteArray) (w : World) (hT : Tb w) (hPx : Px w) (hs : s.size ≤ 9223372036854775806) : Calls Tryz.prog 43 #[.string s] w fun e w' => ∃ r, e = .returned (.tuple #[r, .int .i64 (tJ s.data.toList).1]) ∧ Nq w' r (tJ s.data.toList).2 ∧ Q w w' := by
 obtain ⟨w0, hW, hG0, hR0⟩ : ∃ W, w.alloc (.cells #[.bool false, .slice none 0 0, .slice none 0 0] 28) = W ∧ Q w W ∧ Nb W w.heap.size false (.slice none 0 0) (.slice none 0 0) := ⟨_, rfl, (Q.refl _).alloc _, Nb.new w _ _ _⟩
 by_cases h47 : 47 ∈ s.data.toList
 ·have hP : tJ s.data.toList = aH s.data.toList := if_pos h47;have HP := yW hP; clear hP;have hix := (aCl s.data.toList).2 h47;have HIX := yW hix; clear hix h47;obtain ⟨er, her⟩ : ∃ er, (aH s.data.toList).1 = er := ⟨_, rfl⟩
  have HER := yW her; clear her;go_enter Tryz.func43, Tryz.ntmps43
  go_wp2_with fail
  clear hW;refine (Tryz.strings_Contains_one s 47 _).mono ?_;rintro e w90 ⟨rfl, rfl⟩;rw [decide_eq_true HIX.out];go_wp2_with fail
  refine (wO s _ (hT.q hG0) hs).mono ?_;rintro e w1 ⟨r, rfl, hv, hq1⟩;have hG1 := hG0.trans hq1;have hR1 := hR0.q hq1;have fz := hR1.frozen;obtain ⟨r0, r1, r2⟩ := hR1.cells;rw [HER.out];obtain ⟨s6, B1, m1, d1, B2, m2, d2, rfl, -⟩ := hv.form;go_wp2_with fail
  obtain ⟨z0, z1, z2, hvF, hqF⟩ := Nq.store hR1 hv hG1 (Nat.le_refl _);unfold put3 at z0 z1 z2 hvF hqF;refine rt3 (.int .i64 er) z0 z1 z2 ?_;rw [HP.out, HER.out];exact ⟨_, rfl, hvF, hqF⟩
 ·have HIX : Hid (decide (0 ≤ Lib.indexByte s.data.toList 47) = false) := decide_eq_false (fun h => h47 ((aCl s.data.toList).1 h));obtain ⟨neg, hneg⟩ : ∃ neg, eX s.data.toList = neg := ⟨_, rfl⟩
  obtain ⟨r, hr⟩ : ∃ r, (kQ (unsigned s.data.toList)).1 = r := ⟨_, rfl⟩
  obtain ⟨p, hp⟩ : ∃ p, (kQ (unsigned s.data.toList)).2 = p := ⟨_, rfl⟩
  have hpl := aHs (unsigned s.data.toList);rw [hp] at hpl;obtain ⟨two, htwo⟩ : ∃ two, decide (46 ∈ r) = two := ⟨_, rfl⟩
  obtain ⟨f, hf⟩ : ∃ f, fU 46 r = f := ⟨_, rfl⟩
  obtain ⟨b, hb⟩ : ∃ b, aft 46 r = b := ⟨_, rfl⟩
  have hb2 : two = false → b = [] := fun h => (by rw [← hb]; exact (tH (of_decide_eq_false (htwo.trans h))).2);have hP : tJ s.data.toList = kW neg f b two p := (by unfold tJ; rw [if_neg h47, hneg, hr, hp, htwo, hf, hb]);have HP := yW hP; clear hP;have HN := yW hneg; clear hneg;have HRR := yW hr; clear hr;have HPP := yW hp; clear hp;have HT2 := yW htwo; clear htwo;have HF := yW hf; clear hf;have HBb := yW hb; clear hb;have HB2 := yW hb2; clear hb2;have H47 := yW h47; clear h47;have hpl1 : -15 ≤ p := (by omega);have hpl2 : p ≤ 15 := (by omega);clear hpl;go_enter Tryz.func43, Tryz.ntmps43
  go_wp2_with fail
  clear hW;refine (Tryz.strings_Contains_one s 47 _).mono ?_;rintro e w90 ⟨rfl, rfl⟩;rw [HIX.out];go_wp2_with fail
  refine (vO s _).mono ?_;rintro e w91 ⟨a, rfl, ha, hsz, rfl⟩;rw [HN.out];have HA := yW ha; clear ha;go_wp2_with fail
  refine (aCR a _ (hPx.q hG0) (by omega)).mono ?_;rintro e w1 ⟨c, rfl, hc, hq1⟩;have hG1 := hG0.trans hq1;have hR1 := hR0.q hq1;rw [HA.out] at hc ⊢;rw [HPP.out];rw [HRR.out] at hc;have hcs : c.size ≤ 9223372036854775806 := (by have h1 := aGC (unsigned s.data.toList); rw [HRR.out, ← hc, ← HA.out, ← Lib.size_eq, ← Lib.size_eq] at h1; omega);have HC := yW hc; clear hc;go_wp2_with fail
  refine (aG4 c 46 _ hcs).mono ?_;rintro e w2 ⟨fa, fb, rfl, hfa, hfb, hq2⟩;have hG2 := hG1.trans hq2;have hR2 := hR1.q hq2;rw [HC.out] at hfa hfb ⊢;rw [HT2.out];rw [HF.out] at hfa;rw [HBb.out] at hfb;have la : fa.size = f.length := (by rw [Lib.size_eq, hfa]);have lb : fb.size = b.length := (by rw [Lib.size_eq, hfb]);have lc : fa.size + fb.size ≤ c.size := (by have h1 := aGD 46 r; rw [HF.out, HBb.out] at h1; rw [la, lb, Lib.size_eq, HC.out]; exact h1);have HFA := yW hfa; have HFB := yW hfb; have LA := yW la; have LB := yW lb; clear hfa hfb la lb;go_wp2_with fail
  refine (nI fa _).mono ?_;rintro e w3 ⟨rfl, hq3⟩;have hG3 := hG2.trans hq3;have hR3 := hR2.q hq3;rw [HFA.out];by_cases hd : mO f
  ·rw [show nH f = true from decide_eq_true hd];cases two
   ·have hok : Hid (¬ (¬ mO f ∨ (false = true ∧ ¬ mO b))) := fun h => h.elim (fun h => h hd) (fun h => by cases h.1);have hAb : bW b := (by rw [HB2.out rfl]; intro c hc; simp at hc);have HAB : Hid (bW (f ++ b)) := fun c hc => (List.mem_append.1 hc).elim (hd.1 c) (hAb c);clear hAb;by_cases hl : 400 < f.length + b.length
    ·have hl2 : (400 : Int) < (fa.size : Int) + (fb.size : Int) := (by rw [LA.out, LB.out]; omega);have HLL := yW hl; clear hl;have fz := hR3.frozen;obtain ⟨r0, r1, r2⟩ := hR3.cells;go_wp2_with fail
     have hv := dJ w3;have hres : kW neg f b false p = ((3 : Int), (0 : Rat)) := zP (by have h := hok.out; simp at h ⊢; exact h) HLL.out;obtain ⟨z0, z1, z2, hvF, hqF⟩ := Nq.store hR3 hv hG3 (Nat.le_refl _);unfold put3 at z0 z1 z2 hvF hqF;refine rt3 (.int .i64 3) z0 z1 z2 ?_;rw [HP.out, hres];exact ⟨_, rfl, hvF, hqF⟩
    ·have hl2 : ¬ (400 : Int) < (fa.size : Int) + (fb.size : Int) := (by rw [LA.out, LB.out]; omega);have hsa : fa.size ≤ 400 := (by rw [LA.out]; omega);have hsb : fb.size ≤ 400 := (by rw [LB.out]; omega);have HLL := yW hl; clear hl;have hcat : (fa ++ fb).data.toList = f ++ b := (by rw [fJ, HFA.out, HFB.out]);have hcs2 : (fa ++ fb).size + 100 ≤ LIM := (by rw [ByteArray.size_append, aC]; omega);have HCAT := yW hcat; clear hcat;go_wp2_with fail
     refine (iV (fa ++ fb) _ (by rw [HCAT.out]; exact HAB.out) hcs2).mono ?_;rintro e w4 ⟨t1, rfl, ht1, hq4, -⟩;have hG4 := hG3.trans hq4;have hR4 := hR3.q hq4;rw [HCAT.out] at ht1;obtain ⟨A5, n5, c5, rfl⟩ := ht1.form;go_wp2_with fail
     refine (gU neg _ (dv (f ++ b)) _ ht1).mono ?_;rintro e w5 ⟨v5, rfl, hv5, hq5⟩;have hG5 := hG4.trans hq5;have hR5 := hR4.q hq5;obtain ⟨B1, d1, B2, d2, rfl, -, -⟩ := hv5.form;have hv := Nq.int (q := sgQ neg ((dv (f ++ b) : Nat) : Rat)) hv5 (qP neg _).1 (qP neg _).2;generalize (decide (0 < dv (f ++ b)) && neg) = s4 at *
     generalize dg W64 (dv (f ++ b)) = m1 at *
     generalize dg W64 0 = m2 at *
     have hqd : Q w5 (w5.alloc (.cells #[.bool s4, .slice B1 m1 d1, .slice B2 m2 d2] 28)) := (Q.refl _).alloc _;have hE : Nb (w5.alloc (.cells #[.bool s4, .slice B1 m1 d1, .slice B2 m2 d2] 28)) w5.heap.size s4 (.slice B1 m1 d1) (.slice B2 m2 d2) := Nb.new _ _ _ _;have neE : w5.heap.size ≠ w.heap.size := (by have := hR5.lt; omega);have tw1 : IntKind.i64.wrap (p - (fb.size : Int)) = p - (fb.size : Int) := IntWalk.i64_in _ (by omega);have hz2 := aDm neg (f ++ b) HAB.out (show (f ++ b).length ≤ 400 by rw [List.length_append]; exact Nat.le_of_not_lt HLL.out);have hz3 := uZ (p - (fb.size : Int));have hB : 16 * (sz (sgQ neg ((dv (f ++ b) : Nat) : Rat)) + sz (bE (p - (fb.size : Int)))) + 100 ≤ LIM := (by rw [aC]; omega);clear hz2 hz3;go_wp2_with fail
     generalize hwd : w5.alloc (.cells #[.bool s4, .slice B1 m1 d1, .slice B2 m2 d2] 28) = w6 at *
     clear hwd;have hG6 := hG5.trans hqd;have hR6 := hR5.q hqd;have hE6 := hE;have hv6 := hv.q hqd;clear hv;obtain ⟨e0, e1, e2⟩ := hE6.cells
     go_region_held3 (fun W => W.cell? ⟨w5.heap.size, 0, none⟩ = some (.bool s4) ∧ W.cell? ⟨w5.heap.size, 1, none⟩ = some (.slice B1 m1 d1) ∧ W.cell? ⟨w5.heap.size, 2, none⟩ = some (.slice B2 m2 d2)) (first | exact ⟨e0, e1, e2⟩ | exact ⟨by assumption, by assumption, by assumption⟩ | exact ⟨(dU neE).trans (by assumption), (dU neE).trans (by assumption), (dU neE).trans (by assumption)⟩ | go_keep) (first
      | (go_at_call 76; refine (iL _ _ (sgQ neg ((dv (f ++ b) : Nat) : Rat)) (bE (p - (fb.size : Int))) _ (hT.q hG7) (hv6.q hq7) htv hB).mono ?_; rintro e w8 ⟨v9, rfl, hv, hq8⟩; have hG8 := hG7.trans hq8; have hR8 := hR7.q hq8; have hE8 := hE7.q hq8; obtain ⟨e0, e1, e2⟩ := hE8.cells; have fz := hR8.frozen; obtain ⟨r0, r1, r2⟩ := hR8.cells; obtain ⟨s8, C1, l1, g1, C2, l2, g2, rfl, -⟩ := hv.form)
      | (go_at_call 104; refine (sI (p - (fb.size : Int)) _ (by omega)).mono ?_; rintro e w7 ⟨tv, rfl, htv, hq7d⟩; have hq7 : Q w6 w7 := (Q.refl w6).drew.trans hq7d; have hG7 := hG6.trans hq7; have hR7 := hR6.q hq7; have hE7 := hE6.q hq7; obtain ⟨e0, e1, e2⟩ := hE7.cells; obtain ⟨s7, A7, n7, c7, A8, n8, c8, rfl, -⟩ := htv.form))
     all_goals
      go_wp2_with fail
      have hres : kW neg f b false p = ((0 : Int), sgQ neg ((dv (f ++ b) : Nat) : Rat) * bE (p - (fb.size : Int))) := (by rw [LB.out]; exact aCk (by have h := hok.out; simp at h ⊢; exact h) HLL.out);obtain ⟨z0, z1, z2, hvF, hqF⟩ := Nq.store hR8 hv hG8 (Nat.le_refl _);unfold put3 at z0 z1 z2 hvF hqF;refine rt3 (.int .i64 0) z0 z1 z2 ?_;rw [HP.out, hres];exact ⟨_, rfl, hvF, hqF⟩
   ·go_wp2_with fail
    refine (nI fb _).mono ?_;rintro e w4 ⟨rfl, hq4⟩;have hG4 := hG3.trans hq4;have hR4 := hR3.q hq4;rw [HFB.out];by_cases hd2 : mO b
    ·rw [show nH b = true from decide_eq_true hd2];have hok : Hid (¬ (¬ mO f ∨ (true = true ∧ ¬ mO b))) := fun h => h.elim (fun h => h hd) (fun h => h.2 hd2);have hAb : bW b := hd2.1;have HAB : Hid (bW (f ++ b)) := fun c hc => (List.mem_append.1 hc).elim (hd.1 c) (hAb c);clear hAb;by_cases hl : 400 < f.length + b.length
     ·have hl2 : (400 : Int) < (fa.size : Int) + (fb.size : Int) := (by rw [LA.out, LB.out]; omega);have HLL := yW hl; clear hl;have fz := hR4.frozen;obtain ⟨r0, r1, r2⟩ := hR4.cells;go_wp2_with fail
      have hv := dJ w4;have hres : kW neg f b true p = ((3 : Int), (0 : Rat)) := zP (by have h := hok.out; simp at h ⊢; exact h) HLL.out;obtain ⟨z0, z1, z2, hvF, hqF⟩ := Nq.store hR4 hv hG4 (Nat.le_refl _);unfold put3 at z0 z1 z2 hvF hqF;refine rt3 (.int .i64 3) z0 z1 z2 ?_;rw [HP.out, hres];exact ⟨_, rfl, hvF, hqF⟩
     ·have hl2 : ¬ (400 : Int) < (fa.size : Int) + (fb.size : Int) := (by rw [LA.out, LB.out]; omega);have hsa : fa.size ≤ 400 := (by rw [LA.out]; omega);have hsb : fb.size ≤ 400 := (by rw [LB.out]; omega);have HLL := yW hl; clear hl;have hcat : (fa ++ fb).data.toList = f ++ b := (by rw [fJ, HFA.out, HFB.out]);have hcs2 : (fa ++ fb).size + 100 ≤ LIM := (by rw [ByteArray.size_append, aC]; omega);have HCAT := yW hcat; clear hcat;go_wp2_with fail
      refine (iV (fa ++ fb) _ (by rw [HCAT.out]; exact HAB.out) hcs2).mono ?_;rintro e w5 ⟨t1, rfl, ht1, hq5, -⟩;have hG5 := hG4.trans hq5;have hR5 := hR4.q hq5;rw [HCAT.out] at ht1;obtain ⟨A5, n5, c5, rfl⟩ := ht1.form;go_wp2_with fail
      refine (gU neg _ (dv (f ++ b)) _ ht1).mono ?_;rintro e w6 ⟨v5, rfl, hv5, hq6⟩;have hG6 := hG5.trans hq6;have hR6 := hR5.q hq6;obtain ⟨B1, d1, B2, d2, rfl, -, -⟩ := hv5.form;have hv := Nq.int (q := sgQ neg ((dv (f ++ b) : Nat) : Rat)) hv5 (qP neg _).1 (qP neg _).2;generalize (decide (0 < dv (f ++ b)) && neg) = s4 at *
      generalize dg W64 (dv (f ++ b)) = m1 at *
      generalize dg W64 0 = m2 at *
      have hqd : Q w6 (w6.alloc (.cells #[.bool s4, .slice B1 m1 d1, .slice B2 m2 d2] 28)) := (Q.refl _).alloc _;have hE : Nb (w6.alloc (.cells #[.bool s4, .slice B1 m1 d1, .slice B2 m2 d2] 28)) w6.heap.size s4 (.slice B1 m1 d1) (.slice B2 m2 d2) := Nb.new _ _ _ _;have neE : w6.heap.size ≠ w.heap.size := (by have := hR6.lt; omega);have tw1 : IntKind.i64.wrap (p - (fb.size : Int)) = p - (fb.size : Int) := IntWalk.i64_in _ (by omega);have hz2 := aDm neg (f ++ b) HAB.out (show (f ++ b).length ≤ 400 by rw [List.length_append]; exact Nat.le_of_not_lt HLL.out);have hz3 := uZ (p - (fb.size : Int));have hB : 16 * (sz (sgQ neg ((dv (f ++ b) : Nat) : Rat)) + sz (bE (p - (fb.size : Int)))) + 100 ≤ LIM := (by rw [aC]; omega);clear hz2 hz3;go_wp2_with fail
      generalize hwd : w6.alloc (.cells #[.bool s4, .slice B1 m1 d1, .slice B2 m2 d2] 28) = w7 at *
      clear hwd;have hG7 := hG6.trans hqd;have hR7 := hR6.q hqd;have hE7 := hE;have hv6 := hv.q hqd;clear hv;obtain ⟨e0, e1, e2⟩ := hE7.cells
      go_region_held3 (fun W => W.cell? ⟨w6.heap.size, 0, none⟩ = some (.bool s4) ∧ W.cell? ⟨w6.heap.size, 1, none⟩ = some (.slice B1 m1 d1) ∧ W.cell? ⟨w6.heap.size, 2, none⟩ = some (.slice B2 m2 d2)) (first | exact ⟨e0, e1, e2⟩ | exact ⟨by assumption, by assumption, by assumption⟩ | exact ⟨(dU neE).trans (by assumption), (dU neE).trans (by assumption), (dU neE).trans (by assumption)⟩ | go_keep) (first
       | (go_at_call 76; refine (iL _ _ (sgQ neg ((dv (f ++ b) : Nat) : Rat)) (bE (p - (fb.size : Int))) _ (hT.q hG8) (hv6.q hq8) htv hB).mono ?_; rintro e w9 ⟨v9, rfl, hv, hq9⟩; have hG9 := hG8.trans hq9; have hR9 := hR8.q hq9; have hE9 := hE8.q hq9; obtain ⟨e0, e1, e2⟩ := hE9.cells; have fz := hR9.frozen; obtain ⟨r0, r1, r2⟩ := hR9.cells; obtain ⟨s8, C1, l1, g1, C2, l2, g2, rfl, -⟩ := hv.form)
       | (go_at_call 104; refine (sI (p - (fb.size : Int)) _ (by omega)).mono ?_; rintro e w8 ⟨tv, rfl, htv, hq8d⟩; have hq8 : Q w7 w8 := (Q.refl w7).drew.trans hq8d; have hG8 := hG7.trans hq8; have hR8 := hR7.q hq8; have hE8 := hE7.q hq8; obtain ⟨e0, e1, e2⟩ := hE8.cells; obtain ⟨s7, A7, n7, c7, A8, n8, c8, rfl, -⟩ := htv.form))
      all_goals
       go_wp2_with fail
       have hres : kW neg f b true p = ((0 : Int), sgQ neg ((dv (f ++ b) : Nat) : Rat) * bE (p - (fb.size : Int))) := (by rw [LB.out]; exact aCk (by have h := hok.out; simp at h ⊢; exact h) HLL.out);obtain ⟨z0, z1, z2, hvF, hqF⟩ := Nq.store hR9 hv hG9 (Nat.le_refl _);unfold put3 at z0 z1 z2 hvF hqF;refine rt3 (.int .i64 0) z0 z1 z2 ?_;rw [HP.out, hres];exact ⟨_, rfl, hvF, hqF⟩
    ·rw [show nH b = false from decide_eq_false hd2];have fz := hR4.frozen;obtain ⟨r0, r1, r2⟩ := hR4.cells;go_wp2_with fail
     have hv := dJ w4;have hres : kW neg f b true p = ((6 : Int), (0 : Rat)) := if_pos (.inr ⟨rfl, hd2⟩);obtain ⟨z0, z1, z2, hvF, hqF⟩ := Nq.store hR4 hv hG4 (Nat.le_refl _);unfold put3 at z0 z1 z2 hvF hqF;refine rt3 (.int .i64 6) z0 z1 z2 ?_;rw [HP.out, hres];exact ⟨_, rfl, hvF, hqF⟩
  ·rw [show nH f = false from decide_eq_false hd];have fz := hR3.frozen;obtain ⟨r0, r1, r2⟩ := hR3.cells;go_wp2_with fail
   have hv := dJ w3;have hres : kW neg f b two p = ((6 : Int), (0 : Rat)) := if_pos (.inl hd);obtain ⟨z0, z1, z2, hvF, hqF⟩ := Nq.store hR3 hv hG3 (Nat.le_refl _);unfold put3 at z0 z1 z2 hvF hqF;refine rt3 (.int .i64 6) z0 z1 z2 ?_;rw [HP.out, hres];exact ⟨_, rfl, hvF, hqF⟩
theorem Nq.top {w : World} {s : Bool} {t b : Value} {q : Rat} (h : Nq w (.agg #[.bool s, t, b]) q) : Nm w t q.num.natAbs := by
 obtain ⟨t2, b2, e, h1, h2⟩ := h;cases e;exact h1
theorem nS {a : Value} {x y : Bool} (h : x = y) : Ending.returned (.tuple #[a, .bool x]) = .returned (.tuple #[a, .bool y]) := by rw [h]
theorem aCS {U : Nat} (h : 412 < (dec U).length) : pF U = none := by
 unfold pF;have := aDI U h;rw [if_pos (by omega)]
theorem aFr {u : Rat} {U : Nat} (_ : 0 ≤ u) (hd : u.den = 1) (hU : u.num.natAbs = U) : eZ u = pF U := by
 unfold eZ;rw [if_pos hd, hU]
def aJf (o : Option (List UInt8)) (w : World) (e : Ending) (w' : World) : Prop := ∃ t : ByteArray, e = .returned (.tuple #[.string t, .bool o.isSome]) ∧ t.data.toList = o.getD [] ∧ Q w w'
theorem aFs (w : World) : Calls Tryz.prog 151 #[.string ⟨#[48]⟩, .int .i64 12] w fun e w' => ∃ z : ByteArray, e = .returned (.string z) ∧ z.data.toList = List.replicate 12 48 ∧ z.size = 12 ∧ Q w w' := by
 refine Calls.mono (Tryz.strings_Repeat_main ⟨#[48]⟩ 12 w (by decide) (by decide) (by decide) (by decide)) ?_;rintro e w' ⟨h1, h2⟩;exact ⟨_, h1, rfl, rfl, h2⟩
theorem aBb (x : Value) (p : Rat) (w : World) (hT : Tb w) (hx : Nq w x p) (h0 : 0 ≤ p) (hB : 200 * sz p + 50000 ≤ LIM) : Calls Tryz.prog 110 #[x] w (aJf (eZ (p * bE 12)) w) := by
 obtain ⟨s1, A1, n1, c1, A2, n2, c2, rfl, E1, Z1, O1, hxt, hxb⟩ := hx.form;obtain ⟨w0, hW, hG0, hX0⟩ := pR w s1 (.slice A1 n1 c1) (.slice A2 n2 c2);have hz1 := uZ 12;have hz2 := gB p (bE 12);have hu0 : 0 ≤ p * bE 12 := Rat.mul_nonneg h0 (Rat.le_of_lt (aBE _));have hB1 : 16 * (sz p + sz (bE 12)) + 100 ≤ LIM := by rw [aC] at *; omega
 generalize hu : p * bE 12 = u at *
 have HU := yW hu; clear hu;have hzu : 100 * dg W64 u.num.natAbs + 100 ≤ LIM := by have := gP u; rw [aC] at *; omega
 have HB := yW hB; clear hB hz1 h0;obtain ⟨x0, x1, x2⟩ := hX0.cells;go_enter Tryz.func110, Tryz.ntmps110
 go_wp2_with fail
 clear hW;have c0 : ∀ W, Q w0 W → W.cell? ⟨w.heap.size, 0, none⟩ = some (.bool s1) := fun W h => (hX0.q h).cells.1;have c1' : ∀ W, Q w0 W → W.cell? ⟨w.heap.size, 1, none⟩ = some (.slice A1 n1 c1) := fun W h => (hX0.q h).cells.2.1;have c2' : ∀ W, Q w0 W → W.cell? ⟨w.heap.size, 2, none⟩ = some (.slice A2 n2 c2) := fun W h => (hX0.q h).cells.2.2;clear x0 x1 x2
 go_region_held3 (fun W => Q w0 W) (first | with_reducible exact (Q.refl w0).drew | with_reducible exact hq1 | with_reducible exact hS2 | with_reducible exact ((Q.refl w0).alloc _).drew | with_reducible exact hq1.alloc _ | with_reducible exact hS2.alloc _ | with_reducible exact ((hS2.setCell hgE0 _).setCell hgE0 _).setCell hgE0 _) (first
  | (go_at_call 76; (with_reducible refine (iL _ _ p (bE 12) w1 (hT.q hG1) (hx.q hG1) htv hB1).mono ?_); rintro e w2 ⟨uv, rfl, huv, hq2⟩; rw [HU.out] at huv; obtain ⟨s3, A3, n3, c3, A4, n4, c4, rfl, E3, Z3, O3, hut, hub⟩ := huv.form; have hG2 := hG1.trans hq2; have hS2 := hq1.trans hq2; first | (have hE2 := hE1.q hq2; have fz := hE2.frozen; obtain ⟨r0, r1, r2⟩ := hE2.cells) | skip)
  | (go_at_call 76; (with_reducible refine (iL _ _ p (bE 12) _ (hT.q (hG1.alloc _)) (hx.q (hG1.alloc _)) (htv.q ((Q.refl _).alloc _)) hB1).mono ?_); rintro e w2 ⟨uv, rfl, huv, hq2d⟩; have hq2 : Q w1 w2 := ((Q.refl _).alloc _).trans hq2d; rw [HU.out] at huv; obtain ⟨s3, A3, n3, c3, A4, n4, c4, rfl, E3, Z3, O3, hut, hub⟩ := huv.form; have hG2 := hG1.trans hq2; have hS2 := hq1.trans hq2; have hE2 := (Nb.new w1 false (.slice none 0 0) (.slice none 0 0)).q hq2d; have hgE0 : w0.heap.size ≤ w1.heap.size := hq1.size; have hgE := Nat.le_trans hG0.size hgE0; have fz := hE2.frozen; obtain ⟨r0, r1, r2⟩ := hE2.cells)
  | (go_at_call 104; (with_reducible refine (sI 12 w0.drew (by decide)).mono ?_); rintro e w1 ⟨tv, rfl, htv, hq1d⟩; have hq1 : Q w0 w1 := (Q.refl w0).drew.trans hq1d; obtain ⟨s7, A7, n7, c7, A8, n8, c8, rfl, -⟩ := htv.form; have hG1 := hG0.trans hq1)
  | (go_at_call 104; (with_reducible refine (sI 12 (w0.alloc (.cells #[.bool false, .slice none 0 0, .slice none 0 0] 28)).drew (by decide)).mono ?_); rintro e w1 ⟨tv, rfl, htv, hq1d⟩; have hq1 : Q w0 w1 := ((Q.refl w0).alloc _).drew.trans hq1d; obtain ⟨s7, A7, n7, c7, A8, n8, c8, rfl, -⟩ := htv.form; have hG1 := hG0.trans hq1; have hE1 : Nb w1 w0.heap.size false (.slice none 0 0) (.slice none 0 0) := (Nb.new w0 false (.slice none 0 0) (.slice none 0 0)).q ((Q.refl _).drew.trans hq1d); have hgE0 : w0.heap.size ≤ w0.heap.size := Nat.le_refl _; have hgE := hG0.size))
 have hEE : Nb (w2.alloc (.cells #[.bool s3, .slice A3 n3 c3, .slice A4 n4 c4] 28)) w2.heap.size s3 (.slice A3 n3 c3) (.slice A4 n4 c4) := Nb.new w2 _ _ _;have hGE := hG2.alloc (.cells #[.bool s3, .slice A3 n3 c3, .slice A4 n4 c4] 28);have huE := huv.q ((Q.refl w2).alloc (.cells #[.bool s3, .slice A3 n3 c3, .slice A4 n4 c4] 28));generalize w2.alloc (.cells #[.bool s3, .slice A3 n3 c3, .slice A4 n4 c4] 28) = wE at hEE hGE huE ⊢;generalize w2.heap.size = gE at hEE ⊢
 rotate_left
 have hEE := hE2.put (s := s3) (t := .slice A3 n3 c3) (b := .slice A4 n4 c4);have hGE := pQ (g := w1.heap.size) (s := s3) (t := .slice A3 n3 c3) (b := .slice A4 n4 c4) hG2 hgE;have huE := Nq.apart (s' := s3) (t' := .slice A3 n3 c3) (b' := .slice A4 n4 c4) huv hE2;unfold put3 at hEE hGE huE;generalize ((w2.setCell ⟨w1.heap.size, 0, none⟩ (.bool s3)).setCell ⟨w1.heap.size, 1, none⟩ (.slice A3 n3 c3)).setCell ⟨w1.heap.size, 2, none⟩ (.slice A4 n4 c4) = wE at hEE hGE huE ⊢;generalize w1.heap.size = gE at hEE ⊢
 rotate_left
 have hEE := hE2.put (s := s3) (t := .slice A3 n3 c3) (b := .slice A4 n4 c4);have hGE := pQ (g := w0.heap.size) (s := s3) (t := .slice A3 n3 c3) (b := .slice A4 n4 c4) hG2 hgE;have huE := Nq.apart (s' := s3) (t' := .slice A3 n3 c3) (b' := .slice A4 n4 c4) huv hE2;unfold put3 at hEE hGE huE;generalize ((w2.setCell ⟨w0.heap.size, 0, none⟩ (.bool s3)).setCell ⟨w0.heap.size, 1, none⟩ (.slice A3 n3 c3)).setCell ⟨w0.heap.size, 2, none⟩ (.slice A4 n4 c4) = wE at hEE hGE huE ⊢;generalize w0.heap.size = gE at hEE ⊢
 rotate_left
 all_goals
  clear c0 c1' c2' hut hub huv;have hut := huE.top;obtain ⟨U, hU⟩ : ∃ U, u.num.natAbs = U := ⟨_, rfl⟩
  rw [hU] at hut hzu;have HUU := yW hU; clear hU;have hutE := hut;obtain ⟨e0, e1, e2⟩ := hEE.cells;go_wp2_with fail
  refine (gI _ u _ huE).mono ?_;rintro e w11 ⟨rfl, hq11⟩;have hG11 := hGE.trans hq11;have hE11 := hEE.q hq11;clear e0 e1 e2;obtain ⟨e0, e1, e2⟩ := hE11.cells;by_cases hd : u.den = 1
  ·rw [decide_eq_true hd];have hS := aFr hu0 hd HUU.out;have HS := yW hS; have HD := yW hd; clear hS hd;go_wp2_with fail
   refine (aBa _ U _ (hutE.q hq11) hzu).mono ?_;rintro e w12 ⟨rfl, hq12⟩;have hG12 := hG11.trans hq12;have hE12 := hE11.q hq12;clear e0 e1 e2;obtain ⟨n, hn⟩ : ∃ n, (dec U).length = n := ⟨_, rfl⟩
   rw [hn];have HN := yW hn; clear hn;by_cases hl : 412 < n
   ·have hl2 : (412 : Int) < (n : Int) := (by omega);have hno : eZ u = none := (by rw [HS.out]; exact aCS (by rw [HN.out]; exact hl));have HNO := yW hno; clear hno hl;go_wp2_with fail
    go_ret2
    exact ⟨⟨#[]⟩, nS (by rw [HNO.out]; rfl), by rw [HNO.out]; rfl, hG12⟩
   ·have hl2 : ¬ (412 : Int) < (n : Int) := (by omega);have hn412 : n ≤ 412 := (by omega);have hdU : dg W64 U ≤ 1000000000 := (by have := aBI U; rw [HN.out] at this; omega);clear hl;go_wp2_with fail
    obtain ⟨e0, e1, e2⟩ := hE12.cells;refine wp_region_held_drew (S := fun W => W.cell? ⟨gE, 0, none⟩ = some (.bool s3) ∧ W.cell? ⟨gE, 1, none⟩ = some (.slice A3 n3 c3) ∧ W.cell? ⟨gE, 2, none⟩ = some (.slice A4 n4 c4)) (by kernel_rfl) (by exact ⟨e0, e1, e2⟩) (fun hHeld => ?_);refine wpAnyH_take (i := 1) (v := ?_) rfl (by kernel_rfl) (by kernel_rfl) (by kernel_rfl) (fun _ _ _ h => h) (Or.inl ⟨by rfl, ?_⟩) (by assumption) ?_
    rotate_left
    ·intro W hSw
     (try dsimp only at hSw)
     go_simp
     try (with_reducible rfl)
    try simp only [Act.put]
    try simp only [List.setIfInBounds_toArray]
    try simp only [List.set_cons_zero, List.set_cons_succ]
    refine wpAnyH_take (i := 2) (v := ?_) rfl (by kernel_rfl) (by kernel_rfl) (by kernel_rfl) (fun _ _ _ h => h) (Or.inl ⟨by rfl, ?_⟩) (by assumption) ?_
    rotate_left
    ·intro W hSw
     (try dsimp only at hSw)
     go_simp
     try (with_reducible rfl)
    try simp only [Act.put]
    try simp only [List.setIfInBounds_toArray]
    try simp only [List.set_cons_zero, List.set_cons_succ]
    refine wpAnyH_ready (rs := [0]) (by kernel_rfl) (by decide) (AllReadyH.cons rfl (fun K hK => ?_) AllReadyH.nil);go_simp
    (with_reducible refine (aFs _).mono ?_)
    rintro e w13 ⟨z, rfl, hz, hz12, hq13d⟩;have hq13 : Q w12 w13 := (Q.refl w12).drew.trans hq13d;have hG13 := hG12.trans hq13;have hE13 := hE12.q hq13;obtain ⟨e0, e1, e2⟩ := hE13.cells;have HZ := yW hz;clear hz;have HZ12 := yW hz12;have hz13 := Nat.le_of_eq hz12;clear hz12;go_wp2_with fail
    refine hK.out _ _ (by exact ⟨by assumption, by assumption, by assumption⟩) (fun hHeld => ?_);clear hK K;try simp only [Act.put]
    try simp only [List.setIfInBounds_toArray]
    try simp only [List.set_cons_zero, List.set_cons_succ]
    refine wpAnyH_ready (rs := [3]) (by kernel_rfl) (by decide) (AllReadyH.cons rfl (fun K hK => ?_) AllReadyH.nil);go_simp
    (with_reducible refine (tY _ U _ ((hutE.q (hq11.trans hq12)).q hq13) hdU).mono ?_)
    rintro e w14 ⟨tb, rfl, htb, hq14⟩;have hG14 := hG13.trans hq14;have hE14 := hE13.q hq14;obtain ⟨e0, e1, e2⟩ := hE14.cells;have htn : tb.size = n := (Lib.size_eq tb).trans ((congrArg List.length htb).trans HN.out);have htn2 : tb.size ≤ 412 := (by omega)
    have HTB := yW htb;have HTN := yW htn;clear htb htn;go_wp2_with fail
    refine hK.out _ _ (by exact ⟨by assumption, by assumption, by assumption⟩) (fun hHeld => ?_);clear hK K;try simp only [Act.put]
    try simp only [List.setIfInBounds_toArray]
    try simp only [List.set_cons_zero, List.set_cons_succ]
    refine wpAnyH_ready (rs := [4]) (by kernel_rfl) (by decide) (AllReadyH.cons rfl (fun K hK => ?_) AllReadyH.nil);go_simp
    rw [if_neg (by omega)];go_simp
    refine hK.out _ _ (by exact ⟨by assumption, by assumption, by assumption⟩) (fun hHeld => ?_);clear hK K;try simp only [Act.put]
    try simp only [List.setIfInBounds_toArray]
    try simp only [List.set_cons_zero, List.set_cons_succ]
    refine wpAnyH_take (i := 5) (v := ?_) rfl (by kernel_rfl) (by kernel_rfl) (by kernel_rfl) (fun _ _ _ h => h) (Or.inl ⟨by rfl, ?_⟩) (by assumption) ?_
    rotate_left
    ·intro W hSw
     (try dsimp only at hSw)
     go_simp
     try (with_reducible rfl)
    try simp only [Act.put]
    try simp only [List.setIfInBounds_toArray]
    try simp only [List.set_cons_zero, List.set_cons_succ]
    refine wpAnyH_done (by kernel_rfl) ?_ _;all_goals
     obtain ⟨sa1, sa2⟩ := aES U;rw [HN.out] at sa1 sa2;have hal : (z ++ tb).data.toList = List.replicate 12 48 ++ dec U := (by rw [fJ, HZ.out, HTB.out]);have has : (z ++ tb).size = 12 + n := (by rw [ByteArray.size_append, HZ12.out, HTN.out]);rw [← hal] at sa1 sa2;clear hal;generalize z ++ tb = al at *
     have hpt : (al.size : Int) - 12 = (n : Int) := (by omega);have q1 : (0 : Int) ≤ (n : Int) := (by omega);have q2 : (n : Int) ≤ (al.size : Int) := (by omega);have q3 : al.size ≤ 424 := (by omega);have hex1 : (al.extract 0 n).data.toList = al.data.toList.take n := (by rw [Lib.extract_data]; simp);have hex2 : (al.extract n al.size).data.toList = al.data.toList.drop n := Lib.extract_to_end _ _;have hxs : (al.extract n al.size).size ≤ 9223372036854775807 := (by rw [Lib.size_eq, hex2, List.length_drop, ← Lib.size_eq]; omega);obtain ⟨fa, hfa⟩ : ∃ fa : ByteArray, ⟨(Lib.trimLeftB (al.extract 0 n).data.toList 48).toArray⟩ = fa := ⟨_, rfl⟩
     obtain ⟨fb, hfb⟩ : ∃ fb : ByteArray, ⟨(Lib.trimRightB (al.extract n al.size).data.toList 48).toArray⟩ = fb := ⟨_, rfl⟩
     have la : fa.data.toList = if U / 1000000000000 = 0 then [] else dec (U / 1000000000000) := (by rw [← hfa, ← sa2, ← hex1]; rfl);have lb : fb.data.toList = yO (pd 12 (U % 1000000000000)) := (by rw [← hfb, ← sa1, ← hex2]; rfl);have hsh := aET la lb;rw [← HS.out] at hsh;have hLC : ∀ W : World, Calls Tryz.prog 152 #[.string (al.extract 0 n), .string ⟨#[48]⟩] W fun e w' => e = .returned (.string fa) ∧ w' = W := fun W => (by have h := Tryz.strings_TrimLeft_one (al.extract 0 n) 48 (by decide) W; rw [hfa] at h; exact h);have hRC : ∀ W : World, Calls Tryz.prog 153 #[.string (al.extract n al.size), .string ⟨#[48]⟩] W fun e w' => e = .returned (.string fb) ∧ w' = W := fun W => (by have h := Tryz.strings_TrimRight_one (al.extract n al.size) 48 (by decide) W hxs; rw [hfb] at h; exact h);have HLC := yW hLC; have HRC := yW hRC; clear hLC hRC;have fl1 : fa.size ≤ 424 := (by rw [← hfa, Lib.size_eq, toList_mk]; exact Nat.le_trans (List.dropWhile_sublist _).length_le (by rw [hex1, List.length_take, ← Lib.size_eq]; omega));have fl2 : fb.size ≤ 424 := (by rw [← hfb, Lib.size_eq, toList_mk]; unfold Lib.trimRightB; rw [List.length_reverse]; exact Nat.le_trans (List.dropWhile_sublist _).length_le (by rw [List.length_reverse, hex2, List.length_drop, ← Lib.size_eq]; omega));have ta := ByteArray.toList_eq fa;have tbb := ByteArray.toList_eq fb;have sza := Lib.size_eq fa;have szb := Lib.size_eq fb;generalize hfl : fa.data.toList = f at *
     generalize hbl : fb.data.toList = bb at *
     have HFA := yW hfa; have HFB := yW hfb; have HSH := yW hsh; have HFL := yW hfl; have HBL := yW hbl; have TA := yW ta; have TB2 := yW tbb; have SZA := yW sza; have SZB := yW szb;clear hfa hfb hsh hfl hbl ta tbb sza szb sa1 sa2 la lb hex1 hex2 has;go_wp2_with fail
     go_quiet ((first | (go_at_call 152; exact Calls.quiet_of_same (HLC.out _)) | (go_at_call 153; exact Calls.quiet_of_same (HRC.out _))))
     by_cases hf0 : f = []
     ·have faa : fa.toList = [] := TA.out.trans hf0;have fab : (fa.toList == []) = true := (by rw [faa]; rfl);have fac : fa.toList.isEmpty = true := (by rw [faa]; rfl);have hsh2 : eZ u = if 400 < ([48] : List UInt8).length + bb.length then none else some ([48] ++ if bb = [] then [] else 46 :: bb) := (by have h := HSH.out; rw [if_pos hf0] at h; exact h);have HS2 := yW hsh2; clear hsh2;have HF0 := yW hf0; clear hf0;by_cases hll : 400 < ([48] : List UInt8).length + bb.length
      ·have hl4 : (400 : Int) < (1 : Int) + (fb.size : Int) := (by rw [SZB.out]; simp at hll; omega);have hno : eZ u = none := (by rw [HS2.out, if_pos hll]);have HNO := yW hno; clear hno hll;go_wp2_with fail
       go_ret2
       exact ⟨⟨#[]⟩, nS (by rw [HNO.out]; rfl), by rw [HNO.out]; rfl, hG14.drewN _⟩
      ·have hl4 : ¬ (400 : Int) < (1 : Int) + (fb.size : Int) := (by rw [SZB.out]; simp at hll; omega);by_cases hb0 : bb = []
       ·have fba : fb.toList = [] := TB2.out.trans hb0;have fbb : (fb.toList == []) = true := (by rw [fba]; rfl);have fbc : fb.toList.isEmpty = true := (by rw [fba]; rfl);have hsome : eZ u = some ([48] ++ []) := (by rw [HS2.out, if_neg hll, if_pos hb0]);have HSO := yW hsome; clear hsome hll hb0;go_wp2_with fail
        go_ret2
        exact ⟨⟨#[48]⟩, nS (by rw [HSO.out]; rfl), by rw [HSO.out]; simp, hG14.drewN _⟩
       ·have fba : ¬ fb.toList = [] := fun h => hb0 (TB2.out.symm.trans h);have fbb : (fb.toList == []) = false := beq_eq_false_iff_ne.2 fba;have fbc : fb.toList.isEmpty = false := by cases hx : fb.toList with | nil => exact absurd hx fba | cons _ _ => rfl
        have hsome : eZ u = some ([48] ++ 46 :: bb) := (by rw [HS2.out, if_neg hll, if_neg hb0]);have HSO := yW hsome; clear hsome hll hb0;go_wp2_with fail
        go_ret2
        exact ⟨⟨#[48]⟩ ++ ⟨#[46]⟩ ++ fb, nS (by rw [HSO.out]; rfl), by rw [HSO.out, fJ, fJ, HBL.out]; simp, hG14.drewN _⟩
     ·have faa : ¬ fa.toList = [] := fun h => hf0 (TA.out.symm.trans h);have fab : (fa.toList == []) = false := beq_eq_false_iff_ne.2 faa;have fac : fa.toList.isEmpty = false := by cases hx : fa.toList with | nil => exact absurd hx faa | cons _ _ => rfl
      have hsh2 : eZ u = if 400 < (f : List UInt8).length + bb.length then none else some (f ++ if bb = [] then [] else 46 :: bb) := (by have h := HSH.out; rw [if_neg hf0] at h; exact h);have HS2 := yW hsh2; clear hsh2;have HF0 := yW hf0; clear hf0;by_cases hll : 400 < (f : List UInt8).length + bb.length
      ·have hl4 : (400 : Int) < (fa.size : Int) + (fb.size : Int) := (by rw [SZB.out, SZA.out]; omega);have hno : eZ u = none := (by rw [HS2.out, if_pos hll]);have HNO := yW hno; clear hno hll;go_wp2_with fail
       go_ret2
       exact ⟨⟨#[]⟩, nS (by rw [HNO.out]; rfl), by rw [HNO.out]; rfl, hG14.drewN _⟩
      ·have hl4 : ¬ (400 : Int) < (fa.size : Int) + (fb.size : Int) := (by rw [SZB.out, SZA.out]; omega);by_cases hb0 : bb = []
       ·have fba : fb.toList = [] := TB2.out.trans hb0;have fbb : (fb.toList == []) = true := (by rw [fba]; rfl);have fbc : fb.toList.isEmpty = true := (by rw [fba]; rfl);have hsome : eZ u = some (f ++ []) := (by rw [HS2.out, if_neg hll, if_pos hb0]);have HSO := yW hsome; clear hsome hll hb0;go_wp2_with fail
        go_ret2
        exact ⟨fa, nS (by rw [HSO.out]; rfl), by rw [HSO.out]; simp; exact HFL.out, hG14.drewN _⟩
       ·have fba : ¬ fb.toList = [] := fun h => hb0 (TB2.out.symm.trans h);have fbb : (fb.toList == []) = false := beq_eq_false_iff_ne.2 fba;have fbc : fb.toList.isEmpty = false := by cases hx : fb.toList with | nil => exact absurd hx fba | cons _ _ => rfl
        have hsome : eZ u = some (f ++ 46 :: bb) := (by rw [HS2.out, if_neg hll, if_neg hb0]);have HSO := yW hsome; clear hsome hll hb0;go_wp2_with fail
        go_ret2
        exact ⟨fa ++ ⟨#[46]⟩ ++ fb, nS (by rw [HSO.out]; rfl), by rw [HSO.out, fJ, fJ, HBL.out, HFL.out]; simp, hG14.drewN _⟩
  ·rw [decide_eq_false hd];have hno : eZ u = none := if_neg hd;have HNO := yW hno; clear hno hd;go_wp2_with fail
   go_ret2
   exact ⟨⟨#[]⟩, nS (by rw [HNO.out]; rfl), by rw [HNO.out]; rfl, hG11⟩
theorem aEa (i : Nat) : (letter i).length ≤ 1 := by
 unfold letter;rcases Nat.lt_or_ge i 10 with h | h
 ·rcases (by omega : i = 0 ∨ i = 1 ∨ i = 2 ∨ i = 3 ∨ i = 4 ∨ i = 5 ∨ i = 6 ∨ i = 7 ∨ i = 8 ∨ i = 9) with rfl | rfl | rfl | rfl | rfl | rfl | rfl | rfl | rfl | rfl <;> decide
 ·rw [List.getElem?_eq_none (by simpa using h)]; decide
theorem aFt {u : Rat} {o : Option (List UInt8)} (h : eZ u = o) : ∀ d, o = some d → d.length ≤ 401 := by
 intro d hd;subst hd;unfold eZ at h;split at h
 ·unfold pF at h;split at h
  ·cases h
  ·rename_i hl;have e := Option.some.inj h;rw [← e, List.length_append];split
   ·simp; omega
   ·rw [List.length_cons]; omega
 ·cases h
theorem aIM (x : Value) (p : Rat) (w : World) (hT : Tb w) (hPx : Px w) (hx : Nq w x p) (hB : 2000 * sz p + 500000 ≤ LIM) : Calls Tryz.prog 48 #[x] w fun e w' => ∃ t : ByteArray, e = .returned (.string t) ∧ t.data.toList = tK p ∧ Q w w' := by
 obtain ⟨s1, A1, n1, c1, A2, n2, c2, rfl, E1, Z1, O1, hxt, hxb⟩ := hx.form;obtain ⟨w0, hW, hG0, hX0⟩ := pR w s1 (.slice A1 n1 c1) (.slice A2 n2 c2);have HB := yW hB; clear hB;by_cases hp0 : p = 0
 ·have k0 : ((n1 : Int) == 0) = true := (by rw [Z1.out.2 hp0]; rfl);have HS : Hid (tK p = [48]) := if_pos hp0;clear hp0;obtain ⟨x0, x1, x2⟩ := hX0.cells;go_enter Tryz.func48, Tryz.ntmps48
  go_wp2_with fail
  go_ret
  exact ⟨⟨#[48]⟩, rfl, HS.out.symm, hG0⟩
 ·have k0 : ((n1 : Int) == 0) = false := beq_eq_false_iff_ne.2 (fun h => hp0 (Z1.out.1 (by omega)));obtain ⟨i, hi⟩ : ∃ i, kR (gK p) 10 = i := ⟨_, rfl⟩
  have hi10 := aHl (gK p) 10 (by decide);rw [hi] at hi10;obtain ⟨pw10, hpw⟩ : ∃ z : Int, cB i = z := ⟨_, rfl⟩
  obtain ⟨pl, hpl⟩ : ∃ b, dK i = b := ⟨_, rfl⟩
  have hpl2 : pl.data.toList = letter i := (by rw [← hpl]; rfl);have hplz : pl.size ≤ 1 := (by rw [Lib.size_eq, hpl2]; exact aEa i);have hpb : -15 ≤ pw10 ∧ pw10 ≤ 15 := (by rw [← hpw]; unfold cB; omega);have hpb1 := hpb.1; have hpb2 := hpb.2; clear hpb;have hun : rP p = gK p * bE (-pw10) * bE 12 := (by unfold rP; rw [hi, ← hpw]; unfold cB; congr 2; congr 1; omega);have hsh : tK p = match eZ (rP p) with | some d => jF p ++ d ++ letter i | none => aX p := by unfold tK; rw [if_neg hp0, hi]; cases eZ (rP p) <;> rfl
  obtain ⟨o, ho⟩ : ∃ o, eZ (rP p) = o := ⟨_, rfl⟩
  rw [ho] at hsh;rw [hun] at ho;have hol := aFt ho;have hzt := uZ (-pw10);have hzm := gB (gK p) (bE (-pw10));have hza := aCb p;have hBm : 16 * (sz (gK p) + sz (bE (-pw10))) + 100 ≤ LIM := (by have := HB.out; rw [aC] at *; omega);have hBs : 200 * sz (gK p * bE (-pw10)) + 50000 ≤ LIM := (by have := HB.out; rw [aC] at *; omega);have hBp : 64 * sz (gK p) + 2000 ≤ LIM := (by have := HB.out; rw [aC] at *; omega);have hBt : sz p ≤ 1000000000 := (by have := HB.out; rw [aC] at *; omega);have hnn : 0 ≤ gK p * bE (-pw10) := Rat.mul_nonneg (by unfold gK; split <;> grind) (Rat.le_of_lt (aBE _));have hm1 : (-pw10).natAbs ≤ 1000000 := (by omega);have HI := yW hi; clear hi;have HPW := yW hpw; clear hpw;have HPL := yW hpl; clear hpl;have HPL2 := yW hpl2; clear hpl2;have HSH := yW hsh; clear hsh;have HO := yW ho; clear ho;have HOL := yW hol; clear hol;have HP0 := yW hp0; clear hp0;have HNN := yW hnn; clear hnn;clear hun hzt hzm hza;obtain ⟨x0, x1, x2⟩ := hX0.cells;go_enter Tryz.func48, Tryz.ntmps48
  go_wp2_with fail
  clear hW k0;refine (aCc _ p _ (hx.q hG0)).mono ?_;rintro e w1 ⟨v1, rfl, hv1, hq1⟩;have hG1 := hG0.trans hq1;have hX1 := hX0.q hq1;clear x0 x1 x2;obtain ⟨s5, A5, n5, c5, A6, n6, c6, rfl, -⟩ := hv1.form;go_wp2_with fail
  refine (aD9 _ (gK p) _ (hPx.q hG1) hv1 hBp).mono ?_;rintro e w2 ⟨rfl, hq2⟩;have hG2 := hG1.trans hq2;have hX2 := hX1.q hq2;obtain ⟨x0, x1, x2⟩ := hX2.cells;rw [HI.out, HPW.out, HPL.out];go_wp2_with fail
  refine (aCc _ p _ (hx.q hG2)).mono ?_;rintro e w3 ⟨v2, rfl, hv2, hq3⟩;have hG3 := hG2.trans hq3;have hX3 := hX2.q hq3;clear x0 x1 x2;obtain ⟨x0, x1, x2⟩ := hX3.cells;obtain ⟨s7, A7, n7, c7, A8, n8, c8, rfl, -⟩ := hv2.form;go_wp2_with fail
  refine (sI (-pw10) _ hm1).mono ?_;rintro e w4 ⟨v3, rfl, hv3, hq4⟩;have hG4 := hG3.trans hq4;have hX4 := hX3.q hq4;clear x0 x1 x2;obtain ⟨x0, x1, x2⟩ := hX4.cells;obtain ⟨s9, A9, n9, c9, A10, n10, c10, rfl, -⟩ := hv3.form;go_wp2_with fail
  refine (iL _ _ (gK p) (bE (-pw10)) _ (hT.q hG4) (hv2.q hq4) hv3 hBm).mono ?_;rintro e w5 ⟨v4, rfl, hv4, hq5⟩;have hG5 := hG4.trans hq5;have hX5 := hX4.q hq5;clear x0 x1 x2;obtain ⟨x0, x1, x2⟩ := hX5.cells;obtain ⟨s11, A11, n11, c11, A12, n12, c12, rfl, -⟩ := hv4.form;go_wp2_with fail
  refine (aBb _ (gK p * bE (-pw10)) _ (hT.q hG5) hv4 HNN.out hBs).mono ?_;rintro e w6 ⟨td, rfl, htd, hq6⟩;have hG6 := hG5.trans hq6;have hX6 := hX5.q hq6;clear x0 x1 x2;obtain ⟨x0, x1, x2⟩ := hX6.cells;rw [HO.out] at htd ⊢;cases o with
  | none =>
    have hR : tK p = aX p := HSH.out;have HR := yW hR; clear hR;go_wp2_with fail
    refine (nR _ p _ (hx.q hG6) hBt).mono ?_;rintro e w7 ⟨tt, rfl, htt, hq7⟩;have hG7 := hG6.trans hq7;have hX7 := hX6.q hq7;clear x0 x1 x2;have HTT := yW htt; clear htt;go_wp2_with fail
    go_ret
    exact ⟨tt, rfl, HTT.out.trans HR.out.symm, hG7⟩
  | some d =>
    have hR : tK p = jF p ++ d ++ letter i := HSH.out;have HR := yW hR; clear hR;have htd2 : td.data.toList = d := htd;have htz : td.size ≤ 401 := (by rw [Lib.size_eq, htd2]; exact HOL.out d rfl);have HTD := yW htd2; clear htd htd2;go_wp2_with fail
    refine (zM _ p _ (hx.q hG6)).mono ?_;rintro e w7 ⟨ts, rfl, hts, hq7⟩;have hG7 := hG6.trans hq7;have hX7 := hX6.q hq7;clear x0 x1 x2;have hsz1 := aAW hts;have HTS := yW hts; clear hts;go_wp2_with fail
    go_ret
    exact ⟨_, rfl, by rw [fJ, fJ, HTS.out, HTD.out, HPL2.out, HR.out], hG7⟩
end Go.Proofs.YtajbfablmpmgbaaGreatDoor
namespace Go.Proofs.YtajbfablmpmgbaaGreatDoor.K
open Go.RowKit
open Ma Me
def ofL (l : List UInt8) : ByteArray := ⟨l.toArray⟩
theorem pX {t : ByteArray} {l : List UInt8} (h : t.data.toList = l) : t = ofL l := by
 unfold ofL;rw [← h]
theorem aDn (w : World) (hT : Tb w) (hPx : Px w) :
  Calls Tryz.prog 8 #[] w fun e w' => e = .returned (.bool true) ∧ Q w w' := by
 obtain ⟨w0, hw0, hG0⟩ : ∃ x, w = x ∧ Q w x := ⟨w, rfl, Q.refl w⟩
 rw [hw0];go_enter Tryz.func8, Tryz.ntmps8
 go_upto_region 1 with fail
 obtain ⟨x1, Hx1⟩ : ∃ x : Rat, Hid (x = 4700) := ⟨_, yW rfl⟩
 have Z1 : Hid (sz (x1) ≤ 100) := yW (by rw [Hx1.out]; decide +kernel);obtain ⟨x2, Hx2⟩ : ∃ x : Rat, Hid (x = -3/4) := ⟨_, yW rfl⟩
 have Z2 : Hid (sz (x2) ≤ 100) := yW (by rw [Hx2.out]; decide +kernel);obtain ⟨x3, Hx3⟩ : ∃ x : Rat, Hid (x = 0) := ⟨_, yW rfl⟩
 have Z3 : Hid (sz (x3) ≤ 100) := yW (by rw [Hx3.out]; decide +kernel);obtain ⟨x4, Hx4⟩ : ∃ x : Rat, Hid (x = 9) := ⟨_, yW rfl⟩
 have Z4 : Hid (sz (x4) ≤ 100) := yW (by rw [Hx4.out]; decide +kernel);have gs0 := yW (St.nil hG0);clear hG0 ;refine reg [.gen (pT2 (fB x1) (pEq (.int .i64 0))), .gen (pT2 (fB x1) (pEq (.int .i64 0))), gN x1, eI 0, .any, .any, eI 0] [] [⟨4, 28, [.b, .s, .s], zN, .s 5 2⟩] [] gs0 (fun Z => ?_) fun v1 w1 X gs1 => ?_
 ·refine JW.ca (fun Y => (aIL (⟨#[52, 46, 55, 107]⟩ : ByteArray) _ (hT.q Y.q) (hPx.q Y.q) (by decide)).mono (by rintro e W9 ⟨r, rfl, hr, hq9⟩; exact ⟨(.tuple #[r, .int .i64 (tJ ((⟨#[52, 46, 55, 107]⟩ : ByteArray) : ByteArray).data.toList).1]), rfl, ⟨_, _, rfl, (by have h7 := hr; rw [show ((tJ ((⟨#[52, 46, 55, 107]⟩ : ByteArray) : ByteArray).data.toList).2 : Rat) = x1 from by rw [Hx1.out]; decide +kernel] at h7; exact h7), congrArg (Value.int .i64) (by decide +kernel)⟩, hq9⟩)) Z $ JC.m 0 Z $ JW.x2 1 0 Z $ JW.x2 1 1 Z $ JC.al (n := 0) shN Z $ JC.s3 (n := 0) rfl iO Z $ JC.p Z $ Ja.Steps.nil
 rw [X.out.f 4 rfl, X.out.e 6 rfl rfl];clear X gs0;go_upto_region 2 with fail
 refine reg [.gen (pT2 (fB x2) (pEq (.int .i64 0))), .gen (pT2 (fB x2) (pEq (.int .i64 0))), gN x2, eI 0, .any, .any, eI 0] [] [⟨4, 28, [.b, .s, .s], zN, .s 5 2⟩] [] gs1 (fun Z => ?_) fun v2 w2 X gs2 => ?_
 ·refine JW.ca (fun Y => (aHE 6 (-8) _ (hT.q Y.q) (by decide) (by decide) (by decide) (by decide)).mono (by rintro e W9 ⟨r, rfl, hr, hq9⟩; exact ⟨(.tuple #[r, .int .i64 (aR ((6 : Int) : Rat) ((-8 : Int) : Rat)).1]), rfl, ⟨_, _, rfl, (by have h7 := hr; rw [show ((aR ((6 : Int) : Rat) ((-8 : Int) : Rat)).2 : Rat) = x2 from by rw [Hx2.out]; decide +kernel] at h7; exact h7), congrArg (Value.int .i64) (by decide +kernel)⟩, hq9⟩)) Z $ JC.m 0 Z $ JW.x2 1 0 Z $ JW.x2 1 1 Z $ JC.al (n := 1) shN Z $ JC.s3 (n := 1) rfl iO Z $ JC.p Z $ Ja.Steps.nil
 rw [X.out.f 4 rfl, X.out.e 6 rfl rfl];clear X gs1;go_upto_region 3 with fail
 have Z5 : Hid (sz (((0 : Int) : Rat)) ≤ 2) := yW (by decide +kernel);refine reg [gN x1, gN (((0 : Int) : Rat)), .gen (pT2 (fB x3) (pEq (.int .i64 8))), .gen (pT2 (fB x3) (pEq (.int .i64 8))), gN x3, eI 8, .any, .any, eI 8] [] [⟨6, 28, [.b, .s, .s], zN, .s 7 4⟩] [] gs2 (fun Z => ?_) fun v3 w3 X gs3 => ?_
 ·refine JW.ld 0 Z $ JW.ca (fun Y => zG 0 _ (by decide) (by decide)) Z $ JW.ca (fun Y => (aG2 _ _ _ _ _ (hT.q Y.q) (Y.d 0) (Y.d 1) (bb2 Z1 Z5)).mono (by rintro e W9 ⟨r, rfl, hr, hq9⟩; exact ⟨(.tuple #[r, .int .i64 (aR (x1) (((0 : Int) : Rat))).1]), rfl, ⟨_, _, rfl, (by have h7 := hr; rw [show ((aR (x1) (((0 : Int) : Rat))).2 : Rat) = x3 from by rw [Hx1.out, Hx3.out]; decide +kernel] at h7; exact h7), congrArg (Value.int .i64) (by rw [Hx1.out]; decide +kernel)⟩, hq9⟩)) Z $ JC.m 2 Z $ JW.x2 3 0 Z $ JW.x2 3 1 Z $ JC.al (n := 2) shN Z $ JC.s3 (n := 2) rfl iO Z $ JC.p Z $ Ja.Steps.nil
 rw [X.out.f 6 rfl, X.out.e 8 rfl rfl];clear X gs2;go_upto_region 4 with fail
 have Z6 : Hid (sz (((2 : Int) : Rat)) ≤ 2) := yW (by decide +kernel);have Z7 : Hid (sz (((-3 : Int) : Rat)) ≤ 2) := yW (by decide +kernel);refine reg [gN (((2 : Int) : Rat)), gN (((-3 : Int) : Rat)), gS (((2 : Int) : Rat)) (((-3 : Int) : Rat)), gS x3 x4, .any, .any] [] [⟨4, 30, [.b, .s, .s, .b, .s, .s], (zN ++ zN), .s 5 3⟩] [] gs3 (fun Z => ?_) fun v4 w4 X gs4 => ?_
 ·refine JW.ca (fun Y => zG 2 _ (by decide) (by decide)) Z $ JW.ca (fun Y => zG (-3) _ (by decide) (by decide)) Z $ JC.bs 0 1 Z $ JW.ca (fun Y => (aAV _ (((2 : Int) : Rat)) (((-3 : Int) : Rat)) 2 _ (Y.d 2) (bs2 Z6 Z7)).mono (by rintro e W9 ⟨r, rfl, hr, hq9⟩; exact ⟨r, rfl, (by have h7 := hr; rw [show (qlo (kC (2)) (aB (((2 : Int) : Rat)) (((-3 : Int) : Rat))) (aA (((2 : Int) : Rat)) (((-3 : Int) : Rat))) : Rat) = x3 from by rw [Hx3.out]; decide +kernel, show (qhi (kC (2)) (aB (((2 : Int) : Rat)) (((-3 : Int) : Rat))) (aA (((2 : Int) : Rat)) (((-3 : Int) : Rat))) : Rat) = x4 from by rw [Hx4.out]; decide +kernel] at h7; exact h7), hq9⟩)) Z $ JC.al (n := 3) shS Z $ JC.s6 (n := 3) rfl aL Z $ Ja.Steps.nil
 rw [X.out.f 4 rfl];clear X gs3;go_upto_region 5 with fail
 have Z8 : Hid (sz (dn (bG 1) x2) ≤ 10406) := yW (by have h9 := (tO (x2) (gD 1).1).1; have h8 := (gD 1).2; have h0 := Z2.out; omega);refine reg [eI 0, eB true, eB true, eI 0, eB true, eB true, eB true, eI 8, eB true, eB true, eB true, gN x1, .eq (.string ((⟨#[52, 55, 48, 48]⟩ : ByteArray))), eB true, eB true, eB true, gN x1, .eq (.string ((⟨#[52, 46, 55, 107]⟩ : ByteArray))), eB true, eB true, eB true, gN x2, .eq (.string ((⟨#[45, 51, 47, 52]⟩ : ByteArray))), eB true, eB true, eB true, eP ((adr (v4 4))) 0, gN x3, eI 0, eB true, eB true, eB true, eP ((adr (v4 4))) 3, gN x4, .eq (.string ((⟨#[57]⟩ : ByteArray))), eB true, eB true, eB true, gN x2, gN (dn (bG 1) x2), .eq (.string ((⟨#[45, 49]⟩ : ByteArray))), eB true, eB true, eB true] [] [] [] gs4 (fun Z => ?_) fun v5 w5 X gs5 => ?_
 ·refine JC.p Z $ JC.p Z $ JC.p Z $ JC.p Z $ JC.p Z $ JC.p Z $ JC.p Z $ JC.p Z $ JC.p Z $ JC.p Z $ JC.p Z $ JW.ld 0 Z $ JW.ca (fun Y => (nR _ _ _ (Y.d 11) (by have h0 := Z1.out; omega)).mono (by rintro e W9 ⟨t, rfl, ht, hq9⟩; exact ⟨(.string t), rfl, (congrArg Value.string ((pX ht).trans (congrArg ofL (show aX (x1) = [52, 55, 48, 48] by rw [Hx1.out]; decide +kernel)))), hq9⟩)) Z $ ?_;refine JC.o Z ?_ ?_
  ·intro L vals W hL hJ hd K hK;have d12 : vals 12 = .string ((⟨#[52, 55, 48, 48]⟩ : ByteArray)) := hd 12 (by kernel_rfl);generalize vals 12 = u12 at d12 hK ⊢;subst d12;go_simp
   exact hK.out (.bool true) _ _ (by kernel_rfl) rfl (Q.refl _)
  refine JC.p Z $ JC.p Z $ JW.ld 0 Z $ JW.ca (fun Y => (aIM _ x1 _ (hT.q Y.q) (hPx.q Y.q) (Y.d 16) (bb1 Z1)).mono (by rintro e W9 ⟨t, rfl, ht, hq9⟩; exact ⟨(.string t), rfl, (congrArg Value.string ((pX ht).trans (congrArg ofL (show tK (x1) = [52, 46, 55, 107] by rw [Hx1.out]; decide +kernel)))), hq9⟩)) Z $ ?_;refine JC.o Z ?_ ?_
  ·intro L vals W hL hJ hd K hK;have d17 : vals 17 = .string ((⟨#[52, 46, 55, 107]⟩ : ByteArray)) := hd 17 (by kernel_rfl);generalize vals 17 = u17 at d17 hK ⊢;subst d17;go_simp
   exact hK.out (.bool true) _ _ (by kernel_rfl) rfl (Q.refl _)
  refine JC.p Z $ JC.p Z $ JW.ld 1 Z $ JW.ca (fun Y => (nR _ _ _ (Y.d 21) (by have h0 := Z2.out; omega)).mono (by rintro e W9 ⟨t, rfl, ht, hq9⟩; exact ⟨(.string t), rfl, (congrArg Value.string ((pX ht).trans (congrArg ofL (show aX (x2) = [45, 51, 47, 52] by rw [Hx2.out]; decide +kernel)))), hq9⟩)) Z $ ?_;refine JC.o Z ?_ ?_
  ·intro L vals W hL hJ hd K hK;have d22 : vals 22 = .string ((⟨#[45, 51, 47, 52]⟩ : ByteArray)) := hd 22 (by kernel_rfl);generalize vals 22 = u22 at d22 hK ⊢;subst d22;go_simp
   exact hK.out (.bool true) _ _ (by kernel_rfl) rfl (Q.refl _)
  refine JC.p Z $ JC.p Z $ JC.p Z $ JW.pt 3 0 Z $ JW.ca (fun Y => (pU _ _ _ (Y.d 27)).mono (mo1 (congrArg (Value.int .i64) ((show sn x3 = 0 by rw [Hx3.out]; decide +kernel))))) Z $ JC.p Z $ JC.p Z $ JC.p Z $ JC.p Z $ JW.pt 3 3 Z $ JW.ca (fun Y => (nR _ _ _ (Y.d 33) (by have h0 := Z4.out; omega)).mono (by rintro e W9 ⟨t, rfl, ht, hq9⟩; exact ⟨(.string t), rfl, (congrArg Value.string ((pX ht).trans (congrArg ofL (show aX (x4) = [57] by rw [Hx4.out]; decide +kernel)))), hq9⟩)) Z $ ?_;refine JC.o Z ?_ ?_
  ·intro L vals W hL hJ hd K hK;have d34 : vals 34 = .string ((⟨#[57]⟩ : ByteArray)) := hd 34 (by kernel_rfl);generalize vals 34 = u34 at d34 hK ⊢;subst d34;go_simp
   exact hK.out (.bool true) _ _ (by kernel_rfl) rfl (Q.refl _)
  refine JC.p Z $ JC.p Z $ JW.ld 1 Z $ JW.ca (fun Y => aFc _ x2 1 _ (hT.q Y.q) (Y.d 38) (bb1 Z2)) Z $ JW.ca (fun Y => (nR _ _ _ (Y.d 39) (by have h0 := Z8.out; omega)).mono (by rintro e W9 ⟨t, rfl, ht, hq9⟩; exact ⟨(.string t), rfl, (congrArg Value.string ((pX ht).trans (congrArg ofL (show aX (dn (bG 1) x2) = [45, 49] by rw [Hx2.out]; decide +kernel)))), hq9⟩)) Z $ ?_;refine JC.o Z ?_ ?_
  ·intro L vals W hL hJ hd K hK;have d40 : vals 40 = .string ((⟨#[45, 49]⟩ : ByteArray)) := hd 40 (by kernel_rfl);generalize vals 40 = u40 at d40 hK ⊢;subst d40;go_simp
   exact hK.out (.bool true) _ _ (by kernel_rfl) rfl (Q.refl _)
  refine JC.p Z $ JC.p Z $ Ja.Steps.nil
 rw [X.out.e 43 rfl rfl];clear X gs4;go_wp2_with fail
 go_ret
 exact ⟨rfl, by rw [← hw0]; exact gs5.out.q⟩
end Go.Proofs.YtajbfablmpmgbaaGreatDoor.K
namespace Go.Proofs.YtajbfablmpmgbaaGreatDoor
open Go.RowKit
open Ma Me
theorem aCm {l : List UInt8} {i : Nat} {c b : UInt8} (h : c ∉ l.take i) (hb : l[i]? = some b) (hn : b ≠ c) : c ∉ l.take (i + 1) := by
 rw [List.take_add_one, hb];simp only [Option.toList_some, List.mem_append, List.mem_singleton, not_or];exact ⟨h, fun e => hn e.symm⟩
end Go.Proofs.YtajbfablmpmgbaaGreatDoor
namespace Go.Proofs.YtajbfablmpmgbaaGreatDoor.K
open Go.RowKit
open Ma Me
def pY (l : List UInt8) : Bool := l.all (fun c => decide (48 ≤ c.toNat ∧ c.toNat ≤ 57)) && !l.isEmpty
theorem uE {l : List UInt8} : pY l = true ↔ bW l ∧ l ≠ [] := by
 unfold pY bW;cases l <;> simp
theorem aBc {l : List UInt8} {i : Nat} {c : UInt8} {f : UInt8 → Bool} (h : (l.take i).all f = true) (hc : l[i]? = some c) (h1 : f c = true) : (l.take (i + 1)).all f = true := by
 rw [List.take_add_one, hc];simp only [Option.toList_some, List.all_append, h, List.all_cons, h1, List.all_nil, Bool.and_self]
theorem aDo {l : List UInt8} {i : Nat} {c : UInt8} {f : UInt8 → Bool} (hc : l[i]? = some c) (h1 : f c = false) : l.all f = false := by
 have hm := List.mem_of_getElem? hc;cases h : l.all f with
 | false => rfl
 | true => rw [List.all_eq_true.1 h c hm] at h1; cases h1
theorem mX (s : ByteArray) : s.data.toList.length = s.size := by rw [Array.length_toList]; rfl
theorem aCn (s : ByteArray) (w : World) (hs : s.size ≤ 9223372036854775806) : Calls Tryz.prog 93 #[.string s] w fun e w' => e = .returned (.bool (pY s.data.toList)) ∧ Q w w' := by
 go_enter Tryz.func93, Tryz.ntmps93
 go_wp2_with fail
 go_loopw [3] (fun iv w1 => ∃ i : Nat, iv = .int .i64 (i : Int) ∧ i ≤ s.size ∧ Hid ((s.data.toList.take i).all (fun c => decide (48 ≤ c.toNat ∧ c.toNat ≤ 57)) = true) ∧ w1 = w) (fun iv _ => s.size - (intOf iv).toNat)
 case atStart => exact ⟨0, rfl, by omega, yW (by simp), rfl⟩
 case round =>
  obtain ⟨i, rfl, hi, hall, rfl⟩ := hrel;by_cases hp : i < s.size
  ·have h1 : (i : Int) < (s.size : Int) := (by omega);have h0 : (0 : Int) ≤ (i : Int) := (by omega);have hby := byte_at hp;have h2 : (i : Int).toNat = i := rfl;generalize hb : s[i]'hp = b at *
   have HBY := yW hby; clear hby;by_cases hlo : b.toNat < 48
   ·have hl2 : (b.toNat : Int) < 48 := (by omega);have HY := yW (aDo (f := fun c => decide (48 ≤ c.toNat ∧ c.toNat ≤ 57)) HBY.out (decide_eq_false (by omega)));clear hlo;go_wp2_with fail
    go_ret
    exact ⟨by unfold pY; rw [HY.out]; rfl, Q.refl _⟩
   ·by_cases hhi : 57 < b.toNat
    ·have hl2 : ¬ (b.toNat : Int) < 48 := (by omega);have hl3 : (57 : Int) < (b.toNat : Int) := (by omega);have HY := yW (aDo (f := fun c => decide (48 ≤ c.toNat ∧ c.toNat ≤ 57)) HBY.out (decide_eq_false (by omega)));clear hlo hhi;go_wp2_with fail
     go_ret
     exact ⟨by unfold pY; rw [HY.out]; rfl, Q.refl _⟩
    ·have hl2 : ¬ (b.toNat : Int) < 48 := (by omega);have hl3 : ¬ (57 : Int) < (b.toNat : Int) := (by omega);have HN := yW (aBc hall.out HBY.out (decide_eq_true (by omega)));clear hlo hhi;go_wp2_with fail
     exact ⟨⟨i + 1, rfl, by omega, HN, trivial⟩, by simp [intOf]; omega⟩
  ·have h1 : ¬ (i : Int) < (s.size : Int) := (by omega);have hno2 : pY s.data.toList = decide (0 < s.size) := by
    have h := hall.out;rw [List.take_of_length_le (by rw [mX]; omega)] at h;unfold pY;rw [h, Bool.true_and];have := mX s;cases e : s.data.toList with
    | nil => rw [e] at this; simp only [List.length_nil] at this; simp [← this]
    | cons a r => rw [e] at this; simp only [List.length_cons] at this; rw [decide_eq_true (by omega)]; rfl
   have HY := yW hno2; clear hno2;go_wp2_with fail
   go_ret
   exact ⟨by rw [HY.out]; simp, Q.refl _⟩
theorem aAt {l : List UInt8} {c : UInt8} {i : Nat} (h : c ∉ l.take i) (hb : l[i]? = some c) : fU c l = l.take i ∧ aft c l = l.drop (i + 1) ∧ c ∈ l := by
 have hlt : i < l.length := (List.getElem?_eq_some_iff.1 hb).1;have e : l = l.take i ++ c :: l.drop (i + 1) := by
  conv => lhs; rw [← List.take_append_drop i l]
  rw [List.drop_eq_getElem_cons hlt];rw [(List.getElem?_eq_some_iff.1 hb).2]
 obtain ⟨h1, h2⟩ := fore_of' (c := c) (f := l.take i) (l.drop (i + 1)) h;rw [← e] at h1 h2;exact ⟨h1, h2, List.mem_of_getElem? hb⟩
theorem vQ {l : List UInt8} {c : UInt8} (h : c ∉ l) : fU c l = l ∧ aft c l = [] := by
 rcases tF c l with ⟨_, h1, h2⟩ | ⟨h1, _⟩
 ·exact ⟨h1, h2⟩
 ·exact absurd h1 h
theorem aHK (s : ByteArray) (c : UInt8) (bt : Bool) (w : World) (hbt : decide (c ∈ s.data.toList) = bt) (hs : s.size ≤ 9223372036854775806) : Calls Tryz.prog 92 #[.string s, .int .u8 (c.toNat : Int)] w fun e w' =>
  ∃ f r : ByteArray, e = .returned (.tuple #[.string f, .string r, .bool bt]) ∧ f.data.toList = fU c s.data.toList ∧ r.data.toList = aft c s.data.toList ∧ f.size ≤ s.size ∧ r.size ≤ s.size ∧ Q w w' := by
 go_enter Tryz.func92, Tryz.ntmps92
 go_wp2_with fail
 go_loopw [7] (fun iv w1 => ∃ i : Nat, iv = .int .i64 (i : Int) ∧ i ≤ s.size ∧ Hid (c ∉ s.data.toList.take i) ∧ w1 = w) (fun iv _ => s.size - (intOf iv).toNat)
 case atStart => exact ⟨0, rfl, by omega, yW (by simp), rfl⟩
 case round =>
  obtain ⟨i, rfl, hi, hno, rfl⟩ := hrel;by_cases hp : i < s.size
  ·have h1 : (i : Int) < (s.size : Int) := (by omega);have h0 : (0 : Int) ≤ (i : Int) := (by omega);have hby := byte_at hp;have h2 : (i : Int).toNat = i := rfl;generalize hb : s[i]'hp = b at *
   have HBY := yW hby; clear hby;by_cases hc : b = c
   ·subst hc;obtain ⟨e1, e2, e3⟩ := aAt hno.out HBY.out;have hbt1 : bt = true := (by rw [← hbt]; exact decide_eq_true e3);subst hbt1;clear hbt e3;have E1 := yW e1; have E2 := yW e2; clear e1 e2;have h3 : (i : Int) ≤ (s.size : Int) := (by omega);have h4 : (0 : Int) ≤ (i : Int) + 1 := (by omega);have h5 : (i : Int) + 1 ≤ (s.size : Int) := (by omega);go_wp2_with fail
    go_region
    go_wp2_with fail
    refine bodyPost_ret (v := .tuple #[.string (s.extract 0 i), .string (s.extract (i + 1) s.size), .bool true]) (by simp [results, Tryz.results92, go_sem]) rfl ?_;exact ⟨s.extract 0 i, s.extract (i + 1) s.size, rfl, by rw [E1.out]; simp, by rw [E2.out, Lib.extract_to_end], by simp; try omega, by simp, (Q.refl _).drew⟩
   ·have hn : ¬ (b.toNat : Int) = (c.toNat : Int) := fun h => hc (UInt8.toNat_inj.1 (by omega));have HN := yW (aCm hno.out HBY.out hc);clear hc;go_wp2_with fail
    exact ⟨⟨i + 1, rfl, by omega, HN, trivial⟩, by simp [intOf]; omega⟩
  ·have h1 : ¬ (i : Int) < (s.size : Int) := (by omega);have hno2 : c ∉ s.data.toList := by
    have h := hno.out
    rwa [List.take_of_length_le (by rw [mX]; omega)] at h
   have hbt1 : bt = false := (by rw [← hbt]; exact decide_eq_false hno2);subst hbt1;clear hbt;have HY := yW hno2; clear hno2;go_wp2_with fail
   refine bodyPost_ret (v := .tuple #[.string s, .string ⟨#[]⟩, .bool false]) (by simp [results, Tryz.results92, go_sem]) rfl ?_;exact ⟨s, ⟨#[]⟩, rfl, (vQ HY.out).1.symm, (vQ HY.out).2.symm, Nat.le_refl _, Nat.zero_le _, Q.refl _⟩
theorem aGE (s : ByteArray) (sg : Int) (w : World) (hsg : (if eX s.data.toList then -1 else 1) = sg) (_ : s.size ≤ 9223372036854775806) : Calls Tryz.prog 91 #[.string s] w fun e w' =>
  ∃ f : ByteArray, e = .returned (.tuple #[.string f, .int .i64 sg]) ∧ f.data.toList = unsigned s.data.toList ∧ f.size ≤ s.size ∧ Q w w' := by
 by_cases hp : 0 < s.size
 ·have h1 : (0 : Int) < (s.size : Int) := (by omega);have hby := byte_at hp;generalize hb : s[0]'hp = b at *
  have hh : s.data.toList.head? = some b := (by rw [← hby, List.head?_eq_getElem?]);by_cases hc : b = 45
  ·subst hc;have hn : eX s.data.toList = true := (by unfold eX; rw [hh]; rfl);have h3 : (1 : Int) ≤ (s.size : Int) := (by omega);obtain rfl : -1 = sg := (by rw [← hsg, hn]; rfl);clear hsg;have HN := yW hn; clear hn hby hh;go_enter Tryz.func91, Tryz.ntmps91
   go_wp2_with fail
   refine bodyPost_ret (v := .tuple #[.string (s.extract 1 s.size), .int .i64 (-1)]) (by simp [results, Tryz.results91, go_sem]) rfl ?_;exact ⟨_, rfl, by rw [Lib.extract_to_end]; unfold unsigned; rw [if_pos HN.out, List.drop_one], by simp, Q.refl _⟩
  ·have hn : eX s.data.toList = false := (by unfold eX; rw [hh]; simpa using hc);have hn3 : ¬ (b.toNat : Int) = 45 := fun h => hc (UInt8.toNat_inj.1 (by have : (45 : UInt8).toNat = 45 := rfl; omega));obtain rfl : 1 = sg := (by rw [← hsg, hn]; rfl);clear hsg;have HN := yW hn; clear hn hby hh hc;go_enter Tryz.func91, Tryz.ntmps91
   go_wp2_with fail
   refine bodyPost_ret (v := .tuple #[.string s, .int .i64 1]) (by simp [results, Tryz.results91, go_sem]) rfl ?_;exact ⟨_, rfl, by unfold unsigned; rw [HN.out]; rfl, Nat.le_refl _, Q.refl _⟩
 ·have h1 : ¬ (0 : Int) < (s.size : Int) := (by omega);have e : s.data.toList = [] := List.eq_nil_of_length_eq_zero (by rw [mX]; omega);have hn : eX s.data.toList = false := (by rw [e]; rfl);obtain rfl : 1 = sg := (by rw [← hsg, hn]; rfl);clear hsg;have HN := yW hn; clear hn e;go_enter Tryz.func91, Tryz.ntmps91
  go_wp2_with fail
  refine bodyPost_ret (v := .tuple #[.string s, .int .i64 1]) (by simp [results, Tryz.results91, go_sem]) rfl ?_;exact ⟨_, rfl, by unfold unsigned; rw [HN.out]; rfl, Nat.le_refl _, Q.refl _⟩
end Go.Proofs.YtajbfablmpmgbaaGreatDoor.K
