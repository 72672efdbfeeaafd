/- x. Part of the proof: texts Vf2 Vf3 Vf4 Vf6. -/
import Derived.Test.YtgokbhikgdhmpaaGreatDoorQy21
set_option maxHeartbeats 4000000
namespace Go.Proofs.YtgokbhikgdhmpaaGreatDoor
open Go.RowKit
open Ma Me
theorem aFy (N : Nat) : (dec N).length ≤ 20 * dg W64 N + 1 := by
 rw [fF];split
 ·omega
 ·have h : dg 10 N ≤ 20 * dg W64 N := by
   rw [aG (by decide), Nat.pow_mul];exact Nat.lt_of_lt_of_le (aS aB N) (Nat.pow_le_pow_left (by decide) _)
  omega
theorem yZ {t : ByteArray} {p : Rat} (h : t.data.toList = iN p) : t.size ≤ 1 := by
 rw [Lib.size_eq, h];unfold iN;split <;> decide
theorem aAR {t : ByteArray} {N : Nat} (h : t.data.toList = dec N) (hN : dg W64 N ≤ 1000000000) : t.size ≤ 20000000001 := by
 rw [Lib.size_eq, h];have := aFy N;omega
theorem fD (a b : ByteArray) : (a ++ b).data.toList = a.data.toList ++ b.data.toList := by
 simp
theorem aGM {d : Nat} (h : ¬ d = 1) : bt d = d := if_neg h
theorem aDu {a b : ByteArray} {p : Rat} (ha : a.data.toList = iN p) (hb : b.data.toList = dec p.num.natAbs) (hd : p.den = 1) : (a ++ b).data.toList = dS p := by
 rw [fD, ha, hb, vK, if_pos hd, List.append_nil]
theorem aDv {a b c : ByteArray} {p : Rat} (ha : a.data.toList = iN p) (hb : b.data.toList = dec p.num.natAbs) (hc : c.data.toList = dec (bt p.den)) (hd : ¬ p.den = 1) : (a ++ b ++ (⟨#[47]⟩ ++ c)).data.toList = dS p := by
 rw [fD, fD, fD, ha, hb, hc, vK, if_neg hd, aGM hd, List.append_assoc];rfl
set_option maxRecDepth 100000 in
theorem xB (x : Value) (p : Rat) (w : World) (hx : Nq w x p) : Calls Tryz.prog 115 #[x] w fun e w' => ∃ t : ByteArray, e = .returned (.string t) ∧ t.data.toList = iN p ∧ Q w w' := by
 obtain ⟨s1, A1, n1, c1, A2, n2, c2, rfl, E1, Z1, O1, hxt, hxb⟩ := hx.form;obtain ⟨w0, hW, hG0, hX0⟩ := nR w s1 (.slice A1 n1 c1) (.slice A2 n2 c2);have he0 : s1 = decide (p < 0) := E1.out.trans (decide_eq_decide.2 (cB p));by_cases hp : p < 0
 ·have k0 : s1 = true := he0.trans (decide_eq_true hp);have HS := Lib.hid (if_pos hp : iN p = [45]);subst k0;clear he0 hp;obtain ⟨x0, x1, x2⟩ := hX0.cells;go_enter Tryz.func115, Tryz.ntmps115
  go_wp2_with fail
  go_ret
  exact ⟨⟨#[45]⟩, rfl, HS.out.symm, hG0⟩
 ·have k0 : s1 = false := he0.trans (decide_eq_false hp);have HS := Lib.hid (if_neg hp : iN p = []);subst k0;clear he0 hp;obtain ⟨x0, x1, x2⟩ := hX0.cells;go_enter Tryz.func115, Tryz.ntmps115
  go_wp2_with fail
  go_ret
  exact ⟨⟨#[]⟩, rfl, HS.out.symm, hG0⟩
set_option maxRecDepth 100000 in
theorem pV (x : Value) (p : Rat) (w : World) (hx : Nq w x p) (hB : sz p ≤ 1000000000) : Calls Tryz.prog 20 #[x] w fun e w' => ∃ t : ByteArray, e = .returned (.string t) ∧ t.data.toList = dS p ∧ Q w w' := by
 obtain ⟨s1, A1, n1, c1, A2, n2, c2, rfl, E1, Z1, O1, hxt, hxb⟩ := hx.form;obtain ⟨w0, hW, hG0, hX0⟩ := nR w s1 (.slice A1 n1 c1) (.slice A2 n2 c2);have b1 : dg W64 p.num.natAbs ≤ 1000000000 := by have := aM p; omega
 have b2 : dg W64 (bt p.den) ≤ 1000000000 := by have := wZ p; omega
 go_enter Tryz.func20, Tryz.ntmps20
 obtain ⟨x0, x1, x2⟩ := hX0.cells;go_wp2_with fail
 clear hW;clear x0 x1 x2;obtain ⟨x0, x1, x2⟩ := hX0.cells;refine wp_region_held_drew (S := fun W => W.cell? ⟨w.heap.size, 0, none⟩ = some (.bool s1) ∧ W.cell? ⟨w.heap.size, 1, none⟩ = some (.slice A1 n1 c1) ∧ W.cell? ⟨w.heap.size, 2, none⟩ = some (.slice A2 n2 c2)) (by kernel_rfl) (by exact ⟨x0, x1, x2⟩) (fun hHeld => ?_);refine wpAnyH_take (i := 0) (v := ?v0) rfl (by kernel_rfl) (by kernel_rfl) (by kernel_rfl) (fun _ _ _ h => h) (Or.inl ⟨by rfl, ?h0⟩) (by assumption) ?r0
 case h0 =>
  intro W hSw
  (try dsimp only at hSw)
  go_simp
  try (with_reducible rfl)
 try simp only [Act.put]
 try simp only [List.setIfInBounds_toArray]
 try simp only [List.set_cons_zero, List.set_cons_succ]
 refine wpAnyH_take (i := 2) (v := ?v2) rfl (by kernel_rfl) (by kernel_rfl) (by kernel_rfl) (fun _ _ _ h => h) (Or.inl ⟨by rfl, ?h2⟩) (by assumption) ?r2
 case h2 =>
  intro W hSw
  (try dsimp only at hSw)
  go_simp
  try (with_reducible rfl)
 try simp only [Act.put]
 try simp only [List.setIfInBounds_toArray]
 try simp only [List.set_cons_zero, List.set_cons_succ]
 refine wpAnyH_take (i := 3) (v := ?v3) rfl (by kernel_rfl) (by kernel_rfl) (by kernel_rfl) (fun _ _ _ h => h) (Or.inl ⟨by rfl, ?h3⟩) (by assumption) ?r3
 case h3 =>
  intro W hSw
  (try dsimp only at hSw)
  go_simp
  try (with_reducible rfl)
 try simp only [Act.put]
 try simp only [List.setIfInBounds_toArray]
 try simp only [List.set_cons_zero, List.set_cons_succ]
 refine wpAnyH_ready (rs := [1]) (by kernel_rfl) (by decide) (AllReadyH.cons rfl (fun K hK => ?_) AllReadyH.nil);go_simp
 (with_reducible refine (xB _ p _ (hx.q hG0.drew)).mono ?_)
 rintro e w1 ⟨ta, rfl, hta, hq1d⟩;have hq1 : Q w0 w1 := (Q.refl w0).drew.trans hq1d;have hG1 := hG0.trans hq1;have hX1 := hX0.q hq1;obtain ⟨x0, x1, x2⟩ := hX1.cells;have sa := yZ hta;have HTA := Lib.hid hta;clear hta;go_wp2_with fail
 refine hK.out _ _ (by exact ⟨by assumption, by assumption, by assumption⟩) (fun hHeld => ?_);clear hK K;try simp only [Act.put]
 try simp only [List.setIfInBounds_toArray]
 try simp only [List.set_cons_zero, List.set_cons_succ]
 refine wpAnyH_ready (rs := [4]) (by kernel_rfl) (by decide) (AllReadyH.cons rfl (fun K hK => ?_) AllReadyH.nil);go_simp
 (with_reducible refine (rF _ p.num.natAbs _ (hxt.q hG1) b1).mono ?_)
 rintro e w2 ⟨tb, rfl, htb, hq2⟩;have hG2 := hG1.trans hq2;have hX2 := hX1.q hq2;obtain ⟨x0, x1, x2⟩ := hX2.cells;have sb := aAR htb b1;have HTB := Lib.hid htb;clear htb;go_wp2_with fail
 refine hK.out _ _ (by exact ⟨by assumption, by assumption, by assumption⟩) (fun hHeld => ?_);clear hK K;try simp only [Act.put]
 try simp only [List.setIfInBounds_toArray]
 try simp only [List.set_cons_zero, List.set_cons_succ]
 refine wpAnyH_ready (rs := [5]) (by kernel_rfl) (by decide) (AllReadyH.cons rfl (fun K hK => ?_) AllReadyH.nil);go_simp
 rw [if_neg (by have := sa; have := sb; omega)];go_simp
 refine hK.out _ _ (by exact ⟨by assumption, by assumption, by assumption⟩) (fun hHeld => ?_);clear hK K;try simp only [Act.put]
 try simp only [List.setIfInBounds_toArray]
 try simp only [List.set_cons_zero, List.set_cons_succ]
 refine wpAnyH_take (i := 6) (v := ?v6) rfl (by kernel_rfl) (by kernel_rfl) (by kernel_rfl) (fun _ _ _ h => h) (Or.inl ⟨by rfl, ?h6⟩) (by assumption) ?r6
 case h6 =>
  intro W hSw
  (try dsimp only at hSw)
  go_simp
  try (with_reducible rfl)
 try simp only [Act.put]
 try simp only [List.setIfInBounds_toArray]
 try simp only [List.set_cons_zero, List.set_cons_succ]
 refine wpAnyH_done (by kernel_rfl) ?_ _;all_goals
  obtain ⟨x0, x1, x2⟩ := hX2.cells;go_wp2_with fail
  refine (fT _ p _ (hx.q hG2)).mono ?_;rintro e w3 ⟨rfl, hq3⟩;have hG3 := hG2.trans hq3;have hX3 := hX2.q hq3;clear x0 x1 x2;obtain ⟨x0, x1, x2⟩ := hX3.cells;by_cases hd : p.den = 1
  ·rw [decide_eq_true hd];have HD := Lib.hid hd; clear hd;go_wp2_with fail
   go_ret
   exact ⟨_, rfl, aDu HTA.out HTB.out HD.out, hG3⟩
  ·rw [decide_eq_false hd];have HD := Lib.hid hd; clear hd;go_wp2_with fail
   refine (rF _ (bt p.den) _ (hxb.q hG3) b2).mono ?_;rintro e w4 ⟨tc, rfl, htc, hq4⟩;have hG4 := hG3.trans hq4;have hX4 := hX3.q hq4;clear x0 x1 x2;have sc := aAR htc b2; have HTC := Lib.hid htc; clear htc;go_wp2_with fail
   go_ret
   exact ⟨_, rfl, aDv HTA.out HTB.out HTC.out HD.out, hG4⟩
set_option maxRecDepth 100000 in
theorem pW (z : Int) (w : World) (hB : z.natAbs ≤ 1000000) : Calls Tryz.prog 124 #[.int .i64 z] w fun e w' => ∃ r, e = .returned r ∧ Nq w' r (bE z) ∧ Q w w' := by
 obtain ⟨w0, hW, hG0, hR0⟩ : ∃ W, w.alloc (.cells #[.bool false, .slice none 0 0, .slice none 0 0] 25) = W ∧ Q w W ∧ Nb W w.heap.size false (.slice none 0 0) (.slice none 0 0) := ⟨_, rfl, (Q.refl _).alloc _, Nb.new w _ _ _⟩
 by_cases hz0 : z < 0
 ·obtain ⟨k, hk⟩ : ∃ k : Nat, (-z).toNat = k := ⟨_, rfl⟩
  have hzk : z = -(k : Int) := (by omega);have hnz : -z = (k : Int) := (by omega);have hpw : bE z = bE (-(k : Int)) := (by rw [hzk]);rw [hpw];have b1 : k + 9 ≤ LIM := (by rw [aA]; omega);have b2 : -1000000 ≤ z := (by omega);obtain ⟨p1, p2⟩ := pF k;have HP1 := Lib.hid p1; have HP2 := Lib.hid p2; clear p1 p2 hpw hk hzk hB;go_enter Tryz.func124, Tryz.ntmps124
  go_wp2_with fail
  clear hW;refine (gB 1 1 _ rfl (by decide)).mono ?_;rintro e w1 ⟨t2, rfl, ht2, hq1, -⟩;have hG1 := hG0.trans hq1;have hR1 := hR0.q hq1;obtain ⟨A6, n6, c6, rfl⟩ := ht2.form;go_wp2_with fail
  refine (pQ k _ _ rfl b1).mono ?_;rintro e w2 ⟨t3, rfl, ht3, hq2, -⟩;have hG2 := hG1.trans hq2;have hR2 := hR1.q hq2;have fz := hR2.frozen;obtain ⟨r0, r1, r2⟩ := hR2.cells;obtain ⟨A7, n7, c7, rfl⟩ := ht3.form;go_wp2_with fail
  refine (bS false _ _ 1 (10 ^ k) _ (ht2.q hq2) ht3).mono ?_;rintro e w3 ⟨v5, rfl, hv5, hq3⟩;have hG3 := hG2.trans hq3;have hR3 := hR2.q hq3;clear fz r0 r1 r2;have fz := hR3.frozen;obtain ⟨r0, r1, r2⟩ := hR3.cells;obtain ⟨B1, d1, B2, d2, rfl, -, -⟩ := hv5.form;have hv := Nq.made (q := bE (-(k : Int))) hv5 HP1.out (fun _ => HP2.out);generalize (decide (0 < 1) && false) = s4 at *
  generalize dg W64 (if 1 = 0 then 0 else bt (10 ^ k)) = m2 at *
  generalize dg W64 1 = m1 at *
  go_wp2_with fail
  obtain ⟨z0, z1, z2, hvF, hqF⟩ := Nq.store hR3 hv hG3 (Nat.le_refl _);unfold put3 at z0 z1 z2 hvF hqF;refine bodyPost_ret (v := .agg #[.bool s4, .slice B1 m1 d1, .slice B2 m2 d2]) (by simp [results, Tryz.results124, go_sem, z0, z1, z2]) rfl ?_;exact ⟨_, rfl, hvF, hqF⟩
 ·obtain ⟨k, rfl⟩ := Int.eq_ofNat_of_zero_le (show 0 ≤ z by omega);have b1 : k + 9 ≤ LIM := (by rw [aA]; omega);obtain ⟨p1, p2⟩ := pE k;have HP1 := Lib.hid p1; have HP2 := Lib.hid p2; clear p1 p2 hB;go_enter Tryz.func124, Tryz.ntmps124
  go_wp2_with fail
  clear hW;refine (pQ k _ _ rfl b1).mono ?_;rintro e w1 ⟨t3, rfl, ht3, hq1, -⟩;have hG1 := hG0.trans hq1;have hR1 := hR0.q hq1;have fz := hR1.frozen;obtain ⟨r0, r1, r2⟩ := hR1.cells;obtain ⟨A7, n7, c7, rfl⟩ := ht3.form;go_wp2_with fail
  refine (gG false _ (10 ^ k) _ ht3).mono ?_;rintro e w2 ⟨v5, rfl, hv5, hq2⟩;have hG2 := hG1.trans hq2;have hR2 := hR1.q hq2;clear fz r0 r1 r2;have fz := hR2.frozen;obtain ⟨r0, r1, r2⟩ := hR2.cells;obtain ⟨B1, d1, B2, d2, rfl, -, -⟩ := hv5.form;have hv := Nq.int (q := bE (k : Int)) hv5 HP1.out HP2.out;generalize (decide (0 < 10 ^ k) && false) = s4 at *
  generalize dg W64 (10 ^ k) = m1 at *
  generalize dg W64 0 = m2 at *
  go_wp2_with fail
  obtain ⟨z0, z1, z2, hvF, hqF⟩ := Nq.store hR2 hv hG2 (Nat.le_refl _);unfold put3 at z0 z1 z2 hvF hqF;refine bodyPost_ret (v := .agg #[.bool s4, .slice B1 m1 d1, .slice B2 m2 d2]) (by simp [results, Tryz.results124, go_sem, z0, z1, z2]) rfl ?_;exact ⟨_, rfl, hvF, hqF⟩
theorem pX {neg two : Bool} {f b : List UInt8} (_ : Row f) (hz : f = [48]) (h : neg = true ∨ two = true) : aL neg f b two = (6, 0) := if_pos (.inr ⟨hz, h⟩)
theorem aES {neg two : Bool} {f : List UInt8} (hr : Row f) (hz : f = [48] ∧ (neg = true ∨ two = true) → False) : ¬ (¬ Row f ∨ (f = [48] ∧ (neg = true ∨ two = true))) := fun h => by
 rcases h with h | h
 ·exact h hr
 ·exact hz h
theorem aAS {neg : Bool} {f b : List UInt8} (hr : Row f) (hz : f = [48] ∧ (neg = true ∨ true = true) → False) (h : ¬ Row b ∨ b = [48] ∨ b = [49]) : aL neg f b true = (6, 0) := by
 unfold aL;rw [if_neg (aES hr hz), if_pos ⟨rfl, h⟩]
theorem zQ {neg two : Bool} {f b : List UInt8} (hr : Row f) (hz : f = [48] ∧ (neg = true ∨ two = true) → False) (h : two = true → ¬ (¬ Row b ∨ b = [48] ∨ b = [49])) :
  aL neg f b two = if 1000 < f.length ∨ 1000 < b.length then (3, 0) else if two = false then (0, mkQ neg (dv f) 1) else if Nat.gcd (dv f) (dv b) ≠ 1 then (6, 0) else (0, mkQ neg (dv f) (dv b)) := by
 unfold aL;rw [if_neg (aES hr hz), if_neg (fun h1 => h h1.1 h1.2)]
theorem kP {neg two : Bool} {f b : List UInt8} (hl : 1000 < f.length ∨ 1000 < b.length) (hr : Row f) (hz : f = [48] ∧ (neg = true ∨ two = true) → False) (h : two = true → ¬ (¬ Row b ∨ b = [48] ∨ b = [49])) : aL neg f b two = (3, 0) := by
 rw [zQ hr hz h, if_pos hl]
theorem tO {neg : Bool} {f b : List UInt8} (hr : Row f) (hz : f = [48] ∧ (neg = true ∨ false = true) → False) (h1 : ¬ 1000 < f.length) (h2 : ¬ 1000 < b.length) : aL neg f b false = (0, mkQ neg (dv f) 1) := by
 rw [zQ hr hz (fun h => by cases h), if_neg (fun h => h.elim h1 h2), if_pos rfl]
theorem yD {neg : Bool} {f b : List UInt8} (hr : Row f) (hz : f = [48] ∧ (neg = true ∨ true = true) → False) (h : ¬ (¬ Row b ∨ b = [48] ∨ b = [49])) (h1 : ¬ 1000 < f.length) (h2 : ¬ 1000 < b.length) (hg : Nat.gcd (dv f) (dv b) = 1) : aL neg f b true = (0, mkQ neg (dv f) (dv b)) := by
 rw [zQ hr hz (fun _ => h), if_neg (fun h => h.elim h1 h2), if_neg (by decide), if_neg (fun h => h hg)]
theorem aAT {neg : Bool} {f b : List UInt8} (hr : Row f) (hz : f = [48] ∧ (neg = true ∨ true = true) → False) (h : ¬ (¬ Row b ∨ b = [48] ∨ b = [49])) (h1 : ¬ 1000 < f.length) (h2 : ¬ 1000 < b.length) (hg : ¬ Nat.gcd (dv f) (dv b) = 1) : aL neg f b true = (6, 0) := by
 rw [zQ hr hz (fun _ => h), if_neg (fun h => h.elim h1 h2), if_neg (by decide), if_pos hg]
set_option maxRecDepth 100000 in
theorem aBH (s : ByteArray) (w : World) (hT : Tb w) (hs : s.size ≤ 9223372036854775806) : Calls Tryz.prog 16 #[.string s] w fun e w' => ∃ r, e = .returned (.tuple #[r, .int .i64 (aZ s.data.toList).1]) ∧ Nq w' r (aZ s.data.toList).2 ∧ Q w w' := by
 obtain ⟨w0, hW, hG0, hR0⟩ : ∃ W, w.alloc (.cells #[.bool false, .slice none 0 0, .slice none 0 0] 25) = W ∧ Q w W ∧ Nb W w.heap.size false (.slice none 0 0) (.slice none 0 0) := ⟨_, rfl, (Q.refl _).alloc _, Nb.new w _ _ _⟩
 obtain ⟨neg, hneg⟩ : ∃ neg, eF s.data.toList = neg := ⟨_, rfl⟩
 obtain ⟨two, htwo⟩ : ∃ two, decide (47 ∈ unsigned s.data.toList) = two := ⟨_, rfl⟩
 obtain ⟨f, hf⟩ : ∃ f, fJ 47 (unsigned s.data.toList) = f := ⟨_, rfl⟩
 obtain ⟨b, hb⟩ : ∃ b, aft 47 (unsigned s.data.toList) = b := ⟨_, rfl⟩
 have hb2 : two = false → b = [] := fun h => by rw [← hb]; exact (qR (of_decide_eq_false (htwo.trans h))).2
 have hP : aZ s.data.toList = aL neg f b two := by unfold aZ; rw [hneg, htwo, hf, hb]
 have HP := Lib.hid hP; have HN := Lib.hid hneg; have HT2 := Lib.hid htwo; have HF := Lib.hid hf; have HBb := Lib.hid hb; have HB2 := Lib.hid hb2;clear hP hneg htwo hf hb hb2;go_enter Tryz.func16, Tryz.ntmps16
 go_wp2_with fail
 clear hW;refine (tL s _).mono ?_;rintro e w90 ⟨a, rfl, ha, hsz, rfl⟩;rw [HN.out];have HA := Lib.hid ha; clear ha;go_wp2_with fail
 refine (aER a 47 _ (by omega)).mono ?_;rintro e w1 ⟨fa, fb, rfl, hfa, hfb, hq1⟩;have hG1 := hG0.trans hq1;have hR1 := hR0.q hq1;rw [HA.out] at hfa hfb ⊢;rw [HT2.out];rw [HF.out] at hfa;rw [HBb.out] at hfb;have la : fa.size = f.length := by rw [Lib.size_eq, hfa]
 have lb : fb.size = b.length := by rw [Lib.size_eq, hfb]
 have ta : fa.toList = f := (ByteArray.toList_eq _).trans hfa;have tb : fb.toList = b := (ByteArray.toList_eq _).trans hfb;have HFA := Lib.hid hfa; have HFB := Lib.hid hfb; have LA := Lib.hid la; have LB := Lib.hid lb; have TA := Lib.hid ta; have TB := Lib.hid tb; clear hfa hfb la lb ta tb;go_wp2_with fail
 refine (aBG fa _).mono ?_;rintro e w2 ⟨rfl, hq2⟩;have hG2 := hG1.trans hq2;have hR2 := hR1.q hq2;rw [HFA.out];by_cases hr : Row f
 ·rw [decide_eq_true hr];by_cases hz : f = [48]
  ·have tz0 : fa.toList = [48] := TA.out.trans hz;have HZ := Lib.hid hz; clear hz;cases neg
   ·cases two
    ·have hbn : b = [] := HB2.out rfl;have hfb0 : ¬ (1000 : Int) < (fb.size : Int) := (by rw [LB.out, hbn]; decide);have HBN := Lib.hid hbn; clear hbn;by_cases hl : 1000 < f.length
     ·have hl2 : (1000 : Int) < (fa.size : Int) := (by rw [LA.out]; omega);have HLL := Lib.hid hl; clear hl;have fz := hR2.frozen;obtain ⟨r0, r1, r2⟩ := hR2.cells;go_wp2_with fail
      have hv := dE w2;obtain ⟨z0, z1, z2, hvF, hqF⟩ := Nq.store hR2 hv hG2 (Nat.le_refl _);unfold put3 at z0 z1 z2 hvF hqF;refine bodyPost_ret (v := .tuple #[.agg #[.bool false, .slice none 0 0, .slice none 0 0], .int .i64 3]) (by simp [results, Tryz.results16, go_sem, z0, z1, z2]) rfl ?_;have hres : aL false f b false = ((3 : Int), (0 : Rat)) := kP (.inl HLL.out) hr (fun h => by rcases h.2 with h | h <;> cases h) (fun h => by cases h);rw [HP.out, hres];exact ⟨_, rfl, hvF, hqF⟩
     ·have hl2 : ¬ (1000 : Int) < (fa.size : Int) := (by rw [LA.out]; omega);have hsf : fa.size + 100 ≤ LIM := (by rw [LA.out, aA]; omega);have HLL := Lib.hid hl; clear hl;go_wp2_with fail
      refine (iH fa _ (by rw [HFA.out]; exact hr.1) hsf).mono ?_;rintro e w3 ⟨t1, rfl, ht1, hq3, -⟩;have hG3 := hG2.trans hq3;have hR3 := hR2.q hq3;have fz := hR3.frozen;obtain ⟨r0, r1, r2⟩ := hR3.cells;rw [HFA.out] at ht1;obtain ⟨A5, n5, c5, rfl⟩ := ht1.form;go_wp2_with fail
      refine (gG false _ (dv f) _ ht1).mono ?_;rintro e w4 ⟨v5, rfl, hv5, hq4⟩;have hG4 := hG3.trans hq4;have hR4 := hR3.q hq4;clear fz r0 r1 r2;have fz := hR4.frozen;obtain ⟨r0, r1, r2⟩ := hR4.cells;obtain ⟨B1, d1, B2, d2, rfl, -, -⟩ := hv5.form;have hv := Nq.int (q := mkQ false (dv f) 1) hv5 ((fK (by decide) (Nat.gcd_one_right _)).1) ((fK (by decide) (Nat.gcd_one_right _)).2);generalize (decide (0 < dv f) && false) = s4 at *
      generalize dg W64 (dv f) = m1 at *
      generalize dg W64 0 = m2 at *
      go_wp2_with fail
      obtain ⟨z0, z1, z2, hvF, hqF⟩ := Nq.store hR4 hv hG4 (Nat.le_refl _);unfold put3 at z0 z1 z2 hvF hqF;refine bodyPost_ret (v := .tuple #[.agg #[.bool s4, .slice B1 m1 d1, .slice B2 m2 d2], .int .i64 0]) (by simp [results, Tryz.results16, go_sem, z0, z1, z2]) rfl ?_;have hres : aL false f b false = ((0 : Int), (mkQ false (dv f) 1 : Rat)) := tO hr (fun h => by rcases h.2 with h | h <;> cases h) HLL.out (by rw [HBN.out]; decide);rw [HP.out, hres];exact ⟨_, rfl, hvF, hqF⟩
    ·have fz := hR2.frozen;obtain ⟨r0, r1, r2⟩ := hR2.cells;go_wp2_with fail
     have hv := dE w2;obtain ⟨z0, z1, z2, hvF, hqF⟩ := Nq.store hR2 hv hG2 (Nat.le_refl _);unfold put3 at z0 z1 z2 hvF hqF;refine bodyPost_ret (v := .tuple #[.agg #[.bool false, .slice none 0 0, .slice none 0 0], .int .i64 6]) (by simp [results, Tryz.results16, go_sem, z0, z1, z2]) rfl ?_;have hres : aL false f b true = ((6 : Int), (0 : Rat)) := pX hr HZ.out (.inr rfl);rw [HP.out, hres];exact ⟨_, rfl, hvF, hqF⟩
   ·have fz := hR2.frozen;obtain ⟨r0, r1, r2⟩ := hR2.cells;go_wp2_with fail
    have hv := dE w2;obtain ⟨z0, z1, z2, hvF, hqF⟩ := Nq.store hR2 hv hG2 (Nat.le_refl _);unfold put3 at z0 z1 z2 hvF hqF;refine bodyPost_ret (v := .tuple #[.agg #[.bool false, .slice none 0 0, .slice none 0 0], .int .i64 6]) (by simp [results, Tryz.results16, go_sem, z0, z1, z2]) rfl ?_;have hres : aL true f b two = ((6 : Int), (0 : Rat)) := pX hr HZ.out (.inl rfl);rw [HP.out, hres];exact ⟨_, rfl, hvF, hqF⟩
  ·have tz0 : ¬ fa.toList = [48] := fun h => hz (TA.out.symm.trans h);have tc : (fa.toList == [48]) = false := beq_eq_false_iff_ne.2 tz0;have HZ := Lib.hid hz; clear hz;cases two
   ·have hbn : b = [] := HB2.out rfl;have hfb0 : ¬ (1000 : Int) < (fb.size : Int) := (by rw [LB.out, hbn]; decide);have HBN := Lib.hid hbn; clear hbn;by_cases hl : 1000 < f.length
    ·have hl2 : (1000 : Int) < (fa.size : Int) := (by rw [LA.out]; omega);have HLL := Lib.hid hl; clear hl;have fz := hR2.frozen;obtain ⟨r0, r1, r2⟩ := hR2.cells;go_wp2_with fail
     have hv := dE w2;obtain ⟨z0, z1, z2, hvF, hqF⟩ := Nq.store hR2 hv hG2 (Nat.le_refl _);unfold put3 at z0 z1 z2 hvF hqF;refine bodyPost_ret (v := .tuple #[.agg #[.bool false, .slice none 0 0, .slice none 0 0], .int .i64 3]) (by simp [results, Tryz.results16, go_sem, z0, z1, z2]) rfl ?_;have hres : aL neg f b false = ((3 : Int), (0 : Rat)) := kP (.inl HLL.out) hr (fun h => HZ.out h.1) (fun h => by cases h);rw [HP.out, hres];exact ⟨_, rfl, hvF, hqF⟩
    ·have hl2 : ¬ (1000 : Int) < (fa.size : Int) := (by rw [LA.out]; omega);have hsf : fa.size + 100 ≤ LIM := (by rw [LA.out, aA]; omega);have HLL := Lib.hid hl; clear hl;go_wp2_with fail
     refine (iH fa _ (by rw [HFA.out]; exact hr.1) hsf).mono ?_;rintro e w3 ⟨t1, rfl, ht1, hq3, -⟩;have hG3 := hG2.trans hq3;have hR3 := hR2.q hq3;have fz := hR3.frozen;obtain ⟨r0, r1, r2⟩ := hR3.cells;rw [HFA.out] at ht1;obtain ⟨A5, n5, c5, rfl⟩ := ht1.form;go_wp2_with fail
     refine (gG neg _ (dv f) _ ht1).mono ?_;rintro e w4 ⟨v5, rfl, hv5, hq4⟩;have hG4 := hG3.trans hq4;have hR4 := hR3.q hq4;clear fz r0 r1 r2;have fz := hR4.frozen;obtain ⟨r0, r1, r2⟩ := hR4.cells;obtain ⟨B1, d1, B2, d2, rfl, -, -⟩ := hv5.form;have hv := Nq.int (q := mkQ neg (dv f) 1) hv5 ((fK (by decide) (Nat.gcd_one_right _)).1) ((fK (by decide) (Nat.gcd_one_right _)).2);generalize (decide (0 < dv f) && neg) = s4 at *
     generalize dg W64 (dv f) = m1 at *
     generalize dg W64 0 = m2 at *
     go_wp2_with fail
     obtain ⟨z0, z1, z2, hvF, hqF⟩ := Nq.store hR4 hv hG4 (Nat.le_refl _);unfold put3 at z0 z1 z2 hvF hqF;refine bodyPost_ret (v := .tuple #[.agg #[.bool s4, .slice B1 m1 d1, .slice B2 m2 d2], .int .i64 0]) (by simp [results, Tryz.results16, go_sem, z0, z1, z2]) rfl ?_;have hres : aL neg f b false = ((0 : Int), (mkQ neg (dv f) 1 : Rat)) := tO hr (fun h => HZ.out h.1) HLL.out (by rw [HBN.out]; decide);rw [HP.out, hres];exact ⟨_, rfl, hvF, hqF⟩
   ·go_wp2_with fail
    refine (aBG fb _).mono ?_;rintro e w3 ⟨rfl, hq3⟩;have hG3 := hG2.trans hq3;have hR3 := hR2.q hq3;rw [HFB.out];by_cases hr2 : Row b
    ·rw [decide_eq_true hr2];by_cases hb0 : b = [48]
     ·have tb0 : fb.toList = [48] := TB.out.trans hb0;have HB0 := Lib.hid hb0; clear hb0;have fz := hR3.frozen;obtain ⟨r0, r1, r2⟩ := hR3.cells;go_wp2_with fail
      have hv := dE w3;obtain ⟨z0, z1, z2, hvF, hqF⟩ := Nq.store hR3 hv hG3 (Nat.le_refl _);unfold put3 at z0 z1 z2 hvF hqF;refine bodyPost_ret (v := .tuple #[.agg #[.bool false, .slice none 0 0, .slice none 0 0], .int .i64 6]) (by simp [results, Tryz.results16, go_sem, z0, z1, z2]) rfl ?_;have hres : aL neg f b true = ((6 : Int), (0 : Rat)) := aAS hr (fun h => HZ.out h.1) (.inr (.inl HB0.out));rw [HP.out, hres];exact ⟨_, rfl, hvF, hqF⟩
     ·have tb0 : ¬ fb.toList = [48] := fun h => hb0 (TB.out.symm.trans h);have tc0 : (fb.toList == [48]) = false := beq_eq_false_iff_ne.2 tb0;by_cases hb1 : b = [49]
      ·have tb1 : fb.toList = [49] := TB.out.trans hb1;have HB0 := Lib.hid hb1; clear hb1 hb0 tb0;have fz := hR3.frozen;obtain ⟨r0, r1, r2⟩ := hR3.cells;go_wp2_with fail
       have hv := dE w3;obtain ⟨z0, z1, z2, hvF, hqF⟩ := Nq.store hR3 hv hG3 (Nat.le_refl _);unfold put3 at z0 z1 z2 hvF hqF;refine bodyPost_ret (v := .tuple #[.agg #[.bool false, .slice none 0 0, .slice none 0 0], .int .i64 6]) (by simp [results, Tryz.results16, go_sem, z0, z1, z2]) rfl ?_;have hres : aL neg f b true = ((6 : Int), (0 : Rat)) := aAS hr (fun h => HZ.out h.1) (.inr (.inr HB0.out));rw [HP.out, hres];exact ⟨_, rfl, hvF, hqF⟩
      ·have tb1 : ¬ fb.toList = [49] := fun h => hb1 (TB.out.symm.trans h);have tc1 : (fb.toList == [49]) = false := beq_eq_false_iff_ne.2 tb1;have hok : Hid (¬ (¬ Row b ∨ b = [48] ∨ b = [49])) := fun h => h.elim (fun h => h hr2) (fun h => h.elim hb0 hb1);have HB00 := Lib.hid hb0; clear hb0 hb1;by_cases hl : 1000 < f.length
       ·have hl2 : (1000 : Int) < (fa.size : Int) := (by rw [LA.out]; omega);have HLL := Lib.hid hl; clear hl;have fz := hR3.frozen;obtain ⟨r0, r1, r2⟩ := hR3.cells;go_wp2_with fail
        have hv := dE w3;obtain ⟨z0, z1, z2, hvF, hqF⟩ := Nq.store hR3 hv hG3 (Nat.le_refl _);unfold put3 at z0 z1 z2 hvF hqF;refine bodyPost_ret (v := .tuple #[.agg #[.bool false, .slice none 0 0, .slice none 0 0], .int .i64 3]) (by simp [results, Tryz.results16, go_sem, z0, z1, z2]) rfl ?_;have hres : aL neg f b true = ((3 : Int), (0 : Rat)) := kP (.inl HLL.out) hr (fun h => HZ.out h.1) (fun _ => hok.out);rw [HP.out, hres];exact ⟨_, rfl, hvF, hqF⟩
       ·have hl2 : ¬ (1000 : Int) < (fa.size : Int) := (by rw [LA.out]; omega);have hsf : fa.size + 100 ≤ LIM := (by rw [LA.out, aA]; omega);have HLL := Lib.hid hl; clear hl;by_cases hl3 : 1000 < b.length
        ·have hl4 : (1000 : Int) < (fb.size : Int) := (by rw [LB.out]; omega);have HL3 := Lib.hid hl3; clear hl3;have fz := hR3.frozen;obtain ⟨r0, r1, r2⟩ := hR3.cells;go_wp2_with fail
         have hv := dE w3;obtain ⟨z0, z1, z2, hvF, hqF⟩ := Nq.store hR3 hv hG3 (Nat.le_refl _);unfold put3 at z0 z1 z2 hvF hqF;refine bodyPost_ret (v := .tuple #[.agg #[.bool false, .slice none 0 0, .slice none 0 0], .int .i64 3]) (by simp [results, Tryz.results16, go_sem, z0, z1, z2]) rfl ?_;have hres : aL neg f b true = ((3 : Int), (0 : Rat)) := kP (.inr HL3.out) hr (fun h => HZ.out h.1) (fun _ => hok.out);rw [HP.out, hres];exact ⟨_, rfl, hvF, hqF⟩
        ·have hl4 : ¬ (1000 : Int) < (fb.size : Int) := (by rw [LB.out]; omega);have hsb : fb.size + 100 ≤ LIM := (by rw [LB.out, aA]; omega);have HL3 := Lib.hid hl3; clear hl3;go_wp2_with fail
         refine (iH fa _ (by rw [HFA.out]; exact hr.1) hsf).mono ?_;rintro e w4 ⟨t1, rfl, ht1, hq4, -⟩;have hG4 := hG3.trans hq4;have hR4 := hR3.q hq4;rw [HFA.out] at ht1;obtain ⟨A5, n5, c5, rfl⟩ := ht1.form;go_wp2_with fail
         refine (iH fb _ (by rw [HFB.out]; exact hr2.1) hsb).mono ?_;rintro e w5 ⟨t2, rfl, ht2, hq5, -⟩;have hG5 := hG4.trans hq5;have hR5 := hR4.q hq5;rw [HFB.out] at ht2;obtain ⟨A6, n6, c6, rfl⟩ := ht2.form;have d1 := aB7 hr.1 (Nat.le_of_not_lt HLL.out);have d2 := aB7 hr2.1 (Nat.le_of_not_lt HL3.out);have hp1 : 0 < dv f := Row.pos hr (HZ.out);have hp2 : 0 < dv b := Row.pos hr2 HB00.out;have hbd : 8 * (dg W64 (dv f) + dg W64 (dv b)) + 80 ≤ LIM := (by rw [aA]; omega);clear d1 d2;go_wp2_with fail
         refine (kM (dv f) (dv b) _ _ _ (hT.q hG5) (ht1.q hq5) ht2 hp1 hp2 hbd).mono ?_;rintro e w6 ⟨t3, rfl, ht3, hq6, -⟩;have hG6 := hG5.trans hq6;have hR6 := hR5.q hq6;obtain ⟨A7, n7, c7, rfl⟩ := ht3.form;go_wp2_with fail
         refine (pJ _ _ _ ht3).mono ?_;rintro e w91 ⟨rfl, rfl⟩;by_cases hg : Nat.gcd (dv f) (dv b) = 1
         ·rw [decide_eq_true hg];have HGC := Lib.hid hg; clear hg;go_wp2_with fail
          refine (bS neg _ _ (dv f) (dv b) _ ((ht1.q hq5).q hq6) (ht2.q hq6)).mono ?_;rintro e w7 ⟨v5, rfl, hv5, hq7⟩;have hG7 := hG6.trans hq7;have hR7 := hR6.q hq7;have fz := hR7.frozen;obtain ⟨r0, r1, r2⟩ := hR7.cells;obtain ⟨B1, d1, B2, d2, rfl, -, -⟩ := hv5.form;have hv := Nq.made (q := mkQ neg (dv f) (dv b)) hv5 ((fK hp2 HGC.out).1) (fun _ => (fK hp2 HGC.out).2);generalize (decide (0 < dv f) && neg) = s4 at *
          generalize dg W64 (if dv f = 0 then 0 else bt (dv b)) = m2 at *
          generalize dg W64 (dv f) = m1 at *
          go_wp2_with fail
          obtain ⟨z0, z1, z2, hvF, hqF⟩ := Nq.store hR7 hv hG7 (Nat.le_refl _);unfold put3 at z0 z1 z2 hvF hqF;refine bodyPost_ret (v := .tuple #[.agg #[.bool s4, .slice B1 m1 d1, .slice B2 m2 d2], .int .i64 0]) (by simp [results, Tryz.results16, go_sem, z0, z1, z2]) rfl ?_;have hres : aL neg f b true = ((0 : Int), (mkQ neg (dv f) (dv b) : Rat)) := yD hr (fun h => HZ.out h.1) hok.out HLL.out HL3.out HGC.out;rw [HP.out, hres];exact ⟨_, rfl, hvF, hqF⟩
         ·rw [decide_eq_false hg];have HGC := Lib.hid hg; clear hg;have fz := hR6.frozen;obtain ⟨r0, r1, r2⟩ := hR6.cells;go_wp2_with fail
          have hv := dE w6;obtain ⟨z0, z1, z2, hvF, hqF⟩ := Nq.store hR6 hv hG6 (Nat.le_refl _);unfold put3 at z0 z1 z2 hvF hqF;refine bodyPost_ret (v := .tuple #[.agg #[.bool false, .slice none 0 0, .slice none 0 0], .int .i64 6]) (by simp [results, Tryz.results16, go_sem, z0, z1, z2]) rfl ?_;have hres : aL neg f b true = ((6 : Int), (0 : Rat)) := aAT hr (fun h => HZ.out h.1) hok.out HLL.out HL3.out HGC.out;rw [HP.out, hres];exact ⟨_, rfl, hvF, hqF⟩
    ·rw [decide_eq_false hr2];have fz := hR3.frozen;obtain ⟨r0, r1, r2⟩ := hR3.cells;go_wp2_with fail
     have hv := dE w3;obtain ⟨z0, z1, z2, hvF, hqF⟩ := Nq.store hR3 hv hG3 (Nat.le_refl _);unfold put3 at z0 z1 z2 hvF hqF;refine bodyPost_ret (v := .tuple #[.agg #[.bool false, .slice none 0 0, .slice none 0 0], .int .i64 6]) (by simp [results, Tryz.results16, go_sem, z0, z1, z2]) rfl ?_;have hres : aL neg f b true = ((6 : Int), (0 : Rat)) := aAS hr (fun h => HZ.out h.1) (.inl hr2);rw [HP.out, hres];exact ⟨_, rfl, hvF, hqF⟩
 ·rw [decide_eq_false hr];have fz := hR2.frozen;obtain ⟨r0, r1, r2⟩ := hR2.cells;go_wp2_with fail
  have hv := dE w2;obtain ⟨z0, z1, z2, hvF, hqF⟩ := Nq.store hR2 hv hG2 (Nat.le_refl _);unfold put3 at z0 z1 z2 hvF hqF;refine bodyPost_ret (v := .tuple #[.agg #[.bool false, .slice none 0 0, .slice none 0 0], .int .i64 6]) (by simp [results, Tryz.results16, go_sem, z0, z1, z2]) rfl ?_;have hres : aL neg f b two = ((6 : Int), (0 : Rat)) := if_pos (.inl hr);rw [HP.out, hres];exact ⟨_, rfl, hvF, hqF⟩
def dF (k : Nat) : ByteArray := ⟨(letter k).toArray⟩
def bT (k : Nat) : Int := 3 * (k : Int) - 15
def aGN (k : Nat) : Value := .agg #[.string (dF k), .int .i64 (bT k)]
def iI : Array Value := #[.string (dF 0), .int .i64 (bT 0), .string (dF 1), .int .i64 (bT 1), .string (dF 2), .int .i64 (bT 2), .string (dF 3), .int .i64 (bT 3), .string (dF 4), .int .i64 (bT 4),
 .string (dF 5), .int .i64 (bT 5), .string (dF 6), .int .i64 (bT 6), .string (dF 7), .int .i64 (bT 7), .string (dF 8), .int .i64 (bT 8), .string (dF 9), .int .i64 (bT 9)]
def Px (w : World) : Prop := ∃ t fr, w.heap[(0 : Nat)]? = some (.cells iI t fr)
theorem Px.q {w w' : World} (h : Px w) (hq : Q w w') : Px w' := by
 obtain ⟨t, fr, h⟩ := h;have hlt : (0 : Nat) < w.heap.size := by
  rcases Nat.lt_or_ge (0 : Nat) w.heap.size with hlt | hge
  ·exact hlt
  ·rw [Array.getElem?_eq_none hge] at h; cases h
 exact ⟨t, fr, (hq.heap hlt).trans h⟩
theorem aBI : (Tryz.prog.info? 176).map (·.size) = some iI.size := by kernel_rfl
theorem vS (k : Nat) (hk : k < 10) (w : World) : (Instr.index 176 (.agg iI) (.int .i64 (k : Int))).run Tryz.prog w = .ok (aGN k) w := by
 rcases (by omega : k = 0 ∨ k = 1 ∨ k = 2 ∨ k = 3 ∨ k = 4 ∨ k = 5 ∨ k = 6 ∨ k = 7 ∨ k = 8 ∨ k = 9) with h | h | h | h | h | h | h | h | h | h
 ·rw [h]; kernel_rfl
 ·rw [h]; kernel_rfl
 ·rw [h]; kernel_rfl
 ·rw [h]; kernel_rfl
 ·rw [h]; kernel_rfl
 ·rw [h]; kernel_rfl
 ·rw [h]; kernel_rfl
 ·rw [h]; kernel_rfl
 ·rw [h]; kernel_rfl
 ·rw [h]; kernel_rfl
theorem aDw {a : Value} {x y : Int} (h : x = y) : Ending.returned (.tuple #[a, .int .i64 x]) = .returned (.tuple #[a, .int .i64 y]) := by rw [h]
def Sf (l : List UInt8) (j : Nat) : Prop := j ≠ 5 ∧ Lib.hasSuffix l (letter j) = true
theorem aBJ (l : List UInt8) (c : UInt8) : Lib.hasSuffix l [c] = true ↔ l.getLast? = some c := by
 unfold Lib.hasSuffix;rw [List.isSuffixOf_iff_suffix];constructor
 ·rintro ⟨t, rfl⟩; simp
 ·intro h;obtain ⟨t, ht⟩ := List.getLast?_eq_some_iff.1 h;exact ⟨t, ht.symm⟩
theorem aEE {l : List UInt8} {c : UInt8} (h : Lib.hasSuffix l [c] = true) : Lib.trimSuffix l [c] = l.dropLast := by
 unfold Lib.trimSuffix;rw [if_pos h, List.dropLast_eq_take];rfl
theorem aCm {c : UInt8} {p : Int} (h : pfx c = some p) : ∃ k, k < 10 ∧ k ≠ 5 ∧ letter k = [c] ∧ p = bT k := by
 unfold pfx at h;split at h
 ·cases h; rename_i e; subst e; exact ⟨0, by decide, by decide, rfl, rfl⟩
 split at h
 ·cases h; rename_i e; subst e; exact ⟨1, by decide, by decide, rfl, rfl⟩
 split at h
 ·cases h; rename_i e; subst e; exact ⟨2, by decide, by decide, rfl, rfl⟩
 split at h
 ·cases h; rename_i e; subst e; exact ⟨3, by decide, by decide, rfl, rfl⟩
 split at h
 ·cases h; rename_i e; subst e; exact ⟨4, by decide, by decide, rfl, rfl⟩
 split at h
 ·cases h; rename_i e; subst e; exact ⟨6, by decide, by decide, rfl, rfl⟩
 split at h
 ·cases h; rename_i e; subst e; exact ⟨7, by decide, by decide, rfl, rfl⟩
 split at h
 ·cases h; rename_i e; subst e; exact ⟨8, by decide, by decide, rfl, rfl⟩
 split at h
 ·cases h; rename_i e; subst e; exact ⟨9, by decide, by decide, rfl, rfl⟩
 ·cases h
theorem aDx {l : List UInt8} (h : ∀ j, j < 10 → ¬ Sf l j) : jR l = (l, 0) := by
 unfold jR;cases hl : l.getLast? with
 | none => rfl
 | some c =>
   cases hp : pfx c with
   | none => simp only [hp]
   | some p =>
     obtain ⟨k, hk, h5, hc, -⟩ := aCm hp;exact absurd ⟨h5, by rw [hc]; exact (aBJ l c).2 hl⟩ (h k hk)
theorem xC {k : Nat} (hk : k < 10) (h5 : k ≠ 5) : ∃ c, letter k = [c] ∧ pfx c = some (bT k) := by
 rcases (by omega : k = 0 ∨ k = 1 ∨ k = 2 ∨ k = 3 ∨ k = 4 ∨ k = 6 ∨ k = 7 ∨ k = 8 ∨ k = 9) with rfl | rfl | rfl | rfl | rfl | rfl | rfl | rfl | rfl
 ·exact ⟨102, rfl, rfl⟩
 ·exact ⟨112, rfl, rfl⟩
 ·exact ⟨110, rfl, rfl⟩
 ·exact ⟨117, rfl, rfl⟩
 ·exact ⟨109, rfl, rfl⟩
 ·exact ⟨107, rfl, rfl⟩
 ·exact ⟨77, rfl, rfl⟩
 ·exact ⟨71, rfl, rfl⟩
 ·exact ⟨84, rfl, rfl⟩
theorem aDy {l : List UInt8} {k : Nat} (hk : k < 10) (h : Sf l k) : jR l = (Lib.trimSuffix l (letter k), bT k) := by
 obtain ⟨c, hc, hp⟩ := xC hk h.1;have h2 := h.2;rw [hc] at h2 ⊢;rw [aEE h2];unfold jR;rw [(aBJ l c).1 h2];simp only [hp]
theorem aBK {k : Nat} (hk : k < 10) (h5 : k ≠ 5) : ((dF k).toList == []) = false := by
 obtain ⟨c, hc, -⟩ := xC hk h5;rw [ByteArray.toList_eq];have : (dF k).data.toList = [c] := hc;rw [this]; rfl
def aFz (l : List UInt8) (w : World) (e : Ending) (w' : World) : Prop := ∃ a : ByteArray, e = .returned (.tuple #[.string a, .int .i64 (jR l).2]) ∧ a.data.toList = (jR l).1 ∧ Q w w'
set_option maxRecDepth 100000 in
theorem aBl (s : ByteArray) (w : World) (hp : Px w) (hs : s.size ≤ 9223372036854775806) : Calls Tryz.prog 122 #[.string s] w (aFz s.data.toList w) := by
 obtain ⟨t, fr, hp⟩ := hp;go_enter Tryz.func122, Tryz.ntmps122
 go_wp2_with (refine wpList_load_row rfl 176 (.global 0) rfl 0 rfl t iI fr _ hp Tryz.underlying176 rfl aBI ?_)
 clear hp;go_loopw [9] (fun i wr => ∃ k : Nat, k ≤ 10 ∧ i = .int .i64 (k : Int) ∧ (∀ j, j < k → ¬ Sf s.data.toList j) ∧ Q w wr) (fun i _ => 10 - (intOf i).toNat)
 case atStart => exact ⟨0, Nat.zero_le _, rfl, fun j hj => absurd hj (Nat.not_lt_zero j), Q.refl _⟩
 case round =>
  obtain ⟨k, hk, rfl, hno, hq⟩ := hrel;by_cases hlt : k < 10
  ·have hix := vS k hlt;obtain ⟨pl, hpl⟩ : ∃ pl, dF k = pl := ⟨_, rfl⟩
   obtain ⟨pp, hpp⟩ : ∃ pp, bT k = pp := ⟨_, rfl⟩
   have hix2 : ∀ w, (Instr.index 176 (.agg iI) (.int .i64 (k : Int))).run Tryz.prog w = .ok (.agg #[.string pl, .int .i64 pp]) w := fun w => by
    rw [vS k hlt w, ← hpl, ← hpp]; rfl
   have HNO := Lib.hid hno;have HPL := Lib.hid hpl; have HPP := Lib.hid hpp;clear hix hno hpl hpp;have hqq := hq.alloc (.cells #[.string pl, .int .i64 pp] 175);go_wp2_with fail
   refine (Tryz.strings_CutSuffix s pl _ (by omega)).mono ?_;rintro e w1 ⟨rfl, rfl⟩;have hrel : Lib.hasSuffix s.data.toList pl.data.toList = Lib.hasSuffix s.data.toList (letter k) := (by rw [← HPL.out]; rfl);have hrel2 : Lib.trimSuffix s.data.toList pl.data.toList = Lib.trimSuffix s.data.toList (letter k) := (by rw [← HPL.out]; rfl);rw [hrel, hrel2];clear hrel hrel2;obtain ⟨ta, hta⟩ : ∃ ta : ByteArray, ⟨(Lib.trimSuffix s.data.toList (letter k)).toArray⟩ = ta := ⟨_, rfl⟩
   rw [hta];have HTA := Lib.hid hta; clear hta;by_cases hsf : Lib.hasSuffix s.data.toList (letter k) = true
   ·rw [hsf];by_cases h5 : k = 5
    ·have hpl5 : (pl.toList == []) = true := (by rw [← HPL.out, h5, ByteArray.toList_eq]; rfl);have hpl6 : pl.toList = [] := (by rw [← HPL.out, h5, ByteArray.toList_eq]; rfl);have H5 := Lib.hid h5; have HSF := Lib.hid hsf; clear h5 hsf;go_wp2_with fail
     go_roundw
     case rel => exact ⟨k + 1, by omega, by go_num, by
      intro j hj hS;rcases (by omega : j < k ∨ j = k) with h | h
      ·exact HNO.out j h hS
      ·subst h; exact hS.1 H5.out, hqq⟩
     case measure => simp [intOf]; omega
    ·have hpl5 : (pl.toList == []) = false := (by rw [← HPL.out]; exact aBK hlt h5);have hpl6 : ¬ pl.toList = [] := (by rw [← HPL.out]; exact ne_of_beq_false (aBK hlt h5));have hres := aDy hlt (l := s.data.toList) ⟨h5, hsf⟩;have HR := Lib.hid hres; have HSF := Lib.hid hsf; clear hres h5 hsf;go_wp2_with fail
     go_quiet (fail)
     go_wp2_with fail
     go_ret2
     exact ⟨ta, aDw (by rw [HR.out, ← HPP.out]), by rw [HR.out, ← HTA.out], hqq.drewN _⟩
   ·have hsf2 : Lib.hasSuffix s.data.toList (letter k) = false := (by simpa using hsf);rw [hsf2];have HSF := Lib.hid hsf; clear hsf hsf2;go_wp2_with fail
    go_roundw
    case rel => exact ⟨k + 1, by omega, by go_num, by
     intro j hj hS;rcases (by omega : j < k ∨ j = k) with h | h
     ·exact HNO.out j h hS
     ·subst h; exact HSF.out hS.2, hqq⟩
    case measure => simp [intOf]; omega
  ·have hk10 : k = 10 := (by omega);have hres := aDx (l := s.data.toList) (fun j hj => hno j (by omega));have HR := Lib.hid hres; clear hres hno;go_wp2_with fail
   go_ret2
   exact ⟨s, aDw (by rw [HR.out]), by rw [HR.out], hq⟩
theorem aGp {a b : ByteArray} {x y : Int} (h1 : a = b) (h2 : x = y) : Ending.returned (.tuple #[.string a, .int .i64 x]) = .returned (.tuple #[.string b, .int .i64 y]) := by rw [h1, h2]
def Eb (w : World) (g : Nat) (pl : ByteArray) (pp : Int) : Prop := w.heap[g]? = some (.cells #[.string pl, .int .i64 pp] 175 (0, 0))
theorem Eb.cells {w : World} {g : Nat} {pl : ByteArray} {pp : Int} (h : Eb w g pl pp) : w.cell? ⟨g, 0, none⟩ = some (.string pl) ∧ w.cell? ⟨g, 1, none⟩ = some (.int .i64 pp) := by
 unfold Eb at h;constructor <;> simp [World.cell?, h]
theorem Eb.frozen {w : World} {g : Nat} {pl : ByteArray} {pp : Int} (h : Eb w g pl pp) (i : Nat) : w.frozen? ⟨g, i, none⟩ = false := by
 unfold Eb at h;simp [World.frozen?, h]
theorem Eb.lt {w : World} {g : Nat} {pl : ByteArray} {pp : Int} (h : Eb w g pl pp) : g < w.heap.size := by
 rcases Nat.lt_or_ge g w.heap.size with hlt | hge
 ·exact hlt
 ·unfold Eb at h; rw [Array.getElem?_eq_none hge] at h; cases h
theorem Eb.q {w w' : World} {g : Nat} {pl : ByteArray} {pp : Int} (h : Eb w g pl pp) (hq : Q w w') : Eb w' g pl pp := (hq.heap h.lt).trans h
def Pb (w : World) (g : Nat) (j : Nat) : Prop := Eb w g (dF j) (bT j)
theorem Pb.cells {w : World} {g j : Nat} (h : Pb w g j) : w.cell? ⟨g, 0, none⟩ = some (.string (dF j)) ∧ w.cell? ⟨g, 1, none⟩ = some (.int .i64 (bT j)) := Eb.cells h
theorem Pb.frozen {w : World} {g j : Nat} (h : Pb w g j) (i : Nat) : w.frozen? ⟨g, i, none⟩ = false := Eb.frozen h i
theorem Pb.lt {w : World} {g j : Nat} (h : Pb w g j) : g < w.heap.size := Eb.lt h
theorem Pb.q {w w' : World} {g j : Nat} (h : Pb w g j) (hq : Q w w') : Pb w' g j := Eb.q h hq
theorem Pb.put {w : World} {g j k : Nat} {pl : ByteArray} {pp : Int} (h : Pb w g j) (h1 : dF k = pl) (h2 : bT k = pp) : Pb ((w.setCell ⟨g, 0, none⟩ (.string pl)).setCell ⟨g, 1, none⟩ (.int .i64 pp)) g k := by
 subst h1 h2;unfold Pb Eb at h ⊢;simp [World.setCell, Array.getElem?_modify, h]
theorem Nb.far {w : World} {g b : Nat} {s : Bool} {t u x y : Value} (h : Nb w g s t u) (hne : g ≠ b) : Nb ((w.setCell ⟨b, 0, none⟩ x).setCell ⟨b, 1, none⟩ y) g s t u := by
 unfold Nb at h ⊢;rw [Below.heap_setCell _ _ _ _ hne, Below.heap_setCell _ _ _ _ hne];exact h
theorem aFA {w w' : World} {g : Nat} {o : Obj} (h : w.heap[g]? = some o) (hq : Q w w') (hg : g < w.heap.size) : w'.heap[g]? = some o := (hq.heap hg).trans h
set_option maxRecDepth 100000 in
theorem aCn (x : Value) (p : Rat) (w : World) (hPx : Px w) (hx : Nq w x p) (hB : 64 * sz p + 2000 ≤ LIM) : Calls Tryz.prog 126 #[x] w fun e w' => e = .returned (.tuple #[.string (dF (jS p 10)), .int .i64 (bT (jS p 10))]) ∧ Q w w' := by
 obtain ⟨s1, A1, n1, c1, A2, n2, c2, rfl, E1, Z1, O1, hxt, hxb⟩ := hx.form;obtain ⟨w0, hW, hG0, hX0⟩ := nR w s1 (.slice A1 n1 c1) (.slice A2 n2 c2);have HB := Lib.hid hB; clear hB;obtain ⟨t, fr, hp⟩ := hPx.q hG0;have g0 : w0.cell? ⟨0, 0, none⟩ = some (.string (dF 0)) := by rw [cell_of_row w0 _ 0 _ t fr hp]; rfl
 have g1 : w0.cell? ⟨0, 1, none⟩ = some (.int .i64 (bT 0)) := by rw [cell_of_row w0 _ 1 _ t fr hp]; rfl
 have glt : (0 : Nat) < w0.heap.size := World.block_lt_of_cell? w0 _ g0;have hs0 : w.heap.size ≠ w0.heap.size := Nat.ne_of_lt hX0.lt;have hs0le : w.heap.size ≤ w0.heap.size := Nat.le_of_lt hX0.lt;go_enter Tryz.func126, Tryz.ntmps126
 go_wp2_with (refine wpList_load_row rfl 176 (.global 0) rfl 0 rfl t iI fr _ (aFA hp ((Q.refl _).alloc _) glt) Tryz.underlying176 rfl aBI ?_)
 clear hW;have hb0 : Pb (w0.alloc (.cells #[.string (dF 0), .int .i64 (bT 0)] 175)) w0.heap.size 0 := heap_alloc_new w0 _;have hX1 := hX0.q ((Q.refl w0).alloc (.cells #[.string (dF 0), .int .i64 (bT 0)] 175));have hG1 := hG0.alloc (.cells #[.string (dF 0), .int .i64 (bT 0)] 175);clear g0 g1 hp;go_loopw [10] (fun i wr => ∃ k : Nat, k ≤ 10 ∧ i = .int .i64 (k : Int) ∧ Pb wr w0.heap.size (jS p k) ∧ Nb wr w.heap.size s1 (.slice A1 n1 c1) (.slice A2 n2 c2) ∧ Q w wr) (fun i _ => 10 - (intOf i).toNat)
 case atStart => exact ⟨0, Nat.zero_le _, rfl, hb0, hX1, hG1⟩
 case round =>
  obtain ⟨k, hk, rfl, hbk, hXk, hGk⟩ := hrel;clear hb0 hX1 hG1;obtain ⟨j, hj⟩ : ∃ j, jS p k = j := ⟨_, rfl⟩
  rw [hj] at hbk;have HJ := Lib.hid hj; clear hj;by_cases hlt : k < 10
  ·obtain ⟨pl, hpl⟩ : ∃ pl, dF k = pl := ⟨_, rfl⟩
   obtain ⟨pp, hpp⟩ : ∃ pp, bT k = pp := ⟨_, rfl⟩
   have hix2 : ∀ w, (Instr.index 176 (.agg iI) (.int .i64 (k : Int))).run Tryz.prog w = .ok (.agg #[.string pl, .int .i64 pp]) w := fun w => by
    rw [vS k hlt w, ← hpl, ← hpp]; rfl
   have hp15 : pp.natAbs ≤ 15 := (by rw [← hpp]; unfold bT; omega);have hp1m : pp.natAbs ≤ 1000000 := (by omega);have hcb : 64 * (sz p + sz (bE pp)) + 400 ≤ LIM := (by have h1 := sU pp; have := HB.out; rw [aA] at *; omega);obtain ⟨c, hc⟩ : ∃ c, rc p (bE pp) = c := ⟨_, rfl⟩
   have hcge := zP p (bE pp);rw [hc] at hcge;have hstep : jS p (k + 1) = if 0 ≤ c then k else j := by
    have h1 : jS p (k + 1) = if bE (3 * (k : Int) - 15) ≤ p then k else jS p k := rfl;rw [h1, HJ.out];have h2 : bE (3 * (k : Int) - 15) = bE pp := (by rw [← hpp]; rfl);rw [h2];by_cases h : 0 ≤ c
    ·rw [if_pos h, if_pos (hcge.1 h)]
    ·rw [if_neg h, if_neg (fun h3 => h (hcge.2 h3))]
   have HC := Lib.hid hc; have HPL := Lib.hid hpl; have HPP := Lib.hid hpp; have HST := Lib.hid hstep;clear hc hpl hpp hstep hcge hp15;obtain ⟨w2, hw2⟩ : ∃ w2, wr.alloc (.cells #[.string pl, .int .i64 pp] 175) = w2 := ⟨_, rfl⟩
   have hqa : Q wr w2 := (by rw [← hw2]; exact (Q.refl _).alloc _);have hEn : w2.heap[wr.heap.size]? = some (.cells #[.string pl, .int .i64 pp] 175 (0, 0)) := (by rw [← hw2]; exact heap_alloc_new wr _);have hne : wr.heap.size ≠ w0.heap.size := (by have := hbk.lt; omega);go_wp2_with fail
   clear hw2 hix2;have hX2 := hXk.q hqa;have hb2 := hbk.q hqa;have hG2 := hGk.trans hqa;have hE2 : Eb w2 wr.heap.size pl pp := hEn;clear hEn;obtain ⟨x0, x1, x2⟩ := hX2.cells;obtain ⟨f0, f1⟩ := hE2.cells
   go_region_held3 (fun W => W.cell? ⟨w.heap.size, 0, none⟩ = some (.bool s1) ∧ W.cell? ⟨w.heap.size, 1, none⟩ = some (.slice A1 n1 c1) ∧ W.cell? ⟨w.heap.size, 2, none⟩ = some (.slice A2 n2 c2) ∧ W.cell? ⟨wr.heap.size, 1, none⟩ = some (.int .i64 pp)) (first | exact ⟨x0, x1, x2, f1⟩ | exact ⟨by assumption, by assumption, by assumption, by assumption⟩ | go_keep) (first
    | (go_at_call 33; (with_reducible refine (oJ _ _ p (bE pp) _ (hx.q hG3) htv hcb).mono ?_); rintro e w4 ⟨rfl, hq4⟩; rw [HC.out]; have hG4 := hG3.trans hq4; have hX4 := hX3.q hq4; have hE4 := hE3.q hq4; have hb4 := hb3.q hq4; obtain ⟨x0, x1, x2⟩ := hX4.cells; obtain ⟨f0, f1⟩ := hE4.cells)
    | (go_at_call 124; (with_reducible refine (pW pp _ hp1m).mono ?_); rintro e w3 ⟨tv, rfl, htv, hq3d⟩; have hq3 : Q w2 w3 := (Q.refl w2).drew.trans hq3d; obtain ⟨s7, A7, n7, c7, A8, n8, c8, rfl, -⟩ := htv.form; have hG3 := hG2.trans hq3; have hX3 := hX2.q hq3; have hE3 := hE2.q hq3; have hb3 := hb2.q hq3; obtain ⟨x0, x1, x2⟩ := hX3.cells; obtain ⟨f0, f1⟩ := hE3.cells))
   all_goals
    obtain ⟨f0, f1⟩ := hE4.cells;obtain ⟨r0, r1⟩ := hb4.cells;have fz := hb4.frozen;by_cases hc0 : 0 ≤ c
    ·have hres : jS p (k + 1) = k := (by rw [HST.out, if_pos hc0]);have HRES := Lib.hid hres; clear hres;go_wp2_with fail
     go_roundw
     case rel => exact ⟨k + 1, by omega, by go_num, by rw [HRES.out]; exact hb4.put HPL.out HPP.out, hX4.far hs0, (hG4.setCell (by exact hs0le) _).setCell (by exact hs0le) _⟩
     case measure => simp [intOf]; omega
    ·have hres : jS p (k + 1) = j := (by rw [HST.out, if_neg hc0]);have HRES := Lib.hid hres; clear hres;go_wp2_with fail
     go_roundw
     case rel => exact ⟨k + 1, by omega, by go_num, by rw [HRES.out]; exact hb4, hX4, hG4⟩
     case measure => simp [intOf]; omega
  ·have hk10 : k = 10 := (by omega);subst hk10;obtain ⟨pl, hpl⟩ : ∃ pl, dF j = pl := ⟨_, rfl⟩
   obtain ⟨pp, hpp⟩ : ∃ pp, bT j = pp := ⟨_, rfl⟩
   obtain ⟨r0, r1⟩ := hbk.cells;rw [hpl] at r0;rw [hpp] at r1;have HPL := Lib.hid hpl; have HPP := Lib.hid hpp;clear hpl hpp;go_wp2_with fail
   go_quiet (fail)
   go_wp2_with fail
   go_ret2
   exact ⟨aGp (by rw [HJ.out, HPL.out]) (by rw [HJ.out, HPP.out]), hGk.drewN _⟩
end Go.Proofs.YtgokbhikgdhmpaaGreatDoor
