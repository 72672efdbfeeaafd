/- ValueParses: for every string the law holds: what Check, Parse, Text and Digits return is what the document says. No condition.. Part of the proof: texts Kb1 Kb2 Kf1. -/
import Derived.Deep.Cut
import Derived.Deep.CutBlock
import Derived.Test.YtgpacgadpnpjjaaGreatDoorQp04
import Derived.Test.YtgpacgadpnpjjaaGreatDoorQp06
import Derived.Test.YtgpacgadpnpjjaaGreatDoorQp17
import Derived.Test.YtgpacgadpnpjjaaGreatDoorQp20
import Derived.Test.YtgpacgadpnpjjaaGreatDoorQp21
set_option maxHeartbeats 4000000
namespace Go.Proofs.YtgpacgadpnpjjaaGreatDoor.K
open Go.RowKit
open Ma Me
theorem gU (x : Value) (N : Nat) (b : Bool) (w : World) (hx : Nr w x N) (hb : decide (N = 1) = b) : Calls Tryz.prog 83 #[x] w fun e w' => e = .returned (.bool b) ∧ w = w' := by
 subst hb;exact aFI x N w hx
theorem aCK {s : Int} {M N : Nat} {q : Rat} (hq : q * (N : Rat) = (s : Rat) * (M : Rat)) (hN : s ≠ 0 → 0 < N) (h : s = 0 ∨ M = 0) (h0 : N = 0 → q = 0) : q = 0 := by
 rcases Nat.eq_zero_or_pos N with h1 | h1
 ·exact h0 h1
 have e : q * (N : Rat) = 0 := by
  rw [hq];rcases h with rfl | rfl
  ·exact Rat.zero_mul _
  ·exact Rat.mul_zero _
 rcases Rat.mul_eq_zero.1 e with h | h
 ·exact h
 ·have : ((N : Int) : Rat) = ((0 : Int) : Rat) := h;have := Rat.intCast_inj.1 this;omega
theorem aBx {s : Int} {M N : Nat} {q : Rat} (hs : s = -1 ∨ s = 1) (hM : 0 < M) (hN : 0 < N) (hq : q * (N : Rat) = (s : Rat) * (M : Rat)) :
  s = sn q ∧ q.num.natAbs = M / Nat.gcd M N ∧ q.den = N / Nat.gcd M N := by
 obtain ⟨d, hd⟩ : ∃ d, d = Nat.gcd M N := ⟨_, rfl⟩
 have hd0 : 0 < d := by rw [hd]; exact Nat.gcd_pos_of_pos_right _ hN
 obtain ⟨m, hm⟩ : d ∣ M := by rw [hd]; exact Nat.gcd_dvd_left _ _
 obtain ⟨n, hn⟩ : d ∣ N := by rw [hd]; exact Nat.gcd_dvd_right _ _
 have hm1 : M / d = m := by rw [hm]; exact Nat.mul_div_cancel_left _ hd0
 have hn1 : N / d = n := by rw [hn]; exact Nat.mul_div_cancel_left _ hd0
 have hc : Nat.Coprime m n := by
  have := Nat.coprime_div_gcd_div_gcd (m := M) (n := N) (by rw [← hd]; exact hd0)
  rwa [← hd, hm1, hn1] at this
 have hn0 : 0 < n := by
  rcases Nat.eq_zero_or_pos n with h | h
  ·rw [h] at hn; omega
  ·exact h
 have hm0 : 0 < m := by
  rcases Nat.eq_zero_or_pos m with h | h
  ·rw [h] at hm; omega
  ·exact h
 have key : (s * (m : Int)) * q.den = q.num * n := by
  have h1 : q * (N : Rat) = (s : Rat) * (M : Rat) := hq;have h3 : q * (q.den : Rat) = (q.num : Rat) := (rF q).symm;have h4 : (q.num : Rat) * (N : Rat) = (s : Rat) * (M : Rat) * (q.den : Rat) := by
   rw [← h3, ← h1]; grind
  have h5 : ((q.num * (N : Int) : Int) : Rat) = ((s * (M : Int) * (q.den : Int) : Int) : Rat) := by
   rw [Rat.intCast_mul, Rat.intCast_mul, Rat.intCast_mul]; exact h4
  have h6 := Rat.intCast_inj.1 h5;rw [hm, hn] at h6;have h7 : (d : Int) * (q.num * n) = (d : Int) * ((s * (m : Int)) * q.den) := by
   simp only [Int.natCast_mul] at h6;rw [show (d : Int) * (q.num * n) = q.num * ((d : Int) * n) from by grind, h6]; grind
  exact (Int.eq_of_mul_eq_mul_left (by omega) h7).symm
 have hnat : (s * (m : Int)).natAbs = m := by rcases hs with rfl | rfl <;> simp
 obtain ⟨h1, h2⟩ := yE (q := q) (a := s * (m : Int)) (b := n) hn0 (by rw [hnat]; exact hc) key;rw [← hd, hm1, hn1];refine ⟨?_, by rw [h1, hnat], h2⟩;rw [uF, h1];rcases hs with rfl | rfl
 ·rw [Int.sign_eq_neg_one_of_neg]; omega
 ·rw [Int.sign_eq_one_of_pos]; omega
theorem jS {w a : World} {g : Nat} {row : List Value} {A1 A2 : Option Addr} {n1 c1 n2 c2 M N : Nat} {s : Int} {q : Rat} (hR : Bx w g 32 row) (hl : row.length = 3) (hrow : ∀ x ∈ row, ∀ z, x ≠ .int .u64 z) (hx : Nr w (.slice A1 n1 c1) M) (hy : Nr w (.slice A2 n2 c2) N) (hs : s = sn q) (hM : q.num.natAbs = M) (hN : q.den = N) (hQ : Q a w) (hg : a.heap.size ≤ g) : Bx (((w.setCell ⟨g, 0, none⟩ (.int .i64 s)).setCell ⟨g, 1, none⟩ (.slice A1 n1 c1)).setCell ⟨g, 2, none⟩ (.slice A2 n2 c2)) g 32 [.int .i64 s, .slice A1 n1 c1, .slice A2 n2 c2] ∧ Rq (((w.setCell ⟨g, 0, none⟩ (.int .i64 s)).setCell ⟨g, 1, none⟩ (.slice A1 n1 c1)).setCell ⟨g, 2, none⟩ (.slice A2 n2 c2)) (.agg #[.int .i64 s, .slice A1 n1 c1, .slice A2 n2 c2]) q ∧
  Q a (((w.setCell ⟨g, 0, none⟩ (.int .i64 s)).setCell ⟨g, 1, none⟩ (.slice A1 n1 c1)).setCell ⟨g, 2, none⟩ (.slice A2 n2 c2)) := by
 have h1 : Bx (gJ w g 0 [.int .i64 s, .slice A1 n1 c1, .slice A2 n2 c2]) g 32 _ := hR.put hl;have h2 : Rq w (.agg #[.int .i64 s, .slice A1 n1 c1, .slice A2 n2 c2]) q := ⟨_, _, _, _, _, _, by rw [hs], by rw [hM]; exact hx, fun _ => by rw [hN]; exact hy⟩
 exact ⟨h1, h2.ap ⟨fun k hk => jE (l := [.int .i64 s, .slice A1 n1 c1, .slice A2 n2 c2]) hk, kK (l := [.int .i64 s, .slice A1 n1 c1, .slice A2 n2 c2]), _, _, hR, by decide, hrow⟩, lX (l := [.int .i64 s, .slice A1 n1 c1, .slice A2 n2 c2]) hQ hg⟩
theorem iN : ∀ x ∈ ([.int .i64 0, .slice none 0 0, .slice none 0 0] : List Value), ∀ z, x ≠ .int .u64 z := by
 intro x hx z;simp at hx;rcases hx with rfl | rfl | rfl <;> simp
theorem zU (s : Int) (x y : Value) (M N : Nat) (q : Rat) (w : World) (hx : Nr w x M) (hy : Nr w y N) (hN : s ≠ 0 → 0 < N) (hs : s = -1 ∨ s = 0 ∨ s = 1) (hq : q * (N : Rat) = (s : Rat) * (M : Rat)) (h0 : N = 0 → q = 0) (lM : 31 * dg B30 M + 80 ≤ LIM) (lN : 31 * dg B30 N + 80 ≤ LIM) :
  Calls Tryz.prog 80 #[.int .i64 s, x, y] w fun e w' => ∃ r, e = .returned r ∧ Rq w' r q ∧ Q w w' := by
 obtain ⟨W, hW, hG0, hR0⟩ := yR w 32 [.int .i64 0, .slice none 0 0, .slice none 0 0];have hG0' : w.heap.size < W.heap.size := hR0.lt;by_cases hz : s = 0 ∨ M = 0
 ·obtain rfl := aCK hq hN hz h0;clear hq h0 hN lM lN hs;have fz := hR0.frozen;have r0 := hR0.cell 0 rfl;have r1 := hR0.cell 1 rfl;have r2 := hR0.cell 2 rfl;have hb9 := hR0.put (l := [.int .i64 0, .slice none 0 0, .slice none 0 0]) rfl;have hq9 := lX (g := w.heap.size) (i := 0) (l := [.int .i64 0, .slice none 0 0, .slice none 0 0]) hG0 (Nat.le_refl _);simp only [gJ, Nat.reduceAdd] at hb9 hq9;have z0 := hb9.cell 0 rfl;have z1 := hb9.cell 1 rfl;have z2 := hb9.cell 2 rfl;clear hb9 hR0;by_cases hs0 : s = 0
  ·subst hs0;clear hz;go_enter Tryz.func80, Tryz.ntmps80
   go_wp2_with fail
   refine bodyPost_ret (v := .agg #[.int .i64 0, .slice none 0 0, .slice none 0 0]) (by simp [results, Tryz.results80, go_sem, z0, z1, z2]) rfl ?_;exact ⟨_, rfl, Rq.none _, hq9⟩
  ·have hM : M = 0 := (by omega);subst hM;have hsb : (s == 0) = false := (by simp [hs0]);obtain ⟨A, c, xs, rfl, hc, rx, wx, hv⟩ := hx;have hl := wx.len aF;rw [hv, aQ] at hl;have hx0 : xs = [] := List.eq_nil_of_length_eq_zero hl;subst hx0;clear hz hs0 rx wx hv hl;go_enter Tryz.func80, Tryz.ntmps80
   go_wp2_with fail
   refine bodyPost_ret (v := .agg #[.int .i64 0, .slice none 0 0, .slice none 0 0]) (by simp [results, Tryz.results80, go_sem, z0, z1, z2]) rfl ?_;exact ⟨_, rfl, Rq.none _, hq9⟩
 ·have hM : 0 < M := (by omega);have hs2 : s = -1 ∨ s = 1 := (by omega);have hN2 : 0 < N := hN (by omega);obtain ⟨hp1, hp2, hp3⟩ := aBx hs2 hM hN2 hq;have hsb : (s == 0) = false := by
   rcases hs2 with rfl | rfl <;> rfl
  have HP1 := Lib.hid hp1;have HP2 := Lib.hid hp2;have HP3 := Lib.hid hp3;have HM := Lib.hid hM;have HN := Lib.hid hN2;have LM := Lib.hid lM;have LN := Lib.hid lN;have hxl : ∃ A n c, x = .slice A n c ∧ 0 < n := by
   obtain ⟨A, c, xs, rfl, hc, rx, wx, hv⟩ := hx;refine ⟨A, _, c, rfl, ?_⟩;have hl := wx.len aF;rcases Nat.eq_zero_or_pos xs.length with h | h
   ·rw [List.eq_nil_of_length_eq_zero h] at hv;simp [vl] at hv;omega
   ·exact h
  obtain ⟨A1, n1, c1, rfl, hn1⟩ := hxl;obtain ⟨A2, n2, c2, rfl⟩ := Nr.form hy;have hlb : ((n1 : Int) == 0) = false := (by simp; omega);clear hp1 hp2 hp3 hq h0 hN hs hz hM hs2 hN2 lM lN hn1;by_cases h1 : M = 1
  ·have d1 : decide (M = 1) = true := decide_eq_true h1;have e1 : Nat.gcd M N = 1 := (by rw [h1]; exact Nat.gcd_one_left _);have HE := Lib.hid e1;clear h1 e1;go_enter Tryz.func80, Tryz.ntmps80
   go_wp2_with fail
   refine (gU _ M true _ (hx.q hG0) d1).mono ?_;rintro e w1 ⟨rfl, rfl⟩;have fz := hR0.frozen;have r0 := hR0.cell 0 rfl;have r1 := hR0.cell 1 rfl;have r2 := hR0.cell 2 rfl;go_wp2_with fail
   obtain ⟨hb9, hv9, hq9⟩ := jS hR0 rfl iN (hx.q hG0) (hy.q hG0) HP1.out (by rw [HP2.out, HE.out, Nat.div_one]) (by rw [HP3.out, HE.out, Nat.div_one]) hG0 (Nat.le_refl _);have z0 := hb9.cell 0 rfl;have z1 := hb9.cell 1 rfl;have z2 := hb9.cell 2 rfl;refine bodyPost_ret (v := .agg #[.int .i64 s, .slice A1 n1 c1, .slice A2 n2 c2]) (by simp [results, Tryz.results80, go_sem, z0, z1, z2]) rfl ?_;exact ⟨_, rfl, hv9, hq9⟩
  by_cases h2 : N = 1
  ·have d1 : decide (M = 1) = false := decide_eq_false h1;have d2 : decide (N = 1) = true := decide_eq_true h2;have e1 : Nat.gcd M N = 1 := (by rw [h2]; exact Nat.gcd_one_right _);have HE := Lib.hid e1;clear h1 h2 e1;go_enter Tryz.func80, Tryz.ntmps80
   go_wp2_with fail
   refine (gU _ M false _ (hx.q hG0) d1).mono ?_;rintro e w1 ⟨rfl, rfl⟩;go_wp2_with fail
   refine (gU _ N true _ (hy.q hG0) d2).mono ?_;rintro e w1 ⟨rfl, rfl⟩;have fz := hR0.frozen;have r0 := hR0.cell 0 rfl;have r1 := hR0.cell 1 rfl;have r2 := hR0.cell 2 rfl;go_wp2_with fail
   obtain ⟨hb9, hv9, hq9⟩ := jS hR0 rfl iN (hx.q hG0) (hy.q hG0) HP1.out (by rw [HP2.out, HE.out, Nat.div_one]) (by rw [HP3.out, HE.out, Nat.div_one]) hG0 (Nat.le_refl _);have z0 := hb9.cell 0 rfl;have z1 := hb9.cell 1 rfl;have z2 := hb9.cell 2 rfl;refine bodyPost_ret (v := .agg #[.int .i64 s, .slice A1 n1 c1, .slice A2 n2 c2]) (by simp [results, Tryz.results80, go_sem, z0, z1, z2]) rfl ?_;exact ⟨_, rfl, hv9, hq9⟩
  have d1 : decide (M = 1) = false := decide_eq_false h1;have d2 : decide (N = 1) = false := decide_eq_false h2;clear h1 h2;obtain ⟨d, hd⟩ : ∃ d, Nat.gcd M N = d := ⟨_, rfl⟩
  have hd0 : 0 < d := (by rw [← hd]; exact Nat.gcd_pos_of_pos_right _ HN.out);have hdN : d ≤ N := (by rw [← hd]; exact Nat.gcd_le_right _ HN.out);have HD := Lib.hid hd;have HD0 := Lib.hid hd0;have LD : Hid (dg B30 d + 40 ≤ LIM) := Lib.hid (by have := aR aF hdN; have := LN.out; omega);clear hd hd0 hdN;go_enter Tryz.func80, Tryz.ntmps80
  go_wp2_with fail
  refine (gU _ M false _ (hx.q hG0) d1).mono ?_;rintro e w1 ⟨rfl, rfl⟩;go_wp2_with fail
  refine (gU _ N false _ (hy.q hG0) d2).mono ?_;rintro e w1 ⟨rfl, rfl⟩;go_wp2_with fail
  refine (qU _ _ M N _ (hx.q hG0) (hy.q hG0) HN.out LM.out LN.out).mono ?_;rintro e w1 ⟨vd, rfl, hvd, hq1⟩;rw [HD.out] at hvd;have hG1 := hG0.trans hq1;have hR1 := hR0.q hq1;clear hR0 hG0 hW hq1;by_cases h3 : d = 1
  ·have d3 : decide (d = 1) = true := decide_eq_true h3;have HE : Hid (Nat.gcd M N = 1) := Lib.hid (by rw [HD.out]; exact h3);clear h3;go_wp2_with fail
   refine (gU _ d true _ hvd d3).mono ?_;rintro e w2 ⟨rfl, rfl⟩;have fz := hR1.frozen;have r0 := hR1.cell 0 rfl;have r1 := hR1.cell 1 rfl;have r2 := hR1.cell 2 rfl;go_wp2_with fail
   obtain ⟨hb9, hv9, hq9⟩ := jS hR1 rfl iN (hx.q hG1) (hy.q hG1) HP1.out (by rw [HP2.out, HE.out, Nat.div_one]) (by rw [HP3.out, HE.out, Nat.div_one]) hG1 (Nat.le_refl _);have z0 := hb9.cell 0 rfl;have z1 := hb9.cell 1 rfl;have z2 := hb9.cell 2 rfl;refine bodyPost_ret (v := .agg #[.int .i64 s, .slice A1 n1 c1, .slice A2 n2 c2]) (by simp [results, Tryz.results80, go_sem, z0, z1, z2]) rfl ?_;exact ⟨_, rfl, hv9, hq9⟩
  ·have d3 : decide (d = 1) = false := decide_eq_false h3;clear h3;go_wp2_with fail
   refine (gU _ d false _ hvd d3).mono ?_;rintro e w2 ⟨rfl, rfl⟩;go_wp2_with fail
   refine (qR _ _ M d _ (hx.q hG1) hvd HD0.out (by have := LM.out; omega) LD.out).mono ?_;rintro e w2 ⟨u1, u2, rfl, hu1, -, hq2⟩;have hG2 := hG1.trans hq2;have hR2 := hR1.q hq2;have hvd2 := hvd.q hq2;clear hR1 hvd;go_wp2_with fail
   refine (qR _ _ N d _ (hy.q hG2) hvd2 HD0.out (by have := LN.out; omega) LD.out).mono ?_;rintro e w3 ⟨v1, v2, rfl, hv1, -, hq3⟩;have hG3 := hG2.trans hq3;have hR3 := hR2.q hq3;have hu3 := hu1.q hq3;obtain ⟨B1, m1, e1, rfl⟩ := Nr.form hu3;obtain ⟨B2, m2, e2, rfl⟩ := Nr.form hv1;clear hR2 hvd2 hu1 hq2 hq3 hG1 hG2;have fz := hR3.frozen;have r0 := hR3.cell 0 rfl;have r1 := hR3.cell 1 rfl;have r2 := hR3.cell 2 rfl;go_wp2_with fail
   obtain ⟨hb9, hv9, hq9⟩ := jS hR3 rfl iN hu3 hv1 HP1.out (by rw [HP2.out, HD.out]) (by rw [HP3.out, HD.out]) hG3 (Nat.le_refl _);have z0 := hb9.cell 0 rfl;have z1 := hb9.cell 1 rfl;have z2 := hb9.cell 2 rfl;refine bodyPost_ret (v := .agg #[.int .i64 s, .slice B1 m1 e1, .slice B2 m2 e2]) (by simp [results, Tryz.results80, go_sem, z0, z1, z2]) rfl ?_;exact ⟨_, rfl, hv9, hq9⟩
theorem uX (x : Value) (N : Nat) (b : Bool) (w : World) (hx : Nr w x N) (hb : decide (N = 1) = b) : Calls Tryz.prog 83 #[x] w fun e w' => e = .returned (.bool b) ∧ Q w w' := by
 refine (gU x N b w hx hb).mono ?_;rintro e w' ⟨h, rfl⟩;exact ⟨h, Q.refl _⟩
theorem aFv (N : Nat) : dg B30 N ≤ 3 * dg W64 N := by
 rw [aD aF, Nat.pow_mul];have h := (aD aB N (dg W64 N)).1 (Nat.le_refl _);exact Nat.lt_of_lt_of_le h (Nat.pow_le_pow_left (by decide) _)
theorem aDV (q : Rat) : dg B30 q.num.natAbs ≤ 3 * sz q := Nat.le_trans (aFv _) (Nat.mul_le_mul_left 3 (gI q))
theorem aBy (q : Rat) : dg B30 q.den ≤ 3 * sz q := Nat.le_trans (aFv _) (Nat.mul_le_mul_left 3 (lW q))
theorem sn_neg' (q : Rat) : sn (-q) = -sn q := by rw [uF, uF, Rat.neg_num, Int.sign_neg]
theorem den_nz (q : Rat) : 0 < q.den := q.den_pos
theorem jN {q : Rat} (h : q ≠ 0) : 0 < q.num.natAbs := by
 have : q.num ≠ 0 := fun e => h (Rat.num_eq_zero.1 e);omega
theorem wV (q : Rat) : -sn q = sn (-q) ∧ q.num.natAbs = (-q).num.natAbs ∧ q.den = (-q).den := ⟨(sn_neg' q).symm, by rw [Rat.neg_num, Int.natAbs_neg], by rw [Rat.neg_den]⟩
def vX (q : Rat) : Rat := if q < 0 then -q else q
theorem qO (q : Rat) : sn q * sn q = sn (vX q) ∧ q.num.natAbs = (vX q).num.natAbs ∧ q.den = (vX q).den := by
 unfold vX;rcases dF q with ⟨h, e⟩ | ⟨h, e⟩ | ⟨h, e⟩
 ·rw [if_pos h];refine ⟨by rw [sn_neg', e]; rfl, (wV q).2.1, (wV q).2.2⟩
 ·subst h; exact ⟨rfl, rfl, rfl⟩
 ·rw [if_neg (by grind)];exact ⟨by rw [e]; rfl, rfl, rfl⟩
theorem aCq (q : Rat) : sz (vX q) ≤ sz q := by
 unfold vX; split
 ·rw [nP]; exact Nat.le_refl _
 ·exact Nat.le_refl _
def ofK (l : List UInt8) : ByteArray := ⟨l.toArray⟩
theorem zV {t : ByteArray} {l : List UInt8} (h : t.data.toList = l) : t = ofK l := by
 unfold ofK;rw [← h]
theorem mO (l : List UInt8) : (ofK l).data.toList = l := rfl
def pE (z : Int) : Nat := if z < 0 then 0 else if 64 < z then 64 else z.toNat
theorem aEA (z : Int) : pE z ≤ 64 := by unfold pE; split <;> (try split) <;> omega
theorem aBz (z : Int) : min (max z 0) 64 = (pE z : Int) := by unfold pE; split <;> (try split) <;> omega
theorem aAX {w : World} {s : Bool} {t b : Value} {q : Rat} (h : Nq w (.agg #[.bool s, t, b]) q) : s = decide (q < 0) := by
 obtain ⟨t', b', e, -⟩ := h;simp only [Value.agg.injEq, Array.mk.injEq, List.cons.injEq, Value.bool.injEq, and_true] at e;rw [e.1];exact decide_eq_decide.2 (bG q)
set_option maxRecDepth 100000 in
theorem aCL (a : Value) (p q : Rat) (z : Int) (w : World) (ha : Ns w a p q) (hB : sz p + sz q ≤ 10000000) :
  Calls Tryz.prog 48 #[a, .int .i64 z] w fun e w' => ∃ r, e = .returned r ∧ Ns w' r (qlo (pE z) (aK p q) (aG p q)) (qhi (pE z) (aK p q) (aG p q)) ∧ Q w w' := by
 have hay := ha; obtain ⟨sA0, AA1, kA1, cA1, AA2, kA2, cA2, sA3, AA4, kA4, cA4, AA5, kA5, cA5, rfl, -⟩ := (show Ns _ _ _ _ from hay)
 obtain ⟨w0, hW, hG0, hA0, hT0⟩ := aE6 w 59 [.bool sA0, .slice AA1 kA1 cA1, .slice AA2 kA2 cA2, .bool sA3, .slice AA4 kA4 cA4, .slice AA5 kA5 cA5] 59 [.bool false, .slice none 0 0, .slice none 0 0, .bool false, .slice none 0 0, .slice none 0 0];have nA0 : Ns w0 (.agg #[.bool sA0, .slice AA1 kA1 cA1, .slice AA2 kA2 cA2, .bool sA3, .slice AA4 kA4 cA4, .slice AA5 kA5 cA5]) (p) (q) := ha.q hG0;have Z0 : Hid (sz p + sz q ≤ 10000000) := Lib.hid hB;have Z1 : Hid (sz p ≤ 10000000) := Lib.hid (by have := Z0.out; omega);have Z2 : Hid (sz q ≤ 10000000) := Lib.hid (by have := Z0.out; omega);clear hB;obtain ⟨n, hnn⟩ : ∃ n, pE z = n := ⟨_, rfl⟩
 have hn64 : n ≤ 64 := by rw [← hnn]; exact aEA z
 have hmx := aBz z;rw [hnn] at hmx;rw [hnn];clear hnn;go_enter Tryz.func48, Tryz.ntmps48
 go_upto_region 1 with fail
 clear hW;have Z3 : Hid (sz (aK (p) (q)) ≤ 20000000) := Lib.hid (by have h9 := aEu (p) (q); have h0 := Z1.out; have h1 := Z2.out; omega);have Z4 : Hid (sz (aG (p) (q)) ≤ 20000000) := Lib.hid (by have h9 := aAN (p) (q); have h0 := Z1.out; have h1 := Z2.out; omega);have B5 : Hid (64 * (sz (p) + sz (q)) + 400 ≤ LIM) := Lib.hid (by have h0 := Z1.out; have h1 := Z2.out; rw [aA]; omega);have hAt0 : At0 w [⟨none, w.heap.size, 59, [.b, .s, .s, .b, .s, .s], .agg #[.bool sA0, .slice AA1 kA1 cA1, .slice AA2 kA2 cA2, .bool sA3, .slice AA4 kA4 cA4, .slice AA5 kA5 cA5], 2, 1⟩, ⟨none, w.heap.size + 1, 59, [.b, .s, .s, .b, .s, .s], .agg #[.bool false, .slice none 0 0, .slice none 0 0, .bool false, .slice none 0 0, .slice none 0 0], 1000, 0⟩] [(.agg #[.bool sA0, .slice AA1 kA1 cA1, .slice AA2 kA2 cA2, .bool sA3, .slice AA4 kA4 cA4, .slice AA5 kA5 cA5], .gen (gH (p) (q)))] w0 := At0.of hG0 ⟨kS hA0 (by omega), kS hT0 (by omega), trivial⟩ (by (simp [dO] <;> omega)) ⟨nA0, trivial⟩;clear hG0 hA0 hT0 nA0;refine cK (F := ?F1) w ([.gen (gH (p) (q)), .gen (gH (aK (p) (q)) (aG (p) (q))), .any] : List Vs) _ _ (by kernel_rfl) hAt0 ?hF1 ?st1 ?en1
 case hF1 =>
  intro vals;simp only [Ja.fillL, Act.put, List.setIfInBounds_toArray, List.set_cons_zero, List.set_cons_succ, Nat.reduceAdd];exact rfl
 case st1 =>
  clear hAt0;intro hctx;refine JC.r6 (row := [.bool sA0, .slice AA1 kA1 cA1, .slice AA2 kA2 cA2, .bool sA3, .slice AA4 kA4 cA4, .slice AA5 kA5 cA5]) (fun _ _ _ hL hJ => hJ.before 0 0 rfl rfl hL (by kernel_rfl) (by kernel_rfl)) (fun _ _ _ hJ => (hJ.kept 0 rfl)) hctx ?_;refine JC.ca (fun vals W hN hd hk => (aCJ _ (p) (q) W (hd 0 (by kernel_rfl)) B5.out).mono (by rintro e W9 ⟨r, rfl, hr, hq9⟩; exact ⟨r, rfl, hr, hq9⟩)) hctx ?_;refine JC.s6 (n := 0) rfl oW hctx ?_;exact Ja.Steps.nil
 intro L vals w1 hall hJ;clear hAt0;have hG1 := hJ.q;obtain ⟨sA0, AA1, kA1, cA1, AA2, kA2, cA2, sA3, AA4, kA4, cA4, AA5, kA5, cA5, hA1, nA1⟩ := mM (g := w.heap.size) (t := 59) (hJ.stored 0 rfl rfl (hall 2 (by decide))) (show Ns w1 (vals 1) (aK (p) (q)) (aG (p) (q)) from hJ.s 1 (hall 1 (by decide)));have hT1 : Bx w1 (w.heap.size + 1) 59 [.bool false, .slice none 0 0, .slice none 0 0, .bool false, .slice none 0 0, .slice none 0 0] := NbV.out (hJ.still 1 rfl rfl (Nat.le_of_ble_eq_true (by kernel_rfl)));clear hall hJ;go_upto_region 3 with fail
 clear hmx;have hzT := hT1.lt;have Z6 : Hid (sz ((aK (p) (q)) ^ n) ≤ 1280000002) := Lib.hid (by have h9 := Nat.le_trans (aB5 (aK (p) (q)) n) (Nat.add_le_add_right (Nat.mul_le_mul_right _ hn64) 2); have h0 := Z3.out; omega);have B7 : Hid (64 * (sz (aK (p) (q))) + 400 ≤ LIM) := Lib.hid (by have h0 := Z3.out; rw [aA]; omega);have Z8 : Hid (sz ((aG (p) (q)) ^ n) ≤ 1280000002) := Lib.hid (by have h9 := Nat.le_trans (aB5 (aG (p) (q)) n) (Nat.add_le_add_right (Nat.mul_le_mul_right _ hn64) 2); have h0 := Z4.out; omega);have B9 : Hid (64 * (sz (aG (p) (q))) + 400 ≤ LIM) := Lib.hid (by have h0 := Z4.out; rw [aA]; omega);have hAt1 : At0 w1 [⟨some 8, 0, 25, [.b, .s, .s], .agg #[.bool false, .slice none 0 0, .slice none 0 0], 10, 3⟩, ⟨some 9, 0, 25, [.b, .s, .s], .agg #[.bool false, .slice none 0 0, .slice none 0 0], 11, 7⟩] [] w1 := At0.of (Q.refl _) ⟨fun h => (by cases h), fun h => (by cases h), trivial⟩ (by (simp [dO] <;> omega)) trivial;refine mE (F := ?F2) w1 ([.eq (.pointer (some ⟨w.heap.size, 0, none⟩)), .gen (aN (aK (p) (q))), .eq (.int .i64 ((n : Int))), .gen (aN ((aK (p) (q)) ^ n)), .eq (.pointer (some ⟨w.heap.size, 3, none⟩)), .gen (aN (aG (p) (q))), .eq (.int .i64 ((n : Int))), .gen (aN ((aG (p) (q)) ^ n)), .any, .any, .any, .any] : List Vs) _ _ (by kernel_rfl) (by kernel_rfl) hAt1 ?hF2 ?st2 ?en2
 case hF2 =>
  intro vals;simp only [Ja.fillL, Act.put, List.setIfInBounds_toArray, List.set_cons_zero, List.set_cons_succ, Nat.reduceAdd];exact rfl
 case st2 =>
  clear hAt1;intro hctx;refine JC.p hctx ?_;refine JC.l3 (off := 0) hA1 (fun W hN => (lD (Ns.q nA1 hN)).1) hctx ?_;refine JC.p hctx ?_;refine JC.ca (fun vals W hN hd hk => (aAO _ (aK (p) (q)) _ n W (hd 1 (by kernel_rfl)) (Lib.hid rfl) hn64 B7.out).mono (by rintro e W9 ⟨r, rfl, hr, hq9⟩; exact ⟨r, rfl, hr, hq9⟩)) hctx ?_;refine JC.p hctx ?_;refine JC.l3 (off := 3) hA1 (fun W hN => (lD (Ns.q nA1 hN)).2) hctx ?_;refine JC.p hctx ?_;refine JC.ca (fun vals W hN hd hk => (aAO _ (aG (p) (q)) _ n W (hd 5 (by kernel_rfl)) (Lib.hid rfl) hn64 B9.out).mono (by rintro e W9 ⟨r, rfl, hr, hq9⟩; exact ⟨r, rfl, hr, hq9⟩)) hctx ?_;refine Ja.Steps.cons (JC.alloc (n := 0) (cells := [.bool false, .slice none 0 0, .slice none 0 0].toArray) (t := 25) hctx (by kernel_rfl) (by rfl) (by kernel_rfl) (by rfl) (by rfl) (by kernel_rfl) (by rfl) (fun W => NbV.mk (t := 25) (ck := [.b, .s, .s]) (row := [.bool false, .slice none 0 0, .slice none 0 0]) ⟨⟨_, rfl⟩, ⟨_, _, _, rfl⟩, ⟨_, _, _, rfl⟩, trivial⟩ (Bx.new W _ _)) ?_) ?_
  ·intro vals W K hK;go_simp
   exact hK.out _ (by kernel_rfl)
  refine Ja.Steps.cons (JC.alloc (n := 1) (cells := [.bool false, .slice none 0 0, .slice none 0 0].toArray) (t := 25) hctx (by kernel_rfl) (by rfl) (by kernel_rfl) (by rfl) (by rfl) (by kernel_rfl) (by rfl) (fun W => NbV.mk (t := 25) (ck := [.b, .s, .s]) (row := [.bool false, .slice none 0 0, .slice none 0 0]) ⟨⟨_, rfl⟩, ⟨_, _, _, rfl⟩, ⟨_, _, _, rfl⟩, trivial⟩ (Bx.new W _ _)) ?_) ?_
  ·intro vals W K hK;go_simp
   exact hK.out _ (by kernel_rfl)
  refine JC.s3 (n := 0) rfl vV hctx ?_;refine JC.s3 (n := 1) rfl vV hctx ?_;exact Ja.Steps.nil
 intro L vals w2 hall hJ;clear hAt1;have hq2 := hJ.q;have hG2 := hG1.trans hq2;have hA2 := hA1.q hq2;have nA2 := Ns.q nA1 hq2;have hT2 := hT1.q hq2;clear hG1 hA1 hT1 nA1;obtain ⟨gX, eX, geX, qX⟩ := hJ.fresh 0 rfl rfl (hall 8 (by decide)) (hall 10 (by decide));obtain ⟨sX0, AX1, kX1, cX1, AX2, kX2, cX2, hX2, nX2⟩ := rR (g := gX) (t := 25) qX (show Nq w2 (vals 3) ((aK (p) (q)) ^ n) from hJ.s 3 (hall 3 (by decide)));clear qX;obtain ⟨gY, eY, geY, qY⟩ := hJ.fresh 1 rfl rfl (hall 9 (by decide)) (hall 11 (by decide));obtain ⟨sY0, AY1, kY1, cY1, AY2, kY2, cY2, hY2, nY2⟩ := rR (g := gY) (t := 25) qY (show Nq w2 (vals 7) ((aG (p) (q)) ^ n) from hJ.s 7 (hall 7 (by decide)));clear qY;have neYX : gY ≠ gX := hJ.ne 1 0 (by decide) rfl rfl (hall 9 (by decide)) (hall 8 (by decide)) eY eX;rw [eX];clear eX;rw [eY];clear eY;clear hall hJ;go_upto_region 4 with fail
 have hsa := aAX (lD nA2).1; have hsb := aAX (lD nA2).2;have hle : aK (p) (q) ≤ aG (p) (q) := yI p q;have HLE := Lib.hid hle; have HSA := Lib.hid hsa; have HSB := Lib.hid hsb; clear hle hsa hsb;by_cases h0 : n = 0
 ·have H0 : Hid ((n : Int) = 0) := Lib.hid (by omega);have H00 := Lib.hid h0; clear h0;refine bJ (F := ?F3) ([.eq (.int .i64 ((n : Int))), .eq (.bool true), .eq (.bool true), .no, .no, .no, .eq (.bool true), .eq (.bool true), .no, .no, .no, .no, .eq (.bool true), .eq (.bool true)] : List Vs) ?hF3 ?st3 ?en3
  case hF3 =>
   intro vals;simp only [Ja.fillL, Act.put, List.setIfInBounds_toArray, List.set_cons_zero, List.set_cons_succ, Nat.reduceAdd];exact rfl
  case st3 =>
   intro hctx;refine JC.p hctx ?_;refine JC.u (.bool (((n : Int)) == (0))) (congrArg Value.bool (beq_iff_eq.2 (H0.out))) hctx ?_;refine JC.p hctx ?_;refine JC.n hctx ?_;refine JC.n hctx ?_;refine JC.n hctx ?_;refine JC.p hctx ?_;refine JC.p hctx ?_;refine JC.n hctx ?_;refine JC.n hctx ?_;refine JC.n hctx ?_;refine JC.n hctx ?_;refine JC.p hctx ?_;refine JC.p hctx ?_;exact Ja.Steps.nil
  intro vals w3 hq3 hall;have hG3 := hG2.trans hq3;have hA3 := hA2.q hq3;have nA3 := Ns.q nA2 hq3;have hT3 := hT2.q hq3;have hX3 := hX2.q hq3;have nX3 := Nq.q nX2 hq3;have hY3 := hY2.q hq3;have nY3 := Nq.q nY2 hq3;clear hG2 hA2 hT2 hX2 hY2 nA2 nX2 nY2;have f20 : vals 13 = .bool true := hall 13 (by decide);rw [f20];clear f20;clear hall;go_upto_region 5 with fail
  have hAt3 : At0 w [⟨none, w.heap.size, 59, [.b, .s, .s, .b, .s, .s], .agg #[.bool sA0, .slice AA1 kA1 cA1, .slice AA2 kA2 cA2, .bool sA3, .slice AA4 kA4 cA4, .slice AA5 kA5 cA5], 1000, 0⟩, ⟨none, w.heap.size + 1, 59, [.b, .s, .s, .b, .s, .s], .agg #[.bool false, .slice none 0 0, .slice none 0 0, .bool false, .slice none 0 0, .slice none 0 0], 3, 2⟩, ⟨none, gX, 25, [.b, .s, .s], .agg #[.bool sX0, .slice AX1 kX1 cX1, .slice AX2 kX2 cX2], 1000, 0⟩, ⟨none, gY, 25, [.b, .s, .s], .agg #[.bool sY0, .slice AY1 kY1 cY1, .slice AY2 kY2 cY2], 1000, 0⟩] [(.agg #[.bool sA0, .slice AA1 kA1 cA1, .slice AA2 kA2 cA2, .bool sA3, .slice AA4 kA4 cA4, .slice AA5 kA5 cA5], .gen (gH (aK (p) (q)) (aG (p) (q)))), (.agg #[.bool sX0, .slice AX1 kX1 cX1, .slice AX2 kX2 cX2], .gen (aN ((aK (p) (q)) ^ n))), (.agg #[.bool sY0, .slice AY1 kY1 cY1, .slice AY2 kY2 cY2], .gen (aN ((aG (p) (q)) ^ n)))] w3 := At0.of hG3 ⟨kS hA3 (by omega), kS hT3 (by omega), nH hX3 (by omega), nH hY3 (by omega), trivial⟩ (by (simp [dO] <;> omega)) ⟨nA3, nX3, nY3, trivial⟩;clear hG3 hA3 hT3 hX3 hY3 nA3 nX3 nY3;refine cK (F := ?F4) w ([.gen (aN ((aK (p) (q)) ^ n)), .gen (aN ((aG (p) (q)) ^ n)), .gen (gH ((aK (p) (q)) ^ n) ((aG (p) (q)) ^ n)), .any] : List Vs) _ _ (by kernel_rfl) hAt3 ?hF4 ?st4 ?en4
  case hF4 =>
   intro vals;simp only [Ja.fillL, Act.put, List.setIfInBounds_toArray, List.set_cons_zero, List.set_cons_succ, Nat.reduceAdd];exact rfl
  case st4 =>
   clear hAt3;intro hctx;refine JC.r3 (off := 0) (row := [.bool sX0, .slice AX1 kX1 cX1, .slice AX2 kX2 cX2]) (fun _ _ _ hL hJ => hJ.still 2 rfl rfl (Nat.le_of_ble_eq_true (by kernel_rfl))) (fun _ _ _ hJ => (hJ.kept 1 rfl)) hctx ?_;refine JC.r3 (off := 0) (row := [.bool sY0, .slice AY1 kY1 cY1, .slice AY2 kY2 cY2]) (fun _ _ _ hL hJ => hJ.still 3 rfl rfl (Nat.le_of_ble_eq_true (by kernel_rfl))) (fun _ _ _ hJ => (hJ.kept 2 rfl)) hctx ?_;refine JC.o hctx ?_ ?_
   ·intro L vals W hL hJ hd K hK;have d0 : Nq W (vals 0) ((aK (p) (q)) ^ n) := hd 0 (by kernel_rfl);have d1 : Nq W (vals 1) ((aG (p) (q)) ^ n) := hd 1 (by kernel_rfl);generalize vals 0 = u0 at d0 hK ⊢;obtain ⟨se0_0, Ae0_1, ke0_1, ce0_1, Ae0_2, ke0_2, ce0_2, rfl, -⟩ := Nq.form d0;generalize vals 1 = u1 at d1 hK ⊢;obtain ⟨se1_0, Ae1_1, ke1_1, ce1_1, Ae1_2, ke1_2, ce1_2, rfl, -⟩ := Nq.form d1;go_simp
    exact hK.out (.agg #[.bool se0_0, .slice Ae0_1 ke0_1 ce0_1, .slice Ae0_2 ke0_2 ce0_2, .bool se1_0, .slice Ae1_1 ke1_1 ce1_1, .slice Ae1_2 ke1_2 ce1_2]) _ _ (by kernel_rfl) ⟨_, _, _, _, _, _, _, _, _, _, _, _, _, _, rfl, d0, d1⟩ (Q.refl _)
   refine JC.s6 (n := 1) rfl oW hctx ?_;exact Ja.Steps.nil
  intro L vals w4 hall hJ;clear hAt3;have hG4 := hJ.q;obtain ⟨sT0, AT1, kT1, cT1, AT2, kT2, cT2, sT3, AT4, kT4, cT4, AT5, kT5, cT5, hT4, nT4⟩ := mM (g := w.heap.size + 1) (t := 59) (hJ.stored 1 rfl rfl (hall 3 (by decide))) (show Ns w4 (vals 2) ((aK (p) (q)) ^ n) ((aG (p) (q)) ^ n) from hJ.s 2 (hall 2 (by decide)));clear hall hJ;go_wp2_with fail
  have hps := qB HLE.out (Or.inl H00.out);rw [hps.1, hps.2] at nT4;exact zT hT4 (⟨_, rfl, nT4, hG4⟩)
 have H0 : Hid (¬ (n : Int) = 0) := Lib.hid (by omega);have H00 := Lib.hid h0; clear h0;by_cases h1 : n % 2 = 1
 ·have H1 : Hid ((n : Int).tmod 2 = 1) := Lib.hid (by have : (n : Int).tmod 2 = ((n % 2 : Nat) : Int) := rfl; omega);have H11 := Lib.hid h1; clear h1;refine bJ (F := ?F5) ([.eq (.int .i64 ((n : Int))), .eq (.bool false), .eq (.bool false), .eq (.int .i64 ((n : Int))), .eq (.int .i64 ((n : Int).tmod 2)), .eq (.bool true), .eq (.bool true), .eq (.bool true), .no, .no, .no, .no, .eq (.bool true), .eq (.bool true)] : List Vs) ?hF5 ?st5 ?en5
  case hF5 =>
   intro vals;simp only [Ja.fillL, Act.put, List.setIfInBounds_toArray, List.set_cons_zero, List.set_cons_succ, Nat.reduceAdd];exact rfl
  case st5 =>
   intro hctx;refine JC.p hctx ?_;refine JC.u (.bool (((n : Int)) == (0))) (congrArg Value.bool (beq_eq_false_iff_ne.2 (H0.out))) hctx ?_;refine JC.p hctx ?_;refine JC.p hctx ?_;refine JC.o hctx ?_ ?_
   ·intro L vals W hL hJ hd K hK;have d3 : vals 3 = .int .i64 ((n : Int)) := hd 3 (by kernel_rfl);generalize vals 3 = u3 at d3 hK ⊢;subst d3;go_simp
    exact hK.out (.int .i64 ((n : Int).tmod 2)) _ _ (by kernel_rfl) rfl (Q.refl _)
   refine JC.u (.bool (((n : Int).tmod 2) == (1))) (congrArg Value.bool (beq_iff_eq.2 (H1.out))) hctx ?_;refine JC.p hctx ?_;refine JC.p hctx ?_;refine JC.n hctx ?_;refine JC.n hctx ?_;refine JC.n hctx ?_;refine JC.n hctx ?_;refine JC.p hctx ?_;refine JC.p hctx ?_;exact Ja.Steps.nil
  intro vals w3 hq3 hall;have hG3 := hG2.trans hq3;have hA3 := hA2.q hq3;have nA3 := Ns.q nA2 hq3;have hT3 := hT2.q hq3;have hX3 := hX2.q hq3;have nX3 := Nq.q nX2 hq3;have hY3 := hY2.q hq3;have nY3 := Nq.q nY2 hq3;clear hG2 hA2 hT2 hX2 hY2 nA2 nX2 nY2;have f20 : vals 13 = .bool true := hall 13 (by decide);rw [f20];clear f20;clear hall;go_upto_region 5 with fail
  have hAt3 : At0 w [⟨none, w.heap.size, 59, [.b, .s, .s, .b, .s, .s], .agg #[.bool sA0, .slice AA1 kA1 cA1, .slice AA2 kA2 cA2, .bool sA3, .slice AA4 kA4 cA4, .slice AA5 kA5 cA5], 1000, 0⟩, ⟨none, w.heap.size + 1, 59, [.b, .s, .s, .b, .s, .s], .agg #[.bool false, .slice none 0 0, .slice none 0 0, .bool false, .slice none 0 0, .slice none 0 0], 3, 2⟩, ⟨none, gX, 25, [.b, .s, .s], .agg #[.bool sX0, .slice AX1 kX1 cX1, .slice AX2 kX2 cX2], 1000, 0⟩, ⟨none, gY, 25, [.b, .s, .s], .agg #[.bool sY0, .slice AY1 kY1 cY1, .slice AY2 kY2 cY2], 1000, 0⟩] [(.agg #[.bool sA0, .slice AA1 kA1 cA1, .slice AA2 kA2 cA2, .bool sA3, .slice AA4 kA4 cA4, .slice AA5 kA5 cA5], .gen (gH (aK (p) (q)) (aG (p) (q)))), (.agg #[.bool sX0, .slice AX1 kX1 cX1, .slice AX2 kX2 cX2], .gen (aN ((aK (p) (q)) ^ n))), (.agg #[.bool sY0, .slice AY1 kY1 cY1, .slice AY2 kY2 cY2], .gen (aN ((aG (p) (q)) ^ n)))] w3 := At0.of hG3 ⟨kS hA3 (by omega), kS hT3 (by omega), nH hX3 (by omega), nH hY3 (by omega), trivial⟩ (by (simp [dO] <;> omega)) ⟨nA3, nX3, nY3, trivial⟩;clear hG3 hA3 hT3 hX3 hY3 nA3 nX3 nY3;refine cK (F := ?F6) w ([.gen (aN ((aK (p) (q)) ^ n)), .gen (aN ((aG (p) (q)) ^ n)), .gen (gH ((aK (p) (q)) ^ n) ((aG (p) (q)) ^ n)), .any] : List Vs) _ _ (by kernel_rfl) hAt3 ?hF6 ?st6 ?en6
  case hF6 =>
   intro vals;simp only [Ja.fillL, Act.put, List.setIfInBounds_toArray, List.set_cons_zero, List.set_cons_succ, Nat.reduceAdd];exact rfl
  case st6 =>
   clear hAt3;intro hctx;refine JC.r3 (off := 0) (row := [.bool sX0, .slice AX1 kX1 cX1, .slice AX2 kX2 cX2]) (fun _ _ _ hL hJ => hJ.still 2 rfl rfl (Nat.le_of_ble_eq_true (by kernel_rfl))) (fun _ _ _ hJ => (hJ.kept 1 rfl)) hctx ?_;refine JC.r3 (off := 0) (row := [.bool sY0, .slice AY1 kY1 cY1, .slice AY2 kY2 cY2]) (fun _ _ _ hL hJ => hJ.still 3 rfl rfl (Nat.le_of_ble_eq_true (by kernel_rfl))) (fun _ _ _ hJ => (hJ.kept 2 rfl)) hctx ?_;refine JC.o hctx ?_ ?_
   ·intro L vals W hL hJ hd K hK;have d0 : Nq W (vals 0) ((aK (p) (q)) ^ n) := hd 0 (by kernel_rfl);have d1 : Nq W (vals 1) ((aG (p) (q)) ^ n) := hd 1 (by kernel_rfl);generalize vals 0 = u0 at d0 hK ⊢;obtain ⟨se0_0, Ae0_1, ke0_1, ce0_1, Ae0_2, ke0_2, ce0_2, rfl, -⟩ := Nq.form d0;generalize vals 1 = u1 at d1 hK ⊢;obtain ⟨se1_0, Ae1_1, ke1_1, ce1_1, Ae1_2, ke1_2, ce1_2, rfl, -⟩ := Nq.form d1;go_simp
    exact hK.out (.agg #[.bool se0_0, .slice Ae0_1 ke0_1 ce0_1, .slice Ae0_2 ke0_2 ce0_2, .bool se1_0, .slice Ae1_1 ke1_1 ce1_1, .slice Ae1_2 ke1_2 ce1_2]) _ _ (by kernel_rfl) ⟨_, _, _, _, _, _, _, _, _, _, _, _, _, _, rfl, d0, d1⟩ (Q.refl _)
   refine JC.s6 (n := 1) rfl oW hctx ?_;exact Ja.Steps.nil
  intro L vals w4 hall hJ;clear hAt3;have hG4 := hJ.q;obtain ⟨sT0, AT1, kT1, cT1, AT2, kT2, cT2, sT3, AT4, kT4, cT4, AT5, kT5, cT5, hT4, nT4⟩ := mM (g := w.heap.size + 1) (t := 59) (hJ.stored 1 rfl rfl (hall 3 (by decide))) (show Ns w4 (vals 2) ((aK (p) (q)) ^ n) ((aG (p) (q)) ^ n) from hJ.s 2 (hall 2 (by decide)));clear hall hJ;go_wp2_with fail
  have hps := qB HLE.out (Or.inr (Or.inl H11.out));rw [hps.1, hps.2] at nT4;exact zT hT4 (⟨_, rfl, nT4, hG4⟩)
 have H1 : Hid (¬ (n : Int).tmod 2 = 1) := Lib.hid (by have : (n : Int).tmod 2 = ((n % 2 : Nat) : Int) := rfl; omega);have H11 : Hid (n % 2 = 0) := Lib.hid (by omega); clear h1;by_cases h2 : aK (p) (q) < 0
 ·have H2 := Lib.hid h2; clear h2;refine bJ (F := ?F7) ([.eq (.int .i64 ((n : Int))), .eq (.bool false), .eq (.bool false), .eq (.int .i64 ((n : Int))), .eq (.int .i64 ((n : Int).tmod 2)), .eq (.bool false), .eq (.bool false), .eq (.bool false), .eq (.pointer (some ⟨w.heap.size, 0, none⟩)), .eq (.pointer (some ⟨w.heap.size, 0, none⟩)), .eq (.bool true), .eq (.bool false), .eq (.bool false), .eq (.bool false)] : List Vs) ?hF7 ?st7 ?en7
  case hF7 =>
   intro vals;simp only [Ja.fillL, Act.put, List.setIfInBounds_toArray, List.set_cons_zero, List.set_cons_succ, Nat.reduceAdd];exact rfl
  case st7 =>
   intro hctx;refine JC.p hctx ?_;refine JC.u (.bool (((n : Int)) == (0))) (congrArg Value.bool (beq_eq_false_iff_ne.2 (H0.out))) hctx ?_;refine JC.p hctx ?_;refine JC.p hctx ?_;refine JC.o hctx ?_ ?_
   ·intro L vals W hL hJ hd K hK;have d3 : vals 3 = .int .i64 ((n : Int)) := hd 3 (by kernel_rfl);generalize vals 3 = u3 at d3 hK ⊢;subst d3;go_simp
    exact hK.out (.int .i64 ((n : Int).tmod 2)) _ _ (by kernel_rfl) rfl (Q.refl _)
   refine JC.u (.bool (((n : Int).tmod 2) == (1))) (congrArg Value.bool (beq_eq_false_iff_ne.2 (H1.out))) hctx ?_;refine JC.p hctx ?_;refine JC.p hctx ?_;refine JC.p hctx ?_;refine JC.p hctx ?_;refine JC.l1 (off := 0) hA2 (fun W hN => (congrArg Value.bool (HSA.out.trans (decide_eq_true H2.out)))) hctx ?_;refine JC.p hctx ?_;refine JC.p hctx ?_;refine JC.p hctx ?_;exact Ja.Steps.nil
  intro vals w3 hq3 hall;have hG3 := hG2.trans hq3;have hA3 := hA2.q hq3;have nA3 := Ns.q nA2 hq3;have hT3 := hT2.q hq3;have hX3 := hX2.q hq3;have nX3 := Nq.q nX2 hq3;have hY3 := hY2.q hq3;have nY3 := Nq.q nY2 hq3;clear hG2 hA2 hT2 hX2 hY2 nA2 nX2 nY2;have f20 : vals 13 = .bool false := hall 13 (by decide);rw [f20];clear f20;clear hall;go_upto_region 6 with fail
  by_cases h3 : aG (p) (q) < 0
  ·have H3 := Lib.hid h3; clear h3;refine bJ (F := ?F8) ([.eq (.pointer (some ⟨w.heap.size, 3, none⟩)), .eq (.pointer (some ⟨w.heap.size, 3, none⟩)), .eq (.bool true), .eq (.bool true)] : List Vs) ?hF8 ?st8 ?en8
   case hF8 =>
    intro vals;simp only [Ja.fillL, Act.put, List.setIfInBounds_toArray, List.set_cons_zero, List.set_cons_succ, Nat.reduceAdd];exact rfl
   case st8 =>
    intro hctx;refine JC.p hctx ?_;refine JC.p hctx ?_;refine JC.l1 (off := 3) hA3 (fun W hN => (congrArg Value.bool (HSB.out.trans (decide_eq_true H3.out)))) hctx ?_;refine JC.p hctx ?_;exact Ja.Steps.nil
   intro vals w4 hq4 hall;have hG4 := hG3.trans hq4;have hA4 := hA3.q hq4;have nA4 := Ns.q nA3 hq4;have hT4 := hT3.q hq4;have hX4 := hX3.q hq4;have nX4 := Nq.q nX3 hq4;have hY4 := hY3.q hq4;have nY4 := Nq.q nY3 hq4;clear hG3 hA3 hT3 hX3 hY3 nA3 nX3 nY3;have f37 : vals 3 = .bool true := hall 3 (by decide);rw [f37];clear f37;clear hall;go_upto_region 7 with fail
   have hAt4 : At0 w [⟨none, w.heap.size, 59, [.b, .s, .s, .b, .s, .s], .agg #[.bool sA0, .slice AA1 kA1 cA1, .slice AA2 kA2 cA2, .bool sA3, .slice AA4 kA4 cA4, .slice AA5 kA5 cA5], 1000, 0⟩, ⟨none, w.heap.size + 1, 59, [.b, .s, .s, .b, .s, .s], .agg #[.bool false, .slice none 0 0, .slice none 0 0, .bool false, .slice none 0 0, .slice none 0 0], 3, 2⟩, ⟨none, gX, 25, [.b, .s, .s], .agg #[.bool sX0, .slice AX1 kX1 cX1, .slice AX2 kX2 cX2], 1000, 0⟩, ⟨none, gY, 25, [.b, .s, .s], .agg #[.bool sY0, .slice AY1 kY1 cY1, .slice AY2 kY2 cY2], 1000, 0⟩] [(.agg #[.bool sA0, .slice AA1 kA1 cA1, .slice AA2 kA2 cA2, .bool sA3, .slice AA4 kA4 cA4, .slice AA5 kA5 cA5], .gen (gH (aK (p) (q)) (aG (p) (q)))), (.agg #[.bool sX0, .slice AX1 kX1 cX1, .slice AX2 kX2 cX2], .gen (aN ((aK (p) (q)) ^ n))), (.agg #[.bool sY0, .slice AY1 kY1 cY1, .slice AY2 kY2 cY2], .gen (aN ((aG (p) (q)) ^ n)))] w4 := At0.of hG4 ⟨kS hA4 (by omega), kS hT4 (by omega), nH hX4 (by omega), nH hY4 (by omega), trivial⟩ (by (simp [dO] <;> omega)) ⟨nA4, nX4, nY4, trivial⟩;clear hG4 hA4 hT4 hX4 hY4 nA4 nX4 nY4;refine cK (F := ?F9) w ([.gen (aN ((aG (p) (q)) ^ n)), .gen (aN ((aK (p) (q)) ^ n)), .gen (gH ((aG (p) (q)) ^ n) ((aK (p) (q)) ^ n)), .any] : List Vs) _ _ (by kernel_rfl) hAt4 ?hF9 ?st9 ?en9
   case hF9 =>
    intro vals;simp only [Ja.fillL, Act.put, List.setIfInBounds_toArray, List.set_cons_zero, List.set_cons_succ, Nat.reduceAdd];exact rfl
   case st9 =>
    clear hAt4;intro hctx;refine JC.r3 (off := 0) (row := [.bool sY0, .slice AY1 kY1 cY1, .slice AY2 kY2 cY2]) (fun _ _ _ hL hJ => hJ.still 3 rfl rfl (Nat.le_of_ble_eq_true (by kernel_rfl))) (fun _ _ _ hJ => (hJ.kept 2 rfl)) hctx ?_;refine JC.r3 (off := 0) (row := [.bool sX0, .slice AX1 kX1 cX1, .slice AX2 kX2 cX2]) (fun _ _ _ hL hJ => hJ.still 2 rfl rfl (Nat.le_of_ble_eq_true (by kernel_rfl))) (fun _ _ _ hJ => (hJ.kept 1 rfl)) hctx ?_;refine JC.o hctx ?_ ?_
    ·intro L vals W hL hJ hd K hK;have d0 : Nq W (vals 0) ((aG (p) (q)) ^ n) := hd 0 (by kernel_rfl);have d1 : Nq W (vals 1) ((aK (p) (q)) ^ n) := hd 1 (by kernel_rfl);generalize vals 0 = u0 at d0 hK ⊢;obtain ⟨se0_0, Ae0_1, ke0_1, ce0_1, Ae0_2, ke0_2, ce0_2, rfl, -⟩ := Nq.form d0;generalize vals 1 = u1 at d1 hK ⊢;obtain ⟨se1_0, Ae1_1, ke1_1, ce1_1, Ae1_2, ke1_2, ce1_2, rfl, -⟩ := Nq.form d1;go_simp
     exact hK.out (.agg #[.bool se0_0, .slice Ae0_1 ke0_1 ce0_1, .slice Ae0_2 ke0_2 ce0_2, .bool se1_0, .slice Ae1_1 ke1_1 ce1_1, .slice Ae1_2 ke1_2 ce1_2]) _ _ (by kernel_rfl) ⟨_, _, _, _, _, _, _, _, _, _, _, _, _, _, rfl, d0, d1⟩ (Q.refl _)
    refine JC.s6 (n := 1) rfl oW hctx ?_;exact Ja.Steps.nil
   intro L vals w5 hall hJ;clear hAt4;have hG5 := hJ.q;obtain ⟨sT0, AT1, kT1, cT1, AT2, kT2, cT2, sT3, AT4, kT4, cT4, AT5, kT5, cT5, hT5, nT5⟩ := mM (g := w.heap.size + 1) (t := 59) (hJ.stored 1 rfl rfl (hall 3 (by decide))) (show Ns w5 (vals 2) ((aG (p) (q)) ^ n) ((aK (p) (q)) ^ n) from hJ.s 2 (hall 2 (by decide)));clear hall hJ;go_wp2_with fail
   have hps := aB1 HLE.out H11.out H3.out;rw [hps.1, hps.2] at nT5;exact zT hT5 (⟨_, rfl, nT5, hG5⟩)
  ·have H3 := Lib.hid h3; clear h3;refine bJ (F := ?F10) ([.eq (.pointer (some ⟨w.heap.size, 3, none⟩)), .eq (.pointer (some ⟨w.heap.size, 3, none⟩)), .eq (.bool false), .eq (.bool false)] : List Vs) ?hF10 ?st10 ?en10
   case hF10 =>
    intro vals;simp only [Ja.fillL, Act.put, List.setIfInBounds_toArray, List.set_cons_zero, List.set_cons_succ, Nat.reduceAdd];exact rfl
   case st10 =>
    intro hctx;refine JC.p hctx ?_;refine JC.p hctx ?_;refine JC.l1 (off := 3) hA3 (fun W hN => (congrArg Value.bool (HSB.out.trans (decide_eq_false H3.out)))) hctx ?_;refine JC.p hctx ?_;exact Ja.Steps.nil
   intro vals w4 hq4 hall;have hG4 := hG3.trans hq4;have hA4 := hA3.q hq4;have nA4 := Ns.q nA3 hq4;have hT4 := hT3.q hq4;have hX4 := hX3.q hq4;have nX4 := Nq.q nX3 hq4;have hY4 := hY3.q hq4;have nY4 := Nq.q nY3 hq4;clear hG3 hA3 hT3 hX3 hY3 nA3 nX3 nY3;have f37 : vals 3 = .bool false := hall 3 (by decide);rw [f37];clear f37;clear hall;go_upto_region 8 with fail
   have Z10 : Hid (sz (aG ((aK (p) (q)) ^ n) ((aG (p) (q)) ^ n)) ≤ 2560000004) := Lib.hid (by have h9 := aAN ((aK (p) (q)) ^ n) ((aG (p) (q)) ^ n); have h0 := Z6.out; have h1 := Z8.out; omega);have B11 : Hid (64 * (sz ((aK (p) (q)) ^ n) + sz ((aG (p) (q)) ^ n)) + 400 ≤ LIM) := Lib.hid (by have h0 := Z6.out; have h1 := Z8.out; rw [aA]; omega);have hAt4 : At0 w [⟨none, w.heap.size, 59, [.b, .s, .s, .b, .s, .s], .agg #[.bool sA0, .slice AA1 kA1 cA1, .slice AA2 kA2 cA2, .bool sA3, .slice AA4 kA4 cA4, .slice AA5 kA5 cA5], 1000, 0⟩, ⟨none, w.heap.size + 1, 59, [.b, .s, .s, .b, .s, .s], .agg #[.bool false, .slice none 0 0, .slice none 0 0, .bool false, .slice none 0 0, .slice none 0 0], 5, 4⟩, ⟨none, gX, 25, [.b, .s, .s], .agg #[.bool sX0, .slice AX1 kX1 cX1, .slice AX2 kX2 cX2], 1000, 0⟩, ⟨none, gY, 25, [.b, .s, .s], .agg #[.bool sY0, .slice AY1 kY1 cY1, .slice AY2 kY2 cY2], 1000, 0⟩] [(.agg #[.bool sA0, .slice AA1 kA1 cA1, .slice AA2 kA2 cA2, .bool sA3, .slice AA4 kA4 cA4, .slice AA5 kA5 cA5], .gen (gH (aK (p) (q)) (aG (p) (q)))), (.agg #[.bool sX0, .slice AX1 kX1 cX1, .slice AX2 kX2 cX2], .gen (aN ((aK (p) (q)) ^ n))), (.agg #[.bool sY0, .slice AY1 kY1 cY1, .slice AY2 kY2 cY2], .gen (aN ((aG (p) (q)) ^ n)))] w4 := At0.of hG4 ⟨kS hA4 (by omega), kS hT4 (by omega), nH hX4 (by omega), nH hY4 (by omega), trivial⟩ (by (simp [dO] <;> omega)) ⟨nA4, nX4, nY4, trivial⟩;clear hG4 hA4 hT4 hX4 hY4 nA4 nX4 nY4;refine cK (F := ?F11) w ([.gen (aN (0)), .gen (aN ((aK (p) (q)) ^ n)), .gen (aN ((aG (p) (q)) ^ n)), .gen (aN (aG ((aK (p) (q)) ^ n) ((aG (p) (q)) ^ n))), .gen (gH (0) (aG ((aK (p) (q)) ^ n) ((aG (p) (q)) ^ n))), .any] : List Vs) _ _ (by kernel_rfl) hAt4 ?hF11 ?st11 ?en11
   case hF11 =>
    intro vals;simp only [Ja.fillL, Act.put, List.setIfInBounds_toArray, List.set_cons_zero, List.set_cons_succ, Nat.reduceAdd];exact rfl
   case st11 =>
    clear hAt4;intro hctx;refine JC.o hctx ?_ ?_
    ·intro L vals W hL hJ hd K hK;go_simp
     exact hK.out (.agg #[.bool false, .slice none 0 0, .slice none 0 0]) _ _ (by kernel_rfl) (aFt W) (Q.refl _)
    refine JC.r3 (off := 0) (row := [.bool sX0, .slice AX1 kX1 cX1, .slice AX2 kX2 cX2]) (fun _ _ _ hL hJ => hJ.still 2 rfl rfl (Nat.le_of_ble_eq_true (by kernel_rfl))) (fun _ _ _ hJ => (hJ.kept 1 rfl)) hctx ?_;refine JC.r3 (off := 0) (row := [.bool sY0, .slice AY1 kY1 cY1, .slice AY2 kY2 cY2]) (fun _ _ _ hL hJ => hJ.still 3 rfl rfl (Nat.le_of_ble_eq_true (by kernel_rfl))) (fun _ _ _ hJ => (hJ.kept 2 rfl)) hctx ?_;refine JC.ca (fun vals W hN hd hk => (aCs _ _ ((aK (p) (q)) ^ n) ((aG (p) (q)) ^ n) W (hd 1 (by kernel_rfl)) (hd 2 (by kernel_rfl)) B11.out).mono (by rintro e W9 ⟨r, rfl, hr, hq9⟩; exact ⟨r, rfl, hr, hq9⟩)) hctx ?_;refine JC.o hctx ?_ ?_
    ·intro L vals W hL hJ hd K hK;have d0 : Nq W (vals 0) (0) := hd 0 (by kernel_rfl);have d3 : Nq W (vals 3) (aG ((aK (p) (q)) ^ n) ((aG (p) (q)) ^ n)) := hd 3 (by kernel_rfl);generalize vals 0 = u0 at d0 hK ⊢;obtain ⟨se0_0, Ae0_1, ke0_1, ce0_1, Ae0_2, ke0_2, ce0_2, rfl, -⟩ := Nq.form d0;generalize vals 3 = u3 at d3 hK ⊢;obtain ⟨se1_0, Ae1_1, ke1_1, ce1_1, Ae1_2, ke1_2, ce1_2, rfl, -⟩ := Nq.form d3;go_simp
     exact hK.out (.agg #[.bool se0_0, .slice Ae0_1 ke0_1 ce0_1, .slice Ae0_2 ke0_2 ce0_2, .bool se1_0, .slice Ae1_1 ke1_1 ce1_1, .slice Ae1_2 ke1_2 ce1_2]) _ _ (by kernel_rfl) ⟨_, _, _, _, _, _, _, _, _, _, _, _, _, _, rfl, d0, d3⟩ (Q.refl _)
    refine JC.s6 (n := 1) rfl oW hctx ?_;exact Ja.Steps.nil
   intro L vals w5 hall hJ;clear hAt4;have hG5 := hJ.q;obtain ⟨sT0, AT1, kT1, cT1, AT2, kT2, cT2, sT3, AT4, kT4, cT4, AT5, kT5, cT5, hT5, nT5⟩ := mM (g := w.heap.size + 1) (t := 59) (hJ.stored 1 rfl rfl (hall 5 (by decide))) (show Ns w5 (vals 4) (0) (aG ((aK (p) (q)) ^ n) ((aG (p) (q)) ^ n)) from hJ.s 4 (hall 4 (by decide)));clear hall hJ;go_wp2_with fail
   have hps := aB2 (Nat.pos_of_ne_zero H00.out) H11.out H2.out (Rat.not_lt.1 H3.out);rw [hps.1, hps.2] at nT5;exact zT hT5 (⟨_, rfl, nT5, hG5⟩)
 ·have H2 := Lib.hid h2; clear h2;refine bJ (F := ?F12) ([.eq (.int .i64 ((n : Int))), .eq (.bool false), .eq (.bool false), .eq (.int .i64 ((n : Int))), .eq (.int .i64 ((n : Int).tmod 2)), .eq (.bool false), .eq (.bool false), .eq (.bool false), .eq (.pointer (some ⟨w.heap.size, 0, none⟩)), .eq (.pointer (some ⟨w.heap.size, 0, none⟩)), .eq (.bool false), .eq (.bool true), .eq (.bool true), .eq (.bool true)] : List Vs) ?hF12 ?st12 ?en12
  case hF12 =>
   intro vals;simp only [Ja.fillL, Act.put, List.setIfInBounds_toArray, List.set_cons_zero, List.set_cons_succ, Nat.reduceAdd];exact rfl
  case st12 =>
   intro hctx;refine JC.p hctx ?_;refine JC.u (.bool (((n : Int)) == (0))) (congrArg Value.bool (beq_eq_false_iff_ne.2 (H0.out))) hctx ?_;refine JC.p hctx ?_;refine JC.p hctx ?_;refine JC.o hctx ?_ ?_
   ·intro L vals W hL hJ hd K hK;have d3 : vals 3 = .int .i64 ((n : Int)) := hd 3 (by kernel_rfl);generalize vals 3 = u3 at d3 hK ⊢;subst d3;go_simp
    exact hK.out (.int .i64 ((n : Int).tmod 2)) _ _ (by kernel_rfl) rfl (Q.refl _)
   refine JC.u (.bool (((n : Int).tmod 2) == (1))) (congrArg Value.bool (beq_eq_false_iff_ne.2 (H1.out))) hctx ?_;refine JC.p hctx ?_;refine JC.p hctx ?_;refine JC.p hctx ?_;refine JC.p hctx ?_;refine JC.l1 (off := 0) hA2 (fun W hN => (congrArg Value.bool (HSA.out.trans (decide_eq_false H2.out)))) hctx ?_;refine JC.p hctx ?_;refine JC.p hctx ?_;refine JC.p hctx ?_;exact Ja.Steps.nil
  intro vals w3 hq3 hall;have hG3 := hG2.trans hq3;have hA3 := hA2.q hq3;have nA3 := Ns.q nA2 hq3;have hT3 := hT2.q hq3;have hX3 := hX2.q hq3;have nX3 := Nq.q nX2 hq3;have hY3 := hY2.q hq3;have nY3 := Nq.q nY2 hq3;clear hG2 hA2 hT2 hX2 hY2 nA2 nX2 nY2;have f20 : vals 13 = .bool true := hall 13 (by decide);rw [f20];clear f20;clear hall;go_upto_region 5 with fail
  have hAt3 : At0 w [⟨none, w.heap.size, 59, [.b, .s, .s, .b, .s, .s], .agg #[.bool sA0, .slice AA1 kA1 cA1, .slice AA2 kA2 cA2, .bool sA3, .slice AA4 kA4 cA4, .slice AA5 kA5 cA5], 1000, 0⟩, ⟨none, w.heap.size + 1, 59, [.b, .s, .s, .b, .s, .s], .agg #[.bool false, .slice none 0 0, .slice none 0 0, .bool false, .slice none 0 0, .slice none 0 0], 3, 2⟩, ⟨none, gX, 25, [.b, .s, .s], .agg #[.bool sX0, .slice AX1 kX1 cX1, .slice AX2 kX2 cX2], 1000, 0⟩, ⟨none, gY, 25, [.b, .s, .s], .agg #[.bool sY0, .slice AY1 kY1 cY1, .slice AY2 kY2 cY2], 1000, 0⟩] [(.agg #[.bool sA0, .slice AA1 kA1 cA1, .slice AA2 kA2 cA2, .bool sA3, .slice AA4 kA4 cA4, .slice AA5 kA5 cA5], .gen (gH (aK (p) (q)) (aG (p) (q)))), (.agg #[.bool sX0, .slice AX1 kX1 cX1, .slice AX2 kX2 cX2], .gen (aN ((aK (p) (q)) ^ n))), (.agg #[.bool sY0, .slice AY1 kY1 cY1, .slice AY2 kY2 cY2], .gen (aN ((aG (p) (q)) ^ n)))] w3 := At0.of hG3 ⟨kS hA3 (by omega), kS hT3 (by omega), nH hX3 (by omega), nH hY3 (by omega), trivial⟩ (by (simp [dO] <;> omega)) ⟨nA3, nX3, nY3, trivial⟩;clear hG3 hA3 hT3 hX3 hY3 nA3 nX3 nY3;refine cK (F := ?F13) w ([.gen (aN ((aK (p) (q)) ^ n)), .gen (aN ((aG (p) (q)) ^ n)), .gen (gH ((aK (p) (q)) ^ n) ((aG (p) (q)) ^ n)), .any] : List Vs) _ _ (by kernel_rfl) hAt3 ?hF13 ?st13 ?en13
  case hF13 =>
   intro vals;simp only [Ja.fillL, Act.put, List.setIfInBounds_toArray, List.set_cons_zero, List.set_cons_succ, Nat.reduceAdd];exact rfl
  case st13 =>
   clear hAt3;intro hctx;refine JC.r3 (off := 0) (row := [.bool sX0, .slice AX1 kX1 cX1, .slice AX2 kX2 cX2]) (fun _ _ _ hL hJ => hJ.still 2 rfl rfl (Nat.le_of_ble_eq_true (by kernel_rfl))) (fun _ _ _ hJ => (hJ.kept 1 rfl)) hctx ?_;refine JC.r3 (off := 0) (row := [.bool sY0, .slice AY1 kY1 cY1, .slice AY2 kY2 cY2]) (fun _ _ _ hL hJ => hJ.still 3 rfl rfl (Nat.le_of_ble_eq_true (by kernel_rfl))) (fun _ _ _ hJ => (hJ.kept 2 rfl)) hctx ?_;refine JC.o hctx ?_ ?_
   ·intro L vals W hL hJ hd K hK;have d0 : Nq W (vals 0) ((aK (p) (q)) ^ n) := hd 0 (by kernel_rfl);have d1 : Nq W (vals 1) ((aG (p) (q)) ^ n) := hd 1 (by kernel_rfl);generalize vals 0 = u0 at d0 hK ⊢;obtain ⟨se0_0, Ae0_1, ke0_1, ce0_1, Ae0_2, ke0_2, ce0_2, rfl, -⟩ := Nq.form d0;generalize vals 1 = u1 at d1 hK ⊢;obtain ⟨se1_0, Ae1_1, ke1_1, ce1_1, Ae1_2, ke1_2, ce1_2, rfl, -⟩ := Nq.form d1;go_simp
    exact hK.out (.agg #[.bool se0_0, .slice Ae0_1 ke0_1 ce0_1, .slice Ae0_2 ke0_2 ce0_2, .bool se1_0, .slice Ae1_1 ke1_1 ce1_1, .slice Ae1_2 ke1_2 ce1_2]) _ _ (by kernel_rfl) ⟨_, _, _, _, _, _, _, _, _, _, _, _, _, _, rfl, d0, d1⟩ (Q.refl _)
   refine JC.s6 (n := 1) rfl oW hctx ?_;exact Ja.Steps.nil
  intro L vals w4 hall hJ;clear hAt3;have hG4 := hJ.q;obtain ⟨sT0, AT1, kT1, cT1, AT2, kT2, cT2, sT3, AT4, kT4, cT4, AT5, kT5, cT5, hT4, nT4⟩ := mM (g := w.heap.size + 1) (t := 59) (hJ.stored 1 rfl rfl (hall 3 (by decide))) (show Ns w4 (vals 2) ((aK (p) (q)) ^ n) ((aG (p) (q)) ^ n) from hJ.s 2 (hall 2 (by decide)));clear hall hJ;go_wp2_with fail
  have hps := qB (n := n) HLE.out (Or.inr (Or.inr (Rat.not_lt.1 H2.out)));rw [hps.1, hps.2] at nT4;exact zT hT4 (⟨_, rfl, nT4, hG4⟩)
end Go.Proofs.YtgpacgadpnpjjaaGreatDoor.K
