/- ValueIncludes (a part of the proof): results of numbers are in the results of their spans. No condition. -/
import Derived.Test.YtgpacgadpnpjjaaGreatDoorQn02
import Derived.Test.YtgpacgadpnpjjaaGreatDoorQn03
namespace Go.Proofs.YtgpacgadpnpjjaaGreatDoor.Ma
theorem rF (x : Rat) : (x.num : Rat) = x * (x.den : Rat) := by
 have h := Rat.num_divInt_den x;rw [Rat.divInt_eq_div, Rat.intCast_natCast] at h;have h0 : (x.den : Rat) ≠ 0 := by
  intro h1;exact x.den_nz (Rat.natCast_eq_zero_iff.1 h1)
 have h2 := Rat.div_mul_cancel (a := (x.num : Rat)) h0;rw [h] at h2;exact h2.symm
theorem rat_of' {q : Rat} {a : Int} {b : Nat} (hb : 0 < b) (hc : Nat.Coprime a.natAbs b) (h : q * (b : Rat) = (a : Rat)) : q.num = a ∧ q.den = b := by
 refine yE hb hc ?_;have h1 := rF q;have h2 : ((a * q.den : Int) : Rat) = ((q.num * b : Int) : Rat) := by
  rw [Rat.intCast_mul, Rat.intCast_mul, Rat.intCast_natCast, Rat.intCast_natCast, h1, ← h];grind
 exact Rat.intCast_inj.1 h2
def pw (s : Int) : Rat := (2 : Rat) ^ s
theorem aER : (2 : Rat) ≠ 0 := by decide
theorem aES (s : Int) : 0 < pw s := Rat.zpow_pos (by decide)
theorem yF (s t : Int) : pw (s + t) = pw s * pw t := Rat.zpow_add aER s t
theorem lQ (n : Nat) : pw n = ((2 ^ n : Nat) : Rat) := by
 unfold pw;rw [Rat.zpow_natCast, Rat.natCast_pow]; rfl
theorem yG (s : Int) : pw s * pw (-s) = 1 := by
 rw [← yF, show s + -s = 0 by omega]; exact Rat.zpow_zero 2
theorem pw_inv' (s : Int) : pw (-s) * pw s = 1 := by rw [Rat.mul_comm, yG]
theorem aDc (s : Int) : pw (-s) * ((2 ^ s.toNat : Nat) : Rat) = ((2 ^ (-s).toNat : Nat) : Rat) := by
 rw [← lQ, ← lQ, ← yF];congr 1;omega
theorem pX {y : Rat} {A B : Nat} (hB : 0 < B) (h : y * (B : Rat) = (A : Rat)) : y.floor = ((A / B : Nat) : Int) ∧ (-y).floor = -((A / B + if A % B = 0 then 0 else 1 : Nat) : Int) ∧ (A % B = 0 → y = ((A / B : Nat) : Rat)) := by
 have hb : (0 : Rat) < (B : Rat) := Rat.natCast_pos.2 hB;have hd := Nat.div_add_mod A B;have hm := Nat.mod_lt A hB;have toR : ∀ a b : Int, a * B ≤ b → ((a : Rat)) * (B : Rat) ≤ (b : Rat) := by
  intro a b h1;have := Rat.intCast_le_intCast.2 h1
  rwa [Rat.intCast_mul, Rat.intCast_natCast] at this
 have le_iff : ∀ z : Int, (z : Rat) ≤ y ↔ z * B ≤ A := by
  intro z;constructor
  ·intro h1;have h2 := Rat.mul_le_mul_of_nonneg_right h1 (Rat.le_of_lt hb);rw [h, ← Rat.intCast_natCast, ← Rat.intCast_natCast, ← Rat.intCast_mul] at h2;exact Rat.intCast_le_intCast.1 h2
  ·intro h1;have h2 := Rat.intCast_le_intCast.2 h1;rw [Rat.intCast_mul, Rat.intCast_natCast, Rat.intCast_natCast, ← h] at h2;exact Rat.le_of_mul_le_mul_right h2 hb
 have ge_iff : ∀ z : Int, y ≤ (z : Rat) ↔ (A : Int) ≤ z * B := by
  intro z;constructor
  ·intro h1;have h2 := Rat.mul_le_mul_of_nonneg_right h1 (Rat.le_of_lt hb);rw [h, ← Rat.intCast_natCast, ← Rat.intCast_natCast, ← Rat.intCast_mul] at h2;exact Rat.intCast_le_intCast.1 h2
  ·intro h1;have h2 := Rat.intCast_le_intCast.2 h1;rw [Rat.intCast_mul, Rat.intCast_natCast, Rat.intCast_natCast, ← h] at h2;exact Rat.le_of_mul_le_mul_right h2 hb
 have key1 : ∀ q : Nat, A / B = q → ((q : Int) * B ≤ A ∧ (A : Int) < (q + 1) * B) := by
  intro q hq;rw [hq] at hd;have e1 : ((B * q : Nat) : Int) = (q : Int) * B := (by rw [Int.natCast_mul, Int.mul_comm]);rw [Int.add_mul, Int.one_mul];omega
 obtain ⟨q, hq⟩ : ∃ q, A / B = q := ⟨_, rfl⟩
 obtain ⟨k1, k2⟩ := key1 q hq;rw [hq] at hd ⊢;refine ⟨?_, ?_, ?_⟩
 ·apply Int.le_antisymm
  ·have h1 : y.floor < (q : Int) + 1 := by
    rw [Rat.floor_lt_iff];refine Rat.not_le.1 fun h2 => ?_;have := (le_iff _).1 h2;omega
   omega
  ·rw [Rat.le_floor_iff];exact (le_iff _).2 k1
 ·obtain ⟨z, hz⟩ : ∃ z : Nat, (q + if A % B = 0 then 0 else 1) = z := ⟨_, rfl⟩
  rw [hz];have z1 : (A : Int) ≤ (z : Int) * B ∧ ((z : Int) - 1) * B < A := by
   have e1 : ((B * q : Nat) : Int) = (q : Int) * B := (by rw [Int.natCast_mul, Int.mul_comm]);split at hz
   ·have : (z : Int) = q := (by omega);rw [this, Int.sub_mul, Int.one_mul]; omega
   ·have : (z : Int) = q + 1 := (by omega);rw [this, Int.add_mul, Int.one_mul, show (q : Int) + 1 - 1 = q by omega]; omega
  apply Int.le_antisymm
  ·have h1 : (-y).floor < -(z : Int) + 1 := by
    rw [Rat.floor_lt_iff];refine Rat.not_le.1 fun h2 => ?_;have h3 : y ≤ (((z : Int) - 1 : Int) : Rat) := by
     have e : ((-(z : Int) + 1 : Int) : Rat) = -(((z : Int) - 1 : Int) : Rat) := by
      rw [← Rat.intCast_neg]; congr 1; omega
     rw [e] at h2;grind
    have := (ge_iff _).1 h3;omega
   omega
  ·rw [Rat.le_floor_iff];have := (ge_iff _).2 z1.1;rw [Rat.intCast_neg];grind
 ·intro h0;have h1 : A = q * B := (by rw [h0] at hd; rw [Nat.mul_comm]; omega);rw [h1, Rat.natCast_mul] at h;have hb' : (B : Rat) ≠ 0 := (by intro h2; rw [h2] at hb; exact absurd hb (by decide));have h3 : y * (B : Rat) / (B : Rat) = (q : Rat) * (B : Rat) / (B : Rat) := by rw [h]
  rwa [Rat.mul_div_cancel hb', Rat.mul_div_cancel hb'] at h3
theorem sU {x : Rat} {N D : Nat} (hN : x.num = N) (hD : x.den = D) (s : Int) : x * pw (-s) * ((D * 2 ^ s.toNat : Nat) : Rat) = ((N * 2 ^ (-s).toNat : Nat) : Rat) := by
 have h1 := rF x;rw [hN, hD, Rat.intCast_natCast] at h1;have h2 := aDc s;rw [Rat.natCast_mul, Rat.natCast_mul, ← h2, h1];grind
def ulp (b : Nat) (x : Rat) : Int := rsh b x.num.natAbs x.den
def dn (b : Nat) (x : Rat) : Rat := if x = 0 then 0 else ((x * pw (-ulp b x)).floor : Rat) * pw (ulp b x)
def up (b : Nat) (x : Rat) : Rat := -dn b (-x)
theorem vE (b : Nat) : dn b 0 = 0 := by simp [dn]
theorem aEa (b : Nat) : up b 0 = 0 := by simp [up, vE]
theorem vF (b : Nat) (x : Rat) : ulp b (-x) = ulp b x := by unfold ulp; rw [Rat.neg_num, Rat.neg_den, Int.natAbs_neg]
theorem aBX (b : Nat) (x : Rat) : up b (-x) = -dn b x := by unfold up; rw [Rat.neg_neg]
theorem aET (b : Nat) (x : Rat) : dn b (-x) = -up b x := by unfold up; rw [Rat.neg_neg]
theorem den_pos (x : Rat) : 0 < x.den := Nat.pos_of_ne_zero x.den_nz
theorem jN {x : Rat} (h : 0 < x) : 0 < x.num := by
 have h1 : 0 ≤ x.num := Rat.num_nonneg.2 (Rat.le_of_lt h);have h2 : x.num ≠ 0 := fun h3 => by rw [Rat.num_eq_zero] at h3; rw [h3] at h; exact absurd h (by decide)
 omega
theorem rG {x : Rat} (h : x < 0) : x.num < 0 := by
 have h1 : ¬ 0 ≤ x.num := fun h2 => Rat.not_le.2 h (Rat.num_nonneg.1 h2);omega
theorem oH {x : Rat} (h : 0 < x) : ∃ N : Nat, x.num = N ∧ 0 < N ∧ x.num.natAbs = N := ⟨x.num.toNat, by have := jN h; omega, by have := jN h; omega, by have := jN h; omega⟩
theorem aBY {b : Nat} {x : Rat} (h : 0 < x) : dn b x = ((fl (ulp b x) x.num.natAbs x.den : Nat) : Rat) * pw (ulp b x) := by
 obtain ⟨N, h1, h2, h3⟩ := oH h;have h4 := pX (Nat.mul_pos (den_pos x) (two_pow_pos _)) (sU h1 rfl (ulp b x));unfold dn;rw [if_neg (fun h0 => by rw [h0] at h; exact absurd h (by decide)), h4.1, h3, Rat.intCast_natCast];rfl
theorem aBZ {b : Nat} {x : Rat} (h : 0 < x) : up b x = ((fl (ulp b x) x.num.natAbs x.den + (if fr (ulp b x) x.num.natAbs x.den = 0 then 0 else 1) : Nat) : Rat) * pw (ulp b x) := by
 obtain ⟨N, h1, h2, h3⟩ := oH h;have h4 := pX (Nat.mul_pos (den_pos x) (two_pow_pos _)) (sU h1 rfl (ulp b x));unfold up dn
 rw [if_neg (fun h0 => by have h5 : x = 0 := by grind
                          rw [h5] at h; exact absurd h (by decide)), vF, Rat.neg_mul, h4.2.1, h3, Rat.intCast_neg, Rat.intCast_natCast, Rat.neg_mul, Rat.neg_neg]
 rfl
theorem aI5 {b g : Nat} {s : Int} {x : Rat} (hx : 0 < x) (hb : 0 < b) (hg : bl g = b) (h1 : (g : Rat) * pw s ≤ x) (h2 : x < ((g + 1 : Nat) : Rat) * pw s) : ulp b x = s ∧ fl s x.num.natAbs x.den = g := by
 obtain ⟨N, e1, e2, e3⟩ := oH hx;have h4 := pX (Nat.mul_pos (den_pos x) (two_pow_pos _)) (sU e1 rfl s);have hp := aES (-s);have i1 : (g : Rat) ≤ x * pw (-s) := by
  have := Rat.mul_le_mul_of_nonneg_right h1 (Rat.le_of_lt hp)
  rwa [Rat.mul_assoc, yG, Rat.mul_one] at this
 have i2 : x * pw (-s) < ((g + 1 : Nat) : Rat) := by
  have := Rat.mul_lt_mul_of_pos_right h2 hp
  rwa [Rat.mul_assoc, yG, Rat.mul_one] at this
 have hfl : fl s N x.den = g := by
  have j1 : (g : Int) ≤ (x * pw (-s)).floor := Rat.le_floor_iff.2 (by rw [Rat.intCast_natCast]; exact i1);have j2 : (x * pw (-s)).floor < ((g + 1 : Nat) : Int) := Rat.floor_lt_iff.2 (by rw [Rat.intCast_natCast]; exact i2);rw [h4.1] at j1 j2;unfold fl;omega
 unfold ulp;rw [e3];exact ⟨aF2 e2 (den_pos x) hb (by rw [hfl, hg]), hfl⟩
theorem aDd {b : Nat} {x : Rat} (hx : 0 < x) (hb : 0 < b) : bl (fl (ulp b x) x.num.natAbs x.den) = b ∧ ((fl (ulp b x) x.num.natAbs x.den : Nat) : Rat) * pw (ulp b x) ≤ x ∧ x < ((fl (ulp b x) x.num.natAbs x.den + 1 : Nat) : Rat) * pw (ulp b x) := by
 obtain ⟨N, e1, e2, e3⟩ := oH hx;have h4 := pX (Nat.mul_pos (den_pos x) (two_pow_pos _)) (sU e1 rfl (ulp b x));have hp := aES (ulp b x);refine ⟨by rw [e3]; exact aDa e2 (den_pos x) hb |> fun h => by unfold ulp; rw [e3]; exact h, ?_, ?_⟩
 ·have h5 := Rat.floor_le (x * pw (-ulp b x));rw [h4.1, Rat.intCast_natCast] at h5;have := Rat.mul_le_mul_of_nonneg_right h5 (Rat.le_of_lt hp);rw [Rat.mul_assoc, pw_inv', Rat.mul_one] at this;rw [e3]; exact this
 ·have h5 := Rat.lt_floor_add_one (x * pw (-ulp b x));rw [h4.1] at h5;have := Rat.mul_lt_mul_of_pos_right h5 hp;rw [Rat.mul_assoc, pw_inv', Rat.mul_one] at this;rw [e3];have e4 : ((((N * 2 ^ (-ulp b x).toNat / (x.den * 2 ^ (ulp b x).toNat) : Nat) : Int) + 1 : Int) : Rat) = ((fl (ulp b x) N x.den + 1 : Nat) : Rat) := by
   rw [← Rat.intCast_natCast]; rfl
  rw [e4] at this;exact this
theorem aIO {x : Rat} (hx : 0 < x) (s : Int) : fr s x.num.natAbs x.den = 0 ↔ x = ((fl s x.num.natAbs x.den : Nat) : Rat) * pw s := by
 obtain ⟨N, e1, e2, e3⟩ := oH hx;have h4 := pX (Nat.mul_pos (den_pos x) (two_pow_pos _)) (sU e1 rfl s);rw [e3];constructor
 ·intro h;have h5 := h4.2.2 h;have h6 : x * pw (-s) * pw s = ((fl s N x.den : Nat) : Rat) * pw s := by rw [h5]; rfl
  rwa [Rat.mul_assoc, pw_inv', Rat.mul_one] at h6
 ·intro h;have h6 : x * pw (-s) = (((fl s N x.den : Nat) : Int) : Rat) := by
   have : x * pw (-s) = ((fl s N x.den : Nat) : Rat) * pw s * pw (-s) := by rw [← h]
   rwa [Rat.mul_assoc, yG, Rat.mul_one] at this
  have h7 := h4.2.1;rw [h6, ← Rat.intCast_neg, Rat.floor_intCast] at h7;unfold fr;rcases Nat.eq_zero_or_pos (N * 2 ^ (-s).toNat % (x.den * 2 ^ s.toNat)) with h8 | h8
  ·exact h8
  ·rw [if_neg (by omega)] at h7;unfold fl at h7;omega
theorem aIt {b g : Nat} {s : Int} {x : Rat} (hx : 0 < x) (hb : 0 < b) (hg : bl g = b) (h1 : (g : Rat) * pw s ≤ x) (h2 : x < ((g + 1 : Nat) : Rat) * pw s) :
  dn b x = (g : Rat) * pw s ∧ (x = (g : Rat) * pw s → up b x = x) ∧ (x ≠ (g : Rat) * pw s → up b x = ((g + 1 : Nat) : Rat) * pw s) := by
 obtain ⟨u1, u2⟩ := aI5 hx hb hg h1 h2;have f := aIO hx (ulp b x);have d := aBY (b := b) hx;have u := aBZ (b := b) hx;rw [u1, u2] at f d u;refine ⟨d, fun h => ?_, fun h => ?_⟩
 ·rw [u, if_pos (f.2 h)]; exact h.symm
 ·rw [u, if_neg (fun h3 => h (f.1 h3))]
theorem aHV (s : Int) : pw (s + 1) = 2 * pw s := by
 rw [yF, show pw 1 = 2 from by decide, Rat.mul_comm]
theorem aIP {g : Nat} (hg : 0 < g) (j : Nat) : bl (g * 2 ^ j) = bl g + j := by
 obtain ⟨b0, b1, b2⟩ := kH hg;have h1 : 2 ^ (bl g - 1 + j) ≤ g * 2 ^ j := by rw [Nat.pow_add]; exact Nat.mul_le_mul_right _ b1
 have h2 : g * 2 ^ j < 2 ^ (bl g - 1 + j + 1) := by
  rw [show bl g - 1 + j + 1 = bl g + j by omega, Nat.pow_add]; exact (Nat.mul_lt_mul_right (two_pow_pos j)).2 b2
 rw [aFx h1 h2]; omega
theorem aI0 {g : Nat} (s : Int) : (g : Rat) * pw s < ((g + 1 : Nat) : Rat) * pw s :=
 Rat.mul_lt_mul_of_pos_right (Rat.natCast_lt_natCast.2 (Nat.lt_succ_self g)) (aES s)
theorem aIv {g : Nat} (hg : 0 < g) (s : Int) : 0 < (g : Rat) * pw s := Rat.mul_pos (Rat.natCast_pos.2 hg) (aES s)
theorem aIw {n g : Nat} {s : Int} (hg : 0 < g) (h : bl g ≤ n) : dn n ((g : Rat) * pw s) = (g : Rat) * pw s ∧ up n ((g : Rat) * pw s) = (g : Rat) * pw s := by
 obtain ⟨b0, -, -⟩ := kH hg;obtain ⟨j, hj⟩ : ∃ j : Nat, n = bl g + j := ⟨n - bl g, by omega⟩
 have e : (g : Rat) * pw s = ((g * 2 ^ j : Nat) : Rat) * pw (s - j) := by
  rw [Rat.natCast_mul, ← lQ, Rat.mul_assoc, ← yF];congr 2; omega
 have hg' : 0 < g * 2 ^ j := Nat.mul_pos hg (two_pow_pos j);rw [e];have key := aIt (b := n) (aIv hg' (s - j)) (by omega) (by rw [aIP hg]; omega) Rat.le_refl (aI0 (g := g * 2 ^ j) (s - j));exact ⟨key.1, key.2.1 rfl⟩
theorem aI6 {n g : Nat} {s : Int} (hn : 0 < n) (hg : 0 < g) (h : g ≤ 2 ^ n) : dn n ((g : Rat) * pw s) = (g : Rat) * pw s ∧ up n ((g : Rat) * pw s) = (g : Rat) * pw s := by
 rcases Nat.lt_or_ge g (2 ^ n) with h1 | h1
 ·exact aIw hg ((aT _ _).2 h1)
 ·obtain ⟨m, rfl⟩ : ∃ m, n = m + 1 := ⟨n - 1, by omega⟩
  have e : (g : Rat) * pw s = ((2 ^ m : Nat) : Rat) * pw (s + 1) := by
   rw [show g = 2 ^ m * 2 by rw [← Nat.pow_succ]; omega, Rat.natCast_mul, Rat.mul_assoc, aHV]; rfl
  rw [e];refine aIw (two_pow_pos m) ?_;rw [aFx (k := m) (Nat.le_refl _) (Nat.pow_lt_pow_right (by decide) (by omega))];omega
theorem aIE (g : Nat) : ((g : Nat) : Rat) = 2 * ((g / 2 : Nat) : Rat) + ((g % 2 : Nat) : Rat) := by
 have h : g = 2 * (g / 2) + g % 2 := by omega
 have h2 : ((g : Nat) : Rat) = ((2 * (g / 2) + g % 2 : Nat) : Rat) := by rw [← h]
 rw [h2, Rat.natCast_add, Rat.natCast_mul]; rfl
theorem aI7 {K P : Rat} (hP : 0 < P) : K * P ≤ (K * P + (K + 1) * P) * (1 / 2) ∧ (K * P + (K + 1) * P) * (1 / 2) < (K + 1) * P ∧ (K * P + (K + 1) * P) * (1 / 2) ≠ K * P := by
 have e : (K * P + (K + 1) * P) * (1 / 2) = K * P + P * (1 / 2) := by grind
 have e2 : (K + 1) * P = K * P + P := by grind
 rw [e, e2];refine ⟨by grind, by grind, by grind⟩
structure Near (n : Nat) (x : Rat) : Prop where
 n1 : dn n x ≤ dn (n + 1) x
 n2 : dn (n + 1) x ≤ x
 n3 : x ≤ up (n + 1) x
 n4 : up (n + 1) x ≤ up n x
 n5 : dn n x = up n x → dn n x = x
 n6 : dn n x ≠ up n x → dn n x < x ∧ x < up n x ∧ dn n ((dn n x + up n x) * (1 / 2)) = dn n x ∧ up n ((dn n x + up n x) * (1 / 2)) = up n x ∧ dn n (dn n x) = dn n x ∧ up n (up n x) = up n x
theorem aIx {n : Nat} {x : Rat} (hn : 0 < n) (hx : 0 < x) : Near n x := by
 obtain ⟨b1, l1, r1⟩ := aDd (b := n + 1) hx (by omega);obtain ⟨s, hs⟩ : ∃ s, ulp (n + 1) x = s := ⟨_, rfl⟩
 obtain ⟨g, hg⟩ : ∃ g, fl s x.num.natAbs x.den = g := ⟨_, rfl⟩
 rw [hs, hg] at b1 l1 r1;have D1 := aIt hx (by omega) b1 l1 r1;have hp := aES s
 have hg0 : 0 < g := by rcases Nat.eq_zero_or_pos g with h | h; · rw [h, lC] at b1; omega
                        ·exact h
 have hh := aIE g;have hm : g % 2 = 0 ∨ g % 2 = 1 := by omega
 have bh : bl (g / 2) = n := by rw [aAD]; omega
 obtain ⟨k, hk⟩ : ∃ k, g / 2 = k := ⟨_, rfl⟩
 rw [hk] at hh bh
 have hk0 : 0 < k := by rcases Nat.eq_zero_or_pos k with h | h; · rw [h, lC] at bh; omega
                        ·exact h
 have hk2 : k + 1 ≤ 2 ^ n := (aT _ _).1 (Nat.le_of_eq bh);have c1 : ((g + 1 : Nat) : Rat) = (g : Rat) + 1 := Rat.natCast_add _ _;have c2 : ((k + 1 : Nat) : Rat) = (k : Rat) + 1 := Rat.natCast_add _ _;have l0 : (k : Rat) * pw (s + 1) ≤ x := by
  rw [aHV];rcases hm with h | h <;> rw [h] at hh
  ·have : (k : Rat) * (2 * pw s) = (g : Rat) * pw s := (by rw [hh]; simp; grind);rw [this]; exact l1
  ·have : (k : Rat) * (2 * pw s) + pw s = (g : Rat) * pw s := (by rw [hh]; simp; grind);grind
 have r0 : x < ((k + 1 : Nat) : Rat) * pw (s + 1) := by
  rw [aHV, c2];rw [c1] at r1;rcases hm with h | h <;> rw [h] at hh
  ·have : ((k : Rat) + 1) * (2 * pw s) = ((g : Rat) + 1) * pw s + pw s := (by rw [hh]; simp; grind);grind
  ·have : ((k : Rat) + 1) * (2 * pw s) = ((g : Rat) + 1) * pw s := (by rw [hh]; simp; grind);rw [this]; exact r1
 have D0 := aIt hx hn bh l0 r0;have u0 : x ≤ up n x := by
  rcases Classical.em (x = (k : Rat) * pw (s + 1)) with h | h
  ·rw [D0.2.1 h]; exact Rat.le_refl
  ·rw [D0.2.2 h]; exact Rat.le_of_lt r0
 have u1 : x ≤ up (n + 1) x := by
  rcases Classical.em (x = (g : Rat) * pw s) with h | h
  ·rw [D1.2.1 h]; exact Rat.le_refl
  ·rw [D1.2.2 h]; exact Rat.le_of_lt r1
 have n1 : dn n x ≤ dn (n + 1) x := by
  rw [D0.1, D1.1, aHV];rcases hm with h | h <;> rw [h] at hh
  ·have : (k : Rat) * (2 * pw s) = (g : Rat) * pw s := (by rw [hh]; simp; grind);rw [this]; exact Rat.le_refl
  ·have : (k : Rat) * (2 * pw s) + pw s = (g : Rat) * pw s := (by rw [hh]; simp; grind);grind
 have n4 : up (n + 1) x ≤ up n x := by
  rcases Classical.em (x = (g : Rat) * pw s) with h1 | h1
  ·rw [D1.2.1 h1]; exact u0
  ·have h0 : x ≠ (k : Rat) * pw (s + 1) := by
    intro h0;rcases hm with h | h <;> rw [h] at hh
    ·refine h1 ?_;rw [h0, aHV, hh]; simp; grind
    ·have : (k : Rat) * (2 * pw s) + pw s = (g : Rat) * pw s := (by rw [hh]; simp; grind);rw [aHV] at h0;grind
   rw [D1.2.2 h1, D0.2.2 h0, aHV, c1, c2];rcases hm with h | h <;> rw [h] at hh
   ·have : ((k : Rat) + 1) * (2 * pw s) = ((g : Rat) + 1) * pw s + pw s := (by rw [hh]; simp; grind);grind
   ·have : ((k : Rat) + 1) * (2 * pw s) = ((g : Rat) + 1) * pw s := (by rw [hh]; simp; grind);rw [this]; exact Rat.le_refl
 refine ⟨n1, by rw [D1.1]; exact l1, u1, n4, ?_, ?_⟩
 ·intro h;refine Rat.le_antisymm (by rw [D0.1]; exact l0) ?_;rw [h]; exact u0
 ·intro h;have hne : x ≠ (k : Rat) * pw (s + 1) := fun h1 => h (by rw [D0.1, D0.2.1 h1]; exact h1.symm);have eD := D0.1;have eU := D0.2.2 hne;have hlt : dn n x < x := by
   rw [eD];refine Rat.not_le.1 fun h1 => hne (Rat.le_antisymm h1 l0)
  have hmid := aI7 (K := (k : Rat)) (aES (s + 1));rw [← c2] at hmid;obtain ⟨m1, m2, m3⟩ := hmid;have m0 := aIv hk0 (s + 1);have DM := aIt (by grind) hn bh m1 m2;refine ⟨hlt, by rw [eU]; exact r0, ?_, ?_, ?_, ?_⟩
  ·rw [eD, eU]; exact DM.1
  ·rw [eD, eU]; exact DM.2.2 m3
  ·rw [eD]; exact (aIw hk0 (by omega)).1
  ·rw [eU]; exact (aI6 hn (by omega) hk2).2
theorem aIQ {n : Nat} {x : Rat} (h : Near n (-x)) : Near n x := by
 obtain ⟨a1, a2, a3, a4, a5, a6⟩ := h;simp only [aET, aBX] at *
 obtain ⟨d, hd⟩ : ∃ d, dn n x = d := ⟨_, rfl⟩
 obtain ⟨u, hu⟩ : ∃ u, up n x = u := ⟨_, rfl⟩
 obtain ⟨d1, hd1⟩ : ∃ d, dn (n + 1) x = d := ⟨_, rfl⟩
 obtain ⟨u1, hu1⟩ : ∃ u, up (n + 1) x = u := ⟨_, rfl⟩
 rw [hd, hu] at a5 a6;rw [hd1, hd] at a4;rw [hu, hu1] at a1;rw [hu1] at a2;rw [hd1] at a3;refine ⟨by rw [hd, hd1]; grind, by rw [hd1]; grind, by rw [hu1]; grind, by rw [hu1, hu]; grind, ?_, ?_⟩
 ·rw [hd, hu];intro h;have := a5 (by rw [h]);grind
 ·rw [hd, hu];intro h;obtain ⟨b1, b2, b3, b4, b5, b6⟩ := a6 (by intro h1; exact h (by grind));have e : (-u + -d) * (1 / 2) = -((d + u) * (1 / 2)) := (by grind);rw [e, aET] at b3;rw [e, aBX] at b4;refine ⟨by grind, by grind, by grind, by grind, by grind, by grind⟩
theorem near {n : Nat} (hn : 0 < n) (x : Rat) : Near n x := by
 rcases (show x < 0 ∨ x = 0 ∨ 0 < x by grind) with h | h | h
 ·exact aIQ (aIx hn (by grind))
 ·subst h;have z1 := vE n; have z2 := aEa n; have z3 := vE (n + 1); have z4 := aEa (n + 1);refine ⟨by rw [z1, z3]; exact Rat.le_refl, by rw [z3]; exact Rat.le_refl, by rw [z4]; exact Rat.le_refl, by rw [z4, z2]; exact Rat.le_refl, fun _ => z1, fun h => absurd (by rw [z1, z2]) h⟩
 ·exact aIx hn h
def sn (x : Rat) : Int := if x < 0 then -1 else if x = 0 then 0 else 1
def rc (x y : Rat) : Int := if x < y then -1 else if y < x then 1 else 0
theorem aDN {x y : Rat} (h : x < y) : rc x y = -1 := if_pos h
theorem aDO {x y : Rat} (h : y < x) : rc x y = 1 := by unfold rc; rw [if_neg (by grind), if_pos h]
theorem aFz (x : Rat) : rc x x = 0 := by unfold rc; rw [if_neg (by grind), if_neg (by grind)]
theorem yH (x y : Rat) : (x < y ∧ rc x y = -1) ∨ (x = y ∧ rc x y = 0) ∨ (y < x ∧ rc x y = 1) := by
 rcases (show x < y ∨ x = y ∨ y < x by grind) with h | h | h
 ·exact Or.inl ⟨h, aDN h⟩
 ·subst h; exact Or.inr (Or.inl ⟨rfl, aFz x⟩)
 ·exact Or.inr (Or.inr ⟨h, aDO h⟩)
theorem dF (x : Rat) : (x < 0 ∧ sn x = -1) ∨ (x = 0 ∧ sn x = 0) ∨ (0 < x ∧ sn x = 1) := by
 unfold sn;rcases (show x < 0 ∨ x = 0 ∨ 0 < x by grind) with h | h | h
 ·exact Or.inl ⟨h, if_pos h⟩
 ·exact Or.inr (Or.inl ⟨h, by rw [if_neg (by grind), if_pos h]⟩)
 ·exact Or.inr (Or.inr ⟨h, by rw [if_neg (by grind), if_neg (by grind)]⟩)
theorem aFA (x y : Rat) : rc x y ≤ 0 ↔ x ≤ y := by
 rcases yH x y with ⟨h, e⟩ | ⟨h, e⟩ | ⟨h, e⟩ <;> rw [e] <;> constructor <;> intro h2 <;> grind
theorem aDP (x y : Rat) : 0 ≤ rc x y ↔ y ≤ x := by
 rcases yH x y with ⟨h, e⟩ | ⟨h, e⟩ | ⟨h, e⟩ <;> rw [e] <;> constructor <;> intro h2 <;> grind
def aK (x y : Rat) : Rat := if x ≤ y then x else y
def aG (x y : Rat) : Rat := if y ≤ x then x else y
theorem yI (x y : Rat) : aK x y ≤ aG x y := by unfold aK aG; split <;> split <;> grind
theorem uF (x : Rat) : sn x = x.num.sign := by
 rcases dF x with ⟨h, e⟩ | ⟨h, e⟩ | ⟨h, e⟩ <;> rw [e]
 ·exact (Int.sign_eq_neg_one_of_neg (rG h)).symm
 ·subst h; rfl
 ·exact (Int.sign_eq_one_of_pos (jN h)).symm
theorem bG (x : Rat) : x.num < 0 ↔ x < 0 := by
 constructor
 ·intro h;rcases (show x < 0 ∨ 0 ≤ x by grind) with h2 | h2
  ·exact h2
  ·have := Rat.num_nonneg.2 h2; omega
 ·exact rG
theorem aEU (x y : Rat) : rc x y = if x.num * y.den < y.num * x.den then -1 else if y.num * x.den < x.num * y.den then 1 else 0 := by
 unfold rc;have h1 := Rat.lt_iff x y;have h2 := Rat.lt_iff y x;by_cases c1 : x < y
 ·rw [if_pos c1, if_pos (h1.1 c1)]
 ·rw [if_neg c1, if_neg (fun h => c1 (h1.2 h))];by_cases c2 : y < x
  ·rw [if_pos c2, if_pos (h2.1 c2)]
  ·rw [if_neg c2, if_neg (fun h => c2 (h2.2 h))]
theorem aDe {x y : Rat} (h : sn x = sn y) : rc x y = sn x * cmp (x.num.natAbs * y.den) (y.num.natAbs * x.den) := by
 rw [aEU];rcases dF x with ⟨h1, e⟩ | ⟨h1, e⟩ | ⟨h1, e⟩ <;> rw [e] at h ⊢ <;> rcases dF y with ⟨h2, e2⟩ | ⟨h2, e2⟩ | ⟨h2, e2⟩ <;> rw [e2] at h <;> try (exfalso; omega)
 ·obtain ⟨a, ha⟩ : ∃ a : Nat, x.num = -a := ⟨x.num.natAbs, by have := rG h1; omega⟩
  obtain ⟨b, hb⟩ : ∃ b : Nat, y.num = -b := ⟨y.num.natAbs, by have := rG h2; omega⟩
  have e1 : x.num.natAbs = a := (by omega);have e3 : y.num.natAbs = b := (by omega);rw [e1, e3, ha, hb, Int.neg_mul, Int.neg_mul, ← Int.natCast_mul, ← Int.natCast_mul];unfold cmp
  repeat' split
  all_goals omega
 ·subst h1 h2; rfl
 ·obtain ⟨a, ha⟩ : ∃ a : Nat, x.num = a := ⟨x.num.natAbs, by have := jN h1; omega⟩
  obtain ⟨b, hb⟩ : ∃ b : Nat, y.num = b := ⟨y.num.natAbs, by have := jN h2; omega⟩
  have e1 : x.num.natAbs = a := (by omega);have e3 : y.num.natAbs = b := (by omega);rw [e1, e3, ha, hb, ← Int.natCast_mul, ← Int.natCast_mul];unfold cmp
  repeat' split
  all_goals omega
theorem aB0 {M N : Nat} (hM : 0 < M) (hN : 0 < N) : bl M + bl N - 1 ≤ bl (M * N) ∧ bl (M * N) ≤ bl M + bl N := by
 obtain ⟨m0, m1, m2⟩ := kH hM;obtain ⟨n0, n1, n2⟩ := kH hN;constructor
 ·have h1 := Nat.mul_le_mul m1 n1;rw [← Nat.pow_add] at h1;have := (fT (M * N) (bl M - 1 + (bl N - 1))).2 h1;omega
 ·rw [aT, Nat.pow_add];exact Nat.mul_lt_mul'' m2 n2
theorem aDQ {M N : Nat} (h : bl M < bl N) : M < N := by
 have h1 := (aT M (bl M)).1 (Nat.le_refl _);have h2 := (fT N (bl M)).1 h;omega
theorem sH {a b c d : Nat} (ha : 0 < a) (hb : 0 < b) (hc : 0 < c) (hd : 0 < d) :
  (bl c + bl d + 1 < bl a + bl b → cmp (a * b) (c * d) = 1) ∧ (bl a + bl b + 1 < bl c + bl d → cmp (a * b) (c * d) = -1) := by
 have h1 := aB0 ha hb;have h2 := aB0 hc hd;exact ⟨fun h => gT (aDQ (by omega)), fun h => fQ (aDQ (by omega))⟩
theorem three {b : Nat} {ds : List Nat} {k : Nat} (h : ds.length = k + 3) : vl b (ds.drop k) = ds[k]'(by omega) + b * (ds[k + 1]'(by omega) + b * ds[k + 2]'(by omega)) := by
 rw [bS b (show k < ds.length by omega), oC (n := k + 1) (by omega)]
theorem guess_parts' {b h : Nat} (hb : b = 18446744073709551616) (hh : h = 9223372036854775808) {k : Nat} {ys ps : List Nat} (ly : ys.length = k + 2) (lp : ps.length = k + 3) (hy : ∀ d ∈ ys, d < b) (hp : ∀ d ∈ ps, d < b) (hP : vl b ps < vl b ys * b) (hn : b ^ (k + 2) ≤ 2 * vl b ys) : ∃ v y2 pn pm p2 : Nat, ys[k + 1]? = some v ∧ ys[k]? = some y2 ∧ ps[k + 2]? = some pn ∧ ps[k + 1]? = some pm ∧ ps[k]? = some p2 ∧ v < b ∧ y2 < b ∧ pn < b ∧ pm < b ∧ p2 < b ∧ h ≤ v ∧ (v ≤ pn → vl b ps / vl b ys ≤ (b - 1) ∧ (b - 1) ≤ vl b ps / vl b ys + 1) ∧
   (pn < v → ∀ g, g = ((pn * b + pm) * b + p2) / (v * b + y2) → vl b ps / vl b ys ≤ g ∧ g ≤ vl b ps / vl b ys + 1) := by
 have hb1 : 1 < b := by omega
 have hbh : b = 2 * h := by omega
 have m0 := hy _ (List.getElem_mem (show k < ys.length by omega));have m1 := hy _ (List.getElem_mem (show k + 1 < ys.length by omega));have q0 := hp _ (List.getElem_mem (show k < ps.length by omega));have q1 := hp _ (List.getElem_mem (show k + 1 < ps.length by omega));have q2 := hp _ (List.getElem_mem (show k + 2 < ps.length by omega));have eY := bI b k ys (by omega);have eP := bI b k ps (by omega);have lY := bV (aI (n := k) hy);have lP := bV (aI (n := k) hp);rw [List.length_take, Nat.min_eq_left (by omega)] at lY lP;rw [oC ly] at eY;rw [three lp] at eP;refine ⟨_, _, _, _, _, List.getElem?_eq_getElem (by omega), List.getElem?_eq_getElem (by omega), List.getElem?_eq_getElem (by omega), List.getElem?_eq_getElem (by omega), List.getElem?_eq_getElem (by omega), m1, m0, q2, q1, q0, ?_⟩;generalize ys[k] = y2 at *
 generalize ys[k + 1] = v at *
 generalize ps[k] = p2 at *
 generalize ps[k + 1] = pm at *
 generalize ps[k + 2] = pn at *
 generalize vl b (ys.take k) = yl at *
 generalize vl b (ps.take k) = pl at *
 generalize vl b ys = Y at *
 generalize vl b ps = P at *
 have hB : 0 < b ^ k := Nat.pow_pos (by omega);rw [Nat.pow_add] at hn;generalize b ^ k = B at *
 have eY' : Y = (v * b + y2) * B + yl := by rw [eY]; grind
 have eP' : P = ((pn * b + pm) * b + p2) * B + pl := by rw [eP]; grind
 have hv : h ≤ v := by
  rcases Nat.lt_or_ge v h with h1 | h1
  ·exfalso;have a1 : 2 * (v + 1) ≤ b := (by omega);have a2 : (v * b + y2) * B + yl < (v + 1) * b * B := by
    have : (v + 1) * b * B = (v * b + b) * B := (by grind);have a3 : (v * b + y2 + 1) * B ≤ (v * b + b) * B := Nat.mul_le_mul_right _ (by omega);rw [Nat.add_mul _ 1, Nat.one_mul] at a3;omega
   have a3 : 2 * (v + 1) * (b * B) ≤ b * (b * B) := Nat.mul_le_mul_right _ a1;have a4 : B * b ^ 2 = b * (b * B) := (by grind);have a5 : 2 * (v + 1) * (b * B) = 2 * ((v + 1) * b * B) := (by grind);omega
  ·exact h1
 refine ⟨hv, fun hpn => ?_, fun hpn g hg => ?_⟩
 ·have key := aBO (P := P) (v := v) (B := b * B) (y := y2 * B + yl) (by rw [← hh]; exact hv) (by
   have a3 : (y2 + 1) * B ≤ b * B := Nat.mul_le_mul_right _ (by omega);rw [Nat.add_mul, Nat.one_mul] at a3;omega) (by rw [← hb, show v * (b * B) + (y2 * B + yl) = Y by rw [eY']; grind]; exact hP) (by
   rw [← hb];have a1 : v * (b * B * b) ≤ pn * (b * B * b) := Nat.mul_le_mul_right _ hpn;have a2 : P = pn * (b * B * b) + (pm * b * B + p2 * B + pl) := (by rw [eP']; grind);omega)
  rw [show v * (b * B) + (y2 * B + yl) = Y by rw [eY']; grind, show (18446744073709551615 : Nat) = b - 1 by omega] at key;exact key
 ·rw [eY', eP', hg];refine aBN ?_ lP lY ?_
  ·rw [← hb, ← hh];have := Nat.mul_le_mul_right b hv;omega
  ·rw [← hb];have I := Gw.init (pn := pn) (pm := pm) (v := v) (y2 := y2) (p2 := p2) hpn (by rw [← hb]; exact m1) (by rw [← hb]; exact q1) (by rw [← hb]; exact q0);rw [← hb] at I;have i1 := I.ge;have i2 := I.gl;rw [← hb] at i1 i2;exact Nat.lt_of_le_of_lt i1 i2
theorem aAf {k : Nat} {ys ps : List Nat} (ly : ys.length = k + 2) (lp : ps.length = k + 3) (hy : ∀ d ∈ ys, d < 18446744073709551616) (hp : ∀ d ∈ ps, d < 18446744073709551616) (hP : vl 18446744073709551616 ps < vl 18446744073709551616 ys * 18446744073709551616) (hn : 18446744073709551616 ^ (k + 2) ≤ 2 * vl 18446744073709551616 ys) : ∃ v y2 pn pm p2 : Nat, ys[k + 1]? = some v ∧ ys[k]? = some y2 ∧ ps[k + 2]? = some pn ∧ ps[k + 1]? = some pm ∧ ps[k]? = some p2 ∧ v < 18446744073709551616 ∧ y2 < 18446744073709551616 ∧ pn < 18446744073709551616 ∧ pm < 18446744073709551616 ∧ p2 < 18446744073709551616 ∧ 9223372036854775808 ≤ v ∧ (v ≤ pn → vl 18446744073709551616 ps / vl 18446744073709551616 ys ≤ 18446744073709551615 ∧ 18446744073709551615 ≤ vl 18446744073709551616 ps / vl 18446744073709551616 ys + 1) ∧ (pn < v → ∀ g, g = ((pn * 18446744073709551616 + pm) * 18446744073709551616 + p2) / (v * 18446744073709551616 + y2) → vl 18446744073709551616 ps / vl 18446744073709551616 ys ≤ g ∧ g ≤ vl 18446744073709551616 ps / vl 18446744073709551616 ys + 1) :=
 guess_parts' rfl rfl ly lp hy hp hP hn
theorem aAg {cs o : List Nat} {i n : Nat} (lo : o.length = n) (h : i + n ≤ cs.length) : (cs.take i ++ o ++ cs.drop (i + n)).take i = cs.take i ∧ (cs.take i ++ o ++ cs.drop (i + n)).drop (i + n) = cs.drop (i + n) ∧ ((cs.take i ++ o ++ cs.drop (i + n)).drop i).take n = o := by
 have lt : (cs.take i).length = i := by rw [List.length_take]; omega
 refine ⟨?_, ?_, ?_⟩
 ·rw [List.append_assoc, List.take_append_of_le_length (by omega), List.take_of_length_le (by omega)]
 ·rw [List.drop_append_of_le_length (by rw [List.length_append]; omega), List.drop_of_length_le (by rw [List.length_append]; omega), List.nil_append]
 ·rw [List.append_assoc, List.drop_append_of_le_length (by omega), List.drop_of_length_le (by omega), List.nil_append, List.take_append_of_le_length (by omega), List.take_of_length_le (by omega)]
theorem nL {cs o : List Nat} {i n K : Nat} (lo : o.length = n) (lc : cs.length = K) (h : i + n + 1 ≤ K) (hz : cs.drop (i + 1 + n) = List.replicate (K - (i + 1 + n)) 0) :
  (cs.take i ++ o ++ cs.drop (i + n)).set (i + n) 0 = cs.take i ++ o ++ List.replicate (K - (i + n)) 0 := by
 have lt : (cs.take i).length = i := by rw [List.length_take]; omega
 rw [List.set_append_right _ _ (by rw [List.length_append]; omega), List.length_append, lt, lo, Nat.sub_self];congr 1;rw [List.drop_eq_getElem_cons (by omega), List.set_cons_zero, show i + n + 1 = i + 1 + n by omega, hz, show K - (i + n) = K - (i + 1 + n) + 1 by omega, List.replicate_succ]
theorem wK {b : Nat} {cs : List Nat} {i n K : Nat} (lc : cs.length = K) (h : i + n + 1 ≤ K) (hz : cs.drop (i + 1 + n) = List.replicate (K - (i + 1 + n)) 0) :
  vl b cs = vl b (cs.take i) + b ^ i * vl b ((cs.drop i).take (n + 1)) := by
 rw [bI b i cs (by omega)];congr 2;rw [bI b (n + 1) (cs.drop i) (by rw [List.length_drop]; omega), List.drop_drop, show i + (n + 1) = i + 1 + n by omega, hz, iD, Nat.mul_zero, Nat.add_zero]
theorem aEb {b : Nat} {cs : List Nat} {i n K M : Nat} (hb : 2 ≤ b) (lc : cs.length = K) (h : i + n + 1 ≤ K) (hz : cs.drop (i + 1 + n) = List.replicate (K - (i + 1 + n)) 0)
  (hlt : vl b cs < M * b ^ (i + 1)) : vl b ((cs.drop i).take (n + 1)) < M * b := by
 rw [wK lc h hz] at hlt;have hp : 0 < b ^ i := Nat.pow_pos (by omega);generalize vl b ((cs.drop i).take (n + 1)) = P at *
 generalize vl b (cs.take i) = L at *
 have e : M * b ^ (i + 1) = b ^ i * (M * b) := by rw [Nat.pow_succ]; grind
 rw [e] at hlt;exact Nat.lt_of_mul_lt_mul_left (a := b ^ i) (by omega)
theorem aDf {b : Nat} {cs : List Nat} {i n K : Nat} (lc : cs.length = K) (h : i + n + 1 ≤ K) :
  vl b ((cs.drop i).take (n + 1)) = vl b ((cs.drop i).take n) + b ^ n * cs[i + n]'(by omega) := by
 have hl : n < (cs.drop i).length := by rw [List.length_drop]; omega
 rw [dZ b hl];congr 2;rw [List.getElem_drop]
theorem wL {b : Nat} {cs o qs : List Nat} {i n K M X q : Nat} (hb : 2 ≤ b) (hM : 0 < M) (lc : cs.length = K) (h : i + n + 1 ≤ K) (hz : cs.drop (i + 1 + n) = List.replicate (K - (i + 1 + n)) 0) (hcs : ∀ d ∈ cs, d < b) (hX : vl b (qs.drop (i + 1)) * b ^ (i + 1) * M + vl b cs = X) (hqi : i < qs.length) (lo : o.length = n) (ho : ∀ d ∈ o, d < b) (hv : vl b o = vl b ((cs.drop i).take (n + 1)) % M) (hq : vl b ((cs.drop i).take (n + 1)) / M = q) : (cs.take i ++ o ++ List.replicate (K - (i + n)) 0).length = K ∧ (cs.take i ++ o ++ List.replicate (K - (i + n)) 0).drop (i + n) = List.replicate (K - (i + n)) 0 ∧ (∀ d ∈ cs.take i ++ o ++ List.replicate (K - (i + n)) 0, d < b) ∧ vl b (cs.take i ++ o ++ List.replicate (K - (i + n)) 0) < M * b ^ i ∧
  vl b ((qs.set i q).drop i) * b ^ i * M + vl b (cs.take i ++ o ++ List.replicate (K - (i + n)) 0) = X := by
 have lt : (cs.take i).length = i := by rw [List.length_take]; omega
 have ev : vl b (cs.take i ++ o ++ List.replicate (K - (i + n)) 0) = vl b (cs.take i) + b ^ i * vl b o := by rw [nJ, fD, lt]
 have hl := bV (aI (n := i) hcs);rw [lt] at hl;have hm := Nat.mod_lt (vl b ((cs.drop i).take (n + 1))) hM;have hd := Nat.div_add_mod (vl b ((cs.drop i).take (n + 1))) M;have ep := wK (b := b) lc h hz;rw [hq, ← hv] at hd;rw [← hv] at hm;refine ⟨by rw [List.length_append, List.length_append, List.length_replicate]; omega, ?_, ?_, ?_, ?_⟩
 ·rw [List.drop_append_of_le_length (by rw [List.length_append]; omega), List.drop_of_length_le (by rw [List.length_append]; omega), List.nil_append]
 ·exact rC (by omega) (gW (aI hcs) ho)
 ·rw [ev];have h1 : b ^ i * (vl b o + 1) ≤ b ^ i * M := Nat.mul_le_mul_left _ hm;rw [Nat.mul_add, Nat.mul_one] at h1;rw [Nat.mul_comm M];omega
 ·rw [ev, bS b (ds := qs.set i q) (by rw [List.length_set]; exact hqi), List.getElem_set_self, drop_set (by omega), ← hX, ep, ← hd, Nat.pow_succ];grind
theorem aEV {t s b : Nat} (h : b < 2 ^ s) : t * 2 ^ s ||| b = t * 2 ^ s + b := by
 rw [Nat.mul_comm, ← Nat.two_pow_add_eq_or_of_lt h]
theorem top_word' {W : Nat} (hW : W = 2 ^ 64) {k s t a : Nat} {ds : List Nat} (l : ds.length = k + 2) (hd : ∀ d ∈ ds, d < W) (hs : s ≤ 64) (ht : ds[k + 1]? = some t) (ha : ds[k]? = some a) (hts : t * 2 ^ s < W) : vl W ds / (W ^ k * 2 ^ (64 - s)) = t * 2 ^ s + a / 2 ^ (64 - s) ∧ (t * 2 ^ s) ||| (a / 2 ^ (64 - s)) = t * 2 ^ s + a / 2 ^ (64 - s) ∧
   t * 2 ^ s + a / 2 ^ (64 - s) < W := by
 obtain ⟨h1, rfl⟩ := List.getElem?_eq_some_iff.1 ht;obtain ⟨h0, rfl⟩ := List.getElem?_eq_some_iff.1 ha;have ba := hd _ (List.getElem_mem h0);have hv := gB (b := W) (n := k) (xs := ds) (by rw [hW]; decide) (by omega) hd;rw [oC l] at hv;have hWs : W = 2 ^ s * 2 ^ (64 - s) := by rw [← Nat.pow_add, show s + (64 - s) = 64 by omega, hW]
 have hf : 0 < 2 ^ s := Nat.pow_pos (by decide);have hg : 0 < 2 ^ (64 - s) := Nat.pow_pos (by decide);have hb : ds[k] / 2 ^ (64 - s) < 2 ^ s := by rw [Nat.div_lt_iff_lt_mul hg, ← hWs]; exact ba
 refine ⟨?_, aEV hb, ?_⟩
 ·rw [← Nat.div_div_eq_div_mul, ← hv, hWs];have e : ds[k] + 2 ^ s * 2 ^ (64 - s) * ds[k + 1] = ds[k] + 2 ^ (64 - s) * (ds[k + 1] * 2 ^ s) := by
   congr 1;rw [Nat.mul_comm (2 ^ s), Nat.mul_assoc, Nat.mul_comm (2 ^ s)]
  rw [e, Nat.add_mul_div_left _ _ hg, Nat.add_comm]
 ·generalize 2 ^ s = f at *
  generalize 2 ^ (64 - s) = g at *
  generalize ds[k + 1] = t at *
  have h2 : t < g := by
   rw [hWs, Nat.mul_comm f] at hts;exact Nat.lt_of_mul_lt_mul_right hts
  have h3 : (t + 1) * f ≤ g * f := Nat.mul_le_mul_right _ h2;rw [Nat.add_mul, Nat.one_mul] at h3;rw [hWs, Nat.mul_comm f g];omega
theorem yJ {k s t a : Nat} {ds : List Nat} (l : ds.length = k + 2) (hd : ∀ d ∈ ds, d < 18446744073709551616) (hs : s ≤ 64) (ht : ds[k + 1]? = some t) (ha : ds[k]? = some a) (hts : t * 2 ^ s < 18446744073709551616) : vl 18446744073709551616 ds / (18446744073709551616 ^ k * 2 ^ (64 - s)) = t * 2 ^ s + a / 2 ^ (64 - s) ∧ (t * 2 ^ s) ||| (a / 2 ^ (64 - s)) = t * 2 ^ s + a / 2 ^ (64 - s) ∧ t * 2 ^ s + a / 2 ^ (64 - s) < 18446744073709551616 :=
 top_word' rfl l hd hs ht ha hts
theorem aHR (x y : Rat) : aK x y ≤ x ∧ aK x y ≤ y := by unfold aK; split <;> grind
theorem aEc (x y : Rat) : x ≤ aG x y ∧ y ≤ aG x y := by unfold aG; split <;> grind
theorem aAF (x y : Rat) : aK x y = x ∨ aK x y = y := by unfold aK; split <;> simp
theorem aEd (x y : Rat) : aG x y = x ∨ aG x y = y := by unfold aG; split <;> simp
theorem aEW {a b c : Rat} (h : a ≤ b) (hc : 0 ≤ c) : a * c ≤ b * c := Rat.mul_le_mul_of_nonneg_right h hc
theorem aFP {a b c : Rat} (h : a ≤ b) (hc : 0 ≤ c) : c * a ≤ c * b := Rat.mul_le_mul_of_nonneg_left h hc
theorem mulr' {a b c : Rat} (h : a ≤ b) (hc : c ≤ 0) : b * c ≤ a * c := by
 have := aEW h (c := -c) (by grind);grind
theorem mull' {a b c : Rat} (h : a ≤ b) (hc : c ≤ 0) : c * b ≤ c * a := by
 have := aFP h (c := -c) (by grind);grind
def aHN (a b c d : Rat) : Rat := aK (aK (aK (a * c) (a * d)) (b * c)) (b * d)
def aHO (a b c d : Rat) : Rat := aG (aG (aG (a * c) (a * d)) (b * c)) (b * d)
theorem aIf (a b c d : Rat) : aHN a b c d ≤ a * c ∧ aHN a b c d ≤ a * d ∧ aHN a b c d ≤ b * c ∧ aHN a b c d ≤ b * d := by
 have h1 := aHR (a * c) (a * d);have h2 := aHR (aK (a * c) (a * d)) (b * c);have h3 := aHR (aK (aK (a * c) (a * d)) (b * c)) (b * d);unfold aHN;grind
theorem aIg (a b c d : Rat) : a * c ≤ aHO a b c d ∧ a * d ≤ aHO a b c d ∧ b * c ≤ aHO a b c d ∧ b * d ≤ aHO a b c d := by
 have h1 := aEc (a * c) (a * d);have h2 := aEc (aG (a * c) (a * d)) (b * c);have h3 := aEc (aG (aG (a * c) (a * d)) (b * c)) (b * d);unfold aHO;grind
theorem aHY (a b c d : Rat) : aHN a b c d = a * c ∨ aHN a b c d = a * d ∨ aHN a b c d = b * c ∨ aHN a b c d = b * d := by
 have h1 := aAF (a * c) (a * d);have h2 := aAF (aK (a * c) (a * d)) (b * c);have h3 := aAF (aK (aK (a * c) (a * d)) (b * c)) (b * d);unfold aHN;grind
theorem aHZ (a b c d : Rat) : aHO a b c d = a * c ∨ aHO a b c d = a * d ∨ aHO a b c d = b * c ∨ aHO a b c d = b * d := by
 have h1 := aEd (a * c) (a * d);have h2 := aEd (aG (a * c) (a * d)) (b * c);have h3 := aEd (aG (aG (a * c) (a * d)) (b * c)) (b * d);unfold aHO;grind
theorem aH1 {a b c d m : Rat} (h : m = a * c ∨ m = a * d ∨ m = b * c ∨ m = b * d) (h1 : m ≤ a * c) (h2 : m ≤ a * d) (h3 : m ≤ b * c) (h4 : m ≤ b * d) : m = aHN a b c d := by
 have := aIf a b c d;have := aHY a b c d;grind
theorem aH2 {a b c d m : Rat} (h : m = a * c ∨ m = a * d ∨ m = b * c ∨ m = b * d) (h1 : a * c ≤ m) (h2 : a * d ≤ m) (h3 : b * c ≤ m) (h4 : b * d ≤ m) : m = aHO a b c d := by
 have := aIg a b c d;have := aHZ a b c d;grind
theorem aIF {a b c d : Rat} (ha : a ≤ 0) (hb : 0 ≤ b) (hc : c ≤ 0) (hd : 0 ≤ d) : aK (a * d) (b * c) = aHN a b c d ∧ aG (a * c) (b * d) = aHO a b c d := by
 have e1 := mulr' (show c ≤ 0 from hc) ha;have p1 : 0 ≤ a * c := by have := mull' hc ha; grind
 have p2 : a * d ≤ 0 := by have := aEW ha hd; grind
 have p3 : b * c ≤ 0 := by have := aFP hc hb; grind
 have p4 : 0 ≤ b * d := by have := aFP hd hb; grind
 have h1 := aHR (a * d) (b * c);have h2 := aAF (a * d) (b * c);have h3 := aEc (a * c) (b * d);have h4 := aEd (a * c) (b * d);exact ⟨aH1 (by grind) (by grind) (by grind) (by grind) (by grind), aH2 (by grind) (by grind) (by grind) (by grind) (by grind)⟩
theorem aIk {a b c d : Rat} (ha : 0 ≤ a) (hab : a ≤ b) (hcd : c ≤ d) : (if c < 0 then b else a) * c = aHN a b c d ∧ (if d < 0 then a else b) * d = aHO a b c d := by
 have q1 := aFP hcd ha;have q2 := aFP hcd (show 0 ≤ b by grind);constructor
 ·split
  ·have := mulr' hab (show c ≤ 0 by grind);exact aH1 (by grind) (by grind) (by grind) (by grind) (by grind)
  ·have := aEW hab (show 0 ≤ c by grind);exact aH1 (by grind) (by grind) (by grind) (by grind) (by grind)
 ·split
  ·have := mulr' hab (show d ≤ 0 by grind);exact aH2 (by grind) (by grind) (by grind) (by grind) (by grind)
  ·have := aEW hab (show 0 ≤ d by grind);exact aH2 (by grind) (by grind) (by grind) (by grind) (by grind)
theorem aIp (a b c d : Rat) : aHN c d a b = aHN a b c d ∧ aHO c d a b = aHO a b c d := by
 have h1 := aIf c d a b;have h2 := aHY c d a b;have h3 := aIg c d a b;have h4 := aHZ c d a b;refine ⟨aH1 ?_ ?_ ?_ ?_ ?_, aH2 ?_ ?_ ?_ ?_ ?_⟩ <;> grind
theorem aIR (a b c d : Rat) : -aHO (-b) (-a) c d = aHN a b c d ∧ -aHN (-b) (-a) c d = aHO a b c d := by
 have h1 := aIf (-b) (-a) c d;have h2 := aHY (-b) (-a) c d;have h3 := aIg (-b) (-a) c d;have h4 := aHZ (-b) (-a) c d;refine ⟨aH1 ?_ ?_ ?_ ?_ ?_, aH2 ?_ ?_ ?_ ?_ ?_⟩ <;> grind
theorem between {l h y z : Rat} (h1 : l ≤ y) (h2 : y ≤ h) : (l * z ≤ y * z ∧ y * z ≤ h * z) ∨ (h * z ≤ y * z ∧ y * z ≤ l * z) := by
 rcases (show 0 ≤ z ∨ z ≤ 0 by grind) with hz | hz
 ·exact Or.inl ⟨aEW h1 hz, aEW h2 hz⟩
 ·exact Or.inr ⟨mulr' h2 hz, mulr' h1 hz⟩
theorem between' {l h y z : Rat} (h1 : l ≤ y) (h2 : y ≤ h) : (z * l ≤ z * y ∧ z * y ≤ z * h) ∨ (z * h ≤ z * y ∧ z * y ≤ z * l) := by
 have := between (z := z) h1 h2;rw [Rat.mul_comm z l, Rat.mul_comm z y, Rat.mul_comm z h]; exact this
theorem aHW {a b c d y z : Rat} (h1 : a ≤ y) (h2 : y ≤ b) (h3 : c ≤ z) (h4 : z ≤ d) : aHN a b c d ≤ y * z ∧ y * z ≤ aHO a b c d := by
 have p := aIf a b c d;have q := aIg a b c d;have b0 := between (z := z) h1 h2;have b1 := between' (z := a) h3 h4;have b2 := between' (z := b) h3 h4;grind
theorem aIy {a b : Rat} (h : a ≤ b) (hs : 0 < a ∨ b < 0) : b⁻¹ ≤ a⁻¹ := by
 rcases hs with h0 | h0
 ·have ha := Rat.inv_pos.2 h0;have hb := Rat.inv_pos.2 (show 0 < b by grind);have e1 := Rat.mul_inv_cancel a (by grind);have e2 := Rat.mul_inv_cancel b (by grind);have h1 := aEW (aEW h (Rat.le_of_lt ha)) (Rat.le_of_lt hb);have h2 : a * a⁻¹ * b⁻¹ = b⁻¹ := (by rw [e1, Rat.one_mul]);have h3 : b * a⁻¹ * b⁻¹ = a⁻¹ := by
   have : b * a⁻¹ * b⁻¹ = b * b⁻¹ * a⁻¹ := (by grind);rw [this, e2, Rat.one_mul]
  grind
 ·have ha := Rat.inv_pos.2 (show 0 < -a by grind);have hb := Rat.inv_pos.2 (show 0 < -b by grind);have e1 := Rat.mul_inv_cancel (-a) (by grind);have e2 := Rat.mul_inv_cancel (-b) (by grind);have h1 := aEW (aEW (show -b ≤ -a by grind) (Rat.le_of_lt ha)) (Rat.le_of_lt hb);have i1 : (-a)⁻¹ = -a⁻¹ := Rat.inv_eq_of_mul_eq_one (by have := Rat.mul_inv_cancel a (by grind); grind);have i2 : (-b)⁻¹ = -b⁻¹ := Rat.inv_eq_of_mul_eq_one (by have := Rat.mul_inv_cancel b (by grind); grind);have h2 : -a * (-a)⁻¹ * (-b)⁻¹ = (-b)⁻¹ := (by rw [e1, Rat.one_mul]);have h3 : -b * (-a)⁻¹ * (-b)⁻¹ = (-a)⁻¹ := by
   have : ∀ p q r : Rat, p * q * r = p * r * q := fun p q r => (by grind);rw [this, e2, Rat.one_mul]
  rw [i1, i2] at *
  grind
theorem pow_nonneg {x : Rat} (h : 0 ≤ x) (n : Nat) : 0 ≤ x ^ n := by
 induction n with
 | zero => rw [Rat.pow_zero]; decide
 | succ n ih => rw [Rat.pow_succ]; have := aEW ih h; grind
theorem oI {x y : Rat} (h0 : 0 ≤ x) (h : x ≤ y) (n : Nat) : x ^ n ≤ y ^ n := by
 induction n with
 | zero => rw [Rat.pow_zero, Rat.pow_zero]; exact Rat.le_refl
 | succ n ih =>
   rw [Rat.pow_succ, Rat.pow_succ];have h1 := aEW ih h0;have h2 := aFP h (pow_nonneg (show 0 ≤ y by grind) n);grind
theorem rH (x : Rat) (n : Nat) : (-x) ^ n = if n % 2 = 0 then x ^ n else -x ^ n := by
 induction n with
 | zero => simp [Rat.pow_zero]
 | succ n ih =>
   rw [Rat.pow_succ, Rat.pow_succ, ih];rcases Nat.mod_two_eq_zero_or_one n with h | h
   ·rw [if_pos h, if_neg (by omega)]; grind
   ·rw [if_neg (by omega), if_pos (by omega)]; grind
theorem pY {x y : Rat} (h : x ≤ y) {n : Nat} (hn : n % 2 = 1) : x ^ n ≤ y ^ n := by
 rcases (show 0 ≤ x ∨ x < 0 by grind) with h0 | h0
 ·exact oI h0 h n
 ·rcases (show 0 ≤ y ∨ y < 0 by grind) with h1 | h1
  ·have e := rH (-x) n;rw [if_neg (by omega), Rat.neg_neg] at e;have a := pow_nonneg (show 0 ≤ -x by grind) n;have b := pow_nonneg h1 n;grind
  ·have e := rH (-x) n;have e2 := rH (-y) n;rw [if_neg (by omega), Rat.neg_neg] at e e2;have := oI (show 0 ≤ -y by grind) (show -y ≤ -x by grind) n;grind
theorem lS (x : Rat) {n : Nat} (hn : n % 2 = 0) : x ^ n = (-x) ^ n := by rw [rH, if_pos hn]
def qlo (n : Nat) (a b : Rat) : Rat := if 0 < n ∧ aK a b ≤ 0 ∧ 0 ≤ aG a b then aK (aK (a ^ n) (b ^ n)) 0 else aK (a ^ n) (b ^ n)
def qhi (n : Nat) (a b : Rat) : Rat := if 0 < n ∧ aK a b ≤ 0 ∧ 0 ≤ aG a b then aG (aG (a ^ n) (b ^ n)) 0 else aG (a ^ n) (b ^ n)
theorem wM (a b : Rat) : aK a b = aK b a := by unfold aK; split <;> split <;> grind
theorem qA (a b : Rat) : aG a b = aG b a := by unfold aG; split <;> split <;> grind
theorem jO {a b : Rat} (h : a ≤ b) : aK a b = a := if_pos h
theorem jD {a b : Rat} (h : a ≤ b) : aG a b = b := by unfold aG; split <;> grind
theorem zero_pow' {n : Nat} (h : 0 < n) : (0 : Rat) ^ n = 0 := by
 obtain ⟨m, rfl⟩ : ∃ m, n = m + 1 := ⟨n - 1, by omega⟩
 rw [Rat.pow_succ, Rat.mul_zero]
theorem qB {n : Nat} {a b : Rat} (h : a ≤ b) (hn : n = 0 ∨ n % 2 = 1 ∨ 0 ≤ a) : a ^ n = qlo n a b ∧ b ^ n = qhi n a b := by
 have hm : a ^ n ≤ b ^ n := by
  rcases hn with rfl | hn | hn
  ·rw [Rat.pow_zero, Rat.pow_zero]; exact Rat.le_refl
  ·exact pY h hn
  ·exact oI hn h n
 unfold qlo qhi;rw [jO h, jD h, jO hm, jD hm];split
 ·rename_i h1;obtain ⟨h1, h2, h3⟩ := h1;have e := zero_pow' h1;have g1 : a ^ n ≤ 0 := by
   rcases hn with rfl | hn | hn
   ·omega
   ·rw [← e]; exact pY h2 hn
   ·have : a = 0 := (by grind);rw [this, e]; exact Rat.le_refl
  have g2 : 0 ≤ b ^ n := pow_nonneg h3 n;rw [jO g1, qA, jD g2];exact ⟨rfl, rfl⟩
 ·exact ⟨rfl, rfl⟩
theorem aB1 {n : Nat} {a b : Rat} (h : a ≤ b) (hn : n % 2 = 0) (hb : b < 0) : b ^ n = qlo n a b ∧ a ^ n = qhi n a b := by
 have hm : b ^ n ≤ a ^ n := by
  rw [lS a hn, lS b hn];exact oI (by grind) (by grind) n
 unfold qlo qhi;rw [jO h, jD h, if_neg (by grind), if_neg (by grind), wM, qA, jO hm, jD hm];exact ⟨rfl, rfl⟩
theorem sI (x : Rat) {n : Nat} (hn : n % 2 = 0) : 0 ≤ x ^ n := by
 rcases (show 0 ≤ x ∨ x < 0 by grind) with h | h
 ·exact pow_nonneg h n
 ·rw [lS x hn]; exact pow_nonneg (by grind) n
theorem aB2 {n : Nat} {a b : Rat} (hn0 : 0 < n) (hn : n % 2 = 0) (ha : a < 0) (hb : 0 ≤ b) : 0 = qlo n a b ∧ aG (a ^ n) (b ^ n) = qhi n a b := by
 have h : a ≤ b := by grind
 have p1 := sI a hn;have p2 := sI b hn;have p3 := aAF (a ^ n) (b ^ n);have p4 := aEc (a ^ n) (b ^ n);unfold qlo qhi;rw [jO h, jD h, if_pos ⟨hn0, by grind, hb⟩, if_pos ⟨hn0, by grind, hb⟩, wM _ 0, jO (show 0 ≤ aK (a ^ n) (b ^ n) by rcases p3 with h | h <;> rw [h] <;> assumption), qA _ 0, jD (show 0 ≤ aG (a ^ n) (b ^ n) by grind)];exact ⟨rfl, rfl⟩
theorem aIG {n : Nat} {a b y : Rat} (h1 : a ≤ y) (h2 : y ≤ b) : qlo n a b ≤ y ^ n ∧ y ^ n ≤ qhi n a b := by
 have h : a ≤ b := by grind
 rcases (show (n = 0 ∨ n % 2 = 1 ∨ 0 ≤ a) ∨ (0 < n ∧ n % 2 = 0 ∧ a < 0) by grind) with hc | ⟨n0, n1, ha⟩
 ·obtain ⟨e1, e2⟩ := qB h hc;rw [← e1, ← e2];rcases hc with rfl | hc | hc
  ·rw [Rat.pow_zero, Rat.pow_zero, Rat.pow_zero]; exact ⟨Rat.le_refl, Rat.le_refl⟩
  ·exact ⟨pY h1 hc, pY h2 hc⟩
  ·exact ⟨oI hc h1 n, oI (by grind) h2 n⟩
 ·rcases (show b < 0 ∨ 0 ≤ b by grind) with hb | hb
  ·obtain ⟨e1, e2⟩ := aB1 h n1 hb;rw [← e1, ← e2, lS a n1, lS b n1, lS y n1];exact ⟨oI (by grind) (by grind) n, oI (by grind) (by grind) n⟩
  ·obtain ⟨e1, e2⟩ := aB2 n0 n1 ha hb;rw [← e1, ← e2];refine ⟨sI y n1, ?_⟩;have p4 := aEc (a ^ n) (b ^ n);rcases (show 0 ≤ y ∨ y < 0 by grind) with hy | hy
   ·have := oI hy h2 n; grind
   ·have := oI (show 0 ≤ -y by grind) (show -y ≤ -a by grind) n;rw [← lS a n1, ← lS y n1] at this;grind
instance (l : List UInt8) : Decidable (aY l) := inferInstanceAs (Decidable (∀ c ∈ l, 48 ≤ c.toNat ∧ c.toNat ≤ 57))
instance (l : List UInt8) : Decidable (Row l) := inferInstanceAs (Decidable (aY l ∧ l ≠ [] ∧ (l.head? = some 48 → l = [48])))
def mkQ (neg : Bool) (n d : Nat) : Rat := mkRat (if neg then -(n : Int) else n) d
def bW (q : Rat) : List UInt8 := (if q.num < 0 then [45] else []) ++ dec q.num.natAbs ++ (if q.den = 1 then [] else 47 :: dec q.den)
def eG (c : UInt8) (l : List UInt8) : List UInt8 := l.takeWhile (· != c)
def aft (c : UInt8) (l : List UInt8) : List UInt8 := (l.dropWhile (· != c)).tail
def dG (l : List UInt8) : Bool := l.head? == some 45
def unsigned (l : List UInt8) : List UInt8 := if dG l then l.tail else l
def aH (neg : Bool) (f s : List UInt8) (two : Bool) : Int × Rat :=
 if ¬ Row f ∨ (f = [48] ∧ (neg = true ∨ two = true)) then (6, 0)
 else if two = true ∧ (¬ Row s ∨ s = [48] ∨ s = [49]) then (6, 0)
 else if 1000 < f.length ∨ 1000 < s.length then (3, 0)
 else if two = false then (0, mkQ neg (dv f) 1)
 else if Nat.gcd (dv f) (dv s) ≠ 1 then (6, 0) else (0, mkQ neg (dv f) (dv s))
def aV (l : List UInt8) : Int × Rat := aH (dG l) (eG 47 (unsigned l)) (aft 47 (unsigned l)) (decide (47 ∈ unsigned l))
theorem eH {neg : Bool} {n d : Nat} (hd : 0 < d) (hc : Nat.gcd n d = 1) : (mkQ neg n d).num = (if neg then -(n : Int) else n) ∧ (mkQ neg n d).den = d := by
 have hc' : Nat.Coprime (if neg then -(n : Int) else n).natAbs d := by
  cases neg <;> simpa using hc
 have h : mkQ neg n d = Rat.mk' (if neg then -(n : Int) else n) d (by omega) hc' := by rw [Rat.mk_eq_mkRat]; rfl
 rw [h];exact ⟨rfl, rfl⟩
theorem oJ (c : UInt8) : ∀ l : List UInt8, (c ∉ l ∧ eG c l = l ∧ aft c l = []) ∨ (c ∈ l ∧ l = eG c l ++ c :: aft c l) := by
 intro l
 induction l with
 | nil => left; simp [eG, aft]
 | cons d r ih =>
   by_cases h : d = c
   ·subst h;right; simp [eG, aft]
   ·have hb : (d != c) = true := (by simpa using h);have e1 : eG c (d :: r) = d :: eG c r := (by simp [eG, hb]);have e2 : aft c (d :: r) = aft c r := (by simp [aft, hb]);rw [e1, e2];rcases ih with ⟨h1, h2, h3⟩ | ⟨h1, h2⟩
    ·left;refine ⟨?_, by rw [h2], h3⟩;intro h4;rcases List.mem_cons.1 h4 with h5 | h5
     ·exact h h5.symm
     ·exact h1 h5
    ·right;exact ⟨List.mem_cons_of_mem _ h1, by rw [List.cons_append, ← h2]⟩
theorem aAG {c : UInt8} {f s : List UInt8} (h : c ∉ f) : eG c (f ++ c :: s) = f ∧ aft c (f ++ c :: s) = s := by
 induction f with
 | nil => simp [eG, aft]
 | cons d r ih =>
   have hd : (d != c) = true := by
    have : d ≠ c := fun h1 => h (h1 ▸ List.mem_cons_self ..);simpa using this
   have hr : c ∉ r := fun h1 => h (List.mem_cons_of_mem _ h1);have e1 : eG c (d :: r ++ c :: s) = d :: eG c (r ++ c :: s) := (by simp [eG, hd]);have e2 : aft c (d :: r ++ c :: s) = aft c (r ++ c :: s) := (by simp [aft, hd]);rw [e1, e2, (ih hr).1, (ih hr).2];exact ⟨rfl, rfl⟩
theorem oK {c : UInt8} {l : List UInt8} (h : c ∉ l) : eG c l = l ∧ aft c l = [] := by
 rcases oJ c l with ⟨_, h2⟩ | ⟨h1, _⟩
 ·exact h2
 ·exact absurd h1 h
theorem aY.no {l : List UInt8} (h : aY l) {c : UInt8} (hc : c.toNat < 48) : c ∉ l := fun h1 => by
 have := h c h1; omega
theorem Row.pos {l : List UInt8} (h : Row l) (h0 : l ≠ [48]) : 0 < dv l := by
 rcases Nat.eq_zero_or_pos (dv l) with h1 | h1
 ·exfalso;have := xV h;rw [h1, bE (by decide)] at this;exact h0 this.symm
 ·exact h1
theorem iJ {l : List UInt8} (h : Row l) : (dec (dv l)) = l := xV h
theorem uG {l : List UInt8} {q : Rat} (h : aV l = (0, q)) : bW q = l := by
 unfold aV aH at h;obtain ⟨r, hr⟩ : ∃ r, unsigned l = r := ⟨_, rfl⟩
 obtain ⟨neg, hneg⟩ : ∃ neg, dG l = neg := ⟨_, rfl⟩
 rw [hr, hneg] at h;have hl : l = (if neg = true then [45] else []) ++ r := by
  unfold unsigned at hr;rw [hneg] at hr;cases neg
  ·simpa using hr
  ·simp at hr;unfold dG at hneg;cases l with
   | nil => simp at hneg
   | cons c t =>
     simp at hneg hr;rw [hneg, ← hr]; rfl
 have hfa := oJ 47 r;obtain ⟨f, hf⟩ : ∃ f, eG 47 r = f := ⟨_, rfl⟩
 obtain ⟨s, hs⟩ : ∃ s, aft 47 r = s := ⟨_, rfl⟩
 rw [hf, hs] at h hfa;split at h
 ·simp at h
 rename_i c1;have rf : Row f := by
  rcases Classical.em (Row f) with h1 | h1
  ·exact h1
  ·exact absurd (Or.inl h1) c1
 split at h
 ·simp at h
 rename_i c2;split at h
 ·simp at h
 split at h
 ·rename_i c4;have h47 : 47 ∉ r := (by simpa using c4);rcases hfa with ⟨-, e1, e2⟩ | ⟨h1, -⟩
  ·have hq : mkQ neg (dv f) 1 = q := (by simpa using h);obtain ⟨p1, p2⟩ := eH (neg := neg) (n := dv f) (d := 1) (by decide) (by simp);rw [hq] at p1 p2;unfold bW;rw [p2, if_pos rfl, List.append_nil, hl, ← e1, p1];have hf0 : neg = true → 0 < dv f := fun hn => Row.pos rf (fun h0 => c1 (Or.inr ⟨h0, Or.inl hn⟩));cases neg
   ·rw [if_neg (by simp), if_neg (by simp)]; simp; exact iJ rf
   ·have := hf0 rfl;rw [if_pos (by simp; omega)]; simp; exact iJ rf
  ·exact absurd h1 h47
 ·rename_i c4;split at h
  ·simp at h
  rename_i c5;have h47 : 47 ∈ r := (by simpa using c4);rcases hfa with ⟨h1, -⟩ | ⟨-, e⟩
  ·exact absurd h47 h1
  have hq : mkQ neg (dv f) (dv s) = q := (by simpa using h);have two : decide (47 ∈ r) = true := (by simpa using h47);have c2' : Row s ∧ s ≠ [48] ∧ s ≠ [49] := by
   refine ⟨?_, ?_, ?_⟩
   ·rcases Classical.em (Row s) with h1 | h1
    ·exact h1
    ·exact absurd ⟨two, Or.inl h1⟩ c2
   ·intro h1; exact c2 ⟨two, Or.inr (Or.inl h1)⟩
   ·intro h1; exact c2 ⟨two, Or.inr (Or.inr h1)⟩
  have gc : Nat.gcd (dv f) (dv s) = 1 := (by omega);have ps : 0 < dv s := Row.pos c2'.1 c2'.2.1;have s1 : dv s ≠ 1 := by
   intro h1;have := iJ c2'.1;rw [h1] at this;exact c2'.2.2 (by rw [← this, bE (by decide)]; rfl)
  obtain ⟨p1, p2⟩ := eH (neg := neg) ps gc;rw [hq] at p1 p2;unfold bW;have ff : f ≠ [48] := fun h0 => c1 (Or.inr ⟨h0, Or.inr two⟩);have pf := Row.pos rf ff;rw [p2, if_neg s1, iJ c2'.1, hl, e, p1];cases neg
  ·rw [if_neg (by simp), if_neg (by simp)]; simp; exact iJ rf
  ·rw [if_pos (by simp; omega)]; simp; exact iJ rf
def aS (n : Int) : Rat := (10 : Rat) ^ n
theorem aEX : (10 : Rat) ≠ 0 := by decide
theorem yK (n : Int) : 0 < aS n := Rat.zpow_pos (by decide)
theorem aDg (m n : Int) : aS (m + n) = aS m * aS n := Rat.zpow_add aEX m n
theorem yL (n : Nat) : aS n = ((10 ^ n : Nat) : Rat) := by
 unfold aS;rw [Rat.zpow_natCast, Rat.natCast_pow]; rfl
theorem aB3 : aS 0 = 1 := Rat.zpow_zero 10
theorem aDh (n : Int) : aS n * aS (-n) = 1 := by rw [← aDg, show n + -n = 0 by omega]; exact aB3
theorem nM (n : Nat) : (aS n).num = ((10 ^ n : Nat) : Int) ∧ (aS n).den = 1 := by
 rw [yL];exact ⟨Rat.num_natCast _, Rat.den_natCast _⟩
theorem nN (n : Nat) : (aS (-(n : Int))).num = 1 ∧ (aS (-(n : Int))).den = 10 ^ n := by
 have hp : 0 < 10 ^ n := Nat.pow_pos (by decide);refine rat_of' hp (by simp) ?_;rw [← yL, Rat.mul_comm, aDh]; rfl
def pfx (c : UInt8) : Option Int :=
 if c = 102 then some (-15) else if c = 112 then some (-12) else if c = 110 then some (-9) else if c = 117 then some (-6) else if c = 109 then some (-3)
 else if c = 107 then some 3 else if c = 77 then some 6 else if c = 71 then some 9 else if c = 84 then some 12 else none
def iP (l : List UInt8) : List UInt8 × Int :=
 match l.getLast? with
 | some c => match pfx c with
   | some p => (l.dropLast, p)
   | none => (l, 0)
 | none => (l, 0)
def jP (l : List UInt8) : Prop := aY l ∧ l ≠ []
instance (l : List UInt8) : Decidable (jP l) := inferInstanceAs (Decidable (aY l ∧ l ≠ []))
def sgQ (neg : Bool) (q : Rat) : Rat := if neg then -q else q
def iU (neg : Bool) (f b : List UInt8) (two : Bool) (p : Int) : Int × Rat :=
 if ¬ jP f ∨ (two = true ∧ ¬ jP b) then (6, 0)
 else if 400 < f.length + b.length then (3, 0)
 else (0, sgQ neg ((dv (f ++ b) : Nat) : Rat) * aS (p - b.length))
def oL (l : List UInt8) : Int × Rat :=
 if 47 ∈ l then aV l
 else iU (dG l) (eG 46 (iP (unsigned l)).1) (aft 46 (iP (unsigned l)).1) (decide (46 ∈ (iP (unsigned l)).1)) (iP (unsigned l)).2
def iQ (x : Rat) : Nat → Nat
 | 0 => 0
 | n + 1 => if aS (3 * (n : Int) - 15) ≤ x then n else iQ x n
def letter (i : Nat) : List UInt8 := (([[102], [112], [110], [117], [109], [], [107], [77], [71], [84]] : List (List UInt8))[i]?).getD []
def uH (l : List UInt8) : List UInt8 := (l.reverse.dropWhile (· == 48)).reverse
def lT (U : Nat) : Option (List UInt8) :=
 if 400 < (dec (U / 1000000000000)).length + (uH (pd 12 (U % 1000000000000))).length then none
 else some (dec (U / 1000000000000) ++ if uH (pd 12 (U % 1000000000000)) = [] then [] else 46 :: uH (pd 12 (U % 1000000000000)))
def dH (u : Rat) : Option (List UInt8) := if u.den = 1 then lT u.num.natAbs else none
def gD (q : Rat) : Rat := if q < 0 then -q else q
def nO (q : Rat) : Rat := gD q * aS (15 - 3 * (iQ (gD q) 10 : Int)) * aS 12
def gN (q : Rat) : List UInt8 := if q < 0 then [45] else []
def oM (q : Rat) : List UInt8 :=
 if q = 0 then [48] else match dH (nO q) with
 | some d => gN q ++ d ++ letter (iQ (gD q) 10)
 | none => bW q
theorem fore_of' {c : UInt8} {f : List UInt8} (s : List UInt8) (h : c ∉ f) : eG c (f ++ c :: s) = f ∧ aft c (f ++ c :: s) = s := aAG h
theorem aB4 {l r : List UInt8} (h : aY l) (h0 : l ≠ []) : dG (l ++ r) = false ∧ unsigned (l ++ r) = l ++ r := by
 cases l with
 | nil => exact absurd rfl h0
 | cons c t =>
   have hc := h c (by simp);have e : dG (c :: t ++ r) = false := by
    have : c ≠ 45 := (by rintro rfl; revert hc; decide);simpa [dG] using this
   exact ⟨e, by unfold unsigned; rw [e]; rfl⟩
theorem aEY {q : Rat} {l r : List UInt8} (h : aY l) (h0 : l ≠ []) : dG (gN q ++ (l ++ r)) = decide (q < 0) ∧ unsigned (gN q ++ (l ++ r)) = l ++ r := by
 unfold gN;by_cases hq : q < 0
 ·rw [if_pos hq, decide_eq_true hq]; exact ⟨rfl, rfl⟩
 ·rw [if_neg hq, decide_eq_false hq, List.nil_append]; exact aB4 h h0
theorem sV (q : Rat) : bW q = gN q ++ (dec q.num.natAbs ++ if q.den = 1 then [] else 47 :: dec q.den) := by
 unfold bW gN;by_cases h : q < 0
 ·rw [if_pos ((bG q).2 h), if_pos h, List.append_assoc]
 ·rw [if_neg (fun h1 => h ((bG q).1 h1)), if_neg h, List.append_assoc]
theorem vG : dec 1 = [49] := by rw [bE (by decide)]; rfl
theorem lU : dec 0 = [48] := by rw [bE (by decide)]; rfl
theorem jX {N : Nat} (h : dec N = [48]) : N = 0 := aAx (h.trans lU.symm)
theorem aBf {N : Nat} (h : dec N = [49]) : N = 1 := aAx (h.trans vG.symm)
theorem yM (q : Rat) : mkQ (decide (q < 0)) q.num.natAbs q.den = q := by
 unfold mkQ;have e : (if decide (q < 0) = true then -((q.num.natAbs : Nat) : Int) else ((q.num.natAbs : Nat) : Int)) = q.num := by
  by_cases h : q < 0
  ·have := (bG q).2 h;rw [if_pos (decide_eq_true h)]; omega
  ·have : ¬ q.num < 0 := fun h1 => h ((bG q).1 h1);rw [if_neg (by rw [decide_eq_false h]; decide)]; omega
 rw [e, Rat.mkRat_self]
def gF (q : Rat) : Nat := max (dec q.num.natAbs).length (dec q.den).length
theorem aEe {q : Rat} (h : q < 0) : 0 < q.num.natAbs := by have := (bG q).2 h; omega
theorem yN {q : Rat} (h : q.num.natAbs = 0) : q.den = 1 := by
 have h1 := q.reduced;rw [h] at h1;simpa using h1
theorem wY (q : Rat) : aV (bW q) = if gF q ≤ 1000 then (0, q) else (3, 0) := by
 have hN := vC q.num.natAbs;have hD := vC q.den;obtain ⟨e1, e2⟩ := aEY (q := q) (r := if q.den = 1 then [] else 47 :: dec q.den) hN.1 hN.2.1;have n47 : (47 : UInt8) ∉ dec q.num.natAbs := hN.1.no (by decide);unfold aV;rw [sV, e1, e2];have hneg : ∀ h : q < 0, dec q.num.natAbs ≠ [48] := fun h h1 => by have := jX h1; have := aEe h; omega
 have hlen1 : (dec 1).length = 1 := by rw [vG]; rfl
 have hpos : 0 < (dec q.num.natAbs).length := List.length_pos_iff.2 hN.2.1;by_cases h1 : q.den = 1
 ·rw [if_pos h1, List.append_nil];obtain ⟨f1, f2⟩ := oK n47;rw [f1, f2, decide_eq_false n47];unfold aH;rw [if_neg (by
   rintro (h | ⟨h, h2 | h2⟩)
   ·exact h hN
   ·exact hneg (of_decide_eq_true h2) h
   ·simp at h2), if_neg (by simp)]
  unfold gF;rw [h1, hlen1];by_cases hl : (dec q.num.natAbs).length ≤ 1000
  ·rw [if_neg (by simp; omega), if_pos rfl, if_pos (by omega), kF, show mkQ (decide (q < 0)) q.num.natAbs 1 = q from by rw [← h1]; exact yM q]
  ·rw [if_pos (by left; omega), if_neg (by omega)]
 ·rw [if_neg h1];obtain ⟨f1, f2⟩ := fore_of' (dec q.den) n47;rw [f1, f2, decide_eq_true (show (47 : UInt8) ∈ dec q.num.natAbs ++ 47 :: dec q.den by simp)];unfold aH;rw [if_neg (by
   rintro (h | ⟨h, h2⟩)
   ·exact h hN
   ·exact h1 (yN (jX h))), if_neg (by
   rintro ⟨-, h | h | h⟩
   ·exact h hD
   ·have := jX h; exact q.den_nz this
   ·exact h1 (aBf h))]
  unfold gF;by_cases hl : (dec q.num.natAbs).length ≤ 1000 ∧ (dec q.den).length ≤ 1000
  ·rw [if_neg (by omega), if_neg (by simp), if_neg (by rw [kF, kF]; simp; exact q.reduced), if_pos (by omega), kF, kF, yM]
  ·rw [if_pos (by omega), if_neg (by omega)]
theorem aEf (x : Rat) (n : Nat) (h : 0 < n) : iQ x n < n := by
 induction n with
 | zero => omega
 | succ n ih =>
   unfold iQ;split
   ·omega
   ·rcases Nat.eq_zero_or_pos n with h0 | h0
    ·subst h0; unfold iQ; omega
    ·have := ih h0; omega
theorem uI {M b : Nat} (h : M < 10 ^ b) : (dec M).length ≤ max b 1 := by
 rw [dU];split
 ·omega
 ·have := (aD (b := 10) (by decide) M b).2 h; omega
theorem aDi (b M : Nat) (h : M < 10 ^ b) (hb : 0 < b) : pd b M = List.replicate (b - (dec M).length) 48 ++ dec M := by
 induction b generalizing M with
 | zero => omega
 | succ b ih =>
   unfold pd;rcases Nat.lt_or_ge M 10 with h10 | h10
   ·rw [bE h10, Nat.div_eq_of_lt h10, Nat.mod_eq_of_lt h10];rcases Nat.eq_zero_or_pos b with h0 | h0
    ·subst h0; rfl
    ·rw [ih 0 (Nat.pow_pos (by decide)) h0, lU];simp only [List.length_singleton];rw [show ([48] : List UInt8) = List.replicate 1 48 from rfl, List.replicate_append_replicate];congr 2;omega
   ·have hb0 : 0 < b := by
     rcases Nat.eq_zero_or_pos b with h0 | h0
     ·subst h0; rw [Nat.zero_add, Nat.pow_one] at h; omega
     ·exact h0
    rw [ih (M / 10) (Nat.div_lt_of_lt_mul (by rw [Nat.pow_succ] at h; omega)) hb0, iA h10];simp [List.append_assoc]
structure Beh (m : Rat) (b : Nat) : Prop where
 le : b ≤ 13
 no : ∀ j < b, (m * aS j).den ≠ 1
end Go.Proofs.YtgpacgadpnpjjaaGreatDoor.Ma
namespace Go.Proofs.YtgpacgadpnpjjaaGreatDoor.Ma
open Me
def szb (b : Nat) (q : Rat) : Nat := dg b q.num.natAbs + dg b q.den
theorem aEg (b : Nat) (q : Rat) : szb b (-q) = szb b q := by unfold szb; rw [Rat.neg_num, Rat.neg_den, Int.natAbs_neg]
theorem aEh {b : Nat} (hb : 1 < b) (q : Rat) : szb b q⁻¹ ≤ szb b q + 1 := by
 unfold szb;rw [Rat.num_inv, Rat.den_inv];by_cases h : q.num = 0
 ·have e1 : dg b 1 = 1 := bZ hb;simp [h, aQ, e1]
 ·rw [if_neg h, Int.natAbs_mul];have e : q.num.sign.natAbs = 1 := (by rw [Int.natAbs_sign, if_neg h]);rw [e, Nat.one_mul];simp only [Int.natAbs_natCast];omega
theorem fV {b : Nat} (hb : 1 < b) {M N : Nat} (h : M ≤ N) : dg b M ≤ dg b N := aR hb h
theorem aEi {b : Nat} (hb : 1 < b) (x y : Rat) : szb b (x * y) ≤ szb b x + szb b y := by
 obtain ⟨h1, h2⟩ := aAA (x := x) (y := y) rfl rfl;unfold szb;rw [h1, h2, Int.natAbs_mul];have a1 := Int.natAbs_ediv_of_dvd (a := x.num) (b := ((Nat.gcd x.num.natAbs y.den : Nat) : Int)) (jW.2 (Nat.gcd_dvd_left _ _));have a2 := Int.natAbs_ediv_of_dvd (a := y.num) (b := ((Nat.gcd y.num.natAbs x.den : Nat) : Int)) (jW.2 (Nat.gcd_dvd_left _ _));rw [a1, a2];simp only [Int.natAbs_natCast];have b1 := dY hb (x.num.natAbs / Nat.gcd x.num.natAbs y.den) (y.num.natAbs / Nat.gcd y.num.natAbs x.den);have b2 := dY hb (x.den / Nat.gcd y.num.natAbs x.den) (y.den / Nat.gcd x.num.natAbs y.den);have c1 := fV hb (Nat.div_le_self x.num.natAbs (Nat.gcd x.num.natAbs y.den));have c2 := fV hb (Nat.div_le_self y.num.natAbs (Nat.gcd y.num.natAbs x.den));have c3 := fV hb (Nat.div_le_self x.den (Nat.gcd y.num.natAbs x.den));have c4 := fV hb (Nat.div_le_self y.den (Nat.gcd x.num.natAbs y.den));omega
theorem aI1 {b : Nat} (hb : 1 < b) (x y : Rat) : szb b (x + y) ≤ 2 * (szb b x + szb b y) + 1 := by
 obtain ⟨h1, h2, -, -, h5, -⟩ := aIe (x := x) (y := y) rfl rfl rfl rfl rfl;unfold szb;rw [h1, h2, Int.natAbs_ediv_of_dvd h5];simp only [Int.natAbs_natCast];generalize Nat.gcd x.den y.den = d;generalize hg : Nat.gcd (x.num * ((y.den / d : Nat) : Int) + y.num * ((x.den / d : Nat) : Int)).natAbs d = c;have a1 : (x.num * ((y.den / d : Nat) : Int) + y.num * ((x.den / d : Nat) : Int)).natAbs ≤ x.num.natAbs * (y.den / d) + y.num.natAbs * (x.den / d) := by
  have := Int.natAbs_add_le (x.num * ((y.den / d : Nat) : Int)) (y.num * ((x.den / d : Nat) : Int))
  rwa [Int.natAbs_mul, Int.natAbs_mul, Int.natAbs_natCast, Int.natAbs_natCast] at this
 have a2 := fV hb (Nat.le_trans (Nat.div_le_self _ c) a1);have a3 := lH hb (x.num.natAbs * (y.den / d)) (y.num.natAbs * (x.den / d));have a4 := dY hb x.num.natAbs (y.den / d);have a5 := dY hb y.num.natAbs (x.den / d);have a6 := fV hb (Nat.div_le_self x.den d);have a7 := fV hb (Nat.div_le_self y.den d);have a8 := dY hb (x.den / d) (y.den / c);have a9 := fV hb (Nat.div_le_self y.den c);omega
theorem aAH {b : Nat} (hb : 1 < b) (N n : Nat) : dg b (N ^ n) ≤ n * dg b N + 1 := by
 induction n with
 | zero => rw [Nat.pow_zero, bZ hb]; omega
 | succ n ih =>
   rcases Nat.eq_zero_or_pos N with h | h
   ·subst h; rw [Nat.zero_pow (by omega), aQ]; omega
   ·rw [Nat.pow_succ];have := dY hb (N ^ n) N;rw [Nat.succ_mul]; omega
theorem aAI (q : Rat) (n : Nat) : (q ^ n).num = q.num ^ n ∧ (q ^ n).den = q.den ^ n := ⟨Rat.num_pow q n, Rat.den_pow q n⟩
theorem aEj {b : Nat} (hb : 1 < b) (q : Rat) (n : Nat) : szb b (q ^ n) ≤ n * szb b q + 2 := by
 unfold szb;rw [(aAI q n).1, (aAI q n).2, Int.natAbs_pow, Nat.mul_add];have := aAH hb q.num.natAbs n;have := aAH hb q.den n;omega
theorem aEk {b : Nat} (hb : 1 < b) (z : Int) (h : z.natAbs < b) : szb b (z : Rat) ≤ 2 := by
 unfold szb;rw [Rat.num_intCast, Rat.den_intCast, bZ hb];have := (aD hb z.natAbs 1).2 (by rwa [Nat.pow_one]);omega
def sz (q : Rat) : Nat := szb W64 q
theorem gI (q : Rat) : dg W64 q.num.natAbs ≤ sz q := Nat.le_add_right _ _
theorem lW (q : Rat) : dg W64 q.den ≤ sz q := Nat.le_add_left _ _
theorem fO (q : Rat) : dg W64 q.num.natAbs + dg W64 q.den = sz q := rfl
theorem nP (q : Rat) : sz (-q) = sz q := aEg W64 q
theorem aEZ (q : Rat) : sz q⁻¹ ≤ sz q + 1 := aEh aB q
theorem qC (x y : Rat) : sz (x * y) ≤ sz x + sz y := aEi aB x y
theorem aH3 (x y : Rat) : sz (x + y) ≤ 2 * (sz x + sz y) + 1 := aI1 aB x y
theorem aIb (x y : Rat) : sz (x - y) ≤ 2 * (sz x + sz y) + 1 := by rw [Rat.sub_eq_add_neg, ← nP y]; exact aH3 x (-y)
theorem aB5 (q : Rat) (n : Nat) : sz (q ^ n) ≤ n * sz q + 2 := aEj aB q n
theorem yO (z : Int) (h : z.natAbs < W64) : sz (z : Rat) ≤ 2 := aEk aB z h
end Go.Proofs.YtgpacgadpnpjjaaGreatDoor.Ma
