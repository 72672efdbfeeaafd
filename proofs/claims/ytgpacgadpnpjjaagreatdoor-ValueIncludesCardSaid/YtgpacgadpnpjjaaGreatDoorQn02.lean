/- ValueIncludes (a part of the proof): results of numbers are in the results of their spans. No condition. -/
import Derived.Test.YtgpacgadpnpjjaaGreatDoorQn01
set_option maxRecDepth 100000
namespace Go.Proofs.YtgpacgadpnpjjaaGreatDoor.Ma
structure Gw (U v y2 p2 g r : Nat) : Prop where
 eq : g * v + r = U
 rl : r < 18446744073709551616
 gl : g < 18446744073709551616
 ge : (U * 18446744073709551616 + p2) / (v * 18446744073709551616 + y2) ≤ g
theorem Gw.init {pn pm v y2 p2 : Nat} (hv : pn < v) (hv2 : v < 18446744073709551616) (hm : pm < 18446744073709551616) (h2 : p2 < 18446744073709551616) :
  Gw (pn * 18446744073709551616 + pm) v y2 p2 ((pn * 18446744073709551616 + pm) / v) ((pn * 18446744073709551616 + pm) % v) := by
 have hd := Nat.div_add_mod (pn * 18446744073709551616 + pm) v;have hl := Nat.mod_lt (pn * 18446744073709551616 + pm) (show 0 < v by omega);refine ⟨by rw [Nat.mul_comm]; exact hd, by omega, ?_, ?_⟩
 ·rw [Nat.div_lt_iff_lt_mul (by omega)]; omega
 ·obtain ⟨U, hU⟩ : ∃ U, pn * 18446744073709551616 + pm = U := ⟨_, rfl⟩
  rw [hU] at hd hl ⊢;obtain ⟨g, hg⟩ : ∃ g, U / v = g := ⟨_, rfl⟩
  obtain ⟨r, hr⟩ : ∃ r, U % v = r := ⟨_, rfl⟩
  rw [hr] at hd hl;rw [hg] at hd ⊢;have : (U * 18446744073709551616 + p2) / (v * 18446744073709551616 + y2) < g + 1 := by
   rw [Nat.div_lt_iff_lt_mul (by omega)];have h3 : (g + 1) * (v * 18446744073709551616 + y2) = (v * g + v) * 18446744073709551616 + (g + 1) * y2 := (by grind);rw [h3];omega
  omega
theorem Gw.stop {U v y2 p2 g r : Nat} (h : Gw U v y2 p2 g r) (hv : 0 < v) (hq : g * y2 ≤ r * 18446744073709551616 + p2) :
  g = (U * 18446744073709551616 + p2) / (v * 18446744073709551616 + y2) := by
 refine Nat.le_antisymm ?_ h.ge;rw [Nat.le_div_iff_mul_le (by omega), Nat.mul_add, ← Nat.mul_assoc];have := h.eq;omega
theorem Gw.over {U v y2 p2 g r : Nat} (h : Gw U v y2 p2 g r) (hv : 0 < v) (hq : r * 18446744073709551616 + p2 < g * y2) :
  ∃ p, g = p + 1 ∧ p * v + (r + v) = U ∧ (U * 18446744073709551616 + p2) / (v * 18446744073709551616 + y2) ≤ p := by
 have hlt : (U * 18446744073709551616 + p2) / (v * 18446744073709551616 + y2) < g := by
  have h1 := h.eq;have h2 : U * 18446744073709551616 + p2 < g * (v * 18446744073709551616 + y2) := by
   rw [Nat.mul_add, ← Nat.mul_assoc, ← h1, Nat.add_mul, Nat.add_assoc];exact Nat.add_lt_add_left hq _
  exact (Nat.div_lt_iff_lt_mul (by omega)).2 h2
 obtain ⟨t, ht⟩ : ∃ t, (U * 18446744073709551616 + p2) / (v * 18446744073709551616 + y2) = t := ⟨_, rfl⟩
 rw [ht] at hlt ⊢;obtain ⟨p, rfl⟩ : ∃ p, g = p + 1 := ⟨g - 1, by omega⟩
 refine ⟨p, rfl, ?_, by omega⟩;have := h.eq;rw [Nat.add_mul] at this;omega
theorem Gw.brk {U v y2 p2 p r : Nat} (hv : 0 < v) (h0 : y2 < 18446744073709551616) (hr : 18446744073709551616 ≤ r) (hp : p < 18446744073709551616) (he : p * v + r = U) (hge : (U * 18446744073709551616 + p2) / (v * 18446744073709551616 + y2) ≤ p) :
  p = (U * 18446744073709551616 + p2) / (v * 18446744073709551616 + y2) := by
 refine Nat.le_antisymm ?_ hge;rw [Nat.le_div_iff_mul_le (by omega), Nat.mul_add, ← Nat.mul_assoc];have h2 : p * y2 ≤ 18446744073709551615 * 18446744073709551615 := Nat.mul_le_mul (by omega) (by omega);omega
theorem aBN {T Y2 B p y : Nat} (hY : 9223372036854775808 * 18446744073709551616 ≤ Y2) (hp : p < B) (hy : y < B) (hT : T / Y2 < 18446744073709551616) :
  (T * B + p) / (Y2 * B + y) ≤ T / Y2 ∧ T / Y2 ≤ (T * B + p) / (Y2 * B + y) + 1 := by
 have hB : 0 < B := by omega
 have hYB : 0 < Y2 * B := Nat.mul_pos (by omega) hB;constructor
 ·rw [Nat.le_div_iff_mul_le (by omega)];have h1 := Nat.div_mul_le_self (T * B + p) (Y2 * B + y);generalize (T * B + p) / (Y2 * B + y) = t at *
  have h2 : t * Y2 * B < (T + 1) * B := by
   have h3 : t * (Y2 * B + y) = t * Y2 * B + t * y := (by rw [Nat.mul_add, Nat.mul_assoc]);have h4 : (T + 1) * B = T * B + B := (by rw [Nat.add_mul, Nat.one_mul]);omega
  have := Nat.lt_of_mul_lt_mul_right h2;omega
 ·have h1 : T / Y2 * Y2 ≤ T := Nat.div_mul_le_self T Y2;generalize T / Y2 = g at *
  rcases Nat.eq_zero_or_pos g with rfl | hg
  ·exact Nat.zero_le _
  obtain ⟨k, rfl⟩ : ∃ k, g = k + 1 := ⟨g - 1, by omega⟩
  have h2 : k ≤ (T * B + p) / (Y2 * B + y) := by
   rw [Nat.le_div_iff_mul_le (by omega)];have h3 : (k + 1) * Y2 * B ≤ T * B := Nat.mul_le_mul_right _ h1;have h4 : k * y ≤ k * B := Nat.mul_le_mul_left _ (by omega);have h5 : k * B ≤ Y2 * B := Nat.mul_le_mul_right _ (by omega);have h6 : (k + 1) * Y2 * B = k * (Y2 * B) + Y2 * B := (by grind);rw [Nat.mul_add];omega
  exact Nat.succ_le_succ h2
theorem aBO {P v B y : Nat} (hv : 9223372036854775808 ≤ v) (hy : y < B) (hP : P < (v * B + y) * 18446744073709551616) (hn : v * (B * 18446744073709551616) ≤ P) :
  P / (v * B + y) ≤ 18446744073709551615 ∧ 18446744073709551615 ≤ P / (v * B + y) + 1 := by
 have hB : 0 < v * B := Nat.mul_pos (by omega) (by omega);constructor
 ·have : P / (v * B + y) < 18446744073709551616 := by
   rw [Nat.div_lt_iff_lt_mul (by omega), Nat.mul_comm]; exact hP
  omega
 ·have : 18446744073709551614 ≤ P / (v * B + y) := by
   rw [Nat.le_div_iff_mul_le (by omega)];have h1 : 18446744073709551614 * y ≤ 18446744073709551614 * B := Nat.mul_le_mul_left _ (by omega);have h2 : 9223372036854775808 * B ≤ v * B := Nat.mul_le_mul_right _ hv;have h3 : v * (B * 18446744073709551616) = v * B * 18446744073709551616 := (by rw [Nat.mul_assoc]);rw [h3] at hn;generalize v * B = z at *
   omega
  omega
theorem aBP {C P Y g q r pn Pl v bo : Nat} (hY : Y < C) (hPl : P = Pl + C * pn) (hq : P / Y = q) (hr : P % Y = r) (hg1 : q ≤ g) (hg2 : g ≤ q + 1) (hY0 : 0 < Y) (hs : Pl + C * bo = v + g * Y) (hv : v < C) :
  (bo ≤ pn → g = q ∧ v = r) ∧ (pn < bo → g = q + 1 ∧ ∃ c, v + Y = r + C * c) := by
 have hd := Nat.div_add_mod P Y;have hl := Nat.mod_lt P hY0;rw [hq, hr, Nat.mul_comm] at hd;rw [hr] at hl;rcases Nat.lt_or_ge q g with h | h
 ·obtain rfl : g = q + 1 := (by omega);rw [Nat.add_mul, Nat.one_mul] at hs
  -- v + Y = r + C * (bo - pn)
  have h1 : v + Y + C * pn = r + C * bo := (by omega);constructor
  ·intro hb;exfalso;have h2 : C * bo ≤ C * pn := Nat.mul_le_mul_left _ hb;omega
  ·intro hb;refine ⟨rfl, bo - pn, ?_⟩;have h2 : C * bo = C * pn + C * (bo - pn) := (by rw [← Nat.mul_add]; congr 1; omega);omega
 ·obtain rfl : g = q := (by omega);have h1 : v + C * pn = r + C * bo := (by omega);have h2 : bo = pn := by
   rcases Nat.lt_trichotomy bo pn with hb | hb | hb
   ·have h2 : C * (bo + 1) ≤ C * pn := Nat.mul_le_mul_left _ hb;rw [Nat.mul_add, Nat.mul_one] at h2;omega
   ·exact hb
   ·have h2 : C * (pn + 1) ≤ C * bo := Nat.mul_le_mul_left _ hb;rw [Nat.mul_add, Nat.mul_one] at h2;omega
  subst h2;exact ⟨fun _ => ⟨rfl, by omega⟩, fun hb => absurd hb (by omega)⟩
theorem aCW {C v r c1 c2 x : Nat} (h1 : x = r + C * c1) (h2 : x = v + C * c2) (hr : r < C) (hv : v < C) : v = r := by
 have h3 := congrArg (· % C) (h1.symm.trans h2);simp only [Nat.add_mul_mod_self_left] at h3;rw [Nat.mod_eq_of_lt hr, Nat.mod_eq_of_lt hv] at h3;exact h3.symm
theorem aCX {x y p q1 r1 q0 r0 : Nat} (hy : 0 < y) (h1 : x / p / y = q1) (h2 : x / p % y = r1) (h3 : (x % p + r1 * p) / y = q0) (h4 : (x % p + r1 * p) % y = r0) (hp : 0 < p) :
  q0 + q1 * p = x / y ∧ r0 = x % y ∧ q0 < p := by
 have a := Nat.div_add_mod x p;have b := Nat.div_add_mod (x / p) y;have c := Nat.div_add_mod (x % p + r1 * p) y;have d := Nat.mod_lt (x % p + r1 * p) hy;have e := Nat.mod_lt (x / p) hy;have f := Nat.mod_lt x hp;rw [h1, h2] at b;rw [h3, h4] at c;rw [h4] at d;rw [h2] at e;have hx : x = (q0 + q1 * p) * y + r0 := by
  have : x / p * p = (y * q1 + r1) * p := (by rw [b]);grind
 have h5 := lI hx d;refine ⟨h5.1.symm, h5.2.symm, ?_⟩;rw [← h3, Nat.div_lt_iff_lt_mul hy];have : (r1 + 1) * p ≤ y * p := Nat.mul_le_mul_right _ e;rw [Nat.add_mul, Nat.one_mul] at this;rw [Nat.mul_comm p y];omega
theorem aCY {x y p n yl yh lo q r k : Nat} (hy : y = yl + yh * n) (hx : x = lo + (q * yh + r) * (p * n)) (hk : k ≤ q) (hle : q * yl * p ≤ lo + r * (p * n) + k * (y * p)) (hlt : lo + r * (p * n) + k * (y * p) < q * yl * p + y * p) :
  x / (y * p) = q - k ∧ x % (y * p) = lo + r * (p * n) + k * (y * p) - q * yl * p := by
 refine lI ?_ (by omega);obtain ⟨j, rfl⟩ : ∃ j, q = k + j := ⟨q - k, by omega⟩
 have h1 : (k + j - k) * (y * p) = j * (y * p) := by congr 1; omega
 rw [h1];have h2 : x + (k + j) * yl * p = (k + j) * (y * p) + (lo + r * (p * n)) := by rw [hx, hy]; grind
 have h3 : (k + j) * (y * p) = k * (y * p) + j * (y * p) := Nat.add_mul _ _ _;omega
theorem aBQ {x y p n yl yh lo q r k : Nat} (hy : y = yl + yh * n) (hx : x = lo + (q * yh + r) * (p * n)) (hk : k ≤ q) (hlt : lo + r * (p * n) + k * (y * p) < q * yl * p) : k < q := by
 rcases Nat.lt_or_ge k q with h | h
 ·exact h
 ·exfalso;obtain rfl : k = q := (by omega);have h2 : x + k * yl * p = k * (y * p) + (lo + r * (p * n)) := (by rw [hx, hy]; grind);omega
theorem aBb {x y p q1 r1 q0 r0 : Nat} (hy : 0 < y) (hp : 0 < p) (h1 : x / (y * p) = q1) (h2 : x % (y * p) = r1) (h3 : r1 / y = q0) (h4 : r1 % y = r0) :
  q0 + q1 * p = x / y ∧ r0 = x % y ∧ q0 < p := by
 have a := Nat.div_add_mod x (y * p);have b := Nat.div_add_mod r1 y;have c := Nat.mod_lt r1 hy;have d := Nat.mod_lt x (Nat.mul_pos hy hp);rw [h1, h2] at a;rw [h3, h4] at b;rw [h4] at c;rw [h2] at d;have hx : x = (q0 + q1 * p) * y + r0 := by grind
 have h5 := lI hx c;refine ⟨h5.1.symm, h5.2.symm, ?_⟩;rw [← h3, Nat.div_lt_iff_lt_mul hy, Nat.mul_comm];exact d
theorem aBR {x y f q r : Nat} (hf : 0 < f) (h1 : (x * f) / (y * f) = q) (h2 : (x * f) % (y * f) = r) : x / y = q ∧ x % y = r / f := by
 rw [Nat.mul_div_mul_right _ _ hf] at h1;rw [Nat.mul_mod_mul_right] at h2;refine ⟨h1, ?_⟩;rw [← h2, Nat.mul_div_cancel _ hf]
theorem aAc {b : Nat} (h : b % 2 = 1) : Nat.Coprime 2 b := by
 unfold Nat.Coprime;rw [Nat.gcd_rec, h]; rfl
theorem sD {b : Nat} (t : Nat) (h : b % 2 = 1) : Nat.Coprime (2 ^ t) b := Nat.Coprime.pow_left t (aAc h)
theorem nE {b : Nat} (t c : Nat) (h : b % 2 = 1) : Nat.gcd (2 ^ t * c) b = Nat.gcd c b := Nat.Coprime.gcd_mul_left_cancel c (sD t h)
theorem aCZ {a b : Nat} (i k : Nat) (ha : a % 2 = 1) (hb : b % 2 = 1) : Nat.gcd (2 ^ i * a) (2 ^ k * b) = 2 ^ min i k * Nat.gcd a b := by
 rcases Nat.le_total i k with h | h
 ·rw [Nat.min_eq_left h];obtain ⟨d, rfl⟩ : ∃ d, k = i + d := ⟨k - i, by omega⟩
  rw [Nat.pow_add, Nat.mul_assoc, Nat.gcd_mul_left];congr 1;rw [Nat.gcd_comm, nE d b ha, Nat.gcd_comm]
 ·rw [Nat.min_eq_right h];obtain ⟨d, rfl⟩ : ∃ d, i = k + d := ⟨i - k, by omega⟩
  rw [Nat.pow_add, Nat.mul_assoc, Nat.gcd_mul_left];congr 1;exact nE d a hb
theorem iT {M N : Nat} (hM : 0 < M) (hN : 0 < N) : Nat.gcd M N = 2 ^ min (tz M) (tz N) * Nat.gcd (M / 2 ^ tz M) (N / 2 ^ tz N) := by
 have h1 := eQ hM;have h2 := eQ hN;have h3 := aCZ (tz M) (tz N) h1.2 h2.2;rw [← h1.1, ← h2.1] at h3;exact h3
theorem sO {a b : Nat} (ha : a % 2 = 1) (hb : b % 2 = 1) (h : b < a) :
  Nat.gcd ((a - b) / 2 ^ tz (a - b)) b = Nat.gcd a b ∧ ((a - b) / 2 ^ tz (a - b)) % 2 = 1 ∧ (a - b) / 2 ^ tz (a - b) < a := by
 have h1 := eQ (N := a - b) (by omega);refine ⟨?_, h1.2, ?_⟩
 ·rw [← nE (tz (a - b)) _ hb, ← h1.1, Nat.gcd_sub_self_left (by omega)]
 ·have := Nat.div_le_self (a - b) (2 ^ tz (a - b)); omega
theorem aAd {M N : Nat} (h : M % N = 0) : Nat.gcd M N = N := Nat.gcd_eq_right (Nat.dvd_of_mod_eq_zero h)
theorem lK (M N : Nat) : Nat.gcd (M % N) N = Nat.gcd M N := by rw [Nat.gcd_comm M N, Nat.gcd_rec N M]
theorem fK {N : Nat} (h : 0 < N) : tz N < bl N := by
 rw [fT];have h1 := (eQ h).1;have h2 : 0 < N / 2 ^ tz N := by
  rcases Nat.eq_zero_or_pos (N / 2 ^ tz N) with h5 | h5
  ·rw [h5] at h1; omega
  ·exact h5
 have h3 := Nat.mul_le_mul_left (2 ^ tz N) h2;omega
theorem gM (p N : Nat) (hp : 1 < 2 ^ p) : bl N ≤ p * dg (2 ^ p) N := by
 rw [aT, Nat.pow_mul];exact aM hp N
structure Lp (A B ua va ub vb : Nat) (odd : Bool) : Prop where
 bua : ua < 9223372036854775808
 bva : va < 9223372036854775808
 bub : ub < 9223372036854775808
 bvb : vb < 9223372036854775808
 vbp : 1 ≤ vb
 det : if odd then va * ub = ua * vb + 1 else ua * vb = va * ub + 1
 to : ∃ a b, b < a ∧ 0 < b ∧ (if odd then va * B = ua * A + a ∧ ub * A = vb * B + b else ua * A = va * B + a ∧ vb * B = ub * A + b)
theorem Lp.back {A B ua va ub vb : Nat} {odd : Bool} (h : Lp A B ua va ub vb odd) (hv : 1 ≤ va) :
  ∃ a b, b < a ∧ 0 < b ∧ (if odd then va * B = ua * A + a ∧ ub * A = vb * B + b else ua * A = va * B + a ∧ vb * B = ub * A + b) ∧ Nat.gcd a b = Nat.gcd A B ∧ a + b ≤ A := by
 obtain ⟨a, b, h1, h2, h3⟩ := h.to;have hd := h.det;have e1 : A = vb * a + va * b := by
  cases odd <;> simp at h3 hd <;> obtain ⟨h3, h4⟩ := h3 <;> grind
 have e2 : B = ub * a + ua * b := by
  cases odd <;> simp at h3 hd <;> obtain ⟨h3, h4⟩ := h3 <;> grind
 refine ⟨a, b, h1, h2, h3, ?_, ?_⟩
 ·apply Nat.dvd_antisymm
  ·refine Nat.dvd_gcd ?_ ?_
   ·rw [e1]; exact Nat.dvd_add (Nat.dvd_mul_left_of_dvd (Nat.gcd_dvd_left _ _) _) (Nat.dvd_mul_left_of_dvd (Nat.gcd_dvd_right _ _) _)
   ·rw [e2]; exact Nat.dvd_add (Nat.dvd_mul_left_of_dvd (Nat.gcd_dvd_left _ _) _) (Nat.dvd_mul_left_of_dvd (Nat.gcd_dvd_right _ _) _)
  ·have dA := Nat.gcd_dvd_left A B;have dB := Nat.gcd_dvd_right A B;have key : ∀ p q c : Nat, p * A + c = q * B ∨ q * B + c = p * A → Nat.gcd A B ∣ c := by
    intro p q c hc;rcases hc with hc | hc
    ·exact (Nat.dvd_add_right (Nat.dvd_mul_left_of_dvd dA p)).1 (hc ▸ Nat.dvd_mul_left_of_dvd dB q)
    ·exact (Nat.dvd_add_right (Nat.dvd_mul_left_of_dvd dB q)).1 (hc ▸ Nat.dvd_mul_left_of_dvd dA p)
   cases odd <;> simp at h3
   ·exact Nat.dvd_gcd (key ua va a (Or.inr h3.1.symm)) (key ub vb b (Or.inl h3.2.symm))
   ·exact Nat.dvd_gcd (key ua va a (Or.inl h3.1.symm)) (key ub vb b (Or.inr h3.2.symm))
 ·have h4 : 1 * a ≤ vb * a := Nat.mul_le_mul_right _ h.vbp;have h5 : 1 * b ≤ va * b := Nat.mul_le_mul_right _ hv;omega
structure Lh (A B X0 X1 x y u v ua va ub vb : Nat) (odd : Bool) : Prop where
 e0 : X0 = v * x + vb * y
 e1 : X1 = u * x + ub * y
 uv : u ≤ v
 ubv : ub + u ≤ vb + v
 ord : y ≤ x
 vp : 1 ≤ v
 bub : ub < 9223372036854775808
 bvb : vb < 9223372036854775808
 det : if odd then ub * v = u * vb + 1 else u * vb = ub * v + 1
 pv : va = 0 ∨ Lp A B ua va ub vb odd
theorem Lh.init {A B X0 X1 : Nat} (h : X1 ≤ X0) : Lh A B X0 X1 X0 X1 0 1 0 0 1 0 true :=
 ⟨by omega, by omega, by omega, by omega, h, by omega, by omega, by omega, by simp, Or.inl rfl⟩
theorem Lh.sizes {A B X0 X1 x y u v ua va ub vb : Nat} {odd : Bool} (h : Lh A B X0 X1 x y u v ua va ub vb odd) (h1 : v ≤ y) :
  1 ≤ y ∧ vb + v ≤ X0 ∧ vb + x / y * v ≤ X0 ∧ ub + x / y * u ≤ X1 ∧ x ≤ X0 := by
 have hy : 1 ≤ y := Nat.le_trans h.vp h1;have hd := Nat.div_add_mod x y;have hq : 1 ≤ x / y := (Nat.one_le_div_iff hy).2 h.ord;have e0 := h.e0;have e1 := h.e1;have a1 : 1 * x ≤ v * x := Nat.mul_le_mul_right _ h.vp;have f0 : X0 = (vb + x / y * v) * y + v * (x % y) := by
  have : v * x = v * (y * (x / y) + x % y) := (by rw [hd]);grind
 have f1 : X1 = (ub + x / y * u) * y + u * (x % y) := by
  have : u * x = u * (y * (x / y) + x % y) := (by rw [hd]);grind
 have b0 : (vb + x / y * v) * 1 ≤ (vb + x / y * v) * y := Nat.mul_le_mul_left _ hy;have b1 : (ub + x / y * u) * 1 ≤ (ub + x / y * u) * y := Nat.mul_le_mul_left _ hy;have b2 : 1 * v ≤ x / y * v := Nat.mul_le_mul_right _ hq;refine ⟨hy, by omega, by omega, by omega, by omega⟩
theorem pR {A B D X0 X1 α β p q z : Nat} (hA : A = X0 * D + α) (hB : B = X1 * D + β) (hβ : β < D) (_ : 0 < D) (he : p * X0 = q * X1 + z) (hz : q ≤ z) (hq : 1 ≤ q) :
  ∃ a, 0 < a ∧ p * A = q * B + a := by
 have h1 : q * β < q * D := Nat.mul_lt_mul_of_pos_left hβ (by omega);have h2 : q * D ≤ z * D := Nat.mul_le_mul_right _ hz;have h3 : p * A = q * X1 * D + z * D + p * α := by
  rw [hA, Nat.mul_add, ← Nat.mul_assoc, he, Nat.add_mul]
 have h4 : q * B = q * X1 * D + q * β := by rw [hB, Nat.mul_add, ← Nat.mul_assoc]
 exact ⟨p * A - q * B, by omega, by omega⟩
theorem Lh.next {A B D X0 X1 x y u v ua va ub vb α β : Nat} {odd : Bool} (h : Lh A B X0 X1 x y u v ua va ub vb odd) (hA : A = X0 * D + α) (hα : α < D) (hB : B = X1 * D + β) (hβ : β < D) (hX : X0 < 18446744073709551616) (h1 : v ≤ y) (h2 : vb + v ≤ x - y) :
  Lh A B X0 X1 y (x % y) (ub + x / y * u) (vb + x / y * v) ub vb u v (!odd) := by
 obtain ⟨hy, -, -, -, hx⟩ := h.sizes h1;have hd := Nat.div_add_mod x y;have hq : 1 ≤ x / y := (Nat.one_le_div_iff hy).2 h.ord;have hm := Nat.mod_lt x (show 0 < y from hy);have e0 := h.e0;have e1 := h.e1;have uv := h.uv;have ubv := h.ubv;have vp := h.vp;have ord := h.ord;have det := h.det;have bv : v < 9223372036854775808 := by omega
 have b2 : 1 * v ≤ x / y * v := Nat.mul_le_mul_right _ hq;refine ⟨?_, ?_, ?_, ?_, by omega, by omega, by omega, bv, ?_, Or.inr ⟨h.bub, h.bvb, by omega, bv, vp, ?_, ?_⟩⟩
 ·have : v * x = v * (y * (x / y) + x % y) := (by rw [hd]);grind
 ·have : u * x = u * (y * (x / y) + x % y) := (by rw [hd]);grind
 ·obtain ⟨q, hq'⟩ : ∃ q, x / y = q + 1 := ⟨x / y - 1, by omega⟩
  have := Nat.mul_le_mul_left q uv;rw [hq', Nat.add_mul, Nat.add_mul];omega
 ·have := Nat.mul_le_mul_left (x / y) uv;obtain ⟨q, hq'⟩ : ∃ q, x / y = q + 1 := ⟨x / y - 1, by omega⟩
  have := Nat.mul_le_mul_left q uv;rw [hq', Nat.add_mul, Nat.add_mul];omega
 ·cases odd <;> simp at det ⊢ <;> grind
 ·cases odd <;> simp at det ⊢ <;> rw [Nat.mul_comm vb u] <;> omega
 ·have hD : 0 < D := (by omega);cases odd
  ·simp at det ⊢;have f1 : vb * X1 = ub * X0 + x := (by grind);have f2 : u * X0 = v * X1 + y := (by grind);obtain ⟨b, hb, eb⟩ := pR hA hB hβ hD f2 h1 vp;have f3 : (vb + v) * X1 = (ub + u) * X0 + (x - y) := (by rw [Nat.add_mul, Nat.add_mul]; omega);obtain ⟨c, hc, ec⟩ := pR hB hA hα hD f3 (by omega) (by
    have : 0 < ub + u := by
     rcases Nat.eq_zero_or_pos (ub + u) with h0 | h0
     ·exfalso;have h5 : ub = 0 := (by omega);have h6 : u = 0 := (by omega);rw [h5, h6] at det; omega
     ·exact h0
    omega)
   rw [Nat.add_mul, Nat.add_mul] at ec;exact ⟨b + c, b, by omega, hb, by omega, by omega⟩
  ·simp at det ⊢;have f1 : ub * X0 = vb * X1 + x := (by grind);have f2 : v * X1 = u * X0 + y := (by grind);rcases Nat.eq_zero_or_pos u with hu | hu
   ·subst hu;have f3 : (ub + 0) * X0 = (vb + v) * X1 + (x - y) := (by rw [Nat.add_mul, Nat.add_mul]; omega);obtain ⟨c, hc, ec⟩ := pR hA hB hβ hD f3 h2 (by omega);have hB0 : 0 < v * B := by
     have : 0 < X1 := by
      rcases Nat.eq_zero_or_pos X1 with h0 | h0
      ·rw [h0] at f2; omega
      ·exact h0
     have : 0 < X1 * D := Nat.mul_pos this hD;exact Nat.mul_pos vp (by omega)
    rw [Nat.add_mul, Nat.add_mul] at ec;exact ⟨v * B + c, v * B, by omega, hB0, by omega, by omega⟩
   ·obtain ⟨b, hb, eb⟩ := pR hB hA hα hD f2 (by omega) hu;have f3 : (ub + u) * X0 = (vb + v) * X1 + (x - y) := (by rw [Nat.add_mul, Nat.add_mul]; omega);obtain ⟨c, hc, ec⟩ := pR hA hB hβ hD f3 h2 (by omega);rw [Nat.add_mul, Nat.add_mul] at ec;exact ⟨b + c, b, by omega, hb, by omega, by omega⟩
theorem aBc {M N : Nat} (hM : 0 < M) (hN : 0 < N) (h : Nat.gcd M N % 2 = 1) : Nat.gcd (M / 2 ^ tz M) (N / 2 ^ tz N) = Nat.gcd M N := by
 have h1 := iT hM hN;rcases Nat.eq_zero_or_pos (min (tz M) (tz N)) with h2 | h2
 ·rw [h2] at h1; omega
 ·exfalso;obtain ⟨k, hk⟩ : ∃ k, min (tz M) (tz N) = k + 1 := ⟨min (tz M) (tz N) - 1, by omega⟩
  rw [hk, Nat.pow_succ, Nat.mul_comm (2 ^ k) 2, Nat.mul_assoc] at h1;omega
theorem xU {M N : Nat} (h : M % 2 = 1) : Nat.gcd M N % 2 = 1 := by
 rcases Nat.mod_two_eq_zero_or_one (Nat.gcd M N) with h1 | h1
 ·exfalso;have h2 : 2 ∣ Nat.gcd M N := Nat.dvd_of_mod_eq_zero h1;have h3 := Nat.dvd_trans h2 (Nat.gcd_dvd_left M N);omega
 ·exact h1
theorem pJ {A B : Nat} (h : B ≤ A) (hB : 0 < B) : Nat.gcd B (A % B) = Nat.gcd A B ∧ A % B < B ∧ B + A % B < A + B := by
 have := Nat.mod_lt A hB;refine ⟨?_, this, by omega⟩;rw [Nat.gcd_comm B, lK]
theorem wD {M N : Nat} (hM : 0 < M) (hN : 0 < N) (h : M / 2 ^ tz M = 1 ∨ N / 2 ^ tz N = 1) : Nat.gcd M N = 2 ^ min (tz M) (tz N) := by
 rw [iT hM hN];rcases h with h | h <;> rw [h] <;> simp
theorem sP {α : Type} {P : List α → Prop} (nil : P []) (snoc : ∀ xs x, P xs → P (xs ++ [x])) (l : List α) : P l := by
 have h : ∀ r : List α, P r.reverse := by
  intro r
  induction r with
  | nil => exact nil
  | cons x r ih => rw [List.reverse_cons]; exact snoc _ _ ih
 have := h l.reverse
 rwa [List.reverse_reverse] at this
def dv (l : List UInt8) : Nat := l.foldl (fun a c => 10 * a + (c.toNat - 48)) 0
theorem tY : dv [] = 0 := rfl
theorem jK (l : List UInt8) (c : UInt8) : dv (l ++ [c]) = 10 * dv l + (c.toNat - 48) := by simp [dv]
def aY (l : List UInt8) : Prop := ∀ c ∈ l, 48 ≤ c.toNat ∧ c.toNat ≤ 57
theorem aBS (xs ys : List UInt8) : dv (xs ++ ys) = dv xs * 10 ^ ys.length + dv ys := by
 induction ys using sP with
 | nil => simp [tY]
 | snoc ys c ih =>
   rw [← List.append_assoc, jK, jK, ih, List.length_append, List.length_singleton, Nat.pow_succ];grind
theorem aY.app {xs ys : List UInt8} (h : aY (xs ++ ys)) : aY xs ∧ aY ys := ⟨fun c hc => h c (by simp [hc]), fun c hc => h c (by simp [hc])⟩
theorem rD {l : List UInt8} (h : aY l) : dv l < 10 ^ l.length := by
 induction l using sP with
 | nil => simp [tY]
 | snoc ys c ih =>
   have h1 := ih h.app.1;have h2 := h c (by simp);rw [jK, List.length_append, List.length_singleton, Nat.pow_succ];omega
theorem aY.take {l : List UInt8} (h : aY l) (k : Nat) : aY (l.take k) := fun c hc => h c (List.mem_of_mem_take hc)
theorem aY.drop {l : List UInt8} (h : aY l) (k : Nat) : aY (l.drop k) := fun c hc => h c (List.mem_of_mem_drop hc)
theorem pU {l : List UInt8} {k : Nat} (hk : k < l.length) : dv (l.take (k + 1)) = 10 * dv (l.take k) + (l[k].toNat - 48) := by
 rw [List.take_succ_eq_append_getElem hk, jK]
def dig (n : Nat) : UInt8 := UInt8.ofNat (48 + n)
theorem jC {n : Nat} (h : n < 10) : (dig n).toNat = 48 + n := by
 unfold dig; rw [UInt8.toNat_ofNat']; omega
def dec (N : Nat) : List UInt8 := if _h : N < 10 then [dig N] else dec (N / 10) ++ [dig (N % 10)]
termination_by N
decreasing_by omega
theorem bE {N : Nat} (h : N < 10) : dec N = [dig N] := by rw [dec]; simp [h]
theorem iA {N : Nat} (h : 10 ≤ N) : dec N = dec (N / 10) ++ [dig (N % 10)] := by rw [dec]; simp [Nat.not_lt.2 h]
theorem aC0 (N : Nat) : aY (dec N) := by
 induction N using Nat.strongRecOn with
 | _ N ih =>
   rcases Nat.lt_or_ge N 10 with h | h
   ·rw [bE h]; intro c hc; simp at hc; subst hc; rw [jC h]; omega
   ·rw [iA h];intro c hc;rcases List.mem_append.1 hc with hc | hc
    ·exact ih (N / 10) (by omega) c hc
    ·simp at hc; subst hc; rw [jC (Nat.mod_lt _ (by decide))]; omega
theorem kF (N : Nat) : dv (dec N) = N := by
 induction N using Nat.strongRecOn with
 | _ N ih =>
   rcases Nat.lt_or_ge N 10 with h | h
   ·rw [bE h, ← List.nil_append [dig N], jK, jC h, tY]; omega
   ·rw [iA h, jK, ih (N / 10) (by omega), jC (Nat.mod_lt _ (by decide))]; omega
theorem aAx {M N : Nat} (h : dec M = dec N) : M = N := by rw [← kF M, h, kF]
theorem oF (N : Nat) : dec N ≠ [] := by
 rcases Nat.lt_or_ge N 10 with h | h
 ·rw [bE h]; simp
 ·rw [iA h]; simp
theorem dU (N : Nat) : (dec N).length = if N = 0 then 1 else dg 10 N := by
 induction N using Nat.strongRecOn with
 | _ N ih =>
   rcases Nat.lt_or_ge N 10 with h | h
   ·rw [bE h];rcases Nat.eq_zero_or_pos N with h0 | h0
    ·subst h0; rfl
    ·rw [if_neg (by omega), lG (by decide) h0, Nat.div_eq_of_lt h, aQ]; rfl
   ·rw [iA h, List.length_append, ih (N / 10) (by omega), if_neg (by omega), if_neg (by omega), lG (by decide) (show 0 < N by omega)]; rfl
def Row (l : List UInt8) : Prop := aY l ∧ l ≠ [] ∧ (l.head? = some 48 → l = [48])
theorem vC (N : Nat) : Row (dec N) := by
 refine ⟨aC0 N, oF N, ?_⟩
 induction N using Nat.strongRecOn with
 | _ N ih =>
   rcases Nat.lt_or_ge N 10 with h | h
   ·rw [bE h]; simp
   ·rw [iA h];have h2 := ih (N / 10) (by omega);have h3 := oF (N / 10);intro h4;have h5 : (dec (N / 10)).head? = some 48 := by
     cases hd : dec (N / 10) with
     | nil => exact absurd hd h3
     | cons x r => rw [hd] at h4; simpa using h4
    have h6 := h2 h5;have h7 : N / 10 = 0 := (by rw [← kF (N / 10), h6]; rfl);omega
theorem wF {a b : UInt8} (h : a.toNat = b.toNat) : a = b := UInt8.toNat.inj h
theorem xV {l : List UInt8} (h : Row l) : dec (dv l) = l := by
 obtain ⟨h1, h2, h3⟩ := h
 induction l using sP with
 | nil => exact absurd rfl h2
 | snoc ys c ih =>
   have hc := h1 c (by simp);have ec : dig (c.toNat - 48) = c := wF (by rw [jC (by omega)]; omega);rw [jK];by_cases hy : ys = []
   ·subst hy;rw [tY, bE (by omega)];simp [ec]
   ·have h5 : ys.head? ≠ some 48 := by
     intro h6
     have h7 := h3 (by cases ys with
      | nil => exact absurd rfl hy
      | cons x r => simpa using h6)
     cases ys with
     | nil => exact absurd rfl hy
     | cons x r => simp at h7
    have h6 := ih h1.app.1 hy (fun h => absurd h h5);have h7 : 0 < dv ys := by
     rcases Nat.eq_zero_or_pos (dv ys) with h8 | h8
     ·rw [h8, bE (by decide)] at h6;rw [← h6] at h5; exact absurd rfl h5
     ·exact h8
    rw [iA (by omega), show (10 * dv ys + (c.toNat - 48)) / 10 = dv ys by omega, show (10 * dv ys + (c.toNat - 48)) % 10 = c.toNat - 48 by omega, h6, ec]
def pd : Nat → Nat → List UInt8
 | 0, _ => []
 | k + 1, n => pd k (n / 10) ++ [dig (n % 10)]
theorem tZ {hi : Nat} (h : 0 < hi) (k lo : Nat) (hl : lo < 10 ^ k) : dec (hi * 10 ^ k + lo) = dec hi ++ pd k lo := by
 induction k generalizing lo with
 | zero => simp at hl; subst hl; simp [pd]
 | succ k ih =>
   have h1 : 0 < 10 ^ k := Nat.pow_pos (by decide);have h2 : 10 ^ k ≤ hi * 10 ^ k := by
    have := Nat.mul_le_mul_right (10 ^ k) h;omega
   rw [Nat.pow_succ] at hl ⊢;have e1 : hi * (10 ^ k * 10) = 10 * (hi * 10 ^ k) := (by grind);rw [iA (by omega), show (hi * (10 ^ k * 10) + lo) / 10 = hi * 10 ^ k + lo / 10 by omega, ih (lo / 10) (by omega), show (hi * (10 ^ k * 10) + lo) % 10 = lo % 10 by omega, pd, List.append_assoc]
theorem pd_succ' (k n : Nat) : pd (k + 1) n = dig (n / 10 ^ k % 10) :: pd k n := by
 induction k generalizing n with
 | zero => simp [pd]
 | succ k ih =>
   rw [pd, ih (n / 10), pd, Nat.pow_succ, Nat.mul_comm, ← Nat.div_div_eq_div_mul]; rfl
theorem wG (k n : Nat) : (pd k n).length = k := by
 induction k generalizing n with
 | zero => rfl
 | succ k ih => rw [pd, List.length_append, ih]; rfl
structure Lu (a M E : Nat) : Prop where
 le : 10 ^ a ≤ M * 2 ^ E
structure Ll (a M E : Nat) : Prop where
 le : M * 2 ^ E ≤ 10 ^ a
theorem Lu.step {a M E : Nat} (h : Lu a M E) (b t a' M' E' : Nat) (ha : 2 * a + b = a') (hE : 2 * E + t = E') (hM : M * M * 10 ^ b ≤ M' * 2 ^ t) : Lu a' M' E' := by
 refine ⟨?_⟩;subst ha hE;have h1 := Nat.mul_le_mul h.le h.le;have h2 := Nat.mul_le_mul_right (10 ^ b) h1;have h3 := Nat.mul_le_mul_right (2 ^ E * 2 ^ E) hM;rw [Nat.pow_add, Nat.pow_add, Nat.two_mul, Nat.two_mul, Nat.pow_add, Nat.pow_add];grind
theorem Ll.step {a M E : Nat} (h : Ll a M E) (b t a' M' E' : Nat) (ha : 2 * a + b = a') (hE : 2 * E + t = E') (hM : M' * 2 ^ t ≤ M * M * 10 ^ b) : Ll a' M' E' := by
 refine ⟨?_⟩;subst ha hE;have h1 := Nat.mul_le_mul h.le h.le;have h2 := Nat.mul_le_mul_right (10 ^ b) h1;have h3 := Nat.mul_le_mul_right (2 ^ E * 2 ^ E) hM;rw [Nat.pow_add, Nat.pow_add, Nat.two_mul, Nat.two_mul, Nat.pow_add, Nat.pow_add];grind
theorem aFN : Lu 5553023288523357132 41546534998512897341558166020 18446744073709551520 := by
 have h : Lu 0 1 0 := ⟨by decide⟩
 replace h := h.step 1 0 1 10 0 (by decide) (by decide) (by decide);replace h := h.step 0 0 2 100 0 (by decide) (by decide) (by decide);replace h := h.step 0 0 4 10000 0 (by decide) (by decide) (by decide);replace h := h.step 1 0 9 1000000000 0 (by decide) (by decide) (by decide);replace h := h.step 1 0 19 10000000000000000000 0 (by decide) (by decide) (by decide);replace h := h.step 0 31 38 46566128730773925781250000000 31 (by decide) (by decide) (by decide);replace h := h.step 1 98 77 68422776578360208541197733560 160 (by decide) (by decide) (by decide);replace h := h.step 0 96 154 59091063153828708996857156882 416 (by decide) (by decide) (by decide);replace h := h.step 0 96 308 44072128317012440822003468782 928 (by decide) (by decide) (by decide);replace h := h.step 0 95 616 49031870303479681585965434945 1951 (by decide) (by decide) (by decide);replace h := h.step 1 98 1233 75860787034673785722312053061 4000 (by decide) (by decide) (by decide);replace h := h.step 0 96 2466 72636532602709526740073931712 8096 (by decide) (by decide) (by decide);replace h := h.step 0 96 4932 66593313553050968571760079422 16288 (by decide) (by decide) (by decide);replace h := h.step 0 96 9864 55973397201740459171030042668 32672 (by decide) (by decide) (by decide);replace h := h.step 0 95 19728 79088573933283726119377417810 65439 (by decide) (by decide) (by decide);replace h := h.step 0 96 39456 78949231287224761636943583999 130974 (by decide) (by decide) (by decide);replace h := h.step 1 100 78913 49169551292142452083889250190 262048 (by decide) (by decide) (by decide);replace h := h.step 0 95 157826 61029934244287230230002091044 524191 (by decide) (by decide) (by decide);replace h := h.step 0 96 315652 47011728603341418753486644292 1048478 (by decide) (by decide) (by decide);replace h := h.step 1 98 631305 69738542335760975735847505061 2097054 (by decide) (by decide) (by decide);replace h := h.step 1 99 1262611 76731936800899265598558346773 4194207 (by decide) (by decide) (by decide);replace h := h.step 0 96 2525222 74314359166882785082217469799 8388510 (by decide) (by decide) (by decide);replace h := h.step 1 100 5050445 43565821507836270452164057591 16777120 (by decide) (by decide) (by decide);replace h := h.step 0 95 10100890 47911771355569038443635533350 33554335 (by decide) (by decide) (by decide);replace h := h.step 1 98 20201781 72434402161448408869311255889 67108768 (by decide) (by decide) (by decide);replace h := h.step 0 96 40403562 66223202078450472907196399032 134217632 (by decide) (by decide) (by decide);replace h := h.step 0 96 80807124 55352949687981390123294171488 268435360 (by decide) (by decide) (by decide);replace h := h.step 0 95 161614248 77344947602654847695764415547 536870815 (by decide) (by decide) (by decide);replace h := h.step 0 96 323228496 75506495794098136825075110341 1073741726 (by decide) (by decide) (by decide);replace h := h.step 1 100 646456993 44974781742521976276597713783 2147483552 (by decide) (by decide) (by decide);replace h := h.step 0 95 1292913986 51060908863645880260346256018 4294967199 (by decide) (by decide) (by decide);replace h := h.step 0 95 2585827972 65815395214098115954566351867 8589934493 (by decide) (by decide) (by decide);replace h := h.step 1 99 5171655945 68341643137439458016605241063 17179869085 (by decide) (by decide) (by decide);replace h := h.step 1 99 10343311891 73688762280146101158264309882 34359738269 (by decide) (by decide) (by decide);replace h := h.step 1 100 20686623783 42835412892182220879441644631 68719476638 (by decide) (by decide) (by decide);replace h := h.step 1 98 41373247567 57898370333698514611471754219 137438953374 (by decide) (by decide) (by decide);replace h := h.step 1 99 82746495135 52888726383982496876955421874 274877906847 (by decide) (by decide) (by decide);replace h := h.step 0 95 165492990270 70611693866209550423564729846 549755813789 (by decide) (by decide) (by decide);replace h := h.step 1 99 330985980541 78665387919314797413513951561 1099511627677 (by decide) (by decide) (by decide);replace h := h.step 1 100 661971961083 48816631770474761788895178355 2199023255454 (by decide) (by decide) (by decide);replace h := h.step 1 98 1323943922167 75196226372947754917843712077 4398046511006 (by decide) (by decide) (by decide);replace h := h.step 1 100 2647887844335 44605922639200148419164657325 8796093022112 (by decide) (by decide) (by decide);replace h := h.step 0 95 5295775688670 50226794901019756826223879723 17592186044319 (by decide) (by decide) (by decide);replace h := h.step 0 95 10591551377340 63682681661963537495245183544 35184372088733 (by decide) (by decide) (by decide);replace h := h.step 1 99 21183102754681 63984254698082146836524285523 70368744177565 (by decide) (by decide) (by decide);replace h := h.step 1 99 42366205509363 64591691883109764164013905117 140737488355229 (by decide) (by decide) (by decide);replace h := h.step 1 99 84732411018727 65823921190451692050466067823 281474976710557 (by decide) (by decide) (by decide);replace h := h.step 1 99 169464822037455 68359350756536771480578012374 562949953421213 (by decide) (by decide) (by decide);replace h := h.step 1 99 338929644074911 73726953389425943537712787068 1125899906842525 (by decide) (by decide) (by decide);replace h := h.step 1 100 677859288149823 42879825522174185319699978275 2251799813685150 (by decide) (by decide) (by decide);replace h := h.step 1 98 1355718576299647 58018492997394155657878904564 4503599627370398 (by decide) (by decide) (by decide);replace h := h.step 1 99 2711437152599295 53108412193117403487966410758 9007199254740895 (by decide) (by decide) (by decide);replace h := h.step 0 95 5422874305198590 71199516842669532378517993780 18014398509481885 (by decide) (by decide) (by decide);replace h := h.step 1 100 10845748610397181 39990287526522580259100009873 36028797018963870 (by decide) (by decide) (by decide);replace h := h.step 1 98 21691497220794363 50462583180760419042182482658 72057594037927838 (by decide) (by decide) (by decide);replace h := h.step 1 99 43382994441588727 40176248894083184574080550171 144115188075855775 (by decide) (by decide) (by decide);replace h := h.step 1 98 86765988883177455 50932992889640415093870448298 288230376151711648 (by decide) (by decide) (by decide);replace h := h.step 0 95 173531977766354910 65486051484006170360131773747 576460752303423391 (by decide) (by decide) (by decide);replace h := h.step 0 96 347063955532709820 54127507225651152910871191809 1152921504606846878 (by decide) (by decide) (by decide);replace h := h.step 1 99 694127911065419641 46223889105332892851278406452 2305843009213693855 (by decide) (by decide) (by decide);replace h := h.step 1 98 1388255822130839283 67420720619307185674736194682 4611686018427387808 (by decide) (by decide) (by decide);replace h := h.step 0 96 2776511644261678566 57372952048563362119010062552 9223372036854775712 (by decide) (by decide) (by decide);replace h := h.step 0 96 5553023288523357132 41546534998512897341558166020 18446744073709551520 (by decide) (by decide) (by decide);exact h
theorem aFO : Ll 5553023288523357133 51933168748021119845971274118 18446744073709551523 := by
 have h : Ll 0 1 0 := ⟨by decide⟩
 replace h := h.step 1 0 1 10 0 (by decide) (by decide) (by decide);replace h := h.step 0 0 2 100 0 (by decide) (by decide) (by decide);replace h := h.step 0 0 4 10000 0 (by decide) (by decide) (by decide);replace h := h.step 1 0 9 1000000000 0 (by decide) (by decide) (by decide);replace h := h.step 1 0 19 10000000000000000000 0 (by decide) (by decide) (by decide);replace h := h.step 0 31 38 46566128730773925781250000000 31 (by decide) (by decide) (by decide);replace h := h.step 1 98 77 68422776578360208541197733559 160 (by decide) (by decide) (by decide);replace h := h.step 0 96 154 59091063153828708996857156879 416 (by decide) (by decide) (by decide);replace h := h.step 0 96 308 44072128317012440822003468777 928 (by decide) (by decide) (by decide);replace h := h.step 0 95 616 49031870303479681585965434933 1951 (by decide) (by decide) (by decide);replace h := h.step 1 98 1233 75860787034673785722312053023 4000 (by decide) (by decide) (by decide);replace h := h.step 0 96 2466 72636532602709526740073931638 8096 (by decide) (by decide) (by decide);replace h := h.step 0 96 4932 66593313553050968571760079286 16288 (by decide) (by decide) (by decide);replace h := h.step 0 96 9864 55973397201740459171030042439 32672 (by decide) (by decide) (by decide);replace h := h.step 0 95 19728 79088573933283726119377417162 65439 (by decide) (by decide) (by decide);replace h := h.step 0 96 39456 78949231287224761636943582704 130974 (by decide) (by decide) (by decide);replace h := h.step 1 100 78913 49169551292142452083889248576 262048 (by decide) (by decide) (by decide);replace h := h.step 0 95 157826 61029934244287230230002087037 524191 (by decide) (by decide) (by decide);replace h := h.step 0 96 315652 47011728603341418753486638118 1048478 (by decide) (by decide) (by decide);replace h := h.step 1 98 631305 69738542335760975735847486742 2097054 (by decide) (by decide) (by decide);replace h := h.step 1 99 1262611 76731936800899265598558306460 4194207 (by decide) (by decide) (by decide);replace h := h.step 0 96 2525222 74314359166882785082217391712 8388510 (by decide) (by decide) (by decide);replace h := h.step 1 100 5050445 43565821507836270452163966035 16777120 (by decide) (by decide) (by decide);replace h := h.step 0 95 10100890 47911771355569038443635331971 33554335 (by decide) (by decide) (by decide);replace h := h.step 1 98 20201781 72434402161448408869310646987 67108768 (by decide) (by decide) (by decide);replace h := h.step 0 96 40403562 66223202078450472907195285653 134217632 (by decide) (by decide) (by decide);replace h := h.step 0 96 80807124 55352949687981390123292310242 268435360 (by decide) (by decide) (by decide);replace h := h.step 0 95 161614248 77344947602654847695759214090 536870815 (by decide) (by decide) (by decide);replace h := h.step 0 96 323228496 75506495794098136825064954698 1073741726 (by decide) (by decide) (by decide);replace h := h.step 1 100 646456993 44974781742521976276585615542 2147483552 (by decide) (by decide) (by decide);replace h := h.step 0 95 1292913986 51060908863645880260318785192 4294967199 (by decide) (by decide) (by decide);replace h := h.step 0 95 2585827972 65815395214098115954495534354 8589934493 (by decide) (by decide) (by decide);replace h := h.step 1 99 5171655945 68341643137439458016458169539 17179869085 (by decide) (by decide) (by decide);replace h := h.step 1 99 10343311891 73688762280146101157947152784 34359738269 (by decide) (by decide) (by decide);replace h := h.step 1 100 20686623783 42835412892182220879072916622 68719476638 (by decide) (by decide) (by decide);replace h := h.step 1 98 41373247567 57898370333698514610474973780 137438953374 (by decide) (by decide) (by decide);replace h := h.step 1 99 82746495135 52888726383982496875134353418 274877906847 (by decide) (by decide) (by decide);replace h := h.step 0 95 165492990270 70611693866209550418702115934 549755813789 (by decide) (by decide) (by decide);replace h := h.step 1 99 330985980541 78665387919314797402679502229 1099511627677 (by decide) (by decide) (by decide);replace h := h.step 1 100 661971961083 48816631770474761775448315955 2199023255454 (by decide) (by decide) (by decide);replace h := h.step 1 98 1323943922167 75196226372947754876417121492 4398046511006 (by decide) (by decide) (by decide);replace h := h.step 1 100 2647887844335 44605922639200148370016677859 8796093022112 (by decide) (by decide) (by decide);replace h := h.step 0 95 5295775688670 50226794901019756715541470823 17592186044319 (by decide) (by decide) (by decide);replace h := h.step 0 95 10591551377340 63682681661963537214576165126 35184372088733 (by decide) (by decide) (by decide);replace h := h.step 1 99 21183102754681 63984254698082146272527999824 70368744177565 (by decide) (by decide) (by decide);replace h := h.step 1 99 42366205509363 64591691883109763025312689294 140737488355229 (by decide) (by decide) (by decide);replace h := h.step 1 99 84732411018727 65823921190451689729617150428 281474976710557 (by decide) (by decide) (by decide);replace h := h.step 1 99 169464822037455 68359350756536766660089584220 562949953421213 (by decide) (by decide) (by decide);replace h := h.step 1 99 338929644074911 73726953389425933139722703090 1125899906842525 (by decide) (by decide) (by decide);replace h := h.step 1 100 677859288149823 42879825522174173224693197586 2251799813685150 (by decide) (by decide) (by decide);replace h := h.step 1 98 1355718576299647 58018492997394122927612040676 4503599627370398 (by decide) (by decide) (by decide);replace h := h.step 1 99 2711437152599295 53108412193117343567330282681 9007199254740895 (by decide) (by decide) (by decide);replace h := h.step 0 95 5422874305198590 71199516842669371713939067528 18014398509481885 (by decide) (by decide) (by decide);replace h := h.step 1 100 10845748610397181 39990287526522399779709376198 36028797018963870 (by decide) (by decide) (by decide);replace h := h.step 1 98 21691497220794363 50462583180759963558772605973 72057594037927838 (by decide) (by decide) (by decide);replace h := h.step 1 99 43382994441588727 40176248894082459299483457871 144115188075855775 (by decide) (by decide) (by decide);replace h := h.step 1 98 86765988883177455 50932992889638576176255509942 288230376151711648 (by decide) (by decide) (by decide);replace h := h.step 0 95 173531977766354910 65486051484001441658880401159 576460752303423391 (by decide) (by decide) (by decide);replace h := h.step 0 96 347063955532709820 54127507225643335893190285572 1152921504606846878 (by decide) (by decide) (by decide);replace h := h.step 1 99 694127911065419641 46223889105319541674513134180 2305843009213693855 (by decide) (by decide) (by decide);replace h := h.step 1 98 1388255822130839283 67420720619268238456055435661 4611686018427387808 (by decide) (by decide) (by decide);replace h := h.step 0 96 2776511644261678566 57372952048497076357325232461 9223372036854775712 (by decide) (by decide) (by decide);replace h := h.step 1 99 5553023288523357133 51933168748021119845971274118 18446744073709551523 (by decide) (by decide) (by decide);exact h
theorem log_dn' {C E M k w m n : Nat} (h : Lu C M E) (hM : M ≤ 2 ^ k) (hw : k + E = w) (hw0 : 0 < w) (hmn : m * w ≤ n * C) : 10 ^ m ≤ 2 ^ n := by
 have h1 : 10 ^ C ≤ 2 ^ w := by
  rw [← hw, Nat.pow_add];exact Nat.le_trans h.le (Nat.mul_le_mul_right _ hM)
 refine (Nat.pow_le_pow_iff_left (n := w) (by omega)).1 ?_;rw [← Nat.pow_mul, ← Nat.pow_mul, Nat.mul_comm n w, Nat.pow_mul 2 w n];refine Nat.le_trans (Nat.pow_le_pow_right (by decide) hmn) ?_;rw [Nat.mul_comm, Nat.pow_mul];exact Nat.pow_le_pow_left h1 n
theorem log_up' {C E M k w m n : Nat} (h : Ll C M E) (hM : 2 ^ k ≤ M) (hw : k + E = w) (hw0 : 0 < w) (hmn : n * C < m * w) : 2 ^ n < 10 ^ m := by
 have h1 : 2 ^ w ≤ 10 ^ C := by
  rw [← hw, Nat.pow_add];exact Nat.le_trans (Nat.mul_le_mul_right _ hM) h.le
 refine (Nat.pow_lt_pow_iff_left (n := w) (by omega)).1 ?_;rw [← Nat.pow_mul, ← Nat.pow_mul, Nat.mul_comm n w, Nat.pow_mul 2 w n];refine Nat.lt_of_le_of_lt (Nat.pow_le_pow_left h1 n) ?_;rw [← Nat.pow_mul, Nat.mul_comm];exact Nat.pow_lt_pow_right (by decide) hmn
theorem aEL {m n : Nat} (h : m * 18446744073709551616 ≤ n * 5553023288523357132) : 10 ^ m ≤ 2 ^ n :=
 log_dn' (k := 96) aFN (by decide) (by decide) (by decide) h
theorem aEM {m n : Nat} (h : n * 5553023288523357133 < m * 18446744073709551616) : 2 ^ n < 10 ^ m :=
 log_up' (k := 93) aFO (by decide) (by decide) (by decide) h
theorem aBT {N n least most : Nat} (hN : 0 < N) (hn : bl N = n) (h1 : (n - 1) * 5553023288523357132 / 18446744073709551616 = least) (h2 : n * 5553023288523357133 / 18446744073709551616 = most) :
  least + 1 ≤ dg 10 N ∧ dg 10 N ≤ most + 1 := by
 have hp : 0 < bl N := by rw [iE hN]; omega
 rw [hn] at hp;constructor
 ·have h3 : 10 ^ least ≤ 2 ^ (n - 1) := aEL (by rw [← h1]; exact Nat.div_mul_le_self _ _);have h4 : 2 ^ (n - 1) ≤ N := (fT _ _).1 (by omega);rcases Nat.lt_or_ge least (dg 10 N) with h | h
  ·exact h
  ·have := (aD (b := 10) (by decide) N least).1 h;omega
 ·rw [aD (by decide)];have h3 : 2 ^ n < 10 ^ (most + 1) := aEM (by rw [← h2]; omega);have h4 : N < 2 ^ n := (aT _ _).1 (by omega);exact Nat.lt_trans h4 h3
theorem aBU {N k : Nat} : k < dg 10 N ↔ 10 ^ k ≤ N := by
 have := aD (b := 10) (by decide) N k;omega
def dw (width N : Nat) : List UInt8 := if width = 0 then (if N = 0 then [] else dec N) else pd width N
theorem uA {N : Nat} (h : 0 < N) : dw 0 N = dec N := by simp [dw]; omega
theorem aC1 (k : Nat) : ∀ j N, N < 10 ^ k → pd (j + k) N = List.replicate j 48 ++ pd k N := by
 intro j
 induction j with
 | zero => intro N _; simp
 | succ j ih =>
   intro N h;rw [show j + 1 + k = (j + k) + 1 by omega, pd_succ', ih N h];have h1 : N / 10 ^ (j + k) = 0 := Nat.div_eq_of_lt (Nat.lt_of_lt_of_le h (Nat.pow_le_pow_right (by decide) (by omega)));rw [h1, List.replicate_succ];rfl
theorem aEN (k : Nat) : ∀ N, pd k (N % 10 ^ k) = pd k N := by
 intro N
 suffices h : ∀ j, j ≤ k → pd j (N % 10 ^ k) = pd j N from h k (Nat.le_refl _)
 intro j
 induction j with
 | zero => intro _; rfl
 | succ j ih =>
   intro h;rw [pd_succ', pd_succ', ih (by omega)];congr 2;obtain ⟨d, rfl⟩ : ∃ d, k = j + 1 + d := ⟨k - (j + 1), by omega⟩
   rw [Nat.pow_add, Nat.pow_succ, Nat.mul_assoc, Nat.mod_mul_right_div_self, Nat.mod_mul_right_mod]
theorem aEO (j k : Nat) : ∀ N, pd (j + k) N = pd j (N / 10 ^ k) ++ pd k N := by
 intro N
 induction j with
 | zero => simp [pd]
 | succ j ih =>
   rw [show j + 1 + k = (j + k) + 1 by omega, pd_succ', ih, pd_succ', Nat.div_div_eq_div_mul, ← Nat.pow_add, Nat.add_comm k j];rfl
theorem aC2 (k N : Nat) : pd (k + k) N = pd k (N / 10 ^ k) ++ pd k (N % 10 ^ k) := by rw [aEO, aEN]
theorem aC3 {k N w : Nat} (hk : 0 < k) (hw : w = 0 ∨ w = k + k) (h : 0 < N / 10 ^ k ∨ 0 < w) : dw w N = dw (w - k) (N / 10 ^ k) ++ dw k (N % 10 ^ k) := by
 rcases hw with rfl | rfl
 ·have h1 : 0 < N / 10 ^ k := (by omega);have h2 : 0 < N := Nat.lt_of_lt_of_le h1 (Nat.div_le_self _ _);rw [Nat.zero_sub, uA h1, uA h2, dw, if_neg (by omega)];have h3 := Nat.div_add_mod N (10 ^ k);rw [Nat.mul_comm] at h3;rw [← tZ h1 k _ (Nat.mod_lt _ (Nat.pow_pos (by decide))), h3]
 ·rw [show k + k - k = k by omega, dw, if_neg (by omega), dw, if_neg (by omega), dw, if_neg (by omega), aC2]
theorem aEP {k N : Nat} (h : N / 10 ^ k = 0) : N % 10 ^ k = N := Nat.mod_eq_of_lt (by
 rcases Nat.lt_or_ge N (10 ^ k) with h1 | h1
 ·exact h1
 ·have := Nat.div_pos h1 (Nat.pow_pos (by decide)); omega)
def jL (N : Nat) : List UInt8 := if N = 0 then [] else dec N
theorem pV : jL 0 = [] := rfl
theorem xW {N : Nat} (h : 0 < N) : jL N = dec N := by unfold jL; rw [if_neg (by omega)]
theorem wH {T : Nat} (h : 0 < T) : jL T = jL (T / 10) ++ [dig (T % 10)] := by
 rw [xW h];rcases Nat.lt_or_ge T 10 with h1 | h1
 ·rw [bE h1, Nat.div_eq_of_lt h1, Nat.mod_eq_of_lt h1, pV]; rfl
 ·rw [iA h1, xW (by omega)]
theorem xX (N : Nat) : (jL N).length = dg 10 N := by
 unfold jL;split
 ·rename_i h; subst h; rw [aQ]; rfl
 ·rename_i h; rw [dU, if_neg h]
def Rw (N T : Nat) (row : List UInt8) : Prop := jL N = jL T ++ row.reverse
theorem Rw.start (N : Nat) : Rw N N [] := by unfold Rw; simp
theorem Rw.step {N T : Nat} {row : List UInt8} (h : Rw N T row) (hT : 0 < T) : Rw N (T / 10) (row ++ [dig (T % 10)]) := by
 unfold Rw at *
 rw [h, wH hT];simp
theorem Rw.done {N : Nat} {row : List UInt8} (h : Rw N 0 row) : jL N = row.reverse := by
 unfold Rw at h;rw [h, pV]; rfl
theorem Rw.len {N T : Nat} {row : List UInt8} (h : Rw N T row) : row.length ≤ dg 10 N := by
 unfold Rw at h;have := congrArg List.length h;rw [xX] at this;simp at this;omega
theorem aC4 {M P k : Nat} (hP : P < 10 ^ (k + 1)) : (M * 10 ^ (k + 1) + P) / 10 = M * 10 ^ k + P / 10 ∧ (M * 10 ^ (k + 1) + P) % 10 = P % 10 ∧ P / 10 < 10 ^ k := by
 rw [Nat.pow_succ] at *
 have h1 : M * (10 ^ k * 10) = 10 * (M * 10 ^ k) := by grind
 rw [h1];omega
theorem aC5 {w N : Nat} (h : N < 10 ^ w) : pd w N = List.replicate (w - dg 10 N) 48 ++ jL N := by
 have h1 : dg 10 N ≤ w := (aD (by decide) _ _).2 h;obtain ⟨j, hj⟩ : ∃ j, w = j + dg 10 N := ⟨w - dg 10 N, by omega⟩
 have h2 : N < 10 ^ dg 10 N := aM (by decide) N;rw [hj, aC1 _ _ _ h2, show j + dg 10 N - dg 10 N = j by omega];congr 1;clear hj h h1
 induction N using Nat.strongRecOn with
 | _ N ih =>
   rcases Nat.eq_zero_or_pos N with rfl | h0
   ·rw [aQ]; rfl
   ·rw [lG (by decide) h0, pd, wH h0];congr 1;exact ih (N / 10) (Nat.div_lt_self h0 (by decide)) (aM (by decide) _)
theorem aBV {w N : Nat} (h : w = 0 ∨ N < 10 ^ w) : dw w N = List.replicate (w - dg 10 N) 48 ++ jL N := by
 unfold dw;split
 ·rename_i h0; subst h0; simp [jL]
 ·rw [aC5 (by omega)]
theorem xY (n : Nat) : 10 ^ n < 18446744073709551616 ^ (n / 19 + 1) := by
 have h1 : 10 ^ n < 10 ^ (19 * (n / 19 + 1)) := Nat.pow_lt_pow_right (by decide) (by omega);have h2 : (10 ^ 19) ^ (n / 19 + 1) ≤ 18446744073709551616 ^ (n / 19 + 1) := Nat.pow_le_pow_left (by decide) _;rw [Nat.pow_mul] at h1;omega
theorem aBW {V z u p d : Nat} (h : V = z * u + p) (hp : p < u) (hd : d < 10) : 10 * V + d = z * (10 * u) + (10 * p + d) ∧ 10 * p + d < 10 * u := by
 refine ⟨?_, by omega⟩;have : z * (10 * u) = 10 * (z * u) := by grind
 omega
theorem sF {k : Nat} (h : k ≤ 19) : 10 ^ k ≤ 10000000000000000000 := by
 have := Nat.pow_le_pow_right (n := 10) (by decide) h;simpa using this
theorem jW {m : Nat} {a : Int} : (m : Int) ∣ a ↔ m ∣ a.natAbs := by
 constructor
 ·intro h; have := Int.natAbs_dvd_natAbs.2 h; simpa using this
 ·intro h; exact Int.natAbs_dvd_natAbs.1 (by simpa using h)
theorem aIa {g : Nat} {a b : Int} (h : (g : Int) ∣ a * b) (h1 : Nat.Coprime g a.natAbs) (h2 : Nat.Coprime g b.natAbs) : g = 1 := by
 have h3 : g ∣ a.natAbs * b.natAbs := by
  rw [← Int.natAbs_mul]; exact jW.1 h
 have h4 : Nat.Coprime g (a.natAbs * b.natAbs) := Nat.Coprime.mul_right h1 h2;have := Nat.gcd_eq_left h3;rw [Nat.Coprime] at h4;omega
theorem aIi {a b : Int} {m n : Nat} (ha : Nat.Coprime a.natAbs m) (hmn : Nat.Coprime n m) : Nat.Coprime (a * n + b * m).natAbs m := by
 refine aIa (g := Nat.gcd (a * n + b * m).natAbs m) (a := a) (b := (n : Int)) ?_ ?_ ?_
 ·have h1 : ((Nat.gcd (a * n + b * m).natAbs m : Nat) : Int) ∣ a * n + b * m := jW.2 (Nat.gcd_dvd_left _ _);have h2 : ((Nat.gcd (a * n + b * m).natAbs m : Nat) : Int) ∣ b * m := Int.dvd_trans (Int.natCast_dvd_natCast.2 (Nat.gcd_dvd_right _ _)) (Int.dvd_mul_left _ _);have := Int.dvd_sub h1 h2
  rwa [Int.add_sub_cancel] at this
 ·exact (Nat.Coprime.coprime_dvd_right (Nat.gcd_dvd_right _ _) ha).symm
 ·exact (Nat.Coprime.coprime_dvd_right (Nat.gcd_dvd_right _ _) hmn).symm
theorem yE {q : Rat} {a : Int} {b : Nat} (hb : 0 < b) (hc : Nat.Coprime a.natAbs b) (h : a * q.den = q.num * b) : q.num = a ∧ q.den = b := by
 have h1 : q = Rat.mk' a b (by omega) hc := by
  rw [← Rat.num_divInt_den q, Rat.mk_eq_divInt, Rat.divInt_eq_divInt_iff (by exact Int.natCast_ne_zero.2 q.den_nz) (by omega)];exact h.symm
 rw [h1];exact ⟨rfl, rfl⟩
theorem aIe {x y : Rat} {d bX bY c : Nat} {t : Int} (hd : Nat.gcd x.den y.den = d) (hbX : x.den / d = bX) (hbY : y.den / d = bY) (ht : x.num * bY + y.num * bX = t)
  (hc : Nat.gcd t.natAbs d = c) : (x + y).num = t / c ∧ (x + y).den = bX * (y.den / c) ∧ 0 < d ∧ 0 < c ∧ (c : Int) ∣ t ∧ c ∣ y.den := by
 have px : 0 < x.den := Nat.pos_of_ne_zero x.den_nz;have py : 0 < y.den := Nat.pos_of_ne_zero y.den_nz;have hd0 : 0 < d := by rw [← hd]; exact Nat.gcd_pos_of_pos_left _ px
 have hc0 : 0 < c := by rw [← hc]; exact Nat.gcd_pos_of_pos_right _ hd0
 have dx : x.den = bX * d := by rw [← hbX]; exact (Nat.div_mul_cancel (hd ▸ Nat.gcd_dvd_left _ _)).symm
 have dy : y.den = bY * d := by rw [← hbY]; exact (Nat.div_mul_cancel (hd ▸ Nat.gcd_dvd_right _ _)).symm
 obtain ⟨t', ht'⟩ : (c : Int) ∣ t := jW.2 (hc ▸ Nat.gcd_dvd_left _ _);obtain ⟨d', hd'⟩ : c ∣ d := hc ▸ Nat.gcd_dvd_right _ _
 have hbX0 : 0 < bX := by rcases Nat.eq_zero_or_pos bX with h | h; · rw [h] at dx; omega
                          ·exact h
 have hbY0 : 0 < bY := by rcases Nat.eq_zero_or_pos bY with h | h; · rw [h] at dy; omega
                          ·exact h
 have hd'0 : 0 < d' := by rcases Nat.eq_zero_or_pos d' with h | h; · rw [h] at hd'; omega
                          ·exact h
 have e1 : y.den / c = bY * d' := by rw [dy, hd', Nat.mul_left_comm, Nat.mul_div_cancel_left _ hc0]
 have e2 : t / c = t' := by rw [ht', Int.mul_ediv_cancel_left _ (by omega)]
 have cXY : Nat.Coprime bX bY := by
  have h1 : Nat.gcd (bX * d) (bY * d) = d := (by rw [← dx, ← dy]; exact hd);rw [Nat.gcd_mul_right] at h1;exact Nat.eq_of_mul_eq_mul_right hd0 (by rw [h1, Nat.one_mul])
 have rx : Nat.Coprime x.num.natAbs bX := Nat.Coprime.coprime_dvd_right ⟨d, dx⟩ x.reduced;have ry : Nat.Coprime y.num.natAbs bY := Nat.Coprime.coprime_dvd_right ⟨d, dy⟩ y.reduced;have cX : Nat.Coprime t.natAbs bX := by rw [← ht]; exact aIi rx cXY.symm
 have cY : Nat.Coprime t.natAbs bY := by rw [← ht, Int.add_comm]; exact aIi ry cXY
 have t'd : t'.natAbs ∣ t.natAbs := Int.natAbs_dvd_natAbs.2 ⟨c, by rw [ht', Int.mul_comm]⟩;have cD : Nat.Coprime t'.natAbs d' := by
  have h1 : Nat.gcd (c * t'.natAbs) (c * d') = c := by
   rw [← hd', show c * t'.natAbs = t.natAbs by rw [ht', Int.natAbs_mul]; simp]; exact hc
  rw [Nat.gcd_mul_left] at h1;exact Nat.eq_of_mul_eq_mul_left hc0 (by rw [h1, Nat.mul_one])
 rw [e1, e2];have key := yE (q := x + y) (a := t') (b := bX * (bY * d')) (Nat.mul_pos hbX0 (Nat.mul_pos hbY0 hd'0))
  (Nat.Coprime.mul_right (Nat.Coprime.coprime_dvd_left t'd cX) (Nat.Coprime.mul_right (Nat.Coprime.coprime_dvd_left t'd cY) cD)) (by
   have h1 : (x + y) = Rat.divInt (x.num * y.den + y.num * x.den) (x.den * y.den) := by
    rw [← Rat.num_divInt_den x, ← Rat.num_divInt_den y, Rat.divInt_add_divInt _ _ (by omega) (by omega)];simp
   have h2 := Rat.num_divInt_den (x + y);have h2b : Rat.divInt (x + y).num ((x + y).den : Int) = Rat.divInt (x.num * y.den + y.num * x.den) (x.den * y.den) := h2.trans h1;have h3 := (Rat.divInt_eq_divInt_iff (by exact Int.natCast_ne_zero.2 (x + y).den_nz) (by exact Int.mul_ne_zero (by omega) (by omega))).1 h2b
   -- (x+y).num * (x.den * y.den) = (..) * (x+y).den
   have h4 : ((x.den : Nat) : Int) = bX * (c * d') := (by rw [dx, hd']; simp);have h5 : ((y.den : Nat) : Int) = bY * (c * d') := (by rw [dy, hd']; simp);rw [h4, h5] at h3;have hcd : ((c : Int) * d') ≠ 0 := Int.mul_ne_zero (by omega) (by omega);have h6 : (c : Int) * d' * (c * (t' * ((x + y).den : Int))) = (c : Int) * d' * (c * ((x + y).num * ((bX * (bY * d') : Nat) : Int))) := by
    have : (c : Int) * t' = x.num * bY + y.num * bX := (by rw [← ht', ht]);simp only [Int.natCast_mul];grind
   have h7 := Int.eq_of_mul_eq_mul_left hcd h6;exact Int.eq_of_mul_eq_mul_left (by omega) h7)
 exact ⟨key.1, key.2, hd0, hc0, ⟨t', ht'⟩, ⟨bY * d', by rw [dy, hd', Nat.mul_left_comm]⟩⟩
theorem aAA {x y : Rat} {g h : Nat} (hg : Nat.gcd x.num.natAbs y.den = g) (hh : Nat.gcd y.num.natAbs x.den = h) :
  (x * y).num = (x.num / g) * (y.num / h) ∧ (x * y).den = (x.den / h) * (y.den / g) := by
 have px : 0 < x.den := Nat.pos_of_ne_zero x.den_nz;have py : 0 < y.den := Nat.pos_of_ne_zero y.den_nz;have hg0 : 0 < g := by rw [← hg]; exact Nat.gcd_pos_of_pos_right _ py
 have hh0 : 0 < h := by rw [← hh]; exact Nat.gcd_pos_of_pos_right _ px
 obtain ⟨n, hn⟩ : (g : Int) ∣ x.num := jW.2 (hg ▸ Nat.gcd_dvd_left _ _);obtain ⟨m, hm⟩ : (h : Int) ∣ y.num := jW.2 (hh ▸ Nat.gcd_dvd_left _ _);obtain ⟨e, he⟩ : g ∣ y.den := hg ▸ Nat.gcd_dvd_right _ _;obtain ⟨f, hf⟩ : h ∣ x.den := hh ▸ Nat.gcd_dvd_right _ _;have e1 : x.num / g = n := by rw [hn, Int.mul_ediv_cancel_left _ (by omega)]
 have e2 : y.num / h = m := by rw [hm, Int.mul_ediv_cancel_left _ (by omega)]
 have e3 : x.den / h = f := by rw [hf, Nat.mul_div_cancel_left _ hh0]
 have e4 : y.den / g = e := by rw [he, Nat.mul_div_cancel_left _ hg0]
 have he0 : 0 < e := by rcases Nat.eq_zero_or_pos e with h | h; · rw [h] at he; omega
                        ·exact h
 have hf0 : 0 < f := by rcases Nat.eq_zero_or_pos f with h | h; · rw [h] at hf; omega
                        ·exact h
 have nx : x.num.natAbs = g * n.natAbs := by rw [hn, Int.natAbs_mul]; simp
 have ny : y.num.natAbs = h * m.natAbs := by rw [hm, Int.natAbs_mul]; simp
 have c1 : Nat.Coprime n.natAbs e := by
  rw [nx, he, Nat.gcd_mul_left] at hg;exact Nat.eq_of_mul_eq_mul_left hg0 (by rw [hg, Nat.mul_one])
 have c2 : Nat.Coprime m.natAbs f := by
  rw [ny, hf, Nat.gcd_mul_left] at hh;exact Nat.eq_of_mul_eq_mul_left hh0 (by rw [hh, Nat.mul_one])
 have c3 : Nat.Coprime n.natAbs f := Nat.Coprime.coprime_dvd_left ⟨g, by rw [nx, Nat.mul_comm]⟩ (Nat.Coprime.coprime_dvd_right ⟨h, by rw [hf, Nat.mul_comm]⟩ x.reduced);have c4 : Nat.Coprime m.natAbs e := Nat.Coprime.coprime_dvd_left ⟨h, by rw [ny, Nat.mul_comm]⟩ (Nat.Coprime.coprime_dvd_right ⟨g, by rw [he, Nat.mul_comm]⟩ y.reduced);rw [e1, e2, e3, e4];refine yE (Nat.mul_pos hf0 he0) ?_ ?_
 ·rw [Int.natAbs_mul];exact Nat.Coprime.mul_left (Nat.Coprime.mul_right c3 c1) (Nat.Coprime.mul_right c2 c4)
 ·have h1 : (x * y) = Rat.divInt (x.num * y.num) (x.den * y.den) := by
   rw [← Rat.num_divInt_den x, ← Rat.num_divInt_den y, Rat.divInt_mul_divInt];simp
  have h2b : Rat.divInt (x * y).num ((x * y).den : Int) = Rat.divInt (x.num * y.num) (x.den * y.den) := (Rat.num_divInt_den (x * y)).trans h1;have h3 := (Rat.divInt_eq_divInt_iff (by exact Int.natCast_ne_zero.2 (x * y).den_nz) (by exact Int.mul_ne_zero (by omega) (by omega))).1 h2b;have h4 : ((x.den : Nat) : Int) = h * f := (by rw [hf]; simp);have h5 : ((y.den : Nat) : Int) = g * e := (by rw [he]; simp);have h8 : (x * y).num * ((h : Int) * f * (g * e)) = h * m * (g * n) * ((x * y).den : Int) := (by rw [← h4, ← h5, ← hn, ← hm, h3]; grind);have hcd : ((g : Int) * h) ≠ 0 := Int.mul_ne_zero (by omega) (by omega);refine Int.eq_of_mul_eq_mul_left hcd ?_;simp only [Int.natCast_mul];grind
def fl (k : Int) (N D : Nat) : Nat := N * 2 ^ (-k).toNat / (D * 2 ^ k.toNat)
def fr (k : Int) (N D : Nat) : Nat := N * 2 ^ (-k).toNat % (D * 2 ^ k.toNat)
theorem two_pow_pos (k : Nat) : 0 < 2 ^ k := Nat.pow_pos (by decide)
theorem aAB {A B : Nat} (hB : 0 < B) : A / (B * 2) = A / B / 2 ∧ (A % (B * 2) = 0 ↔ A % B = 0 ∧ A / B % 2 = 0) := by
 refine ⟨(Nat.div_div_eq_div_mul _ _ _).symm, ?_⟩;have h1 := Nat.mod_mul (a := B) (b := 2) (x := A);rw [h1];constructor
 ·intro h;have h3 : B * (A / B % 2) = 0 := (by omega);rcases Nat.mul_eq_zero.1 h3 with h4 | h4
  ·omega
  ·exact ⟨by omega, h4⟩
 ·intro ⟨h2, h3⟩;rw [h2, h3, Nat.mul_zero]
theorem aAC {N D : Nat} (k : Int) (hD : 0 < D) : fl (k + 1) N D = fl k N D / 2 ∧ (fr (k + 1) N D = 0 ↔ fr k N D = 0 ∧ fl k N D % 2 = 0) := by
 unfold fl fr;rcases Int.lt_or_le k 0 with h | h
 ·obtain ⟨j, rfl⟩ : ∃ j : Nat, k = -((j : Int) + 1) := ⟨(-k - 1).toNat, by omega⟩
  rw [show (-(-((j : Int) + 1) + 1)).toNat = j by omega, show (-((j : Int) + 1) + 1).toNat = 0 by omega, show (-(-((j : Int) + 1))).toNat = j + 1 by omega, show (-((j : Int) + 1)).toNat = 0 by omega];rw [Nat.pow_zero, Nat.mul_one];have h1 := aAB (A := N * 2 ^ (j + 1)) hD;rw [← h1.1, ← h1.2, Nat.pow_succ, ← Nat.mul_assoc, Nat.mul_div_mul_right _ _ (by decide), Nat.mul_mod_mul_right];exact ⟨rfl, by omega⟩
 ·obtain ⟨j, rfl⟩ : ∃ j : Nat, k = (j : Int) := ⟨k.toNat, by omega⟩
  rw [show (-((j : Int) + 1)).toNat = 0 by omega, show ((j : Int) + 1).toNat = j + 1 by omega, show (-(j : Int)).toNat = 0 by omega, show (j : Int).toNat = j by omega];rw [Nat.pow_succ, ← Nat.mul_assoc D];exact aAB (Nat.mul_pos hD (two_pow_pos j))
theorem aAD {q : Nat} : bl (q / 2) = bl q - 1 := by
 rcases Nat.eq_zero_or_pos q with rfl | h
 ·rw [Nat.zero_div, lC]
 ·rw [iE h]; omega
theorem aEQ {N D : Nat} (k : Int) (hD : 0 < D) (n : Nat) : bl (fl (k + n) N D) = bl (fl k N D) - n := by
 induction n with
 | zero => simp
 | succ n ih =>
   rw [show k + ((n + 1 : Nat) : Int) = (k + n) + 1 by omega, (aAC _ hD).1, aAD, ih];omega
theorem qZ {N D b : Nat} {s t : Int} (hD : 0 < D) (hb : 0 < b) (h1 : bl (fl s N D) = b) (h2 : bl (fl t N D) = b) : s = t := by
 rcases Int.lt_trichotomy s t with h | h | h
 ·have := aEQ (N := N) s hD (t - s).toNat;rw [show s + ((t - s).toNat : Int) = t by omega] at this;omega
 ·exact h
 ·have := aEQ (N := N) t hD (s - t).toNat;rw [show t + ((s - t).toNat : Int) = s by omega] at this;omega
theorem kH {N : Nat} (h : 0 < N) : 1 ≤ bl N ∧ 2 ^ (bl N - 1) ≤ N ∧ N < 2 ^ bl N := by
 have h0 : 1 ≤ bl N := by rw [iE h]; omega
 exact ⟨h0, (fT _ _).1 (by omega), (aT _ _).1 (Nat.le_refl _)⟩
theorem aAE {N D b : Nat} {s : Int} (hN : 0 < N) (hD : 0 < D) (hb : 0 < b) (hs : s = (bl N : Int) - bl D - b) : bl (fl s N D) = b ∨ bl (fl s N D) = b + 1 := by
 obtain ⟨n0, n1, n2⟩ := kH hN;obtain ⟨d0, d1, d2⟩ := kH hD;unfold fl;obtain ⟨p, hp⟩ : ∃ p, (-s).toNat = p := ⟨_, rfl⟩
 obtain ⟨m, hm⟩ : ∃ m, s.toNat = m := ⟨_, rfl⟩
 have e : b + bl D + m = bl N + p := by omega
 rw [hp, hm];have pm := two_pow_pos m;have lo : 2 ^ (b - 1) ≤ N * 2 ^ p / (D * 2 ^ m) := by
  rw [Nat.le_div_iff_mul_le (Nat.mul_pos hD pm)];have h1 : D * 2 ^ m ≤ 2 ^ bl D * 2 ^ m := Nat.mul_le_mul_right _ (Nat.le_of_lt d2);have h2 := Nat.mul_le_mul_left (2 ^ (b - 1)) h1;have h3 := Nat.mul_le_mul_right (2 ^ p) n1;rw [← Nat.pow_add, ← Nat.pow_add] at h2;rw [← Nat.pow_add] at h3;rw [show b - 1 + (bl D + m) = bl N - 1 + p by omega] at h2;exact Nat.le_trans h2 h3
 have hi : N * 2 ^ p / (D * 2 ^ m) < 2 ^ (b + 1) := by
  rw [Nat.div_lt_iff_lt_mul (Nat.mul_pos hD pm)];have h1 : 2 ^ (bl D - 1) * 2 ^ m ≤ D * 2 ^ m := Nat.mul_le_mul_right _ d1;have h2 := Nat.mul_le_mul_left (2 ^ (b + 1)) h1;have h3 : N * 2 ^ p < 2 ^ bl N * 2 ^ p := (Nat.mul_lt_mul_right (two_pow_pos p)).2 n2;rw [← Nat.pow_add, ← Nat.pow_add] at h2;rw [← Nat.pow_add] at h3;rw [show b + 1 + (bl D - 1 + m) = bl N + p by omega] at h2;exact Nat.lt_of_lt_of_le h3 h2
 obtain ⟨q, hq⟩ : ∃ q, N * 2 ^ p / (D * 2 ^ m) = q := ⟨_, rfl⟩
 rw [hq] at lo hi ⊢;have h1 := (aT q (b + 1)).2 hi;have h2 := (fT q (b - 1)).2 lo;omega
def rsh (b N D : Nat) : Int := if b < bl (fl ((bl N : Int) - bl D - b) N D) then (bl N : Int) - bl D - b + 1 else (bl N : Int) - bl D - b
theorem aDa {b N D : Nat} (hN : 0 < N) (hD : 0 < D) (hb : 0 < b) : bl (fl (rsh b N D) N D) = b := by
 have h := aAE hN hD hb rfl;unfold rsh;split
 ·rw [show ((bl N : Int) - bl D - b + 1) = ((bl N : Int) - bl D - b) + ((1 : Nat) : Int) by omega, aEQ _ hD];omega
 ·omega
theorem aF2 {b N D : Nat} {s : Int} (hN : 0 < N) (hD : 0 < D) (hb : 0 < b) (h : bl (fl s N D) = b) : rsh b N D = s := qZ hD hb (aDa hN hD hb) h
theorem aDb {s : Int} {N D : Nat} (hs : 0 ≤ s) (hN : 0 < N) (_ : 0 < D) : N / 2 ^ s.toNat / D = fl s N D ∧ (N / 2 ^ s.toNat % D = 0 ∧ s ≤ tz N ↔ fr s N D = 0) := by
 unfold fl fr;rw [show (-s).toNat = 0 by omega, Nat.pow_zero, Nat.mul_one];obtain ⟨j, rfl⟩ : ∃ j : Nat, s = (j : Int) := ⟨s.toNat, by omega⟩
 rw [show (j : Int).toNat = j by omega];refine ⟨by rw [Nat.div_div_eq_div_mul, Nat.mul_comm D], ?_⟩;have ht := eQ hN;have hj := two_pow_pos j;obtain ⟨z, hz⟩ : ∃ z, tz N = z := ⟨_, rfl⟩
 rw [hz] at ht ⊢;rw [Nat.mul_comm D, Nat.mod_mul];have key : (j ≤ z) ↔ N % 2 ^ j = 0 := by
  constructor
  ·intro h;rw [ht.1];obtain ⟨d, hd⟩ : ∃ d, z = j + d := ⟨z - j, by omega⟩
   rw [hd, Nat.pow_add, Nat.mul_assoc];exact Nat.mul_mod_right _ _
  ·intro h;rcases Nat.lt_or_ge z j with h1 | h1
   ·exfalso;obtain ⟨d, hd⟩ : ∃ d, j = z + (d + 1) := ⟨j - z - 1, by omega⟩
    obtain ⟨c, hc⟩ := Nat.dvd_of_mod_eq_zero h;rw [hd, Nat.pow_add, Nat.pow_succ, Nat.mul_assoc] at hc;have h2 : N / 2 ^ z = 2 ^ d * 2 * c := by
     conv => lhs; rw [hc]
     rw [Nat.mul_div_cancel_left _ (two_pow_pos _)]
    have h3 := ht.2;rw [h2, Nat.mul_right_comm, Nat.mul_mod_left] at h3;omega
   ·exact h1
 constructor
 ·intro ⟨h1, h2⟩;rw [key.1 (by omega), h1, Nat.mul_zero]
 ·intro h;have h2 : N % 2 ^ j = 0 := (by omega);have h3 : 2 ^ j * (N / 2 ^ j % D) = 0 := (by omega);refine ⟨?_, by have := key.2 h2; omega⟩;rcases Nat.mul_eq_zero.1 h3 with h4 | h4
  ·omega
  ·exact h4
end Go.Proofs.YtgpacgadpnpjjaaGreatDoor.Ma
