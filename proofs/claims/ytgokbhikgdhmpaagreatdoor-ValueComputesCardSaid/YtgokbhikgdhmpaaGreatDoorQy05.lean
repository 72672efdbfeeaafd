/- x. Part of the proof: texts Md3 Md4 Md1 Md5 Mf1 Mf2. -/
import Derived.Test.YtgokbhikgdhmpaaGreatDoorQy03
import Derived.Test.YtgokbhikgdhmpaaGreatDoorQy04
namespace Go.Proofs.YtgokbhikgdhmpaaGreatDoor.Ma
theorem fore_of' {c : UInt8} {f : List UInt8} (s : List UInt8) (h : c ∉ f) : fJ c (f ++ c :: s) = f ∧ aft c (f ++ c :: s) = s := aBw h
theorem aC2 {l r : List UInt8} (h : bR l) (h0 : l ≠ []) : eF (l ++ r) = false ∧ unsigned (l ++ r) = l ++ r := by
 cases l with
 | nil => exact absurd rfl h0
 | cons c t =>
   have hc := h c (by simp);have e : eF (c :: t ++ r) = false := by
    have : c ≠ 45 := (by rintro rfl; revert hc; decide);simpa [eF] using this
   exact ⟨e, by unfold unsigned; rw [e]; rfl⟩
theorem aF0 {q : Rat} {l r : List UInt8} (h : bR l) (h0 : l ≠ []) : eF (iN q ++ (l ++ r)) = decide (q < 0) ∧ unsigned (iN q ++ (l ++ r)) = l ++ r := by
 unfold iN;by_cases hq : q < 0
 ·rw [if_pos hq, decide_eq_true hq]; exact ⟨rfl, rfl⟩
 ·rw [if_neg hq, decide_eq_false hq, List.nil_append]; exact aC2 h h0
theorem vK (q : Rat) : dS q = iN q ++ (dec q.num.natAbs ++ if q.den = 1 then [] else 47 :: dec q.den) := by
 unfold dS iN;by_cases h : q < 0
 ·rw [if_pos ((cB q).2 h), if_pos h, List.append_assoc]
 ·rw [if_neg (fun h1 => h ((cB q).1 h1)), if_neg h, List.append_assoc]
theorem aBz : dec 1 = [49] := by rw [bW (by decide)]; rfl
theorem rC : dec 0 = [48] := by rw [bW (by decide)]; rfl
theorem lK {N : Nat} (h : dec N = [48]) : N = 0 := aBp (h.trans rC.symm)
theorem aB6 {N : Nat} (h : dec N = [49]) : N = 1 := aBp (h.trans aBz.symm)
theorem aAq (q : Rat) : mkQ (decide (q < 0)) q.num.natAbs q.den = q := by
 unfold mkQ;have e : (if decide (q < 0) = true then -((q.num.natAbs : Nat) : Int) else ((q.num.natAbs : Nat) : Int)) = q.num := by
  by_cases h : q < 0
  ·have := (cB q).2 h;rw [if_pos (decide_eq_true h)]; omega
  ·have : ¬ q.num < 0 := fun h1 => h ((cB q).1 h1);rw [if_neg (by rw [decide_eq_false h]; decide)]; omega
 rw [e, Rat.mkRat_self]
def xP (q : Rat) : Nat := max (dec q.num.natAbs).length (dec q.den).length
theorem aFf {q : Rat} (h : q < 0) : 0 < q.num.natAbs := by have := (cB q).2 h; omega
theorem aAr {q : Rat} (h : q.num.natAbs = 0) : q.den = 1 := by
 have h1 := q.reduced;rw [h] at h1;simpa using h1
theorem zC (q : Rat) : aZ (dS q) = if xP q ≤ 1000 then (0, q) else (3, 0) := by
 have hN := xL q.num.natAbs;have hD := xL q.den;obtain ⟨e1, e2⟩ := aF0 (q := q) (r := if q.den = 1 then [] else 47 :: dec q.den) hN.1 hN.2.1;have n47 : (47 : UInt8) ∉ dec q.num.natAbs := hN.1.no (by decide);unfold aZ;rw [vK, e1, e2];have hneg : ∀ h : q < 0, dec q.num.natAbs ≠ [48] := fun h h1 => by have := lK h1; have := aFf h; omega
 have hlen1 : (dec 1).length = 1 := by rw [aBz]; rfl
 have hpos : 0 < (dec q.num.natAbs).length := List.length_pos_iff.2 hN.2.1;by_cases h1 : q.den = 1
 ·rw [if_pos h1, List.append_nil];obtain ⟨f1, f2⟩ := qR n47;rw [f1, f2, decide_eq_false n47];unfold aL;rw [if_neg (by
   rintro (h | ⟨h, h2 | h2⟩)
   ·exact h hN
   ·exact hneg (of_decide_eq_true h2) h
   ·simp at h2), if_neg (by simp)]
  unfold xP;rw [h1, hlen1];by_cases hl : (dec q.num.natAbs).length ≤ 1000
  ·rw [if_neg (by simp; omega), if_pos rfl, if_pos (by omega), lX, show mkQ (decide (q < 0)) q.num.natAbs 1 = q from by rw [← h1]; exact aAq q]
  ·rw [if_pos (by left; omega), if_neg (by omega)]
 ·rw [if_neg h1];obtain ⟨f1, f2⟩ := fore_of' (dec q.den) n47;rw [f1, f2, decide_eq_true (show (47 : UInt8) ∈ dec q.num.natAbs ++ 47 :: dec q.den by simp)];unfold aL;rw [if_neg (by
   rintro (h | ⟨h, h2⟩)
   ·exact h hN
   ·exact h1 (aAr (lK h))), if_neg (by
   rintro ⟨-, h | h | h⟩
   ·exact h hD
   ·have := lK h; exact q.den_nz this
   ·exact h1 (aB6 h))]
  unfold xP;by_cases hl : (dec q.num.natAbs).length ≤ 1000 ∧ (dec q.den).length ≤ 1000
  ·rw [if_neg (by omega), if_neg (by simp), if_neg (by rw [lX, lX]; simp; exact q.reduced), if_pos (by omega), lX, lX, aAq]
  ·rw [if_pos (by omega), if_neg (by omega)]
theorem aFg (x : Rat) (n : Nat) (h : 0 < n) : jS x n < n := by
 induction n with
 | zero => omega
 | succ n ih =>
   unfold jS;split
   ·omega
   ·rcases Nat.eq_zero_or_pos n with h0 | h0
    ·subst h0; unfold jS; omega
    ·have := ih h0; omega
theorem wM {M b : Nat} (h : M < 10 ^ b) : (dec M).length ≤ max b 1 := by
 rw [fF];split
 ·omega
 ·have := (aG (b := 10) (by decide) M b).2 h; omega
theorem aEd (b M : Nat) (h : M < 10 ^ b) (hb : 0 < b) : pd b M = List.replicate (b - (dec M).length) 48 ++ dec M := by
 induction b generalizing M with
 | zero => omega
 | succ b ih =>
   unfold pd;rcases Nat.lt_or_ge M 10 with h10 | h10
   ·rw [bW h10, Nat.div_eq_of_lt h10, Nat.mod_eq_of_lt h10];rcases Nat.eq_zero_or_pos b with h0 | h0
    ·subst h0; rfl
    ·rw [ih 0 (Nat.pow_pos (by decide)) h0, rC];simp only [List.length_singleton];rw [show ([48] : List UInt8) = List.replicate 1 48 from rfl, List.replicate_append_replicate];congr 2;omega
   ·have hb0 : 0 < b := by
     rcases Nat.eq_zero_or_pos b with h0 | h0
     ·subst h0; rw [Nat.zero_add, Nat.pow_one] at h; omega
     ·exact h0
    rw [ih (M / 10) (Nat.div_lt_of_lt_mul (by rw [Nat.pow_succ] at h; omega)) hb0, iX h10];simp [List.append_assoc]
structure Beh (m : Rat) (b : Nat) : Prop where
 le : b ≤ 13
 no : ∀ j < b, (m * bE j).den ≠ 1
end Go.Proofs.YtgokbhikgdhmpaaGreatDoor.Ma
namespace Go.Proofs.YtgokbhikgdhmpaaGreatDoor.Ma
open Me
def szb (b : Nat) (q : Rat) : Nat := dg b q.num.natAbs + dg b q.den
theorem aFh (b : Nat) (q : Rat) : szb b (-q) = szb b q := by unfold szb; rw [Rat.neg_num, Rat.neg_den, Int.natAbs_neg]
theorem aFi {b : Nat} (hb : 1 < b) (q : Rat) : szb b q⁻¹ ≤ szb b q + 1 := by
 unfold szb;rw [Rat.num_inv, Rat.den_inv];by_cases h : q.num = 0
 ·have e1 : dg b 1 = 1 := dP hb;simp [h, aV, e1]
 ·rw [if_neg h, Int.natAbs_mul];have e : q.num.sign.natAbs = 1 := (by rw [Int.natAbs_sign, if_neg h]);rw [e, Nat.one_mul];simp only [Int.natAbs_natCast];omega
theorem bP {b : Nat} (hb : 1 < b) {M N : Nat} (h : M ≤ N) : dg b M ≤ dg b N := bC hb h
theorem aFj {b : Nat} (hb : 1 < b) (x y : Rat) : szb b (x * y) ≤ szb b x + szb b y := by
 obtain ⟨h1, h2⟩ := aBq (x := x) (y := y) rfl rfl;unfold szb;rw [h1, h2, Int.natAbs_mul];have a1 := Int.natAbs_ediv_of_dvd (a := x.num) (b := ((Nat.gcd x.num.natAbs y.den : Nat) : Int)) (iE.2 (Nat.gcd_dvd_left _ _));have a2 := Int.natAbs_ediv_of_dvd (a := y.num) (b := ((Nat.gcd y.num.natAbs x.den : Nat) : Int)) (iE.2 (Nat.gcd_dvd_left _ _));rw [a1, a2];simp only [Int.natAbs_natCast];have b1 := bU hb (x.num.natAbs / Nat.gcd x.num.natAbs y.den) (y.num.natAbs / Nat.gcd y.num.natAbs x.den);have b2 := bU hb (x.den / Nat.gcd y.num.natAbs x.den) (y.den / Nat.gcd x.num.natAbs y.den);have c1 := bP hb (Nat.div_le_self x.num.natAbs (Nat.gcd x.num.natAbs y.den));have c2 := bP hb (Nat.div_le_self y.num.natAbs (Nat.gcd y.num.natAbs x.den));have c3 := bP hb (Nat.div_le_self x.den (Nat.gcd y.num.natAbs x.den));have c4 := bP hb (Nat.div_le_self y.den (Nat.gcd x.num.natAbs y.den));omega
theorem aFk {b : Nat} (hb : 1 < b) (x y : Rat) : szb b (x + y) ≤ 2 * (szb b x + szb b y) + 1 := by
 obtain ⟨h1, h2, -, -, h5, -⟩ := uH (x := x) (y := y) rfl rfl rfl rfl rfl;unfold szb;rw [h1, h2, Int.natAbs_ediv_of_dvd h5];simp only [Int.natAbs_natCast];generalize Nat.gcd x.den y.den = d;generalize hg : Nat.gcd (x.num * ((y.den / d : Nat) : Int) + y.num * ((x.den / d : Nat) : Int)).natAbs d = c;have a1 : (x.num * ((y.den / d : Nat) : Int) + y.num * ((x.den / d : Nat) : Int)).natAbs ≤ x.num.natAbs * (y.den / d) + y.num.natAbs * (x.den / d) := by
  have := Int.natAbs_add_le (x.num * ((y.den / d : Nat) : Int)) (y.num * ((x.den / d : Nat) : Int))
  rwa [Int.natAbs_mul, Int.natAbs_mul, Int.natAbs_natCast, Int.natAbs_natCast] at this
 have a2 := bP hb (Nat.le_trans (Nat.div_le_self _ c) a1);have a3 := jV hb (x.num.natAbs * (y.den / d)) (y.num.natAbs * (x.den / d));have a4 := bU hb x.num.natAbs (y.den / d);have a5 := bU hb y.num.natAbs (x.den / d);have a6 := bP hb (Nat.div_le_self x.den d);have a7 := bP hb (Nat.div_le_self y.den d);have a8 := bU hb (x.den / d) (y.den / c);have a9 := bP hb (Nat.div_le_self y.den c);omega
theorem aBA {b : Nat} (hb : 1 < b) (N n : Nat) : dg b (N ^ n) ≤ n * dg b N + 1 := by
 induction n with
 | zero => rw [Nat.pow_zero, dP hb]; omega
 | succ n ih =>
   rcases Nat.eq_zero_or_pos N with h | h
   ·subst h; rw [Nat.zero_pow (by omega), aV]; omega
   ·rw [Nat.pow_succ];have := bU hb (N ^ n) N;rw [Nat.succ_mul]; omega
theorem aBB (q : Rat) (n : Nat) : (q ^ n).num = q.num ^ n ∧ (q ^ n).den = q.den ^ n := ⟨Rat.num_pow q n, Rat.den_pow q n⟩
theorem aFl {b : Nat} (hb : 1 < b) (q : Rat) (n : Nat) : szb b (q ^ n) ≤ n * szb b q + 2 := by
 unfold szb;rw [(aBB q n).1, (aBB q n).2, Int.natAbs_pow, Nat.mul_add];have := aBA hb q.num.natAbs n;have := aBA hb q.den n;omega
theorem aFm {b : Nat} (hb : 1 < b) (z : Int) (h : z.natAbs < b) : szb b (z : Rat) ≤ 2 := by
 unfold szb;rw [Rat.num_intCast, Rat.den_intCast, dP hb];have := (aG hb z.natAbs 1).2 (by rwa [Nat.pow_one]);omega
def sz (q : Rat) : Nat := szb W64 q
theorem fO (q : Rat) : dg W64 q.num.natAbs ≤ sz q := Nat.le_add_right _ _
theorem fC (q : Rat) : dg W64 q.den ≤ sz q := Nat.le_add_left _ _
theorem aM (q : Rat) : dg W64 q.num.natAbs + dg W64 q.den = sz q := rfl
theorem iT (q : Rat) : sz (-q) = sz q := aFh W64 q
theorem aAs (q : Rat) : sz q⁻¹ ≤ sz q + 1 := aFi aB q
theorem mD (x y : Rat) : sz (x * y) ≤ sz x + sz y := aFj aB x y
theorem aAt (x y : Rat) : sz (x + y) ≤ 2 * (sz x + sz y) + 1 := aFk aB x y
theorem aF1 (x y : Rat) : sz (x - y) ≤ 2 * (sz x + sz y) + 1 := by rw [Rat.sub_eq_add_neg, ← iT y]; exact aAt x (-y)
theorem aC3 (q : Rat) (n : Nat) : sz (q ^ n) ≤ n * sz q + 2 := aFl aB q n
theorem aAu (z : Int) (h : z.natAbs < W64) : sz (z : Rat) ≤ 2 := aFm aB z h
theorem aAv (N : Nat) : dg W64 N ≤ (dec N).length := by
 rw [fF];split
 ·rename_i h; subst h; rw [aV]; omega
 ·rw [aG aB];have h1 := aS (b := 10) (by decide) N;exact Nat.lt_of_lt_of_le h1 (Nat.pow_le_pow_left (by decide) _)
theorem aF2 (q : Rat) : sz q ≤ 2 * xP q := by
 have h1 := aAv q.num.natAbs;have h2 := aAv q.den;have h3 := aM q;unfold xP; omega
theorem mE {B k : Nat} (h : B ≤ W64) : dg W64 (B ^ k) ≤ k + 1 := by
 rw [aG aB, Nat.pow_succ];have h1 : B ^ k ≤ W64 ^ k := Nat.pow_le_pow_left h k;have h2 : 0 < W64 ^ k := Nat.pow_pos (by decide);have : W64 ^ k * 1 < W64 ^ k * W64 := Nat.mul_lt_mul_of_pos_left (by decide) h2;omega
theorem sU (n : Int) : sz (bE n) ≤ n.natAbs + 2 := by
 have h1 := aM (bE n);rw [← h1];rcases Int.le_total 0 n with h | h
 ·obtain ⟨k, rfl⟩ := Int.eq_ofNat_of_zero_le h;obtain ⟨e1, e2⟩ := pE k;rw [e1, e2, dP aB];simp only [Int.natAbs_natCast];have := mE (B := 10) (k := k) (by decide);omega
 ·obtain ⟨k, hk⟩ := Int.eq_ofNat_of_zero_le (show 0 ≤ -n by omega);have hn : n = -(k : Int) := (by omega);subst hn;obtain ⟨e1, e2⟩ := pF k;rw [e1, e2];have := mE (B := 10) (k := k) (by decide);have h2 : dg W64 (1 : Int).natAbs = 1 := dP aB;rw [h2];omega
theorem aAw (n : Nat) : (pw (-(n : Int))).num = 1 ∧ (pw (-(n : Int))).den = 2 ^ n := by
 refine rat_of' (Nat.pow_pos (by decide)) (by simp) ?_;rw [← nI, Rat.mul_comm, aAg]; rfl
theorem aGB (n : Int) : sz (pw n) ≤ n.natAbs + 2 := by
 rw [← aM (pw n)];rcases Int.le_total 0 n with h | h
 ·obtain ⟨k, rfl⟩ := Int.eq_ofNat_of_zero_le h;rw [nI, Rat.num_natCast, Rat.den_natCast, dP aB];simp only [Int.natAbs_natCast];have := mE (B := 2) (k := k) (by decide);omega
 ·obtain ⟨k, hk⟩ := Int.eq_ofNat_of_zero_le (show 0 ≤ -n by omega);have hn : n = -(k : Int) := (by omega);subst hn;obtain ⟨e1, e2⟩ := aAw k;rw [e1, e2];have := mE (B := 2) (k := k) (by decide);have h2 : dg W64 (1 : Int).natAbs = 1 := dP aB;rw [h2];omega
theorem wN (n : Nat) : sz ((n : Nat) : Rat) = dg W64 n + 1 := by
 rw [← aM, Rat.num_natCast, Rat.den_natCast, dP aB, Int.natAbs_natCast]
theorem aC4 {l : List UInt8} {q : Rat} (h : aZ l = (0, q)) : xP q ≤ 1000 := by
 have h1 := aB3 h;rw [← h1, zC] at h;split at h
 ·assumption
 ·simp at h
theorem aEe {l : List UInt8} {q : Rat} (h : aZ l = (0, q)) : sz q ≤ 2000 := by
 have := aC4 h;have := aF2 q;omega
theorem aEf (l : List UInt8) : (aZ l).1 = 0 ∨ (aZ l).2 = 0 := by
 unfold aZ aL;split
 ·exact .inr rfl
 split
 ·exact .inr rfl
 split
 ·exact .inr rfl
 split
 ·exact .inl rfl
 split
 ·exact .inr rfl
 ·exact .inl rfl
theorem xQ : sz 0 ≤ 2 := aAu 0 (by decide)
theorem parse_sz' (l : List UInt8) : sz (aZ l).2 ≤ 2000 := by
 rcases aEf l with h | h
 ·exact aEe (l := l) (by rw [← h])
 ·rw [h]; have := xQ; omega
theorem aF3 {c : UInt8} {p : Int} (h : pfx c = some p) : p.natAbs ≤ 15 := by
 unfold pfx at h
 repeat' split at h
 all_goals first | (cases h; decide) | cases h
theorem aFn (l : List UInt8) : (jR l).2.natAbs ≤ 15 := by
 unfold jR;split
 ·split
  ·rename_i h; exact aF3 h
  ·exact Nat.zero_le _
 ·exact Nat.zero_le _
theorem aB7 {l : List UInt8} (h : bR l) {k : Nat} (hk : l.length ≤ k) : dg W64 (dv l) ≤ k := by
 rw [aG aB];have h6 := uG h;have h7 : (10 : Nat) ^ l.length ≤ 10 ^ k := Nat.pow_le_pow_right (by decide) hk;have h8 : (10 : Nat) ^ k ≤ W64 ^ k := Nat.pow_le_pow_left (by decide) k;omega
theorem jB (N : Nat) : bl N ≤ 64 * dg W64 N := by
 have h := iM 64 N (by decide);exact h
theorem aEO (N : Nat) : dg W64 N ≤ bl N := by
 rw [aG aB];have h1 := aS (b := 2) (by decide) N;exact Nat.lt_of_lt_of_le h1 (Nat.pow_le_pow_left (by decide) _)
theorem aF4 (b : Nat) (x : Rat) : (ulp b x).natAbs ≤ 64 * sz x + b + 1 := by
 have h1 := jB x.num.natAbs;have h2 := jB x.den;have h3 := aM x;unfold ulp rsh;split <;> omega
theorem sV {b : Nat} {x : Rat} (hb : 0 < b) (hx : 0 < x) : sz (dn b x) ≤ 64 * sz x + 2 * b + 6 ∧ sz (up b x) ≤ 64 * sz x + 2 * b + 6 := by
 have h1 := (aD5 hx hb).1;have h2 := aF4 b x;have h3 := aGB (ulp b x);rw [aCW hx, aCX hx];generalize fl (ulp b x) x.num.natAbs x.den = k at *
 have h4 := aEO k;have h5 : dg W64 (k + 1) ≤ b + 1 := by
  have := jV aB k 1;rw [dP aB] at this;omega
 constructor
 ·have h6 := mD ((k : Nat) : Rat) (pw (ulp b x));have h7 := wN k;omega
 ·split
  ·have h6 := mD ((k : Nat) : Rat) (pw (ulp b x));have h7 := wN k;rw [Nat.add_zero];omega
  ·have h6 := mD ((k + 1 : Nat) : Rat) (pw (ulp b x));have h7 := wN (k + 1);omega
theorem aEg {b : Nat} (x : Rat) (hb : 0 < b) : sz (dn b x) ≤ 64 * sz x + 2 * b + 6 ∧ sz (up b x) ≤ 64 * sz x + 2 * b + 6 := by
 rcases (show x < 0 ∨ x = 0 ∨ 0 < x by grind) with h | h | h
 ·have := sV hb (show 0 < -x by grind);rw [aFV, aCV, iT, iT, iT] at this;exact ⟨this.2, this.1⟩
 ·subst h;rw [xM, aE7];have := xQ;constructor <;> omega
 ·exact sV hb h
def mF (b : Nat) (x : Rat) (away : Bool) : Nat := fl (ulp b x) x.num.natAbs x.den + if away = true ∧ ¬ fr (ulp b x) x.num.natAbs x.den = 0 then 1 else 0
def rnd (b : Nat) (x : Rat) (away : Bool) : Rat := if x = 0 then 0 else sgQ (decide (x < 0)) (((mF b x away : Nat) : Rat) * pw (ulp b x))
theorem aB8 (b : Nat) (x : Rat) (away : Bool) : mF b (-x) away = mF b x away := by
 unfold mF; rw [xN, Rat.neg_num, Rat.neg_den, Int.natAbs_neg]
theorem aF5 (b : Nat) (x : Rat) : rnd b x (decide (x < 0)) = dn b x := by
 unfold rnd;rcases (show x < 0 ∨ x = 0 ∨ 0 < x by grind) with h | h | h
 ·have h0 : ¬ x = 0 := (by grind);have hp : 0 < -x := (by grind);have h1 := aCX (b := b) hp;rw [aCV] at h1;rw [if_neg h0, decide_eq_true h];unfold sgQ;rw [if_pos rfl, ← aB8, ← xN];unfold mF;have e : (if true = true ∧ ¬ fr (ulp b (-x)) (-x).num.natAbs (-x).den = 0 then 1 else 0) = (if fr (ulp b (-x)) (-x).num.natAbs (-x).den = 0 then 0 else 1) := by
   by_cases hz : fr (ulp b (-x)) (-x).num.natAbs (-x).den = 0
   ·rw [if_neg (fun h => h.2 hz), if_pos hz]
   ·rw [if_pos ⟨rfl, hz⟩, if_neg hz]
  rw [e];rw [← h1, Rat.neg_neg]
 ·subst h; rw [if_pos rfl, xM]
 ·have h0 : ¬ x = 0 := (by grind);rw [if_neg h0, decide_eq_false (by grind), aCW h];unfold sgQ mF;simp
theorem aC5 (s : Bool) (g k : Nat) : (sgQ s (((g : Nat) : Rat) * pw k)).num = (if s then -((g * 2 ^ k : Nat) : Int) else ((g * 2 ^ k : Nat) : Int)) ∧ (sgQ s (((g : Nat) : Rat) * pw k)).den = 1 := by
 rw [nI, ← Rat.natCast_mul];unfold sgQ;cases s
 ·simp only [Bool.false_eq_true, if_false]; exact ⟨Rat.num_natCast _, Rat.den_natCast _⟩
 ·simp only [if_true, Rat.neg_num, Rat.neg_den]; exact ⟨by rw [Rat.num_natCast], Rat.den_natCast _⟩
theorem aA9 (s : Bool) {g : Nat} (k : Nat) (hg : 0 < g) : (sgQ s (((g : Nat) : Rat) * pw (-(k : Int)))).num = (if s then -((g / 2 ^ min (tz g) k : Nat) : Int) else ((g / 2 ^ min (tz g) k : Nat) : Int)) ∧ (sgQ s (((g : Nat) : Rat) * pw (-(k : Int)))).den = 2 ^ (k - min (tz g) k) := by
 obtain ⟨m, hm⟩ : ∃ m, min (tz g) k = m := ⟨_, rfl⟩
 rw [hm];obtain ⟨h1, h2⟩ := fQ hg;have hd : 2 ^ m ∣ g := Nat.dvd_trans (Nat.pow_dvd_pow 2 (show m ≤ tz g by omega)) ⟨_, h1⟩;obtain ⟨c, hc⟩ := hd;have hq : g / 2 ^ m = c := by rw [hc, Nat.mul_div_cancel_left _ (two_pow_pos m)]
 rw [hq];have hcop : Nat.Coprime c (2 ^ (k - m)) := by
  rcases Nat.lt_or_ge (tz g) k with h | h
  ·have hmt : m = tz g := (by omega);have hodd : c % 2 = 1 := (by rw [← hq, hmt]; exact h2);exact (uW (k - m) hodd).symm
  ·rw [show k - m = 0 by omega]; simp
 have hv : ((g : Nat) : Rat) * pw (-(k : Int)) * ((2 ^ (k - m) : Nat) : Rat) = ((c : Nat) : Rat) := by
  rw [← nI, Rat.mul_assoc, ← aAf, show -(k : Int) + ((k - m : Nat) : Int) = -(m : Int) by omega, hc, Rat.natCast_mul, Rat.mul_comm (((2 ^ m : Nat)) : Rat), Rat.mul_assoc, ← nI, aAg, Rat.mul_one]
 cases s
 ·simp only [sgQ, Bool.false_eq_true, if_false];exact rat_of' (two_pow_pos _) (by simpa using hcop) (by rw [Rat.intCast_natCast]; exact hv)
 ·simp only [sgQ, if_true];exact rat_of' (two_pow_pos _) (by simpa using hcop) (by rw [Rat.intCast_neg, Rat.intCast_natCast, Rat.neg_mul, hv])
def jY (z : Int) : Nat := if z < 1 then 1 else if 2000 < z then 2000 else z.toNat
theorem sW (z : Int) : 0 < jY z ∧ jY z ≤ 2000 := by unfold jY; split <;> (try split) <;> omega
theorem yR {b : Nat} {x : Rat} : (b < bl (fl ((bl x.num.natAbs : Int) - bl x.den - b) x.num.natAbs x.den) ∧ ulp b x = (bl x.num.natAbs : Int) - bl x.den - b + 1) ∨ (¬ b < bl (fl ((bl x.num.natAbs : Int) - bl x.den - b) x.num.natAbs x.den) ∧ ulp b x = (bl x.num.natAbs : Int) - bl x.den - b) := by
 unfold ulp rsh;by_cases h : b < bl (fl ((bl x.num.natAbs : Int) - bl x.den - b) x.num.natAbs x.den)
 ·left; exact ⟨h, by rw [if_pos h]⟩
 ·right; exact ⟨h, by rw [if_neg h]⟩
theorem aC6 {b : Nat} {x : Rat} {N D : Nat} {sh : Int} (away : Bool) (hx : x ≠ 0) (hb : 0 < b) (hN : x.num.natAbs = N) (hD : x.den = D) (hsh : (bl N : Int) - bl D - b = sh) :
  (b < bl (fl sh N D) → rnd b x away = sgQ (decide (x.num < 0)) (((fl sh N D / 2 + if away = true ∧ ¬ (fr sh N D = 0 ∧ fl sh N D % 2 = 0) then 1 else 0 : Nat) : Rat) * pw (sh + 1)) ∧ 0 < fl sh N D / 2) ∧
  (¬ b < bl (fl sh N D) → rnd b x away = sgQ (decide (x.num < 0)) (((fl sh N D + if away = true ∧ ¬ fr sh N D = 0 then 1 else 0 : Nat) : Rat) * pw sh)) ∧ 0 < fl sh N D ∧ bl (fl sh N D) ≤ b + 1 := by
 subst hN hD;have hN0 : 0 < x.num.natAbs := by have : x.num ≠ 0 := fun h => hx (Rat.num_eq_zero.1 h); omega
 have hbits := aBu hN0 x.den_pos hb hsh.symm;have hs : decide (x.num < 0) = decide (x < 0) := decide_eq_decide.2 (cB x);have hpos : ∀ n : Nat, 0 < bl n → 0 < n := fun n h => by
  rcases Nat.eq_zero_or_pos n with h0 | h0
  ·subst h0; rw [mX] at h; omega
  ·exact h0
 obtain ⟨f1, f2⟩ := aBs sh (N := x.num.natAbs) x.den_pos;refine ⟨fun h => ⟨?_, ?_⟩, fun h => ?_, hpos _ (by omega), by omega⟩
 ·rcases yR (b := b) (x := x) with ⟨-, hu⟩ | ⟨h1, -⟩
  ·rw [hsh] at hu;unfold rnd;rw [if_neg hx, hs];unfold mF;rw [hu, f1];have e : (away = true ∧ ¬ fr (sh + 1) x.num.natAbs x.den = 0) ↔ (away = true ∧ ¬ (fr sh x.num.natAbs x.den = 0 ∧ fl sh x.num.natAbs x.den % 2 = 0)) := (by rw [f2]);simp only [e]
  ·rw [hsh] at h1; exact absurd h h1
 ·exact hpos _ (by rw [aBt]; omega)
 ·rcases yR (b := b) (x := x) with ⟨h1, -⟩ | ⟨-, hu⟩
  ·rw [hsh] at h1; exact absurd h1 h
  ·rw [hsh] at hu;unfold rnd;rw [if_neg hx, hs];unfold mF;rw [hu]
end Go.Proofs.YtgokbhikgdhmpaaGreatDoor.Ma
namespace Go.Proofs.YtgokbhikgdhmpaaGreatDoor.Ma
theorem nX (n : Nat) (l : List UInt8) : (List.replicate n (48 : UInt8) ++ l).dropWhile (· == 48) = l.dropWhile (· == 48) := by
 induction n with
 | zero => simp
 | succ n ih => rw [List.replicate_succ, List.cons_append, List.dropWhile_cons_of_pos (by rfl), ih]
theorem zD {N : Nat} (h : 0 < N) : (dec N).dropWhile (· == 48) = dec N := by
 have hr := xL N;cases hd : dec N with
 | nil => exact absurd hd hr.2.1
 | cons c t =>
   have hc : c ≠ 48 := fun h1 => by
    have h2 := hr.2.2 (by rw [hd, h1]; rfl);have := lK h2;omega
   rw [List.dropWhile_cons_of_neg (by simpa using hc)]
theorem aC7 (U : Nat) : (List.replicate 12 (48 : UInt8) ++ dec U).drop (dec U).length = pd 12 (U % 1000000000000) ∧
  ((List.replicate 12 (48 : UInt8) ++ dec U).take (dec U).length).dropWhile (· == 48) = if U / 1000000000000 = 0 then [] else dec (U / 1000000000000) := by
 rcases Nat.lt_or_ge U 1000000000000 with h | h
 ·have h0 : U / 1000000000000 = 0 := Nat.div_eq_of_lt h;have h1 := aEd 12 U h (by decide);have hl := wM (b := 12) h;have e : List.replicate 12 (48 : UInt8) ++ dec U = List.replicate (dec U).length 48 ++ pd 12 U := by
   rw [h1, ← List.append_assoc, List.replicate_append_replicate];congr 2;omega
  rw [h0, if_pos rfl, Nat.mod_eq_of_lt h, e];refine ⟨List.drop_left' (by simp), ?_⟩;rw [List.take_left' (by simp)];have := nX (dec U).length [];rw [List.append_nil] at this;rw [this]; rfl
 ·have hp : 0 < U / 1000000000000 := Nat.div_pos h (by decide);have e := wB hp 12 (U % 1000000000000) (Nat.mod_lt _ (by decide));have hU : U / 1000000000000 * 10 ^ 12 + U % 1000000000000 = U := (by have := Nat.div_add_mod U 1000000000000; omega);rw [hU] at e;have hl : (dec U).length = (dec (U / 1000000000000)).length + 12 := (by rw [e, List.length_append, yL]);rw [if_neg (by omega), hl, e, ← List.append_assoc];constructor
  ·exact List.drop_left' (by rw [List.length_append, List.length_replicate]; omega)
  ·rw [List.take_left' (by rw [List.length_append, List.length_replicate]; omega), nX, zD hp]
theorem aB9 (U : Nat) (h : 412 < (dec U).length) : 400 < (dec (U / 1000000000000)).length := by
 rcases Nat.lt_or_ge U 1000000000000 with h0 | h0
 ·have hl := wM (b := 12) h0;omega
 ·have hp : 0 < U / 1000000000000 := Nat.div_pos h0 (by decide);have e := wB hp 12 (U % 1000000000000) (Nat.mod_lt _ (by decide));have hU : U / 1000000000000 * 10 ^ 12 + U % 1000000000000 = U := (by have := Nat.div_add_mod U 1000000000000; omega);rw [hU] at e;have hl : (dec U).length = (dec (U / 1000000000000)).length + 12 := (by rw [e, List.length_append, yL]);omega
theorem aC8 {U : Nat} {f b : List UInt8} (hf : f = if U / 1000000000000 = 0 then [] else dec (U / 1000000000000)) (hb : b = wG (pd 12 (U % 1000000000000))) :
  nL U = if 400 < (if f = [] then [48] else f).length + b.length then none else some ((if f = [] then [48] else f) ++ if b = [] then [] else 46 :: b) := by
 have e : (if f = [] then [48] else f) = dec (U / 1000000000000) := by
  by_cases h : U / 1000000000000 = 0
  ·rw [if_pos h] at hf;rw [if_pos hf, h, rC]
  ·rw [if_neg h] at hf;rw [if_neg (by rw [hf]; exact qJ _), hf]
 unfold nL;rw [e, hb]
end Go.Proofs.YtgokbhikgdhmpaaGreatDoor.Ma
