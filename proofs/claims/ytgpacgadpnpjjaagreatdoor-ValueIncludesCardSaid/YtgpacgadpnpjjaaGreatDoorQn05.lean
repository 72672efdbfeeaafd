/- ValueIncludes (a part of the proof): results of numbers are in the results of their spans. No condition. -/
import Derived.Test.YtgpacgadpnpjjaaGreatDoorQn04
namespace Go.Proofs.YtgpacgadpnpjjaaGreatDoor.Ma
open Me
theorem yP (N : Nat) : dg W64 N ≤ (dec N).length := by
 rw [dU];split
 ·rename_i h; subst h; rw [aQ]; omega
 ·rw [aD aB];have h1 := aM (b := 10) (by decide) N;exact Nat.lt_of_lt_of_le h1 (Nat.pow_le_pow_left (by decide) _)
theorem aE0 (q : Rat) : sz q ≤ 2 * gF q := by
 have h1 := yP q.num.natAbs;have h2 := yP q.den;have h3 := fO q;unfold gF; omega
theorem kI {B k : Nat} (h : B ≤ W64) : dg W64 (B ^ k) ≤ k + 1 := by
 rw [aD aB, Nat.pow_succ];have h1 : B ^ k ≤ W64 ^ k := Nat.pow_le_pow_left h k;have h2 : 0 < W64 ^ k := Nat.pow_pos (by decide);have : W64 ^ k * 1 < W64 ^ k * W64 := Nat.mul_lt_mul_of_pos_left (by decide) h2;omega
theorem qD (n : Int) : sz (aS n) ≤ n.natAbs + 2 := by
 have h1 := fO (aS n);rw [← h1];rcases Int.le_total 0 n with h | h
 ·obtain ⟨k, rfl⟩ := Int.eq_ofNat_of_zero_le h;obtain ⟨e1, e2⟩ := nM k;rw [e1, e2, bZ aB];simp only [Int.natAbs_natCast];have := kI (B := 10) (k := k) (by decide);omega
 ·obtain ⟨k, hk⟩ := Int.eq_ofNat_of_zero_le (show 0 ≤ -n by omega);have hn : n = -(k : Int) := (by omega);subst hn;obtain ⟨e1, e2⟩ := nN k;rw [e1, e2];have := kI (B := 10) (k := k) (by decide);have h2 : dg W64 (1 : Int).natAbs = 1 := bZ aB;rw [h2];omega
theorem yQ (n : Nat) : (pw (-(n : Int))).num = 1 ∧ (pw (-(n : Int))).den = 2 ^ n := by
 refine rat_of' (Nat.pow_pos (by decide)) (by simp) ?_;rw [← lQ, Rat.mul_comm, yG]; rfl
theorem aFB (n : Int) : sz (pw n) ≤ n.natAbs + 2 := by
 rw [← fO (pw n)];rcases Int.le_total 0 n with h | h
 ·obtain ⟨k, rfl⟩ := Int.eq_ofNat_of_zero_le h;rw [lQ, Rat.num_natCast, Rat.den_natCast, bZ aB];simp only [Int.natAbs_natCast];have := kI (B := 2) (k := k) (by decide);omega
 ·obtain ⟨k, hk⟩ := Int.eq_ofNat_of_zero_le (show 0 ≤ -n by omega);have hn : n = -(k : Int) := (by omega);subst hn;obtain ⟨e1, e2⟩ := yQ k;rw [e1, e2];have := kI (B := 2) (k := k) (by decide);have h2 : dg W64 (1 : Int).natAbs = 1 := bZ aB;rw [h2];omega
theorem uJ (n : Nat) : sz ((n : Nat) : Rat) = dg W64 n + 1 := by
 rw [← fO, Rat.num_natCast, Rat.den_natCast, bZ aB, Int.natAbs_natCast]
theorem aB6 {l : List UInt8} {q : Rat} (h : aV l = (0, q)) : gF q ≤ 1000 := by
 have h1 := uG h;rw [← h1, wY] at h;split at h
 ·assumption
 ·simp at h
theorem aDj {l : List UInt8} {q : Rat} (h : aV l = (0, q)) : sz q ≤ 2000 := by
 have := aB6 h;have := aE0 q;omega
theorem aDk (l : List UInt8) : (aV l).1 = 0 ∨ (aV l).2 = 0 := by
 unfold aV aH;split
 ·exact .inr rfl
 split
 ·exact .inr rfl
 split
 ·exact .inr rfl
 split
 ·exact .inl rfl
 split
 ·exact .inr rfl
 ·exact .inl rfl
theorem aAJ : sz 0 ≤ 2 := yO 0 (by decide)
theorem parse_sz' (l : List UInt8) : sz (aV l).2 ≤ 2000 := by
 rcases aDk l with h | h
 ·exact aDj (l := l) (by rw [← h])
 ·rw [h]; have := aAJ; omega
theorem aE1 {c : UInt8} {p : Int} (h : pfx c = some p) : p.natAbs ≤ 15 := by
 unfold pfx at h
 repeat' split at h
 all_goals first | (cases h; decide) | cases h
theorem aEl (l : List UInt8) : (iP l).2.natAbs ≤ 15 := by
 unfold iP;split
 ·split
  ·rename_i h; exact aE1 h
  ·exact Nat.zero_le _
 ·exact Nat.zero_le _
theorem aBg {l : List UInt8} (h : aY l) {k : Nat} (hk : l.length ≤ k) : dg W64 (dv l) ≤ k := by
 rw [aD aB];have h6 := rD h;have h7 : (10 : Nat) ^ l.length ≤ 10 ^ k := Nat.pow_le_pow_right (by decide) hk;have h8 : (10 : Nat) ^ k ≤ W64 ^ k := Nat.pow_le_pow_left (by decide) k;omega
theorem iB (N : Nat) : bl N ≤ 64 * dg W64 N := by
 have h := gM 64 N (by decide);exact h
theorem aDR (N : Nat) : dg W64 N ≤ bl N := by
 rw [aD aB];have h1 := aM (b := 2) (by decide) N;exact Nat.lt_of_lt_of_le h1 (Nat.pow_le_pow_left (by decide) _)
theorem aE2 (b : Nat) (x : Rat) : (ulp b x).natAbs ≤ 64 * sz x + b + 1 := by
 have h1 := iB x.num.natAbs;have h2 := iB x.den;have h3 := fO x;unfold ulp rsh;split <;> omega
theorem qE {b : Nat} {x : Rat} (hb : 0 < b) (hx : 0 < x) : sz (dn b x) ≤ 64 * sz x + 2 * b + 6 ∧ sz (up b x) ≤ 64 * sz x + 2 * b + 6 := by
 have h1 := (aDd hx hb).1;have h2 := aE2 b x;have h3 := aFB (ulp b x);rw [aBY hx, aBZ hx];generalize fl (ulp b x) x.num.natAbs x.den = k at *
 have h4 := aDR k;have h5 : dg W64 (k + 1) ≤ b + 1 := by
  have := lH aB k 1;rw [bZ aB] at this;omega
 constructor
 ·have h6 := qC ((k : Nat) : Rat) (pw (ulp b x));have h7 := uJ k;omega
 ·split
  ·have h6 := qC ((k : Nat) : Rat) (pw (ulp b x));have h7 := uJ k;rw [Nat.add_zero];omega
  ·have h6 := qC ((k + 1 : Nat) : Rat) (pw (ulp b x));have h7 := uJ (k + 1);omega
theorem aDl {b : Nat} (x : Rat) (hb : 0 < b) : sz (dn b x) ≤ 64 * sz x + 2 * b + 6 ∧ sz (up b x) ≤ 64 * sz x + 2 * b + 6 := by
 rcases (show x < 0 ∨ x = 0 ∨ 0 < x by grind) with h | h | h
 ·have := qE hb (show 0 < -x by grind);rw [aET, aBX, nP, nP, nP] at this;exact ⟨this.2, this.1⟩
 ·subst h;rw [vE, aEa];have := aAJ;constructor <;> omega
 ·exact qE hb h
def kJ (b : Nat) (x : Rat) (away : Bool) : Nat := fl (ulp b x) x.num.natAbs x.den + if away = true ∧ ¬ fr (ulp b x) x.num.natAbs x.den = 0 then 1 else 0
def rnd (b : Nat) (x : Rat) (away : Bool) : Rat := if x = 0 then 0 else sgQ (decide (x < 0)) (((kJ b x away : Nat) : Rat) * pw (ulp b x))
theorem aBh (b : Nat) (x : Rat) (away : Bool) : kJ b (-x) away = kJ b x away := by
 unfold kJ; rw [vF, Rat.neg_num, Rat.neg_den, Int.natAbs_neg]
theorem aE3 (b : Nat) (x : Rat) : rnd b x (decide (x < 0)) = dn b x := by
 unfold rnd;rcases (show x < 0 ∨ x = 0 ∨ 0 < x by grind) with h | h | h
 ·have h0 : ¬ x = 0 := (by grind);have hp : 0 < -x := (by grind);have h1 := aBZ (b := b) hp;rw [aBX] at h1;rw [if_neg h0, decide_eq_true h];unfold sgQ;rw [if_pos rfl, ← aBh, ← vF];unfold kJ;have e : (if true = true ∧ ¬ fr (ulp b (-x)) (-x).num.natAbs (-x).den = 0 then 1 else 0) = (if fr (ulp b (-x)) (-x).num.natAbs (-x).den = 0 then 0 else 1) := by
   by_cases hz : fr (ulp b (-x)) (-x).num.natAbs (-x).den = 0
   ·rw [if_neg (fun h => h.2 hz), if_pos hz]
   ·rw [if_pos ⟨rfl, hz⟩, if_neg hz]
  rw [e];rw [← h1, Rat.neg_neg]
 ·subst h; rw [if_pos rfl, vE]
 ·have h0 : ¬ x = 0 := (by grind);rw [if_neg h0, decide_eq_false (by grind), aBY h];unfold sgQ kJ;simp
theorem aF4 (b : Nat) (x : Rat) : rnd b x (!decide (x < 0)) = up b x := by
 by_cases h0 : x = 0
 ·subst h0; unfold rnd; rw [if_pos rfl, aEa]
 ·have h1 := aE3 b (-x);have e : decide (-x < 0) = !decide (x < 0) := by
   by_cases h : x < 0
   ·rw [decide_eq_true h, decide_eq_false (by grind)]; rfl
   ·rw [decide_eq_false h, decide_eq_true (by grind)]; rfl
  rw [e] at h1;unfold up;rw [← h1];unfold rnd;rw [if_neg h0, if_neg (by grind), aBh, vF, e];unfold sgQ;cases decide (x < 0)
  ·simp
  ·simp
theorem aB7 (s : Bool) (g k : Nat) : (sgQ s (((g : Nat) : Rat) * pw k)).num = (if s then -((g * 2 ^ k : Nat) : Int) else ((g * 2 ^ k : Nat) : Int)) ∧ (sgQ s (((g : Nat) : Rat) * pw k)).den = 1 := by
 rw [lQ, ← Rat.natCast_mul];unfold sgQ;cases s
 ·simp only [Bool.false_eq_true, if_false]; exact ⟨Rat.num_natCast _, Rat.den_natCast _⟩
 ·simp only [if_true, Rat.neg_num, Rat.neg_den]; exact ⟨by rw [Rat.num_natCast], Rat.den_natCast _⟩
theorem aAh (s : Bool) {g : Nat} (k : Nat) (hg : 0 < g) : (sgQ s (((g : Nat) : Rat) * pw (-(k : Int)))).num = (if s then -((g / 2 ^ min (tz g) k : Nat) : Int) else ((g / 2 ^ min (tz g) k : Nat) : Int)) ∧ (sgQ s (((g : Nat) : Rat) * pw (-(k : Int)))).den = 2 ^ (k - min (tz g) k) := by
 obtain ⟨m, hm⟩ : ∃ m, min (tz g) k = m := ⟨_, rfl⟩
 rw [hm];obtain ⟨h1, h2⟩ := eQ hg;have hd : 2 ^ m ∣ g := Nat.dvd_trans (Nat.pow_dvd_pow 2 (show m ≤ tz g by omega)) ⟨_, h1⟩;obtain ⟨c, hc⟩ := hd;have hq : g / 2 ^ m = c := by rw [hc, Nat.mul_div_cancel_left _ (two_pow_pos m)]
 rw [hq];have hcop : Nat.Coprime c (2 ^ (k - m)) := by
  rcases Nat.lt_or_ge (tz g) k with h | h
  ·have hmt : m = tz g := (by omega);have hodd : c % 2 = 1 := (by rw [← hq, hmt]; exact h2);exact (sD (k - m) hodd).symm
  ·rw [show k - m = 0 by omega]; simp
 have hv : ((g : Nat) : Rat) * pw (-(k : Int)) * ((2 ^ (k - m) : Nat) : Rat) = ((c : Nat) : Rat) := by
  rw [← lQ, Rat.mul_assoc, ← yF, show -(k : Int) + ((k - m : Nat) : Int) = -(m : Int) by omega, hc, Rat.natCast_mul, Rat.mul_comm (((2 ^ m : Nat)) : Rat), Rat.mul_assoc, ← lQ, yG, Rat.mul_one]
 cases s
 ·simp only [sgQ, Bool.false_eq_true, if_false];exact rat_of' (two_pow_pos _) (by simpa using hcop) (by rw [Rat.intCast_natCast]; exact hv)
 ·simp only [sgQ, if_true];exact rat_of' (two_pow_pos _) (by simpa using hcop) (by rw [Rat.intCast_neg, Rat.intCast_natCast, Rat.neg_mul, hv])
def iV (z : Int) : Nat := if z < 1 then 1 else if 2000 < z then 2000 else z.toNat
theorem qF (z : Int) : 0 < iV z ∧ iV z ≤ 2000 := by unfold iV; split <;> (try split) <;> omega
theorem wN {b : Nat} {x : Rat} : (b < bl (fl ((bl x.num.natAbs : Int) - bl x.den - b) x.num.natAbs x.den) ∧ ulp b x = (bl x.num.natAbs : Int) - bl x.den - b + 1) ∨ (¬ b < bl (fl ((bl x.num.natAbs : Int) - bl x.den - b) x.num.natAbs x.den) ∧ ulp b x = (bl x.num.natAbs : Int) - bl x.den - b) := by
 unfold ulp rsh;by_cases h : b < bl (fl ((bl x.num.natAbs : Int) - bl x.den - b) x.num.natAbs x.den)
 ·left; exact ⟨h, by rw [if_pos h]⟩
 ·right; exact ⟨h, by rw [if_neg h]⟩
theorem aB8 {b : Nat} {x : Rat} {N D : Nat} {sh : Int} (away : Bool) (hx : x ≠ 0) (hb : 0 < b) (hN : x.num.natAbs = N) (hD : x.den = D) (hsh : (bl N : Int) - bl D - b = sh) :
  (b < bl (fl sh N D) → rnd b x away = sgQ (decide (x.num < 0)) (((fl sh N D / 2 + if away = true ∧ ¬ (fr sh N D = 0 ∧ fl sh N D % 2 = 0) then 1 else 0 : Nat) : Rat) * pw (sh + 1)) ∧ 0 < fl sh N D / 2) ∧
  (¬ b < bl (fl sh N D) → rnd b x away = sgQ (decide (x.num < 0)) (((fl sh N D + if away = true ∧ ¬ fr sh N D = 0 then 1 else 0 : Nat) : Rat) * pw sh)) ∧ 0 < fl sh N D ∧ bl (fl sh N D) ≤ b + 1 := by
 subst hN hD;have hN0 : 0 < x.num.natAbs := by have : x.num ≠ 0 := fun h => hx (Rat.num_eq_zero.1 h); omega
 have hbits := aAE hN0 x.den_pos hb hsh.symm;have hs : decide (x.num < 0) = decide (x < 0) := decide_eq_decide.2 (bG x);have hpos : ∀ n : Nat, 0 < bl n → 0 < n := fun n h => by
  rcases Nat.eq_zero_or_pos n with h0 | h0
  ·subst h0; rw [lC] at h; omega
  ·exact h0
 obtain ⟨f1, f2⟩ := aAC sh (N := x.num.natAbs) x.den_pos;refine ⟨fun h => ⟨?_, ?_⟩, fun h => ?_, hpos _ (by omega), by omega⟩
 ·rcases wN (b := b) (x := x) with ⟨-, hu⟩ | ⟨h1, -⟩
  ·rw [hsh] at hu;unfold rnd;rw [if_neg hx, hs];unfold kJ;rw [hu, f1];have e : (away = true ∧ ¬ fr (sh + 1) x.num.natAbs x.den = 0) ↔ (away = true ∧ ¬ (fr sh x.num.natAbs x.den = 0 ∧ fl sh x.num.natAbs x.den % 2 = 0)) := (by rw [f2]);simp only [e]
  ·rw [hsh] at h1; exact absurd h h1
 ·exact hpos _ (by rw [aAD]; omega)
 ·rcases wN (b := b) (x := x) with ⟨h1, -⟩ | ⟨-, hu⟩
  ·rw [hsh] at h1; exact absurd h1 h
  ·rw [hsh] at hu;unfold rnd;rw [if_neg hx, hs];unfold kJ;rw [hu]
end Go.Proofs.YtgpacgadpnpjjaaGreatDoor.Ma
namespace Go.Proofs.YtgpacgadpnpjjaaGreatDoor.Ma
theorem mR (n : Nat) (l : List UInt8) : (List.replicate n (48 : UInt8) ++ l).dropWhile (· == 48) = l.dropWhile (· == 48) := by
 induction n with
 | zero => simp
 | succ n ih => rw [List.replicate_succ, List.cons_append, List.dropWhile_cons_of_pos (by rfl), ih]
theorem wZ {N : Nat} (h : 0 < N) : (dec N).dropWhile (· == 48) = dec N := by
 have hr := vC N;cases hd : dec N with
 | nil => exact absurd hd hr.2.1
 | cons c t =>
   have hc : c ≠ 48 := fun h1 => by
    have h2 := hr.2.2 (by rw [hd, h1]; rfl);have := jX h2;omega
   rw [List.dropWhile_cons_of_neg (by simpa using hc)]
theorem aB9 (U : Nat) : (List.replicate 12 (48 : UInt8) ++ dec U).drop (dec U).length = pd 12 (U % 1000000000000) ∧
  ((List.replicate 12 (48 : UInt8) ++ dec U).take (dec U).length).dropWhile (· == 48) = if U / 1000000000000 = 0 then [] else dec (U / 1000000000000) := by
 rcases Nat.lt_or_ge U 1000000000000 with h | h
 ·have h0 : U / 1000000000000 = 0 := Nat.div_eq_of_lt h;have h1 := aDi 12 U h (by decide);have hl := uI (b := 12) h;have e : List.replicate 12 (48 : UInt8) ++ dec U = List.replicate (dec U).length 48 ++ pd 12 U := by
   rw [h1, ← List.append_assoc, List.replicate_append_replicate];congr 2;omega
  rw [h0, if_pos rfl, Nat.mod_eq_of_lt h, e];refine ⟨List.drop_left' (by simp), ?_⟩;rw [List.take_left' (by simp)];have := mR (dec U).length [];rw [List.append_nil] at this;rw [this]; rfl
 ·have hp : 0 < U / 1000000000000 := Nat.div_pos h (by decide);have e := tZ hp 12 (U % 1000000000000) (Nat.mod_lt _ (by decide));have hU : U / 1000000000000 * 10 ^ 12 + U % 1000000000000 = U := (by have := Nat.div_add_mod U 1000000000000; omega);rw [hU] at e;have hl : (dec U).length = (dec (U / 1000000000000)).length + 12 := (by rw [e, List.length_append, wG]);rw [if_neg (by omega), hl, e, ← List.append_assoc];constructor
  ·exact List.drop_left' (by rw [List.length_append, List.length_replicate]; omega)
  ·rw [List.take_left' (by rw [List.length_append, List.length_replicate]; omega), mR, wZ hp]
theorem aBi (U : Nat) (h : 412 < (dec U).length) : 400 < (dec (U / 1000000000000)).length := by
 rcases Nat.lt_or_ge U 1000000000000 with h0 | h0
 ·have hl := uI (b := 12) h0;omega
 ·have hp : 0 < U / 1000000000000 := Nat.div_pos h0 (by decide);have e := tZ hp 12 (U % 1000000000000) (Nat.mod_lt _ (by decide));have hU : U / 1000000000000 * 10 ^ 12 + U % 1000000000000 = U := (by have := Nat.div_add_mod U 1000000000000; omega);rw [hU] at e;have hl : (dec U).length = (dec (U / 1000000000000)).length + 12 := (by rw [e, List.length_append, wG]);omega
theorem aCa {U : Nat} {f b : List UInt8} (hf : f = if U / 1000000000000 = 0 then [] else dec (U / 1000000000000)) (hb : b = uH (pd 12 (U % 1000000000000))) :
  lT U = if 400 < (if f = [] then [48] else f).length + b.length then none else some ((if f = [] then [48] else f) ++ if b = [] then [] else 46 :: b) := by
 have e : (if f = [] then [48] else f) = dec (U / 1000000000000) := by
  by_cases h : U / 1000000000000 = 0
  ·rw [if_pos h] at hf;rw [if_pos hf, h, lU]
  ·rw [if_neg h] at hf;rw [if_neg (by rw [hf]; exact oF _), hf]
 unfold lT;rw [e, hb]
end Go.Proofs.YtgpacgadpnpjjaaGreatDoor.Ma
