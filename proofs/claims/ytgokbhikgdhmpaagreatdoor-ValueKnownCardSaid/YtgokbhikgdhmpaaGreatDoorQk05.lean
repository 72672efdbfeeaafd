/- ValueKnown (examples): the law holds. No condition.. Part of the proof: texts Md1 Md5 Mf1 Mf2. -/
import Derived.Test.YtgokbhikgdhmpaaGreatDoorQk02
import Derived.Test.YtgokbhikgdhmpaaGreatDoorQk03
import Derived.Test.YtgokbhikgdhmpaaGreatDoorQk04
namespace Go.Proofs.YtgokbhikgdhmpaaGreatDoor.Ma
open Me
def szb (b : Nat) (q : Rat) : Nat := dg b q.num.natAbs + dg b q.den
theorem szb_neg (b : Nat) (q : Rat) : szb b (-q) = szb b q := by unfold szb; rw [Rat.neg_num, Rat.neg_den, Int.natAbs_neg]
theorem szb_inv {b : Nat} (hb : 1 < b) (q : Rat) : szb b q⁻¹ ≤ szb b q + 1 := by
 unfold szb
 rw [Rat.num_inv, Rat.den_inv]
 by_cases h : q.num = 0
 ·have e1 : dg b 1 = 1 := dg_one hb
  simp [h, dg_zero, e1]
 ·rw [if_neg h, Int.natAbs_mul]
  have e : q.num.sign.natAbs = 1 := by rw [Int.natAbs_sign, if_neg h]
  rw [e, Nat.one_mul]
  simp only [Int.natAbs_natCast]
  omega
theorem dgb_le {b : Nat} (hb : 1 < b) {M N : Nat} (h : M ≤ N) : dg b M ≤ dg b N := dg_mono hb h
theorem szb_mul {b : Nat} (hb : 1 < b) (x y : Rat) : szb b (x * y) ≤ szb b x + szb b y := by
 obtain ⟨h1, h2⟩ := rat_mul (x := x) (y := y) rfl rfl
 unfold szb
 rw [h1, h2, Int.natAbs_mul]
 have a1 := Int.natAbs_ediv_of_dvd (a := x.num) (b := ((Nat.gcd x.num.natAbs y.den : Nat) : Int)) (natCast_dvd.2 (Nat.gcd_dvd_left _ _))
 have a2 := Int.natAbs_ediv_of_dvd (a := y.num) (b := ((Nat.gcd y.num.natAbs x.den : Nat) : Int)) (natCast_dvd.2 (Nat.gcd_dvd_left _ _))
 rw [a1, a2]
 simp only [Int.natAbs_natCast]
 have b1 := dg_mul hb (x.num.natAbs / Nat.gcd x.num.natAbs y.den) (y.num.natAbs / Nat.gcd y.num.natAbs x.den)
 have b2 := dg_mul hb (x.den / Nat.gcd y.num.natAbs x.den) (y.den / Nat.gcd x.num.natAbs y.den)
 have c1 := dgb_le hb (Nat.div_le_self x.num.natAbs (Nat.gcd x.num.natAbs y.den))
 have c2 := dgb_le hb (Nat.div_le_self y.num.natAbs (Nat.gcd y.num.natAbs x.den))
 have c3 := dgb_le hb (Nat.div_le_self x.den (Nat.gcd y.num.natAbs x.den))
 have c4 := dgb_le hb (Nat.div_le_self y.den (Nat.gcd x.num.natAbs y.den))
 omega
theorem dgb_pow {b : Nat} (hb : 1 < b) (N n : Nat) : dg b (N ^ n) ≤ n * dg b N + 1 := by
 induction n with
 | zero => rw [Nat.pow_zero, dg_one hb]; omega
 | succ n ih =>
  rcases Nat.eq_zero_or_pos N with h | h
  ·subst h; rw [Nat.zero_pow (by omega), dg_zero]; omega
  ·rw [Nat.pow_succ]
   have := dg_mul hb (N ^ n) N
   rw [Nat.succ_mul]; omega
theorem rat_pow (q : Rat) (n : Nat) : (q ^ n).num = q.num ^ n ∧ (q ^ n).den = q.den ^ n := ⟨Rat.num_pow q n, Rat.den_pow q n⟩
theorem szb_pow {b : Nat} (hb : 1 < b) (q : Rat) (n : Nat) : szb b (q ^ n) ≤ n * szb b q + 2 := by
 unfold szb
 rw [(rat_pow q n).1, (rat_pow q n).2, Int.natAbs_pow, Nat.mul_add]
 have := dgb_pow hb q.num.natAbs n
 have := dgb_pow hb q.den n
 omega
theorem szb_int {b : Nat} (hb : 1 < b) (z : Int) (h : z.natAbs < b) : szb b (z : Rat) ≤ 2 := by
 unfold szb
 rw [Rat.num_intCast, Rat.den_intCast, dg_one hb]
 have := (dg_le_iff hb z.natAbs 1).2 (by rwa [Nat.pow_one])
 omega
def sz (q : Rat) : Nat := szb W64 q
theorem sz_num (q : Rat) : dg W64 q.num.natAbs ≤ sz q := Nat.le_add_right _ _
theorem sz_den (q : Rat) : dg W64 q.den ≤ sz q := Nat.le_add_left _ _
theorem sz_eq (q : Rat) : dg W64 q.num.natAbs + dg W64 q.den = sz q := rfl
theorem sz_neg (q : Rat) : sz (-q) = sz q := szb_neg W64 q
theorem sz_inv (q : Rat) : sz q⁻¹ ≤ sz q + 1 := szb_inv W64_gt q
theorem sz_mul (x y : Rat) : sz (x * y) ≤ sz x + sz y := szb_mul W64_gt x y
theorem sz_pow (q : Rat) (n : Nat) : sz (q ^ n) ≤ n * sz q + 2 := szb_pow W64_gt q n
theorem sz_int (z : Int) (h : z.natAbs < W64) : sz (z : Rat) ≤ 2 := szb_int W64_gt z h
end Go.Proofs.YtgokbhikgdhmpaaGreatDoor.Ma
namespace Go.Proofs.YtgokbhikgdhmpaaGreatDoor.Ma
open Me
theorem dg_dec (N : Nat) : dg W64 N ≤ (dec N).length := by
 rw [dec_length]
 split
 ·rename_i h; subst h; rw [dg_zero]; omega
 ·rw [dg_le_iff W64_gt]
  have h1 := lt_pow_dg (b := 10) (by decide) N
  exact Nat.lt_of_lt_of_le h1 (Nat.pow_le_pow_left (by decide) _)
theorem sz_dig (q : Rat) : sz q ≤ 2 * digQ q := by
 have h1 := dg_dec q.num.natAbs
 have h2 := dg_dec q.den
 have h3 := sz_eq q
 unfold digQ; omega
theorem dg_pow_le {B k : Nat} (h : B ≤ W64) : dg W64 (B ^ k) ≤ k + 1 := by
 rw [dg_le_iff W64_gt, Nat.pow_succ]
 have h1 : B ^ k ≤ W64 ^ k := Nat.pow_le_pow_left h k
 have h2 : 0 < W64 ^ k := Nat.pow_pos (by decide)
 have : W64 ^ k * 1 < W64 ^ k * W64 := Nat.mul_lt_mul_of_pos_left (by decide) h2
 omega
theorem sz_ten (n : Int) : sz (tenQ n) ≤ n.natAbs + 2 := by
 have h1 := sz_eq (tenQ n)
 rw [← h1]
 rcases Int.le_total 0 n with h | h
 ·obtain ⟨k, rfl⟩ := Int.eq_ofNat_of_zero_le h
  obtain ⟨e1, e2⟩ := tenQ_parts_nat k
  rw [e1, e2, dg_one W64_gt]
  simp only [Int.natAbs_natCast]
  have := dg_pow_le (B := 10) (k := k) (by decide)
  omega
 ·obtain ⟨k, hk⟩ := Int.eq_ofNat_of_zero_le (show 0 ≤ -n by omega)
  have hn : n = -(k : Int) := by omega
  subst hn
  obtain ⟨e1, e2⟩ := tenQ_parts_neg k
  rw [e1, e2]
  have := dg_pow_le (B := 10) (k := k) (by decide)
  have h2 : dg W64 (1 : Int).natAbs = 1 := dg_one W64_gt
  rw [h2]
  omega
theorem pw_parts_neg (n : Nat) : (pw (-(n : Int))).num = 1 ∧ (pw (-(n : Int))).den = 2 ^ n := by
 refine rat_of' (Nat.pow_pos (by decide)) (by simp) ?_
 rw [← pw_nat, Rat.mul_comm, pw_inv]; rfl
theorem sz_pw (n : Int) : sz (pw n) ≤ n.natAbs + 2 := by
 rw [← sz_eq (pw n)]
 rcases Int.le_total 0 n with h | h
 ·obtain ⟨k, rfl⟩ := Int.eq_ofNat_of_zero_le h
  rw [pw_nat, Rat.num_natCast, Rat.den_natCast, dg_one W64_gt]
  simp only [Int.natAbs_natCast]
  have := dg_pow_le (B := 2) (k := k) (by decide)
  omega
 ·obtain ⟨k, hk⟩ := Int.eq_ofNat_of_zero_le (show 0 ≤ -n by omega)
  have hn : n = -(k : Int) := by omega
  subst hn
  obtain ⟨e1, e2⟩ := pw_parts_neg k
  rw [e1, e2]
  have := dg_pow_le (B := 2) (k := k) (by decide)
  have h2 : dg W64 (1 : Int).natAbs = 1 := dg_one W64_gt
  rw [h2]
  omega
theorem sz_nat (n : Nat) : sz ((n : Nat) : Rat) = dg W64 n + 1 := by
 rw [← sz_eq, Rat.num_natCast, Rat.den_natCast, dg_one W64_gt, Int.natAbs_natCast]
theorem parse_dig {l : List UInt8} {q : Rat} (h : parseS l = (0, q)) : digQ q ≤ 1000 := by
 have h1 := parse_text h
 rw [← h1, parse_of_text] at h
 split at h
 ·assumption
 ·simp at h
theorem parse_sz {l : List UInt8} {q : Rat} (h : parseS l = (0, q)) : sz q ≤ 2000 := by
 have := parse_dig h
 have := sz_dig q
 omega
theorem parse_or (l : List UInt8) : (parseS l).1 = 0 ∨ (parseS l).2 = 0 := by
 unfold parseS parseR
 split
 ·exact .inr rfl
 split
 ·exact .inr rfl
 split
 ·exact .inr rfl
 split
 ·exact .inl rfl
 split
 ·exact .inr rfl
 ·exact .inl rfl
theorem sz_zero : sz 0 ≤ 2 := sz_int 0 (by decide)
theorem parse_sz' (l : List UInt8) : sz (parseS l).2 ≤ 2000 := by
 rcases parse_or l with h | h
 ·exact parse_sz (l := l) (by rw [← h])
 ·rw [h]; have := sz_zero; omega
theorem pfx_le {c : UInt8} {p : Int} (h : pfx c = some p) : p.natAbs ≤ 15 := by
 unfold pfx at h
 repeat' split at h
 all_goals first | (cases h; decide) | cases h
theorem cutP_le (l : List UInt8) : (cutP l).2.natAbs ≤ 15 := by
 unfold cutP
 split
 ·split
  ·rename_i h; exact pfx_le h
  ·exact Nat.zero_le _
 ·exact Nat.zero_le _
theorem dg_dv {l : List UInt8} (h : AllD l) {k : Nat} (hk : l.length ≤ k) : dg W64 (dv l) ≤ k := by
 rw [dg_le_iff W64_gt]
 have h6 := dv_lt h
 have h7 : (10 : Nat) ^ l.length ≤ 10 ^ k := Nat.pow_le_pow_right (by decide) hk
 have h8 : (10 : Nat) ^ k ≤ W64 ^ k := Nat.pow_le_pow_left (by decide) k
 omega
theorem read_sz (l : List UInt8) : sz (readS l).2 ≤ 2000 := by
 unfold readS
 split
 ·exact parse_sz' l
 ·have hb2 : decide (46 ∈ (cutP (unsigned l)).1) = false → aft 46 (cutP (unsigned l)).1 = [] := fun h => (fore_all (of_decide_eq_false h)).2
  generalize fore 46 (cutP (unsigned l)).1 = f at *
  generalize aft 46 (cutP (unsigned l)).1 = b at *
  have hp := cutP_le (unsigned l)
  generalize (cutP (unsigned l)).2 = p at *
  generalize decide (46 ∈ (cutP (unsigned l)).1) = two at *
  generalize isNeg l = neg
  unfold readR
  split
  ·have := sz_zero; show sz 0 ≤ _; omega
  ·rename_i hd
   split
   ·have := sz_zero; show sz 0 ≤ _; omega
   ·rename_i hl
    show sz (sgQ neg ((dv (f ++ b) : Nat) : Rat) * tenQ (p - b.length)) ≤ 2000
    have h1 := sz_mul (sgQ neg ((dv (f ++ b) : Nat) : Rat)) (tenQ (p - b.length))
    have h2 := sz_ten (p - b.length)
    have h3 : sz (sgQ neg ((dv (f ++ b) : Nat) : Rat)) = sz ((dv (f ++ b) : Nat) : Rat) := by
     unfold sgQ; split
     ·exact sz_neg _
     ·rfl
    have h4 := sz_nat (dv (f ++ b))
    have hA : AllD (f ++ b) := by
     have hf : AllD f := (Classical.not_not.1 (fun h => hd (.inl h))).1
     have hb : AllD b := by
      cases two
      ·rw [hb2 rfl]; intro c hc; simp at hc
      ·exact (Classical.not_not.1 (fun h => hd (.inr ⟨rfl, h⟩))).1
     intro c hc
     rcases List.mem_append.1 hc with h | h
     ·exact hf c h
     ·exact hb c h
    have h5 : dg W64 (dv (f ++ b)) ≤ 400 := dg_dv hA (by rw [List.length_append]; omega)
    omega
theorem bl_dg (N : Nat) : bl N ≤ 64 * dg W64 N := by
 have h := bl_le_dg 64 N (by decide)
 exact h
theorem dg_bl (N : Nat) : dg W64 N ≤ bl N := by
 rw [dg_le_iff W64_gt]
 have h1 := lt_pow_dg (b := 2) (by decide) N
 exact Nat.lt_of_lt_of_le h1 (Nat.pow_le_pow_left (by decide) _)
theorem ulp_le (b : Nat) (x : Rat) : (ulp b x).natAbs ≤ 64 * sz x + b + 1 := by
 have h1 := bl_dg x.num.natAbs
 have h2 := bl_dg x.den
 have h3 := sz_eq x
 unfold ulp rsh
 split <;> omega
theorem sz_dn_up_pos {b : Nat} {x : Rat} (hb : 0 < b) (hx : 0 < x) : sz (dn b x) ≤ 64 * sz x + 2 * b + 6 ∧ sz (up b x) ≤ 64 * sz x + 2 * b + 6 := by
 have h1 := (ulp_spec hx hb).1
 have h2 := ulp_le b x
 have h3 := sz_pw (ulp b x)
 rw [dn_pos hx, up_pos hx]
 generalize fl (ulp b x) x.num.natAbs x.den = k at *
 have h4 := dg_bl k
 have h5 : dg W64 (k + 1) ≤ b + 1 := by
  have := dg_add W64_gt k 1
  rw [dg_one W64_gt] at this
  omega
 constructor
 ·have h6 := sz_mul ((k : Nat) : Rat) (pw (ulp b x))
  have h7 := sz_nat k
  omega
 ·split
  ·have h6 := sz_mul ((k : Nat) : Rat) (pw (ulp b x))
   have h7 := sz_nat k
   rw [Nat.add_zero]
   omega
  ·have h6 := sz_mul ((k + 1 : Nat) : Rat) (pw (ulp b x))
   have h7 := sz_nat (k + 1)
   omega
theorem sz_dn_up {b : Nat} (x : Rat) (hb : 0 < b) : sz (dn b x) ≤ 64 * sz x + 2 * b + 6 ∧ sz (up b x) ≤ 64 * sz x + 2 * b + 6 := by
 rcases (show x < 0 ∨ x = 0 ∨ 0 < x by grind) with h | h | h
 ·have := sz_dn_up_pos hb (show 0 < -x by grind)
  rw [dn_neg, up_neg, sz_neg, sz_neg, sz_neg] at this
  exact ⟨this.2, this.1⟩
 ·subst h
  rw [dn_zero, up_zero]
  have := sz_zero
  constructor <;> omega
 ·exact sz_dn_up_pos hb h
end Go.Proofs.YtgokbhikgdhmpaaGreatDoor.Ma
namespace Go.Proofs.YtgokbhikgdhmpaaGreatDoor.Ma
open Me
def stepsN (b : Nat) (x : Rat) (away : Bool) : Nat := fl (ulp b x) x.num.natAbs x.den + if away = true ∧ ¬ fr (ulp b x) x.num.natAbs x.den = 0 then 1 else 0
def rnd (b : Nat) (x : Rat) (away : Bool) : Rat := if x = 0 then 0 else sgQ (decide (x < 0)) (((stepsN b x away : Nat) : Rat) * pw (ulp b x))
theorem stepsN_neg (b : Nat) (x : Rat) (away : Bool) : stepsN b (-x) away = stepsN b x away := by
 unfold stepsN; rw [ulp_neg, Rat.neg_num, Rat.neg_den, Int.natAbs_neg]
theorem rnd_dn (b : Nat) (x : Rat) : rnd b x (decide (x < 0)) = dn b x := by
 unfold rnd
 rcases (show x < 0 ∨ x = 0 ∨ 0 < x by grind) with h | h | h
 ·have h0 : ¬ x = 0 := by grind
  have hp : 0 < -x := by grind
  have h1 := up_pos (b := b) hp
  rw [up_neg] at h1
  rw [if_neg h0, decide_eq_true h]
  unfold sgQ
  rw [if_pos rfl, ← stepsN_neg, ← ulp_neg]
  unfold stepsN
  have e : (if true = true ∧ ¬ fr (ulp b (-x)) (-x).num.natAbs (-x).den = 0 then 1 else 0) = (if fr (ulp b (-x)) (-x).num.natAbs (-x).den = 0 then 0 else 1) := by
   by_cases hz : fr (ulp b (-x)) (-x).num.natAbs (-x).den = 0
   ·rw [if_neg (fun h => h.2 hz), if_pos hz]
   ·rw [if_pos ⟨rfl, hz⟩, if_neg hz]
  rw [e]
  rw [← h1, Rat.neg_neg]
 ·subst h; rw [if_pos rfl, dn_zero]
 ·have h0 : ¬ x = 0 := by grind
  rw [if_neg h0, decide_eq_false (by grind), dn_pos h]
  unfold sgQ stepsN
  simp
theorem rnd_up (b : Nat) (x : Rat) : rnd b x (!decide (x < 0)) = up b x := by
 by_cases h0 : x = 0
 ·subst h0; unfold rnd; rw [if_pos rfl, up_zero]
 ·have h1 := rnd_dn b (-x)
  have e : decide (-x < 0) = !decide (x < 0) := by
   by_cases h : x < 0
   ·rw [decide_eq_true h, decide_eq_false (by grind)]; rfl
   ·rw [decide_eq_false h, decide_eq_true (by grind)]; rfl
  rw [e] at h1
  unfold up
  rw [← h1]
  unfold rnd
  rw [if_neg h0, if_neg (by grind), stepsN_neg, ulp_neg, e]
  unfold sgQ
  cases decide (x < 0)
  ·simp
  ·simp
theorem scaled_up (s : Bool) (g k : Nat) : (sgQ s (((g : Nat) : Rat) * pw k)).num = (if s then -((g * 2 ^ k : Nat) : Int) else ((g * 2 ^ k : Nat) : Int)) ∧ (sgQ s (((g : Nat) : Rat) * pw k)).den = 1 := by
 rw [pw_nat, ← Rat.natCast_mul]
 unfold sgQ
 cases s
 ·simp only [Bool.false_eq_true, if_false]; exact ⟨Rat.num_natCast _, Rat.den_natCast _⟩
 ·simp only [if_true, Rat.neg_num, Rat.neg_den]; exact ⟨by rw [Rat.num_natCast], Rat.den_natCast _⟩
theorem scaled_down (s : Bool) {g : Nat} (k : Nat) (hg : 0 < g) : (sgQ s (((g : Nat) : Rat) * pw (-(k : Int)))).num = (if s then -((g / 2 ^ min (tz g) k : Nat) : Int) else ((g / 2 ^ min (tz g) k : Nat) : Int)) ∧ (sgQ s (((g : Nat) : Rat) * pw (-(k : Int)))).den = 2 ^ (k - min (tz g) k) := by
 obtain ⟨m, hm⟩ : ∃ m, min (tz g) k = m := ⟨_, rfl⟩
 rw [hm]
 obtain ⟨h1, h2⟩ := tz_spec hg
 have hd : 2 ^ m ∣ g := Nat.dvd_trans (Nat.pow_dvd_pow 2 (show m ≤ tz g by omega)) ⟨_, h1⟩
 obtain ⟨c, hc⟩ := hd
 have hq : g / 2 ^ m = c := by rw [hc, Nat.mul_div_cancel_left _ (two_pow_pos m)]
 rw [hq]
 have hcop : Nat.Coprime c (2 ^ (k - m)) := by
  rcases Nat.lt_or_ge (tz g) k with h | h
  ·have hmt : m = tz g := by omega
   have hodd : c % 2 = 1 := by rw [← hq, hmt]; exact h2
   exact (pow_coprime (k - m) hodd).symm
  ·rw [show k - m = 0 by omega]; simp
 have hv : ((g : Nat) : Rat) * pw (-(k : Int)) * ((2 ^ (k - m) : Nat) : Rat) = ((c : Nat) : Rat) := by
  rw [← pw_nat, Rat.mul_assoc, ← pw_add, show -(k : Int) + ((k - m : Nat) : Int) = -(m : Int) by omega, hc, Rat.natCast_mul, Rat.mul_comm (((2 ^ m : Nat)) : Rat), Rat.mul_assoc, ← pw_nat, pw_inv, Rat.mul_one]
 cases s
 ·simp only [sgQ, Bool.false_eq_true, if_false]
  exact rat_of' (two_pow_pos _) (by simpa using hcop) (by rw [Rat.intCast_natCast]; exact hv)
 ·simp only [sgQ, if_true]
  exact rat_of' (two_pow_pos _) (by simpa using hcop) (by rw [Rat.intCast_neg, Rat.intCast_natCast, Rat.neg_mul, hv])
def bitsN (z : Int) : Nat := if z < 1 then 1 else if 2000 < z then 2000 else z.toNat
theorem bitsN_pos (z : Int) : 0 < bitsN z ∧ bitsN z ≤ 2000 := by unfold bitsN; split <;> (try split) <;> omega
theorem ulp_cases {b : Nat} {x : Rat} : (b < bl (fl ((bl x.num.natAbs : Int) - bl x.den - b) x.num.natAbs x.den) ∧ ulp b x = (bl x.num.natAbs : Int) - bl x.den - b + 1) ∨ (¬ b < bl (fl ((bl x.num.natAbs : Int) - bl x.den - b) x.num.natAbs x.den) ∧ ulp b x = (bl x.num.natAbs : Int) - bl x.den - b) := by
 unfold ulp rsh
 by_cases h : b < bl (fl ((bl x.num.natAbs : Int) - bl x.den - b) x.num.natAbs x.den)
 ·left; exact ⟨h, by rw [if_pos h]⟩
 ·right; exact ⟨h, by rw [if_neg h]⟩
theorem rnd_parts {b : Nat} {x : Rat} {N D : Nat} {sh : Int} (away : Bool) (hx : x ≠ 0) (hb : 0 < b) (hN : x.num.natAbs = N) (hD : x.den = D) (hsh : (bl N : Int) - bl D - b = sh) :
    (b < bl (fl sh N D) → rnd b x away = sgQ (decide (x.num < 0)) (((fl sh N D / 2 + if away = true ∧ ¬ (fr sh N D = 0 ∧ fl sh N D % 2 = 0) then 1 else 0 : Nat) : Rat) * pw (sh + 1)) ∧ 0 < fl sh N D / 2) ∧
    (¬ b < bl (fl sh N D) → rnd b x away = sgQ (decide (x.num < 0)) (((fl sh N D + if away = true ∧ ¬ fr sh N D = 0 then 1 else 0 : Nat) : Rat) * pw sh)) ∧ 0 < fl sh N D ∧ bl (fl sh N D) ≤ b + 1 := by
  subst hN hD
  have hN0 : 0 < x.num.natAbs := by have : x.num ≠ 0 := fun h => hx (Rat.num_eq_zero.1 h); omega
  have hbits := fl_bits hN0 x.den_pos hb hsh.symm
  have hs : decide (x.num < 0) = decide (x < 0) := decide_eq_decide.2 (num_lt_iff x)
  have hpos : ∀ n : Nat, 0 < bl n → 0 < n := fun n h => by
    rcases Nat.eq_zero_or_pos n with h0 | h0
    · subst h0; rw [bl_zero] at h; omega
    · exact h0
  obtain ⟨f1, f2⟩ := fl_succ sh (N := x.num.natAbs) x.den_pos
  refine ⟨fun h => ⟨?_, ?_⟩, fun h => ?_, hpos _ (by omega), by omega⟩
  · rcases ulp_cases (b := b) (x := x) with ⟨-, hu⟩ | ⟨h1, -⟩
    · rw [hsh] at hu
      unfold rnd
      rw [if_neg hx, hs]
      unfold stepsN
      rw [hu, f1]
      have e : (away = true ∧ ¬ fr (sh + 1) x.num.natAbs x.den = 0) ↔ (away = true ∧ ¬ (fr sh x.num.natAbs x.den = 0 ∧ fl sh x.num.natAbs x.den % 2 = 0)) := by rw [f2]
      simp only [e]
    · rw [hsh] at h1; exact absurd h h1
  · exact hpos _ (by rw [bl_half]; omega)
  · rcases ulp_cases (b := b) (x := x) with ⟨h1, -⟩ | ⟨-, hu⟩
    · rw [hsh] at h1; exact absurd h1 h
    · rw [hsh] at hu
      unfold rnd
      rw [if_neg hx, hs]
      unfold stepsN
      rw [hu]
end Go.Proofs.YtgokbhikgdhmpaaGreatDoor.Ma
namespace Go.Proofs.YtgokbhikgdhmpaaGreatDoor.Ma
theorem dropWhile_zeros (n : Nat) (l : List UInt8) : (List.replicate n (48 : UInt8) ++ l).dropWhile (· == 48) = l.dropWhile (· == 48) := by
 induction n with
 | zero => simp
 | succ n ih => rw [List.replicate_succ, List.cons_append, List.dropWhile_cons_of_pos (by rfl), ih]
theorem dec_dropWhile {N : Nat} (h : 0 < N) : (dec N).dropWhile (· == 48) = dec N := by
 have hr := dec_row N
 cases hd : dec N with
 | nil => exact absurd hd hr.2.1
 | cons c t =>
  have hc : c ≠ 48 := fun h1 => by
   have h2 := hr.2.2 (by rw [hd, h1]; rfl)
   have := dec_eq_zero h2
   omega
  rw [List.dropWhile_cons_of_neg (by simpa using hc)]
theorem short_all (U : Nat) : (List.replicate 12 (48 : UInt8) ++ dec U).drop (dec U).length = pd 12 (U % 1000000000000) ∧
    ((List.replicate 12 (48 : UInt8) ++ dec U).take (dec U).length).dropWhile (· == 48) = if U / 1000000000000 = 0 then [] else dec (U / 1000000000000) := by
  rcases Nat.lt_or_ge U 1000000000000 with h | h
  · have h0 : U / 1000000000000 = 0 := Nat.div_eq_of_lt h
    have h1 := pd_small 12 U h (by decide)
    have hl := dec_len_le (b := 12) h
    have e : List.replicate 12 (48 : UInt8) ++ dec U = List.replicate (dec U).length 48 ++ pd 12 U := by
      rw [h1, ← List.append_assoc, List.replicate_append_replicate]
      congr 2
      omega
    rw [h0, if_pos rfl, Nat.mod_eq_of_lt h, e]
    refine ⟨List.drop_left' (by simp), ?_⟩
    rw [List.take_left' (by simp)]
    have := dropWhile_zeros (dec U).length []
    rw [List.append_nil] at this
    rw [this]; rfl
  · have hp : 0 < U / 1000000000000 := Nat.div_pos h (by decide)
    have e := dec_pd hp 12 (U % 1000000000000) (Nat.mod_lt _ (by decide))
    have hU : U / 1000000000000 * 10 ^ 12 + U % 1000000000000 = U := by have := Nat.div_add_mod U 1000000000000; omega
    rw [hU] at e
    have hl : (dec U).length = (dec (U / 1000000000000)).length + 12 := by rw [e, List.length_append, pd_length]
    rw [if_neg (by omega), hl, e, ← List.append_assoc]
    constructor
    · exact List.drop_left' (by rw [List.length_append, List.length_replicate]; omega)
    · rw [List.take_left' (by rw [List.length_append, List.length_replicate]; omega), dropWhile_zeros, dec_dropWhile hp]
theorem dec_hi_len (U : Nat) (h : 412 < (dec U).length) : 400 < (dec (U / 1000000000000)).length := by
 rcases Nat.lt_or_ge U 1000000000000 with h0 | h0
 ·have hl := dec_len_le (b := 12) h0
  omega
 ·have hp : 0 < U / 1000000000000 := Nat.div_pos h0 (by decide)
  have e := dec_pd hp 12 (U % 1000000000000) (Nat.mod_lt _ (by decide))
  have hU : U / 1000000000000 * 10 ^ 12 + U % 1000000000000 = U := by have := Nat.div_add_mod U 1000000000000; omega
  rw [hU] at e
  have hl : (dec U).length = (dec (U / 1000000000000)).length + 12 := by rw [e, List.length_append, pd_length]
  omega
theorem shortU_of {U : Nat} {f b : List UInt8} (hf : f = if U / 1000000000000 = 0 then [] else dec (U / 1000000000000)) (hb : b = rtrim (pd 12 (U % 1000000000000))) :
    shortU U = if 400 < (if f = [] then [48] else f).length + b.length then none else some ((if f = [] then [48] else f) ++ if b = [] then [] else 46 :: b) := by
  have e : (if f = [] then [48] else f) = dec (U / 1000000000000) := by
    by_cases h : U / 1000000000000 = 0
    · rw [if_pos h] at hf
      rw [if_pos hf, h, dec_zero]
    · rw [if_neg h] at hf
      rw [if_neg (by rw [hf]; exact dec_ne_nil _), hf]
  unfold shortU
  rw [e, hb]
end Go.Proofs.YtgokbhikgdhmpaaGreatDoor.Ma
