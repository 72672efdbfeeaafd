/- ValueSpans: spans of numbers. No condition. -/
import Derived.Test.YtajbfablmpmgbaaGreatDoorQw01
namespace Go.Proofs.YtajbfablmpmgbaaGreatDoor.Ma
structure Lu (a M E : Nat) : Prop where
 le : 10 ^ a ≤ M * 2 ^ E
structure Ll (a M E : Nat) : Prop where
 le : M * 2 ^ E ≤ 10 ^ a
theorem Lu.step {a M E : Nat} (h : Lu a M E) (b t M' : Nat) (hM : M * M * 10 ^ b ≤ M' * 2 ^ t := by decide) : Lu (2 * a + b) M' (2 * E + t) := by
 refine ⟨?_⟩;have h1 := Nat.mul_le_mul h.le h.le;have h2 := Nat.mul_le_mul_right (10 ^ b) h1;have h3 := Nat.mul_le_mul_right (2 ^ E * 2 ^ E) hM;rw [Nat.pow_add, Nat.pow_add, Nat.two_mul, Nat.two_mul, Nat.pow_add, Nat.pow_add];grind
theorem Ll.step {a M E : Nat} (h : Ll a M E) (b t M' : Nat) (hM : M' * 2 ^ t ≤ M * M * 10 ^ b := by decide) : Ll (2 * a + b) M' (2 * E + t) := by
 refine ⟨?_⟩;have h1 := Nat.mul_le_mul h.le h.le;have h2 := Nat.mul_le_mul_right (10 ^ b) h1;have h3 := Nat.mul_le_mul_right (2 ^ E * 2 ^ E) hM;rw [Nat.pow_add, Nat.pow_add, Nat.two_mul, Nat.two_mul, Nat.pow_add, Nat.pow_add];grind
theorem aJp : Lu 5553023288523357132 41546534998512897341558166020 18446744073709551520 := by
 have h : Lu 0 1 0 := ⟨by decide⟩
 replace h := h.step 1 0 10;replace h := h.step 0 0 100;replace h := h.step 0 0 10000;replace h := h.step 1 0 1000000000;replace h := h.step 1 0 10000000000000000000;replace h := h.step 0 31 46566128730773925781250000000;replace h := h.step 1 98 68422776578360208541197733560;replace h := h.step 0 96 59091063153828708996857156882;replace h := h.step 0 96 44072128317012440822003468782;replace h := h.step 0 95 49031870303479681585965434945;replace h := h.step 1 98 75860787034673785722312053061;replace h := h.step 0 96 72636532602709526740073931712;replace h := h.step 0 96 66593313553050968571760079422;replace h := h.step 0 96 55973397201740459171030042668;replace h := h.step 0 95 79088573933283726119377417810;replace h := h.step 0 96 78949231287224761636943583999;replace h := h.step 1 100 49169551292142452083889250190;replace h := h.step 0 95 61029934244287230230002091044;replace h := h.step 0 96 47011728603341418753486644292;replace h := h.step 1 98 69738542335760975735847505061;replace h := h.step 1 99 76731936800899265598558346773;replace h := h.step 0 96 74314359166882785082217469799;replace h := h.step 1 100 43565821507836270452164057591;replace h := h.step 0 95 47911771355569038443635533350;replace h := h.step 1 98 72434402161448408869311255889;replace h := h.step 0 96 66223202078450472907196399032;replace h := h.step 0 96 55352949687981390123294171488;replace h := h.step 0 95 77344947602654847695764415547;replace h := h.step 0 96 75506495794098136825075110341;replace h := h.step 1 100 44974781742521976276597713783;replace h := h.step 0 95 51060908863645880260346256018;replace h := h.step 0 95 65815395214098115954566351867;replace h := h.step 1 99 68341643137439458016605241063;replace h := h.step 1 99 73688762280146101158264309882;replace h := h.step 1 100 42835412892182220879441644631;replace h := h.step 1 98 57898370333698514611471754219;replace h := h.step 1 99 52888726383982496876955421874;replace h := h.step 0 95 70611693866209550423564729846;replace h := h.step 1 99 78665387919314797413513951561;replace h := h.step 1 100 48816631770474761788895178355;replace h := h.step 1 98 75196226372947754917843712077;replace h := h.step 1 100 44605922639200148419164657325;replace h := h.step 0 95 50226794901019756826223879723;replace h := h.step 0 95 63682681661963537495245183544;replace h := h.step 1 99 63984254698082146836524285523;replace h := h.step 1 99 64591691883109764164013905117;replace h := h.step 1 99 65823921190451692050466067823;replace h := h.step 1 99 68359350756536771480578012374;replace h := h.step 1 99 73726953389425943537712787068;replace h := h.step 1 100 42879825522174185319699978275;replace h := h.step 1 98 58018492997394155657878904564;replace h := h.step 1 99 53108412193117403487966410758;replace h := h.step 0 95 71199516842669532378517993780;replace h := h.step 1 100 39990287526522580259100009873;replace h := h.step 1 98 50462583180760419042182482658;replace h := h.step 1 99 40176248894083184574080550171;replace h := h.step 1 98 50932992889640415093870448298;replace h := h.step 0 95 65486051484006170360131773747;replace h := h.step 0 96 54127507225651152910871191809;replace h := h.step 1 99 46223889105332892851278406452;replace h := h.step 1 98 67420720619307185674736194682;replace h := h.step 0 96 57372952048563362119010062552;replace h := h.step 0 96 41546534998512897341558166020;exact h
theorem aJq : Ll 5553023288523357133 51933168748021119845971274118 18446744073709551523 := by
 have h : Ll 0 1 0 := ⟨by decide⟩
 replace h := h.step 1 0 10;replace h := h.step 0 0 100;replace h := h.step 0 0 10000;replace h := h.step 1 0 1000000000;replace h := h.step 1 0 10000000000000000000;replace h := h.step 0 31 46566128730773925781250000000;replace h := h.step 1 98 68422776578360208541197733559;replace h := h.step 0 96 59091063153828708996857156879;replace h := h.step 0 96 44072128317012440822003468777;replace h := h.step 0 95 49031870303479681585965434933;replace h := h.step 1 98 75860787034673785722312053023;replace h := h.step 0 96 72636532602709526740073931638;replace h := h.step 0 96 66593313553050968571760079286;replace h := h.step 0 96 55973397201740459171030042439;replace h := h.step 0 95 79088573933283726119377417162;replace h := h.step 0 96 78949231287224761636943582704;replace h := h.step 1 100 49169551292142452083889248576;replace h := h.step 0 95 61029934244287230230002087037;replace h := h.step 0 96 47011728603341418753486638118;replace h := h.step 1 98 69738542335760975735847486742;replace h := h.step 1 99 76731936800899265598558306460;replace h := h.step 0 96 74314359166882785082217391712;replace h := h.step 1 100 43565821507836270452163966035;replace h := h.step 0 95 47911771355569038443635331971;replace h := h.step 1 98 72434402161448408869310646987;replace h := h.step 0 96 66223202078450472907195285653;replace h := h.step 0 96 55352949687981390123292310242;replace h := h.step 0 95 77344947602654847695759214090;replace h := h.step 0 96 75506495794098136825064954698;replace h := h.step 1 100 44974781742521976276585615542;replace h := h.step 0 95 51060908863645880260318785192;replace h := h.step 0 95 65815395214098115954495534354;replace h := h.step 1 99 68341643137439458016458169539;replace h := h.step 1 99 73688762280146101157947152784;replace h := h.step 1 100 42835412892182220879072916622;replace h := h.step 1 98 57898370333698514610474973780;replace h := h.step 1 99 52888726383982496875134353418;replace h := h.step 0 95 70611693866209550418702115934;replace h := h.step 1 99 78665387919314797402679502229;replace h := h.step 1 100 48816631770474761775448315955;replace h := h.step 1 98 75196226372947754876417121492;replace h := h.step 1 100 44605922639200148370016677859;replace h := h.step 0 95 50226794901019756715541470823;replace h := h.step 0 95 63682681661963537214576165126;replace h := h.step 1 99 63984254698082146272527999824;replace h := h.step 1 99 64591691883109763025312689294;replace h := h.step 1 99 65823921190451689729617150428;replace h := h.step 1 99 68359350756536766660089584220;replace h := h.step 1 99 73726953389425933139722703090;replace h := h.step 1 100 42879825522174173224693197586;replace h := h.step 1 98 58018492997394122927612040676;replace h := h.step 1 99 53108412193117343567330282681;replace h := h.step 0 95 71199516842669371713939067528;replace h := h.step 1 100 39990287526522399779709376198;replace h := h.step 1 98 50462583180759963558772605973;replace h := h.step 1 99 40176248894082459299483457871;replace h := h.step 1 98 50932992889638576176255509942;replace h := h.step 0 95 65486051484001441658880401159;replace h := h.step 0 96 54127507225643335893190285572;replace h := h.step 1 99 46223889105319541674513134180;replace h := h.step 1 98 67420720619268238456055435661;replace h := h.step 0 96 57372952048497076357325232461;replace h := h.step 1 99 51933168748021119845971274118;exact h
theorem log_dn' {C E M k w m n : Nat} (h : Lu C M E) (hM : M ≤ 2 ^ k) (hw : k + E = w) (hw0 : 0 < w) (hmn : m * w ≤ n * C) : 10 ^ m ≤ 2 ^ n := by
 have h1 : 10 ^ C ≤ 2 ^ w := by
  rw [← hw, Nat.pow_add];exact Nat.le_trans h.le (Nat.mul_le_mul_right _ hM)
 refine (Nat.pow_le_pow_iff_left (n := w) (by omega)).1 ?_;rw [← Nat.pow_mul, ← Nat.pow_mul, Nat.mul_comm n w, Nat.pow_mul 2 w n];refine Nat.le_trans (Nat.pow_le_pow_right (by decide) hmn) ?_;rw [Nat.mul_comm, Nat.pow_mul];exact Nat.pow_le_pow_left h1 n
theorem log_up' {C E M k w m n : Nat} (h : Ll C M E) (hM : 2 ^ k ≤ M) (hw : k + E = w) (hw0 : 0 < w) (hmn : n * C < m * w) : 2 ^ n < 10 ^ m := by
 have h1 : 2 ^ w ≤ 10 ^ C := by
  rw [← hw, Nat.pow_add];exact Nat.le_trans (Nat.mul_le_mul_right _ hM) h.le
 refine (Nat.pow_lt_pow_iff_left (n := w) (by omega)).1 ?_;rw [← Nat.pow_mul, ← Nat.pow_mul, Nat.mul_comm n w, Nat.pow_mul 2 w n];refine Nat.lt_of_le_of_lt (Nat.pow_le_pow_left h1 n) ?_;rw [← Nat.pow_mul, Nat.mul_comm];exact Nat.pow_lt_pow_right (by decide) hmn
theorem aH7 {m n : Nat} (h : m * 18446744073709551616 ≤ n * 5553023288523357132) : 10 ^ m ≤ 2 ^ n :=
 log_dn' (k := 96) aJp (by decide) (by decide) (by decide) h
theorem aH8 {m n : Nat} (h : n * 5553023288523357133 < m * 18446744073709551616) : 2 ^ n < 10 ^ m :=
 log_up' (k := 93) aJq (by decide) (by decide) (by decide) h
theorem aEA {N n least most : Nat} (hN : 0 < N) (hn : bl N = n) (h1 : (n - 1) * 5553023288523357132 / 18446744073709551616 = least) (h2 : n * 5553023288523357133 / 18446744073709551616 = most) :
  least + 1 ≤ dg 10 N ∧ dg 10 N ≤ most + 1 := by
 have hp : 0 < bl N := by rw [jU hN]; omega
 rw [hn] at hp;constructor
 ·have h3 : 10 ^ least ≤ 2 ^ (n - 1) := aH7 (by rw [← h1]; exact Nat.div_mul_le_self _ _);have h4 : 2 ^ (n - 1) ≤ N := (iJ _ _).1 (by omega);rcases Nat.lt_or_ge least (dg 10 N) with h | h
  ·exact h
  ·have := (aI (b := 10) (by decide) N least).1 h;omega
 ·rw [aI (by decide)];have h3 : 2 ^ n < 10 ^ (most + 1) := aH8 (by rw [← h2]; omega);have h4 : N < 2 ^ n := (bJ _ _).1 (by omega);exact Nat.lt_trans h4 h3
theorem aEB {N k : Nat} : k < dg 10 N ↔ 10 ^ k ≤ N := by
 have := aI (b := 10) (by decide) N k;omega
def dw (width N : Nat) : List UInt8 := if width = 0 then (if N = 0 then [] else dec N) else pd width N
theorem yK {N : Nat} (h : 0 < N) : dw 0 N = dec N := by simp [dw]; omega
theorem aFV (k : Nat) : ∀ j N, N < 10 ^ k → pd (j + k) N = List.replicate j 48 ++ pd k N := by
 intro j
 induction j with
 | zero => intro N _; simp
 | succ j ih =>
   intro N h;rw [show j + 1 + k = (j + k) + 1 by omega, pd_succ', ih N h];have h1 : N / 10 ^ (j + k) = 0 := Nat.div_eq_of_lt (Nat.lt_of_lt_of_le h (Nat.pow_le_pow_right (by decide) (by omega)));rw [h1, List.replicate_succ];rfl
theorem aH9 (k : Nat) : ∀ N, pd k (N % 10 ^ k) = pd k N := by
 intro N
 suffices h : ∀ j, j ≤ k → pd j (N % 10 ^ k) = pd j N from h k (Nat.le_refl _)
 intro j
 induction j with
 | zero => intro _; rfl
 | succ j ih =>
   intro h;rw [pd_succ', pd_succ', ih (by omega)];congr 2;obtain ⟨d, rfl⟩ : ∃ d, k = j + 1 + d := ⟨k - (j + 1), by omega⟩
   rw [Nat.pow_add, Nat.pow_succ, Nat.mul_assoc, Nat.mod_mul_right_div_self, Nat.mod_mul_right_mod]
theorem aIa (j k : Nat) : ∀ N, pd (j + k) N = pd j (N / 10 ^ k) ++ pd k N := by
 intro N
 induction j with
 | zero => simp [pd]
 | succ j ih =>
   rw [show j + 1 + k = (j + k) + 1 by omega, pd_succ', ih, pd_succ', Nat.div_div_eq_div_mul, ← Nat.pow_add, Nat.add_comm k j];rfl
theorem aFW (k N : Nat) : pd (k + k) N = pd k (N / 10 ^ k) ++ pd k (N % 10 ^ k) := by rw [aIa, aH9]
theorem aFX {k N w : Nat} (hk : 0 < k) (hw : w = 0 ∨ w = k + k) (h : 0 < N / 10 ^ k ∨ 0 < w) : dw w N = dw (w - k) (N / 10 ^ k) ++ dw k (N % 10 ^ k) := by
 rcases hw with rfl | rfl
 ·have h1 : 0 < N / 10 ^ k := (by omega);have h2 : 0 < N := Nat.lt_of_lt_of_le h1 (Nat.div_le_self _ _);rw [Nat.zero_sub, yK h1, yK h2, dw, if_neg (by omega)];have h3 := Nat.div_add_mod N (10 ^ k);rw [Nat.mul_comm] at h3;rw [← yJ h1 k _ (Nat.mod_lt _ (Nat.pow_pos (by decide))), h3]
 ·rw [show k + k - k = k by omega, dw, if_neg (by omega), dw, if_neg (by omega), dw, if_neg (by omega), aFW]
theorem aIb {k N : Nat} (h : N / 10 ^ k = 0) : N % 10 ^ k = N := Nat.mod_eq_of_lt (by
 rcases Nat.lt_or_ge N (10 ^ k) with h1 | h1
 ·exact h1
 ·have := Nat.div_pos h1 (Nat.pow_pos (by decide)); omega)
def mI (N : Nat) : List UInt8 := if N = 0 then [] else dec N
theorem uS : mI 0 = [] := rfl
theorem aBy {N : Nat} (h : 0 < N) : mI N = dec N := by unfold mI; rw [if_neg (by omega)]
theorem aAI {T : Nat} (h : 0 < T) : mI T = mI (T / 10) ++ [dig (T % 10)] := by
 rw [aBy h];rcases Nat.lt_or_ge T 10 with h1 | h1
 ·rw [cZ h1, Nat.div_eq_of_lt h1, Nat.mod_eq_of_lt h1, uS]; rfl
 ·rw [jN h1, aBy (by omega)]
theorem aBz (N : Nat) : (mI N).length = dg 10 N := by
 unfold mI;split
 ·rename_i h; subst h; rw [aT]; rfl
 ·rename_i h; rw [fM, if_neg h]
def Rw (N T : Nat) (row : List UInt8) : Prop := mI N = mI T ++ row.reverse
theorem Rw.start (N : Nat) : Rw N N [] := by unfold Rw; simp
theorem Rw.step {N T : Nat} {row : List UInt8} (h : Rw N T row) (hT : 0 < T) : Rw N (T / 10) (row ++ [dig (T % 10)]) := by
 unfold Rw at *
 rw [h, aAI hT];simp
theorem Rw.done {N : Nat} {row : List UInt8} (h : Rw N 0 row) : mI N = row.reverse := by
 unfold Rw at h;rw [h, uS]; rfl
theorem Rw.len {N T : Nat} {row : List UInt8} (h : Rw N T row) : row.length ≤ dg 10 N := by
 unfold Rw at h;have := congrArg List.length h;rw [aBz] at this;simp at this;omega
theorem aFY {M P k : Nat} (hP : P < 10 ^ (k + 1)) : (M * 10 ^ (k + 1) + P) / 10 = M * 10 ^ k + P / 10 ∧ (M * 10 ^ (k + 1) + P) % 10 = P % 10 ∧ P / 10 < 10 ^ k := by
 rw [Nat.pow_succ] at *
 have h1 : M * (10 ^ k * 10) = 10 * (M * 10 ^ k) := by grind
 rw [h1];omega
theorem aFZ {w N : Nat} (h : N < 10 ^ w) : pd w N = List.replicate (w - dg 10 N) 48 ++ mI N := by
 have h1 : dg 10 N ≤ w := (aI (by decide) _ _).2 h;obtain ⟨j, hj⟩ : ∃ j, w = j + dg 10 N := ⟨w - dg 10 N, by omega⟩
 have h2 : N < 10 ^ dg 10 N := aS (by decide) N;rw [hj, aFV _ _ _ h2, show j + dg 10 N - dg 10 N = j by omega];congr 1;clear hj h h1
 induction N using Nat.strongRecOn with
 | _ N ih =>
   rcases Nat.eq_zero_or_pos N with rfl | h0
   ·rw [aT]; rfl
   ·rw [oQ (by decide) h0, pd, aAI h0];congr 1;exact ih (N / 10) (Nat.div_lt_self h0 (by decide)) (aS (by decide) _)
theorem aEC {w N : Nat} (h : w = 0 ∨ N < 10 ^ w) : dw w N = List.replicate (w - dg 10 N) 48 ++ mI N := by
 unfold dw;split
 ·rename_i h0; subst h0; simp [mI]
 ·rw [aFZ (by omega)]
theorem aBA (n : Nat) : 10 ^ n < 18446744073709551616 ^ (n / 19 + 1) := by
 have h1 : 10 ^ n < 10 ^ (19 * (n / 19 + 1)) := Nat.pow_lt_pow_right (by decide) (by omega);have h2 : (10 ^ 19) ^ (n / 19 + 1) ≤ 18446744073709551616 ^ (n / 19 + 1) := Nat.pow_le_pow_left (by decide) _;rw [Nat.pow_mul] at h1;omega
theorem aED {V z u p d : Nat} (h : V = z * u + p) (hp : p < u) (hd : d < 10) : 10 * V + d = z * (10 * u) + (10 * p + d) ∧ 10 * p + d < 10 * u := by
 refine ⟨?_, by omega⟩;have : z * (10 * u) = 10 * (z * u) := by grind
 omega
theorem xC {k : Nat} (h : k ≤ 19) : 10 ^ k ≤ 10000000000000000000 := by
 have := Nat.pow_le_pow_right (n := 10) (by decide) h;simpa using this
theorem iN {m : Nat} {a : Int} : (m : Int) ∣ a ↔ m ∣ a.natAbs := by
 constructor
 ·intro h; have := Int.natAbs_dvd_natAbs.2 h; simpa using this
 ·intro h; exact Int.natAbs_dvd_natAbs.1 (by simpa using h)
theorem uT {g : Nat} {a b : Int} (h : (g : Int) ∣ a * b) (h1 : Nat.Coprime g a.natAbs) (h2 : Nat.Coprime g b.natAbs) : g = 1 := by
 have h3 : g ∣ a.natAbs * b.natAbs := by
  rw [← Int.natAbs_mul]; exact iN.1 h
 have h4 : Nat.Coprime g (a.natAbs * b.natAbs) := Nat.Coprime.mul_right h1 h2;have := Nat.gcd_eq_left h3;rw [Nat.Coprime] at h4;omega
theorem xD {a b : Int} {m n : Nat} (ha : Nat.Coprime a.natAbs m) (hmn : Nat.Coprime n m) : Nat.Coprime (a * n + b * m).natAbs m := by
 refine uT (g := Nat.gcd (a * n + b * m).natAbs m) (a := a) (b := (n : Int)) ?_ ?_ ?_
 ·have h1 : ((Nat.gcd (a * n + b * m).natAbs m : Nat) : Int) ∣ a * n + b * m := iN.2 (Nat.gcd_dvd_left _ _);have h2 : ((Nat.gcd (a * n + b * m).natAbs m : Nat) : Int) ∣ b * m := Int.dvd_trans (Int.natCast_dvd_natCast.2 (Nat.gcd_dvd_right _ _)) (Int.dvd_mul_left _ _);have := Int.dvd_sub h1 h2
  rwa [Int.add_sub_cancel] at this
 ·exact (Nat.Coprime.coprime_dvd_right (Nat.gcd_dvd_right _ _) ha).symm
 ·exact (Nat.Coprime.coprime_dvd_right (Nat.gcd_dvd_right _ _) hmn).symm
theorem yL {q : Rat} {a : Int} {b : Nat} (hb : 0 < b) (hc : Nat.Coprime a.natAbs b) (h : a * q.den = q.num * b) : q.num = a ∧ q.den = b := by
 have h1 : q = Rat.mk' a b (by omega) hc := by
  rw [← Rat.num_divInt_den q, Rat.mk_eq_divInt, Rat.divInt_eq_divInt_iff (by exact Int.natCast_ne_zero.2 q.den_nz) (by omega)];exact h.symm
 rw [h1];exact ⟨rfl, rfl⟩
theorem vX {x y : Rat} {d bX bY c : Nat} {t : Int} (hd : Nat.gcd x.den y.den = d) (hbX : x.den / d = bX) (hbY : y.den / d = bY) (ht : x.num * bY + y.num * bX = t)
  (hc : Nat.gcd t.natAbs d = c) : (x + y).num = t / c ∧ (x + y).den = bX * (y.den / c) ∧ 0 < d ∧ 0 < c ∧ (c : Int) ∣ t ∧ c ∣ y.den := by
 have px : 0 < x.den := Nat.pos_of_ne_zero x.den_nz;have py : 0 < y.den := Nat.pos_of_ne_zero y.den_nz;have hd0 : 0 < d := by rw [← hd]; exact Nat.gcd_pos_of_pos_left _ px
 have hc0 : 0 < c := by rw [← hc]; exact Nat.gcd_pos_of_pos_right _ hd0
 have dx : x.den = bX * d := by rw [← hbX]; exact (Nat.div_mul_cancel (hd ▸ Nat.gcd_dvd_left _ _)).symm
 have dy : y.den = bY * d := by rw [← hbY]; exact (Nat.div_mul_cancel (hd ▸ Nat.gcd_dvd_right _ _)).symm
 obtain ⟨t', ht'⟩ : (c : Int) ∣ t := iN.2 (hc ▸ Nat.gcd_dvd_left _ _);obtain ⟨d', hd'⟩ : c ∣ d := hc ▸ Nat.gcd_dvd_right _ _
 have hbX0 : 0 < bX := by rcases Nat.eq_zero_or_pos bX with h | h; · rw [h] at dx; omega
                          ·exact h
 have hbY0 : 0 < bY := by rcases Nat.eq_zero_or_pos bY with h | h; · rw [h] at dy; omega
                          ·exact h
 have hd'0 : 0 < d' := by rcases Nat.eq_zero_or_pos d' with h | h; · rw [h] at hd'; omega
                          ·exact h
 have e1 : y.den / c = bY * d' := by rw [dy, hd', Nat.mul_left_comm, Nat.mul_div_cancel_left _ hc0]
 have e2 : t / c = t' := by rw [ht', Int.mul_ediv_cancel_left _ (by omega)]
 have cXY : Nat.Coprime bX bY := by
  have h1 : Nat.gcd (bX * d) (bY * d) = d := (by rw [← dx, ← dy]; exact hd);rw [Nat.gcd_mul_right] at h1;exact Nat.eq_of_mul_eq_mul_right hd0 (by rw [h1, Nat.one_mul])
 have rx : Nat.Coprime x.num.natAbs bX := Nat.Coprime.coprime_dvd_right ⟨d, dx⟩ x.reduced;have ry : Nat.Coprime y.num.natAbs bY := Nat.Coprime.coprime_dvd_right ⟨d, dy⟩ y.reduced;have cX : Nat.Coprime t.natAbs bX := by rw [← ht]; exact xD rx cXY.symm
 have cY : Nat.Coprime t.natAbs bY := by rw [← ht, Int.add_comm]; exact xD ry cXY
 have t'd : t'.natAbs ∣ t.natAbs := Int.natAbs_dvd_natAbs.2 ⟨c, by rw [ht', Int.mul_comm]⟩;have cD : Nat.Coprime t'.natAbs d' := by
  have h1 : Nat.gcd (c * t'.natAbs) (c * d') = c := by
   rw [← hd', show c * t'.natAbs = t.natAbs by rw [ht', Int.natAbs_mul]; simp]; exact hc
  rw [Nat.gcd_mul_left] at h1;exact Nat.eq_of_mul_eq_mul_left hc0 (by rw [h1, Nat.mul_one])
 rw [e1, e2];have key := yL (q := x + y) (a := t') (b := bX * (bY * d')) (Nat.mul_pos hbX0 (Nat.mul_pos hbY0 hd'0))
  (Nat.Coprime.mul_right (Nat.Coprime.coprime_dvd_left t'd cX) (Nat.Coprime.mul_right (Nat.Coprime.coprime_dvd_left t'd cY) cD)) (by
   have h1 : (x + y) = Rat.divInt (x.num * y.den + y.num * x.den) (x.den * y.den) := by
    rw [← Rat.num_divInt_den x, ← Rat.num_divInt_den y, Rat.divInt_add_divInt _ _ (by omega) (by omega)];simp
   have h2 := Rat.num_divInt_den (x + y);have h2b : Rat.divInt (x + y).num ((x + y).den : Int) = Rat.divInt (x.num * y.den + y.num * x.den) (x.den * y.den) := h2.trans h1;have h3 := (Rat.divInt_eq_divInt_iff (by exact Int.natCast_ne_zero.2 (x + y).den_nz) (by exact Int.mul_ne_zero (by omega) (by omega))).1 h2b
   -- (x+y).num * (x.den * y.den) = (..) * (x+y).den
   have h4 : ((x.den : Nat) : Int) = bX * (c * d') := (by rw [dx, hd']; simp);have h5 : ((y.den : Nat) : Int) = bY * (c * d') := (by rw [dy, hd']; simp);rw [h4, h5] at h3;have hcd : ((c : Int) * d') ≠ 0 := Int.mul_ne_zero (by omega) (by omega);have h6 : (c : Int) * d' * (c * (t' * ((x + y).den : Int))) = (c : Int) * d' * (c * ((x + y).num * ((bX * (bY * d') : Nat) : Int))) := by
    have : (c : Int) * t' = x.num * bY + y.num * bX := (by rw [← ht', ht]);simp only [Int.natCast_mul];grind
   have h7 := Int.eq_of_mul_eq_mul_left hcd h6;exact Int.eq_of_mul_eq_mul_left (by omega) h7)
 exact ⟨key.1, key.2, hd0, hc0, ⟨t', ht'⟩, ⟨bY * d', by rw [dy, hd', Nat.mul_left_comm]⟩⟩
theorem aC0 {x y : Rat} {g h : Nat} (hg : Nat.gcd x.num.natAbs y.den = g) (hh : Nat.gcd y.num.natAbs x.den = h) :
  (x * y).num = (x.num / g) * (y.num / h) ∧ (x * y).den = (x.den / h) * (y.den / g) := by
 have px : 0 < x.den := Nat.pos_of_ne_zero x.den_nz;have py : 0 < y.den := Nat.pos_of_ne_zero y.den_nz;have hg0 : 0 < g := by rw [← hg]; exact Nat.gcd_pos_of_pos_right _ py
 have hh0 : 0 < h := by rw [← hh]; exact Nat.gcd_pos_of_pos_right _ px
 obtain ⟨n, hn⟩ : (g : Int) ∣ x.num := iN.2 (hg ▸ Nat.gcd_dvd_left _ _);obtain ⟨m, hm⟩ : (h : Int) ∣ y.num := iN.2 (hh ▸ Nat.gcd_dvd_left _ _);obtain ⟨e, he⟩ : g ∣ y.den := hg ▸ Nat.gcd_dvd_right _ _;obtain ⟨f, hf⟩ : h ∣ x.den := hh ▸ Nat.gcd_dvd_right _ _;have e1 : x.num / g = n := by rw [hn, Int.mul_ediv_cancel_left _ (by omega)]
 have e2 : y.num / h = m := by rw [hm, Int.mul_ediv_cancel_left _ (by omega)]
 have e3 : x.den / h = f := by rw [hf, Nat.mul_div_cancel_left _ hh0]
 have e4 : y.den / g = e := by rw [he, Nat.mul_div_cancel_left _ hg0]
 have he0 : 0 < e := by rcases Nat.eq_zero_or_pos e with h | h; · rw [h] at he; omega
                        ·exact h
 have hf0 : 0 < f := by rcases Nat.eq_zero_or_pos f with h | h; · rw [h] at hf; omega
                        ·exact h
 have nx : x.num.natAbs = g * n.natAbs := by rw [hn, Int.natAbs_mul]; simp
 have ny : y.num.natAbs = h * m.natAbs := by rw [hm, Int.natAbs_mul]; simp
 have c1 : Nat.Coprime n.natAbs e := by
  rw [nx, he, Nat.gcd_mul_left] at hg;exact Nat.eq_of_mul_eq_mul_left hg0 (by rw [hg, Nat.mul_one])
 have c2 : Nat.Coprime m.natAbs f := by
  rw [ny, hf, Nat.gcd_mul_left] at hh;exact Nat.eq_of_mul_eq_mul_left hh0 (by rw [hh, Nat.mul_one])
 have c3 : Nat.Coprime n.natAbs f := Nat.Coprime.coprime_dvd_left ⟨g, by rw [nx, Nat.mul_comm]⟩ (Nat.Coprime.coprime_dvd_right ⟨h, by rw [hf, Nat.mul_comm]⟩ x.reduced);have c4 : Nat.Coprime m.natAbs e := Nat.Coprime.coprime_dvd_left ⟨h, by rw [ny, Nat.mul_comm]⟩ (Nat.Coprime.coprime_dvd_right ⟨g, by rw [he, Nat.mul_comm]⟩ y.reduced);rw [e1, e2, e3, e4];refine yL (Nat.mul_pos hf0 he0) ?_ ?_
 ·rw [Int.natAbs_mul];exact Nat.Coprime.mul_left (Nat.Coprime.mul_right c3 c1) (Nat.Coprime.mul_right c2 c4)
 ·have h1 : (x * y) = Rat.divInt (x.num * y.num) (x.den * y.den) := by
   rw [← Rat.num_divInt_den x, ← Rat.num_divInt_den y, Rat.divInt_mul_divInt];simp
  have h2b : Rat.divInt (x * y).num ((x * y).den : Int) = Rat.divInt (x.num * y.num) (x.den * y.den) := (Rat.num_divInt_den (x * y)).trans h1;have h3 := (Rat.divInt_eq_divInt_iff (by exact Int.natCast_ne_zero.2 (x * y).den_nz) (by exact Int.mul_ne_zero (by omega) (by omega))).1 h2b;have h4 : ((x.den : Nat) : Int) = h * f := (by rw [hf]; simp);have h5 : ((y.den : Nat) : Int) = g * e := (by rw [he]; simp);have h8 : (x * y).num * ((h : Int) * f * (g * e)) = h * m * (g * n) * ((x * y).den : Int) := (by rw [← h4, ← h5, ← hn, ← hm, h3]; grind);have hcd : ((g : Int) * h) ≠ 0 := Int.mul_ne_zero (by omega) (by omega);refine Int.eq_of_mul_eq_mul_left hcd ?_;simp only [Int.natCast_mul];grind
def fl (k : Int) (N D : Nat) : Nat := N * 2 ^ (-k).toNat / (D * 2 ^ k.toNat)
def fr (k : Int) (N D : Nat) : Nat := N * 2 ^ (-k).toNat % (D * 2 ^ k.toNat)
theorem two_pow_pos (k : Nat) : 0 < 2 ^ k := Nat.pow_pos (by decide)
theorem aC1 {A B : Nat} (hB : 0 < B) : A / (B * 2) = A / B / 2 ∧ (A % (B * 2) = 0 ↔ A % B = 0 ∧ A / B % 2 = 0) := by
 refine ⟨(Nat.div_div_eq_div_mul _ _ _).symm, ?_⟩;have h1 := Nat.mod_mul (a := B) (b := 2) (x := A);rw [h1];constructor
 ·intro h;have h3 : B * (A / B % 2) = 0 := (by omega);rcases Nat.mul_eq_zero.1 h3 with h4 | h4
  ·omega
  ·exact ⟨by omega, h4⟩
 ·intro ⟨h2, h3⟩;rw [h2, h3, Nat.mul_zero]
theorem aAa {N D : Nat} (k : Int) (hD : 0 < D) : fl (k + 1) N D = fl k N D / 2 ∧ (fr (k + 1) N D = 0 ↔ fr k N D = 0 ∧ fl k N D % 2 = 0) := by
 unfold fl fr;rcases Int.lt_or_le k 0 with h | h
 ·obtain ⟨j, rfl⟩ : ∃ j : Nat, k = -((j : Int) + 1) := ⟨(-k - 1).toNat, by omega⟩
  rw [show (-(-((j : Int) + 1) + 1)).toNat = j by omega, show (-((j : Int) + 1) + 1).toNat = 0 by omega, show (-(-((j : Int) + 1))).toNat = j + 1 by omega, show (-((j : Int) + 1)).toNat = 0 by omega];rw [Nat.pow_zero, Nat.mul_one];have h1 := aC1 (A := N * 2 ^ (j + 1)) hD;rw [← h1.1, ← h1.2, Nat.pow_succ, ← Nat.mul_assoc, Nat.mul_div_mul_right _ _ (by decide), Nat.mul_mod_mul_right];exact ⟨rfl, by omega⟩
 ·obtain ⟨j, rfl⟩ : ∃ j : Nat, k = (j : Int) := ⟨k.toNat, by omega⟩
  rw [show (-((j : Int) + 1)).toNat = 0 by omega, show ((j : Int) + 1).toNat = j + 1 by omega, show (-(j : Int)).toNat = 0 by omega, show (j : Int).toNat = j by omega];rw [Nat.pow_succ, ← Nat.mul_assoc D];exact aC1 (Nat.mul_pos hD (two_pow_pos j))
theorem aC2 {q : Nat} : bl (q / 2) = bl q - 1 := by
 rcases Nat.eq_zero_or_pos q with rfl | h
 ·rw [Nat.zero_div, mF]
 ·rw [jU h]; omega
theorem yM {N D : Nat} (k : Int) (hD : 0 < D) (n : Nat) : bl (fl (k + n) N D) = bl (fl k N D) - n := by
 induction n with
 | zero => simp
 | succ n ih =>
   rw [show k + ((n + 1 : Nat) : Int) = (k + n) + 1 by omega, (aAa _ hD).1, aC2, ih];omega
theorem aEE {N D b : Nat} {s t : Int} (hD : 0 < D) (hb : 0 < b) (h1 : bl (fl s N D) = b) (h2 : bl (fl t N D) = b) : s = t := by
 rcases Int.lt_trichotomy s t with h | h | h
 ·have := yM (N := N) s hD (t - s).toNat;rw [show s + ((t - s).toNat : Int) = t by omega] at this;omega
 ·exact h
 ·have := yM (N := N) t hD (s - t).toNat;rw [show t + ((s - t).toNat : Int) = s by omega] at this;omega
theorem lG {N : Nat} (h : 0 < N) : 1 ≤ bl N ∧ 2 ^ (bl N - 1) ≤ N ∧ N < 2 ^ bl N := by
 have h0 : 1 ≤ bl N := by rw [jU h]; omega
 exact ⟨h0, (iJ _ _).1 (by omega), (bJ _ _).1 (Nat.le_refl _)⟩
theorem aAb {N D b : Nat} {s : Int} (hN : 0 < N) (hD : 0 < D) (hb : 0 < b) (hs : s = (bl N : Int) - bl D - b) : bl (fl s N D) = b ∨ bl (fl s N D) = b + 1 := by
 obtain ⟨n0, n1, n2⟩ := lG hN;obtain ⟨d0, d1, d2⟩ := lG hD;unfold fl;obtain ⟨p, hp⟩ : ∃ p, (-s).toNat = p := ⟨_, rfl⟩
 obtain ⟨m, hm⟩ : ∃ m, s.toNat = m := ⟨_, rfl⟩
 have e : b + bl D + m = bl N + p := by omega
 rw [hp, hm];have pm := two_pow_pos m;have lo : 2 ^ (b - 1) ≤ N * 2 ^ p / (D * 2 ^ m) := by
  rw [Nat.le_div_iff_mul_le (Nat.mul_pos hD pm)];have h1 : D * 2 ^ m ≤ 2 ^ bl D * 2 ^ m := Nat.mul_le_mul_right _ (Nat.le_of_lt d2);have h2 := Nat.mul_le_mul_left (2 ^ (b - 1)) h1;have h3 := Nat.mul_le_mul_right (2 ^ p) n1;rw [← Nat.pow_add, ← Nat.pow_add] at h2;rw [← Nat.pow_add] at h3;rw [show b - 1 + (bl D + m) = bl N - 1 + p by omega] at h2;exact Nat.le_trans h2 h3
 have hi : N * 2 ^ p / (D * 2 ^ m) < 2 ^ (b + 1) := by
  rw [Nat.div_lt_iff_lt_mul (Nat.mul_pos hD pm)];have h1 : 2 ^ (bl D - 1) * 2 ^ m ≤ D * 2 ^ m := Nat.mul_le_mul_right _ d1;have h2 := Nat.mul_le_mul_left (2 ^ (b + 1)) h1;have h3 : N * 2 ^ p < 2 ^ bl N * 2 ^ p := (Nat.mul_lt_mul_right (two_pow_pos p)).2 n2;rw [← Nat.pow_add, ← Nat.pow_add] at h2;rw [← Nat.pow_add] at h3;rw [show b + 1 + (bl D - 1 + m) = bl N + p by omega] at h2;exact Nat.lt_of_lt_of_le h3 h2
 obtain ⟨q, hq⟩ : ∃ q, N * 2 ^ p / (D * 2 ^ m) = q := ⟨_, rfl⟩
 rw [hq] at lo hi ⊢;have h1 := (bJ q (b + 1)).2 hi;have h2 := (iJ q (b - 1)).2 lo;omega
def rsh (b N D : Nat) : Int := if b < bl (fl ((bl N : Int) - bl D - b) N D) then (bl N : Int) - bl D - b + 1 else (bl N : Int) - bl D - b
theorem aBB {b N D : Nat} (hN : 0 < N) (hD : 0 < D) (hb : 0 < b) : bl (fl (rsh b N D) N D) = b := by
 have h := aAb hN hD hb rfl;unfold rsh;split
 ·rw [show ((bl N : Int) - bl D - b + 1) = ((bl N : Int) - bl D - b) + ((1 : Nat) : Int) by omega, yM _ hD];omega
 ·omega
theorem aIc {b N D : Nat} {s : Int} (hN : 0 < N) (hD : 0 < D) (hb : 0 < b) (h : bl (fl s N D) = b) : rsh b N D = s := aEE hD hb (aBB hN hD hb) h
theorem aHi {b N D : Nat} {k : Int} (hN : 0 < N) (hD : 0 < D) (hb : 0 < b) (h : fl k N D = 1) : rsh b N D = k - b + 1 := by
 refine aIc hN hD hb ?_;have h1 := yM (N := N) (D := D) (k - b + 1) hD (b - 1);rw [show k - b + 1 + ((b - 1 : Nat) : Int) = k by omega, h, show bl 1 = 1 from dF (by decide)] at h1;omega
theorem aF0 {s : Int} {N D : Nat} (hs : 0 ≤ s) (hN : 0 < N) (_ : 0 < D) : N / 2 ^ s.toNat / D = fl s N D ∧ (N / 2 ^ s.toNat % D = 0 ∧ s ≤ tz N ↔ fr s N D = 0) := by
 unfold fl fr;rw [show (-s).toNat = 0 by omega, Nat.pow_zero, Nat.mul_one];obtain ⟨j, rfl⟩ : ∃ j : Nat, s = (j : Int) := ⟨s.toNat, by omega⟩
 rw [show (j : Int).toNat = j by omega];refine ⟨by rw [Nat.div_div_eq_div_mul, Nat.mul_comm D], ?_⟩;have ht := gH hN;have hj := two_pow_pos j;obtain ⟨z, hz⟩ : ∃ z, tz N = z := ⟨_, rfl⟩
 rw [hz] at ht ⊢;rw [Nat.mul_comm D, Nat.mod_mul];have key : (j ≤ z) ↔ N % 2 ^ j = 0 := by
  constructor
  ·intro h;rw [ht.1];obtain ⟨d, hd⟩ : ∃ d, z = j + d := ⟨z - j, by omega⟩
   rw [hd, Nat.pow_add, Nat.mul_assoc];exact Nat.mul_mod_right _ _
  ·intro h;rcases Nat.lt_or_ge z j with h1 | h1
   ·exfalso;obtain ⟨d, hd⟩ : ∃ d, j = z + (d + 1) := ⟨j - z - 1, by omega⟩
    obtain ⟨c, hc⟩ := Nat.dvd_of_mod_eq_zero h;rw [hd, Nat.pow_add, Nat.pow_succ, Nat.mul_assoc] at hc;have h2 : N / 2 ^ z = 2 ^ d * 2 * c := by
     conv => lhs; rw [hc]
     rw [Nat.mul_div_cancel_left _ (two_pow_pos _)]
    have h3 := ht.2;rw [h2, Nat.mul_right_comm, Nat.mul_mod_left] at h3;omega
   ·exact h1
 constructor
 ·intro ⟨h1, h2⟩;rw [key.1 (by omega), h1, Nat.mul_zero]
 ·intro h;have h2 : N % 2 ^ j = 0 := (by omega);have h3 : 2 ^ j * (N / 2 ^ j % D) = 0 := (by omega);refine ⟨?_, by have := key.2 h2; omega⟩;rcases Nat.mul_eq_zero.1 h3 with h4 | h4
  ·omega
  ·exact h4
theorem mJ (x : Rat) : (x.num : Rat) = x * (x.den : Rat) := by
 have h := Rat.num_divInt_den x;rw [Rat.divInt_eq_div, Rat.intCast_natCast] at h;have h0 : (x.den : Rat) ≠ 0 := by
  intro h1;exact x.den_nz (Rat.natCast_eq_zero_iff.1 h1)
 have h2 := Rat.div_mul_cancel (a := (x.num : Rat)) h0;rw [h] at h2;exact h2.symm
theorem rat_of' {q : Rat} {a : Int} {b : Nat} (hb : 0 < b) (hc : Nat.Coprime a.natAbs b) (h : q * (b : Rat) = (a : Rat)) : q.num = a ∧ q.den = b := by
 refine yL hb hc ?_;have h1 := mJ q;have h2 : ((a * q.den : Int) : Rat) = ((q.num * b : Int) : Rat) := by
  rw [Rat.intCast_mul, Rat.intCast_mul, Rat.intCast_natCast, Rat.intCast_natCast, h1, ← h];grind
 exact Rat.intCast_inj.1 h2
def pw (s : Int) : Rat := (2 : Rat) ^ s
theorem aId : (2 : Rat) ≠ 0 := by decide
theorem aIe (s : Int) : 0 < pw s := Rat.zpow_pos (by decide)
theorem aBC (s t : Int) : pw (s + t) = pw s * pw t := Rat.zpow_add aId s t
theorem lU (n : Nat) : pw n = ((2 ^ n : Nat) : Rat) := by
 unfold pw;rw [Rat.zpow_natCast, Rat.natCast_pow]; rfl
theorem aBD (s : Int) : pw s * pw (-s) = 1 := by
 rw [← aBC, show s + -s = 0 by omega]; exact Rat.zpow_zero 2
theorem pw_inv' (s : Int) : pw (-s) * pw s = 1 := by rw [Rat.mul_comm, aBD]
theorem aF1 (s : Int) : pw (-s) * ((2 ^ s.toNat : Nat) : Rat) = ((2 ^ (-s).toNat : Nat) : Rat) := by
 rw [← lU, ← lU, ← aBC];congr 1;omega
theorem nM {y : Rat} {A B : Nat} (hB : 0 < B) (h : y * (B : Rat) = (A : Rat)) : y.floor = ((A / B : Nat) : Int) ∧ (-y).floor = -((A / B + if A % B = 0 then 0 else 1 : Nat) : Int) ∧ (A % B = 0 → y = ((A / B : Nat) : Rat)) := by
 have hb : (0 : Rat) < (B : Rat) := Rat.natCast_pos.2 hB;have hd := Nat.div_add_mod A B;have hm := Nat.mod_lt A hB;have toR : ∀ a b : Int, a * B ≤ b → ((a : Rat)) * (B : Rat) ≤ (b : Rat) := by
  intro a b h1;have := Rat.intCast_le_intCast.2 h1
  rwa [Rat.intCast_mul, Rat.intCast_natCast] at this
 have le_iff : ∀ z : Int, (z : Rat) ≤ y ↔ z * B ≤ A := by
  intro z;constructor
  ·intro h1;have h2 := Rat.mul_le_mul_of_nonneg_right h1 (Rat.le_of_lt hb);rw [h, ← Rat.intCast_natCast, ← Rat.intCast_natCast, ← Rat.intCast_mul] at h2;exact Rat.intCast_le_intCast.1 h2
  ·intro h1;have h2 := Rat.intCast_le_intCast.2 h1;rw [Rat.intCast_mul, Rat.intCast_natCast, Rat.intCast_natCast, ← h] at h2;exact Rat.le_of_mul_le_mul_right h2 hb
 have ge_iff : ∀ z : Int, y ≤ (z : Rat) ↔ (A : Int) ≤ z * B := by
  intro z;constructor
  ·intro h1;have h2 := Rat.mul_le_mul_of_nonneg_right h1 (Rat.le_of_lt hb);rw [h, ← Rat.intCast_natCast, ← Rat.intCast_natCast, ← Rat.intCast_mul] at h2;exact Rat.intCast_le_intCast.1 h2
  ·intro h1;have h2 := Rat.intCast_le_intCast.2 h1;rw [Rat.intCast_mul, Rat.intCast_natCast, Rat.intCast_natCast, ← h] at h2;exact Rat.le_of_mul_le_mul_right h2 hb
 have key1 : ∀ q : Nat, A / B = q → ((q : Int) * B ≤ A ∧ (A : Int) < (q + 1) * B) := by
  intro q hq;rw [hq] at hd;have e1 : ((B * q : Nat) : Int) = (q : Int) * B := (by rw [Int.natCast_mul, Int.mul_comm]);rw [Int.add_mul, Int.one_mul];omega
 obtain ⟨q, hq⟩ : ∃ q, A / B = q := ⟨_, rfl⟩
 obtain ⟨k1, k2⟩ := key1 q hq;rw [hq] at hd ⊢;refine ⟨?_, ?_, ?_⟩
 ·apply Int.le_antisymm
  ·have h1 : y.floor < (q : Int) + 1 := by
    rw [Rat.floor_lt_iff];refine Rat.not_le.1 fun h2 => ?_;have := (le_iff _).1 h2;omega
   omega
  ·rw [Rat.le_floor_iff];exact (le_iff _).2 k1
 ·obtain ⟨z, hz⟩ : ∃ z : Nat, (q + if A % B = 0 then 0 else 1) = z := ⟨_, rfl⟩
  rw [hz];have z1 : (A : Int) ≤ (z : Int) * B ∧ ((z : Int) - 1) * B < A := by
   have e1 : ((B * q : Nat) : Int) = (q : Int) * B := (by rw [Int.natCast_mul, Int.mul_comm]);split at hz
   ·have : (z : Int) = q := (by omega);rw [this, Int.sub_mul, Int.one_mul]; omega
   ·have : (z : Int) = q + 1 := (by omega);rw [this, Int.add_mul, Int.one_mul, show (q : Int) + 1 - 1 = q by omega]; omega
  apply Int.le_antisymm
  ·have h1 : (-y).floor < -(z : Int) + 1 := by
    rw [Rat.floor_lt_iff];refine Rat.not_le.1 fun h2 => ?_;have h3 : y ≤ (((z : Int) - 1 : Int) : Rat) := by
     have e : ((-(z : Int) + 1 : Int) : Rat) = -(((z : Int) - 1 : Int) : Rat) := by
      rw [← Rat.intCast_neg]; congr 1; omega
     rw [e] at h2;grind
    have := (ge_iff _).1 h3;omega
   omega
  ·rw [Rat.le_floor_iff];have := (ge_iff _).2 z1.1;rw [Rat.intCast_neg];grind
 ·intro h0;have h1 : A = q * B := (by rw [h0] at hd; rw [Nat.mul_comm]; omega);rw [h1, Rat.natCast_mul] at h;have hb' : (B : Rat) ≠ 0 := (by intro h2; rw [h2] at hb; exact absurd hb (by decide));have h3 : y * (B : Rat) / (B : Rat) = (q : Rat) * (B : Rat) / (B : Rat) := by rw [h]
  rwa [Rat.mul_div_cancel hb', Rat.mul_div_cancel hb'] at h3
theorem xN {x : Rat} {N D : Nat} (hN : x.num = N) (hD : x.den = D) (s : Int) : x * pw (-s) * ((D * 2 ^ s.toNat : Nat) : Rat) = ((N * 2 ^ (-s).toNat : Nat) : Rat) := by
 have h1 := mJ x;rw [hN, hD, Rat.intCast_natCast] at h1;have h2 := aF1 s;rw [Rat.natCast_mul, Rat.natCast_mul, ← h2, h1];grind
def ulp (b : Nat) (x : Rat) : Int := rsh b x.num.natAbs x.den
def dn (b : Nat) (x : Rat) : Rat := if x = 0 then 0 else ((x * pw (-ulp b x)).floor : Rat) * pw (ulp b x)
def up (b : Nat) (x : Rat) : Rat := -dn b (-x)
theorem vY (b : Nat) : dn b 0 = 0 := by simp [dn]
theorem aC3 (b : Nat) : up b 0 = 0 := by simp [up, vY]
theorem vZ (b : Nat) (x : Rat) : ulp b (-x) = ulp b x := by unfold ulp; rw [Rat.neg_num, Rat.neg_den, Int.natAbs_neg]
theorem aEF (b : Nat) (x : Rat) : up b (-x) = -dn b x := by unfold up; rw [Rat.neg_neg]
theorem aIf (b : Nat) (x : Rat) : dn b (-x) = -up b x := by unfold up; rw [Rat.neg_neg]
theorem den_pos (x : Rat) : 0 < x.den := Nat.pos_of_ne_zero x.den_nz
theorem mK {x : Rat} (h : 0 < x) : 0 < x.num := by
 have h1 : 0 ≤ x.num := Rat.num_nonneg.2 (Rat.le_of_lt h);have h2 : x.num ≠ 0 := fun h3 => by rw [Rat.num_eq_zero] at h3; rw [h3] at h; exact absurd h (by decide)
 omega
theorem wB {x : Rat} (h : x < 0) : x.num < 0 := by
 have h1 : ¬ 0 ≤ x.num := fun h2 => Rat.not_le.2 h (Rat.num_nonneg.1 h2);omega
theorem oC {x : Rat} (h : 0 < x) : ∃ N : Nat, x.num = N ∧ 0 < N ∧ x.num.natAbs = N := ⟨x.num.toNat, by have := mK h; omega, by have := mK h; omega, by have := mK h; omega⟩
theorem aEG {b : Nat} {x : Rat} (h : 0 < x) : dn b x = ((fl (ulp b x) x.num.natAbs x.den : Nat) : Rat) * pw (ulp b x) := by
 obtain ⟨N, h1, h2, h3⟩ := oC h;have h4 := nM (Nat.mul_pos (den_pos x) (two_pow_pos _)) (xN h1 rfl (ulp b x));unfold dn;rw [if_neg (fun h0 => by rw [h0] at h; exact absurd h (by decide)), h4.1, h3, Rat.intCast_natCast];rfl
theorem aEH {b : Nat} {x : Rat} (h : 0 < x) : up b x = ((fl (ulp b x) x.num.natAbs x.den + (if fr (ulp b x) x.num.natAbs x.den = 0 then 0 else 1) : Nat) : Rat) * pw (ulp b x) := by
 obtain ⟨N, h1, h2, h3⟩ := oC h;have h4 := nM (Nat.mul_pos (den_pos x) (two_pow_pos _)) (xN h1 rfl (ulp b x));unfold up dn
 rw [if_neg (fun h0 => by have h5 : x = 0 := by grind
                          rw [h5] at h; exact absurd h (by decide)), vZ, Rat.neg_mul, h4.2.1, h3, Rat.intCast_neg, Rat.intCast_natCast, Rat.neg_mul, Rat.neg_neg]
 rfl
theorem aF2 {b : Nat} {x : Rat} (hx : 0 < x) (hb : 0 < b) : bl (fl (ulp b x) x.num.natAbs x.den) = b ∧ ((fl (ulp b x) x.num.natAbs x.den : Nat) : Rat) * pw (ulp b x) ≤ x ∧ x < ((fl (ulp b x) x.num.natAbs x.den + 1 : Nat) : Rat) * pw (ulp b x) := by
 obtain ⟨N, e1, e2, e3⟩ := oC hx;have h4 := nM (Nat.mul_pos (den_pos x) (two_pow_pos _)) (xN e1 rfl (ulp b x));have hp := aIe (ulp b x);refine ⟨by rw [e3]; exact aBB e2 (den_pos x) hb |> fun h => by unfold ulp; rw [e3]; exact h, ?_, ?_⟩
 ·have h5 := Rat.floor_le (x * pw (-ulp b x));rw [h4.1, Rat.intCast_natCast] at h5;have := Rat.mul_le_mul_of_nonneg_right h5 (Rat.le_of_lt hp);rw [Rat.mul_assoc, pw_inv', Rat.mul_one] at this;rw [e3]; exact this
 ·have h5 := Rat.lt_floor_add_one (x * pw (-ulp b x));rw [h4.1] at h5;have := Rat.mul_lt_mul_of_pos_right h5 hp;rw [Rat.mul_assoc, pw_inv', Rat.mul_one] at this;rw [e3];have e4 : ((((N * 2 ^ (-ulp b x).toNat / (x.den * 2 ^ (ulp b x).toNat) : Nat) : Int) + 1 : Int) : Rat) = ((fl (ulp b x) N x.den + 1 : Nat) : Rat) := by
   rw [← Rat.intCast_natCast]; rfl
  rw [e4] at this;exact this
structure Near (n : Nat) (x : Rat) : Prop where
 n1 : dn n x ≤ dn (n + 1) x
 n2 : dn (n + 1) x ≤ x
 n3 : x ≤ up (n + 1) x
 n4 : up (n + 1) x ≤ up n x
 n5 : dn n x = up n x → dn n x = x
 n6 : dn n x ≠ up n x → dn n x < x ∧ x < up n x ∧ dn n ((dn n x + up n x) * (1 / 2)) = dn n x ∧ up n ((dn n x + up n x) * (1 / 2)) = up n x ∧ dn n (dn n x) = dn n x ∧ up n (up n x) = up n x
def sn (x : Rat) : Int := if x < 0 then -1 else if x = 0 then 0 else 1
def rc (x y : Rat) : Int := if x < y then -1 else if y < x then 1 else 0
theorem aBe {x y : Rat} (h : x < y) : rc x y = -1 := if_pos h
theorem aDE {x y : Rat} (h : y < x) : rc x y = 1 := by unfold rc; rw [if_neg (by grind), if_pos h]
theorem aGX (x : Rat) : rc x x = 0 := by unfold rc; rw [if_neg (by grind), if_neg (by grind)]
theorem sW (x y : Rat) : (x < y ∧ rc x y = -1) ∨ (x = y ∧ rc x y = 0) ∨ (y < x ∧ rc x y = 1) := by
 rcases (show x < y ∨ x = y ∨ y < x by grind) with h | h | h
 ·exact Or.inl ⟨h, aBe h⟩
 ·subst h; exact Or.inr (Or.inl ⟨rfl, aGX x⟩)
 ·exact Or.inr (Or.inr ⟨h, aDE h⟩)
theorem bP (x : Rat) : (x < 0 ∧ sn x = -1) ∨ (x = 0 ∧ sn x = 0) ∨ (0 < x ∧ sn x = 1) := by
 unfold sn;rcases (show x < 0 ∨ x = 0 ∨ 0 < x by grind) with h | h | h
 ·exact Or.inl ⟨h, if_pos h⟩
 ·exact Or.inr (Or.inl ⟨h, by rw [if_neg (by grind), if_pos h]⟩)
 ·exact Or.inr (Or.inr ⟨h, by rw [if_neg (by grind), if_neg (by grind)]⟩)
theorem eU (x y : Rat) : rc x y ≤ 0 ↔ x ≤ y := by
 rcases sW x y with ⟨h, e⟩ | ⟨h, e⟩ | ⟨h, e⟩ <;> rw [e] <;> constructor <;> intro h2 <;> grind
theorem aBf (x y : Rat) : 0 ≤ rc x y ↔ y ≤ x := by
 rcases sW x y with ⟨h, e⟩ | ⟨h, e⟩ | ⟨h, e⟩ <;> rw [e] <;> constructor <;> intro h2 <;> grind
theorem aHj (x y : Rat) : rc y x = -rc x y := by
 rcases sW x y with ⟨h, e⟩ | ⟨h, e⟩ | ⟨h, e⟩ <;> rw [e]
 ·exact aDE h
 ·subst h; exact aGX x
 ·exact aBe h
theorem yN (x y : Rat) : sn (x * y) = sn x * sn y := by
 rcases bP x with ⟨h, e⟩ | ⟨h, e⟩ | ⟨h, e⟩ <;> rw [e] <;> rcases bP y with ⟨h2, e2⟩ | ⟨h2, e2⟩ | ⟨h2, e2⟩ <;> rw [e2]
 ·have := Rat.mul_pos (show 0 < -x by grind) (show 0 < -y by grind);rcases bP (x * y) with ⟨h3, e3⟩ | ⟨h3, e3⟩ | ⟨h3, e3⟩ <;> grind
 ·subst h2; rw [Rat.mul_zero]; rfl
 ·have := Rat.mul_pos (show 0 < -x by grind) h2;rcases bP (x * y) with ⟨h3, e3⟩ | ⟨h3, e3⟩ | ⟨h3, e3⟩ <;> grind
 ·subst h; rw [Rat.zero_mul]; rfl
 ·subst h; rw [Rat.zero_mul]; rfl
 ·subst h; rw [Rat.zero_mul]; rfl
 ·have := Rat.mul_pos h (show 0 < -y by grind);rcases bP (x * y) with ⟨h3, e3⟩ | ⟨h3, e3⟩ | ⟨h3, e3⟩ <;> grind
 ·subst h2; rw [Rat.mul_zero]; rfl
 ·have := Rat.mul_pos h h2;rcases bP (x * y) with ⟨h3, e3⟩ | ⟨h3, e3⟩ | ⟨h3, e3⟩ <;> grind
def aB (x y : Rat) : Rat := if x ≤ y then x else y
def aA (x y : Rat) : Rat := if y ≤ x then x else y
theorem iT (x y : Rat) : aB x y ≤ aA x y := by unfold aB aA; split <;> split <;> grind
theorem oZ (x : Rat) : sn x = x.num.sign := by
 rcases bP x with ⟨h, e⟩ | ⟨h, e⟩ | ⟨h, e⟩ <;> rw [e]
 ·exact (Int.sign_eq_neg_one_of_neg (wB h)).symm
 ·subst h; rfl
 ·exact (Int.sign_eq_one_of_pos (mK h)).symm
theorem bZ (x : Rat) : x.num < 0 ↔ x < 0 := by
 constructor
 ·intro h;rcases (show x < 0 ∨ 0 ≤ x by grind) with h2 | h2
  ·exact h2
  ·have := Rat.num_nonneg.2 h2; omega
 ·exact wB
theorem aIg (x y : Rat) : rc x y = if x.num * y.den < y.num * x.den then -1 else if y.num * x.den < x.num * y.den then 1 else 0 := by
 unfold rc;have h1 := Rat.lt_iff x y;have h2 := Rat.lt_iff y x;by_cases c1 : x < y
 ·rw [if_pos c1, if_pos (h1.1 c1)]
 ·rw [if_neg c1, if_neg (fun h => c1 (h1.2 h))];by_cases c2 : y < x
  ·rw [if_pos c2, if_pos (h2.1 c2)]
  ·rw [if_neg c2, if_neg (fun h => c2 (h2.2 h))]
theorem sZ {x y : Rat} (h : sn x = sn y) : rc x y = sn x * cmp (x.num.natAbs * y.den) (y.num.natAbs * x.den) := by
 rw [aIg];rcases bP x with ⟨h1, e⟩ | ⟨h1, e⟩ | ⟨h1, e⟩ <;> rw [e] at h ⊢ <;> rcases bP y with ⟨h2, e2⟩ | ⟨h2, e2⟩ | ⟨h2, e2⟩ <;> rw [e2] at h <;> try (exfalso; omega)
 ·obtain ⟨a, ha⟩ : ∃ a : Nat, x.num = -a := ⟨x.num.natAbs, by have := wB h1; omega⟩
  obtain ⟨b, hb⟩ : ∃ b : Nat, y.num = -b := ⟨y.num.natAbs, by have := wB h2; omega⟩
  have e1 : x.num.natAbs = a := (by omega);have e3 : y.num.natAbs = b := (by omega);rw [e1, e3, ha, hb, Int.neg_mul, Int.neg_mul, ← Int.natCast_mul, ← Int.natCast_mul];unfold cmp
  repeat' split
  all_goals omega
 ·subst h1 h2; rfl
 ·obtain ⟨a, ha⟩ : ∃ a : Nat, x.num = a := ⟨x.num.natAbs, by have := mK h1; omega⟩
  obtain ⟨b, hb⟩ : ∃ b : Nat, y.num = b := ⟨y.num.natAbs, by have := mK h2; omega⟩
  have e1 : x.num.natAbs = a := (by omega);have e3 : y.num.natAbs = b := (by omega);rw [e1, e3, ha, hb, ← Int.natCast_mul, ← Int.natCast_mul];unfold cmp
  repeat' split
  all_goals omega
theorem aEI {M N : Nat} (hM : 0 < M) (hN : 0 < N) : bl M + bl N - 1 ≤ bl (M * N) ∧ bl (M * N) ≤ bl M + bl N := by
 obtain ⟨m0, m1, m2⟩ := lG hM;obtain ⟨n0, n1, n2⟩ := lG hN;constructor
 ·have h1 := Nat.mul_le_mul m1 n1;rw [← Nat.pow_add] at h1;have := (iJ (M * N) (bl M - 1 + (bl N - 1))).2 h1;omega
 ·rw [bJ, Nat.pow_add];exact Nat.mul_lt_mul'' m2 n2
theorem aGY {M N : Nat} (h : bl M < bl N) : M < N := by
 have h1 := (bJ M (bl M)).1 (Nat.le_refl _);have h2 := (iJ N (bl M)).1 h;omega
theorem xE {a b c d : Nat} (ha : 0 < a) (hb : 0 < b) (hc : 0 < c) (hd : 0 < d) :
  (bl c + bl d + 1 < bl a + bl b → cmp (a * b) (c * d) = 1) ∧ (bl a + bl b + 1 < bl c + bl d → cmp (a * b) (c * d) = -1) := by
 have h1 := aEI ha hb;have h2 := aEI hc hd;exact ⟨fun h => iI (aGY (by omega)), fun h => gM (aGY (by omega))⟩
theorem oJ (x y : Rat) : aB x y ≤ x ∧ aB x y ≤ y := by unfold aB; split <;> grind
theorem mM (x y : Rat) : x ≤ aA x y ∧ y ≤ aA x y := by unfold aA; split <;> grind
theorem oK (x y : Rat) : aB x y = x ∨ aB x y = y := by unfold aB; split <;> simp
theorem rG (x y : Rat) : aA x y = x ∨ aA x y = y := by unfold aA; split <;> simp
theorem qV {a b c : Rat} (h : a ≤ b) (hc : 0 ≤ c) : a * c ≤ b * c := Rat.mul_le_mul_of_nonneg_right h hc
theorem aAc {a b c : Rat} (h : a ≤ b) (hc : 0 ≤ c) : c * a ≤ c * b := Rat.mul_le_mul_of_nonneg_left h hc
theorem mulr' {a b c : Rat} (h : a ≤ b) (hc : c ≤ 0) : b * c ≤ a * c := by
 have := qV h (c := -c) (by grind);grind
theorem mull' {a b c : Rat} (h : a ≤ b) (hc : c ≤ 0) : c * b ≤ c * a := by
 have := aAc h (c := -c) (by grind);grind
def aY (a b c d : Rat) : Rat := aB (aB (aB (a * c) (a * d)) (b * c)) (b * d)
def aZ (a b c d : Rat) : Rat := aA (aA (aA (a * c) (a * d)) (b * c)) (b * d)
theorem aAd (a b c d : Rat) : aY a b c d ≤ a * c ∧ aY a b c d ≤ a * d ∧ aY a b c d ≤ b * c ∧ aY a b c d ≤ b * d := by
 have h1 := oJ (a * c) (a * d);have h2 := oJ (aB (a * c) (a * d)) (b * c);have h3 := oJ (aB (aB (a * c) (a * d)) (b * c)) (b * d);unfold aY;grind
theorem aAe (a b c d : Rat) : a * c ≤ aZ a b c d ∧ a * d ≤ aZ a b c d ∧ b * c ≤ aZ a b c d ∧ b * d ≤ aZ a b c d := by
 have h1 := mM (a * c) (a * d);have h2 := mM (aA (a * c) (a * d)) (b * c);have h3 := mM (aA (aA (a * c) (a * d)) (b * c)) (b * d);unfold aZ;grind
theorem wC (a b c d : Rat) : aY a b c d = a * c ∨ aY a b c d = a * d ∨ aY a b c d = b * c ∨ aY a b c d = b * d := by
 have h1 := oK (a * c) (a * d);have h2 := oK (aB (a * c) (a * d)) (b * c);have h3 := oK (aB (aB (a * c) (a * d)) (b * c)) (b * d);unfold aY;grind
theorem wD (a b c d : Rat) : aZ a b c d = a * c ∨ aZ a b c d = a * d ∨ aZ a b c d = b * c ∨ aZ a b c d = b * d := by
 have h1 := rG (a * c) (a * d);have h2 := rG (aA (a * c) (a * d)) (b * c);have h3 := rG (aA (aA (a * c) (a * d)) (b * c)) (b * d);unfold aZ;grind
theorem rH {a b c d m : Rat} (h : m = a * c ∨ m = a * d ∨ m = b * c ∨ m = b * d) (h1 : m ≤ a * c) (h2 : m ≤ a * d) (h3 : m ≤ b * c) (h4 : m ≤ b * d) : m = aY a b c d := by
 have := aAd a b c d;have := wC a b c d;grind
theorem rJ {a b c d m : Rat} (h : m = a * c ∨ m = a * d ∨ m = b * c ∨ m = b * d) (h1 : a * c ≤ m) (h2 : a * d ≤ m) (h3 : b * c ≤ m) (h4 : b * d ≤ m) : m = aZ a b c d := by
 have := aAe a b c d;have := wD a b c d;grind
theorem aEJ {a b c d : Rat} (ha : a ≤ 0) (hb : 0 ≤ b) (hc : c ≤ 0) (hd : 0 ≤ d) : aB (a * d) (b * c) = aY a b c d ∧ aA (a * c) (b * d) = aZ a b c d := by
 have e1 := mulr' (show c ≤ 0 from hc) ha;have p1 : 0 ≤ a * c := by have := mull' hc ha; grind
 have p2 : a * d ≤ 0 := by have := qV ha hd; grind
 have p3 : b * c ≤ 0 := by have := aAc hc hb; grind
 have p4 : 0 ≤ b * d := by have := aAc hd hb; grind
 have h1 := oJ (a * d) (b * c);have h2 := oK (a * d) (b * c);have h3 := mM (a * c) (b * d);have h4 := rG (a * c) (b * d);exact ⟨rH (by grind) (by grind) (by grind) (by grind) (by grind), rJ (by grind) (by grind) (by grind) (by grind) (by grind)⟩
theorem xO {a b c d : Rat} (ha : 0 ≤ a) (hab : a ≤ b) (hcd : c ≤ d) : (if c < 0 then b else a) * c = aY a b c d ∧ (if d < 0 then a else b) * d = aZ a b c d := by
 have q1 := aAc hcd ha;have q2 := aAc hcd (show 0 ≤ b by grind);constructor
 ·split
  ·have := mulr' hab (show c ≤ 0 by grind);exact rH (by grind) (by grind) (by grind) (by grind) (by grind)
  ·have := qV hab (show 0 ≤ c by grind);exact rH (by grind) (by grind) (by grind) (by grind) (by grind)
 ·split
  ·have := mulr' hab (show d ≤ 0 by grind);exact rJ (by grind) (by grind) (by grind) (by grind) (by grind)
  ·have := qV hab (show 0 ≤ d by grind);exact rJ (by grind) (by grind) (by grind) (by grind) (by grind)
theorem aAJ (a b c d : Rat) : aY c d a b = aY a b c d ∧ aZ c d a b = aZ a b c d := by
 have h1 := aAd c d a b;have h2 := wC c d a b;have h3 := aAe c d a b;have h4 := wD c d a b;refine ⟨rH ?_ ?_ ?_ ?_ ?_, rJ ?_ ?_ ?_ ?_ ?_⟩ <;> grind
theorem aF3 (a b c d : Rat) : -aZ (-b) (-a) c d = aY a b c d ∧ -aY (-b) (-a) c d = aZ a b c d := by
 have h1 := aAd (-b) (-a) c d;have h2 := wC (-b) (-a) c d;have h3 := aAe (-b) (-a) c d;have h4 := wD (-b) (-a) c d;refine ⟨rH ?_ ?_ ?_ ?_ ?_, rJ ?_ ?_ ?_ ?_ ?_⟩ <;> grind
theorem aIh {a b : Rat} (h : a ≤ b) (hs : 0 < a ∨ b < 0) : b⁻¹ ≤ a⁻¹ := by
 rcases hs with h0 | h0
 ·have ha := Rat.inv_pos.2 h0;have hb := Rat.inv_pos.2 (show 0 < b by grind);have e1 := Rat.mul_inv_cancel a (by grind);have e2 := Rat.mul_inv_cancel b (by grind);have h1 := qV (qV h (Rat.le_of_lt ha)) (Rat.le_of_lt hb);have h2 : a * a⁻¹ * b⁻¹ = b⁻¹ := (by rw [e1, Rat.one_mul]);have h3 : b * a⁻¹ * b⁻¹ = a⁻¹ := by
   have : b * a⁻¹ * b⁻¹ = b * b⁻¹ * a⁻¹ := (by grind);rw [this, e2, Rat.one_mul]
  grind
 ·have ha := Rat.inv_pos.2 (show 0 < -a by grind);have hb := Rat.inv_pos.2 (show 0 < -b by grind);have e1 := Rat.mul_inv_cancel (-a) (by grind);have e2 := Rat.mul_inv_cancel (-b) (by grind);have h1 := qV (qV (show -b ≤ -a by grind) (Rat.le_of_lt ha)) (Rat.le_of_lt hb);have i1 : (-a)⁻¹ = -a⁻¹ := Rat.inv_eq_of_mul_eq_one (by have := Rat.mul_inv_cancel a (by grind); grind);have i2 : (-b)⁻¹ = -b⁻¹ := Rat.inv_eq_of_mul_eq_one (by have := Rat.mul_inv_cancel b (by grind); grind);have h2 : -a * (-a)⁻¹ * (-b)⁻¹ = (-b)⁻¹ := (by rw [e1, Rat.one_mul]);have h3 : -b * (-a)⁻¹ * (-b)⁻¹ = (-a)⁻¹ := by
   have : ∀ p q r : Rat, p * q * r = p * r * q := fun p q r => (by grind);rw [this, e2, Rat.one_mul]
  rw [i1, i2] at *
  grind
theorem pow_nonneg {x : Rat} (h : 0 ≤ x) (n : Nat) : 0 ≤ x ^ n := by
 induction n with
 | zero => rw [Rat.pow_zero]; decide
 | succ n ih => rw [Rat.pow_succ]; have := qV ih h; grind
theorem tC {x y : Rat} (h0 : 0 ≤ x) (h : x ≤ y) (n : Nat) : x ^ n ≤ y ^ n := by
 induction n with
 | zero => rw [Rat.pow_zero, Rat.pow_zero]; exact Rat.le_refl
 | succ n ih =>
   rw [Rat.pow_succ, Rat.pow_succ];have h1 := qV ih h0;have h2 := aAc h (pow_nonneg (show 0 ≤ y by grind) n);grind
theorem wF (x : Rat) (n : Nat) : (-x) ^ n = if n % 2 = 0 then x ^ n else -x ^ n := by
 induction n with
 | zero => simp [Rat.pow_zero]
 | succ n ih =>
   rw [Rat.pow_succ, Rat.pow_succ, ih];rcases Nat.mod_two_eq_zero_or_one n with h | h
   ·rw [if_pos h, if_neg (by omega)]; grind
   ·rw [if_neg (by omega), if_pos (by omega)]; grind
theorem uU {x y : Rat} (h : x ≤ y) {n : Nat} (hn : n % 2 = 1) : x ^ n ≤ y ^ n := by
 rcases (show 0 ≤ x ∨ x < 0 by grind) with h0 | h0
 ·exact tC h0 h n
 ·rcases (show 0 ≤ y ∨ y < 0 by grind) with h1 | h1
  ·have e := wF (-x) n;rw [if_neg (by omega), Rat.neg_neg] at e;have a := pow_nonneg (show 0 ≤ -x by grind) n;have b := pow_nonneg h1 n;grind
  ·have e := wF (-x) n;have e2 := wF (-y) n;rw [if_neg (by omega), Rat.neg_neg] at e e2;have := tC (show 0 ≤ -y by grind) (show -y ≤ -x by grind) n;grind
theorem pE (x : Rat) {n : Nat} (hn : n % 2 = 0) : x ^ n = (-x) ^ n := by rw [wF, if_pos hn]
def qlo (n : Nat) (a b : Rat) : Rat := if 0 < n ∧ aB a b ≤ 0 ∧ 0 ≤ aA a b then aB (aB (a ^ n) (b ^ n)) 0 else aB (a ^ n) (b ^ n)
def qhi (n : Nat) (a b : Rat) : Rat := if 0 < n ∧ aB a b ≤ 0 ∧ 0 ≤ aA a b then aA (aA (a ^ n) (b ^ n)) 0 else aA (a ^ n) (b ^ n)
theorem aAK (a b : Rat) : aB a b = aB b a := by unfold aB; split <;> split <;> grind
theorem uV (a b : Rat) : aA a b = aA b a := by unfold aA; split <;> split <;> grind
theorem kH {a b : Rat} (h : a ≤ b) : aB a b = a := if_pos h
theorem kI {a b : Rat} (h : a ≤ b) : aA a b = b := by unfold aA; split <;> grind
theorem zero_pow' {n : Nat} (h : 0 < n) : (0 : Rat) ^ n = 0 := by
 obtain ⟨m, rfl⟩ : ∃ m, n = m + 1 := ⟨n - 1, by omega⟩
 rw [Rat.pow_succ, Rat.mul_zero]
theorem uW {n : Nat} {a b : Rat} (h : a ≤ b) (hn : n = 0 ∨ n % 2 = 1 ∨ 0 ≤ a) : a ^ n = qlo n a b ∧ b ^ n = qhi n a b := by
 have hm : a ^ n ≤ b ^ n := by
  rcases hn with rfl | hn | hn
  ·rw [Rat.pow_zero, Rat.pow_zero]; exact Rat.le_refl
  ·exact uU h hn
  ·exact tC hn h n
 unfold qlo qhi;rw [kH h, kI h, kH hm, kI hm];split
 ·rename_i h1;obtain ⟨h1, h2, h3⟩ := h1;have e := zero_pow' h1;have g1 : a ^ n ≤ 0 := by
   rcases hn with rfl | hn | hn
   ·omega
   ·rw [← e]; exact uU h2 hn
   ·have : a = 0 := (by grind);rw [this, e]; exact Rat.le_refl
  have g2 : 0 ≤ b ^ n := pow_nonneg h3 n;rw [kH g1, uV, kI g2];exact ⟨rfl, rfl⟩
 ·exact ⟨rfl, rfl⟩
theorem aEK {n : Nat} {a b : Rat} (h : a ≤ b) (hn : n % 2 = 0) (hb : b < 0) : b ^ n = qlo n a b ∧ a ^ n = qhi n a b := by
 have hm : b ^ n ≤ a ^ n := by
  rw [pE a hn, pE b hn];exact tC (by grind) (by grind) n
 unfold qlo qhi;rw [kH h, kI h, if_neg (by grind), if_neg (by grind), aAK, uV, kH hm, kI hm];exact ⟨rfl, rfl⟩
theorem xG (x : Rat) {n : Nat} (hn : n % 2 = 0) : 0 ≤ x ^ n := by
 rcases (show 0 ≤ x ∨ x < 0 by grind) with h | h
 ·exact pow_nonneg h n
 ·rw [pE x hn]; exact pow_nonneg (by grind) n
theorem aEL {n : Nat} {a b : Rat} (hn0 : 0 < n) (hn : n % 2 = 0) (ha : a < 0) (hb : 0 ≤ b) : 0 = qlo n a b ∧ aA (a ^ n) (b ^ n) = qhi n a b := by
 have h : a ≤ b := by grind
 have p1 := xG a hn;have p2 := xG b hn;have p3 := oK (a ^ n) (b ^ n);have p4 := mM (a ^ n) (b ^ n);unfold qlo qhi;rw [kH h, kI h, if_pos ⟨hn0, by grind, hb⟩, if_pos ⟨hn0, by grind, hb⟩, aAK _ 0, kH (show 0 ≤ aB (a ^ n) (b ^ n) by rcases p3 with h | h <;> rw [h] <;> assumption), uV _ 0, kI (show 0 ≤ aA (a ^ n) (b ^ n) by grind)];exact ⟨rfl, rfl⟩
instance (l : List UInt8) : Decidable (bW l) := inferInstanceAs (Decidable (∀ c ∈ l, 48 ≤ c.toNat ∧ c.toNat ≤ 57))
instance (l : List UInt8) : Decidable (Row l) := inferInstanceAs (Decidable (bW l ∧ l ≠ [] ∧ (l.head? = some 48 → l = [48])))
def mkQ (neg : Bool) (n d : Nat) : Rat := mkRat (if neg then -(n : Int) else n) d
def aX (q : Rat) : List UInt8 := (if q.num < 0 then [45] else []) ++ dec q.num.natAbs ++ (if q.den = 1 then [] else 47 :: dec q.den)
def fU (c : UInt8) (l : List UInt8) : List UInt8 := l.takeWhile (· != c)
def aft (c : UInt8) (l : List UInt8) : List UInt8 := (l.dropWhile (· != c)).tail
def eX (l : List UInt8) : Bool := l.head? == some 45
def unsigned (l : List UInt8) : List UInt8 := if eX l then l.tail else l
def aK (neg : Bool) (f s : List UInt8) (two : Bool) : Int × Rat :=
 if ¬ Row f ∨ (f = [48] ∧ (neg = true ∨ two = true)) then (6, 0)
 else if two = true ∧ (¬ Row s ∨ s = [48] ∨ s = [49]) then (6, 0)
 else if 1000 < f.length ∨ 1000 < s.length then (3, 0)
 else if two = false then (0, mkQ neg (dv f) 1)
 else if Nat.gcd (dv f) (dv s) ≠ 1 then (6, 0) else (0, mkQ neg (dv f) (dv s))
def aH (l : List UInt8) : Int × Rat := aK (eX l) (fU 47 (unsigned l)) (aft 47 (unsigned l)) (decide (47 ∈ unsigned l))
theorem fV {neg : Bool} {n d : Nat} (hd : 0 < d) (hc : Nat.gcd n d = 1) : (mkQ neg n d).num = (if neg then -(n : Int) else n) ∧ (mkQ neg n d).den = d := by
 have hc' : Nat.Coprime (if neg then -(n : Int) else n).natAbs d := by
  cases neg <;> simpa using hc
 have h : mkQ neg n d = Rat.mk' (if neg then -(n : Int) else n) d (by omega) hc' := by rw [Rat.mk_eq_mkRat]; rfl
 rw [h];exact ⟨rfl, rfl⟩
theorem tF (c : UInt8) : ∀ l : List UInt8, (c ∉ l ∧ fU c l = l ∧ aft c l = []) ∨ (c ∈ l ∧ l = fU c l ++ c :: aft c l) := by
 intro l
 induction l with
 | nil => left; simp [fU, aft]
 | cons d r ih =>
   by_cases h : d = c
   ·subst h;right; simp [fU, aft]
   ·have hb : (d != c) = true := (by simpa using h);have e1 : fU c (d :: r) = d :: fU c r := (by simp [fU, hb]);have e2 : aft c (d :: r) = aft c r := (by simp [aft, hb]);rw [e1, e2];rcases ih with ⟨h1, h2, h3⟩ | ⟨h1, h2⟩
    ·left;refine ⟨?_, by rw [h2], h3⟩;intro h4;rcases List.mem_cons.1 h4 with h5 | h5
     ·exact h h5.symm
     ·exact h1 h5
    ·right;exact ⟨List.mem_cons_of_mem _ h1, by rw [List.cons_append, ← h2]⟩
theorem aC4 {c : UInt8} {f s : List UInt8} (h : c ∉ f) : fU c (f ++ c :: s) = f ∧ aft c (f ++ c :: s) = s := by
 induction f with
 | nil => simp [fU, aft]
 | cons d r ih =>
   have hd : (d != c) = true := by
    have : d ≠ c := fun h1 => h (h1 ▸ List.mem_cons_self ..);simpa using this
   have hr : c ∉ r := fun h1 => h (List.mem_cons_of_mem _ h1);have e1 : fU c (d :: r ++ c :: s) = d :: fU c (r ++ c :: s) := (by simp [fU, hd]);have e2 : aft c (d :: r ++ c :: s) = aft c (r ++ c :: s) := (by simp [aft, hd]);rw [e1, e2, (ih hr).1, (ih hr).2];exact ⟨rfl, rfl⟩
theorem tH {c : UInt8} {l : List UInt8} (h : c ∉ l) : fU c l = l ∧ aft c l = [] := by
 rcases tF c l with ⟨_, h2⟩ | ⟨h1, _⟩
 ·exact h2
 ·exact absurd h1 h
theorem bW.no {l : List UInt8} (h : bW l) {c : UInt8} (hc : c.toNat < 48) : c ∉ l := fun h1 => by
 have := h c h1; omega
theorem Row.pos {l : List UInt8} (h : Row l) (h0 : l ≠ [48]) : 0 < dv l := by
 rcases Nat.eq_zero_or_pos (dv l) with h1 | h1
 ·exfalso;have := aBx h;rw [h1, cZ (by decide)] at this;exact h0 this.symm
 ·exact h1
theorem kJ {l : List UInt8} (h : Row l) : (dec (dv l)) = l := aBx h
theorem aDF {l : List UInt8} {q : Rat} (h : aH l = (0, q)) : aX q = l := by
 unfold aH aK at h;obtain ⟨r, hr⟩ : ∃ r, unsigned l = r := ⟨_, rfl⟩
 obtain ⟨neg, hneg⟩ : ∃ neg, eX l = neg := ⟨_, rfl⟩
 rw [hr, hneg] at h;have hl : l = (if neg = true then [45] else []) ++ r := by
  unfold unsigned at hr;rw [hneg] at hr;cases neg
  ·simpa using hr
  ·simp at hr;unfold eX at hneg;cases l with
   | nil => simp at hneg
   | cons c t =>
     simp at hneg hr;rw [hneg, ← hr]; rfl
 have hfa := tF 47 r;obtain ⟨f, hf⟩ : ∃ f, fU 47 r = f := ⟨_, rfl⟩
 obtain ⟨s, hs⟩ : ∃ s, aft 47 r = s := ⟨_, rfl⟩
 rw [hf, hs] at h hfa;split at h
 ·simp at h
 rename_i c1;have rf : Row f := by
  rcases Classical.em (Row f) with h1 | h1
  ·exact h1
  ·exact absurd (Or.inl h1) c1
 split at h
 ·simp at h
 rename_i c2;split at h
 ·simp at h
 split at h
 ·rename_i c4;have h47 : 47 ∉ r := (by simpa using c4);rcases hfa with ⟨-, e1, e2⟩ | ⟨h1, -⟩
  ·have hq : mkQ neg (dv f) 1 = q := (by simpa using h);obtain ⟨p1, p2⟩ := fV (neg := neg) (n := dv f) (d := 1) (by decide) (by simp);rw [hq] at p1 p2;unfold aX;rw [p2, if_pos rfl, List.append_nil, hl, ← e1, p1];have hf0 : neg = true → 0 < dv f := fun hn => Row.pos rf (fun h0 => c1 (Or.inr ⟨h0, Or.inl hn⟩));cases neg
   ·rw [if_neg (by simp), if_neg (by simp)]; simp; exact kJ rf
   ·have := hf0 rfl;rw [if_pos (by simp; omega)]; simp; exact kJ rf
  ·exact absurd h1 h47
 ·rename_i c4;split at h
  ·simp at h
  rename_i c5;have h47 : 47 ∈ r := (by simpa using c4);rcases hfa with ⟨h1, -⟩ | ⟨-, e⟩
  ·exact absurd h47 h1
  have hq : mkQ neg (dv f) (dv s) = q := (by simpa using h);have two : decide (47 ∈ r) = true := (by simpa using h47);have c2' : Row s ∧ s ≠ [48] ∧ s ≠ [49] := by
   refine ⟨?_, ?_, ?_⟩
   ·rcases Classical.em (Row s) with h1 | h1
    ·exact h1
    ·exact absurd ⟨two, Or.inl h1⟩ c2
   ·intro h1; exact c2 ⟨two, Or.inr (Or.inl h1)⟩
   ·intro h1; exact c2 ⟨two, Or.inr (Or.inr h1)⟩
  have gc : Nat.gcd (dv f) (dv s) = 1 := (by omega);have ps : 0 < dv s := Row.pos c2'.1 c2'.2.1;have s1 : dv s ≠ 1 := by
   intro h1;have := kJ c2'.1;rw [h1] at this;exact c2'.2.2 (by rw [← this, cZ (by decide)]; rfl)
  obtain ⟨p1, p2⟩ := fV (neg := neg) ps gc;rw [hq] at p1 p2;unfold aX;have ff : f ≠ [48] := fun h0 => c1 (Or.inr ⟨h0, Or.inr two⟩);have pf := Row.pos rf ff;rw [p2, if_neg s1, kJ c2'.1, hl, e, p1];cases neg
  ·rw [if_neg (by simp), if_neg (by simp)]; simp; exact kJ rf
  ·rw [if_pos (by simp; omega)]; simp; exact kJ rf
def bE (n : Int) : Rat := (10 : Rat) ^ n
theorem aIi : (10 : Rat) ≠ 0 := by decide
theorem aBE (n : Int) : 0 < bE n := Rat.zpow_pos (by decide)
theorem aF4 (m n : Int) : bE (m + n) = bE m * bE n := Rat.zpow_add aIi m n
theorem aBF (n : Nat) : bE n = ((10 ^ n : Nat) : Rat) := by
 unfold bE;rw [Rat.zpow_natCast, Rat.natCast_pow]; rfl
theorem aEM : bE 0 = 1 := Rat.zpow_zero 10
theorem aF5 (n : Int) : bE n * bE (-n) = 1 := by rw [← aF4, show n + -n = 0 by omega]; exact aEM
theorem rM (n : Nat) : (bE n).num = ((10 ^ n : Nat) : Int) ∧ (bE n).den = 1 := by
 rw [aBF];exact ⟨Rat.num_natCast _, Rat.den_natCast _⟩
theorem rO (n : Nat) : (bE (-(n : Int))).num = 1 ∧ (bE (-(n : Int))).den = 10 ^ n := by
 have hp : 0 < 10 ^ n := Nat.pow_pos (by decide);refine rat_of' hp (by simp) ?_;rw [← aBF, Rat.mul_comm, aF5]; rfl
def pfx (c : UInt8) : Option Int :=
 if c = 102 then some (-15) else if c = 112 then some (-12) else if c = 110 then some (-9) else if c = 117 then some (-6) else if c = 109 then some (-3)
 else if c = 107 then some 3 else if c = 77 then some 6 else if c = 71 then some 9 else if c = 84 then some 12 else none
def kQ (l : List UInt8) : List UInt8 × Int :=
 match l.getLast? with
 | some c => match pfx c with
   | some p => (l.dropLast, p)
   | none => (l, 0)
 | none => (l, 0)
def mO (l : List UInt8) : Prop := bW l ∧ l ≠ []
instance (l : List UInt8) : Decidable (mO l) := inferInstanceAs (Decidable (bW l ∧ l ≠ []))
def sgQ (neg : Bool) (q : Rat) : Rat := if neg then -q else q
def kW (neg : Bool) (f b : List UInt8) (two : Bool) (p : Int) : Int × Rat :=
 if ¬ mO f ∨ (two = true ∧ ¬ mO b) then (6, 0)
 else if 400 < f.length + b.length then (3, 0)
 else (0, sgQ neg ((dv (f ++ b) : Nat) : Rat) * bE (p - b.length))
def tJ (l : List UInt8) : Int × Rat :=
 if 47 ∈ l then aH l
 else kW (eX l) (fU 46 (kQ (unsigned l)).1) (aft 46 (kQ (unsigned l)).1) (decide (46 ∈ (kQ (unsigned l)).1)) (kQ (unsigned l)).2
def kR (x : Rat) : Nat → Nat
 | 0 => 0
 | n + 1 => if bE (3 * (n : Int) - 15) ≤ x then n else kR x n
def letter (i : Nat) : List UInt8 := (([[102], [112], [110], [117], [109], [], [107], [77], [71], [84]] : List (List UInt8))[i]?).getD []
def yO (l : List UInt8) : List UInt8 := (l.reverse.dropWhile (· == 48)).reverse
def pF (U : Nat) : Option (List UInt8) :=
 if 400 < (dec (U / 1000000000000)).length + (yO (pd 12 (U % 1000000000000))).length then none
 else some (dec (U / 1000000000000) ++ if yO (pd 12 (U % 1000000000000)) = [] then [] else 46 :: yO (pd 12 (U % 1000000000000)))
def eZ (u : Rat) : Option (List UInt8) := if u.den = 1 then pF u.num.natAbs else none
def gK (q : Rat) : Rat := if q < 0 then -q else q
def rP (q : Rat) : Rat := gK q * bE (15 - 3 * (kR (gK q) 10 : Int)) * bE 12
def jF (q : Rat) : List UInt8 := if q < 0 then [45] else []
def tK (q : Rat) : List UInt8 :=
 if q = 0 then [48] else match eZ (rP q) with
 | some d => jF q ++ d ++ letter (kR (gK q) 10)
 | none => aX q
theorem fore_of' {c : UInt8} {f : List UInt8} (s : List UInt8) (h : c ∉ f) : fU c (f ++ c :: s) = f ∧ aft c (f ++ c :: s) = s := aC4 h
theorem aEN {l r : List UInt8} (h : bW l) (h0 : l ≠ []) : eX (l ++ r) = false ∧ unsigned (l ++ r) = l ++ r := by
 cases l with
 | nil => exact absurd rfl h0
 | cons c t =>
   have hc := h c (by simp);have e : eX (c :: t ++ r) = false := by
    have : c ≠ 45 := (by rintro rfl; revert hc; decide);simpa [eX] using this
   exact ⟨e, by unfold unsigned; rw [e]; rfl⟩
theorem aIj {q : Rat} {l r : List UInt8} (h : bW l) (h0 : l ≠ []) : eX (jF q ++ (l ++ r)) = decide (q < 0) ∧ unsigned (jF q ++ (l ++ r)) = l ++ r := by
 unfold jF;by_cases hq : q < 0
 ·rw [if_pos hq, decide_eq_true hq]; exact ⟨rfl, rfl⟩
 ·rw [if_neg hq, decide_eq_false hq, List.nil_append]; exact aEN h h0
theorem xP (q : Rat) : aX q = jF q ++ (dec q.num.natAbs ++ if q.den = 1 then [] else 47 :: dec q.den) := by
 unfold aX jF;by_cases h : q < 0
 ·rw [if_pos ((bZ q).2 h), if_pos h, List.append_assoc]
 ·rw [if_neg (fun h1 => h ((bZ q).1 h1)), if_neg h, List.append_assoc]
theorem aC5 : dec 1 = [49] := by rw [cZ (by decide)]; rfl
theorem tL : dec 0 = [48] := by rw [cZ (by decide)]; rfl
theorem nE {N : Nat} (h : dec N = [48]) : N = 0 := aCZ (h.trans tL.symm)
theorem aDG {N : Nat} (h : dec N = [49]) : N = 1 := aCZ (h.trans aC5.symm)
theorem aBG (q : Rat) : mkQ (decide (q < 0)) q.num.natAbs q.den = q := by
 unfold mkQ;have e : (if decide (q < 0) = true then -((q.num.natAbs : Nat) : Int) else ((q.num.natAbs : Nat) : Int)) = q.num := by
  by_cases h : q < 0
  ·have := (bZ q).2 h;rw [if_pos (decide_eq_true h)]; omega
  ·have : ¬ q.num < 0 := fun h1 => h ((bZ q).1 h1);rw [if_neg (by rw [decide_eq_false h]; decide)]; omega
 rw [e, Rat.mkRat_self]
def aAf (q : Rat) : Nat := max (dec q.num.natAbs).length (dec q.den).length
theorem aHk {q : Rat} (h : q < 0) : 0 < q.num.natAbs := by have := (bZ q).2 h; omega
theorem aBH {q : Rat} (h : q.num.natAbs = 0) : q.den = 1 := by
 have h1 := q.reduced;rw [h] at h1;simpa using h1
theorem aA4 (q : Rat) : aH (aX q) = if aAf q ≤ 1000 then (0, q) else (3, 0) := by
 have hN := zZ q.num.natAbs;have hD := zZ q.den;obtain ⟨e1, e2⟩ := aIj (q := q) (r := if q.den = 1 then [] else 47 :: dec q.den) hN.1 hN.2.1;have n47 : (47 : UInt8) ∉ dec q.num.natAbs := hN.1.no (by decide);unfold aH;rw [xP, e1, e2];have hneg : ∀ h : q < 0, dec q.num.natAbs ≠ [48] := fun h h1 => by have := nE h1; have := aHk h; omega
 have hlen1 : (dec 1).length = 1 := by rw [aC5]; rfl
 have hpos : 0 < (dec q.num.natAbs).length := List.length_pos_iff.2 hN.2.1;by_cases h1 : q.den = 1
 ·rw [if_pos h1, List.append_nil];obtain ⟨f1, f2⟩ := tH n47;rw [f1, f2, decide_eq_false n47];unfold aK;rw [if_neg (by
   rintro (h | ⟨h, h2 | h2⟩)
   ·exact h hN
   ·exact hneg (of_decide_eq_true h2) h
   ·simp at h2), if_neg (by simp)]
  unfold aAf;rw [h1, hlen1];by_cases hl : (dec q.num.natAbs).length ≤ 1000
  ·rw [if_neg (by simp; omega), if_pos rfl, if_pos (by omega), nL, show mkQ (decide (q < 0)) q.num.natAbs 1 = q from by rw [← h1]; exact aBG q]
  ·rw [if_pos (by left; omega), if_neg (by omega)]
 ·rw [if_neg h1];obtain ⟨f1, f2⟩ := fore_of' (dec q.den) n47;rw [f1, f2, decide_eq_true (show (47 : UInt8) ∈ dec q.num.natAbs ++ 47 :: dec q.den by simp)];unfold aK;rw [if_neg (by
   rintro (h | ⟨h, h2⟩)
   ·exact h hN
   ·exact h1 (aBH (nE h))), if_neg (by
   rintro ⟨-, h | h | h⟩
   ·exact h hD
   ·have := nE h; exact q.den_nz this
   ·exact h1 (aDG h))]
  unfold aAf;by_cases hl : (dec q.num.natAbs).length ≤ 1000 ∧ (dec q.den).length ≤ 1000
  ·rw [if_neg (by omega), if_neg (by simp), if_neg (by rw [nL, nL]; simp; exact q.reduced), if_pos (by omega), nL, nL, aBG]
  ·rw [if_pos (by omega), if_neg (by omega)]
theorem aHl (x : Rat) (n : Nat) (h : 0 < n) : kR x n < n := by
 induction n with
 | zero => omega
 | succ n ih =>
   unfold kR;split
   ·omega
   ·rcases Nat.eq_zero_or_pos n with h0 | h0
    ·subst h0; unfold kR; omega
    ·have := ih h0; omega
theorem yP {M b : Nat} (h : M < 10 ^ b) : (dec M).length ≤ max b 1 := by
 rw [fM];split
 ·omega
 ·have := (aI (b := 10) (by decide) M b).2 h; omega
theorem aF6 (b M : Nat) (h : M < 10 ^ b) (hb : 0 < b) : pd b M = List.replicate (b - (dec M).length) 48 ++ dec M := by
 induction b generalizing M with
 | zero => omega
 | succ b ih =>
   unfold pd;rcases Nat.lt_or_ge M 10 with h10 | h10
   ·rw [cZ h10, Nat.div_eq_of_lt h10, Nat.mod_eq_of_lt h10];rcases Nat.eq_zero_or_pos b with h0 | h0
    ·subst h0; rfl
    ·rw [ih 0 (Nat.pow_pos (by decide)) h0, tL];simp only [List.length_singleton];rw [show ([48] : List UInt8) = List.replicate 1 48 from rfl, List.replicate_append_replicate];congr 2;omega
   ·have hb0 : 0 < b := by
     rcases Nat.eq_zero_or_pos b with h0 | h0
     ·subst h0; rw [Nat.zero_add, Nat.pow_one] at h; omega
     ·exact h0
    rw [ih (M / 10) (Nat.div_lt_of_lt_mul (by rw [Nat.pow_succ] at h; omega)) hb0, jN h10];simp [List.append_assoc]
structure Beh (m : Rat) (b : Nat) : Prop where
 le : b ≤ 13
 no : ∀ j < b, (m * bE j).den ≠ 1
end Go.Proofs.YtajbfablmpmgbaaGreatDoor.Ma
namespace Go.Proofs.YtajbfablmpmgbaaGreatDoor.Ma
open Me
def szb (b : Nat) (q : Rat) : Nat := dg b q.num.natAbs + dg b q.den
theorem aHm (b : Nat) (q : Rat) : szb b (-q) = szb b q := by unfold szb; rw [Rat.neg_num, Rat.neg_den, Int.natAbs_neg]
theorem aHn {b : Nat} (hb : 1 < b) (q : Rat) : szb b q⁻¹ ≤ szb b q + 1 := by
 unfold szb;rw [Rat.num_inv, Rat.den_inv];by_cases h : q.num = 0
 ·have e1 : dg b 1 = 1 := dF hb;simp [h, aT, e1]
 ·rw [if_neg h, Int.natAbs_mul];have e : q.num.sign.natAbs = 1 := (by rw [Int.natAbs_sign, if_neg h]);rw [e, Nat.one_mul];simp only [Int.natAbs_natCast];omega
theorem bV {b : Nat} (hb : 1 < b) {M N : Nat} (h : M ≤ N) : dg b M ≤ dg b N := aU hb h
theorem aHo {b : Nat} (hb : 1 < b) (x y : Rat) : szb b (x * y) ≤ szb b x + szb b y := by
 obtain ⟨h1, h2⟩ := aC0 (x := x) (y := y) rfl rfl;unfold szb;rw [h1, h2, Int.natAbs_mul];have a1 := Int.natAbs_ediv_of_dvd (a := x.num) (b := ((Nat.gcd x.num.natAbs y.den : Nat) : Int)) (iN.2 (Nat.gcd_dvd_left _ _));have a2 := Int.natAbs_ediv_of_dvd (a := y.num) (b := ((Nat.gcd y.num.natAbs x.den : Nat) : Int)) (iN.2 (Nat.gcd_dvd_left _ _));rw [a1, a2];simp only [Int.natAbs_natCast];have b1 := cO hb (x.num.natAbs / Nat.gcd x.num.natAbs y.den) (y.num.natAbs / Nat.gcd y.num.natAbs x.den);have b2 := cO hb (x.den / Nat.gcd y.num.natAbs x.den) (y.den / Nat.gcd x.num.natAbs y.den);have c1 := bV hb (Nat.div_le_self x.num.natAbs (Nat.gcd x.num.natAbs y.den));have c2 := bV hb (Nat.div_le_self y.num.natAbs (Nat.gcd y.num.natAbs x.den));have c3 := bV hb (Nat.div_le_self x.den (Nat.gcd y.num.natAbs x.den));have c4 := bV hb (Nat.div_le_self y.den (Nat.gcd x.num.natAbs y.den));omega
theorem aHp {b : Nat} (hb : 1 < b) (x y : Rat) : szb b (x + y) ≤ 2 * (szb b x + szb b y) + 1 := by
 obtain ⟨h1, h2, -, -, h5, -⟩ := vX (x := x) (y := y) rfl rfl rfl rfl rfl;unfold szb;rw [h1, h2, Int.natAbs_ediv_of_dvd h5];simp only [Int.natAbs_natCast];generalize Nat.gcd x.den y.den = d;generalize hg : Nat.gcd (x.num * ((y.den / d : Nat) : Int) + y.num * ((x.den / d : Nat) : Int)).natAbs d = c;have a1 : (x.num * ((y.den / d : Nat) : Int) + y.num * ((x.den / d : Nat) : Int)).natAbs ≤ x.num.natAbs * (y.den / d) + y.num.natAbs * (x.den / d) := by
  have := Int.natAbs_add_le (x.num * ((y.den / d : Nat) : Int)) (y.num * ((x.den / d : Nat) : Int))
  rwa [Int.natAbs_mul, Int.natAbs_mul, Int.natAbs_natCast, Int.natAbs_natCast] at this
 have a2 := bV hb (Nat.le_trans (Nat.div_le_self _ c) a1);have a3 := jS hb (x.num.natAbs * (y.den / d)) (y.num.natAbs * (x.den / d));have a4 := cO hb x.num.natAbs (y.den / d);have a5 := cO hb y.num.natAbs (x.den / d);have a6 := bV hb (Nat.div_le_self x.den d);have a7 := bV hb (Nat.div_le_self y.den d);have a8 := cO hb (x.den / d) (y.den / c);have a9 := bV hb (Nat.div_le_self y.den c);omega
theorem aC6 {b : Nat} (hb : 1 < b) (N n : Nat) : dg b (N ^ n) ≤ n * dg b N + 1 := by
 induction n with
 | zero => rw [Nat.pow_zero, dF hb]; omega
 | succ n ih =>
   rcases Nat.eq_zero_or_pos N with h | h
   ·subst h; rw [Nat.zero_pow (by omega), aT]; omega
   ·rw [Nat.pow_succ];have := cO hb (N ^ n) N;rw [Nat.succ_mul]; omega
theorem aC7 (q : Rat) (n : Nat) : (q ^ n).num = q.num ^ n ∧ (q ^ n).den = q.den ^ n := ⟨Rat.num_pow q n, Rat.den_pow q n⟩
theorem aHq {b : Nat} (hb : 1 < b) (q : Rat) (n : Nat) : szb b (q ^ n) ≤ n * szb b q + 2 := by
 unfold szb;rw [(aC7 q n).1, (aC7 q n).2, Int.natAbs_pow, Nat.mul_add];have := aC6 hb q.num.natAbs n;have := aC6 hb q.den n;omega
theorem aHr {b : Nat} (hb : 1 < b) (z : Int) (h : z.natAbs < b) : szb b (z : Rat) ≤ 2 := by
 unfold szb;rw [Rat.num_intCast, Rat.den_intCast, dF hb];have := (aI hb z.natAbs 1).2 (by rwa [Nat.pow_one]);omega
def sz (q : Rat) : Nat := szb W64 q
theorem gP (q : Rat) : dg W64 q.num.natAbs ≤ sz q := Nat.le_add_right _ _
theorem fZ (q : Rat) : dg W64 q.den ≤ sz q := Nat.le_add_left _ _
theorem aN (q : Rat) : dg W64 q.num.natAbs + dg W64 q.den = sz q := rfl
theorem fA (q : Rat) : sz (-q) = sz q := aHm W64 q
theorem pG (q : Rat) : sz q⁻¹ ≤ sz q + 1 := aHn aD q
theorem gB (x y : Rat) : sz (x * y) ≤ sz x + sz y := aHo aD x y
theorem uX (x y : Rat) : sz (x + y) ≤ 2 * (sz x + sz y) + 1 := aHp aD x y
theorem yQ (x y : Rat) : sz (x - y) ≤ 2 * (sz x + sz y) + 1 := by rw [Rat.sub_eq_add_neg, ← fA y]; exact uX x (-y)
theorem uY (q : Rat) (n : Nat) : sz (q ^ n) ≤ n * sz q + 2 := aHq aD q n
theorem rQ (z : Int) (h : z.natAbs < W64) : sz (z : Rat) ≤ 2 := aHr aD z h
theorem aBI (N : Nat) : dg W64 N ≤ (dec N).length := by
 rw [fM];split
 ·rename_i h; subst h; rw [aT]; omega
 ·rw [aI aD];have h1 := aS (b := 10) (by decide) N;exact Nat.lt_of_lt_of_le h1 (Nat.pow_le_pow_left (by decide) _)
theorem aIk (q : Rat) : sz q ≤ 2 * aAf q := by
 have h1 := aBI q.num.natAbs;have h2 := aBI q.den;have h3 := aN q;unfold aAf; omega
theorem nN {B k : Nat} (h : B ≤ W64) : dg W64 (B ^ k) ≤ k + 1 := by
 rw [aI aD, Nat.pow_succ];have h1 : B ^ k ≤ W64 ^ k := Nat.pow_le_pow_left h k;have h2 : 0 < W64 ^ k := Nat.pow_pos (by decide);have : W64 ^ k * 1 < W64 ^ k * W64 := Nat.mul_lt_mul_of_pos_left (by decide) h2;omega
theorem uZ (n : Int) : sz (bE n) ≤ n.natAbs + 2 := by
 have h1 := aN (bE n);rw [← h1];rcases Int.le_total 0 n with h | h
 ·obtain ⟨k, rfl⟩ := Int.eq_ofNat_of_zero_le h;obtain ⟨e1, e2⟩ := rM k;rw [e1, e2, dF aD];simp only [Int.natAbs_natCast];have := nN (B := 10) (k := k) (by decide);omega
 ·obtain ⟨k, hk⟩ := Int.eq_ofNat_of_zero_le (show 0 ≤ -n by omega);have hn : n = -(k : Int) := (by omega);subst hn;obtain ⟨e1, e2⟩ := rO k;rw [e1, e2];have := nN (B := 10) (k := k) (by decide);have h2 : dg W64 (1 : Int).natAbs = 1 := dF aD;rw [h2];omega
theorem aBJ (n : Nat) : (pw (-(n : Int))).num = 1 ∧ (pw (-(n : Int))).den = 2 ^ n := by
 refine rat_of' (Nat.pow_pos (by decide)) (by simp) ?_;rw [← lU, Rat.mul_comm, aBD]; rfl
theorem aGZ (n : Int) : sz (pw n) ≤ n.natAbs + 2 := by
 rw [← aN (pw n)];rcases Int.le_total 0 n with h | h
 ·obtain ⟨k, rfl⟩ := Int.eq_ofNat_of_zero_le h;rw [lU, Rat.num_natCast, Rat.den_natCast, dF aD];simp only [Int.natAbs_natCast];have := nN (B := 2) (k := k) (by decide);omega
 ·obtain ⟨k, hk⟩ := Int.eq_ofNat_of_zero_le (show 0 ≤ -n by omega);have hn : n = -(k : Int) := (by omega);subst hn;obtain ⟨e1, e2⟩ := aBJ k;rw [e1, e2];have := nN (B := 2) (k := k) (by decide);have h2 : dg W64 (1 : Int).natAbs = 1 := dF aD;rw [h2];omega
theorem yR (n : Nat) : sz ((n : Nat) : Rat) = dg W64 n + 1 := by
 rw [← aN, Rat.num_natCast, Rat.den_natCast, dF aD, Int.natAbs_natCast]
theorem aEO {l : List UInt8} {q : Rat} (h : aH l = (0, q)) : aAf q ≤ 1000 := by
 have h1 := aDF h;rw [← h1, aA4] at h;split at h
 ·assumption
 ·simp at h
theorem aF7 {l : List UInt8} {q : Rat} (h : aH l = (0, q)) : sz q ≤ 2000 := by
 have := aEO h;have := aIk q;omega
theorem aF8 (l : List UInt8) : (aH l).1 = 0 ∨ (aH l).2 = 0 := by
 unfold aH aK;split
 ·exact .inr rfl
 split
 ·exact .inr rfl
 split
 ·exact .inr rfl
 split
 ·exact .inl rfl
 split
 ·exact .inr rfl
 ·exact .inl rfl
theorem jO : sz 0 ≤ 2 := rQ 0 (by decide)
theorem parse_sz' (l : List UInt8) : sz (aH l).2 ≤ 2000 := by
 rcases aF8 l with h | h
 ·exact aF7 (l := l) (by rw [← h])
 ·rw [h]; have := jO; omega
theorem aIl {c : UInt8} {p : Int} (h : pfx c = some p) : p.natAbs ≤ 15 := by
 unfold pfx at h
 repeat' split at h
 all_goals first | (cases h; decide) | cases h
theorem aHs (l : List UInt8) : (kQ l).2.natAbs ≤ 15 := by
 unfold kQ;split
 ·split
  ·rename_i h; exact aIl h
  ·exact Nat.zero_le _
 ·exact Nat.zero_le _
theorem aDH {l : List UInt8} (h : bW l) {k : Nat} (hk : l.length ≤ k) : dg W64 (dv l) ≤ k := by
 rw [aI aD];have h6 := vW h;have h7 : (10 : Nat) ^ l.length ≤ 10 ^ k := Nat.pow_le_pow_right (by decide) hk;have h8 : (10 : Nat) ^ k ≤ W64 ^ k := Nat.pow_le_pow_left (by decide) k;omega
theorem jP (N : Nat) : bl N ≤ 64 * dg W64 N := by
 have h := jE 64 N (by decide);exact h
theorem aG0 (N : Nat) : dg W64 N ≤ bl N := by
 rw [aI aD];have h1 := aS (b := 2) (by decide) N;exact Nat.lt_of_lt_of_le h1 (Nat.pow_le_pow_left (by decide) _)
theorem aIm (b : Nat) (x : Rat) : (ulp b x).natAbs ≤ 64 * sz x + b + 1 := by
 have h1 := jP x.num.natAbs;have h2 := jP x.den;have h3 := aN x;unfold ulp rsh;split <;> omega
theorem vB {b : Nat} {x : Rat} (hb : 0 < b) (hx : 0 < x) : sz (dn b x) ≤ 64 * sz x + 2 * b + 6 ∧ sz (up b x) ≤ 64 * sz x + 2 * b + 6 := by
 have h1 := (aF2 hx hb).1;have h2 := aIm b x;have h3 := aGZ (ulp b x);rw [aEG hx, aEH hx];generalize fl (ulp b x) x.num.natAbs x.den = k at *
 have h4 := aG0 k;have h5 : dg W64 (k + 1) ≤ b + 1 := by
  have := jS aD k 1;rw [dF aD] at this;omega
 constructor
 ·have h6 := gB ((k : Nat) : Rat) (pw (ulp b x));have h7 := yR k;omega
 ·split
  ·have h6 := gB ((k : Nat) : Rat) (pw (ulp b x));have h7 := yR k;rw [Nat.add_zero];omega
  ·have h6 := gB ((k + 1 : Nat) : Rat) (pw (ulp b x));have h7 := yR (k + 1);omega
theorem tO {b : Nat} (x : Rat) (hb : 0 < b) : sz (dn b x) ≤ 64 * sz x + 2 * b + 6 ∧ sz (up b x) ≤ 64 * sz x + 2 * b + 6 := by
 rcases (show x < 0 ∨ x = 0 ∨ 0 < x by grind) with h | h | h
 ·have := vB hb (show 0 < -x by grind);rw [aIf, aEF, fA, fA, fA] at this;exact ⟨this.2, this.1⟩
 ·subst h;rw [vY, aC3];have := jO;constructor <;> omega
 ·exact vB hb h
end Go.Proofs.YtajbfablmpmgbaaGreatDoor.Ma
namespace Go.Proofs.YtajbfablmpmgbaaGreatDoor.Ma
theorem three {b : Nat} {ds : List Nat} {k : Nat} (h : ds.length = k + 3) : vl b (ds.drop k) = ds[k]'(by omega) + b * (ds[k + 1]'(by omega) + b * ds[k + 2]'(by omega)) := by
 rw [dQ b (show k < ds.length by omega), sS (n := k + 1) (by omega)]
theorem guess_parts' {b h : Nat} (hb : b = 18446744073709551616) (hh : h = 9223372036854775808) {k : Nat} {ys ps : List Nat} (ly : ys.length = k + 2) (lp : ps.length = k + 3) (hy : ∀ d ∈ ys, d < b) (hp : ∀ d ∈ ps, d < b) (hP : vl b ps < vl b ys * b) (hn : b ^ (k + 2) ≤ 2 * vl b ys) : ∃ v y2 pn pm p2 : Nat, ys[k + 1]? = some v ∧ ys[k]? = some y2 ∧ ps[k + 2]? = some pn ∧ ps[k + 1]? = some pm ∧ ps[k]? = some p2 ∧ v < b ∧ y2 < b ∧ pn < b ∧ pm < b ∧ p2 < b ∧ h ≤ v ∧ (v ≤ pn → vl b ps / vl b ys ≤ (b - 1) ∧ (b - 1) ≤ vl b ps / vl b ys + 1) ∧
   (pn < v → ∀ g, g = ((pn * b + pm) * b + p2) / (v * b + y2) → vl b ps / vl b ys ≤ g ∧ g ≤ vl b ps / vl b ys + 1) := by
 have hb1 : 1 < b := by omega
 have hbh : b = 2 * h := by omega
 have m0 := hy _ (List.getElem_mem (show k < ys.length by omega));have m1 := hy _ (List.getElem_mem (show k + 1 < ys.length by omega));have q0 := hp _ (List.getElem_mem (show k < ps.length by omega));have q1 := hp _ (List.getElem_mem (show k + 1 < ps.length by omega));have q2 := hp _ (List.getElem_mem (show k + 2 < ps.length by omega));have eY := dE b k ys (by omega);have eP := dE b k ps (by omega);have lY := dW (aP (n := k) hy);have lP := dW (aP (n := k) hp);rw [List.length_take, Nat.min_eq_left (by omega)] at lY lP;rw [sS ly] at eY;rw [three lp] at eP;refine ⟨_, _, _, _, _, List.getElem?_eq_getElem (by omega), List.getElem?_eq_getElem (by omega), List.getElem?_eq_getElem (by omega), List.getElem?_eq_getElem (by omega), List.getElem?_eq_getElem (by omega), m1, m0, q2, q1, q0, ?_⟩;generalize ys[k] = y2 at *
 generalize ys[k + 1] = v at *
 generalize ps[k] = p2 at *
 generalize ps[k + 1] = pm at *
 generalize ps[k + 2] = pn at *
 generalize vl b (ys.take k) = yl at *
 generalize vl b (ps.take k) = pl at *
 generalize vl b ys = Y at *
 generalize vl b ps = P at *
 have hB : 0 < b ^ k := Nat.pow_pos (by omega);rw [Nat.pow_add] at hn;generalize b ^ k = B at *
 have eY' : Y = (v * b + y2) * B + yl := by rw [eY]; grind
 have eP' : P = ((pn * b + pm) * b + p2) * B + pl := by rw [eP]; grind
 have hv : h ≤ v := by
  rcases Nat.lt_or_ge v h with h1 | h1
  ·exfalso;have a1 : 2 * (v + 1) ≤ b := (by omega);have a2 : (v * b + y2) * B + yl < (v + 1) * b * B := by
    have : (v + 1) * b * B = (v * b + b) * B := (by grind);have a3 : (v * b + y2 + 1) * B ≤ (v * b + b) * B := Nat.mul_le_mul_right _ (by omega);rw [Nat.add_mul _ 1, Nat.one_mul] at a3;omega
   have a3 : 2 * (v + 1) * (b * B) ≤ b * (b * B) := Nat.mul_le_mul_right _ a1;have a4 : B * b ^ 2 = b * (b * B) := (by grind);have a5 : 2 * (v + 1) * (b * B) = 2 * ((v + 1) * b * B) := (by grind);omega
  ·exact h1
 refine ⟨hv, fun hpn => ?_, fun hpn g hg => ?_⟩
 ·have key := aEv (P := P) (v := v) (B := b * B) (y := y2 * B + yl) (by rw [← hh]; exact hv) (by
   have a3 : (y2 + 1) * B ≤ b * B := Nat.mul_le_mul_right _ (by omega);rw [Nat.add_mul, Nat.one_mul] at a3;omega) (by rw [← hb, show v * (b * B) + (y2 * B + yl) = Y by rw [eY']; grind]; exact hP) (by
   rw [← hb];have a1 : v * (b * B * b) ≤ pn * (b * B * b) := Nat.mul_le_mul_right _ hpn;have a2 : P = pn * (b * B * b) + (pm * b * B + p2 * B + pl) := (by rw [eP']; grind);omega)
  rw [show v * (b * B) + (y2 * B + yl) = Y by rw [eY']; grind, show (18446744073709551615 : Nat) = b - 1 by omega] at key;exact key
 ·rw [eY', eP', hg];refine aEu ?_ lP lY ?_
  ·rw [← hb, ← hh];have := Nat.mul_le_mul_right b hv;omega
  ·rw [← hb];have I := Gw.init (pn := pn) (pm := pm) (v := v) (y2 := y2) (p2 := p2) hpn (by rw [← hb]; exact m1) (by rw [← hb]; exact q1) (by rw [← hb]; exact q0);rw [← hb] at I;have i1 := I.ge;have i2 := I.gl;rw [← hb] at i1 i2;exact Nat.lt_of_le_of_lt i1 i2
theorem aCB {k : Nat} {ys ps : List Nat} (ly : ys.length = k + 2) (lp : ps.length = k + 3) (hy : ∀ d ∈ ys, d < 18446744073709551616) (hp : ∀ d ∈ ps, d < 18446744073709551616) (hP : vl 18446744073709551616 ps < vl 18446744073709551616 ys * 18446744073709551616) (hn : 18446744073709551616 ^ (k + 2) ≤ 2 * vl 18446744073709551616 ys) : ∃ v y2 pn pm p2 : Nat, ys[k + 1]? = some v ∧ ys[k]? = some y2 ∧ ps[k + 2]? = some pn ∧ ps[k + 1]? = some pm ∧ ps[k]? = some p2 ∧ v < 18446744073709551616 ∧ y2 < 18446744073709551616 ∧ pn < 18446744073709551616 ∧ pm < 18446744073709551616 ∧ p2 < 18446744073709551616 ∧ 9223372036854775808 ≤ v ∧ (v ≤ pn → vl 18446744073709551616 ps / vl 18446744073709551616 ys ≤ 18446744073709551615 ∧ 18446744073709551615 ≤ vl 18446744073709551616 ps / vl 18446744073709551616 ys + 1) ∧ (pn < v → ∀ g, g = ((pn * 18446744073709551616 + pm) * 18446744073709551616 + p2) / (v * 18446744073709551616 + y2) → vl 18446744073709551616 ps / vl 18446744073709551616 ys ≤ g ∧ g ≤ vl 18446744073709551616 ps / vl 18446744073709551616 ys + 1) :=
 guess_parts' rfl rfl ly lp hy hp hP hn
theorem aCC {cs o : List Nat} {i n : Nat} (lo : o.length = n) (h : i + n ≤ cs.length) : (cs.take i ++ o ++ cs.drop (i + n)).take i = cs.take i ∧ (cs.take i ++ o ++ cs.drop (i + n)).drop (i + n) = cs.drop (i + n) ∧ ((cs.take i ++ o ++ cs.drop (i + n)).drop i).take n = o := by
 have lt : (cs.take i).length = i := by rw [List.length_take]; omega
 refine ⟨?_, ?_, ?_⟩
 ·rw [List.append_assoc, List.take_append_of_le_length (by omega), List.take_of_length_le (by omega)]
 ·rw [List.drop_append_of_le_length (by rw [List.length_append]; omega), List.drop_of_length_le (by rw [List.length_append]; omega), List.nil_append]
 ·rw [List.append_assoc, List.drop_append_of_le_length (by omega), List.drop_of_length_le (by omega), List.nil_append, List.take_append_of_le_length (by omega), List.take_of_length_le (by omega)]
theorem rR {cs o : List Nat} {i n K : Nat} (lo : o.length = n) (lc : cs.length = K) (h : i + n + 1 ≤ K) (hz : cs.drop (i + 1 + n) = List.replicate (K - (i + 1 + n)) 0) :
  (cs.take i ++ o ++ cs.drop (i + n)).set (i + n) 0 = cs.take i ++ o ++ List.replicate (K - (i + n)) 0 := by
 have lt : (cs.take i).length = i := by rw [List.length_take]; omega
 rw [List.set_append_right _ _ (by rw [List.length_append]; omega), List.length_append, lt, lo, Nat.sub_self];congr 1;rw [List.drop_eq_getElem_cons (by omega), List.set_cons_zero, show i + n + 1 = i + 1 + n by omega, hz, show K - (i + n) = K - (i + 1 + n) + 1 by omega, List.replicate_succ]
theorem aAL {b : Nat} {cs : List Nat} {i n K : Nat} (lc : cs.length = K) (h : i + n + 1 ≤ K) (hz : cs.drop (i + 1 + n) = List.replicate (K - (i + 1 + n)) 0) :
  vl b cs = vl b (cs.take i) + b ^ i * vl b ((cs.drop i).take (n + 1)) := by
 rw [dE b i cs (by omega)];congr 2;rw [dE b (n + 1) (cs.drop i) (by rw [List.length_drop]; omega), List.drop_drop, show i + (n + 1) = i + 1 + n by omega, hz, jR, Nat.mul_zero, Nat.add_zero]
theorem aHt {b : Nat} {cs : List Nat} {i n K M : Nat} (hb : 2 ≤ b) (lc : cs.length = K) (h : i + n + 1 ≤ K) (hz : cs.drop (i + 1 + n) = List.replicate (K - (i + 1 + n)) 0)
  (hlt : vl b cs < M * b ^ (i + 1)) : vl b ((cs.drop i).take (n + 1)) < M * b := by
 rw [aAL lc h hz] at hlt;have hp : 0 < b ^ i := Nat.pow_pos (by omega);generalize vl b ((cs.drop i).take (n + 1)) = P at *
 generalize vl b (cs.take i) = L at *
 have e : M * b ^ (i + 1) = b ^ i * (M * b) := by rw [Nat.pow_succ]; grind
 rw [e] at hlt;exact Nat.lt_of_mul_lt_mul_left (a := b ^ i) (by omega)
theorem aF9 {b : Nat} {cs : List Nat} {i n K : Nat} (lc : cs.length = K) (h : i + n + 1 ≤ K) :
  vl b ((cs.drop i).take (n + 1)) = vl b ((cs.drop i).take n) + b ^ n * cs[i + n]'(by omega) := by
 have hl : n < (cs.drop i).length := by rw [List.length_drop]; omega
 rw [fP b hl];congr 2;rw [List.getElem_drop]
theorem aAM {b : Nat} {cs o qs : List Nat} {i n K M X q : Nat} (hb : 2 ≤ b) (hM : 0 < M) (lc : cs.length = K) (h : i + n + 1 ≤ K) (hz : cs.drop (i + 1 + n) = List.replicate (K - (i + 1 + n)) 0) (hcs : ∀ d ∈ cs, d < b) (hX : vl b (qs.drop (i + 1)) * b ^ (i + 1) * M + vl b cs = X) (hqi : i < qs.length) (lo : o.length = n) (ho : ∀ d ∈ o, d < b) (hv : vl b o = vl b ((cs.drop i).take (n + 1)) % M) (hq : vl b ((cs.drop i).take (n + 1)) / M = q) : (cs.take i ++ o ++ List.replicate (K - (i + n)) 0).length = K ∧ (cs.take i ++ o ++ List.replicate (K - (i + n)) 0).drop (i + n) = List.replicate (K - (i + n)) 0 ∧ (∀ d ∈ cs.take i ++ o ++ List.replicate (K - (i + n)) 0, d < b) ∧ vl b (cs.take i ++ o ++ List.replicate (K - (i + n)) 0) < M * b ^ i ∧
  vl b ((qs.set i q).drop i) * b ^ i * M + vl b (cs.take i ++ o ++ List.replicate (K - (i + n)) 0) = X := by
 have lt : (cs.take i).length = i := by rw [List.length_take]; omega
 have ev : vl b (cs.take i ++ o ++ List.replicate (K - (i + n)) 0) = vl b (cs.take i) + b ^ i * vl b o := by rw [rE, gW, lt]
 have hl := dW (aP (n := i) hcs);rw [lt] at hl;have hm := Nat.mod_lt (vl b ((cs.drop i).take (n + 1))) hM;have hd := Nat.div_add_mod (vl b ((cs.drop i).take (n + 1))) M;have ep := aAL (b := b) lc h hz;rw [hq, ← hv] at hd;rw [← hv] at hm;refine ⟨by rw [List.length_append, List.length_append, List.length_replicate]; omega, ?_, ?_, ?_, ?_⟩
 ·rw [List.drop_append_of_le_length (by rw [List.length_append]; omega), List.drop_of_length_le (by rw [List.length_append]; omega), List.nil_append]
 ·exact vV (by omega) (jM (aP hcs) ho)
 ·rw [ev];have h1 : b ^ i * (vl b o + 1) ≤ b ^ i * M := Nat.mul_le_mul_left _ hm;rw [Nat.mul_add, Nat.mul_one] at h1;rw [Nat.mul_comm M];omega
 ·rw [ev, dQ b (ds := qs.set i q) (by rw [List.length_set]; exact hqi), List.getElem_set_self, drop_set (by omega), ← hX, ep, ← hd, Nat.pow_succ];grind
theorem aIn {t s b : Nat} (h : b < 2 ^ s) : t * 2 ^ s ||| b = t * 2 ^ s + b := by
 rw [Nat.mul_comm, ← Nat.two_pow_add_eq_or_of_lt h]
theorem top_word' {W : Nat} (hW : W = 2 ^ 64) {k s t a : Nat} {ds : List Nat} (l : ds.length = k + 2) (hd : ∀ d ∈ ds, d < W) (hs : s ≤ 64) (ht : ds[k + 1]? = some t) (ha : ds[k]? = some a) (hts : t * 2 ^ s < W) : vl W ds / (W ^ k * 2 ^ (64 - s)) = t * 2 ^ s + a / 2 ^ (64 - s) ∧ (t * 2 ^ s) ||| (a / 2 ^ (64 - s)) = t * 2 ^ s + a / 2 ^ (64 - s) ∧
   t * 2 ^ s + a / 2 ^ (64 - s) < W := by
 obtain ⟨h1, rfl⟩ := List.getElem?_eq_some_iff.1 ht;obtain ⟨h0, rfl⟩ := List.getElem?_eq_some_iff.1 ha;have ba := hd _ (List.getElem_mem h0);have hv := iM (b := W) (n := k) (xs := ds) (by rw [hW]; decide) (by omega) hd;rw [sS l] at hv;have hWs : W = 2 ^ s * 2 ^ (64 - s) := by rw [← Nat.pow_add, show s + (64 - s) = 64 by omega, hW]
 have hf : 0 < 2 ^ s := Nat.pow_pos (by decide);have hg : 0 < 2 ^ (64 - s) := Nat.pow_pos (by decide);have hb : ds[k] / 2 ^ (64 - s) < 2 ^ s := by rw [Nat.div_lt_iff_lt_mul hg, ← hWs]; exact ba
 refine ⟨?_, aIn hb, ?_⟩
 ·rw [← Nat.div_div_eq_div_mul, ← hv, hWs];have e : ds[k] + 2 ^ s * 2 ^ (64 - s) * ds[k + 1] = ds[k] + 2 ^ (64 - s) * (ds[k + 1] * 2 ^ s) := by
   congr 1;rw [Nat.mul_comm (2 ^ s), Nat.mul_assoc, Nat.mul_comm (2 ^ s)]
  rw [e, Nat.add_mul_div_left _ _ hg, Nat.add_comm]
 ·generalize 2 ^ s = f at *
  generalize 2 ^ (64 - s) = g at *
  generalize ds[k + 1] = t at *
  have h2 : t < g := by
   rw [hWs, Nat.mul_comm f] at hts;exact Nat.lt_of_mul_lt_mul_right hts
  have h3 : (t + 1) * f ≤ g * f := Nat.mul_le_mul_right _ h2;rw [Nat.add_mul, Nat.one_mul] at h3;rw [hWs, Nat.mul_comm f g];omega
theorem aBK {k s t a : Nat} {ds : List Nat} (l : ds.length = k + 2) (hd : ∀ d ∈ ds, d < 18446744073709551616) (hs : s ≤ 64) (ht : ds[k + 1]? = some t) (ha : ds[k]? = some a) (hts : t * 2 ^ s < 18446744073709551616) : vl 18446744073709551616 ds / (18446744073709551616 ^ k * 2 ^ (64 - s)) = t * 2 ^ s + a / 2 ^ (64 - s) ∧ (t * 2 ^ s) ||| (a / 2 ^ (64 - s)) = t * 2 ^ s + a / 2 ^ (64 - s) ∧ t * 2 ^ s + a / 2 ^ (64 - s) < 18446744073709551616 :=
 top_word' rfl l hd hs ht ha hts
end Go.Proofs.YtajbfablmpmgbaaGreatDoor.Ma
namespace Go.Proofs.YtajbfablmpmgbaaGreatDoor.Ma
open Me
def nO (b : Nat) (x : Rat) (away : Bool) : Nat := fl (ulp b x) x.num.natAbs x.den + if away = true ∧ ¬ fr (ulp b x) x.num.natAbs x.den = 0 then 1 else 0
def rnd (b : Nat) (x : Rat) (away : Bool) : Rat := if x = 0 then 0 else sgQ (decide (x < 0)) (((nO b x away : Nat) : Rat) * pw (ulp b x))
theorem yS (b : Nat) (x : Rat) (away : Bool) : nO b (-x) away = nO b x away := by
 unfold nO; rw [vZ, Rat.neg_num, Rat.neg_den, Int.natAbs_neg]
theorem aEP (b : Nat) (x : Rat) : rnd b x (decide (x < 0)) = dn b x := by
 unfold rnd;rcases (show x < 0 ∨ x = 0 ∨ 0 < x by grind) with h | h | h
 ·have h0 : ¬ x = 0 := (by grind);have hp : 0 < -x := (by grind);have h1 := aEH (b := b) hp;rw [aEF] at h1;rw [if_neg h0, decide_eq_true h];unfold sgQ;rw [if_pos rfl, ← yS, ← vZ];unfold nO;have e : (if true = true ∧ ¬ fr (ulp b (-x)) (-x).num.natAbs (-x).den = 0 then 1 else 0) = (if fr (ulp b (-x)) (-x).num.natAbs (-x).den = 0 then 0 else 1) := by
   by_cases hz : fr (ulp b (-x)) (-x).num.natAbs (-x).den = 0
   ·rw [if_neg (fun h => h.2 hz), if_pos hz]
   ·rw [if_pos ⟨rfl, hz⟩, if_neg hz]
  rw [e];rw [← h1, Rat.neg_neg]
 ·subst h; rw [if_pos rfl, vY]
 ·have h0 : ¬ x = 0 := (by grind);rw [if_neg h0, decide_eq_false (by grind), aEG h];unfold sgQ nO;simp
theorem aIo (b : Nat) (x : Rat) : rnd b x (!decide (x < 0)) = up b x := by
 by_cases h0 : x = 0
 ·subst h0; unfold rnd; rw [if_pos rfl, aC3]
 ·have h1 := aEP b (-x);have e : decide (-x < 0) = !decide (x < 0) := by
   by_cases h : x < 0
   ·rw [decide_eq_true h, decide_eq_false (by grind)]; rfl
   ·rw [decide_eq_false h, decide_eq_true (by grind)]; rfl
  rw [e] at h1;unfold up;rw [← h1];unfold rnd;rw [if_neg h0, if_neg (by grind), yS, vZ, e];unfold sgQ;cases decide (x < 0)
  ·simp
  ·simp
theorem aEQ (s : Bool) (g k : Nat) : (sgQ s (((g : Nat) : Rat) * pw k)).num = (if s then -((g * 2 ^ k : Nat) : Int) else ((g * 2 ^ k : Nat) : Int)) ∧ (sgQ s (((g : Nat) : Rat) * pw k)).den = 1 := by
 rw [lU, ← Rat.natCast_mul];unfold sgQ;cases s
 ·simp only [Bool.false_eq_true, if_false]; exact ⟨Rat.num_natCast _, Rat.den_natCast _⟩
 ·simp only [if_true, Rat.neg_num, Rat.neg_den]; exact ⟨by rw [Rat.num_natCast], Rat.den_natCast _⟩
theorem aCD (s : Bool) {g : Nat} (k : Nat) (hg : 0 < g) : (sgQ s (((g : Nat) : Rat) * pw (-(k : Int)))).num = (if s then -((g / 2 ^ min (tz g) k : Nat) : Int) else ((g / 2 ^ min (tz g) k : Nat) : Int)) ∧ (sgQ s (((g : Nat) : Rat) * pw (-(k : Int)))).den = 2 ^ (k - min (tz g) k) := by
 obtain ⟨m, hm⟩ : ∃ m, min (tz g) k = m := ⟨_, rfl⟩
 rw [hm];obtain ⟨h1, h2⟩ := gH hg;have hd : 2 ^ m ∣ g := Nat.dvd_trans (Nat.pow_dvd_pow 2 (show m ≤ tz g by omega)) ⟨_, h1⟩;obtain ⟨c, hc⟩ := hd;have hq : g / 2 ^ m = c := by rw [hc, Nat.mul_div_cancel_left _ (two_pow_pos m)]
 rw [hq];have hcop : Nat.Coprime c (2 ^ (k - m)) := by
  rcases Nat.lt_or_ge (tz g) k with h | h
  ·have hmt : m = tz g := (by omega);have hodd : c % 2 = 1 := (by rw [← hq, hmt]; exact h2);exact (xB (k - m) hodd).symm
  ·rw [show k - m = 0 by omega]; simp
 have hv : ((g : Nat) : Rat) * pw (-(k : Int)) * ((2 ^ (k - m) : Nat) : Rat) = ((c : Nat) : Rat) := by
  rw [← lU, Rat.mul_assoc, ← aBC, show -(k : Int) + ((k - m : Nat) : Int) = -(m : Int) by omega, hc, Rat.natCast_mul, Rat.mul_comm (((2 ^ m : Nat)) : Rat), Rat.mul_assoc, ← lU, aBD, Rat.mul_one]
 cases s
 ·simp only [sgQ, Bool.false_eq_true, if_false];exact rat_of' (two_pow_pos _) (by simpa using hcop) (by rw [Rat.intCast_natCast]; exact hv)
 ·simp only [sgQ, if_true];exact rat_of' (two_pow_pos _) (by simpa using hcop) (by rw [Rat.intCast_neg, Rat.intCast_natCast, Rat.neg_mul, hv])
theorem nG (x : Rat) : x.floor = if x < 0 then -((x.num.natAbs / x.den + if x.num.natAbs % x.den = 0 then 0 else 1 : Nat) : Int) else ((x.num.natAbs / x.den : Nat) : Int) := by
 rcases (show x < 0 ∨ 0 ≤ x by grind) with h | h
 ·rw [if_pos h];have hp : 0 < -x := (by grind);obtain ⟨N, e1, -, e3⟩ := oC hp;have h4 := (nM (y := -x) (A := N) (B := x.den) x.den_pos (by
   have := mJ (-x);rw [e1, Rat.neg_den, Rat.intCast_natCast] at this;exact this.symm)).2.1
  rw [Rat.neg_neg] at h4;rw [h4];have : x.num.natAbs = N := (by rw [Rat.neg_num] at e3; omega);rw [this]
 ·rw [if_neg (by grind)];have e : x.num = ((x.num.natAbs : Nat) : Int) := (by have := Rat.num_nonneg.2 h; omega);exact (nM (y := x) (A := x.num.natAbs) (B := x.den) x.den_pos (by
   have := mJ x;rw [e, Rat.intCast_natCast] at this;exact this.symm)).1
def bG (z : Int) : Nat := if z < 1 then 1 else if 2000 < z then 2000 else z.toNat
theorem gD (z : Int) : 0 < bG z ∧ bG z ≤ 2000 := by unfold bG; split <;> (try split) <;> omega
theorem aAN {b : Nat} {x : Rat} : (b < bl (fl ((bl x.num.natAbs : Int) - bl x.den - b) x.num.natAbs x.den) ∧ ulp b x = (bl x.num.natAbs : Int) - bl x.den - b + 1) ∨ (¬ b < bl (fl ((bl x.num.natAbs : Int) - bl x.den - b) x.num.natAbs x.den) ∧ ulp b x = (bl x.num.natAbs : Int) - bl x.den - b) := by
 unfold ulp rsh;by_cases h : b < bl (fl ((bl x.num.natAbs : Int) - bl x.den - b) x.num.natAbs x.den)
 ·left; exact ⟨h, by rw [if_pos h]⟩
 ·right; exact ⟨h, by rw [if_neg h]⟩
theorem aER {b : Nat} {x : Rat} {N D : Nat} {sh : Int} (away : Bool) (hx : x ≠ 0) (hb : 0 < b) (hN : x.num.natAbs = N) (hD : x.den = D) (hsh : (bl N : Int) - bl D - b = sh) :
  (b < bl (fl sh N D) → rnd b x away = sgQ (decide (x.num < 0)) (((fl sh N D / 2 + if away = true ∧ ¬ (fr sh N D = 0 ∧ fl sh N D % 2 = 0) then 1 else 0 : Nat) : Rat) * pw (sh + 1)) ∧ 0 < fl sh N D / 2) ∧
  (¬ b < bl (fl sh N D) → rnd b x away = sgQ (decide (x.num < 0)) (((fl sh N D + if away = true ∧ ¬ fr sh N D = 0 then 1 else 0 : Nat) : Rat) * pw sh)) ∧ 0 < fl sh N D ∧ bl (fl sh N D) ≤ b + 1 := by
 subst hN hD;have hN0 : 0 < x.num.natAbs := by have : x.num ≠ 0 := fun h => hx (Rat.num_eq_zero.1 h); omega
 have hbits := aAb hN0 x.den_pos hb hsh.symm;have hs : decide (x.num < 0) = decide (x < 0) := decide_eq_decide.2 (bZ x);have hpos : ∀ n : Nat, 0 < bl n → 0 < n := fun n h => by
  rcases Nat.eq_zero_or_pos n with h0 | h0
  ·subst h0; rw [mF] at h; omega
  ·exact h0
 obtain ⟨f1, f2⟩ := aAa sh (N := x.num.natAbs) x.den_pos;refine ⟨fun h => ⟨?_, ?_⟩, fun h => ?_, hpos _ (by omega), by omega⟩
 ·rcases aAN (b := b) (x := x) with ⟨-, hu⟩ | ⟨h1, -⟩
  ·rw [hsh] at hu;unfold rnd;rw [if_neg hx, hs];unfold nO;rw [hu, f1];have e : (away = true ∧ ¬ fr (sh + 1) x.num.natAbs x.den = 0) ↔ (away = true ∧ ¬ (fr sh x.num.natAbs x.den = 0 ∧ fl sh x.num.natAbs x.den % 2 = 0)) := (by rw [f2]);simp only [e]
  ·rw [hsh] at h1; exact absurd h h1
 ·exact hpos _ (by rw [aC2]; omega)
 ·rcases aAN (b := b) (x := x) with ⟨h1, -⟩ | ⟨-, hu⟩
  ·rw [hsh] at h1; exact absurd h1 h
  ·rw [hsh] at hu;unfold rnd;rw [if_neg hx, hs];unfold nO;rw [hu]
end Go.Proofs.YtajbfablmpmgbaaGreatDoor.Ma
namespace Go.Proofs.YtajbfablmpmgbaaGreatDoor.Ma
theorem qB (n : Nat) (l : List UInt8) : (List.replicate n (48 : UInt8) ++ l).dropWhile (· == 48) = l.dropWhile (· == 48) := by
 induction n with
 | zero => simp
 | succ n ih => rw [List.replicate_succ, List.cons_append, List.dropWhile_cons_of_pos (by rfl), ih]
theorem aA5 {N : Nat} (h : 0 < N) : (dec N).dropWhile (· == 48) = dec N := by
 have hr := zZ N;cases hd : dec N with
 | nil => exact absurd hd hr.2.1
 | cons c t =>
   have hc : c ≠ 48 := fun h1 => by
    have h2 := hr.2.2 (by rw [hd, h1]; rfl);have := nE h2;omega
   rw [List.dropWhile_cons_of_neg (by simpa using hc)]
theorem aES (U : Nat) : (List.replicate 12 (48 : UInt8) ++ dec U).drop (dec U).length = pd 12 (U % 1000000000000) ∧
  ((List.replicate 12 (48 : UInt8) ++ dec U).take (dec U).length).dropWhile (· == 48) = if U / 1000000000000 = 0 then [] else dec (U / 1000000000000) := by
 rcases Nat.lt_or_ge U 1000000000000 with h | h
 ·have h0 : U / 1000000000000 = 0 := Nat.div_eq_of_lt h;have h1 := aF6 12 U h (by decide);have hl := yP (b := 12) h;have e : List.replicate 12 (48 : UInt8) ++ dec U = List.replicate (dec U).length 48 ++ pd 12 U := by
   rw [h1, ← List.append_assoc, List.replicate_append_replicate];congr 2;omega
  rw [h0, if_pos rfl, Nat.mod_eq_of_lt h, e];refine ⟨List.drop_left' (by simp), ?_⟩;rw [List.take_left' (by simp)];have := qB (dec U).length [];rw [List.append_nil] at this;rw [this]; rfl
 ·have hp : 0 < U / 1000000000000 := Nat.div_pos h (by decide);have e := yJ hp 12 (U % 1000000000000) (Nat.mod_lt _ (by decide));have hU : U / 1000000000000 * 10 ^ 12 + U % 1000000000000 = U := (by have := Nat.div_add_mod U 1000000000000; omega);rw [hU] at e;have hl : (dec U).length = (dec (U / 1000000000000)).length + 12 := (by rw [e, List.length_append, aAH]);rw [if_neg (by omega), hl, e, ← List.append_assoc];constructor
  ·exact List.drop_left' (by rw [List.length_append, List.length_replicate]; omega)
  ·rw [List.take_left' (by rw [List.length_append, List.length_replicate]; omega), qB, aA5 hp]
theorem aDI (U : Nat) (h : 412 < (dec U).length) : 400 < (dec (U / 1000000000000)).length := by
 rcases Nat.lt_or_ge U 1000000000000 with h0 | h0
 ·have hl := yP (b := 12) h0;omega
 ·have hp : 0 < U / 1000000000000 := Nat.div_pos h0 (by decide);have e := yJ hp 12 (U % 1000000000000) (Nat.mod_lt _ (by decide));have hU : U / 1000000000000 * 10 ^ 12 + U % 1000000000000 = U := (by have := Nat.div_add_mod U 1000000000000; omega);rw [hU] at e;have hl : (dec U).length = (dec (U / 1000000000000)).length + 12 := (by rw [e, List.length_append, aAH]);omega
theorem aET {U : Nat} {f b : List UInt8} (hf : f = if U / 1000000000000 = 0 then [] else dec (U / 1000000000000)) (hb : b = yO (pd 12 (U % 1000000000000))) :
  pF U = if 400 < (if f = [] then [48] else f).length + b.length then none else some ((if f = [] then [48] else f) ++ if b = [] then [] else 46 :: b) := by
 have e : (if f = [] then [48] else f) = dec (U / 1000000000000) := by
  by_cases h : U / 1000000000000 = 0
  ·rw [if_pos h] at hf;rw [if_pos hf, h, tL]
  ·rw [if_neg h] at hf;rw [if_neg (by rw [hf]; exact sV _), hf]
 unfold pF;rw [e, hb]
end Go.Proofs.YtajbfablmpmgbaaGreatDoor.Ma
