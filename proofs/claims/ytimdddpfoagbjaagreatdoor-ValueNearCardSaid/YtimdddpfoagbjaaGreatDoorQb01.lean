/- ValueNear (P1.10) for every string and every uint16; no condition. Part of the proof: texts Mc1 Mc3 Mc4 Mc5 Mf1. -/
import Derived.Below
import Derived.Deep.Draws
import Derived.Deep.OwnRows
import Derived.Laws.OwnMore
import Derived.Laws.Rows
import Derived.Lib.Hide
import Derived.Test.YtimdddpfoagbjaaGreatDoorQa01
import Derived.Test.YtimdddpfoagbjaaGreatDoorQa02
import Derived.Test.YtimdddpfoagbjaaGreatDoorQa03
import Derived.Test.YtimdddpfoagbjaaGreatDoorQa04
import Derived.Test.YtimdddpfoagbjaaGreatDoorQa05
import Derived.Test.YtimdddpfoagbjaaGreatDoorQa06
import Derived.Test.YtimdddpfoagbjaaGreatDoorQa07
import Derived.Test.YtimdddpfoagbjaaGreatDoorQa08
import Derived.Test.YtimdddpfoagbjaaGreatDoorQa09
import Derived.Test.YtimdddpfoagbjaaGreatDoorQa10
import Derived.Test.YtimdddpfoagbjaaGreatDoorQa11
import Derived.Test.YtimdddpfoagbjaaGreatDoorQa12
import Derived.Test.YtimdddpfoagbjaaGreatDoorQa13
import Derived.Test.YtimdddpfoagbjaaGreatDoorQa14
import Derived.Test.YtimdddpfoagbjaaGreatDoorQa15
import Derived.Test.YtimdddpfoagbjaaGreatDoorQa16
import Derived.Test.YtimdddpfoagbjaaGreatDoorQa17
import Derived.Test.YtimdddpfoagbjaaGreatDoorQa18
import Derived.Test.YtimdddpfoagbjaaGreatDoorQa19
import Derived.Test.YtimdddpfoagbjaaGreatDoorQa20
import Derived.Test.YtimdddpfoagbjaaGreatDoorQa21
import Derived.Test.YtimdddpfoagbjaaGreatDoorQa22
import Derived.Test.YtimdddpfoagbjaaGreatDoorQa23
import Derived.Test.YtimdddpfoagbjaaGreatDoorQa24
import Derived.Test.YtimdddpfoagbjaaGreatDoorQa25
import Derived.Test.YtimdddpfoagbjaaGreatDoorQa26
import Derived.Test.YtimdddpfoagbjaaGreatDoorQa27
import Derived.Test.YtimdddpfoagbjaaGreatDoorQa29

namespace Go.Proofs.YtimdddpfoagbjaaGreatDoor.Ma
theorem fl_unique {N D b : Nat} {s t : Int} (hD : 0 < D) (hb : 0 < b) (h1 : bl (fl s N D) = b) (h2 : bl (fl t N D) = b) : s = t := by
  rcases Int.lt_trichotomy s t with h | h | h
  · have := fl_add (N := N) s hD (t - s).toNat
    rw [show s + ((t - s).toNat : Int) = t by omega] at this
    omega
  · exact h
  · have := fl_add (N := N) t hD (s - t).toNat
    rw [show t + ((s - t).toNat : Int) = s by omega] at this
    omega
theorem rsh_of {b N D : Nat} {s : Int} (hN : 0 < N) (hD : 0 < D) (hb : 0 < b) (h : bl (fl s N D) = b) : rsh b N D = s := fl_unique hD hb (rsh_spec hN hD hb) h
end Go.Proofs.YtimdddpfoagbjaaGreatDoor.Ma
namespace Go.Proofs.YtimdddpfoagbjaaGreatDoor.Ma
theorem ulp_of {b g : Nat} {s : Int} {x : Rat} (hx : 0 < x) (hb : 0 < b) (hg : bl g = b) (h1 : (g : Rat) * pw s ≤ x) (h2 : x < ((g + 1 : Nat) : Rat) * pw s) : ulp b x = s ∧ fl s x.num.natAbs x.den = g := by
  obtain ⟨N, e1, e2, e3⟩ := nat_of_pos hx
  have h4 := rfloor_of (Nat.mul_pos (den_pos x) (two_pow_pos _)) (scale_fl e1 rfl s)
  have hp := pw_pos (-s)
  have i1 : (g : Rat) ≤ x * pw (-s) := by
    have := Rat.mul_le_mul_of_nonneg_right h1 (Rat.le_of_lt hp)
    rwa [Rat.mul_assoc, pw_inv, Rat.mul_one] at this
  have i2 : x * pw (-s) < ((g + 1 : Nat) : Rat) := by
    have := Rat.mul_lt_mul_of_pos_right h2 hp
    rwa [Rat.mul_assoc, pw_inv, Rat.mul_one] at this
  have hfl : fl s N x.den = g := by
    have j1 : (g : Int) ≤ (x * pw (-s)).floor := Rat.le_floor_iff.2 (by rw [Rat.intCast_natCast]; exact i1)
    have j2 : (x * pw (-s)).floor < ((g + 1 : Nat) : Int) := Rat.floor_lt_iff.2 (by rw [Rat.intCast_natCast]; exact i2)
    rw [h4.1] at j1 j2
    unfold fl
    omega
  unfold ulp
  rw [e3]
  exact ⟨rsh_of e2 (den_pos x) hb (by rw [hfl, hg]), hfl⟩
end Go.Proofs.YtimdddpfoagbjaaGreatDoor.Ma
namespace Go.Proofs.YtimdddpfoagbjaaGreatDoor.Ma
theorem fr_exact {x : Rat} (hx : 0 < x) (s : Int) : fr s x.num.natAbs x.den = 0 ↔ x = ((fl s x.num.natAbs x.den : Nat) : Rat) * pw s := by
  obtain ⟨N, e1, e2, e3⟩ := nat_of_pos hx
  have h4 := rfloor_of (Nat.mul_pos (den_pos x) (two_pow_pos _)) (scale_fl e1 rfl s)
  rw [e3]
  constructor
  · intro h
    have h5 := h4.2.2 h
    have h6 : x * pw (-s) * pw s = ((fl s N x.den : Nat) : Rat) * pw s := by rw [h5]; rfl
    rwa [Rat.mul_assoc, pw_inv', Rat.mul_one] at h6
  · intro h
    have h6 : x * pw (-s) = (((fl s N x.den : Nat) : Int) : Rat) := by
      have : x * pw (-s) = ((fl s N x.den : Nat) : Rat) * pw s * pw (-s) := by rw [← h]
      rwa [Rat.mul_assoc, pw_inv, Rat.mul_one] at this
    have h7 := h4.2.1
    rw [h6, ← Rat.intCast_neg, Rat.floor_intCast] at h7
    unfold fr
    rcases Nat.eq_zero_or_pos (N * 2 ^ (-s).toNat % (x.den * 2 ^ s.toNat)) with h8 | h8
    · exact h8
    · rw [if_neg (by omega)] at h7
      unfold fl at h7
      omega
theorem dn_of {b g : Nat} {s : Int} {x : Rat} (hx : 0 < x) (hb : 0 < b) (hg : bl g = b) (h1 : (g : Rat) * pw s ≤ x) (h2 : x < ((g + 1 : Nat) : Rat) * pw s) :
    dn b x = (g : Rat) * pw s ∧ (x = (g : Rat) * pw s → up b x = x) ∧ (x ≠ (g : Rat) * pw s → up b x = ((g + 1 : Nat) : Rat) * pw s) := by
  obtain ⟨u1, u2⟩ := ulp_of hx hb hg h1 h2
  have f := fr_exact hx (ulp b x)
  have d := dn_pos (b := b) hx
  have u := up_pos (b := b) hx
  rw [u1, u2] at f d u
  refine ⟨d, fun h => ?_, fun h => ?_⟩
  · rw [u, if_pos (f.2 h)]; exact h.symm
  · rw [u, if_neg (fun h3 => h (f.1 h3))]
theorem pw_succ (s : Int) : pw (s + 1) = 2 * pw s := by
  rw [pw_add, show pw 1 = 2 from by decide, Rat.mul_comm]
theorem bl_shift {g : Nat} (hg : 0 < g) (j : Nat) : bl (g * 2 ^ j) = bl g + j := by
  obtain ⟨b0, b1, b2⟩ := bl_bounds hg
  have h1 : 2 ^ (bl g - 1 + j) ≤ g * 2 ^ j := by rw [Nat.pow_add]; exact Nat.mul_le_mul_right _ b1
  have h2 : g * 2 ^ j < 2 ^ (bl g - 1 + j + 1) := by
    rw [show bl g - 1 + j + 1 = bl g + j by omega, Nat.pow_add]; exact (Nat.mul_lt_mul_right (two_pow_pos j)).2 b2
  rw [bl_eq h1 h2]; omega
theorem lt_step {g : Nat} (s : Int) : (g : Rat) * pw s < ((g + 1 : Nat) : Rat) * pw s :=
  Rat.mul_lt_mul_of_pos_right (Rat.natCast_lt_natCast.2 (Nat.lt_succ_self g)) (pw_pos s)
theorem pos_step {g : Nat} (hg : 0 < g) (s : Int) : 0 < (g : Rat) * pw s := Rat.mul_pos (Rat.natCast_pos.2 hg) (pw_pos s)
theorem rep_lt {n g : Nat} {s : Int} (hg : 0 < g) (h : bl g ≤ n) : dn n ((g : Rat) * pw s) = (g : Rat) * pw s ∧ up n ((g : Rat) * pw s) = (g : Rat) * pw s := by
  obtain ⟨b0, -, -⟩ := bl_bounds hg
  obtain ⟨j, hj⟩ : ∃ j : Nat, n = bl g + j := ⟨n - bl g, by omega⟩
  have e : (g : Rat) * pw s = ((g * 2 ^ j : Nat) : Rat) * pw (s - j) := by
    rw [Rat.natCast_mul, ← pw_nat, Rat.mul_assoc, ← pw_add]
    congr 2; omega
  have hg' : 0 < g * 2 ^ j := Nat.mul_pos hg (two_pow_pos j)
  rw [e]
  have key := dn_of (b := n) (pos_step hg' (s - j)) (by omega) (by rw [bl_shift hg]; omega) Rat.le_refl (lt_step (g := g * 2 ^ j) (s - j))
  exact ⟨key.1, key.2.1 rfl⟩
theorem rep_le {n g : Nat} {s : Int} (hn : 0 < n) (hg : 0 < g) (h : g ≤ 2 ^ n) : dn n ((g : Rat) * pw s) = (g : Rat) * pw s ∧ up n ((g : Rat) * pw s) = (g : Rat) * pw s := by
  rcases Nat.lt_or_ge g (2 ^ n) with h1 | h1
  · exact rep_lt hg ((bl_le_iff _ _).2 h1)
  · obtain ⟨m, rfl⟩ : ∃ m, n = m + 1 := ⟨n - 1, by omega⟩
    have e : (g : Rat) * pw s = ((2 ^ m : Nat) : Rat) * pw (s + 1) := by
      rw [show g = 2 ^ m * 2 by rw [← Nat.pow_succ]; omega, Rat.natCast_mul, Rat.mul_assoc, pw_succ]; rfl
    rw [e]
    refine rep_lt (two_pow_pos m) ?_
    rw [bl_eq (k := m) (Nat.le_refl _) (Nat.pow_lt_pow_right (by decide) (by omega))]
    omega
theorem half_cast (g : Nat) : ((g : Nat) : Rat) = 2 * ((g / 2 : Nat) : Rat) + ((g % 2 : Nat) : Rat) := by
  have h : g = 2 * (g / 2) + g % 2 := by omega
  have h2 : ((g : Nat) : Rat) = ((2 * (g / 2) + g % 2 : Nat) : Rat) := by rw [← h]
  rw [h2, Rat.natCast_add, Rat.natCast_mul]; rfl
theorem mid_ok {K P : Rat} (hP : 0 < P) : K * P ≤ (K * P + (K + 1) * P) * (1 / 2) ∧ (K * P + (K + 1) * P) * (1 / 2) < (K + 1) * P ∧ (K * P + (K + 1) * P) * (1 / 2) ≠ K * P := by
  have e : (K * P + (K + 1) * P) * (1 / 2) = K * P + P * (1 / 2) := by grind
  have e2 : (K + 1) * P = K * P + P := by grind
  rw [e, e2]
  refine ⟨by grind, by grind, by grind⟩
theorem near_pos {n : Nat} {x : Rat} (hn : 0 < n) (hx : 0 < x) : Near n x := by
  obtain ⟨b1, l1, r1⟩ := ulp_spec (b := n + 1) hx (by omega)
  obtain ⟨s, hs⟩ : ∃ s, ulp (n + 1) x = s := ⟨_, rfl⟩
  obtain ⟨g, hg⟩ : ∃ g, fl s x.num.natAbs x.den = g := ⟨_, rfl⟩
  rw [hs, hg] at b1 l1 r1
  have D1 := dn_of hx (by omega) b1 l1 r1
  have hp := pw_pos s
  have hg0 : 0 < g := by rcases Nat.eq_zero_or_pos g with h | h; · rw [h, bl_zero] at b1; omega
                         · exact h
  have hh := half_cast g
  have hm : g % 2 = 0 ∨ g % 2 = 1 := by omega
  have bh : bl (g / 2) = n := by rw [bl_half]; omega
  obtain ⟨k, hk⟩ : ∃ k, g / 2 = k := ⟨_, rfl⟩
  rw [hk] at hh bh
  have hk0 : 0 < k := by rcases Nat.eq_zero_or_pos k with h | h; · rw [h, bl_zero] at bh; omega
                         · exact h
  have hk2 : k + 1 ≤ 2 ^ n := (bl_le_iff _ _).1 (Nat.le_of_eq bh)
  have c1 : ((g + 1 : Nat) : Rat) = (g : Rat) + 1 := Rat.natCast_add _ _
  have c2 : ((k + 1 : Nat) : Rat) = (k : Rat) + 1 := Rat.natCast_add _ _
  have l0 : (k : Rat) * pw (s + 1) ≤ x := by
    rw [pw_succ]
    rcases hm with h | h <;> rw [h] at hh
    · have : (k : Rat) * (2 * pw s) = (g : Rat) * pw s := by rw [hh]; simp; grind
      rw [this]; exact l1
    · have : (k : Rat) * (2 * pw s) + pw s = (g : Rat) * pw s := by rw [hh]; simp; grind
      grind
  have r0 : x < ((k + 1 : Nat) : Rat) * pw (s + 1) := by
    rw [pw_succ, c2]
    rw [c1] at r1
    rcases hm with h | h <;> rw [h] at hh
    · have : ((k : Rat) + 1) * (2 * pw s) = ((g : Rat) + 1) * pw s + pw s := by rw [hh]; simp; grind
      grind
    · have : ((k : Rat) + 1) * (2 * pw s) = ((g : Rat) + 1) * pw s := by rw [hh]; simp; grind
      rw [this]; exact r1
  have D0 := dn_of hx hn bh l0 r0
  have u0 : x ≤ up n x := by
    rcases Classical.em (x = (k : Rat) * pw (s + 1)) with h | h
    · rw [D0.2.1 h]; exact Rat.le_refl
    · rw [D0.2.2 h]; exact Rat.le_of_lt r0
  have u1 : x ≤ up (n + 1) x := by
    rcases Classical.em (x = (g : Rat) * pw s) with h | h
    · rw [D1.2.1 h]; exact Rat.le_refl
    · rw [D1.2.2 h]; exact Rat.le_of_lt r1
  have n1 : dn n x ≤ dn (n + 1) x := by
    rw [D0.1, D1.1, pw_succ]
    rcases hm with h | h <;> rw [h] at hh
    · have : (k : Rat) * (2 * pw s) = (g : Rat) * pw s := by rw [hh]; simp; grind
      rw [this]; exact Rat.le_refl
    · have : (k : Rat) * (2 * pw s) + pw s = (g : Rat) * pw s := by rw [hh]; simp; grind
      grind
  have n4 : up (n + 1) x ≤ up n x := by
    rcases Classical.em (x = (g : Rat) * pw s) with h1 | h1
    · rw [D1.2.1 h1]; exact u0
    · have h0 : x ≠ (k : Rat) * pw (s + 1) := by
        intro h0
        rcases hm with h | h <;> rw [h] at hh
        · refine h1 ?_
          rw [h0, pw_succ, hh]; simp; grind
        · have : (k : Rat) * (2 * pw s) + pw s = (g : Rat) * pw s := by rw [hh]; simp; grind
          rw [pw_succ] at h0
          grind
      rw [D1.2.2 h1, D0.2.2 h0, pw_succ, c1, c2]
      rcases hm with h | h <;> rw [h] at hh
      · have : ((k : Rat) + 1) * (2 * pw s) = ((g : Rat) + 1) * pw s + pw s := by rw [hh]; simp; grind
        grind
      · have : ((k : Rat) + 1) * (2 * pw s) = ((g : Rat) + 1) * pw s := by rw [hh]; simp; grind
        rw [this]; exact Rat.le_refl
  refine ⟨n1, by rw [D1.1]; exact l1, u1, n4, ?_, ?_⟩
  · intro h
    refine Rat.le_antisymm (by rw [D0.1]; exact l0) ?_
    rw [h]; exact u0
  · intro h
    have hne : x ≠ (k : Rat) * pw (s + 1) := fun h1 => h (by rw [D0.1, D0.2.1 h1]; exact h1.symm)
    have eD := D0.1
    have eU := D0.2.2 hne
    have hlt : dn n x < x := by
      rw [eD]
      refine Rat.not_le.1 fun h1 => hne (Rat.le_antisymm h1 l0)
    have hmid := mid_ok (K := (k : Rat)) (pw_pos (s + 1))
    rw [← c2] at hmid
    obtain ⟨m1, m2, m3⟩ := hmid
    have m0 := pos_step hk0 (s + 1)
    have DM := dn_of (by grind) hn bh m1 m2
    refine ⟨hlt, by rw [eU]; exact r0, ?_, ?_, ?_, ?_⟩
    · rw [eD, eU]; exact DM.1
    · rw [eD, eU]; exact DM.2.2 m3
    · rw [eD]; exact (rep_lt hk0 (by omega)).1
    · rw [eU]; exact (rep_le hn (by omega) hk2).2
theorem near_neg {n : Nat} {x : Rat} (h : Near n (-x)) : Near n x := by
  obtain ⟨a1, a2, a3, a4, a5, a6⟩ := h
  simp only [dn_neg, up_neg] at *
  obtain ⟨d, hd⟩ : ∃ d, dn n x = d := ⟨_, rfl⟩
  obtain ⟨u, hu⟩ : ∃ u, up n x = u := ⟨_, rfl⟩
  obtain ⟨d1, hd1⟩ : ∃ d, dn (n + 1) x = d := ⟨_, rfl⟩
  obtain ⟨u1, hu1⟩ : ∃ u, up (n + 1) x = u := ⟨_, rfl⟩
  rw [hd, hu] at a5 a6
  rw [hd1, hd] at a4
  rw [hu, hu1] at a1
  rw [hu1] at a2
  rw [hd1] at a3
  refine ⟨by rw [hd, hd1]; grind, by rw [hd1]; grind, by rw [hu1]; grind, by rw [hu1, hu]; grind, ?_, ?_⟩
  · rw [hd, hu]
    intro h
    have := a5 (by rw [h])
    grind
  · rw [hd, hu]
    intro h
    obtain ⟨b1, b2, b3, b4, b5, b6⟩ := a6 (by intro h1; exact h (by grind))
    have e : (-u + -d) * (1 / 2) = -((d + u) * (1 / 2)) := by grind
    rw [e, dn_neg] at b3
    rw [e, up_neg] at b4
    refine ⟨by grind, by grind, by grind, by grind, by grind, by grind⟩
theorem near {n : Nat} (hn : 0 < n) (x : Rat) : Near n x := by
  rcases (show x < 0 ∨ x = 0 ∨ 0 < x by grind) with h | h | h
  · exact near_neg (near_pos hn (by grind))
  · subst h
    have z1 := dn_zero n; have z2 := up_zero n; have z3 := dn_zero (n + 1); have z4 := up_zero (n + 1)
    refine ⟨by rw [z1, z3]; exact Rat.le_refl, by rw [z3]; exact Rat.le_refl, by rw [z4]; exact Rat.le_refl, by rw [z4, z2]; exact Rat.le_refl, fun _ => z1, fun h => absurd (by rw [z1, z2]) h⟩
  · exact near_pos hn h
end Go.Proofs.YtimdddpfoagbjaaGreatDoor.Ma
namespace Go.Proofs.YtimdddpfoagbjaaGreatDoor.Ma
theorem rc_zero (x y : Rat) : rc x y = 0 ↔ x = y := by
  rcases rc_cases x y with ⟨h, e⟩ | ⟨h, e⟩ | ⟨h, e⟩ <;> rw [e] <;> constructor <;> intro h2 <;> grind
end Go.Proofs.YtimdddpfoagbjaaGreatDoor.Ma
namespace Go.Proofs.YtimdddpfoagbjaaGreatDoor.Ma
open Me
theorem rnd_up (b : Nat) (x : Rat) : rnd b x (!decide (x < 0)) = up b x := by
  by_cases h0 : x = 0
  · subst h0; unfold rnd; rw [if_pos rfl, up_zero]
  · have h1 := rnd_dn b (-x)
    have e : decide (-x < 0) = !decide (x < 0) := by
      by_cases h : x < 0
      · rw [decide_eq_true h, decide_eq_false (by grind)]; rfl
      · rw [decide_eq_false h, decide_eq_true (by grind)]; rfl
    rw [e] at h1
    unfold up
    rw [← h1]
    unfold rnd
    rw [if_neg h0, if_neg (by grind), stepsN_neg, ulp_neg, e]
    unfold sgQ
    cases decide (x < 0)
    · simp
    · simp
end Go.Proofs.YtimdddpfoagbjaaGreatDoor.Ma
