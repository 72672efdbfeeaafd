/- ValueRounds: for every string and every int the law holds: Down, Up, Floor and Ceil of the number that the string is are what the document says, or nothing if it is none. No condition.. Part of the proof: texts Mc1 Mc5 Mf1. -/
import Derived.Below
import Derived.Deep.Draws
import Derived.Deep.OwnRows
import Derived.Laws.OwnMore
import Derived.Laws.Rows
import Derived.Lib.Hide
import Derived.Test.YtgpacgadpnpjjaaGreatDoorQp01
import Derived.Test.YtgpacgadpnpjjaaGreatDoorQp02
import Derived.Test.YtgpacgadpnpjjaaGreatDoorQp03
import Derived.Test.YtgpacgadpnpjjaaGreatDoorQp04
import Derived.Test.YtgpacgadpnpjjaaGreatDoorQp05
import Derived.Test.YtgpacgadpnpjjaaGreatDoorQp06
import Derived.Test.YtgpacgadpnpjjaaGreatDoorQp07
import Derived.Test.YtgpacgadpnpjjaaGreatDoorQp08
import Derived.Test.YtgpacgadpnpjjaaGreatDoorQp09
import Derived.Test.YtgpacgadpnpjjaaGreatDoorQp10
import Derived.Test.YtgpacgadpnpjjaaGreatDoorQp11
import Derived.Test.YtgpacgadpnpjjaaGreatDoorQp12
import Derived.Test.YtgpacgadpnpjjaaGreatDoorQp13
import Derived.Test.YtgpacgadpnpjjaaGreatDoorQp14
import Derived.Test.YtgpacgadpnpjjaaGreatDoorQp15
import Derived.Test.YtgpacgadpnpjjaaGreatDoorQp16
import Derived.Test.YtgpacgadpnpjjaaGreatDoorQp17
import Derived.Test.YtgpacgadpnpjjaaGreatDoorQp18
import Derived.Test.YtgpacgadpnpjjaaGreatDoorQp19
import Derived.Test.YtgpacgadpnpjjaaGreatDoorQp20
import Derived.Test.YtgpacgadpnpjjaaGreatDoorQp21
import Derived.Test.YtgpacgadpnpjjaaGreatDoorQp22
import Derived.Test.YtgpacgadpnpjjaaGreatDoorQp23
import Derived.Test.YtgpacgadpnpjjaaGreatDoorQp24
import Derived.Test.YtgpacgadpnpjjaaGreatDoorQp25
import Derived.Test.YtgpacgadpnpjjaaGreatDoorQp27

namespace Go.Proofs.YtgpacgadpnpjjaaGreatDoor.Ma
theorem qZ {N D b : Nat} {s t : Int} (hD : 0 < D) (hb : 0 < b) (h1 : bl (fl s N D) = b) (h2 : bl (fl t N D) = b) : s = t := by
 rcases Int.lt_trichotomy s t with h | h | h
 ·have := aEQ (N := N) s hD (t - s).toNat;rw [show s + ((t - s).toNat : Int) = t by omega] at this;omega
 ·exact h
 ·have := aEQ (N := N) t hD (s - t).toNat;rw [show t + ((s - t).toNat : Int) = s by omega] at this;omega
theorem aF2 {b N D : Nat} {s : Int} (hN : 0 < N) (hD : 0 < D) (hb : 0 < b) (h : bl (fl s N D) = b) : rsh b N D = s := qZ hD hb (aDa hN hD hb) h
theorem aFW {b N D : Nat} {k : Int} (hN : 0 < N) (hD : 0 < D) (hb : 0 < b) (h : fl k N D = 1) : rsh b N D = k - b + 1 := by
 refine aF2 hN hD hb ?_;have h1 := aEQ (N := N) (D := D) (k - b + 1) hD (b - 1);rw [show k - b + 1 + ((b - 1 : Nat) : Int) = k by omega, h, show bl 1 = 1 from bZ (by decide)] at h1;omega
theorem aF3 (x y : Rat) : sn (x * y) = sn x * sn y := by
 rcases dF x with ⟨h, e⟩ | ⟨h, e⟩ | ⟨h, e⟩ <;> rw [e] <;> rcases dF y with ⟨h2, e2⟩ | ⟨h2, e2⟩ | ⟨h2, e2⟩ <;> rw [e2]
 ·have := Rat.mul_pos (show 0 < -x by grind) (show 0 < -y by grind);rcases dF (x * y) with ⟨h3, e3⟩ | ⟨h3, e3⟩ | ⟨h3, e3⟩ <;> grind
 ·subst h2; rw [Rat.mul_zero]; rfl
 ·have := Rat.mul_pos (show 0 < -x by grind) h2;rcases dF (x * y) with ⟨h3, e3⟩ | ⟨h3, e3⟩ | ⟨h3, e3⟩ <;> grind
 ·subst h; rw [Rat.zero_mul]; rfl
 ·subst h; rw [Rat.zero_mul]; rfl
 ·subst h; rw [Rat.zero_mul]; rfl
 ·have := Rat.mul_pos h (show 0 < -y by grind);rcases dF (x * y) with ⟨h3, e3⟩ | ⟨h3, e3⟩ | ⟨h3, e3⟩ <;> grind
 ·subst h2; rw [Rat.mul_zero]; rfl
 ·have := Rat.mul_pos h h2;rcases dF (x * y) with ⟨h3, e3⟩ | ⟨h3, e3⟩ | ⟨h3, e3⟩ <;> grind
end Go.Proofs.YtgpacgadpnpjjaaGreatDoor.Ma
namespace Go.Proofs.YtgpacgadpnpjjaaGreatDoor.Ma
open Me
theorem aF4 (b : Nat) (x : Rat) : rnd b x (!decide (x < 0)) = up b x := by
 by_cases h0 : x = 0
 ·subst h0; unfold rnd; rw [if_pos rfl, aEa]
 ·have h1 := aE3 b (-x);have e : decide (-x < 0) = !decide (x < 0) := by
   by_cases h : x < 0
   ·rw [decide_eq_true h, decide_eq_false (by grind)]; rfl
   ·rw [decide_eq_false h, decide_eq_true (by grind)]; rfl
  rw [e] at h1;unfold up;rw [← h1];unfold rnd;rw [if_neg h0, if_neg (by grind), aBh, vF, e];unfold sgQ;cases decide (x < 0)
  ·simp
  ·simp
theorem bB (x : Rat) : x.floor = if x < 0 then -((x.num.natAbs / x.den + if x.num.natAbs % x.den = 0 then 0 else 1 : Nat) : Int) else ((x.num.natAbs / x.den : Nat) : Int) := by
 rcases (show x < 0 ∨ 0 ≤ x by grind) with h | h
 ·rw [if_pos h];have hp : 0 < -x := (by grind);obtain ⟨N, e1, -, e3⟩ := oH hp;have h4 := (pX (y := -x) (A := N) (B := x.den) x.den_pos (by
   have := rF (-x);rw [e1, Rat.neg_den, Rat.intCast_natCast] at this;exact this.symm)).2.1
  rw [Rat.neg_neg] at h4;rw [h4];have : x.num.natAbs = N := (by rw [Rat.neg_num] at e3; omega);rw [this]
 ·rw [if_neg (by grind)];have e : x.num = ((x.num.natAbs : Nat) : Int) := (by have := Rat.num_nonneg.2 h; omega);exact (pX (y := x) (A := x.num.natAbs) (B := x.den) x.den_pos (by
   have := rF x;rw [e, Rat.intCast_natCast] at this;exact this.symm)).1
def bN (x : Rat) (away : Bool) : Nat := x.num.natAbs / x.den + if away = true ∧ ¬ x.num.natAbs % x.den = 0 then 1 else 0
def bD (x : Rat) (away : Bool) : Int := if x < 0 then -((bN x away : Nat) : Int) else ((bN x away : Nat) : Int)
theorem oN (x : Rat) : bD x (decide (x < 0)) = x.floor := by
 rw [bB];unfold bD bN;by_cases h : x < 0
 ·rw [if_pos h, if_pos h, decide_eq_true h];by_cases hz : x.num.natAbs % x.den = 0
  ·rw [if_neg (fun h => h.2 hz), if_pos hz]
  ·rw [if_pos ⟨rfl, hz⟩, if_neg hz]
 ·rw [if_neg h, if_neg h, decide_eq_false h, if_neg (by simp)]; rfl
theorem sM (x : Rat) : bD x (!decide (x < 0)) = -(-x).floor := by
 rw [bB];unfold bD bN;rw [Rat.neg_num, Rat.neg_den, Int.natAbs_neg];by_cases h : x < 0
 ·have h1 : ¬ -x < 0 := (by grind);rw [if_pos h, if_neg h1, decide_eq_true h, if_neg (by simp), Nat.add_zero]
 ·rw [if_neg h, decide_eq_false h];by_cases h0 : x = 0
  ·subst h0; rfl
  ·have h1 : -x < 0 := (by grind);rw [if_pos h1, Int.neg_neg];by_cases hz : x.num.natAbs % x.den = 0
   ·rw [if_neg (fun h => h.2 hz), if_pos hz]
   ·rw [if_pos ⟨rfl, hz⟩, if_neg hz]
end Go.Proofs.YtgpacgadpnpjjaaGreatDoor.Ma
