/- ValueReads: for every string the law holds: what Read returns is what the document says. No condition.. Part of the proof: texts Mc5 Md4 Md5. -/
import Derived.Below
import Derived.Deep.Draws
import Derived.Deep.OwnRows
import Derived.Laws.OwnMore
import Derived.Laws.Rows
import Derived.Lib.Hide
import Derived.Test.YtgpacgadpnpjjaaGreatDoorQp01
import Derived.Test.YtgpacgadpnpjjaaGreatDoorQp02
import Derived.Test.YtgpacgadpnpjjaaGreatDoorQp03
import Derived.Test.YtgpacgadpnpjjaaGreatDoorQp04
import Derived.Test.YtgpacgadpnpjjaaGreatDoorQp05
import Derived.Test.YtgpacgadpnpjjaaGreatDoorQp06
import Derived.Test.YtgpacgadpnpjjaaGreatDoorQp07
import Derived.Test.YtgpacgadpnpjjaaGreatDoorQp08
import Derived.Test.YtgpacgadpnpjjaaGreatDoorQp09
import Derived.Test.YtgpacgadpnpjjaaGreatDoorQp10
import Derived.Test.YtgpacgadpnpjjaaGreatDoorQp11
import Derived.Test.YtgpacgadpnpjjaaGreatDoorQp12
import Derived.Test.YtgpacgadpnpjjaaGreatDoorQp13
import Derived.Test.YtgpacgadpnpjjaaGreatDoorQp14
import Derived.Test.YtgpacgadpnpjjaaGreatDoorQp15
import Derived.Test.YtgpacgadpnpjjaaGreatDoorQp16
import Derived.Test.YtgpacgadpnpjjaaGreatDoorQp17
import Derived.Test.YtgpacgadpnpjjaaGreatDoorQp18
import Derived.Test.YtgpacgadpnpjjaaGreatDoorQp19
import Derived.Test.YtgpacgadpnpjjaaGreatDoorQp20
import Derived.Test.YtgpacgadpnpjjaaGreatDoorQp21
import Derived.Test.YtgpacgadpnpjjaaGreatDoorQp22
import Derived.Test.YtgpacgadpnpjjaaGreatDoorQp23
import Derived.Test.YtgpacgadpnpjjaaGreatDoorQp24
import Derived.Test.YtgpacgadpnpjjaaGreatDoorQp25
import Derived.Test.YtgpacgadpnpjjaaGreatDoorQp27

namespace Go.Proofs.YtgpacgadpnpjjaaGreatDoor.Ma
theorem aF3 (x y : Rat) : sn (x * y) = sn x * sn y := by
 rcases dF x with ⟨h, e⟩ | ⟨h, e⟩ | ⟨h, e⟩ <;> rw [e] <;> rcases dF y with ⟨h2, e2⟩ | ⟨h2, e2⟩ | ⟨h2, e2⟩ <;> rw [e2]
 ·have := Rat.mul_pos (show 0 < -x by grind) (show 0 < -y by grind);rcases dF (x * y) with ⟨h3, e3⟩ | ⟨h3, e3⟩ | ⟨h3, e3⟩ <;> grind
 ·subst h2; rw [Rat.mul_zero]; rfl
 ·have := Rat.mul_pos (show 0 < -x by grind) h2;rcases dF (x * y) with ⟨h3, e3⟩ | ⟨h3, e3⟩ | ⟨h3, e3⟩ <;> grind
 ·subst h; rw [Rat.zero_mul]; rfl
 ·subst h; rw [Rat.zero_mul]; rfl
 ·subst h; rw [Rat.zero_mul]; rfl
 ·have := Rat.mul_pos h (show 0 < -y by grind);rcases dF (x * y) with ⟨h3, e3⟩ | ⟨h3, e3⟩ | ⟨h3, e3⟩ <;> grind
 ·subst h2; rw [Rat.mul_zero]; rfl
 ·have := Rat.mul_pos h h2;rcases dF (x * y) with ⟨h3, e3⟩ | ⟨h3, e3⟩ | ⟨h3, e3⟩ <;> grind
theorem aGB (n : Nat) : aS ((n + 1 : Nat) : Int) = aS n * 10 := by
 rw [yL, yL, Nat.pow_succ, Rat.natCast_mul]; rfl
end Go.Proofs.YtgpacgadpnpjjaaGreatDoor.Ma
namespace Go.Proofs.YtgpacgadpnpjjaaGreatDoor.Ma
open Me
theorem aGK (l : List UInt8) : sz (oL l).2 ≤ 2000 := by
 unfold oL;split
 ·exact parse_sz' l
 ·have hb2 : decide (46 ∈ (iP (unsigned l)).1) = false → aft 46 (iP (unsigned l)).1 = [] := fun h => (oK (of_decide_eq_false h)).2;generalize eG 46 (iP (unsigned l)).1 = f at *
  generalize aft 46 (iP (unsigned l)).1 = b at *
  have hp := aEl (unsigned l);generalize (iP (unsigned l)).2 = p at *
  generalize decide (46 ∈ (iP (unsigned l)).1) = two at *
  generalize dG l = neg;unfold iU;split
  ·have := aAJ; show sz 0 ≤ _; omega
  ·rename_i hd;split
   ·have := aAJ; show sz 0 ≤ _; omega
   ·rename_i hl;show sz (sgQ neg ((dv (f ++ b) : Nat) : Rat) * aS (p - b.length)) ≤ 2000;have h1 := qC (sgQ neg ((dv (f ++ b) : Nat) : Rat)) (aS (p - b.length));have h2 := qD (p - b.length);have h3 : sz (sgQ neg ((dv (f ++ b) : Nat) : Rat)) = sz ((dv (f ++ b) : Nat) : Rat) := by
     unfold sgQ; split
     ·exact nP _
     ·rfl
    have h4 := uJ (dv (f ++ b));have hA : aY (f ++ b) := by
     have hf : aY f := (Classical.not_not.1 (fun h => hd (.inl h))).1;have hb : aY b := by
      cases two
      ·rw [hb2 rfl]; intro c hc; simp at hc
      ·exact (Classical.not_not.1 (fun h => hd (.inr ⟨rfl, h⟩))).1
     intro c hc;rcases List.mem_append.1 hc with h | h
     ·exact hf c h
     ·exact hb c h
    have h5 : dg W64 (dv (f ++ b)) ≤ 400 := aBg hA (by rw [List.length_append]; omega);omega
end Go.Proofs.YtgpacgadpnpjjaaGreatDoor.Ma
