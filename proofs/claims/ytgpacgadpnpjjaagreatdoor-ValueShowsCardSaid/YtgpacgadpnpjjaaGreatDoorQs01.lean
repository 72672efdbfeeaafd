/- ValueShows: for every two strings the law holds: Show of the number that the first one is, and of its product with the other one, is what the document says, or nothing if one is none. No condition.. Part of the proof: texts Mc5 Md2 Md3 Md4. -/
import Derived.Test.YtgpacgadpnpjjaaGreatDoorQp01
import Derived.Test.YtgpacgadpnpjjaaGreatDoorQp02
import Derived.Test.YtgpacgadpnpjjaaGreatDoorQp03
import Derived.Test.YtgpacgadpnpjjaaGreatDoorQp04
import Derived.Test.YtgpacgadpnpjjaaGreatDoorQp05
import Derived.Test.YtgpacgadpnpjjaaGreatDoorQp06
import Derived.Test.YtgpacgadpnpjjaaGreatDoorQp07
import Derived.Test.YtgpacgadpnpjjaaGreatDoorQp08
import Derived.Test.YtgpacgadpnpjjaaGreatDoorQp09
import Derived.Test.YtgpacgadpnpjjaaGreatDoorQp10
import Derived.Test.YtgpacgadpnpjjaaGreatDoorQp11
import Derived.Test.YtgpacgadpnpjjaaGreatDoorQp12
import Derived.Test.YtgpacgadpnpjjaaGreatDoorQp13
import Derived.Test.YtgpacgadpnpjjaaGreatDoorQp14
import Derived.Test.YtgpacgadpnpjjaaGreatDoorQp15
import Derived.Test.YtgpacgadpnpjjaaGreatDoorQp16
import Derived.Test.YtgpacgadpnpjjaaGreatDoorQp17
import Derived.Test.YtgpacgadpnpjjaaGreatDoorQp18
import Derived.Test.YtgpacgadpnpjjaaGreatDoorQp19
import Derived.Test.YtgpacgadpnpjjaaGreatDoorQp20
import Derived.Test.YtgpacgadpnpjjaaGreatDoorQp21
import Derived.Test.YtgpacgadpnpjjaaGreatDoorQp22
import Derived.Test.YtgpacgadpnpjjaaGreatDoorQp23
import Derived.Test.YtgpacgadpnpjjaaGreatDoorQp24
import Derived.Test.YtgpacgadpnpjjaaGreatDoorQp25
import Derived.Test.YtgpacgadpnpjjaaGreatDoorQp27

namespace Go.Proofs.YtgpacgadpnpjjaaGreatDoor.Ma
theorem aHE (x y : Rat) : rc y x = -rc x y := by
 rcases yH x y with ⟨h, e⟩ | ⟨h, e⟩ | ⟨h, e⟩ <;> rw [e]
 ·exact aDO h
 ·subst h; exact aFz x
 ·exact aDN h
theorem aF3 (x y : Rat) : sn (x * y) = sn x * sn y := by
 rcases dF x with ⟨h, e⟩ | ⟨h, e⟩ | ⟨h, e⟩ <;> rw [e] <;> rcases dF y with ⟨h2, e2⟩ | ⟨h2, e2⟩ | ⟨h2, e2⟩ <;> rw [e2]
 ·have := Rat.mul_pos (show 0 < -x by grind) (show 0 < -y by grind);rcases dF (x * y) with ⟨h3, e3⟩ | ⟨h3, e3⟩ | ⟨h3, e3⟩ <;> grind
 ·subst h2; rw [Rat.mul_zero]; rfl
 ·have := Rat.mul_pos (show 0 < -x by grind) h2;rcases dF (x * y) with ⟨h3, e3⟩ | ⟨h3, e3⟩ | ⟨h3, e3⟩ <;> grind
 ·subst h; rw [Rat.zero_mul]; rfl
 ·subst h; rw [Rat.zero_mul]; rfl
 ·subst h; rw [Rat.zero_mul]; rfl
 ·have := Rat.mul_pos h (show 0 < -y by grind);rcases dF (x * y) with ⟨h3, e3⟩ | ⟨h3, e3⟩ | ⟨h3, e3⟩ <;> grind
 ·subst h2; rw [Rat.mul_zero]; rfl
 ·have := Rat.mul_pos h h2;rcases dF (x * y) with ⟨h3, e3⟩ | ⟨h3, e3⟩ | ⟨h3, e3⟩ <;> grind
theorem aHf (l : List UInt8) : uH (l ++ [48]) = uH l := by unfold uH; simp
theorem aHi {l : List UInt8} {c : UInt8} (h : c ≠ 48) : uH (l ++ [c]) = l ++ [c] := by
 unfold uH;rw [List.reverse_append, List.reverse_singleton, List.singleton_append, List.dropWhile_cons_of_neg (by simpa using h)];simp
theorem aHs {q : Rat} (h : q.den = 1) : gD q = ((q.num.natAbs : Nat) : Rat) := by
 have e : (q.num : Rat) = q := by rw [rF, h]; simp [Rat.mul_one]
 have hi := bG q;unfold gD;by_cases hq : q < 0
 ·have h0 := hi.2 hq;rw [if_pos hq, ← Rat.intCast_natCast, show ((q.num.natAbs : Nat) : Int) = -q.num by omega, Rat.intCast_neg, e]
 ·have h0 : ¬ q.num < 0 := fun h1 => hq (hi.1 h1);rw [if_neg hq, ← Rat.intCast_natCast, show ((q.num.natAbs : Nat) : Int) = q.num by omega, e]
theorem aHo : oM 0 = [48] := if_pos rfl
def aG2 (b M : Nat) : List UInt8 := List.replicate (b + 1 - (dec M).length) 48 ++ dec M
theorem aHF (b M : Nat) : aG2 b M = dec (M / 10 ^ b) ++ pd b (M % 10 ^ b) := by
 unfold aG2;rcases Nat.eq_zero_or_pos b with h0 | h0
 ·subst h0;have : 0 < (dec M).length := List.length_pos_iff.2 (oF M);rw [Nat.pow_zero, Nat.div_one, show 0 + 1 - (dec M).length = 0 by omega];simp [pd]
 ·rcases Nat.lt_or_ge M (10 ^ b) with h | h
  ·rw [Nat.div_eq_of_lt h, Nat.mod_eq_of_lt h, aDi b M h h0, lU];have := uI h;rw [show b + 1 - (dec M).length = 1 + (b - (dec M).length) by omega, ← List.replicate_append_replicate, List.append_assoc];rfl
  ·have hp : 0 < 10 ^ b := Nat.pow_pos (by decide);have e := tZ (hi := M / 10 ^ b) (Nat.div_pos h hp) b (M % 10 ^ b) (Nat.mod_lt _ hp);have hM : M / 10 ^ b * 10 ^ b + M % 10 ^ b = M := (by have := Nat.div_add_mod M (10 ^ b); rw [Nat.mul_comm]; exact this);rw [hM] at e;rw [e];have l1 : 0 < (dec (M / 10 ^ b)).length := List.length_pos_iff.2 (oF _);have l2 := wG b (M % 10 ^ b);rw [show b + 1 - (dec (M / 10 ^ b) ++ pd b (M % 10 ^ b)).length = 0 by rw [List.length_append]; omega];rfl
theorem aHJ (x n k : Nat) : pd (n + k) (x * 10 ^ k) = pd n x ++ List.replicate k 48 := by
 induction k with
 | zero => simp
 | succ k ih =>
   rw [← Nat.add_assoc];have e : ∀ m y, pd (m + 1) y = pd m (y / 10) ++ [dig (y % 10)] := fun _ _ => rfl;rw [e, Nat.pow_succ, ← Nat.mul_assoc, Nat.mul_div_cancel _ (by decide), Nat.mul_mod_left, ih, List.append_assoc, List.replicate_succ'];rfl
theorem aHg (l : List UInt8) (k : Nat) : uH (l ++ List.replicate k 48) = uH l := by
 induction k with
 | zero => simp
 | succ k ih => rw [List.replicate_succ', ← List.append_assoc, aHf, ih]
theorem aHt {u : Rat} {b M : Nat} (hb : b ≤ 12) (hu : u = ((M * 10 ^ (12 - b) : Nat) : Rat)) (hz : 0 < b → M % 10 ≠ 0) :
  dH u = if 400 < (aG2 b M).length then none else some (if 0 < b then (aG2 b M).take ((aG2 b M).length - b) ++ 46 :: (aG2 b M).drop ((aG2 b M).length - b) else aG2 b M) := by
 have hp : 0 < 10 ^ (12 - b) := Nat.pow_pos (by decide);have hs : 1000000000000 = 10 ^ b * 10 ^ (12 - b) := by rw [← Nat.pow_add, show b + (12 - b) = 12 by omega]
 have e1 : M * 10 ^ (12 - b) / 1000000000000 = M / 10 ^ b := by rw [hs, Nat.mul_div_mul_right _ _ hp]
 have e2 : M * 10 ^ (12 - b) % 1000000000000 = M % 10 ^ b * 10 ^ (12 - b) := by rw [hs, Nat.mul_mod_mul_right]
 have e3 : uH (pd 12 (M * 10 ^ (12 - b) % 1000000000000)) = pd b (M % 10 ^ b) := by
  rw [e2];have h := aHJ (M % 10 ^ b) b (12 - b);rw [show b + (12 - b) = 12 by omega] at h;rw [h, aHg];rcases b with _ | b
  ·rfl
  ·unfold pd;refine aHi ?_;have h1 : M % 10 ^ (b + 1) % 10 = M % 10 := Nat.mod_mod_of_dvd _ ⟨10 ^ b, by rw [Nat.pow_succ, Nat.mul_comm]⟩;rw [h1];intro h2;have h3 := congrArg UInt8.toNat h2;rw [jC (Nat.mod_lt _ (by decide))] at h3;have h4 : (48 : UInt8).toNat = 48 := rfl;have := hz (by omega);omega
 have l2 := wG b (M % 10 ^ b);unfold dH;rw [hu, if_pos (Rat.den_natCast _), Rat.num_natCast, Int.natAbs_natCast];unfold lT;rw [e1, e3, aHF, List.length_append, l2];split
 ·rfl
 ·congr 1;rw [Nat.add_sub_cancel, List.take_left, List.drop_left];rcases Nat.eq_zero_or_pos b with h0 | h0
  ·subst h0; simp [pd]
  ·have : pd b (M % 10 ^ b) ≠ [] := fun h => (by rw [h] at l2; simp at l2; omega);rw [if_neg this, if_pos h0]
theorem aHj {m : Rat} (h0 : 0 ≤ m) (h : m.den = 1) : m = ((m.num.natAbs : Nat) : Rat) := by
 have h1 := aHs h;unfold gD at h1;rw [if_neg (by grind)] at h1;exact h1
theorem aHk {m : Rat} {n : Nat} (h : m = (n : Rat)) : m.den = 1 := by rw [h]; exact Rat.den_natCast _
theorem aGB (n : Nat) : aS ((n + 1 : Nat) : Int) = aS n * 10 := by
 rw [yL, yL, Nat.pow_succ, Rat.natCast_mul]; rfl
theorem aHu {m : Rat} (h : Beh m 13) : dH (m * aS 12) = none := if_neg (h.no 12 (by decide))
theorem aG9 {m : Rat} {b : Nat} (h : Beh m b) (h0 : 0 ≤ m) (hb : b ≤ 12) (hd : (m * aS b).den = 1) :
  dH (m * aS 12) = if 400 < (aG2 b (m * aS b).num.natAbs).length then none else some (if 0 < b then (aG2 b (m * aS b).num.natAbs).take ((aG2 b (m * aS b).num.natAbs).length - b) ++ 46 :: (aG2 b (m * aS b).num.natAbs).drop ((aG2 b (m * aS b).num.natAbs).length - b) else aG2 b (m * aS b).num.natAbs) := by
 have hp : 0 ≤ m * aS b := Rat.mul_nonneg h0 (Rat.le_of_lt (yK _));have hM := aHj hp hd;generalize (m * aS b).num.natAbs = M at *
 refine aHt hb ?_ ?_
 ·have e : aS 12 = aS (b : Int) * aS ((12 - b : Nat) : Int) := (by rw [← aDg]; congr 1; omega);rw [e, ← Rat.mul_assoc, hM, yL, ← Rat.natCast_mul]
 ·intro hb0 hz;obtain ⟨k, rfl⟩ : ∃ k, b = k + 1 := ⟨b - 1, by omega⟩
  refine h.no k (by omega) ?_;obtain ⟨n, hn⟩ : ∃ n, M = n * 10 := ⟨M / 10, by omega⟩
  refine aHk (n := n) ?_;rw [aGB, ← Rat.mul_assoc, hn, Rat.natCast_mul] at hM;have : ((10 : Nat) : Rat) = 10 := rfl;rw [this] at hM;grind
end Go.Proofs.YtgpacgadpnpjjaaGreatDoor.Ma
