/- FilterKnown holds. No condition. -/
import Derived.Test.YtamnpcdkcdfgaaaGreatDoorQe16
namespace Go.Proofs.YtamnpcdkcdfgaaaGreatDoor
open Go.RowKit
open Ma Me
theorem aB3 {s : Bool} {p : Rat} (h : s = decide (p.num < 0)) (b : Nat) : sg s (p.num.natAbs * b) = p.num * b := by
 subst h;have h := qI p;have h2 : sg (decide (p.num < 0)) (p.num.natAbs * b) = sg (decide (p.num < 0)) p.num.natAbs * b := by
  unfold sg;split
  ·rw [Int.natCast_mul, Int.neg_mul]
  ·rw [Int.natCast_mul]
 rw [h2, h]
theorem aMc {s : Bool} {K a b : Nat} {x y : Int} (h : sg s K = x * (a : Int) + y * (b : Int)) : dg W64 K ≤ dg W64 x.natAbs + dg W64 a + dg W64 y.natAbs + dg W64 b + 1 := by
 have h1 : K ≤ x.natAbs * a + y.natAbs * b := by
  have h2 := aEw s K;rw [h] at h2;have := Int.natAbs_add_le (x * (a : Int)) (y * (b : Int));rw [Int.natAbs_mul, Int.natAbs_mul, Int.natAbs_natCast, Int.natAbs_natCast] at this;omega
 have h3 := jO aD h1;have h4 := rR aD (x.natAbs * a) (y.natAbs * b);have h5 := gI aD x.natAbs a;have h6 := gI aD y.natAbs b;omega
end Go.Proofs.YtamnpcdkcdfgaaaGreatDoor
