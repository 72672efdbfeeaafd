/- FilterFamilies holds. No condition. -/
import Derived.Test.YtohcfjmkfflkpaaGreatDoorQf14
namespace Go.Proofs.YtohcfjmkfflkpaaGreatDoor
section
open Go.RowKit
open Ma Me
theorem aFI{s:Bool}{p:Rat}(h:s=decide (p.num<0))(b:Nat):sg s (p.num.natAbs*b)=p.num*b:=by
 subst h;have h:=sU p;have h2:sg (decide (p.num<0)) (p.num.natAbs*b)=sg (decide (p.num<0)) p.num.natAbs*b:=by
  unfold sg;split
  ·rw[Int.natCast_mul,Int.neg_mul]
  ·rw[Int.natCast_mul]
 rw[h2,h]
theorem aRN{s:Bool}{K a b:Nat}{x y:Int}(h:sg s K=x*(a:Int)+y*(b:Int)):dg W64 K≤dg W64 x.natAbs+dg W64 a+dg W64 y.natAbs+dg W64 b+1:=by
 have h1:K≤x.natAbs*a+y.natAbs*b:=by
  have h2:=aIN s K;rw[h]at h2;have:=Int.natAbs_add_le (x*(a:Int)) (y*(b:Int));rw[Int.natAbs_mul,Int.natAbs_mul,Int.natAbs_natCast,Int.natAbs_natCast]at this;omega
 have h3:=dQ aC h1;have h4:=vG aC (x.natAbs*a) (y.natAbs*b);have h5:=dC aC x.natAbs a;have h6:=dC aC y.natAbs b;omega
end
end Go.Proofs.YtohcfjmkfflkpaaGreatDoor
