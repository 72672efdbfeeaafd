/- SymbolKnown holds. No condition. -/
import Derived.Test.YtamnpcdkcdfgaaaGreatDoorQs16
namespace Go.Proofs.YtamnpcdkcdfgaaaGreatDoor
section
open Go.RowKit
open Ma Me
theorem aCt{s:Bool}{p:Rat}(h:s=decide (p.num<0))(b:Nat):sg s (p.num.natAbs*b)=p.num*b:=by
 subst h;have h:=qV p;have h2:sg (decide (p.num<0)) (p.num.natAbs*b)=sg (decide (p.num<0)) p.num.natAbs*b:=by
  unfold sg;split
  ·rw[Int.natCast_mul,Int.neg_mul]
  ·rw[Int.natCast_mul]
 rw[h2,h]
theorem aM7{s:Bool}{K a b:Nat}{x y:Int}(h:sg s K=x*(a:Int)+y*(b:Int)):dg W64 K≤dg W64 x.natAbs+dg W64 a+dg W64 y.natAbs+dg W64 b+1:=by
 have h1:K≤x.natAbs*a+y.natAbs*b:=by
  have h2:=aFb s K;rw[h]at h2;have:=Int.natAbs_add_le (x*(a:Int)) (y*(b:Int));rw[Int.natAbs_mul,Int.natAbs_mul,Int.natAbs_natCast,Int.natAbs_natCast]at this;omega
 have h3:=jW aD h1;have h4:=sO aD (x.natAbs*a) (y.natAbs*b);have h5:=gK aD x.natAbs a;have h6:=gK aD y.natAbs b;omega
end
end Go.Proofs.YtamnpcdkcdfgaaaGreatDoor
