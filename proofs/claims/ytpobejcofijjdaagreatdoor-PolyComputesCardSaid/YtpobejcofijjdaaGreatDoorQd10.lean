/- PolyComputes is true for any two slices of strings and any two strings. No condition. -/
import Derived.Shelf.Spec.BitsCarry
import Derived.Shelf.Spec.TrailingZeros
import Derived.Test.YtpobejcofijjdaaGreatDoorProg
namespace Go.Proofs
open Go.Shelf
def Tryz.lays7n25_ren:Go.Shelf.Ren:=⟨fun|25=>214|n=>n,fun|22=>101|n=>n,fun|n=>n⟩
theorem Tryz.lays7n25:Go.Proofs.Lays7.n25 Tryz.prog Tryz.lays7n25_ren:={
 mixed:=by kernel_rfl
 f25:=Tryz.func214.trans (congrArg some (by kernel_rfl))
 t22:=Tryz.underlying101
 a22:=Tryz.isAgg101
 z22:=Tryz.sizeOf101
 v22:=Tryz.zeroValue101
 i22:=by kernel_rfl}
def Tryz.lays7n26_ren:Go.Shelf.Ren:=⟨fun|26=>218|n=>n,fun|22=>101|n=>n,fun|n=>n⟩
theorem Tryz.lays7n26:Go.Proofs.Lays7.n26 Tryz.prog Tryz.lays7n26_ren:={
 mixed:=by kernel_rfl
 f26:=Tryz.func218.trans (congrArg some (by kernel_rfl))
 t22:=Tryz.underlying101
 a22:=Tryz.isAgg101
 z22:=Tryz.sizeOf101
 v22:=Tryz.zeroValue101
 i22:=by kernel_rfl}
def Tryz.lays7n29_ren:Go.Shelf.Ren:=⟨fun|29=>183|n=>n,fun|22=>101|3=>3|4=>4|25=>196|54=>225|0=>0|5=>5|n=>n,fun|1=>0|n=>n⟩
theorem Tryz.lays7n29:Go.Proofs.Lays7.n29 Tryz.prog Tryz.lays7n29_ren:={
 mixed:=by kernel_rfl
 f29:=Tryz.func183.trans (congrArg some (by kernel_rfl))
 t0:=Tryz.underlying0
 a0:=Tryz.isAgg0
 z0:=Tryz.sizeOf0
 v0:=Tryz.zeroValue0
 i0:=by kernel_rfl
 t3:=Tryz.underlying3
 a3:=Tryz.isAgg3
 z3:=Tryz.sizeOf3
 v3:=Tryz.zeroValue3
 i3:=by kernel_rfl
 t4:=Tryz.underlying4
 a4:=Tryz.isAgg4
 z4:=Tryz.sizeOf4
 v4:=Tryz.zeroValue4
 i4:=by kernel_rfl
 t5:=Tryz.underlying5
 a5:=Tryz.isAgg5
 z5:=Tryz.sizeOf5
 v5:=Tryz.zeroValue5
 i5:=by kernel_rfl
 t22:=Tryz.underlying101
 a22:=Tryz.isAgg101
 z22:=Tryz.sizeOf101
 v22:=Tryz.zeroValue101
 i22:=by kernel_rfl
 t25:=Tryz.underlying196
 a25:=Tryz.isAgg196
 z25:=Tryz.sizeOf196
 v25:=Tryz.zeroValue196
 i25:=by kernel_rfl
 t54:=Tryz.underlying225
 a54:=Tryz.isAgg225
 z54:=Tryz.sizeOf225
 g1:=by kernel_rfl}
end Go.Proofs
