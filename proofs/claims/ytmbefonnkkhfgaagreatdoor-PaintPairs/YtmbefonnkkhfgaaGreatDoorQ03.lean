import Derived.Shelf.Bits.Mul64
import Derived.Test.YtmbefonnkkhfgaaGreatDoorProg
set_option linter.unusedVariables false
set_option maxRecDepth 100000
set_option maxHeartbeats 16000000
namespace Go.Proofs.YtmbefonnkkhfgaaGreatDoor
section
open Go.Shelf Go.RowKit Go.Proofs.Tryz
def clibRen:Go.Shelf.Ren:=⟨fun|212=>61|263=>118|264=>119|n=>n,fun|46=>125|51=>183|53=>186|146=>184|148=>187|n=>n,fun|n=>n⟩
theorem clays212:Go.Proofs.Lays.n212 prog clibRen:={
 mixed:=by kernel_rfl
 f212:=func61.trans (congrArg some (by kernel_rfl))
 f263:=func118.trans (congrArg some (by kernel_rfl))
 f264:=func119.trans (congrArg some (by kernel_rfl))
 t46:=underlying125
 a46:=isAgg125
 z46:=sizeOf125
 v46:=zeroValue125
 t51:=underlying183
 a51:=isAgg183
 z51:=sizeOf183
 v51:=zeroValue183
 t53:=underlying186
 a53:=isAgg186
 z53:=sizeOf186
 v53:=zeroValue186
 t146:=underlying184
 a146:=isAgg184
 z146:=sizeOf184
 v146:=zeroValue184
 t148:=underlying187
 a148:=isAgg187
 z148:=sizeOf187
 v148:=zeroValue187}
theorem mul_lib(x y:Nat)(hx:x<18446744073709551616)(hy:y<18446744073709551616)(w:World):
 Calls prog 61 #[.int .u64 x,.int .u64 y] w fun e w'=>e=.returned (.tuple #[.int .u64 ((x*y/18446744073709551616:Nat):Int),.int .u64 ((x*y %18446744073709551616:Nat):Int)])∧w'=w:=Any.bits_Mul clays212 x y hx hy w
end
end Go.Proofs.YtmbefonnkkhfgaaGreatDoor
