import Derived.Shelf.Utf8.AppendRunePlain
import Derived.Test.YtnponhbgicbkcaaGreatDoorProg
set_option linter.unusedVariables false
set_option maxRecDepth 100000
set_option maxHeartbeats 16000000
namespace Go.Proofs.YtnponhbgicbkcaaGreatDoor
section
open Go.Shelf Go.RowKit
def zf7:Go.Shelf.Ren:=⟨fun|242=>217|278=>234|n=>n,fun|37=>151|21=>21|51=>250|4=>4|5=>5|46=>186|n=>n,fun|n=>n⟩
theorem zsi:Go.Proofs.Lays.n242 Tryz.prog zf7:={
 mixed:=by kernel_rfl
 f242:=Tryz.func217.trans (congrArg some (by kernel_rfl))
 f278:=Tryz.func234.trans (congrArg some (by kernel_rfl))
 t4:=Tryz.underlying4
 a4:=Tryz.isAgg4
 z4:=Tryz.sizeOf4
 v4:=Tryz.zeroValue4
 t5:=Tryz.underlying5
 a5:=Tryz.isAgg5
 z5:=Tryz.sizeOf5
 v5:=Tryz.zeroValue5
 t21:=Tryz.underlying21
 a21:=Tryz.isAgg21
 z21:=Tryz.sizeOf21
 v21:=Tryz.zeroValue21
 t37:=Tryz.underlying151
 a37:=Tryz.isAgg151
 z37:=Tryz.sizeOf151
 v37:=Tryz.zeroValue151
 t46:=Tryz.underlying186
 a46:=Tryz.isAgg186
 z46:=Tryz.sizeOf186
 v46:=Tryz.zeroValue186
 t51:=Tryz.underlying250
 a51:=Tryz.isAgg250
 z51:=Tryz.sizeOf250
 v51:=Tryz.zeroValue250 }
theorem zaa(B:Nat)(v:Value)(n:Nat)(xs:List Value)(r:Int)(hr0 : -2147483648≤r)(hr1:r≤2147483647)(w:World)(hown:w.ownsRow B 5 1 v n xs)(hlen:n+4≤140737488355328)(hBw:B≤w.heap.size) :
 Calls Tryz.prog 217 #[v,.int .i32 r] w fun e w'=>∃v',e=.returned v'∧w'.ownsRow B 5 1 v' (n+(Lib.runeCells r).length) (xs++Lib.runeCells r)∧∃o,(w.alloc o).grownBy w' v.ownBlock:=Any.utf8_AppendRune_plain zsi (by kernel_rfl) B v n xs r hr0 hr1 w hown hlen hBw
end
end Go.Proofs.YtnponhbgicbkcaaGreatDoor
