import Derived.Shelf.Strings.Repeat
import Derived.Shelf.Strings.BuilderK
import Derived.Test.YtmbefonnkkhfgaaGreatDoorProg
import Derived.Test.YtmbefonnkkhfgaaGreatDoorQ00
set_option linter.unusedVariables false
set_option maxRecDepth 100000
set_option maxHeartbeats 16000000
namespace Go.Proofs.YtmbefonnkkhfgaaGreatDoor
section
open Go.Shelf Go.RowKit Go.Proofs.Tryz
def libRen:Go.Shelf.Ren:=⟨fun|99=>122|105=>66|165=>123|166=>124|169=>126|170=>125|206=>150|212=>61|240=>151|241=>152|263=>118|264=>119|276=>169|277=>170|n=>n,fun|0=>0|3=>3|4=>4|5=>5|9=>9|20=>20|37=>134|46=>125|51=>183|53=>186|70=>191|72=>193|75=>81|76=>194|80=>97|109=>126|127=>235|146=>184|148=>187|164=>161|n=>n,fun|n=>n⟩
theorem lays105:Go.Proofs.Lays.n105 prog libRen:={
 mixed:=by kernel_rfl
 f99:=func122.trans (congrArg some (by kernel_rfl))
 f105:=func66.trans (congrArg some (by kernel_rfl))
 f165:=func123.trans (congrArg some (by kernel_rfl))
 f166:=func124.trans (congrArg some (by kernel_rfl))
 f169:=func126.trans (congrArg some (by kernel_rfl))
 f170:=func125.trans (congrArg some (by kernel_rfl))
 f206:=func150.trans (congrArg some (by kernel_rfl))
 f212:=func61.trans (congrArg some (by kernel_rfl))
 f240:=func151.trans (congrArg some (by kernel_rfl))
 f241:=func152.trans (congrArg some (by kernel_rfl))
 f263:=func118.trans (congrArg some (by kernel_rfl))
 f264:=func119.trans (congrArg some (by kernel_rfl))
 f276:=func169.trans (congrArg some (by kernel_rfl))
 f277:=func170.trans (congrArg some (by kernel_rfl))
 t0:=underlying0
 a0:=isAgg0
 z0:=sizeOf0
 v0:=zeroValue0
 t3:=underlying3
 a3:=isAgg3
 z3:=sizeOf3
 v3:=zeroValue3
 t4:=underlying4
 a4:=isAgg4
 z4:=sizeOf4
 v4:=zeroValue4
 t5:=underlying5
 a5:=isAgg5
 z5:=sizeOf5
 v5:=zeroValue5
 t9:=underlying9
 a9:=isAgg9
 z9:=sizeOf9
 v9:=zeroValue9
 t20:=underlying20
 a20:=isAgg20
 z20:=sizeOf20
 v20:=zeroValue20
 t37:=underlying134
 a37:=isAgg134
 z37:=sizeOf134
 v37:=zeroValue134
 t46:=underlying125
 a46:=isAgg125
 z46:=sizeOf125
 v46:=zeroValue125
 t51:=underlying183
 a51:=isAgg183
 z51:=sizeOf183
 v51:=zeroValue183
 t53:=underlying186
 a53:=isAgg186
 z53:=sizeOf186
 v53:=zeroValue186
 t70:=underlying191
 a70:=isAgg191
 z70:=sizeOf191
 v70:=zeroValue191
 t72:=underlying193
 a72:=isAgg193
 z72:=sizeOf193
 v72:=zeroValue193
 t75:=underlying81
 a75:=isAgg81
 z75:=sizeOf81
 v75:=zeroValue81
 t76:=underlying194
 a76:=isAgg194
 z76:=sizeOf194
 v76:=zeroValue194
 t109:=underlying126
 a109:=isAgg126
 z109:=sizeOf126
 v109:=zeroValue126
 t127:=underlying235
 a127:=isAgg235
 z127:=sizeOf235
 v127:=zeroValue235
 t146:=underlying184
 a146:=isAgg184
 z146:=sizeOf184
 v146:=zeroValue184
 t148:=underlying187
 a148:=isAgg187
 z148:=sizeOf187
 v148:=zeroValue187
 t164:=underlying161
 a164:=isAgg161
 z164:=sizeOf161
 v164:=zeroValue161}
theorem lays166:Go.Proofs.Lays.n166 prog libRen:={
 mixed:=by kernel_rfl
 f166:=func124.trans (congrArg some (by kernel_rfl))
 f240:=func151.trans (congrArg some (by kernel_rfl))
 f276:=func169.trans (congrArg some (by kernel_rfl))
 t0:=underlying0
 a0:=isAgg0
 z0:=sizeOf0
 v0:=zeroValue0
 t3:=underlying3
 a3:=isAgg3
 z3:=sizeOf3
 v3:=zeroValue3
 t4:=underlying4
 a4:=isAgg4
 z4:=sizeOf4
 v4:=zeroValue4
 t9:=underlying9
 a9:=isAgg9
 z9:=sizeOf9
 v9:=zeroValue9
 t20:=underlying20
 a20:=isAgg20
 z20:=sizeOf20
 v20:=zeroValue20
 t37:=underlying134
 a37:=isAgg134
 z37:=sizeOf134
 v37:=zeroValue134
 t70:=underlying191
 a70:=isAgg191
 z70:=sizeOf191
 v70:=zeroValue191
 t72:=underlying193
 a72:=isAgg193
 z72:=sizeOf193
 v72:=zeroValue193
 t75:=underlying81
 a75:=isAgg81
 z75:=sizeOf81
 v75:=zeroValue81
 t164:=underlying161
 a164:=isAgg161
 z164:=sizeOf161
 v164:=zeroValue161}
theorem lays169:Go.Proofs.Lays.n169 prog libRen:={
 mixed:=by kernel_rfl
 f169:=func126.trans (congrArg some (by kernel_rfl))
 t0:=underlying0
 a0:=isAgg0
 z0:=sizeOf0
 v0:=zeroValue0
 t3:=underlying3
 a3:=isAgg3
 z3:=sizeOf3
 v3:=zeroValue3
 t9:=underlying9
 a9:=isAgg9
 z9:=sizeOf9
 v9:=zeroValue9
 t37:=underlying134
 a37:=isAgg134
 z37:=sizeOf134
 v37:=zeroValue134
 t70:=underlying191
 a70:=isAgg191
 z70:=sizeOf191
 v70:=zeroValue191
 t72:=underlying193
 a72:=isAgg193
 z72:=sizeOf193
 v72:=zeroValue193
 t127:=underlying235
 a127:=isAgg235
 z127:=sizeOf235
 v127:=zeroValue235}
theorem libX:Builder.Extra prog libRen:={
 sizeBuilder:=by kernel_rfl
 liesBuilder:=by kernel_rfl
 t5:=underlying5
 a5:=isAgg5
 z5:=sizeOf5
 v5:=zeroValue5
 infoByte:=by kernel_rfl
 cellsByte:=by kernel_rfl
 sizeByte:=by kernel_rfl
 neB5:=by decide}
theorem repeat_lib(s:ByteArray)(c:Nat)(w:World)(hc:c≤9223372036854775807)(hlen:s.size*c≤140737488355328):
 Calls prog 66 #[.string s,Iq c] w fun e w'=>e=.returned (.string ⟨(Lib.repeatL s.data.toList c).toArray⟩)∧Below w.heap.size w w':=Any.strings_Repeat lays105 libX s c w hc hlen
theorem writeString_lib(B b:Nat)(bs:List Value)(s:ByteArray)(w:World)(h:Lib.IsBuilderF 193 5 B b bs w)(hlen:bs.length+s.size≤140737488355328)(hBw:B≤w.heap.size):
 Calls prog 124 #[Pq b,.string s] w fun e w'=>e=.returned (.tuple #[Iq s.size,.nilIface])∧(Lib.BuilderAtF 193 5 B b (Pq b) (bs++Lib.strCells s) w'∧Below B w w'∧Lib.OthersKept 5 (some b) w w'):=Any.Builder_WriteString_k lays166 libX B b bs s w h hlen hBw
theorem string_lib(B b:Nat)(l:List UInt8)(w:World)(h:Lib.IsBuilderF 193 5 B b (Lib.byteCells l) w)(hBw:B≤w.heap.size):
 Calls prog 126 #[Pq b] w fun e w'=>e=.returned (.string ⟨l.toArray⟩)∧(Lib.IsBuilderF 193 5 B b (Lib.byteCells l) w'∧Below B w w'∧Lib.OthersKept 5 (some b) w w'):=Any.Builder_String_any_k lays169 libX B b l w h hBw
end
end Go.Proofs.YtmbefonnkkhfgaaGreatDoor
