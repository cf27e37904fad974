import Derived.Below
set_option linter.unusedVariables false
set_option maxRecDepth 100000
set_option maxHeartbeats 16000000
namespace Go.Proofs.YtnponhbgicbkcaaGreatDoor
section
open Go.RowKit
theorem qH{p:Prop}(h:p):Hid p:=h
end
end Go.Proofs.YtnponhbgicbkcaaGreatDoor
