import Derived.Test.YtnponhbgicbkcaaGreatDoorC28
import Derived.Test.YtnponhbgicbkcaaGreatDoorC33
import Derived.Test.YtnponhbgicbkcaaGreatDoorC32
set_option linter.unusedVariables false
set_option maxRecDepth 100000
set_option maxHeartbeats 16000000
namespace Go.Proofs.YtnponhbgicbkcaaGreatDoor
section
open Go.RowKit
theorem z23{s:ByteArray}{L:List Nd}(h:z0s s=.ok L):z3p s=.ok L:=by rw[<-zft,h];rfl
theorem ze1{s:ByteArray}{x:Option (Nat×Nat)}(h:z0s s=.error x):z3p s=.error (errC x,errP x):=by
 rw[<-zft,h]
 cases x with
 | none=>rfl
 | some q=>rfl
theorem z90{s:ByteArray}{x:Option (Nat×Nat)}(h:z0s s=.error x):1≤errC x:=by
 cases x with
 | none=>exact Nat.le_refl _
 | some q=>obtain⟨c,p⟩:=q;have:=(zb1 h).1;show 1≤c;omega
end
end Go.Proofs.YtnponhbgicbkcaaGreatDoor
