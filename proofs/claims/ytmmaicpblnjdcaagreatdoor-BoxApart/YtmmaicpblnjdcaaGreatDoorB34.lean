import Derived.Test.YtmmaicpblnjdcaaGreatDoorB28
import Derived.Test.YtmmaicpblnjdcaaGreatDoorB33
import Derived.Test.YtmmaicpblnjdcaaGreatDoorB32
set_option linter.unusedVariables false
set_option maxRecDepth 100000
set_option maxHeartbeats 16000000
namespace Go.Proofs.YtmmaicpblnjdcaaGreatDoor
section
open Go.RowKit
theorem z2o{s:ByteArray}{L:List Nd}(h:z17 s=.ok L):z3t s=.ok L:=by rw[<-zg6,h];rfl
theorem zea{s:ByteArray}{x:Option (Nat×Nat)}(h:z17 s=.error x):z3t s=.error (errC x,errP x):=by
 rw[<-zg6,h]
 cases x with
 | none=>rfl
 | some q=>rfl
theorem zf7{s:ByteArray}{x:Option (Nat×Nat)}(h:z17 s=.error x):1≤errC x:=by
 cases x with
 | none=>exact Nat.le_refl _
 | some q=>obtain⟨c,p⟩:=q;have:=(zba h).1;show 1≤c;omega
end
end Go.Proofs.YtmmaicpblnjdcaaGreatDoor
