import Derived.Test.YtmbefonnkkhfgaaGreatDoorQ28
import Derived.Test.YtmbefonnkkhfgaaGreatDoorQ32
import Derived.Test.YtmbefonnkkhfgaaGreatDoorQ31
set_option linter.unusedVariables false
set_option maxRecDepth 100000
set_option maxHeartbeats 16000000
namespace Go.Proofs.YtmbefonnkkhfgaaGreatDoor
section
open Go.RowKit Go.Proofs.Tryz
theorem parse_of_ok{s:ByteArray}{L:List Nd}(h:pTree s=.ok L):parse s=.ok L:=by rw[<-tree_eq,h];rfl
theorem parse_of_err{s:ByteArray}{x:Option (Nat×Nat)}(h:pTree s=.error x):parse s=.error (errC x,errP x):=by
 rw[<-tree_eq,h];cases x with
 |none=>rfl
 |some q=>rfl
theorem err_pos{s:ByteArray}{x:Option (Nat×Nat)}(h:pTree s=.error x):1≤errC x:=by
 cases x with
 |none=>exact Nat.le_refl _
 |some q=>obtain⟨c,p⟩:=q;have:=(pTree_code h).1;show 1≤c;omega
end
end Go.Proofs.YtmbefonnkkhfgaaGreatDoor
