import Derived.Test.YtnponhbgicbkcaaGreatDoorL28
import Derived.Test.YtnponhbgicbkcaaGreatDoorL27
set_option linter.unusedVariables false
set_option maxRecDepth 100000
set_option maxHeartbeats 16000000
namespace Go.Proofs.YtnponhbgicbkcaaGreatDoor
section
open Go.RowKit Go.Proofs.Tryz
theorem parse_of_ok{s}{L}(h:pTree s=.ok L):parse s=.ok L:=by rw[<-tree_eq,h];rfl
theorem parse_of_err{s}{x}(h:pTree s=.error x):parse s=.error (errC x,errP x):=by
 rw[<-tree_eq,h];cases x with
 |none=>rfl
 |some q=>rfl
theorem err_pos{s}{x}(h:pTree s=.error x):1≤errC x:=by
 cases x with
 |none=>exact Nat.le_refl _
 |some q=>obtain⟨c,p⟩:=q;have:=(pTree_code h).1;show 1≤c;omega
