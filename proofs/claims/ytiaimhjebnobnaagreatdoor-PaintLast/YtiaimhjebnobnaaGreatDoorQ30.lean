import Derived.Test.YtiaimhjebnobnaaGreatDoorQ29
import Derived.Test.YtiaimhjebnobnaaGreatDoorQ28
set_option linter.all false
set_option maxRecDepth 100000
set_option maxHeartbeats 16000000
namespace Go.Proofs.YtiaimhjebnobnaaGreatDoor
open Go.RowKit Go.Proofs.Tryz
theorem fO{s}{L}(h:cL s=.ok L):gC s=.ok L:=by rw[<-Bg,h];rfl
theorem AJ{s}{x}(h:cL s=.error x):gC s=.error (jX x,pR x):=by
 rw[<-Bg,h];cases x with
 |none=>rfl
 |some q=>rfl
theorem uc{s}{x}(h:cL s=.error x):1<=jX x:=by
 cases x with
 |none=>exact ai _
 |some q=>obtain⟨c,p⟩:=q;have:=(vQ h).1;show 1<=c;omega
