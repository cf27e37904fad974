import Derived.Test.YtbeiapdobffpiaaGreatDoorQ29
import Derived.Test.YtbeiapdobffpiaaGreatDoorQ28
set_option linter.all false
set_option maxRecDepth 100000
set_option maxHeartbeats 16000000
namespace Go.Proofs.YtbeiapdobffpiaaGreatDoor
open Go.RowKit Go.Proofs.Tryz
theorem c_{s}{L}(h:b9 s=.ok L):fO s=.ok L:=by rw[<-xB,h];rfl
theorem xf{s}{x}(h:b9 s=.error x):fO s=.error (jy x,qw x):=by
 rw[<-xB,h];cases x with
 |none=>rfl
 |some q=>rfl
theorem wC{s}{x}(h:b9 s=.error x):1<=jy x:=by
 cases x with
 |none=>exact ai _
 |some q=>obtain⟨c,p⟩:=q;have:=(sJ h).1;show 1<=c;omega
