import Derived.Test.YtnponhbgicbkcaaGreatDoorProg
import Derived.WalkKit
set_option linter.unusedVariables false
set_option maxRecDepth 100000
set_option maxHeartbeats 16000000
namespace Go.Proofs.YtnponhbgicbkcaaGreatDoor
section
open Go.RowKit
def Ints(w:World)(v:Value)(zs:List Int):Prop :=
 ∃a cap,v=.slice a zs.length cap∧(zs=[]∨∃b off,a=some ⟨b,off,none⟩∧b<w.heap.size∧∀j,j<zs.length->w.cell? ⟨b,off+j,none⟩=some (.int .i64 (zs[j]?.getD 0)))
end
end Go.Proofs.YtnponhbgicbkcaaGreatDoor
