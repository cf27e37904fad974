import Derived.Test.YtehgehanbnkdiaaGreatDoorRows
import Derived.WalkKit
import Derived.ProofKit
import Derived.Test.YtehgehanbnkdiaaGreatDoorQ00
namespace Go.Proofs.YtehgehanbnkdiaaGreatDoor.paneRefuses
set_option linter.all false
def two{a b:Bool}(h:a=true)(k:b=true):(a&&b)=true:=by rw[h,k];rfl
set_option maxHeartbeats 80000000 in
def jf:joinedFacts Tryz.pinned.checked.prog 4 Tryz.f4 (Rows.OpenSpec.upto Rows.paneRefusesSpec).bare Rows.paneRefusesUptoRow=true:=by
 unfold joinedFacts;repeat' with_reducible refine two ?_ ?_
 all_goals as_aux_lemma=>kernel_rfl
end Go.Proofs.YtehgehanbnkdiaaGreatDoor.paneRefuses
