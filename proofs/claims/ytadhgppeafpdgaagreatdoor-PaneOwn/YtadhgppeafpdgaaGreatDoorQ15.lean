import Derived.Test.YtadhgppeafpdgaaGreatDoorRows
import Derived.WalkKit
import Derived.ProofKit
import Derived.Test.YtadhgppeafpdgaaGreatDoorQ00
namespace Go.Proofs.YtadhgppeafpdgaaGreatDoor.paneOwn
set_option linter.all false
theorem jf:joinedFacts Tryz.pinned.checked.prog 3 Tryz.f3 (OpenSpec.ofChange Rows.paneOwnSpec).bare Rows.paneOwnRow=true:=by kernel_rfl
end Go.Proofs.YtadhgppeafpdgaaGreatDoor.paneOwn
