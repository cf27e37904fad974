import Derived.Test.YtbeiapdobffpiaaGreatDoorRows
import Derived.WalkKit
import Derived.ProofKit
import Derived.Test.YtbeiapdobffpiaaGreatDoorQ00
namespace Go.Proofs.YtbeiapdobffpiaaGreatDoor.paneScrolled
set_option linter.all false
theorem jf:joinedFacts Tryz.pinned.checked.prog 3 Tryz.f3 (OpenSpec.ofChange Rows.paneScrolledSpec).bare Rows.paneScrolledRow=true:=by kernel_rfl
end Go.Proofs.YtbeiapdobffpiaaGreatDoor.paneScrolled
