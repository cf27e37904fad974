import Derived.Test.YtiaimhjebnobnaaGreatDoorRows
import Derived.WalkKit
import Derived.ProofKit
import Derived.Test.YtiaimhjebnobnaaGreatDoorQ00
namespace Go.Proofs.YtiaimhjebnobnaaGreatDoor.paintLast
set_option linter.all false
theorem jf:joinedFacts Tryz.pinned.checked.prog 3 Tryz.f3 (OpenSpec.ofChange Rows.paintLastSpec).bare Rows.paintLastRow=true:=by kernel_rfl
end Go.Proofs.YtiaimhjebnobnaaGreatDoor.paintLast
