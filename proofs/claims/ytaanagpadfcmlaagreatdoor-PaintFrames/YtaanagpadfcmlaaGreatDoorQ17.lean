import Derived.Test.YtaanagpadfcmlaaGreatDoorRows
import Derived.WalkKit
import Derived.ProofKit
import Derived.Test.YtaanagpadfcmlaaGreatDoorQ00
namespace Go.Proofs.YtaanagpadfcmlaaGreatDoor.paintFrames
set_option linter.all false
theorem jf:joinedFacts Tryz.pinned.checked.prog 3 Tryz.f3 (OpenSpec.ofChange Rows.paintFramesSpec).bare Rows.paintFramesRow=true:=ns
end Go.Proofs.YtaanagpadfcmlaaGreatDoor.paintFrames
