import Derived.Test.YtbeiapdobffpiaaGreatDoorQ08
import Derived.Deep.RegionLaw
import Derived.Deep.OwnRows
set_option linter.all false
set_option maxRecDepth 100000
set_option maxHeartbeats 16000000
namespace Go.Proofs.YtbeiapdobffpiaaGreatDoor
open Go.RowKit
