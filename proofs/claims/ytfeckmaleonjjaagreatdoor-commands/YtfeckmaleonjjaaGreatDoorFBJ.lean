import Derived.Test.YtfeckmaleonjjaaGreatDoorRows
import Derived.JoinedCond
set_option maxHeartbeats 0
set_option maxRecDepth 100000
namespace Go.Proofs.YtfeckmaleonjjaaGreatDoor
open _root_.Go.Proofs.Tryz
theorem aht:joinedFacts Tryz.pinned.checked.prog 4 f4 (OpenSpec.ofChange Rows.commandsSpec).bare Rows.commandsRow=true:=by kernel_rfl
