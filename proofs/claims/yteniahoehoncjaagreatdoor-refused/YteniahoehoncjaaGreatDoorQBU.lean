import Derived.Test.YteniahoehoncjaaGreatDoorRows
import Derived.JoinedCond
set_option maxHeartbeats 99999999
set_option maxRecDepth 100000
namespace Go.Proofs.YteniahoehoncjaaGreatDoor
theorem abm:joinedFacts Tryz.pinned.checked.prog 3 Tryz.f3 (OpenSpec.ofChange Rows.refusedSpec).bare Rows.refusedRow=true:=by kernel_rfl
end Go.Proofs.YteniahoehoncjaaGreatDoor
