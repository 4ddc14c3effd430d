import Derived.Test.YteniahoehoncjaaGreatDoorRows
import Derived.JoinedCond
set_option maxHeartbeats 99999999
set_option maxRecDepth 100000
namespace Go.Proofs.YteniahoehoncjaaGreatDoor
theorem abp:joinedFacts Tryz.pinned.checked.prog 5 Tryz.f5 (OpenSpec.ofChange Rows.layoutSpec).bare Rows.layoutRow=true:=by kernel_rfl
end Go.Proofs.YteniahoehoncjaaGreatDoor
