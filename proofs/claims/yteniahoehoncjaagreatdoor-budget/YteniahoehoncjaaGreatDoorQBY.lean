import Derived.Test.YteniahoehoncjaaGreatDoorRows
import Derived.JoinedCond
set_option maxHeartbeats 99999999
set_option maxRecDepth 100000
namespace Go.Proofs.YteniahoehoncjaaGreatDoor
theorem abn:joinedFacts Tryz.pinned.checked.prog 4 Tryz.f4 (OpenSpec.ofChange Rows.budgetSpec).bare Rows.budgetRow=true:=by kernel_rfl
end Go.Proofs.YteniahoehoncjaaGreatDoor
