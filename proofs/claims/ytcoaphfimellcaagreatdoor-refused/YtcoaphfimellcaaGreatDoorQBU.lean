import Derived.Test.YtcoaphfimellcaaGreatDoorRows
import Derived.JoinedCond
set_option maxHeartbeats 0
set_option maxRecDepth 100000
namespace Go.Proofs.YtcoaphfimellcaaGreatDoor
open _root_.Go.Proofs.Tryz
theorem agv:joinedFacts Tryz.pinned.checked.prog 3 f3 (OpenSpec.ofChange Rows.refusedSpec).bare Rows.refusedRow=true:=by kernel_rfl
