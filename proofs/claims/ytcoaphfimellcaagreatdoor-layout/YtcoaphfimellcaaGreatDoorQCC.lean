import Derived.Test.YtcoaphfimellcaaGreatDoorRows
import Derived.JoinedCond
set_option maxHeartbeats 0
set_option maxRecDepth 100000
namespace Go.Proofs.YtcoaphfimellcaaGreatDoor
open _root_.Go.Proofs.Tryz
theorem agy:joinedFacts Tryz.pinned.checked.prog 7 f7 (OpenSpec.ofChange Rows.layoutSpec).bare Rows.layoutRow=true:=by kernel_rfl
