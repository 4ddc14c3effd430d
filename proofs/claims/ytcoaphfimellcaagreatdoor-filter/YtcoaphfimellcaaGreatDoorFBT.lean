import Derived.Test.YtcoaphfimellcaaGreatDoorRows
import Derived.JoinedCond
set_option maxHeartbeats 0
set_option maxRecDepth 100000
namespace Go.Proofs.YtcoaphfimellcaaGreatDoor
open _root_.Go.Proofs.Tryz
theorem ajd:joinedFacts Tryz.pinned.checked.prog 4 f4 (OpenSpec.ofChange Rows.filterSpec).bare Rows.filterRow=true:=by kernel_rfl
