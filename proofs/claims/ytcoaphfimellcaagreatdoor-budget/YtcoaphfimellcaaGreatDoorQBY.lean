import Derived.Test.YtcoaphfimellcaaGreatDoorRows
import Derived.JoinedCond
set_option maxHeartbeats 0
set_option maxRecDepth 100000
namespace Go.Proofs.YtcoaphfimellcaaGreatDoor
open _root_.Go.Proofs.Tryz
theorem agw:joinedFacts Tryz.pinned.checked.prog 6 f6 (OpenSpec.ofChange Rows.budgetSpec).bare Rows.budgetRow=true:=by kernel_rfl
