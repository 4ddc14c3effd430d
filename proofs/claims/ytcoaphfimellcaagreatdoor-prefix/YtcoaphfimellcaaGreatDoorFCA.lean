import Derived.Test.YtcoaphfimellcaaGreatDoorRows
import Derived.JoinedCond
set_option maxHeartbeats 0
set_option maxRecDepth 100000
namespace Go.Proofs.YtcoaphfimellcaaGreatDoor
open _root_.Go.Proofs.Tryz
theorem ajl:joinedFacts Tryz.pinned.checked.prog 5 f5 (OpenSpec.ofChange Rows.prefixSpec).bare Rows.prefixRow=true:=by kernel_rfl
