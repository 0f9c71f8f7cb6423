import Derived.Test.YtckmnfhmoankmaaGreatDoorX09
set_option maxRecDepth 100000
set_option maxHeartbeats 16000000
namespace Go.Proofs.YtckmnfhmoankmaaGreatDoor
open Go.ChangeShapes Go.WideShapes Go.ChangeAt Go.RowKit _root_.Go.Proofs.Tryz
namespace ExactPut
theorem Rt:(Rows.fnExactPutRow.inPlace==Tryz.pinned.checked.prog.inPlace 3)=true:=by kernel_rfl
theorem Nr:(Rows.fnExactPutRow.unfollowed==Tryz.pinned.checked.prog.unfollowed 3)=true:=by kernel_rfl
end ExactPut
end Go.Proofs.YtckmnfhmoankmaaGreatDoor
