import Derived.Test.YtdgblkklkaklhaaGreatDoorX21
set_option maxRecDepth 100000
set_option maxHeartbeats 16000000
namespace Go.Proofs.YtdgblkklkaklhaaGreatDoor
open Go.ChangeShapes Go.WideShapes Go.ChangeAt Go.RowKit _root_.Go.Proofs.Tryz
namespace ExactGiveBack
theorem Rb:(Rows.fnExactGiveBackRow.inPlace==Tryz.pinned.checked.prog.inPlace 3)=true:=by kernel_rfl
theorem MT:(Rows.fnExactGiveBackRow.unfollowed==Tryz.pinned.checked.prog.unfollowed 3)=true:=by kernel_rfl
end ExactGiveBack
end Go.Proofs.YtdgblkklkaklhaaGreatDoor
