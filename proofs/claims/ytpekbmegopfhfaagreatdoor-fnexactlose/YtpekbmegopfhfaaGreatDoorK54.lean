import Derived.Test.YtpekbmegopfhfaaGreatDoorK21
set_option maxRecDepth 100000
set_option maxHeartbeats 16000000
namespace Go.Proofs.YtpekbmegopfhfaaGreatDoor
open Go.ChangeShapes Go.WideShapes Go.ChangeAt Go.RowKit _root_.Go.Proofs.Tryz
namespace ExactLose
theorem inPlace_is:(Rows.fnExactLoseRow.inPlace==Tryz.pinned.checked.prog.inPlace 7)=true:=by kernel_rfl
theorem unfollowed_is:(Rows.fnExactLoseRow.unfollowed==Tryz.pinned.checked.prog.unfollowed 7)=true:=by kernel_rfl
end ExactLose
end Go.Proofs.YtpekbmegopfhfaaGreatDoor
