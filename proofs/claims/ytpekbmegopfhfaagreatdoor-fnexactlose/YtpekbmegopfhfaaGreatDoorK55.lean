import Derived.Test.YtpekbmegopfhfaaGreatDoorK54
set_option maxRecDepth 100000
set_option maxHeartbeats 16000000
namespace Go.Proofs.YtpekbmegopfhfaaGreatDoor
open Go.ChangeShapes Go.WideShapes Go.ChangeAt Go.RowKit _root_.Go.Proofs.Tryz
namespace ExactLose
theorem recurses_is:(Rows.fnExactLoseRow.recurses==Tryz.pinned.checked.prog.recurses 7)=true:=by kernel_rfl
theorem named_is:(Rows.fnExactLoseRow.named==Tryz.pinned.checked.prog.varsNamed 7)=true:=by kernel_rfl
end ExactLose
end Go.Proofs.YtpekbmegopfhfaaGreatDoor
