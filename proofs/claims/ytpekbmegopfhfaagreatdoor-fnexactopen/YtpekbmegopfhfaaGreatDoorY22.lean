import Derived.Test.YtpekbmegopfhfaaGreatDoorY21
set_option maxRecDepth 100000
set_option maxHeartbeats 16000000
namespace Go.Proofs.YtpekbmegopfhfaaGreatDoor
open Go.ChangeShapes Go.WideShapes Go.ChangeAt Go.RowKit _root_.Go.Proofs.Tryz
namespace ExactOpen
theorem recurses_is:(Rows.fnExactOpenRow.recurses==Tryz.pinned.checked.prog.recurses 4)=true:=by kernel_rfl
theorem named_is:(Rows.fnExactOpenRow.named==Tryz.pinned.checked.prog.varsNamed 4)=true:=by kernel_rfl
end ExactOpen
end Go.Proofs.YtpekbmegopfhfaaGreatDoor
