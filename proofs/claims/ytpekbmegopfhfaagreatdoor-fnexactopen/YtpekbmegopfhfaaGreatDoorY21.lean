import Derived.Test.YtpekbmegopfhfaaGreatDoorY20
set_option maxRecDepth 100000
set_option maxHeartbeats 16000000
namespace Go.Proofs.YtpekbmegopfhfaaGreatDoor
open Go.ChangeShapes Go.WideShapes Go.ChangeAt Go.RowKit _root_.Go.Proofs.Tryz
namespace ExactOpen
theorem inPlace_is:(Rows.fnExactOpenRow.inPlace==Tryz.pinned.checked.prog.inPlace 4)=true:=by kernel_rfl
theorem unfollowed_is:(Rows.fnExactOpenRow.unfollowed==Tryz.pinned.checked.prog.unfollowed 4)=true:=by kernel_rfl
end ExactOpen
end Go.Proofs.YtpekbmegopfhfaaGreatDoor
