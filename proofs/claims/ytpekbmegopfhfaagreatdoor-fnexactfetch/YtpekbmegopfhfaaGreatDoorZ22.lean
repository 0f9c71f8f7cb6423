import Derived.Test.YtpekbmegopfhfaaGreatDoorZ21
set_option maxRecDepth 100000
set_option maxHeartbeats 16000000
namespace Go.Proofs.YtpekbmegopfhfaaGreatDoor
open Go.ChangeShapes Go.WideShapes Go.ChangeAt Go.RowKit _root_.Go.Proofs.Tryz
namespace ExactFetch
theorem inPlace_is:(Rows.fnExactFetchRow.inPlace==Tryz.pinned.checked.prog.inPlace 6)=true:=by kernel_rfl
theorem unfollowed_is:(Rows.fnExactFetchRow.unfollowed==Tryz.pinned.checked.prog.unfollowed 6)=true:=by kernel_rfl
end ExactFetch
end Go.Proofs.YtpekbmegopfhfaaGreatDoor
