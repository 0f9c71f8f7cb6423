import Derived.Test.YtpekbmegopfhfaaGreatDoorK21
set_option maxRecDepth 100000
set_option maxHeartbeats 16000000
namespace Go.Proofs.YtpekbmegopfhfaaGreatDoor
open Go.ChangeShapes Go.WideShapes Go.ChangeAt Go.RowKit _root_.Go.Proofs.Tryz
namespace ExactFlush
theorem inPlace_is:(Rows.fnExactFlushRow.inPlace==Tryz.pinned.checked.prog.inPlace 8)=true:=by kernel_rfl
theorem unfollowed_is:(Rows.fnExactFlushRow.unfollowed==Tryz.pinned.checked.prog.unfollowed 8)=true:=by kernel_rfl
end ExactFlush
end Go.Proofs.YtpekbmegopfhfaaGreatDoor
