import Derived.Test.YtlhhpofjkgmbeaaGreatDoorX15
set_option maxRecDepth 100000
set_option maxHeartbeats 16000000
namespace Go.Proofs.YtlhhpofjkgmbeaaGreatDoor
open Go.ChangeShapes Go.WideShapes Go.ChangeAt Go.RowKit _root_.Go.Proofs.Tryz
namespace ExactBorrow
theorem Rb:(Rows.fnExactBorrowRow.inPlace==Tryz.pinned.checked.prog.inPlace 3)=true:=by kernel_rfl
theorem MT:(Rows.fnExactBorrowRow.unfollowed==Tryz.pinned.checked.prog.unfollowed 3)=true:=by kernel_rfl
end ExactBorrow
end Go.Proofs.YtlhhpofjkgmbeaaGreatDoor
