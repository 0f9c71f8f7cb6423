import Derived.Test.YtlhhpofjkgmbeaaGreatDoorX16
set_option maxRecDepth 100000
set_option maxHeartbeats 16000000
namespace Go.Proofs.YtlhhpofjkgmbeaaGreatDoor
open Go.ChangeShapes Go.WideShapes Go.ChangeAt Go.RowKit _root_.Go.Proofs.Tryz
namespace ExactBorrow
theorem Pm:(Rows.fnExactBorrowRow.recurses==Tryz.pinned.checked.prog.recurses 3)=true:=by kernel_rfl
theorem UT:(Rows.fnExactBorrowRow.named==Tryz.pinned.checked.prog.varsNamed 3)=true:=by kernel_rfl
end ExactBorrow
end Go.Proofs.YtlhhpofjkgmbeaaGreatDoor
