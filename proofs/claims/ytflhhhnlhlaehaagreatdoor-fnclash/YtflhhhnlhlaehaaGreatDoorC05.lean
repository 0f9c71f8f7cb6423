import Derived.Test.YtflhhhnlhlaehaaGreatDoorC04
set_option maxRecDepth 100000
set_option maxHeartbeats 16000000
namespace Go.Proofs.YtflhhhnlhlaehaaGreatDoor
open Go.ChangeShapes Go.WideShapes Go.ChangeAt Go.RowKit _root_.Go.Proofs.Tryz
namespace ClashLaw
theorem LU:(Rows.fnClashRow.recurses==Tryz.pinned.checked.prog.recurses 3)=true:=by kernel_rfl
theorem Pk:(Rows.fnClashRow.named==Tryz.pinned.checked.prog.varsNamed 3)=true:=by kernel_rfl
end ClashLaw
end Go.Proofs.YtflhhhnlhlaehaaGreatDoor
