import Derived.Test.YtflhhhnlhlaehaaGreatDoorC03
set_option maxRecDepth 100000
set_option maxHeartbeats 16000000
namespace Go.Proofs.YtflhhhnlhlaehaaGreatDoor
open Go.ChangeShapes Go.WideShapes Go.ChangeAt Go.RowKit _root_.Go.Proofs.Tryz
namespace ClashLaw
theorem MQ:(Rows.fnClashRow.inPlace==Tryz.pinned.checked.prog.inPlace 3)=true:=by kernel_rfl
theorem Ki:(Rows.fnClashRow.unfollowed==Tryz.pinned.checked.prog.unfollowed 3)=true:=by kernel_rfl
end ClashLaw
end Go.Proofs.YtflhhhnlhlaehaaGreatDoor
