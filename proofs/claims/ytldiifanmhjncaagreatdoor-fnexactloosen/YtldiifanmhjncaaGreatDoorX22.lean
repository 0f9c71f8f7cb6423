import Derived.Test.YtldiifanmhjncaaGreatDoorX21
set_option maxRecDepth 100000
set_option maxHeartbeats 16000000
namespace Go.Proofs.YtldiifanmhjncaaGreatDoor
open Go.ChangeShapes Go.WideShapes Go.ChangeAt Go.RowKit _root_.Go.Proofs.Tryz
namespace ExactLoosen
theorem Rb:(Rows.fnExactLoosenRow.inPlace==Tryz.pinned.checked.prog.inPlace 3)=true:=by kernel_rfl
theorem MT:(Rows.fnExactLoosenRow.unfollowed==Tryz.pinned.checked.prog.unfollowed 3)=true:=by kernel_rfl
end ExactLoosen
end Go.Proofs.YtldiifanmhjncaaGreatDoor
