import Derived.Test.YtldiifanmhjncaaGreatDoorX22
set_option maxRecDepth 100000
set_option maxHeartbeats 16000000
namespace Go.Proofs.YtldiifanmhjncaaGreatDoor
open Go.ChangeShapes Go.WideShapes Go.ChangeAt Go.RowKit _root_.Go.Proofs.Tryz
namespace ExactLoosen
theorem Pm:(Rows.fnExactLoosenRow.recurses==Tryz.pinned.checked.prog.recurses 3)=true:=by kernel_rfl
theorem UT:(Rows.fnExactLoosenRow.named==Tryz.pinned.checked.prog.varsNamed 3)=true:=by kernel_rfl
end ExactLoosen
end Go.Proofs.YtldiifanmhjncaaGreatDoor
