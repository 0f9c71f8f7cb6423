import Derived.Test.YtgemdloiihedjaaGreatDoorX16
set_option maxRecDepth 100000
set_option maxHeartbeats 16000000
namespace Go.Proofs.YtgemdloiihedjaaGreatDoor
open Go.ChangeShapes Go.WideShapes Go.ChangeAt Go.RowKit _root_.Go.Proofs.Tryz
namespace ExactHold
theorem Pm:(Rows.fnExactHoldRow.recurses==Tryz.pinned.checked.prog.recurses 3)=true:=by kernel_rfl
theorem UT:(Rows.fnExactHoldRow.named==Tryz.pinned.checked.prog.varsNamed 3)=true:=by kernel_rfl
end ExactHold
end Go.Proofs.YtgemdloiihedjaaGreatDoor
