import Derived.Test.YtcgpjkifdnakaaaGreatDoorX21
set_option maxRecDepth 100000
set_option maxHeartbeats 16000000
namespace Go.Proofs.YtcgpjkifdnakaaaGreatDoor
open Go.ChangeShapes Go.WideShapes Go.ChangeAt Go.RowKit _root_.Go.Proofs.Tryz
namespace ExactWait
theorem QX:(Rows.fnExactWaitRow.inPlace==Tryz.pinned.checked.prog.inPlace 3)=true:=by kernel_rfl
theorem MS:(Rows.fnExactWaitRow.unfollowed==Tryz.pinned.checked.prog.unfollowed 3)=true:=by kernel_rfl
end ExactWait
end Go.Proofs.YtcgpjkifdnakaaaGreatDoor
