import Derived.Test.YtcgpjkifdnakaaaGreatDoorX22
set_option maxRecDepth 100000
set_option maxHeartbeats 16000000
namespace Go.Proofs.YtcgpjkifdnakaaaGreatDoor
open Go.ChangeShapes Go.WideShapes Go.ChangeAt Go.RowKit _root_.Go.Proofs.Tryz
namespace ExactWait
theorem Pm:(Rows.fnExactWaitRow.recurses==Tryz.pinned.checked.prog.recurses 3)=true:=by kernel_rfl
theorem UT:(Rows.fnExactWaitRow.named==Tryz.pinned.checked.prog.varsNamed 3)=true:=by kernel_rfl
end ExactWait
end Go.Proofs.YtcgpjkifdnakaaaGreatDoor
