import Derived.Test.YtdgblkklkaklhaaGreatDoorX22
set_option maxRecDepth 100000
set_option maxHeartbeats 16000000
namespace Go.Proofs.YtdgblkklkaklhaaGreatDoor
open Go.ChangeShapes Go.WideShapes Go.ChangeAt Go.RowKit _root_.Go.Proofs.Tryz
namespace ExactGiveBack
theorem Pm:(Rows.fnExactGiveBackRow.recurses==Tryz.pinned.checked.prog.recurses 3)=true:=by kernel_rfl
theorem UT:(Rows.fnExactGiveBackRow.named==Tryz.pinned.checked.prog.varsNamed 3)=true:=by kernel_rfl
end ExactGiveBack
end Go.Proofs.YtdgblkklkaklhaaGreatDoor
