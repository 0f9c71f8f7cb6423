import Derived.Test.YtdofmfnmackjhaaGreatDoorX03
set_option maxRecDepth 100000
set_option maxHeartbeats 16000000
namespace Go.Proofs.YtdofmfnmackjhaaGreatDoor
open ChangeShapes WideShapes ChangeAt RowKit _root_.Go.Proofs.Tryz List World Value
namespace ApplyLaw
theorem QA:(Rows.fnApplyRow.recurses==Tryz.pinned.checked.prog.recurses 3)=true:=Yr
theorem Vm:(Rows.fnApplyRow.named==Tryz.pinned.checked.prog.varsNamed 3)=true:=Yr
