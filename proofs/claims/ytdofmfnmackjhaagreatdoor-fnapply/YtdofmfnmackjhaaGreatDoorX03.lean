import Derived.Test.YtdofmfnmackjhaaGreatDoorX01
import Derived.Test.YtdofmfnmackjhaaGreatDoorCards
import Derived.Test.YtdofmfnmackjhaaGreatDoorTie
import Derived.OpenVars
import Derived.Deep.DeepHandedRow
set_option maxRecDepth 100000
set_option maxHeartbeats 16000000
namespace Go.Proofs.YtdofmfnmackjhaaGreatDoor
open ChangeShapes WideShapes ChangeAt RowKit _root_.Go.Proofs.Tryz List World Value
namespace ApplyLaw
theorem RU:(Rows.fnApplyRow.inPlace==Tryz.pinned.checked.prog.inPlace 3)=true:=Yr
theorem Oh:(Rows.fnApplyRow.unfollowed==Tryz.pinned.checked.prog.unfollowed 3)=true:=Yr
