import Derived.Test.YtfmeclmjdpbacaaGreatDoorX16
set_option maxRecDepth 100000
set_option maxHeartbeats 16000000
namespace Go.Proofs.YtfmeclmjdpbacaaGreatDoor
open ChangeShapes WideShapes ChangeAt RowKit _root_.Go.Proofs.Tryz List World Value
namespace NeverLaw
theorem Rq:(Rows.fnNeverRow.recurses==Tryz.pinned.checked.prog.recurses 3)=true:=Yr
theorem XN:(Rows.fnNeverRow.named==Tryz.pinned.checked.prog.varsNamed 3)=true:=Yr
