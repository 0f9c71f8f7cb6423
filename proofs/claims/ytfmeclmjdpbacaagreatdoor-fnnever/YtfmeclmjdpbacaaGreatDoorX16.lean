import Derived.Test.YtfmeclmjdpbacaaGreatDoorX12
set_option maxRecDepth 100000
set_option maxHeartbeats 16000000
namespace Go.Proofs.YtfmeclmjdpbacaaGreatDoor
open ChangeShapes WideShapes ChangeAt RowKit _root_.Go.Proofs.Tryz List World Value
namespace NeverLaw
theorem TG:(Rows.fnNeverRow.inPlace==Tryz.pinned.checked.prog.inPlace 3)=true:=Yr
theorem Pb:(Rows.fnNeverRow.unfollowed==Tryz.pinned.checked.prog.unfollowed 3)=true:=Yr
