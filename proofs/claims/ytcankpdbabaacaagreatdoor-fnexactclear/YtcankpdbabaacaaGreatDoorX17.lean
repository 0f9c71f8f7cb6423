import Derived.Test.YtcankpdbabaacaaGreatDoorX16
set_option maxRecDepth 100000
set_option maxHeartbeats 16000000
namespace Go.Proofs.YtcankpdbabaacaaGreatDoor
open Go.ChangeShapes Go.WideShapes Go.ChangeAt Go.RowKit _root_.Go.Proofs.Tryz
namespace ExactClear
theorem Qn:(Rows.fnExactClearRow.recurses==Tryz.pinned.checked.prog.recurses 3)=true:=Yt
theorem Wb:(Rows.fnExactClearRow.named==Tryz.pinned.checked.prog.varsNamed 3)=true:=Yt
end ExactClear
end Go.Proofs.YtcankpdbabaacaaGreatDoor
