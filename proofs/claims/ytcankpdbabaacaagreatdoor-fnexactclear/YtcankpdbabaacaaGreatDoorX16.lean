import Derived.Test.YtcankpdbabaacaaGreatDoorX15
set_option maxRecDepth 100000
set_option maxHeartbeats 16000000
namespace Go.Proofs.YtcankpdbabaacaaGreatDoor
open Go.ChangeShapes Go.WideShapes Go.ChangeAt Go.RowKit _root_.Go.Proofs.Tryz
namespace ExactClear
theorem Si:(Rows.fnExactClearRow.inPlace==Tryz.pinned.checked.prog.inPlace 3)=true:=Yt
theorem NM:(Rows.fnExactClearRow.unfollowed==Tryz.pinned.checked.prog.unfollowed 3)=true:=Yt
end ExactClear
end Go.Proofs.YtcankpdbabaacaaGreatDoor
