import Derived.Test.YtoglnpagihdhpaaGreatDoorX15
set_option maxRecDepth 100000
set_option maxHeartbeats 16000000
namespace Go.Proofs.YtoglnpagihdhpaaGreatDoor
open ChangeShapes WideShapes ChangeAt RowKit _root_.Go.Proofs.Tryz
namespace ReplayLaw
theorem Qm:(Rows.fnReplayRow.recurses==Tryz.pinned.checked.prog.recurses 3)=true:=Yr
theorem Vu:(Rows.fnReplayRow.named==Tryz.pinned.checked.prog.varsNamed 3)=true:=Yr
end ReplayLaw
end Go.Proofs.YtoglnpagihdhpaaGreatDoor
