import Derived.Test.YtoglnpagihdhpaaGreatDoorX11
set_option maxRecDepth 100000
set_option maxHeartbeats 16000000
namespace Go.Proofs.YtoglnpagihdhpaaGreatDoor
open ChangeShapes WideShapes ChangeAt RowKit _root_.Go.Proofs.Tryz
namespace ReplayLaw
theorem Sg:(Rows.fnReplayRow.inPlace==Tryz.pinned.checked.prog.inPlace 3)=true:=Yr
theorem NT:(Rows.fnReplayRow.unfollowed==Tryz.pinned.checked.prog.unfollowed 3)=true:=Yr
end ReplayLaw
end Go.Proofs.YtoglnpagihdhpaaGreatDoor
