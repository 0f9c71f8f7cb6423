import Derived.Test.YtfehblndlffcmaaGreatDoorX08
set_option maxRecDepth 100000
set_option maxHeartbeats 16000000
namespace Go.Proofs.YtfehblndlffcmaaGreatDoor
open ChangeShapes WideShapes ChangeAt RowKit _root_.Go.Proofs.Tryz List World Value
namespace CrashLaw
theorem Tj:(Rows.fnCrashRow.inPlace==Tryz.pinned.checked.prog.inPlace 3)=true:=Yr
theorem Ox:(Rows.fnCrashRow.unfollowed==Tryz.pinned.checked.prog.unfollowed 3)=true:=Yr
