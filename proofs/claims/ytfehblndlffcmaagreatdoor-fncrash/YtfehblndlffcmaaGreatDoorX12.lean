import Derived.Test.YtfehblndlffcmaaGreatDoorX11
set_option maxRecDepth 100000
set_option maxHeartbeats 16000000
namespace Go.Proofs.YtfehblndlffcmaaGreatDoor
open ChangeShapes WideShapes ChangeAt RowKit _root_.Go.Proofs.Tryz List World Value
namespace CrashLaw
theorem QZ:(Rows.fnCrashRow.recurses==Tryz.pinned.checked.prog.recurses 3)=true:=Yr
theorem WU:(Rows.fnCrashRow.named==Tryz.pinned.checked.prog.varsNamed 3)=true:=Yr
