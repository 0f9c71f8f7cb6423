import Derived.Test.YtpekbmegopfhfaaGreatDoorZ22
set_option maxRecDepth 100000
set_option maxHeartbeats 16000000
namespace Go.Proofs.YtpekbmegopfhfaaGreatDoor
open Go.ChangeShapes Go.WideShapes Go.ChangeAt Go.RowKit _root_.Go.Proofs.Tryz
namespace ExactFetch
theorem recurses_is:(Rows.fnExactFetchRow.recurses==Tryz.pinned.checked.prog.recurses 6)=true:=by kernel_rfl
theorem named_is:(Rows.fnExactFetchRow.named==Tryz.pinned.checked.prog.varsNamed 6)=true:=by kernel_rfl
end ExactFetch
end Go.Proofs.YtpekbmegopfhfaaGreatDoor
