import Derived.Test.YtpekbmegopfhfaaGreatDoorK22
set_option maxRecDepth 100000
set_option maxHeartbeats 16000000
namespace Go.Proofs.YtpekbmegopfhfaaGreatDoor
open Go.ChangeShapes Go.WideShapes Go.ChangeAt Go.RowKit _root_.Go.Proofs.Tryz
namespace ExactFlush
theorem recurses_is:(Rows.fnExactFlushRow.recurses==Tryz.pinned.checked.prog.recurses 8)=true:=by kernel_rfl
theorem named_is:(Rows.fnExactFlushRow.named==Tryz.pinned.checked.prog.varsNamed 8)=true:=by kernel_rfl
end ExactFlush
end Go.Proofs.YtpekbmegopfhfaaGreatDoor
