import Derived.Test.YtpekbmegopfhfaaGreatDoorW25
namespace Go.Proofs.YtpekbmegopfhfaaGreatDoor
open Go.ChangeShapes Go.WideShapes Go.ChangeAt Go.RowKit
namespace ExactValidVault
theorem recurses_is:(Rows.fnExactValidVaultRow.recurses==Tryz.pinned.checked.prog.recurses 5)=true:=by kernel_rfl
theorem named_is:(Rows.fnExactValidVaultRow.named==Tryz.pinned.checked.prog.varsNamed 5)=true:=by kernel_rfl
end ExactValidVault
end Go.Proofs.YtpekbmegopfhfaaGreatDoor
