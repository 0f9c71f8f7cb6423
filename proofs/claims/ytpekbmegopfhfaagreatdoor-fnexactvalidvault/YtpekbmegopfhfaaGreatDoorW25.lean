import Derived.Test.YtpekbmegopfhfaaGreatDoorW24
namespace Go.Proofs.YtpekbmegopfhfaaGreatDoor
open Go.ChangeShapes Go.WideShapes Go.ChangeAt Go.RowKit
namespace ExactValidVault
theorem inPlace_is:(Rows.fnExactValidVaultRow.inPlace==Tryz.pinned.checked.prog.inPlace 5)=true:=by kernel_rfl
theorem unfollowed_is:(Rows.fnExactValidVaultRow.unfollowed==Tryz.pinned.checked.prog.unfollowed 5)=true:=by kernel_rfl
end ExactValidVault
end Go.Proofs.YtpekbmegopfhfaaGreatDoor
