/-
  The statement.
-/
import Derived.Test.YtbelneejghdmoaaStRead
import Derived.Test.YtbelneejghdmoaaStEq
import Derived.Test.YtbelneejghdmoaaStRoom
import Derived.Deep.RegionWith
import Derived.Test.YtbelneejghdmoaaStRoomProofA
namespace Go.Proofs.Ytbelneejghdmoaa

theorem fnExactRoom_holds : Rows.FnExactRoomSaid :=
  OpenClaim.holds_of_wide 4 Try.f4 rfl rfl rfl rfl rfl rfl rfl ⟨rfl, rfl, rfl, rfl, rfl⟩ rfl rfl rfl rfl rfl (by kernel_rfl) Try.func4 (by kernel_rfl)
    (of_decide_eq_true (by kernel_rfl)) (by unfold Func.isWrapper; first | (rw [if_pos (by decide +kernel)]; kernel_rfl) | (rw [if_neg (by decide +kernel)]; exact ⟨rfl, rfl⟩))
    (fun os started H enc _ => ExactRoom.lifted os started H enc)
#print axioms fnExactRoom_holds
end Go.Proofs.Ytbelneejghdmoaa
