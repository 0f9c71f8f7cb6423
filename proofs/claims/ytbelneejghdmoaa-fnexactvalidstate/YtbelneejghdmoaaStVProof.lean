/-
  The statement.
-/
import Derived.Test.YtbelneejghdmoaaStRead
import Derived.Test.YtbelneejghdmoaaStEq
import Derived.Test.YtbelneejghdmoaaStSV
import Derived.Deep.RegionWith
import Derived.Test.YtbelneejghdmoaaStVProofA
namespace Go.Proofs.Ytbelneejghdmoaa

theorem fnExactValidState_holds : Rows.FnExactValidStateSaid :=
  OpenClaim.holds_of_wide 3 Try.f3 rfl rfl rfl rfl rfl rfl rfl ⟨rfl, rfl, rfl, rfl, rfl⟩ rfl rfl rfl rfl rfl (by kernel_rfl) Try.func3 (by kernel_rfl)
    (of_decide_eq_true (by kernel_rfl)) (by unfold Func.isWrapper; first | (rw [if_pos (by decide +kernel)]; kernel_rfl) | (rw [if_neg (by decide +kernel)]; exact ⟨rfl, rfl⟩))
    (fun os started H enc _ => ExactValidState.lifted os started H enc)
#print axioms fnExactValidState_holds
end Go.Proofs.Ytbelneejghdmoaa
