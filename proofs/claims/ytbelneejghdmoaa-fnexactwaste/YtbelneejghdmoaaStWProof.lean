/-
  The statement.
-/
import Derived.Test.YtbelneejghdmoaaStRead
import Derived.Test.YtbelneejghdmoaaStEq
import Derived.Test.YtbelneejghdmoaaStMark
import Derived.Test.YtbelneejghdmoaaOwn
import Derived.Test.YtbelneejghdmoaaStWt
import Derived.Deep.RegionWith
import Derived.Deep.DeepCutAuto
import Derived.Test.YtbelneejghdmoaaStWProofA
namespace Go.Proofs.Ytbelneejghdmoaa

theorem fnExactWaste_holds : Rows.FnExactWasteSaid :=
  OpenClaim.holds_of_wide 7 Try.f7 rfl rfl rfl rfl rfl rfl rfl ⟨rfl, rfl, rfl, rfl, rfl⟩ rfl rfl rfl rfl rfl (by kernel_rfl) Try.func7 (by kernel_rfl)
    (of_decide_eq_true (by kernel_rfl)) (by unfold Func.isWrapper; first | (rw [if_pos (by decide +kernel)]; kernel_rfl) | (rw [if_neg (by decide +kernel)]; exact ⟨rfl, rfl⟩))
    (fun os started H enc _ => ExactWaste.lifted os started H enc)
#print axioms fnExactWaste_holds
end Go.Proofs.Ytbelneejghdmoaa

