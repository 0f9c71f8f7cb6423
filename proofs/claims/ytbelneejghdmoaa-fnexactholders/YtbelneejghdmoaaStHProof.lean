/-
  The statement.
-/
import Derived.Test.YtbelneejghdmoaaStRead
import Derived.Test.YtbelneejghdmoaaStEq
import Derived.Test.YtbelneejghdmoaaStMark
import Derived.Test.YtbelneejghdmoaaOwn
import Derived.Test.YtbelneejghdmoaaStHs
import Derived.Test.YtbelneejghdmoaaStHi
import Derived.Deep.RegionWith
import Derived.Deep.DeepCutAuto
import Derived.Test.YtbelneejghdmoaaStHProofA
namespace Go.Proofs.Ytbelneejghdmoaa

theorem fnExactHolders_holds : Rows.FnExactHoldersSaid :=
  OpenClaim.holds_of_wide 8 Try.f8 rfl rfl rfl rfl rfl rfl rfl ⟨rfl, rfl, rfl, rfl, rfl⟩ rfl rfl rfl rfl rfl (by kernel_rfl) Try.func8 (by kernel_rfl)
    (of_decide_eq_true (by kernel_rfl)) (by unfold Func.isWrapper; first | (rw [if_pos (by decide +kernel)]; kernel_rfl) | (rw [if_neg (by decide +kernel)]; exact ⟨rfl, rfl⟩))
    (fun os started H enc _ => ExactHolders.lifted os started H enc)
#print axioms fnExactHolders_holds
end Go.Proofs.Ytbelneejghdmoaa


