/-
  The statement.
-/
import Derived.Test.YtbelneejghdmoaaShT
import Derived.Test.YtbelneejghdmoaaStMark
import Derived.Test.YtbelneejghdmoaaRdRead
import Derived.Test.YtbelneejghdmoaaStEq
import Derived.Deep.RegionWith
import Derived.Deep.DeepCutAuto
import Derived.Test.YtbelneejghdmoaaShProofA
namespace Go.Proofs.Ytbelneejghdmoaa

theorem fnExactShade_holds : Rows.FnExactShadeSaid :=
  OpenClaim.holds_of_wide 6 Try.f6 rfl rfl rfl rfl rfl rfl rfl ⟨rfl, rfl, rfl, rfl, rfl⟩ rfl rfl rfl rfl rfl (by kernel_rfl) Try.func6 (by kernel_rfl)
    (of_decide_eq_true (by kernel_rfl)) (by unfold Func.isWrapper; first | (rw [if_pos (by decide +kernel)]; kernel_rfl) | (rw [if_neg (by decide +kernel)]; exact ⟨rfl, rfl⟩))
    (fun os started H enc _ => ExactShade.lifted os started H enc)
#print axioms fnExactShade_holds
end Go.Proofs.Ytbelneejghdmoaa
