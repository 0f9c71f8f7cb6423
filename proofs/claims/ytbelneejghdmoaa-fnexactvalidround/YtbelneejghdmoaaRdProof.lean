/-
  The statement.
-/
import Derived.Test.YtbelneejghdmoaaRdW
import Derived.Test.YtbelneejghdmoaaRdRead
import Derived.Test.YtbelneejghdmoaaStEq
import Derived.Test.YtbelneejghdmoaaStTo
import Derived.Deep.RegionWith
import Derived.Deep.DeepCutAuto
import Derived.Test.YtbelneejghdmoaaRdProofA
namespace Go.Proofs.Ytbelneejghdmoaa

theorem fnExactValidRound_holds : Rows.FnExactValidRoundSaid :=
  OpenClaim.holds_of_wide 5 Try.f5 rfl rfl rfl rfl rfl rfl rfl ⟨rfl, rfl, rfl, rfl, rfl⟩ rfl rfl rfl rfl rfl (by kernel_rfl) Try.func5 (by kernel_rfl)
    (of_decide_eq_true (by kernel_rfl)) (by unfold Func.isWrapper; first | (rw [if_pos (by decide +kernel)]; kernel_rfl) | (rw [if_neg (by decide +kernel)]; exact ⟨rfl, rfl⟩))
    (fun os started H enc _ => ExactValidRound.lifted os started H enc)
#print axioms fnExactValidRound_holds
end Go.Proofs.Ytbelneejghdmoaa
