/-
  The statement.
-/
import Derived.Test.YtdecihmplkgfkaaRead
import Derived.Test.YtdecihmplkgfkaaLogE
import Derived.Test.YtdecihmplkgfkaaLogM
import Derived.Deep.RegionWith
import Derived.Test.YtdecihmplkgfkaaLogSProofA
namespace Go.Proofs.Ytdecihmplkgfkaa

theorem fnExactSync_holds : Rows.FnExactSyncSaid :=
  OpenClaim.holds_of_wide 7 Try.f7 rfl rfl rfl rfl rfl rfl rfl ⟨rfl, rfl, rfl, rfl, rfl⟩ rfl rfl rfl rfl rfl (by kernel_rfl) Try.func7 (by kernel_rfl)
    (of_decide_eq_true (by kernel_rfl)) (by unfold Func.isWrapper; first | (rw [if_pos (by decide +kernel)]; kernel_rfl) | (rw [if_neg (by decide +kernel)]; exact ⟨rfl, rfl⟩))
    (fun os started H enc _ => ExactSync.lifted os started H enc)
#print axioms fnExactSync_holds
end Go.Proofs.Ytdecihmplkgfkaa
