/-
  The statement.
-/
import Derived.Test.YtdecihmplkgfkaaRead
import Derived.Test.YtdecihmplkgfkaaLogF
import Derived.Test.YtdecihmplkgfkaaLogM
import Derived.Deep.RegionWith
import Derived.Test.YtdecihmplkgfkaaLogCProofA
namespace Go.Proofs.Ytdecihmplkgfkaa

theorem fnExactCrash_holds : Rows.FnExactCrashSaid :=
  OpenClaim.holds_of_wide 8 Try.f8 rfl rfl rfl rfl rfl rfl rfl ⟨rfl, rfl, rfl, rfl, rfl⟩ rfl rfl rfl rfl rfl (by kernel_rfl) Try.func8 (by kernel_rfl)
    (of_decide_eq_true (by kernel_rfl)) (by unfold Func.isWrapper; first | (rw [if_pos (by decide +kernel)]; kernel_rfl) | (rw [if_neg (by decide +kernel)]; exact ⟨rfl, rfl⟩))
    (fun os started H enc _ => ExactCrash.lifted os started H enc)
#print axioms fnExactCrash_holds
end Go.Proofs.Ytdecihmplkgfkaa
