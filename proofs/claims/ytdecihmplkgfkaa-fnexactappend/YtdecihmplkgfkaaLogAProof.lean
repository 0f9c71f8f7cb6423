/-
  The statement.
-/
import Derived.Test.YtdecihmplkgfkaaRead
import Derived.Test.YtdecihmplkgfkaaLogX
import Derived.Deep.RegionWith
import Derived.Test.YtdecihmplkgfkaaLogAProofA
namespace Go.Proofs.Ytdecihmplkgfkaa

theorem fnExactAppend_holds : Rows.FnExactAppendSaid :=
  OpenClaim.holds_of_wide 9 Try.f9 rfl rfl rfl rfl rfl rfl rfl ⟨rfl, rfl, rfl, rfl, rfl⟩ rfl rfl rfl rfl rfl (by kernel_rfl) Try.func9 (by kernel_rfl)
    (of_decide_eq_true (by kernel_rfl)) (by unfold Func.isWrapper; first | (rw [if_pos (by decide +kernel)]; kernel_rfl) | (rw [if_neg (by decide +kernel)]; exact ⟨rfl, rfl⟩))
    (fun os started H enc _ => ExactAppend.lifted os started H enc)
#print axioms fnExactAppend_holds
end Go.Proofs.Ytdecihmplkgfkaa
