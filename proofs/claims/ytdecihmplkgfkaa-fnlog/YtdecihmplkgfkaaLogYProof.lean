/-
  The statement.
-/
import Derived.Test.YtdecihmplkgfkaaRead
import Derived.Test.YtdecihmplkgfkaaLogY
import Derived.Deep.Slices
import Derived.Test.YtdecihmplkgfkaaLogYProofA
namespace Go.Proofs.Ytdecihmplkgfkaa

theorem fnLog_holds : Rows.FnLogSaid :=
  OpenClaim.holds_of_wide 10 Try.f10 rfl rfl rfl rfl rfl rfl rfl ⟨rfl, rfl, rfl, rfl, rfl⟩ rfl rfl rfl rfl rfl (by kernel_rfl) Try.func10 (by kernel_rfl)
    (of_decide_eq_true (by kernel_rfl)) (by unfold Func.isWrapper; first | (rw [if_pos (by decide +kernel)]; kernel_rfl) | (rw [if_neg (by decide +kernel)]; exact ⟨rfl, rfl⟩))
    (fun os started H enc _ => LogLaw.lifted os started H enc)
#print axioms fnLog_holds
end Go.Proofs.Ytdecihmplkgfkaa
