import Derived.Test.YtpekbmegopfhfaaGreatDoorW26
import Derived.Test.YtpekbmegopfhfaaGreatDoorW44
namespace Go.Proofs.YtpekbmegopfhfaaGreatDoor
open Go.ChangeShapes Go.WideShapes Go.ChangeAt Go.RowKit
namespace ExactValidVault
theorem closed:joinedFacts Tryz.pinned.checked.prog 5 Tryz.f5 (OpenSpec.ofChange Rows.fnExactValidVaultSpec).bare Rows.fnExactValidVaultRow=true:=by
 unfold joinedFacts
 rw [inPlace_is,unfollowed_is,recurses_is,named_is]
 kernel_rfl
theorem said:Rows.FnExactValidVaultSaid:=
 OpenClaim.holds_of_cond 5 Tryz.f5 rfl rfl rfl rfl rfl rfl rfl ⟨rfl,rfl,rfl,rfl,rfl⟩ rfl rfl rfl rfl rfl (by kernel_rfl) Tryz.func5 closed
  (of_decide_eq_true (by kernel_rfl)) (by unfold Func.isWrapper;first|(rw [if_pos (by decide+kernel)];kernel_rfl)|(rw [if_neg (by decide+kernel)];exact ⟨rfl,rfl⟩))
  (fun os started H enc _ F=>by rw [OpenClaim.pre_eq_preRow];exact lifted os started H enc F)
theorem plain (f:FuncId) (fn:Func) (hf:Tryz.pinned.checked.prog.funcNamed "loop.example/kilnvault/laws.FnExactValidVault" =some f) (hfn:Tryz.pinned.checked.prog.funcs[f]?=some fn):
 true=Tryz.pinned.checked.prog.looks []/\∀(j:Nat) t,fn.params[j]?=some t->Tryz.pinned.checked.prog.wantsStandIn t=false:=by
 obtain rfl:f=5:=Option.some.inj ((show Tryz.prog.funcNamed "loop.example/kilnvault/laws.FnExactValidVault" =some 5 by kernel_rfl).symm.trans hf)|>.symm
 obtain rfl:fn=Tryz.f5:=(Option.some.inj (Tryz.func5.symm.trans hfn)).symm
 refine ⟨by kernel_rfl,fun j t ht=> ?_⟩
 rw [Tryz.params5] at ht
 have hm:=Array.mem_of_getElem? ht
 simp at hm
 subst hm
 exact (show Tryz.prog.wantsStandIn 60=false by kernel_rfl)
end ExactValidVault
theorem fnExactValidVault_holds:Rows.FnExactValidVaultCardSaid:=
 Claim7.holds_tied_plain_at .later [] _ _ _ _ ExactValidVault.said (fun _ h=>by cases h) (by kernel_rfl) (fun _ h=>by cases h) fnExactValidVault_row_tie rfl ⟨rfl,rfl⟩ (by kernel_rfl) rfl ExactValidVault.plain (by kernel_rfl)
#print axioms fnExactValidVault_holds
end Go.Proofs.YtpekbmegopfhfaaGreatDoor
