import Derived.Test.YtpekbmegopfhfaaGreatDoorZ23
import Derived.Test.YtpekbmegopfhfaaGreatDoorZ41
set_option maxRecDepth 100000
set_option maxHeartbeats 16000000
namespace Go.Proofs.YtpekbmegopfhfaaGreatDoor
open Go.ChangeShapes Go.WideShapes Go.ChangeAt Go.RowKit _root_.Go.Proofs.Tryz
namespace ExactFetch
theorem closed:joinedFacts Tryz.pinned.checked.prog 6 f6 (OpenSpec.ofChange Rows.fnExactFetchSpec).bare Rows.fnExactFetchRow=true:=by
 unfold joinedFacts;rw[inPlace_is,unfollowed_is,recurses_is,named_is]
 kernel_rfl
theorem said:Rows.FnExactFetchSaid:=
 OpenClaim.holds_of_cond 6 f6 rfl rfl rfl rfl rfl rfl rfl ⟨rfl,rfl,rfl,rfl,rfl⟩ rfl rfl rfl rfl rfl (by kernel_rfl) func6 closed
  (of_decide_eq_true (by kernel_rfl)) (by unfold Func.isWrapper;first|(rw[if_pos (by decide+kernel)];kernel_rfl)|(rw[if_neg (by decide+kernel)];exact⟨rfl,rfl⟩))
  (fun os started H enc _ F=>by rw[OpenClaim.pre_eq_preRow];exact lifted os started H enc F)
theorem plain (f:FuncId) (fn:Func) (hf:Tryz.pinned.checked.prog.funcNamed "loop.example/kilnvault/laws.FnExactFetch" =some f) (hfn:Tryz.pinned.checked.prog.funcs[f]?=some fn):
 true=Tryz.pinned.checked.prog.looks []/\∀(j:Nat) t,fn.params[j]?=some t->Tryz.pinned.checked.prog.wantsStandIn t=false:=by
 obtain rfl:f=6:=Option.some.inj ((show prog.funcNamed "loop.example/kilnvault/laws.FnExactFetch" =some 6 by kernel_rfl).symm.trans hf)|>.symm;obtain rfl:fn=f6:=(Option.some.inj (func6.symm.trans hfn)).symm;refine⟨by kernel_rfl,fun j t ht=> ?_⟩;rw[params6] at ht;have hm:=Array.mem_of_getElem? ht;simp at hm;rcases hm with rfl|rfl
 ·exact(show prog.wantsStandIn 60=false by kernel_rfl)
 ·exact(show prog.wantsStandIn 9=false by kernel_rfl)
end ExactFetch
theorem fnExactFetch_holds:Rows.FnExactFetchCardSaid:=
 Claim7.holds_tied_plain_at .later [] _ _ _ _ ExactFetch.said (fun _ h=>by cases h) (by kernel_rfl) (fun _ h=>by cases h) fnExactFetch_row_tie rfl ⟨rfl,rfl⟩ (by kernel_rfl) rfl ExactFetch.plain (by kernel_rfl)
#print axioms fnExactFetch_holds
end Go.Proofs.YtpekbmegopfhfaaGreatDoor
