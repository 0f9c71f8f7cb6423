import Derived.Test.YtpekbmegopfhfaaGreatDoorK23
import Derived.Test.YtpekbmegopfhfaaGreatDoorK52
set_option maxRecDepth 100000
set_option maxHeartbeats 16000000
namespace Go.Proofs.YtpekbmegopfhfaaGreatDoor
open Go.ChangeShapes Go.WideShapes Go.ChangeAt Go.RowKit _root_.Go.Proofs.Tryz
namespace ExactFlush
theorem closed:joinedFacts Tryz.pinned.checked.prog 8 f8 (OpenSpec.ofChange Rows.fnExactFlushSpec).bare Rows.fnExactFlushRow=true:=by
 unfold joinedFacts;rw[inPlace_is,unfollowed_is,recurses_is,named_is]
 kernel_rfl
theorem said:Rows.FnExactFlushSaid:=
 OpenClaim.holds_of_cond 8 f8 rfl rfl rfl rfl rfl rfl rfl ⟨rfl,rfl,rfl,rfl,rfl⟩ rfl rfl rfl rfl rfl (by kernel_rfl) func8 closed
  (of_decide_eq_true (by kernel_rfl)) (by unfold Func.isWrapper;first|(rw[if_pos (by decide+kernel)];kernel_rfl)|(rw[if_neg (by decide+kernel)];exact⟨rfl,rfl⟩))
  (fun os started H enc _ F=>by rw[OpenClaim.pre_eq_preRow];exact lifted os started H enc F)
theorem plain (f:FuncId) (fn:Func) (hf:Tryz.pinned.checked.prog.funcNamed "loop.example/kilnvault/laws.FnExactFlush" =some f) (zA:Tryz.pinned.checked.prog.funcs[f]?=some fn):
 true=Tryz.pinned.checked.prog.looks []/\∀(j:Nat) t,fn.params[j]?=some t->Tryz.pinned.checked.prog.wantsStandIn t=false:=by
 obtain rfl:f=8:=Option.some.inj ((show prog.funcNamed "loop.example/kilnvault/laws.FnExactFlush" =some 8 by kernel_rfl).symm.trans hf)|>.symm;obtain rfl:fn=f8:=(Option.some.inj (func8.symm.trans zA)).symm;refine⟨by kernel_rfl,fun j t ht=> ?_⟩;rw[params8] at ht;have hm:=Array.mem_of_getElem? ht;simp at hm;subst hm;exact(show prog.wantsStandIn 60=false by kernel_rfl)
end ExactFlush
theorem fnExactFlush_holds:Rows.FnExactFlushCardSaid:=
 Claim7.holds_tied_plain_at .later [] _ _ _ _ ExactFlush.said (fun _ h=>by cases h) (by kernel_rfl) (fun _ h=>by cases h) fnExactFlush_row_tie rfl ⟨rfl,rfl⟩ (by kernel_rfl) rfl ExactFlush.plain (by kernel_rfl)
#print axioms fnExactFlush_holds
end Go.Proofs.YtpekbmegopfhfaaGreatDoor
