import Derived.Test.YtflhhhnlhlaehaaGreatDoorC05
import Derived.Test.YtflhhhnlhlaehaaGreatDoorC32
set_option maxRecDepth 100000
set_option maxHeartbeats 16000000
namespace Go.Proofs.YtflhhhnlhlaehaaGreatDoor
open Go.ChangeShapes Go.WideShapes Go.ChangeAt Go.RowKit _root_.Go.Proofs.Tryz
namespace ClashLaw
theorem closed:joinedFacts Tryz.pinned.checked.prog 3 f3 (OpenSpec.ofChange Rows.fnClashSpec).bare Rows.fnClashRow=true:=by
 unfold joinedFacts;rw[MQ,Ki,LU,Pk]
 kernel_rfl
theorem said:Rows.FnClashSaid:=
 OpenClaim.holds_of_cond 3 f3 rfl rfl rfl rfl rfl rfl rfl ⟨rfl,rfl,rfl,rfl,rfl⟩ rfl rfl rfl rfl rfl (by kernel_rfl) func3 closed
  (of_decide_eq_true (by kernel_rfl)) (by unfold Func.isWrapper;first|(rw[if_pos (by decide+kernel)];kernel_rfl)|(rw[if_neg (by decide+kernel)];exact⟨rfl,rfl⟩))
  (fun os started H enc _ F=>by rw[OpenClaim.pre_eq_preRow];exact lifted os started H enc F)
theorem plain (f:FuncId) (fn:Func) (hf:Tryz.pinned.checked.prog.funcNamed "loop.example/kilnvault/laws.FnClash" =some f) (zA:Tryz.pinned.checked.prog.funcs[f]?=some fn):
 true=Tryz.pinned.checked.prog.looks []/\∀(j:Nat) t,fn.params[j]?=some t->Tryz.pinned.checked.prog.wantsStandIn t=false:=by
 obtain rfl:f=3:=Option.some.inj ((show prog.funcNamed "loop.example/kilnvault/laws.FnClash" =some 3 by kernel_rfl).symm.trans hf)|>.symm;obtain rfl:fn=f3:=(Option.some.inj (func3.symm.trans zA)).symm;refine⟨by kernel_rfl,fun j t ht=> ?_⟩;rw[params3] at ht;have hm:=Array.mem_of_getElem? ht;simp at hm;subst hm;exact(show prog.wantsStandIn 22=false by kernel_rfl)
end ClashLaw
theorem fnClash_holds:Rows.FnClashCardSaid:=
 Claim7.holds_tied_plain_at .later [] _ _ _ _ ClashLaw.said (fun _ h=>by cases h) (by kernel_rfl) (fun _ h=>by cases h) fnClash_row_tie rfl ⟨rfl,rfl⟩ (by kernel_rfl) rfl ClashLaw.plain (by kernel_rfl)
#print axioms fnClash_holds
end Go.Proofs.YtflhhhnlhlaehaaGreatDoor
