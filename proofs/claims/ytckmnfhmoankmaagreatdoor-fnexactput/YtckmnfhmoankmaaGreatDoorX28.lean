import Derived.Test.YtckmnfhmoankmaaGreatDoorX13
import Derived.Test.YtckmnfhmoankmaaGreatDoorX27
set_option maxRecDepth 100000
set_option maxHeartbeats 16000000
namespace Go.Proofs.YtckmnfhmoankmaaGreatDoor
open Go.ChangeShapes Go.WideShapes Go.ChangeAt Go.RowKit _root_.Go.Proofs.Tryz
namespace ExactPut
theorem closed:joinedFacts Tryz.pinned.checked.prog 3 f3 (OpenSpec.ofChange Rows.fnExactPutSpec).bare Rows.fnExactPutRow=true:=by
 unfold joinedFacts;rw[Rt,Nr,PC,Vf]
 kernel_rfl
theorem said:Rows.FnExactPutSaid:=
 OpenClaim.holds_of_cond 3 f3 rfl rfl rfl rfl rfl rfl rfl ⟨rfl,rfl,rfl,rfl,rfl⟩ rfl rfl rfl rfl rfl (by kernel_rfl) func3 closed
  (of_decide_eq_true (by kernel_rfl)) (by unfold Func.isWrapper;first|(rw[if_pos (by decide+kernel)];kernel_rfl)|(rw[if_neg (by decide+kernel)];exact⟨rfl,rfl⟩))
  (fun b started H a _ F=>by rw[OpenClaim.pre_eq_preRow];exact lifted b started H a F)
theorem plain(f:FuncId)(a:Func)(e:Tryz.pinned.checked.prog.funcNamed "loop.example/kilnvault/laws.FnExactPut" =some f)(d:Tryz.pinned.checked.prog.funcs[f]?=some a):
 true=Tryz.pinned.checked.prog.looks []/\∀(j:Nat) t,a.params[j]?=some t->Tryz.pinned.checked.prog.wantsStandIn t=false:=by
 obtain rfl:f=3:=Option.some.inj ((show prog.funcNamed "loop.example/kilnvault/laws.FnExactPut" =some 3 by kernel_rfl).symm.trans e)|>.symm;obtain rfl:a=f3:=(Option.some.inj (func3.symm.trans d)).symm;refine⟨by kernel_rfl,fun j t c=> ?_⟩;rw[params3]at c;have b:=Array.mem_of_getElem? c;simp at b;rcases b with rfl|rfl|rfl
 ·exact(show prog.wantsStandIn 33=false by kernel_rfl)
 ·exact(show prog.wantsStandIn 35=false by kernel_rfl)
 ·exact(show prog.wantsStandIn 3=false by kernel_rfl)
end ExactPut
theorem fnExactPut_holds:Rows.FnExactPutCardSaid:=
 Claim7.holds_tied_plain_at .later [] _ _ _ _ ExactPut.said (fun _ h=>by cases h) (by kernel_rfl) (fun _ h=>by cases h) fnExactPut_row_tie rfl ⟨rfl,rfl⟩ (by kernel_rfl) rfl ExactPut.plain (by kernel_rfl)
#print axioms fnExactPut_holds
end Go.Proofs.YtckmnfhmoankmaaGreatDoor
