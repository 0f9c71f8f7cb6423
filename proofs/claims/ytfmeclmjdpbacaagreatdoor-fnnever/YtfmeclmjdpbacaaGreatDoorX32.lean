import Derived.Test.YtfmeclmjdpbacaaGreatDoorX17
import Derived.Test.YtfmeclmjdpbacaaGreatDoorX31
set_option maxRecDepth 100000
set_option maxHeartbeats 16000000
namespace Go.Proofs.YtfmeclmjdpbacaaGreatDoor
open ChangeShapes WideShapes ChangeAt RowKit _root_.Go.Proofs.Tryz List World Value
namespace NeverLaw
theorem closed:joinedFacts Tryz.pinned.checked.prog 3 f3 (OpenSpec.ofChange Rows.fnNeverSpec).bare Rows.fnNeverRow=true:=by
 unfold joinedFacts;rw[TG,Pb,Rq,XN]
 kernel_rfl
theorem said:Rows.FnNeverSaid:=
 OpenClaim.holds_of_cond 3 f3 rfl rfl rfl rfl rfl rfl rfl ⟨rfl,rfl,rfl,rfl,rfl⟩ rfl rfl rfl rfl rfl Yr func3 closed
  (of_decide_eq_true Yr) (by unfold Func.isWrapper;first|(rw[if_pos (by decide+kernel)];kernel_rfl)|(rw[if_neg (by decide+kernel)];exact⟨rfl,rfl⟩))
  (λb started H a _ F=>by rw[OpenClaim.pre_eq_preRow];exact lifted b started H a F)
theorem plain(f:FuncId)(a:Func)(e:Tryz.pinned.checked.prog.funcNamed "loop.example/kilnvault/laws.FnNever" =some f)(d:Tryz.pinned.checked.prog.funcs[f]?=some a):
 true=Tryz.pinned.checked.prog.looks []/\∀(j:Nat) t,a.params[j]?=some t->Tryz.pinned.checked.prog.wantsStandIn t=false:=by
 obtain rfl:f=3:=A2 ((show prog.funcNamed "loop.example/kilnvault/laws.FnNever" =some 3 by kernel_rfl).symm.ag e)|>.symm;obtain rfl:a=f3:=(A2 (func3.symm.ag d)).symm;refine⟨Yr,λj t c=> ?_⟩;rw[params3]at c;have b:=Array.mem_of_getElem? c;simp at b;subst b;exact(show prog.wantsStandIn 22=false by kernel_rfl)
end NeverLaw
theorem fnNever_holds:Rows.FnNeverCardSaid:=
 Claim7.holds_tied_plain_at .later [] _ _ _ _ NeverLaw.said (λ_ h=>by cases h) Yr (λ_ h=>by cases h) fnNever_row_tie rfl ⟨rfl,rfl⟩ Yr rfl NeverLaw.plain Yr
#print axioms fnNever_holds
