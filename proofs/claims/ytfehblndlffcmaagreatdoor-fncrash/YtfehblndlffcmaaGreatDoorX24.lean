import Derived.Test.YtfehblndlffcmaaGreatDoorX12
import Derived.Test.YtfehblndlffcmaaGreatDoorX23
set_option maxRecDepth 100000
set_option maxHeartbeats 16000000
namespace Go.Proofs.YtfehblndlffcmaaGreatDoor
open ChangeShapes WideShapes ChangeAt RowKit _root_.Go.Proofs.Tryz List World Value
namespace CrashLaw
theorem closed:joinedFacts Tryz.pinned.checked.prog 3 f3 (OpenSpec.ofChange Rows.fnCrashSpec).bare Rows.fnCrashRow=true:=by
 unfold joinedFacts;rw[Tj,Ox,QZ,WU]
 kernel_rfl
theorem said:Rows.FnCrashSaid:=
 OpenClaim.holds_of_cond 3 f3 rfl rfl rfl rfl rfl rfl rfl ⟨rfl,rfl,rfl,rfl,rfl⟩ rfl rfl rfl rfl rfl Yr func3 closed
  (of_decide_eq_true Yr) (by unfold Func.isWrapper;first|(rw[if_pos (by decide+kernel)];kernel_rfl)|(rw[if_neg (by decide+kernel)];exact⟨rfl,rfl⟩))
  (λb started H a _ F=>by rw[OpenClaim.pre_eq_preRow];exact lifted b started H a F)
theorem plain(f:FuncId)(a:Func)(e:Tryz.pinned.checked.prog.funcNamed "loop.example/kilnvault/laws.FnCrash" =some f)(d:Tryz.pinned.checked.prog.funcs[f]?=some a):
 true=Tryz.pinned.checked.prog.looks []/\∀(j:Nat) t,a.params[j]?=some t->Tryz.pinned.checked.prog.wantsStandIn t=false:=by
 obtain rfl:f=3:=A8 ((show prog.funcNamed "loop.example/kilnvault/laws.FnCrash" =some 3 by kernel_rfl).symm.ag e)|>.symm;obtain rfl:a=f3:=(A8 (func3.symm.ag d)).symm;refine⟨Yr,λj t c=> ?_⟩;rw[params3]at c;have b:=Array.mem_of_getElem? c;simp at b;subst b;exact(show prog.wantsStandIn 22=false by kernel_rfl)
end CrashLaw
theorem fnCrash_holds:Rows.FnCrashCardSaid:=
 Claim7.holds_tied_plain_at .later [] _ _ _ _ CrashLaw.said (λ_ h=>by cases h) Yr (λ_ h=>by cases h) fnCrash_row_tie rfl ⟨rfl,rfl⟩ Yr rfl CrashLaw.plain Yr
#print axioms fnCrash_holds
