import Derived.Test.YtoglnpagihdhpaaGreatDoorX16
import Derived.Test.YtoglnpagihdhpaaGreatDoorX36
set_option maxRecDepth 100000
set_option maxHeartbeats 16000000
namespace Go.Proofs.YtoglnpagihdhpaaGreatDoor
open ChangeShapes WideShapes ChangeAt RowKit _root_.Go.Proofs.Tryz
namespace ReplayLaw
theorem closed:joinedFacts Tryz.pinned.checked.prog 3 f3 (OpenSpec.ofChange Rows.fnReplaySpec).bare Rows.fnReplayRow=true:=by
 unfold joinedFacts;rw[Sg,NT,Qm,Vu]
 kernel_rfl
theorem said:Rows.FnReplaySaid:=
 OpenClaim.holds_of_cond 3 f3 rfl rfl rfl rfl rfl rfl rfl ⟨rfl,rfl,rfl,rfl,rfl⟩ rfl rfl rfl rfl rfl Yr func3 closed
  (of_decide_eq_true Yr) (by unfold Func.isWrapper;first|(rw[if_pos (by decide+kernel)];kernel_rfl)|(rw[if_neg (by decide+kernel)];exact⟨rfl,rfl⟩))
  (fun b started H a _ F=>by rw[OpenClaim.pre_eq_preRow];exact lifted b started H a F)
theorem plain(f:FuncId)(a:Func)(e:Tryz.pinned.checked.prog.funcNamed "loop.example/kilnvault/laws.FnReplay" =some f)(d:Tryz.pinned.checked.prog.funcs[f]?=some a):
 true=Tryz.pinned.checked.prog.looks []/\∀(j:Nat) t,a.params[j]?=some t->Tryz.pinned.checked.prog.wantsStandIn t=false:=by
 obtain rfl:f=3:=Option.some.inj ((show prog.funcNamed "loop.example/kilnvault/laws.FnReplay" =some 3 by kernel_rfl).symm.trans e)|>.symm;obtain rfl:a=f3:=(Option.some.inj (func3.symm.trans d)).symm;refine⟨Yr,fun j t c=> ?_⟩;rw[params3]at c;have b:=Array.mem_of_getElem? c;simp at b;subst b;exact(show prog.wantsStandIn 22=false by kernel_rfl)
end ReplayLaw
theorem fnReplay_holds:Rows.FnReplayCardSaid:=
 Claim7.holds_tied_plain_at .later [] _ _ _ _ ReplayLaw.said (fun _ h=>by cases h) Yr (fun _ h=>by cases h) fnReplay_row_tie rfl ⟨rfl,rfl⟩ Yr rfl ReplayLaw.plain Yr
#print axioms fnReplay_holds
end Go.Proofs.YtoglnpagihdhpaaGreatDoor
