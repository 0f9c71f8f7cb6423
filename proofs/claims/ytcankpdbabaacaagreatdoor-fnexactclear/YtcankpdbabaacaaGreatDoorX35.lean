import Derived.Test.YtcankpdbabaacaaGreatDoorX17
import Derived.Test.YtcankpdbabaacaaGreatDoorX34
set_option maxRecDepth 100000
set_option maxHeartbeats 16000000
namespace Go.Proofs.YtcankpdbabaacaaGreatDoor
open Go.ChangeShapes Go.WideShapes Go.ChangeAt Go.RowKit _root_.Go.Proofs.Tryz
namespace ExactClear
theorem closed:joinedFacts Tryz.pinned.checked.prog 3 f3 (OpenSpec.ofChange Rows.fnExactClearSpec).bare Rows.fnExactClearRow=true:=by
 unfold joinedFacts;rw[Si,NM,Qn,Wb]
 kernel_rfl
theorem said:Rows.FnExactClearSaid:=
 OpenClaim.holds_of_cond 3 f3 rfl rfl rfl rfl rfl rfl rfl ⟨rfl,rfl,rfl,rfl,rfl⟩ rfl rfl rfl rfl rfl Yt func3 closed
  (of_decide_eq_true Yt) (by unfold Func.isWrapper;first|(rw[if_pos (by decide+kernel)];kernel_rfl)|(rw[if_neg (by decide+kernel)];exact⟨rfl,rfl⟩))
  (fun b started H a _ F=>by rw[OpenClaim.pre_eq_preRow];exact lifted b started H a F)
theorem plain(f:FuncId)(a:Func)(e:Tryz.pinned.checked.prog.funcNamed "loop.example/kilnvault/laws.FnExactClear" =some f)(d:Tryz.pinned.checked.prog.funcs[f]?=some a):
 true=Tryz.pinned.checked.prog.looks []/\∀(j:Nat) t,a.params[j]?=some t->Tryz.pinned.checked.prog.wantsStandIn t=false:=by
 obtain rfl:f=3:=Option.some.inj ((show prog.funcNamed "loop.example/kilnvault/laws.FnExactClear" =some 3 by kernel_rfl).symm.trans e)|>.symm;obtain rfl:a=f3:=(Option.some.inj (func3.symm.trans d)).symm;refine⟨Yt,fun j t c=> ?_⟩;rw[params3]at c;have b:=Array.mem_of_getElem? c;simp at b;rcases b with rfl|rfl
 .exact(show prog.wantsStandIn 33=false by kernel_rfl)
 .exact(show prog.wantsStandIn 3=false by kernel_rfl)
end ExactClear
theorem fnExactClear_holds:Rows.FnExactClearCardSaid:=
 Claim7.holds_tied_plain_at .later [] _ _ _ _ ExactClear.said (fun _ h=>by cases h) Yt (fun _ h=>by cases h) fnExactClear_row_tie rfl ⟨rfl,rfl⟩ Yt rfl ExactClear.plain Yt
#print axioms fnExactClear_holds
end Go.Proofs.YtcankpdbabaacaaGreatDoor
