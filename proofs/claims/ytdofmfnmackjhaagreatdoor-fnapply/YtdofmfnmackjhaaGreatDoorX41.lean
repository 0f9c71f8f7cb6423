import Derived.Test.YtdofmfnmackjhaaGreatDoorX40
import Derived.Test.YtdofmfnmackjhaaGreatDoorCards
import Derived.Test.YtdofmfnmackjhaaGreatDoorTie
import Derived.OpenVars
import Derived.Deep.DeepHandedRow
set_option maxRecDepth 100000
set_option maxHeartbeats 16000000
namespace Go.Proofs.YtdofmfnmackjhaaGreatDoor
open ChangeShapes WideShapes ChangeAt RowKit _root_.Go.Proofs.Tryz List World Value
namespace ApplyLaw
theorem contract(H:Type)(f:TypeId×Value->H)(W:Zh)(g:Nat)(args:Array Value)(u K:List (DataW H))(before:List MemPlace)(b:∀(j:Nat) t v,f3.params[j]?=some t->args[j]?=some v->okWide prog W .any g t v)(A:DataW.Whole f prog f3.params.toList Rows.fnApplySpec.vars false W args.toList u K before)(M:laidMetH prog Rows.fnApplyRow.laid W):
 D8 3 args W λe s=>∃v,e=.returned v/\Rows.fnApplySpec.post f prog f3 false true false false W args v s:=by
 have d:=b;have D:=A;have L:Hz W:=Aac M;obtain⟨p,q,l,z,rfl,V,X⟩:=A;have y:DataW.TrodAll f prog W 0 (λ_=>true) true f3.params.toList args.toList u p:=l;rw[params3]at y d;obtain⟨v0,Y,Z,U,S,q0,r,rfl,rfl,w,r0⟩:=trodAll_cons y;obtain⟨rfl,rfl,rfl⟩:=trodAll_nil r0;obtain rfl:args= #[v0]:=by cases args;simp_all
 have C:=z;obtain⟨gv,tv,T,fv,v,pv,rfl,_,_,_,_,_⟩:=trodVars_one C;have B:=w;have G:∀x∈S,x.block<W.1.size:=by obtain⟨m,Q⟩:=B;exact DataW.trod_lt m _ _ _ Q
 have⟨J,k,i,E⟩:=okWide_slice underlying22 (d 0 22 v0 rfl rfl);subst E;obtain⟨I,P⟩:=w;have⟨a,n,c,F,N,O,R⟩:=Sl P;injection F with e1 e2 e3;subst e1 e2 e3;clear l b;refine(Qv J k i W R N O L).aj λe s ⟨he,cu⟩=> ?_;subst he
 exact⟨_,rfl,_,_,_,[],_,_,D,trodAll_mk1 (shut_bool underlying4 _),(trodAll_cons_mk (Below.trod laidOut Yr (of_decide_eq_true Yr) B cu G) trodAll_mk0),Below.trodVars laidOut cu Yr z,cu.frame _,λh=>by cases h⟩
noncomputable def kpW (os:Os):Zh:={World.holding prog os ⟨#[],#[],[]⟩with heap:=(World.holding prog os ⟨#[],#[],[]⟩).1.modify 0 λ|.cells _ t frozen=> .cells #[.bool false,.bool false,.bool false,.int .i64 0,.bool false,.bool false,.bool true,.int .i64 100000,.bool true,.bool true,.bool false,.int .i64 0,.bool true,.bool false,.bool false,.int .i64 0,.bool false,.bool true,.bool false,.int .i64 100000,.bool false,.bool false,.bool false,.int .i64 1000000000,.bool false,.bool false,.bool false,.int .i64 100000,.bool false,.bool true,.bool false,.int .i64 0] t frozen|o=>o}
theorem WL(a:Os):laidMet prog Rows.fnApplyRow.laid (forCall (kpW a) (λ_ _=>0) ⟨#[],#[.slice none 0 0],[]⟩).memory:=
 laidMet_of_run' 8 Yr Yr
theorem reads(a:Os){H:Type}(enc:TypeId×Value->H):∃places,DataW.whole enc prog (forCall (kpW a) (λ_ _=>0) ⟨#[],#[.slice none 0 0],[]⟩).memory f3.params.toList Rows.fnApplySpec.vars false (#[.slice none 0 0]:Array Value).toList 8=some ([.nil],[Rows.laid_loop_example_kilnvault_impl_kindParts],places):=
 ⟨MemPlace.row ⟨0,0,none⟩ 32,Yr⟩
theorem lifted(a:Os)(started:a.Started)(H:Type)(enc:TypeId×Value->H)(F:Stop.Interp):
 ReturnsInHanded {} checked a 3 .any ((OpenSpec.ofChange Rows.fnApplySpec).preRow enc prog f3 Rows.fnApplyRow.domain false Rows.fnApplyRow.laid) (((OpenSpec.ofChange Rows.fnApplySpec).at F).post enc prog f3 false true false false):=by
 obtain⟨places,h⟩:=reads a enc;refine returnsInHanded_of_row (C:=checked) (s:=OpenSpec.ofChange Rows.fnApplySpec) own started (by kernel_rfl) func3
  (witness_row_at (enc:=enc) (C:=checked) false (kpW a) #[.slice none 0 0] rfl (by kernel_rfl) (by kernel_rfl) (by kernel_rfl)
    (OpenSpec.preRow_of_cond 8 h (by kernel_rfl) (λk b=>by cases b) (by kernel_rfl) (WL a))) ?_
 intro W b args d e before c g _ _ _ f _ _;exact contract H enc W b args d e before c g f
