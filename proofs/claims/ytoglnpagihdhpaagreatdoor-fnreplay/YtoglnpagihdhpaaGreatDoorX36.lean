import Derived.Test.YtoglnpagihdhpaaGreatDoorX35
set_option maxRecDepth 100000
set_option maxHeartbeats 16000000
namespace Go.Proofs.YtoglnpagihdhpaaGreatDoor
open ChangeShapes WideShapes ChangeAt RowKit _root_.Go.Proofs.Tryz
namespace ReplayLaw
theorem contract(H:Type)(f:TypeId×Value->H)(W:Zh)(g:Nat)(args:Array Value)(u R:List (DataW H))(before:List MemPlace)(b:∀(j:Nat) t v,f3.params[j]?=some t->args[j]?=some v->Value.okWide prog W .any g t v)(A:DataW.Whole f prog f3.params.toList Rows.fnReplaySpec.vars false W args.toList u R before)(T:laidMetH prog Rows.fnReplayRow.laid W):
 Calls prog 3 args W fun e s=>∃v,e=.returned v/\Rows.fnReplaySpec.post f prog f3 false true false false W args v s:=by
 have d:=b;have L:=A;have o:laidMet prog Wt W/\handlesMet prog [("errors.errorType",Rows.laid_errors_errorType)] W:=T;have S:=ZL o.1 o.2;obtain⟨p,q,l,z,rfl,zJ,zK⟩:=A;have y:DataW.TrodAll f prog W 0 (fun _=>true) true f3.params.toList args.toList u p:=l;rw[params3]at y d;obtain⟨v0,zM,d0,zA,p0,q0,r,rfl,rfl,w,r0⟩:=trodAll_cons y;obtain⟨rfl,rfl,rfl⟩:=trodAll_nil r0
 obtain rfl:args= #[v0]:=by cases args;simp_all
 have C:=z;obtain⟨g1,zB,_,rfl,D⟩:=ED C;obtain⟨g2,zC,_,rfl,E⟩:=ED D;obtain⟨g3,zE,_,rfl,F⟩:=ED E;obtain⟨g4,zF,_,rfl,G⟩:=ED F;obtain⟨g5,zG,_,rfl,I⟩:=ED G;obtain⟨g6,zH,_,rfl,J⟩:=ED I;obtain⟨g7,zI,_,rfl,K⟩:=ED J;obtain⟨rfl,_⟩:=trodVars_none K;have B:=w;have O:∀x∈p0,x.block<W.heap.size:=by obtain⟨m,Y⟩:=B;exact DataW.trod_lt m _ _ _ Y
 obtain⟨Q,k,i,M⟩:=okWide_slice underlying22 (d 0 22 v0 rfl rfl);subst M;obtain⟨P,X⟩:=w;obtain⟨a,n,c,N,U,V,Z⟩:=Rx X;injection N with e1 e2 e3;subst e1 e2 e3;clear l b;refine(Oi Q k i W Z U V S).mono fun e s ⟨he,cu⟩=> ?_;subst he
 exact⟨_,rfl,_,_,_,[],_,_,L,trodAll_mk1 (shut_bool underlying4 _),(trodAll_cons_mk (Below.trod laidOut Yr (of_decide_eq_true Yr) B cu O) trodAll_mk0),Below.trodVars laidOut cu Yr z,cu.frame _,fun h=>by cases h⟩
theorem Wf(a:Os):laidMetH prog Rows.fnReplayRow.laid (World.forCall (envWorld a) (fun _ _=>0) ⟨#[],#[.slice none 0 0],[]⟩).memory:=
 laidMetH_of_parts (laidMet_of_run' 8 Yr Yr) Yr
theorem reads(a:Os){H:Type}(enc:TypeId×Value->H):∃places,DataW.whole enc prog (World.forCall (envWorld a) (fun _ _=>0) ⟨#[],#[.slice none 0 0],[]⟩).memory f3.params.toList Rows.fnReplaySpec.vars false (#[.slice none 0 0]:Array Value).toList 8=some ([.nil],[heldE enc a 0,heldE enc a 1,heldE enc a 4,heldE enc a 5,heldE enc a 2,Rows.laid_loop_example_kilnvault_impl_kindParts,heldE enc a 3],places):=
 ⟨MemPlace.row ⟨0,0,none⟩ 1++(MemPlace.row ⟨1,0,none⟩ 1++(MemPlace.row ⟨2,0,none⟩ 1++(MemPlace.row ⟨3,0,none⟩ 1++(MemPlace.row ⟨6,0,none⟩ 1++(MemPlace.row ⟨5,0,none⟩ 32++MemPlace.row ⟨7,0,none⟩ 1))))),Yr⟩
theorem lifted(a:Os)(started:a.Started)(H:Type)(enc:TypeId×Value->H)(F:Stop.Interp):
 ReturnsInHanded {} checked a 3 .any ((OpenSpec.ofChange Rows.fnReplaySpec).preRow enc prog f3 Rows.fnReplayRow.domain false Rows.fnReplayRow.laid) (((OpenSpec.ofChange Rows.fnReplaySpec).at F).post enc prog f3 false true false false):=by
 obtain⟨places,i⟩:=reads a enc;refine returnsInHanded_of_row (C:=checked) (s:=OpenSpec.ofChange Rows.fnReplaySpec) own started (by kernel_rfl) func3
  (witness_row_at (enc:=enc) (C:=checked) false (envWorld a) #[.slice none 0 0] rfl (by kernel_rfl) (by kernel_rfl) (by kernel_rfl)
    (OpenSpec.preRow_of_cond 8 i (by kernel_rfl) (fun k h=>by cases h) (by kernel_rfl) (Wf a))) ?_
 intro W b args d e before c g _ _ _ f _ _;exact contract H enc W b args d e before c g f
end ReplayLaw
end Go.Proofs.YtoglnpagihdhpaaGreatDoor
