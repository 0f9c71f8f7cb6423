import Derived.Test.YtfehblndlffcmaaGreatDoorX36
set_option maxRecDepth 100000
set_option maxHeartbeats 16000000
open Option renaming none->ba
open Bool renaming false->bq
namespace Go.Proofs.YtfehblndlffcmaaGreatDoor
open ChangeShapes WideShapes ChangeAt RowKit _root_.Go.Proofs.Tryz List World Value
namespace CrashLaw
theorem contract(H:Type)(f:TypeId×Value->H){W:Zh}(g:Nat)(args:Array Value){u R:List (DataW H)}{before:List MemPlace}(b:∀(j:Nat) t v,f3.params[j]?=some t->args[j]?=some v->okWide prog W .any g t v)(A:DataW.Whole f prog f3.params.toList Rows.fnCrashSpec.vars bq W args.toList u R before)(T:laidMetH prog Rows.fnCrashRow.laid W):
 D8 3 args W λe s=>∃v,e=.returned v/\Rows.fnCrashSpec.post f prog f3 bq true bq bq W args v s:=by
 have d:=b;have L:=A;have o:laidMet prog YM W/\handlesMet prog [("errors.errorType",Rows.laid_errors_errorType)] W:=T;have S:=Acq o.1 o.2;obtain⟨p,q,l,z,rfl,zJ,zK⟩:=A;have y:DataW.TrodAll f prog W 0 (λ_=>true) true f3.params.toList args.toList u p:=l;rw[params3]at y d;obtain⟨v0,zM,d0,zA,v,q0,r,rfl,rfl,w,r0⟩:=trodAll_cons y;obtain⟨rfl,rfl,rfl⟩:=trodAll_nil r0;obtain rfl:args= #[v0]:=by cases args;simp_all
 have C:=z;obtain⟨g1,zB,_,rfl,D⟩:=ES C;obtain⟨g2,zC,_,rfl,E⟩:=ES D;obtain⟨g3,zE,_,rfl,F⟩:=ES E;obtain⟨g4,zF,_,rfl,G⟩:=ES F;obtain⟨g5,zG,_,rfl,I⟩:=ES G;obtain⟨g6,zH,_,rfl,J⟩:=ES I;obtain⟨g7,zI,_,rfl,K⟩:=ES J;obtain⟨rfl,_⟩:=trodVars_none K;have B:=w;have O:∀x∈v,x.block<W.1.size:=by obtain⟨m,Y⟩:=B;exact DataW.trod_lt m _ _ _ Y
 have⟨Q,k,i,M⟩:=okWide_slice underlying22 (d 0 22 v0 rfl rfl);subst M;obtain⟨P,X⟩:=w;have⟨a,n,c,N,U,V,Z⟩:=Sw X;injection N with e1 e2 e3;subst e1 e2 e3;clear l b;refine(Rp i Z U V S).ai λe s ⟨he,cn⟩=> ?_;subst he;exact⟨_,rfl,_,_,_,[],_,_,L,trodAll_mk1 (shut_bool underlying4 _),(trodAll_cons_mk (Below.trod laidOut Yr (of_decide_eq_true Yr) B cn O) trodAll_mk0),Below.trodVars laidOut cn Yr z,cn.frame _,λh=>by cases h⟩
theorem XX(a:Os):laidMetH prog Rows.fnCrashRow.laid (forCall (envWorld a) (λ_ _=>0) ⟨#[],#[.slice ba 0 0],[]⟩).memory:=
 laidMetH_of_parts (laidMet_of_run' 8 Yr Yr) Yr
theorem reads(a:Os){H:Type}(enc:TypeId×Value->H):∃places,DataW.whole enc prog (forCall (envWorld a) (λ_ _=>0) ⟨#[],#[.slice ba 0 0],[]⟩).memory f3.params.toList Rows.fnCrashSpec.vars bq (#[.slice ba 0 0]:Array Value).toList 8=some ([.nil],[heldE enc a 0,heldE enc a 1,heldE enc a 4,heldE enc a 5,heldE enc a 2,Rows.laid_loop_example_kilnvault_impl_kindParts,heldE enc a 3],places):=
 ⟨MemPlace.row ⟨0,0,ba⟩ 1++(MemPlace.row ⟨1,0,ba⟩ 1++(MemPlace.row ⟨2,0,ba⟩ 1++(MemPlace.row ⟨3,0,ba⟩ 1++(MemPlace.row ⟨6,0,ba⟩ 1++(MemPlace.row ⟨5,0,ba⟩ 32++MemPlace.row ⟨7,0,ba⟩ 1))))),Yr⟩
theorem lifted(a:Os)(started:a.Started)(H:Type)(enc:TypeId×Value->H)(F:Stop.Interp):
 ReturnsInHanded {} checked a 3 .any ((OpenSpec.ofChange Rows.fnCrashSpec).preRow enc prog f3 Rows.fnCrashRow.domain bq Rows.fnCrashRow.laid) (((OpenSpec.ofChange Rows.fnCrashSpec).at F).post enc prog f3 bq true bq bq):=by
 obtain⟨places,h⟩:=reads a enc;refine returnsInHanded_of_row (C:=checked) (s:=OpenSpec.ofChange Rows.fnCrashSpec) own started Ez func3
  (witness_row_at (enc:=enc) (C:=checked) bq (envWorld a) #[.slice ba 0 0] rfl Ez Ez Ez
    (OpenSpec.preRow_of_cond 8 h Ez (λk b=>by cases b) Ez (XX a))) ?_
 intro W b args d e before c g _ _ _ f _ _;exact contract H enc b args c g f
