import Derived.Test.YtfmeclmjdpbacaaGreatDoorX30
set_option maxRecDepth 100000
set_option maxHeartbeats 16000000
open Option renaming none->an
open Bool renaming false->ba
namespace Go.Proofs.YtfmeclmjdpbacaaGreatDoor
open ChangeShapes WideShapes ChangeAt RowKit _root_.Go.Proofs.Tryz List World Value
namespace NeverLaw
theorem contract(H:Type)(f:TypeId×Value->H){W:Zh}(g:Nat)(args:Array Value){u R:List (DataW H)}{before:List MemPlace}(b:∀(j:Nat) t v,f3.params[j]?=some t->args[j]?=some v->okWide prog W .any g t v)(A:DataW.Whole f prog f3.params.toList Rows.fnNeverSpec.vars ba W args.toList u R before)(T:laidMetH prog Rows.fnNeverRow.laid W):
 D4 3 args W λe s=>∃v,e=.returned v/\Rows.fnNeverSpec.post f prog f3 ba true ba ba W args v s:=by
 have d:=b;have L:=A;have o:laidMet prog ZF W/\handlesMet prog [("errors.errorType",Rows.laid_errors_errorType)] W:=T;have S:=Adt o.1 o.2;obtain⟨p,q,l,z,rfl,zJ,zK⟩:=A;have y:DataW.TrodAll f prog W 0 (λ_=>true) true f3.params.toList args.toList u p:=l;rw[params3]at y d;obtain⟨v0,zM,d0,zA,v,q0,r,rfl,rfl,w,r0⟩:=trodAll_cons y;obtain⟨rfl,rfl,rfl⟩:=trodAll_nil r0;obtain rfl:args= #[v0]:=by cases args;simp_all
 have C:=z;obtain⟨g1,zB,_,rfl,D⟩:=EZ C;obtain⟨g2,zC,_,rfl,E⟩:=EZ D;obtain⟨g3,zE,_,rfl,F⟩:=EZ E;obtain⟨g4,zF,_,rfl,G⟩:=EZ F;obtain⟨g5,zG,_,rfl,I⟩:=EZ G;obtain⟨g6,zH,_,rfl,J⟩:=EZ I;obtain⟨g7,zI,_,rfl,K⟩:=EZ J;obtain⟨rfl,_⟩:=trodVars_none K;have B:=w;have O:∀x∈v,x.block<W.1.size:=by obtain⟨m,Y⟩:=B;exact DataW.trod_lt m _ _ _ Y
 have⟨Q,k,i,M⟩:=okWide_slice underlying22 (d 0 22 v0 rfl rfl);subst M;obtain⟨P,X⟩:=w;have⟨a,n,c,N,U,V,Z⟩:=SA X;injection N with e1 e2 e3;subst e1 e2 e3;clear l b;refine(QO Q k i S Z U V).ah λe s ⟨he,cn⟩=> ?_;subst he;exact⟨_,rfl,_,_,_,[],_,_,L,trodAll_mk1 (shut_bool underlying4 _),(trodAll_cons_mk (Below.trod laidOut Yr (of_decide_eq_true Yr) B cn O) trodAll_mk0),Below.trodVars laidOut cn Yr z,cn.frame _,λh=>by cases h⟩
theorem YO(a:Os):laidMetH prog Rows.fnNeverRow.laid (forCall (envWorld a) (λ_ _=>0) ⟨#[],#[.slice an 0 0],[]⟩).memory:=
 laidMetH_of_parts (laidMet_of_run' 8 Yr Yr) Yr
theorem reads(a:Os){H:Type}(enc:TypeId×Value->H):∃places,DataW.whole enc prog (forCall (envWorld a) (λ_ _=>0) ⟨#[],#[.slice an 0 0],[]⟩).memory f3.params.toList Rows.fnNeverSpec.vars ba (#[.slice an 0 0]:Array Value).toList 8=some ([.nil],[heldE enc a 0,heldE enc a 1,heldE enc a 4,heldE enc a 5,heldE enc a 2,Rows.laid_loop_example_kilnvault_impl_kindParts,heldE enc a 3],places):=
 ⟨MemPlace.row ⟨0,0,an⟩ 1++(MemPlace.row ⟨1,0,an⟩ 1++(MemPlace.row ⟨2,0,an⟩ 1++(MemPlace.row ⟨3,0,an⟩ 1++(MemPlace.row ⟨6,0,an⟩ 1++(MemPlace.row ⟨5,0,an⟩ 32++MemPlace.row ⟨7,0,an⟩ 1))))),Yr⟩
theorem lifted(a:Os)(started:a.Started)(H:Type)(enc:TypeId×Value->H)(F:Stop.Interp):
 ReturnsInHanded {} checked a 3 .any ((OpenSpec.ofChange Rows.fnNeverSpec).preRow enc prog f3 Rows.fnNeverRow.domain ba Rows.fnNeverRow.laid) (((OpenSpec.ofChange Rows.fnNeverSpec).at F).post enc prog f3 ba true ba ba):=by
 obtain⟨places,h⟩:=reads a enc;refine returnsInHanded_of_row (C:=checked) (s:=OpenSpec.ofChange Rows.fnNeverSpec) own started I3 func3
  (witness_row_at (enc:=enc) (C:=checked) ba (envWorld a) #[.slice an 0 0] rfl I3 I3 I3
    (OpenSpec.preRow_of_cond 8 h I3 (λk b=>by cases b) I3 (YO a))) ?_
 intro W b args d e before c g _ _ _ f _ _;exact contract H enc b args c g f
