import Derived.Test.YtdgblkklkaklhaaGreatDoorX21
import Derived.Test.YtdgblkklkaklhaaGreatDoorX44
set_option maxRecDepth 100000
set_option maxHeartbeats 16000000
namespace Go.Proofs.YtdgblkklkaklhaaGreatDoor
open Go.ChangeShapes Go.WideShapes Go.ChangeAt Go.RowKit _root_.Go.Proofs.Tryz
namespace ExactGiveBack
theorem contract(H:Type)(d:TypeId×Value->H)(W:Zh)(base:Nat)(args:Array Value)(n K:List (DataW H))(before:List MemPlace)
 (b:∀(j:Nat) t v,f3.params[j]?=some t->args[j]?=some v->Value.okWide prog W .any base t v)
 (u:DataW.Whole d prog f3.params.toList Rows.fnExactGiveBackSpec.vars false W args.toList n K before) (N:laidMetH prog Rows.fnExactGiveBackRow.laid W):
 Calls prog 3 args W fun e l=>∃v,e=.returned v/\Rows.fnExactGiveBackSpec.post d prog f3 false true false false W args v l:=by
 have c:=b;have I:=u;have g:laidMet prog VL W/\handlesMet prog [("errors.errorType",Rows.laid_errors_errorType)] W:=N;have M:=XX g.1 g.2;obtain⟨p,q,f,s,rfl,zE,zF⟩:=u;have r:DataW.TrodAll d prog W 0 (fun _=>true) true f3.params.toList args.toList n p:=f;rw[params3]at r c;obtain⟨v0,zG,d0,T,Q,q0,k,rfl,rfl,o,r0⟩:=trodAll_cons r;obtain⟨y,zH,d1,U,p1,q1,rfl,rfl,rfl,L,R⟩:=trodAll_cons r0
 obtain⟨rfl,rfl,rfl⟩:=trodAll_nil R;obtain rfl:args= #[v0,y]:=by cases args;simp_all
 have z:=s;obtain⟨g1,V,_,rfl,A⟩:=Es z;obtain⟨g2,X,_,rfl,B⟩:=Es A;obtain⟨g3,Y,_,rfl,C⟩:=Es B;obtain⟨g4,Z,_,rfl,D⟩:=Es C;obtain⟨g5,zA,_,rfl,E⟩:=Es D;obtain⟨g6,zB,_,rfl,F⟩:=Es E;obtain⟨g7,zC,_,rfl,G⟩:=Es F;obtain⟨rfl,_⟩:=trodVars_none G;have w:=o;have J:∀x∈Q,x.block<W.heap.size:=by obtain⟨m,i⟩:=w;exact DataW.trod_lt m _ _ _ i
 obtain⟨v,a,rfl,O,i⟩:=RV (c 0 33 v0 rfl rfl) o;obtain⟨P,rfl,rfl,rfl,S⟩:=open_int underlying3 (c 1 3 y rfl rfl) L;clear f b;refine(walk v a P W M O i).mono fun e l ⟨he,cf⟩=> ?_;subst he
 exact⟨_,rfl,_,_,_,[],_,_,I,trodAll_mk1 (shut_bool underlying4 _),(trodAll_cons_mk (Below.trod laidOut (by kernel_rfl) (of_decide_eq_true (by kernel_rfl)) w cf J) (trodAll_cons_mk (shut_int underlying3 S) trodAll_mk0)),Below.trodVars laidOut cf (by kernel_rfl) s,cf.frame _,fun h=>by cases h⟩
theorem VB(a:Os):laidMetH prog Rows.fnExactGiveBackRow.laid (World.forCall (envWorld a) (fun _ _=>0) ⟨#[],#[.agg #[.int .i64 0,.int .i64 0,.slice none 0 0,.slice none 0 0,.int .i64 0,.int .i64 0,.int .i64 0,.int .i64 0,.slice none 0 0,.slice none 0 0,.slice none 0 0,.int .i64 0,.slice none 0 0,.slice none 0 0,.int .i64 0,.int .i64 0,.int .i64 0],.int .i64 0],[]⟩).memory:=
 laidMetH_of_parts (laidMet_of_run' 8 (by kernel_rfl) (by kernel_rfl)) (by kernel_rfl)
theorem reads(a:Os){H:Type}(enc:TypeId×Value->H):∃places,DataW.whole enc prog (World.forCall (envWorld a) (fun _ _=>0) ⟨#[],#[.agg #[.int .i64 0,.int .i64 0,.slice none 0 0,.slice none 0 0,.int .i64 0,.int .i64 0,.int .i64 0,.int .i64 0,.slice none 0 0,.slice none 0 0,.slice none 0 0,.int .i64 0,.slice none 0 0,.slice none 0 0,.int .i64 0,.int .i64 0,.int .i64 0],.int .i64 0],[]⟩).memory f3.params.toList Rows.fnExactGiveBackSpec.vars false (#[.agg #[.int .i64 0,.int .i64 0,.slice none 0 0,.slice none 0 0,.int .i64 0,.int .i64 0,.int .i64 0,.int .i64 0,.slice none 0 0,.slice none 0 0,.slice none 0 0,.int .i64 0,.slice none 0 0,.slice none 0 0,.int .i64 0,.int .i64 0,.int .i64 0],.int .i64 0]:Array Value).toList 8=some ([.agg [.lit (.int .i64 0),.lit (.int .i64 0),.agg [.nil,.nil],.agg [.lit (.int .i64 0),.lit (.int .i64 0),.lit (.int .i64 0),.lit (.int .i64 0),.nil,.nil,.nil],.agg [.lit (.int .i64 0),.nil,.nil,.lit (.int .i64 0),.lit (.int .i64 0),.lit (.int .i64 0)]],.lit (.int .i64 0)],[heldE enc a 0,heldE enc a 1,heldE enc a 4,heldE enc a 5,heldE enc a 2,Rows.laid_loop_example_kilnvault_impl_kindParts,heldE enc a 3],places):=
 ⟨MemPlace.row ⟨1,0,none⟩ 1++(MemPlace.row ⟨2,0,none⟩ 1++(MemPlace.row ⟨3,0,none⟩ 1++(MemPlace.row ⟨4,0,none⟩ 1++(MemPlace.row ⟨6,0,none⟩ 1++(MemPlace.row ⟨0,0,none⟩ 32++MemPlace.row ⟨7,0,none⟩ 1))))),by kernel_rfl⟩
theorem lifted(a:Os)(started:a.Started)(H:Type)(enc:TypeId×Value->H)(F:Stop.Interp):
 ReturnsInHanded {} checked a 3 .any ((OpenSpec.ofChange Rows.fnExactGiveBackSpec).preRow enc prog f3 Rows.fnExactGiveBackRow.domain false Rows.fnExactGiveBackRow.laid) (((OpenSpec.ofChange Rows.fnExactGiveBackSpec).at F).post enc prog f3 false true false false):=by
 obtain⟨places,h⟩:=reads a enc;refine returnsInHanded_of_row (C:=checked) (s:=OpenSpec.ofChange Rows.fnExactGiveBackSpec) own started (by kernel_rfl) func3
  (witness_row_at (enc:=enc) (C:=checked) false (envWorld a) #[.agg #[.int .i64 0,.int .i64 0,.slice none 0 0,.slice none 0 0,.int .i64 0,.int .i64 0,.int .i64 0,.int .i64 0,.slice none 0 0,.slice none 0 0,.slice none 0 0,.int .i64 0,.slice none 0 0,.slice none 0 0,.int .i64 0,.int .i64 0,.int .i64 0],.int .i64 0] rfl (by kernel_rfl) (by kernel_rfl) (by kernel_rfl)
    (OpenSpec.preRow_of_cond 8 h (by kernel_rfl) (fun k g=>by cases g) (by kernel_rfl) (VB a))) ?_
 intro W base args c d before b f _ _ _ e _ _;exact contract H enc W base args c d before b f e
end ExactGiveBack
end Go.Proofs.YtdgblkklkaklhaaGreatDoor
