import Derived.Test.YtlhhpofjkgmbeaaGreatDoorX32
set_option maxRecDepth 100000
set_option maxHeartbeats 16000000
namespace Go.Proofs.YtlhhpofjkgmbeaaGreatDoor
open Go.ChangeShapes Go.WideShapes Go.ChangeAt Go.RowKit _root_.Go.Proofs.Tryz
section
open Go.ChangeMaps (open_string shut_string)
namespace ExactBorrow
theorem contract(H:Type)(d:TypeId×Value->H)(W:Zh)(base:Nat)(args:Array Value)(n L:List (DataW H))(before:List MemPlace)
 (c:∀(j:Nat) t v,f3.params[j]?=some t->args[j]?=some v->Value.okWide prog W .any base t v)
 (u:DataW.Whole d prog f3.params.toList Rows.fnExactBorrowSpec.vars false W args.toList n L before) (P:laidMetH prog Rows.fnExactBorrowRow.laid W):
 Calls prog 3 args W fun e l=>∃v,e=.returned v/\Rows.fnExactBorrowSpec.post d prog f3 false true false false W args v l:=by
 have b:=c;have J:=u;have g:laidMet prog VL W/\handlesMet prog [("errors.errorType",Rows.laid_errors_errorType)] W:=P;have O:=XX g.1 g.2;obtain⟨p,q,f,s,rfl,zK,zM⟩:=u;have r:DataW.TrodAll d prog W 0 (fun _=>true) true f3.params.toList args.toList n p:=f;rw[params3]at r b;obtain⟨v0,zN,d0,Z,S,q0,k,rfl,rfl,o,r0⟩:=trodAll_cons r;obtain⟨y,zO,d1,zA,p1,q1,rfl,rfl,rfl,M,T⟩:=trodAll_cons r0
 obtain⟨z,zP,d2,zB,p2,q2,rfl,rfl,rfl,N,U⟩:=trodAll_cons T;obtain⟨rfl,rfl,rfl⟩:=trodAll_nil U;obtain rfl:args= #[v0,y,z]:=by cases args;simp_all
 have A:=s;obtain⟨g1,zC,_,rfl,B⟩:=Es A;obtain⟨g2,zE,_,rfl,C⟩:=Es B;obtain⟨g3,zF,_,rfl,D⟩:=Es C;obtain⟨g4,zG,_,rfl,E⟩:=Es D;obtain⟨g5,zH,_,rfl,F⟩:=Es E;obtain⟨g6,zI,_,rfl,G⟩:=Es F;obtain⟨g7,zJ,_,rfl,I⟩:=Es G;obtain⟨rfl,_⟩:=trodVars_none I;have w:=o;have K:∀x∈S,x.block<W.heap.size:=by obtain⟨m,i⟩:=w;exact DataW.trod_lt m _ _ _ i
 obtain⟨v,a,rfl,Q,i⟩:=RV (b 0 33 v0 rfl rfl) o;obtain⟨V,rfl,rfl,rfl,X⟩:=open_string underlying9 (b 1 9 y rfl rfl) M;obtain⟨R,rfl,rfl,rfl,Y⟩:=open_int underlying3 (b 2 3 z rfl rfl) N;clear f c;refine(walk v a V R W O Q i).mono fun e l ⟨he,cf⟩=> ?_;subst he
 exact⟨_,rfl,_,_,_,[],_,_,J,trodAll_mk1 (shut_bool underlying4 _),(trodAll_cons_mk (Below.trod laidOut (by kernel_rfl) (of_decide_eq_true (by kernel_rfl)) w cf K) (trodAll_cons_mk (shut_string underlying9 X) (trodAll_cons_mk (shut_int underlying3 Y) trodAll_mk0))),Below.trodVars laidOut cf (by kernel_rfl) s,cf.frame _,fun h=>by cases h⟩
theorem VB(a:Os):laidMetH prog Rows.fnExactBorrowRow.laid (World.forCall (envWorld a) (fun _ _=>0) ⟨#[],#[.agg #[.int .i64 0,.int .i64 0,.slice none 0 0,.slice none 0 0,.int .i64 0,.int .i64 0,.int .i64 0,.int .i64 0,.slice none 0 0,.slice none 0 0,.slice none 0 0,.int .i64 0,.slice none 0 0,.slice none 0 0,.int .i64 0,.int .i64 0,.int .i64 0],.string ByteArray.empty,.int .i64 0],[]⟩).memory:=
 laidMetH_of_parts (laidMet_of_run' 8 (by kernel_rfl) (by kernel_rfl)) (by kernel_rfl)
theorem reads(a:Os){H:Type}(enc:TypeId×Value->H):∃places,DataW.whole enc prog (World.forCall (envWorld a) (fun _ _=>0) ⟨#[],#[.agg #[.int .i64 0,.int .i64 0,.slice none 0 0,.slice none 0 0,.int .i64 0,.int .i64 0,.int .i64 0,.int .i64 0,.slice none 0 0,.slice none 0 0,.slice none 0 0,.int .i64 0,.slice none 0 0,.slice none 0 0,.int .i64 0,.int .i64 0,.int .i64 0],.string ByteArray.empty,.int .i64 0],[]⟩).memory f3.params.toList Rows.fnExactBorrowSpec.vars false (#[.agg #[.int .i64 0,.int .i64 0,.slice none 0 0,.slice none 0 0,.int .i64 0,.int .i64 0,.int .i64 0,.int .i64 0,.slice none 0 0,.slice none 0 0,.slice none 0 0,.int .i64 0,.slice none 0 0,.slice none 0 0,.int .i64 0,.int .i64 0,.int .i64 0],.string ByteArray.empty,.int .i64 0]:Array Value).toList 8=some ([.agg [.lit (.int .i64 0),.lit (.int .i64 0),.agg [.nil,.nil],.agg [.lit (.int .i64 0),.lit (.int .i64 0),.lit (.int .i64 0),.lit (.int .i64 0),.nil,.nil,.nil],.agg [.lit (.int .i64 0),.nil,.nil,.lit (.int .i64 0),.lit (.int .i64 0),.lit (.int .i64 0)]],.lit (.string []),.lit (.int .i64 0)],[heldE enc a 0,heldE enc a 1,heldE enc a 4,heldE enc a 5,heldE enc a 2,Rows.laid_loop_example_kilnvault_impl_kindParts,heldE enc a 3],places):=
 ⟨MemPlace.row ⟨1,0,none⟩ 1++(MemPlace.row ⟨2,0,none⟩ 1++(MemPlace.row ⟨3,0,none⟩ 1++(MemPlace.row ⟨4,0,none⟩ 1++(MemPlace.row ⟨6,0,none⟩ 1++(MemPlace.row ⟨0,0,none⟩ 32++MemPlace.row ⟨7,0,none⟩ 1))))),by kernel_rfl⟩
theorem lifted(a:Os)(started:a.Started)(H:Type)(enc:TypeId×Value->H)(F:Stop.Interp):
 ReturnsInHanded {} checked a 3 .any ((OpenSpec.ofChange Rows.fnExactBorrowSpec).preRow enc prog f3 Rows.fnExactBorrowRow.domain false Rows.fnExactBorrowRow.laid) (((OpenSpec.ofChange Rows.fnExactBorrowSpec).at F).post enc prog f3 false true false false):=by
 obtain⟨places,h⟩:=reads a enc;refine returnsInHanded_of_row (C:=checked) (s:=OpenSpec.ofChange Rows.fnExactBorrowSpec) own started (by kernel_rfl) func3
  (witness_row_at (enc:=enc) (C:=checked) false (envWorld a) #[.agg #[.int .i64 0,.int .i64 0,.slice none 0 0,.slice none 0 0,.int .i64 0,.int .i64 0,.int .i64 0,.int .i64 0,.slice none 0 0,.slice none 0 0,.slice none 0 0,.int .i64 0,.slice none 0 0,.slice none 0 0,.int .i64 0,.int .i64 0,.int .i64 0],.string ByteArray.empty,.int .i64 0] rfl (by kernel_rfl) (by kernel_rfl) (by kernel_rfl)
    (OpenSpec.preRow_of_cond 8 h (by kernel_rfl) (fun k g=>by cases g) (by kernel_rfl) (VB a))) ?_
 intro W base args c d before b f _ _ _ e _ _;exact contract H enc W base args c d before b f e
end ExactBorrow
end
end Go.Proofs.YtlhhpofjkgmbeaaGreatDoor
