import Derived.Test.YtcankpdbabaacaaGreatDoorX33
set_option maxRecDepth 100000
set_option maxHeartbeats 16000000
namespace Go.Proofs.YtcankpdbabaacaaGreatDoor
open Go.ChangeShapes Go.WideShapes Go.ChangeAt Go.RowKit _root_.Go.Proofs.Tryz
namespace ExactClear
theorem contract(H:Type)(d:TypeId×Value->H)(W:Zh)(f:Nat)(args:Array Value)(o M:List (DataW H))(before:List MemPlace)(b:∀(j:Nat) t v,f3.params[j]?=some t->args[j]?=some v->Value.okWide prog W .any f t v)(y:DataW.Whole d prog f3.params.toList Rows.fnExactClearSpec.vars false W args.toList o M before)(P:laidMetH prog Rows.fnExactClearRow.laid W):
 Calls prog 3 args W fun e n=>∃v,e=.returned v/\Rows.fnExactClearSpec.post d prog f3 false true false false W args v n:=by
 have c:=b;have K:=y;have i:laidMet prog XD W/\handlesMet prog [("errors.errorType",Rows.laid_errors_errorType)] W:=P;have O:=Aas i.1 i.2;obtain⟨p,q,g,u,rfl,zG,zH⟩:=y;have s:DataW.TrodAll d prog W 0 (fun _=>true) true f3.params.toList args.toList o p:=g;rw[params3]at s c;obtain⟨v0,zI,d0,V,S,q0,l,rfl,rfl,r,r0⟩:=trodAll_cons s;obtain⟨A,zJ,d1,X,p1,q1,rfl,rfl,rfl,N,T⟩:=trodAll_cons r0
 obtain⟨rfl,rfl,rfl⟩:=trodAll_nil T;obtain rfl:args= #[v0,A]:=by cases args;simp_all
 have B:=u;obtain⟨g1,Y,_,rfl,C⟩:=EH B;obtain⟨g2,Z,_,rfl,D⟩:=EH C;obtain⟨g3,zA,_,rfl,E⟩:=EH D;obtain⟨g4,zB,_,rfl,F⟩:=EH E;obtain⟨g5,zC,_,rfl,G⟩:=EH F;obtain⟨g6,zE,_,rfl,I⟩:=EH G;obtain⟨g7,zF,_,rfl,J⟩:=EH I;obtain⟨rfl,_⟩:=trodVars_none J;have z:=r;have L:∀x∈S,x.block<W.heap.size:=by obtain⟨m,k⟩:=z;exact DataW.trod_lt m _ _ _ k
 obtain⟨v,a,rfl,Q,k⟩:=Tf (c 0 33 v0 rfl rfl) r;obtain⟨R,rfl,rfl,rfl,U⟩:=open_int underlying3 (c 1 3 A rfl rfl) N;clear g b;refine(walk v a R W O Q k).mono fun e n ⟨he,br⟩=> ?_;subst he
 exact⟨_,rfl,_,_,_,[],_,_,K,trodAll_mk1 (shut_bool underlying4 _),(trodAll_cons_mk (Below.trod laidOut Yt (of_decide_eq_true Yt) z br L) (trodAll_cons_mk (shut_int underlying3 U) trodAll_mk0)),Below.trodVars laidOut br Yt u,br.frame _,fun h=>by cases h⟩
theorem WT(a:Os):laidMetH prog Rows.fnExactClearRow.laid (World.forCall (envWorld a) (fun _ _=>0) ⟨#[],#[.agg #[.int .i64 0,.int .i64 0,.slice none 0 0,.slice none 0 0,.int .i64 0,.int .i64 0,.int .i64 0,.int .i64 0,.slice none 0 0,.slice none 0 0,.slice none 0 0,.int .i64 0,.slice none 0 0,.slice none 0 0,.int .i64 0,.int .i64 0,.int .i64 0],.int .i64 0],[]⟩).memory:=
 laidMetH_of_parts (laidMet_of_run' 8 Yt Yt) Yt
theorem reads(a:Os){H:Type}(enc:TypeId×Value->H):∃places,DataW.whole enc prog (World.forCall (envWorld a) (fun _ _=>0) ⟨#[],#[.agg #[.int .i64 0,.int .i64 0,.slice none 0 0,.slice none 0 0,.int .i64 0,.int .i64 0,.int .i64 0,.int .i64 0,.slice none 0 0,.slice none 0 0,.slice none 0 0,.int .i64 0,.slice none 0 0,.slice none 0 0,.int .i64 0,.int .i64 0,.int .i64 0],.int .i64 0],[]⟩).memory f3.params.toList Rows.fnExactClearSpec.vars false (#[.agg #[.int .i64 0,.int .i64 0,.slice none 0 0,.slice none 0 0,.int .i64 0,.int .i64 0,.int .i64 0,.int .i64 0,.slice none 0 0,.slice none 0 0,.slice none 0 0,.int .i64 0,.slice none 0 0,.slice none 0 0,.int .i64 0,.int .i64 0,.int .i64 0],.int .i64 0]:Array Value).toList 8=some ([.agg [.lit (.int .i64 0),.lit (.int .i64 0),.agg [.nil,.nil],.agg [.lit (.int .i64 0),.lit (.int .i64 0),.lit (.int .i64 0),.lit (.int .i64 0),.nil,.nil,.nil],.agg [.lit (.int .i64 0),.nil,.nil,.lit (.int .i64 0),.lit (.int .i64 0),.lit (.int .i64 0)]],.lit (.int .i64 0)],[heldE enc a 0,heldE enc a 1,heldE enc a 4,heldE enc a 5,heldE enc a 2,Rows.laid_loop_example_kilnvault_impl_kindParts,heldE enc a 3],places):=
 ⟨MemPlace.row ⟨0,0,none⟩ 1++(MemPlace.row ⟨1,0,none⟩ 1++(MemPlace.row ⟨2,0,none⟩ 1++(MemPlace.row ⟨3,0,none⟩ 1++(MemPlace.row ⟨6,0,none⟩ 1++(MemPlace.row ⟨5,0,none⟩ 32++MemPlace.row ⟨7,0,none⟩ 1))))),Yt⟩
theorem lifted(a:Os)(started:a.Started)(H:Type)(enc:TypeId×Value->H)(F:Stop.Interp):
 ReturnsInHanded {} checked a 3 .any ((OpenSpec.ofChange Rows.fnExactClearSpec).preRow enc prog f3 Rows.fnExactClearRow.domain false Rows.fnExactClearRow.laid) (((OpenSpec.ofChange Rows.fnExactClearSpec).at F).post enc prog f3 false true false false):=by
 obtain⟨places,i⟩:=reads a enc;refine returnsInHanded_of_row (C:=checked) (s:=OpenSpec.ofChange Rows.fnExactClearSpec) own started Yt func3
  (witness_row_at (enc:=enc) (C:=checked) false (envWorld a) #[.agg #[.int .i64 0,.int .i64 0,.slice none 0 0,.slice none 0 0,.int .i64 0,.int .i64 0,.int .i64 0,.int .i64 0,.slice none 0 0,.slice none 0 0,.slice none 0 0,.int .i64 0,.slice none 0 0,.slice none 0 0,.int .i64 0,.int .i64 0,.int .i64 0],.int .i64 0] rfl Yt Yt Yt
    (OpenSpec.preRow_of_cond 8 i Yt (fun k h=>by cases h) Yt (WT a))) ?_
 intro W b args d e before c g _ _ _ f _ _;exact contract H enc W b args d e before c g f
end ExactClear
end Go.Proofs.YtcankpdbabaacaaGreatDoor
