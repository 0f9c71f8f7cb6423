import Derived.Test.YtpekbmegopfhfaaGreatDoorK21
import Derived.Test.YtpekbmegopfhfaaGreatDoorK50
import Derived.Test.YtpekbmegopfhfaaGreatDoorK51
set_option maxRecDepth 100000
set_option maxHeartbeats 16000000
namespace Go.Proofs.YtpekbmegopfhfaaGreatDoor
open Go.ChangeShapes Go.WideShapes Go.ChangeAt Go.RowKit _root_.Go.Proofs.Tryz
namespace ExactFlush
theorem contract (H:Type) (enc:TypeId×Value->H) (W:World) (base:Nat) (args:Array Value) (ds gs:List (DataW H)) (before:List MemPlace)
 (zA:∀(j:Nat) t v,f8.params[j]?=some t->args[j]?=some v->Value.okWide prog W .any base t v)
 (hW:DataW.Whole enc prog f8.params.toList Rows.fnExactFlushSpec.vars false W args.toList ds gs before) (hL:laidMetH prog Rows.fnExactFlushRow.laid W):
 Calls prog 8 args W fun e W'=>∃v,e=.returned v/\Rows.fnExactFlushSpec.post enc prog f8 false true false false W args v W':=by
 have zB:=zA;have zG:=hW;have zF:=hL;have hE:=RI zF.1 zF.2;obtain⟨p,q,zC,hV,rfl,zS,zX⟩:=hW;have hA:DataW.TrodAll enc prog W 0 (fun _=>true) true f8.params.toList args.toList ds p:=zC;rw[params8] at hA zB;obtain⟨v0,zT,d0,zV,p0,q0,zE,rfl,rfl,h0,r0⟩:=trodAll_cons hA;obtain⟨rfl,rfl,rfl⟩:=trodAll_nil r0;obtain rfl:args= #[v0]:=by cases args;simp_all
 have zP:=hV;obtain⟨g1,zY,_,rfl,zI⟩:=BV zP;obtain⟨g2,yA,_,rfl,zM⟩:=BV zI;obtain⟨g3,zU,_,rfl,zK⟩:=BV zM;obtain⟨g4,zW,_,rfl,zH⟩:=BV zK;obtain⟨g5,yB,_,rfl,zO⟩:=BV zH;obtain⟨g6,yC,_,rfl,zR⟩:=BV zO;obtain⟨g7,zZ,_,rfl,zJ⟩:=BV zR;obtain⟨rfl,_⟩:=trodVars_none zJ;have k0:=h0;have zN:∀x∈p0,x.block<W.heap.size:=by obtain⟨m,hm⟩:=k0;exact DataW.trod_lt m _ _ _ hm
 obtain⟨v,a,rfl,hr,hm⟩:=Kq (zB 0 60 v0 rfl rfl) h0;clear zC zA;refine(walk v a W hE hr hm).mono fun e W' ⟨he,bel⟩=> ?_;subst he;exact⟨_,rfl,_,_,_,[],_,_,zG,trodAll_mk1 (shut_bool underlying4 _),(trodAll_cons_mk (Below.trod laidOut (by kernel_rfl) (of_decide_eq_true (by kernel_rfl)) k0 bel zN) trodAll_mk0),Below.trodVars laidOut bel (by kernel_rfl) hV,bel.frame _,fun h=>by cases h⟩
theorem laid_met (os:Os):laidMetH prog Rows.fnExactFlushRow.laid (World.forCall (envWorld os) (fun _ _=>0) ⟨#[],#[.agg #[(.int .i64 0),(.int .i64 0),(.slice none 0 0),(.slice none 0 0),(.int .i64 0),(.int .i64 0),(.int .i64 0),(.int .i64 0),(.slice none 0 0),(.slice none 0 0),(.slice none 0 0),(.int .i64 0),(.slice none 0 0),(.slice none 0 0),(.int .i64 0),(.int .i64 0),(.int .i64 0)]],[]⟩).memory:=
 laidMetH_of_parts (laidMet_of_run' 8 (by kernel_rfl) (by kernel_rfl)) (by kernel_rfl)
theorem reads (os:Os) {H:Type} (enc:TypeId×Value->H):∃places,DataW.whole enc prog (World.forCall (envWorld os) (fun _ _=>0) ⟨#[],#[.agg #[(.int .i64 0),(.int .i64 0),(.slice none 0 0),(.slice none 0 0),(.int .i64 0),(.int .i64 0),(.int .i64 0),(.int .i64 0),(.slice none 0 0),(.slice none 0 0),(.slice none 0 0),(.int .i64 0),(.slice none 0 0),(.slice none 0 0),(.int .i64 0),(.int .i64 0),(.int .i64 0)]],[]⟩).memory f8.params.toList Rows.fnExactFlushSpec.vars false (#[.agg #[(.int .i64 0),(.int .i64 0),(.slice none 0 0),(.slice none 0 0),(.int .i64 0),(.int .i64 0),(.int .i64 0),(.int .i64 0),(.slice none 0 0),(.slice none 0 0),(.slice none 0 0),(.int .i64 0),(.slice none 0 0),(.slice none 0 0),(.int .i64 0),(.int .i64 0),(.int .i64 0)]]:Array Value).toList 8=some ([.agg [.lit (.int .i64 0),.lit (.int .i64 0),.agg [.nil,.nil],.agg [.lit (.int .i64 0),.lit (.int .i64 0),.lit (.int .i64 0),.lit (.int .i64 0),.nil,.nil,.nil],.agg [.lit (.int .i64 0),.nil,.nil,.lit (.int .i64 0),.lit (.int .i64 0),.lit (.int .i64 0)]]],[heldE enc os 0,heldE enc os 1,heldE enc os 4,heldE enc os 5,heldE enc os 2,Rows.laid_loop_example_kilnvault_impl_kindParts,heldE enc os 3],places):=
 ⟨MemPlace.row ⟨0,0,none⟩ 1++(MemPlace.row ⟨1,0,none⟩ 1++(MemPlace.row ⟨2,0,none⟩ 1++(MemPlace.row ⟨3,0,none⟩ 1++(MemPlace.row ⟨6,0,none⟩ 1++(MemPlace.row ⟨5,0,none⟩ 32++MemPlace.row ⟨7,0,none⟩ 1))))),by kernel_rfl⟩
theorem lifted (os:Os) (started:os.Started) (H:Type) (enc:TypeId×Value->H) (F:Stop.Interp):
 ReturnsInHanded {} checked os 8 .any ((OpenSpec.ofChange Rows.fnExactFlushSpec).preRow enc prog f8 Rows.fnExactFlushRow.domain false Rows.fnExactFlushRow.laid) (((OpenSpec.ofChange Rows.fnExactFlushSpec).at F).post enc prog f8 false true false false):=by
 obtain⟨places,hx⟩:=reads os enc;refine returnsInHanded_of_row (C:=checked) (s:=OpenSpec.ofChange Rows.fnExactFlushSpec) own started (by kernel_rfl) func8
  (witness_row_at (enc:=enc) (C:=checked) false (envWorld os) #[.agg #[(.int .i64 0),(.int .i64 0),(.slice none 0 0),(.slice none 0 0),(.int .i64 0),(.int .i64 0),(.int .i64 0),(.int .i64 0),(.slice none 0 0),(.slice none 0 0),(.slice none 0 0),(.int .i64 0),(.slice none 0 0),(.slice none 0 0),(.int .i64 0),(.int .i64 0),(.int .i64 0)]] rfl (by kernel_rfl) (by kernel_rfl) (by kernel_rfl)
    (OpenSpec.preRow_of_cond 8 hx (by kernel_rfl) (fun k hk=>by cases hk) (by kernel_rfl) (laid_met os))) ?_
 intro W base args ds gs before zA hW _ _ _ hL _ _;exact contract H enc W base args ds gs before zA hW hL
end ExactFlush
end Go.Proofs.YtpekbmegopfhfaaGreatDoor
