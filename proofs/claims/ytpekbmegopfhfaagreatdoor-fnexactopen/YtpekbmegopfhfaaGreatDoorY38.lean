import Derived.Test.YtpekbmegopfhfaaGreatDoorY37
set_option maxRecDepth 100000
set_option maxHeartbeats 16000000
namespace Go.Proofs.YtpekbmegopfhfaaGreatDoor
open Go.ChangeShapes Go.WideShapes Go.ChangeAt Go.RowKit _root_.Go.Proofs.Tryz
namespace ExactOpen
theorem contract (H:Type) (enc:TypeId×Value->H) (W:World) (base:Nat) (args:Array Value) (ds gs:List (DataW H)) (before:List MemPlace)
 (hval0:∀(j:Nat) t v,f4.params[j]?=some t->args[j]?=some v->Value.okWide prog W .any base t v)
 (hW:DataW.Whole enc prog f4.params.toList Rows.fnExactOpenSpec.vars false W args.toList ds gs before) (hL:laidMetH prog Rows.fnExactOpenRow.laid W):
 Calls prog 4 args W fun e W'=>∃v,e=.returned v/\Rows.fnExactOpenSpec.post enc prog f4 false true false false W args v W':=by
 have hval:=hval0;have hW':=hW;have hL':laidMet prog laidE W/\handlesMet prog [("errors.errorType",Rows.laid_errors_errorType)] W:=hL;have hE:=env_of hL'.1 hL'.2;obtain⟨p,q,hA0,hV,rfl,hfz,hnd⟩:=hW;have hA:DataW.TrodAll enc prog W 0 (fun _=>true) true f4.params.toList args.toList ds p:=hA0;rw[params4] at hA hval;obtain⟨v0,vs0,d0,ds0,p0,q0,hargs,rfl,rfl,h0,r0⟩:=trodAll_cons hA
 obtain⟨v1,vs1,d1,ds1,p1,q1,rfl,rfl,rfl,h1,r1⟩:=trodAll_cons r0;obtain⟨v2,vs2,d2,ds2,p2,q2,rfl,rfl,rfl,h2,r2⟩:=trodAll_cons r1;obtain⟨rfl,rfl,rfl⟩:=trodAll_nil r2;obtain rfl:args= #[v0,v1,v2]:=by cases args;simp_all
 have hV0:=hV;obtain⟨g1,gs1,_,rfl,hV1⟩:=vars_cons hV0;obtain⟨g2,gs2,_,rfl,hV2⟩:=vars_cons hV1;obtain⟨g3,gs3,_,rfl,hV3⟩:=vars_cons hV2;obtain⟨g4,gs4,_,rfl,hV4⟩:=vars_cons hV3;obtain⟨g5,gs5,_,rfl,hV5⟩:=vars_cons hV4;obtain⟨g6,gs6,_,rfl,hV6⟩:=vars_cons hV5;obtain⟨g7,gs7,_,rfl,hV7⟩:=vars_cons hV6;obtain⟨rfl,_⟩:=trodVars_none hV7;obtain⟨n0,rfl,rfl,rfl,w0⟩:=open_int underlying3 (hval 0 3 v0 rfl rfl) h0
 obtain⟨n1,rfl,rfl,rfl,w1⟩:=open_int underlying3 (hval 1 3 v1 rfl rfl) h1;have k2:=h2;have lt2:∀x∈p2,x.block<W.heap.size:=by obtain⟨m,hm⟩:=k2;exact DataW.trod_lt m _ _ _ hm
 obtain⟨c0,c1,y0,y1,m,hv0,_,_,hy0,hy1⟩:=Joins.open_agg2 underlying38 (by kernel_rfl) (show prog.cellsOf 38=2 by kernel_rfl) (hval 2 38 v2 rfl rfl) h2;obtain⟨a,c,ss,ha0,hr,hl,hs⟩:=read_strs hy0;obtain⟨b,d,tt,hb0,hq,hl',hs'⟩:=read_strs hy1;subst ha0 hb0 hv0;clear hA0 hval0;refine(walk n0 n1 a b c d ss tt W hE hr hq hl hs hl' hs').mono fun e W' ⟨he,bel⟩=> ?_;subst he
 exact⟨_,rfl,_,_,_,[],_,_,hW',trodAll_mk1 (shut_bool underlying4 _),(trodAll_cons_mk (shut_int underlying3 w0) (trodAll_cons_mk (shut_int underlying3 w1) (trodAll_cons_mk (Below.trod laidOut (by kernel_rfl) (of_decide_eq_true (by kernel_rfl)) k2 bel lt2) trodAll_mk0))),Below.trodVars laidOut bel (by kernel_rfl) hV,bel.frame _,fun h=>by cases h⟩
theorem laid_met (os:Os):laidMetH prog Rows.fnExactOpenRow.laid (World.forCall (envWorld os) (fun _ _=>0) ⟨#[],#[.int .i64 0,.int .i64 0,.agg #[.slice none 0 0,.slice none 0 0]],[]⟩).memory:=
 laidMetH_of_parts (laidMet_of_run' 8 (by kernel_rfl) (by kernel_rfl)) (by kernel_rfl)
theorem reads (os:Os) {H:Type} (enc:TypeId×Value->H):∃places,DataW.whole enc prog (World.forCall (envWorld os) (fun _ _=>0) ⟨#[],#[.int .i64 0,.int .i64 0,.agg #[.slice none 0 0,.slice none 0 0]],[]⟩).memory f4.params.toList Rows.fnExactOpenSpec.vars false (#[.int .i64 0,.int .i64 0,.agg #[.slice none 0 0,.slice none 0 0]]:Array Value).toList 8=some ([.lit (.int .i64 0),.lit (.int .i64 0),.agg [.nil,.nil]],[heldE enc os 0,heldE enc os 1,heldE enc os 4,heldE enc os 5,heldE enc os 2,Rows.laid_loop_example_kilnvault_impl_kindParts,heldE enc os 3],places):=
 ⟨MemPlace.row ⟨0,0,none⟩ 1++(MemPlace.row ⟨1,0,none⟩ 1++(MemPlace.row ⟨2,0,none⟩ 1++(MemPlace.row ⟨3,0,none⟩ 1++(MemPlace.row ⟨6,0,none⟩ 1++(MemPlace.row ⟨5,0,none⟩ 32++MemPlace.row ⟨7,0,none⟩ 1))))),by kernel_rfl⟩
theorem lifted (os:Os) (started:os.Started) (H:Type) (enc:TypeId×Value->H) (F:Stop.Interp):
 ReturnsInHanded {} checked os 4 .any ((OpenSpec.ofChange Rows.fnExactOpenSpec).preRow enc prog f4 Rows.fnExactOpenRow.domain false Rows.fnExactOpenRow.laid) (((OpenSpec.ofChange Rows.fnExactOpenSpec).at F).post enc prog f4 false true false false):=by
 obtain⟨places,hx⟩:=reads os enc;refine returnsInHanded_of_row (C:=checked) (s:=OpenSpec.ofChange Rows.fnExactOpenSpec) own started (by kernel_rfl) func4
  (witness_row_at (enc:=enc) (C:=checked) false (envWorld os) #[.int .i64 0,.int .i64 0,.agg #[.slice none 0 0,.slice none 0 0]] rfl (by kernel_rfl) (by kernel_rfl) (by kernel_rfl)
    (OpenSpec.preRow_of_cond 8 hx (by kernel_rfl) (fun k hk=>by cases hk) (by kernel_rfl) (laid_met os))) ?_
 intro W base args ds gs before hval hW _ _ _ hL _ _;exact contract H enc W base args ds gs before hval hW hL
end ExactOpen
end Go.Proofs.YtpekbmegopfhfaaGreatDoor
