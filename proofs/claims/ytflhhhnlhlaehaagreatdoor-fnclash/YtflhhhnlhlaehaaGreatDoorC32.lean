import Derived.Test.YtflhhhnlhlaehaaGreatDoorC31
set_option maxRecDepth 100000
set_option maxHeartbeats 16000000
namespace Go.Proofs.YtflhhhnlhlaehaaGreatDoor
open Go.ChangeShapes Go.WideShapes Go.ChangeAt Go.RowKit _root_.Go.Proofs.Tryz
namespace ClashLaw
theorem contract (H:Type) (enc:TypeId×Value->H) (W:World) (base:Nat) (args:Array Value) (ds gs:List (DataW H)) (before:List MemPlace)
 (zA:∀(j:Nat) t v,f3.params[j]?=some t->args[j]?=some v->Value.okWide prog W .any base t v)
 (hW:DataW.Whole enc prog f3.params.toList Rows.fnClashSpec.vars false W args.toList ds gs before) (hL:laidMetH prog Rows.fnClashRow.laid W):
 Calls prog 3 args W fun e W'=>∃v,e=.returned v/\Rows.fnClashSpec.post enc prog f3 false true false false W args v W':=by
 have zB:=zA;have zQ:=hW;have zF:laidMet prog Qm W/\handlesMet prog [("errors.errorType",Rows.laid_errors_errorType)] W:=hL;have hE:=RR zF.1 zF.2;obtain⟨p,q,zE,hV,rfl,yC,yD⟩:=hW;have hA:DataW.TrodAll enc prog W 0 (fun _=>true) true f3.params.toList args.toList ds p:=zE;rw[params3] at hA zB;obtain⟨v0,yE,d0,zU,p0,q0,zG,rfl,rfl,h0,r0⟩:=trodAll_cons hA;obtain⟨rfl,rfl,rfl⟩:=trodAll_nil r0
 obtain rfl:args= #[v0]:=by cases args;simp_all
 have zI:=hV;obtain⟨g1,zV,_,rfl,zJ⟩:=Dg zI;obtain⟨g2,zW,_,rfl,zK⟩:=Dg zJ;obtain⟨g3,zX,_,rfl,zL⟩:=Dg zK;obtain⟨g4,zY,_,rfl,zM⟩:=Dg zL;obtain⟨g5,zZ,_,rfl,zN⟩:=Dg zM;obtain⟨g6,yA,_,rfl,zO⟩:=Dg zN;obtain⟨g7,yB,_,rfl,zP⟩:=Dg zO;obtain⟨rfl,_⟩:=trodVars_none zP;have k0:=h0;have zT:∀x∈p0,x.block<W.heap.size:=by obtain⟨m,hm⟩:=k0;exact DataW.trod_lt m _ _ _ hm
 obtain⟨a1,zD,zC,zR⟩:=okWide_slice underlying22 (zB 0 22 v0 rfl rfl);subst zR;obtain⟨zH,hf⟩:=h0;obtain⟨a,n,c,zS,hb,hc,hn⟩:=NE hf;injection zS with e1 e2 e3;subst e1 e2 e3;clear zE zA;refine(walk a1 zD zC W hE hn hb hc).mono fun e W' ⟨he,bel⟩=> ?_;subst he
 exact⟨_,rfl,_,_,_,[],_,_,zQ,trodAll_mk1 (shut_bool underlying4 _),(trodAll_cons_mk (Below.trod laidOut (by kernel_rfl) (of_decide_eq_true (by kernel_rfl)) k0 bel zT) trodAll_mk0),Below.trodVars laidOut bel (by kernel_rfl) hV,bel.frame _,fun h=>by cases h⟩
theorem Qh (os:Os):laidMetH prog Rows.fnClashRow.laid (World.forCall (envWorld os) (fun _ _=>0) ⟨#[],#[.slice none 0 0],[]⟩).memory:=
 laidMetH_of_parts (laidMet_of_run' 8 (by kernel_rfl) (by kernel_rfl)) (by kernel_rfl)
theorem reads (os:Os) {H:Type} (enc:TypeId×Value->H):∃places,DataW.whole enc prog (World.forCall (envWorld os) (fun _ _=>0) ⟨#[],#[.slice none 0 0],[]⟩).memory f3.params.toList Rows.fnClashSpec.vars false (#[.slice none 0 0]:Array Value).toList 8=some ([.nil],[heldE enc os 0,heldE enc os 1,heldE enc os 4,heldE enc os 5,heldE enc os 2,Rows.laid_loop_example_kilnvault_impl_kindParts,heldE enc os 3],places):=
 ⟨MemPlace.row ⟨0,0,none⟩ 1++(MemPlace.row ⟨1,0,none⟩ 1++(MemPlace.row ⟨2,0,none⟩ 1++(MemPlace.row ⟨3,0,none⟩ 1++(MemPlace.row ⟨6,0,none⟩ 1++(MemPlace.row ⟨5,0,none⟩ 32++MemPlace.row ⟨7,0,none⟩ 1))))),by kernel_rfl⟩
theorem lifted (os:Os) (started:os.Started) (H:Type) (enc:TypeId×Value->H) (F:Stop.Interp):
 ReturnsInHanded {} checked os 3 .any ((OpenSpec.ofChange Rows.fnClashSpec).preRow enc prog f3 Rows.fnClashRow.domain false Rows.fnClashRow.laid) (((OpenSpec.ofChange Rows.fnClashSpec).at F).post enc prog f3 false true false false):=by
 obtain⟨places,hx⟩:=reads os enc;refine returnsInHanded_of_row (C:=checked) (s:=OpenSpec.ofChange Rows.fnClashSpec) own started (by kernel_rfl) func3
  (witness_row_at (enc:=enc) (C:=checked) false (envWorld os) #[.slice none 0 0] rfl (by kernel_rfl) (by kernel_rfl) (by kernel_rfl)
    (OpenSpec.preRow_of_cond 8 hx (by kernel_rfl) (fun k hk=>by cases hk) (by kernel_rfl) (Qh os))) ?_
 intro W base args ds gs before zA hW _ _ _ hL _ _;exact contract H enc W base args ds gs before zA hW hL
end ClashLaw
end Go.Proofs.YtflhhhnlhlaehaaGreatDoor
