import Derived.Test.YtpekbmegopfhfaaGreatDoorW24
import Derived.Test.YtpekbmegopfhfaaGreatDoorW42
import Derived.Test.YtpekbmegopfhfaaGreatDoorW43
namespace Go.Proofs.YtpekbmegopfhfaaGreatDoor
open Go.ChangeShapes Go.WideShapes Go.ChangeAt Go.RowKit
namespace ExactValidVault
set_option maxRecDepth 100000 in
theorem contract (H:Type) (enc:TypeId×Value->H) (W:World) (base:Nat) (args:Array Value) (ds gs:List (DataW H)) (before:List MemPlace)
 (hval0:∀(j:Nat) t v,Tryz.f5.params[j]?=some t->args[j]?=some v->Value.okWide Tryz.prog W .any base t v)
 (hW:DataW.Whole enc Tryz.prog Tryz.f5.params.toList Rows.fnExactValidVaultSpec.vars false W args.toList ds gs before) (hL:laidMetH Tryz.prog Rows.fnExactValidVaultRow.laid W):
 Calls Tryz.prog 5 args W fun e W'=>∃v,e=.returned v/\Rows.fnExactValidVaultSpec.post enc Tryz.prog Tryz.f5 false true false false W args v W':=by
 have hval:=hval0
 have hW':=hW
 have hL':laidMet Tryz.prog laidE W/\handlesMet Tryz.prog [("errors.errorType",Rows.laid_errors_errorType)] W:=hL
 have hE:=env_of hL'.1 hL'.2
 obtain ⟨p,q,hA0,hV,rfl,hfz,hnd⟩:=hW
 have hA:DataW.TrodAll enc Tryz.prog W 0 (fun _=>true) true Tryz.f5.params.toList args.toList ds p:=hA0
 rw [Tryz.params5] at hA hval
 obtain ⟨v0,vs0,d0,ds0,p0,q0,hargs,rfl,rfl,h0,r0⟩:=trodAll_cons hA
 obtain ⟨rfl,rfl,rfl⟩:=trodAll_nil r0
 obtain rfl:args= #[v0]:=by cases args;simp_all
 have hV0:=hV
 obtain ⟨g1,gs1,_,rfl,hV1⟩:=vars_cons hV0
 obtain ⟨g2,gs2,_,rfl,hV2⟩:=vars_cons hV1
 obtain ⟨g3,gs3,_,rfl,hV3⟩:=vars_cons hV2
 obtain ⟨g4,gs4,_,rfl,hV4⟩:=vars_cons hV3
 obtain ⟨g5,gs5,_,rfl,hV5⟩:=vars_cons hV4
 obtain ⟨g6,gs6,_,rfl,hV6⟩:=vars_cons hV5
 obtain ⟨g7,gs7,_,rfl,hV7⟩:=vars_cons hV6
 obtain ⟨rfl,_⟩:=trodVars_none hV7
 have k0:=h0
 have lt0:∀x∈p0,x.block<W.heap.size:=by obtain ⟨m,hm⟩:=k0;exact DataW.trod_lt m _ _ _ hm
 obtain ⟨v,a,rfl,hr,hm⟩:=read_vault (hval 0 60 v0 rfl rfl) h0
 clear hA0 hval0
 refine (walk v a W hE hr hm).mono fun e W' ⟨he,bel⟩=> ?_
 subst he
 exact ⟨_,rfl,_,_,_,[],_,_,hW',trodAll_mk1 (shut_bool Tryz.underlying4 _),(trodAll_cons_mk (Below.trod laidOut (by kernel_rfl) (of_decide_eq_true (by kernel_rfl)) k0 bel lt0) trodAll_mk0),Below.trodVars laidOut bel (by kernel_rfl) hV,bel.frame _,fun h=>by cases h⟩
theorem laid_met (os:Os):laidMetH Tryz.prog Rows.fnExactValidVaultRow.laid (World.forCall (envWorld os) (fun _ _=>0) ⟨#[],#[.agg #[.int .i64 0,.int .i64 0,.slice none 0 0,.slice none 0 0,.int .i64 0,.int .i64 0,.int .i64 0,.int .i64 0,.slice none 0 0,.slice none 0 0,.slice none 0 0,.int .i64 0,.slice none 0 0,.slice none 0 0,.int .i64 0,.int .i64 0,.int .i64 0]],[]⟩).memory:=
 laidMetH_of_parts (laidMet_of_run' 8 (by kernel_rfl) (by kernel_rfl)) (by kernel_rfl)
theorem reads (os:Os) {H:Type} (enc:TypeId×Value->H):∃places,DataW.whole enc Tryz.prog (World.forCall (envWorld os) (fun _ _=>0) ⟨#[],#[.agg #[.int .i64 0,.int .i64 0,.slice none 0 0,.slice none 0 0,.int .i64 0,.int .i64 0,.int .i64 0,.int .i64 0,.slice none 0 0,.slice none 0 0,.slice none 0 0,.int .i64 0,.slice none 0 0,.slice none 0 0,.int .i64 0,.int .i64 0,.int .i64 0]],[]⟩).memory Tryz.f5.params.toList Rows.fnExactValidVaultSpec.vars false (#[.agg #[.int .i64 0,.int .i64 0,.slice none 0 0,.slice none 0 0,.int .i64 0,.int .i64 0,.int .i64 0,.int .i64 0,.slice none 0 0,.slice none 0 0,.slice none 0 0,.int .i64 0,.slice none 0 0,.slice none 0 0,.int .i64 0,.int .i64 0,.int .i64 0]]:Array Value).toList 8=some ([.agg [.lit (.int .i64 0),.lit (.int .i64 0),.agg [.nil,.nil],.agg [.lit (.int .i64 0),.lit (.int .i64 0),.lit (.int .i64 0),.lit (.int .i64 0),.nil,.nil,.nil],.agg [.lit (.int .i64 0),.nil,.nil,.lit (.int .i64 0),.lit (.int .i64 0),.lit (.int .i64 0)]]],[heldE enc os 0,heldE enc os 1,heldE enc os 4,heldE enc os 5,heldE enc os 2,Rows.laid_loop_example_kilnvault_impl_kindParts,heldE enc os 3],places):=
 ⟨MemPlace.row ⟨0,0,none⟩ 1++(MemPlace.row ⟨1,0,none⟩ 1++(MemPlace.row ⟨2,0,none⟩ 1++(MemPlace.row ⟨3,0,none⟩ 1++(MemPlace.row ⟨6,0,none⟩ 1++(MemPlace.row ⟨5,0,none⟩ 32++MemPlace.row ⟨7,0,none⟩ 1))))),by kernel_rfl⟩
set_option maxRecDepth 100000 in
theorem lifted (os:Os) (started:os.Started) (H:Type) (enc:TypeId×Value->H) (F:Stop.Interp):
 ReturnsInHanded {} Tryz.checked os 5 .any ((OpenSpec.ofChange Rows.fnExactValidVaultSpec).preRow enc Tryz.prog Tryz.f5 Rows.fnExactValidVaultRow.domain false Rows.fnExactValidVaultRow.laid) (((OpenSpec.ofChange Rows.fnExactValidVaultSpec).at F).post enc Tryz.prog Tryz.f5 false true false false):=by
 obtain ⟨places,hx⟩:=reads os enc
 refine returnsInHanded_of_row (C:=Tryz.checked) (s:=OpenSpec.ofChange Rows.fnExactValidVaultSpec) own started (by kernel_rfl) Tryz.func5
  (witness_row_at (enc:=enc) (C:=Tryz.checked) false (envWorld os) #[.agg #[.int .i64 0,.int .i64 0,.slice none 0 0,.slice none 0 0,.int .i64 0,.int .i64 0,.int .i64 0,.int .i64 0,.slice none 0 0,.slice none 0 0,.slice none 0 0,.int .i64 0,.slice none 0 0,.slice none 0 0,.int .i64 0,.int .i64 0,.int .i64 0]] rfl (by kernel_rfl) (by kernel_rfl) (by kernel_rfl)
    (OpenSpec.preRow_of_cond 8 hx (by kernel_rfl) (fun k hk=>by cases hk) (by kernel_rfl) (laid_met os))) ?_
 intro W base args ds gs before hval hW _ _ _ hL _ _
 exact contract H enc W base args ds gs before hval hW hL
end ExactValidVault
end Go.Proofs.YtpekbmegopfhfaaGreatDoor
