import Derived.Test.YtcfjcdpkpiidkaaGreatX34
import Derived.Deep.Slices
set_option maxRecDepth 100000
set_option maxHeartbeats 16000000
namespace Go.Proofs.YtcfjcdpkpiidkaaGreat
open ChangeShapes WideShapes ChangeAt RowKit _root_.Go.Proofs.Tryz
namespace UnitsLaw
theorem Wp:prog.cellsOf 5=1:=Yr
theorem Re{H:Type}{o:TypeId×Value->H}{W:Zh}{e:Nat}{spare:Nat->Bool}{held:Bool}{f:Nat}{v:Value}{y:DataW H×List MemPlace}
 (h:DataW.trod o prog W e spare held f 22 [v]=some y):
 ∃a n cap,v=.slice a n cap/\PJ W a n/\n<=cap/\n<=maxLen:=by
 rcases Go.Deep.open_slice1 underlying22 Wp h with⟨c,_⟩|⟨a,len,cap,m,n,V,D,A,c,_,t,C,q,_,g⟩
 .simp at c;subst c;exact⟨none,0,0,rfl,.inl rfl,Zx,Nat.zero_le _⟩
 .simp at c;subst c;refine⟨some a,len,cap,rfl,?_,t,by omega⟩;have x:len<=m:=by rw[q];split<;>omega
  by_cases h0:len=0
  .exact .inl h0
  .obtain⟨b,off,spot⟩:=a;have d:spot=none:=by simpa [Addr.add]using World.cell?_spot (g 0 (by omega)).1
   subst d;refine .inr ⟨b,off,rfl,?_,fun j B=> ?_⟩
   .exact World.block_lt_of_cell? W ⟨b,off+0,none⟩ (by rw[<-Go.WideShapes.add_plain];exact(g 0 (by omega)).1)
   .obtain⟨i,r⟩:=g j (by omega);obtain⟨z,l,_,u⟩:=DataW.trod_int underlying5 r;simp at l;rw[Go.WideShapes.add_plain,l]at i;refine⟨z,i,?_⟩;have s:=range_u8 (zs:=[z]) (by intro n k;simp at k;subst k;exact u) 0;simp at s;omega
theorem lifted(y:Os)(started:y.Started)(H:Type)(enc:TypeId×Value->H):
 ReturnsInHanded {} checked y 3 .any (Rows.fnUnitsSpec.pre6 enc prog f3 Rows.fnUnitsRow.domain false) (Rows.fnUnitsSpec.post enc prog f3 false true false false):=by
 refine returnsInHanded_of_change (C:=checked) own started (by kernel_rfl) func3
  (ChangeSpec.witness6 (enc:=enc) (C:=checked) false ⟨#[],#[.slice none 0 0],[]⟩ 8 (by kernel_rfl) (by kernel_rfl) (by kernel_rfl) (by kernel_rfl)) ?_
 intro W f args I V before b s F _;have d:∀(j:Nat) t v,f3.params[j]?=some t->args[j]?=some v->Value.okWide prog W .any f t v:=b;have z:=s;obtain⟨p,q,k,J,rfl,R,S⟩:=s;have r:DataW.TrodAll enc prog W 0 (fun _=>true) true f3.params.toList args.toList I p:=k;rw[params3]at r d;obtain⟨v0,T,U,Q,P,X,l,rfl,rfl,o,r0⟩:=trodAll_cons r;obtain⟨rfl,rfl,rfl⟩:=trodAll_nil r0
 obtain rfl:args= #[v0]:=by cases args;simp_all
 obtain⟨rfl,rfl⟩:=trodVars_none J;have u:=o;have D:∀x∈P,x.block<W.heap.size:=by obtain⟨m,N⟩:=u;exact DataW.trod_lt m _ _ _ N
 obtain⟨G,i,g,A⟩:=okWide_slice underlying22 (d 0 22 v0 rfl rfl);subst A;obtain⟨E,M⟩:=o;obtain⟨a,n,c,B,K,L,O⟩:=Re M;injection B with e1 e2 e3;subst e1 e2 e3;clear k b;refine(OD G i g W O K L).mono fun e W' ⟨he,bx⟩=> ?_;subst he
 exact⟨_,rfl,_,_,_,[],_,[],z,trodAll_mk1 (shut_bool underlying4 _),(trodAll_cons_mk (Below.trod laidOut (by kernel_rfl) (of_decide_eq_true (by kernel_rfl)) u bx D) trodAll_mk0),rfl,bx.frame _,fun h=>by cases h⟩
end UnitsLaw
theorem fnUnits_holds:Rows.FnUnitsSaid:=
 OpenClaim.holds_of_wide 3 f3 rfl rfl rfl rfl rfl rfl rfl ⟨rfl,rfl,rfl,rfl,rfl⟩ rfl rfl rfl rfl rfl Yr func3 Yr
  (of_decide_eq_true Yr) (by unfold Func.isWrapper;first|(rw[if_pos (by decide+kernel)];kernel_rfl)|(rw[if_neg (by decide+kernel)];exact⟨rfl,rfl⟩))
  (fun b started H a _=>UnitsLaw.lifted b started H a)
#print axioms fnUnits_holds
end Go.Proofs.YtcfjcdpkpiidkaaGreat
