import Derived.Test.YtfehblndlffcmaaGreatDoorX22
import Derived.Test.YtfehblndlffcmaaGreatDoorX33
set_option maxRecDepth 100000
set_option maxHeartbeats 16000000
open Option renaming some->an,none->ba
open Bool renaming true->bg,false->bq
open Go.RowKit renaming Below->bs
open Decidable renaming decide->bx
open Go.Obj renaming cells->ca
open Go.Value renaming slice->cr,agg->ct,bool->ef
open Or renaming inl->dp,inr->eb
open Go.Ground renaming data->ed
open List renaming length->eh,toArray->ei
open Go.World renaming cell?->ek,grownBy->ep,setCell->ev
namespace Go.Proofs.YtfehblndlffcmaaGreatDoor
open ChangeShapes WideShapes ChangeAt RowKit _root_.Go.Proofs.Tryz List World Value
variable{b n c q g:Nat}{a:Zk}{p:Int}{w X Y:Zh}{u v:Vd}{r:Rs}
theorem Qx(c:Nat)(hn:n<=maxLen)(r:UZ w a n)(J:n<=c):
 D8 4 #[C3 a n c] w λe d=>∃b k,e=C5 (.tuple #[ct (ei b),Zg k])/\VDc d b/\(-1<=k/\k<=10)/\Zz w d:=by
 have⟨W,d⟩:=D6 w Xo 34;have f:=(Ax d).1;have s:=(Ax d).2.1;have o:=Yw (Ta a n c W hn (r.A f) J);have m:Hid (Aa W w.1.size AU/\Zz w W/\W.1.size=w.1.size+1):=⟨(Ax (l:=AU) d).2.2,f,s⟩;have p:=Yw d;clear d f s r;delta D8;go_in;go_upto_region 1 with fail;rw[<-p.o];clear p;go_wp2_with fail;refine o.Aj ?_;clear o;rintro e E ⟨N,H,rfl,r,f⟩;have⟨o,d⟩:=Ag W.1.size;rw[<-d]at r |-;have zJ:w.1.size<o:=Dl m.2.2;have t:Hid (Zz w E/\Aa E w.1.size AU):=gD;have zB:o<E.1.size:=r.lt;clear f d m;go_wp2_with fail;refine(XV XW r Yv Yv).ai ?_;rintro e m ⟨⟨b,rfl,Q⟩,⟨R,O,zH,zA⟩,p⟩;have⟨G,d⟩:=D6 m Xo 34;have T:=(Ax d).1;have S:Aa G m.1.size AU:=(Ax (l:=AU) d).2.2;have D:=Q.len;have F:=p.size;have⟨C,f⟩:=Ag (G.setCells m.1.size 0 (ei b).toList);have U:Tn [m.1.size] G C:=by rw[f];exact AD _ _ _ _
 have s:bs m.1.size m C:=gC;have P:=Lh t.1 p Yv;have B:Hid ((Aa C m.1.size b/\Is (λg=>g<E.1.size) C b/\AB C o a N H R)/\Zz w C/\Aa C w.1.size AU):=⟨⟨by rw[f];exact S.aw b (by rw[D.1];rfl),Q.S (V:=[]) (Tn.of s) Yu,O.A s⟩,P.ag (s.ai P.size),Aa.A (v:=Ze) (t.2.au p Yv) s⟩;have z:Hid (eh b=17/\∀u∈b,u.oneCell'=bg):=D;have I:Hid (G.there m.1.size 0 (ei b).size):=by rw[show (ei b).size=17 from by rw[A0];exact D.1];exact S.there
 have A:=Yw d;have M:=Yw f;clear Q O p T S D U s P d f r t;go_upto_region 3 with(refine wpList_store_mid rfl 34 _ _ rfl m.1.size 0 (ei b) rfl rfl (by rw[<-A.o];exact I.o) (by rw[A0,z.1];kernel_rfl) (all_oneCell_toArray z.2) ?_);rw[<-A.o,<-M.o];clear A M I;have d:o<m.1.size:=Yv;generalize m.1.size=q at *
 clear F;refine Ip [10,11,12,13] 5 _ rfl Yr Yr Yr Yr Yr Yq Yr [] Yr (λL X=>(Aa X q b/\Is (λg=>g<E.1.size) X b/\Zz w X)/\(L 2=bq->AB X o a N H R)/\(L 4=bq->Aa X w.1.size AU)/\(L 4=bg->Aa X w.1.size b)) (λi X v=>match i with
  |0=>v=ct (ei b)
  |1=>v=Yy o
  |2=>∃j:Int,v=Zg j/\0<=j/\j<12
  |3=>∃j:Int,v=Zg j/\ -1<=j/\j<=10
  |_=>True) (λ_ _ _=>True) ?_ ⟨⟨λj v f=>B.1.1 j v f,B.1.2.1.S (V:=[]) (Tn.of Ae.drew) Yu,B.2.1.ag (Ae.drew.ai B.2.1.size)⟩,λ_=>B.1.2.2.A Ae.drew,λ_=>Aa.A (v:=Ze) B.2.2 Ae.drew,λh=>by cases h⟩ ?_ ?_
 .intro j i X Y v zE zG zC hE hT;rcases i with _|_|_|_|_<;>first|exact hT|exact trivial
 .intro i o' L x X hi ho I u P Q K d;obtain⟨⟨p,A,r⟩,M,F,D⟩:=P;have t:∀{k:Nat},i≠k->Bj L i k=L k:=λh=>by unfold Bj;rw[if_neg (Ne.symm h)]
  rcases(show i=0\/i=1\/i=2\/i=3\/i=4 by omega)with rfl|rfl|rfl|rfl|rfl<;>cases ho<;>simp only[AY,Act.put,Zq,Zp,Zo]at d |-
  .refine wp_load_mid 34 _ rfl q 0 rfl b _ p.range underlying34 rfl (by rw[z.1];kernel_rfl) ?_;exact d.out _ X rfl trivial ⟨⟨p,A,r⟩,by rw[t Yq,t Yq];exact⟨M,F,D⟩⟩
  .go_simp;exact d.out _ X rfl trivial ⟨⟨p,A,r⟩,by rw[t Yq,t Yq];exact⟨M,F,D⟩⟩
  .rw[show x 1=Yy o from Q ⟨1,ed⟩ Yu Yp]at d |-;have g:=Yw (AE 12 (M I) Yv Yv Yv Yv);go_simp;refine g.Aj ?_;rintro e Y ⟨y,rfl,y0,y1,zI,s⟩;have k:=Tn.grown (V:=[o]) s Yu;exact d.out _ Y ⟨y,rfl,y0,y1⟩ trivial ⟨⟨λj v f=>⟨(cell?_of_block (a:=⟨q,j,ba⟩) (s.block q (Bf _ _ (p j v f).1) (λe=>Dl (A8 e)))).ag (p j v f).1,by have:=Aa.same p (s.block q (Bf _ _ (p j v f).1) (λe=>Dl (A8 e))) j v f;exact this.2⟩,A.S k Yt,Lh r s Yv⟩,λh=>by unfold Bj at h;simp at h,λh=>(F gA).au s Yv,λh=>by
    have J:=D gA;exact λj v f=>Aa.same J (s.block _ (Bf _ _ (J j v f).1) (λe=>Dl (A8 e))) j v f⟩
  .obtain⟨j,e,U,O⟩:=Q ⟨2,ed⟩ Yu Yp;rw[e]at d |-;have zF:IntKind.i64.wrap (j -1)=j -1:=G7;go_simp;exact d.out _ X ⟨j -1,rfl,Yv,Yv⟩ trivial ⟨⟨p,A,r⟩,by rw[t Yq,t Yq];exact⟨M,F,D⟩⟩
  rw[show x 0=ct (ei b) from Q ⟨0,ed⟩ Yu Yp]at d |-;have O:L 2=bg:=u ⟨2,.chain⟩ Yu Yp;have Z:=F I;have S:=AD w.1.size b 0 X;refine wp_store_mid 34 _ _ rfl w.1.size 0 (ei b) rfl rfl (by rw[show (ei b).size=17 from by rw[A0];exact z.1];exact Z.there) (by rw[A0,z.1];kernel_rfl) (all_oneCell_toArray z.2) ?_;exact d.out undef _ trivial trivial ⟨⟨λj v f=>Aa.same p (S.block q (Bf _ _ (p j v f).1) Yt) j v f,A.S S Yt,r.ag (S.A r.size Yu)⟩,λh=>gA,λh=>(by unfold Bj at h;simp at h),λ_=>Z.aw b (by rw[z.1];rfl)⟩
 intro L x X I P hT K d;obtain⟨j,T,U,O⟩:=hT 3 Yq (λj=>Yu);obtain⟨⟨_,A,r⟩,_,_,D⟩:=P;simp only[AY,Act.put,Zq,Zp,Zo];rw[T];have f:Hid (Aa X w.1.size b/\VDc X b/\Zz w X):=⟨D (I 4 Yq),A [] X Yu (Tn.of Ae),r⟩;clear hT D A r B T;go_simp;refine d.out _ _ ?_;clear d K;go_wp2_with fail;exact bodyPost_ret (Eh results4 _ _ w.1.size b _ rfl rfl (Aa.range f.1) underlying34 rfl (by rw[z.1];kernel_rfl)) rfl ⟨b,j,rfl,f.2.1,⟨U,O⟩,f.2.2⟩
