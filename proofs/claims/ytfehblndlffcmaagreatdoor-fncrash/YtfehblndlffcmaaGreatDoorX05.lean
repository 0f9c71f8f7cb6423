import Derived.Test.YtfehblndlffcmaaGreatDoorX02
import Derived.Test.YtfehblndlffcmaaGreatDoorX03
import Derived.LaidEql
import Derived.Stop.Asserts
import Derived.RowKitTokens
import Derived.BigRegion
set_option maxRecDepth 100000
set_option maxHeartbeats 16000000
open Option renaming some->an,none->ba
open Bool renaming true->bg,false->bq
open Go.RowKit renaming Below->bs
open Decidable renaming decide->bx
open Go.Obj renaming cells->ca
open Go.Value renaming agg->ct,pointer->ee,bool->ef,ownBlock->ej
open Or renaming inl->dp,inr->eb
open List renaming length->eh,toArray->ei
open Go.World renaming cell?->ek,frozen?->el,ownsRow->eo,grownBy->ep,setCell->ev
open Go renaming maxLen->ew
namespace Go.Proofs.YtfehblndlffcmaaGreatDoor
open ChangeShapes WideShapes ChangeAt RowKit _root_.Go.Proofs.Tryz List World Value
variable{w e W wr:Zh}{b k:Nat}{a c g d n kind:Int}{t s rest:Zi}{p:Addr}{l:List UInt8}{o:Obj}{i:Zl}{v:Value}{bad:Bool}
def Bs(w:Zh)(b off:Nat)(zs:List (Kd×Value)):Prop:=
 ∀i z,zs[i]?=an z->(ek w (Zd b (off+i *4))=an (.string z.1.sum)/\ek w (Zd b (off+i *4+1))=an (Zg z.1.born)/\ek w (Zd b (off+i *4+2))=an (.string z.1.i)/\ek w (Zd b (off+i *4+3))=an z.2)/\∃ad rc,z.2=.slice (an ad) (eh z.1.D) rc/\Ab w w.1.size (an ad) z.1.D
theorem Bs.A{a:Nat}{f:List (Kd×Value)}(h:Bs w b a f)(c:Zz w e)(d:b<w.1.size):Bs e b a f:=by intro i z q;have⟨⟨j,k,l,m⟩,g,r,n,o⟩:=h i z q;exact⟨⟨(c.cell (p:=⟨b,a+i *4,ba⟩) d).ag j,(c.cell (p:=⟨b,a+i *4+1,ba⟩) d).ag k,(c.cell (p:=⟨b,a+i *4+2,ba⟩) d).ag l,(c.cell (p:=⟨b,a+i *4+3,ba⟩) d).ag m⟩,g,r,n,Ab.ai (Ab.A o c) c.size⟩
theorem Bs.dt{c:Nat}{d:List (Kd×Value)}(h:Bs w b c d)(n:b<w.1.size):Br w w.1.size (an ⟨b,c,ba⟩) (d.map (·.1)):=by
 refine eb ⟨b,c,rfl,n,λi k a=> ?_⟩;rw[getElem?_map]at a;cases hz:d[i]? with
 |none=>rw[hz]at a;cases a
 |some z=>rw[hz]at a;cases a;have⟨⟨e,f,g,j⟩,a,o,l,m⟩:=h i z hz;exact⟨e,f,g,an a,o,by rw[j,l],m⟩
theorem Bs.own{c g e:Nat}{a:List (Kd×Value)}(h:eo w c 78 4 (Yz g (eh a) e) (eh a) (Ad kC a))(k:∀z∈a,∃b d,z.2=C3 (an b) (eh z.1.D) d/\Ab w w.1.size (an b) z.1.D):Bs w g 0 a:=by
 intro i z d;have l:=(Zw d).1;have b:∀j,j<4->ek w (Zd g (i *4+j))=(kC z)[j]?:=λj f=>(h.cellAt (i *4+j) Yv).ag (BU CB d f);refine⟨⟨?_,?_,?_,?_⟩,k z (Zs d)⟩
 .rw[Ay];simpa [kC]using b 0 Yq
 .rw[Ay];simpa [kC]using b 1 Yq
 .rw[Ay];simpa [kC]using b 2 Yq
 rw[Ay];simpa [kC]using b 3 Yq
def BN(zs:List (Kd×Value))(s:Zi):List (Kd×Value):=zs.filter (fun z=> !bx (z.1.sum=s))
theorem Ki(a:List (Kd×Value))(s:Zi):(BN a s).map (·.1)=Dk (a.map (·.1)) s:=by unfold BN Dk;rw[filter_map];rfl
theorem SA{a:List (Kd×Value)}{z:Kd×Value}(s:Zi)(c:a[k]?=an z):BN (a.take (k+1)) s=BN (a.take k) s++(if z.1.sum=s then []else [z]):=by obtain⟨b,rfl⟩:=Zw c;unfold BN;rw[Zu b,filter_append];by_cases h:a[k].1.sum=s<;>simp[h]
theorem Bi{e:Int}{T P L:D4}(h:Aa w b [Zg e,Zg d,Zg c,Zg a,T,P,L]):AW w b e d c a T P L:=
 ⟨(h 0 _ rfl).1,(h 1 _ rfl).1,(h 2 _ rfl).1,(h 3 _ rfl).1,(h 4 _ rfl).1,(h 5 _ rfl).1,(h 6 _ rfl).1,h.lt⟩
def Jn(ps:List Pd)(ls:List Ld)(ks:List Kd)(s:Zi):Prop:=((∃p∈ps,p.sum=s)\/∃l∈ls,l.sum=s)\/∃k∈ks,s∈k.D
def Rx(w w':Zh)(e:Ending)(wd now given births:Int)(P L:Value)(zs:List (Kd×Value))(ps:List Pd)(ls:List Ld)(s:Zi):Prop:=
 bs w.1.size w w'/\((Jn ps ls (zs.map (·.1)) s/\e=.returned (ct #[Zg 6,Ze,Ze,Ze,Ze,Zb,Zb,Zb,Zc,Ze,Zc,Zc]))\/
  (¬Jn ps ls (zs.map (·.1)) s/\∃g c,e=.returned (ct #[Ze,Zg wd,Zg now,Zg given,Zg births,.slice (an ⟨g,0,ba⟩) (eh (BN zs s)) c,P,L,Zc,Ze,Zc,Zc])/\Bs w' g 0 (BN zs s)/\w.1.size<=g/\g<w'.1.size))
theorem Mf(A m f a:Int){t:Nat}(I E D:Nat){p l:Zk}{d:List (Kd×Value)}{o:Db}{n:Da}(s:Zi)(F:Bs w b t d)(zP:b<w.1.size)(K:AS w w.1.size p o)(H:AR w w.1.size l n)(yT:eh d<=600)(yQ:eh o<=100)(yP:eh n<=200)(hr:∀z∈d,eh z.1.D<=1000)(C:AA (d.map (·.1)) s):
 D8 83 #[ct (Yg A m f a (an ⟨b,t,ba⟩) (eh d) I p (eh o) E l (eh n) D),C4 s] w λe r=>Rx w r e A m f a (C3 p (eh o) E) (C3 l (eh n) D) d o n s:=by
 have⟨W,r⟩:=Ag ((w.alloc (ca (Yg A m f a (an ⟨b,t,ba⟩) (eh d) I p (eh o) E l (eh n) D) 30)).alloc (ca Yd 42));have hB:=(AQ r).1;have yS:=(AQ r).2.1;have xW:AW W w.1.size A m f a (C3 (an ⟨b,t,ba⟩) (eh d) I) (C3 p (eh o) E) (C3 l (eh n) D):=by rw[r];exact AW.ah (AW.new w A m f a _ _ _ 30) (Zy) Yu
 have zR:Aa W (w.1.size+1) z12:=by have h:=Aa.new (w.alloc (ca (Yg A m f a (an ⟨b,t,ba⟩) (eh d) I p (eh o) E l (eh n) D) 30)) z12 42;rw[Ao]at h;rw[r];exact h
 have HF:=Dt A m f a (an ⟨b,t,ba⟩) I (C3 p (eh o) E) (C3 l (eh n) D) (d.map (·.1)) s W w.1.size (Br.A (F.dt zP) hB) hB.size N8;rw[B0]at HF;have yO:0<=CC (d.map (·.1)) s:=by
  rcases CU (d.map (·.1)) s with⟨_,hn⟩|⟨i,k,e,_⟩
  .exact absurd C hn
  omega
 have B:=Yw HF;have yC:=Yw zR;have zY:Hid (Aa W _ _):=(AQ r).2.2.1;have zX:w.1.size+1<W.1.size:=Yv;obtain⟨HZ,zJ,G,J⟩:=Yw F,Yw (Zn K H),Yw r,Yw xW;clear r F K H zR HF C;obtain⟨C,K,L,N,O,P,c,x7⟩:=xW;delta D8;go_in;go_upto_region 1 with fail;rw[<-G.o];clear G;go_wp2_with fail;refine B.Aj ?_;rintro e w1 ⟨rfl,M⟩;have yM:¬CC (d.map (·.1)) s<0:=Yv;have r:=Yw (AW.A J M);have⟨Q,R,S,U,X,Y,Z,y7⟩:=r.o;have H:bs w.1.size w w1:=hB.ag (M.ai hB.size);clear C K L N O P c B;generalize CC (d.map (·.1)) s=fi at *
 go_wp2_with fail;refine(Sv A m f a (C3 (an ⟨b,t,ba⟩) (eh d) I) E D s (AS.ai (AS.A zJ.1 H) H.size) (AR.ai (AR.A zJ.2 H) H.size) Yv Yv).ai ?_;rintro e G ⟨L,rfl,B,N⟩;have zA:bs w.1.size w G:=H.ag (N.ai H.size);have C:=Yw (AW.A r N);have K:Aa G (w.1.size+1) z12:=Aa.A (v:=Ze) (Aa.A (v:=Ze) yC M) N;have zE:=Yw K;have zI:=Yw B;clear B Q R S U X Y Z K;cases L
 .obtain⟨v0,v1,v2,v3,v4,v5,v6,v7⟩:=C.o;have yG:w.1.size+2<=G.1.size:=by have:=M.size;have:=N.size;omega
  have B:bs G.1.size G (G.alloc (ca #[] 78)):=Zy;go_wp2;go_loopw [5,6] (λv i wr=>∃(k g c:Nat),k<=eh d/\i=Zg k/\v=Yz g (eh (BN (d.take k) s)) c/\Hid (eo wr (w.1.size+2) 78 4 (Yz g (eh (BN (d.take k) s)) c) (eh (BN (d.take k) s)) (Ad kC (BN (d.take k) s))/\(∀z∈d.take k,¬s∈z.1.D)/\Aa wr w.1.size (Yh A m f a (an ⟨b,t,ba⟩) (eh d) I p (eh o) E l (eh n) D)/\Aa wr (w.1.size+1) z12/\Zz w wr)) (λ_ i _=>eh d -(intOf i).toNat)
  case atStart=>
   refine⟨0,G.1.size,0,Aq _,rfl,by simp[BN],⟨?_,(λz F=>by simp at F),Aa.A (Aa.A (Aa.A zY M) N) B,Aa.A (v:=Ze) zE B,zA.ag (B.ai zA.size)⟩⟩;have:=ownsRow_lit (base:=w.1.size+2) (e:=78) (size:=4) G #[] 0 yG Yo rfl;simpa [BN,Ad]using this
  clear r J zE C v0 v1 v2 v3 v4 v5 v6 v7 B;obtain⟨k,g,c,hk,rfl,rfl,B⟩:=hrel;have⟨v0,v1,v2,v3,v4,v5,v6,v7⟩:=Bi B.2.2.1;have r:=B.2.2.2.2;have yU:=r.size;by_cases hlt:k<eh d
  case neg=>
   obtain rfl:k=eh d:=Yv;have zO:=B.o;rw[Zt (Zx)]at zO;obtain⟨h,h2,h3,T,h5⟩:=zO;obtain⟨zT,C,⟨⟨Q,q0⟩,⟨R,q1⟩,⟨S,q2⟩,⟨U,q3⟩,⟨X,q4⟩,⟨Y,q5⟩,⟨Z,q6⟩,⟨y7,q7⟩,⟨y8,q8⟩,⟨y9,q9⟩,⟨O,zV⟩,P,zW⟩,f4⟩:=Ac h (g:=g) rfl,Yw (Zn h (Zn h2 h5)),Bv T,(h3 4 _ rfl).2;clear h h2 h3 T h5;rw[Zt (Zx)];go_wp2;have T:∀a0 a1 a2 a3 a4 a5 a6 a7 a8 a9 h zM c4,Tn [w.1.size,w.1.size+1] wr _:=λa0 a1 a2 a3 a4 a5 a6 a7 a8 a9 h zM c4=>(Tn.set (V:=[w.1.size,w.1.size+1]) wr w.1.size 4 c4 Yu).ag (Tn.ai (BB (ev wr (Zd (w.1.size) 4) c4) (w.1.size+1) a0 a1 a2 a3 a4 a5 a6 a7 a8 a9 h zM) Yu);refine C1 (ct #[Ze,Zg A,Zg m,Zg f,Zg a,Yz g (eh (BN d s)) c,C3 p (eh o) E,C3 l (eh n) D,Zc,Ze,Zc,Zc]) Hd ?_;have T':=T Ze (Zg A) (Zg m) (Zg f) (Zg a) (Yz g (eh (BN d s)) c) (C3 p (eh o) E) (C3 l (eh n) D) Zc Ze Zc Zc (Yz g (eh (BN d s)) c);have zF:=C.2.2.ag (Tn.A T' C.2.2.size Yu);refine⟨zF,eb ⟨?_,g,c,rfl,Bs.own (Ar C.1 (λq hq=>T'.block q (Ac C.1 hq).2 (by have:=(Ac C.1 hq).1;simp;omega))) (λz F=> ?_),Yv,Zr zT.2 T'.size⟩⟩
   .rintro(h|⟨x,hx,q⟩)
    .have:=zI.2 h;simp at this
    obtain⟨z,F,rfl⟩:=mem_map.1 hx;exact C.2.1 z F q
   obtain⟨i,hi⟩:=A9 (B6.1 F).1;have⟨_,J,K,e,q⟩:=HZ i z hi;exact⟨J,K,e,Ab.ai (Ab.A q zF) zF.size⟩
  have HG:Hid (d[k]?=an d[k]):=Zv hlt;obtain⟨⟨⟨c0,c1,c2,c3⟩,J,K,T,h5⟩,yR,zK⟩:=(Bs.A HZ r zP) k _ HG,hr _ (getElem_mem hlt),Yw (SA s HG);have yL:b<wr.1.size:=Yv;have yA:=Yw h5;have yB:Hid (d.take (k+1)=d.take k++[d[k]]):=Zu hlt;rw[T]at c3;have H4:=Yw T;clear h5 T;generalize d[k]=z at *
  have yN:eh (BN (d.take k) s)<=600:=by have:=length_filter_le (λz:Kd×Value=> !bx (z.1.sum=s)) (d.take k);unfold BN;rw[C0]at this;omega
  go_wp2_with fail;refine(FJ K s yA Yv).ai ?_;rintro e w3 ⟨rfl,rfl⟩;by_cases hin:s∈z.1.D
  .have C:z.1.D.any (λx=>decide (x=s))=bg:=D2 hin;rw[C];have⟨⟨Q,q0⟩,⟨R,q1⟩,⟨S,q2⟩,⟨U,q3⟩,⟨X,q4⟩,⟨Y,q5⟩,⟨Z,q6⟩,⟨y7,q7⟩,⟨y8,q8⟩,⟨y9,q9⟩,⟨O,zV⟩,P,zW⟩:=Bv B.2.2.2.1;have yD:=Yw hin;clear hin C c0 c1 c2 c3 v0 v1 v2 v3 v4 v5 v6;go_wp2;refine C1 (ct (Yc 6)) Hd ⟨r.ag (Tn.A (BB _ (w.1.size+1) _ _ _ _ _ _ _ _ _ _ _ _) r.size Yu),dp ⟨eb ⟨z.1,mem_map.2 ⟨z,Zs HG,rfl⟩,yD⟩,rfl⟩⟩
  have C:z.1.D.any (λx=>decide (x=s))=bq:=by rw[any_eq_false];intro x hx e;exact hin (of_decide_eq_true e▸hx)
  rw[C];have zH:Hid (∀y∈d.take (k+1),¬s∈y.1.D):=by
   rw[yB.o];intro y hy;rcases Bw.1 hy with hy|hy
   .exact B.2.1 y hy
   simp at hy;rw[hy];exact hin
  clear hin C;by_cases hzs:z.1.sum=s
  .have hq:(z.1.sum.toList !=s.toList)=bq:=(by rw[hzs];simp);have zU:(z.1.sum.toList==s.toList)=bg:=(by rw[hzs];simp);have C:=zK.o;rw[if_pos hzs,append_nil]at C;have L:=Yw C;clear C hzs;go_wp2;exact⟨⟨k+1,g,c,Yv,Yn,by rw[L.o],⟨by rw[L.o];exact B.1,zH,B.2.2⟩⟩,Ys⟩
  have zU:(z.1.sum.toList==s.toList)=bq:=BJ hzs;have hq:(z.1.sum.toList !=s.toList)=bg:=by simp[bne,zU]
  have C:=zK.o;rw[if_neg hzs]at C;have L:=Yw C;clear C hzs;have⟨i0,hi,yH,yI,zC⟩:=info_parts Hx;have zT:=Ac B.1 (g:=g) rfl;go_wp2_with (first
   |(at_builtin;refine wpList_append_own_at _ rfl _ _ 26 rfl (w.1.size+2) 78 i0 _ 4 64 underlying26 hi yH yI zC rfl Yq _ (eh (BN (d.take k) s)) (Ad kC (BN (d.take k) s)) rfl ?d0 ⟨w3.1.size,0,ba⟩ 1 1 (kC (z.1,C3 (an J) (eh z.1.D) K)) rfl rfl ?d2 ?d3 ?d4 ?d5 ?d6 ?_)
   |go_in)
  case d0=>exact Ah B.1 (Zy)
  case d2=>
   intro j u hu;rw[A7,Ay];exact((Aa.new w3 (kC (z.1,C3 (an J) (eh z.1.D) K)) 78) j u hu).1
  case d3=>
   intro u hu;simp[kC]at hu;rcases hu with rfl|rfl|rfl|rfl<;>rfl
  case d4=>unfold ew;omega
  case d5=>omega
  case d6=>simp;omega
  intro v4 w4 zB zS yF yE;obtain⟨g4,c4,rfl,yJ,yK⟩:=BK zB (λe=>by subst e;rcases zB.2 with⟨_,hn⟩|⟨_,_,_,e,_⟩<;>first|omega|cases e);have b4:bs w3.1.size w3 (w3.alloc (ca #[C4 z.1.sum,Zg z.1.born,C4 z.1.i,C3 (an J) (eh z.1.D) K] 78)):=Zy;have C:ep w3 w4 (an g):=Ai (Af _ b4) zS;have zC:z.2=C3 (an J) (eh z.1.D) K:=H4.o;have zG:eh (BN (d.take (k+1)) s)=eh (BN (d.take k) s)+1:=by rw[L.o];simp
  have zN:Ad kC (BN (d.take (k+1)) s)=Ad kC (BN (d.take k) s)++kC (z.1,C3 (an J) (eh z.1.D) K):=by rw[L.o,Cd,<-zC];simp[Ad]
  have HF:Hid (eo w4 (w.1.size+2) 78 4 (Yz g4 (eh (BN (d.take (k+1)) s)) c4) (eh (BN (d.take (k+1)) s)) (Ad kC (BN (d.take (k+1)) s))/\(∀y∈d.take (k+1),¬s∈y.1.D)/\Aa w4 w.1.size (Yh A m f a (an ⟨b,t,ba⟩) (eh d) I p (eh o) E l (eh n) D)/\Aa w4 (w.1.size+1) z12/\Zz w w4):=by
   refine⟨by rw[zG,zN];exact zB,zH,?_,?_,r.grown C Yv (λq hq=>by cases hq;omega)⟩
   .exact Aa.au B.2.2.1 C Yv
   exact Aa.au (v:=Ze) B.2.2.2.1 C Yv
  clear zB zS C yF yE b4 zN zC c0 c1 c2 c3 v0 v1 v2 v3 v4 v5 v6;have zZ:=Yw zG;clear zG;go_wp2;exact⟨⟨k+1,g4,c4,Yv,Yn,by rw[zZ.o],HF⟩,Ys⟩
 obtain⟨⟨Q,q0⟩,⟨R,q1⟩,⟨S,q2⟩,⟨U,q3⟩,⟨X,q4⟩,⟨Y,q5⟩,⟨Z,q6⟩,⟨y7,q7⟩,⟨y8,q8⟩,⟨y9,q9⟩,⟨O,zV⟩,P,zW⟩:=Bv zE;go_wp2;refine C1 (ct (Yc 6)) Hd ⟨zA.ag (Tn.A (BB G (w.1.size+1) _ _ _ _ _ _ _ _ _ _ _ _) zA.size Yu),dp ⟨dp (zI.1 trivial),rfl⟩⟩
def Ea(k:Nat):Bool:=k==2||k==4||k==7
def DC(k:Nat):Bool:=k==2||k==3
def CQ(k:Nat):Bool:=k==1
def CG(k:Nat):Int:=if k=1\/k=4\/k=6 then 100000 else if k=5 then 1000000000 else 0
def Et(u:Bool)(s:Zi)(wd:Int):Bool:=if u then bx ((s.size:Int)=wd)else bx (s.size=0)
def IM(u:Bool)(s:Zi):Bool:=if u then CP s else bx (s.size=0)
def Eu(m n:Int):Bool:=if m=0 then bx (n=0)else bx (1<=n/\n<=m)
def IN(u:Bool)(t:Zi)(ss:Zl)(wd:Int):Bool:=if u then AL t ss wd else bx (t.size=0/\eh ss=0)
theorem ND:s.toList.isEmpty=bx (s.size=0):=by
 have:eh s.toList=s.size:=M8;rw[<-this];cases s.toList<;>simp
theorem QO(s:Zi)(a b c:Bool)(m f:Int)(w:Zh):
 D8 151 #[C4 s,ct #[ef a,ef b,ef c,Zg m],Zg f] w λe d=>e=C5 (ef (Et b s f))/\Zz w d:=by
 cases b with
 |true=>delta D8;go_in;go_wp2;go_ret;exact⟨AH rfl,Zy⟩
 |false=>have d:=ND (s:=s);have g:=Yw d;clear d;delta D8;go_in;go_wp2;go_ret;exact⟨AH g,Zy⟩
theorem Pt(s:Zi)(a b c:Bool)(m:Int)(w:Zh)(f:s.size<=ew):
 D8 152 #[C4 s,ct #[ef a,ef b,ef c,Zg m]] w λe d=>e=C5 (ef (IM a s))/\Zz w d:=by
 cases a with
 |true=>delta D8;go_in;go_wp2_with fail;refine(TI s _ f).ai ?_;rintro e g ⟨rfl,rfl⟩;go_wp2;go_ret;exact⟨AH rfl,Zy⟩
 |false=>have d:=Yw (ND (s:=s));delta D8;go_in;go_wp2;go_ret;exact⟨AH d,Zy⟩
theorem QP(n:Int)(a b c:Bool)(m:Int)(w:Zh):
 D8 153 #[Zg n,ct #[ef a,ef b,ef c,Zg m]] w λe d=>e=C5 (ef (Eu m n))/\Zz w d:=by
 by_cases hm:m=0
 .subst hm;delta D8;go_in;go_wp2;go_ret;exact⟨AH (by unfold Eu;rw[if_pos rfl];rfl),Zy⟩
 have g:(m==0)=bq:=Yt;have d:=Yw hm;clear hm;by_cases h1:1<=n
 .delta D8;go_in;go_wp2;go_ret;exact⟨AH (by unfold Eu;rw[if_neg d.o];simp[h1]),Zy⟩
 have f:bx (1<=n)=bq:=Yt;delta D8;go_in;go_wp2;go_ret;exact⟨AH (by unfold Eu;rw[if_neg d.o,decide_eq_false Yv]),Zy⟩
theorem Oj(t:Zi){i:Zk}(g:Nat){d:Zl}(a b c:Bool)(m l:Int)(j:Ab w w.1.size i d)(p:eh d<=1048576)(q:t.size<=ew):
 D8 154 #[ct #[C4 t,C3 i (eh d) g],ct #[ef a,ef b,ef c,Zg m],Zg l] w λe f=>e=C5 (ef (IN c t d l))/\Zz w f:=by
 have f:bs w.1.size w ((w.alloc (ca #[C4 t,C2 i d g] 76)).alloc (ca #[ef a,ef b,ef c,Zg m] 189)):=gB;cases c with
 |true=>delta D8;go_in;go_wp2_with fail;refine(EJ t g l (j.X f) p q).ai ?_;rintro e r ⟨rfl,rfl⟩;go_wp2;go_ret;exact⟨AH rfl,f.alloc Yt _⟩
 |false=>
  by_cases h1:t.size=0
  .have o:t.toList.isEmpty=bg:=gA;have k:=Yw h1;clear h1;delta D8;go_in;go_wp2;go_ret;refine⟨AH ?_,f⟩;unfold IN;rw[if_neg Yq];have n:=k.o;by_cases hs0:eh d=0
   .rw[decide_eq_true ⟨n,hs0⟩];simp[hs0]
   rw[decide_eq_false (λh=>hs0 h.2)];simp;intro h;exact hs0 Yt
  have o:t.toList.isEmpty=bq:=by rw[ND];simpa using h1
  have k:=Yw h1;clear h1;delta D8;go_in;go_wp2;go_ret;refine⟨AH ?_,f⟩;unfold IN;rw[if_neg Yq,decide_eq_false (λh=>k h.1)]
def Mg(w:Zh):Prop:=∀k,1<=k->k<=7->ek w (Zd 5 (k *4))=an (ef (DC k))/\ek w (Zd 5 (k *4+1))=an (ef (Ea k))/\ek w (Zd 5 (k *4+2))=an (ef (CQ k))/\ek w (Zd 5 (k *4+3))=an (Zg (CG k))
theorem Mg.A{g:Zh}(h:Mg w)(f:Zz w g):Mg g:=by intro k i j;have⟨a,b,c,d⟩:=h k i j;have e:=Bf w _ a;exact⟨(f.cell (p:=⟨5,k *4,ba⟩) e).ag a,(f.cell (p:=⟨5,k *4+1,ba⟩) e).ag b,(f.cell (p:=⟨5,k *4+2,ba⟩) e).ag c,(f.cell (p:=⟨5,k *4+3,ba⟩) e).ag d⟩
theorem KZ(k:Nat)(w:Zh)(hT:Mg w)(b:1<=k)(c:k<=7):
 D8 126 #[Zg k] w λe a=>e=C5 (.tuple #[ct #[ef (DC k),ef (Ea k),ef (CQ k),Zg (CG k)],ef bg])/\Zz w a:=by
 obtain⟨a,f,g,h⟩:=hT k b c;have d:=Bf w _ a;have i:bx ((k:Int)<1)=bq:=Yt;have j:bx ((7:Int)<k)=bq:=Yt;have l:(k:Int)<8:=Yv;delta D8;go_in;go_wp2;exact C1 (.tuple #[ct #[ef (DC k),ef (Ea k),ef (CQ k),Zg (CG k)],ef bg]) M0 ⟨rfl,Zy⟩
theorem Mh(k:Int)(w:Zh)(h:¬(1<=k/\k<=7)):
 D8 126 #[Zg k] w λe a=>e=C5 (.tuple #[ct #[ef bq,ef bq,ef bq,Ze],ef bq])/\Zz w a:=by
 by_cases h1:k<1
 .have a:bx (k<1)=bg:=Yt;delta D8;go_in;go_wp2;exact C1 (.tuple #[ct #[ef bq,ef bq,ef bq,Ze],ef bq]) M0 ⟨rfl,Zy⟩
 have a:bx (k<1)=bq:=Yt;have b:bx (7<k)=bg:=Yt;delta D8;go_in;go_wp2;exact C1 (.tuple #[ct #[ef bq,ef bq,ef bq,Ze],ef bq]) M0 ⟨rfl,Zy⟩
def De(k:Nat)(sum name:Zi)(n:Int)(t:Zi)(ss:Zl)(wd:Int):Bool:=
 decide (1<=wd/\wd<=8)&&(Et (Ea k) sum wd&&(IM (DC k) name&&(Eu (CG k) n&&IN (CQ k) t ss wd)))
abbrev Gt(k:Int)(sum name:Zi)(n:Int)(t:Zi)(ad:Zk)(len cap:Nat):Array Value:= #[Zg k,.string sum,.string name,Zg n,.string t,.slice ad len cap]
theorem QQ(k:Int)(d a:Zi)(n:Int)(t:Zi)(f:Zk)(c:Nat)(h:Zl)(i:Int)(w:Zh)(g:¬(1<=k/\k<=7)):
 D8 129 #[ct (Gt k d a n t f (eh h) c),Zg i] w λe b=>e=C5 (ef bq)/\Zz w b:=by
 delta D8;go_in;go_wp2_with fail;refine(Mh k _ g).ai ?_;rintro e j ⟨rfl,b⟩;go_wp2;go_ret;exact⟨rfl,((Zy).ag (b.ai Yu)).alloc (by have:=b.size;simp at this;omega) _⟩
structure EB (W:Zh) (B P:Nat) (sum name:Zi) (n:Int) (t:Zi) (v:Value) (a b c:Bool) (m:Int):Prop where
 x1:ek W (Zd B 1)=an (.string sum)
 x2:ek W (Zd B 2)=an (.string name)
 x3:ek W (Zd B 3)=an (Zg n)
 x4:ek W (Zd B 4)=an (.string t)
 x5:ek W (Zd B 5)=an v
 y0:ek W (Zd P 0)=an (ef a)
 y1:ek W (Zd P 1)=an (ef b)
 y2:ek W (Zd P 2)=an (ef c)
 y3:ek W (Zd P 3)=an (Zg m)
theorem EB.A{j:Zh}{B P:Nat}{i e:Zi}{a b c:Bool}{m:Int}(h:EB W B P i e n t v a b c m)(d:Zz W j):EB j B P i e n t v a b c m:=by
 have f:=Bf W _ h.x1;have g:=Bf W _ h.y0;exact⟨(d.cell (p:=⟨B,1,ba⟩) f).ag h.x1,(d.cell (p:=⟨B,2,ba⟩) f).ag h.x2,(d.cell (p:=⟨B,3,ba⟩) f).ag h.x3,(d.cell (p:=⟨B,4,ba⟩) f).ag h.x4,(d.cell (p:=⟨B,5,ba⟩) f).ag h.x5,
  (d.cell (p:=⟨P,0,ba⟩) g).ag h.y0,(d.cell (p:=⟨P,1,ba⟩) g).ag h.y1,(d.cell (p:=⟨P,2,ba⟩) g).ag h.y2,(d.cell (p:=⟨P,3,ba⟩) g).ag h.y3⟩
theorem SB(k:Nat)(f a:Zi)(n:Int)(t:Zi){v:Zk}(r:Nat)(c:Int)(hT:Mg w)(S:1<=k)(T:k<=7)(H:Ab w w.1.size v i)(U:eh i<=1048576)(X:t.size<=ew)(V:a.size<=ew):
 D8 129 #[ct (Gt k f a n t v (eh i) r),Zg c] w λe b=>e=C5 (ef (De k f a n t i c))/\Zz w b:=by
 have J:bs w.1.size w (w.alloc (ca (Gt k f a n t v (eh i) r) 91)):=gB;delta D8;go_in;go_wp2_with fail;refine(KZ k _ (hT.A J) S T).ai ?_;rintro e g ⟨rfl,d⟩;have N:=d.size;simp at N;have b:w.1.size<g.1.size:=Yv;obtain⟨I,h,s⟩:=J.ag (d.ai Yu),XY d;have j:ek g (Zd (w.1.size) 1)=an (C4 f):=I0;have l:ek g (Zd (w.1.size) 2)=an (C4 a):=by rw[d.cell (p:=⟨w.1.size,2,ba⟩) Yu];simp
 have m:ek g (Zd (w.1.size) 3)=an (Zg n):=by rw[d.cell (p:=⟨w.1.size,3,ba⟩) Yu];simp
 have o:ek g (Zd (w.1.size) 4)=an (C4 t):=by rw[d.cell (p:=⟨w.1.size,4,ba⟩) Yu];simp
 have q:ek g (Zd (w.1.size) 5)=an (C2 v i r):=by rw[d.cell (p:=⟨w.1.size,5,ba⟩) Yu];simp
 clear h s;have⟨K,s⟩:=D6 g #[ef (DC k),ef (Ea k),ef (CQ k),Zg (CG k)] 189;have h:bs g.1.size g K:=gB;have z:EB K w.1.size g.1.size f a n t (C2 v i r) (DC k) (Ea k) (CQ k) (CG k):=by refine⟨(h.cell (p:=⟨w.1.size,1,ba⟩) b).ag j,(h.cell (p:=⟨w.1.size,2,ba⟩) b).ag l,(h.cell (p:=⟨w.1.size,3,ba⟩) b).ag m,(h.cell (p:=⟨w.1.size,4,ba⟩) b).ag o,(h.cell (p:=⟨w.1.size,5,ba⟩) b).ag q,?_,?_,?_,?_⟩<;>(rw[s];simp)
 have x:=I.ag (h.ai I.size);have D:=Yw s;clear s;by_cases hw:1<=c/\c<=8
 .obtain⟨L,M⟩:=hw;have s:bx (1<=c/\c<=8)=bg:=Yt
  have u:=Yw s;clear s;go_wp2_with (go_at_call 27;go_in);rw[<-D.o];refine(QO f (DC k) (Ea k) (CQ k) (CG k) c K).ai ?_;rintro e Y ⟨rfl,y⟩;have O:=z.A y;have E:=x.ag (y.ai x.size);clear z y;cases hs:Et (Ea k) f c with
  |false=>go_wp2;go_ret;exact⟨AH (by unfold De;rw[hs];simp),E⟩
  |true=>
   have R:=Yw hs;clear hs;obtain⟨j,l,m,o,q,z,A,B,C⟩:=O;go_wp2_with fail;refine(Pt a (DC k) (Ea k) (CQ k) (CG k) _ V).ai ?_;rintro e Z ⟨rfl,y⟩;have P:=(EB.mk j l m o q z A B C).A y;have F:=E.ag (y.ai E.size);clear j l m o q z A B C y;cases hnm:IM (DC k) a with
   |false=>go_wp2;go_ret;exact⟨AH (by unfold De;rw[hnm];simp),F⟩
   |true=>
    have HN:=Yw hnm;clear hnm;obtain⟨j,l,m,o,q,z,A,B,C⟩:=P;go_wp2_with fail;refine(QP n (DC k) (Ea k) (CQ k) (CG k) _).ai ?_;rintro e W ⟨rfl,G⟩;have Q:=(EB.mk j l m o q z A B C).A G;have y:=F.ag (G.ai F.size);clear j l m o q z A B C G;cases hnu:Eu (CG k) n with
    |false=>go_wp2;go_ret;exact⟨AH (by unfold De;rw[hnu];simp),y⟩
    |true=>have HU:=Yw hnu;clear hnu;obtain⟨j,l,m,o,q,z,A,B,C⟩:=Q;go_wp2_with fail;refine(Oj t r (DC k) (Ea k) (CQ k) (CG k) c (H.X y) U X).ai ?_;rintro e w6 ⟨rfl,G⟩;go_wp2;go_ret;exact⟨AH (by unfold De;rw[u.o,R.o,HN.o,HU.o];rfl),y.ag (G.ai y.size)⟩
 have s:bx (1<=c/\c<=8)=bq:=Yt;have u:=Yw s;clear s;by_cases L:1<=c
 .have M:bx (c<=8)=bq:=Yt;go_wp2;go_ret;refine⟨AH (by unfold De;rw[u.o];rfl),?_⟩;rw[<-D.o];exact x
 go_wp2;go_ret;refine⟨AH (by unfold De;rw[u.o];rfl),?_⟩;rw[<-D.o];exact x
def Kj(k:Nat):Int:=if k=1\/k=4\/k=6 then 1 else if k=5 then 2 else 0
theorem Wn(k:Nat)(w:Zh)(a:1<=k)(b:k<=7):
 D8 116 #[Zg k] w λe c=>e=C5 (.tuple #[ef (Ea k),ef (DC k),Zg (Kj k),ef (CQ k)])/\c=w:=by
 match k,a,b with
 |1,_,_|2,_,_|3,_,_|4,_,_|5,_,_|6,_,_|7,_,_=>
  delta D8;go_in;go_wp2;refine bodyPost_ret ?_ rfl ⟨rfl,rfl⟩;simp[results,results116,go_sem,Ea,DC,Kj,CQ]
theorem Wo(k:Nat)(n:Int)(w:Zh):
 D8 117 #[Zg n,Zg (Kj k)] w λe a=>e=C5 (ef (Eu (CG k) n))/\a=w:=by
 have d:(Kj k=1/\CG k=100000)\/(Kj k=2/\CG k=1000000000)\/(Kj k=0/\CG k=0):=by
  unfold Kj CG;split
  .exact dp ⟨rfl,rfl⟩
  split
  .exact eb (dp ⟨rfl,rfl⟩)
  exact eb (eb ⟨rfl,rfl⟩)
 rcases d with⟨a,b⟩|⟨a,b⟩|⟨a,b⟩<;>rw[a,b]
 .by_cases hn:1<=n
  .delta D8;go_in;go_wp2;go_ret;exact⟨AH (by unfold Eu;rw[if_neg Yq];simp[hn]),rfl⟩
  have c:bx (1<=n)=bq:=Yt;delta D8;go_in;go_wp2;go_ret;exact⟨AH (by unfold Eu;rw[if_neg Yq,decide_eq_false Yv]),rfl⟩
 .by_cases hn:1<=n
  .delta D8;go_in;go_wp2;go_ret;exact⟨AH (by unfold Eu;rw[if_neg Yq];simp[hn]),rfl⟩
  have c:bx (1<=n)=bq:=Yt;delta D8;go_in;go_wp2;go_ret;exact⟨AH (by unfold Eu;rw[if_neg Yq,decide_eq_false Yv]),rfl⟩
 delta D8;go_in;go_wp2;go_ret;exact⟨AH (by unfold Eu;rw[if_pos rfl];rfl),rfl⟩
theorem Wp(k:Int)(g b:Zi)(n:Int)(t:Zi)(h:Zk)(c:Nat)(j:Zl)(a:Int)(w:Zh)(m:¬(1<=k/\k<=7)):
 D8 74 #[ct (Gt k g b n t h (eh j) c),Zg a] w λe d=>e=C5 (ef bq)/\Zz w d:=by
 by_cases hw:1<=a/\a<=8
 .obtain⟨d,f⟩:=hw;by_cases h1:k<1
  .have i:bx (k<1)=bg:=Yt;delta D8;go_in;go_wp2;go_ret;exact⟨rfl,Zy⟩
  have i:bx (k<1)=bq:=Yt;have l:bx (7<k)=bg:=Yt;delta D8;go_in;go_wp2;go_ret;exact⟨rfl,Zy⟩
 by_cases d:1<=a
 .have f:bx (a<=8)=bq:=Yt;delta D8;go_in;go_wp2;go_ret;exact⟨rfl,Zy⟩
 delta D8;go_in;go_wp2;go_ret;exact⟨rfl,Zy⟩
theorem Ug(k:Nat)(d b:Zi)(n:Int)(t:Zi)(h:Zk)(g:Nat)(f:Zl)(a:Int)(w:Zh)(j:¬(1<=a/\a<=8)):
 D8 74 #[ct (Gt k d b n t h (eh f) g),Zg a] w λe c=>e=C5 (ef (De k d b n t f a))/\Zz w c:=by
 have c:Hid (bx (1<=a/\a<=8)=bq):=gH;by_cases hw1:1<=a
 .have i:bx (a<=8)=bq:=Yt;delta D8;go_in;go_wp2;go_ret;exact⟨AH (by unfold De;rw[c.o];rfl),Zy⟩
 delta D8;go_in;go_wp2;go_ret;exact⟨AH (by unfold De;rw[c.o];rfl),Zy⟩
theorem Pu{a:Zl}(b:t.size=0):((eh a:Int)==0)=(bg&&(bg&&(bg&&IN bq t a c))):=by
 unfold IN;rw[if_neg Yq];by_cases hs0:eh a=0
 .rw[decide_eq_true ⟨b,hs0⟩];simp[hs0]
 rw[decide_eq_false (λh=>hs0 h.2)];simp;intro h;exact gA
theorem Pv{b:Zl}(a:¬t.size=0):bq=(bg&&(bg&&(bg&&IN bq t b c))):=by unfold IN;rw[if_neg Yq,decide_eq_false (λh=>a h.1)];rfl
theorem Rz(k:Nat)(c a:Zi)(n:Int)(t:Zi){m:Zk}(l:Nat)(d:Int)(z:1<=k)(A:k<=7)(D:1<=d)(E:d<=8)(j:Ab w w.1.size m i)(s:eh i<=1048576)(u:t.size<=ew)(B:a.size<=ew):
 D8 74 #[ct (Gt k c a n t m (eh i) l),Zg d] w λe b=>e=C5 (ef (De k c a n t i d))/\Zz w b:=by
 have b:bs w.1.size w (w.alloc (ca (Gt k c a n t m (eh i) l) 91)):=gB;have y:Hid (bx (1<=d/\d<=8)=bg):=gH;have F:bx ((k:Int)<1)=bq:=Yt;have G:bx ((7:Int)<k)=bq:=Yt;have HU:=Wn k;have f:=Wo k n;unfold De;rw[y.o,Bool.true_and];generalize Kj k=kn at *
 generalize Eu (CG k) n=nu at *
 generalize hks:Ea k=us at *
 generalize hkn:DC k=un at *
 generalize hkt:CQ k=ut at *
 have x:=Yw HU;have v:=Yw f;clear HU f hks hkn hkt;delta D8;go_in;go_wp2_with (go_at_call 17;go_in);refine(x _ z A).ai ?_;rintro e H ⟨rfl,rfl⟩;cases us
 case' true=>
  by_cases hs:(c.size:Int)=d
  case' neg=>
   have p:((c.size:Int) !=d)=bg:=Yt;have f:Hid (Et bg c d=bq):=K8;clear hs;go_wp2;go_ret;exact⟨AH (by rw[f.o];rfl),b⟩
  case' pos=>
   have p:((c.size:Int) !=d)=bq:=Yt;have f:Hid (Et bg c d=bg):=K8;clear hs
 case' false=>
  by_cases hs:c.size=0
  case' neg=>
   have p:c.toList.isEmpty=bq:=(by rw[ND];simpa using hs);have f:Hid (Et bq c d=bq):=K8;clear hs;go_wp2;go_ret;exact⟨AH (by rw[f.o];rfl),b⟩
  case' pos=>
   have p:c.toList.isEmpty=bg:=gA;have f:Hid (Et bq c d=bg):=K8;clear hs
 all_goals
  go_wp2_with fail;refine(v _).ai ?_;rintro e I ⟨rfl,rfl⟩;cases nu with
  |false=>go_wp2;go_ret;exact⟨AH Yu,b⟩
  |true=>
   cases un with
   |true=>
    go_wp2_with fail;refine(Ns a _ B).ai ?_;rintro e J ⟨rfl,rfl⟩;cases hno:CP a with
    |false=>go_wp2;go_ret;exact⟨AH (by simp[IM,hno]),b⟩
    |true=>
     have g:Hid (IM bg a=bg):=hno;clear hno;cases ut with
     |true=>go_wp2_with fail;refine(DT t l d (j.X b) s u).ai ?_;rintro e C ⟨rfl,o⟩;go_wp2;go_ret;exact⟨AH (by rw[f.o,g.o];rfl),b.ag (o.ai Yu)⟩
     |false=>
      by_cases h0:t.size=0
      .have r:t.toList.isEmpty=bg:=gA;have h:=Yw h0;clear h0;go_wp2;go_ret;exact⟨AH (by rw[f.o,g.o];exact Pu h),b⟩
      have r:t.toList.isEmpty=bq:=by rw[ND];simpa using h0
      have h:=Yw h0;clear h0;go_wp2;go_ret;exact⟨AH (by rw[f.o,g.o];exact Pv h),b⟩
   |false=>
    by_cases hno:a.size=0
    .have q:a.toList.isEmpty=bg:=gA;have g:Hid (IM bq a=bg):=by show _=_;simpa [IM]using hno
     clear hno;cases ut with
     |true=>go_wp2_with fail;refine(DT t l d (j.X b) s u).ai ?_;rintro e C ⟨rfl,o⟩;go_wp2;go_ret;exact⟨AH (by rw[f.o,g.o];rfl),b.ag (o.ai Yu)⟩
     |false=>
      by_cases h0:t.size=0
      .have r:t.toList.isEmpty=bg:=gA;have h:=Yw h0;clear h0;go_wp2;go_ret;exact⟨AH (by rw[f.o,g.o];exact Pu h),b⟩
      have r:t.toList.isEmpty=bq:=(by rw[ND];simpa using h0);have h:=Yw h0;clear h0;go_wp2;go_ret;exact⟨AH (by rw[f.o,g.o];exact Pv h),b⟩
    have q:a.toList.isEmpty=bq:=(by rw[ND];simpa using hno);have g:Hid (IM bq a=bq):=(by show _=_;simpa [IM]using hno);clear hno;go_wp2;go_ret;exact⟨AH (by rw[g.o];simp),b⟩
def u8(x:Int):UInt8:=UInt8.ofNat x.toNat
theorem Hs(x:Int)(a:0<=x)(h:x<256):int .u8 x=.int .u8 ((u8 x).toNat:Int):=by
 have:(u8 x).toNat=x.toNat:=by simp[u8];omega
 rw[this];congr 1;omega
def Di(k n m:Int):List UInt8:=[u8 k,u8 (n/16777216),u8 (n/65536%256),u8 (n/256%256),u8 (n%256),u8 m]
def Ev(k:Nat)(sum name:Zi)(n:Int)(t:Zi)(ss:Zl):List UInt8:=
 Di k n name.size++name.data.toList++sum.data.toList++(if k=1 then BX t ss else [])
theorem IC{P:Program}(w:Zh){l:Array Oper}{o:Oper}{a:Act}{K:Act->Zh->Prop}{Q:Exit->Act->Zh->Prop}{E:Prop}(y:o.guard=ba)(p x:Operand)(t u:TypeId)(C:o.op=.call {callee:=.builtin .append,args:= #[p,x],argTypes:= #[t,u]})(b:Nat)(e:TypeId)(i:TypeInfo)(G:P.underlying t=an (.slice e))(H:P.underlying u=an .string)(B:P.info? e=an i)(L:i.zero=an (.int .u8 0))(f:i.size=1)(r:i.bytes=1)(v:D4)(n:Nat)(m:Zj)(F:a.eval p=v)(k:eo w b e 1 v n m)(s:Zi)(J:a.eval x=C4 s)(q:n+s.size<=ew)(c:n+s.size<=140737488355328)(d:b<=w.1.size)(h:∀j g,eo g b e 1 j (n+s.size) (m++Lib.strCells s)->ep w g (ej v)->K (a.put o.dst j) g):
 if Region.wanted o (yielded l a.tmps)=bg then Oper.wp P o a w K Q else E:=by
 have I:Region.wanted o (yielded l a.tmps)=bg:=by simp[Region.wanted,y]
 rw[if_pos I];obtain⟨j,g,D,z,A,_⟩:=Lib.run_append_own_string (P:=P) w b t u o.type e i G H B L f r v n m k s q c d;unfold Oper.wp execOp;simp only[C,resolve,invoke,builtin,Sem.run_bind,Sem.run_pure,Result.andThen_ok,map_toArray,map_cons,map_nil,F,J,D];exact h j g z A
structure YB (k:Nat) (sum name:Zi) (n:Int) (t:Zi) (ss:Zl) (wd:Int):Prop where
 w1:1<=wd
 w2:wd<=8
 sum:sum.size<=8
 name:name.size<=40
 n0:0<=n
 n1:n<=1000000000
 fh:k=1->AL t ss wd=bg
theorem GB{e a:Zi}{f:Zl}(h:De k e a n t f g=bg):YB k e a n t f g:=by
 unfold De at h;simp only[Bool.and_eq_true,decide_eq_true_eq]at h;obtain⟨⟨i,j⟩,d,b,c,m⟩:=h;refine⟨i,j,?_,?_,?_,?_,?_⟩
 .unfold Et at d;split at d<;>simp at d
  .omega
  simp[d]
 .unfold IM at b;split at b
  .unfold CP at b;simp at b;omega
  simp at b;simp[b]
 .unfold Eu at c;split at c<;>simp at c<;>omega
 .have o:CG k<=1000000000:=by
   unfold CG;split
   .omega
   split<;>omega
  unfold Eu at c;split at c<;>simp at c<;>omega
 intro l;subst l;exact m
theorem Uh:(prog.info? 5).map (λi=>(i.zero,i.size,i.bytes))=an (an (.int .u8 0),1,1):=Yr
theorem Ui(k n m:Int)(a:0<=k)(c:k<256)(e:0<=n)(f:n<=1000000000)(b:0<=m)(d:m<256):
 [int .u8 k,.int .u8 (n/16777216),.int .u8 (n/65536%256),.int .u8 (n/256%256),.int .u8 (n%256),.int .u8 m]=Lib.byteCells (Di k n m):=by
 rw[Hs k a c,Hs (n/16777216) Yv Yv,Hs (n/65536%256) Yv Yv,Hs (n/256%256) Yv Yv,Hs (n%256) Yv Yv,Hs m b d];rfl
theorem RC{a:Nat}{e:TypeId}{n:Nat}{d:Zj}(h:eo w a e 1 v n d)(f:b<a):an b≠ej v:=by intro c;have:=(h.lt b c.symm).1;omega
theorem Uj(k:Nat)(c b:Zi)(n:Int)(t:Zi){x:Zk}(o:Nat){d:Zl}(J:Int)(h1:1<=k)(h7:k<=7)(i:Ab w w.1.size x d)(hl:eh d<=1048576)(ht:t.size<=ew)(l:De k c b n t d J=bg):
 D8 43 #[ct (Gt k c b n t x (eh d) o),Zg J] w λe f=>e=C5 (C4 ⟨ei (Ev k c b n t d)⟩)/\Zz w f:=by
 have hp:=GB l;obtain⟨zA,zB,zC,U,X,Y,B⟩:=hp;have⟨R,Q,H,I,s⟩:=info_parts Uh;have m:bs w.1.size w (w.alloc (ca (Gt k c b n t x (eh d) o) 91)):=gB;delta D8;go_in;go_wp2_with fail;refine(Rz k c b n t o J h1 h7 zA zB (i.X m) hl ht Yo).ai ?_;rintro e g ⟨rfl,h⟩;rw[l];have hz:=h.size;simp at hz;have f:w.1.size<g.1.size:=Yv;have E:=m.ag (h.ai Yu);have K:ek g (Zd (w.1.size) 0)=an (Zg k):=by rw[h.cell (p:=⟨w.1.size,0,ba⟩) Yu];simp
 have L:ek g (Zd (w.1.size) 1)=an (C4 c):=by rw[h.cell (p:=⟨w.1.size,1,ba⟩) Yu];simp
 have T:ek g (Zd (w.1.size) 2)=an (C4 b):=by rw[h.cell (p:=⟨w.1.size,2,ba⟩) Yu];simp
 have x3:ek g (Zd (w.1.size) 3)=an (Zg n):=by rw[h.cell (p:=⟨w.1.size,3,ba⟩) Yu];simp
 have M:ek g (Zd (w.1.size) 4)=an (C4 t):=by rw[h.cell (p:=⟨w.1.size,4,ba⟩) Yu];simp
 have N:ek g (Zd (w.1.size) 5)=an (C2 x d o):=by rw[h.cell (p:=⟨w.1.size,5,ba⟩) Yu];simp
 have C:=i.A E;have V:=Yw l;clear l B i h m;have⟨v,h⟩:=D6 g #[.int .u8 k,.int .u8 (n/16777216),.int .u8 (n/65536%256),.int .u8 (n/256%256),.int .u8 (n%256),.int .u8 b.size] 5;have z:eo v g.1.size 5 1 (Yz g.1.size 6 6) 6 (Lib.byteCells (Di k n b.size)):=by rw[h,<-Ui k n b.size Yv Yv X Y Yv Yv];exact ownsRow_lit g _ 6 (Zx) (by simp[ew]) rfl
 have i:bs g.1.size g v:=gB;have zK:=i.size;have HW:=Yw h;clear h;go_wp2;rw[<-HW.o];have K:ek v (Zd (w.1.size) 0)=an (Zg k):=(i.cell (p:=⟨w.1.size,0,ba⟩) f).ag K;have L:ek v (Zd (w.1.size) 1)=an (C4 c):=(i.cell (p:=⟨w.1.size,1,ba⟩) f).ag L;have T:ek v (Zd (w.1.size) 2)=an (C4 b):=(i.cell (p:=⟨w.1.size,2,ba⟩) f).ag T;have M:ek v (Zd (w.1.size) 4)=an (C4 t):=(i.cell (p:=⟨w.1.size,4,ba⟩) f).ag M;have N:ek v (Zd (w.1.size) 5)=an (C2 x d o):=(i.cell (p:=⟨w.1.size,5,ba⟩) f).ag N;have h:=RC z f
 go_region_law (first
  |(refine IC _ rfl (.tmp 35) (.tmp 37) 22 9 rfl g.1.size 5 R underlying22 underlying9 Q H I s _ 6 (Lib.byteCells (Di k n b.size)) rfl (by exact z) b rfl Yo Yv Yt ?_;intro v3 w3 A l;have j:=l.cell (a:=⟨w.1.size,1,ba⟩) (by exact L) h)
  |(refine IC _ rfl (.tmp 38) (.tmp 40) 22 9 rfl g.1.size 5 R underlying22 underlying9 Q H I s _ (6+b.size) (Lib.byteCells (Di k n b.size)++Lib.strCells b) rfl A c rfl Yo Yv (by have:=l.size;simp at this;omega) ?_;intro v4 S r q))
 all_goals
  obtain⟨m,W,zM⟩:=RC A f,l.size,q.size;simp at W;have z0:=q.cell (a:=⟨w.1.size,0,ba⟩) (l.cell (a:=⟨w.1.size,0,ba⟩) (by exact K) h) m;have z4:=q.cell (a:=⟨w.1.size,4,ba⟩) (l.cell (a:=⟨w.1.size,4,ba⟩) (by exact M) h) m;have z5:=q.cell (a:=⟨w.1.size,5,ba⟩) (l.cell (a:=⟨w.1.size,5,ba⟩) (by exact N) h) m;have O:bs g.1.size g S:=((i.drew).grown l Yt (λk y=>(z.lt k y).1)).grown q Yv (λk y=>(A.lt k y).1);have⟨g4,c4,Z,zG,zH⟩:=r.form Yv;subst Z;have u:Lib.byteCells (Di k n b.size)++Lib.strCells b++Lib.strCells c=Lib.byteCells (Di k n b.size++b.data.toList++c.data.toList):=by rw[Lib.strCells_eq,Lib.strCells_eq,<-Lib.byteCells_append,<-Lib.byteCells_append]
  rw[u]at r;have G:=E.ag (O.ai E.size);have D:=C.A (O.ai Yv);clear u l q A K L T M N j z i h m;by_cases hk1:k=1
  .subst hk1;have B:=(GB V).fh rfl;have q:=BC B;obtain⟨zF,zJ,zI⟩:=q.bn,q.i,q.D;go_wp2_with fail;refine(No t x o d J S (D.ai Yv) B).ai ?_;rintro e w5 ⟨rfl,h⟩;have m:=r.kept (row:=ba) ⟨h.os,h.tape,h.output,h.size,λk y _=>h.block k y⟩ (eb H0);have zN:=h.size;have K:eh (BX t d)<=3000:=(by have:=DK d;simp[BX,this];omega);have i:(ByteArray.mk (ei (BX t d))).size=eh (BX t d):=(by simp[ByteArray.size]);have l:=Yw i;clear i;have⟨F,i⟩:=Ag (ByteArray.mk (ei (BX t d)));rw[<-i]at l |-;have zE:F.size<=3000:=(by rw[l.o];exact K);have HF:=Yw i;clear i;go_wp2_with (at_builtin;refine Lib.wpList_append_own_string _ rfl _ _ 22 9 rfl g.1.size 5 R underlying22 underlying9 Q H I s _ _ _ rfl m F rfl ?c3 ?c4 ?c5 ?_)
   case c3=>unfold ew;omega
   case c4=>omega
   case c5=>omega
   intro v6 w6 i L _;have⟨g6,c6,M,N,T⟩:=i.form Yv;subst M;have z:=(h.ai G.size).grown L Yv (λk y=>Dl (m.lt k y).1);have u:Lib.byteCells (Di 1 n b.size++(b.data.toList++c.data.toList))++Lib.strCells F=Lib.byteCells (Ev 1 c b n t d):=(by rw[Lib.strCells_eq,<-Lib.byteCells_append,HF.o];unfold Ev;rw[if_pos rfl];simp[append_assoc]);rw[u]at i;have hlen:6+b.size+c.size+F.size=eh (Ev 1 c b n t d):=(by rw[l.o];simp[Ev,Di];omega);rw[hlen]at i |-;have A:=run_convert_bytes_back (P:=prog) w6 22 9 5 ⟨g6,0,ba⟩ c6 (Ev 1 c b n t d) underlying22 underlying5 underlying9 (λj y=>i.cells rfl j _ (by simp[Lib.byteCells,y]));clear i m u;go_wp2;go_ret;exact⟨rfl,G.ag z⟩
  have m:((k:Int)==1)=bq:=Yt;have hlen:6+b.size+c.size=eh (Ev k c b n t d):=by unfold Ev;rw[if_neg hk1];simp[Di];omega
  have i:Di k n b.size++b.data.toList++c.data.toList=Ev k c b n t d:=by unfold Ev;rw[if_neg hk1,append_nil]
  rw[i,hlen]at r;rw[hlen];have A:=run_convert_bytes_back (P:=prog) S 22 9 5 ⟨g4,0,ba⟩ c4 (Ev k c b n t d) underlying22 underlying5 underlying9 (λj y=>r.cells rfl j _ (by simp[Lib.byteCells,y]));clear r i;go_wp2;go_ret;exact⟨rfl,G⟩
def Cn(k:Int)(sum name:Zi)(n:Int)(t:Zi)(ss:Zl)(wd:Int):Bool:=bx (1<=k/\k<=7)&&De k.toNat sum name n t ss wd
theorem Wq(k:Int)(b a:Zi)(n:Int)(t:Zi){g:Zk}(f:Nat){c:Zl}(d:Int)(h:Ab w w.1.size g c)(i:eh c<=1048576)(l:t.size<=ew)(j:a.size<=ew):
 D8 74 #[ct (Gt k b a n t g (eh c) f),Zg d] w λe o=>e=C5 (ef (Cn k b a n t c d))/\Zz w o:=by
 unfold Cn;by_cases hk:1<=k/\k<=7
 .obtain⟨m,rfl⟩:∃m:Nat,k=m:=⟨k.toNat,Yv⟩;rw[decide_eq_true hk,Bool.true_and,Int.toNat_natCast];by_cases hw:1<=d/\d<=8
  .exact Rz m b a n t f d Yv Yv hw.1 hw.2 h i l j
  exact Ug m b a n t g f c d w hw
 rw[decide_eq_false hk,Bool.false_and];exact Wp k b a n t g f c d w hk
theorem Afb(k:Int)(c a:Zi)(n:Int)(t:Zi){f:Zk}(d:Nat){b:Zl}(g:Int)(hT:Mg w)(h:Ab w w.1.size f b)(i:eh b<=1048576)(l:t.size<=ew)(j:a.size<=ew):
 D8 129 #[ct (Gt k c a n t f (eh b) d),Zg g] w λe o=>e=C5 (ef (Cn k c a n t b g))/\Zz w o:=by
 unfold Cn;by_cases hk:1<=k/\k<=7
 .obtain⟨m,rfl⟩:∃m:Nat,k=m:=⟨k.toNat,Yv⟩;rw[decide_eq_true hk,Bool.true_and,Int.toNat_natCast];exact SB m c a n t d g hT Yv Yv h i l j
 rw[decide_eq_false hk,Bool.false_and];exact QQ k c a n t f d b g w hk
def Cv(k:Int)(sum name:Zi)(n:Int)(t:Zi)(ss:Zl)(wd:Int):Zi:=if Cn k sum name n t ss wd=bg then ⟨ei (Ev k.toNat sum name n t ss)⟩else ByteArray.empty
theorem Afc:prog.cellsOf 3=1:=Yr
section
open Go.RowKit Go.Extern.Stop Go.Stop Go.Extern
def ID(w:Zh):Prop:=ek w (Zd 4 0)=an (.iface 225 (ct #[ee (an ⟨9,154,ba⟩)]))
theorem ID.A{a:Zh}(h:ID w)(b:Zz w a):ID a:=by unfold ID at h |-;exact(b.cell (p:=⟨4,0,ba⟩) (Bf w _ h)).ag h
theorem Abw(t:D4)(w:Zh):
 D8 95 #[.nilIface,t] w λe a=>e=C5 (ef bq)/\a=w:=by
 delta D8;go_in;go_wp2;go_ret;exact⟨rfl,rfl⟩
abbrev rt(t:Nat):Value:=ct #[ee (an ⟨9,t,ba⟩)]
abbrev rv(t:Nat)(a:Addr)(f:Int):Value:=ct #[ee (an ⟨9,t,ba⟩),ee (an a),.int .u64 f]
theorem Ws(t:Addr)(w:Zh):(ReflectliteValue.unpack (.iface 160 (ee (an t)))).run prog w
 =.ok (rv 160 ⟨w.1.size,0,ba⟩ 150) (w.alloc (ca #[ee (an t)] 160)):=Yr
theorem Wt(e:Addr)(w:Zh):(ReflectliteValue.unpack (.iface 158 (ee (an e)))).run prog w
 =.ok (rv 158 ⟨w.1.size,0,ba⟩ 150) (w.alloc (ca #[ee (an e)] 158)):=Yr
theorem Abx(a:Addr)(w:Zh):(ReflectliteValue.methodAny (ReflectliteValue.valueError "reflectlite.Value.Type" 0) (λt _ _ _=>ReflectliteType.toType t) #[rv 160 a 150]).run prog w
 =.ok (.iface 225 (rt 160)) w:=Yr
theorem ZQ(h:Value)(w:Zh):(Go.method 420 225 (ct #[h]) "Kind").run prog w=.ok (235,h) w:=Yr
theorem ZR(h:Value)(w:Zh):(Go.method 420 225 (ct #[h]) "Elem").run prog w=.ok (248,ct #[h]) w:=Yr
theorem ZS(h:Value)(w:Zh):(Go.method 420 225 (ct #[h]) "Implements").run prog w=.ok (249,ct #[h]) w:=Yr
theorem Aby(h:D4)(w:Zh):(Go.method 420 225 (ct #[h]) "AssignableTo").run prog w=.ok (246,ct #[h]) w:=Yr
theorem ZT(w:Zh):((ReflectliteType.abiMethod fun t=>(fun a:Nat=>Value.int IntKind.u8 (a:Int))<$>Rtype.kind t) #[Yx 9 160]).run prog w=.ok (.int .u8 22) w:=Yr
theorem ZU(w:Zh):((ReflectliteType.abiMethod fun t=>(fun a:Nat=>Value.int IntKind.u8 (a:Int))<$>Rtype.kind t) #[Yx 9 158]).run prog w=.ok (.int .u8 22) w:=Yr
theorem Abz(w:Zh):(ReflectliteType.method ReflectliteType.elem #[rt 160]).run prog w=.ok (.iface 225 (rt 158)) w:=Yr
theorem Aca(w:Zh):(ReflectliteType.relation "Implements" ReflectliteType.implements_ #[rt 158,.iface 225 (rt 154)]).run prog w=.ok (ef bg) w:=Yr
theorem Wu(v:D4)(w:Zh):(ReflectliteType.typeOf #[.iface 158 v]).run prog w=.ok (.iface 225 (rt 158)) w:=Yr
theorem Adw(w:Zh):(ReflectliteType.relation "AssignableTo" ReflectliteType.assignableTo #[rt 158,.iface 225 (rt 158)]).run prog w=.ok (ef bg) w:=Yr
theorem Wv(w:Zh):(Rtype.elem? 160).run prog w=.ok (an 158) w:=Yr
theorem Afd(p:Addr)(w:Zh):(ReflectliteValue.mk 158 p ReflectliteValue.flagAddr).run prog w=.ok (rv 158 p 406) w:=Yr
theorem Pw(a:Addr)(w:Zh):(ReflectliteValue.parts (rv 160 a 150)).run prog w=.ok (an (160,a,150)) w:=Yr
theorem Ww(a:Addr)(w:Zh):(ReflectliteValue.parts (rv 158 a 406)).run prog w=.ok (an (158,a,406)) w:=Yr
theorem Wx(a:Addr)(w:Zh):(ReflectliteValue.parts (rv 158 a 150)).run prog w=.ok (an (158,a,150)) w:=Yr
theorem Wy(w:Zh):(Rtype.directlyAssignable 158 158).run prog w=.ok bg w:=Yr
theorem Uk(z:Sem Value)(f:TypeId->Addr->Nat->Nat->Sem Value)(v:D4):
 ReflectliteValue.method z f #[v]=(do match <-ReflectliteValue.parts v with|none=>z|some (t,a,fl)=>f t a fl (fl%32)):=rfl
theorem ZV(a p:Addr)(W:Zh)(b:W.cell? a=an (ee (an p))):
 (ReflectliteValue.method (ReflectliteValue.valueError "reflectlite.Value.IsNil" 0) ReflectliteValue.isNil #[rv 160 a 150]).run prog W=.ok (ef bq) W:=by
 rw[Uk];simp only[Sem.run_bind,Pw,Result.andThen];simp[ReflectliteValue.isNil,loadVar,isAgg,underlying,underlying160,b,Result.andThen]
theorem ZX(a p:Addr)(W:Zh)(b:W.cell? a=an (ee (an p))):
 (ReflectliteValue.method (ReflectliteValue.valueError "reflectlite.Value.Elem" 0) ReflectliteValue.elem #[rv 160 a 150]).run prog W=.ok (rv 158 p 406) W:=by
 rw[Uk];simp only[Sem.run_bind,Pw,Result.andThen];simp[ReflectliteValue.elem,loadVar,isAgg,underlying,underlying160,b,Result.andThen,Wv,Afd]
theorem Acb(v x:D4):ReflectliteValue.set #[v,x]=(do
 let (an (dst,a,fl),an (src,b,_)):=(<-ReflectliteValue.parts v,<-ReflectliteValue.parts x)
  |unsupported (.noEntry "extern/(internal/reflectlite.Value).Set.zeroValue")
 if fl/ReflectliteValue.flagAddr%2==0 then unsupported (.noEntry "extern/(internal/reflectlite.Value).Set.unaddressable")
 let val <-loadVar src b
 if <-Rtype.directlyAssignable dst src then storeVar dst a val
 else if <-Rtype.implements dst src then
  if (<-Rtype.kind src)==20 then
   match val with
   |.nilIface=>unsupported (.noEntry "extern/reflectlite: a nil value of one interface type handed on as a value of another")
   |_=>storeVar dst a val
  else storeVar dst a (.iface src val)
 else panicString ("reflectlite.Set: value of type " ++(<-Rtype.spelt src)++ " is not assignable to type " ++(<-Rtype.spelt dst))
 pure (.tuple #[])):=rfl
theorem Adx(a b e:Addr)(c:D4)(W:Zh)(d:ek W b=an (ee (an e)))(g:ek W a=an c)(f:el W a=bq):
 (ReflectliteValue.set #[rv 158 a 406,rv 158 b 150]).run prog W=.ok (.tuple #[]) (W.setCell a (ee (an e))):=by
 rw[Acb];simp only[Sem.run_bind,Ww,Wx,Result.andThen];simp[ReflectliteValue.flagAddr,loadVar,isAgg,underlying,underlying158,d,Result.andThen,Wy,storeVar,Value.cells,storeCells,Addr.add];rw[run_store prog W a _ _ Yp];simp[g,f]
theorem Acd(e:Addr)(a:Nat)(h:D4)(k:ID w)(g:w.cell? (Zd a 0)=an h)(l:w.frozen? ⟨a,0,ba⟩=bq):
 D8 95 #[.iface 158 (ee (an e)),.iface 160 (Yy a)] w λb c=>b=C5 (ef bg)/\bs a w c:=by
 have x:= @run_callFunc_extern prog 130 _ (λargs=>ReflectliteValue.unpack (args.getD 0 (.tuple #[]))) func130 Yr Yr Yr Yr;have y:= @run_callFunc_extern prog 131 _ (ReflectliteValue.methodAny (ReflectliteValue.valueError "reflectlite.Value.Type" 0) (λt _ _ _=>ReflectliteType.toType t)) func131 Yr Yr Yr Yr;have z:= @run_callFunc_extern prog 132 _ (ReflectliteValue.method (ReflectliteValue.valueError "reflectlite.Value.IsNil" 0) ReflectliteValue.isNil) func132 Yr Yr Yr Yr;have A:= @run_callFunc_extern prog 235 _ (ReflectliteType.abiMethod λt=>do pure (.int .u8 (<-Rtype.kind t))) func235 Yr Yr Yr Yr;have B:= @run_callFunc_extern prog 248 _ (ReflectliteType.method ReflectliteType.elem) func248 Yr Yr Yr Yr;have C:= @run_callFunc_extern prog 249 _ (ReflectliteType.relation "Implements" ReflectliteType.implements_) func249 Yr Yr Yr Yr;have D:= @run_callFunc_extern prog 155 _ ReflectliteType.typeOf func155 Yr Yr Yr Yr;have E:= @run_callFunc_extern prog 246 _ (ReflectliteType.relation "AssignableTo" ReflectliteType.assignableTo) func246 Yr Yr Yr Yr;have F:= @run_callFunc_extern prog 156 _ (ReflectliteValue.method (ReflectliteValue.valueError "reflectlite.Value.Elem" 0) ReflectliteValue.elem) func156 Yr Yr Yr Yr;have n:= @run_callFunc_extern prog 157 _ ReflectliteValue.set func157 Yr Yr Yr Yr;have H:=Wu;have I:=Aby;have J:=Adw;have K:=Wt;have L:=Ws;have M:=Abx;have N:=ZQ;have O:=ZR;have P:=ZS;have q:=ZT;have r:=ZU;have s:=Abz;have u:=Aca;have m:4<w.1.size:=Bf w _ k;have b:a<w.1.size:=Bf w ⟨a,0,ba⟩ g;have i:bs w.1.size w (w.alloc (ca #[Yy a] 160)):=gB;have c:=i.alloc i.size (ca #[Yx 9 160,Yy w.1.size,.int .u64 150] 196);have j:=c.alloc c.size (ca #[Yx 9 160,Yy w.1.size,.int .u64 150] 196);have d:=j.alloc j.size (ca #[ee (an e)] 158);have G:=ZV ⟨w.1.size,0,ba⟩ ⟨a,0,ba⟩ ((w.alloc (ca #[Yy a] 160)).alloc (ca #[Yx 9 160,Yy w.1.size,.int .u64 150] 196)) Yu;have o:((w.alloc (ca #[Yy a] 160)).alloc (ca #[Yx 9 160,Yy w.1.size,.int .u64 150] 196)).cell? (Zd 4 0)=an (.iface 225 (ct #[Yx 9 154])):=(c.cell (p:=⟨4,0,ba⟩) m).ag k;have v:=ZX ⟨w.1.size,0,ba⟩ ⟨a,0,ba⟩ (((w.alloc (ca #[Yy a] 160)).alloc (ca #[Yx 9 160,Yy w.1.size,.int .u64 150] 196)).alloc (ca #[Yx 9 160,Yy w.1.size,.int .u64 150] 196)) (by rw[cell?_alloc_lt _ _ ⟨w.1.size,0,ba⟩ Yt];simp);have Q:=Adx ⟨a,0,ba⟩ ⟨w.1.size+1+1+1,0,ba⟩ e h ((((w.alloc (ca #[Yy a] 160)).alloc (ca #[Yx 9 160,Yy w.1.size,.int .u64 150] 196)).alloc (ca #[Yx 9 160,Yy w.1.size,.int .u64 150] 196)).alloc (ca #[ee (an e)] 158))
  (by rw[cell?_alloc_at _ _ _ _ Yu];rfl)
  ((d.cell (p:=⟨a,0,ba⟩) b).ag g)
  ((d.frozen (p:=⟨a,0,ba⟩) b).ag l)
 have f:=(d.ai (Nat.le_of_lt b)).setCell (show a<=(⟨a,0,ba⟩:Addr).block from Nat.le_refl a) (ee (an e));clear i c j d;have c:=Yw f;clear f;delta D8;go_in;go_wp2;refine wp_loop_rounds 1 ?_;rw[rounds_succ];go_wp2;go_ret;exact⟨rfl,c⟩
end
theorem Cj(b:UInt8):wrap64 (b.toNat:Int)=(b.toNat:Int):=by have h:=b.toNat_lt;simp[wrap64];omega
theorem EZ(x:Int)(h: -9223372036854775808<=x)(a:x<9223372036854775808):IntKind.i64.wrap x=x:=G7
theorem Ul{n:Nat}(b:1<=a)(c:k<n):0<=(k:Int) *a/\(k:Int) *a<=(n:Int) *a/\((k:Int)+1) *a=(k:Int) *a+a/\(k:Int) *a+a<=(n:Int) *a:=by refine⟨Int.mul_nonneg Yv Yv,Int.mul_le_mul_of_nonneg_right Yv Yv,by rw[Int.add_mul,Int.one_mul],?_⟩;have:((k:Int)+1) *a<=(n:Int) *a:=Int.mul_le_mul_of_nonneg_right Yv Yv;rw[Int.add_mul,Int.one_mul]at this;exact this
theorem KI{n:Nat}(e:n<256)(b:1<=a)(c:a<=8):0<=(n:Int) *a/\(n:Int) *a<=2040:=by refine⟨Int.mul_nonneg Yv Yv,?_⟩;have d:(n:Int) *a<=255 *a:=Int.mul_le_mul_of_nonneg_right Yv Yv;omega
def DM(s:Zi)(wd:Int)(n:Nat):Zi:=(s.extract 1 s.size).extract ((n:Int) *wd).toNat (s.size -1)
def Kk(s:Zi)(wd:Int)(i:Nat):Zi:=(s.extract 1 s.size).extract ((i:Int) *wd).toNat ((i:Int) *wd+wd).toNat
def BQ(s:Zi)(wd:Int)(k:Nat):Zl:=(List.range k).map (Kk s wd)
theorem Cw(s:Zi)(a:Int)(k:Nat):eh (BQ s a k)=k:=by simp[BQ]
theorem SC(s:Zi)(a:Int)(k:Nat):(BQ s a k).map string++[C4 (Kk s a k)]=(BQ s a (k+1)).map string:=by simp[BQ,range_succ]
theorem IE{c:Zh}{a:Option Nat}{x:D4}(f:ep (wr.alloc o).drew c a)(b:ek wr p=an x)(e:an p.block≠a):ek c p=an x:=by refine f.cell ?_ e;have d:=Bf wr p b;exact(cell?_alloc_lt wr o p d).ag b
theorem La{b:Zh}{a:Option Nat}(f:ep (wr.alloc o).drew b a)(c:p.block<wr.1.size)(d:an p.block≠a):el b p=el wr p:=by have e:=frozen?_of_block (f.block p.block Yt d);rw[e];exact frozen?_alloc_old wr o p (Nat.ne_of_lt c)
theorem Um{a:Nat}{e:TypeId}{n:Nat}{d:Zj}(h:eo w a e 1 v n d)(f:b<a):an b≠ej v:=by intro c;have:=(h.lt b c.symm).1;omega
theorem Ei{ss:Zl}(h:eo w b 9 1 v (eh ss) (ss.map string)):∃a c,v=.slice a (eh ss) c/\Ab w w.1.size a ss:=by
 rcases h.2 with⟨d,e⟩|⟨g,c,f,d,_⟩
 .exact⟨ba,0,by rw[d,e],dp (B8 e)⟩
 subst d;exact⟨_,_,rfl,Ab.own h⟩
theorem NE{e:Int}{b:Zh}{g a:Nat}{cj:Zi}(n:w.1.size+1<wr.1.size)(h:eo wr (w.1.size+2) 9 1 v k ((BQ s e k).map string))(f:bs (w.1.size+1) W wr)(d:eo b (w.1.size+2) 9 1 (Yz g (k+1) a) (k+1) ((BQ s e k).map string++[C4 (Kk s e k)]))(c:ep (wr.alloc o).drew b (ej v))(i:ek b (Zd (w.1.size+1) 0)=an (C4 cj))(m:ek b (Zd (w.1.size+1) 1)=an v)(j:el b ⟨w.1.size+1,1,ba⟩=bq):
 ek (ev b (Zd (w.1.size+1) 1) (Yz g (k+1) a)) (Zd (w.1.size+1) 0)=an (C4 cj)/\
 ek (ev b (Zd (w.1.size+1) 1) (Yz g (k+1) a)) (Zd (w.1.size+1) 1)=an (Yz g (k+1) a)/\
 el (ev b (Zd (w.1.size+1) 1) (Yz g (k+1) a)) ⟨w.1.size+1,1,ba⟩=bq/\
 eo (ev b (Zd (w.1.size+1) 1) (Yz g (k+1) a)) (w.1.size+2) 9 1 (Yz g (k+1) a) (k+1) ((BQ s e (k+1)).map string)/\
 bs (w.1.size+1) W (ev b (Zd (w.1.size+1) 1) (Yz g (k+1) a)):=by
 refine⟨?_,?_,?_,?_,?_⟩
 .rw[<-i];exact cell?_setCell_other _ _ _ _ Yu
 .exact cell?_setCell_same' _ _ _ gA
 .rw[frozen?_setCell];exact j
 .rw[<-SC];exact ownsRow_setCell_below d Yu _
 exact(((f.alloc Yv o).drew).grown c Yt (λk l=>Dl (h.lt k l).1)).setCell Yu _
theorem Px(h:0<s.size):s.toList.isEmpty=bq:=by
 have:eh s.toList=s.size:=M8
 cases hl:s.toList with
 |nil=>rw[hl]at this;simp at this;omega
 |cons x r=>rfl
theorem Un(s:Zi)(c:Int)(n:Nat)(w:Zh)(hs:s.size<=1048576)(C:1<=c)(W:c<=8)(V:0<s.size)(d:s[0].toNat=n)(P:(n:Int) *c<=s.size -1):
 D8 150 #[C4 s,Zg c] w λe f=>
  (AL (DM s c n) (BQ s c n) c=bg->∃v,e=C5 (.tuple #[ct #[C4 (DM s c n),v],ef bg])/\eo f w.1.size 9 1 v n ((BQ s c n).map string))/\
  (AL (DM s c n) (BQ s c n) c=bq->e=C5 (.tuple #[ct #[Zc,Zb],ef bq]))/\Zz w f:=by
 have⟨Z,X,M,N,O⟩:=info_parts Ck;have t:s.toList.isEmpty=bq:=Px V;have Y:n<256:=by rw[<-d];exact s[0].toNat_lt
 have U:=KI Y C W;have HN:=Yw d;clear d;delta D8;go_in;go_wp2;go_quiet (fail);simp only[Cj];rw[HN.o];go_wp2_with fail;have⟨cj,d⟩:=Ag (DM s c n);rw[show(s.extract 1 s.size).extract ((n:Int) *c).toNat (s.size -1)=cj from d.symm];have q:=Yw d;clear d;go_loopw [37] (λi wr=>∃(k:Nat) (v:D4),k<=n/\i=Zg k/\ek wr (Zd (w.1.size+1) 0)=an (C4 cj)/\ek wr (Zd (w.1.size+1) 1)=an v/\el wr ⟨w.1.size+1,1,ba⟩=bq/\
  eo wr (w.1.size+2) 9 1 v k ((BQ s c k).map string)/\bs (w.1.size+1) (w.alloc (Obj.cells #[C4 ⟨#[]⟩,C3 ba 0 0] 76)) wr) (λi _=>n -(intOf i).toNat)
 case atStart=>exact⟨0,Zb,Aq _,rfl,by simp[go_sem],by simp[go_sem],by simp[go_sem],ownsRow_nil _ _ _ _,(Bx Ae _).alloc Yu _⟩
 obtain⟨k,v,hk,rfl,y,F,J,j,d⟩:=hrel;have K:=d.size;simp at K;by_cases hlt:k<n
 .obtain⟨m1,m2,m3,m4⟩:=Ul C hlt;have e1:=EZ ((k:Int) *c) Yv Yv;have e2:=EZ ((k:Int)+1) Yv Yv;have e3:=EZ ((k:Int) *c+c) Yv Yv;have b2:(k:Int) *c<=(k:Int) *c+c:=Yv;have b3:(k:Int) *c+c<=((s.size -1:Nat):Int):=Yv;go_wp2;have t:=Um j (b:=w.1.size+1) Yv;have o:w.1.size+1<wr.1.size:=Bf wr _ y;go_region_law (refine step_append_lies _ rfl (.tmp 41) (.tmp 51) 23 rfl (w.1.size+2) 9 Z Zc 1 16 underlying23 X M N O rfl Yq v k ((BQ s c k).map string) rfl (ownsRow.alloc j _) ⟨wr.1.size,0,ba⟩ 1 1 [C4 (Kk s c k)] rfl rfl (cell_one_new wr (C4 (Kk s c k)) 9) G3 Yq Yo Yv Yt (wr.1.size+1) Yu ?_;intro g r w1 u f i Q;have G:=IE f y t;have H:=IE f F t;have I:=(La (p:=⟨w.1.size+1,1,ba⟩) f Yt t).ag J)
  all_goals
   have R:=NE o j d u f G H I;have x:=Yw R;go_wp2;refine⟨⟨_,_,_,_,_,_,_,_,_,_,_,_,_,_,_,_,_,_,_,⟨k+1,_,Yv,?_,x.1,x.2.1,x.2.2.1,x.2.2.2.1,x.2.2.2.2⟩,rfl⟩,?_⟩
   .go_num
   simp[intOf];omega
 obtain rfl:k=n:=Yv;have o:w.1.size+1<wr.1.size:=Bf wr _ y;obtain⟨a,r,E,z⟩:=Ei (ss:=BQ s c k) (by rw[Cw];exact j);rw[Cw]at E;subst E;have A:(ek wr (Zd (w.1.size) 0))=an Zc:=by rw[d.cell (p:=⟨w.1.size,0,ba⟩) Yu];simp
 have B:(ek wr (Zd (w.1.size) 1))=an Zb:=I0;have S:el wr ⟨w.1.size,0,ba⟩=bq:=by rw[d.frozen (p:=⟨w.1.size,0,ba⟩) Yu];simp
 have T:el wr ⟨w.1.size,1,ba⟩=bq:=by rw[d.frozen (p:=⟨w.1.size,1,ba⟩) Yu];simp
 have L:cj.size<=ew:=by rw[q.o];simp[DM,ew];omega
 have m:=EJ cj r c z (by rw[Cw];omega) L;rw[Cw]at m;have l:w.1.size<wr.1.size:=Yv
 go_wp2_with fail;refine m.ai ?_;rintro e w2 ⟨rfl,rfl⟩;have D:bs w.1.size w wr:=(Zy).ag (d.ai Yv);cases hok:AL cj (BQ s c k) c with
 |true=>
  go_wp2;refine C1 (.tuple #[ct #[C4 cj,C3 a k r],ef bg]) (by simp[results,results150,go_sem,l,A,B]) ⟨λ_=>⟨C3 a k r,?_,?_⟩,λh=> ?_,?_⟩
  .rw[q.o]
  .exact((ownsRow_setCell_below (ownsRow_setCell_below j Yu _) Yu _).alloc _).ai Yv
  .rw[<-q.o,hok]at h;cases h
  exact((D.setCell Yu _).setCell Yu _).alloc Yt _
 |false=>
  go_wp2;refine C1 (.tuple #[ct #[Zc,Zb],ef bq]) (by simp[results,results150,go_sem,l,A,B]) ⟨λh=> ?_,λ_=>rfl,?_⟩
  .rw[<-q.o,hok]at h;cases h
  exact((D.setCell Yu _).setCell Yu _).alloc Yt _
def Gu(w:Zh)(e:Ending)(w':Zh):Prop:=e=.returned (.tuple #[ct #[Zc,Zb],ef bq])/\Zz w w'
theorem Uo(s:Zi)(a:Int)(w:Zh)(h:¬(1<=a/\a<=8)):
 D8 150 #[C4 s,Zg a] w (Gu w):=by
 by_cases h1:1<=a
 .have b:bx (a<=8)=bq:=Yt;delta D8;go_in;go_wp2;exact C1 (.tuple #[ct #[Zc,Zb],ef bq]) I5 ⟨rfl,Zy⟩
 delta D8;go_in;go_wp2;exact C1 (.tuple #[ct #[Zc,Zb],ef bq]) I5 ⟨rfl,Zy⟩
theorem isEmpty(h:s.size=0):s.toList.isEmpty=bg:=by
 have:eh s.toList=s.size:=M8;rw[isEmpty_iff,<-length_eq_zero_iff];omega
theorem Up(s:Zi)(a:Int)(w:Zh)(d:1<=a)(e:a<=8)(b:s.size=0):
 D8 150 #[C4 s,Zg a] w (Gu w):=by
 have c:=isEmpty b;delta D8;go_in;go_wp2;exact C1 (.tuple #[ct #[Zc,Zb],ef bq]) I5 ⟨rfl,Zy⟩
theorem Uq(s:Zi)(b:Int)(n:Nat)(w:Zh)(k:s.size<=1048576)(g:1<=b)(h:b<=8)(f:0<s.size)(a:s[0].toNat=n)(c:(s.size:Int) -1<(n:Int) *b):
 D8 150 #[C4 s,Zg b] w (Gu w):=by
 have j:=Px f;have d:(0:Int)<s.size:=Yv;have i:n<256:=by rw[<-a];exact s[0].toNat_lt
 have e:=KI i g h;have HN:=Yw a;clear a;delta D8;go_in;go_wp2;go_quiet (fail);simp only[Cj];rw[HN.o];go_wp2;refine C1 (.tuple #[ct #[Zc,Zb],ef bq]) I5 ⟨rfl,?_⟩;exact(((Bx (Zy) _).setCell Yu _).setCell Yu _)
theorem Ace(s:Zi)(a b:Nat)(d:b<=s.size -1)(c:0<s.size):(s.extract 1 s.size).extract a b=s.extract (1+a) (1+b):=by rw[ByteArray.extract_extract];congr 1;omega
theorem ZY(b:0<s.size)(d:0<=(k:Int) *a)(c:1<=a)(e:(k:Int) *a+a<=s.size -1):s.extract (1+(k:Int) *a).toNat (1+(k:Int) *a+a).toNat=Kk s a k:=by unfold Kk;rw[Ace s _ _ Yv b,show(1+(k:Int) *a).toNat=1+((k:Int) *a).toNat from by omega,show(1+(k:Int) *a+a).toNat=1+((k:Int) *a+a).toNat from by omega]
theorem ZZ{n:Nat}(b:0<s.size)(c:0<=(n:Int) *a):s.extract (1+(n:Int) *a).toNat s.size=DM s a n:=by unfold DM;rw[Ace s _ _ Yv b,show(1+(n:Int) *a).toNat=1+((n:Int) *a).toNat from by omega,show 1+(s.size -1)=s.size from by omega]
theorem Ur(s:Zi)(c:Int)(n:Nat)(w:Zh)(hs:s.size<=1048576)(J:1<=c)(h2:c<=8)(K:0<s.size)(I:s[0].toNat=n)(X:(n:Int) *c<=s.size -1):
 D8 75 #[C4 s,Zg c] w λe d=>
  (AL (DM s c n) (BQ s c n) c=bg->∃v,e=C5 (.tuple #[ct #[C4 (DM s c n),v],ef bg])/\eo d w.1.size 9 1 v n ((BQ s c n).map string))/\
  (AL (DM s c n) (BQ s c n) c=bq->e=C5 (.tuple #[ct #[Zc,Zb],ef bq]))/\Zz w d:=by
 obtain⟨i0,hi,U,V,W⟩:=info_parts Ck;have Z:(0:Int)<s.size:=Yv;have zA:((s.size:Int)==0)=bq:=gG;have hn:n<256:=by rw[<-I];exact s[0].toNat_lt
 have G:=KI hn J h2;have T:=Cj s[0];rw[I]at T;delta D8;go_in;go_wp2;obtain⟨cj,d⟩:=Ag (DM s c n);rw[ZZ K G.1,<-d];have u:=Yw d;clear d;go_loopw [8] (λi wr=>∃(k:Nat) (v:D4),k<=n/\i=Zg k/\ek wr (Zd (w.1.size+1) 0)=an (C4 cj)/\ek wr (Zd (w.1.size+1) 1)=an v/\el wr ⟨w.1.size+1,1,ba⟩=bq/\
  eo wr (w.1.size+2) 9 1 v k ((BQ s c k).map string)/\bs (w.1.size+1) (w.alloc (Obj.cells #[C4 ⟨#[]⟩,C3 ba 0 0] 76)) wr) (λi _=>n -(intOf i).toNat)
 case atStart=>exact⟨0,Zb,Aq _,rfl,by simp[go_sem],by simp[go_sem],by simp[go_sem],ownsRow_nil _ _ _ _,Ae.alloc Yu _⟩
 obtain⟨k,v,M,rfl,q,y,r,m,d⟩:=hrel;have Q:=d.size;simp at Q;by_cases hlt:k<n
 .obtain⟨m1,m2,f,m4⟩:=Ul J hlt;have Y:(k:Int)<n:=Yv;have e1:=EZ ((k:Int) *c) Yv Yv;have e2:=EZ (1+(k:Int) *c) Yv Yv;have e3:=EZ (1+(k:Int) *c+c) Yv Yv;have b1:(0:Int)<=1+(k:Int) *c:=Yv;have b2:1+(k:Int) *c<=1+(k:Int) *c+c:=Yv;have b3:1+(k:Int) *c+c<=(s.size:Int):=Yv;have E:=Yw (ZY K m1 J Yv);have D:=Um m (b:=w.1.size+1) Yv;have o:=Bf wr _ q;clear f;go_wp2;go_region_law (refine step_append_lies _ rfl (.tmp 45) (.tmp 58) 23 rfl (w.1.size+2) 9 i0 Zc 1 16 underlying23 hi U V W rfl Yq v k ((BQ s c k).map string) rfl (ownsRow.alloc m _) ⟨wr.1.size,0,ba⟩ 1 1 [C4 (s.extract (1+(k:Int) *c).toNat (1+(k:Int) *c+c).toNat)] rfl rfl (cell_one_new wr (C4 (s.extract (1+(k:Int) *c).toNat (1+(k:Int) *c+c).toNat)) 9) G3 Yq Yo Yv Yt (wr.1.size+1) Yu ?_;intro g x w1 j f zB i;have l:=IE f q D;have O:=IE f y D;have P:=(La (p:=⟨w.1.size+1,1,ba⟩) f Yt D).ag r)
  all_goals
   rw[E.o]at j;have R:=NE o m d j f l O P;have C:=Yw R;clear R m d j f l q y r;go_wp2;refine⟨⟨_,_,_,_,_,_,_,_,_,_,_,_,_,_,_,_,_,_,_,_,_,_,_,⟨k+1,_,Yv,?_,C.1,C.2.1,C.2.2.1,C.2.2.2.1,C.2.2.2.2⟩,rfl⟩,?_⟩
   .go_num
   simp[intOf];omega
 obtain rfl:k=n:=Yv;have o:=Bf wr _ q;obtain⟨a,x,N,F⟩:=Ei (ss:=BQ s c k) (by rw[Cw];exact m);rw[Cw]at N;subst N;have z:(ek wr (Zd (w.1.size) 0))=an Zc:=by rw[d.cell (p:=⟨w.1.size,0,ba⟩) Yu];simp
 have A:(ek wr (Zd (w.1.size) 1))=an Zb:=I0;have r:el wr ⟨w.1.size,0,ba⟩=bq:=by rw[d.frozen (p:=⟨w.1.size,0,ba⟩) Yu];simp
 have t:el wr ⟨w.1.size,1,ba⟩=bq:=by rw[d.frozen (p:=⟨w.1.size,1,ba⟩) Yu];simp
 have S:cj.size<=ew:=by rw[u.o];simp[DM,ew];omega
 have l:=DT cj x c F (by rw[Cw];omega) S;rw[Cw]at l;have j:w.1.size<wr.1.size:=Yv;go_wp2_with fail;refine l.ai ?_;rintro e R ⟨rfl,f⟩;have L:=(Zy).ag (d.ai Yv);have H:=L.ag (f.ai L.size);obtain⟨B,q,y⟩:=m.kept (row:=ba) ⟨f.os,f.tape,f.output,f.size,λk M _=>f.block k M⟩ (by cases a<;>simp[ownBlock]),(f.cell (p:=⟨w.1.size+1,0,ba⟩) o).ag q,(f.cell (p:=⟨w.1.size+1,1,ba⟩) o).ag y
 obtain⟨z,A,r,t⟩:=(f.cell (p:=⟨w.1.size,0,ba⟩) j).ag z,(f.cell (p:=⟨w.1.size,1,ba⟩) j).ag A,(f.frozen (p:=⟨w.1.size,0,ba⟩) j).ag r,(f.frozen (p:=⟨w.1.size,1,ba⟩) j).ag t;cases hok:AL cj (BQ s c k) c with
 |true=>
  clear l;go_wp2;refine C1 (.tuple #[ct #[C4 cj,C3 a k x],ef bg]) (by simp[results,results75,go_sem,z,A]) ⟨λ_=>⟨C3 a k x,?_,?_⟩,λh=> ?_,?_⟩
  .rw[u.o]
  .exact(ownsRow_setCell_below (ownsRow_setCell_below B Yu _) Yu _).ai Yv
  .rw[<-u.o,hok]at h;cases h
  exact(H.setCell Yu _).setCell Yu _
 |false=>
  clear l;go_wp2;refine C1 (.tuple #[ct #[Zc,Zb],ef bq]) (by simp[results,results75,go_sem,z,A]) ⟨λh=> ?_,λ_=>rfl,?_⟩
  .rw[<-u.o,hok]at h;cases h
  exact(H.setCell Yu _).setCell Yu _
theorem Us(s:Zi)(a:Int)(w:Zh)(h:¬(1<=a/\a<=8)):
 D8 75 #[C4 s,Zg a] w (Gu w):=by
 by_cases h1:1<=a
 .have b:bx (a<=8)=bq:=Yt;delta D8;go_in;go_wp2;exact C1 (.tuple #[ct #[Zc,Zb],ef bq]) J0 ⟨rfl,Zy⟩
 delta D8;go_in;go_wp2;exact C1 (.tuple #[ct #[Zc,Zb],ef bq]) J0 ⟨rfl,Zy⟩
theorem Ut(s:Zi)(a:Int)(w:Zh)(d:1<=a)(e:a<=8)(c:s.size=0):
 D8 75 #[C4 s,Zg a] w (Gu w):=by
 have b:=beq_iff_eq.2 Yv;delta D8;go_in;go_wp2;exact C1 (.tuple #[ct #[Zc,Zb],ef bq]) J0 ⟨rfl,Zy⟩
theorem Uu(s:Zi)(a:Int)(n:Nat)(w:Zh)(l:s.size<=1048576)(h:1<=a)(i:a<=8)(k:0<s.size)(b:s[0].toNat=n)(d:(s.size:Int) -1<(n:Int) *a):
 D8 75 #[C4 s,Zg a] w (Gu w):=by
 have e:(0:Int)<s.size:=Yv;have f:((s.size:Int)==0)=bq:=gG;have j:n<256:=by rw[<-b];exact s[0].toNat_lt
 have g:=KI j h i;have c:=Cj s[0];rw[b]at c;delta D8;go_in;go_wp2;exact C1 (.tuple #[ct #[Zc,Zb],ef bq]) J0 ⟨rfl,Zy⟩
def Lb(s:Zi)(wd:Int)(n:Nat):Zi×Zl×Bool:=
 if (n:Int) *wd<=s.size -1/\AL (DM s wd n) (BQ s wd n) wd=bg then (DM s wd n,BQ s wd n,bg)else (⟨#[]⟩,[],bq)
def rd(s:Zi)(wd:Int):Zi×Zl×Bool:=
 if 1<=wd/\wd<=8 then
  match s.data.toList.head? with
  |none=>(⟨#[]⟩,[],bq)
  |some b=>Lb s wd b.toNat
 else (⟨#[]⟩,[],bq)
def EN(s:Zi)(wd:Int)(w:Zh)(e:Ending)(w':Zh):Prop:=
 ∃v,e=.returned (.tuple #[ct #[.string (rd s wd).1,v],ef (rd s wd).2.2])/\eo w' w.1.size 9 1 v (eh (rd s wd).2.1) ((rd s wd).2.1.map Value.string)/\Zz w w'
theorem RD(a:0<s.size):s.data.toList.head?=an s[0]:=by rw[head?_eq_getElem?,Zv (D2 a)];rfl
theorem YC(s:Zi)(a:Int):eh (rd s a).2.1<=255:=by
 unfold rd;split
 .split
  .simp
  rename_i b _
  unfold Lb;have:=b.toNat_lt;split
  .simp[Cw];omega
  simp
 simp
theorem Fa{b:Int}(h:rd s b=(⟨#[]⟩,[],bq)):∀e a,Gu w e a->EN s b w e a:=by rintro e a ⟨rfl,c⟩;unfold EN;rw[h];exact⟨Zb,rfl,ownsRow_nil _ _ _ _,c⟩
theorem Uv{n:Nat}(j:rd s a=Lb s a n)(c:(n:Int) *a<=s.size -1):∀e b,
 ((AL (DM s a n) (BQ s a n) a=bg->∃v,e=C5 (.tuple #[ct #[C4 (DM s a n),v],ef bg])/\eo b w.1.size 9 1 v n ((BQ s a n).map string))/\
   (AL (DM s a n) (BQ s a n) a=bq->e=C5 (.tuple #[ct #[Zc,Zb],ef bq]))/\Zz w b)->EN s a w e b:=by
 rintro e b ⟨f,g,d⟩;unfold EN;rw[j];unfold Lb;cases hok:AL (DM s a n) (BQ s a n) a with
 |true=>rw[if_pos ⟨c,rfl⟩];have⟨v,h,i⟩:=f hok;exact⟨v,h,by simpa [Cw]using i,d⟩
 |false=>rw[if_neg Yu];exact⟨Zb,g hok,ownsRow_nil _ _ _ _,d⟩
theorem Uw(s:Zi)(a:Int)(w:Zh)(c:s.size<=1048576):D8 150 #[C4 s,Zg a] w (EN s a w):=by
 by_cases hw:1<=a/\a<=8
 .by_cases h0:0<s.size
  .have b:rd s a=Lb s a s[0].toNat:=(by unfold rd;rw[if_pos hw,RD h0]);by_cases hfit:(s[0].toNat:Int) *a<=s.size -1
   .exact(Un s a _ w c hw.1 hw.2 h0 rfl hfit).ai (Uv b hfit)
   exact(Uq s a _ w c hw.1 hw.2 h0 rfl Yv).ai (Fa (by rw[b];unfold Lb;rw[if_neg (λh=>hfit h.1)]))
  refine(Up s a w hw.1 hw.2 Yv).ai (Fa ?_);have d:s.data.toList=[]:=gA;unfold rd;rw[if_pos hw,d];rfl
 exact(Uo s a w hw).ai (Fa (by unfold rd;rw[if_neg hw]))
theorem Ux(s:Zi)(a:Int)(w:Zh)(c:s.size<=1048576):D8 75 #[C4 s,Zg a] w (EN s a w):=by
 by_cases hw:1<=a/\a<=8
 .by_cases h0:0<s.size
  .have b:rd s a=Lb s a s[0].toNat:=(by unfold rd;rw[if_pos hw,RD h0]);by_cases hfit:(s[0].toNat:Int) *a<=s.size -1
   .exact(Ur s a _ w c hw.1 hw.2 h0 rfl hfit).ai (Uv b hfit)
   exact(Uu s a _ w c hw.1 hw.2 h0 rfl Yv).ai (Fa (by rw[b];unfold Lb;rw[if_neg (λh=>hfit h.1)]))
  refine(Ut s a w hw.1 hw.2 Yv).ai (Fa ?_);have d:s.data.toList=[]:=gA;unfold rd;rw[if_pos hw,d];rfl
 exact(Us s a w hw).ai (Fa (by unfold rd;rw[if_neg hw]))
def Jo:Zk->Value
 |none=> .nilIface
 |some q=> .iface 158 (ee (an q))
structure RE (w:Zh) (b:Nat) (rest:Zi) (kind:Int) (er:Zk):Prop where
 x0:ek w (Zd b 0)=an (.string rest)
 x1:ek w (Zd b 1)=an (Zg kind)
 x2:ek w (Zd b 2)=an (Jo er)
 f0:el w ⟨b,0,ba⟩=bq
 f1:el w ⟨b,1,ba⟩=bq
 f2:el w ⟨b,2,ba⟩=bq
def Ej(w:Zh)(b:Nat)(rest:Zi)(kind:Int)(bad:Bool):Prop:=∃er:Zk,er.isSome=bad/\RE w b rest kind er
theorem RE.lt{a:Zk}(h:RE w b rest kind a):b<w.1.size:=Bf w _ h.x0
theorem RE.A{d:Zk}(h:RE w b rest kind d)(a:Zz w e):RE e b rest kind d:=by have c:=h.lt;exact⟨(a.cell (p:=⟨b,0,ba⟩) c).ag h.x0,(a.cell (p:=⟨b,1,ba⟩) c).ag h.x1,(a.cell (p:=⟨b,2,ba⟩) c).ag h.x2,(a.frozen (p:=⟨b,0,ba⟩) c).ag h.f0,(a.frozen (p:=⟨b,1,ba⟩) c).ag h.f1,(a.frozen (p:=⟨b,2,ba⟩) c).ag h.f2⟩
theorem Ej.A{a:Zh}(h:Ej w b rest kind bad)(f:Zz w a):Ej a b rest kind bad:=by obtain⟨c,d,e⟩:=h;exact⟨c,d,e.A f⟩
theorem Gv{c:Bool}(d:TypeId)(f:D4)(h:Ej w b rest kind c):
 D8 124 #[Yy b,.iface d f] w λe a=>e=C5 (.tuple #[])/\Ej a b rest kind bg/\ep w a (an b):=by
 obtain⟨g,rfl,h⟩:=h;have o:=h.lt;obtain⟨l,m,a,i,j,k⟩:=h;cases g with
 |none=>
  simp only[Jo]at a;delta D8;go_in;go_wp2;go_end0;refine⟨rfl,⟨an ⟨w.1.size,0,ba⟩,rfl,?_⟩,?_⟩
  .have n:b≠w.1.size:=Yv;constructor<;>simp[Jo,go_sem, *]
  exact(As _ _ _ _).ag (grownBy_alloc _ _ _)
 |some q=>
  simp only[Jo]at a;delta D8;go_in;go_wp2;go_end0;exact⟨rfl,⟨an q,rfl,⟨l,m,a,i,j,k⟩⟩,grownBy.refl _ _⟩
def Bp(rest:Zi)(bad:Bool)(n:Int):Zi×Zi×Bool:=
 if bad=bg then (⟨#[]⟩,rest,bg)else if (rest.size:Int)<n then (⟨#[]⟩,rest,bg)else (rest.extract 0 n.toNat,rest.extract n.toNat rest.size,bq)
theorem Jp{a:Bool}(n:Int)(d:TypeId)(f:D4)(h:Ej w b rest kind a)(r:a=bq->0<=n)(v:ek w (Zd 6 0)=an (.iface d f)):
 D8 127 #[Yy b,Zg n] w λe c=>e=C5 (C4 (Bp rest a n).1)/\Ej c b (Bp rest a n).2.1 kind (Bp rest a n).2.2/\ep w c (an b):=by
 have o:=h;obtain⟨i,rfl,h⟩:=h;have x:=h.lt;obtain⟨s,t,c,j,k,l⟩:=h;cases i with
 |none=>
  simp only[Jo]at c;have u:=r rfl;by_cases hf:(rest.size:Int)<n
  .rw[show Bp rest (ba:Zk).isSome n=(⟨#[]⟩,rest,bg) by simp[Bp,hf]];have g:bx ((rest.size:Int)<n)=bg:=Yt;delta D8;go_in;go_wp2_with fail;refine(Gv d f o).ai ?_;rintro e y ⟨rfl,p,m⟩;go_wp2;go_ret;exact⟨rfl,p,m⟩
  rw[show Bp rest (ba:Zk).isSome n=(rest.extract 0 n.toNat,rest.extract n.toNat rest.size,bq) by simp[Bp,hf]];have g:bx ((rest.size:Int)<n)=bq:=Yt
  delta D8;go_in;go_wp2;go_ret;refine⟨rfl,⟨ba,rfl,?_⟩,As _ _ _ _⟩;constructor<;>simp[Jo,go_sem, *]
 |some q=>rw[show Bp rest (an q:Zk).isSome n=(⟨#[]⟩,rest,bg) by simp[Bp]];simp only[Jo]at c;delta D8;go_in;go_wp2;go_ret;exact⟨rfl,⟨an q,rfl,⟨s,t,c,j,k,l⟩⟩,grownBy.refl _ _⟩
def CN(l:List UInt8):Int:=l.foldl (fun a b=>a *256+(b.toNat:Int)) 0
theorem Uy(l:List UInt8)(b:UInt8):CN (l++[b])=CN l *256+(b.toNat:Int):=by simp[CN]
theorem Aaa(l:List UInt8):∀a:Int,0<=a->0<=l.foldl (λa b=>a *256+(b.toNat:Int)) a/\l.foldl (λa b=>a *256+(b.toNat:Int)) a<(a+1) *256^eh l:=by
 induction l with
 |nil=>intro a e;simp;omega
 |cons b l ih=>intro a e;have f:=b.toNat_lt;have⟨c,d⟩:=ih (a *256+(b.toNat:Int)) Yv;refine⟨c,Int.lt_of_lt_of_le d ?_⟩;rw[length_cons,Int.pow_succ,<-Int.mul_assoc,Int.mul_right_comm];exact Int.mul_le_mul_of_nonneg_right Yv (Int.pow_nonneg Yv)
theorem Mi(l:List UInt8):0<=CN l/\CN l<256^eh l:=by have:=Aaa l 0 (Int.le_refl _);simpa [CN]using this
theorem Wz(a b:Nat)(f:a<2^30)(g:b<256):bits .or .i64 ((a:Int) *256) (b:Int)=(a:Int) *256+b:=by
 have c:((a:Int) *256)=((a *256:Nat):Int):=Yv;have e:a *256|||b=a *256+b:=by have:=Nat.shiftLeft_add_eq_or_of_lt (i:=8) (b:=b) Yv a;rw[Nat.shiftLeft_eq,show(2:Nat)^8=256 from rfl]at this;omega
 have d:(BitVec.ofInt 64 ((a:Int) *256)|||BitVec.ofInt 64 (b:Int)).toNat=a *256+b:=by rw[c,BitVec.toNat_or,BitVec.ofInt_natCast,BitVec.ofInt_natCast,BitVec.toNat_ofNat,BitVec.toNat_ofNat,Nat.mod_eq_of_lt Yv,Nat.mod_eq_of_lt Yv,e]
 show IntKind.i64.wrap ((BitVec.ofInt 64 ((a:Int) *256)|||BitVec.ofInt 64 (b:Int)).toNat:Int)=_;rw[d,EZ _ Yv Yv];omega
theorem Hj{c:Bool}(n:Nat)(j:TypeId)(l:D4)(h:Ej w b rest kind c)(C:n<=4)(z:ek w (Zd 6 0)=an (.iface j l)):
 D8 125 #[Yy b,Zg (n:Int)] w λe a=>e=C5 (Zg (CN (Bp rest c n).1.data.toList))/\Ej a b (Bp rest c n).2.1 kind (Bp rest c n).2.2/\ep w a (an b):=by
 have r:(Bp rest c n).1.size<=4:=by
  unfold Bp;split
  .exact Aq _
  split
  .exact Aq _
  simp;omega
 delta D8;go_in;go_wp2_with fail;refine(Jp n j l h (λ_=>Yv) z).ai ?_;rintro e D ⟨rfl,v,u⟩;obtain⟨s,a,d⟩:=Yw (Zn v u),Ag ((Bp rest c n).1);rw[<-d]at r |-;have t:=Yw d;clear d;go_wp2
 go_loop [6,13] (λx i=>∃k:Nat,k<=a.size/\i=Zg k/\x=Zg (CN (a.data.toList.take k))) (λ_ i=>a.size -(intOf i).toNat)
 case atStart=>exact⟨0,Aq _,rfl,rfl⟩
 obtain⟨k,B,rfl,rfl⟩:=hrel;by_cases hlt:k<a.size
 .have o:=Mi (a.data.toList.take k);have d:CN (a.data.toList.take (k+1))=CN (a.data.toList.take k) *256+(a[k].toNat:Int):=by rw[<-Uy,Zu Yt];rfl
  have A:CN (a.data.toList.take k)<16777216:=by
   have m:=o.2;have p:eh (a.data.toList.take k)=0\/eh (a.data.toList.take k)=1\/eh (a.data.toList.take k)=2\/eh (a.data.toList.take k)=3:=Yt;rcases p with f|f|f|f<;>rw[f]at m<;>simp at m<;>omega
  have⟨X,y⟩:∃X:Nat,CN (a.data.toList.take k)=(X:Int):=⟨_,(Int.toNat_of_nonneg o.1).symm⟩;have q:=Wz X a[k].toNat Yv a[k].toNat_lt;rw[y]at d |-;go_wp2;exact⟨⟨k+1,Yv,Yn,by rw[d,Cj,q]⟩,Ys⟩
 obtain rfl:k=a.size:=Yv;have g:a.data.toList.take a.size=a.data.toList:=Zt Yu;rw[g];go_wp2;go_ret;exact⟨by rw[<-t.o];rfl,s⟩
structure Env (w:Zh):Prop where
 js:Mg w
 ju:ID w
 er:∀g∈[0,1,2,3,6,7],∃t v,ek w (Zd g 0)=an (.iface t v)
theorem Env.lt(h:Env w):∀g∈[0,1,2,3,6,7,5,4],g<w.1.size:=by
 intro g a;have c:=h.er;have⟨b,_⟩:=h.js 1 Yv Yv;have d:=Bf w _ b;have e:=Bf w _ h.ju;have f:∀g∈[0,1,2,3,6,7],g<w.1.size:=λg a=>by have⟨t,v,i⟩:=c g a;exact Bf w _ i
 simp only[Cf,not_mem_nil,or_false]at a f;rcases a with rfl|rfl|rfl|rfl|rfl|rfl|rfl|rfl
 .omega
 .exact gA
 .exact gA
 .exact gA
 .exact gA
 .exact gA
 .exact d
 exact e
theorem Env.of{c:Zh}(h:Env w)(a:∀p:Addr,p.block∈[0,1,2,3,6,7,5,4]->ek c p=ek w p):Env c:=by
 refine⟨λk d e=> ?_,?_,λg b=> ?_⟩
 .obtain⟨f,i,j,l⟩:=h.js k d e;exact gA
 .exact(a ⟨_,_,ba⟩ Yu).ag h.ju
 obtain⟨t,v,d⟩:=h.er g b;refine⟨t,v,(a ⟨g,0,ba⟩ ?_).ag d⟩;simp only[Cf,not_mem_nil,or_false]at b |-;omega
theorem Env.A{a:Zh}(h:Env w)(b:Zz w a):Env a:=
 h.of λ_ c=>b.cell (h.lt _ c)
theorem Env.jk{c:Zh}(h:Env w)(f:ep w c (an b))(d:∀g∈[0,1,2,3,6,7,5,4],g<b):Env c:=
 h.of λp a=>f.cell_far p (h.lt _ a) (λe=>by have:=d _ a;injection e;omega)
theorem Ej.lt(h:Ej w b rest kind bad):b<w.1.size:=by obtain⟨a,_,h⟩:=h;exact h.lt
theorem Ej.setKind{a:Bool}(h:Ej w b rest kind a)(k:Int):Ej (ev w (Zd b 1) (Zg k)) b rest k a:=by obtain⟨c,d,i,j,l,e,f,g⟩:=h;refine⟨c,d,?_⟩;constructor<;>simp[go_sem, *]
theorem Ej.co{g:Zh}{c:Nat}{f:Bool}(h:Ej w b rest kind f)(a:ep w g (an c))(k:b≠c):Ej g b rest kind f:=by
 obtain⟨i,j,h⟩:=h;have d:=h.lt;have e:an b≠an c:=Yt;exact⟨i,j,(a.cell_far ⟨b,0,ba⟩ d e).ag h.x0,(a.cell_far ⟨b,1,ba⟩ d e).ag h.x1,(a.cell_far ⟨b,2,ba⟩ d e).ag h.x2,(a.frozen_far ⟨b,0,ba⟩ d e).ag h.f0,(a.frozen_far ⟨b,1,ba⟩ d e).ag h.f1,(a.frozen_far ⟨b,2,ba⟩ d e).ag h.f2⟩
def Fj(rest:Zi)(bad:Bool):Zi:=(Bp rest bad rest.size).1
def Kl(rest:Zi)(bad:Bool):Zi:=(Bp rest bad rest.size).2.1
def GC(rest:Zi)(bad:Bool)(wd:Int):Bool:=(Bp rest bad rest.size).2.2|| !(rd (Fj rest bad) wd).2.2
theorem RG(h:rest.size<=1048576):(Fj rest bad).size<=1048576:=by
 unfold Fj Bp;split
 .exact Aq _
 split
 .exact Aq _
 simp;omega
theorem Uz(a:Int)(h:Ej w b rest kind bad)(he:Env w)(hb:∀g∈[0,1,2,3,6,7,5,4],g<b)(hs:rest.size<=1048576):
 D8 128 #[Yy b,Zg a] w λe c=>∃v,e=C5 (ct #[C4 (rd (Fj rest bad) a).1,v])/\
  eo c w.1.size 9 1 v (eh (rd (Fj rest bad) a).2.1) ((rd (Fj rest bad) a).2.1.map string)/\Ej c b (Kl rest bad) kind (GC rest bad a)/\ep w c (an b):=by
 have⟨W,c⟩:=D6 w #[Zc,Zb] 76;have z:=(Ax c).1;have r0:ek W (Zd (w.1.size) 0)=an Zc:=by rw[c];simp
 have V:ek W (Zd (w.1.size) 1)=an Zb:=by rw[c];simp
 have L:el W ⟨w.1.size,0,ba⟩=bq:=by rw[c];simp
 have M:el W ⟨w.1.size,1,ba⟩=bq:=by rw[c];simp
 have B:w.1.size<W.1.size:=gB;obtain⟨f,Z,N⟩:=h.lt,h.A z,he.A z;obtain⟨⟨gt,gv,m⟩,Q,H⟩:=N.er 6 Yu,Yw c,RG (bad:=bad) hs;obtain⟨er,i,u,x,y,o,r,t⟩:=Z;have P:Hid (Ej W b rest kind bad):=⟨er,i,u,x,y,o,r,t⟩;clear c h;delta D8;go_in;go_upto_region 1 with fail;rw[<-Q.o];go_wp2_with fail;refine(Jp rest.size gt gv P (λ_=>Yv) m).ai ?_;rintro e s ⟨rfl,S,l⟩;rw[show(Bp rest bad rest.size).1=Fj rest bad from rfl];have⟨c,d⟩:=Ag (Fj rest bad);rw[<-d]at H |-;have q:=Yw d;have n:=λA=>Uw c a A H;unfold EN at n;have O:=Yw n;clear n u x y o r t i m d;go_wp2_with fail;refine(O s).ai ?_;rintro e m ⟨v,rfl,A,y⟩;have⟨t,u,hv,_⟩:=Ei A;subst hv;have zA:=l.size;have C:=y.size;have⟨i,n⟩:=D6 m #[C4 (rd c a).1,C2 t (rd c a).2.1 u] 76;have r:=(Ax n).1;have X:ek i (Zd (m.1.size) 0)=an (C4 (rd c a).1):=by rw[n];simp
 have Y:ek i (Zd (m.1.size) 1)=an (C2 t (rd c a).2.1 u):=by rw[n];simp
 have I:m.1.size<i.1.size:=gB;have h:=r.size;have d:=y.ag (r.ai C);have T:=(d.cell (p:=⟨w.1.size,0,ba⟩) Yt).ag ((l.cell_far ⟨w.1.size,0,ba⟩ B (JI f)).ag r0);have U:=(d.cell (p:=⟨w.1.size,1,ba⟩) Yt).ag ((l.cell_far ⟨w.1.size,1,ba⟩ B (JI f)).ag V);have J:=(d.frozen (p:=⟨w.1.size,0,ba⟩) Yt).ag ((l.frozen_far ⟨w.1.size,0,ba⟩ B (JI f)).ag L);obtain⟨K,G,R,x,F⟩:=(d.frozen (p:=⟨w.1.size,1,ba⟩) Yt).ag ((l.frozen_far ⟨w.1.size,1,ba⟩ B (JI f)).ag M),S.A d,(N.jk l hb).A d,((Af (an b) z).ag l).ag (Af (an b) d),A.kept (Af ba r) (Classical.em _)
 have E:∀k,ej (C2 t (rd c a).2.1 u)=an k->s.1.size<=k:=λk o=>(A.lt k o).1;obtain⟨⟨k,kv,g⟩,o,D⟩:=R.er 7 Yu,Yw (Zn G (Zn x (Zn F E))),Yw n;clear G x F R S l y A r0 V L M N P O E Q d r n;go_upto_region 2 with fail;rw[<-D.o];clear D;cases hok:(rd c a).2.2 with
 |true=>
  go_wp2;refine C1 (ct #[C4 (rd c a).1,C2 t (rd c a).2.1 u]) (by simp[results,results128,go_sem, *]) ?_;refine⟨_,by rw[<-q.o],?_,?_,?_⟩
  .rw[<-q.o];exact(ownsRow_setCell_below (ownsRow_setCell_below o.2.2.1 (show w.1.size<s.1.size by omega) _) (show w.1.size<s.1.size by omega) _).ai Yv
  .have:GC rest bad a=(Bp rest bad rest.size).2.2:=(by unfold GC;rw[<-q.o,hok];simp);rw[this];exact(o.1.co (As _ w.1.size 0 _) Yv).co (As _ w.1.size 1 _) Yv
  exact(o.2.1.andThen (As _ w.1.size 0 _) (λj e=>by cases e;exact dp (Zx))).andThen (As _ w.1.size 1 _) (λj e=>by cases e;exact dp (Zx))
 |false=>
  go_wp2_with fail;refine(Gv k kv o.1).ai ?_;rintro e A ⟨rfl,r,d⟩;have y:=d.size;have X:=(d.cell_far ⟨m.1.size,0,ba⟩ I (JI (show b<m.1.size by omega))).ag X;have Y:=(d.cell_far ⟨m.1.size,1,ba⟩ I (JI (show b<m.1.size by omega))).ag Y;have T:=(d.cell_far ⟨w.1.size,0,ba⟩ (show w.1.size<i.1.size by omega) (JI f)).ag T;have U:=(d.cell_far ⟨w.1.size,1,ba⟩ (show w.1.size<i.1.size by omega) (JI f)).ag U;have J:=(d.frozen_far ⟨w.1.size,0,ba⟩ (show w.1.size<i.1.size by omega) (JI f)).ag J;have K:=(d.frozen_far ⟨w.1.size,1,ba⟩ (show w.1.size<i.1.size by omega) (JI f)).ag K;have l:=o.2.2.1.kept d (eb (λe=>Dl (o.2.2.2 b e)));have x:=o.2.1.ag d;have n:=Yw (Zn r (Zn x l));clear r x l d g;go_wp2;refine C1 (ct #[C4 (rd c a).1,C2 t (rd c a).2.1 u]) (by simp[results,results128,go_sem, *]) ?_;refine⟨_,by rw[<-q.o],?_,?_,?_⟩
  .rw[<-q.o];exact(ownsRow_setCell_below (ownsRow_setCell_below n.2.2 (show w.1.size<s.1.size by omega) _) (show w.1.size<s.1.size by omega) _).ai Yv
  .have:GC rest bad a=bg:=(by unfold GC;rw[<-q.o,hok];simp);rw[this];exact(n.1.co (As _ w.1.size 0 _) Yv).co (As _ w.1.size 1 _) Yv
  exact(n.2.1.andThen (As _ w.1.size 0 _) (λj e=>by cases e;exact dp (Zx))).andThen (As _ w.1.size 1 _) (λj e=>by cases e;exact dp (Zx))
theorem IX(k:Int)(b a:Zi)(n:Int)(t:Zi)(i:Zk)(h:Nat)(c:Zl)(f:Int)(w:Zh)(g:Ab w w.1.size i c)(l:eh c<=1048576)(o:t.size<=ew)(q:a.size<=ew):
 D8 43 #[ct (Gt k b a n t i (eh c) h),Zg f] w λe d=>e=C5 (C4 (Cv k b a n t c f))/\Zz w d:=by
 cases hok:Cn k b a n t c f with
 |true=>rw[show Cv k b a n t c f=⟨ei (Ev k.toNat b a n t c)⟩from by unfold Cv;rw[if_pos hok]];unfold Cn at hok;simp only[Bool.and_eq_true,decide_eq_true_eq]at hok;obtain⟨m,rfl⟩:∃m:Nat,k=m:=⟨k.toNat,Yv⟩;rw[Int.toNat_natCast]at hok |-;exact Uj m b a n t h f Yv Yv g l o hok.2
 |false=>rw[show Cv k b a n t c f=ByteArray.empty from by unfold Cv;rw[if_neg Yt]];have j:bs w.1.size w (w.alloc (ca (Gt k b a n t i (eh c) h) 91)):=gB;have d:=Wq k b a n t h f (g.X j) l o q;rw[hok]at d;clear hok;delta D8;go_in;go_wp2_with fail;refine d.ai ?_;rintro e r ⟨rfl,p⟩;go_wp2;go_ret;exact⟨rfl,j.ag (p.ai Yu)⟩
def EO(k:Int):Bool:=bx (1<=k/\k<=7)
def Fb(k:Int):Bool:=EO k&&DC k.toNat
def Eb(k:Int):Bool:=EO k&&Ea k.toNat
def CH(k:Int):Bool:=EO k&&CQ k.toNat
def Fc(k:Int):Int:=if EO k=bg then CG k.toNat else 0
theorem QR(k:Int)(hT:Mg w):
 D8 126 #[Zg k] w λe a=>e=C5 (.tuple #[ct #[ef (Fb k),ef (Eb k),ef (CH k),Zg (Fc k)],ef (EO k)])/\Zz w a:=by
 by_cases hk:1<=k/\k<=7
 .obtain⟨m,rfl⟩:∃m:Nat,k=m:=⟨k.toNat,Yv⟩;have a:EO (m:Int)=bg:=decide_eq_true hk;rw[show Fb (m:Int)=DC m by simp[Fb,a],show Eb (m:Int)=Ea m by simp[Eb,a],show CH (m:Int)=CQ m by simp[CH,a],show Fc (m:Int)=CG m by simp[Fc,a],a];exact KZ m w hT Yv Yv
 have a:EO k=bq:=decide_eq_false hk;rw[show Fb k=bq by simp[Fb,a],show Eb k=bq by simp[Eb,a],show CH k=bq by simp[CH,a],show Fc k=0 by simp[Fc,a],a];exact Mh k w hk
theorem WA(n:Int)(w:Zh):
 D8 27 #[Zg n] w λe a=>e=C5 (ef (bx (1<=n/\n<=8)))/\a=w:=by
 by_cases h1:1<=n
 .by_cases h2:n<=8
  .delta D8;go_in;go_wp2;go_ret;exact⟨AH Yt,rfl⟩
  have b:bx (n<=8)=bq:=Yt;delta D8;go_in;go_wp2;go_ret;exact⟨rfl,rfl⟩
 have a:bx (1<=n)=bq:=Yt;delta D8;go_in;go_wp2;go_ret;exact⟨rfl,rfl⟩
def GX(wd:Int):Bool:= !bx (1<=wd/\wd<=8)
def EH(s:Zi)(wd:Int):Zi×Zi×Bool:=Bp s (GX wd) (1:Nat)
def AZ(s:Zi)(wd:Int):Int:=CN (EH s wd).1.data.toList
def FZ(s:Zi)(wd:Int):Bool:=(EH s wd).2.2|| !EO (AZ s wd)
def Ew(s:Zi)(wd:Int):Zi×Zi×Bool:=Bp (EH s wd).2.1 (FZ s wd) (4:Nat)
def Fq(s:Zi)(wd:Int):Int:=CN (Ew s wd).1.data.toList
def Fz(s:Zi)(wd:Int):Zi×Zi×Bool:=Bp (Ew s wd).2.1 (Ew s wd).2.2 (1:Nat)
def NF(s:Zi)(wd:Int):Int:=CN (Fz s wd).1.data.toList
def BV(s:Zi)(wd:Int):Zi×Zi×Bool:=Bp (Fz s wd).2.1 (Fz s wd).2.2 (NF s wd)
def Bl(s:Zi)(wd:Int):Zi×Zi×Bool:=if Eb (AZ s wd)=bg then Bp (BV s wd).2.1 (BV s wd).2.2 wd else (⟨#[]⟩,(BV s wd).2)
def Bk(s:Zi)(wd:Int):Zi×Zl:=if CH (AZ s wd)=bg then ((rd (Fj (Bl s wd).2.1 (Bl s wd).2.2) wd).1,(rd (Fj (Bl s wd).2.1 (Bl s wd).2.2) wd).2.1)else (⟨#[]⟩,[])
def CV(s:Zi)(wd:Int):Zi×Bool:=if CH (AZ s wd)=bg then (Kl (Bl s wd).2.1 (Bl s wd).2.2,GC (Bl s wd).2.1 (Bl s wd).2.2 wd)else (Bl s wd).2
def Ga(s:Zi)(wd:Int):Bool:=(CV s wd).2|| !bx ((CV s wd).1.size=0)
def Km(s:Zi)(wd:Int):Bool:=Cn (AZ s wd) (Bl s wd).1 (BV s wd).1 (Fq s wd) (Bk s wd).1 (Bk s wd).2 wd
def CO(s:Zi)(wd:Int):Bool:=Ga s wd|| !Km s wd
theorem FL{a:Bool}(h:(Bp rest a n).2.2=bq):a=bq:=by
 unfold Bp at h;cases a
 .rfl
 simp at h
theorem RH(s:Zi)(a:Int):(rd s a).1.size<=s.size:=by
 unfold rd;split
 .split
  .exact Aq _
  unfold Lb DM;split
  .simp;omega
  exact Aq _
 exact Aq _
theorem Fe(rest:Zi)(a:Bool)(n:Int):(Bp rest a n).1.size<=rest.size/\(Bp rest a n).2.1.size<=rest.size:=by
 unfold Bp;split
 .exact⟨Aq _,Zx⟩
 split
 .exact⟨Aq _,Zx⟩
 simp;omega
structure EW (w W:Zh) (b:Nat) (rest:Zi) (kind:Int) (bad:Bool):Prop where
 rs:Ej W b rest kind bad
 env:Env W
 gr:ep w W (an b)
 gh:Aa W w.1.size [Ze,Zc,Zc,Ze,Zc,Zb]
def OI(b:Nat):Prop:=∀g∈[0,1,2,3,6,7,5,4],g<b
theorem EW.step{c:Zi}{g d:Bool}(h:EW w W b rest kind g)(i:OI b)(j:b<w.1.size)(k:Ej e b c a d)(f:ep W e (an b)):EW w e b c a d:=
 ⟨k,h.env.jk f i,h.gr.ag f,h.gh.co f j⟩
theorem EW.A{c:Zh}(h:EW w W b rest kind bad)(a:Zz W c):EW w c b rest kind bad:=
 ⟨h.rs.A a,h.env.A a,h.gr.ag (Af _ a),h.gh.A a⟩
theorem EW.set{a:Bool}(h:EW w W b rest kind a)(c:OI b)(i:b<w.1.size)(B j:Nat)(v:D4)(f:w.1.size<B):EW w (ev W (Zd B j) v) b rest kind a:=
 ⟨h.rs.co (As W B j v) Yv,h.env.jk (As W B j v) (λg d=>Dl (c g d)),h.gr.andThen (As W B j v) (λd e=>by cases e;exact dp Yv),h.gh.au (As W B j v) Yv⟩
theorem SD(s:Zi)(a:Int):0<=NF s a:=(Mi _).1
theorem WB(h:(BV s c).2.2=bq):0<=c:=by have e:=FL h;have d:=FL e;have b:=FL d;unfold FZ at b;have a:=FL (Bool.or_eq_false_iff.1 b).1;unfold GX at a;simp at a;omega
theorem Aab{wd:Int}(j:s.size<=1048576):(BV s wd).1.size<=1048576/\(Bl s wd).2.1.size<=1048576/\(Bk s wd).1.size<=1048576/\(CV s wd).1.size<=1048576:=by
 obtain⟨f,g,h,b,i⟩:=Fe s (GX wd) (1:Nat),Fe (EH s wd).2.1 (FZ s wd) (4:Nat),Fe (Ew s wd).2.1 (Ew s wd).2.2 (1:Nat),Fe (Fz s wd).2.1 (Fz s wd).2.2 (NF s wd),Fe (BV s wd).2.1 (BV s wd).2.2 wd;have k:=Zm f.2 j;have l:=Zm g.2 k;have c:=Zm h.2 l;have d:=Zm b.2 c;have e:=Zm b.1 c;have a:(Bl s wd).2.1.size<=1048576:=by
  unfold Bl;split
  .exact Zm i.2 d
  exact d
 refine⟨e,a,?_,?_⟩
 .unfold Bk;split
  .exact Zm (RH _ _) (RG a)
  exact Aq _
 unfold CV;split
 .exact Zm (Fe _ _ _).2 a
 exact a
theorem WC(s:Zi)(a:Int):eh (Bk s a).2<=255:=by
 unfold Bk;split
 .exact YC _ _
 exact Aq _
theorem EW.lt(h:EW w W b rest kind bad):w.1.size<W.1.size:=h.gh.lt
theorem UB(wd:Int)(h:Ej w b s 0 bq)(m:Env w)(l:OI b)(hs:s.size<=1048576):
 D8 94 #[Yy b,Zg wd] w λe g=>∃v,e=C5 (ct #[Zg (AZ s wd),C4 (Bl s wd).1,C4 (BV s wd).1,Zg (Fq s wd),C4 (Bk s wd).1,v])/\
  eo g w.1.size 9 1 v (eh (Bk s wd).2) ((Bk s wd).2.map string)/\Ej g b (CV s wd).1 (AZ s wd) (CO s wd)/\ep w g (an b):=by
 obtain⟨c,i,W,f⟩:=h.lt,Yw l,D6 w Yb 91;have a:=(Ax f).1;have d:Hid (EW w W b s 0 bq):=⟨h.A a,m.A a,Af _ a,by rw[f];exact Aa.new w _ _⟩;have n:=Yw f;clear f h m l a;have⟨l,m,f⟩:=d.env.er 0 Yu;delta D8;go_in;go_upto_region 1 with fail;rw[<-n.o];clear n;have o:bx (1<=wd/\wd<=8)= !GX wd:=by unfold GX;simp
 go_upto_if 10 with(go_at_call 27;refine(WA wd _).ai ?_;rintro e g ⟨rfl,a⟩;rw[a];clear a g);go_cut [] (λg=>Hid (EW w g b s 0 (GX wd)))
 case first=>
  cases hb0:GX wd with
  |true=>go_wp2_with fail;refine(Gv l m d.rs).ai ?_;rintro e w1 ⟨rfl,h1,g1⟩;go_wp2_with fail;go_meet;rw[hb0];exact d.step i c h1 g1
  |false=>go_wp2_with fail;go_meet;rw[hb0];exact d.o
 case rest=>
 revert wc;intro w1 n;clear d f o;have⟨st,sv,f⟩:=n.env.er 6 Yu;go_wp2_with fail;refine(Hj 1 st sv n.rs Yv f).ai ?_;rintro e w2 ⟨rfl,t,r⟩;have d:Hid (EW w w2 b (EH s wd).2.1 0 (EH s wd).2.2):=n.step i c t r;rw[show CN (Bp s (GX wd) (1:Nat)).1.data.toList=AZ s wd from rfl];have⟨W3,a⟩:=D7 w2 b 1 (Zg (AZ s wd));have o:Hid (EW w W3 b (EH s wd).2.1 (AZ s wd) (EH s wd).2.2):=by rw[a];exact d.step i c (d.rs.setKind _) (As _ _ _ _)
 have⟨yB,_,E,x,F,B,C,D⟩:=d.rs;have q:=Yw a;clear a t r f n;go_upto_region 4 with fail;rw[<-q.o];clear q E x F B C D d;have⟨yC,_,E,x,F,B,C,D⟩:=o.rs;go_wp2_with fail;refine(QR (AZ s wd) o.env.js).ai ?_;rintro e w4 ⟨rfl,t⟩;have u:Hid (EW w w4 b (EH s wd).2.1 (AZ s wd) (EH s wd).2.2):=o.A t;have⟨T,a⟩:=D6 w4 #[ef (Fb (AZ s wd)),ef (Eb (AZ s wd)),ef (CH (AZ s wd)),Zg (Fc (AZ s wd))] 189;have r:=(Ax a).1;have d:Hid (EW w T b (EH s wd).2.1 (AZ s wd) (EH s wd).2.2):=u.A r;have⟨U,n⟩:=Ag w4.1.size;have y:Hid (Aa T U [ef (Fb (AZ s wd)),ef (Eb (AZ s wd)),ef (CH (AZ s wd)),Zg (Fc (AZ s wd))]):=by rw[a,n];exact Aa.new w4 _ _
 have yF:w.1.size<U:=by rw[n];exact u.lt
 have q:=Yw a;have HU:=Yw n;clear a n r t o u E x F B C D;have⟨l,m,f⟩:=d.env.er 1 Yu;go_upto_region 5 with fail;rw[<-q.o,<-HU.o];clear q HU;go_upto_if 28 with fail;go_cut [6] (λ_ g=>Hid (EW w g b (EH s wd).2.1 (AZ s wd) (FZ s wd))/\Hid (Aa g U [ef (Fb (AZ s wd)),ef (Eb (AZ s wd)),ef (CH (AZ s wd)),Zg (Fc (AZ s wd))]))
 case first=>
  cases hi:EO (AZ s wd)with
  |true=>go_wp2_with fail;go_meet;refine⟨?_,y⟩;rw[show FZ s wd=(EH s wd).2.2 by unfold FZ;rw[hi];simp];exact d.o
  |false=>go_wp2_with fail;refine(Gv l m d.rs).ai ?_;rintro e a ⟨rfl,h6,g6⟩;go_wp2_with fail;go_meet;refine⟨?_,y.co g6 Yv⟩;rw[show FZ s wd=bg by unfold FZ;rw[hi];simp];exact d.step i c h6 g6
 case rest=>
 revert wc;intro a hcut;obtain⟨n,z⟩:=hcut;clear d y f;have⟨d,zE⟩:∃d:Nat,d=0:=⟨_,rfl⟩;clear zE d;have r:=Yw (n.A ((Below.refl a.1.size a).drew));have q:bs a.1.size a (a.alloc (ca Yb 91)):=Zy;have o:=Yw (n.A q.drew);have t:Hid (Aa (a.alloc (ca Yb 91)).drew a.1.size Ya):=Aa.new a _ _;have⟨yD,_,E,x,F,B,C,D⟩:=n.rs;have M:ek (a.alloc (ca Yb 91)) (Zd b 1)=an (Zg (AZ s wd)):=(q.cell (p:=⟨b,1,ba⟩) n.rs.lt).ag x;have⟨l,m,f⟩:=r.env.er 6 Yu;obtain⟨⟨zS,zT,y⟩,zH,zV⟩:=o.env.er 6 Yu,n.rs.lt,n.lt;clear q;go_upto_region 7 with fail;go_cut [7] (λv g=>∃d:Nat,v=Yy d/\a.1.size<=d/\Hid (EW w g b (Ew s wd).2.1 (AZ s wd) (Ew s wd).2.2)/\Hid (ep a g (an b))/\Hid (Aa g d [Zg (AZ s wd),Zc,Zc,Zg (Fq s wd),Zc,Zb]))
 case first=>
  go_region_with (first
   |(go_at_call 125;refine(Hj 4 l m r.rs Yv f).ai ?_;rintro e u ⟨rfl,X,N⟩;have S:Hid (EW w u b (Ew s wd).2.1 (AZ s wd) (Ew s wd).2.2):=r.step i c X N;obtain⟨er7,_,y0,y1,y2,_,_,_⟩:=X;have K:=N;have zU:=S.rs.lt)
   |(go_at_call 125;refine(Hj 4 zS zT o.rs Yv y).ai ?_;rintro e u ⟨rfl,X,N⟩;have S:Hid (EW w u b (Ew s wd).2.1 (AZ s wd) (Ew s wd).2.2):=o.step i c X N;obtain⟨er7,_,y0,y1,y2,_,_,_⟩:=X;have H:=Aa.co t N zH;have Y:=(H 0 _ rfl);have P:=(H 1 _ rfl);have I:=(H 2 _ rfl);have Z:=(H 3 _ rfl);have Q:=(H 4 _ rfl);have R:=(H 5 _ rfl);obtain⟨Y,y0f⟩:=Y;obtain⟨P,y1f⟩:=P;obtain⟨I,y2f⟩:=I;obtain⟨Z,y3f⟩:=Z;obtain⟨Q,y4f⟩:=Q;obtain⟨R,y5f⟩:=R;have zI:=N;have zU:=S.rs.lt))
  all_goals go_wp2_with fail
  all_goals go_meet
  all_goals first
   |(have hA:bs u.1.size u (u.alloc (ca #[Zg (AZ s wd),Zc,Zc,Zg (Fq s wd),Zc,Zb] 91)):=Zy
     exact⟨u.1.size,rfl,K.size,S.A hA,((Af (an b) (Below.refl a.1.size a).drew).ag K).ag (Af _ hA),Aa.new u _ _⟩)
   |(have A:w.1.size<a.1.size:=zV
     refine⟨a.1.size,rfl,Zx,?_,?_,?_⟩
     .exact(((((S.set i c a.1.size 0 _ A).set i c a.1.size 1 _ A).set i c a.1.size 2 _ A).set i c a.1.size 3 _ A).set i c a.1.size 4 _ A).set i c a.1.size 5 _ A
     .have g0:ep a u (an b):=(Af (an b) ((Below.refl a.1.size a).alloc (Zx) _).drew).ag zI;exact(((((g0.andThen (As _ a.1.size 0 _) (λj e=>by cases e;exact dp (Zx))).andThen (As _ a.1.size 1 _) (λj e=>by cases e;exact dp (Zx))).andThen (As _ a.1.size 2 _) (λj e=>by cases e;exact dp (Zx))).andThen (As _ a.1.size 3 _) (λj e=>by cases e;exact dp (Zx))).andThen (As _ a.1.size 4 _) (λj e=>by cases e;exact dp (Zx))).andThen (As _ a.1.size 5 _) (λj e=>by cases e;exact dp (Zx))
     exact(((((H.set 0 _).set 1 _).set 2 _).set 3 _).set 4 _).set 5 _)
 case rest=>
 revert wc;intro w8 hcut;obtain⟨d,rfl,zE,q,G,L⟩:=hcut;have yE:U<d:=Zr z.lt zE;have J:Hid (Aa w8 U [ef (Fb (AZ s wd)),ef (Eb (AZ s wd)),ef (CH (AZ s wd)),Zg (Fc (AZ s wd))]):=z.co G Yv;clear n z r o t E x F B C D M f y G;have t:w.1.size<d:=Yv;have⟨l,m,f⟩:=q.env.er 6 Yu;go_wp2_with fail;refine(Hj 1 l m q.rs Yv f).ai ?_;rintro e w9 ⟨rfl,r,n⟩;have o:Hid (EW w w9 b (Fz s wd).2.1 (AZ s wd) (Fz s wd).2.2):=q.step i c r n;have z:Hid (Aa w9 d [Zg (AZ s wd),Zc,Zc,Zg (Fq s wd),Zc,Zb]):=L.co n Yv;have y:Hid (Aa w9 U [ef (Fb (AZ s wd)),ef (Eb (AZ s wd)),ef (CH (AZ s wd)),Zg (Fc (AZ s wd))]):=J.co n Yv;rw[show CN (Bp (Ew s wd).2.1 (Ew s wd).2.2 (1:Nat)).1.data.toList=NF s wd from rfl];clear q L J r n f;have⟨l,m,f⟩:=o.env.er 6 Yu;go_wp2_with fail;refine(Jp (NF s wd) l m o.rs (λ_=>SD s wd) f).ai ?_;rintro e O ⟨rfl,q,n⟩;have G:Hid (EW w O b (BV s wd).2.1 (AZ s wd) (BV s wd).2.2):=o.step i c q n;have r:Hid (Aa O d [Zg (AZ s wd),Zc,Zc,Zg (Fq s wd),Zc,Zb]):=z.co n Yv;have L:Hid (Aa O U [ef (Fb (AZ s wd)),ef (Eb (AZ s wd)),ef (CH (AZ s wd)),Zg (Fc (AZ s wd))]):=y.co n Yv;rw[show(Bp (Fz s wd).2.1 (Fz s wd).2.2 (NF s wd)).1=(BV s wd).1 from rfl];clear o z y q n f;obtain⟨⟨I,M⟩,z,n⟩:=r 2 _ rfl,D7 O d 2 (C4 (BV s wd).1);have o:Hid (EW w z b (BV s wd).2.1 (AZ s wd) (BV s wd).2.2):=by rw[n];exact G.set i c d 2 _ t
 have J:Hid (Aa z d [Zg (AZ s wd),Zc,C4 (BV s wd).1,Zg (Fq s wd),Zc,Zb]):=by rw[n];exact r.set 2 _
 have y:Hid (Aa z U [ef (Fb (AZ s wd)),ef (Eb (AZ s wd)),ef (CH (AZ s wd)),Zg (Fc (AZ s wd))]):=by rw[n];exact L.au (As _ _ _ _) Yv
 have q:=Yw n;clear n G r L;go_upto_region 9 with fail;rw[<-q.o];clear q I M;obtain⟨M,_⟩:=y 1 _ rfl;go_upto_if 45 with fail;go_cut [] (λg=>Hid (EW w g b (Bl s wd).2.1 (AZ s wd) (Bl s wd).2.2)/\Hid (Aa g U [ef (Fb (AZ s wd)),ef (Eb (AZ s wd)),ef (CH (AZ s wd)),Zg (Fc (AZ s wd))])/\Hid (Aa g d [Zg (AZ s wd),C4 (Bl s wd).1,C4 (BV s wd).1,Zg (Fq s wd),Zc,Zb]))
 case first=>
  cases hu:Eb (AZ s wd)with
  |true=>
   have e5:Hid (Bl s wd=Bp (BV s wd).2.1 (BV s wd).2.2 wd):=by show _=_;unfold Bl;rw[if_pos hu]
   have⟨l,m,f⟩:=o.env.er 6 Yu;go_wp2_with fail;refine(Jp wd l m o.rs (λh=>WB h) f).ai ?_;rintro e zF ⟨rfl,L,n⟩;rw[<-e5.o]at L |-;have q:=o.step i c L n;have r:=J.co n Yv;obtain⟨G,P,yI⟩:=y.co n Yv,r 1 _ rfl;clear L n f M o J y;go_wp2_with fail;go_meet;refine⟨q.set i c d 1 _ t,?_,r.set 1 _⟩;exact G.au (As _ _ _ _) Yv
  |false=>
   have e5:Hid (Bl s wd=(⟨#[]⟩,(BV s wd).2)):=(by show _=_;unfold Bl;rw[if_neg (by rw[hu];decide)]);go_wp2_with fail;go_meet;rw[e5.o];exact⟨o,y,J⟩
 case rest=>
 revert wc;intro zF hcut;obtain⟨q,G,r⟩:=hcut;clear o J y M;obtain⟨zA,k,_⟩:=Yw (Aab (wd:=wd) hs),G 2 _ rfl;go_upto_if 51 with fail;go_cut [] (λg=>∃(n:Zk) (o:Nat),Hid (EW w g b (CV s wd).1 (AZ s wd) (CV s wd).2)/\Hid (Aa g d (Xz (AZ s wd) ((Bl s wd).1) ((BV s wd).1) (Fq s wd) ((Bk s wd).1) n (eh (Bk s wd).2) o))/\Hid (eo g (w.1.size+1) 9 1 (C2 n (Bk s wd).2 o) (eh (Bk s wd).2) ((Bk s wd).2.map string)))
 case first=>
  cases hu:CH (AZ s wd)with
  |true=>
   have e6:Hid (CV s wd=(Kl (Bl s wd).2.1 (Bl s wd).2.2,GC (Bl s wd).2.1 (Bl s wd).2.2 wd)):=(by show _=_;unfold CV;rw[if_pos hu]);have V:Hid (Bk s wd=((rd (Fj (Bl s wd).2.1 (Bl s wd).2.2) wd).1,(rd (Fj (Bl s wd).2.1 (Bl s wd).2.2) wd).2.1)):=(by show _=_;unfold Bk;rw[if_pos hu]);go_wp2_with fail;refine(Uz wd q.rs q.env i zA.2.1).ai ?_;rintro e zW ⟨v,rfl,ho,y,L⟩;have J:(rd (Fj (Bl s wd).2.1 (Bl s wd).2.2) wd).1=(Bk s wd).1:=(by rw[V.o]);have M:(rd (Fj (Bl s wd).2.1 (Bl s wd).2.2) wd).2.1=(Bk s wd).2:=(by rw[V.o]);rw[M]at ho;rw[J];clear J M;have y:Ej zW b (CV s wd).1 (AZ s wd) (CV s wd).2:=by rw[e6.o];exact y
   have⟨n,o,hv,_⟩:=Ei ho;subst hv;have zM:=q.step i c y L;have yA:=q.lt;have M:=r.co L Yv;obtain⟨zZ,⟨Q,yJ⟩,R,yK⟩:=M.lt,M 4 _ rfl,M 5 _ rfl;have J:d<zF.1.size:=r.lt;clear y L k q G r e6 V;go_wp2_with fail;go_meet;exact⟨n,o,(zM.set i c d 4 _ t).set i c d 5 _ t,(M.set 4 _).set 5 _,(ownsRow_setCell_below (ownsRow_setCell_below ho J _) J _).ai Yv⟩
  |false=>
   have e6:Hid (CV s wd=(Bl s wd).2):=(by show _=_;unfold CV;rw[if_neg (by rw[hu];decide)]);have V:Hid (Bk s wd=(⟨#[]⟩,[])):=(by show _=_;unfold Bk;rw[if_neg (by rw[hu];decide)]);go_wp2_with fail;go_meet;rw[e6.o,V.o];exact⟨ba,0,q,r,ownsRow_nil _ _ _ _⟩
 case rest=>
 revert wc;intro zX hcut;obtain⟨n,o,y,zB,L⟩:=hcut;clear q G r k;have⟨zY,_,E,x,F,B,C,D⟩:=y.rs;have⟨l,m,f⟩:=y.env.er 2 Yu;have q:∀k,ej (C2 n (Bk s wd).2 o)=an k->b<k:=λk r=>Dl (L.lt k r).1;have zJ:=Yw q;clear q;go_upto_if 60 with fail;go_cut [] (λg=>Hid (EW w g b (CV s wd).1 (AZ s wd) (Ga s wd))/\Hid (Aa g d (Xz (AZ s wd) ((Bl s wd).1) ((BV s wd).1) (Fq s wd) ((Bk s wd).1) n (eh (Bk s wd).2) o))/\Hid (eo g (w.1.size+1) 9 1 (C2 n (Bk s wd).2 o) (eh (Bk s wd).2) ((Bk s wd).2.map string)))
 case first=>
  have zK:=Yw (ND (s:=(CV s wd).1));cases hq:(CV s wd).1.toList.isEmpty with
  |true=>
   have q:(CV s wd).1.size=0:=by have:=zK.o;rw[hq]at this;simpa using this.symm
   have h0:=Yw q;clear q;clear hq;go_wp2_with fail;go_meet;rw[show Ga s wd=(CV s wd).2 by unfold Ga;rw[decide_eq_true h0.o];simp];exact⟨y,zB,L⟩
  |false=>
   have q:¬(CV s wd).1.size=0:=(by have:=zK.o;rw[hq]at this;simpa using this.symm);have h0:=Yw q;clear q;clear hq;go_wp2_with fail;refine(Gv l m y.rs).ai ?_;rintro e yG ⟨rfl,r,q⟩;have zN:=y.step i c r q;have zP:=zB.co q Yv;have zO:=L.kept q (eb (λe=>Dl (zJ b e)));clear r q E x F B C D f;go_wp2_with fail;go_meet;rw[show Ga s wd=bg by unfold Ga;rw[decide_eq_false h0.o];simp];exact⟨zN,zP,zO⟩
 case rest=>
 revert wc;intro zG hcut;obtain⟨G,zC,k⟩:=hcut;clear y zB L E x F B C D f;obtain⟨Y,P,I,Z,Q,R⟩:=Aa.c6 zC 0 1 2 3 4 5;have hlen:=WC s wd;have D:Hid (Ab zG zG.1.size n (Bk s wd).2):=by have⟨a',c',hv,L⟩:=Ei k;cases hv;exact L
 go_wp2_with fail;refine(Afb (AZ s wd) (Bl s wd).1 (BV s wd).1 (Fq s wd) (Bk s wd).1 o wd G.env.js D Yv (by have:=zA.2.2.1;unfold ew;omega) (by have:=zA.1;unfold ew;omega)).ai ?_;rintro e x ⟨rfl,q⟩;rw[show Cn (AZ s wd) (Bl s wd).1 (BV s wd).1 (Fq s wd) (Bk s wd).1 (Bk s wd).2 wd=Km s wd from rfl];have r:Hid (EW w x b (CV s wd).1 (AZ s wd) (Ga s wd)):=G.A q;have B:Hid (Aa x d (Xz (AZ s wd) ((Bl s wd).1) ((BV s wd).1) (Fq s wd) ((Bk s wd).1) n (eh (Bk s wd).2) o)):=zC.A q;have y:Hid (eo x (w.1.size+1) 9 1 (C2 n (Bk s wd).2 o) (eh (Bk s wd).2) ((Bk s wd).2.map string)):=k.kept (Af ba q) (Classical.em _);clear G zC k Y P I Z Q R q;have⟨l,m,f⟩:=r.env.er 3 Yu;go_upto_if 67 with fail;go_cut [] (λg=>Hid (EW w g b (CV s wd).1 (AZ s wd) (CO s wd))/\Hid (Aa g d (Xz (AZ s wd) ((Bl s wd).1) ((BV s wd).1) (Fq s wd) ((Bk s wd).1) n (eh (Bk s wd).2) o))/\Hid (eo g (w.1.size+1) 9 1 (C2 n (Bk s wd).2 o) (eh (Bk s wd).2) ((Bk s wd).2.map string)))
 case first=>
  cases hok:Km s wd with
  |true=>go_wp2_with fail;go_meet;rw[show CO s wd=Ga s wd by unfold CO;rw[hok];simp];exact⟨r,B,y⟩
  |false=>go_wp2_with fail;refine(Gv l m r.rs).ai ?_;rintro e k ⟨rfl,q,g⟩;have C:=r.step i c q g;have F:=B.co g Yv;have E:=y.kept g (eb (λe=>Dl (zJ b e)));clear q g f;go_wp2_with fail;go_meet;rw[show CO s wd=bg by unfold CO;rw[hok];simp];exact⟨C,F,E⟩
 case rest=>
 revert wc;intro yH hcut;obtain⟨g,G,q⟩:=hcut;clear r B y f;obtain⟨⟨Y,P,I,Z,Q,R⟩,⟨r0,y⟩,⟨r1,B⟩,⟨r2,q2⟩,⟨r3,q3⟩,⟨r4,q4⟩,r5,q5⟩:=Aa.c6 G 0 1 2 3 4 5,g.gh 0 _ rfl,g.gh 1 _ rfl,g.gh 2 _ rfl,g.gh 3 _ rfl,g.gh 4 _ rfl,g.gh 5 _ rfl;have f:b≠w.1.size:=Yv;go_wp2;refine C1 (ct (Ye (AZ s wd) ((Bl s wd).1) ((BV s wd).1) (Fq s wd) ((Bk s wd).1) n (eh (Bk s wd).2) o)) (by simp[results,results94,go_sem, *]) ?_;have r:w.1.size<w.1.size+1:=Yv;refine⟨_,rfl,?_,?_,?_⟩
 .refine ownsRow.ai ?_ (Nat.le_succ w.1.size)
  iterate 6 (refine ownsRow_setCell_below ?_ r _)
  exact q.o
 .exact(((((g.rs.co (As _ w.1.size 0 _) f).co (As _ w.1.size 1 _) f).co (As _ w.1.size 2 _) f).co (As _ w.1.size 3 _) f).co (As _ w.1.size 4 _) f).co (As _ w.1.size 5 _) f
 exact(((((g.gr.andThen (As _ w.1.size 0 _) (λj e=>by cases e;exact dp (Zx))).andThen (As _ w.1.size 1 _) (λj e=>by cases e;exact dp (Zx))).andThen (As _ w.1.size 2 _) (λj e=>by cases e;exact dp (Zx))).andThen (As _ w.1.size 3 _) (λj e=>by cases e;exact dp (Zx))).andThen (As _ w.1.size 4 _) (λj e=>by cases e;exact dp (Zx))).andThen (As _ w.1.size 5 _) (λj e=>by cases e;exact dp (Zx))
abbrev AJ(l:List UInt8):Zi:=⟨ei l⟩
theorem Aac(s:Zi):AJ s.data.toList=s:=rfl
theorem Ih(l:List UInt8)(a b:Nat):(AJ l).extract a b=AJ ((l.drop a).take (b -a)):=by apply ByteArray.ext;rw[ByteArray.data_extract];apply Array.ext';simp[take_drop]
theorem Ch(l:List UInt8):(AJ l).size=eh l:=by simp[ByteArray.size]
def Jq(T:List UInt8)(wd i:Nat):Zi:=AJ ((T.drop (i *wd)).take wd)
theorem UC(T:List UInt8)(a:Nat):∀k,k *a<=eh T->flat ((range k).map (Jq T a))=T.take (k *a):=by
 intro k;induction k with
 |zero=>intro _;simp[flat]
 |succ k ih=>
  intro h;have b:k *a<=eh T:=gG;rw[range_succ,map_append];unfold flat at *
  rw[flatMap_append,ih b];simp only[map_cons,map_nil,flatMap_cons,flatMap_nil,append_nil,Jq];rw[Nat.succ_mul,take_add]
theorem UD(a:Zl)(t:List UInt8)(b:Nat)(h:∀s∈a,s.size=b):(range (eh a)).map (Jq (flat a++t) b)=a:=by
 induction a with
 |nil=>rfl
 |cons s r ih=>
  have c:eh s.data.toList=b:=gA;have e:=ih (λx d=>h x gA);have d:flat (s::r)++t=s.data.toList++(flat r++t):=by simp[flat]
  rw[length_cons,range_succ_eq_map,map_cons,map_map,d];congr 1
  .unfold Jq;rw[Nat.zero_mul,drop_zero,take_left' c]
  refine Eq.trans ?_ e;apply map_congr_left;intro i _;simp only[Function.comp,Jq];congr 2;rw[show Nat.succ i *b=eh s.data.toList+i *b by rw[Nat.succ_mul,c];omega,<-drop_drop,drop_left]
theorem rd_mk(c:UInt8)(T:List UInt8)(a:Int)(e:1<=a)(f:a<=8):
 rd (AJ (c::T)) a=if c.toNat *a.toNat<=eh T/\AL (AJ (T.drop (c.toNat *a.toNat))) ((range c.toNat).map (Jq T a.toNat)) a=bg then (AJ (T.drop (c.toNat *a.toNat)),(range c.toNat).map (Jq T a.toNat),bg)else (⟨#[]⟩,[],bq):=by
 obtain⟨W,rfl⟩:∃W:Nat,a=W:=⟨a.toNat,Yv⟩;have b:(AJ (c::T)).size=eh T+1:=by rw[Ch];rfl
 have d:(AJ (c::T)).extract 1 (AJ (c::T)).size=AJ T:=by rw[b,Ih];simp
 have j:DM (AJ (c::T)) W c.toNat=AJ (T.drop (c.toNat *W)):=by unfold DM;rw[d,Ih,b];congr 2;rw[show((c.toNat:Int) *(W:Int)).toNat=c.toNat *W by rw[<-Int.natCast_mul];rfl];exact Zt Yu
 have h:BQ (AJ (c::T)) W c.toNat=(range c.toNat).map (Jq T W):=by unfold BQ;apply map_congr_left;intro i _;unfold Kk Jq;rw[d,Ih];congr 2;rw[show((i:Int) *(W:Int)).toNat=i *W by rw[<-Int.natCast_mul];rfl,show((i:Int) *(W:Int)+(W:Int)).toNat=i *W+W by rw[<-Int.natCast_mul];omega];congr 1;omega
 have g:((c.toNat:Int) *(W:Int)<=((AJ (c::T)).size:Int) -1)↔c.toNat *W<=eh T:=Yv;unfold rd;rw[if_pos ⟨e,f⟩];simp only[head?_cons];unfold Lb;rw[j,h];simp only[g,Int.toNat_natCast]
theorem WD(h:(rd (AJ l) a).2.2=bg):AL (rd (AJ l) a).1 (rd (AJ l) a).2.1 a=bg/\BX (rd (AJ l) a).1 (rd (AJ l) a).2.1=l:=by
 by_cases hw:1<=a/\a<=8
 .cases l with
  |nil=>unfold rd at h;rw[if_pos hw]at h;simp at h
  |cons c T=>
   rw[rd_mk c T a hw.1 hw.2]at h |-;split at h
   case isTrue hc=>
    rw[if_pos hc];refine⟨hc.2,?_⟩;simp only[BX,B0,length_range];rw[UC T a.toNat c.toNat hc.1];simp
   case isFalse hc=>simp at h
 unfold rd at h;rw[if_neg hw]at h;simp at h
theorem QS{a:Zl}{b:Int}(h:AL t a b=bg):rd (AJ (BX t a)) b=(t,a,bg):=by
 have p:=BC h;have d:∀s∈a,s.size=b.toNat:=λs c=>by have⟨i,f⟩:=A9 c;have:=p.size f;omega
 have g:(UInt8.ofNat (eh a)).toNat=eh a:=by have:=p.D;simp;omega
 have c:eh (flat a)=eh a *b.toNat:=by rw[DK,p.bz]
 unfold BX;rw[rd_mk _ _ b p.lo p.hi,g,UD a t.data.toList b.toNat d];have e:(flat a++t.data.toList).drop (eh a *b.toNat)=t.data.toList:=gA;rw[e,Aac,if_pos ⟨by rw[Am,c];omega,h⟩]
section
structure ER where
 k:Int
 sum:Zi
 name:Zi
 n:Int
 t:Zi
 ss:Zl
 ok:Bool
def Ii:ER:=⟨0,⟨#[]⟩,⟨#[]⟩,0,⟨#[]⟩,[],bq⟩
def AK(s:Zi)(wd:Int):ER:=
 if CO s wd=bg then Ii else ⟨AZ s wd,(Bl s wd).1,(BV s wd).1,Fq s wd,(Bk s wd).1,(Bk s wd).2,bg⟩
def UE(k:Int)(rest:List UInt8):Zi:=if k=1 then ⟨#[]⟩else AJ rest
def UF(k:Int)(rest:List UInt8)(wd:Int):Zi:=if k=1 then (rd (AJ rest) wd).1 else ⟨#[]⟩
def UG(k:Int)(rest:List UInt8)(wd:Int):Zl:=if k=1 then (rd (AJ rest) wd).2.1 else []
def Py(k n:Int)(name rest l:List UInt8)(wd:Int):Bool:=
 Cn k (UE k rest) (AJ name) n (UF k rest wd) (UG k rest wd) wd&&bx (Cv k (UE k rest) (AJ name) n (UF k rest wd) (UG k rest wd) wd=AJ l)
theorem Ex(l:List UInt8)(n:Nat)(h:n<=eh l):Bp (AJ l) bq n=(AJ (l.take n),AJ (l.drop n),bq):=by unfold Bp;rw[if_neg Yq,if_neg (by rw[Ch];omega),Ih,Ih,Ch];simp;exact Zt Yu
theorem Fs(l:List UInt8)(n:Int)(h:(eh l:Int)<n):Bp (AJ l) bq n=(⟨#[]⟩,AJ l,bg):=by unfold Bp;rw[if_neg Yq,if_pos (by rw[Ch];exact h)]
theorem Hk(r:Zi)(n:Int):Bp r bg n=(⟨#[]⟩,r,bg):=by simp[Bp]
theorem Jr{b:Int}(h:(BV s b).2.2=bg):CO s b=bg:=by
 cases hb:CO s b with
 |true=>rfl
 |false=>
  unfold CO at hb;have d:=(Bool.or_eq_false_iff.1 hb).1;unfold Ga at d;have a:=(Bool.or_eq_false_iff.1 d).1;have c:(Bl s b).2.2=bq:=by
   unfold CV at a;split at a
   .simp only[GC]at a;exact FL (Bool.or_eq_false_iff.1 a).1
   exact a
  have e:(BV s b).2.2=bq:=by
   unfold Bl at c;split at c
   .exact FL c
   exact c
  rw[e]at h;cases h
theorem Lz(h:(Fz s a).2.2=bg):(BV s a).2.2=bg:=by unfold BV;rw[h,Hk]
theorem Pz(h:(Ew s a).2.2=bg):(Fz s a).2.2=bg:=by unfold Fz;rw[h,Hk]
theorem WE(h:FZ s a=bg):(Ew s a).2.2=bg:=by unfold Ew;rw[h,Hk]
theorem Gw(h:FZ s a=bg):CO s a=bg:=Jr (Lz (Pz (WE h)))
theorem WG(h:¬(1<=a/\a<=8)):CO s a=bg:=by refine Gw ?_;unfold FZ EH;rw[show GX a=bg by unfold GX;simp;omega,Hk];rfl
theorem YD(b:1<=a)(c:a<=8):GX a=bq:=by unfold GX;simp[b,c]
theorem YE(a:UInt8):CN [a]=(a.toNat:Int):=by simp[CN]
theorem YF(a b c d:UInt8):CN [a,b,c,d]=(a.toNat:Int) *16777216+(b.toNat:Int) *65536+(c.toNat:Int) *256+(d.toNat:Int):=by simp only[CN,foldl_cons,foldl_nil];omega
theorem Acf(b:1<=a)(c:a<=8):CO (AJ []) a=bg:=by refine Gw ?_;unfold FZ EH;rw[YD b c,Fs [] _ Yu];rfl
theorem KJ{b:Int}(a:UInt8)(l:List UInt8)(c:1<=b)(d:b<=8):EH (AJ (a::l)) b=(AJ [a],AJ l,bq):=by unfold EH;rw[YD c d,Ex _ _ Yu];rfl
theorem UH{b:Int}(a:UInt8)(l:List UInt8)(c:1<=b)(d:b<=8):AZ (AJ (a::l)) b=(a.toNat:Int):=by unfold AZ;rw[KJ a l c d];exact YE a
theorem Ht{b:Int}(a:UInt8)(l:List UInt8)(c:1<=b)(d:b<=8):FZ (AJ (a::l)) b= !EO (a.toNat:Int):=by unfold FZ;rw[KJ a l c d,UH a l c d];rfl
theorem WH(a:UInt8)(l:List UInt8)(b:1<=d)(c:d<=8)(e:eh l<4):CO (AJ (a::l)) d=bg:=by
 cases hk:EO (a.toNat:Int)with
 |false=>exact Gw (by rw[Ht a l b c,hk];rfl)
 |true=>refine Jr (Lz (Pz ?_));unfold Ew;rw[Ht a l b c,hk,KJ a l b c];rw[show(!true)=bq from rfl,Fs l _ Yv]
theorem SE(b c d e f:UInt8)(l:List UInt8)(g:1<=a)(h:a<=8)(i:EO (b.toNat:Int)=bg):Ew (AJ (b::c::d::e::f::l)) a=(AJ [c,d,e,f],AJ l,bq):=by unfold Ew;rw[Ht _ _ g h,i,KJ _ _ g h];rw[show(!true)=bq from rfl,Ex _ _ Yu];rfl
theorem WI{b:Int}(a c d e f:UInt8)(g:1<=b)(h:b<=8)(i:EO (a.toNat:Int)=bg):CO (AJ [a,c,d,e,f]) b=bg:=by refine Jr (Lz ?_);unfold Fz;rw[SE a c d e f [] g h i,Fs [] _ Yu]
theorem SF(a d e f g b:UInt8)(T:List UInt8)(h:1<=c)(i:c<=8)(j:EO (a.toNat:Int)=bg):Fz (AJ (a::d::e::f::g::b::T)) c=(AJ [b],AJ T,bq):=by unfold Fz;rw[SE a d e f g (b::T) h i j,Ex _ _ Yu];rfl
theorem Acg(b d e f g a:UInt8)(T:List UInt8)(h:1<=c)(i:c<=8)(j:EO (b.toNat:Int)=bg):NF (AJ (b::d::e::f::g::a::T)) c=(a.toNat:Int):=by unfold NF;rw[SF b d e f g a T h i j];exact YE a
theorem WJ(a c d e f b:UInt8)(T:List UInt8)(h:1<=g)(i:g<=8)(j:EO (a.toNat:Int)=bg)(hT:eh T<b.toNat):CO (AJ (a::c::d::e::f::b::T)) g=bg:=by refine Jr ?_;unfold BV;rw[Acg a c d e f b T h i j,SF a c d e f b T h i j,Fs T _ Yv]
theorem Ady(b c d e f a:UInt8)(T:List UInt8)(h:1<=g)(i:g<=8)(j:EO (b.toNat:Int)=bg)(hT:a.toNat<=eh T):BV (AJ (b::c::d::e::f::a::T)) g=(AJ (T.take a.toNat),AJ (T.drop a.toNat),bq):=by unfold BV;rw[Acg b c d e f a T h i j,SF b c d e f a T h i j,Ex T _ hT]
theorem Afe{f:Int}(a b c d e:UInt8)(l:List UInt8)(g:1<=f)(h:f<=8)(i:EO (a.toNat:Int)=bg):Fq (AJ (a::b::c::d::e::l)) f=CN [b,c,d,e]:=by unfold Fq;rw[SE a b c d e l g h i]
theorem Hu(a:UInt8)(x:Int)(h:x=(a.toNat:Int)):u8 x=a:=by subst h;simp[u8]
theorem WK(e a b c d f:UInt8):Di (e.toNat:Int) (CN [a,b,c,d]) (f.toNat:Int)=[e,a,b,c,d,f]:=by have g:=a.toNat_lt;have h:=b.toNat_lt;have i:=c.toNat_lt;have j:=d.toNat_lt;unfold Di;rw[YF];rw[Hu e _ rfl,Hu f _ rfl,Hu a _ Yv,Hu b _ Yv,Hu c _ Yv,Hu d _ Yv]
theorem Aad(h:EO (k:Int)=bg):1<=k/\k<=7:=by unfold EO at h;simp at h;omega
theorem Aae{k:Int}{b a:Zi}{c:Zl}(h:EO k=bq):Cn k b a n t c d=bq:=by unfold Cn;unfold EO at h;rw[h];rfl
theorem NG{b a:Zi}{c:Zl}(h:Cn (k:Int) b a n t c d=bg):De k b a n t c d=bg:=by unfold Cn at h;exact(Bool.and_eq_true_iff.1 h).2
theorem RI{b a:Zi}{e:Zl}(h:Cn (k:Int) b a n t e d=bg):Et (Ea k) b d=bg:=by have c:=NG h;unfold De at c;exact(Bool.and_eq_true_iff.1 (Bool.and_eq_true_iff.1 c).2).1
theorem SG(h:(AJ l).size=0):AJ l=⟨#[]⟩:=by rw[Ch]at h;rw[B8 h]
theorem Mj{b a:Zi}{c:Zl}(h:Cn (k:Int) b a n t c d=bg):Cv k b a n t c d=AJ l↔Ev k b a n t c=l:=by
 unfold Cv;rw[if_pos h,Int.toNat_natCast];constructor
 .intro e;have:=congrArg (λs:Zi=>s.data.toList) e;simpa using this
 intro e;rw[e]
theorem NH(b f g i j c:UInt8)(T:List UInt8)(y:1<=a)(z:a<=8)(hT:c.toNat<=eh T):
 AK (AJ (b::f::g::i::j::c::T)) a=
  if Py (b.toNat:Int) (CN [f,g,i,j]) (T.take c.toNat) (T.drop c.toNat) (b::f::g::i::j::c::T) a=bg then
   ⟨(b.toNat:Int),UE (b.toNat:Int) (T.drop c.toNat),AJ (T.take c.toNat),CN [f,g,i,j],UF (b.toNat:Int) (T.drop c.toNat) a,UG (b.toNat:Int) (T.drop c.toNat) a,bg⟩
  else Ii:=by
 cases hk:EO (b.toNat:Int)with
 |false=>unfold AK;rw[if_pos (Gw (by rw[Ht _ _ y z,hk];rfl)),if_neg (by unfold Py;rw[Aae hk];simp)]
 |true=>
  have⟨R,S⟩:=Aad hk;obtain⟨k,o,w⟩:=Ady b f g i j c T y z hk hT,UH b (f::g::i::j::c::T) y z,Afe b f g i j (c::T) y z hk;have L:(AJ (T.take c.toNat)).size=c.toNat:=by rw[Ch];simp;omega
  have B:∀x:List UInt8,Di (b.toNat:Int) (CN [f,g,i,j]) ((AJ (T.take c.toNat)).size:Int)++(AJ (T.take c.toNat)).data.toList++x=(b::f::g::i::j::c::T)↔x=T.drop c.toNat:=by
   intro x;rw[L,WK];constructor
   .intro h;have P:T.take c.toNat++x=T:=gA;have Q:T.take c.toNat++x=T.take c.toNat++T.drop c.toNat:=Yt;exact gG
   intro h;rw[h];simp
  generalize hs:(AJ (b::f::g::i::j::c::T))=s at *
  generalize hnm:AJ (T.take c.toNat)=name at *
  generalize hrs:T.drop c.toNat=rest at *
  generalize hn:CN [f,g,i,j]=n at *
  by_cases hk1:b.toNat=1
  .
   have E:Eb (AZ s a)=bq:=(by rw[o,hk1];rfl);have F:CH (AZ s a)=bg:=(by rw[o,hk1];rfl);have d:Bl s a=(⟨#[]⟩,AJ rest,bq):=(by unfold Bl;rw[if_neg Yt,k]);have D:Fj (AJ rest) bq=AJ rest:=(by unfold Fj;rw[Ch,Ex _ _ (Zx)];simp);have N:Kl (AJ rest) bq=⟨#[]⟩:=(by unfold Kl;rw[Ch,Ex _ _ (Zx)];simp);have I:GC (AJ rest) bq a= !(rd (AJ rest) a).2.2:=(by unfold GC;rw[D,Ch,Ex _ _ (Zx)];rfl);have p:Bk s a=((rd (AJ rest) a).1,(rd (AJ rest) a).2.1):=(by unfold Bk;rw[if_pos F,d];simp only[D]);have q:CV s a=(⟨#[]⟩, !(rd (AJ rest) a).2.2):=(by unfold CV;rw[if_pos F,d];simp only[N,I]);have t:Km s a=Cn (b.toNat:Int) ⟨#[]⟩ name n (rd (AJ rest) a).1 (rd (AJ rest) a).2.1 a:=(by unfold Km;rw[o,w,k,d,p]);have r:CO s a=(!(rd (AJ rest) a).2.2|| !Cn (b.toNat:Int) ⟨#[]⟩ name n (rd (AJ rest) a).1 (rd (AJ rest) a).2.1 a):=(by unfold CO Ga;rw[t,q];simp[ByteArray.size]);have u:((b.toNat:Int)=1):=Yv
   unfold AK Py UE UF UG;rw[if_pos u,if_pos u,if_pos u,hnm,r,o,d,k,w,p];simp only;cases m:Cn (b.toNat:Int) ⟨#[]⟩ name n (rd (AJ rest) a).1 (rd (AJ rest) a).2.1 a with
   |false=>simp
   |true=>
    have H:=Mj (l:=b::f::g::i::j::c::T) m;have O:=(GB (NG m)).fh hk1;have J:Ev b.toNat ⟨#[]⟩ name n (rd (AJ rest) a).1 (rd (AJ rest) a).2.1=(b::f::g::i::j::c::T)↔BX (rd (AJ rest) a).1 (rd (AJ rest) a).2.1=rest:=(by rw[<-B];unfold Ev;rw[if_pos hk1];simp);rw[J]at H;have K:BX (rd (AJ rest) a).1 (rd (AJ rest) a).2.1=rest↔(rd (AJ rest) a).2.2=bg:=by
     constructor
     .intro e;have:=QS O;rw[e]at this;rw[this]
     intro e;exact(WD e).2
    rw[K]at H;cases hr:(rd (AJ rest) a).2.2 with
    |true=>rw[if_neg Yu,if_pos gA]
    |false=>rw[if_pos Yu,if_neg gA]
  have F:CH (AZ s a)=bq:=by rw[o];unfold CH CQ;simp[hk1]
  have u:¬((b.toNat:Int)=1):=Yv;have p:Bk s a=(⟨#[]⟩,[]):=by unfold Bk;rw[if_neg Yt]
  have q:CV s a=(Bl s a).2:=by unfold CV;rw[if_neg Yt]
  have v:∀A,Cn (b.toNat:Int) A name n ⟨#[]⟩ [] a=bg->A=AJ rest->Cv (b.toNat:Int) A name n ⟨#[]⟩ [] a=s:=by intro A m e;rw[<-hs];refine(Mj (l:=b::f::g::i::j::c::T) m).2 ?_;unfold Ev;rw[if_neg hk1,e,append_nil];exact(B rest).2 rfl
  unfold AK Py UE UF UG;rw[if_neg u,if_neg u,if_neg u,hnm,hs];cases hu:Ea b.toNat with
  |true=>
   have E:Eb (AZ s a)=bg:=(by rw[o];unfold Eb;rw[hk,Int.toNat_natCast,hu];rfl);have d:Bl s a=Bp (AJ rest) bq a:=(by unfold Bl;rw[if_pos E,k]);obtain⟨W,rfl⟩:∃W:Nat,a=W:=⟨a.toNat,Yv⟩;by_cases hsz:eh rest=W
   .rw[Ex rest W Yv,Zt Yv,drop_of_length_le Yv]at d;have t:Km s W=Cn (b.toNat:Int) (AJ rest) name n ⟨#[]⟩ [] W:=(by unfold Km;rw[o,w,k,d,p]);have r:CO s W= !Cn (b.toNat:Int) (AJ rest) name n ⟨#[]⟩ [] W:=by unfold CO Ga;rw[t,q,d];simp[ByteArray.size]
    rw[r,o,d,k,w,p];simp only;cases m:Cn (b.toNat:Int) (AJ rest) name n ⟨#[]⟩ [] W with
    |false=>simp
    |true=>rw[if_neg Yu,if_pos (by simp;exact v _ m rfl)]
   have M:Cn (b.toNat:Int) (AJ rest) name n ⟨#[]⟩ [] W=bq:=by
    cases m:Cn (b.toNat:Int) (AJ rest) name n ⟨#[]⟩ [] W with
    |false=>rfl
    |true=>have:=RI m;rw[hu]at this;unfold Et at this;rw[if_pos rfl,Ch]at this;simp at this;omega
   have G:CO s W=bg:=by
    unfold CO Ga;rw[q,d];by_cases hl:eh rest<W
    .rw[Fs rest _ Yv];simp
    rw[Ex rest W Yv];have:(AJ (rest.drop W)).size≠0:=(by rw[Ch];simp;omega);simp[this]
   rw[if_pos G,if_neg gA]
  |false=>
   have E:Eb (AZ s a)=bq:=(by rw[o];unfold Eb;rw[hk,Int.toNat_natCast,hu];rfl);have d:Bl s a=(⟨#[]⟩,AJ rest,bq):=(by unfold Bl;rw[if_neg Yt,k]);by_cases hsz:eh rest=0
   .have C:=SG (by rw[Ch];exact hsz);have t:Km s a=Cn (b.toNat:Int) (AJ rest) name n ⟨#[]⟩ [] a:=(by unfold Km;rw[o,w,k,d,p,C]);have r:CO s a= !Cn (b.toNat:Int) (AJ rest) name n ⟨#[]⟩ [] a:=by unfold CO Ga;rw[t,q,d];simp[Ch,hsz]
    rw[r,o,d,k,w,p];simp only;cases m:Cn (b.toNat:Int) (AJ rest) name n ⟨#[]⟩ [] a with
    |false=>simp
    |true=>rw[if_neg Yu,if_pos (by simp;exact v _ m rfl),C]
   have M:Cn (b.toNat:Int) (AJ rest) name n ⟨#[]⟩ [] a=bq:=by
    cases m:Cn (b.toNat:Int) (AJ rest) name n ⟨#[]⟩ [] a with
    |false=>rfl
    |true=>have:=RI m;rw[hu]at this;unfold Et at this;rw[if_neg Yq,Ch]at this;simp at this;simp[this]at hsz
   have G:CO s a=bg:=by
    unfold CO Ga;rw[q,d];have:(AJ rest).size≠0:=(by rw[Ch];exact hsz);simp[this]
   rw[if_pos G,if_neg gA]
end
def CW(s:Zi)(wd:Int)(w:Zh)(e:Ending)(w':Zh):Prop:=
 ∃v,e=.returned (.tuple #[ct #[Zg (AK s wd).k,.string (AK s wd).sum,.string (AK s wd).name,Zg (AK s wd).n,.string (AK s wd).t,v],ef (AK s wd).ok])/\
  eo w' w.1.size 9 1 v (eh (AK s wd).ss) ((AK s wd).ss.map Value.string)/\Zz w w'
theorem SH(s:Zi)(a:Int)(Y:s.size<=1048576)(r:Env w):
 D8 54 #[C4 s,Zg a] w (CW s a w):=by
 have⟨m,c⟩:=D6 w Yb 91;obtain⟨u,n,y,d,f⟩:=(Ax c).1,(Ax c).2.1,(Ax c).2.2,D6 m #[C4 s,Ze,.nilIface] 156;have x:=(Ax f).1;have V:m.1.size<d.1.size:=gB;have O:Hid (Aa d w.1.size Ya):=gD;have F:bs w.1.size w d:=gB;have I:Hid (Env d):=r.A F;have J:Hid (OI m.1.size):=λg i=>Dl (r.lt g i);have M:Hid (Ej d m.1.size s 0 bq):=by refine⟨ba,rfl,?_⟩;have:=Aa.new m [C4 s,Ze,.nilIface] 156;rw[<-f]at this;exact⟨(this 0 _ rfl).1,(this 1 _ rfl).1,(this 2 _ rfl).1,(this 0 _ rfl).2,(this 1 _ rfl).2,(this 2 _ rfl).2⟩
 obtain⟨i,l,b,o⟩:=Yw c,Yw f,Ag m.1.size;have zA:w.1.size<b:=Yv;have t:=Yw o;rw[<-o]at J M V;clear c f r y o u x;delta D8;go_in;go_upto_region 2 with fail;rw[<-i.o,<-l.o,<-n,<-t.o];clear i l t n;go_wp2_with fail;refine(UB a M I J Y).ai ?_;rintro e x ⟨v,rfl,K,G,i⟩;have⟨S,T,Z,_⟩:=Ei K;subst Z;obtain⟨zC,n,r⟩:=i.size,D6 x (Ye (AZ s a) ((Bl s a).1) ((BV s a).1) (Fq s a) ((Bk s a).1) S (eh (Bk s a).2) T) 91;have U:=(Ax r).1;have W:x.1.size+1=n.1.size:=gB;obtain⟨P,f,t⟩:=(Ax r).2.2,D6 n #[ee ba] 158;have E:=(Ax t).1;have X:n.1.size<f.1.size:=gB;have u:=(Ax t).2.2;have H:=P.A E;have l:bs x.1.size x f:=gB;obtain⟨c,Q,L,R⟩:=(O.au i (show b≠w.1.size by omega)).A l,(I.jk i J).A l,G.A l,(K.kept (Af ba l) (Classical.em _));have N:bs w.1.size w f:=F.ag (Below.trans (B:=w.1.size) ⟨i.os,i.tape,i.output,i.size,λk o=>i.block k Yv (λe=>Dl (A8 e))⟩ (l.ai Yv));obtain⟨C,D,z,o,y⟩:=Yw r,Yw t,Yw (Zn Q (Zn R N)),Ag n.1.size;rw[<-y]at u;have A:Hid (o=n.1.size):=y;have zB:x.1.size<o:=Yv;clear y;clear r t U E l P K G i Q R N O I M;go_upto_region 4 with fail;rw[<-C.o,<-D.o,<-A.o];clear C D A W X;have i:b<o:=Yv;have y:w.1.size<o:=Yv
 obtain⟨N,D,I,K,C,_,_,_⟩:=L;cases N with
 |none=>
  have t:Hid (CO s a=bq):=gH;simp only[Jo]at C;go_wp2_with fail;refine(Abw _ f).ai ?_;rintro e A ⟨rfl,i⟩;rw[i];clear i A;obtain⟨⟨z0,z1,z2,z3,z4,z5⟩,⟨r0,O⟩,⟨X,P⟩,⟨g,Q⟩,⟨k,R⟩,⟨L,U⟩,r5,W⟩:=Aa.c6 H 0 1 2 3 4 5,c 0 _ rfl,c 1 _ rfl,c 2 _ rfl,c 3 _ rfl,c 4 _ rfl,c 5 _ rfl;clear H c u I K C D;go_wp2;refine C1 (.tuple #[ct (Ye (AZ s a) ((Bl s a).1) ((BV s a).1) (Fq s a) ((Bk s a).1) S (eh (Bk s a).2) T),ef bg]) (by simp[results,results54,go_sem, *]) ?_;have G:AK s a=⟨AZ s a,(Bl s a).1,(BV s a).1,Fq s a,(Bk s a).1,(Bk s a).2,bg⟩:=by unfold AK;rw[if_neg (by rw[t.o];decide)]
  unfold CW;rw[G];have E:w.1.size<d.1.size:=Yv;refine⟨_,rfl,?_,?_⟩
  .refine ownsRow.ai ?_ (Nat.le_of_lt E)
   iterate 6 (refine ownsRow_setCell_below ?_ E _)
   exact z.2.1
  iterate 6 (refine Below.setCell ?_ (show w.1.size<=w.1.size from Zx) _)
  exact z.2.2
 |some q=>
  have t:Hid (CO s a=bg):=gH;simp only[Jo]at C;go_wp2_with fail;refine(Acd q o (.pointer ba) z.1.ju (u 0 _ rfl).1 (u 0 _ rfl).2).ai ?_;rintro e A ⟨rfl,r⟩;have i:∀j v,ek f (Zd (w.1.size) j)=an v->ek A (Zd (w.1.size) j)=an v:=λj v h=>(r.cell (p:=⟨w.1.size,j,ba⟩) y).ag h;have l:∀j,el f ⟨w.1.size,j,ba⟩=bq->el A ⟨w.1.size,j,ba⟩=bq:=λj h=>(r.frozen (p:=⟨w.1.size,j,ba⟩) y).ag h;obtain⟨r0,X,g,k,L,r5,O,P,Q⟩:=i 0 _ (c 0 _ rfl).1,i 1 _ (c 1 _ rfl).1,i 2 _ (c 2 _ rfl).1,i 3 _ (c 3 _ rfl).1,i 4 _ (c 4 _ rfl).1,i 5 _ (c 5 _ rfl).1,l 0 (c 0 _ rfl).2,l 1 (c 1 _ rfl).2,l 2 (c 2 _ rfl).2;obtain⟨R,U,W,M⟩:=l 3 (c 3 _ rfl).2,l 4 (c 4 _ rfl).2,l 5 (c 5 _ rfl).2,Yw (z.2.2.ag (r.ai (Nat.le_of_lt y)));clear i l H c u I K C D r;go_wp2;refine C1 (.tuple #[ct Yb,ef bq]) (by simp[results,results54,go_sem, *]) ?_;have G:AK s a=Ii:=by unfold AK;rw[if_pos t.o]
  unfold CW;rw[G];refine⟨Zb,rfl,ownsRow_nil _ _ _ _,?_⟩
  iterate 6 (refine Below.setCell ?_ (show w.1.size<=w.1.size from Zx) _)
  exact M.o
theorem Js(n:Int)(w:Zh):
 D8 17 #[Zg n] w λe a=>e=C5 (ef (bx (1<=n/\n<=8)))/\a=w:=by
 by_cases h1:1<=n
 .by_cases h2:n<=8
  .delta D8;go_in;go_wp2;go_ret;exact⟨AH Yt,rfl⟩
  have b:bx (n<=8)=bq:=Yt;delta D8;go_in;go_wp2;go_ret;exact⟨rfl,rfl⟩
 have a:bx (1<=n)=bq:=Yt;delta D8;go_in;go_wp2;go_ret;exact⟨rfl,rfl⟩
theorem NI(h:¬(1<=a/\a<=8)):AK s a=Ii:=by unfold AK;rw[if_pos (WG h)]
theorem NJ{e:Int}(b:1<=e)(c:e<=8)(d:eh l<6):AK (AJ l) e=Ii:=by
 unfold AK;rw[if_pos]
 match l,d with
 |[],_=>exact Acf b c
 |a::l,d=>
  by_cases h4:eh l<4
  .exact WH a l b c h4
  cases hk:EO (a.toNat:Int)with
  |false=>exact Gw (by rw[Ht _ _ b c,hk];rfl)
  |true=>
   match l,d,h4 with
   |[a1,a2,a3,a4],_,_=>exact WI a a1 a2 a3 a4 b c hk
   |[],_,h4=>simp at h4
   |[_],_,h4=>simp at h4
   |[_,_],_,h4=>simp at h4
   |[_,_,_],_,h4=>simp at h4
theorem PA{a d e f g b:UInt8}{T:List UInt8}(h:1<=c)(i:c<=8)(hT:eh T<b.toNat):AK (AJ (a::d::e::f::g::b::T)) c=Ii:=by
 unfold AK;rw[if_pos];cases hk:EO (a.toNat:Int)with
 |false=>exact Gw (by rw[Ht _ _ h i,hk];rfl)
 |true=>exact WJ a d e f g b T h i hk hT
theorem Ij{b:Int}{a:Zh}(h:AK s b=Ii)(c:Zz w a):CW s b w (.returned (.tuple #[ct Yb,ef bq])) a:=by unfold CW;rw[h];exact⟨Zb,rfl,ownsRow_nil _ _ _ _,c⟩
theorem SI(s:Zi)(a:Int)(w:Zh)(h:¬(1<=a/\a<=8)):
 D8 44 #[C4 s,Zg a] w (CW s a w):=by
 have d:bx (1<=a/\a<=8)=bq:=Yt;have HN:=Yw (NI (s:=s) h);clear h;delta D8;go_in;go_wp2_with (go_at_call 17;refine(Js a _).ai ?_;rintro e c ⟨rfl,b⟩;rw[b];clear b c);exact C1 (.tuple #[ct Yb,ef bq]) M1 (Ij HN (Zy))
theorem SJ(s:Zi)(a:Int)(w:Zh)(c:1<=a)(d:a<=8)(f:s.size<6):
 D8 44 #[C4 s,Zg a] w (CW s a w):=by
 have i:bx (1<=a/\a<=8)=bg:=Yt;have h:bx ((s.size:Int)<6)=bg:=Yt;have HN:=Yw (NJ (l:=s.data.toList) c d f);delta D8;go_in;go_wp2_with (go_at_call 17;refine(Js a _).ai ?_;rintro e g ⟨rfl,b⟩;rw[b];clear b g);exact C1 (.tuple #[ct Yb,ef bq]) M1 (Ij HN (Zy))
theorem SK(s:Zi)(a:Int)(w:Zh)(n:s.size<=1048576)(j:1<=a)(k:a<=8)(c:Nat)(l:6<=s.size)(d:s[5].toNat=c)(g:AK s a=Ii)(m:s.size<6+c):
 D8 44 #[C4 s,Zg a] w (CW s a w):=by
 have i:c<256:=by rw[<-d];exact s[5].toNat_lt
 have f:=Cj s[5];rw[d]at f;have HN:=Yw g;delta D8;go_in;go_wp2_with (go_at_call 17;refine(Js a _).ai ?_;rintro e h ⟨rfl,b⟩;rw[b];clear b h);exact C1 (.tuple #[ct Yb,ef bq]) M1 (Ij HN (Zy))
theorem SL(s:Zi)(b:Int)(c r t y O k:Nat)(w:Zh)(h:s.size<=1048576)(E:1<=b)(F:b<=8)(h6:6<=s.size)(G:s[0].toNat=c)(H:s[1].toNat=r)(I:s[2].toNat=t)(J:s[3].toNat=y)(K:s[4].toNat=O)(Z:s[5].toNat=k)(hf:6+k<=s.size)(a m:Zi)(j:s.extract 6 (6+k)=a)(N:s.extract (6+k) s.size=m)(n:Int)(v:(r:Int) *16777216+(t:Int) *65536+(y:Int) *256+(O:Int)=n)(i g:Zi)(d:Zl)(P:i=if (c:Int)=1 then ⟨#[]⟩else m)(X:g=if (c:Int)=1 then (rd m b).1 else ⟨#[]⟩)(u:d=if (c:Int)=1 then (rd m b).2.1 else [])(e:AK s b=if (Cn c i a n g d b&&bx (Cv c i a n g d b=s))=bg then ⟨c,i,a,n,g,d,bg⟩else Ii):
 D8 44 #[C4 s,Zg b] w (CW s b w):=by
 have B:bx (1<=b/\b<=8)=bg:=by simp[E,F]
 have L:bx ((s.size:Int)<6)=bq:=Yt;have l5:(5:Int)<s.size:=Yv;have M:bx ((s.size:Int)<6+(k:Int))=bq:=Yt;have l:c<256:=by rw[<-G];exact s[0].toNat_lt
 have o:r<256:=by rw[<-H];exact s[1].toNat_lt
 have q:t<256:=by rw[<-I];exact s[2].toNat_lt
 have x:y<256:=by rw[<-J];exact s[3].toNat_lt
 have z:O<256:=by rw[<-K];exact s[4].toNat_lt
 have Y:k<256:=by rw[<-Z];exact s[5].toNat_lt
 obtain⟨Q,R,S,T,U,V⟩:=Cj s[0],Cj s[1],Cj s[2],Cj s[3],Cj s[4],Cj s[5];rw[G]at Q;rw[H]at R;rw[I]at S;rw[J]at T;rw[K]at U;rw[Z]at V;obtain⟨A,D,C,HX,f⟩:=Yw (Zn l (Zn o (Zn q (Zn x z)))),Yw (Zn Q (Zn R (Zn S (Zn T U)))),Yw (Zn G (Zn H (Zn I (Zn J K)))),Yw (Zn h (Zn E F)),Yw (Zn j (Zn N (Zn v (Zn P (Zn X (Zn u e))))));clear j N v P X u e;clear l o q x z Q R S T U G H I J K;have⟨W,j⟩:=D6 w Yb 91;have N:=(Ax j).1;have hz:w.1.size<W.1.size:=by rw[j];simp
 have R0:Hid (Aa W _ _):=(Ax j).2.2;have u:=Yw j;clear j;delta D8;go_in;go_upto_region 1 with fail;rw[<-u.o];clear u;go_upto_region 3 with(go_at_call 17;refine(Js b _).ai ?_;rintro e u ⟨rfl,j⟩;rw[j];clear j u);go_cut [6] (λv u=>v=Yy W.1.size/\u=(W.alloc (ca #[Zg (c:Int),Zc,Zc,Zg n,Zc,Zb] 91)).drew)
 case first=>
  have⟨l,o,q,x,z⟩:=A.o;have m1:=EZ ((r:Int) *16777216) Yv Yv;have m2:=EZ ((t:Int) *65536) Yv Yv;have m3:=EZ ((y:Int) *256) Yv Yv;have p1:=EZ ((r:Int) *16777216+(t:Int) *65536) Yv Yv;have p2:=EZ ((r:Int) *16777216+(t:Int) *65536+(y:Int) *256) Yv Yv;have p3:=EZ ((r:Int) *16777216+(t:Int) *65536+(y:Int) *256+(O:Int)) Yv Yv;have l0:(0:Int)<s.size:=Yv;have l1:(1:Int)<s.size:=Yv;have l2:(2:Int)<s.size:=Yv;have l3:(3:Int)<s.size:=Yv;have l4:(4:Int)<s.size:=Yv;obtain⟨⟨Q,R,S,T,U⟩,G,H,I,J,K⟩:=D.o,C.o;clear l o q x z Y M L B;clear V l5
  go_big_region
  go_wp2_with fail;go_meet;exact⟨rfl,by rw[f.2.2.1]⟩
 case rest=>
 revert wc;intro W3 hcut;obtain⟨rfl,l⟩:=hcut;have zB:=hf;clear Y M L B A D C HX;have q:bs W.1.size W W3:=by rw[l];exact(Zy).drew
 have D:Aa W3 W.1.size [Zg (c:Int),Zc,Zc,Zg n,Zc,Zb]:=by rw[l];exact Aa.new W _ _
 obtain⟨R3,X,B,L⟩:=R0.A q,N.ag (q.ai (Nat.le_of_lt hz)),Ag W.1.size;rw[<-L]at D;obtain⟨HB,x,zF⟩:=Yw L,D 2 _ rfl;have C:w.1.size<B:=Yv;have⟨A,j⟩:=D7 W3 B 2 (C4 a);have o:Hid (Aa A B [Zg (c:Int),Zc,C4 a,Zg n,Zc,Zb]):=by rw[j];exact D.set 2 _
 have R4:Hid (Aa A w.1.size Ya):=by rw[j];exact R3.au (As _ _ _ _) Yv
 have z:Hid (Zz w A):=by rw[j];exact X.setCell (p:=⟨B,2,ba⟩) (Nat.le_of_lt C) _
 obtain⟨M,P,Y⟩:=Yw j,Yw f.1,Yw f.2.1;rw[<-L];clear l q j R3 X L D;have l:((6:Int)+(k:Int)).toNat=6+k:=Yv;have q:(6:Int)<=6+(k:Int):=Yv;have D:(6:Int)+(k:Int)<=(s.size:Int):=Yv;go_upto_region 6 with fail;rw[P.o,Y.o,<-M.o];have X:m.size<=1048576:=by rw[<-Y.o];simp;omega
 have zE:a.size<=1048576:=by rw[<-P.o];simp;omega
 have j:=HB.symm;clear M P Y x zF l q D V l5 R0 N hz j HB;clear Z;clear hf zB h6;have HX:=Yw (Zn h (Zn E F));clear h E F;obtain⟨q,_⟩:=o 0 _ rfl;go_upto_if 63 with fail;go_cut [] (λu=>∃(j:Zk) (l:Nat),Hid (Aa u B (Xz (c:Int) i a n g j (eh d) l))/\Hid (Aa u w.1.size Ya)/\Hid (eo u (w.1.size+1) 9 1 (C2 j d l) (eh d) (d.map string))/\Hid (Zz w u))
 case first=>
  by_cases hk:(c:Int)=1
  .have e1:Hid (i=⟨#[]⟩):=(by show _=_;rw[f.2.2.2.1,if_pos hk]);have e2:Hid (g=(rd m b).1):=(by show _=_;rw[f.2.2.2.2.1,if_pos hk]);have P:Hid (d=(rd m b).2.1):=(by show _=_;rw[f.2.2.2.2.2.1,if_pos hk]);have hq:((c:Int)==1)=bg:=D2 hk;have HK:=Yw hk;clear hk;go_wp2_with fail;have D:=Ux m b A X;unfold EN at D;refine D.ai ?_;rintro e V ⟨v,rfl,ho,u⟩;rw[<-P.o]at ho;rw[<-e2.o];have⟨j,l,hv,_⟩:=Ei ho;subst hv;obtain⟨Z5,R5,Z⟩:=Aa.A o u,Aa.A R4 u,o.lt;obtain⟨⟨E,zI⟩,⟨F,zJ⟩,B5⟩:=Z5 4 _ rfl,Z5 5 _ rfl,z.ag (u.ai z.size);clear D u q hq;go_wp2_with fail;go_meet;refine⟨j,l,?_,?_,?_,?_⟩
   .rw[e1.o];exact(Z5.set 4 _).set 5 _
   .exact(R5.au (As _ B 4 _) Yv).au (As _ B 5 _) Yv
   .exact(ownsRow_setCell_below (ownsRow_setCell_below ho Z _) Z _).ai Yv
   exact(B5.setCell (p:=⟨B,4,ba⟩) (Nat.le_of_lt C) _).setCell (p:=⟨B,5,ba⟩) (Nat.le_of_lt C) _
  have e1:Hid (i=m):=by show _=_;rw[f.2.2.2.1,if_neg hk]
  have e2:Hid (g=⟨#[]⟩):=by show _=_;rw[f.2.2.2.2.1,if_neg hk]
  have P:Hid (d=[]):=by show _=_;rw[f.2.2.2.2.2.1,if_neg hk]
  have hq:((c:Int)==1)=bq:=D2 hk;obtain⟨D,zH⟩:=o 1 _ rfl;have HK:=Yw hk;clear hk;go_wp2_with fail;go_meet;refine⟨ba,0,?_,?_,?_,?_⟩
  .rw[e1.o,e2.o,P.o];exact o.set 1 _
  .exact R4.au (As _ B 1 _) Yv
  .rw[P.o];exact ownsRow_nil _ _ _ _
  exact z.setCell (p:=⟨B,1,ba⟩) (Nat.le_of_lt C) _
 case rest=>
 revert wc;intro w6 hcut;obtain⟨j,l,Z6,R6,h,Y⟩:=hcut;clear o R4 z q;obtain⟨q,D,x,N,E,F⟩:=Aa.c6 Z6 0 1 2 3 4 5;have u:eh d<=255:=by
  rw[f.2.2.2.2.2.1];split
  .exact YC _ _
  exact Aq _
 have M:g.size<=ew:=by
  rw[f.2.2.2.2.1];unfold ew;split
  .have:=RH m b;omega
  exact Aq _
 have o:a.size<=ew:=Yo;have L:Hid (Ab w6 w6.1.size j d):=by have⟨a',c',hv,hr⟩:=Ei h;cases hv;exact hr
 have z:=Yw (Zn u (Zn M o));clear u M o X zE;go_wp2_with fail;refine(Wq (c:Int) i a n g l b L (Dl z.1) z.2.1 z.2.2).ai ?_;rintro e X ⟨rfl,o⟩;have Z7:Hid (Aa X B (Xz (c:Int) i a n g j (eh d) l)):=Z6.A o;have u:Hid (Aa X w.1.size Ya):=R6.A o
 have O7:Hid (eo X (w.1.size+1) 9 1 (C2 j d l) (eh d) (d.map string)):=h.kept (Af ba o) (Classical.em _);have B7:=Yw (Y.ag (o.ai Y.size));have S7:=Yw (Ab.X L o);clear Z6 R6 h Y L o q D x N E F;obtain⟨q,D,x,N,E,F⟩:=Aa.c6 Z7 0 1 2 3 4 5;cases hok:Cn (c:Int) i a n g d b with
 |false=>
  have L:Hid (AK s b=Ii):=by show _=_;rw[f.2.2.2.2.2.2,if_neg (by rw[hok];simp)]
  obtain⟨⟨r0,q0⟩,⟨r1,q1⟩,⟨r2,q2⟩,⟨r3,q3⟩,⟨r4,q4⟩,r5,q5⟩:=u 0 _ rfl,u 1 _ rfl,u 2 _ rfl,u 3 _ rfl,u 4 _ rfl,u 5 _ rfl;clear q D x N E F hok;go_wp2;refine C1 (.tuple #[ct Yb,ef bq]) L5 ?_;refine Ij L ?_
  iterate 6 (refine Below.setCell ?_ (show w.1.size<=w.1.size from Zx) _)
  exact B7.o
 |true=>
  have Y:=Yw hok;clear hok;go_wp2_with fail;refine(IX (c:Int) i a n g j l d b X S7 (Dl z.1) z.2.1 z.2.2).ai ?_;rintro e w8 ⟨rfl,o⟩;obtain⟨Z8,R8,h,M⟩:=Z7.A o,u.A o,O7.kept (Af ba o) (Classical.em _),B7.ag (o.ai B7.size);clear q D x N E F;obtain⟨⟨q,D,x,N,E,F⟩,⟨r0,q0⟩,r1,q1⟩:=Aa.c6 Z8 0 1 2 3 4 5,R8 0 _ rfl,R8 1 _ rfl;obtain⟨⟨r2,q2⟩,⟨r3,q3⟩,⟨r4,q4⟩,⟨r5,q5⟩,HC⟩:=R8 2 _ rfl,R8 3 _ rfl,R8 4 _ rfl,R8 5 _ rfl,Yw (Zn h M);clear Z8 R8 h M o;have⟨M,o⟩:=Ag (Cv (c:Int) i a n g d b);rw[<-o];by_cases heq:M=s
  .have L:Hid (AK s b=⟨c,i,a,n,g,d,bg⟩):=(by show _=_;rw[f.2.2.2.2.2.2,if_pos (by rw[Y.o,<-o,heq];simp)]);subst heq;clear o;go_wp2;refine C1 (.tuple #[ct (Ye (c:Int) i a n g j (eh d) l),ef bg]) L5 ?_;unfold CW;rw[L.o];have zA:w.1.size<w.1.size+1:=Nat.lt_succ_self _;refine⟨_,rfl,?_,?_⟩
   .refine ownsRow.ai ?_ (Nat.le_of_lt zA)
    iterate 6 (refine ownsRow_setCell_below ?_ zA _)
    exact HC.1
   iterate 6 (refine Below.setCell ?_ (show w.1.size<=w.1.size from Zx) _)
   exact HC.2
  have L:Hid (AK s b=Ii):=by show _=_;rw[f.2.2.2.2.2.2,if_neg (by rw[Y.o,<-o];simpa using heq)]
  have zC:(M.toList==s.toList)=bq:=by rw[beq_eq_false_iff_ne];intro h;rw[ByteArray.toList_eq,ByteArray.toList_eq]at h;exact heq (ByteArray.ext (Array.toList_inj.1 h))
  have zG:(M.toList !=s.toList)=bg:=by rw[bne,zC];rfl
  clear o heq;go_wp2;refine C1 (.tuple #[ct Yb,ef bq]) L5 ?_;refine Ij L ?_
  iterate 6 (refine Below.setCell ?_ (show w.1.size<=w.1.size from Zx) _)
  exact HC.2
theorem SM(s:Zi)(a:Int)(w:Zh)(d:s.size<=1048576):
 D8 44 #[C4 s,Zg a] w (CW s a w):=by
 by_cases hw:1<=a/\a<=8
 case neg=>exact SI s a w hw
 obtain⟨b,c⟩:=hw;by_cases h6:s.size<6
 .exact SJ s a w b c h6
 obtain⟨l,rfl⟩:∃l,s=AJ l:=⟨s.data.toList,rfl⟩;rw[Ch]at d h6
 match l,d,h6 with
 |a0::a1::a2::a3::a4::a5::T,d,h6=>
  have e:(AJ (a0::a1::a2::a3::a4::a5::T)).size=eh T+6:=by rw[Ch];rfl
  by_cases hT:a5.toNat<=eh T
  .refine SL _ a a0.toNat a1.toNat a2.toNat a3.toNat a4.toNat a5.toNat w gA b c Yv rfl rfl rfl rfl rfl rfl Yv (AJ (T.take a5.toNat)) (AJ (T.drop a5.toNat)) ?_ ?_ (CN [a1,a2,a3,a4]) (YF a1 a2 a3 a4).symm _ _ _ rfl rfl rfl ?_
   .rw[Ih,show 6+a5.toNat -6=a5.toNat by omega];rfl
   .rw[e,Ih];congr 2;rw[show 6+a5.toNat=a5.toNat+6 by omega];show(T.drop a5.toNat).take _=_;exact Zt Yu
   exact NH a0 a1 a2 a3 a4 a5 T b c hT
  exact SK _ a w gA b c a5.toNat Yv rfl (PA b c Yv) Yv
 |[],_,h6=>simp at h6
 |[_],_,h6=>simp at h6
 |[_,_],_,h6=>simp at h6
 |[_,_,_],_,h6=>simp at h6
 |[_,_,_,_],_,h6=>simp at h6
 |[_,_,_,_,_],_,h6=>simp at h6
