import Derived.Test.YtfmeclmjdpbacaaGreatDoorX05
import Derived.Test.YtfmeclmjdpbacaaGreatDoorX06
import Derived.LaidEql
import Derived.Stop.Asserts
import Derived.RowKitTokens
set_option maxRecDepth 100000
set_option maxHeartbeats 16000000
open Option renaming some->ai,none->an
open Bool renaming true->ay,false->ba
open Go.RowKit renaming Below->bg
open Decidable renaming decide->bq
open Go.Obj renaming cells->bs
open Go.Value renaming agg->ca,pointer->ea,bool->ec,ownBlock->ef
open Or renaming inl->cr
open List renaming length->ed
open Go.World renaming cell?->eh,frozen?->ei,ownsRow->ej,grownBy->ek,setCell->el
open Go renaming maxLen->eo
namespace Go.Proofs.YtfmeclmjdpbacaaGreatDoor
open ChangeShapes WideShapes ChangeAt RowKit _root_.Go.Proofs.Tryz List World Value
variable{w e W wr:Zh}{b c g k n B:Nat}{a kind:Int}{d:Zj}{t s rest:Zi}{p:Addr}{l:Zk}{o:Obj}{v:Value}{bad:Bool}
def BO(w:Zh)(b off:Nat)(zs:List (Kd×Value)):Prop:=
 ∀i z,zs[i]?=ai z->(eh w (Zd b (off+i *4))=ai (.string z.1.sum)/\eh w (Zd b (off+i *4+1))=ai (Zg z.1.born)/\eh w (Zd b (off+i *4+2))=ai (.string z.1.Q)/\eh w (Zd b (off+i *4+3))=ai z.2)/\∃ad rc,z.2=.slice (ai ad) (ed z.1.C) rc/\Ad w w.1.size (ai ad) z.1.C
theorem BO.A{a:Nat}{f:List (Kd×Value)}(h:BO w b a f)(c:Zz w e)(d:b<w.1.size):BO e b a f:=by intro i z q;have⟨⟨j,k,l,m⟩,g,r,n,o⟩:=h i z q;exact⟨⟨(c.cell (p:=⟨b,a+i *4,an⟩) d).ag j,(c.cell (p:=⟨b,a+i *4+1,an⟩) d).ag k,(c.cell (p:=⟨b,a+i *4+2,an⟩) d).ag l,(c.cell (p:=⟨b,a+i *4+3,an⟩) d).ag m⟩,g,r,n,Ad.ah (Ad.A o c) c.size⟩
theorem BO.fq{d:List (Kd×Value)}(h:BO w b c d)(n:b<w.1.size):BH w w.1.size (ai ⟨b,c,an⟩) (d.map (·.1)):=by
 refine .inr ⟨b,c,rfl,n,λi k a=> ?_⟩;rw[getElem?_map]at a;cases hz:d[i]? with
 |none=>rw[hz]at a;cases a
 |some z=>rw[hz]at a;cases a;have⟨⟨e,f,g,j⟩,a,o,l,m⟩:=h i z hz;exact⟨e,f,g,ai a,o,by rw[j,l],m⟩
theorem BO.own{base d:Nat}{a:List (Kd×Value)}(f:ej w base 50 4 (Yz g (ed a) d) (ed a) (Af kC a))(h:∀z∈a,∃b c,z.2=Cx (ai b) (ed z.1.C) c/\Ad w w.1.size (ai b) z.1.C):BO w g 0 a:=by
 intro i z c;have k:=(Zw c).1;have b:∀j,j<4->eh w (Zd g (i *4+j))=(kC z)[j]?:=λj e=>(f.cellAt (i *4+j) Yv).ag (Cy Jl c e);refine⟨⟨?_,?_,?_,?_⟩,h z (Zs c)⟩
 .rw[Ax];simpa [kC]using b 0 Yq
 .rw[Ax];simpa [kC]using b 1 Yq
 .rw[Ax];simpa [kC]using b 2 Yq
 rw[Ax];simpa [kC]using b 3 Yq
def Ci(zs:List (Kd×Value))(s:Zi):List (Kd×Value):=zs.filter (fun z=> !bq (z.1.sum=s))
theorem Oa(a:List (Kd×Value))(s:Zi):(Ci a s).map (·.1)=Ch (a.map (·.1)) s:=by unfold Ci Ch;rw[filter_map];rfl
theorem SK{a:List (Kd×Value)}{z:Kd×Value}(s:Zi)(c:a[k]?=ai z):Ci (a.take (k+1)) s=Ci (a.take k) s++(if z.1.sum=s then []else [z]):=by obtain⟨b,rfl⟩:=Zw c;unfold Ci;rw[Zu b,filter_append];by_cases h:a[k].1.sum=s<;>simp[h]
theorem Cq{e d c:Int}{T P L:Dg}(h:Aa w b [Zg e,Zg d,Zg c,Zg a,T,P,L]):BA w b e d c a T P L:=
 ⟨(h 0 _ rfl).1,(h 1 _ rfl).1,(h 2 _ rfl).1,(h 3 _ rfl).1,(h 4 _ rfl).1,(h 5 _ rfl).1,(h 6 _ rfl).1,h.lt⟩
def Dw(ps:List Pd)(ls:List Ld)(ks:List Kd)(s:Zi):Prop:=((∃p∈ps,p.sum=s)\/∃l∈ls,l.sum=s)\/∃k∈ks,s∈k.C
def RM(w w':Zh)(e:Ending)(wd now given births:Int)(P L:Value)(zs:List (Kd×Value))(ps:List Pd)(ls:List Ld)(s:Zi):Prop:=
 bg w.1.size w w'/\((Dw ps ls (zs.map (·.1)) s/\e=.returned (ca #[Zg 6,Ze,Ze,Ze,Ze,Zb,Zb,Zb,Zc,Ze,Zc,Zc]))\/
  (¬Dw ps ls (zs.map (·.1)) s/\∃g c,e=.returned (ca #[Ze,Zg wd,Zg now,Zg given,Zg births,.slice (ai ⟨g,0,an⟩) (ed (Ci zs s)) c,P,L,Zc,Ze,Zc,Zc])/\BO w' g 0 (Ci zs s)/\w.1.size<=g/\g<w'.1.size))
theorem SL(A m f a:Int){t:Nat}(I E D:Nat){p:Zk}{d:List (Kd×Value)}{o:C7}{n:C6}(F:BO w b t d)(zP:b<w.1.size)(K:Bd w w.1.size p o)(H:Ba w w.1.size l n)(yT:ed d<=600)(yQ:ed o<=100)(yP:ed n<=200)(hr:∀z∈d,ed z.1.C<=1000)(C:As (d.map (·.1)) s):
 D4 129 #[ca (Yg A m f a (ai ⟨b,t,an⟩) (ed d) I p (ed o) E l (ed n) D),C0 s] w λe r=>RM w r e A m f a (Cx p (ed o) E) (Cx l (ed n) D) d o n s:=by
 have⟨W,r⟩:=Ag ((w.alloc (bs (Yg A m f a (ai ⟨b,t,an⟩) (ed d) I p (ed o) E l (ed n) D) 30)).alloc (bs Yd 81));have hB:=(AT r).1;have yS:=(AT r).2.1;have xW:BA W w.1.size A m f a (Cx (ai ⟨b,t,an⟩) (ed d) I) (Cx p (ed o) E) (Cx l (ed n) D):=by rw[r];exact BA.ak (BA.new w A m f a _ _ _ 30) (Zy) Yu
 have zR:Aa W (w.1.size+1) z12:=by have h:=Aa.new (w.alloc (bs (Yg A m f a (ai ⟨b,t,an⟩) (ed d) I p (ed o) E l (ed n) D) 30)) z12 81;rw[Aq]at h;rw[r];exact h
 have HF:=FK A m f a I (Cx p (ed o) E) (Cx l (ed n) D) s (BH.A (F.fq zP) hB) hB.size (by rw[A7];omega);rw[A7]at HF;have yO:0<=Df (d.map (·.1)) s:=by
  rcases Fz (d.map (·.1)) s with⟨_,hn⟩|⟨i,k,e,_⟩
  .exact absurd C hn
  omega
 have B:=Yw HF;have yC:=Yw zR;have zY:Hid (Aa W _ _):=(AT r).2.2.1;have zX:w.1.size+1<W.1.size:=Yv;obtain⟨HZ,zJ,G,J⟩:=Yw F,Yw (Zn K H),Yw r,Yw xW;clear r F K H zR HF C;obtain⟨C,K,L,N,O,P,c,x7⟩:=xW;delta D4;go_in;go_upto_region 1 with fail;rw[<-G.o];clear G;go_wp2_with fail;refine B.Ak ?_;rintro e w1 ⟨rfl,M⟩;have yM:¬Df (d.map (·.1)) s<0:=Yv;have r:=Yw (BA.A J M);have⟨Q,R,S,U,X,Y,Z,y7⟩:=r.o;have H:bg w.1.size w w1:=hB.ag (M.ah hB.size);clear C K L N O P c B;generalize Df (d.map (·.1)) s=fi at *
 go_wp2_with fail;refine(SG A m f a (Cx (ai ⟨b,t,an⟩) (ed d) I) E D s (Bd.ah (Bd.A zJ.1 H) H.size) (Ba.ah (Ba.A zJ.2 H) H.size) Yv Yv).ah ?_;rintro e G ⟨L,rfl,B,N⟩;have zA:bg w.1.size w G:=H.ag (N.ah H.size);have C:=Yw (BA.A r N);have K:Aa G (w.1.size+1) z12:=Aa.A (v:=Ze) (Aa.A (v:=Ze) yC M) N;have zE:=Yw K;have zI:=Yw B;clear B Q R S U X Y Z K;cases L
 .obtain⟨v0,v1,v2,v3,v4,v5,v6,v7⟩:=C.o;have yG:w.1.size+2<=G.1.size:=by have:=M.size;have:=N.size;omega
  have B:bg G.1.size G (G.alloc (bs #[] 50)):=Zy;go_wp2;go_loopw [5,6] (λv i wr=>∃(k g c:Nat),k<=ed d/\i=Zg k/\v=Yz g (ed (Ci (d.take k) s)) c/\Hid (ej wr (w.1.size+2) 50 4 (Yz g (ed (Ci (d.take k) s)) c) (ed (Ci (d.take k) s)) (Af kC (Ci (d.take k) s))/\(∀z∈d.take k,¬s∈z.1.C)/\Aa wr w.1.size (Yh A m f a (ai ⟨b,t,an⟩) (ed d) I p (ed o) E l (ed n) D)/\Aa wr (w.1.size+1) z12/\Zz w wr)) (λ_ i _=>ed d -(intOf i).toNat)
  case atStart=>
   refine⟨0,G.1.size,0,Aw _,rfl,by simp[Ci],⟨?_,(λz F=>by simp at F),Aa.A (Aa.A (Aa.A zY M) N) B,Aa.A (v:=Ze) zE B,zA.ag (B.ah zA.size)⟩⟩;have:=ownsRow_lit (base:=w.1.size+2) (e:=50) (size:=4) G #[] 0 yG Yo rfl;simpa [Ci,Af]using this
  clear r J zE C v0 v1 v2 v3 v4 v5 v6 v7 B;obtain⟨k,g,c,hk,rfl,rfl,B⟩:=hrel;have⟨v0,v1,v2,v3,v4,v5,v6,v7⟩:=Cq B.2.2.1;have r:=B.2.2.2.2;have yU:=r.size;by_cases hlt:k<ed d
  case neg=>
   obtain rfl:k=ed d:=Yv;have zO:=B.o;rw[Zt (Zx)]at zO;obtain⟨h,h2,h3,T,h5⟩:=zO;obtain⟨zT,C,⟨⟨Q,q0⟩,⟨R,q1⟩,⟨S,q2⟩,⟨U,q3⟩,⟨X,q4⟩,⟨Y,q5⟩,⟨Z,q6⟩,⟨y7,q7⟩,⟨y8,q8⟩,⟨y9,q9⟩,⟨O,zV⟩,P,zW⟩,f4⟩:=Ab h (g:=g) rfl,Yw (Zn h (Zn h2 h5)),Br T,(h3 4 _ rfl).2;clear h h2 h3 T h5;rw[Zt (Zx)];go_wp2;have T:∀a0 a1 a2 a3 a4 a5 a6 a7 a8 a9 h zM c4,Tn [w.1.size,w.1.size+1] wr _:=λa0 a1 a2 a3 a4 a5 a6 a7 a8 a9 h zM c4=>(Tn.set (V:=[w.1.size,w.1.size+1]) wr w.1.size 4 c4 Yu).ag (Tn.ah (Bw (el wr (Zd (w.1.size) 4) c4) (w.1.size+1) a0 a1 a2 a3 a4 a5 a6 a7 a8 a9 h zM) Yu);refine Co (ca #[Ze,Zg A,Zg m,Zg f,Zg a,Yz g (ed (Ci d s)) c,Cx p (ed o) E,Cx l (ed n) D,Zc,Ze,Zc,Zc]) F5 ?_;have T':=T Ze (Zg A) (Zg m) (Zg f) (Zg a) (Yz g (ed (Ci d s)) c) (Cx p (ed o) E) (Cx l (ed n) D) Zc Ze Zc Zc (Yz g (ed (Ci d s)) c);have zF:=C.2.2.ag (Tn.A T' C.2.2.size Yu);refine⟨zF,.inr ⟨?_,g,c,rfl,BO.own (Ar C.1 (λq hq=>T'.block q (Ab C.1 hq).2 (by have:=(Ab C.1 hq).1;simp;omega))) (λz F=> ?_),Yv,Zr zT.2 T'.size⟩⟩
   .rintro(h|⟨x,hx,q⟩)
    .have:=zI.2 h;simp at this
    obtain⟨z,F,rfl⟩:=mem_map.1 hx;exact C.2.1 z F q
   obtain⟨i,hi⟩:=A3 (A8.1 F).1;have⟨_,J,K,e,q⟩:=HZ i z hi;exact⟨J,K,e,Ad.ah (Ad.A q zF) zF.size⟩
  have HG:Hid (d[k]?=ai d[k]):=Zv hlt;obtain⟨⟨⟨c0,c1,c2,c3⟩,J,K,T,h5⟩,yR,zK⟩:=(BO.A HZ r zP) k _ HG,hr _ (getElem_mem hlt),Yw (SK s HG);have yL:b<wr.1.size:=Yv;have yA:=Yw h5;have yB:Hid (d.take (k+1)=d.take k++[d[k]]):=Zu hlt;rw[T]at c3;have H4:=Yw T;clear h5 T;generalize d[k]=z at *
  have yN:ed (Ci (d.take k) s)<=600:=by have:=length_filter_le (λz:Kd×Value=> !bq (z.1.sum=s)) (d.take k);unfold Ci;rw[Cl]at this;omega
  go_wp2_with fail;refine(Nh K s yA Yv).ah ?_;rintro e w3 ⟨rfl,rfl⟩;by_cases hin:s∈z.1.C
  .have C:z.1.C.any (λx=>decide (x=s))=ay:=C9 hin;rw[C];have⟨⟨Q,q0⟩,⟨R,q1⟩,⟨S,q2⟩,⟨U,q3⟩,⟨X,q4⟩,⟨Y,q5⟩,⟨Z,q6⟩,⟨y7,q7⟩,⟨y8,q8⟩,⟨y9,q9⟩,⟨O,zV⟩,P,zW⟩:=Br B.2.2.2.1;have yD:=Yw hin;clear hin C c0 c1 c2 c3 v0 v1 v2 v3 v4 v5 v6;go_wp2;refine Co (ca (Yc 6)) F5 ⟨r.ag (Tn.A (Bw _ (w.1.size+1) _ _ _ _ _ _ _ _ _ _ _ _) r.size Yu),cr ⟨.inr ⟨z.1,mem_map.2 ⟨z,Zs HG,rfl⟩,yD⟩,rfl⟩⟩
  have C:z.1.C.any (λx=>decide (x=s))=ba:=by rw[any_eq_false];intro x hx e;exact hin (of_decide_eq_true e▸hx)
  rw[C];have zH:Hid (∀y∈d.take (k+1),¬s∈y.1.C):=by
   rw[yB.o];intro y hy;rcases A5.1 hy with hy|hy
   .exact B.2.1 y hy
   simp at hy;rw[hy];exact hin
  clear hin C;by_cases hzs:z.1.sum=s
  .have hq:(z.1.sum.toList !=s.toList)=ba:=(by rw[hzs];simp);have zU:(z.1.sum.toList==s.toList)=ay:=(by rw[hzs];simp);have C:=zK.o;rw[if_pos hzs,append_nil]at C;have L:=Yw C;clear C hzs;go_wp2;exact⟨⟨k+1,g,c,Yv,Yn,by rw[L.o],⟨by rw[L.o];exact B.1,zH,B.2.2⟩⟩,Ys⟩
  have zU:(z.1.sum.toList==s.toList)=ba:=BZ hzs;have hq:(z.1.sum.toList !=s.toList)=ay:=by simp[bne,zU]
  have C:=zK.o;rw[if_neg hzs]at C;have L:=Yw C;clear C hzs;have⟨i0,hi,yH,yI,zC⟩:=info_parts Jv;have zT:=Ab B.1 (g:=g) rfl;go_wp2_with (first
   |(at_builtin;refine wpList_append_own_at _ rfl _ _ 26 rfl (w.1.size+2) 50 i0 _ 4 64 underlying26 hi yH yI zC rfl Yq _ (ed (Ci (d.take k) s)) (Af kC (Ci (d.take k) s)) rfl ?d0 ⟨w3.1.size,0,an⟩ 1 1 (kC (z.1,Cx (ai J) (ed z.1.C) K)) rfl rfl ?d2 ?d3 ?d4 ?d5 ?d6 ?_)
   |go_in)
  case d0=>exact Ai B.1 (Zy)
  case d2=>
   intro j u hu;rw[A1,Ax];exact((Aa.new w3 (kC (z.1,Cx (ai J) (ed z.1.C) K)) 50) j u hu).1
  case d3=>
   intro u hu;simp[kC]at hu;rcases hu with rfl|rfl|rfl|rfl<;>rfl
  case d4=>unfold eo;omega
  case d5=>omega
  case d6=>simp;omega
  intro v4 w4 zB zS yF yE;obtain⟨g4,c4,rfl,yJ,yK⟩:=Cv zB (λe=>by subst e;rcases zB.2 with⟨_,hn⟩|⟨_,_,_,e,_⟩<;>first|omega|cases e);have b4:bg w3.1.size w3 (w3.alloc (bs #[C0 z.1.sum,Zg z.1.born,C0 z.1.Q,Cx (ai J) (ed z.1.C) K] 50)):=Zy;have C:ek w3 w4 (ai g):=AF (Al _ b4) zS;have zC:z.2=Cx (ai J) (ed z.1.C) K:=H4.o;have zG:ed (Ci (d.take (k+1)) s)=ed (Ci (d.take k) s)+1:=by rw[L.o];simp
  have zN:Af kC (Ci (d.take (k+1)) s)=Af kC (Ci (d.take k) s)++kC (z.1,Cx (ai J) (ed z.1.C) K):=by rw[L.o,Cn,<-zC];simp[Af]
  have HF:Hid (ej w4 (w.1.size+2) 50 4 (Yz g4 (ed (Ci (d.take (k+1)) s)) c4) (ed (Ci (d.take (k+1)) s)) (Af kC (Ci (d.take (k+1)) s))/\(∀y∈d.take (k+1),¬s∈y.1.C)/\Aa w4 w.1.size (Yh A m f a (ai ⟨b,t,an⟩) (ed d) I p (ed o) E l (ed n) D)/\Aa w4 (w.1.size+1) z12/\Zz w w4):=by
   refine⟨by rw[zG,zN];exact zB,zH,?_,?_,r.grown C Yv (λq hq=>by cases hq;omega)⟩
   .exact Aa.az B.2.2.1 C Yv
   exact Aa.az (v:=Ze) B.2.2.2.1 C Yv
  clear zB zS C yF yE b4 zN zC c0 c1 c2 c3 v0 v1 v2 v3 v4 v5 v6;have zZ:=Yw zG;clear zG;go_wp2;exact⟨⟨k+1,g4,c4,Yv,Yn,by rw[zZ.o],HF⟩,Ys⟩
 obtain⟨⟨Q,q0⟩,⟨R,q1⟩,⟨S,q2⟩,⟨U,q3⟩,⟨X,q4⟩,⟨Y,q5⟩,⟨Z,q6⟩,⟨y7,q7⟩,⟨y8,q8⟩,⟨y9,q9⟩,⟨O,zV⟩,P,zW⟩:=Br zE;go_wp2;refine Co (ca (Yc 6)) F5 ⟨zA.ag (Tn.A (Bw G (w.1.size+1) _ _ _ _ _ _ _ _ _ _ _ _) zA.size Yu),cr ⟨cr (zI.1 trivial),rfl⟩⟩
def DR(k:Nat):Bool:=k==2||k==4||k==7
def Dx(k:Nat):Bool:=k==2||k==3
def CC(k:Nat):Bool:=k==1
def CH(k:Nat):Int:=if k=1\/k=4\/k=6 then 100000 else if k=5 then 1000000000 else 0
def DW(u:Bool)(s:Zi)(wd:Int):Bool:=if u then bq ((s.size:Int)=wd)else bq (s.size=0)
def Ig(u:Bool)(s:Zi):Bool:=if u then DG s else bq (s.size=0)
def Ej(m n:Int):Bool:=if m=0 then bq (n=0)else bq (1<=n/\n<=m)
def GN(u:Bool)(t:Zi)(ss:Zl)(wd:Int):Bool:=if u then AL t ss wd else bq (t.size=0/\ed ss=0)
theorem Ob:s.toList.isEmpty=bq (s.size=0):=by
 have:ed s.toList=s.size:=K3;rw[<-this];cases s.toList<;>simp
theorem Rd(s:Zi)(a b c:Bool)(m f:Int)(w:Zh):
 D4 184 #[C0 s,ca #[ec a,ec b,ec c,Zg m],Zg f] w λe d=>e=C1 (ec (DW b s f))/\Zz w d:=by
 cases b with
 |true=>delta D4;go_in;go_wp2;go_ret;exact⟨AE rfl,Zy⟩
 |false=>have d:=Ob (s:=s);have g:=Yw d;clear d;delta D4;go_in;go_wp2;go_ret;exact⟨AE g,Zy⟩
theorem PU(s:Zi)(a b c:Bool)(m:Int)(w:Zh)(f:s.size<=eo):
 D4 185 #[C0 s,ca #[ec a,ec b,ec c,Zg m]] w λe d=>e=C1 (ec (Ig a s))/\Zz w d:=by
 cases a with
 |true=>delta D4;go_in;go_wp2_with fail;refine(TZ s _ f).ah ?_;rintro e g ⟨rfl,rfl⟩;go_wp2;go_ret;exact⟨AE rfl,Zy⟩
 |false=>have d:=Yw (Ob (s:=s));delta D4;go_in;go_wp2;go_ret;exact⟨AE d,Zy⟩
theorem Re(n:Int)(a b c:Bool)(m:Int)(w:Zh):
 D4 186 #[Zg n,ca #[ec a,ec b,ec c,Zg m]] w λe d=>e=C1 (ec (Ej m n))/\Zz w d:=by
 by_cases hm:m=0
 .subst hm;delta D4;go_in;go_wp2;go_ret;exact⟨AE (by unfold Ej;rw[if_pos rfl];rfl),Zy⟩
 have g:(m==0)=ba:=Yt;have d:=Yw hm;clear hm;by_cases h1:1<=n
 .delta D4;go_in;go_wp2;go_ret;exact⟨AE (by unfold Ej;rw[if_neg d.o];simp[h1]),Zy⟩
 have f:bq (1<=n)=ba:=Yt;delta D4;go_in;go_wp2;go_ret;exact⟨AE (by unfold Ej;rw[if_neg d.o,decide_eq_false Yv]),Zy⟩
theorem ON(t:Zi){i:Zk}(g:Nat){d:Zl}(a b c:Bool)(m l:Int)(j:Ad w w.1.size i d)(p:ed d<=1048576)(q:t.size<=eo):
 D4 187 #[ca #[C0 t,Cx i (ed d) g],ca #[ec a,ec b,ec c,Zg m],Zg l] w λe f=>e=C1 (ec (GN c t d l))/\Zz w f:=by
 have f:bg w.1.size w ((w.alloc (bs #[C0 t,Cw i d g] 48)).alloc (bs #[ec a,ec b,ec c,Zg m] 225)):=gB;cases c with
 |true=>delta D4;go_in;go_wp2_with fail;refine(EP t g l (j.U f) p q).ah ?_;rintro e r ⟨rfl,rfl⟩;go_wp2;go_ret;exact⟨AE rfl,f.alloc Yt _⟩
 |false=>
  by_cases h1:t.size=0
  .have o:t.toList.isEmpty=ay:=gA;have k:=Yw h1;clear h1;delta D4;go_in;go_wp2;go_ret;refine⟨AE ?_,f⟩;unfold GN;rw[if_neg Yq];have n:=k.o;by_cases hs0:ed d=0
   .rw[decide_eq_true ⟨n,hs0⟩];simp[hs0]
   rw[decide_eq_false (λh=>hs0 h.2)];simp;intro h;exact hs0 Yt
  have o:t.toList.isEmpty=ba:=by rw[Ob];simpa using h1
  have k:=Yw h1;clear h1;delta D4;go_in;go_wp2;go_ret;refine⟨AE ?_,f⟩;unfold GN;rw[if_neg Yq,decide_eq_false (λh=>k h.1)]
def JY(w:Zh):Prop:=∀k,1<=k->k<=7->eh w (Zd 5 (k *4))=ai (ec (Dx k))/\eh w (Zd 5 (k *4+1))=ai (ec (DR k))/\eh w (Zd 5 (k *4+2))=ai (ec (CC k))/\eh w (Zd 5 (k *4+3))=ai (Zg (CH k))
theorem JY.A{g:Zh}(h:JY w)(f:Zz w g):JY g:=by intro k i j;have⟨a,b,c,d⟩:=h k i j;have e:=A4 w _ a;exact⟨(f.cell (p:=⟨5,k *4,an⟩) e).ag a,(f.cell (p:=⟨5,k *4+1,an⟩) e).ag b,(f.cell (p:=⟨5,k *4+2,an⟩) e).ag c,(f.cell (p:=⟨5,k *4+3,an⟩) e).ag d⟩
theorem Lo(k:Nat)(w:Zh)(hT:JY w)(b:1<=k)(c:k<=7):
 D4 170 #[Zg k] w λe a=>e=C1 (.tuple #[ca #[ec (Dx k),ec (DR k),ec (CC k),Zg (CH k)],ec ay])/\Zz w a:=by
 obtain⟨a,f,g,h⟩:=hT k b c;have d:=A4 w _ a;have i:bq ((k:Int)<1)=ba:=Yt;have j:bq ((7:Int)<k)=ba:=Yt;have l:(k:Int)<8:=Yv;delta D4;go_in;go_wp2;exact Co (.tuple #[ca #[ec (Dx k),ec (DR k),ec (CC k),Zg (CH k)],ec ay]) J9 ⟨rfl,Zy⟩
theorem MD(k:Int)(w:Zh)(h:¬(1<=k/\k<=7)):
 D4 170 #[Zg k] w λe a=>e=C1 (.tuple #[ca #[ec ba,ec ba,ec ba,Ze],ec ba])/\Zz w a:=by
 by_cases h1:k<1
 .have a:bq (k<1)=ay:=Yt;delta D4;go_in;go_wp2;exact Co (.tuple #[ca #[ec ba,ec ba,ec ba,Ze],ec ba]) J9 ⟨rfl,Zy⟩
 have a:bq (k<1)=ba:=Yt;have b:bq (7<k)=ay:=Yt;delta D4;go_in;go_wp2;exact Co (.tuple #[ca #[ec ba,ec ba,ec ba,Ze],ec ba]) J9 ⟨rfl,Zy⟩
def CL(k:Nat)(sum name:Zi)(n:Int)(t:Zi)(ss:Zl)(wd:Int):Bool:=
 decide (1<=wd/\wd<=8)&&(DW (DR k) sum wd&&(Ig (Dx k) name&&(Ej (CH k) n&&GN (CC k) t ss wd)))
abbrev EV(k:Int)(sum name:Zi)(n:Int)(t:Zi)(ad:Zk)(len cap:Nat):Array Value:= #[Zg k,.string sum,.string name,Zg n,.string t,.slice ad len cap]
theorem Rf(k:Int)(d a:Zi)(n:Int)(t:Zi)(f:Zk)(c:Nat)(h:Zl)(i:Int)(w:Zh)(g:¬(1<=k/\k<=7)):
 D4 137 #[ca (EV k d a n t f (ed h) c),Zg i] w λe b=>e=C1 (ec ba)/\Zz w b:=by
 delta D4;go_in;go_wp2_with fail;refine(MD k _ g).ah ?_;rintro e j ⟨rfl,b⟩;go_wp2;go_ret;exact⟨rfl,((Zy).ag (b.ah Yu)).alloc (by have:=b.size;simp at this;omega) _⟩
structure EB (W:Zh) (B P:Nat) (sum name:Zi) (n:Int) (t:Zi) (v:Value) (a b c:Bool) (m:Int):Prop where
 x1:eh W (Zd B 1)=ai (.string sum)
 x2:eh W (Zd B 2)=ai (.string name)
 x3:eh W (Zd B 3)=ai (Zg n)
 x4:eh W (Zd B 4)=ai (.string t)
 x5:eh W (Zd B 5)=ai v
 y0:eh W (Zd P 0)=ai (ec a)
 y1:eh W (Zd P 1)=ai (ec b)
 y2:eh W (Zd P 2)=ai (ec c)
 y3:eh W (Zd P 3)=ai (Zg m)
theorem EB.A{j:Zh}{P:Nat}{i e:Zi}{n:Int}{a b c:Bool}{m:Int}(h:EB W B P i e n t v a b c m)(d:Zz W j):EB j B P i e n t v a b c m:=by
 have f:=A4 W _ h.x1;have g:=A4 W _ h.y0;exact⟨(d.cell (p:=⟨B,1,an⟩) f).ag h.x1,(d.cell (p:=⟨B,2,an⟩) f).ag h.x2,(d.cell (p:=⟨B,3,an⟩) f).ag h.x3,(d.cell (p:=⟨B,4,an⟩) f).ag h.x4,(d.cell (p:=⟨B,5,an⟩) f).ag h.x5,
  (d.cell (p:=⟨P,0,an⟩) g).ag h.y0,(d.cell (p:=⟨P,1,an⟩) g).ag h.y1,(d.cell (p:=⟨P,2,an⟩) g).ag h.y2,(d.cell (p:=⟨P,3,an⟩) g).ag h.y3⟩
theorem ME(k:Nat)(f a:Zi)(n:Int)(t:Zi){v:Zk}(r:Nat){i:Zl}(c:Int)(hT:JY w)(R:1<=k)(S:k<=7)(H:Ad w w.1.size v i)(T:ed i<=1048576)(V:t.size<=eo)(U:a.size<=eo):
 D4 137 #[ca (EV k f a n t v (ed i) r),Zg c] w λe b=>e=C1 (ec (CL k f a n t i c))/\Zz w b:=by
 have J:bg w.1.size w (w.alloc (bs (EV k f a n t v (ed i) r) 117)):=gB;delta D4;go_in;go_wp2_with fail;refine(Lo k _ (hT.A J) R S).ah ?_;rintro e g ⟨rfl,d⟩;have N:=d.size;simp at N;have b:w.1.size<g.1.size:=Yv;obtain⟨I,h,s⟩:=J.ag (d.ah Yu),YP d;have j:eh g (Zd (w.1.size) 1)=ai (C0 f):=Gl;have l:eh g (Zd (w.1.size) 2)=ai (C0 a):=by rw[d.cell (p:=⟨w.1.size,2,an⟩) Yu];simp
 have m:eh g (Zd (w.1.size) 3)=ai (Zg n):=by rw[d.cell (p:=⟨w.1.size,3,an⟩) Yu];simp
 have o:eh g (Zd (w.1.size) 4)=ai (C0 t):=by rw[d.cell (p:=⟨w.1.size,4,an⟩) Yu];simp
 have q:eh g (Zd (w.1.size) 5)=ai (Cw v i r):=by rw[d.cell (p:=⟨w.1.size,5,an⟩) Yu];simp
 clear h s;have⟨K,s⟩:=Du g #[ec (Dx k),ec (DR k),ec (CC k),Zg (CH k)] 225;have h:bg g.1.size g K:=gB;have z:EB K w.1.size g.1.size f a n t (Cw v i r) (Dx k) (DR k) (CC k) (CH k):=by refine⟨(h.cell (p:=⟨w.1.size,1,an⟩) b).ag j,(h.cell (p:=⟨w.1.size,2,an⟩) b).ag l,(h.cell (p:=⟨w.1.size,3,an⟩) b).ag m,(h.cell (p:=⟨w.1.size,4,an⟩) b).ag o,(h.cell (p:=⟨w.1.size,5,an⟩) b).ag q,?_,?_,?_,?_⟩<;>(rw[s];simp)
 have x:=I.ag (h.ah I.size);have D:=Yw s;clear s;by_cases hw:1<=c/\c<=8
 .obtain⟨L,M⟩:=hw;have s:bq (1<=c/\c<=8)=ay:=Yt
  have u:=Yw s;clear s;go_wp2_with (go_at_call 45;go_in);rw[<-D.o];refine(Rd f (Dx k) (DR k) (CC k) (CH k) c K).ah ?_;rintro e X ⟨rfl,y⟩;have O:=z.A y;have E:=x.ag (y.ah x.size);clear z y;cases hs:DW (DR k) f c with
  |false=>go_wp2;go_ret;exact⟨AE (by unfold CL;rw[hs];simp),E⟩
  |true=>
   have HS:=Yw hs;clear hs;obtain⟨j,l,m,o,q,z,A,B,C⟩:=O;go_wp2_with fail;refine(PU a (Dx k) (DR k) (CC k) (CH k) _ U).ah ?_;rintro e Y ⟨rfl,y⟩;have P:=(EB.mk j l m o q z A B C).A y;have F:=E.ag (y.ah E.size);clear j l m o q z A B C y;cases hnm:Ig (Dx k) a with
   |false=>go_wp2;go_ret;exact⟨AE (by unfold CL;rw[hnm];simp),F⟩
   |true=>
    have HN:=Yw hnm;clear hnm;obtain⟨j,l,m,o,q,z,A,B,C⟩:=P;go_wp2_with fail;refine(Re n (Dx k) (DR k) (CC k) (CH k) _).ah ?_;rintro e Z ⟨rfl,G⟩;have Q:=(EB.mk j l m o q z A B C).A G;have y:=F.ag (G.ah F.size);clear j l m o q z A B C G;cases hnu:Ej (CH k) n with
    |false=>go_wp2;go_ret;exact⟨AE (by unfold CL;rw[hnu];simp),y⟩
    |true=>have HU:=Yw hnu;clear hnu;obtain⟨j,l,m,o,q,z,A,B,C⟩:=Q;go_wp2_with fail;refine(ON t r (Dx k) (DR k) (CC k) (CH k) c (H.U y) T V).ah ?_;rintro e W ⟨rfl,G⟩;go_wp2;go_ret;exact⟨AE (by unfold CL;rw[u.o,HS.o,HN.o,HU.o];rfl),y.ag (G.ah y.size)⟩
 have s:bq (1<=c/\c<=8)=ba:=Yt;have u:=Yw s;clear s;by_cases L:1<=c
 .have M:bq (c<=8)=ba:=Yt;go_wp2;go_ret;refine⟨AE (by unfold CL;rw[u.o];rfl),?_⟩;rw[<-D.o];exact x
 go_wp2;go_ret;refine⟨AE (by unfold CL;rw[u.o];rfl),?_⟩;rw[<-D.o];exact x
def Kx(k:Nat):Int:=if k=1\/k=4\/k=6 then 1 else if k=5 then 2 else 0
theorem Wq(k:Nat)(w:Zh)(a:1<=k)(b:k<=7):
 D4 145 #[Zg k] w λe c=>e=C1 (.tuple #[ec (DR k),ec (Dx k),Zg (Kx k),ec (CC k)])/\c=w:=by
 match k,a,b with
 |1,_,_|2,_,_|3,_,_|4,_,_|5,_,_|6,_,_|7,_,_=>
  delta D4;go_in;go_wp2;refine bodyPost_ret ?_ rfl ⟨rfl,rfl⟩;simp[results,results145,go_sem,DR,Dx,Kx,CC]
theorem Ws(k:Nat)(n:Int)(w:Zh):
 D4 146 #[Zg n,Zg (Kx k)] w λe a=>e=C1 (ec (Ej (CH k) n))/\a=w:=by
 have d:(Kx k=1/\CH k=100000)\/(Kx k=2/\CH k=1000000000)\/(Kx k=0/\CH k=0):=by
  unfold Kx CH;split
  .exact cr ⟨rfl,rfl⟩
  split
  .exact .inr (cr ⟨rfl,rfl⟩)
  exact .inr (.inr ⟨rfl,rfl⟩)
 rcases d with⟨a,b⟩|⟨a,b⟩|⟨a,b⟩<;>rw[a,b]
 .by_cases hn:1<=n
  .delta D4;go_in;go_wp2;go_ret;exact⟨AE (by unfold Ej;rw[if_neg Yq];simp[hn]),rfl⟩
  have c:bq (1<=n)=ba:=Yt;delta D4;go_in;go_wp2;go_ret;exact⟨AE (by unfold Ej;rw[if_neg Yq,decide_eq_false Yv]),rfl⟩
 .by_cases hn:1<=n
  .delta D4;go_in;go_wp2;go_ret;exact⟨AE (by unfold Ej;rw[if_neg Yq];simp[hn]),rfl⟩
  have c:bq (1<=n)=ba:=Yt;delta D4;go_in;go_wp2;go_ret;exact⟨AE (by unfold Ej;rw[if_neg Yq,decide_eq_false Yv]),rfl⟩
 delta D4;go_in;go_wp2;go_ret;exact⟨AE (by unfold Ej;rw[if_pos rfl];rfl),rfl⟩
theorem Wt(k:Int)(g b:Zi)(n:Int)(t:Zi)(h:Zk)(c:Nat)(j:Zl)(a:Int)(w:Zh)(m:¬(1<=k/\k<=7)):
 D4 100 #[ca (EV k g b n t h (ed j) c),Zg a] w λe d=>e=C1 (ec ba)/\Zz w d:=by
 by_cases hw:1<=a/\a<=8
 .obtain⟨d,f⟩:=hw;by_cases h1:k<1
  .have i:bq (k<1)=ay:=Yt;delta D4;go_in;go_wp2;go_ret;exact⟨rfl,Zy⟩
  have i:bq (k<1)=ba:=Yt;have l:bq (7<k)=ay:=Yt;delta D4;go_in;go_wp2;go_ret;exact⟨rfl,Zy⟩
 by_cases d:1<=a
 .have f:bq (a<=8)=ba:=Yt;delta D4;go_in;go_wp2;go_ret;exact⟨rfl,Zy⟩
 delta D4;go_in;go_wp2;go_ret;exact⟨rfl,Zy⟩
theorem Ux(k:Nat)(d b:Zi)(n:Int)(t:Zi)(h:Zk)(g:Nat)(f:Zl)(a:Int)(w:Zh)(j:¬(1<=a/\a<=8)):
 D4 100 #[ca (EV k d b n t h (ed f) g),Zg a] w λe c=>e=C1 (ec (CL k d b n t f a))/\Zz w c:=by
 have c:Hid (bq (1<=a/\a<=8)=ba):=gH;by_cases hw1:1<=a
 .have i:bq (a<=8)=ba:=Yt;delta D4;go_in;go_wp2;go_ret;exact⟨AE (by unfold CL;rw[c.o];rfl),Zy⟩
 delta D4;go_in;go_wp2;go_ret;exact⟨AE (by unfold CL;rw[c.o];rfl),Zy⟩
theorem PV{a:Zl}{c:Int}(b:t.size=0):((ed a:Int)==0)=(ay&&(ay&&(ay&&GN ba t a c))):=by
 unfold GN;rw[if_neg Yq];by_cases hs0:ed a=0
 .rw[decide_eq_true ⟨b,hs0⟩];simp[hs0]
 rw[decide_eq_false (λh=>hs0 h.2)];simp;intro h;exact gA
theorem PW{b:Zl}{c:Int}(a:¬t.size=0):ba=(ay&&(ay&&(ay&&GN ba t b c))):=by unfold GN;rw[if_neg Yq,decide_eq_false (λh=>a h.1)];rfl
theorem RN(k:Nat)(c a:Zi)(n:Int)(t:Zi)(j:Nat){h:Zl}(d:Int)(y:1<=k)(z:k<=7)(C:1<=d)(D:d<=8)(i:Ad w w.1.size l h)(r:ed h<=1048576)(s:t.size<=eo)(A:a.size<=eo):
 D4 100 #[ca (EV k c a n t l (ed h) j),Zg d] w λe b=>e=C1 (ec (CL k c a n t h d))/\Zz w b:=by
 have b:bg w.1.size w (w.alloc (bs (EV k c a n t l (ed h) j) 117)):=gB;have x:Hid (bq (1<=d/\d<=8)=ay):=gH;have E:bq ((k:Int)<1)=ba:=Yt;have F:bq ((7:Int)<k)=ba:=Yt;have HU:=Wq k;have f:=Ws k n;unfold CL;rw[x.o,Bool.true_and];generalize Kx k=kn at *
 generalize Ej (CH k) n=nu at *
 generalize hks:DR k=us at *
 generalize hkn:Dx k=un at *
 generalize hkt:CC k=ut at *
 have v:=Yw HU;have u:=Yw f;clear HU f hks hkn hkt;delta D4;go_in;go_wp2_with (go_at_call 35;go_in);refine(v _ y z).ah ?_;rintro e G ⟨rfl,rfl⟩;cases us
 case' true=>
  by_cases hs:(c.size:Int)=d
  case' neg=>
   have o:((c.size:Int) !=d)=ay:=Yt;have HS:Hid (DW ay c d=ba):=I9;clear hs;go_wp2;go_ret;exact⟨AE (by rw[HS.o];rfl),b⟩
  case' pos=>
   have o:((c.size:Int) !=d)=ba:=Yt;have HS:Hid (DW ay c d=ay):=I9;clear hs
 case' false=>
  by_cases hs:c.size=0
  case' neg=>
   have o:c.toList.isEmpty=ba:=(by rw[Ob];simpa using hs);have HS:Hid (DW ba c d=ba):=I9;clear hs;go_wp2;go_ret;exact⟨AE (by rw[HS.o];rfl),b⟩
  case' pos=>
   have o:c.toList.isEmpty=ay:=gA;have HS:Hid (DW ba c d=ay):=I9;clear hs
 all_goals
  go_wp2_with fail;refine(u _).ah ?_;rintro e H ⟨rfl,rfl⟩;cases nu with
  |false=>go_wp2;go_ret;exact⟨AE Yu,b⟩
  |true=>
   cases un with
   |true=>
    go_wp2_with fail;refine(Ua a _ A).ah ?_;rintro e I ⟨rfl,rfl⟩;cases hno:DG a with
    |false=>go_wp2;go_ret;exact⟨AE (by simp[Ig,hno]),b⟩
    |true=>
     have f:Hid (Ig ay a=ay):=hno;clear hno;cases ut with
     |true=>go_wp2_with fail;refine(EQ t j d (i.U b) r s).ah ?_;rintro e B ⟨rfl,m⟩;go_wp2;go_ret;exact⟨AE (by rw[HS.o,f.o];rfl),b.ag (m.ah Yu)⟩
     |false=>
      by_cases h0:t.size=0
      .have q:t.toList.isEmpty=ay:=gA;have g:=Yw h0;clear h0;go_wp2;go_ret;exact⟨AE (by rw[HS.o,f.o];exact PV g),b⟩
      have q:t.toList.isEmpty=ba:=by rw[Ob];simpa using h0
      have g:=Yw h0;clear h0;go_wp2;go_ret;exact⟨AE (by rw[HS.o,f.o];exact PW g),b⟩
   |false=>
    by_cases hno:a.size=0
    .have p:a.toList.isEmpty=ay:=gA;have f:Hid (Ig ba a=ay):=by show _=_;simpa [Ig]using hno
     clear hno;cases ut with
     |true=>go_wp2_with fail;refine(EQ t j d (i.U b) r s).ah ?_;rintro e B ⟨rfl,m⟩;go_wp2;go_ret;exact⟨AE (by rw[HS.o,f.o];rfl),b.ag (m.ah Yu)⟩
     |false=>
      by_cases h0:t.size=0
      .have q:t.toList.isEmpty=ay:=gA;have g:=Yw h0;clear h0;go_wp2;go_ret;exact⟨AE (by rw[HS.o,f.o];exact PV g),b⟩
      have q:t.toList.isEmpty=ba:=(by rw[Ob];simpa using h0);have g:=Yw h0;clear h0;go_wp2;go_ret;exact⟨AE (by rw[HS.o,f.o];exact PW g),b⟩
    have p:a.toList.isEmpty=ba:=(by rw[Ob];simpa using hno);have f:Hid (Ig ba a=ba):=(by show _=_;simpa [Ig]using hno);clear hno;go_wp2;go_ret;exact⟨AE (by rw[f.o];simp),b⟩
def u8(x:Int):UInt8:=UInt8.ofNat x.toNat
theorem Fi(x:Int)(a:0<=x)(h:x<256):int .u8 x=.int .u8 ((u8 x).toNat:Int):=by
 have:(u8 x).toNat=x.toNat:=by simp[u8];omega
 rw[this];congr 1;omega
def BK(k n m:Int):List UInt8:=[u8 k,u8 (n/16777216),u8 (n/65536%256),u8 (n/256%256),u8 (n%256),u8 m]
def Dh(k:Nat)(sum name:Zi)(n:Int)(t:Zi)(ss:Zl):List UInt8:=
 BK k n name.size++name.data.toList++sum.data.toList++(if k=1 then Bu t ss else [])
theorem IG{P:Program}(w:Zh){l:Array Oper}{o:Oper}{a:Act}{K:Act->Zh->Prop}{Q:Exit->Act->Zh->Prop}{E:Prop}(y:o.guard=an)(p x:Operand)(t u:TypeId)(C:o.op=.call {callee:=.builtin .append,args:= #[p,x],argTypes:= #[t,u]})(b:Nat)(e:TypeId)(i:TypeInfo)(G:P.underlying t=ai (.slice e))(H:P.underlying u=ai .string)(B:P.info? e=ai i)(L:i.zero=ai (.int .u8 0))(f:i.size=1)(r:i.bytes=1)(v:Dg)(n:Nat)(m:Zj)(F:a.eval p=v)(k:ej w b e 1 v n m)(s:Zi)(J:a.eval x=C0 s)(q:n+s.size<=eo)(c:n+s.size<=140737488355328)(d:b<=w.1.size)(h:∀j g,ej g b e 1 j (n+s.size) (m++Lib.strCells s)->ek w g (ef v)->K (a.put o.dst j) g):
 if Region.wanted o (yielded l a.tmps)=ay then Oper.wp P o a w K Q else E:=by
 have I:Region.wanted o (yielded l a.tmps)=ay:=by simp[Region.wanted,y]
 rw[if_pos I];obtain⟨j,g,D,z,A,_⟩:=Lib.run_append_own_string (P:=P) w b t u o.type e i G H B L f r v n m k s q c d;unfold Oper.wp execOp;simp only[C,resolve,invoke,builtin,Sem.run_bind,Sem.run_pure,Result.andThen_ok,map_toArray,map_cons,map_nil,F,J,D];exact h j g z A
structure YY (k:Nat) (sum name:Zi) (n:Int) (t:Zi) (ss:Zl) (wd:Int):Prop where
 w1:1<=wd
 w2:wd<=8
 sum:sum.size<=8
 name:name.size<=40
 n0:0<=n
 n1:n<=1000000000
 fh:k=1->AL t ss wd=ay
theorem Ea{e a:Zi}{n:Int}{f:Zl}{g:Int}(h:CL k e a n t f g=ay):YY k e a n t f g:=by
 unfold CL at h;simp only[Bool.and_eq_true,decide_eq_true_eq]at h;obtain⟨⟨i,j⟩,d,b,c,m⟩:=h;refine⟨i,j,?_,?_,?_,?_,?_⟩
 .unfold DW at d;split at d<;>simp at d
  .omega
  simp[d]
 .unfold Ig at b;split at b
  .unfold DG at b;simp at b;omega
  simp at b;simp[b]
 .unfold Ej at c;split at c<;>simp at c<;>omega
 .have o:CH k<=1000000000:=by
   unfold CH;split
   .omega
   split<;>omega
  unfold Ej at c;split at c<;>simp at c<;>omega
 intro l;subst l;exact m
theorem Uy:(prog.info? 5).map (λi=>(i.zero,i.size,i.bytes))=ai (ai (.int .u8 0),1,1):=Yr
theorem Uz(k n m:Int)(a:0<=k)(c:k<256)(e:0<=n)(f:n<=1000000000)(b:0<=m)(d:m<256):
 [int .u8 k,.int .u8 (n/16777216),.int .u8 (n/65536%256),.int .u8 (n/256%256),.int .u8 (n%256),.int .u8 m]=Lib.byteCells (BK k n m):=by
 rw[Fi k a c,Fi (n/16777216) Yv Yv,Fi (n/65536%256) Yv Yv,Fi (n/256%256) Yv Yv,Fi (n%256) Yv Yv,Fi m b d];rfl
theorem RO{a:Nat}{e:TypeId}(h:ej w a e 1 v n d)(f:b<a):ai b≠ef v:=by intro c;have:=(h.lt b c.symm).1;omega
theorem UA(k:Nat)(c b:Zi)(n:Int)(t:Zi){x:Zk}(o:Nat){d:Zl}(J:Int)(h1:1<=k)(h7:k<=7)(i:Ad w w.1.size x d)(hl:ed d<=1048576)(ht:t.size<=eo)(l:CL k c b n t d J=ay):
 D4 102 #[ca (EV k c b n t x (ed d) o),Zg J] w λe f=>e=C1 (C0 ⟨(Dh k c b n t d).toArray⟩)/\Zz w f:=by
 have hp:=Ea l;obtain⟨zA,zB,zC,U,X,Y,B⟩:=hp;have⟨R,Q,H,I,s⟩:=info_parts Uy;have m:bg w.1.size w (w.alloc (bs (EV k c b n t x (ed d) o) 117)):=gB;delta D4;go_in;go_wp2_with fail;refine(RN k c b n t o J h1 h7 zA zB (i.U m) hl ht Yo).ah ?_;rintro e g ⟨rfl,h⟩;rw[l];have hz:=h.size;simp at hz;have f:w.1.size<g.1.size:=Yv;have E:=m.ag (h.ah Yu);have K:eh g (Zd (w.1.size) 0)=ai (Zg k):=by rw[h.cell (p:=⟨w.1.size,0,an⟩) Yu];simp
 have L:eh g (Zd (w.1.size) 1)=ai (C0 c):=by rw[h.cell (p:=⟨w.1.size,1,an⟩) Yu];simp
 have T:eh g (Zd (w.1.size) 2)=ai (C0 b):=by rw[h.cell (p:=⟨w.1.size,2,an⟩) Yu];simp
 have x3:eh g (Zd (w.1.size) 3)=ai (Zg n):=by rw[h.cell (p:=⟨w.1.size,3,an⟩) Yu];simp
 have M:eh g (Zd (w.1.size) 4)=ai (C0 t):=by rw[h.cell (p:=⟨w.1.size,4,an⟩) Yu];simp
 have N:eh g (Zd (w.1.size) 5)=ai (Cw x d o):=by rw[h.cell (p:=⟨w.1.size,5,an⟩) Yu];simp
 have C:=i.A E;have V:=Yw l;clear l B i h m;have⟨v,h⟩:=Du g #[.int .u8 k,.int .u8 (n/16777216),.int .u8 (n/65536%256),.int .u8 (n/256%256),.int .u8 (n%256),.int .u8 b.size] 5;have z:ej v g.1.size 5 1 (Yz g.1.size 6 6) 6 (Lib.byteCells (BK k n b.size)):=by rw[h,<-Uz k n b.size Yv Yv X Y Yv Yv];exact ownsRow_lit g _ 6 (Zx) (by simp[eo]) rfl
 have i:bg g.1.size g v:=gB;have zK:=i.size;have HW:=Yw h;clear h;go_wp2;rw[<-HW.o];have K:eh v (Zd (w.1.size) 0)=ai (Zg k):=(i.cell (p:=⟨w.1.size,0,an⟩) f).ag K;have L:eh v (Zd (w.1.size) 1)=ai (C0 c):=(i.cell (p:=⟨w.1.size,1,an⟩) f).ag L;have T:eh v (Zd (w.1.size) 2)=ai (C0 b):=(i.cell (p:=⟨w.1.size,2,an⟩) f).ag T;have M:eh v (Zd (w.1.size) 4)=ai (C0 t):=(i.cell (p:=⟨w.1.size,4,an⟩) f).ag M;have N:eh v (Zd (w.1.size) 5)=ai (Cw x d o):=(i.cell (p:=⟨w.1.size,5,an⟩) f).ag N;have h:=RO z f
 go_region_law (first
  |(refine IG _ rfl (.tmp 35) (.tmp 37) 22 9 rfl g.1.size 5 R underlying22 underlying9 Q H I s _ 6 (Lib.byteCells (BK k n b.size)) rfl (by exact z) b rfl Yo Yv Yt ?_;intro v3 w3 A l;have j:=l.cell (a:=⟨w.1.size,1,an⟩) (by exact L) h)
  |(refine IG _ rfl (.tmp 38) (.tmp 40) 22 9 rfl g.1.size 5 R underlying22 underlying9 Q H I s _ (6+b.size) (Lib.byteCells (BK k n b.size)++Lib.strCells b) rfl A c rfl Yo Yv (by have:=l.size;simp at this;omega) ?_;intro v4 S r q))
 all_goals
  obtain⟨m,W,zM⟩:=RO A f,l.size,q.size;simp at W;have z0:=q.cell (a:=⟨w.1.size,0,an⟩) (l.cell (a:=⟨w.1.size,0,an⟩) (by exact K) h) m;have z4:=q.cell (a:=⟨w.1.size,4,an⟩) (l.cell (a:=⟨w.1.size,4,an⟩) (by exact M) h) m;have z5:=q.cell (a:=⟨w.1.size,5,an⟩) (l.cell (a:=⟨w.1.size,5,an⟩) (by exact N) h) m;have O:bg g.1.size g S:=((i.drew).grown l Yt (λk y=>(z.lt k y).1)).grown q Yv (λk y=>(A.lt k y).1);have⟨g4,c4,Z,zG,zH⟩:=r.form Yv;subst Z;have u:Lib.byteCells (BK k n b.size)++Lib.strCells b++Lib.strCells c=Lib.byteCells (BK k n b.size++b.data.toList++c.data.toList):=by rw[Lib.strCells_eq,Lib.strCells_eq,<-Lib.byteCells_append,<-Lib.byteCells_append]
  rw[u]at r;have G:=E.ag (O.ah E.size);have D:=C.A (O.ah Yv);clear u l q A K L T M N j z i h m;by_cases hk1:k=1
  .subst hk1;have B:=(Ea V).fh rfl;have q:=Bs B;obtain⟨zF,zJ,zI⟩:=q.bu,q.Q,q.C;go_wp2_with fail;refine(NH t x o d J S (D.ah Yv) B).ah ?_;rintro e w5 ⟨rfl,h⟩;have m:=r.kept (row:=an) ⟨h.os,h.tape,h.output,h.size,λk y _=>h.block k y⟩ (.inr (by simp[ownBlock]));have zN:=h.size;have K:ed (Bu t d)<=3000:=(by have:=De d;simp[Bu,this];omega);have i:(ByteArray.mk (Bu t d).toArray).size=ed (Bu t d):=(by simp[ByteArray.size]);have l:=Yw i;clear i;have⟨F,i⟩:=Ag (ByteArray.mk (Bu t d).toArray);rw[<-i]at l |-;have zE:F.size<=3000:=(by rw[l.o];exact K);have HF:=Yw i;clear i;go_wp2_with (at_builtin;refine Lib.wpList_append_own_string _ rfl _ _ 22 9 rfl g.1.size 5 R underlying22 underlying9 Q H I s _ _ _ rfl m F rfl ?c3 ?c4 ?c5 ?_)
   case c3=>unfold eo;omega
   case c4=>omega
   case c5=>omega
   intro v6 w6 i L _;have⟨g6,c6,M,N,T⟩:=i.form Yv;subst M;have z:=(h.ah G.size).grown L Yv (λk y=>C8 (m.lt k y).1);have u:Lib.byteCells (BK 1 n b.size++(b.data.toList++c.data.toList))++Lib.strCells F=Lib.byteCells (Dh 1 c b n t d):=(by rw[Lib.strCells_eq,<-Lib.byteCells_append,HF.o];unfold Dh;rw[if_pos rfl];simp[append_assoc]);rw[u]at i;have hlen:6+b.size+c.size+F.size=ed (Dh 1 c b n t d):=(by rw[l.o];simp[Dh,BK];omega);rw[hlen]at i |-;have A:=run_convert_bytes_back (P:=prog) w6 22 9 5 ⟨g6,0,an⟩ c6 (Dh 1 c b n t d) underlying22 underlying5 underlying9 (λj y=>i.cells rfl j _ (by simp[Lib.byteCells,y]));clear i m u;go_wp2;go_ret;exact⟨rfl,G.ag z⟩
  have m:((k:Int)==1)=ba:=Yt;have hlen:6+b.size+c.size=ed (Dh k c b n t d):=by unfold Dh;rw[if_neg hk1];simp[BK];omega
  have i:BK k n b.size++b.data.toList++c.data.toList=Dh k c b n t d:=by unfold Dh;rw[if_neg hk1,append_nil]
  rw[i,hlen]at r;rw[hlen];have A:=run_convert_bytes_back (P:=prog) S 22 9 5 ⟨g4,0,an⟩ c4 (Dh k c b n t d) underlying22 underlying5 underlying9 (λj y=>r.cells rfl j _ (by simp[Lib.byteCells,y]));clear r i;go_wp2;go_ret;exact⟨rfl,G⟩
def Ca(k:Int)(sum name:Zi)(n:Int)(t:Zi)(ss:Zl)(wd:Int):Bool:=bq (1<=k/\k<=7)&&CL k.toNat sum name n t ss wd
theorem Wu(k:Int)(b a:Zi)(n:Int)(t:Zi){g:Zk}(f:Nat){c:Zl}(d:Int)(h:Ad w w.1.size g c)(i:ed c<=1048576)(l:t.size<=eo)(j:a.size<=eo):
 D4 100 #[ca (EV k b a n t g (ed c) f),Zg d] w λe o=>e=C1 (ec (Ca k b a n t c d))/\Zz w o:=by
 unfold Ca;by_cases hk:1<=k/\k<=7
 .obtain⟨m,rfl⟩:∃m:Nat,k=m:=⟨k.toNat,Yv⟩;rw[decide_eq_true hk,Bool.true_and,Int.toNat_natCast];by_cases hw:1<=d/\d<=8
  .exact RN m b a n t f d Yv Yv hw.1 hw.2 h i l j
  exact Ux m b a n t g f c d w hw
 rw[decide_eq_false hk,Bool.false_and];exact Wt k b a n t g f c d w hk
theorem Wv(k:Int)(c a:Zi)(n:Int)(t:Zi)(f:Zk)(d:Nat)(b:Zl)(g:Int)(hT:JY w)(h:Ad w w.1.size f b)(i:ed b<=1048576)(l:t.size<=eo)(j:a.size<=eo):
 D4 137 #[ca (EV k c a n t f (ed b) d),Zg g] w λe o=>e=C1 (ec (Ca k c a n t b g))/\Zz w o:=by
 unfold Ca;by_cases hk:1<=k/\k<=7
 .obtain⟨m,rfl⟩:∃m:Nat,k=m:=⟨k.toNat,Yv⟩;rw[decide_eq_true hk,Bool.true_and,Int.toNat_natCast];exact ME m c a n t d g hT Yv Yv h i l j
 rw[decide_eq_false hk,Bool.false_and];exact Rf k c a n t f d b g w hk
def Cs(k:Int)(sum name:Zi)(n:Int)(t:Zi)(ss:Zl)(wd:Int):Zi:=if Ca k sum name n t ss wd=ay then ⟨(Dh k.toNat sum name n t ss).toArray⟩else ByteArray.empty
theorem Agd:prog.cellsOf 3=1:=Yr
section
open Go.RowKit Go.Extern.Stop Go.Stop Go.Extern
def IH(w:Zh):Prop:=eh w (Zd 4 0)=ai (.iface 268 (ca #[ea (ai ⟨9,186,an⟩)]))
theorem IH.A{a:Zh}(h:IH w)(b:Zz w a):IH a:=by unfold IH at h |-;exact(b.cell (p:=⟨4,0,an⟩) (A4 w _ h)).ag h
theorem Adg(t:Dg)(w:Zh):
 D4 134 #[.nilIface,t] w λe a=>e=C1 (ec ba)/\a=w:=by
 delta D4;go_in;go_wp2;go_ret;exact⟨rfl,rfl⟩
abbrev rt(t:Nat):Value:=ca #[ea (ai ⟨9,t,an⟩)]
abbrev rv(t:Nat)(a:Addr)(f:Int):Value:=ca #[ea (ai ⟨9,t,an⟩),ea (ai a),.int .u64 f]
theorem Ww(t:Addr)(w:Zh):(ReflectliteValue.unpack (.iface 192 (ea (ai t)))).run prog w
 =.ok (rv 192 ⟨w.1.size,0,an⟩ 150) (w.alloc (bs #[ea (ai t)] 192)):=Yr
theorem Wx(e:Addr)(w:Zh):(ReflectliteValue.unpack (.iface 190 (ea (ai e)))).run prog w
 =.ok (rv 190 ⟨w.1.size,0,an⟩ 150) (w.alloc (bs #[ea (ai e)] 190)):=Yr
theorem Adh(a:Addr)(w:Zh):(ReflectliteValue.methodAny (ReflectliteValue.valueError "reflectlite.Value.Type" 0) (λt _ _ _=>ReflectliteType.toType t) #[rv 192 a 150]).run prog w
 =.ok (.iface 268 (rt 192)) w:=Yr
theorem Aao(h:Dg)(w:Zh):(Go.method 443 268 (ca #[h]) "Kind").run prog w=.ok (269,h) w:=Yr
theorem Aap(h:Dg)(w:Zh):(Go.method 443 268 (ca #[h]) "Elem").run prog w=.ok (282,ca #[h]) w:=Yr
theorem Aaq(h:Dg)(w:Zh):(Go.method 443 268 (ca #[h]) "Implements").run prog w=.ok (283,ca #[h]) w:=Yr
theorem Adi(h:Dg)(w:Zh):(Go.method 443 268 (ca #[h]) "AssignableTo").run prog w=.ok (280,ca #[h]) w:=Yr
theorem Aar(w:Zh):((ReflectliteType.abiMethod λt=>(λa:Nat=>int IntKind.u8 (a:Int))<$>Rtype.kind t) #[Yx 9 192]).run prog w=.ok (.int .u8 22) w:=Yr
theorem Aas(w:Zh):((ReflectliteType.abiMethod λt=>(λa:Nat=>int IntKind.u8 (a:Int))<$>Rtype.kind t) #[Yx 9 190]).run prog w=.ok (.int .u8 22) w:=Yr
theorem Adj(w:Zh):(ReflectliteType.method ReflectliteType.elem #[rt 192]).run prog w=.ok (.iface 268 (rt 190)) w:=Yr
theorem Adk(w:Zh):(ReflectliteType.relation "Implements" ReflectliteType.implements_ #[rt 190,.iface 268 (rt 186)]).run prog w=.ok (ec ay) w:=Yr
theorem Wy(v:Dg)(w:Zh):(ReflectliteType.typeOf #[.iface 190 v]).run prog w=.ok (.iface 268 (rt 190)) w:=Yr
theorem Aew(w:Zh):(ReflectliteType.relation "AssignableTo" ReflectliteType.assignableTo #[rt 190,.iface 268 (rt 190)]).run prog w=.ok (ec ay) w:=Yr
theorem Wz(w:Zh):(Rtype.elem? 192).run prog w=.ok (ai 190) w:=Yr
theorem Age(p:Addr)(w:Zh):(ReflectliteValue.mk 190 p ReflectliteValue.flagAddr).run prog w=.ok (rv 190 p 406) w:=Yr
theorem PX(a:Addr)(w:Zh):(ReflectliteValue.parts (rv 192 a 150)).run prog w=.ok (ai (192,a,150)) w:=Yr
theorem WA(a:Addr)(w:Zh):(ReflectliteValue.parts (rv 190 a 406)).run prog w=.ok (ai (190,a,406)) w:=Yr
theorem WB(a:Addr)(w:Zh):(ReflectliteValue.parts (rv 190 a 150)).run prog w=.ok (ai (190,a,150)) w:=Yr
theorem WC(w:Zh):(Rtype.directlyAssignable 190 190).run prog w=.ok ay w:=Yr
theorem UB(z:Sem Value)(f:TypeId->Addr->Nat->Nat->Sem Value)(v:Dg):
 ReflectliteValue.method z f #[v]=(do match <-ReflectliteValue.parts v with|none=>z|some (t,a,fl)=>f t a fl (fl%32)):=rfl
theorem Aat(a p:Addr)(W:Zh)(b:W.cell? a=ai (ea (ai p))):
 (ReflectliteValue.method (ReflectliteValue.valueError "reflectlite.Value.IsNil" 0) ReflectliteValue.isNil #[rv 192 a 150]).run prog W=.ok (ec ba) W:=by
 rw[UB];simp only[Sem.run_bind,PX,Result.andThen];simp[ReflectliteValue.isNil,loadVar,isAgg,underlying,underlying192,b,Result.andThen]
theorem Aau(a p:Addr)(W:Zh)(b:W.cell? a=ai (ea (ai p))):
 (ReflectliteValue.method (ReflectliteValue.valueError "reflectlite.Value.Elem" 0) ReflectliteValue.elem #[rv 192 a 150]).run prog W=.ok (rv 190 p 406) W:=by
 rw[UB];simp only[Sem.run_bind,PX,Result.andThen];simp[ReflectliteValue.elem,loadVar,isAgg,underlying,underlying192,b,Result.andThen,Wz,Age]
theorem Adl(v x:Dg):ReflectliteValue.set #[v,x]=(do
 let (ai (dst,a,fl),ai (src,b,_)):=(<-ReflectliteValue.parts v,<-ReflectliteValue.parts x)
  |unsupported (.noEntry "extern/(internal/reflectlite.Value).Set.zeroValue")
 if fl/ReflectliteValue.flagAddr%2==0 then unsupported (.noEntry "extern/(internal/reflectlite.Value).Set.unaddressable")
 let val <-loadVar src b
 if <-Rtype.directlyAssignable dst src then storeVar dst a val
 else if <-Rtype.implements dst src then
  if (<-Rtype.kind src)==20 then
   match val with
   |.nilIface=>unsupported (.noEntry "extern/reflectlite: a nil value of one interface type handed on as a value of another")
   |_=>storeVar dst a val
  else storeVar dst a (.iface src val)
 else panicString ("reflectlite.Set: value of type " ++(<-Rtype.spelt src)++ " is not assignable to type " ++(<-Rtype.spelt dst))
 pure (.tuple #[])):=rfl
theorem Aex(a b e:Addr)(c:Dg)(W:Zh)(d:eh W b=ai (ea (ai e)))(g:eh W a=ai c)(f:ei W a=ba):
 (ReflectliteValue.set #[rv 190 a 406,rv 190 b 150]).run prog W=.ok (.tuple #[]) (W.setCell a (ea (ai e))):=by
 rw[Adl];simp only[Sem.run_bind,WA,WB,Result.andThen];simp[ReflectliteValue.flagAddr,loadVar,isAgg,underlying,underlying190,d,Result.andThen,WC,storeVar,Value.cells,storeCells,Addr.add];rw[run_store prog W a _ _ Yp];simp[g,f]
theorem Adm(e:Addr)(a:Nat)(h:Dg)(k:IH w)(g:w.cell? (Zd a 0)=ai h)(l:w.frozen? ⟨a,0,an⟩=ba):
 D4 134 #[.iface 190 (ea (ai e)),.iface 192 (Yy a)] w λb c=>b=C1 (ec ay)/\bg a w c:=by
 have x:= @run_callFunc_extern prog 173 _ (λargs=>ReflectliteValue.unpack (args.getD 0 (.tuple #[]))) func173 Yr Yr Yr Yr;have y:= @run_callFunc_extern prog 174 _ (ReflectliteValue.methodAny (ReflectliteValue.valueError "reflectlite.Value.Type" 0) (λt _ _ _=>ReflectliteType.toType t)) func174 Yr Yr Yr Yr;have z:= @run_callFunc_extern prog 175 _ (ReflectliteValue.method (ReflectliteValue.valueError "reflectlite.Value.IsNil" 0) ReflectliteValue.isNil) func175 Yr Yr Yr Yr;have A:= @run_callFunc_extern prog 269 _ (ReflectliteType.abiMethod λt=>do pure (.int .u8 (<-Rtype.kind t))) func269 Yr Yr Yr Yr;have B:= @run_callFunc_extern prog 282 _ (ReflectliteType.method ReflectliteType.elem) func282 Yr Yr Yr Yr;have C:= @run_callFunc_extern prog 283 _ (ReflectliteType.relation "Implements" ReflectliteType.implements_) func283 Yr Yr Yr Yr;have D:= @run_callFunc_extern prog 209 _ ReflectliteType.typeOf func209 Yr Yr Yr Yr;have E:= @run_callFunc_extern prog 280 _ (ReflectliteType.relation "AssignableTo" ReflectliteType.assignableTo) func280 Yr Yr Yr Yr;have F:= @run_callFunc_extern prog 210 _ (ReflectliteValue.method (ReflectliteValue.valueError "reflectlite.Value.Elem" 0) ReflectliteValue.elem) func210 Yr Yr Yr Yr;have n:= @run_callFunc_extern prog 211 _ ReflectliteValue.set func211 Yr Yr Yr Yr;have H:=Wy;have I:=Adi;have J:=Aew;have K:=Wx;have L:=Ww;have M:=Adh;have N:=Aao;have O:=Aap;have P:=Aaq;have q:=Aar;have r:=Aas;have s:=Adj;have u:=Adk;have m:4<w.1.size:=A4 w _ k;have b:a<w.1.size:=A4 w ⟨a,0,an⟩ g;have i:bg w.1.size w (w.alloc (bs #[Yy a] 192)):=gB;have c:=i.alloc i.size (bs #[Yx 9 192,Yy w.1.size,.int .u64 150] 232);have j:=c.alloc c.size (bs #[Yx 9 192,Yy w.1.size,.int .u64 150] 232);have d:=j.alloc j.size (bs #[ea (ai e)] 190);have G:=Aat ⟨w.1.size,0,an⟩ ⟨a,0,an⟩ ((w.alloc (bs #[Yy a] 192)).alloc (bs #[Yx 9 192,Yy w.1.size,.int .u64 150] 232)) Yu;have o:((w.alloc (bs #[Yy a] 192)).alloc (bs #[Yx 9 192,Yy w.1.size,.int .u64 150] 232)).cell? (Zd 4 0)=ai (.iface 268 (ca #[Yx 9 186])):=(c.cell (p:=⟨4,0,an⟩) m).ag k;have v:=Aau ⟨w.1.size,0,an⟩ ⟨a,0,an⟩ (((w.alloc (bs #[Yy a] 192)).alloc (bs #[Yx 9 192,Yy w.1.size,.int .u64 150] 232)).alloc (bs #[Yx 9 192,Yy w.1.size,.int .u64 150] 232)) (by rw[cell?_alloc_lt _ _ ⟨w.1.size,0,an⟩ Yt];simp);have Q:=Aex ⟨a,0,an⟩ ⟨w.1.size+1+1+1,0,an⟩ e h ((((w.alloc (bs #[Yy a] 192)).alloc (bs #[Yx 9 192,Yy w.1.size,.int .u64 150] 232)).alloc (bs #[Yx 9 192,Yy w.1.size,.int .u64 150] 232)).alloc (bs #[ea (ai e)] 190))
  (by rw[cell?_alloc_at _ _ _ _ Yu];rfl)
  ((d.cell (p:=⟨a,0,an⟩) b).ag g)
  ((d.frozen (p:=⟨a,0,an⟩) b).ag l)
 have f:=(d.ah (Nat.le_of_lt b)).setCell (show a<=(⟨a,0,an⟩:Addr).block from Nat.le_refl a) (ea (ai e));clear i c j d;have c:=Yw f;clear f;delta D4;go_in;go_wp2;refine wp_loop_rounds 1 ?_;rw[rounds_succ];go_wp2;go_ret;exact⟨rfl,c⟩
end
theorem Cm(b:UInt8):wrap64 (b.toNat:Int)=(b.toNat:Int):=by have h:=b.toNat_lt;simp[wrap64];omega
theorem Fj(x:Int)(h: -9223372036854775808<=x)(a:x<9223372036854775808):IntKind.i64.wrap x=x:=F9
theorem UC(b:1<=a)(c:k<n):0<=(k:Int) *a/\(k:Int) *a<=(n:Int) *a/\((k:Int)+1) *a=(k:Int) *a+a/\(k:Int) *a+a<=(n:Int) *a:=by refine⟨Int.mul_nonneg Yv Yv,Int.mul_le_mul_of_nonneg_right Yv Yv,by rw[Int.add_mul,Int.one_mul],?_⟩;have:((k:Int)+1) *a<=(n:Int) *a:=Int.mul_le_mul_of_nonneg_right Yv Yv;rw[Int.add_mul,Int.one_mul]at this;exact this
theorem KY(e:n<256)(b:1<=a)(c:a<=8):0<=(n:Int) *a/\(n:Int) *a<=2040:=by refine⟨Int.mul_nonneg Yv Yv,?_⟩;have d:(n:Int) *a<=255 *a:=Int.mul_le_mul_of_nonneg_right Yv Yv;omega
def Eb(s:Zi)(wd:Int)(n:Nat):Zi:=(s.extract 1 s.size).extract ((n:Int) *wd).toNat (s.size -1)
def Ky(s:Zi)(wd:Int)(i:Nat):Zi:=(s.extract 1 s.size).extract ((i:Int) *wd).toNat ((i:Int) *wd+wd).toNat
def BQ(s:Zi)(wd:Int)(k:Nat):Zl:=(List.range k).map (Ky s wd)
theorem CD(s:Zi)(a:Int)(k:Nat):ed (BQ s a k)=k:=by simp[BQ]
theorem SM(s:Zi)(a:Int)(k:Nat):(BQ s a k).map string++[C0 (Ky s a k)]=(BQ s a (k+1)).map string:=by simp[BQ,range_succ]
theorem II{c:Zh}{a:Option Nat}{x:Dg}(f:ek (wr.alloc o).drew c a)(b:eh wr p=ai x)(e:ai p.block≠a):eh c p=ai x:=by refine f.cell ?_ e;have d:=A4 wr p b;exact(cell?_alloc_lt wr o p d).ag b
theorem Lp{b:Zh}{a:Option Nat}(f:ek (wr.alloc o).drew b a)(c:p.block<wr.1.size)(d:ai p.block≠a):ei b p=ei wr p:=by have e:=frozen?_of_block (f.block p.block Yt d);rw[e];exact frozen?_alloc_old wr o p (Nat.ne_of_lt c)
theorem UD{a:Nat}{e:TypeId}(h:ej w a e 1 v n d)(f:b<a):ai b≠ef v:=by intro c;have:=(h.lt b c.symm).1;omega
theorem Ey{ss:Zl}(h:ej w b 9 1 v (ed ss) (ss.map string)):∃a c,v=.slice a (ed ss) c/\Ad w w.1.size a ss:=by
 rcases h.2 with⟨d,e⟩|⟨g,c,f,d,_⟩
 .exact⟨an,0,by rw[d,e],cr (A9 e)⟩
 subst d;exact⟨_,_,rfl,Ad.own h⟩
theorem Oc{e:Int}{b:Zh}{a:Nat}{cf:Zi}(n:w.1.size+1<wr.1.size)(h:ej wr (w.1.size+2) 9 1 v k ((BQ s e k).map string))(f:bg (w.1.size+1) W wr)(d:ej b (w.1.size+2) 9 1 (Yz g (k+1) a) (k+1) ((BQ s e k).map string++[C0 (Ky s e k)]))(c:ek (wr.alloc o).drew b (ef v))(i:eh b (Zd (w.1.size+1) 0)=ai (C0 cf))(m:eh b (Zd (w.1.size+1) 1)=ai v)(j:ei b ⟨w.1.size+1,1,an⟩=ba):
 eh (el b (Zd (w.1.size+1) 1) (Yz g (k+1) a)) (Zd (w.1.size+1) 0)=ai (C0 cf)/\
 eh (el b (Zd (w.1.size+1) 1) (Yz g (k+1) a)) (Zd (w.1.size+1) 1)=ai (Yz g (k+1) a)/\
 ei (el b (Zd (w.1.size+1) 1) (Yz g (k+1) a)) ⟨w.1.size+1,1,an⟩=ba/\
 ej (el b (Zd (w.1.size+1) 1) (Yz g (k+1) a)) (w.1.size+2) 9 1 (Yz g (k+1) a) (k+1) ((BQ s e (k+1)).map string)/\
 bg (w.1.size+1) W (el b (Zd (w.1.size+1) 1) (Yz g (k+1) a)):=by
 refine⟨?_,?_,?_,?_,?_⟩
 .rw[<-i];exact cell?_setCell_other _ _ _ _ Yu
 .exact cell?_setCell_same' _ _ _ gA
 .rw[frozen?_setCell];exact j
 .rw[<-SM];exact ownsRow_setCell_below d Yu _
 exact(((f.alloc Yv o).drew).grown c Yt (λk l=>C8 (h.lt k l).1)).setCell Yu _
theorem PY(h:0<s.size):s.toList.isEmpty=ba:=by
 have:ed s.toList=s.size:=K3
 cases hl:s.toList with
 |nil=>rw[hl]at this;simp at this;omega
 |cons x r=>rfl
theorem UE(s:Zi)(c:Int)(n:Nat)(w:Zh)(hs:s.size<=1048576)(C:1<=c)(W:c<=8)(V:0<s.size)(d:s[0].toNat=n)(P:(n:Int) *c<=s.size -1):
 D4 208 #[C0 s,Zg c] w λe f=>
  (AL (Eb s c n) (BQ s c n) c=ay->∃v,e=C1 (.tuple #[ca #[C0 (Eb s c n),v],ec ay])/\ej f w.1.size 9 1 v n ((BQ s c n).map string))/\
  (AL (Eb s c n) (BQ s c n) c=ba->e=C1 (.tuple #[ca #[Zc,Zb],ec ba]))/\Zz w f:=by
 have⟨Z,X,M,N,O⟩:=info_parts CQ;have t:s.toList.isEmpty=ba:=PY V;have Y:n<256:=by rw[<-d];exact s[0].toNat_lt
 have U:=KY Y C W;have HN:=Yw d;clear d;delta D4;go_in;go_wp2;go_quiet (fail);simp only[Cm];rw[HN.o];go_wp2_with fail;have⟨cf,d⟩:=Ag (Eb s c n);rw[show(s.extract 1 s.size).extract ((n:Int) *c).toNat (s.size -1)=cf from d.symm];have q:=Yw d;clear d;go_loopw [37] (λi wr=>∃(k:Nat) (v:Dg),k<=n/\i=Zg k/\eh wr (Zd (w.1.size+1) 0)=ai (C0 cf)/\eh wr (Zd (w.1.size+1) 1)=ai v/\ei wr ⟨w.1.size+1,1,an⟩=ba/\
  ej wr (w.1.size+2) 9 1 v k ((BQ s c k).map string)/\bg (w.1.size+1) (w.alloc (Obj.cells #[C0 ⟨#[]⟩,Cx an 0 0] 48)) wr) (λi _=>n -(intOf i).toNat)
 case atStart=>exact⟨0,Zb,Aw _,rfl,by simp[go_sem],by simp[go_sem],by simp[go_sem],ownsRow_nil _ _ _ _,(Cg Ae _).alloc Yu _⟩
 obtain⟨k,v,hk,rfl,y,F,J,j,d⟩:=hrel;have K:=d.size;simp at K;by_cases hlt:k<n
 .obtain⟨m1,m2,m3,m4⟩:=UC C hlt;have e1:=Fj ((k:Int) *c) Yv Yv;have e2:=Fj ((k:Int)+1) Yv Yv;have e3:=Fj ((k:Int) *c+c) Yv Yv;have b2:(k:Int) *c<=(k:Int) *c+c:=Yv;have b3:(k:Int) *c+c<=((s.size -1:Nat):Int):=Yv;go_wp2;have t:=UD j (b:=w.1.size+1) Yv;have o:w.1.size+1<wr.1.size:=A4 wr _ y;go_region_law (refine step_append_lies _ rfl (.tmp 41) (.tmp 51) 23 rfl (w.1.size+2) 9 Z Zc 1 16 underlying23 X M N O rfl Yq v k ((BQ s c k).map string) rfl (ownsRow.alloc j _) ⟨wr.1.size,0,an⟩ 1 1 [C0 (Ky s c k)] rfl rfl (cell_one_new wr (C0 (Ky s c k)) 9) Ef Yq Yo Yv Yt (wr.1.size+1) Yu ?_;intro g r w1 u f i Q;have G:=II f y t;have H:=II f F t;have I:=(Lp (p:=⟨w.1.size+1,1,an⟩) f Yt t).ag J)
  all_goals
   have R:=Oc o j d u f G H I;have x:=Yw R;go_wp2;refine⟨⟨_,_,_,_,_,_,_,_,_,_,_,_,_,_,_,_,_,_,_,⟨k+1,_,Yv,?_,x.1,x.2.1,x.2.2.1,x.2.2.2.1,x.2.2.2.2⟩,rfl⟩,?_⟩
   .go_num
   simp[intOf];omega
 obtain rfl:k=n:=Yv;have o:w.1.size+1<wr.1.size:=A4 wr _ y;obtain⟨a,r,E,z⟩:=Ey (ss:=BQ s c k) (by rw[CD];exact j);rw[CD]at E;subst E;have A:(eh wr (Zd (w.1.size) 0))=ai Zc:=by rw[d.cell (p:=⟨w.1.size,0,an⟩) Yu];simp
 have B:(eh wr (Zd (w.1.size) 1))=ai Zb:=Gl;have S:ei wr ⟨w.1.size,0,an⟩=ba:=by rw[d.frozen (p:=⟨w.1.size,0,an⟩) Yu];simp
 have T:ei wr ⟨w.1.size,1,an⟩=ba:=by rw[d.frozen (p:=⟨w.1.size,1,an⟩) Yu];simp
 have L:cf.size<=eo:=by rw[q.o];simp[Eb,eo];omega
 have m:=EP cf r c z (by rw[CD];omega) L;rw[CD]at m;have l:w.1.size<wr.1.size:=Yv
 go_wp2_with fail;refine m.ah ?_;rintro e w2 ⟨rfl,rfl⟩;have D:bg w.1.size w wr:=(Zy).ag (d.ah Yv);cases hok:AL cf (BQ s c k) c with
 |true=>
  go_wp2;refine Co (.tuple #[ca #[C0 cf,Cx a k r],ec ay]) (by simp[results,results208,go_sem,l,A,B]) ⟨λ_=>⟨Cx a k r,?_,?_⟩,λh=> ?_,?_⟩
  .rw[q.o]
  .exact((ownsRow_setCell_below (ownsRow_setCell_below j Yu _) Yu _).alloc _).ah Yv
  .rw[<-q.o,hok]at h;cases h
  exact((D.setCell Yu _).setCell Yu _).alloc Yt _
 |false=>
  go_wp2;refine Co (.tuple #[ca #[Zc,Zb],ec ba]) (by simp[results,results208,go_sem,l,A,B]) ⟨λh=> ?_,λ_=>rfl,?_⟩
  .rw[<-q.o,hok]at h;cases h
  exact((D.setCell Yu _).setCell Yu _).alloc Yt _
def Gn(w:Zh)(e:Ending)(w':Zh):Prop:=e=.returned (.tuple #[ca #[Zc,Zb],ec ba])/\Zz w w'
theorem UF(s:Zi)(a:Int)(w:Zh)(h:¬(1<=a/\a<=8)):
 D4 208 #[C0 s,Zg a] w (Gn w):=by
 by_cases h1:1<=a
 .have b:bq (a<=8)=ba:=Yt;delta D4;go_in;go_wp2;exact Co (.tuple #[ca #[Zc,Zb],ec ba]) G2 ⟨rfl,Zy⟩
 delta D4;go_in;go_wp2;exact Co (.tuple #[ca #[Zc,Zb],ec ba]) G2 ⟨rfl,Zy⟩
theorem isEmpty(h:s.size=0):s.toList.isEmpty=ay:=by
 have:ed s.toList=s.size:=K3;rw[isEmpty_iff,<-length_eq_zero_iff];omega
theorem UG(s:Zi)(a:Int)(w:Zh)(d:1<=a)(e:a<=8)(b:s.size=0):
 D4 208 #[C0 s,Zg a] w (Gn w):=by
 have c:=isEmpty b;delta D4;go_in;go_wp2;exact Co (.tuple #[ca #[Zc,Zb],ec ba]) G2 ⟨rfl,Zy⟩
theorem UH(s:Zi)(b:Int)(n:Nat)(w:Zh)(k:s.size<=1048576)(g:1<=b)(h:b<=8)(f:0<s.size)(a:s[0].toNat=n)(c:(s.size:Int) -1<(n:Int) *b):
 D4 208 #[C0 s,Zg b] w (Gn w):=by
 have j:=PY f;have d:(0:Int)<s.size:=Yv;have i:n<256:=by rw[<-a];exact s[0].toNat_lt
 have e:=KY i g h;have HN:=Yw a;clear a;delta D4;go_in;go_wp2;go_quiet (fail);simp only[Cm];rw[HN.o];go_wp2;refine Co (.tuple #[ca #[Zc,Zb],ec ba]) G2 ⟨rfl,?_⟩;exact(((Cg (Zy) _).setCell Yu _).setCell Yu _)
theorem Adn(s:Zi)(a b:Nat)(d:b<=s.size -1)(c:0<s.size):(s.extract 1 s.size).extract a b=s.extract (1+a) (1+b):=by rw[ByteArray.extract_extract];congr 1;omega
theorem Aav(b:0<s.size)(d:0<=(k:Int) *a)(c:1<=a)(e:(k:Int) *a+a<=s.size -1):s.extract (1+(k:Int) *a).toNat (1+(k:Int) *a+a).toNat=Ky s a k:=by unfold Ky;rw[Adn s _ _ Yv b,show(1+(k:Int) *a).toNat=1+((k:Int) *a).toNat from by omega,show(1+(k:Int) *a+a).toNat=1+((k:Int) *a+a).toNat from by omega]
theorem Aaw(b:0<s.size)(c:0<=(n:Int) *a):s.extract (1+(n:Int) *a).toNat s.size=Eb s a n:=by unfold Eb;rw[Adn s _ _ Yv b,show(1+(n:Int) *a).toNat=1+((n:Int) *a).toNat from by omega,show 1+(s.size -1)=s.size from by omega]
theorem UI(s:Zi)(c:Int)(n:Nat)(w:Zh)(hs:s.size<=1048576)(J:1<=c)(h2:c<=8)(K:0<s.size)(I:s[0].toNat=n)(X:(n:Int) *c<=s.size -1):
 D4 121 #[C0 s,Zg c] w λe d=>
  (AL (Eb s c n) (BQ s c n) c=ay->∃v,e=C1 (.tuple #[ca #[C0 (Eb s c n),v],ec ay])/\ej d w.1.size 9 1 v n ((BQ s c n).map string))/\
  (AL (Eb s c n) (BQ s c n) c=ba->e=C1 (.tuple #[ca #[Zc,Zb],ec ba]))/\Zz w d:=by
 obtain⟨i0,hi,U,V,W⟩:=info_parts CQ;have Z:(0:Int)<s.size:=Yv;have zA:((s.size:Int)==0)=ba:=gG;have hn:n<256:=by rw[<-I];exact s[0].toNat_lt
 have G:=KY hn J h2;have T:=Cm s[0];rw[I]at T;delta D4;go_in;go_wp2;obtain⟨cf,d⟩:=Ag (Eb s c n);rw[Aaw K G.1,<-d];have u:=Yw d;clear d;go_loopw [8] (λi wr=>∃(k:Nat) (v:Dg),k<=n/\i=Zg k/\eh wr (Zd (w.1.size+1) 0)=ai (C0 cf)/\eh wr (Zd (w.1.size+1) 1)=ai v/\ei wr ⟨w.1.size+1,1,an⟩=ba/\
  ej wr (w.1.size+2) 9 1 v k ((BQ s c k).map string)/\bg (w.1.size+1) (w.alloc (Obj.cells #[C0 ⟨#[]⟩,Cx an 0 0] 48)) wr) (λi _=>n -(intOf i).toNat)
 case atStart=>exact⟨0,Zb,Aw _,rfl,by simp[go_sem],by simp[go_sem],by simp[go_sem],ownsRow_nil _ _ _ _,Ae.alloc Yu _⟩
 obtain⟨k,v,M,rfl,q,y,r,m,d⟩:=hrel;have Q:=d.size;simp at Q;by_cases hlt:k<n
 .obtain⟨m1,m2,f,m4⟩:=UC J hlt;have Y:(k:Int)<n:=Yv;have e1:=Fj ((k:Int) *c) Yv Yv;have e2:=Fj (1+(k:Int) *c) Yv Yv;have e3:=Fj (1+(k:Int) *c+c) Yv Yv;have b1:(0:Int)<=1+(k:Int) *c:=Yv;have b2:1+(k:Int) *c<=1+(k:Int) *c+c:=Yv;have b3:1+(k:Int) *c+c<=(s.size:Int):=Yv;have E:=Yw (Aav K m1 J Yv);have D:=UD m (b:=w.1.size+1) Yv;have o:=A4 wr _ q;clear f;go_wp2;go_region_law (refine step_append_lies _ rfl (.tmp 45) (.tmp 58) 23 rfl (w.1.size+2) 9 i0 Zc 1 16 underlying23 hi U V W rfl Yq v k ((BQ s c k).map string) rfl (ownsRow.alloc m _) ⟨wr.1.size,0,an⟩ 1 1 [C0 (s.extract (1+(k:Int) *c).toNat (1+(k:Int) *c+c).toNat)] rfl rfl (cell_one_new wr (C0 (s.extract (1+(k:Int) *c).toNat (1+(k:Int) *c+c).toNat)) 9) Ef Yq Yo Yv Yt (wr.1.size+1) Yu ?_;intro g x w1 j f zB i;have l:=II f q D;have O:=II f y D;have P:=(Lp (p:=⟨w.1.size+1,1,an⟩) f Yt D).ag r)
  all_goals
   rw[E.o]at j;have R:=Oc o m d j f l O P;have C:=Yw R;clear R m d j f l q y r;go_wp2;refine⟨⟨_,_,_,_,_,_,_,_,_,_,_,_,_,_,_,_,_,_,_,_,_,_,_,⟨k+1,_,Yv,?_,C.1,C.2.1,C.2.2.1,C.2.2.2.1,C.2.2.2.2⟩,rfl⟩,?_⟩
   .go_num
   simp[intOf];omega
 obtain rfl:k=n:=Yv;have o:=A4 wr _ q;obtain⟨a,x,N,F⟩:=Ey (ss:=BQ s c k) (by rw[CD];exact m);rw[CD]at N;subst N;have z:(eh wr (Zd (w.1.size) 0))=ai Zc:=by rw[d.cell (p:=⟨w.1.size,0,an⟩) Yu];simp
 have A:(eh wr (Zd (w.1.size) 1))=ai Zb:=Gl;have r:ei wr ⟨w.1.size,0,an⟩=ba:=by rw[d.frozen (p:=⟨w.1.size,0,an⟩) Yu];simp
 have t:ei wr ⟨w.1.size,1,an⟩=ba:=by rw[d.frozen (p:=⟨w.1.size,1,an⟩) Yu];simp
 have S:cf.size<=eo:=by rw[u.o];simp[Eb,eo];omega
 have l:=EQ cf x c F (by rw[CD];omega) S;rw[CD]at l;have j:w.1.size<wr.1.size:=Yv;go_wp2_with fail;refine l.ah ?_;rintro e R ⟨rfl,f⟩;have L:=(Zy).ag (d.ah Yv);have H:=L.ag (f.ah L.size);obtain⟨B,q,y⟩:=m.kept (row:=an) ⟨f.os,f.tape,f.output,f.size,λk M _=>f.block k M⟩ (by cases a<;>simp[ownBlock]),(f.cell (p:=⟨w.1.size+1,0,an⟩) o).ag q,(f.cell (p:=⟨w.1.size+1,1,an⟩) o).ag y
 obtain⟨z,A,r,t⟩:=(f.cell (p:=⟨w.1.size,0,an⟩) j).ag z,(f.cell (p:=⟨w.1.size,1,an⟩) j).ag A,(f.frozen (p:=⟨w.1.size,0,an⟩) j).ag r,(f.frozen (p:=⟨w.1.size,1,an⟩) j).ag t;cases hok:AL cf (BQ s c k) c with
 |true=>
  clear l;go_wp2;refine Co (.tuple #[ca #[C0 cf,Cx a k x],ec ay]) (by simp[results,results121,go_sem,z,A]) ⟨λ_=>⟨Cx a k x,?_,?_⟩,λh=> ?_,?_⟩
  .rw[u.o]
  .exact(ownsRow_setCell_below (ownsRow_setCell_below B Yu _) Yu _).ah Yv
  .rw[<-u.o,hok]at h;cases h
  exact(H.setCell Yu _).setCell Yu _
 |false=>
  clear l;go_wp2;refine Co (.tuple #[ca #[Zc,Zb],ec ba]) (by simp[results,results121,go_sem,z,A]) ⟨λh=> ?_,λ_=>rfl,?_⟩
  .rw[<-u.o,hok]at h;cases h
  exact(H.setCell Yu _).setCell Yu _
theorem UJ(s:Zi)(a:Int)(w:Zh)(h:¬(1<=a/\a<=8)):
 D4 121 #[C0 s,Zg a] w (Gn w):=by
 by_cases h1:1<=a
 .have b:bq (a<=8)=ba:=Yt;delta D4;go_in;go_wp2;exact Co (.tuple #[ca #[Zc,Zb],ec ba]) G3 ⟨rfl,Zy⟩
 delta D4;go_in;go_wp2;exact Co (.tuple #[ca #[Zc,Zb],ec ba]) G3 ⟨rfl,Zy⟩
theorem UK(s:Zi)(a:Int)(w:Zh)(d:1<=a)(e:a<=8)(c:s.size=0):
 D4 121 #[C0 s,Zg a] w (Gn w):=by
 have b:=beq_iff_eq.2 Yv;delta D4;go_in;go_wp2;exact Co (.tuple #[ca #[Zc,Zb],ec ba]) G3 ⟨rfl,Zy⟩
theorem UL(s:Zi)(a:Int)(n:Nat)(w:Zh)(l:s.size<=1048576)(h:1<=a)(i:a<=8)(k:0<s.size)(b:s[0].toNat=n)(d:(s.size:Int) -1<(n:Int) *a):
 D4 121 #[C0 s,Zg a] w (Gn w):=by
 have e:(0:Int)<s.size:=Yv;have f:((s.size:Int)==0)=ba:=gG;have j:n<256:=by rw[<-b];exact s[0].toNat_lt
 have g:=KY j h i;have c:=Cm s[0];rw[b]at c;delta D4;go_in;go_wp2;exact Co (.tuple #[ca #[Zc,Zb],ec ba]) G3 ⟨rfl,Zy⟩
def Lq(s:Zi)(wd:Int)(n:Nat):Zi×Zl×Bool:=
 if (n:Int) *wd<=s.size -1/\AL (Eb s wd n) (BQ s wd n) wd=ay then (Eb s wd n,BQ s wd n,ay)else (⟨#[]⟩,[],ba)
def rd(s:Zi)(wd:Int):Zi×Zl×Bool:=
 if 1<=wd/\wd<=8 then
  match s.data.toList.head? with
  |none=>(⟨#[]⟩,[],ba)
  |some b=>Lq s wd b.toNat
 else (⟨#[]⟩,[],ba)
def EX(s:Zi)(wd:Int)(w:Zh)(e:Ending)(w':Zh):Prop:=
 ∃v,e=.returned (.tuple #[ca #[.string (rd s wd).1,v],ec (rd s wd).2.2])/\ej w' w.1.size 9 1 v (ed (rd s wd).2.1) ((rd s wd).2.1.map Value.string)/\Zz w w'
theorem RP(a:0<s.size):s.data.toList.head?=ai s[0]:=by rw[head?_eq_getElem?,Zv (C9 a)];rfl
theorem YZ(s:Zi)(a:Int):ed (rd s a).2.1<=255:=by
 unfold rd;split
 .split
  .simp
  rename_i b _
  unfold Lq;have:=b.toNat_lt;split
  .simp[CD];omega
  simp
 simp
theorem Fk{b:Int}(h:rd s b=(⟨#[]⟩,[],ba)):∀e a,Gn w e a->EX s b w e a:=by rintro e a ⟨rfl,c⟩;unfold EX;rw[h];exact⟨Zb,rfl,ownsRow_nil _ _ _ _,c⟩
theorem UM(j:rd s a=Lq s a n)(c:(n:Int) *a<=s.size -1):∀e b,
 ((AL (Eb s a n) (BQ s a n) a=ay->∃v,e=C1 (.tuple #[ca #[C0 (Eb s a n),v],ec ay])/\ej b w.1.size 9 1 v n ((BQ s a n).map string))/\
   (AL (Eb s a n) (BQ s a n) a=ba->e=C1 (.tuple #[ca #[Zc,Zb],ec ba]))/\Zz w b)->EX s a w e b:=by
 rintro e b ⟨f,g,d⟩;unfold EX;rw[j];unfold Lq;cases hok:AL (Eb s a n) (BQ s a n) a with
 |true=>rw[if_pos ⟨c,rfl⟩];have⟨v,h,i⟩:=f hok;exact⟨v,h,by simpa [CD]using i,d⟩
 |false=>rw[if_neg Yu];exact⟨Zb,g hok,ownsRow_nil _ _ _ _,d⟩
theorem UN(s:Zi)(a:Int)(w:Zh)(c:s.size<=1048576):D4 208 #[C0 s,Zg a] w (EX s a w):=by
 by_cases hw:1<=a/\a<=8
 .by_cases h0:0<s.size
  .have b:rd s a=Lq s a s[0].toNat:=(by unfold rd;rw[if_pos hw,RP h0]);by_cases hfit:(s[0].toNat:Int) *a<=s.size -1
   .exact(UE s a _ w c hw.1 hw.2 h0 rfl hfit).ah (UM b hfit)
   exact(UH s a _ w c hw.1 hw.2 h0 rfl Yv).ah (Fk (by rw[b];unfold Lq;rw[if_neg (λh=>hfit h.1)]))
  refine(UG s a w hw.1 hw.2 Yv).ah (Fk ?_);have d:s.data.toList=[]:=gA;unfold rd;rw[if_pos hw,d];rfl
 exact(UF s a w hw).ah (Fk (by unfold rd;rw[if_neg hw]))
theorem UO(s:Zi)(a:Int)(w:Zh)(c:s.size<=1048576):D4 121 #[C0 s,Zg a] w (EX s a w):=by
 by_cases hw:1<=a/\a<=8
 .by_cases h0:0<s.size
  .have b:rd s a=Lq s a s[0].toNat:=(by unfold rd;rw[if_pos hw,RP h0]);by_cases hfit:(s[0].toNat:Int) *a<=s.size -1
   .exact(UI s a _ w c hw.1 hw.2 h0 rfl hfit).ah (UM b hfit)
   exact(UL s a _ w c hw.1 hw.2 h0 rfl Yv).ah (Fk (by rw[b];unfold Lq;rw[if_neg (λh=>hfit h.1)]))
  refine(UK s a w hw.1 hw.2 Yv).ah (Fk ?_);have d:s.data.toList=[]:=gA;unfold rd;rw[if_pos hw,d];rfl
 exact(UJ s a w hw).ah (Fk (by unfold rd;rw[if_neg hw]))
def JA:Zk->Value
 |none=> .nilIface
 |some q=> .iface 190 (ea (ai q))
structure RQ (w:Zh) (b:Nat) (rest:Zi) (kind:Int) (er:Zk):Prop where
 x0:eh w (Zd b 0)=ai (.string rest)
 x1:eh w (Zd b 1)=ai (Zg kind)
 x2:eh w (Zd b 2)=ai (JA er)
 f0:ei w ⟨b,0,an⟩=ba
 f1:ei w ⟨b,1,an⟩=ba
 f2:ei w ⟨b,2,an⟩=ba
def Ez(w:Zh)(b:Nat)(rest:Zi)(kind:Int)(bad:Bool):Prop:=∃er:Zk,er.isSome=bad/\RQ w b rest kind er
theorem RQ.lt{a:Zk}(h:RQ w b rest kind a):b<w.1.size:=A4 w _ h.x0
theorem RQ.A{d:Zk}(h:RQ w b rest kind d)(a:Zz w e):RQ e b rest kind d:=by have c:=h.lt;exact⟨(a.cell (p:=⟨b,0,an⟩) c).ag h.x0,(a.cell (p:=⟨b,1,an⟩) c).ag h.x1,(a.cell (p:=⟨b,2,an⟩) c).ag h.x2,(a.frozen (p:=⟨b,0,an⟩) c).ag h.f0,(a.frozen (p:=⟨b,1,an⟩) c).ag h.f1,(a.frozen (p:=⟨b,2,an⟩) c).ag h.f2⟩
theorem Ez.A{a:Zh}(h:Ez w b rest kind bad)(f:Zz w a):Ez a b rest kind bad:=by obtain⟨c,d,e⟩:=h;exact⟨c,d,e.A f⟩
theorem Gp{c:Bool}(d:TypeId)(f:Dg)(h:Ez w b rest kind c):
 D4 168 #[Yy b,.iface d f] w λe a=>e=C1 (.tuple #[])/\Ez a b rest kind ay/\ek w a (ai b):=by
 obtain⟨g,rfl,h⟩:=h;have o:=h.lt;obtain⟨l,m,a,i,j,k⟩:=h;cases g with
 |none=>
  simp only[JA]at a;delta D4;go_in;go_wp2;go_end0;refine⟨rfl,⟨ai ⟨w.1.size,0,an⟩,rfl,?_⟩,?_⟩
  .have n:b≠w.1.size:=Yv;constructor<;>simp[JA,go_sem, *]
  exact(Ao _ _ _ _).ag (grownBy_alloc _ _ _)
 |some q=>
  simp only[JA]at a;delta D4;go_in;go_wp2;go_end0;exact⟨rfl,⟨ai q,rfl,⟨l,m,a,i,j,k⟩⟩,grownBy.refl _ _⟩
def Bp(rest:Zi)(bad:Bool)(n:Int):Zi×Zi×Bool:=
 if bad=ay then (⟨#[]⟩,rest,ay)else if (rest.size:Int)<n then (⟨#[]⟩,rest,ay)else (rest.extract 0 n.toNat,rest.extract n.toNat rest.size,ba)
theorem JB(b:Nat)(rest:Zi)(kind:Int)(a:Bool)(n:Int)(d:TypeId)(f:Dg)(w:Zh)(h:Ez w b rest kind a)(r:a=ba->0<=n)(v:eh w (Zd 6 0)=ai (.iface d f)):
 D4 171 #[Yy b,Zg n] w λe c=>e=C1 (C0 (Bp rest a n).1)/\Ez c b (Bp rest a n).2.1 kind (Bp rest a n).2.2/\ek w c (ai b):=by
 have o:=h;obtain⟨i,rfl,h⟩:=h;have x:=h.lt;obtain⟨s,t,c,j,k,l⟩:=h;cases i with
 |none=>
  simp only[JA]at c;have u:=r rfl;by_cases hf:(rest.size:Int)<n
  .rw[show Bp rest (an:Zk).isSome n=(⟨#[]⟩,rest,ay) by simp[Bp,hf]];have g:bq ((rest.size:Int)<n)=ay:=Yt;delta D4;go_in;go_wp2_with fail;refine(Gp d f o).ah ?_;rintro e y ⟨rfl,p,m⟩;go_wp2;go_ret;exact⟨rfl,p,m⟩
  rw[show Bp rest (an:Zk).isSome n=(rest.extract 0 n.toNat,rest.extract n.toNat rest.size,ba) by simp[Bp,hf]];have g:bq ((rest.size:Int)<n)=ba:=Yt
  delta D4;go_in;go_wp2;go_ret;refine⟨rfl,⟨an,rfl,?_⟩,Ao _ _ _ _⟩;constructor<;>simp[JA,go_sem, *]
 |some q=>rw[show Bp rest (ai q:Zk).isSome n=(⟨#[]⟩,rest,ay) by simp[Bp]];simp only[JA]at c;delta D4;go_in;go_wp2;go_ret;exact⟨rfl,⟨ai q,rfl,⟨s,t,c,j,k,l⟩⟩,grownBy.refl _ _⟩
def CN(l:List UInt8):Int:=l.foldl (fun a b=>a *256+(b.toNat:Int)) 0
theorem UP(l:List UInt8)(b:UInt8):CN (l++[b])=CN l *256+(b.toNat:Int):=by simp[CN]
theorem Aax(l:List UInt8):∀a:Int,0<=a->0<=l.foldl (λa b=>a *256+(b.toNat:Int)) a/\l.foldl (λa b=>a *256+(b.toNat:Int)) a<(a+1) *256^ed l:=by
 induction l with
 |nil=>intro a e;simp;omega
 |cons b l ih=>intro a e;have f:=b.toNat_lt;have⟨c,d⟩:=ih (a *256+(b.toNat:Int)) Yv;refine⟨c,Int.lt_of_lt_of_le d ?_⟩;rw[length_cons,Int.pow_succ,<-Int.mul_assoc,Int.mul_right_comm];exact Int.mul_le_mul_of_nonneg_right Yv (Int.pow_nonneg Yv)
theorem MF(l:List UInt8):0<=CN l/\CN l<256^ed l:=by have:=Aax l 0 (Int.le_refl _);simpa [CN]using this
theorem WE(a b:Nat)(f:a<2^30)(g:b<256):bits .or .i64 ((a:Int) *256) (b:Int)=(a:Int) *256+b:=by
 have c:((a:Int) *256)=((a *256:Nat):Int):=Yv;have e:a *256|||b=a *256+b:=by have:=Nat.shiftLeft_add_eq_or_of_lt (i:=8) (b:=b) Yv a;rw[Nat.shiftLeft_eq,show(2:Nat)^8=256 from rfl]at this;omega
 have d:(BitVec.ofInt 64 ((a:Int) *256)|||BitVec.ofInt 64 (b:Int)).toNat=a *256+b:=by rw[c,BitVec.toNat_or,BitVec.ofInt_natCast,BitVec.ofInt_natCast,BitVec.toNat_ofNat,BitVec.toNat_ofNat,Nat.mod_eq_of_lt Yv,Nat.mod_eq_of_lt Yv,e]
 show IntKind.i64.wrap ((BitVec.ofInt 64 ((a:Int) *256)|||BitVec.ofInt 64 (b:Int)).toNat:Int)=_;rw[d,Fj _ Yv Yv];omega
theorem Hf{c:Bool}(n:Nat)(j:TypeId)(l:Dg)(h:Ez w b rest kind c)(C:n<=4)(z:eh w (Zd 6 0)=ai (.iface j l)):
 D4 169 #[Yy b,Zg (n:Int)] w λe a=>e=C1 (Zg (CN (Bp rest c n).1.data.toList))/\Ez a b (Bp rest c n).2.1 kind (Bp rest c n).2.2/\ek w a (ai b):=by
 have r:(Bp rest c n).1.size<=4:=by
  unfold Bp;split
  .exact Aw _
  split
  .exact Aw _
  simp;omega
 delta D4;go_in;go_wp2_with fail;refine(JB b rest kind c n j l w h (λ_=>Yv) z).ah ?_;rintro e D ⟨rfl,v,u⟩;obtain⟨s,a,d⟩:=Yw (Zn v u),Ag ((Bp rest c n).1);rw[<-d]at r |-;have t:=Yw d;clear d;go_wp2
 go_loop [6,13] (λx i=>∃k:Nat,k<=a.size/\i=Zg k/\x=Zg (CN (a.data.toList.take k))) (λ_ i=>a.size -(intOf i).toNat)
 case atStart=>exact⟨0,Aw _,rfl,rfl⟩
 obtain⟨k,B,rfl,rfl⟩:=hrel;by_cases hlt:k<a.size
 .have o:=MF (a.data.toList.take k);have d:CN (a.data.toList.take (k+1))=CN (a.data.toList.take k) *256+(a[k].toNat:Int):=by rw[<-UP,Zu Yt];rfl
  have A:CN (a.data.toList.take k)<16777216:=by
   have m:=o.2;have p:ed (a.data.toList.take k)=0\/ed (a.data.toList.take k)=1\/ed (a.data.toList.take k)=2\/ed (a.data.toList.take k)=3:=Yt;rcases p with f|f|f|f<;>rw[f]at m<;>simp at m<;>omega
  have⟨X,y⟩:∃X:Nat,CN (a.data.toList.take k)=(X:Int):=⟨_,(Int.toNat_of_nonneg o.1).symm⟩;have q:=WE X a[k].toNat Yv a[k].toNat_lt;rw[y]at d |-;go_wp2;exact⟨⟨k+1,Yv,Yn,by rw[d,Cm,q]⟩,Ys⟩
 obtain rfl:k=a.size:=Yv;have g:a.data.toList.take a.size=a.data.toList:=Zt Yu;rw[g];go_wp2;go_ret;exact⟨by rw[<-t.o];rfl,s⟩
structure Env (w:Zh):Prop where
 iz:JY w
 jq:IH w
 er:∀g∈[0,1,2,3,6,7],∃t v,eh w (Zd g 0)=ai (.iface t v)
theorem Env.lt(h:Env w):∀g∈[0,1,2,3,6,7,5,4],g<w.1.size:=by
 intro g a;have c:=h.er;have⟨b,_⟩:=h.iz 1 Yv Yv;have d:=A4 w _ b;have e:=A4 w _ h.jq;have f:∀g∈[0,1,2,3,6,7],g<w.1.size:=λg a=>by have⟨t,v,i⟩:=c g a;exact A4 w _ i
 simp only[Bh,not_mem_nil,or_false]at a f;rcases a with rfl|rfl|rfl|rfl|rfl|rfl|rfl|rfl
 .omega
 .exact gA
 .exact gA
 .exact gA
 .exact gA
 .exact gA
 .exact d
 exact e
theorem Env.of{c:Zh}(h:Env w)(a:∀p:Addr,p.block∈[0,1,2,3,6,7,5,4]->eh c p=eh w p):Env c:=by
 refine⟨λk d e=> ?_,?_,λg b=> ?_⟩
 .obtain⟨f,i,j,l⟩:=h.iz k d e;exact gA
 .exact(a ⟨_,_,an⟩ Yu).ag h.jq
 obtain⟨t,v,d⟩:=h.er g b;refine⟨t,v,(a ⟨g,0,an⟩ ?_).ag d⟩;simp only[Bh,not_mem_nil,or_false]at b |-;omega
theorem Env.A{a:Zh}(h:Env w)(b:Zz w a):Env a:=
 h.of λ_ c=>b.cell (h.lt _ c)
theorem Env.jm{c:Zh}(h:Env w)(f:ek w c (ai b))(d:∀g∈[0,1,2,3,6,7,5,4],g<b):Env c:=
 h.of λp a=>f.cell_far p (h.lt _ a) (λe=>by have:=d _ a;injection e;omega)
theorem Ez.lt(h:Ez w b rest kind bad):b<w.1.size:=by obtain⟨a,_,h⟩:=h;exact h.lt
theorem Ez.setKind{a:Bool}(h:Ez w b rest kind a)(k:Int):Ez (el w (Zd b 1) (Zg k)) b rest k a:=by obtain⟨c,d,i,j,l,e,f,g⟩:=h;refine⟨c,d,?_⟩;constructor<;>simp[go_sem, *]
theorem Ez.br{g:Zh}{f:Bool}(h:Ez w b rest kind f)(a:ek w g (ai c))(k:b≠c):Ez g b rest kind f:=by
 obtain⟨i,j,h⟩:=h;have d:=h.lt;have e:ai b≠ai c:=Yt;exact⟨i,j,(a.cell_far ⟨b,0,an⟩ d e).ag h.x0,(a.cell_far ⟨b,1,an⟩ d e).ag h.x1,(a.cell_far ⟨b,2,an⟩ d e).ag h.x2,(a.frozen_far ⟨b,0,an⟩ d e).ag h.f0,(a.frozen_far ⟨b,1,an⟩ d e).ag h.f1,(a.frozen_far ⟨b,2,an⟩ d e).ag h.f2⟩
def Fw(rest:Zi)(bad:Bool):Zi:=(Bp rest bad rest.size).1
def Kz(rest:Zi)(bad:Bool):Zi:=(Bp rest bad rest.size).2.1
def GA(rest:Zi)(bad:Bool)(wd:Int):Bool:=(Bp rest bad rest.size).2.2|| !(rd (Fw rest bad) wd).2.2
theorem RS(h:rest.size<=1048576):(Fw rest bad).size<=1048576:=by
 unfold Fw Bp;split
 .exact Aw _
 split
 .exact Aw _
 simp;omega
theorem US(a:Int)(h:Ez w b rest kind bad)(he:Env w)(hb:∀g∈[0,1,2,3,6,7,5,4],g<b)(hs:rest.size<=1048576):
 D4 172 #[Yy b,Zg a] w λe c=>∃v,e=C1 (ca #[C0 (rd (Fw rest bad) a).1,v])/\
  ej c w.1.size 9 1 v (ed (rd (Fw rest bad) a).2.1) ((rd (Fw rest bad) a).2.1.map string)/\Ez c b (Kz rest bad) kind (GA rest bad a)/\ek w c (ai b):=by
 have⟨W,c⟩:=Du w #[Zc,Zb] 48;have z:=(Av c).1;have r0:eh W (Zd (w.1.size) 0)=ai Zc:=by rw[c];simp
 have U:eh W (Zd (w.1.size) 1)=ai Zb:=by rw[c];simp
 have L:ei W ⟨w.1.size,0,an⟩=ba:=by rw[c];simp
 have M:ei W ⟨w.1.size,1,an⟩=ba:=by rw[c];simp
 have B:w.1.size<W.1.size:=gB;obtain⟨f,Y,N⟩:=h.lt,h.A z,he.A z;obtain⟨⟨gt,gv,m⟩,P,H⟩:=N.er 6 Yu,Yw c,RS (bad:=bad) hs;obtain⟨er,i,u,x,y,o,r,t⟩:=Y;have HS:Hid (Ez W b rest kind bad):=⟨er,i,u,x,y,o,r,t⟩;clear c h;delta D4;go_in;go_upto_region 1 with fail;rw[<-P.o];go_wp2_with fail;refine(JB b rest kind bad rest.size gt gv W HS (λ_=>Yv) m).ah ?_;rintro e s ⟨rfl,R,l⟩;rw[show(Bp rest bad rest.size).1=Fw rest bad from rfl];have⟨c,d⟩:=Ag (Fw rest bad);rw[<-d]at H |-;have q:=Yw d;have n:=λA=>UN c a A H;unfold EX at n;have O:=Yw n;clear n u x y o r t i m d;go_wp2_with fail;refine(O s).ah ?_;rintro e m ⟨v,rfl,A,y⟩;have⟨t,u,h,_⟩:=Ey A;subst h;have zA:=l.size;have C:=y.size;have⟨i,n⟩:=Du m #[C0 (rd c a).1,Cw t (rd c a).2.1 u] 48;have r:=(Av n).1;have V:eh i (Zd (m.1.size) 0)=ai (C0 (rd c a).1):=by rw[n];simp
 have X:eh i (Zd (m.1.size) 1)=ai (Cw t (rd c a).2.1 u):=by rw[n];simp
 have I:m.1.size<i.1.size:=gB;have g:=r.size;have d:=y.ag (r.ah C);have S:=(d.cell (p:=⟨w.1.size,0,an⟩) Yt).ag ((l.cell_far ⟨w.1.size,0,an⟩ B (Jg f)).ag r0);have T:=(d.cell (p:=⟨w.1.size,1,an⟩) Yt).ag ((l.cell_far ⟨w.1.size,1,an⟩ B (Jg f)).ag U);have J:=(d.frozen (p:=⟨w.1.size,0,an⟩) Yt).ag ((l.frozen_far ⟨w.1.size,0,an⟩ B (Jg f)).ag L);obtain⟨K,G,Q,x,F⟩:=(d.frozen (p:=⟨w.1.size,1,an⟩) Yt).ag ((l.frozen_far ⟨w.1.size,1,an⟩ B (Jg f)).ag M),R.A d,(N.jm l hb).A d,((Al (ai b) z).ag l).ag (Al (ai b) d),A.kept (Al an r) (Classical.em _)
 have E:∀k,ef (Cw t (rd c a).2.1 u)=ai k->s.1.size<=k:=λk o=>(A.lt k o).1;obtain⟨⟨k,kv,Z⟩,o,D⟩:=Q.er 7 Yu,Yw (Zn G (Zn x (Zn F E))),Yw n;clear G x F Q R l y A r0 U L M N HS O E P d r n;go_upto_region 2 with fail;rw[<-D.o];clear D;cases hok:(rd c a).2.2 with
 |true=>
  go_wp2;refine Co (ca #[C0 (rd c a).1,Cw t (rd c a).2.1 u]) (by simp[results,results172,go_sem, *]) ?_;refine⟨_,by rw[<-q.o],?_,?_,?_⟩
  .rw[<-q.o];exact(ownsRow_setCell_below (ownsRow_setCell_below o.2.2.1 (show w.1.size<s.1.size by omega) _) (show w.1.size<s.1.size by omega) _).ah Yv
  .have:GA rest bad a=(Bp rest bad rest.size).2.2:=(by unfold GA;rw[<-q.o,hok];simp);rw[this];exact(o.1.br (Ao _ w.1.size 0 _) Yv).br (Ao _ w.1.size 1 _) Yv
  exact(o.2.1.andThen (Ao _ w.1.size 0 _) (λj e=>by cases e;exact cr (Zx))).andThen (Ao _ w.1.size 1 _) (λj e=>by cases e;exact cr (Zx))
 |false=>
  go_wp2_with fail;refine(Gp k kv o.1).ah ?_;rintro e A ⟨rfl,r,d⟩;have y:=d.size;have V:=(d.cell_far ⟨m.1.size,0,an⟩ I (Jg (show b<m.1.size by omega))).ag V;have X:=(d.cell_far ⟨m.1.size,1,an⟩ I (Jg (show b<m.1.size by omega))).ag X;have S:=(d.cell_far ⟨w.1.size,0,an⟩ (show w.1.size<i.1.size by omega) (Jg f)).ag S;have T:=(d.cell_far ⟨w.1.size,1,an⟩ (show w.1.size<i.1.size by omega) (Jg f)).ag T;have J:=(d.frozen_far ⟨w.1.size,0,an⟩ (show w.1.size<i.1.size by omega) (Jg f)).ag J;have K:=(d.frozen_far ⟨w.1.size,1,an⟩ (show w.1.size<i.1.size by omega) (Jg f)).ag K;have l:=o.2.2.1.kept d (.inr (λe=>C8 (o.2.2.2 b e)));have x:=o.2.1.ag d;have n:=Yw (Zn r (Zn x l));clear r x l d Z;go_wp2;refine Co (ca #[C0 (rd c a).1,Cw t (rd c a).2.1 u]) (by simp[results,results172,go_sem, *]) ?_;refine⟨_,by rw[<-q.o],?_,?_,?_⟩
  .rw[<-q.o];exact(ownsRow_setCell_below (ownsRow_setCell_below n.2.2 (show w.1.size<s.1.size by omega) _) (show w.1.size<s.1.size by omega) _).ah Yv
  .have:GA rest bad a=ay:=(by unfold GA;rw[<-q.o,hok];simp);rw[this];exact(n.1.br (Ao _ w.1.size 0 _) Yv).br (Ao _ w.1.size 1 _) Yv
  exact(n.2.1.andThen (Ao _ w.1.size 0 _) (λj e=>by cases e;exact cr (Zx))).andThen (Ao _ w.1.size 1 _) (λj e=>by cases e;exact cr (Zx))
theorem Ic.ak{d:Zh}{A:Addr}{a:C5}(h:Ic w A a)(m:BH w B (ai A) a)(j:bg B w d):Ic d A a:=λi k c n l=>by have⟨b,f,g,e,_⟩:=m.at (Zw c).1;cases g;exact h i k c n ((j.cell (p:=⟨b,f+i *4+3,an⟩) e).symm.ag l)
theorem KTo.A{b:C5}(h:KTo w c g d b)(a:Zz w e):KTo e c g d b:=
 ⟨h.len,Ai h.aw a,λi k r f j=>Ai (h.C i k r f j) a,h.sm,h.inc⟩
