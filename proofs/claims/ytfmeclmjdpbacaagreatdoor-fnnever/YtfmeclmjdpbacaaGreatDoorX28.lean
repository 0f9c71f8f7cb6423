import Derived.Test.YtfmeclmjdpbacaaGreatDoorX27
set_option maxRecDepth 100000
set_option maxHeartbeats 16000000
open Option renaming some->ai,none->an
open Go.RowKit renaming Below->bg
open List renaming length->ed
open Go.World renaming setCell->el
namespace Go.Proofs.YtfmeclmjdpbacaaGreatDoor
open ChangeShapes WideShapes ChangeAt RowKit _root_.Go.Proofs.Tryz List World Value
variable{v:Vd}{d k:Nat}{w:Zh}{c:C6}{a:Int}{u r:UR}
section
open Go.MuLone Go.ChangeShapes Go.WideShapes Go.ChangeAt Go.RowKit
def CKP(v:Vd)(N lo:Nat)(w:Zh)(o:Ending)(w':Zh):Prop:=bg lo w w'/\∃x cs,ClTo v.E v.ps v.ls (4000 -ed (v.ss++v.D)) N 0 (Eg v) x/\o=.returned (.agg cs.toArray)/\LH v x lo w' cs
theorem ZP{N:Nat}{X c b:Zh}{l:Zj}(a:Aa X k (.int .i32 1::l)/\Aa X w.1.size (z20 0)/\bg d w X)(n:d<=k/\k<w.1.size)(j:ClTo v.E v.ps v.ls (4000 -ed (v.ss++v.D)) N 0 (Eg v) an)(i:c=X.setCells w.1.size 0 (z20 1))(e:b=el c (Zd k 0) (.int .i32 0)):
 X.there w.1.size 0 20/\(z20 1).toArray.all (·.oneCell')=true/\c.cell? (Zd k 0)=ai (.int .i32 1)/\c.frozen? ⟨k,0,an⟩=false/\Aa b w.1.size (z20 1)/\CKP v N d w (.returned (.agg (z20 1).toArray)) b:=by
 obtain⟨m,h,g,f⟩:=Hs (z:=Ze) (cs:=z20 1) a.1 a.2.1 rfl Yv i e;exact⟨a.2.1.there,by simp[z20,Value.oneCell'],m,h,g,a.2.2.trans (f.A (by have:=a.2.2.size;omega) Yt),an,z20 1,j,rfl,rfl⟩
theorem Afk{d:C7}(h:Ju d c a u r)(b:r.ds≠[]):WD u.B d c u.I u.K u.F u.ms:=by
 cases h with
 |begin h0=>exact absurd rfl b
 |mark h0 s q0 qs' ms' hqq hmm=>exact absurd rfl b
 |rest h0 hqq hn=>exact absurd rfl b
 |ak h0 hqq x hx hk=>exact absurd rfl b
 |drop h0 hqq x hx hmm hk=>exact⟨h0,hqq,x,hx,hmm,hk⟩
theorem YN{d:C7}(f:∀x∈u.B,∀y∈u.B,x.born=y.born->x=y)(h:Ju d c a u r)(g:WD u.B d c u.I u.K u.F u.ms):r.ds≠[]:=by
 obtain⟨i,j,y,b,k,l⟩:=g;cases h with
 |begin h0=>exact absurd h0 i
 |mark h0 s q0 qs' ms' hqq hmm=>rw[j]at hqq;cases hqq
 |rest h0 hqq hn=>exact absurd b.2.1 (hn y b.1)
 |ak h0 hqq x hx hk=>have e:x=y:=f x hx.1 y b.1 (by have:=hx.2.2 y b.1 b.2.1;have:=b.2.2 x hx.1 hx.2.1;omega);subst e;exact(hk.elim k l).elim
 |drop h0 hqq x hx hmm hk=>exact λe=>by cases e
theorem Acd{D:Int}{v:C7}{q:C6}(_h:UOk D a u.B v q u.I u.ro u.F u.ms):∃r,Ju v q a u r:=by
 by_cases h0:u.I=0
 .exact⟨_,.begin h0⟩
 cases hq:u.F with
 |cons s q0=>
  by_cases h1:As u.B s/\s∉u.ms
  .obtain⟨⟨k,B,e⟩,d⟩:=h1;exact⟨_,.mark h0 s q0 _ _ hq (.inr ⟨k,B,e,d,rfl,rfl⟩)⟩
  refine⟨_,.mark h0 s q0 _ _ hq (.inl ⟨?_,rfl,rfl⟩)⟩;by_cases d:As u.B s
  .exact .inr (Classical.not_not.1 (λg=>h1 ⟨d,g⟩))
  exact .inl d
 |nil=>
  by_cases h1:∃y,Hj u.B u.K y
  .obtain⟨y,j⟩:=h1;by_cases d:y.sum∈u.ms\/Dw v q u.B y.sum
   .exact⟨_,.ak h0 hq y j d⟩
   exact⟨_,.drop h0 hq y j (λh=>d (.inl h)) (λh=>d (.inr h))⟩
  refine⟨_,.rest h0 hq (λy j A=>h1 ?_)⟩;have m:∀(l:C5),(∃x∈l,x.born<u.K)->∃x∈l,x.born<u.K/\∀z∈l,z.born<u.K->z.born<=x.born:=by
   intro l;induction l with
   |nil=>rintro⟨x,i,_⟩;cases i
   |cons b l ih=>
    rintro⟨x,i,n⟩;by_cases g:∃x∈l,x.born<u.K
    .obtain⟨z,C,w,o⟩:=ih g;by_cases p:b.born<u.K/\z.born<b.born
     .refine⟨b,Yu,p.1,λt c f=> ?_⟩;rcases Bh.1 c with rfl|c
      .omega
      have:=o t c f;omega
     refine⟨z,by simp[C],w,λt c f=> ?_⟩;rcases Bh.1 c with rfl|c
     .omega
     exact o t c f
    rcases Bh.1 i with rfl|i
    .refine⟨x,Yu,n,λt c f=> ?_⟩;rcases Bh.1 c with rfl|c
     .omega
     exact absurd ⟨t,c,f⟩ g
    exact absurd ⟨x,i,n⟩ g
  have⟨x,i,g,p⟩:=m u.B ⟨y,j,A⟩;exact⟨x,i,g,p⟩
theorem VN{a:Va}(N:Nat)(hN:N<=10000){r:Rs}{lo m q:Nat}{O P L:Value}{w0:Zh}(J:Bo v r)(y:Mc w lo k d m q O P L v a r)(vW:w0.1.size<=lo)(hb:Zz w0 w)(hr:Bg w0 w0.1.size a v)(K:DM v)(hE:Env w0):
 D4 34 #[Yy k,Zg N] w (CKP v N lo w):=by
 have⟨⟨u,e2,e3,e4⟩,e5,e6,e7⟩:=J.same;have BK:=y.R;rw[e2,e3,e4,e5,e6,e7]at BK;have A:=y.box;have xP:k<w.1.size:=A.lt;have gj:=y.gj;have vU:=y.dm;have U:k∉vB d m O P L:=fun h=>by have:=y.lt k h;omega
 have n:q<=k:=by have:=BK.bd;have:=y.lt d Ja;omega
 obtain⟨⟨tV,p⟩,W,I⟩:=y.ty,Du w Xi 45;have E:=(Av I).1;have zW:=(Av I).2.1;have xZ:Aa W w.1.size (z20 0):=(Av (l:=z20 0) I).2.2;obtain⟨Y,j,G⟩:=Aa.A A E,D2 W k 0 (.int .i32 1);have R:Tn [k] W j:=by rw[G];exact Tn.set _ _ _ _ Yu
 have tP:=R.size;have t:Aa j k [.int .i32 1,.int .u32 0,Zg v.wd,Zg v.J,Cw a.y v.ss a.sc,Cw a.ta v.D a.d,Zg v.P,Zg v.G,Zg v.H,Zg v.E,Cw a.W v.B a.j,Cw a.Z v.ps a.g,Cw a.X v.ls a.e,Zg v.I,Cw a.qa v.F a.qc,Cw a.i v.ms a.mc,Zg v.L,Zg v.K,Zg v.ro,Yy d]:=by rw[G];exact Y.set 0 _
 have D:Aa j w.1.size (z20 0):=Aa.same xZ (R.block _ Yv Yt);have H:bg lo w j:=(E.mono Yv).trans (R.A (by have:=E.size;omega) Yt);have o:Dr j q d m O P L v.wd v.G v.H v.E v.B v.ps v.ls:=(BK.A E).apart R n U (fun B B B=>by rw[E.block k xP,p]at B;simp at B);have⟨V,C⟩:=Ag (vB d m O P L);have F:∀b∈V,lo<=b:=fun b hb=>by rw[C]at hb;exact Zm vU (BK.low b hb)
 have HX:Hid (∀X,BX j.1.size V j X->Aa X k [.int .i32 1,.int .u32 0,Zg v.wd,Zg v.J,Cw a.y v.ss a.sc,Cw a.ta v.D a.d,Zg v.P,Zg v.G,Zg v.H,Zg v.E,Cw a.W v.B a.j,Cw a.Z v.ps a.g,Cw a.X v.ls a.e,Zg v.I,Cw a.qa v.F a.qc,Cw a.i v.ms a.mc,Zg v.L,Zg v.K,Zg v.ro,Yy d]/\Aa X w.1.size (z20 0)/\bg lo w X):=fun X B=>⟨Aa.same t (B.block k Yv (by rw[C];exact U)),Aa.same D (B.block _ Yv (fun e=>by rw[C]at e;have:=y.lt _ e;omega)),H.trans (B.A (by have:=E.size;omega) F)⟩;have yP:Hid (lo<=k/\k<w.1.size):=⟨gj,xP⟩;have vD:Hid (w.1.size<j.1.size):=by show _<_;omega
 have yB:Hid (∀X,BX j.1.size V j X->Bg X X.1.size a v/\JY X):=fun X B=>by have h1:=hb.trans (((HX X B).2.2).mono vW);exact⟨hr.U h1,(hE.A h1).iz⟩
 have g:Hid (∀X,Zz j X->X.1.size=j.1.size->D4 73 #[Yy d,.agg (Yb v.I a.qa (ed v.F) a.qc a.i (ed v.ms) a.mc v.L v.K v.ro)] X fun e w'=>∃c Q M mm,e=C1 (Yy c)/\CM w' q j.1.size c d m O P L v.wd v.G v.H v.E v.B v.ps v.ls v.I v.L v.K v.ro Q M Zb mm v.F v.ms v.ms []/\bg j.1.size X w'):=fun X B i=>by
  have xL:=(yB X (BX.of B)).1;have hq:=xL.q;have hm:=xL.m;have:=QD v.I v.L v.K v.ro a.qc a.mc (o.A B) hq hm K.r;rw[i]at this;exact this.mono (fun e w' ⟨c,Q,M,mm,h1,h2,h3⟩=>⟨c,Q,M,mm,h1,h2,h3.mono Yv⟩)
 have s:Hid (LI v.wd v.E v.ps v.ls (4000 -ed (v.ss++v.D)) (Eg v)):=Sk J;have vC:Hid (ed (v.ss++v.D)<=4000):=Gr J.log;have x:Hid (V=vB d m O P L):=C;obtain⟨zT,Z,B,⟨i,f0⟩,⟨tG,_⟩,⟨vZ,_⟩,⟨tA,_⟩,⟨tB,_⟩,⟨tC,_⟩,tD,_⟩:=Yw (Zn K (Zn u J.fg)),Yw I,Yw G,Y 0 _ rfl,t 19 _ rfl,t 13 _ rfl,t 14 _ rfl,t 15 _ rfl,t 16 _ rfl,t 17 _ rfl;obtain⟨tE,_⟩:=t 18 _ rfl;clear I G A y BK o Y t xZ D R E H J hr hE e2 e3 e4 e5 e6 e7 p C F U n K hb u zW tP
 go_enter_defers func34,ntmps34
 go_upto_region 1 with fail;rw[<-Z.o];clear Z;go_upto_region 3 with(go_at_call 71;refine(lock_free Gw ⟨k,0,an⟩ _ i f0).mono ?_;rintro o w' ⟨rfl,rfl⟩;rw[<-B.o];clear B i f0);go_cut [5]from 9 to 92 (fun p t=>∃c Q M mm,p=Yy c/\Hid (CM t q j.1.size c d m O P L v.wd v.G v.H v.E v.B v.ps v.ls v.I v.L v.K v.ro Q M Zb mm v.F v.ms v.ms []/\Zz j t))
 case first=>
  refine wp_region_noPanic ?_;go_region_with (go_at_call 73;refine(g j.drew Ae.drew rfl).mono ?_;rintro o w2 ⟨c,Q,M,mm,rfl,vP,vS⟩;have vO:bg j.1.size j w2:=(Below.refl j.1.size j).drew.trans vS)
  all_goals ((try refine NoPanic.normal ?_);go_wp2_with fail;go_meet;exact⟨c,Q,M,mm,rfl,vP,vO⟩)
 case rest=>
 revert wc;intro w2 hcut;obtain⟨c,Q,M,mm,rfl,t⟩:=hcut;clear g tG vZ tA tB tC tD tE;have C:=HX w2 (BX.of t.2);obtain⟨⟨G,_⟩,I,_⟩:=C.1 4 _ rfl,C.1 5 _ rfl;go_wp2_with fail;refine(EG a.y a.ta (ed v.ss) (ed v.D) a.sc a.d w2).mono ?_;rintro e w3 ⟨rfl,A⟩;go_wp2_with fail;refine(IK a.y a.ta (ed v.ss) (ed v.D) a.sc a.d w3 zT.1.s zT.1.t).mono ?_;rintro e w4 ⟨rfl,E⟩;have y:bg w2.1.size w2 w4:=A.trans (E.mono A.size);have vY:=t.2.size;have F:Hid (CM w4 q j.1.size c d m O P L v.wd v.G v.H v.E v.B v.ps v.ls v.I v.L v.K v.ro Q M Zb mm v.F v.ms v.ms []/\BX j.1.size V j w4):=⟨t.1.A y,(BX.of t.2).trans (BX.of (y.mono vY))⟩;have vV:=vC.o;rw[Am]at vV;have⟨fr,B⟩:∃fr:Nat,fr=4000 -ed (v.ss++v.D):=⟨_,rfl⟩;have tS:(4000:Int) -(ed v.ss+ed v.D)=fr:=by rw[B,Am];omega
 have xB:Hid (fr=4000 -ed (v.ss++v.D)):=B;clear A E y t C G I B;go_wp2;go_loopw [7] (fun i wr=>∃(n:Nat) (u:UR) (O Q M D:Value) (mm:Nat),i=Zg n/\Hid (CM wr q j.1.size c d m O P L v.wd v.G v.H v.E u.B v.ps v.ls u.I u.L u.K u.ro Q M D mm u.F u.ms u.ms u.ds/\LI v.wd v.E v.ps v.ls (4000 -ed (v.ss++v.D)) u/\(∀o,ClTo v.E v.ps v.ls (4000 -ed (v.ss++v.D)) N n u o->ClTo v.E v.ps v.ls (4000 -ed (v.ss++v.D)) N 0 (Eg v) o)/\n<=N/\BX j.1.size V j wr/\vB d m O P L=V)) (fun i _=>N -(intOf i).toNat)
 case atStart=>exact⟨0,Eg v,O,Q,M,_,mm,rfl,F.1,s,fun o h=>h,Aw _,F.2,x.symm⟩
 clear F s x;clear O Q M mm;obtain⟨n,u,O,Q,M,D,mm,rfl,y⟩:=hrel;obtain⟨sG,da,dc,vQ,_⟩:=y.2.2.2.1,y.1.dd.row;subst vQ;by_cases hlt:n<N
 case' neg=>
  have sE:¬(n:Int)<N:=Yv;have xD:Hid (ClTo v.E v.ps v.ls (4000 -ed (v.ss++v.D)) N 0 (Eg v) (ai (u,n))):=y.2.2.1 _ (.fin n u Yv);have zA:=Yw y.1;have zE:Hid (BX j.1.size V j wr):=y.2.2.2.2.1;obtain⟨t,rfl⟩:=Ag wr
 case' pos=>
  have tT:(n:Int)<N:=Yv;obtain⟨⟨J,_⟩,I,_⟩:=y.1.box 6 _ rfl,y.1.box 8 _ rfl;by_cases hro:u.ro=1000000000
  case pos=>
   have C:(u.ro==1000000000)=true:=(by simpa using hro);have yQ:Hid (ClTo v.E v.ps v.ls (4000 -ed (v.ss++v.D)) N 0 (Eg v) an):=y.2.2.1 _ (.old n u hlt hro);have zE:Hid (BX j.1.size V j wr):=y.2.2.2.2.1;clear hro y I;have⟨W9,A⟩:=Ag (wr.setCells w.1.size 0 (Xh 1));have⟨zU,zB⟩:=D2 W9 k 0 (.int .i32 0);obtain⟨HE,yS,zC⟩:=Yw (ZP (HX wr zE) yP yQ A zB),Yw A,Yw zB;clear A zB;go_wp2_with (refine wpList_store_mid rfl 45 _ _ rfl w.1.size 0 (Xg 1) rfl rfl HE.1 Yr HE.2.1 ?_);rw[<-yS.o];refine leaves_cons (f:=72) (args:= #[Yy k]) Yu F3 ?_;refine(unlock_deferred Gw ⟨k,0,an⟩ .returning _ HE.2.2.1 HE.2.2.2.1).mono ?_;rintro o u' xV ⟨rfl,rfl,rfl⟩;rw[<-zC.o];exact⟨_,AM results34 _ _ w.1.size (z20 1) _ rfl (Aa.range HE.2.2.2.2.1) underlying45 rfl Yr,HE.2.2.2.2.2⟩
  have C:(u.ro==1000000000)=false:=by simpa using hro
  have zG:Hid (u.ro≠1000000000):=hro;clear hro;by_cases hfu:ed u.ds=fr
  case' neg=>
   have B:((ed u.ds:Int)==fr)=false:=Yt;have zA:=Yw y.1;have zE:Hid (BX j.1.size V j wr):=y.2.2.2.2.1;have yD:Hid (WD u.B v.ps v.ls u.I u.K u.F u.ms->ed u.ds<4000 -ed (v.ss++v.D)):=fun _=>by have:=y.2.1.df;have:=xB.o;omega
   obtain⟨t,rfl⟩:=Ag wr
  case' pos=>
   have B:((ed u.ds:Int)==fr)=true:=Yt;have E:=Yw (Pf y.1 y.2.1.ok.ok y.2.1.ok.born y.2.1.ok.pl y.2.1.ok.ll y.2.1.ok.iq y.2.1.un);have vA:Hid (ed u.ds=fr):=hfu;clear hfu;go_wp2_with fail;refine E.Ak ?_;rintro e t ⟨b,rfl,G,F⟩;clear E;have zA:Hid (CM t q j.1.size c d m O P L v.wd v.G v.H v.E u.B v.ps v.ls u.I u.L u.K u.ro Q M (Cw da u.ds dc) mm u.F u.ms u.ms u.ds):=y.1.A F;have zE:Hid (BX j.1.size V j t):=y.2.2.2.2.1.trans (BX.of (F.mono y.1.lo));cases b
   case' true=>
    have xD:Hid (ClTo v.E v.ps v.ls (4000 -ed (v.ss++v.D)) N 0 (Eg v) (ai (u,n))):=(by have⟨r6,E⟩:=Acd y.2.1.ok;exact y.2.2.1 _ (.full n u r6 hlt zG E (YN y.2.1.un E (G.1 rfl)) (by have:=vA.o;have:=xB.o;omega)));clear G F C B J I
   case' false=>
    have yD:Hid (WD u.B v.ps v.ls u.I u.K u.F u.ms->ed u.ds<4000 -ed (v.ss++v.D)):=fun h=>by have:=G.2 h;cases this
    clear G F J I
  all_goals try
   replace yD:=yD;go_wp2_with fail;refine(XR zA y.2.1.ok (by have:=y.2.1.dl;omega)).mono ?_;rintro e w6 ⟨rfl,R,O6,I,r6,E,Q6,M6,D6,yN,C⟩;have J:Ju v.ps v.ls v.E u r6:=E;have F:Hid (BX j.1.size V j w6/\vB d m O6 P L=V):=by
    refine⟨zE.trans ?_,?_⟩
    .rw[<-y.2.2.2.2.2];exact R
    rw[<-y.2.2.2.2.2];unfold vB;rw[I]
   have U:=Yw C;have B:Hid (Ju v.ps v.ls v.E u r6):=J;obtain⟨⟨xT,xU,yU,_⟩,xR,xS,yT,_⟩:=C.q.row,C.mr.row;subst yU;subst yT;have G:=Yw (Pe d r6.I r6.L r6.K r6.ro xT xR xU xS D6 yN r6.F r6.ms C.box);clear C E J R I zA zE;go_wp2_with fail;refine G.Ak ?_;rintro e w7 ⟨rfl,vX⟩;subst vX;clear G;by_cases hlong:23200<ed r6.F\/600<ed r6.ms
   .rw[decide_eq_true hlong];have yQ:Hid (ClTo v.E v.ps v.ls (4000 -ed (v.ss++v.D)) N 0 (Eg v) an):=y.2.2.1 _ (.long n u r6 hlt zG B hlong);clear U B y hlong;have⟨W9,A⟩:=Ag (w7.setCells w.1.size 0 (Xh 1));have⟨zU,zB⟩:=D2 W9 k 0 (.int .i32 0);obtain⟨HE,yS,zC⟩:=Yw (ZP (HX w7 F.1) yP yQ A zB),Yw A,Yw zB;clear A zB;go_wp2_with (refine wpList_store_mid rfl 45 _ _ rfl w.1.size 0 (Xg 1) rfl rfl HE.1 Yr HE.2.1 ?_);rw[<-yS.o];refine leaves_cons (f:=72) (args:= #[Yy k]) Yu F3 ?_;refine(unlock_deferred Gw ⟨k,0,an⟩ .returning _ HE.2.2.1 HE.2.2.2.1).mono ?_;rintro o u' xV ⟨rfl,rfl,rfl⟩;rw[<-zC.o];exact⟨_,AM results34 _ _ w.1.size (z20 1) _ rfl (Aa.range HE.2.2.2.2.1) underlying45 rfl Yr,HE.2.2.2.2.2⟩
   rw[decide_eq_false hlong];have A:r6.ds=[]\/ed u.ds<4000 -ed (v.ss++v.D):=by
    by_cases h1:r6.ds=[]
    .exact .inl h1
    exact .inr (yD (Afk B h1))
   have HE:Hid (CM w7 q j.1.size c d m O6 P L v.wd v.G v.H v.E (u.and r6).B v.ps v.ls (u.and r6).I (u.and r6).L (u.and r6).K (u.and r6).ro (Cw xT r6.F xU) (Cw xR r6.ms xS) D6 yN (u.and r6).F (u.and r6).ms (u.and r6).ms (u.and r6).ds/\LI v.wd v.E v.ps v.ls (4000 -ed (v.ss++v.D)) (u.and r6)/\(∀o,ClTo v.E v.ps v.ls (4000 -ed (v.ss++v.D)) N (n+1) (u.and r6) o->ClTo v.E v.ps v.ls (4000 -ed (v.ss++v.D)) N 0 (Eg v) o)/\n+1<=N/\BX j.1.size V j w7/\vB d m O6 P L=V):=⟨U,y.2.1.step B zG Yv Yv A,fun o C=>y.2.2.1 o (.step n u r6 o hlt zG B Yv Yv A C),hlt,F⟩;clear U B y hlong A F;go_wp2;exact⟨⟨n+1,u.and r6,O6,_,_,D6,yN,Yn,HE⟩,Ys⟩
 all_goals
  obtain⟨⟨C,E,yU,_⟩,A,B,yT,_⟩:=zA.q.row,zA.mr.row;subst yU;subst yT;have hx:=HX t zE;obtain⟨sH,tR,zZ,⟨Y1,I⟩,xN⟩:=hx.2.2.size,zA.box.lt,zA.lo,Ag ((t.alloc (.cells Xp 34)).setCells t.1.size 0 (Xq v a)),boxed (X:=t) (cs:=(Xq v a)) (z:=Xo) (T:=34) rfl;rw[<-I]at xN;obtain⟨p,H,z1⟩:=xN;have G:Hid (t.rangeAt k 2 (Xq v a)/\(t.alloc (.cells Xp 34)).there t.1.size 0 17/\((Xr v a):Array Value).all (·.oneCell')=true):=⟨Aa.fx [.int .i32 1,.int .u32 0] _ [Yy d] hx.1,(Aa.new t Xo 34).there,by simp[oneCell']⟩;have J:Hid (BX j.1.size V j Y1):=zE.trans (BX.of (H.mono zZ));have i:Hid (CM Y1 q j.1.size c d m O P L v.wd v.G v.H v.E u.B v.ps v.ls u.I u.L u.K u.ro (Cw C u.F E) (Cw A u.ms B) (Cw da u.ds dc) mm u.F u.ms u.ms u.ds):=zA.A H;obtain⟨F,_,_,eD,g⟩:=(HX Y1 J).1,i.dd.row;cases eD;have sD:ed u.ds<=600:=by have:=y.2.1.dl;omega
  obtain⟨R,⟨s,_⟩,U⟩:=Yw (Pk k v.wd a.sc a.d dc (F 2 _ rfl).1 (F 4 _ rfl).1 (F 5 _ rfl).1 F.lt (yB Y1 J).1.s (yB Y1 J).1.t g zT.1.s zT.1.t Yv (fun Z s hZ=>Vl 7 s ⟨#[]⟩ 0 ⟨#[]⟩ an 0 [] v.wd Z (yB Z (J.trans (BX.of (hZ.mono Yv)))).2 (.inl rfl) (Aw _) (Aw _) (Aw _))),i.box 8 _ rfl,Yw I
  have xH:Hid (Aa Y1 t.1.size (Xq v a)):=p;clear I p hx F g H;go_upto_region 15 with(first
   |refine wpList_load_mid rfl 34 _ rfl k 2 rfl (Xq v a) _ G.1 underlying34 rfl Yr ?_
   |refine wpList_store_mid rfl 34 _ _ rfl t.1.size 0 (Xr v a) rfl rfl G.2.1 Yr G.2.2 ?_)
  rw[<-U.o];clear U G;go_wp2_with fail;refine R.Ak ?_;rintro e w8 ⟨S1,U1,rfl,hS,K,yW,U⟩;obtain⟨F,G,rfl,_⟩:=hS.row;obtain⟨H,I,rfl,_⟩:=K.row;clear R s;have⟨X,yX⟩:=Ag (ed (v.D++u.ds.map (DQ v.wd)));rw[<-yX]at K yW |-;obtain⟨z8,Y2,p⟩:=U.size,Ag (el (el w8 (Zd (t.1.size) 2) (Cw F v.ss G)) (Zd (t.1.size) 3) (Cx H X I));have s:Tn [t.1.size] w8 Y2:=by rw[p];exact(Bi _ _ _ _).trans (Bi _ _ _ _)
  have y8:=Aa.A xH U;have y2:=((y8.set 2 (Cw F v.ss G)).set 3 (Cx H X I));rw[<-p]at y2;have R:∀b∈[t.1.size],j.1.size<=b/\b≠c/\b≠mm/\Aj (Cw C u.F E)≠ai b/\Aj (Cw A u.ms B)≠ai b/\Aj (Cw da u.ds dc)≠ai b:=fun b hb=>by simp at hb;subst hb;have⟨_,_,_,vR,_⟩:=zA.gp;have:=vR.lt;exact⟨zZ,Yv,Yv,fun e=>by have:=(zA.q.S e).2;omega,fun e=>by have:=(zA.mr.S e).2;omega,fun e=>by have:=(zA.dd.S e).2;omega⟩
  have zY:=Yw R;have yA:Hid (CM Y2 q j.1.size c d m O P L v.wd v.G v.H v.E u.B v.ps v.ls u.I u.L u.K u.ro (Cw C u.F E) (Cw A u.ms B) (Cw da u.ds dc) mm u.F u.ms u.ms u.ds):=(i.A U).O s R;have xA:Hid (BX j.1.size V j Y2):=(J.trans (BX.of (U.mono Yv))).trans (BX.of (s.A Yv Yt));have z2:=s.size;have zF:Hid (Ah Y2 Y1.1.size (Cw F v.ss G) v.ss/\Ah Y2 Y1.1.size (Cx H X I) (v.D++u.ds.map (DQ v.wd))/\(∀g,Aj (Cw F v.ss G)=ai g->Aj (Cx H X I)≠ai g)):=⟨hS.O s (fun g hg e=>by have:=(hS.S hg).1;simp at e;omega),K.O s (fun g hg e=>by have:=(K.S hg).1;simp at e;omega),yW⟩;obtain⟨zI,⟨tO,_⟩,⟨o2,g2⟩,⟨o3,g3⟩,xI,x⟩:=Yw (GH yA.R y.2.1.ok.ok.nd y.2.1.ok.ok.sz y.2.1.ok.ok.len y.2.1.ok.pl y.2.1.ok.ll (fun x hx=>(y.2.1.ok.C x hx).1)),yA.box 0 _ rfl,y8 2 _ rfl,y8 3 _ rfl,Yw y2,Yw p;have tW:Hid (X=ed (v.D++u.ds.map (DQ v.wd))):=yX;clear p y2 y8 s R hS K yW U yX i J xH;go_upto_region 16 with fail;rw[<-x.o];clear x o2 g2 o3 g3;go_wp2_with fail;refine zI.Ak ?_;rintro e w9 ⟨T1,P1,L1,yO,rfl,zO,zK⟩;obtain⟨p,s,rfl⟩:=AB zO.aw;obtain⟨U,i,rfl⟩:=AB zO.pins;obtain⟨J,R,rfl⟩:=AB zO.bh;clear zI tO;obtain⟨x,tQ,z9,y9⟩:=vD.o,zA.bc,zK.size,Aa.A xI zK;have⟨Y3,yF⟩:=Ag (el (el (el (el (el (el (el w9 (Zd (t.1.size) 4) (Zg v.wd)) (Zd (t.1.size) 5) (Zg v.G)) (Zd (t.1.size) 6) (Zg v.H)) (Zd (t.1.size) 7) (Zg v.E)) (Zd (t.1.size) 8) (Cw p u.B s)) (Zd (t.1.size) 9) (Cw U v.ps i)) (Zd (t.1.size) 10) (Cw J v.ls R));have t3:Tn [t.1.size] w9 Y3:=by rw[yF];exact((((((Bi _ _ _ _).trans (Bi _ _ _ _)).trans (Bi _ _ _ _)).trans (Bi _ _ _ _)).trans (Bi _ _ _ _)).trans (Bi _ _ _ _)).trans (Bi _ _ _ _)
  have y3:=(((((((y9.set 4 (Zg v.wd)).set 5 (Zg v.G)).set 6 (Zg v.H)).set 7 (Zg v.E)).set 8 (Cw p u.B s)).set 9 (Cw U v.ps i)).set 10 (Cw J v.ls R));rw[<-yF]at y3;have K:Hid (CM Y3 q j.1.size c d m O P L v.wd v.G v.H v.E u.B v.ps v.ls u.I u.L u.K u.ro (Cw C u.F E) (Cw A u.ms B) (Cw da u.ds dc) mm u.F u.ms u.ms u.ds):=(yA.A zK).O t3 zY;have z3:=t3.size;have⟨x,yG⟩:=Ag (el (el (el (el (el (el Y3 (Zd (t.1.size) 11) (Zg u.I)) (Zd (t.1.size) 12) (Cw C u.F E)) (Zd (t.1.size) 13) (Cw A u.ms B)) (Zd (t.1.size) 14) (Zg u.L)) (Zd (t.1.size) 15) (Zg u.K)) (Zd (t.1.size) 16) (Zg u.ro));have t4:Tn [t.1.size] Y3 x:=by rw[yG];exact(((((Bi _ _ _ _).trans (Bi _ _ _ _)).trans (Bi _ _ _ _)).trans (Bi _ _ _ _)).trans (Bi _ _ _ _)).trans (Bi _ _ _ _)
  have y4:=((((((y3.set 11 (Zg u.I)).set 12 (Cw C u.F E)).set 13 (Cw A u.ms B)).set 14 (Zg u.L)).set 15 (Zg u.K)).set 16 (Zg u.ro));rw[<-yG]at y4;have zN:Hid (CM x q j.1.size c d m O P L v.wd v.G v.H v.E u.B v.ps v.ls u.I u.L u.K u.ro (Cw C u.F E) (Cw A u.ms B) (Cw da u.ds dc) mm u.F u.ms u.ms u.ds):=K.O t4 zY;have z4:=t4.size;have zX:Tn [t.1.size] w9 x:=t3.trans t4;have xY:Hid (BX j.1.size V j x):=(xA.trans (BX.of (zK.mono Yv))).trans (BX.of (zX.A Yv Yt));have xJ:=Yw y4;have zV:=HX x xY;have zP:Bc x Y2.1.size (Cw p u.B s) (Cw U v.ps i) (Cw J v.ls R) yO u.B v.ps v.ls:=zO.apart zX (fun b hb e=>by simp at hb;subst hb;have:=zO.lo _ e;omega);have yV:=(zF.1.A zK).O zX (fun g hg e=>by have:=(zF.1.S hg).1;simp at e;omega);have xM:=(zF.2.1.A zK).O zX (fun g hg e=>by have:=(zF.2.1.S hg).1;simp at e;omega);have yR:Hid (Ay x j.1.size (Cw F v.ss G) (Cx H X I) (Cw p u.B s) (Cw U v.ps i) (Cw J v.ls R) (Cw C u.F E) (Cw A u.ms B) yO (DD v u)/\(∀g,Aj (Cw da u.ds dc)=ai g->g∉DC (Cw F v.ss G) (Cx H X I) (Cw p u.B s) (Cw U v.ps i) (Cw J v.ls R) (Cw C u.F E) (Cw A u.ms B) yO)):=by
   have zS:=zP.lo;have xQ:∀g,Aj (Cw C u.F E)=ai g\/Aj (Cw A u.ms B)=ai g->g<t.1.size:=fun g hg=>by
    rcases hg with e|e
    .exact(zA.q.S e).2
    exact(zA.mr.S e).2
   have yM:∀g,Aj (Cw F v.ss G)=ai g\/Aj (Cx H X I)=ai g->Y1.1.size<=g/\g<Y2.1.size:=fun g hg=>by
    rcases hg with e|e
    .exact zF.1.S e
    exact zF.2.1.S e
   refine⟨Ay.apart (yV.mono Yv) (xM.mono Yv) zF.2.2 (zP.mono Yv) zN.q zN.mr (fun g hg=>(zA.ap.q g hg).2.2.1) (fun g hg e=> ?_) (fun g hg e=> ?_) (fun g g' hg vT e=> ?_),fun g hg zM=> ?_⟩
   .have:=yM g hg;have:=zS g e;omega
   .have:=xQ g hg;have:=zS g e;omega
   .have:=yM g hg;have:=xQ g' vT;omega
   have sC:=(zA.dd.S hg).2;unfold DC at zM;simp only[A5,A6]at zM;rcases zM with(e|e)|e|e|e
   .have:=(yM g (.inl e)).1;omega
   .have:=(yM g (.inr e)).1;omega
   .have:=zS g e;omega
   .exact(zA.ap.q g e).2.2.2 hg
   exact(zA.ap.r g e).2.2 hg
  obtain⟨⟨c1,_⟩,⟨c2,_⟩,⟨c3,_⟩,⟨c4,_⟩,⟨c5,_⟩,⟨c6,_⟩,⟨o4,g4⟩,⟨o5,g5⟩,⟨o6,g6⟩,⟨o7,g7⟩,⟨o8,g8⟩,⟨o9,g9⟩,⟨tH,vI⟩,xE,xF⟩:=K.box 1 _ rfl,K.box 2 _ rfl,K.box 3 _ rfl,K.box 4 _ rfl,K.box 5 _ rfl,K.box 6 _ rfl,y9 4 _ rfl,y9 5 _ rfl,y9 6 _ rfl,y9 7 _ rfl,y9 8 _ rfl,y9 9 _ rfl,y9 10 _ rfl,Yw yF,Yw yG;have zJ:Hid (Aa Y3 t.1.size _):=y3;clear yF yG y3 y4 y9 t3 t4 zX zO zP yV xM zK yA K zF xI xA;go_upto_region 17 with fail;rw[<-xE.o];clear xE o4 g4 o5 g5 o6 g6 o7 g7 o8 g8 o9 g9 tH vI;obtain⟨⟨tI,K⟩,⟨tJ,vJ⟩,⟨tK,vK⟩,⟨tL,vL⟩,⟨tM,vM⟩,tN,vN⟩:=zJ 11 _ rfl,zJ 12 _ rfl,zJ 13 _ rfl,zJ 14 _ rfl,zJ 15 _ rfl,zJ 16 _ rfl;have tU:¬t.1.size=c:=Yv;have xX:¬c=t.1.size:=Yv;go_upto_region 18 with fail;rw[<-xF.o];clear xF zJ c1 c2 c3 c4 c5 c6 tI K tJ vJ tK vK tL vL tM vM tN vN;have yZ:¬t.1.size=w.1.size:=Yv;have yY:¬c=w.1.size:=Yv;have zI:Hid (∀Z K,(Aa Z t.1.size [Zg v.wd,Zg v.J,Cw F v.ss G,Cx H X I,Zg v.wd,Zg v.G,Zg v.H,Zg v.E,Cw p u.B s,Cw U v.ps i,Cw J v.ls R,Zg u.I,Cw C u.F E,Cw A u.ms B,Zg u.L,Zg u.K,Zg u.ro]/\Z.cell? (Zd c 8)=ai (Cw da u.ds dc))->Tn [w.1.size] Z K->t.1.size<Z.1.size->c<Z.1.size->Aa K t.1.size [Zg v.wd,Zg v.J,Cw F v.ss G,Cx H X I,Zg v.wd,Zg v.G,Zg v.H,Zg v.E,Cw p u.B s,Cw U v.ps i,Cw J v.ls R,Zg u.I,Cw C u.F E,Cw A u.ms B,Zg u.L,Zg u.K,Zg u.ro]/\K.cell? (Zd c 8)=ai (Cw da u.ds dc)):=fun Z K h1 h2 h3 K=>⟨Aa.same h1.1 (h2.block _ h3 (by simpa using yZ)),(cell?_of_block (h2.block c K (by simpa using yY))).trans h1.2⟩;have zH:t.1.size<x.1.size:=xJ.lt;have yL:c<x.1.size:=zN.box.lt;have s0:Aa x.drew t.1.size [Zg v.wd,Zg v.J,Cw F v.ss G,Cx H X I,Zg v.wd,Zg v.G,Zg v.H,Zg v.E,Cw p u.B s,Cw U v.ps i,Cw J v.ls R,Zg u.I,Cw C u.F E,Cw A u.ms B,Zg u.L,Zg u.K,Zg u.ro]/\x.drew.cell? (Zd c 8)=ai (Cw da u.ds dc):=⟨xJ,(zN.box 8 _ rfl).1⟩;have x0:Aa x.drew w.1.size (z20 0):=zV.2.1;have⟨Z1,yH⟩:=Ag (x.drew.setCells w.1.size 0 (Xi:Array Value).toList);have T1:Tn [w.1.size] x.drew Z1:=by rw[yH];exact Ap _ _ _ _
  have x1:Aa Z1 w.1.size (z20 0):=by rw[yH];exact x0.ax (z20 0) rfl
  have⟨Z2,yI⟩:=Ag (Z1.setCells w.1.size 1 (#[Zg v.wd,Zg v.J,Cw F v.ss G,Cx H X I,Zg v.wd,Zg v.G,Zg v.H,Zg v.E,Cw p u.B s,Cw U v.ps i,Cw J v.ls R,Zg u.I,Cw C u.F E,Cw A u.ms B,Zg u.L,Zg u.K,Zg u.ro]:Array Value).toList);have⟨Z3,yJ⟩:=D2 Z2 (w.1.size) 18 (Zg n);have⟨Z4,yK⟩:=D2 Z3 (w.1.size) 19 (Cw da u.ds dc);have s1:=zI _ _ s0 T1 zH yL;have K:Tn [w.1.size] Z1 Z2:=by rw[yI];exact Ap _ _ _ _
  have x2:Aa Z2 w.1.size (Zg 0::([Zg v.wd,Zg v.J,Cw F v.ss G,Cx H X I,Zg v.wd,Zg v.G,Zg v.H,Zg v.E,Cw p u.B s,Cw U v.ps i,Cw J v.ls R,Zg u.I,Cw C u.F E,Cw A u.ms B,Zg u.L,Zg u.K,Zg u.ro]++[Ze,Zb])):=by rw[yI];exact Aa.fe [Zg v.wd,Zg v.J,Cw F v.ss G,Cx H X I,Zg v.wd,Zg v.G,Zg v.H,Zg v.E,Cw p u.B s,Cw U v.ps i,Cw J v.ls R,Zg u.I,Cw C u.F E,Cw A u.ms B,Zg u.L,Zg u.K,Zg u.ro] [Ze] Xo [Ze,Zb] Z1 x1 rfl
  have s2:=zI _ _ s1 K (Zr zH T1.size) (Zr yL T1.size);have T3:Tn [w.1.size] Z2 Z3:=by rw[yJ];exact Bi _ _ _ _
  have x3:=x2.set 18 (Zg n);rw[<-yJ]at x3;have s3:=zI _ _ s2 T3 (Zr zH (Zm T1.size K.size)) (Zr yL (Zm T1.size K.size));have T4:Tn [w.1.size] Z3 Z4:=by rw[yK];exact Bi _ _ _ _
  have x4:Aa Z4 w.1.size (OF 0 [Zg v.wd,Zg v.J,Cw F v.ss G,Cx H X I,Zg v.wd,Zg v.G,Zg v.H,Zg v.E,Cw p u.B s,Cw U v.ps i,Cw J v.ls R,Zg u.I,Cw C u.F E,Cw A u.ms B,Zg u.L,Zg u.K,Zg u.ro] n (Cw da u.ds dc)):=by rw[yK];exact x3.set 19 (Cw da u.ds dc)
  have s4:=zI _ _ s3 T4 (Zr zH (Zm T1.size (Zm K.size T3.size))) (Zr yL (Zm T1.size (Zm K.size T3.size)));have xC:Hid (Tn [w.1.size] x Z4):=((Tn.of (V:=[]) (Below.refl x.1.size x).drew).mono Yu).trans (T1.trans (K.trans (T3.trans T4)));have yE:Hid (x.drew.there w.1.size 0 20/\Z1.there w.1.size 1 17/\(Xi:Array Value).all (·.oneCell')=true/\(#[Zg v.wd,Zg v.J,Cw F v.ss G,Cx H X I,Zg v.wd,Zg v.G,Zg v.H,Zg v.E,Cw p u.B s,Cw U v.ps i,Cw J v.ls R,Zg u.I,Cw C u.F E,Cw A u.ms B,Zg u.L,Zg u.K,Zg u.ro]:Array Value).all (·.oneCell')=true):=⟨x0.there,Aa.du [Ze] Xo [Ze,Zb] x1,by simp[oneCell'],by simp[oneCell']⟩;obtain⟨⟨sI,tX⟩,⟨sJ,tY⟩,xG,vE,vF,vG,vH,yC⟩:=x2 18 _ rfl,x3 19 _ rfl,Yw x4,Yw yH,Yw yI,Yw yJ,Yw yK,Yw (Zn s1 (Zn s2 (Zn s3 s4)));clear x0 x1 x2 x3 x4 s1 s2 s3 s4 T1 K T3 T4 yH yI yJ yK;refine wp_region_noPanic ?_;refine wp_region_held_drew (S:=fun Z=>Aa Z t.1.size [Zg v.wd,Zg v.J,Cw F v.ss G,Cx H X I,Zg v.wd,Zg v.G,Zg v.H,Zg v.E,Cw p u.B s,Cw U v.ps i,Cw J v.ls R,Zg u.I,Cw C u.F E,Cw A u.ms B,Zg u.L,Zg u.K,Zg u.ro]/\Z.cell? (Zd c 8)=ai (Cw da u.ds dc)) Yr s0 (fun hS=> ?_);refine Di 0 (.agg #[Zg v.wd,Zg v.J,Cw F v.ss G,Cx H X I,Zg v.wd,Zg v.G,Zg v.H,Zg v.E,Cw p u.B s,Cw U v.ps i,Cw J v.ls R,Zg u.I,Cw C u.F E,Cw A u.ms B,Zg u.L,Zg u.K,Zg u.ro]) rfl (by exact yieldsIf_load_mid Yp 34 _ rfl t.1.size 0 rfl [Zg v.wd,Zg v.J,Cw F v.ss G,Cx H X I,Zg v.wd,Zg v.G,Zg v.H,Zg v.E,Cw p u.B s,Cw U v.ps i,Cw J v.ls R,Zg u.I,Cw C u.F E,Cw A u.ms B,Zg u.L,Zg u.K,Zg u.ro] _ (fun Z h=>h.1.range) underlying34 rfl Yr) ?_;try simp only[Act.put,AG]
  refine AK 1 (Zg n) ?_;try simp only[Act.put,AG]
  refine AK 2 (Yy c) ?_;try simp only[Act.put,AG]
  refine AK 3 (Yy c) ?_;try simp only[Act.put,AG]
  refine AK 4 (Yx c 8) ?_;try simp only[Act.put,AG]
  refine Di 5 (Cw da u.ds dc) rfl (by exact Or.inl ⟨Yp,fun Z hZ=>by have h0:=hZ.2;go_simp⟩) ?_;try simp only[Act.put,AG]
  refine Bk 6 (fun K Z=> ?_);rw[if_pos Yp];refine wp_store_mid 45 _ _ rfl w.1.size 0 Xi rfl rfl yE.1 Yr yE.2.2.1 ?_;rw[<-vE.o];refine Z.out _ _ (yC.1) (fun tZ=> ?_);clear Z K;try simp only[Act.put]
  refine AK 7 (Yx w.1.size 1) ?_;try simp only[Act.put,AG]
  refine Bk 8 (fun K Z=> ?_);rw[if_pos Yp];refine wp_store_mid 34 _ _ rfl w.1.size 1 #[Zg v.wd,Zg v.J,Cw F v.ss G,Cx H X I,Zg v.wd,Zg v.G,Zg v.H,Zg v.E,Cw p u.B s,Cw U v.ps i,Cw J v.ls R,Zg u.I,Cw C u.F E,Cw A u.ms B,Zg u.L,Zg u.K,Zg u.ro] rfl rfl yE.2.1 Yr yE.2.2.2 ?_;rw[<-vF.o];refine Z.out _ _ (yC.2.1) (fun sA=> ?_);clear Z K;try simp only[Act.put]
  refine AK 9 (Yx w.1.size 18) ?_;try simp only[Act.put,AG]
  refine Bk 10 (fun K Z=> ?_);go_simp;rw[<-vG.o];refine Z.out _ _ (yC.2.2.1) (fun sB=> ?_);clear Z K;try simp only[Act.put,AG]
  refine AK 11 (Yx w.1.size 19) ?_;try simp only[Act.put,AG]
  refine Bk 12 (fun K Z=> ?_);go_simp;rw[<-vH.o];refine Z.out _ _ (yC.2.2.2) (fun yV=> ?_);clear Z K;try simp only[Act.put,AG]
  refine wpAnyH_done Yr ?_ _;refine NoPanic.normal ?_;have⟨zU,zB⟩:=D2 Z4 k 0 (.int .i32 0);have K:Tn [k] Z4 zU:=by rw[zB];exact Bi _ _ _ _
  have sF:=yP.o;have xO:=Aa.same zV.1 (xC.block k (by have:=zV.1.lt;omega) Yt);obtain⟨l0,g0⟩:=xO 0 _ rfl;have xW:=Aa.same xG (K.block _ (Aa.lt xG) Yt);have Y:Tn [w.1.size,k] x zU:=(xC.mono Yu).trans (K.mono Yu);have eV:([Zg v.wd,Zg v.J,Cw F v.ss G,Cx H X I,Zg v.wd,Zg v.G,Zg v.H,Zg v.E,Cw p u.B s,Cw U v.ps i,Cw J v.ls R,Zg u.I,Cw C u.F E,Cw A u.ms B,Zg u.L,Zg u.K,Zg u.ro]:Zj)=AV (DD v u) (Cw F v.ss G) (Cx H X I) (Cw p u.B s) (Cw U v.ps i) (Cw J v.ls R) (Cw C u.F E) (Cw A u.ms B):=by have h:=zT.2.1;unfold AV DD;simp only[<-h]
  have Z:Hid (CKP v N lo w (.returned (.agg (OF 0 [Zg v.wd,Zg v.J,Cw F v.ss G,Cx H X I,Zg v.wd,Zg v.G,Zg v.H,Zg v.E,Cw p u.B s,Cw U v.ps i,Cw J v.ls R,Zg u.I,Cw C u.F E,Cw A u.ms B,Zg u.L,Zg u.K,Zg u.ro] n (Cw da u.ds dc)).toArray)) zU):=by
   refine⟨zV.2.2.trans (Y.A (by have:=zV.2.2.size;omega) Yt),ai (u,n),_,xD,rfl,_,_,_,_,_,_,_,yO,_,by rw[eV],(yR.1.stays Y (fun b hb zM=> ?_)).mono Yv,(zN.dd.O Y (fun g hg zM=> ?_)).mono Yv,yR.2⟩
   .have:=yR.1.lo b zM;simp at hb;omega
   have:=(zN.dd.S hg).1;simp at zM;omega
  obtain⟨HU,g,zC⟩:=Yw (Zn l0 g0),Yw xW,Yw zB;clear zB l0 g0 xW Y K eV xO;go_wp2_with fail;refine leaves_cons (f:=72) (args:= #[Yy k]) Yu F3 ?_;refine(unlock_deferred Gw ⟨k,0,an⟩ .returning _ HU.1 HU.2).mono ?_;rintro o u' xV ⟨rfl,rfl,rfl⟩;rw[<-zC.o];exact⟨_,AM results34 _ _ w.1.size (OF 0 [Zg v.wd,Zg v.J,Cw F v.ss G,Cx H X I,Zg v.wd,Zg v.G,Zg v.H,Zg v.E,Cw p u.B s,Cw U v.ps i,Cw J v.ls R,Zg u.I,Cw C u.F E,Cw A u.ms B,Zg u.L,Zg u.K,Zg u.ro] n (Cw da u.ds dc)) _ rfl (Aa.range g) underlying45 rfl Yr,Z⟩
