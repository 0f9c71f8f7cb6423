import Derived.Test.YtdofmfnmackjhaaGreatDoorX39
set_option maxRecDepth 100000
set_option maxHeartbeats 16000000
namespace Go.Proofs.YtdofmfnmackjhaaGreatDoor
open ChangeShapes WideShapes ChangeAt RowKit _root_.Go.Proofs.Tryz List World Value
theorem Nk(B n d c:Int)(m t q:Zk)(A z v s r:Nat)(a:Dj)(x:Zi)(w:Zh)(E:AW w w.1.size m a)(L:a.length<=600):
 D8 10 #[.agg (Yg B n d c m a.length A t z v q s r),C4 x] w λe f=>∃b:Int,e=C5 (Zg b)/\((b=0/\¬Am a x)\/∃u∈a,u.sum=x/\b=u.born)/\Zz w f:=by
 have⟨W,g⟩:=D6 w (Yg B n d c m a.length A t z v q s r) 27;obtain⟨f,F,p⟩:=AE (l:=(Yh B n d c m a.length A t z v q s r)) g;have D:Hid (AW W W.1.size m a):=AW.aj (AW.A E f) f.size;obtain⟨O,_⟩:=p 4 _ rfl;have o:=Yw g;have C:Hid (Zz w W):=f;clear E g f F p;go_enter func10,ntmps10;go_upto_region 1 with fail;rw[<-o.o];clear o;go_wp2
 go_loopw [5] (λj wr=>∃k:Nat,k<=a.length/\j=Zg k/\Hid (∀i u,i<k->a[i]?=some u->u.sum≠x)/\wr=W) (λj _=>a.length -(intOf j).toNat)
 case atStart=>exact⟨0,Az _,rfl,λi u f=>Yv,rfl⟩
 case round=>
  obtain⟨k,K,rfl,HN,rfl⟩:=hrel;by_cases hlt:k<a.length
  case' neg=>
   obtain rfl:k=a.length:=Yv
   have F:Hid (¬Am a x):=λ⟨u,g,e⟩=>by have⟨i,f⟩:=A5 g;exact HN i u (Zw f).1 f e
   clear HN D;go_wp2;go_ret;exact⟨0,rfl,.inl ⟨rfl,F⟩,C⟩
  have⟨M,N,G,H,o⟩:=D.at hlt;subst G;have p:Hid (a[k]?=some a[k]):=Zv hlt;obtain⟨I,J,_⟩:=o k _ p;clear o;generalize a[k]=y at *
  by_cases hxy:y.sum=x
  .subst hxy;have E:(y.sum.toList==y.sum.toList)=true:=Yu
   go_wp2;go_ret;exact⟨_,rfl,.inr ⟨y,Zs p,rfl,rfl⟩,C⟩
  .have E:=Br hxy;have o:Hid (∀i u,i<k+1->a[i]?=some u->u.sum≠x):=λi u f g=>by
    rcases Nat.lt_succ_iff_lt_or_eq.1 f with h|rfl
    .exact HN i u h g
    .rw[p.o]at g;cases g;exact hxy
   clear HN;go_wp2;exact⟨⟨k+1,Yv,Yn,o,trivial⟩,Ys⟩
theorem Qv(a:Zk)(n c:Nat)(w:Zh)(hn:n<=maxLen)(hb:Rq w a n)(d:n<=c)(i:Hz w):
 D8 3 #[.slice a n c] w λe w'=>e=.returned (.bool true)/\Zz w w':=by
 by_cases h20:(1048576:Int)<n
 .clear hb d hn;go_enter func3,ntmps3;go_wp2;go_ret;exact⟨rfl,Ad⟩
 have f:=Yw (OJ a n c w hn hb d);have K:Hid (Hz w):=i;clear hb d hn i;go_enter func3,ntmps3;go_wp2_with fail;refine f.Ai ?_;clear f;rintro e w1 ⟨cs,M,s,nm,P,t,ra,rc,rs,rfl,Q,B,I,z⟩;have⟨i,y,f,d,ta,tc,pa,pc,la,lc,o,H,G,e7,j,hw,N,O,zH⟩:=Q.ex;subst e7;have⟨zB,zC,zF,zE,Z⟩:=hw.km;have yX:(1048576:Nat)<=maxLen:=Yo
 have U:=B.lss;have V:=B.dw;have T:=B.du;have⟨W1,D⟩:=Ae ((w1.alloc (.cells (Yg i y f d ta o.length tc pa H.length pc la G.length lc) 27)).alloc (.cells (Yd M s nm P t ra rs.length rc) 32));obtain⟨C,xF,E,F⟩:=Bi (l:=(Yh i y f d ta o.length tc pa H.length pc la G.length lc)) (k:=(Yc M s nm P t ra rs.length rc)) D
 have q:Hid (∀X,Zz W1 X->(Aa X w1.1.size (Yh i y f d ta o.length tc pa H.length pc la G.length lc)/\Aa X (w1.1.size+1) (Yc M s nm P t ra rs.length rc))/\Bx X X.1.size ta pa la o H G/\Af X X.1.size ra rs/\(∀A,ta=some A->IF X A o)/\Hz X/\Zz w X):=λX J=>by have h1:=C.ah (J.aj C.size);exact⟨⟨Aa.A E J,Aa.A F J⟩,j.T h1,I.1.T h1,λA R=>(N A R).ag (R▸j.k) h1,(K.o.A z).A h1,z.ah (h1.aj z.size)⟩
 have R:=Yw (Tm i y f d ta pa la tc pc lc o H G M s nm P t rs ra rc W1 (q.o W1 Ad).2.1 zB zC zF zE Z (q.o W1 Ad).2.2.2.2.1 (q.o W1 Ad).2.2.1 Yv Yv Yv)
 have x:Hid (∀X,Zz W1 X->_):=λX J=>WC i y f d ta pa la tc pc lc o H G M s nm P t rs ra rc X (q.o X J).2.1 (q.o X J).2.2.2.1 O zH zB zC zE (q.o X J).2.2.1 I.2 Yv Yv Yv;have g:=Yw (Za zB (Za zC (Za zF (Za zE Z))));obtain⟨s0,s1,s2,s3,s4,s5,s6⟩:=Aa.c7 E 0 1 2 3 4 5 6;obtain⟨e0,e1,e2,h,m,u⟩:=Aa.c6 F 0 1 2 3 4 5;clear Q B I z j hw N zB zC zF zE Z C E F K O zH U V T
 go_upto_region 4 with fail;rw[<-D];clear D;go_wp2_with fail;refine R.Ai ?_;clear R s0 s1 s2 s3 s4 s5 s6 e0 e1 e2 h m u;rintro e T z;obtain⟨c0,zA,r,x1,R,p1,Q,l1,O,A,b',rfl,C,D,I⟩:=z.ar;have⟨V,N⟩:=D6 T #[Zg c0,Zg zA,Zg r.D,Zg r.F,Zg r.C,.slice x1 r.ks.length R,.slice p1 r.ps.length Q,.slice l1 r.ls.length O,.string r.j,Zg r.le,.string A,.string b'] 36
 obtain⟨K,xG,b⟩:=AE (l:=[Zg c0,Zg zA,Zg r.D,Zg r.F,Zg r.C,.slice x1 r.ks.length R,.slice p1 r.ps.length Q,.slice l1 r.ls.length O,.string r.j,Zg r.le,.string A,.string b']) N;have j:Below W1.1.size W1 V:=I.ah (K.aj I.size);have⟨⟨E,F⟩,_⟩:=q.o V j;obtain⟨s0,s1,s2,s3,s4,s5,s6⟩:=Aa.c7 E 0 1 2 3 4 5 6;obtain⟨e0,e1,e2,h,m,u⟩:=Aa.c6 F 0 1 2 3 4 5
 have B:Hid (∀X,Zz V X->Aa X T.1.size [Zg c0,Zg zA,Zg r.D,Zg r.F,Zg r.C,.slice x1 r.ks.length R,.slice p1 r.ps.length Q,.slice l1 r.ls.length O,.string r.j,Zg r.le,.string A,.string b']/\Bx X X.1.size x1 p1 l1 r.ks r.ps r.ls/\Zz W1 X):=λX J=>⟨Aa.A b J,(D.T K).T J,j.ah (J.aj j.size)⟩;have U:=Yw (x.o V j);have Y:=Yw C;have xA:w1.1.size+1<T.1.size:=Dz I.size
 clear z C D I K b x j E F;go_upto_region 5 with fail;rw[<-N];clear N;generalize T.1.size=q5 at *
 go_wp2_with fail;refine U.Ai ?_;clear U s0 s1 s2 s3 s4 s5 s6 e0 e1 e2 h m u;rintro e x z;obtain⟨c1,gm,r1,x2,zW,p2,zV,l2,zU,a1,b1,rfl,C,u,b⟩:=z.ar;obtain⟨rfl,rfl,rfl,rfl,rfl⟩:=Y.o.gj C;have⟨W3,U⟩:=D6 x #[Zg c0,Zg zA,Zg r.D,Zg r.F,Zg r.C,.slice x2 r.ks.length zW,.slice p2 r.ps.length zV,.slice l2 r.ls.length zU,.string r.j,Zg r.le,.string A,.string b'] 36
 obtain⟨K,xH,N⟩:=AE (l:=[Zg c0,Zg zA,Zg r.D,Zg r.F,Zg r.C,.slice x2 r.ks.length zW,.slice p2 r.ps.length zV,.slice l2 r.ls.length zU,.string r.j,Zg r.le,.string A,.string b']) U;have T:Below V.1.size V W3:=b.ah (K.aj b.size);have⟨h,D,_⟩:=B.o W3 T;have⟨yU,yV,yW,j⟩:=Y.o.small
 have m:=Yw (NU (.inr ⟨rfl,rfl⟩) zA r.D r.F r.C zA r.D r.F r.C x1 p1 l1 x2 p2 l2 R Q O zW zV zU r.ks r.ks r.ps r.ps r.ls r.ls W3 D (u.T K) ⟨Yv,Yv,Yv⟩ ⟨Yv,Yv,Yv⟩ (λk I=>Dz (j k I)) (λk I=>Dz (j k I)));obtain⟨v1,v2,v3,v4,v5,v6,v7⟩:=Aa.c7 h 1 2 3 4 5 6 7;obtain⟨v0,v8,v9,zI,zJ⟩:=Aa.c5 h 0 8 9 10 11
 obtain⟨u1,u2,u3,u4,u5,u6,u7⟩:=Aa.c7 N 1 2 3 4 5 6 7;obtain⟨u0,u8,u9,L,W⟩:=Aa.c5 N 0 8 9 10 11;have HM:Hid (∀k∈r.ks,k.B.length<=30):=j;have I:Hid (Zz V W3):=T;clear z C u b K N T h D j;go_upto_region 6 with fail;rw[<-U];clear U;generalize x.1.size=q6 at *
 go_wp2_with fail;refine m.Ai ?_;clear m v0 v1 v2 v3 v4 v5 v6 v7 v8 v9 zI zJ u0 u1 u2 u3 u4 u5 u6 u7 u8 u9 L W;rintro e N ⟨bw,rfl,Z,z⟩;obtain rfl:bw=true:=Z.2 Yu;have j:Hid (Zz V N):=I.o.ah (z.aj I.o.size);clear z Z I
 go_upto_if 68 with fail
 go_cut [68] (λ_ z=>Hid (Zz V z))
 case first=>
  clear q B Y;go_wp2;go_meet;exact j
 case rest=>
 clear j;revert wc;intro N j;have⟨C,zM,zK⟩:=B.o N j.o;obtain⟨v0,v8,v9,zI,zJ⟩:=Aa.c5 C 0 8 9 10 11;have z:Hid (∀X,Zz N X->Zz w X/\Zz V X):=λX J=>by have h1:=j.o.ah (J.aj j.o.size);exact⟨(q.o X (B.o X h1).2.2).2.2.2.2.2,h1⟩
 have⟨⟨E,F⟩,zN,_⟩:=q.o N zK;have yA:w1.1.size<N.1.size:=E.lt;have zR:q5<N.1.size:=C.lt;have yT:w1.1.size+1<N.1.size:=F.lt;obtain⟨s0,s1,s2,s3,s4,s5,s6⟩:=Aa.c7 E 0 1 2 3 4 5 6;obtain⟨e0,e1,e2⟩:=Aa.c3 F 0 1 2;by_cases h3:c0=3
 case' pos=>
  subst h3;have⟨I,D⟩:AJ i y f d o H G/\Ep i y f d o H G M s nm P t rs 3 A b':=by
   rcases Y.o with⟨_,h,_⟩|⟨ho,⟨hn,_⟩|⟨_,h,_⟩⟩
   .omega
   .exact⟨ho.1,hn⟩
   .omega
  have⟨K,T,U,b⟩:=D.three I;have n2:=Br K;have n1:(A.toList !=b'.toList)=true:=by rw[bne,n2];rfl
  have zX:Hid (∀m:Ao N,_):=λm=>IN A i m.w T I.bn.gm I.bn.ib;have zO:Hid (∀m:Ao N,_):=λm=>IN b' i m.w U I.bn.gm I.bn.ib;rw[<-b]at zO;generalize CD A.data.toList i.toNat=S at zX zO;have es:(S.toList==S.toList)=true:=Yu
  have k:=Ao.cell zI zR;have u:=Ao.cell zJ zR;have x:=Ao.cell s0 yA;have zP:=Ao.ne N;clear b I D T U K q B Y g C zM zK E F zN HM j;go_wp2;refine Ax Yr Yr ?_
  repeat (go_big_quiet_step (first|with_reducible exact Ao.calls (zX.o _)|with_reducible exact Ao.calls (zO.o _)))
  refine wpQuiet_nil ?_;intro m;have T:=Yw ((z.o _ m.h).1);clear k u x zP v0 v8 v9 zI zJ s0 s1 s2 s3 s4 s5 s6 e0 e1 e2;go_wp2;go_ret;exact⟨rfl,T.o⟩
 have d3:(c0==3)=false:=D2 h3
 by_cases h6:c0=6
 case' pos=>
  subst h6;have⟨I,D⟩:AJ i y f d o H G/\Ep i y f d o H G M s nm P t rs 6 A b':=by
   rcases Y.o with⟨_,h,_⟩|⟨ho,⟨hn,_⟩|⟨_,h,_⟩⟩
   .omega
   .exact⟨ho.1,hn⟩
   .omega
  have U:Hid (Am o s/\∀u∈o,1<=u.born):=⟨D.six,λu hu=>(I.all.2.1.b1 u hu).1⟩;have x:=Yw (Kb i y f d ta pa la tc pc lc o H G s N zN g.o.1 g.o.2.1 g.o.2.2.1 g.o.2.2.2.1 g.o.2.2.2.2);have zS:o.length<=600:=I.nth;have yY:=I.np;have yZ:=I.nl;clear I D h3 d3 Y HM C zM E F zK;go_wp2_with fail;refine x.Ai ?_;rintro e j ⟨⟨y1,y2,B2,rfl,k,W,_,_,L⟩⟩;obtain⟨na,nc,rfl⟩:=Aq k;obtain⟨ma,mc,rfl⟩:=Aq W
  have hl:=LF i y f d o H G s;have D:=z.o j L;have⟨⟨E,F⟩,b,_⟩:=q.o j (B.o j D.2).2.2;generalize (holdPA i y f d o H G s).length=nP at *
  generalize (holdLA i y f d o H G s).length=nL at *
  have K:Hid (Zz N j):=L;clear k W x L D s0 s1 s2 s3 s4 s5 s6 e0 e1 e2 v0 v8 v9 zI zJ;by_cases hz:0<nP+nL
  .have hp:(0:Int)<(nP:Int)+nL:=Yv
   have T:=Yw ((z.o _ K.o).1);clear E F b hz z q B;go_wp2;go_ret;exact⟨rfl,T.o⟩
  obtain rfl:nP=0:=Yv
  obtain rfl:nL=0:=Yv
  have HC:=Yw (Nk i y f d ta pa la tc H.length pc G.length lc o s j b.k zS);obtain⟨s0,s1,s2,s3,s4,s5,s6⟩:=Aa.c7 E 0 1 2 3 4 5 6;obtain⟨e1,_⟩:=F 1 _ rfl;clear E F b hz;go_wp2_with fail;refine HC.Ai ?_;rintro e w6 ⟨b,rfl,hb,D⟩;have db:(0:Int)<b:=by
   rcases hb with⟨_,h⟩|⟨u,hu,_,rfl⟩
   .exact absurd U.o.1 h
   .have:=U.o.2 u hu;omega
  have T:=Yw ((z.o _ (K.o.ah (D.aj K.o.size))).1);clear hb D HC q B z U s0 s1 s2 s3 s4 s5 s6 e1;go_wp2;go_ret;exact⟨rfl,T.o⟩
 have d6:(c0==6)=false:=D2 h6
 by_cases h0:c0=0
 case' neg=>
  have d0:(c0 !=0)=true:=D2 h0
  have T:=Yw ((z.o _ Ad).1);clear h0 h3 h6 q B Y HM C zM E F zK zN g z;go_wp2;go_ret;exact⟨rfl,T.o⟩
 subst h0;have⟨I,zT,hy,yE⟩:AJ i y f d o H G/\Bp M s nm P t rs i=true/\BP i y f d o H G M s nm P t rs r/\i=zA:=by
  rcases Y.o with⟨_,h,_⟩|⟨ho,⟨hn,_⟩|⟨hy,_,hw,_⟩⟩
  .omega
  .have:=hn.code;omega
  .exact⟨ho.1,ho.2,hy,hw.symm⟩
 subst yE;have⟨hv,zY⟩:=BP.valid I zT hy;have⟨zB,zC,zF,zE,Z⟩:=zY.km;have HV:=Yw (FC i r.D r.F r.C x1 p1 l1 R Q O r.ks r.ps r.ls N zM zB zC zF zE Z);obtain⟨v1,v2,v3,v4,v5,v6,v7⟩:=Aa.c7 C 1 2 3 4 5 6 7;have U:=Yw (Za I (Za zT (Za hy hv)))
 have zG:Hid (∀X x,Zz N X->D8 9 #[.agg (Yg i r.D r.F r.C x1 r.ks.length R p1 r.ps.length Q l1 r.ls.length O),.string x] X (Aau X (holdPA i r.D r.F r.C r.ks r.ps r.ls x) (holdLA i r.D r.F r.C r.ks r.ps r.ls x))):=λX x J=>Kb i r.D r.F r.C x1 p1 l1 R Q O r.ks r.ps r.ls x X (B.o X (z.o X J).2).2.1 zB zC zF zE Z;clear I zT hy zY zB zC zF zE Z h3 h6 d3 d6 Y C zM E F zK zN g HM
 go_wp2_with fail;refine HV.Ai ?_;rintro e j ⟨bv,rfl,I,L⟩;obtain rfl:bv=true:=I.2 hv;have K:Hid (Zz N j):=L;have⟨C,_⟩:=B.o j (z.o j L).2;have⟨⟨E,F⟩,_⟩:=q.o j (B.o j (z.o j L).2).2.2;clear HV I hv L v0 v1 v2 v3 v4 v5 v6 v7 v8 v9 zI zJ s0 s1 s2 s3 s4 s5 s6 e0 e1 e2;obtain⟨v1,v2,v3,v4,v5,v6,v7⟩:=Aa.c7 C 1 2 3 4 5 6 7;obtain⟨v0,v8,v9⟩:=Aa.c3 C 0 8 9;obtain⟨e0,e1,e2⟩:=Aa.c3 F 0 1 2
 obtain⟨s4,_⟩:=E 4 _ rfl;have zR:=C.lt;have T:Hid (∀X,Zz j X->Zz w X):=λX J=>(z.o X (K.o.ah (J.aj K.o.size))).1;have⟨yR,yS,_⟩:=Ee U.o.2.1;by_cases hk14:M=1\/M=4
 case' pos=>
  have⟨⟨u,hu,I⟩,L,g⟩:=BP.holds U.o.1 U.o.2.1 U.o.2.2.1 hk14;have xB:s.size+r.j.size<=8:=by have h1:=U.o.2.2.2.bt.sz u hu;have h2:=U.o.2.2.2.bn.ib;rw[I]at h1;simp at h1;omega
  have hm:(100000:Nat)<=maxLen:=Yo
  have xC:(0:Int)<u.born:=Dz (U.o.2.2.2.all.2.1.b1 u hu).1
  have HC:Hid (∀X,Zz j X->D8 10 #[.agg (Yg i r.D r.F r.C x1 r.ks.length R p1 r.ps.length Q l1 r.ls.length O),.string (s++r.j)] X λe w'=>e=.returned (Zg u.born)/\Zz X w'):=λX J=>by
   refine(Nk i r.D r.F r.C x1 p1 l1 R r.ps.length Q r.ls.length O r.ks (s++r.j) X (B.o X (z.o X (K.o.ah (J.aj K.o.size))).2).2.1.k U.o.2.2.2.nth).aj ?_;rintro e w' ⟨b,rfl,hb,zZ⟩;rcases hb with⟨_,h⟩|⟨u',yC,h,rfl⟩
   .exact absurd ⟨u,hu,I⟩ h
   .obtain rfl:u'=u:=FT U.o.2.2.2.bt.nd yC hu (h.ah I.symm);exact⟨rfl,zZ⟩
  have HL:=Yw g;have Z:=(LF i r.D r.F r.C r.ks r.ps r.ls (s++r.j)).2;rw[g,Ak]at Z;have x:=U.o.2.2.2.nl;have Y:Hid (∀X,Zz j X->Aa X q5 [Ze,Zg i,Zg r.D,Zg r.F,Zg r.C,.slice x1 r.ks.length R,.slice p1 r.ps.length Q,.slice l1 r.ls.length O,.string r.j,Zg r.le,.string A,.string b']):=λX J=>(B.o X (z.o X (K.o.ah (J.aj K.o.size))).2).1;have yP:L.length<=200:=Yv
  clear g Z x I hu q B C E F z;rcases hk14 with rfl|rfl
  all_goals
   go_wp2_with fail;refine Calls.mono (zG.o j (s++r.j) K.o) ?_;rintro e w6 ⟨⟨y1,y2,B2,rfl,k,W,_,_,D⟩⟩;obtain⟨na,nc,rfl⟩:=Aq k;rw[HL.o]at W;rcases W.2 with⟨_,h0⟩|⟨g,yM,yN,yD,_⟩
   .simp at h0
   subst yD;have Z:=W.cellAt L.length Yu;have yB:=(Ac W (g:=g) rfl).2;have C:=Y.o w6 D;have I:=C.lt;have X:=Ao.cell (C 1 _ rfl).1 I;have yF:=Ao.cell (C 2 _ rfl).1 I;have yG:=Ao.cell (C 3 _ rfl).1 I;have yH:=Ao.cell (C 4 _ rfl).1 I;have yI:=Ao.cell (C 5 _ rfl).1 I;have yJ:=Ao.cell (C 6 _ rfl).1 I;have yK:=Ao.cell (C 7 _ rfl).1 I;have yL:=Ao.cell (C 9 _ rfl).1 I
   have wg:=Ao.cell (Z.ah Yu) yB (v:=Zg r.le);have J:Hid (∀m:Ao w6,_):=λm=>HC.o m.w (D.ah (m.h.aj D.size));have zP:=Ao.ne w6;have x:Hid (Zz j w6):=D;have zH:(L++[r.le]).length=L.length+1:=Yu
   rw[zH];clear k W Z C D HC zG Y HL zH v0 v1 v2 v3 v4 v5 v6 v7 v8 v9 e0 e1 e2 s4;go_wp2;refine Ax Yr Yr ?_
   repeat (go_big_quiet_step (exact Ao.calls (J.o _)))
   refine wpQuiet_nil ?_;intro m;have Z:=Yw (T.o _ (x.o.ah (m.h.aj x.o.size)));clear X yF yG yH yI yJ yK yL wg zP J T;go_wp2;go_ret;exact⟨rfl,Z.o⟩
 by_cases hk2:M=2
 case' pos=>
  subst hk2;have W:=BP.pinned U.o.1 U.o.2.1 U.o.2.2.1;have zH:=LF i r.D r.F r.C r.ks r.ps r.ls s;clear hk14 q B C E F z;go_wp2_with fail;refine Calls.mono (zG.o j s K.o) ?_;rintro e w6 ⟨⟨y1,y2,B2,rfl,k,_,_,_,D⟩⟩;obtain⟨na,nc,rfl⟩:=Aq k;have X:=Yw (ZP na nc (holdPA i r.D r.F r.C r.ks r.ps r.ls s) nm w6 (LA k) Yv)
  have yO:=(D.cell (p:=⟨w1.1.size+1,2,none⟩) (by simp;have:=K.o.size;omega)).ah e2;have HN:=Yw W;have J:Hid (Zz j w6):=D;clear k D W zG e2 e1 e0 v0 v1 v2 v3 v4 v5 v6 v7 v8 v9 s4;go_wp2_with fail;refine X.Ai ?_;rintro e w7 ⟨b9,rfl,W,k⟩;obtain rfl:b9=true:=W.2 HN.o;have Z:=Yw (T.o w7 (J.o.ah (k.aj J.o.size)));clear W k X T;go_wp2;go_ret;exact⟨rfl,Z.o⟩
 by_cases hk7':M=7
 case' pos=>
  subst hk7';have⟨W,X⟩:=BP.dropped U.o.1 U.o.2.2.1;have zS:=U.o.2.2.2.nth;have HC:=Yw (Nk i r.D r.F r.C x1 p1 l1 R r.ps.length Q r.ls.length O r.ks s j (B.o j (z.o j K.o).2).2.1.k zS);have Y:=Yw C;have k:=Yw E;clear hk14 hk2 q B C E F z zG;go_wp2_with fail;refine HC.Ai ?_;rintro e w6 ⟨b,rfl,hb,D⟩;obtain rfl:b=0:=by
   rcases hb with⟨h,_⟩|⟨u,hu,h,_⟩
   .exact h
   .exact absurd ⟨u,hu,h⟩ W
  obtain⟨xE,_⟩:=(Y.o.A D) 5 _ rfl;obtain⟨xD,_⟩:=(k.o.A D) 4 _ rfl;have J:=Yw (T.o w6 D);have yQ:(r.ks.length:Int)=(o.length:Int) -1:=Yv
  clear hb D HC T Y k v0 v1 v2 v3 v4 v5 v6 v7 v8 v9 e0 e1 e2 s4;go_wp2;go_ret;exact⟨rfl,J.o⟩
 have Y:(M==1)=false:=Yt
 have j4:(M==4)=false:=Yt
 have k:(M==2)=false:=D2 hk2
 have j7:(M==7)=false:=D2 hk7'
 have D:=Yw (T.o j Ad);clear hk14 hk2 hk7' q B C E F z zG T;go_wp2;go_ret;exact⟨rfl,D.o⟩
