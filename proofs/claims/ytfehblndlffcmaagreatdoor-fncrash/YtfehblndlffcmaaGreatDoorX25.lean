import Derived.Test.YtfehblndlffcmaaGreatDoorX14
set_option maxRecDepth 100000
set_option maxHeartbeats 16000000
open Option renaming some->an,none->ba
open Bool renaming true->bg,false->bq
open Go.RowKit renaming Below->bs
open Decidable renaming decide->bx
open Go.Obj renaming cells->ca
open Go.Value renaming slice->cr,agg->ct,ownBlock->ej
open Or renaming inl->dp,inr->eb
open List renaming length->eh,toArray->ei
open Go.World renaming cell?->ek,ownsRow->eo,grownBy->ep,setCell->ev
open Go renaming maxLen->ew
namespace Go.Proofs.YtfehblndlffcmaaGreatDoor
open ChangeShapes WideShapes ChangeAt RowKit _root_.Go.Proofs.Tryz List World Value
variable{a:Db}{k B n d b i m j base N:Nat}{x:Pd}{w W:Zh}{c q p y e aj:Int}{s:Zi}{O P L:Value}{g:C9}{V:List Nat}{z:Kd×Value}
theorem Vp(O:Nat)(F H l d kd zB:Int)(ta:Zk)(b tc:Nat)(m:List (Kd×Value))(V I:Zk)(pn Z J:Nat)(C:Da)(s nm j:Zi)(f:Zl)(ra:Zk)(rc:Nat)(w:Zh)(h:YO w O F H l d zB ta b m I J C j f ra rc):
 D8 76 #[ct (Yg F H l d ta (eh m) tc V pn Z I (eh C) J),ct (Ye kd s nm zB j ra (eh f) rc)] w (Tq O b F H l d zB m (C3 V pn Z) (C3 I (eh C) J) C j f w):=by
 have⟨W,hW⟩:=Ag (((w.alloc (ca (Yg F H l d ta (eh m) tc V pn Z I (eh C) J) 30)).alloc (ca (Ye kd s nm zB j ra (eh f) rc) 91)).alloc (ca Yd 42));obtain⟨bW,qJ,x0⟩:=(BI hW).1,(BI hW).2.1,(BI hW).2.2.1;have xe:Aa W (w.1.size+1) (Xz kd s nm zB j ra (eh f) rc):=by have M:=Aa.new (w.alloc (ca (Yg F H l d ta (eh m) tc V pn Z I (eh C) J) 30)) (Xz kd s nm zB j ra (eh f) rc) 91;rw[Ao]at M;rw[hW];exact Aa.A M (Zy)
 have x1:Aa W (w.1.size+2) z12:=by have M:=Aa.new ((w.alloc (ca (Yg F H l d ta (eh m) tc V pn Z I (eh C) J) 30)).alloc (ca (Ye kd s nm zB j ra (eh f) rc) 91)) z12 42;rw[Ao,Ao]at M;rw[hW];exact M
 have HX:Hid (∀X,Zz W X->Aa X w.1.size (Yh F H l d ta (eh m) tc V pn Z I (eh C) J)/\Aa X (w.1.size+1) (Xz kd s nm zB j ra (eh f) rc)/\Aa X (w.1.size+2) z12/\Zz w X/\Bs X b 0 m/\Ab X X.1.size ra f):=λX Q=>by have hb:bs w.1.size w X:=bW.ag (Q.ai bW.size);exact⟨Aa.A x0 Q,Aa.A xe Q,Aa.A (v:=Ze) x1 Q,hb,h.z.A hb h.bl,Ab.ai (Ab.A h.r hb) hb.size⟩
 have y:=Yw h;have pH:=Aau j f F h.w1;have vC:Hid (W.1.size=w.1.size+3):=qJ;obtain⟨xK,pF,qC⟩:=h.bl,h.rl,h.ok.len;rw[B0]at qC;have hF:Hid (∀X (r:Zi),Zz W X->D8 79 #[ct (Yg F H l d ta (eh m) tc V pn Z I (eh C) J),C4 r] X λe w'=>e=C5 (Zg (CC (m.map (·.1)) r))/\Zz X w'):=λX r Q=>by
  have qD:Br X X.1.size ta (m.map (·.1)):=by
   rcases y.tb with e|e
   .rw[e];exact(HX X Q).2.2.2.2.1.dt (by have M:=Q.size;have h2:=vC.o;omega)
   rw[e];exact dp rfl
  have M:=Dt F H l d ta tc (C3 V pn Z) (C3 I (eh C) J) (m.map (·.1)) r X X.1.size qD (Zx) N8;rw[B0]at M;exact M
 have HW:=Yw hW;obtain⟨tY,v0,_⟩:=Yw (GJ j rc F (Ab.ai (Ab.A h.r bW) bW.size) Yv h.tl),x0 0 _ rfl;obtain⟨e4,e5⟩:=Aa.c2 xe 4 5;clear hW bW x0 xe x1 h;delta D8;go_in;go_upto_region 1 with fail;rw[<-HW.o];clear HW;go_wp2_with fail;refine tY.Aj ?_;rintro e w1 ⟨rfl,vW⟩;have tU:Hid (Zz W w1):=vW;have vT:=Yw (Jh (AG j f F) F w1 (FT _ _ _) y.w1 y.ok.w8);have sH:Ds (AG j f F).data.toList F.toNat=Bm j f F:=rfl;rw[sH]at vT;clear sH tY v0 e4 e5;obtain⟨v0,_⟩:=(HX w1 vW).1 0 _ rfl;generalize hFF:AG j f F=FF at *
 generalize hSS:Bm j f F=SS at *
 go_wp2_with fail;refine vT.Aj ?_;rintro e w2 ⟨rfl,vG⟩;have sZ:Hid (Zz W w2):=tU.ag (vG.ai tU.size);clear vT v0 vW vG;go_wp2;go_loopw [7] (λi wr=>∃(k:Nat),k<=eh f/\i=Zg k/\Hid ((∀r∈f.take k,AA (m.map (·.1)) r)/\Zz W wr)) (λi _=>eh f -(intOf i).toNat)
 case atStart=>exact⟨0,Aq _,rfl,⟨λr hr=>by simp at hr,sZ⟩⟩
 obtain⟨k,hk,rfl,HI⟩:=hrel;have⟨x0,xe,x1,U,hZ,N⟩:=HX wr HI.2;have vO:Hid (Zz w wr):=U;obtain⟨e5,_⟩:=xe 5 _ rfl;by_cases hlt:k<eh f
 .obtain⟨rb,qU,ha,qI,sR⟩:=N.at hlt;subst ha;have HG:Hid (f[k]?=an f[k]):=Zv hlt;have c0:=sR k _ HG;have rJ:Hid (f.take (k+1)=f.take k++[f[k]]):=Zu hlt;clear sR;generalize f[k]=r at *
  have D0:bs wr.1.size wr wr.drew:=Ae.drew;have rB:bs W.1.size W wr.drew:=HI.2.ag (D0.ai HI.2.size);have xA:=Yw (hF wr.drew r rB);have pG:rb<wr.1.size:=qI;obtain⟨v0,v1,v2,v3,v4,v5,v6⟩:=Aa.c7 x0 0 1 2 3 4 5 6;have rK:Hid (Aa wr (w.1.size+2) z12):=x1;clear x0 xe x1 hZ N U;go_wp2;go_region_with (go_at_call 79;refine xA.Aj ?_;rintro e u ⟨rfl,xJ⟩)
  all_goals
   have zW:Hid (Zz wr u):=D0.ag xJ;clear xJ c0 e5 v0 v1 v2 v3 v4 v5 v6 xA;by_cases hth:AA (m.map (·.1)) r
   .obtain⟨fi,fk,xL,_,_⟩:=Nd hth;rw[xL];have yE:Hid (AA (m.map (·.1)) r):=hth;clear hth xL;go_wp2;refine⟨⟨k+1,Yv,Yn,⟨?_,HI.2.ag (zW.ai HI.2.size)⟩⟩,Ys⟩;rw[rJ.o];intro r' yM;rcases Bw.1 yM with yM|yM
    .exact HI.1 r' yM
    simp at yM;rw[yM];exact yE.o
   have rZ:=Ja hth;have yE:Hid (¬AA (m.map (·.1)) r):=hth;generalize CC (m.map (·.1)) r=fi at *
   obtain⟨⟨y0,q0⟩,⟨y1,q1⟩,⟨y2,q2⟩,⟨y3,q3⟩,⟨y4,q4⟩,⟨y5,q5⟩,⟨y6,q6⟩,⟨y7,q7⟩,⟨y8,q8⟩,⟨y9,q9⟩,⟨zO,yO⟩,zP,yP⟩:=Bv (Aa.A (v:=Ze) rK zW);clear hth;go_wp2;refine C1 (ct (ei (Cr 2 ⟨#[]⟩ ⟨#[]⟩))) E9 ?_;have rY:bs w.1.size w u:=vO.ag (zW.ai vO.size);exact⟨Tn.fresh (Tn.of rY) (BB u (w.1.size+2) _ _ _ _ _ _ _ _ _ _ _ _) Yv,dp ⟨2,_,_,dp ⟨λzV=>yE (zV r (Zs HG)),rfl,rfl,rfl⟩,rfl⟩⟩
 obtain rfl:k=eh f:=Yv;have zV:=HI.1;rw[Zt (Zx)]at zV;have zT:Hid (∀r∈f,AA (m.map (·.1)) r):=zV;have vM:Hid (Zz W wr):=HI.2;have xA:=Yw (hF wr SS HI.2);obtain⟨v0,v1,v2,v3,v4,v5,v6⟩:=Aa.c7 x0 0 1 2 3 4 5 6;clear zV HI x0 xe x1 U hZ N;go_wp2_with fail;refine xA.Aj ?_;rintro e u ⟨rfl,xJ⟩;have zW:Hid (Zz W u):=vM.ag (xJ.ai vM.size);clear v0 v1 v2 v3 v4 v5 v6 xA xJ vM e5 vO;have⟨x0,xe,x1,U,hZ,N⟩:=HX u zW;by_cases hth:AA (m.map (·.1)) SS
 .obtain⟨i,k,xL,vY,sM⟩:=Nd hth;rw[xL];rw[getElem?_map]at vY;obtain⟨z,yC,rfl⟩:=Option.map_eq_some_iff.1 vY;obtain rfl:ta=an ⟨b,0,ba⟩:=y.tb.resolve_right (λe=>by rw[e]at yC;simp at yC);have⟨⟨_,_,c2,c3⟩,xQ,xR,xO,sS⟩:=hZ i z yC;rw[xO]at c3;rw[Ay]at c2 c3;have pB:(i:Int)<eh m:=Dl (Zw yC).1;have D3:bs u.1.size u u.drew:=Ae.drew;have tW:=Yw (GJ z.1.i xR F (Ab.ai (Ab.A sS D3) D3.size) (Dl (y.ok.D z.1 (mem_map.2 ⟨z,Zs yC,rfl⟩)).1) (y.cj z (Zs yC)));have vA:Hid (z∈m/\z.1.sum=SS):=⟨Zs yC,sM⟩;obtain⟨v0,v4⟩:=Aa.c2 x0 0 4;have tS:b<u.1.size:=Zr xK U.size;clear x0 xe x1 U hZ N hth xL vY yC xO sS sM;go_upto_region 10 with fail;go_region_with (go_at_call 65;refine tW.Aj ?_;rintro e w4 ⟨rfl,sJ⟩)
  all_goals
   have tV:Hid (Zz W w4):=zW.ag ((D3.ag sJ).ai zW.size);clear sJ c2 c3 v0 v4 tW;have⟨x0,xe,x1,U,hZ,N⟩:=HX w4 tV;by_cases hsame:AG z.1.i z.1.D F=FF
   case neg=>
    have vJ:((AG z.1.i z.1.D F).toList==FF.toList)=bq:=BJ hsame;have B:((AG z.1.i z.1.D F).toList !=FF.toList)=bg:=(by simp[bne,vJ]);have rF:Hid (GI F l d (m.map (·.1)) C j f 3 (AG z.1.i z.1.D F) FF):=eb ⟨zT,dp ⟨z.1,mem_map.2 ⟨z,vA.1,rfl⟩,by rw[hSS];exact vA.2,by rw[hFF];exact hsame,rfl,rfl,hFF.symm⟩⟩;have⟨⟨y0,q0⟩,⟨y1,q1⟩,⟨y2,q2⟩,⟨y3,q3⟩,⟨y4,q4⟩,⟨y5,q5⟩,⟨y6,q6⟩,⟨y7,q7⟩,⟨y8,q8⟩,⟨y9,q9⟩,⟨zO,yO⟩,zP,yP⟩:=Bv x1;have rC:Hid (Zz w w4):=U;clear hsame x0 xe x1 U hZ N;generalize AG z.1.i z.1.D F=GG at *
    go_wp2;refine C1 (ct (ei (Cr 3 GG FF))) E9 ?_;exact⟨Tn.fresh (Tn.of rC) (BB w4 (w.1.size+2) _ _ _ _ _ _ _ _ _ _ _ _) Yv,dp ⟨3,_,_,rF,rfl⟩⟩
   have B:(FF.toList !=FF.toList)=bq:=Yu;rw[hsame];have xZ:Hid (CJ F d (m.map (·.1)) j f (m.map (·.1)) d):=dp ⟨z.1,mem_map.2 ⟨z,vA.1,rfl⟩,by rw[hSS];exact vA.2,by rw[hsame,hFF],rfl,rfl⟩;have vN:=Yw x0;have vQ:=Yw xe;have xD:Hid (Aa w4 (w.1.size+2) z12):=x1;have vR:Hid (eo w4 O 83 3 (C3 I (eh C) J) (eh C) (Ad lC C)):=Ah y.lo U;have xM:w.1.size+3<=w4.1.size:=(by have M:=tV.size;have h2:=vC.o;omega);have vU:Hid (Tn (ej (C3 I (eh C) J)).toList w w4):=Tn.of U;have rL:Hid (Bs w4 b 0 m):=hZ;have yS:b<w4.1.size:=Zr xK U.size;clear x0 xe x1 U hZ N hsame;have xB:=Yw (IP F H l (d) (an ⟨b,0,ba⟩) V I (eh (m)) tc pn Z J C SS zB vR (Zm y.lb (Zm (Nat.le_add_right _ 3) xM)) (Dl y.nl) y.g0 y.g1 y.n0 y.n1 y.t0 y.t1);obtain⟨⟨l0,l1,l2,l3,l4,l5,l6⟩,m3,_⟩:=Aa.c7 vN 0 1 2 3 4 5 6,vQ 3 _ rfl;go_wp2_with fail;refine xB.Aj ?_;rintro e P ⟨zM,yU⟩;have yF:∀g,ej (C3 I (eh C) J)=an g->g<w.1.size:=λg hg=>(Ac y.lo hg).2;have yA:Aa P (w.1.size+2) z12:=Aa.same xD (zM.block _ xD.lt (λe=>by have:=yF _ (D2 e);omega));have qE:w.1.size+3<=P.1.size:=Zm xM zM.size;have xE:Hid (Tn (ej (C3 I (eh C) J)).toList w P):=vU.ag zM;clear l0 l1 l2 l3 l4 l5 l6 m3 xB;obtain⟨S,rfl⟩|⟨⟨vZ,vX⟩,g2,c2,rfl,yG,zH⟩:=yU
   .obtain⟨Y,hY⟩:=D6 P (Yc 4) 42;have bY:bs P.1.size P Y:=(by rw[hY];exact Zy);have t:Aa Y P.1.size (Xr 4):=L6;have yR:=Aa.A (v:=Ze) yA bY;have HY:=Yw hY;have zF:Hid (Tn (ej (C3 I (eh C) J)).toList w Y):=xE.ag (Tn.of bY);have yI:Hid (eh C=200\/l=1000000000):=(by have M:=y.nl;have h2:=y.g1;show _\/_;omega);obtain⟨⟨⟨y0,q0⟩,⟨y1,q1⟩,⟨y2,q2⟩,⟨y3,q3⟩,⟨y4,q4⟩,⟨y5,q5⟩,⟨y6,q6⟩,⟨y7,q7⟩,⟨y8,q8⟩,⟨y9,q9⟩,⟨zO,yO⟩,zP,yP⟩,⟨u0,tH⟩,⟨u1,tI⟩,⟨u2,tJ⟩,⟨u3,tK⟩,⟨u4,tL⟩,⟨u5,tM⟩,⟨u6,tN⟩,⟨u7,tO⟩,⟨u8,tP⟩,⟨u9,tQ⟩,tF,yW⟩:=Bv yR,t 0 _ rfl,t 1 _ rfl,t 2 _ rfl,t 3 _ rfl,t 4 _ rfl,t 5 _ rfl,t 6 _ rfl,t 7 _ rfl,t 8 _ rfl,t 9 _ rfl,t 10 _ rfl;obtain⟨tG,yX⟩:=t 11 _ rfl;clear bY t yR hY yA zM S;go_upto_region 30 with fail;rw[<-HY.o];clear HY;go_wp2;refine C1 (ct (ei (Cr 4 ⟨#[]⟩ ⟨#[]⟩))) E9 ?_;exact⟨Tn.fresh zF (BB Y (w.1.size+2) _ _ _ _ _ _ _ _ _ _ _ _) Yv,dp ⟨4,_,_,eb ⟨zT,eb (eb ⟨⟨_,_,xZ⟩,yI,rfl,rfl,rfl⟩)⟩,rfl⟩⟩
   obtain⟨Y,hY⟩:=D6 P #[Ze,Zg F,Zg H,Zg (l+1),Zg (d),Yz b (eh m) tc,C3 V pn Z,Yz g2 (eh C+1) c2,Zc,Zg (l+1),Zc,Zc] 42;have bY:bs P.1.size P Y:=(by rw[hY];exact Zy);have t:Aa Y P.1.size [Ze,Zg F,Zg H,Zg (l+1),Zg (d),Yz b (eh m) tc,C3 V pn Z,Yz g2 (eh C+1) c2,Zc,Zg (l+1),Zc,Zc]:=L6;have yR:=Aa.A (v:=Ze) yA bY;have HY:=Yw hY;have zF:Hid (Tn (ej (C3 I (eh C) J)).toList w Y):=xE.ag (Tn.of bY);have xC:=Yw (Ah yG bY);have vG:P.1.size<Y.1.size:=t.lt;have yB:Tn (ej (C3 I (eh C) J)).toList w4 Y:=zM.ag (Tn.of bY);have xP:∀R,Tn [P.1.size,w.1.size+2] Y R->Tq O b F H l d zB m (C3 V pn Z) (C3 I (eh C) J) C j f w (.returned (ct #[Ze,Zg F,Zg H,Zg (l+1),Zg (d),Yz b (eh m) tc,C3 V pn Z,Yz g2 (eh C+1) c2,C4 SS,Zg (l+1),Zc,Zc])) R:=λR N=>by
    have tD:Bs R b 0 (m):=((rL.S yB yS (λe=>y.bL (Eq.symm (D2 e))) (λz T a n c e2 e3 zZ=>y.zL z T a n c e2 e3 (Eq.symm (D2 zZ)))).S N (Zr yS yB.size) Yt (λz T a n c e2 e3 zZ=>by simp at zZ;have:=y.z.cu T e2 e3;omega));have yT:g2≠P.1.size/\g2≠w.1.size+2:=by
     have M:=(Ac yG (g:=g2) rfl).2;rcases zH with zH|zH
     .have h4:=yF _ zH;omega
     omega
    have tB:=Ar xC (w':=R) (λq B=>N.block q (Ac xC B).2 (by
     have h3:g2=q:=(by simpa [ownBlock]using B);rw[<-h3];simp;exact yT))
    refine⟨?_,eb ⟨_,_,b,tc,m,g2,c2,zT,xZ,vZ,vX,by rw[hSS],rfl,tD,?_,dp ⟨rfl,rfl⟩,λz T=> dp T,(by rcases zH with h|h;exact dp h;exact eb Yv),by rw[hSS];exact tB,(by rcases zH with h|h;exact λe=>y.bL (by rw[h,e]);exact λe=>Yv),λz T a n c e2 e3 e=>by
     rcases zH with h|h
     .exact y.zL z T a n c e2 e3 (by rw[h,e])
     have:=y.z.cu T e2 e3;omega⟩⟩
    .exact⟨N.os.ag zF.os,N.tape.ag zF.tape,N.output.ag zF.output,Zm zF.size N.size,λq B hv=>(N.block q (Zr B zF.size) Yt).ag (zF.block q B hv)⟩
    exact Zr yS (Zm yB.size N.size)
   obtain⟨yQ,⟨⟨y0,q0⟩,⟨y1,q1⟩,⟨y2,q2⟩,⟨y3,q3⟩,⟨y4,q4⟩,⟨y5,q5⟩,⟨y6,q6⟩,⟨y7,q7⟩,⟨y8,q8⟩,⟨y9,q9⟩,⟨zO,yO⟩,zP,yP⟩,⟨u0,tH⟩,⟨u1,tI⟩,⟨u2,tJ⟩,⟨u3,tK⟩,⟨u4,tL⟩,⟨u5,tM⟩,⟨u6,tN⟩,⟨u7,tO⟩,⟨u8,tP⟩,u9,tQ⟩:=Yw xP,Bv yR,t 0 _ rfl,t 1 _ rfl,t 2 _ rfl,t 3 _ rfl,t 4 _ rfl,t 5 _ rfl,t 6 _ rfl,t 7 _ rfl,t 8 _ rfl,t 9 _ rfl;obtain⟨⟨tF,yW⟩,tG,yX⟩:=t 10 _ rfl,t 11 _ rfl;clear bY t yR hY yA zM xP yG yB;go_upto_region 30 with fail;rw[<-HY.o];clear HY;go_wp2;refine C1 (ct #[Ze,Zg F,Zg H,Zg (l+1),Zg (d),Yz b (eh m) tc,C3 V pn Z,Yz g2 (eh C+1) c2,C4 SS,Zg (l+1),Zc,Zc]) I1 ?_;refine yQ _ ?_
   repeat refine Tn.ag ?_ (Tn.set _ _ _ _ Yu)
   exact Tn.of Ae
 have rZ:=Ja hth;have xY:Hid (¬AA (m.map (·.1)) SS):=hth;generalize CC (m.map (·.1)) SS=fi at *
 have qZ:¬(0:Int)<=fi:=Yv;have tS:b<u.1.size:=Zr xK U.size;obtain⟨⟨v3,qN⟩,v4,qO⟩:=x0 3 _ rfl,x0 4 _ rfl;have xS:Hid (Zz w u):=U;by_cases S:eh m=600\/d=1000000000
 .have yI:Hid (eh m=600\/d=1000000000):=S;have⟨⟨y0,q0⟩,⟨y1,q1⟩,⟨y2,q2⟩,⟨y3,q3⟩,⟨y4,q4⟩,⟨y5,q5⟩,⟨y6,q6⟩,⟨y7,q7⟩,⟨y8,q8⟩,⟨y9,q9⟩,⟨zO,yO⟩,zP,yP⟩:=Bv x1;by_cases hf6:eh m=600
  .have B:(600:Int)<=(eh m:Int):=Yv;clear S hf6 x0 xe x1 U hZ N hth;go_wp2;refine C1 (ct (ei (Cr 4 ⟨#[]⟩ ⟨#[]⟩))) E9 ?_;exact⟨Tn.fresh (Tn.of xS) (BB u (w.1.size+2) _ _ _ _ _ _ _ _ _ _ _ _) Yv,dp ⟨4,_,_,eb ⟨zT,eb (dp ⟨hSS▸xY.o,by rw[B0];exact yI.o,rfl,rfl,rfl⟩)⟩,rfl⟩⟩
  have B:¬(600:Int)<=(eh m:Int):=Yv;have vJ:(1000000000:Int)<=d:=Yv;clear S hf6 x0 xe x1 U hZ N hth;go_wp2;refine C1 (ct (ei (Cr 4 ⟨#[]⟩ ⟨#[]⟩))) E9 ?_;exact⟨Tn.fresh (Tn.of xS) (BB u (w.1.size+2) _ _ _ _ _ _ _ _ _ _ _ _) Yv,dp ⟨4,_,_,eb ⟨zT,eb (dp ⟨hSS▸xY.o,by rw[B0];exact yI.o,rfl,rfl,rfl⟩)⟩,rfl⟩⟩
 have B:¬(600:Int)<=(eh m:Int):=Yv;have vJ:¬(1000000000:Int)<=d:=Dl y.b1;have qP:=y.b0;have pN:eh m<600:=Yv;have xZ:Hid (CJ F d (m.map (·.1)) j f (DP (m.map (·.1)) ⟨SS,d+1,j,f⟩) (d+1)):=by show CJ _ _ _ _ _ _ _;rw[<-hSS];exact eb ⟨hSS▸xY.o,by rw[B0];omega,Yv,rfl,rfl⟩
 have⟨X1,xI⟩:=D7 u (w.1.size) 3 (Zg (d+1));have⟨A,hA⟩:=D6 X1 #[] 78;have sV:Tn [w.1.size] u X1:=by rw[xI];exact AX _ _ _ _
 have bA:=(Ax hA).1;have tA:Tn [w.1.size] u A:=sV.ag (Tn.of bA);have pI:w.1.size+3<=u.1.size:=by have M:=zW.size;have h2:=vC.o;omega
 have yV:X1.1.size=u.1.size:=by rw[xI];simp
 have tC:A.1.size=u.1.size+1:=by rw[hA];simp[yV]
 have vD:bs w.1.size w A:=U.ag (tA.A U.size M9);have sA:Aa A w.1.size (Yh F H l (d+1) ta (eh m) tc V pn Z I (eh C) J):=by
  have M:Aa X1 w.1.size (Yh F H l (d+1) ta (eh m) tc V pn Z I (eh C) J):=by rw[xI];exact x0.set 3 _
  exact M.A bA
 have eA:Aa A (w.1.size+1) (Xz kd s nm zB j ra (eh f) rc):=Aa.same xe (tA.block _ xe.lt Yu);have rA:Aa A (w.1.size+2) z12:=Aa.same x1 (tA.block _ x1.lt Yu);have zA:Bs A b 0 m:=y.z.A vD y.bl;have oA:eo A u.1.size 78 4 (Yz u.1.size 0 0) 0 []:=by have M:=ownsRow_lit (base:=u.1.size) (e:=78) (size:=4) X1 #[] 0 Yv Yo rfl;rw[yV]at M;rw[hA];exact M
 have HA:Hid (A=(ev u (Zd (w.1.size) 3) (Zg (d+1))).alloc (ca #[] 78)):=by rw[<-xI];exact hA
 have vL:Hid (∀X,Zz A X->Aa X w.1.size (Yh F H l (d+1) ta (eh m) tc V pn Z I (eh C) J)/\Aa X (w.1.size+1) (Xz kd s nm zB j ra (eh f) rc)/\Aa X (w.1.size+2) z12/\Zz w X/\Bs X b 0 m/\Ab X X.1.size ra f):=λX Q=>by have hb:bs w.1.size w X:=vD.ag (Q.ai vD.size);exact⟨Aa.A sA Q,Aa.A eA Q,Aa.A (v:=Ze) rA Q,hb,y.z.A hb y.bl,Ab.ai (Ab.A y.r hb) hb.size⟩
 have HS:Hid (∀X,Zz A X->ek X (Zd (w.1.size) 3)=an (Zg (d+1))/\ek X (Zd (w.1.size+1) 4)=an (C4 j)/\ek X (Zd (w.1.size+1) 5)=an (C3 ra (eh f) rc)):=λX Q=>by have⟨M,h2,_⟩:=vL X Q;exact⟨(M 3 _ rfl).1,(h2 4 _ rfl).1,(h2 5 _ rfl).1⟩
 have yE:Hid (∀X,Zz A X->D8 84 #[ct #[C4 j,C3 ra (eh f) rc]] X λe w'=>∃g c,e=C5 (ct #[C4 j,Yz g (eh f) c])/\eo w' X.1.size 9 1 (Yz g (eh f) c) (eh f) (f.map string)/\Zz X w'):=λX Q=>Gz j rc (vL X Q).2.2.2.2.2 y.rn Yv;have D0:bs A.1.size A A.drew:=Ae.drew;have D1:∀o,Zz A (A.alloc o).drew:=λo=>(Zy).drew;have sB:=Yw oA;have rP:Hid (A.1.size=u.1.size+1):=tC;clear S x0 xe x1 U hZ N hth xI hA sV bA tA vD sA eA rA zA oA tC yV;go_upto_region 18 with fail;rw[<-HA.o];clear HA v3 v4 qN qO;go_cut [12] (λv wx=>∃(o p D:Nat),v=Yy o/\Hid (Aa wx o [C4 SS,Zg (d+1),C4 j,Yz p (eh f) D]/\eo wx A.1.size 9 1 (Yz p (eh f) D) (eh f) (f.map string)/\A.1.size<=o/\o≠p/\Zz A wx))
 case first=>
  obtain⟨⟨s3,s4,s5⟩,r3,r4,r5⟩:=HS A Ae,HS (A.alloc (ca #[Zc,Ze,Zc,Zb] 78)) (Zy)
  go_region_law (first
   |(go_simp;go_at_call 84;guard_target=~D8 84 _ (drew (alloc A _)) _;refine(yE (A.alloc (ca #[Zc,Ze,Zc,Zb] 78)).drew (D1 _)).ai ?_;rintro e w6 ⟨p,D,rfl,yL,vH⟩;have B1:bs A.1.size A w6:=(D1 _).ag (vH.ai Yu);have nA:Aa w6 A.1.size [Zc,Ze,Zc,Zb]:=(Aa.A (w:=A.alloc (ca #[Zc,Ze,Zc,Zb] 78)) (Aa.new A _ _) (BO vH));obtain⟨y0,q0⟩:=nA 0 _ rfl;obtain⟨y1,q1⟩:=nA 1 _ rfl;obtain⟨y2,q2⟩:=nA 2 _ rfl;obtain⟨y3,q3⟩:=nA 3 _ rfl;have⟨t3,t4,t5⟩:=HS w6 B1)
   |(go_simp;go_at_call 84;refine(yE A.drew D0).ai ?_;rintro e w6 ⟨p,D,rfl,yL,vH⟩;have nC:=yL;have B1:bs A.1.size A w6:=D0.ag vH;have⟨t3,t4,t5⟩:=HS w6 B1;obtain⟨z3,z4,z5⟩:=HS (w6.alloc (ca #[Zc,Ze,Zc,Zb] 78)) (B1.alloc B1.size _)))
  all_goals (go_wp2_with fail;go_meet)
  all_goals first
   |(have qL:=nA
     have l1:=Ac yL (g:=p) rfl;simp at l1;have xN:∀g,ej (Yz p (eh f) D)=an g->g≠A.1.size:=λg hg=>by simp[ownBlock]at hg;omega
     exact⟨A.1.size,p,D,rfl,Aff nA _ _ _ _,WZ (yL.ai Yu) xN _ _ _ _,Zx,Yv,Tr B1 (Zx) _ _ _ _⟩)
   |(have qL:=nC
     have l1:=Ac yL (g:=p) rfl;exact⟨w6.1.size,p,D,rfl,Aa.new w6 _ _,Ah (yL.ai Yu) (Zy),B1.size,Yv,B1.alloc B1.size _⟩)
 revert wc;intro wN hcut;obtain⟨o,p,D,rfl,HC⟩:=hcut;obtain⟨tC,vV,xG,qW,pE,vF⟩:=rP.o,HC.o;have qF:o<wN.1.size:=vV.lt;have qA:=Ac xG (g:=p) rfl;have pK:A.1.size<=wN.1.size:=vF.size;have⟨sN,eN,rN,vE,zN,_⟩:=vL wN vF;have rH:Hid (eo wN u.1.size 78 4 (Yz u.1.size 0 0) 0 []):=Ah sB vF;have HN:Hid (∀X,Tn [u.1.size] wN X->Aa X w.1.size (Yh F H l (d+1) ta (eh m) tc V pn Z I (eh C) J)/\Aa X (w.1.size+1) (Xz kd s nm zB j ra (eh f) rc)/\Aa X (w.1.size+2) z12/\Aa X o [C4 SS,Zg (d+1),C4 j,Yz p (eh f) D]/\Bs X b 0 m/\eo X A.1.size 9 1 (Yz p (eh f) D) (eh f) (f.map string)/\wN.1.size<=X.1.size/\Zz w X):=λX Q=>by
  refine⟨Aa.same sN (Q.block _ sN.lt Yt),Aa.same eN (Q.block _ eN.lt Yt),Aa.same rN (Q.block _ rN.lt Yt),Aa.same vV (Q.block _ qF Yt),zN.S Q (Zr xK vE.size) Yt (λz T a n c e2 e3 zZ=>by simp at zZ;have:=y.z.cu T e2 e3;omega),Ar xG (λq B=>Q.block q (Ac xG B).2 (by have:=(Ac xG B).1;simp;omega)),Q.size,?_⟩;exact vE.ag (Q.A vE.size M9)
 have rG:Hid (∀z∈m,z.1.sum≠SS):=λz T e=>xY ⟨z.1,mem_map.2 ⟨z,T,rfl⟩,e⟩;have rI:Hid ((m.map (·.1.sum)).Pairwise (λa b=>less a b=bg)):=by have:=y.ok.dz;rw[map_map]at this;exact this
 have qR:u.1.size<=wN.1.size:=Yv;have sF:Hid (A.1.size<=p/\p<wN.1.size):=qA;clear vV xG vF sN eN rN vE zN yE HS D0 D1 sB HC;go_wp2;go_loopw [10,11,13] (λv dn i wr=>∃(k g c:Nat),k<=eh m/\i=Zg k/\dn=.bool (zD (m.take k) SS)/\v=Yz g (eh (zQ (m.take k) ((⟨SS,d+1,j,f⟩,Yz p (eh f) D):Kd×Value))) c/\Hid (eo wr u.1.size 78 4 (Yz g (eh (zQ (m.take k) ((⟨SS,d+1,j,f⟩,Yz p (eh f) D):Kd×Value))) c) (eh (zQ (m.take k) ((⟨SS,d+1,j,f⟩,Yz p (eh f) D):Kd×Value))) (Ad kC (zQ (m.take k) ((⟨SS,d+1,j,f⟩,Yz p (eh f) D):Kd×Value)))/\(g=u.1.size\/wN.1.size<=g)/\Tn [u.1.size] wN wr)) (λ_ _ i _=>eh m -(intOf i).toNat)
 case atStart=>exact⟨0,u.1.size,0,Aq _,rfl,by simp[zD],by simp[zQ,zD],⟨by simpa [zQ,zD,Ad]using rH.o,dp rfl,Tn.of Ae⟩⟩
 obtain⟨k,g,c,hk,rfl,rfl,rfl,HI⟩:=hrel;have⟨sX,eX,rX,oX,zX,_,pM,_⟩:=HN wr HI.2.2;obtain⟨v4,_⟩:=sX 4 _ rfl;obtain⟨o0,o1,o2,o3⟩:=Aa.c4 oX 0 1 2 3;have qS:u.1.size<=wr.1.size:=Yv;by_cases hlt:k<eh m
 .obtain rfl:ta=an ⟨b,0,ba⟩:=y.tb.resolve_right (λe=>by rw[e]at hlt;simp at hlt);have HG:Hid (m[k]?=an m[k]):=Zv hlt;obtain⟨⟨c0,c1,c2,c3⟩,xQ,xR,xO,_⟩:=zX k _ HG;have vP:∀X,Tn [u.1.size] wN X->ek X (Zd b (k *4))=an (C4 m[k].1.sum)/\ek X (Zd b (k *4+1))=an (Zg m[k].1.born)/\ek X (Zd b (k *4+2))=an (C4 m[k].1.i)/\ek X (Zd b (k *4+3))=an m[k].2:=λX Q=>by have:=((HN X Q).2.2.2.2.1 k _ HG).1;simpa using this
  have xN:=rG _ (getElem_mem hlt);have pA:eh (zQ (m.take k) ((⟨SS,d+1,j,f⟩,Yz p (eh f) D):Kd×Value))<=1001:=by have:=Vo (m.take k) ((⟨SS,d+1,j,f⟩,Yz p (eh f) D):Kd×Value);rw[C0]at this;omega
  obtain⟨zC,yY,zS⟩:=Yw (WY ((⟨SS,d+1,j,f⟩,Yz p (eh f) D):Kd×Value) HG),Yw (Aed ((⟨SS,d+1,j,f⟩,Yz p (eh f) D):Kd×Value) HG),Yw (Aat ((⟨SS,d+1,j,f⟩,Yz p (eh f) D):Kd×Value) rI HG);have HD:Hid (zD (m.take (k+1)) SS=(zD (m.take k) SS|| !(less m[k].1.sum SS))):=KN SS HG;rw[Ay]at c0 c1 c2 c3;generalize hzk:m[k]=z at *
  obtain⟨x,zv⟩:=z;simp only at xO xN c0 c1 c2 c3 zC yY zS HD vP;subst xO;have vJ:(x.sum.toList==SS.toList)=bq:=BJ xN;generalize hGk:zQ (m.take k) ((⟨SS,d+1,j,f⟩,Yz p (eh f) D):Kd×Value)=gk at *
  generalize hDk:zD (m.take k) SS=dk at *
  have rD:=Yw vP;have pD:b<wr.1.size:=Yv
  obtain⟨tE,yJ,L⟩:=HI.1,HI.2.1,HI.2.2;clear hzk hGk hDk vP xN oX sX eX rX zX;cases dk with
  |true=>
   have HE:=Yw (zS rfl);have yZ:Hid (zD (m.take (k+1)) SS=bg):=(by show _=_;rw[HD.o];rfl);clear zC yY zS HI;obtain⟨K,G,wa,zK,zJ,E,zI⟩:=Mu wr u.1.size (Yz g (eh gk) c) gk tE (x,C3 (an xQ) (eh x.D) xR) ⟨_,_,_,rfl⟩ Yl (Dl L.size) 26;have zG:Tn [u.1.size] wN wa:=⟨E.os.ag L.os,E.tape.ag L.tape,E.output.ag L.output,Zm L.size E.size,λq B hv=>(E.block q (Zr B L.size) (λe=>by simp[ownBlock]at e;simp at hv;rcases yJ with h|h<;>omega)).ag (L.block q B hv)⟩;have zY:K=u.1.size\/wN.1.size<=K:=by
    rcases zI with h|h
    .simp[ownBlock]at h;rw[<-h];exact yJ
    have:=L.size;omega
   have yD:=zJ;clear zJ E zI;go_wp2_with (at_builtin;refine wpList_append_run rfl _ _ 26 26 rfl rfl rfl zK ?_);clear zK;have HO:=Yw (Zn yD (Zn zY zG));clear yD zY zG;go_wp2;exact⟨⟨k+1,K,G,Yv,Yn,by rw[yZ.o],by rw[HE.o];simp,⟨by rw[HE.o];simpa using HO.1,HO.2⟩⟩,Ys⟩
  |false=>
   cases hless:Op.bytesLess x.sum.toList SS.toList with
   |true=>
    have HE:=Yw (zC rfl hless);have yZ:Hid (zD (m.take (k+1)) SS=bq):=Hh;clear zC yY zS HI;obtain⟨K,G,wa,zK,zJ,E,zI⟩:=Mu wr u.1.size (Yz g (eh gk) c) gk tE (x,C3 (an xQ) (eh x.D) xR) ⟨_,_,_,rfl⟩ Yl (Dl L.size) 26;have zG:Tn [u.1.size] wN wa:=⟨E.os.ag L.os,E.tape.ag L.tape,E.output.ag L.output,Zm L.size E.size,λq B hv=>(E.block q (Zr B L.size) (λe=>by simp[ownBlock]at e;simp at hv;rcases yJ with h|h<;>omega)).ag (L.block q B hv)⟩;have zY:K=u.1.size\/wN.1.size<=K:=by
     rcases zI with h|h
     .simp[ownBlock]at h;rw[<-h];exact yJ
     have:=L.size;omega
    have yD:=zJ;clear zJ E zI;go_wp2_with (at_builtin;refine wpList_append_run rfl _ _ 26 26 rfl rfl rfl zK ?_);clear zK;have HO:=Yw (Zn yD (Zn zY zG));clear yD zY zG;go_wp2;exact⟨⟨k+1,K,G,Yv,Yn,by rw[yZ.o],by rw[HE.o];simp,⟨by rw[HE.o];simpa using HO.1,HO.2⟩⟩,Ys⟩
   |false=>
    have HE:=Yw (yY rfl hless);have yZ:Hid (zD (m.take (k+1)) SS=bg):=Hh;clear zC yY zS HI;obtain⟨K,G,wa,zK,zJ,E,zI⟩:=Mu wr u.1.size (Yz g (eh gk) c) gk tE (⟨SS,d+1,j,f⟩,Yz p (eh f) D) ⟨_,_,_,rfl⟩ Yl (Dl L.size) 26;have zG:Tn [u.1.size] wN wa:=⟨E.os.ag L.os,E.tape.ag L.tape,E.output.ag L.output,Zm L.size E.size,λq B hv=>(E.block q (Zr B L.size) (λe=>by simp[ownBlock]at e;simp at hv;rcases yJ with h|h<;>omega)).ag (L.block q B hv)⟩;have zY:K=u.1.size\/wN.1.size<=K:=by
     rcases zI with h|h
     .simp[ownBlock]at h;rw[<-h];exact yJ
     have:=L.size;omega
    have yD:=zJ;clear zJ E zI;have⟨sU,_,_,_,_,_,qT,_⟩:=HN wa zG;obtain⟨⟨qM,_⟩,rR,rT,rU,rV⟩:=sU 4 _ rfl,rD wa zG;have qQ:b<wa.1.size:=Yv;obtain⟨g9,tR,wb,xX,xW,zU,xV⟩:=Mu wa u.1.size (Yz K (eh gk+1) G) (gk++[((⟨SS,d+1,j,f⟩,Yz p (eh f) D):Kd×Value)]) yD (x,C3 (an xQ) (eh x.D) xR) ⟨_,_,_,rfl⟩ Yl (Dl zG.size) 26;have sW:Tn [u.1.size] wN wb:=⟨zU.os.ag zG.os,zU.tape.ag zG.tape,zU.output.ag zG.output,Zm zG.size zU.size,λq B hv=>(zU.block q (Zr B zG.size) (λe=>by simp[ownBlock]at e;simp at hv;rcases zY with h|h<;>omega)).ag (zG.block q B hv)⟩;have sG:g9=u.1.size\/wN.1.size<=g9:=by
     rcases xV with h|h
     .simp[ownBlock]at h;rw[<-h];exact zY
     have:=zG.size;omega
    have sT:=xW;clear xW zU xV;clear sU;go_wp2_with (first|(at_builtin;refine wpList_append_run rfl _ _ 26 26 rfl rfl rfl zK ?_)|(at_builtin;refine wpList_append_run rfl _ _ 26 26 rfl rfl rfl xX ?_));clear zK xX c0 c1 c2 c3 v4 o0 o1 o2 o3 qM rR rT rU rV;have HO:=Yw (Zn sT (Zn sG sW));clear sT sG sW yD zY zG;try go_wp2
    exact⟨⟨k+1,g9,tR,Yv,Yn,by rw[yZ.o],by rw[HE.o];simp,⟨by rw[HE.o];simpa using HO.1,HO.2⟩⟩,Ys⟩
 obtain rfl:k=eh m:=Yv;have hO:=HI.1;rw[Zt (Zx)]at hO |-;have hG:=HI.2.1;have hT:=HI.2.2;cases hDn:zD m SS
 case' true=>
  have xH:=Acu (((⟨SS,d+1,j,f⟩,Yz p (eh f) D):Kd×Value)) hDn;rw[xH]at hO |-;have sI:=hT;have xF:=hO;have tZ:Hid (w.1.size<=g):=by show _<=_;rcases hG with h|h<;>omega
  clear o0 o1 o2 o3;obtain⟨K,rfl⟩:=Ag g;obtain⟨G,rfl⟩:=Ag c;obtain⟨w8,rfl⟩:=Ag wr
 case' false=>
  have qX:=Vo m (((⟨SS,d+1,j,f⟩,Yz p (eh f) D):Kd×Value));have xH:=Aee (((⟨SS,d+1,j,f⟩,Yz p (eh f) D):Kd×Value)) hDn;obtain⟨K,G,w8,sP,vI,yK,sL⟩:=Mu wr u.1.size (Yz g (eh (zQ m (((⟨SS,d+1,j,f⟩,Yz p (eh f) D):Kd×Value)))) c) (zQ m (((⟨SS,d+1,j,f⟩,Yz p (eh f) D):Kd×Value))) hO (((⟨SS,d+1,j,f⟩,Yz p (eh f) D):Kd×Value)) ⟨_,_,_,rfl⟩ Yv (Dl hT.size) 26;have sI:Tn [u.1.size] wN w8:=⟨yK.os.ag hT.os,yK.tape.ag hT.tape,yK.output.ag hT.output,Zm hT.size yK.size,λq B hv=>(yK.block q (Zr B hT.size) (λe=>by simp[ownBlock]at e;simp at hv;rcases hG with h|h<;>omega)).ag (hT.block q B hv)⟩;have vS:Hid (eh (CR m (((⟨SS,d+1,j,f⟩,Yz p (eh f) D):Kd×Value)))=eh (zQ m (((⟨SS,d+1,j,f⟩,Yz p (eh f) D):Kd×Value)))+1):=by show _=_;rw[<-xH];simp
  rw[xH]at vI;have xF:eo w8 u.1.size 78 4 (Yz K (eh (CR m (((⟨SS,d+1,j,f⟩,Yz p (eh f) D):Kd×Value)))) G) (eh (CR m (((⟨SS,d+1,j,f⟩,Yz p (eh f) D):Kd×Value)))) (Ad kC (CR m (((⟨SS,d+1,j,f⟩,Yz p (eh f) D):Kd×Value)))):=by rw[vS.o];rw[vS.o]at vI;exact vI
  rw[<-vS.o]at sP;have tZ:Hid (w.1.size<=K):=by
   show _<=_;rcases sL with h|h
   .have h2:g=K:=(by simpa [ownBlock]using h);rcases hG with h3|h3<;>omega
   have:=hT.size;omega
  clear vI yK sL
 all_goals
  have⟨sE,eE,rE,_,zE,vK,pJ,bE⟩:=HN w8 sI;obtain⟨⟨_,qV⟩,X,Q⟩:=sE 4 _ rfl,D7 w8 (w.1.size) 4 (Yz K (eh (CR m ((⟨SS,d+1,j,f⟩,Yz p (eh f) D):Kd×Value))) G);have tX:Tn [w.1.size] w8 X:=by rw[Q];exact AX _ _ _ _
  have sC:=Yw Q;have vN:Hid (Aa X w.1.size (Yh F H l (d+1) (an ⟨K,0,ba⟩) (eh (CR m ((⟨SS,d+1,j,f⟩,Yz p (eh f) D):Kd×Value))) G V pn Z I (eh C) J)):=by show Aa _ _ _;rw[Q];exact sE.set 4 _
  have vQ:=Yw (Aa.same eE (tX.block _ eE.lt Yu));have xD:Hid (Aa X (w.1.size+2) z12):=Aa.same rE (tX.block _ rE.lt Yu);have bX:bs w.1.size w X:=bE.ag (tX.A bE.size M9);have vR:Hid (eo X O 83 3 (C3 I (eh C) J) (eh C) (Ad lC C)):=Ah y.lo bX;have qY:w8.1.size<=X.1.size:=tX.size;have xM:w.1.size+3<=X.1.size:=Yv;have vU:Hid (Tn (ej (C3 I (eh C) J)).toList w X):=Tn.of bX;have oE:eo X u.1.size 78 4 (Yz K (eh (CR m ((⟨SS,d+1,j,f⟩,Yz p (eh f) D):Kd×Value))) G) (eh (CR m ((⟨SS,d+1,j,f⟩,Yz p (eh f) D):Kd×Value))) (Ad kC (CR m ((⟨SS,d+1,j,f⟩,Yz p (eh f) D):Kd×Value))):=Ar xF (λq B=>tX.block q (Ac xF B).2 (by have:=(Ac xF B).1;simp;omega));have yH:eo X A.1.size 9 1 (Yz p (eh f) D) (eh f) (f.map string):=Ar vK (λq B=>tX.block q (Ac vK B).2 (by have:=(Ac vK B).1;simp;omega));have sY:Bs X b 0 m:=y.z.A bX y.bl;have qB:K<X.1.size:=(Ac oE (g:=K) rfl).2;have xU:∀g,ej (C3 I (eh C) J)=an g->g<w.1.size:=λg hg=>(Ac y.lo hg).2;have rM:Hid (∀(Y R:Zh) (n5:Nat),X.1.size<=n5->Tn (ej (C3 I (eh C) J)).toList X Y->Tn [n5,w.1.size+2] Y R->Bs R K 0 (CR m ((⟨SS,d+1,j,f⟩,Yz p (eh f) D):Kd×Value))):=λY R n5 h5 hY N=>by
   have sO:=Ar oE (w':=Y) (λq B=>hY.block q (Ac oE B).2 (λe=>by have M:=xU q (D2 e);have h2:=(Ac oE B).1;omega));have qG:=Ar sO (w':=R) (λq B=>N.block q (Ac sO B).2 (by have M:=(Ac oE B).1;have h2:=(Ac oE B).2;simp;omega));have sQ:=Ar yH (w':=Y) (λq B=>hY.block q (Ac yH B).2 (λe=>by have M:=xU q (D2 e);have h2:=(Ac yH B).1;omega));have qH:=Ar sQ (w':=R) (λq B=>N.block q (Ac sQ B).2 (by have M:=(Ac yH B).1;have h2:=(Ac yH B).2;simp;omega));have sK:b<X.1.size:=Zr xK bX.size;have zR:=(sY.S hY sK (λe=>y.bL (Eq.symm (D2 e))) (λz T a n c e2 e3 zZ=>y.zL z T a n c e2 e3 (Eq.symm (D2 zZ)))).S N (Zr sK hY.size) Yt (λz T a n c e2 e3 zZ=>by simp at zZ;have:=y.z.cu T e2 e3;omega);refine Bs.own qG (λz T=> ?_);rcases LD T with T|rfl
   .obtain⟨i,hi⟩:=A9 T;have⟨_,rQ,qK,e4,rW⟩:=zR i z hi;exact⟨rQ,qK,e4,rW⟩
   have tT:Ab R R.1.size (an ⟨p,0,ba⟩) f:=(by have M:eo R A.1.size 9 1 (Yz p (eh f) D) (eh f) (f.map string):=qH;exact Ab.own M);exact⟨⟨p,0,ba⟩,D,rfl,tT⟩
  have sD:Hid (CJ F d (m.map (·.1)) j f ((CR m ((⟨SS,d+1,j,f⟩,Yz p (eh f) D):Kd×Value)).map (·.1)) (d+1)):=by show CJ _ _ _ _ _ _ _;rw[WX];exact xZ.o
  have xT:Hid (w.1.size<K/\K<X.1.size/\w.1.size<p/\p<X.1.size):=by
   have M:u.1.size<=K/\K<X.1.size:=Ac oE (g:=K) rfl;have h2:A.1.size<=p/\p<X.1.size:=Ac yH (g:=p) rfl;have h3:=sF.1;have h4:w.1.size+3<=u.1.size:=(by have M:=zW.size;have h2:=vC.o;omega);exact⟨Yv,M.2,Yv,h2.2⟩
  have rO:Hid (∀z∈CR m ((⟨SS,d+1,j,f⟩,Yz p (eh f) D):Kd×Value),z∈m\/∃ad n rc,z.2=C3 (an ad) n rc/\w.1.size<=ad.block):=λz T=>by
   rcases LD T with T|rfl
   .exact dp T
   exact eb ⟨⟨p,0,ba⟩,_,_,rfl,by have:=sF.1;show w.1.size<=p;omega⟩
  clear hDn xH Q tX sE eE rE zE vK oE yH sY bE bX hO xF HI;go_upto_region 29 with(at_builtin;refine wpList_append_run rfl _ _ 26 26 rfl rfl rfl sP ?_);rw[<-sC.o];clear sC;have xB:=Yw (IP F H l (d+1) (an ⟨K,0,ba⟩) V I (eh (CR m ((⟨SS,d+1,j,f⟩,Yz p (eh f) D):Kd×Value))) G pn Z J C SS zB vR (Zm y.lb (Zm (Nat.le_add_right _ 3) xM)) (Dl y.nl) y.g0 y.g1 y.n0 y.n1 y.t0 y.t1);obtain⟨⟨l0,l1,l2,l3,l4,l5,l6⟩,m3,_⟩:=Aa.c7 vN 0 1 2 3 4 5 6,vQ 3 _ rfl;go_wp2_with fail;refine xB.Aj ?_;rintro e P ⟨zM,yU⟩;have yF:∀g,ej (C3 I (eh C) J)=an g->g<w.1.size:=λg hg=>(Ac y.lo hg).2;have yA:Aa P (w.1.size+2) z12:=Aa.same xD (zM.block _ xD.lt (λe=>by have:=yF _ (D2 e);omega));have qE:w.1.size+3<=P.1.size:=Zm xM zM.size;have xE:Hid (Tn (ej (C3 I (eh C) J)).toList w P):=vU.ag zM;clear l0 l1 l2 l3 l4 l5 l6 m3 xB;obtain⟨S,rfl⟩|⟨⟨vZ,vX⟩,g2,c2,rfl,yG,zH⟩:=yU
  .obtain⟨Y,hY⟩:=D6 P (Yc 4) 42;have bY:bs P.1.size P Y:=(by rw[hY];exact Zy);have t:Aa Y P.1.size (Xr 4):=L6;have yR:=Aa.A (v:=Ze) yA bY;have HY:=Yw hY;have zF:Hid (Tn (ej (C3 I (eh C) J)).toList w Y):=xE.ag (Tn.of bY);have yI:Hid (eh C=200\/l=1000000000):=(by have M:=y.nl;have h2:=y.g1;show _\/_;omega);obtain⟨⟨⟨y0,q0⟩,⟨y1,q1⟩,⟨y2,q2⟩,⟨y3,q3⟩,⟨y4,q4⟩,⟨y5,q5⟩,⟨y6,q6⟩,⟨y7,q7⟩,⟨y8,q8⟩,⟨y9,q9⟩,⟨zO,yO⟩,zP,yP⟩,⟨u0,tH⟩,⟨u1,tI⟩,⟨u2,tJ⟩,⟨u3,tK⟩,⟨u4,tL⟩,⟨u5,tM⟩,⟨u6,tN⟩,⟨u7,tO⟩,⟨u8,tP⟩,u9,tQ⟩:=Bv yR,t 0 _ rfl,t 1 _ rfl,t 2 _ rfl,t 3 _ rfl,t 4 _ rfl,t 5 _ rfl,t 6 _ rfl,t 7 _ rfl,t 8 _ rfl,t 9 _ rfl;obtain⟨⟨tF,yW⟩,tG,yX⟩:=t 10 _ rfl,t 11 _ rfl;clear bY t yR hY yA zM S;go_upto_region 30 with fail;rw[<-HY.o];clear HY;go_wp2;refine C1 (ct (ei (Cr 4 ⟨#[]⟩ ⟨#[]⟩))) E9 ?_;exact⟨Tn.fresh zF (BB Y (w.1.size+2) _ _ _ _ _ _ _ _ _ _ _ _) Yv,dp ⟨4,_,_,eb ⟨zT,eb (eb ⟨⟨_,_,sD⟩,yI,rfl,rfl,rfl⟩)⟩,rfl⟩⟩
  obtain⟨Y,hY⟩:=D6 P #[Ze,Zg F,Zg H,Zg (l+1),Zg (d+1),Yz K (eh (CR m ((⟨SS,d+1,j,f⟩,Yz p (eh f) D):Kd×Value))) G,C3 V pn Z,Yz g2 (eh C+1) c2,Zc,Zg (l+1),Zc,Zc] 42;have bY:bs P.1.size P Y:=by rw[hY];exact Zy
  have t:Aa Y P.1.size [Ze,Zg F,Zg H,Zg (l+1),Zg (d+1),Yz K (eh (CR m ((⟨SS,d+1,j,f⟩,Yz p (eh f) D):Kd×Value))) G,C3 V pn Z,Yz g2 (eh C+1) c2,Zc,Zg (l+1),Zc,Zc]:=L6;have yR:=Aa.A (v:=Ze) yA bY;have HY:=Yw hY;have zF:Hid (Tn (ej (C3 I (eh C) J)).toList w Y):=xE.ag (Tn.of bY);have xC:=Yw (Ah yG bY);have vG:P.1.size<Y.1.size:=t.lt;have yB:Tn (ej (C3 I (eh C) J)).toList X Y:=zM.ag (Tn.of bY);have xP:∀R,Tn [P.1.size,w.1.size+2] Y R->Tq O b F H l d zB m (C3 V pn Z) (C3 I (eh C) J) C j f w (.returned (ct #[Ze,Zg F,Zg H,Zg (l+1),Zg (d+1),Yz K (eh (CR m ((⟨SS,d+1,j,f⟩,Yz p (eh f) D):Kd×Value))) G,C3 V pn Z,Yz g2 (eh C+1) c2,C4 SS,Zg (l+1),Zc,Zc])) R:=λR N=>by
   have tD:Bs R K 0 (CR m ((⟨SS,d+1,j,f⟩,Yz p (eh f) D):Kd×Value)):=rM Y R _ zM.size yB N;have yT:g2≠P.1.size/\g2≠w.1.size+2:=by
    have M:=(Ac yG (g:=g2) rfl).2;rcases zH with zH|zH
    .have h4:=yF _ zH;omega
    omega
   have tB:=Ar xC (w':=R) (λq B=>N.block q (Ac xC B).2 (by
    have h3:g2=q:=(by simpa [ownBlock]using B);rw[<-h3];simp;exact yT))
   refine⟨?_,eb ⟨_,_,K,G,CR m ((⟨SS,d+1,j,f⟩,Yz p (eh f) D):Kd×Value),g2,c2,zT,sD,vZ,vX,by rw[hSS],rfl,tD,?_,eb tZ,rO,(by rcases zH with h|h;exact dp h;exact eb Yv),by rw[hSS];exact tB,(by have h0:=xT.o;rcases zH with h|h;(have M:=yF _ h;omega);omega),λz T a n c e2 e3 e=>by
    have h0:=xT.o;rcases LD T with T|rfl
    .rcases zH with h|h
     .exact y.zL z T a n c e2 e3 (by rw[h,e])
     have:=y.z.cu T e2 e3;omega
    cases e2;have e':p=g2:=e;rcases zH with h|h
    .have M:=yF _ h;omega
    omega⟩⟩
   .exact⟨N.os.ag zF.os,N.tape.ag zF.tape,N.output.ag zF.output,Zm zF.size N.size,λq B hv=>(N.block q (Zr B zF.size) Yt).ag (zF.block q B hv)⟩
   exact Zr qB (Zm yB.size N.size)
  obtain⟨yQ,⟨⟨y0,q0⟩,⟨y1,q1⟩,⟨y2,q2⟩,⟨y3,q3⟩,⟨y4,q4⟩,⟨y5,q5⟩,⟨y6,q6⟩,⟨y7,q7⟩,⟨y8,q8⟩,⟨y9,q9⟩,⟨zO,yO⟩,zP,yP⟩,⟨u0,tH⟩,⟨u1,tI⟩,⟨u2,tJ⟩,⟨u3,tK⟩,⟨u4,tL⟩,⟨u5,tM⟩,⟨u6,tN⟩,⟨u7,tO⟩,⟨u8,tP⟩,u9,tQ⟩:=Yw xP,Bv yR,t 0 _ rfl,t 1 _ rfl,t 2 _ rfl,t 3 _ rfl,t 4 _ rfl,t 5 _ rfl,t 6 _ rfl,t 7 _ rfl,t 8 _ rfl,t 9 _ rfl;obtain⟨⟨tF,yW⟩,tG,yX⟩:=t 10 _ rfl,t 11 _ rfl;clear bY t yR hY yA zM xP yG yB;go_upto_region 30 with fail;rw[<-HY.o];clear HY;go_wp2;refine C1 (ct #[Ze,Zg F,Zg H,Zg (l+1),Zg (d+1),Yz K (eh (CR m ((⟨SS,d+1,j,f⟩,Yz p (eh f) D):Kd×Value))) G,C3 V pn Z,Yz g2 (eh C+1) c2,C4 SS,Zg (l+1),Zc,Zc]) I1 ?_;refine yQ _ ?_
  repeat refine Tn.ag ?_ (Tn.set _ _ _ _ Yu)
  exact Tn.of Ae
theorem Rf(d:Nat)(V:List Nat)(p:Int)(s q x:Zi)(m:Int)(r:Zk)(u t:Nat)(E:Int->Zi->Zi->Prop)(z:Zi->Int->Zh->Prop)(w:Zh)(A:∀b∈V,b<w.1.size)(l:∀i g X k R n,z i g X->X.1[R]?=an (ca n 42)->w.1.size<=R->Tn [R] X k->z i g k)(h:∀X,Zz w X->D8 97 #[Yy d,ct (Ye p s q m x r u t)] X fun e j=>(∃c a b,E c a b/\e=.panicked [{v:=Cq c a b,recovered:=bq}]/\Tn V X j)\/(∃i g,e=C5 (ct #[Ze,Ze,Ze,Ze,Ze,Zb,Zb,Zb,C4 i,Zg g,Zc,Zc])/\z i g j/\Tn V X j)):
 D8 55 #[Yy d,ct (Ye p s q m x r u t)] w fun e j=>(∃c a b,E c a b/\e=C5 (ct (ei (Cr c a b)))/\Tn V w j)\/(∃i g,e=C5 (ct #[Ze,Ze,Ze,Ze,Ze,Zb,Zb,Zb,C4 i,Zg g,Zc,Zc])/\z i g j/\Tn V w j):=by
 suffices hs:∀Q:Ending->Zh->Prop,(∀c a b j,E c a b->Tn V w j->Q (.returned (ct (ei (Cr c a b)))) j)->(∀i g j,z i g j->Tn V w j->Q (.returned (ct #[Ze,Ze,Ze,Ze,Ze,Zb,Zb,Zb,C4 i,Zg g,Zc,Zc])) j)->D8 55 #[Yy d,ct (Ye p s q m x r u t)] w Q from
  hs _ (fun c a b j o k=> dp ⟨c,a,b,o,rfl,k⟩) (fun i g j o k=> eb ⟨i,g,rfl,o,k⟩)
 intro Q R X;obtain⟨U,Y,W,k⟩:=Yw R,Yw X,Ag ((w.alloc (ca (Ye p s q m x r u t) 91)).alloc (ca Yd 42));obtain⟨y,D,B⟩:=(AQ k).1,(AQ k).2.1,(AQ k).2.2.1;have zR:Aa W (w.1.size+1) z12:=by have o:=Aa.new (w.alloc (ca (Ye p s q m x r u t) 91)) z12 42;rw[Ao]at o;rw[k];exact o
 have C:W.1[w.1.size+1]?=an (ca Yd 42):=by have:=heap_alloc_new (w.alloc (ca (Ye p s q m x r u t) 91)) (ca Yd 42);rw[Ao]at this;rw[k];exact this
 obtain⟨⟨e0,e1,e2,e3,e4,e5⟩,HC,HW⟩:=Aa.c6 B 0 1 2 3 4 5,Yw (h W y),Yw k;have n:Hid (Aa W (w.1.size+1) z12/\W.1[w.1.size+1]?=an (ca Yd 42)/\Zz w W/\W.1.size=w.1.size+2):=gB;have HV:=Yw A;have Z:=Yw l;clear k zR D B h C y A l
 go_enter_defers func55,ntmps55
 go_upto_region 1 with fail;rw[<-HW.o];go_wp2_with fail;refine HC.Aj ?_;intro e T zB;have zz:=n.2.2.2;have A:w.1.size+1∉V:=fun h=>by have:=HV _ h;omega
 obtain⟨c,a,b,zC,rfl,l⟩|⟨i,g,rfl,hy,l⟩:=zB
 .have D:=Aa.same n.1 (l.block _ Yv A);refine leaves_cons (f:=96) (args:= #[Yy (w.1.size+1)]) Yu N9 ?_;refine(QI c a b D).mono ?_;rintro e u' j ⟨rfl,rfl,k,ht⟩;obtain⟨G,H,I,J,K,L,M,N⟩:=(k 0 _ rfl).1,(k 1 _ rfl).1,(k 2 _ rfl).1,(k 3 _ rfl).1,(k 4 _ rfl).1,(k 5 _ rfl).1,(k 6 _ rfl).1,(k 7 _ rfl).1;obtain⟨O,P,B,C⟩:=(k 8 _ rfl).1,(k 9 _ rfl).1,(k 10 _ rfl).1,(k 11 _ rfl).1;have y:Hid (E c a b/\Tn V w j):=⟨zC,Tn.fresh ((Tn.of n.2.2.1).trans l) ht Yv⟩;simp[Leaves,settle,results,results55,go_sem,G,H,I,J,K,L,M,N,O,P,B,C];exact U c a b _ y.1 y.2
 have D:=Aa.same n.1 (l.block _ Yv A);have zA:=(l.block _ Yv A).trans n.2.1;obtain⟨F,⟨G,q0⟩,⟨H,q1⟩,⟨I,q2⟩,⟨J,q3⟩,⟨K,q4⟩,⟨L,q5⟩,⟨M,q6⟩,⟨N,q7⟩,⟨O,q8⟩,⟨P,q9⟩,⟨B,zE⟩,C,zF⟩:=Yw (Zn hy (Zn l zA)),Bv D;go_wp2;refine leaves_cons (f:=96) (args:= #[Yy (w.1.size+1)]) Yu N9 ?_;refine(St ⟨w.1.size+1,0,ba⟩ _).mono ?_;rintro e u' j ⟨rfl,rfl,rfl⟩;have S:=Yw (BB T (w.1.size+1) Ze Ze Ze Ze Ze Zb Zb Zb (C4 i) (Zg g) Zc Zc);have y:=Yw (Zn (Z i g _ _ _ _ F.1 F.2.2 Yv S) (Tn.fresh ((Tn.of n.2.2.1).trans F.2.1) S Yv));simp[Leaves,settle,results,results55,go_sem,G,H,I,J,K,L,M,N,O,P,B,C];exact Y i g _ y.1 y.2
def Acv(ks:List Kd)(ps:List Pd)(ls:List Ld):Nat:=eh ks *3+YA ks+eh ps *2+eh ls *3
theorem Be.A{f:Zh}{T:D4}{e:Zj}{b:C9}{d:Db}{c:Da}(h:Be w base T P L e b d c)(a:Zz w f):Be f base T P L e b d c:=
 ⟨h.len,Ah h.ak a,λi k r g j=>Ah (h.D i k r g j) a,Ah h.pins a,Ah h.ax a,h.nd⟩
theorem Nf(o f c b:Int){a:Zk}(p l:Zk)(n m k j i:Nat){d:C9}(s:Zi)(q:Br w w.1.size a d)(S:eh d<=1000)(r:¬AA d s):
 D8 83 #[ct (Yg o f c b a (eh d) n p m k l j i),C4 s] w λe g=>e=C5 (ct (ei (Cr 2 ⟨#[]⟩ ⟨#[]⟩)))/\Zz w g:=by
 have⟨W,g⟩:=Ag ((w.alloc (ca (Yg o f c b a (eh d) n p m k l j i) 30)).alloc (ca Yd 42));have h:=(AQ g).1;have y:=(AQ g).2.2.1;have z:Aa W (w.1.size+1) z12:=by have x:=Aa.new (w.alloc (ca (Yg o f c b a (eh d) n p m k l j i) 30)) z12 42;rw[Ao]at x;rw[g];exact x
 obtain⟨t,R,u,A,v0,B,C,D,E,F,G,H⟩:=Yw (Dt o f c b a n (C3 p m k) (C3 l j i) d s W w.1.size (Br.A q h) h.size Yv),Ja r,Yw g,Yw z,Bi y;clear g y z q r;delta D8;go_in;go_upto_region 1 with fail;rw[<-u.o];clear u;go_wp2_with fail;refine t.Aj ?_;rintro e y ⟨rfl,g⟩;obtain⟨⟨z,V⟩,⟨I,X⟩,⟨J,Y⟩,⟨K,Z⟩,⟨L,q4⟩,⟨M,q5⟩,⟨N,q6⟩,⟨O,q7⟩,⟨P,q8⟩,⟨Q,q9⟩,⟨r,T⟩,u,U⟩:=Bv (Aa.A (v:=Ze) A g);have q:=h.ag (g.ai h.size);generalize CC d s=fi at *
 clear v0 B C D E F G H t;go_wp2;refine C1 (ct (ei (Cr 2 ⟨#[]⟩ ⟨#[]⟩))) (by simp[results,results83,go_sem,z,I,J,K,L,M,N,O,P,Q,r,u,Cr]) ?_;exact⟨rfl,q.ag (Tn.A (BB y (w.1.size+1) _ _ _ _ _ _ _ _ _ _ _ _) q.size gA)⟩
