import Derived.Test.YtdofmfnmackjhaaGreatDoorX24
import Derived.Test.YtdofmfnmackjhaaGreatDoorX13
set_option maxRecDepth 100000
set_option maxHeartbeats 16000000
namespace Go.Proofs.YtdofmfnmackjhaaGreatDoor
open ChangeShapes WideShapes ChangeAt RowKit _root_.Go.Proofs.Tryz List World Value
variable{w:Zh}{b n:Nat}
def Tk(lbase b0:Nat)(wd now given births num:Int)(zs:List (Kd×Value))(P L:Value)(ls:List Ld)(text:Zi)(refs:Zl)(w:Zh)(e:Ending)(w':Zh):Prop:=
 Tn L.ownBlock.toList w w'/\(
  (∃c a b,Gk wd given births (zs.map (·.1)) ls text refs c a b/\e=.returned (.agg (BE c a b).toArray))\/
  (∃ks1 ai g gc zs1 g2 c2,(∀r∈refs,Am (zs.map (·.1)) r)/\CA wd births (zs.map (·.1)) text refs ks1 ai/\ls.length<200/\given<1000000000/\
    e=.returned (.agg #[Ze,Zg wd,Zg now,Zg (given+1),Zg ai,.slice (some ⟨g,0,none⟩) zs1.length gc,P,.slice (some ⟨g2,0,none⟩) (ls.length+1) c2,.string (AX text refs wd),Zg (given+1),Zc,Zc])/\
    zs1.map (·.1)=ks1/\Bm w' g 0 zs1/\g<w'.1.size/\((g=b0/\zs1=zs)\/w.1.size<=g)/\(∀z∈zs1,z∈zs\/∃ad n rc,z.2=.slice (some ad) n rc/\w.1.size<=ad.block)/\(L.ownBlock=some g2\/w.1.size<=g2)/\w'.ownsRow lbase 73 3 (.slice (some ⟨g2,0,none⟩) (ls.length+1) c2) (ls++[(⟨given+1,AX text refs wd,now+num⟩:Ld)]).length (Ab lC (ls++[(⟨given+1,AX text refs wd,now+num⟩:Ld)]))/\g≠g2/\∀z∈zs1,∀ad n rc,z.2=.slice (some ad) n rc->z.1.B≠[]->ad.block≠g2))
theorem Bm.K{t:Zh}{m:Nat}{u:List (Kd×Value)}{V:List Nat}(h:Bm w b m u)(q:Tn V w t)(F:b<w.1.size)(E:b∉V)(H:∀z∈u,∀d n r,z.2=C3 (some d) n r->z.1.B≠[]->d.block∉V):Bm t b m u:=by
 intro i z l;have⟨⟨A,B,C,D⟩,d,r,v,p⟩:=h i z l;have g:∀o,t.cell? (Zd b o)=w.cell? (Zd b o):=λo=>cell?_of_block (a:=⟨b,o,none⟩) (q.block b F E);refine⟨⟨(g _).ah A,(g _).ah B,(g _).ah C,(g _).ah D⟩,d,r,v,?_⟩;by_cases hre:z.1.B=[]
 .exact .inl hre
 rcases p with p|⟨f,c,e,k,y⟩
 .exact .inl p
 .cases e;have x:f∉V:=H z (Zs l) _ _ _ v hre;exact .inr ⟨f,c,rfl,Zr k q.size,λj s G=>(cell?_of_block (a:=⟨f,c+j,none⟩) (q.block f k x)).ah (y j s G)⟩
theorem Bm.cw{j:Nat}{f:List (Kd×Value)}(h:Bm w b j f){z:Kd×Value}(p:z∈f){c:Addr}{q:Nat}(l:z.2=C3 (some c) n q)(o:z.1.B≠[]):c.block<w.1.size:=by
 have⟨i,m⟩:=A5 p;have⟨_,r,s,d,a⟩:=h i z m;rw[l]at d;cases d;rcases a with a|⟨t,k,e,g,_⟩
 .exact absurd a o
 .cases e;exact g
theorem Acu{f g i j:D4}(h:Aa w b [f,g,i,j])(a c d e:D4):Aa ((((w.setCell (Zd b 0) a).setCell (Zd b 1) c).setCell (Zd b 2) d).setCell (Zd b 3) e) b [a,c,d,e]:=
 (((h.set 0 a).set 1 c).set 2 d).set 3 e
theorem Wi{a:Nat}{e:TypeId}{size:Nat}{v:D4}{d:Zj}(h:w.ownsRow a e size v n d)(c:∀g,v.ownBlock=some g->g≠b)(f i j k:D4):((((w.setCell (Zd b 0) f).setCell (Zd b 1) i).setCell (Zd b 2) j).setCell (Zd b 3) k).ownsRow a e size v n d:=
 BH (BH (BH (BH h c 0 _) c 1 _) c 2 _) c 3 _
theorem Tl{B:Nat}{a:Zh}(h:Below B a w)(c:B<=b)(d e f g:D4):Below B a ((((w.setCell (Zd b 0) d).setCell (Zd b 1) e).setCell (Zd b 2) f).setCell (Zd b 3) g):=
 (((h.setCell c d).setCell c e).setCell c f).setCell c g
structure XF (w:Zh) (lbase:Nat) (wd now given births num:Int) (ta:Zk) (b:Nat) (zs:List (Kd×Value)) (la:Zk) (lc:Nat) (ls:List Ld) (text:Zi) (refs:Zl) (ra:Zk) (rc:Nat):Prop where
 tb:ta=some ⟨b,0,none⟩\/zs=[]
 rn:ra=none->refs.length=0/\rc=0
 z:Bm w b 0 zs
 bl:b<w.1.size
 lo:w.ownsRow lbase 73 3 (.slice la ls.length lc) ls.length (Ab lC ls)
 lb:lbase<=w.1.size
 bL:some b≠(Value.slice la ls.length lc).ownBlock
 zL:∀z∈zs,∀ad n rc,z.2=.slice (some ad) n rc->z.1.B≠[]->some ad.block≠(Value.slice la ls.length lc).ownBlock
 r:Af w w.1.size ra refs
 ok:Ev wd (zs.map (·.1))
 w1:1<=wd
 cz:∀z∈zs,z.1.J.size<=maxLen
 tl:text.size<=maxLen
 rl:refs.length<=1000
 b0:0<=births
 b1:births<=1000000000
 g0:0<=given
 g1:given<=1000000000
 n0:0<=now
 n1:now<=1000000000
 t0:0<=num
 t1:num<=1000000000
 nl:ls.length<=200
theorem ZD(b:Zi)(a:Zl)(c:Int)(h:1<=c):((AX b a c).size:Int)=c:=Fx ⟨⟨#[]⟩,0,b,a⟩ c h
theorem UO(O:Nat)(F H l d kd V:Int)(ta:Zk)(b tc:Nat)(m:List (Kd×Value))(Z I:Zk)(pn pc J:Nat)(B:Dv)(s nm j:Zi)(f:Zl)(ra:Zk)(rc:Nat)(w:Zh)(h:XF w O F H l d V ta b m I J B j f ra rc):
 D8 70 #[.agg (Yg F H l d ta m.length tc Z pn pc I B.length J),.agg (Yd kd s nm V j ra f.length rc)] w (Tk O b F H l d V m (C3 Z pn pc) (C3 I B.length J) B j f w):=by
 have⟨W,hW⟩:=Ae (((w.alloc (.cells (Yg F H l d ta m.length tc Z pn pc I B.length J) 27)).alloc (.cells (Yd kd s nm V j ra f.length rc) 32)).alloc (.cells Xz 36));have bW:=(BI hW).1;have qH:=(BI hW).2.1;have x0:=(BI hW).2.2.1;have xe:Aa W (w.1.size+1) (Yc kd s nm V j ra f.length rc):=by have N:=Aa.new (w.alloc (.cells (Yg F H l d ta m.length tc Z pn pc I B.length J) 27)) (Yc kd s nm V j ra f.length rc) 32;rw[Al]at N;rw[hW];exact Aa.A N (Zy)
 have x1:Aa W (w.1.size+2) z12:=by have N:=Aa.new ((w.alloc (.cells (Yg F H l d ta m.length tc Z pn pc I B.length J) 27)).alloc (.cells (Yd kd s nm V j ra f.length rc) 32)) z12 36;rw[Al,Al]at N;rw[hW];exact N
 have HX:Hid (∀X,Zz W X->Aa X w.1.size (Yh F H l d ta m.length tc Z pn pc I B.length J)/\Aa X (w.1.size+1) (Yc kd s nm V j ra f.length rc)/\Aa X (w.1.size+2) z12/\Zz w X/\Bm X b 0 m/\Af X X.1.size ra f):=λX Q=>by have hb:Below w.1.size w X:=bW.ah (Q.aj bW.size);exact⟨Aa.A x0 Q,Aa.A xe Q,Aa.A (v:=Ze) x1 Q,hb,h.z.A hb h.bl,Af.aj (Af.A h.r hb) hb.size⟩
 have y:=Yw h;have pI:=ZD j f F h.w1;have vA:Hid (W.1.size=w.1.size+3):=qH;have xJ:=h.bl;have pG:=h.rl;have qA:=h.ok.len;rw[A9]at qA;have hF:Hid (∀X (r:Zi),Zz W X->D8 67 #[.agg (Yg F H l d ta m.length tc Z pn pc I B.length J),C4 r] X λe w'=>e=C5 (Zg (Cu (m.map (·.1)) r))/\Zz X w'):=λX r Q=>by
  have qB:AW X X.1.size ta (m.map (·.1)):=by
   rcases y.tb with e|e
   .rw[e];exact(HX X Q).2.2.2.2.1.dx (by have N:=Q.size;have h2:=vA.o;omega)
   .rw[e];exact .inl rfl
  have N:=Dk F H l d ta tc (C3 Z pn pc) (C3 I B.length J) (m.map (·.1)) r X X.1.size qB (Zx) (by rw[A9];omega);rw[A9]at N;exact N
 have HW:=Yw hW;have tW:=Yw (Ht j ra rc f F W (Af.aj (Af.A h.r bW) bW.size) Yv h.tl);obtain⟨v0,_⟩:=x0 0 _ rfl;obtain⟨e4,e5⟩:=Aa.c2 xe 4 5;clear hW bW x0 xe x1 h;go_enter func70,ntmps70;go_upto_region 1 with fail;rw[<-HW.o];clear HW;go_wp2_with fail;refine tW.Ai ?_;rintro e w1 ⟨rfl,vV⟩;have tT:Hid (Zz W w1):=vV;have vS:=Yw (IM (AB j f F) F w1 (Dl _ _ _) y.w1 y.ok.w8)
 have sG:CD (AB j f F).data.toList F.toNat=AX j f F:=rfl;rw[sG]at vS;clear sG tW v0 e4 e5;obtain⟨v0,_⟩:=(HX w1 vV).1 0 _ rfl;generalize hFF:AB j f F=FF at *
 generalize hSS:AX j f F=SS at *
 go_wp2_with fail;refine vS.Ai ?_;rintro e w2 ⟨rfl,vF⟩;have sY:Hid (Zz W w2):=tT.ah (vF.aj tT.size);clear vS v0 vV vF;go_wp2
 go_loopw [7] (λi wr=>∃(k:Nat),k<=f.length/\i=Zg k/\Hid ((∀r∈f.take k,Am (m.map (·.1)) r)/\Zz W wr)) (λi _=>f.length -(intOf i).toNat)
 case atStart=>exact⟨0,Az _,rfl,⟨λr hr=>by simp at hr,sY⟩⟩
 case round=>
  obtain⟨k,hk,rfl,HI⟩:=hrel;have⟨x0,xe,x1,U,hZ,L⟩:=HX wr HI.2;have vN:Hid (Zz w wr):=U;obtain⟨e5,_⟩:=xe 5 _ rfl;by_cases hlt:k<f.length
  .obtain⟨rb,qS,ha,qG,sQ⟩:=L.at hlt;subst ha;have HG:Hid (f[k]?=some f[k]):=Zv hlt;have c0:=sQ k _ HG;have rI:Hid (f.take (k+1)=f.take k++[f[k]]):=Zu hlt;clear sQ;generalize f[k]=r at *
   have D0:Below wr.1.size wr wr.drew:=Ad.drew;have sZ:Below W.1.size W wr.drew:=HI.2.ah (D0.aj HI.2.size);have yZ:=Yw (hF wr.drew r sZ);have pH:rb<wr.1.size:=qG;obtain⟨v0,v1,v2,v3,v4,v5,v6⟩:=Aa.c7 x0 0 1 2 3 4 5 6;have rJ:Hid (Aa wr (w.1.size+2) z12):=x1;clear x0 xe x1 hZ L U;go_wp2;go_region_with (go_at_call 67;refine yZ.Ai ?_;rintro e t ⟨rfl,xI⟩)
   all_goals
    have zV:Hid (Zz wr t):=D0.ah xI;clear xI c0 e5 v0 v1 v2 v3 v4 v5 v6 yZ;by_cases hth:Am (m.map (·.1)) r
    .obtain⟨fi,fk,xK,_,_⟩:=Nf hth;rw[xK];have yD:Hid (Am (m.map (·.1)) r):=hth;clear hth xK;go_wp2;refine⟨⟨k+1,Yv,Yn,⟨?_,HI.2.ah (zV.aj HI.2.size)⟩⟩,Ys⟩;rw[rI.o];intro r' yL;rcases A7.1 yL with yL|yL
     .exact HI.1 r' yL
     .simp at yL;rw[yL];exact yD.o
    .have rW:=IJ hth;have yD:Hid (¬Am (m.map (·.1)) r):=hth;generalize Cu (m.map (·.1)) r=fi at *
     obtain⟨⟨y0,q0⟩,⟨y1,q1⟩,⟨y2,q2⟩,⟨y3,q3⟩,⟨y4,q4⟩,⟨y5,q5⟩,⟨y6,q6⟩,⟨y7,q7⟩,⟨y8,q8⟩,⟨y9,q9⟩,⟨zM,yM⟩,zO,yO⟩:=Bf (Aa.A (v:=Ze) rJ zV);clear hth;go_wp2;refine C0 (.agg (BE 2 ⟨#[]⟩ ⟨#[]⟩).toArray) (by simp[results,results70,go_sem,y0,y1,y2,y3,y4,y5,y6,y7,y8,y9,zM,zO,BE]) ?_;have rV:Below w.1.size w t:=vN.ah (zV.aj vN.size)
     exact⟨Tn.fresh (Tn.of rV) (Bs t (w.1.size+2) _ _ _ _ _ _ _ _ _ _ _ _) Yv,.inl ⟨2,_,_,.inl ⟨λzU=>yD (zU r (Zs HG)),rfl,rfl,rfl⟩,rfl⟩⟩
  .obtain rfl:k=f.length:=Yv
   have zU:=HI.1;rw[Zt (Zx)]at zU;have zS:Hid (∀r∈f,Am (m.map (·.1)) r):=zU;have vL:Hid (Zz W wr):=HI.2;have yZ:=Yw (hF wr SS HI.2);obtain⟨v0,v1,v2,v3,v4,v5,v6⟩:=Aa.c7 x0 0 1 2 3 4 5 6;clear zU HI x0 xe x1 U hZ L;go_wp2_with fail;refine yZ.Ai ?_;rintro e t ⟨rfl,xI⟩;have zV:Hid (Zz W t):=vL.ah (xI.aj vL.size);clear v0 v1 v2 v3 v4 v5 v6 yZ xI vL e5 vN
   have⟨x0,xe,x1,U,hZ,L⟩:=HX t zV;by_cases hth:Am (m.map (·.1)) SS
   .obtain⟨i,k,xK,vX,sL⟩:=Nf hth;rw[xK];rw[getElem?_map]at vX;obtain⟨z,yB,rfl⟩:=Option.map_eq_some_iff.1 vX;obtain rfl:ta=some ⟨b,0,none⟩:=y.tb.resolve_right (λe=>by rw[e]at yB;simp at yB);have⟨⟨_,_,c2,c3⟩,xP,xQ,xN,sR⟩:=hZ i z yB;rw[xN]at c3;rw[A0]at c2 c3;have pD:(i:Int)<m.length:=Dz (Zw yB).1
    have D3:Below t.1.size t t.drew:=Ad.drew;have tV:=Yw (Ht z.1.J (some xP) xQ z.1.B F t.drew (Af.aj (Af.A sR D3) D3.size) (Dz (y.ok.B z.1 (mem_map.2 ⟨z,Zs yB,rfl⟩)).1) (y.cz z (Zs yB)));have xZ:Hid (z∈m/\z.1.sum=SS):=⟨Zs yB,sL⟩;obtain⟨v0,v4⟩:=Aa.c2 x0 0 4;have tR:b<t.1.size:=Zr xJ U.size;clear x0 xe x1 U hZ L hth xK vX yB xN sR sL
    go_upto_region 10 with fail;go_region_with (go_at_call 89;refine tV.Ai ?_;rintro e w4 ⟨rfl,sI⟩)
    all_goals
     have tU:Hid (Zz W w4):=zV.ah ((D3.ah sI).aj zV.size);clear sI c2 c3 v0 v4 tV;have⟨x0,xe,x1,U,hZ,L⟩:=HX w4 tU;by_cases hsame:AB z.1.J z.1.B F=FF
     .have C:(FF.toList !=FF.toList)=false:=Yu
      rw[hsame];have xY:Hid (CA F d (m.map (·.1)) j f (m.map (·.1)) d):=.inl ⟨z.1,mem_map.2 ⟨z,xZ.1,rfl⟩,by rw[hSS];exact xZ.2,by rw[hsame,hFF],rfl,rfl⟩;have vM:=Yw x0;have vP:=Yw xe;have xC:Hid (Aa w4 (w.1.size+2) z12):=x1;have vQ:Hid (w4.ownsRow O 73 3 (C3 I B.length J) B.length (Ab lC B)):=Ah y.lo U
      have xL:w.1.size+3<=w4.1.size:=by have N:=tU.size;have h2:=vA.o;omega
      have vT:Hid (Tn (C3 I B.length J).ownBlock.toList w w4):=Tn.of U;have rK:Hid (Bm w4 b 0 m):=hZ;have yQ:b<w4.1.size:=Zr xJ U.size;clear x0 xe x1 U hZ L hsame;have xA:=Yw (Ix F H l (d) (some ⟨b,0,none⟩) Z I (m).length tc pn pc J O B SS V w4 vQ (Zm y.lb (Zm (Nat.le_add_right _ 3) xL)) (Dz y.nl) y.g0 y.g1 y.n0 y.n1 y.t0 y.t1)
      obtain⟨l0,l1,l2,l3,l4,l5,l6⟩:=Aa.c7 vM 0 1 2 3 4 5 6;obtain⟨m3,_⟩:=vP 3 _ rfl;go_wp2_with fail;refine xA.Ai ?_;rintro e P ⟨zK,yT⟩;have yE:∀g,(C3 I B.length J).ownBlock=some g->g<w.1.size:=λg hg=>(Ac y.lo hg).2;have zZ:Aa P (w.1.size+2) z12:=Aa.same xC (zK.block _ xC.lt (λe=>by have:=yE _ (D2 e);omega))
      have qC:w.1.size+3<=P.1.size:=Zm xL zK.size;have xD:Hid (Tn (C3 I B.length J).ownBlock.toList w P):=vT.ah zK;clear l0 l1 l2 l3 l4 l5 l6 m3 xA;obtain⟨S,rfl⟩|⟨⟨vY,vW⟩,g2,c2,rfl,yF,zG⟩:=yT
      .obtain⟨Y,hY⟩:=D6 P (Xy 4) 36;have bY:Below P.1.size P Y:=by rw[hY];exact Zy
       have u:Aa Y P.1.size (Xr 4):=by rw[hY];exact Aa.new P _ _
       have yR:=Aa.A (v:=Ze) zZ bY;have HY:=Yw hY;have zC:Hid (Tn (C3 I B.length J).ownBlock.toList w Y):=xD.ah (Tn.of bY);have yH:Hid (B.length=200\/l=1000000000):=by have N:=y.nl;have h2:=y.g1;show _\/_;omega
       have⟨⟨y0,q0⟩,⟨y1,q1⟩,⟨y2,q2⟩,⟨y3,q3⟩,⟨y4,q4⟩,⟨y5,q5⟩,⟨y6,q6⟩,⟨y7,q7⟩,⟨y8,q8⟩,⟨y9,q9⟩,⟨zM,yM⟩,zO,yO⟩:=Bf yR;obtain⟨u0,tG⟩:=u 0 _ rfl;obtain⟨u1,tH⟩:=u 1 _ rfl;obtain⟨u2,tI⟩:=u 2 _ rfl;obtain⟨u3,tJ⟩:=u 3 _ rfl;obtain⟨u4,tK⟩:=u 4 _ rfl;obtain⟨u5,tL⟩:=u 5 _ rfl;obtain⟨u6,tM⟩:=u 6 _ rfl;obtain⟨u7,tN⟩:=u 7 _ rfl;obtain⟨u8,tO⟩:=u 8 _ rfl;obtain⟨u9,tP⟩:=u 9 _ rfl;obtain⟨tE,yV⟩:=u 10 _ rfl
       obtain⟨tF,yW⟩:=u 11 _ rfl;clear bY u yR hY zZ zK S;go_upto_region 30 with fail;rw[<-HY.o];clear HY;go_wp2;refine C0 (.agg (BE 4 ⟨#[]⟩ ⟨#[]⟩).toArray) (by simp[results,results70,go_sem,y0,y1,y2,y3,y4,y5,y6,y7,y8,y9,zM,zO,BE]) ?_
       exact⟨Tn.fresh zC (Bs Y (w.1.size+2) _ _ _ _ _ _ _ _ _ _ _ _) Yv,.inl ⟨4,_,_,.inr ⟨zS,.inr (.inr ⟨⟨_,_,xY⟩,yH,rfl,rfl,rfl⟩)⟩,rfl⟩⟩
      .obtain⟨Y,hY⟩:=D6 P #[Ze,Zg F,Zg H,Zg (l+1),Zg (d),Yz b m.length tc,C3 Z pn pc,Yz g2 (B.length+1) c2,Zc,Zg (l+1),Zc,Zc] 36;have bY:Below P.1.size P Y:=by rw[hY];exact Zy
       have u:Aa Y P.1.size [Ze,Zg F,Zg H,Zg (l+1),Zg (d),Yz b m.length tc,C3 Z pn pc,Yz g2 (B.length+1) c2,Zc,Zg (l+1),Zc,Zc]:=by rw[hY];exact Aa.new P _ _
       have yR:=Aa.A (v:=Ze) zZ bY;have HY:=Yw hY;have zC:Hid (Tn (C3 I B.length J).ownBlock.toList w Y):=xD.ah (Tn.of bY);have xB:=Yw (Ah yF bY);have vF:P.1.size<Y.1.size:=u.lt;have yA:Tn (C3 I B.length J).ownBlock.toList w4 Y:=zK.ah (Tn.of bY)
       have xO:∀R,Tn [P.1.size,w.1.size+2] Y R->Tk O b F H l d V m (C3 Z pn pc) (C3 I B.length J) B j f w (.returned (.agg #[Ze,Zg F,Zg H,Zg (l+1),Zg (d),Yz b m.length tc,C3 Z pn pc,Yz g2 (B.length+1) c2,C4 SS,Zg (l+1),Zc,Zc])) R:=λR L=>by
        have tC:Bm R b 0 (m):=((rK.K yA yQ (λe=>y.bL (Eq.symm (D2 e))) (λz T a n c e2 e3 zY=>y.zL z T a n c e2 e3 (Eq.symm (D2 zY)))).K L (Zr yQ yA.size) Yt (λz T a n c e2 e3 zY=>by simp at zY;have:=y.z.cw T e2 e3;omega));have yS:g2≠P.1.size/\g2≠w.1.size+2:=by
         have N:=(Ac yF (g:=g2) rfl).2;rcases zG with zG|zG
         .have h4:=yE _ zG;omega
         .omega
        have vZ:=As xB (w':=R) (λq C=>L.block q (Ac xB C).2 (by
         have h3:g2=q:=by simpa [ownBlock]using C
         rw[<-h3];simp;exact yS))
        refine⟨?_,.inr ⟨_,_,b,tc,m,g2,c2,zS,xY,vY,vW,by rw[hSS],rfl,tC,?_,.inl ⟨rfl,rfl⟩,λz T=> .inl T,(by rcases zG with h|h;exact .inl h;exact .inr Yv),by rw[hSS];exact vZ,(by rcases zG with h|h;exact λe=>y.bL (by rw[h,e]);exact λe=>Yv),λz T a n c e2 e3 e=>by
         rcases zG with h|h
         .exact y.zL z T a n c e2 e3 (by rw[h,e])
         .have:=y.z.cw T e2 e3;omega⟩⟩
        .exact⟨L.os.ah zC.os,L.tape.ah zC.tape,L.output.ah zC.output,Zm zC.size L.size,λq C hv=>(L.block q (Zr C zC.size) Yt).ah (zC.block q C hv)⟩
        .exact Zr yQ (Zm yA.size L.size)
       have yP:=Yw xO;have⟨⟨y0,q0⟩,⟨y1,q1⟩,⟨y2,q2⟩,⟨y3,q3⟩,⟨y4,q4⟩,⟨y5,q5⟩,⟨y6,q6⟩,⟨y7,q7⟩,⟨y8,q8⟩,⟨y9,q9⟩,⟨zM,yM⟩,zO,yO⟩:=Bf yR;obtain⟨u0,tG⟩:=u 0 _ rfl;obtain⟨u1,tH⟩:=u 1 _ rfl;obtain⟨u2,tI⟩:=u 2 _ rfl;obtain⟨u3,tJ⟩:=u 3 _ rfl;obtain⟨u4,tK⟩:=u 4 _ rfl;obtain⟨u5,tL⟩:=u 5 _ rfl;obtain⟨u6,tM⟩:=u 6 _ rfl;obtain⟨u7,tN⟩:=u 7 _ rfl;obtain⟨u8,tO⟩:=u 8 _ rfl;obtain⟨u9,tP⟩:=u 9 _ rfl
       obtain⟨tE,yV⟩:=u 10 _ rfl;obtain⟨tF,yW⟩:=u 11 _ rfl;clear bY u yR hY zZ zK xO yF yA;go_upto_region 30 with fail;rw[<-HY.o];clear HY;go_wp2;refine C0 (.agg #[Ze,Zg F,Zg H,Zg (l+1),Zg (d),Yz b m.length tc,C3 Z pn pc,Yz g2 (B.length+1) c2,C4 SS,Zg (l+1),Zc,Zc]) (by simp[results,results70,go_sem,y0,y1,y2,y3,y4,y5,y6,y7,y8,y9,zM,zO]) ?_;refine yP _ ?_
       repeat refine Tn.ah ?_ (Tn.set _ _ _ _ Yu)
       exact Tn.of Ad
     .have vI:((AB z.1.J z.1.B F).toList==FF.toList)=false:=Br hsame;have C:((AB z.1.J z.1.B F).toList !=FF.toList)=true:=by simp[bne,vI]
      have rD:Hid (Gk F l d (m.map (·.1)) B j f 3 (AB z.1.J z.1.B F) FF):=.inr ⟨zS,.inl ⟨z.1,mem_map.2 ⟨z,xZ.1,rfl⟩,by rw[hSS];exact xZ.2,by rw[hFF];exact hsame,rfl,rfl,hFF.symm⟩⟩;have⟨⟨y0,q0⟩,⟨y1,q1⟩,⟨y2,q2⟩,⟨y3,q3⟩,⟨y4,q4⟩,⟨y5,q5⟩,⟨y6,q6⟩,⟨y7,q7⟩,⟨y8,q8⟩,⟨y9,q9⟩,⟨zM,yM⟩,zO,yO⟩:=Bf x1;have rB:Hid (Zz w w4):=U;clear hsame x0 xe x1 U hZ L;generalize AB z.1.J z.1.B F=GG at *
      go_wp2;refine C0 (.agg (BE 3 GG FF).toArray) (by simp[results,results70,go_sem,y0,y1,y2,y3,y4,y5,y6,y7,y8,y9,zM,zO,BE]) ?_;exact⟨Tn.fresh (Tn.of rB) (Bs w4 (w.1.size+2) _ _ _ _ _ _ _ _ _ _ _ _) Yv,.inl ⟨3,_,_,rD,rfl⟩⟩
   .have rW:=IJ hth;have xX:Hid (¬Am (m.map (·.1)) SS):=hth;generalize Cu (m.map (·.1)) SS=fi at *
    have pA:¬(0:Int)<=fi:=Yv
    have tR:b<t.1.size:=Zr xJ U.size;obtain⟨v3,qL⟩:=x0 3 _ rfl;obtain⟨v4,qM⟩:=x0 4 _ rfl;have xR:Hid (Zz w t):=U;have qV:Hid (Bm t b 0 m):=hZ;have qT:Hid (Af t t.1.size ra f):=L;have qU:=Yw (Za x0 (Za xe x1));by_cases S:m.length=600\/d=1000000000
    .have yH:Hid (m.length=600\/d=1000000000):=S;have⟨⟨y0,q0⟩,⟨y1,q1⟩,⟨y2,q2⟩,⟨y3,q3⟩,⟨y4,q4⟩,⟨y5,q5⟩,⟨y6,q6⟩,⟨y7,q7⟩,⟨y8,q8⟩,⟨y9,q9⟩,⟨zM,yM⟩,zO,yO⟩:=Bf x1;by_cases hf6:m.length=600
     .have C:(600:Int)<=(m.length:Int):=Yv
      clear S hf6 x0 xe x1 U hZ L hth;go_wp2;refine C0 (.agg (BE 4 ⟨#[]⟩ ⟨#[]⟩).toArray) (by simp[results,results70,go_sem,y0,y1,y2,y3,y4,y5,y6,y7,y8,y9,zM,zO,BE]) ?_;exact⟨Tn.fresh (Tn.of xR) (Bs t (w.1.size+2) _ _ _ _ _ _ _ _ _ _ _ _) Yv,.inl ⟨4,_,_,.inr ⟨zS,.inr (.inl ⟨hSS▸xX.o,by rw[A9];exact yH.o,rfl,rfl,rfl⟩)⟩,rfl⟩⟩
     .have C:¬(600:Int)<=(m.length:Int):=Yv
      have vI:(1000000000:Int)<=d:=Yv
      clear S hf6 x0 xe x1 U hZ L hth;go_wp2;refine C0 (.agg (BE 4 ⟨#[]⟩ ⟨#[]⟩).toArray) (by simp[results,results70,go_sem,y0,y1,y2,y3,y4,y5,y6,y7,y8,y9,zM,zO,BE]) ?_;exact⟨Tn.fresh (Tn.of xR) (Bs t (w.1.size+2) _ _ _ _ _ _ _ _ _ _ _ _) Yv,.inl ⟨4,_,_,.inr ⟨zS,.inr (.inl ⟨hSS▸xX.o,by rw[A9];exact yH.o,rfl,rfl,rfl⟩)⟩,rfl⟩⟩
    .have C:¬(600:Int)<=(m.length:Int):=Yv
     have vI:¬(1000000000:Int)<=d:=Dz y.b1
     have qN:=y.b0;have pO:m.length<600:=Yv
     have xY:Hid (CA F d (m.map (·.1)) j f (De (m.map (·.1)) ⟨SS,d+1,j,f⟩) (d+1)):=by show CA _ _ _ _ _ _ _;rw[<-hSS];exact .inr ⟨hSS▸xX.o,by rw[A9];omega,Yv,rfl,rfl⟩
     have⟨X1,xH⟩:=D7 t (w.1.size) 3 (Zg (d+1));have⟨A,hA⟩:=D6 X1 #[] 68;have sU:Tn [w.1.size] t X1:=by rw[xH];exact AP _ _ _ _
     have bA:=(AE hA).1;have tA:Tn [w.1.size] t A:=sU.ah (Tn.of bA);have pJ:w.1.size+3<=t.1.size:=by have N:=zV.size;have h2:=vA.o;omega
     have yU:X1.1.size=t.1.size:=by rw[xH];simp
     have tB:A.1.size=t.1.size+1:=by rw[hA];simp[yU]
     have vC:Below w.1.size w A:=U.ah (tA.A U.size (by intro v hv;simp at hv;omega));have sA:Aa A w.1.size (Yh F H l (d+1) ta m.length tc Z pn pc I B.length J):=by
      have N:Aa X1 w.1.size (Yh F H l (d+1) ta m.length tc Z pn pc I B.length J):=by rw[xH];exact x0.set 3 _
      exact N.A bA
     have eA:Aa A (w.1.size+1) (Yc kd s nm V j ra f.length rc):=Aa.same xe (tA.block _ xe.lt Yu);have rA:Aa A (w.1.size+2) z12:=Aa.same x1 (tA.block _ x1.lt Yu);have zA:Bm A b 0 m:=y.z.A vC y.bl;have oA:A.ownsRow t.1.size 68 4 (Yz t.1.size 0 0) 0 []:=by have N:=ownsRow_lit (base:=t.1.size) (e:=68) (size:=4) X1 #[] 0 Yv Yo rfl;rw[yU]at N;rw[hA];exact N
     have HA:Hid (A=(t.setCell (Zd (w.1.size) 3) (Zg (d+1))).alloc (.cells #[] 68)):=by rw[<-xH];exact hA
     have vK:Hid (∀X,Zz A X->Aa X w.1.size (Yh F H l (d+1) ta m.length tc Z pn pc I B.length J)/\Aa X (w.1.size+1) (Yc kd s nm V j ra f.length rc)/\Aa X (w.1.size+2) z12/\Zz w X/\Bm X b 0 m/\Af X X.1.size ra f):=λX Q=>by have hb:Below w.1.size w X:=vC.ah (Q.aj vC.size);exact⟨Aa.A sA Q,Aa.A eA Q,Aa.A (v:=Ze) rA Q,hb,y.z.A hb y.bl,Af.aj (Af.A y.r hb) hb.size⟩
     have HS:Hid (∀X,Zz A X->X.cell? (Zd (w.1.size) 3)=some (Zg (d+1))/\X.cell? (Zd (w.1.size+1) 4)=some (C4 j)/\X.cell? (Zd (w.1.size+1) 5)=some (C3 ra f.length rc)):=λX Q=>by have⟨N,h2,_⟩:=vK X Q;exact⟨(N 3 _ rfl).1,(h2 4 _ rfl).1,(h2 5 _ rfl).1⟩
     have yD:Hid (∀X,Zz A X->D8 77 #[.agg #[C4 j,C3 ra f.length rc]] X λe w'=>∃g c,e=C5 (.agg #[C4 j,Yz g f.length c])/\w'.ownsRow X.1.size 9 1 (Yz g f.length c) f.length (f.map string)/\Zz X w'):=λX Q=>Gi j ra rc f X (vK X Q).2.2.2.2.2 y.rn Yv;have D0:Below A.1.size A A.drew:=Ad.drew
     have D1:∀o,Zz A (A.alloc o).drew:=λo=>(Zy).drew;have tZ:=Yw oA;have rO:Hid (A.1.size=t.1.size+1):=tB;clear S x0 xe x1 U hZ L hth xH hA sU bA tA vC sA eA rA zA oA tB yU;go_upto_region 18 with fail;rw[<-HA.o];clear HA v3 v4 qL qM
     go_cut [12] (λv wx=>∃(o p D:Nat),v=Yy o/\Hid (Aa wx o [C4 SS,Zg (d+1),C4 j,Yz p f.length D]/\wx.ownsRow A.1.size 9 1 (Yz p f.length D) f.length (f.map string)/\A.1.size<=o/\o≠p/\Zz A wx))
     case first=>
      have⟨s3,s4,s5⟩:=HS A Ad;have⟨r3,r4,r5⟩:=HS (A.alloc (.cells #[Zc,Ze,Zc,Zb] 68)) (Zy)
      go_region_law (first
       |(go_simp;go_at_call 77;guard_target=~D8 77 _ (drew (alloc A _)) _;refine(yD (A.alloc (.cells #[Zc,Ze,Zc,Zb] 68)).drew (D1 _)).aj ?_;rintro e w6 ⟨p,D,rfl,yK,vG⟩;have B1:Below A.1.size A w6:=(D1 _).ah (vG.aj Yu);have nA:Aa w6 A.1.size [Zc,Ze,Zc,Zb]:=(Aa.A (w:=A.alloc (.cells #[Zc,Ze,Zc,Zb] 68)) (Aa.new A _ _) (Dm vG));obtain⟨y0,q0⟩:=nA 0 _ rfl;obtain⟨y1,q1⟩:=nA 1 _ rfl;obtain⟨y2,q2⟩:=nA 2 _ rfl;obtain⟨y3,q3⟩:=nA 3 _ rfl;have⟨t3,t4,t5⟩:=HS w6 B1)
       |(go_simp;go_at_call 77;refine(yD A.drew D0).aj ?_;rintro e w6 ⟨p,D,rfl,yK,vG⟩;have nC:=yK;have B1:Below A.1.size A w6:=D0.ah vG;have⟨t3,t4,t5⟩:=HS w6 B1;obtain⟨z3,z4,z5⟩:=HS (w6.alloc (.cells #[Zc,Ze,Zc,Zb] 68)) (B1.alloc B1.size _)))
      all_goals (go_wp2_with fail;go_meet)
      all_goals first
       |(have qJ:=nA
         have l1:=Ac yK (g:=p) rfl;simp at l1;have xM:∀g,(Yz p f.length D).ownBlock=some g->g≠A.1.size:=λg hg=>by simp[ownBlock]at hg;omega
         exact⟨A.1.size,p,D,rfl,Acu nA _ _ _ _,Wi (yK.aj Yu) xM _ _ _ _,Zx,Yv,Tl B1 (Zx) _ _ _ _⟩)
       |(have qJ:=nC
         have l1:=Ac yK (g:=p) rfl;exact⟨w6.1.size,p,D,rfl,Aa.new w6 _ _,Ah (yK.aj Yu) (Zy),B1.size,Yv,B1.alloc B1.size _⟩)
     case rest=>
      revert wc;intro wN hcut;obtain⟨o,p,D,rfl,HC⟩:=hcut;have tB:=rO.o;have⟨vU,xF,qX,pF,vE⟩:=HC.o;have qD:o<wN.1.size:=vU.lt;have rY:=Ac xF (g:=p) rfl;have pM:A.1.size<=wN.1.size:=vE.size;have⟨sN,eN,rN,vD,zN,_⟩:=vK wN vE;have rG:Hid (wN.ownsRow t.1.size 68 4 (Yz t.1.size 0 0) 0 []):=Ah tZ vE
      have HN:Hid (∀X,Tn [t.1.size] wN X->Aa X w.1.size (Yh F H l (d+1) ta m.length tc Z pn pc I B.length J)/\Aa X (w.1.size+1) (Yc kd s nm V j ra f.length rc)/\Aa X (w.1.size+2) z12/\Aa X o [C4 SS,Zg (d+1),C4 j,Yz p f.length D]/\Bm X b 0 m/\X.ownsRow A.1.size 9 1 (Yz p f.length D) f.length (f.map string)/\wN.1.size<=X.1.size/\Zz w X):=λX Q=>by
       refine⟨Aa.same sN (Q.block _ sN.lt Yt),Aa.same eN (Q.block _ eN.lt Yt),Aa.same rN (Q.block _ rN.lt Yt),Aa.same vU (Q.block _ qD Yt),zN.K Q (Zr xJ vD.size) Yt (λz T a n c e2 e3 zY=>by simp at zY;have:=y.z.cw T e2 e3;omega),As xF (λq C=>Q.block q (Ac xF C).2 (by have:=(Ac xF C).1;simp;omega)),Q.size,?_⟩
       exact vD.ah (Q.A vD.size (by intro v hv;simp at hv;omega))
      have rF:Hid (∀z∈m,z.1.sum≠SS):=λz T e=>xX ⟨z.1,mem_map.2 ⟨z,T,rfl⟩,e⟩;have rH:Hid ((m.map (·.1.sum)).Pairwise (λa b=>less a b=true)):=by have:=y.ok.dm;rw[map_map]at this;exact this
      have qP:t.1.size<=wN.1.size:=Yv
      have sD:Hid (A.1.size<=p/\p<wN.1.size):=rY;clear vU xF vE sN eN rN vD zN yD HS D0 D1 tZ HC;go_wp2
      go_loopw [10,11,13] (λv dn i wr=>∃(k g c:Nat),k<=m.length/\i=Zg k/\dn=.bool (zD (m.take k) SS)/\v=Yz g (zQ (m.take k) ((⟨SS,d+1,j,f⟩,Yz p f.length D):Kd×Value)).length c/\Hid (wr.ownsRow t.1.size 68 4 (Yz g (zQ (m.take k) ((⟨SS,d+1,j,f⟩,Yz p f.length D):Kd×Value)).length c) (zQ (m.take k) ((⟨SS,d+1,j,f⟩,Yz p f.length D):Kd×Value)).length (Ab kC (zQ (m.take k) ((⟨SS,d+1,j,f⟩,Yz p f.length D):Kd×Value)))/\(g=t.1.size\/wN.1.size<=g)/\Tn [t.1.size] wN wr)) (λ_ _ i _=>m.length -(intOf i).toNat)
      case atStart=>exact⟨0,t.1.size,0,Az _,rfl,by simp[zD],by simp[zQ,zD],⟨by simpa [zQ,zD,Ab]using rG.o,.inl rfl,Tn.of Ad⟩⟩
      case round=>
       obtain⟨k,g,c,hk,rfl,rfl,rfl,HI⟩:=hrel;have⟨sX,eX,rX,oX,zX,_,pN,_⟩:=HN wr HI.2.2;obtain⟨v4,_⟩:=sX 4 _ rfl;obtain⟨o0,o1,o2,o3⟩:=Aa.c4 oX 0 1 2 3;have qQ:t.1.size<=wr.1.size:=Yv
       by_cases hlt:k<m.length
       .obtain rfl:ta=some ⟨b,0,none⟩:=y.tb.resolve_right (λe=>by rw[e]at hlt;simp at hlt);have HG:Hid (m[k]?=some m[k]):=Zv hlt;obtain⟨⟨c0,c1,c2,c3⟩,xP,xQ,xN,_⟩:=zX k _ HG
        have vO:∀X,Tn [t.1.size] wN X->X.cell? (Zd b (k *4))=some (C4 m[k].1.sum)/\X.cell? (Zd b (k *4+1))=some (Zg m[k].1.born)/\X.cell? (Zd b (k *4+2))=some (C4 m[k].1.J)/\X.cell? (Zd b (k *4+3))=some m[k].2:=λX Q=>by have:=((HN X Q).2.2.2.2.1 k _ HG).1;simpa using this
        have xM:=rF _ (getElem_mem hlt);have pB:(zQ (m.take k) ((⟨SS,d+1,j,f⟩,Yz p f.length D):Kd×Value)).length<=1001:=by have:=UN (m.take k) ((⟨SS,d+1,j,f⟩,Yz p f.length D):Kd×Value);rw[Ct]at this;omega
        have zB:=Yw (Wg ((⟨SS,d+1,j,f⟩,Yz p f.length D):Kd×Value) HG);have yX:=Yw (Abx ((⟨SS,d+1,j,f⟩,Yz p f.length D):Kd×Value) HG);have zP:=Yw (ZB ((⟨SS,d+1,j,f⟩,Yz p f.length D):Kd×Value) rH HG);have HD:Hid (zD (m.take (k+1)) SS=(zD (m.take k) SS|| !(less m[k].1.sum SS))):=KA SS HG;rw[A0]at c0 c1 c2 c3;generalize hzk:m[k]=z at *
        obtain⟨x,zv⟩:=z;simp only at xN xM c0 c1 c2 c3 zB yX zP HD vO;subst xN;have vI:(x.sum.toList==SS.toList)=false:=Br xM;generalize hGk:zQ (m.take k) ((⟨SS,d+1,j,f⟩,Yz p f.length D):Kd×Value)=gk at *
        generalize hDk:zD (m.take k) SS=dk at *
        have rC:=Yw vO;have pE:b<wr.1.size:=Yv
        have tD:=HI.1;have yI:=HI.2.1;have M:=HI.2.2;clear hzk hGk hDk vO xM oX sX eX rX zX;cases dk with
        |true=>
         have HE:=Yw (zP rfl);have yY:Hid (zD (m.take (k+1)) SS=true):=by show _=_;rw[HD.o];rfl
         clear zB yX zP HI;obtain⟨K,G,wa,zJ,zI,E,zH⟩:=Mx wr t.1.size (Yz g gk.length c) gk tD (x,C3 (some xP) x.B.length xQ) ⟨_,_,_,rfl⟩ Yl (Dz M.size) 23
         have zF:Tn [t.1.size] wN wa:=⟨E.os.ah M.os,E.tape.ah M.tape,E.output.ah M.output,Zm M.size E.size,λq C hv=>(E.block q (Zr C M.size) (λe=>by simp[ownBlock]at e;simp at hv;rcases yI with h|h<;>omega)).ah (M.block q C hv)⟩;have zW:K=t.1.size\/wN.1.size<=K:=by
          rcases zH with h|h
          .simp[ownBlock]at h;rw[<-h];exact yI
          .have:=M.size;omega
         have yC:=zI;clear zI E zH;go_wp2_with (at_builtin;refine wpList_append_run rfl _ _ 23 23 rfl rfl rfl zJ ?_);clear zJ;have HO:=Yw (Zn yC (Zn zW zF));clear yC zW zF;go_wp2;exact⟨⟨k+1,K,G,Yv,Yn,by rw[yY.o],by rw[HE.o];simp,⟨by rw[HE.o];simpa using HO.1,HO.2⟩⟩,Ys⟩
        |false=>
         cases hless:Op.bytesLess x.sum.toList SS.toList with
         |true=>
          have HE:=Yw (zB rfl hless);have yY:Hid (zD (m.take (k+1)) SS=false):=by show _=_;rw[HD.o];unfold less;rw[hless];rfl
          clear zB yX zP HI;obtain⟨K,G,wa,zJ,zI,E,zH⟩:=Mx wr t.1.size (Yz g gk.length c) gk tD (x,C3 (some xP) x.B.length xQ) ⟨_,_,_,rfl⟩ Yl (Dz M.size) 23
          have zF:Tn [t.1.size] wN wa:=⟨E.os.ah M.os,E.tape.ah M.tape,E.output.ah M.output,Zm M.size E.size,λq C hv=>(E.block q (Zr C M.size) (λe=>by simp[ownBlock]at e;simp at hv;rcases yI with h|h<;>omega)).ah (M.block q C hv)⟩;have zW:K=t.1.size\/wN.1.size<=K:=by
           rcases zH with h|h
           .simp[ownBlock]at h;rw[<-h];exact yI
           .have:=M.size;omega
          have yC:=zI;clear zI E zH;go_wp2_with (at_builtin;refine wpList_append_run rfl _ _ 23 23 rfl rfl rfl zJ ?_);clear zJ;have HO:=Yw (Zn yC (Zn zW zF));clear yC zW zF;go_wp2;exact⟨⟨k+1,K,G,Yv,Yn,by rw[yY.o],by rw[HE.o];simp,⟨by rw[HE.o];simpa using HO.1,HO.2⟩⟩,Ys⟩
         |false=>
          have HE:=Yw (yX rfl hless);have yY:Hid (zD (m.take (k+1)) SS=true):=by show _=_;rw[HD.o];unfold less;rw[hless];rfl
          clear zB yX zP HI;obtain⟨K,G,wa,zJ,zI,E,zH⟩:=Mx wr t.1.size (Yz g (gk.length) c) gk tD (⟨SS,d+1,j,f⟩,Yz p f.length D) ⟨_,_,_,rfl⟩ Yl (Dz M.size) 23
          have zF:Tn [t.1.size] wN wa:=⟨E.os.ah M.os,E.tape.ah M.tape,E.output.ah M.output,Zm M.size E.size,λq C hv=>(E.block q (Zr C M.size) (λe=>by simp[ownBlock]at e;simp at hv;rcases yI with h|h<;>omega)).ah (M.block q C hv)⟩;have zW:K=t.1.size\/wN.1.size<=K:=by
           rcases zH with h|h
           .simp[ownBlock]at h;rw[<-h];exact yI
           .have:=M.size;omega
          have yC:=zI;clear zI E zH;have⟨sT,_,_,_,_,_,qR,_⟩:=HN wa zF;obtain⟨qK,_⟩:=sT 4 _ rfl;have⟨rQ,rR,rS,rT⟩:=rC wa zF;have qO:b<wa.1.size:=Yv
          obtain⟨g9,tQ,wb,xW,xV,zT,xU⟩:=Mx wa t.1.size (Yz K (gk.length+1) G) (gk++[((⟨SS,d+1,j,f⟩,Yz p f.length D):Kd×Value)]) yC (x,C3 (some xP) x.B.length xQ) ⟨_,_,_,rfl⟩ Yl (Dz zF.size) 23
          have sV:Tn [t.1.size] wN wb:=⟨zT.os.ah zF.os,zT.tape.ah zF.tape,zT.output.ah zF.output,Zm zF.size zT.size,λq C hv=>(zT.block q (Zr C zF.size) (λe=>by simp[ownBlock]at e;simp at hv;rcases zW with h|h<;>omega)).ah (zF.block q C hv)⟩;have sF:g9=t.1.size\/wN.1.size<=g9:=by
           rcases xU with h|h
           .simp[ownBlock]at h;rw[<-h];exact zW
           .have:=zF.size;omega
          have sS:=xV;clear xV zT xU;clear sT;go_wp2_with (first|(at_builtin;refine wpList_append_run rfl _ _ 23 23 rfl rfl rfl zJ ?_)|(at_builtin;refine wpList_append_run rfl _ _ 23 23 rfl rfl rfl xW ?_));clear zJ xW c0 c1 c2 c3 v4 o0 o1 o2 o3 qK rQ rR rS rT;have HO:=Yw (Zn sS (Zn sF sV));clear sS sF sV yC zW zF;try go_wp2
          exact⟨⟨k+1,g9,tQ,Yv,Yn,by rw[yY.o],by rw[HE.o];simp,⟨by rw[HE.o];simpa using HO.1,HO.2⟩⟩,Ys⟩
       .obtain rfl:k=m.length:=Yv
        have hO:=HI.1;rw[Zt (Zx)]at hO |-;have hG:=HI.2.1;have hT:=HI.2.2;cases hDn:zD m SS
        case' true=>
         have xG:=Aav (((⟨SS,d+1,j,f⟩,Yz p f.length D):Kd×Value)) hDn;rw[xG]at hO |-;have sH:=hT;have xE:=hO;have tY:Hid (w.1.size<=g):=by show _<=_;rcases hG with h|h<;>omega
         clear o0 o1 o2 o3;obtain⟨K,rfl⟩:=Ae g;obtain⟨G,rfl⟩:=Ae c;obtain⟨w8,rfl⟩:=Ae wr
        case' false=>
         have qY:=UN m (((⟨SS,d+1,j,f⟩,Yz p f.length D):Kd×Value));have xG:=Aby (((⟨SS,d+1,j,f⟩,Yz p f.length D):Kd×Value)) hDn;obtain⟨K,G,w8,sO,vH,yJ,sK⟩:=Mx wr t.1.size (Yz g (zQ m (((⟨SS,d+1,j,f⟩,Yz p f.length D):Kd×Value))).length c) (zQ m (((⟨SS,d+1,j,f⟩,Yz p f.length D):Kd×Value))) hO (((⟨SS,d+1,j,f⟩,Yz p f.length D):Kd×Value)) ⟨_,_,_,rfl⟩ Yv (Dz hT.size) 23
         have sH:Tn [t.1.size] wN w8:=⟨yJ.os.ah hT.os,yJ.tape.ah hT.tape,yJ.output.ah hT.output,Zm hT.size yJ.size,λq C hv=>(yJ.block q (Zr C hT.size) (λe=>by simp[ownBlock]at e;simp at hv;rcases hG with h|h<;>omega)).ah (hT.block q C hv)⟩
         have vR:Hid ((CM m (((⟨SS,d+1,j,f⟩,Yz p f.length D):Kd×Value))).length=(zQ m (((⟨SS,d+1,j,f⟩,Yz p f.length D):Kd×Value))).length+1):=by show _=_;rw[<-xG];simp
         rw[xG]at vH;have xE:w8.ownsRow t.1.size 68 4 (Yz K (CM m (((⟨SS,d+1,j,f⟩,Yz p f.length D):Kd×Value))).length G) (CM m (((⟨SS,d+1,j,f⟩,Yz p f.length D):Kd×Value))).length (Ab kC (CM m (((⟨SS,d+1,j,f⟩,Yz p f.length D):Kd×Value)))):=by rw[vR.o];rw[vR.o]at vH;exact vH
         rw[<-vR.o]at sO;have tY:Hid (w.1.size<=K):=by
          show _<=_;rcases sK with h|h
          .have h2:g=K:=by simpa [ownBlock]using h
           rcases hG with h3|h3<;>omega
          .have:=hT.size;omega
         clear vH yJ sK
        all_goals
         have⟨sE,eE,rE,_,zE,vJ,pK,bE⟩:=HN w8 sH;obtain⟨_,qW⟩:=sE 4 _ rfl;have⟨X,Q⟩:=D7 w8 (w.1.size) 4 (Yz K (CM m ((⟨SS,d+1,j,f⟩,Yz p f.length D):Kd×Value)).length G);have tX:Tn [w.1.size] w8 X:=by rw[Q];exact AP _ _ _ _
         have sB:=Yw Q;have vM:Hid (Aa X w.1.size (Yh F H l (d+1) (some ⟨K,0,none⟩) ((CM m ((⟨SS,d+1,j,f⟩,Yz p f.length D):Kd×Value)).length) G Z pn pc I B.length J)):=by show Aa _ _ _;rw[Q];exact sE.set 4 _
         have vP:=Yw (Aa.same eE (tX.block _ eE.lt Yu));have xC:Hid (Aa X (w.1.size+2) z12):=Aa.same rE (tX.block _ rE.lt Yu);have bX:Below w.1.size w X:=bE.ah (tX.A bE.size (by intro v hv;simp at hv;omega));have vQ:Hid (X.ownsRow O 73 3 (C3 I B.length J) B.length (Ab lC B)):=Ah y.lo bX;have qZ:w8.1.size<=X.1.size:=tX.size
         have xL:w.1.size+3<=X.1.size:=Yv
         have vT:Hid (Tn (C3 I B.length J).ownBlock.toList w X):=Tn.of bX;have oE:X.ownsRow t.1.size 68 4 (Yz K (CM m ((⟨SS,d+1,j,f⟩,Yz p f.length D):Kd×Value)).length G) (CM m ((⟨SS,d+1,j,f⟩,Yz p f.length D):Kd×Value)).length (Ab kC (CM m ((⟨SS,d+1,j,f⟩,Yz p f.length D):Kd×Value))):=As xE (λq C=>tX.block q (Ac xE C).2 (by have:=(Ac xE C).1;simp;omega))
         have yG:X.ownsRow A.1.size 9 1 (Yz p f.length D) f.length (f.map string):=As vJ (λq C=>tX.block q (Ac vJ C).2 (by have:=(Ac vJ C).1;simp;omega));have sW:Bm X b 0 m:=y.z.A bX y.bl;have rZ:K<X.1.size:=(Ac oE (g:=K) rfl).2;have xT:∀g,(C3 I B.length J).ownBlock=some g->g<w.1.size:=λg hg=>(Ac y.lo hg).2
         have rL:Hid (∀(Y R:Zh) (n5:Nat),X.1.size<=n5->Tn (C3 I B.length J).ownBlock.toList X Y->Tn [n5,w.1.size+2] Y R->Bm R K 0 (CM m ((⟨SS,d+1,j,f⟩,Yz p f.length D):Kd×Value))):=λY R n5 h5 hY L=>by
          have sM:=As oE (w':=Y) (λq C=>hY.block q (Ac oE C).2 (λe=>by have N:=xT q (D2 e);have h2:=(Ac oE C).1;omega));have qE:=As sM (w':=R) (λq C=>L.block q (Ac sM C).2 (by have N:=(Ac oE C).1;have h2:=(Ac oE C).2;simp;omega));have sP:=As yG (w':=Y) (λq C=>hY.block q (Ac yG C).2 (λe=>by have N:=xT q (D2 e);have h2:=(Ac yG C).1;omega))
          have qF:=As sP (w':=R) (λq C=>L.block q (Ac sP C).2 (by have N:=(Ac yG C).1;have h2:=(Ac yG C).2;simp;omega));have sJ:b<X.1.size:=Zr xJ bX.size
          have zR:=(sW.K hY sJ (λe=>y.bL (Eq.symm (D2 e))) (λz T a n c e2 e3 zY=>y.zL z T a n c e2 e3 (Eq.symm (D2 zY)))).K L (Zr sJ hY.size) Yt (λz T a n c e2 e3 zY=>by simp at zY;have:=y.z.cw T e2 e3;omega);refine Bm.own qE (λz T=> ?_);rcases Lx T with T|rfl
          .obtain⟨i,hi⟩:=A5 T;have⟨_,rP,qI,e4,rU⟩:=zR i z hi;exact⟨rP,qI,e4,rU⟩
          .have tS:Af R R.1.size (some ⟨p,0,none⟩) f:=by have N:R.ownsRow A.1.size 9 1 (Yz p f.length D) f.length (f.map string):=qF;exact Af.own N
           exact⟨⟨p,0,none⟩,D,rfl,tS⟩
         have sC:Hid (CA F d (m.map (·.1)) j f ((CM m ((⟨SS,d+1,j,f⟩,Yz p f.length D):Kd×Value)).map (·.1)) (d+1)):=by show CA _ _ _ _ _ _ _;rw[Wf];exact xY.o
         have xS:Hid (w.1.size<K/\K<X.1.size/\w.1.size<p/\p<X.1.size):=by
          have N:t.1.size<=K/\K<X.1.size:=Ac oE (g:=K) rfl;have h2:A.1.size<=p/\p<X.1.size:=Ac yG (g:=p) rfl;have h3:=sD.1;have h4:w.1.size+3<=t.1.size:=by have N:=zV.size;have h2:=vA.o;omega
          exact⟨Yv,N.2,Yv,h2.2⟩
         have rM:Hid (∀z∈CM m ((⟨SS,d+1,j,f⟩,Yz p f.length D):Kd×Value),z∈m\/∃ad n rc,z.2=C3 (some ad) n rc/\w.1.size<=ad.block):=λz T=>by
          rcases Lx T with T|rfl
          .exact .inl T
          .exact .inr ⟨⟨p,0,none⟩,_,_,rfl,by have:=sD.1;show w.1.size<=p;omega⟩
         clear hDn xG Q tX sE eE rE zE vJ oE yG sW bE bX hO xE HI;go_upto_region 29 with(at_builtin;refine wpList_append_run rfl _ _ 23 23 rfl rfl rfl sO ?_);rw[<-sB.o];clear sB
         have xA:=Yw (Ix F H l (d+1) (some ⟨K,0,none⟩) Z I (CM m ((⟨SS,d+1,j,f⟩,Yz p f.length D):Kd×Value)).length G pn pc J O B SS V X vQ (Zm y.lb (Zm (Nat.le_add_right _ 3) xL)) (Dz y.nl) y.g0 y.g1 y.n0 y.n1 y.t0 y.t1);obtain⟨l0,l1,l2,l3,l4,l5,l6⟩:=Aa.c7 vM 0 1 2 3 4 5 6;obtain⟨m3,_⟩:=vP 3 _ rfl;go_wp2_with fail;refine xA.Ai ?_
         rintro e P ⟨zK,yT⟩;have yE:∀g,(C3 I B.length J).ownBlock=some g->g<w.1.size:=λg hg=>(Ac y.lo hg).2;have zZ:Aa P (w.1.size+2) z12:=Aa.same xC (zK.block _ xC.lt (λe=>by have:=yE _ (D2 e);omega));have qC:w.1.size+3<=P.1.size:=Zm xL zK.size;have xD:Hid (Tn (C3 I B.length J).ownBlock.toList w P):=vT.ah zK
         clear l0 l1 l2 l3 l4 l5 l6 m3 xA;obtain⟨S,rfl⟩|⟨⟨vY,vW⟩,g2,c2,rfl,yF,zG⟩:=yT
         .obtain⟨Y,hY⟩:=D6 P (Xy 4) 36;have bY:Below P.1.size P Y:=by rw[hY];exact Zy
          have u:Aa Y P.1.size (Xr 4):=by rw[hY];exact Aa.new P _ _
          have yR:=Aa.A (v:=Ze) zZ bY;have HY:=Yw hY;have zC:Hid (Tn (C3 I B.length J).ownBlock.toList w Y):=xD.ah (Tn.of bY);have yH:Hid (B.length=200\/l=1000000000):=by have N:=y.nl;have h2:=y.g1;show _\/_;omega
          have⟨⟨y0,q0⟩,⟨y1,q1⟩,⟨y2,q2⟩,⟨y3,q3⟩,⟨y4,q4⟩,⟨y5,q5⟩,⟨y6,q6⟩,⟨y7,q7⟩,⟨y8,q8⟩,⟨y9,q9⟩,⟨zM,yM⟩,zO,yO⟩:=Bf yR;obtain⟨u0,tG⟩:=u 0 _ rfl;obtain⟨u1,tH⟩:=u 1 _ rfl;obtain⟨u2,tI⟩:=u 2 _ rfl;obtain⟨u3,tJ⟩:=u 3 _ rfl;obtain⟨u4,tK⟩:=u 4 _ rfl;obtain⟨u5,tL⟩:=u 5 _ rfl;obtain⟨u6,tM⟩:=u 6 _ rfl;obtain⟨u7,tN⟩:=u 7 _ rfl;obtain⟨u8,tO⟩:=u 8 _ rfl;obtain⟨u9,tP⟩:=u 9 _ rfl
          obtain⟨tE,yV⟩:=u 10 _ rfl;obtain⟨tF,yW⟩:=u 11 _ rfl;clear bY u yR hY zZ zK S;go_upto_region 30 with fail;rw[<-HY.o];clear HY;go_wp2;refine C0 (.agg (BE 4 ⟨#[]⟩ ⟨#[]⟩).toArray) (by simp[results,results70,go_sem,y0,y1,y2,y3,y4,y5,y6,y7,y8,y9,zM,zO,BE]) ?_
          exact⟨Tn.fresh zC (Bs Y (w.1.size+2) _ _ _ _ _ _ _ _ _ _ _ _) Yv,.inl ⟨4,_,_,.inr ⟨zS,.inr (.inr ⟨⟨_,_,sC⟩,yH,rfl,rfl,rfl⟩)⟩,rfl⟩⟩
         .obtain⟨Y,hY⟩:=D6 P #[Ze,Zg F,Zg H,Zg (l+1),Zg (d+1),Yz K (CM m ((⟨SS,d+1,j,f⟩,Yz p f.length D):Kd×Value)).length G,C3 Z pn pc,Yz g2 (B.length+1) c2,Zc,Zg (l+1),Zc,Zc] 36;have bY:Below P.1.size P Y:=by rw[hY];exact Zy
          have u:Aa Y P.1.size [Ze,Zg F,Zg H,Zg (l+1),Zg (d+1),Yz K (CM m ((⟨SS,d+1,j,f⟩,Yz p f.length D):Kd×Value)).length G,C3 Z pn pc,Yz g2 (B.length+1) c2,Zc,Zg (l+1),Zc,Zc]:=by rw[hY];exact Aa.new P _ _
          have yR:=Aa.A (v:=Ze) zZ bY;have HY:=Yw hY;have zC:Hid (Tn (C3 I B.length J).ownBlock.toList w Y):=xD.ah (Tn.of bY);have xB:=Yw (Ah yF bY);have vF:P.1.size<Y.1.size:=u.lt;have yA:Tn (C3 I B.length J).ownBlock.toList X Y:=zK.ah (Tn.of bY)
          have xO:∀R,Tn [P.1.size,w.1.size+2] Y R->Tk O b F H l d V m (C3 Z pn pc) (C3 I B.length J) B j f w (.returned (.agg #[Ze,Zg F,Zg H,Zg (l+1),Zg (d+1),Yz K (CM m ((⟨SS,d+1,j,f⟩,Yz p f.length D):Kd×Value)).length G,C3 Z pn pc,Yz g2 (B.length+1) c2,C4 SS,Zg (l+1),Zc,Zc])) R:=λR L=>by
           have tC:Bm R K 0 (CM m ((⟨SS,d+1,j,f⟩,Yz p f.length D):Kd×Value)):=rL Y R _ zK.size yA L;have yS:g2≠P.1.size/\g2≠w.1.size+2:=by
            have N:=(Ac yF (g:=g2) rfl).2;rcases zG with zG|zG
            .have h4:=yE _ zG;omega
            .omega
           have vZ:=As xB (w':=R) (λq C=>L.block q (Ac xB C).2 (by
            have h3:g2=q:=by simpa [ownBlock]using C
            rw[<-h3];simp;exact yS))
           refine⟨?_,.inr ⟨_,_,K,G,CM m ((⟨SS,d+1,j,f⟩,Yz p f.length D):Kd×Value),g2,c2,zS,sC,vY,vW,by rw[hSS],rfl,tC,?_,.inr tY,rM,(by rcases zG with h|h;exact .inl h;exact .inr Yv),by rw[hSS];exact vZ,(by have h0:=xS.o;rcases zG with h|h;(have N:=yE _ h;omega);omega),λz T a n c e2 e3 e=>by
            have h0:=xS.o;rcases Lx T with T|rfl
            .rcases zG with h|h
             .exact y.zL z T a n c e2 e3 (by rw[h,e])
             .have:=y.z.cw T e2 e3;omega
            .cases e2;have e':p=g2:=e;rcases zG with h|h
             .have N:=yE _ h;omega
             .omega⟩⟩
           .exact⟨L.os.ah zC.os,L.tape.ah zC.tape,L.output.ah zC.output,Zm zC.size L.size,λq C hv=>(L.block q (Zr C zC.size) Yt).ah (zC.block q C hv)⟩
           .exact Zr rZ (Zm yA.size L.size)
          have yP:=Yw xO;have⟨⟨y0,q0⟩,⟨y1,q1⟩,⟨y2,q2⟩,⟨y3,q3⟩,⟨y4,q4⟩,⟨y5,q5⟩,⟨y6,q6⟩,⟨y7,q7⟩,⟨y8,q8⟩,⟨y9,q9⟩,⟨zM,yM⟩,zO,yO⟩:=Bf yR;obtain⟨u0,tG⟩:=u 0 _ rfl;obtain⟨u1,tH⟩:=u 1 _ rfl;obtain⟨u2,tI⟩:=u 2 _ rfl;obtain⟨u3,tJ⟩:=u 3 _ rfl;obtain⟨u4,tK⟩:=u 4 _ rfl;obtain⟨u5,tL⟩:=u 5 _ rfl;obtain⟨u6,tM⟩:=u 6 _ rfl;obtain⟨u7,tN⟩:=u 7 _ rfl;obtain⟨u8,tO⟩:=u 8 _ rfl;obtain⟨u9,tP⟩:=u 9 _ rfl
          obtain⟨tE,yV⟩:=u 10 _ rfl;obtain⟨tF,yW⟩:=u 11 _ rfl;clear bY u yR hY zZ zK xO yF yA;go_upto_region 30 with fail;rw[<-HY.o];clear HY;go_wp2
          refine C0 (.agg #[Ze,Zg F,Zg H,Zg (l+1),Zg (d+1),Yz K (CM m ((⟨SS,d+1,j,f⟩,Yz p f.length D):Kd×Value)).length G,C3 Z pn pc,Yz g2 (B.length+1) c2,C4 SS,Zg (l+1),Zc,Zc]) (by simp[results,results70,go_sem,y0,y1,y2,y3,y4,y5,y6,y7,y8,y9,zM,zO]) ?_;refine yP _ ?_
          repeat refine Tn.ah ?_ (Tn.set _ _ _ _ Yu)
          exact Tn.of Ad
