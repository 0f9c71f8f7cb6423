import Derived.Test.YtcankpdbabaacaaGreatDoorX12
import Derived.Test.YtcankpdbabaacaaGreatDoorX10
set_option maxRecDepth 100000
set_option maxHeartbeats 16000000
namespace Go.Proofs.YtcankpdbabaacaaGreatDoor
open Go.ChangeShapes Go.WideShapes Go.ChangeAt Go.RowKit _root_.Go.Proofs.Tryz
variable{w:Zh}{b n:Nat}
def Sc(lbase b0:Nat)(wd now given births num:Int)(zs:List (Kd×Value))(P L:Value)(ls:List Ld)(text:Zi)(refs:Zl)(w:Zh)(e:Ending)(w':Zh):Prop:=
 Tn L.ownBlock.toList w w'/\(
  (∃c a b,Gp wd given births (zs.map (·.1)) ls text refs c a b/\e=.returned (.agg (Cq c a b).toArray))\/
  (∃ks1 ai g gc zs1 g2 c2,(∀r∈refs,Av (zs.map (·.1)) r)/\CF wd births (zs.map (·.1)) text refs ks1 ai/\ls.length<200/\given<1000000000/\
    e=.returned (.agg #[Zf,Zg wd,Zg now,Zg (given+1),Zg ai,.slice (some ⟨g,0,none⟩) zs1.length gc,P,.slice (some ⟨g2,0,none⟩) (ls.length+1) c2,.string (Bh text refs wd),Zg (given+1),Zd,Zd])/\
    zs1.map (·.1)=ks1/\Bk w' g 0 zs1/\g<w'.heap.size/\((g=b0/\zs1=zs)\/w.heap.size<=g)/\(∀z∈zs1,z∈zs\/∃ad n rc,z.2=.slice (some ad) n rc/\w.heap.size<=ad.block)/\(L.ownBlock=some g2\/w.heap.size<=g2)/\w'.ownsRow lbase 164 3 (.slice (some ⟨g2,0,none⟩) (ls.length+1) c2) (ls++[(⟨given+1,Bh text refs wd,now+num⟩:Ld)]).length (Ab lC (ls++[(⟨given+1,Bh text refs wd,now+num⟩:Ld)]))/\g≠g2/\∀z∈zs1,∀ad n rc,z.2=.slice (some ad) n rc->z.1.B≠[]->ad.block≠g2))
theorem Bk.Y{t:Zh}{m:Nat}{u:List (Kd×Value)}{V:List Nat}(h:Bk w b m u)(q:Tn V w t)(F:b<w.heap.size)(E:b∉V)(H:∀z∈u,∀d n r,z.2=.slice (some d) n r->z.1.B≠[]->d.block∉V):Bk t b m u:=by
 intro i z l;obtain⟨⟨A,B,C,D⟩,d,r,v,p⟩:=h i z l;have g:∀o,t.cell? (Ze b o)=w.cell? (Ze b o):=fun o=>World.cell?_of_block (a:=⟨b,o,none⟩) (q.block b F E);refine⟨⟨(g _).trans A,(g _).trans B,(g _).trans C,(g _).trans D⟩,d,r,v,?_⟩;by_cases hre:z.1.B=[]
 .exact .inl hre
 rcases p with p|⟨f,c,e,k,y⟩
 .exact .inl p
 .cases e;have x:f∉V:=H z (Zs l) _ _ _ v hre;exact .inr ⟨f,c,rfl,Zr k q.size,fun j s G=>(World.cell?_of_block (a:=⟨f,c+j,none⟩) (q.block f k x)).trans (y j s G)⟩
theorem Bk.bu{j:Nat}{f:List (Kd×Value)}(h:Bk w b j f){z:Kd×Value}(p:z∈f){c:Addr}{q:Nat}(l:z.2=.slice (some c) n q)(o:z.1.B≠[]):c.block<w.heap.size:=by
 obtain⟨i,m⟩:=List.getElem?_of_mem p;obtain⟨_,r,s,d,a⟩:=h i z m;rw[l]at d;cases d;rcases a with a|⟨t,k,e,g,_⟩
 .exact absurd a o
 .cases e;exact g
theorem gn{f g i j:Value}(h:Aa w b [f,g,i,j])(a c d e:Value):Aa ((((w.setCell (Ze b 0) a).setCell (Ze b 1) c).setCell (Ze b 2) d).setCell (Ze b 3) e) b [a,c,d,e]:=
 (((h.set 0 a).set 1 c).set 2 d).set 3 e
theorem VP{a:Nat}{e:TypeId}{size:Nat}{v:Value}{d:Zj}(h:w.ownsRow a e size v n d)(c:∀g,v.ownBlock=some g->g≠b)(f i j k:Value):((((w.setCell (Ze b 0) f).setCell (Ze b 1) i).setCell (Ze b 2) j).setCell (Ze b 3) k).ownsRow a e size v n d:=
 Bn (Bn (Bn (Bn h c 0 _) c 1 _) c 2 _) c 3 _
theorem Se{B:Nat}{a:Zh}(h:Below B a w)(c:B<=b)(d e f g:Value):Below B a ((((w.setCell (Ze b 0) d).setCell (Ze b 1) e).setCell (Ze b 2) f).setCell (Ze b 3) g):=
 (((h.setCell c d).setCell c e).setCell c f).setCell c g
structure WY (w:Zh) (lbase:Nat) (wd now given births num:Int) (ta:Zk) (b:Nat) (zs:List (Kd×Value)) (la:Zk) (lc:Nat) (ls:List Ld) (text:Zi) (refs:Zl) (ra:Zk) (rc:Nat):Prop where
 tb:ta=some ⟨b,0,none⟩\/zs=[]
 rn:ra=none->refs.length=0/\rc=0
 z:Bk w b 0 zs
 bl:b<w.heap.size
 lo:w.ownsRow lbase 164 3 (.slice la ls.length lc) ls.length (Ab lC ls)
 lb:lbase<=w.heap.size
 bL:some b≠(Value.slice la ls.length lc).ownBlock
 zL:∀z∈zs,∀ad n rc,z.2=.slice (some ad) n rc->z.1.B≠[]->some ad.block≠(Value.slice la ls.length lc).ownBlock
 r:Ad w w.heap.size ra refs
 ok:Dj wd (zs.map (·.1))
 w1:1<=wd
 cn:∀z∈zs,z.1.M.size<=maxLen
 tl:text.size<=maxLen
 rl:refs.length<=1000
 b0:0<=births
 b1:births<=1000000000
 g0:0<=given
 g1:given<=1000000000
 n0:0<=now
 n1:now<=1000000000
 t0:0<=num
 t1:num<=1000000000
 nl:ls.length<=200
theorem YT(b:Zi)(a:Zl)(c:Int)(h:1<=c):((Bh b a c).size:Int)=c:=IU ⟨⟨#[]⟩,0,b,a⟩ c h
theorem TU(O:Nat)(F H l d kd V:Int)(ta:Zk)(b tc:Nat)(m:List (Kd×Value))(Z I:Zk)(pn pc J:Nat)(B:List Ld)(s nm j:Zi)(f:Zl)(ra:Zk)(rc:Nat)(w:Zh)(h:WY w O F H l d V ta b m I J B j f ra rc):
 Calls prog 137 #[.agg (Yi F H l d ta m.length tc Z pn pc I B.length J),.agg (Yh kd s nm V j ra f.length rc)] w (Sc O b F H l d V m (.slice Z pn pc) (.slice I B.length J) B j f w):=by
 obtain⟨W,hW⟩:∃W,W=((w.alloc (.cells (Yi F H l d ta m.length tc Z pn pc I B.length J) 40)).alloc (.cells (Yh kd s nm V j ra f.length rc) 66)).alloc (.cells Yg 88):=⟨_,rfl⟩;have bW:=(Bq hW).1;have qL:=(Bq hW).2.1;have x0:=(Bq hW).2.2.1;have xe:Aa W (w.heap.size+1) (Ye kd s nm V j ra f.length rc):=by have N:=Aa.new (w.alloc (.cells (Yi F H l d ta m.length tc Z pn pc I B.length J) 40)) (Ye kd s nm V j ra f.length rc) 66;rw[World.size_alloc]at N;rw[hW];exact Aa.below N (Zy)
 have x1:Aa W (w.heap.size+2) z12:=by have N:=Aa.new ((w.alloc (.cells (Yi F H l d ta m.length tc Z pn pc I B.length J) 40)).alloc (.cells (Yh kd s nm V j ra f.length rc) 66)) z12 88;rw[World.size_alloc,World.size_alloc]at N;rw[hW];exact N
 have HX:Hid (∀X,Zz W X->Aa X w.heap.size (Yj F H l d ta m.length tc Z pn pc I B.length J)/\Aa X (w.heap.size+1) (Ye kd s nm V j ra f.length rc)/\Aa X (w.heap.size+2) z12/\Zz w X/\Bk X b 0 m/\Ad X X.heap.size ra f):=fun X Q=>by have hb:Below w.heap.size w X:=bW.trans (Q.mono bW.size);exact⟨Aa.below x0 Q,Aa.below xe Q,Aa.below (v:=Zf) x1 Q,hb,h.z.below hb h.bl,Ad.mono (Ad.below h.r hb) hb.size⟩
 have y:=Yx h;have pN:=YT j f F h.w1;have vA:Hid (W.heap.size=w.heap.size+3):=qL;have xJ:=h.bl;have pK:=h.rl;have qE:=h.ok.len;rw[List.length_map]at qE;have hF:Hid (∀X (r:Zi),Zz W X->Calls prog 50 #[.agg (Yi F H l d ta m.length tc Z pn pc I B.length J),.string r] X fun e w'=>e=.returned (Zg (CU (m.map (·.1)) r))/\Zz X w'):=fun X r Q=>by
  have qF:By X X.heap.size ta (m.map (·.1)):=by
   rcases y.o.tb with e|e
   .rw[e];exact(HX.o X Q).2.2.2.2.1.dm (by have N:=Q.size;have h2:=vA.o;omega)
   .rw[e];exact .inl rfl
  have N:=Fp F H l d ta tc (.slice Z pn pc) (.slice I B.length J) (m.map (·.1)) r X X.heap.size qF (Zx) (by rw[List.length_map];omega);rw[List.length_map]at N;exact N
 have HW:=Yx hW;have sB:=Yx (MF j ra rc f F W (Ad.mono (Ad.below h.r bW) bW.size) Yw h.tl);obtain⟨v0,_⟩:=x0 0 _ rfl;obtain⟨e4,e5⟩:=Aa.c2 xe 4 5;clear hW bW x0 xe x1 h;go_enter func137,ntmps137;go_upto_region 1 with fail;rw[<-HW.o];clear HW;go_wp2_with fail;refine Calls.mono sB.o ?_;rintro e w1 ⟨rfl,vW⟩;have tW:Hid (Zz W w1):=vW;have vT:=Yx (Vq (AJ j f F) F w1 (JA _ _ _) y.o.w1 y.o.ok.w8)
 have sJ:EN (AJ j f F).data.toList F.toNat=Bh j f F:=rfl;rw[sJ]at vT;clear sJ sB v0 e4 e5;obtain⟨v0,_⟩:=(HX.o w1 vW).1 0 _ rfl;generalize hFF:AJ j f F=FF at *
 generalize hSS:Bh j f F=SS at *
 go_wp2_with fail;refine Calls.mono vT.o ?_;rintro e w2 ⟨rfl,vF⟩;have rC:Hid (Zz W w2):=tW.o.trans (vF.mono tW.o.size);clear vT v0 vW vF;go_wp2
 go_loopw [7] (fun i wr=>∃(k:Nat),k<=f.length/\i=Zg k/\Hid ((∀r∈f.take k,Av (m.map (·.1)) r)/\Zz W wr)) (fun i _=>f.length -(intOf i).toNat)
 case atStart=>exact⟨0,Nat.zero_le _,rfl,⟨fun r hr=>by simp at hr,rC.o⟩⟩
 case round=>
  obtain⟨k,hk,rfl,HI⟩:=hrel;obtain⟨x0,xe,x1,U,hZ,L⟩:=HX.o wr HI.o.2;have vO:Hid (Zz w wr):=U;obtain⟨e5,_⟩:=xe 5 _ rfl;by_cases hlt:k<f.length
  .obtain⟨rb,qW,ha,qK,sT⟩:=L.at hlt;subst ha;have HG:Hid (f[k]?=some f[k]):=Zv hlt;have c0:=sT k _ HG.o;have rL:Hid (f.take (k+1)=f.take k++[f[k]]):=Zu hlt;clear sT;generalize f[k]=r at *
   have D0:Below wr.heap.size wr wr.drew:=(Below.refl _ _).drew;have rD:Below W.heap.size W wr.drew:=HI.o.2.trans (D0.mono HI.o.2.size);have yZ:=Yx (hF.o wr.drew r rD);have pM:rb<wr.heap.size:=qK;obtain⟨v0,v1,v2,v3,v4,v5,v6⟩:=Aa.c7 x0 0 1 2 3 4 5 6;have rM:Hid (Aa wr (w.heap.size+2) z12):=x1;clear x0 xe x1 hZ L U;go_wp2;go_region_with (go_at_call 50;refine Calls.mono yZ.o ?_;rintro e t ⟨rfl,xI⟩)
   all_goals
    have zV:Hid (Zz wr t):=D0.trans xI;clear xI c0 e5 v0 v1 v2 v3 v4 v5 v6 yZ;by_cases hth:Av (m.map (·.1)) r
    .obtain⟨fi,fk,xK,_,_⟩:=Mu hth;rw[xK];have yD:Hid (Av (m.map (·.1)) r):=hth;clear hth xK;go_wp2;refine⟨⟨k+1,Yw,Yp,⟨?_,HI.o.2.trans (zV.o.mono HI.o.2.size)⟩⟩,by simp[intOf];omega⟩;rw[rL.o];intro r' yL;rcases List.mem_append.1 yL with yL|yL
     .exact HI.o.1 r' yL
     .simp at yL;rw[yL];exact yD.o
    .have qB:=IK hth;have yD:Hid (¬Av (m.map (·.1)) r):=hth;generalize CU (m.map (·.1)) r=fi at *
     obtain⟨⟨y0,q0⟩,⟨y1,q1⟩,⟨y2,q2⟩,⟨y3,q3⟩,⟨y4,q4⟩,⟨y5,q5⟩,⟨y6,q6⟩,⟨y7,q7⟩,⟨y8,q8⟩,⟨y9,q9⟩,⟨zM,yM⟩,zO,yO⟩:=AY (Aa.below (v:=Zf) rM.o zV.o);clear hth;go_wp2;refine bodyPost_ret (v:=.agg (Cq 2 ⟨#[]⟩ ⟨#[]⟩).toArray) (by simp[results,results137,go_sem,y0,y1,y2,y3,y4,y5,y6,y7,y8,y9,zM,zO,Cq]) rfl ?_;have qA:Below w.heap.size w t:=vO.o.trans (zV.o.mono vO.o.size)
     exact⟨Tn.fresh (Tn.of qA) (Bd t (w.heap.size+2) _ _ _ _ _ _ _ _ _ _ _ _) Yw,.inl ⟨2,_,_,.inl ⟨fun zU=>yD.o (zU r (Zs HG.o)),rfl,rfl,rfl⟩,rfl⟩⟩
  .obtain rfl:k=f.length:=Yw
   have zU:=HI.o.1;rw[Zt (Zx)]at zU;have zS:Hid (∀r∈f,Av (m.map (·.1)) r):=zU;have vL:Hid (Zz W wr):=HI.o.2;have yZ:=Yx (hF.o wr SS HI.o.2);obtain⟨v0,v1,v2,v3,v4,v5,v6⟩:=Aa.c7 x0 0 1 2 3 4 5 6;clear zU HI x0 xe x1 U hZ L;go_wp2_with fail;refine Calls.mono yZ.o ?_;rintro e t ⟨rfl,xI⟩;have zV:Hid (Zz W t):=vL.o.trans (xI.mono vL.o.size);clear v0 v1 v2 v3 v4 v5 v6 yZ xI vL e5 vO
   obtain⟨x0,xe,x1,U,hZ,L⟩:=HX.o t zV.o;by_cases hth:Av (m.map (·.1)) SS
   .obtain⟨i,k,xK,tB,sP⟩:=Mu hth;rw[xK];rw[List.getElem?_map]at tB;obtain⟨z,yB,rfl⟩:=Option.map_eq_some_iff.1 tB;obtain rfl:ta=some ⟨b,0,none⟩:=y.o.tb.resolve_right (fun e=>by rw[e]at yB;simp at yB);obtain⟨⟨_,_,c2,c3⟩,xP,xQ,xN,sU⟩:=hZ i z yB;rw[xN]at c3;rw[Nat.zero_add]at c2 c3;have pH:(i:Int)<m.length:=by have:=(Zw yB).1;omega
    have D3:Below t.heap.size t t.drew:=(Below.refl _ _).drew;have tZ:=Yx (MF z.1.M (some xP) xQ z.1.B F t.drew (Ad.mono (Ad.below sU D3) D3.size) (by have:=(y.o.ok.B z.1 (List.mem_map.2 ⟨z,Zs yB,rfl⟩)).1;omega) (y.o.cn z (Zs yB)));have xZ:Hid (z∈m/\z.1.sum=SS):=⟨Zs yB,sP⟩;obtain⟨v0,v4⟩:=Aa.c2 x0 0 4;have tU:b<t.heap.size:=Zr xJ U.size;clear x0 xe x1 U hZ L hth xK tB yB xN sU sP
    go_upto_region 10 with fail;go_region_with (go_at_call 55;refine Calls.mono tZ.o ?_;rintro e w4 ⟨rfl,sL⟩)
    all_goals
     have tY:Hid (Zz W w4):=zV.o.trans ((D3.trans sL).mono zV.o.size);clear sL c2 c3 v0 v4 tZ;obtain⟨x0,xe,x1,U,hZ,L⟩:=HX.o w4 tY.o;by_cases hsame:AJ z.1.M z.1.B F=FF
     .have C:(FF.toList !=FF.toList)=false:=Yv
      rw[hsame];have xY:Hid (CF F d (m.map (·.1)) j f (m.map (·.1)) d):=.inl ⟨z.1,List.mem_map.2 ⟨z,xZ.o.1,rfl⟩,by rw[hSS];exact xZ.o.2,by rw[hsame,hFF],rfl,rfl⟩;have vM:=Yx x0;have vQ:=Yx xe;have xC:Hid (Aa w4 (w.heap.size+2) z12):=x1;have vR:Hid (w4.ownsRow O 164 3 (.slice I B.length J) B.length (Ab lC B)):=Ae y.o.lo U
      have xL:w.heap.size+3<=w4.heap.size:=by have N:=tY.o.size;have h2:=vA.o;omega
      have vU:Hid (Tn (Value.slice I B.length J).ownBlock.toList w w4):=Tn.of U;have rO:Hid (Bk w4 b 0 m):=hZ;have yQ:b<w4.heap.size:=Zr xJ U.size;clear x0 xe x1 U hZ L hsame;have xA:=Yx (IA F H l (d) (some ⟨b,0,none⟩) Z I (m).length tc pn pc J O B SS V w4 vR.o (Zm y.o.lb (Zm (Nat.le_add_right _ 3) xL)) (by have:=y.o.nl;omega) y.o.g0 y.o.g1 y.o.n0 y.o.n1 y.o.t0 y.o.t1)
      obtain⟨l0,l1,l2,l3,l4,l5,l6⟩:=Aa.c7 vM.o 0 1 2 3 4 5 6;obtain⟨m3,_⟩:=vQ.o 3 _ rfl;go_wp2_with fail;refine Calls.mono xA.o ?_;rintro e P ⟨zK,yT⟩;have yE:∀g,(Value.slice I B.length J).ownBlock=some g->g<w.heap.size:=fun g hg=>(Ac y.o.lo hg).2;have zZ:Aa P (w.heap.size+2) z12:=Aa.same xC.o (zK.block _ xC.o.lt (fun e=>by have:=yE _ (by simpa using e);omega))
      have qG:w.heap.size+3<=P.heap.size:=Zm xL zK.size;have xD:Hid (Tn (Value.slice I B.length J).ownBlock.toList w P):=vU.o.trans zK;clear l0 l1 l2 l3 l4 l5 l6 m3 xA;obtain⟨S,rfl⟩|⟨⟨tC,vX⟩,g2,c2,rfl,yF,zG⟩:=yT
      .obtain⟨Y,hY⟩:∃Y,Y=P.alloc (.cells (Yf 4) 88):=⟨_,rfl⟩;have bY:Below P.heap.size P Y:=by rw[hY];exact Zy
       have u:Aa Y P.heap.size (Yd 4):=by rw[hY];exact Aa.new P _ _
       have yR:=Aa.below (v:=Zf) zZ bY;have HY:=Yx hY;have zC:Hid (Tn (Value.slice I B.length J).ownBlock.toList w Y):=xD.o.trans (Tn.of bY);have yH:Hid (B.length=200\/l=1000000000):=by have N:=y.o.nl;have h2:=y.o.g1;show _\/_;omega
       obtain⟨⟨y0,q0⟩,⟨y1,q1⟩,⟨y2,q2⟩,⟨y3,q3⟩,⟨y4,q4⟩,⟨y5,q5⟩,⟨y6,q6⟩,⟨y7,q7⟩,⟨y8,q8⟩,⟨y9,q9⟩,⟨zM,yM⟩,zO,yO⟩:=AY yR;obtain⟨u0,tJ⟩:=u 0 _ rfl;obtain⟨u1,tK⟩:=u 1 _ rfl;obtain⟨u2,tL⟩:=u 2 _ rfl;obtain⟨u3,tM⟩:=u 3 _ rfl;obtain⟨u4,tN⟩:=u 4 _ rfl;obtain⟨u5,tO⟩:=u 5 _ rfl;obtain⟨u6,tP⟩:=u 6 _ rfl;obtain⟨u7,tQ⟩:=u 7 _ rfl;obtain⟨u8,tR⟩:=u 8 _ rfl;obtain⟨u9,tS⟩:=u 9 _ rfl;obtain⟨tH,yV⟩:=u 10 _ rfl
       obtain⟨tI,yW⟩:=u 11 _ rfl;clear bY u yR hY zZ zK S;go_upto_region 30 with fail;rw[<-HY.o];clear HY;go_wp2;refine bodyPost_ret (v:=.agg (Cq 4 ⟨#[]⟩ ⟨#[]⟩).toArray) (by simp[results,results137,go_sem,y0,y1,y2,y3,y4,y5,y6,y7,y8,y9,zM,zO,Cq]) rfl ?_
       exact⟨Tn.fresh zC.o (Bd Y (w.heap.size+2) _ _ _ _ _ _ _ _ _ _ _ _) Yw,.inl ⟨4,_,_,.inr ⟨zS.o,.inr (.inr ⟨⟨_,_,xY.o⟩,yH.o,rfl,rfl,rfl⟩)⟩,rfl⟩⟩
      .obtain⟨Y,hY⟩:∃Y,Y=P.alloc (.cells #[Zf,Zg F,Zg H,Zg (l+1),Zg (d),Za b m.length tc,.slice Z pn pc,Za g2 (B.length+1) c2,Zd,Zg (l+1),Zd,Zd] 88):=⟨_,rfl⟩;have bY:Below P.heap.size P Y:=by rw[hY];exact Zy
       have u:Aa Y P.heap.size [Zf,Zg F,Zg H,Zg (l+1),Zg (d),Za b m.length tc,.slice Z pn pc,Za g2 (B.length+1) c2,Zd,Zg (l+1),Zd,Zd]:=by rw[hY];exact Aa.new P _ _
       have yR:=Aa.below (v:=Zf) zZ bY;have HY:=Yx hY;have zC:Hid (Tn (Value.slice I B.length J).ownBlock.toList w Y):=xD.o.trans (Tn.of bY);have xB:=Yx (Ae yF bY);have vF:P.heap.size<Y.heap.size:=u.lt;have yA:Tn (Value.slice I B.length J).ownBlock.toList w4 Y:=zK.trans (Tn.of bY)
       have xO:∀R,Tn [P.heap.size,w.heap.size+2] Y R->Sc O b F H l d V m (.slice Z pn pc) (.slice I B.length J) B j f w (.returned (.agg #[Zf,Zg F,Zg H,Zg (l+1),Zg (d),Za b m.length tc,.slice Z pn pc,Za g2 (B.length+1) c2,.string SS,Zg (l+1),Zd,Zd])) R:=fun R L=>by
        have tF:Bk R b 0 (m):=((rO.o.Y yA yQ (fun e=>y.o.bL (Eq.symm (by simpa using e))) (fun z T a n c e2 e3 zY=>y.o.zL z T a n c e2 e3 (Eq.symm (by simpa using zY)))).Y L (Zr yQ yA.size) Yu (fun z T a n c e2 e3 zY=>by simp at zY;have:=y.o.z.bu T e2 e3;omega));have yS:g2≠P.heap.size/\g2≠w.heap.size+2:=by
         have N:=(Ac yF (g:=g2) rfl).2;rcases zG with zG|zG
         .have h4:=yE _ zG;omega
         .omega
        have tD:=Ak xB.o (w':=R) (fun q C=>L.block q (Ac xB.o C).2 (by
         have h3:g2=q:=by simpa [Value.ownBlock]using C
         rw[<-h3];simp;exact yS))
        refine⟨?_,.inr ⟨_,_,b,tc,m,g2,c2,zS.o,xY.o,tC,vX,by rw[hSS],rfl,tF,?_,.inl ⟨rfl,rfl⟩,fun z T=> .inl T,(by rcases zG with h|h;exact .inl h;exact .inr Yw),by rw[hSS];exact tD,(by rcases zG with h|h;exact fun e=>y.o.bL (by rw[h,e]);exact fun e=>by omega),fun z T a n c e2 e3 e=>by
         rcases zG with h|h
         .exact y.o.zL z T a n c e2 e3 (by rw[h,e])
         .have:=y.o.z.bu T e2 e3;omega⟩⟩
        .exact⟨L.os.trans zC.o.os,L.tape.trans zC.o.tape,L.output.trans zC.o.output,Zm zC.o.size L.size,fun q C hv=>(L.block q (Zr C zC.o.size) Yu).trans (zC.o.block q C hv)⟩
        .exact Zr yQ (Zm yA.size L.size)
       have yP:=Yx xO;obtain⟨⟨y0,q0⟩,⟨y1,q1⟩,⟨y2,q2⟩,⟨y3,q3⟩,⟨y4,q4⟩,⟨y5,q5⟩,⟨y6,q6⟩,⟨y7,q7⟩,⟨y8,q8⟩,⟨y9,q9⟩,⟨zM,yM⟩,zO,yO⟩:=AY yR;obtain⟨u0,tJ⟩:=u 0 _ rfl;obtain⟨u1,tK⟩:=u 1 _ rfl;obtain⟨u2,tL⟩:=u 2 _ rfl;obtain⟨u3,tM⟩:=u 3 _ rfl;obtain⟨u4,tN⟩:=u 4 _ rfl;obtain⟨u5,tO⟩:=u 5 _ rfl;obtain⟨u6,tP⟩:=u 6 _ rfl;obtain⟨u7,tQ⟩:=u 7 _ rfl;obtain⟨u8,tR⟩:=u 8 _ rfl;obtain⟨u9,tS⟩:=u 9 _ rfl
       obtain⟨tH,yV⟩:=u 10 _ rfl;obtain⟨tI,yW⟩:=u 11 _ rfl;clear bY u yR hY zZ zK xO yF yA;go_upto_region 30 with fail;rw[<-HY.o];clear HY;go_wp2;refine bodyPost_ret (v:=.agg #[Zf,Zg F,Zg H,Zg (l+1),Zg (d),Za b m.length tc,.slice Z pn pc,Za g2 (B.length+1) c2,.string SS,Zg (l+1),Zd,Zd]) (by simp[results,results137,go_sem,y0,y1,y2,y3,y4,y5,y6,y7,y8,y9,zM,zO]) rfl ?_;refine yP.o _ ?_
       repeat refine Tn.trans ?_ (Tn.set _ _ _ _ Yv)
       exact Tn.of (Below.refl _ _)
     .have vI:((AJ z.1.M z.1.B F).toList==FF.toList)=false:=Cd hsame;have C:((AJ z.1.M z.1.B F).toList !=FF.toList)=true:=by simp[bne,vI]
      have rH:Hid (Gp F l d (m.map (·.1)) B j f 3 (AJ z.1.M z.1.B F) FF):=.inr ⟨zS.o,.inl ⟨z.1,List.mem_map.2 ⟨z,xZ.o.1,rfl⟩,by rw[hSS];exact xZ.o.2,by rw[hFF];exact hsame,rfl,rfl,hFF.symm⟩⟩;obtain⟨⟨y0,q0⟩,⟨y1,q1⟩,⟨y2,q2⟩,⟨y3,q3⟩,⟨y4,q4⟩,⟨y5,q5⟩,⟨y6,q6⟩,⟨y7,q7⟩,⟨y8,q8⟩,⟨y9,q9⟩,⟨zM,yM⟩,zO,yO⟩:=AY x1;have rF:Hid (Zz w w4):=U;clear hsame x0 xe x1 U hZ L;generalize AJ z.1.M z.1.B F=GG at *
      go_wp2;refine bodyPost_ret (v:=.agg (Cq 3 GG FF).toArray) (by simp[results,results137,go_sem,y0,y1,y2,y3,y4,y5,y6,y7,y8,y9,zM,zO,Cq]) rfl ?_;exact⟨Tn.fresh (Tn.of rF.o) (Bd w4 (w.heap.size+2) _ _ _ _ _ _ _ _ _ _ _ _) Yw,.inl ⟨3,_,_,rH.o,rfl⟩⟩
   .have qB:=IK hth;have xX:Hid (¬Av (m.map (·.1)) SS):=hth;generalize CU (m.map (·.1)) SS=fi at *
    have pF:¬(0:Int)<=fi:=Yw
    have tU:b<t.heap.size:=Zr xJ U.size;obtain⟨v3,qP⟩:=x0 3 _ rfl;obtain⟨v4,qQ⟩:=x0 4 _ rfl;have xR:Hid (Zz w t):=U;have qZ:Hid (Bk t b 0 m):=hZ;have qX:Hid (Ad t t.heap.size ra f):=L;have qY:=Yx (Zb x0 (Zb xe x1));by_cases S:m.length=600\/d=1000000000
    .have yH:Hid (m.length=600\/d=1000000000):=S;obtain⟨⟨y0,q0⟩,⟨y1,q1⟩,⟨y2,q2⟩,⟨y3,q3⟩,⟨y4,q4⟩,⟨y5,q5⟩,⟨y6,q6⟩,⟨y7,q7⟩,⟨y8,q8⟩,⟨y9,q9⟩,⟨zM,yM⟩,zO,yO⟩:=AY x1;by_cases hf6:m.length=600
     .have C:(600:Int)<=(m.length:Int):=Yw
      clear S hf6 x0 xe x1 U hZ L hth;go_wp2;refine bodyPost_ret (v:=.agg (Cq 4 ⟨#[]⟩ ⟨#[]⟩).toArray) (by simp[results,results137,go_sem,y0,y1,y2,y3,y4,y5,y6,y7,y8,y9,zM,zO,Cq]) rfl ?_;exact⟨Tn.fresh (Tn.of xR.o) (Bd t (w.heap.size+2) _ _ _ _ _ _ _ _ _ _ _ _) Yw,.inl ⟨4,_,_,.inr ⟨zS.o,.inr (.inl ⟨hSS▸xX.o,by rw[List.length_map];exact yH.o,rfl,rfl,rfl⟩)⟩,rfl⟩⟩
     .have C:¬(600:Int)<=(m.length:Int):=Yw
      have vI:(1000000000:Int)<=d:=Yw
      clear S hf6 x0 xe x1 U hZ L hth;go_wp2;refine bodyPost_ret (v:=.agg (Cq 4 ⟨#[]⟩ ⟨#[]⟩).toArray) (by simp[results,results137,go_sem,y0,y1,y2,y3,y4,y5,y6,y7,y8,y9,zM,zO,Cq]) rfl ?_;exact⟨Tn.fresh (Tn.of xR.o) (Bd t (w.heap.size+2) _ _ _ _ _ _ _ _ _ _ _ _) Yw,.inl ⟨4,_,_,.inr ⟨zS.o,.inr (.inl ⟨hSS▸xX.o,by rw[List.length_map];exact yH.o,rfl,rfl,rfl⟩)⟩,rfl⟩⟩
    .have C:¬(600:Int)<=(m.length:Int):=Yw
     have vI:¬(1000000000:Int)<=d:=by have:=y.o.b1;omega
     have qR:=y.o.b0;have pS:m.length<600:=Yw
     have xY:Hid (CF F d (m.map (·.1)) j f (DH (m.map (·.1)) ⟨SS,d+1,j,f⟩) (d+1)):=by show CF _ _ _ _ _ _ _;rw[<-hSS];exact .inr ⟨hSS▸xX.o,by rw[List.length_map];omega,Yw,rfl,rfl⟩
     obtain⟨X1,xH⟩:∃X,X=t.setCell (Ze (w.heap.size) 3) (Zg (d+1)):=⟨_,rfl⟩;obtain⟨A,hA⟩:∃A,A=X1.alloc (.cells #[] 99):=⟨_,rfl⟩;have sY:Tn [w.heap.size] t X1:=by rw[xH];exact AM _ _ _ _
     have bA:=(AA hA).1;have tA:Tn [w.heap.size] t A:=sY.trans (Tn.of bA);have pO:w.heap.size+3<=t.heap.size:=by have N:=zV.o.size;have h2:=vA.o;omega
     have yU:X1.heap.size=t.heap.size:=by rw[xH];simp
     have tE:A.heap.size=t.heap.size+1:=by rw[hA];simp[yU]
     have vC:Below w.heap.size w A:=U.trans (tA.below U.size (by intro v hv;simp at hv;omega));have sA:Aa A w.heap.size (Yj F H l (d+1) ta m.length tc Z pn pc I B.length J):=by
      have N:Aa X1 w.heap.size (Yj F H l (d+1) ta m.length tc Z pn pc I B.length J):=by rw[xH];exact x0.set 3 _
      exact N.below bA
     have eA:Aa A (w.heap.size+1) (Ye kd s nm V j ra f.length rc):=Aa.same xe (tA.block _ xe.lt Yv);have rA:Aa A (w.heap.size+2) z12:=Aa.same x1 (tA.block _ x1.lt Yv);have zA:Bk A b 0 m:=y.o.z.below vC y.o.bl;have oA:A.ownsRow t.heap.size 99 4 (Za t.heap.size 0 0) 0 []:=by have N:=World.ownsRow_lit (base:=t.heap.size) (e:=99) (size:=4) X1 #[] 0 Yw Yq rfl;rw[yU]at N;rw[hA];exact N
     have HA:Hid (A=(t.setCell (Ze (w.heap.size) 3) (Zg (d+1))).alloc (.cells #[] 99)):=by rw[<-xH];exact hA
     have vK:Hid (∀X,Zz A X->Aa X w.heap.size (Yj F H l (d+1) ta m.length tc Z pn pc I B.length J)/\Aa X (w.heap.size+1) (Ye kd s nm V j ra f.length rc)/\Aa X (w.heap.size+2) z12/\Zz w X/\Bk X b 0 m/\Ad X X.heap.size ra f):=fun X Q=>by have hb:Below w.heap.size w X:=vC.trans (Q.mono vC.size);exact⟨Aa.below sA Q,Aa.below eA Q,Aa.below (v:=Zf) rA Q,hb,y.o.z.below hb y.o.bl,Ad.mono (Ad.below y.o.r hb) hb.size⟩
     have HS:Hid (∀X,Zz A X->X.cell? (Ze (w.heap.size) 3)=some (Zg (d+1))/\X.cell? (Ze (w.heap.size+1) 4)=some (.string j)/\X.cell? (Ze (w.heap.size+1) 5)=some (.slice ra f.length rc)):=fun X Q=>by obtain⟨N,h2,_⟩:=vK.o X Q;exact⟨(N 3 _ rfl).1,(h2 4 _ rfl).1,(h2 5 _ rfl).1⟩
     have yD:Hid (∀X,Zz A X->Calls prog 93 #[.agg #[.string j,.slice ra f.length rc]] X fun e w'=>∃g c,e=.returned (.agg #[.string j,Za g f.length c])/\w'.ownsRow X.heap.size 9 1 (Za g f.length c) f.length (f.map Value.string)/\Zz X w'):=fun X Q=>Qh j ra rc f X (vK.o X Q).2.2.2.2.2 y.o.rn Yw;have D0:Below A.heap.size A A.drew:=(Below.refl _ _).drew
     have D1:∀o,Zz A (A.alloc o).drew:=fun o=>(Zy).drew;have sD:=Yx oA;have rR:Hid (A.heap.size=t.heap.size+1):=tE;clear S x0 xe x1 U hZ L hth xH hA sY bA tA vC sA eA rA zA oA tE yU;go_upto_region 18 with fail;rw[<-HA.o];clear HA v3 v4 qP qQ
     go_cut [12] (fun v wx=>∃(o p D:Nat),v=Yz o/\Hid (Aa wx o [.string SS,Zg (d+1),.string j,Za p f.length D]/\wx.ownsRow A.heap.size 9 1 (Za p f.length D) f.length (f.map Value.string)/\A.heap.size<=o/\o≠p/\Zz A wx))
     case first=>
      obtain⟨s3,s4,s5⟩:=HS.o A (Below.refl _ _);obtain⟨r3,r4,r5⟩:=HS.o (A.alloc (.cells #[Zd,Zf,Zd,Zc] 99)) (Zy)
      go_region_law (first
       |(go_simp;go_at_call 93;guard_target=~Calls prog 93 _ (World.drew (World.alloc A _)) _;refine(yD.o (A.alloc (.cells #[Zd,Zf,Zd,Zc] 99)).drew (D1 _)).mono ?_;rintro e w6 ⟨p,D,rfl,yK,vG⟩;have B1:Below A.heap.size A w6:=(D1 _).trans (vG.mono Yv);have nA:Aa w6 A.heap.size [Zd,Zf,Zd,Zc]:=(Aa.below (w:=A.alloc (.cells #[Zd,Zf,Zd,Zc] 99)) (Aa.new A _ _) (Cp vG));obtain⟨y0,q0⟩:=nA 0 _ rfl;obtain⟨y1,q1⟩:=nA 1 _ rfl;obtain⟨y2,q2⟩:=nA 2 _ rfl;obtain⟨y3,q3⟩:=nA 3 _ rfl;obtain⟨t3,t4,t5⟩:=HS.o w6 B1)
       |(go_simp;go_at_call 93;refine(yD.o A.drew D0).mono ?_;rintro e w6 ⟨p,D,rfl,yK,vG⟩;have nC:=yK;have B1:Below A.heap.size A w6:=D0.trans vG;obtain⟨t3,t4,t5⟩:=HS.o w6 B1;obtain⟨z3,z4,z5⟩:=HS.o (w6.alloc (.cells #[Zd,Zf,Zd,Zc] 99)) (B1.alloc B1.size _)))
      all_goals (go_wp2_with fail;go_meet)
      all_goals first
       |(have qN:=nA
         have l1:=Ac yK (g:=p) rfl;simp at l1;have xM:∀g,(Za p f.length D).ownBlock=some g->g≠A.heap.size:=fun g hg=>by simp[Value.ownBlock]at hg;omega
         exact⟨A.heap.size,p,D,rfl,gn nA _ _ _ _,VP (yK.mono Yv) xM _ _ _ _,Zx,Yw,Se B1 (Zx) _ _ _ _⟩)
       |(have qN:=nC
         have l1:=Ac yK (g:=p) rfl;exact⟨w6.heap.size,p,D,rfl,Aa.new w6 _ _,Ae (yK.mono Yv) (Zy),B1.size,Yw,B1.alloc B1.size _⟩)
     case rest=>
      revert wc;intro wN hcut;obtain⟨o,p,D,rfl,HC⟩:=hcut;have tE:=rR.o;obtain⟨vV,xF,pB,pJ,vE⟩:=HC.o;have qH:o<wN.heap.size:=vV.lt;have qC:=Ac xF (g:=p) rfl;have pQ:A.heap.size<=wN.heap.size:=vE.size;obtain⟨sN,eN,rN,vD,zN,_⟩:=vK.o wN vE;have rJ:Hid (wN.ownsRow t.heap.size 99 4 (Za t.heap.size 0 0) 0 []):=Ae sD.o vE
      have HN:Hid (∀X,Tn [t.heap.size] wN X->Aa X w.heap.size (Yj F H l (d+1) ta m.length tc Z pn pc I B.length J)/\Aa X (w.heap.size+1) (Ye kd s nm V j ra f.length rc)/\Aa X (w.heap.size+2) z12/\Aa X o [.string SS,Zg (d+1),.string j,Za p f.length D]/\Bk X b 0 m/\X.ownsRow A.heap.size 9 1 (Za p f.length D) f.length (f.map Value.string)/\wN.heap.size<=X.heap.size/\Zz w X):=fun X Q=>by
       refine⟨Aa.same sN (Q.block _ sN.lt Yu),Aa.same eN (Q.block _ eN.lt Yu),Aa.same rN (Q.block _ rN.lt Yu),Aa.same vV (Q.block _ qH Yu),zN.Y Q (Zr xJ vD.size) Yu (fun z T a n c e2 e3 zY=>by simp at zY;have:=y.o.z.bu T e2 e3;omega),Ak xF (fun q C=>Q.block q (Ac xF C).2 (by have:=(Ac xF C).1;simp;omega)),Q.size,?_⟩
       exact vD.trans (Q.below vD.size (by intro v hv;simp at hv;omega))
      have rI:Hid (∀z∈m,z.1.sum≠SS):=fun z T e=>xX.o ⟨z.1,List.mem_map.2 ⟨z,T,rfl⟩,e⟩;have rK:Hid ((m.map (·.1.sum)).Pairwise (fun a b=>less a b=true)):=by have:=y.o.ok.dh;rw[List.map_map]at this;exact this
      have qT:t.heap.size<=wN.heap.size:=Yw
      have sH:Hid (A.heap.size<=p/\p<wN.heap.size):=qC;clear vV xF vE sN eN rN vD zN yD HS D0 D1 sD HC;go_wp2
      go_loopw [10,11,13] (fun v dn i wr=>∃(k g c:Nat),k<=m.length/\i=Zg k/\dn=.bool (zD (m.take k) SS)/\v=Za g (zQ (m.take k) ((⟨SS,d+1,j,f⟩,Za p f.length D):Kd×Value)).length c/\Hid (wr.ownsRow t.heap.size 99 4 (Za g (zQ (m.take k) ((⟨SS,d+1,j,f⟩,Za p f.length D):Kd×Value)).length c) (zQ (m.take k) ((⟨SS,d+1,j,f⟩,Za p f.length D):Kd×Value)).length (Ab kC (zQ (m.take k) ((⟨SS,d+1,j,f⟩,Za p f.length D):Kd×Value)))/\(g=t.heap.size\/wN.heap.size<=g)/\Tn [t.heap.size] wN wr)) (fun _ _ i _=>m.length -(intOf i).toNat)
      case atStart=>exact⟨0,t.heap.size,0,Nat.zero_le _,rfl,by simp[zD],by simp[zQ,zD],⟨by simpa [zQ,zD,Ab]using rJ.o,.inl rfl,Tn.of (Below.refl _ _)⟩⟩
      case round=>
       obtain⟨k,g,c,hk,rfl,rfl,rfl,HI⟩:=hrel;obtain⟨sX,eX,rX,oX,zX,_,pR,_⟩:=HN.o wr HI.o.2.2;obtain⟨v4,_⟩:=sX 4 _ rfl;obtain⟨o0,o1,o2,o3⟩:=Aa.c4 oX 0 1 2 3;have qU:t.heap.size<=wr.heap.size:=Yw
       by_cases hlt:k<m.length
       .obtain rfl:ta=some ⟨b,0,none⟩:=y.o.tb.resolve_right (fun e=>by rw[e]at hlt;simp at hlt);have HG:Hid (m[k]?=some m[k]):=Zv hlt;obtain⟨⟨c0,c1,c2,c3⟩,xP,xQ,xN,_⟩:=zX k _ HG.o
        have vP:∀X,Tn [t.heap.size] wN X->X.cell? (Ze b (k *4))=some (.string m[k].1.sum)/\X.cell? (Ze b (k *4+1))=some (Zg m[k].1.born)/\X.cell? (Ze b (k *4+2))=some (.string m[k].1.M)/\X.cell? (Ze b (k *4+3))=some m[k].2:=fun X Q=>by have:=((HN.o X Q).2.2.2.2.1 k _ HG.o).1;simpa using this
        have xM:=rI.o _ (List.getElem_mem hlt);have pG:(zQ (m.take k) ((⟨SS,d+1,j,f⟩,Za p f.length D):Kd×Value)).length<=1001:=by have:=TT (m.take k) ((⟨SS,d+1,j,f⟩,Za p f.length D):Kd×Value);rw[List.length_take]at this;omega
        have zB:=Yx (VN ((⟨SS,d+1,j,f⟩,Za p f.length D):Kd×Value) HG.o);have yX:=Yx (Acb ((⟨SS,d+1,j,f⟩,Za p f.length D):Kd×Value) HG.o);have zP:=Yx (YS ((⟨SS,d+1,j,f⟩,Za p f.length D):Kd×Value) rK.o HG.o);have HD:Hid (zD (m.take (k+1)) SS=(zD (m.take k) SS|| !(less m[k].1.sum SS))):=Ki SS HG.o;rw[Nat.zero_add]at c0 c1 c2 c3;generalize hzk:m[k]=z at *
        obtain⟨x,zv⟩:=z;simp only at xN xM c0 c1 c2 c3 zB yX zP HD vP;subst xN;have vI:(x.sum.toList==SS.toList)=false:=Cd xM;generalize hGk:zQ (m.take k) ((⟨SS,d+1,j,f⟩,Za p f.length D):Kd×Value)=gk at *
        generalize hDk:zD (m.take k) SS=dk at *
        have rG:=Yx vP;have pI:b<wr.heap.size:=Yw
        have tG:=HI.o.1;have yI:=HI.o.2.1;have M:=HI.o.2.2;clear hzk hGk hDk vP xM oX sX eX rX zX;cases dk with
        |true=>
         have HE:=Yx (zP.o rfl);have yY:Hid (zD (m.take (k+1)) SS=true):=by show _=_;rw[HD.o];rfl
         clear zB yX zP HI;obtain⟨K,G,wa,zJ,zI,E,zH⟩:=LP wr t.heap.size (Za g gk.length c) gk tG (x,.slice (some xP) x.B.length xQ) ⟨_,_,_,rfl⟩ Yn (by have:=M.size;omega) 36
         have zF:Tn [t.heap.size] wN wa:=⟨E.os.trans M.os,E.tape.trans M.tape,E.output.trans M.output,Zm M.size E.size,fun q C hv=>(E.block q (Zr C M.size) (fun e=>by simp[Value.ownBlock]at e;simp at hv;rcases yI with h|h<;>omega)).trans (M.block q C hv)⟩;have zW:K=t.heap.size\/wN.heap.size<=K:=by
          rcases zH with h|h
          .simp[Value.ownBlock]at h;rw[<-h];exact yI
          .have:=M.size;omega
         have yC:=zI;clear zI E zH;go_wp2_with (at_builtin;refine wpList_append_run rfl _ _ 36 36 rfl rfl rfl zJ ?_);clear zJ;have HO:=Yx (Zn yC (Zn zW zF));clear yC zW zF;go_wp2;exact⟨⟨k+1,K,G,Yw,Yp,by rw[yY.o],by rw[HE.o];simp,⟨by rw[HE.o];simpa using HO.o.1,HO.o.2⟩⟩,by simp[intOf];omega⟩
        |false=>
         cases hless:Op.bytesLess x.sum.toList SS.toList with
         |true=>
          have HE:=Yx (zB.o rfl hless);have yY:Hid (zD (m.take (k+1)) SS=false):=by show _=_;rw[HD.o];unfold less;rw[hless];rfl
          clear zB yX zP HI;obtain⟨K,G,wa,zJ,zI,E,zH⟩:=LP wr t.heap.size (Za g gk.length c) gk tG (x,.slice (some xP) x.B.length xQ) ⟨_,_,_,rfl⟩ Yn (by have:=M.size;omega) 36
          have zF:Tn [t.heap.size] wN wa:=⟨E.os.trans M.os,E.tape.trans M.tape,E.output.trans M.output,Zm M.size E.size,fun q C hv=>(E.block q (Zr C M.size) (fun e=>by simp[Value.ownBlock]at e;simp at hv;rcases yI with h|h<;>omega)).trans (M.block q C hv)⟩;have zW:K=t.heap.size\/wN.heap.size<=K:=by
           rcases zH with h|h
           .simp[Value.ownBlock]at h;rw[<-h];exact yI
           .have:=M.size;omega
          have yC:=zI;clear zI E zH;go_wp2_with (at_builtin;refine wpList_append_run rfl _ _ 36 36 rfl rfl rfl zJ ?_);clear zJ;have HO:=Yx (Zn yC (Zn zW zF));clear yC zW zF;go_wp2;exact⟨⟨k+1,K,G,Yw,Yp,by rw[yY.o],by rw[HE.o];simp,⟨by rw[HE.o];simpa using HO.o.1,HO.o.2⟩⟩,by simp[intOf];omega⟩
         |false=>
          have HE:=Yx (yX.o rfl hless);have yY:Hid (zD (m.take (k+1)) SS=true):=by show _=_;rw[HD.o];unfold less;rw[hless];rfl
          clear zB yX zP HI;obtain⟨K,G,wa,zJ,zI,E,zH⟩:=LP wr t.heap.size (Za g (gk.length) c) gk tG (⟨SS,d+1,j,f⟩,Za p f.length D) ⟨_,_,_,rfl⟩ Yn (by have:=M.size;omega) 36
          have zF:Tn [t.heap.size] wN wa:=⟨E.os.trans M.os,E.tape.trans M.tape,E.output.trans M.output,Zm M.size E.size,fun q C hv=>(E.block q (Zr C M.size) (fun e=>by simp[Value.ownBlock]at e;simp at hv;rcases yI with h|h<;>omega)).trans (M.block q C hv)⟩;have zW:K=t.heap.size\/wN.heap.size<=K:=by
           rcases zH with h|h
           .simp[Value.ownBlock]at h;rw[<-h];exact yI
           .have:=M.size;omega
          have yC:=zI;clear zI E zH;obtain⟨sW,_,_,_,_,_,qV,_⟩:=HN.o wa zF;obtain⟨qO,_⟩:=sW 4 _ rfl;obtain⟨rU,rV,rW,rY⟩:=rG.o wa zF;have qS:b<wa.heap.size:=Yw
          obtain⟨g9,tT,wb,xW,xV,zT,xU⟩:=LP wa t.heap.size (Za K (gk.length+1) G) (gk++[((⟨SS,d+1,j,f⟩,Za p f.length D):Kd×Value)]) yC (x,.slice (some xP) x.B.length xQ) ⟨_,_,_,rfl⟩ Yn (by have:=zF.size;omega) 36
          have sZ:Tn [t.heap.size] wN wb:=⟨zT.os.trans zF.os,zT.tape.trans zF.tape,zT.output.trans zF.output,Zm zF.size zT.size,fun q C hv=>(zT.block q (Zr C zF.size) (fun e=>by simp[Value.ownBlock]at e;simp at hv;rcases zW with h|h<;>omega)).trans (zF.block q C hv)⟩;have sI:g9=t.heap.size\/wN.heap.size<=g9:=by
           rcases xU with h|h
           .simp[Value.ownBlock]at h;rw[<-h];exact zW
           .have:=zF.size;omega
          have sV:=xV;clear xV zT xU;clear sW;go_wp2_with (first|(at_builtin;refine wpList_append_run rfl _ _ 36 36 rfl rfl rfl zJ ?_)|(at_builtin;refine wpList_append_run rfl _ _ 36 36 rfl rfl rfl xW ?_));clear zJ xW c0 c1 c2 c3 v4 o0 o1 o2 o3 qO rU rV rW rY;have HO:=Yx (Zn sV (Zn sI sZ));clear sV sI sZ yC zW zF;try go_wp2
          exact⟨⟨k+1,g9,tT,Yw,Yp,by rw[yY.o],by rw[HE.o];simp,⟨by rw[HE.o];simpa using HO.o.1,HO.o.2⟩⟩,by simp[intOf];omega⟩
       .obtain rfl:k=m.length:=Yw
        have hO:=HI.o.1;rw[Zt (Zx)]at hO |-;have hG:=HI.o.2.1;have hT:=HI.o.2.2;cases hDn:zD m SS
        case' true=>
         have xG:=Aad (((⟨SS,d+1,j,f⟩,Za p f.length D):Kd×Value)) hDn;rw[xG]at hO |-;have sK:=hT;have xE:=hO;have sC:Hid (w.heap.size<=g):=by show _<=_;rcases hG with h|h<;>omega
         clear o0 o1 o2 o3;obtain⟨K,rfl⟩:∃x,x=g:=⟨_,rfl⟩;obtain⟨G,rfl⟩:∃x,x=c:=⟨_,rfl⟩;obtain⟨w8,rfl⟩:∃x,x=wr:=⟨_,rfl⟩
        case' false=>
         have pD:=TT m (((⟨SS,d+1,j,f⟩,Za p f.length D):Kd×Value));have xG:=Acd (((⟨SS,d+1,j,f⟩,Za p f.length D):Kd×Value)) hDn;obtain⟨K,G,w8,sR,vH,yJ,sO⟩:=LP wr t.heap.size (Za g (zQ m (((⟨SS,d+1,j,f⟩,Za p f.length D):Kd×Value))).length c) (zQ m (((⟨SS,d+1,j,f⟩,Za p f.length D):Kd×Value))) hO (((⟨SS,d+1,j,f⟩,Za p f.length D):Kd×Value)) ⟨_,_,_,rfl⟩ Yw (by have:=hT.size;omega) 36
         have sK:Tn [t.heap.size] wN w8:=⟨yJ.os.trans hT.os,yJ.tape.trans hT.tape,yJ.output.trans hT.output,Zm hT.size yJ.size,fun q C hv=>(yJ.block q (Zr C hT.size) (fun e=>by simp[Value.ownBlock]at e;simp at hv;rcases hG with h|h<;>omega)).trans (hT.block q C hv)⟩
         have vS:Hid ((CQ m (((⟨SS,d+1,j,f⟩,Za p f.length D):Kd×Value))).length=(zQ m (((⟨SS,d+1,j,f⟩,Za p f.length D):Kd×Value))).length+1):=by show _=_;rw[<-xG];simp
         rw[xG]at vH;have xE:w8.ownsRow t.heap.size 99 4 (Za K (CQ m (((⟨SS,d+1,j,f⟩,Za p f.length D):Kd×Value))).length G) (CQ m (((⟨SS,d+1,j,f⟩,Za p f.length D):Kd×Value))).length (Ab kC (CQ m (((⟨SS,d+1,j,f⟩,Za p f.length D):Kd×Value)))):=by rw[vS.o];rw[vS.o]at vH;exact vH
         rw[<-vS.o]at sR;have sC:Hid (w.heap.size<=K):=by
          show _<=_;rcases sO with h|h
          .have h2:g=K:=by simpa [Value.ownBlock]using h
           rcases hG with h3|h3<;>omega
          .have:=hT.size;omega
         clear vH yJ sO
        all_goals
         obtain⟨sE,eE,rE,_,zE,vJ,pP,bE⟩:=HN.o w8 sK;obtain⟨_,pA⟩:=sE 4 _ rfl;obtain⟨X,Q⟩:∃X,X=w8.setCell (Ze (w.heap.size) 4) (Za K (CQ m ((⟨SS,d+1,j,f⟩,Za p f.length D):Kd×Value)).length G):=⟨_,rfl⟩;have tX:Tn [w.heap.size] w8 X:=by rw[Q];exact AM _ _ _ _
         have sF:=Yx Q;have vM:Hid (Aa X w.heap.size (Yj F H l (d+1) (some ⟨K,0,none⟩) ((CQ m ((⟨SS,d+1,j,f⟩,Za p f.length D):Kd×Value)).length) G Z pn pc I B.length J)):=by show Aa _ _ _;rw[Q];exact sE.set 4 _
         have vQ:=Yx (Aa.same eE (tX.block _ eE.lt Yv));have xC:Hid (Aa X (w.heap.size+2) z12):=Aa.same rE (tX.block _ rE.lt Yv);have bX:Below w.heap.size w X:=bE.trans (tX.below bE.size (by intro v hv;simp at hv;omega));have vR:Hid (X.ownsRow O 164 3 (.slice I B.length J) B.length (Ab lC B)):=Ae y.o.lo bX;have pE:w8.heap.size<=X.heap.size:=tX.size
         have xL:w.heap.size+3<=X.heap.size:=Yw
         have vU:Hid (Tn (Value.slice I B.length J).ownBlock.toList w X):=Tn.of bX;have oE:X.ownsRow t.heap.size 99 4 (Za K (CQ m ((⟨SS,d+1,j,f⟩,Za p f.length D):Kd×Value)).length G) (CQ m ((⟨SS,d+1,j,f⟩,Za p f.length D):Kd×Value)).length (Ab kC (CQ m ((⟨SS,d+1,j,f⟩,Za p f.length D):Kd×Value))):=Ak xE (fun q C=>tX.block q (Ac xE C).2 (by have:=(Ac xE C).1;simp;omega))
         have yG:X.ownsRow A.heap.size 9 1 (Za p f.length D) f.length (f.map Value.string):=Ak vJ (fun q C=>tX.block q (Ac vJ C).2 (by have:=(Ac vJ C).1;simp;omega));have rB:Bk X b 0 m:=y.o.z.below bX y.o.bl;have qD:K<X.heap.size:=(Ac oE (g:=K) rfl).2;have xT:∀g,(Value.slice I B.length J).ownBlock=some g->g<w.heap.size:=fun g hg=>(Ac y.o.lo hg).2
         have rP:Hid (∀(Y R:Zh) (n5:Nat),X.heap.size<=n5->Tn (Value.slice I B.length J).ownBlock.toList X Y->Tn [n5,w.heap.size+2] Y R->Bk R K 0 (CQ m ((⟨SS,d+1,j,f⟩,Za p f.length D):Kd×Value))):=fun Y R n5 h5 hY L=>by
          have sQ:=Ak oE (w':=Y) (fun q C=>hY.block q (Ac oE C).2 (fun e=>by have N:=xT q (by simpa using e);have h2:=(Ac oE C).1;omega));have qI:=Ak sQ (w':=R) (fun q C=>L.block q (Ac sQ C).2 (by have N:=(Ac oE C).1;have h2:=(Ac oE C).2;simp;omega));have sS:=Ak yG (w':=Y) (fun q C=>hY.block q (Ac yG C).2 (fun e=>by have N:=xT q (by simpa using e);have h2:=(Ac yG C).1;omega))
          have qJ:=Ak sS (w':=R) (fun q C=>L.block q (Ac sS C).2 (by have N:=(Ac yG C).1;have h2:=(Ac yG C).2;simp;omega));have sM:b<X.heap.size:=Zr xJ bX.size
          have zR:=(rB.Y hY sM (fun e=>y.o.bL (Eq.symm (by simpa using e))) (fun z T a n c e2 e3 zY=>y.o.zL z T a n c e2 e3 (Eq.symm (by simpa using zY)))).Y L (Zr sM hY.size) Yu (fun z T a n c e2 e3 zY=>by simp at zY;have:=y.o.z.bu T e2 e3;omega);refine Bk.own qI (fun z T=> ?_);rcases KV T with T|rfl
          .obtain⟨i,hi⟩:=List.getElem?_of_mem T;obtain⟨_,rT,qM,e4,rZ⟩:=zR i z hi;exact⟨rT,qM,e4,rZ⟩
          .have tV:Ad R R.heap.size (some ⟨p,0,none⟩) f:=by have N:R.ownsRow A.heap.size 9 1 (Za p f.length D) f.length (f.map Value.string):=qJ;exact Ad.own N
           exact⟨⟨p,0,none⟩,D,rfl,tV⟩
         have sG:Hid (CF F d (m.map (·.1)) j f ((CQ m ((⟨SS,d+1,j,f⟩,Za p f.length D):Kd×Value)).map (·.1)) (d+1)):=by show CF _ _ _ _ _ _ _;rw[VM];exact xY.o
         have xS:Hid (w.heap.size<K/\K<X.heap.size/\w.heap.size<p/\p<X.heap.size):=by
          have N:t.heap.size<=K/\K<X.heap.size:=Ac oE (g:=K) rfl;have h2:A.heap.size<=p/\p<X.heap.size:=Ac yG (g:=p) rfl;have h3:=sH.o.1;have h4:w.heap.size+3<=t.heap.size:=by have N:=zV.o.size;have h2:=vA.o;omega
          exact⟨Yw,N.2,Yw,h2.2⟩
         have rQ:Hid (∀z∈CQ m ((⟨SS,d+1,j,f⟩,Za p f.length D):Kd×Value),z∈m\/∃ad n rc,z.2=.slice (some ad) n rc/\w.heap.size<=ad.block):=fun z T=>by
          rcases KV T with T|rfl
          .exact .inl T
          .exact .inr ⟨⟨p,0,none⟩,_,_,rfl,by have:=sH.o.1;show w.heap.size<=p;omega⟩
         clear hDn xG Q tX sE eE rE zE vJ oE yG rB bE bX hO xE HI;go_upto_region 29 with(at_builtin;refine wpList_append_run rfl _ _ 36 36 rfl rfl rfl sR ?_);rw[<-sF.o];clear sF
         have xA:=Yx (IA F H l (d+1) (some ⟨K,0,none⟩) Z I (CQ m ((⟨SS,d+1,j,f⟩,Za p f.length D):Kd×Value)).length G pn pc J O B SS V X vR.o (Zm y.o.lb (Zm (Nat.le_add_right _ 3) xL)) (by have:=y.o.nl;omega) y.o.g0 y.o.g1 y.o.n0 y.o.n1 y.o.t0 y.o.t1);obtain⟨l0,l1,l2,l3,l4,l5,l6⟩:=Aa.c7 vM.o 0 1 2 3 4 5 6;obtain⟨m3,_⟩:=vQ.o 3 _ rfl;go_wp2_with fail;refine Calls.mono xA.o ?_
         rintro e P ⟨zK,yT⟩;have yE:∀g,(Value.slice I B.length J).ownBlock=some g->g<w.heap.size:=fun g hg=>(Ac y.o.lo hg).2;have zZ:Aa P (w.heap.size+2) z12:=Aa.same xC.o (zK.block _ xC.o.lt (fun e=>by have:=yE _ (by simpa using e);omega));have qG:w.heap.size+3<=P.heap.size:=Zm xL zK.size;have xD:Hid (Tn (Value.slice I B.length J).ownBlock.toList w P):=vU.o.trans zK
         clear l0 l1 l2 l3 l4 l5 l6 m3 xA;obtain⟨S,rfl⟩|⟨⟨tC,vX⟩,g2,c2,rfl,yF,zG⟩:=yT
         .obtain⟨Y,hY⟩:∃Y,Y=P.alloc (.cells (Yf 4) 88):=⟨_,rfl⟩;have bY:Below P.heap.size P Y:=by rw[hY];exact Zy
          have u:Aa Y P.heap.size (Yd 4):=by rw[hY];exact Aa.new P _ _
          have yR:=Aa.below (v:=Zf) zZ bY;have HY:=Yx hY;have zC:Hid (Tn (Value.slice I B.length J).ownBlock.toList w Y):=xD.o.trans (Tn.of bY);have yH:Hid (B.length=200\/l=1000000000):=by have N:=y.o.nl;have h2:=y.o.g1;show _\/_;omega
          obtain⟨⟨y0,q0⟩,⟨y1,q1⟩,⟨y2,q2⟩,⟨y3,q3⟩,⟨y4,q4⟩,⟨y5,q5⟩,⟨y6,q6⟩,⟨y7,q7⟩,⟨y8,q8⟩,⟨y9,q9⟩,⟨zM,yM⟩,zO,yO⟩:=AY yR;obtain⟨u0,tJ⟩:=u 0 _ rfl;obtain⟨u1,tK⟩:=u 1 _ rfl;obtain⟨u2,tL⟩:=u 2 _ rfl;obtain⟨u3,tM⟩:=u 3 _ rfl;obtain⟨u4,tN⟩:=u 4 _ rfl;obtain⟨u5,tO⟩:=u 5 _ rfl;obtain⟨u6,tP⟩:=u 6 _ rfl;obtain⟨u7,tQ⟩:=u 7 _ rfl;obtain⟨u8,tR⟩:=u 8 _ rfl;obtain⟨u9,tS⟩:=u 9 _ rfl
          obtain⟨tH,yV⟩:=u 10 _ rfl;obtain⟨tI,yW⟩:=u 11 _ rfl;clear bY u yR hY zZ zK S;go_upto_region 30 with fail;rw[<-HY.o];clear HY;go_wp2;refine bodyPost_ret (v:=.agg (Cq 4 ⟨#[]⟩ ⟨#[]⟩).toArray) (by simp[results,results137,go_sem,y0,y1,y2,y3,y4,y5,y6,y7,y8,y9,zM,zO,Cq]) rfl ?_
          exact⟨Tn.fresh zC.o (Bd Y (w.heap.size+2) _ _ _ _ _ _ _ _ _ _ _ _) Yw,.inl ⟨4,_,_,.inr ⟨zS.o,.inr (.inr ⟨⟨_,_,sG.o⟩,yH.o,rfl,rfl,rfl⟩)⟩,rfl⟩⟩
         .obtain⟨Y,hY⟩:∃Y,Y=P.alloc (.cells #[Zf,Zg F,Zg H,Zg (l+1),Zg (d+1),Za K (CQ m ((⟨SS,d+1,j,f⟩,Za p f.length D):Kd×Value)).length G,.slice Z pn pc,Za g2 (B.length+1) c2,Zd,Zg (l+1),Zd,Zd] 88):=⟨_,rfl⟩;have bY:Below P.heap.size P Y:=by rw[hY];exact Zy
          have u:Aa Y P.heap.size [Zf,Zg F,Zg H,Zg (l+1),Zg (d+1),Za K (CQ m ((⟨SS,d+1,j,f⟩,Za p f.length D):Kd×Value)).length G,.slice Z pn pc,Za g2 (B.length+1) c2,Zd,Zg (l+1),Zd,Zd]:=by rw[hY];exact Aa.new P _ _
          have yR:=Aa.below (v:=Zf) zZ bY;have HY:=Yx hY;have zC:Hid (Tn (Value.slice I B.length J).ownBlock.toList w Y):=xD.o.trans (Tn.of bY);have xB:=Yx (Ae yF bY);have vF:P.heap.size<Y.heap.size:=u.lt;have yA:Tn (Value.slice I B.length J).ownBlock.toList X Y:=zK.trans (Tn.of bY)
          have xO:∀R,Tn [P.heap.size,w.heap.size+2] Y R->Sc O b F H l d V m (.slice Z pn pc) (.slice I B.length J) B j f w (.returned (.agg #[Zf,Zg F,Zg H,Zg (l+1),Zg (d+1),Za K (CQ m ((⟨SS,d+1,j,f⟩,Za p f.length D):Kd×Value)).length G,.slice Z pn pc,Za g2 (B.length+1) c2,.string SS,Zg (l+1),Zd,Zd])) R:=fun R L=>by
           have tF:Bk R K 0 (CQ m ((⟨SS,d+1,j,f⟩,Za p f.length D):Kd×Value)):=rP.o Y R _ zK.size yA L;have yS:g2≠P.heap.size/\g2≠w.heap.size+2:=by
            have N:=(Ac yF (g:=g2) rfl).2;rcases zG with zG|zG
            .have h4:=yE _ zG;omega
            .omega
           have tD:=Ak xB.o (w':=R) (fun q C=>L.block q (Ac xB.o C).2 (by
            have h3:g2=q:=by simpa [Value.ownBlock]using C
            rw[<-h3];simp;exact yS))
           refine⟨?_,.inr ⟨_,_,K,G,CQ m ((⟨SS,d+1,j,f⟩,Za p f.length D):Kd×Value),g2,c2,zS.o,sG.o,tC,vX,by rw[hSS],rfl,tF,?_,.inr sC.o,rQ.o,(by rcases zG with h|h;exact .inl h;exact .inr Yw),by rw[hSS];exact tD,(by have h0:=xS.o;rcases zG with h|h;(have N:=yE _ h;omega);omega),fun z T a n c e2 e3 e=>by
            have h0:=xS.o;rcases KV T with T|rfl
            .rcases zG with h|h
             .exact y.o.zL z T a n c e2 e3 (by rw[h,e])
             .have:=y.o.z.bu T e2 e3;omega
            .cases e2;have e':p=g2:=e;rcases zG with h|h
             .have N:=yE _ h;omega
             .omega⟩⟩
           .exact⟨L.os.trans zC.o.os,L.tape.trans zC.o.tape,L.output.trans zC.o.output,Zm zC.o.size L.size,fun q C hv=>(L.block q (Zr C zC.o.size) Yu).trans (zC.o.block q C hv)⟩
           .exact Zr qD (Zm yA.size L.size)
          have yP:=Yx xO;obtain⟨⟨y0,q0⟩,⟨y1,q1⟩,⟨y2,q2⟩,⟨y3,q3⟩,⟨y4,q4⟩,⟨y5,q5⟩,⟨y6,q6⟩,⟨y7,q7⟩,⟨y8,q8⟩,⟨y9,q9⟩,⟨zM,yM⟩,zO,yO⟩:=AY yR;obtain⟨u0,tJ⟩:=u 0 _ rfl;obtain⟨u1,tK⟩:=u 1 _ rfl;obtain⟨u2,tL⟩:=u 2 _ rfl;obtain⟨u3,tM⟩:=u 3 _ rfl;obtain⟨u4,tN⟩:=u 4 _ rfl;obtain⟨u5,tO⟩:=u 5 _ rfl;obtain⟨u6,tP⟩:=u 6 _ rfl;obtain⟨u7,tQ⟩:=u 7 _ rfl;obtain⟨u8,tR⟩:=u 8 _ rfl;obtain⟨u9,tS⟩:=u 9 _ rfl
          obtain⟨tH,yV⟩:=u 10 _ rfl;obtain⟨tI,yW⟩:=u 11 _ rfl;clear bY u yR hY zZ zK xO yF yA;go_upto_region 30 with fail;rw[<-HY.o];clear HY;go_wp2
          refine bodyPost_ret (v:=.agg #[Zf,Zg F,Zg H,Zg (l+1),Zg (d+1),Za K (CQ m ((⟨SS,d+1,j,f⟩,Za p f.length D):Kd×Value)).length G,.slice Z pn pc,Za g2 (B.length+1) c2,.string SS,Zg (l+1),Zd,Zd]) (by simp[results,results137,go_sem,y0,y1,y2,y3,y4,y5,y6,y7,y8,y9,zM,zO]) rfl ?_;refine yP.o _ ?_
          repeat refine Tn.trans ?_ (Tn.set _ _ _ _ Yv)
          exact Tn.of (Below.refl _ _)
end Go.Proofs.YtcankpdbabaacaaGreatDoor
