import Derived.Test.YtoglnpagihdhpaaGreatDoorX24
import Derived.Test.YtoglnpagihdhpaaGreatDoorX17
set_option maxRecDepth 100000
set_option maxHeartbeats 16000000
namespace Go.Proofs.YtoglnpagihdhpaaGreatDoor
open ChangeShapes WideShapes ChangeAt RowKit _root_.Go.Proofs.Tryz
variable{w:Zh}{b n:Nat}
def Sz(lbase b0:Nat)(wd now given births num:Int)(zs:List (Kd×Value))(P L:Value)(ls:List Ld)(text:Zi)(refs:Zl)(w:Zh)(e:Ending)(w':Zh):Prop:=
 Tn L.ownBlock.toList w w'/\(
  (∃c a b,Gl wd given births (zs.map (·.1)) ls text refs c a b/\e=.returned (.agg (BB c a b).toArray))\/
  (∃ks1 ai g gc zs1 g2 c2,(∀r∈refs,Au (zs.map (·.1)) r)/\Cx wd births (zs.map (·.1)) text refs ks1 ai/\ls.length<200/\given<1000000000/\
    e=.returned (.agg #[Ze,Zg wd,Zg now,Zg (given+1),Zg ai,.slice (some ⟨g,0,none⟩) zs1.length gc,P,.slice (some ⟨g2,0,none⟩) (ls.length+1) c2,.string (AV text refs wd),Zg (given+1),Zc,Zc])/\
    zs1.map (·.1)=ks1/\Bi w' g 0 zs1/\g<w'.heap.size/\((g=b0/\zs1=zs)\/w.heap.size<=g)/\(∀z∈zs1,z∈zs\/∃ad n rc,z.2=.slice (some ad) n rc/\w.heap.size<=ad.block)/\(L.ownBlock=some g2\/w.heap.size<=g2)/\w'.ownsRow lbase 71 3 (.slice (some ⟨g2,0,none⟩) (ls.length+1) c2) (ls++[(⟨given+1,AV text refs wd,now+num⟩:Ld)]).length (Ab lC (ls++[(⟨given+1,AV text refs wd,now+num⟩:Ld)]))/\g≠g2/\∀z∈zs1,∀ad n rc,z.2=.slice (some ad) n rc->z.1.B≠[]->ad.block≠g2))
theorem Bi.K{u:Zh}{m:Nat}{v:List (Kd×Value)}{V:List Nat}(h:Bi w b m v)(r:Tn V w u)(G:b<w.heap.size)(F:b∉V)(I:∀z∈v,∀d n t,z.2=.slice (some d) n t->z.1.B≠[]->d.block∉V):Bi u b m v:=by
 intro i z l;obtain⟨⟨B,C,D,E⟩,d,t,x,q⟩:=h i z l;have g:∀o,u.cell? (Zd b o)=w.cell? (Zd b o):=fun o=>World.cell?_of_block (a:=⟨b,o,none⟩) (r.block b G F);refine⟨⟨(g _).trans B,(g _).trans C,(g _).trans D,(g _).trans E⟩,d,t,x,?_⟩;by_cases hre:z.1.B=[]
 .exact .inl hre
 rcases q with q|⟨f,c,e,k,A⟩
 .exact .inl q
 .cases e;have y:f∉V:=I z (Zs l) _ _ _ x hre;exact .inr ⟨f,c,rfl,Zr k r.size,fun j s H=>(World.cell?_of_block (a:=⟨f,c+j,none⟩) (r.block f k y)).trans (A j s H)⟩
theorem Bi.cj{j:Nat}{f:List (Kd×Value)}(h:Bi w b j f){z:Kd×Value}(q:z∈f){c:Addr}{r:Nat}(l:z.2=.slice (some c) n r)(o:z.1.B≠[]):c.block<w.heap.size:=by
 obtain⟨i,m⟩:=List.getElem?_of_mem q;obtain⟨_,s,t,d,a⟩:=h i z m;rw[l]at d;cases d;rcases a with a|⟨u,k,e,g,_⟩
 .exact absurd a o
 .cases e;exact g
theorem Abr{f g i j:Value}(h:Aa w b [f,g,i,j])(a c d e:Value):Aa ((((w.setCell (Zd b 0) a).setCell (Zd b 1) c).setCell (Zd b 2) d).setCell (Zd b 3) e) b [a,c,d,e]:=
 (((h.set 0 a).set 1 c).set 2 d).set 3 e
theorem VL{a:Nat}{e:TypeId}{size:Nat}{v:Value}{d:Zj}(h:w.ownsRow a e size v n d)(c:∀g,v.ownBlock=some g->g≠b)(f i j k:Value):((((w.setCell (Zd b 0) f).setCell (Zd b 1) i).setCell (Zd b 2) j).setCell (Zd b 3) k).ownsRow a e size v n d:=
 BM (BM (BM (BM h c 0 _) c 1 _) c 2 _) c 3 _
theorem SA{B:Nat}{a:Zh}(h:Below B a w)(c:B<=b)(d e f g:Value):Below B a ((((w.setCell (Zd b 0) d).setCell (Zd b 1) e).setCell (Zd b 2) f).setCell (Zd b 3) g):=
 (((h.setCell c d).setCell c e).setCell c f).setCell c g
structure Wv (w:Zh) (lbase:Nat) (wd now given births num:Int) (ta:Zk) (b:Nat) (zs:List (Kd×Value)) (la:Zk) (lc:Nat) (ls:List Ld) (text:Zi) (refs:Zl) (ra:Zk) (rc:Nat):Prop where
 tb:ta=some ⟨b,0,none⟩\/zs=[]
 rn:ra=none->refs.length=0/\rc=0
 z:Bi w b 0 zs
 bl:b<w.heap.size
 lo:w.ownsRow lbase 71 3 (.slice la ls.length lc) ls.length (Ab lC ls)
 lb:lbase<=w.heap.size
 bL:some b≠(Value.slice la ls.length lc).ownBlock
 zL:∀z∈zs,∀ad n rc,z.2=.slice (some ad) n rc->z.1.B≠[]->some ad.block≠(Value.slice la ls.length lc).ownBlock
 r:Ad w w.heap.size ra refs
 ok:Em wd (zs.map (·.1))
 w1:1<=wd
 cg:∀z∈zs,z.1.J.size<=maxLen
 tl:text.size<=maxLen
 rl:refs.length<=1000
 b0:0<=births
 b1:births<=1000000000
 g0:0<=given
 g1:given<=1000000000
 n0:0<=now
 n1:now<=1000000000
 t0:0<=num
 t1:num<=1000000000
 nl:ls.length<=200
theorem YC(b:Zi)(a:Zl)(c:Int)(h:1<=c):((AV b a c).size:Int)=c:=GH ⟨⟨#[]⟩,0,b,a⟩ c h
theorem Uh(O:Nat)(G now l d kd V:Int)(ta:Zk)(b tc:Nat)(m:List (Kd×Value))(Z I:Zk)(pn pc J:Nat)(C:List Ld)(s nm j:Zi)(f:Zl)(ra:Zk)(rc:Nat)(w:Zh)(h:Wv w O G now l d V ta b m I J C j f ra rc):
 Calls prog 46 #[.agg (Yg G now l d ta m.length tc Z pn pc I C.length J),.agg (Xz kd s nm V j ra f.length rc)] w (Sz O b G now l d V m (.slice Z pn pc) (.slice I C.length J) C j f w):=by
 obtain⟨W,hW⟩:=Af (((w.alloc (.cells (Yg G now l d ta m.length tc Z pn pc I C.length J) 30)).alloc (.cells (Xz kd s nm V j ra f.length rc) 38)).alloc (.cells Xy 32));have bW:=(Bo hW).1;have qI:=(Bo hW).2.1;have x0:=(Bo hW).2.2.1;have xe:Aa W (w.heap.size+1) (Ya kd s nm V j ra f.length rc):=by have N:=Aa.new (w.alloc (.cells (Yg G now l d ta m.length tc Z pn pc I C.length J) 30)) (Ya kd s nm V j ra f.length rc) 38;rw[World.size_alloc]at N;rw[hW];exact Aa.below N (Zy)
 have x1:Aa W (w.heap.size+2) z12:=by have N:=Aa.new ((w.alloc (.cells (Yg G now l d ta m.length tc Z pn pc I C.length J) 30)).alloc (.cells (Xz kd s nm V j ra f.length rc) 38)) z12 32;rw[World.size_alloc,World.size_alloc]at N;rw[hW];exact N
 have HX:Hid (∀X,Zz W X->Aa X w.heap.size (Yh G now l d ta m.length tc Z pn pc I C.length J)/\Aa X (w.heap.size+1) (Ya kd s nm V j ra f.length rc)/\Aa X (w.heap.size+2) z12/\Zz w X/\Bi X b 0 m/\Ad X X.heap.size ra f):=fun X Q=>by have hb:Below w.heap.size w X:=bW.trans (Q.mono bW.size);exact⟨Aa.below x0 Q,Aa.below xe Q,Aa.below (v:=Ze) x1 Q,hb,h.z.below hb h.bl,Ad.mono (Ad.below h.r hb) hb.size⟩
 have B:=Yw h;have pJ:=YC j f G h.w1;have vA:Hid (W.heap.size=w.heap.size+3):=qI;have xJ:=h.bl;have pH:=h.rl;have qB:=h.ok.len;rw[List.length_map]at qB;have hF:Hid (∀X (r:Zi),Zz W X->Calls prog 49 #[.agg (Yg G now l d ta m.length tc Z pn pc I C.length J),.string r] X fun e w'=>e=.returned (Zg (CJ (m.map (·.1)) r))/\Zz X w'):=fun X r Q=>by
  have qC:Bu X X.heap.size ta (m.map (·.1)):=by
   rcases B.o.tb with e|e
   .rw[e];exact(HX.o X Q).2.2.2.2.1.dq (by have N:=Q.size;have h2:=vA.o;omega)
   .rw[e];exact .inl rfl
  have N:=Ey G now l d ta tc (.slice Z pn pc) (.slice I C.length J) (m.map (·.1)) r X X.heap.size qC (Zx) (by rw[List.length_map];omega);rw[List.length_map]at N;exact N
 have HW:=Yw hW;have tW:=Yw (MZ j ra rc f G W (Ad.mono (Ad.below h.r bW) bW.size) Yv h.tl);obtain⟨v0,_⟩:=x0 0 _ rfl;obtain⟨e4,e5⟩:=Aa.c2 xe 4 5;clear hW bW x0 xe x1 h;go_enter func46,ntmps46;go_upto_region 1 with fail;rw[<-HW.o];clear HW;go_wp2_with fail;refine tW.Ah ?_;rintro e w1 ⟨rfl,vV⟩;have tT:Hid (Zz W w1):=vV;have vS:=Yw (Ot (AE j f G) G w1 (FA _ _ _) B.o.w1 B.o.ok.w8)
 have sG:EJ (AE j f G).data.toList G.toNat=AV j f G:=rfl;rw[sG]at vS;clear sG tW v0 e4 e5;obtain⟨v0,_⟩:=(HX.o w1 vV).1 0 _ rfl;generalize hFF:AE j f G=FF at *
 generalize hSS:AV j f G=SS at *
 go_wp2_with fail;refine vS.Ah ?_;rintro e w2 ⟨rfl,vF⟩;have sY:Hid (Zz W w2):=tT.o.trans (vF.mono tT.o.size);clear vS v0 vV vF;go_wp2
 go_loopw [7] (fun i wr=>∃(k:Nat),k<=f.length/\i=Zg k/\Hid ((∀r∈f.take k,Au (m.map (·.1)) r)/\Zz W wr)) (fun i _=>f.length -(intOf i).toNat)
 case atStart=>exact⟨0,Nat.zero_le _,rfl,⟨fun r hr=>by simp at hr,sY.o⟩⟩
 case round=>
  obtain⟨k,hk,rfl,HI⟩:=hrel;obtain⟨x0,xe,x1,U,hZ,L⟩:=HX.o wr HI.o.2;have vN:Hid (Zz w wr):=U;obtain⟨e5,_⟩:=xe 5 _ rfl;by_cases hlt:k<f.length
  .obtain⟨rb,qT,ha,qH,sQ⟩:=L.at hlt;subst ha;have HG:Hid (f[k]?=some f[k]):=Zv hlt;have c0:=sQ k _ HG.o;have rI:Hid (f.take (k+1)=f.take k++[f[k]]):=Zu hlt;clear sQ;generalize f[k]=r at *
   have D0:Below wr.heap.size wr wr.drew:=Ae.drew;have sZ:Below W.heap.size W wr.drew:=HI.o.2.trans (D0.mono HI.o.2.size);have yZ:=Yw (hF.o wr.drew r sZ);have pI:rb<wr.heap.size:=qH;obtain⟨v0,v1,v2,v3,v4,v5,v6⟩:=Aa.c7 x0 0 1 2 3 4 5 6;have rJ:Hid (Aa wr (w.heap.size+2) z12):=x1;clear x0 xe x1 hZ L U;go_wp2;go_region_with (go_at_call 49;refine yZ.Ah ?_;rintro e u ⟨rfl,xI⟩)
   all_goals
    have zV:Hid (Zz wr u):=D0.trans xI;clear xI c0 e5 v0 v1 v2 v3 v4 v5 v6 yZ;by_cases hth:Au (m.map (·.1)) r
    .obtain⟨fi,fk,xK,_,_⟩:=MP hth;rw[xK];have yD:Hid (Au (m.map (·.1)) r):=hth;clear hth xK;go_wp2;refine⟨⟨k+1,Yv,Yn,⟨?_,HI.o.2.trans (zV.o.mono HI.o.2.size)⟩⟩,Ys⟩;rw[rI.o];intro r' yL;rcases List.mem_append.1 yL with yL|yL
     .exact HI.o.1 r' yL
     .simp at yL;rw[yL];exact yD.o
    .have rY:=IB hth;have yD:Hid (¬Au (m.map (·.1)) r):=hth;generalize CJ (m.map (·.1)) r=fi at *
     obtain⟨⟨y0,q0⟩,⟨y1,q1⟩,⟨y2,q2⟩,⟨y3,q3⟩,⟨y4,q4⟩,⟨y5,q5⟩,⟨y6,q6⟩,⟨y7,q7⟩,⟨y8,q8⟩,⟨y9,q9⟩,⟨zM,yM⟩,zO,yO⟩:=AS (Aa.below (v:=Ze) rJ.o zV.o);clear hth;go_wp2;refine bodyPost_ret (v:=.agg (BB 2 ⟨#[]⟩ ⟨#[]⟩).toArray) (by simp[results,results46,go_sem,y0,y1,y2,y3,y4,y5,y6,y7,y8,y9,zM,zO,BB]) rfl ?_;have rW:Below w.heap.size w u:=vN.o.trans (zV.o.mono vN.o.size)
     exact⟨Tn.fresh (Tn.of rW) (Ba u (w.heap.size+2) _ _ _ _ _ _ _ _ _ _ _ _) Yv,.inl ⟨2,_,_,.inl ⟨fun zU=>yD.o (zU r (Zs HG.o)),rfl,rfl,rfl⟩,rfl⟩⟩
  .obtain rfl:k=f.length:=Yv
   have zU:=HI.o.1;rw[Zt (Zx)]at zU;have zS:Hid (∀r∈f,Au (m.map (·.1)) r):=zU;have vL:Hid (Zz W wr):=HI.o.2;have yZ:=Yw (hF.o wr SS HI.o.2);obtain⟨v0,v1,v2,v3,v4,v5,v6⟩:=Aa.c7 x0 0 1 2 3 4 5 6;clear zU HI x0 xe x1 U hZ L;go_wp2_with fail;refine yZ.Ah ?_;rintro e u ⟨rfl,xI⟩;have zV:Hid (Zz W u):=vL.o.trans (xI.mono vL.o.size);clear v0 v1 v2 v3 v4 v5 v6 yZ xI vL e5 vN
   obtain⟨x0,xe,x1,U,hZ,L⟩:=HX.o u zV.o;by_cases hth:Au (m.map (·.1)) SS
   .obtain⟨i,k,xK,vX,sL⟩:=MP hth;rw[xK];rw[List.getElem?_map]at vX;obtain⟨z,yB,rfl⟩:=Option.map_eq_some_iff.1 vX;obtain rfl:ta=some ⟨b,0,none⟩:=B.o.tb.resolve_right (fun e=>by rw[e]at yB;simp at yB);obtain⟨⟨_,_,c2,c3⟩,xP,xQ,xN,sR⟩:=hZ i z yB;rw[xN]at c3;rw[Nat.zero_add]at c2 c3;have pE:(i:Int)<m.length:=by have:=(Zw yB).1;omega
    have D3:Below u.heap.size u u.drew:=Ae.drew;have tV:=Yw (MZ z.1.J (some xP) xQ z.1.B G u.drew (Ad.mono (Ad.below sR D3) D3.size) (by have:=(B.o.ok.B z.1 (List.mem_map.2 ⟨z,Zs yB,rfl⟩)).1;omega) (B.o.cg z (Zs yB)));have xZ:Hid (z∈m/\z.1.sum=SS):=⟨Zs yB,sL⟩;obtain⟨v0,v4⟩:=Aa.c2 x0 0 4;have tR:b<u.heap.size:=Zr xJ U.size;clear x0 xe x1 U hZ L hth xK vX yB xN sR sL
    go_upto_region 10 with fail;go_region_with (go_at_call 100;refine tV.Ah ?_;rintro e w4 ⟨rfl,sI⟩)
    all_goals
     have tU:Hid (Zz W w4):=zV.o.trans ((D3.trans sI).mono zV.o.size);clear sI c2 c3 v0 v4 tV;obtain⟨x0,xe,x1,U,hZ,L⟩:=HX.o w4 tU.o;by_cases hsame:AE z.1.J z.1.B G=FF
     .have D:(FF.toList !=FF.toList)=false:=Yu
      rw[hsame];have xY:Hid (Cx G d (m.map (·.1)) j f (m.map (·.1)) d):=.inl ⟨z.1,List.mem_map.2 ⟨z,xZ.o.1,rfl⟩,by rw[hSS];exact xZ.o.2,by rw[hsame,hFF],rfl,rfl⟩;have vM:=Yw x0;have vP:=Yw xe;have xC:Hid (Aa w4 (w.heap.size+2) z12):=x1;have vQ:Hid (w4.ownsRow O 71 3 (.slice I C.length J) C.length (Ab lC C)):=Ag B.o.lo U
      have xL:w.heap.size+3<=w4.heap.size:=by have N:=tU.o.size;have h2:=vA.o;omega
      have vT:Hid (Tn (Value.slice I C.length J).ownBlock.toList w w4):=Tn.of U;have rK:Hid (Bi w4 b 0 m):=hZ;have yQ:b<w4.heap.size:=Zr xJ U.size;clear x0 xe x1 U hZ L hsame;have xA:=Yw (Il G now l (d) (some ⟨b,0,none⟩) Z I (m).length tc pn pc J O C SS V w4 vQ.o (Zm B.o.lb (Zm (Nat.le_add_right _ 3) xL)) (by have:=B.o.nl;omega) B.o.g0 B.o.g1 B.o.n0 B.o.n1 B.o.t0 B.o.t1)
      obtain⟨l0,l1,l2,l3,l4,l5,l6⟩:=Aa.c7 vM.o 0 1 2 3 4 5 6;obtain⟨m3,_⟩:=vP.o 3 _ rfl;go_wp2_with fail;refine xA.Ah ?_;rintro e P ⟨zK,yT⟩;have yE:∀g,(Value.slice I C.length J).ownBlock=some g->g<w.heap.size:=fun g hg=>(Ac B.o.lo hg).2;have zZ:Aa P (w.heap.size+2) z12:=Aa.same xC.o (zK.block _ xC.o.lt (fun e=>by have:=yE _ (by simpa using e);omega))
      have qD:w.heap.size+3<=P.heap.size:=Zm xL zK.size;have xD:Hid (Tn (Value.slice I C.length J).ownBlock.toList w P):=vT.o.trans zK;clear l0 l1 l2 l3 l4 l5 l6 m3 xA;obtain⟨S,rfl⟩|⟨⟨vY,vW⟩,g2,c2,rfl,yF,zG⟩:=yT
      .obtain⟨Y,hY⟩:=Af (P.alloc (.cells (Xx 4) 32));have bY:Below P.heap.size P Y:=by rw[hY];exact Zy
       have y:Aa Y P.heap.size (Xr 4):=by rw[hY];exact Aa.new P _ _
       have yR:=Aa.below (v:=Ze) zZ bY;have HY:=Yw hY;have zC:Hid (Tn (Value.slice I C.length J).ownBlock.toList w Y):=xD.o.trans (Tn.of bY);have yH:Hid (C.length=200\/l=1000000000):=by have N:=B.o.nl;have h2:=B.o.g1;show _\/_;omega
       obtain⟨⟨y0,q0⟩,⟨y1,q1⟩,⟨y2,q2⟩,⟨y3,q3⟩,⟨y4,q4⟩,⟨y5,q5⟩,⟨y6,q6⟩,⟨y7,q7⟩,⟨y8,q8⟩,⟨y9,q9⟩,⟨zM,yM⟩,zO,yO⟩:=AS yR;obtain⟨u0,tG⟩:=y 0 _ rfl;obtain⟨u1,tH⟩:=y 1 _ rfl;obtain⟨u2,tI⟩:=y 2 _ rfl;obtain⟨u3,tJ⟩:=y 3 _ rfl;obtain⟨u4,tK⟩:=y 4 _ rfl;obtain⟨u5,tL⟩:=y 5 _ rfl;obtain⟨u6,tM⟩:=y 6 _ rfl;obtain⟨u7,tN⟩:=y 7 _ rfl;obtain⟨u8,tO⟩:=y 8 _ rfl;obtain⟨u9,tP⟩:=y 9 _ rfl;obtain⟨tE,yV⟩:=y 10 _ rfl
       obtain⟨tF,yW⟩:=y 11 _ rfl;clear bY y yR hY zZ zK S;go_upto_region 30 with fail;rw[<-HY.o];clear HY;go_wp2;refine bodyPost_ret (v:=.agg (BB 4 ⟨#[]⟩ ⟨#[]⟩).toArray) (by simp[results,results46,go_sem,y0,y1,y2,y3,y4,y5,y6,y7,y8,y9,zM,zO,BB]) rfl ?_
       exact⟨Tn.fresh zC.o (Ba Y (w.heap.size+2) _ _ _ _ _ _ _ _ _ _ _ _) Yv,.inl ⟨4,_,_,.inr ⟨zS.o,.inr (.inr ⟨⟨_,_,xY.o⟩,yH.o,rfl,rfl,rfl⟩)⟩,rfl⟩⟩
      .obtain⟨Y,hY⟩:=Af (P.alloc (.cells #[Ze,Zg G,Zg now,Zg (l+1),Zg (d),Yz b m.length tc,.slice Z pn pc,Yz g2 (C.length+1) c2,Zc,Zg (l+1),Zc,Zc] 32));have bY:Below P.heap.size P Y:=by rw[hY];exact Zy
       have y:Aa Y P.heap.size [Ze,Zg G,Zg now,Zg (l+1),Zg (d),Yz b m.length tc,.slice Z pn pc,Yz g2 (C.length+1) c2,Zc,Zg (l+1),Zc,Zc]:=by rw[hY];exact Aa.new P _ _
       have yR:=Aa.below (v:=Ze) zZ bY;have HY:=Yw hY;have zC:Hid (Tn (Value.slice I C.length J).ownBlock.toList w Y):=xD.o.trans (Tn.of bY);have xB:=Yw (Ag yF bY);have vF:P.heap.size<Y.heap.size:=y.lt;have yA:Tn (Value.slice I C.length J).ownBlock.toList w4 Y:=zK.trans (Tn.of bY)
       have xO:∀R,Tn [P.heap.size,w.heap.size+2] Y R->Sz O b G now l d V m (.slice Z pn pc) (.slice I C.length J) C j f w (.returned (.agg #[Ze,Zg G,Zg now,Zg (l+1),Zg (d),Yz b m.length tc,.slice Z pn pc,Yz g2 (C.length+1) c2,.string SS,Zg (l+1),Zc,Zc])) R:=fun R L=>by
        have tC:Bi R b 0 (m):=((rK.o.K yA yQ (fun e=>B.o.bL (Eq.symm (by simpa using e))) (fun z T a n c e2 e3 zY=>B.o.zL z T a n c e2 e3 (Eq.symm (by simpa using zY)))).K L (Zr yQ yA.size) Yt (fun z T a n c e2 e3 zY=>by simp at zY;have:=B.o.z.cj T e2 e3;omega));have yS:g2≠P.heap.size/\g2≠w.heap.size+2:=by
         have N:=(Ac yF (g:=g2) rfl).2;rcases zG with zG|zG
         .have h4:=yE _ zG;omega
         .omega
        have vZ:=Ak xB.o (w':=R) (fun q D=>L.block q (Ac xB.o D).2 (by
         have h3:g2=q:=by simpa [Value.ownBlock]using D
         rw[<-h3];simp;exact yS))
        refine⟨?_,.inr ⟨_,_,b,tc,m,g2,c2,zS.o,xY.o,vY,vW,by rw[hSS],rfl,tC,?_,.inl ⟨rfl,rfl⟩,fun z T=> .inl T,(by rcases zG with h|h;exact .inl h;exact .inr Yv),by rw[hSS];exact vZ,(by rcases zG with h|h;exact fun e=>B.o.bL (by rw[h,e]);exact fun e=>by omega),fun z T a n c e2 e3 e=>by
         rcases zG with h|h
         .exact B.o.zL z T a n c e2 e3 (by rw[h,e])
         .have:=B.o.z.cj T e2 e3;omega⟩⟩
        .exact⟨L.os.trans zC.o.os,L.tape.trans zC.o.tape,L.output.trans zC.o.output,Zm zC.o.size L.size,fun q D hv=>(L.block q (Zr D zC.o.size) Yt).trans (zC.o.block q D hv)⟩
        .exact Zr yQ (Zm yA.size L.size)
       have yP:=Yw xO;obtain⟨⟨y0,q0⟩,⟨y1,q1⟩,⟨y2,q2⟩,⟨y3,q3⟩,⟨y4,q4⟩,⟨y5,q5⟩,⟨y6,q6⟩,⟨y7,q7⟩,⟨y8,q8⟩,⟨y9,q9⟩,⟨zM,yM⟩,zO,yO⟩:=AS yR;obtain⟨u0,tG⟩:=y 0 _ rfl;obtain⟨u1,tH⟩:=y 1 _ rfl;obtain⟨u2,tI⟩:=y 2 _ rfl;obtain⟨u3,tJ⟩:=y 3 _ rfl;obtain⟨u4,tK⟩:=y 4 _ rfl;obtain⟨u5,tL⟩:=y 5 _ rfl;obtain⟨u6,tM⟩:=y 6 _ rfl;obtain⟨u7,tN⟩:=y 7 _ rfl;obtain⟨u8,tO⟩:=y 8 _ rfl;obtain⟨u9,tP⟩:=y 9 _ rfl
       obtain⟨tE,yV⟩:=y 10 _ rfl;obtain⟨tF,yW⟩:=y 11 _ rfl;clear bY y yR hY zZ zK xO yF yA;go_upto_region 30 with fail;rw[<-HY.o];clear HY;go_wp2;refine bodyPost_ret (v:=.agg #[Ze,Zg G,Zg now,Zg (l+1),Zg (d),Yz b m.length tc,.slice Z pn pc,Yz g2 (C.length+1) c2,.string SS,Zg (l+1),Zc,Zc]) (by simp[results,results46,go_sem,y0,y1,y2,y3,y4,y5,y6,y7,y8,y9,zM,zO]) rfl ?_;refine yP.o _ ?_
       repeat refine Tn.trans ?_ (Tn.set _ _ _ _ Yu)
       exact Tn.of Ae
     .have vI:((AE z.1.J z.1.B G).toList==FF.toList)=false:=Bz hsame;have D:((AE z.1.J z.1.B G).toList !=FF.toList)=true:=by simp[bne,vI]
      have rD:Hid (Gl G l d (m.map (·.1)) C j f 3 (AE z.1.J z.1.B G) FF):=.inr ⟨zS.o,.inl ⟨z.1,List.mem_map.2 ⟨z,xZ.o.1,rfl⟩,by rw[hSS];exact xZ.o.2,by rw[hFF];exact hsame,rfl,rfl,hFF.symm⟩⟩;obtain⟨⟨y0,q0⟩,⟨y1,q1⟩,⟨y2,q2⟩,⟨y3,q3⟩,⟨y4,q4⟩,⟨y5,q5⟩,⟨y6,q6⟩,⟨y7,q7⟩,⟨y8,q8⟩,⟨y9,q9⟩,⟨zM,yM⟩,zO,yO⟩:=AS x1;have rB:Hid (Zz w w4):=U;clear hsame x0 xe x1 U hZ L;generalize AE z.1.J z.1.B G=GG at *
      go_wp2;refine bodyPost_ret (v:=.agg (BB 3 GG FF).toArray) (by simp[results,results46,go_sem,y0,y1,y2,y3,y4,y5,y6,y7,y8,y9,zM,zO,BB]) rfl ?_;exact⟨Tn.fresh (Tn.of rB.o) (Ba w4 (w.heap.size+2) _ _ _ _ _ _ _ _ _ _ _ _) Yv,.inl ⟨3,_,_,rD.o,rfl⟩⟩
   .have rY:=IB hth;have xX:Hid (¬Au (m.map (·.1)) SS):=hth;generalize CJ (m.map (·.1)) SS=fi at *
    have pB:¬(0:Int)<=fi:=Yv
    have tR:b<u.heap.size:=Zr xJ U.size;obtain⟨v3,qM⟩:=x0 3 _ rfl;obtain⟨v4,qN⟩:=x0 4 _ rfl;have xR:Hid (Zz w u):=U;have qW:Hid (Bi u b 0 m):=hZ;have qU:Hid (Ad u u.heap.size ra f):=L;have qV:=Yw (Za x0 (Za xe x1));by_cases S:m.length=600\/d=1000000000
    .have yH:Hid (m.length=600\/d=1000000000):=S;obtain⟨⟨y0,q0⟩,⟨y1,q1⟩,⟨y2,q2⟩,⟨y3,q3⟩,⟨y4,q4⟩,⟨y5,q5⟩,⟨y6,q6⟩,⟨y7,q7⟩,⟨y8,q8⟩,⟨y9,q9⟩,⟨zM,yM⟩,zO,yO⟩:=AS x1;by_cases hf6:m.length=600
     .have D:(600:Int)<=(m.length:Int):=Yv
      clear S hf6 x0 xe x1 U hZ L hth;go_wp2;refine bodyPost_ret (v:=.agg (BB 4 ⟨#[]⟩ ⟨#[]⟩).toArray) (by simp[results,results46,go_sem,y0,y1,y2,y3,y4,y5,y6,y7,y8,y9,zM,zO,BB]) rfl ?_;exact⟨Tn.fresh (Tn.of xR.o) (Ba u (w.heap.size+2) _ _ _ _ _ _ _ _ _ _ _ _) Yv,.inl ⟨4,_,_,.inr ⟨zS.o,.inr (.inl ⟨hSS▸xX.o,by rw[List.length_map];exact yH.o,rfl,rfl,rfl⟩)⟩,rfl⟩⟩
     .have D:¬(600:Int)<=(m.length:Int):=Yv
      have vI:(1000000000:Int)<=d:=Yv
      clear S hf6 x0 xe x1 U hZ L hth;go_wp2;refine bodyPost_ret (v:=.agg (BB 4 ⟨#[]⟩ ⟨#[]⟩).toArray) (by simp[results,results46,go_sem,y0,y1,y2,y3,y4,y5,y6,y7,y8,y9,zM,zO,BB]) rfl ?_;exact⟨Tn.fresh (Tn.of xR.o) (Ba u (w.heap.size+2) _ _ _ _ _ _ _ _ _ _ _ _) Yv,.inl ⟨4,_,_,.inr ⟨zS.o,.inr (.inl ⟨hSS▸xX.o,by rw[List.length_map];exact yH.o,rfl,rfl,rfl⟩)⟩,rfl⟩⟩
    .have D:¬(600:Int)<=(m.length:Int):=Yv
     have vI:¬(1000000000:Int)<=d:=by have:=B.o.b1;omega
     have qO:=B.o.b0;have pP:m.length<600:=Yv
     have xY:Hid (Cx G d (m.map (·.1)) j f (CZ (m.map (·.1)) ⟨SS,d+1,j,f⟩) (d+1)):=by show Cx _ _ _ _ _ _ _;rw[<-hSS];exact .inr ⟨hSS▸xX.o,by rw[List.length_map];omega,Yv,rfl,rfl⟩
     obtain⟨X1,xH⟩:=Af (u.setCell (Zd (w.heap.size) 3) (Zg (d+1)));obtain⟨A,hA⟩:=Af (X1.alloc (.cells #[] 66));have sU:Tn [w.heap.size] u X1:=by rw[xH];exact Bl _ _ _ _
     have bA:=(AB hA).1;have tA:Tn [w.heap.size] u A:=sU.trans (Tn.of bA);have pK:w.heap.size+3<=u.heap.size:=by have N:=zV.o.size;have h2:=vA.o;omega
     have yU:X1.heap.size=u.heap.size:=by rw[xH];simp
     have tB:A.heap.size=u.heap.size+1:=by rw[hA];simp[yU]
     have vC:Below w.heap.size w A:=U.trans (tA.below U.size (by intro v hv;simp at hv;omega));have sA:Aa A w.heap.size (Yh G now l (d+1) ta m.length tc Z pn pc I C.length J):=by
      have N:Aa X1 w.heap.size (Yh G now l (d+1) ta m.length tc Z pn pc I C.length J):=by rw[xH];exact x0.set 3 _
      exact N.below bA
     have eA:Aa A (w.heap.size+1) (Ya kd s nm V j ra f.length rc):=Aa.same xe (tA.block _ xe.lt Yu);have rA:Aa A (w.heap.size+2) z12:=Aa.same x1 (tA.block _ x1.lt Yu);have zA:Bi A b 0 m:=B.o.z.below vC B.o.bl;have oA:A.ownsRow u.heap.size 66 4 (Yz u.heap.size 0 0) 0 []:=by have N:=World.ownsRow_lit (base:=u.heap.size) (e:=66) (size:=4) X1 #[] 0 Yv Yo rfl;rw[yU]at N;rw[hA];exact N
     have HA:Hid (A=(u.setCell (Zd (w.heap.size) 3) (Zg (d+1))).alloc (.cells #[] 66)):=by rw[<-xH];exact hA
     have vK:Hid (∀X,Zz A X->Aa X w.heap.size (Yh G now l (d+1) ta m.length tc Z pn pc I C.length J)/\Aa X (w.heap.size+1) (Ya kd s nm V j ra f.length rc)/\Aa X (w.heap.size+2) z12/\Zz w X/\Bi X b 0 m/\Ad X X.heap.size ra f):=fun X Q=>by have hb:Below w.heap.size w X:=vC.trans (Q.mono vC.size);exact⟨Aa.below sA Q,Aa.below eA Q,Aa.below (v:=Ze) rA Q,hb,B.o.z.below hb B.o.bl,Ad.mono (Ad.below B.o.r hb) hb.size⟩
     have HS:Hid (∀X,Zz A X->X.cell? (Zd (w.heap.size) 3)=some (Zg (d+1))/\X.cell? (Zd (w.heap.size+1) 4)=some (.string j)/\X.cell? (Zd (w.heap.size+1) 5)=some (.slice ra f.length rc)):=fun X Q=>by obtain⟨N,h2,_⟩:=vK.o X Q;exact⟨(N 3 _ rfl).1,(h2 4 _ rfl).1,(h2 5 _ rfl).1⟩
     have yD:Hid (∀X,Zz A X->Calls prog 54 #[.agg #[.string j,.slice ra f.length rc]] X fun e w'=>∃g c,e=.returned (.agg #[.string j,Yz g f.length c])/\w'.ownsRow X.heap.size 9 1 (Yz g f.length c) f.length (f.map Value.string)/\Zz X w'):=fun X Q=>Ii j ra rc f X (vK.o X Q).2.2.2.2.2 B.o.rn Yv;have D0:Below A.heap.size A A.drew:=Ae.drew
     have D1:∀o,Zz A (A.alloc o).drew:=fun o=>(Zy).drew;have tZ:=Yw oA;have rO:Hid (A.heap.size=u.heap.size+1):=tB;clear S x0 xe x1 U hZ L hth xH hA sU bA tA vC sA eA rA zA oA tB yU;go_upto_region 18 with fail;rw[<-HA.o];clear HA v3 v4 qM qN
     go_cut [12] (fun v wx=>∃(o t E:Nat),v=Yy o/\Hid (Aa wx o [.string SS,Zg (d+1),.string j,Yz t f.length E]/\wx.ownsRow A.heap.size 9 1 (Yz t f.length E) f.length (f.map Value.string)/\A.heap.size<=o/\o≠t/\Zz A wx))
     case first=>
      obtain⟨s3,s4,s5⟩:=HS.o A Ae;obtain⟨r3,r4,r5⟩:=HS.o (A.alloc (.cells #[Zc,Ze,Zc,Zb] 66)) (Zy)
      go_region_law (first
       |(go_simp;go_at_call 54;guard_target=~Calls prog 54 _ (World.drew (World.alloc A _)) _;refine(yD.o (A.alloc (.cells #[Zc,Ze,Zc,Zb] 66)).drew (D1 _)).mono ?_;rintro e w6 ⟨t,E,rfl,yK,vG⟩;have B1:Below A.heap.size A w6:=(D1 _).trans (vG.mono Yu);have nA:Aa w6 A.heap.size [Zc,Ze,Zc,Zb]:=(Aa.below (w:=A.alloc (.cells #[Zc,Ze,Zc,Zb] 66)) (Aa.new A _ _) (Dg vG));obtain⟨y0,q0⟩:=nA 0 _ rfl;obtain⟨y1,q1⟩:=nA 1 _ rfl;obtain⟨y2,q2⟩:=nA 2 _ rfl;obtain⟨y3,q3⟩:=nA 3 _ rfl;obtain⟨t3,t4,t5⟩:=HS.o w6 B1)
       |(go_simp;go_at_call 54;refine(yD.o A.drew D0).mono ?_;rintro e w6 ⟨t,E,rfl,yK,vG⟩;have nC:=yK;have B1:Below A.heap.size A w6:=D0.trans vG;obtain⟨t3,t4,t5⟩:=HS.o w6 B1;obtain⟨z3,z4,z5⟩:=HS.o (w6.alloc (.cells #[Zc,Ze,Zc,Zb] 66)) (B1.alloc B1.size _)))
      all_goals (go_wp2_with fail;go_meet)
      all_goals first
       |(have qK:=nA
         have l1:=Ac yK (g:=t) rfl;simp at l1;have xM:∀g,(Yz t f.length E).ownBlock=some g->g≠A.heap.size:=fun g hg=>by simp[Value.ownBlock]at hg;omega
         exact⟨A.heap.size,t,E,rfl,Abr nA _ _ _ _,VL (yK.mono Yu) xM _ _ _ _,Zx,Yv,SA B1 (Zx) _ _ _ _⟩)
       |(have qK:=nC
         have l1:=Ac yK (g:=t) rfl;exact⟨w6.heap.size,t,E,rfl,Aa.new w6 _ _,Ag (yK.mono Yu) (Zy),B1.size,Yv,B1.alloc B1.size _⟩)
     case rest=>
      revert wc;intro wN hcut;obtain⟨o,t,E,rfl,HC⟩:=hcut;have tB:=rO.o;obtain⟨vU,xF,qY,pG,vE⟩:=HC.o;have qE:o<wN.heap.size:=vU.lt;have rZ:=Ac xF (g:=t) rfl;have pN:A.heap.size<=wN.heap.size:=vE.size;obtain⟨sN,eN,rN,vD,zN,_⟩:=vK.o wN vE;have rG:Hid (wN.ownsRow u.heap.size 66 4 (Yz u.heap.size 0 0) 0 []):=Ag tZ.o vE
      have HN:Hid (∀X,Tn [u.heap.size] wN X->Aa X w.heap.size (Yh G now l (d+1) ta m.length tc Z pn pc I C.length J)/\Aa X (w.heap.size+1) (Ya kd s nm V j ra f.length rc)/\Aa X (w.heap.size+2) z12/\Aa X o [.string SS,Zg (d+1),.string j,Yz t f.length E]/\Bi X b 0 m/\X.ownsRow A.heap.size 9 1 (Yz t f.length E) f.length (f.map Value.string)/\wN.heap.size<=X.heap.size/\Zz w X):=fun X Q=>by
       refine⟨Aa.same sN (Q.block _ sN.lt Yt),Aa.same eN (Q.block _ eN.lt Yt),Aa.same rN (Q.block _ rN.lt Yt),Aa.same vU (Q.block _ qE Yt),zN.K Q (Zr xJ vD.size) Yt (fun z T a n c e2 e3 zY=>by simp at zY;have:=B.o.z.cj T e2 e3;omega),Ak xF (fun q D=>Q.block q (Ac xF D).2 (by have:=(Ac xF D).1;simp;omega)),Q.size,?_⟩
       exact vD.trans (Q.below vD.size (by intro v hv;simp at hv;omega))
      have rF:Hid (∀z∈m,z.1.sum≠SS):=fun z T e=>xX.o ⟨z.1,List.mem_map.2 ⟨z,T,rfl⟩,e⟩;have rH:Hid ((m.map (·.1.sum)).Pairwise (fun a b=>less a b=true)):=by have:=B.o.ok.dh;rw[List.map_map]at this;exact this
      have qQ:u.heap.size<=wN.heap.size:=Yv
      have sD:Hid (A.heap.size<=t/\t<wN.heap.size):=rZ;clear vU xF vE sN eN rN vD zN yD HS D0 D1 tZ HC;go_wp2
      go_loopw [10,11,13] (fun v dn i wr=>∃(k g c:Nat),k<=m.length/\i=Zg k/\dn=.bool (zD (m.take k) SS)/\v=Yz g (zQ (m.take k) ((⟨SS,d+1,j,f⟩,Yz t f.length E):Kd×Value)).length c/\Hid (wr.ownsRow u.heap.size 66 4 (Yz g (zQ (m.take k) ((⟨SS,d+1,j,f⟩,Yz t f.length E):Kd×Value)).length c) (zQ (m.take k) ((⟨SS,d+1,j,f⟩,Yz t f.length E):Kd×Value)).length (Ab kC (zQ (m.take k) ((⟨SS,d+1,j,f⟩,Yz t f.length E):Kd×Value)))/\(g=u.heap.size\/wN.heap.size<=g)/\Tn [u.heap.size] wN wr)) (fun _ _ i _=>m.length -(intOf i).toNat)
      case atStart=>exact⟨0,u.heap.size,0,Nat.zero_le _,rfl,by simp[zD],by simp[zQ,zD],⟨by simpa [zQ,zD,Ab]using rG.o,.inl rfl,Tn.of Ae⟩⟩
      case round=>
       obtain⟨k,g,c,hk,rfl,rfl,rfl,HI⟩:=hrel;obtain⟨sX,eX,rX,oX,zX,_,pO,_⟩:=HN.o wr HI.o.2.2;obtain⟨v4,_⟩:=sX 4 _ rfl;obtain⟨o0,o1,o2,o3⟩:=Aa.c4 oX 0 1 2 3;have qR:u.heap.size<=wr.heap.size:=Yv
       by_cases hlt:k<m.length
       .obtain rfl:ta=some ⟨b,0,none⟩:=B.o.tb.resolve_right (fun e=>by rw[e]at hlt;simp at hlt);have HG:Hid (m[k]?=some m[k]):=Zv hlt;obtain⟨⟨c0,c1,c2,c3⟩,xP,xQ,xN,_⟩:=zX k _ HG.o
        have vO:∀X,Tn [u.heap.size] wN X->X.cell? (Zd b (k *4))=some (.string m[k].1.sum)/\X.cell? (Zd b (k *4+1))=some (Zg m[k].1.born)/\X.cell? (Zd b (k *4+2))=some (.string m[k].1.J)/\X.cell? (Zd b (k *4+3))=some m[k].2:=fun X Q=>by have:=((HN.o X Q).2.2.2.2.1 k _ HG.o).1;simpa using this
        have xM:=rF.o _ (List.getElem_mem hlt);have pD:(zQ (m.take k) ((⟨SS,d+1,j,f⟩,Yz t f.length E):Kd×Value)).length<=1001:=by have:=Ug (m.take k) ((⟨SS,d+1,j,f⟩,Yz t f.length E):Kd×Value);rw[List.length_take]at this;omega
        have zB:=Yw (VI ((⟨SS,d+1,j,f⟩,Yz t f.length E):Kd×Value) HG.o);have yX:=Yw (Aav ((⟨SS,d+1,j,f⟩,Yz t f.length E):Kd×Value) HG.o);have zP:=Yw (XZ ((⟨SS,d+1,j,f⟩,Yz t f.length E):Kd×Value) rH.o HG.o);have HD:Hid (zD (m.take (k+1)) SS=(zD (m.take k) SS|| !(less m[k].1.sum SS))):=Ku SS HG.o;rw[Nat.zero_add]at c0 c1 c2 c3;generalize hzk:m[k]=z at *
        obtain⟨x,zv⟩:=z;simp only at xN xM c0 c1 c2 c3 zB yX zP HD vO;subst xN;have vI:(x.sum.toList==SS.toList)=false:=Bz xM;generalize hGk:zQ (m.take k) ((⟨SS,d+1,j,f⟩,Yz t f.length E):Kd×Value)=gk at *
        generalize hDk:zD (m.take k) SS=dk at *
        have rC:=Yw vO;have pF:b<wr.heap.size:=Yv
        have tD:=HI.o.1;have yI:=HI.o.2.1;have M:=HI.o.2.2;clear hzk hGk hDk vO xM oX sX eX rX zX;cases dk with
        |true=>
         have HE:=Yw (zP.o rfl);have yY:Hid (zD (m.take (k+1)) SS=true):=by show _=_;rw[HD.o];rfl
         clear zB yX zP HI;obtain⟨K,H,wa,zJ,zI,F,zH⟩:=Mm wr u.heap.size (Yz g gk.length c) gk tD (x,.slice (some xP) x.B.length xQ) ⟨_,_,_,rfl⟩ Yl (by have:=M.size;omega) 26
         have zF:Tn [u.heap.size] wN wa:=⟨F.os.trans M.os,F.tape.trans M.tape,F.output.trans M.output,Zm M.size F.size,fun q D hv=>(F.block q (Zr D M.size) (fun e=>by simp[Value.ownBlock]at e;simp at hv;rcases yI with h|h<;>omega)).trans (M.block q D hv)⟩;have zW:K=u.heap.size\/wN.heap.size<=K:=by
          rcases zH with h|h
          .simp[Value.ownBlock]at h;rw[<-h];exact yI
          .have:=M.size;omega
         have yC:=zI;clear zI F zH;go_wp2_with (at_builtin;refine wpList_append_run rfl _ _ 26 26 rfl rfl rfl zJ ?_);clear zJ;have HO:=Yw (Zn yC (Zn zW zF));clear yC zW zF;go_wp2;exact⟨⟨k+1,K,H,Yv,Yn,by rw[yY.o],by rw[HE.o];simp,⟨by rw[HE.o];simpa using HO.o.1,HO.o.2⟩⟩,Ys⟩
        |false=>
         cases hless:Op.bytesLess x.sum.toList SS.toList with
         |true=>
          have HE:=Yw (zB.o rfl hless);have yY:Hid (zD (m.take (k+1)) SS=false):=by show _=_;rw[HD.o];unfold less;rw[hless];rfl
          clear zB yX zP HI;obtain⟨K,H,wa,zJ,zI,F,zH⟩:=Mm wr u.heap.size (Yz g gk.length c) gk tD (x,.slice (some xP) x.B.length xQ) ⟨_,_,_,rfl⟩ Yl (by have:=M.size;omega) 26
          have zF:Tn [u.heap.size] wN wa:=⟨F.os.trans M.os,F.tape.trans M.tape,F.output.trans M.output,Zm M.size F.size,fun q D hv=>(F.block q (Zr D M.size) (fun e=>by simp[Value.ownBlock]at e;simp at hv;rcases yI with h|h<;>omega)).trans (M.block q D hv)⟩;have zW:K=u.heap.size\/wN.heap.size<=K:=by
           rcases zH with h|h
           .simp[Value.ownBlock]at h;rw[<-h];exact yI
           .have:=M.size;omega
          have yC:=zI;clear zI F zH;go_wp2_with (at_builtin;refine wpList_append_run rfl _ _ 26 26 rfl rfl rfl zJ ?_);clear zJ;have HO:=Yw (Zn yC (Zn zW zF));clear yC zW zF;go_wp2;exact⟨⟨k+1,K,H,Yv,Yn,by rw[yY.o],by rw[HE.o];simp,⟨by rw[HE.o];simpa using HO.o.1,HO.o.2⟩⟩,Ys⟩
         |false=>
          have HE:=Yw (yX.o rfl hless);have yY:Hid (zD (m.take (k+1)) SS=true):=by show _=_;rw[HD.o];unfold less;rw[hless];rfl
          clear zB yX zP HI;obtain⟨K,H,wa,zJ,zI,F,zH⟩:=Mm wr u.heap.size (Yz g (gk.length) c) gk tD (⟨SS,d+1,j,f⟩,Yz t f.length E) ⟨_,_,_,rfl⟩ Yl (by have:=M.size;omega) 26
          have zF:Tn [u.heap.size] wN wa:=⟨F.os.trans M.os,F.tape.trans M.tape,F.output.trans M.output,Zm M.size F.size,fun q D hv=>(F.block q (Zr D M.size) (fun e=>by simp[Value.ownBlock]at e;simp at hv;rcases yI with h|h<;>omega)).trans (M.block q D hv)⟩;have zW:K=u.heap.size\/wN.heap.size<=K:=by
           rcases zH with h|h
           .simp[Value.ownBlock]at h;rw[<-h];exact yI
           .have:=M.size;omega
          have yC:=zI;clear zI F zH;obtain⟨sT,_,_,_,_,_,qS,_⟩:=HN.o wa zF;obtain⟨qL,_⟩:=sT 4 _ rfl;obtain⟨rQ,rR,rT,rU⟩:=rC.o wa zF;have qP:b<wa.heap.size:=Yv
          obtain⟨g9,tQ,wb,xW,xV,zT,xU⟩:=Mm wa u.heap.size (Yz K (gk.length+1) H) (gk++[((⟨SS,d+1,j,f⟩,Yz t f.length E):Kd×Value)]) yC (x,.slice (some xP) x.B.length xQ) ⟨_,_,_,rfl⟩ Yl (by have:=zF.size;omega) 26
          have sV:Tn [u.heap.size] wN wb:=⟨zT.os.trans zF.os,zT.tape.trans zF.tape,zT.output.trans zF.output,Zm zF.size zT.size,fun q D hv=>(zT.block q (Zr D zF.size) (fun e=>by simp[Value.ownBlock]at e;simp at hv;rcases zW with h|h<;>omega)).trans (zF.block q D hv)⟩;have sF:g9=u.heap.size\/wN.heap.size<=g9:=by
           rcases xU with h|h
           .simp[Value.ownBlock]at h;rw[<-h];exact zW
           .have:=zF.size;omega
          have sS:=xV;clear xV zT xU;clear sT;go_wp2_with (first|(at_builtin;refine wpList_append_run rfl _ _ 26 26 rfl rfl rfl zJ ?_)|(at_builtin;refine wpList_append_run rfl _ _ 26 26 rfl rfl rfl xW ?_));clear zJ xW c0 c1 c2 c3 v4 o0 o1 o2 o3 qL rQ rR rT rU;have HO:=Yw (Zn sS (Zn sF sV));clear sS sF sV yC zW zF;try go_wp2
          exact⟨⟨k+1,g9,tQ,Yv,Yn,by rw[yY.o],by rw[HE.o];simp,⟨by rw[HE.o];simpa using HO.o.1,HO.o.2⟩⟩,Ys⟩
       .obtain rfl:k=m.length:=Yv
        have hO:=HI.o.1;rw[Zt (Zx)]at hO |-;have hG:=HI.o.2.1;have hT:=HI.o.2.2;cases hDn:zD m SS
        case' true=>
         have xG:=ZS (((⟨SS,d+1,j,f⟩,Yz t f.length E):Kd×Value)) hDn;rw[xG]at hO |-;have sH:=hT;have xE:=hO;have tY:Hid (w.heap.size<=g):=by show _<=_;rcases hG with h|h<;>omega
         clear o0 o1 o2 o3;obtain⟨K,rfl⟩:=Af g;obtain⟨H,rfl⟩:=Af c;obtain⟨w8,rfl⟩:=Af wr
        case' false=>
         have qZ:=Ug m (((⟨SS,d+1,j,f⟩,Yz t f.length E):Kd×Value));have xG:=Aaw (((⟨SS,d+1,j,f⟩,Yz t f.length E):Kd×Value)) hDn;obtain⟨K,H,w8,sO,vH,yJ,sK⟩:=Mm wr u.heap.size (Yz g (zQ m (((⟨SS,d+1,j,f⟩,Yz t f.length E):Kd×Value))).length c) (zQ m (((⟨SS,d+1,j,f⟩,Yz t f.length E):Kd×Value))) hO (((⟨SS,d+1,j,f⟩,Yz t f.length E):Kd×Value)) ⟨_,_,_,rfl⟩ Yv (by have:=hT.size;omega) 26
         have sH:Tn [u.heap.size] wN w8:=⟨yJ.os.trans hT.os,yJ.tape.trans hT.tape,yJ.output.trans hT.output,Zm hT.size yJ.size,fun q D hv=>(yJ.block q (Zr D hT.size) (fun e=>by simp[Value.ownBlock]at e;simp at hv;rcases hG with h|h<;>omega)).trans (hT.block q D hv)⟩
         have vR:Hid ((CH m (((⟨SS,d+1,j,f⟩,Yz t f.length E):Kd×Value))).length=(zQ m (((⟨SS,d+1,j,f⟩,Yz t f.length E):Kd×Value))).length+1):=by show _=_;rw[<-xG];simp
         rw[xG]at vH;have xE:w8.ownsRow u.heap.size 66 4 (Yz K (CH m (((⟨SS,d+1,j,f⟩,Yz t f.length E):Kd×Value))).length H) (CH m (((⟨SS,d+1,j,f⟩,Yz t f.length E):Kd×Value))).length (Ab kC (CH m (((⟨SS,d+1,j,f⟩,Yz t f.length E):Kd×Value)))):=by rw[vR.o];rw[vR.o]at vH;exact vH
         rw[<-vR.o]at sO;have tY:Hid (w.heap.size<=K):=by
          show _<=_;rcases sK with h|h
          .have h2:g=K:=by simpa [Value.ownBlock]using h
           rcases hG with h3|h3<;>omega
          .have:=hT.size;omega
         clear vH yJ sK
        all_goals
         obtain⟨sE,eE,rE,_,zE,vJ,pM,bE⟩:=HN.o w8 sH;obtain⟨_,qX⟩:=sE 4 _ rfl;obtain⟨X,Q⟩:=Af (w8.setCell (Zd (w.heap.size) 4) (Yz K (CH m ((⟨SS,d+1,j,f⟩,Yz t f.length E):Kd×Value)).length H));have tX:Tn [w.heap.size] w8 X:=by rw[Q];exact Bl _ _ _ _
         have sB:=Yw Q;have vM:Hid (Aa X w.heap.size (Yh G now l (d+1) (some ⟨K,0,none⟩) ((CH m ((⟨SS,d+1,j,f⟩,Yz t f.length E):Kd×Value)).length) H Z pn pc I C.length J)):=by show Aa _ _ _;rw[Q];exact sE.set 4 _
         have vP:=Yw (Aa.same eE (tX.block _ eE.lt Yu));have xC:Hid (Aa X (w.heap.size+2) z12):=Aa.same rE (tX.block _ rE.lt Yu);have bX:Below w.heap.size w X:=bE.trans (tX.below bE.size (by intro v hv;simp at hv;omega));have vQ:Hid (X.ownsRow O 71 3 (.slice I C.length J) C.length (Ab lC C)):=Ag B.o.lo bX;have pA:w8.heap.size<=X.heap.size:=tX.size
         have xL:w.heap.size+3<=X.heap.size:=Yv
         have vT:Hid (Tn (Value.slice I C.length J).ownBlock.toList w X):=Tn.of bX;have oE:X.ownsRow u.heap.size 66 4 (Yz K (CH m ((⟨SS,d+1,j,f⟩,Yz t f.length E):Kd×Value)).length H) (CH m ((⟨SS,d+1,j,f⟩,Yz t f.length E):Kd×Value)).length (Ab kC (CH m ((⟨SS,d+1,j,f⟩,Yz t f.length E):Kd×Value))):=Ak xE (fun q D=>tX.block q (Ac xE D).2 (by have:=(Ac xE D).1;simp;omega))
         have yG:X.ownsRow A.heap.size 9 1 (Yz t f.length E) f.length (f.map Value.string):=Ak vJ (fun q D=>tX.block q (Ac vJ D).2 (by have:=(Ac vJ D).1;simp;omega));have sW:Bi X b 0 m:=B.o.z.below bX B.o.bl;have qA:K<X.heap.size:=(Ac oE (g:=K) rfl).2;have xT:∀g,(Value.slice I C.length J).ownBlock=some g->g<w.heap.size:=fun g hg=>(Ac B.o.lo hg).2
         have rL:Hid (∀(Y R:Zh) (n5:Nat),X.heap.size<=n5->Tn (Value.slice I C.length J).ownBlock.toList X Y->Tn [n5,w.heap.size+2] Y R->Bi R K 0 (CH m ((⟨SS,d+1,j,f⟩,Yz t f.length E):Kd×Value))):=fun Y R n5 h5 hY L=>by
          have sM:=Ak oE (w':=Y) (fun q D=>hY.block q (Ac oE D).2 (fun e=>by have N:=xT q (by simpa using e);have h2:=(Ac oE D).1;omega));have qF:=Ak sM (w':=R) (fun q D=>L.block q (Ac sM D).2 (by have N:=(Ac oE D).1;have h2:=(Ac oE D).2;simp;omega));have sP:=Ak yG (w':=Y) (fun q D=>hY.block q (Ac yG D).2 (fun e=>by have N:=xT q (by simpa using e);have h2:=(Ac yG D).1;omega))
          have qG:=Ak sP (w':=R) (fun q D=>L.block q (Ac sP D).2 (by have N:=(Ac yG D).1;have h2:=(Ac yG D).2;simp;omega));have sJ:b<X.heap.size:=Zr xJ bX.size
          have zR:=(sW.K hY sJ (fun e=>B.o.bL (Eq.symm (by simpa using e))) (fun z T a n c e2 e3 zY=>B.o.zL z T a n c e2 e3 (Eq.symm (by simpa using zY)))).K L (Zr sJ hY.size) Yt (fun z T a n c e2 e3 zY=>by simp at zY;have:=B.o.z.cj T e2 e3;omega);refine Bi.own qF (fun z T=> ?_);rcases Lj T with T|rfl
          .obtain⟨i,hi⟩:=List.getElem?_of_mem T;obtain⟨_,rP,qJ,e4,rV⟩:=zR i z hi;exact⟨rP,qJ,e4,rV⟩
          .have tS:Ad R R.heap.size (some ⟨t,0,none⟩) f:=by have N:R.ownsRow A.heap.size 9 1 (Yz t f.length E) f.length (f.map Value.string):=qG;exact Ad.own N
           exact⟨⟨t,0,none⟩,E,rfl,tS⟩
         have sC:Hid (Cx G d (m.map (·.1)) j f ((CH m ((⟨SS,d+1,j,f⟩,Yz t f.length E):Kd×Value)).map (·.1)) (d+1)):=by show Cx _ _ _ _ _ _ _;rw[VH];exact xY.o
         have xS:Hid (w.heap.size<K/\K<X.heap.size/\w.heap.size<t/\t<X.heap.size):=by
          have N:u.heap.size<=K/\K<X.heap.size:=Ac oE (g:=K) rfl;have h2:A.heap.size<=t/\t<X.heap.size:=Ac yG (g:=t) rfl;have h3:=sD.o.1;have h4:w.heap.size+3<=u.heap.size:=by have N:=zV.o.size;have h2:=vA.o;omega
          exact⟨Yv,N.2,Yv,h2.2⟩
         have rM:Hid (∀z∈CH m ((⟨SS,d+1,j,f⟩,Yz t f.length E):Kd×Value),z∈m\/∃ad n rc,z.2=.slice (some ad) n rc/\w.heap.size<=ad.block):=fun z T=>by
          rcases Lj T with T|rfl
          .exact .inl T
          .exact .inr ⟨⟨t,0,none⟩,_,_,rfl,by have:=sD.o.1;show w.heap.size<=t;omega⟩
         clear hDn xG Q tX sE eE rE zE vJ oE yG sW bE bX hO xE HI;go_upto_region 29 with(at_builtin;refine wpList_append_run rfl _ _ 26 26 rfl rfl rfl sO ?_);rw[<-sB.o];clear sB
         have xA:=Yw (Il G now l (d+1) (some ⟨K,0,none⟩) Z I (CH m ((⟨SS,d+1,j,f⟩,Yz t f.length E):Kd×Value)).length H pn pc J O C SS V X vQ.o (Zm B.o.lb (Zm (Nat.le_add_right _ 3) xL)) (by have:=B.o.nl;omega) B.o.g0 B.o.g1 B.o.n0 B.o.n1 B.o.t0 B.o.t1);obtain⟨l0,l1,l2,l3,l4,l5,l6⟩:=Aa.c7 vM.o 0 1 2 3 4 5 6;obtain⟨m3,_⟩:=vP.o 3 _ rfl;go_wp2_with fail;refine xA.Ah ?_
         rintro e P ⟨zK,yT⟩;have yE:∀g,(Value.slice I C.length J).ownBlock=some g->g<w.heap.size:=fun g hg=>(Ac B.o.lo hg).2;have zZ:Aa P (w.heap.size+2) z12:=Aa.same xC.o (zK.block _ xC.o.lt (fun e=>by have:=yE _ (by simpa using e);omega));have qD:w.heap.size+3<=P.heap.size:=Zm xL zK.size;have xD:Hid (Tn (Value.slice I C.length J).ownBlock.toList w P):=vT.o.trans zK
         clear l0 l1 l2 l3 l4 l5 l6 m3 xA;obtain⟨S,rfl⟩|⟨⟨vY,vW⟩,g2,c2,rfl,yF,zG⟩:=yT
         .obtain⟨Y,hY⟩:=Af (P.alloc (.cells (Xx 4) 32));have bY:Below P.heap.size P Y:=by rw[hY];exact Zy
          have y:Aa Y P.heap.size (Xr 4):=by rw[hY];exact Aa.new P _ _
          have yR:=Aa.below (v:=Ze) zZ bY;have HY:=Yw hY;have zC:Hid (Tn (Value.slice I C.length J).ownBlock.toList w Y):=xD.o.trans (Tn.of bY);have yH:Hid (C.length=200\/l=1000000000):=by have N:=B.o.nl;have h2:=B.o.g1;show _\/_;omega
          obtain⟨⟨y0,q0⟩,⟨y1,q1⟩,⟨y2,q2⟩,⟨y3,q3⟩,⟨y4,q4⟩,⟨y5,q5⟩,⟨y6,q6⟩,⟨y7,q7⟩,⟨y8,q8⟩,⟨y9,q9⟩,⟨zM,yM⟩,zO,yO⟩:=AS yR;obtain⟨u0,tG⟩:=y 0 _ rfl;obtain⟨u1,tH⟩:=y 1 _ rfl;obtain⟨u2,tI⟩:=y 2 _ rfl;obtain⟨u3,tJ⟩:=y 3 _ rfl;obtain⟨u4,tK⟩:=y 4 _ rfl;obtain⟨u5,tL⟩:=y 5 _ rfl;obtain⟨u6,tM⟩:=y 6 _ rfl;obtain⟨u7,tN⟩:=y 7 _ rfl;obtain⟨u8,tO⟩:=y 8 _ rfl;obtain⟨u9,tP⟩:=y 9 _ rfl
          obtain⟨tE,yV⟩:=y 10 _ rfl;obtain⟨tF,yW⟩:=y 11 _ rfl;clear bY y yR hY zZ zK S;go_upto_region 30 with fail;rw[<-HY.o];clear HY;go_wp2;refine bodyPost_ret (v:=.agg (BB 4 ⟨#[]⟩ ⟨#[]⟩).toArray) (by simp[results,results46,go_sem,y0,y1,y2,y3,y4,y5,y6,y7,y8,y9,zM,zO,BB]) rfl ?_
          exact⟨Tn.fresh zC.o (Ba Y (w.heap.size+2) _ _ _ _ _ _ _ _ _ _ _ _) Yv,.inl ⟨4,_,_,.inr ⟨zS.o,.inr (.inr ⟨⟨_,_,sC.o⟩,yH.o,rfl,rfl,rfl⟩)⟩,rfl⟩⟩
         .obtain⟨Y,hY⟩:=Af (P.alloc (.cells #[Ze,Zg G,Zg now,Zg (l+1),Zg (d+1),Yz K (CH m ((⟨SS,d+1,j,f⟩,Yz t f.length E):Kd×Value)).length H,.slice Z pn pc,Yz g2 (C.length+1) c2,Zc,Zg (l+1),Zc,Zc] 32));have bY:Below P.heap.size P Y:=by rw[hY];exact Zy
          have y:Aa Y P.heap.size [Ze,Zg G,Zg now,Zg (l+1),Zg (d+1),Yz K (CH m ((⟨SS,d+1,j,f⟩,Yz t f.length E):Kd×Value)).length H,.slice Z pn pc,Yz g2 (C.length+1) c2,Zc,Zg (l+1),Zc,Zc]:=by rw[hY];exact Aa.new P _ _
          have yR:=Aa.below (v:=Ze) zZ bY;have HY:=Yw hY;have zC:Hid (Tn (Value.slice I C.length J).ownBlock.toList w Y):=xD.o.trans (Tn.of bY);have xB:=Yw (Ag yF bY);have vF:P.heap.size<Y.heap.size:=y.lt;have yA:Tn (Value.slice I C.length J).ownBlock.toList X Y:=zK.trans (Tn.of bY)
          have xO:∀R,Tn [P.heap.size,w.heap.size+2] Y R->Sz O b G now l d V m (.slice Z pn pc) (.slice I C.length J) C j f w (.returned (.agg #[Ze,Zg G,Zg now,Zg (l+1),Zg (d+1),Yz K (CH m ((⟨SS,d+1,j,f⟩,Yz t f.length E):Kd×Value)).length H,.slice Z pn pc,Yz g2 (C.length+1) c2,.string SS,Zg (l+1),Zc,Zc])) R:=fun R L=>by
           have tC:Bi R K 0 (CH m ((⟨SS,d+1,j,f⟩,Yz t f.length E):Kd×Value)):=rL.o Y R _ zK.size yA L;have yS:g2≠P.heap.size/\g2≠w.heap.size+2:=by
            have N:=(Ac yF (g:=g2) rfl).2;rcases zG with zG|zG
            .have h4:=yE _ zG;omega
            .omega
           have vZ:=Ak xB.o (w':=R) (fun q D=>L.block q (Ac xB.o D).2 (by
            have h3:g2=q:=by simpa [Value.ownBlock]using D
            rw[<-h3];simp;exact yS))
           refine⟨?_,.inr ⟨_,_,K,H,CH m ((⟨SS,d+1,j,f⟩,Yz t f.length E):Kd×Value),g2,c2,zS.o,sC.o,vY,vW,by rw[hSS],rfl,tC,?_,.inr tY.o,rM.o,(by rcases zG with h|h;exact .inl h;exact .inr Yv),by rw[hSS];exact vZ,(by have h0:=xS.o;rcases zG with h|h;(have N:=yE _ h;omega);omega),fun z T a n c e2 e3 e=>by
            have h0:=xS.o;rcases Lj T with T|rfl
            .rcases zG with h|h
             .exact B.o.zL z T a n c e2 e3 (by rw[h,e])
             .have:=B.o.z.cj T e2 e3;omega
            .cases e2;have e':t=g2:=e;rcases zG with h|h
             .have N:=yE _ h;omega
             .omega⟩⟩
           .exact⟨L.os.trans zC.o.os,L.tape.trans zC.o.tape,L.output.trans zC.o.output,Zm zC.o.size L.size,fun q D hv=>(L.block q (Zr D zC.o.size) Yt).trans (zC.o.block q D hv)⟩
           .exact Zr qA (Zm yA.size L.size)
          have yP:=Yw xO;obtain⟨⟨y0,q0⟩,⟨y1,q1⟩,⟨y2,q2⟩,⟨y3,q3⟩,⟨y4,q4⟩,⟨y5,q5⟩,⟨y6,q6⟩,⟨y7,q7⟩,⟨y8,q8⟩,⟨y9,q9⟩,⟨zM,yM⟩,zO,yO⟩:=AS yR;obtain⟨u0,tG⟩:=y 0 _ rfl;obtain⟨u1,tH⟩:=y 1 _ rfl;obtain⟨u2,tI⟩:=y 2 _ rfl;obtain⟨u3,tJ⟩:=y 3 _ rfl;obtain⟨u4,tK⟩:=y 4 _ rfl;obtain⟨u5,tL⟩:=y 5 _ rfl;obtain⟨u6,tM⟩:=y 6 _ rfl;obtain⟨u7,tN⟩:=y 7 _ rfl;obtain⟨u8,tO⟩:=y 8 _ rfl;obtain⟨u9,tP⟩:=y 9 _ rfl
          obtain⟨tE,yV⟩:=y 10 _ rfl;obtain⟨tF,yW⟩:=y 11 _ rfl;clear bY y yR hY zZ zK xO yF yA;go_upto_region 30 with fail;rw[<-HY.o];clear HY;go_wp2
          refine bodyPost_ret (v:=.agg #[Ze,Zg G,Zg now,Zg (l+1),Zg (d+1),Yz K (CH m ((⟨SS,d+1,j,f⟩,Yz t f.length E):Kd×Value)).length H,.slice Z pn pc,Yz g2 (C.length+1) c2,.string SS,Zg (l+1),Zc,Zc]) (by simp[results,results46,go_sem,y0,y1,y2,y3,y4,y5,y6,y7,y8,y9,zM,zO]) rfl ?_;refine yP.o _ ?_
          repeat refine Tn.trans ?_ (Tn.set _ _ _ _ Yu)
          exact Tn.of Ae
end Go.Proofs.YtoglnpagihdhpaaGreatDoor
