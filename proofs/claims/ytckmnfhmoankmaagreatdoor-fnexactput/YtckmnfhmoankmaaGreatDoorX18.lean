import Derived.Test.YtckmnfhmoankmaaGreatDoorX17
import Derived.Test.YtckmnfhmoankmaaGreatDoorX15
set_option maxRecDepth 100000
set_option maxHeartbeats 16000000
namespace Go.Proofs.YtckmnfhmoankmaaGreatDoor
open Go.ChangeShapes Go.WideShapes Go.ChangeAt Go.RowKit _root_.Go.Proofs.Tryz
def OJ(lbase b0:Nat)(wd now given ae num:Int)(zs:List (Kd×Value))(P L:Value)(ls:List Ld)(text:Zi)(refs:Zl)(w:Zh)(e:Ending)(w':Zh):Prop:=
 Tn L.ownBlock.toList w w'/\(
  (∃c a b,Gg wd given ae (zs.map (·.1)) ls text refs c a b/\e=.returned (.agg (Ch c a b).toArray))∨
  (∃ks1 ah g gc zs1 g2 c2,(∀r∈refs,Ay (zs.map (·.1)) r)/\Cu wd ae (zs.map (·.1)) text refs ks1 ah/\ls.length<200/\given<1000000000/\
    e=.returned (.agg #[Zf,Zg wd,Zg now,Zg (given+1),Zg ah,.slice (some ⟨g,0,none⟩) zs1.length gc,P,.slice (some ⟨g2,0,none⟩) (ls.length+1) c2,.string (Bm text refs wd),Zg (given+1),Zd,Zd])/\
    zs1.map (·.1)=ks1/\BH w' g 0 zs1/\g<w'.heap.size/\((g=b0/\zs1=zs)∨w.heap.size<=g)/\(∀z∈zs1,z∈zs∨∃ad n rc,z.2=.slice (some ad) n rc/\w.heap.size<=ad.block)/\(L.ownBlock=some g2∨w.heap.size<=g2)/\w'.ownsRow lbase 144 3 (.slice (some ⟨g2,0,none⟩) (ls.length+1) c2) (ls++[(⟨given+1,Bm text refs wd,now+num⟩:Ld)]).length (Ab lC (ls++[(⟨given+1,Bm text refs wd,now+num⟩:Ld)]))/\g≠g2/\∀z∈zs1,∀ad n rc,z.2=.slice (some ad) n rc->z.1.refs≠[]->ad.block≠g2))
theorem BH.al{w t:Zh}{b m:Nat}{u:List (Kd×Value)}{V:List Nat}(h:BH w b m u)(q:Tn V w t)(F:b<w.heap.size)(E:b∉V)(H:∀z∈u,∀d n r,z.2=.slice (some d) n r->z.1.refs≠[]->d.block∉V):BH t b m u:=by
 intro i z l;obtain⟨⟨A,B,C,D⟩,d,r,v,p⟩:=h i z l;have g:∀o,t.cell? (Ze b o)=w.cell? (Ze b o):=fun o=>World.cell?_of_block (a:=⟨b,o,none⟩) (q.block b F E);refine⟨⟨(g _).trans A,(g _).trans B,(g _).trans C,(g _).trans D⟩,d,r,v,?_⟩;by_cases hre:z.1.refs=[]
 ·exact .inl hre
 rcases p with p|⟨f,c,e,k,y⟩
 ·exact .inl p
 ·cases e;have x:f∉V:=H z (Zs l) _ _ _ v hre;exact .inr ⟨f,c,rfl,Zr k q.size,fun j s G=>(World.cell?_of_block (a:=⟨f,c+j,none⟩) (q.block f k x)).trans (y j s G)⟩
theorem BH.bk{w:Zh}{b j:Nat}{f:List (Kd×Value)}(h:BH w b j f){z:Kd×Value}(p:z∈f){c:Addr}{n q:Nat}(l:z.2=.slice (some c) n q)(o:z.1.refs≠[]):c.block<w.heap.size:=by
 obtain⟨i,m⟩:=List.getElem?_of_mem p;obtain⟨_,r,s,d,a⟩:=h i z m;rw[l]at d;cases d;rcases a with a|⟨t,k,e,g,_⟩
 ·exact absurd a o
 ·cases e;exact g
theorem fx{w:Zh}{b:Nat}{f g i j:Value}(h:Aa w b [f,g,i,j])(a c d e:Value):Aa ((((w.setCell (Ze b 0) a).setCell (Ze b 1) c).setCell (Ze b 2) d).setCell (Ze b 3) e) b [a,c,d,e]:=
 (((h.set 0 a).set 1 c).set 2 d).set 3 e
theorem Vm{w:Zh}{base:Nat}{e:TypeId}{size:Nat}{v:Value}{n:Nat}{c:Zj}(h:w.ownsRow base e size v n c){b:Nat}(a:∀g,v.ownBlock=some g->g≠b)(d f i j:Value):((((w.setCell (Ze b 0) d).setCell (Ze b 1) f).setCell (Ze b 2) i).setCell (Ze b 3) j).ownsRow base e size v n c:=
 Bv (Bv (Bv (Bv h a 0 _) a 1 _) a 2 _) a 3 _
theorem RH{B:Nat}{a w:Zh}(h:Below B a w){b:Nat}(c:B<=b)(d e f g:Value):Below B a ((((w.setCell (Ze b 0) d).setCell (Ze b 1) e).setCell (Ze b 2) f).setCell (Ze b 3) g):=
 (((h.setCell c d).setCell c e).setCell c f).setCell c g
structure VQ (w:Zh) (lbase:Nat) (wd now given ae num:Int) (ta:Zk) (b:Nat) (zs:List (Kd×Value)) (la:Zk) (lc:Nat) (ls:List Ld) (text:Zi) (refs:Zl) (ra:Zk) (rc:Nat):Prop where
 tb:ta=some ⟨b,0,none⟩∨zs=[]
 rn:ra=none->refs.length=0/\rc=0
 z:BH w b 0 zs
 bl:b<w.heap.size
 lo:w.ownsRow lbase 144 3 (.slice la ls.length lc) ls.length (Ab lC ls)
 lb:lbase<=w.heap.size
 bL:some b≠(Value.slice la ls.length lc).ownBlock
 zL:∀z∈zs,∀ad n rc,z.2=.slice (some ad) n rc->z.1.refs≠[]->some ad.block≠(Value.slice la ls.length lc).ownBlock
 r:Ad w w.heap.size ra refs
 ok:FA wd (zs.map (·.1))
 w1:1<=wd
 br:∀z∈zs,z.1.text.size<=maxLen
 tl:text.size<=maxLen
 rl:refs.length<=1000
 b0:0<=ae
 b1:ae<=1000000000
 g0:0<=given
 g1:given<=1000000000
 n0:0<=now
 n1:now<=1000000000
 t0:0<=num
 t1:num<=1000000000
 nl:ls.length<=200
theorem WS(text:Zi)(refs:Zl)(a:Int)(h:1<=a):((Bm text refs a).size:Int)=a:=KK ⟨⟨#[]⟩,0,text,refs⟩ a h
theorem TI(J:Nat)(y B given ae kd zB:Int)(ta:Zk)(b tc:Nat)(d:List (Kd×Value))(Q E:Zk)(T S F:Nat)(p:List Ld)(s nm text:Zi)(refs:Zl)(ra:Zk)(rc:Nat)(w:Zh)(h:VQ w J y B given ae zB ta b d E F p text refs ra rc):
 Calls prog 81 #[.agg (Ys y B given ae ta d.length tc Q T S E p.length F),.agg (Ym kd s nm zB text ra refs.length rc)] w (OJ J b y B given ae zB d (.slice Q T S) (.slice E p.length F) p text refs w):=by
 obtain⟨W,hW⟩:∃W,W=((w.alloc (.cells (Ys y B given ae ta d.length tc Q T S E p.length F) 43)).alloc (.cells (Ym kd s nm zB text ra refs.length rc) 67)).alloc (.cells Yl 90):=⟨_,rfl⟩;have bW:=(Bh hW).1;have qO:=(Bh hW).2.1;have x0:=(Bh hW).2.2.1;have xe:Aa W (w.heap.size+1) (Yn kd s nm zB text ra refs.length rc):=by have H:=Aa.new (w.alloc (.cells (Ys y B given ae ta d.length tc Q T S E p.length F) 43)) (Yn kd s nm zB text ra refs.length rc) 67;rw[World.size_alloc]at H;rw[hW];exact Aa.below H (Zy)
 have x1:Aa W (w.heap.size+2) z12:=by have H:=Aa.new ((w.alloc (.cells (Ys y B given ae ta d.length tc Q T S E p.length F) 43)).alloc (.cells (Ym kd s nm zB text ra refs.length rc) 67)) z12 90;rw[World.size_alloc,World.size_alloc]at H;rw[hW];exact H
 have HX:Hid (∀X,Zz W X->Aa X w.heap.size (Yt y B given ae ta d.length tc Q T S E p.length F)/\Aa X (w.heap.size+1) (Yn kd s nm zB text ra refs.length rc)/\Aa X (w.heap.size+2) z12/\Zz w X/\BH X b 0 d/\Ad X X.heap.size ra refs):=fun X M=>by have hb:Below w.heap.size w X:=bW.trans (M.mono bW.size);exact⟨Aa.below x0 M,Aa.below xe M,Aa.below (v:=Zf) x1 M,hb,h.z.below hb h.bl,Ad.mono (Ad.below h.r hb) hb.size⟩
 have m:=Yx h;have pN:=WS text refs y h.w1;have xT:Hid (W.heap.size=w.heap.size+3):=qO;have xC:=h.bl;have pK:=h.rl;have qJ:=h.ok.len;rw[List.length_map]at qJ;have hF:Hid (∀X (r:Zi),Zz W X->Calls prog 84 #[.agg (Ys y B given ae ta d.length tc Q T S E p.length F),.string r] X fun e w'=>e=.returned (Zg (CR (d.map (·.1)) r))/\Zz X w'):=fun X r M=>by
  have qK:BF X X.heap.size ta (d.map (·.1)):=by
   rcases m.o.tb with e|e
   ·rw[e];exact(HX.o X M).2.2.2.2.1.dh (by have H:=M.size;have h2:=xT.o;omega)
   ·rw[e];exact .inl rfl
  have H:=Fj y B given ae ta tc (.slice Q T S) (.slice E p.length F) (d.map (·.1)) r X X.heap.size qK (Zx) (by rw[List.length_map];omega);rw[List.length_map]at H;exact H
 have HW:=Yx hW;have sT:=Yx (Mi text ra rc refs y W (Ad.mono (Ad.below h.r bW) bW.size) (by omega) h.tl);obtain⟨v0,_⟩:=x0 0 _ rfl;obtain⟨e4,e5⟩:=Aa.c2 xe 4 5;clear hW bW x0 xe x1 h;go_enter func81,ntmps81;go_upto_region 1 with fail;rw[←HW.o];clear HW;go_wp2_with fail;refine Calls.mono sT.o ?_;rintro e w1 ⟨rfl,sF⟩;have sQ:Hid (Zz W w1):=sF
 have tV:=Yx (TZ (AH text refs y) y w1 (Jf _ _ _) m.o.w1 m.o.ok.w8);have sW:EK (AH text refs y).data.toList y.toNat=Bm text refs y:=rfl;rw[sW]at tV;clear sW sT v0 e4 e5;obtain⟨v0,_⟩:=(HX.o w1 sF).1 0 _ rfl;generalize hFF:AH text refs y=FF at *
 generalize hSS:Bm text refs y=SS at *
 go_wp2_with fail;refine Calls.mono tV.o ?_;rintro e w2 ⟨rfl,xW⟩;have rL:Hid (Zz W w2):=sQ.o.trans (xW.mono sQ.o.size);clear tV v0 sF xW;go_wp2
 go_loopw [7] (fun i wr=>∃(k:Nat),k<=refs.length/\i=Zg k/\Hid ((∀r∈refs.take k,Ay (d.map (·.1)) r)/\Zz W wr)) (fun i _=>refs.length -(intOf i).toNat)
 case atStart=>exact⟨0,Nat.zero_le _,rfl,⟨fun r hr=>by simp at hr,rL.o⟩⟩
 case round=>
  obtain⟨k,hk,rfl,HI⟩:=hrel;obtain⟨x0,xe,x1,zC,hZ,G⟩:=HX.o wr HI.o.2;have tR:Hid (Zz w wr):=zC;obtain⟨e5,_⟩:=xe 5 _ rfl;by_cases hlt:k<refs.length
  ·obtain⟨rb,qY,ha,qM,rF⟩:=G.at hlt;subst ha;have HG:Hid (refs[k]?=some refs[k]):=Zv hlt;have c0:=rF k _ HG.o;have rV:Hid (refs.take (k+1)=refs.take k++[refs[k]]):=Zu hlt;clear rF;generalize refs[k]=r at *
   have D0:Below wr.heap.size wr wr.drew:=(Below.refl _ _).drew;have rM:Below W.heap.size W wr.drew:=HI.o.2.trans (D0.mono HI.o.2.size);have xN:=Yx (hF.o wr.drew r rM);have pM:rb<wr.heap.size:=qM;obtain⟨v0,v1,v2,v3,v4,v5,v6⟩:=Aa.c7 x0 0 1 2 3 4 5 6;have rW:Hid (Aa wr (w.heap.size+2) z12):=x1;clear x0 xe x1 hZ G zC;go_wp2
   go_region_with (go_at_call 84;refine Calls.mono xN.o ?_;rintro e u ⟨rfl,xX⟩)
   all_goals
    have yA:Hid (Zz wr u):=D0.trans xX;clear xX c0 e5 v0 v1 v2 v3 v4 v5 v6 xN;by_cases hth:Ay (d.map (·.1)) r
    ·obtain⟨fi,fk,xZ,_,_⟩:=LY hth;rw[xZ];have yZ:Hid (Ay (d.map (·.1)) r):=hth;clear hth xZ;go_wp2;refine⟨⟨k+1,by omega,by go_num,⟨?_,HI.o.2.trans (yA.o.mono HI.o.2.size)⟩⟩,by simp[intOf];omega⟩;rw[rV.o];intro r' xF;rcases List.mem_append.1 xF with xF|xF
     ·exact HI.o.1 r' xF
     ·simp at xF;rw[xF];exact yZ.o
    ·have qH:=Iu hth;have yZ:Hid (¬Ay (d.map (·.1)) r):=hth;generalize CR (d.map (·.1)) r=fi at *
     obtain⟨⟨y0,q0⟩,⟨y1,q1⟩,⟨y2,q2⟩,⟨y3,q3⟩,⟨y4,q4⟩,⟨y5,q5⟩,⟨y6,q6⟩,⟨y7,q7⟩,⟨y8,q8⟩,⟨y9,q9⟩,⟨zF,yX⟩,zG,yY⟩:=AZ (Aa.below (v:=Zf) rW.o yA.o);clear hth;go_wp2;refine bodyPost_ret (v:=.agg (Ch 2 ⟨#[]⟩ ⟨#[]⟩).toArray) (by simp[results,results81,go_sem,y0,y1,y2,y3,y4,y5,y6,y7,y8,y9,zF,zG,Ch]) rfl ?_;have qF:Below w.heap.size w u:=tR.o.trans (yA.o.mono tR.o.size)
     exact⟨Tn.fresh (Tn.of qF) (Bq u (w.heap.size+2) _ _ _ _ _ _ _ _ _ _ _ _) (by omega),.inl ⟨2,_,_,.inl ⟨fun yE=>yZ.o (yE r (Zs HG.o)),rfl,rfl,rfl⟩,rfl⟩⟩
  ·obtain rfl:k=refs.length:=by omega
   have yE:=HI.o.1;rw[Zt (Zx)]at yE;have zJ:Hid (∀r∈refs,Ay (d.map (·.1)) r):=yE;have tQ:Hid (Zz W wr):=HI.o.2;have xN:=Yx (hF.o wr SS HI.o.2);obtain⟨v0,v1,v2,v3,v4,v5,v6⟩:=Aa.c7 x0 0 1 2 3 4 5 6;clear yE HI x0 xe x1 zC hZ G;go_wp2_with fail;refine Calls.mono xN.o ?_;rintro e u ⟨rfl,xX⟩;have yA:Hid (Zz W u):=tQ.o.trans (xX.mono tQ.o.size);clear v0 v1 v2 v3 v4 v5 v6 xN xX tQ e5 tR
   obtain⟨x0,xe,x1,zC,hZ,G⟩:=HX.o u yA.o;by_cases hth:Ay (d.map (·.1)) SS
   ·obtain⟨i,k,xZ,sH,rB⟩:=LY hth;rw[xZ];rw[List.getElem?_map]at sH;obtain⟨z,yU,rfl⟩:=Option.map_eq_some_iff.1 sH;obtain rfl:ta=some ⟨b,0,none⟩:=m.o.tb.resolve_right (fun e=>by rw[e]at yU;simp at yU);obtain⟨⟨_,_,c2,c3⟩,vX,tB,vH,rG⟩:=hZ i z yU;rw[vH]at c3;rw[Nat.zero_add]at c2 c3;have pH:(i:Int)<d.length:=by have:=(Zw yU).1;omega
    have D3:Below u.heap.size u u.drew:=(Below.refl _ _).drew;have sS:=Yx (Mi z.1.text (some vX) tB z.1.refs y u.drew (Ad.mono (Ad.below rG D3) D3.size) (by have:=(m.o.ok.refs z.1 (List.mem_map.2 ⟨z,Zs yU,rfl⟩)).1;omega) (m.o.br z (Zs yU)));have tH:Hid (z∈d/\z.1.sum=SS):=⟨Zs yU,rB⟩;obtain⟨v0,v4⟩:=Aa.c2 x0 0 4;have sP:b<u.heap.size:=Zr xC zC.size;clear x0 xe x1 zC hZ G hth xZ sH yU vH rG rB
    go_upto_region 10 with fail;go_region_with (go_at_call 89;refine Calls.mono sS.o ?_;rintro e w4 ⟨rfl,sY⟩)
    all_goals
     have sR:Hid (Zz W w4):=yA.o.trans ((D3.trans sY).mono yA.o.size);clear sY c2 c3 v0 v4 sS;obtain⟨x0,xe,x1,zC,hZ,G⟩:=HX.o w4 sR.o;by_cases hsame:AH z.1.text z.1.refs y=FF
     ·have l:(FF.toList !=FF.toList)=false:=by simp
      rw[hsame];have xR:Hid (Cu y ae (d.map (·.1)) text refs (d.map (·.1)) ae):=.inl ⟨z.1,List.mem_map.2 ⟨z,tH.o.1,rfl⟩,by rw[hSS];exact tH.o.2,by rw[hsame,hFF],rfl,rfl⟩;have xK:=Yx x0;have xM:=Yx xe;have yQ:Hid (Aa w4 (w.heap.size+2) z12):=x1;have xO:Hid (w4.ownsRow J 144 3 (.slice E p.length F) p.length (Ab lC p)):=Ag m.o.lo zC
      have yT:w.heap.size+3<=w4.heap.size:=by have H:=sR.o.size;have h2:=xT.o;omega
      have xP:Hid (Tn (Value.slice E p.length F).ownBlock.toList w w4):=Tn.of zC;have rY:Hid (BH w4 b 0 d):=hZ;have xG:b<w4.heap.size:=Zr xC zC.size;clear x0 xe x1 zC hZ G hsame;have yO:=Yx (Gh y B given (ae) (some ⟨b,0,none⟩) Q E (d).length tc T S F J p SS zB w4 xO.o (Zm m.o.lb (Zm (Nat.le_add_right _ 3) yT)) (by have:=m.o.nl;omega) m.o.g0 m.o.g1 m.o.n0 m.o.n1 m.o.t0 m.o.t1)
      obtain⟨l0,l1,l2,l3,l4,l5,l6⟩:=Aa.c7 xK.o 0 1 2 3 4 5 6;obtain⟨m3,_⟩:=xM.o 3 _ rfl;go_wp2_with fail;refine Calls.mono yO.o ?_;rintro e C ⟨Z,yG⟩;have zV:∀g,(Value.slice E p.length F).ownBlock=some g->g<w.heap.size:=fun g hg=>(Ac m.o.lo hg).2;have zS:Aa C (w.heap.size+2) z12:=Aa.same yQ.o (Z.block _ yQ.o.lt (fun e=>by have:=zV _ (by simpa using e);omega))
      have rC:w.heap.size+3<=C.heap.size:=Zm yT Z.size;have yS:Hid (Tn (Value.slice E p.length F).ownBlock.toList w C):=xP.o.trans Z;clear l0 l1 l2 l3 l4 l5 l6 m3 yO;obtain⟨O,rfl⟩|⟨⟨vC,vA⟩,g2,c2,rfl,zZ,P⟩:=yG
      ·obtain⟨Y,L⟩:∃Y,Y=C.alloc (.cells (Yk 4) 90):=⟨_,rfl⟩;have bY:Below C.heap.size C Y:=by rw[L];exact Zy
       have j:Aa Y C.heap.size (Yh 4):=by rw[L];exact Aa.new C _ _
       have yR:=Aa.below (v:=Zf) zS bY;have HY:=Yx L;have N:Hid (Tn (Value.slice E p.length F).ownBlock.toList w Y):=yS.o.trans (Tn.of bY);have yM:Hid (p.length=200∨given=1000000000):=by have H:=m.o.nl;have h2:=m.o.g1;show _∨_;omega
       obtain⟨⟨y0,q0⟩,⟨y1,q1⟩,⟨y2,q2⟩,⟨y3,q3⟩,⟨y4,q4⟩,⟨y5,q5⟩,⟨y6,q6⟩,⟨y7,q7⟩,⟨y8,q8⟩,⟨y9,q9⟩,⟨zF,yX⟩,zG,yY⟩:=AZ yR;obtain⟨u0,vL⟩:=j 0 _ rfl;obtain⟨u1,vM⟩:=j 1 _ rfl;obtain⟨u2,vO⟩:=j 2 _ rfl;obtain⟨u3,vP⟩:=j 3 _ rfl;obtain⟨u4,vQ⟩:=j 4 _ rfl;obtain⟨u5,vR⟩:=j 5 _ rfl;obtain⟨u6,vS⟩:=j 6 _ rfl;obtain⟨u7,vT⟩:=j 7 _ rfl;obtain⟨u8,vU⟩:=j 8 _ rfl;obtain⟨u9,vV⟩:=j 9 _ rfl;obtain⟨vJ,yH⟩:=j 10 _ rfl
       obtain⟨vK,yI⟩:=j 11 _ rfl;clear bY j yR L zS Z O;go_upto_region 30 with fail;rw[←HY.o];clear HY;go_wp2;refine bodyPost_ret (v:=.agg (Ch 4 ⟨#[]⟩ ⟨#[]⟩).toArray) (by simp[results,results81,go_sem,y0,y1,y2,y3,y4,y5,y6,y7,y8,y9,zF,zG,Ch]) rfl ?_
       exact⟨Tn.fresh N.o (Bq Y (w.heap.size+2) _ _ _ _ _ _ _ _ _ _ _ _) (by omega),.inl ⟨4,_,_,.inr ⟨zJ.o,.inr (.inr ⟨⟨_,_,xR.o⟩,yM.o,rfl,rfl,rfl⟩)⟩,rfl⟩⟩
      ·obtain⟨Y,L⟩:∃Y,Y=C.alloc (.cells #[Zf,Zg y,Zg B,Zg (given+1),Zg (ae),Za b d.length tc,.slice Q T S,Za g2 (p.length+1) c2,Zd,Zg (given+1),Zd,Zd] 90):=⟨_,rfl⟩;have bY:Below C.heap.size C Y:=by rw[L];exact Zy
       have j:Aa Y C.heap.size [Zf,Zg y,Zg B,Zg (given+1),Zg (ae),Za b d.length tc,.slice Q T S,Za g2 (p.length+1) c2,Zd,Zg (given+1),Zd,Zd]:=by rw[L];exact Aa.new C _ _
       have yR:=Aa.below (v:=Zf) zS bY;have HY:=Yx L;have N:Hid (Tn (Value.slice E p.length F).ownBlock.toList w Y):=yS.o.trans (Tn.of bY);have yP:=Yx (Ag zZ bY);have xW:C.heap.size<Y.heap.size:=j.lt;have zW:Tn (Value.slice E p.length F).ownBlock.toList w4 Y:=Z.trans (Tn.of bY)
       have yV:∀R,Tn [C.heap.size,w.heap.size+2] Y R->OJ J b y B given ae zB d (.slice Q T S) (.slice E p.length F) p text refs w (.returned (.agg #[Zf,Zg y,Zg B,Zg (given+1),Zg (ae),Za b d.length tc,.slice Q T S,Za g2 (p.length+1) c2,.string SS,Zg (given+1),Zd,Zd])) R:=fun R G=>by
        have vI:BH R b 0 (d):=((rY.o.al zW xG (fun e=>m.o.bL (Eq.symm (by simpa using e))) (fun z I a n c e2 e3 zU=>m.o.zL z I a n c e2 e3 (Eq.symm (by simpa using zU)))).al G (Zr xG zW.size) (by simp;omega) (fun z I a n c e2 e3 zU=>by simp at zU;have:=m.o.z.bk I e2 e3;omega));have yF:g2≠C.heap.size/\g2≠w.heap.size+2:=by
         have H:=(Ac zZ (g:=g2) rfl).2;rcases P with P|P
         ·have h4:=zV _ P;omega
         ·omega
        have vF:=Ak yP.o (w':=R) (fun q l=>G.block q (Ac yP.o l).2 (by
         have h3:g2=q:=by simpa [Value.ownBlock]using l
         rw[←h3];simp;exact yF))
        refine⟨?_,.inr ⟨_,_,b,tc,d,g2,c2,zJ.o,xR.o,vC,vA,by rw[hSS],rfl,vI,?_,.inl ⟨rfl,rfl⟩,fun z I=> .inl I,(by rcases P with h|h;exact .inl h;exact .inr (by omega)),by rw[hSS];exact vF,(by rcases P with h|h;exact fun e=>m.o.bL (by rw[h,e]);exact fun e=>by omega),fun z I a n c e2 e3 e=>by
         rcases P with h|h
         ·exact m.o.zL z I a n c e2 e3 (by rw[h,e])
         ·have:=m.o.z.bk I e2 e3;omega⟩⟩
        ·exact⟨G.os.trans N.o.os,G.tape.trans N.o.tape,G.output.trans N.o.output,Zm N.o.size G.size,fun q l hv=>(G.block q (Zr l N.o.size) (by simp;omega)).trans (N.o.block q l hv)⟩
        ·exact Zr xG (Zm zW.size G.size)
       have yC:=Yx yV;obtain⟨⟨y0,q0⟩,⟨y1,q1⟩,⟨y2,q2⟩,⟨y3,q3⟩,⟨y4,q4⟩,⟨y5,q5⟩,⟨y6,q6⟩,⟨y7,q7⟩,⟨y8,q8⟩,⟨y9,q9⟩,⟨zF,yX⟩,zG,yY⟩:=AZ yR;obtain⟨u0,vL⟩:=j 0 _ rfl;obtain⟨u1,vM⟩:=j 1 _ rfl;obtain⟨u2,vO⟩:=j 2 _ rfl;obtain⟨u3,vP⟩:=j 3 _ rfl;obtain⟨u4,vQ⟩:=j 4 _ rfl;obtain⟨u5,vR⟩:=j 5 _ rfl;obtain⟨u6,vS⟩:=j 6 _ rfl;obtain⟨u7,vT⟩:=j 7 _ rfl;obtain⟨u8,vU⟩:=j 8 _ rfl;obtain⟨u9,vV⟩:=j 9 _ rfl
       obtain⟨vJ,yH⟩:=j 10 _ rfl;obtain⟨vK,yI⟩:=j 11 _ rfl;clear bY j yR L zS Z yV zZ zW;go_upto_region 30 with fail;rw[←HY.o];clear HY;go_wp2;refine bodyPost_ret (v:=.agg #[Zf,Zg y,Zg B,Zg (given+1),Zg (ae),Za b d.length tc,.slice Q T S,Za g2 (p.length+1) c2,.string SS,Zg (given+1),Zd,Zd]) (by simp[results,results81,go_sem,y0,y1,y2,y3,y4,y5,y6,y7,y8,y9,zF,zG]) rfl ?_;refine yC.o _ ?_
       repeat refine Tn.trans ?_ (Tn.set _ _ _ _ (by simp))
       exact Tn.of (Below.refl _ _)
     ·have tO:((AH z.1.text z.1.refs y).toList==FF.toList)=false:=Ca hsame;have l:((AH z.1.text z.1.refs y).toList !=FF.toList)=true:=by simp[bne,tO]
      have rQ:Hid (Gg y given ae (d.map (·.1)) p text refs 3 (AH z.1.text z.1.refs y) FF):=.inr ⟨zJ.o,.inl ⟨z.1,List.mem_map.2 ⟨z,tH.o.1,rfl⟩,by rw[hSS];exact tH.o.2,by rw[hFF];exact hsame,rfl,rfl,hFF.symm⟩⟩;obtain⟨⟨y0,q0⟩,⟨y1,q1⟩,⟨y2,q2⟩,⟨y3,q3⟩,⟨y4,q4⟩,⟨y5,q5⟩,⟨y6,q6⟩,⟨y7,q7⟩,⟨y8,q8⟩,⟨y9,q9⟩,⟨zF,yX⟩,zG,yY⟩:=AZ x1;have rO:Hid (Zz w w4):=zC;clear hsame x0 xe x1 zC hZ G
      generalize AH z.1.text z.1.refs y=GG at *
      go_wp2;refine bodyPost_ret (v:=.agg (Ch 3 GG FF).toArray) (by simp[results,results81,go_sem,y0,y1,y2,y3,y4,y5,y6,y7,y8,y9,zF,zG,Ch]) rfl ?_;exact⟨Tn.fresh (Tn.of rO.o) (Bq w4 (w.heap.size+2) _ _ _ _ _ _ _ _ _ _ _ _) (by omega),.inl ⟨3,_,_,rQ.o,rfl⟩⟩
   ·have qH:=Iu hth;have tG:Hid (¬Ay (d.map (·.1)) SS):=hth;generalize CR (d.map (·.1)) SS=fi at *
    have pF:¬(0:Int)<=fi:=by omega
    have sP:b<u.heap.size:=Zr xC zC.size;obtain⟨v3,qR⟩:=x0 3 _ rfl;obtain⟨v4,qS⟩:=x0 4 _ rfl;have tC:Hid (Zz w u):=zC;have pB:Hid (BH u b 0 d):=hZ;have qZ:Hid (Ad u u.heap.size ra refs):=G;have pA:=Yx (Zb x0 (Zb xe x1));by_cases O:d.length=600∨ae=1000000000
    ·have yM:Hid (d.length=600∨ae=1000000000):=O;obtain⟨⟨y0,q0⟩,⟨y1,q1⟩,⟨y2,q2⟩,⟨y3,q3⟩,⟨y4,q4⟩,⟨y5,q5⟩,⟨y6,q6⟩,⟨y7,q7⟩,⟨y8,q8⟩,⟨y9,q9⟩,⟨zF,yX⟩,zG,yY⟩:=AZ x1;by_cases hf6:d.length=600
     ·have l:(600:Int)<=(d.length:Int):=by omega
      clear O hf6 x0 xe x1 zC hZ G hth;go_wp2;refine bodyPost_ret (v:=.agg (Ch 4 ⟨#[]⟩ ⟨#[]⟩).toArray) (by simp[results,results81,go_sem,y0,y1,y2,y3,y4,y5,y6,y7,y8,y9,zF,zG,Ch]) rfl ?_;exact⟨Tn.fresh (Tn.of tC.o) (Bq u (w.heap.size+2) _ _ _ _ _ _ _ _ _ _ _ _) (by omega),.inl ⟨4,_,_,.inr ⟨zJ.o,.inr (.inl ⟨hSS▸tG.o,by rw[List.length_map];exact yM.o,rfl,rfl,rfl⟩)⟩,rfl⟩⟩
     ·have l:¬(600:Int)<=(d.length:Int):=by omega
      have tO:(1000000000:Int)<=ae:=by omega
      clear O hf6 x0 xe x1 zC hZ G hth;go_wp2;refine bodyPost_ret (v:=.agg (Ch 4 ⟨#[]⟩ ⟨#[]⟩).toArray) (by simp[results,results81,go_sem,y0,y1,y2,y3,y4,y5,y6,y7,y8,y9,zF,zG,Ch]) rfl ?_;exact⟨Tn.fresh (Tn.of tC.o) (Bq u (w.heap.size+2) _ _ _ _ _ _ _ _ _ _ _ _) (by omega),.inl ⟨4,_,_,.inr ⟨zJ.o,.inr (.inl ⟨hSS▸tG.o,by rw[List.length_map];exact yM.o,rfl,rfl,rfl⟩)⟩,rfl⟩⟩
    ·have l:¬(600:Int)<=(d.length:Int):=by omega
     have tO:¬(1000000000:Int)<=ae:=by have:=m.o.b1;omega
     have qT:=m.o.b0;have pR:d.length<600:=by omega
     have xR:Hid (Cu y ae (d.map (·.1)) text refs (DL (d.map (·.1)) ⟨SS,ae+1,text,refs⟩) (ae+1)):=by show Cu _ _ _ _ _ _ _;rw[←hSS];exact .inr ⟨hSS▸tG.o,by rw[List.length_map];omega,by omega,rfl,rfl⟩
     obtain⟨X1,xV⟩:∃X,X=u.setCell (Ze (w.heap.size) 3) (Zg (ae+1)):=⟨_,rfl⟩;obtain⟨A,hA⟩:∃A,A=X1.alloc (.cells #[] 137):=⟨_,rfl⟩;have rJ:Tn [w.heap.size] u X1:=by rw[xV];exact EA _ _ _ _
     have bA:=(AJ hA).1;have tA:Tn [w.heap.size] u A:=rJ.trans (Tn.of bA);have pO:w.heap.size+3<=u.heap.size:=by have H:=yA.o.size;have h2:=xT.o;omega
     have xI:X1.heap.size=u.heap.size:=by rw[xV];simp
     have sK:A.heap.size=u.heap.size+1:=by rw[hA];simp[xI]
     have tJ:Below w.heap.size w A:=zC.trans (tA.below zC.size (by intro v hv;simp at hv;omega));have sA:Aa A w.heap.size (Yt y B given (ae+1) ta d.length tc Q T S E p.length F):=by
      have H:Aa X1 w.heap.size (Yt y B given (ae+1) ta d.length tc Q T S E p.length F):=by rw[xV];exact x0.set 3 _
      exact H.below bA
     have eA:Aa A (w.heap.size+1) (Yn kd s nm zB text ra refs.length rc):=Aa.same xe (tA.block _ xe.lt (by simp));have rA:Aa A (w.heap.size+2) z12:=Aa.same x1 (tA.block _ x1.lt (by simp));have zA:BH A b 0 d:=m.o.z.below tJ m.o.bl;have oA:A.ownsRow u.heap.size 137 4 (Za u.heap.size 0 0) 0 []:=by have H:=World.ownsRow_lit (base:=u.heap.size) (e:=137) (size:=4) X1 #[] 0 (by omega) (by unfold maxLen;omega) rfl;rw[xI]at H;rw[hA];exact H
     have HA:Hid (A=(u.setCell (Ze (w.heap.size) 3) (Zg (ae+1))).alloc (.cells #[] 137)):=by rw[←xV];exact hA
     have tP:Hid (∀X,Zz A X->Aa X w.heap.size (Yt y B given (ae+1) ta d.length tc Q T S E p.length F)/\Aa X (w.heap.size+1) (Yn kd s nm zB text ra refs.length rc)/\Aa X (w.heap.size+2) z12/\Zz w X/\BH X b 0 d/\Ad X X.heap.size ra refs):=fun X M=>by have hb:Below w.heap.size w X:=tJ.trans (M.mono tJ.size);exact⟨Aa.below sA M,Aa.below eA M,Aa.below (v:=Zf) rA M,hb,m.o.z.below hb m.o.bl,Ad.mono (Ad.below m.o.r hb) hb.size⟩
     have HS:Hid (∀X,Zz A X->X.cell? (Ze (w.heap.size) 3)=some (Zg (ae+1))/\X.cell? (Ze (w.heap.size+1) 4)=some (.string text)/\X.cell? (Ze (w.heap.size+1) 5)=some (.slice ra refs.length rc)):=fun X M=>by obtain⟨H,h2,_⟩:=tP.o X M;exact⟨(H 3 _ rfl).1,(h2 4 _ rfl).1,(h2 5 _ rfl).1⟩
     have yZ:Hid (∀X,Zz A X->Calls prog 22 #[.agg #[.string text,.slice ra refs.length rc]] X fun e w'=>∃g c,e=.returned (.agg #[.string text,Za g refs.length c])/\w'.ownsRow X.heap.size 9 1 (Za g refs.length c) refs.length (refs.map Value.string)/\Zz X w'):=fun X M=>Kc text ra rc refs X (tP.o X M).2.2.2.2.2 m.o.rn (by omega);have D0:Below A.heap.size A A.drew:=(Below.refl _ _).drew
     have D1:∀o,Zz A (A.alloc o).drew:=fun o=>(Zy).drew;have sU:=Yx oA;have rZ:Hid (A.heap.size=u.heap.size+1):=sK;clear O x0 xe x1 zC hZ G hth xV hA rJ bA tA tJ sA eA rA zA oA sK xI;go_upto_region 18 with fail;rw[←HA.o];clear HA v3 v4 qR qS
     go_cut [12] (fun v wx=>∃(o f t:Nat),v=Yz o/\Hid (Aa wx o [.string SS,Zg (ae+1),.string text,Za f refs.length t]/\wx.ownsRow A.heap.size 9 1 (Za f refs.length t) refs.length (refs.map Value.string)/\A.heap.size<=o/\o≠f/\Zz A wx))
     case first=>
      obtain⟨s3,s4,s5⟩:=HS.o A (Below.refl _ _);obtain⟨r3,r4,r5⟩:=HS.o (A.alloc (.cells #[Zd,Zf,Zd,Zc] 137)) (Zy)
      go_region_law (first
       |(go_simp;go_at_call 22;guard_target=~Calls prog 22 _ (World.drew (World.alloc A _)) _;refine(yZ.o (A.alloc (.cells #[Zd,Zf,Zd,Zc] 137)).drew (D1 _)).mono ?_;rintro e w6 ⟨f,t,rfl,xE,tM⟩;have B1:Below A.heap.size A w6:=(D1 _).trans (tM.mono (by simp));have nA:Aa w6 A.heap.size [Zd,Zf,Zd,Zc]:=(Aa.below (w:=A.alloc (.cells #[Zd,Zf,Zd,Zc] 137)) (Aa.new A _ _) (DF tM));obtain⟨y0,q0⟩:=nA 0 _ rfl;obtain⟨y1,q1⟩:=nA 1 _ rfl;obtain⟨y2,q2⟩:=nA 2 _ rfl;obtain⟨y3,q3⟩:=nA 3 _ rfl;obtain⟨t3,t4,t5⟩:=HS.o w6 B1)
       |(go_simp;go_at_call 22;refine(yZ.o A.drew D0).mono ?_;rintro e w6 ⟨f,t,rfl,xE,tM⟩;have nC:=xE;have B1:Below A.heap.size A w6:=D0.trans tM;obtain⟨t3,t4,t5⟩:=HS.o w6 B1;obtain⟨z3,z4,z5⟩:=HS.o (w6.alloc (.cells #[Zd,Zf,Zd,Zc] 137)) (B1.alloc B1.size _)))
      all_goals (go_wp2_with fail;go_meet)
      all_goals first
       |(have qP:=nA
         have l1:=Ac xE (g:=f) rfl;simp at l1;have vD:∀g,(Za f refs.length t).ownBlock=some g->g≠A.heap.size:=fun g hg=>by simp[Value.ownBlock]at hg;omega
         exact⟨A.heap.size,f,t,rfl,fx nA _ _ _ _,Vm (xE.mono (by simp)) vD _ _ _ _,Zx,by omega,RH B1 (Zx) _ _ _ _⟩)
       |(have qP:=nC
         have l1:=Ac xE (g:=f) rfl;exact⟨w6.heap.size,f,t,rfl,Aa.new w6 _ _,Ag (xE.mono (by simp)) (Zy),B1.size,by omega,B1.alloc B1.size _⟩)
     case rest=>
      revert wc;intro wN hcut;obtain⟨o,f,t,rfl,HC⟩:=hcut;have sK:=rZ.o;obtain⟨sC,xU,pD,pJ,tL⟩:=HC.o;have qL:o<wN.heap.size:=sC.lt;have qI:=Ac xU (g:=f) rfl;have pP:A.heap.size<=wN.heap.size:=tL.size;obtain⟨sN,eN,rN,tK,zN,_⟩:=tP.o wN tL;have rT:Hid (wN.ownsRow u.heap.size 137 4 (Za u.heap.size 0 0) 0 []):=Ag sU.o tL
      have HN:Hid (∀X,Tn [u.heap.size] wN X->Aa X w.heap.size (Yt y B given (ae+1) ta d.length tc Q T S E p.length F)/\Aa X (w.heap.size+1) (Yn kd s nm zB text ra refs.length rc)/\Aa X (w.heap.size+2) z12/\Aa X o [.string SS,Zg (ae+1),.string text,Za f refs.length t]/\BH X b 0 d/\X.ownsRow A.heap.size 9 1 (Za f refs.length t) refs.length (refs.map Value.string)/\wN.heap.size<=X.heap.size/\Zz w X):=fun X M=>by
       refine⟨Aa.same sN (M.block _ sN.lt (by simp;omega)),Aa.same eN (M.block _ eN.lt (by simp;omega)),Aa.same rN (M.block _ rN.lt (by simp;omega)),Aa.same sC (M.block _ qL (by simp;omega)),zN.al M (Zr xC tK.size) (by simp;omega) (fun z I a n c e2 e3 zU=>by simp at zU;have:=m.o.z.bk I e2 e3;omega),Ak xU (fun q l=>M.block q (Ac xU l).2 (by have:=(Ac xU l).1;simp;omega)),M.size,?_⟩
       exact tK.trans (M.below tK.size (by intro v hv;simp at hv;omega))
      have rR:Hid (∀z∈d,z.1.sum≠SS):=fun z I e=>tG.o ⟨z.1,List.mem_map.2 ⟨z,I,rfl⟩,e⟩;have rU:Hid ((d.map (·.1.sum)).Pairwise (fun a b=>less a b=true)):=by have:=m.o.ok.dd;rw[List.map_map]at this;exact this
      have qV:u.heap.size<=wN.heap.size:=by omega
      have tI:Hid (A.heap.size<=f/\f<wN.heap.size):=qI;clear sC xU tL sN eN rN tK zN yZ HS D0 D1 sU HC;go_wp2
      go_loopw [10,11,13] (fun v dn i wr=>∃(k g c:Nat),k<=d.length/\i=Zg k/\dn=.bool (zD (d.take k) SS)/\v=Za g (zQ (d.take k) ((⟨SS,ae+1,text,refs⟩,Za f refs.length t):Kd×Value)).length c/\Hid (wr.ownsRow u.heap.size 137 4 (Za g (zQ (d.take k) ((⟨SS,ae+1,text,refs⟩,Za f refs.length t):Kd×Value)).length c) (zQ (d.take k) ((⟨SS,ae+1,text,refs⟩,Za f refs.length t):Kd×Value)).length (Ab kC (zQ (d.take k) ((⟨SS,ae+1,text,refs⟩,Za f refs.length t):Kd×Value)))/\(g=u.heap.size∨wN.heap.size<=g)/\Tn [u.heap.size] wN wr)) (fun _ _ i _=>d.length -(intOf i).toNat)
      case atStart=>exact⟨0,u.heap.size,0,Nat.zero_le _,rfl,by simp[zD],by simp[zQ,zD],⟨by simpa [zQ,zD,Ab]using rT.o,.inl rfl,Tn.of (Below.refl _ _)⟩⟩
      case round=>
       obtain⟨k,g,c,hk,rfl,rfl,rfl,HI⟩:=hrel;obtain⟨sX,eX,rX,oX,zX,_,pQ,_⟩:=HN.o wr HI.o.2.2;obtain⟨v4,_⟩:=sX 4 _ rfl;obtain⟨o0,o1,o2,o3⟩:=Aa.c4 oX 0 1 2 3;have qW:u.heap.size<=wr.heap.size:=by omega
       by_cases hlt:k<d.length
       ·obtain rfl:ta=some ⟨b,0,none⟩:=m.o.tb.resolve_right (fun e=>by rw[e]at hlt;simp at hlt);have HG:Hid (d[k]?=some d[k]):=Zv hlt;obtain⟨⟨c0,c1,c2,c3⟩,vX,tB,vH,_⟩:=zX k _ HG.o
        have tS:∀X,Tn [u.heap.size] wN X->X.cell? (Ze b (k *4))=some (.string d[k].1.sum)/\X.cell? (Ze b (k *4+1))=some (Zg d[k].1.born)/\X.cell? (Ze b (k *4+2))=some (.string d[k].1.text)/\X.cell? (Ze b (k *4+3))=some d[k].2:=fun X M=>by have:=((HN.o X M).2.2.2.2.1 k _ HG.o).1;simpa using this
        have vD:=rR.o _ (List.getElem_mem hlt);have pG:(zQ (d.take k) ((⟨SS,ae+1,text,refs⟩,Za f refs.length t):Kd×Value)).length<=1001:=by have:=TE (d.take k) ((⟨SS,ae+1,text,refs⟩,Za f refs.length t):Kd×Value);rw[List.length_take]at this;omega
        have zH:=Yx (Vi ((⟨SS,ae+1,text,refs⟩,Za f refs.length t):Kd×Value) HG.o);have xJ:=Yx (ZF ((⟨SS,ae+1,text,refs⟩,Za f refs.length t):Kd×Value) HG.o);have zT:=Yx (WR ((⟨SS,ae+1,text,refs⟩,Za f refs.length t):Kd×Value) rU.o HG.o);have HD:Hid (zD (d.take (k+1)) SS=(zD (d.take k) SS|| !(less d[k].1.sum SS))):=JK SS HG.o;rw[Nat.zero_add]at c0 c1 c2 c3;generalize hzk:d[k]=z at *
        obtain⟨x,zv⟩:=z;simp only at vH vD c0 c1 c2 c3 zH xJ zT HD tS;subst vH;have tO:(x.sum.toList==SS.toList)=false:=Ca vD;generalize hGk:zQ (d.take k) ((⟨SS,ae+1,text,refs⟩,Za f refs.length t):Kd×Value)=gk at *
        generalize hDk:zD (d.take k) SS=dk at *
        have rP:=Yx tS;have pI:b<wr.heap.size:=by omega
        have sL:=HI.o.1;have xA:=HI.o.2.1;have U:=HI.o.2.2;clear hzk hGk hDk tS vD oX sX eX rX zX;cases dk with
        |true=>
         have HE:=Yx (zT.o rfl);have xL:Hid (zD (d.take (k+1)) SS=true):=by show _=_;rw[HD.o];rfl
         clear zH xJ zT HI;obtain⟨V,K,wa,zP,zO,D,zM⟩:=Lw wr u.heap.size (Za g gk.length c) gk sL (x,.slice (some vX) x.refs.length tB) ⟨_,_,_,rfl⟩ (by first|omega|(simp;omega)) (by have:=U.size;omega) 39
         have zI:Tn [u.heap.size] wN wa:=⟨D.os.trans U.os,D.tape.trans U.tape,D.output.trans U.output,Zm U.size D.size,fun q l hv=>(D.block q (Zr l U.size) (fun e=>by simp[Value.ownBlock]at e;simp at hv;rcases xA with h|h<;>omega)).trans (U.block q l hv)⟩;have yJ:V=u.heap.size∨wN.heap.size<=V:=by
          rcases zM with h|h
          ·simp[Value.ownBlock]at h;rw[←h];exact xA
          ·have:=U.size;omega
         have yW:=zO;clear zO D zM;go_wp2_with (at_builtin;refine wpList_append_run rfl _ _ 39 39 rfl rfl rfl zP ?_);clear zP;have HO:=Yx (Zn yW (Zn yJ zI));clear yW yJ zI;go_wp2;exact⟨⟨k+1,V,K,by omega,by go_num,by rw[xL.o],by rw[HE.o];simp,⟨by rw[HE.o];simpa using HO.o.1,HO.o.2⟩⟩,by simp[intOf];omega⟩
        |false=>
         cases hless:Op.bytesLess x.sum.toList SS.toList with
         |true=>
          have HE:=Yx (zH.o rfl hless);have xL:Hid (zD (d.take (k+1)) SS=false):=by show _=_;rw[HD.o];unfold less;rw[hless];rfl
          clear zH xJ zT HI;obtain⟨V,K,wa,zP,zO,D,zM⟩:=Lw wr u.heap.size (Za g gk.length c) gk sL (x,.slice (some vX) x.refs.length tB) ⟨_,_,_,rfl⟩ (by first|omega|(simp;omega)) (by have:=U.size;omega) 39
          have zI:Tn [u.heap.size] wN wa:=⟨D.os.trans U.os,D.tape.trans U.tape,D.output.trans U.output,Zm U.size D.size,fun q l hv=>(D.block q (Zr l U.size) (fun e=>by simp[Value.ownBlock]at e;simp at hv;rcases xA with h|h<;>omega)).trans (U.block q l hv)⟩;have yJ:V=u.heap.size∨wN.heap.size<=V:=by
           rcases zM with h|h
           ·simp[Value.ownBlock]at h;rw[←h];exact xA
           ·have:=U.size;omega
          have yW:=zO;clear zO D zM;go_wp2_with (at_builtin;refine wpList_append_run rfl _ _ 39 39 rfl rfl rfl zP ?_);clear zP;have HO:=Yx (Zn yW (Zn yJ zI));clear yW yJ zI;go_wp2;exact⟨⟨k+1,V,K,by omega,by go_num,by rw[xL.o],by rw[HE.o];simp,⟨by rw[HE.o];simpa using HO.o.1,HO.o.2⟩⟩,by simp[intOf];omega⟩
         |false=>
          have HE:=Yx (xJ.o rfl hless);have xL:Hid (zD (d.take (k+1)) SS=true):=by show _=_;rw[HD.o];unfold less;rw[hless];rfl
          clear zH xJ zT HI;obtain⟨V,K,wa,zP,zO,D,zM⟩:=Lw wr u.heap.size (Za g (gk.length) c) gk sL (⟨SS,ae+1,text,refs⟩,Za f refs.length t) ⟨_,_,_,rfl⟩ (by first|omega|(simp;omega)) (by have:=U.size;omega) 39
          have zI:Tn [u.heap.size] wN wa:=⟨D.os.trans U.os,D.tape.trans U.tape,D.output.trans U.output,Zm U.size D.size,fun q l hv=>(D.block q (Zr l U.size) (fun e=>by simp[Value.ownBlock]at e;simp at hv;rcases xA with h|h<;>omega)).trans (U.block q l hv)⟩;have yJ:V=u.heap.size∨wN.heap.size<=V:=by
           rcases zM with h|h
           ·simp[Value.ownBlock]at h;rw[←h];exact xA
           ·have:=U.size;omega
          have yW:=zO;clear zO D zM;obtain⟨rI,_,_,_,_,_,qX,_⟩:=HN.o wa zI;obtain⟨qQ,_⟩:=rI 4 _ rfl;obtain⟨qA,qB,qC,qD⟩:=rP.o wa zI;have qU:b<wa.heap.size:=by omega
          obtain⟨g9,sO,wb,tF,tE,zY,tD⟩:=Lw wa u.heap.size (Za V (gk.length+1) K) (gk++[((⟨SS,ae+1,text,refs⟩,Za f refs.length t):Kd×Value)]) yW (x,.slice (some vX) x.refs.length tB) ⟨_,_,_,rfl⟩ (by first|omega|(simp;omega)) (by have:=zI.size;omega) 39
          have rK:Tn [u.heap.size] wN wb:=⟨zY.os.trans zI.os,zY.tape.trans zI.tape,zY.output.trans zI.output,Zm zI.size zY.size,fun q l hv=>(zY.block q (Zr l zI.size) (fun e=>by simp[Value.ownBlock]at e;simp at hv;rcases yJ with h|h<;>omega)).trans (zI.block q l hv)⟩;have sV:g9=u.heap.size∨wN.heap.size<=g9:=by
           rcases tD with h|h
           ·simp[Value.ownBlock]at h;rw[←h];exact yJ
           ·have:=zI.size;omega
          have rH:=tE;clear tE zY tD;clear rI;go_wp2_with (first|(at_builtin;refine wpList_append_run rfl _ _ 39 39 rfl rfl rfl zP ?_)|(at_builtin;refine wpList_append_run rfl _ _ 39 39 rfl rfl rfl tF ?_));clear zP tF c0 c1 c2 c3 v4 o0 o1 o2 o3 qQ qA qB qC qD;have HO:=Yx (Zn rH (Zn sV rK));clear rH sV rK yW yJ zI;try go_wp2
          exact⟨⟨k+1,g9,sO,by omega,by go_num,by rw[xL.o],by rw[HE.o];simp,⟨by rw[HE.o];simpa using HO.o.1,HO.o.2⟩⟩,by simp[intOf];omega⟩
       ·obtain rfl:k=d.length:=by omega
        have hO:=HI.o.1;rw[Zt (Zx)]at hO ⊢;have hG:=HI.o.2.1;have hT:=HI.o.2.2;cases hDn:zD d SS with
        |true=>
         have xB:=YF (((⟨SS,ae+1,text,refs⟩,Za f refs.length t):Kd×Value)) hDn;rw[xB]at hO ⊢;have sD:=hT;have yK:=hO;obtain⟨sE,eE,rE,_,zE,yL,qN,bE⟩:=HN.o wr sD;obtain⟨_,qE⟩:=sE 4 _ rfl;obtain⟨X,M⟩:∃X,X=wr.setCell (Ze (w.heap.size) 4) (Za g (BI d ((⟨SS,ae+1,text,refs⟩,Za f refs.length t):Kd×Value)).length c):=⟨_,rfl⟩;have tX:Tn [w.heap.size] wr X:=by rw[M];exact EA _ _ _ _
         have xQ:=Yx M;have xK:Hid (Aa X w.heap.size (Yt y B given (ae+1) (some ⟨g,0,none⟩) ((BI d ((⟨SS,ae+1,text,refs⟩,Za f refs.length t):Kd×Value)).length) c Q T S E p.length F)):=by show Aa _ _ _;rw[M];exact sE.set 4 _
         have xM:=Yx (Aa.same eE (tX.block _ eE.lt (by simp)));have yQ:Hid (Aa X (w.heap.size+2) z12):=Aa.same rE (tX.block _ rE.lt (by simp));have bX:Below w.heap.size w X:=bE.trans (tX.below bE.size (by intro v hv;simp at hv;omega));have xO:Hid (X.ownsRow J 144 3 (.slice E p.length F) p.length (Ab lC p)):=Ag m.o.lo bX;have qG:wr.heap.size<=X.heap.size:=tX.size
         have yT:w.heap.size+3<=X.heap.size:=by omega
         have xP:Hid (Tn (Value.slice E p.length F).ownBlock.toList w X):=Tn.of bX
         have oE:X.ownsRow u.heap.size 137 4 (Za g (BI d ((⟨SS,ae+1,text,refs⟩,Za f refs.length t):Kd×Value)).length c) (BI d ((⟨SS,ae+1,text,refs⟩,Za f refs.length t):Kd×Value)).length (Ab kC (BI d ((⟨SS,ae+1,text,refs⟩,Za f refs.length t):Kd×Value))):=Ak yK (fun q l=>tX.block q (Ac yK l).2 (by have:=(Ac yK l).1;simp;omega))
         have zK:X.ownsRow A.heap.size 9 1 (Za f refs.length t) refs.length (refs.map Value.string):=Ak yL (fun q l=>tX.block q (Ac yL l).2 (by have:=(Ac yL l).1;simp;omega));have vW:BH X b 0 d:=m.o.z.below bX m.o.bl;have sG:g<X.heap.size:=(Ac oE (g:=g) rfl).2;have yD:∀g,(Value.slice E p.length F).ownBlock=some g->g<w.heap.size:=fun g hg=>(Ac m.o.lo hg).2
         have tW:Hid (∀(Y R:Zh) (n5:Nat),X.heap.size<=n5->Tn (Value.slice E p.length F).ownBlock.toList X Y->Tn [n5,w.heap.size+2] Y R->BH R g 0 (BI d ((⟨SS,ae+1,text,refs⟩,Za f refs.length t):Kd×Value))):=fun Y R n5 h5 L G=>by
          have vE:=Ak oE (w':=Y) (fun q l=>L.block q (Ac oE l).2 (fun e=>by have H:=yD q (by simpa using e);have h2:=(Ac oE l).1;omega));have sI:=Ak vE (w':=R) (fun q l=>G.block q (Ac vE l).2 (by have H:=(Ac oE l).1;have h2:=(Ac oE l).2;simp;omega));have vG:=Ak zK (w':=Y) (fun q l=>L.block q (Ac zK l).2 (fun e=>by have H:=yD q (by simpa using e);have h2:=(Ac zK l).1;omega))
          have sJ:=Ak vG (w':=R) (fun q l=>G.block q (Ac vG l).2 (by have H:=(Ac zK l).1;have h2:=(Ac zK l).2;simp;omega));have xY:b<X.heap.size:=Zr xC bX.size
          have zR:=(vW.al L xY (fun e=>m.o.bL (Eq.symm (by simpa using e))) (fun z I a n c e2 e3 zU=>m.o.zL z I a n c e2 e3 (Eq.symm (by simpa using zU)))).al G (Zr xY L.size) (by simp;omega) (fun z I a n c e2 e3 zU=>by simp at zU;have:=m.o.z.bk I e2 e3;omega);refine BH.own sI (fun z I=> ?_);rcases FZ I with I|rfl
          ·obtain⟨i,hi⟩:=List.getElem?_of_mem I;obtain⟨_,tZ,sM,e4,sB⟩:=zR i z hi;exact⟨tZ,sM,e4,sB⟩
          ·have xH:Ad R R.heap.size (some ⟨f,0,none⟩) refs:=by have H:R.ownsRow A.heap.size 9 1 (Za f refs.length t) refs.length (refs.map Value.string):=sJ;exact Ad.own H
           exact⟨⟨f,0,none⟩,t,rfl,xH⟩
         have xS:Hid (Cu y ae (d.map (·.1)) text refs ((BI d ((⟨SS,ae+1,text,refs⟩,Za f refs.length t):Kd×Value)).map (·.1)) (ae+1)):=by show Cu _ _ _ _ _ _ _;rw[OI];exact xR.o
         have tT:Hid (w.heap.size<=g):=by show _<=_;rcases hG with h|h<;>omega
         have yB:Hid (w.heap.size<g/\g<X.heap.size/\w.heap.size<f/\f<X.heap.size):=by
          have H:u.heap.size<=g/\g<X.heap.size:=Ac oE (g:=g) rfl;have h2:A.heap.size<=f/\f<X.heap.size:=Ac zK (g:=f) rfl;have h3:=tI.o.1;have h4:w.heap.size+3<=u.heap.size:=by have H:=yA.o.size;have h2:=xT.o;omega
          exact⟨by omega,H.2,by omega,h2.2⟩
         have tY:Hid (∀z∈BI d ((⟨SS,ae+1,text,refs⟩,Za f refs.length t):Kd×Value),z∈d∨∃ad n rc,z.2=.slice (some ad) n rc/\w.heap.size<=ad.block):=fun z I=>by
          rcases FZ I with I|rfl
          ·exact .inl I
          ·exact .inr ⟨⟨f,0,none⟩,_,_,rfl,by have:=tI.o.1;show w.heap.size<=f;omega⟩
         clear hDn xB M tX sE eE rE zE yL oE zK vW bE bX hO yK HI o0 o1 o2 o3;go_upto_region 29 with fail;rw[←xQ.o];clear xQ;have yO:=Yx (Gh y B given (ae+1) (some ⟨g,0,none⟩) Q E (BI d ((⟨SS,ae+1,text,refs⟩,Za f refs.length t):Kd×Value)).length c T S F J p SS zB X xO.o (Zm m.o.lb (Zm (Nat.le_add_right _ 3) yT)) (by have:=m.o.nl;omega) m.o.g0 m.o.g1 m.o.n0 m.o.n1 m.o.t0 m.o.t1)
         obtain⟨l0,l1,l2,l3,l4,l5,l6⟩:=Aa.c7 xK.o 0 1 2 3 4 5 6;obtain⟨m3,_⟩:=xM.o 3 _ rfl;go_wp2_with fail;refine Calls.mono yO.o ?_;rintro e C ⟨Z,yG⟩;have zV:∀g,(Value.slice E p.length F).ownBlock=some g->g<w.heap.size:=fun g hg=>(Ac m.o.lo hg).2;have zS:Aa C (w.heap.size+2) z12:=Aa.same yQ.o (Z.block _ yQ.o.lt (fun e=>by have:=zV _ (by simpa using e);omega))
         have rC:w.heap.size+3<=C.heap.size:=Zm yT Z.size;have yS:Hid (Tn (Value.slice E p.length F).ownBlock.toList w C):=xP.o.trans Z;clear l0 l1 l2 l3 l4 l5 l6 m3 yO;obtain⟨O,rfl⟩|⟨⟨vC,vA⟩,g2,c2,rfl,zZ,P⟩:=yG
         ·obtain⟨Y,L⟩:∃Y,Y=C.alloc (.cells (Yk 4) 90):=⟨_,rfl⟩;have bY:Below C.heap.size C Y:=by rw[L];exact Zy
          have j:Aa Y C.heap.size (Yh 4):=by rw[L];exact Aa.new C _ _
          have yR:=Aa.below (v:=Zf) zS bY;have HY:=Yx L;have N:Hid (Tn (Value.slice E p.length F).ownBlock.toList w Y):=yS.o.trans (Tn.of bY);have yM:Hid (p.length=200∨given=1000000000):=by have H:=m.o.nl;have h2:=m.o.g1;show _∨_;omega
          obtain⟨⟨y0,q0⟩,⟨y1,q1⟩,⟨y2,q2⟩,⟨y3,q3⟩,⟨y4,q4⟩,⟨y5,q5⟩,⟨y6,q6⟩,⟨y7,q7⟩,⟨y8,q8⟩,⟨y9,q9⟩,⟨zF,yX⟩,zG,yY⟩:=AZ yR;obtain⟨u0,vL⟩:=j 0 _ rfl;obtain⟨u1,vM⟩:=j 1 _ rfl;obtain⟨u2,vO⟩:=j 2 _ rfl;obtain⟨u3,vP⟩:=j 3 _ rfl;obtain⟨u4,vQ⟩:=j 4 _ rfl;obtain⟨u5,vR⟩:=j 5 _ rfl;obtain⟨u6,vS⟩:=j 6 _ rfl;obtain⟨u7,vT⟩:=j 7 _ rfl;obtain⟨u8,vU⟩:=j 8 _ rfl;obtain⟨u9,vV⟩:=j 9 _ rfl
          obtain⟨vJ,yH⟩:=j 10 _ rfl;obtain⟨vK,yI⟩:=j 11 _ rfl;clear bY j yR L zS Z O;go_upto_region 30 with fail;rw[←HY.o];clear HY;go_wp2;refine bodyPost_ret (v:=.agg (Ch 4 ⟨#[]⟩ ⟨#[]⟩).toArray) (by simp[results,results81,go_sem,y0,y1,y2,y3,y4,y5,y6,y7,y8,y9,zF,zG,Ch]) rfl ?_
          exact⟨Tn.fresh N.o (Bq Y (w.heap.size+2) _ _ _ _ _ _ _ _ _ _ _ _) (by omega),.inl ⟨4,_,_,.inr ⟨zJ.o,.inr (.inr ⟨⟨_,_,xS.o⟩,yM.o,rfl,rfl,rfl⟩)⟩,rfl⟩⟩
         ·obtain⟨Y,L⟩:∃Y,Y=C.alloc (.cells #[Zf,Zg y,Zg B,Zg (given+1),Zg (ae+1),Za g (BI d ((⟨SS,ae+1,text,refs⟩,Za f refs.length t):Kd×Value)).length c,.slice Q T S,Za g2 (p.length+1) c2,Zd,Zg (given+1),Zd,Zd] 90):=⟨_,rfl⟩;have bY:Below C.heap.size C Y:=by rw[L];exact Zy
          have j:Aa Y C.heap.size [Zf,Zg y,Zg B,Zg (given+1),Zg (ae+1),Za g (BI d ((⟨SS,ae+1,text,refs⟩,Za f refs.length t):Kd×Value)).length c,.slice Q T S,Za g2 (p.length+1) c2,Zd,Zg (given+1),Zd,Zd]:=by rw[L];exact Aa.new C _ _
          have yR:=Aa.below (v:=Zf) zS bY;have HY:=Yx L;have N:Hid (Tn (Value.slice E p.length F).ownBlock.toList w Y):=yS.o.trans (Tn.of bY);have yP:=Yx (Ag zZ bY);have xW:C.heap.size<Y.heap.size:=j.lt;have zW:Tn (Value.slice E p.length F).ownBlock.toList X Y:=Z.trans (Tn.of bY)
          have yV:∀R,Tn [C.heap.size,w.heap.size+2] Y R->OJ J b y B given ae zB d (.slice Q T S) (.slice E p.length F) p text refs w (.returned (.agg #[Zf,Zg y,Zg B,Zg (given+1),Zg (ae+1),Za g (BI d ((⟨SS,ae+1,text,refs⟩,Za f refs.length t):Kd×Value)).length c,.slice Q T S,Za g2 (p.length+1) c2,.string SS,Zg (given+1),Zd,Zd])) R:=fun R G=>by
           have vI:BH R g 0 (BI d ((⟨SS,ae+1,text,refs⟩,Za f refs.length t):Kd×Value)):=tW.o Y R _ Z.size zW G;have yF:g2≠C.heap.size/\g2≠w.heap.size+2:=by
            have H:=(Ac zZ (g:=g2) rfl).2;rcases P with P|P
            ·have h4:=zV _ P;omega
            ·omega
           have vF:=Ak yP.o (w':=R) (fun q l=>G.block q (Ac yP.o l).2 (by
            have h3:g2=q:=by simpa [Value.ownBlock]using l
            rw[←h3];simp;exact yF))
           refine⟨?_,.inr ⟨_,_,g,c,BI d ((⟨SS,ae+1,text,refs⟩,Za f refs.length t):Kd×Value),g2,c2,zJ.o,xS.o,vC,vA,by rw[hSS],rfl,vI,?_,.inr tT.o,tY.o,(by rcases P with h|h;exact .inl h;exact .inr (by omega)),by rw[hSS];exact vF,(by have h0:=yB.o;rcases P with h|h;(have H:=zV _ h;omega);omega),fun z I a n c e2 e3 e=>by
            have h0:=yB.o;rcases FZ I with I|rfl
            ·rcases P with h|h
             ·exact m.o.zL z I a n c e2 e3 (by rw[h,e])
             ·have:=m.o.z.bk I e2 e3;omega
            ·cases e2;have e':f=g2:=e;rcases P with h|h
             ·have H:=zV _ h;omega
             ·omega⟩⟩
           ·exact⟨G.os.trans N.o.os,G.tape.trans N.o.tape,G.output.trans N.o.output,Zm N.o.size G.size,fun q l hv=>(G.block q (Zr l N.o.size) (by simp;omega)).trans (N.o.block q l hv)⟩
           ·exact Zr sG (Zm zW.size G.size)
          have yC:=Yx yV;obtain⟨⟨y0,q0⟩,⟨y1,q1⟩,⟨y2,q2⟩,⟨y3,q3⟩,⟨y4,q4⟩,⟨y5,q5⟩,⟨y6,q6⟩,⟨y7,q7⟩,⟨y8,q8⟩,⟨y9,q9⟩,⟨zF,yX⟩,zG,yY⟩:=AZ yR;obtain⟨u0,vL⟩:=j 0 _ rfl;obtain⟨u1,vM⟩:=j 1 _ rfl;obtain⟨u2,vO⟩:=j 2 _ rfl;obtain⟨u3,vP⟩:=j 3 _ rfl;obtain⟨u4,vQ⟩:=j 4 _ rfl;obtain⟨u5,vR⟩:=j 5 _ rfl;obtain⟨u6,vS⟩:=j 6 _ rfl;obtain⟨u7,vT⟩:=j 7 _ rfl;obtain⟨u8,vU⟩:=j 8 _ rfl;obtain⟨u9,vV⟩:=j 9 _ rfl
          obtain⟨vJ,yH⟩:=j 10 _ rfl;obtain⟨vK,yI⟩:=j 11 _ rfl;clear bY j yR L zS Z yV zZ zW;go_upto_region 30 with fail;rw[←HY.o];clear HY;go_wp2
          refine bodyPost_ret (v:=.agg #[Zf,Zg y,Zg B,Zg (given+1),Zg (ae+1),Za g (BI d ((⟨SS,ae+1,text,refs⟩,Za f refs.length t):Kd×Value)).length c,.slice Q T S,Za g2 (p.length+1) c2,.string SS,Zg (given+1),Zd,Zd]) (by simp[results,results81,go_sem,y0,y1,y2,y3,y4,y5,y6,y7,y8,y9,zF,zG]) rfl ?_;refine yC.o _ ?_
          repeat refine Tn.trans ?_ (Tn.set _ _ _ _ (by simp))
          exact Tn.of (Below.refl _ _)
        |false=>
         have pE:=TE d (((⟨SS,ae+1,text,refs⟩,Za f refs.length t):Kd×Value));have xB:=ZG (((⟨SS,ae+1,text,refs⟩,Za f refs.length t):Kd×Value)) hDn
         obtain⟨V,K,w8,rD,tN,xD,sZ⟩:=Lw wr u.heap.size (Za g (zQ d (((⟨SS,ae+1,text,refs⟩,Za f refs.length t):Kd×Value))).length c) (zQ d (((⟨SS,ae+1,text,refs⟩,Za f refs.length t):Kd×Value))) hO (((⟨SS,ae+1,text,refs⟩,Za f refs.length t):Kd×Value)) ⟨_,_,_,rfl⟩ (by omega) (by have:=hT.size;omega) 39
         have sD:Tn [u.heap.size] wN w8:=⟨xD.os.trans hT.os,xD.tape.trans hT.tape,xD.output.trans hT.output,Zm hT.size xD.size,fun q l hv=>(xD.block q (Zr l hT.size) (fun e=>by simp[Value.ownBlock]at e;simp at hv;rcases hG with h|h<;>omega)).trans (hT.block q l hv)⟩
         have tU:Hid ((BI d (((⟨SS,ae+1,text,refs⟩,Za f refs.length t):Kd×Value))).length=(zQ d (((⟨SS,ae+1,text,refs⟩,Za f refs.length t):Kd×Value))).length+1):=by show _=_;rw[←xB];simp
         rw[xB]at tN;have yK:w8.ownsRow u.heap.size 137 4 (Za V (BI d (((⟨SS,ae+1,text,refs⟩,Za f refs.length t):Kd×Value))).length K) (BI d (((⟨SS,ae+1,text,refs⟩,Za f refs.length t):Kd×Value))).length (Ab kC (BI d (((⟨SS,ae+1,text,refs⟩,Za f refs.length t):Kd×Value)))):=by rw[tU.o];rw[tU.o]at tN;exact tN
         rw[←tU.o]at rD;obtain⟨sE,eE,rE,_,zE,yL,qN,bE⟩:=HN.o w8 sD;obtain⟨_,qE⟩:=sE 4 _ rfl;obtain⟨X,M⟩:∃X,X=w8.setCell (Ze (w.heap.size) 4) (Za V (BI d ((⟨SS,ae+1,text,refs⟩,Za f refs.length t):Kd×Value)).length K):=⟨_,rfl⟩;have tX:Tn [w.heap.size] w8 X:=by rw[M];exact EA _ _ _ _
         have xQ:=Yx M;have xK:Hid (Aa X w.heap.size (Yt y B given (ae+1) (some ⟨V,0,none⟩) ((BI d ((⟨SS,ae+1,text,refs⟩,Za f refs.length t):Kd×Value)).length) K Q T S E p.length F)):=by show Aa _ _ _;rw[M];exact sE.set 4 _
         have xM:=Yx (Aa.same eE (tX.block _ eE.lt (by simp)));have yQ:Hid (Aa X (w.heap.size+2) z12):=Aa.same rE (tX.block _ rE.lt (by simp));have bX:Below w.heap.size w X:=bE.trans (tX.below bE.size (by intro v hv;simp at hv;omega));have xO:Hid (X.ownsRow J 144 3 (.slice E p.length F) p.length (Ab lC p)):=Ag m.o.lo bX;have qG:w8.heap.size<=X.heap.size:=tX.size
         have yT:w.heap.size+3<=X.heap.size:=by omega
         have xP:Hid (Tn (Value.slice E p.length F).ownBlock.toList w X):=Tn.of bX
         have oE:X.ownsRow u.heap.size 137 4 (Za V (BI d ((⟨SS,ae+1,text,refs⟩,Za f refs.length t):Kd×Value)).length K) (BI d ((⟨SS,ae+1,text,refs⟩,Za f refs.length t):Kd×Value)).length (Ab kC (BI d ((⟨SS,ae+1,text,refs⟩,Za f refs.length t):Kd×Value))):=Ak yK (fun q l=>tX.block q (Ac yK l).2 (by have:=(Ac yK l).1;simp;omega))
         have zK:X.ownsRow A.heap.size 9 1 (Za f refs.length t) refs.length (refs.map Value.string):=Ak yL (fun q l=>tX.block q (Ac yL l).2 (by have:=(Ac yL l).1;simp;omega));have vW:BH X b 0 d:=m.o.z.below bX m.o.bl;have sG:V<X.heap.size:=(Ac oE (g:=V) rfl).2;have yD:∀g,(Value.slice E p.length F).ownBlock=some g->g<w.heap.size:=fun g hg=>(Ac m.o.lo hg).2
         have tW:Hid (∀(Y R:Zh) (n5:Nat),X.heap.size<=n5->Tn (Value.slice E p.length F).ownBlock.toList X Y->Tn [n5,w.heap.size+2] Y R->BH R V 0 (BI d ((⟨SS,ae+1,text,refs⟩,Za f refs.length t):Kd×Value))):=fun Y R n5 h5 L G=>by
          have vE:=Ak oE (w':=Y) (fun q l=>L.block q (Ac oE l).2 (fun e=>by have H:=yD q (by simpa using e);have h2:=(Ac oE l).1;omega));have sI:=Ak vE (w':=R) (fun q l=>G.block q (Ac vE l).2 (by have H:=(Ac oE l).1;have h2:=(Ac oE l).2;simp;omega));have vG:=Ak zK (w':=Y) (fun q l=>L.block q (Ac zK l).2 (fun e=>by have H:=yD q (by simpa using e);have h2:=(Ac zK l).1;omega))
          have sJ:=Ak vG (w':=R) (fun q l=>G.block q (Ac vG l).2 (by have H:=(Ac zK l).1;have h2:=(Ac zK l).2;simp;omega));have xY:b<X.heap.size:=Zr xC bX.size
          have zR:=(vW.al L xY (fun e=>m.o.bL (Eq.symm (by simpa using e))) (fun z I a n c e2 e3 zU=>m.o.zL z I a n c e2 e3 (Eq.symm (by simpa using zU)))).al G (Zr xY L.size) (by simp;omega) (fun z I a n c e2 e3 zU=>by simp at zU;have:=m.o.z.bk I e2 e3;omega);refine BH.own sI (fun z I=> ?_);rcases FZ I with I|rfl
          ·obtain⟨i,hi⟩:=List.getElem?_of_mem I;obtain⟨_,tZ,sM,e4,sB⟩:=zR i z hi;exact⟨tZ,sM,e4,sB⟩
          ·have xH:Ad R R.heap.size (some ⟨f,0,none⟩) refs:=by have H:R.ownsRow A.heap.size 9 1 (Za f refs.length t) refs.length (refs.map Value.string):=sJ;exact Ad.own H
           exact⟨⟨f,0,none⟩,t,rfl,xH⟩
         have xS:Hid (Cu y ae (d.map (·.1)) text refs ((BI d ((⟨SS,ae+1,text,refs⟩,Za f refs.length t):Kd×Value)).map (·.1)) (ae+1)):=by show Cu _ _ _ _ _ _ _;rw[OI];exact xR.o
         have tT:Hid (w.heap.size<=V):=by
          show _<=_;rcases sZ with h|h
          ·have h2:g=V:=by simpa [Value.ownBlock]using h
           rcases hG with h3|h3<;>omega
          ·have:=hT.size;omega
         have yB:Hid (w.heap.size<V/\V<X.heap.size/\w.heap.size<f/\f<X.heap.size):=by
          have H:u.heap.size<=V/\V<X.heap.size:=Ac oE (g:=V) rfl;have h2:A.heap.size<=f/\f<X.heap.size:=Ac zK (g:=f) rfl;have h3:=tI.o.1;have h4:w.heap.size+3<=u.heap.size:=by have H:=yA.o.size;have h2:=xT.o;omega
          exact⟨by omega,H.2,by omega,h2.2⟩
         have tY:Hid (∀z∈BI d ((⟨SS,ae+1,text,refs⟩,Za f refs.length t):Kd×Value),z∈d∨∃ad n rc,z.2=.slice (some ad) n rc/\w.heap.size<=ad.block):=fun z I=>by
          rcases FZ I with I|rfl
          ·exact .inl I
          ·exact .inr ⟨⟨f,0,none⟩,_,_,rfl,by have:=tI.o.1;show w.heap.size<=f;omega⟩
         clear hDn xB M tX sE eE rE zE yL oE zK vW bE bX hO yK HI tN xD sZ;go_upto_region 29 with(at_builtin;refine wpList_append_run rfl _ _ 39 39 rfl rfl rfl rD ?_);rw[←xQ.o];clear xQ
         have yO:=Yx (Gh y B given (ae+1) (some ⟨V,0,none⟩) Q E (BI d ((⟨SS,ae+1,text,refs⟩,Za f refs.length t):Kd×Value)).length K T S F J p SS zB X xO.o (Zm m.o.lb (Zm (Nat.le_add_right _ 3) yT)) (by have:=m.o.nl;omega) m.o.g0 m.o.g1 m.o.n0 m.o.n1 m.o.t0 m.o.t1);obtain⟨l0,l1,l2,l3,l4,l5,l6⟩:=Aa.c7 xK.o 0 1 2 3 4 5 6;obtain⟨m3,_⟩:=xM.o 3 _ rfl;go_wp2_with fail;refine Calls.mono yO.o ?_
         rintro e C ⟨Z,yG⟩;have zV:∀g,(Value.slice E p.length F).ownBlock=some g->g<w.heap.size:=fun g hg=>(Ac m.o.lo hg).2;have zS:Aa C (w.heap.size+2) z12:=Aa.same yQ.o (Z.block _ yQ.o.lt (fun e=>by have:=zV _ (by simpa using e);omega));have rC:w.heap.size+3<=C.heap.size:=Zm yT Z.size;have yS:Hid (Tn (Value.slice E p.length F).ownBlock.toList w C):=xP.o.trans Z
         clear l0 l1 l2 l3 l4 l5 l6 m3 yO;obtain⟨O,rfl⟩|⟨⟨vC,vA⟩,g2,c2,rfl,zZ,P⟩:=yG
         ·obtain⟨Y,L⟩:∃Y,Y=C.alloc (.cells (Yk 4) 90):=⟨_,rfl⟩;have bY:Below C.heap.size C Y:=by rw[L];exact Zy
          have j:Aa Y C.heap.size (Yh 4):=by rw[L];exact Aa.new C _ _
          have yR:=Aa.below (v:=Zf) zS bY;have HY:=Yx L;have N:Hid (Tn (Value.slice E p.length F).ownBlock.toList w Y):=yS.o.trans (Tn.of bY);have yM:Hid (p.length=200∨given=1000000000):=by have H:=m.o.nl;have h2:=m.o.g1;show _∨_;omega
          obtain⟨⟨y0,q0⟩,⟨y1,q1⟩,⟨y2,q2⟩,⟨y3,q3⟩,⟨y4,q4⟩,⟨y5,q5⟩,⟨y6,q6⟩,⟨y7,q7⟩,⟨y8,q8⟩,⟨y9,q9⟩,⟨zF,yX⟩,zG,yY⟩:=AZ yR;obtain⟨u0,vL⟩:=j 0 _ rfl;obtain⟨u1,vM⟩:=j 1 _ rfl;obtain⟨u2,vO⟩:=j 2 _ rfl;obtain⟨u3,vP⟩:=j 3 _ rfl;obtain⟨u4,vQ⟩:=j 4 _ rfl;obtain⟨u5,vR⟩:=j 5 _ rfl;obtain⟨u6,vS⟩:=j 6 _ rfl;obtain⟨u7,vT⟩:=j 7 _ rfl;obtain⟨u8,vU⟩:=j 8 _ rfl;obtain⟨u9,vV⟩:=j 9 _ rfl
          obtain⟨vJ,yH⟩:=j 10 _ rfl;obtain⟨vK,yI⟩:=j 11 _ rfl;clear bY j yR L zS Z O;go_upto_region 30 with fail;rw[←HY.o];clear HY;go_wp2;refine bodyPost_ret (v:=.agg (Ch 4 ⟨#[]⟩ ⟨#[]⟩).toArray) (by simp[results,results81,go_sem,y0,y1,y2,y3,y4,y5,y6,y7,y8,y9,zF,zG,Ch]) rfl ?_
          exact⟨Tn.fresh N.o (Bq Y (w.heap.size+2) _ _ _ _ _ _ _ _ _ _ _ _) (by omega),.inl ⟨4,_,_,.inr ⟨zJ.o,.inr (.inr ⟨⟨_,_,xS.o⟩,yM.o,rfl,rfl,rfl⟩)⟩,rfl⟩⟩
         ·obtain⟨Y,L⟩:∃Y,Y=C.alloc (.cells #[Zf,Zg y,Zg B,Zg (given+1),Zg (ae+1),Za V (BI d ((⟨SS,ae+1,text,refs⟩,Za f refs.length t):Kd×Value)).length K,.slice Q T S,Za g2 (p.length+1) c2,Zd,Zg (given+1),Zd,Zd] 90):=⟨_,rfl⟩;have bY:Below C.heap.size C Y:=by rw[L];exact Zy
          have j:Aa Y C.heap.size [Zf,Zg y,Zg B,Zg (given+1),Zg (ae+1),Za V (BI d ((⟨SS,ae+1,text,refs⟩,Za f refs.length t):Kd×Value)).length K,.slice Q T S,Za g2 (p.length+1) c2,Zd,Zg (given+1),Zd,Zd]:=by rw[L];exact Aa.new C _ _
          have yR:=Aa.below (v:=Zf) zS bY;have HY:=Yx L;have N:Hid (Tn (Value.slice E p.length F).ownBlock.toList w Y):=yS.o.trans (Tn.of bY);have yP:=Yx (Ag zZ bY);have xW:C.heap.size<Y.heap.size:=j.lt;have zW:Tn (Value.slice E p.length F).ownBlock.toList X Y:=Z.trans (Tn.of bY)
          have yV:∀R,Tn [C.heap.size,w.heap.size+2] Y R->OJ J b y B given ae zB d (.slice Q T S) (.slice E p.length F) p text refs w (.returned (.agg #[Zf,Zg y,Zg B,Zg (given+1),Zg (ae+1),Za V (BI d ((⟨SS,ae+1,text,refs⟩,Za f refs.length t):Kd×Value)).length K,.slice Q T S,Za g2 (p.length+1) c2,.string SS,Zg (given+1),Zd,Zd])) R:=fun R G=>by
           have vI:BH R V 0 (BI d ((⟨SS,ae+1,text,refs⟩,Za f refs.length t):Kd×Value)):=tW.o Y R _ Z.size zW G;have yF:g2≠C.heap.size/\g2≠w.heap.size+2:=by
            have H:=(Ac zZ (g:=g2) rfl).2;rcases P with P|P
            ·have h4:=zV _ P;omega
            ·omega
           have vF:=Ak yP.o (w':=R) (fun q l=>G.block q (Ac yP.o l).2 (by
            have h3:g2=q:=by simpa [Value.ownBlock]using l
            rw[←h3];simp;exact yF))
           refine⟨?_,.inr ⟨_,_,V,K,BI d ((⟨SS,ae+1,text,refs⟩,Za f refs.length t):Kd×Value),g2,c2,zJ.o,xS.o,vC,vA,by rw[hSS],rfl,vI,?_,.inr tT.o,tY.o,(by rcases P with h|h;exact .inl h;exact .inr (by omega)),by rw[hSS];exact vF,(by have h0:=yB.o;rcases P with h|h;(have H:=zV _ h;omega);omega),fun z I a n c e2 e3 e=>by
            have h0:=yB.o;rcases FZ I with I|rfl
            ·rcases P with h|h
             ·exact m.o.zL z I a n c e2 e3 (by rw[h,e])
             ·have:=m.o.z.bk I e2 e3;omega
            ·cases e2;have e':f=g2:=e;rcases P with h|h
             ·have H:=zV _ h;omega
             ·omega⟩⟩
           ·exact⟨G.os.trans N.o.os,G.tape.trans N.o.tape,G.output.trans N.o.output,Zm N.o.size G.size,fun q l hv=>(G.block q (Zr l N.o.size) (by simp;omega)).trans (N.o.block q l hv)⟩
           ·exact Zr sG (Zm zW.size G.size)
          have yC:=Yx yV;obtain⟨⟨y0,q0⟩,⟨y1,q1⟩,⟨y2,q2⟩,⟨y3,q3⟩,⟨y4,q4⟩,⟨y5,q5⟩,⟨y6,q6⟩,⟨y7,q7⟩,⟨y8,q8⟩,⟨y9,q9⟩,⟨zF,yX⟩,zG,yY⟩:=AZ yR;obtain⟨u0,vL⟩:=j 0 _ rfl;obtain⟨u1,vM⟩:=j 1 _ rfl;obtain⟨u2,vO⟩:=j 2 _ rfl;obtain⟨u3,vP⟩:=j 3 _ rfl;obtain⟨u4,vQ⟩:=j 4 _ rfl;obtain⟨u5,vR⟩:=j 5 _ rfl;obtain⟨u6,vS⟩:=j 6 _ rfl;obtain⟨u7,vT⟩:=j 7 _ rfl;obtain⟨u8,vU⟩:=j 8 _ rfl;obtain⟨u9,vV⟩:=j 9 _ rfl
          obtain⟨vJ,yH⟩:=j 10 _ rfl;obtain⟨vK,yI⟩:=j 11 _ rfl;clear bY j yR L zS Z yV zZ zW;go_upto_region 30 with fail;rw[←HY.o];clear HY;go_wp2
          refine bodyPost_ret (v:=.agg #[Zf,Zg y,Zg B,Zg (given+1),Zg (ae+1),Za V (BI d ((⟨SS,ae+1,text,refs⟩,Za f refs.length t):Kd×Value)).length K,.slice Q T S,Za g2 (p.length+1) c2,.string SS,Zg (given+1),Zd,Zd]) (by simp[results,results81,go_sem,y0,y1,y2,y3,y4,y5,y6,y7,y8,y9,zF,zG]) rfl ?_;refine yC.o _ ?_
          repeat refine Tn.trans ?_ (Tn.set _ _ _ _ (by simp))
          exact Tn.of (Below.refl _ _)
end Go.Proofs.YtckmnfhmoankmaaGreatDoor
