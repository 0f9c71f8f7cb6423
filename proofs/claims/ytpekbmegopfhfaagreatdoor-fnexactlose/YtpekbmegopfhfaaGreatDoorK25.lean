import Derived.Test.YtpekbmegopfhfaaGreatDoorK24
set_option maxRecDepth 100000
set_option maxHeartbeats 16000000
namespace Go.Proofs.YtpekbmegopfhfaaGreatDoor
open Go.ChangeShapes Go.WideShapes Go.ChangeAt Go.RowKit _root_.Go.Proofs.Tryz
theorem RM (b:Nat) (s:ByteArray) (wd:Int) (w:World) (h:Dn w b s 0 false) (he:Env w) (ha:Mi b) (hs:s.size<=1048576):
 Calls prog 136 #[.pointer (some ⟨b,0,none⟩),XJ wd] w fun e w'=>∃v,e=.returned (.agg #[XJ (AJ s wd),.string (AZ s wd).1,.string (BF s wd).1,XJ (Es s wd),.string (AW s wd).1,v])/\
  w'.ownsRow w.heap.size 9 1 v (AW s wd).2.length ((AW s wd).2.map Value.string)/\Dn w' b (Cz s wd).1 (AJ s wd) (Cu s wd)/\w.grownBy w' (some b):=by
 have zA:=h.lt;have HA:Hid _:=ha;obtain⟨W,hW⟩:∃W,W=w.alloc (.cells #[XK,XM,XM,XK,XM,XN] 77):=⟨_,rfl⟩;have yB:=(Aq hW).1;have E0:Hid (EW w W b s 0 false):=⟨h.below yB,he.below yB,Ax _ yB,by rw[hW];exact Aa.new w _ _⟩;have HW:Hid _:=hW;clear hW h he ha yB;obtain⟨gt,gv,hg⟩:=E0.o.env.er 0 (by simp);go_enter func136,ntmps136;go_upto_region 1 with fail;rw[←HW.o];clear HW
 have xW:decide (1<=wd/\wd<=8)= !FI wd:=by unfold FI;simp
 go_upto_if 10 with(go_at_call 44;refine(Ts wd _).mono ?_;rintro e w' ⟨rfl,xN⟩;rw[xN];clear xN w')
 go_cut [] (fun wx=>Hid (EW w wx b s 0 (FI wd)))
 case first=>
  cases hb0:FI wd with
  |true=>
   go_wp2_with fail;refine(Fl b _ _ _ gt gv W E0.o.rs).mono ?_;rintro e w1 ⟨rfl,h1,g1⟩;go_wp2_with fail;go_meet;rw[hb0];exact E0.o.step HA.o zA h1 g1
  |false=>
   go_wp2_with fail;go_meet;rw[hb0];exact E0.o
 case rest=>
 revert wc;intro w1 E1;clear E0 hg xW;obtain⟨st,sv,hg⟩:=E1.o.env.er 6 (by simp);go_wp2_with fail;refine(FR b s 0 (FI wd) 1 st sv w1 E1.o.rs (by omega) hg).mono ?_;rintro e w2 ⟨rfl,h2,g2⟩;have E2:Hid (EW w w2 b (DI s wd).2.1 0 (DI s wd).2.2):=E1.o.step HA.o zA h2 g2;rw[show Ct (Ba s (FI wd) (1:Nat)).1.data.toList=AJ s wd from rfl];obtain⟨W3,yJ⟩:∃W3,W3=w2.setCell (XL b 1) (XJ (AJ s wd)):=⟨_,rfl⟩
 have E3:Hid (EW w W3 b (DI s wd).2.1 (AJ s wd) (DI s wd).2.2):=by
  rw[yJ];exact E2.o.step HA.o zA (E2.o.rs.setKind _) (Av _ _ _ _)
 obtain⟨vU,_,x0,x1,x2,f0,f1,f2⟩:=E2.o.rs;have xC:Hid _:=yJ;clear yJ h2 g2 hg E1;go_upto_region 4 with fail;rw[←xC.o];clear xC x0 x1 x2 f0 f1 f2 E2;obtain⟨vR,_,x0,x1,x2,f0,f1,f2⟩:=E3.o.rs;go_wp2_with fail;refine(NW (AJ s wd) W3 E3.o.env.tab).mono ?_;rintro e w4 ⟨rfl,xL⟩;have E4:Hid (EW w w4 b (DI s wd).2.1 (AJ s wd) (DI s wd).2.2):=E3.o.below xL
 obtain⟨W5,yE⟩:∃W5,W5=w4.alloc (.cells #[.bool (Eh (AJ s wd)),.bool (Dj (AJ s wd)),.bool (Cp (AJ s wd)),XJ (Ei (AJ s wd))] 211):=⟨_,rfl⟩;have xG:=(Aq yE).1;have E5:Hid (EW w W5 b (DI s wd).2.1 (AJ s wd) (DI s wd).2.2):=E4.o.below xG;obtain⟨U,hU⟩:∃U,U=w4.heap.size:=⟨_,rfl⟩
 have U5:Hid (Aa W5 U [.bool (Eh (AJ s wd)),.bool (Dj (AJ s wd)),.bool (Cp (AJ s wd)),XJ (Ei (AJ s wd))]):=by rw[yE,hU];exact Aa.new w4 _ _
 have vO:w.heap.size<U:=by rw[hU];exact E4.o.lt
 have xK:Hid _:=yE;have HU:Hid _:=hU;clear yE hU xG xL E3 E4 x0 x1 x2 f0 f1 f2;obtain⟨gt,gv,hg⟩:=E5.o.env.er 1 (by simp);go_upto_region 5 with fail;rw[←xK.o,←HU.o];clear xK HU
 go_upto_if 28 with fail
 go_cut [6] (fun _ wx=>Hid (EW w wx b (DI s wd).2.1 (AJ s wd) (EU s wd))/\Hid (Aa wx U [.bool (Eh (AJ s wd)),.bool (Dj (AJ s wd)),.bool (Cp (AJ s wd)),XJ (Ei (AJ s wd))]))
 case first=>
  cases hi:DX (AJ s wd) with
  |true=>
   go_wp2_with fail;go_meet;refine⟨?_,U5.o⟩;rw[show EU s wd=(DI s wd).2.2 by unfold EU;rw[hi];simp];exact E5.o
  |false=>
   go_wp2_with fail;refine(Fl b _ _ _ gt gv W5 E5.o.rs).mono ?_;rintro e w6 ⟨rfl,h6,g6⟩;go_wp2_with fail;go_meet;refine⟨?_,U5.o.far g6 (by omega)⟩;rw[show EU s wd=true by unfold EU;rw[hi];simp];exact E5.o.step HA.o zA h6 g6
 case rest=>
 revert wc;intro w6 hcut;obtain⟨E6,U6⟩:=hcut;clear E5 U5 hg;obtain⟨B7,yT⟩:∃B7:Nat,B7=0:=⟨_,rfl⟩;clear yT B7;have D6:Hid _:=E6.o.below ((Below.refl w6.heap.size w6).drew);have yN:Below w6.heap.size w6 (w6.alloc (.cells #[XK,XM,XM,XK,XM,XN] 77)):=XA;have zW:Hid _:=E6.o.below yN.drew;have xE:Hid (Aa (w6.alloc (.cells #[XK,XM,XM,XK,XM,XN] 77)).drew w6.heap.size [XK,XM,XM,XK,XM,XN]):=Aa.new w6 _ _
 obtain⟨vP,_,x0,x1,x2,f0,f1,f2⟩:=E6.o.rs;have vI:(w6.alloc (.cells #[XK,XM,XM,XK,XM,XN] 77)).cell? (XL b 1)=some (XJ (AJ s wd)):=(yN.cell (p:=⟨b,1,none⟩) E6.o.rs.lt).trans x1;obtain⟨gt,gv,hg⟩:=D6.o.env.er 6 (by simp);obtain⟨xS,vC,xO⟩:=zW.o.env.er 6 (by simp);have yP:=E6.o.rs.lt;have xR:=E6.o.lt;clear yN;go_upto_region 7 with fail
 go_cut [7] (fun v wx=>∃B7:Nat,v=.pointer (some ⟨B7,0,none⟩)/\w6.heap.size<=B7/\Hid (EW w wx b (Dz s wd).2.1 (AJ s wd) (Dz s wd).2.2)/\Hid (w6.grownBy wx (some b))/\Hid (Aa wx B7 [XJ (AJ s wd),XM,XM,XJ (Es s wd),XM,XN]))
 case first=>
  go_region_with (first
   |(go_at_call 159;refine(FR b _ _ _ 4 gt gv w6.drew D6.o.rs (by omega) hg).mono ?_;rintro e w7 ⟨rfl,h7,g7⟩;have E7:Hid (EW w w7 b (Dz s wd).2.1 (AJ s wd) (Dz s wd).2.2):=D6.o.step HA.o zA h7 g7;obtain⟨er7,_,y0,y1,y2,_,_,_⟩:=h7;have zO:=g7;have vM:=E7.o.rs.lt)
   |(go_at_call 159;refine(FR b _ _ _ 4 xS vC _ zW.o.rs (by omega) xO).mono ?_;rintro e w7 ⟨rfl,h7,g7⟩;have E7:Hid (EW w w7 b (Dz s wd).2.1 (AJ s wd) (Dz s wd).2.2):=zW.o.step HA.o zA h7 g7;obtain⟨er7,_,y0,y1,y2,_,_,_⟩:=h7;have Z7:=Aa.far xE.o g7 yP;have z0:=(Z7 0 _ rfl);have z1:=(Z7 1 _ rfl);have z2:=(Z7 2 _ rfl);have z3:=(Z7 3 _ rfl);have z4:=(Z7 4 _ rfl);have z5:=(Z7 5 _ rfl);obtain⟨z0,y0f⟩:=z0;obtain⟨z1,y1f⟩:=z1;obtain⟨z2,y2f⟩:=z2;obtain⟨z3,y3f⟩:=z3;obtain⟨z4,y4f⟩:=z4;obtain⟨z5,y5f⟩:=z5;have yL:=g7;have vM:=E7.o.rs.lt))
  all_goals go_wp2_with fail
  all_goals go_meet
  all_goals first
   |(have hA:Below w7.heap.size w7 (w7.alloc (.cells #[XJ (AJ s wd),XM,XM,XJ (Es s wd),XM,XN] 77)):=XA
     exact⟨w7.heap.size,rfl,zO.size,E7.o.below hA,((Ax (some b) (Below.refl w6.heap.size w6).drew).trans zO).trans (Ax _ hA),Aa.new w7 _ _⟩)
   |(have zI:w.heap.size<w6.heap.size:=xR
     refine⟨w6.heap.size,rfl,XB,?_,?_,?_⟩
     ·exact(((((E7.o.set HA.o zA w6.heap.size 0 _ zI).set HA.o zA w6.heap.size 1 _ zI).set HA.o zA w6.heap.size 2 _ zI).set HA.o zA w6.heap.size 3 _ zI).set HA.o zA w6.heap.size 4 _ zI).set HA.o zA w6.heap.size 5 _ zI
     ·have g0:w6.grownBy w7 (some b):=(Ax (some b) ((Below.refl w6.heap.size w6).alloc (XB) _).drew).trans yL
      exact(((((g0.andThen (Av _ w6.heap.size 0 _) (fun j e=>by cases e;exact .inl (XB))).andThen (Av _ w6.heap.size 1 _) (fun j e=>by cases e;exact .inl (XB))).andThen (Av _ w6.heap.size 2 _) (fun j e=>by cases e;exact .inl (XB))).andThen (Av _ w6.heap.size 3 _) (fun j e=>by cases e;exact .inl (XB))).andThen (Av _ w6.heap.size 4 _) (fun j e=>by cases e;exact .inl (XB))).andThen (Av _ w6.heap.size 5 _) (fun j e=>by cases e;exact .inl (XB))
     ·exact(((((Z7.set 0 _).set 1 _).set 2 _).set 3 _).set 4 _).set 5 _)
 case rest=>
 revert wc;intro w8 hcut;obtain⟨B7,rfl,yT,E8,G8,Z8⟩:=hcut;have vQ:U<B7:=XH U6.o.lt yT;have U8:Hid (Aa w8 U [.bool (Eh (AJ s wd)),.bool (Dj (AJ s wd)),.bool (Cp (AJ s wd)),XJ (Ei (AJ s wd))]):=U6.o.far G8.o (by omega);clear E6 U6 D6 zW xE x0 x1 x2 f0 f1 f2 vI hg xO G8;have zC:w.heap.size<B7:=by omega
 obtain⟨gt,gv,hg⟩:=E8.o.env.er 6 (by simp);go_wp2_with fail;refine(FR b _ _ _ 1 gt gv w8 E8.o.rs (by omega) hg).mono ?_;rintro e w9 ⟨rfl,h9,g9⟩;have E9:Hid (EW w w9 b (EA s wd).2.1 (AJ s wd) (EA s wd).2.2):=E8.o.step HA.o zA h9 g9;have Z9:Hid (Aa w9 B7 [XJ (AJ s wd),XM,XM,XJ (Es s wd),XM,XN]):=Z8.o.far g9 (by omega)
 have U9:Hid (Aa w9 U [.bool (Eh (AJ s wd)),.bool (Dj (AJ s wd)),.bool (Cp (AJ s wd)),XJ (Ei (AJ s wd))]):=U8.o.far g9 (by omega);rw[show Ct (Ba (Dz s wd).2.1 (Dz s wd).2.2 (1:Nat)).1.data.toList=Ls s wd from rfl];clear E8 Z8 U8 h9 g9 hg;obtain⟨gt,gv,hg⟩:=E9.o.env.er 6 (by simp);go_wp2_with fail;refine(Hk b _ _ _ (Ls s wd) gt gv w9 E9.o.rs (fun _=>PK s wd) hg).mono ?_;rintro e yA ⟨rfl,xF,yG⟩
 have xB:Hid (EW w yA b (BF s wd).2.1 (AJ s wd) (BF s wd).2.2):=E9.o.step HA.o zA xF yG;have yX:Hid (Aa yA B7 [XJ (AJ s wd),XM,XM,XJ (Es s wd),XM,XN]):=Z9.o.far yG (by omega);have xI:Hid (Aa yA U [.bool (Eh (AJ s wd)),.bool (Dj (AJ s wd)),.bool (Cp (AJ s wd)),XJ (Ei (AJ s wd))]):=U9.o.far yG (by omega);rw[show(Ba (EA s wd).2.1 (EA s wd).2.2 (Ls s wd)).1=(BF s wd).1 from rfl]
 clear E9 Z9 U9 xF yG hg;obtain⟨z2,xV⟩:=yX.o 2 _ rfl;obtain⟨zJ,zB⟩:∃zJ,zJ=yA.setCell (XL B7 2) (.string (BF s wd).1):=⟨_,rfl⟩;have zK:Hid (EW w zJ b (BF s wd).2.1 (AJ s wd) (BF s wd).2.2):=by rw[zB];exact xB.o.set HA.o zA B7 2 _ zC
 have yD:Hid (Aa zJ B7 [XJ (AJ s wd),XM,.string (BF s wd).1,XJ (Es s wd),XM,XN]):=by rw[zB];exact yX.o.set 2 _
 have zU:Hid (Aa zJ U [.bool (Eh (AJ s wd)),.bool (Dj (AJ s wd)),.bool (Cp (AJ s wd)),XJ (Ei (AJ s wd))]):=by rw[zB];exact xI.o.far' (Av _ _ _ _) (by omega)
 have zP:Hid _:=zB;clear zB xB yX xI;go_upto_region 9 with fail;rw[←zP.o];clear zP z2 xV;obtain⟨u1,_⟩:=zU.o 1 _ rfl
 go_upto_if 45 with fail
 go_cut [] (fun wx=>Hid (EW w wx b (AZ s wd).2.1 (AJ s wd) (AZ s wd).2.2)/\Hid (Aa wx U [.bool (Eh (AJ s wd)),.bool (Dj (AJ s wd)),.bool (Cp (AJ s wd)),XJ (Ei (AJ s wd))])/\Hid (Aa wx B7 [XJ (AJ s wd),.string (AZ s wd).1,.string (BF s wd).1,XJ (Es s wd),XM,XN]))
 case first=>
  cases hu:Dj (AJ s wd) with
  |true=>
   have e5:Hid (AZ s wd=Ba (BF s wd).2.1 (BF s wd).2.2 wd):=by show _=_;unfold AZ;rw[if_pos hu]
   obtain⟨gt,gv,hg⟩:=zK.o.env.er 6 (by simp);go_wp2_with fail;refine(Hk b _ _ _ wd gt gv zJ zK.o.rs (fun h=>Tt h) hg).mono ?_;rintro e yK ⟨rfl,yQ,yH⟩;rw[←e5.o] at yQ ⊢;have zE:=zK.o.step HA.o zA yQ yH;have zG:=yD.o.far yH (by omega);have zT:=zU.o.far yH (by omega);obtain⟨z1,vT⟩:=zG 1 _ rfl;clear yQ yH hg u1 zK yD zU;go_wp2_with fail;go_meet;refine⟨zE.set HA.o zA B7 1 _ zC,?_,zG.set 1 _⟩
   exact zT.far' (Av _ _ _ _) (by omega)
  |false=>
   have e5:Hid (AZ s wd=(⟨#[]⟩,(BF s wd).2)):=by show _=_;unfold AZ;rw[if_neg (by rw[hu];decide)]
   go_wp2_with fail;go_meet;rw[e5.o];exact⟨zK.o,zU.o,yD.o⟩
 case rest=>
 revert wc;intro yK hcut;obtain⟨zE,zT,zG⟩:=hcut;clear zK yD zU u1;have yZ:Hid _:=Vh (wd:=wd) hs;obtain⟨u2,_⟩:=zT.o 2 _ rfl
 go_upto_if 51 with fail
 go_cut [] (fun wx=>∃(ra:Option Addr) (rc:Nat),Hid (EW w wx b (Cz s wd).1 (AJ s wd) (Cz s wd).2)/\Hid (Aa wx B7 [XJ (AJ s wd),.string (AZ s wd).1,.string (BF s wd).1,XJ (Es s wd),.string (AW s wd).1,.slice ra (AW s wd).2.length rc])/\Hid (wx.ownsRow (w.heap.size+1) 9 1 (.slice ra (AW s wd).2.length rc) (AW s wd).2.length ((AW s wd).2.map Value.string)))
 case first=>
  cases hu:Cp (AJ s wd) with
  |true=>
   have e6:Hid (Cz s wd=(Iy (AZ s wd).2.1 (AZ s wd).2.2,Fx (AZ s wd).2.1 (AZ s wd).2.2 wd)):=by show _=_;unfold Cz;rw[if_pos hu]
   have et:Hid (AW s wd=((rd (Eo (AZ s wd).2.1 (AZ s wd).2.2) wd).1,(rd (Eo (AZ s wd).2.1 (AZ s wd).2.2) wd).2.1)):=by show _=_;unfold AW;rw[if_pos hu]
   go_wp2_with fail;refine(RG b _ _ _ wd yK zE.o.rs zE.o.env HA.o yZ.o.2.1).mono ?_;rintro e vL ⟨v,rfl,ho,yC,yR⟩;have t1:(rd (Eo (AZ s wd).2.1 (AZ s wd).2.2) wd).1=(AW s wd).1:=by rw[et.o]
   have t2:(rd (Eo (AZ s wd).2.1 (AZ s wd).2.2) wd).2.1=(AW s wd).2:=by rw[et.o]
   rw[t2] at ho;rw[t1];clear t1 t2;have yC:Dn vL b (Cz s wd).1 (AJ s wd) (Cz s wd).2:=by rw[e6.o];exact yC
   obtain⟨ra,rc,hv,_⟩:=Dm ho;subst hv;have xX:=zE.o.step HA.o zA yC yR;have vE:=zE.o.lt;have zZ:=zG.o.far yR (by omega);have xZ:=zZ.lt;obtain⟨z4,vV⟩:=zZ 4 _ rfl;obtain⟨z5,vW⟩:=zZ 5 _ rfl;have zV:B7<yK.heap.size:=zG.o.lt;clear yC yR u2 zE zT zG e6 et;go_wp2_with fail;go_meet
   exact⟨ra,rc,(xX.set HA.o zA B7 4 _ zC).set HA.o zA B7 5 _ zC,(zZ.set 4 _).set 5 _,(ownsRow_setCell_below (ownsRow_setCell_below ho zV _) zV _).mono (by omega)⟩
  |false=>
   have e6:Hid (Cz s wd=(AZ s wd).2):=by show _=_;unfold Cz;rw[if_neg (by rw[hu];decide)]
   have et:Hid (AW s wd=(⟨#[]⟩,[])):=by show _=_;unfold AW;rw[if_neg (by rw[hu];decide)]
   go_wp2_with fail;go_meet;rw[e6.o,et.o];exact⟨none,0,zE.o,zG.o,World.ownsRow_nil _ _ _ _⟩
 case rest=>
 revert wc;intro xU hcut;obtain⟨ra,rc,zN,yW,zY⟩:=hcut;clear zE zT zG u2;obtain⟨vH,_,x0,x1,x2,f0,f1,f2⟩:=zN.o.rs;obtain⟨gt,gv,hg⟩:=zN.o.env.er 2 (by simp);have xA:∀k,(Value.slice ra (AW s wd).2.length rc).ownBlock=some k->b<k:=fun k hk=>by have:=(zY.o.lt k hk).1;omega
 have xM:Hid _:=xA;clear xA
 go_upto_if 60 with fail
 go_cut [] (fun wx=>Hid (EW w wx b (Cz s wd).1 (AJ s wd) (EV s wd))/\Hid (Aa wx B7 [XJ (AJ s wd),.string (AZ s wd).1,.string (BF s wd).1,XJ (Es s wd),.string (AW s wd).1,.slice ra (AW s wd).2.length rc])/\Hid (wx.ownsRow (w.heap.size+1) 9 1 (.slice ra (AW s wd).2.length rc) (AW s wd).2.length ((AW s wd).2.map Value.string)))
 case first=>
  have xD:Hid _:=ET (s:=(Cz s wd).1);cases hq:(Cz s wd).1.toList.isEmpty with
  |true=>
   have zR:(Cz s wd).1.size=0:=by
    have:=xD.o;rw[hq] at this;simpa using this.symm
   have h0:Hid _:=zR;clear zR;clear hq;go_wp2_with fail;go_meet;rw[show EV s wd=(Cz s wd).2 by unfold EV;rw[decide_eq_true h0.o];simp];exact⟨zN.o,yW.o,zY.o⟩
  |false=>
   have zR:¬(Cz s wd).1.size=0:=by
    have:=xD.o;rw[hq] at this;simpa using this.symm
   have h0:Hid _:=zR;clear zR;clear hq;go_wp2_with fail;refine(Fl b _ _ _ gt gv xU zN.o.rs).mono ?_;rintro e vX ⟨rfl,xH,yF⟩;have xP:=zN.o.step HA.o zA xH yF;have vG:=yW.o.far yF (by omega);have vK:=zY.o.kept yF (.inr (fun e=>by have:=xM.o b e;omega));clear xH yF x0 x1 x2 f0 f1 f2 hg;go_wp2_with fail;go_meet;rw[show EV s wd=true by unfold EV;rw[decide_eq_false h0.o];simp];exact⟨xP,vG,vK⟩
 case rest=>
 revert wc;intro yY hcut;obtain⟨yM,yS,yU⟩:=hcut;clear zN yW zY x0 x1 x2 f0 f1 f2 hg;obtain⟨z0,z1,z2,z3,z4,z5⟩:=Aa.c6 yS.o 0 1 2 3 4 5;have xT:=Tu s wd;have vD:Hid (Ae yY yY.heap.size ra (AW s wd).2):=by
  obtain⟨a',c',hv,hr⟩:=Dm yU.o;cases hv;exact hr
 go_wp2_with fail;refine(WE (AJ s wd) (AZ s wd).1 (BF s wd).1 (Es s wd) (AW s wd).1 ra rc (AW s wd).2 wd yY yM.o.env.tab vD.o (by omega) (by have:=yZ.o.2.2.1;unfold maxLen;omega) (by have:=yZ.o.1;unfold maxLen;omega)).mono ?_;rintro e zX ⟨rfl,zF⟩;rw[show Cs (AJ s wd) (AZ s wd).1 (BF s wd).1 (Es s wd) (AW s wd).1 (AW s wd).2 wd=Iz s wd from rfl]
 have zS:Hid (EW w zX b (Cz s wd).1 (AJ s wd) (EV s wd)):=yM.o.below zF;have yV:Hid (Aa zX B7 [XJ (AJ s wd),.string (AZ s wd).1,.string (BF s wd).1,XJ (Es s wd),.string (AW s wd).1,.slice ra (AW s wd).2.length rc]):=yS.o.below zF;have yO:Hid (zX.ownsRow (w.heap.size+1) 9 1 (.slice ra (AW s wd).2.length rc) (AW s wd).2.length ((AW s wd).2.map Value.string)):=yU.o.kept (Ax none zF) (Classical.em _)
 clear yM yS yU z0 z1 z2 z3 z4 z5 zF;obtain⟨gt,gv,hg⟩:=zS.o.env.er 3 (by simp)
 go_upto_if 67 with fail
 go_cut [] (fun wx=>Hid (EW w wx b (Cz s wd).1 (AJ s wd) (Cu s wd))/\Hid (Aa wx B7 [XJ (AJ s wd),.string (AZ s wd).1,.string (BF s wd).1,XJ (Es s wd),.string (AW s wd).1,.slice ra (AW s wd).2.length rc])/\Hid (wx.ownsRow (w.heap.size+1) 9 1 (.slice ra (AW s wd).2.length rc) (AW s wd).2.length ((AW s wd).2.map Value.string)))
 case first=>
  cases hok:Iz s wd with
  |true=>
   go_wp2_with fail;go_meet;rw[show Cu s wd=EV s wd by unfold Cu;rw[hok];simp];exact⟨zS.o,yV.o,yO.o⟩
  |false=>
   go_wp2_with fail;refine(Fl b _ _ _ gt gv zX zS.o.rs).mono ?_;rintro e tA ⟨rfl,xJ,yI⟩;have xQ:=zS.o.step HA.o zA xJ yI;have vF:=yV.o.far yI (by omega);have xY:=yO.o.kept yI (.inr (fun e=>by have:=xM.o b e;omega));clear xJ yI hg;go_wp2_with fail;go_meet;rw[show Cu s wd=true by unfold Cu;rw[hok];simp];exact⟨xQ,vF,xY⟩
 case rest=>
 revert wc;intro vS hcut;obtain⟨zH,vJ,vA⟩:=hcut;clear zS yV yO hg;obtain⟨z0,z1,z2,z3,z4,z5⟩:=Aa.c6 vJ.o 0 1 2 3 4 5;obtain⟨r0,q0⟩:=zH.o.res 0 _ rfl;obtain⟨r1,q1⟩:=zH.o.res 1 _ rfl;obtain⟨r2,q2⟩:=zH.o.res 2 _ rfl;obtain⟨r3,q3⟩:=zH.o.res 3 _ rfl;obtain⟨r4,q4⟩:=zH.o.res 4 _ rfl;obtain⟨r5,q5⟩:=zH.o.res 5 _ rfl;have zM:b≠w.heap.size:=by omega
 go_wp2;refine bodyPost_ret (v:=.agg #[XJ (AJ s wd),.string (AZ s wd).1,.string (BF s wd).1,XJ (Es s wd),.string (AW s wd).1,.slice ra (AW s wd).2.length rc]) (by simp[results,results136,go_sem, *]) rfl ?_;have hz:w.heap.size<w.heap.size+1:=by omega
 refine⟨_,rfl,?_,?_,?_⟩
 ·refine World.ownsRow.mono ?_ (Nat.le_succ w.heap.size)
  iterate 6 (refine ownsRow_setCell_below ?_ hz _)
  exact vA.o
 ·exact(((((zH.o.rs.far (Av _ w.heap.size 0 _) zM).far (Av _ w.heap.size 1 _) zM).far (Av _ w.heap.size 2 _) zM).far (Av _ w.heap.size 3 _) zM).far (Av _ w.heap.size 4 _) zM).far (Av _ w.heap.size 5 _) zM
 ·exact(((((zH.o.gr.andThen (Av _ w.heap.size 0 _) (fun j e=>by cases e;exact .inl (XB))).andThen (Av _ w.heap.size 1 _) (fun j e=>by cases e;exact .inl (XB))).andThen (Av _ w.heap.size 2 _) (fun j e=>by cases e;exact .inl (XB))).andThen (Av _ w.heap.size 3 _) (fun j e=>by cases e;exact .inl (XB))).andThen (Av _ w.heap.size 4 _) (fun j e=>by cases e;exact .inl (XB))).andThen (Av _ w.heap.size 5 _) (fun j e=>by cases e;exact .inl (XB))
abbrev Az (l:List UInt8):ByteArray:=⟨l.toArray⟩
theorem Vi (s:ByteArray):Az s.data.toList=s:=rfl
theorem Gm (l:List UInt8) (a b:Nat):(Az l).extract a b=Az ((l.drop a).take (b -a)):=by
 apply ByteArray.ext;rw[ByteArray.data_extract];apply Array.ext';simp[List.take_drop]
theorem Bz (l:List UInt8):(Az l).size=l.length:=by simp[ByteArray.size]
def Hm (T:List UInt8) (wd i:Nat):ByteArray:=Az ((T.drop (i *wd)).take wd)
theorem RN (T:List UInt8) (wd:Nat):∀k,k *wd<=T.length->flat ((List.range k).map (Hm T wd))=T.take (k *wd):=by
 intro k;induction k with
 |zero=>intro _;simp[flat]
 |succ k ih=>
  intro h;have hk:k *wd<=T.length:=by rw[Nat.succ_mul] at h;omega
  rw[List.range_succ,List.map_append];unfold flat at *
  rw[List.flatMap_append,ih hk];simp only[List.map_cons,List.map_nil,List.flatMap_cons,List.flatMap_nil,List.append_nil,Hm];rw[Nat.succ_mul,List.take_add]
theorem RO (ss:List ByteArray) (t:List UInt8) (wd:Nat) (h:∀s∈ss,s.size=wd):(List.range ss.length).map (Hm (flat ss++t) wd)=ss:=by
 induction ss with
 |nil=>rfl
 |cons s r ih=>
  have hs:s.data.toList.length=wd:=h s (List.mem_cons_self ..);have hr:=ih (fun x hx=>h x (by simp[hx]));have hf:flat (s::r)++t=s.data.toList++(flat r++t):=by simp[flat]
  rw[List.length_cons,List.range_succ_eq_map,List.map_cons,List.map_map,hf];congr 1
  ·unfold Hm
   rw[Nat.zero_mul,List.drop_zero,List.take_left' hs]
  ·refine Eq.trans ?_ hr
   apply List.map_congr_left;intro i _;simp only[Function.comp,Hm];congr 2;rw[show Nat.succ i *wd=s.data.toList.length+i *wd by rw[Nat.succ_mul,hs];omega,←List.drop_drop,List.drop_left]
theorem rd_mk (c:UInt8) (T:List UInt8) (wd:Int) (h1:1<=wd) (h2:wd<=8):
 rd (Az (c::T)) wd=if c.toNat *wd.toNat<=T.length/\AH (Az (T.drop (c.toNat *wd.toNat))) ((List.range c.toNat).map (Hm T wd.toNat)) wd=true then (Az (T.drop (c.toNat *wd.toNat)),(List.range c.toNat).map (Hm T wd.toNat),true) else (⟨#[]⟩,[],false):=by
 obtain⟨W,rfl⟩:∃W:Nat,wd=W:=⟨wd.toNat,by omega⟩;have zA:(Az (c::T)).size=T.length+1:=by rw[Bz];rfl
 have e1:(Az (c::T)).extract 1 (Az (c::T)).size=Az T:=by rw[zA,Gm];simp
 have ht:CX (Az (c::T)) W c.toNat=Az (T.drop (c.toNat *W)):=by
  unfold CX;rw[e1,Gm,zA];congr 2;rw[show((c.toNat:Int) *(W:Int)).toNat=c.toNat *W by rw[←Int.natCast_mul];rfl];exact XF (by simp)
 have hr:Bw (Az (c::T)) W c.toNat=(List.range c.toNat).map (Hm T W):=by
  unfold Bw;apply List.map_congr_left;intro i _;unfold Iw Hm;rw[e1,Gm];congr 2;rw[show((i:Int) *(W:Int)).toNat=i *W by rw[←Int.natCast_mul];rfl,show((i:Int) *(W:Int)+(W:Int)).toNat=i *W+W by rw[←Int.natCast_mul];omega];congr 1;omega
 have hc:((c.toNat:Int) *(W:Int)<=((Az (c::T)).size:Int) -1)↔c.toNat *W<=T.length:=by
  rw[zA,←Int.natCast_mul];omega
 unfold rd;rw[if_pos ⟨h1,h2⟩];simp only[List.head?_cons];unfold IZ;rw[ht,hr];simp only[hc,Int.toNat_natCast]
theorem Tv {l:List UInt8} {wd:Int} (h:(rd (Az l) wd).2.2=true):AH (rd (Az l) wd).1 (rd (Az l) wd).2.1 wd=true/\BZ (rd (Az l) wd).1 (rd (Az l) wd).2.1=l:=by
 by_cases hw:1<=wd/\wd<=8
 ·cases l with
  |nil=>unfold rd at h;rw[if_pos hw] at h;simp at h
  |cons c T=>
   rw[rd_mk c T wd hw.1 hw.2] at h ⊢;split at h
   case isTrue hc=>
    rw[if_pos hc];refine⟨hc.2,?_⟩;simp only[BZ,List.length_map,List.length_range];rw[RN T wd.toNat c.toNat hc.1];simp
   case isFalse hc=>simp at h
 ·unfold rd at h
  rw[if_neg hw] at h;simp at h
theorem NX {t:ByteArray} {ss:List ByteArray} {wd:Int} (h:AH t ss wd=true):rd (Az (BZ t ss)) wd=(t,ss,true):=by
 have p:=Cq h;have zB:∀s∈ss,s.size=wd.toNat:=fun s hs=>by
  obtain⟨i,hi⟩:=List.getElem?_of_mem hs;have:=p.size hi;omega
 have hn:(UInt8.ofNat ss.length).toNat=ss.length:=by have:=p.refs;simp;omega
 have zA:(flat ss).length=ss.length *wd.toNat:=by rw[Er,p.bulk]
 unfold BZ;rw[rd_mk _ _ wd p.lo p.hi,hn,RO ss t.data.toList wd.toNat zB];have hd:(flat ss++t.data.toList).drop (ss.length *wd.toNat)=t.data.toList:=by rw[←zA,List.drop_left]
 rw[hd,Vi,if_pos ⟨by rw[List.length_append,zA];omega,h⟩]
section
structure ER where
 k:Int
 sum:ByteArray
 name:ByteArray
 n:Int
 t:ByteArray
 ss:List ByteArray
 ok:Bool
def Gn:ER:=⟨0,⟨#[]⟩,⟨#[]⟩,0,⟨#[]⟩,[],false⟩
def AA (s:ByteArray) (wd:Int):ER:=
 if Cu s wd=true then Gn else ⟨AJ s wd,(AZ s wd).1,(BF s wd).1,Es s wd,(AW s wd).1,(AW s wd).2,true⟩
def RP (k:Int) (rest:List UInt8):ByteArray:=if k=1 then ⟨#[]⟩ else Az rest
def RQ (k:Int) (rest:List UInt8) (wd:Int):ByteArray:=if k=1 then (rd (Az rest) wd).1 else ⟨#[]⟩
def RR (k:Int) (rest:List UInt8) (wd:Int):List ByteArray:=if k=1 then (rd (Az rest) wd).2.1 else []
def Ni (k n:Int) (name rest l:List UInt8) (wd:Int):Bool:=
 Cs k (RP k rest) (Az name) n (RQ k rest wd) (RR k rest wd) wd&&decide (DE k (RP k rest) (Az name) n (RQ k rest wd) (RR k rest wd) wd=Az l)
theorem DA (l:List UInt8) (n:Nat) (h:n<=l.length):Ba (Az l) false n=(Az (l.take n),Az (l.drop n),false):=by
 unfold Ba;rw[if_neg (by decide),if_neg (by rw[Bz];omega),Gm,Gm,Bz];simp;exact XF (by simp)
theorem Et (l:List UInt8) (n:Int) (h:(l.length:Int)<n):Ba (Az l) false n=(⟨#[]⟩,Az l,true):=by
 unfold Ba;rw[if_neg (by decide),if_pos (by rw[Bz];exact h)]
theorem FT (r:ByteArray) (n:Int):Ba r true n=(⟨#[]⟩,r,true):=by simp[Ba]
theorem Ho {s:ByteArray} {wd:Int} (h:(BF s wd).2.2=true):Cu s wd=true:=by
 cases hb:Cu s wd with
 |true=>rfl
 |false=>
  unfold Cu at hb;have h8:=(Bool.or_eq_false_iff.1 hb).1;unfold EV at h8;have h6:=(Bool.or_eq_false_iff.1 h8).1;have h5:(AZ s wd).2.2=false:=by
   unfold Cz at h6;split at h6
   ·simp only[Fx] at h6
    exact EF (Bool.or_eq_false_iff.1 h6).1
   ·exact h6
  have h4:(BF s wd).2.2=false:=by
   unfold AZ at h5;split at h5
   ·exact EF h5
   ·exact h5
  rw[h4] at h;cases h
theorem Js {s:ByteArray} {wd:Int} (h:(EA s wd).2.2=true):(BF s wd).2.2=true:=by unfold BF;rw[h,FT]
theorem Nj {s:ByteArray} {wd:Int} (h:(Dz s wd).2.2=true):(EA s wd).2.2=true:=by unfold EA;rw[h,FT]
theorem Tw {s:ByteArray} {wd:Int} (h:EU s wd=true):(Dz s wd).2.2=true:=by unfold Dz;rw[h,FT]
theorem Fo {s:ByteArray} {wd:Int} (h:EU s wd=true):Cu s wd=true:=Ho (Js (Nj (Tw h)))
theorem Tx {s:ByteArray} {wd:Int} (h:¬(1<=wd/\wd<=8)):Cu s wd=true:=by
 refine Fo ?_;unfold EU DI;rw[show FI wd=true by unfold FI;simp;omega,FT];rfl
theorem Ui {wd:Int} (h1:1<=wd) (h2:wd<=8):FI wd=false:=by unfold FI;simp[h1,h2]
theorem Uj (a:UInt8):Ct [a]=(a.toNat:Int):=by simp[Ct]
theorem Uk (a b c d:UInt8):Ct [a,b,c,d]=(a.toNat:Int) *16777216+(b.toNat:Int) *65536+(c.toNat:Int) *256+(d.toNat:Int):=by
 simp only[Ct,List.foldl_cons,List.foldl_nil];omega
section
variable {wd:Int} (h1:1<=wd) (h2:wd<=8)
theorem VN (h1:1<=wd) (h2:wd<=8):Cu (Az []) wd=true:=by
 refine Fo ?_;unfold EU DI;rw[Ui h1 h2,Et [] _ (by simp)];rfl
theorem IP (a:UInt8) (l:List UInt8) (h1:1<=wd) (h2:wd<=8):DI (Az (a::l)) wd=(Az [a],Az l,false):=by
 unfold DI;rw[Ui h1 h2,DA _ _ (by simp)];rfl
theorem RS (a:UInt8) (l:List UInt8) (h1:1<=wd) (h2:wd<=8):AJ (Az (a::l)) wd=(a.toNat:Int):=by
 unfold AJ;rw[IP a l h1 h2];exact Uj a
theorem FY (a:UInt8) (l:List UInt8) (h1:1<=wd) (h2:wd<=8):EU (Az (a::l)) wd= !DX (a.toNat:Int):=by
 unfold EU;rw[IP a l h1 h2,RS a l h1 h2];rfl
theorem Tz (a:UInt8) (l:List UInt8) (h1:1<=wd) (h2:wd<=8) (hl:l.length<4):Cu (Az (a::l)) wd=true:=by
 cases hk:DX (a.toNat:Int) with
 |false=>exact Fo (by rw[FY a l h1 h2,hk];rfl)
 |true=>
  refine Ho (Js (Nj ?_));unfold Dz;rw[FY a l h1 h2,hk,IP a l h1 h2];rw[show(!true)=false from rfl,Et l _ (by omega)]
theorem PL (a0 a1 a2 a3 a4:UInt8) (l:List UInt8) (h1:1<=wd) (h2:wd<=8) (hk:DX (a0.toNat:Int)=true):Dz (Az (a0::a1::a2::a3::a4::l)) wd=(Az [a1,a2,a3,a4],Az l,false):=by
 unfold Dz;rw[FY _ _ h1 h2,hk,IP _ _ h1 h2];rw[show(!true)=false from rfl,DA _ _ (by simp)];rfl
theorem TA (a0 a1 a2 a3 a4:UInt8) (h1:1<=wd) (h2:wd<=8) (hk:DX (a0.toNat:Int)=true):Cu (Az [a0,a1,a2,a3,a4]) wd=true:=by
 refine Ho (Js ?_);unfold EA;rw[PL a0 a1 a2 a3 a4 [] h1 h2 hk,Et [] _ (by simp)]
theorem PM (a0 a1 a2 a3 a4 a5:UInt8) (T:List UInt8) (h1:1<=wd) (h2:wd<=8) (hk:DX (a0.toNat:Int)=true):EA (Az (a0::a1::a2::a3::a4::a5::T)) wd=(Az [a5],Az T,false):=by
 unfold EA;rw[PL a0 a1 a2 a3 a4 (a5::T) h1 h2 hk,DA _ _ (by simp)];rfl
theorem VO (a0 a1 a2 a3 a4 a5:UInt8) (T:List UInt8) (h1:1<=wd) (h2:wd<=8) (hk:DX (a0.toNat:Int)=true):Ls (Az (a0::a1::a2::a3::a4::a5::T)) wd=(a5.toNat:Int):=by
 unfold Ls;rw[PM a0 a1 a2 a3 a4 a5 T h1 h2 hk];exact Uj a5
theorem TB (a0 a1 a2 a3 a4 a5:UInt8) (T:List UInt8) (h1:1<=wd) (h2:wd<=8) (hk:DX (a0.toNat:Int)=true) (hT:T.length<a5.toNat):Cu (Az (a0::a1::a2::a3::a4::a5::T)) wd=true:=by
 refine Ho ?_;unfold BF;rw[VO a0 a1 a2 a3 a4 a5 T h1 h2 hk,PM a0 a1 a2 a3 a4 a5 T h1 h2 hk,Et T _ (by omega)]
theorem Wo (a0 a1 a2 a3 a4 a5:UInt8) (T:List UInt8) (h1:1<=wd) (h2:wd<=8) (hk:DX (a0.toNat:Int)=true) (hT:a5.toNat<=T.length):BF (Az (a0::a1::a2::a3::a4::a5::T)) wd=(Az (T.take a5.toNat),Az (T.drop a5.toNat),false):=by
 unfold BF;rw[VO a0 a1 a2 a3 a4 a5 T h1 h2 hk,PM a0 a1 a2 a3 a4 a5 T h1 h2 hk,DA T _ hT]
theorem WI (a0 a1 a2 a3 a4:UInt8) (l:List UInt8) (h1:1<=wd) (h2:wd<=8) (hk:DX (a0.toNat:Int)=true):Es (Az (a0::a1::a2::a3::a4::l)) wd=Ct [a1,a2,a3,a4]:=by
 unfold Es;rw[PL a0 a1 a2 a3 a4 l h1 h2 hk]
theorem FZ (a:UInt8) (x:Int) (h:x=(a.toNat:Int)):u8 x=a:=by
 subst h;simp[u8]
theorem TC (a0 a1 a2 a3 a4 a5:UInt8):CU (a0.toNat:Int) (Ct [a1,a2,a3,a4]) (a5.toNat:Int)=[a0,a1,a2,a3,a4,a5]:=by
 have b1:=a1.toNat_lt;have b2:=a2.toNat_lt;have b3:=a3.toNat_lt;have b4:=a4.toNat_lt;unfold CU;rw[Uk];rw[FZ a0 _ rfl,FZ a5 _ rfl,FZ a1 _ (by omega),FZ a2 _ (by omega),FZ a3 _ (by omega),FZ a4 _ (by omega)]
end
theorem Vj {k:Nat} (h:DX (k:Int)=true):1<=k/\k<=7:=by
 unfold DX at h;simp at h;omega
theorem Vk {k:Int} {sum name:ByteArray} {n:Int} {t:ByteArray} {ss:List ByteArray} {wd:Int} (h:DX k=false):Cs k sum name n t ss wd=false:=by
 unfold Cs;unfold DX at h;rw[h];rfl
theorem Lt {k:Nat} {sum name:ByteArray} {n:Int} {t:ByteArray} {ss:List ByteArray} {wd:Int} (h:Cs (k:Int) sum name n t ss wd=true):CD k sum name n t ss wd=true:=by
 unfold Cs at h;exact(Bool.and_eq_true_iff.1 h).2
theorem OM {k:Nat} {sum name:ByteArray} {n:Int} {t:ByteArray} {ss:List ByteArray} {wd:Int} (h:Cs (k:Int) sum name n t ss wd=true):Dx (Di k) sum wd=true:=by
 have h':=Lt h;unfold CD at h';exact(Bool.and_eq_true_iff.1 (Bool.and_eq_true_iff.1 h').2).1
theorem PN {l:List UInt8} (h:(Az l).size=0):Az l=⟨#[]⟩:=by
 rw[Bz] at h;rw[List.eq_nil_of_length_eq_zero h]
theorem Kf {k:Nat} {sum name:ByteArray} {n:Int} {t:ByteArray} {ss:List ByteArray} {wd:Int} {l:List UInt8} (h:Cs (k:Int) sum name n t ss wd=true):DE k sum name n t ss wd=Az l↔DT k sum name n t ss=l:=by
 unfold DE;rw[if_pos h,Int.toNat_natCast];constructor
 ·intro e
  have:=congrArg (fun s:ByteArray=>s.data.toList) e;simpa using this
 ·intro e
  rw[e]
theorem Lu (a0 a1 a2 a3 a4 a5:UInt8) (T:List UInt8) {wd:Int} (h1:1<=wd) (h2:wd<=8) (hT:a5.toNat<=T.length):
 AA (Az (a0::a1::a2::a3::a4::a5::T)) wd=
  if Ni (a0.toNat:Int) (Ct [a1,a2,a3,a4]) (T.take a5.toNat) (T.drop a5.toNat) (a0::a1::a2::a3::a4::a5::T) wd=true then
   ⟨(a0.toNat:Int),RP (a0.toNat:Int) (T.drop a5.toNat),Az (T.take a5.toNat),Ct [a1,a2,a3,a4],RQ (a0.toNat:Int) (T.drop a5.toNat) wd,RR (a0.toNat:Int) (T.drop a5.toNat) wd,true⟩
  else Gn:=by
 cases hk:DX (a0.toNat:Int) with
 |false=>
  unfold AA;rw[if_pos (Fo (by rw[FY _ _ h1 h2,hk];rfl)),if_neg (by unfold Ni;rw[Vk hk];simp)]
 |true=>
  obtain⟨k1,k7⟩:=Vj hk;have zB:=Wo a0 a1 a2 a3 a4 a5 T h1 h2 hk hT;have ek:=RS a0 (a1::a2::a3::a4::a5::T) h1 h2;have en:=WI a0 a1 a2 a3 a4 (a5::T) h1 h2 hk;have zS:(Az (T.take a5.toNat)).size=a5.toNat:=by rw[Bz];simp;omega
  have zK:∀x:List UInt8,CU (a0.toNat:Int) (Ct [a1,a2,a3,a4]) ((Az (T.take a5.toNat)).size:Int)++(Az (T.take a5.toNat)).data.toList++x=(a0::a1::a2::a3::a4::a5::T)↔x=T.drop a5.toNat:=by
   intro x;rw[zS,TC];constructor
   ·intro h
    have h':T.take a5.toNat++x=T:=by simpa using h
    have h3:T.take a5.toNat++x=T.take a5.toNat++T.drop a5.toNat:=by rw[h',List.take_append_drop]
    exact List.append_cancel_left h3
   ·intro h
    rw[h];simp
  generalize hs:(Az (a0::a1::a2::a3::a4::a5::T))=s at *
  generalize hnm:Az (T.take a5.toNat)=name at *
  generalize hrs:T.drop a5.toNat=rest at *
  generalize hn:Ct [a1,a2,a3,a4]=n at *
  by_cases hk1:a0.toNat=1
  ·
   have es:Dj (AJ s wd)=false:=by rw[ek,hk1];rfl
   have eu:Cp (AJ s wd)=true:=by rw[ek,hk1];rfl
   have zA:AZ s wd=(⟨#[]⟩,Az rest,false):=by unfold AZ;rw[if_neg (by rw[es];decide),zB]
   have zJ:Eo (Az rest) false=Az rest:=by
    unfold Eo;rw[Bz,DA _ _ (XB)];simp
   have zO:Iy (Az rest) false=⟨#[]⟩:=by
    unfold Iy;rw[Bz,DA _ _ (XB)];simp
   have zT:Fx (Az rest) false wd= !(rd (Az rest) wd).2.2:=by
    unfold Fx;rw[zJ,Bz,DA _ _ (XB)];rfl
   have zC:AW s wd=((rd (Az rest) wd).1,(rd (Az rest) wd).2.1):=by unfold AW;rw[if_pos eu,zA];simp only[zJ]
   have zE:Cz s wd=(⟨#[]⟩, !(rd (Az rest) wd).2.2):=by unfold Cz;rw[if_pos eu,zA];simp only[zO,zT]
   have zH:Iz s wd=Cs (a0.toNat:Int) ⟨#[]⟩ name n (rd (Az rest) wd).1 (rd (Az rest) wd).2.1 wd:=by unfold Iz;rw[ek,en,zB,zA,zC]
   have zF:Cu s wd=(!(rd (Az rest) wd).2.2|| !Cs (a0.toNat:Int) ⟨#[]⟩ name n (rd (Az rest) wd).1 (rd (Az rest) wd).2.1 wd):=by
    unfold Cu EV;rw[zH,zE];simp[ByteArray.size]
   have i1:((a0.toNat:Int)=1):=by omega
   unfold AA Ni RP RQ RR;rw[if_pos i1,if_pos i1,if_pos i1,hnm,zF,ek,zA,zB,en,zC];simp only;cases ho:Cs (a0.toNat:Int) ⟨#[]⟩ name n (rd (Az rest) wd).1 (rd (Az rest) wd).2.1 wd with
   |false=>simp
   |true=>
    have hi:=Kf (l:=a0::a1::a2::a3::a4::a5::T) ho;have zN:=(Fw (Lt ho)).thing hk1;have zR:DT a0.toNat ⟨#[]⟩ name n (rd (Az rest) wd).1 (rd (Az rest) wd).2.1=(a0::a1::a2::a3::a4::a5::T)↔BZ (rd (Az rest) wd).1 (rd (Az rest) wd).2.1=rest:=by
     rw[←zK];unfold DT;rw[if_pos hk1];simp
    rw[zR] at hi;have zP:BZ (rd (Az rest) wd).1 (rd (Az rest) wd).2.1=rest↔(rd (Az rest) wd).2.2=true:=by
     constructor
     ·intro e
      have:=NX zN;rw[e] at this;rw[this]
     ·intro e
      exact(Tv e).2
    rw[zP] at hi;cases hr:(rd (Az rest) wd).2.2 with
    |true=>
     rw[if_neg (by simp),if_pos (by simp;exact hi.2 hr)]
    |false=>
     rw[if_pos (by simp),if_neg (by simp;intro h;have:=hi.1 h;rw[hr] at this;cases this)]
  ·have eu:Cp (AJ s wd)=false:=by rw[ek];unfold Cp Cx;simp[hk1]
   have i1:¬((a0.toNat:Int)=1):=by omega
   have zC:AW s wd=(⟨#[]⟩,[]):=by unfold AW;rw[if_neg (by rw[eu];decide)]
   have zE:Cz s wd=(AZ s wd).2:=by unfold Cz;rw[if_neg (by rw[eu];decide)]
   have zG:∀sm,Cs (a0.toNat:Int) sm name n ⟨#[]⟩ [] wd=true->sm=Az rest->DE (a0.toNat:Int) sm name n ⟨#[]⟩ [] wd=s:=by
    intro sm ho e;rw[←hs];refine(Kf (l:=a0::a1::a2::a3::a4::a5::T) ho).2 ?_;unfold DT;rw[if_neg hk1,e,List.append_nil];exact(zK rest).2 rfl
   unfold AA Ni RP RQ RR;rw[if_neg i1,if_neg i1,if_neg i1,hnm,hs];cases hu:Di a0.toNat with
   |true=>
    have es:Dj (AJ s wd)=true:=by rw[ek];unfold Dj;rw[hk,Int.toNat_natCast,hu];rfl
    have zA:AZ s wd=Ba (Az rest) false wd:=by unfold AZ;rw[if_pos es,zB]
    obtain⟨W,rfl⟩:∃W:Nat,wd=W:=⟨wd.toNat,by omega⟩;by_cases hsz:rest.length=W
    ·rw[DA rest W (by omega),XF (by omega),List.drop_of_length_le (by omega)] at zA
     have zH:Iz s W=Cs (a0.toNat:Int) (Az rest) name n ⟨#[]⟩ [] W:=by unfold Iz;rw[ek,en,zB,zA,zC]
     have zF:Cu s W= !Cs (a0.toNat:Int) (Az rest) name n ⟨#[]⟩ [] W:=by
      unfold Cu EV;rw[zH,zE,zA];simp[ByteArray.size]
     rw[zF,ek,zA,zB,en,zC];simp only;cases ho:Cs (a0.toNat:Int) (Az rest) name n ⟨#[]⟩ [] W with
     |false=>simp
     |true=>rw[if_neg (by simp),if_pos (by simp;exact zG _ ho rfl)]
    ·have zI:Cs (a0.toNat:Int) (Az rest) name n ⟨#[]⟩ [] W=false:=by
      cases ho:Cs (a0.toNat:Int) (Az rest) name n ⟨#[]⟩ [] W with
      |false=>rfl
      |true=>
       have:=OM ho;rw[hu] at this;unfold Dx at this;rw[if_pos rfl,Bz] at this;simp at this;omega
     have hb:Cu s W=true:=by
      unfold Cu EV;rw[zE,zA];by_cases hl:rest.length<W
      ·rw[Et rest _ (by omega)]
       simp
      ·rw[DA rest W (by omega)]
       have:(Az (rest.drop W)).size≠0:=by rw[Bz];simp;omega
       simp[this]
     rw[if_pos hb,if_neg (by rw[zI];simp)]
   |false=>
    have es:Dj (AJ s wd)=false:=by rw[ek];unfold Dj;rw[hk,Int.toNat_natCast,hu];rfl
    have zA:AZ s wd=(⟨#[]⟩,Az rest,false):=by unfold AZ;rw[if_neg (by rw[es];decide),zB]
    by_cases hsz:rest.length=0
    ·have zM:=PN (by rw[Bz];exact hsz)
     have zH:Iz s wd=Cs (a0.toNat:Int) (Az rest) name n ⟨#[]⟩ [] wd:=by unfold Iz;rw[ek,en,zB,zA,zC,zM]
     have zF:Cu s wd= !Cs (a0.toNat:Int) (Az rest) name n ⟨#[]⟩ [] wd:=by
      unfold Cu EV;rw[zH,zE,zA];simp[Bz,hsz]
     rw[zF,ek,zA,zB,en,zC];simp only;cases ho:Cs (a0.toNat:Int) (Az rest) name n ⟨#[]⟩ [] wd with
     |false=>simp
     |true=>rw[if_neg (by simp),if_pos (by simp;exact zG _ ho rfl),zM]
    ·have zI:Cs (a0.toNat:Int) (Az rest) name n ⟨#[]⟩ [] wd=false:=by
      cases ho:Cs (a0.toNat:Int) (Az rest) name n ⟨#[]⟩ [] wd with
      |false=>rfl
      |true=>
       have:=OM ho;rw[hu] at this;unfold Dx at this;rw[if_neg (by decide),Bz] at this;simp at this;simp[this] at hsz
     have hb:Cu s wd=true:=by
      unfold Cu EV;rw[zE,zA];have:(Az rest).size≠0:=by rw[Bz];exact hsz
      simp[this]
     rw[if_pos hb,if_neg (by rw[zI];simp)]
end
def CA (s:ByteArray) (wd:Int) (w:World) (e:Ending) (w':World):Prop:=
 ∃v,e=.returned (.tuple #[.agg #[XJ (AA s wd).k,.string (AA s wd).sum,.string (AA s wd).name,XJ (AA s wd).n,.string (AA s wd).t,v],.bool (AA s wd).ok])/\
  w'.ownsRow w.heap.size 9 1 v (AA s wd).ss.length ((AA s wd).ss.map Value.string)/\Xz w w'
theorem PO (s:ByteArray) (wd:Int) (w:World) (hs:s.size<=1048576) (he:Env w):
 Calls prog 93 #[.string s,XJ wd] w (CA s wd w):=by
 obtain⟨W0,zE⟩:∃W0,W0=w.alloc (.cells #[XK,XM,XM,XK,XM,XN] 77):=⟨_,rfl⟩;have zI:=(Aq zE).1;have zW:=(Aq zE).2.1;have R0:=(Aq zE).2.2;obtain⟨W1,zF⟩:∃W1,W1=W0.alloc (.cells #[.string s,XK,.nilIface] 181):=⟨_,rfl⟩;have zP:=(Aq zF).1;have yC:W0.heap.size<W1.heap.size:=by rw[zF];simp
 have R1:Hid (Aa W1 w.heap.size [XK,XM,XM,XK,XM,XN]):=R0.below zP;have yA:Below w.heap.size w W1:=zI.trans (zP.mono zI.size);have e1:Hid (Env W1):=he.below yA;have ha:Hid (Mi W0.heap.size):=fun g hg=>by have:=he.lt g hg;omega
 have x1:Hid (Dn W1 W0.heap.size s 0 false):=by
  refine⟨none,rfl,?_⟩;have:=Aa.new W0 [.string s,XK,.nilIface] 181;rw[←zF] at this;exact⟨(this 0 _ rfl).1,(this 1 _ rfl).1,(this 2 _ rfl).1,(this 0 _ rfl).2,(this 1 _ rfl).2,(this 2 _ rfl).2⟩
 have zZ:Hid _:=zE;have zU:Hid _:=zF;obtain⟨b,hb⟩:∃b,b=W0.heap.size:=⟨_,rfl⟩;have yF:w.heap.size<b:=by omega
 have HB:Hid _:=hb;rw[←hb] at ha x1 yC;clear zE zF he R0 hb zI zP;go_enter func93,ntmps93;go_upto_region 2 with fail;rw[←zZ.o,←zU.o,←zW,←HB.o];clear zZ zU HB zW;go_wp2_with fail;refine(RM b s wd W1 x1.o e1.o ha.o hs).mono ?_;rintro e w2 ⟨v,rfl,ho,zY,g2⟩;obtain⟨ra,rc,hv,_⟩:=Dm ho;subst hv;have yE:=g2.size
 obtain⟨W3,zB⟩:∃W3,W3=w2.alloc (.cells #[XJ (AJ s wd),.string (AZ s wd).1,.string (BF s wd).1,XJ (Es s wd),.string (AW s wd).1,.slice ra (AW s wd).2.length rc] 77):=⟨_,rfl⟩;have zK:=(Aq zB).1;have yB:w2.heap.size+1=W3.heap.size:=by rw[zB];simp
 have Z3:=(Aq zB).2.2;obtain⟨W4,zC⟩:∃W4,W4=W3.alloc (.cells #[.pointer none] 183):=⟨_,rfl⟩;have zN:=(Aq zC).1;have yD:W3.heap.size<W4.heap.size:=by rw[zC];simp
 have P4:=(Aq zC).2.2;have Z4:=Z3.below zN;have zA:Below w2.heap.size w2 W4:=zK.trans (zN.mono zK.size);have R4:=(R1.o.far' g2 (show b≠w.heap.size by omega)).below zA;have e4:=(e1.o.but g2 ha.o).below zA;have r4:=zY.below zA;have o4:=(ho.kept (Ax none zA) (Classical.em _))
 have B4:Below w.heap.size w W4:=yA.trans (Below.trans (B:=w.heap.size) ⟨g2.os,g2.tape,g2.output,g2.size,fun k hk=>g2.block k (by omega) (fun e=>by have:=Option.some.inj e;omega)⟩ (zA.mono (by omega)));have zT:Hid _:=zB;have zS:Hid _:=zC;have HC:Hid _:=And.intro e4 (And.intro o4 B4);obtain⟨tb,zJ⟩:∃tb,tb=W3.heap.size:=⟨_,rfl⟩;rw[←zJ] at P4;have zR:Hid (tb=W3.heap.size):=zJ
 have yG:w2.heap.size<tb:=by omega
 clear zJ;clear zB zC zK zN zA Z3 ho zY g2 e4 o4 B4 R1 e1 x1;go_upto_region 4 with fail;rw[←zT.o,←zS.o,←zR.o];clear zT zS zR yB yD;have yH:b<tb:=by omega
 have zM:w.heap.size<tb:=by omega
 obtain⟨er,zG,y0,y1,y2,_,_,_⟩:=r4;cases er with
 |none=>
  have zO:Hid (Cu s wd=false):=zG.symm;simp only[Hj] at y2;go_wp2_with fail;refine(VB _ W4).mono ?_;rintro e w5 ⟨rfl,zX⟩;rw[zX];clear zX w5;obtain⟨z0,z1,z2,z3,z4,z5⟩:=Aa.c6 Z4 0 1 2 3 4 5;obtain⟨r0,q0⟩:=R4 0 _ rfl;obtain⟨r1,q1⟩:=R4 1 _ rfl;obtain⟨r2,q2⟩:=R4 2 _ rfl;obtain⟨r3,q3⟩:=R4 3 _ rfl;obtain⟨r4,q4⟩:=R4 4 _ rfl;obtain⟨r5,q5⟩:=R4 5 _ rfl;clear Z4 R4 P4 y0 y1 y2 zG;go_wp2
  refine bodyPost_ret (v:=.tuple #[.agg #[XJ (AJ s wd),.string (AZ s wd).1,.string (BF s wd).1,XJ (Es s wd),.string (AW s wd).1,.slice ra (AW s wd).2.length rc],.bool true]) (by simp[results,results93,go_sem, *]) rfl ?_;have hE:AA s wd=⟨AJ s wd,(AZ s wd).1,(BF s wd).1,Es s wd,(AW s wd).1,(AW s wd).2,true⟩:=by
   unfold AA;rw[if_neg (by rw[zO.o];decide)]
  unfold CA;rw[hE];have zV:w.heap.size<W1.heap.size:=by omega
  refine⟨_,rfl,?_,?_⟩
  ·refine World.ownsRow.mono ?_ (Nat.le_of_lt zV)
   iterate 6 (refine ownsRow_setCell_below ?_ zV _)
   exact HC.o.2.1
  ·iterate 6 (refine Below.setCell ?_ (show w.heap.size<=w.heap.size from XB) _)
   exact HC.o.2.2
 |some q=>
  have zO:Hid (Cu s wd=true):=zG.symm;simp only[Hj] at y2;go_wp2_with fail;refine(VH q tb (.pointer none) W4 HC.o.1.ety (P4 0 _ rfl).1 (P4 0 _ rfl).2).mono ?_;rintro e w5 ⟨rfl,zH⟩;have h0:∀j v,W4.cell? (XL (w.heap.size) j)=some v->w5.cell? (XL (w.heap.size) j)=some v:=fun j v h=>(zH.cell (p:=⟨w.heap.size,j,none⟩) zM).trans h
  have h1:∀j,W4.frozen? ⟨w.heap.size,j,none⟩=false->w5.frozen? ⟨w.heap.size,j,none⟩=false:=fun j h=>(zH.frozen (p:=⟨w.heap.size,j,none⟩) zM).trans h;have r0:=h0 0 _ (R4 0 _ rfl).1;have r1:=h0 1 _ (R4 1 _ rfl).1;have r2:=h0 2 _ (R4 2 _ rfl).1;have r3:=h0 3 _ (R4 3 _ rfl).1;have r4:=h0 4 _ (R4 4 _ rfl).1;have r5:=h0 5 _ (R4 5 _ rfl).1;have q0:=h1 0 (R4 0 _ rfl).2;have q1:=h1 1 (R4 1 _ rfl).2
  have q2:=h1 2 (R4 2 _ rfl).2;have q3:=h1 3 (R4 3 _ rfl).2;have q4:=h1 4 (R4 4 _ rfl).2;have q5:=h1 5 (R4 5 _ rfl).2;have B5:Hid _:=HC.o.2.2.trans (zH.mono (Nat.le_of_lt zM));clear h0 h1 Z4 R4 P4 y0 y1 y2 zG zH;go_wp2;refine bodyPost_ret (v:=.tuple #[.agg #[XK,XM,XM,XK,XM,XN],.bool false]) (by simp[results,results93,go_sem, *]) rfl ?_;have hE:AA s wd=Gn:=by
   unfold AA;rw[if_pos zO.o]
  unfold CA;rw[hE];refine⟨XN,rfl,World.ownsRow_nil _ _ _ _,?_⟩
  iterate 6 (refine Below.setCell ?_ (show w.heap.size<=w.heap.size from XB) _)
  exact B5.o
end Go.Proofs.YtpekbmegopfhfaaGreatDoor
