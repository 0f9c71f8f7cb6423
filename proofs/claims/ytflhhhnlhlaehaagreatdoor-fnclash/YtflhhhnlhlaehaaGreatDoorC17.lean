import Derived.Test.YtflhhhnlhlaehaaGreatDoorC16
import Derived.BigRegion
set_option maxRecDepth 100000
set_option maxHeartbeats 16000000
namespace Go.Proofs.YtflhhhnlhlaehaaGreatDoor
open Go.ChangeShapes Go.WideShapes Go.ChangeAt Go.RowKit _root_.Go.Proofs.Tryz
theorem Oq (b:Nat) (s:ByteArray) (wd:Int) (w:World) (h:CG w b s 0 false) (he:Env w) (ha:KI b) (hs:s.size<=1048576):
 Calls prog 59 #[.pointer (some ⟨b,0,none⟩),.int .i64 wd] w fun e w'=>∃v,e=.returned (.agg #[.int .i64 (Az s wd),.string (AI s wd).1,.string (Be s wd).1,.int .i64 (DB s wd),.string (AG s wd).1,v])/\
  w'.ownsRow w.heap.size 9 1 v (AG s wd).2.length ((AG s wd).2.map Value.string)/\CG w' b (BR s wd).1 (Az s wd) (BI s wd)/\w.grownBy w' (some b):=by
 have zA:=h.lt;have HA:Hid _:=ha;obtain⟨W,hW⟩:∃W,W=w.alloc (.cells #[.int .i64 0,.string ⟨#[]⟩,.string ⟨#[]⟩,.int .i64 0,.string ⟨#[]⟩,.slice none 0 0] 92):=⟨_,rfl⟩;have yD:=(AC hW).1;have E0:Hid (EW w W b s 0 false):=⟨h.below yD,he.below yD,Aj _ yD,by rw[hW];exact Aa.new w _ _⟩;have HW:Hid _:=hW;clear hW h he ha yD;obtain⟨gt,gv,hg⟩:=E0.o.env.er 0 (by simp);go_enter func59,ntmps59
 go_upto_region 1 with fail;rw[←HW.o];clear HW;have vF:decide (1<=wd/\wd<=8)= !EE wd:=by unfold EE;simp
 go_upto_if 10 with(go_at_call 16;refine(PL wd _).mono ?_;rintro e w' ⟨rfl,xL⟩;rw[xL];clear xL w')
 go_cut [] (fun wx=>Hid (EW w wx b s 0 (EE wd)))
 case first=>
  cases hb0:EE wd with
  |true=>
   go_wp2_with fail;refine(Ek b _ _ _ gt gv W E0.o.rs).mono ?_;rintro e w1 ⟨rfl,h1,g1⟩;go_wp2_with fail;go_meet;rw[hb0];exact E0.o.step HA.o zA h1 g1
  |false=>
   go_wp2_with fail;go_meet;rw[hb0];exact E0.o
 case rest=>
 revert wc;intro w1 E1;clear E0 hg vF;obtain⟨st,sv,hg⟩:=E1.o.env.er 6 (by simp);go_wp2_with fail;refine(EJ b s 0 (EE wd) 1 st sv w1 E1.o.rs (by omega) hg).mono ?_;rintro e w2 ⟨rfl,h2,g2⟩;have E2:Hid (EW w w2 b (Da s wd).2.1 0 (Da s wd).2.2):=E1.o.step HA.o zA h2 g2;rw[show BH (AL s (EE wd) (1:Nat)).1.data.toList=Az s wd from rfl]
 obtain⟨W3,yR⟩:∃W3,W3=w2.setCell ⟨b,1,none⟩ (.int .i64 (Az s wd)):=⟨_,rfl⟩;have E3:Hid (EW w W3 b (Da s wd).2.1 (Az s wd) (Da s wd).2.2):=by
  rw[yR];exact E2.o.step HA.o zA (E2.o.rs.setKind _) (Ae _ _ _ _)
 obtain⟨vK,_,x0,x1,x2,f0,f1,f2⟩:=E2.o.rs;have yZ:Hid _:=yR;clear yR h2 g2 hg E1;go_upto_region 4 with fail;rw[←yZ.o];clear yZ x0 x1 x2 f0 f1 f2 E2;obtain⟨vL,_,x0,x1,x2,f0,f1,f2⟩:=E3.o.rs;go_wp2_with fail;refine(Mm (Az s wd) W3 E3.o.env.tab).mono ?_;rintro e w4 ⟨rfl,xI⟩;have E4:Hid (EW w w4 b (Da s wd).2.1 (Az s wd) (Da s wd).2.2):=E3.o.below xI
 obtain⟨W5,yC⟩:∃W5,W5=w4.alloc (.cells #[.bool (Du (Az s wd)),.bool (CE (Az s wd)),.bool (BD (Az s wd)),.int .i64 (Dv (Az s wd))] 162):=⟨_,rfl⟩;have xG:=(AC yC).1;have E5:Hid (EW w W5 b (Da s wd).2.1 (Az s wd) (Da s wd).2.2):=E4.o.below xG;obtain⟨U,hU⟩:∃U,U=w4.heap.size:=⟨_,rfl⟩
 have U5:Hid (Aa W5 U [.bool (Du (Az s wd)),.bool (CE (Az s wd)),.bool (BD (Az s wd)),.int .i64 (Dv (Az s wd))]):=by rw[yC,hU];exact Aa.new w4 _ _
 have vO:w.heap.size<U:=by rw[hU];exact E4.o.lt
 have xA:Hid _:=yC;have HU:Hid _:=hU;clear yC hU xG xI E3 E4 x0 x1 x2 f0 f1 f2;obtain⟨gt,gv,hg⟩:=E5.o.env.er 1 (by simp);go_upto_region 5 with fail;rw[←xA.o,←HU.o];clear xA HU
 go_upto_if 28 with fail
 go_cut [6] (fun _ wx=>Hid (EW w wx b (Da s wd).2.1 (Az s wd) (Ec s wd))/\Hid (Aa wx U [.bool (Du (Az s wd)),.bool (CE (Az s wd)),.bool (BD (Az s wd)),.int .i64 (Dv (Az s wd))]))
 case first=>
  cases hi:Dl (Az s wd) with
  |true=>
   go_wp2_with fail;go_meet;refine⟨?_,U5.o⟩;rw[show Ec s wd=(Da s wd).2.2 by unfold Ec;rw[hi];simp];exact E5.o
  |false=>
   go_wp2_with fail;refine(Ek b _ _ _ gt gv W5 E5.o.rs).mono ?_;rintro e w6 ⟨rfl,h6,g6⟩;go_wp2_with fail;go_meet;refine⟨?_,U5.o.far g6 (by omega)⟩;rw[show Ec s wd=true by unfold Ec;rw[hi];simp];exact E5.o.step HA.o zA h6 g6
 case rest=>
 revert wc;intro w6 hcut;obtain⟨E6,U6⟩:=hcut;clear E5 U5 hg;obtain⟨B7,yQ⟩:∃B7:Nat,B7=0:=⟨_,rfl⟩;clear yQ B7;have D6:Hid _:=E6.o.below ((Below.refl w6.heap.size w6).drew);have yT:Below w6.heap.size w6 (w6.alloc (.cells #[.int .i64 0,.string ⟨#[]⟩,.string ⟨#[]⟩,.int .i64 0,.string ⟨#[]⟩,.slice none 0 0] 92)):=Ur;have zT:Hid _:=E6.o.below yT.drew
 have xC:Hid (Aa (w6.alloc (.cells #[.int .i64 0,.string ⟨#[]⟩,.string ⟨#[]⟩,.int .i64 0,.string ⟨#[]⟩,.slice none 0 0] 92)).drew w6.heap.size [.int .i64 0,.string ⟨#[]⟩,.string ⟨#[]⟩,.int .i64 0,.string ⟨#[]⟩,.slice none 0 0]):=Aa.new w6 _ _;obtain⟨vM,_,x0,x1,x2,f0,f1,f2⟩:=E6.o.rs
 have vI:(w6.alloc (.cells #[.int .i64 0,.string ⟨#[]⟩,.string ⟨#[]⟩,.int .i64 0,.string ⟨#[]⟩,.slice none 0 0] 92)).cell? ⟨b,1,none⟩=some (.int .i64 (Az s wd)):=(yT.cell (p:=⟨b,1,none⟩) E6.o.rs.lt).trans x1;obtain⟨gt,gv,hg⟩:=D6.o.env.er 6 (by simp);obtain⟨xX,xY,xJ⟩:=zT.o.env.er 6 (by simp);have yS:=E6.o.rs.lt;have vE:=E6.o.lt;clear yT;go_upto_region 7 with fail
 go_cut [7] (fun v wx=>∃B7:Nat,v=.pointer (some ⟨B7,0,none⟩)/\w6.heap.size<=B7/\Hid (EW w wx b (CQ s wd).2.1 (Az s wd) (CQ s wd).2.2)/\Hid (w6.grownBy wx (some b))/\Hid (Aa wx B7 [.int .i64 (Az s wd),.string ⟨#[]⟩,.string ⟨#[]⟩,.int .i64 (DB s wd),.string ⟨#[]⟩,.slice none 0 0]))
 case first=>
  go_region_with (first
   |(go_at_call 79;refine(EJ b _ _ _ 4 gt gv w6.drew D6.o.rs (by omega) hg).mono ?_;rintro e w7 ⟨rfl,h7,g7⟩;have E7:Hid (EW w w7 b (CQ s wd).2.1 (Az s wd) (CQ s wd).2.2):=D6.o.step HA.o zA h7 g7;obtain⟨er7,_,y0,y1,y2,_,_,_⟩:=h7;have zS:=g7;have vA:=E7.o.rs.lt)
   |(go_at_call 79;refine(EJ b _ _ _ 4 xX xY _ zT.o.rs (by omega) xJ).mono ?_;rintro e w7 ⟨rfl,h7,g7⟩;have E7:Hid (EW w w7 b (CQ s wd).2.1 (Az s wd) (CQ s wd).2.2):=zT.o.step HA.o zA h7 g7;obtain⟨er7,_,y0,y1,y2,_,_,_⟩:=h7;have Z7:=Aa.far xC.o g7 yS;have z0:=(Z7 0 _ rfl);have z1:=(Z7 1 _ rfl);have z2:=(Z7 2 _ rfl);have z3:=(Z7 3 _ rfl);have z4:=(Z7 4 _ rfl);have z5:=(Z7 5 _ rfl);obtain⟨z0,y0f⟩:=z0;obtain⟨z1,y1f⟩:=z1;obtain⟨z2,y2f⟩:=z2;obtain⟨z3,y3f⟩:=z3;obtain⟨z4,y4f⟩:=z4;obtain⟨z5,y5f⟩:=z5;have yU:=g7;have vA:=E7.o.rs.lt))
  all_goals go_wp2_with fail
  all_goals go_meet
  all_goals first
   |(have hA:Below w7.heap.size w7 (w7.alloc (.cells #[.int .i64 (Az s wd),.string ⟨#[]⟩,.string ⟨#[]⟩,.int .i64 (DB s wd),.string ⟨#[]⟩,.slice none 0 0] 92)):=Ur
     exact⟨w7.heap.size,rfl,zS.size,E7.o.below hA,((Aj (some b) (Below.refl w6.heap.size w6).drew).trans zS).trans (Aj _ hA),Aa.new w7 _ _⟩)
   |(have zL:w.heap.size<w6.heap.size:=vE
     refine⟨w6.heap.size,rfl,Us,?_,?_,?_⟩
     ·exact(((((E7.o.set HA.o zA w6.heap.size 0 _ zL).set HA.o zA w6.heap.size 1 _ zL).set HA.o zA w6.heap.size 2 _ zL).set HA.o zA w6.heap.size 3 _ zL).set HA.o zA w6.heap.size 4 _ zL).set HA.o zA w6.heap.size 5 _ zL
     ·have g0:w6.grownBy w7 (some b):=(Aj (some b) ((Below.refl w6.heap.size w6).alloc (Us) _).drew).trans yU
      exact(((((g0.andThen (Ae _ w6.heap.size 0 _) (fun j e=>by cases e;exact .inl (Us))).andThen (Ae _ w6.heap.size 1 _) (fun j e=>by cases e;exact .inl (Us))).andThen (Ae _ w6.heap.size 2 _) (fun j e=>by cases e;exact .inl (Us))).andThen (Ae _ w6.heap.size 3 _) (fun j e=>by cases e;exact .inl (Us))).andThen (Ae _ w6.heap.size 4 _) (fun j e=>by cases e;exact .inl (Us))).andThen (Ae _ w6.heap.size 5 _) (fun j e=>by cases e;exact .inl (Us))
     ·exact(((((Z7.set 0 _).set 1 _).set 2 _).set 3 _).set 4 _).set 5 _)
 case rest=>
 revert wc;intro w8 hcut;obtain⟨B7,rfl,yQ,E8,G8,Z8⟩:=hcut;have vN:U<B7:=Uy U6.o.lt yQ;have U8:Hid (Aa w8 U [.bool (Du (Az s wd)),.bool (CE (Az s wd)),.bool (BD (Az s wd)),.int .i64 (Dv (Az s wd))]):=U6.o.far G8.o (by omega);clear E6 U6 D6 zT xC x0 x1 x2 f0 f1 f2 vI hg xJ G8;have zD:w.heap.size<B7:=by omega
 obtain⟨gt,gv,hg⟩:=E8.o.env.er 6 (by simp);go_wp2_with fail;refine(EJ b _ _ _ 1 gt gv w8 E8.o.rs (by omega) hg).mono ?_;rintro e w9 ⟨rfl,h9,g9⟩;have E9:Hid (EW w w9 b (DL s wd).2.1 (Az s wd) (DL s wd).2.2):=E8.o.step HA.o zA h9 g9;have Z9:Hid (Aa w9 B7 [.int .i64 (Az s wd),.string ⟨#[]⟩,.string ⟨#[]⟩,.int .i64 (DB s wd),.string ⟨#[]⟩,.slice none 0 0]):=Z8.o.far g9 (by omega)
 have U9:Hid (Aa w9 U [.bool (Du (Az s wd)),.bool (CE (Az s wd)),.bool (BD (Az s wd)),.int .i64 (Dv (Az s wd))]):=U8.o.far g9 (by omega);rw[show BH (AL (CQ s wd).2.1 (CQ s wd).2.2 (1:Nat)).1.data.toList=JU s wd from rfl];clear E8 Z8 U8 h9 g9 hg;obtain⟨gt,gv,hg⟩:=E9.o.env.er 6 (by simp);go_wp2_with fail;refine(FL b _ _ _ (JU s wd) gt gv w9 E9.o.rs (fun _=>Nd s wd) hg).mono ?_
 rintro e yE ⟨rfl,xD,zX⟩;have yX:Hid (EW w yE b (Be s wd).2.1 (Az s wd) (Be s wd).2.2):=E9.o.step HA.o zA xD zX;have yK:Hid (Aa yE B7 [.int .i64 (Az s wd),.string ⟨#[]⟩,.string ⟨#[]⟩,.int .i64 (DB s wd),.string ⟨#[]⟩,.slice none 0 0]):=Z9.o.far zX (by omega);have xB:Hid (Aa yE U [.bool (Du (Az s wd)),.bool (CE (Az s wd)),.bool (BD (Az s wd)),.int .i64 (Dv (Az s wd))]):=U9.o.far zX (by omega)
 rw[show(AL (DL s wd).2.1 (DL s wd).2.2 (JU s wd)).1=(Be s wd).1 from rfl];clear E9 Z9 U9 xD zX hg;obtain⟨z2,vJ⟩:=yK.o 2 _ rfl;obtain⟨zJ,zB⟩:∃zJ,zJ=yE.setCell ⟨B7,2,none⟩ (.string (Be s wd).1):=⟨_,rfl⟩;have zH:Hid (EW w zJ b (Be s wd).2.1 (Az s wd) (Be s wd).2.2):=by rw[zB];exact yX.o.set HA.o zA B7 2 _ zD
 have zV:Hid (Aa zJ B7 [.int .i64 (Az s wd),.string ⟨#[]⟩,.string (Be s wd).1,.int .i64 (DB s wd),.string ⟨#[]⟩,.slice none 0 0]):=by rw[zB];exact yK.o.set 2 _
 have zO:Hid (Aa zJ U [.bool (Du (Az s wd)),.bool (CE (Az s wd)),.bool (BD (Az s wd)),.int .i64 (Dv (Az s wd))]):=by rw[zB];exact xB.o.far' (Ae _ _ _ _) (by omega)
 have zN:Hid _:=zB;clear zB yX yK xB;go_upto_region 9 with fail;rw[←zN.o];clear zN z2 vJ;obtain⟨u1,_⟩:=zO.o 1 _ rfl
 go_upto_if 45 with fail
 go_cut [] (fun wx=>Hid (EW w wx b (AI s wd).2.1 (Az s wd) (AI s wd).2.2)/\Hid (Aa wx U [.bool (Du (Az s wd)),.bool (CE (Az s wd)),.bool (BD (Az s wd)),.int .i64 (Dv (Az s wd))])/\Hid (Aa wx B7 [.int .i64 (Az s wd),.string (AI s wd).1,.string (Be s wd).1,.int .i64 (DB s wd),.string ⟨#[]⟩,.slice none 0 0]))
 case first=>
  cases hu:CE (Az s wd) with
  |true=>
   have e5:Hid (AI s wd=AL (Be s wd).2.1 (Be s wd).2.2 wd):=by show _=_;unfold AI;rw[if_pos hu]
   obtain⟨gt,gv,hg⟩:=zH.o.env.er 6 (by simp);go_wp2_with fail;refine(FL b _ _ _ wd gt gv zJ zH.o.rs (fun h=>PM h) hg).mono ?_;rintro e yV ⟨rfl,yP,zY⟩;rw[←e5.o] at yP ⊢;have zC:=zH.o.step HA.o zA yP zY;have zG:=zV.o.far zY (by omega);have zP:=zO.o.far zY (by omega);obtain⟨z1,vS⟩:=zG 1 _ rfl;clear yP zY hg u1 zH zV zO;go_wp2_with fail;go_meet;refine⟨zC.set HA.o zA B7 1 _ zD,?_,zG.set 1 _⟩
   exact zP.far' (Ae _ _ _ _) (by omega)
  |false=>
   have e5:Hid (AI s wd=(⟨#[]⟩,(Be s wd).2)):=by show _=_;unfold AI;rw[if_neg (by rw[hu];decide)]
   go_wp2_with fail;go_meet;rw[e5.o];exact⟨zH.o,zO.o,zV.o⟩
 case rest=>
 revert wc;intro yV hcut;obtain⟨zC,zP,zG⟩:=hcut;clear zH zV zO u1;have yH:Hid _:=Ro (wd:=wd) hs;obtain⟨u2,_⟩:=zP.o 2 _ rfl
 go_upto_if 51 with fail
 go_cut [] (fun wx=>∃(ra:Option Addr) (rc:Nat),Hid (EW w wx b (BR s wd).1 (Az s wd) (BR s wd).2)/\Hid (Aa wx B7 [.int .i64 (Az s wd),.string (AI s wd).1,.string (Be s wd).1,.int .i64 (DB s wd),.string (AG s wd).1,.slice ra (AG s wd).2.length rc])/\Hid (wx.ownsRow (w.heap.size+1) 9 1 (.slice ra (AG s wd).2.length rc) (AG s wd).2.length ((AG s wd).2.map Value.string)))
 case first=>
  cases hu:BD (Az s wd) with
  |true=>
   have e6:Hid (BR s wd=(Gn (AI s wd).2.1 (AI s wd).2.2,Ex (AI s wd).2.1 (AI s wd).2.2 wd)):=by show _=_;unfold BR;rw[if_pos hu]
   have et:Hid (AG s wd=((rd (Dy (AI s wd).2.1 (AI s wd).2.2) wd).1,(rd (Dy (AI s wd).2.1 (AI s wd).2.2) wd).2.1)):=by show _=_;unfold AG;rw[if_pos hu]
   go_wp2_with fail;refine(NW b _ _ _ wd yV zC.o.rs zC.o.env HA.o yH.o.2.1).mono ?_;rintro e vG ⟨v,rfl,ho,yB,yO⟩;have t1:(rd (Dy (AI s wd).2.1 (AI s wd).2.2) wd).1=(AG s wd).1:=by rw[et.o]
   have t2:(rd (Dy (AI s wd).2.1 (AI s wd).2.2) wd).2.1=(AG s wd).2:=by rw[et.o]
   rw[t2] at ho;rw[t1];clear t1 t2;have yB:CG vG b (BR s wd).1 (Az s wd) (BR s wd).2:=by rw[e6.o];exact yB
   obtain⟨ra,rc,hv,_⟩:=EA ho;subst hv;have xM:=zC.o.step HA.o zA yB yO;have vD:=zC.o.lt;have zW:=zG.o.far yO (by omega);have xZ:=zW.lt;obtain⟨z4,vT⟩:=zW 4 _ rfl;obtain⟨z5,vU⟩:=zW 5 _ rfl;have zR:B7<yV.heap.size:=zG.o.lt;clear yB yO u2 zC zP zG e6 et;go_wp2_with fail;go_meet
   exact⟨ra,rc,(xM.set HA.o zA B7 4 _ zD).set HA.o zA B7 5 _ zD,(zW.set 4 _).set 5 _,(ownsRow_setCell_below (ownsRow_setCell_below ho zR _) zR _).mono (by omega)⟩
  |false=>
   have e6:Hid (BR s wd=(AI s wd).2):=by show _=_;unfold BR;rw[if_neg (by rw[hu];decide)]
   have et:Hid (AG s wd=(⟨#[]⟩,[])):=by show _=_;unfold AG;rw[if_neg (by rw[hu];decide)]
   go_wp2_with fail;go_meet;rw[e6.o,et.o];exact⟨none,0,zC.o,zG.o,World.ownsRow_nil _ _ _ _⟩
 case rest=>
 revert wc;intro vH hcut;obtain⟨ra,rc,zI,yL,zU⟩:=hcut;clear zC zP zG u2;obtain⟨xW,_,x0,x1,x2,f0,f1,f2⟩:=zI.o.rs;obtain⟨gt,gv,hg⟩:=zI.o.env.er 2 (by simp);have xH:∀k,(Value.slice ra (AG s wd).2.length rc).ownBlock=some k->b<k:=fun k hk=>by have:=(zU.o.lt k hk).1;omega
 have yY:Hid _:=xH;clear xH
 go_upto_if 60 with fail
 go_cut [] (fun wx=>Hid (EW w wx b (BR s wd).1 (Az s wd) (Ee s wd))/\Hid (Aa wx B7 [.int .i64 (Az s wd),.string (AI s wd).1,.string (Be s wd).1,.int .i64 (DB s wd),.string (AG s wd).1,.slice ra (AG s wd).2.length rc])/\Hid (wx.ownsRow (w.heap.size+1) 9 1 (.slice ra (AG s wd).2.length rc) (AG s wd).2.length ((AG s wd).2.map Value.string)))
 case first=>
  have xK:Hid _:=NK (s:=(BR s wd).1);cases hq:(BR s wd).1.toList.isEmpty with
  |true=>
   have zQ:(BR s wd).1.size=0:=by
    have:=xK.o;rw[hq] at this;simpa using this.symm
   have h0:Hid _:=zQ;clear zQ;clear hq;go_wp2_with fail;go_meet;rw[show Ee s wd=(BR s wd).2 by unfold Ee;rw[decide_eq_true h0.o];simp];exact⟨zI.o,yL.o,zU.o⟩
  |false=>
   have zQ:¬(BR s wd).1.size=0:=by
    have:=xK.o;rw[hq] at this;simpa using this.symm
   have h0:Hid _:=zQ;clear zQ;clear hq;go_wp2_with fail;refine(Ek b _ _ _ gt gv vH zI.o.rs).mono ?_;rintro e vP ⟨rfl,xE,zZ⟩;have xN:=zI.o.step HA.o zA xE zZ;have xT:=yL.o.far zZ (by omega);have xQ:=zU.o.kept zZ (.inr (fun e=>by have:=yY.o b e;omega));clear xE zZ x0 x1 x2 f0 f1 f2 hg;go_wp2_with fail;go_meet;rw[show Ee s wd=true by unfold Ee;rw[decide_eq_false h0.o];simp];exact⟨xN,xT,xQ⟩
 case rest=>
 revert wc;intro yW hcut;obtain⟨yG,yM,yI⟩:=hcut;clear zI yL zU x0 x1 x2 f0 f1 f2 hg;obtain⟨z0,z1,z2,z3,z4,z5⟩:=Aa.c6 yM.o 0 1 2 3 4 5;have vC:=PN s wd;have xP:Hid (Ad yW yW.heap.size ra (AG s wd).2):=by
  obtain⟨a',c',hv,hr⟩:=EA yI.o;cases hv;exact hr
 go_wp2_with fail;refine(OZ (Az s wd) (AI s wd).1 (Be s wd).1 (DB s wd) (AG s wd).1 ra rc (AG s wd).2 wd yW yG.o.env.tab xP.o (by omega) (by have:=yH.o.2.2.1;unfold maxLen;omega) (by have:=yH.o.1;unfold maxLen;omega)).mono ?_;rintro e yF ⟨rfl,zE⟩;rw[show BA (Az s wd) (AI s wd).1 (Be s wd).1 (DB s wd) (AG s wd).1 (AG s wd).2 wd=GF s wd from rfl]
 have zM:Hid (EW w yF b (BR s wd).1 (Az s wd) (Ee s wd)):=yG.o.below zE;have yN:Hid (Aa yF B7 [.int .i64 (Az s wd),.string (AI s wd).1,.string (Be s wd).1,.int .i64 (DB s wd),.string (AG s wd).1,.slice ra (AG s wd).2.length rc]):=yM.o.below zE
 have yJ:Hid (yF.ownsRow (w.heap.size+1) 9 1 (.slice ra (AG s wd).2.length rc) (AG s wd).2.length ((AG s wd).2.map Value.string)):=yI.o.kept (Aj none zE) (Classical.em _);clear yG yM yI z0 z1 z2 z3 z4 z5 zE;obtain⟨gt,gv,hg⟩:=zM.o.env.er 3 (by simp)
 go_upto_if 67 with fail
 go_cut [] (fun wx=>Hid (EW w wx b (BR s wd).1 (Az s wd) (BI s wd))/\Hid (Aa wx B7 [.int .i64 (Az s wd),.string (AI s wd).1,.string (Be s wd).1,.int .i64 (DB s wd),.string (AG s wd).1,.slice ra (AG s wd).2.length rc])/\Hid (wx.ownsRow (w.heap.size+1) 9 1 (.slice ra (AG s wd).2.length rc) (AG s wd).2.length ((AG s wd).2.map Value.string)))
 case first=>
  cases hok:GF s wd with
  |true=>
   go_wp2_with fail;go_meet;rw[show BI s wd=Ee s wd by unfold BI;rw[hok];simp];exact⟨zM.o,yN.o,yJ.o⟩
  |false=>
   go_wp2_with fail;refine(Ek b _ _ _ gt gv yF zM.o.rs).mono ?_;rintro e vQ ⟨rfl,xF,yA⟩;have xO:=zM.o.step HA.o zA xF yA;have xU:=yN.o.far yA (by omega);have xR:=yJ.o.kept yA (.inr (fun e=>by have:=yY.o b e;omega));clear xF yA hg;go_wp2_with fail;go_meet;rw[show BI s wd=true by unfold BI;rw[hok];simp];exact⟨xO,xU,xR⟩
 case rest=>
 revert wc;intro vR hcut;obtain⟨zF,xV,xS⟩:=hcut;clear zM yN yJ hg;obtain⟨z0,z1,z2,z3,z4,z5⟩:=Aa.c6 xV.o 0 1 2 3 4 5;obtain⟨r0,q0⟩:=zF.o.res 0 _ rfl;obtain⟨r1,q1⟩:=zF.o.res 1 _ rfl;obtain⟨r2,q2⟩:=zF.o.res 2 _ rfl;obtain⟨r3,q3⟩:=zF.o.res 3 _ rfl;obtain⟨r4,q4⟩:=zF.o.res 4 _ rfl;obtain⟨r5,q5⟩:=zF.o.res 5 _ rfl;have zK:b≠w.heap.size:=by omega
 go_wp2;refine bodyPost_ret (v:=.agg #[.int .i64 (Az s wd),.string (AI s wd).1,.string (Be s wd).1,.int .i64 (DB s wd),.string (AG s wd).1,.slice ra (AG s wd).2.length rc]) (by simp[results,results59,go_sem, *]) rfl ?_;have hz:w.heap.size<w.heap.size+1:=by omega
 refine⟨_,rfl,?_,?_,?_⟩
 ·refine World.ownsRow.mono ?_ (Nat.le_succ w.heap.size)
  iterate 6 (refine ownsRow_setCell_below ?_ hz _)
  exact xS.o
 ·exact(((((zF.o.rs.far (Ae _ w.heap.size 0 _) zK).far (Ae _ w.heap.size 1 _) zK).far (Ae _ w.heap.size 2 _) zK).far (Ae _ w.heap.size 3 _) zK).far (Ae _ w.heap.size 4 _) zK).far (Ae _ w.heap.size 5 _) zK
 ·exact(((((zF.o.gr.andThen (Ae _ w.heap.size 0 _) (fun j e=>by cases e;exact .inl (Us))).andThen (Ae _ w.heap.size 1 _) (fun j e=>by cases e;exact .inl (Us))).andThen (Ae _ w.heap.size 2 _) (fun j e=>by cases e;exact .inl (Us))).andThen (Ae _ w.heap.size 3 _) (fun j e=>by cases e;exact .inl (Us))).andThen (Ae _ w.heap.size 4 _) (fun j e=>by cases e;exact .inl (Us))).andThen (Ae _ w.heap.size 5 _) (fun j e=>by cases e;exact .inl (Us))
abbrev Aq (l:List UInt8):ByteArray:=⟨l.toArray⟩
theorem FC (s:ByteArray):Aq s.data.toList=s:=rfl
theorem GH (l:List UInt8) (a b:Nat):(Aq l).extract a b=Aq ((l.drop a).take (b -a)):=by
 apply ByteArray.ext;rw[ByteArray.data_extract];apply Array.ext';simp[List.take_drop]
theorem Bv (l:List UInt8):(Aq l).size=l.length:=by simp[ByteArray.size]
def FP (T:List UInt8) (wd i:Nat):ByteArray:=Aq ((T.drop (i *wd)).take wd)
theorem Ot (T:List UInt8) (wd:Nat):∀k,k *wd<=T.length->flat ((List.range k).map (FP T wd))=T.take (k *wd):=by
 intro k;induction k with
 |zero=>intro _;simp[flat]
 |succ k ih=>
  intro h;have hk:k *wd<=T.length:=by rw[Nat.succ_mul] at h;omega
  rw[List.range_succ,List.map_append];unfold flat at *
  rw[List.flatMap_append,ih hk];simp only[List.map_cons,List.map_nil,List.flatMap_cons,List.flatMap_nil,List.append_nil,FP];rw[Nat.succ_mul,List.take_add]
theorem Ou (ss:List ByteArray) (t:List UInt8) (wd:Nat) (h:∀s∈ss,s.size=wd):(List.range ss.length).map (FP (flat ss++t) wd)=ss:=by
 induction ss with
 |nil=>rfl
 |cons s r ih=>
  have hs:s.data.toList.length=wd:=h s (List.mem_cons_self ..);have hr:=ih (fun x hx=>h x (by simp[hx]));have hf:flat (s::r)++t=s.data.toList++(flat r++t):=by simp[flat]
  rw[List.length_cons,List.range_succ_eq_map,List.map_cons,List.map_map,hf];congr 1
  ·unfold FP
   rw[Nat.zero_mul,List.drop_zero,List.take_left' hs]
  ·refine Eq.trans ?_ hr
   apply List.map_congr_left;intro i _;simp only[Function.comp,FP];congr 2;rw[show Nat.succ i *wd=s.data.toList.length+i *wd by rw[Nat.succ_mul,hs];omega,←List.drop_drop,List.drop_left]
theorem rd_mk (c:UInt8) (T:List UInt8) (wd:Int) (h1:1<=wd) (h2:wd<=8):
 rd (Aq (c::T)) wd=if c.toNat *wd.toNat<=T.length/\As (Aq (T.drop (c.toNat *wd.toNat))) ((List.range c.toNat).map (FP T wd.toNat)) wd=true then (Aq (T.drop (c.toNat *wd.toNat)),(List.range c.toNat).map (FP T wd.toNat),true) else (⟨#[]⟩,[],false):=by
 obtain⟨W,rfl⟩:∃W:Nat,wd=W:=⟨wd.toNat,by omega⟩;have zA:(Aq (c::T)).size=T.length+1:=by rw[Bv];rfl
 have e1:(Aq (c::T)).extract 1 (Aq (c::T)).size=Aq T:=by rw[zA,GH];simp
 have ht:DT (Aq (c::T)) W c.toNat=Aq (T.drop (c.toNat *W)):=by
  unfold DT;rw[e1,GH,zA];congr 2;rw[show((c.toNat:Int) *(W:Int)).toNat=c.toNat *W by rw[←Int.natCast_mul];rfl];exact Uw (by simp)
 have hr:Bx (Aq (c::T)) W c.toNat=(List.range c.toNat).map (FP T W):=by
  unfold Bx;apply List.map_congr_left;intro i _;unfold Jd FP;rw[e1,GH];congr 2;rw[show((i:Int) *(W:Int)).toNat=i *W by rw[←Int.natCast_mul];rfl,show((i:Int) *(W:Int)+(W:Int)).toNat=i *W+W by rw[←Int.natCast_mul];omega];congr 1;omega
 have hc:((c.toNat:Int) *(W:Int)<=((Aq (c::T)).size:Int) -1)↔c.toNat *W<=T.length:=by
  rw[zA,←Int.natCast_mul];omega
 unfold rd;rw[if_pos ⟨h1,h2⟩];simp only[List.head?_cons];unfold JF;rw[ht,hr];simp only[hc,Int.toNat_natCast]
theorem PO {l:List UInt8} {wd:Int} (h:(rd (Aq l) wd).2.2=true):As (rd (Aq l) wd).1 (rd (Aq l) wd).2.1 wd=true/\AS (rd (Aq l) wd).1 (rd (Aq l) wd).2.1=l:=by
 by_cases hw:1<=wd/\wd<=8
 ·cases l with
  |nil=>unfold rd at h;rw[if_pos hw] at h;simp at h
  |cons c T=>
   rw[rd_mk c T wd hw.1 hw.2] at h ⊢;split at h
   case isTrue hc=>
    rw[if_pos hc];refine⟨hc.2,?_⟩;simp only[AS,List.length_map,List.length_range];rw[Ot T wd.toNat c.toNat hc.1];simp
   case isFalse hc=>simp at h
 ·unfold rd at h
  rw[if_neg hw] at h;simp at h
theorem Hl {t:ByteArray} {ss:List ByteArray} {wd:Int} (h:As t ss wd=true):rd (Aq (AS t ss)) wd=(t,ss,true):=by
 have p:=AY h;have zB:∀s∈ss,s.size=wd.toNat:=fun s hs=>by
  obtain⟨i,hi⟩:=List.getElem?_of_mem hs;have:=p.size hi;omega
 have hn:(UInt8.ofNat ss.length).toNat=ss.length:=by have:=p.refs;simp;omega
 have zA:(flat ss).length=ss.length *wd.toNat:=by rw[Cc,p.bulk]
 unfold AS;rw[rd_mk _ _ wd p.lo p.hi,hn,Ou ss t.data.toList wd.toNat zB];have hd:(flat ss++t.data.toList).drop (ss.length *wd.toNat)=t.data.toList:=by rw[←zA,List.drop_left]
 rw[hd,FC,if_pos ⟨by rw[List.length_append,zA];omega,h⟩]
section
structure ER where
 k:Int
 sum:ByteArray
 name:ByteArray
 n:Int
 t:ByteArray
 ss:List ByteArray
 ok:Bool
def Jq:ER:=⟨0,⟨#[]⟩,⟨#[]⟩,0,⟨#[]⟩,[],false⟩
def Ay (s:ByteArray) (wd:Int):ER:=
 if BI s wd=true then Jq else ⟨Az s wd,(AI s wd).1,(Be s wd).1,DB s wd,(AG s wd).1,(AG s wd).2,true⟩
def JV (k:Int) (rest:List UInt8):ByteArray:=if k=1 then ⟨#[]⟩ else Aq rest
def JW (k:Int) (rest:List UInt8) (wd:Int):ByteArray:=if k=1 then (rd (Aq rest) wd).1 else ⟨#[]⟩
def JX (k:Int) (rest:List UInt8) (wd:Int):List ByteArray:=if k=1 then (rd (Aq rest) wd).2.1 else []
def Jr (k n:Int) (name rest l:List UInt8) (wd:Int):Bool:=
 BA k (JV k rest) (Aq name) n (JW k rest wd) (JX k rest wd) wd&&decide (Cx k (JV k rest) (Aq name) n (JW k rest wd) (JX k rest wd) wd=Aq l)
theorem CR (l:List UInt8) (n:Nat) (h:n<=l.length):AL (Aq l) false n=(Aq (l.take n),Aq (l.drop n),false):=by
 unfold AL;rw[if_neg (by decide),if_neg (by rw[Bv];omega),GH,GH,Bv];simp;exact Uw (by simp)
theorem DC (l:List UInt8) (n:Int) (h:(l.length:Int)<n):AL (Aq l) false n=(⟨#[]⟩,Aq l,true):=by
 unfold AL;rw[if_neg (by decide),if_pos (by rw[Bv];exact h)]
theorem EO (r:ByteArray) (n:Int):AL r true n=(⟨#[]⟩,r,true):=by simp[AL]
theorem FQ {s:ByteArray} {wd:Int} (h:(Be s wd).2.2=true):BI s wd=true:=by
 cases hb:BI s wd with
 |true=>rfl
 |false=>
  unfold BI at hb;have h8:=(Bool.or_eq_false_iff.1 hb).1;unfold Ee at h8;have h6:=(Bool.or_eq_false_iff.1 h8).1;have h5:(AI s wd).2.2=false:=by
   unfold BR at h6;split at h6
   ·simp only[Ex] at h6
    exact DQ (Bool.or_eq_false_iff.1 h6).1
   ·exact h6
  have h4:(Be s wd).2.2=false:=by
   unfold AI at h5;split at h5
   ·exact DQ h5
   ·exact h5
  rw[h4] at h;cases h
theorem Ib {s:ByteArray} {wd:Int} (h:(DL s wd).2.2=true):(Be s wd).2.2=true:=by unfold Be;rw[h,EO]
theorem Ly {s:ByteArray} {wd:Int} (h:(CQ s wd).2.2=true):(DL s wd).2.2=true:=by unfold DL;rw[h,EO]
theorem PP {s:ByteArray} {wd:Int} (h:Ec s wd=true):(CQ s wd).2.2=true:=by unfold CQ;rw[h,EO]
theorem Es {s:ByteArray} {wd:Int} (h:Ec s wd=true):BI s wd=true:=FQ (Ib (Ly (PP h)))
theorem PQ {s:ByteArray} {wd:Int} (h:¬(1<=wd/\wd<=8)):BI s wd=true:=by
 refine Es ?_;unfold Ec Da;rw[show EE wd=true by unfold EE;simp;omega,EO];rfl
theorem Qu {wd:Int} (h1:1<=wd) (h2:wd<=8):EE wd=false:=by unfold EE;simp[h1,h2]
theorem Qv (a:UInt8):BH [a]=(a.toNat:Int):=by simp[BH]
theorem Qw (a b c d:UInt8):BH [a,b,c,d]=(a.toNat:Int) *16777216+(b.toNat:Int) *65536+(c.toNat:Int) *256+(d.toNat:Int):=by
 simp only[BH,List.foldl_cons,List.foldl_nil];omega
section
variable {wd:Int} (h1:1<=wd) (h2:wd<=8)
theorem Sg (h1:1<=wd) (h2:wd<=8):BI (Aq []) wd=true:=by
 refine Es ?_;unfold Ec Da;rw[Qu h1 h2,DC [] _ (by simp)];rfl
theorem GW (a:UInt8) (l:List UInt8) (h1:1<=wd) (h2:wd<=8):Da (Aq (a::l)) wd=(Aq [a],Aq l,false):=by
 unfold Da;rw[Qu h1 h2,CR _ _ (by simp)];rfl
theorem Ov (a:UInt8) (l:List UInt8) (h1:1<=wd) (h2:wd<=8):Az (Aq (a::l)) wd=(a.toNat:Int):=by
 unfold Az;rw[GW a l h1 h2];exact Qv a
theorem EP (a:UInt8) (l:List UInt8) (h1:1<=wd) (h2:wd<=8):Ec (Aq (a::l)) wd= !Dl (a.toNat:Int):=by
 unfold Ec;rw[GW a l h1 h2,Ov a l h1 h2];rfl
theorem PR (a:UInt8) (l:List UInt8) (h1:1<=wd) (h2:wd<=8) (hl:l.length<4):BI (Aq (a::l)) wd=true:=by
 cases hk:Dl (a.toNat:Int) with
 |false=>exact Es (by rw[EP a l h1 h2,hk];rfl)
 |true=>
  refine FQ (Ib (Ly ?_));unfold CQ;rw[EP a l h1 h2,hk,GW a l h1 h2];rw[show(!true)=false from rfl,DC l _ (by omega)]
theorem Nf (a0 a1 a2 a3 a4:UInt8) (l:List UInt8) (h1:1<=wd) (h2:wd<=8) (hk:Dl (a0.toNat:Int)=true):CQ (Aq (a0::a1::a2::a3::a4::l)) wd=(Aq [a1,a2,a3,a4],Aq l,false):=by
 unfold CQ;rw[EP _ _ h1 h2,hk,GW _ _ h1 h2];rw[show(!true)=false from rfl,CR _ _ (by simp)];rfl
theorem PS (a0 a1 a2 a3 a4:UInt8) (h1:1<=wd) (h2:wd<=8) (hk:Dl (a0.toNat:Int)=true):BI (Aq [a0,a1,a2,a3,a4]) wd=true:=by
 refine FQ (Ib ?_);unfold DL;rw[Nf a0 a1 a2 a3 a4 [] h1 h2 hk,DC [] _ (by simp)]
theorem Ng (a0 a1 a2 a3 a4 a5:UInt8) (T:List UInt8) (h1:1<=wd) (h2:wd<=8) (hk:Dl (a0.toNat:Int)=true):DL (Aq (a0::a1::a2::a3::a4::a5::T)) wd=(Aq [a5],Aq T,false):=by
 unfold DL;rw[Nf a0 a1 a2 a3 a4 (a5::T) h1 h2 hk,CR _ _ (by simp)];rfl
theorem Sh (a0 a1 a2 a3 a4 a5:UInt8) (T:List UInt8) (h1:1<=wd) (h2:wd<=8) (hk:Dl (a0.toNat:Int)=true):JU (Aq (a0::a1::a2::a3::a4::a5::T)) wd=(a5.toNat:Int):=by
 unfold JU;rw[Ng a0 a1 a2 a3 a4 a5 T h1 h2 hk];exact Qv a5
theorem PT (a0 a1 a2 a3 a4 a5:UInt8) (T:List UInt8) (h1:1<=wd) (h2:wd<=8) (hk:Dl (a0.toNat:Int)=true) (hT:T.length<a5.toNat):BI (Aq (a0::a1::a2::a3::a4::a5::T)) wd=true:=by
 refine FQ ?_;unfold Be;rw[Sh a0 a1 a2 a3 a4 a5 T h1 h2 hk,Ng a0 a1 a2 a3 a4 a5 T h1 h2 hk,DC T _ (by omega)]
theorem SN (a0 a1 a2 a3 a4 a5:UInt8) (T:List UInt8) (h1:1<=wd) (h2:wd<=8) (hk:Dl (a0.toNat:Int)=true) (hT:a5.toNat<=T.length):Be (Aq (a0::a1::a2::a3::a4::a5::T)) wd=(Aq (T.take a5.toNat),Aq (T.drop a5.toNat),false):=by
 unfold Be;rw[Sh a0 a1 a2 a3 a4 a5 T h1 h2 hk,Ng a0 a1 a2 a3 a4 a5 T h1 h2 hk,CR T _ hT]
theorem Tp (a0 a1 a2 a3 a4:UInt8) (l:List UInt8) (h1:1<=wd) (h2:wd<=8) (hk:Dl (a0.toNat:Int)=true):DB (Aq (a0::a1::a2::a3::a4::l)) wd=BH [a1,a2,a3,a4]:=by
 unfold DB;rw[Nf a0 a1 a2 a3 a4 l h1 h2 hk]
theorem EQ (a:UInt8) (x:Int) (h:x=(a.toNat:Int)):u8 x=a:=by
 subst h;simp[u8]
theorem PU (a0 a1 a2 a3 a4 a5:UInt8):Bz (a0.toNat:Int) (BH [a1,a2,a3,a4]) (a5.toNat:Int)=[a0,a1,a2,a3,a4,a5]:=by
 have b1:=a1.toNat_lt;have b2:=a2.toNat_lt;have b3:=a3.toNat_lt;have b4:=a4.toNat_lt;unfold Bz;rw[Qw];rw[EQ a0 _ rfl,EQ a5 _ rfl,EQ a1 _ (by omega),EQ a2 _ (by omega),EQ a3 _ (by omega),EQ a4 _ (by omega)]
end
theorem Rp {k:Nat} (h:Dl (k:Int)=true):1<=k/\k<=7:=by
 unfold Dl at h;simp at h;omega
theorem Rq {k:Int} {sum name:ByteArray} {n:Int} {t:ByteArray} {ss:List ByteArray} {wd:Int} (h:Dl k=false):BA k sum name n t ss wd=false:=by
 unfold BA;unfold Dl at h;rw[h];rfl
theorem Fl {k:Nat} {sum name:ByteArray} {n:Int} {t:ByteArray} {ss:List ByteArray} {wd:Int} (h:BA (k:Int) sum name n t ss wd=true):Ct k sum name n t ss wd=true:=by
 unfold BA at h;exact(Bool.and_eq_true_iff.1 h).2
theorem ME {k:Nat} {sum name:ByteArray} {n:Int} {t:ByteArray} {ss:List ByteArray} {wd:Int} (h:BA (k:Int) sum name n t ss wd=true):Fc (CY k) sum wd=true:=by
 have h':=Fl h;unfold Ct at h';exact(Bool.and_eq_true_iff.1 (Bool.and_eq_true_iff.1 h').2).1
theorem Nh {l:List UInt8} (h:(Aq l).size=0):Aq l=⟨#[]⟩:=by
 rw[Bv] at h;rw[List.eq_nil_of_length_eq_zero h]
theorem FR {k:Nat} {sum name:ByteArray} {n:Int} {t:ByteArray} {ss:List ByteArray} {wd:Int} {l:List UInt8} (h:BA (k:Int) sum name n t ss wd=true):Cx k sum name n t ss wd=Aq l↔DS k sum name n t ss=l:=by
 unfold Cx;rw[if_pos h,Int.toNat_natCast];constructor
 ·intro e
  have:=congrArg (fun s:ByteArray=>s.data.toList) e;simpa using this
 ·intro e
  rw[e]
theorem JY (a0 a1 a2 a3 a4 a5:UInt8) (T:List UInt8) {wd:Int} (h1:1<=wd) (h2:wd<=8) (hT:a5.toNat<=T.length):
 Ay (Aq (a0::a1::a2::a3::a4::a5::T)) wd=
  if Jr (a0.toNat:Int) (BH [a1,a2,a3,a4]) (T.take a5.toNat) (T.drop a5.toNat) (a0::a1::a2::a3::a4::a5::T) wd=true then
   ⟨(a0.toNat:Int),JV (a0.toNat:Int) (T.drop a5.toNat),Aq (T.take a5.toNat),BH [a1,a2,a3,a4],JW (a0.toNat:Int) (T.drop a5.toNat) wd,JX (a0.toNat:Int) (T.drop a5.toNat) wd,true⟩
  else Jq:=by
 cases hk:Dl (a0.toNat:Int) with
 |false=>
  unfold Ay;rw[if_pos (Es (by rw[EP _ _ h1 h2,hk];rfl)),if_neg (by unfold Jr;rw[Rq hk];simp)]
 |true=>
  obtain⟨k1,k7⟩:=Rp hk;have zB:=SN a0 a1 a2 a3 a4 a5 T h1 h2 hk hT;have ek:=Ov a0 (a1::a2::a3::a4::a5::T) h1 h2;have en:=Tp a0 a1 a2 a3 a4 (a5::T) h1 h2 hk;have zO:(Aq (T.take a5.toNat)).size=a5.toNat:=by rw[Bv];simp;omega
  have zI:∀x:List UInt8,Bz (a0.toNat:Int) (BH [a1,a2,a3,a4]) ((Aq (T.take a5.toNat)).size:Int)++(Aq (T.take a5.toNat)).data.toList++x=(a0::a1::a2::a3::a4::a5::T)↔x=T.drop a5.toNat:=by
   intro x;rw[zO,PU];constructor
   ·intro h
    have h':T.take a5.toNat++x=T:=by simpa using h
    have h3:T.take a5.toNat++x=T.take a5.toNat++T.drop a5.toNat:=by rw[h',List.take_append_drop]
    exact List.append_cancel_left h3
   ·intro h
    rw[h];simp
  generalize hs:(Aq (a0::a1::a2::a3::a4::a5::T))=s at *
  generalize hnm:Aq (T.take a5.toNat)=name at *
  generalize hrs:T.drop a5.toNat=rest at *
  generalize hn:BH [a1,a2,a3,a4]=n at *
  by_cases hk1:a0.toNat=1
  ·
   have es:CE (Az s wd)=false:=by rw[ek,hk1];rfl
   have eu:BD (Az s wd)=true:=by rw[ek,hk1];rfl
   have zA:AI s wd=(⟨#[]⟩,Aq rest,false):=by unfold AI;rw[if_neg (by rw[es];decide),zB]
   have zK:Dy (Aq rest) false=Aq rest:=by
    unfold Dy;rw[Bv,CR _ _ (Us)];simp
   have zP:Gn (Aq rest) false=⟨#[]⟩:=by
    unfold Gn;rw[Bv,CR _ _ (Us)];simp
   have zL:Ex (Aq rest) false wd= !(rd (Aq rest) wd).2.2:=by
    unfold Ex;rw[zK,Bv,CR _ _ (Us)];rfl
   have zC:AG s wd=((rd (Aq rest) wd).1,(rd (Aq rest) wd).2.1):=by unfold AG;rw[if_pos eu,zA];simp only[zK]
   have zD:BR s wd=(⟨#[]⟩, !(rd (Aq rest) wd).2.2):=by unfold BR;rw[if_pos eu,zA];simp only[zP,zL]
   have zF:GF s wd=BA (a0.toNat:Int) ⟨#[]⟩ name n (rd (Aq rest) wd).1 (rd (Aq rest) wd).2.1 wd:=by unfold GF;rw[ek,en,zB,zA,zC]
   have zE:BI s wd=(!(rd (Aq rest) wd).2.2|| !BA (a0.toNat:Int) ⟨#[]⟩ name n (rd (Aq rest) wd).1 (rd (Aq rest) wd).2.1 wd):=by
    unfold BI Ee;rw[zF,zD];simp[ByteArray.size]
   have i1:((a0.toNat:Int)=1):=by omega
   unfold Ay Jr JV JW JX;rw[if_pos i1,if_pos i1,if_pos i1,hnm,zE,ek,zA,zB,en,zC];simp only;cases ho:BA (a0.toNat:Int) ⟨#[]⟩ name n (rd (Aq rest) wd).1 (rd (Aq rest) wd).2.1 wd with
   |false=>simp
   |true=>
    have hi:=FR (l:=a0::a1::a2::a3::a4::a5::T) ho;have zQ:=(DA (Fl ho)).thing hk1;have zM:DS a0.toNat ⟨#[]⟩ name n (rd (Aq rest) wd).1 (rd (Aq rest) wd).2.1=(a0::a1::a2::a3::a4::a5::T)↔AS (rd (Aq rest) wd).1 (rd (Aq rest) wd).2.1=rest:=by
     rw[←zI];unfold DS;rw[if_pos hk1];simp
    rw[zM] at hi;have zN:AS (rd (Aq rest) wd).1 (rd (Aq rest) wd).2.1=rest↔(rd (Aq rest) wd).2.2=true:=by
     constructor
     ·intro e
      have:=Hl zQ;rw[e] at this;rw[this]
     ·intro e
      exact(PO e).2
    rw[zN] at hi;cases hr:(rd (Aq rest) wd).2.2 with
    |true=>
     rw[if_neg (by simp),if_pos (by simp;exact hi.2 hr)]
    |false=>
     rw[if_pos (by simp),if_neg (by simp;intro h;have:=hi.1 h;rw[hr] at this;cases this)]
  ·have eu:BD (Az s wd)=false:=by rw[ek];unfold BD BO;simp[hk1]
   have i1:¬((a0.toNat:Int)=1):=by omega
   have zC:AG s wd=(⟨#[]⟩,[]):=by unfold AG;rw[if_neg (by rw[eu];decide)]
   have zD:BR s wd=(AI s wd).2:=by unfold BR;rw[if_neg (by rw[eu];decide)]
   have zG:∀sm,BA (a0.toNat:Int) sm name n ⟨#[]⟩ [] wd=true->sm=Aq rest->Cx (a0.toNat:Int) sm name n ⟨#[]⟩ [] wd=s:=by
    intro sm ho e;rw[←hs];refine(FR (l:=a0::a1::a2::a3::a4::a5::T) ho).2 ?_;unfold DS;rw[if_neg hk1,e,List.append_nil];exact(zI rest).2 rfl
   unfold Ay Jr JV JW JX;rw[if_neg i1,if_neg i1,if_neg i1,hnm,hs];cases hu:CY a0.toNat with
   |true=>
    have es:CE (Az s wd)=true:=by rw[ek];unfold CE;rw[hk,Int.toNat_natCast,hu];rfl
    have zA:AI s wd=AL (Aq rest) false wd:=by unfold AI;rw[if_pos es,zB]
    obtain⟨W,rfl⟩:∃W:Nat,wd=W:=⟨wd.toNat,by omega⟩;by_cases hsz:rest.length=W
    ·rw[CR rest W (by omega),Uw (by omega),List.drop_of_length_le (by omega)] at zA
     have zF:GF s W=BA (a0.toNat:Int) (Aq rest) name n ⟨#[]⟩ [] W:=by unfold GF;rw[ek,en,zB,zA,zC]
     have zE:BI s W= !BA (a0.toNat:Int) (Aq rest) name n ⟨#[]⟩ [] W:=by
      unfold BI Ee;rw[zF,zD,zA];simp[ByteArray.size]
     rw[zE,ek,zA,zB,en,zC];simp only;cases ho:BA (a0.toNat:Int) (Aq rest) name n ⟨#[]⟩ [] W with
     |false=>simp
     |true=>rw[if_neg (by simp),if_pos (by simp;exact zG _ ho rfl)]
    ·have zH:BA (a0.toNat:Int) (Aq rest) name n ⟨#[]⟩ [] W=false:=by
      cases ho:BA (a0.toNat:Int) (Aq rest) name n ⟨#[]⟩ [] W with
      |false=>rfl
      |true=>
       have:=ME ho;rw[hu] at this;unfold Fc at this;rw[if_pos rfl,Bv] at this;simp at this;omega
     have hb:BI s W=true:=by
      unfold BI Ee;rw[zD,zA];by_cases hl:rest.length<W
      ·rw[DC rest _ (by omega)]
       simp
      ·rw[CR rest W (by omega)]
       have:(Aq (rest.drop W)).size≠0:=by rw[Bv];simp;omega
       simp[this]
     rw[if_pos hb,if_neg (by rw[zH];simp)]
   |false=>
    have es:CE (Az s wd)=false:=by rw[ek];unfold CE;rw[hk,Int.toNat_natCast,hu];rfl
    have zA:AI s wd=(⟨#[]⟩,Aq rest,false):=by unfold AI;rw[if_neg (by rw[es];decide),zB]
    by_cases hsz:rest.length=0
    ·have zJ:=Nh (by rw[Bv];exact hsz)
     have zF:GF s wd=BA (a0.toNat:Int) (Aq rest) name n ⟨#[]⟩ [] wd:=by unfold GF;rw[ek,en,zB,zA,zC,zJ]
     have zE:BI s wd= !BA (a0.toNat:Int) (Aq rest) name n ⟨#[]⟩ [] wd:=by
      unfold BI Ee;rw[zF,zD,zA];simp[Bv,hsz]
     rw[zE,ek,zA,zB,en,zC];simp only;cases ho:BA (a0.toNat:Int) (Aq rest) name n ⟨#[]⟩ [] wd with
     |false=>simp
     |true=>rw[if_neg (by simp),if_pos (by simp;exact zG _ ho rfl),zJ]
    ·have zH:BA (a0.toNat:Int) (Aq rest) name n ⟨#[]⟩ [] wd=false:=by
      cases ho:BA (a0.toNat:Int) (Aq rest) name n ⟨#[]⟩ [] wd with
      |false=>rfl
      |true=>
       have:=ME ho;rw[hu] at this;unfold Fc at this;rw[if_neg (by decide),Bv] at this;simp at this;simp[this] at hsz
     have hb:BI s wd=true:=by
      unfold BI Ee;rw[zD,zA];have:(Aq rest).size≠0:=by rw[Bv];exact hsz
      simp[this]
     rw[if_pos hb,if_neg (by rw[zH];simp)]
end
def GI (s:ByteArray) (wd:Int) (w:World) (e:Ending) (w':World):Prop:=
 ∃v,e=.returned (.tuple #[.agg #[.int .i64 (Ay s wd).k,.string (Ay s wd).sum,.string (Ay s wd).name,.int .i64 (Ay s wd).n,.string (Ay s wd).t,v],.bool (Ay s wd).ok])/\
  w'.ownsRow w.heap.size 9 1 v (Ay s wd).ss.length ((Ay s wd).ss.map Value.string)/\Uq w w'
theorem Ni (s:ByteArray) (wd:Int) (w:World) (hs:s.size<=1048576) (he:Env w):
 Calls prog 38 #[.string s,.int .i64 wd] w (GI s wd w):=by
 obtain⟨W0,zB⟩:∃W0,W0=w.alloc (.cells #[.int .i64 0,.string ⟨#[]⟩,.string ⟨#[]⟩,.int .i64 0,.string ⟨#[]⟩,.slice none 0 0] 92):=⟨_,rfl⟩;have zH:=(AC zB).1;have zX:=(AC zB).2.1;have R0:=(AC zB).2.2;obtain⟨W1,zC⟩:∃W1,W1=W0.alloc (.cells #[.string s,.int .i64 0,.nilIface] 138):=⟨_,rfl⟩;have zI:=(AC zC).1;have zY:W0.heap.size<W1.heap.size:=by rw[zC];simp
 have R1:Hid (Aa W1 w.heap.size [.int .i64 0,.string ⟨#[]⟩,.string ⟨#[]⟩,.int .i64 0,.string ⟨#[]⟩,.slice none 0 0]):=R0.below zI;have zT:Below w.heap.size w W1:=zH.trans (zI.mono zH.size);have e1:Hid (Env W1):=he.below zT;have ha:Hid (KI W0.heap.size):=fun g hg=>by have:=he.lt g hg;omega
 have x1:Hid (CG W1 W0.heap.size s 0 false):=by
  refine⟨none,rfl,?_⟩;have:=Aa.new W0 [.string s,.int .i64 0,.nilIface] 138;rw[←zC] at this;exact⟨(this 0 _ rfl).1,(this 1 _ rfl).1,(this 2 _ rfl).1,(this 0 _ rfl).2,(this 1 _ rfl).2,(this 2 _ rfl).2⟩
 have zP:Hid _:=zB;have zQ:Hid _:=zC;obtain⟨b,hb⟩:∃b,b=W0.heap.size:=⟨_,rfl⟩;have yC:w.heap.size<b:=by omega
 have HB:Hid _:=hb;rw[←hb] at ha x1 zY;clear zB zC he R0 hb zH zI;go_enter func38,ntmps38;go_upto_region 2 with fail;rw[←zP.o,←zQ.o,←zX,←HB.o];clear zP zQ HB zX;go_wp2_with fail;refine(Oq b s wd W1 x1.o e1.o ha.o hs).mono ?_;rintro e w2 ⟨v,rfl,ho,zV,g2⟩;obtain⟨ra,rc,hv,_⟩:=EA ho;subst hv;have yE:=g2.size
 obtain⟨W3,zD⟩:∃W3,W3=w2.alloc (.cells #[.int .i64 (Az s wd),.string (AI s wd).1,.string (Be s wd).1,.int .i64 (DB s wd),.string (AG s wd).1,.slice ra (AG s wd).2.length rc] 92):=⟨_,rfl⟩;have zJ:=(AC zD).1;have zZ:w2.heap.size+1=W3.heap.size:=by rw[zD];simp
 have Z3:=(AC zD).2.2;obtain⟨W4,zE⟩:∃W4,W4=W3.alloc (.cells #[.pointer none] 140):=⟨_,rfl⟩;have zK:=(AC zE).1;have yA:W3.heap.size<W4.heap.size:=by rw[zE];simp
 have P4:=(AC zE).2.2;have Z4:=Z3.below zK;have zA:Below w2.heap.size w2 W4:=zJ.trans (zK.mono zJ.size);have R4:=(R1.o.far' g2 (show b≠w.heap.size by omega)).below zA;have e4:=(e1.o.but g2 ha.o).below zA;have r4:=zV.below zA;have o4:=(ho.kept (Aj none zA) (Classical.em _))
 have B4:Below w.heap.size w W4:=zT.trans (Below.trans (B:=w.heap.size) ⟨g2.os,g2.tape,g2.output,g2.size,fun k hk=>g2.block k (by omega) (fun e=>by have:=Option.some.inj e;omega)⟩ (zA.mono (by omega)));have zR:Hid _:=zD;have zS:Hid _:=zE;have HC:Hid _:=And.intro e4 (And.intro o4 B4);obtain⟨tb,zN⟩:∃tb,tb=W3.heap.size:=⟨_,rfl⟩;rw[←zN] at P4;have zO:Hid (tb=W3.heap.size):=zN
 have yD:w2.heap.size<tb:=by omega
 clear zN;clear zD zE zJ zK zA Z3 ho zV g2 e4 o4 B4 R1 e1 x1;go_upto_region 4 with fail;rw[←zR.o,←zS.o,←zO.o];clear zR zS zO zZ yA;have yB:b<tb:=by omega
 have zM:w.heap.size<tb:=by omega
 obtain⟨er,zG,y0,y1,y2,_,_,_⟩:=r4;cases er with
 |none=>
  have zL:Hid (BI s wd=false):=zG.symm;simp only[FK] at y2;go_wp2_with fail;refine(RD _ W4).mono ?_;rintro e w5 ⟨rfl,zW⟩;rw[zW];clear zW w5;obtain⟨z0,z1,z2,z3,z4,z5⟩:=Aa.c6 Z4 0 1 2 3 4 5;obtain⟨r0,q0⟩:=R4 0 _ rfl;obtain⟨r1,q1⟩:=R4 1 _ rfl;obtain⟨r2,q2⟩:=R4 2 _ rfl;obtain⟨r3,q3⟩:=R4 3 _ rfl;obtain⟨r4,q4⟩:=R4 4 _ rfl;obtain⟨r5,q5⟩:=R4 5 _ rfl;clear Z4 R4 P4 y0 y1 y2 zG;go_wp2
  refine bodyPost_ret (v:=.tuple #[.agg #[.int .i64 (Az s wd),.string (AI s wd).1,.string (Be s wd).1,.int .i64 (DB s wd),.string (AG s wd).1,.slice ra (AG s wd).2.length rc],.bool true]) (by simp[results,results38,go_sem, *]) rfl ?_;have hE:Ay s wd=⟨Az s wd,(AI s wd).1,(Be s wd).1,DB s wd,(AG s wd).1,(AG s wd).2,true⟩:=by
   unfold Ay;rw[if_neg (by rw[zL.o];decide)]
  unfold GI;rw[hE];have zU:w.heap.size<W1.heap.size:=by omega
  refine⟨_,rfl,?_,?_⟩
  ·refine World.ownsRow.mono ?_ (Nat.le_of_lt zU)
   iterate 6 (refine ownsRow_setCell_below ?_ zU _)
   exact HC.o.2.1
  ·iterate 6 (refine Below.setCell ?_ (show w.heap.size<=w.heap.size from Us) _)
   exact HC.o.2.2
 |some q=>
  have zL:Hid (BI s wd=true):=zG.symm;simp only[FK] at y2;go_wp2_with fail;refine(RK q tb (.pointer none) W4 HC.o.1.ety (P4 0 _ rfl).1 (P4 0 _ rfl).2).mono ?_;rintro e w5 ⟨rfl,zF⟩;have h0:∀j v,W4.cell? ⟨w.heap.size,j,none⟩=some v->w5.cell? ⟨w.heap.size,j,none⟩=some v:=fun j v h=>(zF.cell (p:=⟨w.heap.size,j,none⟩) zM).trans h
  have h1:∀j,W4.frozen? ⟨w.heap.size,j,none⟩=false->w5.frozen? ⟨w.heap.size,j,none⟩=false:=fun j h=>(zF.frozen (p:=⟨w.heap.size,j,none⟩) zM).trans h;have r0:=h0 0 _ (R4 0 _ rfl).1;have r1:=h0 1 _ (R4 1 _ rfl).1;have r2:=h0 2 _ (R4 2 _ rfl).1;have r3:=h0 3 _ (R4 3 _ rfl).1;have r4:=h0 4 _ (R4 4 _ rfl).1;have r5:=h0 5 _ (R4 5 _ rfl).1;have q0:=h1 0 (R4 0 _ rfl).2;have q1:=h1 1 (R4 1 _ rfl).2
  have q2:=h1 2 (R4 2 _ rfl).2;have q3:=h1 3 (R4 3 _ rfl).2;have q4:=h1 4 (R4 4 _ rfl).2;have q5:=h1 5 (R4 5 _ rfl).2;have B5:Hid _:=HC.o.2.2.trans (zF.mono (Nat.le_of_lt zM));clear h0 h1 Z4 R4 P4 y0 y1 y2 zG zF;go_wp2
  refine bodyPost_ret (v:=.tuple #[.agg #[.int .i64 0,.string ⟨#[]⟩,.string ⟨#[]⟩,.int .i64 0,.string ⟨#[]⟩,.slice none 0 0],.bool false]) (by simp[results,results38,go_sem, *]) rfl ?_;have hE:Ay s wd=Jq:=by
   unfold Ay;rw[if_pos zL.o]
  unfold GI;rw[hE];refine⟨.slice none 0 0,rfl,World.ownsRow_nil _ _ _ _,?_⟩
  iterate 6 (refine Below.setCell ?_ (show w.heap.size<=w.heap.size from Us) _)
  exact B5.o
theorem Ow {s:ByteArray} {wd:Int} (h:¬(1<=wd/\wd<=8)):Ay s wd=Jq:=by
 unfold Ay;rw[if_pos (PQ h)]
theorem Ox {l:List UInt8} {wd:Int} (h1:1<=wd) (h2:wd<=8) (hl:l.length<6):Ay (Aq l) wd=Jq:=by
 unfold Ay;rw[if_pos]
 match l,hl with
 |[],_=>exact Sg h1 h2
 |a::l,hl=>
  by_cases h4:l.length<4
  ·exact PR a l h1 h2 h4
  ·cases hk:Dl (a.toNat:Int) with
   |false=>exact Es (by rw[EP _ _ h1 h2,hk];rfl)
   |true=>
    match l,hl,h4 with
    |[a1,a2,a3,a4],_,_=>exact PS a a1 a2 a3 a4 h1 h2 hk
    |[],_,h4=>simp at h4
    |[_],_,h4=>simp at h4
    |[_,_],_,h4=>simp at h4
    |[_,_,_],_,h4=>simp at h4
theorem PV {a0 a1 a2 a3 a4 a5:UInt8} {T:List UInt8} {wd:Int} (h1:1<=wd) (h2:wd<=8) (hT:T.length<a5.toNat):Ay (Aq (a0::a1::a2::a3::a4::a5::T)) wd=Jq:=by
 unfold Ay;rw[if_pos];cases hk:Dl (a0.toNat:Int) with
 |false=>exact Es (by rw[EP _ _ h1 h2,hk];rfl)
 |true=>exact PT a0 a1 a2 a3 a4 a5 T h1 h2 hk hT
theorem FE {x:Int} (h0:0<=x) (h:x<256):((u8 x).toNat:Int)=x:=by
 have:(u8 x).toNat=x.toNat:=by simp[u8];omega
 omega
theorem Rr {n:Int} (h0:0<=n) (h1:n<=1000000000):BH [u8 (n/16777216),u8 (n/65536%256),u8 (n/256%256),u8 (n%256)]=n:=by
 rw[Qw,FE (by omega) (by omega),FE (by omega) (by omega),FE (by omega) (by omega),FE (by omega) (by omega)];omega
theorem JZ {s:ByteArray} (h:s.size=0):s=⟨#[]⟩:=by
 have:s.data.toList.length=0:=h;have:=List.eq_nil_of_length_eq_zero this;rw[←FC s,this]
theorem Lz {k:Int} {sum name:ByteArray} {n:Int} {t:ByteArray} {ss:List ByteArray} {wd:Int} (h:BA k sum name n t ss wd=true):Ay (Cx k sum name n t ss wd) wd=⟨k,sum,name,n,t,ss,true⟩:=by
 have h0:=h;unfold BA at h0;simp only[Bool.and_eq_true,decide_eq_true_eq] at h0;obtain⟨m,rfl⟩:∃m:Nat,k=m:=⟨k.toNat,by omega⟩;have hp:=DA (Fl h);have zD:=Fl h;unfold Ct at zD;simp only[Bool.and_eq_true] at zD;obtain⟨_,zH,_,_,zA⟩:=zD;have hT:=(FR h).2 rfl;have e0:((u8 (m:Int)).toNat:Int)=m:=FE (by omega) (by omega);have e5:(u8 (name.size:Int)).toNat=name.size:=by
  have:=FE (x:=(name.size:Int)) (by omega) (by have:=hp.name;omega);omega
 have zE:name.data.toList.length=name.size:=rfl;have zC:=Rr hp.n0 hp.n1;obtain⟨X,hX⟩:∃X,X=sum.data.toList++(if m=1 then AS t ss else []):=⟨_,rfl⟩;have hB:DS m sum name n t ss=u8 (m:Int)::u8 (n/16777216)::u8 (n/65536%256)::u8 (n/256%256)::u8 (n%256)::u8 (name.size:Int)::(name.data.toList++X):=by
  rw[hX];unfold DS Bz;simp
 have hS:JV (m:Int) X=sum/\JW (m:Int) X wd=t/\JX (m:Int) X wd=ss:=by
  by_cases h1:m=1
  ·subst h1
   have hs:=JZ (by simpa [Fc,CY] using zH);have zF:X=AS t ss:=by rw[hX,hs];simp
   rw[zF];unfold JV JW JX;have hr:=Hl (hp.thing rfl);have e1:((1:Nat):Int)=1:=rfl;rw[if_pos e1,if_pos e1,if_pos e1,hr];exact⟨hs.symm,rfl,rfl⟩
  ·have zB:¬((m:Int)=1):=by omega
   have zG:X=sum.data.toList:=by rw[hX,if_neg h1];simp
   have zI:BO m=false:=by simp[BO,h1]
   rw[zI] at zA;simp only[Hq,Bool.false_eq_true,if_false,decide_eq_true_eq] at zA;unfold JV JW JX;rw[if_neg zB,if_neg zB,if_neg zB,zG];exact⟨FC sum,(JZ zA.1).symm,(List.eq_nil_of_length_eq_zero zA.2).symm⟩
 rw[hT,hB,JY _ _ _ _ _ _ _ hp.w1 hp.w2 (by rw[e5];simp),e0,zC,e5];rw[show(name.data.toList++X).take name.size=name.data.toList from List.take_left' zE,show(name.data.toList++X).drop name.size=X from List.drop_left' zE,FC,hS.1,hS.2.1,hS.2.2];rw[if_pos];unfold Jr;rw[hS.1,hS.2.1,hS.2.2,FC,h,hT,hB];simp
theorem GJ {s:ByteArray} {wd:Int} (h:(Ay s wd).ok=true):BA (Ay s wd).k (Ay s wd).sum (Ay s wd).name (Ay s wd).n (Ay s wd).t (Ay s wd).ss wd=true/\Cx (Ay s wd).k (Ay s wd).sum (Ay s wd).name (Ay s wd).n (Ay s wd).t (Ay s wd).ss wd=s:=by
 by_cases hw:1<=wd/\wd<=8
 ·obtain⟨h1,h2⟩:=hw
  obtain⟨l,rfl⟩:∃l,s=Aq l:=⟨s.data.toList,rfl⟩;by_cases h6:l.length<6
  ·rw[Ox h1 h2 h6] at h
   cases h
  ·match l,h6,h with
   |a0::a1::a2::a3::a4::a5::T,h6,h=>
    by_cases hT:a5.toNat<=T.length
    ·rw[JY a0 a1 a2 a3 a4 a5 T h1 h2 hT] at h ⊢
     split at h
     case isTrue hc=>
      rw[if_pos hc];unfold Jr at hc;rw[Bool.and_eq_true,decide_eq_true_eq] at hc;exact hc
     case isFalse hc=>cases h
    ·rw[PV h1 h2 (by omega)] at h
     cases h
   |[],h6,_=>simp at h6
   |[_],h6,_=>simp at h6
   |[_,_],h6,_=>simp at h6
   |[_,_,_],h6,_=>simp at h6
   |[_,_,_,_],h6,_=>simp at h6
   |[_,_,_,_,_],h6,_=>simp at h6
 ·rw[Ow hw] at h
  cases h
section
attribute [local go_sem↓] Go.wp_at_zero Go.wp_at_succ
end
def PW (ks:List Kd) (ps:List Pd) (ls:List Ld):Nat:=ks.length *3+DF ks+ps.length *2+ls.length *3
theorem Bk.below {w w':World} {base:Nat} {T P L:Value} {rs:List Value} {ks:List Kd} {ps:List Pd} {ls:List Ld} (h:Bk w base T P L rs ks ps ls) (hb:Uq w w'):Bk w' base T P L rs ks ps ls:=
 ⟨h.len,Ag h.things hb,fun i k r hk hr=>Ag (h.refs i k r hk hr) hb,Ag h.pins hb,Ag h.leases hb,h.nd⟩
structure An where
 code:Int
 wd:Int
 now:Int
 given:Int
 births:Int
 le:Int
 sm:ByteArray
 a:ByteArray
 b:ByteArray
 ks:List Kd
 ps:List Pd
 ls:List Ld
end Go.Proofs.YtflhhhnlhlaehaaGreatDoor
