import Derived.Test.YtpekbmegopfhfaaGreatDoorK17
import Derived.Test.YtpekbmegopfhfaaGreatDoorK15
set_option maxRecDepth 100000
set_option maxHeartbeats 16000000
namespace Go.Proofs.YtpekbmegopfhfaaGreatDoor
open Go.ChangeShapes Go.WideShapes Go.ChangeAt Go.RowKit _root_.Go.Proofs.Tryz
def MS (lbase b0:Nat) (wd now given births num:Int) (zs:List (Kd×Value)) (P L:Value) (ls:List Ld) (text:ByteArray) (refs:List ByteArray) (w:World) (e:Ending) (w':World):Prop:=
 Tn L.ownBlock.toList w w'/\(
  (∃c a b,Hd wd given births (zs.map (·.1)) ls text refs c a b/\e=.returned (.agg (BT c a b).toArray))∨
  (∃ks1 births1 g gc zs1 g2 c2,(∀r∈refs,Au (zs.map (·.1)) r)/\Cg wd births (zs.map (·.1)) text refs ks1 births1/\ls.length<200/\given<1000000000/\
    e=.returned (.agg #[XK,XJ wd,XJ now,XJ (given+1),XJ births1,.slice (some ⟨g,0,none⟩) zs1.length gc,P,.slice (some ⟨g2,0,none⟩) (ls.length+1) c2,.string (Bd text refs wd),XJ (given+1),XM,XM])/\
    zs1.map (·.1)=ks1/\BE w' g 0 zs1/\g<w'.heap.size/\((g=b0/\zs1=zs)∨w.heap.size<=g)/\(∀z∈zs1,z∈zs∨∃ad n rc,z.2=.slice (some ad) n rc/\w.heap.size<=ad.block)/\(L.ownBlock=some g2∨w.heap.size<=g2)/\w'.ownsRow lbase 137 3 (.slice (some ⟨g2,0,none⟩) (ls.length+1) c2) (ls++[(⟨given+1,Bd text refs wd,now+num⟩:Ld)]).length (Ab lC (ls++[(⟨given+1,Bd text refs wd,now+num⟩:Ld)]))/\g≠g2/\∀z∈zs1,∀ad n rc,z.2=.slice (some ad) n rc->z.1.refs≠[]->ad.block≠g2))
theorem BE.turn {w w':World} {b off:Nat} {zs:List (Kd×Value)} {V:List Nat} (h:BE w b off zs) (ht:Tn V w w') (hl:b<w.heap.size) (hb:b∉V) (hz:∀z∈zs,∀ad n rc,z.2=.slice (some ad) n rc->z.1.refs≠[]->ad.block∉V):BE w' b off zs:=by
 intro i z zC;obtain⟨⟨h0,h1,h2,h3⟩,ad,rc,h4,h5⟩:=h i z zC;have hc:∀o,w'.cell? (XL b o)=w.cell? (XL b o):=fun o=>World.cell?_of_block (a:=⟨b,o,none⟩) (ht.block b hl hb);refine⟨⟨(hc _).trans h0,(hc _).trans h1,(hc _).trans h2,(hc _).trans h3⟩,ad,rc,h4,?_⟩;by_cases hre:z.1.refs=[]
 ·exact .inl hre
 rcases h5 with h5|⟨b',zA,e,zB,zE⟩
 ·exact .inl h5
 ·cases e
  have zF:b'∉V:=hz z (XG zC) _ _ _ h4 hre;exact .inr ⟨b',zA,rfl,XH zB ht.size,fun j s hs=>(World.cell?_of_block (a:=⟨b',zA+j,none⟩) (ht.block b' zB zF)).trans (zE j s hs)⟩
theorem BE.refs_lt {w:World} {b off:Nat} {zs:List (Kd×Value)} (h:BE w b off zs) {z:Kd×Value} (hz:z∈zs) {ad:Addr} {n rc:Nat} (he:z.2=.slice (some ad) n rc) (hr:z.1.refs≠[]):ad.block<w.heap.size:=by
 obtain⟨i,hi⟩:=List.getElem?_of_mem hz;obtain⟨_,zE,zC,h4,h5⟩:=h i z hi;rw[he] at h4;cases h4;rcases h5 with h5|⟨b',zB,e,zA,_⟩
 ·exact absurd h5 hr
 ·cases e
  exact zA
theorem set4 {w:World} {b:Nat} {z0 z1 z2 z3:Value} (h:Aa w b [z0,z1,z2,z3]) (a0 a1 a2 a3:Value):Aa ((((w.setCell (XL b 0) a0).setCell (XL b 1) a1).setCell (XL b 2) a2).setCell (XL b 3) a3) b [a0,a1,a2,a3]:=
 (((h.set 0 a0).set 1 a1).set 2 a2).set 3 a3
theorem Td {w:World} {base:Nat} {e:TypeId} {size:Nat} {v:Value} {n:Nat} {xs:List Value} (h:w.ownsRow base e size v n xs) {b:Nat} (zA:∀g,v.ownBlock=some g->g≠b) (a0 a1 a2 a3:Value):((((w.setCell (XL b 0) a0).setCell (XL b 1) a1).setCell (XL b 2) a2).setCell (XL b 3) a3).ownsRow base e size v n xs:=
 Bh (Bh (Bh (Bh h zA 0 _) zA 1 _) zA 2 _) zA 3 _
theorem PE {B:Nat} {a w:World} (h:Below B a w) {b:Nat} (hb:B<=b) (a0 a1 a2 a3:Value):Below B a ((((w.setCell (XL b 0) a0).setCell (XL b 1) a1).setCell (XL b 2) a2).setCell (XL b 3) a3):=
 (((h.setCell hb a0).setCell hb a1).setCell hb a2).setCell hb a3
structure Ud (w:World) (lbase:Nat) (wd now given births num:Int) (ta:Option Addr) (b:Nat) (zs:List (Kd×Value)) (la:Option Addr) (lc:Nat) (ls:List Ld) (text:ByteArray) (refs:List ByteArray) (ra:Option Addr) (rc:Nat):Prop where
 tb:ta=some ⟨b,0,none⟩∨zs=[]
 rn:ra=none->refs.length=0/\rc=0
 z:BE w b 0 zs
 bl:b<w.heap.size
 lo:w.ownsRow lbase 137 3 (.slice la ls.length lc) ls.length (Ab lC ls)
 lb:lbase<=w.heap.size
 bL:some b≠(Value.slice la ls.length lc).ownBlock
 zL:∀z∈zs,∀ad n rc,z.2=.slice (some ad) n rc->z.1.refs≠[]->some ad.block≠(Value.slice la ls.length lc).ownBlock
 r:Ae w w.heap.size ra refs
 ok:EO wd (zs.map (·.1))
 w1:1<=wd
 txt:∀z∈zs,z.1.text.size<=maxLen
 tl:text.size<=maxLen
 rl:refs.length<=1000
 b0:0<=births
 b1:births<=1000000000
 g0:0<=given
 g1:given<=1000000000
 n0:0<=now
 n1:now<=1000000000
 t0:0<=num
 t1:num<=1000000000
 nl:ls.length<=200
theorem US (text:ByteArray) (refs:List ByteArray) (wd:Int) (h:1<=wd):((Bd text refs wd).size:Int)=wd:=JF ⟨⟨#[]⟩,0,text,refs⟩ wd h
theorem Rg (zC:Nat) (wd now given births kd num:Int) (ta:Option Addr) (b tc:Nat) (zs:List (Kd×Value)) (pa la:Option Addr) (pn pc lc:Nat) (ls:List Ld) (s nm text:ByteArray) (refs:List ByteArray) (ra:Option Addr) (rc:Nat) (w:World) (h:Ud w zC wd now given births num ta b zs la lc ls text refs ra rc):
 Calls prog 85 #[.agg #[XJ wd,XJ now,XJ given,XJ births,.slice ta zs.length tc,.slice pa pn pc,.slice la ls.length lc],.agg #[XJ kd,.string s,.string nm,XJ num,.string text,.slice ra refs.length rc]] w (MS zC b wd now given births num zs (.slice pa pn pc) (.slice la ls.length lc) ls text refs w):=by
 obtain⟨W,hW⟩:∃W,W=((w.alloc (.cells #[XJ wd,XJ now,XJ given,XJ births,.slice ta zs.length tc,.slice pa pn pc,.slice la ls.length lc] 28)).alloc (.cells #[XJ kd,.string s,.string nm,XJ num,.string text,.slice ra refs.length rc] 77)).alloc (.cells #[XK,XK,XK,XK,XK,XN,XN,XN,XM,XK,XM,XM] 30):=⟨_,rfl⟩;have bW:=(Bp hW).1;have qV:=(Bp hW).2.1;have x0:=(Bp hW).2.2.1
 have xe:Aa W (w.heap.size+1) [XJ kd,.string s,.string nm,XJ num,.string text,.slice ra refs.length rc]:=by
  have h1:=Aa.new (w.alloc (.cells #[XJ wd,XJ now,XJ given,XJ births,.slice ta zs.length tc,.slice pa pn pc,.slice la ls.length lc] 28)) [XJ kd,.string s,.string nm,XJ num,.string text,.slice ra refs.length rc] 77;rw[World.size_alloc] at h1;rw[hW];exact Aa.below h1 (XA)
 have x1:Aa W (w.heap.size+2) As:=by
  have h1:=Aa.new ((w.alloc (.cells #[XJ wd,XJ now,XJ given,XJ births,.slice ta zs.length tc,.slice pa pn pc,.slice la ls.length lc] 28)).alloc (.cells #[XJ kd,.string s,.string nm,XJ num,.string text,.slice ra refs.length rc] 77)) As 30;rw[World.size_alloc,World.size_alloc] at h1;rw[hW];exact h1
 have HX:Hid (∀X,Xz W X->Aa X w.heap.size [XJ wd,XJ now,XJ given,XJ births,.slice ta zs.length tc,.slice pa pn pc,.slice la ls.length lc]/\Aa X (w.heap.size+1) [XJ kd,.string s,.string nm,XJ num,.string text,.slice ra refs.length rc]/\Aa X (w.heap.size+2) As/\Xz w X/\BE X b 0 zs/\Ae X X.heap.size ra refs):=fun X hX=>by
  have hb:Below w.heap.size w X:=bW.trans (hX.mono bW.size);exact⟨Aa.below x0 hX,Aa.below xe hX,Aa.below (v:=XK) x1 hX,hb,h.z.below hb h.bl,Ae.mono (Ae.below h.r hb) hb.size⟩
 have HP:Hid (Ud w zC wd now given births num ta b zs la lc ls text refs ra rc):=h;have pO:=US text refs wd h.w1;have vL:Hid (W.heap.size=w.heap.size+3):=qV;have xI:=h.bl;have pR:=h.rl;have qD:=h.ok.len;rw[List.length_map] at qD
 have hF:Hid (∀X (r:ByteArray),Xz W X->Calls prog 72 #[.agg #[XJ wd,XJ now,XJ given,XJ births,.slice ta zs.length tc,.slice pa pn pc,.slice la ls.length lc],.string r] X fun e w'=>e=.returned (XJ (Cy (zs.map (·.1)) r))/\Xz X w'):=fun X r hX=>by
  have pA:Bx X X.heap.size ta (zs.map (·.1)):=by
   rcases HP.o.tb with e|e
   ·rw[e]
    exact(HX.o X hX).2.2.2.2.1.krow (by have h1:=hX.size;have h2:=vL.o;omega)
   ·rw[e]
    exact .inl rfl
  have h1:=Fb wd now given births ta tc (.slice pa pn pc) (.slice la ls.length lc) (zs.map (·.1)) r X X.heap.size pA (XB) (by rw[List.length_map];omega);rw[List.length_map] at h1;exact h1
 have HW:Hid _:=hW;have sW:Hid _:=KO text ra rc refs wd W (Ae.mono (Ae.below h.r bW) bW.size) (by omega) h.tl;obtain⟨v0,_⟩:=x0 0 _ rfl;obtain⟨e4,e5⟩:=Aa.c2 xe 4 5;clear hW bW x0 xe x1 h;go_enter func85,ntmps85;go_upto_region 1 with fail;rw[←HW.o];clear HW;go_wp2_with fail;refine Calls.mono sW.o ?_;rintro e w1 ⟨rfl,sQ⟩;have sY:Hid (Xz W w1):=sQ
 have sI:Hid _:=SB (AF text refs wd) wd w1 (Ii _ _ _) HP.o.w1 HP.o.ok.w8;have rI:Ec (AF text refs wd).data.toList wd.toNat=Bd text refs wd:=rfl;rw[rI] at sI;clear rI sW v0 e4 e5;obtain⟨v0,_⟩:=(HX.o w1 sQ).1 0 _ rfl;generalize hFF:AF text refs wd=FF at *
 generalize hSS:Bd text refs wd=SS at *
 go_wp2_with fail;refine Calls.mono sI.o ?_;rintro e w2 ⟨rfl,vW⟩;have qW:Hid (Xz W w2):=sY.o.trans (vW.mono sY.o.size);clear sI v0 sQ vW;go_wp2
 go_loopw [7] (fun i wr=>∃(k:Nat),k<=refs.length/\i=XJ k/\Hid ((∀r∈refs.take k,Au (zs.map (·.1)) r)/\Xz W wr)) (fun i _=>refs.length -(intOf i).toNat)
 case atStart=>exact⟨0,Nat.zero_le _,rfl,⟨fun r hr=>by simp at hr,qW.o⟩⟩
 case round=>
  obtain⟨k,hk,rfl,HI⟩:=hrel;obtain⟨x0,xe,x1,zO,hZ,hR⟩:=HX.o wr HI.o.2;have sG:Hid (Xz w wr):=zO;obtain⟨e5,_⟩:=xe 5 _ rfl;by_cases hlt:k<refs.length
  ·obtain⟨rb,qH,ha,qF,sV⟩:=hR.at hlt
   subst ha;have HG:Hid (refs[k]?=some refs[k]):=XD hlt;have c0:=sV k _ HG.o;have qT:Hid (refs.take (k+1)=refs.take k++[refs[k]]):=XE hlt;clear sV;generalize refs[k]=r at *
   have D0:Below wr.heap.size wr wr.drew:=(Below.refl _ _).drew;have rY:Below W.heap.size W wr.drew:=HI.o.2.trans (D0.mono HI.o.2.size);have xZ:Hid _:=hF.o wr.drew r rY;have pP:rb<wr.heap.size:=qF;obtain⟨v0,v1,v2,v3,v4,v5,v6⟩:=Aa.c7 x0 0 1 2 3 4 5 6;have rQ:Hid (Aa wr (w.heap.size+2) As):=x1;clear x0 xe x1 hZ hR zO;go_wp2
   go_region_with (go_at_call 72;refine Calls.mono xZ.o ?_;rintro e w3 ⟨rfl,vG⟩)
   all_goals
    have yP:Hid (Xz wr w3):=D0.trans vG;clear vG c0 e5 v0 v1 v2 v3 v4 v5 v6 xZ;by_cases hth:Au (zs.map (·.1)) r
    ·obtain⟨fi,fk,xT,_,_⟩:=KG hth
     rw[xT];have xG:Hid (Au (zs.map (·.1)) r):=hth;clear hth xT;go_wp2;refine⟨⟨k+1,by omega,by go_num,⟨?_,HI.o.2.trans (yP.o.mono HI.o.2.size)⟩⟩,by simp[intOf];omega⟩;rw[qT.o];intro r' xM;rcases List.mem_append.1 xM with xM|xM
     ·exact HI.o.1 r' xM
     ·simp at xM
      rw[xM];exact xG.o
    ·have qG:=GW hth
     have xG:Hid (¬Au (zs.map (·.1)) r):=hth;generalize Cy (zs.map (·.1)) r=fi at *
     obtain⟨⟨y0,q0⟩,⟨y1,q1⟩,⟨y2,q2⟩,⟨y3,q3⟩,⟨y4,q4⟩,⟨y5,q5⟩,⟨y6,q6⟩,⟨y7,q7⟩,⟨y8,q8⟩,⟨y9,q9⟩,⟨zT,yX⟩,zS,yW⟩:=AS (Aa.below (v:=XK) rQ.o yP.o);clear hth;go_wp2;refine bodyPost_ret (v:=.agg (BT 2 ⟨#[]⟩ ⟨#[]⟩).toArray) (by simp[results,results85,go_sem,y0,y1,y2,y3,y4,y5,y6,y7,y8,y9,zT,zS,BT]) rfl ?_;have qB:Below w.heap.size w w3:=sG.o.trans (yP.o.mono sG.o.size)
     exact⟨Tn.fresh (Tn.of qB) (Bc w3 (w.heap.size+2) _ _ _ _ _ _ _ _ _ _ _ _) (by omega),.inl ⟨2,_,_,.inl ⟨fun yH=>xG.o (yH r (XG HG.o)),rfl,rfl,rfl⟩,rfl⟩⟩
  ·obtain rfl:k=refs.length:=by omega
   have yH:=HI.o.1;rw[XF (XB)] at yH;have zP:Hid (∀r∈refs,Au (zs.map (·.1)) r):=yH;have sD:Hid (Xz W wr):=HI.o.2;have xZ:Hid _:=hF.o wr SS HI.o.2;obtain⟨v0,v1,v2,v3,v4,v5,v6⟩:=Aa.c7 x0 0 1 2 3 4 5 6;clear yH HI x0 xe x1 zO hZ hR;go_wp2_with fail;refine Calls.mono xZ.o ?_;rintro e w3 ⟨rfl,vG⟩;have yP:Hid (Xz W w3):=sD.o.trans (vG.mono sD.o.size);clear v0 v1 v2 v3 v4 v5 v6 xZ vG sD e5 sG
   obtain⟨x0,xe,x1,zO,hZ,hR⟩:=HX.o w3 yP.o;by_cases hth:Au (zs.map (·.1)) SS
   ·obtain⟨i,k,xT,sB,rD⟩:=KG hth
    rw[xT];rw[List.getElem?_map] at sB;obtain⟨z,yY,rfl⟩:=Option.map_eq_some_iff.1 sB;obtain rfl:ta=some ⟨b,0,none⟩:=HP.o.tb.resolve_right (fun e=>by rw[e] at yY;simp at yY);obtain⟨⟨_,_,c2,c3⟩,vS,xU,vQ,sU⟩:=hZ i z yY;rw[vQ] at c3;rw[Nat.zero_add] at c2 c3;have pE:(i:Int)<zs.length:=by have:=(XC yY).1;omega
    have D3:Below w3.heap.size w3 w3.drew:=(Below.refl _ _).drew;have rB:Hid _:=KO z.1.text (some vS) xU z.1.refs wd w3.drew (Ae.mono (Ae.below sU D3) D3.size) (by have:=(HP.o.ok.refs z.1 (List.mem_map.2 ⟨z,XG yY,rfl⟩)).1;omega) (HP.o.txt z (XG yY));have tK:Hid (z∈zs/\z.1.sum=SS):=⟨XG yY,rD⟩;obtain⟨v0,v4⟩:=Aa.c2 x0 0 4;have sK:b<w3.heap.size:=XH xI zO.size
    clear x0 xe x1 zO hZ hR hth xT sB yY vQ sU rD;go_upto_region 10 with fail;go_region_with (go_at_call 131;refine Calls.mono rB.o ?_;rintro e w4 ⟨rfl,rG⟩)
    all_goals
     have rJ:Hid (Xz W w4):=yP.o.trans ((D3.trans rG).mono yP.o.size);clear rG c2 c3 v0 v4 rB;obtain⟨x0,xe,x1,zO,hZ,hR⟩:=HX.o w4 rJ.o;by_cases hsame:AF z.1.text z.1.refs wd=FF
     ·have hq:(FF.toList !=FF.toList)=false:=by simp
      rw[hsame];have vI:Hid (Cg wd births (zs.map (·.1)) text refs (zs.map (·.1)) births):=.inl ⟨z.1,List.mem_map.2 ⟨z,tK.o.1,rfl⟩,by rw[hSS];exact tK.o.2,by rw[hsame,hFF],rfl,rfl⟩;have xO:Hid (Aa w4 w.heap.size [XJ wd,XJ now,XJ given,XJ births,.slice (some ⟨b,0,none⟩) zs.length tc,.slice pa pn pc,.slice la ls.length lc]):=x0
      have vE:Hid (Aa w4 (w.heap.size+1) [XJ kd,.string s,.string nm,XJ num,.string text,.slice ra refs.length rc]):=xe;have xC:Hid (Aa w4 (w.heap.size+2) As):=x1;have tE:Hid (w4.ownsRow zC 137 3 (.slice la ls.length lc) ls.length (Ab lC ls)):=Ad HP.o.lo zO;have yZ:w.heap.size+3<=w4.heap.size:=by have h1:=rJ.o.size;have h2:=vL.o;omega
      have vV:Hid (Tn (Value.slice la ls.length lc).ownBlock.toList w w4):=Tn.of zO;have qL:Hid (BE w4 b 0 zs):=hZ;have xE:b<w4.heap.size:=XH xI zO.size;clear x0 xe x1 zO hZ hR hsame
      have xB:Hid _:=Fv wd now given (births) (some ⟨b,0,none⟩) pa la (zs).length tc pn pc lc zC ls SS num w4 tE.o (XI HP.o.lb (XI (Nat.le_add_right _ 3) yZ)) (by have:=HP.o.nl;omega) HP.o.g0 HP.o.g1 HP.o.n0 HP.o.n1 HP.o.t0 HP.o.t1;obtain⟨l0,l1,l2,l3,l4,l5,l6⟩:=Aa.c7 xO.o 0 1 2 3 4 5 6;obtain⟨m3,_⟩:=vE.o 3 _ rfl;go_wp2_with fail;refine Calls.mono xB.o ?_;rintro e w5 ⟨zM,yO⟩
      have yD:∀g,(Value.slice la ls.length lc).ownBlock=some g->g<w.heap.size:=fun g hg=>(Ac HP.o.lo hg).2;have yB:Aa w5 (w.heap.size+2) As:=Aa.same xC.o (zM.block _ xC.o.lt (fun e=>by have:=yD _ (by simpa using e);omega));have rO:w.heap.size+3<=w5.heap.size:=XI yZ zM.size;have xD:Hid (Tn (Value.slice la ls.length lc).ownBlock.toList w w5):=vV.o.trans zM;clear l0 l1 l2 l3 l4 l5 l6 m3 xB
      obtain⟨zG,rfl⟩|⟨⟨vO,vM⟩,g2,c2,rfl,yJ,zI⟩:=yO
      ·obtain⟨Y,hY⟩:∃Y,Y=w5.alloc (.cells #[XJ 4,XK,XK,XK,XK,XN,XN,XN,XM,XK,XM,XM] 30):=⟨_,rfl⟩
       have bY:Below w5.heap.size w5 Y:=by rw[hY];exact XA
       have yN:Aa Y w5.heap.size [XJ 4,XK,XK,XK,XK,XN,XN,XN,XM,XK,XM,XM]:=by rw[hY];exact Aa.new w5 _ _
       have yR:=Aa.below (v:=XK) yB bY;have HY:Hid _:=hY;have zH:Hid (Tn (Value.slice la ls.length lc).ownBlock.toList w Y):=xD.o.trans (Tn.of bY);have yV:Hid (ls.length=200∨given=1000000000):=by have h1:=HP.o.nl;have h2:=HP.o.g1;show _∨_;omega
       obtain⟨⟨y0,q0⟩,⟨y1,q1⟩,⟨y2,q2⟩,⟨y3,q3⟩,⟨y4,q4⟩,⟨y5,q5⟩,⟨y6,q6⟩,⟨y7,q7⟩,⟨y8,q8⟩,⟨y9,q9⟩,⟨zT,yX⟩,zS,yW⟩:=AS yR;obtain⟨u0,vU⟩:=yN 0 _ rfl;obtain⟨u1,vK⟩:=yN 1 _ rfl;obtain⟨u2,vX⟩:=yN 2 _ rfl;obtain⟨u3,tC⟩:=yN 3 _ rfl;obtain⟨u4,tI⟩:=yN 4 _ rfl;obtain⟨u5,vA⟩:=yN 5 _ rfl;obtain⟨u6,tG⟩:=yN 6 _ rfl;obtain⟨u7,vT⟩:=yN 7 _ rfl;obtain⟨u8,xW⟩:=yN 8 _ rfl;obtain⟨u9,vJ⟩:=yN 9 _ rfl
       obtain⟨xQ,yK⟩:=yN 10 _ rfl;obtain⟨vP,yI⟩:=yN 11 _ rfl;clear bY yN yR hY yB zM zG;go_upto_region 30 with fail;rw[←HY.o];clear HY;go_wp2;refine bodyPost_ret (v:=.agg (BT 4 ⟨#[]⟩ ⟨#[]⟩).toArray) (by simp[results,results85,go_sem,y0,y1,y2,y3,y4,y5,y6,y7,y8,y9,zT,zS,BT]) rfl ?_
       exact⟨Tn.fresh zH.o (Bc Y (w.heap.size+2) _ _ _ _ _ _ _ _ _ _ _ _) (by omega),.inl ⟨4,_,_,.inr ⟨zP.o,.inr (.inr ⟨⟨_,_,vI.o⟩,yV.o,rfl,rfl,rfl⟩)⟩,rfl⟩⟩
      ·obtain⟨Y,hY⟩:∃Y,Y=w5.alloc (.cells #[XK,XJ wd,XJ now,XJ (given+1),XJ (births),.slice (some ⟨b,0,none⟩) zs.length tc,.slice pa pn pc,.slice (some ⟨g2,0,none⟩) (ls.length+1) c2,XM,XJ (given+1),XM,XM] 30):=⟨_,rfl⟩
       have bY:Below w5.heap.size w5 Y:=by rw[hY];exact XA
       have yN:Aa Y w5.heap.size [XK,XJ wd,XJ now,XJ (given+1),XJ (births),.slice (some ⟨b,0,none⟩) zs.length tc,.slice pa pn pc,.slice (some ⟨g2,0,none⟩) (ls.length+1) c2,XM,XJ (given+1),XM,XM]:=by rw[hY];exact Aa.new w5 _ _
       have yR:=Aa.below (v:=XK) yB bY;have HY:Hid _:=hY;have zH:Hid (Tn (Value.slice la ls.length lc).ownBlock.toList w Y):=xD.o.trans (Tn.of bY);have yU:Hid _:=Ad yJ bY;have vW:w5.heap.size<Y.heap.size:=yN.lt;have yE:Tn (Value.slice la ls.length lc).ownBlock.toList w4 Y:=zM.trans (Tn.of bY)
       have key:∀R,Tn [w5.heap.size,w.heap.size+2] Y R->MS zC b wd now given births num zs (.slice pa pn pc) (.slice la ls.length lc) ls text refs w (.returned (.agg #[XK,XJ wd,XJ now,XJ (given+1),XJ (births),.slice (some ⟨b,0,none⟩) zs.length tc,.slice pa pn pc,.slice (some ⟨g2,0,none⟩) (ls.length+1) c2,.string SS,XJ (given+1),XM,XM])) R:=fun R hR=>by
        have tB:BE R b 0 (zs):=((qL.o.turn yE xE (fun e=>HP.o.bL (Eq.symm (by simpa using e))) (fun z hz a n c e2 e3 hin=>HP.o.zL z hz a n c e2 e3 (Eq.symm (by simpa using hin)))).turn hR (XH xE yE.size) (by simp;omega) (fun z hz a n c e2 e3 hin=>by simp at hin;have:=HP.o.z.refs_lt hz e2 e3;omega));have yM:g2≠w5.heap.size/\g2≠w.heap.size+2:=by
         have h1:=(Ac yJ (g:=g2) rfl).2;rcases zI with zI|zI
         ·have h4:=yD _ zI
          omega
         ·omega
        have vR:=Ah yU.o (w':=R) (fun q hq=>hR.block q (Ac yU.o hq).2 (by
         have h3:g2=q:=by simpa [Value.ownBlock] using hq
         rw[←h3];simp;exact yM))
        refine⟨?_,.inr ⟨_,_,b,tc,zs,g2,c2,zP.o,vI.o,vO,vM,by rw[hSS],rfl,tB,?_,.inl ⟨rfl,rfl⟩,fun z hz=> .inl hz,(by rcases zI with h|h;exact .inl h;exact .inr (by omega)),by rw[hSS];exact vR,(by rcases zI with h|h;exact fun e=>HP.o.bL (by rw[h,e]);exact fun e=>by omega),fun z hz a n c e2 e3 e=>by
         rcases zI with h|h
         ·exact HP.o.zL z hz a n c e2 e3 (by rw[h,e])
         ·have:=HP.o.z.refs_lt hz e2 e3
          omega⟩⟩
        ·exact⟨hR.os.trans zH.o.os,hR.tape.trans zH.o.tape,hR.output.trans zH.o.output,XI zH.o.size hR.size,fun q hq hv=>(hR.block q (XH hq zH.o.size) (by simp;omega)).trans (zH.o.block q hq hv)⟩
        ·exact XH xE (XI yE.size hR.size)
       have yL:Hid _:=key;obtain⟨⟨y0,q0⟩,⟨y1,q1⟩,⟨y2,q2⟩,⟨y3,q3⟩,⟨y4,q4⟩,⟨y5,q5⟩,⟨y6,q6⟩,⟨y7,q7⟩,⟨y8,q8⟩,⟨y9,q9⟩,⟨zT,yX⟩,zS,yW⟩:=AS yR;obtain⟨u0,vU⟩:=yN 0 _ rfl;obtain⟨u1,vK⟩:=yN 1 _ rfl;obtain⟨u2,vX⟩:=yN 2 _ rfl;obtain⟨u3,tC⟩:=yN 3 _ rfl;obtain⟨u4,tI⟩:=yN 4 _ rfl;obtain⟨u5,vA⟩:=yN 5 _ rfl;obtain⟨u6,tG⟩:=yN 6 _ rfl;obtain⟨u7,vT⟩:=yN 7 _ rfl;obtain⟨u8,xW⟩:=yN 8 _ rfl;obtain⟨u9,vJ⟩:=yN 9 _ rfl
       obtain⟨xQ,yK⟩:=yN 10 _ rfl;obtain⟨vP,yI⟩:=yN 11 _ rfl;clear bY yN yR hY yB zM key yJ yE;go_upto_region 30 with fail;rw[←HY.o];clear HY;go_wp2
       refine bodyPost_ret (v:=.agg #[XK,XJ wd,XJ now,XJ (given+1),XJ (births),.slice (some ⟨b,0,none⟩) zs.length tc,.slice pa pn pc,.slice (some ⟨g2,0,none⟩) (ls.length+1) c2,.string SS,XJ (given+1),XM,XM]) (by simp[results,results85,go_sem,y0,y1,y2,y3,y4,y5,y6,y7,y8,y9,zT,zS]) rfl ?_;refine yL.o _ ?_
       repeat refine Tn.trans ?_ (Tn.set _ _ _ _ (by simp))
       exact Tn.of (Below.refl _ _)
     ·have tR:((AF z.1.text z.1.refs wd).toList==FF.toList)=false:=BJ hsame
      have hq:((AF z.1.text z.1.refs wd).toList !=FF.toList)=true:=by simp[bne,tR]
      have qI:Hid (Hd wd given births (zs.map (·.1)) ls text refs 3 (AF z.1.text z.1.refs wd) FF):=.inr ⟨zP.o,.inl ⟨z.1,List.mem_map.2 ⟨z,tK.o.1,rfl⟩,by rw[hSS];exact tK.o.2,by rw[hFF];exact hsame,rfl,rfl,hFF.symm⟩⟩;obtain⟨⟨y0,q0⟩,⟨y1,q1⟩,⟨y2,q2⟩,⟨y3,q3⟩,⟨y4,q4⟩,⟨y5,q5⟩,⟨y6,q6⟩,⟨y7,q7⟩,⟨y8,q8⟩,⟨y9,q9⟩,⟨zT,yX⟩,zS,yW⟩:=AS x1;have rZ:Hid (Xz w w4):=zO;clear hsame x0 xe x1 zO hZ hR
      generalize AF z.1.text z.1.refs wd=GG at *
      go_wp2;refine bodyPost_ret (v:=.agg (BT 3 GG FF).toArray) (by simp[results,results85,go_sem,y0,y1,y2,y3,y4,y5,y6,y7,y8,y9,zT,zS,BT]) rfl ?_;exact⟨Tn.fresh (Tn.of rZ.o) (Bc w4 (w.heap.size+2) _ _ _ _ _ _ _ _ _ _ _ _) (by omega),.inl ⟨3,_,_,qI.o,rfl⟩⟩
   ·have qG:=GW hth
    have tP:Hid (¬Au (zs.map (·.1)) SS):=hth;generalize Cy (zs.map (·.1)) SS=fi at *
    have pF:¬(0:Int)<=fi:=by omega
    have sK:b<w3.heap.size:=XH xI zO.size;obtain⟨v3,qU⟩:=x0 3 _ rfl;obtain⟨v4,rV⟩:=x0 4 _ rfl;have xX:Hid (Xz w w3):=zO;have pH:Hid (BE w3 b 0 zs):=hZ;have pT:Hid (Ae w3 w3.heap.size ra refs):=hR
    have pK:Hid (Aa w3 w.heap.size [XJ wd,XJ now,XJ given,XJ births,.slice ta zs.length tc,.slice pa pn pc,.slice la ls.length lc]/\Aa w3 (w.heap.size+1) [XJ kd,.string s,.string nm,XJ num,.string text,.slice ra refs.length rc]/\Aa w3 (w.heap.size+2) As):=⟨x0,xe,x1⟩;by_cases zG:zs.length=600∨births=1000000000
    ·have yV:Hid (zs.length=600∨births=1000000000):=zG
     obtain⟨⟨y0,q0⟩,⟨y1,q1⟩,⟨y2,q2⟩,⟨y3,q3⟩,⟨y4,q4⟩,⟨y5,q5⟩,⟨y6,q6⟩,⟨y7,q7⟩,⟨y8,q8⟩,⟨y9,q9⟩,⟨zT,yX⟩,zS,yW⟩:=AS x1;by_cases hf6:zs.length=600
     ·have hq:(600:Int)<=(zs.length:Int):=by omega
      clear zG hf6 x0 xe x1 zO hZ hR hth;go_wp2;refine bodyPost_ret (v:=.agg (BT 4 ⟨#[]⟩ ⟨#[]⟩).toArray) (by simp[results,results85,go_sem,y0,y1,y2,y3,y4,y5,y6,y7,y8,y9,zT,zS,BT]) rfl ?_;exact⟨Tn.fresh (Tn.of xX.o) (Bc w3 (w.heap.size+2) _ _ _ _ _ _ _ _ _ _ _ _) (by omega),.inl ⟨4,_,_,.inr ⟨zP.o,.inr (.inl ⟨hSS▸tP.o,by rw[List.length_map];exact yV.o,rfl,rfl,rfl⟩)⟩,rfl⟩⟩
     ·have hq:¬(600:Int)<=(zs.length:Int):=by omega
      have tR:(1000000000:Int)<=births:=by omega
      clear zG hf6 x0 xe x1 zO hZ hR hth;go_wp2;refine bodyPost_ret (v:=.agg (BT 4 ⟨#[]⟩ ⟨#[]⟩).toArray) (by simp[results,results85,go_sem,y0,y1,y2,y3,y4,y5,y6,y7,y8,y9,zT,zS,BT]) rfl ?_;exact⟨Tn.fresh (Tn.of xX.o) (Bc w3 (w.heap.size+2) _ _ _ _ _ _ _ _ _ _ _ _) (by omega),.inl ⟨4,_,_,.inr ⟨zP.o,.inr (.inl ⟨hSS▸tP.o,by rw[List.length_map];exact yV.o,rfl,rfl,rfl⟩)⟩,rfl⟩⟩
    ·have hq:¬(600:Int)<=(zs.length:Int):=by omega
     have tR:¬(1000000000:Int)<=births:=by have:=HP.o.b1;omega
     have qK:=HP.o.b0;have pJ:zs.length<600:=by omega
     have vI:Hid (Cg wd births (zs.map (·.1)) text refs (Dh (zs.map (·.1)) ⟨SS,births+1,text,refs⟩) (births+1)):=by
      show Cg _ _ _ _ _ _ _;rw[←hSS];exact .inr ⟨hSS▸tP.o,by rw[List.length_map];omega,by omega,rfl,rfl⟩
     obtain⟨X1,xP⟩:∃X,X=w3.setCell (XL (w.heap.size) 3) (XJ (births+1)):=⟨_,rfl⟩;obtain⟨A,hA⟩:∃A,A=X1.alloc (.cells #[] 114):=⟨_,rfl⟩;have rH:Tn [w.heap.size] w3 X1:=by rw[xP];exact DR _ _ _ _
     have bA:=(Aq hA).1;have tA:Tn [w.heap.size] w3 A:=rH.trans (Tn.of bA);have pN:w.heap.size+3<=w3.heap.size:=by have h1:=yP.o.size;have h2:=vL.o;omega
     have xF:X1.heap.size=w3.heap.size:=by rw[xP];simp
     have sO:A.heap.size=w3.heap.size+1:=by rw[hA];simp[xF]
     have tS:Below w.heap.size w A:=zO.trans (tA.below zO.size (by intro v hv;simp at hv;omega));have sA:Aa A w.heap.size [XJ wd,XJ now,XJ given,XJ (births+1),.slice ta zs.length tc,.slice pa pn pc,.slice la ls.length lc]:=by
      have h1:Aa X1 w.heap.size [XJ wd,XJ now,XJ given,XJ (births+1),.slice ta zs.length tc,.slice pa pn pc,.slice la ls.length lc]:=by rw[xP];exact x0.set 3 _
      exact h1.below bA
     have eA:Aa A (w.heap.size+1) [XJ kd,.string s,.string nm,XJ num,.string text,.slice ra refs.length rc]:=Aa.same xe (tA.block _ xe.lt (by simp));have rA:Aa A (w.heap.size+2) As:=Aa.same x1 (tA.block _ x1.lt (by simp));have zA:BE A b 0 zs:=HP.o.z.below tS HP.o.bl;have oA:A.ownsRow w3.heap.size 114 4 (.slice (some ⟨w3.heap.size,0,none⟩) 0 0) 0 []:=by
      have h1:=World.ownsRow_lit (base:=w3.heap.size) (e:=114) (size:=4) X1 #[] 0 (by omega) (by unfold maxLen;omega) rfl;rw[xF] at h1;rw[hA];exact h1
     have HA:Hid (A=(w3.setCell (XL (w.heap.size) 3) (XJ (births+1))).alloc (.cells #[] 114)):=by rw[←xP];exact hA
     have sH:Hid (∀X,Xz A X->Aa X w.heap.size [XJ wd,XJ now,XJ given,XJ (births+1),.slice ta zs.length tc,.slice pa pn pc,.slice la ls.length lc]/\Aa X (w.heap.size+1) [XJ kd,.string s,.string nm,XJ num,.string text,.slice ra refs.length rc]/\Aa X (w.heap.size+2) As/\Xz w X/\BE X b 0 zs/\Ae X X.heap.size ra refs):=fun X hX=>by
      have hb:Below w.heap.size w X:=tS.trans (hX.mono tS.size);exact⟨Aa.below sA hX,Aa.below eA hX,Aa.below (v:=XK) rA hX,hb,HP.o.z.below hb HP.o.bl,Ae.mono (Ae.below HP.o.r hb) hb.size⟩
     have HS:Hid (∀X,Xz A X->X.cell? (XL (w.heap.size) 3)=some (XJ (births+1))/\X.cell? (XL (w.heap.size+1) 4)=some (.string text)/\X.cell? (XL (w.heap.size+1) 5)=some (.slice ra refs.length rc)):=fun X hX=>by
      obtain⟨h1,h2,_⟩:=sH.o X hX;exact⟨(h1 3 _ rfl).1,(h2 4 _ rfl).1,(h2 5 _ rfl).1⟩
     have xG:Hid (∀X,Xz A X->Calls prog 73 #[.agg #[.string text,.slice ra refs.length rc]] X fun e w'=>∃g c,e=.returned (.agg #[.string text,.slice (some ⟨g,0,none⟩) refs.length c])/\w'.ownsRow X.heap.size 9 1 (.slice (some ⟨g,0,none⟩) refs.length c) refs.length (refs.map Value.string)/\Xz X w'):=fun X hX=>NM text ra rc refs X (sH.o X hX).2.2.2.2.2 HP.o.rn (by omega)
     have D0:Below A.heap.size A A.drew:=(Below.refl _ _).drew;have D1:∀o,Xz A (A.alloc o).drew:=fun o=>(XA).drew;have rL:Hid (A.ownsRow w3.heap.size 114 4 (.slice (some ⟨w3.heap.size,0,none⟩) 0 0) 0 []):=oA;have pB:Hid (A.heap.size=w3.heap.size+1):=sO;clear zG x0 xe x1 zO hZ hR hth xP hA rH bA tA tS sA eA rA zA oA sO xF;go_upto_region 18 with fail;rw[←HA.o];clear HA v3 v4 qU rV
     go_cut [12] (fun v wx=>∃(o gr cr:Nat),v=.pointer (some ⟨o,0,none⟩)/\Hid (Aa wx o [.string SS,XJ (births+1),.string text,.slice (some ⟨gr,0,none⟩) refs.length cr]/\wx.ownsRow A.heap.size 9 1 (.slice (some ⟨gr,0,none⟩) refs.length cr) refs.length (refs.map Value.string)/\A.heap.size<=o/\o≠gr/\Xz A wx))
     case first=>
      obtain⟨s3,s4,s5⟩:=HS.o A (Below.refl _ _);obtain⟨r3,r4,r5⟩:=HS.o (A.alloc (.cells #[XM,XK,XM,XN] 114)) (XA)
      go_region_law (first
       |(go_simp;go_at_call 73;guard_target=~Calls prog 73 _ (World.drew (World.alloc A _)) _;refine(xG.o (A.alloc (.cells #[XM,XK,XM,XN] 114)).drew (D1 _)).mono ?_;rintro e w6 ⟨gr,cr,rfl,xN,tO⟩;have B1:Below A.heap.size A w6:=(D1 _).trans (tO.mono (by simp));have nA:Aa w6 A.heap.size [XM,XK,XM,XN]:=(Aa.below (w:=A.alloc (.cells #[XM,XK,XM,XN] 114)) (Aa.new A _ _) (Dd tO));obtain⟨y0,q0⟩:=nA 0 _ rfl;obtain⟨y1,q1⟩:=nA 1 _ rfl;obtain⟨y2,q2⟩:=nA 2 _ rfl;obtain⟨y3,q3⟩:=nA 3 _ rfl;obtain⟨t3,t4,t5⟩:=HS.o w6 B1)
       |(go_simp;go_at_call 73;refine(xG.o A.drew D0).mono ?_;rintro e w6 ⟨gr,cr,rfl,xN,tO⟩;have nC:=xN;have B1:Below A.heap.size A w6:=D0.trans tO;obtain⟨t3,t4,t5⟩:=HS.o w6 B1;obtain⟨z3,z4,z5⟩:=HS.o (w6.alloc (.cells #[XM,XK,XM,XN] 114)) (B1.alloc B1.size _)))
      all_goals (go_wp2_with fail;go_meet)
      all_goals first
       |(have tag:=nA
         have l1:=Ac xN (g:=gr) rfl;simp at l1;have tJ:∀g,(Value.slice (some ⟨gr,0,none⟩) refs.length cr).ownBlock=some g->g≠A.heap.size:=fun g hg=>by simp[Value.ownBlock] at hg;omega
         exact⟨A.heap.size,gr,cr,rfl,set4 nA _ _ _ _,Td (xN.mono (by simp)) tJ _ _ _ _,XB,by omega,PE B1 (XB) _ _ _ _⟩)
       |(have tag:=nC
         have l1:=Ac xN (g:=gr) rfl;exact⟨w6.heap.size,gr,cr,rfl,Aa.new w6 _ _,Ad (xN.mono (by simp)) (XA),B1.size,by omega,B1.alloc B1.size _⟩)
     case rest=>
      revert wc;intro wN hcut;obtain⟨o,gr,cr,rfl,HC⟩:=hcut;have sO:=pB.o;obtain⟨sT,hOr,pG,pD,tM⟩:=HC.o;have qO:o<wN.heap.size:=sT.lt;have qA:=Ac hOr (g:=gr) rfl;have pS:A.heap.size<=wN.heap.size:=tM.size;obtain⟨sN,eN,rN,tN,zN,_⟩:=sH.o wN tM;have rU:Hid (wN.ownsRow w3.heap.size 114 4 (.slice (some ⟨w3.heap.size,0,none⟩) 0 0) 0 []):=Ad rL.o tM
      have HN:Hid (∀X,Tn [w3.heap.size] wN X->Aa X w.heap.size [XJ wd,XJ now,XJ given,XJ (births+1),.slice ta zs.length tc,.slice pa pn pc,.slice la ls.length lc]/\Aa X (w.heap.size+1) [XJ kd,.string s,.string nm,XJ num,.string text,.slice ra refs.length rc]/\Aa X (w.heap.size+2) As/\Aa X o [.string SS,XJ (births+1),.string text,.slice (some ⟨gr,0,none⟩) refs.length cr]/\BE X b 0 zs/\X.ownsRow A.heap.size 9 1 (.slice (some ⟨gr,0,none⟩) refs.length cr) refs.length (refs.map Value.string)/\wN.heap.size<=X.heap.size/\Xz w X):=fun X hX=>by
       refine⟨Aa.same sN (hX.block _ sN.lt (by simp;omega)),Aa.same eN (hX.block _ eN.lt (by simp;omega)),Aa.same rN (hX.block _ rN.lt (by simp;omega)),Aa.same sT (hX.block _ qO (by simp;omega)),zN.turn hX (XH xI tN.size) (by simp;omega) (fun z hz a n c e2 e3 hin=>by simp at hin;have:=HP.o.z.refs_lt hz e2 e3;omega),Ah hOr (fun q hq=>hX.block q (Ac hOr hq).2 (by have:=(Ac hOr hq).1;simp;omega)),hX.size,?_⟩
       exact tN.trans (hX.below tN.size (by intro v hv;simp at hv;omega))
      have qQ:Hid (∀z∈zs,z.1.sum≠SS):=fun z hz e=>tP.o ⟨z.1,List.mem_map.2 ⟨z,hz,rfl⟩,e⟩;have qR:Hid ((zs.map (·.1.sum)).Pairwise (fun a b=>less a b=true)):=by
       have:=HP.o.ok.sorted;rw[List.map_map] at this;exact this
      have rW:w3.heap.size<=wN.heap.size:=by omega
      have tL:Hid (A.heap.size<=gr/\gr<wN.heap.size):=qA;clear sT hOr tM sN eN rN tN zN xG HS D0 D1 rL HC;go_wp2
      go_loopw [10,11,13] (fun v dn i wr=>∃(k g c:Nat),k<=zs.length/\i=XJ k/\dn=.bool (zD (zs.take k) SS)/\v=.slice (some ⟨g,0,none⟩) (zQ (zs.take k) ((⟨SS,births+1,text,refs⟩,.slice (some ⟨gr,0,none⟩) refs.length cr):Kd×Value)).length c/\Hid (wr.ownsRow w3.heap.size 114 4 (.slice (some ⟨g,0,none⟩) (zQ (zs.take k) ((⟨SS,births+1,text,refs⟩,.slice (some ⟨gr,0,none⟩) refs.length cr):Kd×Value)).length c) (zQ (zs.take k) ((⟨SS,births+1,text,refs⟩,.slice (some ⟨gr,0,none⟩) refs.length cr):Kd×Value)).length (Ab kC (zQ (zs.take k) ((⟨SS,births+1,text,refs⟩,.slice (some ⟨gr,0,none⟩) refs.length cr):Kd×Value)))/\(g=w3.heap.size∨wN.heap.size<=g)/\Tn [w3.heap.size] wN wr)) (fun _ _ i _=>zs.length -(intOf i).toNat)
      case atStart=>exact⟨0,w3.heap.size,0,Nat.zero_le _,rfl,by simp[zD],by simp[zQ,zD],⟨by simpa [zQ,zD,Ab] using rU.o,.inl rfl,Tn.of (Below.refl _ _)⟩⟩
      case round=>
       obtain⟨k,g,c,hk,rfl,rfl,rfl,HI⟩:=hrel;obtain⟨sX,eX,rX,oX,zX,_,pQ,_⟩:=HN.o wr HI.o.2.2;obtain⟨v4,_⟩:=sX 4 _ rfl;obtain⟨o0,o1,o2,o3⟩:=Aa.c4 oX 0 1 2 3;have qX:w3.heap.size<=wr.heap.size:=by omega
       by_cases hlt:k<zs.length
       ·obtain rfl:ta=some ⟨b,0,none⟩:=HP.o.tb.resolve_right (fun e=>by rw[e] at hlt;simp at hlt)
        have HG:Hid (zs[k]?=some zs[k]):=XD hlt;obtain⟨⟨c0,c1,c2,c3⟩,vS,xU,vQ,_⟩:=zX k _ HG.o;have tY:∀X,Tn [w3.heap.size] wN X->X.cell? (XL b (k *4))=some (.string zs[k].1.sum)/\X.cell? (XL b (k *4+1))=some (XJ zs[k].1.born)/\X.cell? (XL b (k *4+2))=some (.string zs[k].1.text)/\X.cell? (XL b (k *4+3))=some zs[k].2:=fun X hX=>by
         have:=((HN.o X hX).2.2.2.2.1 k _ HG.o).1;simpa using this
        have tJ:=qQ.o _ (List.getElem_mem hlt);have pI:(zQ (zs.take k) ((⟨SS,births+1,text,refs⟩,.slice (some ⟨gr,0,none⟩) refs.length cr):Kd×Value)).length<=1001:=by
         have:=Rf (zs.take k) ((⟨SS,births+1,text,refs⟩,.slice (some ⟨gr,0,none⟩) refs.length cr):Kd×Value);rw[List.length_take] at this;omega
        have zK:Hid _:=Tb ((⟨SS,births+1,text,refs⟩,.slice (some ⟨gr,0,none⟩) refs.length cr):Kd×Value) HG.o;have xY:Hid _:=Wh ((⟨SS,births+1,text,refs⟩,.slice (some ⟨gr,0,none⟩) refs.length cr):Kd×Value) HG.o;have zV:Hid _:=UR ((⟨SS,births+1,text,refs⟩,.slice (some ⟨gr,0,none⟩) refs.length cr):Kd×Value) qR.o HG.o
        have HD:Hid (zD (zs.take (k+1)) SS=(zD (zs.take k) SS|| !(less zs[k].1.sum SS))):=IK SS HG.o;rw[Nat.zero_add] at c0 c1 c2 c3;generalize hzk:zs[k]=z at *
        obtain⟨x,zv⟩:=z;simp only at vQ tJ c0 c1 c2 c3 zK xY zV HD tY;subst vQ;have tR:(x.sum.toList==SS.toList)=false:=BJ tJ;generalize hGk:zQ (zs.take k) ((⟨SS,births+1,text,refs⟩,.slice (some ⟨gr,0,none⟩) refs.length cr):Kd×Value)=gk at *
        generalize hDk:zD (zs.take k) SS=dk at *
        have qP:Hid _:=tY;have pM:b<wr.heap.size:=by omega
        have tT:=HI.o.1;have xJ:=HI.o.2.1;have zJ:=HI.o.2.2;clear hzk hGk hDk tY tJ oX sX eX rX zX;cases dk with
        |true=>
         have HE:Hid _:=zV.o rfl;have vC:Hid (zD (zs.take (k+1)) SS=true):=by show _=_;rw[HD.o];rfl
         clear zK xY zV HI;obtain⟨g8,zF,wa,zZ,zW,zB,zU⟩:=JZ wr w3.heap.size (.slice (some ⟨g,0,none⟩) gk.length c) gk tT (x,.slice (some vS) x.refs.length xU) ⟨_,_,_,rfl⟩ (by first|omega|(simp;omega)) (by have:=zJ.size;omega) 24
         have zY:Tn [w3.heap.size] wN wa:=⟨zB.os.trans zJ.os,zB.tape.trans zJ.tape,zB.output.trans zJ.output,XI zJ.size zB.size,fun q hq hv=>(zB.block q (XH hq zJ.size) (fun e=>by simp[Value.ownBlock] at e;simp at hv;rcases xJ with h|h<;>omega)).trans (zJ.block q hq hv)⟩;have yT:g8=w3.heap.size∨wN.heap.size<=g8:=by
          rcases zU with h|h
          ·simp[Value.ownBlock] at h;rw[←h];exact xJ
          ·have:=zJ.size;omega
         have xA:=zW;clear zW zB zU;go_wp2_with (at_builtin;refine wpList_append_run rfl _ _ 24 24 rfl rfl rfl zZ ?_);clear zZ;have HO:Hid _:=And.intro xA (And.intro yT zY);clear xA yT zY;go_wp2;exact⟨⟨k+1,g8,zF,by omega,by go_num,by rw[vC.o],by rw[HE.o];simp,⟨by rw[HE.o];simpa using HO.o.1,HO.o.2⟩⟩,by simp[intOf];omega⟩
        |false=>
         cases hless:Op.bytesLess x.sum.toList SS.toList with
         |true=>
          have HE:Hid _:=zK.o rfl hless;have vC:Hid (zD (zs.take (k+1)) SS=false):=by show _=_;rw[HD.o];unfold less;rw[hless];rfl
          clear zK xY zV HI;obtain⟨g8,zF,wa,zZ,zW,zB,zU⟩:=JZ wr w3.heap.size (.slice (some ⟨g,0,none⟩) gk.length c) gk tT (x,.slice (some vS) x.refs.length xU) ⟨_,_,_,rfl⟩ (by first|omega|(simp;omega)) (by have:=zJ.size;omega) 24
          have zY:Tn [w3.heap.size] wN wa:=⟨zB.os.trans zJ.os,zB.tape.trans zJ.tape,zB.output.trans zJ.output,XI zJ.size zB.size,fun q hq hv=>(zB.block q (XH hq zJ.size) (fun e=>by simp[Value.ownBlock] at e;simp at hv;rcases xJ with h|h<;>omega)).trans (zJ.block q hq hv)⟩;have yT:g8=w3.heap.size∨wN.heap.size<=g8:=by
           rcases zU with h|h
           ·simp[Value.ownBlock] at h;rw[←h];exact xJ
           ·have:=zJ.size;omega
          have xA:=zW;clear zW zB zU;go_wp2_with (at_builtin;refine wpList_append_run rfl _ _ 24 24 rfl rfl rfl zZ ?_);clear zZ;have HO:Hid _:=And.intro xA (And.intro yT zY);clear xA yT zY;go_wp2;exact⟨⟨k+1,g8,zF,by omega,by go_num,by rw[vC.o],by rw[HE.o];simp,⟨by rw[HE.o];simpa using HO.o.1,HO.o.2⟩⟩,by simp[intOf];omega⟩
         |false=>
          have HE:Hid _:=xY.o rfl hless;have vC:Hid (zD (zs.take (k+1)) SS=true):=by show _=_;rw[HD.o];unfold less;rw[hless];rfl
          clear zK xY zV HI;obtain⟨g8,zF,wa,zZ,zW,zB,zU⟩:=JZ wr w3.heap.size (.slice (some ⟨g,0,none⟩) (gk.length) c) gk tT (⟨SS,births+1,text,refs⟩,.slice (some ⟨gr,0,none⟩) refs.length cr) ⟨_,_,_,rfl⟩ (by first|omega|(simp;omega)) (by have:=zJ.size;omega) 24
          have zY:Tn [w3.heap.size] wN wa:=⟨zB.os.trans zJ.os,zB.tape.trans zJ.tape,zB.output.trans zJ.output,XI zJ.size zB.size,fun q hq hv=>(zB.block q (XH hq zJ.size) (fun e=>by simp[Value.ownBlock] at e;simp at hv;rcases xJ with h|h<;>omega)).trans (zJ.block q hq hv)⟩;have yT:g8=w3.heap.size∨wN.heap.size<=g8:=by
           rcases zU with h|h
           ·simp[Value.ownBlock] at h;rw[←h];exact xJ
           ·have:=zJ.size;omega
          have xA:=zW;clear zW zB zU;obtain⟨sZ,_,_,_,_,_,qE,_⟩:=HN.o wa zY;obtain⟨qM,_⟩:=sZ 4 _ rfl;obtain⟨qN,qC,qZ,rR⟩:=qP.o wa zY;have rT:b<wa.heap.size:=by omega
          obtain⟨g9,sS,wb,vD,tH,yC,xR⟩:=JZ wa w3.heap.size (.slice (some ⟨g8,0,none⟩) (gk.length+1) zF) (gk++[((⟨SS,births+1,text,refs⟩,.slice (some ⟨gr,0,none⟩) refs.length cr):Kd×Value)]) xA (x,.slice (some vS) x.refs.length xU) ⟨_,_,_,rfl⟩ (by first|omega|(simp;omega)) (by have:=zY.size;omega) 24
          have rP:Tn [w3.heap.size] wN wb:=⟨yC.os.trans zY.os,yC.tape.trans zY.tape,yC.output.trans zY.output,XI zY.size yC.size,fun q hq hv=>(yC.block q (XH hq zY.size) (fun e=>by simp[Value.ownBlock] at e;simp at hv;rcases yT with h|h<;>omega)).trans (zY.block q hq hv)⟩;have rM:g9=w3.heap.size∨wN.heap.size<=g9:=by
           rcases xR with h|h
           ·simp[Value.ownBlock] at h;rw[←h];exact yT
           ·have:=zY.size;omega
          have rK:=tH;clear tH yC xR;clear sZ;go_wp2_with (first|(at_builtin;refine wpList_append_run rfl _ _ 24 24 rfl rfl rfl zZ ?_)|(at_builtin;refine wpList_append_run rfl _ _ 24 24 rfl rfl rfl vD ?_));clear zZ vD c0 c1 c2 c3 v4 o0 o1 o2 o3 qM qN qC qZ rR;have HO:Hid _:=And.intro rK (And.intro rM rP);clear rK rM rP xA yT zY;try go_wp2
          exact⟨⟨k+1,g9,sS,by omega,by go_num,by rw[vC.o],by rw[HE.o];simp,⟨by rw[HE.o];simpa using HO.o.1,HO.o.2⟩⟩,by simp[intOf];omega⟩
       ·obtain rfl:k=zs.length:=by omega
        have hO:=HI.o.1;rw[XF (XB)] at hO ⊢;have hG:=HI.o.2.1;have hT:=HI.o.2.2;cases hDn:zD zs SS with
        |true=>
         have xK:=Vy (((⟨SS,births+1,text,refs⟩,.slice (some ⟨gr,0,none⟩) refs.length cr):Kd×Value)) hDn;rw[xK] at hO ⊢;have sP:=hT;have yQ:=hO;obtain⟨sE,eE,rE,_,zE,yS,qY,bE⟩:=HN.o wr sP;obtain⟨_,qJ⟩:=sE 4 _ rfl;obtain⟨X,hX⟩:∃X,X=wr.setCell (XL (w.heap.size) 4) (.slice (some ⟨g,0,none⟩) (Bs zs ((⟨SS,births+1,text,refs⟩,.slice (some ⟨gr,0,none⟩) refs.length cr):Kd×Value)).length c):=⟨_,rfl⟩
         have tX:Tn [w.heap.size] wr X:=by rw[hX];exact DR _ _ _ _
         have xS:Hid _:=hX;have xO:Hid (Aa X w.heap.size [XJ wd,XJ now,XJ given,XJ (births+1),.slice (some ⟨g,0,none⟩) (Bs zs ((⟨SS,births+1,text,refs⟩,.slice (some ⟨gr,0,none⟩) refs.length cr):Kd×Value)).length c,.slice pa pn pc,.slice la ls.length lc]):=by
          show Aa _ _ _;rw[hX];exact sE.set 4 _
         have vE:Hid (Aa X (w.heap.size+1) [XJ kd,.string s,.string nm,XJ num,.string text,.slice ra refs.length rc]):=Aa.same eE (tX.block _ eE.lt (by simp));have xC:Hid (Aa X (w.heap.size+2) As):=Aa.same rE (tX.block _ rE.lt (by simp));have bX:Below w.heap.size w X:=bE.trans (tX.below bE.size (by intro v hv;simp at hv;omega))
         have tE:Hid (X.ownsRow zC 137 3 (.slice la ls.length lc) ls.length (Ab lC ls)):=Ad HP.o.lo bX;have qS:wr.heap.size<=X.heap.size:=tX.size;have yZ:w.heap.size+3<=X.heap.size:=by omega
         have vV:Hid (Tn (Value.slice la ls.length lc).ownBlock.toList w X):=Tn.of bX
         have oE:X.ownsRow w3.heap.size 114 4 (.slice (some ⟨g,0,none⟩) (Bs zs ((⟨SS,births+1,text,refs⟩,.slice (some ⟨gr,0,none⟩) refs.length cr):Kd×Value)).length c) (Bs zs ((⟨SS,births+1,text,refs⟩,.slice (some ⟨gr,0,none⟩) refs.length cr):Kd×Value)).length (Ab kC (Bs zs ((⟨SS,births+1,text,refs⟩,.slice (some ⟨gr,0,none⟩) refs.length cr):Kd×Value))):=Ah yQ (fun q hq=>tX.block q (Ac yQ hq).2 (by have:=(Ac yQ hq).1;simp;omega))
         have yA:X.ownsRow A.heap.size 9 1 (.slice (some ⟨gr,0,none⟩) refs.length cr) refs.length (refs.map Value.string):=Ah yS (fun q hq=>tX.block q (Ac yS hq).2 (by have:=(Ac yS hq).1;simp;omega));have tF:BE X b 0 zs:=HP.o.z.below bX HP.o.bl;have tW:g<X.heap.size:=(Ac oE (g:=g) rfl).2;have yF:∀g,(Value.slice la ls.length lc).ownBlock=some g->g<w.heap.size:=fun g hg=>(Ac HP.o.lo hg).2
         have sC:Hid (∀(Y R:World) (n5:Nat),X.heap.size<=n5->Tn (Value.slice la ls.length lc).ownBlock.toList X Y->Tn [n5,w.heap.size+2] Y R->BE R g 0 (Bs zs ((⟨SS,births+1,text,refs⟩,.slice (some ⟨gr,0,none⟩) refs.length cr):Kd×Value))):=fun Y R n5 h5 hY hR=>by
          have xV:=Ah oE (w':=Y) (fun q hq=>hY.block q (Ac oE hq).2 (fun e=>by have h1:=yF q (by simpa using e);have h2:=(Ac oE hq).1;omega));have tZ:=Ah xV (w':=R) (fun q hq=>hR.block q (Ac xV hq).2 (by have h1:=(Ac oE hq).1;have h2:=(Ac oE hq).2;simp;omega))
          have tD:=Ah yA (w':=Y) (fun q hq=>hY.block q (Ac yA hq).2 (fun e=>by have h1:=yF q (by simpa using e);have h2:=(Ac yA hq).1;omega));have sR:=Ah tD (w':=R) (fun q hq=>hR.block q (Ac tD hq).2 (by have h1:=(Ac yA hq).1;have h2:=(Ac yA hq).2;simp;omega));have vH:b<X.heap.size:=XH xI bX.size
          have zR:=(tF.turn hY vH (fun e=>HP.o.bL (Eq.symm (by simpa using e))) (fun z hz a n c e2 e3 hin=>HP.o.zL z hz a n c e2 e3 (Eq.symm (by simpa using hin)))).turn hR (XH vH hY.size) (by simp;omega) (fun z hz a n c e2 e3 hin=>by simp at hin;have:=HP.o.z.refs_lt hz e2 e3;omega);refine BE.own tZ (fun z hz=> ?_);rcases Fh hz with hz|rfl
          ·obtain⟨i,hi⟩:=List.getElem?_of_mem hz
           obtain⟨_,tU,sM,e4,sJ⟩:=zR i z hi;exact⟨tU,sM,e4,sJ⟩
          ·have xH:Ae R R.heap.size (some ⟨gr,0,none⟩) refs:=by
            have h1:R.ownsRow A.heap.size 9 1 (.slice (some ⟨gr,0,none⟩) refs.length cr) refs.length (refs.map Value.string):=sR;exact Ae.own h1
           exact⟨⟨gr,0,none⟩,cr,rfl,xH⟩
         have vF:Hid (Cg wd births (zs.map (·.1)) text refs ((Bs zs ((⟨SS,births+1,text,refs⟩,.slice (some ⟨gr,0,none⟩) refs.length cr):Kd×Value)).map (·.1)) (births+1)):=by
          show Cg _ _ _ _ _ _ _;rw[MQ];exact vI.o
         have sF:Hid (w.heap.size<=g):=by show _<=_;rcases hG with h|h<;>omega
         have yG:Hid (w.heap.size<g/\g<X.heap.size/\w.heap.size<gr/\gr<X.heap.size):=by
          have h1:w3.heap.size<=g/\g<X.heap.size:=Ac oE (g:=g) rfl;have h2:A.heap.size<=gr/\gr<X.heap.size:=Ac yA (g:=gr) rfl;have h3:=tL.o.1;have h4:w.heap.size+3<=w3.heap.size:=by have h1:=yP.o.size;have h2:=vL.o;omega
          exact⟨by omega,h1.2,by omega,h2.2⟩
         have tV:Hid (∀z∈Bs zs ((⟨SS,births+1,text,refs⟩,.slice (some ⟨gr,0,none⟩) refs.length cr):Kd×Value),z∈zs∨∃ad n rc,z.2=.slice (some ad) n rc/\w.heap.size<=ad.block):=fun z hz=>by
          rcases Fh hz with hz|rfl
          ·exact .inl hz
          ·exact .inr ⟨⟨gr,0,none⟩,_,_,rfl,by have:=tL.o.1;show w.heap.size<=gr;omega⟩
         clear hDn xK hX tX sE eE rE zE yS oE yA tF bE bX hO yQ HI o0 o1 o2 o3;go_upto_region 29 with fail;rw[←xS.o];clear xS
         have xB:Hid _:=Fv wd now given (births+1) (some ⟨g,0,none⟩) pa la (Bs zs ((⟨SS,births+1,text,refs⟩,.slice (some ⟨gr,0,none⟩) refs.length cr):Kd×Value)).length c pn pc lc zC ls SS num X tE.o (XI HP.o.lb (XI (Nat.le_add_right _ 3) yZ)) (by have:=HP.o.nl;omega) HP.o.g0 HP.o.g1 HP.o.n0 HP.o.n1 HP.o.t0 HP.o.t1;obtain⟨l0,l1,l2,l3,l4,l5,l6⟩:=Aa.c7 xO.o 0 1 2 3 4 5 6
         obtain⟨m3,_⟩:=vE.o 3 _ rfl;go_wp2_with fail;refine Calls.mono xB.o ?_;rintro e w5 ⟨zM,yO⟩;have yD:∀g,(Value.slice la ls.length lc).ownBlock=some g->g<w.heap.size:=fun g hg=>(Ac HP.o.lo hg).2;have yB:Aa w5 (w.heap.size+2) As:=Aa.same xC.o (zM.block _ xC.o.lt (fun e=>by have:=yD _ (by simpa using e);omega));have rO:w.heap.size+3<=w5.heap.size:=XI yZ zM.size
         have xD:Hid (Tn (Value.slice la ls.length lc).ownBlock.toList w w5):=vV.o.trans zM;clear l0 l1 l2 l3 l4 l5 l6 m3 xB;obtain⟨zG,rfl⟩|⟨⟨vO,vM⟩,g2,c2,rfl,yJ,zI⟩:=yO
         ·obtain⟨Y,hY⟩:∃Y,Y=w5.alloc (.cells #[XJ 4,XK,XK,XK,XK,XN,XN,XN,XM,XK,XM,XM] 30):=⟨_,rfl⟩
          have bY:Below w5.heap.size w5 Y:=by rw[hY];exact XA
          have yN:Aa Y w5.heap.size [XJ 4,XK,XK,XK,XK,XN,XN,XN,XM,XK,XM,XM]:=by rw[hY];exact Aa.new w5 _ _
          have yR:=Aa.below (v:=XK) yB bY;have HY:Hid _:=hY;have zH:Hid (Tn (Value.slice la ls.length lc).ownBlock.toList w Y):=xD.o.trans (Tn.of bY);have yV:Hid (ls.length=200∨given=1000000000):=by have h1:=HP.o.nl;have h2:=HP.o.g1;show _∨_;omega
          obtain⟨⟨y0,q0⟩,⟨y1,q1⟩,⟨y2,q2⟩,⟨y3,q3⟩,⟨y4,q4⟩,⟨y5,q5⟩,⟨y6,q6⟩,⟨y7,q7⟩,⟨y8,q8⟩,⟨y9,q9⟩,⟨zT,yX⟩,zS,yW⟩:=AS yR;obtain⟨u0,vU⟩:=yN 0 _ rfl;obtain⟨u1,vK⟩:=yN 1 _ rfl;obtain⟨u2,vX⟩:=yN 2 _ rfl;obtain⟨u3,tC⟩:=yN 3 _ rfl;obtain⟨u4,tI⟩:=yN 4 _ rfl;obtain⟨u5,vA⟩:=yN 5 _ rfl;obtain⟨u6,tG⟩:=yN 6 _ rfl;obtain⟨u7,vT⟩:=yN 7 _ rfl;obtain⟨u8,xW⟩:=yN 8 _ rfl;obtain⟨u9,vJ⟩:=yN 9 _ rfl
          obtain⟨xQ,yK⟩:=yN 10 _ rfl;obtain⟨vP,yI⟩:=yN 11 _ rfl;clear bY yN yR hY yB zM zG;go_upto_region 30 with fail;rw[←HY.o];clear HY;go_wp2;refine bodyPost_ret (v:=.agg (BT 4 ⟨#[]⟩ ⟨#[]⟩).toArray) (by simp[results,results85,go_sem,y0,y1,y2,y3,y4,y5,y6,y7,y8,y9,zT,zS,BT]) rfl ?_
          exact⟨Tn.fresh zH.o (Bc Y (w.heap.size+2) _ _ _ _ _ _ _ _ _ _ _ _) (by omega),.inl ⟨4,_,_,.inr ⟨zP.o,.inr (.inr ⟨⟨_,_,vF.o⟩,yV.o,rfl,rfl,rfl⟩)⟩,rfl⟩⟩
         ·obtain⟨Y,hY⟩:∃Y,Y=w5.alloc (.cells #[XK,XJ wd,XJ now,XJ (given+1),XJ (births+1),.slice (some ⟨g,0,none⟩) (Bs zs ((⟨SS,births+1,text,refs⟩,.slice (some ⟨gr,0,none⟩) refs.length cr):Kd×Value)).length c,.slice pa pn pc,.slice (some ⟨g2,0,none⟩) (ls.length+1) c2,XM,XJ (given+1),XM,XM] 30):=⟨_,rfl⟩
          have bY:Below w5.heap.size w5 Y:=by rw[hY];exact XA
          have yN:Aa Y w5.heap.size [XK,XJ wd,XJ now,XJ (given+1),XJ (births+1),.slice (some ⟨g,0,none⟩) (Bs zs ((⟨SS,births+1,text,refs⟩,.slice (some ⟨gr,0,none⟩) refs.length cr):Kd×Value)).length c,.slice pa pn pc,.slice (some ⟨g2,0,none⟩) (ls.length+1) c2,XM,XJ (given+1),XM,XM]:=by rw[hY];exact Aa.new w5 _ _
          have yR:=Aa.below (v:=XK) yB bY;have HY:Hid _:=hY;have zH:Hid (Tn (Value.slice la ls.length lc).ownBlock.toList w Y):=xD.o.trans (Tn.of bY);have yU:Hid _:=Ad yJ bY;have vW:w5.heap.size<Y.heap.size:=yN.lt;have yE:Tn (Value.slice la ls.length lc).ownBlock.toList X Y:=zM.trans (Tn.of bY)
          have key:∀R,Tn [w5.heap.size,w.heap.size+2] Y R->MS zC b wd now given births num zs (.slice pa pn pc) (.slice la ls.length lc) ls text refs w (.returned (.agg #[XK,XJ wd,XJ now,XJ (given+1),XJ (births+1),.slice (some ⟨g,0,none⟩) (Bs zs ((⟨SS,births+1,text,refs⟩,.slice (some ⟨gr,0,none⟩) refs.length cr):Kd×Value)).length c,.slice pa pn pc,.slice (some ⟨g2,0,none⟩) (ls.length+1) c2,.string SS,XJ (given+1),XM,XM])) R:=fun R hR=>by
           have tB:BE R g 0 (Bs zs ((⟨SS,births+1,text,refs⟩,.slice (some ⟨gr,0,none⟩) refs.length cr):Kd×Value)):=sC.o Y R _ zM.size yE hR;have yM:g2≠w5.heap.size/\g2≠w.heap.size+2:=by
            have h1:=(Ac yJ (g:=g2) rfl).2;rcases zI with zI|zI
            ·have h4:=yD _ zI
             omega
            ·omega
           have vR:=Ah yU.o (w':=R) (fun q hq=>hR.block q (Ac yU.o hq).2 (by
            have h3:g2=q:=by simpa [Value.ownBlock] using hq
            rw[←h3];simp;exact yM))
           refine⟨?_,.inr ⟨_,_,g,c,Bs zs ((⟨SS,births+1,text,refs⟩,.slice (some ⟨gr,0,none⟩) refs.length cr):Kd×Value),g2,c2,zP.o,vF.o,vO,vM,by rw[hSS],rfl,tB,?_,.inr sF.o,tV.o,(by rcases zI with h|h;exact .inl h;exact .inr (by omega)),by rw[hSS];exact vR,(by have h0:=yG.o;rcases zI with h|h;(have h1:=yD _ h;omega);omega),fun z hz a n c e2 e3 e=>by
            have h0:=yG.o;rcases Fh hz with hz|rfl
            ·rcases zI with h|h
             ·exact HP.o.zL z hz a n c e2 e3 (by rw[h,e])
             ·have:=HP.o.z.refs_lt hz e2 e3
              omega
            ·cases e2
             have e':gr=g2:=e;rcases zI with h|h
             ·have h1:=yD _ h
              omega
             ·omega⟩⟩
           ·exact⟨hR.os.trans zH.o.os,hR.tape.trans zH.o.tape,hR.output.trans zH.o.output,XI zH.o.size hR.size,fun q hq hv=>(hR.block q (XH hq zH.o.size) (by simp;omega)).trans (zH.o.block q hq hv)⟩
           ·exact XH tW (XI yE.size hR.size)
          have yL:Hid _:=key;obtain⟨⟨y0,q0⟩,⟨y1,q1⟩,⟨y2,q2⟩,⟨y3,q3⟩,⟨y4,q4⟩,⟨y5,q5⟩,⟨y6,q6⟩,⟨y7,q7⟩,⟨y8,q8⟩,⟨y9,q9⟩,⟨zT,yX⟩,zS,yW⟩:=AS yR;obtain⟨u0,vU⟩:=yN 0 _ rfl;obtain⟨u1,vK⟩:=yN 1 _ rfl;obtain⟨u2,vX⟩:=yN 2 _ rfl;obtain⟨u3,tC⟩:=yN 3 _ rfl;obtain⟨u4,tI⟩:=yN 4 _ rfl;obtain⟨u5,vA⟩:=yN 5 _ rfl;obtain⟨u6,tG⟩:=yN 6 _ rfl;obtain⟨u7,vT⟩:=yN 7 _ rfl;obtain⟨u8,xW⟩:=yN 8 _ rfl
          obtain⟨u9,vJ⟩:=yN 9 _ rfl;obtain⟨xQ,yK⟩:=yN 10 _ rfl;obtain⟨vP,yI⟩:=yN 11 _ rfl;clear bY yN yR hY yB zM key yJ yE;go_upto_region 30 with fail;rw[←HY.o];clear HY;go_wp2
          refine bodyPost_ret (v:=.agg #[XK,XJ wd,XJ now,XJ (given+1),XJ (births+1),.slice (some ⟨g,0,none⟩) (Bs zs ((⟨SS,births+1,text,refs⟩,.slice (some ⟨gr,0,none⟩) refs.length cr):Kd×Value)).length c,.slice pa pn pc,.slice (some ⟨g2,0,none⟩) (ls.length+1) c2,.string SS,XJ (given+1),XM,XM]) (by simp[results,results85,go_sem,y0,y1,y2,y3,y4,y5,y6,y7,y8,y9,zT,zS]) rfl ?_;refine yL.o _ ?_
          repeat refine Tn.trans ?_ (Tn.set _ _ _ _ (by simp))
          exact Tn.of (Below.refl _ _)
        |false=>
         have pU:=Rf zs (((⟨SS,births+1,text,refs⟩,.slice (some ⟨gr,0,none⟩) refs.length cr):Kd×Value));have xK:=Wi (((⟨SS,births+1,text,refs⟩,.slice (some ⟨gr,0,none⟩) refs.length cr):Kd×Value)) hDn
         obtain⟨g8,zF,w8,rC,tQ,xL,rF⟩:=JZ wr w3.heap.size (.slice (some ⟨g,0,none⟩) (zQ zs (((⟨SS,births+1,text,refs⟩,.slice (some ⟨gr,0,none⟩) refs.length cr):Kd×Value))).length c) (zQ zs (((⟨SS,births+1,text,refs⟩,.slice (some ⟨gr,0,none⟩) refs.length cr):Kd×Value))) hO (((⟨SS,births+1,text,refs⟩,.slice (some ⟨gr,0,none⟩) refs.length cr):Kd×Value)) ⟨_,_,_,rfl⟩ (by omega) (by have:=hT.size;omega) 24
         have sP:Tn [w3.heap.size] wN w8:=⟨xL.os.trans hT.os,xL.tape.trans hT.tape,xL.output.trans hT.output,XI hT.size xL.size,fun q hq hv=>(xL.block q (XH hq hT.size) (fun e=>by simp[Value.ownBlock] at e;simp at hv;rcases hG with h|h<;>omega)).trans (hT.block q hq hv)⟩
         have sL:Hid ((Bs zs (((⟨SS,births+1,text,refs⟩,.slice (some ⟨gr,0,none⟩) refs.length cr):Kd×Value))).length=(zQ zs (((⟨SS,births+1,text,refs⟩,.slice (some ⟨gr,0,none⟩) refs.length cr):Kd×Value))).length+1):=by show _=_;rw[←xK];simp
         rw[xK] at tQ
         have yQ:w8.ownsRow w3.heap.size 114 4 (.slice (some ⟨g8,0,none⟩) (Bs zs (((⟨SS,births+1,text,refs⟩,.slice (some ⟨gr,0,none⟩) refs.length cr):Kd×Value))).length zF) (Bs zs (((⟨SS,births+1,text,refs⟩,.slice (some ⟨gr,0,none⟩) refs.length cr):Kd×Value))).length (Ab kC (Bs zs (((⟨SS,births+1,text,refs⟩,.slice (some ⟨gr,0,none⟩) refs.length cr):Kd×Value)))):=by rw[sL.o];rw[sL.o] at tQ;exact tQ
         rw[←sL.o] at rC;obtain⟨sE,eE,rE,_,zE,yS,qY,bE⟩:=HN.o w8 sP;obtain⟨_,qJ⟩:=sE 4 _ rfl;obtain⟨X,hX⟩:∃X,X=w8.setCell (XL (w.heap.size) 4) (.slice (some ⟨g8,0,none⟩) (Bs zs ((⟨SS,births+1,text,refs⟩,.slice (some ⟨gr,0,none⟩) refs.length cr):Kd×Value)).length zF):=⟨_,rfl⟩;have tX:Tn [w.heap.size] w8 X:=by rw[hX];exact DR _ _ _ _
         have xS:Hid _:=hX;have xO:Hid (Aa X w.heap.size [XJ wd,XJ now,XJ given,XJ (births+1),.slice (some ⟨g8,0,none⟩) (Bs zs ((⟨SS,births+1,text,refs⟩,.slice (some ⟨gr,0,none⟩) refs.length cr):Kd×Value)).length zF,.slice pa pn pc,.slice la ls.length lc]):=by
          show Aa _ _ _;rw[hX];exact sE.set 4 _
         have vE:Hid (Aa X (w.heap.size+1) [XJ kd,.string s,.string nm,XJ num,.string text,.slice ra refs.length rc]):=Aa.same eE (tX.block _ eE.lt (by simp));have xC:Hid (Aa X (w.heap.size+2) As):=Aa.same rE (tX.block _ rE.lt (by simp));have bX:Below w.heap.size w X:=bE.trans (tX.below bE.size (by intro v hv;simp at hv;omega))
         have tE:Hid (X.ownsRow zC 137 3 (.slice la ls.length lc) ls.length (Ab lC ls)):=Ad HP.o.lo bX;have qS:w8.heap.size<=X.heap.size:=tX.size;have yZ:w.heap.size+3<=X.heap.size:=by omega
         have vV:Hid (Tn (Value.slice la ls.length lc).ownBlock.toList w X):=Tn.of bX
         have oE:X.ownsRow w3.heap.size 114 4 (.slice (some ⟨g8,0,none⟩) (Bs zs ((⟨SS,births+1,text,refs⟩,.slice (some ⟨gr,0,none⟩) refs.length cr):Kd×Value)).length zF) (Bs zs ((⟨SS,births+1,text,refs⟩,.slice (some ⟨gr,0,none⟩) refs.length cr):Kd×Value)).length (Ab kC (Bs zs ((⟨SS,births+1,text,refs⟩,.slice (some ⟨gr,0,none⟩) refs.length cr):Kd×Value))):=Ah yQ (fun q hq=>tX.block q (Ac yQ hq).2 (by have:=(Ac yQ hq).1;simp;omega))
         have yA:X.ownsRow A.heap.size 9 1 (.slice (some ⟨gr,0,none⟩) refs.length cr) refs.length (refs.map Value.string):=Ah yS (fun q hq=>tX.block q (Ac yS hq).2 (by have:=(Ac yS hq).1;simp;omega));have tF:BE X b 0 zs:=HP.o.z.below bX HP.o.bl;have tW:g8<X.heap.size:=(Ac oE (g:=g8) rfl).2;have yF:∀g,(Value.slice la ls.length lc).ownBlock=some g->g<w.heap.size:=fun g hg=>(Ac HP.o.lo hg).2
         have sC:Hid (∀(Y R:World) (n5:Nat),X.heap.size<=n5->Tn (Value.slice la ls.length lc).ownBlock.toList X Y->Tn [n5,w.heap.size+2] Y R->BE R g8 0 (Bs zs ((⟨SS,births+1,text,refs⟩,.slice (some ⟨gr,0,none⟩) refs.length cr):Kd×Value))):=fun Y R n5 h5 hY hR=>by
          have xV:=Ah oE (w':=Y) (fun q hq=>hY.block q (Ac oE hq).2 (fun e=>by have h1:=yF q (by simpa using e);have h2:=(Ac oE hq).1;omega));have tZ:=Ah xV (w':=R) (fun q hq=>hR.block q (Ac xV hq).2 (by have h1:=(Ac oE hq).1;have h2:=(Ac oE hq).2;simp;omega))
          have tD:=Ah yA (w':=Y) (fun q hq=>hY.block q (Ac yA hq).2 (fun e=>by have h1:=yF q (by simpa using e);have h2:=(Ac yA hq).1;omega));have sR:=Ah tD (w':=R) (fun q hq=>hR.block q (Ac tD hq).2 (by have h1:=(Ac yA hq).1;have h2:=(Ac yA hq).2;simp;omega));have vH:b<X.heap.size:=XH xI bX.size
          have zR:=(tF.turn hY vH (fun e=>HP.o.bL (Eq.symm (by simpa using e))) (fun z hz a n c e2 e3 hin=>HP.o.zL z hz a n c e2 e3 (Eq.symm (by simpa using hin)))).turn hR (XH vH hY.size) (by simp;omega) (fun z hz a n c e2 e3 hin=>by simp at hin;have:=HP.o.z.refs_lt hz e2 e3;omega);refine BE.own tZ (fun z hz=> ?_);rcases Fh hz with hz|rfl
          ·obtain⟨i,hi⟩:=List.getElem?_of_mem hz
           obtain⟨_,tU,sM,e4,sJ⟩:=zR i z hi;exact⟨tU,sM,e4,sJ⟩
          ·have xH:Ae R R.heap.size (some ⟨gr,0,none⟩) refs:=by
            have h1:R.ownsRow A.heap.size 9 1 (.slice (some ⟨gr,0,none⟩) refs.length cr) refs.length (refs.map Value.string):=sR;exact Ae.own h1
           exact⟨⟨gr,0,none⟩,cr,rfl,xH⟩
         have vF:Hid (Cg wd births (zs.map (·.1)) text refs ((Bs zs ((⟨SS,births+1,text,refs⟩,.slice (some ⟨gr,0,none⟩) refs.length cr):Kd×Value)).map (·.1)) (births+1)):=by
          show Cg _ _ _ _ _ _ _;rw[MQ];exact vI.o
         have sF:Hid (w.heap.size<=g8):=by
          show _<=_;rcases rF with h|h
          ·have h2:g=g8:=by simpa [Value.ownBlock] using h
           rcases hG with h3|h3<;>omega
          ·have:=hT.size;omega
         have yG:Hid (w.heap.size<g8/\g8<X.heap.size/\w.heap.size<gr/\gr<X.heap.size):=by
          have h1:w3.heap.size<=g8/\g8<X.heap.size:=Ac oE (g:=g8) rfl;have h2:A.heap.size<=gr/\gr<X.heap.size:=Ac yA (g:=gr) rfl;have h3:=tL.o.1;have h4:w.heap.size+3<=w3.heap.size:=by have h1:=yP.o.size;have h2:=vL.o;omega
          exact⟨by omega,h1.2,by omega,h2.2⟩
         have tV:Hid (∀z∈Bs zs ((⟨SS,births+1,text,refs⟩,.slice (some ⟨gr,0,none⟩) refs.length cr):Kd×Value),z∈zs∨∃ad n rc,z.2=.slice (some ad) n rc/\w.heap.size<=ad.block):=fun z hz=>by
          rcases Fh hz with hz|rfl
          ·exact .inl hz
          ·exact .inr ⟨⟨gr,0,none⟩,_,_,rfl,by have:=tL.o.1;show w.heap.size<=gr;omega⟩
         clear hDn xK hX tX sE eE rE zE yS oE yA tF bE bX hO yQ HI tQ xL rF;go_upto_region 29 with(at_builtin;refine wpList_append_run rfl _ _ 24 24 rfl rfl rfl rC ?_);rw[←xS.o];clear xS
         have xB:Hid _:=Fv wd now given (births+1) (some ⟨g8,0,none⟩) pa la (Bs zs ((⟨SS,births+1,text,refs⟩,.slice (some ⟨gr,0,none⟩) refs.length cr):Kd×Value)).length zF pn pc lc zC ls SS num X tE.o (XI HP.o.lb (XI (Nat.le_add_right _ 3) yZ)) (by have:=HP.o.nl;omega) HP.o.g0 HP.o.g1 HP.o.n0 HP.o.n1 HP.o.t0 HP.o.t1;obtain⟨l0,l1,l2,l3,l4,l5,l6⟩:=Aa.c7 xO.o 0 1 2 3 4 5 6
         obtain⟨m3,_⟩:=vE.o 3 _ rfl;go_wp2_with fail;refine Calls.mono xB.o ?_;rintro e w5 ⟨zM,yO⟩;have yD:∀g,(Value.slice la ls.length lc).ownBlock=some g->g<w.heap.size:=fun g hg=>(Ac HP.o.lo hg).2;have yB:Aa w5 (w.heap.size+2) As:=Aa.same xC.o (zM.block _ xC.o.lt (fun e=>by have:=yD _ (by simpa using e);omega));have rO:w.heap.size+3<=w5.heap.size:=XI yZ zM.size
         have xD:Hid (Tn (Value.slice la ls.length lc).ownBlock.toList w w5):=vV.o.trans zM;clear l0 l1 l2 l3 l4 l5 l6 m3 xB;obtain⟨zG,rfl⟩|⟨⟨vO,vM⟩,g2,c2,rfl,yJ,zI⟩:=yO
         ·obtain⟨Y,hY⟩:∃Y,Y=w5.alloc (.cells #[XJ 4,XK,XK,XK,XK,XN,XN,XN,XM,XK,XM,XM] 30):=⟨_,rfl⟩
          have bY:Below w5.heap.size w5 Y:=by rw[hY];exact XA
          have yN:Aa Y w5.heap.size [XJ 4,XK,XK,XK,XK,XN,XN,XN,XM,XK,XM,XM]:=by rw[hY];exact Aa.new w5 _ _
          have yR:=Aa.below (v:=XK) yB bY;have HY:Hid _:=hY;have zH:Hid (Tn (Value.slice la ls.length lc).ownBlock.toList w Y):=xD.o.trans (Tn.of bY);have yV:Hid (ls.length=200∨given=1000000000):=by have h1:=HP.o.nl;have h2:=HP.o.g1;show _∨_;omega
          obtain⟨⟨y0,q0⟩,⟨y1,q1⟩,⟨y2,q2⟩,⟨y3,q3⟩,⟨y4,q4⟩,⟨y5,q5⟩,⟨y6,q6⟩,⟨y7,q7⟩,⟨y8,q8⟩,⟨y9,q9⟩,⟨zT,yX⟩,zS,yW⟩:=AS yR;obtain⟨u0,vU⟩:=yN 0 _ rfl;obtain⟨u1,vK⟩:=yN 1 _ rfl;obtain⟨u2,vX⟩:=yN 2 _ rfl;obtain⟨u3,tC⟩:=yN 3 _ rfl;obtain⟨u4,tI⟩:=yN 4 _ rfl;obtain⟨u5,vA⟩:=yN 5 _ rfl;obtain⟨u6,tG⟩:=yN 6 _ rfl;obtain⟨u7,vT⟩:=yN 7 _ rfl;obtain⟨u8,xW⟩:=yN 8 _ rfl;obtain⟨u9,vJ⟩:=yN 9 _ rfl
          obtain⟨xQ,yK⟩:=yN 10 _ rfl;obtain⟨vP,yI⟩:=yN 11 _ rfl;clear bY yN yR hY yB zM zG;go_upto_region 30 with fail;rw[←HY.o];clear HY;go_wp2;refine bodyPost_ret (v:=.agg (BT 4 ⟨#[]⟩ ⟨#[]⟩).toArray) (by simp[results,results85,go_sem,y0,y1,y2,y3,y4,y5,y6,y7,y8,y9,zT,zS,BT]) rfl ?_
          exact⟨Tn.fresh zH.o (Bc Y (w.heap.size+2) _ _ _ _ _ _ _ _ _ _ _ _) (by omega),.inl ⟨4,_,_,.inr ⟨zP.o,.inr (.inr ⟨⟨_,_,vF.o⟩,yV.o,rfl,rfl,rfl⟩)⟩,rfl⟩⟩
         ·obtain⟨Y,hY⟩:∃Y,Y=w5.alloc (.cells #[XK,XJ wd,XJ now,XJ (given+1),XJ (births+1),.slice (some ⟨g8,0,none⟩) (Bs zs ((⟨SS,births+1,text,refs⟩,.slice (some ⟨gr,0,none⟩) refs.length cr):Kd×Value)).length zF,.slice pa pn pc,.slice (some ⟨g2,0,none⟩) (ls.length+1) c2,XM,XJ (given+1),XM,XM] 30):=⟨_,rfl⟩
          have bY:Below w5.heap.size w5 Y:=by rw[hY];exact XA
          have yN:Aa Y w5.heap.size [XK,XJ wd,XJ now,XJ (given+1),XJ (births+1),.slice (some ⟨g8,0,none⟩) (Bs zs ((⟨SS,births+1,text,refs⟩,.slice (some ⟨gr,0,none⟩) refs.length cr):Kd×Value)).length zF,.slice pa pn pc,.slice (some ⟨g2,0,none⟩) (ls.length+1) c2,XM,XJ (given+1),XM,XM]:=by rw[hY];exact Aa.new w5 _ _
          have yR:=Aa.below (v:=XK) yB bY;have HY:Hid _:=hY;have zH:Hid (Tn (Value.slice la ls.length lc).ownBlock.toList w Y):=xD.o.trans (Tn.of bY);have yU:Hid _:=Ad yJ bY;have vW:w5.heap.size<Y.heap.size:=yN.lt;have yE:Tn (Value.slice la ls.length lc).ownBlock.toList X Y:=zM.trans (Tn.of bY)
          have key:∀R,Tn [w5.heap.size,w.heap.size+2] Y R->MS zC b wd now given births num zs (.slice pa pn pc) (.slice la ls.length lc) ls text refs w (.returned (.agg #[XK,XJ wd,XJ now,XJ (given+1),XJ (births+1),.slice (some ⟨g8,0,none⟩) (Bs zs ((⟨SS,births+1,text,refs⟩,.slice (some ⟨gr,0,none⟩) refs.length cr):Kd×Value)).length zF,.slice pa pn pc,.slice (some ⟨g2,0,none⟩) (ls.length+1) c2,.string SS,XJ (given+1),XM,XM])) R:=fun R hR=>by
           have tB:BE R g8 0 (Bs zs ((⟨SS,births+1,text,refs⟩,.slice (some ⟨gr,0,none⟩) refs.length cr):Kd×Value)):=sC.o Y R _ zM.size yE hR;have yM:g2≠w5.heap.size/\g2≠w.heap.size+2:=by
            have h1:=(Ac yJ (g:=g2) rfl).2;rcases zI with zI|zI
            ·have h4:=yD _ zI
             omega
            ·omega
           have vR:=Ah yU.o (w':=R) (fun q hq=>hR.block q (Ac yU.o hq).2 (by
            have h3:g2=q:=by simpa [Value.ownBlock] using hq
            rw[←h3];simp;exact yM))
           refine⟨?_,.inr ⟨_,_,g8,zF,Bs zs ((⟨SS,births+1,text,refs⟩,.slice (some ⟨gr,0,none⟩) refs.length cr):Kd×Value),g2,c2,zP.o,vF.o,vO,vM,by rw[hSS],rfl,tB,?_,.inr sF.o,tV.o,(by rcases zI with h|h;exact .inl h;exact .inr (by omega)),by rw[hSS];exact vR,(by have h0:=yG.o;rcases zI with h|h;(have h1:=yD _ h;omega);omega),fun z hz a n c e2 e3 e=>by
            have h0:=yG.o;rcases Fh hz with hz|rfl
            ·rcases zI with h|h
             ·exact HP.o.zL z hz a n c e2 e3 (by rw[h,e])
             ·have:=HP.o.z.refs_lt hz e2 e3
              omega
            ·cases e2
             have e':gr=g2:=e;rcases zI with h|h
             ·have h1:=yD _ h
              omega
             ·omega⟩⟩
           ·exact⟨hR.os.trans zH.o.os,hR.tape.trans zH.o.tape,hR.output.trans zH.o.output,XI zH.o.size hR.size,fun q hq hv=>(hR.block q (XH hq zH.o.size) (by simp;omega)).trans (zH.o.block q hq hv)⟩
           ·exact XH tW (XI yE.size hR.size)
          have yL:Hid _:=key;obtain⟨⟨y0,q0⟩,⟨y1,q1⟩,⟨y2,q2⟩,⟨y3,q3⟩,⟨y4,q4⟩,⟨y5,q5⟩,⟨y6,q6⟩,⟨y7,q7⟩,⟨y8,q8⟩,⟨y9,q9⟩,⟨zT,yX⟩,zS,yW⟩:=AS yR;obtain⟨u0,vU⟩:=yN 0 _ rfl;obtain⟨u1,vK⟩:=yN 1 _ rfl;obtain⟨u2,vX⟩:=yN 2 _ rfl;obtain⟨u3,tC⟩:=yN 3 _ rfl;obtain⟨u4,tI⟩:=yN 4 _ rfl;obtain⟨u5,vA⟩:=yN 5 _ rfl;obtain⟨u6,tG⟩:=yN 6 _ rfl;obtain⟨u7,vT⟩:=yN 7 _ rfl;obtain⟨u8,xW⟩:=yN 8 _ rfl
          obtain⟨u9,vJ⟩:=yN 9 _ rfl;obtain⟨xQ,yK⟩:=yN 10 _ rfl;obtain⟨vP,yI⟩:=yN 11 _ rfl;clear bY yN yR hY yB zM key yJ yE;go_upto_region 30 with fail;rw[←HY.o];clear HY;go_wp2
          refine bodyPost_ret (v:=.agg #[XK,XJ wd,XJ now,XJ (given+1),XJ (births+1),.slice (some ⟨g8,0,none⟩) (Bs zs ((⟨SS,births+1,text,refs⟩,.slice (some ⟨gr,0,none⟩) refs.length cr):Kd×Value)).length zF,.slice pa pn pc,.slice (some ⟨g2,0,none⟩) (ls.length+1) c2,.string SS,XJ (given+1),XM,XM]) (by simp[results,results85,go_sem,y0,y1,y2,y3,y4,y5,y6,y7,y8,y9,zT,zS]) rfl ?_
          refine yL.o _ ?_
          repeat refine Tn.trans ?_ (Tn.set _ _ _ _ (by simp))
          exact Tn.of (Below.refl _ _)
end Go.Proofs.YtpekbmegopfhfaaGreatDoor
