import Derived.Test.YtpekbmegopfhfaaGreatDoorK25
import Derived.BigRegion
set_option maxRecDepth 100000
set_option maxHeartbeats 16000000
namespace Go.Proofs.YtpekbmegopfhfaaGreatDoor
open Go.ChangeShapes Go.WideShapes Go.ChangeAt Go.RowKit _root_.Go.Proofs.Tryz
theorem Hp (n:Int) (w:World):
 Calls prog 40 #[XJ n] w fun e w'=>e=.returned (.bool (decide (1<=n/\n<=8)))/\w'=w:=by
 by_cases h1:1<=n
 ·by_cases h2:n<=8
  ·go_enter func40,ntmps40
   go_wp2;go_ret;exact⟨Ao (by simp[h1,h2]),rfl⟩
  ·have zA:decide (n<=8)=false:=by simpa using h2
   go_enter func40,ntmps40;go_wp2;go_ret;exact⟨rfl,rfl⟩
 ·have zB:decide (1<=n)=false:=by simpa using h1
  go_enter func40,ntmps40;go_wp2;go_ret;exact⟨rfl,rfl⟩
theorem Lv {s:ByteArray} {wd:Int} (h:¬(1<=wd/\wd<=8)):AA s wd=Gn:=by
 unfold AA;rw[if_pos (Tx h)]
theorem Lw {l:List UInt8} {wd:Int} (h1:1<=wd) (h2:wd<=8) (hl:l.length<6):AA (Az l) wd=Gn:=by
 unfold AA;rw[if_pos]
 match l,hl with
 |[],_=>exact VN h1 h2
 |a::l,hl=>
  by_cases h4:l.length<4
  ·exact Tz a l h1 h2 h4
  ·cases hk:DX (a.toNat:Int) with
   |false=>exact Fo (by rw[FY _ _ h1 h2,hk];rfl)
   |true=>
    match l,hl,h4 with
    |[a1,a2,a3,a4],_,_=>exact TA a a1 a2 a3 a4 h1 h2 hk
    |[],_,h4=>simp at h4
    |[_],_,h4=>simp at h4
    |[_,_],_,h4=>simp at h4
    |[_,_,_],_,h4=>simp at h4
theorem Nk {a0 a1 a2 a3 a4 a5:UInt8} {T:List UInt8} {wd:Int} (h1:1<=wd) (h2:wd<=8) (hT:T.length<a5.toNat):AA (Az (a0::a1::a2::a3::a4::a5::T)) wd=Gn:=by
 unfold AA;rw[if_pos];cases hk:DX (a0.toNat:Int) with
 |false=>exact Fo (by rw[FY _ _ h1 h2,hk];rfl)
 |true=>exact TB a0 a1 a2 a3 a4 a5 T h1 h2 hk hT
theorem Gp {s:ByteArray} {wd:Int} {w w':World} (h:AA s wd=Gn) (hb:Xz w w'):CA s wd w (.returned (.tuple #[.agg #[XK,XM,XM,XK,XM,XN],.bool false])) w':=by
 unfold CA;rw[h];exact⟨XN,rfl,World.ownsRow_nil _ _ _ _,hb⟩
theorem PP (s:ByteArray) (wd:Int) (w:World) (h:¬(1<=wd/\wd<=8)):
 Calls prog 41 #[.string s,XJ wd] w (CA s wd w):=by
 have hd:decide (1<=wd/\wd<=8)=false:=by simpa using h
 have HN:Hid _:=Lv (s:=s) h;clear h;go_enter func41,ntmps41;go_wp2_with (go_at_call 40;refine(Hp wd _).mono ?_;rintro e w' ⟨rfl,zA⟩;rw[zA];clear zA w');exact bodyPost_ret (v:=.tuple #[.agg #[XK,XM,XM,XK,XM,XN],.bool false]) (by simp[results,results41,go_sem]) rfl (Gp HN.o (XA))
theorem PQ (s:ByteArray) (wd:Int) (w:World) (h1:1<=wd) (h2:wd<=8) (h6:s.size<6):
 Calls prog 41 #[.string s,XJ wd] w (CA s wd w):=by
 have hd:decide (1<=wd/\wd<=8)=true:=by simp[h1,h2]
 have zB:decide ((s.size:Int)<6)=true:=by simp;omega
 have HN:Hid _:=Lw (l:=s.data.toList) h1 h2 h6;go_enter func41,ntmps41;go_wp2_with (go_at_call 40;refine(Hp wd _).mono ?_;rintro e w' ⟨rfl,zA⟩;rw[zA];clear zA w');exact bodyPost_ret (v:=.tuple #[.agg #[XK,XM,XM,XK,XM,XN],.bool false]) (by simp[results,results41,go_sem]) rfl (Gp HN.o (XA))
theorem PR (s:ByteArray) (wd:Int) (w:World) (hs:s.size<=1048576) (h1:1<=wd) (h2:wd<=8) (A5:Nat) (h6:6<=s.size) (g5:s[5].toNat=A5) (hN:AA s wd=Gn) (hf:s.size<6+A5):
 Calls prog 41 #[.string s,XJ wd] w (CA s wd w):=by
 have hd:decide (1<=wd/\wd<=8)=true:=by simp[h1,h2]
 have zC:decide ((s.size:Int)<6)=false:=by simp;omega
 have zE:(5:Int)<s.size:=by omega
 have zF:decide ((s.size:Int)<6+(A5:Int))=true:=by simp;omega
 have b5:A5<256:=by rw[←g5];exact s[5].toNat_lt
 have zB:=BK s[5];rw[g5] at zB;have HN:Hid _:=hN;clear hN;go_enter func41,ntmps41;go_wp2_with (go_at_call 40;refine(Hp wd _).mono ?_;rintro e w' ⟨rfl,zA⟩;rw[zA];clear zA w');exact bodyPost_ret (v:=.tuple #[.agg #[XK,XM,XM,XK,XM,XN],.bool false]) (by simp[results,results41,go_sem]) rfl (Gp HN.o (XA))
theorem PS (s:ByteArray) (wd:Int) (A0 A1 A2 A3 A4 A5:Nat) (w:World) (hs:s.size<=1048576) (h1:1<=wd) (h2:wd<=8) (h6:6<=s.size) (g0:s[0].toNat=A0) (g1:s[1].toNat=A1) (g2:s[2].toNat=A2) (g3:s[3].toNat=A3) (g4:s[4].toNat=A4) (g5:s[5].toNat=A5) (hf:6+A5<=s.size)
 (name rs:ByteArray) (zW:s.extract 6 (6+A5)=name) (yG:s.extract (6+A5) s.size=rs) (n:Int) (hn:(A1:Int) *16777216+(A2:Int) *65536+(A3:Int) *256+(A4:Int)=n)
 (sm tt:ByteArray) (rr:List ByteArray) (zO:sm=if (A0:Int)=1 then ⟨#[]⟩ else rs) (zM:tt=if (A0:Int)=1 then (rd rs wd).1 else ⟨#[]⟩) (zY:rr=if (A0:Int)=1 then (rd rs wd).2.1 else [])
 (hR:AA s wd=if (Cs A0 sm name n tt rr wd&&decide (DE A0 sm name n tt rr wd=s))=true then ⟨A0,sm,name,n,tt,rr,true⟩ else Gn):
 Calls prog 41 #[.string s,XJ wd] w (CA s wd w):=by
 have hd:decide (1<=wd/\wd<=8)=true:=by simp[h1,h2]
 have yD:decide ((s.size:Int)<6)=false:=by simp;omega
 have l5:(5:Int)<s.size:=by omega
 have zV:decide ((s.size:Int)<6+(A5:Int))=false:=by simp;omega
 have b0:A0<256:=by rw[←g0];exact s[0].toNat_lt
 have b1:A1<256:=by rw[←g1];exact s[1].toNat_lt
 have b2:A2<256:=by rw[←g2];exact s[2].toNat_lt
 have b3:A3<256:=by rw[←g3];exact s[3].toNat_lt
 have b4:A4<256:=by rw[←g4];exact s[4].toNat_lt
 have b5:A5<256:=by rw[←g5];exact s[5].toNat_lt
 have w0:=BK s[0];have w1:=BK s[1];have w2:=BK s[2];have w3:=BK s[3];have w4:=BK s[4];have w5:=BK s[5];rw[g0] at w0;rw[g1] at w1;rw[g2] at w2;rw[g3] at w3;rw[g4] at w4;rw[g5] at w5;have zU:Hid _:=And.intro b0 (And.intro b1 (And.intro b2 (And.intro b3 b4)));have zX:Hid _:=And.intro w0 (And.intro w1 (And.intro w2 (And.intro w3 w4)))
 have yA:Hid _:=And.intro g0 (And.intro g1 (And.intro g2 (And.intro g3 g4)));have HX:Hid _:=And.intro hs (And.intro h1 h2);have zA:Hid _:=And.intro zW (And.intro yG (And.intro hn (And.intro zO (And.intro zM (And.intro zY hR)))));clear zW yG hn zO zM zY hR;clear b0 b1 b2 b3 b4 w0 w1 w2 w3 w4 g0 g1 g2 g3 g4;obtain⟨W,hW⟩:∃W,W=w.alloc (.cells #[XK,XM,XM,XK,XM,XN] 77):=⟨_,rfl⟩;have zR:=(Aq hW).1
 have hz:w.heap.size<W.heap.size:=by rw[hW];simp
 have R0:Hid (Aa W _ _):=(Aq hW).2.2;have HW:Hid _:=hW;clear hW;go_enter func41,ntmps41;go_upto_region 1 with fail;rw[←HW.o];clear HW;go_upto_region 3 with(go_at_call 40;refine(Hp wd _).mono ?_;rintro e w' ⟨rfl,zZ⟩;rw[zZ];clear zZ w');go_cut [6] (fun v wx=>v=.pointer (some ⟨W.heap.size,0,none⟩)/\wx=(W.alloc (.cells #[XJ (A0:Int),XM,XM,XJ n,XM,XN] 77)).drew)
 case first=>
  obtain⟨b0,b1,b2,b3,b4⟩:=zU.o;have m1:=DM ((A1:Int) *16777216) (by omega) (by omega);have m2:=DM ((A2:Int) *65536) (by omega) (by omega);have m3:=DM ((A3:Int) *256) (by omega) (by omega);have p1:=DM ((A1:Int) *16777216+(A2:Int) *65536) (by omega) (by omega);have p2:=DM ((A1:Int) *16777216+(A2:Int) *65536+(A3:Int) *256) (by omega) (by omega)
  have p3:=DM ((A1:Int) *16777216+(A2:Int) *65536+(A3:Int) *256+(A4:Int)) (by omega) (by omega);have l0:(0:Int)<s.size:=by omega
  have l1:(1:Int)<s.size:=by omega
  have l2:(2:Int)<s.size:=by omega
  have l3:(3:Int)<s.size:=by omega
  have l4:(4:Int)<s.size:=by omega
  obtain⟨w0,w1,w2,w3,w4⟩:=zX.o;obtain⟨g0,g1,g2,g3,g4⟩:=yA.o;clear b0 b1 b2 b3 b4 b5 zV yD hd;have H5:Hid _:=And.intro g5 (And.intro w5 l5);clear w5 l5
  go_big_region
  go_wp2_with fail;go_meet;exact⟨rfl,by rw[zA.o.2.2.1]⟩
 case rest=>
 revert wc;intro W3 hcut;obtain⟨rfl,zI⟩:=hcut;have yL:=hf;clear b5 zV yD hd zU zX yA HX;have zK:Below W.heap.size W W3:=by rw[zI];exact(XA).drew
 have Z3:Aa W3 W.heap.size [XJ (A0:Int),XM,XM,XJ n,XM,XN]:=by rw[zI];exact Aa.new W _ _
 have R3:=R0.o.below zK;have B3:=zR.trans (zK.mono (Nat.le_of_lt hz));obtain⟨B,hB⟩:∃B,B=W.heap.size:=⟨_,rfl⟩;rw[←hB] at Z3;have HB:Hid _:=hB;obtain⟨z2,yH⟩:=Z3 2 _ rfl;have zG:w.heap.size<B:=by omega
 obtain⟨W4,zE⟩:∃W4,W4=W3.setCell (XL B 2) (.string name):=⟨_,rfl⟩;have Z4:Hid (Aa W4 B [XJ (A0:Int),XM,.string name,XJ n,XM,XN]):=by rw[zE];exact Z3.set 2 _
 have R4:Hid (Aa W4 w.heap.size [XK,XM,XM,XK,XM,XN]):=by rw[zE];exact R3.far' (Av _ _ _ _) (by omega)
 have B4:Hid (Xz w W4):=by rw[zE];exact B3.setCell (p:=⟨B,2,none⟩) (Nat.le_of_lt zG) _
 have zN:Hid _:=zE;have Hn:Hid _:=zA.o.1;have Hr:Hid _:=zA.o.2.1;rw[←hB];clear zI zK zE R3 B3 hB Z3;have e6:((6:Int)+(A5:Int)).toNat=6+A5:=by omega
 have u1:(6:Int)<=6+(A5:Int):=by omega
 have u2:(6:Int)+(A5:Int)<=(s.size:Int):=by omega
 go_upto_region 6 with fail;rw[Hn.o,Hr.o,←zN.o];have yC:rs.size<=1048576:=by rw[←Hr.o];simp;omega
 have yI:name.size<=1048576:=by rw[←Hn.o];simp;omega
 have yJ:=HB.o.symm;clear zN Hn Hr z2 yH e6 u1 u2 w5 l5 R0 zR hz yJ HB;clear g5;clear hf yL h6;have HX:Hid _:=And.intro hs (And.intro h1 h2);clear hs h1 h2;obtain⟨z0,_⟩:=Z4.o 0 _ rfl
 go_upto_if 63 with fail
 go_cut [] (fun wx=>∃(ra:Option Addr) (rc:Nat),Hid (Aa wx B [XJ (A0:Int),.string sm,.string name,XJ n,.string tt,.slice ra rr.length rc])/\Hid (Aa wx w.heap.size [XK,XM,XM,XK,XM,XN])/\Hid (wx.ownsRow (w.heap.size+1) 9 1 (.slice ra rr.length rc) rr.length (rr.map Value.string))/\Hid (Xz w wx))
 case first=>
  by_cases hk:(A0:Int)=1
  ·have e1:Hid (sm=⟨#[]⟩):=by show _=_;rw[zA.o.2.2.2.1,if_pos hk]
   have e2:Hid (tt=(rd rs wd).1):=by show _=_;rw[zA.o.2.2.2.2.1,if_pos hk]
   have e3:Hid (rr=(rd rs wd).2.1):=by show _=_;rw[zA.o.2.2.2.2.2.1,if_pos hk]
   have hq:((A0:Int)==1)=true:=by simpa using hk
   have HK:Hid _:=hk;clear hk;go_wp2_with fail;have HR:=RE rs wd W4 yC;unfold DV at HR;refine HR.mono ?_;rintro e w5 ⟨v,rfl,ho,zH⟩;rw[←e3.o] at ho;rw[←e2.o];obtain⟨ra,rc,hv,_⟩:=Dm ho;subst hv;have Z5:=Aa.below Z4.o zH;have R5:=Aa.below R4.o zH;have yE:=Z4.o.lt;obtain⟨z4,yO⟩:=Z5 4 _ rfl;obtain⟨z5,yP⟩:=Z5 5 _ rfl;have B5:=B4.o.trans (zH.mono B4.o.size);clear HR zH z0 hq;go_wp2_with fail;go_meet
   refine⟨ra,rc,?_,?_,?_,?_⟩
   ·rw[e1.o]
    exact(Z5.set 4 _).set 5 _
   ·exact(R5.far' (Av _ B 4 _) (by omega)).far' (Av _ B 5 _) (by omega)
   ·exact(ownsRow_setCell_below (ownsRow_setCell_below ho yE _) yE _).mono (by omega)
   ·exact(B5.setCell (p:=⟨B,4,none⟩) (Nat.le_of_lt zG) _).setCell (p:=⟨B,5,none⟩) (Nat.le_of_lt zG) _
  ·have e1:Hid (sm=rs):=by show _=_;rw[zA.o.2.2.2.1,if_neg hk]
   have e2:Hid (tt=⟨#[]⟩):=by show _=_;rw[zA.o.2.2.2.2.1,if_neg hk]
   have e3:Hid (rr=[]):=by show _=_;rw[zA.o.2.2.2.2.2.1,if_neg hk]
   have hq:((A0:Int)==1)=false:=by simpa using hk
   obtain⟨z1,yN⟩:=Z4.o 1 _ rfl;have HK:Hid _:=hk;clear hk;go_wp2_with fail;go_meet;refine⟨none,0,?_,?_,?_,?_⟩
   ·rw[e1.o,e2.o,e3.o]
    exact Z4.o.set 1 _
   ·exact R4.o.far' (Av _ B 1 _) (by omega)
   ·rw[e3.o]
    exact World.ownsRow_nil _ _ _ _
   ·exact B4.o.setCell (p:=⟨B,1,none⟩) (Nat.le_of_lt zG) _
 case rest=>
 revert wc;intro w6 hcut;obtain⟨ra,rc,Z6,R6,O6,B6⟩:=hcut;clear Z4 R4 B4 z0;obtain⟨z0,z1,z2,z3,z4,z5⟩:=Aa.c6 Z6.o 0 1 2 3 4 5;have yB:rr.length<=255:=by
  rw[zA.o.2.2.2.2.2.1];split
  ·exact Uh _ _
  ·exact Nat.zero_le _
 have zP:tt.size<=maxLen:=by
  rw[zA.o.2.2.2.2.1];unfold maxLen;split
  ·have:=OL rs wd;omega
  ·exact Nat.zero_le _
 have yF:name.size<=maxLen:=by unfold maxLen;omega
 have zJ:Hid (Ae w6 w6.heap.size ra rr):=by
  obtain⟨a',c',hv,hr⟩:=Dm O6.o;cases hv;exact hr
 have HT:Hid _:=And.intro yB (And.intro zP yF);clear yB zP yF yC yI;go_wp2_with fail;refine(VA (A0:Int) sm name n tt ra rc rr wd w6 zJ.o (by have:=HT.o.1;omega) HT.o.2.1 HT.o.2.2).mono ?_;rintro e w7 ⟨rfl,zB⟩;have Z7:Hid (Aa w7 B [XJ (A0:Int),.string sm,.string name,XJ n,.string tt,.slice ra rr.length rc]):=Z6.o.below zB;have R7:Hid (Aa w7 w.heap.size [XK,XM,XM,XK,XM,XN]):=R6.o.below zB
 have O7:Hid (w7.ownsRow (w.heap.size+1) 9 1 (.slice ra rr.length rc) rr.length (rr.map Value.string)):=O6.o.kept (Ax none zB) (Classical.em _);have B7:Hid _:=B6.o.trans (zB.mono B6.o.size);have S7:Hid _:=Ae.below' zJ.o zB;clear Z6 R6 O6 B6 zJ zB z0 z1 z2 z3 z4 z5;obtain⟨z0,z1,z2,z3,z4,z5⟩:=Aa.c6 Z7.o 0 1 2 3 4 5;cases hok:Cs (A0:Int) sm name n tt rr wd with
 |false=>
  have hE:Hid (AA s wd=Gn):=by show _=_;rw[zA.o.2.2.2.2.2.2,if_neg (by rw[hok];simp)]
  obtain⟨r0,q0⟩:=R7.o 0 _ rfl;obtain⟨r1,q1⟩:=R7.o 1 _ rfl;obtain⟨r2,q2⟩:=R7.o 2 _ rfl;obtain⟨r3,q3⟩:=R7.o 3 _ rfl;obtain⟨r4,q4⟩:=R7.o 4 _ rfl;obtain⟨r5,q5⟩:=R7.o 5 _ rfl;clear z0 z1 z2 z3 z4 z5 hok;go_wp2;refine bodyPost_ret (v:=.tuple #[.agg #[XK,XM,XM,XK,XM,XN],.bool false]) (by simp[results,results41,go_sem, *]) rfl ?_;refine Gp hE.o ?_
  iterate 6 (refine Below.setCell ?_ (show w.heap.size<=w.heap.size from XB) _)
  exact B7.o
 |true=>
  have zT:Hid _:=hok;clear hok;go_wp2_with fail;refine(VM (A0:Int) sm name n tt ra rc rr wd w7 S7.o (by have:=HT.o.1;omega) HT.o.2.1 HT.o.2.2).mono ?_;rintro e w8 ⟨rfl,zF⟩;have Z8:=Z7.o.below zF;have R8:=R7.o.below zF;have O8:=O7.o.kept (Ax none zF) (Classical.em _);have B8:=B7.o.trans (zF.mono B7.o.size);clear z0 z1 z2 z3 z4 z5;obtain⟨z0,z1,z2,z3,z4,z5⟩:=Aa.c6 Z8 0 1 2 3 4 5
  obtain⟨r0,q0⟩:=R8 0 _ rfl;obtain⟨r1,q1⟩:=R8 1 _ rfl;obtain⟨r2,q2⟩:=R8 2 _ rfl;obtain⟨r3,q3⟩:=R8 3 _ rfl;obtain⟨r4,q4⟩:=R8 4 _ rfl;obtain⟨r5,q5⟩:=R8 5 _ rfl;have HC:Hid _:=And.intro O8 B8;clear Z8 R8 O8 B8 zF;obtain⟨tx,zC⟩:∃tx,tx=DE (A0:Int) sm name n tt rr wd:=⟨_,rfl⟩;rw[←zC];by_cases heq:tx=s
  ·have hE:Hid (AA s wd=⟨A0,sm,name,n,tt,rr,true⟩):=by show _=_;rw[zA.o.2.2.2.2.2.2,if_pos (by rw[zT.o,←zC,heq];simp)]
   subst heq;clear zC;go_wp2;refine bodyPost_ret (v:=.tuple #[.agg #[XJ (A0:Int),.string sm,.string name,XJ n,.string tt,.slice ra rr.length rc],.bool true]) (by simp[results,results41,go_sem, *]) rfl ?_;unfold CA;rw[hE.o];have zS:w.heap.size<w.heap.size+1:=Nat.lt_succ_self _;refine⟨_,rfl,?_,?_⟩
   ·refine World.ownsRow.mono ?_ (Nat.le_of_lt zS)
    iterate 6 (refine ownsRow_setCell_below ?_ zS _)
    exact HC.o.1
   ·iterate 6 (refine Below.setCell ?_ (show w.heap.size<=w.heap.size from XB) _)
    exact HC.o.2
  ·have hE:Hid (AA s wd=Gn):=by show _=_;rw[zA.o.2.2.2.2.2.2,if_neg (by rw[zT.o,←zC];simpa using heq)]
   have yM:(tx.toList==s.toList)=false:=by
    rw[beq_eq_false_iff_ne];intro h;rw[ByteArray.toList_eq,ByteArray.toList_eq] at h;exact heq (ByteArray.ext (Array.toList_inj.1 h))
   have yK:(tx.toList !=s.toList)=true:=by rw[bne,yM];rfl
   clear zC heq;go_wp2;refine bodyPost_ret (v:=.tuple #[.agg #[XK,XM,XM,XK,XM,XN],.bool false]) (by simp[results,results41,go_sem, *]) rfl ?_;refine Gp hE.o ?_
   iterate 6 (refine Below.setCell ?_ (show w.heap.size<=w.heap.size from XB) _)
   exact HC.o.2
theorem PT (s:ByteArray) (wd:Int) (w:World) (hs:s.size<=1048576):
 Calls prog 41 #[.string s,XJ wd] w (CA s wd w):=by
 by_cases hw:1<=wd/\wd<=8
 ·obtain⟨h1,h2⟩:=hw
  by_cases h6:s.size<6
  ·exact PQ s wd w h1 h2 h6
  ·obtain⟨l,rfl⟩:∃l,s=Az l:=⟨s.data.toList,rfl⟩
   rw[Bz] at hs h6
   match l,hs,h6 with
   |a0::a1::a2::a3::a4::a5::T,hs,h6=>
    have zA:(Az (a0::a1::a2::a3::a4::a5::T)).size=T.length+6:=by rw[Bz];rfl
    by_cases hT:a5.toNat<=T.length
    ·refine PS _ wd a0.toNat a1.toNat a2.toNat a3.toNat a4.toNat a5.toNat w (by rw[Bz];exact hs) h1 h2 (by omega) rfl rfl rfl rfl rfl rfl (by omega) (Az (T.take a5.toNat)) (Az (T.drop a5.toNat)) ?_ ?_ (Ct [a1,a2,a3,a4]) (Uk a1 a2 a3 a4).symm _ _ _ rfl rfl rfl ?_
     ·rw[Gm,show 6+a5.toNat -6=a5.toNat by omega]
      rfl
     ·rw[zA,Gm]
      congr 2;rw[show 6+a5.toNat=a5.toNat+6 by omega];show(T.drop a5.toNat).take _=_;exact XF (by simp)
     ·exact Lu a0 a1 a2 a3 a4 a5 T h1 h2 hT
    ·exact PR _ wd w (by rw[Bz];exact hs) h1 h2 a5.toNat (by omega) rfl (Nk h1 h2 (by omega)) (by omega)
   |[],_,h6=>simp at h6
   |[_],_,h6=>simp at h6
   |[_,_],_,h6=>simp at h6
   |[_,_,_],_,h6=>simp at h6
   |[_,_,_,_],_,h6=>simp at h6
   |[_,_,_,_,_],_,h6=>simp at h6
 ·exact PP s wd w hw
theorem IA {s:ByteArray} {wd:Int} (h:(AA s wd).ok=true):Cs (AA s wd).k (AA s wd).sum (AA s wd).name (AA s wd).n (AA s wd).t (AA s wd).ss wd=true/\DE (AA s wd).k (AA s wd).sum (AA s wd).name (AA s wd).n (AA s wd).t (AA s wd).ss wd=s:=by
 by_cases hw:1<=wd/\wd<=8
 ·obtain⟨h1,h2⟩:=hw
  obtain⟨l,rfl⟩:∃l,s=Az l:=⟨s.data.toList,rfl⟩;by_cases h6:l.length<6
  ·rw[Lw h1 h2 h6] at h
   cases h
  ·match l,h6,h with
   |a0::a1::a2::a3::a4::a5::T,h6,h=>
    by_cases hT:a5.toNat<=T.length
    ·rw[Lu a0 a1 a2 a3 a4 a5 T h1 h2 hT] at h ⊢
     split at h
     case isTrue hc=>
      rw[if_pos hc];unfold Ni at hc;rw[Bool.and_eq_true,decide_eq_true_eq] at hc;exact hc
     case isFalse hc=>cases h
    ·rw[Nk h1 h2 (by omega)] at h
     cases h
   |[],h6,_=>simp at h6
   |[_],h6,_=>simp at h6
   |[_,_],h6,_=>simp at h6
   |[_,_,_],h6,_=>simp at h6
   |[_,_,_,_],h6,_=>simp at h6
   |[_,_,_,_,_],h6,_=>simp at h6
 ·rw[Lv hw] at h
  cases h
section
section
variable {wd now given births:Int} {ks:List Kd} {ps:List Pd} {ls:List Ld} {kd:Int} {s nm:ByteArray} {num:Int} {text:ByteArray} {refs:List ByteArray}
theorem Cg.det {k1 k2:List Kd} {b1 b2:Int} (h1:Cg wd births ks text refs k1 b1) (h2:Cg wd births ks text refs k2 b2):k1=k2/\b1=b2:=by
 rcases h1 with⟨k,hk,hs,_,rfl,rfl⟩|⟨zA,_,_,rfl,rfl⟩<;>rcases h2 with⟨k',hk',hs',_,rfl,rfl⟩|⟨hno',_,_,rfl,rfl⟩
 ·exact⟨rfl,rfl⟩
 ·exact absurd ⟨k,hk,hs⟩ hno'
 ·exact absurd ⟨k',hk',hs'⟩ zA
 ·exact⟨rfl,rfl⟩
theorem Hd.not (zG:(ks.map (·.sum)).Nodup) {c:Int} {a b:ByteArray} (h1:Hd wd given births ks ls text refs c a b) {k1:List Kd} {b1:Int} (h2:Cg wd births ks text refs k1 b1) (zC:∀r∈refs,Au ks r) (hl:ls.length<200) (hg:given<1000000000):False:=by
 rcases h1 with⟨hn,_⟩|⟨_,⟨k,hk,hs,hf,_⟩|⟨zE,zA,_⟩|⟨_,zA,_⟩⟩
 ·exact hn zC
 ·rcases h2 with⟨k',zB,zF,zH,_⟩|⟨zE,_⟩
  ·have:=Jj zG hk zB (hs.trans zF.symm)
   subst this;exact hf zH
  ·exact zE ⟨k,hk,hs⟩
 ·rcases h2 with⟨k',zB,zF,_⟩|⟨_,h3,h4,_⟩
  ·exact zE ⟨k',zB,zF⟩
  ·omega
 ·omega
theorem Hl.det {r r':Rs} (h1:Hl wd now given births ks ps ls kd s nm num text refs r) (h2:Hl wd now given births ks ps ls kd s nm num text refs r'):r=r':=by
 rcases h1 with⟨k1,_,_,_,zA,b1,y1,rfl⟩|⟨k1,_,_,rfl⟩|⟨k1,_,rfl⟩|⟨k1,_,_,_,rfl⟩|⟨k1,_,rfl⟩|⟨k1,_,rfl⟩|⟨k1,_,_,rfl⟩<;>rcases h2 with⟨k2,_,_,_,ks2,b2,y2,rfl⟩|⟨k2,_,_,rfl⟩|⟨k2,_,rfl⟩|⟨k2,_,_,_,rfl⟩|⟨k2,_,rfl⟩|⟨k2,_,rfl⟩|⟨k2,_,_,rfl⟩<;>first|rfl|omega|(obtain⟨rfl,rfl⟩:=y1.det y2;rfl)
theorem Lp.not (zB:(ks.map (·.sum)).Nodup) {c:Int} {a b:ByteArray} {r:Rs} (h1:Lp wd now given births ks ps ls kd s nm num text refs c a b) (h2:Hl wd now given births ks ps ls kd s nm num text refs r):False:=by
 rcases h2 with⟨k2,zA,hl,hg,zC,b2,y2,_⟩|⟨k2,g1,g2,_⟩|⟨k2,g1,_⟩|⟨k2,g1,g2,g3,_⟩|⟨k2,g1,_⟩|⟨k2,g1,_⟩|⟨k2,g1,g2,_⟩<;>rcases h1 with⟨k1,h1⟩|⟨_,_,⟨k1,⟨h1,_⟩|⟨h1,x1,z1,_⟩⟩|⟨k1,h1,_⟩|⟨k1,⟨h1,_⟩|⟨h1,x1,_⟩⟩|⟨k1,h1,_⟩|⟨k1,h1,_⟩|⟨k1,⟨h1,_⟩|⟨h1,x1,_⟩⟩⟩<;>first|omega|exact absurd g1 h1|exact absurd x1 g2|exact h1.not zB y2 zA hl hg|(rcases g2 with g2|g2;exact x1 g2;omega)
end
end
section
attribute [local go_sem↓] Go.wp_at_zero Go.wp_at_succ
theorem PU (k:Kd) (a a':Option Addr) (cap zB:Nat) (w:World) (zC:Ae w w.heap.size a k.refs) (zA:Ae w w.heap.size a' k.refs) (hl:k.refs.length<=1048576):
 Calls prog 140 #[.agg #[.string k.sum,XJ k.born,.string k.text,.slice a k.refs.length cap],.agg #[.string k.sum,XJ k.born,.string k.text,.slice a' k.refs.length zB]] w fun e w'=>e=.returned (.bool true)/\Xz w w':=by
 have hb:∀o1 o2,Xz w ((w.alloc o1).alloc o2):=fun o1 o2=>(XA).alloc (by simp) _;go_enter func140,ntmps140;go_wp2_with fail;refine(Ns k.text a a' cap zB k.refs _ (zC.below' (hb _ _)) (zA.below' (hb _ _)) hl).mono ?_;rintro e w1 ⟨rfl,zE⟩;go_wp2;go_ret;exact⟨rfl,(hb _ _).trans (zE.mono (by simp;omega))⟩
theorem RT (p:Pd) (w:World):
 Calls prog 141 #[.agg #[.string p.name,.string p.sum],.agg #[.string p.name,.string p.sum]] w fun e w'=>e=.returned (.bool true)/\Xz w w':=by
 go_enter func141,ntmps141;go_wp2;go_ret;exact⟨rfl,(XA).alloc (by simp) _⟩
theorem NY (p:Ld) (w:World):
 Calls prog 142 #[.agg #[XJ p.num,.string p.sum,XJ p.til],.agg #[XJ p.num,.string p.sum,XJ p.til]] w fun e w'=>e=.returned (.bool true)/\Xz w w':=by
 go_enter func142,ntmps142;go_wp2;go_ret;exact⟨rfl,(XA).alloc (by simp) _⟩
theorem PV (a a':Option Addr) (cap zE:Nat) (ps:List Pd) (w:World) (zC:AQ w w.heap.size a ps) (zB:AQ w w.heap.size a' ps) (hl:ps.length<=1048576):
 Calls prog 100 #[.slice a ps.length cap,.slice a' ps.length zE] w fun e w'=>e=.returned (.bool true)/\Xz w w':=by
 go_enter func100,ntmps100;go_wp2
 go_loopw [5] (fun i wr=>∃k:Nat,k<=ps.length/\i=XJ k/\Xz w wr) (fun i _=>ps.length -(intOf i).toNat)
 case atStart=>exact⟨0,Nat.zero_le _,rfl,Below.refl _ _⟩
 case round=>
  obtain⟨k,hk,rfl,zA⟩:=hrel;by_cases hlt:k<ps.length
  ·obtain⟨b,off,ha,hb,hc⟩:=(zC.below zA).at hlt
   obtain⟨b',zI,zH,zJ,zF⟩:=(zB.below zA).at hlt;subst ha zH;obtain⟨c0,c1⟩:=hc k _ (XD hlt);obtain⟨d0,d1⟩:=zF k _ (XD hlt);clear hc zF zC zB;generalize ps[k]=x at *
   go_wp2;go_region_with (go_at_call 141;refine(RT x _).mono ?_;rintro e w1 ⟨rfl,zG⟩)
   all_goals
    have hB:=zA.drew.trans (zG.mono zA.size);go_wp2;exact⟨⟨k+1,by omega,by go_num,hB⟩,by simp[intOf];omega⟩
  ·go_wp2
   go_ret;exact⟨rfl,zA⟩
theorem Nl (a a':Option Addr) (cap zE:Nat) (ls:List Ld) (w:World) (zC:AR w w.heap.size a ls) (zB:AR w w.heap.size a' ls) (hl:ls.length<=1048576):
 Calls prog 101 #[.slice a ls.length cap,.slice a' ls.length zE] w fun e w'=>e=.returned (.bool true)/\Xz w w':=by
 go_enter func101,ntmps101;go_wp2
 go_loopw [5] (fun i wr=>∃k:Nat,k<=ls.length/\i=XJ k/\Xz w wr) (fun i _=>ls.length -(intOf i).toNat)
 case atStart=>exact⟨0,Nat.zero_le _,rfl,Below.refl _ _⟩
 case round=>
  obtain⟨k,hk,rfl,zA⟩:=hrel;by_cases hlt:k<ls.length
  ·obtain⟨b,off,ha,hb,hc⟩:=(zC.below zA).at hlt
   obtain⟨b',zI,zH,zJ,zF⟩:=(zB.below zA).at hlt;subst ha zH;obtain⟨c0,c1,c2⟩:=hc k _ (XD hlt);obtain⟨d0,d1,d2⟩:=zF k _ (XD hlt);clear hc zF zC zB;generalize ls[k]=x at *
   go_wp2;go_region_with (go_at_call 142;refine(NY x _).mono ?_;rintro e w1 ⟨rfl,zG⟩)
   all_goals
    have hB:=zA.drew.trans (zG.mono zA.size);go_wp2;exact⟨⟨k+1,by omega,by go_num,hB⟩,by simp[intOf];omega⟩
  ·go_wp2
   go_ret;exact⟨rfl,zA⟩
theorem NZ (a a':Option Addr) (cap zF:Nat) (ks:List Kd) (w:World) (zC:Bx w w.heap.size a ks) (zB:Bx w w.heap.size a' ks) (hl:ks.length<=1048576) (zH:∀k∈ks,k.refs.length<=1048576):
 Calls prog 99 #[.slice a ks.length cap,.slice a' ks.length zF] w fun e w'=>e=.returned (.bool true)/\Xz w w':=by
 go_enter func99,ntmps99;go_wp2
 go_loopw [5] (fun i wr=>∃k:Nat,k<=ks.length/\i=XJ k/\Xz w wr) (fun i _=>ks.length -(intOf i).toNat)
 case atStart=>exact⟨0,Nat.zero_le _,rfl,Below.refl _ _⟩
 case round=>
  obtain⟨k,hk,rfl,zA⟩:=hrel;by_cases hlt:k<ks.length
  ·obtain⟨b,off,ha,hb,hc⟩:=(zC.below zA).at hlt
   obtain⟨b',zO,zK,zR,zG⟩:=(zB.below zA).at hlt;subst ha zK;obtain⟨c0,c1,c2,ra,rc,c3,hr⟩:=hc k _ (XD hlt);obtain⟨d0,d1,d2,zP,zM,d3,zI⟩:=zG k _ (XD hlt);have zN:=zH _ (List.getElem_mem hlt);clear hc zG zC zB zH;generalize ks[k]=x at *
   have zE:=PU x ra zP rc zM wr.drew (hr.mono zA.size) (zI.mono zA.size) zN;have HC:Hid _:=zE;clear zE hr zI;go_wp2;go_region_with (go_at_call 140;refine Calls.mono HC.o ?_;rintro e w1 ⟨rfl,zJ⟩)
   all_goals
    have hB:=zA.drew.trans (zJ.mono zA.size);go_wp2;exact⟨⟨k+1,by omega,by go_num,hB⟩,by simp[intOf];omega⟩
  ·go_wp2
   go_ret;exact⟨rfl,zA⟩
theorem Oa (wd now given births:Int) (a p l a' p' l':Option Addr) (ac pc lc zF zJ zI:Nat) (ks:List Kd) (ps:List Pd) (ls:List Ld) (w:World) (zB:Bt w w.heap.size a p l ks ps ls) (zA:Bt w w.heap.size a' p' l' ks ps ls) (hf:Pb ks ps ls):
 Calls prog 48 #[.agg #[XJ wd,XJ now,XJ given,XJ births,.slice a ks.length ac,.slice p ps.length pc,.slice l ls.length lc],.agg #[XJ wd,XJ now,XJ given,XJ births,.slice a' ks.length zF,.slice p' ps.length zJ,.slice l' ls.length zI]] w fun e w'=>e=.returned (.bool true)/\Xz w w':=by
 have zK:∀o1 o2,Xz w ((w.alloc o1).alloc o2):=fun o1 o2=>(XA).alloc (by simp) _;have hx:=AT.below (AT.new w wd now given births (.slice a ks.length ac) (.slice p ps.length pc) (.slice l ls.length lc) 28) ((Below.refl _ _).alloc (XB) (.cells #[XJ wd,XJ now,XJ given,XJ births,.slice a' ks.length zF,.slice p' ps.length zJ,.slice l' ls.length zI] 28))
 have hy:=AT.new (w.alloc (.cells #[XJ wd,XJ now,XJ given,XJ births,.slice a ks.length ac,.slice p ps.length pc,.slice l ls.length lc] 28)) wd now given births (.slice a' ks.length zF) (.slice p' ps.length zJ) (.slice l' ls.length zI) 28;go_enter func48,ntmps48;go_wp2_with fail;refine(NZ a a' ac zF ks _ (zB.below' (zK _ _)).k (zA.below' (zK _ _)).k hf.k hf.r).mono ?_;rintro e w1 ⟨rfl,zE⟩
 have zH:=(zK _ _).trans (zE.mono (by simp;omega));obtain⟨_,_,_,_,_,x5,x6,x7⟩:=hx.below zE;obtain⟨_,_,_,_,_,y5,y6,y7⟩:=hy.below zE;simp[go_sem] at y5 y6 y7;clear zE hx hy;go_wp2_with fail;refine(PV p p' pc zJ ps _ (zB.below' zH).p (zA.below' zH).p hf.p).mono ?_;rintro e w2 ⟨rfl,zC⟩;have zG:=zH.trans (zC.mono zH.size);replace x6:=(zC.cell (p:=⟨w.heap.size,6,none⟩) x7).trans x6
 replace y6:=(zC.cell (p:=⟨w.heap.size+1,6,none⟩) y7).trans y6;have z2:=zC.size;clear zC x5 y5;go_wp2_with fail;refine(Nl l l' lc zI ls _ (zB.below' zG).l (zA.below' zG).l hf.l).mono ?_;rintro e w3 ⟨rfl,zM⟩;go_wp2;go_ret;exact⟨rfl,zG.trans (zM.mono zG.size)⟩
end
theorem AT.same' {w w':World} {b:Nat} {wd now given births:Int} {T P L:Value} (h:AT w b wd now given births T P L) (hb:w'.heap[b]?=w.heap[b]?) (hl:b<w'.heap.size):AT w' b wd now given births T P L:=by
 obtain⟨h0,h1,h2,h3,h4,h5,h6,h7⟩:=h;have c:=fun j=>World.cell?_of_block (a:=⟨b,j,none⟩) hb;exact⟨(c 0).trans h0,(c 1).trans h1,(c 2).trans h2,(c 3).trans h3,(c 4).trans h4,(c 5).trans h5,(c 6).trans h6,hl⟩
theorem RU (base k:Nat) (T:Value) (rs:List Value) (ks:List Kd) (w:World) (h:Fe w base T rs ks) (hk:1<=k) (zA:k+ks.length *3+AC ks<=100000000):
 Calls prog 102 #[T,XJ k] w fun e w'=>e=.returned (XJ (k+ks.length *3+AC ks:Nat))/\Fe w' base T rs (BN k ks)/\Tn (T.ownBlock.toList++rs.filterMap Value.ownBlock) w w':=by
 have h':=h;rcases h.things.2 with⟨rfl,hn⟩|⟨g,cap,zB,rfl,_⟩
 ·obtain rfl:=List.length_eq_zero_iff.1 hn
  refine(Kv none 0 k w).mono ?_;rintro e w' ⟨rfl,rfl⟩;exact⟨by simp[AC],h',Tn.of (Below.refl _ _)⟩
 ·exact QX base g cap k rs ks w h' hk zA
theorem RV (base k:Nat) (T:Value) (rs:List Value) (ks:List Kd) (w:World) (h:Fe w base T rs (BN k ks)) (hk:1<=k) (zA:k+ks.length *3+AC ks<=100000000):
 Calls prog 105 #[T,XJ k] w fun e w'=>e=.returned (XJ (k+ks.length *3+AC ks:Nat))/\Xz w w':=by
 have h':=h;rcases h.things.2 with⟨rfl,hn⟩|⟨g,cap,zB,rfl,_⟩
 ·rw[BD] at hn
  obtain rfl:=List.length_eq_zero_iff.1 hn;refine(Kw none 0 k w).mono ?_;rintro e w' ⟨rfl,rfl⟩;exact⟨by simp[AC],Below.refl _ _⟩
 ·rw[BD] at h' ⊢
  exact QZ base g cap k rs ks w h' hk zA
theorem TD (base k:Nat) (P:Value) (ps:List Pd) (w:World) (h:w.ownsRow base 134 2 P ps.length (Ab pC ps)) (hk:1<=k) (zA:k+ps.length *2<=100000000):
 Calls prog 103 #[P,XJ k] w fun e w'=>e=.returned (XJ (k+ps.length *2:Nat))/\w'.ownsRow base 134 2 P ps.length (Ab pC (Dv k ps))/\Tn P.ownBlock.toList w w':=by
 have h':=h;rcases h.2 with⟨rfl,hn⟩|⟨g,cap,zB,rfl,_⟩
 ·obtain rfl:=List.length_eq_zero_iff.1 hn
  refine(LI none 0 k w).mono ?_;rintro e w' ⟨rfl,rfl⟩;exact⟨by simp,h',Tn.of (Below.refl _ _)⟩
 ·refine(SQ base g cap k ps w h' hk zA).mono ?_
  rintro e w' ⟨rfl,h1,h2⟩;exact⟨rfl,h1,Tn.grown h2 (by simp[Value.ownBlock])⟩
theorem TE (base k:Nat) (P:Value) (ps:List Pd) (w:World) (h:w.ownsRow base 134 2 P ps.length (Ab pC (Dv k ps))) (hk:1<=k) (zA:k+ps.length *2<=100000000):
 Calls prog 106 #[P,XJ k] w fun e w'=>e=.returned (XJ (k+ps.length *2:Nat))/\Xz w w':=by
 have h':=h;rcases h.2 with⟨rfl,hn⟩|⟨g,cap,zB,rfl,_⟩
 ·obtain rfl:=List.length_eq_zero_iff.1 hn
  refine(LJ none 0 k w).mono ?_;rintro e w' ⟨rfl,rfl⟩;exact⟨by simp,Below.refl _ _⟩
 ·exact SR base g cap k ps w h' hk zA
theorem PW (base k:Nat) (P:Value) (ps:List Ld) (w:World) (h:w.ownsRow base 137 3 P ps.length (Ab lC ps)) (hk:1<=k) (zA:k+ps.length *3<=100000000):
 Calls prog 104 #[P,XJ k] w fun e w'=>e=.returned (XJ (k+ps.length *3:Nat))/\w'.ownsRow base 137 3 P ps.length (Ab lC (Dw k ps))/\Tn P.ownBlock.toList w w':=by
 have h':=h;rcases h.2 with⟨rfl,hn⟩|⟨g,cap,zB,rfl,_⟩
 ·obtain rfl:=List.length_eq_zero_iff.1 hn
  refine(JQ none 0 k w).mono ?_;rintro e w' ⟨rfl,rfl⟩;exact⟨by simp,h',Tn.of (Below.refl _ _)⟩
 ·refine(Ps base g cap k ps w h' hk zA).mono ?_
  rintro e w' ⟨rfl,h1,h2⟩;exact⟨rfl,h1,Tn.grown h2 (by simp[Value.ownBlock])⟩
theorem PX (base k:Nat) (P:Value) (ps:List Ld) (w:World) (h:w.ownsRow base 137 3 P ps.length (Ab lC (Dw k ps))) (hk:1<=k) (zA:k+ps.length *3<=100000000):
 Calls prog 107 #[P,XJ k] w fun e w'=>e=.returned (XJ (k+ps.length *3:Nat))/\Xz w w':=by
 have h':=h;rcases h.2 with⟨rfl,hn⟩|⟨g,cap,zB,rfl,_⟩
 ·obtain rfl:=List.length_eq_zero_iff.1 hn
  refine(JR none 0 k w).mono ?_;rintro e w' ⟨rfl,rfl⟩;exact⟨by simp,Below.refl _ _⟩
 ·exact Pt base g cap k ps w h' hk zA
def Cv (ks:List Kd) (ps:List Pd) (ls:List Ld):Nat:=ks.length *3+AC ks+ps.length *2+ls.length *3
theorem AY.kans {w:World} {base:Nat} {T P L:Value} {rs:List Value} {ks:List Kd} {ps:List Pd} {ls:List Ld} (h:AY w base T P L rs ks ps ls):Fe w base T rs ks:=by
 refine⟨h.len,h.things,h.refs,?_⟩;have:=h.nd;rw[Fc] at this;unfold Bn at this;generalize T.ownBlock=t at *
 generalize P.ownBlock=p at *
 generalize L.ownBlock=l at *
 cases t<;>cases p<;>cases l<;>simp_all<;>grind
theorem Fe.same {w w':World} {base:Nat} {T:Value} {rs:List Value} {ks:List Kd} (h:Fe w base T rs ks) (hs:∀b,b<w.heap.size->b∈T.ownBlock.toList++rs.filterMap Value.ownBlock->w'.heap[b]?=w.heap[b]?):Fe w' base T rs ks:=
 ⟨h.len,Ah h.things (fun b hb=>hs b (Ac h.things hb).2 (by simp[hb])),fun i k r hk hr=>Ah (h.refs i k r hk hr) (fun b hb=>hs b (Ac (h.refs i k r hk hr) hb).2 (List.mem_append_right _ (List.mem_filterMap.2 ⟨r,XG hr,hb⟩))),h.nd⟩
theorem WY {T P L:Option Nat} {R:List Nat} (h:(T.toList++(P.toList++(L.toList++R))).Nodup):(∀b∈T.toList++R,b∉P.toList/\b∉L.toList)/\(∀b∈P.toList,b∉T.toList++R/\b∉L.toList)/\(∀b∈L.toList,b∉T.toList++R/\b∉P.toList):=by
 cases T<;>cases P<;>cases L<;>simp_all<;>grind
theorem PY (wd now given births:Int) (base k:Nat) (T P L:Value) (rs:List Value) (ks:List Kd) (ps:List Pd) (ls:List Ld) (w:World) (h:AY w base T P L rs ks ps ls) (hk:1<=k) (zB:k+Cv ks ps ls<=100000000):
 Calls prog 50 #[.agg #[XJ wd,XJ now,XJ given,XJ births,T,P,L],XJ k] w fun e w'=>e=.returned (XJ (k+Cv ks ps ls:Nat))/\AY w' base T P L rs (BN k ks) (Dv (k+ks.length *3+AC ks) ps) (Dw (k+ks.length *3+AC ks+ps.length *2) ls)/\Tn (Bn T P L rs) w w':=by
 have zC:=h.nd;rw[Fc] at zC;obtain⟨n1,n2,n3⟩:=WY zC;have zA:Below w.heap.size w (w.alloc (.cells #[XJ wd,XJ now,XJ given,XJ births,T,P,L] 28)):=XA;have hx:=AT.new w wd now given births T P L 28;obtain⟨W,hW⟩:∃W,W=w.alloc (.cells #[XJ wd,XJ now,XJ given,XJ births,T,P,L] 28):=⟨_,rfl⟩;rw[←hW] at zA hx;have zE:∀b∈Bn T P L rs,b<w.heap.size:=by
  intro b hb;unfold Bn at hb;simp only[List.mem_append,Option.mem_toList,List.mem_filterMap] at hb;rcases hb with hb|hb|hb|⟨r,hr,hb⟩
  ·exact(Ac h.things hb).2
  ·exact(Ac h.pins hb).2
  ·exact(Ac h.leases hb).2
  ·obtain⟨i,hi⟩:=List.getElem?_of_mem hr
   have zS:=(XC hi).1;have hl:=h.len;exact(Ac (h.refs i ks[i] r (XD (by omega)) hi) hb).2
 obtain⟨ta,tc,rfl⟩:=Ay h.things;obtain⟨pa,pc,rfl⟩:=Ay h.pins;obtain⟨la,lc,rfl⟩:=Ay h.leases;have HA:Hid _:=h;have HL:Hid _:=And.intro zE (And.intro n1 (And.intro n2 n3));have HW:Hid _:=hW;have HX:Hid _:=hx;have zO:w.heap.size<W.heap.size:=hx.2.2.2.2.2.2.2;have zK:k+ks.length *3+AC ks<=100000000:=by unfold Cv at zB;omega
 have zJ:k+ks.length *3+AC ks+ps.length *2<=100000000:=by unfold Cv at zB;omega
 have zR:k+ks.length *3+AC ks+ps.length *2+ls.length *3<=100000000:=by unfold Cv at zB;omega
 obtain⟨x0,x1,x2,x3,x4,x5,x6,x7⟩:=hx;clear h zE n1 n2 n3 hW zC x0 x1 x2 x3 zB;go_enter func50,ntmps50;go_upto_region 1 with fail;rw[←HW.o];clear HW;have K0:Fe W base (.slice ta ks.length tc) rs ks:=Fe.same HA.o.kans (fun b hb _=>zA.block b hb);go_wp2_with fail;refine(RU base k _ rs ks W K0 hk zK).mono ?_;rintro e w1 ⟨rfl,k1,t1⟩
 have zG:∀b∈(Value.slice ta ks.length tc).ownBlock.toList++rs.filterMap Value.ownBlock,b∈Bn (.slice ta ks.length tc) (.slice pa ps.length pc) (.slice la ls.length lc) rs:=fun b hb=>by
  unfold Bn;rcases List.mem_append.1 hb with hb|hb
  ·exact List.mem_append_left _ hb
  ·exact List.mem_append_right _ (List.mem_append_right _ (List.mem_append_right _ hb))
 have zF:∀{V:List Nat} {X Y:World},Tn V X Y->(∀b∈V,b∈Bn (.slice ta ks.length tc) (.slice pa ps.length pc) (.slice la ls.length lc) rs)->W.heap.size<=X.heap.size->AT X w.heap.size wd now given births (.slice ta ks.length tc) (.slice pa ps.length pc) (.slice la ls.length lc)->AT Y w.heap.size wd now given births (.slice ta ks.length tc) (.slice pa ps.length pc) (.slice la ls.length lc):=fun ht hV hz hx=>hx.same' (ht.block _ (by omega) (fun e=>by have:=HL.o.1 _ (hV _ e);omega)) (XH (XH zO hz) ht.size)
 have X1:=zF t1 zG (XB) HX.o;have zN:=X1;obtain⟨_,_,_,_,_,y5,y6,_⟩:=zN;have p1:w1.ownsRow base 134 2 (.slice pa ps.length pc) ps.length (Ab pC ps):=Ah (Ad HA.o.pins zA) (fun b hb=>t1.block b (XH (Ac HA.o.pins hb).2 zA.size) (HL.o.2.2.1 b (by simp[hb])).1);have H1:Hid _:=And.intro k1 (And.intro t1 X1);clear k1 t1 x4 x5 x6 K0 X1;go_wp2_with fail
 refine(TD base (k+ks.length *3+AC ks) _ ps w1 p1 (by omega) zJ).mono ?_;rintro e w2 ⟨rfl,p2,t2⟩;have zH:∀b∈(Value.slice pa ps.length pc).ownBlock.toList,b∈Bn (.slice ta ks.length tc) (.slice pa ps.length pc) (.slice la ls.length lc) rs:=fun b hb=>by
  unfold Bn;exact List.mem_append_right _ (List.mem_append_left _ hb)
 have X2:=zF t2 zH H1.o.2.1.size H1.o.2.2;have zM:=X2;obtain⟨_,_,_,_,_,_,z6,_⟩:=zM;have l2:w2.ownsRow base 137 3 (.slice la ls.length lc) ls.length (Ab lC ls):=Ah (Ah (Ad HA.o.leases zA) (fun b hb=>H1.o.2.1.block b (XH (Ac HA.o.leases hb).2 zA.size) (HL.o.2.2.2 b (by simp[hb])).1)) (fun b hb=>t2.block b (XH (XH (Ac HA.o.leases hb).2 zA.size) H1.o.2.1.size) (HL.o.2.2.2 b (by simp[hb])).2)
 have H2:Hid _:=And.intro p2 (And.intro t2 X2);clear p2 t2 p1 y5 y6 X2;go_wp2_with fail;refine(PW base (k+ks.length *3+AC ks+ps.length *2) _ ls w2 l2 (by omega) zR).mono ?_;rintro e w3 ⟨rfl,l3,t3⟩;have zP:∀b∈(Value.slice la ls.length lc).ownBlock.toList,b∈Bn (.slice ta ks.length tc) (.slice pa ps.length pc) (.slice la ls.length lc) rs:=fun b hb=>by
  unfold Bn;exact List.mem_append_right _ (List.mem_append_right _ (List.mem_append_left _ hb))
 have H3:Hid _:=And.intro l3 t3;clear l3 t3 l2 z6;go_wp2;go_ret;obtain⟨k1,t1,_⟩:=H1.o;obtain⟨p2,t2,_⟩:=H2.o;obtain⟨l3,t3⟩:=H3.o;have zT:=t1.size;have zI:=t2.size;refine⟨by rw[show k+Cv ks ps ls=k+ks.length *3+AC ks+ps.length *2+ls.length *3 by unfold Cv;omega];rfl,⟨by rw[BD];exact HA.o.len,?_,?_,?_,?_,HA.o.nd⟩,(((Tn.of zA).trans (t1.mono zG)).trans (t2.mono zH)).trans (t3.mono zP)⟩
 ·exact Ah (Ah k1.things (fun b hb=>t2.block b (Ac k1.things hb).2 (HL.o.2.1 b (by simp[hb])).1)) (fun b hb=>t3.block b (XH (Ac k1.things hb).2 zI) (HL.o.2.1 b (by simp[hb])).2)
 ·intro i x r hx hr
  have ho:=k1.refs i x r hx hr;have hm:∀b,r.ownBlock=some b->b∈(Value.slice ta ks.length tc).ownBlock.toList++rs.filterMap Value.ownBlock:=fun b hb=>List.mem_append_right _ (List.mem_filterMap.2 ⟨r,XG hr,hb⟩);exact Ah (Ah ho (fun b hb=>t2.block b (Ac ho hb).2 (HL.o.2.1 b (hm b hb)).1)) (fun b hb=>t3.block b (XH (Ac ho hb).2 zI) (HL.o.2.1 b (hm b hb)).2)
 ·rw[DS]
  exact Ah p2 (fun b hb=>t3.block b (Ac p2 hb).2 (HL.o.2.2.1 b (by simp[hb])).2)
 ·rw[EP]
  exact l3
theorem AY.below {w w':World} {base:Nat} {T P L:Value} {rs:List Value} {ks:List Kd} {ps:List Pd} {ls:List Ld} (h:AY w base T P L rs ks ps ls) (hb:Xz w w'):AY w' base T P L rs ks ps ls:=
 ⟨h.len,Ad h.things hb,fun i k r hk hr=>Ad (h.refs i k r hk hr) hb,Ad h.pins hb,Ad h.leases hb,h.nd⟩
theorem PZ (wd now given births:Int) (base k:Nat) (T P L:Value) (rs:List Value) (ks:List Kd) (ps:List Pd) (ls:List Ld) (w:World) (h:AY w base T P L rs (BN k ks) (Dv (k+ks.length *3+AC ks) ps) (Dw (k+ks.length *3+AC ks+ps.length *2) ls)) (hk:1<=k) (zE:k+Cv ks ps ls<=100000000):
 Calls prog 51 #[.agg #[XJ wd,XJ now,XJ given,XJ births,T,P,L],XJ k] w fun e w'=>e=.returned (XJ (k+Cv ks ps ls:Nat))/\Xz w w':=by
 have zB:Below w.heap.size w (w.alloc (.cells #[XJ wd,XJ now,XJ given,XJ births,T,P,L] 28)):=XA;have hx:=AT.new w wd now given births T P L 28;obtain⟨W,hW⟩:∃W,W=w.alloc (.cells #[XJ wd,XJ now,XJ given,XJ births,T,P,L] 28):=⟨_,rfl⟩;rw[←hW] at zB hx;obtain⟨ta,tc,rfl⟩:=Ay h.things;obtain⟨pa,pc,rfl⟩:=Ay h.pins;obtain⟨la,lc,rfl⟩:=Ay h.leases;have HA:Hid _:=h.below zB;have HW:Hid _:=hW;have HX:Hid _:=hx
 have zG:k+ks.length *3+AC ks<=100000000:=by unfold Cv at zE;omega
 have zF:k+ks.length *3+AC ks+ps.length *2<=100000000:=by unfold Cv at zE;omega
 have zI:k+ks.length *3+AC ks+ps.length *2+ls.length *3<=100000000:=by unfold Cv at zE;omega
 obtain⟨x0,x1,x2,x3,x4,x5,x6,x7⟩:=hx;clear h hW x0 x1 x2 x3 zE;go_enter func51,ntmps51;go_upto_region 1 with fail;rw[←HW.o];clear HW;go_wp2_with fail;refine(RV base k _ rs ks W HA.o.kans hk zG).mono ?_;rintro e w1 ⟨rfl,zA⟩;have X1:=AT.below HX.o zA;obtain⟨_,_,_,_,_,y5,y6,_⟩:=X1;have p1:=Ad HA.o.pins zA;rw[DS] at p1;have e1:¬(((k+ks.length *3+AC ks:Nat):Int)<0):=by omega
 clear x4 x5 x6;rw[DS] at *
 go_wp2_with fail;refine(TE base (k+ks.length *3+AC ks) _ ps w1 p1 (by omega) zF).mono ?_;rintro e w2 ⟨rfl,zC⟩;have X2:=AT.below (AT.below HX.o zA) zC;obtain⟨_,_,_,_,_,_,z6,_⟩:=X2;have l2:=Ad (Ad HA.o.leases zA) zC;rw[EP] at *
 have e2:¬(((k+ks.length *3+AC ks+ps.length *2:Nat):Int)<0):=by omega
 clear y5 y6 p1;go_wp2_with fail;refine(PX base (k+ks.length *3+AC ks+ps.length *2) _ ls w2 l2 (by omega) zI).mono ?_;rintro e w3 ⟨rfl,zH⟩;have e3:¬(((k+ks.length *3+AC ks+ps.length *2+ls.length *3:Nat):Int)<0):=by omega
 clear z6 l2;go_wp2;go_ret;exact⟨by rw[show k+Cv ks ps ls=k+ks.length *3+AC ks+ps.length *2+ls.length *3 by unfold Cv;omega];rfl,((zB.trans (zA.mono zB.size)).trans (zC.mono (XI zB.size zA.size))).trans (zH.mono (XI (XI zB.size zA.size) zC.size))⟩
theorem Qa (w:World) (base:Nat):AY w base XN XN XN [] [] [] []:=
 ⟨rfl,⟨rfl,.inl ⟨rfl,rfl⟩⟩,fun i k r hk=>(by simp at hk),⟨rfl,.inl ⟨rfl,rfl⟩⟩,⟨rfl,.inl ⟨rfl,rfl⟩⟩,List.nodup_nil⟩
structure An where
 code:Int
 wd:Int
 now:Int
 given:Int
 births:Int
 le:Int
 sm:ByteArray
 a:ByteArray
 b:ByteArray
 ks:List Kd
 ps:List Pd
 ls:List Ld
def r0:Rs:=⟨⟨#[]⟩,0,0,0,0,[],[],[]⟩
def Jb (wd:Int) (r:Rs) (x:ByteArray) (r':Rs):Prop:=(AA x wd).ok=true/\Hl wd r.now r.given r.births r.ks r.ps r.ls (AA x wd).k (AA x wd).sum (AA x wd).name (AA x wd).n (AA x wd).t (AA x wd).ss r'
def Wx (wd:Int) (r:Rs) (x:ByteArray):Prop:=(AA x wd).ok=false∨∃c a b,Lp wd r.now r.given r.births r.ks r.ps r.ls (AA x wd).k (AA x wd).sum (AA x wd).name (AA x wd).n (AA x wd).t (AA x wd).ss c a b
def CV (wd:Int):Rs->List ByteArray->Rs->Prop
 |r,[],r'=>r'=r
 |r,x::xs,r'=>∃r1,Jb wd r x r1/\CV wd r1 xs r'
def Ev (wd:Int) (xs:List ByteArray) (n:Nat):Prop:=∃k r x,n=k+1/\xs[k]?=some x/\CV wd r0 (xs.take k) r/\Wx wd r x
def Rs.ok (wd:Int) (r:Rs):Prop:=FK wd r.now r.given r.births r.ks r.ps r.ls
theorem CV.snoc {wd:Int} {x:ByteArray} {r1 r2:Rs} (h2:Jb wd r1 x r2):∀{xs:List ByteArray} {r:Rs},CV wd r xs r1->CV wd r (xs++[x]) r2
 |[],r,h=>by
  obtain rfl:r1=r:=h;exact⟨r2,h2,rfl⟩
 |y::ys,r,h=>by
  obtain⟨r3,h3,h4⟩:=h;exact⟨r3,h3,CV.snoc h2 h4⟩
theorem Jb.det {wd:Int} {r a b:Rs} {x:ByteArray} (h:Jb wd r x a) (k:Jb wd r x b):a=b:=h.2.det k.2
theorem Jb.ok {wd:Int} {r r':Rs} {x:ByteArray} (h:Jb wd r x r') (hr:r.ok wd):r'.ok wd:=FK.step hr (IA h.1).1 h.2
theorem Jb.not {wd:Int} {r r':Rs} {x:ByteArray} (h:Jb wd r x r') (hr:r.ok wd):¬Wx wd r x:=by
 rintro(e|⟨c,a,b,e⟩)
 ·rw[h.1] at e
  cases e
 ·exact e.not hr.kso.nd h.2
theorem CV.det {wd:Int}:∀{xs:List ByteArray} {r a b:Rs},CV wd r xs a->CV wd r xs b->a=b
 |[],r,a,b,h,k=>by
  have h1:=h;have h2:=k;rw[h1,h2]
 |x::xs,r,a,b,h,k=>by
  obtain⟨r1,h1,h2⟩:=h;obtain⟨r2,k1,k2⟩:=k;obtain rfl:=h1.det k1;exact CV.det h2 k2
theorem CV.ok {wd:Int}:∀{xs:List ByteArray} {r r':Rs},CV wd r xs r'->r.ok wd->r'.ok wd
 |[],r,r',h,hr=>by
  obtain rfl:r'=r:=h;exact hr
 |x::xs,r,r',h,hr=>by
  obtain⟨r1,h1,h2⟩:=h;exact CV.ok h2 (h1.ok hr)
theorem CV.at {wd:Int}:∀{xs:List ByteArray} {r r':Rs},CV wd r xs r'->∀{k:Nat} {x:ByteArray},xs[k]?=some x->∃r1 r2,CV wd r (xs.take k) r1/\Jb wd r1 x r2
 |[],r,r',h,k,x,hx=>by simp at hx
 |y::ys,r,r',h,k,x,hx=>by
  obtain⟨r3,h3,h4⟩:=h;cases k with
  |zero=>
   simp at hx;subst hx;exact⟨r,r3,rfl,h3⟩
  |succ k=>
   obtain⟨r1,r2,h5,h6⟩:=CV.at h4 (k:=k) (x:=x) (by simpa using hx);exact⟨r1,r2,⟨r3,h3,h5⟩,h6⟩
theorem Fy {wd:Int} (h1:1<=wd) (h8:wd<=8):r0.ok wd:=FK.zero h1 h8
theorem Ev.not {wd:Int} {xs:List ByteArray} {n:Nat} {r:Rs} (h1:1<=wd) (h8:wd<=8) (h:Ev wd xs n):¬CV wd r0 xs r:=fun hr=>by
 obtain⟨k,r1,x,rfl,hx,h2,h3⟩:=h;obtain⟨r2,r3,h4,h5⟩:=hr.at hx;obtain rfl:=h2.det h4;exact h5.not (h2.ok (Fy h1 h8)) h3
def ON (wd:Int) (xs:List ByteArray) (x:An):Prop:=
 (¬((1<=wd/\wd<=8)/\xs.length<=4000)/\x=⟨1,0,0,0,0,0,⟨#[]⟩,⟨#[]⟩,⟨#[]⟩,[],[],[]⟩)∨
 (((1<=wd/\wd<=8)/\xs.length<=4000)/\(
   (∃n:Nat,Ev wd xs n/\x=⟨7,0,0,0,0,n,⟨#[]⟩,⟨#[]⟩,⟨#[]⟩,[],[],[]⟩)∨
   (∃r,CV wd r0 xs r/\x=⟨0,wd,r.now,r.given,r.births,0,⟨#[]⟩,⟨#[]⟩,⟨#[]⟩,r.ks,r.ps,r.ls⟩)))
end Go.Proofs.YtpekbmegopfhfaaGreatDoor
