import Derived.Test.YtpekbmegopfhfaaGreatDoorK17
import Derived.Test.YtpekbmegopfhfaaGreatDoorK15
set_option maxRecDepth 100000
set_option maxHeartbeats 16000000
namespace Go.Proofs.YtpekbmegopfhfaaGreatDoor
open Go.ChangeShapes Go.WideShapes Go.ChangeAt Go.RowKit _root_.Go.Proofs.Tryz
theorem Lx (a b:Option Addr) (c d:Nat) (ss tt:List ByteArray) (w:World) (hr:Ae w w.heap.size a ss) (hq:Ae w w.heap.size b tt) (ha:a=none->ss.length=0/\c=0) (hb:b=none->tt.length=0/\d=0) (hl:ss.length<=1048576) (zP:tt.length<=1048576):
 Calls prog 54 #[.agg #[.slice a ss.length c,.slice b tt.length d]] w fun e w'=>∃g cap,e=.returned (.slice (some ⟨g,0,none⟩) (ss++tt).length cap)/\w'.ownsRow w.heap.size 9 1 (.slice (some ⟨g,0,none⟩) (ss++tt).length cap) (ss++tt).length ((ss++tt).map Value.string)/\Xz w w':=by
 obtain⟨i0,hi,zK,zJ,zM⟩:=info_parts CO;obtain⟨W,hW⟩:∃W,W=w.alloc (.cells #[.slice a ss.length c,.slice b tt.length d] 40):=⟨_,rfl⟩;have bW:=(Aq hW).1;have zW:=(Aq hW).2.1;have x0:=(Aq hW).2.2;have bA:Below W.heap.size W (W.alloc (.cells #[] 9)):=XA
 have oA:(W.alloc (.cells #[] 9)).drew.ownsRow (w.heap.size+1) 9 1 (.slice (some ⟨w.heap.size+1,0,none⟩) 0 0) 0 (([]:List ByteArray).map Value.string):=by
  have h1:=World.ownsRow_lit (base:=w.heap.size+1) (e:=9) (size:=1) W #[] 0 (by omega) (by unfold maxLen;omega) rfl;rw[zW] at h1;exact h1
 have rA:=(Ae.below hr (bW.trans (bA.drew.mono bW.size))).cellsO;have xA:=Aa.below x0 bA;obtain⟨y0,y1⟩:=Aa.c2 x0 0 1;obtain⟨z0,z1⟩:=Aa.c2 xA 0 1;have HW:Hid _:=hW;have HX:Hid _:=And.intro xA (bW.trans (bA.mono bW.size));have HQ:Hid (Ae w w.heap.size b tt):=hq;clear hW x0 xA hr hq;go_enter func54,ntmps54;go_upto_region 1 with fail;rw[←HW.o];clear HW
 go_region_law (first
  |(refine By (W.alloc (.cells #[] 9)).drew rfl (.tmp 3) (.tmp 5) 22 rfl (w.heap.size+1) 9 i0 XM 16 underlying22 hi zK zJ zM rfl (w.heap.size+1) 0 0 [] rfl oA a ss.length c ss rfl rfl ha rA (by unfold maxLen;omega) (by omega) (by simp<;>omega) ?_;intro k6 zH w6 zC zB zF zG;simp only[Nat.zero_add,List.nil_append] at zC;have x6:Aa w6 w.heap.size [.slice a ss.length c,.slice b tt.length d]:=(Aa.same HX.o.1 (zB.block _ (by simp<;>omega) (by simp<;>omega)));have b6:Below w.heap.size w w6:=(HX.o.2.drew.grown zB (by simp<;>omega) (fun k hk=>by cases hk;omega));have c0:=(x6 0 _ rfl).1;have c1:=(x6 1 _ rfl).1;have r6:=(Ae.below HQ.o b6).cellsO;have z6:=zB.size;simp at z6)
  |(refine By w6 rfl (.tmp 6) (.tmp 8) 22 rfl (w.heap.size+1) 9 i0 XM 16 underlying22 hi zK zJ zM rfl k6 ss.length zH ss rfl zC b tt.length d tt rfl rfl hb r6 (by unfold maxLen;omega) (by omega) (by omega) ?_;intro k9 zA w9 zO zN zI zE))
 all_goals
  have l6:w.heap.size+1<=k6:=(zC.lt k6 rfl).1;have HF:Hid (w9.ownsRow w.heap.size 9 1 (.slice (some ⟨k9,0,none⟩) (ss.length+tt.length) zA) (ss.length+tt.length) ((ss++tt).map Value.string)/\Xz w w9):=⟨zO.mono (by omega),b6.grown zN b6.size (fun k hk=>by cases hk;omega)⟩;clear zC zB zF zG x6 b6 c0 c1 r6 z6 zO zN zI zE oA rA y0 y1 z0 z1;go_wp2;go_ret;rw[List.length_append];exact⟨k9,zA,rfl,HF.o⟩
theorem KI (wd now given births:Int) (a p l:Option Addr) (tc pn pc ln lc:Nat) (ks:List Kd) (s:ByteArray) (w:World) (zC:Bx w w.heap.size a ks) (zI:ks.length<=1000) (zB:¬Au ks s):
 Calls prog 91 #[.agg #[XJ wd,XJ now,XJ given,XJ births,.slice a ks.length tc,.slice p pn pc,.slice l ln lc],.string s] w fun e w'=>e=.returned (.agg (BT 2 ⟨#[]⟩ ⟨#[]⟩).toArray)/\Xz w w':=by
 obtain⟨W,hW⟩:∃W,W=(w.alloc (.cells #[XJ wd,XJ now,XJ given,XJ births,.slice a ks.length tc,.slice p pn pc,.slice l ln lc] 28)).alloc (.cells #[XK,XK,XK,XK,XK,XN,XN,XN,XM,XK,XM,XM] 30):=⟨_,rfl⟩;have bW:=(AP hW).1;have x0:=(AP hW).2.2.1;have x1:Aa W (w.heap.size+1) As:=by
  have h1:=Aa.new (w.alloc (.cells #[XJ wd,XJ now,XJ given,XJ births,.slice a ks.length tc,.slice p pn pc,.slice l ln lc] 28)) As 30;rw[World.size_alloc] at h1;rw[hW];exact h1
 have HF:Hid _:=Fb wd now given births a tc (.slice p pn pc) (.slice l ln lc) ks s W w.heap.size (Bx.below zC bW) bW.size (by omega);have zJ:=GW zB;have HW:Hid _:=hW;have zF:Hid _:=x1;obtain⟨v0,v1,v2,v3,v4,v5,v6,v7⟩:=Br x0;clear hW x0 x1 zC zB;go_enter func91,ntmps91;go_upto_region 1 with fail;rw[←HW.o];clear HW;go_wp2_with fail;refine Calls.mono HF.o ?_;rintro e w1 ⟨rfl,zA⟩
 obtain⟨⟨y0,q0⟩,⟨y1,q1⟩,⟨y2,q2⟩,⟨y3,q3⟩,⟨y4,q4⟩,⟨y5,q5⟩,⟨y6,q6⟩,⟨y7,q7⟩,⟨y8,q8⟩,⟨y9,q9⟩,⟨zE,zH⟩,zG,zK⟩:=AS (Aa.below (v:=XK) zF.o zA);have hB:=bW.trans (zA.mono bW.size);generalize Cy ks s=fi at *
 clear v0 v1 v2 v3 v4 v5 v6 v7 HF;go_wp2;refine bodyPost_ret (v:=.agg (BT 2 ⟨#[]⟩ ⟨#[]⟩).toArray) (by simp[results,results91,go_sem,y0,y1,y2,y3,y4,y5,y6,y7,y8,y9,zE,zG,BT]) rfl ?_;exact⟨rfl,hB.trans (Tn.below (Bc w1 (w.heap.size+1) _ _ _ _ _ _ _ _ _ _ _ _) hB.size (by intro v hv;simp at hv;omega))⟩
theorem CW (kd:Int) (fn:Nat) (args:Array Value) (wd now given births:Int) (ta pa la:Option Addr) (tn tc pn pc ln lc:Nat) (s nm text:ByteArray) (num:Int) (ra:Option Addr) (rn rc:Nat) (w:World) (V:List Nat) (Q:World->Ending->World->Prop) (Q':Ending->World->Prop)
 (hk:(kd=1/\fn=85/\args= #[.agg #[XJ wd,XJ now,XJ given,XJ births,.slice ta tn tc,.slice pa pn pc,.slice la ln lc],.agg #[XJ kd,.string s,.string nm,XJ num,.string text,.slice ra rn rc]])∨(kd=2/\fn=86/\args= #[.agg #[XJ wd,XJ now,XJ given,XJ births,.slice ta tn tc,.slice pa pn pc,.slice la ln lc],.agg #[XJ kd,.string s,.string nm,XJ num,.string text,.slice ra rn rc]])∨(kd=3/\fn=87/\args= #[.agg #[XJ wd,XJ now,XJ given,XJ births,.slice ta tn tc,.slice pa pn pc,.slice la ln lc],.string nm])∨(kd=5/\fn=89/\args= #[.agg #[XJ wd,XJ now,XJ given,XJ births,.slice ta tn tc,.slice pa pn pc,.slice la ln lc],XJ num])∨(kd=6/\fn=90/\args= #[.agg #[XJ wd,XJ now,XJ given,XJ births,.slice ta tn tc,.slice pa pn pc,.slice la ln lc],XJ num])∨(kd=7/\fn=91/\args= #[.agg #[XJ wd,XJ now,XJ given,XJ births,.slice ta tn tc,.slice pa pn pc,.slice la ln lc],.string s]))
 (hV:∀b∈V,b<w.heap.size)
 (hc:∀X,Xz w X->w.heap.size+3<=X.heap.size->Calls prog fn args X (Q X))
 (hf:∀X e w',Q X e w'->Tn V X w'/\∃(c0 c1 c2 c3 c4:Int) (zK:Option Addr) (zF zC:Nat) (zM:Option Addr) (zN zB:Nat) (zJ:Option Addr) (zI zA:Nat) (zE:ByteArray) (zG:Int) (a' b':ByteArray),e=.returned (.agg #[XJ c0,XJ c1,XJ c2,XJ c3,XJ c4,.slice zK zF zC,.slice zM zN zB,.slice zJ zI zA,.string zE,XJ zG,.string a',.string b']))
 (hq:∀X e w' w'',Xz w X->w.heap.size+3<=X.heap.size->Q X e w'->Tn [w.heap.size+2] w' w''->Q' e w''):
 Calls prog 42 #[.agg #[XJ wd,XJ now,XJ given,XJ births,.slice ta tn tc,.slice pa pn pc,.slice la ln lc],.agg #[XJ kd,.string s,.string nm,XJ num,.string text,.slice ra rn rc]] w Q':=by
 obtain⟨W,hW⟩:∃W,W=((w.alloc (.cells #[XJ wd,XJ now,XJ given,XJ births,.slice ta tn tc,.slice pa pn pc,.slice la ln lc] 28)).alloc (.cells #[XJ kd,.string s,.string nm,XJ num,.string text,.slice ra rn rc] 77)).alloc (.cells #[XK,XK,XK,XK,XK,XN,XN,XN,XM,XK,XM,XM] 30):=⟨_,rfl⟩;have bW:=(Bp hW).1;have zV:=(Bp hW).2.1;have x0:=(Bp hW).2.2.1
 have xe:Aa W (w.heap.size+1) [XJ kd,.string s,.string nm,XJ num,.string text,.slice ra rn rc]:=by
  have h1:=Aa.new (w.alloc (.cells #[XJ wd,XJ now,XJ given,XJ births,.slice ta tn tc,.slice pa pn pc,.slice la ln lc] 28)) [XJ kd,.string s,.string nm,XJ num,.string text,.slice ra rn rc] 77;rw[World.size_alloc] at h1;rw[hW];exact Aa.below h1 (XA)
 have x1:Aa W (w.heap.size+2) As:=by
  have h1:=Aa.new ((w.alloc (.cells #[XJ wd,XJ now,XJ given,XJ births,.slice ta tn tc,.slice pa pn pc,.slice la ln lc] 28)).alloc (.cells #[XJ kd,.string s,.string nm,XJ num,.string text,.slice ra rn rc] 77)) As 30;rw[World.size_alloc,World.size_alloc] at h1;rw[hW];exact h1
 have HC:Hid _:=hc W bW (by omega);have HQ:Hid (∀e w' w'',Q W e w'->Tn [w.heap.size+2] w' w''->Q' e w''):=fun e w' w'' h1 h2=>hq W e w' w'' bW (by omega) h1 h2;have HF:Hid _:=hf W;have zO:Hid (Aa W (w.heap.size+2) As):=x1;have HV:Hid (∀b∈V,b<w.heap.size):=hV;have HW:Hid _:=hW;obtain⟨v0,v1,v2,v3,v4,v5,v6⟩:=Aa.c7 x0 0 1 2 3 4 5 6;obtain⟨e0,e1,e2,e3,e4,e5⟩:=Aa.c6 xe 0 1 2 3 4 5
 clear hW x0 xe x1 hc hq hf hV bW;rcases hk with⟨rfl,rfl,rfl⟩|⟨rfl,rfl,rfl⟩|⟨rfl,rfl,rfl⟩|⟨rfl,rfl,rfl⟩|⟨rfl,rfl,rfl⟩|⟨rfl,rfl,rfl⟩
 all_goals
  go_enter func42,ntmps42;go_upto_region 1 with fail;rw[←HW.o];clear HW;go_wp2_with fail;refine Calls.mono HC.o ?_;intro e w1 zH;obtain⟨zP,c0,c1,c2,c3,c4,zK,zF,zC,zM,zN,zB,zJ,zI,zA,zE,zG,a',b',rfl⟩:=HF.o e w1 zH;have zR:Aa w1 (w.heap.size+2) As:=Aa.same zO.o (zP.block _ zO.o.lt (fun h=>by have:=HV.o _ h;omega))
  obtain⟨⟨y0,q0⟩,⟨y1,q1⟩,⟨y2,q2⟩,⟨y3,q3⟩,⟨y4,q4⟩,⟨y5,q5⟩,⟨y6,q6⟩,⟨y7,q7⟩,⟨y8,q8⟩,⟨y9,q9⟩,⟨zT,zX⟩,zU,zW⟩:=AS zR;have zS:Hid _:=zH;clear zH zR zP v0 v1 v2 v3 v4 v5 v6 e0 e1 e2 e3 e4 e5 HC HF;go_wp2
  refine bodyPost_ret (v:=.agg #[XJ c0,XJ c1,XJ c2,XJ c3,XJ c4,.slice zK zF zC,.slice zM zN zB,.slice zJ zI zA,.string zE,XJ zG,.string a',.string b']) (by simp[results,results42,go_sem,y0,y1,y2,y3,y4,y5,y6,y7,y8,y9,zT,zU]) rfl ?_;exact HQ.o _ _ _ zS.o (Bc w1 (w.heap.size+2) _ _ _ _ _ _ _ _ _ _ _ _)
theorem Mc (wd now given births:Int) (ta pa la:Option Addr) (tn tc pn pc ln lc:Nat) (s nm text:ByteArray) (num:Int) (ra:Option Addr) (rn rc:Nat) (w:World) (fi:Int) (Q:World->Ending->World->Prop) (Q':Ending->World->Prop)
 (yF:∀X,Xz w X->Calls prog 72 #[.agg #[XJ wd,XJ now,XJ given,XJ births,.slice ta tn tc,.slice pa pn pc,.slice la ln lc],.string s] X fun e w'=>e=.returned (XJ fi)/\Xz X w')
 (yD:0<=fi->∀X,Xz w X->w.heap.size+3<=X.heap.size->Calls prog 43 #[.agg #[XJ wd,XJ now,XJ given,XJ births,.slice ta tn tc,.slice pa pn pc,.slice la ln lc]] X fun e w'=>(∃zM zH zG zK zF zE zJ zI zC,e=.returned (.agg #[XJ wd,XJ now,XJ given,XJ births,.slice zM zH zG,.slice zK zF zE,.slice zJ zI zC])/\∀Y,Xz w' Y->Calls prog 88 #[.agg #[XJ wd,XJ now,XJ given,XJ births,.slice zM zH zG,.slice zK zF zE,.slice zJ zI zC],.string s,XJ num] Y (Q X))/\Xz X w')
 (hf:∀X e w',Xz w X->Q X e w'->Xz X w'/\∃(c0 c1 c2 c3 c4:Int) (zM:Option Addr) (zH zG:Nat) (zK:Option Addr) (zF zE:Nat) (zJ:Option Addr) (zI zC:Nat) (zN:ByteArray) (zO:Int) (a' b':ByteArray),e=.returned (.agg #[XJ c0,XJ c1,XJ c2,XJ c3,XJ c4,.slice zM zH zG,.slice zK zF zE,.slice zJ zI zC,.string zN,XJ zO,.string a',.string b']))
 (yI:fi<0->∀w',Xz w w'->Q' (.returned (.agg (BT 2 ⟨#[]⟩ ⟨#[]⟩).toArray)) w')
 (hq:0<=fi->∀X e w' w'',Xz w X->w.heap.size+3<=X.heap.size->Q X e w'->Tn [w.heap.size+2] w' w''->Q' e w''):
 Calls prog 42 #[.agg #[XJ wd,XJ now,XJ given,XJ births,.slice ta tn tc,.slice pa pn pc,.slice la ln lc],.agg #[XJ 4,.string s,.string nm,XJ num,.string text,.slice ra rn rc]] w Q':=by
 obtain⟨W,hW⟩:∃W,W=((w.alloc (.cells #[XJ wd,XJ now,XJ given,XJ births,.slice ta tn tc,.slice pa pn pc,.slice la ln lc] 28)).alloc (.cells #[XJ 4,.string s,.string nm,XJ num,.string text,.slice ra rn rc] 77)).alloc (.cells #[XK,XK,XK,XK,XK,XN,XN,XN,XM,XK,XM,XM] 30):=⟨_,rfl⟩;have bW:=(Bp hW).1;have yN:=(Bp hW).2.1;have x0:=(Bp hW).2.2.1
 have xe:Aa W (w.heap.size+1) [XJ 4,.string s,.string nm,XJ num,.string text,.slice ra rn rc]:=by
  have h1:=Aa.new (w.alloc (.cells #[XJ wd,XJ now,XJ given,XJ births,.slice ta tn tc,.slice pa pn pc,.slice la ln lc] 28)) [XJ 4,.string s,.string nm,XJ num,.string text,.slice ra rn rc] 77;rw[World.size_alloc] at h1;rw[hW];exact Aa.below h1 (XA)
 have x1:Aa W (w.heap.size+2) As:=by
  have h1:=Aa.new ((w.alloc (.cells #[XJ wd,XJ now,XJ given,XJ births,.slice ta tn tc,.slice pa pn pc,.slice la ln lc] 28)).alloc (.cells #[XJ 4,.string s,.string nm,XJ num,.string text,.slice ra rn rc] 77)) As 30;rw[World.size_alloc,World.size_alloc] at h1;rw[hW];exact h1
 have yC:Hid _:=yF W bW;have HX:Hid (∀X,Xz W X->Aa X w.heap.size [XJ wd,XJ now,XJ given,XJ births,.slice ta tn tc,.slice pa pn pc,.slice la ln lc]/\Aa X (w.heap.size+1) [XJ 4,.string s,.string nm,XJ num,.string text,.slice ra rn rc]/\Aa X (w.heap.size+2) As/\Xz w X):=fun X hX=>⟨Aa.below x0 hX,Aa.below xe hX,Aa.below (v:=XK) x1 hX,bW.trans (hX.mono bW.size)⟩;have HW:Hid _:=hW;have yB:Hid _:=yD
 have HF:Hid _:=hf;have yM:Hid _:=yI;have HQ:Hid _:=hq;obtain⟨v0,v1,v2,v3,v4,v5,v6⟩:=Aa.c7 x0 0 1 2 3 4 5 6;obtain⟨e0,e1,e2,e3,e4,e5⟩:=Aa.c6 xe 0 1 2 3 4 5;clear hW x0 xe x1 yF yD hf yI hq bW;go_enter func42,ntmps42;go_upto_region 1 with fail;rw[←HW.o];clear HW;go_wp2_with fail;refine Calls.mono yC.o ?_;rintro e w1 ⟨rfl,zY⟩;have zR:Hid (Xz W w1):=zY
 clear v0 v1 v2 v3 v4 v5 v6 e0 e1 e2 e3 e4 e5 yC zY;obtain⟨x0,xe,x1,zS⟩:=HX.o w1 zR.o;by_cases hneg:fi<0
 ·obtain⟨⟨y0,q0⟩,⟨y1,q1⟩,⟨y2,q2⟩,⟨y3,q3⟩,⟨y4,q4⟩,⟨y5,q5⟩,⟨y6,q6⟩,⟨y7,q7⟩,⟨y8,q8⟩,⟨y9,q9⟩,⟨zP,yL⟩,zT,yK⟩:=AS x1
  have zX:Hid _:=zS;clear x0 xe x1 zS HX;go_wp2;refine bodyPost_ret (v:=.agg (BT 2 ⟨#[]⟩ ⟨#[]⟩).toArray) (by simp[results,results42,go_sem,y0,y1,y2,y3,y4,y5,y6,y7,y8,y9,zP,zT,BT]) rfl ?_;exact yM.o hneg _ (zX.o.trans (Tn.below (Bc w1 (w.heap.size+2) _ _ _ _ _ _ _ _ _ _ _ _) zX.o.size (by intro v hv;simp at hv;omega)))
 ·have h0:0<=fi:=by omega
  have D1:Below w1.heap.size w1 w1.drew:=(Below.refl _ _).drew;have bd:=zR.o.trans (D1.mono zR.o.size);have zA:=(HX.o _ bd).2.2.2;have yA:w.heap.size+3<=w1.drew.heap.size:=by have:=bd.size;omega
  have zZ:Hid _:=yB.o h0 w1.drew zA yA;have zB:Hid _:=bd
  have P1:w1.drew.cell? (XL (w.heap.size) 0)=some (XJ wd)/\w1.drew.cell? (XL (w.heap.size) 1)=some (XJ now)/\w1.drew.cell? (XL (w.heap.size) 2)=some (XJ given)/\w1.drew.cell? (XL (w.heap.size) 3)=some (XJ births)/\w1.drew.cell? (XL (w.heap.size) 4)=some (.slice ta tn tc)/\w1.drew.cell? (XL (w.heap.size) 5)=some (.slice pa pn pc)/\w1.drew.cell? (XL (w.heap.size) 6)=some (.slice la ln lc)/\w1.drew.cell? (XL (w.heap.size+1) 1)=some (.string s)/\w1.drew.cell? (XL (w.heap.size+1) 3)=some (XJ num):=⟨(x0 0 _ rfl).1,(x0 1 _ rfl).1,(x0 2 _ rfl).1,(x0 3 _ rfl).1,(x0 4 _ rfl).1,(x0 5 _ rfl).1,(x0 6 _ rfl).1,(xe 1 _ rfl).1,(xe 3 _ rfl).1⟩
  have HS:Hid (∀X,Xz W X->X.cell? (XL (w.heap.size) 0)=some (XJ wd)/\X.cell? (XL (w.heap.size) 1)=some (XJ now)/\X.cell? (XL (w.heap.size) 2)=some (XJ given)/\X.cell? (XL (w.heap.size) 3)=some (XJ births)/\X.cell? (XL (w.heap.size) 4)=some (.slice ta tn tc)/\X.cell? (XL (w.heap.size) 5)=some (.slice pa pn pc)/\X.cell? (XL (w.heap.size) 6)=some (.slice la ln lc)/\X.cell? (XL (w.heap.size+1) 1)=some (.string s)/\X.cell? (XL (w.heap.size+1) 3)=some (XJ num)):=fun X hX=>by
   obtain⟨a0,a1,_⟩:=HX.o X hX;exact⟨(a0 0 _ rfl).1,(a0 1 _ rfl).1,(a0 2 _ rfl).1,(a0 3 _ rfl).1,(a0 4 _ rfl).1,(a0 5 _ rfl).1,(a0 6 _ rfl).1,(a1 1 _ rfl).1,(a1 3 _ rfl).1⟩
  have yG:Hid (∀X Y,Xz W X->Tn [w.heap.size+1+1] X Y->Y.cell? (XL (w.heap.size) 0)=some (XJ wd)/\Y.cell? (XL (w.heap.size) 1)=some (XJ now)/\Y.cell? (XL (w.heap.size) 2)=some (XJ given)/\Y.cell? (XL (w.heap.size) 3)=some (XJ births)/\Y.cell? (XL (w.heap.size) 4)=some (.slice ta tn tc)/\Y.cell? (XL (w.heap.size) 5)=some (.slice pa pn pc)/\Y.cell? (XL (w.heap.size) 6)=some (.slice la ln lc)/\Y.cell? (XL (w.heap.size+1) 1)=some (.string s)/\Y.cell? (XL (w.heap.size+1) 3)=some (XJ num)):=fun X Y hX hY=>by
   obtain⟨z0,z1,_⟩:=HX.o X hX;have a0:=Aa.same z0 (hY.block _ z0.lt (by simp;omega));have a1:=Aa.same z1 (hY.block _ z1.lt (by simp));exact⟨(a0 0 _ rfl).1,(a0 1 _ rfl).1,(a0 2 _ rfl).1,(a0 3 _ rfl).1,(a0 4 _ rfl).1,(a0 5 _ rfl).1,(a0 6 _ rfl).1,(a1 1 _ rfl).1,(a1 3 _ rfl).1⟩
  have zV:=hneg;clear x0 xe x1 zS bd P1;go_upto_region 11 with fail
  go_region_held3 (fun X=>X.cell? (XL (w.heap.size) 0)=some (XJ wd)/\X.cell? (XL (w.heap.size) 1)=some (XJ now)/\X.cell? (XL (w.heap.size) 2)=some (XJ given)/\X.cell? (XL (w.heap.size) 3)=some (XJ births)/\X.cell? (XL (w.heap.size) 4)=some (.slice ta tn tc)/\X.cell? (XL (w.heap.size) 5)=some (.slice pa pn pc)/\X.cell? (XL (w.heap.size) 6)=some (.slice la ln lc)/\X.cell? (XL (w.heap.size+1) 1)=some (.string s)/\X.cell? (XL (w.heap.size+1) 3)=some (XJ num))
   (first|with_reducible exact HS.o _ zB.o|with_reducible exact HS.o _ B2|with_reducible exact HS.o _ B3|with_reducible exact yG.o _ _ B3 (Bc _ _ _ _ _ _ _ _ _ _ _ _ _ _))
   (first
     |(go_at_call 43;refine Calls.mono zZ.o ?_;rintro e w2 ⟨⟨zM,zH,zG,zK,zF,zE,zJ,zI,zC,rfl,yE⟩,yH⟩;have B2:Below W.heap.size W w2:=zB.o.trans (yH.mono zB.o.size);have zW:Hid _:=yE w2 (Below.refl _ _);clear yE yH)
     |(go_at_call 88;refine Calls.mono zW.o ?_;intro e w3 zU;obtain⟨hb3,c0,c1,c2,c3,c4,ua',un',uc',va',vn',vc',xa',xn',xc',zN,zO,a',b',rfl⟩:=HF.o w1.drew e w3 zA zU;have B3:Below W.heap.size W w3:=zB.o.trans (hb3.mono zB.o.size);have yJ:Hid _:=zU;obtain⟨_,_,zz1,_⟩:=HX.o w3 B3;obtain⟨⟨y0,q0⟩,⟨y1,q1⟩,⟨y2,q2⟩,⟨y3,q3⟩,⟨y4,q4⟩,⟨y5,q5⟩,⟨y6,q6⟩,⟨y7,q7⟩,⟨y8,q8⟩,⟨y9,q9⟩,⟨zP,yL⟩,zT,yK⟩:=AS zz1;clear zU hb3 zz1))
  clear zW zZ HS yG yB HF;go_wp2;refine bodyPost_ret (v:=.agg #[XJ c0,XJ c1,XJ c2,XJ c3,XJ c4,.slice ua' un' uc',.slice va' vn' vc',.slice xa' xn' xc',.string zN,XJ zO,.string a',.string b']) (by simp[results,results42,go_sem,y0,y1,y2,y3,y4,y5,y6,y7,y8,y9,zP,zT]) rfl ?_;exact HQ.o h0 w1.drew _ _ _ zA yA yJ.o (Bc w3 (w.heap.size+2) _ _ _ _ _ _ _ _ _ _ _ _)
theorem Qn {ls:List Ld} {k:Nat} {x:Ld} (n:Int) (hx:ls[k]?=some x):AG (ls.take (k+1)) n=AG (ls.take k) n++(if x.til<=n then [] else [x]):=by
 obtain⟨zA,rfl⟩:=XC hx;unfold AG;rw[XE zA,List.filter_append];by_cases h:ls[k].til<=n<;>simp[h]
def Sh (w w':World) (e:Ending) (wd now given births:Int) (T P:Value) (ls:List Ld) (ticks:Int):Prop:=
 Below w.heap.size w w'/\((1000000000<now+ticks/\e=.returned (.agg #[XJ 4,XK,XK,XK,XK,XN,XN,XN,XM,XK,XM,XM]))∨
  (now+ticks<=1000000000/\∃g c,e=.returned (.agg #[XK,XJ wd,XJ (now+ticks),XJ given,XJ births,T,P,.slice (some ⟨g,0,none⟩) (AG ls (now+ticks)).length c,XM,XK,XM,XM])/\w'.ownsRow w.heap.size 137 3 (.slice (some ⟨g,0,none⟩) (AG ls (now+ticks)).length c) (AG ls (now+ticks)).length (Ab lC (AG ls (now+ticks)))))
theorem Qo (wd now given births:Int) (ta pa la:Option Addr) (tn tc pn pc lc:Nat) (ls:List Ld) (zA:Int) (w:World) (zC:AR w w.heap.size la ls) (hl:ls.length<=1000) (yD:0<=now) (yF:now<=1000000000) (zZ:0<=zA) (yC:zA<=1000000000):
 Calls prog 90 #[.agg #[XJ wd,XJ now,XJ given,XJ births,.slice ta tn tc,.slice pa pn pc,.slice la ls.length lc],XJ zA] w fun e w'=>Sh w w' e wd now given births (.slice ta tn tc) (.slice pa pn pc) ls zA:=by
 obtain⟨W,hW⟩:∃W,W=(w.alloc (.cells #[XJ wd,XJ now,XJ given,XJ births,.slice ta tn tc,.slice pa pn pc,.slice la ls.length lc] 28)).alloc (.cells #[XK,XK,XK,XK,XK,XN,XN,XN,XM,XK,XM,XM] 30):=⟨_,rfl⟩;have bW:=(AP hW).1;have zP:=(AP hW).2.1;have x0:=(AP hW).2.2.1;have x1:Aa W (w.heap.size+1) As:=by
  have h1:=Aa.new (w.alloc (.cells #[XJ wd,XJ now,XJ given,XJ births,.slice ta tn tc,.slice pa pn pc,.slice la ls.length lc] 28)) As 30;rw[World.size_alloc] at h1;rw[hW];exact h1
 have yG:=Gh yD yF zZ yC;have HW:Hid _:=hW;by_cases hbig:1000000000<now+zA
 ·obtain⟨⟨y0,q0⟩,⟨y1,q1⟩,⟨y2,q2⟩,⟨y3,q3⟩,⟨y4,q4⟩,⟨y5,q5⟩,⟨y6,q6⟩,⟨y7,q7⟩,⟨y8,q8⟩,⟨y9,q9⟩,⟨zH,yE⟩,zI,yB⟩:=AS x1
  obtain⟨c1,_⟩:=x0 1 _ rfl;have HB:Hid _:=bW;have zB:Hid _:=hbig;clear hW x0 x1 zC bW zP;go_enter func90,ntmps90;go_upto_region 1 with fail;rw[←HW.o];clear HW;go_wp2;refine bodyPost_ret (v:=.agg #[XJ 4,XK,XK,XK,XK,XN,XN,XN,XM,XK,XM,XM]) (by simp[results,results90,go_sem,y0,y1,y2,y3,y4,y5,y6,y7,y8,y9,zH,zI]) rfl ?_
  exact⟨HB.o.trans (Tn.below (Bc W (w.heap.size+1) _ _ _ _ _ _ _ _ _ _ _ _) HB.o.size (by intro v hv;simp at hv;omega)),.inl ⟨zB.o,rfl⟩⟩
 ·obtain⟨X,hX⟩:∃X,X=W.setCell (XL (w.heap.size) 1) (XJ (now+zA)):=⟨_,rfl⟩
  have tX:Tn [w.heap.size] W X:=by rw[hX];exact DR _ _ _ _
  have zG:w.heap.size+2<=X.heap.size:=by have:=tX.size;omega
  have u0:Aa X w.heap.size [XJ wd,XJ (now+zA),XJ given,XJ births,.slice ta tn tc,.slice pa pn pc,.slice la ls.length lc]:=by rw[hX];exact x0.set 1 _
  have u1:=Aa.same x1 (tX.block _ (by omega) (by simp));have HX:Hid (∀Y,Below (w.heap.size+2) X Y->Aa Y w.heap.size [XJ wd,XJ (now+zA),XJ given,XJ births,.slice ta tn tc,.slice pa pn pc,.slice la ls.length lc]/\Aa Y (w.heap.size+1) As):=fun Y hY=>⟨Aa.same u0 (hY.block _ (by omega)),Aa.same u1 (hY.block _ (by omega))⟩;have zS:Hid _:=hX;have HR:Hid _:=zC
  have zY:Hid _:=bW.trans (tX.below bW.size (by simp));have zB:Hid _:=Int.not_lt.1 hbig;have bA:Below X.heap.size X (X.alloc (.cells #[] 137)):=XA;have zO:Hid ((X.alloc (.cells #[] 137)).ownsRow (w.heap.size+2) 137 3 (.slice (some ⟨X.heap.size,0,none⟩) 0 0) 0 []):=World.ownsRow_lit (base:=w.heap.size+2) (e:=137) (size:=3) X #[] 0 zG (by unfold maxLen;omega) rfl
  have zK:Hid (Below (w.heap.size+2) X (X.alloc (.cells #[] 137))):=bA.mono zG;obtain⟨c1,f1⟩:=x0 1 _ rfl;clear hW hX zP x0 x1 u0 u1 zC bW bA tX;go_enter func90,ntmps90;go_upto_region 1 with fail;rw[←HW.o];clear HW;go_upto_region 4 with fail;rw[←zS.o];clear zS c1 f1;go_wp2
  go_loopw [5,6] (fun v i wr=>∃(k g c:Nat),k<=ls.length/\i=XJ k/\v=.slice (some ⟨g,0,none⟩) (AG (ls.take k) (now+zA)).length c/\Hid (wr.ownsRow (w.heap.size+2) 137 3 (.slice (some ⟨g,0,none⟩) (AG (ls.take k) (now+zA)).length c) (AG (ls.take k) (now+zA)).length (Ab lC (AG (ls.take k) (now+zA)))/\Below (w.heap.size+2) X wr)) (fun _ i _=>ls.length -(intOf i).toNat)
  case atStart=>exact⟨0,X.heap.size,0,Nat.zero_le _,rfl,by simp[AG],⟨by simpa [AG,Ab] using zO.o,zK.o⟩⟩
  case round=>
   clear zO zK;obtain⟨k,g,c,hk,rfl,rfl,HI⟩:=hrel;have zF:=zY.o.trans (HI.o.2.mono (by omega));have zN:=XI zG HI.o.2.size;obtain⟨v0,v1,v2,v3,v4,v5,v6,v7⟩:=Br (HX.o _ HI.o.2).1;by_cases hlt:k<ls.length
   ·obtain⟨b',off,ha,hb,zR⟩:=(AR.below HR.o zF).at hlt
    subst ha;have HG:Hid _:=XD hlt;obtain⟨c0,c1,c2⟩:=zR k _ HG.o;have zM:Hid _:=Qn (now+zA) HG.o;have yH:(AG (ls.take k) (now+zA)).length<=1000:=by
     have:=List.length_filter_le (fun x:Ld=> !decide (x.til<=(now+zA))) (ls.take k);unfold AG;rw[List.length_take] at this;omega
    have zW:b'<wr.heap.size:=by have:=zF.size;omega
    have yI:(k:Int)<ls.length:=by omega
    clear zR;generalize ls[k]=x at *
    generalize hGk:AG (ls.take k) (now+zA)=gk at *
    have yJ:Hid _:=hGk;clear hGk;by_cases hxn:x.til<=(now+zA)
    ·have hq:decide ((now+zA)<x.til)=false:=by simp;omega
     have HE:Hid (AG (ls.take (k+1)) (now+zA)=gk):=by show _=_;rw[zM.o,if_pos hxn,List.append_nil]
     clear hxn;have zJ:Hid (wr.drew.ownsRow (w.heap.size+2) 137 3 (.slice (some ⟨g,0,none⟩) gk.length c) gk.length (Ab lC gk)/\Below (w.heap.size+2) X wr.drew):=⟨Ad HI.o.1 ((Below.refl _ _).drew),HI.o.2.drew⟩;clear HI;go_upto_region 8 with fail;go_region_with fail
     all_goals
      go_wp2;exact⟨⟨k+1,g,c,by omega,by go_num,by rw[HE.o],⟨by rw[HE.o];exact zJ.o.1,zJ.o.2⟩⟩,by simp[intOf];omega⟩
    ·have hq:decide ((now+zA)<x.til)=true:=by simp;omega
     have HE:Hid (AG (ls.take (k+1)) (now+zA)=gk++[x]):=by show _=_;rw[zM.o,if_neg hxn]
     clear hxn;obtain⟨g8,zE,w8,zX,zU,zT,yA⟩:=Mg wr.drew (w.heap.size+2) _ gk (Ad HI.o.1 ((Below.refl _ _).drew)) x (by omega) zN 26;have b8:=(Below.refl _ _).grown zT zN (fun q e=>(Ac HI.o.1 e).1);have H8:Hid (w8.ownsRow (w.heap.size+2) 137 3 (.slice (some ⟨g8,0,none⟩) (gk.length+1) zE) (gk++[x]).length (Ab lC (gk++[x]))/\Below (w.heap.size+2) X w8):=⟨zU,HI.o.2.drew.trans b8⟩
     clear zU zT yA b8 HI;go_upto_region 8 with fail;go_region_with fail
     all_goals
      go_wp2_with (at_builtin;first|(refine wpList_append_run rfl _ _ 26 26 rfl rfl rfl zX ?_));go_wp2;exact⟨⟨k+1,g8,zE,by omega,by go_num,by rw[HE.o,List.length_append];rfl,⟨by rw[HE.o,List.length_append];exact List.length_append▸H8.o.1,H8.o.2⟩⟩,by simp[intOf];omega⟩
   ·obtain rfl:k=ls.length:=by omega
    have hO:=HI.o.1;rw[XF (XB)] at hO ⊢;have HO:Hid _:=hO;have zV:Hid _:=zF;obtain⟨⟨y0,q0⟩,⟨y1,q1⟩,⟨y2,q2⟩,⟨y3,q3⟩,⟨y4,q4⟩,⟨y5,q5⟩,⟨y6,q6⟩,⟨y7,q7⟩,⟨y8,q8⟩,⟨y9,q9⟩,⟨zH,yE⟩,zI,yB⟩:=AS (HX.o _ HI.o.2).2;have f6:=((HX.o _ HI.o.2).1 6 _ rfl).2;clear hO zF HI;go_wp2
    refine bodyPost_ret (v:=.agg #[XK,XJ wd,XJ (now+zA),XJ given,XJ births,.slice ta tn tc,.slice pa pn pc,.slice (some ⟨g,0,none⟩) (AG ls (now+zA)).length c,XM,XK,XM,XM]) (by simp[results,results90,go_sem,y0,y1,y2,y3,y4,y5,y6,y7,y8,y9,zH,zI]) rfl ?_
    have T':=(Tn.set (V:=[w.heap.size,w.heap.size+1]) wr w.heap.size 6 (.slice (some ⟨g,0,none⟩) (AG ls (now+zA)).length c) (by simp)).trans (Tn.mono (Bc (wr.setCell (XL (w.heap.size) 6) (.slice (some ⟨g,0,none⟩) (AG ls (now+zA)).length c)) (w.heap.size+1) XK (XJ wd) (XJ (now+zA)) (XJ given) (XJ births) (.slice ta tn tc) (.slice pa pn pc) (.slice (some ⟨g,0,none⟩) (AG ls (now+zA)).length c) XM XK XM XM) (by simp))
    exact⟨zV.o.trans (T'.below zV.o.size (by intro v hv;simp at hv;omega)),.inr ⟨zB.o,g,c,rfl,(Ah HO.o (fun q hq=>T'.block q (Ac HO.o hq).2 (by have:=(Ac HO.o hq).1;simp;omega))).mono (by omega)⟩⟩
end Go.Proofs.YtpekbmegopfhfaaGreatDoor
