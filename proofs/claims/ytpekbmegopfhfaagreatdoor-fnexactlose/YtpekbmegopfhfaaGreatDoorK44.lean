import Derived.Test.YtpekbmegopfhfaaGreatDoorK43
import Derived.Test.YtpekbmegopfhfaaGreatDoorK37
import Derived.Lib.OwnKind
set_option maxRecDepth 100000
set_option maxHeartbeats 16000000
namespace Go.Proofs.YtpekbmegopfhfaaGreatDoor
open Go.ChangeShapes Go.WideShapes Go.ChangeAt Go.RowKit _root_.Go.Proofs.Tryz
def vN:Vd:=⟨0,0,[],[],0,0,0,0,[],[],[],0,[],[],0,0,0⟩
def vZ (v:Vd):Vd:={vN with wd:=v.wd,lim:=v.lim}
def vY (v:Vd):Vd:={v with ph:=0,top:=0,at_:=0,ro:=0}
theorem Om (v:Vd) (a:Va) (w:World) (hr:Cb w w.heap.size a v) (hf:CK v):
 Calls prog 29 #[.agg #[XJ v.wd,XJ v.lim,.slice a.sa v.ss.length a.sc,.slice a.ta v.tt.length a.tc,XJ v.sw,XJ v.now,XJ v.given,XJ v.births,.slice a.ka v.ks.length a.kc,.slice a.pa v.ps.length a.pc,.slice a.la v.ls.length a.lc,XJ v.ph,.slice a.qa v.qs.length a.qc,.slice a.ma v.ms.length a.mc,XJ v.top,XJ v.at_,XJ v.ro]] w fun e w'=>∃g k g3 q3 r3 g5 k5 rs,e=.returned (.agg (AK v (.slice (some ⟨g,0,none⟩) v.ss.length v.ss.length) (.slice (some ⟨k,0,none⟩) v.tt.length v.tt.length) (.slice (some ⟨g3,0,none⟩) v.ks.length v.ks.length) (.slice (some ⟨q3,0,none⟩) v.ps.length v.ps.length) (.slice (some ⟨r3,0,none⟩) v.ls.length v.ls.length) (.slice (some ⟨g5,0,none⟩) v.qs.length v.qs.length) (.slice (some ⟨k5,0,none⟩) v.ms.length v.ms.length)).toArray)/\Aw w' w.heap.size (.slice (some ⟨g,0,none⟩) v.ss.length v.ss.length) (.slice (some ⟨k,0,none⟩) v.tt.length v.tt.length) (.slice (some ⟨g3,0,none⟩) v.ks.length v.ks.length) (.slice (some ⟨q3,0,none⟩) v.ps.length v.ps.length) (.slice (some ⟨r3,0,none⟩) v.ls.length v.ls.length) (.slice (some ⟨g5,0,none⟩) v.qs.length v.qs.length) (.slice (some ⟨k5,0,none⟩) v.ms.length v.ms.length) rs v/\(∀x∈rs,∃q n c,x=.slice (some ⟨q,0,none⟩) n c)/\Xz w w':=by
 obtain⟨W0,zN⟩:∃W,W=((w.alloc (.cells #[XJ v.wd,XJ v.lim,.slice a.sa v.ss.length a.sc,.slice a.ta v.tt.length a.tc,XJ v.sw,XJ v.now,XJ v.given,XJ v.births,.slice a.ka v.ks.length a.kc,.slice a.pa v.ps.length a.pc,.slice a.la v.ls.length a.lc,XJ v.ph,.slice a.qa v.qs.length a.qc,.slice a.ma v.ms.length a.mc,XJ v.top,XJ v.at_,XJ v.ro] 60)).alloc (.cells #[XK,XK,XN,XN,XK,XK,XK,XK,XN,XN,XN,XK,XN,XN,XK,XK,XK] 44)).alloc (.cells #[XJ v.wd,XJ v.lim,XN,XN,XK,XK,XK,XK,XN,XN,XN,XK,XN,XN,XK,XK,XK] 44):=⟨_,rfl⟩
 have zF:Hid (Xz w W0):=(Bp zN).1;have xS:=(Bp zN).2.1
 have yC:Hid (Aa W0 w.heap.size (AK v (.slice a.sa v.ss.length a.sc) (.slice a.ta v.tt.length a.tc) (.slice a.ka v.ks.length a.kc) (.slice a.pa v.ps.length a.pc) (.slice a.la v.ls.length a.lc) (.slice a.qa v.qs.length a.qc) (.slice a.ma v.ms.length a.mc))):=(Bp (l:=(AK v (.slice a.sa v.ss.length a.sc) (.slice a.ta v.tt.length a.tc) (.slice a.ka v.ks.length a.kc) (.slice a.pa v.ps.length a.pc) (.slice a.la v.ls.length a.lc) (.slice a.qa v.qs.length a.qc) (.slice a.ma v.ms.length a.mc))) zN).2.2.1
 have yT:Hid (Aa W0 (w.heap.size+1) (AK vN XN XN XN XN XN XN XN)):=(Bp (l:=(AK v (.slice a.sa v.ss.length a.sc) (.slice a.ta v.tt.length a.tc) (.slice a.ka v.ks.length a.kc) (.slice a.pa v.ps.length a.pc) (.slice a.la v.ls.length a.lc) (.slice a.qa v.qs.length a.qc) (.slice a.ma v.ms.length a.mc))) (k:=(AK vN XN XN XN XN XN XN XN)) zN).2.2.2.1
 have zX:Hid (Aa W0 (w.heap.size+1+1) (AK (vZ v) XN XN XN XN XN XN XN)):=(Bp (l:=(AK v (.slice a.sa v.ss.length a.sc) (.slice a.ta v.tt.length a.tc) (.slice a.ka v.ks.length a.kc) (.slice a.pa v.ps.length a.pc) (.slice a.la v.ls.length a.lc) (.slice a.qa v.qs.length a.qc) (.slice a.ma v.ms.length a.mc))) (k:=(AK vN XN XN XN XN XN XN XN)) (m:=(AK (vZ v) XN XN XN XN XN XN XN)) zN).2.2.2.2
 have HR:Hid (∀X,Xz w X->Cb X X.heap.size a v):=fun X hX=>hr.below' hX;have yR:Hid _:=zN;clear zN hr;go_enter func29,ntmps29;go_wp2_with fail;rw[←yR.o];clear yR;refine(Sa a.sa a.ta a.sc a.tc v.ss v.tt W0 (HR.o W0 zF.o).s (HR.o W0 zF.o).t hf.s hf.t).mono ?_;rintro e w1 ⟨g,k,rfl,_,yP,yO,zM,zH⟩;have z1:=zH.size
 obtain⟨W1,zV⟩:∃X,X=((w1.setCell (XL (w.heap.size+1+1) 2) (.slice (some ⟨g,0,none⟩) v.ss.length v.ss.length)).setCell (XL (w.heap.size+1+1) 3) (.slice (some ⟨k,0,none⟩) v.tt.length v.tt.length)):=⟨_,rfl⟩;have t1:Tn [w.heap.size+1+1] w1 W1:=by rw[zV];exact(Tn.set _ _ _ _ (by simp)).trans (Tn.set _ _ _ _ (by simp))
 have xG:W1.heap.size=w1.heap.size:=by rw[zV];simp
 have zG:Hid (Aa W1 w.heap.size (AK v (.slice a.sa v.ss.length a.sc) (.slice a.ta v.tt.length a.tc) (.slice a.ka v.ks.length a.kc) (.slice a.pa v.ps.length a.pc) (.slice a.la v.ls.length a.lc) (.slice a.qa v.qs.length a.qc) (.slice a.ma v.ms.length a.mc))):=Aa.same (Aa.below yC.o zH) (t1.block _ (by omega) (by simp<;>omega))
 have yQ:Hid (Aa W1 (w.heap.size+1) (AK vN XN XN XN XN XN XN XN)):=Aa.same (Aa.below yT.o zH) (t1.block _ (by omega) (by simp<;>omega));have zE:Hid (Aa W1 (w.heap.size+1+1) (AK (vZ v) (.slice (some ⟨g,0,none⟩) v.ss.length v.ss.length) (.slice (some ⟨k,0,none⟩) v.tt.length v.tt.length) XN XN XN XN XN)):=by
  have h1:=Aa.below zX.o zH;show Aa W1 (w.heap.size+1+1) (AK (vZ v) (.slice (some ⟨g,0,none⟩) v.ss.length v.ss.length) (.slice (some ⟨k,0,none⟩) v.tt.length v.tt.length) XN XN XN XN XN);rw[zV];exact((h1.set 2 _).set 3 _)
 have zO:Hid (Xz w W1):=(zF.o.trans (zH.mono zF.o.size)).trans (t1.below (by omega) (by simp<;>omega));have yB:Hid (W1.ownsRow W0.heap.size 9 1 (.slice (some ⟨g,0,none⟩) v.ss.length v.ss.length) v.ss.length (v.ss.map Value.string)):=Bq yO t1 (by simp;omega)
 have yH:Hid (W1.ownsRow W0.heap.size 9 1 (.slice (some ⟨k,0,none⟩) v.tt.length v.tt.length) v.tt.length (v.tt.map Value.string)):=Bq zM t1 (by simp;omega);have HN:Hid (g<k/\k<w1.heap.size):=⟨yP,(Ac zM (g:=k) rfl).2⟩;clear yO zM yP;obtain⟨e2,f2⟩:=Aa.below zX.o zH 2 _ rfl;obtain⟨e3,f3⟩:=Aa.below zX.o zH 3 _ rfl;have yI:Hid _:=zV;clear zV;go_upto_region 5 with fail;rw[←yI.o]
 clear yI e2 f2 e3 f3 zH t1 yC yT zX;obtain⟨y4,_⟩:=zG.o 4 _ rfl;obtain⟨y5,_⟩:=zG.o 5 _ rfl;obtain⟨y6,_⟩:=zG.o 6 _ rfl;obtain⟨y7,_⟩:=zG.o 7 _ rfl;obtain⟨y8,_⟩:=zG.o 8 _ rfl;obtain⟨y9,_⟩:=zG.o 9 _ rfl;obtain⟨xI,_⟩:=zG.o 10 _ rfl;go_wp2_with fail;refine(Ol v.sw v.now v.given v.births a.ka a.pa a.la a.kc a.pc a.lc v.ks v.ps v.ls W1 (HR.o W1 zO.o).st hf.st).mono ?_
 rintro e w2 ⟨g3,q3,r3,rs,rfl,zZ,yG,zB⟩;have z2:=zB.size
 obtain⟨W2,zW⟩:∃X,X=(((((((w2.setCell (XL (w.heap.size+1+1) 4) (XJ v.sw)).setCell (XL (w.heap.size+1+1) 5) (XJ v.now)).setCell (XL (w.heap.size+1+1) 6) (XJ v.given)).setCell (XL (w.heap.size+1+1) 7) (XJ v.births)).setCell (XL (w.heap.size+1+1) 8) (.slice (some ⟨g3,0,none⟩) v.ks.length v.ks.length)).setCell (XL (w.heap.size+1+1) 9) (.slice (some ⟨q3,0,none⟩) v.ps.length v.ps.length)).setCell (XL (w.heap.size+1+1) 10) (.slice (some ⟨r3,0,none⟩) v.ls.length v.ls.length)):=⟨_,rfl⟩
 have t2:Tn [w.heap.size+1+1] w2 W2:=by rw[zW];exact((((((Tn.set _ _ _ _ (by simp)).trans (Tn.set _ _ _ _ (by simp))).trans (Tn.set _ _ _ _ (by simp))).trans (Tn.set _ _ _ _ (by simp))).trans (Tn.set _ _ _ _ (by simp))).trans (Tn.set _ _ _ _ (by simp))).trans (Tn.set _ _ _ _ (by simp))
 have xT:W2.heap.size=w2.heap.size:=by rw[zW];simp
 have zI:Hid (Aa W2 w.heap.size (AK v (.slice a.sa v.ss.length a.sc) (.slice a.ta v.tt.length a.tc) (.slice a.ka v.ks.length a.kc) (.slice a.pa v.ps.length a.pc) (.slice a.la v.ls.length a.lc) (.slice a.qa v.qs.length a.qc) (.slice a.ma v.ms.length a.mc))):=Aa.same (Aa.below zG.o zB) (t2.block _ (by omega) (by simp<;>omega))
 have yK:Hid (Aa W2 (w.heap.size+1) (AK vN XN XN XN XN XN XN XN)):=Aa.same (Aa.below yQ.o zB) (t2.block _ (by omega) (by simp<;>omega))
 have zJ:Hid (Aa W2 (w.heap.size+1+1) (AK (vY v) (.slice (some ⟨g,0,none⟩) v.ss.length v.ss.length) (.slice (some ⟨k,0,none⟩) v.tt.length v.tt.length) (.slice (some ⟨g3,0,none⟩) v.ks.length v.ks.length) (.slice (some ⟨q3,0,none⟩) v.ps.length v.ps.length) (.slice (some ⟨r3,0,none⟩) v.ls.length v.ls.length) XN XN)):=by
  have h1:=Aa.below zE.o zB;show Aa W2 (w.heap.size+1+1) (AK (vY v) (.slice (some ⟨g,0,none⟩) v.ss.length v.ss.length) (.slice (some ⟨k,0,none⟩) v.tt.length v.tt.length) (.slice (some ⟨g3,0,none⟩) v.ks.length v.ks.length) (.slice (some ⟨q3,0,none⟩) v.ps.length v.ps.length) (.slice (some ⟨r3,0,none⟩) v.ls.length v.ls.length) XN XN);rw[zW]
  exact(((((((h1.set 4 _).set 5 _).set 6 _).set 7 _).set 8 _).set 9 _).set 10 _)
 have zC:Hid (Xz w W2):=(zO.o.trans (zB.mono zO.o.size)).trans (t2.below (by omega) (by simp<;>omega));have yL:Hid (W2.ownsRow W0.heap.size 9 1 (.slice (some ⟨g,0,none⟩) v.ss.length v.ss.length) v.ss.length (v.ss.map Value.string)):=Bq (Ad yB.o zB) t2 (by simp;omega)
 have yS:Hid (W2.ownsRow W0.heap.size 9 1 (.slice (some ⟨k,0,none⟩) v.tt.length v.tt.length) v.tt.length (v.tt.map Value.string)):=Bq (Ad yH.o zB) t2 (by simp;omega);have yU:Hid (AY W2 W1.heap.size (.slice (some ⟨g3,0,none⟩) v.ks.length v.ks.length) (.slice (some ⟨q3,0,none⟩) v.ps.length v.ps.length) (.slice (some ⟨r3,0,none⟩) v.ls.length v.ls.length) rs v.ks v.ps v.ls):=zZ.turn t2 (by simp;omega)
 have xA:Hid (∀b∈Bn (.slice (some ⟨g3,0,none⟩) v.ks.length v.ks.length) (.slice (some ⟨q3,0,none⟩) v.ps.length v.ps.length) (.slice (some ⟨r3,0,none⟩) v.ls.length v.ls.length) rs,b<w2.heap.size):=zZ.lts;have xL:Hid (∀x∈rs,∃q n c,x=.slice (some ⟨q,0,none⟩) n c):=yG;clear zZ yG yB yH y4 y5 y6 y7 y8 y9 xI;obtain⟨e4,f4⟩:=Aa.below zE.o zB 4 _ rfl;obtain⟨e5,f5⟩:=Aa.below zE.o zB 5 _ rfl
 obtain⟨e6,f6⟩:=Aa.below zE.o zB 6 _ rfl;obtain⟨e7,f7⟩:=Aa.below zE.o zB 7 _ rfl;obtain⟨e8,f8⟩:=Aa.below zE.o zB 8 _ rfl;obtain⟨e9,f9⟩:=Aa.below zE.o zB 9 _ rfl;obtain⟨xD,f10⟩:=Aa.below zE.o zB 10 _ rfl;have yM:Hid _:=zW;clear zW;go_upto_region 6 with fail;rw[←yM.o];clear yM e4 f4 e5 f5 e6 f6 e7 f7 e8 f8 e9 f9 xD f10 zB t2 zG yQ zE;obtain⟨xQ,_⟩:=zI.o 11 _ rfl;obtain⟨xF,_⟩:=zI.o 12 _ rfl
 obtain⟨xP,_⟩:=zI.o 13 _ rfl;obtain⟨xH,_⟩:=zI.o 14 _ rfl;obtain⟨yX,_⟩:=zI.o 15 _ rfl;obtain⟨xB,_⟩:=zI.o 16 _ rfl;go_wp2_with fail;refine(Od v.ph v.top v.at_ v.ro a.qa a.ma a.qc a.mc v.qs v.ms W2 (HR.o W2 zC.o).q (HR.o W2 zC.o).m hf.r).mono ?_;rintro e w3 ⟨g5,k5,rfl,_,yN,yA,zK,zA⟩;have z3:=zA.size
 obtain⟨W3,zS⟩:∃X,X=((((((w3.setCell (XL (w.heap.size+1+1) 11) (XJ v.ph)).setCell (XL (w.heap.size+1+1) 12) (.slice (some ⟨g5,0,none⟩) v.qs.length v.qs.length)).setCell (XL (w.heap.size+1+1) 13) (.slice (some ⟨k5,0,none⟩) v.ms.length v.ms.length)).setCell (XL (w.heap.size+1+1) 14) (XJ v.top)).setCell (XL (w.heap.size+1+1) 15) (XJ v.at_)).setCell (XL (w.heap.size+1+1) 16) (XJ v.ro)):=⟨_,rfl⟩
 have t3:Tn [w.heap.size+1+1] w3 W3:=by rw[zS];exact(((((Tn.set _ _ _ _ (by simp)).trans (Tn.set _ _ _ _ (by simp))).trans (Tn.set _ _ _ _ (by simp))).trans (Tn.set _ _ _ _ (by simp))).trans (Tn.set _ _ _ _ (by simp))).trans (Tn.set _ _ _ _ (by simp))
 have xR:W3.heap.size=w3.heap.size:=by rw[zS];simp
 have xC:Hid (Aa W3 w.heap.size (AK v (.slice a.sa v.ss.length a.sc) (.slice a.ta v.tt.length a.tc) (.slice a.ka v.ks.length a.kc) (.slice a.pa v.ps.length a.pc) (.slice a.la v.ls.length a.lc) (.slice a.qa v.qs.length a.qc) (.slice a.ma v.ms.length a.mc))):=Aa.same (Aa.below zI.o zA) (t3.block _ (by omega) (by simp<;>omega))
 have zY:Hid (Aa W3 (w.heap.size+1) (AK vN XN XN XN XN XN XN XN)):=Aa.same (Aa.below yK.o zA) (t3.block _ (by omega) (by simp<;>omega))
 have yE:Hid (Aa W3 (w.heap.size+1+1) (AK v (.slice (some ⟨g,0,none⟩) v.ss.length v.ss.length) (.slice (some ⟨k,0,none⟩) v.tt.length v.tt.length) (.slice (some ⟨g3,0,none⟩) v.ks.length v.ks.length) (.slice (some ⟨q3,0,none⟩) v.ps.length v.ps.length) (.slice (some ⟨r3,0,none⟩) v.ls.length v.ls.length) (.slice (some ⟨g5,0,none⟩) v.qs.length v.qs.length) (.slice (some ⟨k5,0,none⟩) v.ms.length v.ms.length))):=by
  have h1:=Aa.below zJ.o zA
  show Aa W3 (w.heap.size+1+1) (AK v (.slice (some ⟨g,0,none⟩) v.ss.length v.ss.length) (.slice (some ⟨k,0,none⟩) v.tt.length v.tt.length) (.slice (some ⟨g3,0,none⟩) v.ks.length v.ks.length) (.slice (some ⟨q3,0,none⟩) v.ps.length v.ps.length) (.slice (some ⟨r3,0,none⟩) v.ls.length v.ls.length) (.slice (some ⟨g5,0,none⟩) v.qs.length v.qs.length) (.slice (some ⟨k5,0,none⟩) v.ms.length v.ms.length))
  rw[zS];exact((((((h1.set 11 _).set 12 _).set 13 _).set 14 _).set 15 _).set 16 _)
 have zU:Hid (Xz w W3):=(zC.o.trans (zA.mono zC.o.size)).trans (t3.below (by omega) (by simp<;>omega))
 have zP:Aw W3 W0.heap.size (.slice (some ⟨g,0,none⟩) v.ss.length v.ss.length) (.slice (some ⟨k,0,none⟩) v.tt.length v.tt.length) (.slice (some ⟨g3,0,none⟩) v.ks.length v.ks.length) (.slice (some ⟨q3,0,none⟩) v.ps.length v.ps.length) (.slice (some ⟨r3,0,none⟩) v.ls.length v.ls.length) (.slice (some ⟨g5,0,none⟩) v.qs.length v.qs.length) (.slice (some ⟨k5,0,none⟩) v.ms.length v.ms.length) rs v:=
  (Aw.of (n1:=w1.heap.size) (n2:=w2.heap.size) (Ar.own (Bq (Ad yL.o zA) t3 (by simp;omega))) (Ar.own (Bq (Ad yS.o zA) t3 (by simp;omega))) (fun b h1 h2=>by cases h1;cases h2;exact absurd HN.o.1 (Nat.lt_irrefl _)) (fun b hb=>by have hN:=HN.o;rcases hb with hb|hb<;>cases hb;exact Nat.lt_trans hN.1 hN.2;exact hN.2) (xG▸(yU.o.below zA).turn t3 (by simp;omega)) (by omega) xA.o (Ar.own ((Bq yA t3 (by simp;omega)).mono (by omega))) (Ar.own ((Bq zK t3 (by simp;omega)).mono (by omega))) (fun b hb=>by have q1:=(Ac yA (g:=g5) rfl).1;have q2:=(Ac zK (g:=k5) rfl).1;rcases hb with hb|hb<;>cases hb;(show w2.heap.size<=g5;omega);(show w2.heap.size<=k5;omega)) (by omega) (fun b h1 h2=>by cases h1;cases h2;exact absurd yN (Nat.lt_irrefl _)))
 have yJ:Hid (Aw W3 w.heap.size (.slice (some ⟨g,0,none⟩) v.ss.length v.ss.length) (.slice (some ⟨k,0,none⟩) v.tt.length v.tt.length) (.slice (some ⟨g3,0,none⟩) v.ks.length v.ks.length) (.slice (some ⟨q3,0,none⟩) v.ps.length v.ps.length) (.slice (some ⟨r3,0,none⟩) v.ls.length v.ls.length) (.slice (some ⟨g5,0,none⟩) v.qs.length v.qs.length) (.slice (some ⟨k5,0,none⟩) v.ms.length v.ms.length) rs v):=zP.mono (by omega)
 have xM:Hid (∀b∈CE (.slice (some ⟨g,0,none⟩) v.ss.length v.ss.length) (.slice (some ⟨k,0,none⟩) v.tt.length v.tt.length) (.slice (some ⟨g3,0,none⟩) v.ks.length v.ks.length) (.slice (some ⟨q3,0,none⟩) v.ps.length v.ps.length) (.slice (some ⟨r3,0,none⟩) v.ls.length v.ls.length) (.slice (some ⟨g5,0,none⟩) v.qs.length v.qs.length) (.slice (some ⟨k5,0,none⟩) v.ms.length v.ms.length) rs,w.heap.size+1<b):=fun b hb=>by have:=zP.lo b hb;omega
 clear zP yA zK yN yL yS yU xQ xF xP xH yX xB;obtain⟨yZ,f11⟩:=Aa.below zJ.o zA 11 _ rfl;obtain⟨xK,f12⟩:=Aa.below zJ.o zA 12 _ rfl;obtain⟨yW,f13⟩:=Aa.below zJ.o zA 13 _ rfl;obtain⟨xO,f14⟩:=Aa.below zJ.o zA 14 _ rfl;obtain⟨xJ,f15⟩:=Aa.below zJ.o zA 15 _ rfl;obtain⟨yV,f16⟩:=Aa.below zJ.o zA 16 _ rfl;have yD:Hid _:=zS;clear zS;go_upto_region 7 with fail;rw[←yD.o]
 clear yD yZ f11 xK f12 yW f13 xO f14 xJ f15 yV f16 zA t3 zI yK zJ
 obtain⟨W4,zT⟩:∃X,X=W3.setCells (w.heap.size+1) 0 (AK v (.slice (some ⟨g,0,none⟩) v.ss.length v.ss.length) (.slice (some ⟨k,0,none⟩) v.tt.length v.tt.length) (.slice (some ⟨g3,0,none⟩) v.ks.length v.ks.length) (.slice (some ⟨q3,0,none⟩) v.ps.length v.ps.length) (.slice (some ⟨r3,0,none⟩) v.ls.length v.ls.length) (.slice (some ⟨g5,0,none⟩) v.qs.length v.qs.length) (.slice (some ⟨k5,0,none⟩) v.ms.length v.ms.length)).toArray.toList:=⟨_,rfl⟩
 have t4:Tn [w.heap.size+1] W3 W4:=by rw[zT];exact AL _ _ _ _
 have x4:Aa W4 (w.heap.size+1) (AK v (.slice (some ⟨g,0,none⟩) v.ss.length v.ss.length) (.slice (some ⟨k,0,none⟩) v.tt.length v.tt.length) (.slice (some ⟨g3,0,none⟩) v.ks.length v.ks.length) (.slice (some ⟨q3,0,none⟩) v.ps.length v.ps.length) (.slice (some ⟨r3,0,none⟩) v.ls.length v.ls.length) (.slice (some ⟨g5,0,none⟩) v.qs.length v.qs.length) (.slice (some ⟨k5,0,none⟩) v.ms.length v.ms.length)):=by rw[zT];exact zY.o.setAll _ rfl
 have HV:Hid (Aw W4 w.heap.size (.slice (some ⟨g,0,none⟩) v.ss.length v.ss.length) (.slice (some ⟨k,0,none⟩) v.tt.length v.tt.length) (.slice (some ⟨g3,0,none⟩) v.ks.length v.ks.length) (.slice (some ⟨q3,0,none⟩) v.ps.length v.ps.length) (.slice (some ⟨r3,0,none⟩) v.ls.length v.ls.length) (.slice (some ⟨g5,0,none⟩) v.qs.length v.qs.length) (.slice (some ⟨k5,0,none⟩) v.ms.length v.ms.length) rs v):=yJ.o.stays t4 (fun b hb hin=>by have:=xM.o b hin;simp at hb;omega)
 have xN:Hid (Xz w W4):=zU.o.trans (t4.below zU.o.size (by simp))
 obtain⟨cs,zR⟩:∃cs,cs=(AK v (.slice (some ⟨g,0,none⟩) v.ss.length v.ss.length) (.slice (some ⟨k,0,none⟩) v.tt.length v.tt.length) (.slice (some ⟨g3,0,none⟩) v.ks.length v.ks.length) (.slice (some ⟨q3,0,none⟩) v.ps.length v.ps.length) (.slice (some ⟨r3,0,none⟩) v.ls.length v.ls.length) (.slice (some ⟨g5,0,none⟩) v.qs.length v.qs.length) (.slice (some ⟨k5,0,none⟩) v.ms.length v.ms.length)):=⟨_,rfl⟩
 have yF:cs.toArray.size=17:=by rw[zR];rfl
 have HI:Hid (W3.there (w.heap.size+1) 0 cs.toArray.size/\∀x∈cs,x.oneCell'=true):=⟨by rw[yF];exact zY.o.there,by rw[zR];simp[AK,Value.oneCell']⟩;have HL:Hid (cs.length=17):=by show cs.length=17;rw[zR];rfl
 have HC:Hid (Aa W3 (w.heap.size+1+1) cs):=zR▸yE.o;rw[←zR] at x4 zT;have xE:Hid _:=x4;have yY:Hid _:=zT;have HE:Hid _:=zR;clear yF zR x4 zT t4 yE zY xC yJ;go_wp2_with (first
  |refine wpList_load_mid rfl 44 _ rfl (w.heap.size+1+1) 0 rfl cs _ HC.o.range underlying44 rfl (by rw[HL.o];kernel_rfl) ?_
  |refine wpList_store_mid rfl 44 _ _ rfl (w.heap.size+1) 0 cs.toArray rfl rfl HI.o.1 (by rw[List.size_toArray,HL.o];kernel_rfl) (all_oneCell_toArray HI.o.2) ?_)
 rw[←yY.o];refine bodyPost_ret (CG results29 _ _ (w.heap.size+1) cs _ rfl (Aa.range xE.o) underlying44 rfl (by rw[HL.o];kernel_rfl)) rfl ?_;exact⟨g,k,g3,q3,r3,g5,k5,by rw[HE.o],rs,HV.o,xL.o,xN.o⟩
structure WN (ss tt:List ByteArray):Prop where
 s:ss.length<=1048576
 t:tt.length<=1048576
 ss:∀s∈ss,s.size<=1048576
 tt:∀s∈tt,s.size<=1048576
def Xt (ss tt:List ByteArray) (L:Nat) (X:World) (cs:List Value):Prop:=
 ∃g k c d,cs=[.slice (some ⟨g,0,none⟩) ss.length c,.slice (some ⟨k,0,none⟩) tt.length d]/\Ae X L (some ⟨g,0,none⟩) ss/\Ae X L (some ⟨k,0,none⟩) tt
def Xu (ss tt:List ByteArray) (lo N:Nat) (X:World) (cs:List Value):Prop:=
 (N<=X.heap.size/\lo<=X.heap.size)/\∃g k c d,cs=[.slice (some ⟨g,0,none⟩) ss.length c,.slice (some ⟨k,0,none⟩) tt.length d]/\Ar X lo (.slice (some ⟨g,0,none⟩) ss.length c) ss/\Ar X lo (.slice (some ⟨k,0,none⟩) tt.length d) tt/\g≠k/\g<N/\k<N
theorem Ar.got {w:World} {base n c:Nat} {a:Option Addr} {ss:List ByteArray} (h:Ar w base (.slice a n c) ss):Ae w w.heap.size a ss:=by
 obtain⟨a',c',e,hr⟩:=h.row;cases e;exact hr
def WO (w:World) (base:Nat) (a:Option Addr) (ss:List ByteArray):Prop:=
 ss=[]∨∃b off,a=some ⟨b,off,none⟩/\base<=b/\b<w.heap.size/\∀i s,ss[i]?=some s->w.cell? (XL b (off+i))=some (.string s)/\w.frozen? ⟨b,off+i,none⟩=false
def VT (a:Option Addr):Option Nat:=a.map (·.block)
def Xq (a:Option Addr) (ss:List ByteArray):Option Nat:=if ss=[] then none else VT a
def Jh (g k g3 q3 r3 g5 k5:Nat) (v:Vd):Va:=⟨some ⟨g,0,none⟩,v.ss.length,some ⟨k,0,none⟩,v.tt.length,some ⟨g3,0,none⟩,v.ks.length,some ⟨q3,0,none⟩,v.ps.length,some ⟨r3,0,none⟩,v.ls.length,some ⟨g5,0,none⟩,v.qs.length,some ⟨k5,0,none⟩,v.ms.length⟩
def Sj (v:Vd) (L:Nat) (X:World) (cs:List Value):Prop:=
 ∃g k g3 q3 r3 g5 k5,cs=[XJ v.wd,XJ v.lim,.slice (some ⟨g,0,none⟩) v.ss.length v.ss.length,.slice (some ⟨k,0,none⟩) v.tt.length v.tt.length,XJ v.sw,XJ v.now,XJ v.given,XJ v.births,.slice (some ⟨g3,0,none⟩) v.ks.length v.ks.length,.slice (some ⟨q3,0,none⟩) v.ps.length v.ps.length,.slice (some ⟨r3,0,none⟩) v.ls.length v.ls.length,XJ v.ph,.slice (some ⟨g5,0,none⟩) v.qs.length v.qs.length,.slice (some ⟨k5,0,none⟩) v.ms.length v.ms.length,XJ v.top,XJ v.at_,XJ v.ro]/\Cb X L (Jh g k g3 q3 r3 g5 k5 v) v/\Gz X ⟨g3,0,none⟩ v.ks
def Np (v:Vd) (lo N:Nat) (X:World) (cs:List Value):Prop:=
 (N<=X.heap.size/\lo<=X.heap.size)/\∃g k g3 q3 r3 g5 k5 rs,cs=AK v (.slice (some ⟨g,0,none⟩) v.ss.length v.ss.length) (.slice (some ⟨k,0,none⟩) v.tt.length v.tt.length) (.slice (some ⟨g3,0,none⟩) v.ks.length v.ks.length) (.slice (some ⟨q3,0,none⟩) v.ps.length v.ps.length) (.slice (some ⟨r3,0,none⟩) v.ls.length v.ls.length) (.slice (some ⟨g5,0,none⟩) v.qs.length v.qs.length) (.slice (some ⟨k5,0,none⟩) v.ms.length v.ms.length)/\Aw X lo (.slice (some ⟨g,0,none⟩) v.ss.length v.ss.length) (.slice (some ⟨k,0,none⟩) v.tt.length v.tt.length) (.slice (some ⟨g3,0,none⟩) v.ks.length v.ks.length) (.slice (some ⟨q3,0,none⟩) v.ps.length v.ps.length) (.slice (some ⟨r3,0,none⟩) v.ls.length v.ls.length) (.slice (some ⟨g5,0,none⟩) v.qs.length v.qs.length) (.slice (some ⟨k5,0,none⟩) v.ms.length v.ms.length) rs v/\(∀b∈CE (.slice (some ⟨g,0,none⟩) v.ss.length v.ss.length) (.slice (some ⟨k,0,none⟩) v.tt.length v.tt.length) (.slice (some ⟨g3,0,none⟩) v.ks.length v.ks.length) (.slice (some ⟨q3,0,none⟩) v.ps.length v.ps.length) (.slice (some ⟨r3,0,none⟩) v.ls.length v.ls.length) (.slice (some ⟨g5,0,none⟩) v.qs.length v.qs.length) (.slice (some ⟨k5,0,none⟩) v.ms.length v.ms.length) rs,b<N)/\∀x∈rs,∃q n c,x=.slice (some ⟨q,0,none⟩) n c
theorem Gz.keep {w w':World} {A:Addr} {ks:List Kd} {B:Nat} (h:Gz w A ks) (hr:Bx w B (some A) ks) (hb:Below B w w'):Gz w' A ks:=fun i k hk=>by
 obtain⟨ad,rc,hc⟩:=h i k hk;obtain⟨b,off,ha,zA,_⟩:=hr.at (XC hk).1;cases ha;exact⟨ad,rc,(hb.cell (p:=⟨b,off+i *4+3,none⟩) zA).trans hc⟩
theorem AY.ksome {X:World} {lo g c:Nat} {P L:Value} {rs:List Value} {ks:List Kd} {ps:List Pd} {ls:List Ld} (h:AY X lo (.slice (some ⟨g,0,none⟩) ks.length c) P L rs ks ps ls) (hs:∀x∈rs,∃q n c,x=.slice (some ⟨q,0,none⟩) n c):Gz X ⟨g,0,none⟩ ks:=fun i k hk=>by
 have hi:=(XC hk).1;have hr:i<rs.length:=by rw[h.len];exact hi
 have hx:=XD hr;obtain⟨q,n,d,e⟩:=hs _ (List.getElem_mem hr);have h1:=(h.refs i k _ hk hx);obtain⟨a,d',e'⟩:=Ay h1;have hz:(ks.zip rs)[i]?=some (k,rs[i]):=List.getElem?_zip_eq_some.2 ⟨hk,hx⟩;have h2:=Bl DG hz (show 3<4 by decide);have h3:=h.things.cellAt (i *4+3) (by omega);rw[e] at e';injection e' with e1 e2 e3;refine⟨⟨q,0,none⟩,d,?_⟩;rw[Nat.zero_add,h3,h2,←e2,←e];rfl
theorem Np.got {v:Vd} {lo N:Nat} {X:World} {cs:List Value} (h:Np v lo N X cs):Sj v X.heap.size X cs:=by
 obtain⟨_,g,k,g3,q3,r3,g5,k5,rs,rfl,h1,_,h3⟩:=h;obtain⟨ta,tc,pa,pc,la,lc,e1,e2,e3,h4⟩:=h1.st.rows;injection e1 with e1;injection e2 with e2;injection e3 with e3;subst e1 e2 e3;exact⟨g,k,g3,q3,r3,g5,k5,rfl,⟨h1.s.got,h1.u.got,h4,h1.q.got,h1.m.got⟩,h1.st.ksome h3⟩
theorem Un (v:Vd) (hf:CK v):FL 17 1000 22 25 (Sj v) (Np v) (fun _ _ _ _ _=>True):=by
 refine⟨?_,?_,?_,?_,?_,?_,?_,?_⟩
 ·rintro X cs ds ⟨g,k,g3,q3,r3,g5,k5,rfl,h1,_⟩ ⟨g',k',zF,zG,zB,zA,zE,rfl,h2,_⟩
  have h:=Jd v (Jh g k g3 q3 r3 g5 k5 v) (Jh g' k' zF zG zB zA zE v) X h1 h2 hf;simp only[Jh] at h;exact h
 ·rintro lo N X cs n ⟨hN,g,k,g3,q3,r3,g5,k5,rs,rfl,h1,h2,_⟩ zC zH
  have hc:=hf.cnt;refine(Kg v lo n _ _ _ _ _ _ _ rs X h1 zC (by omega)).mono ?_;rintro e X' ⟨rfl,_,h4⟩;exact⟨⟨n+CL v,rfl,by omega,by omega,trivial⟩,h4.below hN.2 h1.lo,fun q hq hq2=>h4.block q hq2 (fun e=>by have:=h2 q e;omega)⟩
 ·rintro L X X' cs ⟨g,k,g3,q3,r3,g5,k5,rfl,h1,h2⟩ hb
  exact⟨g,k,g3,q3,r3,g5,k5,rfl,h1.keep hb,h2.keep h1.st.k hb⟩
 ·rintro L L' X cs ⟨g,k,g3,q3,r3,g5,k5,rfl,h1,h2⟩ hl
  exact⟨g,k,g3,q3,r3,g5,k5,rfl,h1.mono hl,h2⟩
 ·rintro lo N X X' cs ⟨hN,g,k,g3,q3,r3,g5,k5,rs,rfl,h1,h2,h3⟩ hz hs
  exact⟨⟨XI hN.1 hz,XI hN.2 hz⟩,g,k,g3,q3,r3,g5,k5,rs,rfl,h1.keep h2 hz hs,h2,h3⟩
 ·rintro lo N X X' cs K _ _ _
  trivial
 ·exact fun lo N X cs h=>⟨h.1.1,h.got⟩
 ·rintro L X cs ⟨g,k,g3,q3,r3,g5,k5,rfl,_,_⟩
  exact⟨rfl,by simp[Value.oneCell']⟩
theorem LA (v:Vd) (a:Va) (w X:World) (hr:Cb w w.heap.size a v) (hf:CK v) (hX:Xz w X):
 Calls prog 29 #[.agg #[XJ v.wd,XJ v.lim,.slice a.sa v.ss.length a.sc,.slice a.ta v.tt.length a.tc,XJ v.sw,XJ v.now,XJ v.given,XJ v.births,.slice a.ka v.ks.length a.kc,.slice a.pa v.ps.length a.pc,.slice a.la v.ls.length a.lc,XJ v.ph,.slice a.qa v.qs.length a.qc,.slice a.ma v.ms.length a.mc,XJ v.top,XJ v.at_,XJ v.ro]] X fun e X'=>∃cs:List Value,e=.returned (.agg cs.toArray)/\Sj v X'.heap.size X' cs/\Np v X.heap.size X'.heap.size X' cs/\Xz X X':=by
 refine(Om v a X (hr.below' hX) hf).mono ?_;rintro e X' ⟨g,k,g3,q3,r3,g5,k5,rs,rfl,h1,h2,h3⟩;have h:Np v X.heap.size X'.heap.size X' _:=⟨⟨XB,h3.size⟩,g,k,g3,q3,r3,g5,k5,rs,rfl,h1,h1.lts,h2⟩;exact⟨_,rfl,h.got,h,h3⟩
def Xv (t:ByteArray) (refs:List ByteArray) (L:Nat) (X:World) (cs:List Value):Prop:=∃ra rc,cs=[.string t,.slice ra refs.length rc]/\Ae X L ra refs
def Xw (t:ByteArray) (refs ss:List ByteArray) (lo N:Nat) (X:World) (cs:List Value):Prop:=
 (N<=X.heap.size/\lo<=X.heap.size)/\ss.length=refs.length/\∃ra rc,cs=[.string t,.slice ra refs.length rc]/\WO X lo ra ss/\(refs≠[]->∀b,VT ra=some b->b<N)
section
attribute [local go_sem] Oper.semAt_some
theorem Eu.below {P:Program} {gf:Nat} {ar:Nat->Array Value} {xs:List ByteArray} {n0:Nat} {w w1:World} (h:Eu P gf ar xs n0 w) (hb:Xz w w1):Eu P gf ar xs n0 w1:=
 fun l J Jx W hW=>h l J Jx W (hb.trans (hW.mono hb.size))
theorem Qp (B base bx:Nat) (t:TypeId) (k:Nat->Nat) (f:Nat->List Value) (zB:bx<B):BQ B (fun n W=>∃v,Boxed W bx t v/\W.ownsRow base 9 1 v (k n) (f n)):=by
 rintro n W W' row ⟨v,hv,hr⟩ hg zA;refine⟨v,hv.kept hg (fun e=>by have:=(zA bx e.symm).1;omega),hr.kept hg ?_⟩;cases hb:v.ownBlock with
 |none=>exact .inl rfl
 |some r=>
  refine .inr fun e=> ?_;obtain⟨c,fz,hc⟩:=Lib.ownsRow_kind hr r hb;obtain⟨_,o,ho,hn⟩:=zA r e.symm;rw[hc] at ho;cases ho;simp[Bg] at hn
theorem Me (gf:Nat) (recv:Value) (eg:∀args w,(callFunc gf args).run prog w=.ok (.enter gf args) w) (xs:List ByteArray) (n0:Nat) (w:World)
 (zE:Eu prog gf (fun l=> #[recv,.func (.yield l) #[] #[]]) xs n0 w) (zM:n0<=w.heap.size) (hl:xs.length<=2097152):
 Calls prog 157 #[XN,.func (.func gf) #[recv] #[]] w fun e w'=>∃v,e=.returned v/\w'.ownsRow w.heap.size 9 1 v xs.length (xs.map Value.string)/\Xz w w':=by
 obtain⟨i0,hi,zO,zJ,zP⟩:=info_parts CO;refine(callsIn_wide (n:=3)).1 ?_;refine callsIn_of_wp_marks func157 rfl trivial ?_ rfl;simp only[ntmps157,List.size_toArray,List.length_cons,List.length_nil,Nat.reduceAdd,Nat.reduceSub,Array.replicate_succ,Array.replicate_zero,List.push_toArray,List.append_toArray,List.nil_append,List.cons_append]
 gi_wp2_with fail
 have bO:=Boxed.new w 22 XN;have zI:Below w.heap.size w (w.alloc (.cells #[XN] 22)):=(Below.refl _ w).alloc (XB) _;refine Gs (gf:=gf) (pre:= #[recv]) (lb:= #[]) rfl eg (xs:=xs) (n0:=n0) (by simpa using zE.below zI) (by simp;omega) rfl
  (fun k V=>(∃v,Boxed V w.heap.size 22 v/\V.ownsRow w.heap.size 9 1 v (xs.take k).length ((xs.take k).map Value.string))/\Xz w V)
  (fun _ _=>False)
  ((Qp _ _ _ _ (fun k=>(xs.take k).length) (fun k=>(xs.take k).map Value.string) (by simp)).and (Dk w (XB) (by simp)))
  (fun _ _ _ _ h _ _=>h)
  ⟨⟨_,bO,World.ownsRow_nil _ _ _ _⟩,zI⟩ (fun s=>{tmps:= #[XN,.func (.func gf) #[recv] #[],.pointer (some ⟨w.heap.size,0,none⟩),undef,XN,.string s,.func (.func gf) #[recv] #[],.string s,undef,undef,undef,undef,undef],defers:=[]}) ?assign ?body ?done ?stop
 case assign=>
  intro l2 m2 s V K hK
  gi_wp2
  exact hK
 case body=>
  rintro l2 m2 k s W zF ⟨⟨v,hv,zB⟩,hB⟩ zT;have hc:=hv.cell;have zG:(xs.take k).length=k:=by have:=(XC zF).1;simp;omega
  have zR:k<xs.length:=(XC zF).1;have zK:(xs.take (k+1))=xs.take k++[s]:=by
   obtain⟨zN,rfl⟩:=XC zF;exact XE zN
  gi_wp2_with (gi_at_builtin;refine wpListIn_append_own _ rfl _ _ 22 rfl w.heap.size 9 i0 XM 1 16 underlying22 hi zO zJ zP rfl (by decide) _ _ _ rfl (zB.alloc _) ⟨W.heap.size,0,none⟩ 1 1 [.string s] rfl rfl (cell_one_new _ _ _) (by simp[Value.oneCell']) (by unfold maxLen;omega) (by omega) (by have:=hB.size;simp;omega) ?_;intro v' w1 zC zA _;obtain⟨g',cap',rfl⟩:=ownsRow_succ zC;obtain⟨hv1,hv2,hr2,hk2,hb2⟩:=hv.appended (by decide) zB hB.size (XB) zC zA;have zU:=hv1.cell;have zS:=hv1.frozen)
  rw[zG] at hv2 hr2 hb2;refine⟨⟨XI (XI (by simp) zA.size) (by simp),fun q o hq ho hn=> ?_⟩,⟨⟨_,hv2,?_⟩,hB.trans hb2⟩,hb2.mono zM⟩
  ·simp at hq
   have zH:q<W.heap.size:=(Array.getElem?_eq_some_iff.1 ho).1;refine((grownBy_setCell' w1 w.heap.size _).block q (XH zH (XI (by simp) zA.size)) (fun e=>by cases e;omega)).trans ?_;refine(zA.block q (by simp;omega) (fun e=> ?_)).trans ((Below.heap_alloc W _ q zH).trans ho);obtain⟨c,fz,hc⟩:=Lib.ownsRow_kind zB q e.symm;rw[hc] at ho;cases ho;simp[Bg] at hn
  ·rw[zK]
   simpa [zG] using hr2
 case done=>
  rintro D W hD ⟨⟨v,hv,zB⟩,hB⟩ hK;have hc:=hv.cell
  gi_wp2
  refine⟨by simp,.inl ⟨_,_,rfl,run_takeDeferred hK,?_⟩⟩;rw[XF (XB)] at zB;exact⟨_,results_tmp rfl _ _ _,v,rfl,ownsRow_putObj zB _ hK rfl,hB.trans ⟨rfl,rfl,rfl,by simp,fun i hi=>World.putObj_heap_other (by simp at hD;omega)⟩⟩
 case stop=>
  rintro D k W _ h _;exact h.elim
end
theorem On (gf:Nat) (recv:Value) (eg:∀args w,(callFunc gf args).run prog w=.ok (.enter gf args) w) (xs:List ByteArray) (n0:Nat) (w:World)
 (zB:Eu prog gf (fun l=> #[recv,.func (.yield l) #[] #[]]) xs n0 w) (zC:n0<=w.heap.size) (hl:xs.length<=2097152):
 Calls prog 124 #[.func (.func gf) #[recv] #[]] w fun e w'=>∃v,e=.returned v/\w'.ownsRow w.heap.size 9 1 v xs.length (xs.map Value.string)/\Xz w w':=by
 go_enter func124,ntmps124;go_wp2_with fail;refine(Me gf recv eg xs n0 w zB zC hl).mono ?_;rintro e w1 ⟨v,rfl,zA,hb⟩;go_wp2;go_ret;exact⟨v,rfl,zA,hb⟩
def AN (ss tt:List ByteArray) (keep:Int):List ByteArray:=if Ci ss tt then ss++tt.take (min (max keep 0) tt.length).toNat else []
theorem Dp {w w4:World} {L:List ByteArray} {v:Value} (hB:Xz w w4) (ho:w4.ownsRow (w.heap.size+2) 9 1 v L.length (L.map Value.string)):
 ((w4.setCell (XL (w.heap.size+1) 0) v).setCell (XL (w.heap.size+1) 1) XN).ownsRow w.heap.size 9 1 v L.length (L.map Value.string)/\
   Xz w ((w4.setCell (XL (w.heap.size+1) 0) v).setCell (XL (w.heap.size+1) 1) XN):=
 ⟨(ownsRow_setCell_below (ownsRow_setCell_below ho (by simp) _) (by simp) _).mono (by omega),(hB.setCell (p:=⟨w.heap.size+1,0,none⟩) (by simp) _).setCell (p:=⟨w.heap.size+1,1,none⟩) (by simp) _⟩
theorem Ko (a b:Option Addr) (c d:Nat) (ss tt:List ByteArray) (keep:Int) (w:World) (hr:Ae w w.heap.size a ss) (hq:Ae w w.heap.size b tt) (hl:ss.length<=1048576) (zT:tt.length<=1048576)
 (hs:∀s∈ss,s.size<=1048576) (zP:∀s∈tt,s.size<=1048576) (hd:tt.length<=d):
 Calls prog 77 #[.agg #[.slice a ss.length c,.slice b tt.length d],.int .i64 keep] w fun e w'=>∃v,e=.returned (.agg #[v,(.slice none 0 0)])/\
  w'.ownsRow w.heap.size 9 1 v (AN ss tt keep).length ((AN ss tt keep).map Value.string)/\Xz w w':=by
 have zK:Below w.heap.size w ((w.alloc (.cells #[.slice a ss.length c,.slice b tt.length d] 40)).alloc (.cells #[(.slice none 0 0),(.slice none 0 0)] 40)):=(XA).alloc (by simp) _;go_enter func77,ntmps77;go_wp2_with fail;refine(FJ a b c d ss tt _ (hr.below' zK) (hq.below' zK) hl zT hs zP).mono ?_;rintro e w1 ⟨rfl,zC⟩;have zM:=zK.trans (zC.mono (by simp;omega));have zR:=zC.size;simp at zR
 have c0:w1.cell? ⟨(w.heap.size),0,none⟩=some (.slice a ss.length c):=by rw[zC.cell (p:=⟨w.heap.size,0,none⟩) (by simp;omega)];simp
 have c1:w1.cell? ⟨(w.heap.size),1,none⟩=some (.slice b tt.length d):=by rw[zC.cell (p:=⟨w.heap.size,1,none⟩) (by simp;omega)];simp
 have r0:w1.cell? ⟨(w.heap.size+1),0,none⟩=some (.slice none 0 0):=by rw[zC.cell (p:=⟨w.heap.size+1,0,none⟩) (by simp)];simp
 have r1:w1.cell? ⟨(w.heap.size+1),1,none⟩=some (.slice none 0 0):=by rw[zC.cell (p:=⟨w.heap.size+1,1,none⟩) (by simp)];simp
 have f0:∀o,w1.frozen? ⟨w.heap.size+1,o,none⟩=false:=fun o=>by rw[zC.frozen (p:=⟨w.heap.size+1,o,none⟩) (by simp)];simp[go_sem]
 clear zC;cases hok:Ci ss tt with
 |false=>
  go_wp2;refine bodyPost_ret (v:=.agg #[(.slice none 0 0),(.slice none 0 0)]) (by simp[results,results77,go_sem,r0,r1]) rfl ⟨(.slice none 0 0),rfl,?_,?_⟩
  ·simp only[AN,hok];exact World.ownsRow_nil _ _ _ _
  ·exact(zM.setCell (p:=⟨w.heap.size+1,0,none⟩) (by simp) _).setCell (p:=⟨w.heap.size+1,1,none⟩) (by simp) _
 |true=>
  go_wp2_with fail;refine(FU a b ss.length tt.length c d _).mono ?_;rintro e w2 ⟨rfl,zF⟩;have zH:=zM.trans (zF.mono zM.size);have zW:=zF.size;replace r0:=(zF.cell (p:=⟨w.heap.size+1,0,none⟩) (by simp;omega)).trans r0;replace r1:=(zF.cell (p:=⟨w.heap.size+1,1,none⟩) (by simp;omega)).trans r1
  replace f0:∀o,w2.frozen? ⟨w.heap.size+1,o,none⟩=false:=fun o=>(zF.frozen (p:=⟨w.heap.size+1,o,none⟩) (by simp;omega)).trans (f0 o);clear zF c0 c1;have fin:∀K,K<=tt.length->Calls prog 124 #[.func (.func 59) #[.agg #[.slice a ss.length c,.slice b K d]] #[]] (w2.alloc (.cells #[.slice a ss.length c,.slice b K d] 99)) fun e w'=>
   ∃v,e=.returned v/\((v=(.slice none 0 0)/\(ss++tt.take K).length=0)∨∃g cap,v=.slice (some ⟨g,0,none⟩) (ss++tt.take K).length cap)/\w'.ownsRow (w.heap.size+2) 9 1 v (ss++tt.take K).length ((ss++tt.take K).map Value.string)/\Below (w.heap.size+2) w2 w':=by
   intro K hK;have zV:(tt.take K).length=K:=by simp;omega
   have zU:Below (w.heap.size+2) w2 (w2.alloc (.cells #[.slice a ss.length c,.slice b K d] 99)):=(Below.refl _ _).alloc (by omega) _;have zJ:Below w.heap.size w (w2.alloc (.cells #[.slice a ss.length c,.slice b K d] 99)):=zH.alloc zH.size _;have zS:Ae w w.heap.size b (tt.take K):=by
    rcases hq with h|⟨q,off,h1,h2,h3⟩
    ·exact .inl (by simp[h])
    ·refine .inr ⟨q,off,h1,h2,fun i s his=>h3 i s ?_⟩
     have hi:=(XC his).1;rw[List.getElem?_take_of_lt (by omega)] at his;exact his
   have zN:=Hs a b c d ss (tt.take K) w.heap.size (w2.alloc (.cells #[.slice a ss.length c,.slice b K d] 99)) (hr.below zJ) (zS.below zJ) zJ.size (by unfold maxLen;omega) (by unfold maxLen;omega);rw[zV] at zN;refine(On 59 _ (enters_of func59 (by kernel_rfl) rfl) (ss++tt.take K) w.heap.size _ zN zJ.size (by simp;omega)).mono ?_;rintro e w4 ⟨v,rfl,ho,zB⟩
   exact⟨v,rfl,Joins.ownsRow_forms ho,ho.mono (by simp;omega),zU.trans (zB.mono (by simp;omega))⟩
  have zG:Hid _:=fin;clear fin hr hq hs zP;have close:∀K:Nat,(K:Int)=min (max keep 0) tt.length->AN ss tt keep=ss++tt.take K:=fun K hK=>by
   simp only[AN,hok,if_true];rw[←hK];simp
  have zA:Hid _:=close;clear close;by_cases h1:(tt.length:Int)<keep
  ·have hmm:min (max keep 0) (tt.length:Int)=tt.length:=by omega
   go_wp2_with fail
   refine(zG.o tt.length (by omega)).mono ?_;rintro e w4 ⟨v,rfl,hv,ho,zB⟩;have zE:=zA.o tt.length (by omega);have zO:=zB.size;replace r0:=(zB.cell (p:=⟨w.heap.size+1,0,none⟩) (by simp)).trans r0;replace r1:=(zB.cell (p:=⟨w.heap.size+1,1,none⟩) (by simp)).trans r1;replace f0:∀o,w4.frozen? ⟨w.heap.size+1,o,none⟩=false:=fun o=>(zB.frozen (p:=⟨w.heap.size+1,o,none⟩) (by simp)).trans (f0 o)
   have zI:=zH.trans (zB.mono (by omega));rw[←zE] at hv ho;have R:=Dp zI ho;have HR:Hid _:=R;clear zG zA ho zE R;obtain⟨L,hL⟩:∃L,L=AN ss tt keep:=⟨_,rfl⟩;rw[←hL] at hv;have HL:Hid _:=hL;clear hL;rcases hv with⟨rfl,hv⟩|⟨g,cap,rfl⟩
   ·go_wp2
    exact bodyPost_ret (v:=.agg #[(.slice none 0 0),(.slice none 0 0)]) (by simp[results,results77,go_sem,r0,r1]) rfl ⟨_,rfl,HR.o.1,HR.o.2⟩
   ·rw[HL.o] at HR ⊢
    go_wp2;exact bodyPost_ret (v:=.agg #[.slice (some ⟨g,0,none⟩) (AN ss tt keep).length cap,(.slice none 0 0)]) (by simp[results,results77,go_sem,r0,r1]) rfl ⟨_,rfl,HR.o.1,HR.o.2⟩
  ·by_cases h2:keep<0
   ·have hmm:min (max keep 0) (tt.length:Int)=0:=by omega
    go_wp2_with fail
    refine(zG.o 0 (by omega)).mono ?_;rintro e w4 ⟨v,rfl,hv,ho,zB⟩;have zE:=zA.o 0 (by omega);have zO:=zB.size;replace r0:=(zB.cell (p:=⟨w.heap.size+1,0,none⟩) (by simp)).trans r0;replace r1:=(zB.cell (p:=⟨w.heap.size+1,1,none⟩) (by simp)).trans r1;replace f0:∀o,w4.frozen? ⟨w.heap.size+1,o,none⟩=false:=fun o=>(zB.frozen (p:=⟨w.heap.size+1,o,none⟩) (by simp)).trans (f0 o)
    have zI:=zH.trans (zB.mono (by omega));rw[←zE] at hv ho;have R:=Dp zI ho;have HR:Hid _:=R;clear zG zA ho zE R;obtain⟨L,hL⟩:∃L,L=AN ss tt keep:=⟨_,rfl⟩;rw[←hL] at hv;have HL:Hid _:=hL;clear hL;rcases hv with⟨rfl,hv⟩|⟨g,cap,rfl⟩
    ·go_wp2
     exact bodyPost_ret (v:=.agg #[(.slice none 0 0),(.slice none 0 0)]) (by simp[results,results77,go_sem,r0,r1]) rfl ⟨_,rfl,HR.o.1,HR.o.2⟩
    ·rw[HL.o] at HR ⊢
     go_wp2;exact bodyPost_ret (v:=.agg #[.slice (some ⟨g,0,none⟩) (AN ss tt keep).length cap,(.slice none 0 0)]) (by simp[results,results77,go_sem,r0,r1]) rfl ⟨_,rfl,HR.o.1,HR.o.2⟩
   ·have hmm:min (max keep 0) (tt.length:Int)=keep:=by omega
    go_wp2_with fail
    refine(zG.o keep.toNat (by omega)).mono ?_;rintro e w4 ⟨v,rfl,hv,ho,zB⟩;have zE:=zA.o keep.toNat (by omega);have zO:=zB.size;replace r0:=(zB.cell (p:=⟨w.heap.size+1,0,none⟩) (by simp)).trans r0;replace r1:=(zB.cell (p:=⟨w.heap.size+1,1,none⟩) (by simp)).trans r1;replace f0:∀o,w4.frozen? ⟨w.heap.size+1,o,none⟩=false:=fun o=>(zB.frozen (p:=⟨w.heap.size+1,o,none⟩) (by simp)).trans (f0 o)
    have zI:=zH.trans (zB.mono (by omega));rw[←zE] at hv ho;have R:=Dp zI ho;have HR:Hid _:=R;clear zG zA ho zE R;obtain⟨L,hL⟩:∃L,L=AN ss tt keep:=⟨_,rfl⟩;rw[←hL] at hv;have HL:Hid _:=hL;clear hL;rcases hv with⟨rfl,hv⟩|⟨g,cap,rfl⟩
    ·go_wp2
     exact bodyPost_ret (v:=.agg #[(.slice none 0 0),(.slice none 0 0)]) (by simp[results,results77,go_sem,r0,r1]) rfl ⟨_,rfl,HR.o.1,HR.o.2⟩
    ·rw[HL.o] at HR ⊢
     go_wp2;exact bodyPost_ret (v:=.agg #[.slice (some ⟨g,0,none⟩) (AN ss tt keep).length cap,(.slice none 0 0)]) (by simp[results,results77,go_sem,r0,r1]) rfl ⟨_,rfl,HR.o.1,HR.o.2⟩
end Go.Proofs.YtpekbmegopfhfaaGreatDoor
