import Derived.Test.YtflhhhnlhlaehaaGreatDoorC24
import Derived.Test.YtflhhhnlhlaehaaGreatDoorC25
set_option maxRecDepth 100000
set_option maxHeartbeats 16000000
namespace Go.Proofs.YtflhhhnlhlaehaaGreatDoor
open Go.ChangeShapes Go.WideShapes Go.ChangeAt Go.RowKit _root_.Go.Proofs.Tryz
theorem Fs (ph top at_ ro:Int) (a b:Option Addr) (ac bc:Nat) (qs ms:List ByteArray) (w:World) (hq:Ad w w.heap.size a qs) (hm:Ad w w.heap.size b ms) (hf:FT qs ms):
 Calls prog 69 #[.agg #[.int .i64 ph,.slice a qs.length ac,.slice b ms.length bc,.int .i64 top,.int .i64 at_,.int .i64 ro]] w fun e w'=>∃x cx y cy,e=.returned (.agg #[.int .i64 ph,.slice x qs.length cx,.slice y ms.length cy,.int .i64 top,.int .i64 at_,.int .i64 ro])/\
  w'.ownsRow w.heap.size 9 1 (.slice x qs.length cx) qs.length (qs.map Value.string)/\w'.ownsRow w.heap.size 9 1 (.slice y ms.length cy) ms.length (ms.map Value.string)/\(∀g,(Value.slice x qs.length cx).ownBlock=some g->(Value.slice y ms.length cy).ownBlock≠some g)/\Uq w w':=by
 obtain⟨W,hW⟩:∃W,W=(w.alloc (.cells #[.int .i64 ph,.slice a qs.length ac,.slice b ms.length bc,.int .i64 top,.int .i64 at_,.int .i64 ro] 34)).alloc (.cells #[.int .i64 0,.slice none 0 0,.slice none 0 0,.int .i64 0,.int .i64 0,.int .i64 0] 34):=⟨_,rfl⟩;have zB:=(Ba hW).1;have x0:=(Ba hW).2.2.1
 have x1:Aa W (w.heap.size+1) [.int .i64 0,.slice none 0 0,.slice none 0 0,.int .i64 0,.int .i64 0,.int .i64 0]:=by
  have h1:=Aa.new (w.alloc (.cells #[.int .i64 ph,.slice a qs.length ac,.slice b ms.length bc,.int .i64 top,.int .i64 at_,.int .i64 ro] 34)) [.int .i64 0,.slice none 0 0,.slice none 0 0,.int .i64 0,.int .i64 0,.int .i64 0] 34;rw[World.size_alloc] at h1;rw[hW];exact h1
 have zM:=(Ba hW).2.1;have HW:Hid _:=hW;have zD:Hid (Aa W _ _):=(Ba hW).2.2.1;have zH:Hid (Aa W (w.heap.size+1) [.int .i64 0,.slice none 0 0,.slice none 0 0,.int .i64 0,.int .i64 0,.int .i64 0]):=x1;have HQ:Hid (Ad w w.heap.size a qs):=hq;have HM:Hid (Ad w w.heap.size b ms):=hm;obtain⟨a1,a2⟩:=Aa.c2 x0 1 2;clear hW x1 x0 hq hm;go_enter func69,ntmps69;go_upto_region 1 with fail;rw[←HW.o];clear HW
 go_region_with (first
  |(go_at_call 42;refine(Di a ac qs W.drew (Ad.below' (w:=w) HQ.o zB.drew) hf.q).mono ?_;rintro e w1 ⟨x,cx,rfl,zF,zI⟩;have zA:Below W.heap.size W w1:=(Below.refl W.heap.size W).drew.trans zI;obtain⟨b2,_⟩:=Aa.below zD.o zA 2 _ rfl)
  |(go_at_call 42;refine(Di b bc ms w1 (Ad.below' (w:=w) HM.o (zB.trans (zA.mono zB.size))) hf.m).mono ?_;rintro e w2 ⟨y,cy,rfl,zG,zE⟩;have zC:Below W.heap.size W w2:=zA.trans (zE.mono zA.size);obtain⟨⟨c0,d0⟩,⟨c1,d1⟩,⟨c2,d2⟩,⟨c3,d3⟩,⟨c4,d4⟩,c5,d5⟩:=c6 (Aa.below zD.o zC);obtain⟨⟨k0,g0⟩,⟨k1,g1⟩,⟨k2,g2⟩,⟨k3,g3⟩,⟨k4,g4⟩,k5,g5⟩:=c6 (Aa.below (v:=.int .i64 0) zH.o zC)))
 all_goals
  have zJ:w2.ownsRow (w.heap.size+2) 9 1 (.slice x qs.length cx) qs.length (qs.map Value.string):=(Ci zF zE).mono (by simp;omega);have zK:w2.ownsRow (w.heap.size+2) 9 1 (.slice y ms.length cy) ms.length (ms.map Value.string):=zG.mono (by have:=zA.size;omega)
  have zL:∀g,(Value.slice x qs.length cx).ownBlock=some g->(Value.slice y ms.length cy).ownBlock≠some g:=fun g h1 h2=>by have q1:=(Af zF h1).2;have q2:=(Af zG h2).1;omega
  have HO:Hid _:=And.intro zJ (And.intro zK (And.intro zL (zB.trans (zC.mono zB.size))));clear zJ zK zF zG zI zE zA zC zD zH HQ HM a1 a2 zB zL;go_wp2;refine bodyPost_ret (v:=.agg #[.int .i64 ph,.slice x qs.length cx,.slice y ms.length cy,.int .i64 top,.int .i64 at_,.int .i64 ro]) (by simp[results,results69,go_sem,k0,k1,k2,k3,k4,k5]) rfl ⟨x,cx,y,cy,rfl,?_,?_,HO.o.2.2.1,?_⟩
  ·refine World.ownsRow.mono ?_ (show w.heap.size<=w.heap.size+2 by omega)
   iterate 8 (refine ownsRow_setCell_below ?_ (by simp<;>omega) _)
   exact HO.o.1
  ·refine World.ownsRow.mono ?_ (show w.heap.size<=w.heap.size+2 by omega)
   iterate 8 (refine ownsRow_setCell_below ?_ (by simp<;>omega) _)
   exact HO.o.2.1
  ·iterate 8 (refine Below.setCell ?_ (by simp) _)
   exact HO.o.2.2.2
theorem IX (v:Vd) (a:Va) (r:Rs) (w:World) (hr:BV w w.heap.size a v) (hf:DM v) (zM:Cg v r):
 Calls prog 46 #[.agg #[.int .i64 v.wd,.int .i64 v.lim,.slice a.sa v.ss.length a.sc,.slice a.ta v.tt.length a.tc,.int .i64 v.sw,.int .i64 v.now,.int .i64 v.given,.int .i64 v.births,.slice a.ka v.ks.length a.kc,.slice a.pa v.ps.length a.pc,.slice a.la v.ls.length a.lc,.int .i64 v.ph,.slice a.qa v.qs.length a.qc,.slice a.ma v.ms.length a.mc,.int .i64 v.top,.int .i64 v.at_,.int .i64 v.ro]] w fun e w'=>∃(S U T P L Q M:Value) (rs:List Value),e=.returned (.agg #[.int .i64 v.wd,.int .i64 v.lim,S,U,.int .i64 v.sw,.int .i64 v.now,.int .i64 v.given,.int .i64 v.births,T,P,L,.int .i64 v.ph,Q,M,.int .i64 v.top,.int .i64 v.at_,.int .i64 v.ro])/\AV w' w.heap.size S U T P L Q M rs v/\Uq w w':=by
 obtain⟨W,hW⟩:∃W,W=(w.alloc (.cells #[.int .i64 v.wd,.int .i64 v.lim,.slice a.sa v.ss.length a.sc,.slice a.ta v.tt.length a.tc,.int .i64 v.sw,.int .i64 v.now,.int .i64 v.given,.int .i64 v.births,.slice a.ka v.ks.length a.kc,.slice a.pa v.ps.length a.pc,.slice a.la v.ls.length a.lc,.int .i64 v.ph,.slice a.qa v.qs.length a.qc,.slice a.ma v.ms.length a.mc,.int .i64 v.top,.int .i64 v.at_,.int .i64 v.ro] 36)).alloc (.cells #[.int .i64 0,.int .i64 0,.slice none 0 0,.slice none 0 0,.int .i64 0,.int .i64 0,.int .i64 0,.int .i64 0,.slice none 0 0,.slice none 0 0,.slice none 0 0,.int .i64 0,.slice none 0 0,.slice none 0 0,.int .i64 0,.int .i64 0,.int .i64 0] 36):=⟨_,rfl⟩
 have bW:=(Ba hW).1;have zW:=(Ba hW).2.1;have zP:Hid (Aa W _ _):=(Ba hW).2.2.1;have yZ:Hid (Aa W (w.heap.size+1) [.int .i64 0,.int .i64 0,.slice none 0 0,.slice none 0 0,.int .i64 0,.int .i64 0,.int .i64 0,.int .i64 0,.slice none 0 0,.slice none 0 0,.slice none 0 0,.int .i64 0,.slice none 0 0,.slice none 0 0,.int .i64 0,.int .i64 0,.int .i64 0]):=by
  have h1:=Aa.new (w.alloc (.cells #[.int .i64 v.wd,.int .i64 v.lim,.slice a.sa v.ss.length a.sc,.slice a.ta v.tt.length a.tc,.int .i64 v.sw,.int .i64 v.now,.int .i64 v.given,.int .i64 v.births,.slice a.ka v.ks.length a.kc,.slice a.pa v.ps.length a.pc,.slice a.la v.ls.length a.lc,.int .i64 v.ph,.slice a.qa v.qs.length a.qc,.slice a.ma v.ms.length a.mc,.int .i64 v.top,.int .i64 v.at_,.int .i64 v.ro] 36)) [.int .i64 0,.int .i64 0,.slice none 0 0,.slice none 0 0,.int .i64 0,.int .i64 0,.int .i64 0,.int .i64 0,.slice none 0 0,.slice none 0 0,.slice none 0 0,.int .i64 0,.slice none 0 0,.slice none 0 0,.int .i64 0,.int .i64 0,.int .i64 0] 36
  rw[World.size_alloc] at h1;show Aa W (w.heap.size+1) [.int .i64 0,.int .i64 0,.slice none 0 0,.slice none 0 0,.int .i64 0,.int .i64 0,.int .i64 0,.int .i64 0,.slice none 0 0,.slice none 0 0,.slice none 0 0,.int .i64 0,.slice none 0 0,.slice none 0 0,.int .i64 0,.int .i64 0,.int .i64 0];rw[hW];exact h1
 have HR:Hid (∀X,Uq w X->BV X X.heap.size a v):=fun X hX=>hr.below' hX;have xC:=zM.run.ok (Fm zM.wd.1 zM.wd.2);have zO:Hid (v.wd=v.sw/\r.ks=v.ks/\r.ps=v.ps/\r.ls=v.ls):=⟨zM.same.1.1,zM.same.2⟩;have zG:Hid (EH v.sw r.now r.given r.births v.ks v.ps v.ls):=by
  have h1:EH v.wd r.now r.given r.births r.ks r.ps r.ls:=xC;rw[zO.o.1,zO.o.2.1,zO.o.2.2.1,zO.o.2.2.2] at h1;exact h1
 have HW:Hid _:=hW;have zN:Hid (Uq w W):=bW;have f1:=hf.s;have f2:=hf.t;have xF:Hid (FT v.qs v.ms):=hf.r;obtain⟨e2,e3⟩:=Aa.c2 zP.o 2 3;clear hW hr bW hf zM xC zO;go_enter func46,ntmps46;go_upto_region 1 with fail;rw[←HW.o];clear HW;go_wp2_with fail;refine(Ge a.sa a.ta a.sc a.tc v.ss v.tt W (HR.o W zN.o).s (HR.o W zN.o).t f1 f2).mono ?_;rintro e w1 ⟨x,cx,y,cy,rfl,yO,zL,zT,zK⟩;have z1:=zK.size
 clear e2 e3;obtain⟨W1,zQ⟩:∃X,X=((w1.setCell ⟨w.heap.size,2,none⟩ (.slice x v.ss.length cx)).setCell ⟨w.heap.size,3,none⟩ (.slice y v.tt.length cy)):=⟨_,rfl⟩;have t1:Tn [w.heap.size] w1 W1:=by
  rw[zQ];exact(Tn.set _ _ _ _ (by simp)).trans (Tn.set _ _ _ _ (by simp))
 have xJ:W1.heap.size=w1.heap.size:=by rw[zQ];simp
 have yP:Hid (Aa W1 (w.heap.size+1) [.int .i64 0,.int .i64 0,.slice none 0 0,.slice none 0 0,.int .i64 0,.int .i64 0,.int .i64 0,.int .i64 0,.slice none 0 0,.slice none 0 0,.slice none 0 0,.int .i64 0,.slice none 0 0,.slice none 0 0,.int .i64 0,.int .i64 0,.int .i64 0]):=Aa.same (Aa.below (v:=.int .i64 0) yZ.o zK) (t1.block _ (by omega) (by simp<;>omega))
 have zB:Hid (Aa W1 w.heap.size [.int .i64 v.wd,.int .i64 v.lim,.slice x v.ss.length cx,.slice y v.tt.length cy,.int .i64 v.sw,.int .i64 v.now,.int .i64 v.given,.int .i64 v.births,.slice a.ka v.ks.length a.kc,.slice a.pa v.ps.length a.pc,.slice a.la v.ls.length a.lc,.int .i64 v.ph,.slice a.qa v.qs.length a.qc,.slice a.ma v.ms.length a.mc,.int .i64 v.top,.int .i64 v.at_,.int .i64 v.ro]):=by
  have h1:Aa w1 w.heap.size [.int .i64 v.wd,.int .i64 v.lim,.slice a.sa v.ss.length a.sc,.slice a.ta v.tt.length a.tc,.int .i64 v.sw,.int .i64 v.now,.int .i64 v.given,.int .i64 v.births,.slice a.ka v.ks.length a.kc,.slice a.pa v.ps.length a.pc,.slice a.la v.ls.length a.lc,.int .i64 v.ph,.slice a.qa v.qs.length a.qc,.slice a.ma v.ms.length a.mc,.int .i64 v.top,.int .i64 v.at_,.int .i64 v.ro]:=Aa.below zP.o zK
  show Aa W1 w.heap.size [.int .i64 v.wd,.int .i64 v.lim,.slice x v.ss.length cx,.slice y v.tt.length cy,.int .i64 v.sw,.int .i64 v.now,.int .i64 v.given,.int .i64 v.births,.slice a.ka v.ks.length a.kc,.slice a.pa v.ps.length a.pc,.slice a.la v.ls.length a.lc,.int .i64 v.ph,.slice a.qa v.qs.length a.qc,.slice a.ma v.ms.length a.mc,.int .i64 v.top,.int .i64 v.at_,.int .i64 v.ro];rw[zQ]
  exact((h1.set 2 _).set 3 _)
 have zF:Hid (Uq w W1):=(zN.o.trans (zK.mono zN.o.size)).trans (t1.below (by omega) (by simp));have zZ:Hid (W1.ownsRow W.heap.size 9 1 (.slice x v.ss.length cx) v.ss.length (v.ss.map Value.string)):=CW yO t1 (by simp;omega);have yA:Hid (W1.ownsRow W.heap.size 9 1 (.slice y v.tt.length cy) v.tt.length (v.tt.map Value.string)):=CW zL t1 (by simp;omega)
 have yT:Hid (∀g,(Value.slice x v.ss.length cx).ownBlock=some g->(Value.slice y v.tt.length cy).ownBlock≠some g):=zT;obtain⟨e2,f2⟩:=(Aa.below zP.o zK) 2 _ rfl;obtain⟨e3,f3⟩:=(Aa.below zP.o zK) 3 _ rfl;have yW:Hid _:=zQ
 have yS:Hid ((∀g,(Value.slice x v.ss.length cx).ownBlock=some g->g<w1.heap.size)/\(∀g,(Value.slice y v.tt.length cy).ownBlock=some g->g<w1.heap.size)):=⟨fun g hg=>(Af yO hg).2,fun g hg=>(Af zL hg).2⟩;clear zQ yO zL zT zN;go_upto_region 2 with fail;rw[←yW.o];clear yW e2 f2 e3 f3 zK t1 zP yZ;obtain⟨e4,f4⟩:=(zB.o) 4 _ rfl;obtain⟨e5,f5⟩:=(zB.o) 5 _ rfl;obtain⟨e6,f6⟩:=(zB.o) 6 _ rfl
 obtain⟨e7,f7⟩:=(zB.o) 7 _ rfl;obtain⟨e8,f8⟩:=(zB.o) 8 _ rfl;obtain⟨e9,f9⟩:=(zB.o) 9 _ rfl;obtain⟨yF,f10⟩:=(zB.o) 10 _ rfl;have HD:Hid _:=LX v.sw v.now v.given v.births a.ka a.pa a.la a.kc a.pc a.lc v.ks v.ps v.ls W1 (HR.o W1 zF.o).st zG.o.kso.len zG.o.np zG.o.nl zG.o.kso.sz zG.o.kso.w8;go_wp2_with fail;refine Calls.mono HD.o ?_;rintro e w2 ⟨d,m,O,P,L,rfl,xA,yM⟩
 have yV:Hid _:=Fh (W1.heap.size+1) d m O P L v.sw v.now v.given v.births v.ks v.ps v.ls w2 xA zG.o.kso.nd zG.o.kso.sz zG.o.kso.len zG.o.np zG.o.nl zG.o.r30;have z2:=yM.size;have yD:Hid (Uq W1 w2):=yM;clear e4 f4 e5 f5 e6 f6 e7 f7 e8 f8 e9 f9 yF f10 HD xA yM;go_wp2_with fail;refine Calls.mono yV.o ?_;rintro e w3 ⟨T,P',L',rs,rfl,yB,yN⟩;obtain⟨ta,tc,pa,pc,la,lc,rfl,rfl,rfl,_⟩:=yB.rows
 have z3:=yN.size;have zA:Below W1.heap.size W1 w3:=yD.o.trans (yN.mono yD.o.size)
 obtain⟨W3,zR⟩:∃X,X=(((((((w3.setCell ⟨w.heap.size,4,none⟩ (.int .i64 v.sw)).setCell ⟨w.heap.size,5,none⟩ (.int .i64 v.now)).setCell ⟨w.heap.size,6,none⟩ (.int .i64 v.given)).setCell ⟨w.heap.size,7,none⟩ (.int .i64 v.births)).setCell ⟨w.heap.size,8,none⟩ (.slice ta v.ks.length tc)).setCell ⟨w.heap.size,9,none⟩ (.slice pa v.ps.length pc)).setCell ⟨w.heap.size,10,none⟩ (.slice la v.ls.length lc)):=⟨_,rfl⟩
 have t3:Tn [w.heap.size] w3 W3:=by
  rw[zR];exact((((((Tn.set _ _ _ _ (by simp)).trans (Tn.set _ _ _ _ (by simp))).trans (Tn.set _ _ _ _ (by simp))).trans (Tn.set _ _ _ _ (by simp))).trans (Tn.set _ _ _ _ (by simp))).trans (Tn.set _ _ _ _ (by simp))).trans (Tn.set _ _ _ _ (by simp))
 have xK:W3.heap.size=w3.heap.size:=by rw[zR];simp
 have xE:Hid (Aa W3 (w.heap.size+1) [.int .i64 0,.int .i64 0,.slice none 0 0,.slice none 0 0,.int .i64 0,.int .i64 0,.int .i64 0,.int .i64 0,.slice none 0 0,.slice none 0 0,.slice none 0 0,.int .i64 0,.slice none 0 0,.slice none 0 0,.int .i64 0,.int .i64 0,.int .i64 0]):=Aa.same (Aa.below (v:=.int .i64 0) yP.o zA) (t3.block _ (by omega) (by simp<;>omega))
 have zC:Hid (Aa W3 w.heap.size [.int .i64 v.wd,.int .i64 v.lim,.slice x v.ss.length cx,.slice y v.tt.length cy,.int .i64 v.sw,.int .i64 v.now,.int .i64 v.given,.int .i64 v.births,.slice ta v.ks.length tc,.slice pa v.ps.length pc,.slice la v.ls.length lc,.int .i64 v.ph,.slice a.qa v.qs.length a.qc,.slice a.ma v.ms.length a.mc,.int .i64 v.top,.int .i64 v.at_,.int .i64 v.ro]):=by
  have h1:Aa w3 w.heap.size [.int .i64 v.wd,.int .i64 v.lim,.slice x v.ss.length cx,.slice y v.tt.length cy,.int .i64 v.sw,.int .i64 v.now,.int .i64 v.given,.int .i64 v.births,.slice a.ka v.ks.length a.kc,.slice a.pa v.ps.length a.pc,.slice a.la v.ls.length a.lc,.int .i64 v.ph,.slice a.qa v.qs.length a.qc,.slice a.ma v.ms.length a.mc,.int .i64 v.top,.int .i64 v.at_,.int .i64 v.ro]:=Aa.below zB.o zA
  show Aa W3 w.heap.size [.int .i64 v.wd,.int .i64 v.lim,.slice x v.ss.length cx,.slice y v.tt.length cy,.int .i64 v.sw,.int .i64 v.now,.int .i64 v.given,.int .i64 v.births,.slice ta v.ks.length tc,.slice pa v.ps.length pc,.slice la v.ls.length lc,.int .i64 v.ph,.slice a.qa v.qs.length a.qc,.slice a.ma v.ms.length a.mc,.int .i64 v.top,.int .i64 v.at_,.int .i64 v.ro];rw[zR]
  exact(((((((h1.set 4 _).set 5 _).set 6 _).set 7 _).set 8 _).set 9 _).set 10 _)
 have zD:Hid (Uq w W3):=(zF.o.trans (zA.mono zF.o.size)).trans (t3.below (by have:=zF.o.size;omega) (by simp));replace zZ:Hid (W3.ownsRow W.heap.size 9 1 (.slice x v.ss.length cx) v.ss.length (v.ss.map Value.string)):=CW (Ag zZ.o zA) t3 (by simp;omega);replace yA:Hid (W3.ownsRow W.heap.size 9 1 (.slice y v.tt.length cy) v.tt.length (v.tt.map Value.string)):=CW (Ag yA.o zA) t3 (by simp;omega)
 have zY:Hid ((∀g,(Value.slice x v.ss.length cx).ownBlock=some g->g<w2.heap.size)/\(∀g,(Value.slice y v.tt.length cy).ownBlock=some g->g<w2.heap.size)/\∀g∈BQ (.slice ta v.ks.length tc) (.slice pa v.ps.length pc) (.slice la v.ls.length lc) rs,g<w3.heap.size):=⟨fun g hg=>by have:=yS.o.1 g hg;omega,fun g hg=>by have:=yS.o.2 g hg;omega,yB.lts⟩
 have yU:Hid (Bk W3 w2.heap.size (.slice ta v.ks.length tc) (.slice pa v.ps.length pc) (.slice la v.ls.length lc) rs v.ks v.ps v.ls):=yB.turn t3 (by simp;omega);obtain⟨e4,f4⟩:=(Aa.below zB.o zA) 4 _ rfl;obtain⟨e5,f5⟩:=(Aa.below zB.o zA) 5 _ rfl;obtain⟨e6,f6⟩:=(Aa.below zB.o zA) 6 _ rfl;obtain⟨e7,f7⟩:=(Aa.below zB.o zA) 7 _ rfl;obtain⟨e8,f8⟩:=(Aa.below zB.o zA) 8 _ rfl
 obtain⟨e9,f9⟩:=(Aa.below zB.o zA) 9 _ rfl;obtain⟨yF,f10⟩:=(Aa.below zB.o zA) 10 _ rfl;have yX:Hid _:=zR;clear zR yB yV yD;go_upto_region 3 with fail;rw[←yX.o];clear yX e4 f4 e5 f5 e6 f6 e7 f7 e8 f8 e9 f9 yF f10 yN zA t3 zB yP zF;obtain⟨yG,f11⟩:=(zC.o) 11 _ rfl;obtain⟨yH,f12⟩:=(zC.o) 12 _ rfl;obtain⟨yI,f13⟩:=(zC.o) 13 _ rfl;obtain⟨yJ,f14⟩:=(zC.o) 14 _ rfl;obtain⟨yK,f15⟩:=(zC.o) 15 _ rfl
 obtain⟨yL,f16⟩:=(zC.o) 16 _ rfl;go_wp2_with fail;refine(Fs v.ph v.top v.at_ v.ro a.qa a.ma a.qc a.mc v.qs v.ms W3 (HR.o W3 zD.o).q (HR.o W3 zD.o).m xF.o).mono ?_;rintro e w4 ⟨qx,zJ,my,zI,rfl,xB,zV,zU,zE⟩;clear yG f11 yH f12 yI f13 yJ f14 yK f15 yL f16;have z4:=zE.size
 obtain⟨W4,zS⟩:∃X,X=((((((w4.setCell ⟨w.heap.size,11,none⟩ (.int .i64 v.ph)).setCell ⟨w.heap.size,12,none⟩ (.slice qx v.qs.length zJ)).setCell ⟨w.heap.size,13,none⟩ (.slice my v.ms.length zI)).setCell ⟨w.heap.size,14,none⟩ (.int .i64 v.top)).setCell ⟨w.heap.size,15,none⟩ (.int .i64 v.at_)).setCell ⟨w.heap.size,16,none⟩ (.int .i64 v.ro)):=⟨_,rfl⟩;have t4:Tn [w.heap.size] w4 W4:=by
  rw[zS];exact(((((Tn.set _ _ _ _ (by simp)).trans (Tn.set _ _ _ _ (by simp))).trans (Tn.set _ _ _ _ (by simp))).trans (Tn.set _ _ _ _ (by simp))).trans (Tn.set _ _ _ _ (by simp))).trans (Tn.set _ _ _ _ (by simp))
 have xL:W4.heap.size=w4.heap.size:=by rw[zS];simp
 have yQ:Hid (Aa W4 (w.heap.size+1) [.int .i64 0,.int .i64 0,.slice none 0 0,.slice none 0 0,.int .i64 0,.int .i64 0,.int .i64 0,.int .i64 0,.slice none 0 0,.slice none 0 0,.slice none 0 0,.int .i64 0,.slice none 0 0,.slice none 0 0,.int .i64 0,.int .i64 0,.int .i64 0]):=Aa.same (Aa.below (v:=.int .i64 0) xE.o zE) (t4.block _ (by omega) (by simp<;>omega))
 have xD:Hid (Aa W4 w.heap.size [.int .i64 v.wd,.int .i64 v.lim,.slice x v.ss.length cx,.slice y v.tt.length cy,.int .i64 v.sw,.int .i64 v.now,.int .i64 v.given,.int .i64 v.births,.slice ta v.ks.length tc,.slice pa v.ps.length pc,.slice la v.ls.length lc,.int .i64 v.ph,.slice qx v.qs.length zJ,.slice my v.ms.length zI,.int .i64 v.top,.int .i64 v.at_,.int .i64 v.ro]):=by
  have h1:Aa w4 w.heap.size [.int .i64 v.wd,.int .i64 v.lim,.slice x v.ss.length cx,.slice y v.tt.length cy,.int .i64 v.sw,.int .i64 v.now,.int .i64 v.given,.int .i64 v.births,.slice ta v.ks.length tc,.slice pa v.ps.length pc,.slice la v.ls.length lc,.int .i64 v.ph,.slice a.qa v.qs.length a.qc,.slice a.ma v.ms.length a.mc,.int .i64 v.top,.int .i64 v.at_,.int .i64 v.ro]:=Aa.below zC.o zE
  show Aa W4 w.heap.size [.int .i64 v.wd,.int .i64 v.lim,.slice x v.ss.length cx,.slice y v.tt.length cy,.int .i64 v.sw,.int .i64 v.now,.int .i64 v.given,.int .i64 v.births,.slice ta v.ks.length tc,.slice pa v.ps.length pc,.slice la v.ls.length lc,.int .i64 v.ph,.slice qx v.qs.length zJ,.slice my v.ms.length zI,.int .i64 v.top,.int .i64 v.at_,.int .i64 v.ro];rw[zS]
  exact((((((h1.set 11 _).set 12 _).set 13 _).set 14 _).set 15 _).set 16 _)
 obtain⟨W5,yC⟩:∃X,X=W4.setCells (w.heap.size+1) 0 [.int .i64 v.wd,.int .i64 v.lim,.slice x v.ss.length cx,.slice y v.tt.length cy,.int .i64 v.sw,.int .i64 v.now,.int .i64 v.given,.int .i64 v.births,.slice ta v.ks.length tc,.slice pa v.ps.length pc,.slice la v.ls.length lc,.int .i64 v.ph,.slice qx v.qs.length zJ,.slice my v.ms.length zI,.int .i64 v.top,.int .i64 v.at_,.int .i64 v.ro]:=⟨_,rfl⟩
 have t5:Tn [w.heap.size+1] W4 W5:=by rw[yC];exact AB _ _ _ _
 have x5:Aa W5 (w.heap.size+1) [.int .i64 v.wd,.int .i64 v.lim,.slice x v.ss.length cx,.slice y v.tt.length cy,.int .i64 v.sw,.int .i64 v.now,.int .i64 v.given,.int .i64 v.births,.slice ta v.ks.length tc,.slice pa v.ps.length pc,.slice la v.ls.length lc,.int .i64 v.ph,.slice qx v.qs.length zJ,.slice my v.ms.length zI,.int .i64 v.top,.int .i64 v.at_,.int .i64 v.ro]:=by rw[yC];exact yQ.o.setAll _ rfl
 have xI:=t5.size;have q1:=CW (CW (Ag zZ.o zE) t4 (by simp;omega)) t5 (by simp;omega);have q2:=CW (CW (Ag yA.o zE) t4 (by simp;omega)) t5 (by simp;omega);have q3:=((yU.o.below zE).turn t4 (by simp;omega)).turn t5 (by simp;omega);have q4:=CW (CW xB t4 (by simp;omega)) t5 (by simp;omega);have q5:=CW (CW zV t4 (by simp;omega)) t5 (by simp;omega)
 have yE:Hid (Uq w W5):=((zD.o.trans (zE.mono zD.o.size)).trans (t4.below (by have:=zD.o.size;omega) (by simp))).trans (t5.below (by have:=zD.o.size;omega) (by simp));have HV:Hid (AV W5 w.heap.size (.slice x v.ss.length cx) (.slice y v.tt.length cy) (.slice ta v.ks.length tc) (.slice pa v.ps.length pc) (.slice la v.ls.length lc) (.slice qx v.qs.length zJ) (.slice my v.ms.length zI) rs v):=
  AV.of (n1:=w2.heap.size) (n2:=w3.heap.size) (Ar.own (q1.mono (by omega))) (Ar.own (q2.mono (by omega))) (fun g h1=>yT.o g h1) (fun g hg=>by rcases hg with hg|hg;exact zY.o.1 g hg;exact zY.o.2.1 g hg) q3 (by omega) zY.o.2.2 (Ar.own (q4.mono (by omega))) (Ar.own (q5.mono (by omega))) (fun g hg=>by rcases hg with hg|hg;(have:=(Af q4 hg).1;omega);(have:=(Af q5 hg).1;omega)) z3 (fun g h1=>zU g h1)
 obtain⟨yG,f11⟩:=(Aa.below zC.o zE) 11 _ rfl;obtain⟨yH,f12⟩:=(Aa.below zC.o zE) 12 _ rfl;obtain⟨yI,f13⟩:=(Aa.below zC.o zE) 13 _ rfl;obtain⟨yJ,f14⟩:=(Aa.below zC.o zE) 14 _ rfl;obtain⟨yK,f15⟩:=(Aa.below zC.o zE) 15 _ rfl;obtain⟨yL,f16⟩:=(Aa.below zC.o zE) 16 _ rfl;have yY:Hid _:=zS;have xG:Hid _:=yC;have xH:Hid _:=x5;clear zS yC xB zV zU q1 q2 q3 q4 q5 x5 t4 t5 zZ yA yU yT zY
 go_upto_region 4 with fail;rw[←yY.o];clear yY yG f11 yH f12 yI f13 yJ f14 yK f15 yL f16
 have zX:(#[.int .i64 v.wd,.int .i64 v.lim,.slice x v.ss.length cx,.slice y v.tt.length cy,.int .i64 v.sw,.int .i64 v.now,.int .i64 v.given,.int .i64 v.births,.slice ta v.ks.length tc,.slice pa v.ps.length pc,.slice la v.ls.length lc,.int .i64 v.ph,.slice qx v.qs.length zJ,.slice my v.ms.length zI,.int .i64 v.top,.int .i64 v.at_,.int .i64 v.ro]:Array Value).all (·.oneCell')=true:=by simp[Value.oneCell']
 have zH:W4.there (w.heap.size+1) 0 17:=yQ.o.there;have yR:Hid _:=And.intro zX zH;clear zX zH;go_wp2_with (first
  |refine wpList_load_mid rfl 36 _ rfl w.heap.size 0 rfl [.int .i64 v.wd,.int .i64 v.lim,.slice x v.ss.length cx,.slice y v.tt.length cy,.int .i64 v.sw,.int .i64 v.now,.int .i64 v.given,.int .i64 v.births,.slice ta v.ks.length tc,.slice pa v.ps.length pc,.slice la v.ls.length lc,.int .i64 v.ph,.slice qx v.qs.length zJ,.slice my v.ms.length zI,.int .i64 v.top,.int .i64 v.at_,.int .i64 v.ro] _ xD.o.range underlying36 rfl (by kernel_rfl) ?_
  |refine wpList_store_mid rfl 36 _ _ rfl (w.heap.size+1) 0 #[.int .i64 v.wd,.int .i64 v.lim,.slice x v.ss.length cx,.slice y v.tt.length cy,.int .i64 v.sw,.int .i64 v.now,.int .i64 v.given,.int .i64 v.births,.slice ta v.ks.length tc,.slice pa v.ps.length pc,.slice la v.ls.length lc,.int .i64 v.ph,.slice qx v.qs.length zJ,.slice my v.ms.length zI,.int .i64 v.top,.int .i64 v.at_,.int .i64 v.ro] rfl rfl yR.o.2 (by kernel_rfl) yR.o.1 ?_)
 rw[←xG.o]
 refine bodyPost_ret (Co results46 _ _ (w.heap.size+1) [.int .i64 v.wd,.int .i64 v.lim,.slice x v.ss.length cx,.slice y v.tt.length cy,.int .i64 v.sw,.int .i64 v.now,.int .i64 v.given,.int .i64 v.births,.slice ta v.ks.length tc,.slice pa v.ps.length pc,.slice la v.ls.length lc,.int .i64 v.ph,.slice qx v.qs.length zJ,.slice my v.ms.length zI,.int .i64 v.top,.int .i64 v.at_,.int .i64 v.ro] _ rfl (Aa.range xH.o) underlying36 rfl (by kernel_rfl)) rfl ?_
 exact⟨_,_,_,_,_,_,_,rs,rfl,HV.o,yE.o⟩
theorem Ns (wd:Int) (m:Nat) (s:ByteArray) (top at_ ro:Int) (a b:Option Addr) (ac bc:Nat) (qs ms:List ByteArray) (w:World) (hq:Ad w w.heap.size a qs) (hm:Ad w w.heap.size b ms) (hf:FT qs ms):
 Calls prog 67 #[.agg #[.int .i64 wd,.map (some m)],.agg #[.int .i64 0,.slice a qs.length ac,.slice b ms.length bc,.int .i64 top,.int .i64 at_,.int .i64 ro],.string s] w fun e w'=>∃x cx y cy,e=.returned (.agg #[.int .i64 0,.slice x qs.length cx,.slice y ms.length cy,.int .i64 top,.int .i64 at_,.int .i64 ro])/\
  w'.ownsRow w.heap.size 9 1 (.slice x qs.length cx) qs.length (qs.map Value.string)/\w'.ownsRow w.heap.size 9 1 (.slice y ms.length cy) ms.length (ms.map Value.string)/\(∀g,(Value.slice x qs.length cx).ownBlock=some g->(Value.slice y ms.length cy).ownBlock≠some g)/\Uq w w':=by
 obtain⟨W,hW⟩:∃W,W=((w.alloc (.cells #[.int .i64 wd,.map (some m)] 102)).alloc (.cells #[.int .i64 0,.slice a qs.length ac,.slice b ms.length bc,.int .i64 top,.int .i64 at_,.int .i64 ro] 34)).alloc (.cells #[.int .i64 0,.slice none 0 0,.slice none 0 0,.int .i64 0,.int .i64 0,.int .i64 0] 34):=⟨_,rfl⟩;have bW:=(Bn hW).1;have zW:=(Bn hW).2.1
 have HX:Hid (Aa W (w.heap.size+1) [.int .i64 0,.slice a qs.length ac,.slice b ms.length bc,.int .i64 top,.int .i64 at_,.int .i64 ro]/\Aa W (w.heap.size+2) [.int .i64 0,.slice none 0 0,.slice none 0 0,.int .i64 0,.int .i64 0,.int .i64 0]):=⟨(Bn hW).2.2.2.1,(Bn hW).2.2.2.2⟩;have HC:Hid _:=Fs 0 top at_ ro a b ac bc qs ms W (hq.below' bW) (hm.below' bW) hf;have HW:Hid _:=hW;clear hW hq hm hf
 go_enter func67,ntmps67;go_upto_region 1 with fail;rw[←HW.o];clear HW;go_wp2_with (refine wpList_load_mid rfl 34 _ rfl (w.heap.size+1) 0 rfl [.int .i64 0,.slice a qs.length ac,.slice b ms.length bc,.int .i64 top,.int .i64 at_,.int .i64 ro] _ HX.o.1.range underlying34 rfl (by kernel_rfl) ?_);refine Calls.mono HC.o ?_;rintro e w1 ⟨x,cx,y,cy,rfl,o1,o2,zK,zH⟩
 obtain⟨O,hO⟩:∃O:List Value,O=[.int .i64 0,.slice x qs.length cx,.slice y ms.length cy,.int .i64 top,.int .i64 at_,.int .i64 ro]:=⟨_,rfl⟩;have zC:O.length=6/\∀u∈O,u.oneCell'=true:=by rw[hO];exact⟨rfl,by simp[Value.oneCell']⟩
 have zJ:(#[.int .i64 0,.slice x qs.length cx,.slice y ms.length cy,.int .i64 top,.int .i64 at_,.int .i64 ro]:Array Value)=O.toArray:=by rw[hO]
 rw[zJ];have z1:=zH.size;obtain⟨W4,zG⟩:∃Y,Y=(w1.alloc (.cells #[.int .i64 0,.slice none 0 0,.slice none 0 0,.int .i64 0,.int .i64 0,.int .i64 0] 34)).setCells w1.heap.size 0 O.toArray.toList:=⟨_,rfl⟩;have hb:=boxed (X:=w1) (cs:=O) (z:=[.int .i64 0,.slice none 0 0,.slice none 0 0,.int .i64 0,.int .i64 0,.int .i64 0]) (T:=34) (by rw[zC.1];rfl)
 have e4:W4=(w1.alloc (.cells [.int .i64 0,.slice none 0 0,.slice none 0 0,.int .i64 0,.int .i64 0,.int .i64 0].toArray 34)).setCells w1.heap.size 0 O:=zG;rw[←e4] at hb;obtain⟨x4,b4,z4⟩:=hb
 have zA:Hid ((w1.alloc (.cells #[.int .i64 0,.slice none 0 0,.slice none 0 0,.int .i64 0,.int .i64 0,.int .i64 0] 34)).there w1.heap.size 0 O.toArray.size/\O.length=6/\∀u∈O,u.oneCell'=true):=⟨by rw[show O.toArray.size=6 from by rw[List.size_toArray];exact zC.1];exact(Aa.new w1 [.int .i64 0,.slice none 0 0,.slice none 0 0,.int .i64 0,.int .i64 0,.int .i64 0] 34).there,zC⟩
 have zD:=zH.trans (b4.mono z1);have xr:=Aa.below HX.o.1 zD;have xz:=Aa.below HX.o.2 zD;obtain⟨c0,_⟩:=xr 0 _ rfl;obtain⟨W9,zE⟩:∃Y,Y=W4.setCells (w.heap.size+2) 0 O.toArray.toList:=⟨_,rfl⟩;have t9:Tn [w.heap.size+2] W4 W9:=by rw[zE];exact AB _ _ _ _
 have x9:Aa W9 (w.heap.size+2) O:=by rw[zE];exact xz.setAll O (by rw[zC.1];rfl)
 have zL:Hid (W4.there (w.heap.size+2) 0 O.toArray.size):=by
  show W4.there (w.heap.size+2) 0 O.toArray.size;rw[show O.toArray.size=6 from by rw[List.size_toArray];exact zC.1];exact xz.there
 have zN:Hid (Aa W4 w1.heap.size O):=x4;have zO:Hid (Aa W9 (w.heap.size+2) O):=x9;have bb:=bW.trans (zD.mono bW.size);have zB:∀{v:Value} {n:Nat} {xs:List Value},w1.ownsRow W.heap.size 9 1 v n xs->W9.ownsRow w.heap.size 9 1 v n xs:=fun h=>World.ownsRow.mono (AD (Ag h b4) (fun g hg=>t9.block g (Af (Ag h b4) hg).2 (by have:=(Af h hg).1;simp;omega))) (by omega)
 have zF:Hid (∃x cx y cy,Ending.returned (.agg O.toArray)=.returned (.agg #[.int .i64 0,.slice x qs.length cx,.slice y ms.length cy,.int .i64 top,.int .i64 at_,.int .i64 ro])/\W9.ownsRow w.heap.size 9 1 (.slice x qs.length cx) qs.length (qs.map Value.string)/\W9.ownsRow w.heap.size 9 1 (.slice y ms.length cy) ms.length (ms.map Value.string)/\(∀g,(Value.slice x qs.length cx).ownBlock=some g->(Value.slice y ms.length cy).ownBlock≠some g)/\Uq w W9):=⟨x,cx,y,cy,by rw[hO],zB o1,zB o2,zK,bb.trans (t9.below bb.size (by simp))⟩
 have zI:Hid _:=zG;have zM:Hid _:=zE;clear zG zE e4 x4 b4 z4 hO zC zJ o1 o2 zK zH z1 zD xr xz t9 x9 bb zB HC HX bW zW;go_upto_region 2 with(refine wpList_store_mid rfl 34 _ _ rfl w1.heap.size 0 O.toArray rfl rfl zA.o.1 (by rw[List.size_toArray,zA.o.2.1];kernel_rfl) (all_oneCell_toArray zA.o.2.2) ?_);rw[←zI.o];clear zI;go_wp2_with (first
  |refine wpList_load_mid rfl 34 _ rfl w1.heap.size 0 rfl O _ zN.o.range underlying34 rfl (by rw[zA.o.2.1];kernel_rfl) ?_
  |refine wpList_store_mid rfl 34 _ _ rfl (w.heap.size+2) 0 O.toArray rfl rfl zL.o (by rw[List.size_toArray,zA.o.2.1];kernel_rfl) (all_oneCell_toArray zA.o.2.2) ?_)
 rw[←zM.o];exact bodyPost_ret (Co results67 _ _ (w.heap.size+2) O _ rfl (Aa.range zO.o) underlying34 rfl (by rw[zA.o.2.1];kernel_rfl)) rfl zF.o
theorem IY {w:World} {base:Nat} {e:TypeId} {size:Nat} {v:Value} {n:Nat} {xs:List Value} (h:w.ownsRow base e size v n xs):Ax v=v.ownBlock:=by
 rcases h.2 with⟨rfl,_⟩|⟨g,cap,zA,rfl,_⟩<;>rfl
theorem Eb.held {wd now given births:Int} {ks:List Kd} {ps:List Pd} {ls:List Ld} {kd:Int} {s nm:ByteArray} {num:Int} {text:ByteArray} {refs:List ByteArray} {r:Rs} (h1:1<=wd) (hy:Eb wd now given births ks ps ls kd s nm num text refs r):(if r.sm=⟨#[]⟩ then s else r.sm)=if kd=1 then r.sm else s:=by
 rcases hy with⟨rfl,_,hl,hg,zC,b1,hy,rfl⟩|⟨rfl,_,zA,rfl⟩|⟨rfl,_,rfl⟩|⟨rfl,_,hl,hg,rfl⟩|⟨rfl,_,rfl⟩|⟨rfl,ht,rfl⟩|⟨rfl,_,_,rfl⟩
 ·rw[if_pos rfl,if_neg]
  intro he;have:=GD text refs wd h1;have zB:AX text refs wd=⟨#[]⟩:=he;rw[zB] at this;have h2:((⟨#[]⟩:ByteArray).size:Int)=0:=rfl;omega
 all_goals simp
theorem Sq (v:Vd) (a:Va) (e:Ed) (ra:Option Addr) (rc:Nat) (r:Rs) (lo k d m base:Nat) (O P L:Value) (w0 w:World) (hv:Cg v r) (hd:FV w lo k d m base O P L v a r) (zV:w0.heap.size<=lo) (hb:Uq w0 w) (hr:BV w0 w0.heap.size a v) (hf:DM v) (hE:Env w0) (zD:Eu w0 w0.heap.size ra e.rf) (hq:(∃g h:Nat,a.qa=some ⟨g,0,none⟩/\a.ma=some ⟨h,0,none⟩)∨v.ph=0) (hl:e.rf.length<=1048576) (ht:e.tx.size<=maxLen) (hn:e.nm.size<=maxLen):
 Calls prog 45 #[.pointer (some ⟨k,0,none⟩),.agg #[.int .i64 e.kd,.string e.s,.string e.nm,.int .i64 e.num,.string e.tx,.slice ra e.rf.length rc]] w (Np v e lo w):=by
 obtain⟨⟨zT,e2,e3,e4⟩,e5,e6,e7⟩:=hv.same;have Bz:=hd.dr;rw[e2,e3,e4,e5,e6,e7] at Bz;have hz:=Bz.zero hd.far;have zM:=hv.rokW;have hlo:∀b∈vB d m O P L,lo<=b/\b<k:=fun b hb=>⟨Uz hd.hlo (Bz.low b hb),hd.lt b hb⟩;obtain⟨zW,hk⟩:=hd.ty;have zY:k<w.heap.size:=hd.box.lt;have zQ:k∉vB d m O P L:=fun h=>by have:=hd.lt k h;omega
 have hB:∀X,Below lo w X->Uq w0 X:=fun X hX=>hb.trans (hX.mono zV);have zA:∀r',e.ok v.wd=true->e.yes v r'->EH v.wd r'.now r'.given r'.births r'.ks r'.ps r'.ls:=fun r' h1 h2=>zM.step h1 h2;have hlk:=hd.hlk
 refine Sn lo k d m (vB d m O P L) v e _ _ _ _ _ _ _ _ _ _ _ _ _ _ _ ra rc (fun r' X=>e.ok v.wd=true/\e.yes v r'/\Gc 0 d m v.wd r' X) w hd.box hd.hlk hlo ⟨by simp[vB],by simp[vB]⟩ ?_ (fun X hX=> ?_) (fun zC X hX=> ?_) ?_ ?_ ?_ ?_ (fun zC X hX=> ?_) (fun zC X hX=> ?_) ?_ ?_ zT
 ·simp[Value.oneCell']
 ·exact OZ e.kd e.s e.nm e.num e.tx ra rc e.rf v.wd X (hE.below (hB X hX)).tab ((zD.below (hB X hX)).row (hB X hX).size) hl ht hn
 ·have zH:=hz.apart hX (Nat.zero_le _) zQ (fun zP fz he=>by rw[hk] at he;simp at he)
  have zI:Below w0.heap.size w0 X:=hb.trans (hX.below hb.size (by simp;omega));refine(Hi d (vB d m O P L) e.kd e.s e.nm e.tx e.num ra e.rf.length rc (fun c p q=>e.no v c p q) (fun sm le X=>∃r,e.yes v r/\r.sm=sm/\r.le=le/\Gc 0 d m v.wd r X) X zH.lts ?_ (fun X' hX'=> ?_)).mono ?_
  ·rintro sm le Y Y' R zP ⟨r,h1,h2,h3,h4⟩ hR zX ht
   exact⟨r,h1,h2,h3,h4.stays hR (Nat.zero_le _) (by have:=zH.box.lt;omega) ht⟩
  ·have zJ:=zI.trans (hX'.mono zI.size)
   exact IN 0 d m O P L v.wd v.now v.given v.births v.ks v.ps v.ls e.kd e.s e.nm e.num e.tx e.rf ra rc X' ⟨zH.below hX'⟩ (zM.aok zC ht) ((zD.below zJ).refV zJ.size (fun b hb=>by have:=hlo b hb;omega))
  ·rintro o X' (⟨c,p,q,h1,rfl,ht⟩|⟨sm,le,rfl,⟨r,h1,h2,h3,h4⟩,ht⟩)
   ·exact⟨ht,c,_,_,p,q,rfl,.inl ⟨h1,rfl,rfl⟩⟩
   ·exact⟨ht,0,sm,le,_,_,rfl,.inr ⟨rfl,rfl,rfl,r,h1,h2,h3,zC,h1,h4⟩⟩
 ·rintro r X X' R ⟨h1,h2,h3⟩ hR hc ht
  exact⟨h1,h2,h3.turn (fun e=>hR (by rw[e];simp[vB])) hc ht⟩
 ·rintro r X ⟨_,_,O,P,L,h3⟩
  exact⟨(h3.box 0 _ rfl).1,(h3.box 1 _ rfl).1⟩
 ·rintro r X ⟨h1,h2,O,P,L,h3⟩
  have ho:=zA r h1 h2;refine(Fh 0 d m O P L v.wd r.now r.given r.births r.ks r.ps r.ls X h3 ho.kso.nd ho.kso.sz ho.kso.len ho.np ho.nl ho.r30).mono ?_;rintro o X' ⟨T,P',L',rs,rfl,hS,zB⟩;obtain⟨ta,tc,rfl⟩:=AK hS.things;obtain⟨pa,pc,rfl⟩:=AK hS.pins;obtain⟨la,lc,rfl⟩:=AK hS.leases;exact⟨ta,tc,pa,pc,la,lc,rs,rfl,hS,zB⟩
 ·intro zC _ r X ta tc pa pc la lc h2 zE
  have ho:=zA r zC h2;have zU:=hv.tok.step zC h2;exact OF v.wd r.now r.given r.births ta pa la tc pc lc r.ks r.ps r.ls X zE ho.kso.len (fun i k hi=>zU k (Ux hi)) (fun k hk=>by have:=ho.txt k hk;unfold maxLen;omega) (fun k hk=>by have:=ho.r30 k hk;omega)
 ·exact Sp e.kd e.s e.nm e.num e.tx ra rc e.rf v.wd X (hE.below (hB X hX)).tab ((zD.below (hB X hX)).row (hB X hX).size) hl ht hn
 ·have hs:=hr.s.below' (hB X hX)
  have zN:=hr.t.below' (hB X hX);have zO:=Ed.txt_size zC;by_cases hfull:v.ss.length+v.tt.length=4000
  ·have hc:Dn v.ss v.tt (e.txt v.wd)=2:=by unfold Dn;rw[if_pos ⟨hv.log,zO⟩,if_pos hfull]
   refine(Nr a.sa a.ta a.sc a.tc v.ss v.tt (e.txt v.wd) X hs zN hf.s hf.t hf.ss hf.tt (by rw[hc];decide)).mono ?_;rintro o X' ⟨rfl,zB⟩;exact⟨zB,none,0,0,none,0,0,_,rfl,.inl ⟨hfull,by rw[hc];rfl⟩⟩
  ·refine(Nq a.sa a.ta a.sc a.tc v.ss v.tt (e.txt v.wd) X hs zN hf.s hf.t hf.ss hf.tt hv.log zO hfull).mono ?_
   rintro o X' ⟨s,u,rfl,h1,h2,h3,zB⟩;have k1:=IY h1;have k2:=IY h2;obtain⟨sa,sc,rfl⟩:=AK h1;obtain⟨ua,uc,rfl⟩:=AK h2;refine⟨zB,sa,_,sc,ua,_,uc,0,rfl,.inr ⟨hfull,rfl,rfl,rfl,Ar.own h1,Ar.own h2,fun g hg hu=> ?_⟩⟩;rw[k1] at hg;rw[k2] at hu;rcases h3 with h3|h3
   ·rw[h3] at hg;cases hg
   ·exact h3 (hg.trans hu.symm)
 ·intro r hy
  exact Eb.held hv.wd.1 hy
 ·rintro r X Z ⟨h1,h2,h3⟩ _ hZ zR
  have zK:=hB Z hZ;have ho:=zA r h1 h2;have zG:=hr.q.below' zK;have zF:=hr.m.below' zK;rcases hq with⟨g,h,hq,hm⟩|zS
  ·rw[hq,hm]
   rw[hq] at zG;rw[hm] at zF;refine(OD v.wd m r.ks (e.held r) v.ph v.top v.at_ v.ro g h a.qc a.mc v.qs v.ms Z (h3.has ho.kso.sz zR _) zG zF hf.r).mono ?_;rintro o Z' ⟨x,cx,y,cy,rfl,o1,o2,zL,zB⟩;exact⟨zB,_,cx,_,cy,rfl,Ar.own o1,Ar.own o2,fun g hg hu=>by simp[Ax] at hg hu;omega⟩
  ·rw[zS,FG (.inl rfl)]
   refine(Ns v.wd m (e.held r) v.top v.at_ v.ro a.qa a.ma a.qc a.mc v.qs v.ms Z zG zF hf.r).mono ?_;rintro o Z' ⟨x,cx,y,cy,rfl,o1,o2,zL,zB⟩;exact⟨zB,x,cx,y,cy,rfl,Ar.own o1,Ar.own o2,fun g hg hu=>zL g (by rw[←IY o1];exact hg) (by rw[←IY o2];exact hu)⟩
theorem FV.below {w w':World} {lo k d m base:Nat} {O P L:Value} {v:Vd} {a:Va} {r:Rs} (h:FV w lo k d m base O P L v a r) (hb:Uq w w'):FV w' lo k d m base O P L v a r:=by
 obtain⟨zA,hc⟩:=h.ty;exact⟨Aa.below h.box hb,h.dr.below hb,h.hlo,h.hlk,h.lt,h.far,zA,(hb.block k h.box.lt).trans hc⟩
theorem OQ (v:Vd) (a:Va) (e:Ed) (gf:Nat) (rv:Value) (ra:Option Addr) (rc:Nat) (w:World) (eg:∀args X,(callFunc gf args).run prog X=.ok (.enter gf args) X) (hr:BV w w.heap.size a v) (hf:DM v) (hE:Env w) (zA:Eu w w.heap.size ra e.rf) (hq:(∃g h:Nat,a.qa=some ⟨g,0,none⟩/\a.ma=some ⟨h,0,none⟩)∨v.ph=0) (hl:e.rf.length<=1048576) (ht:e.tx.size<=maxLen) (hn:e.nm.size<=maxLen)
 (hM:∀X,Uq w X->Calls prog gf #[rv] X fun o X'=>o=.returned (.agg #[.int .i64 e.kd,.string e.s,.string e.nm,.int .i64 e.num,.string e.tx,.slice ra e.rf.length rc])/\Uq X X'):
 Calls prog 24 #[.agg #[.int .i64 v.wd,.int .i64 v.lim,.slice a.sa v.ss.length a.sc,.slice a.ta v.tt.length a.tc,.int .i64 v.sw,.int .i64 v.now,.int .i64 v.given,.int .i64 v.births,.slice a.ka v.ks.length a.kc,.slice a.pa v.ps.length a.pc,.slice a.la v.ls.length a.lc,.int .i64 v.ph,.slice a.qa v.qs.length a.qc,.slice a.ma v.ms.length a.mc,.int .i64 v.top,.int .i64 v.at_,.int .i64 v.ro],.func (.func gf) #[rv] #[]] w (FX v e w):=by
 refine ON v e _ _ gf rv ra rc (fun lo k X=>∃r d m base O P L,Cg v r/\FV X lo k d m base O P L v a r) w rfl eg (fun X hX=> ?_) hM ?_ ?_ ?_
 ·refine(IU v a X (hr.below' hX) hf (hE.below hX)).mono ?_
  rintro o X' ⟨hb,h|⟨r,k,d,m,O,P,L,base,hv,rfl,hd⟩⟩
  ·exact⟨hb,.inl h⟩
  ·exact⟨hb,.inr ⟨⟨r,hv⟩,k,rfl,r,d,m,base,O,P,L,hv,hd⟩⟩
 ·rintro lo k X X' ⟨r,d,m,base,O,P,L,hv,hd⟩ hb
  exact⟨r,d,m,base,O,P,L,hv,hd.below hb⟩
 ·rintro lo k X hlo _ ⟨r,d,m,base,O,P,L,hv,hd⟩ hb
  exact Sq v a e ra rc r lo k d m base O P L w X hv hd hlo hb hr hf hE zA hq hl ht hn
 ·rintro⟨r,hv⟩ X hX
  exact IX v a r X (hr.below' hX) hf hv
theorem Mq (tx:ByteArray) (ra:Option Addr) (rc:Nat) (rf:List ByteArray) (n:Int) (w:World):
 Calls prog 25 #[.agg #[.string tx,.slice ra rf.length rc,.string ⟨#[]⟩,.string ⟨#[]⟩,.int .i64 n]] w fun o w'=>o=.returned (.agg #[.int .i64 1,.string ⟨#[]⟩,.string ⟨#[]⟩,.int .i64 n,.string tx,.slice ra rf.length rc])/\Uq w w':=by
 go_enter func25,ntmps25;go_wp2;refine bodyPost_ret (v:=.agg #[.int .i64 1,.string ⟨#[]⟩,.string ⟨#[]⟩,.int .i64 n,.string tx,.slice ra rf.length rc]) (by simp[results,results25,go_sem]) rfl ⟨rfl,?_⟩;exact(Ur).alloc (by simp) _
theorem PZ (v:Vd) (A:List Value) (tx:ByteArray) (ra:Option Addr) (rc:Nat) (rf:List ByteArray) (n:Int) (w:World) (hA:A.length=17) (h:∀X,Uq w X->Calls prog 24 #[.agg A.toArray,.func (.func 25) #[.agg #[.string tx,.slice ra rf.length rc,.string ⟨#[]⟩,.string ⟨#[]⟩,.int .i64 n]] #[]] X (FX v ⟨1,⟨#[]⟩,⟨#[]⟩,n,tx,rf⟩ X)):
 Calls prog 6 #[.agg A.toArray,.agg #[.string tx,.slice ra rf.length rc],.int .i64 n] w (FX v ⟨1,⟨#[]⟩,⟨#[]⟩,n,tx,rf⟩ w):=by
 have zI:∀(fn:Fn) (first cap:Array Value) (w:World),(Instr.makeFunc fn first cap).run prog w=.ok (.func fn first cap) w:=fun _ _ _ _=>rfl
 obtain⟨W,hW⟩:∃W,W=((w.alloc (.cells A.toArray 36)).alloc (.cells #[.string tx,.slice ra rf.length rc] 40)).alloc (.cells #[.int .i64 0,.int .i64 0,.int .i64 0,.slice none 0 0,.slice none 0 0,.int .i64 0,.int .i64 0,.int .i64 0,.int .i64 0,.slice none 0 0,.slice none 0 0,.slice none 0 0,.int .i64 0,.slice none 0 0,.slice none 0 0,.int .i64 0,.int .i64 0,.int .i64 0,.string ⟨#[]⟩,.int .i64 0,.string ⟨#[]⟩,.string ⟨#[]⟩] 42):=⟨_,rfl⟩
 have bW:=(Bn hW).1;have zW:=(Bn hW).2.1;have HX:Hid (Aa W w.heap.size A/\Aa W (w.heap.size+1) [.string tx,.slice ra rf.length rc]/\Aa W (w.heap.size+2) Cs):=⟨(Bn hW).2.2.1,(Bn hW).2.2.2.1,(Bn (m:=Cs) hW).2.2.2.2⟩;have zF:Hid (A.length=17):=hA;have HB:Hid _:=And.intro bW zW;have HW:Hid _:=hW;have HC:Hid _:=h W bW;clear hW hA h bW zW;go_enter func6,ntmps6;go_upto_region 1 with fail;rw[←HW.o]
 clear HW;go_wp2_with (first
  |refine wpList_load_mid rfl 36 _ rfl w.heap.size 0 rfl A _ HX.o.1.range underlying36 rfl (by rw[zF.o];kernel_rfl) ?_
  |refine wpList_load_mid rfl 40 _ rfl (w.heap.size+1) 0 rfl [.string tx,.slice ra rf.length rc] _ HX.o.2.1.range underlying40 rfl (by kernel_rfl) ?_)
 refine Calls.mono HC.o ?_;rintro o w1 ⟨d,S,U,T,P,L,Q,M,rs,zE,rfl,ha,hb⟩;have zA:=Ju ha;obtain⟨D,hD⟩:∃t,t=GN d S U T P L Q M:=⟨_,rfl⟩;rw[←hD] at zA;rw[←hD];have HD:Hid _:=hD;clear hD;have hZ:=Aa.below (v:=.int .i64 0) HX.o.2.2 hb;obtain⟨W9,zC⟩:∃Y,Y=w1.setCells (w.heap.size+2) 0 D.toArray.toList:=⟨_,rfl⟩;have t9:Tn [w.heap.size+2] w1 W9:=by rw[zC];exact AB _ _ _ _
 have x9:Aa W9 (w.heap.size+2) D:=by rw[zC];exact hZ.setAll D (by rw[zA.1];rfl)
 have zB:Hid (w1.there (w.heap.size+2) 0 D.toArray.size/\D.length=22/\∀u∈D,u.oneCell'=true):=by
  refine⟨?_,zA⟩;rw[show D.toArray.size=22 from by rw[List.size_toArray];exact zA.1];exact hZ.there
 have b1:=HB.o.1.trans (hb.mono HB.o.1.size);have zW:=HB.o.2;have zD:Hid (FX v ⟨1,⟨#[]⟩,⟨#[]⟩,n,tx,rf⟩ w (.returned (.agg D.toArray)) W9):=⟨d,S,U,T,P,L,Q,M,rs,zE,by rw[HD.o],(ha.stays t9 (fun b hb' hin=>by have:=ha.lo b hin;simp at hb';omega)).mono (by omega),b1.trans (t9.below b1.size (by simp))⟩;have zH:Hid _:=x9;have zG:Hid _:=zC;clear zC t9 x9 hZ zA hb b1 zW HC HB HX ha zE HD
 go_wp2_with (refine wpList_store_mid rfl 42 _ _ rfl (w.heap.size+2) 0 D.toArray rfl rfl zB.o.1 (by rw[List.size_toArray,zB.o.2.1];kernel_rfl) (all_oneCell_toArray zB.o.2.2) ?_);rw[←zG.o];exact bodyPost_ret (Co results6 _ _ (w.heap.size+2) D _ rfl (Aa.range zH.o) underlying42 rfl (by rw[zB.o.2.1];kernel_rfl)) rfl zD.o
theorem Eu.mono {w:World} {lo zA:Nat} {a:Option Addr} {ss:List ByteArray} (h:Eu w lo a ss) (hl:lo<=zA):Eu w zA a ss:=by
 rcases h with h|⟨b,off,ha,hb,hc⟩
 ·exact .inl h
 ·exact .inr ⟨b,off,ha,Uy hb hl,hc⟩
theorem Rw (v:Vd) (a:Va) (tx:ByteArray) (ra:Option Addr) (rc:Nat) (rf:List ByteArray) (n:Int) (w:World) (hr:BV w w.heap.size a v) (hf:DM v) (hE:Env w) (zA:Eu w w.heap.size ra rf) (hq:(∃g h:Nat,a.qa=some ⟨g,0,none⟩/\a.ma=some ⟨h,0,none⟩)∨v.ph=0) (hl:rf.length<=1048576) (ht:tx.size<=maxLen):
 Calls prog 6 #[.agg #[.int .i64 v.wd,.int .i64 v.lim,.slice a.sa v.ss.length a.sc,.slice a.ta v.tt.length a.tc,.int .i64 v.sw,.int .i64 v.now,.int .i64 v.given,.int .i64 v.births,.slice a.ka v.ks.length a.kc,.slice a.pa v.ps.length a.pc,.slice a.la v.ls.length a.lc,.int .i64 v.ph,.slice a.qa v.qs.length a.qc,.slice a.ma v.ms.length a.mc,.int .i64 v.top,.int .i64 v.at_,.int .i64 v.ro],.agg #[.string tx,.slice ra rf.length rc],.int .i64 n] w (FX v ⟨1,⟨#[]⟩,⟨#[]⟩,n,tx,rf⟩ w):=
 PZ v [.int .i64 v.wd,.int .i64 v.lim,.slice a.sa v.ss.length a.sc,.slice a.ta v.tt.length a.tc,.int .i64 v.sw,.int .i64 v.now,.int .i64 v.given,.int .i64 v.births,.slice a.ka v.ks.length a.kc,.slice a.pa v.ps.length a.pc,.slice a.la v.ls.length a.lc,.int .i64 v.ph,.slice a.qa v.qs.length a.qc,.slice a.ma v.ms.length a.mc,.int .i64 v.top,.int .i64 v.at_,.int .i64 v.ro] tx ra rc rf n w rfl (fun X hX=>OQ v a ⟨1,⟨#[]⟩,⟨#[]⟩,n,tx,rf⟩ 25 _ ra rc X (enters_of func25 (by kernel_rfl) rfl) (hr.below' hX) hf (hE.below hX) ((zA.below hX).mono hX.size) hq hl ht (Nat.zero_le _) (fun Y _=>Mq tx ra rc rf n Y))
def Dp (w:World) (base:Nat) (a:Option Addr) (ss:List ByteArray):Prop:=
 ss=[]∨∃b off,a=some ⟨b,off,none⟩/\base<=b/\b<w.heap.size/\∀i s,ss[i]?=some s->w.cell? ⟨b,off+i,none⟩=some (.string s)/\w.frozen? ⟨b,off+i,none⟩=false
def Nt (a:Option Addr):Option Nat:=a.map (·.block)
def Ub (a:Option Addr) (ss:List ByteArray):Option Nat:=if ss=[] then none else Nt a
theorem Dp.stays {w w':World} {base:Nat} {a:Option Addr} {ss:List ByteArray} (h:Dp w base a ss) (hz:w.heap.size<=w'.heap.size) (hs:∀b,Nt a=some b->base<=b->b<w.heap.size->w'.heap[b]?=w.heap[b]?):Dp w' base a ss:=by
 rcases h with h|⟨b,off,rfl,h1,h2,h3⟩
 ·exact .inl h
 ·have e:=hs b rfl h1 h2
  exact .inr ⟨b,off,rfl,h1,by omega,fun i s hs=>⟨(World.cell?_of_block (a:=⟨b,off+i,none⟩) e).trans (h3 i s hs).1,(World.frozen?_of_block (a:=⟨b,off+i,none⟩) e).trans (h3 i s hs).2⟩⟩
theorem Dp.below {w w':World} {base:Nat} {a:Option Addr} {ss:List ByteArray} (h:Dp w base a ss) (hb:Uq w w'):Dp w' base a ss:=
 h.stays hb.size (fun b _ _ h2=>hb.block b h2)
theorem Dp.mono {w:World} {base base':Nat} {a:Option Addr} {ss:List ByteArray} (h:Dp w base a ss) (hb:base'<=base):Dp w base' a ss:=by
 rcases h with h|⟨b,off,rfl,h1,h2,h3⟩
 ·exact .inl h
 ·exact .inr ⟨b,off,rfl,by omega,h2,h3⟩
def OR (v:Vd) (s t:ByteArray) (refs:List ByteArray) (ok:Bool):Prop:=
 (¬Fo v/\t=⟨#[]⟩/\refs=[]/\ok=false)∨
 (Fo v/\((¬Av v.ks s/\t=⟨#[]⟩/\refs=[]/\ok=false)∨(∃u∈v.ks,u.sum=s/\t=u.text/\refs=u.refs/\ok=true)))
end Go.Proofs.YtflhhhnlhlaehaaGreatDoor
