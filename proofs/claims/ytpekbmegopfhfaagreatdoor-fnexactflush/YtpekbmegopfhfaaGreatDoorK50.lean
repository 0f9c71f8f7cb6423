import Derived.Test.YtpekbmegopfhfaaGreatDoorK29
import Derived.Test.YtpekbmegopfhfaaGreatDoorK35
import Derived.Test.YtpekbmegopfhfaaGreatDoorK36
import Derived.Test.YtpekbmegopfhfaaGreatDoorK38
import Derived.Test.YtpekbmegopfhfaaGreatDoorK47
import Derived.Test.YtpekbmegopfhfaaGreatDoorK48
import Derived.Test.YtpekbmegopfhfaaGreatDoorK49
set_option maxRecDepth 100000
set_option maxHeartbeats 16000000
namespace Go.Proofs.YtpekbmegopfhfaaGreatDoor
open Go.ChangeShapes Go.WideShapes Go.ChangeAt Go.RowKit _root_.Go.Proofs.Tryz
theorem Ga.rok {v:Vd} {r:Rs} (h:Ga v r):FK v.sw v.now v.given v.births v.ks v.ps v.ls:=by
 have h1:FK v.wd r.now r.given r.births r.ks r.ps r.ls:=h.run.ok (Fy h.wd.1 h.wd.2);obtain⟨⟨e1,e2,e3,e4⟩,e5,e6,e7⟩:=h.same;rw[e1,e2,e3,e4,e5,e6,e7] at h1;exact h1
def TU (v u:Vd):Prop:=¬Cj v/\u=v0∨Cj v/\u=Ic v (AN v.ss v.tt v.tt.length)
theorem TU.fit {v u:Vd} (h:TU v u) (hf:CK v):CK u:=by
 rcases h with⟨_,rfl⟩|⟨_,rfl⟩
 ·exact Kp
 ·obtain⟨h1,h2⟩:=FV (k:=v.tt.length) hf.ss hf.tt
  exact⟨h1,by simp[Ic],h2,by simp[Ic],hf.st,hf.r,hf.rn⟩
namespace ExactFlush
theorem walk (v:Vd) (a:Va) (w:World) (hE:Env w) (hr:Cb w w.heap.size a v) (hm:Qc v):
 Calls prog 8 #[.agg #[XJ v.wd,XJ v.lim,.slice a.sa v.ss.length a.sc,.slice a.ta v.tt.length a.tc,XJ v.sw,XJ v.now,XJ v.given,XJ v.births,.slice a.ka v.ks.length a.kc,.slice a.pa v.ps.length a.pc,.slice a.la v.ls.length a.lc,XJ v.ph,.slice a.qa v.qs.length a.qc,.slice a.ma v.ms.length a.mc,XJ v.top,XJ v.at_,XJ v.ro]] w fun e w'=>e=.returned (.bool true)/\Xz w w':=by
 refine walk_gen (D:=Vd) (fun o=>CK v/\TU v o) (Sj v) (Np v) (fun _ _ _ _ _=>True) (fun o=>Ul o) (fun o=>IC o o) (fun o lo N X cs K=>K=1+CL o/\IC o (Ek 1 o) lo N X cs) (CK v) [XJ v.wd,XJ v.lim,.slice a.sa v.ss.length a.sc,.slice a.ta v.tt.length a.tc,XJ v.sw,XJ v.now,XJ v.given,XJ v.births,.slice a.ka v.ks.length a.kc,.slice a.pa v.ps.length a.pc,.slice a.la v.ls.length a.lc,XJ v.ph,.slice a.qa v.qs.length a.qc,.slice a.ma v.ms.length a.mc,XJ v.top,XJ v.at_,XJ v.ro] w rfl (fun hf=>Un v hf) ?_ ?_ ?_ ?_ ?_ ?_ ?_
 ·exact fun o ho=>Um o (ho.2.fit ho.1)
 ·exact fun o ho=>Sg o (ho.2.fit ho.1)
 ·rintro u u' ⟨_,⟨h1,rfl⟩|⟨h1,rfl⟩⟩ ⟨_,⟨h2,rfl⟩|⟨h2,rfl⟩⟩
  ·rfl
  ·exact absurd h2 h1
  ·exact absurd h1 h2
  ·rfl
 ·exact fun X hX=>Jc v a X (hr.below' hX) hm
 ·exact fun hf X hX=>LA v a w X hr hf hX
 ·rintro hf X cs hX ⟨g,k,g3,q3,r3,g5,k5,rfl,h1,h2⟩
  refine(Qm v _ _ _ _ _ (AN v.ss v.tt v.tt.length) X rfl (fun Y hY=>GF v (Jh g k g3 q3 r3 g5 k5 v) Y (h1.below' hY) ⟨(fun e=>by cases e),(fun e=>by cases e),XB⟩ hf) ?_ (fun _ Y hY=>Sl g k _ _ v.ss v.tt Y (h1.below' hY).s (h1.below' hY).t hf.s hf.t hf.ss hf.tt)).mono ?_
  ·rintro⟨r,zA⟩ Y hY
   have ho:=zA.rok;have hd:∀Z,Xz Y Z->Xz X Z:=fun Z hZ=>hY.trans (hZ.mono hY.size)
   refine(Oi v (Jh g k g3 q3 r3 g5 k5 v) Y (fun Z hZ=>Sm g k _ _ v.ss v.tt Z (h1.below' (hd Z hZ)).s (h1.below' (hd Z hZ)).t hf.s hf.t) (fun Z hZ=>PD v.sw v.now v.given v.births g3 0 q3 0 r3 0 _ _ _ v.ks v.ps v.ls Z (h1.below' (hd Z hZ)).st (h2.keep h1.st.k (hd Z hZ)) ho.kso.len ho.np ho.nl ho.r30) (fun Z hZ=>Oo v.ph v.top v.at_ v.ro g5 k5 _ _ v.qs v.ms Z (h1.below' (hd Z hZ)).q (h1.below' (hd Z hZ)).m hf.r)).mono ?_
   rintro e Y' ⟨S,U,T,P,L,Q,M,rs,rfl,h3,_,h4⟩;exact⟨S,U,T,P,L,Q,M,rs,rfl,h3,h4⟩
  ·rintro e X' ⟨u,S,U,T,P,L,Q,M,rs,ho,rfl,ha,hb⟩
   exact⟨u,AK u S U T P L Q M,rfl,⟨hf,ho⟩,ha.vra,hb⟩
 ·rintro hf X cs hX ⟨g,k,g3,q3,r3,g5,k5,rfl,h1,h2⟩
  refine(Ql v _ _ _ _ _ (AN v.ss v.tt v.tt.length) X rfl (fun Y hY=>GD v (Jh g k g3 q3 r3 g5 k5 v) Y (h1.below' hY) hf (hE.below (hX.trans (hY.mono hX.size)))) ?_ (fun _ Y hY=>Sk _ _ _ _ v.ss v.tt Y (h1.below' hY).s (h1.below' hY).t hf.s hf.t hf.ss hf.tt (XB))).mono ?_
  ·rintro⟨r,zA⟩ Y hY
   exact Kl v (Jh g k g3 q3 r3 g5 k5 v) r Y (h1.below' hY) hf zA
  ·rintro e X' ⟨u,S,U,T,P,L,Q,M,rs,ho,rfl,ha,hb⟩
   exact⟨u,AK u S U T P L Q M,rfl,⟨hf,ho⟩,ha.voa hb.size,hb⟩
end ExactFlush
end Go.Proofs.YtpekbmegopfhfaaGreatDoor
