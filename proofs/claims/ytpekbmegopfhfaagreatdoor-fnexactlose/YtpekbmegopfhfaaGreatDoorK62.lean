import Derived.Test.YtpekbmegopfhfaaGreatDoorK56
import Derived.Test.YtpekbmegopfhfaaGreatDoorK57
import Derived.Test.YtpekbmegopfhfaaGreatDoorK58
import Derived.Test.YtpekbmegopfhfaaGreatDoorK61
set_option maxRecDepth 100000
set_option maxHeartbeats 16000000
namespace Go.Proofs.YtpekbmegopfhfaaGreatDoor
open Go.ChangeShapes Go.WideShapes Go.ChangeAt Go.RowKit _root_.Go.Proofs.Tryz
def TY (v:Vd) (k:Int) (u:Vd):Prop:=¬Cj v/\u=v0∨Cj v/\∃c,El v.wd v.lim (AN v.ss v.tt k) [] c u
theorem TY.fit {v u:Vd} {k:Int} (h:TY v k u) (hf:CK v):CK u:=by
 rcases h with⟨_,rfl⟩|⟨_,c,h⟩
 ·exact Kp
 ·obtain⟨h1,h2⟩:=FV (k:=k) hf.ss hf.tt
  exact h.fit ⟨h1,by simp,h2,by simp⟩
theorem Qk.lo {v:Vd} {l:List ByteArray} {X w':World} {e:Ending} (h:Qk v.wd v.lim l [] X e w'):∃(c:Int) (u:Vd) (S U T P L Q M:Value) (rs:List Value),(∃c,El v.wd v.lim l [] c u)/\e=.returned (.tuple #[.agg (AK u S U T P L Q M).toArray,XJ c])/\Aw w' X.heap.size S U T P L Q M rs u/\Xz X w':=by
 obtain⟨c,u,S,U,T,P,L,Q,M,rs,ho,rfl,ha,hb⟩:=h;exact⟨c,u,S,U,T,P,L,Q,M,rs,⟨c,ho⟩,rfl,ha,hb⟩
namespace ExactLose
theorem walk (v:Vd) (a:Va) (n0:Int) (w:World) (hE:Env w) (hr:Cb w w.heap.size a v) (hm:Qc v):
 Calls prog 7 #[.agg #[XJ v.wd,XJ v.lim,.slice a.sa v.ss.length a.sc,.slice a.ta v.tt.length a.tc,XJ v.sw,XJ v.now,XJ v.given,XJ v.births,.slice a.ka v.ks.length a.kc,.slice a.pa v.ps.length a.pc,.slice a.la v.ls.length a.lc,XJ v.ph,.slice a.qa v.qs.length a.qc,.slice a.ma v.ms.length a.mc,XJ v.top,XJ v.at_,XJ v.ro],XJ n0] w fun e w'=>e=.returned (.bool true)/\Xz w w':=by
 refine walk_gen (D:=Vd) (fun o=>CK v/\TY v n0 o) (Sj v) (Np v) (fun _ _ _ _ _=>True) (fun o=>Ul o) (fun o=>IC o o) (fun o lo N X cs K=>K=1+CL o/\IC o (Ek 1 o) lo N X cs) (CK v) [XJ v.wd,XJ v.lim,.slice a.sa v.ss.length a.sc,.slice a.ta v.tt.length a.tc,XJ v.sw,XJ v.now,XJ v.given,XJ v.births,.slice a.ka v.ks.length a.kc,.slice a.pa v.ps.length a.pc,.slice a.la v.ls.length a.lc,XJ v.ph,.slice a.qa v.qs.length a.qc,.slice a.ma v.ms.length a.mc,XJ v.top,XJ v.at_,XJ v.ro] n0 w rfl (fun hf=>Un v hf) ?_ ?_ ?_ ?_ ?_ ?_ ?_
 ·exact fun o ho=>Um o (ho.2.fit ho.1)
 ·exact fun o ho=>Sg o (ho.2.fit ho.1)
 ·rintro u u' ⟨_,⟨h1,rfl⟩|⟨h1,c,k1⟩⟩ ⟨_,⟨h2,rfl⟩|⟨h2,d,k2⟩⟩
  ·rfl
  ·exact absurd h2 h1
  ·exact absurd h1 h2
  ·exact(k1.det k2).2
 ·exact fun X hX=>Jc v a X (hr.below' hX) hm
 ·exact fun hf X hX=>LA v a w X hr hf hX
 ·rintro hf X cs hX ⟨g,k,g3,q3,r3,g5,k5,rfl,h1,h2⟩
  obtain⟨f1,f2⟩:=FV (k:=n0) hf.ss hf.tt;refine(Ss v _ _ _ n0 (AN v.ss v.tt n0) (fun u=>∃c,El v.wd v.lim (AN v.ss v.tt n0) [] c u) X rfl (fun Y hY=>GF v (Jh g k g3 q3 r3 g5 k5 v) Y (h1.below' hY) ⟨(fun e=>by cases e),(fun e=>by cases e),XB⟩ hf) (fun _ Y hY=>Qt g k _ _ v.ss v.tt n0 Y (h1.below' hY).s (h1.below' hY).t hf.s hf.t hf.ss hf.tt (XB)) ?_).mono ?_
  ·intro _ Y u n hY ho
   obtain⟨a,c,rfl,hs,hn⟩:=OQ ho;exact(Sv v.wd v.lim a none c 0 (AN v.ss v.tt n0) [] Y hs (.inl rfl) hn (fun _=>⟨rfl,rfl⟩) f1 (by simp) f2 (by simp)).mono (fun e w' h=>h.lo)
  ·rintro e X' ⟨u,S,U,T,P,L,Q,M,rs,ho,rfl,ha,hb⟩
   exact⟨u,AK u S U T P L Q M,rfl,⟨hf,ho⟩,ha.vra,hb⟩
 ·rintro hf X cs hX ⟨g,k,g3,q3,r3,g5,k5,rfl,h1,h2⟩
  obtain⟨f1,f2⟩:=FV (k:=n0) hf.ss hf.tt;refine(Sr v _ _ _ n0 (AN v.ss v.tt n0) (fun u=>∃c,El v.wd v.lim (AN v.ss v.tt n0) [] c u) X rfl (fun Y hY=>GD v (Jh g k g3 q3 r3 g5 k5 v) Y (h1.below' hY) hf (hE.below (hX.trans (hY.mono hX.size)))) (fun _ Y hY=>Ko _ _ _ _ v.ss v.tt n0 Y (h1.below' hY).s (h1.below' hY).t hf.s hf.t hf.ss hf.tt (XB)) ?_).mono ?_
  ·intro _ Y u n hY ho
   obtain⟨a,c,rfl,hs,hn⟩:=OQ ho;exact(Sf v.wd v.lim a none c 0 (AN v.ss v.tt n0) [] Y hs (.inl rfl) f1 (by simp) f2 (by simp) (hE.below (hX.trans (hY.mono hX.size)))).mono (fun e w' h=>h.lo)
  ·rintro e X' ⟨u,S,U,T,P,L,Q,M,rs,ho,rfl,ha,hb⟩
   exact⟨u,AK u S U T P L Q M,rfl,⟨hf,ho⟩,ha.voa hb.size,hb⟩
end ExactLose
end Go.Proofs.YtpekbmegopfhfaaGreatDoor
