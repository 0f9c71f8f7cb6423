import Derived.Test.YtpekbmegopfhfaaGreatDoorZ29
import Derived.Test.YtpekbmegopfhfaaGreatDoorZ38
set_option maxRecDepth 100000
set_option maxHeartbeats 16000000
namespace Go.Proofs.YtpekbmegopfhfaaGreatDoor
open Go.ChangeShapes Go.WideShapes Go.ChangeAt Go.RowKit _root_.Go.Proofs.Tryz
namespace ExactFetch
theorem walk (v:Vd) (a:Va) (s0:ByteArray) (w:World) (hE:Env w) (hr:VRows w w.heap.size a v) (hm:VMem v):
 Calls prog 6 #[.agg #[.int .i64 v.wd,.int .i64 v.lim,.slice a.sa v.ss.length a.sc,.slice a.ta v.tt.length a.tc,.int .i64 v.sw,.int .i64 v.now,.int .i64 v.given,.int .i64 v.births,.slice a.ka v.ks.length a.kc,.slice a.pa v.ps.length a.pc,.slice a.la v.ls.length a.lc,.int .i64 v.ph,.slice a.qa v.qs.length a.qc,.slice a.ma v.ms.length a.mc,.int .i64 v.top,.int .i64 v.at_,.int .i64 v.ro],.string s0] w fun e w'=>e=.returned (.bool true)/\Below w.heap.size w w':=by
 refine walk_gen (D:=ByteArray×List ByteArray×Bool) (fun o=>FTo v s0 o.1 o.2.1 o.2.2) (fun o=>o.2.2) (VRx v) (VOx v) (fun _ _ _ _ _=>True) (fun o=>TRa o.1 o.2.1) (fun o=>TOa o.1 o.2.1 o.2.1) (fun o lo N X cs K=>K=1+o.2.1.length/\TOa o.1 o.2.1 (marks 1 o.2.1.length) lo N X cs) (VFit v) [.int .i64 v.wd,.int .i64 v.lim,.slice a.sa v.ss.length a.sc,.slice a.ta v.tt.length a.tc,.int .i64 v.sw,.int .i64 v.now,.int .i64 v.given,.int .i64 v.births,.slice a.ka v.ks.length a.kc,.slice a.pa v.ps.length a.pc,.slice a.la v.ls.length a.lc,.int .i64 v.ph,.slice a.qa v.qs.length a.qc,.slice a.ma v.ms.length a.mc,.int .i64 v.top,.int .i64 v.at_,.int .i64 v.ro] s0 w rfl (fun hf=>kndVx v hf) ?_ ?_ ?_ ?_ ?_ ?_ ?_
 ·intro o ho
  exact kndT o.1 o.2.1 (by have:=ho.small;omega)
 ·intro o ho lo N X cs K h
  exact heldT o.1 o.2.1 (by have:=ho.small;omega) lo N X cs K h
 ·rintro⟨t,refs,ok⟩ ⟨t',refs',ok'⟩ h h'
  obtain⟨rfl,rfl,rfl⟩:=FTo.det h h';rfl
 ·exact fun X hX=>szVault_any v a X (hr.below' hX) hm
 ·exact fun hf X hX=>toVault_x v a w X hr hf hX
 ·rintro hf X cs hX ⟨g,k,g3,q3,r3,g5,k5,rfl,h1,h2⟩
  have h:=sFetch_any v (vaS g k g3 q3 r3 g5 k5 v) s0 X h1 ⟨(fun e=>by cases e),(fun e=>by cases e),Nat.le_refl _⟩ hf (fun A hA=>by cases hA;exact h2);simp only[vaS] at h;refine h.mono ?_;rintro e X' ⟨t,ra,refs,rc,ok,h3,rfl,h4,h5⟩;exact⟨(t,refs,ok),[.string t,.slice ra refs.length rc],rfl,h3,⟨ra,rc,rfl,h4⟩,h5⟩
 ·rintro hf X cs hX ⟨g,k,g3,q3,r3,g5,k5,rfl,h1,h2⟩
  have h:=iFetch_any v (vaS g k g3 q3 r3 g5 k5 v) s0 X h1 hf (hE.below hX);simp only[vaS] at h;refine h.mono ?_;rintro e X' ⟨t,ra,refs,rc,ok,h3,rfl,h4,h5⟩;refine⟨(t,refs,ok),[.string t,.slice ra refs.length rc],rfl,h3,⟨⟨Nat.le_refl _,h5.size⟩,rfl,ra,rc,rfl,h4,fun hne b hb=> ?_⟩,h5⟩;rcases h4 with h4|⟨b',off,rfl,_,h6,_⟩
  ·exact absurd h4 hne
  ·cases hb
   exact h6
end ExactFetch
end Go.Proofs.YtpekbmegopfhfaaGreatDoor
