import Derived.Test.YtpekbmegopfhfaaGreatDoorK28
import Derived.Test.YtpekbmegopfhfaaGreatDoorK30
set_option maxRecDepth 100000
set_option maxHeartbeats 16000000
namespace Go.Proofs.YtpekbmegopfhfaaGreatDoor
open Go.ChangeShapes Go.WideShapes Go.ChangeAt Go.RowKit _root_.Go.Proofs.Tryz
def AK (v:Vd) (S U T P L Q M:Value):List Value:=[XJ v.wd,XJ v.lim,S,U,XJ v.sw,XJ v.now,XJ v.given,XJ v.births,T,P,L,XJ v.ph,Q,M,XJ v.top,XJ v.at_,XJ v.ro]
def Ul (v:Vd) (L:Nat) (X:World) (cs:List Value):Prop:=
 ∃a:Va,cs=AK v (.slice a.sa v.ss.length a.sc) (.slice a.ta v.tt.length a.tc) (.slice a.ka v.ks.length a.kc) (.slice a.pa v.ps.length a.pc) (.slice a.la v.ls.length a.lc) (.slice a.qa v.qs.length a.qc) (.slice a.ma v.ms.length a.mc)/\Cb X L a v
def IC (v u:Vd) (lo N:Nat) (X:World) (cs:List Value):Prop:=
 (N<=X.heap.size/\lo<=X.heap.size)/\∃S U T P L Q M rs,cs=AK v S U T P L Q M/\Aw X lo S U T P L Q M rs u/\∀g∈CE S U T P L Q M rs,g<N
theorem Aw.vra {X:World} {base:Nat} {S U T P L Q M:Value} {rs:List Value} {v:Vd} (h:Aw X base S U T P L Q M rs v):Ul v X.heap.size X (AK v S U T P L Q M):=by
 obtain⟨sa,sc,rfl,h1⟩:=h.s.row;obtain⟨ua,uc,rfl,h2⟩:=h.u.row;obtain⟨ta,tc,pa,pc,la,lc,rfl,rfl,rfl,h3⟩:=h.st.rows;obtain⟨qa,qc,rfl,h4⟩:=h.q.row;obtain⟨ma,mc,rfl,h5⟩:=h.m.row;exact⟨⟨sa,sc,ua,uc,ta,tc,pa,pc,la,lc,qa,qc,ma,mc⟩,rfl,⟨h1,h2,h3,h4,h5⟩⟩
theorem AY.at {w w':World} {base:Nat} {T P L:Value} {rs:List Value} {ks:List Kd} {ps:List Pd} {ls:List Ld} (h:AY w base T P L rs ks ps ls) (hm:∀g∈Bn T P L rs,w'.heap[g]?=w.heap[g]?):AY w' base T P L rs ks ps ls:=
 ⟨h.len,Ah h.things (fun g hg=>hm g (by unfold Bn;simp[hg])),fun i k r hk hr=>Ah (h.refs i k r hk hr) (fun g hg=>hm g (by unfold Bn;simp only[List.mem_append,List.mem_filterMap];exact .inr (.inr (.inr ⟨r,XG hr,hg⟩)))),Ah h.pins (fun g hg=>hm g (by unfold Bn;simp[hg])),Ah h.leases (fun g hg=>hm g (by unfold Bn;simp[hg])),h.nd⟩
theorem Aw.keep {X X':World} {lo N:Nat} {S U T P L Q M:Value} {rs:List Value} {u:Vd} (h1:Aw X lo S U T P L Q M rs u) (h2:∀g∈CE S U T P L Q M rs,g<N) (hz:X.heap.size<=X'.heap.size) (hs:∀q,lo<=q->q<N->X'.heap[q]?=X.heap[q]?):Aw X' lo S U T P L Q M rs u:=by
 have e:∀g∈CE S U T P L Q M rs,X'.heap[g]?=X.heap[g]?:=fun g hg=>hs g (h1.lo g hg) (h2 g hg);have hb:∀g∈Bn T P L rs,X'.heap[g]?=X.heap[g]?:=fun g hg=>e g (by unfold CE;simp only[List.mem_append];exact .inr (.inl hg));unfold CE at e;simp only[List.mem_append,Option.mem_toList] at e
 exact⟨h1.s.stays hz (fun g hg=>e g (.inl (.inl hg))),h1.u.stays hz (fun g hg=>e g (.inl (.inr hg))),h1.st.at hb,h1.q.stays hz (fun g hg=>e g (.inr (.inr (.inl hg)))),h1.m.stays hz (fun g hg=>e g (.inr (.inr (.inr hg)))),h1.nd⟩
theorem IC.keep {v u:Vd} {lo N:Nat} {X X':World} {cs:List Value} (h:IC v u lo N X cs) (hz:X.heap.size<=X'.heap.size) (hs:∀q,lo<=q->q<N->X'.heap[q]?=X.heap[q]?):IC v u lo N X' cs:=by
 obtain⟨hN,S,U,T,P,L,Q,M,rs,rfl,h1,h2⟩:=h;exact⟨⟨XI hN.1 hz,XI hN.2 hz⟩,S,U,T,P,L,Q,M,rs,rfl,h1.keep h2 hz hs,h2⟩
theorem CK.cnt {v:Vd} (h:CK v):1000+CL v<=90000000:=by
 unfold CL Cv;have:=h.s;have:=h.t;have:=h.st.k;have:=h.st.p;have:=h.st.l;have:=h.r.q;have:=h.r.m;have:=h.rn;omega
theorem Um (v:Vd) (hf:CK v):FL 17 1 22 25 (Ul v) (IC v v) (fun lo N X cs K=>K=1+CL v/\IC v (Ek 1 v) lo N X cs):=by
 refine⟨?_,?_,?_,?_,?_,?_,?_,?_⟩
 ·rintro X cs ds ⟨a,rfl,h1⟩ ⟨b,rfl,h2⟩
  exact Jd v a b X h1 h2 hf
 ·rintro lo N X cs k ⟨hN,S,U,T,P,L,Q,M,rs,rfl,h1,h2⟩ zA zB
  obtain rfl:k=1:=by omega
  refine(Kg v lo 1 S U T P L Q M rs X h1 (by omega) (by have:=hf.cnt;omega)).mono ?_;rintro e X' ⟨rfl,h3,h4⟩;exact⟨⟨1+CL v,rfl,by omega,by have:=hf.cnt;omega,rfl,⟨XI hN.1 h4.size,XI hN.2 h4.size⟩,S,U,T,P,L,Q,M,rs,rfl,h3,h2⟩,h4.below hN.2 h1.lo,fun q hq hq2=>h4.block q hq2 (fun e=>by have:=h2 q e;omega)⟩
 ·rintro L X X' cs ⟨a,rfl,h1⟩ hb
  exact⟨a,rfl,h1.keep hb⟩
 ·rintro L L' X cs ⟨a,rfl,h1⟩ hl
  exact⟨a,rfl,h1.mono hl⟩
 ·intro lo N X X' cs h hz hs
  exact h.keep hz hs
 ·rintro lo N X X' cs K ⟨rfl,h⟩ hz hs
  exact⟨rfl,h.keep hz hs⟩
 ·rintro lo N X cs ⟨hN,S,U,T,P,L,Q,M,rs,rfl,h1,_⟩
  exact⟨hN.1,h1.vra⟩
 ·rintro L X cs ⟨a,rfl,_⟩
  exact⟨rfl,by simp[AK,Value.oneCell']⟩
theorem Sg (v:Vd) (hf:CK v) (lo N:Nat) (X:World) (cs:List Value) (K:Nat) (h:K=1+CL v/\IC v (Ek 1 v) lo N X cs):
 Calls prog 26 #[.agg cs.toArray,XJ 1] X fun e X'=>e=.returned (XJ K)/\Xz X X':=by
 obtain⟨rfl,hN,S,U,T,P,L,Q,M,rs,rfl,h1,_⟩:=h;exact Qf v lo 1 S U T P L Q M rs X h1 (by omega) (by have:=hf.cnt;omega)
theorem Aw.voa {X:World} {base:Nat} {S U T P L Q M:Value} {rs:List Value} {v:Vd} (h:Aw X base S U T P L Q M rs v) (hb:base<=X.heap.size):IC v v base X.heap.size X (AK v S U T P L Q M):=
 ⟨⟨XB,hb⟩,S,U,T,P,L,Q,M,rs,rfl,h,h.lts⟩
end Go.Proofs.YtpekbmegopfhfaaGreatDoor
