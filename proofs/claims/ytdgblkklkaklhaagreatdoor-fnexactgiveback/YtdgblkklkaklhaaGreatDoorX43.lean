import Derived.Test.YtdgblkklkaklhaaGreatDoorX42
import Derived.Test.YtdgblkklkaklhaaGreatDoorX39
import Derived.Test.YtdgblkklkaklhaaGreatDoorX37
set_option maxRecDepth 100000
set_option maxHeartbeats 16000000
namespace Go.Proofs.YtdgblkklkaklhaaGreatDoor
open Go.ChangeShapes Go.WideShapes Go.ChangeAt Go.RowKit _root_.Go.Proofs.Tryz
section
attribute [local go_sem↓] Go.wp_at_zero Go.wp_at_succ
theorem Kb{a:Zl}:a.Nodup↔∀(j:Nat) x,a[j]?=some x->x∉a.take j:=by
 unfold List.Nodup;rw[List.pairwise_iff_getElem];constructor
 ·intro h j x b k;obtain⟨g,rfl⟩:=Zw b;obtain⟨i,c,e⟩:=List.getElem_of_mem k;have d:i<j:=by simp at c;omega
  rw[List.getElem_take]at e;exact h i j (by omega) g d e
 ·intro h i j c b l e;refine h j a[j] (Zv b) ?_;rw[←e];have f:i<(a.take j).length:=by simp;omega
  have:=List.getElem_mem f;rw[List.getElem_take]at this;exact this
theorem Ad.front{w:Zh}{B:Nat}{a:Zk}{c:Zl}(h:Ad w B a c)(K:Nat):Ad w B a (c.take K):=by
 rcases h with h|⟨q,d,e,f,g⟩
 ·exact .inl (by simp[h])
 ·refine .inr ⟨q,d,e,f,fun i s b=>g i s ?_⟩;have j:=(Zw b).1;simp at j;rw[List.getElem?_take_of_lt (by omega)]at b;exact b
theorem Vy(l z given ae m ag f o:Int)(T P L:Value)(a b:Zk)(S A:Nat)(g d:Zl)(w:Zh)(hq:Ad w w.heap.size a g)(hm:Ad w w.heap.size b d)(hf:Gj g d)(zM:d.length<=A)(zR:ae<=1000000000):
 Calls prog 68 #[.agg #[Zg l,Zg z,Zg given,Zg ae,T,P,L],.agg (Yk m a g.length S b d.length A ag f o)] w fun e w'=>Ar (AR l ae m ag f o g d) w w' e:=by
 have zT:=hf.q;have zS:=hf.m;obtain⟨W,U⟩:∃W,W=(w.alloc (.cells #[Zg l,Zg z,Zg given,Zg ae,T,P,L] 40)).alloc (.cells (Yk m a g.length S b d.length A ag f o) 41):=⟨_,rfl⟩;have c:Below w.heap.size w W:=by rw[U];exact(Zy).alloc (by simp) _
 have zH:Bg W w.heap.size l z given ae T P L:=by rw[U];exact(Bg.new w l z given ae T P L 40).below (Zy)
 have zG:Bt W (w.heap.size+1) m (.slice a g.length S) (.slice b d.length A) ag f o:=by rw[U];have:=Bt.new (w.alloc (.cells #[Zg l,Zg z,Zg given,Zg ae,T,P,L] 40)) m ag f o (.slice a g.length S) (.slice b d.length A) 41;rw[World.size_alloc]at this;exact this
 have zK:W.heap.size=w.heap.size+2:=by rw[U];simp
 have HW:=Yx U;clear U;have r:=Yx zH;have q:=Yx zG;have HQ:=Yx hq;have HM:=Yx hm;clear zH zG hq hm;by_cases p1:m<0
 ·have d1:decide (m<0)=true:=by simpa using p1
  go_enter func68,ntmps68;go_wp2;go_ret;rw[←HW.o];exact Ar.no (P:=AR l ae m ag f o g d) (fun h=>by rcases h.ph with h|h|h<;>(have:=h.1;omega)) c
 have d1:decide (m<0)=false:=by simpa using p1
 by_cases p2:2<m
 ·have d2:decide ((2:Int)<m)=true:=by simpa using p2
  go_enter func68,ntmps68;go_wp2;go_ret;rw[←HW.o];exact Ar.no (P:=AR l ae m ag f o g d) (fun h=>by rcases h.ph with h|h|h<;>(have:=h.1;omega)) c
 have d2:decide ((2:Int)<m)=false:=by simpa using p2
 go_enter func68,ntmps68;go_wp2_with fail;rw[←HW.o];refine(Hs o 0 1000000000 W).mono ?_;rintro e w1 ⟨rfl,rfl⟩;obtain⟨F,B,C,G,H,I,O⟩:=q.o;by_cases h1:0<=o/\o<=1000000000
 ·rw[decide_eq_true h1];by_cases h2:g.length<=23200
  ·have u:decide ((23200:Int)<(g.length:Int))=false:=by simp;omega
   by_cases h3:d.length<=600
   ·have D:decide ((600:Int)<(d.length:Int))=false:=by simp;omega
    clear HW;go_wp2
    go_loopw [5] (fun i wr=>∃k:Nat,k<=g.length/\i=Zg k/\Hid (∀j x,j<k->g[j]?=some x->(x.size:Int)=l)/\Hid (Bg wr w.heap.size l z given ae T P L)/\Hid (Bt wr (w.heap.size+1) m (.slice a g.length S) (.slice b d.length A) ag f o)/\Zz w wr) (fun i _=>g.length -(intOf i).toNat)
    case atStart=>exact⟨0,Nat.zero_le _,rfl,fun j x h=>by omega,r,q,c⟩
    case round=>
     clear F B C G H I O r q c zK;obtain⟨k,hk,rfl,p,r,q,c⟩:=hrel;obtain⟨F,B,C,G,H,I,O⟩:=q.o;obtain⟨J,_,_,Q,_,_,_,Z⟩:=r.o;by_cases hlt:k<g.length
     ·obtain⟨b',zC,ha,hb,hc⟩:=(Ad.below HQ.o c).at hlt;subst ha;have N:=Yx (Zv hlt);have M:=hc k _ N;have K:=Zr hb c.size;clear hc;generalize g[k]=x at *
      have V:=AB.cell B O;have X:=AB.cell M K;have Y:=AB.cell J Z;have zI:=AB.ne wr;by_cases h:(x.size:Int)=l
      ·have hn:((x.size:Int) !=l)=false:=by simp[h]
       have HA:Hid (∀j y,j<k+1->g[j]?=some y->(y.size:Int)=l):=by
        intro j y hj E;rcases Nat.lt_or_ge j k with v|v
        ·exact p j y v E
        ·obtain rfl:j=k:=by omega
         rw[N.o]at E;cases E;exact h
       go_wp2;refine AI (by kernel_rfl) (by kernel_rfl) ?_
       repeat (go_big_quiet_step (fail))
       refine wpQuiet_nil ?_;intro n;have zB:=Yx (Bg.aj r.o n.h Z);have zA:=Yx (Bt.aj q.o n.h O);have t:=c.trans (n.h.mono c.size);clear V X Y F B C G H I J Q M;go_wp2;exact⟨⟨k+1,by omega,by go_num,HA,zB,zA,t⟩,by simp[intOf];omega⟩
      ·have hn:((x.size:Int) !=l)=true:=by simp[h]
       go_wp2;refine AI (by kernel_rfl) (by kernel_rfl) ?_
       repeat (go_big_quiet_step (fail))
       refine wpQuiet_nil ?_;intro n;have t:=c.trans (n.h.mono c.size);clear V X Y F B C G H I J Q M;go_wp2;go_ret;exact Ar.no (P:=AR l ae m ag f o g d) (fun v=>h (v.fc.q x (Zs N.o))) t
     ·have zE:Hid (∀s∈g,(s.size:Int)=l):=by intro s hs;obtain⟨j,hj,rfl⟩:=List.getElem_of_mem hs;exact p j _ (by omega) (Zv hj)
      clear p;go_wp2
      go_loopw [6] (fun i wr=>∃k:Nat,k<=d.length/\i=Zg k/\Hid (∀j x,j<k->d[j]?=some x->(x.size:Int)=l/\x∉d.take j)/\Hid (Bg wr w.heap.size l z given ae T P L)/\Hid (Bt wr (w.heap.size+1) m (.slice a g.length S) (.slice b d.length A) ag f o)/\Zz w wr) (fun i _=>d.length -(intOf i).toNat)
      case atStart=>exact⟨0,Nat.zero_le _,rfl,fun j x h=>by omega,r,q,c⟩
      case round=>
       clear F B C G H I O J Q Z r q c;obtain⟨k,hk,rfl,p,r,q,c⟩:=hrel;obtain⟨F,B,C,G,H,I,O⟩:=q.o;obtain⟨J,_,_,Q,_,_,_,Z⟩:=r.o;by_cases hlt:k<d.length
       ·obtain⟨b',zC,ha,hb,hc⟩:=(Ad.below HM.o c).at hlt;subst ha;have N:=Yx (Zv hlt);have M:=hc k _ N;have K:=Zr hb c.size;clear hc;generalize d[k]=x at *
        have V:=AB.cell C O;have X:=AB.cell M K;have Y:=AB.cell J Z;have zI:=AB.ne wr;have zJ:(d.take k).length=k:=by simp;omega
        have hH:∀n:AB wr,Calls prog 85 #[.slice (some ⟨b',zC,none⟩) k A,.string x] n.w fun e w'=>e=.returned (.bool ((d.take k).any (fun y=>decide (y=x))))/\Below n.w.heap.size n.w w':=fun n=>by have:=PU (some ⟨b',zC,none⟩) A (d.take k) x n.w w.heap.size (Ad.front (Ad.below HM.o (c.trans (n.h.mono c.size))) k) (by omega);rw[zJ]at this;exact this.mono (by rintro e w' ⟨rfl,rfl⟩;exact⟨rfl,Below.refl _ _⟩)
        have HH:=Yx hH;clear hH;have zU:k<=A:=by omega
        by_cases h:(x.size:Int)=l
        ·have hn:((x.size:Int) !=l)=false:=by simp[h]
         cases hin:(d.take k).any (fun y=>decide (y=x))with
         |false=>
          rw[hin]at HH;have R:x∉d.take k:=fun hx=>by have:(d.take k).any (fun y=>decide (y=x))=true:=List.any_eq_true.2 ⟨x,hx,by simp⟩;rw[hin]at this;cases this
          have HA:Hid (∀j y,j<k+1->d[j]?=some y->(y.size:Int)=l/\y∉d.take j):=by
           intro j y hj E;rcases Nat.lt_or_ge j k with v|v
           ·exact p j y v E
           ·obtain rfl:j=k:=by omega
            rw[N.o]at E;cases E;exact⟨h,R⟩
          clear R p;go_wp2;refine AI (by kernel_rfl) (by kernel_rfl) ?_
          repeat (go_big_quiet_step (exact AB.calls (HH.o _)))
          refine wpQuiet_nil ?_;intro n;have zB:=Yx (Bg.aj r.o n.h Z);have zA:=Yx (Bt.aj q.o n.h O);have t:=c.trans (n.h.mono c.size);clear V X Y F B C G H I J Q M;go_wp2;exact⟨⟨k+1,by omega,by go_num,HA,zB,zA,t⟩,by simp[intOf];omega⟩
         |true=>
          rw[hin]at HH;have HN:Hid (x∈d.take k):=by
           obtain⟨y,E,e⟩:=List.any_eq_true.1 hin;have:y=x:=by simpa using e
           rw[←this];exact E
          clear p;go_wp2;refine AI (by kernel_rfl) (by kernel_rfl) ?_
          repeat (go_big_quiet_step (exact AB.calls (HH.o _)))
          refine wpQuiet_nil ?_;intro n;have t:=c.trans (n.h.mono c.size);clear V X Y F B C G H I J Q M;go_wp2;go_ret;exact Ar.no (P:=AR l ae m ag f o g d) (fun v=>(Kb.1 v.fc.nd) k x N.o HN.o) t
        ·have hn:((x.size:Int) !=l)=true:=by simp[h]
         go_wp2;refine AI (by kernel_rfl) (by kernel_rfl) ?_
         repeat (go_big_quiet_step (fail))
         refine wpQuiet_nil ?_;intro n;have t:=c.trans (n.h.mono c.size);clear V X Y F B C G H I J Q M;go_wp2;go_ret;exact Ar.no (P:=AR l ae m ag f o g d) (fun v=>h (v.fc.m x (Zs N.o))) t
       ·have HS:Hid (Ou l g d):=by refine⟨h2,h3,zE.o,fun s hs=> ?_,Kb.2 fun j x hx=>(p j x (by have:=(Zw hx).1;omega) hx).2⟩;obtain⟨j,hj,rfl⟩:=List.getElem_of_mem hs;exact(p j _ (by omega) (Zv hj)).1
        clear p zE;by_cases p0:m=0
        ·subst p0;by_cases e1:g.length=0
         ·by_cases u:d.length=0
          ·by_cases D:ag=0
           ·by_cases e4:f=0
            ·go_wp2;go_ret;exact Ar.yes (P:=AR l ae 0 ag f o g d) ⟨h1.1,h1.2,HS.o,.inl ⟨rfl,List.eq_nil_of_length_eq_zero e1,List.eq_nil_of_length_eq_zero u,D,e4⟩⟩ c
            ·have zP:(f==0)=false:=by simpa using e4
             go_wp2;go_ret;exact Ar.no (P:=AR l ae 0 ag f o g d) (fun h=>by have:=h.ph;unfold Ev at this;simp at this;have h9:=this.2.2.2;omega) c
           ·have zF:(ag==0)=false:=by simpa using D
            go_wp2;go_ret;exact Ar.no (P:=AR l ae 0 ag f o g d) (fun h=>by have:=h.ph;unfold Ev at this;simp at this;have h9:=this.2.2.1;omega) c
          ·have zO:=beq_eq_false_iff_ne.2 (by omega);go_wp2;go_ret;exact Ar.no (P:=AR l ae 0 ag f o g d) (fun h=>by have:=h.ph;unfold Ev at this;simp at this;exact u (by rw[this.2.1];rfl)) c
         ·have zN:=beq_eq_false_iff_ne.2 (by omega);go_wp2;go_ret;exact Ar.no (P:=AR l ae 0 ag f o g d) (fun h=>by have:=h.ph;unfold Ev at this;simp at this;exact e1 (by rw[this.1];rfl)) c
        ·have zW:(m==0)=false:=by simpa using p0
         go_wp2_with fail;refine(Hs ag 0 ae wr).mono ?_;rintro e w1 ⟨rfl,rfl⟩;by_cases e1:0<=ag/\ag<=ae
         ·rw[decide_eq_true e1];have zV:=Ir (by omega) (by omega);go_wp2_with fail;refine(Hs f 1 (ag+1) _).mono ?_;rintro e w1 ⟨rfl,rfl⟩;by_cases u:1<=f/\f<=ag+1
          ·rw[decide_eq_true u];by_cases p3:m=2
           ·subst p3;go_wp2;go_ret;exact Ar.yes (P:=AR l ae 2 ag f o g d) ⟨h1.1,h1.2,HS.o,.inr (.inr ⟨rfl,e1.1,e1.2,u.1,u.2⟩)⟩ c
           ·have zX:(m==2)=false:=by simpa using p3
            obtain rfl:m=1:=by omega
            by_cases D:f=ag+1
            ·have zF:(f==ag+1)=true:=by simpa using D
             go_wp2;go_ret;exact Ar.yes (P:=AR l ae 1 ag f o g d) ⟨h1.1,h1.2,HS.o,.inr (.inl ⟨rfl,e1.1,e1.2,D⟩)⟩ c
            ·have zF:(f==ag+1)=false:=by simpa using D
             go_wp2;go_ret;exact Ar.no (P:=AR l ae 1 ag f o g d) (fun h=>by have:=h.ph;unfold Ev at this;simp at this;exact D this.2.2) c
          ·rw[decide_eq_false u];go_wp2;go_ret;exact Ar.no (P:=AR l ae m ag f o g d) (fun h=>by rcases h.ph with h|h|h;exact p0 h.1;exact u (by have:=h.2.2.2;omega);exact u h.2.2.2) c
         ·rw[decide_eq_false e1];go_wp2;go_ret;exact Ar.no (P:=AR l ae m ag f o g d) (fun h=>by rcases h.ph with h|h|h;exact p0 h.1;exact e1 ⟨h.2.1,h.2.2.1⟩;exact e1 ⟨h.2.1,h.2.2.1⟩) c
   ·have D:decide ((600:Int)<(d.length:Int))=true:=by simp;omega
    go_wp2;go_ret;exact Ar.no (P:=AR l ae m ag f o g d) (fun h=>h3 h.fc.nm) c
  ·have u:decide ((23200:Int)<(g.length:Int))=true:=by simp;omega
   go_wp2;go_ret;exact Ar.no (P:=AR l ae m ag f o g d) (fun h=>h2 h.fc.nq) c
 ·rw[decide_eq_false h1];go_wp2;go_ret;exact Ar.no (P:=AR l ae m ag f o g d) (fun h=>h1 ⟨h.io,h.ir⟩) c
end
structure TV (w wx:Zh) (v:Vd) (a:Va) (b:Nat) (o:An) (ta pa la:Zk) (tc pc lc:Nat):Prop where
 box:Aa wx b [Zg o.code,Zg o.wd,Zg o.now,Zg o.given,Zg o.ae,.slice ta o.ks.length tc,.slice pa o.ps.length pc,.slice la o.ls.length lc,.string o.sm,Zg o.le,.string o.a,.string o.b]
 rows:Bv wx wx.heap.size ta pa la o.ks o.ps o.ls
 rto:Ot v.wd (v.ss++v.tt) o
 gx:Aa wx w.heap.size [Zg v.wd,Zg v.ak,.slice a.sa v.ss.length a.sc,.slice a.ta v.tt.length a.tc,Zg v.sw,Zg v.now,Zg v.given,Zg v.ae,.slice a.ka v.ks.length a.kc,.slice a.pa v.ps.length a.pc,.slice a.la v.ls.length a.lc,Zg v.ph,.slice a.qa v.qs.length a.qc,.slice a.ma v.ms.length a.mc,Zg v.ag,Zg v.at_,Zg v.ro]
 cf:Below w.heap.size w wx
theorem TV.fin{w c d:Zh}{v:Vd}{a:Va}{b:Nat}{o:An}{i h g:Zk}{n m l:Nat}(p:Ot v.wd (v.ss++v.tt) o)(q:∀X,Tn [b] d X->Bv X X.heap.size i h g o.ks o.ps o.ls)(f:Zz w c)(e:Zz c d)(s:Aa c w.heap.size (Yh v a))(u:w.heap.size<c.heap.size)(t:Aa d b z12)(y:c.heap.size<=b):
 TV w ((((((((((((d.setCell (Ze b 0) (Zg o.code)).setCell (Ze b 1) (Zg o.wd)).setCell (Ze b 2) (Zg o.now)).setCell (Ze b 3) (Zg o.given)).setCell (Ze b 4) (Zg o.ae)).setCell (Ze b 5) (.slice i o.ks.length n)).setCell (Ze b 6) (.slice h o.ps.length m)).setCell (Ze b 7) (.slice g o.ls.length l)).setCell (Ze b 8) (.string o.sm)).setCell (Ze b 9) (Zg o.le)).setCell (Ze b 10) (.string o.a)).setCell (Ze b 11) (.string o.b)) v a b o i h g n m l:=by
 have k:=Bh d b (Zg o.code) (Zg o.wd) (Zg o.now) (Zg o.given) (Zg o.ae) (.slice i o.ks.length n) (.slice h o.ps.length m) (.slice g o.ls.length l) (.string o.sm) (Zg o.le) (.string o.a) (.string o.b);have x:=e.size;refine⟨VE t _ _ _ _ _ _ _ _ _ _ _ _,?_,p,?_,?_⟩
 ·exact q _ k
 ·exact Aa.same (Aa.below s e) (k.block _ (by omega) (by simp;omega))
 ·exact(f.trans (e.mono f.size)).trans (k.below (by have:=f.size;omega) (fun j r=>by simp at r;have:=f.size;omega))
theorem Lr(v:Vd)(a:Va)(w:Zh)(hr:BR w w.heap.size a v)(hc:Aae a v)(B:Cr v):
 Calls prog 33 #[.agg (Yi v a)] w fun e w'=>Ar (Ei v) w w' e:=by
 obtain⟨W,hW⟩:∃W,W=w.alloc (.cells (Yi v a) 43):=⟨_,rfl⟩;have O:=(AG hW).1;have zW:=(AG hW).2.1;have xW:=(AG hW).2.2;have HX:Hid (Aa W _ _):=(AG hW).2.2;have HR:=Yx hr;have HW:=Yx hW;have Y:=Yx (Ky v.wd W);have zG:=Yx (Hs v.ak 0 1000000 W);have zM:=Yx (MY a.sa a.ta a.sc a.tc v.ss v.tt W w.heap.size O.size (hr.s.below O) (hr.t.below O) B.s B.t B.ss B.tt)
 obtain⟨Q,R,S,U,y4,y5,y6,y7,y8,y9,G,H,I,J,K,M,N⟩:=Fy xW;clear hW xW hr;by_cases hwd:1<=v.wd/\v.wd<=8
 ·rw[decide_eq_true hwd]at Y;by_cases hlim:0<=v.ak/\v.ak<=1000000
  ·rw[decide_eq_true hlim]at zG;cases hlog:Dc v.ss v.tt with
   |true=>
    rw[hlog]at zM;have yK:=IG hlog;obtain⟨xs,zO⟩:∃xs,xs=v.ss++v.tt:=⟨_,rfl⟩;have HA:Hid (∀X,Zz W X->Calls prog 66 #[.agg #[.slice a.sa v.ss.length a.sc,.slice a.ta v.tt.length a.tc]] X fun e w'=>∃g q,e=.returned (Za g xs.length q)/\w'.ownsRow X.heap.size 9 1 (Za g xs.length q) xs.length (xs.map Value.string)/\Zz X w'):=fun X hX=>by have hb:=O.trans (hX.mono O.size);rw[zO];exact TU a.sa a.ta a.sc a.tc v.ss v.tt X (HR.o.s.af hb) (HR.o.t.af hb) hc.s hc.t B.s B.t
    have HS:Hid (∀(X:Zh) (g q:Nat),Ad X X.heap.size (some ⟨g,0,none⟩) xs->Calls prog 65 #[Zg v.wd,Za g xs.length q] X fun e w'=>∃(o:An) (m:Zk) (p:Nat) (j:Zk) (l:Nat) (f:Zk) (i:Nat) (rs:Zj),e=.returned (.agg #[Zg o.code,Zg o.wd,Zg o.now,Zg o.given,Zg o.ae,.slice m o.ks.length p,.slice j o.ps.length l,.slice f o.ls.length i,.string o.sm,Zg o.le,.string o.a,.string o.b])/\Ot v.wd xs o/\AO w' X.heap.size (.slice m o.ks.length p) (.slice j o.ps.length l) (.slice f o.ls.length i) rs o.ks o.ps o.ls/\Zz X w'):=fun X g q h=>by
     refine(PE v.wd _ _ xs X h (by rw[zO];omega) (fun s hs=>by rw[zO]at hs;rcases List.mem_append.1 hs with h|h;exact B.ss s h;exact B.tt s h)).mono ?_;rintro e w' ⟨o,T,P,L,rs,t,rfl,hS,hb⟩;obtain⟨m,p,j,l,f,i,rfl,rfl,rfl,_⟩:=hS.rows;exact⟨o,m,p,j,l,f,i,rs,rfl,t,hS,hb⟩
    have zY:=Yx zO;clear zO;have HM:=Yx hc.m;clear hc;go_enter func33,ntmps33;go_wp2_with fail;rw[←HW.o];refine Calls.mono Y.o ?_;rintro e w1 ⟨rfl,c⟩;replace c:=c.symm;subst c;go_wp2_with fail;refine Calls.mono zG.o ?_;rintro e w1 ⟨rfl,c⟩;replace c:=c.symm;subst c;go_wp2_with fail;refine Calls.mono zM.o ?_;rintro e d ⟨rfl,zB⟩;have x2:=Aa.below HX.o zB
    have z2:w.heap.size+1<=d.heap.size:=by have:=zB.size;omega
    have yD:=Yx zB;have zR:=Yx x2;have V:=Yx (O.trans (zB.mono O.size));clear Q R S U y4 y5 y6 y7 y8 y9 G H I J K M N Y zG zM zB HW;obtain⟨Q,R,S,U,_⟩:=Fy x2;clear x2;go_upto_region 3 with fail;generalize (.agg (Yi v a):Value)=dv0;go_cut [3] (fun u wx=>∃(b:Nat) (o:An) (m j f:Zk) (p l i:Nat),u=Yz b/\Hid (TV w wx v a b o m j f p l i))
    case first=>
     have Z:Hid (∀X,Zz d X->X.cell? (Ze (w.heap.size) 0)=some (Zg v.wd)/\X.cell? (Ze (w.heap.size) 2)=some (.slice a.sa v.ss.length a.sc)/\X.cell? (Ze (w.heap.size) 3)=some (.slice a.ta v.tt.length a.tc)):=fun X hX=>by obtain⟨u0,u1,u2,u3,_⟩:=Fy (Aa.below zR.o hX);exact⟨u0,u2,u3⟩
     have HL:Hid (∀X,Zz d X->Zz W X):=fun X hX=>yD.o.trans (hX.mono yD.o.size);have D0:Below d.heap.size d d.drew:=(Below.refl _ _).drew;have D1:∀o,Zz d (d.alloc o).drew:=fun o=>(Zy).drew;clear Q R S U
     go_region_held3 (fun X=>X.cell? (Ze (w.heap.size) 0)=some (Zg v.wd)/\X.cell? (Ze (w.heap.size) 2)=some (.slice a.sa v.ss.length a.sc)/\X.cell? (Ze (w.heap.size) 3)=some (.slice a.ta v.tt.length a.tc))
      (first
        |with_reducible exact Z.o _ D0
        |with_reducible exact Z.o _ (D1 _)
        |with_reducible exact Z.o _ z
        |with_reducible exact Z.o _ (z.alloc z.size _)
        |with_reducible exact Z.o _ D
        |with_reducible exact Z.o _ (D.alloc D.size _)
        |with_reducible exact Z.o _ (D.trans ((Bh w4 _ _ _ _ _ _ _ _ _ _ _ _ _).below D.size (by intro x hx;simp at hx;omega))))
      (first
        |(go_at_call 66;guard_target=~Calls prog 66 _ (World.drew (World.alloc d _)) _;refine Calls.mono (HA.o (d.alloc (.cells Yr 82)).drew (HL.o _ (D1 _))) ?_;rintro e y ⟨g,q,rfl,zN,zS⟩;have z:Below d.heap.size d y:=(D1 _).trans (zS.mono (by simp));have zC:=Ad.own zN;clear zN;have zA:Aa y d.heap.size z12:=Aa.below (v:=Zf) (w:=(d.alloc (.cells Yr 82))) (Aa.new d z12 82) (Dv zS))
        |(go_at_call 66;guard_target=~Calls prog 66 _ (World.drew d) _;refine Calls.mono (HA.o d.drew (HL.o _ D0)) ?_;rintro e y ⟨g,q,rfl,zN,zS⟩;have z:Below d.heap.size d y:=D0.trans zS;have zC:=Ad.own zN;clear zN;have nA:=z)
        |(go_at_call 65;have zT:=zA;refine Calls.mono (HS.o y g q zC) ?_;rintro e w4 ⟨o,m,p,j,l,f,i,rs,rfl,t,F,zE⟩;have E:=Yx (Zn t F);clear t F zC;have D:Below d.heap.size d w4:=z.trans (zE.mono z.size);have yA:Aa w4 d.heap.size z12:=Aa.below (v:=Zf) zA zE;have yC:d.heap.size<y.heap.size:=Aa.lt (v:=Zf) zA;have zJ:d.heap.size<=d.heap.size:=Zx;obtain⟨⟨t0,q0⟩,⟨t1,q1⟩,⟨t2,q2⟩,⟨t3,q3⟩,⟨t4,q4⟩,⟨t5,q5⟩,⟨t6,q6⟩,⟨t7,q7⟩,⟨t8,q8⟩,⟨t9,q9⟩,⟨t10,q10⟩,t11,q11⟩:=AT yA)
        |(go_at_call 65;guard_target=~Calls prog 65 _ (World.alloc y _) _;refine Calls.mono (HS.o (y.alloc (.cells Yr 82)) g q (zC.af (Zy))) ?_;rintro e w4 ⟨o,m,p,j,l,f,i,rs,rfl,t,F,zE⟩;have E:=Yx (Zn t F);clear t F zC;have D:Below d.heap.size d w4:=(z.alloc z.size _).trans (zE.mono (by have:=z.size;simp;omega));have yB:Aa w4 y.heap.size z12:=Aa.below (v:=Zf) (w:=(y.alloc (.cells Yr 82))) (Aa.new y z12 82) zE;have zJ:d.heap.size<=y.heap.size:=z.size;obtain⟨⟨t0,q0⟩,⟨t1,q1⟩,⟨t2,q2⟩,⟨t3,q3⟩,⟨t4,q4⟩,⟨t5,q5⟩,⟨t6,q6⟩,⟨t7,q7⟩,⟨t8,q8⟩,⟨t9,q9⟩,⟨t10,q10⟩,t11,q11⟩:=AT yB)
        |(go_at_call 65;have zT:=nA;refine Calls.mono (HS.o y g q zC) ?_;rintro e w4 ⟨o,m,p,j,l,f,i,rs,rfl,t,F,zE⟩;have E:=Yx (Zn t F);clear t F zC;have D:Below d.heap.size d w4:=z.trans (zE.mono z.size);have nD:=nA))
     all_goals
      go_wp2_with fail;go_meet
     all_goals first
      |(have zT:=yA
        exact⟨d.heap.size,o,m,j,f,p,l,i,rfl,TV.fin (zY.o▸E.o.1) (fun X ht=>AO.get (E.o.2.an ht (by simp;exact yC))) V.o D zR.o (by omega) yA zJ⟩)
      |(have zT:=yB
        exact⟨y.heap.size,o,m,j,f,p,l,i,rfl,TV.fin (zY.o▸E.o.1) (fun X ht=>AO.get (E.o.2.an ht (by simp))) V.o D zR.o (by omega) yB zJ⟩)
      |(have zT:=nD
        exact⟨w4.heap.size,o,m,j,f,p,l,i,rfl,⟨Aa.new w4 [Zg o.code,Zg o.wd,Zg o.now,Zg o.given,Zg o.ae,.slice m o.ks.length p,.slice j o.ps.length l,.slice f o.ls.length i,.string o.sm,Zg o.le,.string o.a,.string o.b] 82,(AO.get E.o.2).af (Zy),zY.o▸E.o.1,Aa.below (Aa.below zR.o D) (Zy),(V.o.trans (D.mono V.o.size)).alloc (Zm V.o.size D.size) _⟩⟩)
    case rest=>
     clear Q R S U HA HS;obtain⟨b,o,m,j,f,p,l,i,rfl,HV⟩:=hcut;rcases HV.o.rto with⟨yL,_⟩|⟨_,⟨n,zH,ho⟩|⟨r,zH,ho⟩⟩
     ·exact absurd ⟨hwd,yK⟩ yL
     ·have zU:o.code=7:=by rw[ho]
      obtain⟨m0,_⟩:=HV.o.box 0 _ rfl;rw[zU]at m0;have zF:=Yx HV.o.cf;have zV:Hid (¬Ei v):=fun⟨r,h⟩=>Di.not hwd.1 hwd.2 zH h.run;clear ho zH HV;go_wp2;go_ret;exact Ar.no zV.o zF.o
     ·subst ho;have zI:=zH.ok (FX hwd.1 hwd.2);obtain⟨⟨m0,_⟩,⟨m1,_⟩,⟨m2,_⟩,⟨m3,_⟩,⟨m4,_⟩,⟨m5,_⟩,⟨m6,_⟩,m7,_⟩:=Mx HV.o.box;obtain⟨Q,R,S,U,y4,y5,y6,y7,y8,y9,G,H,I,J,K,M,N⟩:=Fy HV.o.gx;have zF:=Yx HV.o.cf;have yH:=HR.o.st.aj zF.o
      have yF:=Yx (Lq v.wd r.now r.given r.ae v.sw v.now v.given v.ae m j f a.ka a.pa a.la p l i a.kc a.pc a.lc r.ks v.ks r.ps v.ps r.ls v.ls wc HV.o.rows (yH.mono zF.o.size) ⟨by have:=zI.bk.len;omega,by have:=zI.np;omega,by have:=zI.nl;omega⟩ ⟨B.st.k,B.st.p,B.st.l⟩ (fun k hk=>by have:=zI.dq k hk;omega) B.st.r);have zX:=Yx HV.o.gx;have zP:=Yx zH;have yJ:=Yx zI.ah;clear yH zI HV
      go_wp2_with fail;refine Calls.mono yF.o ?_;rintro e w5 ⟨bb,rfl,A,zZ⟩;have zK:=Yx (zF.o.trans (zZ.mono zF.o.size));have x5:=Aa.below zX.o zZ;clear m0 m1 m2 m3 m4 m5 m6 m7 Q R S U y4 y5 y6 y7 y8 y9 G H I J K M N yF zZ zH;cases bb with
      |false=>
       have zV:Hid (¬Ei v):=fun⟨r',h⟩=>by obtain rfl:=zP.o.cz h.run;have:=A.2 h.same;cases this
       clear A x5 zX;go_wp2;go_ret;exact Ar.no zV.o zK.o
      |true=>
       have C:=Yx (A.1 rfl);obtain⟨Q,R,S,U,y4,y5,y6,y7,y8,y9,G,H,I,J,K,M,N⟩:=Fy x5;have yE:=Yx (Vy v.sw v.now v.given v.ae v.ph v.ag v.at_ v.ro (.slice a.ka v.ks.length a.kc) (.slice a.pa v.ps.length a.pc) (.slice a.la v.ls.length a.lc) a.qa a.ma a.qc a.mc v.qs v.ms w5 (HR.o.q.af zK.o) (HR.o.m.af zK.o) B.r HM.o (by have h1:=C.o.1.2.2.2;have h2:=yJ.o;omega));clear A x5 zX;go_wp2_with fail
       refine Calls.mono yE.o ?_;rintro e w6 ⟨bb,rfl,A,yG⟩;have yI:=Yx (zK.o.trans (yG.mono zK.o.size));have HN:Hid (bb=true↔Ei v):=by have h1:=C.o.1.1;rw[←h1]at A;refine⟨fun h=>⟨r,hwd,hlim,hlog,zP.o,C.o,A.1 h⟩,fun⟨r',h⟩=>A.2 h.round⟩
       clear Q R S U y4 y5 y6 y7 y8 y9 G H I J K M N yE A yG;go_wp2;go_ret;exact⟨bb,rfl,HN.o,yI.o⟩
   |false=>
    rw[hlog]at zM;go_enter func33,ntmps33;go_wp2_with fail;rw[←HW.o];refine Calls.mono Y.o ?_;rintro e w1 ⟨rfl,c⟩;replace c:=c.symm;subst c;go_wp2_with fail;refine Calls.mono zG.o ?_;rintro e w1 ⟨rfl,c⟩;replace c:=c.symm;subst c;go_wp2_with fail;refine Calls.mono zM.o ?_;rintro e d ⟨rfl,zB⟩;have V:=Yx (O.trans (zB.mono O.size));clear Q R S U y4 y5 y6 y7 y8 y9 G H I J K M N;go_wp2;go_ret
    exact Ar.no (fun⟨r,h⟩=>by have:=h.log;rw[hlog]at this;cases this) V.o
  ·rw[decide_eq_false hlim]at zG;go_enter func33,ntmps33;go_wp2_with fail;rw[←HW.o];refine Calls.mono Y.o ?_;rintro e w1 ⟨rfl,c⟩;replace c:=c.symm;subst c;go_wp2_with fail;refine Calls.mono zG.o ?_;rintro e w1 ⟨rfl,c⟩;replace c:=c.symm;subst c;clear Q R S U y4 y5 y6 y7 y8 y9 G H I J K M N;go_wp2;go_ret;exact Ar.no (fun⟨r,h⟩=>hlim h.ak) O
 ·rw[decide_eq_false hwd]at Y;go_enter func33,ntmps33;go_wp2_with fail;rw[←HW.o];refine Calls.mono Y.o ?_;rintro e w1 ⟨rfl,c⟩;replace c:=c.symm;subst c;clear Q R S U y4 y5 y6 y7 y8 y9 G H I J K M N;go_wp2;go_ret;exact Ar.no (fun⟨r,h⟩=>hwd h.wd) O
theorem Ad.cells{w:Zh}{B g:Nat}{c:Zl}(h:Ad w B (some ⟨g,0,none⟩) c):∀j s,c[j]?=some s->w.cell? ((⟨g,0,none⟩:Addr).add j)=some (.string s):=by
 intro j s a;rcases h with h|⟨b,f,d,_,e⟩
 ·subst h;simp at a
 ·cases d;have:=e j s a;rw[Go.WideShapes.add_plain];simpa using this
theorem Ad.take{w:Zh}{B:Nat}{a:Zk}{c:Zl}(h:Ad w B a c)(K:Nat):Ad w B a (c.take K):=by
 rcases h with h|⟨q,d,e,f,g⟩
 ·exact .inl (by simp[h])
 ·refine .inr ⟨q,d,e,f,fun i s b=>g i s ?_⟩;have j:=(Zw b).1;simp at j;rw[List.getElem?_take_of_lt (by omega)]at b;exact b
structure Kc (w V:Zh) (u v:Value):Prop where
 b0:V.cell? (Ze (w.heap.size) 0)=some u
 b1:V.cell? (Ze (w.heap.size) 1)=some v
 r0:V.cell? (Ze (w.heap.size+1) 0)=some Zc
 r1:V.cell? (Ze (w.heap.size+1) 1)=some Zc
 f:∀o,V.frozen? ⟨w.heap.size+1,o,none⟩=false
 cf:Below w.heap.size w V
 le:w.heap.size+2<=V.heap.size
theorem Kc.alloc{w V:Zh}{u v:Value}(h:Kc w V u v)(o:Obj):Kc w (V.alloc o) u v:=by
 have a:=(Below.refl V.heap.size V).alloc (Zx) o;have:=h.le;exact⟨(a.cell (p:=⟨w.heap.size,0,none⟩) (by simp;omega)).trans h.b0,(a.cell (p:=⟨w.heap.size,1,none⟩) (by simp;omega)).trans h.b1,(a.cell (p:=⟨w.heap.size+1,0,none⟩) (by simp;omega)).trans h.r0,(a.cell (p:=⟨w.heap.size+1,1,none⟩) (by simp;omega)).trans h.r1,
  fun o=>(a.frozen (p:=⟨w.heap.size+1,o,none⟩) (by simp;omega)).trans (h.f o),h.cf.alloc h.cf.size o,by simp;omega⟩
theorem Kc.drew{w V:Zh}{u v:Value}(h:Kc w V u v):Kc w V.drew u v:=⟨h.b0,h.b1,h.r0,h.r1,h.f,h.cf.drew,h.le⟩
theorem Kc.grown{w V b:Zh}{u v:Value}{q:Nat}(h:Kc w V u v)(a:V.grownBy b (some q))(d:w.heap.size+2<=q):Kc w b u v:=by
 have:=h.le;have:=a.size;exact⟨a.cell h.b0 (by simp;omega),a.cell h.b1 (by simp;omega),a.cell h.r0 (by simp;omega),a.cell h.r1 (by simp;omega),
  fun o=>(a.frozen_far ⟨w.heap.size+1,o,none⟩ (by simp;omega) (by simp;omega)).trans (h.f o),h.cf.grown a h.cf.size (fun k c=>by cases c;omega),by omega⟩
theorem TW(g h c d:Nat)(j k:Zl)(w:Zh)(hr:Ad w w.heap.size (some ⟨g,0,none⟩) j)(Q:Ad w w.heap.size (some ⟨h,0,none⟩) k)(hl:j.length<=1048576)(zH:k.length<=1048576):
 Calls prog 69 #[.agg #[Za g j.length c,Za h k.length d]] w fun e w'=>∃x cx y cy,e=.returned (.agg #[Za x j.length cx,Za y k.length cy])/\
  w'.ownsRow w.heap.size 9 1 (Za x j.length cx) j.length (j.map Value.string)/\w'.ownsRow w.heap.size 9 1 (Za y k.length cy) k.length (k.map Value.string)/\x≠y/\Zz w w':=by
 obtain⟨R,N,B,C,D⟩:=info_parts CK;have zB:Below w.heap.size w ((w.alloc (.cells #[Za g j.length c,Za h k.length d] 35)).alloc (.cells #[Zc,Zc] 35)):=(Zy).alloc (by simp) _;obtain⟨W,hW⟩:∃W,W=(w.alloc (.cells #[Za g j.length c,Za h k.length d] 35)).alloc (.cells #[Zc,Zc] 35):=⟨_,rfl⟩;have P:Kc w W (Za g j.length c) (Za h k.length d):=by rw[hW];exact⟨by simp[go_sem],by simp[go_sem],by simp[go_sem],by simp[go_sem],fun o=>by simp[go_sem],zB,by simp⟩
 have HW:=Yx hW;have z:=Yx P;go_enter func69,ntmps69;go_wp2_with fail;rw[←HW.o];obtain⟨b0,b1,r0,r1,f0,_,zI⟩:=P;obtain⟨a0,a1,_,_,_,_,_⟩:=z.o.alloc (.cells #[] 9);obtain⟨zF,zG,_,_,_,_,_⟩:=(z.o.alloc (.cells #[] 9)).alloc (.cells #[] 9);clear hW zB HW
 have oA:(W.alloc (.cells #[] 9)).drew.ownsRow (w.heap.size+2) 9 1 (Za W.heap.size 0 0) 0 (([]:Zl).map Value.string):=World.ownsRow_lit W #[] 0 (by omega) (by unfold maxLen;omega) rfl
 have H:((W.alloc (.cells #[] 9)).alloc (.cells #[] 9)).drew.ownsRow (w.heap.size+2) 9 1 (Za W.heap.size 0 0) 0 (([]:Zl).map Value.string):=World.ownsRow.alloc (World.ownsRow_lit W #[] 0 (by omega) (by unfold maxLen;omega) rfl) _;have I:((W.alloc (.cells #[] 9)).alloc (.cells #[] 9)).drew.ownsRow (w.heap.size+2) 9 1 (Za (W.heap.size+1) 0 0) 0 (([]:Zl).map Value.string):=by have h1:=World.ownsRow_lit (base:=w.heap.size+2) (e:=9) (size:=1) (W.alloc (.cells #[] 9)) #[] 0 (by simp;omega) (by unfold maxLen;omega) rfl;rw[World.size_alloc]at h1;exact h1
 have zC:=(hr.below (z.o.alloc (.cells #[] 9)).drew.cf).cells;have zE:=(Q.below (z.o.alloc (.cells #[] 9)).drew.cf).cells;have G:=(hr.below ((z.o.alloc (.cells #[] 9)).alloc (.cells #[] 9)).drew.cf).cells;have zA:=(Q.below ((z.o.alloc (.cells #[] 9)).alloc (.cells #[] 9)).drew.cf).cells
 go_region_law (first
  |(guard_target=if Region.wanted _ _=true then Oper.wp _ _ _ (W.alloc (.cells #[] 9)).drew _ _ else _;refine Cn (W.alloc (.cells #[] 9)).drew rfl (.tmp 3) (.tmp 5) 22 rfl (w.heap.size+2) 9 R Zd 16 underlying22 N B C D rfl (W.heap.size) 0 0 [] rfl oA ⟨g,0,none⟩ j.length c j rfl rfl zC (by unfold maxLen;omega) (by omega) (by first|omega|(simp;omega)) ?_;intro S F K u m n L;simp only[Nat.zero_add,List.nil_append]at u;have J:=m.size;simp at J n;have l:=(z.o.alloc _).drew.grown m (by omega);have c0:=l.b0;have c1:=l.b1;have d0:=(l.alloc (.cells #[] 9)).b0;have d1:=(l.alloc (.cells #[] 9)).b1;have T:=J)
  |(guard_target=if Region.wanted _ _=true then Oper.wp _ _ _ ((W.alloc (.cells #[] 9)).alloc (.cells #[] 9)).drew _ _ else _;refine Cn ((W.alloc (.cells #[] 9)).alloc (.cells #[] 9)).drew rfl (.tmp 3) (.tmp 5) 22 rfl (w.heap.size+2) 9 R Zd 16 underlying22 N B C D rfl (W.heap.size) 0 0 [] rfl H ⟨g,0,none⟩ j.length c j rfl rfl G (by unfold maxLen;omega) (by omega) (by first|omega|(simp;omega)) ?_;intro S F K u m n L;simp only[Nat.zero_add,List.nil_append]at u;have J:=m.size;simp at J n;have l:=((z.o.alloc _).alloc _).drew.grown m (by omega);have c0:=l.b0;have c1:=l.b1;have s:=I.kept m (.inr (by simp[Value.ownBlock]));have U:=J)
  |(guard_target=if Region.wanted _ _=true then Oper.wp _ _ _ ((W.alloc (.cells #[] 9)).alloc (.cells #[] 9)).drew _ _ else _;refine Cn ((W.alloc (.cells #[] 9)).alloc (.cells #[] 9)).drew rfl (.tmp 3) (.tmp 5) 22 rfl (w.heap.size+2) 9 R Zd 16 underlying22 N B C D rfl (W.heap.size+1) 0 0 [] rfl I ⟨g,0,none⟩ j.length c j rfl rfl G (by unfold maxLen;omega) (by omega) (by first|omega|(simp;omega)) ?_;intro S F K u m n L;simp only[Nat.zero_add,List.nil_append]at u;have J:=m.size;simp at J n;have l:=((z.o.alloc _).alloc _).drew.grown m (by omega);have c0:=l.b0;have c1:=l.b1;have s:=H.kept m (.inr (by simp[Value.ownBlock]));have V:=J)
  |(have t:=T;refine Cn (K.alloc (.cells #[] 9)) rfl (.tmp 7) (.tmp 9) 22 rfl (w.heap.size+2) 9 R Zd 16 underlying22 N B C D rfl (K.heap.size) 0 0 [] rfl (World.ownsRow_lit K #[] 0 (by omega) (by unfold maxLen;omega) rfl) ⟨h,0,none⟩ k.length d k rfl rfl (Q.below (l.alloc _).cf).cells (by unfold maxLen;omega) (by omega) (by first|omega|(simp;omega)) ?_;intro E r w9 f b i A;simp only[Nat.zero_add,List.nil_append]at f;have X:=b.size;(try simp at X i);have Y:=(u.alloc _).kept b (.inr (by simp[Value.ownBlock];omega));have M:=f;have O:S≠E:=(by omega);have q:=(l.alloc _).grown b (by omega);have y0:=q.r0;have y1:=q.r1;have yf:=q.f)
  |(have t:=U;refine Cn K rfl (.tmp 7) (.tmp 9) 22 rfl (w.heap.size+2) 9 R Zd 16 underlying22 N B C D rfl (W.heap.size+1) 0 0 [] rfl s ⟨h,0,none⟩ k.length d k rfl rfl (Q.below l.cf).cells (by unfold maxLen;omega) (by omega) (by first|omega|(simp;omega)) ?_;intro E r w9 f b i A;simp only[Nat.zero_add,List.nil_append]at f;have X:=b.size;(try simp at X i);have Y:=u.kept b (.inr (by simp[Value.ownBlock];omega));have M:=f;have O:S≠E:=(by omega);have q:=l.grown b (by omega);have y0:=q.r0;have y1:=q.r1;have yf:=q.f)
  |(have t:=V;refine Cn K rfl (.tmp 7) (.tmp 9) 22 rfl (w.heap.size+2) 9 R Zd 16 underlying22 N B C D rfl (W.heap.size) 0 0 [] rfl s ⟨h,0,none⟩ k.length d k rfl rfl (Q.below l.cf).cells (by unfold maxLen;omega) (by omega) (by first|omega|(simp;omega)) ?_;intro E r w9 f b i A;simp only[Nat.zero_add,List.nil_append]at f;have X:=b.size;(try simp at X i);have Y:=u.kept b (.inr (by simp[Value.ownBlock];omega));have M:=f;have O:S≠E:=(by omega);have q:=l.grown b (by omega);have y0:=q.r0;have y1:=q.r1;have yf:=q.f))
 all_goals
  have Z:=Yx (Zn Y (Zn M (Zn O q)));clear q;clear Y M O oA H I zC zE G zA hr Q z;go_wp2;refine bodyPost_ret (v:=.agg #[Za S j.length F,Za E k.length r]) (by simp[results,results69,go_sem,y0,y1]) rfl ⟨_,_,_,_,rfl,?_,?_,Z.o.2.2.1,?_⟩
  ·exact(ownsRow_setCell_below (ownsRow_setCell_below Z.o.1 (a:=⟨w.heap.size+1,0,none⟩) (by simp) _) (a:=⟨w.heap.size+1,1,none⟩) (by simp) _).mono (by omega)
  ·exact(ownsRow_setCell_below (ownsRow_setCell_below Z.o.2.1 (a:=⟨w.heap.size+1,0,none⟩) (by simp) _) (a:=⟨w.heap.size+1,1,none⟩) (by simp) _).mono (by omega)
  ·exact(Z.o.2.2.2.cf.setCell (p:=⟨w.heap.size+1,0,none⟩) (by simp) _).setCell (p:=⟨w.heap.size+1,1,none⟩) (by simp) _
theorem CM.gz{v:Vd}{r:Rs}(h:CM v r):FB v.sw v.now v.given v.ae v.ks v.ps v.ls:=by have a:=h.dw;rw[h.same.1.1]at a;exact a
theorem CT.srows{w:Zh}{base b:Nat}{f d a:Zk}{j i:Nat}{g:List (Kd×Value)}{e:List Pd}{c:List Ld}(h:CT w base b f d a j i g e c):Bv w w.heap.size f d a (g.map (·.1)) e c:=⟨h.dm,h.fm,h.fj⟩
def ZSp(r:Rs)(xa:Zk)(_:Nat)(pa:Zk)(pc:Nat)(la:Zk)(lc:Nat)(X:Zh):Prop:=
 ∃base b zs,zs.map (·.1)=r.ks/\CT X base b xa pa la pc lc zs r.ps r.ls
def KSp(v:Vd)(cs:Zj)(V:List Nat)(X:Zh):Prop:=
 ∃base b p l tc pc lc zs,cs=[Zg v.sw,Zg v.now,Zg v.given,Zg v.ae,.slice (some ⟨b,0,none⟩) zs.length tc,.slice (some ⟨p,0,none⟩) v.ps.length pc,.slice (some ⟨l,0,none⟩) v.ls.length lc]/\V=[l]/\zs.map (·.1)=v.ks/\CT X base b (some ⟨b,0,none⟩) (some ⟨p,0,none⟩) (some ⟨l,0,none⟩) pc lc zs v.ps v.ls
theorem DP.sz{b f given ae:Int}{e:List Kd}{p:List Pd}{n:List Ld}{m:Int}{s o:Zi}{g:Int}{text:Zi}{refs:Zl}{r:Rs}(i:1<=b)(h:∀k∈e,(k.sum.size:Int)=b)(c:DP b f given ae e p n m s o g text refs r):∀k∈r.ks,(k.sum.size:Int)=b:=by
 rcases c with⟨rfl,_,l,j,u,v,c,rfl⟩|⟨_,_,d,rfl⟩|⟨_,_,rfl⟩|⟨_,_,l,j,rfl⟩|⟨_,_,rfl⟩|⟨_,x,rfl⟩|⟨_,_,_,rfl⟩
 ·rcases c with⟨_,_,_,_,rfl,rfl⟩|⟨t,q,w,rfl,rfl⟩
  ·exact h
  ·intro k a;rcases List.mem_append.1 (GR.1 a)with a|a
   ·exact h k a
   ·rw[List.mem_singleton]at a;subst a;exact Hp _ _ _ i
 ·exact h
 ·exact h
 ·exact h
 ·exact h
 ·exact h
 ·exact fun k a=>h k (List.filter_sublist.subset a)
theorem YP{g:Int}{b:List Kd}(h:OE g b):∀k∈b,∀s∈k.refs,s≠⟨#[]⟩:=fun k d x f e=>by have a:=BA (h k d);obtain⟨i,c⟩:=List.getElem?_of_mem f;have:=a.size c;rw[e]at this;have j:=a.lo;have l:((⟨#[]⟩:Zi).size:Int)=0:=rfl;omega
theorem WW(v:Vd)(e:Ed)(C:Zk)(Y g k y G H J W:Nat)(w:Zh)(h1:BR w w.heap.size (Jw g k y G H J W v) v)(h2:Eg w ⟨y,0,none⟩ v.ks)(O:Cr v)(zA:Ad w w.heap.size C e.rf)(zM:C=none->e.rf.length=0/\Y=0)(hl:e.rf.length<=1048576)(ht:e.tx.size<=maxLen)(hn:e.nm.size<=maxLen)(zC:e.kd≠1)(zB:e.s=⟨#[]⟩):
 Calls prog 16 #[.agg (Ye v (some ⟨g,0,none⟩) v.ss.length (some ⟨k,0,none⟩) v.tt.length (some ⟨y,0,none⟩) v.ks.length (some ⟨G,0,none⟩) v.ps.length (some ⟨H,0,none⟩) v.ls.length (some ⟨J,0,none⟩) v.qs.length (some ⟨W,0,none⟩) v.ms.length),.agg (Yp e.kd e.s e.nm e.num e.tx C e.rf.length Y)] w (Ic v e w):=by
 have F:∀X,Zz w X->BR X X.heap.size (Jw g k y G H J W v) v:=fun X d=>h1.af d;have hS:∀X,Zz w X->Ad X X.heap.size C e.rf:=fun X d=>zA.af d
 refine ZQ v e _ _ _ _ _ _ _ _ _ _ _ _ _ _ _ _ _ C Y (KSp v) ZSp w ⟨O.s,O.t⟩ (fun X d=>Lr v (Jw g k y G H J W v) X (F X d) ⟨(fun e=>by cases e),(fun e=>by cases e),Zx⟩ O) ?_ (fun X d=>UJ e.kd e.s e.nm e.num e.tx C Y e.rf v.wd X (hS X d) hl ht hn) ?_ ?_ ?_ ?_ ?_ (fun a X d=>Tj e.kd e.s e.nm e.num e.tx C Y e.rf v.wd X (hS X d) hl ht hn) ?_ ?_ zC zB ?_
 ·rintro⟨r,a⟩ X d;have f:=a.gz;have N:∀Z,Zz X Z->Zz w Z:=fun Z q=>d.trans (q.mono d.size)
  refine(PF v (Jw g k y G H J W v) X (fun Z q=>TW g k _ _ v.ss v.tt Z (F Z (N Z q)).s (F Z (N Z q)).t O.s O.t) (fun Z q=>KW v.sw v.now v.given v.ae y 0 G 0 H 0 _ _ _ v.ks v.ps v.ls Z (F Z (N Z q)).st (h2.aj h1.st.k (N Z q)) f.bk.len f.np f.nl f.dq) (fun Z q=>PA v.ph v.ag v.at_ v.ro J W _ _ v.qs v.ms Z (F Z (N Z q)).q (F Z (N Z q)).m O.r)).mono ?_;rintro o I ⟨S,U,T,P,L,Q,M,rs,rfl,E,h5,h4⟩
  obtain⟨sb,n1,zY,rfl⟩:=h5 S (by simp);obtain⟨ub,n2,yB,rfl⟩:=h5 U (by simp);obtain⟨qb,n3,zX,rfl⟩:=h5 Q (by simp);obtain⟨mb,n4,zU,rfl⟩:=h5 M (by simp);obtain⟨_,_,e1,_⟩:=E.s.row;obtain⟨_,_,e2,_⟩:=E.u.row;obtain⟨_,_,e3,_⟩:=E.q.row;obtain⟨_,_,e4,_⟩:=E.m.row;cases e1;cases e2;cases e3;cases e4;exact⟨sb,zY,ub,yB,T,P,L,qb,zX,mb,zU,rs,rfl,E,h4⟩
 ·rintro⟨r,a⟩ X d;have f:=a.gz;refine(KW v.sw v.now v.given v.ae y 0 G 0 H 0 _ _ _ v.ks v.ps v.ls X (F X d).st (h2.aj h1.st.k d) f.bk.len f.np f.nl f.dq).mono ?_;rintro o I ⟨T,P,L,rs,rfl,K,hv,s⟩;obtain⟨b,p,l,tc,x,u,t,rfl,rfl,rfl,j,m,zJ,zK⟩:=CT.of K hv s.size;exact⟨_,[l],rfl,s,by simp;exact⟨zJ,zK⟩,_,b,p,l,tc,x,u,t,rfl,rfl,j,m⟩
 ·rintro cs V X I ⟨base,b,p,l,tc,x,u,t,rfl,rfl,j,m⟩ s;exact⟨base,b,p,l,tc,x,u,t,rfl,rfl,j,m.below s⟩
 ·rintro⟨r,a⟩ D cs V X d ⟨base,b,p,l,tc,x,u,t,rfl,rfl,j,m⟩;have f:=a.dw;have zN:=a.same.1.1;have ha:=f.ia D ht;rw[←j]at ha;rw[←zN];refine(Ka base v.wd v.now v.given v.ae b _ _ _ tc x u t v.ps v.ls e.s e.nm e.tx e.num e.rf C Y X e.kd m ha (fun k hk=>f.dq k (by rw[←j];exact hk)) (hS X d) zM).mono ?_;rintro o I ⟨R,⟨c,p',q',zE,rfl⟩|⟨n,b1,zZ,yA,yC,zV,zW,zS,zT,B,rfl,zP,zH⟩⟩
  ·rw[j]at zE;exact⟨R,_,rfl,.inl ⟨c,p',q',zE,rfl⟩⟩
  ·rw[j]at B;exact⟨R,[_,_,_,_,_,_,_,_,_,_,_,_],rfl,.inr ⟨n,zZ,yA,zV,zW,zS,zT,B,rfl,base,b1,yC,zP,zH⟩⟩
 ·rintro n xa xc pa x la u X ⟨r,a⟩ D B ⟨base,b,t,j,m⟩ cb I s R;have zO:=YP (a.tok.step D B);exact⟨base,b,t,j,m.gl s (fun z zR=>zO z.1 (by rw[←j];exact List.mem_map.2 ⟨z,zR,rfl⟩)) R⟩
 ·rintro n xa xc pa x la u X ⟨base,b,t,j,m⟩ I s;exact⟨base,b,t,j,m.below s⟩
 ·rintro⟨r,a⟩ D n xa xc pa x la u X B ⟨base,b,t,j,m⟩;have f:=a.dw.step D B;have zF:=m.srows;rw[j]at zF;refine(Gt v.wd n.now n.given n.ae xa pa la xc x u n.ks n.ps n.ls X zF (fun A K=> ?_) (GB m.po) (GB m.lo) f.bk.len f.np f.nl f.dq).mono ?_
  ·rcases m.tb with h|h
   ·rw[h]at K;cases K;rw[←j];exact m.z.some
   ·rw[←j,h];intro i k hi;simp at hi
  ·rintro o I ⟨T,P,L,rs,rfl,K,_,s⟩;exact⟨T,P,L,rs,rfl,K,s⟩
 ·rintro⟨r,a⟩ n B;have he:e.held n=⟨#[]⟩:=by simp[Ed.held,zC,zB]
  refine Jr (.inr (.inl fun zG=> ?_));rw[he]at zG;obtain⟨k,hk,zI⟩:=zG;have yD:=a.wd.1;have E:=B.sz a.wd.1 a.dw.bk.sz k hk;rw[zI]at E;have h4:((⟨#[]⟩:Zi).size:Int)=0:=rfl;omega
 ·rintro⟨r,a⟩;refine⟨a.same.1.1,?_⟩;have:=IG a.log;rw[List.length_append]at this;exact this
end Go.Proofs.YtdgblkklkaklhaaGreatDoor
