import Derived.Test.YtlhhpofjkgmbeaaGreatDoorX24
import Derived.Conc.RwLib
import Derived.Conc.MuLone
import Derived.KernelRfl
set_option maxRecDepth 100000
set_option maxHeartbeats 16000000
namespace Go.Proofs.YtlhhpofjkgmbeaaGreatDoor
open Go.ChangeShapes Go.WideShapes Go.ChangeAt Go.RowKit _root_.Go.Proofs.Tryz
def vN:Vd:=⟨0,0,[],[],0,0,0,0,[],[],[],0,[],[],0,0,0⟩
def vZ(v:Vd):Vd:={vN with wd:=v.wd,ak:=v.ak}
def vY(v:Vd):Vd:={v with ph:=0,ag:=0,at_:=0,ro:=0}
theorem PC(v:Vd)(a:Va)(w:Zh)(hr:BR w w.heap.size a v)(hf:Cr v):
 Calls prog 6 #[.agg (Yi v a)] w fun e w'=>∃g k h i j o p H,e=.returned (.agg (BS v (Za g v.ss.length v.ss.length) (Za k v.tt.length v.tt.length) (Za h v.ks.length v.ks.length) (Za i v.ps.length v.ps.length) (Za j v.ls.length v.ls.length) (Za o v.qs.length v.qs.length) (Za p v.ms.length v.ms.length)).toArray)/\AL w' w.heap.size (Za g v.ss.length v.ss.length) (Za k v.tt.length v.tt.length) (Za h v.ks.length v.ks.length) (Za i v.ps.length v.ps.length) (Za j v.ls.length v.ls.length) (Za o v.qs.length v.qs.length) (Za p v.ms.length v.ms.length) H v/\(∀x∈H,∃q n c,x=Za q n c)/\Zz w w':=by
 obtain⟨z,I⟩:∃W,W=((w.alloc (.cells (Yi v a) 33)).alloc (.cells Ya 43)).alloc (.cells #[Zg v.wd,Zg v.ak,Zc,Zc,Zf,Zf,Zf,Zf,Zc,Zc,Zc,Zf,Zc,Zc,Zf,Zf,Zf] 43):=⟨_,rfl⟩;have E:Hid (Zz w z):=(Bm I).1;have xE:=(Bm I).2.1
 have zE:Hid (Aa z w.heap.size (BS v (.slice a.sa v.ss.length a.sc) (.slice a.ta v.tt.length a.tc) (.slice a.ka v.ks.length a.kc) (.slice a.pa v.ps.length a.pc) (.slice a.la v.ls.length a.lc) (.slice a.qa v.qs.length a.qc) (.slice a.ma v.ms.length a.mc))):=(Bm (l:=(BS v (.slice a.sa v.ss.length a.sc) (.slice a.ta v.tt.length a.tc) (.slice a.ka v.ks.length a.kc) (.slice a.pa v.ps.length a.pc) (.slice a.la v.ls.length a.lc) (.slice a.qa v.qs.length a.qc) (.slice a.ma v.ms.length a.mc))) I).2.2.1
 have zF:Hid (Aa z (w.heap.size+1) (BS vN Zc Zc Zc Zc Zc Zc Zc)):=(Bm (l:=(BS v (.slice a.sa v.ss.length a.sc) (.slice a.ta v.tt.length a.tc) (.slice a.ka v.ks.length a.kc) (.slice a.pa v.ps.length a.pc) (.slice a.la v.ls.length a.lc) (.slice a.qa v.qs.length a.qc) (.slice a.ma v.ms.length a.mc))) (k:=(BS vN Zc Zc Zc Zc Zc Zc Zc)) I).2.2.2.1
 have Z:Hid (Aa z (w.heap.size+1+1) (BS (vZ v) Zc Zc Zc Zc Zc Zc Zc)):=(Bm (l:=(BS v (.slice a.sa v.ss.length a.sc) (.slice a.ta v.tt.length a.tc) (.slice a.ka v.ks.length a.kc) (.slice a.pa v.ps.length a.pc) (.slice a.la v.ls.length a.lc) (.slice a.qa v.qs.length a.qc) (.slice a.ma v.ms.length a.mc))) (k:=(BS vN Zc Zc Zc Zc Zc Zc Zc)) (m:=(BS (vZ v) Zc Zc Zc Zc Zc Zc Zc)) I).2.2.2.2
 have HR:Hid (∀X,Zz w X->BR X X.heap.size a v):=fun X hX=>hr.af hX;have zR:=Yx I;clear I hr;go_enter func6,ntmps6;go_wp2_with fail;rw[←zR.o];clear zR;refine(TC a.sa a.ta a.sc a.tc v.ss v.tt z (HR.o z E.o).s (HR.o z E.o).t hf.s hf.t).mono ?_;rintro e w1 ⟨g,k,rfl,_,zV,zY,O,D⟩;have z1:=D.size
 obtain⟨A,Q⟩:∃X,X=((w1.setCell (Ze (w.heap.size+1+1) 2) (Za g v.ss.length v.ss.length)).setCell (Ze (w.heap.size+1+1) 3) (Za k v.tt.length v.tt.length)):=⟨_,rfl⟩;have t1:Tn [w.heap.size+1+1] w1 A:=by rw[Q];exact(Tn.set _ _ _ _ (by simp)).trans (Tn.set _ _ _ _ (by simp))
 have xD:A.heap.size=w1.heap.size:=by rw[Q];simp
 have r:=Yx (Aa.same (Aa.below zE.o D) (t1.block _ (by omega) (by simp<;>omega)));have zG:=Yx (Aa.same (Aa.below zF.o D) (t1.block _ (by omega) (by simp<;>omega)));have s:Hid (Aa A (w.heap.size+1+1) (BS (vZ v) (Za g v.ss.length v.ss.length) (Za k v.tt.length v.tt.length) Zc Zc Zc Zc Zc)):=by have K:=Aa.below Z.o D;show Aa A (w.heap.size+1+1) (BS (vZ v) (Za g v.ss.length v.ss.length) (Za k v.tt.length v.tt.length) Zc Zc Zc Zc Zc);rw[Q];exact((K.set 2 _).set 3 _)
 have N:Hid (Zz w A):=(E.o.trans (D.mono E.o.size)).trans (t1.below (by omega) (by simp<;>omega));have zJ:Hid (A.ownsRow z.heap.size 9 1 (Za g v.ss.length v.ss.length) v.ss.length (v.ss.map Value.string)):=Bn zY t1 (by simp;omega);have zN:Hid (A.ownsRow z.heap.size 9 1 (Za k v.tt.length v.tt.length) v.tt.length (v.tt.map Value.string)):=Bn O t1 (by simp;omega)
 have HN:Hid (g<k/\k<w1.heap.size):=⟨zV,(Ac O (g:=k) rfl).2⟩;clear zY O zV;obtain⟨e2,f2⟩:=Aa.below Z.o D 2 _ rfl;obtain⟨e3,f3⟩:=Aa.below Z.o D 3 _ rfl;have zS:=Yx Q;clear Q;go_upto_region 5 with fail;rw[←zS.o];clear zS e2 f2 e3 f3 D t1 zE zF Z;obtain⟨y4,_⟩:=r.o 4 _ rfl;obtain⟨y5,_⟩:=r.o 5 _ rfl;obtain⟨y6,_⟩:=r.o 6 _ rfl;obtain⟨y7,_⟩:=r.o 7 _ rfl;obtain⟨y8,_⟩:=r.o 8 _ rfl;obtain⟨y9,_⟩:=r.o 9 _ rfl
 obtain⟨yW,_⟩:=r.o 10 _ rfl;go_wp2_with fail;refine(PB v.sw v.now v.given v.ae a.ka a.pa a.la a.kc a.pc a.lc v.ks v.ps v.ls A (HR.o A N.o).st hf.st).mono ?_;rintro e V ⟨h,i,j,H,rfl,zB,zZ,d⟩;have z2:=d.size
 obtain⟨t,R⟩:∃X,X=(((((((V.setCell (Ze (w.heap.size+1+1) 4) (Zg v.sw)).setCell (Ze (w.heap.size+1+1) 5) (Zg v.now)).setCell (Ze (w.heap.size+1+1) 6) (Zg v.given)).setCell (Ze (w.heap.size+1+1) 7) (Zg v.ae)).setCell (Ze (w.heap.size+1+1) 8) (Za h v.ks.length v.ks.length)).setCell (Ze (w.heap.size+1+1) 9) (Za i v.ps.length v.ps.length)).setCell (Ze (w.heap.size+1+1) 10) (Za j v.ls.length v.ls.length)):=⟨_,rfl⟩
 have U:Tn [w.heap.size+1+1] V t:=by rw[R];exact((((((Tn.set _ _ _ _ (by simp)).trans (Tn.set _ _ _ _ (by simp))).trans (Tn.set _ _ _ _ (by simp))).trans (Tn.set _ _ _ _ (by simp))).trans (Tn.set _ _ _ _ (by simp))).trans (Tn.set _ _ _ _ (by simp))).trans (Tn.set _ _ _ _ (by simp))
 have xF:t.heap.size=V.heap.size:=by rw[R];simp
 have B:=Yx (Aa.same (Aa.below r.o d) (U.block _ (by omega) (by simp<;>omega)));have zH:=Yx (Aa.same (Aa.below zG.o d) (U.block _ (by omega) (by simp<;>omega)));have C:Hid (Aa t (w.heap.size+1+1) (BS (vY v) (Za g v.ss.length v.ss.length) (Za k v.tt.length v.tt.length) (Za h v.ks.length v.ks.length) (Za i v.ps.length v.ps.length) (Za j v.ls.length v.ls.length) Zc Zc)):=by
  have K:=Aa.below s.o d;show Aa t (w.heap.size+1+1) (BS (vY v) (Za g v.ss.length v.ss.length) (Za k v.tt.length v.tt.length) (Za h v.ks.length v.ks.length) (Za i v.ps.length v.ps.length) (Za j v.ls.length v.ls.length) Zc Zc);rw[R];exact(((((((K.set 4 _).set 5 _).set 6 _).set 7 _).set 8 _).set 9 _).set 10 _)
 have F:Hid (Zz w t):=(N.o.trans (d.mono N.o.size)).trans (U.below (by omega) (by simp<;>omega));have zK:Hid (t.ownsRow z.heap.size 9 1 (Za g v.ss.length v.ss.length) v.ss.length (v.ss.map Value.string)):=Bn (Ae zJ.o d) U (by simp;omega);have zO:Hid (t.ownsRow z.heap.size 9 1 (Za k v.tt.length v.tt.length) v.tt.length (v.tt.map Value.string)):=Bn (Ae zN.o d) U (by simp;omega)
 have zM:Hid (AO t A.heap.size (Za h v.ks.length v.ks.length) (Za i v.ps.length v.ps.length) (Za j v.ls.length v.ls.length) H v.ks v.ps v.ls):=zB.an U (by simp;omega);have yC:Hid (∀b∈Bb (Za h v.ks.length v.ks.length) (Za i v.ps.length v.ps.length) (Za j v.ls.length v.ls.length) H,b<V.heap.size):=zB.cg;have yE:=Yx zZ;clear zB zZ zJ zN y4 y5 y6 y7 y8 y9 yW;obtain⟨e4,f4⟩:=Aa.below s.o d 4 _ rfl
 obtain⟨e5,f5⟩:=Aa.below s.o d 5 _ rfl;obtain⟨e6,f6⟩:=Aa.below s.o d 6 _ rfl;obtain⟨e7,f7⟩:=Aa.below s.o d 7 _ rfl;obtain⟨e8,f8⟩:=Aa.below s.o d 8 _ rfl;obtain⟨e9,f9⟩:=Aa.below s.o d 9 _ rfl;obtain⟨yH,yO⟩:=Aa.below s.o d 10 _ rfl;have zT:=Yx R;clear R;go_upto_region 6 with fail;rw[←zT.o];clear zT e4 f4 e5 f5 e6 f6 e7 f7 e8 f8 e9 f9 yH yO d U r zG s;obtain⟨yX,_⟩:=B.o 11 _ rfl
 obtain⟨yY,_⟩:=B.o 12 _ rfl;obtain⟨yZ,_⟩:=B.o 13 _ rfl;obtain⟨xA,_⟩:=B.o 14 _ rfl;obtain⟨xB,_⟩:=B.o 15 _ rfl;obtain⟨xC,_⟩:=B.o 16 _ rfl;go_wp2_with fail;refine(Pw v.ph v.ag v.at_ v.ro a.qa a.ma a.qc a.mc v.qs v.ms t (HR.o t F.o).q (HR.o t F.o).m hf.r).mono ?_;rintro e w3 ⟨o,p,rfl,_,zW,zC,P,f⟩;have z3:=f.size
 obtain⟨u,S⟩:∃X,X=((((((w3.setCell (Ze (w.heap.size+1+1) 11) (Zg v.ph)).setCell (Ze (w.heap.size+1+1) 12) (Za o v.qs.length v.qs.length)).setCell (Ze (w.heap.size+1+1) 13) (Za p v.ms.length v.ms.length)).setCell (Ze (w.heap.size+1+1) 14) (Zg v.ag)).setCell (Ze (w.heap.size+1+1) 15) (Zg v.at_)).setCell (Ze (w.heap.size+1+1) 16) (Zg v.ro)):=⟨_,rfl⟩
 have L:Tn [w.heap.size+1+1] w3 u:=by rw[S];exact(((((Tn.set _ _ _ _ (by simp)).trans (Tn.set _ _ _ _ (by simp))).trans (Tn.set _ _ _ _ (by simp))).trans (Tn.set _ _ _ _ (by simp))).trans (Tn.set _ _ _ _ (by simp))).trans (Tn.set _ _ _ _ (by simp))
 have xG:u.heap.size=w3.heap.size:=by rw[S];simp
 have yA:=Yx (Aa.same (Aa.below B.o f) (L.block _ (by omega) (by simp<;>omega)));have zA:=Yx (Aa.same (Aa.below zH.o f) (L.block _ (by omega) (by simp<;>omega)))
 have zI:Hid (Aa u (w.heap.size+1+1) (BS v (Za g v.ss.length v.ss.length) (Za k v.tt.length v.tt.length) (Za h v.ks.length v.ks.length) (Za i v.ps.length v.ps.length) (Za j v.ls.length v.ls.length) (Za o v.qs.length v.qs.length) (Za p v.ms.length v.ms.length))):=by
  have K:=Aa.below C.o f;show Aa u (w.heap.size+1+1) (BS v (Za g v.ss.length v.ss.length) (Za k v.tt.length v.tt.length) (Za h v.ks.length v.ks.length) (Za i v.ps.length v.ps.length) (Za j v.ls.length v.ls.length) (Za o v.qs.length v.qs.length) (Za p v.ms.length v.ms.length));rw[S];exact((((((K.set 11 _).set 12 _).set 13 _).set 14 _).set 15 _).set 16 _)
 have Y:Hid (Zz w u):=(F.o.trans (f.mono F.o.size)).trans (L.below (by omega) (by simp<;>omega));have M:AL u z.heap.size (Za g v.ss.length v.ss.length) (Za k v.tt.length v.tt.length) (Za h v.ks.length v.ks.length) (Za i v.ps.length v.ps.length) (Za j v.ls.length v.ls.length) (Za o v.qs.length v.qs.length) (Za p v.ms.length v.ms.length) H v:=
  (AL.of (n1:=w1.heap.size) (n2:=V.heap.size) (Ao.own (Bn (Ae zK.o f) L (by simp;omega))) (Ao.own (Bn (Ae zO.o f) L (by simp;omega))) (fun b K h2=>by cases K;cases h2;exact absurd HN.o.1 (Nat.lt_irrefl _)) (fun b y=>by have hN:=HN.o;rcases y with y|y<;>cases y;exact Nat.lt_trans hN.1 hN.2;exact hN.2) (xD▸(zM.o.below f).an L (by simp;omega)) (by omega) yC.o (Ao.own ((Bn zC L (by simp;omega)).mono (by omega))) (Ao.own ((Bn P L (by simp;omega)).mono (by omega))) (fun b y=>by have q1:=(Ac zC (g:=o) rfl).1;have q2:=(Ac P (g:=p) rfl).1;rcases y with y|y<;>cases y;(show V.heap.size<=o;omega);(show V.heap.size<=p;omega)) (by omega) (fun b K h2=>by cases K;cases h2;exact absurd zW (Nat.lt_irrefl _)))
 have zP:Hid (AL u w.heap.size (Za g v.ss.length v.ss.length) (Za k v.tt.length v.tt.length) (Za h v.ks.length v.ks.length) (Za i v.ps.length v.ps.length) (Za j v.ls.length v.ls.length) (Za o v.qs.length v.qs.length) (Za p v.ms.length v.ms.length) H v):=M.mono (by omega)
 have yD:Hid (∀b∈Cx (Za g v.ss.length v.ss.length) (Za k v.tt.length v.tt.length) (Za h v.ks.length v.ks.length) (Za i v.ps.length v.ps.length) (Za j v.ls.length v.ls.length) (Za o v.qs.length v.qs.length) (Za p v.ms.length v.ms.length) H,w.heap.size+1<b):=fun b y=>by have:=M.lo b y;omega
 clear M zC P zW zK zO zM yX yY yZ xA xB xC;obtain⟨yI,yP⟩:=Aa.below C.o f 11 _ rfl;obtain⟨yJ,yQ⟩:=Aa.below C.o f 12 _ rfl;obtain⟨yK,yR⟩:=Aa.below C.o f 13 _ rfl;obtain⟨yL,yS⟩:=Aa.below C.o f 14 _ rfl;obtain⟨yM,yT⟩:=Aa.below C.o f 15 _ rfl;obtain⟨yN,yU⟩:=Aa.below C.o f 16 _ rfl;have zU:=Yx S;clear S;go_upto_region 7 with fail;rw[←zU.o];clear zU yI yP yJ yQ yK yR yL yS yM yT yN yU f L B zH C
 obtain⟨W4,T⟩:∃X,X=u.setCells (w.heap.size+1) 0 (BS v (Za g v.ss.length v.ss.length) (Za k v.tt.length v.tt.length) (Za h v.ks.length v.ks.length) (Za i v.ps.length v.ps.length) (Za j v.ls.length v.ls.length) (Za o v.qs.length v.qs.length) (Za p v.ms.length v.ms.length)).toArray.toList:=⟨_,rfl⟩;have t4:Tn [w.heap.size+1] u W4:=by rw[T];exact AP _ _ _ _
 have x4:Aa W4 (w.heap.size+1) (BS v (Za g v.ss.length v.ss.length) (Za k v.tt.length v.tt.length) (Za h v.ks.length v.ks.length) (Za i v.ps.length v.ps.length) (Za j v.ls.length v.ls.length) (Za o v.qs.length v.qs.length) (Za p v.ms.length v.ms.length)):=by rw[T];exact zA.o.ba _ rfl
 have HV:Hid (AL W4 w.heap.size (Za g v.ss.length v.ss.length) (Za k v.tt.length v.tt.length) (Za h v.ks.length v.ks.length) (Za i v.ps.length v.ps.length) (Za j v.ls.length v.ls.length) (Za o v.qs.length v.qs.length) (Za p v.ms.length v.ms.length) H v):=zP.o.stays t4 (fun b y yV=>by have:=yD.o b yV;simp at y;omega);have yB:Hid (Zz w W4):=Y.o.trans (t4.below Y.o.size (by simp))
 obtain⟨G,J⟩:∃G,G=(BS v (Za g v.ss.length v.ss.length) (Za k v.tt.length v.tt.length) (Za h v.ks.length v.ks.length) (Za i v.ps.length v.ps.length) (Za j v.ls.length v.ls.length) (Za o v.qs.length v.qs.length) (Za p v.ms.length v.ms.length)):=⟨_,rfl⟩;have zX:G.toArray.size=17:=by rw[J];rfl
 have HI:Hid (u.there (w.heap.size+1) 0 G.toArray.size/\∀x∈G,x.oneCell'=true):=⟨by rw[zX];exact zA.o.there,by rw[J];simp[BS,Value.oneCell']⟩;have HL:Hid (G.length=17):=by show G.length=17;rw[J];rfl
 have HC:Hid (Aa u (w.heap.size+1+1) G):=J▸zI.o;rw[←J]at x4 T;have yG:=Yx x4;have yF:=Yx T;have HE:=Yx J;clear zX J x4 T t4 zI zA yA zP;go_wp2_with (first
  |refine wpList_load_mid rfl 43 _ rfl (w.heap.size+1+1) 0 rfl G _ HC.o.range underlying43 rfl (by rw[HL.o];kernel_rfl) ?_
  |refine wpList_store_mid rfl 43 _ _ rfl (w.heap.size+1) 0 G.toArray rfl rfl HI.o.1 (by rw[List.size_toArray,HL.o];kernel_rfl) (all_oneCell_toArray HI.o.2) ?_)
 rw[←yF.o];refine bodyPost_ret (BN results6 _ _ (w.heap.size+1) G _ rfl (Aa.range yG.o) underlying43 rfl (by rw[HL.o];kernel_rfl)) rfl ?_;exact⟨g,k,h,i,j,o,p,by rw[HE.o],H,HV.o,yE.o,yB.o⟩
def Fe(w:Zh)(base:Nat)(a:Zk)(ss:Zl):Prop:=
 ss=[]∨∃b off,a=some ⟨b,off,none⟩/\base<=b/\b<w.heap.size/\∀i s,ss[i]?=some s->w.cell? (Ze b (off+i))=some (.string s)/\w.frozen? ⟨b,off+i,none⟩=false
def YF(a:Zk):Option Nat:=a.map (·.block)
theorem Fe.row{w:Zh}{base:Nat}{a:Zk}{c:Zl}(h:Fe w base a c):Ad w w.heap.size a c:=by
 rcases h with h|⟨b,d,rfl,j,e,f⟩
 ·exact .inl h
 ·exact .inr ⟨b,d,rfl,e,fun i s g=>(f i s g).1⟩
theorem Fe.stays{w f:Zh}{base:Nat}{a:Zk}{k:Zl}(h:Fe w base a k)(m:w.heap.size<=f.heap.size)(d:∀b,YF a=some b->base<=b->b<w.heap.size->f.heap[b]?=w.heap[b]?):Fe f base a k:=by
 rcases h with h|⟨b,c,rfl,g,l,j⟩
 ·exact .inl h
 ·have e:=d b rfl g l;exact .inr ⟨b,c,rfl,g,by omega,fun i s d=>⟨(World.cell?_of_block (a:=⟨b,c+i,none⟩) e).trans (j i s d).1,(World.frozen?_of_block (a:=⟨b,c+i,none⟩) e).trans (j i s d).2⟩⟩
theorem Fe.below{w e:Zh}{base:Nat}{a:Zk}{d:Zl}(h:Fe w base a d)(c:Zz w e):Fe e base a d:=
 h.stays c.size (fun b _ _ f=>c.block b f)
theorem Fe.mono{w:Zh}{base base':Nat}{a:Zk}{c:Zl}(h:Fe w base a c)(i:base'<=base):Fe w base' a c:=by
 rcases h with h|⟨b,d,rfl,g,e,f⟩
 ·exact .inl h
 ·exact .inr ⟨b,d,rfl,by omega,e,f⟩
theorem Fe.set{w:Zh}{base g a:Nat}{d:Zl}(h:Fe w base (some ⟨g,a,none⟩) d){j:Nat}(f:j<d.length)(t:Zi):Fe (w.setCell (Ze g (a+j)) (.string t)) base (some ⟨g,a,none⟩) (d.set j t):=by
 rcases h with h|⟨b,m,e,n,o,k⟩
 ·rw[h]at f;simp at f
 ·cases e;refine .inr ⟨g,a,rfl,n,by simpa using o,fun i s c=> ?_⟩;have p:i<d.length:=by have:=(Zw c).1;rw[List.length_set]at this;exact this
  have l:=k i _ (Zv p);refine⟨?_,by simpa using l.2⟩;by_cases hij:i=j
  ·subst hij;rw[List.getElem?_set_self f]at c;cases c;exact World.cell?_setCell_same' _ _ _ (by rw[l.1];rfl)
  ·rw[List.getElem?_set_ne (fun e=>hij e.symm)]at c;exact(World.cell?_setCell_other w _ _ _ (by simp<;>omega)).trans (k i s c).1
def Jw(g k g3 q3 r3 g5 k5:Nat)(v:Vd):Va:=⟨some ⟨g,0,none⟩,v.ss.length,some ⟨k,0,none⟩,v.tt.length,some ⟨g3,0,none⟩,v.ks.length,some ⟨q3,0,none⟩,v.ps.length,some ⟨r3,0,none⟩,v.ls.length,some ⟨g5,0,none⟩,v.qs.length,some ⟨k5,0,none⟩,v.ms.length⟩
def VQ(v:Vd)(L:Nat)(X:Zh)(cs:Zj):Prop:=
 ∃g k g3 q3 r3 g5 k5,cs=[Zg v.wd,Zg v.ak,.slice (some ⟨g,0,none⟩) v.ss.length v.ss.length,.slice (some ⟨k,0,none⟩) v.tt.length v.tt.length,Zg v.sw,Zg v.now,Zg v.given,Zg v.ae,.slice (some ⟨g3,0,none⟩) v.ks.length v.ks.length,.slice (some ⟨q3,0,none⟩) v.ps.length v.ps.length,.slice (some ⟨r3,0,none⟩) v.ls.length v.ls.length,Zg v.ph,.slice (some ⟨g5,0,none⟩) v.qs.length v.qs.length,.slice (some ⟨k5,0,none⟩) v.ms.length v.ms.length,Zg v.ag,Zg v.at_,Zg v.ro]/\BR X L (Jw g k g3 q3 r3 g5 k5 v) v/\Eg X ⟨g3,0,none⟩ v.ks
def Ql(v:Vd)(lo N:Nat)(X:Zh)(cs:Zj):Prop:=
 (N<=X.heap.size/\lo<=X.heap.size)/\∃g k g3 q3 r3 g5 k5 rs,cs=BS v (.slice (some ⟨g,0,none⟩) v.ss.length v.ss.length) (.slice (some ⟨k,0,none⟩) v.tt.length v.tt.length) (.slice (some ⟨g3,0,none⟩) v.ks.length v.ks.length) (.slice (some ⟨q3,0,none⟩) v.ps.length v.ps.length) (.slice (some ⟨r3,0,none⟩) v.ls.length v.ls.length) (.slice (some ⟨g5,0,none⟩) v.qs.length v.qs.length) (.slice (some ⟨k5,0,none⟩) v.ms.length v.ms.length)/\AL X lo (.slice (some ⟨g,0,none⟩) v.ss.length v.ss.length) (.slice (some ⟨k,0,none⟩) v.tt.length v.tt.length) (.slice (some ⟨g3,0,none⟩) v.ks.length v.ks.length) (.slice (some ⟨q3,0,none⟩) v.ps.length v.ps.length) (.slice (some ⟨r3,0,none⟩) v.ls.length v.ls.length) (.slice (some ⟨g5,0,none⟩) v.qs.length v.qs.length) (.slice (some ⟨k5,0,none⟩) v.ms.length v.ms.length) rs v/\(∀b∈Cx (.slice (some ⟨g,0,none⟩) v.ss.length v.ss.length) (.slice (some ⟨k,0,none⟩) v.tt.length v.tt.length) (.slice (some ⟨g3,0,none⟩) v.ks.length v.ks.length) (.slice (some ⟨q3,0,none⟩) v.ps.length v.ps.length) (.slice (some ⟨r3,0,none⟩) v.ls.length v.ls.length) (.slice (some ⟨g5,0,none⟩) v.qs.length v.qs.length) (.slice (some ⟨k5,0,none⟩) v.ms.length v.ms.length) rs,b<N)/\∀x∈rs,∃q n c,x=.slice (some ⟨q,0,none⟩) n c
theorem Eg.aj{w d:Zh}{A:Addr}{a:List Kd}{B:Nat}(h:Eg w A a)(n:BH w B (some A) a)(l:Below B w d):Eg d A a:=fun i k c=>by obtain⟨g,o,m⟩:=h i k c;obtain⟨b,f,j,e,_⟩:=n.at (Zw c).1;cases j;exact⟨g,o,(l.cell (p:=⟨b,f+i *4+3,none⟩) e).trans m⟩
theorem AO.gb{X:Zh}{lo g c:Nat}{P L:Value}{b:Zj}{f:List Kd}{y:List Pd}{w:List Ld}(h:AO X lo (.slice (some ⟨g,0,none⟩) f.length c) P L b f y w)(u:∀x∈b,∃q n c,x=.slice (some ⟨q,0,none⟩) n c):Eg X ⟨g,0,none⟩ f:=fun i k j=>by
 have t:=(Zw j).1;have m:i<b.length:=by rw[h.len];exact t
 have o:=Zv m;obtain⟨q,n,d,e⟩:=u _ (List.getElem_mem m);have p:=(h.refs i k _ j o);obtain⟨a,z,l⟩:=As p;have v:(f.zip b)[i]?=some (k,b[i]):=List.getElem?_zip_eq_some.2 ⟨j,o⟩;have r:=Bp DX v (show 3<4 by decide);have s:=h.ai.cellAt (i *4+3) (by omega);rw[e]at l;injection l with e1 e2 e3;refine⟨⟨q,0,none⟩,d,?_⟩;rw[Nat.zero_add,s,r,←e2,←e];rfl
theorem Ql.ft{v:Vd}{lo N:Nat}{X:Zh}{e:Zj}(h:Ql v lo N X e):VQ v X.heap.size X e:=by obtain⟨_,g,k,f,n,o,i,m,t,rfl,a,_,j⟩:=h;obtain⟨u,w,r,s,p,q,b,c,d,l⟩:=a.st.rows;injection b with b;injection c with c;injection d with d;subst b c d;exact⟨g,k,f,n,o,i,m,rfl,⟨a.s.ft,a.u.ft,l,a.q.ft,a.m.ft⟩,a.st.gb j⟩
theorem ZO(v:Vd)(u:Cr v):Iq 17 1000 9 10 (VQ v) (Ql v) (fun _ _ _ _ _=>True):=by
 refine⟨?_,?_,?_,?_,?_,?_,?_,?_⟩
 ·rintro X l M ⟨g,k,c,i,j,d,f,rfl,a,_⟩ ⟨D,H,w,B,C,x,A,rfl,b,_⟩;have h:=JV v (Jw g k c i j d f v) (Jw D H w B C x A v) X a b u;simp only[Jw]at h;exact h
 ·rintro lo N X l n ⟨m,g,k,c,i,j,d,f,r,rfl,a,b,_⟩ y I;have O:=u.ib;refine(Lf v lo n _ _ _ _ _ _ _ r X a y (by omega)).mono ?_;rintro e o ⟨rfl,_,s⟩;exact⟨⟨n+CS v,rfl,by omega,by omega,trivial⟩,s.below m.2 a.lo,fun q P z=>s.block q z (fun e=>by have:=b q e;omega)⟩
 ·rintro L X o l ⟨g,k,c,i,j,d,f,rfl,a,b⟩ t;exact⟨g,k,c,i,j,d,f,rfl,a.aj t,b.aj a.st.k t⟩
 ·rintro L J X l ⟨g,k,c,i,j,d,f,rfl,a,b⟩ F;exact⟨g,k,c,i,j,d,f,rfl,a.mono F,b⟩
 ·rintro lo N X o l ⟨m,g,k,c,i,j,d,f,r,rfl,a,b,E⟩ p G;exact⟨⟨Zm m.1 p,Zm m.2 p⟩,g,k,c,i,j,d,f,r,rfl,a.aj b p G,b,E⟩
 ·rintro lo N X o l K _ _ _;trivial
 ·exact fun lo N X l h=>⟨h.1.1,h.ft⟩
 ·rintro L X l ⟨g,k,c,i,j,d,f,rfl,_,_⟩;exact⟨rfl,by simp[Value.oneCell']⟩
theorem TN(v:Vd)(a:Va)(w X:Zh)(o:BR w w.heap.size a v)(n:Cr v)(m:Zz w X):
 Calls prog 6 #[.agg (Yi v a)] X fun e b=>∃c:Zj,e=.returned (.agg c.toArray)/\VQ v b.heap.size b c/\Ql v X.heap.size b.heap.size b c/\Zz X b:=by
 refine(PC v a X (o.af m) n).mono ?_;rintro e b ⟨g,k,i,q,r,j,p,s,rfl,d,l,f⟩;have h:Ql v X.heap.size b.heap.size b _:=⟨⟨Zx,f.size⟩,g,k,i,q,r,j,p,s,rfl,d,d.cg,l⟩;exact⟨_,rfl,h.ft,h,f⟩
def YG(t:Zi)(refs ss:Zl)(lo N:Nat)(X:Zh)(cs:Zj):Prop:=
 (N<=X.heap.size/\lo<=X.heap.size)/\ss.length=refs.length/\∃ra rc,cs=[.string t,.slice ra refs.length rc]/\Fe X lo ra ss/\(refs≠[]->∀b,YF ra=some b->b<N)
theorem YG.aj{t:Zi}{refs i:Zl}{lo N:Nat}{X a:Zh}{d:Zj}(h:YG t refs i lo N X d)(c:X.heap.size<=a.heap.size)(l:∀q,lo<=q->q<N->a.heap[q]?=X.heap[q]?):YG t refs i lo N a d:=by
 obtain⟨f,g,n,o,rfl,j,e⟩:=h;refine⟨⟨Zm f.1 c,Zm f.2 c⟩,g,n,o,rfl,?_,e⟩;by_cases hne:refs=[]
 ·exact .inl (List.eq_nil_of_length_eq_zero (by rw[g,hne];rfl))
 ·exact j.stays c (fun b k m _=>l b m (e hne b k))
def YH(o:Dd)(L:Nat)(X:Zh)(cs:Zj):Prop:=∃vs,cs=dL o vs/\Lg o.v L X vs
def YI(o:Dd)(lo N:Nat)(X:Zh)(cs:Zj):Prop:=∃vs,cs=dL o vs/\JW o.v o.v lo N X vs
def YJ(o:Dd)(lo N:Nat)(X:Zh)(cs:Zj)(K:Nat):Prop:=∃vs,cs=dL o vs/\K=1+CS o.v/\JW o.v (EL 1 o.v) lo N X vs
theorem ZP(o:Dd)(a:Cr o.v):Iq 22 1 8 11 (YH o) (YI o) (YJ o):=
 Aah o (ZJ o.v a) (fun _ _ _ _ h=>h.1.2)
theorem YK(o:Dd)(f:Cr o.v)(lo N:Nat)(X:Zh)(a:Zj)(K:Nat)(h:YJ o lo N X a K):
 Calls prog 12 #[.agg a.toArray,Zg 1] X fun e b=>e=.returned (Zg K)/\Zz X b:=
 ZM (M:=fun lo N X d K=>K=1+CS o.v/\JW o.v (EL 1 o.v) lo N X d) o (fun _ _ _ _ _ h=>by obtain⟨_,_,S,U,T,P,L,Q,M,i,rfl,_⟩:=h;rfl) (YA o.v f) (fun lo N X b d K h c=>⟨h.1,h.2.aj c.size (fun q _ g=>c.block q (Zr g h.2.1.1))⟩) lo N X a K h
theorem Ic.law{v:Vd}{e:Ed}{w a:Zh}{o:Ending}(g:Cr v)(h:Ic v e w o a):∃(d:Dd) (ds:Zj),o=.returned (.agg ds.toArray)/\(Cr v/\Hu v e d)/\YH d a.heap.size a ds/\Zz w a:=by obtain⟨d,i,b,rfl,c,f⟩:=h;exact⟨d,_,rfl,⟨g,b⟩,⟨i,rfl,c [] a (by simp) (Tn.of (Below.refl _ _))⟩,f⟩
theorem Hc.law{v:Vd}{e:Ed}{w a:Zh}{o:Ending}(g:Cr v)(h:Hc v e w o a):∃(d:Dd) (ds:Zj),o=.returned (.agg ds.toArray)/\(Cr v/\Hu v e d)/\YI d w.heap.size a.heap.size a ds/\Zz w a:=by obtain⟨d,S,U,T,P,L,Q,M,i,c,rfl,f,b⟩:=h;exact⟨d,_,rfl,⟨g,c⟩,⟨_,rfl,f.voa b.size⟩,b⟩
abbrev YL:Go.Conc.Locks.MuLink:={lock:=98,unlock:=99,ilock:=137,iunlock:=138,lockSlow:=167,unlockSlow:=170,disable:=163,enable:=165,acquire:=166,relMerge:=168,cas32:=164,add32:=169,tMutex:=164,tIMutex:=162,tPMutex:=192,tPIMutex:=227,tPI32:=229,tUP:=231,tNoCopy:=159,tU32:=160}
theorem Lm:Go.Conc.Locks.MuLib prog YL:=
 ⟨func98,func99,func137,func138,func163,func165,func166,func168,func164,func169,underlying162,runUnderlying162,sizeOf162,isAgg162,zeroValue162,underlying164,runUnderlying164,sizeOf164,isAgg164,zeroValue164,underlying192,runUnderlying192,sizeOf192,isAgg192,zeroValue192,underlying227,runUnderlying227,sizeOf227,isAgg227,zeroValue227,underlying229,runUnderlying229,sizeOf229,isAgg229,zeroValue229,underlying231,runUnderlying231,sizeOf231,isAgg231,zeroValue231,underlying159,runUnderlying159,sizeOf159,isAgg159,zeroValue159,underlying21,runUnderlying21,sizeOf21,isAgg21,zeroValue21,(by kernel_rfl)⟩
theorem Az{α:Type}:(∀(l:List α) (i:Nat) (a:α),l.toArray.setIfInBounds i a=(l.set i a).toArray)/\(∀(a b:α) (l:List α),(b::l).set 0 a=a::l)/\∀(a b:α) (l:List α) (n:Nat),(b::l).set (n+1) a=b::l.set n a:=
 ⟨fun _ _ _=>Zq _ _ _,fun _ _ _=>rfl,fun _ _ _ _=>rfl⟩
end Go.Proofs.YtlhhpofjkgmbeaaGreatDoor
