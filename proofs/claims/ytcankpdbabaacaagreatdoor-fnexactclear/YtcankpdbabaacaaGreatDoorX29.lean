import Derived.Test.YtcankpdbabaacaaGreatDoorX28
set_option maxRecDepth 100000
set_option maxHeartbeats 16000000
namespace Go.Proofs.YtcankpdbabaacaaGreatDoor
open Go.ChangeShapes Go.WideShapes Go.ChangeAt Go.RowKit _root_.Go.Proofs.Tryz
variable{v:Vd}{lo d b n c:Nat}{a:Va}{D e P L i k j f g:Value}{u:UR}{w X:Zh}{s:Zi}
def oC(v:Vd)(a:Va)(D:Value)(n:Nat)(u:UR):Zj:=DL 0 (Bx (Bb v u) (.slice a.R v.ss.length a.Z) (.slice a.N (Bb v u).C.length a.O) (.slice a.x u.A.length a.kc) (.slice a.Q v.ps.length a.W) (.slice a.P v.ls.length a.X) (.slice a.i u.D.length a.qc) (.slice a.g u.ms.length a.y)) n D
structure Fi (v:Vd) (lo ob:Nat) (a:Va) (b:Nat) (zs:List (Kd×Value)) (D:Value) (n:Nat) (u:UR) (w:Zh):Prop where
 box:Aa w ob (oC v a D n u)
 rr:RR w (ob::((Af (.slice a.N (Bb v u).C.length a.O)).toList++(Af D).toList)) a b zs (Bb v u)
 uo:Aj w lo (.slice a.N (Bb v u).C.length a.O) (Bb v u).C
 I:Aj w lo D u.L
 ud:∀g,Af (.slice a.N (Bb v u).C.length a.O)=some g->g≠ob/\Af D≠some g
 dd:∀g,Af D=some g->g≠ob
 im:lo<=ob
theorem Fi.below{f:List (Kd×Value)}{e:Zh}(h:Fi v lo d a b f D n u w)(c:Zz w e):Fi v lo d a b f D n u e:=
 ⟨Aa.below (v:=Zf) h.box c,h.rr.Y (U:=[]) (Tn.of c) Yv,h.uo.below c,h.I.below c,h.ud,h.dd,h.im⟩
theorem Fi.next{l:Nat}{H:List (Kd×Value)}{r:UR}{E o:Zh}(h:Fi v lo l a b H D n u w){e:Ending}{qs ms:Zl}{ks:List Kd}{ps:List Pd}{ls:List Ld}{wd N m i ph O I ro:Int}{p tc C A R:Nat}{y:List (Kd×Value)}{B z Q:Zk}(hu:LV w E e wd N m i P L ks ps ls ph O I ro qs ms b a.i a.g H r p tc y B z Q C A R)(G:Zz E o){U':Value}{ta:Zk}{tn j:Nat}{V:List Nat}(Y:Tn V o X)(Z:∀g∈V,g=l\/Af (.slice a.N (Bb v u).C.length a.O)=some g\/Af D=some g)(K:U'=.slice ta tn j)(F:Aj X lo U' (Bb v (u.and r)).C)(W:Aj X lo k (u.L++r.L))(x:∀g,Af U'=some g->Af (.slice a.N (Bb v u).C.length a.O)=some g\/o.heap.size<=g)(t:∀g,Af k=some g->Af D=some g\/o.heap.size<=g)(J:∀g,Af U'=some g->Af k≠some g)(q:Aa X l (oC v {UT a p tc B z C A with N:=ta,O:=j} k (n+1) (u.and r))):Fi v lo l {UT a p tc B z C A with N:=ta,O:=j} p y k (n+1) (u.and r) X:=by
 subst K;obtain⟨_,_,S,_⟩:=F.row;cases S;have s:=hu.low;have M:∀g∈l::((Af (.slice a.N (Bb v u).C.length a.O)).toList++(Af D).toList),g<w.heap.size:=fun g c=>by
  simp only[List.mem_cons,List.mem_append,Option.mem_toList]at c;rcases c with rfl|c|c
  .exact h.box.lt
  .exact(h.uo.S c).2
  .exact(h.I.S c).2
 have hz:w.heap.size<=o.heap.size:=Zm s.size G.size;have zA:=h.box.lt;have T:=(((h.rr.unit M hu).Y (U:=[]) (Tn.of G) Yv).clear (V':=(l::((Af (.slice a.N (Bb v u).C.length a.O)).toList++(Af D).toList))++((Af (.slice ta (Bb v (u.and r)).C.length j)).toList++(Af k).toList)) (fun g c=>by
  simp only[List.mem_append,Option.mem_toList]at c;rcases c with c|c|c
  .exact .inl c
  .rcases x g c with d|d
   .exact .inl (by simp only[List.mem_cons,List.mem_append,Option.mem_toList];exact .inr (.inl d))
   .exact .inr d
  .rcases t g c with d|d
   .exact .inl (by simp only[List.mem_cons,List.mem_append,Option.mem_toList];exact .inr (.inr d))
   .exact .inr d)).Y Y (fun g c=> .inl (by
  have d:=Z g c;simp only[List.mem_cons,List.mem_append,Option.mem_toList];exact .inl d))
 have f:=T.clear (V':=l::((Af (.slice ta (Bb v (u.and r)).C.length j)).toList++(Af k).toList)) (fun g c=> .inl (by
  simp only[List.mem_cons,List.mem_append,Option.mem_toList]at c |-;rcases c with d|d
  .exact .inl (.inl d)
  .exact .inr d))
 refine⟨q,⟨f.x,f.zk,f.z,f.s,f.p,f.l,f.q,f.m,f.cs,f.cp,f.cl,f.cq,f.cm,f.lt,f.ap⟩,F,W,fun g c=>⟨?_,J g c⟩,fun g c=> ?_,h.im⟩
 .rcases x g c with d|d
  .exact(h.ud g d).1
  .omega
 .rcases t g c with d|d
  .exact h.dd g d
  .omega
theorem Fi.start{i:List (Kd×Value)}{m:Zj}(h:AU w d (.slice a.R v.ss.length a.Z) (.slice a.N v.C.length a.O) (.slice a.x v.A.length a.kc) (.slice a.Q v.ps.length a.W) (.slice a.P v.ls.length a.X) (.slice a.i v.D.length a.qc) (.slice a.g v.ms.length a.y) m v)(l:d<=w.heap.size)(k:RR w (Af (.slice a.N v.C.length a.O)).toList a b i v):
 Fi v d w.heap.size a b i Zc 0 (CR v) ((w.alloc (.cells (z20 0).toArray 45)).setCells w.heap.size 0 (oC v a Zc 0 (CR v)))/\Zz w ((w.alloc (.cells (z20 0).toArray 45)).setCells w.heap.size 0 (oC v a Zc 0 (CR v))):=by
 obtain⟨j,f,_⟩:=boxed (X:=w) (cs:=oC v a Zc 0 (CR v)) (z:=z20 0) (T:=45) rfl;refine⟨⟨j,?_,?_,Aj.nil _ _,fun g c=>⟨?_,fun e=>by cases e⟩,(fun g e=>by cases e),l⟩,f⟩
 .rw[SW];refine(k.clear (fun g c=> ?_)).Y (U:=[]) (Tn.of f) Yv;simp only[List.mem_cons,List.mem_append,Option.mem_toList]at c;rcases c with rfl|c|c
  .exact .inr (Zx)
  .exact .inl (by simpa using c)
  .cases c
 .rw[SW];exact h.u.below f
 .rw[SW]at c;have:=(h.u.S c).2;omega
def Lc(ob:Nat)(w:Zh):Nat:=match w.cell? (Ze ob 18)with
 |some v=>(intOf v).toNat
 |none=>0
theorem Fi.gq{d:List (Kd×Value)}(h:Fi v lo c a b d D n u w):Lc c w=n:=by unfold Lc;rw[(h.box 18 _ rfl).1];simp[intOf]
theorem UZ{d:Zh}{f:Nat}{R:List (Kd×Value)}(h:Fi v lo f a b R D n u X){S U T Q M:Value}{B:Zj}(o:AU d X.heap.size S U T P L Q M B (Bb v u))(z:Zz X d)(V:w.heap.size+1<lo)(p:Aa d (w.heap.size+1) (z20 0)/\Zz w d){c C:Zj}(l:c=Bx (Bb v u) S U T P L Q M)(y:C=DL 0 c n D):
 (c.length=17/\(∀x∈c,x.oneCell'=true)/\d.there f 1 c.toArray.size)/\Aa (d.setCells f 1 c.toArray.toList) f C/\(C.length=20/\(∀x∈C,x.oneCell'=true)/\(d.setCells f 1 c.toArray.toList).there (w.heap.size+1) 0 C.toArray.size)/\Aa ((d.setCells f 1 c.toArray.toList).setCells (w.heap.size+1) 0 C.toArray.toList) (w.heap.size+1) C/\
   IP v (some (u,n)) w.heap.size ((d.setCells f 1 c.toArray.toList).setCells (w.heap.size+1) 0 C.toArray.toList) C/\Zz w ((d.setCells f 1 c.toArray.toList).setCells (w.heap.size+1) 0 C.toArray.toList):=by
 have H:=h.im;have I:=h.box.lt;have Y:=z.size;have q:c.length=17:=by rw[l];rfl
 have A:∀x∈c,x.oneCell'=true:=by obtain⟨W,e,_⟩:=o.io;rw[l,e];simp[Bx,Value.oneCell']
 have F:D.oneCell'=true:=by obtain⟨_,_,e,_⟩:=h.I.row;rw[e];rfl
 have s:Aa d f (oC v a D n u):=Aa.below (v:=Zf) h.box z;have k:C.length=20/\∀x∈C,x.oneCell'=true:=by
  rw[y];refine⟨by simp[DL,q],fun x r=> ?_⟩;simp only[DL,List.mem_cons,List.mem_append,List.not_mem_nil,or_false]at r;rcases r with rfl|r|rfl|rfl
  .rfl
  .exact A x r
  .rfl
  .exact F
 have E:=Df f c 1 d;have G:Aa (d.setCells f 1 c) f C:=by rw[y];exact Aa.fp c [Zf] (Bx (Bb v u) (.slice a.R v.ss.length a.Z) (.slice a.N (Bb v u).C.length a.O) (.slice a.x u.A.length a.kc) (.slice a.Q v.ps.length a.W) (.slice a.P v.ls.length a.X) (.slice a.i u.D.length a.qc) (.slice a.g u.ms.length a.y)) [Zg n,D] d s (by rw[q];rfl)
 have t:Aa (d.setCells f 1 c) (w.heap.size+1) (z20 0):=Aa.same p.1 (E.block _ p.1.lt Yu);have O:=Df (w.heap.size+1) C 0 (d.setCells f 1 c);have m:Tn [f,w.heap.size+1] d ((d.setCells f 1 c).setCells (w.heap.size+1) 0 C):=(E.mono Yv).trans (O.mono Yv);have N:=p.2.size
 refine⟨⟨q,A,?_⟩,G,⟨k.1,k.2,?_⟩,t.ck C (by rw[k.1];rfl),⟨S,U,T,P,L,Q,M,B,D,by rw[y,l],(o.stays m (fun g i j=> ?_)).mono Yw,((h.I.below z).Y m (fun g i j=> ?_)).mono Yw,fun g i j=> ?_⟩,p.2.trans (m.below N (fun g i=> ?_))⟩
 .rw[show c.toArray.size=17 from by rw[List.size_toArray];exact q];exact Aa.fg [Zf] (Bx (Bb v u) (.slice a.R v.ss.length a.Z) (.slice a.N (Bb v u).C.length a.O) (.slice a.x u.A.length a.kc) (.slice a.Q v.ps.length a.W) (.slice a.P v.ls.length a.X) (.slice a.i u.D.length a.qc) (.slice a.g u.ms.length a.y)) [Zg n,D] s
 .rw[show C.toArray.size=20 from by rw[List.size_toArray];exact k.1];exact t.there
 .have:=o.lo g j;simp at i;omega
 .have J:=h.dd g i;have K:=(h.I.S i).1;simp at j;omega
 .have J:=o.lo g j;have K:=(h.I.S i).2;omega
 .simp at i;omega
theorem Abk{W:Zh}{a:Nat}{r s c2 c3 c4 A c6 c7 B c9 t u KF v x FE y Fh z b c d l m n o p q:Value}(h:Aa X a [r,s,c2,c3,c4,A,c6,c7,B,c9,t,u,KF,v,x,FE,y,Fh,z,b])(C:W=(((((((((((((X.setCell (Ze a 5) c).setCell (Ze a 6) d).setCell (Ze a 7) e).setCell (Ze a 8) f).setCell (Ze a 9) g).setCell (Ze a 10) i).setCell (Ze a 11) j).setCell (Ze a 12) k).setCell (Ze a 13) l).setCell (Ze a 14) m).setCell (Ze a 15) n).setCell (Ze a 16) o).setCell (Ze a 17) p).setCell (Ze a 18) q):
 Aa W a [r,s,c2,c3,c4,c,d,e,f,g,i,j,k,l,m,n,o,p,q,b]/\Tn [a] X W:=by
 subst C
 exact⟨(((((((((((((h.set 5 c).set 6 d).set 7 e).set 8 f).set 9 g).set 10 i).set 11 j).set 12 k).set 13 l).set 14 m).set 15 n).set 16 o).set 17 p).set 18 q,(((((((((((((AM _ _ _ _).trans (AM _ _ _ _)).trans (AM _ _ _ _)).trans (AM _ _ _ _)).trans (AM _ _ _ _)).trans (AM _ _ _ _)).trans (AM _ _ _ _)).trans (AM _ _ _ _)).trans (AM _ _ _ _)).trans (AM _ _ _ _)).trans (AM _ _ _ _)).trans (AM _ _ _ _)).trans (AM _ _ _ _)).trans (AM _ _ _ _)⟩
theorem SY(v:Vd)(a:Va)(z:Int)(w:Zh)(hr:Ca w w.heap.size a v)(tB:Aav a v)(hf:Dl v)(tC:FY v->KH w a v):
 Calls prog 5 #[.agg #[Zg v.wd,Zg v.U,.slice a.R v.ss.length a.Z,.slice a.N v.C.length a.O,Zg v.T,Zg v.F,Zg v.G,Zg v.E,.slice a.x v.A.length a.kc,.slice a.Q v.ps.length a.W,.slice a.P v.ls.length a.X,Zg v.H,.slice a.i v.D.length a.qc,.slice a.g v.ms.length a.y,Zg v.K,Zg v.J,Zg v.ro],Zg z] w (Ma v z w):=by
 obtain⟨W,hW⟩:∃W,W=(w.alloc (.cells #[Zg v.wd,Zg v.U,.slice a.R v.ss.length a.Z,.slice a.N v.C.length a.O,Zg v.T,Zg v.F,Zg v.G,Zg v.E,.slice a.x v.A.length a.kc,.slice a.Q v.ps.length a.W,.slice a.P v.ls.length a.X,Zg v.H,.slice a.i v.D.length a.qc,.slice a.g v.ms.length a.y,Zg v.K,Zg v.J,Zg v.ro] 43)).alloc (.cells #[Zf,Zf,Zf,Zc,Zc,Zf,Zf,Zf,Zf,Zc,Zc,Zc,Zf,Zc,Zc,Zf,Zf,Zf,Zf,Zc] 45):=⟨_,rfl⟩
 have bW:=(Bo hW).1;have zW:=(Bo hW).2.1;have xV:=(Bo hW).2.2.1;have xZ:Aa W (w.heap.size+1) (z20 0):=(Bo (k:=z20 0) hW).2.2.2
 have H:Hid (∀X,Zz W X->Aa X w.heap.size [Zg v.wd,Zg v.U,.slice a.R v.ss.length a.Z,.slice a.N v.C.length a.O,Zg v.T,Zg v.F,Zg v.G,Zg v.E,.slice a.x v.A.length a.kc,.slice a.Q v.ps.length a.W,.slice a.P v.ls.length a.X,Zg v.H,.slice a.i v.D.length a.qc,.slice a.g v.ms.length a.y,Zg v.K,Zg v.J,Zg v.ro]/\Aa X (w.heap.size+1) (z20 0)/\Zz w X):=fun X hX=>⟨Aa.below xV hX,Aa.below (v:=Zf) xZ hX,bW.trans (hX.mono bW.size)⟩
 have HV:=Yx (Me v a W (hr.j bW) tB hf);have yS:=Yx tC;have HW:=Yx hW;clear hW xV xZ hr tB tC;go_enter func5,ntmps5;go_upto_region 1 with fail;rw[<-HW.o];clear HW
 go_wp2_with (refine wpList_load_mid rfl 43 _ rfl w.heap.size 0 rfl [Zg v.wd,Zg v.U,.slice a.R v.ss.length a.Z,.slice a.N v.C.length a.O,Zg v.T,Zg v.F,Zg v.G,Zg v.E,.slice a.x v.A.length a.kc,.slice a.Q v.ps.length a.W,.slice a.P v.ls.length a.X,Zg v.H,.slice a.i v.D.length a.qc,.slice a.g v.ms.length a.y,Zg v.K,Zg v.J,Zg v.ro] _ (H.o W (Below.refl _ _)).1.range underlying43 rfl (by kernel_rfl) ?_)
 refine Calls.mono HV.o ?_;rintro e w1 ⟨o,rfl,ho,yE⟩;clear HV;cases o with
 |false=>
  have xE:Hid (¬(FY v/\0<=z/\z<=10000)):=fun h=>by have:=ho.2 h.1;cases this
  clear ho yS;have B:=Yx (Iq (X:=w1) (H.o w1 yE).2);clear H;go_wp2_with (refine wpList_store_mid rfl 45 _ _ rfl (w.heap.size+1) 0 #[Zg 1,Zf,Zf,Zc,Zc,Zf,Zf,Zf,Zf,Zc,Zc,Zc,Zf,Zc,Zc,Zf,Zf,Zf,Zf,Zc] rfl rfl B.o.1 (by kernel_rfl) B.o.2.1 ?_);change bodyPost _ _ _ _ _ (w1.setCells (w.heap.size+1) 0 (z20 1))
  refine bodyPost_ret (Ce results5 _ _ (w.heap.size+1) (z20 1) _ rfl B.o.2.2.1.range underlying45 rfl (by kernel_rfl)) rfl ?_;exact⟨none,z20 1,.inl ⟨xE.o,rfl⟩,rfl,rfl,B.o.2.2.2⟩
 |true=>
  have yF:Hid (FY v):=ho.1 rfl;clear ho;go_wp2_with fail;refine Calls.mono (Gz z 0 10000 w1) ?_;rintro e m ⟨rfl,sH⟩;subst sH;by_cases hun:0<=z/\z<=10000
  .rw[decide_eq_true hun];obtain⟨N,rfl⟩:∃N:Nat,z=N:=⟨z.toNat,by omega⟩;have hN:N<=10000:=by omega
   obtain⟨r,yM⟩:=yF.o;have vJ:Hid (KH m a v):=(yS.o yF.o).below (H.o m yE).2.2;have zN:Hid (∀o,ClTo v.E v.ps v.ls (4000 -(v.ss++v.C).length) N 0 (CR v) o->Ft v N o):=fun o h=> .inr ⟨r,yM,hun,by rw[Int.toNat_natCast];exact h⟩;have vO:Hid (GK v.wd v.E v.ps v.ls (4000 -(v.ss++v.C).length) (CR v)):=JY yM;have yC:Hid ((v.ss++v.C).length<=4000):=Hz yM.log;have tO:Hid (v.wd=v.T):=yM.same.1.1
   have tI:=yE.size
   replace H:Hid (∀X,Zz m X->Aa X w.heap.size [Zg v.wd,Zg v.U,.slice a.R v.ss.length a.Z,.slice a.N v.C.length a.O,Zg v.T,Zg v.F,Zg v.G,Zg v.E,.slice a.x v.A.length a.kc,.slice a.Q v.ps.length a.W,.slice a.P v.ls.length a.X,Zg v.H,.slice a.i v.D.length a.qc,.slice a.g v.ms.length a.y,Zg v.K,Zg v.J,Zg v.ro]/\Aa X (w.heap.size+1) (z20 0)/\Zz w X):=fun X hX=>H.o X (yE.trans (hX.mono tI))
   have vX:Hid (w.heap.size+2<=m.heap.size):=by show _<=_;omega
   clear yS yF hun yM yE tI bW zW
   go_wp2_with (refine wpList_load_mid rfl 43 _ rfl w.heap.size 0 rfl [Zg v.wd,Zg v.U,.slice a.R v.ss.length a.Z,.slice a.N v.C.length a.O,Zg v.T,Zg v.F,Zg v.G,Zg v.E,.slice a.x v.A.length a.kc,.slice a.Q v.ps.length a.W,.slice a.P v.ls.length a.X,Zg v.H,.slice a.i v.D.length a.qc,.slice a.g v.ms.length a.y,Zg v.K,Zg v.J,Zg v.ro] _ (H.o m (Below.refl _ _)).1.range underlying43 rfl (by kernel_rfl) ?_)
   refine Calls.mono (Jl v a m vJ.o) ?_;rintro e d ⟨S,U,T,P,L,Q,M,rs,rfl,hA,hv,yL⟩;obtain⟨c,b,zs,rfl,rfl,rfl,rfl,rfl,rfl,rfl,hR⟩:=RR.start hA hv;obtain⟨vs,zG⟩:∃vs,vs=Bx v (.slice c.R v.ss.length c.Z) (.slice c.N v.C.length c.O) (.slice c.x v.A.length c.kc) (.slice c.Q v.ps.length c.W) (.slice c.P v.ls.length c.X) (.slice c.i v.D.length c.qc) (.slice c.g v.ms.length c.y):=⟨_,rfl⟩
   have tH:vs.length=17:=by rw[zG];rfl
   obtain⟨D0,yX⟩:∃t,t=DL 0 vs 0 Zc:=⟨_,rfl⟩;have eD:oC v c Zc 0 (CR v)=D0:=by rw[yX,zG];unfold oC;rw[SW];rfl
   have xL:D0.length=20/\∀u∈D0,u.oneCell'=true:=by rw[yX,zG];exact⟨rfl,by simp[DL,Bx,Value.oneCell']⟩
   have vI:Hid (prog.built 45 [(1,.agg vs.toArray)]=some D0.toArray):=by show _=some D0.toArray;rw[yX];exact WE tH
   have yN:=Fi.start hA yL.size hR;rw[eD]at yN;obtain⟨W4,xM⟩:∃Y,Y=(d.alloc (.cells #[Zf,Zf,Zf,Zc,Zc,Zf,Zf,Zf,Zf,Zc,Zc,Zc,Zf,Zc,Zc,Zf,Zf,Zf,Zf,Zc] 45)).setCells d.heap.size 0 D0.toArray.toList:=⟨_,rfl⟩;have e4:W4=(d.alloc (.cells (z20 0).toArray 45)).setCells d.heap.size 0 D0:=xM;rw[<-e4]at yN
   have yU:Hid ((d.alloc (.cells #[Zf,Zf,Zf,Zc,Zc,Zf,Zf,Zf,Zf,Zc,Zc,Zc,Zf,Zc,Zc,Zf,Zf,Zf,Zf,Zc] 45)).there d.heap.size 0 D0.toArray.size/\D0.length=20/\∀u∈D0,u.oneCell'=true):=⟨by rw[show D0.toArray.size=20 from by rw[List.size_toArray];exact xL.1];exact(Aa.new d (z20 0) 45).there,xL⟩;have xF:Hid (Fi v m.heap.size d.heap.size c b zs Zc 0 (CR v) W4/\Zz m W4):=⟨yN.1,yL.trans (yN.2.mono yL.size)⟩
   have tP:Hid (m.heap.size<=d.heap.size):=yL.size;have vU:=Yx xM;rw[show(Bx v (.slice c.R v.ss.length c.Z) (.slice c.N v.C.length c.O) (.slice c.x v.A.length c.kc) (.slice c.Q v.ps.length c.W) (.slice c.P v.ls.length c.X) (.slice c.i v.D.length c.qc) (.slice c.g v.ms.length c.y))=vs from zG.symm];clear yN xM e4 eD yX xL zG tH hA hv hR yL vJ;go_wp2_with (first
    |refine NX rfl 45 _ rfl [(1,.agg vs.toArray)] (by kernel_rfl) D0.toArray vI.o ?_
    |refine wpList_store_mid rfl 45 _ _ rfl d.heap.size 0 D0.toArray rfl rfl yU.o.1 (by rw[List.size_toArray,yU.o.2.1];kernel_rfl) (all_oneCell_toArray yU.o.2.2) ?_)
   rw[<-vU.o];clear vU vI yU;simp only[Act.put]
   go_loopw [] (fun wr=>∃c b zs D n u,Hid (Fi v m.heap.size d.heap.size c b zs D n u wr/\GK v.wd v.E v.ps v.ls (4000 -(v.ss++v.C).length) u/\(∀o,ClTo v.E v.ps v.ls (4000 -(v.ss++v.C).length) N n u o->ClTo v.E v.ps v.ls (4000 -(v.ss++v.C).length) N 0 (CR v) o)/\n<=N/\Zz m wr)) (fun wr=>N -Lc d.heap.size wr)
   case atStart=>exact⟨c,b,zs,_,0,CR v,xF.o.1,vO.o,fun o h=>h,Nat.zero_le _,xF.o.2⟩
   case round=>
    clear xF vO;clear c b zs;obtain⟨c,b,zs,D,n,u,A⟩:=hrel;have vF:(Bb v u).C.length=v.C.length+u.L.length:=by simp[Bb]
    obtain⟨tn,xP⟩:∃tn,tn=(Bb v u).C.length:=⟨_,rfl⟩;have y:Hid (tn=(Bb v u).C.length/\tn=v.C.length+u.L.length):=⟨xP,by omega⟩
    have J:Hid (∀X,Zz wr X->Aa X d.heap.size [Zf,Zg v.wd,Zg v.U,.slice c.R v.ss.length c.Z,.slice c.N tn c.O,Zg v.T,Zg v.F,Zg v.G,Zg v.E,Za b u.A.length c.kc,.slice c.Q v.ps.length c.W,.slice c.P v.ls.length c.X,Zg u.H,.slice c.i u.D.length c.qc,.slice c.g u.ms.length c.y,Zg u.K,Zg u.J,Zg u.ro,Zg n,D]):=fun X hX=>by have h:=(A.o.1.below hX).box;unfold oC at h;rw[<-xP,A.o.1.rr.x]at h;exact h
    clear xP vF;have K:Hid ((Bb v u).ss.length<=1048576/\(Bb v u).C.length<=1048576/\(Bb v u).D.length<=100000000/\(Bb v u).ms.length<=100000000/\(Bb v u).A.length<=600/\(Bb v u).ps.length<=100/\(Bb v u).ls.length<=200/\∀k∈(Bb v u).A,k.B.length<=30):=by have f:=yC.o;have F:=A.o.2.1;have h3:=F.dl;have h4:=F.ql;have h5:=F.ml;rw[List.length_append]at f;have h6:=y.o;exact⟨by show v.ss.length<=_;omega,by omega,by show u.D.length<=_;omega,by show u.ms.length<=_;omega,by show u.A.length<=_;omega,F.ok.pl,F.ok.ll,fun k hk=>(F.ok.B k hk).1⟩
    have rI:d.heap.size<wr.heap.size:=Aa.lt A.o.1.box;have rH:=A.o.2.2.2.1;obtain⟨sN,_⟩:=J.o wr (Below.refl _ _) 18 _ rfl;by_cases hlt:n<N
    .have rE:(n:Int)<N:=by omega
     obtain⟨xQ,_⟩:=J.o wr (Below.refl _ _) 12 _ rfl;obtain⟨xR,_⟩:=J.o wr (Below.refl _ _) 13 _ rfl;obtain⟨xS,_⟩:=J.o wr (Below.refl _ _) 14 _ rfl;obtain⟨xT,_⟩:=J.o wr (Below.refl _ _) 15 _ rfl;obtain⟨xU,_⟩:=J.o wr (Below.refl _ _) 16 _ rfl;obtain⟨xW,_⟩:=J.o wr (Below.refl _ _) 17 _ rfl
     obtain⟨W5,yY⟩:∃Y,Y=wr.alloc (.cells #[Zg u.H,.slice c.i u.D.length c.qc,.slice c.g u.ms.length c.y,Zg u.K,Zg u.J,Zg u.ro] 41):=⟨_,rfl⟩;have b5:=(AA yY).1;have y5:=((AA yY).2.2 5 _ rfl).1;have zB:Hid (Zz wr W5/\Zz m W5):=⟨b5,A.o.2.2.2.2.trans (b5.mono A.o.2.2.2.2.size)⟩;have vV:=Yx yY;clear yY b5;go_upto_region 6 with fail;rw[<-vV.o];clear vV xQ xR xS xT xU xW sN;have yJ:=A.o.2.1.ok.r1
     by_cases hro:u.ro=1000000000
     .have vE:(1000000000:Int)<=u.ro:=by omega
      have O:Hid (Ft v N none):=zN.o _ (A.o.2.2.1 _ (.old n u hlt hro));clear zN yJ y J A;have B:=Yx (Iq (X:=W5) (H.o W5 zB.o.2).2);clear H;go_wp2_with (refine wpList_store_mid rfl 45 _ _ rfl (w.heap.size+1) 0 #[Zg 1,Zf,Zf,Zc,Zc,Zf,Zf,Zf,Zf,Zc,Zc,Zc,Zf,Zc,Zc,Zf,Zf,Zf,Zf,Zc] rfl rfl B.o.1 (by kernel_rfl) B.o.2.1 ?_);change bodyPost _ _ _ _ _ (W5.setCells (w.heap.size+1) 0 (z20 1))
      refine bodyPost_ret (Ce results5 _ _ (w.heap.size+1) (z20 1) _ rfl B.o.2.2.1.range underlying45 rfl (by kernel_rfl)) rfl ?_;exact⟨none,z20 1,O.o,rfl,rfl,B.o.2.2.2⟩
     .have vE:¬(1000000000:Int)<=u.ro:=by omega
      have zO:Hid (Fi v m.heap.size d.heap.size c b zs D n u W5):=A.o.1.below zB.o.1;have zJ:=Yx zO.o.rr
      have vP:=Yx (SF v.T v.F v.G v.E b c.kc zs u.A v.ps v.ls c.Q c.P c.W c.X u.H u.K u.J u.ro c.i c.g c.qc c.y u.D u.ms W5 zJ.o.zk zJ.o.z (zJ.o.lt b (.inl rfl)) zJ.o.p zJ.o.l zJ.o.q zJ.o.m zJ.o.cq zJ.o.cm (fun p e=>zJ.o.lt _ (.inr (.inl ⟨p,by simp[e],rfl⟩))) (fun p e=>zJ.o.lt _ (.inr (.inl ⟨p,by simp[e],rfl⟩))) (by rw[<-tO.o];exact A.o.2.1.ok) (by have:=A.o.2.1.ml;omega))
      have zE:=J.o W5 zB.o.1;obtain⟨k5,_⟩:=zE 5 _ rfl;obtain⟨k6,_⟩:=zE 6 _ rfl;obtain⟨k7,_⟩:=zE 7 _ rfl;obtain⟨k8,_⟩:=zE 8 _ rfl;obtain⟨k9,_⟩:=zE 9 _ rfl;obtain⟨sL,_⟩:=zE 10 _ rfl;obtain⟨sM,_⟩:=zE 11 _ rfl;obtain⟨xQ,_⟩:=zE 12 _ rfl;obtain⟨xR,_⟩:=zE 13 _ rfl;obtain⟨xS,_⟩:=zE 14 _ rfl;obtain⟨xT,_⟩:=zE 15 _ rfl;obtain⟨xU,_⟩:=zE 16 _ rfl;obtain⟨xW,_⟩:=zE 17 _ rfl;clear zE zJ;go_wp2_with fail
      refine Calls.mono vP.o ?_;rintro e w6 ⟨r,b2,tc,tK,qa,ma,da,qc,mc,dc,yD⟩;clear k5 k6 k7 k8 k9 sL sM xQ xR xS xT xU xW y5 vP;have he:=yD.e;subst he;have tG:Ip v.ps v.ls v.E u r:=yD.uto
      obtain⟨l,yZ⟩:∃Y,Y=w6.alloc (.cells #[Zf,Zg v.T,Zg v.F,Zg v.G,Zg v.E,Za b2 r.A.length tc,.slice c.Q v.ps.length c.W,.slice c.P v.ls.length c.X,Zg r.H,.slice qa r.D.length qc,.slice ma r.ms.length mc,Zg r.K,Zg r.J,Zg r.ro,.slice da r.L.length dc] 60):=⟨_,rfl⟩;have xK:=(AA yZ).1;have x8:=(AA yZ).2.2
      have zR:Hid (Aa l w6.heap.size [Zf,Zg v.T,Zg v.F,Zg v.G,Zg v.E,Za b2 r.A.length tc,.slice c.Q v.ps.length c.W,.slice c.P v.ls.length c.X,Zg r.H,.slice qa r.D.length qc,.slice ma r.ms.length mc,Zg r.K,Zg r.J,Zg r.ro,.slice da r.L.length dc]):=x8;have yW:Below W5.heap.size W5 l:=yD.low.trans (xK.mono yD.low.size)
      have G:Hid (Zz W5 l/\Zz m l/\Zz wr l/\Zz w6 l):=⟨yW,zB.o.2.trans (yW.mono zB.o.2.size),zB.o.1.trans (yW.mono zB.o.1.size),xK⟩;have zA:=Yx yD;have zC:Hid (Ip v.ps v.ls v.E u r):=tG;have vW:=Yx yZ;clear yZ yD tG yW xK;go_upto_region 9 with fail;rw[<-vW.o];clear vW;obtain⟨y9,_⟩:=x8 9 _ rfl;obtain⟨sZ,_⟩:=x8 10 _ rfl;clear x8;by_cases hq:23200<r.D.length
      .have tE:(23200:Int)<r.D.length:=by omega
       have O:Hid (Ft v N none):=zN.o _ (A.o.2.2.1 _ (.long n u r hlt hro zC.o (.inl hq)));clear zN yJ y J A zO zA zC zR;have B:=Yx (Iq (X:=l) (H.o l G.o.2.1).2);clear H;go_wp2_with (refine wpList_store_mid rfl 45 _ _ rfl (w.heap.size+1) 0 #[Zg 1,Zf,Zf,Zc,Zc,Zf,Zf,Zf,Zf,Zc,Zc,Zc,Zf,Zc,Zc,Zf,Zf,Zf,Zf,Zc] rfl rfl B.o.1 (by kernel_rfl) B.o.2.1 ?_)
       change bodyPost _ _ _ _ _ (l.setCells (w.heap.size+1) 0 (z20 1));refine bodyPost_ret (Ce results5 _ _ (w.heap.size+1) (z20 1) _ rfl B.o.2.2.1.range underlying45 rfl (by kernel_rfl)) rfl ?_;exact⟨none,z20 1,O.o,rfl,rfl,B.o.2.2.2⟩
      .by_cases hm:600<r.ms.length
       .have tE:¬(23200:Int)<r.D.length:=by omega
        have sE:(600:Int)<r.ms.length:=by omega
        have O:Hid (Ft v N none):=zN.o _ (A.o.2.2.1 _ (.long n u r hlt hro zC.o (.inr hm)));clear zN yJ y J A zO zA zC zR;have B:=Yx (Iq (X:=l) (H.o l G.o.2.1).2);clear H;go_wp2_with (refine wpList_store_mid rfl 45 _ _ rfl (w.heap.size+1) 0 #[Zg 1,Zf,Zf,Zc,Zc,Zf,Zf,Zf,Zf,Zc,Zc,Zc,Zf,Zc,Zc,Zf,Zf,Zf,Zf,Zc] rfl rfl B.o.1 (by kernel_rfl) B.o.2.1 ?_)
        change bodyPost _ _ _ _ _ (l.setCells (w.heap.size+1) 0 (z20 1));refine bodyPost_ret (Ce results5 _ _ (w.heap.size+1) (z20 1) _ rfl B.o.2.2.1.range underlying45 rfl (by kernel_rfl)) rfl ?_;exact⟨none,z20 1,O.o,rfl,rfl,B.o.2.2.2⟩
       .have tE:¬(23200:Int)<r.D.length:=by omega
        have sE:¬(600:Int)<r.ms.length:=by omega
        obtain⟨xB,_⟩:=zR.o 14 _ rfl;by_cases hds:r.L=[]
        .have sC:¬(0:Int)<r.L.length:=by rw[hds];simp
         have yA:(Bb v (u.and r)).C=(Bb v u).C:=by simp[Bb,UR.and,hds]
         have yO:(Bb v (u.and r)).C.length=tn:=by rw[yA];exact y.o.1.symm
         have x:Hid (Fi v m.heap.size d.heap.size c b zs D n u l):=A.o.1.below G.o.2.2.1
         have HY:Hid (Aa l d.heap.size [Zf,Zg v.wd,Zg v.U,.slice c.R v.ss.length c.Z,.slice c.N tn c.O,Zg v.T,Zg v.F,Zg v.G,Zg v.E,Za b u.A.length c.kc,.slice c.Q v.ps.length c.W,.slice c.P v.ls.length c.X,Zg u.H,.slice c.i u.D.length c.qc,.slice c.g u.ms.length c.y,Zg u.K,Zg u.J,Zg u.ro,Zg n,D]/\Aa l w6.heap.size [Zf,Zg v.T,Zg v.F,Zg v.G,Zg v.E,Za b2 r.A.length tc,.slice c.Q v.ps.length c.W,.slice c.P v.ls.length c.X,Zg r.H,.slice qa r.D.length qc,.slice ma r.ms.length mc,Zg r.K,Zg r.J,Zg r.ro,.slice da r.L.length dc]):=⟨J.o l G.o.2.2.1,zR.o⟩
         have i:=HY.o
         obtain⟨W9,zY⟩:∃Y,Y=((((((((((((((l.setCell (Ze (d.heap.size) 5) (Zg v.T)).setCell (Ze (d.heap.size) 6) (Zg v.F)).setCell (Ze (d.heap.size) 7) (Zg v.G)).setCell (Ze (d.heap.size) 8) (Zg v.E)).setCell (Ze (d.heap.size) 9) (Za b2 r.A.length tc)).setCell (Ze (d.heap.size) 10) (.slice c.Q v.ps.length c.W)).setCell (Ze (d.heap.size) 11) (.slice c.P v.ls.length c.X)).setCell (Ze (d.heap.size) 12) (Zg r.H)).setCell (Ze (d.heap.size) 13) (.slice qa r.D.length qc)).setCell (Ze (d.heap.size) 14) (.slice ma r.ms.length mc)).setCell (Ze (d.heap.size) 15) (Zg r.K)).setCell (Ze (d.heap.size) 16) (Zg r.J)).setCell (Ze (d.heap.size) 17) (Zg r.ro)).setCell (Ze (d.heap.size) 18) (Zg (n+1))):=⟨_,rfl⟩
         have zF:=Abk i.1 zY;have B:Hid (Fi v m.heap.size d.heap.size {UT c b2 tc qa ma qc mc with N:=c.N,O:=c.O} b2 tK D (n+1) (u.and r) W9/\GK v.wd v.E v.ps v.ls (4000 -(v.ss++v.C).length) (u.and r)/\(∀o,ClTo v.E v.ps v.ls (4000 -(v.ss++v.C).length) N (n+1) (u.and r) o->ClTo v.E v.ps v.ls (4000 -(v.ss++v.C).length) N 0 (CR v) o)/\n+1<=N/\Zz m W9):=by
          refine⟨zO.o.next zA.o G.o.2.2.2 (V:=[d.heap.size]) ((fun(h:Tn [d.heap.size] l W9)=>h) zF.2) (fun g j=> .inl (by simpa using j)) (U':=.slice c.N tn c.O) rfl (by rw[yA,y.o.1];exact x.o.uo.Y zF.2 (fun g j E=>by have:=(x.o.ud g j).1;simp at E;omega)) (by rw[hds,List.append_nil];exact x.o.I.Y zF.2 (fun g j E=>by have:=x.o.dd g j;simp at E;omega)) (fun g j=> .inl (by rw[<-y.o.1];exact j)) (fun g j=> .inl j) (fun g j=>(x.o.ud g (by rw[<-y.o.1];exact j)).2) ?_,A.o.2.1.step zC.o hro (by omega) (by omega) (.inl hds),fun o ho=>A.o.2.2.1 o (.step n u r o hlt hro zC.o (by omega) (by omega) (.inl hds) ho),hlt,?_⟩
          .unfold oC;rw[yO];exact zF.1
          .exact G.o.2.1.trans (((fun(h:Tn [d.heap.size] l W9)=>h) zF.2).below G.o.2.1.size (fun g j=>by simp at j;have:=tP.o;omega))
         have HM:Hid (N -Lc d.heap.size W9<N -Lc d.heap.size wr):=by show _<_;rw[B.o.1.gq,A.o.1.gq];omega
         obtain⟨z1,_⟩:=i.2 1 _ rfl;obtain⟨z2,_⟩:=i.2 2 _ rfl;obtain⟨z3,_⟩:=i.2 3 _ rfl;obtain⟨z4,_⟩:=i.2 4 _ rfl;obtain⟨z5,_⟩:=i.2 5 _ rfl;obtain⟨z6,_⟩:=i.2 6 _ rfl;obtain⟨z7,_⟩:=i.2 7 _ rfl;obtain⟨z8,_⟩:=i.2 8 _ rfl;obtain⟨z9,_⟩:=i.2 9 _ rfl;obtain⟨rA,_⟩:=i.2 10 _ rfl;obtain⟨rB,_⟩:=i.2 11 _ rfl;obtain⟨z12,_⟩:=i.2 12 _ rfl;obtain⟨rC,_⟩:=i.2 13 _ rfl;obtain⟨o5,g5⟩:=i.1 5 _ rfl
         obtain⟨o6,g6⟩:=i.1 6 _ rfl;obtain⟨o7,g7⟩:=i.1 7 _ rfl;obtain⟨o8,g8⟩:=i.1 8 _ rfl;obtain⟨o9,g9⟩:=i.1 9 _ rfl;obtain⟨sP,tR⟩:=i.1 10 _ rfl;obtain⟨sQ,tS⟩:=i.1 11 _ rfl;obtain⟨sR,tT⟩:=i.1 12 _ rfl;obtain⟨sS,tU⟩:=i.1 13 _ rfl;obtain⟨sT,tV⟩:=i.1 14 _ rfl;obtain⟨sU,tW⟩:=i.1 15 _ rfl;obtain⟨sV,tX⟩:=i.1 16 _ rfl;obtain⟨sW,tY⟩:=i.1 17 _ rfl;obtain⟨sX,tZ⟩:=i.1 18 _ rfl;have xI:=Yx zY
         have xO:¬w6.heap.size=d.heap.size:=by have f:=zA.o.low.size;have F:=zB.o.1.size;omega
         have vA:¬d.heap.size=w6.heap.size:=fun e=>xO e.symm;clear i zF zY yA yO y J zR x HY zA zC zO y9 sZ;go_wp2;rw[<-xI.o];exact⟨⟨_,_,_,_,n+1,u.and r,B⟩,HM.o⟩
        .obtain⟨sJ,sK,s,hs⟩:=UTo.some zC.o hds;have sC:(0:Int)<r.L.length:=by rw[hs];simp
         have tN:Hid (r.L≠[]):=hds;have yV:Hid (r.L=[s]):=hs;clear hs hds sJ sK;by_cases hfl:u.L.length<4000 -(v.ss++v.C).length
         .have sD:¬(4000:Int)<=v.ss.length+tn:=by have f:=yC.o;have F:=y.o.2;rw[List.length_append]at f hfl;omega
          have sF:v.ss.length<=4000:=by have f:=yC.o;rw[List.length_append]at f;omega
          have vG:tn<=4000:=by omega
          obtain⟨dg,zS,sA,sB,tD⟩:=zA.o.d.at (k:=0) (by rw[yV.o];simp);subst sA;have yT:Hid (¬dg=d.heap.size/\¬Af (.slice c.N tn c.O)=some dg/\¬Af D=some dg):=by
           have xN:∀g,RB b [c.R,c.Q,c.P,c.i,c.g] zs g->¬g=d.heap.size/\¬Af (.slice c.N tn c.O)=some g/\¬Af D=some g:=fun g j=>by have f:=zO.o.rr.ap g j;rw[<-y.o.1]at f;simp only[List.mem_cons,List.mem_append,Option.mem_toList]at f;exact⟨fun e=>f (.inl e),fun e=>f (.inr (.inl e)),fun e=>f (.inr (.inr e))⟩
           rcases zA.o.fd ⟨dg,zS,none⟩ rfl with f|⟨q,f,F⟩|⟨q,f,F⟩|f
           .exact xN dg (.inl f)
           .exact xN dg (.inr (.inl ⟨q,by simp[f],F.symm⟩))
           .exact xN dg (.inr (.inl ⟨q,by simp[f],F.symm⟩))
           .have F:=zB.o.1.size;refine⟨fun e=> ?_,fun e=> ?_,fun e=> ?_⟩
            .have h3:W5.heap.size<=dg:=f;omega
            .have h3:W5.heap.size<=dg:=f;rw[y.o.1]at e;have h4:=(A.o.1.uo.S e).2;omega
            .have h3:W5.heap.size<=dg:=f;have h4:=(A.o.1.I.S e).2;omega
          have x:Hid (Fi v m.heap.size d.heap.size c b zs D n u l):=A.o.1.below G.o.2.2.1
          have vH:Hid (∀X,Zz l X->∃R uc Y,(Builtin.append_ #[22,22] 22 #[.slice c.N tn c.O,Za X.heap.size 1 1]).run prog (X.alloc (.cells #[.string (DD v.wd s)] 9))=.ok (.slice R (tn+1) uc) Y/\Y.heap[d.heap.size]?=X.heap[d.heap.size]? /\Tn (d.heap.size::(Af (.slice c.N tn c.O)).toList) X (Y.setCell (Ze (d.heap.size) 4) (.slice R (tn+1) uc))/\Aj (Y.setCell (Ze (d.heap.size) 4) (.slice R (tn+1) uc)) m.heap.size (.slice R (tn+1) uc) ((Bb v u).C++[DD v.wd s])/\∀g,Af (.slice R (tn+1) uc)=some g->Af (.slice c.N tn c.O)=some g\/X.heap.size<=g):=fun X hX=>by
           have f:=x.o.uo.below hX;have F:=y.o.1;have h3:=SX X m.heap.size d.heap.size 4 _ _ (DD v.wd s) f (fun g j=>(x.o.ud g j).1) (by have:=x.o.box.lt;have:=hX.size;omega) (by have:=x.o.im;have:=x.o.box.lt;have:=hX.size;omega) (by omega);rw[<-F]at h3;exact h3
          have I:Hid (∀X,Calls prog 20 #[.agg #[Zg 7,.string s,Zd,Zf,Zd,Zc],Zg v.wd] X fun e w'=>e=.returned (.string (DD v.wd s))/\Zz X w'):=fun X=>Ut 7 s ⟨#[]⟩ 0 ⟨#[]⟩ none 0 [] v.wd X (.inl rfl) (Nat.zero_le _) (Nat.zero_le _) (Nat.zero_le _)
          have H8:Hid (∀X,Zz l X->Aa X d.heap.size [Zf,Zg v.wd,Zg v.U,.slice c.R v.ss.length c.Z,.slice c.N tn c.O,Zg v.T,Zg v.F,Zg v.G,Zg v.E,Za b u.A.length c.kc,.slice c.Q v.ps.length c.W,.slice c.P v.ls.length c.X,Zg u.H,.slice c.i u.D.length c.qc,.slice c.g u.ms.length c.y,Zg u.K,Zg u.J,Zg u.ro,Zg n,D]/\Aa X w6.heap.size [Zf,Zg v.T,Zg v.F,Zg v.G,Zg v.E,Za b2 r.A.length tc,.slice c.Q v.ps.length c.W,.slice c.P v.ls.length c.X,Zg r.H,.slice qa r.D.length qc,.slice ma r.ms.length mc,Zg r.K,Zg r.J,Zg r.ro,.slice (some ⟨dg,zS,none⟩) r.L.length dc]/\X.cell? (Ze dg zS)=some (.string s)):=fun X hX=>⟨J.o X (G.o.2.2.1.trans (hX.mono G.o.2.2.1.size)),Aa.below zR.o hX,((G.o.2.2.2.trans (hX.mono G.o.2.2.2.size)).cell (p:=⟨dg,zS,none⟩) sB).trans (by simpa using tD 0 s (by rw[yV.o];rfl))⟩
          obtain⟨k3,_⟩:=(H8.o l (Below.refl _ _)).1 3 _ rfl;obtain⟨k4,_⟩:=(H8.o l (Below.refl _ _)).1 4 _ rfl;obtain⟨xB,_⟩:=(H8.o l (Below.refl _ _)).2.1 14 _ rfl;have d0:=(H8.o l (Below.refl _ _)).2.2;obtain⟨v0,_⟩:=(H.o l G.o.2.1).1 0 _ rfl;have vD:d.heap.size<l.heap.size:=Aa.lt (H8.o l (Below.refl _ _)).1;clear tD J zR;go_upto_region 15 with fail
          go_cut [] (fun wx=>∃R uc X,Hid (Zz l X/\Aa wx d.heap.size [Zf,Zg v.wd,Zg v.U,.slice c.R v.ss.length c.Z,.slice R (tn+1) uc,Zg v.T,Zg v.F,Zg v.G,Zg v.E,Za b u.A.length c.kc,.slice c.Q v.ps.length c.W,.slice c.P v.ls.length c.X,Zg u.H,.slice c.i u.D.length c.qc,.slice c.g u.ms.length c.y,Zg u.K,Zg u.J,Zg u.ro,Zg n,D]/\Tn (d.heap.size::(Af (.slice c.N tn c.O)).toList) X wx/\Aj wx m.heap.size (.slice R (tn+1) uc) ((Bb v u).C++[DD v.wd s])/\∀g,Af (.slice R (tn+1) uc)=some g->Af (.slice c.N tn c.O)=some g\/X.heap.size<=g))
          case first=>
           clear zN y A zO zA zC x yT yC K zB k3
           go_region_law (first
            |(go_simp;go_at_call 20;refine(I.o l.drew).mono ?_;rintro e wf ⟨rfl,tA⟩;have bf:Below l.heap.size l wf:=Cp tA;have zf:=bf.size;obtain⟨R,uc,Y,hr,hbY,hTY,hoY,hnY⟩:=vH.o wf bf;have hx:=(H8.o wf bf).1;have n4:=(hx 4 _ rfl).1;have xY:=Aa.same hx hbY;obtain⟨y4,f4⟩:=xY 4 _ rfl;have a4:(wf.alloc (.cells #[.string (DD v.wd s)] 9)).cell? (Ze (d.heap.size) 4)=some (.slice c.N tn c.O):=(Aa.below hx (Zy) 4 _ rfl).1;have B:=Yx (Zn bf (Zn (xY.set 4 (.slice R (tn+1) uc)) (Zn hTY (Zn hoY hnY))));clear hx xY hTY hoY hnY hbY tA;go_wp2_with fail)
            |(refine Bv (by rfl) (.tmp 75) (.tmp 84) 22 22 (by rfl) (by rfl) (by rfl) hr ?_))
           all_goals
            go_wp2_with fail;go_meet;exact⟨R,uc,wf,B⟩
          case rest=>
           revert wc;intro zK hcut;obtain⟨R,uc,X,HC⟩:=hcut;clear vH I k3 k4 xB d0 v0;have xJ:Hid (Aa zK w6.heap.size [Zf,Zg v.T,Zg v.F,Zg v.G,Zg v.E,Za b2 r.A.length tc,.slice c.Q v.ps.length c.W,.slice c.P v.ls.length c.X,Zg r.H,.slice qa r.D.length qc,.slice ma r.ms.length mc,Zg r.K,Zg r.J,Zg r.ro,.slice (some ⟨dg,zS,none⟩) r.L.length dc]/\zK.cell? (Ze dg zS)=some (.string s)):=by
            have hx:=H8.o X HC.o.1;have sG:∀g,Af (.slice c.N tn c.O)=some g->g<wr.heap.size:=fun g j=>by rw[y.o.1]at j;exact(A.o.1.uo.S j).2
            have f:=zA.o.low.size;have F:=zB.o.1.size;have hz:=HC.o.1.size;have rJ:=G.o.2.2.2.size;refine⟨Aa.same hx.2.1 (HC.o.2.2.1.block _ hx.2.1.lt (fun E=> ?_)),(World.cell?_of_block (a:=⟨dg,zS,none⟩) (HC.o.2.2.1.block dg (by omega) (fun E=> ?_))).trans hx.2.2⟩
            .simp only[List.mem_cons,Option.mem_toList]at E;rcases E with e|e
             .omega
             .have:=sG _ e;omega
            .simp only[List.mem_cons,Option.mem_toList]at E;rcases E with e|e
             .exact yT.o.1 e
             .exact yT.o.2.1 e
           have vK:Hid (Aj zK m.heap.size D u.L):=(x.o.I.below HC.o.1).Y HC.o.2.2.1 (fun g j E=>by
            simp only[List.mem_cons,Option.mem_toList]at E;rcases E with e|e
            .exact x.o.dd g j e
            .rw[y.o.1]at e;exact(x.o.ud g e).2 j)
           have zU:=HC.o.2.1;have xC:d.heap.size<zK.heap.size:=zU.lt;obtain⟨ea,ec,Y2,tF,yR,yG,yI,yH⟩:=SX zK.drew m.heap.size d.heap.size 19 D u.L s (vK.o.below (Below.refl _ _).drew) (fun g j=>x.o.dd g j) xC (by have:=x.o.im;show _<=zK.heap.size;omega) (by have:=A.o.2.1.dl;omega);obtain⟨zP,zT⟩:∃Z,Z=Y2.setCell (Ze (d.heap.size) 19) (.slice ea (u.L.length+1) ec):=⟨_,rfl⟩
           have xX:Aa Y2 d.heap.size [Zf,Zg v.wd,Zg v.U,.slice c.R v.ss.length c.Z,.slice R (tn+1) uc,Zg v.T,Zg v.F,Zg v.G,Zg v.E,Za b u.A.length c.kc,.slice c.Q v.ps.length c.W,.slice c.P v.ls.length c.X,Zg u.H,.slice c.i u.D.length c.qc,.slice c.g u.ms.length c.y,Zg u.K,Zg u.J,Zg u.ro,Zg n,D]:=Aa.same zU yR;obtain⟨sO,_⟩:=zU 19 _ rfl;obtain⟨sY,tQ⟩:=xX 19 _ rfl
           have tJ:Aa zP d.heap.size [Zf,Zg v.wd,Zg v.U,.slice c.R v.ss.length c.Z,.slice R (tn+1) uc,Zg v.T,Zg v.F,Zg v.G,Zg v.E,Za b u.A.length c.kc,.slice c.Q v.ps.length c.W,.slice c.P v.ls.length c.X,Zg u.H,.slice c.i u.D.length c.qc,.slice c.g u.ms.length c.y,Zg u.K,Zg u.J,Zg u.ro,Zg n,.slice ea (u.L.length+1) ec]:=by rw[zT];exact xX.set 19 _
           rw[<-zT]at yG yI;have xA:Tn (d.heap.size::(Af D).toList) zK zP:=((Tn.of (V:=[]) (Below.refl zK.heap.size zK).drew).mono (by simp)).trans yG
           have xG:Hid (Tn (d.heap.size::((Af (.slice c.N tn c.O)).toList++(Af D).toList)) l zP):=((Tn.of (V:=[]) HC.o.1).mono (by simp)).trans ((HC.o.2.2.1.mono (by simp;exact fun b h=> .inr (.inl h))).trans (xA.mono (by simp;exact fun b h=> .inr (.inr h))));have rF:=HC.o.1.size;have tM:=HC.o.2.2.1.size
           have vR:Hid (Aj zP m.heap.size (.slice R (tn+1) uc) ((Bb v u).C++[DD v.wd s])):=HC.o.2.2.2.1.Y xA (fun g j E=>by
            simp only[List.mem_cons,Option.mem_toList]at E;have F:=x.o.box.lt;rcases E with e|e
            .rcases HC.o.2.2.2.2 g j with f|f
             .rw[y.o.1]at f;exact(x.o.ud g f).1 e
             .omega
            .rcases HC.o.2.2.2.2 g j with f|f
             .rw[y.o.1]at f;exact(x.o.ud g f).2 e
             .have:=(x.o.I.S e).2;omega)
           have vL:Hid (Aj zP m.heap.size (.slice ea (u.L.length+1) ec) (u.L++[s])):=yI;have xH:Hid (∀g,Af (.slice R (tn+1) uc)=some g->Af (.slice c.N tn c.O)=some g\/l.heap.size<=g):=fun g j=>by
            rcases HC.o.2.2.2.2 g j with f|f
            .exact .inl f
            .exact .inr (by omega)
           have xD:Hid (∀g,Af (.slice ea (u.L.length+1) ec)=some g->Af D=some g\/zK.heap.size<=g):=yH;have vQ:Hid (∀g,Af (.slice R (tn+1) uc)=some g->Af (.slice ea (u.L.length+1) ec)≠some g):=fun g j hd=>by
            have h3:=(HC.o.2.2.2.1.S j).2;rcases yH g hd with f|f
            .rcases HC.o.2.2.2.2 g j with F|F
             .rw[y.o.1]at F;exact(x.o.ud g F).2 f
             .have:=(x.o.I.S f).2;omega
            .have h4:zK.heap.size<=g:=f;omega
           have tL:=x.o.box.lt;have vS:Hid (∀g,Af (.slice R (tn+1) uc)=some g->¬g=d.heap.size):=fun g j e=>by
            rcases xH.o g j with f|f
            .rw[y.o.1]at f;exact(x.o.ud g f).1 e
            .omega
           have vM:Hid (∀g,Af (.slice ea (u.L.length+1) ec)=some g->¬g=d.heap.size):=fun g j e=>by
            rcases xD.o g j with f|f
            .exact x.o.dd g f e
            .omega
           have yP:Hid (∀g,Af (.slice ea (u.L.length+1) ec)=some g->Af D=some g\/l.heap.size<=g):=fun g j=>by
            rcases xD.o g j with f|f
            .exact .inl f
            .exact .inr (by omega)
           have vT:Hid (∀g∈d.heap.size::((Af (.slice c.N tn c.O)).toList++(Af D).toList),m.heap.size<=g):=fun g j=>by
            simp only[List.mem_cons,List.mem_append,Option.mem_toList]at j;have f:=x.o.im;rcases j with F|F|F
            .omega
            .rw[y.o.1]at F;exact(x.o.uo.S F).1
            .exact(x.o.I.S F).1
           have yA:(Bb v (u.and r)).C=(Bb v u).C++[DD v.wd s]:=by have:=yV.o;simp[Bb,UR.and,this]
           have yO:(Bb v (u.and r)).C.length=tn+1:=by rw[yA,List.length_append,<-y.o.1];rfl
           have h6:=xJ.o.1;have sI:=h6.lt;have vC:¬w6.heap.size=d.heap.size:=by have f:=zA.o.low.size;have F:=zB.o.1.size;omega
           have HY:Hid (Aa zP d.heap.size [Zf,Zg v.wd,Zg v.U,.slice c.R v.ss.length c.Z,.slice R (tn+1) uc,Zg v.T,Zg v.F,Zg v.G,Zg v.E,Za b u.A.length c.kc,.slice c.Q v.ps.length c.W,.slice c.P v.ls.length c.X,Zg u.H,.slice c.i u.D.length c.qc,.slice c.g u.ms.length c.y,Zg u.K,Zg u.J,Zg u.ro,Zg n,.slice ea (u.L.length+1) ec]/\Aa zP w6.heap.size [Zf,Zg v.T,Zg v.F,Zg v.G,Zg v.E,Za b2 r.A.length tc,.slice c.Q v.ps.length c.W,.slice c.P v.ls.length c.X,Zg r.H,.slice qa r.D.length qc,.slice ma r.ms.length mc,Zg r.K,Zg r.J,Zg r.ro,.slice (some ⟨dg,zS,none⟩) r.L.length dc]):=⟨tJ,Aa.same h6 (xA.block _ sI (fun E=>by
            simp only[List.mem_cons,Option.mem_toList]at E;rcases E with e|e
            .exact vC e
            .have f:=(A.o.1.I.S e).2;have F:=zA.o.low.size;have h3:=zB.o.1.size;omega))⟩
           obtain⟨xB,_⟩:=h6 14 _ rfl;have d0:=xJ.o.2;have rD:dg<zK.heap.size:=by have:=G.o.2.2.2.size;omega
           have yQ:=Yx zT;clear h6 zT zU xX yG yI yH tJ xA yR;go_upto_region 16 with fail
           go_region_law (first
            |(refine Bv (by rfl) (.tmp 90) (.tmp 95) 22 22 (by rfl) (by rfl) (by rfl) tF ?_))
           all_goals
            clear tF sO xB d0;go_upto_region 17 with fail;rw[<-yQ.o];clear yQ sY tQ;have i:=HY.o
            obtain⟨W9,zY⟩:∃Y,Y=((((((((((((((zP.setCell (Ze (d.heap.size) 5) (Zg v.T)).setCell (Ze (d.heap.size) 6) (Zg v.F)).setCell (Ze (d.heap.size) 7) (Zg v.G)).setCell (Ze (d.heap.size) 8) (Zg v.E)).setCell (Ze (d.heap.size) 9) (Za b2 r.A.length tc)).setCell (Ze (d.heap.size) 10) (.slice c.Q v.ps.length c.W)).setCell (Ze (d.heap.size) 11) (.slice c.P v.ls.length c.X)).setCell (Ze (d.heap.size) 12) (Zg r.H)).setCell (Ze (d.heap.size) 13) (.slice qa r.D.length qc)).setCell (Ze (d.heap.size) 14) (.slice ma r.ms.length mc)).setCell (Ze (d.heap.size) 15) (Zg r.K)).setCell (Ze (d.heap.size) 16) (Zg r.J)).setCell (Ze (d.heap.size) 17) (Zg r.ro)).setCell (Ze (d.heap.size) 18) (Zg (n+1))):=⟨_,rfl⟩
            have zF:=Abk i.1 zY;have B:Hid (Fi v m.heap.size d.heap.size {UT c b2 tc qa ma qc mc with N:=R,O:=uc} b2 tK (.slice ea (u.L.length+1) ec) (n+1) (u.and r) W9/\GK v.wd v.E v.ps v.ls (4000 -(v.ss++v.C).length) (u.and r)/\(∀o,ClTo v.E v.ps v.ls (4000 -(v.ss++v.C).length) N (n+1) (u.and r) o->ClTo v.E v.ps v.ls (4000 -(v.ss++v.C).length) N 0 (CR v) o)/\n+1<=N/\Zz m W9):=by
             refine⟨zO.o.next zA.o G.o.2.2.2 (V:=d.heap.size::((Af (.slice c.N tn c.O)).toList++(Af D).toList)) ((fun(h:Tn [d.heap.size] zP W9)=>xG.o.trans (h.mono (by simp))) zF.2) (fun g j=>by simp only[List.mem_cons,List.mem_append,Option.mem_toList]at j;rw[<-y.o.1];exact j) (U':=.slice R (tn+1) uc) rfl (by rw[yA];exact vR.o.Y zF.2 (fun g j E=>vS.o g j (by simpa using E))) (by rw[yV.o];exact vL.o.Y zF.2 (fun g j E=>vM.o g j (by simpa using E))) (fun g j=>by rw[<-y.o.1];exact xH.o g j) yP.o vQ.o ?_,A.o.2.1.step zC.o hro (by omega) (by omega) (.inr hfl),fun o ho=>A.o.2.2.1 o (.step n u r o hlt hro zC.o (by omega) (by omega) (.inr hfl) ho),hlt,?_⟩
             .unfold oC;rw[yO];exact zF.1
             .exact G.o.2.1.trans (((fun(h:Tn [d.heap.size] zP W9)=>xG.o.trans (h.mono (by simp))) zF.2).below G.o.2.1.size (fun g j=>vT.o g j))
            have HM:Hid (N -Lc d.heap.size W9<N -Lc d.heap.size wr):=by show _<_;rw[B.o.1.gq,A.o.1.gq];omega
            obtain⟨z1,_⟩:=i.2 1 _ rfl;obtain⟨z2,_⟩:=i.2 2 _ rfl;obtain⟨z3,_⟩:=i.2 3 _ rfl;obtain⟨z4,_⟩:=i.2 4 _ rfl;obtain⟨z5,_⟩:=i.2 5 _ rfl;obtain⟨z6,_⟩:=i.2 6 _ rfl;obtain⟨z7,_⟩:=i.2 7 _ rfl;obtain⟨z8,_⟩:=i.2 8 _ rfl;obtain⟨z9,_⟩:=i.2 9 _ rfl;obtain⟨rA,_⟩:=i.2 10 _ rfl;obtain⟨rB,_⟩:=i.2 11 _ rfl;obtain⟨z12,_⟩:=i.2 12 _ rfl;obtain⟨rC,_⟩:=i.2 13 _ rfl;obtain⟨o5,g5⟩:=i.1 5 _ rfl
            obtain⟨o6,g6⟩:=i.1 6 _ rfl;obtain⟨o7,g7⟩:=i.1 7 _ rfl;obtain⟨o8,g8⟩:=i.1 8 _ rfl;obtain⟨o9,g9⟩:=i.1 9 _ rfl;obtain⟨sP,tR⟩:=i.1 10 _ rfl;obtain⟨sQ,tS⟩:=i.1 11 _ rfl;obtain⟨sR,tT⟩:=i.1 12 _ rfl;obtain⟨sS,tU⟩:=i.1 13 _ rfl;obtain⟨sT,tV⟩:=i.1 14 _ rfl;obtain⟨sU,tW⟩:=i.1 15 _ rfl;obtain⟨sV,tX⟩:=i.1 16 _ rfl;obtain⟨sW,tY⟩:=i.1 17 _ rfl;obtain⟨sX,tZ⟩:=i.1 18 _ rfl;have xI:=Yx zY
            have xO:¬w6.heap.size=d.heap.size:=by have f:=zA.o.low.size;have F:=zB.o.1.size;omega
            have vA:¬d.heap.size=w6.heap.size:=fun e=>xO e.symm;clear i zF zY yA yO y HY zA zC zO x xG vR vL xH xD vQ HC xJ vK yT H8 vS vM yP vT;go_wp2;rw[<-xI.o];exact⟨⟨_,_,_,_,n+1,u.and r,B⟩,HM.o⟩
         .have sD:(4000:Int)<=v.ss.length+tn:=by have f:=yC.o;have F:=y.o.2;rw[List.length_append]at f hfl;omega
          have sF:v.ss.length<=4000:=by have f:=yC.o;rw[List.length_append]at f;omega
          have vG:tn<=1048576:=by rw[y.o.1];exact K.o.2.1
          have O:Hid (Ft v N (some (u,n))):=zN.o _ (A.o.2.2.1 _ (.full n u r hlt hro zC.o tN.o hfl));have zV:Hid (Zz m l):=G.o.2.1;have zM:Hid (Fi v m.heap.size d.heap.size c b zs D n u l):=A.o.1.below G.o.2.2.1;have h8:=J.o l G.o.2.2.1;obtain⟨k3,_⟩:=h8 3 _ rfl;obtain⟨k4,_⟩:=h8 4 _ rfl;have vD:d.heap.size<l.heap.size:=h8.lt;clear h8 zN J A y zO zA zC zR hfl
          have yK:Hid (KH l c (Bb v u)):=zM.o.rr.jm zM.o.uo K.o.1 K.o.2.1 K.o.2.2.1 K.o.2.2.2.1 K.o.2.2.2.2.1 K.o.2.2.2.2.2.1 K.o.2.2.2.2.2.2.1 K.o.2.2.2.2.2.2.2
          obtain⟨yB,zI⟩:∃t,t=Bx (Bb v u) (.slice c.R (Bb v u).ss.length c.Z) (.slice c.N (Bb v u).C.length c.O) (.slice c.x (Bb v u).A.length c.kc) (.slice c.Q (Bb v u).ps.length c.W) (.slice c.P (Bb v u).ls.length c.X) (.slice c.i (Bb v u).D.length c.qc) (.slice c.g (Bb v u).ms.length c.y):=⟨_,rfl⟩;have zX:Hid (l.rangeAt d.heap.size 1 yB/\yB.length=17):=by show _/\_;rw[zI];exact⟨Aa.gy [Zf] _ [Zg n,D] zM.o.box,rfl⟩
          have zH:=Yx (Jl (Bb v u) c l yK.o);rw[<-zI]at zH;clear zI yK;go_wp2_with (refine wpList_load_mid rfl 43 _ rfl d.heap.size 1 rfl yB _ zX.o.1 underlying43 rfl (by rw[zX.o.2];kernel_rfl) ?_);refine Calls.mono zH.o ?_;rintro e w9 ⟨S,U,T,P,L,Q,M,rs,rfl,hA,_,zZ⟩;clear zH zX;obtain⟨vs,zG⟩:∃t,t=Bx (Bb v u) S U T P L Q M:=⟨_,rfl⟩;rw[<-zG];obtain⟨C,hC⟩:∃t,t=DL 0 vs n D:=⟨_,rfl⟩
          have I:=Yx (UZ zM.o hA zZ (by have:=vX.o;omega) (H.o w9 (zV.o.trans (zZ.mono zV.o.size))).2 zG hC);clear zG hC hA zZ H zM zV;go_wp2_with (first
           |refine wpList_store_mid rfl 43 _ _ rfl d.heap.size 1 vs.toArray rfl rfl I.o.1.2.2 (by rw[List.size_toArray,I.o.1.1];kernel_rfl) (all_oneCell_toArray I.o.1.2.1) ?_
           |refine wpList_load_mid rfl 45 _ rfl d.heap.size 0 rfl C _ I.o.2.1.range underlying45 rfl (by rw[I.o.2.2.1.1];kernel_rfl) ?_
           |refine wpList_store_mid rfl 45 _ _ rfl (w.heap.size+1) 0 C.toArray rfl rfl I.o.2.2.1.2.2 (by rw[List.size_toArray,I.o.2.2.1.1];kernel_rfl) (all_oneCell_toArray I.o.2.2.1.2.1) ?_)
          exact bodyPost_ret (Ce results5 _ _ (w.heap.size+1) C _ rfl (Aa.range I.o.2.2.2.1) underlying45 rfl (by rw[I.o.2.2.1.1];kernel_rfl)) rfl ⟨some (u,n),C,O.o,rfl,I.o.2.2.2.2.1,I.o.2.2.2.2.2⟩
    .have rG:¬(n:Int)<N:=by omega
     have zV:Hid (Zz m wr):=A.o.2.2.2.2;have zM:Hid (Fi v m.heap.size d.heap.size c b zs D n u wr):=A.o.1;have O:Hid (Ft v N (some (u,n))):=zN.o _ (A.o.2.2.1 _ (.fin n u (by omega)));clear zN J A y;have yK:Hid (KH wr c (Bb v u)):=zM.o.rr.jm zM.o.uo K.o.1 K.o.2.1 K.o.2.2.1 K.o.2.2.2.1 K.o.2.2.2.2.1 K.o.2.2.2.2.2.1 K.o.2.2.2.2.2.2.1 K.o.2.2.2.2.2.2.2
     obtain⟨yB,zI⟩:∃t,t=Bx (Bb v u) (.slice c.R (Bb v u).ss.length c.Z) (.slice c.N (Bb v u).C.length c.O) (.slice c.x (Bb v u).A.length c.kc) (.slice c.Q (Bb v u).ps.length c.W) (.slice c.P (Bb v u).ls.length c.X) (.slice c.i (Bb v u).D.length c.qc) (.slice c.g (Bb v u).ms.length c.y):=⟨_,rfl⟩;have zX:Hid (wr.rangeAt d.heap.size 1 yB/\yB.length=17):=by show _/\_;rw[zI];exact⟨Aa.gy [Zf] _ [Zg n,D] zM.o.box,rfl⟩
     have zH:=Yx (Jl (Bb v u) c wr yK.o);rw[<-zI]at zH;clear zI yK;go_wp2_with (refine wpList_load_mid rfl 43 _ rfl d.heap.size 1 rfl yB _ zX.o.1 underlying43 rfl (by rw[zX.o.2];kernel_rfl) ?_);refine Calls.mono zH.o ?_;rintro e w9 ⟨S,U,T,P,L,Q,M,rs,rfl,hA,_,zZ⟩;clear zH zX;obtain⟨vs,zG⟩:∃t,t=Bx (Bb v u) S U T P L Q M:=⟨_,rfl⟩;rw[<-zG];obtain⟨C,hC⟩:∃t,t=DL 0 vs n D:=⟨_,rfl⟩
     have I:=Yx (UZ zM.o hA zZ (by have:=vX.o;omega) (H.o w9 (zV.o.trans (zZ.mono zV.o.size))).2 zG hC);clear zG hC hA zZ H zM zV;go_wp2_with (first
      |refine wpList_store_mid rfl 43 _ _ rfl d.heap.size 1 vs.toArray rfl rfl I.o.1.2.2 (by rw[List.size_toArray,I.o.1.1];kernel_rfl) (all_oneCell_toArray I.o.1.2.1) ?_
      |refine wpList_load_mid rfl 45 _ rfl d.heap.size 0 rfl C _ I.o.2.1.range underlying45 rfl (by rw[I.o.2.2.1.1];kernel_rfl) ?_
      |refine wpList_store_mid rfl 45 _ _ rfl (w.heap.size+1) 0 C.toArray rfl rfl I.o.2.2.1.2.2 (by rw[List.size_toArray,I.o.2.2.1.1];kernel_rfl) (all_oneCell_toArray I.o.2.2.1.2.1) ?_)
     exact bodyPost_ret (Ce results5 _ _ (w.heap.size+1) C _ rfl (Aa.range I.o.2.2.2.1) underlying45 rfl (by rw[I.o.2.2.1.1];kernel_rfl)) rfl ⟨some (u,n),C,O.o,rfl,I.o.2.2.2.2.1,I.o.2.2.2.2.2⟩
  .rw[decide_eq_false hun];have xE:Hid (¬(FY v/\0<=z/\z<=10000)):=fun h=>hun h.2;clear yS hun;have B:=Yx (Iq (X:=m) (H.o m yE).2);clear H;go_wp2_with (refine wpList_store_mid rfl 45 _ _ rfl (w.heap.size+1) 0 #[Zg 1,Zf,Zf,Zc,Zc,Zf,Zf,Zf,Zf,Zc,Zc,Zc,Zf,Zc,Zc,Zf,Zf,Zf,Zf,Zc] rfl rfl B.o.1 (by kernel_rfl) B.o.2.1 ?_);change bodyPost _ _ _ _ _ (m.setCells (w.heap.size+1) 0 (z20 1))
   refine bodyPost_ret (Ce results5 _ _ (w.heap.size+1) (z20 1) _ rfl B.o.2.2.1.range underlying45 rfl (by kernel_rfl)) rfl ?_;exact⟨none,z20 1,.inl ⟨xE.o,rfl⟩,rfl,rfl,B.o.2.2.2⟩
theorem PE{b:Int}{a:Zl}(d:∀x∈a,(x.size:Int)=b)(g:(s.size:Int)=b)(f:b<=8):keyL s∈a.map keyL↔s∈a:=by
 constructor
 .intro h;obtain⟨x,c,e⟩:=List.mem_map.1 h;have:=d x c;have:=key_inj e Yw Yw;exact this▸c
 .exact fun h=>List.mem_map.2 ⟨s,h,rfl⟩
def GM(d:Nat)(ph:Int)(Q M:Value)(top at_ ro:Int)(mm:Nat)(D:Value):Zj:=[.pointer (some ⟨d,0,none⟩),Zg ph,Q,M,Zg top,Zg at_,Zg ro,.map (some mm),D]
theorem AV.S{a:Zh}{K:TypeId}{f:Lit->Option Value}(h:AV w K b n c f)(j:a.heap[b]?=w.heap[b]?):AV a K b n c f:=by obtain⟨D,⟨d,clock,e,g⟩,i⟩:=h;exact⟨D,⟨d,clock,j.trans e,g⟩,i⟩
theorem FU(c d:Nat)(C y u E:Int)(Q M D:Value)(b n p:Nat)(f:Lit->Option Value)(m:Int)(g:Zl)(s:Zi)(w:Zh)(a:Aa w c (GM d C Q M y u E b D))(l:AV w 183 b n p f)(q:MK g f p)(i:∀x∈g,(x.size:Int)=m)(B:(s.size:Int)=m)(A:m<=8):
 Calls prog 121 #[Yz c,.string s] w fun e F=>Ap (s∈g) w F e:=by
 obtain⟨k,t,H,_,h⟩:=q.get (keyL s);have z:Hid (0<k↔s∈g):=h.trans (PE i B A);have HS:Hid (∀X,Zz w X->X.cell? (Ze c 7)=some (.map (some b))/\(Instr.lookup 137 (.map (some b)) (BU s) false).run prog X=.ok (Zg k) X):=fun X r=>
  ⟨((a.below r) 7 _ rfl).1,by have:=(l.ah r l.lt).map.look keyed underlying137 (GZ X) (CP s);rw[t]at this;exact this⟩
 have j:Below w.heap.size w w.drew:=(Below.refl _ _).drew;clear a l q t h i;go_enter func121,ntmps121;go_upto_region 1 with fail;go_region_held3 (fun X=>X.cell? (Ze c 7)=some (.map (some b))/\(Instr.lookup 137 (.map (some b)) (BU s) false).run prog X=.ok (Zg k) X)
  (first|with_reducible exact HS.o _ j|with_reducible exact HS.o _ o)
  (first|(go_at_call 145;refine(Fy s w.drew).mono ?_;rintro e G ⟨rfl,v⟩;have o:Below w.heap.size w G:=j.trans (v.mono j.size)))
 all_goals
  go_wp2;go_ret;exact⟨_,rfl,by rw[decide_eq_true_iff];exact z.o,o⟩
theorem c9{a c d:Value}(h:Aa w b [a,c,d,e,f,g,i,j,k]):(w.cell? (Ze b 0)=some a/\w.frozen? ⟨b,0,none⟩=false)/\(w.cell? (Ze b 1)=some c/\w.frozen? ⟨b,1,none⟩=false)/\(w.cell? (Ze b 2)=some d/\w.frozen? ⟨b,2,none⟩=false)/\(w.cell? (Ze b 3)=some e/\w.frozen? ⟨b,3,none⟩=false)/\(w.cell? (Ze b 4)=some f/\w.frozen? ⟨b,4,none⟩=false)/\(w.cell? (Ze b 5)=some g/\w.frozen? ⟨b,5,none⟩=false)/\(w.cell? (Ze b 6)=some i/\w.frozen? ⟨b,6,none⟩=false)/\(w.cell? (Ze b 7)=some j/\w.frozen? ⟨b,7,none⟩=false)/\(w.cell? (Ze b 8)=some k/\w.frozen? ⟨b,8,none⟩=false):=
 ⟨h 0 _ rfl,h 1 _ rfl,h 2 _ rfl,h 3 _ rfl,h 4 _ rfl,h 5 _ rfl,h 6 _ rfl,h 7 _ rfl,h 8 _ rfl⟩
theorem PG(c d:Nat)(V T S g:Int)(Q M D:Value)(l:Nat)(w:Zh)(b:Aa w c (GM d V Q M T S g l D))(h0:0<=g)(U:g<=1000000000):
 Calls prog 126 #[Yz c] w fun e I=>e=.returned (.tuple #[])/\∃a,Aa I c (GM d 0 Zc Zc 0 0 (g+1) a D)/\Tn [c] w I/\w.heap.size<=a/\∃i f,AV I 183 a 0 i f/\MK [] f i:=by
 have Y:=b.lt;obtain⟨W,k⟩:∃W,W=(((((w.setCell (Ze c 1) Zf).setCell (Ze c 2) Zc).setCell (Ze c 3) Zc).setCell (Ze c 4) Zf).setCell (Ze c 5) Zf).setCell (Ze c 6) (Zg (g+1)):=⟨_,rfl⟩;have R:Aa W c (GM d 0 Zc Zc 0 0 (g+1) l D):=by rw[k];exact(((((b.set 1 _).set 2 _).set 3 _).set 4 _).set 5 _).set 6 _
 have H:Tn [c] w W:=by rw[k];exact(((((AM _ _ _ _).trans (AM _ _ _ _)).trans (AM _ _ _ _)).trans (AM _ _ _ _)).trans (AM _ _ _ _)).trans (AM _ _ _ _)
 obtain⟨⟨x,n⟩,⟨y,o⟩,⟨z,p⟩,⟨A,q⟩,⟨B,r⟩,⟨C,s⟩,⟨E,t⟩,⟨F,u⟩,G,v⟩:=c9 b;have L:=Yx k;have N:Hid (Aa W c (GM d 0 Zc Zc 0 0 (g+1) l D)):=R;clear k b R;go_enter func126,ntmps126;go_upto_region 1 with fail;rw[<-L.o];clear L x y z A B C E F G n o p q r s t u v;obtain⟨⟨x,n⟩,⟨y,o⟩,⟨z,p⟩,⟨A,q⟩,⟨B,r⟩,⟨C,s⟩,⟨E,t⟩,⟨F,u⟩,G,v⟩:=c9 N.o;go_wp2_with fail
 refine(ID 0 0 0 (g+1) none none 0 0 0 [] W (.inl rfl) Yv).mono ?_;rintro e J ⟨a,i,f,rfl,m,P,O,j⟩;have K:=Aa.below N.o j;obtain⟨Z,X⟩:=K 7 _ rfl;have h:=Yx (Zb K (Zb j (Zb m (Zb P O))));clear P O m K j x y z A B C E F G n o p q r s t u v;go_wp2
 exact⟨rfl,_,results_none rfl _ _ _,rfl,a,Aa.set h.o.1 7 _,(H.trans (Tn.of h.o.2.1)).trans (AM _ _ _ _),Zm H.size h.o.2.2.1,i,f,h.o.2.2.2.1.S (Below.heap_setCell _ _ _ _ (fun e=>by have U:=h.o.2.2.1;have h2:=H.size;have e':a=c:=e;omega)),h.o.2.2.2.2⟩
theorem WK(a:Zl)(s x:Zi):x∈AK a s↔x∈a\/x=s:=by
 unfold AK;split
 .rename_i h
  simp at h;constructor
  .exact fun h=> .inl h
  .rintro(b|rfl)
   .exact b
   .exact h
 .simp
theorem PH(a:Zl):∀(o:Zl) (x:Zi),x∈a.foldl AK o↔x∈o\/x∈a:=by
 induction a with
 |nil=>intro o x;simp
 |cons y ys ih=>intro o x;rw[List.foldl_cons,ih,WK,List.mem_cons,or_assoc]
theorem ZL{a:Zl}(h:s∈a):(a++[s]).foldl AK []=a.foldl AK []:=by rw[List.foldl_append,List.foldl_cons,List.foldl_nil];have:s∈a.foldl AK []:=(PH a [] s).2 (.inr h);exact if_pos (by simpa using this)
theorem WL{a:Zl}(h:s∉a):(a++[s]).foldl AK []=a.foldl AK []++[s]:=by rw[List.foldl_append,List.foldl_cons,List.foldl_nil];have:s∉a.foldl AK []:=fun e=>h (((PH a [] s).1 e).resolve_left Yv);exact if_neg (by simpa using this)
def HS(w:Zh)(base eb sb:Nat)(xs:Zl):Prop:=
 ∃V b n c f,Aa w sb [V]/\Aa w eb [.map (some b)]/\Aj w base V (xs.foldl AK [])/\AV w 183 b n c f/\MK xs f c/\n<=xs.length/\(∀g,Af V=some g->g≠sb/\g≠eb/\g≠b)/\sb≠eb/\sb≠b/\eb≠b/\base<=sb/\base<=eb/\base<=b
theorem HS.below{i:Zh}{base g:Nat}{xs:Zl}(h:HS w base d g xs)(a:Zz w i):HS i base d g xs:=by obtain⟨V,b,n,c,f,j,k,l,e,m⟩:=h;exact⟨V,b,n,c,f,j.below a,k.below a,l.below a,e.ah a e.lt,m⟩
theorem KJ(d r p:Nat)(wd:Int)(i:Zl)(s:Zi)(w:Zh)(h:HS w d r p i)(hx:∀x∈i,(x.size:Int)=wd)(hs:(s.size:Int)=wd)(h8:wd<=8)(hl:i.length<=1000)(zE:d<=w.heap.size):
 Calls prog 203 #[.string s,Yz r,Yz p] w fun e w'=>(∃v,e=.returned v)/\HS w' d r p (i++[s])/\Below d w w':=by
 obtain⟨V,b,n,c,f,h1,h2,h3,h4,h5,yE,hV,m,l,o,G,T,zR⟩:=h;obtain⟨Q,hn,zS,zT,zU⟩:=h5.get (keyL s);obtain⟨A,C,rfl,_⟩:=h3.row;have HI:Hid (0<Q↔s∈i):=zU.trans (PE hx hs h8);have hlen:(i.foldl AK []).length<=100000000:=by have:=Gr i [];simp at this;omega
 have y:=Yx (Zb h1 (Zb h2 (Zb h3 (Zb h4 h5))));clear h1 h2 h3 h4 h5 zU hx;go_enter func203,ntmps203;go_wp2_with fail;refine(Fy s w).mono ?_;rintro e w1 ⟨rfl,U⟩;obtain⟨B,hB⟩:∃B,B=w1.heap.size:=⟨_,rfl⟩;obtain⟨W,hW⟩:∃W,W=w1.alloc (.cells (Ym (kB s)) 183):=⟨_,rfl⟩;have b1:Below w1.heap.size w1 W:=by rw[hW];exact Zy
 have M:Below w.heap.size w W:=U.trans (b1.mono U.size);have zB:w.heap.size<=B:=by rw[hB];exact U.size
 have zW:B<W.heap.size:=by rw[hW,hB];simp
 have z:Aa W B (Al s):=by rw[hW,hB];exact Aa.new w1 (Al s) 183
 have a:Hid (AV W 183 b n c f/\Aa W p [.slice A (i.foldl AK []).length C]/\Aa W r [.map (some b)]/\Aj W d (.slice A (i.foldl AK []).length C) (i.foldl AK [])/\MK i f c/\(∀g,Af (.slice A (i.foldl AK []).length C)=some g->g≠p/\g≠r/\g≠b)/\Below d w W):=⟨y.o.2.2.2.1.ah M y.o.2.2.2.1.lt,y.o.1.below M,y.o.2.1.below M,y.o.2.2.1.below M,y.o.2.2.2.2,hV,M.mono zE⟩
 have Z:=a.o.1.map.look keyed underlying137 (GZ W) (CP s);rw[hn]at Z;have e0:=(a.o.2.2.1 0 _ rfl).1;obtain⟨s0,g0⟩:=a.o.2.1 0 _ rfl;have yA:=Aa.lt a.o.2.1;have zZ:=Aa.lt a.o.2.2.1;have zY:=AV.lt a.o.1;have yG:w.heap.size<=W.heap.size:=M.size;have HW:=Yx hW;have HB:=Yx hB;have yF:p<B:=Zr (Aa.lt y.o.1) zB;have yD:r<B:=Zr (Aa.lt y.o.2.1) zB;have yC:b<B:=Zr (AV.lt y.o.2.2.2.1) zB
 have zV:Hid (∀g,Af (.slice A (i.foldl AK []).length C)=some g->g<B):=fun g j=>Zr (Aj.S y.o.2.2.1 j).2 zB;clear hW hB M b1 U y hV;unfold BU CE at Z |-;go_upto_region 1 with fail;rw[<-HW.o,<-HB.o];clear HW HB;obtain⟨y0,_⟩:=z 0 _ rfl;obtain⟨y1,_⟩:=z 1 _ rfl;obtain⟨y2,_⟩:=z 2 _ rfl;obtain⟨y3,_⟩:=z 3 _ rfl;obtain⟨y4,_⟩:=z 4 _ rfl;obtain⟨y5,_⟩:=z 5 _ rfl;obtain⟨y6,_⟩:=z 6 _ rfl;obtain⟨y7,_⟩:=z 7 _ rfl
 have HY:Hid (Aa W B (Al s)):=z;clear z;by_cases hin:0<Q
 .have hq:(Q==0)=false:=Yu
  have zH:Hid (s∈i):=HI.o.1 hin;go_upto_region 3 with fail;have P:Below W.heap.size W W.drew:=(Below.refl _ _).drew;obtain⟨st,w3,R,O,K,J,zK,L,zJ,I⟩:=(AV.ah a.o.1 P (AV.lt a.o.1)).gx keyed underlying137 Yq GZ (CP s) (Zg (Q+1));rw[hn]at O K J;unfold goInt at O zK;unfold BU CE at O K J;have u:W.grownBy R (some b):=(Aq _ P).trans I
  have HF:Hid (HS R d r p (i++[s])/\Below d w R):=by
   refine⟨⟨.slice A (i.foldl AK []).length C,b,n+1,_,_,Aa.bz a.o.2.1 u (fun e=>l e.symm),Aa.bz a.o.2.2.1 u (fun e=>o e.symm),?_,L,MK.snoc a.o.2.2.2.2.1 s zS zT,Yu,a.o.2.2.2.2.2.1,m,l,o,G,T,zR⟩,a.o.2.2.2.2.2.2.trans ((Below.refl _ _).grown u Yw (fun q e=>by cases e;omega))⟩
   have H:=Aj.stays a.o.2.2.2.1 u.size (fun g j=>u.block g (Aj.S a.o.2.2.2.1 j).2 (fun e=>(a.o.2.2.2.2.2.1 g j).2.2 (Option.some.inj e)));rw[ZL zH.o];exact H
  clear L zJ I u a P Z
  go_region
  all_goals
   go_wp2
   go_end0
   exact⟨⟨_,rfl⟩,HF.o.1,HF.o.2⟩
 .have hz:Q=0:=Yw
  have hq:(Q==0)=true:=by simpa using hz
  have zH:Hid (s∉i):=fun e=>hin (HI.o.2 e);obtain⟨V',S,hr,zC,Y,zI⟩:=IN (W.alloc (.cells #[.string s] 9)) d (.slice A (i.foldl AK []).length C) (i.foldl AK []) (a.o.2.2.2.1.below (Zy)) ⟨W.heap.size,0,none⟩ 1 s (by simp[go_sem]) hlen Yu 22;obtain⟨D,E,rfl,_⟩:=zC.row;simp only[List.length_append,List.length_cons,List.length_nil,Nat.zero_add]at hr zC zI
  have zA:(W.alloc (.cells #[.string s] 9)).heap.size=W.heap.size+1:=Yv
  have bA:Below W.heap.size W (W.alloc (.cells #[.string s] 9)):=Zy;have gg:∀k,k<W.heap.size->(∀g,Af (.slice A (i.foldl AK []).length C)=some g->g≠k)->S.heap[k]?=W.heap[k]?:=fun k hk j=>(Y.block k Yw (fun e=>j k e.symm rfl)).trans (bA.block k hk);have zF:Aa S p [.slice A (i.foldl AK []).length C]:=Aa.same a.o.2.1 (gg p yA (fun g j=>(a.o.2.2.2.2.2.1 g j).1))
  have zM:Aa S r [.map (some b)]:=Aa.same a.o.2.2.1 (gg r zZ (fun g j=>(a.o.2.2.2.2.2.1 g j).2.1));have zO:Aa S B (Al s):=Aa.same HY.o (gg B zW (fun g j=>Nat.ne_of_lt (zV.o g j)));have zP:AV S 183 b n c f:=AV.S a.o.1 (gg b zY (fun g j=>(a.o.2.2.2.2.2.1 g j).2.2));have F:∀g,Af (.slice D ((i.foldl AK []).length+1) E)=some g->g≠p/\g≠r/\g≠b:=fun g j=>by
   rcases zI with h'|h'
   .exact a.o.2.2.2.2.2.1 g (h'▸j)
   .rw[h',zA]at j;cases j;exact⟨Yw,Yw,Yw⟩
  obtain⟨X,N⟩:∃X,X=S.setCell (Ze p 0) (.slice D ((i.foldl AK []).length+1) E):=⟨_,rfl⟩;have yH:=Y.size;have bX:Below d w X:=by rw[N];exact(a.o.2.2.2.2.2.2.trans ((bA.mono Yw).grown Y Yw (fun k e=>(Aj.S a.o.2.2.2.1 e).1))).setCell (by simpa using G) _
  have oX:∀k,k≠p->X.heap[k]?=S.heap[k]?:=fun k hk=>by rw[N];exact Below.heap_setCell _ _ _ _ hk
  have zX:W.heap.size+1<=X.heap.size:=by rw[N];simp;omega
  have zG:Hid (AV X 183 b n c f/\Aa X p [.slice D ((i.foldl AK []).length+1) E]/\Aa X r [.map (some b)]/\Aj X d (.slice D ((i.foldl AK []).length+1) E) (i.foldl AK []++[s])/\MK i f c/\(∀g,Af (.slice D ((i.foldl AK []).length+1) E)=some g->g≠p/\g≠r/\g≠b)/\Below d w X):=
   ⟨AV.S zP (oX b (fun e=>l e.symm)),by rw[N];exact zF.set 0 _,zM.same (oX r (fun e=>m e.symm)),zC.stays (by rw[N];simp) (fun g j=>oX g (F g j).1),a.o.2.2.2.2.1,F,bX⟩
  have t:Aa X B (Al s):=zO.same (oX B Yw);have yB:=(zG.o.2.2.1 0 _ rfl).1;obtain⟨s5,g5⟩:=zF 0 _ rfl;obtain⟨z0,_⟩:=t 0 _ rfl;obtain⟨z1,_⟩:=t 1 _ rfl;obtain⟨z2,_⟩:=t 2 _ rfl;obtain⟨z3,_⟩:=t 3 _ rfl;obtain⟨z4,_⟩:=t 4 _ rfl;obtain⟨z5,_⟩:=t 5 _ rfl;obtain⟨z6,_⟩:=t 6 _ rfl;obtain⟨z7,_⟩:=t 7 _ rfl;have zN:=Yx N;clear N oX bX t zF zM zO zP F zC zI gg bA Y zA;go_wp2_with (first
   |(at_builtin;refine wpList_append_run rfl _ _ 22 22 rfl rfl rfl hr ?_)
   |go_in)
  clear y0 y1 y2 y3 y4 y5 y6 y7 hr;go_upto_region 3 with fail;rw[<-zN.o];clear zN a;have a:=zG;clear zG s0 g0 s5 g5 e0 hz hq hin;have P:Below X.heap.size X X.drew:=(Below.refl _ _).drew;obtain⟨st,w3,R,O,K,J,zK,L,zJ,I⟩:=(AV.ah a.o.1 P (AV.lt a.o.1)).gx keyed underlying137 Yq GZ (CP s) (Zg (Q+1));rw[hn]at O K J;unfold goInt at O zK;unfold BU CE at O K J
  have u:X.grownBy R (some b):=(Aq _ P).trans I;have HF:Hid (HS R d r p (i++[s])/\Below d w R):=by
   refine⟨⟨.slice D ((i.foldl AK []).length+1) E,b,n+1,_,_,Aa.bz a.o.2.1 u (fun e=>l e.symm),Aa.bz a.o.2.2.1 u (fun e=>o e.symm),?_,L,MK.snoc a.o.2.2.2.2.1 s zS zT,Yu,a.o.2.2.2.2.2.1,m,l,o,G,T,zR⟩,a.o.2.2.2.2.2.2.trans ((Below.refl _ _).grown u Yw (fun q e=>by cases e;omega))⟩
   have H:=Aj.stays a.o.2.2.2.1 u.size (fun g j=>u.block g (Aj.S a.o.2.2.2.1 j).2 (fun e=>(a.o.2.2.2.2.2.1 g j).2.2 (Option.some.inj e)));rw[WL zH.o];exact H
  clear L zJ I u a P Z
  go_region
  all_goals
   go_wp2
   go_end0
   exact⟨⟨_,rfl⟩,HF.o.1,HF.o.2⟩
end Go.Proofs.YtcankpdbabaacaaGreatDoor
