import Derived.Test.YtoglnpagihdhpaaGreatDoorX30
set_option maxRecDepth 100000
set_option maxHeartbeats 16000000
namespace Go.Proofs.YtoglnpagihdhpaaGreatDoor
open ChangeShapes WideShapes ChangeAt RowKit _root_.Go.Proofs.Tryz
variable{v:Vd}{lo d b n:Nat}{a:Va}{D P L k:Value}{u:UR}{w X:Zh}
def oC(v:Vd)(a:Va)(D:Value)(n:Nat)(u:UR):Zj:=Jm 0 (Bm (AW v u) (.slice a.X v.ss.length a.sc) (.slice a.V (AW v u).D.length a.W) (.slice a.Y u.A.length a.j) (.slice a.O v.ps.length a.U) (.slice a.M v.ls.length a.T) (.slice a.g u.G.length a.qc) (.slice a.i u.ms.length a.mc)) n D
structure Fj (v:Vd) (lo ob:Nat) (a:Va) (b:Nat) (zs:List (Kd×Value)) (D:Value) (n:Nat) (u:UR) (w:Zh):Prop where
 box:Aa w ob (oC v a D n u)
 rr:RR w (ob::((Ai (.slice a.V (AW v u).D.length a.W)).toList++(Ai D).toList)) a b zs (AW v u)
 uo:Aj w lo (.slice a.V (AW v u).D.length a.W) (AW v u).D
 I:Aj w lo D u.ds
 ud:∀g,Ai (.slice a.V (AW v u).D.length a.W)=some g->g≠ob/\Ai D≠some g
 dd:∀g,Ai D=some g->g≠ob
 iq:lo<=ob
theorem Fj.below{f:List (Kd×Value)}{e:Zh}(h:Fj v lo d a b f D n u w)(c:Zz w e):Fj v lo d a b f D n u e:=
 ⟨Aa.below (v:=Ze) h.box c,h.rr.K (U:=[]) (Tn.of c) Yu,h.uo.below c,h.I.below c,h.ud,h.dd,h.iq⟩
theorem Fj.next{l:Nat}{J:List (Kd×Value)}{r:UR}{F o:Zh}(h:Fj v lo l a b J D n u w){e:Ending}{qs ms:Zl}{ks:List Kd}{ps:List Pd}{ls:List Ld}{wd now m i ph Q K ro:Int}{q tc E B S:Nat}{z:List (Kd×Value)}{C A R:Zk}(I:LV w F e wd now m i P L ks ps ls ph Q K ro qs ms b a.g a.i J r q tc z C A R E B S)(H:Zz F o){U':Value}{ta:Zk}{tn j:Nat}{V:List Nat}(Z:Tn V o X)(hV:∀g∈V,g=l\/Ai (.slice a.V (AW v u).D.length a.W)=some g\/Ai D=some g)(N:U'=.slice ta tn j)(G:Aj X lo U' (AW v (u.and r)).D)(Y:Aj X lo k (u.ds++r.ds))(y:∀g,Ai U'=some g->Ai (.slice a.V (AW v u).D.length a.W)=some g\/o.heap.size<=g)(x:∀g,Ai k=some g->Ai D=some g\/o.heap.size<=g)(M:∀g,Ai U'=some g->Ai k≠some g)(s:Aa X l (oC v {Ul a q tc C A E B with V:=ta,W:=j} k (n+1) (u.and r))):Fj v lo l {Ul a q tc C A E B with V:=ta,W:=j} q z k (n+1) (u.and r) X:=by
 subst N;obtain⟨_,_,T,_⟩:=G.row;cases T;have t:=I.low;have O:∀g∈l::((Ai (.slice a.V (AW v u).D.length a.W)).toList++(Ai D).toList),g<w.heap.size:=fun g c=>by
  simp only[List.mem_cons,List.mem_append,Option.mem_toList]at c;rcases c with rfl|c|c
  .exact h.box.lt
  .exact(h.uo.Z c).2
  .exact(h.I.Z c).2
 have hz:w.heap.size<=o.heap.size:=Zm t.size H.size;have zA:=h.box.lt;have W:=(((h.rr.unit O I).K (U:=[]) (Tn.of H) Yu).clear (V':=(l::((Ai (.slice a.V (AW v u).D.length a.W)).toList++(Ai D).toList))++((Ai (.slice ta (AW v (u.and r)).D.length j)).toList++(Ai k).toList)) (fun g c=>by
  simp only[List.mem_append,Option.mem_toList]at c;rcases c with c|c|c
  .exact .inl c
  .rcases y g c with d|d
   .exact .inl (by simp only[List.mem_cons,List.mem_append,Option.mem_toList];exact .inr (.inl d))
   .exact .inr d
  .rcases x g c with d|d
   .exact .inl (by simp only[List.mem_cons,List.mem_append,Option.mem_toList];exact .inr (.inr d))
   .exact .inr d)).K Z (fun g c=> .inl (by
  have d:=hV g c;simp only[List.mem_cons,List.mem_append,Option.mem_toList];exact .inl d))
 have f:=W.clear (V':=l::((Ai (.slice ta (AW v (u.and r)).D.length j)).toList++(Ai k).toList)) (fun g c=> .inl (by
  simp only[List.mem_cons,List.mem_append,Option.mem_toList]at c |-;rcases c with d|d
  .exact .inl (.inl d)
  .exact .inr d))
 refine⟨s,⟨f.Y,f.zk,f.z,f.s,f.p,f.l,f.q,f.m,f.cs,f.cp,f.cl,f.cq,f.cm,f.lt,f.ap⟩,G,Y,fun g c=>⟨?_,M g c⟩,fun g c=> ?_,h.iq⟩
 .rcases y g c with d|d
  .exact(h.ud g d).1
  .omega
 .rcases x g c with d|d
  .exact h.dd g d
  .omega
theorem Fj.start{i:List (Kd×Value)}{m:Zj}(h:AD w d (.slice a.X v.ss.length a.sc) (.slice a.V v.D.length a.W) (.slice a.Y v.A.length a.j) (.slice a.O v.ps.length a.U) (.slice a.M v.ls.length a.T) (.slice a.g v.G.length a.qc) (.slice a.i v.ms.length a.mc) m v)(l:d<=w.heap.size)(k:RR w (Ai (.slice a.V v.D.length a.W)).toList a b i v):
 Fj v d w.heap.size a b i Zb 0 (EH v) ((w.alloc (.cells (z20 0).toArray 169)).setCells w.heap.size 0 (oC v a Zb 0 (EH v)))/\Zz w ((w.alloc (.cells (z20 0).toArray 169)).setCells w.heap.size 0 (oC v a Zb 0 (EH v))):=by
 obtain⟨j,f,_⟩:=boxed (X:=w) (cs:=oC v a Zb 0 (EH v)) (z:=z20 0) (T:=169) rfl;refine⟨⟨j,?_,?_,Aj.nil _ _,fun g c=>⟨?_,fun e=>by cases e⟩,(fun g e=>by cases e),l⟩,f⟩
 .rw[SE];refine(k.clear (fun g c=> ?_)).K (U:=[]) (Tn.of f) Yu;simp only[List.mem_cons,List.mem_append,Option.mem_toList]at c;rcases c with rfl|c|c
  .exact .inr (Zx)
  .exact .inl (by simpa using c)
  .cases c
 .rw[SE];exact h.u.below f
 .rw[SE]at c;have:=(h.u.Z c).2;omega
def Lq(ob:Nat)(w:Zh):Nat:=match w.cell? (Zd ob 18)with
 |some v=>(intOf v).toNat
 |none=>0
theorem Fj.jc{c:Nat}{d:List (Kd×Value)}(h:Fj v lo c a b d D n u w):Lq c w=n:=by unfold Lq;rw[(h.box 18 _ rfl).1];simp[intOf]
theorem Uo{d:Zh}{f:Nat}{V:List (Kd×Value)}(h:Fj v lo f a b V D n u X){S U T Q M:Value}{E:Zj}(o:AD d X.heap.size S U T P L Q M E (AW v u))(A:Zz X d)(W:w.heap.size+1<lo)(q:Aa d (w.heap.size+1) (z20 0)/\Zz w d){c C:Zj}(l:c=Bm (AW v u) S U T P L Q M)(z:C=Jm 0 c n D):
 (c.length=17/\(∀x∈c,x.oneCell'=true)/\d.there f 1 c.toArray.size)/\Aa (d.setCells f 1 c.toArray.toList) f C/\(C.length=20/\(∀x∈C,x.oneCell'=true)/\(d.setCells f 1 c.toArray.toList).there (w.heap.size+1) 0 C.toArray.size)/\Aa ((d.setCells f 1 c.toArray.toList).setCells (w.heap.size+1) 0 C.toArray.toList) (w.heap.size+1) C/\
   SwA v (some (u,n)) w.heap.size ((d.setCells f 1 c.toArray.toList).setCells (w.heap.size+1) 0 C.toArray.toList) C/\Zz w ((d.setCells f 1 c.toArray.toList).setCells (w.heap.size+1) 0 C.toArray.toList):=by
 have I:=h.iq;have J:=h.box.lt;have Z:=A.size;have r:c.length=17:=by rw[l];rfl
 have B:∀x∈c,x.oneCell'=true:=by obtain⟨Y,e,_⟩:=o.iz;rw[l,e];simp[Bm,Value.oneCell']
 have G:D.oneCell'=true:=by obtain⟨_,_,e,_⟩:=h.I.row;rw[e];rfl
 have t:Aa d f (oC v a D n u):=Aa.below (v:=Ze) h.box A;have k:C.length=20/\∀x∈C,x.oneCell'=true:=by
  rw[z];refine⟨by simp[Jm,r],fun x s=> ?_⟩;simp only[Jm,List.mem_cons,List.mem_append,List.not_mem_nil,or_false]at s;rcases s with rfl|s|rfl|rfl
  .rfl
  .exact B x s
  .rfl
  .exact G
 have F:=AI f c 1 d;have H:Aa (d.setCells f 1 c) f C:=by rw[z];exact Aa.fg c [Ze] (Bm (AW v u) (.slice a.X v.ss.length a.sc) (.slice a.V (AW v u).D.length a.W) (.slice a.Y u.A.length a.j) (.slice a.O v.ps.length a.U) (.slice a.M v.ls.length a.T) (.slice a.g u.G.length a.qc) (.slice a.i u.ms.length a.mc)) [Zg n,D] d t (by rw[r];rfl)
 have y:Aa (d.setCells f 1 c) (w.heap.size+1) (z20 0):=Aa.same q.1 (F.block _ q.1.lt Yt);have R:=AI (w.heap.size+1) C 0 (d.setCells f 1 c);have m:Tn [f,w.heap.size+1] d ((d.setCells f 1 c).setCells (w.heap.size+1) 0 C):=(F.mono Yu).trans (R.mono Yu);have O:=q.2.size
 refine⟨⟨r,B,?_⟩,H,⟨k.1,k.2,?_⟩,y.au C (by rw[k.1];rfl),⟨S,U,T,P,L,Q,M,E,D,by rw[z,l],(o.stays m (fun g i j=> ?_)).mono Yv,((h.I.below A).K m (fun g i j=> ?_)).mono Yv,fun g i j=> ?_⟩,q.2.trans (m.below O (fun g i=> ?_))⟩
 .rw[show c.toArray.size=17 from by rw[List.size_toArray];exact r];exact Aa.fc [Ze] (Bm (AW v u) (.slice a.X v.ss.length a.sc) (.slice a.V (AW v u).D.length a.W) (.slice a.Y u.A.length a.j) (.slice a.O v.ps.length a.U) (.slice a.M v.ls.length a.T) (.slice a.g u.G.length a.qc) (.slice a.i u.ms.length a.mc)) [Zg n,D] t
 .rw[show C.toArray.size=20 from by rw[List.size_toArray];exact k.1];exact y.there
 .have:=o.lo g j;simp at i;omega
 .have K:=h.dd g i;have N:=(h.I.Z i).1;simp at j;omega
 .have K:=o.lo g j;have N:=(h.I.Z i).2;omega
 .simp at i;omega
theorem Aag{W:Zh}{a:Nat}{s t c2 c3 c4 A c6 c7 B C u v Ww w x IA y PE z b c d e f g i j l m n o q r:Value}(h:Aa X a [s,t,c2,c3,c4,A,c6,c7,B,C,u,v,Ww,w,x,IA,y,PE,z,b])(D:W=(((((((((((((X.setCell (Zd a 5) c).setCell (Zd a 6) d).setCell (Zd a 7) e).setCell (Zd a 8) f).setCell (Zd a 9) g).setCell (Zd a 10) i).setCell (Zd a 11) j).setCell (Zd a 12) k).setCell (Zd a 13) l).setCell (Zd a 14) m).setCell (Zd a 15) n).setCell (Zd a 16) o).setCell (Zd a 17) q).setCell (Zd a 18) r):
 Aa W a [s,t,c2,c3,c4,c,d,e,f,g,i,j,k,l,m,n,o,q,r,b]/\Tn [a] X W:=by
 subst D
 exact⟨(((((((((((((h.set 5 c).set 6 d).set 7 e).set 8 f).set 9 g).set 10 i).set 11 j).set 12 k).set 13 l).set 14 m).set 15 n).set 16 o).set 17 q).set 18 r,(((((((((((((Bl _ _ _ _).trans (Bl _ _ _ _)).trans (Bl _ _ _ _)).trans (Bl _ _ _ _)).trans (Bl _ _ _ _)).trans (Bl _ _ _ _)).trans (Bl _ _ _ _)).trans (Bl _ _ _ _)).trans (Bl _ _ _ _)).trans (Bl _ _ _ _)).trans (Bl _ _ _ _)).trans (Bl _ _ _ _)).trans (Bl _ _ _ _)).trans (Bl _ _ _ _)⟩
theorem SG(v:Vd)(a:Va)(A:Int)(w:Zh)(hr:CQ w w.heap.size a v)(vY:VJ a v)(hf:Ge v)(vZ:Cy v->Kh w a v):
 Calls prog 94 #[.agg #[Zg v.wd,Zg v.lim,.slice a.X v.ss.length a.sc,.slice a.V v.D.length a.W,Zg v.S,Zg v.E,Zg v.F,Zg v.C,.slice a.Y v.A.length a.j,.slice a.O v.ps.length a.U,.slice a.M v.ls.length a.T,Zg v.L,.slice a.g v.G.length a.qc,.slice a.i v.ms.length a.mc,Zg v.Q,Zg v.P,Zg v.ro],Zg A] w (SwP v A w):=by
 obtain⟨W,hW⟩:=Af ((w.alloc (.cells #[Zg v.wd,Zg v.lim,.slice a.X v.ss.length a.sc,.slice a.V v.D.length a.W,Zg v.S,Zg v.E,Zg v.F,Zg v.C,.slice a.Y v.A.length a.j,.slice a.O v.ps.length a.U,.slice a.M v.ls.length a.T,Zg v.L,.slice a.g v.G.length a.qc,.slice a.i v.ms.length a.mc,Zg v.Q,Zg v.P,Zg v.ro] 51)).alloc (.cells #[Ze,Ze,Ze,Zb,Zb,Ze,Ze,Ze,Ze,Zb,Zb,Zb,Ze,Zb,Zb,Ze,Ze,Ze,Ze,Zb] 169))
 have bW:=(Bb hW).1;have zW:=(Bb hW).2.1;have xV:=(Bb hW).2.2.1;have xZ:Aa W (w.heap.size+1) (z20 0):=(Bb (k:=z20 0) hW).2.2.2
 have I:Hid (∀X,Zz W X->Aa X w.heap.size [Zg v.wd,Zg v.lim,.slice a.X v.ss.length a.sc,.slice a.V v.D.length a.W,Zg v.S,Zg v.E,Zg v.F,Zg v.C,.slice a.Y v.A.length a.j,.slice a.O v.ps.length a.U,.slice a.M v.ls.length a.T,Zg v.L,.slice a.g v.G.length a.qc,.slice a.i v.ms.length a.mc,Zg v.Q,Zg v.P,Zg v.ro]/\Aa X (w.heap.size+1) (z20 0)/\Zz w X):=fun X hX=>⟨Aa.below xV hX,Aa.below (v:=Ze) xZ hX,bW.trans (hX.mono bW.size)⟩
 have HV:=Yw (Ew v a W (hr.N bW) vY hf);have yS:=Yw vZ;have HW:=Yw hW;clear hW xV xZ hr vY vZ;go_enter func94,ntmps94;go_upto_region 1 with fail;rw[<-HW.o];clear HW
 go_wp2_with (refine wpList_load_mid rfl 51 _ rfl w.heap.size 0 rfl [Zg v.wd,Zg v.lim,.slice a.X v.ss.length a.sc,.slice a.V v.D.length a.W,Zg v.S,Zg v.E,Zg v.F,Zg v.C,.slice a.Y v.A.length a.j,.slice a.O v.ps.length a.U,.slice a.M v.ls.length a.T,Zg v.L,.slice a.g v.G.length a.qc,.slice a.i v.ms.length a.mc,Zg v.Q,Zg v.P,Zg v.ro] _ (I.o W Ae).1.range underlying51 rfl (by kernel_rfl) ?_)
 refine HV.Ah ?_;rintro e w1 ⟨o,rfl,ho,yE⟩;clear HV;cases o with
 |false=>
  have xE:Hid (¬(Cy v/\0<=A/\A<=10000)):=fun h=>by have:=ho.2 h.1;cases this
  clear ho yS;have E:=Yw (Mu (X:=w1) (I.o w1 yE).2);clear I;go_wp2_with (refine wpList_store_mid rfl 169 _ _ rfl (w.heap.size+1) 0 #[Zg 1,Ze,Ze,Zb,Zb,Ze,Ze,Ze,Ze,Zb,Zb,Zb,Ze,Zb,Zb,Ze,Ze,Ze,Ze,Zb] rfl rfl E.o.1 (by kernel_rfl) E.o.2.1 ?_);change bodyPost _ _ _ _ _ (w1.setCells (w.heap.size+1) 0 (z20 1))
  refine bodyPost_ret (AU results94 _ _ (w.heap.size+1) (z20 1) _ rfl E.o.2.2.1.range underlying169 rfl (by kernel_rfl)) rfl ?_;exact⟨none,z20 1,.inl ⟨xE.o,rfl⟩,rfl,rfl,E.o.2.2.2⟩
 |true=>
  have yF:Hid (Cy v):=ho.1 rfl;clear ho;go_wp2_with fail;refine Calls.mono (Fx A 0 10000 w1) ?_;rintro e x ⟨rfl,sE⟩;subst sE;by_cases hun:0<=A/\A<=10000
  .rw[decide_eq_true hun];obtain⟨N,rfl⟩:∃N:Nat,A=N:=⟨A.toNat,by omega⟩;have hN:N<=10000:=by omega
   obtain⟨r,yM⟩:=yF.o;have vJ:Hid (Kh x a v):=(yS.o yF.o).below (I.o x yE).2.2;have zN:Hid (∀o,ClTo v.C v.ps v.ls (4000 -(v.ss++v.D).length) N 0 (EH v) o->Ep v N o):=fun o h=> .inr ⟨r,yM,hun,by rw[Int.toNat_natCast];exact h⟩;have vN:Hid (ID v.wd v.C v.ps v.ls (4000 -(v.ss++v.D).length) (EH v)):=Kg yM;have yC:Hid ((v.ss++v.D).length<=4000):=EG yM.log;have tL:Hid (v.wd=v.S):=yM.same.1.1
   have tF:=yE.size
   replace I:Hid (∀X,Zz x X->Aa X w.heap.size [Zg v.wd,Zg v.lim,.slice a.X v.ss.length a.sc,.slice a.V v.D.length a.W,Zg v.S,Zg v.E,Zg v.F,Zg v.C,.slice a.Y v.A.length a.j,.slice a.O v.ps.length a.U,.slice a.M v.ls.length a.T,Zg v.L,.slice a.g v.G.length a.qc,.slice a.i v.ms.length a.mc,Zg v.Q,Zg v.P,Zg v.ro]/\Aa X (w.heap.size+1) (z20 0)/\Zz w X):=fun X hX=>I.o X (yE.trans (hX.mono tF))
   have vW:Hid (w.heap.size+2<=x.heap.size):=by show _<=_;omega
   clear yS yF hun yM yE tF bW zW
   go_wp2_with (refine wpList_load_mid rfl 51 _ rfl w.heap.size 0 rfl [Zg v.wd,Zg v.lim,.slice a.X v.ss.length a.sc,.slice a.V v.D.length a.W,Zg v.S,Zg v.E,Zg v.F,Zg v.C,.slice a.Y v.A.length a.j,.slice a.O v.ps.length a.U,.slice a.M v.ls.length a.T,Zg v.L,.slice a.g v.G.length a.qc,.slice a.i v.ms.length a.mc,Zg v.Q,Zg v.P,Zg v.ro] _ (I.o x Ae).1.range underlying51 rfl (by kernel_rfl) ?_)
   refine Calls.mono (FP v a x vJ.o) ?_;rintro e d ⟨S,U,T,P,L,Q,M,rs,rfl,hA,hv,yL⟩;obtain⟨c,b,zs,rfl,rfl,rfl,rfl,rfl,rfl,rfl,hR⟩:=RR.start hA hv;obtain⟨vs,zG⟩:=Af (Bm v (.slice c.X v.ss.length c.sc) (.slice c.V v.D.length c.W) (.slice c.Y v.A.length c.j) (.slice c.O v.ps.length c.U) (.slice c.M v.ls.length c.T) (.slice c.g v.G.length c.qc) (.slice c.i v.ms.length c.mc))
   have tE:vs.length=17:=by rw[zG];rfl
   obtain⟨D0,yX⟩:=Af (Jm 0 vs 0 Zb);have eD:oC v c Zb 0 (EH v)=D0:=by rw[yX,zG];unfold oC;rw[SE];rfl
   have xL:D0.length=20/\∀u∈D0,u.oneCell'=true:=by rw[yX,zG];exact⟨rfl,by simp[Jm,Bm,Value.oneCell']⟩
   have vI:Hid (prog.built 169 [(1,.agg vs.toArray)]=some D0.toArray):=by show _=some D0.toArray;rw[yX];exact VV tE
   have yN:=Fj.start hA yL.size hR;rw[eD]at yN;obtain⟨W4,xM⟩:=Af ((d.alloc (.cells #[Ze,Ze,Ze,Zb,Zb,Ze,Ze,Ze,Ze,Zb,Zb,Zb,Ze,Zb,Zb,Ze,Ze,Ze,Ze,Zb] 169)).setCells d.heap.size 0 D0.toArray.toList);have e4:W4=(d.alloc (.cells (z20 0).toArray 169)).setCells d.heap.size 0 D0:=xM;rw[<-e4]at yN
   have yU:Hid ((d.alloc (.cells #[Ze,Ze,Ze,Zb,Zb,Ze,Ze,Ze,Ze,Zb,Zb,Zb,Ze,Zb,Zb,Ze,Ze,Ze,Ze,Zb] 169)).there d.heap.size 0 D0.toArray.size/\D0.length=20/\∀u∈D0,u.oneCell'=true):=⟨by rw[show D0.toArray.size=20 from by rw[List.size_toArray];exact xL.1];exact(Aa.new d (z20 0) 169).there,xL⟩;have xF:Hid (Fj v x.heap.size d.heap.size c b zs Zb 0 (EH v) W4/\Zz x W4):=⟨yN.1,yL.trans (yN.2.mono yL.size)⟩
   have tM:Hid (x.heap.size<=d.heap.size):=yL.size;have vT:=Yw xM;rw[show(Bm v (.slice c.X v.ss.length c.sc) (.slice c.V v.D.length c.W) (.slice c.Y v.A.length c.j) (.slice c.O v.ps.length c.U) (.slice c.M v.ls.length c.T) (.slice c.g v.G.length c.qc) (.slice c.i v.ms.length c.mc))=vs from zG.symm];clear yN xM e4 eD yX xL zG tE hA hv hR yL vJ;go_wp2_with (first
    |refine Gy rfl 169 _ rfl [(1,.agg vs.toArray)] (by kernel_rfl) D0.toArray vI.o ?_
    |refine wpList_store_mid rfl 169 _ _ rfl d.heap.size 0 D0.toArray rfl rfl yU.o.1 (by rw[List.size_toArray,yU.o.2.1];kernel_rfl) (all_oneCell_toArray yU.o.2.2) ?_)
   rw[<-vT.o];clear vT vI yU;simp only[Act.put]
   go_loopw [] (fun wr=>∃c b zs D n u,Hid (Fj v x.heap.size d.heap.size c b zs D n u wr/\ID v.wd v.C v.ps v.ls (4000 -(v.ss++v.D).length) u/\(∀o,ClTo v.C v.ps v.ls (4000 -(v.ss++v.D).length) N n u o->ClTo v.C v.ps v.ls (4000 -(v.ss++v.D).length) N 0 (EH v) o)/\n<=N/\Zz x wr)) (fun wr=>N -Lq d.heap.size wr)
   case atStart=>exact⟨c,b,zs,_,0,EH v,xF.o.1,vN.o,fun o h=>h,Nat.zero_le _,xF.o.2⟩
   case round=>
    clear xF vN;clear c b zs;obtain⟨c,b,zs,D,n,u,B⟩:=hrel;have vF:(AW v u).D.length=v.D.length+u.ds.length:=by simp[AW]
    obtain⟨m,xP⟩:=Af ((AW v u).D.length);have z:Hid (m=(AW v u).D.length/\m=v.D.length+u.ds.length):=⟨xP,by omega⟩
    have K:Hid (∀X,Zz wr X->Aa X d.heap.size [Ze,Zg v.wd,Zg v.lim,.slice c.X v.ss.length c.sc,.slice c.V m c.W,Zg v.S,Zg v.E,Zg v.F,Zg v.C,Yz b u.A.length c.j,.slice c.O v.ps.length c.U,.slice c.M v.ls.length c.T,Zg u.L,.slice c.g u.G.length c.qc,.slice c.i u.ms.length c.mc,Zg u.Q,Zg u.P,Zg u.ro,Zg n,D]):=fun X hX=>by have h:=(B.o.1.below hX).box;unfold oC at h;rw[<-xP,B.o.1.rr.Y]at h;exact h
    clear xP vF;have O:Hid ((AW v u).ss.length<=1048576/\(AW v u).D.length<=1048576/\(AW v u).G.length<=100000000/\(AW v u).ms.length<=100000000/\(AW v u).A.length<=600/\(AW v u).ps.length<=100/\(AW v u).ls.length<=200/\∀k∈(AW v u).A,k.B.length<=30):=by have f:=yC.o;have G:=B.o.2.1;have h3:=G.dl;have h4:=G.ql;have h5:=G.ml;rw[List.length_append]at f;have h6:=z.o;exact⟨by show v.ss.length<=_;omega,by omega,by show u.G.length<=_;omega,by show u.ms.length<=_;omega,by show u.A.length<=_;omega,G.ok.pl,G.ok.ll,fun k hk=>(G.ok.B k hk).1⟩
    have rF:d.heap.size<wr.heap.size:=Aa.lt B.o.1.box;have rE:=B.o.2.2.2.1;obtain⟨sK,_⟩:=K.o wr Ae 18 _ rfl;by_cases hlt:n<N
    .have rB:(n:Int)<N:=by omega
     obtain⟨xQ,_⟩:=K.o wr Ae 12 _ rfl;obtain⟨xR,_⟩:=K.o wr Ae 13 _ rfl;obtain⟨xS,_⟩:=K.o wr Ae 14 _ rfl;obtain⟨xT,_⟩:=K.o wr Ae 15 _ rfl;obtain⟨xU,_⟩:=K.o wr Ae 16 _ rfl;obtain⟨xW,_⟩:=K.o wr Ae 17 _ rfl
     obtain⟨W5,yY⟩:=Af (wr.alloc (.cells #[Zg u.L,.slice c.g u.G.length c.qc,.slice c.i u.ms.length c.mc,Zg u.Q,Zg u.P,Zg u.ro] 49));have b5:=(AB yY).1;have y5:=((AB yY).2.2 5 _ rfl).1;have zB:Hid (Zz wr W5/\Zz x W5):=⟨b5,B.o.2.2.2.2.trans (b5.mono B.o.2.2.2.2.size)⟩;have vU:=Yw yY;clear yY b5;go_upto_region 6 with fail;rw[<-vU.o];clear vU xQ xR xS xT xU xW sK;have yJ:=B.o.2.1.ok.r1
     by_cases hro:u.ro=1000000000
     .have vE:(1000000000:Int)<=u.ro:=by omega
      have R:Hid (Ep v N none):=zN.o _ (B.o.2.2.1 _ (.old n u hlt hro));clear zN yJ z K B;have E:=Yw (Mu (X:=W5) (I.o W5 zB.o.2).2);clear I;go_wp2_with (refine wpList_store_mid rfl 169 _ _ rfl (w.heap.size+1) 0 #[Zg 1,Ze,Ze,Zb,Zb,Ze,Ze,Ze,Ze,Zb,Zb,Zb,Ze,Zb,Zb,Ze,Ze,Ze,Ze,Zb] rfl rfl E.o.1 (by kernel_rfl) E.o.2.1 ?_);change bodyPost _ _ _ _ _ (W5.setCells (w.heap.size+1) 0 (z20 1))
      refine bodyPost_ret (AU results94 _ _ (w.heap.size+1) (z20 1) _ rfl E.o.2.2.1.range underlying169 rfl (by kernel_rfl)) rfl ?_;exact⟨none,z20 1,R.o,rfl,rfl,E.o.2.2.2⟩
     .have vE:¬(1000000000:Int)<=u.ro:=by omega
      have zO:Hid (Fj v x.heap.size d.heap.size c b zs D n u W5):=B.o.1.below zB.o.1;have zJ:=Yw zO.o.rr
      have vO:=Yw (Sp v.S v.E v.F v.C b c.j zs u.A v.ps v.ls c.O c.M c.U c.T u.L u.Q u.P u.ro c.g c.i c.qc c.mc u.G u.ms W5 zJ.o.zk zJ.o.z (zJ.o.lt b (.inl rfl)) zJ.o.p zJ.o.l zJ.o.q zJ.o.m zJ.o.cq zJ.o.cm (fun p e=>zJ.o.lt _ (.inr (.inl ⟨p,by simp[e],rfl⟩))) (fun p e=>zJ.o.lt _ (.inr (.inl ⟨p,by simp[e],rfl⟩))) (by rw[<-tL.o];exact B.o.2.1.ok) (by have:=B.o.2.1.ml;omega))
      have zE:=K.o W5 zB.o.1;obtain⟨k5,_⟩:=zE 5 _ rfl;obtain⟨k6,_⟩:=zE 6 _ rfl;obtain⟨k7,_⟩:=zE 7 _ rfl;obtain⟨k8,_⟩:=zE 8 _ rfl;obtain⟨k9,_⟩:=zE 9 _ rfl;obtain⟨sI,_⟩:=zE 10 _ rfl;obtain⟨sJ,_⟩:=zE 11 _ rfl;obtain⟨xQ,_⟩:=zE 12 _ rfl;obtain⟨xR,_⟩:=zE 13 _ rfl;obtain⟨xS,_⟩:=zE 14 _ rfl;obtain⟨xT,_⟩:=zE 15 _ rfl;obtain⟨xU,_⟩:=zE 16 _ rfl;obtain⟨xW,_⟩:=zE 17 _ rfl;clear zE zJ;go_wp2_with fail
      refine vO.Ah ?_;rintro e w6 ⟨r,b2,tc,tH,qa,ma,da,qc,mc,dc,yD⟩;clear k5 k6 k7 k8 k9 sI sJ xQ xR xS xT xU xW y5 vO;have he:=yD.e;subst he;have tD:Mr v.ps v.ls v.C u r:=yD.uto
      obtain⟨l,yZ⟩:=Af (w6.alloc (.cells #[Ze,Zg v.S,Zg v.E,Zg v.F,Zg v.C,Yz b2 r.A.length tc,.slice c.O v.ps.length c.U,.slice c.M v.ls.length c.T,Zg r.L,.slice qa r.G.length qc,.slice ma r.ms.length mc,Zg r.Q,Zg r.P,Zg r.ro,.slice da r.ds.length dc] 211));have xK:=(AB yZ).1;have x8:=(AB yZ).2.2
      have zR:Hid (Aa l w6.heap.size [Ze,Zg v.S,Zg v.E,Zg v.F,Zg v.C,Yz b2 r.A.length tc,.slice c.O v.ps.length c.U,.slice c.M v.ls.length c.T,Zg r.L,.slice qa r.G.length qc,.slice ma r.ms.length mc,Zg r.Q,Zg r.P,Zg r.ro,.slice da r.ds.length dc]):=x8;have yW:Below W5.heap.size W5 l:=yD.low.trans (xK.mono yD.low.size)
      have H:Hid (Zz W5 l/\Zz x l/\Zz wr l/\Zz w6 l):=⟨yW,zB.o.2.trans (yW.mono zB.o.2.size),zB.o.1.trans (yW.mono zB.o.1.size),xK⟩;have zA:=Yw yD;have zC:Hid (Mr v.ps v.ls v.C u r):=tD;have vV:=Yw yZ;clear yZ yD tD yW xK;go_upto_region 9 with fail;rw[<-vV.o];clear vV;obtain⟨y9,_⟩:=x8 9 _ rfl;obtain⟨sW,_⟩:=x8 10 _ rfl;clear x8;by_cases hq:23200<r.G.length
      .have tB:(23200:Int)<r.G.length:=by omega
       have R:Hid (Ep v N none):=zN.o _ (B.o.2.2.1 _ (.long n u r hlt hro zC.o (.inl hq)));clear zN yJ z K B zO zA zC zR;have E:=Yw (Mu (X:=l) (I.o l H.o.2.1).2);clear I;go_wp2_with (refine wpList_store_mid rfl 169 _ _ rfl (w.heap.size+1) 0 #[Zg 1,Ze,Ze,Zb,Zb,Ze,Ze,Ze,Ze,Zb,Zb,Zb,Ze,Zb,Zb,Ze,Ze,Ze,Ze,Zb] rfl rfl E.o.1 (by kernel_rfl) E.o.2.1 ?_)
       change bodyPost _ _ _ _ _ (l.setCells (w.heap.size+1) 0 (z20 1));refine bodyPost_ret (AU results94 _ _ (w.heap.size+1) (z20 1) _ rfl E.o.2.2.1.range underlying169 rfl (by kernel_rfl)) rfl ?_;exact⟨none,z20 1,R.o,rfl,rfl,E.o.2.2.2⟩
      .by_cases hm:600<r.ms.length
       .have tB:¬(23200:Int)<r.G.length:=by omega
        have sB:(600:Int)<r.ms.length:=by omega
        have R:Hid (Ep v N none):=zN.o _ (B.o.2.2.1 _ (.long n u r hlt hro zC.o (.inr hm)));clear zN yJ z K B zO zA zC zR;have E:=Yw (Mu (X:=l) (I.o l H.o.2.1).2);clear I;go_wp2_with (refine wpList_store_mid rfl 169 _ _ rfl (w.heap.size+1) 0 #[Zg 1,Ze,Ze,Zb,Zb,Ze,Ze,Ze,Ze,Zb,Zb,Zb,Ze,Zb,Zb,Ze,Ze,Ze,Ze,Zb] rfl rfl E.o.1 (by kernel_rfl) E.o.2.1 ?_)
        change bodyPost _ _ _ _ _ (l.setCells (w.heap.size+1) 0 (z20 1));refine bodyPost_ret (AU results94 _ _ (w.heap.size+1) (z20 1) _ rfl E.o.2.2.1.range underlying169 rfl (by kernel_rfl)) rfl ?_;exact⟨none,z20 1,R.o,rfl,rfl,E.o.2.2.2⟩
       .have tB:¬(23200:Int)<r.G.length:=by omega
        have sB:¬(600:Int)<r.ms.length:=by omega
        obtain⟨xB,_⟩:=zR.o 14 _ rfl;by_cases hds:r.ds=[]
        .have tZ:¬(0:Int)<r.ds.length:=by rw[hds];simp
         have yA:(AW v (u.and r)).D=(AW v u).D:=by simp[AW,UR.and,hds]
         have yO:(AW v (u.and r)).D.length=m:=by rw[yA];exact z.o.1.symm
         have y:Hid (Fj v x.heap.size d.heap.size c b zs D n u l):=B.o.1.below H.o.2.2.1
         have HY:Hid (Aa l d.heap.size [Ze,Zg v.wd,Zg v.lim,.slice c.X v.ss.length c.sc,.slice c.V m c.W,Zg v.S,Zg v.E,Zg v.F,Zg v.C,Yz b u.A.length c.j,.slice c.O v.ps.length c.U,.slice c.M v.ls.length c.T,Zg u.L,.slice c.g u.G.length c.qc,.slice c.i u.ms.length c.mc,Zg u.Q,Zg u.P,Zg u.ro,Zg n,D]/\Aa l w6.heap.size [Ze,Zg v.S,Zg v.E,Zg v.F,Zg v.C,Yz b2 r.A.length tc,.slice c.O v.ps.length c.U,.slice c.M v.ls.length c.T,Zg r.L,.slice qa r.G.length qc,.slice ma r.ms.length mc,Zg r.Q,Zg r.P,Zg r.ro,.slice da r.ds.length dc]):=⟨K.o l H.o.2.2.1,zR.o⟩
         have i:=HY.o
         obtain⟨W9,zY⟩:=Af ((((((((((((((l.setCell (Zd (d.heap.size) 5) (Zg v.S)).setCell (Zd (d.heap.size) 6) (Zg v.E)).setCell (Zd (d.heap.size) 7) (Zg v.F)).setCell (Zd (d.heap.size) 8) (Zg v.C)).setCell (Zd (d.heap.size) 9) (Yz b2 r.A.length tc)).setCell (Zd (d.heap.size) 10) (.slice c.O v.ps.length c.U)).setCell (Zd (d.heap.size) 11) (.slice c.M v.ls.length c.T)).setCell (Zd (d.heap.size) 12) (Zg r.L)).setCell (Zd (d.heap.size) 13) (.slice qa r.G.length qc)).setCell (Zd (d.heap.size) 14) (.slice ma r.ms.length mc)).setCell (Zd (d.heap.size) 15) (Zg r.Q)).setCell (Zd (d.heap.size) 16) (Zg r.P)).setCell (Zd (d.heap.size) 17) (Zg r.ro)).setCell (Zd (d.heap.size) 18) (Zg (n+1)))
         have zF:=Aag i.1 zY;have E:Hid (Fj v x.heap.size d.heap.size {Ul c b2 tc qa ma qc mc with V:=c.V,W:=c.W} b2 tH D (n+1) (u.and r) W9/\ID v.wd v.C v.ps v.ls (4000 -(v.ss++v.D).length) (u.and r)/\(∀o,ClTo v.C v.ps v.ls (4000 -(v.ss++v.D).length) N (n+1) (u.and r) o->ClTo v.C v.ps v.ls (4000 -(v.ss++v.D).length) N 0 (EH v) o)/\n+1<=N/\Zz x W9):=by
          refine⟨zO.o.next zA.o H.o.2.2.2 (V:=[d.heap.size]) ((fun(h:Tn [d.heap.size] l W9)=>h) zF.2) (fun g j=> .inl (by simpa using j)) (U':=.slice c.V m c.W) rfl (by rw[yA,z.o.1];exact y.o.uo.K zF.2 (fun g j F=>by have:=(y.o.ud g j).1;simp at F;omega)) (by rw[hds,List.append_nil];exact y.o.I.K zF.2 (fun g j F=>by have:=y.o.dd g j;simp at F;omega)) (fun g j=> .inl (by rw[<-z.o.1];exact j)) (fun g j=> .inl j) (fun g j=>(y.o.ud g (by rw[<-z.o.1];exact j)).2) ?_,B.o.2.1.step zC.o hro (by omega) (by omega) (.inl hds),fun o ho=>B.o.2.2.1 o (.step n u r o hlt hro zC.o (by omega) (by omega) (.inl hds) ho),hlt,?_⟩
          .unfold oC;rw[yO];exact zF.1
          .exact H.o.2.1.trans (((fun(h:Tn [d.heap.size] l W9)=>h) zF.2).below H.o.2.1.size (fun g j=>by simp at j;have:=tM.o;omega))
         have HM:Hid (N -Lq d.heap.size W9<N -Lq d.heap.size wr):=by show _<_;rw[E.o.1.jc,B.o.1.jc];omega
         obtain⟨z1,_⟩:=i.2 1 _ rfl;obtain⟨z2,_⟩:=i.2 2 _ rfl;obtain⟨z3,_⟩:=i.2 3 _ rfl;obtain⟨z4,_⟩:=i.2 4 _ rfl;obtain⟨z5,_⟩:=i.2 5 _ rfl;obtain⟨z6,_⟩:=i.2 6 _ rfl;obtain⟨z7,_⟩:=i.2 7 _ rfl;obtain⟨z8,_⟩:=i.2 8 _ rfl;obtain⟨z9,_⟩:=i.2 9 _ rfl;obtain⟨sX,_⟩:=i.2 10 _ rfl;obtain⟨sY,_⟩:=i.2 11 _ rfl;obtain⟨z12,_⟩:=i.2 12 _ rfl;obtain⟨sZ,_⟩:=i.2 13 _ rfl;obtain⟨o5,g5⟩:=i.1 5 _ rfl
         obtain⟨o6,g6⟩:=i.1 6 _ rfl;obtain⟨o7,g7⟩:=i.1 7 _ rfl;obtain⟨o8,g8⟩:=i.1 8 _ rfl;obtain⟨o9,g9⟩:=i.1 9 _ rfl;obtain⟨sM,tO⟩:=i.1 10 _ rfl;obtain⟨sN,tP⟩:=i.1 11 _ rfl;obtain⟨sO,tQ⟩:=i.1 12 _ rfl;obtain⟨sP,tR⟩:=i.1 13 _ rfl;obtain⟨sQ,tS⟩:=i.1 14 _ rfl;obtain⟨sR,tT⟩:=i.1 15 _ rfl;obtain⟨sS,tU⟩:=i.1 16 _ rfl;obtain⟨sT,tV⟩:=i.1 17 _ rfl;obtain⟨sU,tW⟩:=i.1 18 _ rfl;have xI:=Yw zY
         have xO:¬w6.heap.size=d.heap.size:=by have f:=zA.o.low.size;have G:=zB.o.1.size;omega
         have vA:¬d.heap.size=w6.heap.size:=fun e=>xO e.symm;clear i zF zY yA yO z K zR y HY zA zC zO y9 sW;go_wp2;rw[<-xI.o];exact⟨⟨_,_,_,_,n+1,u.and r,E⟩,HM.o⟩
        .obtain⟨sG,sH,s,hs⟩:=UTo.some zC.o hds;have tZ:(0:Int)<r.ds.length:=by rw[hs];simp
         have tK:Hid (r.ds≠[]):=hds;have yV:Hid (r.ds=[s]):=hs;clear hs hds sG sH;by_cases hfl:u.ds.length<4000 -(v.ss++v.D).length
         .have sA:¬(4000:Int)<=v.ss.length+m:=by have f:=yC.o;have G:=z.o.2;rw[List.length_append]at f hfl;omega
          have sC:v.ss.length<=4000:=by have f:=yC.o;rw[List.length_append]at f;omega
          have vG:m<=4000:=by omega
          obtain⟨dg,zS,tX,tY,tA⟩:=zA.o.d.at (k:=0) (by rw[yV.o];simp);subst tX;have yT:Hid (¬dg=d.heap.size/\¬Ai (.slice c.V m c.W)=some dg/\¬Ai D=some dg):=by
           have xN:∀g,RB b [c.X,c.O,c.M,c.g,c.i] zs g->¬g=d.heap.size/\¬Ai (.slice c.V m c.W)=some g/\¬Ai D=some g:=fun g j=>by have f:=zO.o.rr.ap g j;rw[<-z.o.1]at f;simp only[List.mem_cons,List.mem_append,Option.mem_toList]at f;exact⟨fun e=>f (.inl e),fun e=>f (.inr (.inl e)),fun e=>f (.inr (.inr e))⟩
           rcases zA.o.fd ⟨dg,zS,none⟩ rfl with f|⟨q,f,G⟩|⟨q,f,G⟩|f
           .exact xN dg (.inl f)
           .exact xN dg (.inr (.inl ⟨q,by simp[f],G.symm⟩))
           .exact xN dg (.inr (.inl ⟨q,by simp[f],G.symm⟩))
           .have G:=zB.o.1.size;refine⟨fun e=> ?_,fun e=> ?_,fun e=> ?_⟩
            .have h3:W5.heap.size<=dg:=f;omega
            .have h3:W5.heap.size<=dg:=f;rw[z.o.1]at e;have h4:=(B.o.1.uo.Z e).2;omega
            .have h3:W5.heap.size<=dg:=f;have h4:=(B.o.1.I.Z e).2;omega
          have y:Hid (Fj v x.heap.size d.heap.size c b zs D n u l):=B.o.1.below H.o.2.2.1
          have vH:Hid (∀X,Zz l X->∃ua uc Y,(Builtin.append_ #[23,23] 23 #[.slice c.V m c.W,Yz X.heap.size 1 1]).run prog (X.alloc (.cells #[.string (Hz v.wd s)] 9))=.ok (.slice ua (m+1) uc) Y/\Y.heap[d.heap.size]?=X.heap[d.heap.size]? /\Tn (d.heap.size::(Ai (.slice c.V m c.W)).toList) X (Y.setCell (Zd (d.heap.size) 4) (.slice ua (m+1) uc))/\Aj (Y.setCell (Zd (d.heap.size) 4) (.slice ua (m+1) uc)) x.heap.size (.slice ua (m+1) uc) ((AW v u).D++[Hz v.wd s])/\∀g,Ai (.slice ua (m+1) uc)=some g->Ai (.slice c.V m c.W)=some g\/X.heap.size<=g):=fun X hX=>by
           have f:=y.o.uo.below hX;have G:=z.o.1;have h3:=Wy X x.heap.size d.heap.size 4 _ _ (Hz v.wd s) f (fun g j=>(y.o.ud g j).1) (by have:=y.o.box.lt;have:=hX.size;omega) (by have:=y.o.iq;have:=y.o.box.lt;have:=hX.size;omega) (by omega);rw[<-G]at h3;exact h3
          have J:Hid (∀X,Calls prog 45 #[.agg #[Zg 7,.string s,Zc,Ze,Zc,Zb],Zg v.wd] X fun e w'=>e=.returned (.string (Hz v.wd s))/\Zz X w'):=fun X=>OH 7 s ⟨#[]⟩ 0 ⟨#[]⟩ none 0 [] v.wd X (.inl rfl) (Nat.zero_le _) (Nat.zero_le _) (Nat.zero_le _)
          have H8:Hid (∀X,Zz l X->Aa X d.heap.size [Ze,Zg v.wd,Zg v.lim,.slice c.X v.ss.length c.sc,.slice c.V m c.W,Zg v.S,Zg v.E,Zg v.F,Zg v.C,Yz b u.A.length c.j,.slice c.O v.ps.length c.U,.slice c.M v.ls.length c.T,Zg u.L,.slice c.g u.G.length c.qc,.slice c.i u.ms.length c.mc,Zg u.Q,Zg u.P,Zg u.ro,Zg n,D]/\Aa X w6.heap.size [Ze,Zg v.S,Zg v.E,Zg v.F,Zg v.C,Yz b2 r.A.length tc,.slice c.O v.ps.length c.U,.slice c.M v.ls.length c.T,Zg r.L,.slice qa r.G.length qc,.slice ma r.ms.length mc,Zg r.Q,Zg r.P,Zg r.ro,.slice (some ⟨dg,zS,none⟩) r.ds.length dc]/\X.cell? (Zd dg zS)=some (.string s)):=fun X hX=>⟨K.o X (H.o.2.2.1.trans (hX.mono H.o.2.2.1.size)),Aa.below zR.o hX,((H.o.2.2.2.trans (hX.mono H.o.2.2.2.size)).cell (p:=⟨dg,zS,none⟩) tY).trans (by simpa using tA 0 s (by rw[yV.o];rfl))⟩
          obtain⟨k3,_⟩:=(H8.o l Ae).1 3 _ rfl;obtain⟨k4,_⟩:=(H8.o l Ae).1 4 _ rfl;obtain⟨xB,_⟩:=(H8.o l Ae).2.1 14 _ rfl;have d0:=(H8.o l Ae).2.2;obtain⟨v0,_⟩:=(I.o l H.o.2.1).1 0 _ rfl;have vD:d.heap.size<l.heap.size:=Aa.lt (H8.o l Ae).1;clear tA K zR;go_upto_region 15 with fail
          go_cut [] (fun wx=>∃ua uc X,Hid (Zz l X/\Aa wx d.heap.size [Ze,Zg v.wd,Zg v.lim,.slice c.X v.ss.length c.sc,.slice ua (m+1) uc,Zg v.S,Zg v.E,Zg v.F,Zg v.C,Yz b u.A.length c.j,.slice c.O v.ps.length c.U,.slice c.M v.ls.length c.T,Zg u.L,.slice c.g u.G.length c.qc,.slice c.i u.ms.length c.mc,Zg u.Q,Zg u.P,Zg u.ro,Zg n,D]/\Tn (d.heap.size::(Ai (.slice c.V m c.W)).toList) X wx/\Aj wx x.heap.size (.slice ua (m+1) uc) ((AW v u).D++[Hz v.wd s])/\∀g,Ai (.slice ua (m+1) uc)=some g->Ai (.slice c.V m c.W)=some g\/X.heap.size<=g))
          case first=>
           clear zN z B zO zA zC y yT yC O zB k3
           go_region_law (first
            |(go_simp;go_at_call 45;refine(J.o l.drew).mono ?_;rintro e wf ⟨rfl,vX⟩;have bf:Below l.heap.size l wf:=Dg vX;have zf:=bf.size;obtain⟨ua,uc,Y,hr,hbY,hTY,hoY,hnY⟩:=vH.o wf bf;have hx:=(H8.o wf bf).1;have n4:=(hx 4 _ rfl).1;have xY:=Aa.same hx hbY;obtain⟨y4,f4⟩:=xY 4 _ rfl;have a4:(wf.alloc (.cells #[.string (Hz v.wd s)] 9)).cell? (Zd (d.heap.size) 4)=some (.slice c.V m c.W):=(Aa.below hx (Zy) 4 _ rfl).1;have E:=Yw (Zn bf (Zn (xY.set 4 (.slice ua (m+1) uc)) (Zn hTY (Zn hoY hnY))));clear hx xY hTY hoY hnY hbY vX;go_wp2_with fail)
            |(refine Bv (by rfl) (.tmp 75) (.tmp 84) 23 23 (by rfl) (by rfl) (by rfl) hr ?_))
           all_goals
            go_wp2_with fail;go_meet;exact⟨ua,uc,wf,E⟩
          case rest=>
           revert wc;intro zK hcut;obtain⟨ua,uc,X,HC⟩:=hcut;clear vH J k3 k4 xB d0 v0;have xJ:Hid (Aa zK w6.heap.size [Ze,Zg v.S,Zg v.E,Zg v.F,Zg v.C,Yz b2 r.A.length tc,.slice c.O v.ps.length c.U,.slice c.M v.ls.length c.T,Zg r.L,.slice qa r.G.length qc,.slice ma r.ms.length mc,Zg r.Q,Zg r.P,Zg r.ro,.slice (some ⟨dg,zS,none⟩) r.ds.length dc]/\zK.cell? (Zd dg zS)=some (.string s)):=by
            have hx:=H8.o X HC.o.1;have sD:∀g,Ai (.slice c.V m c.W)=some g->g<wr.heap.size:=fun g j=>by rw[z.o.1]at j;exact(B.o.1.uo.Z j).2
            have f:=zA.o.low.size;have G:=zB.o.1.size;have hz:=HC.o.1.size;have rG:=H.o.2.2.2.size;refine⟨Aa.same hx.2.1 (HC.o.2.2.1.block _ hx.2.1.lt (fun F=> ?_)),(World.cell?_of_block (a:=⟨dg,zS,none⟩) (HC.o.2.2.1.block dg (by omega) (fun F=> ?_))).trans hx.2.2⟩
            .simp only[List.mem_cons,Option.mem_toList]at F;rcases F with e|e
             .omega
             .have:=sD _ e;omega
            .simp only[List.mem_cons,Option.mem_toList]at F;rcases F with e|e
             .exact yT.o.1 e
             .exact yT.o.2.1 e
           have vK:Hid (Aj zK x.heap.size D u.ds):=(y.o.I.below HC.o.1).K HC.o.2.2.1 (fun g j F=>by
            simp only[List.mem_cons,Option.mem_toList]at F;rcases F with e|e
            .exact y.o.dd g j e
            .rw[z.o.1]at e;exact(y.o.ud g e).2 j)
           have zU:=HC.o.2.1;have xC:d.heap.size<zK.heap.size:=zU.lt;obtain⟨ea,ec,Y2,tC,yR,yG,yI,yH⟩:=Wy zK.drew x.heap.size d.heap.size 19 D u.ds s (vK.o.below Ae.drew) (fun g j=>y.o.dd g j) xC (by have:=y.o.iq;show _<=zK.heap.size;omega) (by have:=B.o.2.1.dl;omega);obtain⟨zP,zT⟩:=Af (Y2.setCell (Zd (d.heap.size) 19) (.slice ea (u.ds.length+1) ec))
           have xX:Aa Y2 d.heap.size [Ze,Zg v.wd,Zg v.lim,.slice c.X v.ss.length c.sc,.slice ua (m+1) uc,Zg v.S,Zg v.E,Zg v.F,Zg v.C,Yz b u.A.length c.j,.slice c.O v.ps.length c.U,.slice c.M v.ls.length c.T,Zg u.L,.slice c.g u.G.length c.qc,.slice c.i u.ms.length c.mc,Zg u.Q,Zg u.P,Zg u.ro,Zg n,D]:=Aa.same zU yR;obtain⟨sL,_⟩:=zU 19 _ rfl;obtain⟨sV,tN⟩:=xX 19 _ rfl
           have tG:Aa zP d.heap.size [Ze,Zg v.wd,Zg v.lim,.slice c.X v.ss.length c.sc,.slice ua (m+1) uc,Zg v.S,Zg v.E,Zg v.F,Zg v.C,Yz b u.A.length c.j,.slice c.O v.ps.length c.U,.slice c.M v.ls.length c.T,Zg u.L,.slice c.g u.G.length c.qc,.slice c.i u.ms.length c.mc,Zg u.Q,Zg u.P,Zg u.ro,Zg n,.slice ea (u.ds.length+1) ec]:=by rw[zT];exact xX.set 19 _
           rw[<-zT]at yG yI;have xA:Tn (d.heap.size::(Ai D).toList) zK zP:=((Tn.of (V:=[]) (Below.refl zK.heap.size zK).drew).mono (by simp)).trans yG
           have xG:Hid (Tn (d.heap.size::((Ai (.slice c.V m c.W)).toList++(Ai D).toList)) l zP):=((Tn.of (V:=[]) HC.o.1).mono (by simp)).trans ((HC.o.2.2.1.mono (by simp;exact fun b h=> .inr (.inl h))).trans (xA.mono (by simp;exact fun b h=> .inr (.inr h))));have rC:=HC.o.1.size;have tJ:=HC.o.2.2.1.size
           have vQ:Hid (Aj zP x.heap.size (.slice ua (m+1) uc) ((AW v u).D++[Hz v.wd s])):=HC.o.2.2.2.1.K xA (fun g j F=>by
            simp only[List.mem_cons,Option.mem_toList]at F;have G:=y.o.box.lt;rcases F with e|e
            .rcases HC.o.2.2.2.2 g j with f|f
             .rw[z.o.1]at f;exact(y.o.ud g f).1 e
             .omega
            .rcases HC.o.2.2.2.2 g j with f|f
             .rw[z.o.1]at f;exact(y.o.ud g f).2 e
             .have:=(y.o.I.Z e).2;omega)
           have vL:Hid (Aj zP x.heap.size (.slice ea (u.ds.length+1) ec) (u.ds++[s])):=yI;have xH:Hid (∀g,Ai (.slice ua (m+1) uc)=some g->Ai (.slice c.V m c.W)=some g\/l.heap.size<=g):=fun g j=>by
            rcases HC.o.2.2.2.2 g j with f|f
            .exact .inl f
            .exact .inr (by omega)
           have xD:Hid (∀g,Ai (.slice ea (u.ds.length+1) ec)=some g->Ai D=some g\/zK.heap.size<=g):=yH;have vP:Hid (∀g,Ai (.slice ua (m+1) uc)=some g->Ai (.slice ea (u.ds.length+1) ec)≠some g):=fun g j hd=>by
            have h3:=(HC.o.2.2.2.1.Z j).2;rcases yH g hd with f|f
            .rcases HC.o.2.2.2.2 g j with G|G
             .rw[z.o.1]at G;exact(y.o.ud g G).2 f
             .have:=(y.o.I.Z f).2;omega
            .have h4:zK.heap.size<=g:=f;omega
           have tI:=y.o.box.lt;have vR:Hid (∀g,Ai (.slice ua (m+1) uc)=some g->¬g=d.heap.size):=fun g j e=>by
            rcases xH.o g j with f|f
            .rw[z.o.1]at f;exact(y.o.ud g f).1 e
            .omega
           have vM:Hid (∀g,Ai (.slice ea (u.ds.length+1) ec)=some g->¬g=d.heap.size):=fun g j e=>by
            rcases xD.o g j with f|f
            .exact y.o.dd g f e
            .omega
           have yP:Hid (∀g,Ai (.slice ea (u.ds.length+1) ec)=some g->Ai D=some g\/l.heap.size<=g):=fun g j=>by
            rcases xD.o g j with f|f
            .exact .inl f
            .exact .inr (by omega)
           have vS:Hid (∀g∈d.heap.size::((Ai (.slice c.V m c.W)).toList++(Ai D).toList),x.heap.size<=g):=fun g j=>by
            simp only[List.mem_cons,List.mem_append,Option.mem_toList]at j;have f:=y.o.iq;rcases j with G|G|G
            .omega
            .rw[z.o.1]at G;exact(y.o.uo.Z G).1
            .exact(y.o.I.Z G).1
           have yA:(AW v (u.and r)).D=(AW v u).D++[Hz v.wd s]:=by have:=yV.o;simp[AW,UR.and,this]
           have yO:(AW v (u.and r)).D.length=m+1:=by rw[yA,List.length_append,<-z.o.1];rfl
           have h6:=xJ.o.1;have sF:=h6.lt;have vC:¬w6.heap.size=d.heap.size:=by have f:=zA.o.low.size;have G:=zB.o.1.size;omega
           have HY:Hid (Aa zP d.heap.size [Ze,Zg v.wd,Zg v.lim,.slice c.X v.ss.length c.sc,.slice ua (m+1) uc,Zg v.S,Zg v.E,Zg v.F,Zg v.C,Yz b u.A.length c.j,.slice c.O v.ps.length c.U,.slice c.M v.ls.length c.T,Zg u.L,.slice c.g u.G.length c.qc,.slice c.i u.ms.length c.mc,Zg u.Q,Zg u.P,Zg u.ro,Zg n,.slice ea (u.ds.length+1) ec]/\Aa zP w6.heap.size [Ze,Zg v.S,Zg v.E,Zg v.F,Zg v.C,Yz b2 r.A.length tc,.slice c.O v.ps.length c.U,.slice c.M v.ls.length c.T,Zg r.L,.slice qa r.G.length qc,.slice ma r.ms.length mc,Zg r.Q,Zg r.P,Zg r.ro,.slice (some ⟨dg,zS,none⟩) r.ds.length dc]):=⟨tG,Aa.same h6 (xA.block _ sF (fun F=>by
            simp only[List.mem_cons,Option.mem_toList]at F;rcases F with e|e
            .exact vC e
            .have f:=(B.o.1.I.Z e).2;have G:=zA.o.low.size;have h3:=zB.o.1.size;omega))⟩
           obtain⟨xB,_⟩:=h6 14 _ rfl;have d0:=xJ.o.2;have rA:dg<zK.heap.size:=by have:=H.o.2.2.2.size;omega
           have yQ:=Yw zT;clear h6 zT zU xX yG yI yH tG xA yR;go_upto_region 16 with fail
           go_region_law (first
            |(refine Bv (by rfl) (.tmp 90) (.tmp 95) 23 23 (by rfl) (by rfl) (by rfl) tC ?_))
           all_goals
            clear tC sL xB d0;go_upto_region 17 with fail;rw[<-yQ.o];clear yQ sV tN;have i:=HY.o
            obtain⟨W9,zY⟩:=Af ((((((((((((((zP.setCell (Zd (d.heap.size) 5) (Zg v.S)).setCell (Zd (d.heap.size) 6) (Zg v.E)).setCell (Zd (d.heap.size) 7) (Zg v.F)).setCell (Zd (d.heap.size) 8) (Zg v.C)).setCell (Zd (d.heap.size) 9) (Yz b2 r.A.length tc)).setCell (Zd (d.heap.size) 10) (.slice c.O v.ps.length c.U)).setCell (Zd (d.heap.size) 11) (.slice c.M v.ls.length c.T)).setCell (Zd (d.heap.size) 12) (Zg r.L)).setCell (Zd (d.heap.size) 13) (.slice qa r.G.length qc)).setCell (Zd (d.heap.size) 14) (.slice ma r.ms.length mc)).setCell (Zd (d.heap.size) 15) (Zg r.Q)).setCell (Zd (d.heap.size) 16) (Zg r.P)).setCell (Zd (d.heap.size) 17) (Zg r.ro)).setCell (Zd (d.heap.size) 18) (Zg (n+1)))
            have zF:=Aag i.1 zY;have E:Hid (Fj v x.heap.size d.heap.size {Ul c b2 tc qa ma qc mc with V:=ua,W:=uc} b2 tH (.slice ea (u.ds.length+1) ec) (n+1) (u.and r) W9/\ID v.wd v.C v.ps v.ls (4000 -(v.ss++v.D).length) (u.and r)/\(∀o,ClTo v.C v.ps v.ls (4000 -(v.ss++v.D).length) N (n+1) (u.and r) o->ClTo v.C v.ps v.ls (4000 -(v.ss++v.D).length) N 0 (EH v) o)/\n+1<=N/\Zz x W9):=by
             refine⟨zO.o.next zA.o H.o.2.2.2 (V:=d.heap.size::((Ai (.slice c.V m c.W)).toList++(Ai D).toList)) ((fun(h:Tn [d.heap.size] zP W9)=>xG.o.trans (h.mono (by simp))) zF.2) (fun g j=>by simp only[List.mem_cons,List.mem_append,Option.mem_toList]at j;rw[<-z.o.1];exact j) (U':=.slice ua (m+1) uc) rfl (by rw[yA];exact vQ.o.K zF.2 (fun g j F=>vR.o g j (by simpa using F))) (by rw[yV.o];exact vL.o.K zF.2 (fun g j F=>vM.o g j (by simpa using F))) (fun g j=>by rw[<-z.o.1];exact xH.o g j) yP.o vP.o ?_,B.o.2.1.step zC.o hro (by omega) (by omega) (.inr hfl),fun o ho=>B.o.2.2.1 o (.step n u r o hlt hro zC.o (by omega) (by omega) (.inr hfl) ho),hlt,?_⟩
             .unfold oC;rw[yO];exact zF.1
             .exact H.o.2.1.trans (((fun(h:Tn [d.heap.size] zP W9)=>xG.o.trans (h.mono (by simp))) zF.2).below H.o.2.1.size (fun g j=>vS.o g j))
            have HM:Hid (N -Lq d.heap.size W9<N -Lq d.heap.size wr):=by show _<_;rw[E.o.1.jc,B.o.1.jc];omega
            obtain⟨z1,_⟩:=i.2 1 _ rfl;obtain⟨z2,_⟩:=i.2 2 _ rfl;obtain⟨z3,_⟩:=i.2 3 _ rfl;obtain⟨z4,_⟩:=i.2 4 _ rfl;obtain⟨z5,_⟩:=i.2 5 _ rfl;obtain⟨z6,_⟩:=i.2 6 _ rfl;obtain⟨z7,_⟩:=i.2 7 _ rfl;obtain⟨z8,_⟩:=i.2 8 _ rfl;obtain⟨z9,_⟩:=i.2 9 _ rfl;obtain⟨sX,_⟩:=i.2 10 _ rfl;obtain⟨sY,_⟩:=i.2 11 _ rfl;obtain⟨z12,_⟩:=i.2 12 _ rfl;obtain⟨sZ,_⟩:=i.2 13 _ rfl;obtain⟨o5,g5⟩:=i.1 5 _ rfl
            obtain⟨o6,g6⟩:=i.1 6 _ rfl;obtain⟨o7,g7⟩:=i.1 7 _ rfl;obtain⟨o8,g8⟩:=i.1 8 _ rfl;obtain⟨o9,g9⟩:=i.1 9 _ rfl;obtain⟨sM,tO⟩:=i.1 10 _ rfl;obtain⟨sN,tP⟩:=i.1 11 _ rfl;obtain⟨sO,tQ⟩:=i.1 12 _ rfl;obtain⟨sP,tR⟩:=i.1 13 _ rfl;obtain⟨sQ,tS⟩:=i.1 14 _ rfl;obtain⟨sR,tT⟩:=i.1 15 _ rfl;obtain⟨sS,tU⟩:=i.1 16 _ rfl;obtain⟨sT,tV⟩:=i.1 17 _ rfl;obtain⟨sU,tW⟩:=i.1 18 _ rfl;have xI:=Yw zY
            have xO:¬w6.heap.size=d.heap.size:=by have f:=zA.o.low.size;have G:=zB.o.1.size;omega
            have vA:¬d.heap.size=w6.heap.size:=fun e=>xO e.symm;clear i zF zY yA yO z HY zA zC zO y xG vQ vL xH xD vP HC xJ vK yT H8 vR vM yP vS;go_wp2;rw[<-xI.o];exact⟨⟨_,_,_,_,n+1,u.and r,E⟩,HM.o⟩
         .have sA:(4000:Int)<=v.ss.length+m:=by have f:=yC.o;have G:=z.o.2;rw[List.length_append]at f hfl;omega
          have sC:v.ss.length<=4000:=by have f:=yC.o;rw[List.length_append]at f;omega
          have vG:m<=1048576:=by rw[z.o.1];exact O.o.2.1
          have R:Hid (Ep v N (some (u,n))):=zN.o _ (B.o.2.2.1 _ (.full n u r hlt hro zC.o tK.o hfl));have zV:Hid (Zz x l):=H.o.2.1;have zM:Hid (Fj v x.heap.size d.heap.size c b zs D n u l):=B.o.1.below H.o.2.2.1;have h8:=K.o l H.o.2.2.1;obtain⟨k3,_⟩:=h8 3 _ rfl;obtain⟨k4,_⟩:=h8 4 _ rfl;have vD:d.heap.size<l.heap.size:=h8.lt;clear h8 zN K B z zO zA zC zR hfl
          have yK:Hid (Kh l c (AW v u)):=zM.o.rr.jo zM.o.uo O.o.1 O.o.2.1 O.o.2.2.1 O.o.2.2.2.1 O.o.2.2.2.2.1 O.o.2.2.2.2.2.1 O.o.2.2.2.2.2.2.1 O.o.2.2.2.2.2.2.2
          obtain⟨yB,zI⟩:=Af (Bm (AW v u) (.slice c.X (AW v u).ss.length c.sc) (.slice c.V (AW v u).D.length c.W) (.slice c.Y (AW v u).A.length c.j) (.slice c.O (AW v u).ps.length c.U) (.slice c.M (AW v u).ls.length c.T) (.slice c.g (AW v u).G.length c.qc) (.slice c.i (AW v u).ms.length c.mc));have zX:Hid (l.rangeAt d.heap.size 1 yB/\yB.length=17):=by show _/\_;rw[zI];exact⟨Aa.fs [Ze] _ [Zg n,D] zM.o.box,rfl⟩
          have zH:=Yw (FP (AW v u) c l yK.o);rw[<-zI]at zH;clear zI yK;go_wp2_with (refine wpList_load_mid rfl 51 _ rfl d.heap.size 1 rfl yB _ zX.o.1 underlying51 rfl (by rw[zX.o.2];kernel_rfl) ?_);refine zH.Ah ?_;rintro e w9 ⟨S,U,T,P,L,Q,M,rs,rfl,hA,_,zZ⟩;clear zH zX;obtain⟨vs,zG⟩:=Af (Bm (AW v u) S U T P L Q M);rw[<-zG];obtain⟨C,hC⟩:=Af (Jm 0 vs n D)
          have J:=Yw (Uo zM.o hA zZ (by have:=vW.o;omega) (I.o w9 (zV.o.trans (zZ.mono zV.o.size))).2 zG hC);clear zG hC hA zZ I zM zV;go_wp2_with (first
           |refine wpList_store_mid rfl 51 _ _ rfl d.heap.size 1 vs.toArray rfl rfl J.o.1.2.2 (by rw[List.size_toArray,J.o.1.1];kernel_rfl) (all_oneCell_toArray J.o.1.2.1) ?_
           |refine wpList_load_mid rfl 169 _ rfl d.heap.size 0 rfl C _ J.o.2.1.range underlying169 rfl (by rw[J.o.2.2.1.1];kernel_rfl) ?_
           |refine wpList_store_mid rfl 169 _ _ rfl (w.heap.size+1) 0 C.toArray rfl rfl J.o.2.2.1.2.2 (by rw[List.size_toArray,J.o.2.2.1.1];kernel_rfl) (all_oneCell_toArray J.o.2.2.1.2.1) ?_)
          exact bodyPost_ret (AU results94 _ _ (w.heap.size+1) C _ rfl (Aa.range J.o.2.2.2.1) underlying169 rfl (by rw[J.o.2.2.1.1];kernel_rfl)) rfl ⟨some (u,n),C,R.o,rfl,J.o.2.2.2.2.1,J.o.2.2.2.2.2⟩
    .have rD:¬(n:Int)<N:=by omega
     have zV:Hid (Zz x wr):=B.o.2.2.2.2;have zM:Hid (Fj v x.heap.size d.heap.size c b zs D n u wr):=B.o.1;have R:Hid (Ep v N (some (u,n))):=zN.o _ (B.o.2.2.1 _ (.fin n u (by omega)));clear zN K B z;have yK:Hid (Kh wr c (AW v u)):=zM.o.rr.jo zM.o.uo O.o.1 O.o.2.1 O.o.2.2.1 O.o.2.2.2.1 O.o.2.2.2.2.1 O.o.2.2.2.2.2.1 O.o.2.2.2.2.2.2.1 O.o.2.2.2.2.2.2.2
     obtain⟨yB,zI⟩:=Af (Bm (AW v u) (.slice c.X (AW v u).ss.length c.sc) (.slice c.V (AW v u).D.length c.W) (.slice c.Y (AW v u).A.length c.j) (.slice c.O (AW v u).ps.length c.U) (.slice c.M (AW v u).ls.length c.T) (.slice c.g (AW v u).G.length c.qc) (.slice c.i (AW v u).ms.length c.mc));have zX:Hid (wr.rangeAt d.heap.size 1 yB/\yB.length=17):=by show _/\_;rw[zI];exact⟨Aa.fs [Ze] _ [Zg n,D] zM.o.box,rfl⟩
     have zH:=Yw (FP (AW v u) c wr yK.o);rw[<-zI]at zH;clear zI yK;go_wp2_with (refine wpList_load_mid rfl 51 _ rfl d.heap.size 1 rfl yB _ zX.o.1 underlying51 rfl (by rw[zX.o.2];kernel_rfl) ?_);refine zH.Ah ?_;rintro e w9 ⟨S,U,T,P,L,Q,M,rs,rfl,hA,_,zZ⟩;clear zH zX;obtain⟨vs,zG⟩:=Af (Bm (AW v u) S U T P L Q M);rw[<-zG];obtain⟨C,hC⟩:=Af (Jm 0 vs n D)
     have J:=Yw (Uo zM.o hA zZ (by have:=vW.o;omega) (I.o w9 (zV.o.trans (zZ.mono zV.o.size))).2 zG hC);clear zG hC hA zZ I zM zV;go_wp2_with (first
      |refine wpList_store_mid rfl 51 _ _ rfl d.heap.size 1 vs.toArray rfl rfl J.o.1.2.2 (by rw[List.size_toArray,J.o.1.1];kernel_rfl) (all_oneCell_toArray J.o.1.2.1) ?_
      |refine wpList_load_mid rfl 169 _ rfl d.heap.size 0 rfl C _ J.o.2.1.range underlying169 rfl (by rw[J.o.2.2.1.1];kernel_rfl) ?_
      |refine wpList_store_mid rfl 169 _ _ rfl (w.heap.size+1) 0 C.toArray rfl rfl J.o.2.2.1.2.2 (by rw[List.size_toArray,J.o.2.2.1.1];kernel_rfl) (all_oneCell_toArray J.o.2.2.1.2.1) ?_)
     exact bodyPost_ret (AU results94 _ _ (w.heap.size+1) C _ rfl (Aa.range J.o.2.2.2.1) underlying169 rfl (by rw[J.o.2.2.1.1];kernel_rfl)) rfl ⟨some (u,n),C,R.o,rfl,J.o.2.2.2.2.1,J.o.2.2.2.2.2⟩
  .rw[decide_eq_false hun];have xE:Hid (¬(Cy v/\0<=A/\A<=10000)):=fun h=>hun h.2;clear yS hun;have E:=Yw (Mu (X:=x) (I.o x yE).2);clear I;go_wp2_with (refine wpList_store_mid rfl 169 _ _ rfl (w.heap.size+1) 0 #[Zg 1,Ze,Ze,Zb,Zb,Ze,Ze,Ze,Ze,Zb,Zb,Zb,Ze,Zb,Zb,Ze,Ze,Ze,Ze,Zb] rfl rfl E.o.1 (by kernel_rfl) E.o.2.1 ?_);change bodyPost _ _ _ _ _ (x.setCells (w.heap.size+1) 0 (z20 1))
   refine bodyPost_ret (AU results94 _ _ (w.heap.size+1) (z20 1) _ rfl E.o.2.2.1.range underlying169 rfl (by kernel_rfl)) rfl ?_;exact⟨none,z20 1,.inl ⟨xE.o,rfl⟩,rfl,rfl,E.o.2.2.2⟩
end Go.Proofs.YtoglnpagihdhpaaGreatDoor
