import Derived.Test.YtdofmfnmackjhaaGreatDoorX33
set_option maxRecDepth 100000
set_option maxHeartbeats 16000000
namespace Go.Proofs.YtdofmfnmackjhaaGreatDoor
open ChangeShapes WideShapes ChangeAt RowKit _root_.Go.Proofs.Tryz List World Value
variable{v:Vd}{d b n B:Nat}{a:Va}{D P L k:Value}{u:UR}{w X:Zh}
def oC(v:Vd)(a:Va)(D:Value)(n:Nat)(u:UR):Zj:=Jq 0 (Bw (Bc v u) (.slice a.i v.ss.length a.sc) (.slice a.Y (Bc v u).E.length a.Z) (.slice a.W u.ks.length a.X) (.slice a.N v.ps.length a.Q) (.slice a.L v.ls.length a.P) (.slice a.qa u.H.length a.qc) (.slice a.y u.ms.length a.mc)) n D
structure Ff (v:Vd) (lo ob:Nat) (a:Va) (b:Nat) (zs:List (Kd×Value)) (D:Value) (n:Nat) (u:UR) (w:Zh):Prop where
 box:Aa w ob (oC v a D n u)
 rr:RR w (ob::((Ap (.slice a.Y (Bc v u).E.length a.Z)).toList++(Ap D).toList)) a b zs (Bc v u)
 uo:Ar w lo (.slice a.Y (Bc v u).E.length a.Z) (Bc v u).E
 I:Ar w lo D u.ds
 ud:∀g,Ap (.slice a.Y (Bc v u).E.length a.Z)=some g->g≠ob/\Ap D≠some g
 dd:∀g,Ap D=some g->g≠ob
 iz:lo<=ob
theorem Ff.A{e:Nat}{g:List (Kd×Value)}{f:Zh}(h:Ff v d e a b g D n u w)(c:Zz w f):Ff v d e a b g D n u f:=
 ⟨Aa.A (v:=Ze) h.box c,h.rr.K (U:=[]) (Tn.of c) Yu,h.uo.A c,h.I.A c,h.ud,h.dd,h.iz⟩
theorem Ff.next{q l:Nat}{J:List (Kd×Value)}{r:UR}{F o:Zh}(h:Ff v q l a b J D n u w){e:Ending}{qs ms:Zl}{ks:Dj}{ps:Dy}{ls:Dv}{wd Q m i ph R K ro:Int}{p tc E T:Nat}{z:List (Kd×Value)}{C A S:Zk}(I:LV w F e wd Q m i P L ks ps ls ph R K ro qs ms b a.qa a.y J r p tc z C A S E B T)(H:Zz F o){U':D4}{ta:Zk}{tn j:Nat}{V:List Nat}(hT:Tn V o X)(hV:∀g∈V,g=l\/Ap (C3 a.Y (Bc v u).E.length a.Z)=some g\/Ap D=some g)(N:U'=C3 ta tn j)(G:Ar X q U' (Bc v (u.and r)).E)(Z:Ar X q k (u.ds++r.ds))(y:∀g,Ap U'=some g->Ap (C3 a.Y (Bc v u).E.length a.Z)=some g\/o.1.size<=g)(x:∀g,Ap k=some g->Ap D=some g\/o.1.size<=g)(M:∀g,Ap U'=some g->Ap k≠some g)(s:Aa X l (oC v {UY a p tc C A E B with Y:=ta,Z:=j} k (n+1) (u.and r))):Ff v q l {UY a p tc C A E B with Y:=ta,Z:=j} p z k (n+1) (u.and r) X:=by
 subst N;have⟨_,_,W,_⟩:=G.row;cases W;have t:=I.low;have O:∀g∈l::((Ap (C1 a.Y (Bc v u).E a.Z)).toList++(Ap D).toList),g<w.1.size:=λg c=>by
  simp only[Bv,A7,A8]at c;rcases c with rfl|c|c
  .exact h.box.lt
  .exact(h.uo.g c).2
  .exact(h.I.g c).2
 have hz:w.1.size<=o.1.size:=Zm t.size H.size;have zA:=h.box.lt;have Y:=(((h.rr.unit O I).K (U:=[]) (Tn.of H) Yu).clear (V':=(l::((Ap (C1 a.Y (Bc v u).E a.Z)).toList++(Ap D).toList))++((Ap (C1 ta (Bc v (u.and r)).E j)).toList++(Ap k).toList)) (λg c=>by
  simp only[A7,A8]at c;rcases c with c|c|c
  .exact .inl c
  .rcases y g c with d|d
   .exact .inl (by simp only[Bv,A7,A8];exact .inr (.inl d))
   .exact .inr d
  .rcases x g c with d|d
   .exact .inl (by simp only[Bv,A7,A8];exact .inr (.inr d))
   .exact .inr d)).K hT (λg c=> .inl (by
  have d:=hV g c;simp only[Bv,A7,A8];exact .inl d))
 have f:=Y.clear (V':=l::((Ap (C1 ta (Bc v (u.and r)).E j)).toList++(Ap k).toList)) (λg c=> .inl (by
  simp only[Bv,A7,A8]at c |-;rcases c with d|d
  .exact .inl (.inl d)
  .exact .inr d))
 refine⟨s,⟨f.W,f.zk,f.z,f.s,f.p,f.l,f.q,f.m,f.cs,f.cp,f.cl,f.cq,f.cm,f.lt,f.ap⟩,G,Z,λg c=>⟨?_,M g c⟩,λg c=> ?_,h.iz⟩
 .rcases y g c with d|d
  .exact(h.ud g d).1
  .omega
 .rcases x g c with d|d
  .exact h.dd g d
  .omega
theorem Ff.start{i:List (Kd×Value)}{m:Zj}(h:AM w d (C3 a.i v.ss.length a.sc) (C3 a.Y v.E.length a.Z) (C3 a.W v.ks.length a.X) (C3 a.N v.ps.length a.Q) (C3 a.L v.ls.length a.P) (C3 a.qa v.H.length a.qc) (C3 a.y v.ms.length a.mc) m v)(l:d<=w.1.size)(k:RR w (Ap (C3 a.Y v.E.length a.Z)).toList a b i v):
 Ff v d w.1.size a b i Zb 0 (EN v) ((w.alloc (.cells (z20 0).toArray 171)).setCells w.1.size 0 (oC v a Zb 0 (EN v)))/\Zz w ((w.alloc (.cells (z20 0).toArray 171)).setCells w.1.size 0 (oC v a Zb 0 (EN v))):=by
 obtain⟨j,f,_⟩:=boxed (X:=w) (cs:=oC v a Zb 0 (EN v)) (z:=z20 0) (T:=171) rfl;refine⟨⟨j,?_,?_,Ar.nil _ _,λg c=>⟨?_,λe=>by cases e⟩,(λg e=>by cases e),l⟩,f⟩
 .rw[Ts];refine(k.clear (λg c=> ?_)).K (U:=[]) (Tn.of f) Yu;simp only[Bv,A7,A8]at c;rcases c with rfl|c|c
  .exact .inr (Zx)
  .exact .inl (D2 c)
  .cases c
 .rw[Ts];exact h.u.A f
 .rw[Ts]at c;have:=(h.u.g c).2;omega
def LC(ob:Nat)(w:Zh):Nat:=match w.cell? (Zd ob 18)with
 |some v=>(intOf v).toNat
 |none=>0
theorem Ff.jn{c:Nat}{e:List (Kd×Value)}(h:Ff v d c a b e D n u w):LC c w=n:=by unfold LC;rw[(h.box 18 _ rfl).1];simp[intOf]
theorem UZ{d:Zh}{f:Nat}{V:List (Kd×Value)}(h:Ff v B f a b V D n u X){S U T Q M:D4}{E:Zj}(o:AM d X.1.size S U T P L Q M E (Bc v u))(z:Zz X d)(W:w.1.size+1<B)(p:Aa d (w.1.size+1) (z20 0)/\Zz w d){c C:Zj}(l:c=Bw (Bc v u) S U T P L Q M)(y:C=Jq 0 c n D):
 (c.length=17/\(∀x∈c,x.oneCell'=true)/\d.there f 1 c.toArray.size)/\Aa (d.setCells f 1 c.toArray.toList) f C/\(C.length=20/\(∀x∈C,x.oneCell'=true)/\(d.setCells f 1 c.toArray.toList).there (w.1.size+1) 0 C.toArray.size)/\Aa ((d.setCells f 1 c.toArray.toList).setCells (w.1.size+1) 0 C.toArray.toList) (w.1.size+1) C/\
   SwA v (some (u,n)) w.1.size ((d.setCells f 1 c.toArray.toList).setCells (w.1.size+1) 0 C.toArray.toList) C/\Zz w ((d.setCells f 1 c.toArray.toList).setCells (w.1.size+1) 0 C.toArray.toList):=by
 have I:=h.iz;have J:=h.box.lt;have Z:=z.size;have q:c.length=17:=by rw[l];rfl
 have A:∀x∈c,x.oneCell'=true:=by have⟨Y,e,_⟩:=o.jr;rw[l,e];simp[Bw,oneCell']
 have G:D.oneCell'=true:=by have⟨_,_,e,_⟩:=h.I.row;rw[e];rfl
 have s:Aa d f (oC v a D n u):=Aa.A (v:=Ze) h.box z;have k:C.length=20/\∀x∈C,x.oneCell'=true:=by
  rw[y];refine⟨by simp[Jq,q],λx r=> ?_⟩;simp only[Jq,Bv,A7,not_mem_nil,or_false]at r;rcases r with rfl|r|rfl|rfl
  .rfl
  .exact A x r
  .rfl
  .exact G
 have F:=AV f c 1 d;have H:Aa (d.setCells f 1 c) f C:=by rw[y];exact Aa.gd c [Ze] (Bw (Bc v u) (C1 a.i v.ss a.sc) (C1 a.Y (Bc v u).E a.Z) (C1 a.W u.ks a.X) (C1 a.N v.ps a.Q) (C1 a.L v.ls a.P) (C1 a.qa u.H a.qc) (C1 a.y u.ms a.mc)) [Zg n,D] d s (by rw[q];rfl)
 have t:Aa (d.setCells f 1 c) (w.1.size+1) (z20 0):=Aa.same p.1 (F.block _ p.1.lt Yt);have R:=AV (w.1.size+1) C 0 (d.setCells f 1 c);have m:Tn [f,w.1.size+1] d ((d.setCells f 1 c).setCells (w.1.size+1) 0 C):=(F.aj Yu).ah (R.aj Yu);have O:=p.2.size
 refine⟨⟨q,A,?_⟩,H,⟨k.1,k.2,?_⟩,t.ay C (by rw[k.1];rfl),⟨S,U,T,P,L,Q,M,E,D,by rw[y,l],(o.stays m (λg i j=> ?_)).aj Yv,((h.I.A z).K m (λg i j=> ?_)).aj Yv,λg i j=> ?_⟩,p.2.ah (m.A O (λg i=> ?_))⟩
 .rw[show c.toArray.size=17 from by rw[A1];exact q];exact Aa.fs [Ze] (Bw (Bc v u) (C1 a.i v.ss a.sc) (C1 a.Y (Bc v u).E a.Z) (C1 a.W u.ks a.X) (C1 a.N v.ps a.Q) (C1 a.L v.ls a.P) (C1 a.qa u.H a.qc) (C1 a.y u.ms a.mc)) [Zg n,D] s
 .rw[show C.toArray.size=20 from by rw[A1];exact k.1];exact t.there
 .have:=o.lo g j;simp at i;omega
 .have K:=h.dd g i;have N:=(h.I.g i).1;simp at j;omega
 .have K:=o.lo g j;have N:=(h.I.g i).2;omega
 .simp at i;omega
theorem Abi{W:Zh}{a:Nat}{r s t u v C c6 E F w x XG y z II A Qe B b c d e f g i j l m n o p q:D4}(h:Aa X a [r,s,t,u,v,C,c6,D,E,F,w,x,XG,y,z,II,A,Qe,B,b])(G:W=(((((((((((((X.setCell (Zd a 5) c).setCell (Zd a 6) d).setCell (Zd a 7) e).setCell (Zd a 8) f).setCell (Zd a 9) g).setCell (Zd a 10) i).setCell (Zd a 11) j).setCell (Zd a 12) k).setCell (Zd a 13) l).setCell (Zd a 14) m).setCell (Zd a 15) n).setCell (Zd a 16) o).setCell (Zd a 17) p).setCell (Zd a 18) q):
 Aa W a [r,s,t,u,v,c,d,e,f,g,i,j,k,l,m,n,o,p,q,b]/\Tn [a] X W:=by
 subst G
 exact⟨(((((((((((((h.set 5 c).set 6 d).set 7 e).set 8 f).set 9 g).set 10 i).set 11 j).set 12 k).set 13 l).set 14 m).set 15 n).set 16 o).set 17 p).set 18 q,(((((((((((((AP _ _ _ _).ah (AP _ _ _ _)).ah (AP _ _ _ _)).ah (AP _ _ _ _)).ah (AP _ _ _ _)).ah (AP _ _ _ _)).ah (AP _ _ _ _)).ah (AP _ _ _ _)).ah (AP _ _ _ _)).ah (AP _ _ _ _)).ah (AP _ _ _ _)).ah (AP _ _ _ _)).ah (AP _ _ _ _)).ah (AP _ _ _ _)⟩
theorem Tu(v:Vd)(a:Va)(A:Int)(w:Zh)(hr:Df w w.1.size a v)(d:Wj a v)(hf:FZ v)(i:CB v->Kk w a v):
 D8 115 #[.agg #[Zg v.wd,Zg v.lim,C3 a.i v.ss.length a.sc,C3 a.Y v.E.length a.Z,Zg v.O,Zg v.D,Zg v.F,Zg v.C,C3 a.W v.ks.length a.X,C3 a.N v.ps.length a.Q,C3 a.L v.ls.length a.P,Zg v.M,C3 a.qa v.H.length a.qc,C3 a.y v.ms.length a.mc,Zg v.U,Zg v.V,Zg v.ro],Zg A] w (SwP v A w):=by
 have⟨W,c⟩:=Ae ((w.alloc (.cells #[Zg v.wd,Zg v.lim,C1 a.i v.ss a.sc,C1 a.Y v.E a.Z,Zg v.O,Zg v.D,Zg v.F,Zg v.C,C1 a.W v.ks a.X,C1 a.N v.ps a.Q,C1 a.L v.ls a.P,Zg v.M,C1 a.qa v.H a.qc,C1 a.y v.ms a.mc,Zg v.U,Zg v.V,Zg v.ro] 100)).alloc (.cells #[Ze,Ze,Ze,Zb,Zb,Ze,Ze,Ze,Ze,Zb,Zb,Zb,Ze,Zb,Zb,Ze,Ze,Ze,Ze,Zb] 171))
 have f:=(Bi c).1;have y:=(Bi c).2.1;have m:=(Bi c).2.2.1;have x:Aa W (w.1.size+1) (z20 0):=(Bi (k:=z20 0) c).2.2.2
 have I:Hid (∀X,Zz W X->Aa X w.1.size [Zg v.wd,Zg v.lim,C1 a.i v.ss a.sc,C1 a.Y v.E a.Z,Zg v.O,Zg v.D,Zg v.F,Zg v.C,C1 a.W v.ks a.X,C1 a.N v.ps a.Q,C1 a.L v.ls a.P,Zg v.M,C1 a.qa v.H a.qc,C1 a.y v.ms a.mc,Zg v.U,Zg v.V,Zg v.ro]/\Aa X (w.1.size+1) (z20 0)/\Zz w X):=λX Z=>⟨Aa.A m Z,Aa.A (v:=Ze) x Z,f.ah (Z.aj f.size)⟩
 have j:=Yw (EA v a W (hr.T f) d hf);have yA:=Yw i;have l:=Yw c;clear c m x hr d i;go_enter func115,ntmps115;go_upto_region 1 with fail;rw[<-l.o];clear l
 go_wp2_with (refine wpList_load_mid rfl 100 _ rfl w.1.size 0 rfl [Zg v.wd,Zg v.lim,C1 a.i v.ss a.sc,C1 a.Y v.E a.Z,Zg v.O,Zg v.D,Zg v.F,Zg v.C,C1 a.W v.ks a.X,C1 a.N v.ps a.Q,C1 a.L v.ls a.P,Zg v.M,C1 a.qa v.H a.qc,C1 a.y v.ms a.mc,Zg v.U,Zg v.V,Zg v.ro] _ (I W Ad).1.range underlying100 rfl (by kernel_rfl) ?_)
 refine j.Ai ?_;rintro e w1 ⟨o,rfl,ho,zS⟩;clear j;cases o with
 |false=>
  have yH:Hid (¬(CB v/\0<=A/\A<=10000)):=λh=>by have:=ho.2 h.1;cases this
  clear ho yA;have E:=Yw (MG (X:=w1) (I w1 zS).2);clear I;go_wp2_with (refine wpList_store_mid rfl 171 _ _ rfl (w.1.size+1) 0 #[Zg 1,Ze,Ze,Zb,Zb,Ze,Ze,Ze,Ze,Zb,Zb,Zb,Ze,Zb,Zb,Ze,Ze,Ze,Ze,Zb] rfl rfl E.1 (by kernel_rfl) E.2.1 ?_);change bodyPost _ _ _ _ _ (w1.setCells (w.1.size+1) 0 (z20 1))
  refine bodyPost_ret (AY results115 _ _ (w.1.size+1) (z20 1) _ rfl E.2.2.1.range underlying171 rfl (by kernel_rfl)) rfl ?_;exact⟨none,z20 1,.inl ⟨yH,rfl⟩,rfl,rfl,E.2.2.2⟩
 |true=>
  have c:Hid (CB v):=ho.1 rfl;clear ho;go_wp2_with fail;refine Calls.mono (CS A 0 10000 w1) ?_;rintro e x ⟨rfl,vI⟩;subst vI;by_cases hun:0<=A/\A<=10000
  .rw[decide_eq_true hun];obtain⟨N,rfl⟩:∃N:Nat,A=N:=⟨A.toNat,by omega⟩;have hN:N<=10000:=by omega
   have⟨r,d⟩:=c.o;have F:Hid (Kk x a v):=(yA c).A (I x zS).2.2;have zG:Hid (∀o,ClTo v.C v.ps v.ls (4000 -(v.ss++v.E).length) N 0 (EN v) o->Fi v N o):=λo h=> .inr ⟨r,d,hun,by rw[Int.toNat_natCast];exact h⟩;have G:Hid (Ki v.wd v.C v.ps v.ls (4000 -(v.ss++v.E).length) (EN v)):=ME d;have zR:Hid ((v.ss++v.E).length<=4000):=EM d.log;have xL:Hid (v.wd=v.O):=d.same.1.1;have i:=zS.size
   replace I:Hid (∀X,Zz x X->Aa X w.1.size [Zg v.wd,Zg v.lim,C1 a.i v.ss a.sc,C1 a.Y v.E a.Z,Zg v.O,Zg v.D,Zg v.F,Zg v.C,C1 a.W v.ks a.X,C1 a.N v.ps a.Q,C1 a.L v.ls a.P,Zg v.M,C1 a.qa v.H a.qc,C1 a.y v.ms a.mc,Zg v.U,Zg v.V,Zg v.ro]/\Aa X (w.1.size+1) (z20 0)/\Zz w X):=λX Z=>I X (zS.ah (Z.aj i))
   have xC:Hid (w.1.size+2<=x.1.size):=by show _<=_;omega
   clear yA c hun d zS i f y
   go_wp2_with (refine wpList_load_mid rfl 100 _ rfl w.1.size 0 rfl [Zg v.wd,Zg v.lim,C1 a.i v.ss a.sc,C1 a.Y v.E a.Z,Zg v.O,Zg v.D,Zg v.F,Zg v.C,C1 a.W v.ks a.X,C1 a.N v.ps a.Q,C1 a.L v.ls a.P,Zg v.M,C1 a.qa v.H a.qc,C1 a.y v.ms a.mc,Zg v.U,Zg v.V,Zg v.ro] _ (I x Ad).1.range underlying100 rfl (by kernel_rfl) ?_)
   refine Calls.mono (FK v a x F) ?_;rintro e d ⟨S,U,T,P,L,Q,M,rs,rfl,hA,g,f⟩;obtain⟨c,b,zs,rfl,rfl,rfl,rfl,rfl,rfl,rfl,R⟩:=RR.start hA g;have⟨vs,zE⟩:=Ae (Bw v (C1 c.i v.ss c.sc) (C1 c.Y v.E c.Z) (C1 c.W v.ks c.X) (C1 c.N v.ps c.Q) (C1 c.L v.ls c.P) (C1 c.qa v.H c.qc) (C1 c.y v.ms c.mc))
   have J:vs.length=17:=by rw[zE];rfl
   have⟨D0,l⟩:=Ae (Jq 0 vs 0 Zb);have O:oC v c Zb 0 (EN v)=D0:=by rw[l,zE];unfold oC;rw[Ts];rfl
   have y:D0.length=20/\∀u∈D0,u.oneCell'=true:=by rw[l,zE];exact⟨rfl,by simp[Jq,Bw,oneCell']⟩
   have B:Hid (prog.built 171 [(1,.agg vs.toArray)]=some D0.toArray):=by show _=some D0.toArray;rw[l];exact Wx J
   have i:=Ff.start hA f.size R;rw[O]at i;have⟨W4,z⟩:=Ae ((d.alloc (.cells #[Ze,Ze,Ze,Zb,Zb,Ze,Ze,Ze,Ze,Zb,Zb,Zb,Ze,Zb,Zb,Ze,Ze,Ze,Ze,Zb] 171)).setCells d.1.size 0 D0.toArray.toList);have K:W4=(d.alloc (.cells (z20 0).toArray 171)).setCells d.1.size 0 D0:=z;rw[<-K]at i
   have j:Hid ((d.alloc (.cells #[Ze,Ze,Ze,Zb,Zb,Ze,Ze,Ze,Ze,Zb,Zb,Zb,Ze,Zb,Zb,Ze,Ze,Ze,Ze,Zb] 171)).there d.1.size 0 D0.toArray.size/\D0.length=20/\∀u∈D0,u.oneCell'=true):=⟨by rw[show D0.toArray.size=20 from by rw[A1];exact y.1];exact(Aa.new d (z20 0) 171).there,y⟩;have m:Hid (Ff v x.1.size d.1.size c b zs Zb 0 (EN v) W4/\Zz x W4):=⟨i.1,f.ah (i.2.aj f.size)⟩
   have xM:Hid (x.1.size<=d.1.size):=f.size;have H:=Yw z;rw[show(Bw v (C1 c.i v.ss c.sc) (C1 c.Y v.E c.Z) (C1 c.W v.ks c.X) (C1 c.N v.ps c.Q) (C1 c.L v.ls c.P) (C1 c.qa v.H c.qc) (C1 c.y v.ms c.mc))=vs from zE.symm];clear i z K O l y zE J hA g R f F;go_wp2_with (first
    |refine Gw rfl 171 _ rfl [(1,.agg vs.toArray)] (by kernel_rfl) D0.toArray B ?_
    |refine wpList_store_mid rfl 171 _ _ rfl d.1.size 0 D0.toArray rfl rfl j.1 (by rw[A1,j.2.1];kernel_rfl) (all_oneCell_toArray j.2.2) ?_)
   rw[<-H.o];clear H B j;simp only[Act.put]
   go_loopw [] (λwr=>∃c b zs D n u,Hid (Ff v x.1.size d.1.size c b zs D n u wr/\Ki v.wd v.C v.ps v.ls (4000 -(v.ss++v.E).length) u/\(∀o,ClTo v.C v.ps v.ls (4000 -(v.ss++v.E).length) N n u o->ClTo v.C v.ps v.ls (4000 -(v.ss++v.E).length) N 0 (EN v) o)/\n<=N/\Zz x wr)) (λwr=>N -LC d.1.size wr)
   case atStart=>exact⟨c,b,zs,_,0,EN v,m.1,G,λo h=>h,Az _,m.2⟩
   case round=>
    clear m G;clear c b zs;obtain⟨c,b,zs,D,n,u,B⟩:=hrel;have i:(Bc v u).E.length=v.E.length+u.ds.length:=by simp[Bc]
    have⟨m,f⟩:=Ae ((Bc v u).E.length);have z:Hid (m=(Bc v u).E.length/\m=v.E.length+u.ds.length):=⟨f,by omega⟩
    have K:Hid (∀X,Zz wr X->Aa X d.1.size [Ze,Zg v.wd,Zg v.lim,C1 c.i v.ss c.sc,C3 c.Y m c.Z,Zg v.O,Zg v.D,Zg v.F,Zg v.C,C7 b u.ks c.X,C1 c.N v.ps c.Q,C1 c.L v.ls c.P,Zg u.M,C1 c.qa u.H c.qc,C1 c.y u.ms c.mc,Zg u.U,Zg u.V,Zg u.ro,Zg n,D]):=λX Z=>by have h:=(B.1.A Z).box;unfold oC at h;rw[<-f,B.1.rr.W]at h;exact h
    clear f i;have O:Hid ((Bc v u).ss.length<=1048576/\(Bc v u).E.length<=1048576/\(Bc v u).H.length<=100000000/\(Bc v u).ms.length<=100000000/\(Bc v u).ks.length<=600/\(Bc v u).ps.length<=100/\(Bc v u).ls.length<=200/\∀k∈(Bc v u).ks,k.B.length<=30):=by have f:=zR.o;have G:=B.2.1;have h3:=G.dl;have h4:=G.ql;have h5:=G.ml;rw[Ak]at f;have h6:=z.o;exact⟨by show v.ss.length<=_;omega,by omega,by show u.H.length<=_;omega,by show u.ms.length<=_;omega,by show u.ks.length<=_;omega,G.ok.pl,G.ok.ll,λk i=>(G.ok.B k i).1⟩
    have tF:d.1.size<wr.1.size:=Aa.lt B.1.box;have tE:=B.2.2.2.1;obtain⟨R,_⟩:=K wr Ad 18 _ rfl;by_cases hlt:n<N
    .have tB:(n:Int)<N:=by omega
     obtain⟨l,_⟩:=K wr Ad 12 _ rfl;obtain⟨F,_⟩:=K wr Ad 13 _ rfl;obtain⟨H,_⟩:=K wr Ad 14 _ rfl;obtain⟨J,_⟩:=K wr Ad 15 _ rfl;obtain⟨g,_⟩:=K wr Ad 16 _ rfl;obtain⟨q,_⟩:=K wr Ad 17 _ rfl
     have⟨W5,i⟩:=D6 wr #[Zg u.M,C1 c.qa u.H c.qc,C1 c.y u.ms c.mc,Zg u.U,Zg u.V,Zg u.ro] 98;have y:=(AE i).1;have y5:=((AE i).2.2 5 _ rfl).1;have zA:Hid (Zz wr W5/\Zz x W5):=⟨y,B.2.2.2.2.ah (y.aj B.2.2.2.2.size)⟩;have j:=Yw i;clear i y;go_upto_region 6 with fail;rw[<-j.o];clear j l F H J g q R;have y:=B.2.1.ok.r1
     by_cases hro:u.ro=1000000000
     .have yS:(1000000000:Int)<=u.ro:=by omega
      have R:Hid (Fi v N none):=zG _ (B.2.2.1 _ (.old n u hlt hro));clear zG y z K B;have E:=Yw (MG (X:=W5) (I W5 zA.2).2);clear I;go_wp2_with (refine wpList_store_mid rfl 171 _ _ rfl (w.1.size+1) 0 #[Zg 1,Ze,Ze,Zb,Zb,Ze,Ze,Ze,Ze,Zb,Zb,Zb,Ze,Zb,Zb,Ze,Ze,Ze,Ze,Zb] rfl rfl E.1 (by kernel_rfl) E.2.1 ?_);change bodyPost _ _ _ _ _ (W5.setCells (w.1.size+1) 0 (z20 1))
      refine bodyPost_ret (AY results115 _ _ (w.1.size+1) (z20 1) _ rfl E.2.2.1.range underlying171 rfl (by kernel_rfl)) rfl ?_;exact⟨none,z20 1,R,rfl,rfl,E.2.2.2⟩
     .have yS:¬(1000000000:Int)<=u.ro:=by omega
      have zH:Hid (Ff v x.1.size d.1.size c b zs D n u W5):=B.1.A zA.1;have j:=Yw zH.rr
      have s:=Yw (Tb v.O v.D v.F v.C b c.X zs u.ks v.ps v.ls c.N c.L c.Q c.P u.M u.U u.V u.ro c.qa c.y c.qc c.mc u.H u.ms W5 j.zk j.z (j.lt b (.inl rfl)) j.p j.l j.q j.m j.cq j.cm (λp e=>j.lt _ (.inr (.inl ⟨p,by simp[e],rfl⟩))) (λp e=>j.lt _ (.inr (.inl ⟨p,by simp[e],rfl⟩))) (by rw[<-xL.o];exact B.2.1.ok) (Dz B.2.1.ml));have i:=K W5 zA.1
      obtain⟨k5,_⟩:=i 5 _ rfl;obtain⟨k6,_⟩:=i 6 _ rfl;obtain⟨k7,_⟩:=i 7 _ rfl;obtain⟨k8,_⟩:=i 8 _ rfl;obtain⟨k9,_⟩:=i 9 _ rfl;obtain⟨C,_⟩:=i 10 _ rfl;obtain⟨vL,_⟩:=i 11 _ rfl;obtain⟨l,_⟩:=i 12 _ rfl;obtain⟨F,_⟩:=i 13 _ rfl;obtain⟨H,_⟩:=i 14 _ rfl;obtain⟨J,_⟩:=i 15 _ rfl;obtain⟨g,_⟩:=i 16 _ rfl;obtain⟨q,_⟩:=i 17 _ rfl;clear i j;go_wp2_with fail;refine s.Ai ?_
      rintro e w6 ⟨r,b2,tc,xH,qa,ma,da,qc,mc,dc,i⟩;clear k5 k6 k7 k8 k9 C vL l F H J g q y5 s;have he:=i.e;subst he;have s:Qh v.ps v.ls v.C u r:=i.uto
      have⟨l,F⟩:=D6 w6 #[Ze,Zg v.O,Zg v.D,Zg v.F,Zg v.C,C7 b2 r.ks tc,C1 c.N v.ps c.Q,C1 c.L v.ls c.P,Zg r.M,C1 qa r.H qc,C1 ma r.ms mc,Zg r.U,Zg r.V,Zg r.ro,C1 da r.ds dc] 193;have J:=(AE F).1;have g:=(AE F).2.2
      have zJ:Hid (Aa l w6.1.size [Ze,Zg v.O,Zg v.D,Zg v.F,Zg v.C,C7 b2 r.ks tc,C1 c.N v.ps c.Q,C1 c.L v.ls c.P,Zg r.M,C1 qa r.H qc,C1 ma r.ms mc,Zg r.U,Zg r.V,Zg r.ro,C1 da r.ds dc]):=g;have j:Below W5.1.size W5 l:=i.low.ah (J.aj i.low.size)
      have H:Hid (Zz W5 l/\Zz x l/\Zz wr l/\Zz w6 l):=⟨j,zA.2.ah (j.aj zA.2.size),zA.1.ah (j.aj zA.1.size),J⟩;have C:=Yw i;have zB:Hid (Qh v.ps v.ls v.C u r):=s;have q:=Yw F;clear F i s j J;go_upto_region 9 with fail;rw[<-q.o];clear q;obtain⟨q,_⟩:=g 9 _ rfl;obtain⟨J,_⟩:=g 10 _ rfl;clear g;by_cases hq:23200<r.H.length
      .have xE:(23200:Int)<r.H.length:=by omega
       have R:Hid (Fi v N none):=zG _ (B.2.2.1 _ (.long n u r hlt hro zB (.inl hq)));clear zG y z K B zH C zB zJ;have E:=Yw (MG (X:=l) (I l H.2.1).2);clear I;go_wp2_with (refine wpList_store_mid rfl 171 _ _ rfl (w.1.size+1) 0 #[Zg 1,Ze,Ze,Zb,Zb,Ze,Ze,Ze,Ze,Zb,Zb,Zb,Ze,Zb,Zb,Ze,Ze,Ze,Ze,Zb] rfl rfl E.1 (by kernel_rfl) E.2.1 ?_)
       change bodyPost _ _ _ _ _ (l.setCells (w.1.size+1) 0 (z20 1));refine bodyPost_ret (AY results115 _ _ (w.1.size+1) (z20 1) _ rfl E.2.2.1.range underlying171 rfl (by kernel_rfl)) rfl ?_;exact⟨none,z20 1,R,rfl,rfl,E.2.2.2⟩
      .by_cases hm:600<r.ms.length
       .have xE:¬(23200:Int)<r.H.length:=by omega
        have vF:(600:Int)<r.ms.length:=by omega
        have R:Hid (Fi v N none):=zG _ (B.2.2.1 _ (.long n u r hlt hro zB (.inr hm)));clear zG y z K B zH C zB zJ;have E:=Yw (MG (X:=l) (I l H.2.1).2);clear I;go_wp2_with (refine wpList_store_mid rfl 171 _ _ rfl (w.1.size+1) 0 #[Zg 1,Ze,Ze,Zb,Zb,Ze,Ze,Ze,Ze,Zb,Zb,Zb,Ze,Zb,Zb,Ze,Ze,Ze,Ze,Zb] rfl rfl E.1 (by kernel_rfl) E.2.1 ?_)
        change bodyPost _ _ _ _ _ (l.setCells (w.1.size+1) 0 (z20 1));refine bodyPost_ret (AY results115 _ _ (w.1.size+1) (z20 1) _ rfl E.2.2.1.range underlying171 rfl (by kernel_rfl)) rfl ?_;exact⟨none,z20 1,R,rfl,rfl,E.2.2.2⟩
       .have xE:¬(23200:Int)<r.H.length:=by omega
        have vF:¬(600:Int)<r.ms.length:=by omega
        obtain⟨yE,_⟩:=zJ 14 _ rfl;by_cases hds:r.ds=[]
        .have vD:¬(0:Int)<r.ds.length:=by rw[hds];simp
         have zP:(Bc v (u.and r)).E=(Bc v u).E:=by simp[Bc,UR.and,hds]
         have zX:(Bc v (u.and r)).E.length=m:=by rw[zP];exact z.1.symm
         have y:Hid (Ff v x.1.size d.1.size c b zs D n u l):=B.1.A H.2.2.1
         have HY:Hid (Aa l d.1.size [Ze,Zg v.wd,Zg v.lim,C1 c.i v.ss c.sc,C3 c.Y m c.Z,Zg v.O,Zg v.D,Zg v.F,Zg v.C,C7 b u.ks c.X,C1 c.N v.ps c.Q,C1 c.L v.ls c.P,Zg u.M,C1 c.qa u.H c.qc,C1 c.y u.ms c.mc,Zg u.U,Zg u.V,Zg u.ro,Zg n,D]/\Aa l w6.1.size [Ze,Zg v.O,Zg v.D,Zg v.F,Zg v.C,C7 b2 r.ks tc,C1 c.N v.ps c.Q,C1 c.L v.ls c.P,Zg r.M,C1 qa r.H qc,C1 ma r.ms mc,Zg r.U,Zg r.V,Zg r.ro,C1 da r.ds dc]):=⟨K l H.2.2.1,zJ⟩
         have i:=HY.o
         have⟨W9,zO⟩:=Ae ((((((((((((((l.setCell (Zd (d.1.size) 5) (Zg v.O)).setCell (Zd (d.1.size) 6) (Zg v.D)).setCell (Zd (d.1.size) 7) (Zg v.F)).setCell (Zd (d.1.size) 8) (Zg v.C)).setCell (Zd (d.1.size) 9) (C7 b2 r.ks tc)).setCell (Zd (d.1.size) 10) (C1 c.N v.ps c.Q)).setCell (Zd (d.1.size) 11) (C1 c.L v.ls c.P)).setCell (Zd (d.1.size) 12) (Zg r.M)).setCell (Zd (d.1.size) 13) (C1 qa r.H qc)).setCell (Zd (d.1.size) 14) (C1 ma r.ms mc)).setCell (Zd (d.1.size) 15) (Zg r.U)).setCell (Zd (d.1.size) 16) (Zg r.V)).setCell (Zd (d.1.size) 17) (Zg r.ro)).setCell (Zd (d.1.size) 18) (Zg (n+1)))
         have zC:=Abi i.1 zO;have E:Hid (Ff v x.1.size d.1.size {UY c b2 tc qa ma qc mc with Y:=c.Y,Z:=c.Z} b2 xH D (n+1) (u.and r) W9/\Ki v.wd v.C v.ps v.ls (4000 -(v.ss++v.E).length) (u.and r)/\(∀o,ClTo v.C v.ps v.ls (4000 -(v.ss++v.E).length) N (n+1) (u.and r) o->ClTo v.C v.ps v.ls (4000 -(v.ss++v.E).length) N 0 (EN v) o)/\n+1<=N/\Zz x W9):=by
          refine⟨zH.next C H.2.2.2 (V:=[d.1.size]) ((λ(h:Tn [d.1.size] l W9)=>h) zC.2) (λg j=> .inl (D2 j)) (U':=C3 c.Y m c.Z) rfl (by rw[zP,z.1];exact y.uo.K zC.2 (λg j F=>by have:=(y.ud g j).1;simp at F;omega)) (by rw[hds,append_nil];exact y.I.K zC.2 (λg j F=>by have:=y.dd g j;simp at F;omega)) (λg j=> .inl (by rw[<-z.1];exact j)) (λg j=> .inl j) (λg j=>(y.ud g (by rw[<-z.1];exact j)).2) ?_,B.2.1.step zB hro (by omega) (by omega) (.inl hds),λo ho=>B.2.2.1 o (.step n u r o hlt hro zB (by omega) (by omega) (.inl hds) ho),hlt,?_⟩
          .unfold oC;rw[zX];exact zC.1
          .exact H.2.1.ah (((λ(h:Tn [d.1.size] l W9)=>h) zC.2).A H.2.1.size (λg j=>by simp at j;have:=xM.o;omega))
         have HM:Hid (N -LC d.1.size W9<N -LC d.1.size wr):=by show _<_;rw[E.1.jn,B.1.jn];omega
         obtain⟨z1,_⟩:=i.2 1 _ rfl;obtain⟨z2,_⟩:=i.2 2 _ rfl;obtain⟨z3,_⟩:=i.2 3 _ rfl;obtain⟨z4,_⟩:=i.2 4 _ rfl;obtain⟨z5,_⟩:=i.2 5 _ rfl;obtain⟨z6,_⟩:=i.2 6 _ rfl;obtain⟨z7,_⟩:=i.2 7 _ rfl;obtain⟨z8,_⟩:=i.2 8 _ rfl;obtain⟨z9,_⟩:=i.2 9 _ rfl;obtain⟨vX,_⟩:=i.2 10 _ rfl;obtain⟨vY,_⟩:=i.2 11 _ rfl;obtain⟨z12,_⟩:=i.2 12 _ rfl;obtain⟨vZ,_⟩:=i.2 13 _ rfl;obtain⟨o5,g5⟩:=i.1 5 _ rfl
         obtain⟨o6,g6⟩:=i.1 6 _ rfl;obtain⟨o7,g7⟩:=i.1 7 _ rfl;obtain⟨o8,g8⟩:=i.1 8 _ rfl;obtain⟨o9,g9⟩:=i.1 9 _ rfl;obtain⟨vN,xO⟩:=i.1 10 _ rfl;obtain⟨vO,xP⟩:=i.1 11 _ rfl;obtain⟨vP,xQ⟩:=i.1 12 _ rfl;obtain⟨vQ,xR⟩:=i.1 13 _ rfl;obtain⟨vR,xS⟩:=i.1 14 _ rfl;obtain⟨vS,xT⟩:=i.1 15 _ rfl;obtain⟨vT,xU⟩:=i.1 16 _ rfl;obtain⟨vU,xW⟩:=i.1 17 _ rfl;obtain⟨vV,xX⟩:=i.1 18 _ rfl;have yK:=Yw zO
         have yN:¬w6.1.size=d.1.size:=by have f:=C.low.size;have G:=zA.1.size;omega
         have yP:¬d.1.size=w6.1.size:=λe=>yN e.symm;clear i zC zO zP zX z K zJ y HY C zB zH q J;go_wp2;rw[<-yK.o];exact⟨⟨_,_,_,_,n+1,u.and r,E⟩,HM⟩
        .obtain⟨q,vK,s,J⟩:=UTo.some zB hds;have vD:(0:Int)<r.ds.length:=by rw[J];simp
         have xK:Hid (r.ds≠[]):=hds;have yC:Hid (r.ds=[s]):=J;clear J hds q vK;by_cases hfl:u.ds.length<4000 -(v.ss++v.E).length
         .have vE:¬(4000:Int)<=v.ss.length+m:=by have f:=zR.o;have G:=z.2;rw[Ak]at f hfl;omega
          have vG:v.ss.length<=4000:=by have f:=zR.o;rw[Ak]at f;omega
          have yT:m<=4000:=by omega
          obtain⟨dg,zK,vA,vC,xD⟩:=C.d.at (k:=0) (by rw[yC.o];simp);subst vA;have yB:Hid (¬dg=d.1.size/\¬Ap (C3 c.Y m c.Z)=some dg/\¬Ap D=some dg):=by
           have yM:∀g,RB b [c.i,c.N,c.L,c.qa,c.y] zs g->¬g=d.1.size/\¬Ap (C3 c.Y m c.Z)=some g/\¬Ap D=some g:=λg j=>by have f:=zH.rr.ap g j;rw[<-z.1]at f;simp only[Bv,A7,A8]at f;exact⟨λe=>f (.inl e),λe=>f (.inr (.inl e)),λe=>f (.inr (.inr e))⟩
           rcases C.fd ⟨dg,zK,none⟩ rfl with f|⟨q,f,G⟩|⟨q,f,G⟩|f
           .exact yM dg (.inl f)
           .exact yM dg (.inr (.inl ⟨q,by simp[f],G.symm⟩))
           .exact yM dg (.inr (.inl ⟨q,by simp[f],G.symm⟩))
           .have G:=zA.1.size;refine⟨λe=> ?_,λe=> ?_,λe=> ?_⟩
            .have h3:W5.1.size<=dg:=f;omega
            .have h3:W5.1.size<=dg:=f;rw[z.1]at e;have h4:=(B.1.uo.g e).2;omega
            .have h3:W5.1.size<=dg:=f;have h4:=(B.1.I.g e).2;omega
          have y:Hid (Ff v x.1.size d.1.size c b zs D n u l):=B.1.A H.2.2.1
          have yU:Hid (∀X,Zz l X->∃k uc Y,(Builtin.append_ #[28,28] 28 #[C3 c.Y m c.Z,Yz X.1.size 1 1]).run prog (X.alloc (.cells #[C4 (Im v.wd s)] 9))=.ok (C3 k (m+1) uc) Y/\Y.1[d.1.size]?=X.1[d.1.size]? /\Tn (d.1.size::(Ap (C3 c.Y m c.Z)).toList) X (Y.setCell (Zd (d.1.size) 4) (C3 k (m+1) uc))/\Ar (Y.setCell (Zd (d.1.size) 4) (C3 k (m+1) uc)) x.1.size (C3 k (m+1) uc) ((Bc v u).E++[Im v.wd s])/\∀g,Ap (C3 k (m+1) uc)=some g->Ap (C3 c.Y m c.Z)=some g\/X.1.size<=g):=λX Z=>by
           have f:=y.uo.A Z;have G:=z.1;have h3:=XI X x.1.size d.1.size 4 _ _ (Im v.wd s) f (λg j=>(y.ud g j).1) (by have:=y.box.lt;have:=Z.size;omega) (by have:=y.iz;have:=y.box.lt;have:=Z.size;omega) (by omega);rw[<-G]at h3;exact h3
          have J:Hid (∀X,D8 138 #[.agg #[Zg 7,C4 s,Zc,Ze,Zc,Zb],Zg v.wd] X λe w'=>e=C5 (C4 (Im v.wd s))/\Zz X w'):=λX=>Pe 7 s ⟨#[]⟩ 0 ⟨#[]⟩ none 0 [] v.wd X (.inl rfl) (Az _) (Az _) (Az _)
          have H8:Hid (∀X,Zz l X->Aa X d.1.size [Ze,Zg v.wd,Zg v.lim,C1 c.i v.ss c.sc,C3 c.Y m c.Z,Zg v.O,Zg v.D,Zg v.F,Zg v.C,C7 b u.ks c.X,C1 c.N v.ps c.Q,C1 c.L v.ls c.P,Zg u.M,C1 c.qa u.H c.qc,C1 c.y u.ms c.mc,Zg u.U,Zg u.V,Zg u.ro,Zg n,D]/\Aa X w6.1.size [Ze,Zg v.O,Zg v.D,Zg v.F,Zg v.C,C7 b2 r.ks tc,C1 c.N v.ps c.Q,C1 c.L v.ls c.P,Zg r.M,C1 qa r.H qc,C1 ma r.ms mc,Zg r.U,Zg r.V,Zg r.ro,C1 (some ⟨dg,zK,none⟩) r.ds dc]/\X.cell? (Zd dg zK)=some (C4 s)):=λX Z=>⟨K X (H.2.2.1.ah (Z.aj H.2.2.1.size)),Aa.A zJ Z,((H.2.2.2.ah (Z.aj H.2.2.2.size)).cell (p:=⟨dg,zK,none⟩) vC).ah (by simpa using xD 0 s (by rw[yC.o];rfl))⟩
          obtain⟨k3,_⟩:=(H8 l Ad).1 3 _ rfl;obtain⟨k4,_⟩:=(H8 l Ad).1 4 _ rfl;obtain⟨yE,_⟩:=(H8 l Ad).2.1 14 _ rfl;have d0:=(H8 l Ad).2.2;obtain⟨v0,_⟩:=(I l H.2.1).1 0 _ rfl;have yR:d.1.size<l.1.size:=Aa.lt (H8 l Ad).1;clear xD K zJ;go_upto_region 15 with fail
          go_cut [] (λp=>∃k uc X,Hid (Zz l X/\Aa p d.1.size [Ze,Zg v.wd,Zg v.lim,C1 c.i v.ss c.sc,C3 k (m+1) uc,Zg v.O,Zg v.D,Zg v.F,Zg v.C,C7 b u.ks c.X,C1 c.N v.ps c.Q,C1 c.L v.ls c.P,Zg u.M,C1 c.qa u.H c.qc,C1 c.y u.ms c.mc,Zg u.U,Zg u.V,Zg u.ro,Zg n,D]/\Tn (d.1.size::(Ap (C3 c.Y m c.Z)).toList) X p/\Ar p x.1.size (C3 k (m+1) uc) ((Bc v u).E++[Im v.wd s])/\∀g,Ap (C3 k (m+1) uc)=some g->Ap (C3 c.Y m c.Z)=some g\/X.1.size<=g))
          case first=>
           clear zG z B zH C zB y yB zR O zA k3
           go_region_law (first
            |(go_simp;go_at_call 138;refine(J l.drew).aj ?_;rintro e wf ⟨rfl,p⟩;have bf:Below l.1.size l wf:=Dm p;have zf:=bf.size;have⟨k,uc,Y,hr,hbY,hTY,hoY,hnY⟩:=yU wf bf;have hx:=(H8 wf bf).1;have n4:=(hx 4 _ rfl).1;have Z:=Aa.same hx hbY;obtain⟨y4,f4⟩:=Z 4 _ rfl;have a4:(wf.alloc (.cells #[C4 (Im v.wd s)] 9)).cell? (Zd (d.1.size) 4)=some (C3 c.Y m c.Z):=(Aa.A hx (Zy) 4 _ rfl).1;have E:=Yw (Zn bf (Zn (Z.set 4 (C3 k (m+1) uc)) (Zn hTY (Zn hoY hnY))));clear hx Z hTY hoY hnY hbY p;go_wp2_with fail)
            |(refine Bt (by rfl) (.tmp 75) (.tmp 84) 28 28 (by rfl) (by rfl) (by rfl) hr ?_))
           all_goals
            go_wp2_with fail;go_meet;exact⟨k,uc,wf,E⟩
          case rest=>
           revert wc;intro zF hcut;obtain⟨k,uc,X,p⟩:=hcut;clear yU J k3 k4 yE d0 v0;have yL:Hid (Aa zF w6.1.size [Ze,Zg v.O,Zg v.D,Zg v.F,Zg v.C,C7 b2 r.ks tc,C1 c.N v.ps c.Q,C1 c.L v.ls c.P,Zg r.M,C1 qa r.H qc,C1 ma r.ms mc,Zg r.U,Zg r.V,Zg r.ro,C1 (some ⟨dg,zK,none⟩) r.ds dc]/\zF.cell? (Zd dg zK)=some (C4 s)):=by
            have hx:=H8 X p.1;have vH:∀g,Ap (C3 c.Y m c.Z)=some g->g<wr.1.size:=λg j=>by rw[z.1]at j;exact(B.1.uo.g j).2
            have f:=C.low.size;have G:=zA.1.size;have hz:=p.1.size;have tG:=H.2.2.2.size;refine⟨Aa.same hx.2.1 (p.2.2.1.block _ hx.2.1.lt (λF=> ?_)),(cell?_of_block (a:=⟨dg,zK,none⟩) (p.2.2.1.block dg (by omega) (λF=> ?_))).ah hx.2.2⟩
            .simp only[Bv,A8]at F;rcases F with e|e
             .omega
             .have:=vH _ e;omega
            .simp only[Bv,A8]at F;rcases F with e|e
             .exact yB.1 e
             .exact yB.2.1 e
           have yV:Hid (Ar zF x.1.size D u.ds):=(y.I.A p.1).K p.2.2.1 (λg j F=>by
            simp only[Bv,A8]at F;rcases F with e|e
            .exact y.dd g j e
            .rw[z.1]at e;exact(y.ud g e).2 j)
           have zN:=p.2.1;have yF:d.1.size<zF.1.size:=zN.lt;obtain⟨ea,ec,Y2,xF,zZ,zT,zV,zU⟩:=XI zF.drew x.1.size d.1.size 19 D u.ds s (yV.A Ad.drew) (λg j=>y.dd g j) yF (by have:=y.iz;show _<=zF.1.size;omega) (Dz B.2.1.dl);have⟨zI,zM⟩:=D7 Y2 (d.1.size) 19 (C3 ea (u.ds.length+1) ec)
           have yO:Aa Y2 d.1.size [Ze,Zg v.wd,Zg v.lim,C1 c.i v.ss c.sc,C3 k (m+1) uc,Zg v.O,Zg v.D,Zg v.F,Zg v.C,C7 b u.ks c.X,C1 c.N v.ps c.Q,C1 c.L v.ls c.P,Zg u.M,C1 c.qa u.H c.qc,C1 c.y u.ms c.mc,Zg u.U,Zg u.V,Zg u.ro,Zg n,D]:=Aa.same zN zZ;obtain⟨vM,_⟩:=zN 19 _ rfl;obtain⟨vW,xN⟩:=yO 19 _ rfl
           have xG:Aa zI d.1.size [Ze,Zg v.wd,Zg v.lim,C1 c.i v.ss c.sc,C3 k (m+1) uc,Zg v.O,Zg v.D,Zg v.F,Zg v.C,C7 b u.ks c.X,C1 c.N v.ps c.Q,C1 c.L v.ls c.P,Zg u.M,C1 c.qa u.H c.qc,C1 c.y u.ms c.mc,Zg u.U,Zg u.V,Zg u.ro,Zg n,C3 ea (u.ds.length+1) ec]:=by rw[zM];exact yO.set 19 _
           rw[<-zM]at zT zV;have yD:Tn (d.1.size::(Ap D).toList) zF zI:=((Tn.of (V:=[]) (Below.refl zF.1.size zF).drew).aj (by simp)).ah zT
           have yI:Hid (Tn (d.1.size::((Ap (C3 c.Y m c.Z)).toList++(Ap D).toList)) l zI):=((Tn.of (V:=[]) p.1).aj (by simp)).ah ((p.2.2.1.aj (by simp;exact λb h=> .inr (.inl h))).ah (yD.aj (by simp;exact λb h=> .inr (.inr h))));have tC:=p.1.size;have xJ:=p.2.2.1.size
           have yZ:Hid (Ar zI x.1.size (C3 k (m+1) uc) ((Bc v u).E++[Im v.wd s])):=p.2.2.2.1.K yD (λg j F=>by
            simp only[Bv,A8]at F;have G:=y.box.lt;rcases F with e|e
            .rcases p.2.2.2.2 g j with f|f
             .rw[z.1]at f;exact(y.ud g f).1 e
             .omega
            .rcases p.2.2.2.2 g j with f|f
             .rw[z.1]at f;exact(y.ud g f).2 e
             .have:=(y.I.g e).2;omega)
           have yW:Hid (Ar zI x.1.size (C3 ea (u.ds.length+1) ec) (u.ds++[s])):=zV;have yJ:Hid (∀g,Ap (C3 k (m+1) uc)=some g->Ap (C3 c.Y m c.Z)=some g\/l.1.size<=g):=λg j=>by
            rcases p.2.2.2.2 g j with f|f
            .exact .inl f
            .exact .inr (by omega)
           have yG:Hid (∀g,Ap (C3 ea (u.ds.length+1) ec)=some g->Ap D=some g\/zF.1.size<=g):=zU;have yY:Hid (∀g,Ap (C3 k (m+1) uc)=some g->Ap (C3 ea (u.ds.length+1) ec)≠some g):=λg j Z=>by
            have h3:=(p.2.2.2.1.g j).2;rcases zU g Z with f|f
            .rcases p.2.2.2.2 g j with G|G
             .rw[z.1]at G;exact(y.ud g G).2 f
             .have:=(y.I.g f).2;omega
            .have h4:zF.1.size<=g:=f;omega
           have xI:=y.box.lt;have xA:Hid (∀g,Ap (C3 k (m+1) uc)=some g->¬g=d.1.size):=λg j e=>by
            rcases yJ g j with f|f
            .rw[z.1]at f;exact(y.ud g f).1 e
            .omega
           have yX:Hid (∀g,Ap (C3 ea (u.ds.length+1) ec)=some g->¬g=d.1.size):=λg j e=>by
            rcases yG g j with f|f
            .exact y.dd g f e
            .omega
           have Z:Hid (∀g,Ap (C3 ea (u.ds.length+1) ec)=some g->Ap D=some g\/l.1.size<=g):=λg j=>by
            rcases yG g j with f|f
            .exact .inl f
            .exact .inr (by omega)
           have xB:Hid (∀g∈d.1.size::((Ap (C3 c.Y m c.Z)).toList++(Ap D).toList),x.1.size<=g):=λg j=>by
            simp only[Bv,A7,A8]at j;have f:=y.iz;rcases j with G|G|G
            .omega
            .rw[z.1]at G;exact(y.uo.g G).1
            .exact(y.I.g G).1
           have zP:(Bc v (u.and r)).E=(Bc v u).E++[Im v.wd s]:=by have:=yC.o;simp[Bc,UR.and,this]
           have zX:(Bc v (u.and r)).E.length=m+1:=by rw[zP,Ak,<-z.1];rfl
           have h6:=yL.1;have vJ:=h6.lt;have yQ:¬w6.1.size=d.1.size:=by have f:=C.low.size;have G:=zA.1.size;omega
           have HY:Hid (Aa zI d.1.size [Ze,Zg v.wd,Zg v.lim,C1 c.i v.ss c.sc,C3 k (m+1) uc,Zg v.O,Zg v.D,Zg v.F,Zg v.C,C7 b u.ks c.X,C1 c.N v.ps c.Q,C1 c.L v.ls c.P,Zg u.M,C1 c.qa u.H c.qc,C1 c.y u.ms c.mc,Zg u.U,Zg u.V,Zg u.ro,Zg n,C3 ea (u.ds.length+1) ec]/\Aa zI w6.1.size [Ze,Zg v.O,Zg v.D,Zg v.F,Zg v.C,C7 b2 r.ks tc,C1 c.N v.ps c.Q,C1 c.L v.ls c.P,Zg r.M,C1 qa r.H qc,C1 ma r.ms mc,Zg r.U,Zg r.V,Zg r.ro,C1 (some ⟨dg,zK,none⟩) r.ds dc]):=⟨xG,Aa.same h6 (yD.block _ vJ (λF=>by
            simp only[Bv,A8]at F;rcases F with e|e
            .exact yQ e
            .have f:=(B.1.I.g e).2;have G:=C.low.size;have h3:=zA.1.size;omega))⟩
           obtain⟨yE,_⟩:=h6 14 _ rfl;have d0:=yL.2;have tA:dg<zF.1.size:=Dz H.2.2.2.size
           have zY:=Yw zM;clear h6 zM zN yO zT zV zU xG yD zZ;go_upto_region 16 with fail
           go_region_law (first
            |(refine Bt (by rfl) (.tmp 90) (.tmp 95) 28 28 (by rfl) (by rfl) (by rfl) xF ?_))
           all_goals
            clear xF vM yE d0;go_upto_region 17 with fail;rw[<-zY.o];clear zY vW xN;have i:=HY.o
            have⟨W9,zO⟩:=Ae ((((((((((((((zI.setCell (Zd (d.1.size) 5) (Zg v.O)).setCell (Zd (d.1.size) 6) (Zg v.D)).setCell (Zd (d.1.size) 7) (Zg v.F)).setCell (Zd (d.1.size) 8) (Zg v.C)).setCell (Zd (d.1.size) 9) (C7 b2 r.ks tc)).setCell (Zd (d.1.size) 10) (C1 c.N v.ps c.Q)).setCell (Zd (d.1.size) 11) (C1 c.L v.ls c.P)).setCell (Zd (d.1.size) 12) (Zg r.M)).setCell (Zd (d.1.size) 13) (C1 qa r.H qc)).setCell (Zd (d.1.size) 14) (C1 ma r.ms mc)).setCell (Zd (d.1.size) 15) (Zg r.U)).setCell (Zd (d.1.size) 16) (Zg r.V)).setCell (Zd (d.1.size) 17) (Zg r.ro)).setCell (Zd (d.1.size) 18) (Zg (n+1)))
            have zC:=Abi i.1 zO;have E:Hid (Ff v x.1.size d.1.size {UY c b2 tc qa ma qc mc with Y:=k,Z:=uc} b2 xH (C3 ea (u.ds.length+1) ec) (n+1) (u.and r) W9/\Ki v.wd v.C v.ps v.ls (4000 -(v.ss++v.E).length) (u.and r)/\(∀o,ClTo v.C v.ps v.ls (4000 -(v.ss++v.E).length) N (n+1) (u.and r) o->ClTo v.C v.ps v.ls (4000 -(v.ss++v.E).length) N 0 (EN v) o)/\n+1<=N/\Zz x W9):=by
             refine⟨zH.next C H.2.2.2 (V:=d.1.size::((Ap (C3 c.Y m c.Z)).toList++(Ap D).toList)) ((λ(h:Tn [d.1.size] zI W9)=>yI.ah (h.aj (by simp))) zC.2) (λg j=>by simp only[Bv,A7,A8]at j;rw[<-z.1];exact j) (U':=C3 k (m+1) uc) rfl (by rw[zP];exact yZ.K zC.2 (λg j F=>xA g j (D2 F))) (by rw[yC.o];exact yW.K zC.2 (λg j F=>yX g j (D2 F))) (λg j=>by rw[<-z.1];exact yJ g j) Z yY ?_,B.2.1.step zB hro (by omega) (by omega) (.inr hfl),λo ho=>B.2.2.1 o (.step n u r o hlt hro zB (by omega) (by omega) (.inr hfl) ho),hlt,?_⟩
             .unfold oC;rw[zX];exact zC.1
             .exact H.2.1.ah (((λ(h:Tn [d.1.size] zI W9)=>yI.ah (h.aj (by simp))) zC.2).A H.2.1.size (λg j=>xB g j))
            have HM:Hid (N -LC d.1.size W9<N -LC d.1.size wr):=by show _<_;rw[E.1.jn,B.1.jn];omega
            obtain⟨z1,_⟩:=i.2 1 _ rfl;obtain⟨z2,_⟩:=i.2 2 _ rfl;obtain⟨z3,_⟩:=i.2 3 _ rfl;obtain⟨z4,_⟩:=i.2 4 _ rfl;obtain⟨z5,_⟩:=i.2 5 _ rfl;obtain⟨z6,_⟩:=i.2 6 _ rfl;obtain⟨z7,_⟩:=i.2 7 _ rfl;obtain⟨z8,_⟩:=i.2 8 _ rfl;obtain⟨z9,_⟩:=i.2 9 _ rfl;obtain⟨vX,_⟩:=i.2 10 _ rfl;obtain⟨vY,_⟩:=i.2 11 _ rfl;obtain⟨z12,_⟩:=i.2 12 _ rfl;obtain⟨vZ,_⟩:=i.2 13 _ rfl;obtain⟨o5,g5⟩:=i.1 5 _ rfl
            obtain⟨o6,g6⟩:=i.1 6 _ rfl;obtain⟨o7,g7⟩:=i.1 7 _ rfl;obtain⟨o8,g8⟩:=i.1 8 _ rfl;obtain⟨o9,g9⟩:=i.1 9 _ rfl;obtain⟨vN,xO⟩:=i.1 10 _ rfl;obtain⟨vO,xP⟩:=i.1 11 _ rfl;obtain⟨vP,xQ⟩:=i.1 12 _ rfl;obtain⟨vQ,xR⟩:=i.1 13 _ rfl;obtain⟨vR,xS⟩:=i.1 14 _ rfl;obtain⟨vS,xT⟩:=i.1 15 _ rfl;obtain⟨vT,xU⟩:=i.1 16 _ rfl;obtain⟨vU,xW⟩:=i.1 17 _ rfl;obtain⟨vV,xX⟩:=i.1 18 _ rfl;have yK:=Yw zO
            have yN:¬w6.1.size=d.1.size:=by have f:=C.low.size;have G:=zA.1.size;omega
            have yP:¬d.1.size=w6.1.size:=λe=>yN e.symm;clear i zC zO zP zX z HY C zB zH y yI yZ yW yJ yG yY p yL yV yB H8 xA yX Z xB;go_wp2;rw[<-yK.o];exact⟨⟨_,_,_,_,n+1,u.and r,E⟩,HM⟩
         .have vE:(4000:Int)<=v.ss.length+m:=by have f:=zR.o;have G:=z.2;rw[Ak]at f hfl;omega
          have vG:v.ss.length<=4000:=by have f:=zR.o;rw[Ak]at f;omega
          have yT:m<=1048576:=by rw[z.1];exact O.2.1
          have R:Hid (Fi v N (some (u,n))):=zG _ (B.2.2.1 _ (.full n u r hlt hro zB xK hfl));have F:Hid (Zz x l):=H.2.1;have y:Hid (Ff v x.1.size d.1.size c b zs D n u l):=B.1.A H.2.2.1;have i:=K l H.2.2.1;obtain⟨k3,_⟩:=i 3 _ rfl;obtain⟨k4,_⟩:=i 4 _ rfl;have yR:d.1.size<l.1.size:=i.lt;clear i zG K B z zH C zB zJ hfl
          have Z:Hid (Kk l c (Bc v u)):=y.rr.ko y.uo O.1 O.2.1 O.2.2.1 O.2.2.2.1 O.2.2.2.2.1 O.2.2.2.2.2.1 O.2.2.2.2.2.2.1 O.2.2.2.2.2.2.2
          have⟨Y,j⟩:=Ae (Bw (Bc v u) (C1 c.i (Bc v u).ss c.sc) (C1 c.Y (Bc v u).E c.Z) (C1 c.W (Bc v u).ks c.X) (C1 c.N (Bc v u).ps c.Q) (C1 c.L (Bc v u).ls c.P) (C1 c.qa (Bc v u).H c.qc) (C1 c.y (Bc v u).ms c.mc));have g:Hid (l.rangeAt d.1.size 1 Y/\Y.length=17):=by show _/\_;rw[j];exact⟨Aa.gu [Ze] _ [Zg n,D] y.box,rfl⟩
          have i:=Yw (FK (Bc v u) c l Z);rw[<-j]at i;clear j Z;go_wp2_with (refine wpList_load_mid rfl 100 _ rfl d.1.size 1 rfl Y _ g.1 underlying100 rfl (by rw[g.2];kernel_rfl) ?_);refine i.Ai ?_;rintro e w9 ⟨S,U,T,P,L,Q,M,rs,rfl,hA,_,p⟩;clear i g;have⟨vs,zE⟩:=Ae (Bw (Bc v u) S U T P L Q M);rw[<-zE];have⟨C,hC⟩:=Ae (Jq 0 vs n D)
          have J:=Yw (UZ y hA p (Dz xC.o) (I w9 (F.ah (p.aj F.size))).2 zE hC);clear zE hC hA p I y F;go_wp2_with (first
           |refine wpList_store_mid rfl 100 _ _ rfl d.1.size 1 vs.toArray rfl rfl J.1.2.2 (by rw[A1,J.1.1];kernel_rfl) (all_oneCell_toArray J.1.2.1) ?_
           |refine wpList_load_mid rfl 171 _ rfl d.1.size 0 rfl C _ J.2.1.range underlying171 rfl (by rw[J.2.2.1.1];kernel_rfl) ?_
           |refine wpList_store_mid rfl 171 _ _ rfl (w.1.size+1) 0 C.toArray rfl rfl J.2.2.1.2.2 (by rw[A1,J.2.2.1.1];kernel_rfl) (all_oneCell_toArray J.2.2.1.2.1) ?_)
          exact bodyPost_ret (AY results115 _ _ (w.1.size+1) C _ rfl (Aa.range J.2.2.2.1) underlying171 rfl (by rw[J.2.2.1.1];kernel_rfl)) rfl ⟨some (u,n),C,R,rfl,J.2.2.2.2.1,J.2.2.2.2.2⟩
    .have tD:¬(n:Int)<N:=by omega
     have F:Hid (Zz x wr):=B.2.2.2.2;have y:Hid (Ff v x.1.size d.1.size c b zs D n u wr):=B.1;have R:Hid (Fi v N (some (u,n))):=zG _ (B.2.2.1 _ (.fin n u (by omega)));clear zG K B z;have Z:Hid (Kk wr c (Bc v u)):=y.rr.ko y.uo O.1 O.2.1 O.2.2.1 O.2.2.2.1 O.2.2.2.2.1 O.2.2.2.2.2.1 O.2.2.2.2.2.2.1 O.2.2.2.2.2.2.2
     have⟨Y,j⟩:=Ae (Bw (Bc v u) (C1 c.i (Bc v u).ss c.sc) (C1 c.Y (Bc v u).E c.Z) (C1 c.W (Bc v u).ks c.X) (C1 c.N (Bc v u).ps c.Q) (C1 c.L (Bc v u).ls c.P) (C1 c.qa (Bc v u).H c.qc) (C1 c.y (Bc v u).ms c.mc));have g:Hid (wr.rangeAt d.1.size 1 Y/\Y.length=17):=by show _/\_;rw[j];exact⟨Aa.gu [Ze] _ [Zg n,D] y.box,rfl⟩
     have i:=Yw (FK (Bc v u) c wr Z);rw[<-j]at i;clear j Z;go_wp2_with (refine wpList_load_mid rfl 100 _ rfl d.1.size 1 rfl Y _ g.1 underlying100 rfl (by rw[g.2];kernel_rfl) ?_);refine i.Ai ?_;rintro e w9 ⟨S,U,T,P,L,Q,M,rs,rfl,hA,_,p⟩;clear i g;have⟨vs,zE⟩:=Ae (Bw (Bc v u) S U T P L Q M);rw[<-zE];have⟨C,hC⟩:=Ae (Jq 0 vs n D)
     have J:=Yw (UZ y hA p (Dz xC.o) (I w9 (F.ah (p.aj F.size))).2 zE hC);clear zE hC hA p I y F;go_wp2_with (first
      |refine wpList_store_mid rfl 100 _ _ rfl d.1.size 1 vs.toArray rfl rfl J.1.2.2 (by rw[A1,J.1.1];kernel_rfl) (all_oneCell_toArray J.1.2.1) ?_
      |refine wpList_load_mid rfl 171 _ rfl d.1.size 0 rfl C _ J.2.1.range underlying171 rfl (by rw[J.2.2.1.1];kernel_rfl) ?_
      |refine wpList_store_mid rfl 171 _ _ rfl (w.1.size+1) 0 C.toArray rfl rfl J.2.2.1.2.2 (by rw[A1,J.2.2.1.1];kernel_rfl) (all_oneCell_toArray J.2.2.1.2.1) ?_)
     exact bodyPost_ret (AY results115 _ _ (w.1.size+1) C _ rfl (Aa.range J.2.2.2.1) underlying171 rfl (by rw[J.2.2.1.1];kernel_rfl)) rfl ⟨some (u,n),C,R,rfl,J.2.2.2.2.1,J.2.2.2.2.2⟩
  .rw[decide_eq_false hun];have yH:Hid (¬(CB v/\0<=A/\A<=10000)):=λh=>hun h.2;clear yA hun;have E:=Yw (MG (X:=x) (I x zS).2);clear I;go_wp2_with (refine wpList_store_mid rfl 171 _ _ rfl (w.1.size+1) 0 #[Zg 1,Ze,Ze,Zb,Zb,Ze,Ze,Ze,Ze,Zb,Zb,Zb,Ze,Zb,Zb,Ze,Ze,Ze,Ze,Zb] rfl rfl E.1 (by kernel_rfl) E.2.1 ?_);change bodyPost _ _ _ _ _ (x.setCells (w.1.size+1) 0 (z20 1))
   refine bodyPost_ret (AY results115 _ _ (w.1.size+1) (z20 1) _ rfl E.2.2.1.range underlying171 rfl (by kernel_rfl)) rfl ?_;exact⟨none,z20 1,.inl ⟨yH,rfl⟩,rfl,rfl,E.2.2.2⟩
