import Derived.Test.YtmjlkgpekcnacaaGreatX16
import Derived.Test.YtmjlkgpekcnacaaGreatX18
set_option maxRecDepth 100000
set_option maxHeartbeats 16000000
namespace Go.Proofs.YtmjlkgpekcnacaaGreat
open Go.ChangeShapes Go.WideShapes Go.ChangeAt Go.RowKit _root_.Go.Proofs.Tryz
variable{f:List Ld}{b e n c a m q g k size:Nat}{v S U T P L Q M:Value}{d:Dd}{V:List Nat}{X Y:Zh}{i l:Zj}{K now:Int}
theorem Wm(v:Vd)(e:Ed)(a:Va)(H:Zk)(O:Nat)(w:Zh)(h1:CF w w.heap.size a v)(h2:Kj w a v)(R:Fw v)(zE:Ab w w.heap.size H e.rf)(zP:H=none->e.rf.length=0/\O=0)(hl:e.rf.length<=1048576)(ht:e.tx.size<=maxLen)(hn:e.nm.size<=maxLen):
 Calls prog 112 #[.agg #[.int .i64 v.wd,.int .i64 v.lim,.slice a.Z v.ss.length a.j,.slice a.X v.A.length a.Y,.int .i64 v.O,.int .i64 v.D,.int .i64 v.G,.int .i64 v.C,.slice a.T v.ks.length a.U,.slice a.L v.ps.length a.Q,.slice a.J v.ls.length a.P,.int .i64 v.K,.slice a.g v.F.length a.qc,.slice a.i v.ms.length a.mc,.int .i64 v.R,.int .i64 v.S,.int .i64 v.ro],.agg #[.int .i64 e.kd,.string e.s,.string e.nm,.int .i64 e.H,.string e.tx,.slice H e.rf.length O]] w (VM v e w):=by
 have hR:∀X,Zz w X->CF X X.heap.size a v:=fun X m=>h1.M m;have hS:∀X,Zz w X->Ab X X.heap.size H e.rf:=fun X m=>zE.M m;have hP:Cp v->∀X,Zz w X->Jv X a v:=fun K X m=>(h2.cp h1 R K).below m
 refine Wl v e _ _ _ _ _ _ _ _ _ _ _ _ _ _ _ _ _ H O (WZ v) WY w ⟨R.s,R.t⟩ (fun X m=>DS v a X (hR X m) h2.cap R) ?_ (fun X m=>Ta e.kd e.s e.nm e.H e.tx H O e.rf v.wd X (hS X m) hl ht hn) ?_ ?_ ?_ ?_ ?_ ?_ (fun d X m=>NB e.kd e.s e.nm e.H e.tx H O e.rf v.wd X (hS X m) hl ht hn) ?_ ?_ ?_ ?_
 .intro K X m;refine(Fh v a X (hP K X m)).mono ?_;rintro o I ⟨S,U,T,P,L,Q,M,rs,rfl,F,h5,h4⟩;obtain⟨sb,n1,zY,rfl⟩:=h5 S (by simp);obtain⟨ub,n2,yB,rfl⟩:=h5 U (by simp);obtain⟨qb,n3,zC,rfl⟩:=h5 Q (by simp);obtain⟨mb,n4,zB,rfl⟩:=h5 M (by simp);obtain⟨_,_,e1,_⟩:=F.s.row;obtain⟨_,_,e2,_⟩:=F.u.row;obtain⟨_,_,e3,_⟩:=F.q.row;obtain⟨_,_,e4,_⟩:=F.m.row;cases e1;cases e2;cases e3;cases e4
  exact⟨sb,zY,ub,yB,T,P,L,qb,zC,mb,zB,rs,rfl,F,h4⟩
 .intro K X m;have G:=hP K X m;refine(GL v.O v.D v.G v.C a.T a.L a.J _ _ _ v.ks v.ps v.ls X G.rows.N G.k G.p G.l G.nk G.np G.nl G.cu).mono ?_;rintro o I ⟨T,P,L,rs,rfl,u,K,t⟩;obtain⟨b,p,l,W,E,D,C,rfl,rfl,rfl,j,n,zN,zO⟩:=CT.of u K t.size;exact⟨_,[l],rfl,t,by simp;exact⟨zN,zO⟩,_,b,p,l,W,E,D,C,rfl,rfl,j,n⟩
 .rintro cs V X I ⟨f,b,p,l,W,E,D,C,rfl,rfl,j,n⟩ t;exact⟨f,b,p,l,W,E,D,C,rfl,rfl,j,n.below t⟩
 .rintro⟨r,d⟩ s cs V X m ⟨f,b,p,l,W,E,D,C,rfl,rfl,j,n⟩;have B:=d.dm;have zR:=d.same.1.1;have ha:=B.jm s ht;rw[<-j]at ha;rw[<-zR];refine(Kf f v.wd v.D v.G v.C b _ _ _ W E D C v.ps v.ls e.s e.nm e.tx e.H e.rf H O X e.kd n ha (fun k J=>B.cu k (by rw[<-j];exact J)) (hS X m) zP).mono ?_;rintro o I ⟨N,⟨c,p',q',zF,rfl⟩|⟨g,b1,zZ,yA,yC,zW,zX,zU,zV,q,rfl,zS,zJ⟩⟩
  .rw[j]at zF;exact⟨N,_,rfl,.inl ⟨c,p',q',zF,rfl⟩⟩
  .rw[j]at q;exact⟨N,[_,_,_,_,_,_,_,_,_,_,_,_],rfl,.inr ⟨g,zZ,yA,zW,zX,zU,zV,q,rfl,f,b1,yC,zS,zJ⟩⟩
 .rintro g Y Z pa E la D X ⟨r,d⟩ s q ⟨f,b,C,j,n⟩ cb I t N;have zA:=VJ (d.tok.step s q);exact⟨f,b,C,j,n.gz t (fun z zT=>zA z.1 (by rw[<-j];exact List.mem_map.2 ⟨z,zT,rfl⟩)) N⟩
 .rintro g Y Z pa E la D X ⟨f,b,C,j,n⟩ I t;exact⟨f,b,C,j,n.below t⟩
 .rintro⟨r,d⟩ s _ g Y Z pa E la D X q ⟨f,b,C,j,n⟩;have B:=d.dm.step s q;have zA:=d.tok.step s q;have J:=n.ct;rw[j]at J;exact Qp v.wd g.D g.G g.C Y Z _ _ g.ks X J B.cf.len (fun i k hi=>zA k (Zs hi))
 .rintro⟨r,d⟩ s g Y Z pa E la D X q ⟨f,b,C,j,n⟩;have B:=d.dm.step s q;have zG:=n.srows;rw[j]at zG;refine(Ij v.wd g.D g.G g.C Y pa la Z E D g.ks g.ps g.ls X zG (fun A u=> ?_) (Dy n.po) (Dy n.lo) B.cf.len B.np B.nl B.cu).mono ?_
  .rcases n.tb with h|h
   .rw[h]at u;cases u;rw[<-j];exact n.z.some
   .rw[<-j,h];intro i k hi;simp at hi
  .rintro o I ⟨T,P,L,rs,rfl,u,_,t⟩;exact⟨T,P,L,rs,rfl,u,t⟩
 .rintro⟨r,d⟩ s g X T2 P2 L2 yE n2 qb zC mb zB q u hq hm;have B:=d.dm.step s q;obtain⟨za,zc,rfl⟩:=Ax u.aj;obtain⟨ya,yc,rfl⟩:=Ax u.pins;obtain⟨ka,kc,rfl⟩:=Ax u.aq;refine(ON v.wd g.D g.G g.C za zc _ _ g.ks (e.held g) v.K v.R v.S v.ro qb mb zC zB v.F v.ms X u.get.k (by have:=B.cf.len;omega) hq.ft hm.ft R.r d.round.dj.nq).mono ?_;rintro o I ⟨x,cx,y,cy,rfl,o1,o2,_,t⟩
  exact⟨t,_,_,rfl,Ao.own o1,Ao.own o2⟩
 .rintro⟨r,d⟩ g q;have zI:=d.wd.1;refine⟨fun J he=> ?_,fun he=>Jn (.inr (.inl fun zH=> ?_))⟩
  .rcases q with⟨_,_,hl,hg,yD,b1,q,rfl⟩|⟨h,_⟩|⟨h,_⟩|⟨h,_⟩|⟨h,_⟩|⟨h,_⟩|⟨h,_⟩
   .have F:=FJ e.tx e.rf v.wd zI;have zK:Cb e.tx e.rf v.wd=⟨#[]⟩:=he;rw[zK]at F;have h4:((⟨#[]⟩:Zi).size:Int)=0:=rfl;omega
   all_goals omega
  .rw[he]at zH;obtain⟨k,J,zM⟩:=zH;have F:=q.sz zI d.dm.cf.sz k J;rw[zM]at F;have h4:((⟨#[]⟩:Zi).size:Int)=0:=rfl;omega
 .rintro⟨r,d⟩;refine⟨d.same.1.1,?_⟩;have:=DV d.log;rw[List.length_append]at this;exact this
def Ht(k:Kd):Prop:=k.E.size<=2000/\k.B.length<=30/\∀s∈k.B,s.size<=8
theorem RU{f:Int}{b:List Kd}(h:MG f b):∀k∈b,Ht k:=fun k d=>by have a:=AX (h k d);refine⟨a.E,a.B,fun s e=> ?_⟩;obtain⟨i,c⟩:=List.getElem?_of_mem e;have:=a.size c;have:=a.hi;omega
structure NV (v:Vd):Prop where
 fit:Fw v
 sm:∀k∈v.ks,Ht k
 N:Gy v.ks v.ps v.ls
theorem Gx.ik{v:Vd}{e:Ed}(h:Gx v e d)(j:∀k∈v.ks,Ht k):∀k∈d.v.ks,Ht k:=by
 rcases h with⟨_,rfl⟩|⟨⟨r,g⟩,⟨c,a,b,_,rfl⟩|⟨l,f,rfl⟩⟩
 .intro k i;cases i
 .exact j
 .exact RU (g.tok.step f.1 f.2.1)
theorem JQ:Gy [] [] []:=⟨⟨Nat.zero_le _,Yu,Yu,Yu,Yu⟩,⟨Nat.zero_le _,Yu,Yu⟩,⟨Nat.zero_le _,Yu⟩,Yu,Yu⟩
theorem Gx.ij{v:Vd}{e:Ed}(h:Gx v e d)(i:Gy v.ks v.ps v.ls):Gy d.v.ks d.v.ps d.v.ls:=by
 rcases h with⟨_,rfl⟩|⟨⟨r,f⟩,⟨c,a,b,_,rfl⟩|⟨j,g,rfl⟩⟩
 .exact JQ
 .exact i
 .exact RQ (f.dm.step g.1 g.2.1) (f.jn.1.step f.dm g.2.1) (f.jn.2.step g.1 g.2.1) f.wd.2
def RV(n:Nat)(w:Zh)(vs:Zj):Prop:=∃u,NV u/\∀V X',(∀b∈V,b<n)->Tn V w X'->Lo u X'.heap.size X' vs
theorem RV.I{w d:Zh}{c:Zj}(h:RV n w c)(l:Tn V w d)(j:∀b∈V,b<n):RV n d c:=by
 obtain⟨u,k,h⟩:=h;refine⟨u,k,fun f g e i=>h (V++f) g (fun b a=> ?_) ((l.mono (by simp;exact fun b a=> .inl a)).trans (i.mono (by simp;exact fun b a=> .inr a)))⟩;rcases List.mem_append.1 a with h|h
 .exact j b h
 .exact e b h
theorem RV.below{w b:Zh}{a:Zj}(h:RV n w a)(c:Zz w b):RV n b a:=h.I (V:=[]) (Tn.of c) Yu
theorem RV.mono{w:Zh}{a:Zj}(h:RV n w a)(g:m<=n):RV m w a:=by obtain⟨u,f,h⟩:=h;exact⟨u,f,fun V c d=>h V c (fun b e=>Zr (d b e) g)⟩
theorem RV.D{w:Zh}{b:Zj}(h:RV n w b):∃u a,NV u/\b=Bh u (.slice a.Z u.ss.length a.j) (.slice a.X u.A.length a.Y) (.slice a.T u.ks.length a.U) (.slice a.L u.ps.length a.Q) (.slice a.J u.ls.length a.P) (.slice a.g u.F.length a.qc) (.slice a.i u.ms.length a.mc)/\CF w w.heap.size a u/\Kj w a u:=by obtain⟨u,c,h⟩:=h;obtain⟨a,h⟩:=h [] w Yu (Tn.of (Below.refl _ _));exact⟨u,a,c,h⟩
theorem RV.len{w:Zh}{b:Zj}(h:RV n w b):b.length=17/\∀u∈b,u.oneCell'=true:=by obtain⟨u,a,_,rfl,_⟩:=h.D;exact⟨rfl,by simp[Bh,Value.oneCell']⟩
theorem AD.rv{w a:Zh}{c:Zj}{u:Vd}(h:AD a w.heap.size S U T P L Q M c u)(b:NV u):RV w.heap.size a (Bh u S U T P L Q M):=⟨u,b,h.iw (Zx) (Below.refl _ _)⟩
def CX(p:Nat->Prop)(w:Zh)(vs:Zj):Prop:=∃u,NV u/\∀V X',(∀b∈V,p b)->Tn V w X'->Lo u X'.heap.size X' vs
theorem CX.I{p:Nat->Prop}{w d:Zh}{c:Zj}(h:CX p w c)(l:Tn V w d)(j:∀b∈V,p b):CX p d c:=by
 obtain⟨u,k,h⟩:=h;refine⟨u,k,fun f g e i=>h (V++f) g (fun b a=> ?_) ((l.mono (by simp;exact fun b a=> .inl a)).trans (i.mono (by simp;exact fun b a=> .inr a)))⟩;rcases List.mem_append.1 a with h|h
 .exact j b h
 .exact e b h
theorem CX.below{p:Nat->Prop}{w b:Zh}{a:Zj}(h:CX p w a)(c:Zz w b):CX p b a:=h.I (V:=[]) (Tn.of c) Yu
theorem RV.p{p:Nat->Prop}{w:Zh}{vs:Zj}(h:RV n w vs)(f:∀b,p b->b<n):CX p w vs:=by obtain⟨u,e,h⟩:=h;exact⟨u,e,fun V a c=>h V a (fun b d=>f b (c b d))⟩
theorem CX.zero{p:Nat->Prop}{w:Zh}{a:Zj}(h:CX p w a):RV 0 w a:=by obtain⟨u,g,h⟩:=h;exact⟨u,g,fun V c e d=>h V c (fun b f=>absurd (e b f) (Nat.not_lt_zero b)) d⟩
def Lp(w:Zh)(o:Ending)(w':Zh):Prop:=∃d vs,o=.returned (.agg (dL d vs).toArray)/\RV w.heap.size w' vs/\Zz w w'
theorem JR(j:Zj)(e:Ed)(f:Zk)(i:Nat)(w:Zh)(h:RV n w j)(g:Ab w w.heap.size f e.rf)(k:f=none->e.rf.length=0/\i=0)(s:e.rf.length<=1048576)(x:e.tx.size<=maxLen)(t:e.nm.size<=maxLen):
 Calls prog 112 #[.agg j.toArray,.agg (Ye e.kd e.s e.nm e.H e.tx f e.rf.length i)] w (Lp w):=by
 obtain⟨u,a,c,rfl,m,q⟩:=h.D;refine(Wm u e a f i w m q c.fit g k s x t).mono ?_;rintro o y ⟨d,l,b,rfl,v,r⟩;exact⟨d,l,rfl,⟨d.v,⟨b.fit c.fit,b.ik c.sm,b.ij c.N⟩,v⟩,r⟩
theorem Gn{w W:Zh}{a:Zj}(l:w.heap.size<=q)(j:q<W.heap.size)(b:Zz w W)(k:Aa W q El)(h:RV W.heap.size X a)(g:Zz W X):
 ((dL d a).length=22/\∀u∈dL d a,u.oneCell'=true)/\X.there q 0 (dL d a).toArray.size/\Aa (X.setCells q 0 (dL d a).toArray.toList) q (dL d a)/\Lp w (.returned (.agg (dL d a).toArray)) (X.setCells q 0 (dL d a).toArray.toList):=by
 have e:=Jt (d:=d) h.len;have i:=AL q (dL d a) 0 X;have c:=Aa.below (v:=Ze) k g;have f:=b.trans (g.mono b.size);refine⟨e,?_,c.au _ (by rw[e.1];rfl),d,a,rfl,(h.I i (by simpa using j)).mono b.size,f.trans (i.below f.size (by simpa using l))⟩;rw[show(dL d a).toArray.size=22 from by rw[List.size_toArray];exact e.1];exact c.there
theorem TB(A:Zj)(i s:Zi)(w:Zh)(h:RV m w A)(v:i.size<=maxLen):
 Calls prog 90 #[.agg A.toArray,.string i,.string s] w (Lp w):=by
 obtain⟨W,b⟩:∃W,W=(w.alloc (.cells A.toArray 80)).alloc (.cells Xn 139):=⟨_,rfl⟩;have f:=(Bm b).1;have r:=(Bm b).2.1;have e:Hid (Aa W w.heap.size A/\Aa W (w.heap.size+1) El):=⟨(Bm b).2.2.1,(Bm (k:=El) b).2.2.2⟩;have u:Hid (A.length=17):=h.len.1;have j:=Yw (JR A ⟨2,s,i,0,⟨#[]⟩,[]⟩ none 0 W (h.below f) (.inl rfl) (fun _=>⟨rfl,rfl⟩) Yu (Nat.zero_le _) v);have c:=Yw (Zn f r);have l:=Yw b
 clear b h f r;go_enter func90,ntmps90;go_upto_region 1 with fail;rw[<-l.o];clear l;go_wp2_with (refine wpList_load_mid rfl 80 _ rfl w.heap.size 0 rfl A _ e.o.1.range underlying80 rfl (by rw[u.o];kernel_rfl) ?_);refine Calls.mono j.o ?_;rintro o y ⟨d,x,rfl,q,n⟩;have a:=Yw (Gn (d:=d) (Nat.le_succ _) (by have:=c.o.2;omega) c.o.1 e.o.2 q n);clear j c e q n;obtain⟨D,g⟩:∃t,t=dL d x:=⟨_,rfl⟩;rw[<-g]at a
 rw[<-g];clear g;go_wp2_with (refine wpList_store_mid rfl 139 _ _ rfl (w.heap.size+1) 0 D.toArray rfl rfl a.o.2.1 (by rw[List.size_toArray,a.o.1.1];kernel_rfl) (all_oneCell_toArray a.o.1.2) ?_);exact bodyPost_ret (AW results90 _ _ (w.heap.size+1) D _ rfl (Aa.range a.o.2.2.1) underlying139 rfl (by rw[a.o.1.1];kernel_rfl)) rfl a.o.2.2.2
theorem Qy(A:Zj)(i:Zi)(w:Zh)(h:RV m w A)(u:i.size<=maxLen):
 Calls prog 92 #[.agg A.toArray,.string i] w (Lp w):=by
 obtain⟨W,b⟩:∃W,W=(w.alloc (.cells A.toArray 80)).alloc (.cells Xn 139):=⟨_,rfl⟩;have f:=(Bm b).1;have r:=(Bm b).2.1;have e:Hid (Aa W w.heap.size A/\Aa W (w.heap.size+1) El):=⟨(Bm b).2.2.1,(Bm (k:=El) b).2.2.2⟩;have s:Hid (A.length=17):=h.len.1;have j:=Yw (JR A ⟨3,⟨#[]⟩,i,0,⟨#[]⟩,[]⟩ none 0 W (h.below f) (.inl rfl) (fun _=>⟨rfl,rfl⟩) Yu (Nat.zero_le _) u);have c:=Yw (Zn f r);have l:=Yw b
 clear b h f r;go_enter func92,ntmps92;go_upto_region 1 with fail;rw[<-l.o];clear l;go_wp2_with (refine wpList_load_mid rfl 80 _ rfl w.heap.size 0 rfl A _ e.o.1.range underlying80 rfl (by rw[s.o];kernel_rfl) ?_);refine Calls.mono j.o ?_;rintro o x ⟨d,v,rfl,q,n⟩;have a:=Yw (Gn (d:=d) (Nat.le_succ _) (by have:=c.o.2;omega) c.o.1 e.o.2 q n);clear j c e q n;obtain⟨D,g⟩:∃t,t=dL d v:=⟨_,rfl⟩;rw[<-g]at a
 rw[<-g];clear g;go_wp2_with (refine wpList_store_mid rfl 139 _ _ rfl (w.heap.size+1) 0 D.toArray rfl rfl a.o.2.1 (by rw[List.size_toArray,a.o.1.1];kernel_rfl) (all_oneCell_toArray a.o.1.2) ?_);exact bodyPost_ret (AW results92 _ _ (w.heap.size+1) D _ rfl (Aa.range a.o.2.2.1) underlying139 rfl (by rw[a.o.1.1];kernel_rfl)) rfl a.o.2.2.2
theorem Qz(A:Zj)(s:Zi)(n:Int)(w:Zh)(h:RV m w A):
 Calls prog 93 #[.agg A.toArray,.string s,Zg n] w (Lp w):=by
 obtain⟨W,b⟩:∃W,W=(w.alloc (.cells A.toArray 80)).alloc (.cells Xn 139):=⟨_,rfl⟩;have f:=(Bm b).1;have r:=(Bm b).2.1;have e:Hid (Aa W w.heap.size A/\Aa W (w.heap.size+1) El):=⟨(Bm b).2.2.1,(Bm (k:=El) b).2.2.2⟩;have u:Hid (A.length=17):=h.len.1;have i:=Yw (JR A ⟨4,s,⟨#[]⟩,n,⟨#[]⟩,[]⟩ none 0 W (h.below f) (.inl rfl) (fun _=>⟨rfl,rfl⟩) Yu (Nat.zero_le _) (Nat.zero_le _));have c:=Yw (Zn f r)
 have j:=Yw b;clear b h f r;go_enter func93,ntmps93;go_upto_region 1 with fail;rw[<-j.o];clear j;go_wp2_with (refine wpList_load_mid rfl 80 _ rfl w.heap.size 0 rfl A _ e.o.1.range underlying80 rfl (by rw[u.o];kernel_rfl) ?_);refine Calls.mono i.o ?_;rintro o x ⟨d,v,rfl,q,l⟩;have a:=Yw (Gn (d:=d) (Nat.le_succ _) (by have:=c.o.2;omega) c.o.1 e.o.2 q l);clear i c e q l;obtain⟨D,g⟩:∃t,t=dL d v:=⟨_,rfl⟩
 rw[<-g]at a;rw[<-g];clear g;go_wp2_with (refine wpList_store_mid rfl 139 _ _ rfl (w.heap.size+1) 0 D.toArray rfl rfl a.o.2.1 (by rw[List.size_toArray,a.o.1.1];kernel_rfl) (all_oneCell_toArray a.o.1.2) ?_);exact bodyPost_ret (AW results93 _ _ (w.heap.size+1) D _ rfl (Aa.range a.o.2.2.1) underlying139 rfl (by rw[a.o.1.1];kernel_rfl)) rfl a.o.2.2.2
theorem NW(A:Zj)(n:Int)(w:Zh)(h:RV m w A):
 Calls prog 94 #[.agg A.toArray,Zg n] w (Lp w):=by
 obtain⟨W,b⟩:∃W,W=(w.alloc (.cells A.toArray 80)).alloc (.cells Xn 139):=⟨_,rfl⟩;have f:=(Bm b).1;have r:=(Bm b).2.1;have e:Hid (Aa W w.heap.size A/\Aa W (w.heap.size+1) El):=⟨(Bm b).2.2.1,(Bm (k:=El) b).2.2.2⟩;have s:Hid (A.length=17):=h.len.1;have i:=Yw (JR A ⟨5,⟨#[]⟩,⟨#[]⟩,n,⟨#[]⟩,[]⟩ none 0 W (h.below f) (.inl rfl) (fun _=>⟨rfl,rfl⟩) Yu (Nat.zero_le _) (Nat.zero_le _))
 have c:=Yw (Zn f r);have j:=Yw b;clear b h f r;go_enter func94,ntmps94;go_upto_region 1 with fail;rw[<-j.o];clear j;go_wp2_with (refine wpList_load_mid rfl 80 _ rfl w.heap.size 0 rfl A _ e.o.1.range underlying80 rfl (by rw[s.o];kernel_rfl) ?_);refine Calls.mono i.o ?_;rintro o v ⟨d,u,rfl,q,l⟩;have a:=Yw (Gn (d:=d) (Nat.le_succ _) (by have:=c.o.2;omega) c.o.1 e.o.2 q l);clear i c e q l
 obtain⟨D,g⟩:∃t,t=dL d u:=⟨_,rfl⟩;rw[<-g]at a;rw[<-g];clear g;go_wp2_with (refine wpList_store_mid rfl 139 _ _ rfl (w.heap.size+1) 0 D.toArray rfl rfl a.o.2.1 (by rw[List.size_toArray,a.o.1.1];kernel_rfl) (all_oneCell_toArray a.o.1.2) ?_);exact bodyPost_ret (AW results94 _ _ (w.heap.size+1) D _ rfl (Aa.range a.o.2.2.1) underlying139 rfl (by rw[a.o.1.1];kernel_rfl)) rfl a.o.2.2.2
theorem TC(A:Zj)(n:Int)(w:Zh)(h:RV m w A):
 Calls prog 96 #[.agg A.toArray,Zg n] w (Lp w):=by
 obtain⟨W,b⟩:∃W,W=(w.alloc (.cells A.toArray 80)).alloc (.cells Xn 139):=⟨_,rfl⟩;have f:=(Bm b).1;have r:=(Bm b).2.1;have e:Hid (Aa W w.heap.size A/\Aa W (w.heap.size+1) El):=⟨(Bm b).2.2.1,(Bm (k:=El) b).2.2.2⟩;have s:Hid (A.length=17):=h.len.1;have i:=Yw (JR A ⟨6,⟨#[]⟩,⟨#[]⟩,n,⟨#[]⟩,[]⟩ none 0 W (h.below f) (.inl rfl) (fun _=>⟨rfl,rfl⟩) Yu (Nat.zero_le _) (Nat.zero_le _))
 have c:=Yw (Zn f r);have j:=Yw b;clear b h f r;go_enter func96,ntmps96;go_upto_region 1 with fail;rw[<-j.o];clear j;go_wp2_with (refine wpList_load_mid rfl 80 _ rfl w.heap.size 0 rfl A _ e.o.1.range underlying80 rfl (by rw[s.o];kernel_rfl) ?_);refine Calls.mono i.o ?_;rintro o v ⟨d,u,rfl,q,l⟩;have a:=Yw (Gn (d:=d) (Nat.le_succ _) (by have:=c.o.2;omega) c.o.1 e.o.2 q l);clear i c e q l
 obtain⟨D,g⟩:∃t,t=dL d u:=⟨_,rfl⟩;rw[<-g]at a;rw[<-g];clear g;go_wp2_with (refine wpList_store_mid rfl 139 _ _ rfl (w.heap.size+1) 0 D.toArray rfl rfl a.o.2.1 (by rw[List.size_toArray,a.o.1.1];kernel_rfl) (all_oneCell_toArray a.o.1.2) ?_);exact bodyPost_ret (AW results96 _ _ (w.heap.size+1) D _ rfl (Aa.range a.o.2.2.1) underlying139 rfl (by rw[a.o.1.1];kernel_rfl)) rfl a.o.2.2.2
theorem UU(A:Zj)(b:Zi)(f:Zk)(i:Nat)(a:Zl)(n:Int)(w:Zh)(N:RV m w A)(r:Ab w w.heap.size f a)(E:f=none->a.length=0/\i=0)(R:a.length<=1048576)(ht:b.size<=maxLen):
 Calls prog 88 #[.agg A.toArray,.agg #[.string b,.slice f a.length i],Zg n] w (Lp w):=by
 have Q:=N.len.1;have u:∀X,Zz w X->Calls prog 101 #[.agg #[.string b,.slice f a.length i]] X fun o j=>∃g c,o=.returned (.agg #[.string b,Yz g a.length c])/\Ab j j.heap.size (some ⟨g,0,none⟩) a/\Zz X j:=fun X M=>(FA b f i a X (r.M M) E R).mono (fun o j ⟨g,c,h,ho,C⟩=>⟨g,c,h,Ab.own ho,C⟩)
 have y:∀X g c,Zz w X->Ab X X.heap.size (some ⟨g,0,none⟩) a->Calls prog 112 #[.agg A.toArray,.agg (Ye 1 ⟨#[]⟩ ⟨#[]⟩ n b (some ⟨g,0,none⟩) a.length c)] X (Lp X):=fun X g c M hg=>JR A ⟨1,⟨#[]⟩,⟨#[]⟩,n,b,a⟩ (some ⟨g,0,none⟩) c X (N.below M) hg (fun e=>by cases e) R ht (Nat.zero_le _)
 obtain⟨W,q⟩:∃W,W=((w.alloc (.cells A.toArray 80)).alloc (.cells #[.string b,.slice f a.length i] 35)).alloc (.cells Xn 139):=⟨_,rfl⟩;have P:=(CZ q).1;have Y:=(CZ q).2.1;have J:Hid (Aa W w.heap.size A/\Aa W (w.heap.size+1) [.string b,.slice f a.length i]/\Aa W (w.heap.size+2) El):=⟨(CZ q).2.2.1,(CZ q).2.2.2.1,(CZ (m:=El) q).2.2.2.2⟩;have z:Hid (A.length=17):=Q;have x:=Yw (Zn P Y);have O:=Yw q
 have H1:=Yw u;have H2:=Yw y;have F:Hid (∀X j,(Aa X w.heap.size A/\Aa X (w.heap.size+1) [.string b,.slice f a.length i])->Zz X j->Aa j w.heap.size A/\Aa j (w.heap.size+1) [.string b,.slice f a.length i]):=fun X j u y=>⟨Aa.same u.1 (y.block _ (u.1.jf z.o)),Aa.below u.2 y⟩;clear q Q u y P Y N r;go_enter func88,ntmps88;go_upto_region 1 with fail;rw[<-O.o];clear O
 refine wp_region_held_drew (S:=fun X=>Aa X w.heap.size A/\Aa X (w.heap.size+1) [.string b,.slice f a.length i]) Ys (show _/\_ from⟨J.o.1,J.o.2.1⟩) (fun B=> ?_);refine ES 0 ⟨some 7,.load 80 (.tmp 3),80,CW,#[],none⟩ (.agg A.toArray) (by exact yieldsIf_load_mid Yq 80 _ rfl w.heap.size 0 rfl A _ (fun X h=>h.1.range) underlying80 rfl (by rw[z.o];kernel_rfl)) (by exact B) ?_
 try simp only[Act.put,Zq,Zp,Zo]
 refine BJ 1 ⟨some 8,.move (.tmp 2),3,CW,#[],none⟩ (Zg n) (by exact B) ?_;try simp only[Act.put,Zq,Zp,Zo]
 refine ES 2 ⟨some 9,.load 35 (.tmp 4),35,CW,#[],none⟩ (.agg #[.string b,.slice f a.length i]) (by exact yieldsIf_load_mid Yq 35 _ rfl (w.heap.size+1) 0 rfl [.string b,.slice f a.length i] _ (fun X h=>h.2.range) underlying35 rfl Ys) (by exact B) ?_;try simp only[Act.put,Zq,Zp,Zo]
 refine Cu 3 ⟨some 10,.call {callee:=Callee.value (.func 101),args:= #[.tmp 9],argTypes:= #[35]},35,CW,#[AA 2],none⟩ (fun K k=> ?_);go_simp;refine(H1.o W.drew (x.o.1.drew)).mono ?_;rintro o U ⟨g,c,rfl,zA,H⟩;have s:Below W.heap.size W U:=(Below.refl W.heap.size W).drew.trans H;try go_simp
 refine k.out _ _ (F.o _ _ B H) (fun G=> ?_);clear k K;try simp only[Act.put,Zq,Zp,Zo]
 refine BJ 4 ⟨some 11,.build 162 #[(0,.const (Zg 1)),(3,.tmp 8),(4,.tmp 10)],162,CW,#[AA 1,AA 3],none⟩ (.agg (Ye 1 ⟨#[]⟩ ⟨#[]⟩ n b (some ⟨g,0,none⟩) a.length c)) (by exact G) ?_;try simp only[Act.put,Zq,Zp,Zo]
 refine Cu 5 ⟨some 12,.call {callee:=Callee.value (.func 112),args:= #[.tmp 7,.tmp 11],argTypes:= #[80,162]},139,CW,#[AA 0,AA 4,⟨3,.chain⟩],none⟩ (fun K k=> ?_);go_simp;refine(H2.o U g c (x.o.1.trans (s.mono x.o.1.size)) zA).mono ?_;rintro o V ⟨d,vs,rfl,I,C⟩;have Z:Below W.heap.size W V:=s.trans (C.mono s.size)
 have l:=Yw (Gn (d:=d) Yv (by have:=x.o.2;omega) x.o.1 J.o.2.2 (I.mono s.size) Z);obtain⟨D,L⟩:∃t,t=dL d vs:=⟨_,rfl⟩;rw[<-L]at l;rw[<-L];clear L I;try go_simp
 refine k.out _ _ (F.o _ _ G C) (fun v=> ?_);clear k K;try simp only[Act.put,Zq,Zp,Zo]
 have T:=AL (w.heap.size+2) D 0 V;refine Cu 6 ⟨none,.store 139 (.tmp 6) (.tmp 12),0,CW,#[AA 5,⟨5,.chain⟩,Ak 0,Ak 1,Ak 2,Ak 3,Ak 4,Ak 5],none⟩ (fun K k=> ?_);rw[if_pos Yq];refine wp_store_mid 139 _ _ rfl (w.heap.size+2) 0 D.toArray rfl rfl l.o.2.1 (by rw[List.size_toArray,l.o.1.1];kernel_rfl) (all_oneCell_toArray l.o.1.2) ?_
 refine k.out _ _ ⟨Aa.same v.1 (T.block _ (v.1.jf z.o) Yu),Aa.same v.2 (T.block _ v.2.lt Yu)⟩ (fun zB=> ?_);clear k K;try simp only[Act.put]
 refine wpAnyH_done Ys ?_ _;go_wp2_with fail;exact bodyPost_ret (AW results88 _ _ (w.heap.size+2) D _ rfl (Aa.range l.o.2.2.1) underlying139 rfl (by rw[l.o.1.1];kernel_rfl)) rfl l.o.2.2.2
structure WB (k:Kd):Prop where
 s:k.sum.size<=maxLen
 t:k.E.size<=maxLen
 n:k.B.length<=1048576
 r:∀s∈k.B,s.size<=maxLen
 b:(Lit.int .i64 k.born).wf=true
structure NX (ks:List Kd) (ps:List Pd) (ls:List Ld):Prop where
 k:∀k∈ks,WB k
 kn:ks.length<=1048576
 p:∀p∈ps,p.name.size<=maxLen/\p.sum.size<=maxLen
 pn:ps.length<=1048576
 l:∀l∈ls,l.sum.size<=maxLen
 ln:ls.length<=1048576
theorem NX.km{b:List Kd}{e:List Pd}{d:List Ld}(h:NX b e d):Fm b/\FP e/\Hx d/\Fo b e d/\∀k∈b,(Lit.int .i64 k.born).wf=true:=by
 have f:=h.kn;have g:=h.pn;have i:=h.ln;have m:(1048576:Nat)<=maxLen:=Yp
 exact⟨⟨Yv,fun k a=>(h.k k a).s,fun k a=>(h.k k a).t,fun k a=>Zm (h.k k a).n m,fun k a=>(h.k k a).r⟩,⟨Yv,fun p c=>(h.p p c).1,fun p c=>(h.p p c).2⟩,⟨Yv,h.l⟩,⟨f,fun k a=>(h.k k a).n,g,i⟩,fun k a=>(h.k k a).b⟩
structure Uo (X:Zh) (cs:Zj):Prop where
 ex:∃(wd now given births:Int) (ta:Zk) (tc:Nat) (pa:Zk) (pc:Nat) (la:Zk) (lc:Nat) (ks:List Kd) (ps:List Pd) (ls:List Ld),cs=[Zg wd,Zg now,Zg given,Zg births,.slice ta ks.length tc,.slice pa ps.length pc,.slice la ls.length lc]/\AZ X X.heap.size ta pa la ks ps ls/\NX ks ps ls
theorem Gy.w{ks:List Kd}{ps:List Pd}{c:List Ld}(h:Gy ks ps c)(d:∀k∈ks,Ht k):NX ks ps c:=by have e:=h.n;exact⟨fun k a=>⟨h.k.sum k a,h.k.E k a,by have:=(d k a).2.1;omega,h.k.ref k a,h.b k a⟩,Yv,fun p b=>⟨h.p.name p b,h.p.sum p b⟩,Yv,h.l.sum,Yv⟩
theorem TD{w:Zh}{f u:Nat}{o:Zk}{d:List (Kd×Value)}(h:w.ownsRow f 37 4 (.slice o n u) d.length (Ai kC d))(t:∀z∈d,∃b l,z.2=.slice b z.1.B.length l/\Ab w w.heap.size b z.1.B):AI w w.heap.size o (d.map (·.1)):=by
 rcases h.2 with⟨_,q⟩|⟨g,cap,v,e,_⟩
 .exact .inl (by rw[List.eq_nil_of_length_eq_zero q];rfl)
 .cases e;refine .inr ⟨g,0,rfl,(h.lt g rfl).2,fun i k m=> ?_⟩;rw[List.getElem?_map]at m;obtain⟨z,a,rfl⟩:=Option.map_eq_some_iff.1 m;obtain⟨b,l,e,s⟩:=t z (Zs a);have x:=(Zw a).1;have c:∀j,j<4->w.cell? (Zd g (0+i *4+j))=(kC z)[j]?:=fun j r=>by rw[Nat.zero_add,h.cellAt (i *4+j) Yv];exact Cd Ce a r
  exact⟨c 0 Yv,c 1 Yv,c 2 Yv,b,l,(c 3 Yv).trans (by rw[<-e];rfl),s⟩
theorem UW{b:Int}(a:0<=b)(c:b<=1000):(Lit.int .i64 b).wf=true:=by simp[Lit.wf,IntKind.min,IntKind.max,IntKind.signed,IntKind.bits];omega
def QA(b n0:Nat):Nat->Zh->Value->Prop
 |0,_,v|2,_,v|5,_,v|9,_,v|12,_,v=>v=.pointer (some ⟨b,0,none⟩)
 |1,_,v=>∃s,v=.string s/\s.size<=16
 |3,_,v=>∃r:Int,v=Zg r/\0<=r/\r<8
 |4,w,v=>∃g,v=.slice (some ⟨g,0,none⟩) 3 3/\n0<=g/\Aa w g [.string ⟨#[112]⟩,.string ⟨#[113]⟩,.string ⟨#[114]⟩]
 |6,_,v=>∃r:Nat,v=Zg r/\r<3
 |7,w,v=>∃g k s,v=.pointer (some ⟨g,k,none⟩)/\n0<=g/\w.cell? (Zd g k)=some (.string s)/\s.size<=1
 |8,_,v=>∃s,v=.string s/\s.size<=1
 |10,_,v=>∃r:Int,v=Zg r/\0<=r/\r<40
 |11,w,v=>∃g,v=.slice (some ⟨g,0,none⟩) 5 5/\n0<=g/\Aa w g [Zg 1,Zg 3,Zg 10,Zg 40,Zg 200]
 |13,_,v=>∃r:Nat,v=Zg r/\r<5
 |14,w,v=>∃g k t,v=.pointer (some ⟨g,k,none⟩)/\n0<=g/\w.cell? (Zd g k)=some (Zg t)
 |15,_,v=>∃t,v=Zg t
 |16,_,v=>∃s r nm pk tk,v=.agg #[Ze,.string s,Zg r,.string nm,Zg pk,Zg tk]/\s.size<=16/\0<=r/\r<8/\nm.size<=1/\0<=pk/\pk<40
 |17,w,v=>∃g,v=.pointer (some ⟨g,0,none⟩)/\n0<=g/\Aa w g [Ze,Zc,Ze,Zc,Ze,Ze]
 |_,_,_=>True
theorem TE(n:b<e):∀i w j v,w.grownBy j (some b)->QA b e i w v->QA b e i j v:=by
 intro i w j v f h;have l:∀g,e<=g->some g≠some b:=fun g c a=>by cases a;omega
 unfold QA at h |-;split at h<;>first
  |exact h
  |(obtain⟨g,c,a,d⟩:=h;exact⟨g,c,a,d.aw f Yv⟩)
  |(obtain⟨g,k,s,c,a,d,m⟩:=h;exact⟨g,k,s,c,a,f.cell d (l g a),m⟩)
  |(obtain⟨g,k,s,c,a,d⟩:=h;exact⟨g,k,s,c,a,f.cell d (l g a)⟩)
def Et(w0:Zh)(b:Nat)(a:Zk)(n c:Nat)(p:Int)(n0 k:Nat)(w:Zh):Prop:=
 (∃p',AE w b a n c p'/\p<=p'/\p'<=p+10 *k)/\w0.grownBy w (some b)/\n0<=w.heap.size
theorem Et.call{i w e:Zh}{a:Zk}{p d:Int}(h:Et i b a n c p g k w)(l:AE e b a n c d)(f:w.grownBy e (some b))(j:p<=d)(m:d<=p+10 *(k+1)):Et i b a n c p g (k+1) e:=
 ⟨⟨d,l,j,Yv⟩,Am h.2.1 f,Zm h.2.2 f.size⟩
theorem Et.alloc{f w:Zh}{a:Zk}{p:Int}(h:Et f b a n c p e k w)(o:Obj):Et f b a n c p e (k+1) (w.alloc o):=by have d:Below w.heap.size w (w.alloc o):=Zy;obtain⟨⟨l,j,g,m⟩,i,q⟩:=h;exact⟨⟨l,j.below d,g,Yv⟩,Am i (Ae _ d),Yt⟩
theorem Et.af{e w:Zh}{a:Zk}{p:Int}{d:Nat}(h:Et e b a n c p d k w):Et e b a n c p d (k+1) w:=by obtain⟨⟨i,g,f,j⟩,h⟩:=h;exact⟨⟨i,g,f,Yv⟩,h⟩
theorem Aa.fz{w:Zh}{B:Nat}(h:Aa w B l):∀j,j<l.length->w.frozen? ⟨B,j,none⟩=false:=fun j a=>(h j _ (Zv a)).2
theorem Gi{w:Zh}{a b c d e f:Value}:Tn [g,q] w (((((((w.setCell (Zd g 0) v).setCell (Zd q 0) a).setCell (Zd q 1) b).setCell (Zd q 2) c).setCell (Zd q 3) d).setCell (Zd q 4) e).setCell (Zd q 5) f):=
 have s:∀X j u,Tn [g,q] X (X.setCell (Zd q j) u):=fun X j u=>Tn.set X q j u Yu
 ((((((Tn.set w g 0 v Yu).trans (s _ _ _)).trans (s _ _ _)).trans (s _ _ _)).trans (s _ _ _)).trans (s _ _ _)).trans (s _ _ _)
theorem AE.I{w f:Zh}{a:Zk}{p:Int}(h:AE w b a n c p)(e:Tn V w f)(u:∀g∈V,b<g)(k:b∉V):AE f b a n c p:=by
 have i:=h.lt;have d:∀q j,q<=b->f.cell? (Zd q j)=w.cell? (Zd q j):=fun q j z=>World.cell?_of_block (e.block q Yv (fun l=>by have:=u q l;omega));refine⟨(d b 0 (Zx)).trans h.c0,(d b 1 (Zx)).trans h.c1,?_,Zr i e.size,h.n2,?_⟩
 .exact(World.frozen?_of_block (e.block b i k)).trans h.f1
 .rcases h.bytes with h|⟨q,off,t,m,y⟩
  .exact .inl h
  .refine .inr ⟨q,off,t,m,fun j v=> ?_⟩;obtain⟨x,o,r,s⟩:=y j v;exact⟨x,(d q (off+j) Yv).trans o,r,s⟩
theorem UX(b:Nat)(a:Zk)(n c:Nat)(p:Int)(w:Zh)(h:AE w b a n c p)(hp:0<=p)(zU:p<=800000):
 Calls prog 63 #[.pointer (some ⟨b,0,none⟩)] w fun e B=>∃kd tx T q l u,e=.returned (.agg #[.int .i64 kd,.string tx,.int .i64 T,.string q,.int .i64 l,.int .i64 u])/\tx.size<=16/\0<=T/\T<8/\q.size<=1/\0<=l/\l<40/\GN w B b a n c p 300:=by
 have zS:=h.lt;obtain⟨W,hW⟩:∃W,W=w.alloc (.cells #[.int .i64 0,.string ⟨#[]⟩,.int .i64 0,.string ⟨#[]⟩,.int .i64 0,.int .i64 0] 102):=⟨_,rfl⟩;obtain⟨bW,zW,xW⟩:=Bc hW;have zE:Hid (Et W b a n c p W.heap.size 0 W.drew):=⟨⟨p,(h.below bW).drew,Int.le_refl _,by omega⟩,⟨rfl,rfl,rfl,Zx,fun _ _ _=>rfl⟩,Zx⟩;have HW:Hid _:=hW
 have HX:Hid (Aa W w.heap.size [.int .i64 0,.string ⟨#[]⟩,.int .i64 0,.string ⟨#[]⟩,.int .i64 0,.int .i64 0]):=xW;have HB:Hid (Zz w W/\W.heap.size=w.heap.size+1):=⟨bW,zW⟩;clear hW xW bW zW;go_enter func63,ntmps63;go_upto_region 1 with fail;rw[<-HW.o];clear HW;have E:Hid (Zz w W/\W.heap.size=w.heap.size+1/\b<W.heap.size):=⟨HB.o.1,HB.o.2,by have:=HB.o.2;omega⟩
 refine Nx 18 (by kernel_rfl) (by kernel_rfl) (by kernel_rfl) (by kernel_rfl) (fun x=>{tmps:= #[.pointer (some ⟨b,0,none⟩),undef,.pointer (some ⟨w.heap.size,0,none⟩),x 17,undef,x 0,x 1,x 2,x 3,x 4,x 5,x 6,x 7,x 8,x 9,x 10,x 11,x 12,x 13,x 14,x 15,x 16,undef,undef,undef,undef,undef,undef,undef,undef,undef,undef,undef,undef,undef,undef,undef,undef,undef,undef,undef,undef,undef,undef,undef,undef,undef,undef,undef,undef],defers:=[]}) (fun _=>undef) (Et W b a n c p W.heap.size) (QA b W.heap.size) (fun w B=>w.grownBy B (some b)) (TE E.o.2.2) ?_ zE.o ?_ ?_
 .intro i o x v hi ho;rcases(show i=0\/i=1\/i=2\/i=3\/i=4\/i=5\/i=6\/i=7\/i=8\/i=9\/i=10\/i=11\/i=12\/i=13\/i=14\/i=15\/i=16\/i=17 by omega)with rfl|rfl|rfl|rfl|rfl|rfl|rfl|rfl|rfl|rfl|rfl|rfl|rfl|rfl|rfl|rfl|rfl|rfl<;>(cases ho;rfl)
 .intro i o k x w hi ho hk f y K d;rcases(show i=0\/i=1\/i=2\/i=3\/i=4\/i=5\/i=6\/i=7\/i=8\/i=9\/i=10\/i=11\/i=12\/i=13\/i=14\/i=15\/i=16\/i=17 by omega)with rfl|rfl|rfl|rfl|rfl|rfl|rfl|rfl|rfl|rfl|rfl|rfl|rfl|rfl|rfl|rfl|rfl|rfl<;>cases ho<;>rw[if_pos (by rfl)]
  .dsimp only at d |-;go_simp;exact d.out _ w rfl (AK _ _) f.af
  .dsimp only at d |-;have d0:=y {on:=0,ground:=.data} (by simp) (by rfl);have zG:x 0=.pointer (some ⟨b,0,none⟩):=d0;obtain⟨⟨D,z,O,P⟩,_⟩:=id f;rw[zG]at d |-;go_simp;refine(PZ b a n c D w z (by omega) (by omega)).mono ?_;rintro e B ⟨s,rfl,hs,⟨p2,A,X,Y⟩,j⟩;exact d.out _ B ⟨s,rfl,hs⟩ j (Et.call f A j (by omega) (by omega))
  .dsimp only at d |-;go_simp;exact d.out _ w rfl (AK _ _) f.af
  .dsimp only at d |-;have d2:=y {on:=2,ground:=.data} (by simp) (by rfl);have zO:x 2=.pointer (some ⟨b,0,none⟩):=d2;obtain⟨⟨D,z,O,P⟩,_⟩:=id f;rw[zO]at d |-;go_simp;refine(AU b a n c D 8 w z (by omega) (by omega) (by omega) (by omega)).mono ?_;rintro e B ⟨r,rfl,r0,R,A,j⟩;exact d.out _ B ⟨r,rfl,r0,R⟩ j (Et.call f A j (by omega) (by omega))
  .dsimp only at d |-;go_simp;exact d.out _ _ ⟨w.heap.size,rfl,f.2.2,Aa.new w [.string ⟨#[112]⟩,.string ⟨#[113]⟩,.string ⟨#[114]⟩] 9⟩ (Ae _ (Zy)) (f.alloc _)
  .dsimp only at d |-;go_simp;exact d.out _ w rfl (AK _ _) f.af
  .dsimp only at d |-;have d5:=y {on:=5,ground:=.data} (by simp) (by rfl);have zP:x 5=.pointer (some ⟨b,0,none⟩):=d5;obtain⟨⟨D,z,O,P⟩,_⟩:=id f;rw[zP]at d |-;go_simp;refine(AU b a n c D 3 w z (by omega) (by omega) (by omega) (by omega)).mono ?_;rintro e B ⟨r,rfl,r0,R,A,j⟩;exact d.out _ B ⟨r.toNat,by congr 1;omega,by omega⟩ j (Et.call f A j (by omega) (by omega))
  .dsimp only at d |-;have d4:=y {on:=4,ground:=.data} (by simp) (by rfl);have d6:=y {on:=6,ground:=.data} (by simp) (by rfl);obtain⟨g,C,j,m⟩:=d4;obtain⟨r,Q,z⟩:=d6;have zV:r<3:=z;rw[C,Q]at d |-;go_simp;rcases(show r=0\/r=1\/r=2 by omega)with rfl|rfl|rfl
   .exact d.out _ w ⟨g,0,_,rfl,j,(m 0 _ rfl).1,by decide⟩ (AK _ _) f.af
   .exact d.out _ w ⟨g,1,_,rfl,j,(m 1 _ rfl).1,by decide⟩ (AK _ _) f.af
   .exact d.out _ w ⟨g,2,_,rfl,j,(m 2 _ rfl).1,by decide⟩ (AK _ _) f.af
  .dsimp only at d |-;have d7:=y {on:=7,ground:=.data} (by simp) (by rfl);obtain⟨g,k',s,C,j,m,hs⟩:=d7;rw[C]at d |-;go_simp;exact d.out _ w ⟨s,rfl,hs⟩ (AK _ _) f.af
  .dsimp only at d |-;go_simp;exact d.out _ w rfl (AK _ _) f.af
  .dsimp only at d |-;have d9:=y {on:=9,ground:=.data} (by simp) (by rfl);have zR:x 9=.pointer (some ⟨b,0,none⟩):=d9;obtain⟨⟨D,z,O,P⟩,_⟩:=id f;rw[zR]at d |-;go_simp;refine(AU b a n c D 40 w z (by omega) (by omega) (by omega) (by omega)).mono ?_;rintro e B ⟨r,rfl,r0,R,A,j⟩;exact d.out _ B ⟨r,rfl,r0,R⟩ j (Et.call f A j (by omega) (by omega))
  .dsimp only at d |-;go_simp;exact d.out _ _ ⟨w.heap.size,rfl,f.2.2,Aa.new w [.int .i64 1,.int .i64 3,.int .i64 10,.int .i64 40,.int .i64 200] 3⟩ (Ae _ (Zy)) (f.alloc _)
  .dsimp only at d |-;go_simp;exact d.out _ w rfl (AK _ _) f.af
  .dsimp only at d |-;have zJ:=y {on:=12,ground:=.data} (by simp) (by rfl);have zC:x 12=.pointer (some ⟨b,0,none⟩):=zJ;obtain⟨⟨D,z,O,P⟩,_⟩:=id f;rw[zC]at d |-;go_simp;refine(AU b a n c D 5 w z (by omega) (by omega) (by omega) (by omega)).mono ?_;rintro e B ⟨r,rfl,r0,R,A,j⟩;exact d.out _ B ⟨r.toNat,by congr 1;omega,by omega⟩ j (Et.call f A j (by omega) (by omega))
  .dsimp only at d |-;have zI:=y {on:=11,ground:=.data} (by simp) (by rfl);have zK:=y {on:=13,ground:=.data} (by simp) (by rfl);obtain⟨g,C,j,m⟩:=zI;obtain⟨r,Q,z⟩:=zK;have zV:r<5:=z;rw[C,Q]at d |-;go_simp;rcases(show r=0\/r=1\/r=2\/r=3\/r=4 by omega)with rfl|rfl|rfl|rfl|rfl
   .exact d.out _ w ⟨g,0,_,rfl,j,(m 0 _ rfl).1⟩ (AK _ _) f.af
   .exact d.out _ w ⟨g,1,_,rfl,j,(m 1 _ rfl).1⟩ (AK _ _) f.af
   .exact d.out _ w ⟨g,2,_,rfl,j,(m 2 _ rfl).1⟩ (AK _ _) f.af
   .exact d.out _ w ⟨g,3,_,rfl,j,(m 3 _ rfl).1⟩ (AK _ _) f.af
   .exact d.out _ w ⟨g,4,_,rfl,j,(m 4 _ rfl).1⟩ (AK _ _) f.af
  .dsimp only at d |-;have zM:=y {on:=14,ground:=.data} (by simp) (by rfl);obtain⟨g,k',t,C,j,m⟩:=zM;rw[C]at d |-;go_simp;exact d.out _ w ⟨t,rfl⟩ (AK _ _) f.af
  .dsimp only at d |-;have d1:=y {on:=1,ground:=.data} (by simp) (by rfl);have d3:=y {on:=3,ground:=.data} (by simp) (by rfl);have d8:=y {on:=8,ground:=.data} (by simp) (by rfl);have zH:=y {on:=10,ground:=.data} (by simp) (by rfl);have zN:=y {on:=15,ground:=.data} (by simp) (by rfl);obtain⟨s,C,O⟩:=d1;obtain⟨r,Q,P,X⟩:=d3;obtain⟨q,e3,Y⟩:=d8;obtain⟨l,e4,h5,h6⟩:=zH;obtain⟨u,e5⟩:=zN
   rw[C,Q,e3,e4,e5]at d |-;go_simp;exact d.out _ w ⟨s,r,q,l,u,rfl,O,P,X,Y,h5,h6⟩ (AK _ _) f.af
  .dsimp only at d |-;go_simp;exact d.out _ _ ⟨w.heap.size,rfl,f.2.2,Aa.new w [.int .i64 0,.string ⟨#[]⟩,.int .i64 0,.string ⟨#[]⟩,.int .i64 0,.int .i64 0] 102⟩ (Ae _ (Zy)) (f.alloc _)
 .intro o x w8 ho f hT K d;cases ho;rw[if_pos (by rfl)];obtain⟨g,C,j,m⟩:=hT 17 (by omega);obtain⟨s,r,q,l,u,Q,O,P,X,Y,h5,h6⟩:=hT 16 (by omega);dsimp only;rw[C,Q];obtain⟨f0,f1,f2,f3,f4,f5⟩:=Zn (m 0 _ rfl) (Zn (m 1 _ rfl) (Zn (m 2 _ rfl) (Zn (m 3 _ rfl) (Zn (m 4 _ rfl) (m 5 _ rfl)))));go_simp;refine d.out _ _ ?_;clear d K
  obtain⟨Z,hZ⟩:∃Z,Z=(((((w8.setCell ⟨g,0,none⟩ (.int .i64 0)).setCell ⟨g,1,none⟩ (.string s)).setCell ⟨g,2,none⟩ (.int .i64 r)).setCell ⟨g,3,none⟩ (.string q)).setCell ⟨g,4,none⟩ (.int .i64 l)).setCell ⟨g,5,none⟩ (.int .i64 u):=⟨_,rfl⟩;have xZ:Aa Z g [.int .i64 0,.string s,.int .i64 r,.string q,.int .i64 l,.int .i64 u]:=by rw[hZ];exact(((((m.set 0 _).set 1 _).set 2 _).set 3 _).set 4 _).set 5 _
  have U:Tn [g] w8 Z:=by rw[hZ];exact(((((Bd _ _ _ _).trans (Bd _ _ _ _)).trans (Bd _ _ _ _)).trans (Bd _ _ _ _)).trans (Bd _ _ _ _)).trans (Bd _ _ _ _)
  rw[<-hZ];clear hZ f0 f1 f2 f3 f4 f5 m C Q hT;obtain⟨⟨D,z,q1,q2⟩,zA,zT⟩:=f;have gZ:w8.grownBy Z (some g):=⟨U.os,U.tape,U.output,U.size,fun i hi V=>U.block i hi (by simpa using V)⟩;have bl:=E.o.2.2;have rZ:=z.grown gZ (by omega);have xq:=(HX.o.aw zA (by omega)).aw gZ (by have:=E.o.2.1;omega);go_wp2_with fail;refine(AU b a n c D 20 Z rZ (by omega) (by omega) (by omega) (by omega)).mono ?_
  rintro e w1 ⟨k,rfl,k0,k1,R,g1⟩;have x1:=xZ.aw g1 (by omega);have y1:=xq.aw g1 (by omega);have HE:Hid (∀G,Tn [g,w.heap.size] w1 G->GN w G b a n c p 300):=fun G ht=>by
   have zZ:=E.o.2.1;have t1:Tn [b,g,w.heap.size] W G:=(((Tn.grown zA (by simp)).trans (U.mono (by simp))).trans (Tn.grown g1 (by simp))).trans (ht.mono (by simp));refine⟨⟨D+1,?_,by omega,by omega⟩,?_⟩
   .exact(R.I ht (by simp;omega) (by simp;omega))
   .exact⟨t1.os.trans E.o.1.os,t1.tape.trans E.o.1.tape,t1.output.trans E.o.1.output,Zm E.o.1.size t1.size,fun i hi V=>(t1.block i (by omega) (by simp at V |-;omega)).trans (E.o.1.block i hi)⟩
  have S:Hid (s.size<=16/\0<=r/\r<8/\q.size<=1/\0<=l/\l<40):=⟨O,P,X,Y,h5,h6⟩;obtain⟨a0,a1,a2,a3,a4,a5⟩:=Aa.c6 x1 0 1 2 3 4 5;obtain⟨H,I,J,L,M,N⟩:=Aa.c6 y1 0 1 2 3 4 5;have fa:=x1.fz;have fb:=y1.fz;have V:¬g=w.heap.size:=by have:=E.o.2.1;omega
  clear zA gZ U rZ xq xZ x1 y1 g1 R E HB HX zE z q1 q2 O P X Y h5 h6 zT bl h zS j hp zU
  have F:Hid (∀(kd:Int) G,Tn [g,w.heap.size] w1 G->∃zX tx T zF zB zY,Ending.returned (.agg #[.int .i64 kd,.string s,.int .i64 r,.string q,.int .i64 l,.int .i64 u])=.returned (.agg #[.int .i64 zX,.string tx,.int .i64 T,.string zF,.int .i64 zB,.int .i64 zY])/\tx.size<=16/\0<=T/\T<8/\zF.size<=1/\0<=zB/\zB<40/\GN w G b a n c p 300):=fun kd G ht=>⟨kd,s,r,q,l,u,rfl,S.o.1,S.o.2.1,S.o.2.2.1,S.o.2.2.2.1,S.o.2.2.2.2.1,S.o.2.2.2.2.2,HE.o G ht⟩
  clear HE S;go_wp2
  .exact bodyPost_ret (v:=.agg #[.int .i64 1,.string s,.int .i64 r,.string q,.int .i64 l,.int .i64 u]) (by simp[results,results63,go_sem,H,I,J,L,M,N]) rfl (F.o 1 _ Gi)
  .exact bodyPost_ret (v:=.agg #[.int .i64 2,.string s,.int .i64 r,.string q,.int .i64 l,.int .i64 u]) (by simp[results,results63,go_sem,H,I,J,L,M,N]) rfl (F.o 2 _ Gi)
  .exact bodyPost_ret (v:=.agg #[.int .i64 3,.string s,.int .i64 r,.string q,.int .i64 l,.int .i64 u]) (by simp[results,results63,go_sem,H,I,J,L,M,N]) rfl (F.o 3 _ Gi)
  .exact bodyPost_ret (v:=.agg #[.int .i64 4,.string s,.int .i64 r,.string q,.int .i64 l,.int .i64 u]) (by simp[results,results63,go_sem,H,I,J,L,M,N]) rfl (F.o 4 _ Gi)
  .exact bodyPost_ret (v:=.agg #[.int .i64 5,.string s,.int .i64 r,.string q,.int .i64 l,.int .i64 u]) (by simp[results,results63,go_sem,H,I,J,L,M,N]) rfl (F.o 5 _ Gi)
  .exact bodyPost_ret (v:=.agg #[.int .i64 6,.string s,.int .i64 r,.string q,.int .i64 l,.int .i64 u]) (by simp[results,results63,go_sem,H,I,J,L,M,N]) rfl (F.o 6 _ Gi)
  .exact bodyPost_ret (v:=.agg #[.int .i64 8,.string s,.int .i64 r,.string q,.int .i64 l,.int .i64 u]) (by simp[results,results63,go_sem,H,I,J,L,M,N]) rfl (F.o 8 _ Gi)
  .exact bodyPost_ret (v:=.agg #[.int .i64 9,.string s,.int .i64 r,.string q,.int .i64 l,.int .i64 u]) (by simp[results,results63,go_sem,H,I,J,L,M,N]) rfl (F.o 9 _ Gi)
  .exact bodyPost_ret (v:=.agg #[.int .i64 10,.string s,.int .i64 r,.string q,.int .i64 l,.int .i64 u]) (by simp[results,results63,go_sem,H,I,J,L,M,N]) rfl (F.o 10 _ Gi)
theorem VN{w:Zh}{e:TypeId}{c:Zj}(h:w.ownsRow b e size v n c)(j:∀g,v.ownBlock=some g->a<=g):w.ownsRow a e size v n c:=by
 refine⟨h.1,?_⟩;rcases h.2 with f|⟨g,cap,d,rfl,_,i⟩
 .exact .inl f
 .exact .inr ⟨g,cap,d,rfl,j g rfl,i⟩
structure Ow (X:Zh) (base q:Nat) (e:TypeId) (size:Nat) (v:Value) (n:Nat) (xs:Zj):Prop where
 o:X.ownsRow base e size v n xs
 q:v.ownBlock≠some q
theorem Ow.I{e:TypeId}(h:Ow X a q e size v n i)(r:Tn V X Y)(o:∀g∈V,g<a\/g=q\/X.heap.size<=g\/∃d f,f≠e/\X.heap[g]?=some (.cells d f)):Ow Y a q e size v n i:=
 ⟨As h.o (fun g c=>r.block g (Ad h.o c).2 (fun j=>by
  have s:=Ad h.o c;rcases o g j with b|b|b|⟨d,f,k,b⟩
  .omega
  .exact h.q (b▸c)
  .omega
  .obtain⟨l,m⟩:=Ch h.o c;rw[m]at b;cases b;exact k rfl)),h.q⟩
structure BF (X:Zh) (base q:Nat) (T P L:Value) (zs:List (Kd×Value)) (ps:List Pd) (ls:List Ld):Prop where
 t:Ow X base q 37 4 T zs.length (Ai kC zs)
 r:∀z∈zs,Ow X base q 9 1 z.2 z.1.B.length (z.1.B.map Value.string)
 p:Ow X base q 58 2 P ps.length (Ai pC ps)
 l:Ow X base q 61 3 L ls.length (Ai lC ls)
 w:NX (zs.map (·.1)) ps ls
theorem BF.I{j:List (Kd×Value)}{i:List Pd}{d:List Ld}(h:BF X a q T P L j i d)(b:Tn V X Y)(l:∀g∈V,g<a\/g=q\/X.heap.size<=g):BF Y a q T P L j i d:=
 have f:∀{e:TypeId},∀g∈V,g<a\/g=q\/X.heap.size<=g\/∃k c,c≠e/\X.heap[g]?=some (.cells k c):=fun g m=>by
  rcases l g m with h|h|h
  .exact .inl h
  .exact .inr (.inl h)
  .exact .inr (.inr (.inl h))
 ⟨h.t.I b f,fun z n=>(h.r z n).I b f,h.p.I b f,h.l.I b f,h.w⟩
theorem BF.below{base:Nat}{c:List (Kd×Value)}{b:List Pd}{a:List Ld}(h:BF X base q T P L c b a)(d:Zz X Y):BF Y base q T P L c b a:=h.I (V:=[]) (Tn.of d) Yu
theorem BF.sdc{j:List (Kd×Value)}{g:List Pd}(h:BF X c q T P L j g f)(i now b a:Int):Uo X [Zg i,Zg now,Zg b,Zg a,T,P,L]:=by obtain⟨t,u,rfl⟩:=Ax h.t.o;obtain⟨n,o,rfl⟩:=Ax h.p.o;obtain⟨l,m,rfl⟩:=Ax h.l.o;refine⟨i,now,b,a,t,u,n,o,l,m,j.map (·.1),g,f,by rw[List.length_map],⟨TD h.t.o (fun z k=> ?_),AO.own h.p.o,AR.own h.l.o⟩,h.w⟩;have d:=(h.r z k).o;obtain⟨r,s,e⟩:=Ax d;rw[e]at d;exact⟨r,s,e,Gz d⟩
theorem AY.io{lo:Nat}{c:Zj}{d:List Kd}{l:List Pd}{k:List Ld}(h:AY X lo T P L c d l k)(o:∀g∈BO T P L c,b<=g/\g≠q)(A:NX d l k):BF X b q T P L (d.zip c) l k:=by
 have x:(d.zip c).map (·.1)=d:=List.map_fst_zip (by rw[h.len];exact Zx);have u:(d.zip c).length=d.length:=by rw[List.length_zip,h.len,Nat.min_self]
 have j:∀{e:TypeId} {s:Nat} {v:Value} {n:Nat} {xs:Zj},X.ownsRow lo e s v n xs->(∀g,v.ownBlock=some g->g∈BO T P L c)->Ow X b q e s v n xs:=fun y a=>
  ⟨VN y (fun g f=>(o g (a g f)).1),fun f=>(o q (a q f)).2 rfl⟩
 have a:∀v∈T::P::L::c,∀g,v.ownBlock=some g->g∈BO T P L c:=fun v a g f=>by rw[<-Ft];exact List.mem_filterMap.2 ⟨v,a,f⟩
 refine⟨by rw[u];exact j h.aj (a T Yu),fun z B=> ?_,j h.pins (a P Yu),j h.aq (a L Yu),by rw[x];exact A⟩;obtain⟨i,r⟩:=List.getElem?_of_mem B;obtain⟨t,m⟩:=List.getElem?_zip_eq_some.1 r;exact j (h.B i z.1 z.2 t m) (a z.2 (by simp[Zs m]))
theorem VK.io{w c:Zh}{n q:Nat}{e:Ending}(h:VK w n e c)(C:n<=1000)(D:q<w.heap.size+2):∃g i d,e=.returned (.agg #[.int .i64 8,.int .i64 0,.int .i64 0,.int .i64 n,.slice g d.length i,.slice none 0 0,.slice none 0 0])/\BF c (w.heap.size+2) q (.slice g d.length i) (.slice none 0 0) (.slice none 0 0) d [] []/\Zz w c:=by
 obtain⟨T,d,rfl,b,a,B,o⟩:=h.ex;obtain⟨g,i,rfl⟩:=Ax b;have f:∀{e:TypeId} {s:Nat} {v:Value} {n:Nat} {xs:Zj},c.ownsRow (w.heap.size+2) e s v n xs->Ow c (w.heap.size+2) q e s v n xs:=fun b=>⟨b,fun r=>by have:=(Ad b r).1;omega⟩
 refine⟨g,i,d,rfl,⟨f b,fun z j=>f (a z j).row,f (World.ownsRow_nil _ _ _ _),f (World.ownsRow_nil _ _ _ _),⟨fun k t=> ?_,by rw[List.length_map];omega,by simp,Nat.zero_le _,by simp,Nat.zero_le _⟩⟩,o⟩;obtain⟨z,l,rfl⟩:=List.mem_map.1 t;have a:=a z l;have x:=a.sm;have y:=a.tx;have A:=a.rl;have m:(1048576:Nat)<=maxLen:=by unfold maxLen;omega
 exact⟨by omega,by omega,by omega,fun s u=>by have:=a.rs s u;omega,UW a.bo.1 (by have:=a.bo.2;omega)⟩
theorem VO{A:Type}{c:A->Zj}{sz bytes:Nat}{lt e:TypeId}{h:TypeInfo}{m:Value}(hlen:∀x,(c x).length=sz)(I:prog.underlying lt=some (.slice e))(F:prog.info? e=some h)(s:h.zero=some m)(t:h.size=sz)(y:h.bytes=bytes)(z:m.cells.size=sz)(r:0<sz)(n:bytes<=64)
 (w:Zh) (a:Nat) (v:Value) (b:List A) (x:A) (G:w.ownsRow a e sz v b.length (Ai c b)) (q:Nat) (E:Aa w q (c x)) (B:∀u∈c x,u.oneCell'=true) (K:b.length<=1000000) (d:a<=w.heap.size) (l:TypeId):
 ∃g cap i,(Builtin.append_ #[lt,lt] l #[v,.slice (some ⟨q,0,none⟩) 1 1]).run prog w=.ok (.slice (some ⟨g,0,none⟩) (b.length+1) cap) i/\i.ownsRow a e sz (.slice (some ⟨g,0,none⟩) (b.length+1) cap) (b++[x]).length (Ai c (b++[x]))/\w.grownBy i v.ownBlock/\(v.ownBlock=some g\/g=w.heap.size):=by
 have o:Ai c [x]=c x:=by simp[Ai]
 obtain⟨L,i,H,k,C,D,f⟩:=run_append_own_at (P:=prog) w a lt l e h _ sz bytes I F s t y z r v b.length (Ai c b) G ⟨q,0,none⟩ 1 1 (c x) (by rw[hlen];omega) (fun j u J=>by rw[Go.WideShapes.add_plain,Nat.zero_add];exact(E j u J).1) B (by unfold maxLen;omega) (Zm (Nat.mul_le_mul_left _ n) (by omega)) d;obtain⟨g,cap,rfl,_,_⟩:=Cs k (fun e=>by have:=(D.1 e).2;omega)
 refine⟨g,cap,i,H,by rw[Ex,o,List.length_append];exact k,C,?_⟩;rcases f with f|f
 .exact .inl f.symm
 .exact .inr (by simpa [Value.ownBlock]using f)
theorem TF(w:Zh)(a:Nat)(v:Value)(b:List Pd)(x:Pd)(n:w.ownsRow a 58 2 v b.length (Ai pC b))(q:Nat)(k:Aa w q [.string x.name,.string x.sum])(m:b.length<=1000000)(d:a<=w.heap.size)(f:TypeId):
 ∃g cap e,(Builtin.append_ #[24,24] f #[v,Yz q 1 1]).run prog w=.ok (Yz g (b.length+1) cap) e/\e.ownsRow a 58 2 (Yz g (b.length+1) cap) (b++[x]).length (Ai pC (b++[x]))/\w.grownBy e v.ownBlock/\(v.ownBlock=some g\/g=w.heap.size):=by
 obtain⟨o,l,h,i,j⟩:=info_parts LB;exact VO (c:=pC) Ja underlying24 l h i j rfl Yr Yr w a v b x n q k (by simp[pC,Value.oneCell']) m d f
theorem WQ(w:Zh)(a:Nat)(v:Value)(b:List Ld)(x:Ld)(n:w.ownsRow a 61 3 v b.length (Ai lC b))(q:Nat)(k:Aa w q [Zg x.H,.string x.sum,Zg x.V])(m:b.length<=1000000)(d:a<=w.heap.size)(f:TypeId):
 ∃g cap e,(Builtin.append_ #[25,25] f #[v,Yz q 1 1]).run prog w=.ok (Yz g (b.length+1) cap) e/\e.ownsRow a 61 3 (Yz g (b.length+1) cap) (b++[x]).length (Ai lC (b++[x]))/\w.grownBy e v.ownBlock/\(v.ownBlock=some g\/g=w.heap.size):=by
 obtain⟨o,l,h,i,j⟩:=info_parts IY;exact VO (c:=lC) He underlying25 l h i j rfl Yr Yr w a v b x n q k (by simp[lC,Value.oneCell']) m d f
theorem NY:∀{zs:List (Kd×Value)} {i:Nat} {z:Kd×Value},zs[i]?=some z->∀(t:Zi) (ss:Zl) (rv:Value),((Ai kC zs).set (i *4+2) (.string t)).set (i *4+3) rv=Ai kC (zs.set i (⟨z.1.sum,z.1.born,t,ss⟩,rv))
 |[],i,_,h,_,_,_=>by simp at h
 |z::zs,0,x,h,t,ss,rv=>by simp at h;subst h;simp[Ai,kC]
 |z::zs,i+1,x,h,t,ss,rv=>by
  have b:zs[i]?=some x:=by simpa using h
  have c:=NY b t ss rv;have e:Ai kC (z::zs)=kC z++Ai kC zs:=by simp[Ai]
  have a:Ai kC ((z::zs).set (i+1) (⟨x.1.sum,x.1.born,t,ss⟩,rv))=kC z++Ai kC (zs.set i (⟨x.1.sum,x.1.born,t,ss⟩,rv)):=by simp[Ai]
  rw[e,a,<-c,show(i+1) *4+2=(kC z).length+(i *4+2) by rw[Ce];omega,show(i+1) *4+3=(kC z).length+(i *4+3) by rw[Ce];omega];rw[List.set_append_right _ _ Yv,Nat.add_sub_cancel_left,List.set_append_right _ _ Yv,Nat.add_sub_cancel_left]
theorem UY{A:Type}{l:List A}{i:Nat}{x y:A}(h:y∈l.set i x):y∈l\/y=x:=by
 rcases List.mem_or_eq_of_mem_set h with h|h
 .exact .inl h
 .exact .inr h
theorem Ow.other{e d:TypeId}{f:Value}{t:Nat}(h:Ow X a q e size v n i)(m:Ow X a q d c f t l)(k:d≠e)(s:Tn f.ownBlock.toList X Y):Ow Y a q e size v n i:=
 h.I s (fun b r=>by
  obtain⟨j,o⟩:=Ch m.o (g:=b) (by simpa using r);exact .inr (.inr (.inr ⟨j,_,k,o⟩)))
theorem BF.aj{T':Value}{i c:List (Kd×Value)}{g:List Pd}(h:BF X a q T P L i g f)(d:Tn T.ownBlock.toList X Y)(j:Ow Y a q 37 4 T' c.length (Ai kC c))(e:∀z∈c,z∈i\/Ow X a q 9 1 z.2 z.1.B.length (z.1.B.map Value.string)/\WB z.1)(m:c.length<=1048576):BF Y a q T' P L c g f:=by
 refine⟨j,fun y b=> ?_,h.p.other h.t Yr d,h.l.other h.t Yr d,⟨fun k l=> ?_,by rw[List.length_map];exact m,h.w.p,h.w.pn,h.w.l,h.w.ln⟩⟩
 .rcases e y b with b|b
  .exact(h.r y b).other h.t Yr d
  .exact b.1.other h.t Yr d
 .obtain⟨y,b,rfl⟩:=List.mem_map.1 l;rcases e y b with b|b
  .exact h.w.k _ (List.mem_map.2 ⟨y,b,rfl⟩)
  .exact b.2
theorem BF.pins{d:Value}{g:List (Kd×Value)}{f b:List Pd}{e:List Ld}(h:BF X a q T P L g f e)(c:Tn P.ownBlock.toList X Y)(i:Ow Y a q 58 2 d b.length (Ai pC b))(m:∀p∈b,p∈f\/p.name.size<=maxLen/\p.sum.size<=maxLen)(j:b.length<=1048576):BF Y a q T d L g b e:=
 ⟨h.t.other h.p Yr c,fun y l=>(h.r y l).other h.p Yr c,i,h.l.other h.p Yr c,⟨h.w.k,h.w.kn,fun p k=>(m p k).elim (h.w.p p) id,j,h.w.l,h.w.ln⟩⟩
theorem BF.aq{e:Value}{i:List (Kd×Value)}{g:List Pd}{b:List Ld}(h:BF X a q T P L i g f)(c:Tn L.ownBlock.toList X Y)(j:Ow Y a q 61 3 e b.length (Ai lC b))(m:∀l∈b,l∈f\/l.sum.size<=maxLen)(d:b.length<=1048576):BF Y a q T P e i g b:=
 ⟨h.t.other h.l Yr c,fun y k=>(h.r y k).other h.l Yr c,h.p.other h.l Yr c,j,⟨h.w.k,h.w.kn,h.w.p,h.w.pn,fun l d=>(m l d).elim (h.w.l l) id,d⟩⟩
theorem BF.setT{X:Zh}{a q g n c:Nat}{P L:Value}{f:List (Kd×Value)}{u:List Pd}{r:List Ld}(h:BF X a q (.slice (some ⟨g,0,none⟩) n c) P L f u r){i:Nat}{z:Kd×Value}(k:f[i]?=some z){t:Zi}{b:Zl}{rv:Value}(x:Ow X a q 9 1 rv b.length (b.map Value.string))(B:t.size<=maxLen)(v:b.length<=1048576)(A:∀s∈b,s.size<=maxLen):
 BF ((X.setCell ⟨g,i *4+2,none⟩ (.string t)).setCell ⟨g,i *4+3,none⟩ rv) a q (.slice (some ⟨g,0,none⟩) n c) P L (f.set i (⟨z.1.sum,z.1.born,t,b⟩,rv)) u r:=by
 have m:=h.t.o;obtain⟨C,cap,e,_,_⟩:=Cs m (fun e=>by cases e);cases e;have j:=((m.stored (i *4+2) (.string t)).1.stored (i *4+3) rv).1;rw[NY k t b rv]at j;have o:=h.w.k z.1 (List.mem_map.2 ⟨z,Zs k,rfl⟩);have l:=h.w.kn;rw[List.length_map]at l;refine h.aj (Tn.trans (Bd X g _ _) (Bd _ g _ _)) ⟨by rw[List.length_set];exact j,h.t.q⟩ (fun y d=> ?_) (by rw[List.length_set];exact l);rcases UY d with d|d
 .exact .inl d
 .rw[d];exact .inr ⟨x,o.s,B,v,A,o.b⟩
theorem BF.setB{z:Kd×Value}{i:List (Kd×Value)}{o:List Pd}{m:List Ld}(h:BF X a q (Yz g n c) P L (z::i) o m){b:Int}(r:(Lit.int .i64 b).wf=true):
 BF (X.setCell (Zd g 1) (Zg b)) a q (Yz g n c) P L ((⟨z.1.sum,b,z.1.E,z.1.B⟩,z.2)::i) o m:=by
 have l:=h.t.o;obtain⟨s,cap,e,_,_⟩:=Cs l (fun e=>by cases e);cases e;have j:=(l.stored 1 (Zg b)).1;rw[show(Ai kC (z::i)).set 1 (Zg b)=Ai kC ((⟨z.1.sum,b,z.1.E,z.1.B⟩,z.2)::i)from by simp[Ai,kC]]at j;have f:=h.w.k z.1 (List.mem_map.2 ⟨z,Yu,rfl⟩);have k:=h.w.kn;rw[List.length_map]at k;refine h.aj (Bd X g _ _) ⟨j,h.t.q⟩ (fun y d=> ?_) k;rcases List.mem_cons.1 d with d|d
 .rw[d];exact .inr ⟨h.r z Yu,f.s,f.t,f.n,f.r,r⟩
 .exact .inl (by simp[d])
theorem BF.iq{j:List (Kd×Value)}{i:List Pd}{l:Ld}{a:List Ld}(h:BF X b q T P (Yz g n c) j i (l::a))(x:Int):
 BF (X.setCell (Zd g 2) (Zg x)) b q T P (Yz g n c) j i (⟨l.H,l.sum,x⟩::a)/\BF (X.setCell (Zd g 0) (Zg x)) b q T P (Yz g n c) j i (⟨x,l.sum,l.V⟩::a):=by
 have f:=h.l.o;obtain⟨u,cap,e,_,_⟩:=Cs f (fun e=>by cases e);cases e;have m:=(f.stored 2 (Zg x)).1;have o:=(f.stored 0 (Zg x)).1;rw[show(Ai lC (l::a)).set 2 (Zg x)=Ai lC (⟨l.H,l.sum,x⟩::a)from by simp[Ai,lC]]at m;rw[show(Ai lC (l::a)).set 0 (Zg x)=Ai lC (⟨x,l.sum,l.V⟩::a)from by simp[Ai,lC]]at o;have s:=h.w.l l Yu;have r:∀y:Ld,y.sum=l.sum->∀k∈y::a,k∈l::a\/k.sum.size<=maxLen:=fun y t k d=>by
  rcases List.mem_cons.1 d with d|d
  .rw[d,t];exact .inr s
  .exact .inl (by simp[d])
 exact⟨h.aq (Bd X g _ _) ⟨m,h.l.q⟩ (r _ rfl) h.w.ln,h.aq (Bd X g _ _) ⟨o,h.l.q⟩ (r _ rfl) h.w.ln⟩
structure DD (w:Zh) (b:Nat) (a:Zk) (n c:Nat) (p K:Int) (q:Nat) (X:Zh):Prop where
 ex:∃wd now given births T P L zs ps ls,Aa X q [Zg wd,Zg now,Zg given,Zg births,T,P,L]/\BF X (w.heap.size+2) q T P L zs ps ls
 z:Aa X (w.heap.size+1) z7
 rd:∃p',AE X b a n c p'/\p<=p'/\p'<=p+K
 gr:w.grownBy X (some b)
structure RW (w:Zh) (b:Nat) (a:Zk) (n c:Nat) (p K:Int) (e:Ending) (w':Zh):Prop where
 ex:∃cs,e=.returned (.agg cs.toArray)/\∀V Y,(∀g∈V,g<w.heap.size)->Tn V w' Y->Uo Y cs
 dr:GN w w' b a n c p K
theorem CY{w:Zh}(h:w.grownBy X (some b))(a:Tn V X Y)(f:∀g∈V,w.heap.size<=g\/g=b):w.grownBy Y (some b):=
 ⟨a.os.trans h.os,a.tape.trans h.tape,a.output.trans h.output,Zm h.size a.size,fun i d c=>(a.block i (Zr d h.size) (fun e=>by rcases f i e with h|h;omega;exact c (by rw[h]))).trans (h.block i d c)⟩
theorem BF.fin{w:Zh}{a:Zk}{p:Int}{r:Nat}{x f d:Int}{y:List (Kd×Value)}{v:List Pd}{u:List Ld}(m:BF X e q T P L y v u)(t:∃h,AE X b a n c h/\p<=h/\h<=p+K)(i:w.grownBy X (some b))(B:b<w.heap.size)(j:Tn [r] X Y)(z:w.heap.size<=r)(A:r<e):RW w b a n c p K (.returned (.agg #[Zg x,Zg now,Zg f,Zg d,T,P,L])) Y:=by refine⟨⟨_,rfl,fun V Z s o=>((m.I j Yt).I o (fun g i=> .inl (by have:=s g i;omega))).sdc _ _ _ _⟩,?_,CY i j Yt⟩;obtain⟨h,k,l⟩:=t;exact⟨h,k.I j Yt Yt,l⟩
theorem DD.fin{w:Zh}{a:Zk}{p:Int}{l e d:Int}{m:List (Kd×Value)}{k:List Pd}{j:List Ld}(h:DD w b a n c p K q X)(f:BF X (w.heap.size+2) q T P L m k j)(g:b<w.heap.size)(i:Tn [w.heap.size+1] X Y):RW w b a n c p K (.returned (.agg #[Zg l,Zg now,Zg e,Zg d,T,P,L])) Y:=by exact f.fin h.rd h.gr g i Yv Yv
def NZ(v:Vd)(l:Zl):Vd:={v with ss:=l,A:=[]}
theorem AD.flushed{u:Value}{f:Zj}{v:Vd}{l:Zl}(h:AD X c S U T P L Q M f v)(i:∀g∈CK S U T P L Q M f,g<n)(j:Ao X n u l)(o:c<=n):AD X c u Zb T P L Q M f (NZ v l):=by
 refine⟨j.mono o,Ao.nil _ _,h.N,h.q,h.m,?_⟩;have d:=h.nd;unfold CK at d i |-;have e:(Al Zb).toList=[]:=rfl;rw[e,List.append_nil];refine List.nodup_append.2 ⟨?_,(List.nodup_append.1 d).2.1,fun a m b k e=> ?_⟩
 .cases Al u<;>simp
 .have q:=(j.W (Option.mem_toList.1 m)).1;have r:=i b (List.mem_append.2 (.inr k));omega
theorem QB(v:Vd)(q r s t:Value)(R:Zj)(l:Zl)(w:Zh)(hl:R.length=13)(hV:∀X,Zz w X->Calls prog 113 #[.agg (q::r::s::t::R).toArray] X fun e A=>Aq (Cp v) X A e)(hC:Cp v->∀X,Zz w X->Calls prog 114 #[.agg (q::r::s::t::R).toArray] X fun e A=>∃(S U T P L Q M:Value) (C:Zj),e=.returned (.agg (Bh v S U T P L Q M).toArray)/\AD A X.heap.size S U T P L Q M C v/\Zz X A)(hS:Cp v->∀X,Zz w X->Calls prog 115 #[.agg #[s,t]] X fun e A=>∃u,e=.returned (.agg #[u,Zb])/\A.ownsRow X.heap.size 9 1 u l.length (l.map Value.string)/\Zz X A):
 Calls prog 97 #[.agg (q::r::s::t::R).toArray] w fun e A=>∃(u:Vd) (S U T P L Q M:Value) (C:Zj),(¬Cp v/\u=v0\/Cp v/\u=NZ v l)/\e=.returned (.agg (Bh u S U T P L Q M).toArray)/\AD A w.heap.size S U T P L Q M C u/\Zz w A:=by
 obtain⟨W,hW⟩:∃W,W=(w.alloc (.cells (q::r::s::t::R).toArray 80)).alloc (.cells Xs 80):=⟨_,rfl⟩;have bW:=(Bm hW).1;have zW:=(Bm hW).2.1;have HX:Hid (Aa W w.heap.size (q::r::s::t::R)):=(Bm hW).2.2.1;have HZ:Hid (Aa W (w.heap.size+1) Bz):=(Bm (k:=Bz) hW).2.2.2;have zS:Hid ((q::r::s::t::R).length=17):=by show(q::r::s::t::R).length=17;simp[hl]
 have HV:=Yw hV;have HC:=Yw hC;have HS:=Yw hS;have HW:=Yw hW;clear hW hV hC hS hl;go_enter func97,ntmps97;go_upto_region 1 with fail;rw[<-HW.o];clear HW;go_wp2_with (refine wpList_load_mid rfl 80 _ rfl w.heap.size 0 rfl (q::r::s::t::R) _ HX.o.range underlying80 rfl (by rw[zS.o];kernel_rfl) ?_);refine(HV.o W bW).mono ?_;rintro e B ⟨o,rfl,ho,H⟩;have z1:=H.size
 have zM:Hid (Aa B w.heap.size (q::r::s::t::R)):=Aa.below HX.o H;have Z:Hid (Aa B (w.heap.size+1) Bz):=Aa.below (v:=Ze) HZ.o H;have D:Hid (Zz w B):=bW.trans (H.mono bW.size);clear H HV HX HZ bW;cases o with
 |false=>
  have yD:Hid (¬Cp v):=fun h=>by have:=ho.2 h;cases this
  clear ho HC HS;have N:Bz.toArray.all (·.oneCell')=true:=by simp[Bz,Value.oneCell']
  have zR:=Yw (Zn N Z.o.there);obtain⟨W9,zG⟩:∃X,X=B.setCells (w.heap.size+1) 0 Bz:=⟨_,rfl⟩;have x9:Aa W9 (w.heap.size+1) Bz:=by rw[zG];exact Z.o.au _ rfl
  have b9:Below w.heap.size w W9:=D.o.trans (by rw[zG];exact(AL _ _ _ _).below D.o.size Yu);have yG:=Yw zG;clear N zG;go_wp2_with (refine wpList_store_mid rfl 80 _ _ rfl (w.heap.size+1) 0 Xs rfl rfl zR.o.2 Ys zR.o.1 ?_);change bodyPost _ _ _ _ _ (B.setCells (w.heap.size+1) 0 Bz);rw[<-yG.o]
  refine bodyPost_ret (AW results97 _ _ (w.heap.size+1) Bz _ rfl x9.range underlying80 rfl Ys) rfl ?_;exact⟨v0,_,_,_,_,_,_,_,[],.inl ⟨yD.o,rfl⟩,rfl,AD.nil _ _,b9⟩
 |true=>
  have E:Hid (Cp v):=ho.1 rfl;clear ho;go_wp2_with (refine wpList_load_mid rfl 80 _ rfl w.heap.size 0 rfl (q::r::s::t::R) _ zM.o.range underlying80 rfl (by rw[zS.o];kernel_rfl) ?_);refine(HC.o E.o B D.o).mono ?_;rintro e i ⟨S,U,T,P,L,Q,M,C,rfl,zB,zH⟩;obtain⟨c,zC⟩:∃c:Zj,c=[Zg v.O,Zg v.D,Zg v.G,Zg v.C,T,P,L,Zg v.K,Q,M,Zg v.R,Zg v.S,Zg v.ro]:=⟨_,rfl⟩
  have eR:Bh v S U T P L Q M=(Zg v.wd::Zg v.lim::S::U::c):=by rw[zC];rfl
  have j:(Zg v.wd::Zg v.lim::S::U::c).length=17:=by rw[zC];rfl
  have I:∀x∈(Zg v.wd::Zg v.lim::S::U::c),x.oneCell'=true:=by obtain⟨a,h,_⟩:=zB.jb;rw[<-eR,h];simp[Bh,Value.oneCell']
  have zK:Hid (∀g∈CK S U T P L Q M C,g<i.heap.size):=zB.di;have yE:Hid (∀d f,Bh (NZ v l) (.slice d l.length f) Zb T P L Q M=(Zg v.wd::Zg v.lim:: .slice d l.length f::Zb::c)):=fun d f=>by rw[zC];rfl
  rw[eR];have z2:=zH.size;obtain⟨y,zO⟩:∃Y,Y=(i.alloc (.cells Xs 80)).setCells i.heap.size 0 (Zg v.wd::Zg v.lim::S::U::c).toArray.toList:=⟨_,rfl⟩;have hb:=boxed (X:=i) (cs:=(Zg v.wd::Zg v.lim::S::U::c)) (z:=Bz) (T:=80) (by rw[j];rfl);have e3:y=(i.alloc (.cells Bz.toArray 80)).setCells i.heap.size 0 (Zg v.wd::Zg v.lim::S::U::c):=zO;rw[<-e3]at hb;obtain⟨x3,b3,z3⟩:=hb
  have F:Hid ((i.alloc (.cells Xs 80)).there i.heap.size 0 (Zg v.wd::Zg v.lim::S::U::c).toArray.size/\(Zg v.wd::Zg v.lim::S::U::c).length=17/\∀x∈(Zg v.wd::Zg v.lim::S::U::c),x.oneCell'=true):=⟨by rw[show(Zg v.wd::Zg v.lim::S::U::c).toArray.size=17 from by rw[List.size_toArray];exact j];exact(Aa.new i Bz 80).there,j,I⟩;have zT:=Yw zO;have zA:Below B.heap.size B y:=zH.trans (b3.mono zH.size)
  have zN:Hid (Aa y w.heap.size (q::r::s::t::R)):=Aa.below zM.o zA;have zV:Hid (Aa y (w.heap.size+1) Bz):=Aa.below (v:=Ze) Z.o zA;have O:Hid (Zz w y):=D.o.trans (zA.mono D.o.size);have zJ:Hid (AD y B.heap.size S U T P L Q M C v):=zB.below b3;have V:=Yw x3;clear zO e3 x3 b3 zA zB zH eR j I zC zM Z HC
  go_upto_region 4 with(refine wpList_store_mid rfl 80 _ _ rfl i.heap.size 0 (Zg v.wd::Zg v.lim::S::U::c).toArray rfl rfl F.o.1 (by rw[List.size_toArray,F.o.2.1];kernel_rfl) (all_oneCell_toArray F.o.2.2) ?_);rw[<-zT.o];clear zT;obtain⟨y2,_⟩:=zN.o 2 _ rfl;obtain⟨y3,_⟩:=zN.o 3 _ rfl;go_wp2_with fail;refine(HS.o E.o y O.o).mono ?_;rintro e w4 ⟨u,rfl,zP,m⟩;obtain⟨d,f,rfl,_⟩:=(Ao.own zP).row
  have z4:=m.size;clear y2 y3 HS zN;obtain⟨J,zE⟩:∃X,X=(w4.setCell (Zd (i.heap.size) 2) (.slice d l.length f)).setCell (Zd (i.heap.size) 3) Zb:=⟨_,rfl⟩;have t5:Tn [i.heap.size] w4 J:=by rw[zE];exact(Tn.set _ _ _ _ Yu).trans (Tn.set _ _ _ _ Yu)
  have yI:Hid (Aa J i.heap.size (Zg v.wd::Zg v.lim:: .slice d l.length f::Zb::c)):=by show Aa J i.heap.size (Zg v.wd::Zg v.lim:: .slice d l.length f::Zb::c);rw[zE];exact((Aa.below V.o m).set 2 (.slice d l.length f)).set 3 Zb
  have z5:=t5.size;have zX:Hid (Aa J (w.heap.size+1) Bz):=Aa.same (Aa.below (v:=Ze) zV.o m) (t5.block _ Yv Yt);have j:(Zg v.wd::Zg v.lim:: .slice d l.length f::Zb::c).length=17:=by simpa using F.o.2.1
  have I:∀x∈(Zg v.wd::Zg v.lim:: .slice d l.length f::Zb::c),x.oneCell'=true:=fun x hx=>by
   have h1:=F.o.2.2 x;simp only[List.mem_cons]at hx h1;rcases hx with rfl|rfl|rfl|rfl|hx
   .rfl
   .rfl
   .rfl
   .rfl
   .exact h1 (.inr (.inr (.inr (.inr hx))))
  obtain⟨K,zF⟩:∃X,X=J.setCells (w.heap.size+1) 0 (Zg v.wd::Zg v.lim:: .slice d l.length f::Zb::c).toArray.toList:=⟨_,rfl⟩;have t6:Tn [(w.heap.size+1)] J K:=by rw[zF];exact AL _ _ _ _
  have x6:Aa K (w.heap.size+1) (Zg v.wd::Zg v.lim:: .slice d l.length f::Zb::c):=by rw[zF];exact zX.o.au _ (by rw[j];rfl)
  have zI:Tn [i.heap.size,(w.heap.size+1)] w4 K:=(t5.mono Yu).trans (t6.mono Yu);have zY:AD K B.heap.size S U T P L Q M C v:=(zJ.o.below m).stays zI (fun g hg zZ=>by have h1:=zJ.o.lo g zZ;have h2:=zK.o g zZ;simp at hg;omega);have yA:Ao K y.heap.size (.slice d l.length f) l:=Ao.own (NJ zP zI (fun b hb=>by simp at hb;omega))
  have yB:Hid (AD K w.heap.size (.slice d l.length f) Zb T P L Q M C (NZ v l)):=(zY.flushed (n:=y.heap.size) (fun g hg=>by have:=zK.o g hg;omega) yA Yv).mono (by have:=D.o.size;omega);have b4:Below w.heap.size w w4:=O.o.trans (m.mono O.o.size);have yC:Hid (Zz w K):=b4.trans (zI.below b4.size (fun b hb=>by simp at hb;omega))
  have G:Hid (J.there (w.heap.size+1) 0 (Zg v.wd::Zg v.lim:: .slice d l.length f::Zb::c).toArray.size/\(Zg v.wd::Zg v.lim:: .slice d l.length f::Zb::c).length=17/\∀x∈(Zg v.wd::Zg v.lim:: .slice d l.length f::Zb::c),x.oneCell'=true):=⟨by rw[show(Zg v.wd::Zg v.lim:: .slice d l.length f::Zb::c).toArray.size=17 from by rw[List.size_toArray];exact j];exact zX.o.there,j,I⟩
  obtain⟨y2,f2⟩:=Aa.below V.o m 2 _ rfl;obtain⟨y3,f3⟩:=Aa.below V.o m 3 _ rfl;have zU:=Yw zE;have yF:=Yw zF;have yH:=Yw x6;clear zE zF x6 t5 t6 zI zY yA b4 I j zP m V zJ zV O zK;go_upto_region 5 with fail;rw[<-zU.o];clear zU y2 y3 f2 f3;go_wp2_with (first
   |refine wpList_load_mid rfl 80 _ rfl i.heap.size 0 rfl (Zg v.wd::Zg v.lim:: .slice d l.length f::Zb::c) _ yI.o.range underlying80 rfl (by rw[G.o.2.1];kernel_rfl) ?_
   |refine wpList_store_mid rfl 80 _ _ rfl (w.heap.size+1) 0 (Zg v.wd::Zg v.lim:: .slice d l.length f::Zb::c).toArray rfl rfl G.o.1 (by rw[List.size_toArray,G.o.2.1];kernel_rfl) (all_oneCell_toArray G.o.2.2) ?_)
  rw[<-yF.o];refine bodyPost_ret (AW results97 _ _ (w.heap.size+1) (Zg v.wd::Zg v.lim:: .slice d l.length f::Zb::c) _ rfl (Aa.range yH.o) underlying80 rfl (by rw[G.o.2.1];kernel_rfl)) rfl ?_;exact⟨NZ v l,.slice d l.length f,Zb,T,P,L,Q,M,C,.inr ⟨E.o,rfl⟩,by rw[yE.o],yB.o,yC.o⟩
end Go.Proofs.YtmjlkgpekcnacaaGreat
