import Derived.Test.YtcfjcdpkpiidkaaGreatX29
set_option maxRecDepth 100000
set_option maxHeartbeats 16000000
namespace Go.Proofs.YtcfjcdpkpiidkaaGreat
open ChangeShapes WideShapes ChangeAt RowKit _root_.Go.Proofs.Tryz
variable{b w:Zh}{v:Vd}{e:Ed}{d:Dd}{n m:Nat}{c a:Zj}{V:List Nat}
theorem WI(v:Vd)(e:Ed)(a:Va)(H:Zk)(O:Nat)(w:Zh)(h1:CO w w.heap.size a v)(h2:Ov w a v)(R:Gu v)(zE:Ab w w.heap.size H e.rf)(zP:H=none->e.rf.length=0/\O=0)(hl:e.rf.length<=1048576)(ht:e.tx.size<=maxLen)(hn:e.nm.size<=maxLen):
 Calls prog 99 #[.agg (Xq v a),.agg (Yd e.kd e.s e.nm e.I e.tx H e.rf.length O)] w (Wn v e w):=by
 have hR:∀X,Zz w X->CO X X.heap.size a v:=fun X m=>h1.L m;have hS:∀X,Zz w X->Ab X X.heap.size H e.rf:=fun X m=>zE.L m;have hP:Cl v->∀X,Zz w X->Ji X a v:=fun K X m=>(h2.cp h1 R K).below m
 refine WH v e _ _ _ _ _ _ _ _ _ _ _ _ _ _ _ _ _ H O (XH v) XG w ⟨R.s,R.t⟩ (fun X m=>DV v a X (hR X m) h2.cap R) ?_ (fun X m=>Te e.kd e.s e.nm e.I e.tx H O e.rf v.wd X (hS X m) hl ht hn) ?_ ?_ ?_ ?_ ?_ ?_ (fun d X m=>Ng e.kd e.s e.nm e.I e.tx H O e.rf v.wd X (hS X m) hl ht hn) ?_ ?_ ?_ ?_
 .intro K X m;refine(EV v a X (hP K X m)).mono ?_;rintro o I ⟨S,U,T,P,L,Q,M,rs,rfl,F,h5,h4⟩;obtain⟨sb,n1,zY,rfl⟩:=h5 S Yu;obtain⟨ub,n2,yB,rfl⟩:=h5 U Yu;obtain⟨qb,n3,zC,rfl⟩:=h5 Q Yu;obtain⟨mb,n4,zB,rfl⟩:=h5 M Yu;obtain⟨_,_,e1,_⟩:=F.s.row;obtain⟨_,_,e2,_⟩:=F.u.row;obtain⟨_,_,e3,_⟩:=F.q.row;obtain⟨_,_,e4,_⟩:=F.m.row;cases e1;cases e2;cases e3;cases e4
  exact⟨sb,zY,ub,yB,T,P,L,qb,zC,mb,zB,rs,rfl,F,h4⟩
 .intro K X m;have G:=hP K X m;refine(GI v.P v.E v.G v.C a.U a.N a.K _ _ _ v.ks v.ps v.ls X G.rows.R G.k G.p G.l G.nk G.np G.nl G.di).mono ?_;rintro o I ⟨T,P,L,rs,rfl,u,K,t⟩;obtain⟨b,p,l,W,E,D,C,rfl,rfl,rfl,j,n,zN,zO⟩:=CT.of u K t.size;exact⟨_,[l],rfl,t,by simp;exact⟨zN,zO⟩,_,b,p,l,W,E,D,C,rfl,rfl,j,n⟩
 .rintro cs V X I ⟨f,b,p,l,W,E,D,C,rfl,rfl,j,n⟩ t;exact⟨f,b,p,l,W,E,D,C,rfl,rfl,j,n.below t⟩
 .rintro⟨r,d⟩ s cs V X m ⟨f,b,p,l,W,E,D,C,rfl,rfl,j,n⟩;have B:=d.dy;have zR:=d.same.1.1;have ha:=B.jh s ht;rw[<-j]at ha;rw[<-zR];refine(JQ f v.wd v.E v.G v.C b _ _ _ W E D C v.ps v.ls e.s e.nm e.tx e.I e.rf H O X e.kd n ha (fun k J=>B.di k (by rw[<-j];exact J)) (hS X m) zP).mono ?_;rintro o I ⟨N,⟨c,p',q',zF,rfl⟩|⟨g,b1,zZ,yA,yC,zW,zX,zU,zV,q,rfl,zS,zJ⟩⟩
  .rw[j]at zF;exact⟨N,_,rfl,.inl ⟨c,p',q',zF,rfl⟩⟩
  .rw[j]at q;exact⟨N,[_,_,_,_,_,_,_,_,_,_,_,_],rfl,.inr ⟨g,zZ,yA,zW,zX,zU,zV,q,rfl,f,b1,yC,zS,zJ⟩⟩
 .rintro g Y Z pa E la D X ⟨r,d⟩ s q ⟨f,b,C,j,n⟩ cb I t N;have zA:=Wl (d.tok.step s q);exact⟨f,b,C,j,n.gz t (fun z zT=>zA z.1 (by rw[<-j];exact List.mem_map.2 ⟨z,zT,rfl⟩)) N⟩
 .rintro g Y Z pa E la D X ⟨f,b,C,j,n⟩ I t;exact⟨f,b,C,j,n.below t⟩
 .rintro⟨r,d⟩ s _ g Y Z pa E la D X q ⟨f,b,C,j,n⟩;have B:=d.dy.step s q;have zA:=d.tok.step s q;have J:=n.cu;rw[j]at J;exact QC v.wd g.E g.G g.C Y Z _ _ g.ks X J B.bt.len (fun i k hi=>zA k (Zs hi))
 .rintro⟨r,d⟩ s g Y Z pa E la D X q ⟨f,b,C,j,n⟩;have B:=d.dy.step s q;have zG:=n.srows;rw[j]at zG;refine(Ie v.wd g.E g.G g.C Y pa la Z E D g.ks g.ps g.ls X zG (fun A u=> ?_) (Dy n.po) (Dy n.y) B.bt.len B.np B.nl B.di).mono ?_
  .rcases n.tb with h|h
   .rw[h]at u;cases u;rw[<-j];exact n.z.some
   .rw[<-j,h];intro i k hi;simp at hi
  .rintro o I ⟨T,P,L,rs,rfl,u,_,t⟩;exact⟨T,P,L,rs,rfl,u,t⟩
 .rintro⟨r,d⟩ s g X T2 P2 L2 yE n2 qb zC mb zB q u hq hm;have B:=d.dy.step s q;obtain⟨za,zc,rfl⟩:=As u.aj;obtain⟨ya,yc,rfl⟩:=As u.pins;obtain⟨ka,kc,rfl⟩:=As u.aq;refine(OS v.wd g.E g.G g.C za zc _ _ g.ks (e.held g) v.H v.O v.M v.ro qb mb zC zB v.D v.ms X u.get.k (by have:=B.bt.len;omega) hq.ie hm.ie R.r d.round.bz.nq).mono ?_;rintro o I ⟨x,cx,y,cy,rfl,o1,o2,_,t⟩
  exact⟨t,_,_,rfl,Ah.own o1,Ah.own o2⟩
 .rintro⟨r,d⟩ g q;have zI:=d.wd.1;refine⟨fun J he=> ?_,fun he=>IZ (.inr (.inl fun zH=> ?_))⟩
  .rcases q with⟨_,_,hl,hg,yD,b1,q,rfl⟩|⟨h,_⟩|⟨h,_⟩|⟨h,_⟩|⟨h,_⟩|⟨h,_⟩|⟨h,_⟩
   .have F:=FA e.tx e.rf v.wd zI;have zK:Ch e.tx e.rf v.wd=⟨#[]⟩:=he;rw[zK]at F;have h4:((⟨#[]⟩:Zi).size:Int)=0:=rfl;omega
   all_goals omega
  .rw[he]at zH;obtain⟨k,J,zM⟩:=zH;have F:=q.sz zI d.dy.bt.sz k J;rw[zM]at F;have h4:((⟨#[]⟩:Zi).size:Int)=0:=rfl;omega
 .rintro⟨r,d⟩;refine⟨d.same.1.1,?_⟩;have:=Eb d.log;rw[List.length_append]at this;exact this
theorem SM{f:Int}{b:List Kd}(h:My f b):∀k∈b,Hj k:=fun k d=>by have a:=AV (h k d);refine⟨a.F,a.B,fun s e=> ?_⟩;obtain⟨i,c⟩:=List.getElem?_of_mem e;have:=a.size c;have:=a.hi;omega
structure Ox (v:Vd):Prop where
 fit:Gu v
 sm:∀k∈v.ks,Hj k
 R:Gm v.ks v.ps v.ls
theorem IC.ig(h:IC v e d)(j:∀k∈v.ks,Hj k):∀k∈d.v.ks,Hj k:=by
 rcases h with⟨_,rfl⟩|⟨⟨r,g⟩,⟨c,a,b,_,rfl⟩|⟨l,f,rfl⟩⟩
 .intro k i;cases i
 .exact j
 .exact SM (g.tok.step f.1 f.2.1)
theorem Jv:Gm [] [] []:=⟨⟨Nat.zero_le _,Yu,Yu,Yu,Yu⟩,⟨Nat.zero_le _,Yu,Yu⟩,⟨Nat.zero_le _,Yu⟩,Yu,Yu⟩
theorem IC.ic(h:IC v e d)(i:Gm v.ks v.ps v.ls):Gm d.v.ks d.v.ps d.v.ls:=by
 rcases h with⟨_,rfl⟩|⟨⟨r,f⟩,⟨c,a,b,_,rfl⟩|⟨j,g,rfl⟩⟩
 .exact Jv
 .exact i
 .exact SK (f.dy.step g.1 g.2.1) (f.ji.1.step f.dy g.2.1) (f.ji.2.step g.1 g.2.1) f.wd.2
def RV(n:Nat)(w:Zh)(vs:Zj):Prop:=∃u,Ox u/\∀V X',(∀b∈V,b<n)->Tn V w X'->Ll u X'.heap.size X' vs
theorem RV.J{d:Zh}(h:RV n w c)(l:Tn V w d)(j:∀b∈V,b<n):RV n d c:=by
 obtain⟨u,k,h⟩:=h;refine⟨u,k,fun f g e i=>h (V++f) g (fun b a=> ?_) ((l.mono (by simp;exact fun b a=> .inl a)).trans (i.mono (by simp;exact fun b a=> .inr a)))⟩;rcases List.mem_append.1 a with h|h
 .exact j b h
 .exact e b h
theorem RV.below(h:RV n w a)(c:Zz w b):RV n b a:=h.J (V:=[]) (Tn.of c) Yu
theorem RV.mono(h:RV n w a)(g:m<=n):RV m w a:=by obtain⟨u,f,h⟩:=h;exact⟨u,f,fun V c d=>h V c (fun b e=>Zr (d b e) g)⟩
theorem RV.E{b:Zj}(h:RV n w b):∃u a,Ox u/\b=Bn u (.slice a.g u.ss.length a.sc) (.slice a.X u.A.length a.Z) (.slice a.U u.ks.length a.W) (.slice a.N u.ps.length a.T) (.slice a.K u.ls.length a.Q) (.slice a.i u.D.length a.qc) (.slice a.j u.ms.length a.mc)/\CO w w.heap.size a u/\Ov w a u:=by obtain⟨u,c,h⟩:=h;obtain⟨a,h⟩:=h [] w Yu (Tn.of Ad);exact⟨u,a,c,h⟩
theorem RV.len{b:Zj}(h:RV n w b):b.length=17/\∀u∈b,u.oneCell'=true:=by obtain⟨u,a,_,rfl,_⟩:=h.E;exact⟨rfl,by simp[Bn,Value.oneCell']⟩
theorem AG.rv{a:Zh}{S U T P L Q M:Value}{u:Vd}(h:AG a w.heap.size S U T P L Q M c u)(b:Ox u):RV w.heap.size a (Bn u S U T P L Q M):=⟨u,b,h.ir (Zx) Ad⟩
def CL(p:Nat->Prop)(w:Zh)(vs:Zj):Prop:=∃u,Ox u/\∀V X',(∀b∈V,p b)->Tn V w X'->Ll u X'.heap.size X' vs
theorem CL.J{p:Nat->Prop}{d:Zh}(h:CL p w c)(l:Tn V w d)(j:∀b∈V,p b):CL p d c:=by
 obtain⟨u,k,h⟩:=h;refine⟨u,k,fun f g e i=>h (V++f) g (fun b a=> ?_) ((l.mono (by simp;exact fun b a=> .inl a)).trans (i.mono (by simp;exact fun b a=> .inr a)))⟩;rcases List.mem_append.1 a with h|h
 .exact j b h
 .exact e b h
theorem CL.below{p:Nat->Prop}(h:CL p w a)(c:Zz w b):CL p b a:=h.J (V:=[]) (Tn.of c) Yu
theorem RV.p{p:Nat->Prop}{vs:Zj}(h:RV n w vs)(f:∀b,p b->b<n):CL p w vs:=by obtain⟨u,e,h⟩:=h;exact⟨u,e,fun V a c=>h V a (fun b d=>f b (c b d))⟩
theorem CL.zero{p:Nat->Prop}(h:CL p w a):RV 0 w a:=by obtain⟨u,g,h⟩:=h;exact⟨u,g,fun V c e d=>h V c (fun b f=>absurd (e b f) (Nat.not_lt_zero b)) d⟩
def Lm(w:Zh)(o:Ending)(w':Zh):Prop:=∃d vs,o=.returned (.agg (dL d vs).toArray)/\RV w.heap.size w' vs/\Zz w w'
theorem Jw(j:Zj)(e:Ed)(f:Zk)(i:Nat)(w:Zh)(h:RV n w j)(g:Ab w w.heap.size f e.rf)(k:f=none->e.rf.length=0/\i=0)(s:e.rf.length<=1048576)(x:e.tx.size<=maxLen)(t:e.nm.size<=maxLen):
 Calls prog 99 #[.agg j.toArray,.agg (Yd e.kd e.s e.nm e.I e.tx f e.rf.length i)] w (Lm w):=by
 obtain⟨u,a,c,rfl,m,q⟩:=h.E;refine(WI u e a f i w m q c.fit g k s x t).mono ?_;rintro o y ⟨d,l,b,rfl,v,r⟩;exact⟨d,l,rfl,⟨d.v,⟨b.fit c.fit,b.ig c.sm,b.ic c.R⟩,v⟩,r⟩
theorem Ga{W X:Zh}{q:Nat}(l:w.heap.size<=q)(j:q<W.heap.size)(b:Zz w W)(k:Aa W q En)(h:RV W.heap.size X a)(g:Zz W X):
 ((dL d a).length=22/\∀u∈dL d a,u.oneCell'=true)/\X.there q 0 (dL d a).toArray.size/\Aa (X.setCells q 0 (dL d a).toArray.toList) q (dL d a)/\Lm w (.returned (.agg (dL d a).toArray)) (X.setCells q 0 (dL d a).toArray.toList):=by
 have e:=Lj (d:=d) h.len;have i:=AF q (dL d a) 0 X;have c:=Aa.below (v:=Ze) k g;have f:=b.trans (g.mono b.size);refine⟨e,?_,c.ar _ (by rw[e.1];rfl),d,a,rfl,(h.J i (by simpa using j)).mono b.size,f.trans (i.below f.size (by simpa using l))⟩;rw[show(dL d a).toArray.size=22 from by rw[List.size_toArray];exact e.1];exact c.there
theorem Ul(A:Zj)(i s:Zi)(w:Zh)(h:RV m w A)(v:i.size<=maxLen):
 Calls prog 73 #[.agg A.toArray,.string i,.string s] w (Lm w):=by
 obtain⟨W,b⟩:=Af ((w.alloc (.cells A.toArray 69)).alloc (.cells Xk 124));have f:=(Bf b).1;have r:=(Bf b).2.1;have e:Hid (Aa W w.heap.size A/\Aa W (w.heap.size+1) En):=⟨(Bf b).2.2.1,(Bf (k:=En) b).2.2.2⟩;have u:Hid (A.length=17):=h.len.1;have j:=Yw (Jw A ⟨2,s,i,0,⟨#[]⟩,[]⟩ none 0 W (h.below f) (.inl rfl) (fun _=>⟨rfl,rfl⟩) Yu (Nat.zero_le _) v);have c:=Yw (Zn f r);have l:=Yw b
 clear b h f r;go_enter func73,ntmps73;go_upto_region 1 with fail;rw[<-l.o];clear l;go_wp2_with (refine wpList_load_mid rfl 69 _ rfl w.heap.size 0 rfl A _ e.o.1.range underlying69 rfl (by rw[u.o];kernel_rfl) ?_);refine j.Am ?_;rintro o y ⟨d,x,rfl,q,n⟩;have a:=Yw (Ga (d:=d) (Nat.le_succ _) (by have:=c.o.2;omega) c.o.1 e.o.2 q n);clear j c e q n;obtain⟨D,g⟩:=Af (dL d x);rw[<-g]at a
 rw[<-g];clear g;go_wp2_with (refine wpList_store_mid rfl 124 _ _ rfl (w.heap.size+1) 0 D.toArray rfl rfl a.o.2.1 (by rw[List.size_toArray,a.o.1.1];kernel_rfl) (all_oneCell_toArray a.o.1.2) ?_);exact bodyPost_ret (AU results73 _ _ (w.heap.size+1) D _ rfl (Aa.range a.o.2.2.1) underlying124 rfl (by rw[a.o.1.1];kernel_rfl)) rfl a.o.2.2.2
theorem Rb(A:Zj)(i:Zi)(w:Zh)(h:RV m w A)(u:i.size<=maxLen):
 Calls prog 75 #[.agg A.toArray,.string i] w (Lm w):=by
 obtain⟨W,b⟩:=Af ((w.alloc (.cells A.toArray 69)).alloc (.cells Xk 124));have f:=(Bf b).1;have r:=(Bf b).2.1;have e:Hid (Aa W w.heap.size A/\Aa W (w.heap.size+1) En):=⟨(Bf b).2.2.1,(Bf (k:=En) b).2.2.2⟩;have s:Hid (A.length=17):=h.len.1;have j:=Yw (Jw A ⟨3,⟨#[]⟩,i,0,⟨#[]⟩,[]⟩ none 0 W (h.below f) (.inl rfl) (fun _=>⟨rfl,rfl⟩) Yu (Nat.zero_le _) u);have c:=Yw (Zn f r);have l:=Yw b
 clear b h f r;go_enter func75,ntmps75;go_upto_region 1 with fail;rw[<-l.o];clear l;go_wp2_with (refine wpList_load_mid rfl 69 _ rfl w.heap.size 0 rfl A _ e.o.1.range underlying69 rfl (by rw[s.o];kernel_rfl) ?_);refine j.Am ?_;rintro o x ⟨d,v,rfl,q,n⟩;have a:=Yw (Ga (d:=d) (Nat.le_succ _) (by have:=c.o.2;omega) c.o.1 e.o.2 q n);clear j c e q n;obtain⟨D,g⟩:=Af (dL d v);rw[<-g]at a
 rw[<-g];clear g;go_wp2_with (refine wpList_store_mid rfl 124 _ _ rfl (w.heap.size+1) 0 D.toArray rfl rfl a.o.2.1 (by rw[List.size_toArray,a.o.1.1];kernel_rfl) (all_oneCell_toArray a.o.1.2) ?_);exact bodyPost_ret (AU results75 _ _ (w.heap.size+1) D _ rfl (Aa.range a.o.2.2.1) underlying124 rfl (by rw[a.o.1.1];kernel_rfl)) rfl a.o.2.2.2
theorem Rc(A:Zj)(s:Zi)(n:Int)(w:Zh)(h:RV m w A):
 Calls prog 76 #[.agg A.toArray,.string s,Zg n] w (Lm w):=by
 obtain⟨W,b⟩:=Af ((w.alloc (.cells A.toArray 69)).alloc (.cells Xk 124));have f:=(Bf b).1;have r:=(Bf b).2.1;have e:Hid (Aa W w.heap.size A/\Aa W (w.heap.size+1) En):=⟨(Bf b).2.2.1,(Bf (k:=En) b).2.2.2⟩;have u:Hid (A.length=17):=h.len.1;have i:=Yw (Jw A ⟨4,s,⟨#[]⟩,n,⟨#[]⟩,[]⟩ none 0 W (h.below f) (.inl rfl) (fun _=>⟨rfl,rfl⟩) Yu (Nat.zero_le _) (Nat.zero_le _));have c:=Yw (Zn f r)
 have j:=Yw b;clear b h f r;go_enter func76,ntmps76;go_upto_region 1 with fail;rw[<-j.o];clear j;go_wp2_with (refine wpList_load_mid rfl 69 _ rfl w.heap.size 0 rfl A _ e.o.1.range underlying69 rfl (by rw[u.o];kernel_rfl) ?_);refine i.Am ?_;rintro o x ⟨d,v,rfl,q,l⟩;have a:=Yw (Ga (d:=d) (Nat.le_succ _) (by have:=c.o.2;omega) c.o.1 e.o.2 q l);clear i c e q l;obtain⟨D,g⟩:=Af (dL d v)
 rw[<-g]at a;rw[<-g];clear g;go_wp2_with (refine wpList_store_mid rfl 124 _ _ rfl (w.heap.size+1) 0 D.toArray rfl rfl a.o.2.1 (by rw[List.size_toArray,a.o.1.1];kernel_rfl) (all_oneCell_toArray a.o.1.2) ?_);exact bodyPost_ret (AU results76 _ _ (w.heap.size+1) D _ rfl (Aa.range a.o.2.2.1) underlying124 rfl (by rw[a.o.1.1];kernel_rfl)) rfl a.o.2.2.2
theorem Oy(A:Zj)(n:Int)(w:Zh)(h:RV m w A):
 Calls prog 77 #[.agg A.toArray,Zg n] w (Lm w):=by
 obtain⟨W,b⟩:=Af ((w.alloc (.cells A.toArray 69)).alloc (.cells Xk 124));have f:=(Bf b).1;have r:=(Bf b).2.1;have e:Hid (Aa W w.heap.size A/\Aa W (w.heap.size+1) En):=⟨(Bf b).2.2.1,(Bf (k:=En) b).2.2.2⟩;have s:Hid (A.length=17):=h.len.1;have i:=Yw (Jw A ⟨5,⟨#[]⟩,⟨#[]⟩,n,⟨#[]⟩,[]⟩ none 0 W (h.below f) (.inl rfl) (fun _=>⟨rfl,rfl⟩) Yu (Nat.zero_le _) (Nat.zero_le _))
 have c:=Yw (Zn f r);have j:=Yw b;clear b h f r;go_enter func77,ntmps77;go_upto_region 1 with fail;rw[<-j.o];clear j;go_wp2_with (refine wpList_load_mid rfl 69 _ rfl w.heap.size 0 rfl A _ e.o.1.range underlying69 rfl (by rw[s.o];kernel_rfl) ?_);refine i.Am ?_;rintro o v ⟨d,u,rfl,q,l⟩;have a:=Yw (Ga (d:=d) (Nat.le_succ _) (by have:=c.o.2;omega) c.o.1 e.o.2 q l);clear i c e q l
 obtain⟨D,g⟩:=Af (dL d u);rw[<-g]at a;rw[<-g];clear g;go_wp2_with (refine wpList_store_mid rfl 124 _ _ rfl (w.heap.size+1) 0 D.toArray rfl rfl a.o.2.1 (by rw[List.size_toArray,a.o.1.1];kernel_rfl) (all_oneCell_toArray a.o.1.2) ?_);exact bodyPost_ret (AU results77 _ _ (w.heap.size+1) D _ rfl (Aa.range a.o.2.2.1) underlying124 rfl (by rw[a.o.1.1];kernel_rfl)) rfl a.o.2.2.2
theorem Um(A:Zj)(n:Int)(w:Zh)(h:RV m w A):
 Calls prog 79 #[.agg A.toArray,Zg n] w (Lm w):=by
 obtain⟨W,b⟩:=Af ((w.alloc (.cells A.toArray 69)).alloc (.cells Xk 124));have f:=(Bf b).1;have r:=(Bf b).2.1;have e:Hid (Aa W w.heap.size A/\Aa W (w.heap.size+1) En):=⟨(Bf b).2.2.1,(Bf (k:=En) b).2.2.2⟩;have s:Hid (A.length=17):=h.len.1;have i:=Yw (Jw A ⟨6,⟨#[]⟩,⟨#[]⟩,n,⟨#[]⟩,[]⟩ none 0 W (h.below f) (.inl rfl) (fun _=>⟨rfl,rfl⟩) Yu (Nat.zero_le _) (Nat.zero_le _))
 have c:=Yw (Zn f r);have j:=Yw b;clear b h f r;go_enter func79,ntmps79;go_upto_region 1 with fail;rw[<-j.o];clear j;go_wp2_with (refine wpList_load_mid rfl 69 _ rfl w.heap.size 0 rfl A _ e.o.1.range underlying69 rfl (by rw[s.o];kernel_rfl) ?_);refine i.Am ?_;rintro o v ⟨d,u,rfl,q,l⟩;have a:=Yw (Ga (d:=d) (Nat.le_succ _) (by have:=c.o.2;omega) c.o.1 e.o.2 q l);clear i c e q l
 obtain⟨D,g⟩:=Af (dL d u);rw[<-g]at a;rw[<-g];clear g;go_wp2_with (refine wpList_store_mid rfl 124 _ _ rfl (w.heap.size+1) 0 D.toArray rfl rfl a.o.2.1 (by rw[List.size_toArray,a.o.1.1];kernel_rfl) (all_oneCell_toArray a.o.1.2) ?_);exact bodyPost_ret (AU results79 _ _ (w.heap.size+1) D _ rfl (Aa.range a.o.2.2.1) underlying124 rfl (by rw[a.o.1.1];kernel_rfl)) rfl a.o.2.2.2
theorem Vy(A:Zj)(b:Zi)(f:Zk)(i:Nat)(a:Zl)(n:Int)(w:Zh)(L:RV m w A)(r:Ab w w.heap.size f a)(C:f=none->a.length=0/\i=0)(P:a.length<=1048576)(ht:b.size<=maxLen):
 Calls prog 71 #[.agg A.toArray,.agg #[.string b,.slice f a.length i],Zg n] w (Lm w):=by
 have O:=L.len.1;have u:∀X,Zz w X->Calls prog 84 #[.agg #[.string b,.slice f a.length i]] X fun o j=>∃g c,o=.returned (.agg #[.string b,Yz g a.length c])/\Ab j j.heap.size (some ⟨g,0,none⟩) a/\Zz X j:=fun X J=>(Fq b f i a X (r.L J) C P).mono (fun o j ⟨g,c,h,ho,B⟩=>⟨g,c,h,Ab.own ho,B⟩)
 have y:∀X g c,Zz w X->Ab X X.heap.size (some ⟨g,0,none⟩) a->Calls prog 99 #[.agg A.toArray,.agg (Yd 1 ⟨#[]⟩ ⟨#[]⟩ n b (some ⟨g,0,none⟩) a.length c)] X (Lm X):=fun X g c J hg=>Jw A ⟨1,⟨#[]⟩,⟨#[]⟩,n,b,a⟩ (some ⟨g,0,none⟩) c X (L.below J) hg (fun e=>by cases e) P ht (Nat.zero_le _)
 obtain⟨W,q⟩:=Af (((w.alloc (.cells A.toArray 69)).alloc (.cells #[.string b,.slice f a.length i] 63)).alloc (.cells Xk 124));have N:=(Cv q).1;have U:=(Cv q).2.1;have H:Hid (Aa W w.heap.size A/\Aa W (w.heap.size+1) [.string b,.slice f a.length i]/\Aa W (w.heap.size+2) En):=⟨(Cv q).2.2.1,(Cv q).2.2.2.1,(Cv (m:=En) q).2.2.2.2⟩;have z:Hid (A.length=17):=O;have x:=Yw (Zn N U);have M:=Yw q
 have H1:=Yw u;have H2:=Yw y;have E:Hid (∀X j,(Aa X w.heap.size A/\Aa X (w.heap.size+1) [.string b,.slice f a.length i])->Zz X j->Aa j w.heap.size A/\Aa j (w.heap.size+1) [.string b,.slice f a.length i]):=fun X j u y=>⟨Aa.same u.1 (y.block _ (u.1.jb z.o)),Aa.below u.2 y⟩;clear q O u y N U L r;go_enter func71,ntmps71;go_upto_region 1 with fail;rw[<-M.o];clear M
 refine wp_region_held_drew (S:=fun X=>Aa X w.heap.size A/\Aa X (w.heap.size+1) [.string b,.slice f a.length i]) Yr (show _/\_ from⟨H.o.1,H.o.2.1⟩) (fun hS=> ?_);refine EG 0 (.agg A.toArray) rfl (by exact yieldsIf_load_mid Yp 69 _ rfl w.heap.size 0 rfl A _ (fun X h=>h.1.range) underlying69 rfl (by rw[z.o];kernel_rfl)) ?_;try simp only[Act.put,Zq,Zp,Zo]
 refine BF 1 (Zg n) ?_;try simp only[Act.put,Zq,Zp,Zo]
 refine EG 2 (.agg #[.string b,.slice f a.length i]) rfl (by exact yieldsIf_load_mid Yp 63 _ rfl (w.heap.size+1) 0 rfl [.string b,.slice f a.length i] _ (fun X h=>h.2.range) underlying63 rfl Yr) ?_;try simp only[Act.put,Zq,Zp,Zo]
 refine Cm 3 (fun K k=> ?_);go_simp;refine(H1.o W.drew (x.o.1.drew)).mono ?_;rintro o R ⟨g,c,rfl,Z,F⟩;have s:Below W.heap.size W R:=(Below.refl W.heap.size W).drew.trans F;try go_simp
 refine k.out _ _ (E.o _ _ hS F) (fun Y=> ?_);clear k K;try simp only[Act.put,Zq,Zp,Zo]
 refine BF 4 (.agg (Yd 1 ⟨#[]⟩ ⟨#[]⟩ n b (some ⟨g,0,none⟩) a.length c)) ?_;try simp only[Act.put,Zq,Zp,Zo]
 refine Cm 5 (fun K k=> ?_);go_simp;refine(H2.o R g c (x.o.1.trans (s.mono x.o.1.size)) Z).mono ?_;rintro o T ⟨d,vs,rfl,G,B⟩;have V:Below W.heap.size W T:=s.trans (B.mono s.size);have l:=Yw (Ga (d:=d) Yv (by have:=x.o.2;omega) x.o.1 H.o.2.2 (G.mono s.size) V);obtain⟨D,I⟩:=Af (dL d vs);rw[<-I]at l;rw[<-I];clear I G;try go_simp
 refine k.out _ _ (E.o _ _ Y B) (fun v=> ?_);clear k K;try simp only[Act.put,Zq,Zp,Zo]
 have Q:=AF (w.heap.size+2) D 0 T;refine Cm 6 (fun K k=> ?_);rw[if_pos Yp];refine wp_store_mid 124 _ _ rfl (w.heap.size+2) 0 D.toArray rfl rfl l.o.2.1 (by rw[List.size_toArray,l.o.1.1];kernel_rfl) (all_oneCell_toArray l.o.1.2) ?_;refine k.out _ _ ⟨Aa.same v.1 (Q.block _ (v.1.jb z.o) Yu),Aa.same v.2 (Q.block _ v.2.lt Yu)⟩ (fun zA=> ?_);clear k K;try simp only[Act.put]
 refine wpAnyH_done Yr ?_ _;go_wp2_with fail;exact bodyPost_ret (AU results71 _ _ (w.heap.size+2) D _ rfl (Aa.range l.o.2.2.1) underlying124 rfl (by rw[l.o.1.1];kernel_rfl)) rfl l.o.2.2.2
theorem SN(s:Zi)(a:Int)(w:Zh)(d:s.size<=100000):Calls prog 33 #[.string s,Zg a] w fun e b=>∃t,e=.returned (.string t)/\Zz w b:=by
 by_cases h:1<=a/\a<=8
 .refine(EY s a w Yo h.1 h.2).mono ?_;rintro e b ⟨rfl,c⟩;exact⟨_,rfl,c⟩
 .refine(Pj s a w Yv).mono ?_;rintro e b ⟨rfl,rfl⟩;exact⟨_,rfl,Ad⟩
theorem Kt(a:Int)(n:Nat)(h:0<=a):a.tmod (n:Int)=((a.toNat%n:Nat):Int):=by
 rw[Int.tmod_eq_emod_of_nonneg h];have:a=(a.toNat:Int):=Yv
 rw[this];simp
theorem Ln(r A h B:Int)(C y:Zi)(k now g c:Int)(a p l:Zk)(m pn z v u:Nat)(d:List Kd)(w:Zh)(F:AQ w w.heap.size a d)(E:0<=h)(_:h<=1000)(I:d.length<=1048576):
 Calls prog 74 #[.agg #[.int .i64 r,.string C,.int .i64 A,.string y,.int .i64 h,.int .i64 B],.agg #[.int .i64 k,.int .i64 now,.int .i64 g,.int .i64 c,.slice a d.length m,.slice p pn z,.slice l v u]] w fun e G=>∃s,e=.returned (.string s)/\Zz w G:=by
 have f:Below w.heap.size w ((w.alloc (.cells #[.int .i64 r,.string C,.int .i64 A,.string y,.int .i64 h,.int .i64 B] 102)).alloc (.cells #[.int .i64 k,.int .i64 now,.int .i64 g,.int .i64 c,.slice a d.length m,.slice p pn z,.slice l v u] 27)):=(Zy).alloc (by simp) _;go_enter func74,ntmps74;by_cases hz:d.length=0
 .have D:((d.length:Int)==0)=true:=by simpa using hz
  clear hz;go_wp2_with fail;refine(SN _ k _ (by decide)).mono ?_;rintro e K ⟨t,rfl,n⟩;go_wp2;go_ret;exact⟨t,rfl,f.trans (n.mono f.size)⟩
 .have D:((d.length:Int)==0)=false:=by simpa using hz
  have J:=Kt h d.length E;have j:h.toNat%d.length<d.length:=Nat.mod_lt _ (by omega);clear hz;obtain⟨b,off,rfl,n,o⟩:=F.at j;generalize h.toNat%d.length=i at *
  have q:=Zv j;obtain⟨H,_⟩:=o i _ q;generalize d[i]=x at *
  clear o q;go_wp2;go_quiet (fail);go_wp2;go_ret;exact⟨x.sum,rfl,⟨f.os,f.tape,f.output,f.size,f.block⟩⟩
theorem Oz(r v h z:Int)(A t:Zi)(y now f c:Int)(a p l:Zk)(m k pn u s:Nat)(d:List Ld)(w:Zh)(D:AN w w.heap.size l d)(C:0<=h)(G:h<=1000)(I:d.length<=1048576):
 Calls prog 78 #[.agg #[Zg r,.string A,Zg v,.string t,Zg h,Zg z],.agg (Yg y now f c a m k p pn u l d.length s)] w fun e E=>∃n,e=.returned (Zg n)/\Zz w E:=by
 have g:Below w.heap.size w ((w.alloc (.cells #[Zg r,.string A,Zg v,.string t,Zg h,Zg z] 102)).alloc (.cells (Yg y now f c a m k p pn u l d.length s) 27)):=(Zy).alloc Yu _;go_enter func78,ntmps78;by_cases hz:d.length=0
 .have B:((d.length:Int)==0)=true:=by simpa using hz
  clear hz;go_wp2;go_ret;exact⟨_,rfl,g⟩
 .have B:((d.length:Int)==0)=false:=by simpa using hz
  have J:=Kt h d.length C;have j:h.toNat%d.length<d.length:=Nat.mod_lt _ Yv;clear hz;obtain⟨b,off,rfl,H,o⟩:=D.at j;generalize h.toNat%d.length=i at *
  have q:=Zv j;obtain⟨F,_⟩:=o i _ q;generalize d[i]=x at *
  clear o q;go_wp2;go_quiet (fail);go_wp2;go_ret;exact⟨x.I,rfl,⟨g.os,g.tape,g.output,g.size,g.block⟩⟩
theorem Jk{a:Zh}{g c:Nat}{b:Zl}{u1 u2 u3:Value}(d:Zz w a)(e:a.ownsRow n 9 1 (Yz g b.length c) b.length (b.map Value.string))(f:w.heap.size+4<=n):
 Ab (((a.setCell (Zd (w.heap.size+1+1+1) 1) u1).setCell (Zd (w.heap.size+1+1) 0) u2).setCell (Zd (w.heap.size+1+1) 1) u3) (((a.setCell (Zd (w.heap.size+1+1+1) 1) u1).setCell (Zd (w.heap.size+1+1) 0) u2).setCell (Zd (w.heap.size+1+1) 1) u3).heap.size (some ⟨g,0,none⟩) b/\Zz w (((a.setCell (Zd (w.heap.size+1+1+1) 1) u1).setCell (Zd (w.heap.size+1+1) 0) u2).setCell (Zd (w.heap.size+1+1) 1) u3):=by
 have t:Tn [w.heap.size+1+1+1,w.heap.size+1+1] a (((a.setCell (Zd (w.heap.size+1+1+1) 1) u1).setCell (Zd (w.heap.size+1+1) 0) u2).setCell (Zd (w.heap.size+1+1) 1) u3):=((Tn.set _ _ _ _ Yu).trans (Tn.set _ _ _ _ Yu)).trans (Tn.set _ _ _ _ Yu);exact⟨Ab.own (NQ e t Yt),d.trans (t.below d.size Yt)⟩
theorem OA(Y J C tk:Int)(z nm:Zi)(sw now s h:Int)(a p l:Zk)(U pn pc ln Z:Nat)(n:List Kd)(w:Zh)(M:AQ w w.heap.size a n)(h0:0<=C)(h1:C<=1000)(zJ:0<=J)(zK:J<=1000)(hl:n.length<=1048576):
 Calls prog 72 #[.agg #[Zg Y,.string z,Zg J,.string nm,Zg C,Zg tk],.agg #[Zg sw,Zg now,Zg s,Zg h,.slice a n.length U,.slice p pn pc,.slice l ln Z]] w fun e w'=>∃g c d,e=.returned (.agg #[.string z,.slice (some ⟨g,0,none⟩) d.length c])/\Ab w' w'.heap.size (some ⟨g,0,none⟩) d/\d.length<=4/\Zz w w':=by
 obtain⟨i0,hi,zC,zE,zF⟩:=info_parts BO;obtain⟨W,y⟩:=Af ((((w.alloc (.cells #[Zg Y,.string z,Zg J,.string nm,Zg C,Zg tk] 102)).alloc (.cells #[Zg sw,Zg now,Zg s,Zg h,.slice a n.length U,.slice p pn pc,.slice l ln Z] 27)).alloc (.cells #[Zc,Zb] 63)).alloc (.cells #[.string z,Zb] 63));obtain⟨bW,zW,xA,xS,xR,xT⟩:=VD y
 have t:Hid (∀X,Zz W X->Aa X w.heap.size [Zg Y,.string z,Zg J,.string nm,Zg C,Zg tk]/\Aa X (w.heap.size+1) [Zg sw,Zg now,Zg s,Zg h,.slice a n.length U,.slice p pn pc,.slice l ln Z]/\Aa X (w.heap.size+1+1) [Zc,Zb]/\Aa X (w.heap.size+1+1+1) [.string z,Zb]/\Zz w X):=fun X K=>⟨Aa.below xA K,Aa.below xS K,Aa.below xR K,Aa.below xT K,bW.trans (K.mono bW.size)⟩;have H:Hid (W.heap.size=w.heap.size+4):=zW
 have oL:(W.alloc (.cells #[] 9)).ownsRow W.heap.size 9 1 (.slice (some ⟨W.heap.size,0,none⟩) 0 0) 0 (([]:Zl).map Value.string):=World.ownsRow_lit W #[] 0 (by omega) (by unfold maxLen;omega) rfl;have T:Hid ((W.alloc (.cells #[] 9)).ownsRow W.heap.size 9 1 (.slice (some ⟨W.heap.size,0,none⟩) ([]:Zl).length 0) ([]:Zl).length (([]:Zl).map Value.string)):=oL;have HW:Hid _:=y;clear y xA xS xR xT zW oL
 go_enter func72,ntmps72;go_upto_region 2 with fail;rw[<-HW.o];clear HW;obtain⟨y4,_⟩:=(t.o (W.alloc (.cells #[] 9)) (Zy)).2.1 4 _ rfl;go_upto_region 3 with fail;by_cases hz:n.length=0
 .have S:¬0<n.length:=by omega
  have V:Below W.heap.size W (W.alloc (.cells #[] 9)):=Zy;clear hz;go_wp2_with fail;refine(FM (some ⟨W.heap.size,0,none⟩) 0 [] _ (Ab.own T.o) (by simp)).mono ?_;rintro e F ⟨r,q,rfl,B,A⟩;have m:=V.trans (A.mono V.size)
  have E:Hid _:=Jk (u1:=.slice (some ⟨r,0,none⟩) (Be []).length q) (u2:=.string z) (u3:=.slice (some ⟨r,0,none⟩) (Be []).length q) (t.o F m).2.2.2.2 B (by have:=H.o;have:=V.size;omega);have G:Hid ((Be []).length<=4):=Zm (DW _) (by simp);have f:Hid _:=t.o F m;obtain⟨⟨r0,_⟩,L,_⟩:=Zn (f.o.2.2.1 0 _ rfl) (f.o.2.2.1 1 _ rfl);obtain⟨⟨t0,_⟩,t1,_⟩:=Zn (f.o.2.2.2.1 0 _ rfl) (f.o.2.2.2.1 1 _ rfl)
  clear t H f m A B;go_wp2;exact bodyPost_ret (v:=.agg #[.string z,.slice (some ⟨r,0,none⟩) (Be []).length q]) (by simp[results,results72,go_sem,r0,L]) rfl ⟨r,q,_,rfl,E.o.1,G.o,E.o.2⟩
 .have S:0<n.length:=by omega
  clear hz;go_wp2
  go_loopw [6,7] (fun li k wr=>∃(j g c:Nat) (d:Zl),k=Zg j/\j<=4/\li=.slice (some ⟨g,0,none⟩) d.length c/\d.length=j/\Hid (wr.ownsRow W.heap.size 9 1 (.slice (some ⟨g,0,none⟩) d.length c) d.length (d.map Value.string)/\Zz W wr)) (fun _ k _=>4 -(intOf k).toNat)
  case atStart=>exact⟨0,W.heap.size,0,[],rfl,by omega,rfl,rfl,T.o,Zy⟩
  case round=>
   obtain⟨j,g,c,d,rfl,hj,rfl,rfl,o⟩:=hrel;have y:=(t.o wr o.o.2);obtain⟨z2,_⟩:=y.1 2 _ rfl;by_cases hc1:(d.length:Int)<J/2
   .by_cases hc2:d.length<4
    .have zH:d.length<=3:=by omega
     have zB:¬n.length=0:=by omega
     have zI:((n.length:Int)==0)=false:=by simpa using zB
     have hm:=Kt (C+5 *(d.length:Int)) n.length (by omega);have Q:(C+5 *(d.length:Int)).toNat%n.length<n.length:=Nat.mod_lt _ S;have e1:IntKind.i64.wrap (5 *(d.length:Int))=5 *(d.length:Int):=Bs (by omega) (by omega);have e2:IntKind.i64.wrap (C+5 *(d.length:Int))=C+5 *(d.length:Int):=Bs (by omega) (by omega);obtain⟨b,off,rfl,hb,hc⟩:=(AQ.below M y.2.2.2.2).at Q
     have zG:b<wr.heap.size:=Zr hb y.2.2.2.2.size;generalize (C+5 *(d.length:Int)).toNat%n.length=i at *
     have hg:=Zv Q;obtain⟨c0,_⟩:=hc i _ hg;generalize n[i]=x at *
     obtain⟨y4,_⟩:=y.2.1 4 _ rfl;obtain⟨z4,_⟩:=y.1 4 _ rfl;have ho:=o.o.1;have zA:=ho.lt g rfl;have D:Hid (wr.ownsRow W.heap.size 9 1 (.slice (some ⟨g,0,none⟩) d.length c) d.length (d.map Value.string)/\Zz W wr):=o;clear hc hg y ho o M;go_upto_region 7 with fail
     go_region_law (first
      |(refine step_append_lies (wr.drew.alloc (.cells #[.string x.sum] 9)) (by rfl) (.tmp 27) (.tmp 42) 29 (by rfl) W.heap.size 9 i0 Zc 1 16 underlying29 hi zC zE zF rfl (by decide) (.slice (some ⟨g,0,none⟩) d.length c) d.length (d.map Value.string) (by rfl) (by exact D.o.1.alloc _) ⟨wr.heap.size,0,none⟩ 1 1 [.string x.sum] (by rfl) rfl (by exact cell_one_new wr.drew _ 9) (fun u hu=>by simp at hu;subst hu;rfl) (by omega) (by unfold maxLen;omega) (by omega) (by have:=D.o.2.size;simp;omega) _ rfl ?_;intro g4 I w4 R P N O))
     all_goals
      have HN:Hid (w4.ownsRow W.heap.size 9 1 (.slice (some ⟨g4,0,none⟩) (d++[x.sum]).length I) (d++[x.sum]).length ((d++[x.sum]).map Value.string)/\Zz W w4):=by refine⟨by simpa using R,?_⟩;exact((D.o.2.drew.alloc D.o.2.size _).grown P (by have:=D.o.2.size;simp;omega) (fun k M=>by cases M;exact zA.1))
      clear R P N O D t H T c0 y4 z4 z2 hm e1 e2;go_wp2;exact⟨⟨d.length+1,g4,I,d++[x.sum],by go_num,by omega,by simp,by simp,HN⟩,by simp[intOf];omega⟩
    .clear y;go_wp2_with fail;refine(FM (some ⟨g,0,none⟩) c d wr (Ab.own o.o.1) (by omega)).mono ?_;rintro e F ⟨r,q,rfl,B,A⟩;have m:=o.o.2.trans (A.mono o.o.2.size);have E:Hid _:=Jk (u1:=.slice (some ⟨r,0,none⟩) (Be d).length q) (u2:=.string z) (u3:=.slice (some ⟨r,0,none⟩) (Be d).length q) (t.o F m).2.2.2.2 B (by have:=H.o;have:=o.o.2.size;omega)
     have G:Hid ((Be d).length<=4):=Zm (DW _) (by omega);have f:Hid _:=t.o F m;obtain⟨⟨r0,_⟩,L,_⟩:=Zn (f.o.2.2.1 0 _ rfl) (f.o.2.2.1 1 _ rfl);obtain⟨⟨t0,_⟩,t1,_⟩:=Zn (f.o.2.2.2.1 0 _ rfl) (f.o.2.2.2.1 1 _ rfl);clear t H f o m A B;go_wp2;exact bodyPost_ret (v:=.agg #[.string z,.slice (some ⟨r,0,none⟩) (Be d).length q]) (by simp[results,results72,go_sem,r0,L]) rfl ⟨r,q,_,rfl,E.o.1,G.o,E.o.2⟩
   .clear y;go_wp2_with fail;refine(FM (some ⟨g,0,none⟩) c d wr (Ab.own o.o.1) (by omega)).mono ?_;rintro e F ⟨r,q,rfl,B,A⟩;have m:=o.o.2.trans (A.mono o.o.2.size);have E:Hid _:=Jk (u1:=.slice (some ⟨r,0,none⟩) (Be d).length q) (u2:=.string z) (u3:=.slice (some ⟨r,0,none⟩) (Be d).length q) (t.o F m).2.2.2.2 B (by have:=H.o;have:=o.o.2.size;omega)
    have G:Hid ((Be d).length<=4):=Zm (DW _) (by omega);have f:Hid _:=t.o F m;obtain⟨⟨r0,_⟩,L,_⟩:=Zn (f.o.2.2.1 0 _ rfl) (f.o.2.2.1 1 _ rfl);obtain⟨⟨t0,_⟩,t1,_⟩:=Zn (f.o.2.2.2.1 0 _ rfl) (f.o.2.2.2.1 1 _ rfl);clear t H f o m A B;go_wp2;exact bodyPost_ret (v:=.agg #[.string z,.slice (some ⟨r,0,none⟩) (Be d).length q]) (by simp[results,results72,go_sem,r0,L]) rfl ⟨r,q,_,rfl,E.o.1,G.o,E.o.2⟩
end Go.Proofs.YtcfjcdpkpiidkaaGreat
