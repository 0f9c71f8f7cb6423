import Derived.Test.YtoglnpagihdhpaaGreatDoorX31
set_option maxRecDepth 100000
set_option maxHeartbeats 16000000
namespace Go.Proofs.YtoglnpagihdhpaaGreatDoor
open ChangeShapes WideShapes ChangeAt RowKit _root_.Go.Proofs.Tryz
variable{b:Zl}{a c:Zj}{v:Vd}{e:Ed}{d:Dd}{n m:Nat}{w:Zh}{V:List Nat}
theorem Abb(v:Vd)(e:Ed)(a:Va)(H:Zk)(O:Nat)(w:Zh)(h1:CQ w w.heap.size a v)(h2:KR w a v)(R:Ge v)(zE:Ad w w.heap.size H e.rf)(zP:H=none->e.rf.length=0/\O=0)(hl:e.rf.length<=1048576)(ht:e.tx.size<=maxLen)(hn:e.nm.size<=maxLen):
 Calls prog 122 #[.agg (Xp v a),.agg (Xz e.kd e.s e.nm e.H e.tx H e.rf.length O)] w (SDb v e w):=by
 have hR:∀X,Zz w X->CQ X X.heap.size a v:=fun X m=>h1.N m;have hS:∀X,Zz w X->Ad X X.heap.size H e.rf:=fun X m=>zE.N m;have hP:Cy v->∀X,Zz w X->Kh X a v:=fun K X m=>(h2.cp h1 R K).below m
 refine Aba v e _ _ _ _ _ _ _ _ _ _ _ _ _ _ _ _ _ H O (KSp v) ZSp w ⟨R.s,R.t⟩ (fun X m=>Ew v a X (hR X m) h2.cap R) ?_ (fun X m=>UE e.kd e.s e.nm e.H e.tx H O e.rf v.wd X (hS X m) hl ht hn) ?_ ?_ ?_ ?_ ?_ ?_ (fun d X m=>OH e.kd e.s e.nm e.H e.tx H O e.rf v.wd X (hS X m) hl ht hn) ?_ ?_ ?_ ?_
 .intro K X m;refine(FP v a X (hP K X m)).mono ?_;rintro o I ⟨S,U,T,P,L,Q,M,rs,rfl,F,h5,h4⟩;obtain⟨sb,n1,zY,rfl⟩:=h5 S Yu;obtain⟨ub,n2,yB,rfl⟩:=h5 U Yu;obtain⟨qb,n3,zC,rfl⟩:=h5 Q Yu;obtain⟨mb,n4,zB,rfl⟩:=h5 M Yu;obtain⟨_,_,e1,_⟩:=F.s.row;obtain⟨_,_,e2,_⟩:=F.u.row;obtain⟨_,_,e3,_⟩:=F.q.row;obtain⟨_,_,e4,_⟩:=F.m.row;cases e1;cases e2;cases e3;cases e4
  exact⟨sb,zY,ub,yB,T,P,L,qb,zC,mb,zB,rs,rfl,F,h4⟩
 .intro K X m;have G:=hP K X m;refine(JS v.S v.E v.F v.C a.Y a.O a.M _ _ _ v.A v.ps v.ls X G.rows.st G.k G.p G.l G.nk G.np G.nl G.dv).mono ?_;rintro o I ⟨T,P,L,rs,rfl,u,K,t⟩;obtain⟨b,p,l,W,E,D,C,rfl,rfl,rfl,j,n,zN,zO⟩:=CT.of u K t.size;exact⟨_,[l],rfl,t,by simp;exact⟨zN,zO⟩,_,b,p,l,W,E,D,C,rfl,rfl,j,n⟩
 .rintro cs V X I ⟨f,b,p,l,W,E,D,C,rfl,rfl,j,n⟩ t;exact⟨f,b,p,l,W,E,D,C,rfl,rfl,j,n.below t⟩
 .rintro⟨r,d⟩ s cs V X m ⟨f,b,p,l,W,E,D,C,rfl,rfl,j,n⟩;have B:=d.fe;have zR:=d.same.1.1;have ha:=B.jk s ht;rw[<-j]at ha;rw[<-zR];refine(KQ f v.wd v.E v.F v.C b _ _ _ W E D C v.ps v.ls e.s e.nm e.tx e.H e.rf H O X e.kd n ha (fun k J=>B.dv k (by rw[<-j];exact J)) (hS X m) zP).mono ?_;rintro o I ⟨N,⟨c,p',q',zF,rfl⟩|⟨g,b1,zZ,yA,yC,zW,zX,zU,zV,q,rfl,zS,zJ⟩⟩
  .rw[j]at zF;exact⟨N,_,rfl,.inl ⟨c,p',q',zF,rfl⟩⟩
  .rw[j]at q;exact⟨N,[_,_,_,_,_,_,_,_,_,_,_,_],rfl,.inr ⟨g,zZ,yA,zW,zX,zU,zV,q,rfl,f,b1,yC,zS,zJ⟩⟩
 .rintro g Y Z pa E la D X ⟨r,d⟩ s q ⟨f,b,C,j,n⟩ cb I t N;have zA:=Aad (d.tok.step s q);exact⟨f,b,C,j,n.ie t (fun z zT=>zA z.1 (by rw[<-j];exact List.mem_map.2 ⟨z,zT,rfl⟩)) N⟩
 .rintro g Y Z pa E la D X ⟨f,b,C,j,n⟩ I t;exact⟨f,b,C,j,n.below t⟩
 .rintro⟨r,d⟩ s _ g Y Z pa E la D X q ⟨f,b,C,j,n⟩;have B:=d.fe.step s q;have zA:=d.tok.step s q;have J:=n.dq;rw[j]at J;exact RI v.wd g.E g.F g.C Y Z _ _ g.A X J B.bn.len (fun i k hi=>zA k (Zs hi))
 .rintro⟨r,d⟩ s g Y Z pa E la D X q ⟨f,b,C,j,n⟩;have B:=d.fe.step s q;have zG:=n.srows;rw[j]at zG;refine(IW v.wd g.E g.F g.C Y pa la Z E D g.A g.ps g.ls X zG (fun A u=> ?_) (EU n.po) (EU n.lo) B.bn.len B.np B.nl B.dv).mono ?_
  .rcases n.tb with h|h
   .rw[h]at u;cases u;rw[<-j];exact n.z.some
   .rw[<-j,h];intro i k hi;simp at hi
  .rintro o I ⟨T,P,L,rs,rfl,u,_,t⟩;exact⟨T,P,L,rs,rfl,u,t⟩
 .rintro⟨r,d⟩ s g X T2 P2 L2 yE n2 qb zC mb zB q u hq hm;have B:=d.fe.step s q;obtain⟨za,zc,rfl⟩:=As u.ak;obtain⟨ya,yc,rfl⟩:=As u.pins;obtain⟨ka,kc,rfl⟩:=As u.aq;refine(Ql v.wd g.E g.F g.C za zc _ _ g.A (e.held g) v.L v.Q v.P v.ro qb mb zC zB v.G v.ms X u.get.k (by have:=B.bn.len;omega) hq.gq hm.gq R.r d.round.dy.nq).mono ?_;rintro o I ⟨x,cx,y,cy,rfl,o1,o2,_,t⟩
  exact⟨t,_,_,rfl,Aj.own o1,Aj.own o2⟩
 .rintro⟨r,d⟩ g q;have zI:=d.wd.1;refine⟨fun J he=> ?_,fun he=>JR (.inr (.inl fun zH=> ?_))⟩
  .rcases q with⟨_,_,hl,hg,yD,b1,q,rfl⟩|⟨h,_⟩|⟨h,_⟩|⟨h,_⟩|⟨h,_⟩|⟨h,_⟩|⟨h,_⟩
   .have F:=EF e.tx e.rf v.wd zI;have zK:AV e.tx e.rf v.wd=⟨#[]⟩:=he;rw[zK]at F;have h4:((⟨#[]⟩:Zi).size:Int)=0:=rfl;omega
   all_goals omega
  .rw[he]at zH;obtain⟨k,J,zM⟩:=zH;have F:=q.sz zI d.fe.bn.sz k J;rw[zM]at F;have h4:((⟨#[]⟩:Zi).size:Int)=0:=rfl;omega
 .rintro⟨r,d⟩;refine⟨d.same.1.1,?_⟩;have:=EG d.log;rw[List.length_append]at this;exact this
theorem Up{f:Int}{b:List Kd}(h:Ms f b):∀k∈b,OV k:=fun k d=>by have a:=Be (h k d);refine⟨a.J,a.B,fun s e=> ?_⟩;obtain⟨i,c⟩:=List.getElem?_of_mem e;have:=a.size c;have:=a.hi;omega
structure Rc (v:Vd):Prop where
 fit:Ge v
 y:∀k∈v.A,OV k
 st:Ji v.A v.ps v.ls
 lg:Ct v.ss v.D=true
theorem EI{a:Zl}:Ct a b=true↔a.length+b.length<=4000/\∀s∈a++b,s.size<=5000:=by unfold Ct;rw[Bool.and_eq_true,decide_eq_true_iff,List.all_eq_true];simp only[decide_eq_true_iff]
theorem Gt.lg(h:Gt v e d)(g:Ct v.ss v.D=true):Ct d.v.ss d.v.D=true:=by
 rcases h with⟨_,rfl⟩|⟨⟨r,l⟩,⟨c,a,b,_,rfl⟩|⟨n,i,rfl⟩⟩
 .rfl
 .exact g
 .have j:=EI.1 g;have m:=i.2.2.2;refine EI.2 ⟨?_,fun s k=> ?_⟩
  .show v.ss.length+(v.D++[e.cg v.wd]).length<=4000;rw[List.length_append,List.length_singleton];omega
  .have f:s∈v.ss++(v.D++[e.cg v.wd]):=k;rw[<-List.append_assoc]at f;rcases List.mem_append.1 f with h|h
   .exact j.2 s h
   .rw[List.mem_singleton.1 h];exact Ed.dw i.1
theorem Gt.ir(h:Gt v e d)(j:∀k∈v.A,OV k):∀k∈d.v.A,OV k:=by
 rcases h with⟨_,rfl⟩|⟨⟨r,g⟩,⟨c,a,b,_,rfl⟩|⟨l,f,rfl⟩⟩
 .intro k i;cases i
 .exact j
 .exact Up (g.tok.step f.1 f.2.1)
theorem Kw:Ji [] [] []:=⟨⟨Nat.zero_le _,Yu,Yu,Yu,Yu⟩,⟨Nat.zero_le _,Yu,Yu⟩,⟨Nat.zero_le _,Yu⟩,Yu,Yu⟩
theorem Gt.gz(h:Gt v e d)(i:Ji v.A v.ps v.ls):Ji d.v.A d.v.ps d.v.ls:=by
 rcases h with⟨_,rfl⟩|⟨⟨r,f⟩,⟨c,a,b,_,rfl⟩|⟨j,g,rfl⟩⟩
 .exact Kw
 .exact i
 .exact PL (f.fe.step g.1 g.2.1) (f.jw.1.step f.fe g.2.1) (f.jw.2.step g.1 g.2.1) f.wd.2
def RV(n:Nat)(w:Zh)(vs:Zj):Prop:=∃u,Rc u/\∀V X',(∀b∈V,b<n)->Tn V w X'->Mt u X'.heap.size X' vs
theorem RV.K{d:Zh}(h:RV n w c)(l:Tn V w d)(j:∀b∈V,b<n):RV n d c:=by
 obtain⟨u,k,h⟩:=h;refine⟨u,k,fun f g e i=>h (V++f) g (fun b a=> ?_) ((l.mono (by simp;exact fun b a=> .inl a)).trans (i.mono (by simp;exact fun b a=> .inr a)))⟩;rcases List.mem_append.1 a with h|h
 .exact j b h
 .exact e b h
theorem RV.below{b:Zh}(h:RV n w a)(c:Zz w b):RV n b a:=h.K (V:=[]) (Tn.of c) Yu
theorem RV.mono(h:RV n w a)(g:m<=n):RV m w a:=by obtain⟨u,f,h⟩:=h;exact⟨u,f,fun V c d=>h V c (fun b e=>Zr (d b e) g)⟩
theorem RV.E{b:Zj}(h:RV n w b):∃u a,Rc u/\b=Bm u (.slice a.X u.ss.length a.sc) (.slice a.V u.D.length a.W) (.slice a.Y u.A.length a.j) (.slice a.O u.ps.length a.U) (.slice a.M u.ls.length a.T) (.slice a.g u.G.length a.qc) (.slice a.i u.ms.length a.mc)/\CQ w w.heap.size a u/\KR w a u:=by obtain⟨u,c,h⟩:=h;obtain⟨a,h⟩:=h [] w Yu (Tn.of Ae);exact⟨u,a,c,h⟩
theorem RV.len{b:Zj}(h:RV n w b):b.length=17/\∀u∈b,u.oneCell'=true:=by obtain⟨u,a,_,rfl,_⟩:=h.E;exact⟨rfl,by simp[Bm,Value.oneCell']⟩
theorem AD.rv{a:Zh}{S U T P L Q M:Value}{u:Vd}(h:AD a w.heap.size S U T P L Q M c u)(b:Rc u):RV w.heap.size a (Bm u S U T P L Q M):=⟨u,b,h.jb (Zx) Ae⟩
def Dw(p:Nat->Prop)(w:Zh)(vs:Zj):Prop:=∃u,Rc u/\∀V X',(∀b∈V,p b)->Tn V w X'->Mt u X'.heap.size X' vs
theorem Dw.K{p:Nat->Prop}{d:Zh}(h:Dw p w c)(l:Tn V w d)(j:∀b∈V,p b):Dw p d c:=by
 obtain⟨u,k,h⟩:=h;refine⟨u,k,fun f g e i=>h (V++f) g (fun b a=> ?_) ((l.mono (by simp;exact fun b a=> .inl a)).trans (i.mono (by simp;exact fun b a=> .inr a)))⟩;rcases List.mem_append.1 a with h|h
 .exact j b h
 .exact e b h
theorem Dw.below{p:Nat->Prop}{b:Zh}(h:Dw p w a)(c:Zz w b):Dw p b a:=h.K (V:=[]) (Tn.of c) Yu
theorem RV.p{p:Nat->Prop}{vs:Zj}(h:RV n w vs)(f:∀b,p b->b<n):Dw p w vs:=by obtain⟨u,e,h⟩:=h;exact⟨u,e,fun V a c=>h V a (fun b d=>f b (c b d))⟩
theorem Dw.zero{p:Nat->Prop}(h:Dw p w a):RV 0 w a:=by obtain⟨u,g,h⟩:=h;exact⟨u,g,fun V c e d=>h V c (fun b f=>absurd (e b f) (Nat.not_lt_zero b)) d⟩
def Mv(w:Zh)(o:Ending)(w':Zh):Prop:=∃d vs,o=.returned (.agg (dL d vs).toArray)/\RV w.heap.size w' vs/\Zz w w'
theorem Kx(j:Zj)(e:Ed)(f:Zk)(i:Nat)(w:Zh)(h:RV n w j)(g:Ad w w.heap.size f e.rf)(k:f=none->e.rf.length=0/\i=0)(s:e.rf.length<=1048576)(x:e.tx.size<=maxLen)(t:e.nm.size<=maxLen):
 Calls prog 122 #[.agg j.toArray,.agg (Xz e.kd e.s e.nm e.H e.tx f e.rf.length i)] w (Mv w):=by
 obtain⟨u,a,c,rfl,m,q⟩:=h.E;refine(Abb u e a f i w m q c.fit g k s x t).mono ?_;rintro o y ⟨d,l,b,rfl,v,r⟩;exact⟨d,l,rfl,⟨d.v,⟨b.fit c.fit,b.ir c.y,b.gz c.st,b.lg c.lg⟩,v⟩,r⟩
theorem GR{W X:Zh}{q:Nat}(l:w.heap.size<=q)(j:q<W.heap.size)(b:Zz w W)(k:Aa W q EX)(h:RV W.heap.size X a)(g:Zz W X):
 ((dL d a).length=22/\∀u∈dL d a,u.oneCell'=true)/\X.there q 0 (dL d a).toArray.size/\Aa (X.setCells q 0 (dL d a).toArray.toList) q (dL d a)/\Mv w (.returned (.agg (dL d a).toArray)) (X.setCells q 0 (dL d a).toArray.toList):=by
 have e:=Ke (d:=d) h.len;have i:=AI q (dL d a) 0 X;have c:=Aa.below (v:=Ze) k g;have f:=b.trans (g.mono b.size);refine⟨e,?_,c.au _ (by rw[e.1];rfl),d,a,rfl,(h.K i (by simpa using j)).mono b.size,f.trans (i.below f.size (by simpa using l))⟩;rw[show(dL d a).toArray.size=22 from by rw[List.size_toArray];exact e.1];exact c.there
theorem Wa(A:Zj)(i s:Zi)(w:Zh)(h:RV m w A)(v:i.size<=maxLen):
 Calls prog 85 #[.agg A.toArray,.string i,.string s] w (Mv w):=by
 obtain⟨W,b⟩:=Af ((w.alloc (.cells A.toArray 51)).alloc (.cells Xk 157));have f:=(Bb b).1;have r:=(Bb b).2.1;have e:Hid (Aa W w.heap.size A/\Aa W (w.heap.size+1) EX):=⟨(Bb b).2.2.1,(Bb (k:=EX) b).2.2.2⟩;have u:Hid (A.length=17):=h.len.1;have j:=Yw (Kx A ⟨2,s,i,0,⟨#[]⟩,[]⟩ none 0 W (h.below f) (.inl rfl) (fun _=>⟨rfl,rfl⟩) Yu (Nat.zero_le _) v);have c:=Yw (Zn f r);have l:=Yw b
 clear b h f r;go_enter func85,ntmps85;go_upto_region 1 with fail;rw[<-l.o];clear l;go_wp2_with (refine wpList_load_mid rfl 51 _ rfl w.heap.size 0 rfl A _ e.o.1.range underlying51 rfl (by rw[u.o];kernel_rfl) ?_);refine j.Ah ?_;rintro o y ⟨d,x,rfl,q,n⟩;have a:=Yw (GR (d:=d) (Nat.le_succ _) (by have:=c.o.2;omega) c.o.1 e.o.2 q n);clear j c e q n;obtain⟨D,g⟩:=Af (dL d x);rw[<-g]at a
 rw[<-g];clear g;go_wp2_with (refine wpList_store_mid rfl 157 _ _ rfl (w.heap.size+1) 0 D.toArray rfl rfl a.o.2.1 (by rw[List.size_toArray,a.o.1.1];kernel_rfl) (all_oneCell_toArray a.o.1.2) ?_);exact bodyPost_ret (AU results85 _ _ (w.heap.size+1) D _ rfl (Aa.range a.o.2.2.1) underlying157 rfl (by rw[a.o.1.1];kernel_rfl)) rfl a.o.2.2.2
theorem SH(A:Zj)(i:Zi)(w:Zh)(h:RV m w A)(u:i.size<=maxLen):
 Calls prog 87 #[.agg A.toArray,.string i] w (Mv w):=by
 obtain⟨W,b⟩:=Af ((w.alloc (.cells A.toArray 51)).alloc (.cells Xk 157));have f:=(Bb b).1;have r:=(Bb b).2.1;have e:Hid (Aa W w.heap.size A/\Aa W (w.heap.size+1) EX):=⟨(Bb b).2.2.1,(Bb (k:=EX) b).2.2.2⟩;have s:Hid (A.length=17):=h.len.1;have j:=Yw (Kx A ⟨3,⟨#[]⟩,i,0,⟨#[]⟩,[]⟩ none 0 W (h.below f) (.inl rfl) (fun _=>⟨rfl,rfl⟩) Yu (Nat.zero_le _) u);have c:=Yw (Zn f r);have l:=Yw b
 clear b h f r;go_enter func87,ntmps87;go_upto_region 1 with fail;rw[<-l.o];clear l;go_wp2_with (refine wpList_load_mid rfl 51 _ rfl w.heap.size 0 rfl A _ e.o.1.range underlying51 rfl (by rw[s.o];kernel_rfl) ?_);refine j.Ah ?_;rintro o x ⟨d,v,rfl,q,n⟩;have a:=Yw (GR (d:=d) (Nat.le_succ _) (by have:=c.o.2;omega) c.o.1 e.o.2 q n);clear j c e q n;obtain⟨D,g⟩:=Af (dL d v);rw[<-g]at a
 rw[<-g];clear g;go_wp2_with (refine wpList_store_mid rfl 157 _ _ rfl (w.heap.size+1) 0 D.toArray rfl rfl a.o.2.1 (by rw[List.size_toArray,a.o.1.1];kernel_rfl) (all_oneCell_toArray a.o.1.2) ?_);exact bodyPost_ret (AU results87 _ _ (w.heap.size+1) D _ rfl (Aa.range a.o.2.2.1) underlying157 rfl (by rw[a.o.1.1];kernel_rfl)) rfl a.o.2.2.2
theorem SI(A:Zj)(s:Zi)(n:Int)(w:Zh)(h:RV m w A):
 Calls prog 88 #[.agg A.toArray,.string s,Zg n] w (Mv w):=by
 obtain⟨W,b⟩:=Af ((w.alloc (.cells A.toArray 51)).alloc (.cells Xk 157));have f:=(Bb b).1;have r:=(Bb b).2.1;have e:Hid (Aa W w.heap.size A/\Aa W (w.heap.size+1) EX):=⟨(Bb b).2.2.1,(Bb (k:=EX) b).2.2.2⟩;have u:Hid (A.length=17):=h.len.1;have i:=Yw (Kx A ⟨4,s,⟨#[]⟩,n,⟨#[]⟩,[]⟩ none 0 W (h.below f) (.inl rfl) (fun _=>⟨rfl,rfl⟩) Yu (Nat.zero_le _) (Nat.zero_le _));have c:=Yw (Zn f r)
 have j:=Yw b;clear b h f r;go_enter func88,ntmps88;go_upto_region 1 with fail;rw[<-j.o];clear j;go_wp2_with (refine wpList_load_mid rfl 51 _ rfl w.heap.size 0 rfl A _ e.o.1.range underlying51 rfl (by rw[u.o];kernel_rfl) ?_);refine i.Ah ?_;rintro o x ⟨d,v,rfl,q,l⟩;have a:=Yw (GR (d:=d) (Nat.le_succ _) (by have:=c.o.2;omega) c.o.1 e.o.2 q l);clear i c e q l;obtain⟨D,g⟩:=Af (dL d v)
 rw[<-g]at a;rw[<-g];clear g;go_wp2_with (refine wpList_store_mid rfl 157 _ _ rfl (w.heap.size+1) 0 D.toArray rfl rfl a.o.2.1 (by rw[List.size_toArray,a.o.1.1];kernel_rfl) (all_oneCell_toArray a.o.1.2) ?_);exact bodyPost_ret (AU results88 _ _ (w.heap.size+1) D _ rfl (Aa.range a.o.2.2.1) underlying157 rfl (by rw[a.o.1.1];kernel_rfl)) rfl a.o.2.2.2
theorem PQ(A:Zj)(n:Int)(w:Zh)(h:RV m w A):
 Calls prog 89 #[.agg A.toArray,Zg n] w (Mv w):=by
 obtain⟨W,b⟩:=Af ((w.alloc (.cells A.toArray 51)).alloc (.cells Xk 157));have f:=(Bb b).1;have r:=(Bb b).2.1;have e:Hid (Aa W w.heap.size A/\Aa W (w.heap.size+1) EX):=⟨(Bb b).2.2.1,(Bb (k:=EX) b).2.2.2⟩;have s:Hid (A.length=17):=h.len.1;have i:=Yw (Kx A ⟨5,⟨#[]⟩,⟨#[]⟩,n,⟨#[]⟩,[]⟩ none 0 W (h.below f) (.inl rfl) (fun _=>⟨rfl,rfl⟩) Yu (Nat.zero_le _) (Nat.zero_le _))
 have c:=Yw (Zn f r);have j:=Yw b;clear b h f r;go_enter func89,ntmps89;go_upto_region 1 with fail;rw[<-j.o];clear j;go_wp2_with (refine wpList_load_mid rfl 51 _ rfl w.heap.size 0 rfl A _ e.o.1.range underlying51 rfl (by rw[s.o];kernel_rfl) ?_);refine i.Ah ?_;rintro o v ⟨d,u,rfl,q,l⟩;have a:=Yw (GR (d:=d) (Nat.le_succ _) (by have:=c.o.2;omega) c.o.1 e.o.2 q l);clear i c e q l
 obtain⟨D,g⟩:=Af (dL d u);rw[<-g]at a;rw[<-g];clear g;go_wp2_with (refine wpList_store_mid rfl 157 _ _ rfl (w.heap.size+1) 0 D.toArray rfl rfl a.o.2.1 (by rw[List.size_toArray,a.o.1.1];kernel_rfl) (all_oneCell_toArray a.o.1.2) ?_);exact bodyPost_ret (AU results89 _ _ (w.heap.size+1) D _ rfl (Aa.range a.o.2.2.1) underlying157 rfl (by rw[a.o.1.1];kernel_rfl)) rfl a.o.2.2.2
theorem Wb(A:Zj)(n:Int)(w:Zh)(h:RV m w A):
 Calls prog 91 #[.agg A.toArray,Zg n] w (Mv w):=by
 obtain⟨W,b⟩:=Af ((w.alloc (.cells A.toArray 51)).alloc (.cells Xk 157));have f:=(Bb b).1;have r:=(Bb b).2.1;have e:Hid (Aa W w.heap.size A/\Aa W (w.heap.size+1) EX):=⟨(Bb b).2.2.1,(Bb (k:=EX) b).2.2.2⟩;have s:Hid (A.length=17):=h.len.1;have i:=Yw (Kx A ⟨6,⟨#[]⟩,⟨#[]⟩,n,⟨#[]⟩,[]⟩ none 0 W (h.below f) (.inl rfl) (fun _=>⟨rfl,rfl⟩) Yu (Nat.zero_le _) (Nat.zero_le _))
 have c:=Yw (Zn f r);have j:=Yw b;clear b h f r;go_enter func91,ntmps91;go_upto_region 1 with fail;rw[<-j.o];clear j;go_wp2_with (refine wpList_load_mid rfl 51 _ rfl w.heap.size 0 rfl A _ e.o.1.range underlying51 rfl (by rw[s.o];kernel_rfl) ?_);refine i.Ah ?_;rintro o v ⟨d,u,rfl,q,l⟩;have a:=Yw (GR (d:=d) (Nat.le_succ _) (by have:=c.o.2;omega) c.o.1 e.o.2 q l);clear i c e q l
 obtain⟨D,g⟩:=Af (dL d u);rw[<-g]at a;rw[<-g];clear g;go_wp2_with (refine wpList_store_mid rfl 157 _ _ rfl (w.heap.size+1) 0 D.toArray rfl rfl a.o.2.1 (by rw[List.size_toArray,a.o.1.1];kernel_rfl) (all_oneCell_toArray a.o.1.2) ?_);exact bodyPost_ret (AU results91 _ _ (w.heap.size+1) D _ rfl (Aa.range a.o.2.2.1) underlying157 rfl (by rw[a.o.1.1];kernel_rfl)) rfl a.o.2.2.2
theorem YI(A:Zj)(b:Zi)(f:Zk)(i:Nat)(a:Zl)(n:Int)(w:Zh)(L:RV m w A)(r:Ad w w.heap.size f a)(C:f=none->a.length=0/\i=0)(P:a.length<=1048576)(ht:b.size<=maxLen):
 Calls prog 83 #[.agg A.toArray,.agg #[.string b,.slice f a.length i],Zg n] w (Mv w):=by
 have O:=L.len.1;have u:∀X,Zz w X->Calls prog 54 #[.agg #[.string b,.slice f a.length i]] X fun o j=>∃g c,o=.returned (.agg #[.string b,Yz g a.length c])/\Ad j j.heap.size (some ⟨g,0,none⟩) a/\Zz X j:=fun X J=>(Ii b f i a X (r.N J) C P).mono (fun o j ⟨g,c,h,ho,B⟩=>⟨g,c,h,Ad.own ho,B⟩)
 have y:∀X g c,Zz w X->Ad X X.heap.size (some ⟨g,0,none⟩) a->Calls prog 122 #[.agg A.toArray,.agg (Xz 1 ⟨#[]⟩ ⟨#[]⟩ n b (some ⟨g,0,none⟩) a.length c)] X (Mv X):=fun X g c J hg=>Kx A ⟨1,⟨#[]⟩,⟨#[]⟩,n,b,a⟩ (some ⟨g,0,none⟩) c X (L.below J) hg (fun e=>by cases e) P ht (Nat.zero_le _)
 obtain⟨W,q⟩:=Af (((w.alloc (.cells A.toArray 51)).alloc (.cells #[.string b,.slice f a.length i] 36)).alloc (.cells Xk 157));have N:=(Bo q).1;have U:=(Bo q).2.1;have H:Hid (Aa W w.heap.size A/\Aa W (w.heap.size+1) [.string b,.slice f a.length i]/\Aa W (w.heap.size+2) EX):=⟨(Bo q).2.2.1,(Bo q).2.2.2.1,(Bo (m:=EX) q).2.2.2.2⟩;have z:Hid (A.length=17):=O;have x:=Yw (Zn N U);have M:=Yw q
 have H1:=Yw u;have H2:=Yw y;have E:Hid (∀X j,(Aa X w.heap.size A/\Aa X (w.heap.size+1) [.string b,.slice f a.length i])->Zz X j->Aa j w.heap.size A/\Aa j (w.heap.size+1) [.string b,.slice f a.length i]):=fun X j u y=>⟨Aa.same u.1 (y.block _ (u.1.jn z.o)),Aa.below u.2 y⟩;clear q O u y N U L r;go_enter func83,ntmps83;go_upto_region 1 with fail;rw[<-M.o];clear M
 refine wp_region_held_drew (S:=fun X=>Aa X w.heap.size A/\Aa X (w.heap.size+1) [.string b,.slice f a.length i]) Yr (show _/\_ from⟨H.o.1,H.o.2.1⟩) (fun hS=> ?_);refine Fu 0 (.agg A.toArray) rfl (by exact yieldsIf_load_mid Yp 51 _ rfl w.heap.size 0 rfl A _ (fun X h=>h.1.range) underlying51 rfl (by rw[z.o];kernel_rfl)) ?_;try simp only[Act.put,Zq,Zp,Zo]
 refine BR 1 (Zg n) ?_;try simp only[Act.put,Zq,Zp,Zo]
 refine Fu 2 (.agg #[.string b,.slice f a.length i]) rfl (by exact yieldsIf_load_mid Yp 36 _ rfl (w.heap.size+1) 0 rfl [.string b,.slice f a.length i] _ (fun X h=>h.2.range) underlying36 rfl Yr) ?_;try simp only[Act.put,Zq,Zp,Zo]
 refine CG 3 (fun K k=> ?_);go_simp;refine(H1.o W.drew (x.o.1.drew)).mono ?_;rintro o R ⟨g,c,rfl,Z,F⟩;have s:Below W.heap.size W R:=(Below.refl W.heap.size W).drew.trans F;try go_simp
 refine k.out _ _ (E.o _ _ hS F) (fun Y=> ?_);clear k K;try simp only[Act.put,Zq,Zp,Zo]
 refine BR 4 (.agg (Xz 1 ⟨#[]⟩ ⟨#[]⟩ n b (some ⟨g,0,none⟩) a.length c)) ?_;try simp only[Act.put,Zq,Zp,Zo]
 refine CG 5 (fun K k=> ?_);go_simp;refine(H2.o R g c (x.o.1.trans (s.mono x.o.1.size)) Z).mono ?_;rintro o T ⟨d,vs,rfl,G,B⟩;have V:Below W.heap.size W T:=s.trans (B.mono s.size);have l:=Yw (GR (d:=d) Yv (by have:=x.o.2;omega) x.o.1 H.o.2.2 (G.mono s.size) V);obtain⟨D,I⟩:=Af (dL d vs);rw[<-I]at l;rw[<-I];clear I G;try go_simp
 refine k.out _ _ (E.o _ _ Y B) (fun v=> ?_);clear k K;try simp only[Act.put,Zq,Zp,Zo]
 have Q:=AI (w.heap.size+2) D 0 T;refine CG 6 (fun K k=> ?_);rw[if_pos Yp];refine wp_store_mid 157 _ _ rfl (w.heap.size+2) 0 D.toArray rfl rfl l.o.2.1 (by rw[List.size_toArray,l.o.1.1];kernel_rfl) (all_oneCell_toArray l.o.1.2) ?_;refine k.out _ _ ⟨Aa.same v.1 (Q.block _ (v.1.jn z.o) Yu),Aa.same v.2 (Q.block _ v.2.lt Yu)⟩ (fun zA=> ?_);clear k K;try simp only[Act.put]
 refine wpAnyH_done Yr ?_ _;go_wp2_with fail;exact bodyPost_ret (AU results83 _ _ (w.heap.size+2) D _ rfl (Aa.range l.o.2.2.1) underlying157 rfl (by rw[l.o.1.1];kernel_rfl)) rfl l.o.2.2.2
theorem Uq(s:Zi)(a:Int)(w:Zh)(d:s.size<=100000):Calls prog 101 #[.string s,Zg a] w fun e b=>∃t,e=.returned (.string t)/\Zz w b:=by
 by_cases h:1<=a/\a<=8
 .refine(Ot s a w Yo h.1 h.2).mono ?_;rintro e b ⟨rfl,c⟩;exact⟨_,rfl,c⟩
 .refine(Wz s a w Yv).mono ?_;rintro e b ⟨rfl,rfl⟩;exact⟨_,rfl,Ae⟩
theorem Lr(a:Int)(n:Nat)(h:0<=a):a.tmod (n:Int)=((a.toNat%n:Nat):Int):=by
 rw[Int.tmod_eq_emod_of_nonneg h];have:a=(a.toNat:Int):=Yv
 rw[this];simp
theorem Mw(r A h B:Int)(C y:Zi)(k now g c:Int)(a p l:Zk)(m pn z v u:Nat)(d:List Kd)(w:Zh)(F:Bu w w.heap.size a d)(E:0<=h)(_:h<=1000)(J:d.length<=1048576):
 Calls prog 86 #[.agg #[.int .i64 r,.string C,.int .i64 A,.string y,.int .i64 h,.int .i64 B],.agg #[.int .i64 k,.int .i64 now,.int .i64 g,.int .i64 c,.slice a d.length m,.slice p pn z,.slice l v u]] w fun e G=>∃s,e=.returned (.string s)/\Zz w G:=by
 have f:Below w.heap.size w ((w.alloc (.cells #[.int .i64 r,.string C,.int .i64 A,.string y,.int .i64 h,.int .i64 B] 99)).alloc (.cells #[.int .i64 k,.int .i64 now,.int .i64 g,.int .i64 c,.slice a d.length m,.slice p pn z,.slice l v u] 30)):=(Zy).alloc (by simp) _;go_enter func86,ntmps86;by_cases hz:d.length=0
 .have D:((d.length:Int)==0)=true:=by simpa using hz
  clear hz;go_wp2_with fail;refine(Uq _ k _ (by decide)).mono ?_;rintro e L ⟨t,rfl,n⟩;go_wp2;go_ret;exact⟨t,rfl,f.trans (n.mono f.size)⟩
 .have D:((d.length:Int)==0)=false:=by simpa using hz
  have K:=Lr h d.length E;have j:h.toNat%d.length<d.length:=Nat.mod_lt _ (by omega);clear hz;obtain⟨b,H,rfl,n,o⟩:=F.at j;generalize h.toNat%d.length=i at *
  have q:=Zv j;obtain⟨I,_⟩:=o i _ q;generalize d[i]=x at *
  clear o q;go_wp2;go_quiet (fail);go_wp2;go_ret;exact⟨x.sum,rfl,⟨f.os,f.tape,f.output,f.size,f.block⟩⟩
theorem PR(r v h z:Int)(A t:Zi)(y now f c:Int)(a p l:Zk)(m k pn u s:Nat)(d:List Ld)(w:Zh)(D:AM w w.heap.size l d)(C:0<=h)(H:h<=1000)(J:d.length<=1048576):
 Calls prog 90 #[.agg #[Zg r,.string A,Zg v,.string t,Zg h,Zg z],.agg (Yg y now f c a m k p pn u l d.length s)] w fun e E=>∃n,e=.returned (Zg n)/\Zz w E:=by
 have g:Below w.heap.size w ((w.alloc (.cells #[Zg r,.string A,Zg v,.string t,Zg h,Zg z] 99)).alloc (.cells (Yg y now f c a m k p pn u l d.length s) 30)):=(Zy).alloc Yu _;go_enter func90,ntmps90;by_cases hz:d.length=0
 .have B:((d.length:Int)==0)=true:=by simpa using hz
  clear hz;go_wp2;go_ret;exact⟨_,rfl,g⟩
 .have B:((d.length:Int)==0)=false:=by simpa using hz
  have K:=Lr h d.length C;have j:h.toNat%d.length<d.length:=Nat.mod_lt _ Yv;clear hz;obtain⟨b,F,rfl,I,o⟩:=D.at j;generalize h.toNat%d.length=i at *
  have q:=Zv j;obtain⟨G,_⟩:=o i _ q;generalize d[i]=x at *
  clear o q;go_wp2;go_quiet (fail);go_wp2;go_ret;exact⟨x.H,rfl,⟨g.os,g.tape,g.output,g.size,g.block⟩⟩
theorem Kj{a:Zh}{g c:Nat}{u1 u2 u3:Value}(d:Zz w a)(e:a.ownsRow n 9 1 (Yz g b.length c) b.length (b.map Value.string))(f:w.heap.size+4<=n):
 Ad (((a.setCell (Zd (w.heap.size+1+1+1) 1) u1).setCell (Zd (w.heap.size+1+1) 0) u2).setCell (Zd (w.heap.size+1+1) 1) u3) (((a.setCell (Zd (w.heap.size+1+1+1) 1) u1).setCell (Zd (w.heap.size+1+1) 0) u2).setCell (Zd (w.heap.size+1+1) 1) u3).heap.size (some ⟨g,0,none⟩) b/\Zz w (((a.setCell (Zd (w.heap.size+1+1+1) 1) u1).setCell (Zd (w.heap.size+1+1) 0) u2).setCell (Zd (w.heap.size+1+1) 1) u3):=by
 have t:Tn [w.heap.size+1+1+1,w.heap.size+1+1] a (((a.setCell (Zd (w.heap.size+1+1+1) 1) u1).setCell (Zd (w.heap.size+1+1) 0) u2).setCell (Zd (w.heap.size+1+1) 1) u3):=((Tn.set _ _ _ _ Yu).trans (Tn.set _ _ _ _ Yu)).trans (Tn.set _ _ _ _ Yu);exact⟨Ad.own (Py e t Yt),d.trans (t.below d.size Yt)⟩
theorem PS(Y J C tk:Int)(z nm:Zi)(sw now s h:Int)(a p l:Zk)(U pn pc ln Z:Nat)(n:List Kd)(w:Zh)(M:Bu w w.heap.size a n)(h0:0<=C)(h1:C<=1000)(zJ:0<=J)(zK:J<=1000)(hl:n.length<=1048576):
 Calls prog 84 #[.agg #[Zg Y,.string z,Zg J,.string nm,Zg C,Zg tk],.agg #[Zg sw,Zg now,Zg s,Zg h,.slice a n.length U,.slice p pn pc,.slice l ln Z]] w fun e w'=>∃g c d,e=.returned (.agg #[.string z,.slice (some ⟨g,0,none⟩) d.length c])/\Ad w' w'.heap.size (some ⟨g,0,none⟩) d/\d.length<=4/\Zz w w':=by
 obtain⟨i0,hi,zC,zE,zF⟩:=info_parts Cq;obtain⟨W,y⟩:=Af ((((w.alloc (.cells #[Zg Y,.string z,Zg J,.string nm,Zg C,Zg tk] 99)).alloc (.cells #[Zg sw,Zg now,Zg s,Zg h,.slice a n.length U,.slice p pn pc,.slice l ln Z] 30)).alloc (.cells #[Zc,Zb] 36)).alloc (.cells #[.string z,Zb] 36));obtain⟨bW,zW,xA,xS,xR,xT⟩:=YM y
 have t:Hid (∀X,Zz W X->Aa X w.heap.size [Zg Y,.string z,Zg J,.string nm,Zg C,Zg tk]/\Aa X (w.heap.size+1) [Zg sw,Zg now,Zg s,Zg h,.slice a n.length U,.slice p pn pc,.slice l ln Z]/\Aa X (w.heap.size+1+1) [Zc,Zb]/\Aa X (w.heap.size+1+1+1) [.string z,Zb]/\Zz w X):=fun X K=>⟨Aa.below xA K,Aa.below xS K,Aa.below xR K,Aa.below xT K,bW.trans (K.mono bW.size)⟩;have H:Hid (W.heap.size=w.heap.size+4):=zW
 have oL:(W.alloc (.cells #[] 9)).ownsRow W.heap.size 9 1 (.slice (some ⟨W.heap.size,0,none⟩) 0 0) 0 (([]:Zl).map Value.string):=World.ownsRow_lit W #[] 0 (by omega) (by unfold maxLen;omega) rfl;have T:Hid ((W.alloc (.cells #[] 9)).ownsRow W.heap.size 9 1 (.slice (some ⟨W.heap.size,0,none⟩) ([]:Zl).length 0) ([]:Zl).length (([]:Zl).map Value.string)):=oL;have HW:Hid _:=y;clear y xA xS xR xT zW oL
 go_enter func84,ntmps84;go_upto_region 2 with fail;rw[<-HW.o];clear HW;obtain⟨y4,_⟩:=(t.o (W.alloc (.cells #[] 9)) (Zy)).2.1 4 _ rfl;go_upto_region 3 with fail;by_cases hz:n.length=0
 .have S:¬0<n.length:=by omega
  have V:Below W.heap.size W (W.alloc (.cells #[] 9)):=Zy;clear hz;go_wp2_with fail;refine(IU (some ⟨W.heap.size,0,none⟩) 0 [] _ (Ad.own T.o) (by simp)).mono ?_;rintro e F ⟨r,q,rfl,B,A⟩;have m:=V.trans (A.mono V.size)
  have E:Hid _:=Kj (u1:=.slice (some ⟨r,0,none⟩) (BQ []).length q) (u2:=.string z) (u3:=.slice (some ⟨r,0,none⟩) (BQ []).length q) (t.o F m).2.2.2.2 B (by have:=H.o;have:=V.size;omega);have G:Hid ((BQ []).length<=4):=Zm (FK _) (by simp);have f:Hid _:=t.o F m;obtain⟨⟨r0,_⟩,L,_⟩:=Zn (f.o.2.2.1 0 _ rfl) (f.o.2.2.1 1 _ rfl);obtain⟨⟨t0,_⟩,t1,_⟩:=Zn (f.o.2.2.2.1 0 _ rfl) (f.o.2.2.2.1 1 _ rfl)
  clear t H f m A B;go_wp2;exact bodyPost_ret (v:=.agg #[.string z,.slice (some ⟨r,0,none⟩) (BQ []).length q]) (by simp[results,results84,go_sem,r0,L]) rfl ⟨r,q,_,rfl,E.o.1,G.o,E.o.2⟩
 .have S:0<n.length:=by omega
  clear hz;go_wp2
  go_loopw [6,7] (fun li k wr=>∃(j g c:Nat) (d:Zl),k=Zg j/\j<=4/\li=.slice (some ⟨g,0,none⟩) d.length c/\d.length=j/\Hid (wr.ownsRow W.heap.size 9 1 (.slice (some ⟨g,0,none⟩) d.length c) d.length (d.map Value.string)/\Zz W wr)) (fun _ k _=>4 -(intOf k).toNat)
  case atStart=>exact⟨0,W.heap.size,0,[],rfl,by omega,rfl,rfl,T.o,Zy⟩
  case round=>
   obtain⟨j,g,c,d,rfl,hj,rfl,rfl,o⟩:=hrel;have y:=(t.o wr o.o.2);obtain⟨z2,_⟩:=y.1 2 _ rfl;by_cases hc1:(d.length:Int)<J/2
   .by_cases hc2:d.length<4
    .have zH:d.length<=3:=by omega
     have zB:¬n.length=0:=by omega
     have zI:((n.length:Int)==0)=false:=by simpa using zB
     have hm:=Lr (C+5 *(d.length:Int)) n.length (by omega);have Q:(C+5 *(d.length:Int)).toNat%n.length<n.length:=Nat.mod_lt _ S;have e1:IntKind.i64.wrap (5 *(d.length:Int))=5 *(d.length:Int):=Cs (by omega) (by omega);have e2:IntKind.i64.wrap (C+5 *(d.length:Int))=C+5 *(d.length:Int):=Cs (by omega) (by omega);obtain⟨b,zM,rfl,hb,hc⟩:=(Bu.below M y.2.2.2.2).at Q
     have zG:b<wr.heap.size:=Zr hb y.2.2.2.2.size;generalize (C+5 *(d.length:Int)).toNat%n.length=i at *
     have hg:=Zv Q;obtain⟨c0,_⟩:=hc i _ hg;generalize n[i]=x at *
     obtain⟨y4,_⟩:=y.2.1 4 _ rfl;obtain⟨z4,_⟩:=y.1 4 _ rfl;have ho:=o.o.1;have zA:=ho.lt g rfl;have D:Hid (wr.ownsRow W.heap.size 9 1 (.slice (some ⟨g,0,none⟩) d.length c) d.length (d.map Value.string)/\Zz W wr):=o;clear hc hg y ho o M;go_upto_region 7 with fail
     go_region_law (first
      |(refine step_append_lies (wr.drew.alloc (.cells #[.string x.sum] 9)) (by rfl) (.tmp 27) (.tmp 42) 23 (by rfl) W.heap.size 9 i0 Zc 1 16 underlying23 hi zC zE zF rfl (by decide) (.slice (some ⟨g,0,none⟩) d.length c) d.length (d.map Value.string) (by rfl) (by exact D.o.1.alloc _) ⟨wr.heap.size,0,none⟩ 1 1 [.string x.sum] (by rfl) rfl (by exact cell_one_new wr.drew _ 9) (fun u hu=>by simp at hu;subst hu;rfl) (by omega) (by unfold maxLen;omega) (by omega) (by have:=D.o.2.size;simp;omega) _ rfl ?_;intro g4 I w4 R P N O))
     all_goals
      have HN:Hid (w4.ownsRow W.heap.size 9 1 (.slice (some ⟨g4,0,none⟩) (d++[x.sum]).length I) (d++[x.sum]).length ((d++[x.sum]).map Value.string)/\Zz W w4):=by refine⟨by simpa using R,?_⟩;exact((D.o.2.drew.alloc D.o.2.size _).grown P (by have:=D.o.2.size;simp;omega) (fun k M=>by cases M;exact zA.1))
      clear R P N O D t H T c0 y4 z4 z2 hm e1 e2;go_wp2;exact⟨⟨d.length+1,g4,I,d++[x.sum],by go_num,by omega,by simp,by simp,HN⟩,by simp[intOf];omega⟩
    .clear y;go_wp2_with fail;refine(IU (some ⟨g,0,none⟩) c d wr (Ad.own o.o.1) (by omega)).mono ?_;rintro e F ⟨r,q,rfl,B,A⟩;have m:=o.o.2.trans (A.mono o.o.2.size);have E:Hid _:=Kj (u1:=.slice (some ⟨r,0,none⟩) (BQ d).length q) (u2:=.string z) (u3:=.slice (some ⟨r,0,none⟩) (BQ d).length q) (t.o F m).2.2.2.2 B (by have:=H.o;have:=o.o.2.size;omega)
     have G:Hid ((BQ d).length<=4):=Zm (FK _) (by omega);have f:Hid _:=t.o F m;obtain⟨⟨r0,_⟩,L,_⟩:=Zn (f.o.2.2.1 0 _ rfl) (f.o.2.2.1 1 _ rfl);obtain⟨⟨t0,_⟩,t1,_⟩:=Zn (f.o.2.2.2.1 0 _ rfl) (f.o.2.2.2.1 1 _ rfl);clear t H f o m A B;go_wp2;exact bodyPost_ret (v:=.agg #[.string z,.slice (some ⟨r,0,none⟩) (BQ d).length q]) (by simp[results,results84,go_sem,r0,L]) rfl ⟨r,q,_,rfl,E.o.1,G.o,E.o.2⟩
   .clear y;go_wp2_with fail;refine(IU (some ⟨g,0,none⟩) c d wr (Ad.own o.o.1) (by omega)).mono ?_;rintro e F ⟨r,q,rfl,B,A⟩;have m:=o.o.2.trans (A.mono o.o.2.size);have E:Hid _:=Kj (u1:=.slice (some ⟨r,0,none⟩) (BQ d).length q) (u2:=.string z) (u3:=.slice (some ⟨r,0,none⟩) (BQ d).length q) (t.o F m).2.2.2.2 B (by have:=H.o;have:=o.o.2.size;omega)
    have G:Hid ((BQ d).length<=4):=Zm (FK _) (by omega);have f:Hid _:=t.o F m;obtain⟨⟨r0,_⟩,L,_⟩:=Zn (f.o.2.2.1 0 _ rfl) (f.o.2.2.1 1 _ rfl);obtain⟨⟨t0,_⟩,t1,_⟩:=Zn (f.o.2.2.2.1 0 _ rfl) (f.o.2.2.2.1 1 _ rfl);clear t H f o m A B;go_wp2;exact bodyPost_ret (v:=.agg #[.string z,.slice (some ⟨r,0,none⟩) (BQ d).length q]) (by simp[results,results84,go_sem,r0,L]) rfl ⟨r,q,_,rfl,E.o.1,G.o,E.o.2⟩
end Go.Proofs.YtoglnpagihdhpaaGreatDoor
