import Derived.Test.YtdofmfnmackjhaaGreatDoorX32
import Derived.Test.YtdofmfnmackjhaaGreatDoorX33
import Derived.Test.YtdofmfnmackjhaaGreatDoorX20
set_option maxRecDepth 100000
set_option maxHeartbeats 16000000
namespace Go.Proofs.YtdofmfnmackjhaaGreatDoor
open ChangeShapes WideShapes ChangeAt RowKit _root_.Go.Proofs.Tryz List World Value
variable{d c g i t j o k l:Int}{b s:Zi}{a:Zj}{v:Vd}{e:Ed}{n m:Nat}{w:Zh}{V:List Nat}{u:Dj}{q x:Dy}{f:Zl}{r:Rs}
theorem Ace(v:Vd)(e:Ed)(a:Va)(H:Zk)(O:Nat)(w:Zh)(h1:Df w w.1.size a v)(h2:KY w a v)(R:FZ v)(zE:Af w w.1.size H e.rf)(zN:H=none->e.rf.length=0/\O=0)(hl:e.rf.length<=1048576)(ht:e.tx.size<=maxLen)(hn:e.nm.size<=maxLen):
 D8 132 #[.agg (Xq v a),.agg (Yd e.kd e.s e.nm e.G e.tx H e.rf.length O)] w (SDb v e w):=by
 have hR:∀X,Zz w X->Df X X.1.size a v:=λX m=>h1.T m;have hS:∀X,Zz w X->Af X X.1.size H e.rf:=λX m=>zE.T m;have hP:CB v->∀X,Zz w X->Kk X a v:=λK X m=>(h2.cp h1 R K).A m
 refine Acb v e _ _ _ _ _ _ _ _ _ _ _ _ _ _ _ _ _ H O (KSp v) ZSp w ⟨R.s,R.t⟩ (λX m=>EA v a X (hR X m) h2.cap R) ?_ (λX m=>Sf e.kd e.s e.nm e.G e.tx H O e.rf v.wd X (hS X m) hl ht hn) ?_ ?_ ?_ ?_ ?_ ?_ (λd X m=>Pe e.kd e.s e.nm e.G e.tx H O e.rf v.wd X (hS X m) hl ht hn) ?_ ?_ ?_ ?_
 .intro K X m;refine(FK v a X (hP K X m)).aj ?_;rintro o I ⟨S,U,T,P,L,Q,M,rs,rfl,F,h5,h4⟩;obtain⟨sb,n1,zV,rfl⟩:=h5 S Yu;obtain⟨ub,n2,zY,rfl⟩:=h5 U Yu;obtain⟨qb,n3,zC,rfl⟩:=h5 Q Yu;obtain⟨mb,n4,zB,rfl⟩:=h5 M Yu;have⟨_,_,e1,_⟩:=F.s.row;have⟨_,_,e2,_⟩:=F.u.row;have⟨_,_,e3,_⟩:=F.q.row;have⟨_,_,e4,_⟩:=F.m.row;cases e1;cases e2;cases e3;cases e4
  exact⟨sb,zV,ub,zY,T,P,L,qb,zC,mb,zB,rs,rfl,F,h4⟩
 .intro K X m;have G:=hP K X m;refine(Ft v.O v.D v.F v.C a.W a.N a.L _ _ _ v.ks v.ps v.ls X G.rows.R G.k G.p G.l G.nk G.np G.nl G.fc).aj ?_;rintro o I ⟨T,P,L,rs,rfl,u,K,t⟩;obtain⟨b,p,l,W,E,D,C,rfl,rfl,rfl,j,n,zK,zM⟩:=CT.of u K t.size;exact⟨_,[l],rfl,t,by simp;exact⟨zK,zM⟩,_,b,p,l,W,E,D,C,rfl,rfl,j,n⟩
 .rintro cs V X I ⟨f,b,p,l,W,E,D,C,rfl,rfl,j,n⟩ t;exact⟨f,b,p,l,W,E,D,C,rfl,rfl,j,n.A t⟩
 .rintro⟨r,d⟩ s cs V X m ⟨f,b,p,l,W,E,D,C,rfl,rfl,j,n⟩;have B:=d.fy;have zO:=d.same.1.1;have ha:=B.kf s ht;rw[<-j]at ha;rw[<-zO];refine(Iz f v.wd v.D v.F v.C b _ _ _ W E D C v.ps v.ls e.s e.nm e.tx e.G e.rf H O X e.kd n ha (λk J=>B.fc k (by rw[<-j];exact J)) (hS X m) zN).aj ?_;rintro o I ⟨N,⟨c,p',q',zF,rfl⟩|⟨g,b1,zW,zX,zZ,zT,zU,zR,zS,q,rfl,zP,zH⟩⟩
  .rw[j]at zF;exact⟨N,_,rfl,.inl ⟨c,p',q',zF,rfl⟩⟩
  .rw[j]at q;exact⟨N,[_,_,_,_,_,_,_,_,_,_,_,_],rfl,.inr ⟨g,zW,zX,zT,zU,zR,zS,q,rfl,f,b1,zZ,zP,zH⟩⟩
 .rintro g Y Z pa E la D X ⟨r,d⟩ s q ⟨f,b,C,j,n⟩ cb I t N;have zA:=UU (d.tok.step s q);exact⟨f,b,C,j,n.ij t (λz h=>zA z.1 (by rw[<-j];exact mem_map.2 ⟨z,h,rfl⟩)) N⟩
 .rintro g Y Z pa E la D X ⟨f,b,C,j,n⟩ I t;exact⟨f,b,C,j,n.A t⟩
 .rintro⟨r,d⟩ s _ g Y Z pa E la D X q ⟨f,b,C,j,n⟩;have B:=d.fy.step s q;have zA:=d.tok.step s q;have J:=n.dx;rw[j]at J;exact SO v.wd g.D g.F g.C Y Z _ _ g.ks X J B.bt.len (λi k hi=>zA k (Zs hi))
 .rintro⟨r,d⟩ s g Y Z pa E la D X q ⟨f,b,C,j,n⟩;have B:=d.fy.step s q;have z:=n.ik;rw[j]at z;refine(IV v.wd g.D g.F g.C Y pa la Z E D g.ks g.ps g.ls X z (λA u=> ?_) (CF n.po) (CF n.lo) B.bt.len B.np B.nl B.fc).aj ?_
  .rcases n.tb with h|h
   .rw[h]at u;cases u;rw[<-j];exact n.z.some
   .rw[<-j,h];intro i k hi;simp at hi
  .rintro o I ⟨T,P,L,rs,rfl,u,_,t⟩;exact⟨T,P,L,rs,rfl,u,t⟩
 .rintro⟨r,d⟩ s g X T2 P2 L2 yB n2 qb zC mb zB q u hq hm;have B:=d.fy.step s q;obtain⟨za,zc,rfl⟩:=Aq u.ak;obtain⟨ya,yc,rfl⟩:=Aq u.pins;obtain⟨ka,kc,rfl⟩:=Aq u.au;refine(QX v.wd g.D g.F g.C za zc _ _ g.ks (e.held g) v.M v.U v.V v.ro qb mb zC zB v.H v.ms X u.get.k (Dz B.bt.len) hq.iy hm.iy R.r d.round.ft.nq).aj ?_;rintro o I ⟨x,cx,y,cy,rfl,o1,o2,_,t⟩
  exact⟨t,_,_,rfl,Ar.own o1,Ar.own o2⟩
 .rintro⟨r,d⟩ g q;have zG:=d.wd.1;refine⟨λJ he=> ?_,λhe=>Kc (.inr (.inl λA=> ?_))⟩
  .rcases q with⟨_,_,hl,hg,yA,b1,q,rfl⟩|⟨h,_⟩|⟨h,_⟩|⟨h,_⟩|⟨h,_⟩|⟨h,_⟩|⟨h,_⟩
   .have F:=EK e.tx e.rf v.wd zG;have zI:AX e.tx e.rf v.wd=⟨#[]⟩:=he;rw[zI]at F;have h4:((⟨#[]⟩:Zi).size:Int)=0:=rfl;omega
   all_goals omega
  .rw[he]at A;obtain⟨k,J,zJ⟩:=A;have F:=q.sz zG d.fy.bt.sz k J;rw[zJ]at F;have h4:((⟨#[]⟩:Zi).size:Int)=0:=rfl;omega
 .rintro⟨r,d⟩;refine⟨d.same.1.1,?_⟩;have:=EM d.log;rw[Ak]at this;exact this
theorem Qq{b:Dj}(h:Kh d b)(f:∀k∈b,(k.sum.size:Int)=d):∀k∈b,IE k:=λk c=>by have a:=Bj (h k c);refine⟨a.J,a.B,λs e=> ?_,by have:=f k c;have:=a.hi;omega⟩;have⟨i,c⟩:=A5 e;have:=a.size c;have:=a.hi;omega
structure Qr (v:Vd):Prop where
 fit:FZ v
 j:∀k∈v.ks,IE k
 R:Hf v.ks v.ps v.ls
 lg:Cv v.ss v.E=true
theorem Fu{a b:Zl}:Cv a b=true↔a.length+b.length<=4000/\∀s∈a++b,s.size<=5000:=by unfold Cv;rw[Bool.and_eq_true,decide_eq_true_iff,all_eq_true];simp only[decide_eq_true_iff]
theorem Il.lg{d:Dd}(h:Il v e d)(g:Cv v.ss v.E=true):Cv d.v.ss d.v.E=true:=by
 rcases h with⟨_,rfl⟩|⟨⟨r,l⟩,⟨c,a,b,_,rfl⟩|⟨n,i,rfl⟩⟩
 .rfl
 .exact g
 .have j:=Fu.1 g;have m:=i.2.2.2;refine Fu.2 ⟨?_,λs k=> ?_⟩
  .show v.ss.length+(v.E++[e.cz v.wd]).length<=4000;rw[Ak,length_singleton];omega
  .have f:s∈v.ss++(v.E++[e.cz v.wd]):=k;rw[<-append_assoc]at f;rcases A7.1 f with h|h
   .exact j.2 s h
   .rw[mem_singleton.1 h];exact Ed.fg i.1
theorem Il.ja{d:Dd}(h:Il v e d)(j:∀k∈v.ks,IE k):∀k∈d.v.ks,IE k:=by
 rcases h with⟨_,rfl⟩|⟨⟨r,g⟩,⟨c,a,b,_,rfl⟩|⟨l,f,rfl⟩⟩
 .intro k i;cases i
 .exact j
 .exact Qq (g.tok.step f.1 f.2.1) (g.fy.step f.1 f.2.1).bt.sz
theorem KC:Hf [] [] []:=⟨⟨Az _,Yu,Yu,Yu,Yu⟩,⟨Az _,Yu,Yu⟩,⟨Az _,Yu⟩,Yu,Yu⟩
theorem Il.jb{d:Dd}(h:Il v e d)(i:Hf v.ks v.ps v.ls):Hf d.v.ks d.v.ps d.v.ls:=by
 rcases h with⟨_,rfl⟩|⟨⟨r,f⟩,⟨c,a,b,_,rfl⟩|⟨j,g,rfl⟩⟩
 .exact KC
 .exact i
 .exact Ql (f.fy.step g.1 g.2.1) (f.ke.1.step f.fy g.2.1) (f.ke.2.step g.1 g.2.1) f.wd.2
def RV(n:Nat)(w:Zh)(vs:Zj):Prop:=∃u,Qr u/\∀V X',(∀b∈V,b<n)->Tn V w X'->MF u X'.1.size X' vs
theorem RV.K{d:Zh}{c:Zj}(h:RV n w c)(k:Tn V w d)(i:∀b∈V,b<n):RV n d c:=by
 obtain⟨u,j,h⟩:=h;refine⟨u,j,λa f e g=>h (V++a) f (λb a=> ?_) ((k.aj (by simp;exact λb a=> .inl a)).ah (g.aj (by simp;exact λb a=> .inr a)))⟩;rcases A7.1 a with h|h
 .exact i b h
 .exact e b h
theorem RV.A{b:Zh}(h:RV n w a)(c:Zz w b):RV n b a:=h.K (V:=[]) (Tn.of c) Yu
theorem RV.mono(h:RV n w a)(f:m<=n):RV m w a:=by obtain⟨u,e,h⟩:=h;exact⟨u,e,λV c d=>h V c (λb c=>Zr (d b c) f)⟩
abbrev RV.aj:=@RV.mono
theorem RV.D{b:Zj}(h:RV n w b):∃u a,Qr u/\b=Bw u (C3 a.i u.ss.length a.sc) (C3 a.Y u.E.length a.Z) (C3 a.W u.ks.length a.X) (C3 a.N u.ps.length a.Q) (C3 a.L u.ls.length a.P) (C3 a.qa u.H.length a.qc) (C3 a.y u.ms.length a.mc)/\Df w w.1.size a u/\KY w a u:=by obtain⟨u,c,h⟩:=h;have⟨a,h⟩:=h [] w Yu (Tn.of Ad);exact⟨u,a,c,h⟩
theorem RV.len{b:Zj}(h:RV n w b):b.length=17/\∀u∈b,u.oneCell'=true:=by obtain⟨u,a,_,rfl,_⟩:=h.D;exact⟨rfl,by simp[Bw,oneCell']⟩
theorem AM.rv{a:Zh}{S U T P L Q M:D4}{c:Zj}{u:Vd}(h:AM a w.1.size S U T P L Q M c u)(b:Qr u):RV w.1.size a (Bw u S U T P L Q M):=⟨u,b,h.jk (Zx) Ad⟩
def Du(p:Nat->Prop)(w:Zh)(vs:Zj):Prop:=∃u,Qr u/\∀V X',(∀b∈V,p b)->Tn V w X'->MF u X'.1.size X' vs
theorem Du.K{p:Nat->Prop}{d:Zh}{c:Zj}(h:Du p w c)(k:Tn V w d)(i:∀b∈V,p b):Du p d c:=by
 obtain⟨u,j,h⟩:=h;refine⟨u,j,λa f e g=>h (V++a) f (λb a=> ?_) ((k.aj (by simp;exact λb a=> .inl a)).ah (g.aj (by simp;exact λb a=> .inr a)))⟩;rcases A7.1 a with h|h
 .exact i b h
 .exact e b h
theorem Du.A{p:Nat->Prop}{b:Zh}(h:Du p w a)(c:Zz w b):Du p b a:=h.K (V:=[]) (Tn.of c) Yu
theorem RV.p{p:Nat->Prop}{vs:Zj}(h:RV n w vs)(e:∀b,p b->b<n):Du p w vs:=by obtain⟨u,d,h⟩:=h;exact⟨u,d,λV a c=>h V a (λb a=>e b (c b a))⟩
theorem Du.zero{p:Nat->Prop}(h:Du p w a):RV 0 w a:=by obtain⟨u,f,h⟩:=h;exact⟨u,f,λV c e d=>h V c (λb c=>absurd (e b c) (Nat.not_lt_zero b)) d⟩
def MH(w:Zh)(o:Ending)(w':Zh):Prop:=∃d vs,o=.returned (.agg (dL d vs).toArray)/\RV w.1.size w' vs/\Zz w w'
theorem KD(j:Zj)(e:Ed)(f:Zk)(i:Nat)(w:Zh)(h:RV n w j)(g:Af w w.1.size f e.rf)(k:f=none->e.rf.length=0/\i=0)(r:e.rf.length<=1048576)(v:e.tx.size<=maxLen)(s:e.nm.size<=maxLen):
 D8 132 #[.agg j.toArray,.agg (Yd e.kd e.s e.nm e.G e.tx f e.rf.length i)] w (MH w):=by
 obtain⟨u,a,c,rfl,m,p⟩:=h.D;refine(Ace u e a f i w m p c.fit g k r v s).aj ?_;rintro o x ⟨d,l,b,rfl,t,q⟩;exact⟨d,l,rfl,⟨d.v,⟨b.fit c.fit,b.ja c.j,b.jb c.R,b.lg c.lg⟩,t⟩,q⟩
theorem GW{W X:Zh}{q:Nat}{d:Dd}(l:w.1.size<=q)(j:q<W.1.size)(b:Zz w W)(k:Aa W q EU)(h:RV W.1.size X a)(g:Zz W X):
 ((dL d a).length=22/\∀u∈dL d a,u.oneCell'=true)/\X.there q 0 (dL d a).toArray.size/\Aa (X.setCells q 0 (dL d a).toArray.toList) q (dL d a)/\MH w (.returned (.agg (dL d a).toArray)) (X.setCells q 0 (dL d a).toArray.toList):=by
 have e:=MD (d:=d) h.len;have i:=AV q (dL d a) 0 X;have c:=Aa.A (v:=Ze) k g;have f:=b.ah (g.aj b.size);refine⟨e,?_,c.ay _ (by rw[e.1];rfl),d,a,rfl,(h.K i (D2 j)).aj b.size,f.ah (i.A f.size (D2 l))⟩;rw[show(dL d a).toArray.size=22 from by rw[A1];exact e.1];exact c.there
theorem WE(A:Zj)(g s:Zi)(w:Zh)(f:RV m w A)(n:g.size<=maxLen):
 D8 108 #[.agg A.toArray,C4 g,C4 s] w (MH w):=by
 have⟨W,a⟩:=Ae ((w.alloc (.cells A.toArray 100)).alloc (.cells Xk 162));have e:=(Bi a).1;have j:=(Bi a).2.1;have c:Hid (Aa W w.1.size A/\Aa W (w.1.size+1) EU):=⟨(Bi a).2.2.1,(Bi (k:=EU) a).2.2.2⟩;have l:Hid (A.length=17):=f.len.1;have h:=Yw (KD A ⟨2,s,g,0,⟨#[]⟩,[]⟩ none 0 W (f.A e) (.inl rfl) (λ_=>⟨rfl,rfl⟩) Yu (Az _) n);have b:=Yw (Zn e j);have i:=Yw a
 clear a f e j;go_enter func108,ntmps108;go_upto_region 1 with fail;rw[<-i.o];clear i;go_wp2_with (refine wpList_load_mid rfl 100 _ rfl w.1.size 0 rfl A _ c.1.range underlying100 rfl (by rw[l.o];kernel_rfl) ?_);refine h.Ai ?_;rintro o j ⟨d,i,rfl,f,e⟩;have a:=Yw (GW (d:=d) (Nat.le_succ _) (Dz b.2) b.1 c.2 f e);clear h b c f e;have⟨D,b⟩:=Ae (dL d i)
 rw[<-b]at a;rw[<-b];clear b;go_wp2_with (refine wpList_store_mid rfl 162 _ _ rfl (w.1.size+1) 0 D.toArray rfl rfl a.2.1 (by rw[A1,a.1.1];kernel_rfl) (all_oneCell_toArray a.1.2) ?_);exact bodyPost_ret (AY results108 _ _ (w.1.size+1) D _ rfl (Aa.range a.2.2.1) underlying162 rfl (by rw[a.1.1];kernel_rfl)) rfl a.2.2.2
theorem Tv(A:Zj)(g:Zi)(w:Zh)(f:RV m w A)(n:g.size<=maxLen):
 D8 109 #[.agg A.toArray,C4 g] w (MH w):=by
 have⟨W,a⟩:=Ae ((w.alloc (.cells A.toArray 100)).alloc (.cells Xk 162));have e:=(Bi a).1;have j:=(Bi a).2.1;have c:Hid (Aa W w.1.size A/\Aa W (w.1.size+1) EU):=⟨(Bi a).2.2.1,(Bi (k:=EU) a).2.2.2⟩;have l:Hid (A.length=17):=f.len.1;have h:=Yw (KD A ⟨3,⟨#[]⟩,g,0,⟨#[]⟩,[]⟩ none 0 W (f.A e) (.inl rfl) (λ_=>⟨rfl,rfl⟩) Yu (Az _) n);have b:=Yw (Zn e j);have i:=Yw a
 clear a f e j;go_enter func109,ntmps109;go_upto_region 1 with fail;rw[<-i.o];clear i;go_wp2_with (refine wpList_load_mid rfl 100 _ rfl w.1.size 0 rfl A _ c.1.range underlying100 rfl (by rw[l.o];kernel_rfl) ?_);refine h.Ai ?_;rintro o j ⟨d,i,rfl,f,e⟩;have a:=Yw (GW (d:=d) (Nat.le_succ _) (Dz b.2) b.1 c.2 f e);clear h b c f e;have⟨D,b⟩:=Ae (dL d i)
 rw[<-b]at a;rw[<-b];clear b;go_wp2_with (refine wpList_store_mid rfl 162 _ _ rfl (w.1.size+1) 0 D.toArray rfl rfl a.2.1 (by rw[A1,a.1.1];kernel_rfl) (all_oneCell_toArray a.1.2) ?_);exact bodyPost_ret (AY results109 _ _ (w.1.size+1) D _ rfl (Aa.range a.2.2.1) underlying162 rfl (by rw[a.1.1];kernel_rfl)) rfl a.2.2.2
theorem Tw(A:Zj)(s:Zi)(n:Int)(w:Zh)(f:RV m w A):
 D8 110 #[.agg A.toArray,C4 s,Zg n] w (MH w):=by
 have⟨W,a⟩:=Ae ((w.alloc (.cells A.toArray 100)).alloc (.cells Xk 162));have e:=(Bi a).1;have i:=(Bi a).2.1;have c:Hid (Aa W w.1.size A/\Aa W (w.1.size+1) EU):=⟨(Bi a).2.2.1,(Bi (k:=EU) a).2.2.2⟩;have j:Hid (A.length=17):=f.len.1;have g:=Yw (KD A ⟨4,s,⟨#[]⟩,n,⟨#[]⟩,[]⟩ none 0 W (f.A e) (.inl rfl) (λ_=>⟨rfl,rfl⟩) Yu (Az _) (Az _));have b:=Yw (Zn e i)
 have h:=Yw a;clear a f e i;go_enter func110,ntmps110;go_upto_region 1 with fail;rw[<-h.o];clear h;go_wp2_with (refine wpList_load_mid rfl 100 _ rfl w.1.size 0 rfl A _ c.1.range underlying100 rfl (by rw[j.o];kernel_rfl) ?_);refine g.Ai ?_;rintro o i ⟨d,h,rfl,f,e⟩;have a:=Yw (GW (d:=d) (Nat.le_succ _) (Dz b.2) b.1 c.2 f e);clear g b c f e
 have⟨D,b⟩:=Ae (dL d h);rw[<-b]at a;rw[<-b];clear b;go_wp2_with (refine wpList_store_mid rfl 162 _ _ rfl (w.1.size+1) 0 D.toArray rfl rfl a.2.1 (by rw[A1,a.1.1];kernel_rfl) (all_oneCell_toArray a.1.2) ?_);exact bodyPost_ret (AY results110 _ _ (w.1.size+1) D _ rfl (Aa.range a.2.2.1) underlying162 rfl (by rw[a.1.1];kernel_rfl)) rfl a.2.2.2
theorem Qs(A:Zj)(n:Int)(w:Zh)(f:RV m w A):
 D8 111 #[.agg A.toArray,Zg n] w (MH w):=by
 have⟨W,a⟩:=Ae ((w.alloc (.cells A.toArray 100)).alloc (.cells Xk 162));have e:=(Bi a).1;have i:=(Bi a).2.1;have c:Hid (Aa W w.1.size A/\Aa W (w.1.size+1) EU):=⟨(Bi a).2.2.1,(Bi (k:=EU) a).2.2.2⟩;have j:Hid (A.length=17):=f.len.1;have g:=Yw (KD A ⟨5,⟨#[]⟩,⟨#[]⟩,n,⟨#[]⟩,[]⟩ none 0 W (f.A e) (.inl rfl) (λ_=>⟨rfl,rfl⟩) Yu (Az _) (Az _));have b:=Yw (Zn e i)
 have h:=Yw a;clear a f e i;go_enter func111,ntmps111;go_upto_region 1 with fail;rw[<-h.o];clear h;go_wp2_with (refine wpList_load_mid rfl 100 _ rfl w.1.size 0 rfl A _ c.1.range underlying100 rfl (by rw[j.o];kernel_rfl) ?_);refine g.Ai ?_;rintro o i ⟨d,h,rfl,f,e⟩;have a:=Yw (GW (d:=d) (Nat.le_succ _) (Dz b.2) b.1 c.2 f e);clear g b c f e
 have⟨D,b⟩:=Ae (dL d h);rw[<-b]at a;rw[<-b];clear b;go_wp2_with (refine wpList_store_mid rfl 162 _ _ rfl (w.1.size+1) 0 D.toArray rfl rfl a.2.1 (by rw[A1,a.1.1];kernel_rfl) (all_oneCell_toArray a.1.2) ?_);exact bodyPost_ret (AY results111 _ _ (w.1.size+1) D _ rfl (Aa.range a.2.2.1) underlying162 rfl (by rw[a.1.1];kernel_rfl)) rfl a.2.2.2
theorem WG(A:Zj)(n:Int)(w:Zh)(f:RV m w A):
 D8 112 #[.agg A.toArray,Zg n] w (MH w):=by
 have⟨W,a⟩:=Ae ((w.alloc (.cells A.toArray 100)).alloc (.cells Xk 162));have e:=(Bi a).1;have i:=(Bi a).2.1;have c:Hid (Aa W w.1.size A/\Aa W (w.1.size+1) EU):=⟨(Bi a).2.2.1,(Bi (k:=EU) a).2.2.2⟩;have j:Hid (A.length=17):=f.len.1;have g:=Yw (KD A ⟨6,⟨#[]⟩,⟨#[]⟩,n,⟨#[]⟩,[]⟩ none 0 W (f.A e) (.inl rfl) (λ_=>⟨rfl,rfl⟩) Yu (Az _) (Az _));have b:=Yw (Zn e i)
 have h:=Yw a;clear a f e i;go_enter func112,ntmps112;go_upto_region 1 with fail;rw[<-h.o];clear h;go_wp2_with (refine wpList_load_mid rfl 100 _ rfl w.1.size 0 rfl A _ c.1.range underlying100 rfl (by rw[j.o];kernel_rfl) ?_);refine g.Ai ?_;rintro o i ⟨d,h,rfl,f,e⟩;have a:=Yw (GW (d:=d) (Nat.le_succ _) (Dz b.2) b.1 c.2 f e);clear g b c f e
 have⟨D,b⟩:=Ae (dL d h);rw[<-b]at a;rw[<-b];clear b;go_wp2_with (refine wpList_store_mid rfl 162 _ _ rfl (w.1.size+1) 0 D.toArray rfl rfl a.2.1 (by rw[A1,a.1.1];kernel_rfl) (all_oneCell_toArray a.1.2) ?_);exact bodyPost_ret (AY results112 _ _ (w.1.size+1) D _ rfl (Aa.range a.2.2.1) underlying162 rfl (by rw[a.1.1];kernel_rfl)) rfl a.2.2.2
theorem ZK(A:Zj)(b:Zi)(f:Zk)(i:Nat)(a:Zl)(n:Int)(w:Zh)(J:RV m w A)(q:Af w w.1.size f a)(B:f=none->a.length=0/\i=0)(O:a.length<=1048576)(ht:b.size<=maxLen):
 Calls prog 107 #[.agg A.toArray,.agg #[.string b,.slice f a.length i],Zg n] w (MH w):=by
 have N:=J.len.1;have s:∀X,Zz w X->Calls prog 77 #[.agg #[.string b,.slice f a.length i]] X fun o j=>∃g c,o=.returned (.agg #[.string b,Yz g a.length c])/\Af j j.1.size (some ⟨g,0,none⟩) a/\Zz X j:=fun X I=>(Gi b f i a X (q.T I) B O).mono (fun o j ⟨g,c,h,ho,z⟩=>⟨g,c,h,Af.own ho,z⟩)
 have x:∀X g c,Zz w X->Af X X.1.size (some ⟨g,0,none⟩) a->Calls prog 132 #[.agg A.toArray,.agg (Yd 1 ⟨#[]⟩ ⟨#[]⟩ n b (some ⟨g,0,none⟩) a.length c)] X (MH X):=fun X g c I hg=>KD A ⟨1,⟨#[]⟩,⟨#[]⟩,n,b,a⟩ (some ⟨g,0,none⟩) c X (J.A I) hg (fun e=>by cases e) O ht (Nat.zero_le _)
 obtain⟨W,p⟩:∃W,W=((w.alloc (.cells A.toArray 100)).alloc (.cells #[.string b,.slice f a.length i] 30)).alloc (.cells Xk 162):=⟨_,rfl⟩;have M:=(BI p).1;have T:=(BI p).2.1;have G:Hid (Aa W w.1.size A/\Aa W (w.1.size+1) [.string b,.slice f a.length i]/\Aa W (w.1.size+2) EU):=⟨(BI p).2.2.1,(BI p).2.2.2.1,(BI (m:=EU) p).2.2.2.2⟩;have y:Hid (A.length=17):=N;have v:=Yw (Zn M T);have L:=Yw p
 have Z:=Yw s;have H2:=Yw x;have C:Hid (∀X j,(Aa X w.1.size A/\Aa X (w.1.size+1) [.string b,.slice f a.length i])->Zz X j->Aa j w.1.size A/\Aa j (w.1.size+1) [.string b,.slice f a.length i]):=fun X j s x=>⟨Aa.same s.1 (x.block _ (s.1.js y.o)),Aa.A s.2 x⟩;clear p N s x M T J q;go_enter func107,ntmps107;go_upto_region 1 with fail;rw[<-L.o];clear L
 refine wp_region_held_drew (S:=fun X=>Aa X w.1.size A/\Aa X (w.1.size+1) [.string b,.slice f a.length i]) Yr (show _/\_ from⟨G.o.1,G.o.2.1⟩) (fun hS=> ?_);refine Fl 0 (.agg A.toArray) rfl (by exact yieldsIf_load_mid Yp 100 _ rfl w.1.size 0 rfl A _ (fun X h=>h.1.range) underlying100 rfl (by rw[y.o];kernel_rfl)) ?_;try simp only[Act.put,Zq,Zp,Zo]
 refine BZ 1 (Zg n) ?_;try simp only[Act.put,Zq,Zp,Zo]
 refine Fl 2 (.agg #[.string b,.slice f a.length i]) rfl (by exact yieldsIf_load_mid Yp 30 _ rfl (w.1.size+1) 0 rfl [.string b,.slice f a.length i] _ (fun X h=>h.2.range) underlying30 rfl Yr) ?_;try simp only[Act.put,Zq,Zp,Zo]
 refine CL 3 (fun K k=> ?_);go_simp;refine(Z.o W.drew (v.o.1.drew)).mono ?_;rintro o Q ⟨g,c,rfl,Y,E⟩;have r:Below W.1.size W Q:=(Below.refl W.1.size W).drew.trans E;try go_simp
 refine k.out _ _ (C.o _ _ hS E) (fun V=> ?_);clear k K;try simp only[Act.put,Zq,Zp,Zo]
 refine BZ 4 (.agg (Yd 1 ⟨#[]⟩ ⟨#[]⟩ n b (some ⟨g,0,none⟩) a.length c)) ?_;try simp only[Act.put,Zq,Zp,Zo]
 refine CL 5 (fun K k=> ?_);go_simp;refine(H2.o Q g c (v.o.1.trans (r.mono v.o.1.size)) Y).mono ?_;rintro o R ⟨d,vs,rfl,F,z⟩;have U:Below W.1.size W R:=r.trans (z.mono r.size);have l:=Yw (GW (d:=d) Yv (by have:=v.o.2;omega) v.o.1 G.o.2.2 (F.mono r.size) U);obtain⟨D,H⟩:∃t,t=dL d vs:=⟨_,rfl⟩;rw[<-H]at l;rw[<-H];clear H F;try go_simp
 refine k.out _ _ (C.o _ _ V z) (fun u=> ?_);clear k K;try simp only[Act.put,Zq,Zp,Zo]
 have P:=AV (w.1.size+2) D 0 R;refine CL 6 (fun K k=> ?_);rw[if_pos Yp];refine wp_store_mid 162 _ _ rfl (w.1.size+2) 0 D.toArray rfl rfl l.o.2.1 (by rw[List.size_toArray,l.o.1.1];kernel_rfl) (all_oneCell_toArray l.o.1.2) ?_;refine k.out _ _ ⟨Aa.same u.1 (P.block _ (u.1.js y.o) Yu),Aa.same u.2 (P.block _ u.2.lt Yu)⟩ (fun zA=> ?_);clear k K;try simp only[Act.put]
 refine wpAnyH_done Yr ?_ _;go_wp2_with fail;exact bodyPost_ret (AY results107 _ _ (w.1.size+2) D _ rfl (Aa.range l.o.2.2.1) underlying162 rfl (by rw[l.o.1.1];kernel_rfl)) rfl l.o.2.2.2
theorem Km(s:Zi)(a:Int)(w:Zh)(d:s.size<=100000):D8 22 #[C4 s,Zg a] w λe b=>∃t,e=C5 (C4 t)/\t.size<=8/\Zz w b:=by
 by_cases h:1<=a/\a<=8
 .refine(IM s a w Yo h.1 h.2).aj ?_;rintro e b ⟨rfl,c⟩;exact⟨_,rfl,by rw[JN];omega,c⟩
 .refine(XJ s a w Yv).aj ?_;rintro e b ⟨rfl,rfl⟩;exact⟨_,rfl,Yq,Ad⟩
theorem LD(a:Int)(n:Nat)(h:0<=a):a.tmod (n:Int)=((a.toNat%n:Nat):Int):=by
 rw[Int.tmod_eq_emod_of_nonneg h];have:a=(a.toNat:Int):=Yv
 rw[this];simp
theorem Jf(u C j D:Int)(E z:Zi)(o n g d:Int)(a p l:Zk)(q B A y v:Nat)(c:List Kd)(w:Zh)(K:AW w w.1.size a c)(H:0<=j)(_:j<=1000)(O:c.length<=1048576):
 D8 18 #[.agg #[.int .i64 u,.string E,.int .i64 C,.string z,.int .i64 j,.int .i64 D],.agg #[.int .i64 o,.int .i64 n,.int .i64 g,.int .i64 d,.slice a c.length q,.slice p B A,.slice l y v]] w λe f=>∃s,e=.returned (.string s)/\((∀k∈c,k.sum.size<=8)->s.size<=8)/\Zz w f:=by
 have f:Below w.1.size w ((w.alloc (.cells #[.int .i64 u,.string E,.int .i64 C,.string z,.int .i64 j,.int .i64 D] 51)).alloc (.cells #[.int .i64 o,.int .i64 n,.int .i64 g,.int .i64 d,.slice a c.length q,.slice p B A,.slice l y v] 27)):=(Zy).alloc (by simp) _;go_enter func18,ntmps18;by_cases hz:c.length=0
 .have F:((c.length:Int)==0)=true:=D2 hz
  clear hz;go_wp2_with fail;refine(Km _ o _ (by decide)).aj ?_;rintro e Q ⟨t,rfl,L,r⟩;go_wp2;go_ret;exact⟨t,rfl,λ_=>L,f.ah (r.aj f.size)⟩
 .have F:((c.length:Int)==0)=false:=D2 hz
  have P:=LD j c.length H;have m:j.toNat%c.length<c.length:=Nat.mod_lt _ (by omega);obtain⟨b,M,rfl,r,I⟩:=K.at m;generalize j.toNat%c.length=i at *
  have J:=Zv m;obtain⟨N,_⟩:=I i _ J;have G:Hid (c[i]∈c):=getElem_mem m;generalize c[i]=x at *
  go_wp2;go_quiet (fail);go_wp2;go_ret;exact⟨x.sum,rfl,λh=>h x G,⟨f.os,f.tape,f.output,f.size,f.block⟩⟩
theorem Kn(s z h B:Int)(C u:Zi)(A k f c:Int)(a p l:Zk)(o m y v t:Nat)(d:Dv)(w:Zh)(F:AS w w.1.size l d)(E:0<=h)(I:h<=1000)(K:d.length<=1048576):
 D8 19 #[.agg #[Zg s,C4 C,Zg z,C4 u,Zg h,Zg B],.agg (Yg A k f c a o m p y v l d.length t)] w λe g=>∃n,e=C5 (Zg n)/\Zz w g:=by
 have g:Below w.1.size w ((w.alloc (.cells #[Zg s,C4 C,Zg z,C4 u,Zg h,Zg B] 51)).alloc (.cells (Yg A k f c a o m p y v l d.length t) 27)):=(Zy).alloc Yu _;go_enter func19,ntmps19;by_cases hz:d.length=0
 .have D:((d.length:Int)==0)=true:=D2 hz
  clear hz;go_wp2;go_ret;exact⟨_,rfl,g⟩
 .have D:((d.length:Int)==0)=false:=D2 hz
  have L:=LD h d.length E;have j:h.toNat%d.length<d.length:=Nat.mod_lt _ Yv;clear hz;obtain⟨b,G,rfl,J,q⟩:=F.at j;generalize h.toNat%d.length=i at *
  have r:=Zv j;obtain⟨H,_⟩:=q i _ r;generalize d[i]=x at *
  clear q r;go_wp2;go_quiet (fail);go_wp2;go_ret;exact⟨x.G,rfl,⟨g.os,g.tape,g.output,g.size,g.block⟩⟩
theorem Vb{b:Zh}{g c:Nat}{a:Zl}{u1 u2 u3:D4}(d:Zz w b)(e:b.ownsRow n 9 1 (Yz g a.length c) a.length (a.map string))(f:w.1.size+4<=n):
 (((b.setCell (Zd (w.1.size+1+1+1) 1) u1).setCell (Zd (w.1.size+1+1) 0) u2).setCell (Zd (w.1.size+1+1) 1) u3).ownsRow w.1.size 9 1 (Yz g a.length c) a.length (a.map string)/\Zz w (((b.setCell (Zd (w.1.size+1+1+1) 1) u1).setCell (Zd (w.1.size+1+1) 0) u2).setCell (Zd (w.1.size+1+1) 1) u3):=by
 have t:Tn [w.1.size+1+1+1,w.1.size+1+1] b (((b.setCell (Zd (w.1.size+1+1+1) 1) u1).setCell (Zd (w.1.size+1+1) 0) u2).setCell (Zd (w.1.size+1+1) 1) u3):=((Tn.set _ _ _ _ Yu).ah (Tn.set _ _ _ _ Yu)).ah (Tn.set _ _ _ _ Yu);exact⟨(Gr e t Yt).aj Yv,d.ah (t.A d.size Yt)⟩
theorem Ko(P t r Y:Int)(y S:Zi)(V D n m:Int)(a p l:Zk)(N U T R Q:Nat)(f:Dj)(w:Zh)(G:AW w w.1.size a f)(h0:0<=r)(h1:r<=1000)(zJ:0<=t)(zK:t<=1000)(hl:f.length<=1048576):
 D8 20 #[.agg #[Zg P,C4 y,Zg t,C4 S,Zg r,Zg Y],.agg #[Zg V,Zg D,Zg n,Zg m,C3 a f.length N,C3 p U T,C3 l R Q]] w λe o=>∃(g c:Nat) (d:Zl),e=C5 (.agg #[C4 y,C3 (some ⟨g,0,none⟩) d.length c])/\o.ownsRow w.1.size 9 1 (C3 (some ⟨g,0,none⟩) d.length c) d.length (d.map string)/\d.length<=4/\((d.length:Int)<=t/2/\∀s∈d,∃k∈f,k.sum=s)/\Zz w o:=by
 have⟨i0,hi,zC,zE,zF⟩:=info_parts CC;have⟨W,o⟩:=Ae ((((w.alloc (.cells #[Zg P,C4 y,Zg t,C4 S,Zg r,Zg Y] 51)).alloc (.cells #[Zg V,Zg D,Zg n,Zg m,C3 a f.length N,C3 p U T,C3 l R Q] 27)).alloc (.cells #[Zc,Zb] 30)).alloc (.cells #[C4 y,Zb] 30));have⟨bW,H,A,E,C,F⟩:=ZR o
 have B:Hid (∀X,Zz W X->Aa X w.1.size [Zg P,C4 y,Zg t,C4 S,Zg r,Zg Y]/\Aa X (w.1.size+1) [Zg V,Zg D,Zg n,Zg m,C3 a f.length N,C3 p U T,C3 l R Q]/\Aa X (w.1.size+1+1) [Zc,Zb]/\Aa X (w.1.size+1+1+1) [C4 y,Zb]/\Zz w X):=λX q=>⟨Aa.A A q,Aa.A E q,Aa.A C q,Aa.A F q,bW.ah (q.aj bW.size)⟩;have M:Hid (W.1.size=w.1.size+4):=H
 have z:(W.alloc (.cells #[] 9)).ownsRow W.1.size 9 1 (C3 (some ⟨W.1.size,0,none⟩) 0 0) 0 (([]:Zl).map string):=ownsRow_lit W #[] 0 (by omega) (by unfold maxLen;omega) rfl;have L:Hid ((W.alloc (.cells #[] 9)).ownsRow W.1.size 9 1 (C3 (some ⟨W.1.size,0,none⟩) ([]:Zl).length 0) ([]:Zl).length (([]:Zl).map string)):=z;have q:Hid _:=o;clear o A E C F H z
 go_enter func20,ntmps20;go_upto_region 2 with fail;rw[<-q.o];clear q;obtain⟨Z,_⟩:=(B (W.alloc (.cells #[] 9)) (Zy)).2.1 4 _ rfl;go_upto_region 3 with fail;by_cases hz:f.length=0
 case' neg=>
  have K:0<f.length:=by omega
  clear hz;go_wp2
  go_loopw [6,7] (λq k wr=>∃(j g c:Nat) (d:Zl),k=Zg j/\((j:Int)<=t/2/\j<=4)/\q=C3 (some ⟨g,0,none⟩) d.length c/\d.length=j/\Hid (wr.ownsRow W.1.size 9 1 (C3 (some ⟨g,0,none⟩) d.length c) d.length (d.map string)/\Zz W wr/\∀s∈d,∃k∈f,k.sum=s)) (λ_ k _=>4 -(intOf k).toNat)
  case atStart=>exact⟨0,W.1.size,0,[],rfl,by omega,rfl,rfl,L,Zy,by simp⟩
  case' round=>
   obtain⟨j,g,c,d,rfl,hj,rfl,rfl,z⟩:=hrel;have o:=(B wr z.2.1);obtain⟨z2,_⟩:=o.1 2 _ rfl;by_cases hc1:(d.length:Int)<t/2
   case' pos=>
    by_cases hc2:d.length<4
    case' pos=>
     have zH:d.length<=3:=by omega
     have zB:¬f.length=0:=by omega
     have zI:((f.length:Int)==0)=false:=D2 zB
     have hm:=LD (r+5 *(d.length:Int)) f.length (by omega);have C:(r+5 *(d.length:Int)).toNat%f.length<f.length:=Nat.mod_lt _ K;have e1:IntKind.i64.wrap (5 *(d.length:Int))=5 *(d.length:Int):=BM (by omega) (by omega);have e2:IntKind.i64.wrap (r+5 *(d.length:Int))=r+5 *(d.length:Int):=BM (by omega) (by omega);obtain⟨b,zM,rfl,hb,A⟩:=(AW.A G o.2.2.2.2).at C
     have zG:b<wr.1.size:=Zr hb o.2.2.2.2.size;generalize (r+5 *(d.length:Int)).toNat%f.length=i at *
     have E:=Zv C;obtain⟨X,_⟩:=A i _ E;have J:Hid (f[i]∈f):=getElem_mem C;generalize f[i]=x at *
     obtain⟨Z,_⟩:=o.2.1 4 _ rfl;obtain⟨z4,_⟩:=o.1 4 _ rfl;have F:=z.1;have zA:=F.lt g rfl;have q:Hid (wr.ownsRow W.1.size 9 1 (C3 (some ⟨g,0,none⟩) d.length c) d.length (d.map string)/\Zz W wr/\∀s∈d,∃k∈f,k.sum=s):=z;clear A E o F z G;go_upto_region 7 with fail
     go_region_law (first
      |(refine step_append_lies (wr.drew.alloc (.cells #[C4 x.sum] 9)) (by rfl) (.tmp 27) (.tmp 42) 28 (by rfl) W.1.size 9 i0 Zc 1 16 underlying28 hi zC zE zF rfl (by decide) (C3 (some ⟨g,0,none⟩) d.length c) d.length (d.map string) (by rfl) (by exact q.1.alloc _) ⟨wr.1.size,0,none⟩ 1 1 [C4 x.sum] (by rfl) rfl (by exact cell_one_new wr.drew _ 9) (λu A=>by simp at A;subst A;rfl) (by omega) (by unfold maxLen;omega) (by omega) (by have:=q.2.1.size;simp;omega) _ rfl ?_;intro u A w4 I H E F))
     all_goals
      have HN:Hid (w4.ownsRow W.1.size 9 1 (C3 (some ⟨u,0,none⟩) (d++[x.sum]).length A) (d++[x.sum]).length ((d++[x.sum]).map string)/\Zz W w4/\∀s∈d++[x.sum],∃k∈f,k.sum=s):=by
       refine⟨D2 I,((q.2.1.drew.alloc q.2.1.size _).grown H (by have:=q.2.1.size;simp;omega) (λk G=>by cases G;exact zA.1)),λs O=> ?_⟩;rcases A7.1 O with h|h
       .exact q.2.2 s h
       .exact⟨x,J,(mem_singleton.1 h).symm⟩
      clear I H E F q B M L J X Z z4 z2 hm e1 e2;go_wp2;exact⟨⟨d.length+1,u,A,d++[x.sum],by go_num,by omega,by simp,by simp,HN⟩,by simp[intOf];omega⟩
   all_goals
    clear o;have o:Hid (Zz W wr/\∀s∈d,∃k∈f,k.sum=s):=z.2;go_wp2_with fail;refine(LR (some ⟨g,0,none⟩) c d wr (Af.own z.1) (by omega)).aj ?_;clear z
 case' pos=>
  have K:¬0<f.length:=by omega
  have hj:((([]:Zl).length:Nat):Int)<=t/2/\([]:Zl).length<=4:=by simp;omega
  have o:Hid (Zz W (W.alloc (.cells #[] 9))/\∀s∈([]:Zl),∃k∈f,k.sum=s):=⟨Zy,by simp⟩;clear hz;go_wp2_with fail;refine(LR (some ⟨W.1.size,0,none⟩) 0 [] _ (Af.own L) (by simp)).aj ?_;generalize ([]:Zl)=d at *
  generalize W.alloc (.cells #[] 9)=wr at *
 all_goals
  rintro e X ⟨F,E,rfl,J,I⟩;have z:=o.1.ah (I.aj o.1.size);have Z:Hid _:=Vb (u1:=C3 (some ⟨F,0,none⟩) (Cs d).length E) (u2:=C4 y) (u3:=C3 (some ⟨F,0,none⟩) (Cs d).length E) (B X z).2.2.2.2 J (by have:=M.o;have:=o.1.size;omega);have H:Hid ((Cs d).length<=4/\(((Cs d).length:Int)<=t/2/\∀s∈Cs d,∃k∈f,k.sum=s)):=by have:=JC d;exact⟨by omega,by omega,λs O=>o.2 s (TZ O)⟩
  have q:Hid _:=B X z;obtain⟨⟨r0,_⟩,O,_⟩:=Zn (q.2.2.1 0 _ rfl) (q.2.2.1 1 _ rfl);obtain⟨⟨k,_⟩,s,_⟩:=Zn (q.2.2.2.1 0 _ rfl) (q.2.2.2.1 1 _ rfl);clear B M q o z I J;go_wp2;exact C0 (.agg #[C4 y,C3 (some ⟨F,0,none⟩) (Cs d).length E]) (by simp[results,results20,go_sem,r0,O]) ⟨F,E,_,rfl,Z.1,H.1,H.2,Z.2⟩
section
def rz:Rs:=⟨⟨#[]⟩,0,0,0,0,[],[],[]⟩
def AR(wd now given births:Int)(ks:List Kd)(ps:List Pd)(ls:List Ld)(kd:Int)(s nm:Zi)(num:Int)(text:Zi)(refs:Zl)(c0 wd':Int)(r:Rs)(a b:Zi):Prop:=
 (¬(AJ wd now given births ks ps ls/\Bp kd s nm num text refs wd=true)/\c0=1/\wd'=0/\r=rz/\a=⟨#[]⟩/\b=⟨#[]⟩)\/
 ((AJ wd now given births ks ps ls/\Bp kd s nm num text refs wd=true)/\((Ep wd now given births ks ps ls kd s nm num text refs c0 a b/\wd'=0/\r=rz)\/(BP wd now given births ks ps ls kd s nm num text refs r/\c0=0/\wd'=wd/\a=⟨#[]⟩/\b=⟨#[]⟩)))
theorem AR.gj{z:Int}{v:Dv}{w:Zi}{g:Zi}{p gm:Int}{y:Rs}{a m n:Zi}(h:AR z i d c u x v t s w j g f o k r a b)(e:AR z i d c u x v t s w j g f p gm y m n):o=p/\k=gm/\r=y/\a=m/\b=n:=by
 rcases h with⟨D,rfl,rfl,rfl,rfl,rfl⟩|⟨q,h⟩<;>rcases e with⟨hn1,rfl,rfl,rfl,rfl,rfl⟩|⟨ho1,e⟩
 .exact⟨rfl,rfl,rfl,rfl,rfl⟩
 .exact absurd ho1 D
 .exact absurd q hn1
 .have l:=q.1.bt.nd;rcases h with⟨h,rfl,rfl⟩|⟨h,rfl,rfl,rfl,rfl⟩<;>rcases e with⟨e,rfl,rfl⟩|⟨e,rfl,rfl,rfl,rfl⟩
  .obtain⟨A,B,C⟩:=Ep.gj l h e;exact⟨A,rfl,rfl,B,C⟩
  .exact(Ep.not l h e).elim
  .exact(Ep.not l e h).elim
  .exact⟨rfl,rfl,BP.gj h e,rfl,rfl⟩
theorem Ke.ar{u n f:Int}{y:Dj}{B:Dy}{z:Dv}{x:Int}{A:Zi}{i:Zi}{g:Zl}{m:Zh}{e:Ending}(h:Ke u n f d y B z x s A o i g w e m):∃(c0 wd':Int) (r:Rs) (xa:Zk) (xc:Nat) (l:Zk) (t:Nat) (k:Zk) (q:Nat) (a b:Zi),e=C5 (.agg #[Zg c0,Zg wd',Zg r.D,Zg r.F,Zg r.C,C3 xa r.ks.length xc,C3 l r.ps.length t,C3 k r.ls.length q,C4 r.j,Zg r.le,C4 a,C4 b])/\AR u n f d y B z x s A o i g c0 wd' r a b/\Bx m m.1.size xa l k r.ks r.ps r.ls/\Zz w m:=by
 obtain⟨p,h⟩:=h;rcases h with⟨D,rfl⟩|⟨v,⟨c,a,b,C,rfl⟩|⟨r,T,P,L,H,E,rfl,j⟩⟩
 .exact⟨1,0,rz,none,0,none,0,none,0,⟨#[]⟩,⟨#[]⟩,rfl,.inl ⟨D,rfl,rfl,rfl,rfl,rfl⟩,⟨.inl rfl,.inl rfl,.inl rfl⟩,p⟩
 .exact⟨c,0,rz,none,0,none,0,none,0,a,b,rfl,.inr ⟨v,.inl ⟨C,rfl,rfl⟩⟩,⟨.inl rfl,.inl rfl,.inl rfl⟩,p⟩
 .obtain⟨F,G,rfl⟩:=Aq j.ak;obtain⟨l,t,rfl⟩:=Aq j.pins;obtain⟨k,q,rfl⟩:=Aq j.au;exact⟨0,u,r,F,G,l,t,k,q,⟨#[]⟩,⟨#[]⟩,rfl,.inr ⟨v,.inr ⟨E,rfl,rfl,rfl,rfl⟩⟩,j.get,p⟩
theorem AR.small{x:Int}{t:Dj}{w:Dy}{u:Dv}{q:Int}{v:Zi}{m:Int}{g:Zi}{n:Int}{a:Zi}(h:AR x l d c t w u q s v m g f o n r a b):r.ks.length<=600/\r.ps.length<=100/\r.ls.length<=200/\∀k∈r.ks,k.B.length<=30:=by
 have j:rz.ks.length<=600/\rz.ps.length<=100/\rz.ls.length<=200/\∀k∈rz.ks,k.B.length<=30:=by simp[rz]
 rcases h with⟨_,_,_,rfl,_⟩|⟨i,⟨_,_,rfl⟩|⟨p,_⟩⟩
 .exact j
 .exact j
 .have e:=BP.fits i.1 i.2 p;exact⟨e.nk,e.np,e.nl,e.B⟩
theorem AJ.all{s w m:Int}{o:Dj}{C:Dy}{B:Dv}(h:AJ s w m g o C B):FN s w m g o C B/\RX s g o C B/\SX s w o C B:=by
 have f:∀{A:Type} {l:List A} {P:A->Prop},(∀(i:Nat) x,l[i]?=some x->P x)->∀x∈l,P x:=λh x F=>by have⟨i,d⟩:=A5 F;exact h i x d
 have n:=h.bt;have v:∀{t},Am o t->(t.size:Int)=s:=λ⟨u,E,e⟩=>by rw[<-e];exact n.sz u E
 refine⟨⟨n,h.bn.gm,h.np,h.nl,Ik (R:=λ(a b:Pd)=>less a.name b.name=true) (λa b c G H=>BV G H) (λj p q z D=>(h.cj (j+1) q D).up j p rfl z),Ik (R:=λ(a b:Ld)=>a.G<b.G) (λa b c G H=>Yv) (λj p q z D=>(h.bu (j+1) q D).up j p rfl z),h.bn.ct,h.bn.ic,h.bn.bh,h.bn.gg,h.bn.ai,h.bn.ff,λk n=>(h.ak k n).J,λk n=>(h.ak k n).B,f λi x d=>(h.bu i x d).hi⟩,⟨f λi x d=>⟨(h.born i x d).lo,(h.born i x d).hi⟩,λx F y D e=> ?_,f λi x d r G=> ?_,f λi x d=>v (h.cj i x d).sum,f λi x d=>v (h.bu i x d).sum⟩,f λi x d=>(h.th i x d).sum,f λi x d=>h.ref i x d,f λi x d=>⟨(h.cj i x d).name,(h.cj i x d).sum⟩,f λi x d=>⟨(h.bu i x d).lo,(h.bu i x d).sum,(h.bu i x d).ir,(h.bu i x d).ix⟩⟩
 .obtain⟨i,d⟩:=A5 F;have⟨j,z⟩:=A5 D;rcases Nat.lt_trichotomy i j with D|rfl|D
  .exact absurd e ((h.born j y z).new i x D d)
  .rw[d]at z;exact A4 z
  .exact absurd e.symm ((h.born i x d).new j y D z)
 .obtain⟨u,E,e,_⟩:=h.ref i x d r G;exact v ⟨u,E,e⟩
theorem BP.valid{f b a:Int}{v:Dv}{w:Zi}{d:Zi}{c:Zl}(h:AJ f g b a u x v)(k:Bp t s w i d c f=true)(e:BP f g b a u x v t s w i d c r):AJ f r.D r.F r.C r.ks r.ps r.ls/\Oc r.ks r.ps r.ls:=by have⟨j,m,y⟩:=h.all;have l:=j.step k e;have q:=m.step j e;have o:=h.tok.step k e;have n:=y.step m j k e;exact⟨Tt l q o n h.bn.ib,(Ql l q (λp A=>by have z:=(n.pn p A).1;simp[Ck]at z;omega) h.bn.ib).w (Qq o l.bt.sz)⟩
theorem Abj{f:Zi}{e:Int}{a:Zl}(d:Bp 1 s f e b a g=true):s=⟨#[]⟩:=by unfold Bp at d;simp only[Bool.and_eq_true,decide_eq_true_eq]at d;have c:=d.2;unfold CI at c;simp[DJ,DF]at c;exact c.2.1
theorem BP.holds{n:Dj}{v:Dy}{o:Dv}{t:Zi}{a:Zl}(h:AJ g k d c n v o)(p:Bp j s t l b a g=true)(q:BP g k d c n v o j s t l b a r)(B:j=1\/j=4):Am r.ks (s++r.j)/\∃L,holdLA g r.D r.F r.C r.ks r.ps r.ls (s++r.j)=L++[r.le]:=by
 have z:=(BP.valid h p q).1;have f:∀{x:Zi} {m u:Int},Am r.ks x->r.ls=o++[⟨m,x,u⟩]->Am r.ks x/\∃L,holdLA g r.D r.F r.C r.ks r.ps r.ls x=L++[m]:=λ{x m u} i hl=>by refine⟨i,?_⟩;unfold holdLA;rw[if_pos ⟨z,i⟩];unfold holdL;rw[hl,filter_append,map_append];exact⟨_,congrArg _ (by simp[Reach.here])⟩
 rcases q with⟨rfl,_,_,_,w,A,y,rfl⟩|⟨rfl,_⟩|⟨rfl,_⟩|⟨rfl,i,_,_,rfl⟩|⟨rfl,_⟩|⟨rfl,_⟩|⟨rfl,_⟩
 .have e:s++AX b a g=AX b a g:=by rw[Abj p];exact ByteArray.ext Yu
  show Am w (s++AX b a g)/\_;rw[e];exact f y.there rfl
 .omega
 .omega
 .have e:s++(⟨#[]⟩:Zi)=s:=ByteArray.ext Yu;show Am n (s++⟨#[]⟩)/\_;rw[e];exact f i rfl
 .omega
 .omega
 .omega
theorem BP.pinned{b a:Int}{l:Dj}{n:Dy}{m:Dv}{f:Zi}{e:Zi}{d:Zl}(h:AJ g i b a l n m)(o:Bp 2 s f j e d g=true)(k:BP g i b a l n m 2 s f j e d r):f∈holdPA g r.D r.F r.C r.ks r.ps r.ls s:=by
 have q:=(BP.valid h o k).1;rcases k with⟨c,_⟩|⟨_,p,_,rfl⟩|⟨c,_⟩|⟨c,_⟩|⟨c,_⟩|⟨c,_⟩|⟨c,_⟩
 .cases c
 .unfold holdPA;rw[if_pos ⟨q,p⟩];exact mem_map.2 ⟨⟨f,s⟩,Bb.2 ⟨by simp[Bh],by simp[Reach.here]⟩,rfl⟩
 all_goals cases c
theorem BP.dropped{n a:Int}{d:Dj}{m:Dy}{l:Dv}{w:Zi}{g:Zi}(h:AJ n j c a d m l)(t:BP n j c a d m l 7 s w o g f r):¬Am r.ks s/\r.ks.length+1=d.length:=by
 rcases t with⟨b,_⟩|⟨b,_⟩|⟨b,_⟩|⟨b,_⟩|⟨b,_⟩|⟨b,_⟩|⟨_,⟨u,q,rfl⟩,_,rfl⟩
 .cases b
 .cases b
 .cases b
 .cases b
 .cases b
 .cases b
 .obtain⟨i,k⟩:=A5 q;refine⟨λ⟨v,hv,e⟩=>by have:=(Bb.1 hv).2;simp at this;exact this e,?_⟩;show(CJ d u.sum).length+1=_;have p:=(Zw k).1;rw[KP h.bt.nd k,length_eraseIdx_of_lt p];omega
theorem Ep.three{m:Int}{o:Dj}{p:Dv}{w:Int}{x:Zi}{l:Zi}{j:Zl}(h:AJ g m d c o q p){a:Zi}(n:Ep g m d c o q p w s x t l j 3 a b):a≠b/\a.size<=maxLen/\b.size<=maxLen/\CD a.data.toList g.toNat=CD b.data.toList g.toNat:=by
 rcases n with⟨_,⟨_,f,_⟩|⟨_,⟨k,v,e,r,_,rfl,rfl⟩|⟨_,_,f,_⟩|⟨_,_,f,_⟩⟩⟩|⟨_,_,n⟩
 .cases f
 .refine⟨r,Dl _ _ _,Dl _ _ _,?_⟩;have⟨i,u⟩:=A5 v;exact(h.th i k u).sum.symm.ah e
 .cases f
 .cases f
 .omega
theorem Ep.six{r e:Int}{j:Dj}{o:Dv}{n:Int}{p:Zi}{m:Int}{g:Zi}{a:Zi}(i:Ep r l e d j q o n s p m g f 6 a b):Am j s:=by
 rcases i with⟨_,⟨_,c,_⟩|⟨_,⟨k,_,_,_,c,_⟩|⟨_,_,c,_⟩|⟨_,_,c,_⟩⟩⟩|⟨_,_,i⟩
 .cases c
 .cases c
 .cases c
 .cases c
 .rcases i with⟨_,⟨_,c⟩|⟨_,_,_,c⟩⟩|⟨_,_,c⟩|⟨_,⟨_,c⟩|⟨_,_,c⟩⟩|⟨_,_,c⟩|⟨_,_,c⟩|⟨_,⟨_,c⟩|⟨h,_⟩⟩
  all_goals first|cases c|exact h
theorem LF(g c b a:Int)(f:Dj)(e:Dy)(d:Dv)(s:Zi):(holdPA g c b a f e d s).length<=e.length/\(holdLA g c b a f e d s).length<=d.length:=by
 unfold holdPA holdLA;constructor
 all_goals
  split
  .first|exact Zm (Nat.le_of_eq (A9 _)) (length_filter_le _ _)
  .exact Az _
