import Derived.Test.YtdofmfnmackjhaaGreatDoorX29
set_option maxRecDepth 100000
set_option maxHeartbeats 16000000
namespace Go.Proofs.YtdofmfnmackjhaaGreatDoor
open ChangeShapes WideShapes ChangeAt RowKit _root_.Go.Proofs.Tryz List World Value
variable{X:Zh}{S U T P L Q M:Value}{u:Vd}{b:Nat}
def Qi(v:Vd)(l:Zl):Vd:={v with ss:=l,E:=[]}
theorem AM.flushed{c n:Nat}{u:D4}{f:Zj}{v:Vd}{l:Zl}(h:AM X c S U T P L Q M f v)(i:∀g∈DZ S U T P L Q M f,g<n)(j:Ar X n u l)(o:c<=n):AM X c u Zb T P L Q M f (Qi v l):=by
 refine⟨j.aj o,Ar.nil _ _,h.R,h.q,h.m,?_⟩;have d:=h.nd;unfold DZ at d i |-;have e:(Ap Zb).toList=[]:=rfl;rw[e,append_nil];refine nodup_append.2 ⟨?_,(nodup_append.1 d).2.1,λa m b k e=> ?_⟩
 .cases Ap u<;>simp
 .have p:=(j.g (A8.1 m)).1;have m:=i b (A7.2 (.inr k));omega
theorem Tr(v:Vd)(p q s t:D4)(R:Zj)(l:Zl)(w:Zh)(C:R.length=13)(B:∀X,Zz w X->D8 133 #[.agg (p::q::s::t::R).toArray] X λe c=>Ay (CB v) X c e)(m:CB v->∀X,Zz w X->D8 134 #[.agg (p::q::s::t::R).toArray] X λe c=>∃(S U T P L Q M:D4) (A:Zj),e=C5 (.agg (Bw v S U T P L Q M).toArray)/\AM c X.1.size S U T P L Q M A v/\Zz X c)(y:CB v->∀X,Zz w X->D8 135 #[.agg #[s,t]] X λe c=>∃u,e=C5 (.agg #[u,Zb])/\c.ownsRow X.1.size 9 1 u l.length (l.map string)/\Zz X c):
 D8 113 #[.agg (p::q::s::t::R).toArray] w λe c=>∃(u:Vd) (S U T P L Q M:D4) (A:Zj),(¬CB v/\u=v0\/CB v/\u=Qi v l)/\e=C5 (.agg (Bw u S U T P L Q M).toArray)/\AM c w.1.size S U T P L Q M A u/\Zz w c:=by
 have⟨W,c⟩:=Ae ((w.alloc (.cells (p::q::s::t::R).toArray 100)).alloc (.cells Xp 100));have d:=(Bi c).1;have zW:=(Bi c).2.1;have i:Hid (Aa W w.1.size (p::q::s::t::R)):=(Bi c).2.2.1;have r:Hid (Aa W (w.1.size+1) BU):=(Bi (k:=BU) c).2.2.2;have zB:Hid ((p::q::s::t::R).length=17):=by show(p::q::s::t::R).length=17;simp[C]
 have j:=Yw B;have HC:=Yw m;have HS:=Yw y;have f:=Yw c;clear c B m y C;go_enter func113,ntmps113;go_upto_region 1 with fail;rw[<-f.o];clear f;go_wp2_with (refine wpList_load_mid rfl 100 _ rfl w.1.size 0 rfl (p::q::s::t::R) _ i.range underlying100 rfl (by rw[zB.o];kernel_rfl) ?_);refine(j W d).aj ?_;rintro e y ⟨o,rfl,f,c⟩;have z1:=c.size
 have N:Hid (Aa y w.1.size (p::q::s::t::R)):=Aa.A i c;have m:Hid (Aa y (w.1.size+1) BU):=Aa.A (v:=Ze) r c;have B:Hid (Zz w y):=d.ah (c.aj d.size);clear c j i r d;cases o with
 |false=>
  have zI:Hid (¬CB v):=λh=>by have:=f.2 h;cases this
  clear f HC HS;have c:BU.toArray.all (·.oneCell')=true:=by simp[BU,oneCell']
  have zA:=Yw (Zn c m.there);have⟨W9,d⟩:=Ae (y.setCells (w.1.size+1) 0 BU);have x9:Aa W9 (w.1.size+1) BU:=by rw[d];exact m.ay _ rfl
  have b9:Below w.1.size w W9:=B.ah (by rw[d];exact(AV _ _ _ _).A B.size Yu);have zK:=Yw d;clear c d;go_wp2_with (refine wpList_store_mid rfl 100 _ _ rfl (w.1.size+1) 0 Xp rfl rfl zA.2 Yr zA.1 ?_);change bodyPost _ _ _ _ _ (y.setCells (w.1.size+1) 0 BU);rw[<-zK.o]
  refine bodyPost_ret (AY results113 _ _ (w.1.size+1) BU _ rfl x9.range underlying100 rfl Yr) rfl ?_;exact⟨v0,_,_,_,_,_,_,_,[],.inl ⟨zI,rfl⟩,rfl,AM.nil _ _,b9⟩
 |true=>
  have C:Hid (CB v):=f.1 rfl;clear f;go_wp2_with (refine wpList_load_mid rfl 100 _ rfl w.1.size 0 rfl (p::q::s::t::R) _ N.range underlying100 rfl (by rw[zB.o];kernel_rfl) ?_);refine(HC C y B).aj ?_;rintro e i ⟨S,U,T,P,L,Q,M,A,rfl,G,K⟩;have⟨c,H⟩:∃c:Zj,c=[Zg v.O,Zg v.D,Zg v.F,Zg v.C,T,P,L,Zg v.M,Q,M,Zg v.U,Zg v.V,Zg v.ro]:=⟨_,rfl⟩
  have eR:Bw v S U T P L Q M=(Zg v.wd::Zg v.lim::S::U::c):=by rw[H];rfl
  have j:(Zg v.wd::Zg v.lim::S::U::c).length=17:=by rw[H];rfl
  have F:∀x∈(Zg v.wd::Zg v.lim::S::U::c),x.oneCell'=true:=by have⟨a,h,_⟩:=G.jr;rw[<-eR,h];simp[Bw,oneCell']
  have o:Hid (∀g∈DZ S U T P L Q M A,g<i.1.size):=G.dj;have zJ:Hid (∀d f,Bw (Qi v l) (C1 d l f) Zb T P L Q M=(Zg v.wd::Zg v.lim:: C1 d l f::Zb::c)):=λd f=>by rw[H];rfl
  rw[eR];have z2:=K.size;have⟨r,b⟩:=Ae ((i.alloc (.cells Xp 100)).setCells i.1.size 0 (Zg v.wd::Zg v.lim::S::U::c).toArray.toList);have O:=boxed (X:=i) (cs:=(Zg v.wd::Zg v.lim::S::U::c)) (z:=BU) (T:=100) (by rw[j];rfl);have e3:r=(i.alloc (.cells BU.toArray 100)).setCells i.1.size 0 (Zg v.wd::Zg v.lim::S::U::c):=b;rw[<-e3]at O;obtain⟨x3,b3,z3⟩:=O
  have D:Hid ((i.alloc (.cells Xp 100)).there i.1.size 0 (Zg v.wd::Zg v.lim::S::U::c).toArray.size/\(Zg v.wd::Zg v.lim::S::U::c).length=17/\∀x∈(Zg v.wd::Zg v.lim::S::U::c),x.oneCell'=true):=⟨by rw[show(Zg v.wd::Zg v.lim::S::U::c).toArray.size=17 from by rw[A1];exact j];exact(Aa.new i BU 100).there,j,F⟩;have Y:=Yw b;have E:Below y.1.size y r:=K.ah (b3.aj K.size)
  have V:Hid (Aa r w.1.size (p::q::s::t::R)):=Aa.A N E;have zC:Hid (Aa r (w.1.size+1) BU):=Aa.A (v:=Ze) m E;have I:Hid (Zz w r):=B.ah (E.aj B.size);have Z:Hid (AM r y.1.size S U T P L Q M A v):=G.A b3;have J:=Yw x3;clear b e3 x3 b3 E G K eR j F H N m HC
  go_upto_region 4 with(refine wpList_store_mid rfl 100 _ _ rfl i.1.size 0 (Zg v.wd::Zg v.lim::S::U::c).toArray rfl rfl D.1 (by rw[A1,D.2.1];kernel_rfl) (all_oneCell_toArray D.2.2) ?_);rw[<-Y.o];clear Y;obtain⟨y2,_⟩:=V 2 _ rfl;obtain⟨y3,_⟩:=V 3 _ rfl;go_wp2_with fail;refine(HS C r I).aj ?_;rintro e w4 ⟨u,rfl,Y,m⟩;obtain⟨d,f,rfl,_⟩:=(Ar.own Y).row;have z4:=m.size
  clear y2 y3 HS V;have⟨G,K⟩:=Ae ((w4.setCell (Zd (i.1.size) 2) (C1 d l f)).setCell (Zd (i.1.size) 3) Zb);have t5:Tn [i.1.size] w4 G:=by rw[K];exact(Tn.set _ _ _ _ Yu).ah (Tn.set _ _ _ _ Yu)
  have zN:Hid (Aa G i.1.size (Zg v.wd::Zg v.lim:: C1 d l f::Zb::c)):=by show Aa G i.1.size (Zg v.wd::Zg v.lim:: C1 d l f::Zb::c);rw[K];exact((Aa.A J m).set 2 (C1 d l f)).set 3 Zb
  have z5:=t5.size;have zE:Hid (Aa G (w.1.size+1) BU):=Aa.same (Aa.A (v:=Ze) zC m) (t5.block _ Yv Yt);have j:(Zg v.wd::Zg v.lim:: C1 d l f::Zb::c).length=17:=D2 D.2.1
  have F:∀x∈(Zg v.wd::Zg v.lim:: C1 d l f::Zb::c),x.oneCell'=true:=λx hx=>by
   have h1:=D.2.2 x;simp only[Bv]at hx h1;rcases hx with rfl|rfl|rfl|rfl|hx
   .rfl
   .rfl
   .rfl
   .rfl
   .exact h1 (.inr (.inr (.inr (.inr hx))))
  have⟨H,N⟩:=Ae (G.setCells (w.1.size+1) 0 (Zg v.wd::Zg v.lim:: C1 d l f::Zb::c).toArray.toList);have t6:Tn [(w.1.size+1)] G H:=by rw[N];exact AV _ _ _ _
  have x6:Aa H (w.1.size+1) (Zg v.wd::Zg v.lim:: C1 d l f::Zb::c):=by rw[N];exact zE.ay _ (by rw[j];rfl)
  have V:Tn [i.1.size,(w.1.size+1)] w4 H:=(t5.aj Yu).ah (t6.aj Yu);have X:AM H y.1.size S U T P L Q M A v:=(Z.A m).stays V (λg hg E=>by have h1:=Z.lo g E;have h2:=o g E;simp at hg;omega);have zF:Ar H r.1.size (C1 d l f) l:=Ar.own (Gr Y V (λb O=>by simp at O;omega))
  have zG:Hid (AM H w.1.size (C1 d l f) Zb T P L Q M A (Qi v l)):=(X.flushed (n:=r.1.size) (λg hg=>Dz (o g hg)) zF Yv).aj (Dz B.size);have g:Below w.1.size w w4:=I.ah (m.aj I.size);have zH:Hid (Zz w H):=g.ah (V.A g.size (λb O=>by simp at O;omega))
  have E:Hid (G.there (w.1.size+1) 0 (Zg v.wd::Zg v.lim:: C1 d l f::Zb::c).toArray.size/\(Zg v.wd::Zg v.lim:: C1 d l f::Zb::c).length=17/\∀x∈(Zg v.wd::Zg v.lim:: C1 d l f::Zb::c),x.oneCell'=true):=⟨by rw[show(Zg v.wd::Zg v.lim:: C1 d l f::Zb::c).toArray.size=17 from by rw[A1];exact j];exact zE.there,j,F⟩
  obtain⟨y2,f2⟩:=Aa.A J m 2 _ rfl;obtain⟨y3,f3⟩:=Aa.A J m 3 _ rfl;have b:=Yw K;have x:=Yw N;have zM:=Yw x6;clear K N x6 t5 t6 V X zF g F j Y m J Z zC I o;go_upto_region 5 with fail;rw[<-b.o];clear b y2 y3 f2 f3;go_wp2_with (first
   |refine wpList_load_mid rfl 100 _ rfl i.1.size 0 rfl (Zg v.wd::Zg v.lim:: C1 d l f::Zb::c) _ zN.range underlying100 rfl (by rw[E.2.1];kernel_rfl) ?_
   |refine wpList_store_mid rfl 100 _ _ rfl (w.1.size+1) 0 (Zg v.wd::Zg v.lim:: C1 d l f::Zb::c).toArray rfl rfl E.1 (by rw[A1,E.2.1];kernel_rfl) (all_oneCell_toArray E.2.2) ?_)
  rw[<-x.o];refine bodyPost_ret (AY results113 _ _ (w.1.size+1) (Zg v.wd::Zg v.lim:: C1 d l f::Zb::c) _ rfl (Aa.range zM) underlying100 rfl (by rw[E.2.1];kernel_rfl)) rfl ?_;exact⟨Qi v l,C1 d l f,Zb,T,P,L,Q,M,A,.inr ⟨C,rfl⟩,by rw[zJ.o],zG,zH⟩
def Acy(v:Vd)(To:Vd->Prop)(w:Zh)(e:Ending)(w':Zh):Prop:=∃(u:Vd) (S U T P L Q M:Value) (rs:Zj),(¬CB v/\u=v0\/CB v/\To u)/\e=.returned (.agg (Bw u S U T P L Q M).toArray)/\AM w' w.1.size S U T P L Q M rs u/\Zz w w'
def Jd(w:Zh)(To:Vd->Prop)(p:Value)(X:Zh):Prop:=
 ∃(b:Nat) (u:Vd) (S U T P L Q M:Value) (rs:Zj),p=.pointer (some ⟨b,0,none⟩)/\To u/\Aa X b (Bw u S U T P L Q M)/\Aa X (w.1.size+1) BU/\AM X (w.1.size+2) S U T P L Q M rs u/\Zz w X
theorem Jd.of{w:Zh}{c:Vd->Prop}{a:Zj}(k:c u)(d:Aa X b BU)(h:Aa X (w.1.size+1) BU)(i:AM X (w.1.size+2) S U T P L Q M a u)(j:b∉DZ S U T P L Q M a)(l:w.1.size+2<=b)(f:Zz w X):
 Jd w c (Yy b) (X.setCells b 0 (Bw u S U T P L Q M).toArray.toList):=by
 have t:=AV b (Bw u S U T P L Q M) 0 X;have m:=(d 0 _ rfl).1;refine⟨b,u,S,U,T,P,L,Q,M,a,rfl,k,d.ay _ rfl,Aa.same h (t.block _ h.lt Yt),i.stays t (λg e=>by simp at e;subst e;exact j),f.ah (t.A f.size Yt)⟩
theorem KB{c:Zj}(h:AM X b S U T P L Q M c u):∀x∈(Bw u S U T P L Q M),x.oneCell'=true:=by have⟨a,e,_⟩:=h.jr;rw[e];simp[Bw,oneCell']
theorem US(v:Vd)(s t:D4)(R:Zj)(k:Int)(l:Zl)(Z:Vd->Prop)(w:Zh)(z:R.length=13)(m:∀X,Zz w X->D8 133 #[.agg (Zg v.wd::Zg v.lim::s::t::R).toArray] X λe a=>Ay (CB v) X a e)(f:CB v->∀X,Zz w X->D8 136 #[.agg #[s,t],Zg k] X λe a=>∃u,e=C5 (.agg #[u,Zb])/\a.ownsRow X.1.size 9 1 u l.length (l.map string)/\Zz X a)(j:CB v->∀X u n,Zz w X->X.ownsRow n 9 1 u l.length (l.map string)->D8 85 #[Zg v.wd,Zg v.lim,.agg #[u,Zb]] X λe a=>∃(c:Int) (u:Vd) (S U T P L Q M:D4) (rs:Zj),Z u/\e=C5 (.tuple #[.agg (Bw u S U T P L Q M).toArray,Zg c])/\AM a X.1.size S U T P L Q M rs u/\Zz X a):
 D8 114 #[.agg (Zg v.wd::Zg v.lim::s::t::R).toArray,Zg k] w (Acy v Z w):=by
 have⟨W,a⟩:=Ae ((w.alloc (.cells (Zg v.wd::Zg v.lim::s::t::R).toArray 100)).alloc (.cells Xp 100));have i:=(Bi a).1;have zW:=(Bi a).2.1;have q:Hid (Aa W w.1.size (Zg v.wd::Zg v.lim::s::t::R)):=(Bi a).2.2.1;have y:Hid (Aa W (w.1.size+1) BU):=(Bi (k:=BU) a).2.2.2;have zH:Hid ((Zg v.wd::Zg v.lim::s::t::R).length=17):=by show(Zg v.wd::Zg v.lim::s::t::R).length=17;simp[z]
 have r:=Yw m;have HC:=Yw f;have HO:=Yw j;have d:=Yw a;clear a m f j z;go_enter func114,ntmps114;go_upto_region 1 with fail;rw[<-d.o];clear d;go_wp2_with (refine wpList_load_mid rfl 100 _ rfl w.1.size 0 rfl (Zg v.wd::Zg v.lim::s::t::R) _ q.range underlying100 rfl (by rw[zH.o];kernel_rfl) ?_);refine(r W i).aj ?_;rintro e a ⟨o,rfl,j,d⟩;have z1:=d.size
 have m:Hid (Aa a w.1.size (Zg v.wd::Zg v.lim::s::t::R)):=Aa.A q d;have f:Hid (Aa a (w.1.size+1) BU):=Aa.A (v:=Ze) y d;have zA:Hid (Zz w a):=i.ah (d.aj i.size);clear d r q y i;cases o with
 |false=>
  have zI:Hid (¬CB v):=λh=>by have:=j.2 h;cases this
  clear j HC HO;have d:BU.toArray.all (·.oneCell')=true:=by simp[BU,oneCell']
  have zC:=Yw (Zn d f.there);have⟨n,y⟩:=Ae (a.setCells (w.1.size+1) 0 BU);have x9:Aa n (w.1.size+1) BU:=by rw[y];exact f.ay _ rfl
  have b9:Below w.1.size w n:=zA.ah (by rw[y];exact(AV _ _ _ _).A zA.size Yu);have zB:=Yw y;clear d y;go_wp2_with (refine wpList_store_mid rfl 100 _ _ rfl (w.1.size+1) 0 Xp rfl rfl zC.2 Yr zC.1 ?_);change bodyPost _ _ _ _ _ (a.setCells (w.1.size+1) 0 BU);rw[<-zB.o]
  refine bodyPost_ret (AY results114 _ _ (w.1.size+1) BU _ rfl x9.range underlying100 rfl Yr) rfl ?_;exact⟨v0,_,_,_,_,_,_,_,[],.inl ⟨zI,rfl⟩,rfl,AM.nil _ _,b9⟩
 |true=>
  have r:Hid (CB v):=j.1 rfl;have C:Hid (∀X,Zz a X->Zz w X):=λX d=>zA.ah (d.aj zA.size);have H:Hid (∀X,Zz a X->Aa X w.1.size (Zg v.wd::Zg v.lim::s::t::R)/\Aa X (w.1.size+1) BU):=λX d=>⟨Aa.A m d,Aa.A (v:=Ze) f d⟩;clear j m f;go_upto_region 3 with fail;go_cut [5] (λp f=>Jd w Z p f)
  case first=>
   refine wp_region_held_drew (S:=λX=>Zz a X) Yr Ad.drew (λF=> ?_);refine BZ 0 (Yy w.1.size) ?_;try simp only[Act.put,Zq,Zp,Zo]
   refine Fl 1 (Zg v.wd) rfl (by exact Or.inl ⟨Yp,λX d=>by have hc:=((H X d).1 0 _ rfl).1;go_simp⟩) ?_;try simp only[Act.put,Zq,Zp,Zo]
   refine BZ 2 (Yx w.1.size 1) ?_;try simp only[Act.put,Zq,Zp,Zo]
   refine Fl 3 (Zg v.lim) rfl (by exact Or.inl ⟨Yp,λX d=>by have hc:=((H X d).1 1 _ rfl).1;go_simp⟩) ?_;try simp only[Act.put,Zq,Zp,Zo]
   refine BZ 4 (Yx w.1.size 2) ?_;try simp only[Act.put,Zq,Zp,Zo]
   refine Fl 5 (.agg #[s,t]) rfl (by exact yieldsIf_load_mid Yp 96 _ rfl w.1.size 2 rfl [s,t] _ (λX h=>Aa.gu [Zg v.wd,Zg v.lim] [s,t] R (H X h).1) underlying96 rfl Yr) ?_;try simp only[Act.put,Zq,Zp,Zo]
   refine BZ 6 (Zg k) ?_;try simp only[Act.put,Zq,Zp,Zo]
   have h1:=(Below.refl a.1.size a).drew;refine wpAnyH_ready (rs:=[7,12]) Yr Yu ?_;refine(AllReadyH.cons (o:=⟨some 19,.call {callee:=Callee.value (.func 136),args:= #[.tmp 17,.tmp 18],argTypes:= #[96,3]},96,Cd,#[DO 5,DO 6],none⟩) rfl (λK d=> ?_) (AllReadyH.cons (o:=⟨some 5,.alloc 100,0,Cd,#[],none⟩) rfl (λK d=> ?_) AllReadyH.nil))
   .go_simp;refine(HC r a.drew (C a.drew h1)).aj ?_;rintro e B ⟨x,rfl,h,I⟩;have A:Below a.1.size a B:=h1.ah (I.aj h1.size);have z2:=I.size;have y2:=A.size;try go_simp
    refine d.out _ _ A (λF=> ?_);clear d K;try simp only[Act.put,Zq,Zp,Zo]
    refine wpAnyH_ready (rs:=[8,12]) Yr Yu ?_;refine(AllReadyH.cons (o:=⟨some 20,.call {callee:=Callee.value (.func 85),args:= #[.tmp 13,.tmp 15,.tmp 19],argTypes:= #[3,3,96]},134,Cd,#[DO 1,DO 3,DO 7,⟨7,.chain⟩],none⟩) rfl (λK d=> ?_) (AllReadyH.cons (o:=⟨some 5,.alloc 100,0,Cd,#[],none⟩) rfl (λK d=> ?_) AllReadyH.nil))
    .go_simp;refine(HO r B x _ (C B A) h).aj ?_;rintro e i ⟨c,u,S,U,T,P,L,Q,M,rs,E,rfl,D,z⟩;have j:Below a.1.size a i:=A.ah (z.aj A.size);have z3:=z.size;have y3:=j.size;try go_simp
     refine d.out _ _ j (λF=> ?_);clear d K;try simp only[Act.put,Zq,Zp,Zo]
     refine BZ 9 (.tuple #[.agg (Bw u S U T P L Q M).toArray,Zg c]) ?_;try simp only[Act.put,Zq,Zp,Zo]
     refine BZ 10 (.agg (Bw u S U T P L Q M).toArray) ?_;try simp only[Act.put,Zq,Zp,Zo]
     refine BZ 11 (Zg c) ?_;try simp only[Act.put,Zq,Zp,Zo]
     refine wpAnyH_ready (rs:=[12]) Yr Yu ?_;refine(AllReadyH.cons (o:=⟨some 5,.alloc 100,0,Cd,#[],none⟩) rfl (λK d=> ?_) AllReadyH.nil);go_simp;have⟨q,f⟩:=D6 i Xp 100;have V:=(AE f).1;have zE:=(AE f).2.1;have J:Aa q i.1.size BU:=(AE (l:=BU) f).2.2;have m:Below a.1.size a q:=j.ah (V.aj j.size);have y4:=m.size;try rw[<-f]
     clear f;refine d.out _ _ m (λF=> ?_);clear d K;try simp only[Act.put,Zq,Zp,Zo]
     refine wpAnyH_ready (rs:=[13]) Yr Yu ?_;refine(AllReadyH.cons (o:=⟨none,.store 100 (.tmp 5) (.tmp 21),0,Cd,#[DO 12,DO 10,⟨8,.chain⟩,CN 0,CN 1,CN 2,CN 3,CN 4,CN 5,CN 6,CN 7,CN 8,CN 9,CN 10,{on:=11,ground:=.textOnly Departure.lateStores},CN 12],none⟩) rfl (λK d=> ?_) AllReadyH.nil);have N:Aa q i.1.size BU:=J
     have O:AM q (w.1.size+2) S U T P L Q M rs u:=(D.A V).aj Yv;have p:Jd w Z (Yy i.1.size) (q.setCells i.1.size 0 (Bw u S U T P L Q M).toArray.toList):=Jd.of E N (H q m).2 O (λG=>Dz (D.dj _ G)) Yv (C q m);rw[if_pos Yp]
     refine wp_store_mid 100 _ _ rfl (i.1.size) 0 (Bw u S U T P L Q M).toArray rfl rfl N.there Yr (all_oneCell_toArray (KB O)) ?_;refine d.out _ _ (m.ah ((AV _ _ _ _).A m.size Ym)) (λF=> ?_);clear d K;try simp only[Act.put]
     refine BZ 14 (Zg c) ?_;try simp only[Act.put,Zq,Zp,Zo]
     refine wpAnyH_done Yr ?_ _;go_wp2_with fail;go_meet;exact p
    .go_simp;have⟨q,f⟩:=D6 B Xp 100;have V:=(AE f).1;have zE:=(AE f).2.1;have J:Aa q B.1.size BU:=(AE (l:=BU) f).2.2;have m:Below a.1.size a q:=A.ah (V.aj A.size);have y4:=m.size;try rw[<-f]
     clear f;refine d.out _ _ m (λF=> ?_);clear d K;try simp only[Act.put,Zq,Zp,Zo]
     refine wpAnyH_ready (rs:=[8]) Yr Yu ?_;refine(AllReadyH.cons (o:=⟨some 20,.call {callee:=Callee.value (.func 85),args:= #[.tmp 13,.tmp 15,.tmp 19],argTypes:= #[3,3,96]},134,Cd,#[DO 1,DO 3,DO 7,⟨7,.chain⟩],none⟩) rfl (λK d=> ?_) AllReadyH.nil);go_simp;refine(HO r q x _ (C q m) (Ah h V)).aj ?_;rintro e i ⟨c,u,S,U,T,P,L,Q,M,rs,E,rfl,D,z⟩
     have j:Below a.1.size a i:=m.ah (z.aj m.size);have z3:=z.size;have y3:=j.size;try go_simp
     refine d.out _ _ j (λF=> ?_);clear d K;try simp only[Act.put,Zq,Zp,Zo]
     refine BZ 9 (.tuple #[.agg (Bw u S U T P L Q M).toArray,Zg c]) ?_;try simp only[Act.put,Zq,Zp,Zo]
     refine BZ 10 (.agg (Bw u S U T P L Q M).toArray) ?_;try simp only[Act.put,Zq,Zp,Zo]
     refine BZ 11 (Zg c) ?_;try simp only[Act.put,Zq,Zp,Zo]
     refine wpAnyH_ready (rs:=[13]) Yr Yu ?_;refine(AllReadyH.cons (o:=⟨none,.store 100 (.tmp 5) (.tmp 21),0,Cd,#[DO 12,DO 10,⟨8,.chain⟩,CN 0,CN 1,CN 2,CN 3,CN 4,CN 5,CN 6,CN 7,CN 8,CN 9,CN 10,{on:=11,ground:=.textOnly Departure.lateStores},CN 12],none⟩) rfl (λK d=> ?_) AllReadyH.nil);have N:Aa i B.1.size BU:=Aa.A (v:=Ze) J z
     have O:AM i (w.1.size+2) S U T P L Q M rs u:=D.aj Yv;have p:Jd w Z (Yy B.1.size) (i.setCells B.1.size 0 (Bw u S U T P L Q M).toArray.toList):=Jd.of E N (H i j).2 O (λG=>Dz (D.lo _ G)) Yv (C i j);rw[if_pos Yp]
     refine wp_store_mid 100 _ _ rfl (B.1.size) 0 (Bw u S U T P L Q M).toArray rfl rfl N.there Yr (all_oneCell_toArray (KB O)) ?_;refine d.out _ _ (j.ah ((AV _ _ _ _).A j.size Ym)) (λF=> ?_);clear d K;try simp only[Act.put]
     refine BZ 14 (Zg c) ?_;try simp only[Act.put,Zq,Zp,Zo]
     refine wpAnyH_done Yr ?_ _;go_wp2_with fail;go_meet;exact p
   .go_simp;have⟨q,f⟩:=Ae ((a.alloc (.cells Xp 100)).drew);have m:Below a.1.size a q:=by rw[f];exact(Zy).drew
    have J:Aa q a.1.size BU:=by rw[f];exact Aa.A (v:=Ze) (Aa.new a BU 100) Ad.drew
    have zE:=J.lt;try rw[<-f]
    clear f;refine d.out _ _ m (λF=> ?_);clear d K;try simp only[Act.put,Zq,Zp,Zo]
    refine wpAnyH_ready (rs:=[7]) Yr Yu ?_;refine(AllReadyH.cons (o:=⟨some 19,.call {callee:=Callee.value (.func 136),args:= #[.tmp 17,.tmp 18],argTypes:= #[96,3]},96,Cd,#[DO 5,DO 6],none⟩) rfl (λK d=> ?_) AllReadyH.nil);go_simp;refine(HC r q (C q m)).aj ?_;rintro e B ⟨x,rfl,h,I⟩;have A:Below a.1.size a B:=m.ah (I.aj m.size);have z2:=I.size;have y2:=A.size
    try go_simp
    refine d.out _ _ A (λF=> ?_);clear d K;try simp only[Act.put,Zq,Zp,Zo]
    refine wpAnyH_ready (rs:=[8]) Yr Yu ?_;refine(AllReadyH.cons (o:=⟨some 20,.call {callee:=Callee.value (.func 85),args:= #[.tmp 13,.tmp 15,.tmp 19],argTypes:= #[3,3,96]},134,Cd,#[DO 1,DO 3,DO 7,⟨7,.chain⟩],none⟩) rfl (λK d=> ?_) AllReadyH.nil);go_simp;refine(HO r B x _ (C B A) h).aj ?_;rintro e i ⟨c,u,S,U,T,P,L,Q,M,rs,E,rfl,D,z⟩
    have j:Below a.1.size a i:=A.ah (z.aj A.size);have z3:=z.size;have y3:=j.size;try go_simp
    refine d.out _ _ j (λF=> ?_);clear d K;try simp only[Act.put,Zq,Zp,Zo]
    refine BZ 9 (.tuple #[.agg (Bw u S U T P L Q M).toArray,Zg c]) ?_;try simp only[Act.put,Zq,Zp,Zo]
    refine BZ 10 (.agg (Bw u S U T P L Q M).toArray) ?_;try simp only[Act.put,Zq,Zp,Zo]
    refine BZ 11 (Zg c) ?_;try simp only[Act.put,Zq,Zp,Zo]
    refine wpAnyH_ready (rs:=[13]) Yr Yu ?_;refine(AllReadyH.cons (o:=⟨none,.store 100 (.tmp 5) (.tmp 21),0,Cd,#[DO 12,DO 10,⟨8,.chain⟩,CN 0,CN 1,CN 2,CN 3,CN 4,CN 5,CN 6,CN 7,CN 8,CN 9,CN 10,{on:=11,ground:=.textOnly Departure.lateStores},CN 12],none⟩) rfl (λK d=> ?_) AllReadyH.nil);have N:Aa i a.1.size BU:=Aa.A (v:=Ze) (Aa.A (v:=Ze) J I) z
    have O:AM i (w.1.size+2) S U T P L Q M rs u:=D.aj Yv;have p:Jd w Z (Yy a.1.size) (i.setCells a.1.size 0 (Bw u S U T P L Q M).toArray.toList):=Jd.of E N (H i j).2 O (λG=>Dz (D.lo _ G)) Yv (C i j);rw[if_pos Yp]
    refine wp_store_mid 100 _ _ rfl (a.1.size) 0 (Bw u S U T P L Q M).toArray rfl rfl N.there Yr (all_oneCell_toArray (KB O)) ?_;refine d.out _ _ (j.ah ((AV _ _ _ _).A j.size Ym)) (λF=> ?_);clear d K;try simp only[Act.put]
    refine BZ 14 (Zg c) ?_;try simp only[Act.put,Zq,Zp,Zo]
    refine wpAnyH_done Yr ?_ _;go_wp2_with fail;go_meet;exact p
  case rest=>
   obtain⟨b,u,S,U,T,P,L,Q,M,rs,rfl,E,x6,Y,F,K⟩:=hcut;have⟨n,y⟩:=Ae (wc.setCells (w.1.size+1) 0 (Bw u S U T P L Q M).toArray.toList);have X:Tn [(w.1.size+1)] wc n:=by rw[y];exact AV _ _ _ _
   have x9:Aa n (w.1.size+1) (Bw u S U T P L Q M):=by rw[y];exact Y.ay _ rfl
   have zF:Hid (AM n w.1.size S U T P L Q M rs u):=(F.stays X (λg d G=>by have:=F.lo g G;simp at d;omega)).aj Yv;have zG:Hid (Zz w n):=K.ah (X.A K.size Yu);have HT:Hid (Z u):=E;have⟨d,f⟩:=Ae (Bw u S U T P L Q M);have g:Hid (d.length=17):=by show d.length=17;rw[f];rfl
   have G:d.toArray.size=17:=by rw[f];rfl
   have HI:Hid (wc.there (w.1.size+1) 0 d.toArray.size/\∀x∈d,x.oneCell'=true):=⟨by rw[G];exact Y.there,by rw[f];exact KB F⟩;rw[<-f]at x6 x9 y;have HE:=Yw f;have zJ:=Yw x6;have zK:=Yw x9;have zB:=Yw y;clear G f x6 x9 y F Y K X E;go_wp2_with (first
    |refine wpList_load_mid rfl 100 _ rfl b 0 rfl d _ (Aa.range zJ) underlying100 rfl (by rw[g.o];kernel_rfl) ?_
    |refine wpList_store_mid rfl 100 _ _ rfl (w.1.size+1) 0 d.toArray rfl rfl HI.1 (by rw[A1,g.o];kernel_rfl) (all_oneCell_toArray HI.2) ?_)
   rw[<-zB.o];refine bodyPost_ret (AY results114 _ _ (w.1.size+1) d _ rfl (Aa.range zK) underlying100 rfl (by rw[g.o];kernel_rfl)) rfl ?_;exact⟨u,S,U,T,P,L,Q,M,rs,.inr ⟨r,HT⟩,by rw[HE.o],zF,zG⟩
