import Derived.Test.YtoglnpagihdhpaaGreatDoorX27
set_option maxRecDepth 100000
set_option maxHeartbeats 16000000
namespace Go.Proofs.YtoglnpagihdhpaaGreatDoor
open ChangeShapes WideShapes ChangeAt RowKit _root_.Go.Proofs.Tryz
variable{now f a:Int}{b m d lo:Nat}{w X:Zh}{v u:Vd}{c:Zl}{r:Rs}{P L S U T Q M:Value}
def Ms(wd:Int)(ks:List Kd):Prop:=∀k∈ks,AF k.J k.B wd=true
theorem Ms.step{g b:Int}{n:List Kd}{w:List Pd}{v:List Ld}{m:Int}{s o:Zi}{i:Int}{d:Zi}(h:Ms g n)(q:Bw m s o i d c g=true)(j:CN g now f b n w v m s o i d c r):Ms g r.A:=by
 obtain⟨D,E,e⟩:=DR q;rcases j with⟨rfl,_,u,t,z,A,j,rfl⟩|⟨_,_,l,rfl⟩|⟨_,_,rfl⟩|⟨_,_,u,t,rfl⟩|⟨_,_,rfl⟩|⟨_,C,rfl⟩|⟨_,_,_,rfl⟩
 .rcases j with⟨_,_,_,_,rfl,rfl⟩|⟨y,x,B,rfl,rfl⟩
  .exact h
  .intro k a;rcases List.mem_append.1 (Hf.1 a)with a|a
   .exact h k a
   .rw[List.mem_singleton]at a;subst a;exact e.dt rfl
 .exact h
 .exact h
 .exact h
 .exact h
 .exact h
 .exact fun k a=>h k (List.filter_sublist.subset a)
theorem BS.tok:∀{xs:Zl} {r r':Rs},BS a r xs r'->Ms a r.A->Ms a r'.A
 |[],r,r',h,hr=>by obtain rfl:r'=r:=h;exact hr
 |x::xs,r,r',h,hr=>by obtain⟨d,b,c⟩:=h;exact BS.tok c (hr.step (DQ b.1).1 b.2)
theorem DM.tok(h:DM v r):Ms v.wd v.A:=by have a:=h.run.tok (by intro k b;cases b);rwa[h.same.2.1]at a
def PH(w:Zh)(lo:Nat)(a:Zk)(ss:Zl):Prop:=
 ss=[]\/∃b off,a=some ⟨b,off,none⟩/\b<lo/\(∃cur,w.heap[b]?=some (.cells cur 9))/\∀i s,ss[i]?=some s->w.cell? (Zd b (off+i))=some (.string s)
theorem PH.below{g:Zh}{a:Zk}{f:Zl}(h:PH w lo a f)(e:Below lo w g):PH g lo a f:=by
 rcases h with h|⟨b,c,k,d,⟨j,l⟩,n⟩
 .exact .inl h
 .exact .inr ⟨b,c,k,d,⟨j,(e.block b d).trans l⟩,fun i s m=>(e.cell (p:=⟨b,c+i,none⟩) d).trans (n i s m)⟩
theorem PH.row{a:Zk}(h:PH w lo a c)(g:lo<=w.heap.size):Ad w w.heap.size a c:=by
 rcases h with h|⟨b,d,e,f,_,i⟩
 .exact .inl h
 .exact .inr ⟨b,d,e,Zr f g,i⟩
theorem Dr.zero{V:Zh}{e:Nat}{O:Value}{o c:Int}{j:List Kd}{l:List Pd}{k:List Ld}(h:Dr V e d m O P L o now c a j l k)(H:e+4<=m):Dr V 0 d m O P L o now c a j l k:=by
 obtain⟨n,f,r,t,v⟩:=h.map;refine⟨h.box,⟨n,f,r,t,fun s A=> ?_⟩,h.ord.mono (Nat.zero_le _),h.ci.mono (Nat.zero_le _),h.ck.mono (Nat.zero_le _),Nat.zero_le _,Nat.zero_le _,h.ap⟩;rcases v s A with h|⟨u,F,G,C,D,E,i⟩
 .exact .inl h
 .refine .inr ⟨u,F,G,C,D,E,?_⟩;rcases i with i|⟨b,q,w,x,B,g,y⟩
  .exact .inl i
  .refine .inr ⟨b,q,w,x,B,.inr ⟨Nat.zero_le _,?_⟩,y⟩;rcases g with⟨_,J,z,I⟩|⟨_,g⟩
   .simp[vB]at z;omega
   .exact g
theorem Ka.has{Z:Zh}(h:Ka 0 d m a r X)(b:∀k∈r.A,(k.sum.size:Int)=a)(g:Z.heap[m]?=X.heap[m]?)(s:Zi):Rr Z a m r.A s:=by obtain⟨O,P,L,h⟩:=h;obtain⟨n,f,i,c,e⟩:=h.map;exact Gp a m n f r.A X X.heap.size s Z (c.same g) e.holds b
theorem Ka.K{c:Zh}{R:Nat}(h:Ka 0 d m f r X)(g:R≠d)(a:X.heap.size<=R\/∃b,X.heap[R]?=some (.cells b 32))(e:Tn [R] X c):Ka 0 d m f r c:=by
 rcases a with a|⟨b,a⟩
 .obtain⟨O,P,L,h⟩:=h;exact⟨O,P,L,h.below (e.below (Zx) (by simp;exact a))⟩
 .exact h.stays a (Nat.zero_le _) g e
def PI(v:Vd)(l:Zl):Vd:={v with ss:=l,D:=[]}
theorem AD.flushed{c n:Nat}{u:Value}{f:Zj}{l:Zl}(h:AD X c S U T P L Q M f v)(i:∀g∈CV S U T P L Q M f,g<n)(j:Aj X n u l)(o:c<=n):AD X c u Zb T P L Q M f (PI v l):=by
 refine⟨j.mono o,Aj.nil _ _,h.st,h.q,h.m,?_⟩;have d:=h.nd;unfold CV at d i |-;have e:(Ai Zb).toList=[]:=rfl;rw[e,List.append_nil];refine List.nodup_append.2 ⟨?_,(List.nodup_append.1 d).2.1,fun a m b k e=> ?_⟩
 .cases Ai u<;>simp
 .have q:=(j.Z (Option.mem_toList.1 m)).1;have r:=i b (List.mem_append.2 (.inr k));omega
theorem SD(v:Vd)(q r s t:Value)(R:Zj)(l:Zl)(w:Zh)(hl:R.length=13)(hV:∀X,Zz w X->Calls prog 124 #[.agg (q::r::s::t::R).toArray] X fun e A=>Aq (Cy v) X A e)(hC:Cy v->∀X,Zz w X->Calls prog 125 #[.agg (q::r::s::t::R).toArray] X fun e A=>∃(S U T P L Q M:Value) (C:Zj),e=.returned (.agg (Bm v S U T P L Q M).toArray)/\AD A X.heap.size S U T P L Q M C v/\Zz X A)(hS:Cy v->∀X,Zz w X->Calls prog 126 #[.agg #[s,t]] X fun e A=>∃u,e=.returned (.agg #[u,Zb])/\A.ownsRow X.heap.size 9 1 u l.length (l.map Value.string)/\Zz X A):
 Calls prog 92 #[.agg (q::r::s::t::R).toArray] w fun e A=>∃(u:Vd) (S U T P L Q M:Value) (C:Zj),(¬Cy v/\u=v0\/Cy v/\u=PI v l)/\e=.returned (.agg (Bm u S U T P L Q M).toArray)/\AD A w.heap.size S U T P L Q M C u/\Zz w A:=by
 obtain⟨W,hW⟩:=Af ((w.alloc (.cells (q::r::s::t::R).toArray 51)).alloc (.cells Xo 51));have bW:=(Bb hW).1;have zW:=(Bb hW).2.1;have HX:Hid (Aa W w.heap.size (q::r::s::t::R)):=(Bb hW).2.2.1;have HZ:Hid (Aa W (w.heap.size+1) BA):=(Bb (k:=BA) hW).2.2.2;have zS:Hid ((q::r::s::t::R).length=17):=by show(q::r::s::t::R).length=17;simp[hl]
 have HV:=Yw hV;have HC:=Yw hC;have HS:=Yw hS;have HW:=Yw hW;clear hW hV hC hS hl;go_enter func92,ntmps92;go_upto_region 1 with fail;rw[<-HW.o];clear HW;go_wp2_with (refine wpList_load_mid rfl 51 _ rfl w.heap.size 0 rfl (q::r::s::t::R) _ HX.o.range underlying51 rfl (by rw[zS.o];kernel_rfl) ?_);refine(HV.o W bW).mono ?_;rintro e B ⟨o,rfl,ho,H⟩;have z1:=H.size
 have zM:Hid (Aa B w.heap.size (q::r::s::t::R)):=Aa.below HX.o H;have Z:Hid (Aa B (w.heap.size+1) BA):=Aa.below (v:=Ze) HZ.o H;have D:Hid (Zz w B):=bW.trans (H.mono bW.size);clear H HV HX HZ bW;cases o with
 |false=>
  have yD:Hid (¬Cy v):=fun h=>by have:=ho.2 h;cases this
  clear ho HC HS;have N:BA.toArray.all (·.oneCell')=true:=by simp[BA,Value.oneCell']
  have zR:=Yw (Zn N Z.o.there);obtain⟨W9,zG⟩:=Af (B.setCells (w.heap.size+1) 0 BA);have x9:Aa W9 (w.heap.size+1) BA:=by rw[zG];exact Z.o.au _ rfl
  have b9:Below w.heap.size w W9:=D.o.trans (by rw[zG];exact(AI _ _ _ _).below D.o.size Yu);have yG:=Yw zG;clear N zG;go_wp2_with (refine wpList_store_mid rfl 51 _ _ rfl (w.heap.size+1) 0 Xo rfl rfl zR.o.2 Yr zR.o.1 ?_);change bodyPost _ _ _ _ _ (B.setCells (w.heap.size+1) 0 BA);rw[<-yG.o]
  refine bodyPost_ret (AU results92 _ _ (w.heap.size+1) BA _ rfl x9.range underlying51 rfl Yr) rfl ?_;exact⟨v0,_,_,_,_,_,_,_,[],.inl ⟨yD.o,rfl⟩,rfl,AD.nil _ _,b9⟩
 |true=>
  have E:Hid (Cy v):=ho.1 rfl;clear ho;go_wp2_with (refine wpList_load_mid rfl 51 _ rfl w.heap.size 0 rfl (q::r::s::t::R) _ zM.o.range underlying51 rfl (by rw[zS.o];kernel_rfl) ?_);refine(HC.o E.o B D.o).mono ?_;rintro e i ⟨S,U,T,P,L,Q,M,C,rfl,zB,zH⟩;obtain⟨c,zC⟩:∃c:Zj,c=[Zg v.S,Zg v.E,Zg v.F,Zg v.C,T,P,L,Zg v.L,Q,M,Zg v.Q,Zg v.P,Zg v.ro]:=⟨_,rfl⟩
  have eR:Bm v S U T P L Q M=(Zg v.wd::Zg v.lim::S::U::c):=by rw[zC];rfl
  have j:(Zg v.wd::Zg v.lim::S::U::c).length=17:=by rw[zC];rfl
  have I:∀x∈(Zg v.wd::Zg v.lim::S::U::c),x.oneCell'=true:=by obtain⟨a,h,_⟩:=zB.iz;rw[<-eR,h];simp[Bm,Value.oneCell']
  have zK:Hid (∀g∈CV S U T P L Q M C,g<i.heap.size):=zB.cz;have yE:Hid (∀d f,Bm (PI v l) (.slice d l.length f) Zb T P L Q M=(Zg v.wd::Zg v.lim:: .slice d l.length f::Zb::c)):=fun d f=>by rw[zC];rfl
  rw[eR];have z2:=zH.size;obtain⟨y,zO⟩:=Af ((i.alloc (.cells Xo 51)).setCells i.heap.size 0 (Zg v.wd::Zg v.lim::S::U::c).toArray.toList);have hb:=boxed (X:=i) (cs:=(Zg v.wd::Zg v.lim::S::U::c)) (z:=BA) (T:=51) (by rw[j];rfl);have e3:y=(i.alloc (.cells BA.toArray 51)).setCells i.heap.size 0 (Zg v.wd::Zg v.lim::S::U::c):=zO;rw[<-e3]at hb;obtain⟨x3,b3,z3⟩:=hb
  have F:Hid ((i.alloc (.cells Xo 51)).there i.heap.size 0 (Zg v.wd::Zg v.lim::S::U::c).toArray.size/\(Zg v.wd::Zg v.lim::S::U::c).length=17/\∀x∈(Zg v.wd::Zg v.lim::S::U::c),x.oneCell'=true):=⟨by rw[show(Zg v.wd::Zg v.lim::S::U::c).toArray.size=17 from by rw[List.size_toArray];exact j];exact(Aa.new i BA 51).there,j,I⟩;have zT:=Yw zO;have zA:Below B.heap.size B y:=zH.trans (b3.mono zH.size)
  have zN:Hid (Aa y w.heap.size (q::r::s::t::R)):=Aa.below zM.o zA;have zV:Hid (Aa y (w.heap.size+1) BA):=Aa.below (v:=Ze) Z.o zA;have O:Hid (Zz w y):=D.o.trans (zA.mono D.o.size);have zJ:Hid (AD y B.heap.size S U T P L Q M C v):=zB.below b3;have V:=Yw x3;clear zO e3 x3 b3 zA zB zH eR j I zC zM Z HC
  go_upto_region 4 with(refine wpList_store_mid rfl 51 _ _ rfl i.heap.size 0 (Zg v.wd::Zg v.lim::S::U::c).toArray rfl rfl F.o.1 (by rw[List.size_toArray,F.o.2.1];kernel_rfl) (all_oneCell_toArray F.o.2.2) ?_);rw[<-zT.o];clear zT;obtain⟨y2,_⟩:=zN.o 2 _ rfl;obtain⟨y3,_⟩:=zN.o 3 _ rfl;go_wp2_with fail;refine(HS.o E.o y O.o).mono ?_;rintro e w4 ⟨u,rfl,zP,m⟩;obtain⟨d,f,rfl,_⟩:=(Aj.own zP).row
  have z4:=m.size;clear y2 y3 HS zN;obtain⟨J,zE⟩:=Af ((w4.setCell (Zd (i.heap.size) 2) (.slice d l.length f)).setCell (Zd (i.heap.size) 3) Zb);have t5:Tn [i.heap.size] w4 J:=by rw[zE];exact(Tn.set _ _ _ _ Yu).trans (Tn.set _ _ _ _ Yu)
  have yI:Hid (Aa J i.heap.size (Zg v.wd::Zg v.lim:: .slice d l.length f::Zb::c)):=by show Aa J i.heap.size (Zg v.wd::Zg v.lim:: .slice d l.length f::Zb::c);rw[zE];exact((Aa.below V.o m).set 2 (.slice d l.length f)).set 3 Zb
  have z5:=t5.size;have zX:Hid (Aa J (w.heap.size+1) BA):=Aa.same (Aa.below (v:=Ze) zV.o m) (t5.block _ Yv Yt);have j:(Zg v.wd::Zg v.lim:: .slice d l.length f::Zb::c).length=17:=by simpa using F.o.2.1
  have I:∀x∈(Zg v.wd::Zg v.lim:: .slice d l.length f::Zb::c),x.oneCell'=true:=fun x hx=>by
   have h1:=F.o.2.2 x;simp only[List.mem_cons]at hx h1;rcases hx with rfl|rfl|rfl|rfl|hx
   .rfl
   .rfl
   .rfl
   .rfl
   .exact h1 (.inr (.inr (.inr (.inr hx))))
  obtain⟨K,zF⟩:=Af (J.setCells (w.heap.size+1) 0 (Zg v.wd::Zg v.lim:: .slice d l.length f::Zb::c).toArray.toList);have t6:Tn [(w.heap.size+1)] J K:=by rw[zF];exact AI _ _ _ _
  have x6:Aa K (w.heap.size+1) (Zg v.wd::Zg v.lim:: .slice d l.length f::Zb::c):=by rw[zF];exact zX.o.au _ (by rw[j];rfl)
  have zI:Tn [i.heap.size,(w.heap.size+1)] w4 K:=(t5.mono Yu).trans (t6.mono Yu);have zY:AD K B.heap.size S U T P L Q M C v:=(zJ.o.below m).stays zI (fun g hg zZ=>by have h1:=zJ.o.lo g zZ;have h2:=zK.o g zZ;simp at hg;omega);have yA:Aj K y.heap.size (.slice d l.length f) l:=Aj.own (Py zP zI (fun b hb=>by simp at hb;omega))
  have yB:Hid (AD K w.heap.size (.slice d l.length f) Zb T P L Q M C (PI v l)):=(zY.flushed (n:=y.heap.size) (fun g hg=>by have:=zK.o g hg;omega) yA Yv).mono (by have:=D.o.size;omega);have b4:Below w.heap.size w w4:=O.o.trans (m.mono O.o.size);have yC:Hid (Zz w K):=b4.trans (zI.below b4.size (fun b hb=>by simp at hb;omega))
  have G:Hid (J.there (w.heap.size+1) 0 (Zg v.wd::Zg v.lim:: .slice d l.length f::Zb::c).toArray.size/\(Zg v.wd::Zg v.lim:: .slice d l.length f::Zb::c).length=17/\∀x∈(Zg v.wd::Zg v.lim:: .slice d l.length f::Zb::c),x.oneCell'=true):=⟨by rw[show(Zg v.wd::Zg v.lim:: .slice d l.length f::Zb::c).toArray.size=17 from by rw[List.size_toArray];exact j];exact zX.o.there,j,I⟩
  obtain⟨y2,f2⟩:=Aa.below V.o m 2 _ rfl;obtain⟨y3,f3⟩:=Aa.below V.o m 3 _ rfl;have zU:=Yw zE;have yF:=Yw zF;have yH:=Yw x6;clear zE zF x6 t5 t6 zI zY yA b4 I j zP m V zJ zV O zK;go_upto_region 5 with fail;rw[<-zU.o];clear zU y2 y3 f2 f3;go_wp2_with (first
   |refine wpList_load_mid rfl 51 _ rfl i.heap.size 0 rfl (Zg v.wd::Zg v.lim:: .slice d l.length f::Zb::c) _ yI.o.range underlying51 rfl (by rw[G.o.2.1];kernel_rfl) ?_
   |refine wpList_store_mid rfl 51 _ _ rfl (w.heap.size+1) 0 (Zg v.wd::Zg v.lim:: .slice d l.length f::Zb::c).toArray rfl rfl G.o.1 (by rw[List.size_toArray,G.o.2.1];kernel_rfl) (all_oneCell_toArray G.o.2.2) ?_)
  rw[<-yF.o];refine bodyPost_ret (AU results92 _ _ (w.heap.size+1) (Zg v.wd::Zg v.lim:: .slice d l.length f::Zb::c) _ rfl (Aa.range yH.o) underlying51 rfl (by rw[G.o.2.1];kernel_rfl)) rfl ?_;exact⟨PI v l,.slice d l.length f,Zb,T,P,L,Q,M,C,.inr ⟨E.o,rfl⟩,by rw[yE.o],yB.o,yC.o⟩
def Abt(v:Vd)(To:Vd->Prop)(w:Zh)(e:Ending)(w':Zh):Prop:=∃(u:Vd) (S U T P L Q M:Value) (rs:Zj),(¬Cy v/\u=v0\/Cy v/\To u)/\e=.returned (.agg (Bm u S U T P L Q M).toArray)/\AD w' w.heap.size S U T P L Q M rs u/\Zz w w'
def Ja(w:Zh)(To:Vd->Prop)(p:Value)(X:Zh):Prop:=
 ∃(b:Nat) (u:Vd) (S U T P L Q M:Value) (rs:Zj),p=.pointer (some ⟨b,0,none⟩)/\To u/\Aa X b (Bm u S U T P L Q M)/\Aa X (w.heap.size+1) BA/\AD X (w.heap.size+2) S U T P L Q M rs u/\Zz w X
theorem Ja.of{c:Vd->Prop}{a:Zj}(k:c u)(d:Aa X b BA)(h:Aa X (w.heap.size+1) BA)(i:AD X (w.heap.size+2) S U T P L Q M a u)(j:b∉CV S U T P L Q M a)(l:w.heap.size+2<=b)(f:Zz w X):
 Ja w c (Yy b) (X.setCells b 0 (Bm u S U T P L Q M).toArray.toList):=by
 have t:=AI b (Bm u S U T P L Q M) 0 X;have m:=(d 0 _ rfl).1;refine⟨b,u,S,U,T,P,L,Q,M,a,rfl,k,d.au _ rfl,Aa.same h (t.block _ h.lt Yt),i.stays t (fun g e=>by simp at e;subst e;exact j),f.trans (t.below f.size Yt)⟩
theorem Kv{c:Zj}(h:AD X b S U T P L Q M c u):∀x∈(Bm u S U T P L Q M),x.oneCell'=true:=by obtain⟨a,e,_⟩:=h.iz;rw[e];simp[Bm,Value.oneCell']
theorem Ui(v:Vd)(s t:Value)(R:Zj)(k:Int)(l:Zl)(To:Vd->Prop)(w:Zh)(hl:R.length=13)(hV:∀X,Zz w X->Calls prog 124 #[.agg (Zg v.wd::Zg v.lim::s::t::R).toArray] X fun e w'=>Aq (Cy v) X w' e)(hC:Cy v->∀X,Zz w X->Calls prog 127 #[.agg #[s,t],Zg k] X fun e w'=>∃u,e=.returned (.agg #[u,Zb])/\w'.ownsRow X.heap.size 9 1 u l.length (l.map Value.string)/\Zz X w')(hO:Cy v->∀X u n,Zz w X->X.ownsRow n 9 1 u l.length (l.map Value.string)->Calls prog 35 #[Zg v.wd,Zg v.lim,.agg #[u,Zb]] X fun e w'=>∃(c:Int) (u:Vd) (S U T P L Q M:Value) (rs:Zj),To u/\e=.returned (.tuple #[.agg (Bm u S U T P L Q M).toArray,Zg c])/\AD w' X.heap.size S U T P L Q M rs u/\Zz X w'):
 Calls prog 93 #[.agg (Zg v.wd::Zg v.lim::s::t::R).toArray,Zg k] w (Abt v To w):=by
 obtain⟨W,hW⟩:=Af ((w.alloc (.cells (Zg v.wd::Zg v.lim::s::t::R).toArray 51)).alloc (.cells Xo 51));have bW:=(Bb hW).1;have zW:=(Bb hW).2.1;have HX:Hid (Aa W w.heap.size (Zg v.wd::Zg v.lim::s::t::R)):=(Bb hW).2.2.1;have HZ:Hid (Aa W (w.heap.size+1) BA):=(Bb (k:=BA) hW).2.2.2;have zT:Hid ((Zg v.wd::Zg v.lim::s::t::R).length=17):=by show(Zg v.wd::Zg v.lim::s::t::R).length=17;simp[hl]
 have HV:=Yw hV;have HC:=Yw hC;have HO:=Yw hO;have HW:=Yw hW;clear hW hV hC hO hl;go_enter func93,ntmps93;go_upto_region 1 with fail;rw[<-HW.o];clear HW;go_wp2_with (refine wpList_load_mid rfl 51 _ rfl w.heap.size 0 rfl (Zg v.wd::Zg v.lim::s::t::R) _ HX.o.range underlying51 rfl (by rw[zT.o];kernel_rfl) ?_);refine(HV.o W bW).mono ?_;rintro e a ⟨o,rfl,ho,zB⟩;have z1:=zB.size
 have zN:=Yw (Aa.below HX.o zB);have zF:Hid (Aa a (w.heap.size+1) BA):=Aa.below (v:=Ze) HZ.o zB;have zE:Hid (Zz w a):=bW.trans (zB.mono bW.size);clear zB HV HX HZ bW;cases o with
 |false=>
  have zU:Hid (¬Cy v):=fun h=>by have:=ho.2 h;cases this
  clear ho HC HO;have zC:BA.toArray.all (·.oneCell')=true:=by simp[BA,Value.oneCell']
  have zM:=Yw (Zn zC zF.o.there);obtain⟨W9,y⟩:=Af (a.setCells (w.heap.size+1) 0 BA);have x9:Aa W9 (w.heap.size+1) BA:=by rw[y];exact zF.o.au _ rfl
  have b9:Below w.heap.size w W9:=zE.o.trans (by rw[y];exact(AI _ _ _ _).below zE.o.size Yu);have zI:=Yw y;clear zC y;go_wp2_with (refine wpList_store_mid rfl 51 _ _ rfl (w.heap.size+1) 0 Xo rfl rfl zM.o.2 Yr zM.o.1 ?_);change bodyPost _ _ _ _ _ (a.setCells (w.heap.size+1) 0 BA);rw[<-zI.o]
  refine bodyPost_ret (AU results93 _ _ (w.heap.size+1) BA _ rfl x9.range underlying51 rfl Yr) rfl ?_;exact⟨v0,_,_,_,_,_,_,_,[],.inl ⟨zU.o,rfl⟩,rfl,AD.nil _ _,b9⟩
 |true=>
  have r:Hid (Cy v):=ho.1 rfl;have C:Hid (∀X,Zz a X->Zz w X):=fun X Z=>zE.o.trans (Z.mono zE.o.size);have I:Hid (∀X,Zz a X->Aa X w.heap.size (Zg v.wd::Zg v.lim::s::t::R)/\Aa X (w.heap.size+1) BA):=fun X Z=>⟨Aa.below zN.o Z,Aa.below (v:=Ze) zF.o Z⟩;clear ho zN zF;go_upto_region 3 with fail;go_cut [5] (fun p wx=>Ja w To p wx)
  case first=>
   refine wp_region_held_drew (S:=fun X=>Zz a X) Yr Ae.drew (fun F=> ?_);refine BR 0 (Yy w.heap.size) ?_;try simp only[Act.put,Zq,Zp,Zo]
   refine Fu 1 (Zg v.wd) rfl (by exact Or.inl ⟨Yp,fun X Z=>by have hc:=((I.o X Z).1 0 _ rfl).1;go_simp⟩) ?_;try simp only[Act.put,Zq,Zp,Zo]
   refine BR 2 (Yx w.heap.size 1) ?_;try simp only[Act.put,Zq,Zp,Zo]
   refine Fu 3 (Zg v.lim) rfl (by exact Or.inl ⟨Yp,fun X Z=>by have hc:=((I.o X Z).1 1 _ rfl).1;go_simp⟩) ?_;try simp only[Act.put,Zq,Zp,Zo]
   refine BR 4 (Yx w.heap.size 2) ?_;try simp only[Act.put,Zq,Zp,Zo]
   refine Fu 5 (.agg #[s,t]) rfl (by exact yieldsIf_load_mid Yp 47 _ rfl w.heap.size 2 rfl [s,t] _ (fun X h=>Aa.fs [Zg v.wd,Zg v.lim] [s,t] R (I.o X h).1) underlying47 rfl Yr) ?_;try simp only[Act.put,Zq,Zp,Zo]
   refine BR 6 (Zg k) ?_;try simp only[Act.put,Zq,Zp,Zo]
   have h1:=(Below.refl a.heap.size a).drew;refine wpAnyH_ready (rs:=[7,12]) Yr Yu ?_;refine(AllReadyH.cons (o:=⟨some 19,.call {callee:=Callee.value (.func 127),args:= #[.tmp 17,.tmp 18],argTypes:= #[47,3]},47,BY,#[DF 5,DF 6],none⟩) rfl (fun K d=> ?_) (AllReadyH.cons (o:=⟨some 5,.alloc 51,0,BY,#[],none⟩) rfl (fun K d=> ?_) AllReadyH.nil))
   .go_simp;refine(HC.o r.o a.drew (C.o a.drew h1)).mono ?_;rintro e B ⟨x,rfl,zH,J⟩;have A:Below a.heap.size a B:=h1.trans (J.mono h1.size);have z2:=J.size;have y2:=A.size;try go_simp
    refine d.out _ _ A (fun F=> ?_);clear d K;try simp only[Act.put,Zq,Zp,Zo]
    refine wpAnyH_ready (rs:=[8,12]) Yr Yu ?_;refine(AllReadyH.cons (o:=⟨some 20,.call {callee:=Callee.value (.func 35),args:= #[.tmp 13,.tmp 15,.tmp 19],argTypes:= #[3,3,47]},94,BY,#[DF 1,DF 3,DF 7,⟨7,.chain⟩],none⟩) rfl (fun K d=> ?_) (AllReadyH.cons (o:=⟨some 5,.alloc 51,0,BY,#[],none⟩) rfl (fun K d=> ?_) AllReadyH.nil))
    .go_simp;refine(HO.o r.o B x _ (C.o B A) zH).mono ?_;rintro e i ⟨c,u,S,U,T,P,L,Q,M,rs,E,rfl,D,z⟩;have j:Below a.heap.size a i:=A.trans (z.mono A.size);have z3:=z.size;have y3:=j.size;try go_simp
     refine d.out _ _ j (fun F=> ?_);clear d K;try simp only[Act.put,Zq,Zp,Zo]
     refine BR 9 (.tuple #[.agg (Bm u S U T P L Q M).toArray,Zg c]) ?_;try simp only[Act.put,Zq,Zp,Zo]
     refine BR 10 (.agg (Bm u S U T P L Q M).toArray) ?_;try simp only[Act.put,Zq,Zp,Zo]
     refine BR 11 (Zg c) ?_;try simp only[Act.put,Zq,Zp,Zo]
     refine wpAnyH_ready (rs:=[12]) Yr Yu ?_;refine(AllReadyH.cons (o:=⟨some 5,.alloc 51,0,BY,#[],none⟩) rfl (fun K d=> ?_) AllReadyH.nil);go_simp;obtain⟨q,f⟩:=Af (i.alloc (.cells Xo 51));have zA:=(AB f).1;have zP:=(AB f).2.1;have O:Aa q i.heap.size BA:=(AB (l:=BA) f).2.2;have m:Below a.heap.size a q:=j.trans (zA.mono j.size);have y4:=m.size;try rw[<-f]
     clear f;refine d.out _ _ m (fun F=> ?_);clear d K;try simp only[Act.put,Zq,Zp,Zo]
     refine wpAnyH_ready (rs:=[13]) Yr Yu ?_;refine(AllReadyH.cons (o:=⟨none,.store 51 (.tmp 5) (.tmp 21),0,BY,#[DF 12,DF 10,⟨8,.chain⟩,CI 0,CI 1,CI 2,CI 3,CI 4,CI 5,CI 6,CI 7,CI 8,CI 9,CI 10,{on:=11,ground:=.textOnly Departure.lateStores},CI 12],none⟩) rfl (fun K d=> ?_) AllReadyH.nil);have V:Aa q i.heap.size BA:=O
     have va:AD q (w.heap.size+2) S U T P L Q M rs u:=(D.below zA).mono Yv;have hE:Ja w To (Yy i.heap.size) (q.setCells i.heap.size 0 (Bm u S U T P L Q M).toArray.toList):=Ja.of E V (I.o q m).2 va (fun G=>by have:=D.cz _ G;omega) Yv (C.o q m);rw[if_pos Yp]
     refine wp_store_mid 51 _ _ rfl (i.heap.size) 0 (Bm u S U T P L Q M).toArray rfl rfl V.there Yr (all_oneCell_toArray (Kv va)) ?_;refine d.out _ _ (m.trans ((AI _ _ _ _).below m.size Ym)) (fun F=> ?_);clear d K;try simp only[Act.put]
     refine BR 14 (Zg c) ?_;try simp only[Act.put,Zq,Zp,Zo]
     refine wpAnyH_done Yr ?_ _;go_wp2_with fail;go_meet;exact hE
    .go_simp;obtain⟨q,f⟩:=Af (B.alloc (.cells Xo 51));have zA:=(AB f).1;have zP:=(AB f).2.1;have O:Aa q B.heap.size BA:=(AB (l:=BA) f).2.2;have m:Below a.heap.size a q:=A.trans (zA.mono A.size);have y4:=m.size;try rw[<-f]
     clear f;refine d.out _ _ m (fun F=> ?_);clear d K;try simp only[Act.put,Zq,Zp,Zo]
     refine wpAnyH_ready (rs:=[8]) Yr Yu ?_;refine(AllReadyH.cons (o:=⟨some 20,.call {callee:=Callee.value (.func 35),args:= #[.tmp 13,.tmp 15,.tmp 19],argTypes:= #[3,3,47]},94,BY,#[DF 1,DF 3,DF 7,⟨7,.chain⟩],none⟩) rfl (fun K d=> ?_) AllReadyH.nil);go_simp;refine(HO.o r.o q x _ (C.o q m) (Ag zH zA)).mono ?_;rintro e i ⟨c,u,S,U,T,P,L,Q,M,rs,E,rfl,D,z⟩
     have j:Below a.heap.size a i:=m.trans (z.mono m.size);have z3:=z.size;have y3:=j.size;try go_simp
     refine d.out _ _ j (fun F=> ?_);clear d K;try simp only[Act.put,Zq,Zp,Zo]
     refine BR 9 (.tuple #[.agg (Bm u S U T P L Q M).toArray,Zg c]) ?_;try simp only[Act.put,Zq,Zp,Zo]
     refine BR 10 (.agg (Bm u S U T P L Q M).toArray) ?_;try simp only[Act.put,Zq,Zp,Zo]
     refine BR 11 (Zg c) ?_;try simp only[Act.put,Zq,Zp,Zo]
     refine wpAnyH_ready (rs:=[13]) Yr Yu ?_;refine(AllReadyH.cons (o:=⟨none,.store 51 (.tmp 5) (.tmp 21),0,BY,#[DF 12,DF 10,⟨8,.chain⟩,CI 0,CI 1,CI 2,CI 3,CI 4,CI 5,CI 6,CI 7,CI 8,CI 9,CI 10,{on:=11,ground:=.textOnly Departure.lateStores},CI 12],none⟩) rfl (fun K d=> ?_) AllReadyH.nil);have V:Aa i B.heap.size BA:=Aa.below (v:=Ze) O z
     have va:AD i (w.heap.size+2) S U T P L Q M rs u:=D.mono Yv;have hE:Ja w To (Yy B.heap.size) (i.setCells B.heap.size 0 (Bm u S U T P L Q M).toArray.toList):=Ja.of E V (I.o i j).2 va (fun G=>by have:=D.lo _ G;omega) Yv (C.o i j);rw[if_pos Yp]
     refine wp_store_mid 51 _ _ rfl (B.heap.size) 0 (Bm u S U T P L Q M).toArray rfl rfl V.there Yr (all_oneCell_toArray (Kv va)) ?_;refine d.out _ _ (j.trans ((AI _ _ _ _).below j.size Ym)) (fun F=> ?_);clear d K;try simp only[Act.put]
     refine BR 14 (Zg c) ?_;try simp only[Act.put,Zq,Zp,Zo]
     refine wpAnyH_done Yr ?_ _;go_wp2_with fail;go_meet;exact hE
   .go_simp;obtain⟨q,f⟩:=Af ((a.alloc (.cells Xo 51)).drew);have m:Below a.heap.size a q:=by rw[f];exact(Zy).drew
    have O:Aa q a.heap.size BA:=by rw[f];exact Aa.below (v:=Ze) (Aa.new a BA 51) Ae.drew
    have zP:=O.lt;try rw[<-f]
    clear f;refine d.out _ _ m (fun F=> ?_);clear d K;try simp only[Act.put,Zq,Zp,Zo]
    refine wpAnyH_ready (rs:=[7]) Yr Yu ?_;refine(AllReadyH.cons (o:=⟨some 19,.call {callee:=Callee.value (.func 127),args:= #[.tmp 17,.tmp 18],argTypes:= #[47,3]},47,BY,#[DF 5,DF 6],none⟩) rfl (fun K d=> ?_) AllReadyH.nil);go_simp;refine(HC.o r.o q (C.o q m)).mono ?_;rintro e B ⟨x,rfl,zH,J⟩;have A:Below a.heap.size a B:=m.trans (J.mono m.size);have z2:=J.size
    have y2:=A.size;try go_simp
    refine d.out _ _ A (fun F=> ?_);clear d K;try simp only[Act.put,Zq,Zp,Zo]
    refine wpAnyH_ready (rs:=[8]) Yr Yu ?_;refine(AllReadyH.cons (o:=⟨some 20,.call {callee:=Callee.value (.func 35),args:= #[.tmp 13,.tmp 15,.tmp 19],argTypes:= #[3,3,47]},94,BY,#[DF 1,DF 3,DF 7,⟨7,.chain⟩],none⟩) rfl (fun K d=> ?_) AllReadyH.nil);go_simp;refine(HO.o r.o B x _ (C.o B A) zH).mono ?_;rintro e i ⟨c,u,S,U,T,P,L,Q,M,rs,E,rfl,D,z⟩
    have j:Below a.heap.size a i:=A.trans (z.mono A.size);have z3:=z.size;have y3:=j.size;try go_simp
    refine d.out _ _ j (fun F=> ?_);clear d K;try simp only[Act.put,Zq,Zp,Zo]
    refine BR 9 (.tuple #[.agg (Bm u S U T P L Q M).toArray,Zg c]) ?_;try simp only[Act.put,Zq,Zp,Zo]
    refine BR 10 (.agg (Bm u S U T P L Q M).toArray) ?_;try simp only[Act.put,Zq,Zp,Zo]
    refine BR 11 (Zg c) ?_;try simp only[Act.put,Zq,Zp,Zo]
    refine wpAnyH_ready (rs:=[13]) Yr Yu ?_;refine(AllReadyH.cons (o:=⟨none,.store 51 (.tmp 5) (.tmp 21),0,BY,#[DF 12,DF 10,⟨8,.chain⟩,CI 0,CI 1,CI 2,CI 3,CI 4,CI 5,CI 6,CI 7,CI 8,CI 9,CI 10,{on:=11,ground:=.textOnly Departure.lateStores},CI 12],none⟩) rfl (fun K d=> ?_) AllReadyH.nil);have V:Aa i a.heap.size BA:=Aa.below (v:=Ze) (Aa.below (v:=Ze) O J) z
    have va:AD i (w.heap.size+2) S U T P L Q M rs u:=D.mono Yv;have hE:Ja w To (Yy a.heap.size) (i.setCells a.heap.size 0 (Bm u S U T P L Q M).toArray.toList):=Ja.of E V (I.o i j).2 va (fun G=>by have:=D.lo _ G;omega) Yv (C.o i j);rw[if_pos Yp]
    refine wp_store_mid 51 _ _ rfl (a.heap.size) 0 (Bm u S U T P L Q M).toArray rfl rfl V.there Yr (all_oneCell_toArray (Kv va)) ?_;refine d.out _ _ (j.trans ((AI _ _ _ _).below j.size Ym)) (fun F=> ?_);clear d K;try simp only[Act.put]
    refine BR 14 (Zg c) ?_;try simp only[Act.put,Zq,Zp,Zo]
    refine wpAnyH_done Yr ?_ _;go_wp2_with fail;go_meet;exact hE
  case rest=>
   obtain⟨b,u,S,U,T,P,L,Q,M,rs,rfl,E,x6,zK,zG,zJ⟩:=hcut;obtain⟨W9,y⟩:=Af (wc.setCells (w.heap.size+1) 0 (Bm u S U T P L Q M).toArray.toList);have t9:Tn [(w.heap.size+1)] wc W9:=by rw[y];exact AI _ _ _ _
   have x9:Aa W9 (w.heap.size+1) (Bm u S U T P L Q M):=by rw[y];exact zK.au _ rfl
   have zR:Hid (AD W9 w.heap.size S U T P L Q M rs u):=(zG.stays t9 (fun g hg G=>by have:=zG.lo g G;simp at hg;omega)).mono Yv;have zS:Hid (Zz w W9):=zJ.trans (t9.below zJ.size Yu);have HT:Hid (To u):=E;obtain⟨H,N⟩:=Af (Bm u S U T P L Q M);have HL:Hid (H.length=17):=by show H.length=17;rw[N];rfl
   have zO:H.toArray.size=17:=by rw[N];rfl
   have HI:Hid (wc.there (w.heap.size+1) 0 H.toArray.size/\∀x∈H,x.oneCell'=true):=⟨by rw[zO];exact zK.there,by rw[N];exact Kv zG⟩;rw[<-N]at x6 x9 y;have HE:=Yw N;have zV:=Yw x6;have zX:=Yw x9;have zI:=Yw y;clear zO N x6 x9 y zG zK zJ t9 E;go_wp2_with (first
    |refine wpList_load_mid rfl 51 _ rfl b 0 rfl H _ (Aa.range zV.o) underlying51 rfl (by rw[HL.o];kernel_rfl) ?_
    |refine wpList_store_mid rfl 51 _ _ rfl (w.heap.size+1) 0 H.toArray rfl rfl HI.o.1 (by rw[List.size_toArray,HL.o];kernel_rfl) (all_oneCell_toArray HI.o.2) ?_)
   rw[<-zI.o];refine bodyPost_ret (AU results93 _ _ (w.heap.size+1) H _ rfl (Aa.range zX.o) underlying51 rfl (by rw[HL.o];kernel_rfl)) rfl ?_;exact⟨u,S,U,T,P,L,Q,M,rs,.inr ⟨r.o,HT.o⟩,by rw[HE.o],zR.o,zS.o⟩
end Go.Proofs.YtoglnpagihdhpaaGreatDoor
