import Derived.Test.YtmjlkgpekcnacaaGreatX16
set_option maxRecDepth 100000
set_option maxHeartbeats 16000000
namespace Go.Proofs.YtmjlkgpekcnacaaGreat
open Go.ChangeShapes Go.WideShapes Go.ChangeAt Go.RowKit _root_.Go.Proofs.Tryz
variable{X:Zh}{b:Nat}{u:Vd}{S U T P L Q M:Value}{c:Zl}{o:An}
def WR(v:Vd)(To:Vd->Prop)(w:Zh)(e:Ending)(w':Zh):Prop:=∃(u:Vd) (S U T P L Q M:Value) (rs:Zj),(¬Cp v/\u=v0\/Cp v/\To u)/\e=.returned (.agg (Bh u S U T P L Q M).toArray)/\AD w' w.heap.size S U T P L Q M rs u/\Zz w w'
def IA(w:Zh)(To:Vd->Prop)(p:Value)(X:Zh):Prop:=
 ∃(b:Nat) (u:Vd) (S U T P L Q M:Value) (rs:Zj),p=.pointer (some ⟨b,0,none⟩)/\To u/\Aa X b (Bh u S U T P L Q M)/\Aa X (w.heap.size+1) Bz/\AD X (w.heap.size+2) S U T P L Q M rs u/\Zz w X
theorem IA.of{w:Zh}{c:Vd->Prop}{a:Zj}(k:c u)(d:Aa X b Bz)(h:Aa X (w.heap.size+1) Bz)(i:AD X (w.heap.size+2) S U T P L Q M a u)(j:b∉CK S U T P L Q M a)(l:w.heap.size+2<=b)(f:Zz w X):
 IA w c (Yy b) (X.setCells b 0 (Bh u S U T P L Q M).toArray.toList):=by
 have t:=AL b (Bh u S U T P L Q M) 0 X;have m:=(d 0 _ rfl).1;refine⟨b,u,S,U,T,P,L,Q,M,a,rfl,k,d.au _ rfl,Aa.same h (t.block _ h.lt Yt),i.stays t (fun g e=>by simp at e;subst e;exact j),f.trans (t.below f.size Yt)⟩
theorem JS{c:Zj}(h:AD X b S U T P L Q M c u):∀x∈(Bh u S U T P L Q M),x.oneCell'=true:=by obtain⟨a,e,_⟩:=h.jb;rw[e];simp[Bh,Value.oneCell']
theorem RY(v:Vd)(s t:Value)(R:Zj)(k:Int)(l:Zl)(To:Vd->Prop)(w:Zh)(hl:R.length=13)(hV:∀X,Zz w X->Calls prog 113 #[.agg (Zg v.wd::Zg v.lim::s::t::R).toArray] X fun e w'=>Aq (Cp v) X w' e)(hC:Cp v->∀X,Zz w X->Calls prog 116 #[.agg #[s,t],Zg k] X fun e w'=>∃u,e=.returned (.agg #[u,Zb])/\w'.ownsRow X.heap.size 9 1 u l.length (l.map Value.string)/\Zz X w')(hO:Cp v->∀X u n,Zz w X->X.ownsRow n 9 1 u l.length (l.map Value.string)->Calls prog 60 #[Zg v.wd,Zg v.lim,.agg #[u,Zb]] X fun e w'=>∃(c:Int) (u:Vd) (S U T P L Q M:Value) (rs:Zj),To u/\e=.returned (.tuple #[.agg (Bh u S U T P L Q M).toArray,Zg c])/\AD w' X.heap.size S U T P L Q M rs u/\Zz X w'):
 Calls prog 98 #[.agg (Zg v.wd::Zg v.lim::s::t::R).toArray,Zg k] w (WR v To w):=by
 obtain⟨W,hW⟩:∃W,W=(w.alloc (.cells (Zg v.wd::Zg v.lim::s::t::R).toArray 80)).alloc (.cells Xs 80):=⟨_,rfl⟩;have bW:=(Bm hW).1;have zW:=(Bm hW).2.1;have HX:Hid (Aa W w.heap.size (Zg v.wd::Zg v.lim::s::t::R)):=(Bm hW).2.2.1;have HZ:Hid (Aa W (w.heap.size+1) Bz):=(Bm (k:=Bz) hW).2.2.2;have zT:Hid ((Zg v.wd::Zg v.lim::s::t::R).length=17):=by show(Zg v.wd::Zg v.lim::s::t::R).length=17;simp[hl]
 have HV:=Yw hV;have HC:=Yw hC;have HO:=Yw hO;have HW:=Yw hW;clear hW hV hC hO hl;go_enter func98,ntmps98;go_upto_region 1 with fail;rw[<-HW.o];clear HW;go_wp2_with (refine wpList_load_mid rfl 80 _ rfl w.heap.size 0 rfl (Zg v.wd::Zg v.lim::s::t::R) _ HX.o.range underlying80 rfl (by rw[zT.o];kernel_rfl) ?_);refine(HV.o W bW).mono ?_;rintro e a ⟨o,rfl,ho,zB⟩;have z1:=zB.size
 have zN:=Yw (Aa.below HX.o zB);have zF:Hid (Aa a (w.heap.size+1) Bz):=Aa.below (v:=Ze) HZ.o zB;have zE:Hid (Zz w a):=bW.trans (zB.mono bW.size);clear zB HV HX HZ bW;cases o with
 |false=>
  have zU:Hid (¬Cp v):=fun h=>by have:=ho.2 h;cases this
  clear ho HC HO;have zC:Bz.toArray.all (·.oneCell')=true:=by simp[Bz,Value.oneCell']
  have zM:=Yw (Zn zC zF.o.there);obtain⟨W9,z⟩:∃X,X=a.setCells (w.heap.size+1) 0 Bz:=⟨_,rfl⟩;have x9:Aa W9 (w.heap.size+1) Bz:=by rw[z];exact zF.o.au _ rfl
  have b9:Below w.heap.size w W9:=zE.o.trans (by rw[z];exact(AL _ _ _ _).below zE.o.size Yu);have zI:=Yw z;clear zC z;go_wp2_with (refine wpList_store_mid rfl 80 _ _ rfl (w.heap.size+1) 0 Xs rfl rfl zM.o.2 Ys zM.o.1 ?_);change bodyPost _ _ _ _ _ (a.setCells (w.heap.size+1) 0 Bz);rw[<-zI.o]
  refine bodyPost_ret (AW results98 _ _ (w.heap.size+1) Bz _ rfl x9.range underlying80 rfl Ys) rfl ?_;exact⟨v0,_,_,_,_,_,_,_,[],.inl ⟨zU.o,rfl⟩,rfl,AD.nil _ _,b9⟩
 |true=>
  have y:Hid (Cp v):=ho.1 rfl;have D:Hid (∀X,Zz a X->Zz w X):=fun X Z=>zE.o.trans (Z.mono zE.o.size);have I:Hid (∀X,Zz a X->Aa X w.heap.size (Zg v.wd::Zg v.lim::s::t::R)/\Aa X (w.heap.size+1) Bz):=fun X Z=>⟨Aa.below zN.o Z,Aa.below (v:=Ze) zF.o Z⟩;clear ho zN zF;go_upto_region 3 with fail;go_cut [5] (fun p wx=>IA w To p wx)
  case first=>
   refine wp_region_held_drew (S:=fun X=>Zz a X) Ys (Below.refl _ _).drew (fun f=> ?_);refine BJ 0 ⟨some 12,.fieldAddr 80 (.tmp 2) 0,0,Az,#[],none⟩ (Yy w.heap.size) (by exact f) ?_;try simp only[Act.put,Zq,Zp,Zo]
   refine ES 1 ⟨some 13,.load 3 (.tmp 12),3,Az,#[AA 0],none⟩ (Zg v.wd) (by exact Or.inl ⟨Yq,fun X Z=>by have hc:=((I.o X Z).1 0 _ rfl).1;go_simp⟩) (by exact f) ?_;try simp only[Act.put,Zq,Zp,Zo]
   refine BJ 2 ⟨some 14,.fieldAddr 80 (.tmp 2) 1,0,Az,#[],none⟩ (Yx w.heap.size 1) (by exact f) ?_;try simp only[Act.put,Zq,Zp,Zo]
   refine ES 3 ⟨some 15,.load 3 (.tmp 14),3,Az,#[AA 2],none⟩ (Zg v.lim) (by exact Or.inl ⟨Yq,fun X Z=>by have hc:=((I.o X Z).1 1 _ rfl).1;go_simp⟩) (by exact f) ?_;try simp only[Act.put,Zq,Zp,Zo]
   refine BJ 4 ⟨some 16,.fieldAddr 80 (.tmp 2) 2,0,Az,#[],none⟩ (Yx w.heap.size 2) (by exact f) ?_;try simp only[Act.put,Zq,Zp,Zo]
   refine ES 5 ⟨some 17,.load 76 (.tmp 16),76,Az,#[AA 4],none⟩ (.agg #[s,t]) (by exact yieldsIf_load_mid Yq 76 _ rfl w.heap.size 2 rfl [s,t] _ (fun X h=>Aa.fj [Zg v.wd,Zg v.lim] [s,t] R (I.o X h).1) underlying76 rfl Ys) (by exact f) ?_;try simp only[Act.put,Zq,Zp,Zo]
   refine BJ 6 ⟨some 18,.move (.tmp 1),3,Az,#[],none⟩ (Zg k) (by exact f) ?_;try simp only[Act.put,Zq,Zp,Zo]
   have h1:=(Below.refl a.heap.size a).drew;refine wpAnyH_ready (rs:=[7,12]) Ys Yu ?_;refine(AllReadyH.cons (o:=⟨some 19,.call {callee:=Callee.value (.func 116),args:= #[.tmp 17,.tmp 18],argTypes:= #[76,3]},76,Az,#[AA 5,AA 6],none⟩) rfl (fun K d=> ?_) (AllReadyH.cons (o:=⟨some 5,.alloc 80,0,Az,#[],none⟩) rfl (fun K d=> ?_) AllReadyH.nil))
   .go_simp;refine(HC.o y.o a.drew (D.o a.drew h1)).mono ?_;rintro e C ⟨x,rfl,zH,J⟩;have B:Below a.heap.size a C:=h1.trans (J.mono h1.size);have z2:=J.size;have y2:=B.size;try go_simp
    refine d.out _ _ B (fun f=> ?_);clear d K;try simp only[Act.put,Zq,Zp,Zo]
    refine wpAnyH_ready (rs:=[8,12]) Ys Yu ?_;refine(AllReadyH.cons (o:=⟨some 20,.call {callee:=Callee.value (.func 60),args:= #[.tmp 13,.tmp 15,.tmp 19],argTypes:= #[3,3,76]},97,Az,#[AA 1,AA 3,AA 7,⟨7,.chain⟩],none⟩) rfl (fun K d=> ?_) (AllReadyH.cons (o:=⟨some 5,.alloc 80,0,Az,#[],none⟩) rfl (fun K d=> ?_) AllReadyH.nil))
    .go_simp;refine(HO.o y.o C x _ (D.o C B) zH).mono ?_;rintro e j ⟨c,u,S,U,T,P,L,Q,M,rs,F,rfl,E,A⟩;have m:Below a.heap.size a j:=B.trans (A.mono B.size);have z3:=A.size;have y3:=m.size;try go_simp
     refine d.out _ _ m (fun f=> ?_);clear d K;try simp only[Act.put,Zq,Zp,Zo]
     refine BJ 9 ⟨some 11,.move (.tmp 20),97,Az,#[AA 8],none⟩ (.tuple #[.agg (Bh u S U T P L Q M).toArray,Zg c]) (by exact f) ?_;try simp only[Act.put,Zq,Zp,Zo]
     refine BJ 10 ⟨some 21,.extract (.tmp 11) 0,80,Az,#[AA 9],none⟩ (.agg (Bh u S U T P L Q M).toArray) (by exact f) ?_;try simp only[Act.put,Zq,Zp,Zo]
     refine BJ 11 ⟨some 22,.extract (.tmp 11) 1,3,Az,#[AA 9,{on:=13,ground:=.gcOnly Departure.lateStores}],none⟩ (Zg c) (by exact f) ?_;try simp only[Act.put,Zq,Zp,Zo]
     refine wpAnyH_ready (rs:=[12]) Ys Yu ?_;refine(AllReadyH.cons (o:=⟨some 5,.alloc 80,0,Az,#[],none⟩) rfl (fun K d=> ?_) AllReadyH.nil);go_simp;obtain⟨r,i⟩:∃Y,Y=j.alloc (.cells Xs 80):=⟨_,rfl⟩;have zA:=(Bc i).1;have zP:=(Bc i).2.1;have O:Aa r j.heap.size Bz:=(Bc (l:=Bz) i).2.2;have q:Below a.heap.size a r:=m.trans (zA.mono m.size);have y4:=q.size;try rw[<-i]
     clear i;refine d.out _ _ q (fun f=> ?_);clear d K;try simp only[Act.put,Zq,Zp,Zo]
     refine wpAnyH_ready (rs:=[13]) Ys Yu ?_;refine(AllReadyH.cons (o:=⟨none,.store 80 (.tmp 5) (.tmp 21),0,Az,#[AA 12,AA 10,⟨8,.chain⟩,Ak 0,Ak 1,Ak 2,Ak 3,Ak 4,Ak 5,Ak 6,Ak 7,Ak 8,Ak 9,Ak 10,{on:=11,ground:=.textOnly Departure.lateStores},Ak 12],none⟩) rfl (fun K d=> ?_) AllReadyH.nil);have V:Aa r j.heap.size Bz:=O
     have va:AD r (w.heap.size+2) S U T P L Q M rs u:=(E.below zA).mono Yv;have hE:IA w To (Yy j.heap.size) (r.setCells j.heap.size 0 (Bh u S U T P L Q M).toArray.toList):=IA.of F V (I.o r q).2 va (fun G=>by have:=E.di _ G;omega) Yv (D.o r q);rw[if_pos Yq]
     refine wp_store_mid 80 _ _ rfl (j.heap.size) 0 (Bh u S U T P L Q M).toArray rfl rfl V.there Ys (all_oneCell_toArray (JS va)) ?_;refine d.out _ _ (q.trans ((AL _ _ _ _).below q.size Yn)) (fun f=> ?_);clear d K;try simp only[Act.put]
     refine BJ 14 ⟨some 6,.assign (.tmp 22),3,Az,#[AA 11,⟨13,.chain⟩,Ak 0,Ak 1,Ak 2,Ak 3,Ak 4,Ak 5,Ak 6,Ak 7,Ak 8,Ak 9,Ak 10,Ak 11,Ak 12,Ak 13],none⟩ (Zg c) (by exact f) ?_;try simp only[Act.put,Zq,Zp,Zo]
     refine wpAnyH_done Ys ?_ _;go_wp2_with fail;go_meet;exact hE
    .go_simp;obtain⟨r,i⟩:∃Y,Y=C.alloc (.cells Xs 80):=⟨_,rfl⟩;have zA:=(Bc i).1;have zP:=(Bc i).2.1;have O:Aa r C.heap.size Bz:=(Bc (l:=Bz) i).2.2;have q:Below a.heap.size a r:=B.trans (zA.mono B.size);have y4:=q.size;try rw[<-i]
     clear i;refine d.out _ _ q (fun f=> ?_);clear d K;try simp only[Act.put,Zq,Zp,Zo]
     refine wpAnyH_ready (rs:=[8]) Ys Yu ?_;refine(AllReadyH.cons (o:=⟨some 20,.call {callee:=Callee.value (.func 60),args:= #[.tmp 13,.tmp 15,.tmp 19],argTypes:= #[3,3,76]},97,Az,#[AA 1,AA 3,AA 7,⟨7,.chain⟩],none⟩) rfl (fun K d=> ?_) AllReadyH.nil);go_simp;refine(HO.o y.o r x _ (D.o r q) (Ap zH zA)).mono ?_;rintro e j ⟨c,u,S,U,T,P,L,Q,M,rs,F,rfl,E,A⟩
     have m:Below a.heap.size a j:=q.trans (A.mono q.size);have z3:=A.size;have y3:=m.size;try go_simp
     refine d.out _ _ m (fun f=> ?_);clear d K;try simp only[Act.put,Zq,Zp,Zo]
     refine BJ 9 ⟨some 11,.move (.tmp 20),97,Az,#[AA 8],none⟩ (.tuple #[.agg (Bh u S U T P L Q M).toArray,Zg c]) (by exact f) ?_;try simp only[Act.put,Zq,Zp,Zo]
     refine BJ 10 ⟨some 21,.extract (.tmp 11) 0,80,Az,#[AA 9],none⟩ (.agg (Bh u S U T P L Q M).toArray) (by exact f) ?_;try simp only[Act.put,Zq,Zp,Zo]
     refine BJ 11 ⟨some 22,.extract (.tmp 11) 1,3,Az,#[AA 9,{on:=13,ground:=.gcOnly Departure.lateStores}],none⟩ (Zg c) (by exact f) ?_;try simp only[Act.put,Zq,Zp,Zo]
     refine wpAnyH_ready (rs:=[13]) Ys Yu ?_;refine(AllReadyH.cons (o:=⟨none,.store 80 (.tmp 5) (.tmp 21),0,Az,#[AA 12,AA 10,⟨8,.chain⟩,Ak 0,Ak 1,Ak 2,Ak 3,Ak 4,Ak 5,Ak 6,Ak 7,Ak 8,Ak 9,Ak 10,{on:=11,ground:=.textOnly Departure.lateStores},Ak 12],none⟩) rfl (fun K d=> ?_) AllReadyH.nil);have V:Aa j C.heap.size Bz:=Aa.below (v:=Ze) O A
     have va:AD j (w.heap.size+2) S U T P L Q M rs u:=E.mono Yv;have hE:IA w To (Yy C.heap.size) (j.setCells C.heap.size 0 (Bh u S U T P L Q M).toArray.toList):=IA.of F V (I.o j m).2 va (fun G=>by have:=E.lo _ G;omega) Yv (D.o j m);rw[if_pos Yq]
     refine wp_store_mid 80 _ _ rfl (C.heap.size) 0 (Bh u S U T P L Q M).toArray rfl rfl V.there Ys (all_oneCell_toArray (JS va)) ?_;refine d.out _ _ (m.trans ((AL _ _ _ _).below m.size Yn)) (fun f=> ?_);clear d K;try simp only[Act.put]
     refine BJ 14 ⟨some 6,.assign (.tmp 22),3,Az,#[AA 11,⟨13,.chain⟩,Ak 0,Ak 1,Ak 2,Ak 3,Ak 4,Ak 5,Ak 6,Ak 7,Ak 8,Ak 9,Ak 10,Ak 11,Ak 12,Ak 13],none⟩ (Zg c) (by exact f) ?_;try simp only[Act.put,Zq,Zp,Zo]
     refine wpAnyH_done Ys ?_ _;go_wp2_with fail;go_meet;exact hE
   .go_simp;obtain⟨r,i⟩:∃Y,Y=(a.alloc (.cells Xs 80)).drew:=⟨_,rfl⟩;have q:Below a.heap.size a r:=by rw[i];exact(Zy).drew
    have O:Aa r a.heap.size Bz:=by rw[i];exact Aa.below (v:=Ze) (Aa.new a Bz 80) (Below.refl _ _).drew
    have zP:=O.lt;try rw[<-i]
    clear i;refine d.out _ _ q (fun f=> ?_);clear d K;try simp only[Act.put,Zq,Zp,Zo]
    refine wpAnyH_ready (rs:=[7]) Ys Yu ?_;refine(AllReadyH.cons (o:=⟨some 19,.call {callee:=Callee.value (.func 116),args:= #[.tmp 17,.tmp 18],argTypes:= #[76,3]},76,Az,#[AA 5,AA 6],none⟩) rfl (fun K d=> ?_) AllReadyH.nil);go_simp;refine(HC.o y.o r (D.o r q)).mono ?_;rintro e C ⟨x,rfl,zH,J⟩;have B:Below a.heap.size a C:=q.trans (J.mono q.size);have z2:=J.size
    have y2:=B.size;try go_simp
    refine d.out _ _ B (fun f=> ?_);clear d K;try simp only[Act.put,Zq,Zp,Zo]
    refine wpAnyH_ready (rs:=[8]) Ys Yu ?_;refine(AllReadyH.cons (o:=⟨some 20,.call {callee:=Callee.value (.func 60),args:= #[.tmp 13,.tmp 15,.tmp 19],argTypes:= #[3,3,76]},97,Az,#[AA 1,AA 3,AA 7,⟨7,.chain⟩],none⟩) rfl (fun K d=> ?_) AllReadyH.nil);go_simp;refine(HO.o y.o C x _ (D.o C B) zH).mono ?_;rintro e j ⟨c,u,S,U,T,P,L,Q,M,rs,F,rfl,E,A⟩
    have m:Below a.heap.size a j:=B.trans (A.mono B.size);have z3:=A.size;have y3:=m.size;try go_simp
    refine d.out _ _ m (fun f=> ?_);clear d K;try simp only[Act.put,Zq,Zp,Zo]
    refine BJ 9 ⟨some 11,.move (.tmp 20),97,Az,#[AA 8],none⟩ (.tuple #[.agg (Bh u S U T P L Q M).toArray,Zg c]) (by exact f) ?_;try simp only[Act.put,Zq,Zp,Zo]
    refine BJ 10 ⟨some 21,.extract (.tmp 11) 0,80,Az,#[AA 9],none⟩ (.agg (Bh u S U T P L Q M).toArray) (by exact f) ?_;try simp only[Act.put,Zq,Zp,Zo]
    refine BJ 11 ⟨some 22,.extract (.tmp 11) 1,3,Az,#[AA 9,{on:=13,ground:=.gcOnly Departure.lateStores}],none⟩ (Zg c) (by exact f) ?_;try simp only[Act.put,Zq,Zp,Zo]
    refine wpAnyH_ready (rs:=[13]) Ys Yu ?_;refine(AllReadyH.cons (o:=⟨none,.store 80 (.tmp 5) (.tmp 21),0,Az,#[AA 12,AA 10,⟨8,.chain⟩,Ak 0,Ak 1,Ak 2,Ak 3,Ak 4,Ak 5,Ak 6,Ak 7,Ak 8,Ak 9,Ak 10,{on:=11,ground:=.textOnly Departure.lateStores},Ak 12],none⟩) rfl (fun K d=> ?_) AllReadyH.nil);have V:Aa j a.heap.size Bz:=Aa.below (v:=Ze) (Aa.below (v:=Ze) O J) A
    have va:AD j (w.heap.size+2) S U T P L Q M rs u:=E.mono Yv;have hE:IA w To (Yy a.heap.size) (j.setCells a.heap.size 0 (Bh u S U T P L Q M).toArray.toList):=IA.of F V (I.o j m).2 va (fun G=>by have:=E.lo _ G;omega) Yv (D.o j m);rw[if_pos Yq]
    refine wp_store_mid 80 _ _ rfl (a.heap.size) 0 (Bh u S U T P L Q M).toArray rfl rfl V.there Ys (all_oneCell_toArray (JS va)) ?_;refine d.out _ _ (m.trans ((AL _ _ _ _).below m.size Yn)) (fun f=> ?_);clear d K;try simp only[Act.put]
    refine BJ 14 ⟨some 6,.assign (.tmp 22),3,Az,#[AA 11,⟨13,.chain⟩,Ak 0,Ak 1,Ak 2,Ak 3,Ak 4,Ak 5,Ak 6,Ak 7,Ak 8,Ak 9,Ak 10,Ak 11,Ak 12,Ak 13],none⟩ (Zg c) (by exact f) ?_;try simp only[Act.put,Zq,Zp,Zo]
    refine wpAnyH_done Ys ?_ _;go_wp2_with fail;go_meet;exact hE
  case rest=>
   obtain⟨b,u,S,U,T,P,L,Q,M,rs,rfl,F,x6,zK,zG,zJ⟩:=hcut;obtain⟨W9,z⟩:∃X,X=wc.setCells (w.heap.size+1) 0 (Bh u S U T P L Q M).toArray.toList:=⟨_,rfl⟩;have t9:Tn [(w.heap.size+1)] wc W9:=by rw[z];exact AL _ _ _ _
   have x9:Aa W9 (w.heap.size+1) (Bh u S U T P L Q M):=by rw[z];exact zK.au _ rfl
   have zR:Hid (AD W9 w.heap.size S U T P L Q M rs u):=(zG.stays t9 (fun g hg G=>by have:=zG.lo g G;simp at hg;omega)).mono Yv;have zS:Hid (Zz w W9):=zJ.trans (t9.below zJ.size Yu);have HT:Hid (To u):=F;obtain⟨H,N⟩:∃H,H=Bh u S U T P L Q M:=⟨_,rfl⟩;have HL:Hid (H.length=17):=by show H.length=17;rw[N];rfl
   have zO:H.toArray.size=17:=by rw[N];rfl
   have HI:Hid (wc.there (w.heap.size+1) 0 H.toArray.size/\∀x∈H,x.oneCell'=true):=⟨by rw[zO];exact zK.there,by rw[N];exact JS zG⟩;rw[<-N]at x6 x9 z;have HE:=Yw N;have zV:=Yw x6;have zX:=Yw x9;have zI:=Yw z;clear zO N x6 x9 z zG zK zJ t9 F;go_wp2_with (first
    |refine wpList_load_mid rfl 80 _ rfl b 0 rfl H _ (Aa.range zV.o) underlying80 rfl (by rw[HL.o];kernel_rfl) ?_
    |refine wpList_store_mid rfl 80 _ _ rfl (w.heap.size+1) 0 H.toArray rfl rfl HI.o.1 (by rw[List.size_toArray,HL.o];kernel_rfl) (all_oneCell_toArray HI.o.2) ?_)
   rw[<-zI.o];refine bodyPost_ret (AW results98 _ _ (w.heap.size+1) H _ rfl (Aa.range zX.o) underlying80 rfl (by rw[HL.o];kernel_rfl)) rfl ?_;exact⟨u,S,U,T,P,L,Q,M,rs,.inr ⟨y.o,HT.o⟩,by rw[HE.o],zR.o,zS.o⟩
def IB(wd lim:Int)(ss tt:Zl)(o:An):Vd:=⟨wd,lim,ss,tt,o.wd,o.D,o.G,o.C,o.ks,o.ps,o.ls,0,[],[],0,0,0⟩
theorem TG{a lim:Int}{b:Zl}(d:((1<=a/\a<=8)/\(0<=lim/\lim<=1000000)/\Dm b c=true))(h:Lb a (b++c) o):(o.code≠0/\FM a lim b c 2 v0)\/(o.code=0/\FM a lim b c 0 (IB a lim b c o)):=by
 rcases h with⟨h,_⟩|⟨_,⟨n,h,rfl⟩|⟨r,h,rfl⟩⟩
 .exact absurd ⟨d.1,DV d.2.2⟩ h
 .exact .inl ⟨Yu,.inr ⟨d,.inl ⟨⟨n,h⟩,rfl,rfl⟩⟩⟩
 .exact .inr ⟨rfl,.inr ⟨d,.inr ⟨r,h,rfl,rfl⟩⟩⟩
theorem RZ{j a d:Zh}{r:Zj}{x y k l:Nat}{v t:Int}{b:Zl}(m:AY a j.heap.size T P L r o.ks o.ps o.ls)(u:Zz a d)(q:d.ownsRow a.heap.size 9 1 (Yz x b.length k) b.length (b.map Value.string))(i:d.ownsRow a.heap.size 9 1 (Yz y c.length l) c.length (c.map Value.string))(s:x≠y)(e:j.heap.size<=a.heap.size):
 AD d j.heap.size (Yz x b.length k) (Yz y c.length l) T P L Zb Zb r (IB v t b c o):=by
 have f:=m.below u;have z:=(q.lt x rfl).1;have A:=(i.lt y rfl).1;refine⟨Ao.own (q.mono e),Ao.own (i.mono e),f,Ao.nil _ _,Ao.nil _ _,?_⟩;have n:=f.nd;rw[Ft]at n;have g:=m.di;unfold CK;simp only[Al,Option.toList_some,Option.toList_none,List.append_nil,List.singleton_append];refine List.nodup_cons.2 ⟨fun h=> ?_,List.nodup_cons.2 ⟨fun h=> ?_,n⟩⟩
 .rcases List.mem_cons.1 h with h|h
  .exact s h
  .have:=g x h;omega
 .have:=g y h;omega
theorem MN(m lim:Int)(a b:Zk)(c d:Nat)(f i:Zl)(w:Zh)(hr:Ab w w.heap.size a f)(hq:Ab w w.heap.size b i)(ha:a=none->f.length=0/\c=0)(hb:b=none->i.length=0/\d=0)(hl:f.length<=1048576)(zS:i.length<=1048576)(hs:∀s∈f,s.size<=1048576)(ht:∀s∈i,s.size<=1048576):
 Calls prog 60 #[Zg m,Zg lim,.agg #[.slice a f.length c,.slice b i.length d]] w (WN m lim f i w):=by
 obtain⟨W,hW⟩:∃W,W=(w.alloc (.cells #[.slice a f.length c,.slice b i.length d] 76)).alloc (.cells Xs 80):=⟨_,rfl⟩;have M:=(Bm hW).1;have zW:=(Bm hW).2.1;have xW:=(Bm hW).2.2.1;have xZ:Aa W (w.heap.size+1) Xr:=by have h1:=Aa.new (w.alloc (.cells #[.slice a f.length c,.slice b i.length d] 76)) Xr 80;rw[World.size_alloc]at h1;rw[hW];exact h1
 have HX:Hid (Aa W _ _):=(Bm hW).2.2.1;have HZ:Hid (Aa W (w.heap.size+1) Xr):=xZ;have HR:Hid (∀X,Zz w X->Ab X X.heap.size a f/\Ab X X.heap.size b i):=fun X N=>⟨hr.M N,hq.M N⟩;have HW:=Yw hW;have R:=Yw (Ga m W);have zA:=Yw (Cj lim 0 1000000 W);have zC:=Yw (DJ a b c d f i W w.heap.size M.size (hr.below M) (hq.below M) hl zS hs ht);obtain⟨y0,y1⟩:=Aa.c2 xW 0 1;clear hW xW xZ hr hq
 by_cases hwd:1<=m/\m<=8
 .rw[decide_eq_true hwd]at R;by_cases hlim:0<=lim/\lim<=1000000
  .rw[decide_eq_true hlim]at zA;cases hlog:Dm f i with
   |true=>
    rw[hlog]at zC;have yT:=DV hlog;obtain⟨xs,zI⟩:∃xs,xs=f++i:=⟨_,rfl⟩;have HA:Hid (∀X,Zz w X->Calls prog 86 #[.agg #[.slice a f.length c,.slice b i.length d]] X fun e Z=>∃g cap,e=.returned (Yz g xs.length cap)/\Z.ownsRow X.heap.size 9 1 (Yz g xs.length cap) xs.length (xs.map Value.string)/\Zz X Z):=fun X N=>by rw[zI];exact ML a b c d f i X (HR.o X N).1 (HR.o X N).2 ha hb hl zS
    have HS:Hid (∀(X:Zh) (g cap:Nat),Ab X X.heap.size (some ⟨g,0,none⟩) xs->Calls prog 85 #[Zg m,Yz g xs.length cap] X fun e Z=>∃(o:An) (z:Zk) (A:Nat) (r:Zk) (t:Nat) (n:Zk) (q:Nat) (rs:Zj),e=.returned (.agg #[Zg o.code,Zg o.wd,Zg o.D,Zg o.G,Zg o.C,.slice z o.ks.length A,.slice r o.ps.length t,.slice n o.ls.length q,.string o.sm,Zg o.le,.string o.a,.string o.b])/\Lb m (f++i) o/\AY Z X.heap.size (.slice z o.ks.length A) (.slice r o.ps.length t) (.slice n o.ls.length q) rs o.ks o.ps o.ls/\Zz X Z):=fun X g cap h=>by
     refine(Kg m _ _ xs X h (by rw[zI];omega) (fun s hx=>by rw[zI]at hx;rcases List.mem_append.1 hx with h|h;exact hs s h;exact ht s h)).mono ?_;rintro e Z ⟨o,T,P,L,rs,I,rfl,hS,hb⟩;obtain⟨z,A,r,t,n,q,rfl,rfl,rfl,_⟩:=hS.rows;exact⟨o,z,A,r,t,n,q,rs,rfl,zI▸I,hS,hb⟩
    have HG:=Yw (Za hwd (Za hlim hlog));clear hs ht zI;go_enter func60,ntmps60;go_wp2_with fail;rw[<-HW.o];refine Calls.mono R.o ?_;rintro e w1 ⟨rfl,j⟩;replace j:=j.symm;subst j;go_wp2_with fail;refine Calls.mono zA.o ?_;rintro e w1 ⟨rfl,j⟩;replace j:=j.symm;subst j;go_wp2_with fail;refine Calls.mono zC.o ?_;rintro e w2 ⟨rfl,zG⟩;have x2:=Aa.below HX.o zG;have yA:=Yw x2
    have yC:Hid (Aa w2 (w.heap.size+1) Xr):=Aa.below (v:=Ze) HZ.o zG;have z2:w.heap.size+2<=w2.heap.size:=by have:=zG.size;omega
    have zK:Hid (Zz w w2):=M.trans (zG.mono M.size);clear y0 y1 R zA zC zG HW HX HZ;obtain⟨y0,y1⟩:=Aa.c2 x2 0 1;clear x2;go_wp2_with fail;refine(HA.o w2 zK.o).mono ?_;rintro e w3 ⟨g,cap,rfl,yH,zH⟩;have yB:=Yw (Aa.below yA.o zH);have yD:Hid (Aa w3 (w.heap.size+1) Xr):=Aa.below (v:=Ze) yC.o zH;have z3:=zH.size;have zM:Hid (Zz w w3):=zK.o.trans (zH.mono zK.o.size);have yI:=Ab.own yH
    clear y0 y1 zH yA yC zK yH;go_wp2_with fail;refine(HS.o w3 g cap yI).mono ?_;rintro e O ⟨o,z,A,r,t,n,q,rs,rfl,I,yF,J⟩;have z4:=J.size;obtain⟨B,zF⟩:∃W,W=O.alloc (.cells #[Zg o.code,Zg o.wd,Zg o.D,Zg o.G,Zg o.C,.slice z o.ks.length A,.slice r o.ps.length t,.slice n o.ls.length q,.string o.sm,Zg o.le,.string o.a,.string o.b] 134):=⟨_,rfl⟩;have zE:=(Bc zF).1;have yU:=(Bc zF).2.1
    have zR:Hid (Aa B _ _):=(Bc zF).2.2;have zP:=Yw (Aa.below (Aa.below yB.o J) zE);have zB:Hid (Aa B (w.heap.size+1) Xr):=Aa.below (v:=Ze) (Aa.below (v:=Ze) yD.o J) zE;have D:Hid (Zz w B):=(zM.o.trans (J.mono zM.o.size)).trans (zE.mono (Zm zM.o.size z4));have zY:Hid (AY B w3.heap.size (.slice z o.ks.length A) (.slice r o.ps.length t) (.slice n o.ls.length q) rs o.ks o.ps o.ls):=yF.below zE
    have zT:Hid (w3.heap.size<=B.heap.size):=by show w3.heap.size<=B.heap.size;omega
    have HC:Hid (∀X,Zz B X->Calls prog 87 #[.agg #[.slice a f.length c,.slice b i.length d]] X fun e Z=>∃x E y F,e=.returned (.agg #[Yz x f.length E,Yz y i.length F])/\Z.ownsRow X.heap.size 9 1 (Yz x f.length E) f.length (f.map Value.string)/\Z.ownsRow X.heap.size 9 1 (Yz y i.length F) i.length (i.map Value.string)/\x≠y/\Zz X Z):=fun X N=>MH a b c d f i X (HR.o X (D.o.trans (N.mono D.o.size))).1 (HR.o X (D.o.trans (N.mono D.o.size))).2 ha hb hl zS
    obtain⟨⟨yS,_⟩,_⟩:=Um zR.o;have zO:=Yw (TG (lim:=lim) HG.o I);have zN:=Yw zF;clear I yF J zE zF yB yD zM HA HS HR HG yI;rcases zO.o with⟨Y,I⟩|⟨Y,I⟩
    .have yO:(o.code==0)=false:=by simpa using Y
     have yP:(o.code !=0)=true:=by simpa using Y
     have U:Hid (FM m lim f i 2 v0):=I;clear zO I Y HC zY zP;go_upto_region 4 with fail;rw[<-zN.o];clear zN;have k:(Xs:Array Value).all (·.oneCell')=true:=by simp[Value.oneCell']
     have H:B.there (w.heap.size+1) 0 17:=(zB.o).there;have G:=Yw (Zn k H);obtain⟨C,l⟩:∃X,X=B.setCells (w.heap.size+1) 0 Xr:=⟨_,rfl⟩;have Q:Aa C (w.heap.size+1) Xr:=by rw[l];exact(zB.o).au _ rfl
     have b9:Below w.heap.size w C:=(D.o).trans (by rw[l];exact(AL _ _ _ _).below (D.o).size Yu);have V:=Yw l;clear k H l;go_wp2_with (refine wpList_store_mid rfl 80 _ _ rfl (w.heap.size+1) 0 Xs rfl rfl G.o.2 Ys G.o.1 ?_);rw[<-V.o];refine bodyPost_ret (FL results60 _ _ (w.heap.size+1) Xr _ rfl rfl Q.range underlying80 rfl Ys) rfl ?_
     exact⟨2,v0,_,_,_,_,_,_,_,[],U.o,rfl,AD.nil _ _,b9⟩
    .have yO:(o.code==0)=true:=by simpa using Y
     have yP:(o.code !=0)=false:=by simpa using Y
     have zU:Hid (FM m lim f i 0 (IB m lim f i o)):=I;clear zO I Y
     have zZ:Hid (∀X,Zz B X->X.rangeAt w.heap.size 0 [.slice a f.length c,.slice b i.length d]/\X.rangeAt O.heap.size 1 (Yh o.wd o.D o.G o.C z o.ks.length A r o.ps.length t n o.ls.length q)):=fun X N=>⟨(Aa.below zP.o N).range,Aa.fj [Zg o.code] (Yh o.wd o.D o.G o.C z o.ks.length A r o.ps.length t n o.ls.length q) [.string o.sm,Zg o.le,.string o.a,.string o.b] (Aa.below zR.o N)⟩
     go_upto_region 6 with fail;rw[<-zN.o];clear zN yS
     go_cut [7] (fun u wx=>u=Zg 0/\∃x E y F,Hid (Aa wx (w.heap.size+1) [Zg m,Zg lim,Yz x f.length E,Yz y i.length F,Zg o.wd,Zg o.D,Zg o.G,Zg o.C,.slice z o.ks.length A,.slice r o.ps.length t,.slice n o.ls.length q,Ze,Zb,Zb,Ze,Ze,Ze]/\Zz w wx/\AD wx w.heap.size (Yz x f.length E) (Yz y i.length F) (.slice z o.ks.length A) (.slice r o.ps.length t) (.slice n o.ls.length q) Zb Zb rs (IB m lim f i o)))
     case first=>
      refine wp_region_held_drew (S:=fun X=>X.rangeAt w.heap.size 0 [.slice a f.length c,.slice b i.length d]/\X.rangeAt O.heap.size 1 (Yh o.wd o.D o.G o.C z o.ks.length A r o.ps.length t n o.ls.length q)) Ys (zZ.o _ (Below.refl _ _).drew) (fun hS=> ?_);refine BJ 0 ⟨some 31,.move (.tmp 0),3,Cx,#[],none⟩ (Zg m) (by exact hS) ?_;try simp only[Act.put]
      refine BJ 1 ⟨some 32,.move (.tmp 1),3,Cx,#[],none⟩ (Zg lim) (by exact hS) ?_;try simp only[Act.put]
      refine ES 2 ⟨some 33,.load 76 (.tmp 5),76,Cx,#[],none⟩ (.agg #[.slice a f.length c,.slice b i.length d]) (by exact yieldsIf_load_mid Yq 76 _ rfl (w.heap.size) 0 rfl [.slice a f.length c,.slice b i.length d] _ (fun X h=>h.1) underlying76 rfl Ys) (by exact hS) ?_;try simp only[Act.put]
      refine BJ 4 ⟨some 35,.fieldAddr 134 (.tmp 8) 1,0,Cx,#[],none⟩ (Yx O.heap.size 1) (by exact hS) ?_;try simp only[Act.put]
      refine ES 5 ⟨some 36,.load 27 (.tmp 35),27,Cx,#[AA 4],none⟩ (.agg (Yj o.wd o.D o.G o.C z o.ks.length A r o.ps.length t n o.ls.length q)) (by exact yieldsIf_load_mid Yq 27 _ rfl (O.heap.size) 1 rfl (Yh o.wd o.D o.G o.C z o.ks.length A r o.ps.length t n o.ls.length q) _ (fun X h=>h.2) underlying27 rfl Ys) (by exact hS) ?_;try simp only[Act.put]
      refine Cu 3 ⟨some 34,.call {callee:=Callee.value (.func 87),args:= #[.tmp 33],argTypes:= #[76]},76,Cx,#[AA 2],none⟩ (fun K hK=> ?_);go_simp;refine(HC.o B.drew (Below.refl _ _).drew).mono ?_;rintro e w5 ⟨x,E,y,F,rfl,yR,zX,zV,yN⟩;have B5:Below B.heap.size B w5:=(Below.refl B.heap.size B).drew.trans yN;try go_simp
      refine hK.out _ _ (zZ.o w5 B5) (fun yJ=> ?_);clear hK K;try simp only[Act.put]
      refine BJ 6 ⟨some 37,.build 80 #[(0,.tmp 31),(1,.tmp 32),(2,.tmp 34),(3,.tmp 36)],80,Cx,#[AA 0,AA 1,AA 3,AA 5],none⟩ (.agg #[Zg m,Zg lim,Yz x f.length E,Yz y i.length F,Zg o.wd,Zg o.D,Zg o.G,Zg o.C,.slice z o.ks.length A,.slice r o.ps.length t,.slice n o.ls.length q,Ze,Zb,Zb,Ze,Ze,Ze]) (by exact yJ) ?_;try simp only[Act.put]
      refine Cu 7 ⟨none,.store 80 (.tmp 6) (.tmp 37),0,Cx,#[AA 6,⟨3,.chain⟩,Ak 0,Ak 1,Ak 2,Ak 3,Ak 4,Ak 5,Ak 6],none⟩ (fun K hK=> ?_);have yG:AD w5 w3.heap.size (Yz x f.length E) (Yz y i.length F) (.slice z o.ks.length A) (.slice r o.ps.length t) (.slice n o.ls.length q) Zb Zb rs (IB m lim f i o):=RZ zY.o B5 yR zX zV zT.o
      have k:(#[Zg m,Zg lim,Yz x f.length E,Yz y i.length F,Zg o.wd,Zg o.D,Zg o.G,Zg o.C,.slice z o.ks.length A,.slice r o.ps.length t,.slice n o.ls.length q,Ze,Zb,Zb,Ze,Ze,Ze]:Array Value).all (·.oneCell')=true:=by simp[Value.oneCell']
      have yE:Aa w5 (w.heap.size+1) Xr:=Aa.below (v:=Ze) zB.o B5;obtain⟨C,l⟩:∃X,X=w5.setCells (w.heap.size+1) 0 [Zg m,Zg lim,Yz x f.length E,Yz y i.length F,Zg o.wd,Zg o.D,Zg o.G,Zg o.C,.slice z o.ks.length A,.slice r o.ps.length t,.slice n o.ls.length q,Ze,Zb,Zb,Ze,Ze,Ze]:=⟨_,rfl⟩
      have Q:Aa C (w.heap.size+1) [Zg m,Zg lim,Yz x f.length E,Yz y i.length F,Zg o.wd,Zg o.D,Zg o.G,Zg o.C,.slice z o.ks.length A,.slice r o.ps.length t,.slice n o.ls.length q,Ze,Zb,Zb,Ze,Ze,Ze]:=by rw[l];exact yE.au _ rfl
      have t9:Tn [w.heap.size+1] w5 C:=by rw[l];exact AL _ _ _ _
      have z5:=B5.size;have B9:Below w.heap.size w C:=(D.o.trans (B5.mono D.o.size)).trans (t9.below (by have:=D.o.size;omega) Yu);have yM:AD C w.heap.size (Yz x f.length E) (Yz y i.length F) (.slice z o.ks.length A) (.slice r o.ps.length t) (.slice n o.ls.length q) Zb Zb rs (IB m lim f i o):=(yG.stays t9 (fun g hg yQ=>by have:=yG.lo g yQ;simp at hg;omega)).mono Yv
      have zJ:=Yw (Zn Q (Zn B9 yM))
      have yL:C.rangeAt w.heap.size 0 [.slice a f.length c,.slice b i.length d]/\C.rangeAt O.heap.size 1 (Yh o.wd o.D o.G o.C z o.ks.length A r o.ps.length t n o.ls.length q):=⟨(Aa.same (Aa.below zP.o B5) (t9.block _ Yv Yu)).range,Aa.fj [Zg o.code] (Yh o.wd o.D o.G o.C z o.ks.length A r o.ps.length t n o.ls.length q) [.string o.sm,Zg o.le,.string o.a,.string o.b] (Aa.same (Aa.below zR.o B5) (t9.block _ Yv Yt))⟩
      rw[if_pos Yq];refine wp_store_mid 80 _ _ rfl (w.heap.size+1) 0 #[Zg m,Zg lim,Yz x f.length E,Yz y i.length F,Zg o.wd,Zg o.D,Zg o.G,Zg o.C,.slice z o.ks.length A,.slice r o.ps.length t,.slice n o.ls.length q,Ze,Zb,Zb,Ze,Ze,Ze] rfl rfl yE.there Ys k ?_;try rw[<-l]
      refine hK.out _ _ yL (fun yK=> ?_);clear hK K;try simp only[Act.put]
      refine BJ 8 ⟨some 7,.assign (.const Ze),3,Cx,#[⟨7,.chain⟩,Ak 0,Ak 1,Ak 2,Ak 3,Ak 4,Ak 5,Ak 6,Ak 7],none⟩ Ze (by exact yK) ?_;try simp only[Act.put]
      refine wpAnyH_done Ys ?_ _;go_wp2_with fail;go_meet;exact⟨rfl,x,E,y,F,zJ.o.1,zJ.o.2⟩
     case rest=>
      obtain⟨rfl,x,E,y,F,HQ⟩:=hcut;have Q:=HQ.o.1;go_wp2;refine bodyPost_ret (FL results60 _ _ (w.heap.size+1) [Zg m,Zg lim,Yz x f.length E,Yz y i.length F,Zg o.wd,Zg o.D,Zg o.G,Zg o.C,.slice z o.ks.length A,.slice r o.ps.length t,.slice n o.ls.length q,Ze,Zb,Zb,Ze,Ze,Ze] _ rfl rfl Q.range underlying80 rfl Ys) rfl ?_
      exact⟨0,IB m lim f i o,_,_,_,_,_,_,_,rs,zU.o,rfl,HQ.o.2.2,HQ.o.2.1⟩
   |false=>
    rw[hlog]at zC;have U:Hid (FM m lim f i 1 v0):=.inl ⟨fun h=>by rw[hlog]at h;exact absurd h.2.2 Yu,rfl,rfl⟩;go_enter func60,ntmps60;go_wp2_with fail;rw[<-HW.o];refine Calls.mono R.o ?_;rintro e w1 ⟨rfl,j⟩;replace j:=j.symm;subst j;go_wp2_with fail;refine Calls.mono zA.o ?_;rintro e w1 ⟨rfl,j⟩;replace j:=j.symm;subst j;go_wp2_with fail;refine Calls.mono zC.o ?_;rintro e O ⟨rfl,J⟩
    have zB:Hid (Aa O (w.heap.size+1) Xr):=Aa.below (v:=Ze) HZ.o J;have D:Hid (Zz w O):=M.trans (J.mono M.size);clear y0 y1 J HX HZ;have k:(Xs:Array Value).all (·.oneCell')=true:=by simp[Value.oneCell']
    have H:O.there (w.heap.size+1) 0 17:=(zB.o).there;have G:=Yw (Zn k H);obtain⟨C,l⟩:∃X,X=O.setCells (w.heap.size+1) 0 Xr:=⟨_,rfl⟩;have Q:Aa C (w.heap.size+1) Xr:=by rw[l];exact(zB.o).au _ rfl
    have b9:Below w.heap.size w C:=(D.o).trans (by rw[l];exact(AL _ _ _ _).below (D.o).size Yu);have V:=Yw l;clear k H l;go_wp2_with (refine wpList_store_mid rfl 80 _ _ rfl (w.heap.size+1) 0 Xs rfl rfl G.o.2 Ys G.o.1 ?_);rw[<-V.o];refine bodyPost_ret (FL results60 _ _ (w.heap.size+1) Xr _ rfl rfl Q.range underlying80 rfl Ys) rfl ?_
    exact⟨1,v0,_,_,_,_,_,_,_,[],U.o,rfl,AD.nil _ _,b9⟩
  .rw[decide_eq_false hlim]at zA;have U:Hid (FM m lim f i 1 v0):=.inl ⟨fun h=>hlim h.2.1,rfl,rfl⟩;go_enter func60,ntmps60;go_wp2_with fail;rw[<-HW.o];refine Calls.mono R.o ?_;rintro e w1 ⟨rfl,j⟩;replace j:=j.symm;subst j;go_wp2_with fail;refine Calls.mono zA.o ?_;rintro e w1 ⟨rfl,j⟩;replace j:=j.symm;subst j;clear y0 y1 HX;have k:(Xs:Array Value).all (·.oneCell')=true:=by simp[Value.oneCell']
   have H:W.there (w.heap.size+1) 0 17:=(HZ.o).there;have G:=Yw (Zn k H);obtain⟨C,l⟩:∃X,X=W.setCells (w.heap.size+1) 0 Xr:=⟨_,rfl⟩;have Q:Aa C (w.heap.size+1) Xr:=by rw[l];exact(HZ.o).au _ rfl
   have b9:Below w.heap.size w C:=(M).trans (by rw[l];exact(AL _ _ _ _).below (M).size Yu);have V:=Yw l;clear k H l;go_wp2_with (refine wpList_store_mid rfl 80 _ _ rfl (w.heap.size+1) 0 Xs rfl rfl G.o.2 Ys G.o.1 ?_);rw[<-V.o];refine bodyPost_ret (FL results60 _ _ (w.heap.size+1) Xr _ rfl rfl Q.range underlying80 rfl Ys) rfl ?_
   exact⟨1,v0,_,_,_,_,_,_,_,[],U.o,rfl,AD.nil _ _,b9⟩
 .rw[decide_eq_false hwd]at R;have U:Hid (FM m lim f i 1 v0):=.inl ⟨fun h=>hwd h.1,rfl,rfl⟩;go_enter func60,ntmps60;go_wp2_with fail;rw[<-HW.o];refine Calls.mono R.o ?_;rintro e w1 ⟨rfl,j⟩;replace j:=j.symm;subst j;clear y0 y1 HX;have k:(Xs:Array Value).all (·.oneCell')=true:=by simp[Value.oneCell']
  have H:W.there (w.heap.size+1) 0 17:=(HZ.o).there;have G:=Yw (Zn k H);obtain⟨C,l⟩:∃X,X=W.setCells (w.heap.size+1) 0 Xr:=⟨_,rfl⟩;have Q:Aa C (w.heap.size+1) Xr:=by rw[l];exact(HZ.o).au _ rfl
  have b9:Below w.heap.size w C:=(M).trans (by rw[l];exact(AL _ _ _ _).below (M).size Yu);have V:=Yw l;clear k H l;go_wp2_with (refine wpList_store_mid rfl 80 _ _ rfl (w.heap.size+1) 0 Xs rfl rfl G.o.2 Ys G.o.1 ?_);rw[<-V.o];refine bodyPost_ret (FL results60 _ _ (w.heap.size+1) Xr _ rfl rfl Q.range underlying80 rfl Ys) rfl ?_
  exact⟨1,v0,_,_,_,_,_,_,_,[],U.o,rfl,AD.nil _ _,b9⟩
theorem OP(Q now d c:Int)(b F:Nat)(j:List (Kd×Value))(K:List Pd)(J:List Ld)(O M:Zk)(P N:Nat)(D u o L:Int)(xa G:Zk)(V cy:Nat)(s:Zi)(f ms:Zl)(w:Zh)(yU:D≠0)(hz:Bf w b 0 j)(zH:b<w.heap.size)(hq:Ab w w.heap.size xa (s::f))(hm:Ab w w.heap.size G ms)(xE:EC G ms.length cy)(vF:Lt w G)(tC:f.length+1<=V)(tI:j.length<=600)(yM:∀z∈j,z.1.B.length<=30)(tG:f.length<=1048576)(tF:ms.length<=100000):
 Calls prog 117 #[.agg (Yj Q now d c (some ⟨b,0,none⟩) j.length F O K.length P M J.length N),.agg (Xy D xa (f.length+1) V G ms.length cy u o L)] w fun e w'=>LU w w' e Q now d c (.slice O K.length P) (.slice M J.length N) (j.map (·.1)) K J D u o L (s::f) ms b xa G j:=by
 have vY:(D==0)=false:=by simpa using yU
 obtain⟨x,E,rfl,xG,xF⟩:=hq.at (k:=0) (by simp);obtain⟨o1,vS,xZ⟩:∃o1,((if V=1 then some ⟨x,E,none⟩else some ⟨x,E+1,none⟩:Zk)=some ⟨x,o1,none⟩)/\∀i t,f[i]?=some t->w.cell? (Zd x (o1+i))=some (.string t):=by
  by_cases h1c:V=1
  .have:f=[]:=List.eq_nil_of_length_eq_zero (by omega);subst this;exact⟨E,if_pos h1c,fun i t h=>by simp at h⟩
  .refine⟨E+1,if_neg h1c,fun i t h=> ?_⟩;have:=xF (i+1) t (by simpa using h);rw[show E+(i+1)=E+1+i by omega]at this;exact this
 obtain⟨W,hW⟩:∃W,W=((w.alloc (.cells (Yj Q now d c (some ⟨b,0,none⟩) j.length F O K.length P M J.length N) 27)).alloc (.cells (Xy D (some ⟨x,E,none⟩) (f.length+1) V G ms.length cy u o L) 78)).alloc (.cells Xw 170):=⟨_,rfl⟩;have zG:Below w.heap.size w W:=by rw[hW];exact((Zy).alloc (by simp) _).alloc (by simp;omega) _
 have vH:W.heap.size=w.heap.size+3:=by rw[hW];simp
 have x2:Aa W (w.heap.size+2) Ek:=by have h1:=Aa.new ((w.alloc (.cells (Yj Q now d c (some ⟨b,0,none⟩) j.length F O K.length P M J.length N) 27)).alloc (.cells (Xy D (some ⟨x,E,none⟩) (f.length+1) V G ms.length cy u o L) 78)) Ek 170;rw[hW];simpa [Ek]using h1
 have x1:Aa W (w.heap.size+1) (Xv D (some ⟨x,E,none⟩) (f.length+1) V G ms.length cy u o L):=by have h1:=Aa.new (w.alloc (.cells (Yj Q now d c (some ⟨b,0,none⟩) j.length F O K.length P M J.length N) 27)) (Xv D (some ⟨x,E,none⟩) (f.length+1) V G ms.length cy u o L) 78;rw[World.size_alloc]at h1;rw[hW];exact Aa.below h1 (Zy)
 have x0:Aa W w.heap.size (Yh Q now d c (some ⟨b,0,none⟩) j.length F O K.length P M J.length N):=by have h1:=Aa.new w (Yh Q now d c (some ⟨b,0,none⟩) j.length F O K.length P M J.length N) 27;rw[hW];exact Aa.below (Aa.below h1 (Zy)) (Zy)
 have HW:=Yw hW;have vZ:Hid (W.heap.size=w.heap.size+3):=vH;have yA:w.heap.size+3<=W.heap.size:=by omega
 clear hW vH;have U:Hid (∀X,Below (w.heap.size+3) W X->Aa X w.heap.size (Yh Q now d c (some ⟨b,0,none⟩) j.length F O K.length P M J.length N)/\Aa X (w.heap.size+1) (Xv D (some ⟨x,E,none⟩) (f.length+1) V G ms.length cy u o L)/\Aa X (w.heap.size+2) Ek):=fun X hX=>⟨Aa.same x0 (hX.block _ (by omega)),Aa.same x1 (hX.block _ (by omega)),Aa.same x2 (hX.block _ (by omega))⟩
 have c0:W.cell? (Zd x E)=some (.string s):=(zG.cell (p:=⟨x,E,none⟩) xG).trans (by simpa using xF 0 s rfl);obtain⟨xn,H,w1,vA,xV,yE⟩:=RL W (some ⟨x,o1,none⟩) (V -1) f (.inr ⟨x,o1,rfl,Zr xG zG.size,fun i t h=>(zG.cell (p:=⟨x,o1+i,none⟩) xG).trans (xZ i t h)⟩) (fun e=>by cases e) (by omega) 29
 have rA:(W.alloc (.cells #[] 9)).cell? (Zd (w.heap.size+1) 1)=some (.slice (some ⟨x,E,none⟩) (f.length+1) V):=((Aa.below x1 (Zy)) 1 _ rfl).1;have zP:=Cn Q now d c (some ⟨b,0,none⟩) F (.slice O K.length P) (.slice M J.length N) (j.map (·.1)) s w1 w.heap.size (AI.below (hz.ct zH) (zG.trans (yE.mono zG.size))) (Zm zG.size yE.size) (by rw[List.length_map];omega);rw[List.length_map]at zP
 have HF:=Yw zP;have T:=Yw (Za hz (Za hq hm));have yC:Hid (Below (w.heap.size+3) W w1):=yE.mono yA;have vM:Hid (Zz w W):=zG;have n:Hid (Ao w1 (w.heap.size+3) (Yz xn f.length H) f):=xV.mono yA;have yH:Hid (∀z∈j,z.1.B.length<=30):=yM;have xH:w.heap.size+3<=w1.heap.size:=Zm yA yE.size;have yR:Below (w.heap.size+3) W W:=Below.refl _ _;obtain⟨i0,i1,i2,i3,i4,i5,i6⟩:=Hg (AS (U.o _ yR).1)
 obtain⟨⟨r0,f0⟩,⟨r1,f1⟩,⟨r2,f2⟩,⟨r3,f3⟩,⟨r4,f4⟩,⟨r5,f5⟩⟩:=r6 (U.o _ yR).2.1;obtain⟨⟨u0,j0⟩,⟨u1,j1⟩,⟨u2,j2⟩,⟨u3,j3⟩,⟨u4,j4⟩,⟨u5,j5⟩,⟨u6,j6⟩,⟨u7,j7⟩,⟨u8,j8⟩,⟨u9,j9⟩,⟨Z,zS⟩,⟨zA,zT⟩,⟨zB,zU⟩,⟨zC,zV⟩,zE,zW⟩:=Ho (U.o _ yR).2.2;clear hz hq hm x0 x1 x2 zG xV yE xF xZ yM zP;go_enter func117,ntmps117;go_upto_region 1 with fail;rw[<-HW.o];clear HW
 go_upto_region 10 with(at_builtin;refine wpList_append_run rfl _ _ 29 29 rfl rfl rfl vA ?_);clear i0 i1 i2 i3 i4 i5 i6 r0 r1 r2 r3 r4 r5 f0 f1 f2 f3 f4 f5 u0 j0 u1 j1 u2 j2 u3 j3 u4 j4 u5 j5 u6 j6 u7 j7 u8 j8 u9 j9 Z zS zA zT zB zU zC zV zE zW vA yR c0 vS rA;obtain⟨i0,i1,i2,i3,i4,i5,i6⟩:=Hg (AS (U.o _ yC.o).1);obtain⟨⟨r0,f0⟩,⟨r1,f1⟩,⟨r2,f2⟩,⟨r3,f3⟩,⟨r4,f4⟩,⟨r5,f5⟩⟩:=r6 (U.o _ yC.o).2.1
 obtain⟨⟨u0,j0⟩,⟨u1,j1⟩,⟨u2,j2⟩,⟨u3,j3⟩,⟨u4,j4⟩,⟨u5,j5⟩,⟨u6,j6⟩,⟨u7,j7⟩,⟨u8,j8⟩,⟨u9,j9⟩,⟨Z,zS⟩,⟨zA,zT⟩,⟨zB,zU⟩,⟨zC,zV⟩,zE,zW⟩:=Ho (U.o _ yC.o).2.2;go_wp2_with fail;refine Calls.mono HF.o ?_;rintro e C ⟨rfl,yS⟩;have zK:Hid (Below (w.heap.size+3) W C):=yC.o.trans (yS.mono xH);have xP:Hid (Ao C (w.heap.size+3) (Yz xn f.length H) f):=n.o.below yS;have xI:w.heap.size+3<=C.heap.size:=Zm xH yS.size
 have S:Hid (Zz w C):=vM.o.trans (zK.o.mono (by omega));clear i0 i1 i2 i3 i4 i5 i6 r0 r1 r2 r3 r4 r5 f0 f1 f2 f3 f4 f5 u0 j0 u1 j1 u2 j2 u3 j3 u4 j4 u5 j5 u6 j6 u7 j7 u8 j8 u9 j9 Z zS zA zT zB zU zC zV zE zW n yC yS HF xH;have n:=Yw xP.o;clear xP;obtain⟨i0,i1,i2,i3,i4,i5,i6⟩:=Hg (AS (U.o _ zK.o).1);obtain⟨⟨r0,f0⟩,⟨r1,f1⟩,⟨r2,f2⟩,⟨r3,f3⟩,⟨r4,f4⟩,⟨r5,f5⟩⟩:=r6 (U.o _ zK.o).2.1
 obtain⟨⟨u0,j0⟩,⟨u1,j1⟩,⟨u2,j2⟩,⟨u3,j3⟩,⟨u4,j4⟩,⟨u5,j5⟩,⟨u6,j6⟩,⟨u7,j7⟩,⟨u8,j8⟩,⟨u9,j9⟩,⟨Z,zS⟩,⟨zA,zT⟩,⟨zB,zU⟩,⟨zC,zV⟩,zE,zW⟩:=Ho (U.o _ zK.o).2.2;rcases BV (j.map (·.1)) s with⟨yG,xY⟩|⟨fi,fu,yG,xW,zP⟩
 .rw[yG];have HN:Hid (¬Aw (j.map (·.1)) s):=xY;clear xY yG;go_wp2;refine bodyPost_ret (v:=.agg #[Ze,Zg Q,Zg now,Zg d,Zg c,Yz b j.length F,.slice O K.length P,.slice M J.length N,Zg D,Yz xn f.length H,.slice G ms.length cy,Zg u,Zg o,Zg L,Zb]) (by simp[results,results117,go_sem,u0,u1,u2,u3,u4,u5,u6,u7,u8,u9,Z,zA,zB,zC,zE]) rfl ?_
  have hT:=(Bd C (w.heap.size+1) 1 (Yz xn f.length H)).mono (V':=[w.heap.size+1,w.heap.size+2]) (by simp);refine LU.from (X:=C) [w.heap.size+1,w.heap.size+2] ?_ (hT.trans ((Jr _ (w.heap.size+2) _ _ _ _ _ _ _ _ _ _ _ _ _ _ _).mono (by simp)));intro wf A;have r:=S.o.trans (A.below S.o.size (by simp));obtain⟨a,cc,e1,hS⟩:=(n.o.I A (fun g m e=>by have:=(n.o.W m).1;simp at e;omega)).row;cases e1
  have yD:=Ab.M T.o.2.2 r;exact⟨⟨⟨j.map (·.1),D,u,o,L,f,ms,[]⟩,b,F,j,_,_,none,_,_,0,rfl,.mark yU s f _ _ rfl (.inl ⟨.inl HN.o,rfl,rfl⟩),rfl,T.o.1.below r zH,Zr zH r.size,hS,yD,.inl rfl,⟨(fun p e=>by cases e;exact .inl rfl),CV.own n.o (by omega),(fun p e=> .inr (.inr (.inl ⟨p,e,rfl⟩))),CV.no⟩,fun z hz=>hz,n.o.cap,xE,n.o.iz.mono A.size,vF.mono r.size⟩,r⟩
 .rw[yG];have xL:decide ((fi:Int)<0)=false:=by simp
  have vR:decide ((0:Int)<=fi)=true:=by simp
  have yZ:Hid ((j.map (·.1))[fi]?=some fu/\fu.sum=s):=⟨xW,zP⟩;have HC:=Yw (DM G cy ms s C C.heap.size (Ab.M T.o.2.2 S.o) (by omega));clear yG xW zP;go_wp2_with fail;refine Calls.mono HC.o ?_;rintro e w9 ⟨rfl,vE⟩;rw[vE];clear vE HC w9;by_cases I:s∈ms
  .have R:ms.any (fun x=>decide (x=s))=true:=List.any_eq_true.2 ⟨s,I,by simp⟩;rw[R];clear R;go_wp2;refine bodyPost_ret (v:=.agg #[Ze,Zg Q,Zg now,Zg d,Zg c,Yz b j.length F,.slice O K.length P,.slice M J.length N,Zg D,Yz xn f.length H,.slice G ms.length cy,Zg u,Zg o,Zg L,Zb]) (by simp[results,results117,go_sem,u0,u1,u2,u3,u4,u5,u6,u7,u8,u9,Z,zA,zB,zC,zE]) rfl ?_
   have hT:=(Bd C (w.heap.size+1) 1 (Yz xn f.length H)).mono (V':=[w.heap.size+1,w.heap.size+2]) (by simp);refine LU.from (X:=C) [w.heap.size+1,w.heap.size+2] ?_ (hT.trans ((Jr _ (w.heap.size+2) _ _ _ _ _ _ _ _ _ _ _ _ _ _ _).mono (by simp)));intro wf A;have r:=S.o.trans (A.below S.o.size (by simp));obtain⟨a,cc,e1,hS⟩:=(n.o.I A (fun g m e=>by have:=(n.o.W m).1;simp at e;omega)).row;cases e1
   have yD:=Ab.M T.o.2.2 r;exact⟨⟨⟨j.map (·.1),D,u,o,L,f,ms,[]⟩,b,F,j,_,_,none,_,_,0,rfl,.mark yU s f _ _ rfl (.inl ⟨.inr I,rfl,rfl⟩),rfl,T.o.1.below r zH,Zr zH r.size,hS,yD,.inl rfl,⟨(fun p e=>by cases e;exact .inl rfl),CV.own n.o (by omega),(fun p e=> .inr (.inr (.inl ⟨p,e,rfl⟩))),CV.no⟩,fun z hz=>hz,n.o.cap,xE,n.o.iz.mono A.size,vF.mono r.size⟩,r⟩
  .have R:ms.any (fun x=>decide (x=s))=false:=by simp;exact fun x hx e=>I (e▸hx)
   rw[R];have xK:Hid (s∉ms):=I;clear R I;obtain⟨y2,tB,w3,vC,xC,yF⟩:=RL C G cy ms (Ab.M T.o.2.2 S.o) xE.2 (by omega) 29;have bA:Below w3.heap.size w3 (w3.alloc (.cells #[.string s] 9)):=Zy;obtain⟨M',w4,vD,yQ,xX,vT⟩:=JP (w3.alloc (.cells #[.string s] 9)) C.heap.size _ ms (xC.below bA) ⟨w3.heap.size,0,none⟩ 1 s (by simp[go_sem]) (by omega) (by have:=yF.size;simp;omega) 29;obtain⟨y,l,xU,_⟩:=yQ.row
   rw[List.length_append,List.length_cons,List.length_nil,Nat.zero_add]at xU;subst xU;have zM:Below C.heap.size C w4:=(yF.trans (bA.mono yF.size)).grown xX (by have:=yF.size;simp;omega) (fun k hk=>((xC.below bA).W hk).1);have xB:Hid (Below (w.heap.size+3) W w4):=zK.o.trans (zM.mono xI);have xA:Hid (Ao w4 (w.heap.size+3) (Yz xn f.length H) f):=n.o.below zM
   have yL:∀g,Al (Yz xn f.length H)=some g->g<C.heap.size:=fun g m=>(n.o.W m).2;have zZ:∀g,Al (.slice y (ms.length+1) l)=some g->C.heap.size<=g:=fun g m=>(yQ.W m).1;obtain⟨X,hX⟩:∃X,X=w4.setCell (Zd (w.heap.size+1) 2) (.slice y (ms.length+1) l):=⟨_,rfl⟩;have zN:Tn [w.heap.size+1] w4 X:=by rw[hX];exact Bd _ _ _ _
   have yV:Hid (Ao X (w.heap.size+3) (Yz xn f.length H) f/\Ao X (w.heap.size+3) (.slice y (ms.length+1) l) (ms++[s])/\(∀g,Al (Yz xn f.length H)=some g->Al (.slice y (ms.length+1) l)≠some g)):=
    ⟨xA.o.I zN (fun g m e=>by have:=(xA.o.W m).1;simp at e;omega),(yQ.I zN (fun g m e=>by have:=zZ g m;simp at e;omega)).mono xI,fun g m yT=>by have:=yL g m;have:=zZ g yT;omega⟩
   have yB:Hid (∀Y,Below (w.heap.size+3) X Y->Aa Y w.heap.size (Yh Q now d c (some ⟨b,0,none⟩) j.length F O K.length P M J.length N)/\Aa Y (w.heap.size+1) (Xv D (some ⟨x,E,none⟩) (f.length+1) V y (ms.length+1) l u o L)/\Aa Y (w.heap.size+2) Ek):=fun Y hY=>by
    have h4:=U.o _ xB.o;have tE:w.heap.size+3<=w4.heap.size:=Zm xI zM.size;have e0:Aa X w.heap.size (Yh Q now d c (some ⟨b,0,none⟩) j.length F O K.length P M J.length N):=Aa.same h4.1 (zN.block _ (by omega) (by simp));have e2:Aa X (w.heap.size+2) Ek:=Aa.same h4.2.2 (zN.block _ (by omega) (by simp))
    have e1:Aa X (w.heap.size+1) (Xv D (some ⟨x,E,none⟩) (f.length+1) V y (ms.length+1) l u o L):=by rw[hX];exact h4.2.1.set 2 _
    exact⟨Aa.same e0 (hY.block _ (by omega)),Aa.same e1 (hY.block _ (by omega)),Aa.same e2 (hY.block _ (by omega))⟩
   have yY:Hid (Zz w X):=(S.o.trans (zM.mono S.o.size)).trans (zN.below (Zm S.o.size zM.size) (by simp));obtain⟨⟨n0,m0⟩,⟨n1,m1⟩,⟨n2,m2⟩,⟨n3,m3⟩,⟨n4,m4⟩,⟨n5,m5⟩⟩:=r6 (U.o _ xB.o).2.1;have xR:=Yw hX;have vI:w.heap.size+3<=X.heap.size:=by have:=zN.size;have:=zM.size;omega
   have rB:(C.alloc (.cells #[] 9)).cell? (Zd (w.heap.size+1) 2)=some (.slice G ms.length cy):=((Aa.below (U.o _ zK.o).2.1 (Zy)) 2 _ rfl).1;clear hX zN xA yL zZ zM bA xC yQ xX vT yF;go_upto_region 13 with(first
    |(at_builtin;refine wpList_append_run rfl _ _ 29 29 rfl rfl rfl vC ?_)
    |(at_builtin;refine wpList_append_run rfl _ _ 29 29 rfl rfl rfl vD ?_))
   clear rB vC vD i0 i1 i2 i3 i4 i5 i6 r0 r1 r2 r3 r4 r5 f0 f1 f2 f3 f4 f5 u0 j0 u1 j1 u2 j2 u3 j3 u4 j4 u5 j5 u6 j6 u7 j7 u8 j8 u9 j9 Z zS zA zT zB zU zC zV zE zW;rw[<-xR.o];clear xR n0 n1 n2 n3 n4 n5 m0 m1 m2 m3 m4 m5 xB U zK n S;obtain⟨z,zR,vJ⟩:∃z,j[fi]?=some z/\z.1=fu:=by have:=yZ.o.1;rw[List.getElem?_map]at this;obtain⟨z,h1,h2⟩:=Option.map_eq_some_iff.1 this;exact⟨z,h1,h2⟩
   have vX:fi<j.length:=(Zw zR).1;have tH:z.1.B.length<=30:=yH.o z (Zs zR);obtain⟨⟨_,_,_,vG⟩,ad,rc,xJ,vW⟩:=(T.o.1.below yY.o zH) fi z zR;rw[xJ,Nat.zero_add]at vG;have vO:Hid (∀Y,Below (w.heap.size+3) X Y->Ab Y Y.heap.size (some ad) z.1.B):=fun Y hY=>Ab.M (w:=w) (by
    obtain⟨_,tA,tJ,yN,xN⟩:=T.o.1 fi z zR;rw[xJ]at yN;cases yN;exact xN) (yY.o.trans (hY.mono (by omega)))
   have xQ:Hid (z.1∈j.map (·.1)/\z.1.sum=s):=⟨List.mem_map.2 ⟨z,Zs zR,rfl⟩,by rw[vJ];exact yZ.o.2⟩;have yJ:Below (w.heap.size+3) X X:=Below.refl _ _;obtain⟨i0,i1,i2,i3,i4,i5,i6⟩:=Hg (AS (yB.o _ yJ).1);clear xJ vW zR vJ yZ yH vR xL
   have vN:Hid (∀Y v,Ao Y (w.heap.size+3) (.slice y (ms.length+1) l) (ms++[s])->Calls prog 58 #[.slice y (ms.length+1) l,.string v] Y fun e w'=>e=.returned (.bool ((ms++[s]).any (fun x=>decide (x=v))))/\w'=Y):=fun Y v hY=>by obtain⟨a2,c2,e2,vU⟩:=hY.row;rw[List.length_append,List.length_cons,List.length_nil,Nat.zero_add]at e2;cases e2;have:=DM y l (ms++[s]) v Y Y.heap.size vU (by rw[List.length_append];simp;omega);rw[List.length_append,List.length_cons,List.length_nil,Nat.zero_add]at this;exact this
   go_wp2
   go_loopw [6,9] (fun v i wr=>∃(k:Nat) (Qk:Value),k<=z.1.B.length/\i=Zg k/\v=Qk/\Hid (Ao wr (w.heap.size+3) Qk (f++fresh (ms++[s]) (z.1.B.take k))/\Ao wr (w.heap.size+3) (.slice y (ms.length+1) l) (ms++[s])/\(∀g,Al Qk=some g->Al (.slice y (ms.length+1) l)≠some g)/\Below (w.heap.size+3) X wr)) (fun _ i _=>z.1.B.length -(intOf i).toNat)
   case atStart=>exact⟨0,_,Nat.zero_le _,rfl,rfl,by simpa [fresh]using yV.o.1,yV.o.2.1,yV.o.2.2,yJ⟩
   case round=>
    clear yV i0 i1 i2 i3 i4 i5 i6 vG;obtain⟨k,Qk,hk,rfl,hv,B⟩:=hrel;have vV:=hv.symm;subst vV;clear hv;by_cases hlt:k<z.1.B.length
    .obtain⟨rb,vL,ha,hb,hc⟩:=(vO.o _ B.o.2.2.2).at hlt;cases ha;have HG:Hid (z.1.B[k]?=some z.1.B[k]):=Zv hlt;have c0:=hc k _ HG.o;have xO:=Yw (Qr (ms:=ms++[s]) HG.o);have vQ:(f++fresh (ms++[s]) (z.1.B.take k)).length<=1048606:=by have:(fresh (ms++[s]) (z.1.B.take k)).length<=(z.1.B.take k).length:=List.length_filter_le _ _;simp at this |-;omega
     clear hc;generalize z.1.B[k]=v at *
     generalize hO:f++fresh (ms++[s]) (z.1.B.take k)=qk at *
     have HO:=Yw hO;clear hO;obtain⟨⟨_,_⟩,⟨_,_⟩,⟨r2,_⟩,_⟩:=r6 (yB.o _ B.o.2.2.2).2.1;have S0:wr.drew.cell? (Zd (w.heap.size+1) 2)=some (.slice y (ms.length+1) l)/\wr.drew.cell? (Zd rb (vL+k))=some (.string v):=⟨r2,c0⟩;have HD:Hid (Ao wr.drew (w.heap.size+3) (.slice y (ms.length+1) l) (ms++[s])):=B.o.2.1.below ((Below.refl _ _).drew);have tD:(k:Int)<z.1.B.length:=by omega
     obtain⟨bb,xD⟩:∃bb,(ms++[s]).any (fun x=>decide (x=v))=bb:=⟨_,rfl⟩;have zF:=vN.o wr.drew v HD.o;rw[xD]at zF;have zO:=Yw zF;have yO:Hid ((ms++[s]).any (fun x=>decide (x=v))=bb):=xD;clear r2 c0 xD zF;go_upto_region 17 with fail;go_region_held3 (fun Y=>Y.cell? (Zd (w.heap.size+1) 2)=some (.slice y (ms.length+1) l)/\Y.cell? (Zd rb (vL+k))=some (.string v))
      (first|with_reducible exact S0)
      (first
        |(go_at_call 58;refine Calls.mono zO.o ?_;rintro e zI ⟨rfl,xM⟩;subst xM))
     have bD:Below wr.heap.size wr wr.drew:=(Below.refl _ _).drew;have zY:Hid (Ao wr.drew (w.heap.size+3) Qk qk):=B.o.1.below bD;have zX:Hid (Below (w.heap.size+3) X wr.drew):=B.o.2.2.2.drew;have yX:=Yw B.o.2.2.1;have vK:w.heap.size+3<=wr.drew.heap.size:=Zm vI zX.o.size;obtain⟨_,c0⟩:=S0;clear B bD zO;generalize wr.drew=zI at *
     cases bb with
     |true=>
      have I:v∈ms++[s]:=by obtain⟨x,hx,e⟩:=List.any_eq_true.1 yO.o;simp at e;exact e▸hx
      have HE:Hid (f++fresh (ms++[s]) (z.1.B.take (k+1))=qk):=by show _=_;rw[xO.o.1 I];exact HO.o
      clear yO I c0;go_wp2;exact⟨⟨k+1,Qk,by omega,by go_num,rfl,⟨by rw[HE.o];exact zY.o,HD.o,yX.o,zX.o⟩⟩,by simp[intOf];omega⟩
     |false=>
      have I:¬v∈ms++[s]:=fun e=>by have:=List.any_eq_false.1 yO.o v e;simp at this
      have HE:Hid (f++fresh (ms++[s]) (z.1.B.take (k+1))=qk++[v]):=by show _=_;rw[xO.o.2 I,<-List.append_assoc,HO.o]
      have bA:Below zI.heap.size zI (zI.alloc (.cells #[.string v] 9)):=Zy;obtain⟨Q',yW,hr,yI,zJ,yK⟩:=JP (zI.alloc (.cells #[.string v] 9)) (w.heap.size+3) Qk qk (zY.o.below bA) ⟨zI.heap.size,0,none⟩ 1 v (by simp[go_sem]) (by omega) (by simp;omega) 29;have xS:Below (w.heap.size+3) zI yW:=(bA.mono vK).grown zJ (by simp;omega) (fun q e=>(zY.o.W e).1)
      have xT:∀g,Al (.slice y (ms.length+1) l)=some g->g<zI.heap.size:=fun g m=>(HD.o.W m).2;have yP:Hid (Ao yW (w.heap.size+3) Q' (qk++[v])/\Ao yW (w.heap.size+3) (.slice y (ms.length+1) l) (ms++[s])/\(∀g,Al Q'=some g->Al (.slice y (ms.length+1) l)≠some g)/\Below (w.heap.size+3) X yW):=by
       refine⟨yI,(HD.o.below bA).stays zJ.size (fun g m=>zJ.block g (by have:=xT g m;simp;omega) (fun e=>yX.o g e.symm m)),fun g m yT=> ?_,zX.o.trans xS⟩;rcases yK with e|e
       .exact yX.o g (e▸m) yT
       .rw[e]at m;cases m;have:=xT _ yT;simp only[World.size_alloc]at this;omega
      clear yO I yI zJ yK xS bA;go_wp2_with (at_builtin;refine wpList_append_run rfl _ _ 29 29 rfl rfl rfl hr ?_);clear hr;go_wp2;exact⟨⟨k+1,Q',by omega,by go_num,rfl,⟨by rw[HE.o];exact yP.o.1,yP.o.2.1,yP.o.2.2.1,yP.o.2.2.2⟩⟩,by simp[intOf];omega⟩
    .obtain rfl:k=z.1.B.length:=by omega
     have hE:=B.o.1;rw[Zt (Zx)]at hE;have HE:=Yw hE;obtain⟨qa,qc,vP,_⟩:=hE.row;have vQ:(f++fresh (ms++[s]) z.1.B).length<=1048606:=by have:(fresh (ms++[s]) z.1.B).length<=z.1.B.length:=List.length_filter_le _ _;simp at this |-;omega
     subst vP;have S:Hid (Zz w wr):=yY.o.trans (B.o.2.2.2.mono (by omega));obtain⟨i0,i1,i2,i3,i4,i5,i6⟩:=Hg (AS (yB.o _ B.o.2.2.2).1);obtain⟨⟨r0,f0⟩,⟨r1,f1⟩,⟨r2,f2⟩,⟨r3,f3⟩,⟨r4,f4⟩,⟨r5,f5⟩⟩:=r6 (yB.o _ B.o.2.2.2).2.1;obtain⟨⟨u0,j0⟩,⟨u1,j1⟩,⟨u2,j2⟩,⟨u3,j3⟩,⟨u4,j4⟩,⟨u5,j5⟩,⟨u6,j6⟩,⟨u7,j7⟩,⟨u8,j8⟩,⟨u9,j9⟩,⟨Z,zS⟩,⟨zA,zT⟩,⟨zB,zU⟩,⟨zC,zV⟩,zE,zW⟩:=Ho (yB.o _ B.o.2.2.2).2.2
     have vK:w.heap.size+3<=wr.heap.size:=Zm vI B.o.2.2.2.size;generalize hqq:f++fresh (ms++[s]) z.1.B=qq at *
     clear hE;go_wp2;refine bodyPost_ret (v:=.agg #[Ze,Zg Q,Zg now,Zg d,Zg c,Yz b j.length F,.slice O K.length P,.slice M J.length N,Zg D,.slice qa qq.length qc,.slice y (ms.length+1) l,Zg u,Zg o,Zg L,Zb]) (by simp[results,results117,go_sem,u0,u1,u2,u3,u4,u5,u6,u7,u8,u9,Z,zA,zB,zC,zE]) rfl ?_
     have hT:=(Bd wr (w.heap.size+1) 1 (.slice qa qq.length qc)).mono (V':=[w.heap.size+1,w.heap.size+2]) (by simp);refine LU.from (X:=wr) [w.heap.size+1,w.heap.size+2] ?_ (hT.trans ((Jr _ (w.heap.size+2) _ _ _ _ _ _ _ _ _ _ _ _ _ _ _).mono (by simp)));intro wf A;have r:=S.o.trans (A.below S.o.size (by simp));obtain⟨a,cc,e1,hS⟩:=(HE.o.I A (fun g m e=>by have:=(HE.o.W m).1;simp at e;omega)).row
     cases e1;obtain⟨ma,mc,e2,yD⟩:=(B.o.2.1.I A (fun g m e=>by have:=(B.o.2.1.W m).1;simp at e;omega)).row;rw[List.length_append,List.length_cons,List.length_nil,Nat.zero_add]at e2;cases e2
     exact⟨⟨⟨j.map (·.1),D,u,o,L,qq,(ms++[s]),[]⟩,b,F,j,_,_,none,qc,l,0,(by simp),.mark yU s f _ _ rfl (.inr ⟨z.1,xQ.o.1,xQ.o.2,xK.o,rfl,hqq.symm⟩),rfl,T.o.1.below r zH,Zr zH r.size,hS,yD,.inl rfl,⟨(fun p e=>by cases e;exact .inl rfl),CV.own HE.o (by omega),CV.own B.o.2.1 (by omega),CV.no⟩,fun z hz=>hz,HE.o.cap,B.o.2.1.cap,HE.o.iz.mono A.size,B.o.2.1.iz.mono A.size⟩,r⟩
end Go.Proofs.YtmjlkgpekcnacaaGreat
