import Derived.Test.YtckmnfhmoankmaaGreatDoorX20
set_option maxRecDepth 100000
set_option maxHeartbeats 16000000
namespace Go.Proofs.YtckmnfhmoankmaaGreatDoor
open Go.ChangeShapes Go.WideShapes Go.ChangeAt Go.RowKit _root_.Go.Proofs.Tryz
namespace ExactPut
theorem By{X:Zh}{b:Nat}{o:Obj}(h:X.heap[b]?=some o):b<X.heap.size:=(Array.getElem?_eq_some_iff.1 h).1
theorem walk_gen{D:Type}(To:D->Prop)(RX:Nat->Zh->Zj->Prop)(OX:Nat->Nat->Zh->Zj->Prop)(MX:Nat->Nat->Zh->Zj->Nat->Prop)(RY:Nat->Zh->Zj->Prop)(OY:Nat->Nat->Zh->Zj->Prop)(MY:Nat->Nat->Zh->Zj->Nat->Prop)(RA:D->Nat->Zh->Zj->Prop)(OA:D->Nat->Nat->Zh->Zj->Prop)(MA:D->Nat->Nat->Zh->Zj->Nat->Prop)(yK zI:Prop)(A B:Zj)(n:Int)(w:Zh)(hA:A.length=17)(hB:B.length=2)
 (kX:yK->Gs 17 1000 11 13 RX OX MX) (kY:zI->Gs 2 0 12 14 RY OY MY) (kA:∀o,To o->Gs 22 1 10 15 (RA o) (OA o) (MA o))
 (vX:zI->∀(lo N:Nat) (X:Zh) (cs:Zj) (k:Nat),OY lo N X cs->1<=k->k<=90000000->Calls prog 14 #[.agg cs.toArray,Zg k] X fun e m=>(∃K:Nat,e=.returned (Zg K))/\Below lo X m/\∀q,N<=q->q<X.heap.size->m.heap[q]?=X.heap[q]?)
 (hh:∀o,To o->∀(lo N:Nat) (X:Zh) (cs:Zj) (K:Nat),MA o lo N X cs K->Calls prog 16 #[.agg cs.toArray,Zg 1] X fun e m=>e=.returned (Zg K)/\Zz X m)
 (dj:∀o o',To o->To o'->o=o')
 (hz:∀X,Zz w X->Calls prog 4 #[.agg A.toArray,Zg 1048576] X fun e m=>∃r:Int,e=.returned (Zg r)/\Zz X m/\(0<=r->yK/\r<=1048576))
 (hy:∀X (l:Int),0<=l->l<=1048576->Zz w X->Calls prog 5 #[.agg B.toArray,Zg l] X fun e m=>∃r:Int,e=.returned (Zg r)/\Zz X m/\(0<=r->zI))
 (ht:yK->∀X,Zz w X->Calls prog 7 #[.agg A.toArray] X fun e m=>∃cs:Zj,e=.returned (.agg cs.toArray)/\RX m.heap.size m cs/\OX X.heap.size m.heap.size m cs/\Zz X m)
 (hu:zI->∀X,Zz w X->Calls prog 8 #[.agg B.toArray] X fun e m=>∃cs:Zj,e=.returned (.agg cs.toArray)/\RY m.heap.size m cs/\OY X.heap.size m.heap.size m cs/\Zz X m)
 (hs:yK->zI->∀X cs ds,Zz w X->RX X.heap.size X cs->RY X.heap.size X ds->Calls prog 6 #[.agg cs.toArray,.agg ds.toArray,Zg n] X fun e m=>∃(o:D) (d:Zj),e=.returned (.agg d.toArray)/\To o/\(∀V Y,(∀b∈V,b<X.heap.size)->Tn V m Y->RA o Y.heap.size Y d)/\Zz X m)
 (hi:yK->zI->∀X cs ds,Zz w X->RX X.heap.size X cs->RY X.heap.size X ds->Calls prog 9 #[.agg cs.toArray,.agg ds.toArray,Zg n] X fun e m=>∃(o:D) (d:Zj),e=.returned (.agg d.toArray)/\To o/\OA o X.heap.size m.heap.size m d/\Zz X m):
 Calls prog 3 #[.agg A.toArray,.agg B.toArray,Zg n] w fun e w'=>e=.returned (.bool true)/\Zz w w':=by
 obtain⟨W,hW⟩:∃W,W=(w.alloc (.cells A.toArray 33)).alloc (.cells B.toArray 35):=⟨_,rfl⟩;have bW:=(Bj hW).1;have yU:Hid (W.heap.size=w.heap.size+2):=(Bj hW).2.1;have zY:Hid (A.length=17):=hA;have zZ:Hid (B.length=2):=hB
 have HA:Hid (∀X,Zz W X->Aa X w.heap.size A/\Aa X (w.heap.size+1) B/\Zz w X):=fun X hX=>⟨Aa.same (Bj hW).2.2.1 (hX.block _ (by have:=(Bj hW).2.1;omega)),Aa.same (Bj hW).2.2.2 (hX.block _ (by have:=(Bj hW).2.1;omega)),bW.trans (hX.mono bW.size)⟩;have C:Hid (yK->Gs 17 1000 11 13 RX OX MX):=kX;have KY:Hid (zI->Gs 2 0 12 14 RY OY MY):=kY;have s:=Yx kA;have xL:=Yx vX;have HH:=Yx hh;have HD:=Yx dj
 have HZ:=Yx hz;have HY:=Yx hy;have HT:=Yx ht;have HU:=Yx hu;have HS:=Yx hs;have HI:=Yx hi;have HW:=Yx hW;clear hW bW kX kY kA vX hh dj hz hy ht hu hs hi hA hB;go_enter func3,ntmps3;go_upto_region 1 with fail;rw[←HW.o];clear HW;go_wp2_with (refine wpList_load_mid rfl 33 _ rfl w.heap.size 0 rfl A _ (HA.o W (Below.refl _ _)).1.range underlying33 rfl (by rw[zY.o];kernel_rfl) ?_)
 refine(HZ.o W (HA.o W (Below.refl _ _)).2.2).mono ?_;rintro e w1 ⟨G,rfl,vW,xZ⟩;have c:Hid (Zz W w1):=vW;clear vW HZ;by_cases n1:G<0
 ·clear xZ;go_wp2;go_ret;exact⟨rfl,(HA.o w1 c.o).2.2⟩
 obtain⟨hf,tB⟩:=xZ (by omega);replace C:Hid (Gs 17 1000 11 13 RX OX MX):=C.o hf;replace HT:=Yx (HT.o hf);replace HS:=Yx (HS.o hf);replace HI:=Yx (HI.o hf);clear hf xZ;go_wp2_with (refine wpList_load_mid rfl 35 _ rfl (w.heap.size+1) 0 rfl B _ (HA.o w1 c.o).2.1.range underlying35 rfl (by rw[zZ.o];kernel_rfl) ?_);refine(HY.o w1 G (by omega) tB (HA.o w1 c.o).2.2).mono ?_;rintro e t ⟨r2,rfl,yQ,vA⟩
 replace c:Hid (Zz W t):=c.o.trans (yQ.mono c.o.size);clear yQ HY n1 tB;by_cases n2:r2<0
 ·clear vA;go_wp2;go_ret;exact⟨rfl,(HA.o t c.o).2.2⟩
 have hf:=vA (by omega);replace KY:Hid (Gs 2 0 12 14 RY OY MY):=KY.o hf;replace xL:=Yx (xL.o hf);replace HU:=Yx (HU.o hf);replace HS:=Yx (HS.o hf);replace HI:=Yx (HI.o hf)
 have yT:Hid (∀X cs ds,Zz w X->RX X.heap.size X cs->RY X.heap.size X ds->Calls prog 9 #[.agg cs.toArray,.agg ds.toArray,Zg n] X fun e m=>∃(o:D) (d:Zj),e=.returned (.agg d.toArray)/\To o/\(∀V Y,(∀b∈V,b<X.heap.size)->Tn V m Y->RA o Y.heap.size Y d)/\Zz X m):=fun X cs ds R h2 h3=>(HI.o X cs ds R h2 h3).mono (fun e m ⟨o,d,q1,q2,q3,q4⟩=>⟨o,d,q1,q2,fun V Y hV hT=>((s.o o q2).ft _ _ _ _ ((s.o o q2).bz _ _ _ _ _ q3 hT.size (fun q R h2=>hT.block q h2 (fun e=>by have:=hV q e;omega)))).2,q4⟩)
 clear hf vA
 as_aux_lemma=>
 go_upto_region 8 with fail;clear n2;go_cut [8] (fun p wx=>∃(pS:Nat) (d:Zj) (o:D),p=Yz pS/\Hid (To o/\Aa wx pS d/\RA o wx.heap.size wx d/\t.heap.size<=pS/\Zz t wx))
 case first=>
  have k0:Below t.heap.size t t.drew:=(Below.refl _ _).drew;have y:Hid (∀X m,(Aa X w.heap.size A/\Aa X (w.heap.size+1) B)->Zz X m->Aa m w.heap.size A/\Aa m (w.heap.size+1) B):=fun X m R h2=>⟨Aa.same R.1 (h2.block _ (R.1.fs zY.o)),Aa.same R.2 (h2.block _ (R.2.fs zZ.o))⟩
  have yA:Hid (∀X m cb,(Aa X w.heap.size A/\Aa X (w.heap.size+1) B)->t.heap.size<=cb->Tn [cb] X m->Aa m w.heap.size A/\Aa m (w.heap.size+1) B):=fun X m cb R h2 h3=>⟨Aa.same R.1 (h3.block _ (R.1.fs zY.o) (by have:=yU.o;have:=c.o.size;simp;omega)),Aa.same R.2 (h3.block _ (R.2.fs zZ.o) (by have:=yU.o;have:=c.o.size;simp;omega))⟩
  have U:Hid (∀X,Zz t X->Zz w X):=fun X hX=>(HA.o X (c.o.trans (hX.mono c.o.size))).2.2
  have zC:Hid (∀X bb d o,t.heap.size<=bb->Zz t X->X.heap[bb]?=some (.cells AQ.toArray 48 (0,0))->To o->RA o (X.setCells bb 0 d).heap.size (X.setCells bb 0 d) d->Hid (To o/\Aa (X.setCells bb 0 d.toArray.toList) bb d/\RA o (X.setCells bb 0 d.toArray.toList).heap.size (X.setCells bb 0 d.toArray.toList) d/\t.heap.size<=bb/\Zz t (X.setCells bb 0 d.toArray.toList))):=fun X bb d o R h2 h3 h4 h5=>⟨h4,(Aa.dv (l:=AQ) h3).aw d (by rw[((s.o o h4).cj _ _ _ h5).1];rfl),h5,R,h2.trans ((Ax bb d 0 X).below h2.size (by simp;exact R))⟩
  refine wp_region_held_drew (S:=fun X=>Aa X w.heap.size A/\Aa X (w.heap.size+1) B) (by kernel_rfl) (show _/\_ from⟨(HA.o t c.o).1,(HA.o t c.o).2.1⟩) (fun hS=> ?_);refine Di 0 ⟨some 26,.load 33 (.tmp 3),33,Bc,#[],none⟩ (.agg A.toArray) (by exact yieldsIf_load_mid (by rfl) 33 _ rfl w.heap.size 0 rfl A _ (fun X h=>h.1.range) underlying33 rfl (by rw[zY.o];kernel_rfl)) (by exact hS) ?_
  try simp only[Act.put,As]
  refine Di 2 ⟨some 28,.load 35 (.tmp 4),35,Bc,#[],none⟩ (.agg B.toArray) (by exact yieldsIf_load_mid (by rfl) 35 _ rfl (w.heap.size+1) 0 rfl B _ (fun X h=>h.2.range) underlying35 rfl (by rw[zZ.o];kernel_rfl)) (by exact hS) ?_;try simp only[Act.put,As]
  refine Br 4 ⟨some 30,.move (.tmp 2),3,Bc,#[],none⟩ (Zg n) (by exact hS) ?_;try simp only[Act.put,As]
  refine wpAnyH_ready (rs:=[1,6]) (by kernel_rfl) (by simp) ?_;refine AllReadyH.cons (o:=⟨some 27,.call ⟨.value (.func 7),#[.tmp 26],#[33]⟩,46,Bc,#[Ai 0],none⟩) rfl (fun K a=> ?_) (AllReadyH.cons (o:=⟨some 8,.alloc 48,0,Bc,#[],none⟩) rfl (fun K a=> ?_) AllReadyH.nil)
  ·go_simp;refine(HT.o _ (U.o _ k0)).mono ?_;rintro e E ⟨zN,rfl,G,_,b1⟩;try go_simp
   refine a.out _ _ (y.o _ _ hS b1) (fun zP=> ?_);clear a K;try simp only[Act.put,As]
   have O:=k0.trans (b1.mono k0.size);refine wpAnyH_ready (rs:=[3,6]) (by kernel_rfl) (by simp) ?_;refine AllReadyH.cons (o:=⟨some 29,.call ⟨.value (.func 8),#[.tmp 28],#[35]⟩,51,Bc,#[Ai 2,⟨1,.chain⟩],none⟩) rfl (fun K a=> ?_) (AllReadyH.cons (o:=⟨some 8,.alloc 48,0,Bc,#[],none⟩) rfl (fun K a=> ?_) AllReadyH.nil)
   ·go_simp;refine(HU.o _ (U.o _ O)).mono ?_;rintro e F ⟨zH,rfl,r2,_,H⟩;try go_simp
    refine a.out _ _ (y.o _ _ zP H) (fun zB=> ?_);clear a K;try simp only[Act.put,As]
    have v:=O.trans (H.mono O.size);replace G:=C.o.bh _ _ _ _ (C.o.bi _ _ _ _ G H) H.size;refine wpAnyH_ready (rs:=[5,6]) (by kernel_rfl) (by simp) ?_;refine AllReadyH.cons (o:=⟨some 31,.call ⟨.value (.func 6),#[.tmp 27,.tmp 29,.tmp 30],#[46,51,3]⟩,48,Bc,#[Ai 1,Ai 3,Ai 4,⟨3,.chain⟩],none⟩) rfl (fun K a=> ?_) (AllReadyH.cons (o:=⟨some 8,.alloc 48,0,Bc,#[],none⟩) rfl (fun K a=> ?_) AllReadyH.nil)
    ·go_simp;refine(HS.o _ zN zH (U.o _ v) G r2).mono ?_;rintro e g ⟨M,d,rfl,x,J,P⟩;try go_simp
     refine a.out _ _ (y.o _ _ zB P) (fun zF=> ?_);clear a K;try simp only[Act.put,As]
     have zA:=v.trans (P.mono v.size);refine AM 6 ⟨some 8,.alloc 48,0,Bc,#[],none⟩ (fun K a=> ?_);go_simp;refine a.out _ _ (y.o _ _ zF (Zy)) (fun zG=> ?_);clear a K;try simp only[Act.put,As]
     have Z:Below g.heap.size g (g.alloc (.cells AQ.toArray 48)):=(Zy);have kB:=zA.trans (Z.mono zA.size);have f:(g.alloc (.cells AQ.toArray 48)).heap[g.heap.size]?=some (.cells AQ.toArray 48 (0,0)):=heap_alloc_new _ _;have hlen:=(s.o M x).cj _ _ _ (J [] g (by simp) (Tn.of (Below.refl _ _)));have I:t.heap.size<=g.heap.size:=zA.size
     have zE:=J [] (((g.alloc (.cells AQ.toArray 48))).setCells g.heap.size 0 d) (by simp) (Tn.of (boxed (X:=g) (cs:=d) (z:=AQ) (T:=48) (by rw[hlen.1];rfl)).2.1);refine AM 7 ⟨none,.store 48 (.tmp 8) (.tmp 31),0,Bc,#[Ai 6,Ai 5,⟨5,.chain⟩,Ae 0,Ae 1,Ae 2,Ae 3,Ae 4,Ae 5,Ae 6],none⟩ (fun K a=> ?_);rw[if_pos (by rfl)]
     refine wp_store_mid 48 _ _ rfl g.heap.size 0 d.toArray rfl rfl (by rw[show d.toArray.size=22 from by rw[List.size_toArray];exact hlen.1];exact(Aa.dv (l:=AQ) f).there) (by rw[List.size_toArray,hlen.1];kernel_rfl) (all_oneCell_toArray hlen.2) ?_;refine a.out _ _ (yA.o _ _ _ zG I (Ax _ _ _ _)) (fun yJ=> ?_);clear a K;try simp only[Act.put]
     refine wpAnyH_done (by kernel_rfl) ?_ _;go_wp2_with fail;go_meet;exact⟨g.heap.size,d,M,rfl,zC.o (g.alloc (.cells AQ.toArray 48)) g.heap.size d M I kB f x zE⟩
    ·go_simp;refine a.out _ _ (y.o _ _ zB (Zy)) (fun zF=> ?_);clear a K;try simp only[Act.put,As]
     have Z:Below F.heap.size F (F.alloc (.cells AQ.toArray 48)):=(Zy);have kB:=v.trans (Z.mono v.size);replace G:=C.o.bh _ _ _ _ (C.o.bi _ _ _ _ G Z) Z.size;replace r2:=KY.o.bh _ _ _ _ (KY.o.bi _ _ _ _ r2 Z) Z.size;have f:(F.alloc (.cells AQ.toArray 48)).heap[F.heap.size]?=some (.cells AQ.toArray 48 (0,0)):=heap_alloc_new _ _
     refine AM 5 ⟨some 31,.call ⟨.value (.func 6),#[.tmp 27,.tmp 29,.tmp 30],#[46,51,3]⟩,48,Bc,#[Ai 1,Ai 3,Ai 4,⟨3,.chain⟩],none⟩ (fun K a=> ?_);go_simp;have zR:=By f;refine(HS.o _ zN zH (U.o _ kB) G r2).mono ?_;rintro e g ⟨M,d,rfl,x,J,P⟩;try go_simp
     refine a.out _ _ (y.o _ _ zF P) (fun zG=> ?_);clear a K;try simp only[Act.put,As]
     have zA:=kB.trans (P.mono kB.size);replace f:g.heap[F.heap.size]?=some (.cells AQ.toArray 48 (0,0)):=(P.block F.heap.size (By f)).trans f;have hlen:=(s.o M x).cj _ _ _ (J [] g (by simp) (Tn.of (Below.refl _ _)));have I:t.heap.size<=F.heap.size:=v.size;have zE:=J [F.heap.size] (g.setCells F.heap.size 0 d) (fun b hb=>by rw[List.mem_singleton]at hb;rw[hb];exact zR) (Ax _ _ _ _)
     refine AM 7 ⟨none,.store 48 (.tmp 8) (.tmp 31),0,Bc,#[Ai 6,Ai 5,⟨5,.chain⟩,Ae 0,Ae 1,Ae 2,Ae 3,Ae 4,Ae 5,Ae 6],none⟩ (fun K a=> ?_);rw[if_pos (by rfl)]
     refine wp_store_mid 48 _ _ rfl F.heap.size 0 d.toArray rfl rfl (by rw[show d.toArray.size=22 from by rw[List.size_toArray];exact hlen.1];exact(Aa.dv (l:=AQ) f).there) (by rw[List.size_toArray,hlen.1];kernel_rfl) (all_oneCell_toArray hlen.2) ?_;refine a.out _ _ (yA.o _ _ _ zG I (Ax _ _ _ _)) (fun yJ=> ?_);clear a K;try simp only[Act.put]
     refine wpAnyH_done (by kernel_rfl) ?_ _;go_wp2_with fail;go_meet;exact⟨F.heap.size,d,M,rfl,zC.o g F.heap.size d M I zA f x zE⟩
   ·go_simp;refine a.out _ _ (y.o _ _ zP (Zy)) (fun zB=> ?_);clear a K;try simp only[Act.put,As]
    have Z:Below E.heap.size E (E.alloc (.cells AQ.toArray 48)):=(Zy);have kB:=O.trans (Z.mono O.size);replace G:=C.o.bh _ _ _ _ (C.o.bi _ _ _ _ G Z) Z.size;have f:(E.alloc (.cells AQ.toArray 48)).heap[E.heap.size]?=some (.cells AQ.toArray 48 (0,0)):=heap_alloc_new _ _;refine AM 3 ⟨some 29,.call ⟨.value (.func 8),#[.tmp 28],#[35]⟩,51,Bc,#[Ai 2,⟨1,.chain⟩],none⟩ (fun K a=> ?_);go_simp
    refine(HU.o _ (U.o _ kB)).mono ?_;rintro e F ⟨zH,rfl,r2,_,H⟩;try go_simp
    refine a.out _ _ (y.o _ _ zB H) (fun zF=> ?_);clear a K;try simp only[Act.put,As]
    have v:=kB.trans (H.mono kB.size);replace G:=C.o.bh _ _ _ _ (C.o.bi _ _ _ _ G H) H.size;replace f:F.heap[E.heap.size]?=some (.cells AQ.toArray 48 (0,0)):=(H.block E.heap.size (By f)).trans f;refine AM 5 ⟨some 31,.call ⟨.value (.func 6),#[.tmp 27,.tmp 29,.tmp 30],#[46,51,3]⟩,48,Bc,#[Ai 1,Ai 3,Ai 4,⟨3,.chain⟩],none⟩ (fun K a=> ?_);go_simp;have zR:=By f
    refine(HS.o _ zN zH (U.o _ v) G r2).mono ?_;rintro e g ⟨M,d,rfl,x,J,P⟩;try go_simp
    refine a.out _ _ (y.o _ _ zF P) (fun zG=> ?_);clear a K;try simp only[Act.put,As]
    have zA:=v.trans (P.mono v.size);replace f:g.heap[E.heap.size]?=some (.cells AQ.toArray 48 (0,0)):=(P.block E.heap.size (By f)).trans f;have hlen:=(s.o M x).cj _ _ _ (J [] g (by simp) (Tn.of (Below.refl _ _)));have I:t.heap.size<=E.heap.size:=O.size;have zE:=J [E.heap.size] (g.setCells E.heap.size 0 d) (fun b hb=>by rw[List.mem_singleton]at hb;rw[hb];exact zR) (Ax _ _ _ _)
    refine AM 7 ⟨none,.store 48 (.tmp 8) (.tmp 31),0,Bc,#[Ai 6,Ai 5,⟨5,.chain⟩,Ae 0,Ae 1,Ae 2,Ae 3,Ae 4,Ae 5,Ae 6],none⟩ (fun K a=> ?_);rw[if_pos (by rfl)]
    refine wp_store_mid 48 _ _ rfl E.heap.size 0 d.toArray rfl rfl (by rw[show d.toArray.size=22 from by rw[List.size_toArray];exact hlen.1];exact(Aa.dv (l:=AQ) f).there) (by rw[List.size_toArray,hlen.1];kernel_rfl) (all_oneCell_toArray hlen.2) ?_;refine a.out _ _ (yA.o _ _ _ zG I (Ax _ _ _ _)) (fun yJ=> ?_);clear a K;try simp only[Act.put]
    refine wpAnyH_done (by kernel_rfl) ?_ _;go_wp2_with fail;go_meet;exact⟨E.heap.size,d,M,rfl,zC.o g E.heap.size d M I zA f x zE⟩
  ·go_simp;refine a.out _ _ (y.o _ _ hS (Zy)) (fun zP=> ?_);clear a K;try simp only[Act.put,As]
   have Z:Below t.heap.size t (t.alloc (.cells AQ.toArray 48)).drew:=(Zy).drew;have kB:=Z;have f:(t.alloc (.cells AQ.toArray 48)).drew.heap[t.heap.size]?=some (.cells AQ.toArray 48 (0,0)):=show(t.alloc (.cells AQ.toArray 48)).heap[t.heap.size]?=_ from heap_alloc_new _ _;refine AM 1 ⟨some 27,.call ⟨.value (.func 7),#[.tmp 26],#[33]⟩,46,Bc,#[Ai 0],none⟩ (fun K a=> ?_);go_simp
   refine(HT.o _ (U.o _ kB)).mono ?_;rintro e E ⟨zN,rfl,G,_,b1⟩;try go_simp
   refine a.out _ _ (y.o _ _ zP b1) (fun zB=> ?_);clear a K;try simp only[Act.put,As]
   have O:=kB.trans (b1.mono kB.size);replace f:E.heap[t.heap.size]?=some (.cells AQ.toArray 48 (0,0)):=(b1.block t.heap.size (By f)).trans f;refine AM 3 ⟨some 29,.call ⟨.value (.func 8),#[.tmp 28],#[35]⟩,51,Bc,#[Ai 2,⟨1,.chain⟩],none⟩ (fun K a=> ?_);go_simp;refine(HU.o _ (U.o _ O)).mono ?_;rintro e F ⟨zH,rfl,r2,_,H⟩;try go_simp
   refine a.out _ _ (y.o _ _ zB H) (fun zF=> ?_);clear a K;try simp only[Act.put,As]
   have v:=O.trans (H.mono O.size);replace G:=C.o.bh _ _ _ _ (C.o.bi _ _ _ _ G H) H.size;replace f:F.heap[t.heap.size]?=some (.cells AQ.toArray 48 (0,0)):=(H.block t.heap.size (By f)).trans f;refine AM 5 ⟨some 31,.call ⟨.value (.func 6),#[.tmp 27,.tmp 29,.tmp 30],#[46,51,3]⟩,48,Bc,#[Ai 1,Ai 3,Ai 4,⟨3,.chain⟩],none⟩ (fun K a=> ?_);go_simp;have zR:=By f;refine(HS.o _ zN zH (U.o _ v) G r2).mono ?_
   rintro e g ⟨M,d,rfl,x,J,P⟩;try go_simp
   refine a.out _ _ (y.o _ _ zF P) (fun zG=> ?_);clear a K;try simp only[Act.put,As]
   have zA:=v.trans (P.mono v.size);replace f:g.heap[t.heap.size]?=some (.cells AQ.toArray 48 (0,0)):=(P.block t.heap.size (By f)).trans f;have hlen:=(s.o M x).cj _ _ _ (J [] g (by simp) (Tn.of (Below.refl _ _)));have I:t.heap.size<=t.heap.size:=Zx;have zE:=J [t.heap.size] (g.setCells t.heap.size 0 d) (fun b hb=>by rw[List.mem_singleton]at hb;rw[hb];exact zR) (Ax _ _ _ _)
   refine AM 7 ⟨none,.store 48 (.tmp 8) (.tmp 31),0,Bc,#[Ai 6,Ai 5,⟨5,.chain⟩,Ae 0,Ae 1,Ae 2,Ae 3,Ae 4,Ae 5,Ae 6],none⟩ (fun K a=> ?_);rw[if_pos (by rfl)];refine wp_store_mid 48 _ _ rfl t.heap.size 0 d.toArray rfl rfl (by rw[show d.toArray.size=22 from by rw[List.size_toArray];exact hlen.1];exact(Aa.dv (l:=AQ) f).there) (by rw[List.size_toArray,hlen.1];kernel_rfl) (all_oneCell_toArray hlen.2) ?_
   refine a.out _ _ (yA.o _ _ _ zG I (Ax _ _ _ _)) (fun yJ=> ?_);clear a K;try simp only[Act.put]
   refine wpAnyH_done (by kernel_rfl) ?_ _;go_wp2_with fail;go_meet;exact⟨t.heap.size,d,M,rfl,zC.o g t.heap.size d M I zA f x zE⟩
 case rest=>
 revert wc;intro W3 hcut;obtain⟨pS,d,o,rfl,hcut⟩:=hcut;obtain⟨x,xS,vF,tL,xR⟩:=hcut.o;have vM:Hid (To o):=x;have vR:=Yx s.o;replace s:Hid (Gs 22 1 10 15 (RA o) (OA o) (MA o)):=s.o o x;replace HH:=Yx (HH.o o x);have yD:Hid (d.length=22):=(s.o.cj _ _ _ vF).1;have tO:=xR.size;replace c:Hid (Zz W W3):=c.o.trans (xR.mono c.o.size);obtain⟨L,hL⟩:∃L,L=W3.heap.size:=⟨_,rfl⟩
 have i:Hid (L1 (RA o) w W3 A d pS L):=by rw[hL];exact⟨(HA.o W3 c.o).2.2,(HA.o W3 c.o).1,xS,vF,by have:=c.o.size;have:=yU.o;omega,xS.fs yD.o,Zx⟩
 have xP:Hid (W.heap.size<=L):=by rw[hL];exact c.o.size
 have xO:Hid (L=W3.heap.size):=hL;clear hcut x xS vF tL xR tO HS hL
 as_aux_lemma=>
 go_wp2_with (refine wpList_load_mid rfl 33 _ rfl w.heap.size 0 rfl A _ (HA.o W3 c.o).1.range underlying33 rfl (by rw[zY.o];kernel_rfl) ?_);refine(HT.o W3 (HA.o W3 c.o).2.2).mono ?_;rintro e w4 ⟨xc,rfl,yY,yX,zS⟩;replace i:=Yx (i.o.ak s.o (zS.mono i.o.le));replace c:Hid (Zz W w4):=c.o.trans (zS.mono c.o.size);obtain⟨zW,xF⟩:=C.o.cj _ _ _ yY
 obtain⟨W4,xW⟩:∃Y,Y=(w4.alloc (.cells Xx 46)).setCells w4.heap.size 0 xc.toArray.toList:=⟨_,rfl⟩;have xC:=boxed (X:=w4) (cs:=xc) (z:=Yb) (T:=46) (by rw[zW];rfl);have vT:W4=(w4.alloc (.cells Yb.toArray 46)).setCells w4.heap.size 0 xc:=xW;rw[←vT]at xC;obtain⟨tF,yV,tI⟩:=xC
 have zK:Hid ((w4.alloc (.cells Xx 46)).there w4.heap.size 0 xc.toArray.size/\xc.length=17/\∀u∈xc,u.oneCell'=true):=⟨by rw[show xc.toArray.size=17 from by rw[List.size_toArray];exact zW];exact(Aa.new w4 Yb 46).there,zW,xF⟩;have vP:=Yx xW;have yC:Hid (xc.length=17):=zW;clear xW vT zW xF;have tA:OX L w4.heap.size w4 xc:=by rw[xO.o];exact yX
 have E2:Hid (L2 OX W4 xc L w4.heap.size w4.heap.size):=⟨tF,C.o.bz _ _ _ _ _ tA yV.size (fun q _ h2=>yV.block q h2),Zx,by omega⟩;replace i:=Yx (i.o.ak s.o (yV.mono i.o.le));replace c:Hid (Zz W W4):=c.o.trans (yV.mono c.o.size);have yL:Hid (L<=w4.heap.size/\W4.heap.size=w4.heap.size+1):=⟨by rw[xO.o];exact zS.size,tI⟩;clear yY yX zS tF yV tA xO tI
 as_aux_lemma=>
 go_wp2_with (first|refine wpList_load_mid rfl 35 _ rfl (w.heap.size+1) 0 rfl B _ (HA.o W4 c.o).2.1.range underlying35 rfl (by rw[zZ.o];kernel_rfl) ?_|(refine wpList_store_mid rfl 46 _ _ rfl w4.heap.size 0 xc.toArray rfl rfl zK.o.1 (by rw[List.size_toArray,zK.o.2.1];kernel_rfl) (all_oneCell_toArray zK.o.2.2) ?_;rw[←vP.o]));clear vP zK;refine(HU.o W4 (HA.o W4 c.o).2.2).mono ?_
 rintro e v4 ⟨tc,rfl,yY,yX,zS⟩;replace i:=Yx (i.o.ak s.o (zS.mono i.o.le));replace E2:=Yx (E2.o.ak C.o zS);replace c:Hid (Zz W v4):=c.o.trans (zS.mono c.o.size);obtain⟨zV,xE⟩:=KY.o.cj _ _ _ yY;obtain⟨V4,xV⟩:∃Y,Y=(v4.alloc (.cells #[Zd,Zc] 51)).setCells v4.heap.size 0 tc.toArray.toList:=⟨_,rfl⟩;have xB:=boxed (X:=v4) (cs:=tc) (z:=[Zd,Zc]) (T:=51) (by rw[zV];rfl)
 have vS:V4=(v4.alloc (.cells [Zd,Zc].toArray 51)).setCells v4.heap.size 0 tc:=xV;rw[←vS]at xB;obtain⟨tE,yN,tH⟩:=xB;have zJ:Hid ((v4.alloc (.cells #[Zd,Zc] 51)).there v4.heap.size 0 tc.toArray.size/\tc.length=2/\∀u∈tc,u.oneCell'=true):=⟨by rw[show tc.toArray.size=2 from by rw[List.size_toArray];exact zV];exact(Aa.new v4 [Zd,Zc] 51).there,zV,xE⟩;have vO:=Yx xV;have yB:Hid (tc.length=2):=zV
 clear xV vS zV xE;have Q:Hid (L2 OY V4 tc W4.heap.size v4.heap.size v4.heap.size):=⟨tE,KY.o.bz _ _ _ _ _ yX yN.size (fun q _ h2=>yN.block q h2),Zx,by omega⟩;replace i:=Yx (i.o.ak s.o (yN.mono i.o.le));replace E2:=Yx (E2.o.ak C.o yN);replace c:Hid (Zz W V4):=c.o.trans (yN.mono c.o.size);have yM:Hid (W4.heap.size<=v4.heap.size/\V4.heap.size=v4.heap.size+1):=⟨zS.size,tH⟩;clear yY yX zS tE yN tH
 as_aux_lemma=>
 go_wp2_with (first|refine wpList_load_mid rfl 46 _ rfl w4.heap.size 0 rfl xc _ E2.o.bX.range underlying46 rfl (by rw[yC.o];kernel_rfl) ?_|refine wpList_load_mid rfl 51 _ rfl v4.heap.size 0 rfl tc _ Q.o.bX.range underlying51 rfl (by rw[yB.o];kernel_rfl) ?_|(refine wpList_store_mid rfl 51 _ _ rfl v4.heap.size 0 tc.toArray rfl rfl zJ.o.1 (by rw[List.size_toArray,zJ.o.2.1];kernel_rfl) (all_oneCell_toArray zJ.o.2.2) ?_;rw[←vO.o]))
 clear vO zJ;refine(HI.o V4 xc tc i.o.cz (C.o.ft _ _ _ _ E2.o.oX).2 (KY.o.ft _ _ _ _ Q.o.oX).2).mono ?_;rintro e w5 ⟨o5,gc,rfl,xK,vC,yO⟩;obtain rfl:=HD.o o o5 vM.o xK;replace i:=Yx (i.o.ak s.o (yO.mono i.o.le));replace E2:=Yx (E2.o.ak C.o yO);replace Q:=Yx (Q.o.ak KY.o yO);replace c:Hid (Zz W w5):=c.o.trans (yO.mono c.o.size);have tC:=(s.o.ft _ _ _ _ vC).2;obtain⟨zX,xG⟩:=s.o.cj _ _ _ tC
 obtain⟨W5,xX⟩:∃Y,Y=(w5.alloc (.cells Ya 48)).setCells w5.heap.size 0 gc.toArray.toList:=⟨_,rfl⟩;have xD:=boxed (X:=w5) (cs:=gc) (z:=Xv) (T:=48) (by rw[zX];rfl);have vU:W5=(w5.alloc (.cells Xv.toArray 48)).setCells w5.heap.size 0 gc:=xX;rw[←vU]at xD;obtain⟨tG,yI,tP⟩:=xD
 have zM:Hid ((w5.alloc (.cells Ya 48)).there w5.heap.size 0 gc.toArray.size/\gc.length=22/\∀u∈gc,u.oneCell'=true):=⟨by rw[show gc.toArray.size=22 from by rw[List.size_toArray];exact zX];exact(Aa.new w5 Xv 48).there,zX,xG⟩;have vQ:=Yx xX;have zU:Hid (gc.length=22):=zX;clear xX vU zX xG
 have E3:Hid (L3 (OA o) W5 gc V4.heap.size w5.heap.size w5.heap.size):=⟨tG,s.o.bz _ _ _ _ _ vC yI.size (fun q _ h2=>yI.block q h2),Zx,by omega⟩;replace i:=Yx (i.o.ak s.o (yI.mono i.o.le));replace E2:=Yx (E2.o.ak C.o yI);replace Q:=Yx (Q.o.ak KY.o yI);replace c:Hid (Zz W W5):=c.o.trans (yI.mono c.o.size);have vK:Hid (V4.heap.size<=w5.heap.size):=yO.size;clear xK vC yO tC tG yI tP
 as_aux_lemma=>
 go_wp2_with (first|refine wpList_load_mid rfl 48 _ rfl w5.heap.size 0 rfl gc _ E3.o.bG.range underlying48 rfl (by rw[zU.o];kernel_rfl) ?_|refine wpList_load_mid rfl 48 _ rfl pS 0 rfl d _ i.o.bS.range underlying48 rfl (by rw[yD.o];kernel_rfl) ?_|(refine wpList_store_mid rfl 48 _ _ rfl w5.heap.size 0 gc.toArray rfl rfl zM.o.1 (by rw[List.size_toArray,zM.o.2.1];kernel_rfl) (all_oneCell_toArray zM.o.2.2) ?_;rw[←vQ.o]))
 clear vQ zM;refine(s.o.eq W5 gc d (s.o.ft _ _ _ _ E3.o.oG).2 (s.o.bh _ _ _ _ i.o.rS i.o.le)).mono ?_;rintro e w6 ⟨rfl,yP⟩;replace i:=Yx (i.o.ak s.o (yP.mono i.o.le));replace E2:=Yx (E2.o.ak C.o yP);replace Q:=Yx (Q.o.ak KY.o yP);replace E3:=Yx (E3.o.ak s.o.bz yP);replace c:Hid (Zz W w6):=c.o.trans (yP.mono c.o.size);clear yP
 as_aux_lemma=>
 go_upto_region 14 with fail;go_cut [48] (fun u wx=>u=.bool false/\Hid (Zz w6 wx))
 case first=>
  have yH:Hid (∀X,Zz w6 X->Aa X w4.heap.size xc/\Aa X (w.heap.size) A):=fun X hX=>⟨Aa.same E2.o.bX (hX.block _ E2.o.le),(HA.o X (c.o.trans (hX.mono c.o.size))).1⟩;refine wp_region_held_drew (S:=fun X=>Aa X (w4.heap.size) xc/\Aa X (w.heap.size) A) (by kernel_rfl) (yH.o _ (Below.refl _ _).drew) (fun hS=> ?_)
  refine Di 0 ⟨some 44,.load 46 (.tmp 9),46,Fa,#[],none⟩ (.agg xc.toArray) (by exact yieldsIf_load_mid (by rfl) 46 _ rfl w4.heap.size 0 rfl xc _ (fun X h=>h.1.range) underlying46 rfl (by rw[yC.o];kernel_rfl)) (by exact hS) ?_;try simp only[Act.put,As]
  refine Di 1 ⟨some 45,.load 33 (.tmp 3),33,Fa,#[],none⟩ (.agg A.toArray) (by exact yieldsIf_load_mid (by rfl) 33 _ rfl (w.heap.size) 0 rfl A _ (fun X h=>h.2.range) underlying33 rfl (by rw[zY.o];kernel_rfl)) (by exact hS) ?_;try simp only[Act.put,As]
  refine AM 2 ⟨some 46,.call ⟨.value (.func 7),#[.tmp 45],#[33]⟩,46,Fa,#[Ai 1],none⟩ (fun K a=> ?_);go_simp;refine(HT.o w6.drew (HA.o _ c.o.drew).2.2).mono ?_;rintro e y7 ⟨yc,rfl,vD,_,yQ⟩;have zO:Below w6.heap.size w6 y7:=(Below.refl w6.heap.size w6).drew.trans yQ;try go_simp
  refine a.out _ _ (yH.o y7 zO) (fun zP=> ?_);clear a K;try simp only[Act.put,As]
  refine AM 3 ⟨some 47,.call ⟨.value (.func 11),#[.tmp 44,.tmp 46],#[46,46]⟩,4,Fa,#[Ai 0,Ai 2,⟨2,.chain⟩],none⟩ (fun K a=> ?_);go_simp;refine(C.o.eq y7 xc yc (C.o.bh _ _ _ _ (C.o.bi _ _ _ _ (C.o.ft _ _ _ _ E2.o.oX).2 zO) zO.size) vD).mono ?_;rintro e y8 ⟨rfl,xY⟩;have yW:Below w6.heap.size w6 y8:=zO.trans (xY.mono zO.size);try go_simp
  refine a.out _ _ (yH.o y8 yW) (fun zB=> ?_);clear a K;try simp only[Act.put,As]
  refine Br 4 ⟨some 48,.unOp .not 4 (.tmp 47),4,Fa,#[Ai 3],none⟩ (.bool false) (by exact zB) ?_;try simp only[Act.put,As]
  refine wpAnyH_done (by kernel_rfl) ?_ _;go_wp2_with fail;go_meet;exact⟨rfl,yW⟩
 case rest=>
 obtain⟨rfl,HE⟩:=hcut;revert wc;intro w8 HE;replace i:=Yx (i.o.ak s.o (HE.o.mono i.o.le));replace E2:=Yx (E2.o.ak C.o HE.o);replace Q:=Yx (Q.o.ak KY.o HE.o);replace E3:=Yx (E3.o.ak s.o.bz HE.o);replace c:Hid (Zz W w8):=c.o.trans (HE.o.mono c.o.size);clear HE
 as_aux_lemma=>
 go_upto_region 16 with fail;go_cut [53] (fun u wx=>u=.bool false/\Hid (Zz w8 wx))
 case first=>
  have yH:Hid (∀X,Zz w8 X->Aa X v4.heap.size tc/\Aa X (w.heap.size+1) B):=fun X hX=>⟨Aa.same Q.o.bX (hX.block _ Q.o.le),(HA.o X (c.o.trans (hX.mono c.o.size))).2.1⟩;refine wp_region_held_drew (S:=fun X=>Aa X (v4.heap.size) tc/\Aa X (w.heap.size+1) B) (by kernel_rfl) (yH.o _ (Below.refl _ _).drew) (fun hS=> ?_)
  refine Di 0 ⟨some 49,.load 51 (.tmp 10),51,Fb,#[],none⟩ (.agg tc.toArray) (by exact yieldsIf_load_mid (by rfl) 51 _ rfl v4.heap.size 0 rfl tc _ (fun X h=>h.1.range) underlying51 rfl (by rw[yB.o];kernel_rfl)) (by exact hS) ?_;try simp only[Act.put,As]
  refine Di 1 ⟨some 50,.load 35 (.tmp 4),35,Fb,#[],none⟩ (.agg B.toArray) (by exact yieldsIf_load_mid (by rfl) 35 _ rfl (w.heap.size+1) 0 rfl B _ (fun X h=>h.2.range) underlying35 rfl (by rw[zZ.o];kernel_rfl)) (by exact hS) ?_;try simp only[Act.put,As]
  refine AM 2 ⟨some 51,.call ⟨.value (.func 8),#[.tmp 50],#[35]⟩,51,Fb,#[Ai 1],none⟩ (fun K a=> ?_);go_simp;refine(HU.o w8.drew (HA.o _ c.o.drew).2.2).mono ?_;rintro e y7 ⟨yc,rfl,vD,_,yQ⟩;have zO:Below w8.heap.size w8 y7:=(Below.refl w8.heap.size w8).drew.trans yQ;try go_simp
  refine a.out _ _ (yH.o y7 zO) (fun zP=> ?_);clear a K;try simp only[Act.put,As]
  refine AM 3 ⟨some 52,.call ⟨.value (.func 12),#[.tmp 49,.tmp 51],#[51,51]⟩,4,Fb,#[Ai 0,Ai 2,⟨2,.chain⟩],none⟩ (fun K a=> ?_);go_simp;refine(KY.o.eq y7 tc yc (KY.o.bh _ _ _ _ (KY.o.bi _ _ _ _ (KY.o.ft _ _ _ _ Q.o.oX).2 zO) zO.size) vD).mono ?_;rintro e y8 ⟨rfl,xY⟩;have yW:Below w8.heap.size w8 y8:=zO.trans (xY.mono zO.size);try go_simp
  refine a.out _ _ (yH.o y8 yW) (fun zB=> ?_);clear a K;try simp only[Act.put,As]
  refine Br 4 ⟨some 53,.unOp .not 4 (.tmp 52),4,Fb,#[Ai 3],none⟩ (.bool false) (by exact zB) ?_;try simp only[Act.put,As]
  refine wpAnyH_done (by kernel_rfl) ?_ _;go_wp2_with fail;go_meet;exact⟨rfl,yW⟩
 case rest=>
 obtain⟨rfl,HE⟩:=hcut;revert wc;intro v8 HE;replace i:=Yx (i.o.ak s.o (HE.o.mono i.o.le));replace E2:=Yx (E2.o.ak C.o HE.o);replace Q:=Yx (Q.o.ak KY.o HE.o);replace E3:=Yx (E3.o.ak s.o.bz HE.o);replace c:Hid (Zz W v8):=c.o.trans (HE.o.mono c.o.size);clear HE
 as_aux_lemma=>
 go_wp2_with (refine wpList_load_mid rfl 46 _ rfl w4.heap.size 0 rfl xc _ E2.o.bX.range underlying46 rfl (by rw[yC.o];kernel_rfl) ?_);refine(C.o.mark L w4.heap.size v8 xc 1 E2.o.oX (by omega) (by omega)).mono ?_;rintro e w9 ⟨⟨K9,rfl,vV,yZ,_⟩,zT,yR⟩;replace i:=Yx (i.o.ak s.o zT)
 have xN:Hid (L3 OY w9 tc W4.heap.size v4.heap.size v4.heap.size):=(show L3 OY v8 tc W4.heap.size v4.heap.size v4.heap.size from⟨Q.o.bX,Q.o.oX,Q.o.l1,Q.o.le⟩).stays (B:=w4.heap.size) KY.o.bz (by have:=yL.o;omega) (by have:=yL.o;have:=yM.o;omega) zT.size yR;replace E3:=Yx (E3.o.stays (B:=w4.heap.size) s.o.bz (by have:=yL.o;have:=yM.o;omega) (by have:=yL.o;have:=yM.o;have:=vK.o;omega) zT.size yR)
 replace c:Hid (Zz W w9):=c.o.trans (zT.mono xP.o);clear zT yR E2 Q yC
 as_aux_lemma=>
 go_wp2_with (refine wpList_load_mid rfl 51 _ rfl v4.heap.size 0 rfl tc _ xN.o.bG.range underlying51 rfl (by rw[yB.o];kernel_rfl) ?_);refine(xL.o W4.heap.size v4.heap.size w9 tc K9 xN.o.oG vV yZ).mono ?_;rintro e v9 ⟨⟨K8,rfl⟩,zT,yR⟩;have tJ:¬((K8:Int)<0):=by omega
 have xU:L<=W4.heap.size:=by have:=yL.o;omega
 replace i:=Yx (i.o.ak s.o (zT.mono xU));replace E3:=Yx (E3.o.stays (B:=v4.heap.size) s.o.bz (by have:=yM.o;omega) (by have:=yM.o;have:=vK.o;omega) zT.size yR);replace c:Hid (Zz W v9):=c.o.trans (zT.mono (Zm xP.o xU));clear zT yR xN yB xL vV yZ xU
 as_aux_lemma=>
 go_wp2_with (first|refine Hk (by rfl) 48 _ rfl w5.heap.size 0 rfl gc _ E3.o.bG.range underlying48 rfl (by rw[zU.o];kernel_rfl) ?_|refine Hk (by rfl) 48 _ rfl pS 0 rfl d _ i.o.bS.range underlying48 rfl (by rw[yD.o];kernel_rfl) ?_);refine(s.o.eq v9 gc d (s.o.ft _ _ _ _ E3.o.oG).2 (s.o.bh _ _ _ _ i.o.rS i.o.le)).mono ?_;rintro e tD ⟨rfl,yE⟩;replace i:=Yx (i.o.ak s.o (yE.mono i.o.le))
 replace E3:=Yx (E3.o.ak s.o.bz yE);replace c:Hid (Zz W tD):=c.o.trans (yE.mono c.o.size);clear yE
 as_aux_lemma=>
 go_wp2_with (refine wpList_load_mid rfl 48 _ rfl w5.heap.size 0 rfl gc _ E3.o.bG.range underlying48 rfl (by rw[zU.o];kernel_rfl) ?_);refine(s.o.mark V4.heap.size w5.heap.size tD gc 1 E3.o.oG (by omega) (by omega)).mono ?_;rintro e vG ⟨⟨K,rfl,a,_,hM⟩,yF,xI⟩;have tQ:¬((K:Int)<0):=by omega
 have xT:L<=V4.heap.size:=by have:=yL.o;have:=yM.o;omega
 replace i:=Yx (i.o.ak s.o (yF.mono xT));replace c:Hid (Zz W vG):=c.o.trans (yF.mono (Zm xP.o xT));have E4:Hid (L3 (fun lo N X cs=>MA o lo N X cs K) vG gc V4.heap.size w5.heap.size w5.heap.size):=⟨Aa.same E3.o.bG (xI _ (Zx) E3.o.le),hM,Zx,Zr E3.o.le yF.size⟩
 have KM:Hid (∀(lo N:Nat) (X m:Zh) (cs:Zj),MA o lo N X cs K->X.heap.size<=m.heap.size->(∀q,lo<=q->q<N->m.heap[q]?=X.heap[q]?)->MA o lo N m cs K):=fun lo N X m cs=>s.o.fy lo N X m cs K;clear hM yF xI E3 tJ xT
 as_aux_lemma=>
 go_wp2_with (refine wpList_load_mid rfl 48 _ rfl w5.heap.size 0 rfl gc _ E4.o.bG.range underlying48 rfl (by rw[zU.o];kernel_rfl) ?_);refine(HH.o _ _ vG gc K E4.o.oG).mono ?_;rintro e j ⟨rfl,yG⟩;replace i:=Yx (i.o.ak s.o (yG.mono i.o.le));replace E4:=Yx (E4.o.ak KM.o yG);replace c:Hid (Zz W j):=c.o.trans (yG.mono c.o.size);clear yG
 as_aux_lemma=>
 go_upto_region 31 with fail;go_cut [15] (fun p wx=>∃(pH:Nat) (hc:Zj) (o':D),p=Yz pH/\Hid (To o'/\Aa wx pH hc/\RA o' wx.heap.size wx hc/\j.heap.size<=pH/\Zz j wx))
 case first=>
  replace s:=Yx vR.o;have k0:Below j.heap.size j j.drew:=(Below.refl _ _).drew;have y:Hid (∀X m,(Aa X w.heap.size A/\Aa X (w.heap.size+1) B)->Zz X m->Aa m w.heap.size A/\Aa m (w.heap.size+1) B):=fun X m R h2=>⟨Aa.same R.1 (h2.block _ (R.1.fs zY.o)),Aa.same R.2 (h2.block _ (R.2.fs zZ.o))⟩
  have yA:Hid (∀X m cb,(Aa X w.heap.size A/\Aa X (w.heap.size+1) B)->j.heap.size<=cb->Tn [cb] X m->Aa m w.heap.size A/\Aa m (w.heap.size+1) B):=fun X m cb R h2 h3=>⟨Aa.same R.1 (h3.block _ (R.1.fs zY.o) (by have:=yU.o;have:=c.o.size;simp;omega)),Aa.same R.2 (h3.block _ (R.2.fs zZ.o) (by have:=yU.o;have:=c.o.size;simp;omega))⟩
  have U:Hid (∀X,Zz j X->Zz w X):=fun X hX=>(HA.o X (c.o.trans (hX.mono c.o.size))).2.2
  have zC:Hid (∀X bb d o,j.heap.size<=bb->Zz j X->X.heap[bb]?=some (.cells AQ.toArray 48 (0,0))->To o->RA o (X.setCells bb 0 d).heap.size (X.setCells bb 0 d) d->Hid (To o/\Aa (X.setCells bb 0 d.toArray.toList) bb d/\RA o (X.setCells bb 0 d.toArray.toList).heap.size (X.setCells bb 0 d.toArray.toList) d/\j.heap.size<=bb/\Zz j (X.setCells bb 0 d.toArray.toList))):=fun X bb d o R h2 h3 h4 h5=>⟨h4,(Aa.dv (l:=AQ) h3).aw d (by rw[((s.o o h4).cj _ _ _ h5).1];rfl),h5,R,h2.trans ((Ax bb d 0 X).below h2.size (by simp;exact R))⟩
  refine wp_region_held_drew (S:=fun X=>Aa X w.heap.size A/\Aa X (w.heap.size+1) B) (by kernel_rfl) (show _/\_ from⟨(HA.o j c.o).1,(HA.o j c.o).2.1⟩) (fun hS=> ?_);refine Di 0 ⟨some 79,.load 33 (.tmp 3),33,Bd,#[],none⟩ (.agg A.toArray) (by exact yieldsIf_load_mid (by rfl) 33 _ rfl w.heap.size 0 rfl A _ (fun X h=>h.1.range) underlying33 rfl (by rw[zY.o];kernel_rfl)) (by exact hS) ?_
  try simp only[Act.put,As]
  refine Di 2 ⟨some 81,.load 35 (.tmp 4),35,Bd,#[],none⟩ (.agg B.toArray) (by exact yieldsIf_load_mid (by rfl) 35 _ rfl (w.heap.size+1) 0 rfl B _ (fun X h=>h.2.range) underlying35 rfl (by rw[zZ.o];kernel_rfl)) (by exact hS) ?_;try simp only[Act.put,As]
  refine Br 4 ⟨some 83,.move (.tmp 2),3,Bd,#[],none⟩ (Zg n) (by exact hS) ?_;try simp only[Act.put,As]
  refine wpAnyH_ready (rs:=[1,6]) (by kernel_rfl) (by simp) ?_;refine AllReadyH.cons (o:=⟨some 80,.call ⟨.value (.func 7),#[.tmp 79],#[33]⟩,46,Bd,#[Ai 0],none⟩) rfl (fun K a=> ?_) (AllReadyH.cons (o:=⟨some 15,.alloc 48,0,Bd,#[],none⟩) rfl (fun K a=> ?_) AllReadyH.nil)
  ·go_simp;refine(HT.o _ (U.o _ k0)).mono ?_;rintro e E ⟨zN,rfl,G,_,b1⟩;try go_simp
   refine a.out _ _ (y.o _ _ hS b1) (fun zP=> ?_);clear a K;try simp only[Act.put,As]
   have O:=k0.trans (b1.mono k0.size);refine wpAnyH_ready (rs:=[3,6]) (by kernel_rfl) (by simp) ?_;refine AllReadyH.cons (o:=⟨some 82,.call ⟨.value (.func 8),#[.tmp 81],#[35]⟩,51,Bd,#[Ai 2,⟨1,.chain⟩],none⟩) rfl (fun K a=> ?_) (AllReadyH.cons (o:=⟨some 15,.alloc 48,0,Bd,#[],none⟩) rfl (fun K a=> ?_) AllReadyH.nil)
   ·go_simp;refine(HU.o _ (U.o _ O)).mono ?_;rintro e F ⟨zH,rfl,r2,_,H⟩;try go_simp
    refine a.out _ _ (y.o _ _ zP H) (fun zB=> ?_);clear a K;try simp only[Act.put,As]
    have v:=O.trans (H.mono O.size);replace G:=C.o.bh _ _ _ _ (C.o.bi _ _ _ _ G H) H.size;refine wpAnyH_ready (rs:=[5,6]) (by kernel_rfl) (by simp) ?_
    refine AllReadyH.cons (o:=⟨some 84,.call ⟨.value (.func 9),#[.tmp 80,.tmp 82,.tmp 83],#[46,51,3]⟩,48,Bd,#[Ai 1,Ai 3,Ai 4,⟨3,.chain⟩],none⟩) rfl (fun K a=> ?_) (AllReadyH.cons (o:=⟨some 15,.alloc 48,0,Bd,#[],none⟩) rfl (fun K a=> ?_) AllReadyH.nil)
    ·go_simp;refine(yT.o _ zN zH (U.o _ v) G r2).mono ?_;rintro e g ⟨M,d,rfl,x,J,P⟩;try go_simp
     refine a.out _ _ (y.o _ _ zB P) (fun zF=> ?_);clear a K;try simp only[Act.put,As]
     have zA:=v.trans (P.mono v.size);refine AM 6 ⟨some 15,.alloc 48,0,Bd,#[],none⟩ (fun K a=> ?_);go_simp;refine a.out _ _ (y.o _ _ zF (Zy)) (fun zG=> ?_);clear a K;try simp only[Act.put,As]
     have Z:Below g.heap.size g (g.alloc (.cells AQ.toArray 48)):=(Zy);have kB:=zA.trans (Z.mono zA.size);have f:(g.alloc (.cells AQ.toArray 48)).heap[g.heap.size]?=some (.cells AQ.toArray 48 (0,0)):=heap_alloc_new _ _;have hlen:=(s.o M x).cj _ _ _ (J [] g (by simp) (Tn.of (Below.refl _ _)));have I:j.heap.size<=g.heap.size:=zA.size
     have zE:=J [] (((g.alloc (.cells AQ.toArray 48))).setCells g.heap.size 0 d) (by simp) (Tn.of (boxed (X:=g) (cs:=d) (z:=AQ) (T:=48) (by rw[hlen.1];rfl)).2.1);refine AM 7 ⟨none,.store 48 (.tmp 15) (.tmp 84),0,Bd,#[Ai 6,Ai 5,⟨5,.chain⟩,Ae 0,Ae 1,Ae 2,Ae 3,Ae 4,Ae 5,Ae 6],none⟩ (fun K a=> ?_);rw[if_pos (by rfl)]
     refine wp_store_mid 48 _ _ rfl g.heap.size 0 d.toArray rfl rfl (by rw[show d.toArray.size=22 from by rw[List.size_toArray];exact hlen.1];exact(Aa.dv (l:=AQ) f).there) (by rw[List.size_toArray,hlen.1];kernel_rfl) (all_oneCell_toArray hlen.2) ?_;refine a.out _ _ (yA.o _ _ _ zG I (Ax _ _ _ _)) (fun yJ=> ?_);clear a K;try simp only[Act.put]
     refine wpAnyH_done (by kernel_rfl) ?_ _;go_wp2_with fail;go_meet;exact⟨g.heap.size,d,M,rfl,zC.o (g.alloc (.cells AQ.toArray 48)) g.heap.size d M I kB f x zE⟩
    ·go_simp;refine a.out _ _ (y.o _ _ zB (Zy)) (fun zF=> ?_);clear a K;try simp only[Act.put,As]
     have Z:Below F.heap.size F (F.alloc (.cells AQ.toArray 48)):=(Zy);have kB:=v.trans (Z.mono v.size);replace G:=C.o.bh _ _ _ _ (C.o.bi _ _ _ _ G Z) Z.size;replace r2:=KY.o.bh _ _ _ _ (KY.o.bi _ _ _ _ r2 Z) Z.size;have f:(F.alloc (.cells AQ.toArray 48)).heap[F.heap.size]?=some (.cells AQ.toArray 48 (0,0)):=heap_alloc_new _ _
     refine AM 5 ⟨some 84,.call ⟨.value (.func 9),#[.tmp 80,.tmp 82,.tmp 83],#[46,51,3]⟩,48,Bd,#[Ai 1,Ai 3,Ai 4,⟨3,.chain⟩],none⟩ (fun K a=> ?_);go_simp;have zR:=By f;refine(yT.o _ zN zH (U.o _ kB) G r2).mono ?_;rintro e g ⟨M,d,rfl,x,J,P⟩;try go_simp
     refine a.out _ _ (y.o _ _ zF P) (fun zG=> ?_);clear a K;try simp only[Act.put,As]
     have zA:=kB.trans (P.mono kB.size);replace f:g.heap[F.heap.size]?=some (.cells AQ.toArray 48 (0,0)):=(P.block F.heap.size (By f)).trans f;have hlen:=(s.o M x).cj _ _ _ (J [] g (by simp) (Tn.of (Below.refl _ _)));have I:j.heap.size<=F.heap.size:=v.size;have zE:=J [F.heap.size] (g.setCells F.heap.size 0 d) (fun b hb=>by rw[List.mem_singleton]at hb;rw[hb];exact zR) (Ax _ _ _ _)
     refine AM 7 ⟨none,.store 48 (.tmp 15) (.tmp 84),0,Bd,#[Ai 6,Ai 5,⟨5,.chain⟩,Ae 0,Ae 1,Ae 2,Ae 3,Ae 4,Ae 5,Ae 6],none⟩ (fun K a=> ?_);rw[if_pos (by rfl)]
     refine wp_store_mid 48 _ _ rfl F.heap.size 0 d.toArray rfl rfl (by rw[show d.toArray.size=22 from by rw[List.size_toArray];exact hlen.1];exact(Aa.dv (l:=AQ) f).there) (by rw[List.size_toArray,hlen.1];kernel_rfl) (all_oneCell_toArray hlen.2) ?_;refine a.out _ _ (yA.o _ _ _ zG I (Ax _ _ _ _)) (fun yJ=> ?_);clear a K;try simp only[Act.put]
     refine wpAnyH_done (by kernel_rfl) ?_ _;go_wp2_with fail;go_meet;exact⟨F.heap.size,d,M,rfl,zC.o g F.heap.size d M I zA f x zE⟩
   ·go_simp;refine a.out _ _ (y.o _ _ zP (Zy)) (fun zB=> ?_);clear a K;try simp only[Act.put,As]
    have Z:Below E.heap.size E (E.alloc (.cells AQ.toArray 48)):=(Zy);have kB:=O.trans (Z.mono O.size);replace G:=C.o.bh _ _ _ _ (C.o.bi _ _ _ _ G Z) Z.size;have f:(E.alloc (.cells AQ.toArray 48)).heap[E.heap.size]?=some (.cells AQ.toArray 48 (0,0)):=heap_alloc_new _ _;refine AM 3 ⟨some 82,.call ⟨.value (.func 8),#[.tmp 81],#[35]⟩,51,Bd,#[Ai 2,⟨1,.chain⟩],none⟩ (fun K a=> ?_);go_simp
    refine(HU.o _ (U.o _ kB)).mono ?_;rintro e F ⟨zH,rfl,r2,_,H⟩;try go_simp
    refine a.out _ _ (y.o _ _ zB H) (fun zF=> ?_);clear a K;try simp only[Act.put,As]
    have v:=kB.trans (H.mono kB.size);replace G:=C.o.bh _ _ _ _ (C.o.bi _ _ _ _ G H) H.size;replace f:F.heap[E.heap.size]?=some (.cells AQ.toArray 48 (0,0)):=(H.block E.heap.size (By f)).trans f;refine AM 5 ⟨some 84,.call ⟨.value (.func 9),#[.tmp 80,.tmp 82,.tmp 83],#[46,51,3]⟩,48,Bd,#[Ai 1,Ai 3,Ai 4,⟨3,.chain⟩],none⟩ (fun K a=> ?_);go_simp;have zR:=By f
    refine(yT.o _ zN zH (U.o _ v) G r2).mono ?_;rintro e g ⟨M,d,rfl,x,J,P⟩;try go_simp
    refine a.out _ _ (y.o _ _ zF P) (fun zG=> ?_);clear a K;try simp only[Act.put,As]
    have zA:=v.trans (P.mono v.size);replace f:g.heap[E.heap.size]?=some (.cells AQ.toArray 48 (0,0)):=(P.block E.heap.size (By f)).trans f;have hlen:=(s.o M x).cj _ _ _ (J [] g (by simp) (Tn.of (Below.refl _ _)));have I:j.heap.size<=E.heap.size:=O.size;have zE:=J [E.heap.size] (g.setCells E.heap.size 0 d) (fun b hb=>by rw[List.mem_singleton]at hb;rw[hb];exact zR) (Ax _ _ _ _)
    refine AM 7 ⟨none,.store 48 (.tmp 15) (.tmp 84),0,Bd,#[Ai 6,Ai 5,⟨5,.chain⟩,Ae 0,Ae 1,Ae 2,Ae 3,Ae 4,Ae 5,Ae 6],none⟩ (fun K a=> ?_);rw[if_pos (by rfl)]
    refine wp_store_mid 48 _ _ rfl E.heap.size 0 d.toArray rfl rfl (by rw[show d.toArray.size=22 from by rw[List.size_toArray];exact hlen.1];exact(Aa.dv (l:=AQ) f).there) (by rw[List.size_toArray,hlen.1];kernel_rfl) (all_oneCell_toArray hlen.2) ?_;refine a.out _ _ (yA.o _ _ _ zG I (Ax _ _ _ _)) (fun yJ=> ?_);clear a K;try simp only[Act.put]
    refine wpAnyH_done (by kernel_rfl) ?_ _;go_wp2_with fail;go_meet;exact⟨E.heap.size,d,M,rfl,zC.o g E.heap.size d M I zA f x zE⟩
  ·go_simp;refine a.out _ _ (y.o _ _ hS (Zy)) (fun zP=> ?_);clear a K;try simp only[Act.put,As]
   have Z:Below j.heap.size j (j.alloc (.cells AQ.toArray 48)).drew:=(Zy).drew;have kB:=Z;have f:(j.alloc (.cells AQ.toArray 48)).drew.heap[j.heap.size]?=some (.cells AQ.toArray 48 (0,0)):=show(j.alloc (.cells AQ.toArray 48)).heap[j.heap.size]?=_ from heap_alloc_new _ _;refine AM 1 ⟨some 80,.call ⟨.value (.func 7),#[.tmp 79],#[33]⟩,46,Bd,#[Ai 0],none⟩ (fun K a=> ?_);go_simp
   refine(HT.o _ (U.o _ kB)).mono ?_;rintro e E ⟨zN,rfl,G,_,b1⟩;try go_simp
   refine a.out _ _ (y.o _ _ zP b1) (fun zB=> ?_);clear a K;try simp only[Act.put,As]
   have O:=kB.trans (b1.mono kB.size);replace f:E.heap[j.heap.size]?=some (.cells AQ.toArray 48 (0,0)):=(b1.block j.heap.size (By f)).trans f;refine AM 3 ⟨some 82,.call ⟨.value (.func 8),#[.tmp 81],#[35]⟩,51,Bd,#[Ai 2,⟨1,.chain⟩],none⟩ (fun K a=> ?_);go_simp;refine(HU.o _ (U.o _ O)).mono ?_;rintro e F ⟨zH,rfl,r2,_,H⟩;try go_simp
   refine a.out _ _ (y.o _ _ zB H) (fun zF=> ?_);clear a K;try simp only[Act.put,As]
   have v:=O.trans (H.mono O.size);replace G:=C.o.bh _ _ _ _ (C.o.bi _ _ _ _ G H) H.size;replace f:F.heap[j.heap.size]?=some (.cells AQ.toArray 48 (0,0)):=(H.block j.heap.size (By f)).trans f;refine AM 5 ⟨some 84,.call ⟨.value (.func 9),#[.tmp 80,.tmp 82,.tmp 83],#[46,51,3]⟩,48,Bd,#[Ai 1,Ai 3,Ai 4,⟨3,.chain⟩],none⟩ (fun K a=> ?_);go_simp;have zR:=By f;refine(yT.o _ zN zH (U.o _ v) G r2).mono ?_
   rintro e g ⟨M,d,rfl,x,J,P⟩;try go_simp
   refine a.out _ _ (y.o _ _ zF P) (fun zG=> ?_);clear a K;try simp only[Act.put,As]
   have zA:=v.trans (P.mono v.size);replace f:g.heap[j.heap.size]?=some (.cells AQ.toArray 48 (0,0)):=(P.block j.heap.size (By f)).trans f;have hlen:=(s.o M x).cj _ _ _ (J [] g (by simp) (Tn.of (Below.refl _ _)));have I:j.heap.size<=j.heap.size:=Zx;have zE:=J [j.heap.size] (g.setCells j.heap.size 0 d) (fun b hb=>by rw[List.mem_singleton]at hb;rw[hb];exact zR) (Ax _ _ _ _)
   refine AM 7 ⟨none,.store 48 (.tmp 15) (.tmp 84),0,Bd,#[Ai 6,Ai 5,⟨5,.chain⟩,Ae 0,Ae 1,Ae 2,Ae 3,Ae 4,Ae 5,Ae 6],none⟩ (fun K a=> ?_);rw[if_pos (by rfl)]
   refine wp_store_mid 48 _ _ rfl j.heap.size 0 d.toArray rfl rfl (by rw[show d.toArray.size=22 from by rw[List.size_toArray];exact hlen.1];exact(Aa.dv (l:=AQ) f).there) (by rw[List.size_toArray,hlen.1];kernel_rfl) (all_oneCell_toArray hlen.2) ?_;refine a.out _ _ (yA.o _ _ _ zG I (Ax _ _ _ _)) (fun yJ=> ?_);clear a K;try simp only[Act.put]
   refine wpAnyH_done (by kernel_rfl) ?_ _;go_wp2_with fail;go_meet;exact⟨j.heap.size,d,M,rfl,zC.o g j.heap.size d M I zA f x zE⟩
 case rest=>
 revert wc;intro xM hcut;obtain⟨pH,hc,o',rfl,hcut⟩:=hcut;obtain⟨xJ,xH,vE,tK,xQ⟩:=hcut.o;obtain rfl:=HD.o o o' vM.o xJ;have vI:Hid (hc.length=22):=(s.o.cj _ _ _ vE).1;replace i:=Yx (i.o.ak s.o (xQ.mono i.o.le));replace E4:=Yx (E4.o.ak KM.o xQ);have vL:Hid (RA o xM.heap.size xM hc):=vE;have vJ:Hid (Aa xM pH hc):=xH;clear hcut xJ xH vE tK xQ HT HU HI yT c HA vR
 as_aux_lemma=>
 go_wp2_with (first|refine wpList_load_mid rfl 48 _ rfl pH 0 rfl hc _ vJ.o.range underlying48 rfl (by rw[vI.o];kernel_rfl) ?_|refine wpList_load_mid rfl 48 _ rfl pS 0 rfl d _ i.o.bS.range underlying48 rfl (by rw[yD.o];kernel_rfl) ?_);refine(s.o.eq xM hc d vL.o (s.o.bh _ _ _ _ i.o.rS i.o.le)).mono ?_;rintro e tM ⟨rfl,yS⟩;replace i:=Yx (i.o.ak s.o (yS.mono i.o.le));replace E4:=Yx (E4.o.ak KM.o yS)
 clear yS vL vJ
 as_aux_lemma=>
 go_wp2_with (refine wpList_load_mid rfl 48 _ rfl w5.heap.size 0 rfl gc _ E4.o.bG.range underlying48 rfl (by rw[zU.o];kernel_rfl) ?_);refine(HH.o _ _ tM gc K E4.o.oG).mono ?_;rintro e tN ⟨rfl,xA⟩;have vH:Hid (Zz w tN):=i.o.cz.trans (xA.mono i.o.cz.size);clear xA i E4;go_wp2;go_ret;exact⟨rfl,vH.o⟩
end ExactPut
theorem ZN(v:Vd)(e:Ed)(sa ta:Zk)(sc tc:Nat)(b0 b1 b2 b3 b4 b5 b6 c0 c1 c2 c3 c4 c5:Value)(ra:Zk)(rc:Nat)(K:Zj->List Nat->Zh->Prop)(Z:Rs->Zk->Nat->Zk->Nat->Zk->Nat->Zh->Prop)(w:Zh)
 (hlen:v.ss.length<=1048576/\v.tt.length<=1048576)
 (qF:∀X,Zz w X->Calls prog 41 #[.agg #[Zg v.wd,Zg v.aj,.slice sa v.ss.length sc,.slice ta v.tt.length tc,b0,b1,b2,b3,b4,b5,b6,c0,c1,c2,c3,c4,c5]] X fun o k=>Ap (DR v) X k o)
 (rZ:DR v->∀X,Zz w X->Calls prog 42 #[.agg #[Zg v.wd,Zg v.aj,.slice sa v.ss.length sc,.slice ta v.tt.length tc,b0,b1,b2,b3,b4,b5,b6,c0,c1,c2,c3,c4,c5]] X fun o k=>∃sb y ub zI T P L qb n Q m rs,o=.returned (.agg (Cd v (Za sb v.ss.length y) (Za ub v.tt.length zI) T P L (Za qb v.qs.length n) (Za Q v.ms.length m)).toArray)/\AU k X.heap.size (Za sb v.ss.length y) (Za ub v.tt.length zI) T P L (Za qb v.qs.length n) (Za Q v.ms.length m) rs v/\Zz X k)
 (qB:∀X,Zz w X->Calls prog 43 #[.agg (Ym e.kd e.s e.nm e.num e.tx ra e.rf.length rc),Zg v.wd] X fun o k=>o=.returned (.bool (e.ok v.wd))/\Zz X k)
 (rX:DR v->∀X,Zz w X->Calls prog 45 #[.agg #[b0,b1,b2,b3,b4,b5,b6]] X fun o k=>∃cs V,o=.returned (.agg cs.toArray)/\Zz X k/\(∀b∈V,X.heap.size<=b/\b<k.heap.size)/\K cs V k)
 (i:∀cs V X k,K cs V X->Zz X k->K cs V k)
 (hA:DR v->e.ok v.wd=true->∀cs V X,Zz w X->K cs V X->Calls prog 44 #[.agg cs.toArray,.agg (Ym e.kd e.s e.nm e.num e.tx ra e.rf.length rc)] X fun o k=>Tn V X k/\∃M,o=.returned (.agg M.toArray)/\JA v e Z k M)
 (hZ:∀r xa xc U H N O X,DR v->e.ok v.wd=true->e.yes v r->Z r xa xc U H N O X->∀E k,X.heap[E]?=some (.cells z12.toArray 90)->Tn [E] X k->Z r xa xc U H N O k)
 (qG:∀r xa xc U H N O X,Z r xa xc U H N O X->∀k,Zz X k->Z r xa xc U H N O k)
 (qI:e.kd=1) (qC:DR v->e.ok v.wd=true->∀r xa xc U H N O X,e.yes v r->Z r xa xc U H N O X->Calls prog 46 #[.agg (Ys v.wd r.now r.given r.ae xa r.ks.length xc U r.ps.length H N r.ls.length O)] X fun o k=>o=.returned (Zg (CH v.wd r.ks))/\Zz X k)
 (hF:e.ok v.wd=true->∀X,Zz w X->Calls prog 47 #[.agg (Ym e.kd e.s e.nm e.num e.tx ra e.rf.length rc),Zg v.wd] X fun o k=>o=.returned (.string (e.br v.wd))/\Zz X k)
 (rY:DR v->e.ok v.wd=true->∀r xa xc U H N O X,e.yes v r->Z r xa xc U H N O X->Calls prog 45 #[.agg (Ys v.wd r.now r.given r.ae xa r.ks.length xc U r.ps.length H N r.ls.length O)] X fun o k=>∃T2 P2 L2 vG,o=.returned (.agg #[Zg v.wd,Zg r.now,Zg r.given,Zg r.ae,T2,P2,L2])/\AV k X.heap.size T2 P2 L2 vG r.ks r.ps r.ls/\Zz X k)
 (qE:DR v->e.ok v.wd=true->∀r X T2 P2 L2 vG n2 qb n Q m,e.yes v r->AV X n2 T2 P2 L2 vG r.ks r.ps r.ls->Al X n2 (Za qb v.qs.length n) v.qs->Al X n2 (Za Q v.ms.length m) v.ms->Calls prog 48 #[.agg #[Zg v.wd,Zg r.now,Zg r.given,Zg r.ae,T2,P2,L2],.agg (Yr v.ph (some ⟨qb,0,none⟩) v.qs.length n (some ⟨Q,0,none⟩) v.ms.length m v.ag v.at_ v.ro),.string (e.held r)] X fun o k=>Zz X k/\∃Q3 M3,o=.returned (.agg #[Zg v.ph,Q3,M3,Zg v.ag,Zg v.at_,Zg v.ro])/\Al k X.heap.size Q3 (shQ v.ph r.ks v.qs v.ms (e.held r))/\Al k X.heap.size M3 v.ms)
 (qA:DR v->∀r,e.yes v r->r.sm≠⟨#[]⟩)
 (qO:DR v->v.wd=v.sw/\v.ss.length+v.tt.length<=4000):
 Calls prog 21 #[.agg #[Zg v.wd,Zg v.aj,.slice sa v.ss.length sc,.slice ta v.tt.length tc,b0,b1,b2,b3,b4,b5,b6,c0,c1,c2,c3,c4,c5],.agg (Ym e.kd e.s e.nm e.num e.tx ra e.rf.length rc)] w (Gx v e w):=by
 obtain⟨W,hW⟩:∃W,W=((w.alloc (.cells #[Zg v.wd,Zg v.aj,.slice sa v.ss.length sc,.slice ta v.tt.length tc,b0,b1,b2,b3,b4,b5,b6,c0,c1,c2,c3,c4,c5] 46)).alloc (.cells (Ym e.kd e.s e.nm e.num e.tx ra e.rf.length rc) 67)).alloc (.cells Ya 48):=⟨_,rfl⟩;have bW:=(Bh hW).1;have zW:=(Bh hW).2.1;have xV:=(Bh hW).2.2.1;have xE:=(Bh hW).2.2.2.1;have xZ:Aa W (w.heap.size+2) AQ:=(Bh hW).2.2.2.2
 have vC:Hid (∀X,Zz W X->Aa X w.heap.size [Zg v.wd,Zg v.aj,.slice sa v.ss.length sc,.slice ta v.tt.length tc,b0,b1,b2,b3,b4,b5,b6,c0,c1,c2,c3,c4,c5]/\Aa X (w.heap.size+1) (Yn e.kd e.s e.nm e.num e.tx ra e.rf.length rc)/\Aa X (w.heap.size+2) AQ/\Zz w X):=fun X hX=>⟨Aa.below xV hX,Aa.below xE hX,Aa.below (v:=Zf) xZ hX,bW.trans (hX.mono bW.size)⟩;have HL:=Yx hlen;have rR:=Yx qF;have yN:=Yx rZ
 have sT:=Yx qB;have vA:=Yx rX;have HK:=Yx i;have HA:=Yx hA;have HZ:=Yx hZ;have yO:=Yx qG;have yE:=Yx qC;have vW:=Yx qI;have HF:=Yx hF;have yD:=Yx rY;have zJ:=Yx qE;have yY:=Yx qA;have yZ:=Yx qO;have HW:=Yx hW;clear hW xV xE xZ hlen qF rZ qB rX i hA hZ qG qC hF rY qE qA qO qI;go_enter func21,ntmps21;go_upto_region 1 with fail;rw[←HW.o];clear HW
 go_wp2_with (refine wpList_load_mid rfl 46 _ rfl w.heap.size 0 rfl [Zg v.wd,Zg v.aj,.slice sa v.ss.length sc,.slice ta v.tt.length tc,b0,b1,b2,b3,b4,b5,b6,c0,c1,c2,c3,c4,c5] _ (vC.o W (Below.refl _ _)).1.range underlying46 rfl (by kernel_rfl) ?_);refine Calls.mono (rR.o W bW) ?_;rintro o w1 ⟨b1,rfl,sQ,sL⟩;clear rR;cases b1 with
 |false=>
  have vK:¬DR v:=fun h=>by have:=sQ.2 h;cases this
  obtain⟨_,_,xZ,b1⟩:=vC.o w1 sL;obtain⟨W9,sI⟩:∃Y,Y=w1.setCells (w.heap.size+2) 0 (Xz 1):=⟨_,rfl⟩;have x9:Aa W9 (w.heap.size+2) (Xz 1):=by rw[sI];exact xZ.aw _ rfl
  have qW:Hid (Zz w W9):=b1.trans (by rw[sI];exact(Ax _ _ _ _).below b1.size (by simp));have rO:=Yx (Zn (show((Xy 1):Array Value).all (·.oneCell')=true by simp[Value.oneCell']) xZ.there);have pE:=Yx x9;have qZ:=Yx vK;have pD:=Yx sI;clear sI x9 vK xZ b1 vC yN sT vA HK HA HZ yO yE HF yD zJ yY yZ HL sL sQ
  go_wp2_with (refine wpList_store_mid rfl 48 _ _ rfl (w.heap.size+2) 0 (Xy 1) rfl rfl rO.o.2 (by kernel_rfl) rO.o.1 ?_);rw[←pD.o];refine bodyPost_ret (BL results21 _ _ (w.heap.size+2) (Xz 1) _ rfl (Aa.range pE.o) underlying48 rfl (by kernel_rfl)) rfl ?_;exact⟨EV 1 v0 ⟨#[]⟩ ⟨#[]⟩,Yb,.inl ⟨qZ.o,rfl⟩,rfl,fun V k _ _=>(AU.nil k 0).gl,qW.o⟩
 |true=>
  have yP:=sQ.1 rfl;have yA:Hid (DR v):=yP;replace yN:=Yx (yN.o yP);replace vA:=Yx (vA.o yP);replace HA:=Yx (HA.o yP);replace yE:=Yx (yE.o yP);replace yD:=Yx (yD.o yP);replace zJ:=Yx (zJ.o yP);replace yY:=Yx (yY.o yP);replace yZ:=Yx (yZ.o yP);have vT:Hid (Zz W w1):=sL;clear sQ yP sL
  go_wp2_with (refine wpList_load_mid rfl 46 _ rfl w.heap.size 0 rfl [Zg v.wd,Zg v.aj,.slice sa v.ss.length sc,.slice ta v.tt.length tc,b0,b1,b2,b3,b4,b5,b6,c0,c1,c2,c3,c4,c5] _ (vC.o w1 vT.o).1.range underlying46 rfl (by kernel_rfl) ?_);refine(yN.o w1 (vC.o w1 vT.o).2.2.2).mono ?_;rintro o j ⟨sb,y,ub,zI,T,P,L,qb,n,Q,m,rs,rfl,sK,rC⟩
  obtain⟨vs,yR⟩:∃t,t=Cd v (Za sb v.ss.length y) (Za ub v.tt.length zI) T P L (Za qb v.qs.length n) (Za Q v.ms.length m):=⟨_,rfl⟩;have xN:vs.length=17/\∀u∈vs,u.oneCell'=true:=by obtain⟨a,h,_⟩:=sK.gl;rw[yR];exact⟨rfl,by rw[h];simp[Cd,Value.oneCell']⟩
  rw[←yR];have z1:=vT.o.size;have z2:=rC.size;have vX:=Yx (Zb yR sK);have zM:Hid (vs.length=17/\∀u∈vs,u.oneCell'=true):=xN;have tA:Hid (w.heap.size+3<=w1.heap.size/\w1.heap.size<=j.heap.size):=⟨by omega,z2⟩;have sV:=vT.o.trans (rC.mono z1);have yX:Hid (∀X,Zz j X->∀V k,(∀b∈V,b<w.heap.size+3)->Tn V X k->Ly v k.heap.size k vs):=fun X hX=>by rw[yR];exact sK.db tA.o.1 hX
  have F:Hid (∀X,Zz j X->Aa X w.heap.size [Zg v.wd,Zg v.aj,.slice sa v.ss.length sc,.slice ta v.tt.length tc,b0,b1,b2,b3,b4,b5,b6,c0,c1,c2,c3,c4,c5]/\Aa X (w.heap.size+1) (Yn e.kd e.s e.nm e.num e.tx ra e.rf.length rc)/\Aa X (w.heap.size+2) AQ/\Zz w X):=fun X hX=>vC.o X (sV.trans (hX.mono sV.size));obtain⟨D0,sD⟩:∃t,t=dL (EV 0 v ⟨#[]⟩ ⟨#[]⟩) vs:=⟨_,rfl⟩
  have sE:D0.length=22/\∀u∈D0,u.oneCell'=true:=by rw[sD];exact Jz xN
  have tT:Hid (prog.built 48 [(1,.agg vs.toArray)]=some D0.toArray):=by show _=some D0.toArray;rw[sD];exact QC xN.1
  obtain⟨W3,rA⟩:∃Y,Y=(j.alloc (.cells Ya 48)).setCells j.heap.size 0 D0.toArray.toList:=⟨_,rfl⟩;have hb:=boxed (X:=j) (cs:=D0) (z:=AQ) (T:=48) (by rw[sE.1];rfl);have e3:W3=(j.alloc (.cells AQ.toArray 48)).setCells j.heap.size 0 D0:=rA;rw[←e3]at hb;obtain⟨x3,b3,z3⟩:=hb
  have tU:Hid ((j.alloc (.cells Ya 48)).there j.heap.size 0 D0.toArray.size/\D0.length=22/\∀x∈D0,x.oneCell'=true):=⟨by rw[show D0.toArray.size=22 from by rw[List.size_toArray];exact sE.1];exact(Aa.new j AQ 48).there,sE⟩;have tM:Hid (Aa W3 j.heap.size (dL (EV 0 v ⟨#[]⟩ ⟨#[]⟩) vs)):=by show Aa W3 j.heap.size _;rw[←sD];exact x3
  have vH:Hid (Zz j W3):=b3;have rT:=Yx rA;have pR:W3.heap.size=j.heap.size+1:=z3;clear rA e3 x3 b3 z3 sD sE sK rC yR xN sV vC vT z1 z2;go_upto_region 4 with(first
   |refine Gu rfl 48 _ rfl [(1,.agg vs.toArray)] (by kernel_rfl) D0.toArray tT.o ?_
   |refine wpList_store_mid rfl 48 _ _ rfl j.heap.size 0 D0.toArray rfl rfl tU.o.1 (by rw[List.size_toArray,tU.o.2.1];kernel_rfl) (all_oneCell_toArray tU.o.2.2) ?_)
  rw[←rT.o];clear rT tT tU
  as_aux_lemma=>
  obtain⟨pX,_⟩:=(F.o W3 vH.o).1 0 _ rfl;go_wp2_with (refine wpList_load_mid rfl 67 _ rfl (w.heap.size+1) 0 rfl (Yn e.kd e.s e.nm e.num e.tx ra e.rf.length rc) _ (F.o W3 vH.o).2.1.range underlying67 rfl (by kernel_rfl) ?_);refine(sT.o W3 (F.o W3 vH.o).2.2.2).mono ?_;rintro o s ⟨rfl,sM⟩;have z4:=sM.size;have xG:Hid (Zz j s):=vH.o.trans (sM.mono vH.o.size)
  have zN:=Yx (Aa.same tM.o (sM.block _ (by omega)));have tX:Hid (j.heap.size<s.heap.size):=by show j.heap.size<s.heap.size;omega
  clear pX sT tM vH sM z4 pR;cases hoe:e.ok v.wd with
  |false=>
   have zS:Hid (Gz v e (EV 1 v ⟨#[]⟩ ⟨#[]⟩)):=.inr ⟨yA.o,.inl ⟨1,⟨#[]⟩,⟨#[]⟩,.inl ⟨hoe,rfl,rfl,rfl⟩,rfl⟩⟩;have zK:=xG.o;clear hoe yN vA HK HA HZ yO yE HF yD zJ yY yZ HL;obtain⟨⟨k0,g0⟩,_⟩:=NC zN.o zM.o.1;obtain⟨Y9,zC⟩:∃Y,Y=s.setCell (Ze (j.heap.size) 0) (Zg 1):=⟨_,rfl⟩;have yM:Aa Y9 j.heap.size (dL (EV 1 v ⟨#[]⟩ ⟨#[]⟩) vs):=by rw[zC];exact Mb zN.o 1
   have zE:Below j.heap.size j Y9:=by rw[zC];exact zK.setCell (Zx) _
   have yG:=Yx zC;have zT:=Yx yM;clear zC yM zK;go_upto_region 6 with fail;rw[←yG.o];clear yG k0 g0;obtain⟨D,hD⟩:∃t:Zj,t=dL (EV 1 v ⟨#[]⟩ ⟨#[]⟩) vs:=⟨_,rfl⟩;have vD:Hid (Aa Y9 j.heap.size D):=by rw[hD];exact zT.o
   have G:=Yx (LA (F.o Y9 zE).2.2 (yX.o Y9 zE) zS.o zM.o hD);clear hD zE vX yX F zM;go_wp2_with (first
    |refine wpList_load_mid rfl 48 _ rfl j.heap.size 0 rfl D _ vD.o.range underlying48 rfl (by rw[G.o.1.1];kernel_rfl) ?_
    |refine wpList_store_mid rfl 48 _ _ rfl (w.heap.size+2) 0 D.toArray rfl rfl G.o.2.1 (by rw[List.size_toArray,G.o.1.1];kernel_rfl) (all_oneCell_toArray G.o.1.2) ?_)
   exact bodyPost_ret (BL results21 _ _ (w.heap.size+2) D _ rfl (Aa.range G.o.2.2.1) underlying48 rfl (by rw[G.o.1.1];kernel_rfl)) rfl G.o.2.2.2
  |true=>
   have tV:Hid (e.ok v.wd=true):=hoe;replace HA:=Yx (HA.o hoe);replace yE:=Yx (yE.o hoe);replace HF:=Yx (HF.o hoe);replace yD:=Yx (yD.o hoe);replace zJ:=Yx (zJ.o hoe);have rV:Hid _:=fun r xa xc U H N O X=>HZ.o r xa xc U H N O X yA.o hoe;clear hoe HZ
   as_aux_lemma=>
   go_upto_region 7 with fail;go_cut [6] (fun H wx=>∃(E:Nat) (M:Zj),H=Yz E/\Hid (Aa wx E M/\s.heap.size<=E/\Zz s wx/\JA v e Z wx M))
   case first=>
    have yF:Hid (∀X k,(Aa X w.heap.size [Zg v.wd,Zg v.aj,.slice sa v.ss.length sc,.slice ta v.tt.length tc,b0,b1,b2,b3,b4,b5,b6,c0,c1,c2,c3,c4,c5]/\Aa X (w.heap.size+1) (Yn e.kd e.s e.nm e.num e.tx ra e.rf.length rc))->Zz X k->Aa k w.heap.size [Zg v.wd,Zg v.aj,.slice sa v.ss.length sc,.slice ta v.tt.length tc,b0,b1,b2,b3,b4,b5,b6,c0,c1,c2,c3,c4,c5]/\Aa k (w.heap.size+1) (Yn e.kd e.s e.nm e.num e.tx ra e.rf.length rc)):=fun X k h1 h2=>⟨Aa.below h1.1 h2,Aa.below h1.2 h2⟩
    have tW:Hid (∀X k (V:List Nat),(Aa X w.heap.size [Zg v.wd,Zg v.aj,.slice sa v.ss.length sc,.slice ta v.tt.length tc,b0,b1,b2,b3,b4,b5,b6,c0,c1,c2,c3,c4,c5]/\Aa X (w.heap.size+1) (Yn e.kd e.s e.nm e.num e.tx ra e.rf.length rc))->(∀b∈V,s.heap.size<=b)->Tn V X k->Aa k w.heap.size [Zg v.wd,Zg v.aj,.slice sa v.ss.length sc,.slice ta v.tt.length tc,b0,b1,b2,b3,b4,b5,b6,c0,c1,c2,c3,c4,c5]/\Aa k (w.heap.size+1) (Yn e.kd e.s e.nm e.num e.tx ra e.rf.length rc)):=fun X k V h1 h2 h3=>⟨Aa.same h1.1 (h3.block _ h1.1.lt (fun h=>by have:=h2 _ h;have:=tX.o;have:=tA.o;omega)),Aa.same h1.2 (h3.block _ h1.2.lt (fun h=>by have:=h2 _ h;have:=tX.o;have:=tA.o;omega))⟩
    have sU:Hid (∀X k E,(Aa X w.heap.size [Zg v.wd,Zg v.aj,.slice sa v.ss.length sc,.slice ta v.tt.length tc,b0,b1,b2,b3,b4,b5,b6,c0,c1,c2,c3,c4,c5]/\Aa X (w.heap.size+1) (Yn e.kd e.s e.nm e.num e.tx ra e.rf.length rc))->s.heap.size<=E->Tn [E] X k->Aa k w.heap.size [Zg v.wd,Zg v.aj,.slice sa v.ss.length sc,.slice ta v.tt.length tc,b0,b1,b2,b3,b4,b5,b6,c0,c1,c2,c3,c4,c5]/\Aa k (w.heap.size+1) (Yn e.kd e.s e.nm e.num e.tx ra e.rf.length rc)):=fun X k E h1 h2 h3=>tW.o X k [E] h1 (by simp;exact h2) h3
    have xH:Hid (∀X,Zz s X->Zz w X):=fun X hX=>(F.o X (xG.o.trans (hX.mono xG.o.size))).2.2.2;have rJ:Hid (∀X k M,JA v e Z X M->Zz X k->JA v e Z k M):=fun X k M h1 h2=>by
     rcases h1 with h|⟨r,xa,xc,U,H,N,O,h3,h4,h5⟩
     ·exact .inl h
     ·exact .inr ⟨r,xa,xc,U,H,N,O,h3,h4,yO.o _ _ _ _ _ _ _ _ h5 _ h2⟩
    have vM:Hid (∀X E M,s.heap.size<=E->Zz s X->X.heap[E]?=some (.cells z12.toArray 90 (0,0))->JA v e Z X M->Hid (Aa (X.setCells E 0 M.toArray.toList) E M/\s.heap.size<=E/\Zz s (X.setCells E 0 M.toArray.toList)/\JA v e Z (X.setCells E 0 M.toArray.toList) M)):=fun X E M h1 h2 h3 h4=>by
     have t:=Ax E M 0 X;refine⟨(Aa.dv (l:=z12) h3).aw M (by rw[h4.small.1];rfl),h1,h2.trans (t.below h2.size (by simp;exact h1)),?_⟩;rcases h4 with h|⟨r,xa,xc,U,H,N,O,h5,h6,h7⟩
     ·exact .inl h
     ·exact .inr ⟨r,xa,xc,U,H,N,O,h5,h6,rV.o _ _ _ _ _ _ _ _ h5 h7 E _ h3 t⟩
    refine wp_region_held_drew (S:=fun X=>Aa X w.heap.size [Zg v.wd,Zg v.aj,.slice sa v.ss.length sc,.slice ta v.tt.length tc,b0,b1,b2,b3,b4,b5,b6,c0,c1,c2,c3,c4,c5]/\Aa X (w.heap.size+1) (Yn e.kd e.s e.nm e.num e.tx ra e.rf.length rc)) (by kernel_rfl) (show _/\_ from⟨(F.o s xG.o).1,(F.o s xG.o).2.1⟩) (fun hS=> ?_)
    refine Br 0 ⟨some 23,.fieldAddr 46 (.tmp 2) 3,0,BN,#[],none⟩ (Yy w.heap.size 4) (by exact hS) ?_;try simp only[Act.put,As]
    refine Di 1 ⟨some 24,.load 43 (.tmp 23),43,BN,#[Ai 0],none⟩ (.agg #[b0,b1,b2,b3,b4,b5,b6]) (by exact yieldsIf_load_mid (by rfl) 43 _ rfl (w.heap.size) 4 rfl [b0,b1,b2,b3,b4,b5,b6] _ (fun X h=>Aa.fb [Zg v.wd,Zg v.aj,.slice sa v.ss.length sc,.slice ta v.tt.length tc] [b0,b1,b2,b3,b4,b5,b6] [c0,c1,c2,c3,c4,c5] h.1) underlying43 rfl (by kernel_rfl)) (by exact hS) ?_;try simp only[Act.put,As]
    refine Di 3 ⟨some 26,.load 67 (.tmp 3),67,BN,#[],none⟩ (.agg (Ym e.kd e.s e.nm e.num e.tx ra e.rf.length rc)) (by exact yieldsIf_load_mid (by rfl) 67 _ rfl (w.heap.size+1) 0 rfl (Yn e.kd e.s e.nm e.num e.tx ra e.rf.length rc) _ (fun X h=>h.2.range) underlying67 rfl (by kernel_rfl)) (by exact hS) ?_;try simp only[Act.put,As]
    refine wpAnyH_ready (rs:=[2,5]) (by kernel_rfl) (by simp) ?_;refine AllReadyH.cons (o:=⟨some 25,.call ⟨.value (.func 45),#[.tmp 24],#[43]⟩,43,BN,#[Ai 1],none⟩) rfl (fun K i=> ?_) (AllReadyH.cons (o:=⟨some 6,.alloc 90,0,BN,#[],none⟩) rfl (fun K i=> ?_) AllReadyH.nil)
    ·go_simp;refine(vA.o s.drew (xH.o _ (Below.refl _ _).drew)).mono ?_;rintro o w5 ⟨cs,V,rfl,vE,sZ,sF⟩;try go_simp
     refine i.out _ _ (yF.o _ _ hS vE) (fun zX=> ?_);clear i K;try simp only[Act.put,As]
     have yI:Below s.heap.size s w5:=(Below.refl s.heap.size s).drew.trans vE;have xB:∀b∈V,s.heap.size<=b/\b<w5.heap.size:=sZ;refine wpAnyH_ready (rs:=[4,5]) (by kernel_rfl) (by simp) ?_
     refine AllReadyH.cons (o:=⟨some 27,.call ⟨.value (.func 44),#[.tmp 25,.tmp 26],#[43,67]⟩,90,BN,#[Ai 2,Ai 3,⟨2,.chain⟩],none⟩) rfl (fun K i=> ?_) (AllReadyH.cons (o:=⟨some 6,.alloc 90,0,BN,#[],none⟩) rfl (fun K i=> ?_) AllReadyH.nil)
     ·go_simp;refine(HA.o cs V w5 (xH.o _ yI) sF).mono ?_;rintro o w6 ⟨yQ,M,rfl,zB⟩;have xM:=zB.small.1;have tF:=zB.small.2;try go_simp
      refine i.out _ _ (tW.o _ _ V zX (fun b hb=>(xB b hb).1) yQ) (fun yJ=> ?_);clear i K;try simp only[Act.put,As]
      have xJ:Below s.heap.size s w6:=yI.trans (yQ.below yI.size (fun b hb=>(xB b hb).1));refine AM 5 ⟨some 6,.alloc 90,0,BN,#[],none⟩ (fun K i=> ?_);go_simp;refine i.out _ _ (yF.o _ _ yJ (Zy)) (fun xK=> ?_);clear i K;try simp only[Act.put,As]
      have nB:(w6.alloc (.cells z12.toArray 90)).heap[w6.heap.size]?=some (.cells z12.toArray 90 (0,0)):=heap_alloc_new _ _;have bB:Below w6.heap.size w6 (w6.alloc (.cells z12.toArray 90)):=(Zy);refine AM 6 ⟨none,.store 90 (.tmp 6) (.tmp 27),0,BN,#[Ai 5,Ai 4,⟨4,.chain⟩,Ae 0,Ae 1,Ae 2,Ae 3,Ae 4,Ae 5],none⟩ (fun K i=> ?_);rw[if_pos (by rfl)]
      refine wp_store_mid 90 _ _ rfl w6.heap.size 0 M.toArray rfl rfl (by rw[show M.toArray.size=12 from by rw[List.size_toArray];exact xM];exact(Aa.dv (l:=z12) nB).there) (by rw[List.size_toArray,xM];kernel_rfl) (all_oneCell_toArray tF) ?_;refine i.out _ _ (sU.o _ _ _ xK xJ.size (Ax _ _ _ _)) (fun yK=> ?_);clear i K;try simp only[Act.put]
      refine wpAnyH_done (by kernel_rfl) ?_ _;go_wp2_with fail;go_meet;exact⟨w6.heap.size,M,rfl,vM.o _ w6.heap.size M xJ.size (xJ.trans (bB.mono xJ.size)) nB (rJ.o _ _ _ zB bB)⟩
     ·go_simp;refine i.out _ _ (yF.o _ _ zX (Zy)) (fun yJ=> ?_);clear i K;try simp only[Act.put,As]
      have bB:Below w5.heap.size w5 (w5.alloc (.cells z12.toArray 90)):=(Zy);have sY:=yI.trans (bB.mono yI.size);refine AM 4 ⟨some 27,.call ⟨.value (.func 44),#[.tmp 25,.tmp 26],#[43,67]⟩,90,BN,#[Ai 2,Ai 3,⟨2,.chain⟩],none⟩ (fun K i=> ?_);go_simp;refine(HA.o cs V _ (xH.o _ sY) (HK.o _ _ _ _ sF bB)).mono ?_;rintro o w6 ⟨yQ,M,rfl,zB⟩;have xM:=zB.small.1;have tF:=zB.small.2;try go_simp
      refine i.out _ _ (tW.o _ _ V yJ (fun b hb=>(xB b hb).1) yQ) (fun xK=> ?_);clear i K;try simp only[Act.put,As]
      have xJ:Below s.heap.size s w6:=sY.trans (yQ.below sY.size (fun b hb=>(xB b hb).1));have nB:w6.heap[w5.heap.size]?=some (.cells z12.toArray 90 (0,0)):=(yQ.block w5.heap.size (by simp) (fun h=>by have:=(xB _ h).2;omega)).trans (show(w5.alloc (.cells z12.toArray 90)).heap[w5.heap.size]?=_ from heap_alloc_new _ _)
      refine AM 6 ⟨none,.store 90 (.tmp 6) (.tmp 27),0,BN,#[Ai 5,Ai 4,⟨4,.chain⟩,Ae 0,Ae 1,Ae 2,Ae 3,Ae 4,Ae 5],none⟩ (fun K i=> ?_);rw[if_pos (by rfl)];refine wp_store_mid 90 _ _ rfl w5.heap.size 0 M.toArray rfl rfl (by rw[show M.toArray.size=12 from by rw[List.size_toArray];exact xM];exact(Aa.dv (l:=z12) nB).there) (by rw[List.size_toArray,xM];kernel_rfl) (all_oneCell_toArray tF) ?_
      refine i.out _ _ (sU.o _ _ _ xK yI.size (Ax _ _ _ _)) (fun yK=> ?_);clear i K;try simp only[Act.put]
      refine wpAnyH_done (by kernel_rfl) ?_ _;go_wp2_with fail;go_meet;exact⟨w5.heap.size,M,rfl,vM.o w6 w5.heap.size M yI.size xJ nB zB⟩
    ·go_simp;refine i.out _ _ (yF.o _ _ hS (Zy)) (fun zX=> ?_);clear i K;try simp only[Act.put,As]
     have bB:Below s.heap.size s (s.alloc (.cells z12.toArray 90)).drew:=(Zy).drew;refine AM 2 ⟨some 25,.call ⟨.value (.func 45),#[.tmp 24],#[43]⟩,43,BN,#[Ai 1],none⟩ (fun K i=> ?_);go_simp;refine(vA.o _ (xH.o _ bB)).mono ?_;rintro o w5 ⟨cs,V,rfl,vE,sZ,sF⟩;try go_simp
     refine i.out _ _ (yF.o _ _ zX vE) (fun yJ=> ?_);clear i K;try simp only[Act.put,As]
     have yI:Below s.heap.size s w5:=bB.trans (vE.mono bB.size);have xB:∀b∈V,s.heap.size<b/\b<w5.heap.size:=fun b hb=>by have:=sZ b hb;simp at this;omega
     refine AM 4 ⟨some 27,.call ⟨.value (.func 44),#[.tmp 25,.tmp 26],#[43,67]⟩,90,BN,#[Ai 2,Ai 3,⟨2,.chain⟩],none⟩ (fun K i=> ?_);go_simp;refine(HA.o cs V w5 (xH.o _ yI) sF).mono ?_;rintro o w6 ⟨yQ,M,rfl,zB⟩;have xM:=zB.small.1;have tF:=zB.small.2;try go_simp
     refine i.out _ _ (tW.o _ _ V yJ (fun b hb=>by have:=xB b hb;omega) yQ) (fun xK=> ?_);clear i K;try simp only[Act.put,As]
     have xJ:Below s.heap.size s w6:=yI.trans (yQ.below yI.size (fun b hb=>by have:=xB b hb;omega));have nB:w6.heap[s.heap.size]?=some (.cells z12.toArray 90 (0,0)):=(yQ.block s.heap.size (by have:=vE.size;simp at this;omega) (fun h=>by have:=(xB _ h).1;omega)).trans ((vE.block s.heap.size (by simp)).trans (show(s.alloc (.cells z12.toArray 90)).heap[s.heap.size]?=_ from heap_alloc_new _ _))
     refine AM 6 ⟨none,.store 90 (.tmp 6) (.tmp 27),0,BN,#[Ai 5,Ai 4,⟨4,.chain⟩,Ae 0,Ae 1,Ae 2,Ae 3,Ae 4,Ae 5],none⟩ (fun K i=> ?_);rw[if_pos (by rfl)];refine wp_store_mid 90 _ _ rfl s.heap.size 0 M.toArray rfl rfl (by rw[show M.toArray.size=12 from by rw[List.size_toArray];exact xM];exact(Aa.dv (l:=z12) nB).there) (by rw[List.size_toArray,xM];kernel_rfl) (all_oneCell_toArray tF) ?_
     refine i.out _ _ (sU.o _ _ _ xK (Zx) (Ax _ _ _ _)) (fun yK=> ?_);clear i K;try simp only[Act.put]
     refine wpAnyH_done (by kernel_rfl) ?_ _;go_wp2_with fail;go_meet;exact⟨s.heap.size,M,rfl,vM.o w6 s.heap.size M (Zx) xJ nB zB⟩
   case rest=>
   revert wc;intro w7 hcut;obtain⟨E,M,rfl,hcut⟩:=hcut;obtain⟨xC,pM,sB,qN⟩:=hcut.o;have z7:=sB.size;have vI:Hid (Zz j w7):=xG.o.trans (sB.mono xG.o.size);replace zN:=Yx (Aa.same zN.o (sB.block _ tX.o));have tB:Hid (j.heap.size<E/\E<w7.heap.size):=⟨by have:=tX.o;omega,xC.fs qN.small.1⟩;clear hcut sB HA vA HK rV xG z7 pM;rcases qN with⟨c,p,q,vK,rfl⟩|⟨r,xa,xc,U,H,N,O,hy,rfl,hz⟩
   ·have pK:(c==0)=false:=by have:=FI.code vK;simp;omega
    have zS:Hid (Gz v e (EV c v p q)):=.inr ⟨yA.o,.inl ⟨c,p,q,.inr ⟨tV.o,.inl vK⟩,rfl⟩⟩;obtain⟨u0,_⟩:=xC 0 _ rfl;obtain⟨pV,_⟩:=xC 10 _ rfl;obtain⟨pW,_⟩:=xC 11 _ rfl;obtain⟨⟨k0,g0⟩,⟨pT,pH⟩,pU,pI⟩:=NC zN.o zM.o.1;obtain⟨Y9,zC⟩:∃Y,Y=((w7.setCell (Ze (j.heap.size) 0) (Zg c)).setCell (Ze (j.heap.size) 20) (.string p)).setCell (Ze (j.heap.size) 21) (.string q):=⟨_,rfl⟩
    have yM:Aa Y9 j.heap.size (dL (EV c v p q) vs):=by rw[zC];exact WV zN.o zM.o.1 c p q
    have zE:Below j.heap.size j Y9:=by rw[zC];exact((vI.o.setCell (Zx) _).setCell (Zx) _).setCell (Zx) _
    have pP:E≠j.heap.size:=by have:=tB.o;omega
    have yG:=Yx zC;have zT:=Yx yM;clear zC yM xC vK yN yO yE HF yD zJ yY yZ HL;go_upto_region 12 with fail;rw[←yG.o];clear yG k0 g0 pT pH pU pI u0 pV pW pK pP;obtain⟨D,hD⟩:∃t:Zj,t=dL (EV c v p q) vs:=⟨_,rfl⟩;have vD:Hid (Aa Y9 j.heap.size D):=by rw[hD];exact zT.o
    have G:=Yx (LA (F.o Y9 zE).2.2 (yX.o Y9 zE) zS.o zM.o hD);clear hD zE vX yX F zM;go_wp2_with (first
     |refine wpList_load_mid rfl 48 _ rfl j.heap.size 0 rfl D _ vD.o.range underlying48 rfl (by rw[G.o.1.1];kernel_rfl) ?_
     |refine wpList_store_mid rfl 48 _ _ rfl (w.heap.size+2) 0 D.toArray rfl rfl G.o.2.1 (by rw[List.size_toArray,G.o.1.1];kernel_rfl) (all_oneCell_toArray G.o.1.2) ?_)
    exact bodyPost_ret (BL results21 _ _ (w.heap.size+2) D _ rfl (Aa.range G.o.2.2.1) underlying48 rfl (by rw[G.o.1.1];kernel_rfl)) rfl G.o.2.2.2
   have vU:=Yx xC;have Hy:Hid (e.yes v r):=hy;have tC:Hid (Z r xa xc U H N O w7):=hz;obtain⟨u0,_⟩:=xC 0 _ rfl;clear xC hy hz
   as_aux_lemma=>
   go_upto_region 13 with fail;clear u0;go_cut [51] (fun bg wx=>bg=.bool (e.di v r)/\Hid (Zz w7 wx))
   case first=>
    have pO:(e.kd==1)=true:=by simp[vW.o]
    have qX:Hid (e.di v r=decide (v.aj<CH v.wd r.ks)):=by show e.di v r=_;simp[Ed.di,vW.o]
    replace yE:=Yx (yE.o r xa xc U H N O w7.drew Hy.o (yO.o _ _ _ _ _ _ _ _ tC.o _ (Below.refl _ _).drew))
    refine wp_region_held_drew (S:=fun X=>Aa X (w.heap.size+1) (Yn e.kd e.s e.nm e.num e.tx ra e.rf.length rc)/\Aa X w.heap.size [Zg v.wd,Zg v.aj,.slice sa v.ss.length sc,.slice ta v.tt.length tc,b0,b1,b2,b3,b4,b5,b6,c0,c1,c2,c3,c4,c5]/\Aa X E [Zf,Zg v.wd,Zg r.now,Zg r.given,Zg r.ae,.slice xa r.ks.length xc,.slice U r.ps.length H,.slice N r.ls.length O,.string r.sm,Zg r.le,Zd,Zd]) (by kernel_rfl) (show _/\_/\_ from⟨(F.o w7 vI.o).2.1,(F.o w7 vI.o).1,vU.o⟩) (fun hS=> ?_)
    refine Br 0 ⟨some 41,.fieldAddr 67 (.tmp 3) 0,0,Cq,#[],none⟩ (Yz (w.heap.size+1)) (by exact hS) ?_;try simp only[Act.put,As]
    refine Di 1 ⟨some 42,.load 3 (.tmp 41),3,Cq,#[Ai 0],none⟩ (Zg e.kd) (by exact Or.inl ⟨by rfl,fun X hX=>by have h1:=(hX.1 0 _ rfl).1;go_simp⟩) (by exact hS) ?_;try simp only[Act.put,As]
    refine Br 2 ⟨some 43,.binOp .eql 3 (.tmp 42) (.const (Zg 1)) 3,4,Cq,#[Ai 1],none⟩ (.bool true) (by exact hS) ?_;try simp only[Act.put,As]
    refine Br 3 ⟨some 44,.move (.tmp 43),4,Cq,#[Ai 2],none⟩ (.bool true) (by exact hS) ?_;try simp only[Act.put,As]
    refine Br 4 ⟨some 45,.fieldAddr 90 (.tmp 6) 1,0,Cq,#[⟨3,.guard⟩],some (3,true)⟩ (Yy E 1) (by exact hS) ?_;try simp only[Act.put,As]
    refine Di 5 ⟨some 46,.load 43 (.tmp 45),43,Cq,#[Ai 4,⟨3,.guard⟩],some (3,true)⟩ (.agg (Ys v.wd r.now r.given r.ae xa r.ks.length xc U r.ps.length H N r.ls.length O)) (by exact yieldsIf_load_mid (by rfl) 43 _ rfl (E) 1 rfl (Yt v.wd r.now r.given r.ae xa r.ks.length xc U r.ps.length H N r.ls.length O) _ (fun X h=>Aa.fb [Zf] (Yt v.wd r.now r.given r.ae xa r.ks.length xc U r.ps.length H N r.ls.length O) [.string r.sm,Zg r.le,Zd,Zd] h.2.2) underlying43 rfl (by kernel_rfl)) (by exact hS) ?_
    try simp only[Act.put,As]
    refine Br 7 ⟨some 48,.fieldAddr 46 (.tmp 2) 1,0,Cq,#[⟨3,.guard⟩],some (3,true)⟩ (Yy w.heap.size 1) (by exact hS) ?_;try simp only[Act.put,As]
    refine Di 8 ⟨some 49,.load 3 (.tmp 48),3,Cq,#[Ai 7,⟨3,.guard⟩],some (3,true)⟩ (Zg v.aj) (by exact Or.inl ⟨by rfl,fun X hX=>by have h1:=(hX.2.1 1 _ rfl).1;go_simp⟩) (by exact hS) ?_;try simp only[Act.put,As]
    refine AM 6 ⟨some 47,.call ⟨.value (.func 46),#[.tmp 46],#[43]⟩,3,Cq,#[Ai 5,⟨3,.chain⟩,⟨3,.guard⟩],some (3,true)⟩ (fun K i=> ?_);rw[if_pos (by rfl)];go_simp;refine Calls.mono yE.o ?_;rintro o w8 ⟨rfl,sN⟩;have pJ:Below w7.heap.size w7 w8:=(Below.refl w7.heap.size w7).drew.trans sN;try go_simp
    refine i.out _ _ ⟨Aa.below hS.1 sN,Aa.below hS.2.1 sN,Aa.below hS.2.2 sN⟩ (fun zX=> ?_);clear i K;try simp only[Act.put,As]
    refine Br 9 ⟨some 50,.binOp .gtr 3 (.tmp 47) (.tmp 49) 3,4,Cq,#[Ai 6,Ai 8,⟨3,.guard⟩],some (3,true)⟩ (.bool (decide (v.aj<CH v.wd r.ks))) (by exact zX) ?_;try simp only[Act.put,As]
    refine Br 10 ⟨some 51,.pick (.tmp 44) (.tmp 50) (.const (.bool false)),4,Cq,#[Ai 3,Ai 9],none⟩ (.bool (decide (v.aj<CH v.wd r.ks))) (by exact zX) ?_;try simp only[Act.put,As]
    refine wpAnyH_done (by kernel_rfl) ?_ _;go_wp2_with fail;go_meet;exact⟨by rw[qX.o],pJ⟩
   case rest=>
   revert wc;intro f hcut;obtain⟨rfl,yC⟩:=hcut;have pY:=yC.o.size;have zA:Hid (Zz j f):=vI.o.trans (yC.o.mono vI.o.size);replace zN:=Yx (Aa.same zN.o (yC.o.block _ (by have:=tB.o;omega)));replace vU:=Yx (Aa.below vU.o yC.o);replace tC:Hid (Z r xa xc U H N O f):=yO.o _ _ _ _ _ _ _ _ tC.o _ yC.o;have vP:Hid (j.heap.size<E/\E<f.heap.size):=⟨tB.o.1,by have:=tB.o;omega⟩;clear yC yE vI tB pY
   cases hbg:e.di v r with
   |true=>
    have zS:Hid (Gz v e (EV 8 v ⟨#[]⟩ ⟨#[]⟩)):=.inr ⟨yA.o,.inl ⟨8,⟨#[]⟩,⟨#[]⟩,.inr ⟨tV.o,.inr ⟨rfl,rfl,r,Hy.o,.inl ⟨hbg,rfl⟩⟩⟩,rfl⟩⟩;have zK:=zA.o;clear hbg yN yO HF yD zJ yY yZ HL;obtain⟨⟨k0,g0⟩,_⟩:=NC zN.o zM.o.1;obtain⟨Y9,zC⟩:∃Y,Y=f.setCell (Ze (j.heap.size) 0) (Zg 8):=⟨_,rfl⟩;have yM:Aa Y9 j.heap.size (dL (EV 8 v ⟨#[]⟩ ⟨#[]⟩) vs):=by rw[zC];exact Mb zN.o 8
    have zE:Below j.heap.size j Y9:=by rw[zC];exact zK.setCell (Zx) _
    have yG:=Yx zC;have zT:=Yx yM;clear zC yM zK;go_upto_region 15 with fail;rw[←yG.o];clear yG k0 g0;obtain⟨D,hD⟩:∃t:Zj,t=dL (EV 8 v ⟨#[]⟩ ⟨#[]⟩) vs:=⟨_,rfl⟩;have vD:Hid (Aa Y9 j.heap.size D):=by rw[hD];exact zT.o
    have G:=Yx (LA (F.o Y9 zE).2.2 (yX.o Y9 zE) zS.o zM.o hD);clear hD zE vX yX F zM;go_wp2_with (first
     |refine wpList_load_mid rfl 48 _ rfl j.heap.size 0 rfl D _ vD.o.range underlying48 rfl (by rw[G.o.1.1];kernel_rfl) ?_
     |refine wpList_store_mid rfl 48 _ _ rfl (w.heap.size+2) 0 D.toArray rfl rfl G.o.2.1 (by rw[List.size_toArray,G.o.1.1];kernel_rfl) (all_oneCell_toArray G.o.1.2) ?_)
    exact bodyPost_ret (BL results21 _ _ (w.heap.size+2) D _ rfl (Aa.range G.o.2.2.1) underlying48 rfl (by rw[G.o.1.1];kernel_rfl)) rfl G.o.2.2.2
   |false=>
   have sS:Hid (¬e.gm v r):=by show ¬(e.di v r=true);rw[hbg];simp
   clear hbg;obtain⟨qR,_⟩:=(F.o f zA.o).1 2 _ rfl;obtain⟨qS,_⟩:=(F.o f zA.o).1 3 _ rfl;obtain⟨qM,qP⟩:=HL.o;have qJ:=yZ.o.2;by_cases hfull:v.ss.length+v.tt.length=4000
   ·have zS:Hid (Gz v e (EV 9 v ⟨#[]⟩ ⟨#[]⟩)):=.inr ⟨yA.o,.inl ⟨9,⟨#[]⟩,⟨#[]⟩,.inr ⟨tV.o,.inr ⟨rfl,rfl,r,Hy.o,.inr ⟨sS.o,hfull,rfl⟩⟩⟩,rfl⟩⟩;have rE:¬((v.ss.length:Int)+(v.tt.length:Int)<4000):=by omega
    have zK:=zA.o;clear yN yO HF yD zJ yY yZ HL;go_upto_region 17 with fail;clear qR qS rE hfull qM qP qJ;obtain⟨⟨k0,g0⟩,_⟩:=NC zN.o zM.o.1;obtain⟨Y9,zC⟩:∃Y,Y=f.setCell (Ze (j.heap.size) 0) (Zg 9):=⟨_,rfl⟩;have yM:Aa Y9 j.heap.size (dL (EV 9 v ⟨#[]⟩ ⟨#[]⟩) vs):=by rw[zC];exact Mb zN.o 9
    have zE:Below j.heap.size j Y9:=by rw[zC];exact zK.setCell (Zx) _
    have yG:=Yx zC;have zT:=Yx yM;clear zC yM zK;go_upto_region 18 with fail;rw[←yG.o];clear yG k0 g0;obtain⟨D,hD⟩:∃t:Zj,t=dL (EV 9 v ⟨#[]⟩ ⟨#[]⟩) vs:=⟨_,rfl⟩;have vD:Hid (Aa Y9 j.heap.size D):=by rw[hD];exact zT.o
    have G:=Yx (LA (F.o Y9 zE).2.2 (yX.o Y9 zE) zS.o zM.o hD);clear hD zE vX yX F zM;go_wp2_with (first
     |refine wpList_load_mid rfl 48 _ rfl j.heap.size 0 rfl D _ vD.o.range underlying48 rfl (by rw[G.o.1.1];kernel_rfl) ?_
     |refine wpList_store_mid rfl 48 _ _ rfl (w.heap.size+2) 0 D.toArray rfl rfl G.o.2.1 (by rw[List.size_toArray,G.o.1.1];kernel_rfl) (all_oneCell_toArray G.o.1.2) ?_)
    exact bodyPost_ret (BL results21 _ _ (w.heap.size+2) D _ rfl (Aa.range G.o.2.2.1) underlying48 rfl (by rw[G.o.1.1];kernel_rfl)) rfl G.o.2.2.2
   have rE:(v.ss.length:Int)+(v.tt.length:Int)<4000:=by omega
   have rK:Hid (Jy v e r):=⟨tV.o,Hy.o,sS.o,hfull⟩;clear sS hfull
   as_aux_lemma=>
   go_upto_region 19 with fail;clear qR qS rE qJ qM qP;clear vX zM zN yX;go_wp2_with (refine wpList_load_mid rfl 46 _ rfl w.heap.size 0 rfl [Zg v.wd,Zg v.aj,.slice sa v.ss.length sc,.slice ta v.tt.length tc,b0,b1,b2,b3,b4,b5,b6,c0,c1,c2,c3,c4,c5] _ (F.o f zA.o).1.range underlying46 rfl (by kernel_rfl) ?_);refine(yN.o f (F.o f zA.o).2.2.2).mono ?_
   rintro o d ⟨sb,y,ub,zI,T,P,L,qb,n,Q,m,rs,rfl,xT,xU⟩;obtain⟨C,hC⟩:∃t,t=Cd v (Za sb v.ss.length y) (Za ub v.tt.length zI) T P L (Za qb v.qs.length n) (Za Q v.ms.length m):=⟨_,rfl⟩;have sC:C.length=17/\∀u∈C,u.oneCell'=true:=by obtain⟨a,h,_⟩:=xT.gl;rw[hC];exact⟨rfl,by rw[h];simp[Cd,Value.oneCell']⟩
   rw[←hC];have qU:=xU.size;obtain⟨J,vQ⟩:∃Y,Y=(d.alloc (.cells Xx 46)).setCells d.heap.size 0 C.toArray.toList:=⟨_,rfl⟩;have hb:=boxed (X:=d) (cs:=C) (z:=Yb) (T:=46) (by rw[sC.1];rfl);have rW:J=(d.alloc (.cells Yb.toArray 46)).setCells d.heap.size 0 C:=vQ;rw[←rW]at hb;obtain⟨rG,sW,tS⟩:=hb
   have xQ:Hid ((d.alloc (.cells Xx 46)).there d.heap.size 0 C.toArray.size/\C.length=17/\∀x∈C,x.oneCell'=true):=⟨by rw[show C.toArray.size=17 from by rw[List.size_toArray];exact sC.1];exact(Aa.new d Yb 46).there,sC⟩
   have yB:Hid (Aa J d.heap.size [Zg v.wd,Zg v.aj,Za sb v.ss.length y,Za ub v.tt.length zI,Zg v.sw,Zg v.now,Zg v.given,Zg v.ae,T,P,L,Zg v.ph,Za qb v.qs.length n,Za Q v.ms.length m,Zg v.ag,Zg v.at_,Zg v.ro]):=by show Aa J d.heap.size [Zg v.wd,Zg v.aj,Za sb v.ss.length y,Za ub v.tt.length zI,Zg v.sw,Zg v.now,Zg v.given,Zg v.ae,T,P,L,Zg v.ph,Za qb v.qs.length n,Za Q v.ms.length m,Zg v.ag,Zg v.at_,Zg v.ro];rw[hC]at rG;exact rG
   have xF:=xU.trans (sW.mono xU.size);have zR:Hid (Zz j J):=zA.o.trans (xF.mono zA.o.size);have zP:Hid (AU J f.heap.size (Za sb v.ss.length y) (Za ub v.tt.length zI) T P L (Za qb v.qs.length n) (Za Q v.ms.length m) rs v/\∀g∈CJ (Za sb v.ss.length y) (Za ub v.tt.length zI) T P L (Za qb v.qs.length n) (Za Q v.ms.length m) rs,g<d.heap.size):=⟨xT.below sW,xT.cf⟩
   have yH:Hid (w.heap.size+3<=j.heap.size/\j.heap.size<E/\E<f.heap.size/\f.heap.size<=d.heap.size/\J.heap.size=d.heap.size+1):=⟨by have:=tA.o;omega,vP.o.1,vP.o.2,qU,tS⟩;have zY:Hid (Zz f J):=xF;have tJ:=Yx vQ;clear vQ rW rG sW tS qU hC sC xT xU xF yN vP tA
   go_upto_region 20 with(refine wpList_store_mid rfl 46 _ _ rfl d.heap.size 0 C.toArray rfl rfl xQ.o.1 (by rw[List.size_toArray,xQ.o.2.1];kernel_rfl) (all_oneCell_toArray xQ.o.2.2) ?_);rw[←tJ.o];clear tJ xQ
   as_aux_lemma=>
   obtain⟨et,rD⟩:∃t,t=e.br v.wd:=⟨_,rfl⟩;rw[←rD]at HF;obtain⟨yS,tG⟩:∃t,t=v.tt++[et]:=⟨_,rfl⟩;obtain⟨I,tH⟩:∃t,t=yS.length:=⟨_,rfl⟩;have rQ:Hid (yS=v.tt++[e.br v.wd]/\I=yS.length):=⟨by rw[tG,rD],tH⟩;have rP:Hid (yS=v.tt++[et]/\I=yS.length):=⟨tG,tH⟩;clear rD tG tH;simp only[Act.put]
   go_cut [] (fun wx=>∃(A:Zk) (B:Nat),Hid (Aa wx d.heap.size [Zg v.wd,Zg v.aj,Za sb v.ss.length y,.slice A I B,Zg v.sw,Zg v.now,Zg v.given,Zg v.ae,T,P,L,Zg v.ph,Za qb v.qs.length n,Za Q v.ms.length m,Zg v.ag,Zg v.at_,Zg v.ro]/\Zz f wx/\J.heap.size<=wx.heap.size/\Al wx f.heap.size (Za sb v.ss.length y) v.ss/\Al wx f.heap.size (.slice A I B) yS/\Al wx f.heap.size (Za qb v.qs.length n) v.qs/\Al wx f.heap.size (Za Q v.ms.length m) v.ms/\∀g,Ao (.slice A I B)=some g->g≠d.heap.size))
   case first=>
    have yF:Hid (∀X k,(Aa X w.heap.size [Zg v.wd,Zg v.aj,.slice sa v.ss.length sc,.slice ta v.tt.length tc,b0,b1,b2,b3,b4,b5,b6,c0,c1,c2,c3,c4,c5]/\Aa X (w.heap.size+1) (Yn e.kd e.s e.nm e.num e.tx ra e.rf.length rc))->Zz X k->Aa k w.heap.size [Zg v.wd,Zg v.aj,.slice sa v.ss.length sc,.slice ta v.tt.length tc,b0,b1,b2,b3,b4,b5,b6,c0,c1,c2,c3,c4,c5]/\Aa k (w.heap.size+1) (Yn e.kd e.s e.nm e.num e.tx ra e.rf.length rc)):=fun X k h1 h2=>⟨Aa.below h1.1 h2,Aa.below h1.2 h2⟩
    have xH:Hid (∀X,Zz J X->Zz w X):=fun X hX=>(F.o X (zR.o.trans (hX.mono zR.o.size))).2.2.2
    have rM:Hid (∀X,Zz J X->∃(A:Zk) (B:Nat) (Y:Zh),(Builtin.append_ #[22,22] 22 #[Za ub v.tt.length zI,Za X.heap.size 1 1]).run prog (X.alloc (.cells #[.string et] 9))=.ok (.slice A I B) Y/\(Aa Y w.heap.size [Zg v.wd,Zg v.aj,.slice sa v.ss.length sc,.slice ta v.tt.length tc,b0,b1,b2,b3,b4,b5,b6,c0,c1,c2,c3,c4,c5]/\Aa Y (w.heap.size+1) (Yn e.kd e.s e.nm e.num e.tx ra e.rf.length rc))/\(Y.cell? (Ze (d.heap.size) 3)=some (Za ub v.tt.length zI)/\Y.frozen? ⟨d.heap.size,3,none⟩=false)/\(Aa (Y.setCell (Ze (d.heap.size) 3) (.slice A I B)) w.heap.size [Zg v.wd,Zg v.aj,.slice sa v.ss.length sc,.slice ta v.tt.length tc,b0,b1,b2,b3,b4,b5,b6,c0,c1,c2,c3,c4,c5]/\Aa (Y.setCell (Ze (d.heap.size) 3) (.slice A I B)) (w.heap.size+1) (Yn e.kd e.s e.nm e.num e.tx ra e.rf.length rc))/\Hid (Aa (Y.setCell (Ze (d.heap.size) 3) (.slice A I B)) d.heap.size [Zg v.wd,Zg v.aj,Za sb v.ss.length y,.slice A I B,Zg v.sw,Zg v.now,Zg v.given,Zg v.ae,T,P,L,Zg v.ph,Za qb v.qs.length n,Za Q v.ms.length m,Zg v.ag,Zg v.at_,Zg v.ro]/\Zz f (Y.setCell (Ze (d.heap.size) 3) (.slice A I B))/\J.heap.size<=(Y.setCell (Ze (d.heap.size) 3) (.slice A I B)).heap.size/\Al (Y.setCell (Ze (d.heap.size) 3) (.slice A I B)) f.heap.size (Za sb v.ss.length y) v.ss/\Al (Y.setCell (Ze (d.heap.size) 3) (.slice A I B)) f.heap.size (.slice A I B) yS/\Al (Y.setCell (Ze (d.heap.size) 3) (.slice A I B)) f.heap.size (Za qb v.qs.length n) v.qs/\Al (Y.setCell (Ze (d.heap.size) 3) (.slice A I B)) f.heap.size (Za Q v.ms.length m) v.ms/\∀g,Ao (.slice A I B)=some g->g≠d.heap.size)):=fun X hX=>by
     have nF:=hX.size;have hz:=yH.o;obtain⟨tG,tH⟩:=rP.o;have sJ:=F.o X (zR.o.trans (hX.mono zR.o.size));have hA:=zP.o.1.below hX;have bA:Below X.heap.size X (X.alloc (.cells #[.string et] 9)):=(Zy)
     obtain⟨V',Y,hr,hO,hg,hk⟩:=WH (X.alloc (.cells #[.string et] 9)) f.heap.size (Za ub v.tt.length zI) v.tt (hA.u.below bA) ⟨X.heap.size,0,none⟩ 1 et (by simp[go_sem]) (by have:=HL.o.2;omega) (by simp;omega) 22;rw[←tG]at hO;obtain⟨A,B,rfl,_⟩:=hO.row;rw[←tH]at hr hO hk;have nD:=hA.u.cg (g:=ub) rfl;have nE:ub<d.heap.size:=zP.o.2 ub (by unfold CJ;simp[Ao])
     have tY:Tn [ub] X Y:=((Tn.of (V:=[]) bA).mono (by simp)).trans (Tn.grown hg (by simp));have tZ:Tn [d.heap.size] Y (Y.setCell (Ze (d.heap.size) 3) (.slice A I B)):=Tn.set _ _ _ _ (by simp)
     have s1:Aa Y w.heap.size [Zg v.wd,Zg v.aj,.slice sa v.ss.length sc,.slice ta v.tt.length tc,b0,b1,b2,b3,b4,b5,b6,c0,c1,c2,c3,c4,c5]/\Aa Y (w.heap.size+1) (Yn e.kd e.s e.nm e.num e.tx ra e.rf.length rc):=⟨Aa.same sJ.1 (tY.block _ sJ.1.lt (by simp;omega)),Aa.same sJ.2.1 (tY.block _ sJ.2.1.lt (by simp;omega))⟩;have xo:=Aa.below yB.o hX;have xY:=Aa.same xo (tY.block _ xo.lt (by simp;omega))
     have tE:∀g,Ao (.slice A I B)=some g->g≠d.heap.size:=fun g xL=>by
      rcases hk with h|h
      ·rw[h]at xL;have:ub=g:=Option.some.inj xL;omega
      ·rw[h]at xL;have:_=g:=Option.some.inj xL;simp at this;omega
     have rB:=hA.ap
     have vS:∀{R:Value} {l:Zl},Al X f.heap.size R l->(∀g,Ao R=some g->g∈CJ (Za sb v.ss.length y) (Za ub v.tt.length zI) T P L (Za qb v.qs.length n) (Za Q v.ms.length m) rs)->Ao R≠some ub->Al (Y.setCell (Ze (d.heap.size) 3) (.slice A I B)) f.heap.size R l:=fun h1 h2 h3=>(h1.al tY (fun g xL vJ=>h3 (by simp at vJ;rw[xL,vJ]))).al tZ (fun g xL vJ=>by have:=zP.o.2 g (h2 g xL);simp at vJ;omega)
     have bY:Below f.heap.size f Y:=(zY.o.trans (hX.mono zY.o.size)).trans (tY.below (by omega) (by simp;omega))
     exact⟨A,B,Y,hr,s1,xY 3 _ rfl,⟨Aa.same s1.1 (tZ.block _ s1.1.lt (by simp;omega)),Aa.same s1.2 (tZ.block _ s1.2.lt (by simp;omega))⟩,xY.set 3 _,bY.trans (tZ.below bY.size (by simp;omega)),by have:=tY.size;simp;omega,vS hA.s (fun g h=>by unfold CJ;rw[h];simp) (rB.1 ub rfl),hO.al tZ (fun g h=>by have:=tE g h;simp;omega),vS hA.q (fun g h=>by unfold CJ;rw[h];simp) (rB.2 ub rfl).1,vS hA.m (fun g h=>by unfold CJ;rw[h];simp) (rB.2 ub rfl).2,tE⟩
    refine wp_region_held_drew (S:=fun X=>Aa X w.heap.size [Zg v.wd,Zg v.aj,.slice sa v.ss.length sc,.slice ta v.tt.length tc,b0,b1,b2,b3,b4,b5,b6,c0,c1,c2,c3,c4,c5]/\Aa X (w.heap.size+1) (Yn e.kd e.s e.nm e.num e.tx ra e.rf.length rc)) (by kernel_rfl) (show _/\_ from⟨(F.o J zR.o).1,(F.o J zR.o).2.1⟩) (fun hS=> ?_)
    refine Br 0 ⟨some 68,.fieldAddr 46 (.tmp 7) 2,0,AO,#[],none⟩ (Yy d.heap.size 2) (by exact hS) ?_;try simp only[Act.put,As]
    refine Br 1 ⟨some 69,.fieldAddr 38 (.tmp 68) 1,0,AO,#[Ai 0],none⟩ (Yy d.heap.size 3) (by exact hS) ?_;try simp only[Act.put,As]
    refine Di 3 ⟨some 71,.load 67 (.tmp 3),67,AO,#[],none⟩ (.agg (Ym e.kd e.s e.nm e.num e.tx ra e.rf.length rc)) (by exact yieldsIf_load_mid (by rfl) 67 _ rfl (w.heap.size+1) 0 rfl (Yn e.kd e.s e.nm e.num e.tx ra e.rf.length rc) _ (fun X h=>h.2.range) underlying67 rfl (by kernel_rfl)) (by exact hS) ?_;try simp only[Act.put,As]
    refine Br 4 ⟨some 72,.fieldAddr 46 (.tmp 2) 0,0,AO,#[],none⟩ (Yz w.heap.size) (by exact hS) ?_;try simp only[Act.put,As]
    refine Di 5 ⟨some 73,.load 3 (.tmp 72),3,AO,#[Ai 4],none⟩ (Zg v.wd) (by exact Or.inl ⟨by rfl,fun X hX=>by have h1:=(hX.1 0 _ rfl).1;go_simp⟩) (by exact hS) ?_;try simp only[Act.put,As]
    refine wpAnyH_ready (rs:=[2,6]) (by kernel_rfl) (by simp) ?_;refine AllReadyH.cons (o:=⟨some 70,.load 22 (.tmp 69),22,AO,#[Ai 1],none⟩) rfl (fun K i=> ?_) (AllReadyH.cons (o:=⟨some 74,.call ⟨.value (.func 47),#[.tmp 71,.tmp 73],#[67,3]⟩,9,AO,#[Ai 3,Ai 5],none⟩) rfl (fun K i=> ?_) AllReadyH.nil)
    ·have nA:=(yB.o 3 _ rfl).1;go_simp;refine i.out _ _ hS (fun zX=> ?_);clear i K;try simp only[Act.put,As]
     refine AM 6 ⟨some 74,.call ⟨.value (.func 47),#[.tmp 71,.tmp 73],#[67,3]⟩,9,AO,#[Ai 3,Ai 5],none⟩ (fun K i=> ?_);go_simp;refine(HF.o J.drew (xH.o _ (Below.refl _ _).drew)).mono ?_;rintro o wf ⟨rfl,tD⟩;try go_simp
     refine i.out _ _ (yF.o _ _ zX tD) (fun yJ=> ?_);clear i K;try simp only[Act.put,As]
     have vF:Below J.heap.size J wf:=(Below.refl J.heap.size J).drew.trans tD;have c3:=(Aa.below yB.o vF 3 _ rfl).1;obtain⟨A,B,Yf,xX,sG,⟨y3,g3⟩,sH,xW⟩:=rM.o wf vF;refine AM 7 ⟨some 75,.buildSlice 22 1 #[(0,.tmp 74)],22,AO,#[Ai 6],none⟩ (fun K i=> ?_);go_simp;refine i.out _ _ (yF.o _ _ yJ (Zy)) (fun xK=> ?_);clear i K;try simp only[Act.put,As]
     refine AM 8 ⟨some 76,.call ⟨.builtin .append,#[.tmp 70,.tmp 75],#[22,22]⟩,22,AO,#[Ai 2,Ai 7,⟨6,.chain⟩],none⟩ (fun K i=> ?_);refine BP rfl _ _ _ _ rfl (by rfl) (by rfl) xX ?_;refine i.out _ _ sG (fun yK=> ?_);clear i K;try simp only[Act.put,As]
     refine Br 9 ⟨some 77,.fieldAddr 46 (.tmp 7) 2,0,AO,#[Ae 0,Ae 1,Ae 2,Ae 3,Ae 4,Ae 5,Ae 6,Ae 7,Ae 8],none⟩ (Yy d.heap.size 2) (by exact yK) ?_;try simp only[Act.put,As]
     refine Br 10 ⟨some 78,.fieldAddr 38 (.tmp 77) 1,0,AO,#[Ai 9,Ae 0,Ae 1,Ae 2,Ae 3,Ae 4,Ae 5,Ae 6,Ae 7,Ae 8],none⟩ (Yy d.heap.size 3) (by exact yK) ?_;try simp only[Act.put,As]
     refine AM 11 ⟨none,.store 22 (.tmp 78) (.tmp 76),0,AO,#[Ai 10,Ai 8,⟨8,.chain⟩,Ae 0,Ae 1,Ae 2,Ae 3,Ae 4,Ae 5,Ae 6,Ae 7,Ae 8],none⟩ (fun K i=> ?_);go_simp;refine i.out _ _ sH (fun qD=> ?_);clear i K;try simp only[Act.put]
     refine wpAnyH_done (by kernel_rfl) ?_ _;go_wp2_with fail;go_meet;exact⟨A,B,xW⟩
    ·go_simp;refine(HF.o J.drew (xH.o _ (Below.refl _ _).drew)).mono ?_;rintro o wf ⟨rfl,tD⟩;try go_simp
     refine i.out _ _ (yF.o _ _ hS tD) (fun zX=> ?_);clear i K;try simp only[Act.put,As]
     have vF:Below J.heap.size J wf:=(Below.refl J.heap.size J).drew.trans tD;have c3:=(Aa.below yB.o vF 3 _ rfl).1;obtain⟨A,B,Yf,xX,sG,⟨y3,g3⟩,sH,xW⟩:=rM.o wf vF;refine wpAnyH_ready (rs:=[2,7]) (by kernel_rfl) (by simp) ?_
     refine AllReadyH.cons (o:=⟨some 70,.load 22 (.tmp 69),22,AO,#[Ai 1],none⟩) rfl (fun K i=> ?_) (AllReadyH.cons (o:=⟨some 75,.buildSlice 22 1 #[(0,.tmp 74)],22,AO,#[Ai 6],none⟩) rfl (fun K i=> ?_) AllReadyH.nil)
     ·go_simp;refine i.out _ _ zX (fun yJ=> ?_);clear i K;try simp only[Act.put,As]
      refine AM 7 ⟨some 75,.buildSlice 22 1 #[(0,.tmp 74)],22,AO,#[Ai 6],none⟩ (fun K i=> ?_);go_simp;refine i.out _ _ (yF.o _ _ yJ (Zy)) (fun xK=> ?_);clear i K;try simp only[Act.put,As]
      refine AM 8 ⟨some 76,.call ⟨.builtin .append,#[.tmp 70,.tmp 75],#[22,22]⟩,22,AO,#[Ai 2,Ai 7,⟨6,.chain⟩],none⟩ (fun K i=> ?_);refine BP rfl _ _ _ _ rfl (by rfl) (by rfl) xX ?_;refine i.out _ _ sG (fun yK=> ?_);clear i K;try simp only[Act.put,As]
      refine Br 9 ⟨some 77,.fieldAddr 46 (.tmp 7) 2,0,AO,#[Ae 0,Ae 1,Ae 2,Ae 3,Ae 4,Ae 5,Ae 6,Ae 7,Ae 8],none⟩ (Yy d.heap.size 2) (by exact yK) ?_;try simp only[Act.put,As]
      refine Br 10 ⟨some 78,.fieldAddr 38 (.tmp 77) 1,0,AO,#[Ai 9,Ae 0,Ae 1,Ae 2,Ae 3,Ae 4,Ae 5,Ae 6,Ae 7,Ae 8],none⟩ (Yy d.heap.size 3) (by exact yK) ?_;try simp only[Act.put,As]
      refine AM 11 ⟨none,.store 22 (.tmp 78) (.tmp 76),0,AO,#[Ai 10,Ai 8,⟨8,.chain⟩,Ae 0,Ae 1,Ae 2,Ae 3,Ae 4,Ae 5,Ae 6,Ae 7,Ae 8],none⟩ (fun K i=> ?_);go_simp;refine i.out _ _ sH (fun qD=> ?_);clear i K;try simp only[Act.put]
      refine wpAnyH_done (by kernel_rfl) ?_ _;go_wp2_with fail;go_meet;exact⟨A,B,xW⟩
     ·go_simp;refine i.out _ _ (yF.o _ _ zX (Zy)) (fun yJ=> ?_);clear i K;try simp only[Act.put,As]
      have nC:=(Aa.below yB.o (vF.trans ((Zy:Zz wf (wf.alloc (.cells #[.string et] 9))).mono vF.size)) 3 _ rfl).1;refine AM 2 ⟨some 70,.load 22 (.tmp 69),22,AO,#[Ai 1],none⟩ (fun K i=> ?_);go_simp;refine i.out _ _ yJ (fun xK=> ?_);clear i K;try simp only[Act.put,As]
      refine AM 8 ⟨some 76,.call ⟨.builtin .append,#[.tmp 70,.tmp 75],#[22,22]⟩,22,AO,#[Ai 2,Ai 7,⟨6,.chain⟩],none⟩ (fun K i=> ?_);refine BP rfl _ _ _ _ rfl (by rfl) (by rfl) xX ?_;refine i.out _ _ sG (fun yK=> ?_);clear i K;try simp only[Act.put,As]
      refine Br 9 ⟨some 77,.fieldAddr 46 (.tmp 7) 2,0,AO,#[Ae 0,Ae 1,Ae 2,Ae 3,Ae 4,Ae 5,Ae 6,Ae 7,Ae 8],none⟩ (Yy d.heap.size 2) (by exact yK) ?_;try simp only[Act.put,As]
      refine Br 10 ⟨some 78,.fieldAddr 38 (.tmp 77) 1,0,AO,#[Ai 9,Ae 0,Ae 1,Ae 2,Ae 3,Ae 4,Ae 5,Ae 6,Ae 7,Ae 8],none⟩ (Yy d.heap.size 3) (by exact yK) ?_;try simp only[Act.put,As]
      refine AM 11 ⟨none,.store 22 (.tmp 78) (.tmp 76),0,AO,#[Ai 10,Ai 8,⟨8,.chain⟩,Ae 0,Ae 1,Ae 2,Ae 3,Ae 4,Ae 5,Ae 6,Ae 7,Ae 8],none⟩ (fun K i=> ?_);go_simp;refine i.out _ _ sH (fun qD=> ?_);clear i K;try simp only[Act.put]
      refine wpAnyH_done (by kernel_rfl) ?_ _;go_wp2_with fail;go_meet;exact⟨A,B,xW⟩
   case rest=>
   revert wc;intro zO hcut;obtain⟨A,B,hcut⟩:=hcut;obtain⟨qT,sA,pZ,tQ,tR,tP,tO,tE⟩:=hcut.o;have tL:=Yx qT;have yU:=Yx (Zb tQ (Zb tR (Zb tP tO)))
   have xI:Hid ((∀g,Ao (Za sb v.ss.length y)=some g->g≠d.heap.size)/\(∀g,Ao (.slice A I B)=some g->g≠d.heap.size)/\(∀g,Ao (Za qb v.qs.length n)=some g->g≠d.heap.size)/\(∀g,Ao (Za Q v.ms.length m)=some g->g≠d.heap.size)):=⟨fun g h=>by have:=zP.o.2 g (by unfold CJ;rw[h];simp);omega,tE,fun g h=>by have:=zP.o.2 g (by unfold CJ;rw[h];simp);omega,fun g h=>by have:=zP.o.2 g (by unfold CJ;rw[h];simp);omega⟩
   replace yH:Hid (w.heap.size+3<=j.heap.size/\j.heap.size<E/\f.heap.size<=zO.heap.size/\E<f.heap.size/\f.heap.size<=d.heap.size/\d.heap.size<zO.heap.size):=by have:=yH.o;exact⟨by omega,by omega,by omega,by omega,by omega,by omega⟩
   have xO:=Yx (Aa.below vU.o sA);have tN:Hid (Z r xa xc U H N O zO):=yO.o _ _ _ _ _ _ _ _ tC.o _ sA;have vL:Hid (Zz j zO):=zA.o.trans (sA.mono zA.o.size);clear hcut qT sA pZ tQ tR tP tO tE rP HF zP yB zR zY zA vU tC yO
   as_aux_lemma=>
   go_wp2_with (refine wpList_load_mid rfl 43 _ rfl E 1 rfl (Yt v.wd r.now r.given r.ae xa r.ks.length xc U r.ps.length H N r.ls.length O) _ (Aa.fb [Zf] (Yt v.wd r.now r.given r.ae xa r.ks.length xc U r.ps.length H N r.ls.length O) [.string r.sm,Zg r.le,Zd,Zd] xO.o) underlying43 rfl (by kernel_rfl) ?_);refine(yD.o r xa xc U H N O zO Hy.o tN.o).mono ?_;rintro o sR ⟨T2,P2,L2,vG,rfl,yW,zF⟩
   obtain⟨za,zc,rfl⟩:=Ar yW.ai;obtain⟨ya,yc,rfl⟩:=Ar yW.pins;obtain⟨ka,kc,rfl⟩:=Ar yW.an;have qV:=zF.size;have hz:=yH.o;obtain⟨zH,xS⟩:∃Y,Y=sR.setCells d.heap.size 4 (Yt v.wd r.now r.given r.ae za r.ks.length zc ya r.ps.length yc ka r.ls.length kc):=⟨_,rfl⟩;have xD:Tn [d.heap.size] sR zH:=by rw[xS];exact Ax _ _ _ _
   have rH:=Aa.below tL.o zF;have yV:Hid (Aa zH d.heap.size [Zg v.wd,Zg v.aj,Za sb v.ss.length y,.slice A I B,Zg v.wd,Zg r.now,Zg r.given,Zg r.ae,.slice za r.ks.length zc,.slice ya r.ps.length yc,.slice ka r.ls.length kc,Zg v.ph,Za qb v.qs.length n,Za Q v.ms.length m,Zg v.ag,Zg v.at_,Zg v.ro]):=by
    show Aa zH d.heap.size [Zg v.wd,Zg v.aj,Za sb v.ss.length y,.slice A I B,Zg v.wd,Zg r.now,Zg r.given,Zg r.ae,.slice za r.ks.length zc,.slice ya r.ps.length yc,.slice ka r.ls.length kc,Zg v.ph,Za qb v.qs.length n,Za Q v.ms.length m,Zg v.ag,Zg v.at_,Zg v.ro];rw[xS]
    exact Aa.dm (Yt v.wd r.now r.given r.ae za r.ks.length zc ya r.ps.length yc ka r.ls.length kc) [Zg v.wd,Zg v.aj,Za sb v.ss.length y,.slice A I B] [Zg v.sw,Zg v.now,Zg v.given,Zg v.ae,T,P,L] (Yj v.ph (some ⟨qb,0,none⟩) v.qs.length n (some ⟨Q,0,none⟩) v.ms.length m v.ag v.at_ v.ro) sR rH rfl
   have vO:Hid (sR.there d.heap.size 4 7/\((Ys v.wd r.now r.given r.ae za r.ks.length zc ya r.ps.length yc ka r.ls.length kc):Array Value).all (·.oneCell')=true):=⟨Aa.dq [Zg v.wd,Zg v.aj,Za sb v.ss.length y,.slice A I B] [Zg v.sw,Zg v.now,Zg v.given,Zg v.ae,T,P,L] (Yj v.ph (some ⟨qb,0,none⟩) v.qs.length n (some ⟨Q,0,none⟩) v.ms.length m v.ag v.at_ v.ro) rH,by kernel_rfl⟩
   have xR:Hid (AV zH zO.heap.size (.slice za r.ks.length zc) (.slice ya r.ps.length yc) (.slice ka r.ls.length kc) vG r.ks r.ps r.ls):=yW.al xD (by simp;omega);have zZ:Hid (Al zH f.heap.size (Za sb v.ss.length y) v.ss/\Al zH f.heap.size (.slice A I B) yS/\Al zH f.heap.size (Za qb v.qs.length n) v.qs/\Al zH f.heap.size (Za Q v.ms.length m) v.ms):=by
    refine⟨(yU.o.1.below zF).al xD (fun g hg=> ?_),(yU.o.2.1.below zF).al xD (fun g hg=> ?_),(yU.o.2.2.1.below zF).al xD (fun g hg=> ?_),(yU.o.2.2.2.below zF).al xD (fun g hg=> ?_)⟩
    ·have:=xI.o.1 g hg;simp;omega
    ·have:=xI.o.2.1 g hg;simp;omega
    ·have:=xI.o.2.2.1 g hg;simp;omega
    ·have:=xI.o.2.2.2 g hg;simp;omega
   have sX:=vL.o.trans (zF.mono vL.o.size);have yT:Hid (Zz j zH):=sX.trans (xD.below sX.size (by simp;omega));have xP:=Yx (Aa.same (Aa.below xO.o zF) (xD.block _ (Aa.below xO.o zF).lt (by simp;omega)));have pG:Hid (zO.heap.size<=zH.heap.size):=Zm qV xD.size;have tK:=Yx xS;clear xS xD rH zF yW sX qV hz tL yU xO vL tN yD
   go_upto_region 22 with(refine wpList_store_mid rfl 43 _ _ rfl d.heap.size 4 (Ys v.wd r.now r.given r.ae za r.ks.length zc ya r.ps.length yc ka r.ls.length kc) rfl rfl vO.o.1 (by kernel_rfl) vO.o.2 ?_);rw[←tK.o];clear tK vO
   as_aux_lemma=>
   obtain⟨e0,_⟩:=(F.o zH yT.o).2.1 0 _ rfl;obtain⟨e1,_⟩:=(F.o zH yT.o).2.1 1 _ rfl;obtain⟨u8,_⟩:=xP.o 8 _ rfl;obtain⟨hl,qH⟩:∃t,t=e.held r:=⟨_,rfl⟩;have vV:Hid (hl=e.held r):=qH;clear qH
   go_upto_if 87 with fail
   go_cut [8,87] (fun th _ wx=>th=.string hl/\wx=zH)
   case first=>
    have pO:(e.kd==1)=true:=by simp[vW.o]
    have pN:Hid (r.sm=hl):=by show r.sm=hl;rw[vV.o];simp[Ed.held,vW.o]
    go_wp2;go_meet;exact⟨by rw[pN.o],rfl⟩
   case rest=>
   obtain⟨rfl,qQ⟩:=hcut;rw[qQ];clear qQ wc e0 e1 u8;obtain⟨qq,sP⟩:∃t,t=shQ v.ph r.ks v.qs v.ms hl:=⟨_,rfl⟩;have pB:Hid (qq=shQ v.ph r.ks v.qs v.ms (e.held r)):=by show qq=_;rw[sP,vV.o]
   go_upto_if 91 with fail
   go_cut [91] (fun _ wx=>∃(qa:Zk) (qn qc:Nat) (ma:Zk) (mc:Nat),Hid (qn=qq.length/\Aa wx d.heap.size [Zg v.wd,Zg v.aj,Za sb v.ss.length y,.slice A I B,Zg v.wd,Zg r.now,Zg r.given,Zg r.ae,.slice za r.ks.length zc,.slice ya r.ps.length yc,.slice ka r.ls.length kc,Zg v.ph,.slice qa qn qc,.slice ma v.ms.length mc,Zg v.ag,Zg v.at_,Zg v.ro]/\Tn [d.heap.size] zH wx/\Al wx f.heap.size (.slice qa qn qc) qq/\Al wx f.heap.size (.slice ma v.ms.length mc) v.ms))
   case first=>
    have he:¬hl=⟨#[]⟩:=by rw[vV.o,show e.held r=r.sm by simp[Ed.held,vW.o]];exact yY.o r Hy.o
    have pQ:=Ky he;have rL:(!hl.toList.isEmpty)=true:=by rw[pQ];rfl
    rw[rL];replace zJ:=Yx (zJ.o r zH (.slice za r.ks.length zc) (.slice ya r.ps.length yc) (.slice ka r.ls.length kc) vG f.heap.size qb n Q m Hy.o (xR.o.mono yH.o.2.2.1) zZ.o.2.2.1 zZ.o.2.2.2);rw[←vV.o,←sP]at zJ;clear he sP;go_wp2_with (first
     |refine wpList_load_mid rfl 43 _ rfl d.heap.size 4 rfl (Yt v.wd r.now r.given r.ae za r.ks.length zc ya r.ps.length yc ka r.ls.length kc) _ (Aa.fb [Zg v.wd,Zg v.aj,Za sb v.ss.length y,.slice A I B] (Yt v.wd r.now r.given r.ae za r.ks.length zc ya r.ps.length yc ka r.ls.length kc) (Yj v.ph (some ⟨qb,0,none⟩) v.qs.length n (some ⟨Q,0,none⟩) v.ms.length m v.ag v.at_ v.ro) yV.o) underlying43 rfl (by kernel_rfl) ?_
     |refine wpList_load_mid rfl 44 _ rfl d.heap.size 11 rfl (Yj v.ph (some ⟨qb,0,none⟩) v.qs.length n (some ⟨Q,0,none⟩) v.ms.length m v.ag v.at_ v.ro) _ (Aa.fb [Zg v.wd,Zg v.aj,Za sb v.ss.length y,.slice A I B,Zg v.wd,Zg r.now,Zg r.given,Zg r.ae,.slice za r.ks.length zc,.slice ya r.ps.length yc,.slice ka r.ls.length kc] (Yj v.ph (some ⟨qb,0,none⟩) v.qs.length n (some ⟨Q,0,none⟩) v.ms.length m v.ag v.at_ v.ro) [] yV.o) underlying44 rfl (by kernel_rfl) ?_)
    refine Calls.mono zJ.o ?_;rintro o rF ⟨vR,Q3,M3,rfl,zV,zU⟩;obtain⟨qa,qc,rfl,_⟩:=zV.row;obtain⟨ma,mc,rfl,_⟩:=zU.row;have hz:=yH.o;have pS:=pG.o;have yL:=Ax d.heap.size (Yj v.ph qa qq.length qc ma v.ms.length mc v.ag v.at_ v.ro) 11 rF;have rI:=Aa.below yV.o vR
    have tI:Hid (rF.there d.heap.size 11 6/\((Yr v.ph qa qq.length qc ma v.ms.length mc v.ag v.at_ v.ro):Array Value).all (·.oneCell')=true):=⟨Aa.dq [Zg v.wd,Zg v.aj,Za sb v.ss.length y,.slice A I B,Zg v.wd,Zg r.now,Zg r.given,Zg r.ae,.slice za r.ks.length zc,.slice ya r.ps.length yc,.slice ka r.ls.length kc] (Yj v.ph (some ⟨qb,0,none⟩) v.qs.length n (some ⟨Q,0,none⟩) v.ms.length m v.ag v.at_ v.ro) [] rI,by kernel_rfl⟩
    have qY:=Yx (Zn (Aa.dm (Yj v.ph qa qq.length qc ma v.ms.length mc v.ag v.at_ v.ro) [Zg v.wd,Zg v.aj,Za sb v.ss.length y,.slice A I B,Zg v.wd,Zg r.now,Zg r.given,Zg r.ae,.slice za r.ks.length zc,.slice ya r.ps.length yc,.slice ka r.ls.length kc] (Yj v.ph (some ⟨qb,0,none⟩) v.qs.length n (some ⟨Q,0,none⟩) v.ms.length m v.ag v.at_ v.ro) [] rF rI rfl) (Zn (((Tn.of (V:=[]) vR).mono (by simp)).trans yL) (Zn ((zV.al yL (fun g hg=>by have:=(zV.cg hg).1;simp;omega)).mono (base':=f.heap.size) (by omega)) ((zU.al yL (fun g hg=>by have:=(zU.cg hg).1;simp;omega)).mono (base':=f.heap.size) (by omega)))))
    clear yL rI vR zV zU yV xR zZ xI zJ hz pS;go_wp2_with (refine wpList_store_mid rfl 44 _ _ rfl d.heap.size 11 (Yr v.ph qa qq.length qc ma v.ms.length mc v.ag v.at_ v.ro) rfl rfl tI.o.1 (by kernel_rfl) tI.o.2 ?_);go_meet;exact⟨_,_,_,_,_,rfl,qY.o⟩
   case rest=>
   revert wc;intro xA hcut;obtain⟨qa,qn,qc,ma,mc,hcut⟩:=hcut;obtain⟨qL,xo,yL,zV,zU⟩:=hcut.o;have pF:=Yx xo
   have zG:Hid (AV xA f.heap.size (.slice za r.ks.length zc) (.slice ya r.ps.length yc) (.slice ka r.ls.length kc) vG r.ks r.ps r.ls/\Al xA f.heap.size (Za sb v.ss.length y) v.ss/\Al xA f.heap.size (.slice A I B) yS/\Al xA f.heap.size (.slice qa qn qc) qq/\Al xA f.heap.size (.slice ma v.ms.length mc) v.ms):=⟨(xR.o.al yL (by have:=yH.o;simp;omega)).mono yH.o.2.2.1,zZ.o.1.al yL (fun g hg=>by have:=xI.o.1 g hg;simp;omega),zZ.o.2.1.al yL (fun g hg=>by have:=xI.o.2.1 g hg;simp;omega),zV,zU⟩
   have pA:Hid (qn=qq.length):=qL;have zE:Below j.heap.size j xA:=yT.o.trans (yL.below yT.o.size (by have:=yH.o;simp;omega));have rN:=Yx (Aa.same xP.o (yL.block _ xP.o.lt (by have:=yH.o;simp;omega)));clear hcut qL xo yL zV zU sP yV xR xP yT zZ xI zJ yY vV
   obtain⟨vs,yR⟩:∃t:Zj,t=[Zg v.wd,Zg v.aj,Za sb v.ss.length y,.slice A I B,Zg v.wd,Zg r.now,Zg r.given,Zg r.ae,.slice za r.ks.length zc,.slice ya r.ps.length yc,.slice ka r.ls.length kc,Zg v.ph,.slice qa qn qc,.slice ma v.ms.length mc,Zg v.ag,Zg v.at_,Zg v.ro]:=⟨_,rfl⟩;have rU:Hid (Aa xA d.heap.size vs/\vs.length=17):=by rw[yR];exact⟨pF.o,rfl⟩
   have xN:vs.length=17/\∀u∈vs,u.oneCell'=true:=by rw[yR];exact⟨rfl,by simp[Value.oneCell']⟩
   obtain⟨D,hD⟩:∃t:Zj,t=dL (dyes v e r) vs:=⟨_,rfl⟩;have tT:Hid (prog.built 48 [(1,.agg vs.toArray),(2,.string r.sm),(3,Zg r.le)]=some D.toArray):=by rw[hD];exact Mv xN.1 _ _
   have G:Hid _:=LA (F.o xA zE).2.2 (fun V k hV t0=>by
    have hz:=yH.o;have qK:∀b∈V,b<f.heap.size:=fun b hb=>by have:=hV b hb;omega
    have sO:∀g,f.heap.size<=g->g∉V:=fun g hg vJ=>by have:=qK g vJ;omega
    rw[yR];exact YJ yZ.o.1 (zG.o.2.1.al t0 (fun g hg=>sO g (zG.o.2.1.cg hg).1)) (zG.o.2.2.1.al t0 (fun g hg=>sO g (zG.o.2.2.1.cg hg).1)) rQ.o.1 rQ.o.2 (zG.o.1.al t0 qK) (zG.o.2.2.2.1.al t0 (fun g hg=>sO g (zG.o.2.2.2.1.cg hg).1)) pB.o pA.o (zG.o.2.2.2.2.al t0 (fun g hg=>sO g (zG.o.2.2.2.2.cg hg).1))) (.inr ⟨yA.o,.inr ⟨r,rK.o,rfl⟩⟩) xN hD
   obtain⟨u8,_⟩:=rN.o 8 _ rfl;obtain⟨u9,_⟩:=rN.o 9 _ rfl;clear hD yR xN zE F;go_wp2_with (first
    |refine wpList_load_mid rfl 46 _ rfl d.heap.size 0 rfl vs _ rU.o.1.range underlying46 rfl (by rw[rU.o.2];kernel_rfl) ?_
    |refine Gu rfl 48 _ rfl [(1,.agg vs.toArray),(2,.string r.sm),(3,Zg r.le)] (by kernel_rfl) D.toArray tT.o ?_
    |refine wpList_store_mid rfl 48 _ _ rfl (w.heap.size+2) 0 D.toArray rfl rfl G.o.2.1 (by rw[List.size_toArray,G.o.1.1];kernel_rfl) (all_oneCell_toArray G.o.1.2) ?_)
   exact bodyPost_ret (BL results21 _ _ (w.heap.size+2) D _ rfl (Aa.range G.o.2.2.1) underlying48 rfl (by rw[G.o.1.1];kernel_rfl)) rfl G.o.2.2.2
end Go.Proofs.YtckmnfhmoankmaaGreatDoor
