import Derived.Test.YtpekbmegopfhfaaGreatDoorK28
set_option maxRecDepth 100000
set_option maxHeartbeats 16000000
namespace Go.Proofs.YtpekbmegopfhfaaGreatDoor
open Go.ChangeShapes Go.WideShapes Go.ChangeAt Go.RowKit _root_.Go.Proofs.Tryz
namespace ExactFlush
theorem walk_gen {D:Type} (To:D->Prop) (RX:Nat->World->List Value->Prop) (OX:Nat->Nat->World->List Value->Prop) (MX:Nat->Nat->World->List Value->Nat->Prop) (RA:D->Nat->World->List Value->Prop) (OA:D->Nat->Nat->World->List Value->Prop) (MA:D->Nat->Nat->World->List Value->Nat->Prop) (Fit:Prop) (A:List Value) (w:World) (hA:A.length=17)
 (kX:Fit->FL 17 1000 22 25 RX OX MX) (kA:∀o,To o->FL 17 1 22 25 (RA o) (OA o) (MA o))
 (hh:∀o,To o->∀(lo N:Nat) (X:World) (cs:List Value) (K:Nat),MA o lo N X cs K->Calls prog 26 #[.agg cs.toArray,XJ 1] X fun e X'=>e=.returned (XJ K)/\Xz X X')
 (det:∀o o',To o->To o'->o=o')
 (hz:∀X,Xz w X->Calls prog 27 #[.agg A.toArray,XJ 1048576] X fun e X'=>∃r:Int,e=.returned (XJ r)/\Xz X X'/\(0<=r->Fit))
 (ht:Fit->∀X,Xz w X->Calls prog 29 #[.agg A.toArray] X fun e X'=>∃cs:List Value,e=.returned (.agg cs.toArray)/\RX X'.heap.size X' cs/\OX X.heap.size X'.heap.size X' cs/\Xz X X')
 (hs:Fit->∀X cs,Xz w X->RX X.heap.size X cs->Calls prog 38 #[.agg cs.toArray] X fun e X'=>∃(o:D) (ds:List Value),e=.returned (.agg ds.toArray)/\To o/\RA o X'.heap.size X' ds/\Xz X X')
 (hi:Fit->∀X cs,Xz w X->RX X.heap.size X cs->Calls prog 39 #[.agg cs.toArray] X fun e X'=>∃(o:D) (ds:List Value),e=.returned (.agg ds.toArray)/\To o/\OA o X.heap.size X'.heap.size X' ds/\Xz X X'):
 Calls prog 8 #[.agg A.toArray] w fun e w'=>e=.returned (.bool true)/\Xz w w':=by
 obtain⟨W,hW⟩:∃W,W=w.alloc (.cells A.toArray 60):=⟨_,rfl⟩;have bW:Below w.heap.size w W:=by rw[hW];exact XA
 have zW:W.heap.size=w.heap.size+1:=by rw[hW];simp
 have xW:Aa W w.heap.size A:=by rw[hW];exact Aa.new w _ _
 have KX:Hid (Fit->FL 17 1000 22 25 RX OX MX):=kX;have KA:Hid (∀o,To o->FL 17 1 22 25 (RA o) (OA o) (MA o)):=kA;have HH:Hid _:=hh;have HD:Hid _:=det;have yP:Hid (A.length=17):=hA;have HZ:Hid _:=hz;have HT:Hid _:=ht;have HS:Hid _:=hs;have HI:Hid _:=hi;have HA:Hid (∀X,Xz W X->Aa X w.heap.size A/\Xz w X):=fun X hX=>⟨Aa.same xW (hX.block _ (by omega)),bW.trans (hX.mono bW.size)⟩;have HW:Hid _:=hW
 clear hW xW kX kA hh det hz ht hs hi hA;go_enter func8,ntmps8;go_upto_region 1 with fail;rw[←HW.o];clear HW
 as_aux_lemma=>
 go_wp2_with (refine wpList_load_mid rfl 60 _ rfl w.heap.size 0 rfl A _ (HA.o W (Below.refl _ _)).1.range underlying60 rfl (by rw[yP.o];kernel_rfl) ?_);refine(HZ.o W bW).mono ?_;rintro e w1 ⟨r1,rfl,xU,xP⟩;have yU:Hid (Xz W w1):=xU;clear xU HZ bW;try generalize (.agg A.toArray:Value)=dvA
 by_cases n1:r1<0
 ·clear xP
  go_wp2;go_ret;exact⟨rfl,(HA.o w1 yU.o).2⟩
 have hf:=xP (by omega);replace KX:Hid (FL 17 1000 22 25 RX OX MX):=KX.o hf;replace HT:Hid _:=HT.o hf;replace HS:Hid _:=HS.o hf;replace HI:Hid _:=HI.o hf;clear hf xP
 as_aux_lemma=>
 go_wp2_with (refine wpList_load_mid rfl 60 _ rfl w.heap.size 0 rfl A _ (HA.o w1 yU.o).1.range underlying60 rfl (by rw[yP.o];kernel_rfl) ?_);refine(HT.o w1 (HA.o w1 yU.o).2).mono ?_;rintro e w2 ⟨vU,rfl,vJ,_,vQ⟩;have xL:Hid (Xz W w2):=yU.o.trans (vQ.mono yU.o.size);have vK:Hid _:=vJ;clear vQ vJ;try generalize (.agg A.toArray:Value)=dvA
 as_aux_lemma=>
 go_wp2_with fail;refine(HS.o w2 vU (HA.o w2 xL.o).2 vK.o).mono ?_;rintro e w3 ⟨o,sc,rfl,yZ,xR,vM⟩;have xE:Hid (Xz W w3):=xL.o.trans (vM.mono xL.o.size);have xT:Hid (To o):=yZ;replace KA:Hid (FL 17 1 22 25 (RA o) (OA o) (MA o)):=KA.o o yZ;replace HH:Hid _:=HH.o o yZ;have tE:=xE.o.size;obtain⟨zK,yN⟩:=KA.o.lenR _ _ _ xR
 obtain⟨W3,xF⟩:∃Y,Y=(w3.alloc (.cells #[XK,XK,XN,XN,XK,XK,XK,XK,XN,XN,XN,XK,XN,XN,XK,XK,XK] 44)).setCells w3.heap.size 0 sc.toArray.toList:=⟨_,rfl⟩;have yO:=boxed (X:=w3) (cs:=sc) (z:=[XK,XK,XN,XN,XK,XK,XK,XK,XN,XN,XN,XK,XN,XN,XK,XK,XK]) (T:=44) (by rw[zK];rfl);have vR:W3=(w3.alloc (.cells [XK,XK,XN,XN,XK,XK,XK,XK,XN,XN,XN,XK,XN,XN,XK,XK,XK].toArray 44)).setCells w3.heap.size 0 sc:=xF
 rw[←vR] at yO;obtain⟨vS,yY,vX⟩:=yO;have zC:Hid ((w3.alloc (.cells #[XK,XK,XN,XN,XK,XK,XK,XK,XN,XN,XN,XK,XN,XN,XK,XK,XK] 44)).there w3.heap.size 0 sc.toArray.size/\sc.length=17/\∀u∈sc,u.oneCell'=true):=⟨by rw[show sc.toArray.size=17 from by rw[List.size_toArray];exact zK];exact(Aa.new w3 [XK,XK,XN,XN,XK,XK,XK,XK,XN,XN,XN,XK,XN,XN,XK,XK,XK] 44).there,zK,yN⟩;have vA:Hid _:=xF
 have zY:Hid (sc.length=17):=zK;clear xF vR zK yN;have yC:Below W.heap.size W W3:=xE.o.trans (yY.mono xE.o.size);have E1:Hid (L1 (RA o) w W3 A sc w3.heap.size W3.heap.size):=⟨(HA.o W3 yC).2,(HA.o W3 yC).1,vS,KA.o.monoR _ _ _ _ (KA.o.keepR _ _ _ _ xR yY) yY.size,by omega,by omega,XB⟩;have tN:Hid (w3.heap.size<W3.heap.size):=by show w3.heap.size<W3.heap.size;omega
 obtain⟨L,hL⟩:∃L,L=W3.heap.size:=⟨_,rfl⟩;rw[←hL] at E1;have xD:Hid (L=W3.heap.size):=hL;clear hL xR yZ vM vS yY yC HS vK HA tE vX
 as_aux_lemma=>
 go_wp2_with (first|refine wpList_load_mid rfl 60 _ rfl w.heap.size 0 rfl A _ E1.o.bA.range underlying60 rfl (by rw[yP.o];kernel_rfl) ?_|(refine wpList_store_mid rfl 44 _ _ rfl w3.heap.size 0 sc.toArray rfl rfl zC.o.1 (by rw[List.size_toArray,zC.o.2.1];kernel_rfl) (all_oneCell_toArray zC.o.2.2) ?_;rw[←vA.o]));clear vA zC;refine(HT.o W3 E1.o.bel).mono ?_;rintro e w4 ⟨xc,rfl,vD,xV,xO⟩
 replace E1:Hid _:=E1.o.keep KA.o (xO.mono E1.o.le);obtain⟨zG,yJ⟩:=KX.o.lenR _ _ _ vD;obtain⟨W4,xG⟩:∃Y,Y=(w4.alloc (.cells #[XK,XK,XN,XN,XK,XK,XK,XK,XN,XN,XN,XK,XN,XN,XK,XK,XK] 44)).setCells w4.heap.size 0 xc.toArray.toList:=⟨_,rfl⟩;have yD:=boxed (X:=w4) (cs:=xc) (z:=[XK,XK,XN,XN,XK,XK,XK,XK,XN,XN,XN,XK,XN,XN,XK,XK,XK]) (T:=44) (by rw[zG];rfl)
 have vP:W4=(w4.alloc (.cells [XK,XK,XN,XN,XK,XK,XK,XK,XN,XN,XN,XK,XN,XN,XK,XK,XK].toArray 44)).setCells w4.heap.size 0 xc:=xG;rw[←vP] at yD;obtain⟨vC,xA,tG⟩:=yD
 have zF:Hid ((w4.alloc (.cells #[XK,XK,XN,XN,XK,XK,XK,XK,XN,XN,XN,XK,XN,XN,XK,XK,XK] 44)).there w4.heap.size 0 xc.toArray.size/\xc.length=17/\∀u∈xc,u.oneCell'=true):=⟨by rw[show xc.toArray.size=17 from by rw[List.size_toArray];exact zG];exact(Aa.new w4 [XK,XK,XN,XN,XK,XK,XK,XK,XN,XN,XN,XK,XN,XN,XK,XK,XK] 44).there,zG,yJ⟩;have xX:Hid _:=xG;have zN:Hid (xc.length=17):=zG;clear xG vP zG yJ
 have xY:OX L w4.heap.size w4 xc:=by rw[xD.o];exact xV
 have E2:Hid (L2 OX W4 xc L w4.heap.size w4.heap.size):=⟨vC,KX.o.keepO _ _ _ _ _ xY xA.size (fun q _ h2=>xA.block q h2),XB,by omega⟩;replace E1:Hid _:=E1.o.keep KA.o (xA.mono E1.o.le);have tI:Hid (L<=w4.heap.size):=by show L<=w4.heap.size;rw[xD.o];exact xO.size
 clear vD xV xO vC xA xY xD;try generalize (.agg A.toArray:Value)=dvA
 as_aux_lemma=>
 go_wp2_with (first|refine wpList_load_mid rfl 44 _ rfl w4.heap.size 0 rfl xc _ E2.o.bX.range underlying44 rfl (by rw[zN.o];kernel_rfl) ?_|(refine wpList_store_mid rfl 44 _ _ rfl w4.heap.size 0 xc.toArray rfl rfl zF.o.1 (by rw[List.size_toArray,zF.o.2.1];kernel_rfl) (all_oneCell_toArray zF.o.2.2) ?_;rw[←xX.o]));clear xX zF;refine(HI.o W4 xc E1.o.bel (KX.o.ofO _ _ _ _ E2.o.oX).2).mono ?_
 rintro e w5 ⟨o5,gc,rfl,yF,xK,xC⟩;obtain rfl:=HD.o o o5 xT.o yF;replace E1:Hid _:=E1.o.keep KA.o (xC.mono E1.o.le);replace E2:Hid _:=E2.o.keep KX.o xC;have vG:=(KA.o.ofO _ _ _ _ xK).2;obtain⟨zH,yX⟩:=KA.o.lenR _ _ _ vG;obtain⟨W5,xM⟩:∃Y,Y=(w5.alloc (.cells #[XK,XK,XN,XN,XK,XK,XK,XK,XN,XN,XN,XK,XN,XN,XK,XK,XK] 44)).setCells w5.heap.size 0 gc.toArray.toList:=⟨_,rfl⟩
 have yK:=boxed (X:=w5) (cs:=gc) (z:=[XK,XK,XN,XN,XK,XK,XK,XK,XN,XN,XN,XK,XN,XN,XK,XK,XK]) (T:=44) (by rw[zH];rfl);have xS:W5=(w5.alloc (.cells [XK,XK,XN,XN,XK,XK,XK,XK,XN,XN,XN,XK,XN,XN,XK,XK,XK].toArray 44)).setCells w5.heap.size 0 gc:=xM;rw[←xS] at yK;obtain⟨vE,yW,vW⟩:=yK
 have zE:Hid ((w5.alloc (.cells #[XK,XK,XN,XN,XK,XK,XK,XK,XN,XN,XN,XK,XN,XN,XK,XK,XK] 44)).there w5.heap.size 0 gc.toArray.size/\gc.length=17/\∀u∈gc,u.oneCell'=true):=⟨by rw[show gc.toArray.size=17 from by rw[List.size_toArray];exact zH];exact(Aa.new w5 [XK,XK,XN,XN,XK,XK,XK,XK,XN,XN,XN,XK,XN,XN,XK,XK,XK] 44).there,zH,yX⟩;have vH:Hid _:=xM;have zM:Hid (gc.length=17):=zH;clear xM xS zH yX
 have E3:Hid (L3 (OA o) W5 gc W4.heap.size w5.heap.size w5.heap.size):=⟨vE,KA.o.keepO _ _ _ _ _ xK yW.size (fun q _ h2=>yW.block q h2),XB,by omega⟩;replace E1:Hid _:=E1.o.keep KA.o (yW.mono E1.o.le);replace E2:Hid _:=E2.o.keep KX.o yW;have xI:Hid (w4.heap.size<W4.heap.size/\W4.heap.size<=w5.heap.size):=by refine⟨?_,xC.size⟩;show w4.heap.size<W4.heap.size;omega
 clear yF xK xC vG vE yW tG vW
 as_aux_lemma=>
 go_wp2_with (first|refine wpList_load_mid rfl 44 _ rfl w5.heap.size 0 rfl gc _ E3.o.bG.range underlying44 rfl (by rw[zM.o];kernel_rfl) ?_|refine wpList_load_mid rfl 44 _ rfl w3.heap.size 0 rfl sc _ E1.o.bS.range underlying44 rfl (by rw[zY.o];kernel_rfl) ?_|(refine wpList_store_mid rfl 44 _ _ rfl w5.heap.size 0 gc.toArray rfl rfl zE.o.1 (by rw[List.size_toArray,zE.o.2.1];kernel_rfl) (all_oneCell_toArray zE.o.2.2) ?_;rw[←vH.o]))
 clear vH zE;refine(KA.o.eq W5 gc sc (KA.o.ofO _ _ _ _ E3.o.oG).2 (KA.o.monoR _ _ _ _ E1.o.rS E1.o.le)).mono ?_;rintro e w6 ⟨rfl,xB⟩;replace E1:Hid _:=E1.o.keep KA.o (xB.mono E1.o.le);replace E2:Hid _:=E2.o.keep KX.o xB;replace E3:Hid _:=E3.o.keep KA.o.keepO xB;clear xB
 as_aux_lemma=>
 go_upto_region 10 with fail;go_cut [31] (fun u wx=>u=.bool false/\Hid (Xz w6 wx))
 case first=>
  have xJ:Hid (∀X,Xz w6 X->Aa X w4.heap.size xc/\Aa X w.heap.size A):=fun X hX=>⟨Aa.same E2.o.bX (hX.block _ E2.o.le),Aa.same E1.o.bA (hX.block _ (by have:=E1.o.l0;have:=E1.o.le;omega))⟩;refine wp_region_held_drew (S:=fun X=>Aa X w4.heap.size xc/\Aa X w.heap.size A) (by kernel_rfl) (xJ.o _ (Below.refl _ _).drew) (fun hS=> ?_)
  refine wpAnyH_take (i:=0) (oi:={dst:=some 27,op:=Op.load 44 (Operand.tmp 5),type:=44,pos:= "exact.go:2168",after:= #[],guard:=none}) (v:=.agg xc.toArray) rfl (by kernel_rfl) (by kernel_rfl) (by kernel_rfl) (fun _ _ _ h=>h) (yieldsIf_load_mid (by rfl) 44 _ rfl w4.heap.size 0 rfl xc _ (fun X h=>h.1.range) underlying44 rfl (by rw[zN.o];kernel_rfl)) hS ?_
  try simp only[Act.put,List.setIfInBounds_toArray,List.set_cons_zero,List.set_cons_succ]
  refine wpAnyH_take (i:=1) (oi:={dst:=some 28,op:=Op.load 60 (Operand.tmp 1),type:=60,pos:= "exact.go:2168",after:= #[],guard:=none}) (v:=.agg A.toArray) rfl (by kernel_rfl) (by kernel_rfl) (by kernel_rfl) (fun _ _ _ h=>h) (yieldsIf_load_mid (by rfl) 60 _ rfl w.heap.size 0 rfl A _ (fun X h=>h.2.range) underlying60 rfl (by rw[yP.o];kernel_rfl)) hS ?_
  try simp only[Act.put,List.setIfInBounds_toArray,List.set_cons_zero,List.set_cons_succ]
  refine wpAnyH_ready (rs:=[2]) (by kernel_rfl) (by simp) ?_;refine AllReadyH.cons (o:={dst:=some 29,op:=Op.call {callee:=Callee.value (Operand.func 29),args:= #[Operand.tmp 28],argTypes:= #[60]},type:=44,pos:= "exact.go:2168",after:= #[{on:=1,ground:=Ground.data}],guard:=none}) rfl (fun K hK=> ?_) AllReadyH.nil;go_simp;refine(HT.o w6.drew E1.o.bel.drew).mono ?_;rintro e w7 ⟨yc,rfl,tD,_,tH⟩
  have yT:Below w6.heap.size w6 w7:=(Below.refl w6.heap.size w6).drew.trans tH;try go_simp
  refine hK.out _ _ (xJ.o w7 yT) (fun hS1=> ?_);clear hK K;try simp only[Act.put,List.setIfInBounds_toArray,List.set_cons_zero,List.set_cons_succ]
  refine wpAnyH_ready (rs:=[3]) (by kernel_rfl) (by simp) ?_;refine AllReadyH.cons (o:={dst:=some 30,op:=Op.call {callee:=Callee.value (Operand.func 22),args:= #[Operand.tmp 27,Operand.tmp 29],argTypes:= #[44,44]},type:=4,pos:= "exact.go:2168",after:= #[{on:=0,ground:=Ground.data},{on:=2,ground:=Ground.data},{on:=2,ground:=Ground.chain}],guard:=none}) rfl (fun K hK=> ?_) AllReadyH.nil;go_simp
  refine(KX.o.eq w7 xc yc (KX.o.monoR _ _ _ _ (KX.o.keepR _ _ _ _ (KX.o.ofO _ _ _ _ E2.o.oX).2 yT) yT.size) tD).mono ?_;rintro e w8 ⟨rfl,tK⟩;have vL:Below w6.heap.size w6 w8:=yT.trans (tK.mono yT.size);try go_simp
  refine hK.out _ _ (xJ.o w8 vL) (fun hS2=> ?_);clear hK K;try simp only[Act.put,List.setIfInBounds_toArray,List.set_cons_zero,List.set_cons_succ]
  refine wpAnyH_take (i:=4) (oi:={dst:=some 31,op:=Op.unOp UnOp.not 4 (Operand.tmp 30),type:=4,pos:= "exact.go:2168",after:= #[{on:=3,ground:=Ground.data}],guard:=none}) (v:=.bool false) rfl (by kernel_rfl) (by kernel_rfl) (by kernel_rfl) (fun _ _ _ h=>h) (Or.inl ⟨by rfl,fun _ _=>by go_simp⟩) hS2 ?_;try simp only[Act.put,List.setIfInBounds_toArray,List.set_cons_zero,List.set_cons_succ]
  refine wpAnyH_done (by kernel_rfl) ?_ _;go_wp2_with fail;go_meet;exact⟨rfl,vL⟩
 case rest=>
  obtain⟨rfl,HE⟩:=hcut;revert wc;intro w8 HE;replace E1:Hid _:=E1.o.keep KA.o (HE.o.mono E1.o.le);replace E2:Hid _:=E2.o.keep KX.o HE.o;replace E3:Hid _:=E3.o.keep KA.o.keepO HE.o;clear HE
  as_aux_lemma=>
  go_wp2_with (refine wpList_load_mid rfl 44 _ rfl w4.heap.size 0 rfl xc _ E2.o.bX.range underlying44 rfl (by rw[zN.o];kernel_rfl) ?_);refine(KX.o.mark L w4.heap.size w8 xc 1 E2.o.oX (by omega) (by omega)).mono ?_;rintro e w9 ⟨⟨K9,rfl,tC,_,_⟩,xN,xZ⟩;have tF:¬((K9:Int)<0):=by omega
  replace E1:Hid _:=E1.o.keep KA.o xN;replace E3:Hid _:=E3.o.stays (B:=w4.heap.size) KA.o.keepO (by have:=xI.o;omega) (by have:=xI.o;omega) xN.size xZ;clear xN xZ E2 zN KX
  as_aux_lemma=>
  go_wp2_with (first|refine DB (by rfl) 44 _ rfl w5.heap.size 0 rfl gc _ E3.o.bG.range underlying44 rfl (by rw[zM.o];kernel_rfl) ?_|refine DB (by rfl) 44 _ rfl w3.heap.size 0 rfl sc _ E1.o.bS.range underlying44 rfl (by rw[zY.o];kernel_rfl) ?_);refine(KA.o.eq w9 gc sc (KA.o.ofO _ _ _ _ E3.o.oG).2 (KA.o.monoR _ _ _ _ E1.o.rS E1.o.le)).mono ?_;rintro e tA ⟨rfl,zU⟩
  replace E1:Hid _:=E1.o.keep KA.o (zU.mono E1.o.le);replace E3:Hid _:=E3.o.keep KA.o.keepO zU;clear zU
  as_aux_lemma=>
  go_wp2_with (refine wpList_load_mid rfl 44 _ rfl w5.heap.size 0 rfl gc _ E3.o.bG.range underlying44 rfl (by rw[zM.o];kernel_rfl) ?_);refine(KA.o.mark W4.heap.size w5.heap.size tA gc 1 E3.o.oG (by omega) (by omega)).mono ?_;rintro e vO ⟨⟨K,rfl,hK,_,hM⟩,zS,yG⟩;have tB:¬((K:Int)<0):=by omega
  replace E1:Hid _:=E1.o.keep KA.o (zS.mono (by have:=tI.o;have:=xI.o;omega));have E4:Hid (L3 (fun lo N X cs=>MA o lo N X cs K) vO gc W4.heap.size w5.heap.size w5.heap.size):=⟨Aa.same E3.o.bG (yG _ (XB) E3.o.le),hM,XB,XH E3.o.le zS.size⟩
  have KM:Hid (∀(lo N:Nat) (X X':World) (cs:List Value),MA o lo N X cs K->X.heap.size<=X'.heap.size->(∀q,lo<=q->q<N->X'.heap[q]?=X.heap[q]?)->MA o lo N X' cs K):=fun lo N X X' cs=>KA.o.keepM lo N X X' cs K;clear hM zS yG E3 tC tF
  as_aux_lemma=>
  go_wp2_with (refine wpList_load_mid rfl 44 _ rfl w5.heap.size 0 rfl gc _ E4.o.bG.range underlying44 rfl (by rw[zM.o];kernel_rfl) ?_);refine(HH.o _ _ vO gc K E4.o.oG).mono ?_;rintro e vV ⟨rfl,zX⟩;replace E1:Hid _:=E1.o.keep KA.o (zX.mono E1.o.le);replace E4:Hid _:=E4.o.keep KM.o zX;clear zX
  as_aux_lemma=>
  go_wp2_with (refine wpList_load_mid rfl 60 _ rfl w.heap.size 0 rfl A _ E1.o.bA.range underlying60 rfl (by rw[yP.o];kernel_rfl) ?_);refine(HT.o vV E1.o.bel).mono ?_;rintro e tL ⟨zc,rfl,yS,_,zZ⟩;replace E1:Hid _:=E1.o.keep KA.o (zZ.mono E1.o.le);replace E4:Hid _:=E4.o.keep KM.o zZ;have yV:Hid _:=yS;clear zZ yS;try generalize (.agg A.toArray:Value)=dvA
  as_aux_lemma=>
  go_wp2_with fail;refine(HI.o tL zc E1.o.bel yV.o).mono ?_;rintro e zI ⟨vT,hc,rfl,zP,yR,zT⟩;obtain rfl:=HD.o o vT xT.o zP;replace E1:Hid _:=E1.o.keep KA.o (zT.mono E1.o.le);replace E4:Hid _:=E4.o.keep KM.o zT;have yA:=(KA.o.ofO _ _ _ _ yR).2;obtain⟨zB,zR⟩:=KA.o.lenR _ _ _ yA
  obtain⟨yM,yB⟩:∃Y,Y=(zI.alloc (.cells #[XK,XK,XN,XN,XK,XK,XK,XK,XN,XN,XN,XK,XN,XN,XK,XK,XK] 44)).setCells zI.heap.size 0 hc.toArray.toList:=⟨_,rfl⟩;have zO:=boxed (X:=zI) (cs:=hc) (z:=[XK,XK,XN,XN,XK,XK,XK,XK,XN,XN,XN,XK,XN,XN,XK,XK,XK]) (T:=44) (by rw[zB];rfl);have yL:yM=(zI.alloc (.cells [XK,XK,XN,XN,XK,XK,XK,XK,XN,XN,XN,XK,XN,XN,XK,XK,XK].toArray 44)).setCells zI.heap.size 0 hc:=yB
  rw[←yL] at zO;obtain⟨yH,zJ,xQ⟩:=zO;have zA:Hid ((zI.alloc (.cells #[XK,XK,XN,XN,XK,XK,XK,XK,XN,XN,XN,XK,XN,XN,XK,XK,XK] 44)).there zI.heap.size 0 hc.toArray.size/\hc.length=17/\∀u∈hc,u.oneCell'=true):=⟨by rw[show hc.toArray.size=17 from by rw[List.size_toArray];exact zB];exact(Aa.new zI [XK,XK,XN,XN,XK,XK,XK,XK,XN,XN,XN,XK,XN,XN,XK,XK,XK] 44).there,zB,zR⟩;have yQ:Hid _:=yB
  have yE:Hid (hc.length=17):=zB;clear yB yL zB zR;have vI:Hid (RA o yM.heap.size yM hc):=KA.o.monoR _ _ _ _ (KA.o.keepR _ _ _ _ yA zJ) zJ.size;replace E1:Hid _:=E1.o.keep KA.o (zJ.mono E1.o.le);replace E4:Hid _:=E4.o.keep KM.o zJ;have vF:Hid (Aa yM zI.heap.size hc):=yH;clear zP yR zT yA yH zJ xQ yV HT HI
  as_aux_lemma=>
  go_wp2_with (first|refine wpList_load_mid rfl 44 _ rfl zI.heap.size 0 rfl hc _ vF.o.range underlying44 rfl (by rw[yE.o];kernel_rfl) ?_|refine wpList_load_mid rfl 44 _ rfl w3.heap.size 0 rfl sc _ E1.o.bS.range underlying44 rfl (by rw[zY.o];kernel_rfl) ?_|(refine wpList_store_mid rfl 44 _ _ rfl zI.heap.size 0 hc.toArray rfl rfl zA.o.1 (by rw[List.size_toArray,zA.o.2.1];kernel_rfl) (all_oneCell_toArray zA.o.2.2) ?_;rw[←yQ.o]))
  clear yQ zA;refine(KA.o.eq yM hc sc vI.o (KA.o.monoR _ _ _ _ E1.o.rS E1.o.le)).mono ?_;rintro e tJ ⟨rfl,zV⟩;replace E1:Hid _:=E1.o.keep KA.o (zV.mono E1.o.le);replace E4:Hid _:=E4.o.keep KM.o zV;clear zV vI vF
  as_aux_lemma=>
  go_wp2_with (refine wpList_load_mid rfl 44 _ rfl w5.heap.size 0 rfl gc _ E4.o.bG.range underlying44 rfl (by rw[zM.o];kernel_rfl) ?_);refine(HH.o _ _ tJ gc K E4.o.oG).mono ?_;rintro e tM ⟨rfl,yI⟩;have xH:Hid (Xz w tM):=E1.o.bel.trans (yI.mono E1.o.bel.size);clear yI E1 E4;go_wp2;go_ret;exact⟨rfl,xH.o⟩
end ExactFlush
end Go.Proofs.YtpekbmegopfhfaaGreatDoor
