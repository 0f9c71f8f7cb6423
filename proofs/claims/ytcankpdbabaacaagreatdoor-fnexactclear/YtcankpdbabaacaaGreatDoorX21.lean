import Derived.Test.YtcankpdbabaacaaGreatDoorX20
import Derived.Test.YtcankpdbabaacaaGreatDoorX12
set_option maxRecDepth 100000
set_option maxHeartbeats 16000000
namespace Go.Proofs.YtcankpdbabaacaaGreatDoor
open Go.ChangeShapes Go.WideShapes Go.ChangeAt Go.RowKit _root_.Go.Proofs.Tryz
variable{w:Zh}{b a g base n k:Nat}{v e:Value}{c f i j l:Zl}{d:Int}{s:Zi}{x y:Zk}
namespace ExactClear
theorem walk_gen{D:Type}(To:D->Prop)(RX:Nat->Zh->Zj->Prop)(OX:Nat->Nat->Zh->Zj->Prop)(MX:Nat->Nat->Zh->Zj->Nat->Prop)(RA:D->Nat->Zh->Zj->Prop)(OA:D->Nat->Nat->Zh->Zj->Prop)(MA:D->Nat->Nat->Zh->Zj->Nat->Prop)(zA:Prop)(A:Zj)(n:Int)(w:Zh)(hA:A.length=17)(kX:zA->JT 17 1000 9 10 RX OX MX)(kA:∀o,To o->JT 20 1 8 11 (RA o) (OA o) (MA o))(hh:∀o,To o->∀(lo N:Nat) (X:Zh) (cs:Zj) (K:Nat),MA o lo N X cs K->Calls prog 12 #[.agg cs.toArray,Zg 1] X fun e d=>e=.returned (Zg K)/\Zz X d)(cj:∀o o',To o->To o'->o=o')(hz:∀X,Zz w X->Calls prog 4 #[.agg A.toArray,Zg 1048576] X fun e d=>∃r:Int,e=.returned (Zg r)/\Zz X d/\(0<=r->zA))(ht:zA->∀X,Zz w X->Calls prog 6 #[.agg A.toArray] X fun e d=>∃cs:Zj,e=.returned (.agg cs.toArray)/\RX d.heap.size d cs/\OX X.heap.size d.heap.size d cs/\Zz X d)(hs:zA->∀X cs,Zz w X->RX X.heap.size X cs->Calls prog 5 #[.agg cs.toArray,Zg n] X fun e d=>∃(o:D) (ds:Zj),e=.returned (.agg ds.toArray)/\To o/\RA o d.heap.size d ds/\Zz X d)(hi:zA->∀X cs,Zz w X->RX X.heap.size X cs->Calls prog 7 #[.agg cs.toArray,Zg n] X fun e d=>∃(o:D) (ds:Zj),e=.returned (.agg ds.toArray)/\To o/\OA o X.heap.size d.heap.size d ds/\Zz X d):
 Calls prog 3 #[.agg A.toArray,Zg n] w fun e w'=>e=.returned (.bool true)/\Zz w w':=by
 obtain⟨W,hW⟩:∃W,W=w.alloc (.cells A.toArray 33):=⟨_,rfl⟩;have bW:Below w.heap.size w W:=by rw[hW];exact Zy
 have zW:W.heap.size=w.heap.size+1:=by rw[hW];simp
 have xW:Aa W w.heap.size A:=by rw[hW];exact Aa.new w _ _
 have E:Hid (zA->JT 17 1000 9 10 RX OX MX):=kX;have b:=Yx kA;have HH:=Yx hh;have HD:=Yx cj;have zO:Hid (A.length=17):=hA;have HZ:=Yx hz;have HT:=Yx ht;have HS:=Yx hs;have HI:=Yx hi;have HA:Hid (∀X,Zz W X->Aa X w.heap.size A/\Zz w X):=fun X hX=>⟨Aa.same xW (hX.block _ Yw),bW.trans (hX.mono bW.size)⟩;have HW:=Yx hW;clear hW xW kX kA hh cj hz ht hs hi hA;go_enter func3,ntmps3
 go_upto_region 1 with fail;rw[<-HW.o];clear HW
 as_aux_lemma=>
 go_wp2_with (refine wpList_load_mid rfl 33 _ rfl w.heap.size 0 rfl A _ (HA.o W (Below.refl _ _)).1.range underlying33 rfl (by rw[zO.o];kernel_rfl) ?_);refine(HZ.o W bW).mono ?_;rintro e w1 ⟨r1,rfl,xP,yZ⟩;have zN:Hid (Zz W w1):=xP;clear xP HZ bW;try generalize (.agg A.toArray:Value)=dvA
 by_cases n1:r1<0
 .clear yZ;go_wp2;go_ret;exact⟨rfl,(HA.o w1 zN.o).2⟩
 have hf:=yZ Yw;replace E:Hid (JT 17 1000 9 10 RX OX MX):=E.o hf;replace HT:=Yx (HT.o hf);replace HS:=Yx (HS.o hf);replace HI:=Yx (HI.o hf);clear hf yZ
 as_aux_lemma=>
 go_wp2_with (refine wpList_load_mid rfl 33 _ rfl w.heap.size 0 rfl A _ (HA.o w1 zN.o).1.range underlying33 rfl (by rw[zO.o];kernel_rfl) ?_);refine(HT.o w1 (HA.o w1 zN.o).2).mono ?_;rintro e w2 ⟨vF,rfl,xU,_,xQ⟩;have yP:Hid (Zz W w2):=zN.o.trans (xQ.mono zN.o.size);have xF:=Yx xU;clear xQ xU;try generalize (.agg A.toArray:Value)=dvA
 as_aux_lemma=>
 go_wp2_with fail;refine(HS.o w2 vF (HA.o w2 yP.o).2 xF.o).mono ?_;rintro e x ⟨o,v,rfl,yN,xB,xR⟩;have yQ:Hid (Zz W x):=yP.o.trans (xR.mono yP.o.size);have xH:Hid (To o):=yN;replace b:Hid (JT 20 1 8 11 (RA o) (OA o) (MA o)):=b.o o yN;replace HH:=Yx (HH.o o yN);have vM:=yQ.o.size;obtain⟨H,yC⟩:=b.o.gd _ _ _ xB;obtain⟨P,yU⟩:∃Y,Y=(x.alloc (.cells Xx 45)).setCells x.heap.size 0 v.toArray.toList:=⟨_,rfl⟩
 have zY:=boxed (X:=x) (cs:=v) (z:=Xw) (T:=45) (by rw[H];rfl);have xL:P=(x.alloc (.cells Xw.toArray 45)).setCells x.heap.size 0 v:=yU;rw[<-xL]at zY;obtain⟨vA,yJ,vU⟩:=zY;have p:Hid ((x.alloc (.cells Xx 45)).there x.heap.size 0 v.toArray.size/\v.length=20/\∀u∈v,u.oneCell'=true):=⟨by rw[show v.toArray.size=20 from by rw[List.size_toArray];exact H];exact(Aa.new x Xw 45).there,H,yC⟩;have xI:=Yx yU
 have zB:Hid (v.length=20):=H;clear yU xL H yC;have zC:Below W.heap.size W P:=yQ.o.trans (yJ.mono yQ.o.size);have a:Hid (L1 (RA o) w P A v x.heap.size P.heap.size):=⟨(HA.o P zC).2,(HA.o P zC).1,vA,b.o.dt _ _ _ _ (b.o.dz _ _ _ _ xB yJ) yJ.size,Yw,Yw,Zx⟩;have tA:Hid (x.heap.size<P.heap.size):=by show x.heap.size<P.heap.size;omega
 obtain⟨L,hL⟩:∃L,L=P.heap.size:=⟨_,rfl⟩;rw[<-hL]at a;have yS:Hid (L=P.heap.size):=hL;clear hL xB yN xR vA yJ zC HS xF HA vM vU
 as_aux_lemma=>
 go_wp2_with (first|refine wpList_load_mid rfl 33 _ rfl w.heap.size 0 rfl A _ a.o.bA.range underlying33 rfl (by rw[zO.o];kernel_rfl) ?_|(refine wpList_store_mid rfl 45 _ _ rfl x.heap.size 0 v.toArray rfl rfl p.o.1 (by rw[List.size_toArray,p.o.2.1];kernel_rfl) (all_oneCell_toArray p.o.2.2) ?_;rw[<-xI.o]));clear xI p;refine(HT.o P a.o.br).mono ?_;rintro e c ⟨j,rfl,xV,xS,yX⟩
 replace a:=Yx (a.o.ah b.o (yX.mono a.o.le));obtain⟨I,yD⟩:=E.o.gd _ _ _ xV;obtain⟨Z,yV⟩:∃Y,Y=(c.alloc (.cells Xv 43)).setCells c.heap.size 0 j.toArray.toList:=⟨_,rfl⟩;have zZ:=boxed (X:=c) (cs:=j) (z:=Xu) (T:=43) (by rw[I];rfl);have xM:Z=(c.alloc (.cells Xu.toArray 43)).setCells c.heap.size 0 j:=yV;rw[<-xM]at zZ;obtain⟨vC,yK,vV⟩:=zZ
 have s:Hid ((c.alloc (.cells Xv 43)).there c.heap.size 0 j.toArray.size/\j.length=17/\∀u∈j,u.oneCell'=true):=⟨by rw[show j.toArray.size=17 from by rw[List.size_toArray];exact I];exact(Aa.new c Xu 43).there,I,yD⟩;have xJ:=Yx yV;have O:Hid (j.length=17):=I;clear yV xM I yD;have xT:OX L c.heap.size c j:=by rw[yS.o];exact xS
 have m:Hid (L2 OX Z j L c.heap.size c.heap.size):=⟨vC,E.o.dw _ _ _ _ _ xT yK.size (fun q _ h2=>yK.block q h2),Zx,Yw⟩;replace a:=Yx (a.o.ah b.o (yK.mono a.o.le));have vE:Hid (L<=c.heap.size):=by show L<=c.heap.size;rw[yS.o];exact yX.size
 clear xV xS yX vC yK xT yS;try generalize (.agg A.toArray:Value)=dvA
 as_aux_lemma=>
 go_wp2_with (first|refine wpList_load_mid rfl 43 _ rfl c.heap.size 0 rfl j _ m.o.bX.range underlying43 rfl (by rw[O.o];kernel_rfl) ?_|(refine wpList_store_mid rfl 43 _ _ rfl c.heap.size 0 j.toArray rfl rfl s.o.1 (by rw[List.size_toArray,s.o.2.1];kernel_rfl) (all_oneCell_toArray s.o.2.2) ?_;rw[<-xJ.o]));clear xJ s;refine(HI.o Z j a.o.br (E.o.ij _ _ _ _ m.o.oX).2).mono ?_
 rintro e i ⟨o5,g,rfl,yH,xA,yL⟩;obtain rfl:=HD.o o o5 xH.o yH;replace a:=Yx (a.o.ah b.o (yL.mono a.o.le));replace m:=Yx (m.o.ah E.o yL);have xX:=(b.o.ij _ _ _ _ xA).2;obtain⟨J,yE⟩:=b.o.gd _ _ _ xX;obtain⟨W5,yW⟩:∃Y,Y=(i.alloc (.cells Xx 45)).setCells i.heap.size 0 g.toArray.toList:=⟨_,rfl⟩;have yA:=boxed (X:=i) (cs:=g) (z:=Xw) (T:=45) (by rw[J];rfl)
 have xN:W5=(i.alloc (.cells Xw.toArray 45)).setCells i.heap.size 0 g:=yW;rw[<-xN]at yA;obtain⟨vD,zR,vW⟩:=yA;have t:Hid ((i.alloc (.cells Xx 45)).there i.heap.size 0 g.toArray.size/\g.length=20/\∀u∈g,u.oneCell'=true):=⟨by rw[show g.toArray.size=20 from by rw[List.size_toArray];exact J];exact(Aa.new i Xw 45).there,J,yE⟩;have xK:=Yx yW;have F:Hid (g.length=20):=J;clear yW xN J yE
 have l:Hid (L3 (OA o) W5 g Z.heap.size i.heap.size i.heap.size):=⟨vD,b.o.dw _ _ _ _ _ xA zR.size (fun q _ h2=>zR.block q h2),Zx,Yw⟩;replace a:=Yx (a.o.ah b.o (zR.mono a.o.le));replace m:=Yx (m.o.ah E.o zR);have yR:Hid (c.heap.size<Z.heap.size/\Z.heap.size<=i.heap.size):=by refine⟨?_,yL.size⟩;show c.heap.size<Z.heap.size;omega
 clear yH xA yL xX vD zR vV vW
 as_aux_lemma=>
 go_wp2_with (first|refine wpList_load_mid rfl 45 _ rfl i.heap.size 0 rfl g _ l.o.bG.range underlying45 rfl (by rw[F.o];kernel_rfl) ?_|refine wpList_load_mid rfl 45 _ rfl x.heap.size 0 rfl v _ a.o.bS.range underlying45 rfl (by rw[zB.o];kernel_rfl) ?_|(refine wpList_store_mid rfl 45 _ _ rfl i.heap.size 0 g.toArray rfl rfl t.o.1 (by rw[List.size_toArray,t.o.2.1];kernel_rfl) (all_oneCell_toArray t.o.2.2) ?_;rw[<-xK.o]))
 clear xK t;refine(b.o.eq W5 g v (b.o.ij _ _ _ _ l.o.oG).2 (b.o.dt _ _ _ _ a.o.rS a.o.le)).mono ?_;rintro e Q ⟨rfl,yM⟩;replace a:=Yx (a.o.ah b.o (yM.mono a.o.le));replace m:=Yx (m.o.ah E.o yM);replace l:=Yx (l.o.ah b.o.dw yM);clear yM
 as_aux_lemma=>
 go_upto_region 10 with fail;go_cut [35] (fun u wx=>u=.bool false/\Hid (Zz Q wx))
 case first=>
  have yT:Hid (∀X,Zz Q X->Aa X c.heap.size j/\Aa X w.heap.size A):=fun X hX=>⟨Aa.same m.o.bX (hX.block _ m.o.le),Aa.same a.o.bA (hX.block _ (by have:=a.o.l0;have:=a.o.le;omega))⟩;refine wp_region_held_drew (S:=fun X=>Aa X c.heap.size j/\Aa X w.heap.size A) Yt (yT.o _ (Below.refl _ _).drew) (fun hS=> ?_)
  refine Kx 0 ⟨some 31,.load 43 (.tmp 7),43,Fe,#[],none⟩ (.agg j.toArray) (by exact yieldsIf_load_mid Yr 43 _ rfl c.heap.size 0 rfl j _ (fun X h=>h.1.range) underlying43 rfl (by rw[O.o];kernel_rfl)) (by exact hS) ?_;try simp only[Act.put,Zq,Zp,Zo]
  refine Kx 1 ⟨some 32,.load 33 (.tmp 2),33,Fe,#[],none⟩ (.agg A.toArray) (by exact yieldsIf_load_mid Yr 33 _ rfl w.heap.size 0 rfl A _ (fun X h=>h.2.range) underlying33 rfl (by rw[zO.o];kernel_rfl)) (by exact hS) ?_;try simp only[Act.put,Zq,Zp,Zo]
  refine GH 2 ⟨some 33,.call {callee:=Callee.value (.func 6),args:= #[.tmp 32],argTypes:= #[33]},43,Fe,#[BP 1],none⟩ (fun K hK=> ?_);go_simp;refine(HT.o Q.drew a.o.br.drew).mono ?_;rintro e w7 ⟨yc,rfl,vL,_,vI⟩;have zS:Below Q.heap.size Q w7:=(Below.refl Q.heap.size Q).drew.trans vI;try go_simp
  refine hK.out _ _ (yT.o w7 zS) (fun tB=> ?_);clear hK K;try simp only[Act.put,Zq,Zp,Zo]
  refine GH 3 ⟨some 34,.call {callee:=Callee.value (.func 9),args:= #[.tmp 31,.tmp 33],argTypes:= #[43,43]},4,Fe,#[BP 0,BP 2,⟨2,.chain⟩],none⟩ (fun K hK=> ?_);go_simp;refine(E.o.eq w7 j yc (E.o.dt _ _ _ _ (E.o.dz _ _ _ _ (E.o.ij _ _ _ _ m.o.oX).2 zS) zS.size) vL).mono ?_;rintro e w8 ⟨rfl,vJ⟩;have xO:Below Q.heap.size Q w8:=zS.trans (vJ.mono zS.size);try go_simp
  refine hK.out _ _ (yT.o w8 xO) (fun vH=> ?_);clear hK K;try simp only[Act.put,Zq,Zp,Zo]
  refine EI 4 ⟨some 35,.unOp .not 4 (.tmp 34),4,Fe,#[BP 3],none⟩ (.bool false) (by exact vH) ?_;try simp only[Act.put,Zq,Zp,Zo]
  refine wpAnyH_done Yt ?_ _;go_wp2_with fail;go_meet;exact⟨rfl,xO⟩
 case rest=>
  obtain⟨rfl,HE⟩:=hcut;revert wc;intro w8 HE;replace a:=Yx (a.o.ah b.o (HE.o.mono a.o.le));replace m:=Yx (m.o.ah E.o HE.o);replace l:=Yx (l.o.ah b.o.dw HE.o);clear HE
  as_aux_lemma=>
  go_wp2_with (refine wpList_load_mid rfl 43 _ rfl c.heap.size 0 rfl j _ m.o.bX.range underlying43 rfl (by rw[O.o];kernel_rfl) ?_);refine(E.o.mark L c.heap.size w8 j 1 m.o.oX Yw Yw).mono ?_;rintro e w9 ⟨⟨K9,rfl,vG,_,_⟩,yY,xY⟩;have vK:¬((K9:Int)<0):=Yw
  replace a:=Yx (a.o.ah b.o yY);replace l:=Yx (l.o.stays (B:=c.heap.size) b.o.dw (by have:=yR.o;omega) (by have:=yR.o;omega) yY.size xY);clear yY xY m O E
  as_aux_lemma=>
  go_wp2_with (first|refine Ia Yr 45 _ rfl i.heap.size 0 rfl g _ l.o.bG.range underlying45 rfl (by rw[F.o];kernel_rfl) ?_|refine Ia Yr 45 _ rfl x.heap.size 0 rfl v _ a.o.bS.range underlying45 rfl (by rw[zB.o];kernel_rfl) ?_);refine(b.o.eq w9 g v (b.o.ij _ _ _ _ l.o.oG).2 (b.o.dt _ _ _ _ a.o.rS a.o.le)).mono ?_;rintro e vP ⟨rfl,zF⟩;replace a:=Yx (a.o.ah b.o (zF.mono a.o.le))
  replace l:=Yx (l.o.ah b.o.dw zF);clear zF
  as_aux_lemma=>
  go_wp2_with (refine wpList_load_mid rfl 45 _ rfl i.heap.size 0 rfl g _ l.o.bG.range underlying45 rfl (by rw[F.o];kernel_rfl) ?_);refine(b.o.mark Z.heap.size i.heap.size vP g 1 l.o.oG Yw Yw).mono ?_;rintro e xZ ⟨⟨K,rfl,hK,_,hM⟩,zG,yG⟩;have vX:¬((K:Int)<0):=Yw
  replace a:=Yx (a.o.ah b.o (zG.mono (by have:=vE.o;have:=yR.o;omega)));have C:Hid (L3 (fun lo N X cs=>MA o lo N X cs K) xZ g Z.heap.size i.heap.size i.heap.size):=⟨Aa.same l.o.bG (yG _ (Zx) l.o.le),hM,Zx,Zr l.o.le zG.size⟩
  have KM:Hid (∀(lo N:Nat) (X d:Zh) (cs:Zj),MA o lo N X cs K->X.heap.size<=d.heap.size->(∀q,lo<=q->q<N->d.heap[q]?=X.heap[q]?)->MA o lo N d cs K):=fun lo N X d cs=>b.o.keepM lo N X d cs K;clear hM zG yG l vG vK
  as_aux_lemma=>
  go_wp2_with (refine wpList_load_mid rfl 45 _ rfl i.heap.size 0 rfl g _ C.o.bG.range underlying45 rfl (by rw[F.o];kernel_rfl) ?_);refine(HH.o _ _ xZ g K C.o.oG).mono ?_;rintro e vQ ⟨rfl,zH⟩;replace a:=Yx (a.o.ah b.o (zH.mono a.o.le));replace C:=Yx (C.o.ah KM.o zH);clear zH
  as_aux_lemma=>
  go_wp2_with (refine wpList_load_mid rfl 33 _ rfl w.heap.size 0 rfl A _ a.o.bA.range underlying33 rfl (by rw[zO.o];kernel_rfl) ?_);refine(HT.o vQ a.o.br).mono ?_;rintro e vR ⟨zc,rfl,yF,_,zI⟩;replace a:=Yx (a.o.ah b.o (zI.mono a.o.le));replace C:=Yx (C.o.ah KM.o zI);have zT:=Yx yF;clear zI yF;try generalize (.agg A.toArray:Value)=dvA
  as_aux_lemma=>
  go_wp2_with fail;refine(HI.o vR zc a.o.br zT.o).mono ?_;rintro e y ⟨vO,M,rfl,V,yB,zJ⟩;obtain rfl:=HD.o o vO xH.o V;replace a:=Yx (a.o.ah b.o (zJ.mono a.o.le));replace C:=Yx (C.o.ah KM.o zJ);have zM:=(b.o.ij _ _ _ _ yB).2;obtain⟨k,U⟩:=b.o.gd _ _ _ zM;obtain⟨zP,zE⟩:∃Y,Y=(y.alloc (.cells Xx 45)).setCells y.heap.size 0 M.toArray.toList:=⟨_,rfl⟩
  have R:=boxed (X:=y) (cs:=M) (z:=Xw) (T:=45) (by rw[k];rfl);have zV:zP=(y.alloc (.cells Xw.toArray 45)).setCells y.heap.size 0 M:=zE;rw[<-zV]at R;obtain⟨yI,G,xD⟩:=R;have f:Hid ((y.alloc (.cells Xx 45)).there y.heap.size 0 M.toArray.size/\M.length=20/\∀u∈M,u.oneCell'=true):=⟨by rw[show M.toArray.size=20 from by rw[List.size_toArray];exact k];exact(Aa.new y Xw 45).there,k,U⟩;have zU:=Yx zE
  have yO:Hid (M.length=20):=k;clear zE zV k U;have xG:Hid (RA o zP.heap.size zP M):=b.o.dt _ _ _ _ (b.o.dz _ _ _ _ zM G) G.size;replace a:=Yx (a.o.ah b.o (G.mono a.o.le));replace C:=Yx (C.o.ah KM.o G);have xE:Hid (Aa zP y.heap.size M):=yI;clear V yB zJ zM yI G xD zT HT HI
  as_aux_lemma=>
  go_wp2_with (first|refine wpList_load_mid rfl 45 _ rfl y.heap.size 0 rfl M _ xE.o.range underlying45 rfl (by rw[yO.o];kernel_rfl) ?_|refine wpList_load_mid rfl 45 _ rfl x.heap.size 0 rfl v _ a.o.bS.range underlying45 rfl (by rw[zB.o];kernel_rfl) ?_|(refine wpList_store_mid rfl 45 _ _ rfl y.heap.size 0 M.toArray rfl rfl f.o.1 (by rw[List.size_toArray,f.o.2.1];kernel_rfl) (all_oneCell_toArray f.o.2.2) ?_;rw[<-zU.o]))
  clear zU f;refine(b.o.eq zP M v xG.o (b.o.dt _ _ _ _ a.o.rS a.o.le)).mono ?_;rintro e vS ⟨rfl,zK⟩;replace a:=Yx (a.o.ah b.o (zK.mono a.o.le));replace C:=Yx (C.o.ah KM.o zK);clear zK xG xE
  as_aux_lemma=>
  go_wp2_with (refine wpList_load_mid rfl 45 _ rfl i.heap.size 0 rfl g _ C.o.bG.range underlying45 rfl (by rw[F.o];kernel_rfl) ?_);refine(HH.o _ _ vS g K C.o.oG).mono ?_;rintro e vT ⟨rfl,zX⟩;have xC:Hid (Zz w vT):=a.o.br.trans (zX.mono a.o.br.size);clear zX a C;go_wp2;go_ret;exact⟨rfl,xC.o⟩
end ExactClear
def Aj(w:Zh)(base:Nat)(v:Value)(ss:Zl):Prop:=
 (v=Zc/\ss=[])\/∃g off cap,v=.slice (some ⟨g,off,none⟩) ss.length cap/\base<=g/\g<w.heap.size/\ss.length<=cap/\cap<=maxLen/\
   (∀j,j<cap->(w.cell? (Ze g (off+j))).isSome=true/\w.frozen? ⟨g,off+j,none⟩=false)/\
   ∀i s,ss[i]?=some s->w.cell? (Ze g (off+i))=some (.string s)
theorem Aj.nil(w:Zh)(a:Nat):Aj w a Zc []:=.inl ⟨rfl,rfl⟩
theorem Aj.own(h:w.ownsRow b 9 1 v c.length (c.map Value.string)):Aj w b v c:=by
 rcases h.2 with⟨rfl,p⟩|⟨g,cap,d,rfl,l,e,m,o,f,q⟩
 .exact .inl ⟨rfl,List.eq_nil_of_length_eq_zero p⟩
 .have n:=(Array.getElem?_eq_some_iff.1 e).1;have a:∀j,w.cell? (Ze g (0+j))=d[j]?:=fun j=>by rw[Nat.zero_add];simp[World.cell?,e]
  refine .inr ⟨g,0,cap,rfl,l,n,m,o,fun j t=>⟨?_,?_⟩,fun i s f=> ?_⟩
  .rw[a,Array.getElem?_eq_getElem Yw];rfl
  .simp[World.frozen?,e]
  .have r:=(Zw f).1;rw[a];have k:(d.toList.take (c.length *1))[i]?=some (.string s):=by rw[q];simp[f]
   rw[List.getElem?_take_of_lt Yw]at k;simpa using k
theorem Aj.row(h:Aj w b v c):∃a cap,v=.slice a c.length cap/\Ad w w.heap.size a c:=by
 rcases h with⟨rfl,rfl⟩|⟨g,d,cap,rfl,i,e,_,_,_,f⟩
 .exact⟨none,0,rfl,.inl rfl⟩
 .exact⟨_,cap,rfl,.inr ⟨g,d,rfl,e,f⟩⟩
theorem Aj.stays{c:Zh}(h:Aj w a v f)(r:w.heap.size<=c.heap.size)(b:∀g,Af v=some g->c.heap[g]?=w.heap[g]?):Aj c a v f:=by
 rcases h with h|⟨g,k,cap,rfl,l,q,m,n,d,o⟩
 .exact .inl h
 .exact .inr ⟨g,k,cap,rfl,l,Yw,m,n,fun j e=>⟨by rw[World.cell?_of_block (b g rfl)];exact(d j e).1,by rw[World.frozen?_of_block (b g rfl)];exact(d j e).2⟩,fun i s p=>(World.cell?_of_block (b g rfl)).trans (o i s p)⟩
theorem Aj.S{e:Zl}(h:Aj w a v e)(b:Af v=some g):a<=g/\g<w.heap.size:=by
 rcases h with⟨rfl,_⟩|⟨i,f,cap,rfl,c,d,_⟩
 .cases b
 .cases b;exact⟨c,d⟩
theorem Aj.below{c:Zh}{b:Zl}(h:Aj w base v b)(a:Zz w c):Aj c base v b:=
 h.stays a.size (fun g e=>a.block g (h.S e).2)
theorem Aj.Y{d:Zh}{V:List Nat}(h:Aj w a v c)(b:Tn V w d)(f:∀g,Af v=some g->g∉V):Aj d a v c:=
 h.stays b.size (fun g e=>b.block g (h.S e).2 (f g e))
theorem Aj.mono{b:Zl}(h:Aj w base v b)(e:a<=base):Aj w a v b:=by
 rcases h with h|⟨g,c,cap,rfl,d,rest⟩
 .exact .inl h
 .exact .inr ⟨g,c,cap,rfl,Yw,rest⟩
theorem Aj.tail{cap:Nat}(h:Aj w b (.slice (some ⟨g,a,none⟩) n cap) (s::c)):Aj w b (.slice (some ⟨g,a+1,none⟩) c.length (cap -1)) c/\n=c.length+1/\n<=cap/\w.cell? (Ze g a)=some (.string s):=by
 rcases h with⟨h,_⟩|⟨r,l,k,d,m,p,e,t,o,f⟩
 .cases h
 .simp only[List.length_cons]at d e;cases d;refine⟨.inr ⟨g,a+1,cap -1,rfl,m,p,Yw,Yw,fun j u=> ?_,fun i s q=> ?_⟩,rfl,e,by simpa using f 0 s rfl⟩
  .have:=o (j+1) Yw;rw[show a+(j+1)=a+1+j by omega]at this;exact this
  .have:=f (i+1) s (by simpa using q);rw[show a+(i+1)=a+1+i by omega]at this;exact this
theorem Aj.fresh(w:Zh)(c:Nat)(b:Zl)(cap:Nat)(z:Array Value)(g:c<=w.heap.size)(e:b.length<=cap)(f:cap<=maxLen)(k:z.size=cap -b.length):
 Aj (w.drew.alloc (.cells ((b.map Value.string).toArray++z) 9)) c (Za w.heap.size b.length cap) b:=by
 have a:∀j,(w.drew.alloc (.cells ((b.map Value.string).toArray++z) 9)).cell? (Ze (w.heap.size) (0+j))=((b.map Value.string).toArray++z)[j]?:=fun j=>by rw[Nat.zero_add];show(w.drew.alloc (.cells ((b.map Value.string).toArray++z) 9)).cell? (Ze (w.drew.heap.size) j)=_;rw[World.cell?_alloc_at _ _ _ _ rfl]
 refine .inr ⟨w.heap.size,0,cap,rfl,g,Yv,e,f,fun j l=>⟨?_,?_⟩,fun i s d=> ?_⟩
 .rw[a,Array.getElem?_eq_getElem (by simp[k];omega)];rfl
 .simp[go_sem]
 .have h:=(Zw d).1;rw[a,Array.getElem?_append_left (by simpa using h)];simp[d]
theorem IN(w:Zh)(b:Nat)(v:Value)(a:Zl)(U:Aj w b v a)(p:Addr)(z:Nat)(t:Zi)(A:w.cell? p=some (.string t))(W:a.length<=100000000)(q:b<=w.heap.size)(B:TypeId):
 ∃c d,(Builtin.append_ #[22,22] B #[v,.slice (some p) 1 z]).run prog w=.ok c d/\Aj d b c (a++[t])/\w.grownBy d (Af v)/\(Af c=Af v\/Af c=some w.heap.size):=by
 obtain⟨i,J,P,m,Q⟩:=info_parts Dw;have n:Src prog i.size 22 (.slice (some p) 1 z) 1 [.string t] w:=by
  rw[m];exact Src.ofSlice w underlying22 p 1 z [.string t] rfl (fun j u hu=>by
   match j,hu with
   |0,hu=>cases hu;rw[show p.add 0=p from by cases p;simp[Addr.add]];exact A) (by simp[Value.oneCell'])
 have grow:∀(y:Zk) (cap:Nat),cap<a.length+1->(Builtin.firstCells i.size a.length (.slice y a.length cap)).run prog w.drew=.ok (a.map Value.string).toArray w.drew->
  ∃c d,(Builtin.append_ #[22,22] B #[.slice y a.length cap,.slice (some p) 1 z]).run prog w=.ok c d/\Aj d b c (a++[t])/\(∀row,w.grownBy d row)/\Af c=some w.heap.size:=by
  intro y cap D hold;have h:=run_append_grow_src w _ _ B _ i _ underlying22 J P y a.length cap (a.map Value.string) hold _ 1 [.string t] n D Yw (by
   have:=nextslicecap_le D;rw[Q];omega)
  rw[show a.map Value.string++[.string t]=(a++[t]).map Value.string by simp]at h;have K:=grownCap_ge w (a.length+1) cap 9;have N:=grownCap_le_maxLen w (a.length+1) cap 9 Yq
  have C:=Aj.fresh w b (a++[t]) (grownCap w (a.length+1) cap 9) (Builtin.zeroCells (Value.string ⟨#[]⟩).cells (grownCap w (a.length+1) cap 9 -(a.length+1))) q (by simpa using K) N (by rw[size_zeroCells,List.length_append];simp[Value.cells]);rw[List.length_append]at C;exact⟨_,_,h,C,fun row=>⟨rfl,rfl,rfl,Yv,fun k I _=>heap_alloc_old w.drew _ I⟩,rfl⟩
 rcases U with⟨rfl,rfl⟩|⟨g,o,cap,rfl,R,T,V,S,r,A⟩
 .obtain⟨c,d,h,F,G,H⟩:=grow none 0 Yv (run_firstCells_none w.drew _ _ _ _);exact⟨c,d,h,F,G _,.inr H⟩
 .by_cases hroom:a.length+1<=cap
  .have x:∀j,j<[Value.string t].length->(a.length *1+j)<cap:=fun j f=>by simp at f;omega
   have h:=run_append_room_src w _ _ B _ i underlying22 J g o a.length cap _ 1 [.string t] n hroom (fun j f=>by rw[m,Nat.add_assoc];exact(r _ (x j f)).1) (fun j f=>by rw[m,Nat.add_assoc];exact(r _ (x j f)).2);rw[m]at h
   refine⟨_,_,h,.inr ⟨g,o,cap,by rw[List.length_append];rfl,R,by rw[Gu];exact T,by rw[List.length_append];exact hroom,S,fun j f=>⟨?_,?_⟩,fun k s l=> ?_⟩,⟨World.os_setCells _ _ _ _,Jw _ _ _ _,World.output_setCells _ _ _ _,by rw[Gu];exact Zx,fun k I O=>World.heap_setCells_other _ _ _ _ I (fun e=>O (by rw[e];rfl))⟩,.inl rfl⟩
   .exact Iu _ _ _ _ _ (r j f).1
   .rw[World.frozen?_setCells];exact(r j f).2
   .rcases Nat.lt_or_ge k a.length with E|E
    .rw[List.getElem?_append_left E]at l;rw[World.cell?_setCells_out _ _ _ _ _ (fun _ _=> .inl Yu)];exact A k s l
    .rw[List.getElem?_append_right E]at l;have M:k=a.length:=by have:=(Zw l).1;simp at this;omega
     subst M;simp at l;subst l;have L:=World.cell?_setCells_in g [.string t] (o+a.length *1) w (fun j f=>by rw[Nat.add_assoc];exact(r _ (x j f)).1) 0 Yv;simpa using L
  .obtain⟨c,d,h,F,G,H⟩:=grow (some ⟨g,o,none⟩) cap Yw (run_firstCells_some w.drew _ _ _ _ _ _ (by rw[m];simp) (by
    intro j u hu;obtain⟨s,l,rfl⟩:∃s,a[j]?=some s/\u=.string s:=by
     rw[List.getElem?_map]at hu;cases e:a[j]? with
     |none=>rw[e]at hu;cases hu
     |some s=>rw[e]at hu;cases hu;exact⟨s,rfl,rfl⟩
    rw[Go.WideShapes.add_plain];exact A j s l))
   exact⟨c,d,h,F,G _,.inr H⟩
def AK(out:Zl)(s:Zi):Zl:=if out.any (fun x=>decide (x=s))=true then out else out++[s]
theorem QA(a:Zl)(s:Zi):(AK a s).length<=a.length+1:=by unfold AK;split<;>simp
theorem Np{a:Zl}{x:Zi}(o:Zl)(b:a[k]?=some x):(a.take (k+1)).foldl AK o=AK ((a.take k).foldl AK o) x:=by obtain⟨h,rfl⟩:=Zw b;rw[Zu h,List.foldl_append];rfl
theorem Gr(a o:Zl):(a.foldl AK o).length<=o.length+a.length:=by
 induction a generalizing o with
 |nil=>simp
 |cons x a ih=>have b:=ih (AK o x);have c:=QA o x;simp only[List.foldl_cons,List.length_cons];omega
theorem Pu{d:Nat}{a:Zk}{c:Nat}{b:Zl}(h:w.ownsRow d 9 1 (.slice a b.length c) b.length (b.map Value.string)):Ad w w.heap.size a b:=by
 rcases h.2 with⟨e,f⟩|⟨g,cap,i,e,_⟩
 .exact .inl (List.eq_nil_of_length_eq_zero f)
 .cases e;exact Ad.own h
def CI(ps:List Pd)(ls:List Ld):Zl:=(ls.map (·.sum)).foldl AK ((ps.map (·.sum)).foldl AK [])
theorem SD(F t h d:Int)(T:Value)(p l:Zk)(E D:Nat)(a:List Pd)(f:List Ld)(w:Zh)(hp:AG w w.heap.size p a)(hq:AI w w.heap.size l f)(zI:a.length<=100)(zH:f.length<=200):
 Calls prog 49 #[.agg #[Zg F,Zg t,Zg h,Zg d,T,.slice p a.length E,.slice l f.length D]] w fun e w'=>∃g c,e=.returned (Za g (CI a f).length c)/\w'.ownsRow (w.heap.size+1) 9 1 (Za g (CI a f).length c) (CI a f).length ((CI a f).map Value.string)/\Zz w w':=by
 obtain⟨i0,Z,Q,R,S⟩:=info_parts Dw;have zB:=Yx hp;have zA:=Yx hq;have Y:=AZ.new w F t h d T (.slice p a.length E) (.slice l f.length D) 40;have P:Below w.heap.size w (w.alloc (.cells #[Zg F,Zg t,Zg h,Zg d,T,.slice p a.length E,.slice l f.length D] 40)):=Zy;clear hp hq;unfold CI;go_enter func49,ntmps49;go_wp2
 go_loopw [3,4] (fun v i wr=>∃(k g c:Nat),k<=a.length/\i=Zg k/\v=Za g (((a.map (·.sum)).take (k)).foldl AK []).length c/\Hid (wr.ownsRow (w.heap.size+1) 9 1 (Za g (((a.map (·.sum)).take (k)).foldl AK []).length c) (((a.map (·.sum)).take (k)).foldl AK []).length ((((a.map (·.sum)).take (k)).foldl AK []).map Value.string))/\Zz w wr/\Hid (AZ wr w.heap.size F t h d T (.slice p a.length E) (.slice l f.length D))) (fun _ i _=>a.length -(intOf i).toNat)
 case atStart=>
  refine⟨0,w.heap.size+1,0,Nat.zero_le _,rfl,Yv,?_,P.alloc P.size _,Y.ah (Zy) Y.2.2.2.2.2.2.2⟩;have:=World.ownsRow_lit (e:=9) (w.alloc (.cells #[Zg F,Zg t,Zg h,Zg d,T,.slice p a.length E,.slice l f.length D] 40)) #[] (size:=1) 0 (base:=w.heap.size+1) Yv (by simp[maxLen]) rfl
  rw[show(w.alloc (.cells #[Zg F,Zg t,Zg h,Zg d,T,.slice p a.length E,.slice l f.length D] 40)).heap.size=w.heap.size+1 from by simp]at this;exact this
 case round=>
  clear Y;obtain⟨k,g,c,hk,rfl,rfl,q,n,A⟩:=hrel;obtain⟨x0,x1,x2,x3,x4,x5,x6,x7⟩:=A.o;by_cases hlt:k<a.length
  .obtain⟨b,zG,W,hb,J⟩:=(AG.below zB.o n).at hlt;subst W;have I:Hid (a[k]?=some a[k]):=Zv hlt;obtain⟨_,c1⟩:=J k _ I.o;have zC:b<wr.heap.size:=Yw
   have HN:Hid ((a.map (·.sum))[k]?=some a[k].sum):=by show _=_;rw[List.getElem?_map,I.o];rfl
   clear J;generalize a[k]=x at *
   have hlen:(((a.map (·.sum)).take (k)).foldl AK []).length<=0+k:=by
    have:=Gr ((a.map (·.sum)).take k) ([])
    skip
    simp at this;omega
   have H:=Yx (Np ([]) HN.o);generalize hO:((a.map (·.sum)).take (k)).foldl AK []=O at *
   have zE:=(q.o.lt g rfl).1;have zF:=(q.o.lt g rfl).2;have V:Hid (Ad wr wr.heap.size (some ⟨g,0,none⟩) O):=Pu q.o;go_wp2_with fail;refine(Gd _ c O x.sum wr _ V.o Yw).mono ?_;rintro e K ⟨rfl,rfl⟩;cases hin:O.any (fun y=>decide (y=x.sum))with
   |true=>
    have r:Hid (((a.map (·.sum)).take (k+1)).foldl AK []=O):=by show _=_;rw[H.o];unfold AK;rw[if_pos hin]
    go_wp2;refine⟨⟨k+1,g,c,Yw,Yp,by rw[r.o],?_,n,A⟩,by simp[intOf];omega⟩;rw[r.o];exact q
   |false=>
    have r:Hid (((a.map (·.sum)).take (k+1)).foldl AK []=O++[x.sum]):=by show _=_;rw[H.o];unfold AK;rw[if_neg (by rw[hin];decide)]
    go_wp2_with (first
     |(at_builtin;refine wpList_append_own _ rfl _ _ 22 rfl (w.heap.size+1) 9 i0 Zd 1 16 underlying22 Z Q R S rfl Ys _ O.length (O.map Value.string) rfl ?d0 ⟨K.heap.size,0,none⟩ 1 1 [.string x.sum] rfl rfl ?d1 ?d2 ?d3 ?d4 ?d5 ?_)
     |go_in)
    case d0=>exact q.o.alloc _
    case d1=>exact cell_one_new _ _ _
    case d2=>intro u hu;simp at hu;subst hu;rfl
    case d3=>unfold maxLen;omega
    case d4=>omega
    case d5=>simp;omega
    intro v' z m o _;obtain⟨C,B,N,_,_⟩:=m.form Yw;subst N;have s:Below (w.heap.size+1) K z:=((Below.refl _ _).alloc Yw _).grown o Yu (by intro j X;simp[Value.ownBlock]at X;omega);have U:Hid (Zz w z):=n.trans (s.mono Yw);have M:=Yx (AZ.ah A.o s Yw)
    have L:Hid (z.ownsRow (w.heap.size+1) 9 1 (Za C (O.length+1) B) (O.length+1) ((O++[x.sum]).map Value.string)):=(by simpa using m:World.ownsRow z (w.heap.size+1) 9 1 (Za C (O.length+1) B) (O.length+1) ((O++[x.sum]).map Value.string));clear m o s;go_wp2;refine⟨⟨k+1,C,B,Yw,Yp,by rw[r.o];simp,?_,U.o,M⟩,by simp[intOf];omega⟩;rw[r.o,List.length_append];exact L
  .rw[Zt Yu]at q |-;go_wp2
   go_loopw [3,5] (fun v i wr=>∃(k g c:Nat),k<=f.length/\i=Zg k/\v=Za g (((f.map (·.sum)).take (k)).foldl AK ((a.map (·.sum)).foldl AK [])).length c/\Hid (wr.ownsRow (w.heap.size+1) 9 1 (Za g (((f.map (·.sum)).take (k)).foldl AK ((a.map (·.sum)).foldl AK [])).length c) (((f.map (·.sum)).take (k)).foldl AK ((a.map (·.sum)).foldl AK [])).length ((((f.map (·.sum)).take (k)).foldl AK ((a.map (·.sum)).foldl AK [])).map Value.string))/\Zz w wr/\Hid (AZ wr w.heap.size F t h d T (.slice p a.length E) (.slice l f.length D))) (fun _ i _=>f.length -(intOf i).toNat)
   case atStart=>exact⟨0,g,c,Nat.zero_le _,rfl,rfl,q,n,A⟩
   case round=>
    clear x0 x1 x2 x3 x4 x5 x6 x7;obtain⟨k,g,c,hk,rfl,rfl,q,n,A⟩:=hrel;obtain⟨x0,x1,x2,x3,x4,x5,x6,x7⟩:=A.o;by_cases hlt:k<f.length
    .obtain⟨b,zG,W,hb,J⟩:=(AI.below zA.o n).at hlt;subst W;have I:Hid (f[k]?=some f[k]):=Zv hlt;obtain⟨_,c1,_⟩:=J k _ I.o;have zC:b<wr.heap.size:=Yw
     have HN:Hid ((f.map (·.sum))[k]?=some f[k].sum):=by show _=_;rw[List.getElem?_map,I.o];rfl
     clear J;generalize f[k]=x at *
     have hlen:(((f.map (·.sum)).take (k)).foldl AK ((a.map (·.sum)).foldl AK [])).length<=a.length+k:=by have:=Gr ((f.map (·.sum)).take k) ((a.map (·.sum)).foldl AK []);have G:=Gr (a.map (·.sum)) [];simp at G;simp at this;omega
     have H:=Yx (Np ((a.map (·.sum)).foldl AK []) HN.o);generalize hO:((f.map (·.sum)).take (k)).foldl AK ((a.map (·.sum)).foldl AK [])=O at *
     have zE:=(q.o.lt g rfl).1;have zF:=(q.o.lt g rfl).2;have V:Hid (Ad wr wr.heap.size (some ⟨g,0,none⟩) O):=Pu q.o;go_wp2_with fail;refine(Gd _ c O x.sum wr _ V.o Yw).mono ?_;rintro e K ⟨rfl,rfl⟩;cases hin:O.any (fun y=>decide (y=x.sum))with
     |true=>
      have r:Hid (((f.map (·.sum)).take (k+1)).foldl AK ((a.map (·.sum)).foldl AK [])=O):=by show _=_;rw[H.o];unfold AK;rw[if_pos hin]
      go_wp2;refine⟨⟨k+1,g,c,Yw,Yp,by rw[r.o],?_,n,A⟩,by simp[intOf];omega⟩;rw[r.o];exact q
     |false=>
      have r:Hid (((f.map (·.sum)).take (k+1)).foldl AK ((a.map (·.sum)).foldl AK [])=O++[x.sum]):=by show _=_;rw[H.o];unfold AK;rw[if_neg (by rw[hin];decide)]
      go_wp2_with (first
       |(at_builtin;refine wpList_append_own _ rfl _ _ 22 rfl (w.heap.size+1) 9 i0 Zd 1 16 underlying22 Z Q R S rfl Ys _ O.length (O.map Value.string) rfl ?d0 ⟨K.heap.size,0,none⟩ 1 1 [.string x.sum] rfl rfl ?d1 ?d2 ?d3 ?d4 ?d5 ?_)
       |go_in)
      case d0=>exact q.o.alloc _
      case d1=>exact cell_one_new _ _ _
      case d2=>intro u hu;simp at hu;subst hu;rfl
      case d3=>unfold maxLen;omega
      case d4=>omega
      case d5=>simp;omega
      intro v' z m o _;obtain⟨C,B,N,_,_⟩:=m.form Yw;subst N;have s:Below (w.heap.size+1) K z:=((Below.refl _ _).alloc Yw _).grown o Yu (by intro j X;simp[Value.ownBlock]at X;omega);have U:Hid (Zz w z):=n.trans (s.mono Yw);have M:=Yx (AZ.ah A.o s Yw)
      have L:Hid (z.ownsRow (w.heap.size+1) 9 1 (Za C (O.length+1) B) (O.length+1) ((O++[x.sum]).map Value.string)):=(by simpa using m:World.ownsRow z (w.heap.size+1) 9 1 (Za C (O.length+1) B) (O.length+1) ((O++[x.sum]).map Value.string));clear m o s;go_wp2;refine⟨⟨k+1,C,B,Yw,Yp,by rw[r.o];simp,?_,U.o,M⟩,by simp[intOf];omega⟩;rw[r.o,List.length_append];exact L
    .rw[Zt Yu]at q |-;go_wp2;go_ret;exact⟨_,_,rfl,q.o,n⟩
def DK:Zj:=[Zf,Zf,Zf,Zf,Zf,Zc,Zc,Zc,Zf,Zc,Zc,Zf,Zf,Zf,Zc]
theorem FE{g i j k l m n o p q a c d f:Value}(h:Aa w b [g,i,j,k,l,m,n,o,p,q,a,c,d,e,f]):(w.cell? (Ze b 0)=some g/\w.frozen? ⟨b,0,none⟩=false)/\(w.cell? (Ze b 1)=some i/\w.frozen? ⟨b,1,none⟩=false)/\(w.cell? (Ze b 2)=some j/\w.frozen? ⟨b,2,none⟩=false)/\(w.cell? (Ze b 3)=some k/\w.frozen? ⟨b,3,none⟩=false)/\(w.cell? (Ze b 4)=some l/\w.frozen? ⟨b,4,none⟩=false)/\(w.cell? (Ze b 5)=some m/\w.frozen? ⟨b,5,none⟩=false)/\(w.cell? (Ze b 6)=some n/\w.frozen? ⟨b,6,none⟩=false)/\(w.cell? (Ze b 7)=some o/\w.frozen? ⟨b,7,none⟩=false)/\(w.cell? (Ze b 8)=some p/\w.frozen? ⟨b,8,none⟩=false)/\(w.cell? (Ze b 9)=some q/\w.frozen? ⟨b,9,none⟩=false)/\(w.cell? (Ze b 10)=some a/\w.frozen? ⟨b,10,none⟩=false)/\(w.cell? (Ze b 11)=some c/\w.frozen? ⟨b,11,none⟩=false)/\(w.cell? (Ze b 12)=some d/\w.frozen? ⟨b,12,none⟩=false)/\(w.cell? (Ze b 13)=some e/\w.frozen? ⟨b,13,none⟩=false)/\(w.cell? (Ze b 14)=some f/\w.frozen? ⟨b,14,none⟩=false):=
 ⟨h 0 _ rfl,h 1 _ rfl,h 2 _ rfl,h 3 _ rfl,h 4 _ rfl,h 5 _ rfl,h 6 _ rfl,h 7 _ rfl,h 8 _ rfl,h 9 _ rfl,h 10 _ rfl,h 11 _ rfl,h 12 _ rfl,h 13 _ rfl,h 14 _ rfl⟩
theorem JU(w:Zh)(R:Nat)(f g h i j k l m n o a b c d e:Value):Tn [R] w (((((((((((((((w.setCell (Ze R 0) f).setCell (Ze R 1) g).setCell (Ze R 2) h).setCell (Ze R 3) i).setCell (Ze R 4) j).setCell (Ze R 5) k).setCell (Ze R 6) l).setCell (Ze R 7) m).setCell (Ze R 8) n).setCell (Ze R 9) o).setCell (Ze R 10) a).setCell (Ze R 11) b).setCell (Ze R 12) c).setCell (Ze R 13) d).setCell (Ze R 14) e):=
 (((((((((((((((AM w R 0 f).trans (AM _ R 1 g)).trans (AM _ R 2 h)).trans (AM _ R 3 i)).trans (AM _ R 4 j)).trans (AM _ R 5 k)).trans (AM _ R 6 l)).trans (AM _ R 7 m)).trans (AM _ R 8 n)).trans (AM _ R 9 o)).trans (AM _ R 10 a)).trans (AM _ R 11 b)).trans (AM _ R 12 c)).trans (AM _ R 13 d)).trans (AM _ R 14 e))
def fresh(ms rs:Zl):Zl:=rs.filter (fun r=> !(ms.any (fun x=>decide (x=r))))
def JV(ks:List Kd)(s:Zi)(qs ms qs' ms':Zl):Prop:=
 ((¬Av ks s\/s∈ms)/\qs'=qs/\ms'=ms)\/∃k∈ks,k.sum=s/\s∉ms/\ms'=ms++[s]/\qs'=qs++fresh (ms++[s]) k.B
theorem LY{ms a:Zl}{k:Nat}{x:Zi}(c:a[k]?=some x):(x∈ms->fresh ms (a.take (k+1))=fresh ms (a.take k))/\(x∉ms->fresh ms (a.take (k+1))=fresh ms (a.take k)++[x]):=by
 obtain⟨h,rfl⟩:=Zw c;unfold fresh;rw[Zu h,List.filter_append];refine⟨fun b=> ?_,fun b=> ?_⟩
 .have:(ms.any (fun x=>decide (x=a[k])))=true:=by simpa using b
  simp[this]
 .have:(ms.any (fun x=>decide (x=a[k])))=false:=by simp;exact fun x c e=>b (e▸c)
  simp[this]
def Gs(ks:List Kd)(at_:Int)(u:Kd):Prop:=u∈ks/\u.born<at_/\∀y∈ks,y.born<at_->y.born<=u.born
structure UR where
 A:List Kd
 H:Int
 K:Int
 J:Int
 ro:Int
 D:Zl
 ms:Zl
 L:Zl
inductive UTo (ks:List Kd) (ps:List Pd) (ls:List Ld) (births ph top at_ ro:Int) (qs ms:Zl):UR->Prop
 |begin (h:ph=0):UTo ks ps ls births ph top at_ ro qs ms ⟨ks,1,births,births+1,ro,CI ps ls,ms,[]⟩
 |mark (h:ph≠0) (s:Zi) (q0 qs' ms':Zl) (hq:qs=s::q0) (hm:JV ks s q0 ms qs' ms'):UTo ks ps ls births ph top at_ ro qs ms ⟨ks,ph,top,at_,ro,qs',ms',[]⟩
 |rest (h:ph≠0) (hq:qs=[]) (hn:∀y∈ks,¬y.born<at_):UTo ks ps ls births ph top at_ ro qs ms ⟨ks,0,0,0,ro+1,[],[],[]⟩
 |ah (h:ph≠0) (hq:qs=[]) (u:Kd) (hu:Gs ks at_ u) (hk:u.sum∈ms\/CV ps ls ks u.sum):UTo ks ps ls births ph top at_ ro qs ms ⟨ks,2,top,u.born,ro,[],ms,[]⟩
 |drop (h:ph≠0) (hq:qs=[]) (u:Kd) (hu:Gs ks at_ u) (hm:u.sum∉ms) (hk:¬CV ps ls ks u.sum):UTo ks ps ls births ph top at_ ro qs ms ⟨CB ks u.sum,2,top,u.born,ro,[],ms,[u.sum]⟩
structure XI (wd births:Int) (ks:List Kd) (ps:List Pd) (ls:List Ld) (ph ro:Int) (qs ms:Zl):Prop where
 ok:Dj wd ks
 born:∀k∈ks,1<=k.born
 B:∀k∈ks,k.B.length<=30/\∀r∈k.B,(r.size:Int)=wd
 pl:ps.length<=100
 ll:ls.length<=200
 fx:∀p∈ps,(p.sum.size:Int)=wd
 gl:∀l∈ls,(l.sum.size:Int)=wd
 b0:0<=births
 b1:births<=1000000000
 jc:ph=0\/ph=1\/ph=2
 r0:0<=ro
 r1:ro<=1000000000
 je:∀x∈qs,(x.size:Int)=wd
 gu:∀x∈ms,(x.size:Int)=wd
 ql:qs.length<=1048576
 ml:ms.length<=1048576
theorem UTo.sub{a g c k:Int}{b:List Kd}{i:List Pd}{e:List Ld}{r:UR}(h:UTo b i e a g d c k j f r):r.A.Sublist b:=by
 cases h with
 |begin h=>exact List.Sublist.refl _
 |mark h s q0 q1 m1 hq hm=>exact List.Sublist.refl _
 |rest h hq hn=>exact List.Sublist.refl _
 |ah h hq u hu hk=>exact List.Sublist.refl _
 |drop h hq u hu hm hk=>exact List.filter_sublist
theorem JV.cj{b:List Kd}{g h d:Zl}(l:(b.map (·.sum)).Nodup)(m:JV b s j g h d)(n:JV b s j g i f):h=i/\d=f:=by
 rcases m with⟨a,rfl,rfl⟩|⟨k,c,e,o,rfl,rfl⟩<;>rcases n with⟨a',rfl,rfl⟩|⟨k',hk',e',hn',rfl,rfl⟩
 .exact⟨rfl,rfl⟩
 .rcases a with a|a
  .exact absurd ⟨k',hk',e'⟩ a
  .exact absurd a hn'
 .rcases a' with a|a
  .exact absurd ⟨k,c,e⟩ a
  .exact absurd a o
 .rw[Gb l c hk' (e.trans e'.symm)];exact⟨rfl,rfl⟩
theorem UTo.cj{c j g e o:Int}{d:List Kd}{k:List Pd}{h:List Ld}{m n:UR}(q:∀x∈d,∀y∈d,x.born=y.born->x=y)(p:(d.map (·.sum)).Nodup)(b:UTo d k h c j g e o l i m)(a:UTo d k h c j g e o l i n):m=n:=by
 have f:∀{u v:Kd},Gs d e u->Gs d e v->u=v:=fun {u v} hu hv=>q _ hu.1 _ hv.1 (by have:=hu.2.2 v hv.1 hv.2.1;have:=hv.2.2 u hu.1 hu.2.1;omega);cases b with
 |begin b=>
  cases a with
  |begin a=>rfl
  |mark a s2 q02 qs12 ms12 hq2 hm2=>exact absurd b a
  |rest a hq2 hn2=>exact absurd b a
  |ah a hq2 u2 hu2 hk2=>exact absurd b a
  |drop a hq2 u2 hu2 hm2 hk2=>exact absurd b a
 |mark b s1 q01 qs11 ms11 hq1 hm1=>
  cases a with
  |begin a=>exact absurd a b
  |mark a s2 q02 qs12 ms12 hq2 hm2=>rw[hq1]at hq2;cases hq2;obtain⟨rfl,rfl⟩:=hm1.cj p hm2;rfl
  |rest a hq2 hn2=>rw[hq1]at hq2;cases hq2
  |ah a hq2 u2 hu2 hk2=>rw[hq1]at hq2;cases hq2
  |drop a hq2 u2 hu2 hm2 hk2=>rw[hq1]at hq2;cases hq2
 |rest b hq1 hn1=>
  cases a with
  |begin a=>exact absurd a b
  |mark a s2 q02 qs12 ms12 hq2 hm2=>rw[hq1]at hq2;cases hq2
  |rest a hq2 hn2=>rfl
  |ah a hq2 u2 hu2 hk2=>exact absurd hu2.2.1 (hn1 _ hu2.1)
  |drop a hq2 u2 hu2 hm2 hk2=>exact absurd hu2.2.1 (hn1 _ hu2.1)
 |ah b hq1 u1 hu1 hk1=>
  cases a with
  |begin a=>exact absurd a b
  |mark a s2 q02 qs12 ms12 hq2 hm2=>rw[hq1]at hq2;cases hq2
  |rest a hq2 hn2=>exact absurd hu1.2.1 (hn2 _ hu1.1)
  |ah a hq2 u2 hu2 hk2=>cases f hu1 hu2;rfl
  |drop a hq2 u2 hu2 hm2 hk2=>cases f hu1 hu2;exact(hk1.elim hm2 hk2).elim
 |drop b hq1 u1 hu1 hm1 hk1=>
  cases a with
  |begin a=>exact absurd a b
  |mark a s2 q02 qs12 ms12 hq2 hm2=>rw[hq1]at hq2;cases hq2
  |rest a hq2 hn2=>exact absurd hu1.2.1 (hn2 _ hu1.1)
  |ah a hq2 u2 hu2 hk2=>cases f hu1 hu2;exact(hk2.elim hm1 hk1).elim
  |drop a hq2 u2 hu2 hm2 hk2=>cases f hu1 hu2;rfl
def Dt(ks:List Kd)(at_:Int)(r:Int):Prop:=
 (r= -1/\∀y∈ks,¬y.born<at_)\/∃(i:Nat) (k:Kd),r=i/\ks[i]?=some k/\k.born<at_/\∀y∈ks,y.born<at_->y.born<=k.born
theorem Dt.snoc{e:List Kd}{r:Int}{x:Kd}(h:Dt e d r):(¬x.born<d->Dt (e++[x]) d r)/\(x.born<d->r= -1->Dt (e++[x]) d e.length)/\(∀(i:Nat) (k:Kd),x.born<d->r=i->e[i]?=some k->(k.born<x.born->Dt (e++[x]) d e.length)/\(¬k.born<x.born->Dt (e++[x]) d r)):=by
 refine⟨fun g=> ?_,fun g p=> ?_,fun i k g p n=>⟨fun o=> ?_,fun o=> ?_⟩⟩
 .rcases h with⟨f,c⟩|⟨i,k,f,c,m,l⟩
  .refine .inl ⟨f,fun y a=> ?_⟩;rcases List.mem_append.1 a with a|a
   .exact c y a
   .simp at a;rw[a];exact g
  .refine .inr ⟨i,k,f,?_,m,fun y a b=> ?_⟩
   .rw[List.getElem?_append_left (Zw c).1];exact c
   .rcases List.mem_append.1 a with a|a
    .exact l y a b
    .simp at a;rw[a]at b;exact absurd b g
 .rcases h with⟨_,c⟩|⟨i,k,f,_⟩
  .refine .inr ⟨e.length,x,rfl,Yv,g,fun y a b=> ?_⟩;rcases List.mem_append.1 a with a|a
   .exact absurd b (c y a)
   .simp at a;rw[a];omega
  .omega
 .rcases h with⟨f,_⟩|⟨j,q,f,c,m,l⟩
  .omega
  .obtain rfl:i=j:=Yw
   rw[n]at c;cases c;refine .inr ⟨e.length,x,rfl,Yv,g,fun y a b=> ?_⟩;rcases List.mem_append.1 a with a|a
   .have:=l y a b;omega
   .simp at a;rw[a];omega
 .rcases h with⟨f,_⟩|⟨j,q,f,c,m,l⟩
  .omega
  .obtain rfl:i=j:=Yw
   rw[n]at c;cases c;refine .inr ⟨i,k,f,?_,m,fun y a b=> ?_⟩
   .rw[List.getElem?_append_left (Zw n).1];exact n
   .rcases List.mem_append.1 a with a|a
    .exact l y a b
    .simp at a;rw[a];omega
theorem SE(I u g d j:Int)(a:Zk)(F:Nat)(P L:Value)(c:List Kd)(w:Zh)(p:By w w.heap.size a c)(hl:c.length<=1000):
 Calls prog 52 #[.agg #[Zg I,Zg u,Zg g,Zg d,.slice a c.length F,P,L],Zg j] w fun e w'=>∃r:Int,e=.returned (Zg r)/\Dt c j r/\Zz w w':=by
 have V:=Yx p;have n:=AZ.new w I u g d (.slice a c.length F) P L 40;have D:Below w.heap.size w (w.alloc (.cells #[Zg I,Zg u,Zg g,Zg d,.slice a c.length F,P,L] 40)):=Zy;obtain⟨W,Q⟩:∃W,W=w.alloc (.cells #[Zg I,Zg u,Zg g,Zg d,.slice a c.length F,P,L] 40):=⟨_,rfl⟩;rw[<-Q]at n D;have T:=Yx Q;have HX:=Yx n;have zA:w.heap.size<W.heap.size:=n.2.2.2.2.2.2.2;clear p Q n;go_enter func52,ntmps52
 go_upto_region 1 with fail;rw[<-T.o];clear T;go_wp2
 go_loopw [5,6] (fun v i wr=>∃(k:Nat) (r:Int),k<=c.length/\i=Zg k/\v=Zg r/\Hid (Dt (c.take k) j r/\Zz W wr)) (fun _ i _=>c.length -(intOf i).toNat)
 case atStart=>exact⟨0, -1,Nat.zero_le _,rfl,rfl,.inl ⟨rfl,(fun y o=>by simp at o)⟩,Below.refl _ _⟩
 case round=>
  obtain⟨k,r,hk,rfl,rfl,z⟩:=hrel;have f:=z.o.2;have t:=f.size;have J:Below w.heap.size w wr:=D.trans (f.mono D.size);obtain⟨_,_,_,_,B,_,_,_⟩:=AZ.below HX.o f;by_cases hlt:k<c.length
  .obtain⟨b,zB,ha,hb,R⟩:=(By.below V.o J).at hlt;subst ha;have HG:Hid (c[k]?=some c[k]):=Zv hlt;obtain⟨_,A,_⟩:=R k _ HG.o;have K:b<wr.heap.size:=Yw
   have M:(c.take k).length=k:=by rw[List.length_take];omega
   have E:Hid (c.take (k+1)=c.take k++[c[k]]):=Zu hlt;have H:=Ar.cell B (show w.heap.size<wr.heap.size by omega);have G:=Ar.cell A K;have s:=Ar.ne wr;have S:=Yx R;have HN:=Yx (Dt.snoc (x:=c[k]) z.o.1);clear R;generalize c[k]=x at *
   by_cases n:x.born<j
   .have d1:decide (x.born<j)=true:=by simpa using n
    by_cases hr:r<0
    .have d2:decide (r<0)=true:=by simpa using hr
     have Y:r= -1:=by
      rcases z.o.1 with⟨h,_⟩|⟨i,_,h,_⟩
      .exact h
      .omega
     have l:=HN.o.2.1 n Y;rw[M]at l;have q:Hid (Dt (c.take k++[x]) j (k:Int)):=l;clear l;clear HN;go_wp2;refine Au Yt Yt ?_
     repeat (go_big_quiet_step (fail))
     refine wpQuiet_nil ?_;intro m;clear H G s A B;go_wp2;exact⟨⟨k+1,k,Yw,Yp,rfl,⟨by rw[E.o];exact q.o,f.trans (m.h.mono t)⟩⟩,by simp[intOf];omega⟩
    .have d2:decide (r<0)=false:=by simpa using hr
     obtain⟨i,y,rfl,o,_⟩:∃(i:Nat) (y:Kd),r=i/\(c.take k)[i]?=some y/\True:=by
      rcases z.o.1 with⟨h,_⟩|⟨i,y,h1,h2,_⟩
      .omega
      .exact⟨i,y,h1,h2,trivial⟩
     have X:i<k:=by have:=(Zw o).1;omega
     have N:c[i]?=some y:=by rw[List.getElem?_take_of_lt X]at o;exact o
     obtain⟨_,O,_⟩:=S.o i y N;have U:=Ar.cell O K;have l:=HN.o.2.2 i y n rfl o;rw[M]at l;have q:=Yx l;clear l;clear HN o N S;by_cases hg:y.born<x.born
     .have d3:decide (y.born<x.born)=true:=by simpa using hg
      go_wp2;refine Au Yt Yt ?_
      repeat (go_big_quiet_step (fail))
      refine wpQuiet_nil ?_;intro m;clear H G U s A B O;go_wp2;exact⟨⟨k+1,k,Yw,Yp,rfl,⟨by rw[E.o];exact q.o.1 hg,f.trans (m.h.mono t)⟩⟩,by simp[intOf];omega⟩
     .have d3:decide (y.born<x.born)=false:=by simpa using hg
      go_wp2;refine Au Yt Yt ?_
      repeat (go_big_quiet_step (fail))
      refine wpQuiet_nil ?_;intro m;clear H G U s A B O;go_wp2;exact⟨⟨k+1,i,Yw,Yp,rfl,⟨by rw[E.o];exact q.o.2 hg,f.trans (m.h.mono t)⟩⟩,by simp[intOf];omega⟩
   .have d1:decide (x.born<j)=false:=by simpa using n
    have q:Hid (Dt (c.take k++[x]) j r):=HN.o.1 n;clear HN;go_wp2;refine Au Yt Yt ?_
    repeat (go_big_quiet_step (fail))
    refine wpQuiet_nil ?_;intro m;clear H G s A B;go_wp2;exact⟨⟨k+1,r,Yw,Yp,rfl,⟨by rw[E.o];exact q.o,f.trans (m.h.mono t)⟩⟩,by simp[intOf];omega⟩
  .have C:=z.o.1;rw[Zt Yw]at C;have Z:Hid (Dt c j r):=C;clear C;go_wp2;go_ret;exact⟨r,rfl,Z.o,J⟩
theorem r6{a c d f g:Value}(h:Aa w b [a,c,d,e,f,g]):(w.cell? (Ze b 0)=some a/\w.frozen? ⟨b,0,none⟩=false)/\(w.cell? (Ze b 1)=some c/\w.frozen? ⟨b,1,none⟩=false)/\(w.cell? (Ze b 2)=some d/\w.frozen? ⟨b,2,none⟩=false)/\(w.cell? (Ze b 3)=some e/\w.frozen? ⟨b,3,none⟩=false)/\(w.cell? (Ze b 4)=some f/\w.frozen? ⟨b,4,none⟩=false)/\(w.cell? (Ze b 5)=some g/\w.frozen? ⟨b,5,none⟩=false):=
 ⟨h 0 _ rfl,h 1 _ rfl,h 2 _ rfl,h 3 _ rfl,h 4 _ rfl,h 5 _ rfl⟩
def FT(a:Zk)(n c:Nat):Prop:=n<=c/\(a=none->n=0/\c=0)
theorem Aj.cap{a:Zk}{c:Nat}{ss:Zl}(h:Aj w base (.slice a n c) ss):FT a ss.length c:=by
 rcases h with⟨e,rfl⟩|⟨g,b,cap,e,_,_,h,_⟩
 .cases e;exact⟨Zx,fun _=>⟨rfl,rfl⟩⟩
 .cases e;exact⟨h,fun e=>by cases e⟩
def Lt(w:Zh)(a:Zk):Prop:=∀p,a=some p->p.block<w.heap.size
theorem Lt.mono{b:Zh}{a:Zk}(h:Lt w a)(c:w.heap.size<=b.heap.size):Lt b a:=fun p e=>Zr (h p e) c
theorem Lt.no:Lt w none:=fun _ e=>by cases e
theorem Aj.iw{a:Zk}{c:Nat}{d:Zl}(h:Aj w b (.slice a n c) d):Lt w a:=fun p e=>(h.S (g:=p.block) (by rw[e];rfl)).2
def Du(b:Nat)(x y:Zk)(n:Nat)(a:Zk):Prop:=∀p,a=some p->p.block=b\/(∃q,x=some q/\p.block=q.block)\/(∃q,y=some q/\p.block=q.block)\/n<=p.block
theorem Du.no:Du b x y n none:=fun _ e=>by cases e
theorem Du.new{o:Nat}(h:n<=g):Du b x y n (some ⟨g,o,none⟩):=fun p e=>by cases e;exact .inr (.inr (.inr h))
theorem Du.own{d:Nat}{a:Zk}{c:Nat}(h:Aj w d (.slice a k c) i)(f:n<=d):Du b x y n a:=by intro p e;subst e;exact .inr (.inr (.inr (Zm f (h.S (g:=p.block) rfl).1)))
structure LU (w w':Zh) (e:Ending) (wd now given births:Int) (P L:Value) (ks:List Kd) (ps:List Pd) (ls:List Ld) (ph top at_ ro:Int) (qs ms:Zl) (b0:Nat) (x0 y0:Zk) (zs0:List (Kd×Value)):Prop where
 o:∃(r:UR) (b c:Nat) (zs:List (Kd×Value)) (qa ma da:Zk) (qc mc dc:Nat),e=.returned (.agg #[Zf,Zg wd,Zg now,Zg given,Zg births,.slice (some ⟨b,0,none⟩) zs.length c,P,L,Zg r.H,.slice qa r.D.length qc,.slice ma r.ms.length mc,Zg r.K,Zg r.J,Zg r.ro,.slice da r.L.length dc])/\UTo ks ps ls births ph top at_ ro qs ms r/\zs.map (·.1)=r.A/\Bk w' b 0 zs/\b<w'.heap.size/\Ad w' w'.heap.size qa r.D/\Ad w' w'.heap.size ma r.ms/\Ad w' w'.heap.size da r.L/\(Du b0 x0 y0 w.heap.size (some ⟨b,0,none⟩)/\Du b0 x0 y0 w.heap.size qa/\Du b0 x0 y0 w.heap.size ma/\Du b0 x0 y0 w.heap.size da)/\(∀z∈zs,z∈zs0)/\FT qa r.D.length qc/\FT ma r.ms.length mc/\Lt w' qa/\Lt w' ma
 low:Below w.heap.size w w'
theorem LU.from{X c:Zh}{e:Ending}{q f b a:Int}{P L:Value}{j:List Kd}{n:List Pd}{k:List Ld}{m g p:Int}{o:Zl}{i:Nat}{r s:Zk}{h:List (Kd×Value)}(V:List Nat)(H:∀c,Tn V X c->LU w c e q f b a P L j n k m g d p o l i r s h)(t:Tn V X c):LU w c e q f b a P L j n k m g d p o l i r s h:=H c t
theorem Pv(W:Zh)(a:Zk)(cap:Nat)(b:Zl)(h:Ad W W.heap.size a b)(z:a=none->b.length=0/\cap=0)(E:b.length<=100000000)(m:TypeId):
 ∃x f d,(Builtin.append_ #[22,22] m #[Za W.heap.size 0 0,.slice a b.length cap]).run prog (W.alloc (.cells #[] 9))=.ok (Za x b.length f) d/\d.ownsRow W.heap.size 9 1 (Za x b.length f) b.length (b.map Value.string)/\Zz W d:=by
 obtain⟨o,n,q,r,t⟩:=info_parts Dw;have c:(W.alloc (.cells #[] 9)).ownsRow W.heap.size 9 1 (Za W.heap.size 0 0) 0 (([]:Zl).map Value.string):=World.ownsRow_lit (base:=W.heap.size) (e:=9) (size:=1) W #[] 0 (Zx) Yq rfl;have i:Below W.heap.size W (W.alloc (.cells #[] 9)):=Zy;cases a with
 |none=>obtain⟨v,rfl⟩:=z rfl;have y:=List.eq_nil_of_length_eq_zero v;subst y;exact⟨_,_,_,run_append_owned_none (P:=prog) (W.alloc (.cells #[] 9)) W.heap.size 22 m 9 o 1 underlying22 n _ 0 _ c,c,i⟩
 |some A=>
 obtain⟨F,d,D,l,p,C⟩:=run_append_own (P:=prog) (w:=W.alloc (.cells #[] 9)) W.heap.size 22 m 9 o Zd 1 16 underlying22 n q r t rfl Ys _ 0 _ c A b.length cap (b.map Value.string) Yv (fun j u hu=>by
  rw[List.getElem?_map]at hu;cases hs:b[j]? with
  |none=>rw[hs]at hu;cases hu
  |some s=>
   rw[hs]at hu;cases hu;exact(h.below i).bj A rfl j s hs) (Rt b) Yq Yw Yv
 simp only[Nat.zero_add,List.map_nil,List.nil_append]at l;obtain⟨x,f,rfl⟩:=On l (fun e=>by have:=C.1 e;cases this.1);have g:(W.alloc (.cells #[] 9)).grownBy d (some W.heap.size):=by simpa [Value.ownBlock]using p
 exact⟨x,f,d,D,l,i.grown g Yv (fun k B=>by cases B;exact Zx)⟩
theorem UK(W:Zh)(a:Zk)(cap:Nat)(b:Zl)(h:Ad W W.heap.size a b)(j:a=none->b.length=0/\cap=0)(k:b.length<=100000000)(e:TypeId):
 ∃x d c,(Builtin.append_ #[22,22] e #[Za W.heap.size 0 0,.slice a b.length cap]).run prog (W.alloc (.cells #[] 9))=.ok (Za x b.length d) c/\Aj c W.heap.size (Za x b.length d) b/\Zz W c:=by
 obtain⟨x,d,c,f,g,i⟩:=Pv W a cap b h j k e;exact⟨x,d,c,f,Aj.own g,i⟩
theorem Pw(q i f d:Int)(b r:Nat)(P L:Value)(j:List (Kd×Value))(o:List Pd)(n:List Ld)(N M:Zk)(pc lc:Nat)(hP:P=.slice N o.length pc)(hL:L=.slice M n.length lc)(y u s:Int)(B m:Zk)(E t:Nat)(A l:Zl)(w:Zh)(S:Bk w b 0 j)(V:b<w.heap.size)(hp:AG w w.heap.size N o)(hl:AI w w.heap.size M n)(hm:Ad w w.heap.size m l)(zA:FT m l.length t)(zE:Lt w m)(zC:o.length<=100)(zB:n.length<=200)(zN:0<=d)(zO:d<=1000000000):
 Calls prog 19 #[.agg #[Zg q,Zg i,Zg f,Zg d,Za b j.length r,P,L],.agg (Ya 0 B A.length E m l.length t y u s)] w fun e w'=>LU w w' e q i f d P L (j.map (·.1)) o n 0 y u s A l b B m j:=by
 obtain⟨W,F⟩:∃W,W=((w.alloc (.cells #[Zg q,Zg i,Zg f,Zg d,Za b j.length r,P,L] 40)).alloc (.cells (Ya 0 B A.length E m l.length t y u s) 41)).alloc (.cells Xt 60):=⟨_,rfl⟩;have R:Below w.heap.size w W:=by rw[F];exact((Zy).alloc Yv _).alloc Yu _
 have Z:W.heap.size=w.heap.size+3:=by rw[F];simp
 have x2:Aa W (w.heap.size+2) DK:=by have I:=Aa.new ((w.alloc (.cells #[Zg q,Zg i,Zg f,Zg d,Za b j.length r,P,L] 40)).alloc (.cells (Ya 0 B A.length E m l.length t y u s) 41)) DK 60;rw[F];simpa [DK]using I
 have x1:Aa W (w.heap.size+1) (Xs 0 B A.length E m l.length t y u s):=by have I:=Aa.new (w.alloc (.cells #[Zg q,Zg i,Zg f,Zg d,Za b j.length r,P,L] 40)) (Xs 0 B A.length E m l.length t y u s) 41;rw[World.size_alloc]at I;rw[F];exact Aa.below I (Zy)
 have x0:Aa W w.heap.size [Zg q,Zg i,Zg f,Zg d,Za b j.length r,P,L]:=by have I:=Aa.new w [Zg q,Zg i,Zg f,Zg d,Za b j.length r,P,L] 40;rw[F];exact Aa.below (Aa.below I (Zy)) (Zy)
 have HW:=Yx F;have zM:Hid (W.heap.size=w.heap.size+3):=Z;have zK:w.heap.size+3<=W.heap.size:=Yw
 clear F Z;obtain⟨k,J⟩:∃k,k=((W.setCell (Ze (w.heap.size+1) 0) (Zg 1)).setCell (Ze (w.heap.size+1) 3) (Zg d)).setCell (Ze (w.heap.size+1) 4) (Zg (d+1)):=⟨_,rfl⟩;have D:Tn [w.heap.size+1] W k:=by rw[J];exact((AM _ _ _ _).trans (AM _ _ _ _)).trans (AM _ _ _ _)
 have zP:W.heap.size<=k.heap.size:=D.size;have h:Below w.heap.size w k:=R.trans (D.below R.size Yv);have u0:Aa k w.heap.size [Zg q,Zg i,Zg f,Zg d,Za b j.length r,P,L]:=Aa.same x0 (D.block _ Yw Yv);have u2:Aa k (w.heap.size+2) DK:=Aa.same x2 (D.block _ Yw Yv)
 have u1:Aa k (w.heap.size+1) (Xs 1 B A.length E m l.length t d (d+1) s):=by rw[J];exact((x1.set 0 _).set 3 _).set 4 _
 have T:=Yx J;have H:=Yx (Zb u0 (Zb u1 u2));have G:=Yx (Zb S (Zb hp (Zb hl hm)));obtain⟨⟨r0,f0⟩,⟨r1,f1⟩,⟨r2,f2⟩,⟨r3,f3⟩,⟨r4,f4⟩,⟨r5,f5⟩⟩:=r6 x1;obtain⟨s3,_⟩:=x0 3 _ rfl;subst hP hL;clear J u0 u1 u2 S hp hl hm x0 x1 x2 D R;go_enter func19,ntmps19;go_upto_region 1 with fail;rw[<-HW.o];clear HW;go_upto_region 5 with fail;rw[<-T.o];clear T r0 r1 r2 r3 r4 r5 f0 f1 f2 f3 f4 f5 s3
 obtain⟨t0,t1,t2,t3,t4,t5,t6⟩:=FX (AR H.o.1);go_wp2_with fail;refine(SD q i f d _ N M pc lc o n k (AG.mono (AG.below G.o.2.1 h) h.size) (AI.mono (AI.below G.o.2.2.1 h) h.size) zC zB).mono ?_;rintro e O ⟨g,c,rfl,Y,x⟩;have k0:=FX (AR (Aa.below H.o.1 x));have k1:=r6 (Aa.below H.o.2.1 x);have k2:=FE (Aa.below H.o.2.2 x);obtain⟨i0,i1,i2,i3,i4,i5,i6⟩:=k0
 obtain⟨⟨r0,f0⟩,⟨r1,f1⟩,⟨r2,f2⟩,⟨r3,f3⟩,⟨r4,f4⟩,⟨r5,f5⟩⟩:=k1;obtain⟨⟨y0,q0⟩,⟨y1,q1⟩,⟨y2,q2⟩,⟨y3,q3⟩,⟨y4,q4⟩,⟨y5,q5⟩,⟨y6,q6⟩,⟨y7,q7⟩,⟨y8,q8⟩,⟨y9,q9⟩,⟨zF,zS⟩,⟨zG,zT⟩,⟨zH,zU⟩,⟨zI,zV⟩,zJ,zW⟩:=k2;have U:Below w.heap.size w O:=h.trans (x.mono h.size);have zR:w.heap.size+3<=O.heap.size:=by have:=x.size;omega
 have K:Hid (Aj O (k.heap.size+1) (Za g (CI o n).length c) (CI o n)):=Aj.own Y;clear Y t0 t1 t2 t3 t4 t5 t6 x;go_wp2;refine bodyPost_ret (v:=.agg #[Zf,Zg q,Zg i,Zg f,Zg d,Za b j.length r,.slice N o.length pc,.slice M n.length lc,Zg 1,Za g (CI o n).length c,.slice m l.length t,Zg d,Zg (d+1),Zg s,Zc]) (by simp[results,results19,go_sem,y0,y1,y2,y3,y4,y5,y6,y7,y8,y9,zF,zG,zH,zI,zJ]) rfl ?_
 have hT:=(AM O (w.heap.size+1) 1 (Za g (CI o n).length c)).mono (V':=[w.heap.size+1,w.heap.size+2]) Yv;refine LU.from (X:=O) [w.heap.size+1,w.heap.size+2] ?_ (hT.trans ((JU _ (w.heap.size+2) _ _ _ _ _ _ _ _ _ _ _ _ _ _ _).mono Yv));intro wf Q;have C:=U.trans (Q.below U.size Yv);obtain⟨a,cc,e1,hS⟩:=(K.o.Y Q (fun g hg e=>by have:=(K.o.S hg).1;simp at e;omega)).row;cases e1
 exact⟨⟨⟨j.map (·.1),1,d,d+1,s,CI o n,l,[]⟩,b,r,j,_,_,none,_,_,0,rfl,.begin rfl,rfl,G.o.1.below C V,Zr V C.size,hS,G.o.2.2.2.j C,.inl rfl,⟨(fun p e=>by cases e;exact .inl rfl),Du.own K.o Yw,(fun p e=> .inr (.inr (.inl ⟨p,e,rfl⟩))),Du.no⟩,fun z S=>S,K.o.cap,zA,K.o.iw.mono Q.size,zE.mono C.size⟩,C⟩
end Go.Proofs.YtcankpdbabaacaaGreatDoor
