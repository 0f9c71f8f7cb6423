import Derived.Test.YtlhhpofjkgmbeaaGreatDoorX23
import Derived.Laws.Tables
set_option maxRecDepth 100000
set_option maxHeartbeats 16000000
namespace Go.Proofs.YtlhhpofjkgmbeaaGreatDoor
open Go.ChangeShapes Go.WideShapes Go.ChangeAt Go.RowKit _root_.Go.Proofs.Tryz
namespace ExactBorrow
theorem walk_gen{D:Type}(To:D->Prop)(RX:Nat->Zh->Zj->Prop)(OX:Nat->Nat->Zh->Zj->Prop)(MX:Nat->Nat->Zh->Zj->Nat->Prop)(RA:D->Nat->Zh->Zj->Prop)(OA:D->Nat->Nat->Zh->Zj->Prop)(MA:D->Nat->Nat->Zh->Zj->Nat->Prop)(zA:Prop)(A:Zj)(s:Zi)(n:Int)(w:Zh)(hA:A.length=17)
 (kX:zA->Iq 17 1000 9 10 RX OX MX) (kA:∀o,To o->Iq 22 1 8 11 (RA o) (OA o) (MA o))
 (hh:∀o,To o->∀(lo N:Nat) (X:Zh) (cs:Zj) (K:Nat),MA o lo N X cs K->Calls prog 12 #[.agg cs.toArray,Zg 1] X fun e d=>e=.returned (Zg K)/\Zz X d)
 (cz:∀o o',To o->To o'->o=o')
 (hz:∀X,Zz w X->Calls prog 4 #[.agg A.toArray,Zg 1048576] X fun e d=>∃r:Int,e=.returned (Zg r)/\Zz X d/\(0<=r->zA))
 (ht:zA->∀X,Zz w X->Calls prog 6 #[.agg A.toArray] X fun e d=>∃cs:Zj,e=.returned (.agg cs.toArray)/\RX d.heap.size d cs/\OX X.heap.size d.heap.size d cs/\Zz X d)
 (hs:zA->s.size<=1048576->∀X cs,Zz w X->RX X.heap.size X cs->Calls prog 5 #[.agg cs.toArray,.string s,Zg n] X fun e d=>∃(o:D) (ds:Zj),e=.returned (.agg ds.toArray)/\To o/\RA o d.heap.size d ds/\Zz X d)
 (hi:zA->s.size<=1048576->∀X cs,Zz w X->RX X.heap.size X cs->Calls prog 7 #[.agg cs.toArray,.string s,Zg n] X fun e d=>∃(o:D) (ds:Zj),e=.returned (.agg ds.toArray)/\To o/\OA o X.heap.size d.heap.size d ds/\Zz X d):
 Calls prog 3 #[.agg A.toArray,.string s,Zg n] w fun e w'=>e=.returned (.bool true)/\Zz w w':=by
 obtain⟨W,hW⟩:∃W,W=w.alloc (.cells A.toArray 33):=⟨_,rfl⟩;have bW:Below w.heap.size w W:=by rw[hW];exact Zy
 have zW:W.heap.size=w.heap.size+1:=by rw[hW];simp
 have xW:Aa W w.heap.size A:=by rw[hW];exact Aa.new w _ _
 have F:Hid (zA->Iq 17 1000 9 10 RX OX MX):=kX;have b:=Yx kA;have HH:=Yx hh;have HD:=Yx cz;have zO:Hid (A.length=17):=hA;have HZ:=Yx hz;have HT:=Yx ht;have HS:=Yx hs;have HI:=Yx hi;have HA:Hid (∀X,Zz W X->Aa X w.heap.size A/\Zz w X):=fun X hX=>⟨Aa.same xW (hX.block _ (by omega)),bW.trans (hX.mono bW.size)⟩;have HW:=Yx hW;clear hW xW kX kA hh cz hz ht hs hi hA;by_cases hlong_s:1048576<s.size
 ·have tD:(1048576:Int)<(s.size:Int):=by omega
  go_enter func3,ntmps3;go_upto_region 1 with fail;rw[←HW.o];go_wp2;go_ret;exact⟨rfl,bW⟩
 have yP:¬(1048576:Int)<(s.size:Int):=by omega
 go_enter func3,ntmps3;go_upto_region 1 with fail;rw[←HW.o];clear HW
 as_aux_lemma=>
 go_wp2_with (refine wpList_load_mid rfl 33 _ rfl w.heap.size 0 rfl A _ (HA.o W (Below.refl _ _)).1.range underlying33 rfl (by rw[zO.o];kernel_rfl) ?_);refine(HZ.o W bW).mono ?_;rintro e w1 ⟨r1,rfl,xQ,xA⟩;have zN:Hid (Zz W w1):=xQ;clear xQ HZ bW;try generalize (.agg A.toArray:Value)=dvA
 by_cases n1:r1<0
 ·clear xA;go_wp2;go_ret;exact⟨rfl,(HA.o w1 zN.o).2⟩
 have hf:=xA (by omega);replace F:Hid (Iq 17 1000 9 10 RX OX MX):=F.o hf;replace HT:=Yx (HT.o hf);replace HS:=Yx (HS.o hf (by omega));replace HI:=Yx (HI.o hf (by omega));clear hf xA
 as_aux_lemma=>
 go_wp2_with (refine wpList_load_mid rfl 33 _ rfl w.heap.size 0 rfl A _ (HA.o w1 zN.o).1.range underlying33 rfl (by rw[zO.o];kernel_rfl) ?_);refine(HT.o w1 (HA.o w1 zN.o).2).mono ?_;rintro e w2 ⟨vG,rfl,xV,_,xR⟩;have yQ:Hid (Zz W w2):=zN.o.trans (xR.mono zN.o.size);have xG:=Yx xV;clear xR xV;try generalize (.agg A.toArray:Value)=dvA
 as_aux_lemma=>
 go_wp2_with fail;refine(HS.o w2 vG (HA.o w2 yQ.o).2 xG.o).mono ?_;rintro e y ⟨o,x,rfl,yN,xC,xS⟩;have yR:Hid (Zz W y):=yQ.o.trans (xS.mono yQ.o.size);have xI:Hid (To o):=yN;replace b:Hid (Iq 22 1 8 11 (RA o) (OA o) (MA o)):=b.o o yN;replace HH:=Yx (HH.o o yN);have vO:=yR.o.size;obtain⟨I,yC⟩:=b.o.dy _ _ _ xC;obtain⟨Q,yV⟩:∃Y,Y=(y.alloc (.cells Yc 45)).setCells y.heap.size 0 x.toArray.toList:=⟨_,rfl⟩
 have zY:=boxed (X:=y) (cs:=x) (z:=Yb) (T:=45) (by rw[I];rfl);have xM:Q=(y.alloc (.cells Yb.toArray 45)).setCells y.heap.size 0 x:=yV;rw[←xM]at zY;obtain⟨vC,yJ,vV⟩:=zY;have p:Hid ((y.alloc (.cells Yc 45)).there y.heap.size 0 x.toArray.size/\x.length=22/\∀u∈x,u.oneCell'=true):=⟨by rw[show x.toArray.size=22 from by rw[List.size_toArray];exact I];exact(Aa.new y Yb 45).there,I,yC⟩;have xJ:=Yx yV
 have zB:Hid (x.length=22):=I;clear yV xM I yC;have zC:Below W.heap.size W Q:=yR.o.trans (yJ.mono yR.o.size);have a:Hid (L1 (RA o) w Q A x y.heap.size Q.heap.size):=⟨(HA.o Q zC).2,(HA.o Q zC).1,vC,b.o.dd _ _ _ _ (b.o.dj _ _ _ _ xC yJ) yJ.size,by omega,by omega,Zx⟩;have tB:Hid (y.heap.size<Q.heap.size):=by show y.heap.size<Q.heap.size;omega
 obtain⟨L,hL⟩:∃L,L=Q.heap.size:=⟨_,rfl⟩;rw[←hL]at a;have yT:Hid (L=Q.heap.size):=hL;clear hL xC yN xS vC yJ zC HS xG HA vO vV
 as_aux_lemma=>
 go_wp2_with (first|refine wpList_load_mid rfl 33 _ rfl w.heap.size 0 rfl A _ a.o.bA.range underlying33 rfl (by rw[zO.o];kernel_rfl) ?_|(refine wpList_store_mid rfl 45 _ _ rfl y.heap.size 0 x.toArray rfl rfl p.o.1 (by rw[List.size_toArray,p.o.2.1];kernel_rfl) (all_oneCell_toArray p.o.2.2) ?_;rw[←xJ.o]));clear xJ p;refine(HT.o Q a.o.cf).mono ?_;rintro e c ⟨j,rfl,xX,xT,yY⟩
 replace a:=Yx (a.o.aj b.o (yY.mono a.o.le));obtain⟨J,yD⟩:=F.o.dy _ _ _ xX;obtain⟨W4,yW⟩:∃Y,Y=(c.alloc (.cells Ya 43)).setCells c.heap.size 0 j.toArray.toList:=⟨_,rfl⟩;have zZ:=boxed (X:=c) (cs:=j) (z:=Xz) (T:=43) (by rw[J];rfl);have xN:W4=(c.alloc (.cells Xz.toArray 43)).setCells c.heap.size 0 j:=yW;rw[←xN]at zZ;obtain⟨vD,yK,vW⟩:=zZ
 have t:Hid ((c.alloc (.cells Ya 43)).there c.heap.size 0 j.toArray.size/\j.length=17/\∀u∈j,u.oneCell'=true):=⟨by rw[show j.toArray.size=17 from by rw[List.size_toArray];exact J];exact(Aa.new c Xz 43).there,J,yD⟩;have xK:=Yx yW;have P:Hid (j.length=17):=J;clear yW xN J yD;have xU:OX L c.heap.size c j:=by rw[yT.o];exact xT
 have m:Hid (L2 OX W4 j L c.heap.size c.heap.size):=⟨vD,F.o.db _ _ _ _ _ xU yK.size (fun q _ h2=>yK.block q h2),Zx,by omega⟩;replace a:=Yx (a.o.aj b.o (yK.mono a.o.le));have vF:Hid (L<=c.heap.size):=by show L<=c.heap.size;rw[yT.o];exact yY.size
 clear xX xT yY vD yK xU yT;try generalize (.agg A.toArray:Value)=dvA
 as_aux_lemma=>
 go_wp2_with (first|refine wpList_load_mid rfl 43 _ rfl c.heap.size 0 rfl j _ m.o.bX.range underlying43 rfl (by rw[P.o];kernel_rfl) ?_|(refine wpList_store_mid rfl 43 _ _ rfl c.heap.size 0 j.toArray rfl rfl t.o.1 (by rw[List.size_toArray,t.o.2.1];kernel_rfl) (all_oneCell_toArray t.o.2.2) ?_;rw[←xK.o]));clear xK t;refine(HI.o W4 j a.o.cf (F.o.ga _ _ _ _ m.o.oX).2).mono ?_
 rintro e i ⟨o5,g,rfl,yH,xB,yL⟩;obtain rfl:=HD.o o o5 xI.o yH;replace a:=Yx (a.o.aj b.o (yL.mono a.o.le));replace m:=Yx (m.o.aj F.o yL);have xY:=(b.o.ga _ _ _ _ xB).2;obtain⟨M,yE⟩:=b.o.dy _ _ _ xY;obtain⟨W5,yX⟩:∃Y,Y=(i.alloc (.cells Yc 45)).setCells i.heap.size 0 g.toArray.toList:=⟨_,rfl⟩;have yA:=boxed (X:=i) (cs:=g) (z:=Yb) (T:=45) (by rw[M];rfl)
 have xO:W5=(i.alloc (.cells Yb.toArray 45)).setCells i.heap.size 0 g:=yX;rw[←xO]at yA;obtain⟨vE,zR,vX⟩:=yA;have v:Hid ((i.alloc (.cells Yc 45)).there i.heap.size 0 g.toArray.size/\g.length=22/\∀u∈g,u.oneCell'=true):=⟨by rw[show g.toArray.size=22 from by rw[List.size_toArray];exact M];exact(Aa.new i Yb 45).there,M,yE⟩;have xL:=Yx yX;have G:Hid (g.length=22):=M;clear yX xO M yE
 have l:Hid (L3 (OA o) W5 g W4.heap.size i.heap.size i.heap.size):=⟨vE,b.o.db _ _ _ _ _ xB zR.size (fun q _ h2=>zR.block q h2),Zx,by omega⟩;replace a:=Yx (a.o.aj b.o (zR.mono a.o.le));replace m:=Yx (m.o.aj F.o zR);have yS:Hid (c.heap.size<W4.heap.size/\W4.heap.size<=i.heap.size):=by refine⟨?_,yL.size⟩;show c.heap.size<W4.heap.size;omega
 clear yH xB yL xY vE zR vW vX
 as_aux_lemma=>
 go_wp2_with (first|refine wpList_load_mid rfl 45 _ rfl i.heap.size 0 rfl g _ l.o.bG.range underlying45 rfl (by rw[G.o];kernel_rfl) ?_|refine wpList_load_mid rfl 45 _ rfl y.heap.size 0 rfl x _ a.o.bS.range underlying45 rfl (by rw[zB.o];kernel_rfl) ?_|(refine wpList_store_mid rfl 45 _ _ rfl i.heap.size 0 g.toArray rfl rfl v.o.1 (by rw[List.size_toArray,v.o.2.1];kernel_rfl) (all_oneCell_toArray v.o.2.2) ?_;rw[←xL.o]))
 clear xL v;refine(b.o.eq W5 g x (b.o.ga _ _ _ _ l.o.oG).2 (b.o.dd _ _ _ _ a.o.rS a.o.le)).mono ?_;rintro e R ⟨rfl,yM⟩;replace a:=Yx (a.o.aj b.o (yM.mono a.o.le));replace m:=Yx (m.o.aj F.o yM);replace l:=Yx (l.o.aj b.o.db yM);clear yM
 as_aux_lemma=>
 go_upto_region 12 with fail;go_cut [42] (fun u wx=>u=.bool false/\Hid (Zz R wx))
 case first=>
  have yU:Hid (∀X,Zz R X->Aa X c.heap.size j/\Aa X w.heap.size A):=fun X hX=>⟨Aa.same m.o.bX (hX.block _ m.o.le),Aa.same a.o.bA (hX.block _ (by have:=a.o.l0;have:=a.o.le;omega))⟩;refine wp_region_held_drew (S:=fun X=>Aa X c.heap.size j/\Aa X w.heap.size A) (by kernel_rfl) (yU.o _ (Below.refl _ _).drew) (fun hS=> ?_)
  refine Et 0 ⟨some 38,.load 43 (.tmp 9),43, "exact.go:1981",#[],none⟩ (.agg j.toArray) (by exact yieldsIf_load_mid (by rfl) 43 _ rfl c.heap.size 0 rfl j _ (fun X h=>h.1.range) underlying43 rfl (by rw[P.o];kernel_rfl)) (by exact hS) ?_;try simp only[Act.put,Zq,Zp,Zo]
  refine Et 1 ⟨some 39,.load 33 (.tmp 3),33, "exact.go:1981",#[],none⟩ (.agg A.toArray) (by exact yieldsIf_load_mid (by rfl) 33 _ rfl w.heap.size 0 rfl A _ (fun X h=>h.2.range) underlying33 rfl (by rw[zO.o];kernel_rfl)) (by exact hS) ?_;try simp only[Act.put,Zq,Zp,Zo]
  refine Br 2 ⟨some 40,.call {callee:=Callee.value (.func 6),args:= #[.tmp 39],argTypes:= #[33]},43, "exact.go:1981",#[Al 1],none⟩ (fun K hK=> ?_);go_simp;refine(HT.o R.drew a.o.cf.drew).mono ?_;rintro e w7 ⟨yc,rfl,vM,_,vJ⟩;have zS:Below R.heap.size R w7:=(Below.refl R.heap.size R).drew.trans vJ;try go_simp
  refine hK.out _ _ (yU.o w7 zS) (fun tC=> ?_);clear hK K;try simp only[Act.put,Zq,Zp,Zo]
  refine Br 3 ⟨some 41,.call {callee:=Callee.value (.func 9),args:= #[.tmp 38,.tmp 40],argTypes:= #[43,43]},4, "exact.go:1981",#[Al 0,Al 2,⟨2,.chain⟩],none⟩ (fun K hK=> ?_);go_simp;refine(F.o.eq w7 j yc (F.o.dd _ _ _ _ (F.o.dj _ _ _ _ (F.o.ga _ _ _ _ m.o.oX).2 zS) zS.size) vM).mono ?_;rintro e w8 ⟨rfl,vK⟩;have xP:Below R.heap.size R w8:=zS.trans (vK.mono zS.size);try go_simp
  refine hK.out _ _ (yU.o w8 xP) (fun vI=> ?_);clear hK K;try simp only[Act.put,Zq,Zp,Zo]
  refine Bq 4 ⟨some 42,.unOp .not 4 (.tmp 41),4, "exact.go:1981",#[Al 3],none⟩ (.bool false) (by exact vI) ?_;try simp only[Act.put,Zq,Zp,Zo]
  refine wpAnyH_done (by kernel_rfl) ?_ _;go_wp2_with fail;go_meet;exact⟨rfl,xP⟩
 case rest=>
  obtain⟨rfl,HE⟩:=hcut;revert wc;intro w8 HE;replace a:=Yx (a.o.aj b.o (HE.o.mono a.o.le));replace m:=Yx (m.o.aj F.o HE.o);replace l:=Yx (l.o.aj b.o.db HE.o);clear HE
  as_aux_lemma=>
  go_wp2_with (refine wpList_load_mid rfl 43 _ rfl c.heap.size 0 rfl j _ m.o.bX.range underlying43 rfl (by rw[P.o];kernel_rfl) ?_);refine(F.o.mark L c.heap.size w8 j 1 m.o.oX (by omega) (by omega)).mono ?_;rintro e w9 ⟨⟨K9,rfl,vH,_,_⟩,yZ,xZ⟩;have vL:¬((K9:Int)<0):=by omega
  replace a:=Yx (a.o.aj b.o yZ);replace l:=Yx (l.o.stays (B:=c.heap.size) b.o.db (by have:=yS.o;omega) (by have:=yS.o;omega) yZ.size xZ);clear yZ xZ m P F
  as_aux_lemma=>
  go_wp2_with (first|refine GZ (by rfl) 45 _ rfl i.heap.size 0 rfl g _ l.o.bG.range underlying45 rfl (by rw[G.o];kernel_rfl) ?_|refine GZ (by rfl) 45 _ rfl y.heap.size 0 rfl x _ a.o.bS.range underlying45 rfl (by rw[zB.o];kernel_rfl) ?_);refine(b.o.eq w9 g x (b.o.ga _ _ _ _ l.o.oG).2 (b.o.dd _ _ _ _ a.o.rS a.o.le)).mono ?_;rintro e vQ ⟨rfl,zF⟩;replace a:=Yx (a.o.aj b.o (zF.mono a.o.le))
  replace l:=Yx (l.o.aj b.o.db zF);clear zF
  as_aux_lemma=>
  go_wp2_with (refine wpList_load_mid rfl 45 _ rfl i.heap.size 0 rfl g _ l.o.bG.range underlying45 rfl (by rw[G.o];kernel_rfl) ?_);refine(b.o.mark W4.heap.size i.heap.size vQ g 1 l.o.oG (by omega) (by omega)).mono ?_;rintro e vA ⟨⟨K,rfl,hK,_,hM⟩,zG,yG⟩;have tA:¬((K:Int)<0):=by omega
  replace a:=Yx (a.o.aj b.o (zG.mono (by have:=vF.o;have:=yS.o;omega)));have E:Hid (L3 (fun lo N X cs=>MA o lo N X cs K) vA g W4.heap.size i.heap.size i.heap.size):=⟨Aa.same l.o.bG (yG _ (Zx) l.o.le),hM,Zx,Zr l.o.le zG.size⟩
  have KM:Hid (∀(lo N:Nat) (X d:Zh) (cs:Zj),MA o lo N X cs K->X.heap.size<=d.heap.size->(∀q,lo<=q->q<N->d.heap[q]?=X.heap[q]?)->MA o lo N d cs K):=fun lo N X d cs=>b.o.gi lo N X d cs K;clear hM zG yG l vH vL
  as_aux_lemma=>
  go_wp2_with (refine wpList_load_mid rfl 45 _ rfl i.heap.size 0 rfl g _ E.o.bG.range underlying45 rfl (by rw[G.o];kernel_rfl) ?_);refine(HH.o _ _ vA g K E.o.oG).mono ?_;rintro e vR ⟨rfl,zH⟩;replace a:=Yx (a.o.aj b.o (zH.mono a.o.le));replace E:=Yx (E.o.aj KM.o zH);clear zH
  as_aux_lemma=>
  go_wp2_with (refine wpList_load_mid rfl 33 _ rfl w.heap.size 0 rfl A _ a.o.bA.range underlying33 rfl (by rw[zO.o];kernel_rfl) ?_);refine(HT.o vR a.o.cf).mono ?_;rintro e vS ⟨zc,rfl,yF,_,zI⟩;replace a:=Yx (a.o.aj b.o (zI.mono a.o.le));replace E:=Yx (E.o.aj KM.o zI);have zT:=Yx yF;clear zI yF;try generalize (.agg A.toArray:Value)=dvA
  as_aux_lemma=>
  go_wp2_with fail;refine(HI.o vS zc a.o.cf zT.o).mono ?_;rintro e C ⟨vP,O,rfl,Z,yB,zJ⟩;obtain rfl:=HD.o o vP xI.o Z;replace a:=Yx (a.o.aj b.o (zJ.mono a.o.le));replace E:=Yx (E.o.aj KM.o zJ);have zM:=(b.o.ga _ _ _ _ yB).2;obtain⟨k,V⟩:=b.o.dy _ _ _ zM;obtain⟨zP,zE⟩:∃Y,Y=(C.alloc (.cells Yc 45)).setCells C.heap.size 0 O.toArray.toList:=⟨_,rfl⟩
  have U:=boxed (X:=C) (cs:=O) (z:=Yb) (T:=45) (by rw[k];rfl);have zV:zP=(C.alloc (.cells Yb.toArray 45)).setCells C.heap.size 0 O:=zE;rw[←zV]at U;obtain⟨yI,H,xE⟩:=U;have f:Hid ((C.alloc (.cells Yc 45)).there C.heap.size 0 O.toArray.size/\O.length=22/\∀u∈O,u.oneCell'=true):=⟨by rw[show O.toArray.size=22 from by rw[List.size_toArray];exact k];exact(Aa.new C Yb 45).there,k,V⟩;have zU:=Yx zE
  have yO:Hid (O.length=22):=k;clear zE zV k V;have xH:Hid (RA o zP.heap.size zP O):=b.o.dd _ _ _ _ (b.o.dj _ _ _ _ zM H) H.size;replace a:=Yx (a.o.aj b.o (H.mono a.o.le));replace E:=Yx (E.o.aj KM.o H);have xF:Hid (Aa zP C.heap.size O):=yI;clear Z yB zJ zM yI H xE zT HT HI
  as_aux_lemma=>
  go_wp2_with (first|refine wpList_load_mid rfl 45 _ rfl C.heap.size 0 rfl O _ xF.o.range underlying45 rfl (by rw[yO.o];kernel_rfl) ?_|refine wpList_load_mid rfl 45 _ rfl y.heap.size 0 rfl x _ a.o.bS.range underlying45 rfl (by rw[zB.o];kernel_rfl) ?_|(refine wpList_store_mid rfl 45 _ _ rfl C.heap.size 0 O.toArray rfl rfl f.o.1 (by rw[List.size_toArray,f.o.2.1];kernel_rfl) (all_oneCell_toArray f.o.2.2) ?_;rw[←zU.o]))
  clear zU f;refine(b.o.eq zP O x xH.o (b.o.dd _ _ _ _ a.o.rS a.o.le)).mono ?_;rintro e vT ⟨rfl,zK⟩;replace a:=Yx (a.o.aj b.o (zK.mono a.o.le));replace E:=Yx (E.o.aj KM.o zK);clear zK xH xF
  as_aux_lemma=>
  go_wp2_with (refine wpList_load_mid rfl 45 _ rfl i.heap.size 0 rfl g _ E.o.bG.range underlying45 rfl (by rw[G.o];kernel_rfl) ?_);refine(HH.o _ _ vT g K E.o.oG).mono ?_;rintro e vU ⟨rfl,zX⟩;have xD:Hid (Zz w vU):=a.o.cf.trans (zX.mono a.o.cf.size);clear zX a E;go_wp2;go_ret;exact⟨rfl,xD.o⟩
end ExactBorrow
theorem Gm{P:Program}{c:Array Oper}{rest:List Oper}{b:Oper}{a:Act}{w:Zh}{Q:Exit->Act->Zh->Prop}(f:b.guard=none)(t:TypeId)(parts:Array (Nat×Operand))(g:b.op=.build t parts)(l:List (Nat×Value))(e:(parts.map fun(i,x)=>(i,a.eval x)).toList=l)(cells:Array Value)(d:P.built t l=some cells)(h:wpList P c Q rest (a.put b.dst (.agg cells)) w):wpList P c Q (b::rest) a w:=
 wpList_build f t parts g (by rw[e,d];rfl) (by rw[e,d];exact h)
theorem Ll{s:Zj}(h:s.length=17):∃i j k l m n o p q r a b c d e f g,s=[i,j,k,l,m,n,o,p,q,r,a,b,c,d,e,f,g]:=by
 match s,h with
 |[i,j,k,l,m,n,o,p,q,r,a,b,c,d,e,f,g],_=>exact⟨i,j,k,l,m,n,o,p,q,r,a,b,c,d,e,f,g,rfl⟩
theorem My{a:Zj}(h:a.length=17)(s:Zi)(n:Int):prog.built 45 [(1,.agg a.toArray),(2,.string s),(3,Zg n)]=some (Zg 0::(a++[.string s,Zg n,Zd,Zd])).toArray:=by
 obtain⟨j,k,l,m,o,p,q,r,t,u,b,c,d,e,f,g,i,rfl⟩:=Ll h
 kernel_rfl
theorem RL{a:Zj}(h:a.length=17):prog.built 45 [(1,.agg a.toArray)]=some (Zg 0::(a++[Zd,Zf,Zd,Zd])).toArray:=by
 obtain⟨j,k,l,m,n,o,p,q,r,s,b,c,d,e,f,g,i,rfl⟩:=Ll h
 kernel_rfl
theorem Aa.ltL{X:Zh}{b n:Nat}{l:Zj}(h:Aa X b l)(c:l.length=n+1):b<X.heap.size:=by
 cases l with
 |nil=>simp at c
 |cons a l=>exact h.lt
theorem RM{X:Zh}{b:Nat}{d:Dd}{a:Zj}(h:Aa X b (dL d a))(c:a.length=17):(X.cell? (Ze b 0)=some (Zg d.c)/\X.frozen? ⟨b,0,none⟩=false)/\(X.cell? (Ze b 20)=some (.string d.a)/\X.frozen? ⟨b,20,none⟩=false)/\X.cell? (Ze b 21)=some (.string d.b)/\X.frozen? ⟨b,21,none⟩=false:=by obtain⟨m,n,o,p,q,r,s,t,u,v,e,f,g,i,j,k,l,rfl⟩:=Ll c;exact⟨h 0 _ rfl,h 20 _ rfl,h 21 _ rfl⟩
theorem Qj{X:Zh}{b:Nat}{d:Dd}{a:Zj}(h:Aa X b (dL d a))(c:Int):Aa (X.setCell (Ze b 0) (Zg c)) b (dL ⟨c,d.v,d.s,d.n,d.a,d.b⟩ a):=h.set 0 _
theorem WT{X:Zh}{b:Nat}{d:Dd}{a:Zj}(h:Aa X b (dL d a))(e:a.length=17)(c:Int)(p q:Zi):Aa (((X.setCell (Ze b 0) (Zg c)).setCell (Ze b 20) (.string p)).setCell (Ze b 21) (.string q)) b (dL ⟨c,d.v,d.s,d.n,p,q⟩ a):=by obtain⟨n,o,r,s,t,u,v,w,x,y,f,g,i,j,k,l,m,rfl⟩:=Ll e;exact((h.set 0 _).set 20 _).set 21 _
def Jv(v:Vd)(e:Ed)(Z:Rs->Zk->Nat->Zk->Nat->Zk->Nat->Zh->Prop)(X:Zh)(ch:Zj):Prop:=
 (∃c p q,e.no v c p q/\ch=BW c p q)∨∃r ta tc pa pc la lc,e.yes v r/\ch=[Zf,Zg v.wd,Zg r.now,Zg r.given,Zg r.ae,.slice ta r.ks.length tc,.slice pa r.ps.length pc,.slice la r.ls.length lc,.string r.sm,Zg r.le,Zd,Zd]/\Z r ta tc pa pc la lc X
theorem Jv.small{v:Vd}{e:Ed}{Z:Rs->Zk->Nat->Zk->Nat->Zk->Nat->Zh->Prop}{X:Zh}{a:Zj}(h:Jv v e Z X a):a.length=12/\∀u∈a,u.oneCell'=true:=by
 rcases h with⟨c,p,q,_,rfl⟩|⟨r,i,j,f,g,b,d,_,rfl,_⟩
 ·exact⟨rfl,by simp[BW,Value.oneCell']⟩
 ·exact⟨rfl,by simp[Value.oneCell']⟩
def Ic(v:Vd)(e:Ed)(w:Zh)(o:Ending)(w':Zh):Prop:=
 ∃d vs,Hu v e d/\o=.returned (.agg (dL d vs).toArray)/\(∀V X',(∀b∈V,b<w.heap.size)->Tn V w' X'->Lg d.v X'.heap.size X' vs)/\Zz w w'
theorem Nl{v:Vd}{e:Ed}{w X:Zh}{c D:Zj}{d:Dd}(f:Aa X (w.heap.size+2) CN/\Zz w X)(m:∀V a,(∀b∈V,b<w.heap.size+3)->Tn V X a->Lg d.v a.heap.size a c)(l:Hu v e d)(p:c.length=17/\∀u∈c,u.oneCell'=true)(j:D=dL d c):
 (D.length=22/\∀u∈D,u.oneCell'=true)/\X.there (w.heap.size+2) 0 D.toArray.size/\Aa (X.setCells (w.heap.size+2) 0 D.toArray.toList) (w.heap.size+2) D/\Ic v e w (.returned (.agg D.toArray)) (X.setCells (w.heap.size+2) 0 D.toArray.toList):=by
 have g:D.length=22/\∀u∈D,u.oneCell'=true:=by rw[j];exact Ju p
 have k:=AP (w.heap.size+2) D 0 X;refine⟨g,?_,f.1.ba D (by rw[g.1];rfl),d,c,l,by rw[j],fun V a o n=>m ((w.heap.size+2)::V) a (fun b i=> ?_) ((k.mono (by simp)).trans (n.mono (by simp;intro b i;exact .inr i))),f.2.trans (k.below f.2.size (by simp))⟩
 ·rw[show D.toArray.size=22 from by rw[List.size_toArray];exact g.1];exact f.1.there
 ·rcases List.mem_cons.1 i with h|h
  ·omega
  ·have:=o b h;omega
theorem AL.cl{c X:Zh}{base n:Nat}{S U T P L Q M:Value}{j:Zj}{v:Vd}(h:AL c base S U T P L Q M j v)(l:n<=base)(e:Zz c X):∀V a,(∀b∈V,b<n)->Tn V X a->Lg v a.heap.size a (BS v S U T P L Q M):=fun V a g f=>by refine(h.stays (((Tn.of (V:=[]) e).mono (by simp)).trans f) (fun b i d=> ?_)).gj;have k:=h.lo b d;have:=g b i;omega
theorem AL.ap{w:Zh}{base:Nat}{S U T P L Q M:Value}{c:Zj}{v:Vd}(h:AL w base S U T P L Q M c v):(∀g,Ak U=some g->Ak S≠some g)/\∀g,Ak U=some g->Ak Q≠some g/\Ak M≠some g:=by
 have a:=h.nd;unfold Cx at a;generalize Bb T P L c=B at *
 simp only[List.nodup_append,List.mem_append,Option.mem_toList]at a;refine⟨fun g b f=>a.1.2.2 g f g b rfl,fun g b=>⟨fun e=> ?_,fun d=> ?_⟩⟩
 ·exact a.2.2 g (.inr b) g (.inr (.inl e)) rfl
 ·exact a.2.2 g (.inr b) g (.inr (.inr d)) rfl
theorem WU{v:Vd}{L:Nat}{X:Zh}{b:Zj}(h:Lg v L X b):b.length=17/\∀u∈b,u.oneCell'=true:=by obtain⟨a,rfl,_⟩:=h;exact⟨rfl,by simp[BS,Value.oneCell']⟩
theorem YE{v:Vd}{e:Ed}{r:Rs}{X:Zh}{C D E F G:Nat}{k m s p b g d:Zk}{l o n t q c i h f:Nat}{a j:Zl}{B:Zj}(y:v.wd=v.sw)(J:Ao X C (.slice k v.ss.length l) v.ss)(K:Ao X D (.slice m o n) a)(z:a=v.tt++[e.bt v.wd])(A:o=a.length)(x:AO X E (.slice s r.ks.length t) (.slice p r.ps.length q) (.slice b r.ls.length c) B r.ks r.ps r.ls)(I:Ao X F (.slice g i h) j)(w:j=shQ v.ph r.ks v.qs v.ms (e.held r))(u:i=j.length)(H:Ao X G (.slice d v.ms.length f) v.ms):
 Lg (doV v e r) X.heap.size X [Zg v.wd,Zg v.ak,.slice k v.ss.length l,.slice m o n,Zg v.wd,Zg r.now,Zg r.given,Zg r.ae,.slice s r.ks.length t,.slice p r.ps.length q,.slice b r.ls.length c,Zg v.ph,.slice g i h,.slice d v.ms.length f,Zg v.ag,Zg v.at_,Zg v.ro]:=by
 subst A u;subst z w;refine⟨⟨k,l,m,n,s,t,p,q,b,c,g,h,d,f⟩,?_,⟨J.ft,K.ft,x.get,I.ft,H.ft⟩⟩;unfold BS doV;simp only[←y]
def Hc(v:Vd)(e:Ed)(w:Zh)(o:Ending)(w':Zh):Prop:=
 ∃d S U T P L Q M rs,Hu v e d/\o=.returned (.agg (JZ d S U T P L Q M).toArray)/\AL w' w.heap.size S U T P L Q M rs d.v/\Zz w w'
def RN(v:Vd)(e:Ed)(lo:Nat)(w:Zh)(o:Ending)(w':Zh):Prop:=
 Below lo w w'/\((∃c p q,Hb v e c p q/\o=.returned (.agg #[Zg c,Zf,Zf,Zc,Zc,Zf,Zf,Zf,Zf,Zc,Zc,Zc,Zf,Zc,Zc,Zf,Zf,Zf,Zd,Zf,.string p,.string q]))∨(∃r S U T P L Q M rs,Jt v e r/\o=.returned (.agg (JZ (dyes v e r) S U T P L Q M).toArray)/\AL w' lo S U T P L Q M rs (doV v e r)))
theorem Qk{X:Zh}{base:Nat}{S U T P L Q M:Value}{b:Zj}{d:Dd}(h:AL X base S U T P L Q M b d.v):(JZ d S U T P L Q M).length=22/\∀u∈JZ d S U T P L Q M,u.oneCell'=true:=by obtain⟨a,h,_⟩:=h.gj;exact Ju (vs:=BS d.v S U T P L Q M) ⟨rfl,by rw[h];simp[BS,Value.oneCell']⟩
theorem RN.form{v:Vd}{e:Ed}{lo:Nat}{w b:Zh}{o:Ending}(h:RN v e lo w o b):Below lo w b/\∃(c:Int) (zs tl:Zj),o=.returned (.agg (Zg c::(zs++tl)).toArray)/\zs.length=17/\tl.length=4/\(∀u∈Zg c::(zs++tl),u.oneCell'=true)/\((∃p q,Hb v e c p q/\tl=[Zd,Zf,.string p,.string q])∨(c=0/\∃r S U T P L Q M a,Jt v e r/\Zg c::(zs++tl)=JZ (dyes v e r) S U T P L Q M/\AL b lo S U T P L Q M a (doV v e r))):=by
 obtain⟨g,⟨c,p,q,h,rfl⟩|⟨r,S,U,T,P,L,Q,M,a,h,rfl,f⟩⟩:=h
 ·exact⟨g,c,Xz,[Zd,Zf,.string p,.string q],rfl,rfl,rfl,by simp[Value.oneCell'],.inl ⟨p,q,h,rfl⟩⟩
 ·exact⟨g,0,BS (doV v e r) S U T P L Q M,[.string r.sm,Zg r.le,Zd,Zd],rfl,rfl,rfl,(Qk (d:=dyes v e r) f).2,.inr ⟨rfl,r,S,U,T,P,L,Q,M,a,h,rfl,f⟩⟩
theorem TM(v:Vd)(e:Ed)(s:Value)(m:Zj)(gf:Nat)(rv:Value)(ra:Zk)(rc:Nat)(Dk:Nat->Nat->Zh->Prop)(w:Zh)(hl:(s::m).length=17)
 (eg:∀args X,(callFunc gf args).run prog X=.ok (.enter gf args) X)
 (hD:∀X,Zz w X->Calls prog 45 #[.agg (s::m).toArray] X fun o G=>Zz X G/\((¬Ei v/\o=.returned (.tuple #[.pointer none,.bool false]))∨(Ei v/\∃k,o=.returned (.tuple #[Yz k,.bool true])/\Dk X.heap.size k G)))
 (hM:∀X,Zz w X->Calls prog gf #[rv] X fun o G=>o=.returned (.agg (Yp e.kd e.s e.nm e.num e.tx ra e.rf.length rc))/\Zz X G)
 (yN:∀lo k X G,Dk lo k X->Zz X G->Dk lo k G)
 (hK:∀lo k X,w.heap.size<=lo->Ei v->Dk lo k X->Zz w X->Calls prog 46 #[Yz k,.agg (Yp e.kd e.s e.nm e.num e.tx ra e.rf.length rc)] X (RN v e lo X))
 (hC:Ei v->∀X,Zz w X->Calls prog 47 #[.agg (s::m).toArray] X fun o G=>∃(S U T P L Q M:Value) (rs:Zj),o=.returned (.agg (BS v S U T P L Q M).toArray)/\AL G X.heap.size S U T P L Q M rs v/\Zz X G):
 Calls prog 20 #[.agg (s::m).toArray,.func (.func gf) #[rv] #[]] w (Hc v e w):=by
 obtain⟨W,hW⟩:∃W,W=(w.alloc (.cells (s::m).toArray 43)).alloc (.cells Yc 45):=⟨_,rfl⟩;have bW:=(AW hW).1;have zW:=(AW hW).2.1;have HX:Hid (Aa W w.heap.size (s::m)/\Aa W (w.heap.size+1) CN):=⟨(AW hW).2.2.1,(AW (k:=CN) hW).2.2.2⟩;have O:=Yx bW;have yJ:Hid ((s::m).length=17):=hl;have HD:=Yx hD;have HM:=Yx hM;have zV:=Yx yN;have HK:=Yx hK;have HC:=Yx hC;have HW:=Yx hW;clear hW hD hM yN hK hC hl bW
 go_enter func20,ntmps20;go_upto_region 1 with fail;rw[←HW.o];clear HW;go_wp2_with (refine wpList_load_mid rfl 43 _ rfl w.heap.size 0 rfl (s::m) _ HX.o.1.range underlying43 rfl (by rw[yJ.o];kernel_rfl) ?_);refine(HD.o W O.o).mono ?_;rintro o w1 ⟨A,⟨yQ,rfl⟩|⟨zM,k,rfl,yP⟩⟩
 ·have b1:=O.o.trans (A.mono O.o.size);have x1:=Aa.below (v:=Zf) HX.o.2 A;obtain⟨C,f⟩:∃Y,Y=w1.setCells (w.heap.size+1) 0 (Xy 1):=⟨_,rfl⟩;have V:Aa C (w.heap.size+1) (Xy 1):=by rw[f];exact x1.ba _ rfl
  have yS:Hid (Zz w C):=b1.trans (by rw[f];exact(AP _ _ _ _).below b1.size (by simp));have yH:=Yx (Zn (show((Xx 1):Array Value).all (·.oneCell')=true by simp[Value.oneCell']) x1.there);have zA:=Yx V;have zP:=Yx yQ;have Z:=Yx f;clear f V yQ x1 b1 HD HM zV HK HC HX O A;go_wp2_with (refine wpList_store_mid rfl 45 _ _ rfl (w.heap.size+1) 0 (Xx 1) rfl rfl yH.o.2 (by kernel_rfl) yH.o.1 ?_);rw[←Z.o]
  refine bodyPost_ret (BN results20 _ _ (w.heap.size+1) (Xy 1) _ rfl (Aa.range zA.o) underlying45 rfl (by kernel_rfl)) rfl ?_;exact⟨Fz 1 v0 ⟨#[]⟩ ⟨#[]⟩,Zc,Zc,Zc,Zc,Zc,Zc,Zc,[],.inl ⟨zP.o,rfl⟩,rfl,AL.nil _ _,yS.o⟩
 ·have z1:=A.size;have zY:Hid (Aa w1 w.heap.size (s::m)/\Aa w1 (w.heap.size+1) CN):=⟨Aa.below HX.o.1 A,Aa.below (v:=Zf) HX.o.2 A⟩;have zN:Hid (Zz w w1):=O.o.trans (A.mono O.o.size);have HY:=Yx zM;have zJ:=Yx yP;clear A zM yP HX HD;go_wp2_with fail;refine(HM.o w1 zN.o).mono ?_;rintro o w2 ⟨rfl,J⟩;have z2:=J.size
  have zZ:Hid (Aa w2 w.heap.size (s::m)/\Aa w2 (w.heap.size+1) CN):=⟨Aa.below zY.o.1 J,Aa.below (v:=Zf) zY.o.2 J⟩;have zU:Hid (Zz w w2):=zN.o.trans (J.mono zN.o.size);have yI:=Yx (HK.o W.heap.size k w2 O.o.size HY.o (zV.o _ _ _ _ zJ.o J) zU.o);clear J HM zV zJ HK zY zN;go_wp2_with fail;refine Calls.mono yI.o ?_;intro o d zK;obtain⟨zE,c,zs,tl,rfl,yE,zG,N,H⟩:=zK.form;have z3:=zE.size
  obtain⟨D,zC⟩:∃D:Zj,D=Zg c::(zs++tl):=⟨_,rfl⟩;have t:D.length=22:=by rw[zC];simp[yE,zG]
  have yM:D[0]?=some (Zg c):=by rw[zC];rfl
  rw[←zC]at N ⊢;obtain⟨B,yB⟩:∃Y,Y=(d.alloc (.cells Yc 45)).setCells d.heap.size 0 D.toArray.toList:=⟨_,rfl⟩;have I:=boxed (X:=d) (cs:=D) (z:=CN) (T:=45) (by rw[t];rfl);have e4:B=(d.alloc (.cells CN.toArray 45)).setCells d.heap.size 0 D:=yB;rw[←e4]at I;obtain⟨x4,b4,z4⟩:=I
  have l:Hid ((d.alloc (.cells Yc 45)).there d.heap.size 0 D.toArray.size/\D.length=22/\∀x∈D,x.oneCell'=true):=⟨by rw[show D.toArray.size=22 from by rw[List.size_toArray];exact t];exact(Aa.new d CN 45).there,t,N⟩;have yA:=Yx (Zb (Aa.same zZ.o.1 (zE.block _ (by omega))) (Aa.same zZ.o.2 (zE.block _ (by omega))))
  have F:Hid (Aa B w.heap.size (s::m)/\Aa B (w.heap.size+1) CN/\Aa B d.heap.size D):=⟨Aa.below yA.o.1 b4,Aa.below (v:=Zf) yA.o.2 b4,x4⟩;have b3:Below w.heap.size w d:=zU.o.trans (zE.mono O.o.size);have g:Hid (Zz w B/\Zz d B/\w.heap.size+2<=d.heap.size):=⟨b3.trans (b4.mono b3.size),b4,by omega⟩;obtain⟨u0,_⟩:=x4 0 _ yM;have n:=Yx (Zn zC (Zn yE zG));have zO:=Yx H;have yK:=Yx yB
  have yV:W.heap.size=w.heap.size+2:=zW;clear yB e4 x4 b4 b3 zK zE zC t yM yE zG N H zZ yA zU yI;go_upto_region 5 with(refine wpList_store_mid rfl 45 _ _ rfl d.heap.size 0 D.toArray rfl rfl l.o.1 (by rw[List.size_toArray,l.o.2.1];kernel_rfl) (all_oneCell_toArray l.o.2.2) ?_);rw[←yK.o];clear yK;by_cases hc:c=0
  ·subst hc;obtain⟨C,f⟩:∃Y,Y=B.setCells (w.heap.size+1) 0 D.toArray.toList:=⟨_,rfl⟩;have t9:Tn [w.heap.size+1] B C:=by rw[f];exact AP _ _ _ _
   have V:Aa C (w.heap.size+1) D:=by rw[f];exact F.o.2.1.ba D (by rw[l.o.2.1];rfl)
   have E:Hid (B.there (w.heap.size+1) 0 D.toArray.size):=by show B.there (w.heap.size+1) 0 D.toArray.size;rw[show D.toArray.size=22 from by rw[List.size_toArray];exact l.o.2.1];exact F.o.2.1.there
   have K:Hid (Hc v e w (.returned (.agg D.toArray)) C):=by
    rcases zO.o with⟨p,q,hn,_⟩|⟨_,r,S,U,T,P,L,Q,M,rs,hy,hd,ha⟩
    ·exact absurd rfl hn.code
    ·refine⟨dyes v e r,S,U,T,P,L,Q,M,rs,.inr ⟨HY.o,.inr ⟨r,hy,rfl⟩⟩,by rw[n.o.1,hd],?_,g.o.1.trans (t9.below g.o.1.size (by simp))⟩;exact((ha.below g.o.2.1).stays t9 (fun b I yC=>by have:=(ha.below g.o.2.1).lo b yC;simp at I;omega)).mono (by omega)
   have zA:=Yx V;have Z:=Yx f;clear f t9 V zO n HC HY;go_wp2_with (first
    |refine wpList_load_mid rfl 45 _ rfl d.heap.size 0 rfl D _ F.o.2.2.range underlying45 rfl (by rw[l.o.2.1];kernel_rfl) ?_
    |refine wpList_store_mid rfl 45 _ _ rfl (w.heap.size+1) 0 D.toArray rfl rfl E.o (by rw[List.size_toArray,l.o.2.1];kernel_rfl) (all_oneCell_toArray l.o.2.2) ?_)
   rw[←Z.o];exact bodyPost_ret (BN results20 _ _ (w.heap.size+1) D _ rfl (Aa.range zA.o) underlying45 rfl (by rw[l.o.2.1];kernel_rfl)) rfl K.o
  ·have yU:(c==0)=false:=by simpa using hc
   have zP:Hid (∃p q,Hb v e c p q/\tl=[Zd,Zf,.string p,.string q]):=by
    rcases zO.o with h|⟨h,_⟩
    ·exact h
    ·exact absurd h hc
   clear hc zO;go_wp2_with (refine wpList_load_mid rfl 43 _ rfl w.heap.size 0 rfl (s::m) _ F.o.1.range underlying43 rfl (by rw[yJ.o];kernel_rfl) ?_);refine(HC.o HY.o B g.o.1).mono ?_;rintro o w5 ⟨S,U,T,P,L,Q,M,rs,rfl,zS,zF⟩;have z5:=zF.size;obtain⟨y,zI⟩:∃y,y=BS v S U T P L Q M:=⟨_,rfl⟩;have zH:y.length=17:=by rw[zI];rfl
   have yD:∀u∈y,u.oneCell'=true:=by obtain⟨a,h,_⟩:=zS.gj;rw[zI,h];simp[BS,Value.oneCell']
   rw[←zI];have x5:Aa w5 d.heap.size ([Zg c]++(zs++tl)):=by have h:=F.o.2.2;rw[n.o.1]at h;exact Aa.below h zF
   obtain⟨R,zR⟩:∃Y,Y=w5.setCells d.heap.size 1 y.toArray.toList:=⟨_,rfl⟩;have t6:Tn [d.heap.size] w5 R:=by rw[zR];exact AP _ _ _ _
   have x6:Aa R d.heap.size (Zg c::(y++tl)):=by rw[zR];exact Aa.dv y [Zg c] zs tl w5 x5 (by rw[zH,n.o.2.1])
   have yR:w5.there d.heap.size 1 y.toArray.size:=fun j hj=>by rw[List.size_toArray,zH]at hj;have h1:=x5 (1+j) _ (Zv (by simp[n.o.2.1,n.o.2.2];omega));exact⟨by rw[h1.1];rfl,h1.2⟩
   have zX:=Yx (Zb yR (Zb zH yD));obtain⟨i,zB⟩:∃i:Zj,i=Zg c::(y++tl):=⟨_,rfl⟩;have t:i.length=22:=by rw[zB];simp[zH,n.o.2.2]
   have yO:∀u∈i,u.oneCell'=true:=fun u hu=>by
    have h1:=l.o.2.2 u;rw[n.o.1]at h1;rw[zB]at hu;simp only[List.mem_cons,List.mem_append]at hu h1;rcases hu with rfl|hu|hu
    ·rfl
    ·exact yD u hu
    ·exact h1 (.inr (.inr hu))
   rw[←zB]at x6;have yG:=Aa.below (v:=Zf) F.o.2.1 zF;have zT:Aa R (w.heap.size+1) CN:=Aa.same yG (t6.block _ yG.lt (by have:=g.o.2.2;simp;omega));have yT:=Yx (Zb x6 zT);obtain⟨C,f⟩:∃Y,Y=R.setCells (w.heap.size+1) 0 i.toArray.toList:=⟨_,rfl⟩;have t9:Tn [w.heap.size+1] R C:=by rw[f];exact AP _ _ _ _
   have V:Aa C (w.heap.size+1) i:=by rw[f];exact zT.ba i (by rw[t];rfl)
   have E:Hid (R.there (w.heap.size+1) 0 i.toArray.size/\i.length=22/\∀u∈i,u.oneCell'=true):=⟨by rw[show i.toArray.size=22 from by rw[List.size_toArray];exact t];exact zT.there,t,yO⟩;have yF:Tn [d.heap.size,w.heap.size+1] w5 C:=(t6.mono (by simp)).trans (t9.mono (by simp));have K:Hid (Hc v e w (.returned (.agg i.toArray)) C):=by
    obtain⟨p,q,hn,zG⟩:=zP.o;have I:=g.o.1.trans (zF.mono g.o.1.size);refine⟨Fz c v p q,S,U,T,P,L,Q,M,rs,.inr ⟨HY.o,.inl ⟨c,p,q,hn,rfl⟩⟩,by rw[zB,zG,zI];rfl,?_,I.trans (yF.below I.size (by have:=g.o.2.2;simp;omega))⟩;exact(zS.stays yF (fun b I yC=>by have:=zS.lo b yC;have:=g.o.2.2;have:=g.o.2.1.size;simp at I;omega)).mono g.o.1.size
   have zA:=Yx V;have yL:=Yx zR;have Z:=Yx f;clear zR f t6 t9 yF x5 x6 V yG zT yR zH yD zI zB t yO zS zF zP n HC HY F l;go_upto_region 7 with(refine wpList_store_mid rfl 43 _ _ rfl d.heap.size 1 y.toArray rfl rfl zX.o.1 (by rw[List.size_toArray,zX.o.2.1];kernel_rfl) (all_oneCell_toArray zX.o.2.2) ?_);rw[←yL.o];clear yL;go_wp2_with (first
    |refine wpList_load_mid rfl 45 _ rfl d.heap.size 0 rfl i _ yT.o.1.range underlying45 rfl (by rw[E.o.2.1];kernel_rfl) ?_
    |refine wpList_store_mid rfl 45 _ _ rfl (w.heap.size+1) 0 i.toArray rfl rfl E.o.1 (by rw[List.size_toArray,E.o.2.1];kernel_rfl) (all_oneCell_toArray E.o.2.2) ?_)
   rw[←Z.o];exact bodyPost_ret (BN results20 _ _ (w.heap.size+1) i _ rfl (Aa.range zA.o) underlying45 rfl (by rw[E.o.2.1];kernel_rfl)) rfl K.o
theorem LK{A:Type}{c:A->Zj}{n:Nat}(h:∀x,(c x).length=n)(m:0<n){a:List A}{b:Zj}(o:b.length=a.length *n)(l:∀i x j,a[i]?=some x->j<n->b[i *n+j]?=(c x)[j]?):b=Ab c a:=by
 apply List.ext_getElem?;intro k;have p:=Bu h a;by_cases hlt:k<a.length *n
 ·have g:k/n<a.length:=Nat.div_lt_of_lt_mul (by rw[Nat.mul_comm];exact hlt);have d:k%n<n:=Nat.mod_lt _ m;have e:k=k/n *n+k%n:=by rw[Nat.mul_comm];exact(Nat.div_add_mod k n).symm
  have f:=Zv g;rw[e,l _ _ _ f d,Bp h f d]
 ·rw[List.getElem?_eq_none (by omega),List.getElem?_eq_none (by omega)]
theorem EV.gp{w:Zh}{lo g:Nat}{a:List Pd}(h:EV w lo g a):w.ownsRow lo 137 2 (Za g a.length a.length) a.length (Ab pC a):=by
 obtain⟨m,b,k⟩:=h;have e:m=Ab pC a:=LK BI (by omega) b.1 (fun i x j l f=>by
  obtain⟨c,d⟩:=k i x l
  match j,f with
  |0,_=>exact c
  |1,_=>exact d)
 exact e▸b
theorem EX.gp{w:Zh}{lo g:Nat}{a:List Ld}(h:EX w lo g a):w.ownsRow lo 139 3 (Za g a.length a.length) a.length (Ab lC a):=by
 obtain⟨n,b,l⟩:=h;have e:n=Ab lC a:=LK Co (by omega) b.1 (fun i x j m k=>by
  obtain⟨c,d,f⟩:=l i x m
  match j,k with
  |0,_=>exact c
  |1,_=>exact d
  |2,_=>exact f)
 exact e▸b
structure Hv (w:Zh) (lo g:Nat) (rs:Zj) (ks:List Kd):Prop where
 len:rs.length=ks.length
 ai:w.ownsRow lo 131 4 (.slice (some ⟨g,0,none⟩) ks.length ks.length) ks.length (Ab kC (ks.zip rs))
 refs:∀(i:Nat) (k:Kd) (r:Value),ks[i]?=some k->rs[i]?=some r->w.ownsRow (g+1) 9 1 r k.refs.length (k.refs.map Value.string)
 sm:∀r∈rs,∃q n c,r=.slice (some ⟨q,0,none⟩) n c
 inc:(rs.filterMap Value.ownBlock).Pairwise (·<·)
theorem EN.to{w:Zh}{lo g:Nat}{m:List Kd}(h:EN w lo g m):∃l,Hv w lo g l m:=by
 obtain⟨t,C,A,N⟩:=h;have d:∀i,i<m.length->∃q n,t[i *4+3]?=some (Za q n n):=fun i D=>by obtain⟨_,_,_,q,o,_⟩:=A i _ (Zv D);exact⟨q,_,o⟩
 obtain⟨l,p⟩:∃l,l=(List.range m.length).map (fun i=>t[i *4+3]?.getD undef):=⟨_,rfl⟩;have B:l.length=m.length:=by rw[p];simp
 have u:∀i,i<m.length->l[i]?=some (t[i *4+3]?.getD undef):=fun i h=>by rw[p,List.getElem?_map,List.getElem?_range h];rfl
 refine⟨l,B,?_,?_,?_,?_⟩
 ·have e:t=Ab kC (m.zip l):=LK DX (by omega) (by rw[C.1,List.length_zip,B,Nat.min_self]) (fun i x j P O=>by
   obtain⟨z,G⟩:=List.getElem?_zip_eq_some.1 P;obtain⟨H,I,J,q,o,_⟩:=A i _ z;have f:=u i (Zw z).1;rw[G,o]at f
   match j,O with
   |0,_=>exact H
   |1,_=>exact I
   |2,_=>exact J
   |3,_=>exact o.trans f.symm)
  exact e▸C
 ·intro i k r a F;obtain⟨_,_,_,q,o,K⟩:=A i k a;have f:=u i (Zw a).1;rw[o,F]at f;cases f;exact K
 ·intro r f;rw[p]at f;obtain⟨i,a,rfl⟩:=List.mem_map.1 f;obtain⟨q,n,s⟩:=d i (List.mem_range.1 a);exact⟨q,_,_,by rw[s];rfl⟩
 ·rw[p,List.filterMap_map,List.pairwise_filterMap];refine List.Pairwise.imp_of_mem (R:=(·<·)) ?_ List.pairwise_lt_range;intro i j a v E b L c M;obtain⟨q,n,s⟩:=d i (List.mem_range.1 a);obtain⟨Q,S,y⟩:=d j (List.mem_range.1 v);have:=N i j q Q _ _ _ _ E (List.mem_range.1 v) s y;simp[s,Value.ownBlock]at L;simp[y,Value.ownBlock]at M;omega
theorem Hv.tn{V:List Nat}{w l:Zh}{lo g:Nat}{j:Zj}{f:List Kd}(h:Hv w lo g j f)(e:Tn V w l)(d:∀b∈V,b<lo):Hv l lo g j f:=
 ⟨h.len,Bn h.ai e d,fun i k r a c=>Bn (h.refs i k r a c) e (fun b m=>by have a:=d b m;have c:=(Ac h.ai (g:=g) rfl).1;omega),h.sm,h.inc⟩
theorem Hv.below{w c:Zh}{lo g:Nat}{rs:Zj}{b:List Kd}(h:Hv w lo g rs b)(a:Zz w c):Hv c lo g rs b:=
 ⟨h.len,Ae h.ai a,fun i k r d e=>Ae (h.refs i k r d e) a,h.sm,h.inc⟩
theorem Hv.gp{w:Zh}{lo g q r n1:Nat}{f:Zj}{e:List Kd}{c:List Pd}{a:List Ld}(h:Hv w lo g f e)(y:g<n1)(m:∀b∈f.filterMap Value.ownBlock,b<n1)(z:n1<=q)(A:q<r)(u:w.ownsRow lo 137 2 (Za q c.length c.length) c.length (Ab pC c))(t:w.ownsRow lo 139 3 (Za r a.length a.length) a.length (Ab lC a)):
 AO w lo (Za g e.length e.length) (Za q c.length c.length) (Za r a.length a.length) f e c a:=by
 have de:=(Ac h.ai (g:=g) rfl).1;refine⟨h.len,h.ai,fun i k x p s=>(h.refs i k x p s).mono (by omega),u,t,?_⟩;have j:∀b∈f.filterMap Value.ownBlock,g<b:=fun b j=>by
  obtain⟨x,v,o⟩:=List.mem_filterMap.1 j;obtain⟨i,l⟩:=List.getElem?_of_mem v;have n:i<e.length:=by rw[←h.len];exact(Zw l).1
  exact(Ac (h.refs i _ x (Zv n) l) o).1
 show(g::q::r::f.filterMap Value.ownBlock).Nodup;refine List.nodup_cons.2 ⟨?_,List.nodup_cons.2 ⟨?_,List.nodup_cons.2 ⟨fun d=> ?_,h.inc.imp (fun h=>Nat.ne_of_lt h)⟩⟩⟩
 ·simp only[List.mem_cons,not_or];exact⟨by omega,by omega,fun d=>by have:=j g d;omega⟩
 ·simp only[List.mem_cons,not_or];exact⟨by omega,fun d=>by have:=m q d;omega⟩
 ·have:=m r d;omega
theorem Hv.cg{w:Zh}{lo g:Nat}{d:Zj}{c:List Kd}(h:Hv w lo g d c):∀b∈d.filterMap Value.ownBlock,b<w.heap.size:=fun b j=>by
 obtain⟨x,k,f⟩:=List.mem_filterMap.1 j;obtain⟨i,a⟩:=List.getElem?_of_mem k;have e:i<c.length:=by rw[←h.len];exact(Zw a).1
 exact(Ac (h.refs i _ x (Zv e) a) f).2
theorem PB(j i given ae:Int)(a p l:Zk)(K M L:Nat)(f:List Kd)(d:List Pd)(h:List Ld)(w:Zh)(Q:Bv w w.heap.size a p l f d h)(hf:Nw f d h):
 Calls prog 18 #[.agg (Ys j i given ae a f.length K p d.length M l h.length L)] w fun e w'=>∃g q r C,e=.returned (.agg (Ys j i given ae (some ⟨g,0,none⟩) f.length f.length (some ⟨q,0,none⟩) d.length d.length (some ⟨r,0,none⟩) h.length h.length))/\AO w' w.heap.size (Za g f.length f.length) (Za q d.length d.length) (Za r h.length h.length) C f d h/\(∀x∈C,∃q n c,x=Za q n c)/\Zz w w':=by
 obtain⟨s,z⟩:∃W,W=((w.alloc (.cells (Ys j i given ae a f.length K p d.length M l h.length L) 29)).alloc (.cells Yu 40)).alloc (.cells #[Zg j,Zg i,Zg given,Zg ae,Zc,Zc,Zc] 40):=⟨_,rfl⟩;have E:Hid (Zz w s):=(Bm z).1;have yD:=(Bm z).2.1;have zG:Hid (Aa s w.heap.size (Yt j i given ae a f.length K p d.length M l h.length L)):=(Bm z).2.2.1;have zH:Hid (Aa s (w.heap.size+1) Xw):=(Bm (k:=Xw) z).2.2.2.1
 have zB:Hid (Aa s (w.heap.size+1+1) [Zg j,Zg i,Zg given,Zg ae,Zc,Zc,Zc]):=(Bm (m:=[Zg j,Zg i,Zg given,Zg ae,Zc,Zc,Zc]) z).2.2.2.2;have HR:Hid (∀X,Zz w X->Bv X X.heap.size a p l f d h):=fun X hX=>Q.af hX;have zR:=Yx z;clear z Q;go_enter func18,ntmps18;go_wp2_with fail;rw[←zR.o];clear zR;refine(OP a K f s (HR.o s E.o).k hf.k hf.r).mono ?_;rintro e T ⟨g,rfl,hg,D,A⟩;have z1:=A.size
 obtain⟨B,H⟩:∃X,X=T.setCell (Ze (w.heap.size+1+1) 4) (Za g f.length f.length):=⟨_,rfl⟩;have V:Tn [w.heap.size+1+1] T B:=by rw[H];exact Tn.set _ _ _ _ (by simp)
 have yE:B.heap.size=T.heap.size:=by rw[H];simp
 have Z:=Yx (Aa.same (Aa.below zG.o A) (V.block _ (by omega) (by simp<;>omega)));have zI:Hid (Aa B (w.heap.size+1) Xw):=Aa.same (Aa.below (v:=Zf) zH.o A) (V.block _ (by omega) (by simp<;>omega));have zC:Hid (Aa B (w.heap.size+1+1) (Yt j i given ae (some ⟨g,0,none⟩) f.length f.length none 0 0 none 0 0)):=by have U:=Aa.below zB.o A;show Aa B (w.heap.size+1+1) (Yt j i given ae (some ⟨g,0,none⟩) f.length f.length none 0 0 none 0 0);rw[H];exact U.set 4 _
 have F:Hid (Zz w B):=(E.o.trans (A.mono E.o.size)).trans (V.below (by omega) (by simp<;>omega));obtain⟨C,D⟩:=D.to;have zM:Hid (Hv B s.heap.size g C f):=D.tn V (by simp;omega);have HN:Hid (g<T.heap.size/\∀b∈C.filterMap Value.ownBlock,b<T.heap.size):=⟨(Ac D.ai (g:=g) rfl).2,D.cg⟩;clear D;obtain⟨e1,f1⟩:=Aa.below zB.o A 4 _ rfl;have zS:=Yx H;clear H;go_upto_region 7 with fail;rw[←zS.o]
 clear zS e1 f1 A V zG zH zB;obtain⟨y5,_⟩:=Z.o 5 _ rfl;go_wp2_with fail;refine(Qv p M d B (HR.o B F.o).p hf.p).mono ?_;rintro e w2 ⟨q,rfl,hq,zF,u⟩;have z2:=u.size;obtain⟨y,I⟩:∃X,X=w2.setCell (Ze (w.heap.size+1+1) 5) (Za q d.length d.length):=⟨_,rfl⟩;have S:Tn [w.heap.size+1+1] w2 y:=by rw[I];exact Tn.set _ _ _ _ (by simp)
 have yF:y.heap.size=w2.heap.size:=by rw[I];simp
 have zA:=Yx (Aa.same (Aa.below Z.o u) (S.block _ (by omega) (by simp<;>omega)));have zJ:Hid (Aa y (w.heap.size+1) Xw):=Aa.same (Aa.below (v:=Zf) zI.o u) (S.block _ (by omega) (by simp<;>omega));have zE:Hid (Aa y (w.heap.size+1+1) (Yt j i given ae (some ⟨g,0,none⟩) f.length f.length (some ⟨q,0,none⟩) d.length d.length none 0 0)):=by have U:=Aa.below zC.o u;show Aa y (w.heap.size+1+1) (Yt j i given ae (some ⟨g,0,none⟩) f.length f.length (some ⟨q,0,none⟩) d.length d.length none 0 0);rw[I];exact U.set 5 _
 have G:Hid (Zz w y):=(F.o.trans (u.mono F.o.size)).trans (S.below (by omega) (by simp<;>omega));have zN:Hid (Hv y s.heap.size g C f):=(zM.o.below u).tn S (by simp;omega);have zP:Hid (y.ownsRow s.heap.size 137 2 (Za q d.length d.length) d.length (Ab pC d)):=Bn (zF.gp.mono (by omega)) S (by simp;omega);have HQ:Hid (q<w2.heap.size):=(Ac zF.gp (g:=q) rfl).2;clear zF zM y5
 obtain⟨e2,f2⟩:=Aa.below zC.o u 5 _ rfl;have zT:=Yx I;clear I;go_upto_region 8 with fail;rw[←zT.o];clear zT e2 f2 u S Z zI zC;obtain⟨y6,_⟩:=zA.o 6 _ rfl;go_wp2_with fail;refine(Ny l L h y (HR.o y G.o).l hf.l).mono ?_;rintro e w3 ⟨r,rfl,hr,zV,o⟩;have z3:=o.size;obtain⟨t,J⟩:∃X,X=w3.setCell (Ze (w.heap.size+1+1) 6) (Za r h.length h.length):=⟨_,rfl⟩
 have N:Tn [w.heap.size+1+1] w3 t:=by rw[J];exact Tn.set _ _ _ _ (by simp)
 have yG:t.heap.size=w3.heap.size:=by rw[J];simp
 have yC:=Yx (Aa.same (Aa.below zA.o o) (N.block _ (by omega) (by simp<;>omega)));have zK:Hid (Aa t (w.heap.size+1) Xw):=Aa.same (Aa.below (v:=Zf) zJ.o o) (N.block _ (by omega) (by simp<;>omega));have zX:Hid (Aa t (w.heap.size+1+1) (Yt j i given ae (some ⟨g,0,none⟩) f.length f.length (some ⟨q,0,none⟩) d.length d.length (some ⟨r,0,none⟩) h.length h.length)):=by have U:=Aa.below zE.o o;show Aa t (w.heap.size+1+1) (Yt j i given ae (some ⟨g,0,none⟩) f.length f.length (some ⟨q,0,none⟩) d.length d.length (some ⟨r,0,none⟩) h.length h.length);rw[J];exact U.set 6 _
 have O:Hid (Zz w t):=(G.o.trans (o.mono G.o.size)).trans (N.below (by omega) (by simp<;>omega));have zO:Hid (Hv t s.heap.size g C f):=(zN.o.below o).tn N (by simp;omega);have zZ:Hid (t.ownsRow s.heap.size 137 2 (Za q d.length d.length) d.length (Ab pC d)):=Bn (Ae zP.o o) N (by simp;omega)
 have zY:Hid (t.ownsRow s.heap.size 139 3 (Za r h.length h.length) h.length (Ab lC h)):=Bn (zV.gp.mono (by omega)) N (by simp;omega);clear zV zN zP y6;obtain⟨e3,f3⟩:=Aa.below zE.o o 6 _ rfl;have zU:=Yx J;clear J;go_upto_region 9 with fail;rw[←zU.o];clear zU e3 f3 o N zA zJ zE
 obtain⟨W4,R⟩:∃X,X=t.setCells (w.heap.size+1) 0 (Yt j i given ae (some ⟨g,0,none⟩) f.length f.length (some ⟨q,0,none⟩) d.length d.length (some ⟨r,0,none⟩) h.length h.length):=⟨_,rfl⟩;have Y:Tn [w.heap.size+1] t W4:=by rw[R];exact AP _ _ _ _
 have x4:Aa W4 (w.heap.size+1) (Yt j i given ae (some ⟨g,0,none⟩) f.length f.length (some ⟨q,0,none⟩) d.length d.length (some ⟨r,0,none⟩) h.length h.length):=by rw[R];exact zK.o.ba _ rfl
 have HS:Hid (AO W4 w.heap.size (Za g f.length f.length) (Za q d.length d.length) (Za r h.length h.length) C f d h):=(((zO.o.tn Y (by simp;omega)).gp (n1:=T.heap.size) HN.o.1 HN.o.2 (by omega) (by have:=HQ.o;omega) (Bn zZ.o Y (by simp;omega)) (Bn zY.o Y (by simp;omega))).mono (by omega));have zW:Hid (Zz w W4):=O.o.trans (Y.below O.o.size (by simp))
 have P:((Ys j i given ae (some ⟨g,0,none⟩) f.length f.length (some ⟨q,0,none⟩) d.length d.length (some ⟨r,0,none⟩) h.length h.length):Array Value).all (·.oneCell')=true:=by simp[Value.oneCell']
 have HI:=Yx (Zn P zK.o.there);have yB:=Yx x4;have yA:=Yx R;clear P x4 R Y;go_wp2_with (first
  |refine wpList_load_mid rfl 40 _ rfl (w.heap.size+1+1) 0 rfl (Yt j i given ae (some ⟨g,0,none⟩) f.length f.length (some ⟨q,0,none⟩) d.length d.length (some ⟨r,0,none⟩) h.length h.length) _ zX.o.range underlying40 rfl (by kernel_rfl) ?_
  |refine wpList_store_mid rfl 40 _ _ rfl (w.heap.size+1) 0 (Ys j i given ae (some ⟨g,0,none⟩) f.length f.length (some ⟨q,0,none⟩) d.length d.length (some ⟨r,0,none⟩) h.length h.length) rfl rfl HI.o.2 (by kernel_rfl) HI.o.1 ?_)
 rw[←yA.o];refine bodyPost_ret (BN results18 _ _ (w.heap.size+1) (Yt j i given ae (some ⟨g,0,none⟩) f.length f.length (some ⟨q,0,none⟩) d.length d.length (some ⟨r,0,none⟩) h.length h.length) _ rfl (Aa.range yB.o) underlying40 rfl (by kernel_rfl)) rfl ?_;exact⟨g,q,r,C,rfl,HS.o,zO.o.sm,zW.o⟩
end Go.Proofs.YtlhhpofjkgmbeaaGreatDoor
