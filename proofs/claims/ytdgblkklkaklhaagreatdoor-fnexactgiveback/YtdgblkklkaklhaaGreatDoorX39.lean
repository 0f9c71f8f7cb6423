import Derived.Test.YtdgblkklkaklhaaGreatDoorX35
set_option maxRecDepth 100000
set_option maxHeartbeats 16000000
namespace Go.Proofs.YtdgblkklkaklhaaGreatDoor
open Go.ChangeShapes Go.WideShapes Go.ChangeAt Go.RowKit _root_.Go.Proofs.Tryz
theorem ZQ(v:Vd)(e:Ed)(sa ta:Zk)(sc tc:Nat)(b0 I b2 M b4 b5 b6 c0 c1 c2 c3 c4 c5:Value)(ra:Zk)(rc:Nat)(K:Zj->List Nat->Zh->Prop)(Z:Rs->Zk->Nat->Zk->Nat->Zk->Nat->Zh->Prop)(w:Zh)
 (hlen:v.ss.length<=1048576/\v.tt.length<=1048576)
 (rN:∀X,Zz w X->Calls prog 33 #[.agg #[Zg v.wd,Zg v.ak,.slice sa v.ss.length sc,.slice ta v.tt.length tc,b0,I,b2,M,b4,b5,b6,c0,c1,c2,c3,c4,c5]] X fun o k=>Ar (Ei v) X k o)
 (rJ:Ei v->∀X,Zz w X->Calls prog 34 #[.agg #[Zg v.wd,Zg v.ak,.slice sa v.ss.length sc,.slice ta v.tt.length tc,b0,I,b2,M,b4,b5,b6,c0,c1,c2,c3,c4,c5]] X fun o k=>∃sb F ub zC T P L qb E mb B rs,o=.returned (.agg (BS v (Za sb v.ss.length F) (Za ub v.tt.length zC) T P L (Za qb v.qs.length E) (Za mb v.ms.length B)).toArray)/\AL k X.heap.size (Za sb v.ss.length F) (Za ub v.tt.length zC) T P L (Za qb v.qs.length E) (Za mb v.ms.length B) rs v/\Zz X k)
 (rL:∀X,Zz w X->Calls prog 35 #[.agg (Yp e.kd e.s e.nm e.num e.tx ra e.rf.length rc),Zg v.wd] X fun o k=>o=.returned (.bool (e.ok v.wd))/\Zz X k)
 (rH:Ei v->∀X,Zz w X->Calls prog 37 #[.agg #[b0,I,b2,M,b4,b5,b6]] X fun o k=>∃cs V,o=.returned (.agg cs.toArray)/\Zz X k/\(∀b∈V,X.heap.size<=b/\b<k.heap.size)/\K cs V k)
 (f:∀cs V X k,K cs V X->Zz X k->K cs V k)
 (hA:Ei v->e.ok v.wd=true->∀cs V X,Zz w X->K cs V X->Calls prog 36 #[.agg cs.toArray,.agg (Yp e.kd e.s e.nm e.num e.tx ra e.rf.length rc)] X fun o k=>Tn V X k/\∃H,o=.returned (.agg H.toArray)/\Jv v e Z k H)
 (hZ:∀r xa xc pa O la lc X,Ei v->e.ok v.wd=true->e.yes v r->Z r xa xc pa O la lc X->∀n k,X.heap[n]?=some (.cells z12.toArray 82)->Tn [n] X k->Z r xa xc pa O la lc k)
 (rO:∀r xa xc pa O la lc X,Z r xa xc pa O la lc X->∀k,Zz X k->Z r xa xc pa O la lc k)
 (hF:e.ok v.wd=true->∀X,Zz w X->Calls prog 39 #[.agg (Yp e.kd e.s e.nm e.num e.tx ra e.rf.length rc),Zg v.wd] X fun o k=>o=.returned (.string (e.bt v.wd))/\Zz X k)
 (rI:Ei v->e.ok v.wd=true->∀r xa xc pa O la lc X,e.yes v r->Z r xa xc pa O la lc X->Calls prog 37 #[.agg (Ys v.wd r.now r.given r.ae xa r.ks.length xc pa r.ps.length O la r.ls.length lc)] X fun o k=>∃T2 P2 L2 sQ,o=.returned (.agg #[Zg v.wd,Zg r.now,Zg r.given,Zg r.ae,T2,P2,L2])/\AO k X.heap.size T2 P2 L2 sQ r.ks r.ps r.ls/\Zz X k)
 (rK:Ei v->∀r,e.yes v r->(shQ v.ph r.ks v.qs v.ms (e.held r))=v.qs) (rQ:e.kd≠1) (rP:e.s=⟨#[]⟩)
 (rW:Ei v->v.wd=v.sw/\v.ss.length+v.tt.length<=4000):
 Calls prog 16 #[.agg #[Zg v.wd,Zg v.ak,.slice sa v.ss.length sc,.slice ta v.tt.length tc,b0,I,b2,M,b4,b5,b6,c0,c1,c2,c3,c4,c5],.agg (Yp e.kd e.s e.nm e.num e.tx ra e.rf.length rc)] w (Ic v e w):=by
 obtain⟨W,hW⟩:∃W,W=((w.alloc (.cells #[Zg v.wd,Zg v.ak,.slice sa v.ss.length sc,.slice ta v.tt.length tc,b0,I,b2,M,b4,b5,b6,c0,c1,c2,c3,c4,c5] 43)).alloc (.cells (Yp e.kd e.s e.nm e.num e.tx ra e.rf.length rc) 60)).alloc (.cells Yc 45):=⟨_,rfl⟩;have bW:=(Bm hW).1;have zW:=(Bm hW).2.1;have xV:=(Bm hW).2.2.1;have xE:=(Bm hW).2.2.2.1;have xZ:Aa W (w.heap.size+2) CN:=(Bm hW).2.2.2.2
 have xL:Hid (∀X,Zz W X->Aa X w.heap.size [Zg v.wd,Zg v.ak,.slice sa v.ss.length sc,.slice ta v.tt.length tc,b0,I,b2,M,b4,b5,b6,c0,c1,c2,c3,c4,c5]/\Aa X (w.heap.size+1) (Yo e.kd e.s e.nm e.num e.tx ra e.rf.length rc)/\Aa X (w.heap.size+2) CN/\Zz w X):=fun X hX=>⟨Aa.below xV hX,Aa.below xE hX,Aa.below (v:=Zf) xZ hX,bW.trans (hX.mono bW.size)⟩;have HL:=Yx hlen;have rC:=Yx rN;have yG:=Yx rJ
 have sE:=Yx rL;have xI:=Yx rH;have HK:=Yx f;have HA:=Yx hA;have HZ:=Yx hZ;have yQ:=Yx rO;have HF:=Yx hF;have zX:=Yx rI;have xK:=Yx rK;have tF:=Yx rQ;have sY:=Yx rP;have yO:=Yx rW;have HW:=Yx hW;clear hW xV xE xZ hlen rN rJ rL rH f hA hZ rO hF rI rK rW rQ rP;go_enter func16,ntmps16;go_upto_region 1 with fail;rw[←HW.o];clear HW
 go_wp2_with (refine wpList_load_mid rfl 43 _ rfl w.heap.size 0 rfl [Zg v.wd,Zg v.ak,.slice sa v.ss.length sc,.slice ta v.tt.length tc,b0,I,b2,M,b4,b5,b6,c0,c1,c2,c3,c4,c5] _ (xL.o W (Below.refl _ _)).1.range underlying43 rfl (by kernel_rfl) ?_);refine Calls.mono (rC.o W bW) ?_;rintro o w1 ⟨I,rfl,sA,tV⟩;clear rC;cases I with
 |false=>
  have xS:¬Ei v:=fun h=>by have:=sA.2 h;cases this
  obtain⟨_,_,xZ,I⟩:=xL.o w1 tV;obtain⟨W9,tS⟩:∃Y,Y=w1.setCells (w.heap.size+2) 0 (Xy 1):=⟨_,rfl⟩;have x9:Aa W9 (w.heap.size+2) (Xy 1):=by rw[tS];exact xZ.ba _ rfl
  have qD:Hid (Zz w W9):=I.trans (by rw[tS];exact(AP _ _ _ _).below I.size (by simp));have sZ:=Yx (Zn (show((Xx 1):Array Value).all (·.oneCell')=true by simp[Value.oneCell']) xZ.there);have qG:=Yx x9;have qE:=Yx xS;have qF:=Yx tS;clear tS x9 xS xZ I xL yG sE xI HK HA HZ yQ HF zX xK yO HL tV sA
  go_wp2_with (refine wpList_store_mid rfl 45 _ _ rfl (w.heap.size+2) 0 (Xx 1) rfl rfl sZ.o.2 (by kernel_rfl) sZ.o.1 ?_);rw[←qF.o];refine bodyPost_ret (BN results16 _ _ (w.heap.size+2) (Xy 1) _ rfl (Aa.range qG.o) underlying45 rfl (by kernel_rfl)) rfl ?_;exact⟨Fz 1 v0 ⟨#[]⟩ ⟨#[]⟩,Xz,.inl ⟨qE.o,rfl⟩,rfl,fun V k _ _=>(AL.nil k 0).gj,qD.o⟩
 |true=>
  have yV:=sA.1 rfl;have yC:Hid (Ei v):=yV;replace yG:=Yx (yG.o yV);replace xI:=Yx (xI.o yV);replace HA:=Yx (HA.o yV);replace zX:=Yx (zX.o yV);replace xK:=Yx (xK.o yV);replace yO:=Yx (yO.o yV);have vD:Hid (Zz W w1):=tV;clear sA yV tV
  go_wp2_with (refine wpList_load_mid rfl 43 _ rfl w.heap.size 0 rfl [Zg v.wd,Zg v.ak,.slice sa v.ss.length sc,.slice ta v.tt.length tc,b0,I,b2,M,b4,b5,b6,c0,c1,c2,c3,c4,c5] _ (xL.o w1 vD.o).1.range underlying43 rfl (by kernel_rfl) ?_);refine(yG.o w1 (xL.o w1 vD.o).2.2.2).mono ?_;rintro o j ⟨sb,F,ub,zC,T,P,L,qb,E,mb,B,rs,rfl,tU,sN⟩
  obtain⟨Q,zZ⟩:∃t,t=BS v (Za sb v.ss.length F) (Za ub v.tt.length zC) T P L (Za qb v.qs.length E) (Za mb v.ms.length B):=⟨_,rfl⟩;have yW:Q.length=17/\∀u∈Q,u.oneCell'=true:=by obtain⟨a,h,_⟩:=tU.gj;rw[zZ];exact⟨rfl,by rw[h];simp[BS,Value.oneCell']⟩
  rw[←zZ];have z1:=vD.o.size;have z2:=sN.size;have tH:=Yx (Zb zZ tU);have zR:Hid (Q.length=17/\∀u∈Q,u.oneCell'=true):=yW;have vH:Hid (w.heap.size+3<=w1.heap.size/\w1.heap.size<=j.heap.size):=⟨by omega,z2⟩;have sG:=vD.o.trans (sN.mono z1);have xJ:Hid (∀X,Zz j X->∀V k,(∀b∈V,b<w.heap.size+3)->Tn V X k->Lg v k.heap.size k Q):=fun X hX=>by rw[zZ];exact tU.cl vH.o.1 hX
  have A:Hid (∀X,Zz j X->Aa X w.heap.size [Zg v.wd,Zg v.ak,.slice sa v.ss.length sc,.slice ta v.tt.length tc,b0,I,b2,M,b4,b5,b6,c0,c1,c2,c3,c4,c5]/\Aa X (w.heap.size+1) (Yo e.kd e.s e.nm e.num e.tx ra e.rf.length rc)/\Aa X (w.heap.size+2) CN/\Zz w X):=fun X hX=>xL.o X (sG.trans (hX.mono sG.size));obtain⟨D0,tN⟩:∃t,t=dL (Fz 0 v ⟨#[]⟩ ⟨#[]⟩) Q:=⟨_,rfl⟩
  have tO:D0.length=22/\∀u∈D0,u.oneCell'=true:=by rw[tN];exact Ju yW
  have tD:Hid (prog.built 45 [(1,.agg Q.toArray)]=some D0.toArray):=by show _=some D0.toArray;rw[tN];exact RL yW.1
  obtain⟨W3,sL⟩:∃Y,Y=(j.alloc (.cells Yc 45)).setCells j.heap.size 0 D0.toArray.toList:=⟨_,rfl⟩;have hb:=boxed (X:=j) (cs:=D0) (z:=CN) (T:=45) (by rw[tO.1];rfl);have e3:W3=(j.alloc (.cells CN.toArray 45)).setCells j.heap.size 0 D0:=sL;rw[←e3]at hb;obtain⟨x3,M,z3⟩:=hb
  have tE:Hid ((j.alloc (.cells Yc 45)).there j.heap.size 0 D0.toArray.size/\D0.length=22/\∀x∈D0,x.oneCell'=true):=⟨by rw[show D0.toArray.size=22 from by rw[List.size_toArray];exact tO.1];exact(Aa.new j CN 45).there,tO⟩;have vU:Hid (Aa W3 j.heap.size (dL (Fz 0 v ⟨#[]⟩ ⟨#[]⟩) Q)):=by show Aa W3 j.heap.size _;rw[←tN];exact x3
  have xO:Hid (Zz j W3):=M;have rD:=Yx sL;have qO:W3.heap.size=j.heap.size+1:=z3;clear sL e3 x3 M z3 tN tO tU sN zZ yW sG xL vD z1 z2;go_upto_region 4 with(first
   |refine Gm rfl 45 _ rfl [(1,.agg Q.toArray)] (by kernel_rfl) D0.toArray tD.o ?_
   |refine wpList_store_mid rfl 45 _ _ rfl j.heap.size 0 D0.toArray rfl rfl tE.o.1 (by rw[List.size_toArray,tE.o.2.1];kernel_rfl) (all_oneCell_toArray tE.o.2.2) ?_)
  rw[←rD.o];clear rD tD tE
  as_aux_lemma=>
  obtain⟨qT,_⟩:=(A.o W3 xO.o).1 0 _ rfl;go_wp2_with (refine wpList_load_mid rfl 60 _ rfl (w.heap.size+1) 0 rfl (Yo e.kd e.s e.nm e.num e.tx ra e.rf.length rc) _ (A.o W3 xO.o).2.1.range underlying60 rfl (by kernel_rfl) ?_);refine(sE.o W3 (A.o W3 xO.o).2.2.2).mono ?_;rintro o m ⟨rfl,tW⟩;have z4:=tW.size;have yM:Hid (Zz j m):=xO.o.trans (tW.mono xO.o.size)
  have zS:=Yx (Aa.same vU.o (tW.block _ (by omega)));have tI:Hid (j.heap.size<m.heap.size):=by show j.heap.size<m.heap.size;omega
  clear qT sE vU xO tW z4 qO;cases hoe:e.ok v.wd with
  |false=>
   have yA:Hid (Hu v e (Fz 1 v ⟨#[]⟩ ⟨#[]⟩)):=.inr ⟨yC.o,.inl ⟨1,⟨#[]⟩,⟨#[]⟩,.inl ⟨hoe,rfl,rfl,rfl⟩,rfl⟩⟩;have yE:=yM.o;clear hoe yG xI HK HA HZ yQ HF zX xK yO HL;obtain⟨⟨k0,g0⟩,_⟩:=RM zS.o zR.o.1;obtain⟨Y9,zH⟩:∃Y,Y=m.setCell (Ze (j.heap.size) 0) (Zg 1):=⟨_,rfl⟩;have yX:Aa Y9 j.heap.size (dL (Fz 1 v ⟨#[]⟩ ⟨#[]⟩) Q):=by rw[zH];exact Qj zS.o 1
   have zG:Below j.heap.size j Y9:=by rw[zH];exact yE.setCell (Zx) _
   have yP:=Yx zH;have yD:=Yx yX;clear zH yX yE;go_upto_region 6 with fail;rw[←yP.o];clear yP k0 g0;obtain⟨D,hD⟩:∃t:Zj,t=dL (Fz 1 v ⟨#[]⟩ ⟨#[]⟩) Q:=⟨_,rfl⟩;have vG:Hid (Aa Y9 j.heap.size D):=by rw[hD];exact yD.o
   have J:=Yx (Nl (A.o Y9 zG).2.2 (xJ.o Y9 zG) yA.o zR.o hD);clear hD zG tH xJ A zR;go_wp2_with (first
    |refine wpList_load_mid rfl 45 _ rfl j.heap.size 0 rfl D _ vG.o.range underlying45 rfl (by rw[J.o.1.1];kernel_rfl) ?_
    |refine wpList_store_mid rfl 45 _ _ rfl (w.heap.size+2) 0 D.toArray rfl rfl J.o.2.1 (by rw[List.size_toArray,J.o.1.1];kernel_rfl) (all_oneCell_toArray J.o.1.2) ?_)
   exact bodyPost_ret (BN results16 _ _ (w.heap.size+2) D _ rfl (Aa.range J.o.2.2.1) underlying45 rfl (by rw[J.o.1.1];kernel_rfl)) rfl J.o.2.2.2
  |true=>
   have sD:Hid (e.ok v.wd=true):=hoe;replace HA:=Yx (HA.o hoe);replace HF:=Yx (HF.o hoe);replace zX:=Yx (zX.o hoe);have rF:Hid _:=fun r xa xc pa O la lc X=>HZ.o r xa xc pa O la lc X yC.o hoe;clear hoe HZ
   as_aux_lemma=>
   go_upto_region 7 with fail;go_cut [6] (fun O wx=>∃(n:Nat) (H:Zj),O=Yz n/\Hid (Aa wx n H/\m.heap.size<=n/\Zz m wx/\Jv v e Z wx H))
   case first=>
    have zP:Hid (∀X k,(Aa X w.heap.size [Zg v.wd,Zg v.ak,.slice sa v.ss.length sc,.slice ta v.tt.length tc,b0,I,b2,M,b4,b5,b6,c0,c1,c2,c3,c4,c5]/\Aa X (w.heap.size+1) (Yo e.kd e.s e.nm e.num e.tx ra e.rf.length rc))->Zz X k->Aa k w.heap.size [Zg v.wd,Zg v.ak,.slice sa v.ss.length sc,.slice ta v.tt.length tc,b0,I,b2,M,b4,b5,b6,c0,c1,c2,c3,c4,c5]/\Aa k (w.heap.size+1) (Yo e.kd e.s e.nm e.num e.tx ra e.rf.length rc)):=fun X k h1 h2=>⟨Aa.below h1.1 h2,Aa.below h1.2 h2⟩
    have tG:Hid (∀X k (V:List Nat),(Aa X w.heap.size [Zg v.wd,Zg v.ak,.slice sa v.ss.length sc,.slice ta v.tt.length tc,b0,I,b2,M,b4,b5,b6,c0,c1,c2,c3,c4,c5]/\Aa X (w.heap.size+1) (Yo e.kd e.s e.nm e.num e.tx ra e.rf.length rc))->(∀b∈V,m.heap.size<=b)->Tn V X k->Aa k w.heap.size [Zg v.wd,Zg v.ak,.slice sa v.ss.length sc,.slice ta v.tt.length tc,b0,I,b2,M,b4,b5,b6,c0,c1,c2,c3,c4,c5]/\Aa k (w.heap.size+1) (Yo e.kd e.s e.nm e.num e.tx ra e.rf.length rc)):=fun X k V h1 h2 h3=>⟨Aa.same h1.1 (h3.block _ h1.1.lt (fun h=>by have:=h2 _ h;have:=tI.o;have:=vH.o;omega)),Aa.same h1.2 (h3.block _ h1.2.lt (fun h=>by have:=h2 _ h;have:=tI.o;have:=vH.o;omega))⟩
    have sF:Hid (∀X k n,(Aa X w.heap.size [Zg v.wd,Zg v.ak,.slice sa v.ss.length sc,.slice ta v.tt.length tc,b0,I,b2,M,b4,b5,b6,c0,c1,c2,c3,c4,c5]/\Aa X (w.heap.size+1) (Yo e.kd e.s e.nm e.num e.tx ra e.rf.length rc))->m.heap.size<=n->Tn [n] X k->Aa k w.heap.size [Zg v.wd,Zg v.ak,.slice sa v.ss.length sc,.slice ta v.tt.length tc,b0,I,b2,M,b4,b5,b6,c0,c1,c2,c3,c4,c5]/\Aa k (w.heap.size+1) (Yo e.kd e.s e.nm e.num e.tx ra e.rf.length rc)):=fun X k n h1 h2 h3=>tG.o X k [n] h1 (by simp;exact h2) h3
    have yN:Hid (∀X,Zz m X->Zz w X):=fun X hX=>(A.o X (yM.o.trans (hX.mono yM.o.size))).2.2.2;have sT:Hid (∀X k H,Jv v e Z X H->Zz X k->Jv v e Z k H):=fun X k H h1 h2=>by
     rcases h1 with h|⟨r,xa,xc,pa,O,la,lc,h3,h4,h5⟩
     ·exact .inl h
     ·exact .inr ⟨r,xa,xc,pa,O,la,lc,h3,h4,yQ.o _ _ _ _ _ _ _ _ h5 _ h2⟩
    have xU:Hid (∀X n H,m.heap.size<=n->Zz m X->X.heap[n]?=some (.cells z12.toArray 82 (0,0))->Jv v e Z X H->Hid (Aa (X.setCells n 0 H.toArray.toList) n H/\m.heap.size<=n/\Zz m (X.setCells n 0 H.toArray.toList)/\Jv v e Z (X.setCells n 0 H.toArray.toList) H)):=fun X n H h1 h2 h3 h4=>by
     have t:=AP n H 0 X;refine⟨(Aa.fy (l:=z12) h3).ba H (by rw[h4.small.1];rfl),h1,h2.trans (t.below h2.size (by simp;exact h1)),?_⟩;rcases h4 with h|⟨r,xa,xc,pa,O,la,lc,h5,h6,h7⟩
     ·exact .inl h
     ·exact .inr ⟨r,xa,xc,pa,O,la,lc,h5,h6,rF.o _ _ _ _ _ _ _ _ h5 h7 n _ h3 t⟩
    refine wp_region_held_drew (S:=fun X=>Aa X w.heap.size [Zg v.wd,Zg v.ak,.slice sa v.ss.length sc,.slice ta v.tt.length tc,b0,I,b2,M,b4,b5,b6,c0,c1,c2,c3,c4,c5]/\Aa X (w.heap.size+1) (Yo e.kd e.s e.nm e.num e.tx ra e.rf.length rc)) (by kernel_rfl) (show _/\_ from⟨(A.o m yM.o).1,(A.o m yM.o).2.1⟩) (fun hS=> ?_)
    refine Bq 0 ⟨some 23,.fieldAddr 43 (.tmp 2) 3,0, "l7_vault.go:78",#[],none⟩ (Yy w.heap.size 4) (by exact hS) ?_;try simp only[Act.put,Az]
    refine Et 1 ⟨some 24,.load 40 (.tmp 23),40, "l7_vault.go:78",#[Al 0],none⟩ (.agg #[b0,I,b2,M,b4,b5,b6]) (by exact yieldsIf_load_mid (by rfl) 40 _ rfl (w.heap.size) 4 rfl [b0,I,b2,M,b4,b5,b6] _ (fun X h=>Aa.fp [Zg v.wd,Zg v.ak,.slice sa v.ss.length sc,.slice ta v.tt.length tc] [b0,I,b2,M,b4,b5,b6] [c0,c1,c2,c3,c4,c5] h.1) underlying40 rfl (by kernel_rfl)) (by exact hS) ?_
    try simp only[Act.put,Az]
    refine Et 3 ⟨some 26,.load 60 (.tmp 3),60, "l7_vault.go:78",#[],none⟩ (.agg (Yp e.kd e.s e.nm e.num e.tx ra e.rf.length rc)) (by exact yieldsIf_load_mid (by rfl) 60 _ rfl (w.heap.size+1) 0 rfl (Yo e.kd e.s e.nm e.num e.tx ra e.rf.length rc) _ (fun X h=>h.2.range) underlying60 rfl (by kernel_rfl)) (by exact hS) ?_;try simp only[Act.put,Az]
    refine wpAnyH_ready (rs:=[2,5]) (by kernel_rfl) (by simp) ?_;refine AllReadyH.cons (o:=⟨some 25,.call ⟨.value (.func 37),#[.tmp 24],#[40]⟩,40, "l7_vault.go:78",#[Al 1],none⟩) rfl (fun K f=> ?_) (AllReadyH.cons (o:=⟨some 6,.alloc 82,0, "l7_vault.go:78",#[],none⟩) rfl (fun K f=> ?_) AllReadyH.nil)
    ·go_simp;refine(xI.o m.drew (yN.o _ (Below.refl _ _).drew)).mono ?_;rintro o w5 ⟨cs,V,rfl,xM,sK,tP⟩;try go_simp
     refine f.out _ _ (zP.o _ _ hS xM) (fun yH=> ?_);clear f K;try simp only[Act.put,Az]
     have zT:Below m.heap.size m w5:=(Below.refl m.heap.size m).drew.trans xM;have yI:∀b∈V,m.heap.size<=b/\b<w5.heap.size:=sK;refine wpAnyH_ready (rs:=[4,5]) (by kernel_rfl) (by simp) ?_
     refine AllReadyH.cons (o:=⟨some 27,.call ⟨.value (.func 36),#[.tmp 25,.tmp 26],#[40,60]⟩,82, "l7_vault.go:78",#[Al 2,Al 3,⟨2,.chain⟩],none⟩) rfl (fun K f=> ?_) (AllReadyH.cons (o:=⟨some 6,.alloc 82,0, "l7_vault.go:78",#[],none⟩) rfl (fun K f=> ?_) AllReadyH.nil)
     ·go_simp;refine(HA.o cs V w5 (yN.o _ zT) tP).mono ?_;rintro o w6 ⟨zY,H,rfl,U⟩;have yU:=U.small.1;have vL:=U.small.2;try go_simp
      refine f.out _ _ (tG.o _ _ V yH (fun b hb=>(yI b hb).1) zY) (fun zU=> ?_);clear f K;try simp only[Act.put,Az]
      have yR:Below m.heap.size m w6:=zT.trans (zY.below zT.size (fun b hb=>(yI b hb).1));refine Br 5 ⟨some 6,.alloc 82,0, "l7_vault.go:78",#[],none⟩ (fun K f=> ?_);go_simp;refine f.out _ _ (zP.o _ _ zU (Zy)) (fun yS=> ?_);clear f K;try simp only[Act.put,Az]
      have nB:(w6.alloc (.cells z12.toArray 82)).heap[w6.heap.size]?=some (.cells z12.toArray 82 (0,0)):=heap_alloc_new _ _;have bB:Below w6.heap.size w6 (w6.alloc (.cells z12.toArray 82)):=(Zy);refine Br 6 ⟨none,.store 82 (.tmp 6) (.tmp 27),0, "l7_vault.go:78",#[Al 5,Al 4,⟨4,.chain⟩,Ag 0,Ag 1,Ag 2,Ag 3,Ag 4,Ag 5],none⟩ (fun K f=> ?_);rw[if_pos (by rfl)]
      refine wp_store_mid 82 _ _ rfl w6.heap.size 0 H.toArray rfl rfl (by rw[show H.toArray.size=12 from by rw[List.size_toArray];exact yU];exact(Aa.fy (l:=z12) nB).there) (by rw[List.size_toArray,yU];kernel_rfl) (all_oneCell_toArray vL) ?_;refine f.out _ _ (sF.o _ _ _ yS yR.size (AP _ _ _ _)) (fun zV=> ?_);clear f K;try simp only[Act.put]
      refine wpAnyH_done (by kernel_rfl) ?_ _;go_wp2_with fail;go_meet;exact⟨w6.heap.size,H,rfl,xU.o _ w6.heap.size H yR.size (yR.trans (bB.mono yR.size)) nB (sT.o _ _ _ U bB)⟩
     ·go_simp;refine f.out _ _ (zP.o _ _ yH (Zy)) (fun zU=> ?_);clear f K;try simp only[Act.put,Az]
      have bB:Below w5.heap.size w5 (w5.alloc (.cells z12.toArray 82)):=(Zy);have sJ:=zT.trans (bB.mono zT.size);refine Br 4 ⟨some 27,.call ⟨.value (.func 36),#[.tmp 25,.tmp 26],#[40,60]⟩,82, "l7_vault.go:78",#[Al 2,Al 3,⟨2,.chain⟩],none⟩ (fun K f=> ?_);go_simp;refine(HA.o cs V _ (yN.o _ sJ) (HK.o _ _ _ _ tP bB)).mono ?_;rintro o w6 ⟨zY,H,rfl,U⟩;have yU:=U.small.1;have vL:=U.small.2
      try go_simp
      refine f.out _ _ (tG.o _ _ V zU (fun b hb=>(yI b hb).1) zY) (fun yS=> ?_);clear f K;try simp only[Act.put,Az]
      have yR:Below m.heap.size m w6:=sJ.trans (zY.below sJ.size (fun b hb=>(yI b hb).1));have nB:w6.heap[w5.heap.size]?=some (.cells z12.toArray 82 (0,0)):=(zY.block w5.heap.size (by simp) (fun h=>by have:=(yI _ h).2;omega)).trans (show(w5.alloc (.cells z12.toArray 82)).heap[w5.heap.size]?=_ from heap_alloc_new _ _)
      refine Br 6 ⟨none,.store 82 (.tmp 6) (.tmp 27),0, "l7_vault.go:78",#[Al 5,Al 4,⟨4,.chain⟩,Ag 0,Ag 1,Ag 2,Ag 3,Ag 4,Ag 5],none⟩ (fun K f=> ?_);rw[if_pos (by rfl)]
      refine wp_store_mid 82 _ _ rfl w5.heap.size 0 H.toArray rfl rfl (by rw[show H.toArray.size=12 from by rw[List.size_toArray];exact yU];exact(Aa.fy (l:=z12) nB).there) (by rw[List.size_toArray,yU];kernel_rfl) (all_oneCell_toArray vL) ?_;refine f.out _ _ (sF.o _ _ _ yS zT.size (AP _ _ _ _)) (fun zV=> ?_);clear f K;try simp only[Act.put]
      refine wpAnyH_done (by kernel_rfl) ?_ _;go_wp2_with fail;go_meet;exact⟨w5.heap.size,H,rfl,xU.o w6 w5.heap.size H zT.size yR nB U⟩
    ·go_simp;refine f.out _ _ (zP.o _ _ hS (Zy)) (fun yH=> ?_);clear f K;try simp only[Act.put,Az]
     have bB:Below m.heap.size m (m.alloc (.cells z12.toArray 82)).drew:=(Zy).drew;refine Br 2 ⟨some 25,.call ⟨.value (.func 37),#[.tmp 24],#[40]⟩,40, "l7_vault.go:78",#[Al 1],none⟩ (fun K f=> ?_);go_simp;refine(xI.o _ (yN.o _ bB)).mono ?_;rintro o w5 ⟨cs,V,rfl,xM,sK,tP⟩;try go_simp
     refine f.out _ _ (zP.o _ _ yH xM) (fun zU=> ?_);clear f K;try simp only[Act.put,Az]
     have zT:Below m.heap.size m w5:=bB.trans (xM.mono bB.size);have yI:∀b∈V,m.heap.size<b/\b<w5.heap.size:=fun b hb=>by have:=sK b hb;simp at this;omega
     refine Br 4 ⟨some 27,.call ⟨.value (.func 36),#[.tmp 25,.tmp 26],#[40,60]⟩,82, "l7_vault.go:78",#[Al 2,Al 3,⟨2,.chain⟩],none⟩ (fun K f=> ?_);go_simp;refine(HA.o cs V w5 (yN.o _ zT) tP).mono ?_;rintro o w6 ⟨zY,H,rfl,U⟩;have yU:=U.small.1;have vL:=U.small.2;try go_simp
     refine f.out _ _ (tG.o _ _ V zU (fun b hb=>by have:=yI b hb;omega) zY) (fun yS=> ?_);clear f K;try simp only[Act.put,Az]
     have yR:Below m.heap.size m w6:=zT.trans (zY.below zT.size (fun b hb=>by have:=yI b hb;omega));have nB:w6.heap[m.heap.size]?=some (.cells z12.toArray 82 (0,0)):=(zY.block m.heap.size (by have:=xM.size;simp at this;omega) (fun h=>by have:=(yI _ h).1;omega)).trans ((xM.block m.heap.size (by simp)).trans (show(m.alloc (.cells z12.toArray 82)).heap[m.heap.size]?=_ from heap_alloc_new _ _))
     refine Br 6 ⟨none,.store 82 (.tmp 6) (.tmp 27),0, "l7_vault.go:78",#[Al 5,Al 4,⟨4,.chain⟩,Ag 0,Ag 1,Ag 2,Ag 3,Ag 4,Ag 5],none⟩ (fun K f=> ?_);rw[if_pos (by rfl)]
     refine wp_store_mid 82 _ _ rfl m.heap.size 0 H.toArray rfl rfl (by rw[show H.toArray.size=12 from by rw[List.size_toArray];exact yU];exact(Aa.fy (l:=z12) nB).there) (by rw[List.size_toArray,yU];kernel_rfl) (all_oneCell_toArray vL) ?_;refine f.out _ _ (sF.o _ _ _ yS (Zx) (AP _ _ _ _)) (fun zV=> ?_);clear f K;try simp only[Act.put]
     refine wpAnyH_done (by kernel_rfl) ?_ _;go_wp2_with fail;go_meet;exact⟨m.heap.size,H,rfl,xU.o w6 m.heap.size H (Zx) yR nB U⟩
   case rest=>
   revert wc;intro w7 hcut;obtain⟨n,H,rfl,hcut⟩:=hcut;obtain⟨xC,qL,tL,rV⟩:=hcut.o;have z7:=tL.size;have xP:Hid (Zz j w7):=yM.o.trans (tL.mono yM.o.size);replace zS:=Yx (Aa.same zS.o (tL.block _ tI.o));have vI:Hid (j.heap.size<n/\n<w7.heap.size):=⟨by have:=tI.o;omega,xC.ltL rV.small.1⟩;clear hcut tL HA xI HK rF yM z7 qL;rcases rV with⟨c,p,q,xS,rfl⟩|⟨r,xa,xc,pa,O,la,lc,hy,rfl,hz⟩
   ·have qK:(c==0)=false:=by have:=Fu.code xS;simp;omega
    have yA:Hid (Hu v e (Fz c v p q)):=.inr ⟨yC.o,.inl ⟨c,p,q,.inr ⟨sD.o,.inl xS⟩,rfl⟩⟩;obtain⟨u0,_⟩:=xC 0 _ rfl;obtain⟨qR,_⟩:=xC 10 _ rfl;obtain⟨qS,_⟩:=xC 11 _ rfl;obtain⟨⟨k0,g0⟩,⟨qP,qI⟩,qQ,qJ⟩:=RM zS.o zR.o.1;obtain⟨Y9,zH⟩:∃Y,Y=((w7.setCell (Ze (j.heap.size) 0) (Zg c)).setCell (Ze (j.heap.size) 20) (.string p)).setCell (Ze (j.heap.size) 21) (.string q):=⟨_,rfl⟩
    have yX:Aa Y9 j.heap.size (dL (Fz c v p q) Q):=by rw[zH];exact WT zS.o zR.o.1 c p q
    have zG:Below j.heap.size j Y9:=by rw[zH];exact((xP.o.setCell (Zx) _).setCell (Zx) _).setCell (Zx) _
    have qN:n≠j.heap.size:=by have:=vI.o;omega
    have yP:=Yx zH;have yD:=Yx yX;clear zH yX xC xS yG yQ HF zX xK yO HL;go_upto_region 12 with fail;rw[←yP.o];clear yP k0 g0 qP qI qQ qJ u0 qR qS qK qN;obtain⟨D,hD⟩:∃t:Zj,t=dL (Fz c v p q) Q:=⟨_,rfl⟩;have vG:Hid (Aa Y9 j.heap.size D):=by rw[hD];exact yD.o
    have J:=Yx (Nl (A.o Y9 zG).2.2 (xJ.o Y9 zG) yA.o zR.o hD);clear hD zG tH xJ A zR;go_wp2_with (first
     |refine wpList_load_mid rfl 45 _ rfl j.heap.size 0 rfl D _ vG.o.range underlying45 rfl (by rw[J.o.1.1];kernel_rfl) ?_
     |refine wpList_store_mid rfl 45 _ _ rfl (w.heap.size+2) 0 D.toArray rfl rfl J.o.2.1 (by rw[List.size_toArray,J.o.1.1];kernel_rfl) (all_oneCell_toArray J.o.1.2) ?_)
    exact bodyPost_ret (BN results16 _ _ (w.heap.size+2) D _ rfl (Aa.range J.o.2.2.1) underlying45 rfl (by rw[J.o.1.1];kernel_rfl)) rfl J.o.2.2.2
   have vE:=Yx xC;have Hy:Hid (e.yes v r):=hy;have tJ:Hid (Z r xa xc pa O la lc w7):=hz;obtain⟨u0,_⟩:=xC 0 _ rfl;clear xC hy hz
   as_aux_lemma=>
   go_upto_region 13 with fail;clear u0;go_cut [51] (fun bg wx=>bg=.bool false/\Hid (Zz w7 wx))
   case first=>
    have qM:(e.kd==1)=false:=by simpa using tF.o
    refine wp_region_held_drew (S:=fun X=>Aa X (w.heap.size+1) (Yo e.kd e.s e.nm e.num e.tx ra e.rf.length rc)/\Aa X w.heap.size [Zg v.wd,Zg v.ak,.slice sa v.ss.length sc,.slice ta v.tt.length tc,b0,I,b2,M,b4,b5,b6,c0,c1,c2,c3,c4,c5]/\Aa X n [Zf,Zg v.wd,Zg r.now,Zg r.given,Zg r.ae,.slice xa r.ks.length xc,.slice pa r.ps.length O,.slice la r.ls.length lc,.string r.sm,Zg r.le,Zd,Zd]) (by kernel_rfl) (show _/\_/\_ from⟨(A.o w7 xP.o).2.1,(A.o w7 xP.o).1,vE.o⟩) (fun hS=> ?_)
    refine Bq 0 ⟨some 41,.fieldAddr 60 (.tmp 3) 0,0, "l7_vault.go:85",#[],none⟩ (Yz (w.heap.size+1)) (by exact hS) ?_;try simp only[Act.put,Az]
    refine Et 1 ⟨some 42,.load 3 (.tmp 41),3, "l7_vault.go:85",#[Al 0],none⟩ (Zg e.kd) (by exact Or.inl ⟨by rfl,fun X hX=>by have h1:=(hX.1 0 _ rfl).1;go_simp⟩) (by exact hS) ?_;try simp only[Act.put,Az]
    refine Bq 2 ⟨some 43,.binOp .eql 3 (.tmp 42) (.const (Zg 1)) 3,4, "l7_vault.go:85",#[Al 1],none⟩ (.bool false) (by exact hS) ?_;try simp only[Act.put,Az]
    refine Bq 3 ⟨some 44,.move (.tmp 43),4, "l7_vault.go:85",#[Al 2],none⟩ (.bool false) (by exact hS) ?_;try simp only[Act.put,Az]
    refine DV 4 ⟨some 45,.fieldAddr 82 (.tmp 6) 1,0, "l7_vault.go:85",#[⟨3,.guard⟩],some (3,true)⟩ (by exact hS) ?_;try simp only[Act.put,Az]
    refine DV 5 ⟨some 46,.load 40 (.tmp 45),40, "l7_vault.go:85",#[Al 4,⟨3,.guard⟩],some (3,true)⟩ (by exact hS) ?_;try simp only[Act.put,Az]
    refine DV 6 ⟨some 47,.call ⟨.value (.func 38),#[.tmp 46],#[40]⟩,3, "l7_vault.go:85",#[Al 5,⟨3,.chain⟩,⟨3,.guard⟩],some (3,true)⟩ (by exact hS) ?_;try simp only[Act.put,Az]
    refine DV 7 ⟨some 48,.fieldAddr 43 (.tmp 2) 1,0, "l7_vault.go:85",#[⟨3,.guard⟩],some (3,true)⟩ (by exact hS) ?_;try simp only[Act.put,Az]
    refine DV 8 ⟨some 49,.load 3 (.tmp 48),3, "l7_vault.go:85",#[Al 7,⟨3,.guard⟩],some (3,true)⟩ (by exact hS) ?_;try simp only[Act.put,Az]
    refine DV 9 ⟨some 50,.binOp .gtr 3 (.tmp 47) (.tmp 49) 3,4, "l7_vault.go:85",#[Al 6,Al 8,⟨3,.guard⟩],some (3,true)⟩ (by exact hS) ?_;try simp only[Act.put,Az]
    refine Bq 10 ⟨some 51,.pick (.tmp 44) (.tmp 50) (.const (.bool false)),4, "l7_vault.go:85",#[Al 3,Al 9],none⟩ (.bool false) (by exact hS) ?_;try simp only[Act.put,Az]
    refine wpAnyH_done (by kernel_rfl) ?_ _;go_wp2_with fail;go_meet;exact⟨rfl,(Below.refl w7.heap.size w7).drew⟩
   case rest=>
   revert wc;intro i hcut;obtain⟨rfl,zO⟩:=hcut;have qU:=zO.o.size;have zA:Hid (Zz j i):=xP.o.trans (zO.o.mono xP.o.size);replace zS:=Yx (Aa.same zS.o (zO.o.block _ (by have:=vI.o;omega)));replace vE:=Yx (Aa.below vE.o zO.o);replace tJ:Hid (Z r xa xc pa O la lc i):=yQ.o _ _ _ _ _ _ _ _ tJ.o _ zO.o;have xX:Hid (j.heap.size<n/\n<i.heap.size):=⟨vI.o.1,by have:=vI.o;omega⟩;clear zO xP vI qU
   have sC:Hid (¬e.gw v r):=by show ¬(e.fw v r=true);simp[Ed.fw];exact fun h=>absurd h tF.o
   obtain⟨rY,_⟩:=(A.o i zA.o).1 2 _ rfl;obtain⟨rZ,_⟩:=(A.o i zA.o).1 3 _ rfl;obtain⟨rU,rX⟩:=HL.o;have rR:=yO.o.2;by_cases hfull:v.ss.length+v.tt.length=4000
   ·have yA:Hid (Hu v e (Fz 9 v ⟨#[]⟩ ⟨#[]⟩)):=.inr ⟨yC.o,.inl ⟨9,⟨#[]⟩,⟨#[]⟩,.inr ⟨sD.o,.inr ⟨rfl,rfl,r,Hy.o,.inr ⟨sC.o,hfull,rfl⟩⟩⟩,rfl⟩⟩;have sP:¬((v.ss.length:Int)+(v.tt.length:Int)<4000):=by omega
    have yE:=zA.o;clear yG yQ HF zX xK yO HL;go_upto_region 17 with fail;clear rY rZ sP hfull rU rX rR;obtain⟨⟨k0,g0⟩,_⟩:=RM zS.o zR.o.1;obtain⟨Y9,zH⟩:∃Y,Y=i.setCell (Ze (j.heap.size) 0) (Zg 9):=⟨_,rfl⟩;have yX:Aa Y9 j.heap.size (dL (Fz 9 v ⟨#[]⟩ ⟨#[]⟩) Q):=by rw[zH];exact Qj zS.o 9
    have zG:Below j.heap.size j Y9:=by rw[zH];exact yE.setCell (Zx) _
    have yP:=Yx zH;have yD:=Yx yX;clear zH yX yE;go_upto_region 18 with fail;rw[←yP.o];clear yP k0 g0;obtain⟨D,hD⟩:∃t:Zj,t=dL (Fz 9 v ⟨#[]⟩ ⟨#[]⟩) Q:=⟨_,rfl⟩;have vG:Hid (Aa Y9 j.heap.size D):=by rw[hD];exact yD.o
    have J:=Yx (Nl (A.o Y9 zG).2.2 (xJ.o Y9 zG) yA.o zR.o hD);clear hD zG tH xJ A zR;go_wp2_with (first
     |refine wpList_load_mid rfl 45 _ rfl j.heap.size 0 rfl D _ vG.o.range underlying45 rfl (by rw[J.o.1.1];kernel_rfl) ?_
     |refine wpList_store_mid rfl 45 _ _ rfl (w.heap.size+2) 0 D.toArray rfl rfl J.o.2.1 (by rw[List.size_toArray,J.o.1.1];kernel_rfl) (all_oneCell_toArray J.o.1.2) ?_)
    exact bodyPost_ret (BN results16 _ _ (w.heap.size+2) D _ rfl (Aa.range J.o.2.2.1) underlying45 rfl (by rw[J.o.1.1];kernel_rfl)) rfl J.o.2.2.2
   have sP:(v.ss.length:Int)+(v.tt.length:Int)<4000:=by omega
   have sV:Hid (Jt v e r):=⟨sD.o,Hy.o,sC.o,hfull⟩;clear sC hfull
   as_aux_lemma=>
   go_upto_region 19 with fail;clear rY rZ sP rR rU rX;clear tH zR zS xJ;go_wp2_with (refine wpList_load_mid rfl 43 _ rfl w.heap.size 0 rfl [Zg v.wd,Zg v.ak,.slice sa v.ss.length sc,.slice ta v.tt.length tc,b0,I,b2,M,b4,b5,b6,c0,c1,c2,c3,c4,c5] _ (A.o i zA.o).1.range underlying43 rfl (by kernel_rfl) ?_);refine(yG.o i (A.o i zA.o).2.2.2).mono ?_
   rintro o d ⟨sb,F,ub,zC,T,P,L,qb,E,mb,B,rs,rfl,xD,xF⟩;obtain⟨C,hC⟩:∃t,t=BS v (Za sb v.ss.length F) (Za ub v.tt.length zC) T P L (Za qb v.qs.length E) (Za mb v.ms.length B):=⟨_,rfl⟩;have tM:C.length=17/\∀u∈C,u.oneCell'=true:=by obtain⟨a,h,_⟩:=xD.gj;rw[hC];exact⟨rfl,by rw[h];simp[BS,Value.oneCell']⟩
   rw[←hC];have qB:=xF.size;obtain⟨G,vA⟩:∃Y,Y=(d.alloc (.cells Ya 43)).setCells d.heap.size 0 C.toArray.toList:=⟨_,rfl⟩;have hb:=boxed (X:=d) (cs:=C) (z:=Xz) (T:=43) (by rw[tM.1];rfl);have rG:G=(d.alloc (.cells Xz.toArray 43)).setCells d.heap.size 0 C:=vA;rw[←rG]at hb;obtain⟨sR,sH,tC⟩:=hb
   have xA:Hid ((d.alloc (.cells Ya 43)).there d.heap.size 0 C.toArray.size/\C.length=17/\∀x∈C,x.oneCell'=true):=⟨by rw[show C.toArray.size=17 from by rw[List.size_toArray];exact tM.1];exact(Aa.new d Xz 43).there,tM⟩
   have zN:Hid (Aa G d.heap.size [Zg v.wd,Zg v.ak,Za sb v.ss.length F,Za ub v.tt.length zC,Zg v.sw,Zg v.now,Zg v.given,Zg v.ae,T,P,L,Zg v.ph,Za qb v.qs.length E,Za mb v.ms.length B,Zg v.ag,Zg v.at_,Zg v.ro]):=by show Aa G d.heap.size [Zg v.wd,Zg v.ak,Za sb v.ss.length F,Za ub v.tt.length zC,Zg v.sw,Zg v.now,Zg v.given,Zg v.ae,T,P,L,Zg v.ph,Za qb v.qs.length E,Za mb v.ms.length B,Zg v.ag,Zg v.at_,Zg v.ro];rw[hC]at sR;exact sR
   have yL:=xF.trans (sH.mono xF.size);have zK:Hid (Zz j G):=zA.o.trans (yL.mono zA.o.size);have zJ:Hid (AL G i.heap.size (Za sb v.ss.length F) (Za ub v.tt.length zC) T P L (Za qb v.qs.length E) (Za mb v.ms.length B) rs v/\∀g∈Cx (Za sb v.ss.length F) (Za ub v.tt.length zC) T P L (Za qb v.qs.length E) (Za mb v.ms.length B) rs,g<d.heap.size):=⟨xD.below sH,xD.cg⟩
   have xQ:Hid (w.heap.size+3<=j.heap.size/\j.heap.size<n/\n<i.heap.size/\i.heap.size<=d.heap.size/\G.heap.size=d.heap.size+1):=⟨by have:=vH.o;omega,xX.o.1,xX.o.2,qB,tC⟩;have zM:Hid (Zz i G):=yL;have vQ:=Yx vA;clear vA rG sR sH tC qB hC tM xD xF yL yG xX vH
   go_upto_region 20 with(refine wpList_store_mid rfl 43 _ _ rfl d.heap.size 0 C.toArray rfl rfl xA.o.1 (by rw[List.size_toArray,xA.o.2.1];kernel_rfl) (all_oneCell_toArray xA.o.2.2) ?_);rw[←vQ.o];clear vQ xA
   as_aux_lemma=>
   obtain⟨et,sO⟩:∃t,t=e.bt v.wd:=⟨_,rfl⟩;rw[←sO]at HF;obtain⟨yK,vM⟩:∃t,t=v.tt++[et]:=⟨_,rfl⟩;obtain⟨N,vO⟩:∃t,t=yK.length:=⟨_,rfl⟩;have rB:Hid (yK=v.tt++[e.bt v.wd]/\N=yK.length):=⟨by rw[vM,sO],vO⟩;have rA:Hid (yK=v.tt++[et]/\N=yK.length):=⟨vM,vO⟩;clear sO vM vO;simp only[Act.put]
   go_cut [] (fun wx=>∃(s:Zk) (y:Nat),Hid (Aa wx d.heap.size [Zg v.wd,Zg v.ak,Za sb v.ss.length F,.slice s N y,Zg v.sw,Zg v.now,Zg v.given,Zg v.ae,T,P,L,Zg v.ph,Za qb v.qs.length E,Za mb v.ms.length B,Zg v.ag,Zg v.at_,Zg v.ro]/\Zz i wx/\G.heap.size<=wx.heap.size/\Ao wx i.heap.size (Za sb v.ss.length F) v.ss/\Ao wx i.heap.size (.slice s N y) yK/\Ao wx i.heap.size (Za qb v.qs.length E) v.qs/\Ao wx i.heap.size (Za mb v.ms.length B) v.ms/\∀g,Ak (.slice s N y)=some g->g≠d.heap.size))
   case first=>
    have zP:Hid (∀X k,(Aa X w.heap.size [Zg v.wd,Zg v.ak,.slice sa v.ss.length sc,.slice ta v.tt.length tc,b0,I,b2,M,b4,b5,b6,c0,c1,c2,c3,c4,c5]/\Aa X (w.heap.size+1) (Yo e.kd e.s e.nm e.num e.tx ra e.rf.length rc))->Zz X k->Aa k w.heap.size [Zg v.wd,Zg v.ak,.slice sa v.ss.length sc,.slice ta v.tt.length tc,b0,I,b2,M,b4,b5,b6,c0,c1,c2,c3,c4,c5]/\Aa k (w.heap.size+1) (Yo e.kd e.s e.nm e.num e.tx ra e.rf.length rc)):=fun X k h1 h2=>⟨Aa.below h1.1 h2,Aa.below h1.2 h2⟩
    have yN:Hid (∀X,Zz G X->Zz w X):=fun X hX=>(A.o X (zK.o.trans (hX.mono zK.o.size))).2.2.2
    have sW:Hid (∀X,Zz G X->∃(s:Zk) (y:Nat) (Y:Zh),(Builtin.append_ #[22,22] 22 #[Za ub v.tt.length zC,Za X.heap.size 1 1]).run prog (X.alloc (.cells #[.string et] 9))=.ok (.slice s N y) Y/\(Aa Y w.heap.size [Zg v.wd,Zg v.ak,.slice sa v.ss.length sc,.slice ta v.tt.length tc,b0,I,b2,M,b4,b5,b6,c0,c1,c2,c3,c4,c5]/\Aa Y (w.heap.size+1) (Yo e.kd e.s e.nm e.num e.tx ra e.rf.length rc))/\(Y.cell? (Ze (d.heap.size) 3)=some (Za ub v.tt.length zC)/\Y.frozen? ⟨d.heap.size,3,none⟩=false)/\(Aa (Y.setCell (Ze (d.heap.size) 3) (.slice s N y)) w.heap.size [Zg v.wd,Zg v.ak,.slice sa v.ss.length sc,.slice ta v.tt.length tc,b0,I,b2,M,b4,b5,b6,c0,c1,c2,c3,c4,c5]/\Aa (Y.setCell (Ze (d.heap.size) 3) (.slice s N y)) (w.heap.size+1) (Yo e.kd e.s e.nm e.num e.tx ra e.rf.length rc))/\Hid (Aa (Y.setCell (Ze (d.heap.size) 3) (.slice s N y)) d.heap.size [Zg v.wd,Zg v.ak,Za sb v.ss.length F,.slice s N y,Zg v.sw,Zg v.now,Zg v.given,Zg v.ae,T,P,L,Zg v.ph,Za qb v.qs.length E,Za mb v.ms.length B,Zg v.ag,Zg v.at_,Zg v.ro]/\Zz i (Y.setCell (Ze (d.heap.size) 3) (.slice s N y))/\G.heap.size<=(Y.setCell (Ze (d.heap.size) 3) (.slice s N y)).heap.size/\Ao (Y.setCell (Ze (d.heap.size) 3) (.slice s N y)) i.heap.size (Za sb v.ss.length F) v.ss/\Ao (Y.setCell (Ze (d.heap.size) 3) (.slice s N y)) i.heap.size (.slice s N y) yK/\Ao (Y.setCell (Ze (d.heap.size) 3) (.slice s N y)) i.heap.size (Za qb v.qs.length E) v.qs/\Ao (Y.setCell (Ze (d.heap.size) 3) (.slice s N y)) i.heap.size (Za mb v.ms.length B) v.ms/\∀g,Ak (.slice s N y)=some g->g≠d.heap.size)):=fun X hX=>by
     have pB:=hX.size;have hz:=xQ.o;obtain⟨vM,vO⟩:=rA.o;have tT:=A.o X (zK.o.trans (hX.mono zK.o.size));have hA:=zJ.o.1.below hX;have bA:Below X.heap.size X (X.alloc (.cells #[.string et] 9)):=(Zy)
     obtain⟨V',Y,hr,hO,hg,hk⟩:=WQ (X.alloc (.cells #[.string et] 9)) i.heap.size (Za ub v.tt.length zC) v.tt (hA.u.below bA) ⟨X.heap.size,0,none⟩ 1 et (by simp[go_sem]) (by have:=HL.o.2;omega) (by simp;omega) 22;rw[←vM]at hO;obtain⟨s,y,rfl,_⟩:=hO.row;rw[←vO]at hr hO hk;have qZ:=hA.u.bj (g:=ub) rfl;have pA:ub<d.heap.size:=zJ.o.2 ub (by unfold Cx;simp[Ak])
     have tY:Tn [ub] X Y:=((Tn.of (V:=[]) bA).mono (by simp)).trans (Tn.grown hg (by simp));have tZ:Tn [d.heap.size] Y (Y.setCell (Ze (d.heap.size) 3) (.slice s N y)):=Tn.set _ _ _ _ (by simp)
     have s1:Aa Y w.heap.size [Zg v.wd,Zg v.ak,.slice sa v.ss.length sc,.slice ta v.tt.length tc,b0,I,b2,M,b4,b5,b6,c0,c1,c2,c3,c4,c5]/\Aa Y (w.heap.size+1) (Yo e.kd e.s e.nm e.num e.tx ra e.rf.length rc):=⟨Aa.same tT.1 (tY.block _ tT.1.lt (by simp;omega)),Aa.same tT.2.1 (tY.block _ tT.2.1.lt (by simp;omega))⟩;have xo:=Aa.below zN.o hX;have xY:=Aa.same xo (tY.block _ xo.lt (by simp;omega))
     have vK:∀g,Ak (.slice s N y)=some g->g≠d.heap.size:=fun g yT=>by
      rcases hk with h|h
      ·rw[h]at yT;have:ub=g:=Option.some.inj yT;omega
      ·rw[h]at yT;have:_=g:=Option.some.inj yT;simp at this;omega
     have sM:=hA.ap
     have vC:∀{R:Value} {l:Zl},Ao X i.heap.size R l->(∀g,Ak R=some g->g∈Cx (Za sb v.ss.length F) (Za ub v.tt.length zC) T P L (Za qb v.qs.length E) (Za mb v.ms.length B) rs)->Ak R≠some ub->Ao (Y.setCell (Ze (d.heap.size) 3) (.slice s N y)) i.heap.size R l:=fun h1 h2 h3=>(h1.an tY (fun g yT xR=>h3 (by simp at xR;rw[yT,xR]))).an tZ (fun g yT xR=>by have:=zJ.o.2 g (h2 g yT);simp at xR;omega)
     have bY:Below i.heap.size i Y:=(zM.o.trans (hX.mono zM.o.size)).trans (tY.below (by omega) (by simp;omega))
     exact⟨s,y,Y,hr,s1,xY 3 _ rfl,⟨Aa.same s1.1 (tZ.block _ s1.1.lt (by simp;omega)),Aa.same s1.2 (tZ.block _ s1.2.lt (by simp;omega))⟩,xY.set 3 _,bY.trans (tZ.below bY.size (by simp;omega)),by have:=tY.size;simp;omega,vC hA.s (fun g h=>by unfold Cx;rw[h];simp) (sM.1 ub rfl),hO.an tZ (fun g h=>by have:=vK g h;simp;omega),vC hA.q (fun g h=>by unfold Cx;rw[h];simp) (sM.2 ub rfl).1,vC hA.m (fun g h=>by unfold Cx;rw[h];simp) (sM.2 ub rfl).2,vK⟩
    refine wp_region_held_drew (S:=fun X=>Aa X w.heap.size [Zg v.wd,Zg v.ak,.slice sa v.ss.length sc,.slice ta v.tt.length tc,b0,I,b2,M,b4,b5,b6,c0,c1,c2,c3,c4,c5]/\Aa X (w.heap.size+1) (Yo e.kd e.s e.nm e.num e.tx ra e.rf.length rc)) (by kernel_rfl) (show _/\_ from⟨(A.o G zK.o).1,(A.o G zK.o).2.1⟩) (fun hS=> ?_)
    refine Bq 0 ⟨some 68,.fieldAddr 43 (.tmp 7) 2,0, "l7_vault.go:94",#[],none⟩ (Yy d.heap.size 2) (by exact hS) ?_;try simp only[Act.put,Az]
    refine Bq 1 ⟨some 69,.fieldAddr 35 (.tmp 68) 1,0, "l7_vault.go:94",#[Al 0],none⟩ (Yy d.heap.size 3) (by exact hS) ?_;try simp only[Act.put,Az]
    refine Et 3 ⟨some 71,.load 60 (.tmp 3),60, "l7_vault.go:94",#[],none⟩ (.agg (Yp e.kd e.s e.nm e.num e.tx ra e.rf.length rc)) (by exact yieldsIf_load_mid (by rfl) 60 _ rfl (w.heap.size+1) 0 rfl (Yo e.kd e.s e.nm e.num e.tx ra e.rf.length rc) _ (fun X h=>h.2.range) underlying60 rfl (by kernel_rfl)) (by exact hS) ?_;try simp only[Act.put,Az]
    refine Bq 4 ⟨some 72,.fieldAddr 43 (.tmp 2) 0,0, "l7_vault.go:94",#[],none⟩ (Yz w.heap.size) (by exact hS) ?_;try simp only[Act.put,Az]
    refine Et 5 ⟨some 73,.load 3 (.tmp 72),3, "l7_vault.go:94",#[Al 4],none⟩ (Zg v.wd) (by exact Or.inl ⟨by rfl,fun X hX=>by have h1:=(hX.1 0 _ rfl).1;go_simp⟩) (by exact hS) ?_;try simp only[Act.put,Az]
    refine wpAnyH_ready (rs:=[2,6]) (by kernel_rfl) (by simp) ?_;refine AllReadyH.cons (o:=⟨some 70,.load 22 (.tmp 69),22, "l7_vault.go:94",#[Al 1],none⟩) rfl (fun K f=> ?_) (AllReadyH.cons (o:=⟨some 74,.call ⟨.value (.func 39),#[.tmp 71,.tmp 73],#[60,3]⟩,9, "l7_vault.go:94",#[Al 3,Al 5],none⟩) rfl (fun K f=> ?_) AllReadyH.nil)
    ·have qX:=(zN.o 3 _ rfl).1;go_simp;refine f.out _ _ hS (fun yH=> ?_);clear f K;try simp only[Act.put,Az]
     refine Br 6 ⟨some 74,.call ⟨.value (.func 39),#[.tmp 71,.tmp 73],#[60,3]⟩,9, "l7_vault.go:94",#[Al 3,Al 5],none⟩ (fun K f=> ?_);go_simp;refine(HF.o G.drew (yN.o _ (Below.refl _ _).drew)).mono ?_;rintro o wf ⟨rfl,vJ⟩;try go_simp
     refine f.out _ _ (zP.o _ _ yH vJ) (fun zU=> ?_);clear f K;try simp only[Act.put,Az]
     have xN:Below G.heap.size G wf:=(Below.refl G.heap.size G).drew.trans vJ;have c3:=(Aa.below zN.o xN 3 _ rfl).1;obtain⟨s,y,Yf,xH,tQ,⟨y3,g3⟩,tR,xG⟩:=sW.o wf xN;refine Br 7 ⟨some 75,.buildSlice 22 1 #[(0,.tmp 74)],22, "l7_vault.go:94",#[Al 6],none⟩ (fun K f=> ?_);go_simp;refine f.out _ _ (zP.o _ _ zU (Zy)) (fun yS=> ?_);clear f K;try simp only[Act.put,Az]
     refine Br 8 ⟨some 76,.call ⟨.builtin .append,#[.tmp 70,.tmp 75],#[22,22]⟩,22, "l7_vault.go:94",#[Al 2,Al 7,⟨6,.chain⟩],none⟩ (fun K f=> ?_);refine BD rfl _ _ _ _ rfl (by rfl) (by rfl) xH ?_;refine f.out _ _ tQ (fun zV=> ?_);clear f K;try simp only[Act.put,Az]
     refine Bq 9 ⟨some 77,.fieldAddr 43 (.tmp 7) 2,0, "l7_vault.go:94",#[Ag 0,Ag 1,Ag 2,Ag 3,Ag 4,Ag 5,Ag 6,Ag 7,Ag 8],none⟩ (Yy d.heap.size 2) (by exact zV) ?_;try simp only[Act.put,Az]
     refine Bq 10 ⟨some 78,.fieldAddr 35 (.tmp 77) 1,0, "l7_vault.go:94",#[Al 9,Ag 0,Ag 1,Ag 2,Ag 3,Ag 4,Ag 5,Ag 6,Ag 7,Ag 8],none⟩ (Yy d.heap.size 3) (by exact zV) ?_;try simp only[Act.put,Az]
     refine Br 11 ⟨none,.store 22 (.tmp 78) (.tmp 76),0, "l7_vault.go:94",#[Al 10,Al 8,⟨8,.chain⟩,Ag 0,Ag 1,Ag 2,Ag 3,Ag 4,Ag 5,Ag 6,Ag 7,Ag 8],none⟩ (fun K f=> ?_);go_simp;refine f.out _ _ tR (fun rM=> ?_);clear f K;try simp only[Act.put]
     refine wpAnyH_done (by kernel_rfl) ?_ _;go_wp2_with fail;go_meet;exact⟨s,y,xG⟩
    ·go_simp;refine(HF.o G.drew (yN.o _ (Below.refl _ _).drew)).mono ?_;rintro o wf ⟨rfl,vJ⟩;try go_simp
     refine f.out _ _ (zP.o _ _ hS vJ) (fun yH=> ?_);clear f K;try simp only[Act.put,Az]
     have xN:Below G.heap.size G wf:=(Below.refl G.heap.size G).drew.trans vJ;have c3:=(Aa.below zN.o xN 3 _ rfl).1;obtain⟨s,y,Yf,xH,tQ,⟨y3,g3⟩,tR,xG⟩:=sW.o wf xN;refine wpAnyH_ready (rs:=[2,7]) (by kernel_rfl) (by simp) ?_
     refine AllReadyH.cons (o:=⟨some 70,.load 22 (.tmp 69),22, "l7_vault.go:94",#[Al 1],none⟩) rfl (fun K f=> ?_) (AllReadyH.cons (o:=⟨some 75,.buildSlice 22 1 #[(0,.tmp 74)],22, "l7_vault.go:94",#[Al 6],none⟩) rfl (fun K f=> ?_) AllReadyH.nil)
     ·go_simp;refine f.out _ _ yH (fun zU=> ?_);clear f K;try simp only[Act.put,Az]
      refine Br 7 ⟨some 75,.buildSlice 22 1 #[(0,.tmp 74)],22, "l7_vault.go:94",#[Al 6],none⟩ (fun K f=> ?_);go_simp;refine f.out _ _ (zP.o _ _ zU (Zy)) (fun yS=> ?_);clear f K;try simp only[Act.put,Az]
      refine Br 8 ⟨some 76,.call ⟨.builtin .append,#[.tmp 70,.tmp 75],#[22,22]⟩,22, "l7_vault.go:94",#[Al 2,Al 7,⟨6,.chain⟩],none⟩ (fun K f=> ?_);refine BD rfl _ _ _ _ rfl (by rfl) (by rfl) xH ?_;refine f.out _ _ tQ (fun zV=> ?_);clear f K;try simp only[Act.put,Az]
      refine Bq 9 ⟨some 77,.fieldAddr 43 (.tmp 7) 2,0, "l7_vault.go:94",#[Ag 0,Ag 1,Ag 2,Ag 3,Ag 4,Ag 5,Ag 6,Ag 7,Ag 8],none⟩ (Yy d.heap.size 2) (by exact zV) ?_;try simp only[Act.put,Az]
      refine Bq 10 ⟨some 78,.fieldAddr 35 (.tmp 77) 1,0, "l7_vault.go:94",#[Al 9,Ag 0,Ag 1,Ag 2,Ag 3,Ag 4,Ag 5,Ag 6,Ag 7,Ag 8],none⟩ (Yy d.heap.size 3) (by exact zV) ?_;try simp only[Act.put,Az]
      refine Br 11 ⟨none,.store 22 (.tmp 78) (.tmp 76),0, "l7_vault.go:94",#[Al 10,Al 8,⟨8,.chain⟩,Ag 0,Ag 1,Ag 2,Ag 3,Ag 4,Ag 5,Ag 6,Ag 7,Ag 8],none⟩ (fun K f=> ?_);go_simp;refine f.out _ _ tR (fun rM=> ?_);clear f K;try simp only[Act.put]
      refine wpAnyH_done (by kernel_rfl) ?_ _;go_wp2_with fail;go_meet;exact⟨s,y,xG⟩
     ·go_simp;refine f.out _ _ (zP.o _ _ yH (Zy)) (fun zU=> ?_);clear f K;try simp only[Act.put,Az]
      have qY:=(Aa.below zN.o (xN.trans ((Zy:Zz wf (wf.alloc (.cells #[.string et] 9))).mono xN.size)) 3 _ rfl).1;refine Br 2 ⟨some 70,.load 22 (.tmp 69),22, "l7_vault.go:94",#[Al 1],none⟩ (fun K f=> ?_);go_simp;refine f.out _ _ zU (fun yS=> ?_);clear f K;try simp only[Act.put,Az]
      refine Br 8 ⟨some 76,.call ⟨.builtin .append,#[.tmp 70,.tmp 75],#[22,22]⟩,22, "l7_vault.go:94",#[Al 2,Al 7,⟨6,.chain⟩],none⟩ (fun K f=> ?_);refine BD rfl _ _ _ _ rfl (by rfl) (by rfl) xH ?_;refine f.out _ _ tQ (fun zV=> ?_);clear f K;try simp only[Act.put,Az]
      refine Bq 9 ⟨some 77,.fieldAddr 43 (.tmp 7) 2,0, "l7_vault.go:94",#[Ag 0,Ag 1,Ag 2,Ag 3,Ag 4,Ag 5,Ag 6,Ag 7,Ag 8],none⟩ (Yy d.heap.size 2) (by exact zV) ?_;try simp only[Act.put,Az]
      refine Bq 10 ⟨some 78,.fieldAddr 35 (.tmp 77) 1,0, "l7_vault.go:94",#[Al 9,Ag 0,Ag 1,Ag 2,Ag 3,Ag 4,Ag 5,Ag 6,Ag 7,Ag 8],none⟩ (Yy d.heap.size 3) (by exact zV) ?_;try simp only[Act.put,Az]
      refine Br 11 ⟨none,.store 22 (.tmp 78) (.tmp 76),0, "l7_vault.go:94",#[Al 10,Al 8,⟨8,.chain⟩,Ag 0,Ag 1,Ag 2,Ag 3,Ag 4,Ag 5,Ag 6,Ag 7,Ag 8],none⟩ (fun K f=> ?_);go_simp;refine f.out _ _ tR (fun rM=> ?_);clear f K;try simp only[Act.put]
      refine wpAnyH_done (by kernel_rfl) ?_ _;go_wp2_with fail;go_meet;exact⟨s,y,xG⟩
   case rest=>
   revert wc;intro zI hcut;obtain⟨s,y,hcut⟩:=hcut;obtain⟨qA,tK,qV,tA,tB,vX,vW,vK⟩:=hcut.o;have vS:=Yx qA;have yB:=Yx (Zb tA (Zb tB (Zb vX vW)))
   have vF:Hid ((∀g,Ak (Za sb v.ss.length F)=some g->g≠d.heap.size)/\(∀g,Ak (.slice s N y)=some g->g≠d.heap.size)/\(∀g,Ak (Za qb v.qs.length E)=some g->g≠d.heap.size)/\(∀g,Ak (Za mb v.ms.length B)=some g->g≠d.heap.size)):=⟨fun g h=>by have:=zJ.o.2 g (by unfold Cx;rw[h];simp);omega,vK,fun g h=>by have:=zJ.o.2 g (by unfold Cx;rw[h];simp);omega,fun g h=>by have:=zJ.o.2 g (by unfold Cx;rw[h];simp);omega⟩
   replace xQ:Hid (w.heap.size+3<=j.heap.size/\j.heap.size<n/\i.heap.size<=zI.heap.size/\n<i.heap.size/\i.heap.size<=d.heap.size/\d.heap.size<zI.heap.size):=by have:=xQ.o;exact⟨by omega,by omega,by omega,by omega,by omega,by omega⟩
   have yZ:=Yx (Aa.below vE.o tK);have vV:Hid (Z r xa xc pa O la lc zI):=yQ.o _ _ _ _ _ _ _ _ tJ.o _ tK;have xT:Hid (Zz j zI):=zA.o.trans (tK.mono zA.o.size);clear hcut qA tK qV tA tB vX vW vK rA HF zJ zN zK zM zA vE tJ yQ
   as_aux_lemma=>
   go_wp2_with (refine wpList_load_mid rfl 40 _ rfl n 1 rfl (Yt v.wd r.now r.given r.ae xa r.ks.length xc pa r.ps.length O la r.ls.length lc) _ (Aa.fp [Zf] (Yt v.wd r.now r.given r.ae xa r.ks.length xc pa r.ps.length O la r.ls.length lc) [.string r.sm,Zg r.le,Zd,Zd] yZ.o) underlying40 rfl (by kernel_rfl) ?_);refine(zX.o r xa xc pa O la lc zI Hy.o vV.o).mono ?_;rintro o sB ⟨T2,P2,L2,sQ,rfl,yF,zB⟩
   obtain⟨za,zc,rfl⟩:=As yF.ai;obtain⟨ya,yc,rfl⟩:=As yF.pins;obtain⟨ka,kc,rfl⟩:=As yF.aq;have qC:=zB.size;have hz:=xQ.o;obtain⟨zE,xB⟩:∃Y,Y=sB.setCells d.heap.size 4 (Yt v.wd r.now r.given r.ae za r.ks.length zc ya r.ps.length yc ka r.ls.length kc):=⟨_,rfl⟩;have yJ:Tn [d.heap.size] sB zE:=by rw[xB];exact AP _ _ _ _
   have sS:=Aa.below vS.o zB;have vT:Hid (Aa zE d.heap.size [Zg v.wd,Zg v.ak,Za sb v.ss.length F,.slice s N y,Zg v.wd,Zg r.now,Zg r.given,Zg r.ae,.slice za r.ks.length zc,.slice ya r.ps.length yc,.slice ka r.ls.length kc,Zg v.ph,Za qb v.qs.length E,Za mb v.ms.length B,Zg v.ag,Zg v.at_,Zg v.ro]):=by
    show Aa zE d.heap.size [Zg v.wd,Zg v.ak,Za sb v.ss.length F,.slice s N y,Zg v.wd,Zg r.now,Zg r.given,Zg r.ae,.slice za r.ks.length zc,.slice ya r.ps.length yc,.slice ka r.ls.length kc,Zg v.ph,Za qb v.qs.length E,Za mb v.ms.length B,Zg v.ag,Zg v.at_,Zg v.ro];rw[xB]
    exact Aa.dv (Yt v.wd r.now r.given r.ae za r.ks.length zc ya r.ps.length yc ka r.ls.length kc) [Zg v.wd,Zg v.ak,Za sb v.ss.length F,.slice s N y] [Zg v.sw,Zg v.now,Zg v.given,Zg v.ae,T,P,L] (Yg v.ph (some ⟨qb,0,none⟩) v.qs.length E (some ⟨mb,0,none⟩) v.ms.length B v.ag v.at_ v.ro) sB sS rfl
   have xW:Hid (sB.there d.heap.size 4 7/\((Ys v.wd r.now r.given r.ae za r.ks.length zc ya r.ps.length yc ka r.ls.length kc):Array Value).all (·.oneCell')=true):=⟨Aa.dz [Zg v.wd,Zg v.ak,Za sb v.ss.length F,.slice s N y] [Zg v.sw,Zg v.now,Zg v.given,Zg v.ae,T,P,L] (Yg v.ph (some ⟨qb,0,none⟩) v.qs.length E (some ⟨mb,0,none⟩) v.ms.length B v.ag v.at_ v.ro) sS,by kernel_rfl⟩
   have sU:Hid (AO zE zI.heap.size (.slice za r.ks.length zc) (.slice ya r.ps.length yc) (.slice ka r.ls.length kc) sQ r.ks r.ps r.ls):=yF.an yJ (by simp;omega);have zF:Hid (Ao zE i.heap.size (Za sb v.ss.length F) v.ss/\Ao zE i.heap.size (.slice s N y) yK/\Ao zE i.heap.size (Za qb v.qs.length E) v.qs/\Ao zE i.heap.size (Za mb v.ms.length B) v.ms):=by
    refine⟨(yB.o.1.below zB).an yJ (fun g hg=> ?_),(yB.o.2.1.below zB).an yJ (fun g hg=> ?_),(yB.o.2.2.1.below zB).an yJ (fun g hg=> ?_),(yB.o.2.2.2.below zB).an yJ (fun g hg=> ?_)⟩
    ·have:=vF.o.1 g hg;simp;omega
    ·have:=vF.o.2.1 g hg;simp;omega
    ·have:=vF.o.2.2.1 g hg;simp;omega
    ·have:=vF.o.2.2.2 g hg;simp;omega
   have sI:=xT.o.trans (zB.mono xT.o.size);have yY:Hid (Zz j zE):=sI.trans (yJ.below sI.size (by simp;omega));have vP:=Yx (Aa.same (Aa.below yZ.o zB) (yJ.block _ (Aa.below yZ.o zB).lt (by simp;omega)));have qW:Hid (zI.heap.size<=zE.heap.size):=Zm qC yJ.size;have vR:=Yx xB;clear xB yJ sS zB yF sI qC hz vS yB yZ xT vV zX
   go_upto_region 22 with(refine wpList_store_mid rfl 40 _ _ rfl d.heap.size 4 (Ys v.wd r.now r.given r.ae za r.ks.length zc ya r.ps.length yc ka r.ls.length kc) rfl rfl xW.o.1 (by kernel_rfl) xW.o.2 ?_);rw[←vR.o];clear vR xW
   as_aux_lemma=>
   obtain⟨e0,_⟩:=(A.o zE yY.o).2.1 0 _ rfl;obtain⟨e1,_⟩:=(A.o zE yY.o).2.1 1 _ rfl;rw[sY.o]at e1;have qM:(e.kd==1)=false:=by simpa using tF.o
   have qH:=Yx vT.o;have sX:=Yx vP.o;have zG:=yY.o;obtain⟨Q,zZ⟩:∃t:Zj,t=[Zg v.wd,Zg v.ak,Za sb v.ss.length F,.slice s N y,Zg v.wd,Zg r.now,Zg r.given,Zg r.ae,.slice za r.ks.length zc,.slice ya r.ps.length yc,.slice ka r.ls.length kc,Zg v.ph,Za qb v.qs.length E,Za mb v.ms.length B,Zg v.ag,Zg v.at_,Zg v.ro]:=⟨_,rfl⟩;have rE:Hid (Aa zE d.heap.size Q/\Q.length=17):=by rw[zZ];exact⟨qH.o,rfl⟩
   have yW:Q.length=17/\∀u∈Q,u.oneCell'=true:=by rw[zZ];exact⟨rfl,by simp[Value.oneCell']⟩
   obtain⟨D,hD⟩:∃t:Zj,t=dL (dyes v e r) Q:=⟨_,rfl⟩;have tD:Hid (prog.built 45 [(1,.agg Q.toArray),(2,.string r.sm),(3,Zg r.le)]=some D.toArray):=by rw[hD];exact My yW.1 _ _
   have J:Hid _:=Nl (A.o zE zG).2.2 (fun V k hV t0=>by
    have hz:=xQ.o;have rT:∀b∈V,b<i.heap.size:=fun b hb=>by have:=hV b hb;omega
    have tX:∀g,i.heap.size<=g->g∉V:=fun g hg xR=>by have:=rT g xR;omega
    rw[zZ];exact YE yO.o.1 (zF.o.1.an t0 (fun g hg=>tX g (zF.o.1.bj hg).1)) (zF.o.2.1.an t0 (fun g hg=>tX g (zF.o.2.1.bj hg).1)) rB.o.1 rB.o.2 ((sU.o.mono xQ.o.2.2.1).an t0 rT) (zF.o.2.2.1.an t0 (fun g hg=>tX g (zF.o.2.2.1.bj hg).1)) (xK.o r Hy.o).symm rfl (zF.o.2.2.2.an t0 (fun g hg=>tX g (zF.o.2.2.2.bj hg).1))) (.inr ⟨yC.o,.inr ⟨r,sV.o,rfl⟩⟩) yW hD
   obtain⟨u8,_⟩:=sX.o 8 _ rfl;obtain⟨u9,_⟩:=sX.o 9 _ rfl;clear hD zZ yW zG A vT vP yY vF tF sY;go_wp2_with (first
    |refine wpList_load_mid rfl 43 _ rfl d.heap.size 0 rfl Q _ rE.o.1.range underlying43 rfl (by rw[rE.o.2];kernel_rfl) ?_
    |refine Gm rfl 45 _ rfl [(1,.agg Q.toArray),(2,.string r.sm),(3,Zg r.le)] (by kernel_rfl) D.toArray tD.o ?_
    |refine wpList_store_mid rfl 45 _ _ rfl (w.heap.size+2) 0 D.toArray rfl rfl J.o.2.1 (by rw[List.size_toArray,J.o.1.1];kernel_rfl) (all_oneCell_toArray J.o.1.2) ?_)
   exact bodyPost_ret (BN results16 _ _ (w.heap.size+2) D _ rfl (Aa.range J.o.2.2.1) underlying45 rfl (by rw[J.o.1.1];kernel_rfl)) rfl J.o.2.2.2
end Go.Proofs.YtdgblkklkaklhaaGreatDoor
