import Derived.Test.YtlhhpofjkgmbeaaGreatDoorX25
set_option maxRecDepth 100000
set_option maxHeartbeats 16000000
namespace Go.Proofs.YtlhhpofjkgmbeaaGreatDoor
open Go.ChangeShapes Go.WideShapes Go.ChangeAt Go.RowKit _root_.Go.Proofs.Tryz
theorem Aap(v:Vd)(e:Ed)(sa ta:Zk)(sc tc:Nat)(b0 N b2 U b4 b5 b6 c0 c1 c2 c3 c4 c5:Value)(ra:Zk)(rc:Nat)(K:Zj->List Nat->Zh->Prop)(Z:Rs->Zk->Nat->Zk->Nat->Zk->Nat->Zh->Prop)(w:Zh)
 (hlen:v.ss.length<=1048576/\v.tt.length<=1048576)
 (qE:∀X,Zz w X->Calls prog 33 #[.agg #[Zg v.wd,Zg v.ak,.slice sa v.ss.length sc,.slice ta v.tt.length tc,b0,N,b2,U,b4,b5,b6,c0,c1,c2,c3,c4,c5]] X fun o k=>Ar (Ei v) X k o)
 (rZ:Ei v->∀X,Zz w X->Calls prog 34 #[.agg #[Zg v.wd,Zg v.ak,.slice sa v.ss.length sc,.slice ta v.tt.length tc,b0,N,b2,U,b4,b5,b6,c0,c1,c2,c3,c4,c5]] X fun o k=>∃O y ub zG T P L M n J m rs,o=.returned (.agg (BS v (Za O v.ss.length y) (Za ub v.tt.length zG) T P L (Za M v.qs.length n) (Za J v.ms.length m)).toArray)/\AL k X.heap.size (Za O v.ss.length y) (Za ub v.tt.length zG) T P L (Za M v.qs.length n) (Za J v.ms.length m) rs v/\Zz X k)
 (qB:∀X,Zz w X->Calls prog 35 #[.agg (Yp e.kd e.s e.nm e.num e.tx ra e.rf.length rc),Zg v.wd] X fun o k=>o=.returned (.bool (e.ok v.wd))/\Zz X k)
 (rX:Ei v->∀X,Zz w X->Calls prog 37 #[.agg #[b0,N,b2,U,b4,b5,b6]] X fun o k=>∃cs V,o=.returned (.agg cs.toArray)/\Zz X k/\(∀b∈V,X.heap.size<=b/\b<k.heap.size)/\K cs V k)
 (i:∀cs V X k,K cs V X->Zz X k->K cs V k)
 (hA:Ei v->e.ok v.wd=true->∀cs V X,Zz w X->K cs V X->Calls prog 36 #[.agg cs.toArray,.agg (Yp e.kd e.s e.nm e.num e.tx ra e.rf.length rc)] X fun o k=>Tn V X k/\∃I,o=.returned (.agg I.toArray)/\Jv v e Z k I)
 (hZ:∀r xa xc pa pc la lc X,Ei v->e.ok v.wd=true->e.yes v r->Z r xa xc pa pc la lc X->∀E k,X.heap[E]?=some (.cells z12.toArray 82)->Tn [E] X k->Z r xa xc pa pc la lc k)
 (qF:∀r xa xc pa pc la lc X,Z r xa xc pa pc la lc X->∀k,Zz X k->Z r xa xc pa pc la lc k)
 (hF:e.ok v.wd=true->∀X,Zz w X->Calls prog 39 #[.agg (Yp e.kd e.s e.nm e.num e.tx ra e.rf.length rc),Zg v.wd] X fun o k=>o=.returned (.string (e.bt v.wd))/\Zz X k)
 (rY:Ei v->e.ok v.wd=true->∀r xa xc pa pc la lc X,e.yes v r->Z r xa xc pa pc la lc X->Calls prog 37 #[.agg (Ys v.wd r.now r.given r.ae xa r.ks.length xc pa r.ps.length pc la r.ls.length lc)] X fun o k=>∃T2 P2 L2 vE,o=.returned (.agg #[Zg v.wd,Zg r.now,Zg r.given,Zg r.ae,T2,P2,L2])/\AO k X.heap.size T2 P2 L2 vE r.ks r.ps r.ls/\Zz X k)
 (qD:Ei v->e.ok v.wd=true->∀r X T2 P2 L2 vE n2 M n J m,e.yes v r->AO X n2 T2 P2 L2 vE r.ks r.ps r.ls->Ao X n2 (Za M v.qs.length n) v.qs->Ao X n2 (Za J v.ms.length m) v.ms->Calls prog 40 #[.agg #[Zg v.wd,Zg r.now,Zg r.given,Zg r.ae,T2,P2,L2],.agg (Yk v.ph (some ⟨M,0,none⟩) v.qs.length n (some ⟨J,0,none⟩) v.ms.length m v.ag v.at_ v.ro),.string (e.held r)] X fun o k=>Zz X k/\∃Q3 M3,o=.returned (.agg #[Zg v.ph,Q3,M3,Zg v.ag,Zg v.at_,Zg v.ro])/\Ao k X.heap.size Q3 (shQ v.ph r.ks v.qs v.ms (e.held r))/\Ao k X.heap.size M3 v.ms)
 (qA:Ei v->∀r,e.yes v r->e.held r=⟨#[]⟩->(shQ v.ph r.ks v.qs v.ms (e.held r))=v.qs) (qH:e.kd≠1)
 (qN:Ei v->v.wd=v.sw/\v.ss.length+v.tt.length<=4000):
 Calls prog 16 #[.agg #[Zg v.wd,Zg v.ak,.slice sa v.ss.length sc,.slice ta v.tt.length tc,b0,N,b2,U,b4,b5,b6,c0,c1,c2,c3,c4,c5],.agg (Yp e.kd e.s e.nm e.num e.tx ra e.rf.length rc)] w (Ic v e w):=by
 obtain⟨W,hW⟩:∃W,W=((w.alloc (.cells #[Zg v.wd,Zg v.ak,.slice sa v.ss.length sc,.slice ta v.tt.length tc,b0,N,b2,U,b4,b5,b6,c0,c1,c2,c3,c4,c5] 43)).alloc (.cells (Yp e.kd e.s e.nm e.num e.tx ra e.rf.length rc) 60)).alloc (.cells Yc 45):=⟨_,rfl⟩;have bW:=(Bm hW).1;have zW:=(Bm hW).2.1;have xV:=(Bm hW).2.2.1;have xE:=(Bm hW).2.2.2.1;have xZ:Aa W (w.heap.size+2) CN:=(Bm hW).2.2.2.2
 have vA:Hid (∀X,Zz W X->Aa X w.heap.size [Zg v.wd,Zg v.ak,.slice sa v.ss.length sc,.slice ta v.tt.length tc,b0,N,b2,U,b4,b5,b6,c0,c1,c2,c3,c4,c5]/\Aa X (w.heap.size+1) (Yo e.kd e.s e.nm e.num e.tx ra e.rf.length rc)/\Aa X (w.heap.size+2) CN/\Zz w X):=fun X hX=>⟨Aa.below xV hX,Aa.below xE hX,Aa.below (v:=Zf) xZ hX,bW.trans (hX.mono bW.size)⟩;have HL:=Yx hlen;have rR:=Yx qE;have yQ:=Yx rZ
 have sR:=Yx qB;have xW:=Yx rX;have HK:=Yx i;have HA:=Yx hA;have HZ:=Yx hZ;have xF:=Yx qF;have tS:=Yx qH;have HF:=Yx hF;have yF:=Yx rY;have zI:=Yx qD;have yZ:=Yx qA;have xB:=Yx qN;have HW:=Yx hW;clear hW xV xE xZ hlen qE rZ qB rX i hA hZ qF hF rY qD qA qN qH;go_enter func16,ntmps16;go_upto_region 1 with fail;rw[←HW.o];clear HW
 go_wp2_with (refine wpList_load_mid rfl 43 _ rfl w.heap.size 0 rfl [Zg v.wd,Zg v.ak,.slice sa v.ss.length sc,.slice ta v.tt.length tc,b0,N,b2,U,b4,b5,b6,c0,c1,c2,c3,c4,c5] _ (vA.o W (Below.refl _ _)).1.range underlying43 rfl (by kernel_rfl) ?_);refine Calls.mono (rR.o W bW) ?_;rintro o w1 ⟨N,rfl,sN,sK⟩;clear rR;cases N with
 |false=>
  have vI:¬Ei v:=fun h=>by have:=sN.2 h;cases this
  obtain⟨_,_,xZ,N⟩:=vA.o w1 sK;obtain⟨W9,sH⟩:∃Y,Y=w1.setCells (w.heap.size+2) 0 (Xy 1):=⟨_,rfl⟩;have x9:Aa W9 (w.heap.size+2) (Xy 1):=by rw[sH];exact xZ.ba _ rfl
  have qV:Hid (Zz w W9):=N.trans (by rw[sH];exact(AP _ _ _ _).below N.size (by simp));have rM:=Yx (Zn (show((Xx 1):Array Value).all (·.oneCell')=true by simp[Value.oneCell']) xZ.there);have pA:=Yx x9;have qX:=Yx vI;have qZ:=Yx sH;clear sH x9 vI xZ N vA yQ sR xW HK HA HZ xF HF yF zI yZ xB HL sK sN
  go_wp2_with (refine wpList_store_mid rfl 45 _ _ rfl (w.heap.size+2) 0 (Xx 1) rfl rfl rM.o.2 (by kernel_rfl) rM.o.1 ?_);rw[←qZ.o];refine bodyPost_ret (BN results16 _ _ (w.heap.size+2) (Xy 1) _ rfl (Aa.range pA.o) underlying45 rfl (by kernel_rfl)) rfl ?_;exact⟨Fz 1 v0 ⟨#[]⟩ ⟨#[]⟩,Xz,.inl ⟨qX.o,rfl⟩,rfl,fun V k _ _=>(AL.nil k 0).gj,qV.o⟩
 |true=>
  have yU:=sN.1 rfl;have yM:Hid (Ei v):=yU;replace yQ:=Yx (yQ.o yU);replace xW:=Yx (xW.o yU);replace HA:=Yx (HA.o yU);replace yF:=Yx (yF.o yU);replace zI:=Yx (zI.o yU);replace yZ:=Yx (yZ.o yU);replace xB:=Yx (xB.o yU);have vR:Hid (Zz W w1):=sK;clear sN yU sK
  go_wp2_with (refine wpList_load_mid rfl 43 _ rfl w.heap.size 0 rfl [Zg v.wd,Zg v.ak,.slice sa v.ss.length sc,.slice ta v.tt.length tc,b0,N,b2,U,b4,b5,b6,c0,c1,c2,c3,c4,c5] _ (vA.o w1 vR.o).1.range underlying43 rfl (by kernel_rfl) ?_);refine(yQ.o w1 (vA.o w1 vR.o).2.2.2).mono ?_;rintro o j ⟨O,y,ub,zG,T,P,L,M,n,J,m,rs,rfl,sJ,rA⟩
  obtain⟨vs,yH⟩:∃t,t=BS v (Za O v.ss.length y) (Za ub v.tt.length zG) T P L (Za M v.qs.length n) (Za J v.ms.length m):=⟨_,rfl⟩;have xK:vs.length=17/\∀u∈vs,u.oneCell'=true:=by obtain⟨a,h,_⟩:=sJ.gj;rw[yH];exact⟨rfl,by rw[h];simp[BS,Value.oneCell']⟩
  rw[←yH];have z1:=vR.o.size;have z2:=rA.size;have tU:=Yx (Zb yH sJ);have zY:Hid (vs.length=17/\∀u∈vs,u.oneCell'=true):=xK;have vV:Hid (w.heap.size+3<=w1.heap.size/\w1.heap.size<=j.heap.size):=⟨by omega,z2⟩;have sT:=vR.o.trans (rA.mono z1);have xX:Hid (∀X,Zz j X->∀V k,(∀b∈V,b<w.heap.size+3)->Tn V X k->Lg v k.heap.size k vs):=fun X hX=>by rw[yH];exact sJ.cl vV.o.1 hX
  have F:Hid (∀X,Zz j X->Aa X w.heap.size [Zg v.wd,Zg v.ak,.slice sa v.ss.length sc,.slice ta v.tt.length tc,b0,N,b2,U,b4,b5,b6,c0,c1,c2,c3,c4,c5]/\Aa X (w.heap.size+1) (Yo e.kd e.s e.nm e.num e.tx ra e.rf.length rc)/\Aa X (w.heap.size+2) CN/\Zz w X):=fun X hX=>vA.o X (sT.trans (hX.mono sT.size));obtain⟨D0,sC⟩:∃t,t=dL (Fz 0 v ⟨#[]⟩ ⟨#[]⟩) vs:=⟨_,rfl⟩
  have sD:D0.length=22/\∀u∈D0,u.oneCell'=true:=by rw[sC];exact Ju xK
  have tQ:Hid (prog.built 45 [(1,.agg vs.toArray)]=some D0.toArray):=by show _=some D0.toArray;rw[sC];exact RL xK.1
  obtain⟨W3,sY⟩:∃Y,Y=(j.alloc (.cells Yc 45)).setCells j.heap.size 0 D0.toArray.toList:=⟨_,rfl⟩;have hb:=boxed (X:=j) (cs:=D0) (z:=CN) (T:=45) (by rw[sD.1];rfl);have e3:W3=(j.alloc (.cells CN.toArray 45)).setCells j.heap.size 0 D0:=sY;rw[←e3]at hb;obtain⟨x3,U,z3⟩:=hb
  have tR:Hid ((j.alloc (.cells Yc 45)).there j.heap.size 0 D0.toArray.size/\D0.length=22/\∀x∈D0,x.oneCell'=true):=⟨by rw[show D0.toArray.size=22 from by rw[List.size_toArray];exact sD.1];exact(Aa.new j CN 45).there,sD⟩;have tJ:Hid (Aa W3 j.heap.size (dL (Fz 0 v ⟨#[]⟩ ⟨#[]⟩) vs)):=by show Aa W3 j.heap.size _;rw[←sC];exact x3
  have vF:Hid (Zz j W3):=U;have rT:=Yx sY;have pO:W3.heap.size=j.heap.size+1:=z3;clear sY e3 x3 U z3 sC sD sJ rA yH xK sT vA vR z1 z2;go_upto_region 4 with(first
   |refine Gm rfl 45 _ rfl [(1,.agg vs.toArray)] (by kernel_rfl) D0.toArray tQ.o ?_
   |refine wpList_store_mid rfl 45 _ _ rfl j.heap.size 0 D0.toArray rfl rfl tR.o.1 (by rw[List.size_toArray,tR.o.2.1];kernel_rfl) (all_oneCell_toArray tR.o.2.2) ?_)
  rw[←rT.o];clear rT tQ tR
  as_aux_lemma=>
  obtain⟨pU,_⟩:=(F.o W3 vF.o).1 0 _ rfl;go_wp2_with (refine wpList_load_mid rfl 60 _ rfl (w.heap.size+1) 0 rfl (Yo e.kd e.s e.nm e.num e.tx ra e.rf.length rc) _ (F.o W3 vF.o).2.1.range underlying60 rfl (by kernel_rfl) ?_);refine(sR.o W3 (F.o W3 vF.o).2.2.2).mono ?_;rintro o s ⟨rfl,sL⟩;have z4:=sL.size;have yX:Hid (Zz j s):=vF.o.trans (sL.mono vF.o.size)
  have zZ:=Yx (Aa.same tJ.o (sL.block _ (by omega)));have tV:Hid (j.heap.size<s.heap.size):=by show j.heap.size<s.heap.size;omega
  clear pU sR tJ vF sL z4 pO;cases hoe:e.ok v.wd with
  |false=>
   have yK:Hid (Hu v e (Fz 1 v ⟨#[]⟩ ⟨#[]⟩)):=.inr ⟨yM.o,.inl ⟨1,⟨#[]⟩,⟨#[]⟩,.inl ⟨hoe,rfl,rfl,rfl⟩,rfl⟩⟩;have yO:=yX.o;clear hoe yQ xW HK HA HZ xF HF yF zI yZ xB HL;obtain⟨⟨k0,g0⟩,_⟩:=RM zZ.o zY.o.1;obtain⟨Y9,zK⟩:∃Y,Y=s.setCell (Ze (j.heap.size) 0) (Zg 1):=⟨_,rfl⟩;have xL:Aa Y9 j.heap.size (dL (Fz 1 v ⟨#[]⟩ ⟨#[]⟩) vs):=by rw[zK];exact Qj zZ.o 1
   have zJ:Below j.heap.size j Y9:=by rw[zK];exact yO.setCell (Zx) _
   have xD:=Yx zK;have yN:=Yx xL;clear zK xL yO;go_upto_region 6 with fail;rw[←xD.o];clear xD k0 g0;obtain⟨D,hD⟩:∃t:Zj,t=dL (Fz 1 v ⟨#[]⟩ ⟨#[]⟩) vs:=⟨_,rfl⟩;have vU:Hid (Aa Y9 j.heap.size D):=by rw[hD];exact yN.o
   have Q:=Yx (Nl (F.o Y9 zJ).2.2 (xX.o Y9 zJ) yK.o zY.o hD);clear hD zJ tU xX F zY;go_wp2_with (first
    |refine wpList_load_mid rfl 45 _ rfl j.heap.size 0 rfl D _ vU.o.range underlying45 rfl (by rw[Q.o.1.1];kernel_rfl) ?_
    |refine wpList_store_mid rfl 45 _ _ rfl (w.heap.size+2) 0 D.toArray rfl rfl Q.o.2.1 (by rw[List.size_toArray,Q.o.1.1];kernel_rfl) (all_oneCell_toArray Q.o.1.2) ?_)
   exact bodyPost_ret (BN results16 _ _ (w.heap.size+2) D _ rfl (Aa.range Q.o.2.2.1) underlying45 rfl (by rw[Q.o.1.1];kernel_rfl)) rfl Q.o.2.2.2
  |true=>
   have sQ:Hid (e.ok v.wd=true):=hoe;replace HA:=Yx (HA.o hoe);replace HF:=Yx (HF.o hoe);replace yF:=Yx (yF.o hoe);replace zI:=Yx (zI.o hoe);have rV:Hid _:=fun r xa xc pa pc la lc X=>HZ.o r xa xc pa pc la lc X yM.o hoe;clear hoe HZ
   as_aux_lemma=>
   go_upto_region 7 with fail;go_cut [6] (fun pc wx=>∃(E:Nat) (I:Zj),pc=Yz E/\Hid (Aa wx E I/\s.heap.size<=E/\Zz s wx/\Jv v e Z wx I))
   case first=>
    have zX:Hid (∀X k,(Aa X w.heap.size [Zg v.wd,Zg v.ak,.slice sa v.ss.length sc,.slice ta v.tt.length tc,b0,N,b2,U,b4,b5,b6,c0,c1,c2,c3,c4,c5]/\Aa X (w.heap.size+1) (Yo e.kd e.s e.nm e.num e.tx ra e.rf.length rc))->Zz X k->Aa k w.heap.size [Zg v.wd,Zg v.ak,.slice sa v.ss.length sc,.slice ta v.tt.length tc,b0,N,b2,U,b4,b5,b6,c0,c1,c2,c3,c4,c5]/\Aa k (w.heap.size+1) (Yo e.kd e.s e.nm e.num e.tx ra e.rf.length rc)):=fun X k h1 h2=>⟨Aa.below h1.1 h2,Aa.below h1.2 h2⟩
    have tT:Hid (∀X k (V:List Nat),(Aa X w.heap.size [Zg v.wd,Zg v.ak,.slice sa v.ss.length sc,.slice ta v.tt.length tc,b0,N,b2,U,b4,b5,b6,c0,c1,c2,c3,c4,c5]/\Aa X (w.heap.size+1) (Yo e.kd e.s e.nm e.num e.tx ra e.rf.length rc))->(∀b∈V,s.heap.size<=b)->Tn V X k->Aa k w.heap.size [Zg v.wd,Zg v.ak,.slice sa v.ss.length sc,.slice ta v.tt.length tc,b0,N,b2,U,b4,b5,b6,c0,c1,c2,c3,c4,c5]/\Aa k (w.heap.size+1) (Yo e.kd e.s e.nm e.num e.tx ra e.rf.length rc)):=fun X k V h1 h2 h3=>⟨Aa.same h1.1 (h3.block _ h1.1.lt (fun h=>by have:=h2 _ h;have:=tV.o;have:=vV.o;omega)),Aa.same h1.2 (h3.block _ h1.2.lt (fun h=>by have:=h2 _ h;have:=tV.o;have:=vV.o;omega))⟩
    have sS:Hid (∀X k E,(Aa X w.heap.size [Zg v.wd,Zg v.ak,.slice sa v.ss.length sc,.slice ta v.tt.length tc,b0,N,b2,U,b4,b5,b6,c0,c1,c2,c3,c4,c5]/\Aa X (w.heap.size+1) (Yo e.kd e.s e.nm e.num e.tx ra e.rf.length rc))->s.heap.size<=E->Tn [E] X k->Aa k w.heap.size [Zg v.wd,Zg v.ak,.slice sa v.ss.length sc,.slice ta v.tt.length tc,b0,N,b2,U,b4,b5,b6,c0,c1,c2,c3,c4,c5]/\Aa k (w.heap.size+1) (Yo e.kd e.s e.nm e.num e.tx ra e.rf.length rc)):=fun X k E h1 h2 h3=>tT.o X k [E] h1 (by simp;exact h2) h3
    have yY:Hid (∀X,Zz s X->Zz w X):=fun X hX=>(F.o X (yX.o.trans (hX.mono yX.o.size))).2.2.2;have rH:Hid (∀X k I,Jv v e Z X I->Zz X k->Jv v e Z k I):=fun X k I h1 h2=>by
     rcases h1 with h|⟨r,xa,xc,pa,pc,la,lc,h3,h4,h5⟩
     ·exact .inl h
     ·exact .inr ⟨r,xa,xc,pa,pc,la,lc,h3,h4,xF.o _ _ _ _ _ _ _ _ h5 _ h2⟩
    have vK:Hid (∀X E I,s.heap.size<=E->Zz s X->X.heap[E]?=some (.cells z12.toArray 82 (0,0))->Jv v e Z X I->Hid (Aa (X.setCells E 0 I.toArray.toList) E I/\s.heap.size<=E/\Zz s (X.setCells E 0 I.toArray.toList)/\Jv v e Z (X.setCells E 0 I.toArray.toList) I)):=fun X E I h1 h2 h3 h4=>by
     have t:=AP E I 0 X;refine⟨(Aa.fy (l:=z12) h3).ba I (by rw[h4.small.1];rfl),h1,h2.trans (t.below h2.size (by simp;exact h1)),?_⟩;rcases h4 with h|⟨r,xa,xc,pa,pc,la,lc,h5,h6,h7⟩
     ·exact .inl h
     ·exact .inr ⟨r,xa,xc,pa,pc,la,lc,h5,h6,rV.o _ _ _ _ _ _ _ _ h5 h7 E _ h3 t⟩
    refine wp_region_held_drew (S:=fun X=>Aa X w.heap.size [Zg v.wd,Zg v.ak,.slice sa v.ss.length sc,.slice ta v.tt.length tc,b0,N,b2,U,b4,b5,b6,c0,c1,c2,c3,c4,c5]/\Aa X (w.heap.size+1) (Yo e.kd e.s e.nm e.num e.tx ra e.rf.length rc)) (by kernel_rfl) (show _/\_ from⟨(F.o s yX.o).1,(F.o s yX.o).2.1⟩) (fun hS=> ?_)
    refine Bq 0 ⟨some 23,.fieldAddr 43 (.tmp 2) 3,0, "l7_vault.go:78",#[],none⟩ (Yy w.heap.size 4) (by exact hS) ?_;try simp only[Act.put,Az]
    refine Et 1 ⟨some 24,.load 40 (.tmp 23),40, "l7_vault.go:78",#[Al 0],none⟩ (.agg #[b0,N,b2,U,b4,b5,b6]) (by exact yieldsIf_load_mid (by rfl) 40 _ rfl (w.heap.size) 4 rfl [b0,N,b2,U,b4,b5,b6] _ (fun X h=>Aa.fp [Zg v.wd,Zg v.ak,.slice sa v.ss.length sc,.slice ta v.tt.length tc] [b0,N,b2,U,b4,b5,b6] [c0,c1,c2,c3,c4,c5] h.1) underlying40 rfl (by kernel_rfl)) (by exact hS) ?_
    try simp only[Act.put,Az]
    refine Et 3 ⟨some 26,.load 60 (.tmp 3),60, "l7_vault.go:78",#[],none⟩ (.agg (Yp e.kd e.s e.nm e.num e.tx ra e.rf.length rc)) (by exact yieldsIf_load_mid (by rfl) 60 _ rfl (w.heap.size+1) 0 rfl (Yo e.kd e.s e.nm e.num e.tx ra e.rf.length rc) _ (fun X h=>h.2.range) underlying60 rfl (by kernel_rfl)) (by exact hS) ?_;try simp only[Act.put,Az]
    refine wpAnyH_ready (rs:=[2,5]) (by kernel_rfl) (by simp) ?_;refine AllReadyH.cons (o:=⟨some 25,.call ⟨.value (.func 37),#[.tmp 24],#[40]⟩,40, "l7_vault.go:78",#[Al 1],none⟩) rfl (fun K i=> ?_) (AllReadyH.cons (o:=⟨some 6,.alloc 82,0, "l7_vault.go:78",#[],none⟩) rfl (fun K i=> ?_) AllReadyH.nil)
    ·go_simp;refine(xW.o s.drew (yY.o _ (Below.refl _ _).drew)).mono ?_;rintro o w5 ⟨cs,V,rfl,vC,sX,sE⟩;try go_simp
     refine i.out _ _ (zX.o _ _ hS vC) (fun yS=> ?_);clear i K;try simp only[Act.put,Az]
     have yB:Below s.heap.size s w5:=(Below.refl s.heap.size s).drew.trans vC;have yT:∀b∈V,s.heap.size<=b/\b<w5.heap.size:=sX;refine wpAnyH_ready (rs:=[4,5]) (by kernel_rfl) (by simp) ?_
     refine AllReadyH.cons (o:=⟨some 27,.call ⟨.value (.func 36),#[.tmp 25,.tmp 26],#[40,60]⟩,82, "l7_vault.go:78",#[Al 2,Al 3,⟨2,.chain⟩],none⟩) rfl (fun K i=> ?_) (AllReadyH.cons (o:=⟨some 6,.alloc 82,0, "l7_vault.go:78",#[],none⟩) rfl (fun K i=> ?_) AllReadyH.nil)
     ·go_simp;refine(HA.o cs V w5 (yY.o _ yB) sE).mono ?_;rintro o w6 ⟨yG,I,rfl,zA⟩;have xJ:=zA.small.1;have tB:=zA.small.2;try go_simp
      refine i.out _ _ (tT.o _ _ V yS (fun b hb=>(yT b hb).1) yG) (fun yC=> ?_);clear i K;try simp only[Act.put,Az]
      have xG:Below s.heap.size s w6:=yB.trans (yG.below yB.size (fun b hb=>(yT b hb).1));refine Br 5 ⟨some 6,.alloc 82,0, "l7_vault.go:78",#[],none⟩ (fun K i=> ?_);go_simp;refine i.out _ _ (zX.o _ _ yC (Zy)) (fun xH=> ?_);clear i K;try simp only[Act.put,Az]
      have nB:(w6.alloc (.cells z12.toArray 82)).heap[w6.heap.size]?=some (.cells z12.toArray 82 (0,0)):=heap_alloc_new _ _;have bB:Below w6.heap.size w6 (w6.alloc (.cells z12.toArray 82)):=(Zy);refine Br 6 ⟨none,.store 82 (.tmp 6) (.tmp 27),0, "l7_vault.go:78",#[Al 5,Al 4,⟨4,.chain⟩,Ag 0,Ag 1,Ag 2,Ag 3,Ag 4,Ag 5],none⟩ (fun K i=> ?_);rw[if_pos (by rfl)]
      refine wp_store_mid 82 _ _ rfl w6.heap.size 0 I.toArray rfl rfl (by rw[show I.toArray.size=12 from by rw[List.size_toArray];exact xJ];exact(Aa.fy (l:=z12) nB).there) (by rw[List.size_toArray,xJ];kernel_rfl) (all_oneCell_toArray tB) ?_;refine i.out _ _ (sS.o _ _ _ xH xG.size (AP _ _ _ _)) (fun yD=> ?_);clear i K;try simp only[Act.put]
      refine wpAnyH_done (by kernel_rfl) ?_ _;go_wp2_with fail;go_meet;exact⟨w6.heap.size,I,rfl,vK.o _ w6.heap.size I xG.size (xG.trans (bB.mono xG.size)) nB (rH.o _ _ _ zA bB)⟩
     ·go_simp;refine i.out _ _ (zX.o _ _ yS (Zy)) (fun yC=> ?_);clear i K;try simp only[Act.put,Az]
      have bB:Below w5.heap.size w5 (w5.alloc (.cells z12.toArray 82)):=(Zy);have sW:=yB.trans (bB.mono yB.size);refine Br 4 ⟨some 27,.call ⟨.value (.func 36),#[.tmp 25,.tmp 26],#[40,60]⟩,82, "l7_vault.go:78",#[Al 2,Al 3,⟨2,.chain⟩],none⟩ (fun K i=> ?_);go_simp;refine(HA.o cs V _ (yY.o _ sW) (HK.o _ _ _ _ sE bB)).mono ?_;rintro o w6 ⟨yG,I,rfl,zA⟩;have xJ:=zA.small.1;have tB:=zA.small.2
      try go_simp
      refine i.out _ _ (tT.o _ _ V yC (fun b hb=>(yT b hb).1) yG) (fun xH=> ?_);clear i K;try simp only[Act.put,Az]
      have xG:Below s.heap.size s w6:=sW.trans (yG.below sW.size (fun b hb=>(yT b hb).1));have nB:w6.heap[w5.heap.size]?=some (.cells z12.toArray 82 (0,0)):=(yG.block w5.heap.size (by simp) (fun h=>by have:=(yT _ h).2;omega)).trans (show(w5.alloc (.cells z12.toArray 82)).heap[w5.heap.size]?=_ from heap_alloc_new _ _)
      refine Br 6 ⟨none,.store 82 (.tmp 6) (.tmp 27),0, "l7_vault.go:78",#[Al 5,Al 4,⟨4,.chain⟩,Ag 0,Ag 1,Ag 2,Ag 3,Ag 4,Ag 5],none⟩ (fun K i=> ?_);rw[if_pos (by rfl)]
      refine wp_store_mid 82 _ _ rfl w5.heap.size 0 I.toArray rfl rfl (by rw[show I.toArray.size=12 from by rw[List.size_toArray];exact xJ];exact(Aa.fy (l:=z12) nB).there) (by rw[List.size_toArray,xJ];kernel_rfl) (all_oneCell_toArray tB) ?_;refine i.out _ _ (sS.o _ _ _ xH yB.size (AP _ _ _ _)) (fun yD=> ?_);clear i K;try simp only[Act.put]
      refine wpAnyH_done (by kernel_rfl) ?_ _;go_wp2_with fail;go_meet;exact⟨w5.heap.size,I,rfl,vK.o w6 w5.heap.size I yB.size xG nB zA⟩
    ·go_simp;refine i.out _ _ (zX.o _ _ hS (Zy)) (fun yS=> ?_);clear i K;try simp only[Act.put,Az]
     have bB:Below s.heap.size s (s.alloc (.cells z12.toArray 82)).drew:=(Zy).drew;refine Br 2 ⟨some 25,.call ⟨.value (.func 37),#[.tmp 24],#[40]⟩,40, "l7_vault.go:78",#[Al 1],none⟩ (fun K i=> ?_);go_simp;refine(xW.o _ (yY.o _ bB)).mono ?_;rintro o w5 ⟨cs,V,rfl,vC,sX,sE⟩;try go_simp
     refine i.out _ _ (zX.o _ _ yS vC) (fun yC=> ?_);clear i K;try simp only[Act.put,Az]
     have yB:Below s.heap.size s w5:=bB.trans (vC.mono bB.size);have yT:∀b∈V,s.heap.size<b/\b<w5.heap.size:=fun b hb=>by have:=sX b hb;simp at this;omega
     refine Br 4 ⟨some 27,.call ⟨.value (.func 36),#[.tmp 25,.tmp 26],#[40,60]⟩,82, "l7_vault.go:78",#[Al 2,Al 3,⟨2,.chain⟩],none⟩ (fun K i=> ?_);go_simp;refine(HA.o cs V w5 (yY.o _ yB) sE).mono ?_;rintro o w6 ⟨yG,I,rfl,zA⟩;have xJ:=zA.small.1;have tB:=zA.small.2;try go_simp
     refine i.out _ _ (tT.o _ _ V yC (fun b hb=>by have:=yT b hb;omega) yG) (fun xH=> ?_);clear i K;try simp only[Act.put,Az]
     have xG:Below s.heap.size s w6:=yB.trans (yG.below yB.size (fun b hb=>by have:=yT b hb;omega));have nB:w6.heap[s.heap.size]?=some (.cells z12.toArray 82 (0,0)):=(yG.block s.heap.size (by have:=vC.size;simp at this;omega) (fun h=>by have:=(yT _ h).1;omega)).trans ((vC.block s.heap.size (by simp)).trans (show(s.alloc (.cells z12.toArray 82)).heap[s.heap.size]?=_ from heap_alloc_new _ _))
     refine Br 6 ⟨none,.store 82 (.tmp 6) (.tmp 27),0, "l7_vault.go:78",#[Al 5,Al 4,⟨4,.chain⟩,Ag 0,Ag 1,Ag 2,Ag 3,Ag 4,Ag 5],none⟩ (fun K i=> ?_);rw[if_pos (by rfl)]
     refine wp_store_mid 82 _ _ rfl s.heap.size 0 I.toArray rfl rfl (by rw[show I.toArray.size=12 from by rw[List.size_toArray];exact xJ];exact(Aa.fy (l:=z12) nB).there) (by rw[List.size_toArray,xJ];kernel_rfl) (all_oneCell_toArray tB) ?_;refine i.out _ _ (sS.o _ _ _ xH (Zx) (AP _ _ _ _)) (fun yD=> ?_);clear i K;try simp only[Act.put]
     refine wpAnyH_done (by kernel_rfl) ?_ _;go_wp2_with fail;go_meet;exact⟨s.heap.size,I,rfl,vK.o w6 s.heap.size I (Zx) xG nB zA⟩
   case rest=>
   revert wc;intro w7 hcut;obtain⟨E,I,rfl,hcut⟩:=hcut;obtain⟨xC,pH,sA,qM⟩:=hcut.o;have z7:=sA.size;have vG:Hid (Zz j w7):=yX.o.trans (sA.mono yX.o.size);replace zZ:=Yx (Aa.same zZ.o (sA.block _ tV.o));have vW:Hid (j.heap.size<E/\E<w7.heap.size):=⟨by have:=tV.o;omega,xC.ltL qM.small.1⟩;clear hcut sA HA xW HK rV yX z7 pH;rcases qM with⟨c,p,q,vI,rfl⟩|⟨r,xa,xc,pa,pc,la,lc,hy,rfl,hz⟩
   ·have pG:(c==0)=false:=by have:=Fu.code vI;simp;omega
    have yK:Hid (Hu v e (Fz c v p q)):=.inr ⟨yM.o,.inl ⟨c,p,q,.inr ⟨sQ.o,.inl vI⟩,rfl⟩⟩;obtain⟨u0,_⟩:=xC 0 _ rfl;obtain⟨pS,_⟩:=xC 10 _ rfl;obtain⟨pT,_⟩:=xC 11 _ rfl;obtain⟨⟨k0,g0⟩,⟨pQ,pE⟩,pR,pF⟩:=RM zZ.o zY.o.1;obtain⟨Y9,zK⟩:∃Y,Y=((w7.setCell (Ze (j.heap.size) 0) (Zg c)).setCell (Ze (j.heap.size) 20) (.string p)).setCell (Ze (j.heap.size) 21) (.string q):=⟨_,rfl⟩
    have xL:Aa Y9 j.heap.size (dL (Fz c v p q) vs):=by rw[zK];exact WT zZ.o zY.o.1 c p q
    have zJ:Below j.heap.size j Y9:=by rw[zK];exact((vG.o.setCell (Zx) _).setCell (Zx) _).setCell (Zx) _
    have pM:E≠j.heap.size:=by have:=vW.o;omega
    have xD:=Yx zK;have yN:=Yx xL;clear zK xL xC vI yQ xF HF yF zI yZ xB HL;go_upto_region 12 with fail;rw[←xD.o];clear xD k0 g0 pQ pE pR pF u0 pS pT pG pM;obtain⟨D,hD⟩:∃t:Zj,t=dL (Fz c v p q) vs:=⟨_,rfl⟩;have vU:Hid (Aa Y9 j.heap.size D):=by rw[hD];exact yN.o
    have Q:=Yx (Nl (F.o Y9 zJ).2.2 (xX.o Y9 zJ) yK.o zY.o hD);clear hD zJ tU xX F zY;go_wp2_with (first
     |refine wpList_load_mid rfl 45 _ rfl j.heap.size 0 rfl D _ vU.o.range underlying45 rfl (by rw[Q.o.1.1];kernel_rfl) ?_
     |refine wpList_store_mid rfl 45 _ _ rfl (w.heap.size+2) 0 D.toArray rfl rfl Q.o.2.1 (by rw[List.size_toArray,Q.o.1.1];kernel_rfl) (all_oneCell_toArray Q.o.1.2) ?_)
    exact bodyPost_ret (BN results16 _ _ (w.heap.size+2) D _ rfl (Aa.range Q.o.2.2.1) underlying45 rfl (by rw[Q.o.1.1];kernel_rfl)) rfl Q.o.2.2.2
   have vS:=Yx xC;have Hy:Hid (e.yes v r):=hy;have tW:Hid (Z r xa xc pa pc la lc w7):=hz;obtain⟨u0,_⟩:=xC 0 _ rfl;clear xC hy hz
   as_aux_lemma=>
   go_upto_region 13 with fail;clear u0;go_cut [51] (fun bg wx=>bg=.bool false/\Hid (Zz w7 wx))
   case first=>
    have pJ:(e.kd==1)=false:=by simpa using tS.o
    refine wp_region_held_drew (S:=fun X=>Aa X (w.heap.size+1) (Yo e.kd e.s e.nm e.num e.tx ra e.rf.length rc)/\Aa X w.heap.size [Zg v.wd,Zg v.ak,.slice sa v.ss.length sc,.slice ta v.tt.length tc,b0,N,b2,U,b4,b5,b6,c0,c1,c2,c3,c4,c5]/\Aa X E [Zf,Zg v.wd,Zg r.now,Zg r.given,Zg r.ae,.slice xa r.ks.length xc,.slice pa r.ps.length pc,.slice la r.ls.length lc,.string r.sm,Zg r.le,Zd,Zd]) (by kernel_rfl) (show _/\_/\_ from⟨(F.o w7 vG.o).2.1,(F.o w7 vG.o).1,vS.o⟩) (fun hS=> ?_)
    refine Bq 0 ⟨some 41,.fieldAddr 60 (.tmp 3) 0,0, "l7_vault.go:85",#[],none⟩ (Yz (w.heap.size+1)) (by exact hS) ?_;try simp only[Act.put,Az]
    refine Et 1 ⟨some 42,.load 3 (.tmp 41),3, "l7_vault.go:85",#[Al 0],none⟩ (Zg e.kd) (by exact Or.inl ⟨by rfl,fun X hX=>by have h1:=(hX.1 0 _ rfl).1;go_simp⟩) (by exact hS) ?_;try simp only[Act.put,Az]
    refine Bq 2 ⟨some 43,.binOp .eql 3 (.tmp 42) (.const (Zg 1)) 3,4, "l7_vault.go:85",#[Al 1],none⟩ (.bool false) (by exact hS) ?_;try simp only[Act.put,Az]
    refine Bq 3 ⟨some 44,.move (.tmp 43),4, "l7_vault.go:85",#[Al 2],none⟩ (.bool false) (by exact hS) ?_;try simp only[Act.put,Az]
    refine DV 4 ⟨some 45,.fieldAddr 82 (.tmp 6) 1,0, "l7_vault.go:85",#[⟨3,.guard⟩],some (3,true)⟩ (by exact hS) ?_;try simp only[Act.put,Az]
    refine DV 5 ⟨some 46,.load 40 (.tmp 45),40, "l7_vault.go:85",#[Al 4,⟨3,.guard⟩],some (3,true)⟩ (by exact hS) ?_;try simp only[Act.put,Az]
    refine DV 6 ⟨some 47,.call ⟨.value (.func 38),#[.tmp 46],#[40]⟩,3, "l7_vault.go:85",#[Al 5,⟨3,.chain⟩,⟨3,.guard⟩],some (3,true)⟩ (by exact hS) ?_;try simp only[Act.put,Az]
    refine DV 7 ⟨some 48,.fieldAddr 43 (.tmp 2) 1,0, "l7_vault.go:85",#[⟨3,.guard⟩],some (3,true)⟩ (by exact hS) ?_;try simp only[Act.put,Az]
    refine DV 8 ⟨some 49,.load 3 (.tmp 48),3, "l7_vault.go:85",#[Al 7,⟨3,.guard⟩],some (3,true)⟩ (by exact hS) ?_;try simp only[Act.put,Az]
    refine DV 9 ⟨some 50,.binOp .gtr 3 (.tmp 47) (.tmp 49) 3,4, "l7_vault.go:85",#[Al 6,Al 8,⟨3,.guard⟩],some (3,true)⟩ (by exact hS) ?_;try simp only[Act.put,Az]
    refine Bq 10 ⟨some 51,.pick (.tmp 44) (.tmp 50) (.const (.bool false)),4, "l7_vault.go:85",#[Al 3,Al 9],none⟩ (.bool false) (by exact hS) ?_;try simp only[Act.put,Az]
    refine wpAnyH_done (by kernel_rfl) ?_ _;go_wp2_with fail;go_meet;exact⟨rfl,(Below.refl w7.heap.size w7).drew⟩
   case rest=>
   revert wc;intro f hcut;obtain⟨rfl,zV⟩:=hcut;have pV:=zV.o.size;have zB:Hid (Zz j f):=vG.o.trans (zV.o.mono vG.o.size);replace zZ:=Yx (Aa.same zZ.o (zV.o.block _ (by have:=vW.o;omega)));replace vS:=Yx (Aa.below vS.o zV.o);replace tW:Hid (Z r xa xc pa pc la lc f):=xF.o _ _ _ _ _ _ _ _ tW.o _ zV.o;have vM:Hid (j.heap.size<E/\E<f.heap.size):=⟨vW.o.1,by have:=vW.o;omega⟩;clear zV vG vW pV
   have sP:Hid (¬e.gw v r):=by show ¬(e.fw v r=true);simp[Ed.fw];exact fun h=>absurd h tS.o
   obtain⟨qQ,_⟩:=(F.o f zB.o).1 2 _ rfl;obtain⟨qR,_⟩:=(F.o f zB.o).1 3 _ rfl;obtain⟨qL,qO⟩:=HL.o;have qI:=xB.o.2;by_cases hfull:v.ss.length+v.tt.length=4000
   ·have yK:Hid (Hu v e (Fz 9 v ⟨#[]⟩ ⟨#[]⟩)):=.inr ⟨yM.o,.inl ⟨9,⟨#[]⟩,⟨#[]⟩,.inr ⟨sQ.o,.inr ⟨rfl,rfl,r,Hy.o,.inr ⟨sP.o,hfull,rfl⟩⟩⟩,rfl⟩⟩;have rC:¬((v.ss.length:Int)+(v.tt.length:Int)<4000):=by omega
    have yO:=zB.o;clear yQ xF HF yF zI yZ xB HL;go_upto_region 17 with fail;clear qQ qR rC hfull qL qO qI;obtain⟨⟨k0,g0⟩,_⟩:=RM zZ.o zY.o.1;obtain⟨Y9,zK⟩:∃Y,Y=f.setCell (Ze (j.heap.size) 0) (Zg 9):=⟨_,rfl⟩;have xL:Aa Y9 j.heap.size (dL (Fz 9 v ⟨#[]⟩ ⟨#[]⟩) vs):=by rw[zK];exact Qj zZ.o 9
    have zJ:Below j.heap.size j Y9:=by rw[zK];exact yO.setCell (Zx) _
    have xD:=Yx zK;have yN:=Yx xL;clear zK xL yO;go_upto_region 18 with fail;rw[←xD.o];clear xD k0 g0;obtain⟨D,hD⟩:∃t:Zj,t=dL (Fz 9 v ⟨#[]⟩ ⟨#[]⟩) vs:=⟨_,rfl⟩;have vU:Hid (Aa Y9 j.heap.size D):=by rw[hD];exact yN.o
    have Q:=Yx (Nl (F.o Y9 zJ).2.2 (xX.o Y9 zJ) yK.o zY.o hD);clear hD zJ tU xX F zY;go_wp2_with (first
     |refine wpList_load_mid rfl 45 _ rfl j.heap.size 0 rfl D _ vU.o.range underlying45 rfl (by rw[Q.o.1.1];kernel_rfl) ?_
     |refine wpList_store_mid rfl 45 _ _ rfl (w.heap.size+2) 0 D.toArray rfl rfl Q.o.2.1 (by rw[List.size_toArray,Q.o.1.1];kernel_rfl) (all_oneCell_toArray Q.o.1.2) ?_)
    exact bodyPost_ret (BN results16 _ _ (w.heap.size+2) D _ rfl (Aa.range Q.o.2.2.1) underlying45 rfl (by rw[Q.o.1.1];kernel_rfl)) rfl Q.o.2.2.2
   have rC:(v.ss.length:Int)+(v.tt.length:Int)<4000:=by omega
   have rI:Hid (Jt v e r):=⟨sQ.o,Hy.o,sP.o,hfull⟩;clear sP hfull
   as_aux_lemma=>
   go_upto_region 19 with fail;clear qQ qR rC qI qL qO;clear tU zY zZ xX;go_wp2_with (refine wpList_load_mid rfl 43 _ rfl w.heap.size 0 rfl [Zg v.wd,Zg v.ak,.slice sa v.ss.length sc,.slice ta v.tt.length tc,b0,N,b2,U,b4,b5,b6,c0,c1,c2,c3,c4,c5] _ (F.o f zB.o).1.range underlying43 rfl (by kernel_rfl) ?_);refine(yQ.o f (F.o f zB.o).2.2.2).mono ?_;rintro o d ⟨O,y,ub,zG,T,P,L,M,n,J,m,rs,rfl,xR,xS⟩
   obtain⟨C,hC⟩:∃t,t=BS v (Za O v.ss.length y) (Za ub v.tt.length zG) T P L (Za M v.qs.length n) (Za J v.ms.length m):=⟨_,rfl⟩;have sB:C.length=17/\∀u∈C,u.oneCell'=true:=by obtain⟨a,h,_⟩:=xR.gj;rw[hC];exact⟨rfl,by rw[h];simp[BS,Value.oneCell']⟩
   rw[←hC];have qT:=xS.size;obtain⟨H,vO⟩:∃Y,Y=(d.alloc (.cells Ya 43)).setCells d.heap.size 0 C.toArray.toList:=⟨_,rfl⟩;have hb:=boxed (X:=d) (cs:=C) (z:=Xz) (T:=43) (by rw[sB.1];rfl);have rW:H=(d.alloc (.cells Xz.toArray 43)).setCells d.heap.size 0 C:=vO;rw[←rW]at hb;obtain⟨rE,sU,tP⟩:=hb
   have xO:Hid ((d.alloc (.cells Ya 43)).there d.heap.size 0 C.toArray.size/\C.length=17/\∀x∈C,x.oneCell'=true):=⟨by rw[show C.toArray.size=17 from by rw[List.size_toArray];exact sB.1];exact(Aa.new d Xz 43).there,sB⟩
   have zT:Hid (Aa H d.heap.size [Zg v.wd,Zg v.ak,Za O v.ss.length y,Za ub v.tt.length zG,Zg v.sw,Zg v.now,Zg v.given,Zg v.ae,T,P,L,Zg v.ph,Za M v.qs.length n,Za J v.ms.length m,Zg v.ag,Zg v.at_,Zg v.ro]):=by show Aa H d.heap.size [Zg v.wd,Zg v.ak,Za O v.ss.length y,Za ub v.tt.length zG,Zg v.sw,Zg v.now,Zg v.given,Zg v.ae,T,P,L,Zg v.ph,Za M v.qs.length n,Za J v.ms.length m,Zg v.ag,Zg v.at_,Zg v.ro];rw[hC]at rE;exact rE
   have yW:=xS.trans (sU.mono xS.size);have zO:Hid (Zz j H):=zB.o.trans (yW.mono zB.o.size);have zN:Hid (AL H f.heap.size (Za O v.ss.length y) (Za ub v.tt.length zG) T P L (Za M v.qs.length n) (Za J v.ms.length m) rs v/\∀g∈Cx (Za O v.ss.length y) (Za ub v.tt.length zG) T P L (Za M v.qs.length n) (Za J v.ms.length m) rs,g<d.heap.size):=⟨xR.below sU,xR.cg⟩
   have yA:Hid (w.heap.size+3<=j.heap.size/\j.heap.size<E/\E<f.heap.size/\f.heap.size<=d.heap.size/\H.heap.size=d.heap.size+1):=⟨by have:=vV.o;omega,vM.o.1,vM.o.2,qT,tP⟩;have zS:Hid (Zz f H):=yW;have tG:=Yx vO;clear vO rW rE sU tP qT hC sB xR xS yW yQ vM vV
   go_upto_region 20 with(refine wpList_store_mid rfl 43 _ _ rfl d.heap.size 0 C.toArray rfl rfl xO.o.1 (by rw[List.size_toArray,xO.o.2.1];kernel_rfl) (all_oneCell_toArray xO.o.2.2) ?_);rw[←tG.o];clear tG xO
   as_aux_lemma=>
   obtain⟨et,rB⟩:∃t,t=e.bt v.wd:=⟨_,rfl⟩;rw[←rB]at HF;obtain⟨yI,tD⟩:∃t,t=v.tt++[et]:=⟨_,rfl⟩;obtain⟨G,tE⟩:∃t,t=yI.length:=⟨_,rfl⟩;have rQ:Hid (yI=v.tt++[e.bt v.wd]/\G=yI.length):=⟨by rw[tD,rB],tE⟩;have rP:Hid (yI=v.tt++[et]/\G=yI.length):=⟨tD,tE⟩;clear rB tD tE;simp only[Act.put]
   go_cut [] (fun wx=>∃(A:Zk) (B:Nat),Hid (Aa wx d.heap.size [Zg v.wd,Zg v.ak,Za O v.ss.length y,.slice A G B,Zg v.sw,Zg v.now,Zg v.given,Zg v.ae,T,P,L,Zg v.ph,Za M v.qs.length n,Za J v.ms.length m,Zg v.ag,Zg v.at_,Zg v.ro]/\Zz f wx/\H.heap.size<=wx.heap.size/\Ao wx f.heap.size (Za O v.ss.length y) v.ss/\Ao wx f.heap.size (.slice A G B) yI/\Ao wx f.heap.size (Za M v.qs.length n) v.qs/\Ao wx f.heap.size (Za J v.ms.length m) v.ms/\∀g,Ak (.slice A G B)=some g->g≠d.heap.size))
   case first=>
    have zX:Hid (∀X k,(Aa X w.heap.size [Zg v.wd,Zg v.ak,.slice sa v.ss.length sc,.slice ta v.tt.length tc,b0,N,b2,U,b4,b5,b6,c0,c1,c2,c3,c4,c5]/\Aa X (w.heap.size+1) (Yo e.kd e.s e.nm e.num e.tx ra e.rf.length rc))->Zz X k->Aa k w.heap.size [Zg v.wd,Zg v.ak,.slice sa v.ss.length sc,.slice ta v.tt.length tc,b0,N,b2,U,b4,b5,b6,c0,c1,c2,c3,c4,c5]/\Aa k (w.heap.size+1) (Yo e.kd e.s e.nm e.num e.tx ra e.rf.length rc)):=fun X k h1 h2=>⟨Aa.below h1.1 h2,Aa.below h1.2 h2⟩
    have yY:Hid (∀X,Zz H X->Zz w X):=fun X hX=>(F.o X (zO.o.trans (hX.mono zO.o.size))).2.2.2
    have rK:Hid (∀X,Zz H X->∃(A:Zk) (B:Nat) (Y:Zh),(Builtin.append_ #[22,22] 22 #[Za ub v.tt.length zG,Za X.heap.size 1 1]).run prog (X.alloc (.cells #[.string et] 9))=.ok (.slice A G B) Y/\(Aa Y w.heap.size [Zg v.wd,Zg v.ak,.slice sa v.ss.length sc,.slice ta v.tt.length tc,b0,N,b2,U,b4,b5,b6,c0,c1,c2,c3,c4,c5]/\Aa Y (w.heap.size+1) (Yo e.kd e.s e.nm e.num e.tx ra e.rf.length rc))/\(Y.cell? (Ze (d.heap.size) 3)=some (Za ub v.tt.length zG)/\Y.frozen? ⟨d.heap.size,3,none⟩=false)/\(Aa (Y.setCell (Ze (d.heap.size) 3) (.slice A G B)) w.heap.size [Zg v.wd,Zg v.ak,.slice sa v.ss.length sc,.slice ta v.tt.length tc,b0,N,b2,U,b4,b5,b6,c0,c1,c2,c3,c4,c5]/\Aa (Y.setCell (Ze (d.heap.size) 3) (.slice A G B)) (w.heap.size+1) (Yo e.kd e.s e.nm e.num e.tx ra e.rf.length rc))/\Hid (Aa (Y.setCell (Ze (d.heap.size) 3) (.slice A G B)) d.heap.size [Zg v.wd,Zg v.ak,Za O v.ss.length y,.slice A G B,Zg v.sw,Zg v.now,Zg v.given,Zg v.ae,T,P,L,Zg v.ph,Za M v.qs.length n,Za J v.ms.length m,Zg v.ag,Zg v.at_,Zg v.ro]/\Zz f (Y.setCell (Ze (d.heap.size) 3) (.slice A G B))/\H.heap.size<=(Y.setCell (Ze (d.heap.size) 3) (.slice A G B)).heap.size/\Ao (Y.setCell (Ze (d.heap.size) 3) (.slice A G B)) f.heap.size (Za O v.ss.length y) v.ss/\Ao (Y.setCell (Ze (d.heap.size) 3) (.slice A G B)) f.heap.size (.slice A G B) yI/\Ao (Y.setCell (Ze (d.heap.size) 3) (.slice A G B)) f.heap.size (Za M v.qs.length n) v.qs/\Ao (Y.setCell (Ze (d.heap.size) 3) (.slice A G B)) f.heap.size (Za J v.ms.length m) v.ms/\∀g,Ak (.slice A G B)=some g->g≠d.heap.size)):=fun X hX=>by
     have nC:=hX.size;have hz:=yA.o;obtain⟨tD,tE⟩:=rP.o;have sI:=F.o X (zO.o.trans (hX.mono zO.o.size));have hA:=zN.o.1.below hX;have bA:Below X.heap.size X (X.alloc (.cells #[.string et] 9)):=(Zy)
     obtain⟨V',Y,hr,hO,hg,hk⟩:=WQ (X.alloc (.cells #[.string et] 9)) f.heap.size (Za ub v.tt.length zG) v.tt (hA.u.below bA) ⟨X.heap.size,0,none⟩ 1 et (by simp[go_sem]) (by have:=HL.o.2;omega) (by simp;omega) 22;rw[←tD]at hO;obtain⟨A,B,rfl,_⟩:=hO.row;rw[←tE]at hr hO hk;have pZ:=hA.u.bj (g:=ub) rfl;have nA:ub<d.heap.size:=zN.o.2 ub (by unfold Cx;simp[Ak])
     have tY:Tn [ub] X Y:=((Tn.of (V:=[]) bA).mono (by simp)).trans (Tn.grown hg (by simp));have tZ:Tn [d.heap.size] Y (Y.setCell (Ze (d.heap.size) 3) (.slice A G B)):=Tn.set _ _ _ _ (by simp)
     have s1:Aa Y w.heap.size [Zg v.wd,Zg v.ak,.slice sa v.ss.length sc,.slice ta v.tt.length tc,b0,N,b2,U,b4,b5,b6,c0,c1,c2,c3,c4,c5]/\Aa Y (w.heap.size+1) (Yo e.kd e.s e.nm e.num e.tx ra e.rf.length rc):=⟨Aa.same sI.1 (tY.block _ sI.1.lt (by simp;omega)),Aa.same sI.2.1 (tY.block _ sI.2.1.lt (by simp;omega))⟩;have xo:=Aa.below zT.o hX;have xY:=Aa.same xo (tY.block _ xo.lt (by simp;omega))
     have tA:∀g,Ak (.slice A G B)=some g->g≠d.heap.size:=fun g xI=>by
      rcases hk with h|h
      ·rw[h]at xI;have:ub=g:=Option.some.inj xI;omega
      ·rw[h]at xI;have:_=g:=Option.some.inj xI;simp at this;omega
     have sZ:=hA.ap
     have vQ:∀{R:Value} {l:Zl},Ao X f.heap.size R l->(∀g,Ak R=some g->g∈Cx (Za O v.ss.length y) (Za ub v.tt.length zG) T P L (Za M v.qs.length n) (Za J v.ms.length m) rs)->Ak R≠some ub->Ao (Y.setCell (Ze (d.heap.size) 3) (.slice A G B)) f.heap.size R l:=fun h1 h2 h3=>(h1.an tY (fun g xI vH=>h3 (by simp at vH;rw[xI,vH]))).an tZ (fun g xI vH=>by have:=zN.o.2 g (h2 g xI);simp at vH;omega)
     have bY:Below f.heap.size f Y:=(zS.o.trans (hX.mono zS.o.size)).trans (tY.below (by omega) (by simp;omega))
     exact⟨A,B,Y,hr,s1,xY 3 _ rfl,⟨Aa.same s1.1 (tZ.block _ s1.1.lt (by simp;omega)),Aa.same s1.2 (tZ.block _ s1.2.lt (by simp;omega))⟩,xY.set 3 _,bY.trans (tZ.below bY.size (by simp;omega)),by have:=tY.size;simp;omega,vQ hA.s (fun g h=>by unfold Cx;rw[h];simp) (sZ.1 ub rfl),hO.an tZ (fun g h=>by have:=tA g h;simp;omega),vQ hA.q (fun g h=>by unfold Cx;rw[h];simp) (sZ.2 ub rfl).1,vQ hA.m (fun g h=>by unfold Cx;rw[h];simp) (sZ.2 ub rfl).2,tA⟩
    refine wp_region_held_drew (S:=fun X=>Aa X w.heap.size [Zg v.wd,Zg v.ak,.slice sa v.ss.length sc,.slice ta v.tt.length tc,b0,N,b2,U,b4,b5,b6,c0,c1,c2,c3,c4,c5]/\Aa X (w.heap.size+1) (Yo e.kd e.s e.nm e.num e.tx ra e.rf.length rc)) (by kernel_rfl) (show _/\_ from⟨(F.o H zO.o).1,(F.o H zO.o).2.1⟩) (fun hS=> ?_)
    refine Bq 0 ⟨some 68,.fieldAddr 43 (.tmp 7) 2,0, "l7_vault.go:94",#[],none⟩ (Yy d.heap.size 2) (by exact hS) ?_;try simp only[Act.put,Az]
    refine Bq 1 ⟨some 69,.fieldAddr 35 (.tmp 68) 1,0, "l7_vault.go:94",#[Al 0],none⟩ (Yy d.heap.size 3) (by exact hS) ?_;try simp only[Act.put,Az]
    refine Et 3 ⟨some 71,.load 60 (.tmp 3),60, "l7_vault.go:94",#[],none⟩ (.agg (Yp e.kd e.s e.nm e.num e.tx ra e.rf.length rc)) (by exact yieldsIf_load_mid (by rfl) 60 _ rfl (w.heap.size+1) 0 rfl (Yo e.kd e.s e.nm e.num e.tx ra e.rf.length rc) _ (fun X h=>h.2.range) underlying60 rfl (by kernel_rfl)) (by exact hS) ?_;try simp only[Act.put,Az]
    refine Bq 4 ⟨some 72,.fieldAddr 43 (.tmp 2) 0,0, "l7_vault.go:94",#[],none⟩ (Yz w.heap.size) (by exact hS) ?_;try simp only[Act.put,Az]
    refine Et 5 ⟨some 73,.load 3 (.tmp 72),3, "l7_vault.go:94",#[Al 4],none⟩ (Zg v.wd) (by exact Or.inl ⟨by rfl,fun X hX=>by have h1:=(hX.1 0 _ rfl).1;go_simp⟩) (by exact hS) ?_;try simp only[Act.put,Az]
    refine wpAnyH_ready (rs:=[2,6]) (by kernel_rfl) (by simp) ?_;refine AllReadyH.cons (o:=⟨some 70,.load 22 (.tmp 69),22, "l7_vault.go:94",#[Al 1],none⟩) rfl (fun K i=> ?_) (AllReadyH.cons (o:=⟨some 74,.call ⟨.value (.func 39),#[.tmp 71,.tmp 73],#[60,3]⟩,9, "l7_vault.go:94",#[Al 3,Al 5],none⟩) rfl (fun K i=> ?_) AllReadyH.nil)
    ·have pX:=(zT.o 3 _ rfl).1;go_simp;refine i.out _ _ hS (fun yS=> ?_);clear i K;try simp only[Act.put,Az]
     refine Br 6 ⟨some 74,.call ⟨.value (.func 39),#[.tmp 71,.tmp 73],#[60,3]⟩,9, "l7_vault.go:94",#[Al 3,Al 5],none⟩ (fun K i=> ?_);go_simp;refine(HF.o H.drew (yY.o _ (Below.refl _ _).drew)).mono ?_;rintro o wf ⟨rfl,vX⟩;try go_simp
     refine i.out _ _ (zX.o _ _ yS vX) (fun yC=> ?_);clear i K;try simp only[Act.put,Az]
     have vD:Below H.heap.size H wf:=(Below.refl H.heap.size H).drew.trans vX;have c3:=(Aa.below zT.o vD 3 _ rfl).1;obtain⟨A,B,Yf,xU,sF,⟨y3,g3⟩,sG,xT⟩:=rK.o wf vD;refine Br 7 ⟨some 75,.buildSlice 22 1 #[(0,.tmp 74)],22, "l7_vault.go:94",#[Al 6],none⟩ (fun K i=> ?_);go_simp;refine i.out _ _ (zX.o _ _ yC (Zy)) (fun xH=> ?_);clear i K;try simp only[Act.put,Az]
     refine Br 8 ⟨some 76,.call ⟨.builtin .append,#[.tmp 70,.tmp 75],#[22,22]⟩,22, "l7_vault.go:94",#[Al 2,Al 7,⟨6,.chain⟩],none⟩ (fun K i=> ?_);refine BD rfl _ _ _ _ rfl (by rfl) (by rfl) xU ?_;refine i.out _ _ sF (fun yD=> ?_);clear i K;try simp only[Act.put,Az]
     refine Bq 9 ⟨some 77,.fieldAddr 43 (.tmp 7) 2,0, "l7_vault.go:94",#[Ag 0,Ag 1,Ag 2,Ag 3,Ag 4,Ag 5,Ag 6,Ag 7,Ag 8],none⟩ (Yy d.heap.size 2) (by exact yD) ?_;try simp only[Act.put,Az]
     refine Bq 10 ⟨some 78,.fieldAddr 35 (.tmp 77) 1,0, "l7_vault.go:94",#[Al 9,Ag 0,Ag 1,Ag 2,Ag 3,Ag 4,Ag 5,Ag 6,Ag 7,Ag 8],none⟩ (Yy d.heap.size 3) (by exact yD) ?_;try simp only[Act.put,Az]
     refine Br 11 ⟨none,.store 22 (.tmp 78) (.tmp 76),0, "l7_vault.go:94",#[Al 10,Al 8,⟨8,.chain⟩,Ag 0,Ag 1,Ag 2,Ag 3,Ag 4,Ag 5,Ag 6,Ag 7,Ag 8],none⟩ (fun K i=> ?_);go_simp;refine i.out _ _ sG (fun qC=> ?_);clear i K;try simp only[Act.put]
     refine wpAnyH_done (by kernel_rfl) ?_ _;go_wp2_with fail;go_meet;exact⟨A,B,xT⟩
    ·go_simp;refine(HF.o H.drew (yY.o _ (Below.refl _ _).drew)).mono ?_;rintro o wf ⟨rfl,vX⟩;try go_simp
     refine i.out _ _ (zX.o _ _ hS vX) (fun yS=> ?_);clear i K;try simp only[Act.put,Az]
     have vD:Below H.heap.size H wf:=(Below.refl H.heap.size H).drew.trans vX;have c3:=(Aa.below zT.o vD 3 _ rfl).1;obtain⟨A,B,Yf,xU,sF,⟨y3,g3⟩,sG,xT⟩:=rK.o wf vD;refine wpAnyH_ready (rs:=[2,7]) (by kernel_rfl) (by simp) ?_
     refine AllReadyH.cons (o:=⟨some 70,.load 22 (.tmp 69),22, "l7_vault.go:94",#[Al 1],none⟩) rfl (fun K i=> ?_) (AllReadyH.cons (o:=⟨some 75,.buildSlice 22 1 #[(0,.tmp 74)],22, "l7_vault.go:94",#[Al 6],none⟩) rfl (fun K i=> ?_) AllReadyH.nil)
     ·go_simp;refine i.out _ _ yS (fun yC=> ?_);clear i K;try simp only[Act.put,Az]
      refine Br 7 ⟨some 75,.buildSlice 22 1 #[(0,.tmp 74)],22, "l7_vault.go:94",#[Al 6],none⟩ (fun K i=> ?_);go_simp;refine i.out _ _ (zX.o _ _ yC (Zy)) (fun xH=> ?_);clear i K;try simp only[Act.put,Az]
      refine Br 8 ⟨some 76,.call ⟨.builtin .append,#[.tmp 70,.tmp 75],#[22,22]⟩,22, "l7_vault.go:94",#[Al 2,Al 7,⟨6,.chain⟩],none⟩ (fun K i=> ?_);refine BD rfl _ _ _ _ rfl (by rfl) (by rfl) xU ?_;refine i.out _ _ sF (fun yD=> ?_);clear i K;try simp only[Act.put,Az]
      refine Bq 9 ⟨some 77,.fieldAddr 43 (.tmp 7) 2,0, "l7_vault.go:94",#[Ag 0,Ag 1,Ag 2,Ag 3,Ag 4,Ag 5,Ag 6,Ag 7,Ag 8],none⟩ (Yy d.heap.size 2) (by exact yD) ?_;try simp only[Act.put,Az]
      refine Bq 10 ⟨some 78,.fieldAddr 35 (.tmp 77) 1,0, "l7_vault.go:94",#[Al 9,Ag 0,Ag 1,Ag 2,Ag 3,Ag 4,Ag 5,Ag 6,Ag 7,Ag 8],none⟩ (Yy d.heap.size 3) (by exact yD) ?_;try simp only[Act.put,Az]
      refine Br 11 ⟨none,.store 22 (.tmp 78) (.tmp 76),0, "l7_vault.go:94",#[Al 10,Al 8,⟨8,.chain⟩,Ag 0,Ag 1,Ag 2,Ag 3,Ag 4,Ag 5,Ag 6,Ag 7,Ag 8],none⟩ (fun K i=> ?_);go_simp;refine i.out _ _ sG (fun qC=> ?_);clear i K;try simp only[Act.put]
      refine wpAnyH_done (by kernel_rfl) ?_ _;go_wp2_with fail;go_meet;exact⟨A,B,xT⟩
     ·go_simp;refine i.out _ _ (zX.o _ _ yS (Zy)) (fun yC=> ?_);clear i K;try simp only[Act.put,Az]
      have pY:=(Aa.below zT.o (vD.trans ((Zy:Zz wf (wf.alloc (.cells #[.string et] 9))).mono vD.size)) 3 _ rfl).1;refine Br 2 ⟨some 70,.load 22 (.tmp 69),22, "l7_vault.go:94",#[Al 1],none⟩ (fun K i=> ?_);go_simp;refine i.out _ _ yC (fun xH=> ?_);clear i K;try simp only[Act.put,Az]
      refine Br 8 ⟨some 76,.call ⟨.builtin .append,#[.tmp 70,.tmp 75],#[22,22]⟩,22, "l7_vault.go:94",#[Al 2,Al 7,⟨6,.chain⟩],none⟩ (fun K i=> ?_);refine BD rfl _ _ _ _ rfl (by rfl) (by rfl) xU ?_;refine i.out _ _ sF (fun yD=> ?_);clear i K;try simp only[Act.put,Az]
      refine Bq 9 ⟨some 77,.fieldAddr 43 (.tmp 7) 2,0, "l7_vault.go:94",#[Ag 0,Ag 1,Ag 2,Ag 3,Ag 4,Ag 5,Ag 6,Ag 7,Ag 8],none⟩ (Yy d.heap.size 2) (by exact yD) ?_;try simp only[Act.put,Az]
      refine Bq 10 ⟨some 78,.fieldAddr 35 (.tmp 77) 1,0, "l7_vault.go:94",#[Al 9,Ag 0,Ag 1,Ag 2,Ag 3,Ag 4,Ag 5,Ag 6,Ag 7,Ag 8],none⟩ (Yy d.heap.size 3) (by exact yD) ?_;try simp only[Act.put,Az]
      refine Br 11 ⟨none,.store 22 (.tmp 78) (.tmp 76),0, "l7_vault.go:94",#[Al 10,Al 8,⟨8,.chain⟩,Ag 0,Ag 1,Ag 2,Ag 3,Ag 4,Ag 5,Ag 6,Ag 7,Ag 8],none⟩ (fun K i=> ?_);go_simp;refine i.out _ _ sG (fun qC=> ?_);clear i K;try simp only[Act.put]
      refine wpAnyH_done (by kernel_rfl) ?_ _;go_wp2_with fail;go_meet;exact⟨A,B,xT⟩
   case rest=>
   revert wc;intro zM hcut;obtain⟨A,B,hcut⟩:=hcut;obtain⟨qS,tX,pW,tN,tO,tM,tL,tA⟩:=hcut.o;have tI:=Yx qS;have yL:=Yx (Zb tN (Zb tO (Zb tM tL)))
   have xA:Hid ((∀g,Ak (Za O v.ss.length y)=some g->g≠d.heap.size)/\(∀g,Ak (.slice A G B)=some g->g≠d.heap.size)/\(∀g,Ak (Za M v.qs.length n)=some g->g≠d.heap.size)/\(∀g,Ak (Za J v.ms.length m)=some g->g≠d.heap.size)):=⟨fun g h=>by have:=zN.o.2 g (by unfold Cx;rw[h];simp);omega,tA,fun g h=>by have:=zN.o.2 g (by unfold Cx;rw[h];simp);omega,fun g h=>by have:=zN.o.2 g (by unfold Cx;rw[h];simp);omega⟩
   replace yA:Hid (w.heap.size+3<=j.heap.size/\j.heap.size<E/\f.heap.size<=zM.heap.size/\E<f.heap.size/\f.heap.size<=d.heap.size/\d.heap.size<zM.heap.size):=by have:=yA.o;exact⟨by omega,by omega,by omega,by omega,by omega,by omega⟩
   have xM:=Yx (Aa.below vS.o tX);have tK:Hid (Z r xa xc pa pc la lc zM):=xF.o _ _ _ _ _ _ _ _ tW.o _ tX;have vJ:Hid (Zz j zM):=zB.o.trans (tX.mono zB.o.size);clear hcut qS tX pW tN tO tM tL tA rP HF zN zT zO zS zB vS tW xF
   as_aux_lemma=>
   go_wp2_with (refine wpList_load_mid rfl 40 _ rfl E 1 rfl (Yt v.wd r.now r.given r.ae xa r.ks.length xc pa r.ps.length pc la r.ls.length lc) _ (Aa.fp [Zf] (Yt v.wd r.now r.given r.ae xa r.ks.length xc pa r.ps.length pc la r.ls.length lc) [.string r.sm,Zg r.le,Zd,Zd] xM.o) underlying40 rfl (by kernel_rfl) ?_);refine(yF.o r xa xc pa pc la lc zM Hy.o tK.o).mono ?_
   rintro o sO ⟨T2,P2,L2,vE,rfl,yP,zC⟩;obtain⟨za,zc,rfl⟩:=As yP.ai;obtain⟨ya,yc,rfl⟩:=As yP.pins;obtain⟨ka,kc,rfl⟩:=As yP.aq;have qU:=zC.size;have hz:=yA.o;obtain⟨zF,xQ⟩:∃Y,Y=sO.setCells d.heap.size 4 (Yt v.wd r.now r.given r.ae za r.ks.length zc ya r.ps.length yc ka r.ls.length kc):=⟨_,rfl⟩;have yV:Tn [d.heap.size] sO zF:=by rw[xQ];exact AP _ _ _ _
   have rF:=Aa.below tI.o zC;have zU:Hid (Aa zF d.heap.size [Zg v.wd,Zg v.ak,Za O v.ss.length y,.slice A G B,Zg v.wd,Zg r.now,Zg r.given,Zg r.ae,.slice za r.ks.length zc,.slice ya r.ps.length yc,.slice ka r.ls.length kc,Zg v.ph,Za M v.qs.length n,Za J v.ms.length m,Zg v.ag,Zg v.at_,Zg v.ro]):=by
    show Aa zF d.heap.size [Zg v.wd,Zg v.ak,Za O v.ss.length y,.slice A G B,Zg v.wd,Zg r.now,Zg r.given,Zg r.ae,.slice za r.ks.length zc,.slice ya r.ps.length yc,.slice ka r.ls.length kc,Zg v.ph,Za M v.qs.length n,Za J v.ms.length m,Zg v.ag,Zg v.at_,Zg v.ro];rw[xQ]
    exact Aa.dv (Yt v.wd r.now r.given r.ae za r.ks.length zc ya r.ps.length yc ka r.ls.length kc) [Zg v.wd,Zg v.ak,Za O v.ss.length y,.slice A G B] [Zg v.sw,Zg v.now,Zg v.given,Zg v.ae,T,P,L] (Yg v.ph (some ⟨M,0,none⟩) v.qs.length n (some ⟨J,0,none⟩) v.ms.length m v.ag v.at_ v.ro) sO rF rfl
   have vL:Hid (sO.there d.heap.size 4 7/\((Ys v.wd r.now r.given r.ae za r.ks.length zc ya r.ps.length yc ka r.ls.length kc):Array Value).all (·.oneCell')=true):=⟨Aa.dz [Zg v.wd,Zg v.ak,Za O v.ss.length y,.slice A G B] [Zg v.sw,Zg v.now,Zg v.given,Zg v.ae,T,P,L] (Yg v.ph (some ⟨M,0,none⟩) v.qs.length n (some ⟨J,0,none⟩) v.ms.length m v.ag v.at_ v.ro) rF,by kernel_rfl⟩
   have xP:Hid (AO zF zM.heap.size (.slice za r.ks.length zc) (.slice ya r.ps.length yc) (.slice ka r.ls.length kc) vE r.ks r.ps r.ls):=yP.an yV (by simp;omega);have zH:Hid (Ao zF f.heap.size (Za O v.ss.length y) v.ss/\Ao zF f.heap.size (.slice A G B) yI/\Ao zF f.heap.size (Za M v.qs.length n) v.qs/\Ao zF f.heap.size (Za J v.ms.length m) v.ms):=by
    refine⟨(yL.o.1.below zC).an yV (fun g hg=> ?_),(yL.o.2.1.below zC).an yV (fun g hg=> ?_),(yL.o.2.2.1.below zC).an yV (fun g hg=> ?_),(yL.o.2.2.2.below zC).an yV (fun g hg=> ?_)⟩
    ·have:=xA.o.1 g hg;simp;omega
    ·have:=xA.o.2.1 g hg;simp;omega
    ·have:=xA.o.2.2.1 g hg;simp;omega
    ·have:=xA.o.2.2.2 g hg;simp;omega
   have sV:=vJ.o.trans (zC.mono vJ.o.size);have yJ:Hid (Zz j zF):=sV.trans (yV.below sV.size (by simp;omega));have xN:=Yx (Aa.same (Aa.below xM.o zC) (yV.block _ (Aa.below xM.o zC).lt (by simp;omega)));have pD:Hid (zM.heap.size<=zF.heap.size):=Zm qU yV.size;have tH:=Yx xQ;clear xQ yV rF zC yP sV qU hz tI yL xM vJ tK yF
   go_upto_region 22 with(refine wpList_store_mid rfl 40 _ _ rfl d.heap.size 4 (Ys v.wd r.now r.given r.ae za r.ks.length zc ya r.ps.length yc ka r.ls.length kc) rfl rfl vL.o.1 (by kernel_rfl) vL.o.2 ?_);rw[←tH.o];clear tH vL
   as_aux_lemma=>
   obtain⟨e0,_⟩:=(F.o zF yJ.o).2.1 0 _ rfl;obtain⟨e1,_⟩:=(F.o zF yJ.o).2.1 1 _ rfl;obtain⟨u8,_⟩:=xN.o 8 _ rfl;obtain⟨hl,qG⟩:∃t,t=e.held r:=⟨_,rfl⟩;have vT:Hid (hl=e.held r):=qG;clear qG
   go_upto_if 87 with fail
   go_cut [8,87] (fun th _ wx=>th=.string hl/\wx=zF)
   case first=>
    have pJ:(e.kd==1)=false:=by simpa using tS.o
    have pI:Hid (e.s=hl):=by show e.s=hl;rw[vT.o];simp[Ed.held,tS.o]
    go_wp2;go_meet;exact⟨by rw[pI.o],rfl⟩
   case rest=>
   obtain⟨rfl,qP⟩:=hcut;rw[qP];clear qP wc e0 e1 u8;obtain⟨qq,tC⟩:∃t,t=shQ v.ph r.ks v.qs v.ms hl:=⟨_,rfl⟩;have rO:Hid (qq=shQ v.ph r.ks v.qs v.ms (e.held r)):=by show qq=_;rw[tC,vT.o]
   go_upto_if 91 with fail
   go_cut [91] (fun _ wx=>∃(qa:Zk) (qn qc:Nat) (ma:Zk) (mc:Nat),Hid (qn=qq.length/\Aa wx d.heap.size [Zg v.wd,Zg v.ak,Za O v.ss.length y,.slice A G B,Zg v.wd,Zg r.now,Zg r.given,Zg r.ae,.slice za r.ks.length zc,.slice ya r.ps.length yc,.slice ka r.ls.length kc,Zg v.ph,.slice qa qn qc,.slice ma v.ms.length mc,Zg v.ag,Zg v.at_,Zg v.ro]/\Tn [d.heap.size] zF wx/\Ao wx f.heap.size (.slice qa qn qc) qq/\Ao wx f.heap.size (.slice ma v.ms.length mc) v.ms))
   case first=>
    by_cases he:hl=⟨#[]⟩
    ·have rN:Hid (qq=v.qs):=by show qq=v.qs;rw[rO.o];exact yZ.o r Hy.o (by rw[←vT.o,he])
     have pK:(!hl.toList.isEmpty)=false:=by rw[he];simp
     rw[pK];clear he tC;go_wp2;go_meet;exact⟨_,_,_,_,_,by rw[rN.o],zU.o,Tn.of (Below.refl _ _),by rw[rN.o];exact zH.o.2.2.1,zH.o.2.2.2⟩
    ·have pN:=OC he;have rJ:(!hl.toList.isEmpty)=true:=by rw[pN];rfl
     rw[rJ];replace zI:=Yx (zI.o r zF (.slice za r.ks.length zc) (.slice ya r.ps.length yc) (.slice ka r.ls.length kc) vE f.heap.size M n J m Hy.o (xP.o.mono yA.o.2.2.1) zH.o.2.2.1 zH.o.2.2.2);rw[←vT.o,←tC]at zI;clear he tC;go_wp2_with (first
      |refine wpList_load_mid rfl 40 _ rfl d.heap.size 4 rfl (Yt v.wd r.now r.given r.ae za r.ks.length zc ya r.ps.length yc ka r.ls.length kc) _ (Aa.fp [Zg v.wd,Zg v.ak,Za O v.ss.length y,.slice A G B] (Yt v.wd r.now r.given r.ae za r.ks.length zc ya r.ps.length yc ka r.ls.length kc) (Yg v.ph (some ⟨M,0,none⟩) v.qs.length n (some ⟨J,0,none⟩) v.ms.length m v.ag v.at_ v.ro) zU.o) underlying40 rfl (by kernel_rfl) ?_
      |refine wpList_load_mid rfl 41 _ rfl d.heap.size 11 rfl (Yg v.ph (some ⟨M,0,none⟩) v.qs.length n (some ⟨J,0,none⟩) v.ms.length m v.ag v.at_ v.ro) _ (Aa.fp [Zg v.wd,Zg v.ak,Za O v.ss.length y,.slice A G B,Zg v.wd,Zg r.now,Zg r.given,Zg r.ae,.slice za r.ks.length zc,.slice ya r.ps.length yc,.slice ka r.ls.length kc] (Yg v.ph (some ⟨M,0,none⟩) v.qs.length n (some ⟨J,0,none⟩) v.ms.length m v.ag v.at_ v.ro) [] zU.o) underlying41 rfl (by kernel_rfl) ?_)
     refine Calls.mono zI.o ?_;rintro o rD ⟨vP,Q3,M3,rfl,zR,zP⟩;obtain⟨qa,qc,rfl,_⟩:=zR.row;obtain⟨ma,mc,rfl,_⟩:=zP.row;have hz:=yA.o;have pP:=pD.o;have yE:=AP d.heap.size (Yg v.ph qa qq.length qc ma v.ms.length mc v.ag v.at_ v.ro) 11 rD;have rG:=Aa.below zU.o vP
     have tF:Hid (rD.there d.heap.size 11 6/\((Yk v.ph qa qq.length qc ma v.ms.length mc v.ag v.at_ v.ro):Array Value).all (·.oneCell')=true):=⟨Aa.dz [Zg v.wd,Zg v.ak,Za O v.ss.length y,.slice A G B,Zg v.wd,Zg r.now,Zg r.given,Zg r.ae,.slice za r.ks.length zc,.slice ya r.ps.length yc,.slice ka r.ls.length kc] (Yg v.ph (some ⟨M,0,none⟩) v.qs.length n (some ⟨J,0,none⟩) v.ms.length m v.ag v.at_ v.ro) [] rG,by kernel_rfl⟩
     have qW:=Yx (Zn (Aa.dv (Yg v.ph qa qq.length qc ma v.ms.length mc v.ag v.at_ v.ro) [Zg v.wd,Zg v.ak,Za O v.ss.length y,.slice A G B,Zg v.wd,Zg r.now,Zg r.given,Zg r.ae,.slice za r.ks.length zc,.slice ya r.ps.length yc,.slice ka r.ls.length kc] (Yg v.ph (some ⟨M,0,none⟩) v.qs.length n (some ⟨J,0,none⟩) v.ms.length m v.ag v.at_ v.ro) [] rD rG rfl) (Zn (((Tn.of (V:=[]) vP).mono (by simp)).trans yE) (Zn ((zR.an yE (fun g hg=>by have:=(zR.bj hg).1;simp;omega)).mono (base':=f.heap.size) (by omega)) ((zP.an yE (fun g hg=>by have:=(zP.bj hg).1;simp;omega)).mono (base':=f.heap.size) (by omega)))))
     clear yE rG vP zR zP zU xP zH xA zI hz pP;go_wp2_with (refine wpList_store_mid rfl 41 _ _ rfl d.heap.size 11 (Yk v.ph qa qq.length qc ma v.ms.length mc v.ag v.at_ v.ro) rfl rfl tF.o.1 (by kernel_rfl) tF.o.2 ?_);go_meet;exact⟨_,_,_,_,_,rfl,qW.o⟩
   case rest=>
   revert wc;intro yR hcut;obtain⟨qa,qn,qc,ma,mc,hcut⟩:=hcut;obtain⟨qK,xo,yE,zR,zP⟩:=hcut.o;have pB:=Yx xo
   have zE:Hid (AO yR f.heap.size (.slice za r.ks.length zc) (.slice ya r.ps.length yc) (.slice ka r.ls.length kc) vE r.ks r.ps r.ls/\Ao yR f.heap.size (Za O v.ss.length y) v.ss/\Ao yR f.heap.size (.slice A G B) yI/\Ao yR f.heap.size (.slice qa qn qc) qq/\Ao yR f.heap.size (.slice ma v.ms.length mc) v.ms):=⟨(xP.o.an yE (by have:=yA.o;simp;omega)).mono yA.o.2.2.1,zH.o.1.an yE (fun g hg=>by have:=xA.o.1 g hg;simp;omega),zH.o.2.1.an yE (fun g hg=>by have:=xA.o.2.1 g hg;simp;omega),zR,zP⟩
   have qY:Hid (qn=qq.length):=qK;have zJ:Below j.heap.size j yR:=yJ.o.trans (yE.below yJ.o.size (by have:=yA.o;simp;omega));have rL:=Yx (Aa.same xN.o (yE.block _ xN.o.lt (by have:=yA.o;simp;omega)));clear hcut qK xo yE zR zP tC zU xP xN yJ zH xA zI yZ vT
   obtain⟨vs,yH⟩:∃t:Zj,t=[Zg v.wd,Zg v.ak,Za O v.ss.length y,.slice A G B,Zg v.wd,Zg r.now,Zg r.given,Zg r.ae,.slice za r.ks.length zc,.slice ya r.ps.length yc,.slice ka r.ls.length kc,Zg v.ph,.slice qa qn qc,.slice ma v.ms.length mc,Zg v.ag,Zg v.at_,Zg v.ro]:=⟨_,rfl⟩;have rU:Hid (Aa yR d.heap.size vs/\vs.length=17):=by rw[yH];exact⟨pB.o,rfl⟩
   have xK:vs.length=17/\∀u∈vs,u.oneCell'=true:=by rw[yH];exact⟨rfl,by simp[Value.oneCell']⟩
   obtain⟨D,hD⟩:∃t:Zj,t=dL (dyes v e r) vs:=⟨_,rfl⟩;have tQ:Hid (prog.built 45 [(1,.agg vs.toArray),(2,.string r.sm),(3,Zg r.le)]=some D.toArray):=by rw[hD];exact My xK.1 _ _
   have Q:Hid _:=Nl (F.o yR zJ).2.2 (fun V k hV t0=>by
    have hz:=yA.o;have qJ:∀b∈V,b<f.heap.size:=fun b hb=>by have:=hV b hb;omega
    have sM:∀g,f.heap.size<=g->g∉V:=fun g hg vH=>by have:=qJ g vH;omega
    rw[yH];exact YE xB.o.1 (zE.o.2.1.an t0 (fun g hg=>sM g (zE.o.2.1.bj hg).1)) (zE.o.2.2.1.an t0 (fun g hg=>sM g (zE.o.2.2.1.bj hg).1)) rQ.o.1 rQ.o.2 (zE.o.1.an t0 qJ) (zE.o.2.2.2.1.an t0 (fun g hg=>sM g (zE.o.2.2.2.1.bj hg).1)) rO.o qY.o (zE.o.2.2.2.2.an t0 (fun g hg=>sM g (zE.o.2.2.2.2.bj hg).1))) (.inr ⟨yM.o,.inr ⟨r,rI.o,rfl⟩⟩) xK hD
   obtain⟨u8,_⟩:=rL.o 8 _ rfl;obtain⟨u9,_⟩:=rL.o 9 _ rfl;clear hD yH xK zJ F;go_wp2_with (first
    |refine wpList_load_mid rfl 43 _ rfl d.heap.size 0 rfl vs _ rU.o.1.range underlying43 rfl (by rw[rU.o.2];kernel_rfl) ?_
    |refine Gm rfl 45 _ rfl [(1,.agg vs.toArray),(2,.string r.sm),(3,Zg r.le)] (by kernel_rfl) D.toArray tQ.o ?_
    |refine wpList_store_mid rfl 45 _ _ rfl (w.heap.size+2) 0 D.toArray rfl rfl Q.o.2.1 (by rw[List.size_toArray,Q.o.1.1];kernel_rfl) (all_oneCell_toArray Q.o.1.2) ?_)
   exact bodyPost_ret (BN results16 _ _ (w.heap.size+2) D _ rfl (Aa.range Q.o.2.2.1) underlying45 rfl (by rw[Q.o.1.1];kernel_rfl)) rfl Q.o.2.2.2
theorem LL(m c given ae:Int)(a p l:Zk)(k j i h g:Nat)(b:List Kd)(s:Zi)(w:Zh)(o:BH w w.heap.size a b)(Z:b.length<=1000)(q:¬Ax b s):
 Calls prog 82 #[.agg (Ys m c given ae a b.length k p j i l h g),.string s] w fun e L=>e=.returned (.agg (BW 2 ⟨#[]⟩ ⟨#[]⟩).toArray)/\Zz w L:=by
 obtain⟨W,d⟩:∃W,W=(w.alloc (.cells (Ys m c given ae a b.length k p j i l h g) 40)).alloc (.cells Yr 82):=⟨_,rfl⟩;have f:=(AW d).1;have y:=(AW d).2.2.1;have z:Aa W (w.heap.size+1) z12:=by have u:=Aa.new (w.alloc (.cells (Ys m c given ae a b.length k p j i l h g) 40)) z12 82;rw[World.size_alloc]at u;rw[d];exact u
 have r:=Yx (FE m c given ae a k (.slice p j i) (.slice l h g) b s W w.heap.size (BH.below o f) f.size (by omega));have Y:=Io q;have t:=Yx d;have A:=Yx z;obtain⟨v0,E,F,G,H,I,J,K⟩:=Bw y;clear d y z o q;go_enter func82,ntmps82;go_upto_region 1 with fail;rw[←t.o];clear t;go_wp2_with fail;refine Calls.mono r.o ?_;rintro e M ⟨rfl,n⟩
 obtain⟨⟨N,q0⟩,⟨O,q1⟩,⟨P,q2⟩,⟨Q,q3⟩,⟨R,q4⟩,⟨S,q5⟩,⟨T,q6⟩,⟨U,q7⟩,⟨V,q8⟩,⟨X,q9⟩,⟨B,zA⟩,C,zB⟩:=AT (Aa.below (v:=Zf) A.o n);have x:=f.trans (n.mono f.size);generalize CE b s=fi at *
 clear v0 E F G H I J K r;go_wp2;refine bodyPost_ret (v:=.agg (BW 2 ⟨#[]⟩ ⟨#[]⟩).toArray) (by simp[results,results82,go_sem,N,O,P,Q,R,S,T,U,V,X,B,C,BW]) rfl ?_;exact⟨rfl,x.trans (Tn.below (Bh M (w.heap.size+1) _ _ _ _ _ _ _ _ _ _ _ _) x.size (by intro v D;simp at D;omega))⟩
end Go.Proofs.YtlhhpofjkgmbeaaGreatDoor
