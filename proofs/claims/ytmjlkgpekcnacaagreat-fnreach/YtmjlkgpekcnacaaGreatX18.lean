import Derived.Test.YtmjlkgpekcnacaaGreatX17
set_option maxRecDepth 100000
set_option maxHeartbeats 16000000
namespace Go.Proofs.YtmjlkgpekcnacaaGreat
open Go.ChangeShapes Go.WideShapes Go.ChangeAt Go.RowKit _root_.Go.Proofs.Tryz
theorem Wl(v:Vd)(e:Ed)(sa ta:Zk)(sc tc:Nat)(b0 b1 b2 b3 b4 b5 b6 c0 c1 c2 c3 c4 c5:Value)(ra:Zk)(rc:Nat)(K:Zj->List Nat->Zh->Prop)(Z:Rs->Zk->Nat->Zk->Nat->Zk->Nat->Zh->Prop)(w:Zh)(hlen:v.ss.length<=1048576/\v.A.length<=1048576)(qG:∀X,Zz w X->Calls prog 113 #[.agg #[Zg v.wd,Zg v.lim,.slice sa v.ss.length sc,.slice ta v.A.length tc,b0,b1,b2,b3,b4,b5,b6,c0,c1,c2,c3,c4,c5]] X fun o k=>Aq (Cp v) X k o)(qA:Cp v->∀X,Zz w X->Calls prog 114 #[.agg #[Zg v.wd,Zg v.lim,.slice sa v.ss.length sc,.slice ta v.A.length tc,b0,b1,b2,b3,b4,b5,b6,c0,c1,c2,c3,c4,c5]] X fun o k=>∃sb y ub zI T P L qb n mb m rs,o=.returned (.agg (Bh v (Yz sb v.ss.length y) (Yz ub v.A.length zI) T P L (Yz qb v.F.length n) (Yz mb v.ms.length m)).toArray)/\AD k X.heap.size (Yz sb v.ss.length y) (Yz ub v.A.length zI) T P L (Yz qb v.F.length n) (Yz mb v.ms.length m) rs v/\Zz X k)(qC:∀X,Zz w X->Calls prog 122 #[.agg (Ye e.kd e.s e.nm e.H e.tx ra e.rf.length rc),Zg v.wd] X fun o k=>o=.returned (.bool (e.ok v.wd))/\Zz X k)(rY:Cp v->∀X,Zz w X->Calls prog 64 #[.agg #[b0,b1,b2,b3,b4,b5,b6]] X fun o k=>∃cs V,o=.returned (.agg cs.toArray)/\Zz X k/\(∀b∈V,X.heap.size<=b/\b<k.heap.size)/\K cs V k)(i:∀cs V X k,K cs V X->Zz X k->K cs V k)(hA:Cp v->e.ok v.wd=true->∀cs V X,Zz w X->K cs V X->Calls prog 111 #[.agg cs.toArray,.agg (Ye e.kd e.s e.nm e.H e.tx ra e.rf.length rc)] X fun o k=>Tn V X k/\∃N,o=.returned (.agg N.toArray)/\Ju v e Z k N)(hZ:∀r xa xc U I O Q X,Cp v->e.ok v.wd=true->e.yes v r->Z r xa xc U I O Q X->∀F k,X.heap[F]?=some (.cells z12.toArray 134)->Tn [F] X k->Z r xa xc U I O Q k)(qH:∀r xa xc U I O Q X,Z r xa xc U I O Q X->∀k,Zz X k->Z r xa xc U I O Q k)(qD:Cp v->e.ok v.wd=true->e.kd=1->∀r xa xc U I O Q X,e.yes v r->Z r xa xc U I O Q X->Calls prog 130 #[.agg (Yj v.wd r.D r.G r.C xa r.ks.length xc U r.ps.length I O r.ls.length Q)] X fun o k=>o=.returned (Zg (BM v.wd r.ks))/\Zz X k)(hF:e.ok v.wd=true->∀X,Zz w X->Calls prog 118 #[.agg (Ye e.kd e.s e.nm e.H e.tx ra e.rf.length rc),Zg v.wd] X fun o k=>o=.returned (.string (e.cj v.wd))/\Zz X k)(rZ:Cp v->e.ok v.wd=true->∀r xa xc U I O Q X,e.yes v r->Z r xa xc U I O Q X->Calls prog 64 #[.agg (Yj v.wd r.D r.G r.C xa r.ks.length xc U r.ps.length I O r.ls.length Q)] X fun o k=>∃T2 P2 L2 vH,o=.returned (.agg #[Zg v.wd,Zg r.D,Zg r.G,Zg r.C,T2,P2,L2])/\AY k X.heap.size T2 P2 L2 vH r.ks r.ps r.ls/\Zz X k)(qF:Cp v->e.ok v.wd=true->∀r X T2 P2 L2 vH n2 qb n mb m,e.yes v r->AY X n2 T2 P2 L2 vH r.ks r.ps r.ls->Ao X n2 (Yz qb v.F.length n) v.F->Ao X n2 (Yz mb v.ms.length m) v.ms->Calls prog 131 #[.agg #[Zg v.wd,Zg r.D,Zg r.G,Zg r.C,T2,P2,L2],.agg (Xy v.K (some ⟨qb,0,none⟩) v.F.length n (some ⟨mb,0,none⟩) v.ms.length m v.R v.S v.ro),.string (e.held r)] X fun o k=>Zz X k/\∃Q3 M3,o=.returned (.agg #[Zg v.K,Q3,M3,Zg v.R,Zg v.S,Zg v.ro])/\Ao k X.heap.size Q3 (shQ v.K r.ks v.F v.ms (e.held r))/\Ao k X.heap.size M3 v.ms)(qB:Cp v->∀r,e.yes v r->(e.kd=1->r.sm≠⟨#[]⟩)/\(e.held r=⟨#[]⟩->(shQ v.K r.ks v.F v.ms (e.held r))=v.F))(qO:Cp v->v.wd=v.O/\v.ss.length+v.A.length<=4000):
 Calls prog 112 #[.agg #[Zg v.wd,Zg v.lim,.slice sa v.ss.length sc,.slice ta v.A.length tc,b0,b1,b2,b3,b4,b5,b6,c0,c1,c2,c3,c4,c5],.agg (Ye e.kd e.s e.nm e.H e.tx ra e.rf.length rc)] w (VM v e w):=by
 obtain⟨W,hW⟩:∃W,W=((w.alloc (.cells #[Zg v.wd,Zg v.lim,.slice sa v.ss.length sc,.slice ta v.A.length tc,b0,b1,b2,b3,b4,b5,b6,c0,c1,c2,c3,c4,c5] 80)).alloc (.cells (Ye e.kd e.s e.nm e.H e.tx ra e.rf.length rc) 162)).alloc (.cells Xn 139):=⟨_,rfl⟩;have bW:=(CZ hW).1;have zW:=(CZ hW).2.1;have xV:=(CZ hW).2.2.1;have xE:=(CZ hW).2.2.2.1;have xZ:Aa W (w.heap.size+2) El:=(CZ hW).2.2.2.2
 have vD:Hid (∀X,Zz W X->Aa X w.heap.size [Zg v.wd,Zg v.lim,.slice sa v.ss.length sc,.slice ta v.A.length tc,b0,b1,b2,b3,b4,b5,b6,c0,c1,c2,c3,c4,c5]/\Aa X (w.heap.size+1) (Yd e.kd e.s e.nm e.H e.tx ra e.rf.length rc)/\Aa X (w.heap.size+2) El/\Zz w X):=fun X hX=>⟨Aa.below xV hX,Aa.below xE hX,Aa.below (v:=Ze) xZ hX,bW.trans (hX.mono bW.size)⟩;have HL:=Yw hlen;have rT:=Yw qG;have yO:=Yw qA
 have sQ:=Yw qC;have vC:=Yw rY;have HK:=Yw i;have HA:=Yw hA;have HZ:=Yw hZ;have yP:=Yw qH;have yF:=Yw qD;have HF:=Yw hF;have yE:=Yw rZ;have zJ:=Yw qF;have yY:=Yw qB;have yZ:=Yw qO;have HW:=Yw hW;clear hW xV xE xZ hlen qG qA qC rY i hA hZ qH qD hF rZ qF qB qO;go_enter func112,ntmps112;go_upto_region 1 with fail;rw[<-HW.o];clear HW
 go_wp2_with (refine wpList_load_mid rfl 80 _ rfl w.heap.size 0 rfl [Zg v.wd,Zg v.lim,.slice sa v.ss.length sc,.slice ta v.A.length tc,b0,b1,b2,b3,b4,b5,b6,c0,c1,c2,c3,c4,c5] _ (vD.o W (Below.refl _ _)).1.range underlying80 rfl Ys ?_);refine Calls.mono (rT.o W bW) ?_;rintro o w1 ⟨b1,rfl,sM,sI⟩;clear rT;cases b1 with
 |false=>
  have vM:¬Cp v:=fun h=>by have:=sM.2 h;cases this
  obtain⟨_,_,xZ,b1⟩:=vD.o w1 sI;obtain⟨W9,sF⟩:∃Y,Y=w1.setCells (w.heap.size+2) 0 (Xm 1):=⟨_,rfl⟩;have x9:Aa W9 (w.heap.size+2) (Xm 1):=by rw[sF];exact xZ.au _ rfl
  have qW:Hid (Zz w W9):=b1.trans (by rw[sF];exact(AL _ _ _ _).below b1.size Yu);have rN:=Yw (Zn (show((Xl 1):Array Value).all (·.oneCell')=true by simp[Value.oneCell']) xZ.there);have pB:=Yw x9;have qY:=Yw vM;have pA:=Yw sF;clear sF x9 vM xZ b1 vD yO sQ vC HK HA HZ yP yF HF yE zJ yY yZ HL sI sM
  go_wp2_with (refine wpList_store_mid rfl 139 _ _ rfl (w.heap.size+2) 0 (Xl 1) rfl rfl rN.o.2 Ys rN.o.1 ?_);rw[<-pA.o];refine bodyPost_ret (AW results112 _ _ (w.heap.size+2) (Xm 1) _ rfl (Aa.range pB.o) underlying139 rfl Ys) rfl ?_;exact⟨EA 1 v0 ⟨#[]⟩ ⟨#[]⟩,Xr,.inl ⟨qY.o,rfl⟩,rfl,fun V k _ _=>(AD.nil k 0).iu,qW.o⟩
 |true=>
  have yQ:=sM.1 rfl;have yA:Hid (Cp v):=yQ;replace yO:=Yw (yO.o yQ);replace vC:=Yw (vC.o yQ);replace HA:=Yw (HA.o yQ);replace yF:=Yw (yF.o yQ);replace yE:=Yw (yE.o yQ);replace zJ:=Yw (zJ.o yQ);replace yY:=Yw (yY.o yQ);replace yZ:=Yw (yZ.o yQ);have vU:Hid (Zz W w1):=sI;clear sM yQ sI
  go_wp2_with (refine wpList_load_mid rfl 80 _ rfl w.heap.size 0 rfl [Zg v.wd,Zg v.lim,.slice sa v.ss.length sc,.slice ta v.A.length tc,b0,b1,b2,b3,b4,b5,b6,c0,c1,c2,c3,c4,c5] _ (vD.o w1 vU.o).1.range underlying80 rfl Ys ?_);refine(yO.o w1 (vD.o w1 vU.o).2.2.2).mono ?_;rintro o j ⟨sb,y,ub,zI,T,P,L,qb,n,mb,m,rs,rfl,sH,sZ⟩
  obtain⟨vs,yS⟩:∃t,t=Bh v (Yz sb v.ss.length y) (Yz ub v.A.length zI) T P L (Yz qb v.F.length n) (Yz mb v.ms.length m):=⟨_,rfl⟩;have xO:vs.length=17/\∀u∈vs,u.oneCell'=true:=by obtain⟨a,h,_⟩:=sH.iu;rw[yS];exact⟨rfl,by rw[h];simp[Bh,Value.oneCell']⟩
  rw[<-yS];have z1:=vU.o.size;have z2:=sZ.size;have vV:=Yw (Za yS sH);have zN:Hid (vs.length=17/\∀u∈vs,u.oneCell'=true):=xO;have vW:Hid (w.heap.size+3<=w1.heap.size/\w1.heap.size<=j.heap.size):=⟨Yv,z2⟩;have sS:=vU.o.trans (sZ.mono z1);have yX:Hid (∀X,Zz j X->∀V k,(∀b∈V,b<w.heap.size+3)->Tn V X k->Lo v k.heap.size k vs):=fun X hX=>by rw[yS];exact sH.iw vW.o.1 hX
  have E:Hid (∀X,Zz j X->Aa X w.heap.size [Zg v.wd,Zg v.lim,.slice sa v.ss.length sc,.slice ta v.A.length tc,b0,b1,b2,b3,b4,b5,b6,c0,c1,c2,c3,c4,c5]/\Aa X (w.heap.size+1) (Yd e.kd e.s e.nm e.H e.tx ra e.rf.length rc)/\Aa X (w.heap.size+2) El/\Zz w X):=fun X hX=>vD.o X (sS.trans (hX.mono sS.size));obtain⟨D0,sA⟩:∃t,t=dL (EA 0 v ⟨#[]⟩ ⟨#[]⟩) vs:=⟨_,rfl⟩
  have sB:D0.length=22/\∀u∈D0,u.oneCell'=true:=by rw[sA];exact Jt xO
  have tQ:Hid (prog.built 139 [(1,.agg vs.toArray)]=some D0.toArray):=by show _=some D0.toArray;rw[sA];exact Qu xO.1
  obtain⟨W3,sX⟩:∃Y,Y=(j.alloc (.cells Xn 139)).setCells j.heap.size 0 D0.toArray.toList:=⟨_,rfl⟩;have hb:=boxed (X:=j) (cs:=D0) (z:=El) (T:=139) (by rw[sB.1];rfl);have e3:W3=(j.alloc (.cells El.toArray 139)).setCells j.heap.size 0 D0:=sX;rw[<-e3]at hb;obtain⟨x3,b3,z3⟩:=hb
  have tR:Hid ((j.alloc (.cells Xn 139)).there j.heap.size 0 D0.toArray.size/\D0.length=22/\∀x∈D0,x.oneCell'=true):=⟨by rw[show D0.toArray.size=22 from by rw[List.size_toArray];exact sB.1];exact(Aa.new j El 139).there,sB⟩;have tJ:Hid (Aa W3 j.heap.size (dL (EA 0 v ⟨#[]⟩ ⟨#[]⟩) vs)):=by show Aa W3 j.heap.size _;rw[<-sA];exact x3
  have vI:Hid (Zz j W3):=b3;have rU:=Yw sX;have pO:W3.heap.size=j.heap.size+1:=z3;clear sX e3 x3 b3 z3 sA sB sH sZ yS xO sS vD vU z1 z2;go_upto_region 4 with(first
   |refine FV rfl 139 _ rfl [(1,.agg vs.toArray)] Ys D0.toArray tQ.o ?_
   |refine wpList_store_mid rfl 139 _ _ rfl j.heap.size 0 D0.toArray rfl rfl tR.o.1 (by rw[List.size_toArray,tR.o.2.1];kernel_rfl) (all_oneCell_toArray tR.o.2.2) ?_)
  rw[<-rU.o];clear rU tQ tR
  as_aux_lemma=>
  obtain⟨pU,_⟩:=(E.o W3 vI.o).1 0 _ rfl;go_wp2_with (refine wpList_load_mid rfl 162 _ rfl (w.heap.size+1) 0 rfl (Yd e.kd e.s e.nm e.H e.tx ra e.rf.length rc) _ (E.o W3 vI.o).2.1.range underlying162 rfl Ys ?_);refine(sQ.o W3 (E.o W3 vI.o).2.2.2).mono ?_;rintro o s ⟨rfl,sJ⟩;have z4:=sJ.size;have xG:Hid (Zz j s):=vI.o.trans (sJ.mono vI.o.size)
  have zO:=Yw (Aa.same tJ.o (sJ.block _ Yv));have tU:Hid (j.heap.size<s.heap.size):=by show j.heap.size<s.heap.size;omega
  clear pU sQ tJ vI sJ z4 pO;cases hoe:e.ok v.wd with
  |false=>
   have zT:Hid (Gx v e (EA 1 v ⟨#[]⟩ ⟨#[]⟩)):=.inr ⟨yA.o,.inl ⟨1,⟨#[]⟩,⟨#[]⟩,.inl ⟨hoe,rfl,rfl,rfl⟩,rfl⟩⟩;have zM:=xG.o;clear hoe yO vC HK HA HZ yP yF HF yE zJ yY yZ HL;obtain⟨⟨k0,g0⟩,_⟩:=Nh zO.o zN.o.1;obtain⟨Y9,zC⟩:∃Y,Y=s.setCell (Zd (j.heap.size) 0) (Zg 1):=⟨_,rfl⟩;have yN:Aa Y9 j.heap.size (dL (EA 1 v ⟨#[]⟩ ⟨#[]⟩) vs):=by rw[zC];exact LO zO.o 1
   have zE:Below j.heap.size j Y9:=by rw[zC];exact zM.setCell (Zx) _
   have yH:=Yw zC;have zU:=Yw yN;clear zC yN zM;go_upto_region 6 with fail;rw[<-yH.o];clear yH k0 g0;obtain⟨D,hD⟩:∃t:Zj,t=dL (EA 1 v ⟨#[]⟩ ⟨#[]⟩) vs:=⟨_,rfl⟩;have vE:Hid (Aa Y9 j.heap.size D):=by rw[hD];exact zU.o
   have G:=Yw (Jy (E.o Y9 zE).2.2 (yX.o Y9 zE) zT.o zN.o hD);clear hD zE vV yX E zN;go_wp2_with (first
    |refine wpList_load_mid rfl 139 _ rfl j.heap.size 0 rfl D _ vE.o.range underlying139 rfl (by rw[G.o.1.1];kernel_rfl) ?_
    |refine wpList_store_mid rfl 139 _ _ rfl (w.heap.size+2) 0 D.toArray rfl rfl G.o.2.1 (by rw[List.size_toArray,G.o.1.1];kernel_rfl) (all_oneCell_toArray G.o.1.2) ?_)
   exact bodyPost_ret (AW results112 _ _ (w.heap.size+2) D _ rfl (Aa.range G.o.2.2.1) underlying139 rfl (by rw[G.o.1.1];kernel_rfl)) rfl G.o.2.2.2
  |true=>
   have tS:Hid (e.ok v.wd=true):=hoe;replace HA:=Yw (HA.o hoe);replace yF:=Yw (yF.o hoe);replace HF:=Yw (HF.o hoe);replace yE:=Yw (yE.o hoe);replace zJ:=Yw (zJ.o hoe);have rW:Hid _:=fun r xa xc U I O Q X=>HZ.o r xa xc U I O Q X yA.o hoe;clear hoe HZ
   as_aux_lemma=>
   go_upto_region 7 with fail;go_cut [6] (fun I wx=>∃(F:Nat) (N:Zj),I=Yy F/\Hid (Aa wx F N/\s.heap.size<=F/\Zz s wx/\Ju v e Z wx N))
   case first=>
    have yG:Hid (∀X k,(Aa X w.heap.size [Zg v.wd,Zg v.lim,.slice sa v.ss.length sc,.slice ta v.A.length tc,b0,b1,b2,b3,b4,b5,b6,c0,c1,c2,c3,c4,c5]/\Aa X (w.heap.size+1) (Yd e.kd e.s e.nm e.H e.tx ra e.rf.length rc))->Zz X k->Aa k w.heap.size [Zg v.wd,Zg v.lim,.slice sa v.ss.length sc,.slice ta v.A.length tc,b0,b1,b2,b3,b4,b5,b6,c0,c1,c2,c3,c4,c5]/\Aa k (w.heap.size+1) (Yd e.kd e.s e.nm e.H e.tx ra e.rf.length rc)):=fun X k h1 h2=>⟨Aa.below h1.1 h2,Aa.below h1.2 h2⟩
    have tT:Hid (∀X k (V:List Nat),(Aa X w.heap.size [Zg v.wd,Zg v.lim,.slice sa v.ss.length sc,.slice ta v.A.length tc,b0,b1,b2,b3,b4,b5,b6,c0,c1,c2,c3,c4,c5]/\Aa X (w.heap.size+1) (Yd e.kd e.s e.nm e.H e.tx ra e.rf.length rc))->(∀b∈V,s.heap.size<=b)->Tn V X k->Aa k w.heap.size [Zg v.wd,Zg v.lim,.slice sa v.ss.length sc,.slice ta v.A.length tc,b0,b1,b2,b3,b4,b5,b6,c0,c1,c2,c3,c4,c5]/\Aa k (w.heap.size+1) (Yd e.kd e.s e.nm e.H e.tx ra e.rf.length rc)):=fun X k V h1 h2 h3=>⟨Aa.same h1.1 (h3.block _ h1.1.lt (fun h=>by have:=h2 _ h;have:=tU.o;have:=vW.o;omega)),Aa.same h1.2 (h3.block _ h1.2.lt (fun h=>by have:=h2 _ h;have:=tU.o;have:=vW.o;omega))⟩
    have sR:Hid (∀X k F,(Aa X w.heap.size [Zg v.wd,Zg v.lim,.slice sa v.ss.length sc,.slice ta v.A.length tc,b0,b1,b2,b3,b4,b5,b6,c0,c1,c2,c3,c4,c5]/\Aa X (w.heap.size+1) (Yd e.kd e.s e.nm e.H e.tx ra e.rf.length rc))->s.heap.size<=F->Tn [F] X k->Aa k w.heap.size [Zg v.wd,Zg v.lim,.slice sa v.ss.length sc,.slice ta v.A.length tc,b0,b1,b2,b3,b4,b5,b6,c0,c1,c2,c3,c4,c5]/\Aa k (w.heap.size+1) (Yd e.kd e.s e.nm e.H e.tx ra e.rf.length rc)):=fun X k F h1 h2 h3=>tT.o X k [F] h1 (by simp;exact h2) h3
    have xI:Hid (∀X,Zz s X->Zz w X):=fun X hX=>(E.o X (xG.o.trans (hX.mono xG.o.size))).2.2.2;have rI:Hid (∀X k N,Ju v e Z X N->Zz X k->Ju v e Z k N):=fun X k N h1 h2=>by
     rcases h1 with h|⟨r,xa,xc,U,I,O,Q,h3,h4,h5⟩
     .exact .inl h
     .exact .inr ⟨r,xa,xc,U,I,O,Q,h3,h4,yP.o _ _ _ _ _ _ _ _ h5 _ h2⟩
    have vO:Hid (∀X F N,s.heap.size<=F->Zz s X->X.heap[F]?=some (.cells z12.toArray 134 (0,0))->Ju v e Z X N->Hid (Aa (X.setCells F 0 N.toArray.toList) F N/\s.heap.size<=F/\Zz s (X.setCells F 0 N.toArray.toList)/\Ju v e Z (X.setCells F 0 N.toArray.toList) N)):=fun X F N h1 h2 h3 h4=>by
     have t:=AL F N 0 X;refine⟨(Aa.jd (l:=z12) h3).au N (by rw[h4.small.1];rfl),h1,h2.trans (t.below h2.size (by simp;exact h1)),?_⟩;rcases h4 with h|⟨r,xa,xc,U,I,O,Q,h5,h6,h7⟩
     .exact .inl h
     .exact .inr ⟨r,xa,xc,U,I,O,Q,h5,h6,rW.o _ _ _ _ _ _ _ _ h5 h7 F _ h3 t⟩
    refine wp_region_held_drew (S:=fun X=>Aa X w.heap.size [Zg v.wd,Zg v.lim,.slice sa v.ss.length sc,.slice ta v.A.length tc,b0,b1,b2,b3,b4,b5,b6,c0,c1,c2,c3,c4,c5]/\Aa X (w.heap.size+1) (Yd e.kd e.s e.nm e.H e.tx ra e.rf.length rc)) Ys (show _/\_ from⟨(E.o s xG.o).1,(E.o s xG.o).2.1⟩) (fun H=> ?_)
    refine BJ 0 ⟨some 23,.fieldAddr 80 (.tmp 2) 3,0,Bw,#[],none⟩ (Yx w.heap.size 4) (by exact H) ?_;try simp only[Act.put,Bv]
    refine ES 1 ⟨some 24,.load 27 (.tmp 23),27,Bw,#[AA 0],none⟩ (.agg #[b0,b1,b2,b3,b4,b5,b6]) (by exact yieldsIf_load_mid Yq 27 _ rfl (w.heap.size) 4 rfl [b0,b1,b2,b3,b4,b5,b6] _ (fun X h=>Aa.fj [Zg v.wd,Zg v.lim,.slice sa v.ss.length sc,.slice ta v.A.length tc] [b0,b1,b2,b3,b4,b5,b6] [c0,c1,c2,c3,c4,c5] h.1) underlying27 rfl Ys) (by exact H) ?_;try simp only[Act.put,Bv]
    refine ES 3 ⟨some 26,.load 162 (.tmp 3),162,Bw,#[],none⟩ (.agg (Ye e.kd e.s e.nm e.H e.tx ra e.rf.length rc)) (by exact yieldsIf_load_mid Yq 162 _ rfl (w.heap.size+1) 0 rfl (Yd e.kd e.s e.nm e.H e.tx ra e.rf.length rc) _ (fun X h=>h.2.range) underlying162 rfl Ys) (by exact H) ?_;try simp only[Act.put,Bv]
    refine wpAnyH_ready (rs:=[2,5]) Ys Yu ?_;refine AllReadyH.cons (o:=⟨some 25,.call ⟨.value (.func 64),#[.tmp 24],#[27]⟩,27,Bw,#[AA 1],none⟩) rfl (fun K i=> ?_) (AllReadyH.cons (o:=⟨some 6,.alloc 134,0,Bw,#[],none⟩) rfl (fun K i=> ?_) AllReadyH.nil)
    .go_simp;refine(vC.o s.drew (xI.o _ (Below.refl _ _).drew)).mono ?_;rintro o w5 ⟨cs,V,rfl,vF,sW,sC⟩;try go_simp
     refine i.out _ _ (yG.o _ _ H vF) (fun zY=> ?_);clear i K;try simp only[Act.put,Bv]
     have yJ:Below s.heap.size s w5:=(Below.refl s.heap.size s).drew.trans vF;have xB:∀b∈V,s.heap.size<=b/\b<w5.heap.size:=sW;refine wpAnyH_ready (rs:=[4,5]) Ys Yu ?_
     refine AllReadyH.cons (o:=⟨some 27,.call ⟨.value (.func 111),#[.tmp 25,.tmp 26],#[27,162]⟩,134,Bw,#[AA 2,AA 3,⟨2,.chain⟩],none⟩) rfl (fun K i=> ?_) (AllReadyH.cons (o:=⟨some 6,.alloc 134,0,Bw,#[],none⟩) rfl (fun K i=> ?_) AllReadyH.nil)
     .go_simp;refine(HA.o cs V w5 (xI.o _ yJ) sC).mono ?_;rintro o w6 ⟨yR,N,rfl,zB⟩;have xN:=zB.small.1;have tB:=zB.small.2;try go_simp
      refine i.out _ _ (tT.o _ _ V zY (fun b hb=>(xB b hb).1) yR) (fun yK=> ?_);clear i K;try simp only[Act.put,Bv]
      have xK:Below s.heap.size s w6:=yJ.trans (yR.below yJ.size (fun b hb=>(xB b hb).1));refine Cu 5 ⟨some 6,.alloc 134,0,Bw,#[],none⟩ (fun K i=> ?_);go_simp;refine i.out _ _ (yG.o _ _ yK (Zy)) (fun xL=> ?_);clear i K;try simp only[Act.put,Bv]
      have nB:(w6.alloc (.cells z12.toArray 134)).heap[w6.heap.size]?=some (.cells z12.toArray 134 (0,0)):=heap_alloc_new _ _;have bB:Below w6.heap.size w6 (w6.alloc (.cells z12.toArray 134)):=(Zy);refine Cu 6 ⟨none,.store 134 (.tmp 6) (.tmp 27),0,Bw,#[AA 5,AA 4,⟨4,.chain⟩,Ak 0,Ak 1,Ak 2,Ak 3,Ak 4,Ak 5],none⟩ (fun K i=> ?_);rw[if_pos Yq]
      refine wp_store_mid 134 _ _ rfl w6.heap.size 0 N.toArray rfl rfl (by rw[show N.toArray.size=12 from by rw[List.size_toArray];exact xN];exact(Aa.jd (l:=z12) nB).there) (by rw[List.size_toArray,xN];kernel_rfl) (all_oneCell_toArray tB) ?_;refine i.out _ _ (sR.o _ _ _ xL xK.size (AL _ _ _ _)) (fun yL=> ?_);clear i K;try simp only[Act.put]
      refine wpAnyH_done Ys ?_ _;go_wp2_with fail;go_meet;exact⟨w6.heap.size,N,rfl,vO.o _ w6.heap.size N xK.size (xK.trans (bB.mono xK.size)) nB (rI.o _ _ _ zB bB)⟩
     .go_simp;refine i.out _ _ (yG.o _ _ zY (Zy)) (fun yK=> ?_);clear i K;try simp only[Act.put,Bv]
      have bB:Below w5.heap.size w5 (w5.alloc (.cells z12.toArray 134)):=(Zy);have sV:=yJ.trans (bB.mono yJ.size);refine Cu 4 ⟨some 27,.call ⟨.value (.func 111),#[.tmp 25,.tmp 26],#[27,162]⟩,134,Bw,#[AA 2,AA 3,⟨2,.chain⟩],none⟩ (fun K i=> ?_);go_simp;refine(HA.o cs V _ (xI.o _ sV) (HK.o _ _ _ _ sC bB)).mono ?_;rintro o w6 ⟨yR,N,rfl,zB⟩;have xN:=zB.small.1;have tB:=zB.small.2;try go_simp
      refine i.out _ _ (tT.o _ _ V yK (fun b hb=>(xB b hb).1) yR) (fun xL=> ?_);clear i K;try simp only[Act.put,Bv]
      have xK:Below s.heap.size s w6:=sV.trans (yR.below sV.size (fun b hb=>(xB b hb).1));have nB:w6.heap[w5.heap.size]?=some (.cells z12.toArray 134 (0,0)):=(yR.block w5.heap.size Yu (fun h=>by have:=(xB _ h).2;omega)).trans (show(w5.alloc (.cells z12.toArray 134)).heap[w5.heap.size]?=_ from heap_alloc_new _ _)
      refine Cu 6 ⟨none,.store 134 (.tmp 6) (.tmp 27),0,Bw,#[AA 5,AA 4,⟨4,.chain⟩,Ak 0,Ak 1,Ak 2,Ak 3,Ak 4,Ak 5],none⟩ (fun K i=> ?_);rw[if_pos Yq];refine wp_store_mid 134 _ _ rfl w5.heap.size 0 N.toArray rfl rfl (by rw[show N.toArray.size=12 from by rw[List.size_toArray];exact xN];exact(Aa.jd (l:=z12) nB).there) (by rw[List.size_toArray,xN];kernel_rfl) (all_oneCell_toArray tB) ?_
      refine i.out _ _ (sR.o _ _ _ xL yJ.size (AL _ _ _ _)) (fun yL=> ?_);clear i K;try simp only[Act.put]
      refine wpAnyH_done Ys ?_ _;go_wp2_with fail;go_meet;exact⟨w5.heap.size,N,rfl,vO.o w6 w5.heap.size N yJ.size xK nB zB⟩
    .go_simp;refine i.out _ _ (yG.o _ _ H (Zy)) (fun zY=> ?_);clear i K;try simp only[Act.put,Bv]
     have bB:Below s.heap.size s (s.alloc (.cells z12.toArray 134)).drew:=(Zy).drew;refine Cu 2 ⟨some 25,.call ⟨.value (.func 64),#[.tmp 24],#[27]⟩,27,Bw,#[AA 1],none⟩ (fun K i=> ?_);go_simp;refine(vC.o _ (xI.o _ bB)).mono ?_;rintro o w5 ⟨cs,V,rfl,vF,sW,sC⟩;try go_simp
     refine i.out _ _ (yG.o _ _ zY vF) (fun yK=> ?_);clear i K;try simp only[Act.put,Bv]
     have yJ:Below s.heap.size s w5:=bB.trans (vF.mono bB.size);have xB:∀b∈V,s.heap.size<b/\b<w5.heap.size:=fun b hb=>by have:=sW b hb;simp at this;omega
     refine Cu 4 ⟨some 27,.call ⟨.value (.func 111),#[.tmp 25,.tmp 26],#[27,162]⟩,134,Bw,#[AA 2,AA 3,⟨2,.chain⟩],none⟩ (fun K i=> ?_);go_simp;refine(HA.o cs V w5 (xI.o _ yJ) sC).mono ?_;rintro o w6 ⟨yR,N,rfl,zB⟩;have xN:=zB.small.1;have tB:=zB.small.2;try go_simp
     refine i.out _ _ (tT.o _ _ V yK (fun b hb=>by have:=xB b hb;omega) yR) (fun xL=> ?_);clear i K;try simp only[Act.put,Bv]
     have xK:Below s.heap.size s w6:=yJ.trans (yR.below yJ.size (fun b hb=>by have:=xB b hb;omega));have nB:w6.heap[s.heap.size]?=some (.cells z12.toArray 134 (0,0)):=(yR.block s.heap.size (by have:=vF.size;simp at this;omega) (fun h=>by have:=(xB _ h).1;omega)).trans ((vF.block s.heap.size Yu).trans (show(s.alloc (.cells z12.toArray 134)).heap[s.heap.size]?=_ from heap_alloc_new _ _))
     refine Cu 6 ⟨none,.store 134 (.tmp 6) (.tmp 27),0,Bw,#[AA 5,AA 4,⟨4,.chain⟩,Ak 0,Ak 1,Ak 2,Ak 3,Ak 4,Ak 5],none⟩ (fun K i=> ?_);rw[if_pos Yq];refine wp_store_mid 134 _ _ rfl s.heap.size 0 N.toArray rfl rfl (by rw[show N.toArray.size=12 from by rw[List.size_toArray];exact xN];exact(Aa.jd (l:=z12) nB).there) (by rw[List.size_toArray,xN];kernel_rfl) (all_oneCell_toArray tB) ?_
     refine i.out _ _ (sR.o _ _ _ xL (Zx) (AL _ _ _ _)) (fun yL=> ?_);clear i K;try simp only[Act.put]
     refine wpAnyH_done Ys ?_ _;go_wp2_with fail;go_meet;exact⟨s.heap.size,N,rfl,vO.o w6 s.heap.size N (Zx) xK nB zB⟩
   case rest=>
   revert wc;intro w7 hcut;obtain⟨F,N,rfl,hcut⟩:=hcut;obtain⟨xC,pJ,tW,qN⟩:=hcut.o;have z7:=tW.size;have xH:Hid (Zz j w7):=xG.o.trans (tW.mono xG.o.size);replace zO:=Yw (Aa.same zO.o (tW.block _ tU.o));have vX:Hid (j.heap.size<F/\F<w7.heap.size):=⟨by have:=tU.o;omega,xC.jf qN.small.1⟩;clear hcut tW HA vC HK rW xG z7 pJ;rcases qN with⟨c,p,q,vM,rfl⟩|⟨r,xa,xc,U,I,O,Q,hy,rfl,hz⟩
   .have pI:(c==0)=false:=by have:=FW.code vM;simp;omega
    have zT:Hid (Gx v e (EA c v p q)):=.inr ⟨yA.o,.inl ⟨c,p,q,.inr ⟨tS.o,.inl vM⟩,rfl⟩⟩;obtain⟨u0,_⟩:=xC 0 _ rfl;obtain⟨pS,_⟩:=xC 10 _ rfl;obtain⟨pT,_⟩:=xC 11 _ rfl;obtain⟨⟨k0,g0⟩,⟨pQ,pF⟩,pR,pG⟩:=Nh zO.o zN.o.1;obtain⟨Y9,zC⟩:∃Y,Y=((w7.setCell (Zd (j.heap.size) 0) (Zg c)).setCell (Zd (j.heap.size) 20) (.string p)).setCell (Zd (j.heap.size) 21) (.string q):=⟨_,rfl⟩
    have yN:Aa Y9 j.heap.size (dL (EA c v p q) vs):=by rw[zC];exact UP zO.o zN.o.1 c p q
    have zE:Below j.heap.size j Y9:=by rw[zC];exact((xH.o.setCell (Zx) _).setCell (Zx) _).setCell (Zx) _
    have pM:F≠j.heap.size:=by have:=vX.o;omega
    have yH:=Yw zC;have zU:=Yw yN;clear zC yN xC vM yO yP yF HF yE zJ yY yZ HL;go_upto_region 12 with fail;rw[<-yH.o];clear yH k0 g0 pQ pF pR pG u0 pS pT pI pM;obtain⟨D,hD⟩:∃t:Zj,t=dL (EA c v p q) vs:=⟨_,rfl⟩;have vE:Hid (Aa Y9 j.heap.size D):=by rw[hD];exact zU.o
    have G:=Yw (Jy (E.o Y9 zE).2.2 (yX.o Y9 zE) zT.o zN.o hD);clear hD zE vV yX E zN;go_wp2_with (first
     |refine wpList_load_mid rfl 139 _ rfl j.heap.size 0 rfl D _ vE.o.range underlying139 rfl (by rw[G.o.1.1];kernel_rfl) ?_
     |refine wpList_store_mid rfl 139 _ _ rfl (w.heap.size+2) 0 D.toArray rfl rfl G.o.2.1 (by rw[List.size_toArray,G.o.1.1];kernel_rfl) (all_oneCell_toArray G.o.1.2) ?_)
    exact bodyPost_ret (AW results112 _ _ (w.heap.size+2) D _ rfl (Aa.range G.o.2.2.1) underlying139 rfl (by rw[G.o.1.1];kernel_rfl)) rfl G.o.2.2.2
   have vJ:=Yw xC;have Hy:Hid (e.yes v r):=hy;have vY:Hid (Z r xa xc U I O Q w7):=hz;obtain⟨u0,_⟩:=xC 0 _ rfl;clear xC hy hz
   as_aux_lemma=>
   go_upto_region 13 with fail;clear u0;go_cut [51] (fun bg wx=>bg=.bool (e.dq v r)/\Hid (Zz w7 wx))
   case first=>
    by_cases hk1:e.kd=1
    .have rD:(e.kd==1)=true:=by simp[hk1]
     have sO:Hid (e.dq v r=decide (v.lim<BM v.wd r.ks)):=by show e.dq v r=_;simp[Ed.dq,hk1]
     replace yF:=Yw (yF.o hk1 r xa xc U I O Q w7.drew Hy.o (yP.o _ _ _ _ _ _ _ _ vY.o _ (Below.refl _ _).drew));clear hk1
     refine wp_region_held_drew (S:=fun X=>Aa X (w.heap.size+1) (Yd e.kd e.s e.nm e.H e.tx ra e.rf.length rc)/\Aa X w.heap.size [Zg v.wd,Zg v.lim,.slice sa v.ss.length sc,.slice ta v.A.length tc,b0,b1,b2,b3,b4,b5,b6,c0,c1,c2,c3,c4,c5]/\Aa X F [Ze,Zg v.wd,Zg r.D,Zg r.G,Zg r.C,.slice xa r.ks.length xc,.slice U r.ps.length I,.slice O r.ls.length Q,.string r.sm,Zg r.le,Zc,Zc]) Ys (show _/\_/\_ from⟨(E.o w7 xH.o).2.1,(E.o w7 xH.o).1,vJ.o⟩) (fun H=> ?_)
     refine BJ 0 ⟨some 41,.fieldAddr 162 (.tmp 3) 0,0,AV,#[],none⟩ (Yy (w.heap.size+1)) (by exact H) ?_;try simp only[Act.put,Bv]
     refine ES 1 ⟨some 42,.load 3 (.tmp 41),3,AV,#[AA 0],none⟩ (Zg e.kd) (by exact Or.inl ⟨Yq,fun X hX=>by have h1:=(hX.1 0 _ rfl).1;go_simp⟩) (by exact H) ?_;try simp only[Act.put,Bv]
     refine BJ 2 ⟨some 43,.binOp .eql 3 (.tmp 42) (.const (Zg 1)) 3,4,AV,#[AA 1],none⟩ (.bool true) (by exact H) ?_;try simp only[Act.put,Bv]
     refine BJ 3 ⟨some 44,.move (.tmp 43),4,AV,#[AA 2],none⟩ (.bool true) (by exact H) ?_;try simp only[Act.put,Bv]
     refine BJ 4 ⟨some 45,.fieldAddr 134 (.tmp 6) 1,0,AV,#[⟨3,.guard⟩],some (3,true)⟩ (Yx F 1) (by exact H) ?_;try simp only[Act.put,Bv]
     refine ES 5 ⟨some 46,.load 27 (.tmp 45),27,AV,#[AA 4,⟨3,.guard⟩],some (3,true)⟩ (.agg (Yj v.wd r.D r.G r.C xa r.ks.length xc U r.ps.length I O r.ls.length Q)) (by exact yieldsIf_load_mid Yq 27 _ rfl (F) 1 rfl (Yh v.wd r.D r.G r.C xa r.ks.length xc U r.ps.length I O r.ls.length Q) _ (fun X h=>Aa.fj [Ze] (Yh v.wd r.D r.G r.C xa r.ks.length xc U r.ps.length I O r.ls.length Q) [.string r.sm,Zg r.le,Zc,Zc] h.2.2) underlying27 rfl Ys) (by exact H) ?_
     try simp only[Act.put,Bv]
     refine BJ 7 ⟨some 48,.fieldAddr 80 (.tmp 2) 1,0,AV,#[⟨3,.guard⟩],some (3,true)⟩ (Yx w.heap.size 1) (by exact H) ?_;try simp only[Act.put,Bv]
     refine ES 8 ⟨some 49,.load 3 (.tmp 48),3,AV,#[AA 7,⟨3,.guard⟩],some (3,true)⟩ (Zg v.lim) (by exact Or.inl ⟨Yq,fun X hX=>by have h1:=(hX.2.1 1 _ rfl).1;go_simp⟩) (by exact H) ?_;try simp only[Act.put,Bv]
     refine Cu 6 ⟨some 47,.call ⟨.value (.func 130),#[.tmp 46],#[27]⟩,3,AV,#[AA 5,⟨3,.chain⟩,⟨3,.guard⟩],some (3,true)⟩ (fun K i=> ?_);rw[if_pos Yq];go_simp;refine Calls.mono yF.o ?_;rintro o w8 ⟨rfl,sK⟩;have pH:Below w7.heap.size w7 w8:=(Below.refl w7.heap.size w7).drew.trans sK;try go_simp
     refine i.out _ _ ⟨Aa.below H.1 sK,Aa.below H.2.1 sK,Aa.below H.2.2 sK⟩ (fun zY=> ?_);clear i K;try simp only[Act.put,Bv]
     refine BJ 9 ⟨some 50,.binOp .gtr 3 (.tmp 47) (.tmp 49) 3,4,AV,#[AA 6,AA 8,⟨3,.guard⟩],some (3,true)⟩ (.bool (decide (v.lim<BM v.wd r.ks))) (by exact zY) ?_;try simp only[Act.put,Bv]
     refine BJ 10 ⟨some 51,.pick (.tmp 44) (.tmp 50) (.const (.bool false)),4,AV,#[AA 3,AA 9],none⟩ (.bool (decide (v.lim<BM v.wd r.ks))) (by exact zY) ?_;try simp only[Act.put,Bv]
     refine wpAnyH_done Ys ?_ _;go_wp2_with fail;go_meet;exact⟨by rw[sO.o],pH⟩
    .have rD:(e.kd==1)=false:=by simpa using hk1
     have sO:Hid (e.dq v r=false):=by show e.dq v r=_;simp[Ed.dq,hk1]
     clear hk1
     refine wp_region_held_drew (S:=fun X=>Aa X (w.heap.size+1) (Yd e.kd e.s e.nm e.H e.tx ra e.rf.length rc)/\Aa X w.heap.size [Zg v.wd,Zg v.lim,.slice sa v.ss.length sc,.slice ta v.A.length tc,b0,b1,b2,b3,b4,b5,b6,c0,c1,c2,c3,c4,c5]/\Aa X F [Ze,Zg v.wd,Zg r.D,Zg r.G,Zg r.C,.slice xa r.ks.length xc,.slice U r.ps.length I,.slice O r.ls.length Q,.string r.sm,Zg r.le,Zc,Zc]) Ys (show _/\_/\_ from⟨(E.o w7 xH.o).2.1,(E.o w7 xH.o).1,vJ.o⟩) (fun H=> ?_)
     refine BJ 0 ⟨some 41,.fieldAddr 162 (.tmp 3) 0,0,AV,#[],none⟩ (Yy (w.heap.size+1)) (by exact H) ?_;try simp only[Act.put,Bv]
     refine ES 1 ⟨some 42,.load 3 (.tmp 41),3,AV,#[AA 0],none⟩ (Zg e.kd) (by exact Or.inl ⟨Yq,fun X hX=>by have h1:=(hX.1 0 _ rfl).1;go_simp⟩) (by exact H) ?_;try simp only[Act.put,Bv]
     refine BJ 2 ⟨some 43,.binOp .eql 3 (.tmp 42) (.const (Zg 1)) 3,4,AV,#[AA 1],none⟩ (.bool false) (by exact H) ?_;try simp only[Act.put,Bv]
     refine BJ 3 ⟨some 44,.move (.tmp 43),4,AV,#[AA 2],none⟩ (.bool false) (by exact H) ?_;try simp only[Act.put,Bv]
     refine Pp 4 ⟨some 45,.fieldAddr 134 (.tmp 6) 1,0,AV,#[⟨3,.guard⟩],some (3,true)⟩ (by exact H) ?_;try simp only[Act.put,Bv]
     refine Pp 5 ⟨some 46,.load 27 (.tmp 45),27,AV,#[AA 4,⟨3,.guard⟩],some (3,true)⟩ (by exact H) ?_;try simp only[Act.put,Bv]
     refine Pp 6 ⟨some 47,.call ⟨.value (.func 130),#[.tmp 46],#[27]⟩,3,AV,#[AA 5,⟨3,.chain⟩,⟨3,.guard⟩],some (3,true)⟩ (by exact H) ?_;try simp only[Act.put,Bv]
     refine Pp 7 ⟨some 48,.fieldAddr 80 (.tmp 2) 1,0,AV,#[⟨3,.guard⟩],some (3,true)⟩ (by exact H) ?_;try simp only[Act.put,Bv]
     refine Pp 8 ⟨some 49,.load 3 (.tmp 48),3,AV,#[AA 7,⟨3,.guard⟩],some (3,true)⟩ (by exact H) ?_;try simp only[Act.put,Bv]
     refine Pp 9 ⟨some 50,.binOp .gtr 3 (.tmp 47) (.tmp 49) 3,4,AV,#[AA 6,AA 8,⟨3,.guard⟩],some (3,true)⟩ (by exact H) ?_;try simp only[Act.put,Bv]
     refine BJ 10 ⟨some 51,.pick (.tmp 44) (.tmp 50) (.const (.bool false)),4,AV,#[AA 3,AA 9],none⟩ (.bool false) (by exact H) ?_;try simp only[Act.put,Bv]
     refine wpAnyH_done Ys ?_ _;go_wp2_with fail;go_meet;exact⟨by rw[sO.o],(Below.refl w7.heap.size w7).drew⟩
   case rest=>
   revert wc;intro f hcut;obtain⟨rfl,yD⟩:=hcut;have pV:=yD.o.size;have zA:Hid (Zz j f):=xH.o.trans (yD.o.mono xH.o.size);replace zO:=Yw (Aa.same zO.o (yD.o.block _ (by have:=vX.o;omega)));replace vJ:=Yw (Aa.below vJ.o yD.o);replace vY:Hid (Z r xa xc U I O Q f):=yP.o _ _ _ _ _ _ _ _ vY.o _ yD.o;have vQ:Hid (j.heap.size<F/\F<f.heap.size):=⟨vX.o.1,by have:=vX.o;omega⟩;clear yD yF xH vX pV
   cases hbg:e.dq v r with
   |true=>
    have zT:Hid (Gx v e (EA 8 v ⟨#[]⟩ ⟨#[]⟩)):=.inr ⟨yA.o,.inl ⟨8,⟨#[]⟩,⟨#[]⟩,.inr ⟨tS.o,.inr ⟨rfl,rfl,r,Hy.o,.inl ⟨hbg,rfl⟩⟩⟩,rfl⟩⟩;have zM:=zA.o;clear hbg yO yP HF yE zJ yY yZ HL;obtain⟨⟨k0,g0⟩,_⟩:=Nh zO.o zN.o.1;obtain⟨Y9,zC⟩:∃Y,Y=f.setCell (Zd (j.heap.size) 0) (Zg 8):=⟨_,rfl⟩;have yN:Aa Y9 j.heap.size (dL (EA 8 v ⟨#[]⟩ ⟨#[]⟩) vs):=by rw[zC];exact LO zO.o 8
    have zE:Below j.heap.size j Y9:=by rw[zC];exact zM.setCell (Zx) _
    have yH:=Yw zC;have zU:=Yw yN;clear zC yN zM;go_upto_region 15 with fail;rw[<-yH.o];clear yH k0 g0;obtain⟨D,hD⟩:∃t:Zj,t=dL (EA 8 v ⟨#[]⟩ ⟨#[]⟩) vs:=⟨_,rfl⟩;have vE:Hid (Aa Y9 j.heap.size D):=by rw[hD];exact zU.o
    have G:=Yw (Jy (E.o Y9 zE).2.2 (yX.o Y9 zE) zT.o zN.o hD);clear hD zE vV yX E zN;go_wp2_with (first
     |refine wpList_load_mid rfl 139 _ rfl j.heap.size 0 rfl D _ vE.o.range underlying139 rfl (by rw[G.o.1.1];kernel_rfl) ?_
     |refine wpList_store_mid rfl 139 _ _ rfl (w.heap.size+2) 0 D.toArray rfl rfl G.o.2.1 (by rw[List.size_toArray,G.o.1.1];kernel_rfl) (all_oneCell_toArray G.o.1.2) ?_)
    exact bodyPost_ret (AW results112 _ _ (w.heap.size+2) D _ rfl (Aa.range G.o.2.2.1) underlying139 rfl (by rw[G.o.1.1];kernel_rfl)) rfl G.o.2.2.2
   |false=>
   have sP:Hid (¬e.jc v r):=by show ¬(e.dq v r=true);rw[hbg];simp
   clear hbg;obtain⟨qR,_⟩:=(E.o f zA.o).1 2 _ rfl;obtain⟨qS,_⟩:=(E.o f zA.o).1 3 _ rfl;obtain⟨qM,qP⟩:=HL.o;have qJ:=yZ.o.2;by_cases hfull:v.ss.length+v.A.length=4000
   .have zT:Hid (Gx v e (EA 9 v ⟨#[]⟩ ⟨#[]⟩)):=.inr ⟨yA.o,.inl ⟨9,⟨#[]⟩,⟨#[]⟩,.inr ⟨tS.o,.inr ⟨rfl,rfl,r,Hy.o,.inr ⟨sP.o,hfull,rfl⟩⟩⟩,rfl⟩⟩;have rC:¬((v.ss.length:Int)+(v.A.length:Int)<4000):=Yv
    have zM:=zA.o;clear yO yP HF yE zJ yY yZ HL;go_upto_region 17 with fail;clear qR qS rC hfull qM qP qJ;obtain⟨⟨k0,g0⟩,_⟩:=Nh zO.o zN.o.1;obtain⟨Y9,zC⟩:∃Y,Y=f.setCell (Zd (j.heap.size) 0) (Zg 9):=⟨_,rfl⟩;have yN:Aa Y9 j.heap.size (dL (EA 9 v ⟨#[]⟩ ⟨#[]⟩) vs):=by rw[zC];exact LO zO.o 9
    have zE:Below j.heap.size j Y9:=by rw[zC];exact zM.setCell (Zx) _
    have yH:=Yw zC;have zU:=Yw yN;clear zC yN zM;go_upto_region 18 with fail;rw[<-yH.o];clear yH k0 g0;obtain⟨D,hD⟩:∃t:Zj,t=dL (EA 9 v ⟨#[]⟩ ⟨#[]⟩) vs:=⟨_,rfl⟩;have vE:Hid (Aa Y9 j.heap.size D):=by rw[hD];exact zU.o
    have G:=Yw (Jy (E.o Y9 zE).2.2 (yX.o Y9 zE) zT.o zN.o hD);clear hD zE vV yX E zN;go_wp2_with (first
     |refine wpList_load_mid rfl 139 _ rfl j.heap.size 0 rfl D _ vE.o.range underlying139 rfl (by rw[G.o.1.1];kernel_rfl) ?_
     |refine wpList_store_mid rfl 139 _ _ rfl (w.heap.size+2) 0 D.toArray rfl rfl G.o.2.1 (by rw[List.size_toArray,G.o.1.1];kernel_rfl) (all_oneCell_toArray G.o.1.2) ?_)
    exact bodyPost_ret (AW results112 _ _ (w.heap.size+2) D _ rfl (Aa.range G.o.2.2.1) underlying139 rfl (by rw[G.o.1.1];kernel_rfl)) rfl G.o.2.2.2
   have rC:(v.ss.length:Int)+(v.A.length:Int)<4000:=Yv
   have rJ:Hid (NM v e r):=⟨tS.o,Hy.o,sP.o,hfull⟩;clear sP hfull
   as_aux_lemma=>
   go_upto_region 19 with fail;clear qR qS rC qJ qM qP;clear vV zN zO yX;go_wp2_with (refine wpList_load_mid rfl 80 _ rfl w.heap.size 0 rfl [Zg v.wd,Zg v.lim,.slice sa v.ss.length sc,.slice ta v.A.length tc,b0,b1,b2,b3,b4,b5,b6,c0,c1,c2,c3,c4,c5] _ (E.o f zA.o).1.range underlying80 rfl Ys ?_);refine(yO.o f (E.o f zA.o).2.2.2).mono ?_
   rintro o d ⟨sb,y,ub,zI,T,P,L,qb,n,mb,m,rs,rfl,xU,xW⟩;obtain⟨C,hC⟩:∃t,t=Bh v (Yz sb v.ss.length y) (Yz ub v.A.length zI) T P L (Yz qb v.F.length n) (Yz mb v.ms.length m):=⟨_,rfl⟩;have tX:C.length=17/\∀u∈C,u.oneCell'=true:=by obtain⟨a,h,_⟩:=xU.iu;rw[hC];exact⟨rfl,by rw[h];simp[Bh,Value.oneCell']⟩
   rw[<-hC];have qU:=xW.size;obtain⟨M,vR⟩:∃Y,Y=(d.alloc (.cells Xs 80)).setCells d.heap.size 0 C.toArray.toList:=⟨_,rfl⟩;have hb:=boxed (X:=d) (cs:=C) (z:=Xr) (T:=80) (by rw[tX.1];rfl);have rX:M=(d.alloc (.cells Xr.toArray 80)).setCells d.heap.size 0 C:=vR;rw[<-rX]at hb;obtain⟨rF,sT,tP⟩:=hb
   have xR:Hid ((d.alloc (.cells Xs 80)).there d.heap.size 0 C.toArray.size/\C.length=17/\∀x∈C,x.oneCell'=true):=⟨by rw[show C.toArray.size=17 from by rw[List.size_toArray];exact tX.1];exact(Aa.new d Xr 80).there,tX⟩
   have yB:Hid (Aa M d.heap.size [Zg v.wd,Zg v.lim,Yz sb v.ss.length y,Yz ub v.A.length zI,Zg v.O,Zg v.D,Zg v.G,Zg v.C,T,P,L,Zg v.K,Yz qb v.F.length n,Yz mb v.ms.length m,Zg v.R,Zg v.S,Zg v.ro]):=by show Aa M d.heap.size [Zg v.wd,Zg v.lim,Yz sb v.ss.length y,Yz ub v.A.length zI,Zg v.O,Zg v.D,Zg v.G,Zg v.C,T,P,L,Zg v.K,Yz qb v.F.length n,Yz mb v.ms.length m,Zg v.R,Zg v.S,Zg v.ro];rw[hC]at rF;exact rF
   have xF:=xW.trans (sT.mono xW.size);have zS:Hid (Zz j M):=zA.o.trans (xF.mono zA.o.size);have zR:Hid (AD M f.heap.size (Yz sb v.ss.length y) (Yz ub v.A.length zI) T P L (Yz qb v.F.length n) (Yz mb v.ms.length m) rs v/\∀g∈CK (Yz sb v.ss.length y) (Yz ub v.A.length zI) T P L (Yz qb v.F.length n) (Yz mb v.ms.length m) rs,g<d.heap.size):=⟨xU.below sT,xU.di⟩
   have yI:Hid (w.heap.size+3<=j.heap.size/\j.heap.size<F/\F<f.heap.size/\f.heap.size<=d.heap.size/\M.heap.size=d.heap.size+1):=⟨by have:=vW.o;omega,vQ.o.1,vQ.o.2,qU,tP⟩;have zZ:Hid (Zz f M):=xF;have tG:=Yw vR;clear vR rX rF sT tP qU hC tX xU xW xF yO vQ vW
   go_upto_region 20 with(refine wpList_store_mid rfl 80 _ _ rfl d.heap.size 0 C.toArray rfl rfl xR.o.1 (by rw[List.size_toArray,xR.o.2.1];kernel_rfl) (all_oneCell_toArray xR.o.2.2) ?_);rw[<-tG.o];clear tG xR
   as_aux_lemma=>
   obtain⟨et,rB⟩:∃t,t=e.cj v.wd:=⟨_,rfl⟩;rw[<-rB]at HF;obtain⟨yT,tD⟩:∃t,t=v.A++[et]:=⟨_,rfl⟩;obtain⟨J,tE⟩:∃t,t=yT.length:=⟨_,rfl⟩;have rR:Hid (yT=v.A++[e.cj v.wd]/\J=yT.length):=⟨by rw[tD,rB],tE⟩;have rQ:Hid (yT=v.A++[et]/\J=yT.length):=⟨tD,tE⟩;clear rB tD tE;simp only[Act.put]
   go_cut [] (fun wx=>∃(A:Zk) (B:Nat),Hid (Aa wx d.heap.size [Zg v.wd,Zg v.lim,Yz sb v.ss.length y,.slice A J B,Zg v.O,Zg v.D,Zg v.G,Zg v.C,T,P,L,Zg v.K,Yz qb v.F.length n,Yz mb v.ms.length m,Zg v.R,Zg v.S,Zg v.ro]/\Zz f wx/\M.heap.size<=wx.heap.size/\Ao wx f.heap.size (Yz sb v.ss.length y) v.ss/\Ao wx f.heap.size (.slice A J B) yT/\Ao wx f.heap.size (Yz qb v.F.length n) v.F/\Ao wx f.heap.size (Yz mb v.ms.length m) v.ms/\∀g,Al (.slice A J B)=some g->g≠d.heap.size))
   case first=>
    have yG:Hid (∀X k,(Aa X w.heap.size [Zg v.wd,Zg v.lim,.slice sa v.ss.length sc,.slice ta v.A.length tc,b0,b1,b2,b3,b4,b5,b6,c0,c1,c2,c3,c4,c5]/\Aa X (w.heap.size+1) (Yd e.kd e.s e.nm e.H e.tx ra e.rf.length rc))->Zz X k->Aa k w.heap.size [Zg v.wd,Zg v.lim,.slice sa v.ss.length sc,.slice ta v.A.length tc,b0,b1,b2,b3,b4,b5,b6,c0,c1,c2,c3,c4,c5]/\Aa k (w.heap.size+1) (Yd e.kd e.s e.nm e.H e.tx ra e.rf.length rc)):=fun X k h1 h2=>⟨Aa.below h1.1 h2,Aa.below h1.2 h2⟩
    have xI:Hid (∀X,Zz M X->Zz w X):=fun X hX=>(E.o X (zS.o.trans (hX.mono zS.o.size))).2.2.2
    have rL:Hid (∀X,Zz M X->∃(A:Zk) (B:Nat) (Y:Zh),(Builtin.append_ #[29,29] 29 #[Yz ub v.A.length zI,Yz X.heap.size 1 1]).run prog (X.alloc (.cells #[.string et] 9))=.ok (.slice A J B) Y/\(Aa Y w.heap.size [Zg v.wd,Zg v.lim,.slice sa v.ss.length sc,.slice ta v.A.length tc,b0,b1,b2,b3,b4,b5,b6,c0,c1,c2,c3,c4,c5]/\Aa Y (w.heap.size+1) (Yd e.kd e.s e.nm e.H e.tx ra e.rf.length rc))/\(Y.cell? (Zd (d.heap.size) 3)=some (Yz ub v.A.length zI)/\Y.frozen? ⟨d.heap.size,3,none⟩=false)/\(Aa (Y.setCell (Zd (d.heap.size) 3) (.slice A J B)) w.heap.size [Zg v.wd,Zg v.lim,.slice sa v.ss.length sc,.slice ta v.A.length tc,b0,b1,b2,b3,b4,b5,b6,c0,c1,c2,c3,c4,c5]/\Aa (Y.setCell (Zd (d.heap.size) 3) (.slice A J B)) (w.heap.size+1) (Yd e.kd e.s e.nm e.H e.tx ra e.rf.length rc))/\Hid (Aa (Y.setCell (Zd (d.heap.size) 3) (.slice A J B)) d.heap.size [Zg v.wd,Zg v.lim,Yz sb v.ss.length y,.slice A J B,Zg v.O,Zg v.D,Zg v.G,Zg v.C,T,P,L,Zg v.K,Yz qb v.F.length n,Yz mb v.ms.length m,Zg v.R,Zg v.S,Zg v.ro]/\Zz f (Y.setCell (Zd (d.heap.size) 3) (.slice A J B))/\M.heap.size<=(Y.setCell (Zd (d.heap.size) 3) (.slice A J B)).heap.size/\Ao (Y.setCell (Zd (d.heap.size) 3) (.slice A J B)) f.heap.size (Yz sb v.ss.length y) v.ss/\Ao (Y.setCell (Zd (d.heap.size) 3) (.slice A J B)) f.heap.size (.slice A J B) yT/\Ao (Y.setCell (Zd (d.heap.size) 3) (.slice A J B)) f.heap.size (Yz qb v.F.length n) v.F/\Ao (Y.setCell (Zd (d.heap.size) 3) (.slice A J B)) f.heap.size (Yz mb v.ms.length m) v.ms/\∀g,Al (.slice A J B)=some g->g≠d.heap.size)):=fun X hX=>by
     have nA:=hX.size;have hz:=yI.o;obtain⟨tD,tE⟩:=rQ.o;have sG:=E.o X (zS.o.trans (hX.mono zS.o.size));have hA:=zR.o.1.below hX;have bA:Below X.heap.size X (X.alloc (.cells #[.string et] 9)):=(Zy)
     obtain⟨V',Y,hr,hO,hg,hk⟩:=JP (X.alloc (.cells #[.string et] 9)) f.heap.size (Yz ub v.A.length zI) v.A (hA.u.below bA) ⟨X.heap.size,0,none⟩ 1 et (by simp[go_sem]) (by have:=HL.o.2;omega) Yt 29;rw[<-tD]at hO;obtain⟨A,B,rfl,_⟩:=hO.row;rw[<-tE]at hr hO hk;have pY:=hA.u.W (g:=ub) rfl;have pZ:ub<d.heap.size:=zR.o.2 ub (by unfold CK;simp[Al])
     have tY:Tn [ub] X Y:=((Tn.of (V:=[]) bA).mono Yu).trans (Tn.grown hg Yu);have tZ:Tn [d.heap.size] Y (Y.setCell (Zd (d.heap.size) 3) (.slice A J B)):=Tn.set _ _ _ _ Yu
     have s1:Aa Y w.heap.size [Zg v.wd,Zg v.lim,.slice sa v.ss.length sc,.slice ta v.A.length tc,b0,b1,b2,b3,b4,b5,b6,c0,c1,c2,c3,c4,c5]/\Aa Y (w.heap.size+1) (Yd e.kd e.s e.nm e.H e.tx ra e.rf.length rc):=⟨Aa.same sG.1 (tY.block _ sG.1.lt Yt),Aa.same sG.2.1 (tY.block _ sG.2.1.lt Yt)⟩;have xo:=Aa.below yB.o hX;have xY:=Aa.same xo (tY.block _ xo.lt Yt)
     have tA:∀g,Al (.slice A J B)=some g->g≠d.heap.size:=fun g xM=>by
      rcases hk with h|h
      .rw[h]at xM;have:ub=g:=Option.some.inj xM;omega
      .rw[h]at xM;have:_=g:=Option.some.inj xM;simp at this;omega
     have sY:=hA.ap
     have vT:∀{R:Value} {l:Zl},Ao X f.heap.size R l->(∀g,Al R=some g->g∈CK (Yz sb v.ss.length y) (Yz ub v.A.length zI) T P L (Yz qb v.F.length n) (Yz mb v.ms.length m) rs)->Al R≠some ub->Ao (Y.setCell (Zd (d.heap.size) 3) (.slice A J B)) f.heap.size R l:=fun h1 h2 h3=>(h1.I tY (fun g xM vL=>h3 (by simp at vL;rw[xM,vL]))).I tZ (fun g xM vL=>by have:=zR.o.2 g (h2 g xM);simp at vL;omega)
     have bY:Below f.heap.size f Y:=(zZ.o.trans (hX.mono zZ.o.size)).trans (tY.below Yv Yt)
     exact⟨A,B,Y,hr,s1,xY 3 _ rfl,⟨Aa.same s1.1 (tZ.block _ s1.1.lt Yt),Aa.same s1.2 (tZ.block _ s1.2.lt Yt)⟩,xY.set 3 _,bY.trans (tZ.below bY.size Yt),by have:=tY.size;simp;omega,vT hA.s (fun g h=>by unfold CK;rw[h];simp) (sY.1 ub rfl),hO.I tZ (fun g h=>by have:=tA g h;simp;omega),vT hA.q (fun g h=>by unfold CK;rw[h];simp) (sY.2 ub rfl).1,vT hA.m (fun g h=>by unfold CK;rw[h];simp) (sY.2 ub rfl).2,tA⟩
    refine wp_region_held_drew (S:=fun X=>Aa X w.heap.size [Zg v.wd,Zg v.lim,.slice sa v.ss.length sc,.slice ta v.A.length tc,b0,b1,b2,b3,b4,b5,b6,c0,c1,c2,c3,c4,c5]/\Aa X (w.heap.size+1) (Yd e.kd e.s e.nm e.H e.tx ra e.rf.length rc)) Ys (show _/\_ from⟨(E.o M zS.o).1,(E.o M zS.o).2.1⟩) (fun H=> ?_)
    refine BJ 0 ⟨some 68,.fieldAddr 80 (.tmp 7) 2,0,AN,#[],none⟩ (Yx d.heap.size 2) (by exact H) ?_;try simp only[Act.put,Bv]
    refine BJ 1 ⟨some 69,.fieldAddr 76 (.tmp 68) 1,0,AN,#[AA 0],none⟩ (Yx d.heap.size 3) (by exact H) ?_;try simp only[Act.put,Bv]
    refine ES 3 ⟨some 71,.load 162 (.tmp 3),162,AN,#[],none⟩ (.agg (Ye e.kd e.s e.nm e.H e.tx ra e.rf.length rc)) (by exact yieldsIf_load_mid Yq 162 _ rfl (w.heap.size+1) 0 rfl (Yd e.kd e.s e.nm e.H e.tx ra e.rf.length rc) _ (fun X h=>h.2.range) underlying162 rfl Ys) (by exact H) ?_;try simp only[Act.put,Bv]
    refine BJ 4 ⟨some 72,.fieldAddr 80 (.tmp 2) 0,0,AN,#[],none⟩ (Yy w.heap.size) (by exact H) ?_;try simp only[Act.put,Bv]
    refine ES 5 ⟨some 73,.load 3 (.tmp 72),3,AN,#[AA 4],none⟩ (Zg v.wd) (by exact Or.inl ⟨Yq,fun X hX=>by have h1:=(hX.1 0 _ rfl).1;go_simp⟩) (by exact H) ?_;try simp only[Act.put,Bv]
    refine wpAnyH_ready (rs:=[2,6]) Ys Yu ?_;refine AllReadyH.cons (o:=⟨some 70,.load 29 (.tmp 69),29,AN,#[AA 1],none⟩) rfl (fun K i=> ?_) (AllReadyH.cons (o:=⟨some 74,.call ⟨.value (.func 118),#[.tmp 71,.tmp 73],#[162,3]⟩,9,AN,#[AA 3,AA 5],none⟩) rfl (fun K i=> ?_) AllReadyH.nil)
    .have pW:=(yB.o 3 _ rfl).1;go_simp;refine i.out _ _ H (fun zY=> ?_);clear i K;try simp only[Act.put,Bv]
     refine Cu 6 ⟨some 74,.call ⟨.value (.func 118),#[.tmp 71,.tmp 73],#[162,3]⟩,9,AN,#[AA 3,AA 5],none⟩ (fun K i=> ?_);go_simp;refine(HF.o M.drew (xI.o _ (Below.refl _ _).drew)).mono ?_;rintro o wf ⟨rfl,vZ⟩;try go_simp
     refine i.out _ _ (yG.o _ _ zY vZ) (fun yK=> ?_);clear i K;try simp only[Act.put,Bv]
     have vG:Below M.heap.size M wf:=(Below.refl M.heap.size M).drew.trans vZ;have c3:=(Aa.below yB.o vG 3 _ rfl).1;obtain⟨A,B,Yf,vA,sD,⟨y3,g3⟩,sE,xX⟩:=rL.o wf vG;refine Cu 7 ⟨some 75,.buildSlice 29 1 #[(0,.tmp 74)],29,AN,#[AA 6],none⟩ (fun K i=> ?_);go_simp;refine i.out _ _ (yG.o _ _ yK (Zy)) (fun xL=> ?_);clear i K;try simp only[Act.put,Bv]
     refine Cu 8 ⟨some 76,.call ⟨.builtin .append,#[.tmp 70,.tmp 75],#[29,29]⟩,29,AN,#[AA 2,AA 7,⟨6,.chain⟩],none⟩ (fun K i=> ?_);refine Cc rfl _ _ _ _ rfl Yq Yq vA ?_;refine i.out _ _ sD (fun yL=> ?_);clear i K;try simp only[Act.put,Bv]
     refine BJ 9 ⟨some 77,.fieldAddr 80 (.tmp 7) 2,0,AN,#[Ak 0,Ak 1,Ak 2,Ak 3,Ak 4,Ak 5,Ak 6,Ak 7,Ak 8],none⟩ (Yx d.heap.size 2) (by exact yL) ?_;try simp only[Act.put,Bv]
     refine BJ 10 ⟨some 78,.fieldAddr 76 (.tmp 77) 1,0,AN,#[AA 9,Ak 0,Ak 1,Ak 2,Ak 3,Ak 4,Ak 5,Ak 6,Ak 7,Ak 8],none⟩ (Yx d.heap.size 3) (by exact yL) ?_;try simp only[Act.put,Bv]
     refine Cu 11 ⟨none,.store 29 (.tmp 78) (.tmp 76),0,AN,#[AA 10,AA 8,⟨8,.chain⟩,Ak 0,Ak 1,Ak 2,Ak 3,Ak 4,Ak 5,Ak 6,Ak 7,Ak 8],none⟩ (fun K i=> ?_);go_simp;refine i.out _ _ sE (fun qE=> ?_);clear i K;try simp only[Act.put]
     refine wpAnyH_done Ys ?_ _;go_wp2_with fail;go_meet;exact⟨A,B,xX⟩
    .go_simp;refine(HF.o M.drew (xI.o _ (Below.refl _ _).drew)).mono ?_;rintro o wf ⟨rfl,vZ⟩;try go_simp
     refine i.out _ _ (yG.o _ _ H vZ) (fun zY=> ?_);clear i K;try simp only[Act.put,Bv]
     have vG:Below M.heap.size M wf:=(Below.refl M.heap.size M).drew.trans vZ;have c3:=(Aa.below yB.o vG 3 _ rfl).1;obtain⟨A,B,Yf,vA,sD,⟨y3,g3⟩,sE,xX⟩:=rL.o wf vG;refine wpAnyH_ready (rs:=[2,7]) Ys Yu ?_
     refine AllReadyH.cons (o:=⟨some 70,.load 29 (.tmp 69),29,AN,#[AA 1],none⟩) rfl (fun K i=> ?_) (AllReadyH.cons (o:=⟨some 75,.buildSlice 29 1 #[(0,.tmp 74)],29,AN,#[AA 6],none⟩) rfl (fun K i=> ?_) AllReadyH.nil)
     .go_simp;refine i.out _ _ zY (fun yK=> ?_);clear i K;try simp only[Act.put,Bv]
      refine Cu 7 ⟨some 75,.buildSlice 29 1 #[(0,.tmp 74)],29,AN,#[AA 6],none⟩ (fun K i=> ?_);go_simp;refine i.out _ _ (yG.o _ _ yK (Zy)) (fun xL=> ?_);clear i K;try simp only[Act.put,Bv]
      refine Cu 8 ⟨some 76,.call ⟨.builtin .append,#[.tmp 70,.tmp 75],#[29,29]⟩,29,AN,#[AA 2,AA 7,⟨6,.chain⟩],none⟩ (fun K i=> ?_);refine Cc rfl _ _ _ _ rfl Yq Yq vA ?_;refine i.out _ _ sD (fun yL=> ?_);clear i K;try simp only[Act.put,Bv]
      refine BJ 9 ⟨some 77,.fieldAddr 80 (.tmp 7) 2,0,AN,#[Ak 0,Ak 1,Ak 2,Ak 3,Ak 4,Ak 5,Ak 6,Ak 7,Ak 8],none⟩ (Yx d.heap.size 2) (by exact yL) ?_;try simp only[Act.put,Bv]
      refine BJ 10 ⟨some 78,.fieldAddr 76 (.tmp 77) 1,0,AN,#[AA 9,Ak 0,Ak 1,Ak 2,Ak 3,Ak 4,Ak 5,Ak 6,Ak 7,Ak 8],none⟩ (Yx d.heap.size 3) (by exact yL) ?_;try simp only[Act.put,Bv]
      refine Cu 11 ⟨none,.store 29 (.tmp 78) (.tmp 76),0,AN,#[AA 10,AA 8,⟨8,.chain⟩,Ak 0,Ak 1,Ak 2,Ak 3,Ak 4,Ak 5,Ak 6,Ak 7,Ak 8],none⟩ (fun K i=> ?_);go_simp;refine i.out _ _ sE (fun qE=> ?_);clear i K;try simp only[Act.put]
      refine wpAnyH_done Ys ?_ _;go_wp2_with fail;go_meet;exact⟨A,B,xX⟩
     .go_simp;refine i.out _ _ (yG.o _ _ zY (Zy)) (fun yK=> ?_);clear i K;try simp only[Act.put,Bv]
      have pX:=(Aa.below yB.o (vG.trans ((Zy:Zz wf (wf.alloc (.cells #[.string et] 9))).mono vG.size)) 3 _ rfl).1;refine Cu 2 ⟨some 70,.load 29 (.tmp 69),29,AN,#[AA 1],none⟩ (fun K i=> ?_);go_simp;refine i.out _ _ yK (fun xL=> ?_);clear i K;try simp only[Act.put,Bv]
      refine Cu 8 ⟨some 76,.call ⟨.builtin .append,#[.tmp 70,.tmp 75],#[29,29]⟩,29,AN,#[AA 2,AA 7,⟨6,.chain⟩],none⟩ (fun K i=> ?_);refine Cc rfl _ _ _ _ rfl Yq Yq vA ?_;refine i.out _ _ sD (fun yL=> ?_);clear i K;try simp only[Act.put,Bv]
      refine BJ 9 ⟨some 77,.fieldAddr 80 (.tmp 7) 2,0,AN,#[Ak 0,Ak 1,Ak 2,Ak 3,Ak 4,Ak 5,Ak 6,Ak 7,Ak 8],none⟩ (Yx d.heap.size 2) (by exact yL) ?_;try simp only[Act.put,Bv]
      refine BJ 10 ⟨some 78,.fieldAddr 76 (.tmp 77) 1,0,AN,#[AA 9,Ak 0,Ak 1,Ak 2,Ak 3,Ak 4,Ak 5,Ak 6,Ak 7,Ak 8],none⟩ (Yx d.heap.size 3) (by exact yL) ?_;try simp only[Act.put,Bv]
      refine Cu 11 ⟨none,.store 29 (.tmp 78) (.tmp 76),0,AN,#[AA 10,AA 8,⟨8,.chain⟩,Ak 0,Ak 1,Ak 2,Ak 3,Ak 4,Ak 5,Ak 6,Ak 7,Ak 8],none⟩ (fun K i=> ?_);go_simp;refine i.out _ _ sE (fun qE=> ?_);clear i K;try simp only[Act.put]
      refine wpAnyH_done Ys ?_ _;go_wp2_with fail;go_meet;exact⟨A,B,xX⟩
   case rest=>
   revert wc;intro zP hcut;obtain⟨A,B,hcut⟩:=hcut;obtain⟨qT,tV,z20,tN,tO,tM,tL,tA⟩:=hcut.o;have tI:=Yw qT;have yV:=Yw (Za tN (Za tO (Za tM tL)))
   have xJ:Hid ((∀g,Al (Yz sb v.ss.length y)=some g->g≠d.heap.size)/\(∀g,Al (.slice A J B)=some g->g≠d.heap.size)/\(∀g,Al (Yz qb v.F.length n)=some g->g≠d.heap.size)/\(∀g,Al (Yz mb v.ms.length m)=some g->g≠d.heap.size)):=⟨fun g h=>by have:=zR.o.2 g (by unfold CK;rw[h];simp);omega,tA,fun g h=>by have:=zR.o.2 g (by unfold CK;rw[h];simp);omega,fun g h=>by have:=zR.o.2 g (by unfold CK;rw[h];simp);omega⟩
   replace yI:Hid (w.heap.size+3<=j.heap.size/\j.heap.size<F/\f.heap.size<=zP.heap.size/\F<f.heap.size/\f.heap.size<=d.heap.size/\d.heap.size<zP.heap.size):=by have:=yI.o;exact⟨Yv,Yv,Yv,Yv,Yv,Yv⟩
   have xP:=Yw (Aa.below vJ.o tV);have tK:Hid (Z r xa xc U I O Q zP):=yP.o _ _ _ _ _ _ _ _ vY.o _ tV;have vN:Hid (Zz j zP):=zA.o.trans (tV.mono zA.o.size);clear hcut qT tV z20 tN tO tM tL tA rQ HF zR yB zS zZ zA vJ vY yP
   as_aux_lemma=>
   go_wp2_with (refine wpList_load_mid rfl 27 _ rfl F 1 rfl (Yh v.wd r.D r.G r.C xa r.ks.length xc U r.ps.length I O r.ls.length Q) _ (Aa.fj [Ze] (Yh v.wd r.D r.G r.C xa r.ks.length xc U r.ps.length I O r.ls.length Q) [.string r.sm,Zg r.le,Zc,Zc] xP.o) underlying27 rfl Ys ?_);refine(yE.o r xa xc U I O Q zP Hy.o tK.o).mono ?_;rintro o sN ⟨T2,P2,L2,vH,rfl,yW,zF⟩
   obtain⟨za,zc,rfl⟩:=Ax yW.aj;obtain⟨ya,yc,rfl⟩:=Ax yW.pins;obtain⟨ka,kc,rfl⟩:=Ax yW.aq;have qV:=zF.size;have hz:=yI.o;obtain⟨zH,xT⟩:∃Y,Y=sN.setCells d.heap.size 4 (Yh v.wd r.D r.G r.C za r.ks.length zc ya r.ps.length yc ka r.ls.length kc):=⟨_,rfl⟩;have xD:Tn [d.heap.size] sN zH:=by rw[xT];exact AL _ _ _ _
   have rG:=Aa.below tI.o zF;have yC:Hid (Aa zH d.heap.size [Zg v.wd,Zg v.lim,Yz sb v.ss.length y,.slice A J B,Zg v.wd,Zg r.D,Zg r.G,Zg r.C,.slice za r.ks.length zc,.slice ya r.ps.length yc,.slice ka r.ls.length kc,Zg v.K,Yz qb v.F.length n,Yz mb v.ms.length m,Zg v.R,Zg v.S,Zg v.ro]):=by
    show Aa zH d.heap.size [Zg v.wd,Zg v.lim,Yz sb v.ss.length y,.slice A J B,Zg v.wd,Zg r.D,Zg r.G,Zg r.C,.slice za r.ks.length zc,.slice ya r.ps.length yc,.slice ka r.ls.length kc,Zg v.K,Yz qb v.F.length n,Yz mb v.ms.length m,Zg v.R,Zg v.S,Zg v.ro];rw[xT]
    exact Aa.dz (Yh v.wd r.D r.G r.C za r.ks.length zc ya r.ps.length yc ka r.ls.length kc) [Zg v.wd,Zg v.lim,Yz sb v.ss.length y,.slice A J B] [Zg v.O,Zg v.D,Zg v.G,Zg v.C,T,P,L] (Xv v.K (some ⟨qb,0,none⟩) v.F.length n (some ⟨mb,0,none⟩) v.ms.length m v.R v.S v.ro) sN rG rfl
   have vP:Hid (sN.there d.heap.size 4 7/\((Yj v.wd r.D r.G r.C za r.ks.length zc ya r.ps.length yc ka r.ls.length kc):Array Value).all (·.oneCell')=true):=⟨Aa.dp [Zg v.wd,Zg v.lim,Yz sb v.ss.length y,.slice A J B] [Zg v.O,Zg v.D,Zg v.G,Zg v.C,T,P,L] (Xv v.K (some ⟨qb,0,none⟩) v.F.length n (some ⟨mb,0,none⟩) v.ms.length m v.R v.S v.ro) rG,Ys⟩
   have xS:Hid (AY zH zP.heap.size (.slice za r.ks.length zc) (.slice ya r.ps.length yc) (.slice ka r.ls.length kc) vH r.ks r.ps r.ls):=yW.I xD Yt;have zK:Hid (Ao zH f.heap.size (Yz sb v.ss.length y) v.ss/\Ao zH f.heap.size (.slice A J B) yT/\Ao zH f.heap.size (Yz qb v.F.length n) v.F/\Ao zH f.heap.size (Yz mb v.ms.length m) v.ms):=by
    refine⟨(yV.o.1.below zF).I xD (fun g hg=> ?_),(yV.o.2.1.below zF).I xD (fun g hg=> ?_),(yV.o.2.2.1.below zF).I xD (fun g hg=> ?_),(yV.o.2.2.2.below zF).I xD (fun g hg=> ?_)⟩
    .have:=xJ.o.1 g hg;simp;omega
    .have:=xJ.o.2.1 g hg;simp;omega
    .have:=xJ.o.2.2.1 g hg;simp;omega
    .have:=xJ.o.2.2.2 g hg;simp;omega
   have sU:=vN.o.trans (zF.mono vN.o.size);have yU:Hid (Zz j zH):=sU.trans (xD.below sU.size Yt);have xQ:=Yw (Aa.same (Aa.below xP.o zF) (xD.block _ (Aa.below xP.o zF).lt Yt));have pE:Hid (zP.heap.size<=zH.heap.size):=Zm qV xD.size;have tH:=Yw xT;clear xT xD rG zF yW sU qV hz tI yV xP vN tK yE
   go_upto_region 22 with(refine wpList_store_mid rfl 27 _ _ rfl d.heap.size 4 (Yj v.wd r.D r.G r.C za r.ks.length zc ya r.ps.length yc ka r.ls.length kc) rfl rfl vP.o.1 Ys vP.o.2 ?_);rw[<-tH.o];clear tH vP
   as_aux_lemma=>
   obtain⟨e0,_⟩:=(E.o zH yU.o).2.1 0 _ rfl;obtain⟨e1,_⟩:=(E.o zH yU.o).2.1 1 _ rfl;obtain⟨u8,_⟩:=xQ.o 8 _ rfl;obtain⟨hl,qI⟩:∃t,t=e.held r:=⟨_,rfl⟩;have vK:Hid (hl=e.held r):=qI;clear qI
   go_upto_if 87 with fail
   go_cut [8,87] (fun th _ wx=>th=.string hl/\wx=zH)
   case first=>
    by_cases hk1:e.kd=1
    .have rD:(e.kd==1)=true:=by simp[hk1]
     have rA:Hid (r.sm=hl):=by show r.sm=hl;rw[vK.o];simp[Ed.held,hk1]
     clear hk1;go_wp2;go_meet;exact⟨by rw[rA.o],rfl⟩
    .have rD:(e.kd==1)=false:=by simpa using hk1
     have rA:Hid (e.s=hl):=by show e.s=hl;rw[vK.o];simp[Ed.held,hk1]
     clear hk1;go_wp2;go_meet;exact⟨by rw[rA.o],rfl⟩
   case rest=>
   obtain⟨rfl,qQ⟩:=hcut;rw[qQ];clear qQ wc e0 e1 u8;obtain⟨qq,tC⟩:∃t,t=shQ v.K r.ks v.F v.ms hl:=⟨_,rfl⟩;have rP:Hid (qq=shQ v.K r.ks v.F v.ms (e.held r)):=by show qq=_;rw[tC,vK.o]
   go_upto_if 91 with fail
   go_cut [91] (fun _ wx=>∃(qa:Zk) (qn qc:Nat) (ma:Zk) (mc:Nat),Hid (qn=qq.length/\Aa wx d.heap.size [Zg v.wd,Zg v.lim,Yz sb v.ss.length y,.slice A J B,Zg v.wd,Zg r.D,Zg r.G,Zg r.C,.slice za r.ks.length zc,.slice ya r.ps.length yc,.slice ka r.ls.length kc,Zg v.K,.slice qa qn qc,.slice ma v.ms.length mc,Zg v.R,Zg v.S,Zg v.ro]/\Tn [d.heap.size] zH wx/\Ao wx f.heap.size (.slice qa qn qc) qq/\Ao wx f.heap.size (.slice ma v.ms.length mc) v.ms))
   case first=>
    by_cases he:hl=⟨#[]⟩
    .have rO:Hid (qq=v.F):=by show qq=v.F;rw[rP.o];exact(yY.o r Hy.o).2 (by rw[<-vK.o,he])
     have pK:(!hl.toList.isEmpty)=false:=by rw[he];simp
     rw[pK];clear he tC;go_wp2;go_meet;exact⟨_,_,_,_,_,by rw[rO.o],yC.o,Tn.of (Below.refl _ _),by rw[rO.o];exact zK.o.2.2.1,zK.o.2.2.2⟩
    .have pN:=Tm he;have rK:(!hl.toList.isEmpty)=true:=by rw[pN];rfl
     rw[rK];replace zJ:=Yw (zJ.o r zH (.slice za r.ks.length zc) (.slice ya r.ps.length yc) (.slice ka r.ls.length kc) vH f.heap.size qb n mb m Hy.o (xS.o.mono yI.o.2.2.1) zK.o.2.2.1 zK.o.2.2.2);rw[<-vK.o,<-tC]at zJ;clear he tC;go_wp2_with (first
      |refine wpList_load_mid rfl 27 _ rfl d.heap.size 4 rfl (Yh v.wd r.D r.G r.C za r.ks.length zc ya r.ps.length yc ka r.ls.length kc) _ (Aa.fj [Zg v.wd,Zg v.lim,Yz sb v.ss.length y,.slice A J B] (Yh v.wd r.D r.G r.C za r.ks.length zc ya r.ps.length yc ka r.ls.length kc) (Xv v.K (some ⟨qb,0,none⟩) v.F.length n (some ⟨mb,0,none⟩) v.ms.length m v.R v.S v.ro) yC.o) underlying27 rfl Ys ?_
      |refine wpList_load_mid rfl 78 _ rfl d.heap.size 11 rfl (Xv v.K (some ⟨qb,0,none⟩) v.F.length n (some ⟨mb,0,none⟩) v.ms.length m v.R v.S v.ro) _ (Aa.fj [Zg v.wd,Zg v.lim,Yz sb v.ss.length y,.slice A J B,Zg v.wd,Zg r.D,Zg r.G,Zg r.C,.slice za r.ks.length zc,.slice ya r.ps.length yc,.slice ka r.ls.length kc] (Xv v.K (some ⟨qb,0,none⟩) v.F.length n (some ⟨mb,0,none⟩) v.ms.length m v.R v.S v.ro) [] yC.o) underlying78 rfl Ys ?_)
     refine Calls.mono zJ.o ?_;rintro o rE ⟨vS,Q3,M3,rfl,zX,zV⟩;obtain⟨qa,qc,rfl,_⟩:=zX.row;obtain⟨ma,mc,rfl,_⟩:=zV.row;have hz:=yI.o;have pP:=pE.o;have yM:=AL d.heap.size (Xv v.K qa qq.length qc ma v.ms.length mc v.R v.S v.ro) 11 rE;have rH:=Aa.below yC.o vS
     have tF:Hid (rE.there d.heap.size 11 6/\((Xy v.K qa qq.length qc ma v.ms.length mc v.R v.S v.ro):Array Value).all (·.oneCell')=true):=⟨Aa.dp [Zg v.wd,Zg v.lim,Yz sb v.ss.length y,.slice A J B,Zg v.wd,Zg r.D,Zg r.G,Zg r.C,.slice za r.ks.length zc,.slice ya r.ps.length yc,.slice ka r.ls.length kc] (Xv v.K (some ⟨qb,0,none⟩) v.F.length n (some ⟨mb,0,none⟩) v.ms.length m v.R v.S v.ro) [] rH,Ys⟩
     have qX:=Yw (Zn (Aa.dz (Xv v.K qa qq.length qc ma v.ms.length mc v.R v.S v.ro) [Zg v.wd,Zg v.lim,Yz sb v.ss.length y,.slice A J B,Zg v.wd,Zg r.D,Zg r.G,Zg r.C,.slice za r.ks.length zc,.slice ya r.ps.length yc,.slice ka r.ls.length kc] (Xv v.K (some ⟨qb,0,none⟩) v.F.length n (some ⟨mb,0,none⟩) v.ms.length m v.R v.S v.ro) [] rE rH rfl) (Zn (((Tn.of (V:=[]) vS).mono Yu).trans yM) (Zn ((zX.I yM (fun g hg=>by have:=(zX.W hg).1;simp;omega)).mono (base':=f.heap.size) Yv) ((zV.I yM (fun g hg=>by have:=(zV.W hg).1;simp;omega)).mono (base':=f.heap.size) Yv))))
     clear yM rH vS zX zV yC xS zK xJ zJ hz pP;go_wp2_with (refine wpList_store_mid rfl 78 _ _ rfl d.heap.size 11 (Xy v.K qa qq.length qc ma v.ms.length mc v.R v.S v.ro) rfl rfl tF.o.1 Ys tF.o.2 ?_);go_meet;exact⟨_,_,_,_,_,rfl,qX.o⟩
   case rest=>
   revert wc;intro xA hcut;obtain⟨qa,qn,qc,ma,mc,hcut⟩:=hcut;obtain⟨qL,xo,yM,zX,zV⟩:=hcut.o;have pD:=Yw xo
   have zG:Hid (AY xA f.heap.size (.slice za r.ks.length zc) (.slice ya r.ps.length yc) (.slice ka r.ls.length kc) vH r.ks r.ps r.ls/\Ao xA f.heap.size (Yz sb v.ss.length y) v.ss/\Ao xA f.heap.size (.slice A J B) yT/\Ao xA f.heap.size (.slice qa qn qc) qq/\Ao xA f.heap.size (.slice ma v.ms.length mc) v.ms):=⟨(xS.o.I yM (by have:=yI.o;simp;omega)).mono yI.o.2.2.1,zK.o.1.I yM (fun g hg=>by have:=xJ.o.1 g hg;simp;omega),zK.o.2.1.I yM (fun g hg=>by have:=xJ.o.2.1 g hg;simp;omega),zX,zV⟩
   have qZ:Hid (qn=qq.length):=qL;have zE:Below j.heap.size j xA:=yU.o.trans (yM.below yU.o.size (by have:=yI.o;simp;omega));have rM:=Yw (Aa.same xQ.o (yM.block _ xQ.o.lt (by have:=yI.o;simp;omega)));clear hcut qL xo yM zX zV tC yC xS xQ yU zK xJ zJ yY vK
   obtain⟨vs,yS⟩:∃t:Zj,t=[Zg v.wd,Zg v.lim,Yz sb v.ss.length y,.slice A J B,Zg v.wd,Zg r.D,Zg r.G,Zg r.C,.slice za r.ks.length zc,.slice ya r.ps.length yc,.slice ka r.ls.length kc,Zg v.K,.slice qa qn qc,.slice ma v.ms.length mc,Zg v.R,Zg v.S,Zg v.ro]:=⟨_,rfl⟩;have rV:Hid (Aa xA d.heap.size vs/\vs.length=17):=by rw[yS];exact⟨pD.o,rfl⟩
   have xO:vs.length=17/\∀u∈vs,u.oneCell'=true:=by rw[yS];exact⟨rfl,by simp[Value.oneCell']⟩
   obtain⟨D,hD⟩:∃t:Zj,t=dL (dyes v e r) vs:=⟨_,rfl⟩;have tQ:Hid (prog.built 139 [(1,.agg vs.toArray),(2,.string r.sm),(3,Zg r.le)]=some D.toArray):=by rw[hD];exact RM xO.1 _ _
   have G:Hid _:=Jy (E.o xA zE).2.2 (fun V k hV t0=>by
    have hz:=yI.o;have qK:∀b∈V,b<f.heap.size:=fun b hb=>by have:=hV b hb;omega
    have sL:∀g,f.heap.size<=g->g∉V:=fun g hg vL=>by have:=qK g vL;omega
    rw[yS];exact VL yZ.o.1 (zG.o.2.1.I t0 (fun g hg=>sL g (zG.o.2.1.W hg).1)) (zG.o.2.2.1.I t0 (fun g hg=>sL g (zG.o.2.2.1.W hg).1)) rR.o.1 rR.o.2 (zG.o.1.I t0 qK) (zG.o.2.2.2.1.I t0 (fun g hg=>sL g (zG.o.2.2.2.1.W hg).1)) rP.o qZ.o (zG.o.2.2.2.2.I t0 (fun g hg=>sL g (zG.o.2.2.2.2.W hg).1))) (.inr ⟨yA.o,.inr ⟨r,rJ.o,rfl⟩⟩) xO hD
   obtain⟨u8,_⟩:=rM.o 8 _ rfl;obtain⟨u9,_⟩:=rM.o 9 _ rfl;clear hD yS xO zE E;go_wp2_with (first
    |refine wpList_load_mid rfl 80 _ rfl d.heap.size 0 rfl vs _ rV.o.1.range underlying80 rfl (by rw[rV.o.2];kernel_rfl) ?_
    |refine FV rfl 139 _ rfl [(1,.agg vs.toArray),(2,.string r.sm),(3,Zg r.le)] Ys D.toArray tQ.o ?_
    |refine wpList_store_mid rfl 139 _ _ rfl (w.heap.size+2) 0 D.toArray rfl rfl G.o.2.1 (by rw[List.size_toArray,G.o.1.1];kernel_rfl) (all_oneCell_toArray G.o.1.2) ?_)
   exact bodyPost_ret (AW results112 _ _ (w.heap.size+2) D _ rfl (Aa.range G.o.2.2.1) underlying139 rfl (by rw[G.o.1.1];kernel_rfl)) rfl G.o.2.2.2
end Go.Proofs.YtmjlkgpekcnacaaGreat
