import Derived.Test.YtoglnpagihdhpaaGreatDoorX29
set_option maxRecDepth 100000
set_option maxHeartbeats 16000000
namespace Go.Proofs.YtoglnpagihdhpaaGreatDoor
open ChangeShapes WideShapes ChangeAt RowKit _root_.Go.Proofs.Tryz
theorem Aba(v:Vd)(e:Ed)(sa ta:Zk)(sc tc:Nat)(b0 b1 b2 b3 b4 b5 b6 c0 c1 c2 c3 c4 c5:Value)(ra:Zk)(rc:Nat)(K:Zj->List Nat->Zh->Prop)(Z:Rs->Zk->Nat->Zk->Nat->Zk->Nat->Zh->Prop)(w:Zh)(hlen:v.ss.length<=1048576/\v.D.length<=1048576)(qG:∀X,Zz w X->Calls prog 124 #[.agg #[Zg v.wd,Zg v.lim,.slice sa v.ss.length sc,.slice ta v.D.length tc,b0,b1,b2,b3,b4,b5,b6,c0,c1,c2,c3,c4,c5]] X fun o k=>Aq (Cy v) X k o)(qA:Cy v->∀X,Zz w X->Calls prog 125 #[.agg #[Zg v.wd,Zg v.lim,.slice sa v.ss.length sc,.slice ta v.D.length tc,b0,b1,b2,b3,b4,b5,b6,c0,c1,c2,c3,c4,c5]] X fun o k=>∃sb y ub zI T P L qb n mb m rs,o=.returned (.agg (Bm v (Yz sb v.ss.length y) (Yz ub v.D.length zI) T P L (Yz qb v.G.length n) (Yz mb v.ms.length m)).toArray)/\AD k X.heap.size (Yz sb v.ss.length y) (Yz ub v.D.length zI) T P L (Yz qb v.G.length n) (Yz mb v.ms.length m) rs v/\Zz X k)(qC:∀X,Zz w X->Calls prog 44 #[.agg (Xz e.kd e.s e.nm e.H e.tx ra e.rf.length rc),Zg v.wd] X fun o k=>o=.returned (.bool (e.ok v.wd))/\Zz X k)(rY:Cy v->∀X,Zz w X->Calls prog 23 #[.agg #[b0,b1,b2,b3,b4,b5,b6]] X fun o k=>∃cs V,o=.returned (.agg cs.toArray)/\Zz X k/\(∀b∈V,X.heap.size<=b/\b<k.heap.size)/\K cs V k)(i:∀cs V X k,K cs V X->Zz X k->K cs V k)(hA:Cy v->e.ok v.wd=true->∀cs V X,Zz w X->K cs V X->Calls prog 22 #[.agg cs.toArray,.agg (Xz e.kd e.s e.nm e.H e.tx ra e.rf.length rc)] X fun o k=>Tn V X k/\∃M,o=.returned (.agg M.toArray)/\Kf v e Z k M)(hZ:∀r U xc Q H N O X,Cy v->e.ok v.wd=true->e.yes v r->Z r U xc Q H N O X->∀F k,X.heap[F]?=some (.cells z12.toArray 32)->Tn [F] X k->Z r U xc Q H N O k)(qH:∀r U xc Q H N O X,Z r U xc Q H N O X->∀k,Zz X k->Z r U xc Q H N O k)(qD:Cy v->e.ok v.wd=true->e.kd=1->∀r U xc Q H N O X,e.yes v r->Z r U xc Q H N O X->Calls prog 145 #[.agg (Yg v.wd r.E r.F r.C U r.A.length xc Q r.ps.length H N r.ls.length O)] X fun o k=>o=.returned (Zg (DA v.wd r.A))/\Zz X k)(hF:e.ok v.wd=true->∀X,Zz w X->Calls prog 45 #[.agg (Xz e.kd e.s e.nm e.H e.tx ra e.rf.length rc),Zg v.wd] X fun o k=>o=.returned (.string (e.cg v.wd))/\Zz X k)(rZ:Cy v->e.ok v.wd=true->∀r U xc Q H N O X,e.yes v r->Z r U xc Q H N O X->Calls prog 23 #[.agg (Yg v.wd r.E r.F r.C U r.A.length xc Q r.ps.length H N r.ls.length O)] X fun o k=>∃T2 P2 L2 vG,o=.returned (.agg #[Zg v.wd,Zg r.E,Zg r.F,Zg r.C,T2,P2,L2])/\AY k X.heap.size T2 P2 L2 vG r.A r.ps r.ls/\Zz X k)(qF:Cy v->e.ok v.wd=true->∀r X T2 P2 L2 vG n2 qb n mb m,e.yes v r->AY X n2 T2 P2 L2 vG r.A r.ps r.ls->Aj X n2 (Yz qb v.G.length n) v.G->Aj X n2 (Yz mb v.ms.length m) v.ms->Calls prog 146 #[.agg #[Zg v.wd,Zg r.E,Zg r.F,Zg r.C,T2,P2,L2],.agg (Ye v.L (some ⟨qb,0,none⟩) v.G.length n (some ⟨mb,0,none⟩) v.ms.length m v.Q v.P v.ro),.string (e.held r)] X fun o k=>Zz X k/\∃Q3 M3,o=.returned (.agg #[Zg v.L,Q3,M3,Zg v.Q,Zg v.P,Zg v.ro])/\Aj k X.heap.size Q3 (shQ v.L r.A v.G v.ms (e.held r))/\Aj k X.heap.size M3 v.ms)(qB:Cy v->∀r,e.yes v r->(e.kd=1->r.y≠⟨#[]⟩)/\(e.held r=⟨#[]⟩->(shQ v.L r.A v.G v.ms (e.held r))=v.G))(qO:Cy v->v.wd=v.S/\v.ss.length+v.D.length<=4000):
 Calls prog 122 #[.agg #[Zg v.wd,Zg v.lim,.slice sa v.ss.length sc,.slice ta v.D.length tc,b0,b1,b2,b3,b4,b5,b6,c0,c1,c2,c3,c4,c5],.agg (Xz e.kd e.s e.nm e.H e.tx ra e.rf.length rc)] w (SDb v e w):=by
 obtain⟨W,hW⟩:=Af (((w.alloc (.cells #[Zg v.wd,Zg v.lim,.slice sa v.ss.length sc,.slice ta v.D.length tc,b0,b1,b2,b3,b4,b5,b6,c0,c1,c2,c3,c4,c5] 51)).alloc (.cells (Xz e.kd e.s e.nm e.H e.tx ra e.rf.length rc) 38)).alloc (.cells Xk 157));have bW:=(Bo hW).1;have zW:=(Bo hW).2.1;have xV:=(Bo hW).2.2.1;have xE:=(Bo hW).2.2.2.1;have xZ:Aa W (w.heap.size+2) EX:=(Bo hW).2.2.2.2
 have vC:Hid (∀X,Zz W X->Aa X w.heap.size [Zg v.wd,Zg v.lim,.slice sa v.ss.length sc,.slice ta v.D.length tc,b0,b1,b2,b3,b4,b5,b6,c0,c1,c2,c3,c4,c5]/\Aa X (w.heap.size+1) (Ya e.kd e.s e.nm e.H e.tx ra e.rf.length rc)/\Aa X (w.heap.size+2) EX/\Zz w X):=fun X hX=>⟨Aa.below xV hX,Aa.below xE hX,Aa.below (v:=Ze) xZ hX,bW.trans (hX.mono bW.size)⟩;have HL:=Yw hlen;have rT:=Yw qG;have yM:=Yw qA
 have sQ:=Yw qC;have vA:=Yw rY;have HK:=Yw i;have HA:=Yw hA;have HZ:=Yw hZ;have yN:=Yw qH;have yE:=Yw qD;have HF:=Yw hF;have yD:=Yw rZ;have zJ:=Yw qF;have yX:=Yw qB;have yY:=Yw qO;have HW:=Yw hW;clear hW xV xE xZ hlen qG qA qC rY i hA hZ qH qD hF rZ qF qB qO;go_enter func122,ntmps122;go_upto_region 1 with fail;rw[<-HW.o];clear HW
 go_wp2_with (refine wpList_load_mid rfl 51 _ rfl w.heap.size 0 rfl [Zg v.wd,Zg v.lim,.slice sa v.ss.length sc,.slice ta v.D.length tc,b0,b1,b2,b3,b4,b5,b6,c0,c1,c2,c3,c4,c5] _ (vC.o W Ae).1.range underlying51 rfl Yr ?_);refine Calls.mono (rT.o W bW) ?_;rintro o w1 ⟨b1,rfl,sM,sI⟩;clear rT;cases b1 with
 |false=>
  have vL:¬Cy v:=fun h=>by have:=sM.2 h;cases this
  obtain⟨_,_,xZ,b1⟩:=vC.o w1 sI;obtain⟨W9,sF⟩:=Af (w1.setCells (w.heap.size+2) 0 (Xj 1));have x9:Aa W9 (w.heap.size+2) (Xj 1):=by rw[sF];exact xZ.au _ rfl
  have qW:Hid (Zz w W9):=b1.trans (by rw[sF];exact(AI _ _ _ _).below b1.size Yu);have rN:=Yw (Zn (show((Xi 1):Array Value).all (·.oneCell')=true by simp[Value.oneCell']) xZ.there);have pB:=Yw x9;have qY:=Yw vL;have pA:=Yw sF;clear sF x9 vL xZ b1 vC yM sQ vA HK HA HZ yN yE HF yD zJ yX yY HL sI sM
  go_wp2_with (refine wpList_store_mid rfl 157 _ _ rfl (w.heap.size+2) 0 (Xi 1) rfl rfl rN.o.2 Yr rN.o.1 ?_);rw[<-pA.o];refine bodyPost_ret (AU results122 _ _ (w.heap.size+2) (Xj 1) _ rfl (Aa.range pB.o) underlying157 rfl Yr) rfl ?_;exact⟨Fi 1 v0 ⟨#[]⟩ ⟨#[]⟩,Xq,.inl ⟨qY.o,rfl⟩,rfl,fun V k _ _=>(AD.nil k 0).ja,qW.o⟩
 |true=>
  have yP:=sM.1 rfl;have zZ:Hid (Cy v):=yP;replace yM:=Yw (yM.o yP);replace vA:=Yw (vA.o yP);replace HA:=Yw (HA.o yP);replace yE:=Yw (yE.o yP);replace yD:=Yw (yD.o yP);replace zJ:=Yw (zJ.o yP);replace yX:=Yw (yX.o yP);replace yY:=Yw (yY.o yP);have vT:Hid (Zz W w1):=sI;clear sM yP sI
  go_wp2_with (refine wpList_load_mid rfl 51 _ rfl w.heap.size 0 rfl [Zg v.wd,Zg v.lim,.slice sa v.ss.length sc,.slice ta v.D.length tc,b0,b1,b2,b3,b4,b5,b6,c0,c1,c2,c3,c4,c5] _ (vC.o w1 vT.o).1.range underlying51 rfl Yr ?_);refine(yM.o w1 (vC.o w1 vT.o).2.2.2).mono ?_;rintro o j ⟨sb,y,ub,zI,T,P,L,qb,n,mb,m,rs,rfl,sH,sZ⟩
  obtain⟨vs,yR⟩:=Af (Bm v (Yz sb v.ss.length y) (Yz ub v.D.length zI) T P L (Yz qb v.G.length n) (Yz mb v.ms.length m));have xN:vs.length=17/\∀u∈vs,u.oneCell'=true:=by obtain⟨a,h,_⟩:=sH.ja;rw[yR];exact⟨rfl,by rw[h];simp[Bm,Value.oneCell']⟩
  rw[<-yR];have z1:=vT.o.size;have z2:=sZ.size;have vU:=Yw (Za yR sH);have zN:Hid (vs.length=17/\∀u∈vs,u.oneCell'=true):=xN;have vV:Hid (w.heap.size+3<=w1.heap.size/\w1.heap.size<=j.heap.size):=⟨Yv,z2⟩;have sS:=vT.o.trans (sZ.mono z1);have yW:Hid (∀X,Zz j X->∀V k,(∀b∈V,b<w.heap.size+3)->Tn V X k->Mt v k.heap.size k vs):=fun X hX=>by rw[yR];exact sH.jb vV.o.1 hX
  have E:Hid (∀X,Zz j X->Aa X w.heap.size [Zg v.wd,Zg v.lim,.slice sa v.ss.length sc,.slice ta v.D.length tc,b0,b1,b2,b3,b4,b5,b6,c0,c1,c2,c3,c4,c5]/\Aa X (w.heap.size+1) (Ya e.kd e.s e.nm e.H e.tx ra e.rf.length rc)/\Aa X (w.heap.size+2) EX/\Zz w X):=fun X hX=>vC.o X (sS.trans (hX.mono sS.size));obtain⟨D0,sA⟩:=Af (dL (Fi 0 v ⟨#[]⟩ ⟨#[]⟩) vs)
  have sB:D0.length=22/\∀u∈D0,u.oneCell'=true:=by rw[sA];exact Ke xN
  have tQ:Hid (prog.built 157 [(1,.agg vs.toArray)]=some D0.toArray):=by show _=some D0.toArray;rw[sA];exact Ru xN.1
  obtain⟨W3,sX⟩:=Af ((j.alloc (.cells Xk 157)).setCells j.heap.size 0 D0.toArray.toList);have hb:=boxed (X:=j) (cs:=D0) (z:=EX) (T:=157) (by rw[sB.1];rfl);have e3:W3=(j.alloc (.cells EX.toArray 157)).setCells j.heap.size 0 D0:=sX;rw[<-e3]at hb;obtain⟨x3,b3,z3⟩:=hb
  have tR:Hid ((j.alloc (.cells Xk 157)).there j.heap.size 0 D0.toArray.size/\D0.length=22/\∀x∈D0,x.oneCell'=true):=⟨by rw[show D0.toArray.size=22 from by rw[List.size_toArray];exact sB.1];exact(Aa.new j EX 157).there,sB⟩;have tJ:Hid (Aa W3 j.heap.size (dL (Fi 0 v ⟨#[]⟩ ⟨#[]⟩) vs)):=by show Aa W3 j.heap.size _;rw[<-sA];exact x3
  have vH:Hid (Zz j W3):=b3;have rU:=Yw sX;have pO:W3.heap.size=j.heap.size+1:=z3;clear sX e3 x3 b3 z3 sA sB sH sZ yR xN sS vC vT z1 z2;go_upto_region 4 with(first
   |refine Gy rfl 157 _ rfl [(1,.agg vs.toArray)] Yr D0.toArray tQ.o ?_
   |refine wpList_store_mid rfl 157 _ _ rfl j.heap.size 0 D0.toArray rfl rfl tR.o.1 (by rw[List.size_toArray,tR.o.2.1];kernel_rfl) (all_oneCell_toArray tR.o.2.2) ?_)
  rw[<-rU.o];clear rU tQ tR
  as_aux_lemma=>
  obtain⟨pU,_⟩:=(E.o W3 vH.o).1 0 _ rfl;go_wp2_with (refine wpList_load_mid rfl 38 _ rfl (w.heap.size+1) 0 rfl (Ya e.kd e.s e.nm e.H e.tx ra e.rf.length rc) _ (E.o W3 vH.o).2.1.range underlying38 rfl Yr ?_);refine(sQ.o W3 (E.o W3 vH.o).2.2.2).mono ?_;rintro o s ⟨rfl,sJ⟩;have z4:=sJ.size;have xF:Hid (Zz j s):=vH.o.trans (sJ.mono vH.o.size)
  have zO:=Yw (Aa.same tJ.o (sJ.block _ Yv));have tU:Hid (j.heap.size<s.heap.size):=by show j.heap.size<s.heap.size;omega
  clear pU sQ tJ vH sJ z4 pO;cases hoe:e.ok v.wd with
  |false=>
   have zT:Hid (Gt v e (Fi 1 v ⟨#[]⟩ ⟨#[]⟩)):=.inr ⟨zZ.o,.inl ⟨1,⟨#[]⟩,⟨#[]⟩,.inl ⟨hoe,rfl,rfl,rfl⟩,rfl⟩⟩;have zM:=xF.o;clear hoe yM vA HK HA HZ yN yE HF yD zJ yX yY HL;obtain⟨⟨k0,g0⟩,_⟩:=On zO.o zN.o.1;obtain⟨Y9,zC⟩:=Af (s.setCell (Zd (j.heap.size) 0) (Zg 1));have yL:Aa Y9 j.heap.size (dL (Fi 1 v ⟨#[]⟩ ⟨#[]⟩) vs):=by rw[zC];exact MQ zO.o 1
   have zE:Below j.heap.size j Y9:=by rw[zC];exact zM.setCell (Zx) _
   have yG:=Yw zC;have zU:=Yw yL;clear zC yL zM;go_upto_region 6 with fail;rw[<-yG.o];clear yG k0 g0;obtain⟨D,hD⟩:∃t:Zj,t=dL (Fi 1 v ⟨#[]⟩ ⟨#[]⟩) vs:=⟨_,rfl⟩;have vD:Hid (Aa Y9 j.heap.size D):=by rw[hD];exact zU.o
   have G:=Yw (Ki (E.o Y9 zE).2.2 (yW.o Y9 zE) zT.o zN.o hD);clear hD zE vU yW E zN;go_wp2_with (first
    |refine wpList_load_mid rfl 157 _ rfl j.heap.size 0 rfl D _ vD.o.range underlying157 rfl (by rw[G.o.1.1];kernel_rfl) ?_
    |refine wpList_store_mid rfl 157 _ _ rfl (w.heap.size+2) 0 D.toArray rfl rfl G.o.2.1 (by rw[List.size_toArray,G.o.1.1];kernel_rfl) (all_oneCell_toArray G.o.1.2) ?_)
   exact bodyPost_ret (AU results122 _ _ (w.heap.size+2) D _ rfl (Aa.range G.o.2.2.1) underlying157 rfl (by rw[G.o.1.1];kernel_rfl)) rfl G.o.2.2.2
  |true=>
   have tS:Hid (e.ok v.wd=true):=hoe;replace HA:=Yw (HA.o hoe);replace yE:=Yw (yE.o hoe);replace HF:=Yw (HF.o hoe);replace yD:=Yw (yD.o hoe);replace zJ:=Yw (zJ.o hoe);have rW:Hid _:=fun r U xc Q H N O X=>HZ.o r U xc Q H N O X zZ.o hoe;clear hoe HZ
   as_aux_lemma=>
   go_upto_region 7 with fail;go_cut [6] (fun H wx=>∃(F:Nat) (M:Zj),H=Yy F/\Hid (Aa wx F M/\s.heap.size<=F/\Zz s wx/\Kf v e Z wx M))
   case first=>
    have yF:Hid (∀X k,(Aa X w.heap.size [Zg v.wd,Zg v.lim,.slice sa v.ss.length sc,.slice ta v.D.length tc,b0,b1,b2,b3,b4,b5,b6,c0,c1,c2,c3,c4,c5]/\Aa X (w.heap.size+1) (Ya e.kd e.s e.nm e.H e.tx ra e.rf.length rc))->Zz X k->Aa k w.heap.size [Zg v.wd,Zg v.lim,.slice sa v.ss.length sc,.slice ta v.D.length tc,b0,b1,b2,b3,b4,b5,b6,c0,c1,c2,c3,c4,c5]/\Aa k (w.heap.size+1) (Ya e.kd e.s e.nm e.H e.tx ra e.rf.length rc)):=fun X k h1 h2=>⟨Aa.below h1.1 h2,Aa.below h1.2 h2⟩
    have tT:Hid (∀X k (V:List Nat),(Aa X w.heap.size [Zg v.wd,Zg v.lim,.slice sa v.ss.length sc,.slice ta v.D.length tc,b0,b1,b2,b3,b4,b5,b6,c0,c1,c2,c3,c4,c5]/\Aa X (w.heap.size+1) (Ya e.kd e.s e.nm e.H e.tx ra e.rf.length rc))->(∀b∈V,s.heap.size<=b)->Tn V X k->Aa k w.heap.size [Zg v.wd,Zg v.lim,.slice sa v.ss.length sc,.slice ta v.D.length tc,b0,b1,b2,b3,b4,b5,b6,c0,c1,c2,c3,c4,c5]/\Aa k (w.heap.size+1) (Ya e.kd e.s e.nm e.H e.tx ra e.rf.length rc)):=fun X k V h1 h2 h3=>⟨Aa.same h1.1 (h3.block _ h1.1.lt (fun h=>by have:=h2 _ h;have:=tU.o;have:=vV.o;omega)),Aa.same h1.2 (h3.block _ h1.2.lt (fun h=>by have:=h2 _ h;have:=tU.o;have:=vV.o;omega))⟩
    have sR:Hid (∀X k F,(Aa X w.heap.size [Zg v.wd,Zg v.lim,.slice sa v.ss.length sc,.slice ta v.D.length tc,b0,b1,b2,b3,b4,b5,b6,c0,c1,c2,c3,c4,c5]/\Aa X (w.heap.size+1) (Ya e.kd e.s e.nm e.H e.tx ra e.rf.length rc))->s.heap.size<=F->Tn [F] X k->Aa k w.heap.size [Zg v.wd,Zg v.lim,.slice sa v.ss.length sc,.slice ta v.D.length tc,b0,b1,b2,b3,b4,b5,b6,c0,c1,c2,c3,c4,c5]/\Aa k (w.heap.size+1) (Ya e.kd e.s e.nm e.H e.tx ra e.rf.length rc)):=fun X k F h1 h2 h3=>tT.o X k [F] h1 (by simp;exact h2) h3
    have xH:Hid (∀X,Zz s X->Zz w X):=fun X hX=>(E.o X (xF.o.trans (hX.mono xF.o.size))).2.2.2;have rI:Hid (∀X k M,Kf v e Z X M->Zz X k->Kf v e Z k M):=fun X k M h1 h2=>by
     rcases h1 with h|⟨r,U,xc,Q,H,N,O,h3,h4,h5⟩
     .exact .inl h
     .exact .inr ⟨r,U,xc,Q,H,N,O,h3,h4,yN.o _ _ _ _ _ _ _ _ h5 _ h2⟩
    have vN:Hid (∀X F M,s.heap.size<=F->Zz s X->X.heap[F]?=some (.cells z12.toArray 32 (0,0))->Kf v e Z X M->Hid (Aa (X.setCells F 0 M.toArray.toList) F M/\s.heap.size<=F/\Zz s (X.setCells F 0 M.toArray.toList)/\Kf v e Z (X.setCells F 0 M.toArray.toList) M)):=fun X F M h1 h2 h3 h4=>by
     have t:=AI F M 0 X;refine⟨(Aa.ji (l:=z12) h3).au M (by rw[h4.small.1];rfl),h1,h2.trans (t.below h2.size (by simp;exact h1)),?_⟩;rcases h4 with h|⟨r,U,xc,Q,H,N,O,h5,h6,h7⟩
     .exact .inl h
     .exact .inr ⟨r,U,xc,Q,H,N,O,h5,h6,rW.o _ _ _ _ _ _ _ _ h5 h7 F _ h3 t⟩
    refine wp_region_held_drew (S:=fun X=>Aa X w.heap.size [Zg v.wd,Zg v.lim,.slice sa v.ss.length sc,.slice ta v.D.length tc,b0,b1,b2,b3,b4,b5,b6,c0,c1,c2,c3,c4,c5]/\Aa X (w.heap.size+1) (Ya e.kd e.s e.nm e.H e.tx ra e.rf.length rc)) Yr (show _/\_ from⟨(E.o s xF.o).1,(E.o s xF.o).2.1⟩) (fun hS=> ?_);refine BR 0 (Yx w.heap.size 4) ?_;try simp only[Act.put,BE]
    refine Fu 1 (.agg #[b0,b1,b2,b3,b4,b5,b6]) rfl (by exact yieldsIf_load_mid Yp 30 _ rfl (w.heap.size) 4 rfl [b0,b1,b2,b3,b4,b5,b6] _ (fun X h=>Aa.fs [Zg v.wd,Zg v.lim,.slice sa v.ss.length sc,.slice ta v.D.length tc] [b0,b1,b2,b3,b4,b5,b6] [c0,c1,c2,c3,c4,c5] h.1) underlying30 rfl Yr) ?_;try simp only[Act.put,BE]
    refine Fu 3 (.agg (Xz e.kd e.s e.nm e.H e.tx ra e.rf.length rc)) rfl (by exact yieldsIf_load_mid Yp 38 _ rfl (w.heap.size+1) 0 rfl (Ya e.kd e.s e.nm e.H e.tx ra e.rf.length rc) _ (fun X h=>h.2.range) underlying38 rfl Yr) ?_;try simp only[Act.put,BE]
    refine wpAnyH_ready (rs:=[2,5]) Yr Yu ?_;refine AllReadyH.cons (o:=⟨some 25,.call ⟨.value (.func 23),#[.tmp 24],#[30]⟩,30,Gh,#[DF 1],none⟩) rfl (fun K i=> ?_) (AllReadyH.cons (o:=⟨some 6,.alloc 32,0,Gh,#[],none⟩) rfl (fun K i=> ?_) AllReadyH.nil)
    .go_simp;refine(vA.o s.drew (xH.o _ Ae.drew)).mono ?_;rintro o w5 ⟨cs,V,rfl,vE,sW,sC⟩;try go_simp
     refine i.out _ _ (yF.o _ _ hS vE) (fun yO=> ?_);clear i K;try simp only[Act.put,BE]
     have yI:Below s.heap.size s w5:=(Below.refl s.heap.size s).drew.trans vE;have xA:∀b∈V,s.heap.size<=b/\b<w5.heap.size:=sW;refine wpAnyH_ready (rs:=[4,5]) Yr Yu ?_
     refine AllReadyH.cons (o:=⟨some 27,.call ⟨.value (.func 22),#[.tmp 25,.tmp 26],#[30,38]⟩,32,Gh,#[DF 2,DF 3,⟨2,.chain⟩],none⟩) rfl (fun K i=> ?_) (AllReadyH.cons (o:=⟨some 6,.alloc 32,0,Gh,#[],none⟩) rfl (fun K i=> ?_) AllReadyH.nil)
     .go_simp;refine(HA.o cs V w5 (xH.o _ yI) sC).mono ?_;rintro o w6 ⟨yQ,M,rfl,zB⟩;have xM:=zB.small.1;have tB:=zB.small.2;try go_simp
      refine i.out _ _ (tT.o _ _ V yO (fun b hb=>(xA b hb).1) yQ) (fun yJ=> ?_);clear i K;try simp only[Act.put,BE]
      have xJ:Below s.heap.size s w6:=yI.trans (yQ.below yI.size (fun b hb=>(xA b hb).1));refine CG 5 (fun K i=> ?_);go_simp;refine i.out _ _ (yF.o _ _ yJ (Zy)) (fun xK=> ?_);clear i K;try simp only[Act.put,BE]
      have nB:(w6.alloc (.cells z12.toArray 32)).heap[w6.heap.size]?=some (.cells z12.toArray 32 (0,0)):=heap_alloc_new _ _;have bB:Below w6.heap.size w6 (w6.alloc (.cells z12.toArray 32)):=(Zy);refine CG 6 (fun K i=> ?_);rw[if_pos Yp]
      refine wp_store_mid 32 _ _ rfl w6.heap.size 0 M.toArray rfl rfl (by rw[show M.toArray.size=12 from by rw[List.size_toArray];exact xM];exact(Aa.ji (l:=z12) nB).there) (by rw[List.size_toArray,xM];kernel_rfl) (all_oneCell_toArray tB) ?_;refine i.out _ _ (sR.o _ _ _ xK xJ.size (AI _ _ _ _)) (fun vY=> ?_);clear i K;try simp only[Act.put]
      refine wpAnyH_done Yr ?_ _;go_wp2_with fail;go_meet;exact⟨w6.heap.size,M,rfl,vN.o _ w6.heap.size M xJ.size (xJ.trans (bB.mono xJ.size)) nB (rI.o _ _ _ zB bB)⟩
     .go_simp;refine i.out _ _ (yF.o _ _ yO (Zy)) (fun yJ=> ?_);clear i K;try simp only[Act.put,BE]
      have bB:Below w5.heap.size w5 (w5.alloc (.cells z12.toArray 32)):=(Zy);have sV:=yI.trans (bB.mono yI.size);refine CG 4 (fun K i=> ?_);go_simp;refine(HA.o cs V _ (xH.o _ sV) (HK.o _ _ _ _ sC bB)).mono ?_;rintro o w6 ⟨yQ,M,rfl,zB⟩;have xM:=zB.small.1;have tB:=zB.small.2;try go_simp
      refine i.out _ _ (tT.o _ _ V yJ (fun b hb=>(xA b hb).1) yQ) (fun xK=> ?_);clear i K;try simp only[Act.put,BE]
      have xJ:Below s.heap.size s w6:=sV.trans (yQ.below sV.size (fun b hb=>(xA b hb).1));have nB:w6.heap[w5.heap.size]?=some (.cells z12.toArray 32 (0,0)):=(yQ.block w5.heap.size Yu (fun h=>by have:=(xA _ h).2;omega)).trans (show(w5.alloc (.cells z12.toArray 32)).heap[w5.heap.size]?=_ from heap_alloc_new _ _);refine CG 6 (fun K i=> ?_);rw[if_pos Yp]
      refine wp_store_mid 32 _ _ rfl w5.heap.size 0 M.toArray rfl rfl (by rw[show M.toArray.size=12 from by rw[List.size_toArray];exact xM];exact(Aa.ji (l:=z12) nB).there) (by rw[List.size_toArray,xM];kernel_rfl) (all_oneCell_toArray tB) ?_;refine i.out _ _ (sR.o _ _ _ xK yI.size (AI _ _ _ _)) (fun vY=> ?_);clear i K;try simp only[Act.put]
      refine wpAnyH_done Yr ?_ _;go_wp2_with fail;go_meet;exact⟨w5.heap.size,M,rfl,vN.o w6 w5.heap.size M yI.size xJ nB zB⟩
    .go_simp;refine i.out _ _ (yF.o _ _ hS (Zy)) (fun yO=> ?_);clear i K;try simp only[Act.put,BE]
     have bB:Below s.heap.size s (s.alloc (.cells z12.toArray 32)).drew:=(Zy).drew;refine CG 2 (fun K i=> ?_);go_simp;refine(vA.o _ (xH.o _ bB)).mono ?_;rintro o w5 ⟨cs,V,rfl,vE,sW,sC⟩;try go_simp
     refine i.out _ _ (yF.o _ _ yO vE) (fun yJ=> ?_);clear i K;try simp only[Act.put,BE]
     have yI:Below s.heap.size s w5:=bB.trans (vE.mono bB.size);have xA:∀b∈V,s.heap.size<b/\b<w5.heap.size:=fun b hb=>by have:=sW b hb;simp at this;omega
     refine CG 4 (fun K i=> ?_);go_simp;refine(HA.o cs V w5 (xH.o _ yI) sC).mono ?_;rintro o w6 ⟨yQ,M,rfl,zB⟩;have xM:=zB.small.1;have tB:=zB.small.2;try go_simp
     refine i.out _ _ (tT.o _ _ V yJ (fun b hb=>by have:=xA b hb;omega) yQ) (fun xK=> ?_);clear i K;try simp only[Act.put,BE]
     have xJ:Below s.heap.size s w6:=yI.trans (yQ.below yI.size (fun b hb=>by have:=xA b hb;omega));have nB:w6.heap[s.heap.size]?=some (.cells z12.toArray 32 (0,0)):=(yQ.block s.heap.size (by have:=vE.size;simp at this;omega) (fun h=>by have:=(xA _ h).1;omega)).trans ((vE.block s.heap.size Yu).trans (show(s.alloc (.cells z12.toArray 32)).heap[s.heap.size]?=_ from heap_alloc_new _ _))
     refine CG 6 (fun K i=> ?_);rw[if_pos Yp];refine wp_store_mid 32 _ _ rfl s.heap.size 0 M.toArray rfl rfl (by rw[show M.toArray.size=12 from by rw[List.size_toArray];exact xM];exact(Aa.ji (l:=z12) nB).there) (by rw[List.size_toArray,xM];kernel_rfl) (all_oneCell_toArray tB) ?_;refine i.out _ _ (sR.o _ _ _ xK (Zx) (AI _ _ _ _)) (fun vY=> ?_);clear i K;try simp only[Act.put]
     refine wpAnyH_done Yr ?_ _;go_wp2_with fail;go_meet;exact⟨s.heap.size,M,rfl,vN.o w6 s.heap.size M (Zx) xJ nB zB⟩
   case rest=>
   revert wc;intro w7 hcut;obtain⟨F,M,rfl,hcut⟩:=hcut;obtain⟨xC,pJ,tW,qN⟩:=hcut.o;have z7:=tW.size;have xG:Hid (Zz j w7):=xF.o.trans (tW.mono xF.o.size);replace zO:=Yw (Aa.same zO.o (tW.block _ tU.o));have vW:Hid (j.heap.size<F/\F<w7.heap.size):=⟨by have:=tU.o;omega,xC.jn qN.small.1⟩;clear hcut tW HA vA HK rW xF z7 pJ;rcases qN with⟨c,p,q,vL,rfl⟩|⟨r,U,xc,Q,H,N,O,hy,rfl,hz⟩
   .have pI:(c==0)=false:=by have:=Fh.code vL;simp;omega
    have zT:Hid (Gt v e (Fi c v p q)):=.inr ⟨zZ.o,.inl ⟨c,p,q,.inr ⟨tS.o,.inl vL⟩,rfl⟩⟩;obtain⟨u0,_⟩:=xC 0 _ rfl;obtain⟨pS,_⟩:=xC 10 _ rfl;obtain⟨pT,_⟩:=xC 11 _ rfl;obtain⟨⟨k0,g0⟩,⟨pQ,pF⟩,pR,pG⟩:=On zO.o zN.o.1;obtain⟨Y9,zC⟩:=Af (((w7.setCell (Zd (j.heap.size) 0) (Zg c)).setCell (Zd (j.heap.size) 20) (.string p)).setCell (Zd (j.heap.size) 21) (.string q))
    have yL:Aa Y9 j.heap.size (dL (Fi c v p q) vs):=by rw[zC];exact YE zO.o zN.o.1 c p q
    have zE:Below j.heap.size j Y9:=by rw[zC];exact((xG.o.setCell (Zx) _).setCell (Zx) _).setCell (Zx) _
    have pM:F≠j.heap.size:=by have:=vW.o;omega
    have yG:=Yw zC;have zU:=Yw yL;clear zC yL xC vL yM yN yE HF yD zJ yX yY HL;go_upto_region 12 with fail;rw[<-yG.o];clear yG k0 g0 pQ pF pR pG u0 pS pT pI pM;obtain⟨D,hD⟩:∃t:Zj,t=dL (Fi c v p q) vs:=⟨_,rfl⟩;have vD:Hid (Aa Y9 j.heap.size D):=by rw[hD];exact zU.o
    have G:=Yw (Ki (E.o Y9 zE).2.2 (yW.o Y9 zE) zT.o zN.o hD);clear hD zE vU yW E zN;go_wp2_with (first
     |refine wpList_load_mid rfl 157 _ rfl j.heap.size 0 rfl D _ vD.o.range underlying157 rfl (by rw[G.o.1.1];kernel_rfl) ?_
     |refine wpList_store_mid rfl 157 _ _ rfl (w.heap.size+2) 0 D.toArray rfl rfl G.o.2.1 (by rw[List.size_toArray,G.o.1.1];kernel_rfl) (all_oneCell_toArray G.o.1.2) ?_)
    exact bodyPost_ret (AU results122 _ _ (w.heap.size+2) D _ rfl (Aa.range G.o.2.2.1) underlying157 rfl (by rw[G.o.1.1];kernel_rfl)) rfl G.o.2.2.2
   have vI:=Yw xC;have Hy:Hid (e.yes v r):=hy;have vX:Hid (Z r U xc Q H N O w7):=hz;obtain⟨u0,_⟩:=xC 0 _ rfl;clear xC hy hz
   as_aux_lemma=>
   go_upto_region 13 with fail;clear u0;go_cut [51] (fun bg wx=>bg=.bool (e.ff v r)/\Hid (Zz w7 wx))
   case first=>
    by_cases hk1:e.kd=1
    .have rD:(e.kd==1)=true:=by simp[hk1]
     have sO:Hid (e.ff v r=decide (v.lim<DA v.wd r.A)):=by show e.ff v r=_;simp[Ed.ff,hk1]
     replace yE:=Yw (yE.o hk1 r U xc Q H N O w7.drew Hy.o (yN.o _ _ _ _ _ _ _ _ vX.o _ Ae.drew));clear hk1
     refine wp_region_held_drew (S:=fun X=>Aa X (w.heap.size+1) (Ya e.kd e.s e.nm e.H e.tx ra e.rf.length rc)/\Aa X w.heap.size [Zg v.wd,Zg v.lim,.slice sa v.ss.length sc,.slice ta v.D.length tc,b0,b1,b2,b3,b4,b5,b6,c0,c1,c2,c3,c4,c5]/\Aa X F [Ze,Zg v.wd,Zg r.E,Zg r.F,Zg r.C,.slice U r.A.length xc,.slice Q r.ps.length H,.slice N r.ls.length O,.string r.y,Zg r.le,Zc,Zc]) Yr (show _/\_/\_ from⟨(E.o w7 xG.o).2.1,(E.o w7 xG.o).1,vI.o⟩) (fun hS=> ?_)
     refine BR 0 (Yy (w.heap.size+1)) ?_;try simp only[Act.put,BE]
     refine Fu 1 (Zg e.kd) rfl (by exact Or.inl ⟨Yp,fun X hX=>by have h1:=(hX.1 0 _ rfl).1;go_simp⟩) ?_;try simp only[Act.put,BE]
     refine BR 2 (.bool true) ?_;try simp only[Act.put,BE]
     refine BR 3 (.bool true) ?_;try simp only[Act.put,BE]
     refine BR 4 (Yx F 1) ?_;try simp only[Act.put,BE]
     refine Fu 5 (.agg (Yg v.wd r.E r.F r.C U r.A.length xc Q r.ps.length H N r.ls.length O)) rfl (by exact yieldsIf_load_mid Yp 30 _ rfl (F) 1 rfl (Yh v.wd r.E r.F r.C U r.A.length xc Q r.ps.length H N r.ls.length O) _ (fun X h=>Aa.fs [Ze] (Yh v.wd r.E r.F r.C U r.A.length xc Q r.ps.length H N r.ls.length O) [.string r.y,Zg r.le,Zc,Zc] h.2.2) underlying30 rfl Yr) ?_
     try simp only[Act.put,BE]
     refine BR 7 (Yx w.heap.size 1) ?_;try simp only[Act.put,BE]
     refine Fu 8 (Zg v.lim) rfl (by exact Or.inl ⟨Yp,fun X hX=>by have h1:=(hX.2.1 1 _ rfl).1;go_simp⟩) ?_;try simp only[Act.put,BE]
     refine CG 6 (fun K i=> ?_);rw[if_pos Yp];go_simp;refine yE.Ah ?_;rintro o w8 ⟨rfl,sK⟩;have pH:Below w7.heap.size w7 w8:=(Below.refl w7.heap.size w7).drew.trans sK;try go_simp
     refine i.out _ _ ⟨Aa.below hS.1 sK,Aa.below hS.2.1 sK,Aa.below hS.2.2 sK⟩ (fun yO=> ?_);clear i K;try simp only[Act.put,BE]
     refine BR 9 (.bool (decide (v.lim<DA v.wd r.A))) ?_;try simp only[Act.put,BE]
     refine BR 10 (.bool (decide (v.lim<DA v.wd r.A))) ?_;try simp only[Act.put,BE]
     refine wpAnyH_done Yr ?_ _;go_wp2_with fail;go_meet;exact⟨by rw[sO.o],pH⟩
    .have rD:(e.kd==1)=false:=by simpa using hk1
     have sO:Hid (e.ff v r=false):=by show e.ff v r=_;simp[Ed.ff,hk1]
     clear hk1
     refine wp_region_held_drew (S:=fun X=>Aa X (w.heap.size+1) (Ya e.kd e.s e.nm e.H e.tx ra e.rf.length rc)/\Aa X w.heap.size [Zg v.wd,Zg v.lim,.slice sa v.ss.length sc,.slice ta v.D.length tc,b0,b1,b2,b3,b4,b5,b6,c0,c1,c2,c3,c4,c5]/\Aa X F [Ze,Zg v.wd,Zg r.E,Zg r.F,Zg r.C,.slice U r.A.length xc,.slice Q r.ps.length H,.slice N r.ls.length O,.string r.y,Zg r.le,Zc,Zc]) Yr (show _/\_/\_ from⟨(E.o w7 xG.o).2.1,(E.o w7 xG.o).1,vI.o⟩) (fun hS=> ?_)
     refine BR 0 (Yy (w.heap.size+1)) ?_;try simp only[Act.put,BE]
     refine Fu 1 (Zg e.kd) rfl (by exact Or.inl ⟨Yp,fun X hX=>by have h1:=(hX.1 0 _ rfl).1;go_simp⟩) ?_;try simp only[Act.put,BE]
     refine BR 2 (.bool false) ?_;try simp only[Act.put,BE]
     refine BR 3 (.bool false) ?_;try simp only[Act.put,BE]
     refine QF 4 ?_;try simp only[Act.put,BE]
     refine QF 5 ?_;try simp only[Act.put,BE]
     refine QF 6 ?_;try simp only[Act.put,BE]
     refine QF 7 ?_;try simp only[Act.put,BE]
     refine QF 8 ?_;try simp only[Act.put,BE]
     refine QF 9 ?_;try simp only[Act.put,BE]
     refine BR 10 (.bool false) ?_;try simp only[Act.put,BE]
     refine wpAnyH_done Yr ?_ _;go_wp2_with fail;go_meet;exact⟨by rw[sO.o],(Below.refl w7.heap.size w7).drew⟩
   case rest=>
   revert wc;intro f hcut;obtain⟨rfl,yC⟩:=hcut;have pV:=yC.o.size;have zA:Hid (Zz j f):=xG.o.trans (yC.o.mono xG.o.size);replace zO:=Yw (Aa.same zO.o (yC.o.block _ (by have:=vW.o;omega)));replace vI:=Yw (Aa.below vI.o yC.o);replace vX:Hid (Z r U xc Q H N O f):=yN.o _ _ _ _ _ _ _ _ vX.o _ yC.o;have vP:Hid (j.heap.size<F/\F<f.heap.size):=⟨vW.o.1,by have:=vW.o;omega⟩;clear yC yE xG vW pV
   cases hbg:e.ff v r with
   |true=>
    have zT:Hid (Gt v e (Fi 8 v ⟨#[]⟩ ⟨#[]⟩)):=.inr ⟨zZ.o,.inl ⟨8,⟨#[]⟩,⟨#[]⟩,.inr ⟨tS.o,.inr ⟨rfl,rfl,r,Hy.o,.inl ⟨hbg,rfl⟩⟩⟩,rfl⟩⟩;have zM:=zA.o;clear hbg yM yN HF yD zJ yX yY HL;obtain⟨⟨k0,g0⟩,_⟩:=On zO.o zN.o.1;obtain⟨Y9,zC⟩:=Af (f.setCell (Zd (j.heap.size) 0) (Zg 8));have yL:Aa Y9 j.heap.size (dL (Fi 8 v ⟨#[]⟩ ⟨#[]⟩) vs):=by rw[zC];exact MQ zO.o 8
    have zE:Below j.heap.size j Y9:=by rw[zC];exact zM.setCell (Zx) _
    have yG:=Yw zC;have zU:=Yw yL;clear zC yL zM;go_upto_region 15 with fail;rw[<-yG.o];clear yG k0 g0;obtain⟨D,hD⟩:∃t:Zj,t=dL (Fi 8 v ⟨#[]⟩ ⟨#[]⟩) vs:=⟨_,rfl⟩;have vD:Hid (Aa Y9 j.heap.size D):=by rw[hD];exact zU.o
    have G:=Yw (Ki (E.o Y9 zE).2.2 (yW.o Y9 zE) zT.o zN.o hD);clear hD zE vU yW E zN;go_wp2_with (first
     |refine wpList_load_mid rfl 157 _ rfl j.heap.size 0 rfl D _ vD.o.range underlying157 rfl (by rw[G.o.1.1];kernel_rfl) ?_
     |refine wpList_store_mid rfl 157 _ _ rfl (w.heap.size+2) 0 D.toArray rfl rfl G.o.2.1 (by rw[List.size_toArray,G.o.1.1];kernel_rfl) (all_oneCell_toArray G.o.1.2) ?_)
    exact bodyPost_ret (AU results122 _ _ (w.heap.size+2) D _ rfl (Aa.range G.o.2.2.1) underlying157 rfl (by rw[G.o.1.1];kernel_rfl)) rfl G.o.2.2.2
   |false=>
   have sP:Hid (¬e.jg v r):=by show ¬(e.ff v r=true);rw[hbg];simp
   clear hbg;obtain⟨qR,_⟩:=(E.o f zA.o).1 2 _ rfl;obtain⟨qS,_⟩:=(E.o f zA.o).1 3 _ rfl;obtain⟨qM,qP⟩:=HL.o;have qJ:=yY.o.2;by_cases hfull:v.ss.length+v.D.length=4000
   .have zT:Hid (Gt v e (Fi 9 v ⟨#[]⟩ ⟨#[]⟩)):=.inr ⟨zZ.o,.inl ⟨9,⟨#[]⟩,⟨#[]⟩,.inr ⟨tS.o,.inr ⟨rfl,rfl,r,Hy.o,.inr ⟨sP.o,hfull,rfl⟩⟩⟩,rfl⟩⟩;have rC:¬((v.ss.length:Int)+(v.D.length:Int)<4000):=Yv
    have zM:=zA.o;clear yM yN HF yD zJ yX yY HL;go_upto_region 17 with fail;clear qR qS rC hfull qM qP qJ;obtain⟨⟨k0,g0⟩,_⟩:=On zO.o zN.o.1;obtain⟨Y9,zC⟩:=Af (f.setCell (Zd (j.heap.size) 0) (Zg 9));have yL:Aa Y9 j.heap.size (dL (Fi 9 v ⟨#[]⟩ ⟨#[]⟩) vs):=by rw[zC];exact MQ zO.o 9
    have zE:Below j.heap.size j Y9:=by rw[zC];exact zM.setCell (Zx) _
    have yG:=Yw zC;have zU:=Yw yL;clear zC yL zM;go_upto_region 18 with fail;rw[<-yG.o];clear yG k0 g0;obtain⟨D,hD⟩:∃t:Zj,t=dL (Fi 9 v ⟨#[]⟩ ⟨#[]⟩) vs:=⟨_,rfl⟩;have vD:Hid (Aa Y9 j.heap.size D):=by rw[hD];exact zU.o
    have G:=Yw (Ki (E.o Y9 zE).2.2 (yW.o Y9 zE) zT.o zN.o hD);clear hD zE vU yW E zN;go_wp2_with (first
     |refine wpList_load_mid rfl 157 _ rfl j.heap.size 0 rfl D _ vD.o.range underlying157 rfl (by rw[G.o.1.1];kernel_rfl) ?_
     |refine wpList_store_mid rfl 157 _ _ rfl (w.heap.size+2) 0 D.toArray rfl rfl G.o.2.1 (by rw[List.size_toArray,G.o.1.1];kernel_rfl) (all_oneCell_toArray G.o.1.2) ?_)
    exact bodyPost_ret (AU results122 _ _ (w.heap.size+2) D _ rfl (Aa.range G.o.2.2.1) underlying157 rfl (by rw[G.o.1.1];kernel_rfl)) rfl G.o.2.2.2
   have rC:(v.ss.length:Int)+(v.D.length:Int)<4000:=Yv
   have rJ:Hid (PG v e r):=⟨tS.o,Hy.o,sP.o,hfull⟩;clear sP hfull
   as_aux_lemma=>
   go_upto_region 19 with fail;clear qR qS rC qJ qM qP;clear vU zN zO yW;go_wp2_with (refine wpList_load_mid rfl 51 _ rfl w.heap.size 0 rfl [Zg v.wd,Zg v.lim,.slice sa v.ss.length sc,.slice ta v.D.length tc,b0,b1,b2,b3,b4,b5,b6,c0,c1,c2,c3,c4,c5] _ (E.o f zA.o).1.range underlying51 rfl Yr ?_);refine(yM.o f (E.o f zA.o).2.2.2).mono ?_
   rintro o d ⟨sb,y,ub,zI,T,P,L,qb,n,mb,m,rs,rfl,xT,xU⟩;obtain⟨C,hC⟩:=Af (Bm v (Yz sb v.ss.length y) (Yz ub v.D.length zI) T P L (Yz qb v.G.length n) (Yz mb v.ms.length m));have tX:C.length=17/\∀u∈C,u.oneCell'=true:=by obtain⟨a,h,_⟩:=xT.ja;rw[hC];exact⟨rfl,by rw[h];simp[Bm,Value.oneCell']⟩
   rw[<-hC];have qU:=xU.size;obtain⟨J,vQ⟩:=Af ((d.alloc (.cells Xo 51)).setCells d.heap.size 0 C.toArray.toList);have hb:=boxed (X:=d) (cs:=C) (z:=Xq) (T:=51) (by rw[tX.1];rfl);have rX:J=(d.alloc (.cells Xq.toArray 51)).setCells d.heap.size 0 C:=vQ;rw[<-rX]at hb;obtain⟨rF,sT,tP⟩:=hb
   have xQ:Hid ((d.alloc (.cells Xo 51)).there d.heap.size 0 C.toArray.size/\C.length=17/\∀x∈C,x.oneCell'=true):=⟨by rw[show C.toArray.size=17 from by rw[List.size_toArray];exact tX.1];exact(Aa.new d Xq 51).there,tX⟩
   have yA:Hid (Aa J d.heap.size [Zg v.wd,Zg v.lim,Yz sb v.ss.length y,Yz ub v.D.length zI,Zg v.S,Zg v.E,Zg v.F,Zg v.C,T,P,L,Zg v.L,Yz qb v.G.length n,Yz mb v.ms.length m,Zg v.Q,Zg v.P,Zg v.ro]):=by show Aa J d.heap.size [Zg v.wd,Zg v.lim,Yz sb v.ss.length y,Yz ub v.D.length zI,Zg v.S,Zg v.E,Zg v.F,Zg v.C,T,P,L,Zg v.L,Yz qb v.G.length n,Yz mb v.ms.length m,Zg v.Q,Zg v.P,Zg v.ro];rw[hC]at rF;exact rF
   have xD:=xU.trans (sT.mono xU.size);have zS:Hid (Zz j J):=zA.o.trans (xD.mono zA.o.size);have zR:Hid (AD J f.heap.size (Yz sb v.ss.length y) (Yz ub v.D.length zI) T P L (Yz qb v.G.length n) (Yz mb v.ms.length m) rs v/\∀g∈CV (Yz sb v.ss.length y) (Yz ub v.D.length zI) T P L (Yz qb v.G.length n) (Yz mb v.ms.length m) rs,g<d.heap.size):=⟨xT.below sT,xT.cz⟩
   have yH:Hid (w.heap.size+3<=j.heap.size/\j.heap.size<F/\F<f.heap.size/\f.heap.size<=d.heap.size/\J.heap.size=d.heap.size+1):=⟨by have:=vV.o;omega,vP.o.1,vP.o.2,qU,tP⟩;have zY:Hid (Zz f J):=xD;have tG:=Yw vQ;clear vQ rX rF sT tP qU hC tX xT xU xD yM vP vV
   go_upto_region 20 with(refine wpList_store_mid rfl 51 _ _ rfl d.heap.size 0 C.toArray rfl rfl xQ.o.1 (by rw[List.size_toArray,xQ.o.2.1];kernel_rfl) (all_oneCell_toArray xQ.o.2.2) ?_);rw[<-tG.o];clear tG xQ
   as_aux_lemma=>
   obtain⟨et,rB⟩:=Af (e.cg v.wd);rw[<-rB]at HF;obtain⟨yS,tD⟩:=Af (v.D++[et]);obtain⟨I,tE⟩:=Af yS.length;have rR:Hid (yS=v.D++[e.cg v.wd]/\I=yS.length):=⟨by rw[tD,rB],tE⟩;have rQ:Hid (yS=v.D++[et]/\I=yS.length):=⟨tD,tE⟩;clear rB tD tE;simp only[Act.put]
   go_cut [] (fun wx=>∃(A:Zk) (B:Nat),Hid (Aa wx d.heap.size [Zg v.wd,Zg v.lim,Yz sb v.ss.length y,.slice A I B,Zg v.S,Zg v.E,Zg v.F,Zg v.C,T,P,L,Zg v.L,Yz qb v.G.length n,Yz mb v.ms.length m,Zg v.Q,Zg v.P,Zg v.ro]/\Zz f wx/\J.heap.size<=wx.heap.size/\Aj wx f.heap.size (Yz sb v.ss.length y) v.ss/\Aj wx f.heap.size (.slice A I B) yS/\Aj wx f.heap.size (Yz qb v.G.length n) v.G/\Aj wx f.heap.size (Yz mb v.ms.length m) v.ms/\∀g,Ai (.slice A I B)=some g->g≠d.heap.size))
   case first=>
    have yF:Hid (∀X k,(Aa X w.heap.size [Zg v.wd,Zg v.lim,.slice sa v.ss.length sc,.slice ta v.D.length tc,b0,b1,b2,b3,b4,b5,b6,c0,c1,c2,c3,c4,c5]/\Aa X (w.heap.size+1) (Ya e.kd e.s e.nm e.H e.tx ra e.rf.length rc))->Zz X k->Aa k w.heap.size [Zg v.wd,Zg v.lim,.slice sa v.ss.length sc,.slice ta v.D.length tc,b0,b1,b2,b3,b4,b5,b6,c0,c1,c2,c3,c4,c5]/\Aa k (w.heap.size+1) (Ya e.kd e.s e.nm e.H e.tx ra e.rf.length rc)):=fun X k h1 h2=>⟨Aa.below h1.1 h2,Aa.below h1.2 h2⟩
    have xH:Hid (∀X,Zz J X->Zz w X):=fun X hX=>(E.o X (zS.o.trans (hX.mono zS.o.size))).2.2.2
    have rL:Hid (∀X,Zz J X->∃(A:Zk) (B:Nat) (Y:Zh),(Builtin.append_ #[23,23] 23 #[Yz ub v.D.length zI,Yz X.heap.size 1 1]).run prog (X.alloc (.cells #[.string et] 9))=.ok (.slice A I B) Y/\(Aa Y w.heap.size [Zg v.wd,Zg v.lim,.slice sa v.ss.length sc,.slice ta v.D.length tc,b0,b1,b2,b3,b4,b5,b6,c0,c1,c2,c3,c4,c5]/\Aa Y (w.heap.size+1) (Ya e.kd e.s e.nm e.H e.tx ra e.rf.length rc))/\(Y.cell? (Zd (d.heap.size) 3)=some (Yz ub v.D.length zI)/\Y.frozen? ⟨d.heap.size,3,none⟩=false)/\(Aa (Y.setCell (Zd (d.heap.size) 3) (.slice A I B)) w.heap.size [Zg v.wd,Zg v.lim,.slice sa v.ss.length sc,.slice ta v.D.length tc,b0,b1,b2,b3,b4,b5,b6,c0,c1,c2,c3,c4,c5]/\Aa (Y.setCell (Zd (d.heap.size) 3) (.slice A I B)) (w.heap.size+1) (Ya e.kd e.s e.nm e.H e.tx ra e.rf.length rc))/\Hid (Aa (Y.setCell (Zd (d.heap.size) 3) (.slice A I B)) d.heap.size [Zg v.wd,Zg v.lim,Yz sb v.ss.length y,.slice A I B,Zg v.S,Zg v.E,Zg v.F,Zg v.C,T,P,L,Zg v.L,Yz qb v.G.length n,Yz mb v.ms.length m,Zg v.Q,Zg v.P,Zg v.ro]/\Zz f (Y.setCell (Zd (d.heap.size) 3) (.slice A I B))/\J.heap.size<=(Y.setCell (Zd (d.heap.size) 3) (.slice A I B)).heap.size/\Aj (Y.setCell (Zd (d.heap.size) 3) (.slice A I B)) f.heap.size (Yz sb v.ss.length y) v.ss/\Aj (Y.setCell (Zd (d.heap.size) 3) (.slice A I B)) f.heap.size (.slice A I B) yS/\Aj (Y.setCell (Zd (d.heap.size) 3) (.slice A I B)) f.heap.size (Yz qb v.G.length n) v.G/\Aj (Y.setCell (Zd (d.heap.size) 3) (.slice A I B)) f.heap.size (Yz mb v.ms.length m) v.ms/\∀g,Ai (.slice A I B)=some g->g≠d.heap.size)):=fun X hX=>by
     have nA:=hX.size;have hz:=yH.o;obtain⟨tD,tE⟩:=rQ.o;have sG:=E.o X (zS.o.trans (hX.mono zS.o.size));have hA:=zR.o.1.below hX;have bA:Below X.heap.size X (X.alloc (.cells #[.string et] 9)):=(Zy)
     obtain⟨V',Y,hr,hO,hg,hk⟩:=Kt (X.alloc (.cells #[.string et] 9)) f.heap.size (Yz ub v.D.length zI) v.D (hA.u.below bA) ⟨X.heap.size,0,none⟩ 1 et (by simp[go_sem]) (by have:=HL.o.2;omega) Yt 23;rw[<-tD]at hO;obtain⟨A,B,rfl,_⟩:=hO.row;rw[<-tE]at hr hO hk;have pY:=hA.u.Z (g:=ub) rfl;have pZ:ub<d.heap.size:=zR.o.2 ub (by unfold CV;simp[Ai])
     have tY:Tn [ub] X Y:=((Tn.of (V:=[]) bA).mono Yu).trans (Tn.grown hg Yu);have tZ:Tn [d.heap.size] Y (Y.setCell (Zd (d.heap.size) 3) (.slice A I B)):=Tn.set _ _ _ _ Yu
     have s1:Aa Y w.heap.size [Zg v.wd,Zg v.lim,.slice sa v.ss.length sc,.slice ta v.D.length tc,b0,b1,b2,b3,b4,b5,b6,c0,c1,c2,c3,c4,c5]/\Aa Y (w.heap.size+1) (Ya e.kd e.s e.nm e.H e.tx ra e.rf.length rc):=⟨Aa.same sG.1 (tY.block _ sG.1.lt Yt),Aa.same sG.2.1 (tY.block _ sG.2.1.lt Yt)⟩;have xo:=Aa.below yA.o hX;have xY:=Aa.same xo (tY.block _ xo.lt Yt)
     have tA:∀g,Ai (.slice A I B)=some g->g≠d.heap.size:=fun g xL=>by
      rcases hk with h|h
      .rw[h]at xL;have:ub=g:=Option.some.inj xL;omega
      .rw[h]at xL;have:_=g:=Option.some.inj xL;simp at this;omega
     have sY:=hA.ap
     have vS:∀{R:Value} {l:Zl},Aj X f.heap.size R l->(∀g,Ai R=some g->g∈CV (Yz sb v.ss.length y) (Yz ub v.D.length zI) T P L (Yz qb v.G.length n) (Yz mb v.ms.length m) rs)->Ai R≠some ub->Aj (Y.setCell (Zd (d.heap.size) 3) (.slice A I B)) f.heap.size R l:=fun h1 h2 h3=>(h1.K tY (fun g xL vK=>h3 (by simp at vK;rw[xL,vK]))).K tZ (fun g xL vK=>by have:=zR.o.2 g (h2 g xL);simp at vK;omega)
     have bY:Below f.heap.size f Y:=(zY.o.trans (hX.mono zY.o.size)).trans (tY.below Yv Yt)
     exact⟨A,B,Y,hr,s1,xY 3 _ rfl,⟨Aa.same s1.1 (tZ.block _ s1.1.lt Yt),Aa.same s1.2 (tZ.block _ s1.2.lt Yt)⟩,xY.set 3 _,bY.trans (tZ.below bY.size Yt),by have:=tY.size;simp;omega,vS hA.s (fun g h=>by unfold CV;rw[h];simp) (sY.1 ub rfl),hO.K tZ (fun g h=>by have:=tA g h;simp;omega),vS hA.q (fun g h=>by unfold CV;rw[h];simp) (sY.2 ub rfl).1,vS hA.m (fun g h=>by unfold CV;rw[h];simp) (sY.2 ub rfl).2,tA⟩
    refine wp_region_held_drew (S:=fun X=>Aa X w.heap.size [Zg v.wd,Zg v.lim,.slice sa v.ss.length sc,.slice ta v.D.length tc,b0,b1,b2,b3,b4,b5,b6,c0,c1,c2,c3,c4,c5]/\Aa X (w.heap.size+1) (Ya e.kd e.s e.nm e.H e.tx ra e.rf.length rc)) Yr (show _/\_ from⟨(E.o J zS.o).1,(E.o J zS.o).2.1⟩) (fun hS=> ?_);refine BR 0 (Yx d.heap.size 2) ?_;try simp only[Act.put,BE]
    refine BR 1 (Yx d.heap.size 3) ?_;try simp only[Act.put,BE]
    refine Fu 3 (.agg (Xz e.kd e.s e.nm e.H e.tx ra e.rf.length rc)) rfl (by exact yieldsIf_load_mid Yp 38 _ rfl (w.heap.size+1) 0 rfl (Ya e.kd e.s e.nm e.H e.tx ra e.rf.length rc) _ (fun X h=>h.2.range) underlying38 rfl Yr) ?_;try simp only[Act.put,BE]
    refine BR 4 (Yy w.heap.size) ?_;try simp only[Act.put,BE]
    refine Fu 5 (Zg v.wd) rfl (by exact Or.inl ⟨Yp,fun X hX=>by have h1:=(hX.1 0 _ rfl).1;go_simp⟩) ?_;try simp only[Act.put,BE]
    refine wpAnyH_ready (rs:=[2,6]) Yr Yu ?_;refine AllReadyH.cons (o:=⟨some 70,.load 23 (.tmp 69),23,Gi,#[DF 1],none⟩) rfl (fun K i=> ?_) (AllReadyH.cons (o:=⟨some 74,.call ⟨.value (.func 45),#[.tmp 71,.tmp 73],#[38,3]⟩,9,Gi,#[DF 3,DF 5],none⟩) rfl (fun K i=> ?_) AllReadyH.nil)
    .have pW:=(yA.o 3 _ rfl).1;go_simp;refine i.out _ _ hS (fun yO=> ?_);clear i K;try simp only[Act.put,BE]
     refine CG 6 (fun K i=> ?_);go_simp;refine(HF.o J.drew (xH.o _ Ae.drew)).mono ?_;rintro o wf ⟨rfl,vZ⟩;try go_simp
     refine i.out _ _ (yF.o _ _ yO vZ) (fun yJ=> ?_);clear i K;try simp only[Act.put,BE]
     have vF:Below J.heap.size J wf:=(Below.refl J.heap.size J).drew.trans vZ;have c3:=(Aa.below yA.o vF 3 _ rfl).1;obtain⟨A,B,Yf,xX,sD,⟨y3,g3⟩,sE,xW⟩:=rL.o wf vF;refine CG 7 (fun K i=> ?_);go_simp;refine i.out _ _ (yF.o _ _ yJ (Zy)) (fun xK=> ?_);clear i K;try simp only[Act.put,BE]
     refine CG 8 (fun K i=> ?_);refine Bv rfl _ _ _ _ rfl Yp Yp xX ?_;refine i.out _ _ sD (fun vY=> ?_);clear i K;try simp only[Act.put,BE]
     refine BR 9 (Yx d.heap.size 2) ?_;try simp only[Act.put,BE]
     refine BR 10 (Yx d.heap.size 3) ?_;try simp only[Act.put,BE]
     refine CG 11 (fun K i=> ?_);go_simp;refine i.out _ _ sE (fun qE=> ?_);clear i K;try simp only[Act.put]
     refine wpAnyH_done Yr ?_ _;go_wp2_with fail;go_meet;exact⟨A,B,xW⟩
    .go_simp;refine(HF.o J.drew (xH.o _ Ae.drew)).mono ?_;rintro o wf ⟨rfl,vZ⟩;try go_simp
     refine i.out _ _ (yF.o _ _ hS vZ) (fun yO=> ?_);clear i K;try simp only[Act.put,BE]
     have vF:Below J.heap.size J wf:=(Below.refl J.heap.size J).drew.trans vZ;have c3:=(Aa.below yA.o vF 3 _ rfl).1;obtain⟨A,B,Yf,xX,sD,⟨y3,g3⟩,sE,xW⟩:=rL.o wf vF;refine wpAnyH_ready (rs:=[2,7]) Yr Yu ?_
     refine AllReadyH.cons (o:=⟨some 70,.load 23 (.tmp 69),23,Gi,#[DF 1],none⟩) rfl (fun K i=> ?_) (AllReadyH.cons (o:=⟨some 75,.buildSlice 23 1 #[(0,.tmp 74)],23,Gi,#[DF 6],none⟩) rfl (fun K i=> ?_) AllReadyH.nil)
     .go_simp;refine i.out _ _ yO (fun yJ=> ?_);clear i K;try simp only[Act.put,BE]
      refine CG 7 (fun K i=> ?_);go_simp;refine i.out _ _ (yF.o _ _ yJ (Zy)) (fun xK=> ?_);clear i K;try simp only[Act.put,BE]
      refine CG 8 (fun K i=> ?_);refine Bv rfl _ _ _ _ rfl Yp Yp xX ?_;refine i.out _ _ sD (fun vY=> ?_);clear i K;try simp only[Act.put,BE]
      refine BR 9 (Yx d.heap.size 2) ?_;try simp only[Act.put,BE]
      refine BR 10 (Yx d.heap.size 3) ?_;try simp only[Act.put,BE]
      refine CG 11 (fun K i=> ?_);go_simp;refine i.out _ _ sE (fun qE=> ?_);clear i K;try simp only[Act.put]
      refine wpAnyH_done Yr ?_ _;go_wp2_with fail;go_meet;exact⟨A,B,xW⟩
     .go_simp;refine i.out _ _ (yF.o _ _ yO (Zy)) (fun yJ=> ?_);clear i K;try simp only[Act.put,BE]
      have pX:=(Aa.below yA.o (vF.trans ((Zy:Zz wf (wf.alloc (.cells #[.string et] 9))).mono vF.size)) 3 _ rfl).1;refine CG 2 (fun K i=> ?_);go_simp;refine i.out _ _ yJ (fun xK=> ?_);clear i K;try simp only[Act.put,BE]
      refine CG 8 (fun K i=> ?_);refine Bv rfl _ _ _ _ rfl Yp Yp xX ?_;refine i.out _ _ sD (fun vY=> ?_);clear i K;try simp only[Act.put,BE]
      refine BR 9 (Yx d.heap.size 2) ?_;try simp only[Act.put,BE]
      refine BR 10 (Yx d.heap.size 3) ?_;try simp only[Act.put,BE]
      refine CG 11 (fun K i=> ?_);go_simp;refine i.out _ _ sE (fun qE=> ?_);clear i K;try simp only[Act.put]
      refine wpAnyH_done Yr ?_ _;go_wp2_with fail;go_meet;exact⟨A,B,xW⟩
   case rest=>
   revert wc;intro zP hcut;obtain⟨A,B,hcut⟩:=hcut;obtain⟨qT,tV,z20,tN,tO,tM,tL,tA⟩:=hcut.o;have tI:=Yw qT;have yU:=Yw (Za tN (Za tO (Za tM tL)))
   have xI:Hid ((∀g,Ai (Yz sb v.ss.length y)=some g->g≠d.heap.size)/\(∀g,Ai (.slice A I B)=some g->g≠d.heap.size)/\(∀g,Ai (Yz qb v.G.length n)=some g->g≠d.heap.size)/\(∀g,Ai (Yz mb v.ms.length m)=some g->g≠d.heap.size)):=⟨fun g h=>by have:=zR.o.2 g (by unfold CV;rw[h];simp);omega,tA,fun g h=>by have:=zR.o.2 g (by unfold CV;rw[h];simp);omega,fun g h=>by have:=zR.o.2 g (by unfold CV;rw[h];simp);omega⟩
   replace yH:Hid (w.heap.size+3<=j.heap.size/\j.heap.size<F/\f.heap.size<=zP.heap.size/\F<f.heap.size/\f.heap.size<=d.heap.size/\d.heap.size<zP.heap.size):=by have:=yH.o;exact⟨Yv,Yv,Yv,Yv,Yv,Yv⟩
   have xO:=Yw (Aa.below vI.o tV);have tK:Hid (Z r U xc Q H N O zP):=yN.o _ _ _ _ _ _ _ _ vX.o _ tV;have vM:Hid (Zz j zP):=zA.o.trans (tV.mono zA.o.size);clear hcut qT tV z20 tN tO tM tL tA rQ HF zR yA zS zY zA vI vX yN
   as_aux_lemma=>
   go_wp2_with (refine wpList_load_mid rfl 30 _ rfl F 1 rfl (Yh v.wd r.E r.F r.C U r.A.length xc Q r.ps.length H N r.ls.length O) _ (Aa.fs [Ze] (Yh v.wd r.E r.F r.C U r.A.length xc Q r.ps.length H N r.ls.length O) [.string r.y,Zg r.le,Zc,Zc] xO.o) underlying30 rfl Yr ?_);refine(yD.o r U xc Q H N O zP Hy.o tK.o).mono ?_;rintro o sN ⟨T2,P2,L2,vG,rfl,yV,zF⟩;obtain⟨za,zc,rfl⟩:=As yV.ak
   obtain⟨ya,yc,rfl⟩:=As yV.pins;obtain⟨ka,kc,rfl⟩:=As yV.aq;have qV:=zF.size;have hz:=yH.o;obtain⟨zH,xS⟩:=Af (sN.setCells d.heap.size 4 (Yh v.wd r.E r.F r.C za r.A.length zc ya r.ps.length yc ka r.ls.length kc));have xB:Tn [d.heap.size] sN zH:=by rw[xS];exact AI _ _ _ _
   have rG:=Aa.below tI.o zF;have yB:Hid (Aa zH d.heap.size [Zg v.wd,Zg v.lim,Yz sb v.ss.length y,.slice A I B,Zg v.wd,Zg r.E,Zg r.F,Zg r.C,.slice za r.A.length zc,.slice ya r.ps.length yc,.slice ka r.ls.length kc,Zg v.L,Yz qb v.G.length n,Yz mb v.ms.length m,Zg v.Q,Zg v.P,Zg v.ro]):=by
    show Aa zH d.heap.size [Zg v.wd,Zg v.lim,Yz sb v.ss.length y,.slice A I B,Zg v.wd,Zg r.E,Zg r.F,Zg r.C,.slice za r.A.length zc,.slice ya r.ps.length yc,.slice ka r.ls.length kc,Zg v.L,Yz qb v.G.length n,Yz mb v.ms.length m,Zg v.Q,Zg v.P,Zg v.ro];rw[xS]
    exact Aa.fg (Yh v.wd r.E r.F r.C za r.A.length zc ya r.ps.length yc ka r.ls.length kc) [Zg v.wd,Zg v.lim,Yz sb v.ss.length y,.slice A I B] [Zg v.S,Zg v.E,Zg v.F,Zg v.C,T,P,L] (Xv v.L (some ⟨qb,0,none⟩) v.G.length n (some ⟨mb,0,none⟩) v.ms.length m v.Q v.P v.ro) sN rG rfl
   have vO:Hid (sN.there d.heap.size 4 7/\((Yg v.wd r.E r.F r.C za r.A.length zc ya r.ps.length yc ka r.ls.length kc):Array Value).all (·.oneCell')=true):=⟨Aa.fc [Zg v.wd,Zg v.lim,Yz sb v.ss.length y,.slice A I B] [Zg v.S,Zg v.E,Zg v.F,Zg v.C,T,P,L] (Xv v.L (some ⟨qb,0,none⟩) v.G.length n (some ⟨mb,0,none⟩) v.ms.length m v.Q v.P v.ro) rG,Yr⟩
   have xR:Hid (AY zH zP.heap.size (.slice za r.A.length zc) (.slice ya r.ps.length yc) (.slice ka r.ls.length kc) vG r.A r.ps r.ls):=yV.K xB Yt;have zK:Hid (Aj zH f.heap.size (Yz sb v.ss.length y) v.ss/\Aj zH f.heap.size (.slice A I B) yS/\Aj zH f.heap.size (Yz qb v.G.length n) v.G/\Aj zH f.heap.size (Yz mb v.ms.length m) v.ms):=by
    refine⟨(yU.o.1.below zF).K xB (fun g hg=> ?_),(yU.o.2.1.below zF).K xB (fun g hg=> ?_),(yU.o.2.2.1.below zF).K xB (fun g hg=> ?_),(yU.o.2.2.2.below zF).K xB (fun g hg=> ?_)⟩
    .have:=xI.o.1 g hg;simp;omega
    .have:=xI.o.2.1 g hg;simp;omega
    .have:=xI.o.2.2.1 g hg;simp;omega
    .have:=xI.o.2.2.2 g hg;simp;omega
   have sU:=vM.o.trans (zF.mono vM.o.size);have yT:Hid (Zz j zH):=sU.trans (xB.below sU.size Yt);have xP:=Yw (Aa.same (Aa.below xO.o zF) (xB.block _ (Aa.below xO.o zF).lt Yt));have pE:Hid (zP.heap.size<=zH.heap.size):=Zm qV xB.size;have tH:=Yw xS;clear xS xB rG zF yV sU qV hz tI yU xO vM tK yD
   go_upto_region 22 with(refine wpList_store_mid rfl 30 _ _ rfl d.heap.size 4 (Yg v.wd r.E r.F r.C za r.A.length zc ya r.ps.length yc ka r.ls.length kc) rfl rfl vO.o.1 Yr vO.o.2 ?_);rw[<-tH.o];clear tH vO
   as_aux_lemma=>
   obtain⟨e0,_⟩:=(E.o zH yT.o).2.1 0 _ rfl;obtain⟨e1,_⟩:=(E.o zH yT.o).2.1 1 _ rfl;obtain⟨u8,_⟩:=xP.o 8 _ rfl;obtain⟨hl,qI⟩:=Af (e.held r);have vJ:Hid (hl=e.held r):=qI;clear qI
   go_upto_if 87 with fail
   go_cut [8,87] (fun th _ wx=>th=.string hl/\wx=zH)
   case first=>
    by_cases hk1:e.kd=1
    .have rD:(e.kd==1)=true:=by simp[hk1]
     have rA:Hid (r.y=hl):=by show r.y=hl;rw[vJ.o];simp[Ed.held,hk1]
     clear hk1;go_wp2;go_meet;exact⟨by rw[rA.o],rfl⟩
    .have rD:(e.kd==1)=false:=by simpa using hk1
     have rA:Hid (e.s=hl):=by show e.s=hl;rw[vJ.o];simp[Ed.held,hk1]
     clear hk1;go_wp2;go_meet;exact⟨by rw[rA.o],rfl⟩
   case rest=>
   obtain⟨rfl,qQ⟩:=hcut;rw[qQ];clear qQ wc e0 e1 u8;obtain⟨qq,tC⟩:=Af (shQ v.L r.A v.G v.ms hl);have rP:Hid (qq=shQ v.L r.A v.G v.ms (e.held r)):=by show qq=_;rw[tC,vJ.o]
   go_upto_if 91 with fail
   go_cut [91] (fun _ wx=>∃(qa:Zk) (qn qc:Nat) (ma:Zk) (mc:Nat),Hid (qn=qq.length/\Aa wx d.heap.size [Zg v.wd,Zg v.lim,Yz sb v.ss.length y,.slice A I B,Zg v.wd,Zg r.E,Zg r.F,Zg r.C,.slice za r.A.length zc,.slice ya r.ps.length yc,.slice ka r.ls.length kc,Zg v.L,.slice qa qn qc,.slice ma v.ms.length mc,Zg v.Q,Zg v.P,Zg v.ro]/\Tn [d.heap.size] zH wx/\Aj wx f.heap.size (.slice qa qn qc) qq/\Aj wx f.heap.size (.slice ma v.ms.length mc) v.ms))
   case first=>
    by_cases he:hl=⟨#[]⟩
    .have rO:Hid (qq=v.G):=by show qq=v.G;rw[rP.o];exact(yX.o r Hy.o).2 (by rw[<-vJ.o,he])
     have pK:(!hl.toList.isEmpty)=false:=by rw[he];simp
     rw[pK];clear he tC;go_wp2;go_meet;exact⟨_,_,_,_,_,by rw[rO.o],yB.o,Tn.of Ae,by rw[rO.o];exact zK.o.2.2.1,zK.o.2.2.2⟩
    .have pN:=VM he;have rK:(!hl.toList.isEmpty)=true:=by rw[pN];rfl
     rw[rK];replace zJ:=Yw (zJ.o r zH (.slice za r.A.length zc) (.slice ya r.ps.length yc) (.slice ka r.ls.length kc) vG f.heap.size qb n mb m Hy.o (xR.o.mono yH.o.2.2.1) zK.o.2.2.1 zK.o.2.2.2);rw[<-vJ.o,<-tC]at zJ;clear he tC;go_wp2_with (first
      |refine wpList_load_mid rfl 30 _ rfl d.heap.size 4 rfl (Yh v.wd r.E r.F r.C za r.A.length zc ya r.ps.length yc ka r.ls.length kc) _ (Aa.fs [Zg v.wd,Zg v.lim,Yz sb v.ss.length y,.slice A I B] (Yh v.wd r.E r.F r.C za r.A.length zc ya r.ps.length yc ka r.ls.length kc) (Xv v.L (some ⟨qb,0,none⟩) v.G.length n (some ⟨mb,0,none⟩) v.ms.length m v.Q v.P v.ro) yB.o) underlying30 rfl Yr ?_
      |refine wpList_load_mid rfl 49 _ rfl d.heap.size 11 rfl (Xv v.L (some ⟨qb,0,none⟩) v.G.length n (some ⟨mb,0,none⟩) v.ms.length m v.Q v.P v.ro) _ (Aa.fs [Zg v.wd,Zg v.lim,Yz sb v.ss.length y,.slice A I B,Zg v.wd,Zg r.E,Zg r.F,Zg r.C,.slice za r.A.length zc,.slice ya r.ps.length yc,.slice ka r.ls.length kc] (Xv v.L (some ⟨qb,0,none⟩) v.G.length n (some ⟨mb,0,none⟩) v.ms.length m v.Q v.P v.ro) [] yB.o) underlying49 rfl Yr ?_)
     refine zJ.Ah ?_;rintro o rE ⟨vR,Q3,M3,rfl,zX,zV⟩;obtain⟨qa,qc,rfl,_⟩:=zX.row;obtain⟨ma,mc,rfl,_⟩:=zV.row;have hz:=yH.o;have pP:=pE.o;have yK:=AI d.heap.size (Xv v.L qa qq.length qc ma v.ms.length mc v.Q v.P v.ro) 11 rE;have rH:=Aa.below yB.o vR
     have tF:Hid (rE.there d.heap.size 11 6/\((Ye v.L qa qq.length qc ma v.ms.length mc v.Q v.P v.ro):Array Value).all (·.oneCell')=true):=⟨Aa.fc [Zg v.wd,Zg v.lim,Yz sb v.ss.length y,.slice A I B,Zg v.wd,Zg r.E,Zg r.F,Zg r.C,.slice za r.A.length zc,.slice ya r.ps.length yc,.slice ka r.ls.length kc] (Xv v.L (some ⟨qb,0,none⟩) v.G.length n (some ⟨mb,0,none⟩) v.ms.length m v.Q v.P v.ro) [] rH,Yr⟩
     have qX:=Yw (Zn (Aa.fg (Xv v.L qa qq.length qc ma v.ms.length mc v.Q v.P v.ro) [Zg v.wd,Zg v.lim,Yz sb v.ss.length y,.slice A I B,Zg v.wd,Zg r.E,Zg r.F,Zg r.C,.slice za r.A.length zc,.slice ya r.ps.length yc,.slice ka r.ls.length kc] (Xv v.L (some ⟨qb,0,none⟩) v.G.length n (some ⟨mb,0,none⟩) v.ms.length m v.Q v.P v.ro) [] rE rH rfl) (Zn (((Tn.of (V:=[]) vR).mono Yu).trans yK) (Zn ((zX.K yK (fun g hg=>by have:=(zX.Z hg).1;simp;omega)).mono (base':=f.heap.size) Yv) ((zV.K yK (fun g hg=>by have:=(zV.Z hg).1;simp;omega)).mono (base':=f.heap.size) Yv))))
     clear yK rH vR zX zV yB xR zK xI zJ hz pP;go_wp2_with (refine wpList_store_mid rfl 49 _ _ rfl d.heap.size 11 (Ye v.L qa qq.length qc ma v.ms.length mc v.Q v.P v.ro) rfl rfl tF.o.1 Yr tF.o.2 ?_);go_meet;exact⟨_,_,_,_,_,rfl,qX.o⟩
   case rest=>
   revert wc;intro yZ hcut;obtain⟨qa,qn,qc,ma,mc,hcut⟩:=hcut;obtain⟨qL,xo,yK,zX,zV⟩:=hcut.o;have pD:=Yw xo
   have zG:Hid (AY yZ f.heap.size (.slice za r.A.length zc) (.slice ya r.ps.length yc) (.slice ka r.ls.length kc) vG r.A r.ps r.ls/\Aj yZ f.heap.size (Yz sb v.ss.length y) v.ss/\Aj yZ f.heap.size (.slice A I B) yS/\Aj yZ f.heap.size (.slice qa qn qc) qq/\Aj yZ f.heap.size (.slice ma v.ms.length mc) v.ms):=⟨(xR.o.K yK (by have:=yH.o;simp;omega)).mono yH.o.2.2.1,zK.o.1.K yK (fun g hg=>by have:=xI.o.1 g hg;simp;omega),zK.o.2.1.K yK (fun g hg=>by have:=xI.o.2.1 g hg;simp;omega),zX,zV⟩
   have qZ:Hid (qn=qq.length):=qL;have zE:Below j.heap.size j yZ:=yT.o.trans (yK.below yT.o.size (by have:=yH.o;simp;omega));have rM:=Yw (Aa.same xP.o (yK.block _ xP.o.lt (by have:=yH.o;simp;omega)));clear hcut qL xo yK zX zV tC yB xR xP yT zK xI zJ yX vJ
   obtain⟨vs,yR⟩:∃t:Zj,t=[Zg v.wd,Zg v.lim,Yz sb v.ss.length y,.slice A I B,Zg v.wd,Zg r.E,Zg r.F,Zg r.C,.slice za r.A.length zc,.slice ya r.ps.length yc,.slice ka r.ls.length kc,Zg v.L,.slice qa qn qc,.slice ma v.ms.length mc,Zg v.Q,Zg v.P,Zg v.ro]:=⟨_,rfl⟩;have rV:Hid (Aa yZ d.heap.size vs/\vs.length=17):=by rw[yR];exact⟨pD.o,rfl⟩
   have xN:vs.length=17/\∀u∈vs,u.oneCell'=true:=by rw[yR];exact⟨rfl,by simp[Value.oneCell']⟩
   obtain⟨D,hD⟩:∃t:Zj,t=dL (dyes v e r) vs:=⟨_,rfl⟩;have tQ:Hid (prog.built 157 [(1,.agg vs.toArray),(2,.string r.y),(3,Zg r.le)]=some D.toArray):=by rw[hD];exact Tp xN.1 _ _
   have G:Hid _:=Ki (E.o yZ zE).2.2 (fun V k hV t0=>by
    have hz:=yH.o;have qK:∀b∈V,b<f.heap.size:=fun b hb=>by have:=hV b hb;omega
    have sL:∀g,f.heap.size<=g->g∉V:=fun g hg vK=>by have:=qK g vK;omega
    rw[yR];exact Aae yY.o.1 (zG.o.2.1.K t0 (fun g hg=>sL g (zG.o.2.1.Z hg).1)) (zG.o.2.2.1.K t0 (fun g hg=>sL g (zG.o.2.2.1.Z hg).1)) rR.o.1 rR.o.2 (zG.o.1.K t0 qK) (zG.o.2.2.2.1.K t0 (fun g hg=>sL g (zG.o.2.2.2.1.Z hg).1)) rP.o qZ.o (zG.o.2.2.2.2.K t0 (fun g hg=>sL g (zG.o.2.2.2.2.Z hg).1))) (.inr ⟨zZ.o,.inr ⟨r,rJ.o,rfl⟩⟩) xN hD
   obtain⟨u8,_⟩:=rM.o 8 _ rfl;obtain⟨u9,_⟩:=rM.o 9 _ rfl;clear hD yR xN zE E;go_wp2_with (first
    |refine wpList_load_mid rfl 51 _ rfl d.heap.size 0 rfl vs _ rV.o.1.range underlying51 rfl (by rw[rV.o.2];kernel_rfl) ?_
    |refine Gy rfl 157 _ rfl [(1,.agg vs.toArray),(2,.string r.y),(3,Zg r.le)] Yr D.toArray tQ.o ?_
    |refine wpList_store_mid rfl 157 _ _ rfl (w.heap.size+2) 0 D.toArray rfl rfl G.o.2.1 (by rw[List.size_toArray,G.o.1.1];kernel_rfl) (all_oneCell_toArray G.o.1.2) ?_)
   exact bodyPost_ret (AU results122 _ _ (w.heap.size+2) D _ rfl (Aa.range G.o.2.2.1) underlying157 rfl (by rw[G.o.1.1];kernel_rfl)) rfl G.o.2.2.2
end Go.Proofs.YtoglnpagihdhpaaGreatDoor
