import Derived.Test.YtdofmfnmackjhaaGreatDoorX31
set_option maxRecDepth 100000
set_option maxHeartbeats 16000000
namespace Go.Proofs.YtdofmfnmackjhaaGreatDoor
open ChangeShapes WideShapes ChangeAt RowKit _root_.Go.Proofs.Tryz List World Value
theorem Acb(v:Vd)(e:Ed)(sa ta:Zk)(sc tc:Nat)(b0 b1 b2 b3 b4 b5 b6 c0 c1 c2 c3 c4 c5:D4)(ra:Zk)(rc:Nat)(K:Zj->List Nat->Zh->Prop)(Z:Rs->Zk->Nat->Zk->Nat->Zk->Nat->Zh->Prop)(w:Zh)(hlen:v.ss.length<=1048576/\v.E.length<=1048576)(p:∀X,Zz w X->D8 133 #[.agg #[Zg v.wd,Zg v.lim,C3 sa v.ss.length sc,C3 ta v.E.length tc,b0,b1,b2,b3,b4,b5,b6,c0,c1,c2,c3,c4,c5]] X λo k=>Ay (CB v) X k o)(E:CB v->∀X,Zz w X->D8 134 #[.agg #[Zg v.wd,Zg v.lim,C3 sa v.ss.length sc,C3 ta v.E.length tc,b0,b1,b2,b3,b4,b5,b6,c0,c1,c2,c3,c4,c5]] X λo k=>∃sb y ub zE T P L qb n mb m rs,o=C5 (.agg (Bw v (Yz sb v.ss.length y) (Yz ub v.E.length zE) T P L (Yz qb v.H.length n) (Yz mb v.ms.length m)).toArray)/\AM k X.1.size (Yz sb v.ss.length y) (Yz ub v.E.length zE) T P L (Yz qb v.H.length n) (Yz mb v.ms.length m) rs v/\Zz X k)(I:∀X,Zz w X->D8 29 #[.agg (Yd e.kd e.s e.nm e.G e.tx ra e.rf.length rc),Zg v.wd] X λo k=>o=C5 (.bool (e.ok v.wd))/\Zz X k)(j:CB v->∀X,Zz w X->D8 31 #[.agg #[b0,b1,b2,b3,b4,b5,b6]] X λo k=>∃cs V,o=C5 (.agg cs.toArray)/\Zz X k/\(∀b∈V,X.1.size<=b/\b<k.1.size)/\K cs V k)(i:∀cs V X k,K cs V X->Zz X k->K cs V k)(hA:CB v->e.ok v.wd=true->∀cs V X,Zz w X->K cs V X->D8 30 #[.agg cs.toArray,.agg (Yd e.kd e.s e.nm e.G e.tx ra e.rf.length rc)] X λo k=>Tn V X k/\∃M,o=C5 (.agg M.toArray)/\Kg v e Z k M)(D:∀r U xc Q H N O X,CB v->e.ok v.wd=true->e.yes v r->Z r U xc Q H N O X->∀F k,X.1[F]?=some (.cells z12.toArray 36)->Tn [F] X k->Z r U xc Q H N O k)(q:∀r U xc Q H N O X,Z r U xc Q H N O X->∀k,Zz X k->Z r U xc Q H N O k)(a:CB v->e.ok v.wd=true->e.kd=1->∀r U xc Q H N O X,e.yes v r->Z r U xc Q H N O X->D8 154 #[.agg (Yg v.wd r.D r.F r.C U r.ks.length xc Q r.ps.length H N r.ls.length O)] X λo k=>o=C5 (Zg (DK v.wd r.ks))/\Zz X k)(x:e.ok v.wd=true->∀X,Zz w X->D8 138 #[.agg (Yd e.kd e.s e.nm e.G e.tx ra e.rf.length rc),Zg v.wd] X λo k=>o=C5 (C4 (e.cz v.wd))/\Zz X k)(A:CB v->e.ok v.wd=true->∀r U xc Q H N O X,e.yes v r->Z r U xc Q H N O X->D8 31 #[.agg (Yg v.wd r.D r.F r.C U r.ks.length xc Q r.ps.length H N r.ls.length O)] X λo k=>∃T2 P2 L2 xK,o=C5 (.agg #[Zg v.wd,Zg r.D,Zg r.F,Zg r.C,T2,P2,L2])/\Ba k X.1.size T2 P2 L2 xK r.ks r.ps r.ls/\Zz X k)(h:CB v->e.ok v.wd=true->∀r X T2 P2 L2 xK d qb n mb m,e.yes v r->Ba X d T2 P2 L2 xK r.ks r.ps r.ls->Ar X d (Yz qb v.H.length n) v.H->Ar X d (Yz mb v.ms.length m) v.ms->D8 155 #[.agg #[Zg v.wd,Zg r.D,Zg r.F,Zg r.C,T2,P2,L2],.agg (Ya v.M (some ⟨qb,0,none⟩) v.H.length n (some ⟨mb,0,none⟩) v.ms.length m v.U v.V v.ro),C4 (e.held r)] X λo k=>Zz X k/\∃Q3 M3,o=C5 (.agg #[Zg v.M,Q3,M3,Zg v.U,Zg v.V,Zg v.ro])/\Ar k X.1.size Q3 (shQ v.M r.ks v.H v.ms (e.held r))/\Ar k X.1.size M3 v.ms)(G:CB v->∀r,e.yes v r->(e.kd=1->r.j≠⟨#[]⟩)/\(e.held r=⟨#[]⟩->(shQ v.M r.ks v.H v.ms (e.held r))=v.H))(t:CB v->v.wd=v.O/\v.ss.length+v.E.length<=4000):
 D8 132 #[.agg #[Zg v.wd,Zg v.lim,C3 sa v.ss.length sc,C3 ta v.E.length tc,b0,b1,b2,b3,b4,b5,b6,c0,c1,c2,c3,c4,c5],.agg (Yd e.kd e.s e.nm e.G e.tx ra e.rf.length rc)] w (SDb v e w):=by
 obtain⟨W,d⟩:=Ae (((w.alloc (.cells #[Zg v.wd,Zg v.lim,C1 sa v.ss sc,C1 ta v.E tc,b0,b1,b2,b3,b4,b5,b6,c0,c1,c2,c3,c4,c5] 100)).alloc (.cells (Yd e.kd e.s e.nm e.G e.tx ra e.rf.length rc) 32)).alloc (.cells Xk 162));have bW:=(BI d).1;have zW:=(BI d).2.1;have xV:=(BI d).2.2.1;have Y:=(BI d).2.2.2.1;have s:Aa W (w.1.size+2) EU:=(BI d).2.2.2.2
 have f:Hid (∀X,Zz W X->Aa X w.1.size [Zg v.wd,Zg v.lim,C1 sa v.ss sc,C1 ta v.E tc,b0,b1,b2,b3,b4,b5,b6,c0,c1,c2,c3,c4,c5]/\Aa X (w.1.size+1) (Yc e.kd e.s e.nm e.G e.tx ra e.rf.length rc)/\Aa X (w.1.size+2) EU/\Zz w X):=λX hX=>⟨Aa.A xV hX,Aa.A Y hX,Aa.A (v:=Ze) s hX,bW.ah (hX.aj bW.size)⟩;have HL:=Yw hlen;have B:=Yw p;have yB:=Yw E;have C:=Yw I;have J:=Yw j
 have HK:=Yw i;have c:=Yw hA;have HZ:=Yw D;have yC:=Yw q;have g:=Yw a;have HF:=Yw x;have zT:=Yw A;have zF:=Yw h;have yL:=Yw G;have yM:=Yw t;have u:=Yw d;clear d xV Y s hlen p E I j i hA D q a x A h G t;go_enter func132,ntmps132;go_upto_region 1 with fail;rw[<-u.o];clear u
 go_wp2_with (refine wpList_load_mid rfl 100 _ rfl w.1.size 0 rfl [Zg v.wd,Zg v.lim,C1 sa v.ss sc,C1 ta v.E tc,b0,b1,b2,b3,b4,b5,b6,c0,c1,c2,c3,c4,c5] _ (f W Ad).1.range underlying100 rfl Yr ?_);refine Calls.mono (B W bW) ?_;rintro o w1 ⟨b1,rfl,A,j⟩;clear B;cases b1 with
 |false=>
  have xO:¬CB v:=λh=>by have:=A.2 h;cases this
  have⟨_,_,s,b1⟩:=f w1 j;have⟨W9,d⟩:=Ae (w1.setCells (w.1.size+2) 0 (Xj 1));have B:Aa W9 (w.1.size+2) (Xj 1):=by rw[d];exact s.ay _ rfl
  have sQ:Hid (Zz w W9):=b1.ah (by rw[d];exact(AV _ _ _ _).A b1.size Yu);have tW:=Yw (Zn (show((Xi 1):Array Value).all (·.oneCell')=true by simp[oneCell']) s.there);have sV:=Yw B;have sS:=Yw xO;have sU:=Yw d;clear d B xO s b1 f yB C J HK c HZ yC g HF zT zF yL yM HL j A
  go_wp2_with (refine wpList_store_mid rfl 162 _ _ rfl (w.1.size+2) 0 (Xi 1) rfl rfl tW.2 Yr tW.1 ?_);rw[<-sU.o];refine bodyPost_ret (AY results132 _ _ (w.1.size+2) (Xj 1) _ rfl (Aa.range sV) underlying162 rfl Yr) rfl ?_;exact⟨Fe 1 v0 ⟨#[]⟩ ⟨#[]⟩,Xo,.inl ⟨sS,rfl⟩,rfl,λV k _ _=>(AM.nil k 0).ji,sQ⟩
 |true=>
  have d:=A.1 rfl;have zP:Hid (CB v):=d;replace yB:=Yw (yB d);replace J:=Yw (J d);replace c:=Yw (c d);replace g:=Yw (g d);replace zT:=Yw (zT d);replace zF:=Yw (zF d);replace yL:=Yw (yL d);replace yM:=Yw (yM d);have s:Hid (Zz W w1):=j;clear A d j
  go_wp2_with (refine wpList_load_mid rfl 100 _ rfl w.1.size 0 rfl [Zg v.wd,Zg v.lim,C1 sa v.ss sc,C1 ta v.E tc,b0,b1,b2,b3,b4,b5,b6,c0,c1,c2,c3,c4,c5] _ (f w1 s).1.range underlying100 rfl Yr ?_);refine(yB w1 (f w1 s).2.2.2).aj ?_;rintro o j ⟨sb,y,ub,zE,T,P,L,qb,n,mb,m,rs,rfl,q,tK⟩
  have⟨vs,yF⟩:=Ae (Bw v (C7 sb v.ss y) (C7 ub v.E zE) T P L (C7 qb v.H n) (C7 mb v.ms m));have yX:vs.length=17/\∀u∈vs,u.oneCell'=true:=by have⟨a,h,_⟩:=q.ji;rw[yF];exact⟨rfl,by rw[h];simp[Bw,oneCell']⟩
  rw[<-yF];have z1:=s.size;have z2:=tK.size;have xW:=Yw (Za yF q);have B:Hid (vs.length=17/\∀u∈vs,u.oneCell'=true):=yX;have xX:Hid (w.1.size+3<=w1.1.size/\w1.1.size<=j.1.size):=⟨Yv,z2⟩;have D:=s.ah (tK.aj z1);have yK:Hid (∀X,Zz j X->∀V k,(∀b∈V,b<w.1.size+3)->Tn V X k->MF v k.1.size k vs):=λX hX=>by rw[yF];exact q.jk xX.1 hX
  have E:Hid (∀X,Zz j X->Aa X w.1.size [Zg v.wd,Zg v.lim,C1 sa v.ss sc,C1 ta v.E tc,b0,b1,b2,b3,b4,b5,b6,c0,c1,c2,c3,c4,c5]/\Aa X (w.1.size+1) (Yc e.kd e.s e.nm e.G e.tx ra e.rf.length rc)/\Aa X (w.1.size+2) EU/\Zz w X):=λX hX=>f X (D.ah (hX.aj D.size));have⟨D0,I⟩:=Ae (dL (Fe 0 v ⟨#[]⟩ ⟨#[]⟩) vs)
  have p:D0.length=22/\∀u∈D0,u.oneCell'=true:=by rw[I];exact MD yX
  have vQ:Hid (prog.built 162 [(1,.agg vs.toArray)]=some D0.toArray):=by show _=some D0.toArray;rw[I];exact Sh yX.1
  have⟨W3,tI⟩:=Ae ((j.alloc (.cells Xk 162)).setCells j.1.size 0 D0.toArray.toList);have hb:=boxed (X:=j) (cs:=D0) (z:=EU) (T:=162) (by rw[p.1];rfl);have e3:W3=(j.alloc (.cells EU.toArray 162)).setCells j.1.size 0 D0:=tI;rw[<-e3]at hb;obtain⟨x3,b3,z3⟩:=hb
  have G:Hid ((j.alloc (.cells Xk 162)).there j.1.size 0 D0.toArray.size/\D0.length=22/\∀x∈D0,x.oneCell'=true):=⟨by rw[show D0.toArray.size=22 from by rw[A1];exact p.1];exact(Aa.new j EU 162).there,p⟩;have A:Hid (Aa W3 j.1.size (dL (Fe 0 v ⟨#[]⟩ ⟨#[]⟩) vs)):=by show Aa W3 j.1.size _;rw[<-I];exact x3
  have d:Hid (Zz j W3):=b3;have sD:=Yw tI;have rG:W3.1.size=j.1.size+1:=z3;clear tI e3 x3 b3 z3 I p q tK yF yX D f s z1 z2;go_upto_region 4 with(first
   |refine Gw rfl 162 _ rfl [(1,.agg vs.toArray)] Yr D0.toArray vQ ?_
   |refine wpList_store_mid rfl 162 _ _ rfl j.1.size 0 D0.toArray rfl rfl G.1 (by rw[A1,G.2.1];kernel_rfl) (all_oneCell_toArray G.2.2) ?_)
  rw[<-sD.o];clear sD vQ G
  as_aux_lemma=>
  obtain⟨p,_⟩:=(E W3 d).1 0 _ rfl;go_wp2_with (refine wpList_load_mid rfl 32 _ rfl (w.1.size+1) 0 rfl (Yc e.kd e.s e.nm e.G e.tx ra e.rf.length rc) _ (E W3 d).2.1.range underlying32 rfl Yr ?_);refine(C W3 (E W3 d).2.2.2).aj ?_;rintro o s ⟨rfl,G⟩;have q:=G.size;have f:Hid (Zz j s):=d.ah (G.aj d.size);have I:=Yw (Aa.same A (G.block _ Yv))
  have vT:Hid (j.1.size<s.1.size):=by show j.1.size<s.1.size;omega
  clear p C A d G q rG;cases hoe:e.ok v.wd with
  |false=>
   have zJ:Hid (Il v e (Fe 1 v ⟨#[]⟩ ⟨#[]⟩)):=.inr ⟨zP,.inl ⟨1,⟨#[]⟩,⟨#[]⟩,.inl ⟨hoe,rfl,rfl,rfl⟩,rfl⟩⟩;have A:=f.o;clear hoe yB J HK c HZ yC g HF zT zF yL yM HL;have⟨⟨k0,g0⟩,_⟩:=ON I B.1;have⟨Y9,d⟩:=D7 s (j.1.size) 0 (Zg 1);have yA:Aa Y9 j.1.size (dL (Fe 1 v ⟨#[]⟩ ⟨#[]⟩) vs):=by rw[d];exact Ni I 1
   have zC:Below j.1.size j Y9:=by rw[d];exact A.setCell (Zx) _
   have C:=Yw d;have zK:=Yw yA;clear d yA A;go_upto_region 6 with fail;rw[<-C.o];clear C k0 g0;have⟨D,hD⟩:∃t:Zj,t=dL (Fe 1 v ⟨#[]⟩ ⟨#[]⟩) vs:=⟨_,rfl⟩;have xH:Hid (Aa Y9 j.1.size D):=by rw[hD];exact zK.o
   have G:=Yw (Kl (E Y9 zC).2.2 (yK Y9 zC) zJ B hD);clear hD zC xW yK E B;go_wp2_with (first
    |refine wpList_load_mid rfl 162 _ rfl j.1.size 0 rfl D _ xH.range underlying162 rfl (by rw[G.1.1];kernel_rfl) ?_
    |refine wpList_store_mid rfl 162 _ _ rfl (w.1.size+2) 0 D.toArray rfl rfl G.2.1 (by rw[A1,G.1.1];kernel_rfl) (all_oneCell_toArray G.1.2) ?_)
   exact bodyPost_ret (AY results132 _ _ (w.1.size+2) D _ rfl (Aa.range G.2.2.1) underlying162 rfl (by rw[G.1.1];kernel_rfl)) rfl G.2.2.2
  |true=>
   have vR:Hid (e.ok v.wd=true):=hoe;replace c:=Yw (c hoe);replace g:=Yw (g hoe);replace HF:=Yw (HF hoe);replace zT:=Yw (zT hoe);replace zF:=Yw (zF hoe);have q:Hid _:=λr U xc Q H N O X=>HZ r U xc Q H N O X zP hoe;clear hoe HZ
   as_aux_lemma=>
   go_upto_region 7 with fail;go_cut [6] (λH wx=>∃(F:Nat) (M:Zj),H=Yy F/\Hid (Aa wx F M/\s.1.size<=F/\Zz s wx/\Kg v e Z wx M))
   case first=>
    have zU:Hid (∀X k,(Aa X w.1.size [Zg v.wd,Zg v.lim,C1 sa v.ss sc,C1 ta v.E tc,b0,b1,b2,b3,b4,b5,b6,c0,c1,c2,c3,c4,c5]/\Aa X (w.1.size+1) (Yc e.kd e.s e.nm e.G e.tx ra e.rf.length rc))->Zz X k->Aa k w.1.size [Zg v.wd,Zg v.lim,C1 sa v.ss sc,C1 ta v.E tc,b0,b1,b2,b3,b4,b5,b6,c0,c1,c2,c3,c4,c5]/\Aa k (w.1.size+1) (Yc e.kd e.s e.nm e.G e.tx ra e.rf.length rc)):=λX k h1 h2=>⟨Aa.A h1.1 h2,Aa.A h1.2 h2⟩
    have vS:Hid (∀X k (V:List Nat),(Aa X w.1.size [Zg v.wd,Zg v.lim,C1 sa v.ss sc,C1 ta v.E tc,b0,b1,b2,b3,b4,b5,b6,c0,c1,c2,c3,c4,c5]/\Aa X (w.1.size+1) (Yc e.kd e.s e.nm e.G e.tx ra e.rf.length rc))->(∀b∈V,s.1.size<=b)->Tn V X k->Aa k w.1.size [Zg v.wd,Zg v.lim,C1 sa v.ss sc,C1 ta v.E tc,b0,b1,b2,b3,b4,b5,b6,c0,c1,c2,c3,c4,c5]/\Aa k (w.1.size+1) (Yc e.kd e.s e.nm e.G e.tx ra e.rf.length rc)):=λX k V h1 h2 h3=>⟨Aa.same h1.1 (h3.block _ h1.1.lt (λh=>by have:=h2 _ h;have:=vT.o;have:=xX.o;omega)),Aa.same h1.2 (h3.block _ h1.2.lt (λh=>by have:=h2 _ h;have:=vT.o;have:=xX.o;omega))⟩
    have tD:Hid (∀X k F,(Aa X w.1.size [Zg v.wd,Zg v.lim,C1 sa v.ss sc,C1 ta v.E tc,b0,b1,b2,b3,b4,b5,b6,c0,c1,c2,c3,c4,c5]/\Aa X (w.1.size+1) (Yc e.kd e.s e.nm e.G e.tx ra e.rf.length rc))->s.1.size<=F->Tn [F] X k->Aa k w.1.size [Zg v.wd,Zg v.lim,C1 sa v.ss sc,C1 ta v.E tc,b0,b1,b2,b3,b4,b5,b6,c0,c1,c2,c3,c4,c5]/\Aa k (w.1.size+1) (Yc e.kd e.s e.nm e.G e.tx ra e.rf.length rc)):=λX k F h1 h2 h3=>vS X k [F] h1 (by simp;exact h2) h3
    have yR:Hid (∀X,Zz s X->Zz w X):=λX hX=>(E X (f.ah (hX.aj f.size))).2.2.2;have tR:Hid (∀X k M,Kg v e Z X M->Zz X k->Kg v e Z k M):=λX k M h1 h2=>by
     rcases h1 with h|⟨r,U,xc,Q,H,N,O,h3,h4,h5⟩
     .exact .inl h
     .exact .inr ⟨r,U,xc,Q,H,N,O,h3,h4,yC.o _ _ _ _ _ _ _ _ h5 _ h2⟩
    have xQ:Hid (∀X F M,s.1.size<=F->Zz s X->X.1[F]?=some (.cells z12.toArray 36 (0,0))->Kg v e Z X M->Hid (Aa (X.setCells F 0 M.toArray.toList) F M/\s.1.size<=F/\Zz s (X.setCells F 0 M.toArray.toList)/\Kg v e Z (X.setCells F 0 M.toArray.toList) M)):=λX F M h1 h2 h3 h4=>by
     have t:=AV F M 0 X;refine⟨(Aa.jo (l:=z12) h3).ay M (by rw[h4.small.1];rfl),h1,h2.ah (t.A h2.size (by simp;exact h1)),?_⟩;rcases h4 with h|⟨r,U,xc,Q,H,N,O,h5,h6,h7⟩
     .exact .inl h
     .exact .inr ⟨r,U,xc,Q,H,N,O,h5,h6,q.o _ _ _ _ _ _ _ _ h5 h7 F _ h3 t⟩
    refine wp_region_held_drew (S:=λX=>Aa X w.1.size [Zg v.wd,Zg v.lim,C1 sa v.ss sc,C1 ta v.E tc,b0,b1,b2,b3,b4,b5,b6,c0,c1,c2,c3,c4,c5]/\Aa X (w.1.size+1) (Yc e.kd e.s e.nm e.G e.tx ra e.rf.length rc)) Yr (show _/\_ from⟨(E s f).1,(E s f).2.1⟩) (λhS=> ?_);refine BZ 0 (Yx w.1.size 4) ?_;try simp only[Act.put,BL]
    refine Fl 1 (.agg #[b0,b1,b2,b3,b4,b5,b6]) rfl (by exact yieldsIf_load_mid Yp 27 _ rfl (w.1.size) 4 rfl [b0,b1,b2,b3,b4,b5,b6] _ (λX h=>Aa.gu [Zg v.wd,Zg v.lim,C1 sa v.ss sc,C1 ta v.E tc] [b0,b1,b2,b3,b4,b5,b6] [c0,c1,c2,c3,c4,c5] h.1) underlying27 rfl Yr) ?_;try simp only[Act.put,BL]
    refine Fl 3 (.agg (Yd e.kd e.s e.nm e.G e.tx ra e.rf.length rc)) rfl (by exact yieldsIf_load_mid Yp 32 _ rfl (w.1.size+1) 0 rfl (Yc e.kd e.s e.nm e.G e.tx ra e.rf.length rc) _ (λX h=>h.2.range) underlying32 rfl Yr) ?_;try simp only[Act.put,BL]
    refine wpAnyH_ready (rs:=[2,5]) Yr Yu ?_;refine AllReadyH.cons (o:=⟨some 25,.call ⟨.value (.func 31),#[.tmp 24],#[27]⟩,27,Gd,#[DO 1],none⟩) rfl (λK i=> ?_) (AllReadyH.cons (o:=⟨some 6,.alloc 36,0,Gd,#[],none⟩) rfl (λK i=> ?_) AllReadyH.nil)
    .go_simp;refine(J s.drew (yR _ Ad.drew)).aj ?_;rintro o w5 ⟨cs,V,rfl,xI,tH,vW⟩;try go_simp
     refine i.out _ _ (zU _ _ hS xI) (λyD=> ?_);clear i K;try simp only[Act.put,BL]
     have zX:Below s.1.size s w5:=(Below.refl s.1.size s).drew.ah xI;have yO:∀b∈V,s.1.size<=b/\b<w5.1.size:=tH;refine wpAnyH_ready (rs:=[4,5]) Yr Yu ?_
     refine AllReadyH.cons (o:=⟨some 27,.call ⟨.value (.func 30),#[.tmp 25,.tmp 26],#[27,32]⟩,36,Gd,#[DO 2,DO 3,⟨2,.chain⟩],none⟩) rfl (λK i=> ?_) (AllReadyH.cons (o:=⟨some 6,.alloc 36,0,Gd,#[],none⟩) rfl (λK i=> ?_) AllReadyH.nil)
     .go_simp;refine(c cs V w5 (yR _ zX) vW).aj ?_;rintro o w6 ⟨yE,M,rfl,zB⟩;have yW:=zB.small.1;have vG:=zB.small.2;try go_simp
      refine i.out _ _ (vS _ _ V yD (λb hb=>(yO b hb).1) yE) (λzY=> ?_);clear i K;try simp only[Act.put,BL]
      have yT:Below s.1.size s w6:=zX.ah (yE.A zX.size (λb hb=>(yO b hb).1));refine CL 5 (λK i=> ?_);go_simp;refine i.out _ _ (zU _ _ zY (Zy)) (λyU=> ?_);clear i K;try simp only[Act.put,BL]
      have nB:(w6.alloc (.cells z12.toArray 36)).1[w6.1.size]?=some (.cells z12.toArray 36 (0,0)):=heap_alloc_new _ _;have bB:Below w6.1.size w6 (w6.alloc (.cells z12.toArray 36)):=(Zy);refine CL 6 (λK i=> ?_);rw[if_pos Yp]
      refine wp_store_mid 36 _ _ rfl w6.1.size 0 M.toArray rfl rfl (by rw[show M.toArray.size=12 from by rw[A1];exact yW];exact(Aa.jo (l:=z12) nB).there) (by rw[A1,yW];kernel_rfl) (all_oneCell_toArray vG) ?_;refine i.out _ _ (tD _ _ _ yU yT.size (AV _ _ _ _)) (λvD=> ?_);clear i K;try simp only[Act.put]
      refine wpAnyH_done Yr ?_ _;go_wp2_with fail;go_meet;exact⟨w6.1.size,M,rfl,xQ.o _ w6.1.size M yT.size (yT.ah (bB.aj yT.size)) nB (tR _ _ _ zB bB)⟩
     .go_simp;refine i.out _ _ (zU _ _ yD (Zy)) (λzY=> ?_);clear i K;try simp only[Act.put,BL]
      have bB:Below w5.1.size w5 (w5.alloc (.cells z12.toArray 36)):=(Zy);have tG:=zX.ah (bB.aj zX.size);refine CL 4 (λK i=> ?_);go_simp;refine(c cs V _ (yR _ tG) (HK _ _ _ _ vW bB)).aj ?_;rintro o w6 ⟨yE,M,rfl,zB⟩;have yW:=zB.small.1;have vG:=zB.small.2;try go_simp
      refine i.out _ _ (vS _ _ V zY (λb hb=>(yO b hb).1) yE) (λyU=> ?_);clear i K;try simp only[Act.put,BL]
      have yT:Below s.1.size s w6:=tG.ah (yE.A tG.size (λb hb=>(yO b hb).1));have nB:w6.1[w5.1.size]?=some (.cells z12.toArray 36 (0,0)):=(yE.block w5.1.size Yu (λh=>Dz (yO _ h).2)).ah (show(w5.alloc (.cells z12.toArray 36)).1[w5.1.size]?=_ from heap_alloc_new _ _);refine CL 6 (λK i=> ?_);rw[if_pos Yp]
      refine wp_store_mid 36 _ _ rfl w5.1.size 0 M.toArray rfl rfl (by rw[show M.toArray.size=12 from by rw[A1];exact yW];exact(Aa.jo (l:=z12) nB).there) (by rw[A1,yW];kernel_rfl) (all_oneCell_toArray vG) ?_;refine i.out _ _ (tD _ _ _ yU zX.size (AV _ _ _ _)) (λvD=> ?_);clear i K;try simp only[Act.put]
      refine wpAnyH_done Yr ?_ _;go_wp2_with fail;go_meet;exact⟨w5.1.size,M,rfl,xQ.o w6 w5.1.size M zX.size yT nB zB⟩
    .go_simp;refine i.out _ _ (zU _ _ hS (Zy)) (λyD=> ?_);clear i K;try simp only[Act.put,BL]
     have bB:Below s.1.size s (s.alloc (.cells z12.toArray 36)).drew:=(Zy).drew;refine CL 2 (λK i=> ?_);go_simp;refine(J _ (yR _ bB)).aj ?_;rintro o w5 ⟨cs,V,rfl,xI,tH,vW⟩;try go_simp
     refine i.out _ _ (zU _ _ yD xI) (λzY=> ?_);clear i K;try simp only[Act.put,BL]
     have zX:Below s.1.size s w5:=bB.ah (xI.aj bB.size);have yO:∀b∈V,s.1.size<b/\b<w5.1.size:=λb hb=>by have:=tH b hb;simp at this;omega
     refine CL 4 (λK i=> ?_);go_simp;refine(c cs V w5 (yR _ zX) vW).aj ?_;rintro o w6 ⟨yE,M,rfl,zB⟩;have yW:=zB.small.1;have vG:=zB.small.2;try go_simp
     refine i.out _ _ (vS _ _ V zY (λb hb=>Dz (yO b hb)) yE) (λyU=> ?_);clear i K;try simp only[Act.put,BL]
     have yT:Below s.1.size s w6:=zX.ah (yE.A zX.size (λb hb=>Dz (yO b hb)));have nB:w6.1[s.1.size]?=some (.cells z12.toArray 36 (0,0)):=(yE.block s.1.size (by have:=xI.size;simp at this;omega) (λh=>Dz (yO _ h).1)).ah ((xI.block s.1.size Yu).ah (show(s.alloc (.cells z12.toArray 36)).1[s.1.size]?=_ from heap_alloc_new _ _))
     refine CL 6 (λK i=> ?_);rw[if_pos Yp];refine wp_store_mid 36 _ _ rfl s.1.size 0 M.toArray rfl rfl (by rw[show M.toArray.size=12 from by rw[A1];exact yW];exact(Aa.jo (l:=z12) nB).there) (by rw[A1,yW];kernel_rfl) (all_oneCell_toArray vG) ?_;refine i.out _ _ (tD _ _ _ yU (Zx) (AV _ _ _ _)) (λvD=> ?_);clear i K;try simp only[Act.put]
     refine wpAnyH_done Yr ?_ _;go_wp2_with fail;go_meet;exact⟨s.1.size,M,rfl,xQ.o w6 s.1.size M (Zx) yT nB zB⟩
   case rest=>
   revert wc;intro w7 hcut;obtain⟨F,M,rfl,hcut⟩:=hcut;have⟨xC,rC,p,sJ⟩:=hcut.o;have z7:=p.size;have yQ:Hid (Zz j w7):=f.ah (p.aj f.size);replace I:=Yw (Aa.same I (p.block _ vT));have vA:Hid (j.1.size<F/\F<w7.1.size):=⟨Dz vT.o,xC.js sJ.small.1⟩;clear hcut p c J HK q f z7 rC;rcases sJ with⟨c,p,q,xO,rfl⟩|⟨r,U,xc,Q,H,N,O,J,rfl,hz⟩
   .have rB:(c==0)=false:=by have:=Ep.code xO;simp;omega
    have zJ:Hid (Il v e (Fe c v p q)):=.inr ⟨zP,.inl ⟨c,p,q,.inr ⟨vR,.inl xO⟩,rfl⟩⟩;obtain⟨f,_⟩:=xC 0 _ rfl;obtain⟨rK,_⟩:=xC 10 _ rfl;obtain⟨rL,_⟩:=xC 11 _ rfl;have⟨⟨k0,g0⟩,⟨rI,sY⟩,rJ,sZ⟩:=ON I B.1;have⟨Y9,d⟩:=Ae (((w7.setCell (Zd (j.1.size) 0) (Zg c)).setCell (Zd (j.1.size) 20) (C4 p)).setCell (Zd (j.1.size) 21) (C4 q))
    have yA:Aa Y9 j.1.size (dL (Fe c v p q) vs):=by rw[d];exact ZG I B.1 c p q
    have zC:Below j.1.size j Y9:=by rw[d];exact((yQ.setCell (Zx) _).setCell (Zx) _).setCell (Zx) _
    have rE:F≠j.1.size:=Dz vA.o
    have C:=Yw d;have zK:=Yw yA;clear d yA xC xO yB yC g HF zT zF yL yM HL;go_upto_region 12 with fail;rw[<-C.o];clear C k0 g0 rI sY rJ sZ f rK rL rB rE;have⟨D,hD⟩:∃t:Zj,t=dL (Fe c v p q) vs:=⟨_,rfl⟩;have xH:Hid (Aa Y9 j.1.size D):=by rw[hD];exact zK.o
    have G:=Yw (Kl (E Y9 zC).2.2 (yK Y9 zC) zJ B hD);clear hD zC xW yK E B;go_wp2_with (first
     |refine wpList_load_mid rfl 162 _ rfl j.1.size 0 rfl D _ xH.range underlying162 rfl (by rw[G.1.1];kernel_rfl) ?_
     |refine wpList_store_mid rfl 162 _ _ rfl (w.1.size+2) 0 D.toArray rfl rfl G.2.1 (by rw[A1,G.1.1];kernel_rfl) (all_oneCell_toArray G.1.2) ?_)
    exact bodyPost_ret (AY results132 _ _ (w.1.size+2) D _ rfl (Aa.range G.2.2.1) underlying162 rfl (by rw[G.1.1];kernel_rfl)) rfl G.2.2.2
   have xL:=Yw xC;have Hy:Hid (e.yes v r):=J;have vC:Hid (Z r U xc Q H N O w7):=hz;obtain⟨f,_⟩:=xC 0 _ rfl;clear xC J hz
   as_aux_lemma=>
   go_upto_region 13 with fail;clear f;go_cut [51] (λf wx=>f=.bool (e.fw v r)/\Hid (Zz w7 wx))
   case first=>
    by_cases hk1:e.kd=1
    .have tM:(e.kd==1)=true:=by simp[hk1]
     have tC:Hid (e.fw v r=decide (v.lim<DK v.wd r.ks)):=by show e.fw v r=_;simp[Ed.fw,hk1]
     replace g:=Yw (g hk1 r U xc Q H N O w7.drew Hy (yC _ _ _ _ _ _ _ _ vC _ Ad.drew));clear hk1
     refine wp_region_held_drew (S:=λX=>Aa X (w.1.size+1) (Yc e.kd e.s e.nm e.G e.tx ra e.rf.length rc)/\Aa X w.1.size [Zg v.wd,Zg v.lim,C1 sa v.ss sc,C1 ta v.E tc,b0,b1,b2,b3,b4,b5,b6,c0,c1,c2,c3,c4,c5]/\Aa X F [Ze,Zg v.wd,Zg r.D,Zg r.F,Zg r.C,C1 U r.ks xc,C1 Q r.ps H,C1 N r.ls O,C4 r.j,Zg r.le,Zc,Zc]) Yr (show _/\_/\_ from⟨(E w7 yQ).2.1,(E w7 yQ).1,xL⟩) (λhS=> ?_)
     refine BZ 0 (Yy (w.1.size+1)) ?_;try simp only[Act.put,BL]
     refine Fl 1 (Zg e.kd) rfl (by exact Or.inl ⟨Yp,λX hX=>by have h1:=(hX.1 0 _ rfl).1;go_simp⟩) ?_;try simp only[Act.put,BL]
     refine BZ 2 (.bool true) ?_;try simp only[Act.put,BL]
     refine BZ 3 (.bool true) ?_;try simp only[Act.put,BL]
     refine BZ 4 (Yx F 1) ?_;try simp only[Act.put,BL]
     refine Fl 5 (.agg (C9 v.wd r.D r.F r.C U r.ks xc Q r.ps H N r.ls O)) rfl (by exact yieldsIf_load_mid Yp 27 _ rfl (F) 1 rfl (C8 v.wd r.D r.F r.C U r.ks xc Q r.ps H N r.ls O) _ (λX h=>Aa.gu [Ze] (C8 v.wd r.D r.F r.C U r.ks xc Q r.ps H N r.ls O) [C4 r.j,Zg r.le,Zc,Zc] h.2.2) underlying27 rfl Yr) ?_
     try simp only[Act.put,BL]
     refine BZ 7 (Yx w.1.size 1) ?_;try simp only[Act.put,BL]
     refine Fl 8 (Zg v.lim) rfl (by exact Or.inl ⟨Yp,λX hX=>by have h1:=(hX.2.1 1 _ rfl).1;go_simp⟩) ?_;try simp only[Act.put,BL]
     refine CL 6 (λK i=> ?_);rw[if_pos Yp];go_simp;refine g.Ai ?_;rintro o w8 ⟨rfl,tA⟩;have rA:Below w7.1.size w7 w8:=(Below.refl w7.1.size w7).drew.ah tA;try go_simp
     refine i.out _ _ ⟨Aa.A hS.1 tA,Aa.A hS.2.1 tA,Aa.A hS.2.2 tA⟩ (λyD=> ?_);clear i K;try simp only[Act.put,BL]
     refine BZ 9 (.bool (decide (v.lim<DK v.wd r.ks))) ?_;try simp only[Act.put,BL]
     refine BZ 10 (.bool (decide (v.lim<DK v.wd r.ks))) ?_;try simp only[Act.put,BL]
     refine wpAnyH_done Yr ?_ _;go_wp2_with fail;go_meet;exact⟨by rw[tC.o],rA⟩
    .have tM:(e.kd==1)=false:=D2 hk1
     have tC:Hid (e.fw v r=false):=by show e.fw v r=_;simp[Ed.fw,hk1]
     clear hk1
     refine wp_region_held_drew (S:=λX=>Aa X (w.1.size+1) (Yc e.kd e.s e.nm e.G e.tx ra e.rf.length rc)/\Aa X w.1.size [Zg v.wd,Zg v.lim,C1 sa v.ss sc,C1 ta v.E tc,b0,b1,b2,b3,b4,b5,b6,c0,c1,c2,c3,c4,c5]/\Aa X F [Ze,Zg v.wd,Zg r.D,Zg r.F,Zg r.C,C1 U r.ks xc,C1 Q r.ps H,C1 N r.ls O,C4 r.j,Zg r.le,Zc,Zc]) Yr (show _/\_/\_ from⟨(E w7 yQ).2.1,(E w7 yQ).1,xL⟩) (λhS=> ?_)
     refine BZ 0 (Yy (w.1.size+1)) ?_;try simp only[Act.put,BL]
     refine Fl 1 (Zg e.kd) rfl (by exact Or.inl ⟨Yp,λX hX=>by have h1:=(hX.1 0 _ rfl).1;go_simp⟩) ?_;try simp only[Act.put,BL]
     refine BZ 2 (.bool false) ?_;try simp only[Act.put,BL]
     refine BZ 3 (.bool false) ?_;try simp only[Act.put,BL]
     refine Rl 4 ?_;try simp only[Act.put,BL]
     refine Rl 5 ?_;try simp only[Act.put,BL]
     refine Rl 6 ?_;try simp only[Act.put,BL]
     refine Rl 7 ?_;try simp only[Act.put,BL]
     refine Rl 8 ?_;try simp only[Act.put,BL]
     refine Rl 9 ?_;try simp only[Act.put,BL]
     refine BZ 10 (.bool false) ?_;try simp only[Act.put,BL]
     refine wpAnyH_done Yr ?_ _;go_wp2_with fail;go_meet;exact⟨by rw[tC.o],(Below.refl w7.1.size w7).drew⟩
   case rest=>
   revert wc;intro f hcut;obtain⟨rfl,J⟩:=hcut;have rM:=J.size;have zA:Hid (Zz j f):=yQ.ah (J.aj yQ.size);replace I:=Yw (Aa.same I (J.block _ (Dz vA.o)));replace xL:Hid (Aa f F [Ze,Zg v.wd,Zg r.D,Zg r.F,Zg r.C,C1 U r.ks xc,C1 Q r.ps H,C1 N r.ls O,C4 r.j,Zg r.le,Zc,Zc]):=Aa.A xL J
   replace vC:Hid (Z r U xc Q H N O f):=yC _ _ _ _ _ _ _ _ vC _ J;have xS:Hid (j.1.size<F/\F<f.1.size):=⟨vA.1,Dz vA.o⟩;clear J g yQ vA rM;cases hbg:e.fw v r with
   |true=>
    have zJ:Hid (Il v e (Fe 8 v ⟨#[]⟩ ⟨#[]⟩)):=.inr ⟨zP,.inl ⟨8,⟨#[]⟩,⟨#[]⟩,.inr ⟨vR,.inr ⟨rfl,rfl,r,Hy,.inl ⟨hbg,rfl⟩⟩⟩,rfl⟩⟩;have A:=zA.o;clear hbg yB yC HF zT zF yL yM HL;have⟨⟨k0,g0⟩,_⟩:=ON I B.1;have⟨Y9,d⟩:=D7 f (j.1.size) 0 (Zg 8);have yA:Aa Y9 j.1.size (dL (Fe 8 v ⟨#[]⟩ ⟨#[]⟩) vs):=by rw[d];exact Ni I 8
    have zC:Below j.1.size j Y9:=by rw[d];exact A.setCell (Zx) _
    have C:=Yw d;have zK:=Yw yA;clear d yA A;go_upto_region 15 with fail;rw[<-C.o];clear C k0 g0;have⟨D,hD⟩:∃t:Zj,t=dL (Fe 8 v ⟨#[]⟩ ⟨#[]⟩) vs:=⟨_,rfl⟩;have xH:Hid (Aa Y9 j.1.size D):=by rw[hD];exact zK.o
    have G:=Yw (Kl (E Y9 zC).2.2 (yK Y9 zC) zJ B hD);clear hD zC xW yK E B;go_wp2_with (first
     |refine wpList_load_mid rfl 162 _ rfl j.1.size 0 rfl D _ xH.range underlying162 rfl (by rw[G.1.1];kernel_rfl) ?_
     |refine wpList_store_mid rfl 162 _ _ rfl (w.1.size+2) 0 D.toArray rfl rfl G.2.1 (by rw[A1,G.1.1];kernel_rfl) (all_oneCell_toArray G.1.2) ?_)
    exact bodyPost_ret (AY results132 _ _ (w.1.size+2) D _ rfl (Aa.range G.2.2.1) underlying162 rfl (by rw[G.1.1];kernel_rfl)) rfl G.2.2.2
   |false=>
   have J:Hid (¬e.jq v r):=by show ¬(e.fw v r=true);rw[hbg];simp
   clear hbg;obtain⟨sL,_⟩:=(E f zA).1 2 _ rfl;obtain⟨sM,_⟩:=(E f zA).1 3 _ rfl;have⟨sI,sK⟩:=HL.o;have sF:=yM.2;by_cases hfull:v.ss.length+v.E.length=4000
   .have zJ:Hid (Il v e (Fe 9 v ⟨#[]⟩ ⟨#[]⟩)):=.inr ⟨zP,.inl ⟨9,⟨#[]⟩,⟨#[]⟩,.inr ⟨vR,.inr ⟨rfl,rfl,r,Hy,.inr ⟨J,hfull,rfl⟩⟩⟩,rfl⟩⟩;have g:¬((v.ss.length:Int)+(v.E.length:Int)<4000):=Yv
    have A:=zA.o;clear yB yC HF zT zF yL yM HL;go_upto_region 17 with fail;clear sL sM g hfull sI sK sF;have⟨⟨k0,g0⟩,_⟩:=ON I B.1;have⟨Y9,d⟩:=D7 f (j.1.size) 0 (Zg 9);have yA:Aa Y9 j.1.size (dL (Fe 9 v ⟨#[]⟩ ⟨#[]⟩) vs):=by rw[d];exact Ni I 9
    have zC:Below j.1.size j Y9:=by rw[d];exact A.setCell (Zx) _
    have C:=Yw d;have zK:=Yw yA;clear d yA A;go_upto_region 18 with fail;rw[<-C.o];clear C k0 g0;have⟨D,hD⟩:∃t:Zj,t=dL (Fe 9 v ⟨#[]⟩ ⟨#[]⟩) vs:=⟨_,rfl⟩;have xH:Hid (Aa Y9 j.1.size D):=by rw[hD];exact zK.o
    have G:=Yw (Kl (E Y9 zC).2.2 (yK Y9 zC) zJ B hD);clear hD zC xW yK E B;go_wp2_with (first
     |refine wpList_load_mid rfl 162 _ rfl j.1.size 0 rfl D _ xH.range underlying162 rfl (by rw[G.1.1];kernel_rfl) ?_
     |refine wpList_store_mid rfl 162 _ _ rfl (w.1.size+2) 0 D.toArray rfl rfl G.2.1 (by rw[A1,G.1.1];kernel_rfl) (all_oneCell_toArray G.1.2) ?_)
    exact bodyPost_ret (AY results132 _ _ (w.1.size+2) D _ rfl (Aa.range G.2.2.1) underlying162 rfl (by rw[G.1.1];kernel_rfl)) rfl G.2.2.2
   have g:(v.ss.length:Int)+(v.E.length:Int)<4000:=Yv
   have tS:Hid (Aaz v e r):=⟨vR,Hy,J,hfull⟩;clear J hfull
   as_aux_lemma=>
   go_upto_region 19 with fail;clear sL sM g sF sI sK;clear xW B I yK;go_wp2_with (refine wpList_load_mid rfl 100 _ rfl w.1.size 0 rfl [Zg v.wd,Zg v.lim,C1 sa v.ss sc,C1 ta v.E tc,b0,b1,b2,b3,b4,b5,b6,c0,c1,c2,c3,c4,c5] _ (E f zA).1.range underlying100 rfl Yr ?_);refine(yB f (E f zA).2.2.2).aj ?_
   rintro o d ⟨sb,y,ub,zE,T,P,L,qb,n,mb,m,rs,rfl,I,xD⟩;have⟨C,hC⟩:=Ae (Bw v (C7 sb v.ss y) (C7 ub v.E zE) T P L (C7 qb v.H n) (C7 mb v.ms m));have vV:C.length=17/\∀u∈C,u.oneCell'=true:=by have⟨a,h,_⟩:=I.ji;rw[hC];exact⟨rfl,by rw[h];simp[Bw,oneCell']⟩
   rw[<-hC];have sO:=xD.size;have⟨J,xT⟩:=Ae ((d.alloc (.cells Xp 100)).setCells d.1.size 0 C.toArray.toList);have hb:=boxed (X:=d) (cs:=C) (z:=Xo) (T:=100) (by rw[vV.1];rfl);have sE:J=(d.alloc (.cells Xo.toArray 100)).setCells d.1.size 0 C:=xT;rw[<-sE]at hb;obtain⟨tO,tE,vP⟩:=hb
   have B:Hid ((d.alloc (.cells Xp 100)).there d.1.size 0 C.toArray.size/\C.length=17/\∀x∈C,x.oneCell'=true):=⟨by rw[show C.toArray.size=17 from by rw[A1];exact vV.1];exact(Aa.new d Xo 100).there,vV⟩
   have zR:Hid (Aa J d.1.size [Zg v.wd,Zg v.lim,C7 sb v.ss y,C7 ub v.E zE,Zg v.O,Zg v.D,Zg v.F,Zg v.C,T,P,L,Zg v.M,C7 qb v.H n,C7 mb v.ms m,Zg v.U,Zg v.V,Zg v.ro]):=by show Aa J d.1.size [Zg v.wd,Zg v.lim,C7 sb v.ss y,C7 ub v.E zE,Zg v.O,Zg v.D,Zg v.F,Zg v.C,T,P,L,Zg v.M,C7 qb v.H n,C7 mb v.ms m,Zg v.U,Zg v.V,Zg v.ro];rw[hC]at tO;exact tO
   have A:=xD.ah (tE.aj xD.size);have zI:Hid (Zz j J):=zA.ah (A.aj zA.size);have zH:Hid (AM J f.1.size (C7 sb v.ss y) (C7 ub v.E zE) T P L (C7 qb v.H n) (C7 mb v.ms m) rs v/\∀g∈DZ (C7 sb v.ss y) (C7 ub v.E zE) T P L (C7 qb v.H n) (C7 mb v.ms m) rs,g<d.1.size):=⟨I.A tE,I.dj⟩
   have zV:Hid (w.1.size+3<=j.1.size/\j.1.size<F/\F<f.1.size/\f.1.size<=d.1.size/\J.1.size=d.1.size+1):=⟨Dz xX.o,xS.1,xS.2,sO,vP⟩;have zO:Hid (Zz f J):=A;have x:=Yw xT;clear xT sE tO tE vP sO hC vV I xD A yB xS xX
   go_upto_region 20 with(refine wpList_store_mid rfl 100 _ _ rfl d.1.size 0 C.toArray rfl rfl B.1 (by rw[A1,B.2.1];kernel_rfl) (all_oneCell_toArray B.2.2) ?_);rw[<-x.o];clear x B
   as_aux_lemma=>
   have⟨et,A⟩:=Ae (e.cz v.wd);rw[<-A]at HF;have⟨yG,vI⟩:=Ae (v.E++[et]);have⟨I,vJ⟩:=Ae yG.length;have sC:Hid (yG=v.E++[e.cz v.wd]/\I=yG.length):=⟨by rw[vI,A],vJ⟩;have sB:Hid (yG=v.E++[et]/\I=yG.length):=⟨vI,vJ⟩;clear A vI vJ;simp only[Act.put]
   go_cut [] (λwx=>∃(A:Zk) (B:Nat),Hid (Aa wx d.1.size [Zg v.wd,Zg v.lim,C7 sb v.ss y,C3 A I B,Zg v.O,Zg v.D,Zg v.F,Zg v.C,T,P,L,Zg v.M,C7 qb v.H n,C7 mb v.ms m,Zg v.U,Zg v.V,Zg v.ro]/\Zz f wx/\J.1.size<=wx.1.size/\Ar wx f.1.size (C7 sb v.ss y) v.ss/\Ar wx f.1.size (C3 A I B) yG/\Ar wx f.1.size (C7 qb v.H n) v.H/\Ar wx f.1.size (C7 mb v.ms m) v.ms/\∀g,Ap (C3 A I B)=some g->g≠d.1.size))
   case first=>
    have zU:Hid (∀X k,(Aa X w.1.size [Zg v.wd,Zg v.lim,C1 sa v.ss sc,C1 ta v.E tc,b0,b1,b2,b3,b4,b5,b6,c0,c1,c2,c3,c4,c5]/\Aa X (w.1.size+1) (Yc e.kd e.s e.nm e.G e.tx ra e.rf.length rc))->Zz X k->Aa k w.1.size [Zg v.wd,Zg v.lim,C1 sa v.ss sc,C1 ta v.E tc,b0,b1,b2,b3,b4,b5,b6,c0,c1,c2,c3,c4,c5]/\Aa k (w.1.size+1) (Yc e.kd e.s e.nm e.G e.tx ra e.rf.length rc)):=λX k h1 h2=>⟨Aa.A h1.1 h2,Aa.A h1.2 h2⟩
    have yR:Hid (∀X,Zz J X->Zz w X):=λX hX=>(E X (zI.ah (hX.aj zI.size))).2.2.2
    have tU:Hid (∀X,Zz J X->∃(A:Zk) (B:Nat) (Y:Zh),(Builtin.append_ #[28,28] 28 #[C7 ub v.E zE,Yz X.1.size 1 1]).run prog (X.alloc (.cells #[C4 et] 9))=.ok (C3 A I B) Y/\(Aa Y w.1.size [Zg v.wd,Zg v.lim,C1 sa v.ss sc,C1 ta v.E tc,b0,b1,b2,b3,b4,b5,b6,c0,c1,c2,c3,c4,c5]/\Aa Y (w.1.size+1) (Yc e.kd e.s e.nm e.G e.tx ra e.rf.length rc))/\(Y.cell? (Zd (d.1.size) 3)=some (C7 ub v.E zE)/\Y.frozen? ⟨d.1.size,3,none⟩=false)/\(Aa (Y.setCell (Zd (d.1.size) 3) (C3 A I B)) w.1.size [Zg v.wd,Zg v.lim,C1 sa v.ss sc,C1 ta v.E tc,b0,b1,b2,b3,b4,b5,b6,c0,c1,c2,c3,c4,c5]/\Aa (Y.setCell (Zd (d.1.size) 3) (C3 A I B)) (w.1.size+1) (Yc e.kd e.s e.nm e.G e.tx ra e.rf.length rc))/\Hid (Aa (Y.setCell (Zd (d.1.size) 3) (C3 A I B)) d.1.size [Zg v.wd,Zg v.lim,C7 sb v.ss y,C3 A I B,Zg v.O,Zg v.D,Zg v.F,Zg v.C,T,P,L,Zg v.M,C7 qb v.H n,C7 mb v.ms m,Zg v.U,Zg v.V,Zg v.ro]/\Zz f (Y.setCell (Zd (d.1.size) 3) (C3 A I B))/\J.1.size<=(Y.setCell (Zd (d.1.size) 3) (C3 A I B)).1.size/\Ar (Y.setCell (Zd (d.1.size) 3) (C3 A I B)) f.1.size (C7 sb v.ss y) v.ss/\Ar (Y.setCell (Zd (d.1.size) 3) (C3 A I B)) f.1.size (C3 A I B) yG/\Ar (Y.setCell (Zd (d.1.size) 3) (C3 A I B)) f.1.size (C7 qb v.H n) v.H/\Ar (Y.setCell (Zd (d.1.size) 3) (C3 A I B)) f.1.size (C7 mb v.ms m) v.ms/\∀g,Ap (C3 A I B)=some g->g≠d.1.size)):=λX hX=>by
     have rR:=hX.size;have hz:=zV.o;have⟨vI,vJ⟩:=sB.o;have vZ:=E X (zI.ah (hX.aj zI.size));have hA:=zH.1.A hX;have bA:Below X.1.size X (X.alloc (.cells #[C4 et] 9)):=(Zy);obtain⟨V',Y,hr,hO,x,hk⟩:=Kz (X.alloc (.cells #[C4 et] 9)) f.1.size (C7 ub v.E zE) v.E (hA.u.A bA) ⟨X.1.size,0,none⟩ 1 et (by simp[go_sem]) (Dz HL.2) Yt 28
     rw[<-vI]at hO;obtain⟨A,B,rfl,_⟩:=hO.row;rw[<-vJ]at hr hO hk;have rP:=hA.u.g (g:=ub) rfl;have rQ:ub<d.1.size:=zH.2 ub (by unfold DZ;simp[Ap]);have tY:Tn [ub] X Y:=((Tn.of (V:=[]) bA).aj Yu).ah (Tn.grown x Yu);have tZ:Tn [d.1.size] Y (Y.setCell (Zd (d.1.size) 3) (C3 A I B)):=Tn.set _ _ _ _ Yu
     have s1:Aa Y w.1.size [Zg v.wd,Zg v.lim,C1 sa v.ss sc,C1 ta v.E tc,b0,b1,b2,b3,b4,b5,b6,c0,c1,c2,c3,c4,c5]/\Aa Y (w.1.size+1) (Yc e.kd e.s e.nm e.G e.tx ra e.rf.length rc):=⟨Aa.same vZ.1 (tY.block _ vZ.1.lt Yt),Aa.same vZ.2.1 (tY.block _ vZ.2.1.lt Yt)⟩;have xo:=Aa.A zR hX;have xY:=Aa.same xo (tY.block _ xo.lt Yt)
     have vF:∀g,Ap (C3 A I B)=some g->g≠d.1.size:=λg yV=>by
      rcases hk with h|h
      .rw[h]at yV;have:ub=g:=A4 yV;omega
      .rw[h]at yV;have:_=g:=A4 yV;simp at this;omega
     have tJ:=hA.ap
     have xU:∀{R:D4} {l:Zl},Ar X f.1.size R l->(∀g,Ap R=some g->g∈DZ (C7 sb v.ss y) (C7 ub v.E zE) T P L (C7 qb v.H n) (C7 mb v.ms m) rs)->Ap R≠some ub->Ar (Y.setCell (Zd (d.1.size) 3) (C3 A I B)) f.1.size R l:=λh1 h2 h3=>(h1.K tY (λg yV xN=>h3 (by simp at xN;rw[yV,xN]))).K tZ (λg yV xN=>by have:=zH.2 g (h2 g yV);simp at xN;omega)
     have bY:Below f.1.size f Y:=(zO.ah (hX.aj zO.size)).ah (tY.A Yv Yt)
     exact⟨A,B,Y,hr,s1,xY 3 _ rfl,⟨Aa.same s1.1 (tZ.block _ s1.1.lt Yt),Aa.same s1.2 (tZ.block _ s1.2.lt Yt)⟩,xY.set 3 _,bY.ah (tZ.A bY.size Yt),by have:=tY.size;simp;omega,xU hA.s (λg h=>by unfold DZ;rw[h];simp) (tJ.1 ub rfl),hO.K tZ (λg h=>by have:=vF g h;simp;omega),xU hA.q (λg h=>by unfold DZ;rw[h];simp) (tJ.2 ub rfl).1,xU hA.m (λg h=>by unfold DZ;rw[h];simp) (tJ.2 ub rfl).2,vF⟩
    refine wp_region_held_drew (S:=λX=>Aa X w.1.size [Zg v.wd,Zg v.lim,C1 sa v.ss sc,C1 ta v.E tc,b0,b1,b2,b3,b4,b5,b6,c0,c1,c2,c3,c4,c5]/\Aa X (w.1.size+1) (Yc e.kd e.s e.nm e.G e.tx ra e.rf.length rc)) Yr (show _/\_ from⟨(E J zI).1,(E J zI).2.1⟩) (λhS=> ?_);refine BZ 0 (Yx d.1.size 2) ?_;try simp only[Act.put,BL]
    refine BZ 1 (Yx d.1.size 3) ?_;try simp only[Act.put,BL]
    refine Fl 3 (.agg (Yd e.kd e.s e.nm e.G e.tx ra e.rf.length rc)) rfl (by exact yieldsIf_load_mid Yp 32 _ rfl (w.1.size+1) 0 rfl (Yc e.kd e.s e.nm e.G e.tx ra e.rf.length rc) _ (λX h=>h.2.range) underlying32 rfl Yr) ?_;try simp only[Act.put,BL]
    refine BZ 4 (Yy w.1.size) ?_;try simp only[Act.put,BL]
    refine Fl 5 (Zg v.wd) rfl (by exact Or.inl ⟨Yp,λX hX=>by have h1:=(hX.1 0 _ rfl).1;go_simp⟩) ?_;try simp only[Act.put,BL]
    refine wpAnyH_ready (rs:=[2,6]) Yr Yu ?_;refine AllReadyH.cons (o:=⟨some 70,.load 28 (.tmp 69),28,Ge,#[DO 1],none⟩) rfl (λK i=> ?_) (AllReadyH.cons (o:=⟨some 74,.call ⟨.value (.func 138),#[.tmp 71,.tmp 73],#[32,3]⟩,9,Ge,#[DO 3,DO 5],none⟩) rfl (λK i=> ?_) AllReadyH.nil)
    .have rN:=(zR 3 _ rfl).1;go_simp;refine i.out _ _ hS (λyD=> ?_);clear i K;try simp only[Act.put,BL]
     refine CL 6 (λK i=> ?_);go_simp;refine(HF J.drew (yR _ Ad.drew)).aj ?_;rintro o wf ⟨rfl,vE⟩;try go_simp
     refine i.out _ _ (zU _ _ yD vE) (λzY=> ?_);clear i K;try simp only[Act.put,BL]
     have xJ:Below J.1.size J wf:=(Below.refl J.1.size J).drew.ah vE;have c3:=(Aa.A zR xJ 3 _ rfl).1;have⟨A,B,Yf,xG,vX,⟨y3,g3⟩,vY,xF⟩:=tU wf xJ;refine CL 7 (λK i=> ?_);go_simp;refine i.out _ _ (zU _ _ zY (Zy)) (λyU=> ?_);clear i K;try simp only[Act.put,BL]
     refine CL 8 (λK i=> ?_);refine Bt rfl _ _ _ _ rfl Yp Yp xG ?_;refine i.out _ _ vX (λvD=> ?_);clear i K;try simp only[Act.put,BL]
     refine BZ 9 (Yx d.1.size 2) ?_;try simp only[Act.put,BL]
     refine BZ 10 (Yx d.1.size 3) ?_;try simp only[Act.put,BL]
     refine CL 11 (λK i=> ?_);go_simp;refine i.out _ _ vY (λX=> ?_);clear i K;try simp only[Act.put]
     refine wpAnyH_done Yr ?_ _;go_wp2_with fail;go_meet;exact⟨A,B,xF⟩
    .go_simp;refine(HF J.drew (yR _ Ad.drew)).aj ?_;rintro o wf ⟨rfl,vE⟩;try go_simp
     refine i.out _ _ (zU _ _ hS vE) (λyD=> ?_);clear i K;try simp only[Act.put,BL]
     have xJ:Below J.1.size J wf:=(Below.refl J.1.size J).drew.ah vE;have c3:=(Aa.A zR xJ 3 _ rfl).1;have⟨A,B,Yf,xG,vX,⟨y3,g3⟩,vY,xF⟩:=tU wf xJ;refine wpAnyH_ready (rs:=[2,7]) Yr Yu ?_
     refine AllReadyH.cons (o:=⟨some 70,.load 28 (.tmp 69),28,Ge,#[DO 1],none⟩) rfl (λK i=> ?_) (AllReadyH.cons (o:=⟨some 75,.buildSlice 28 1 #[(0,.tmp 74)],28,Ge,#[DO 6],none⟩) rfl (λK i=> ?_) AllReadyH.nil)
     .go_simp;refine i.out _ _ yD (λzY=> ?_);clear i K;try simp only[Act.put,BL]
      refine CL 7 (λK i=> ?_);go_simp;refine i.out _ _ (zU _ _ zY (Zy)) (λyU=> ?_);clear i K;try simp only[Act.put,BL]
      refine CL 8 (λK i=> ?_);refine Bt rfl _ _ _ _ rfl Yp Yp xG ?_;refine i.out _ _ vX (λvD=> ?_);clear i K;try simp only[Act.put,BL]
      refine BZ 9 (Yx d.1.size 2) ?_;try simp only[Act.put,BL]
      refine BZ 10 (Yx d.1.size 3) ?_;try simp only[Act.put,BL]
      refine CL 11 (λK i=> ?_);go_simp;refine i.out _ _ vY (λX=> ?_);clear i K;try simp only[Act.put]
      refine wpAnyH_done Yr ?_ _;go_wp2_with fail;go_meet;exact⟨A,B,xF⟩
     .go_simp;refine i.out _ _ (zU _ _ yD (Zy)) (λzY=> ?_);clear i K;try simp only[Act.put,BL]
      have rO:=(Aa.A zR (xJ.ah ((Zy:Zz wf (wf.alloc (.cells #[C4 et] 9))).aj xJ.size)) 3 _ rfl).1;refine CL 2 (λK i=> ?_);go_simp;refine i.out _ _ zY (λyU=> ?_);clear i K;try simp only[Act.put,BL]
      refine CL 8 (λK i=> ?_);refine Bt rfl _ _ _ _ rfl Yp Yp xG ?_;refine i.out _ _ vX (λvD=> ?_);clear i K;try simp only[Act.put,BL]
      refine BZ 9 (Yx d.1.size 2) ?_;try simp only[Act.put,BL]
      refine BZ 10 (Yx d.1.size 3) ?_;try simp only[Act.put,BL]
      refine CL 11 (λK i=> ?_);go_simp;refine i.out _ _ vY (λX=> ?_);clear i K;try simp only[Act.put]
      refine wpAnyH_done Yr ?_ _;go_wp2_with fail;go_meet;exact⟨A,B,xF⟩
   case rest=>
   revert wc;intro zG hcut;obtain⟨A,B,hcut⟩:=hcut;have⟨sN,vU,z20,X,vO,K,i,vF⟩:=hcut.o;have vM:=Yw sN;have yI:=Yw (Za X (Za vO (Za K i)))
   have yS:Hid ((∀g,Ap (C7 sb v.ss y)=some g->g≠d.1.size)/\(∀g,Ap (C3 A I B)=some g->g≠d.1.size)/\(∀g,Ap (C7 qb v.H n)=some g->g≠d.1.size)/\(∀g,Ap (C7 mb v.ms m)=some g->g≠d.1.size)):=⟨λg h=>by have:=zH.2 g (by unfold DZ;rw[h];simp);omega,vF,λg h=>by have:=zH.2 g (by unfold DZ;rw[h];simp);omega,λg h=>by have:=zH.2 g (by unfold DZ;rw[h];simp);omega⟩
   replace zV:Hid (w.1.size+3<=j.1.size/\j.1.size<F/\f.1.size<=zG.1.size/\F<f.1.size/\f.1.size<=d.1.size/\d.1.size<zG.1.size):=by have:=zV.o;exact⟨Yv,Yv,Yv,Yv,Yv,Yv⟩
   have yY:Hid (Aa zG F [Ze,Zg v.wd,Zg r.D,Zg r.F,Zg r.C,C1 U r.ks xc,C1 Q r.ps H,C1 N r.ls O,C4 r.j,Zg r.le,Zc,Zc]):=Aa.A xL vU;have vN:Hid (Z r U xc Q H N O zG):=yC _ _ _ _ _ _ _ _ vC _ vU;have xP:Hid (Zz j zG):=zA.ah (vU.aj zA.size);clear hcut sN vU z20 X vO K i vF sB HF zH zR zI zO zA xL vC yC
   as_aux_lemma=>
   go_wp2_with (refine wpList_load_mid rfl 27 _ rfl F 1 rfl (C8 v.wd r.D r.F r.C U r.ks xc Q r.ps H N r.ls O) _ (Aa.gu [Ze] (C8 v.wd r.D r.F r.C U r.ks xc Q r.ps H N r.ls O) [C4 r.j,Zg r.le,Zc,Zc] yY) underlying27 rfl Yr ?_);refine(zT r U xc Q H N O zG Hy vN).aj ?_;rintro o tB ⟨T2,P2,L2,xK,rfl,yJ,i⟩;obtain⟨za,zc,rfl⟩:=Aq yJ.ak
   obtain⟨ya,yc,rfl⟩:=Aq yJ.pins;obtain⟨ka,kc,rfl⟩:=Aq yJ.au;have sP:=i.size;have hz:=zV.o;have⟨K,xB⟩:=Ae (tB.setCells d.1.size 4 (C8 v.wd r.D r.F r.C za r.ks zc ya r.ps yc ka r.ls kc));have yP:Tn [d.1.size] tB K:=by rw[xB];exact AV _ _ _ _
   have tP:=Aa.A vM i;have zS:Hid (Aa K d.1.size [Zg v.wd,Zg v.lim,C7 sb v.ss y,C3 A I B,Zg v.wd,Zg r.D,Zg r.F,Zg r.C,C1 za r.ks zc,C1 ya r.ps yc,C1 ka r.ls kc,Zg v.M,C7 qb v.H n,C7 mb v.ms m,Zg v.U,Zg v.V,Zg v.ro]):=by
    show Aa K d.1.size [Zg v.wd,Zg v.lim,C7 sb v.ss y,C3 A I B,Zg v.wd,Zg r.D,Zg r.F,Zg r.C,C1 za r.ks zc,C1 ya r.ps yc,C1 ka r.ls kc,Zg v.M,C7 qb v.H n,C7 mb v.ms m,Zg v.U,Zg v.V,Zg v.ro];rw[xB]
    exact Aa.gd (C8 v.wd r.D r.F r.C za r.ks zc ya r.ps yc ka r.ls kc) [Zg v.wd,Zg v.lim,C7 sb v.ss y,C3 A I B] [Zg v.O,Zg v.D,Zg v.F,Zg v.C,T,P,L] (Xw v.M (some ⟨qb,0,none⟩) v.H.length n (some ⟨mb,0,none⟩) v.ms.length m v.U v.V v.ro) tB tP rfl
   have xR:Hid (tB.there d.1.size 4 7/\((C9 v.wd r.D r.F r.C za r.ks zc ya r.ps yc ka r.ls kc):Array Value).all (·.oneCell')=true):=⟨Aa.fs [Zg v.wd,Zg v.lim,C7 sb v.ss y,C3 A I B] [Zg v.O,Zg v.D,Zg v.F,Zg v.C,T,P,L] (Xw v.M (some ⟨qb,0,none⟩) v.H.length n (some ⟨mb,0,none⟩) v.ms.length m v.U v.V v.ro) tP,Yr⟩
   have xA:Hid (Ba K zG.1.size (C1 za r.ks zc) (C1 ya r.ps yc) (C1 ka r.ls kc) xK r.ks r.ps r.ls):=yJ.K yP Yt;have X:Hid (Ar K f.1.size (C7 sb v.ss y) v.ss/\Ar K f.1.size (C3 A I B) yG/\Ar K f.1.size (C7 qb v.H n) v.H/\Ar K f.1.size (C7 mb v.ms m) v.ms):=by
    refine⟨(yI.1.A i).K yP (λg x=> ?_),(yI.2.1.A i).K yP (λg x=> ?_),(yI.2.2.1.A i).K yP (λg x=> ?_),(yI.2.2.2.A i).K yP (λg x=> ?_)⟩
    .have:=yS.1 g x;simp;omega
    .have:=yS.2.1 g x;simp;omega
    .have:=yS.2.2.1 g x;simp;omega
    .have:=yS.2.2.2 g x;simp;omega
   have tF:=xP.ah (i.aj xP.size);have yH:Hid (Zz j K):=tF.ah (yP.A tF.size Yt);have yZ:=Yw (Aa.same (Aa.A yY i) (yP.block _ (Aa.A yY i).lt Yt));have sX:Hid (zG.1.size<=K.1.size):=Zm sP yP.size;have vL:=Yw xB;clear xB yP tP i yJ tF sP hz vM yI yY xP vN zT
   go_upto_region 22 with(refine wpList_store_mid rfl 27 _ _ rfl d.1.size 4 (C9 v.wd r.D r.F r.C za r.ks zc ya r.ps yc ka r.ls kc) rfl rfl xR.1 Yr xR.2 ?_);rw[<-vL.o];clear vL xR
   as_aux_lemma=>
   obtain⟨e0,_⟩:=(E K yH).2.1 0 _ rfl;obtain⟨e1,_⟩:=(E K yH).2.1 1 _ rfl;obtain⟨u8,_⟩:=yZ 8 _ rfl;have⟨hl,i⟩:=Ae (e.held r);have xM:Hid (hl=e.held r):=i;clear i
   go_upto_if 87 with fail
   go_cut [8,87] (λi _ wx=>i=C4 hl/\wx=K)
   case first=>
    by_cases hk1:e.kd=1
    .have tM:(e.kd==1)=true:=by simp[hk1]
     have tL:Hid (r.j=hl):=by show r.j=hl;rw[xM.o];simp[Ed.held,hk1]
     clear hk1;go_wp2;go_meet;exact⟨by rw[tL.o],rfl⟩
    .have tM:(e.kd==1)=false:=D2 hk1
     have tL:Hid (e.s=hl):=by show e.s=hl;rw[xM.o];simp[Ed.held,hk1]
     clear hk1;go_wp2;go_meet;exact⟨by rw[tL.o],rfl⟩
   case rest=>
   obtain⟨rfl,i⟩:=hcut;rw[i];clear i wc e0 e1 u8;have⟨qq,vH⟩:=Ae (shQ v.M r.ks v.H v.ms hl);have sA:Hid (qq=shQ v.M r.ks v.H v.ms (e.held r)):=by show qq=_;rw[vH,xM.o]
   go_upto_if 91 with fail
   go_cut [91] (λ_ wx=>∃(qa:Zk) (qn qc:Nat) (ma:Zk) (mc:Nat),Hid (qn=qq.length/\Aa wx d.1.size [Zg v.wd,Zg v.lim,C7 sb v.ss y,C3 A I B,Zg v.wd,Zg r.D,Zg r.F,Zg r.C,C1 za r.ks zc,C1 ya r.ps yc,C1 ka r.ls kc,Zg v.M,C3 qa qn qc,C1 ma v.ms mc,Zg v.U,Zg v.V,Zg v.ro]/\Tn [d.1.size] K wx/\Ar wx f.1.size (C3 qa qn qc) qq/\Ar wx f.1.size (C1 ma v.ms mc) v.ms))
   case first=>
    by_cases he:hl=⟨#[]⟩
    .have tX:Hid (qq=v.H):=by show qq=v.H;rw[sA.o];exact(yL r Hy).2 (by rw[<-xM.o,he])
     have rD:(!hl.toList.isEmpty)=false:=by rw[he];simp
     rw[rD];clear he vH;go_wp2;go_meet;exact⟨_,_,_,_,_,by rw[tX.o],zS,Tn.of Ad,by rw[tX.o];exact X.2.2.1,X.2.2.2⟩
    .have rF:=Wm he;have tT:(!hl.toList.isEmpty)=true:=by rw[rF];rfl
     rw[tT];replace zF:=Yw (zF r K (C1 za r.ks zc) (C1 ya r.ps yc) (C1 ka r.ls kc) xK f.1.size qb n mb m Hy (xA.aj zV.2.2.1) X.2.2.1 X.2.2.2);rw[<-xM.o,<-vH]at zF;clear he vH;go_wp2_with (first
      |refine wpList_load_mid rfl 27 _ rfl d.1.size 4 rfl (C8 v.wd r.D r.F r.C za r.ks zc ya r.ps yc ka r.ls kc) _ (Aa.gu [Zg v.wd,Zg v.lim,C7 sb v.ss y,C3 A I B] (C8 v.wd r.D r.F r.C za r.ks zc ya r.ps yc ka r.ls kc) (Xw v.M (some ⟨qb,0,none⟩) v.H.length n (some ⟨mb,0,none⟩) v.ms.length m v.U v.V v.ro) zS) underlying27 rfl Yr ?_
      |refine wpList_load_mid rfl 98 _ rfl d.1.size 11 rfl (Xw v.M (some ⟨qb,0,none⟩) v.H.length n (some ⟨mb,0,none⟩) v.ms.length m v.U v.V v.ro) _ (Aa.gu [Zg v.wd,Zg v.lim,C7 sb v.ss y,C3 A I B,Zg v.wd,Zg r.D,Zg r.F,Zg r.C,C1 za r.ks zc,C1 ya r.ps yc,C1 ka r.ls kc] (Xw v.M (some ⟨qb,0,none⟩) v.H.length n (some ⟨mb,0,none⟩) v.ms.length m v.U v.V v.ro) [] zS) underlying98 rfl Yr ?_)
     refine zF.Ai ?_;rintro o tN ⟨i,Q3,M3,rfl,zN,zM⟩;obtain⟨qa,qc,rfl,_⟩:=zN.row;obtain⟨ma,mc,rfl,_⟩:=zM.row;have hz:=zV.o;have rH:=sX.o;have zZ:=AV d.1.size (Xw v.M qa qq.length qc ma v.ms.length mc v.U v.V v.ro) 11 tN;have tQ:=Aa.A zS i
     have vK:Hid (tN.there d.1.size 11 6/\((Ya v.M qa qq.length qc ma v.ms.length mc v.U v.V v.ro):Array Value).all (·.oneCell')=true):=⟨Aa.fs [Zg v.wd,Zg v.lim,C7 sb v.ss y,C3 A I B,Zg v.wd,Zg r.D,Zg r.F,Zg r.C,C1 za r.ks zc,C1 ya r.ps yc,C1 ka r.ls kc] (Xw v.M (some ⟨qb,0,none⟩) v.H.length n (some ⟨mb,0,none⟩) v.ms.length m v.U v.V v.ro) [] tQ,Yr⟩
     have sR:=Yw (Zn (Aa.gd (Xw v.M qa qq.length qc ma v.ms.length mc v.U v.V v.ro) [Zg v.wd,Zg v.lim,C7 sb v.ss y,C3 A I B,Zg v.wd,Zg r.D,Zg r.F,Zg r.C,C1 za r.ks zc,C1 ya r.ps yc,C1 ka r.ls kc] (Xw v.M (some ⟨qb,0,none⟩) v.H.length n (some ⟨mb,0,none⟩) v.ms.length m v.U v.V v.ro) [] tN tQ rfl) (Zn (((Tn.of (V:=[]) i).aj Yu).ah zZ) (Zn ((zN.K zZ (λg x=>by have:=(zN.g x).1;simp;omega)).aj (base':=f.1.size) Yv) ((zM.K zZ (λg x=>by have:=(zM.g x).1;simp;omega)).aj (base':=f.1.size) Yv))))
     clear zZ tQ i zN zM zS xA X yS zF hz rH;go_wp2_with (refine wpList_store_mid rfl 98 _ _ rfl d.1.size 11 (Ya v.M qa qq.length qc ma v.ms.length mc v.U v.V v.ro) rfl rfl vK.1 Yr vK.2 ?_);go_meet;exact⟨_,_,_,_,_,rfl,sR⟩
   case rest=>
   revert wc;intro yN hcut;obtain⟨qa,qn,qc,ma,mc,hcut⟩:=hcut;have⟨sH,xo,zZ,zN,zM⟩:=hcut.o;have sW:=Yw xo
   have i:Hid (Ba yN f.1.size (C1 za r.ks zc) (C1 ya r.ps yc) (C1 ka r.ls kc) xK r.ks r.ps r.ls/\Ar yN f.1.size (C7 sb v.ss y) v.ss/\Ar yN f.1.size (C3 A I B) yG/\Ar yN f.1.size (C3 qa qn qc) qq/\Ar yN f.1.size (C1 ma v.ms mc) v.ms):=⟨(xA.K zZ (by have:=zV.o;simp;omega)).aj zV.2.2.1,X.1.K zZ (λg x=>by have:=yS.1 g x;simp;omega),X.2.1.K zZ (λg x=>by have:=yS.2.1 g x;simp;omega),zN,zM⟩
   have sT:Hid (qn=qq.length):=sH;have zC:Below j.1.size j yN:=yH.ah (zZ.A yH.size (by have:=zV.o;simp;omega));have tV:=Yw (Aa.same yZ (zZ.block _ yZ.lt (by have:=zV.o;simp;omega)));clear hcut sH xo zZ zN zM vH zS xA yZ yH X yS zF yL xM
   have⟨vs,yF⟩:∃t:Zj,t=[Zg v.wd,Zg v.lim,C7 sb v.ss y,C3 A I B,Zg v.wd,Zg r.D,Zg r.F,Zg r.C,C1 za r.ks zc,C1 ya r.ps yc,C1 ka r.ls kc,Zg v.M,C3 qa qn qc,C1 ma v.ms mc,Zg v.U,Zg v.V,Zg v.ro]:=⟨_,rfl⟩;have X:Hid (Aa yN d.1.size vs/\vs.length=17):=by rw[yF];exact⟨sW,rfl⟩
   have yX:vs.length=17/\∀u∈vs,u.oneCell'=true:=by rw[yF];exact⟨rfl,by simp[oneCell']⟩
   have⟨D,hD⟩:∃t:Zj,t=dL (dyes v e r) vs:=⟨_,rfl⟩;have vQ:Hid (prog.built 162 [(1,.agg vs.toArray),(2,C4 r.j),(3,Zg r.le)]=some D.toArray):=by rw[hD];exact TT yX.1 _ _
   have G:Hid _:=Kl (E yN zC).2.2 (λV k k u=>by
    have hz:=zV.o;have sG:∀b∈V,b<f.1.size:=λb hb=>Dz (k b hb)
    have k:∀g,f.1.size<=g->g∉V:=λg x xN=>Dz (sG g xN)
    rw[yF];exact Abb yM.1 (i.2.1.K u (λg x=>k g (i.2.1.g x).1)) (i.2.2.1.K u (λg x=>k g (i.2.2.1.g x).1)) sC.1 sC.2 (i.1.K u sG) (i.2.2.2.1.K u (λg x=>k g (i.2.2.2.1.g x).1)) sA sT (i.2.2.2.2.K u (λg x=>k g (i.2.2.2.2.g x).1))) (.inr ⟨zP,.inr ⟨r,tS,rfl⟩⟩) yX hD
   obtain⟨u8,_⟩:=tV 8 _ rfl;obtain⟨b,_⟩:=tV 9 _ rfl;clear hD yF yX zC E;go_wp2_with (first
    |refine wpList_load_mid rfl 100 _ rfl d.1.size 0 rfl vs _ X.1.range underlying100 rfl (by rw[X.2];kernel_rfl) ?_
    |refine Gw rfl 162 _ rfl [(1,.agg vs.toArray),(2,C4 r.j),(3,Zg r.le)] Yr D.toArray vQ ?_
    |refine wpList_store_mid rfl 162 _ _ rfl (w.1.size+2) 0 D.toArray rfl rfl G.2.1 (by rw[A1,G.1.1];kernel_rfl) (all_oneCell_toArray G.1.2) ?_)
   exact bodyPost_ret (AY results132 _ _ (w.1.size+2) D _ rfl (Aa.range G.2.2.1) underlying162 rfl (by rw[G.1.1];kernel_rfl)) rfl G.2.2.2
