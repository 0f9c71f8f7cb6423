import Derived.Test.YtfmeclmjdpbacaaGreatDoorX23
import Derived.Test.YtfmeclmjdpbacaaGreatDoorX24
import Derived.Deep.CutBlock
set_option maxRecDepth 100000
set_option maxHeartbeats 16000000
open Option renaming some->ai,none->an
open Bool renaming true->ay,false->ba
open Go.RowKit renaming Below->bg
open Go.Obj renaming cells->bs
open Go.Value renaming slice->bx,agg->ca,bool->ec
open Or renaming inl->cr,inr->ct
open List renaming length->ed,toArray->ee
open Go.World renaming grownBy->ek,setCell->el
namespace Go.Proofs.YtfmeclmjdpbacaaGreatDoor
open ChangeShapes WideShapes ChangeAt RowKit _root_.Go.Proofs.Tryz List World Value
variable{v:Vd}{a f:Zj}{w X:Zh}{b c n m g q size free:Nat}{s:Zi}{o j d e:Int}{u:UR}{r:Rs}{k:C7}{i:C6}{V:List Nat}{T P L:Value}
theorem Afi(v:Vd)(e:Ed)(sa ta:Zk)(sc tc:Nat)(b0 b1 b2 b3 b4 b5 b6 c0 c1 c2 c3 c4 c5:Dg)(ra:Zk)(rc:Nat)(K:Zj->List Nat->Zh->Prop)(Z:Rs->Zk->Nat->Zk->Nat->Zk->Nat->Zh->Prop)(w:Zh)(hlen:ed v.ss<=1048576/\ed v.D<=1048576)(q:∀X,Zz w X->D4 10 #[ca #[Zg v.wd,Zg v.J,Cx sa (ed v.ss) sc,Cx ta (ed v.D) tc,b0,b1,b2,b3,b4,b5,b6,c0,c1,c2,c3,c4,c5]] X λo j=>Au (BY v) X j o)(F:BY v->∀X,Zz w X->D4 99 #[ca #[Zg v.wd,Zg v.J,Cx sa (ed v.ss) sc,Cx ta (ed v.D) tc,b0,b1,b2,b3,b4,b5,b6,c0,c1,c2,c3,c4,c5]] X λo j=>∃sb s ub zF T P L qb n U m rs,o=C1 (ca (ee (AV v (Yz sb (ed v.ss) s) (Yz ub (ed v.D) zF) T P L (Yz qb (ed v.F) n) (Yz U (ed v.ms) m))))/\Ay j X.1.size (Yz sb (ed v.ss) s) (Yz ub (ed v.D) zF) T P L (Yz qb (ed v.F) n) (Yz U (ed v.ms) m) rs v/\Zz X j)(a:∀X,Zz w X->D4 100 #[ca (Ye e.N e.s e.T e.M e.Y ra (ed e.V) rc),Zg v.wd] X λo j=>o=C1 (ec (e.ok v.wd))/\Zz X j)(i:BY v->∀X,Zz w X->D4 81 #[ca #[b0,b1,b2,b3,b4,b5,b6]] X λo j=>∃cs V,o=C1 (ca (ee cs))/\Zz X j/\(∀b∈V,X.1.size<=b/\b<j.1.size)/\K cs V j)(d:∀cs V X j,K cs V X->Zz X j->K cs V j)(hA:BY v->e.ok v.wd=ay->∀cs V X,Zz w X->K cs V X->D4 80 #[ca (ee cs),ca (Ye e.N e.s e.T e.M e.Y ra (ed e.V) rc)] X λo j=>Tn V X j/\∃H,o=C1 (ca (ee H))/\KP v e Z j H)(hZ:∀r O Q M G I J X,BY v->e.ok v.wd=ay->e.yes v r->Z r O Q M G I J X->∀y j,X.1[y]?=ai (bs (ee z12) 81)->Tn [y] X j->Z r O Q M G I J j)(t:∀r O Q M G I J X,Z r O Q M G I J X->∀j,Zz X j->Z r O Q M G I J j)(c:BY v->e.ok v.wd=ay->e.N=1->∀r O Q M G I J X,e.yes v r->Z r O Q M G I J X->D4 101 #[ca (Yg v.wd r.G r.H r.E O (ed r.B) Q M (ed r.ps) G I (ed r.ls) J)] X λo j=>o=C1 (Zg (CS v.wd r.B))/\Zz X j)(Y:e.ok v.wd=ay->∀X,Zz w X->D4 102 #[ca (Ye e.N e.s e.T e.M e.Y ra (ed e.V) rc),Zg v.wd] X λo j=>o=C1 (C0 (e.cf v.wd))/\Zz X j)(B:BY v->e.ok v.wd=ay->∀r O Q M G I J X,e.yes v r->Z r O Q M G I J X->D4 81 #[ca (Yg v.wd r.G r.H r.E O (ed r.B) Q M (ed r.ps) G I (ed r.ls) J)] X λo j=>∃T2 P2 L2 yW,o=C1 (ca #[Zg v.wd,Zg r.G,Zg r.H,Zg r.E,T2,P2,L2])/\Bc j X.1.size T2 P2 L2 yW r.B r.ps r.ls/\Zz X j)(h:BY v->e.ok v.wd=ay->∀r X T2 P2 L2 yW f qb n U m,e.yes v r->Bc X f T2 P2 L2 yW r.B r.ps r.ls->Ah X f (Yz qb (ed v.F) n) v.F->Ah X f (Yz U (ed v.ms) m) v.ms->D4 103 #[ca #[Zg v.wd,Zg r.G,Zg r.H,Zg r.E,T2,P2,L2],ca (Yb v.I (ai ⟨qb,0,an⟩) (ed v.F) n (ai ⟨U,0,an⟩) (ed v.ms) m v.L v.K v.ro),C0 (e.held r)] X λo j=>Zz X j/\∃Q3 M3,o=C1 (ca #[Zg v.I,Q3,M3,Zg v.L,Zg v.K,Zg v.ro])/\Ah j X.1.size Q3 (shQ v.I r.B v.F v.ms (e.held r))/\Ah j X.1.size M3 v.ms)(N:BY v->∀r,e.yes v r->(e.N=1->r.sm≠⟨#[]⟩)/\(e.held r=⟨#[]⟩->(shQ v.I r.B v.F v.ms (e.held r))=v.F))(u:BY v->v.wd=v.P/\ed v.ss+ed v.D<=4000):
 D4 67 #[ca #[Zg v.wd,Zg v.J,Cx sa (ed v.ss) sc,Cx ta (ed v.D) tc,b0,b1,b2,b3,b4,b5,b6,c0,c1,c2,c3,c4,c5],ca (Ye e.N e.s e.T e.M e.Y ra (ed e.V) rc)] w (VE v e w):=by
 obtain⟨W,f⟩:=Ag (((w.alloc (bs #[Zg v.wd,Zg v.J,Cw sa v.ss sc,Cw ta v.D tc,b0,b1,b2,b3,b4,b5,b6,c0,c1,c2,c3,c4,c5] 34)).alloc (bs (Ye e.N e.s e.T e.M e.Y ra (ed e.V) rc) 117)).alloc (bs Xn 62));obtain⟨bW,zW,xV,xE⟩:=(Bq f).1,(Bq f).2.1,(Bq f).2.2.1,(Bq f).2.2.2.1;have A:Aa W (w.1.size+2) Cu:=(Bq f).2.2.2.2;have k:Hid (∀X,Zz W X->Aa X w.1.size [Zg v.wd,Zg v.J,Cw sa v.ss sc,Cw ta v.D tc,b0,b1,b2,b3,b4,b5,b6,c0,c1,c2,c3,c4,c5]/\Aa X (w.1.size+1) (Xw e.N e.s e.T e.M e.Y ra (ed e.V) rc)/\Aa X (w.1.size+2) Cu/\Zz w X):=λX hX=>⟨Aa.A xV hX,Aa.A xE hX,Aa.A (v:=Ze) A hX,bW.ag (hX.ah bW.size)⟩;obtain⟨HL,E,yC,D,g⟩:=Yw hlen,Yw q,Yw F,Yw a,Yw i;obtain⟨HK,p,HZ,yD,C,HF,zV,zC,yJ,yK,x⟩:=Yw d,Yw hA,Yw hZ,Yw t,Yw c,Yw Y,Yw B,Yw h,Yw N,Yw u,Yw f;clear f xV xE A hlen q F a i d hA hZ t c Y B h N u;delta D4;go_in;go_upto_region 1 with fail;rw[<-x.o];clear x
 go_wp2_with (refine wpList_load_mid rfl 34 _ rfl w.1.size 0 rfl [Zg v.wd,Zg v.J,Cw sa v.ss sc,Cw ta v.D tc,b0,b1,b2,b3,b4,b5,b6,c0,c1,c2,c3,c4,c5] _ (k W Ae).1.range underlying34 rfl Yr ?_);refine Calls.mono (E W bW) ?_;rintro o w1 ⟨b1,rfl,B,i⟩;clear E;cases b1 with
 |false=>
  have xI:¬BY v:=λh=>by have:=B.2 h;cases this
  obtain⟨⟨_,_,A,b1⟩,W9,f⟩:=k w1 i,Ag (w1.setCells (w.1.size+2) 0 (Xm 1));have E:Aa W9 (w.1.size+2) (Xm 1):=by rw[f];exact A.ax _ rfl
  have sQ:Hid (Zz w W9):=b1.ag (by rw[f];exact(Ap _ _ _ _).A b1.size Yu);obtain⟨tT,sV,sS,sU⟩:=Yw (Zn (show((Xl 1):Array Value).all (·.oneCell')=ay by simp[oneCell']) A.there),Yw E,Yw xI,Yw f;clear f E xI A b1 k yC D g HK p HZ yD C HF zV zC yJ yK HL i B
  go_wp2_with (refine wpList_store_mid rfl 62 _ _ rfl (w.1.size+2) 0 (Xl 1) rfl rfl tT.2 Yr tT.1 ?_);rw[<-sU.o];refine bodyPost_ret (AM results67 _ _ (w.1.size+2) (Xm 1) _ rfl (Aa.range sV) underlying62 rfl Yr) rfl ?_;exact⟨Ft 1 v0 ⟨#[]⟩ ⟨#[]⟩,Xo,cr ⟨sS,rfl⟩,rfl,λV j _ _=>(Ay.nil j 0).jh,sQ⟩
 |true=>
  have f:=B.1 rfl;have zS:Hid (BY v):=f;replace yC:=Yw (yC f);replace g:=Yw (g f);replace p:=Yw (p f);replace C:=Yw (C f);replace zV:=Yw (zV f);replace zC:=Yw (zC f);replace yJ:=Yw (yJ f);replace yK:=Yw (yK f);have A:Hid (Zz W w1):=i;clear B f i;go_wp2_with (refine wpList_load_mid rfl 34 _ rfl w.1.size 0 rfl [Zg v.wd,Zg v.J,Cw sa v.ss sc,Cw ta v.D tc,b0,b1,b2,b3,b4,b5,b6,c0,c1,c2,c3,c4,c5] _ (k w1 A).1.range underlying34 rfl Yr ?_);refine(yC w1 (k w1 A).2.2.2).ah ?_;rintro o i ⟨sb,s,ub,zF,T,P,L,qb,n,U,m,rs,rfl,tG,tI⟩;have⟨vs,yN⟩:=Ag (AV v (C2 sb v.ss s) (C2 ub v.D zF) T P L (C2 qb v.F n) (C2 U v.ms m));have yV:ed vs=17/\∀u∈vs,u.oneCell'=ay:=by have⟨a,h,_⟩:=tG.jh;rw[yN];exact⟨rfl,by rw[h];simp[AV,oneCell']⟩
  rw[<-yN];have z1:=A.size;have z2:=tI.size;have B:Hid (ed vs=17/\∀u∈vs,u.oneCell'=ay):=yV;have xR:Hid (w.1.size+3<=w1.1.size/\w1.1.size<=i.1.size):=⟨Yv,z2⟩;have tA:=A.ag (tI.ah z1);have yI:Hid (∀X,Zz i X->∀V j,(∀b∈V,b<w.1.size+3)->Tn V X j->GL v j.1.size j vs):=λX hX=>by rw[yN];exact tG.farb xR.1 hX
  have E:Hid (∀X,Zz i X->Aa X w.1.size [Zg v.wd,Zg v.J,Cw sa v.ss sc,Cw ta v.D tc,b0,b1,b2,b3,b4,b5,b6,c0,c1,c2,c3,c4,c5]/\Aa X (w.1.size+1) (Xw e.N e.s e.T e.M e.Y ra (ed e.V) rc)/\Aa X (w.1.size+2) Cu/\Zz w X):=λX hX=>k X (tA.ag (hX.ah tA.size));have⟨D0,c⟩:=Ag (dL (Ft 0 v ⟨#[]⟩ ⟨#[]⟩) vs);have q:ed D0=22/\∀u∈D0,u.oneCell'=ay:=by rw[c];exact KO yV
  have vO:Hid (prog.built 62 [(1,ca (ee vs))]=ai (ee D0)):=by show _=ai (ee D0);rw[c];exact SV yV.1
  have⟨W3,tF⟩:=Ag ((i.alloc (bs Xn 62)).setCells i.1.size 0 (ee D0).toList);have hb:=boxed (X:=i) (cs:=D0) (z:=Cu) (T:=62) (by rw[q.1];rfl);have e3:W3=(i.alloc (bs (ee Cu) 62)).setCells i.1.size 0 D0:=tF;rw[<-e3]at hb;obtain⟨x3,b3,z3⟩:=hb;have N:Hid ((i.alloc (bs Xn 62)).there i.1.size 0 (ee D0).size/\ed D0=22/\∀x∈D0,x.oneCell'=ay):=⟨by rw[show (ee D0).size=22 from by rw[Az];exact q.1];exact(Aa.new i Cu 62).there,q⟩;have F:Hid (Aa W3 i.1.size (dL (Ft 0 v ⟨#[]⟩ ⟨#[]⟩) vs)):=by show Aa W3 i.1.size _;rw[<-c];exact x3
  have f:Hid (Zz i W3):=b3;have sA:=Yw tF;have rG:W3.1.size=i.1.size+1:=z3;clear tF e3 x3 b3 z3 c q tG tI yN yV tA k A z1 z2;go_upto_region 4 with(first
   |refine GP rfl 62 _ rfl [(1,ca (ee vs))] Yr (ee D0) vO ?_
   |refine wpList_store_mid rfl 62 _ _ rfl i.1.size 0 (ee D0) rfl rfl N.1 (by rw[Az,N.2.1];kernel_rfl) (all_oneCell_toArray N.2.2) ?_)
  rw[<-sA.o];clear sA vO N
  as_aux_lemma=>
  obtain⟨q,_⟩:=(E W3 f).1 0 _ rfl;go_wp2_with (refine wpList_load_mid rfl 117 _ rfl (w.1.size+1) 0 rfl (Xw e.N e.s e.T e.M e.Y ra (ed e.V) rc) _ (E W3 f).2.1.range underlying117 rfl Yr ?_);refine(D W3 (E W3 f).2.2.2).ah ?_;rintro o k ⟨rfl,A⟩;have z4:=A.size;have c:Hid (Zz i k):=f.ag (A.ah f.size);have N:=Yw (Aa.same F (A.block _ Yv));have vR:Hid (i.1.size<k.1.size):=by show i.1.size<k.1.size;omega
  clear q D F f A z4 rG;cases hoe:e.ok v.wd with
  |false=>
   have zJ:Hid (Ex v e (Ft 1 v ⟨#[]⟩ ⟨#[]⟩)):=ct ⟨zS,cr ⟨1,⟨#[]⟩,⟨#[]⟩,cr ⟨hoe,rfl,rfl,rfl⟩,rfl⟩⟩;have A:=c.o;clear hoe yC g HK p HZ yD C HF zV zC yJ yK HL;obtain⟨⟨⟨k0,g0⟩,_⟩,Y9,f⟩:=Pq N B.1,D2 k (i.1.size) 0 (Zg 1);have yB:Aa Y9 i.1.size (dL (Ft 1 v ⟨#[]⟩ ⟨#[]⟩) vs):=(by rw[f];exact NB N 1);have zB:bg i.1.size i Y9:=K6;have zX:=Yw f;have zK:=Yw yB;clear f yB A;go_upto_region 6 with fail;rw[<-zX.o];clear zX k0 g0;have⟨D,hD⟩:∃t:Zj,t=dL (Ft 1 v ⟨#[]⟩ ⟨#[]⟩) vs:=⟨_,rfl⟩;have xD:Hid (Aa Y9 i.1.size D):=by rw[hD];exact zK.o
   have F:=Yw (KQ (E Y9 zB).2.2 (yI Y9 zB) zJ B hD);clear hD zB yI E B;go_wp2_with (first
    |refine wpList_load_mid rfl 62 _ rfl i.1.size 0 rfl D _ xD.range underlying62 rfl F2 ?_
    |refine wpList_store_mid rfl 62 _ _ rfl (w.1.size+2) 0 (ee D) rfl rfl F.2.1 Hr (all_oneCell_toArray F.1.2) ?_)
   exact bodyPost_ret (AM results67 _ _ (w.1.size+2) D _ rfl (Aa.range F.2.2.1) underlying62 rfl F2) rfl F.2.2.2
  |true=>
   have vP:Hid (e.ok v.wd=ay):=hoe;replace p:=Yw (p hoe);replace C:=Yw (C hoe);replace HF:=Yw (HF hoe);replace zV:=Yw (zV hoe);replace zC:=Yw (zC hoe);have sC:Hid _:=λr O Q M G I J X=>HZ r O Q M G I J X zS hoe;clear hoe HZ
   as_aux_lemma=>
   go_upto_region 7 with fail;go_cut [6] (λG wx=>∃(y:Nat) (H:Zj),G=Yy y/\Hid (Aa wx y H/\k.1.size<=y/\Zz k wx/\KP v e Z wx H))
   case first=>
    have xQ:Hid (∀X j,(Aa X w.1.size [Zg v.wd,Zg v.J,Cw sa v.ss sc,Cw ta v.D tc,b0,b1,b2,b3,b4,b5,b6,c0,c1,c2,c3,c4,c5]/\Aa X (w.1.size+1) (Xw e.N e.s e.T e.M e.Y ra (ed e.V) rc))->Zz X j->Aa j w.1.size [Zg v.wd,Zg v.J,Cw sa v.ss sc,Cw ta v.D tc,b0,b1,b2,b3,b4,b5,b6,c0,c1,c2,c3,c4,c5]/\Aa j (w.1.size+1) (Xw e.N e.s e.T e.M e.Y ra (ed e.V) rc)):=λX j h1 h2=>⟨Aa.A h1.1 h2,Aa.A h1.2 h2⟩;have vQ:Hid (∀X j (V:List Nat),(Aa X w.1.size [Zg v.wd,Zg v.J,Cw sa v.ss sc,Cw ta v.D tc,b0,b1,b2,b3,b4,b5,b6,c0,c1,c2,c3,c4,c5]/\Aa X (w.1.size+1) (Xw e.N e.s e.T e.M e.Y ra (ed e.V) rc))->(∀b∈V,k.1.size<=b)->Tn V X j->Aa j w.1.size [Zg v.wd,Zg v.J,Cw sa v.ss sc,Cw ta v.D tc,b0,b1,b2,b3,b4,b5,b6,c0,c1,c2,c3,c4,c5]/\Aa j (w.1.size+1) (Xw e.N e.s e.T e.M e.Y ra (ed e.V) rc)):=λX j V h1 h2 h3=>⟨Aa.same h1.1 (h3.block _ h1.1.lt (λh=>by have:=h2 _ h;have:=vR.o;have:=xR.o;omega)),Aa.same h1.2 (h3.block _ h1.2.lt (λh=>by have:=h2 _ h;have:=vR.o;have:=xR.o;omega))⟩;have vZ:Hid (∀X j y,(Aa X w.1.size [Zg v.wd,Zg v.J,Cw sa v.ss sc,Cw ta v.D tc,b0,b1,b2,b3,b4,b5,b6,c0,c1,c2,c3,c4,c5]/\Aa X (w.1.size+1) (Xw e.N e.s e.T e.M e.Y ra (ed e.V) rc))->k.1.size<=y->Tn [y] X j->Aa j w.1.size [Zg v.wd,Zg v.J,Cw sa v.ss sc,Cw ta v.D tc,b0,b1,b2,b3,b4,b5,b6,c0,c1,c2,c3,c4,c5]/\Aa j (w.1.size+1) (Xw e.N e.s e.T e.M e.Y ra (ed e.V) rc)):=λX j y h1 h2 h3=>vQ X j [y] h1 (by simp;exact h2) h3;have xP:Hid (∀X,Zz k X->Zz w X):=λX hX=>(E X (c.ag (hX.ah c.size))).2.2.2;have tP:Hid (∀X j H,KP v e Z X H->Zz X j->KP v e Z j H):=λX j H h1 h2=>by
     rcases h1 with h|⟨r,O,Q,M,G,I,J,h3,h4,h5⟩
     .exact cr h
     exact ct ⟨r,O,Q,M,G,I,J,h3,h4,yD.o _ _ _ _ _ _ _ _ h5 _ h2⟩
    have xK:Hid (∀X y H,k.1.size<=y->Zz k X->X.1[y]?=ai (bs (ee z12) 81 (0,0))->KP v e Z X H->Hid (Aa (X.setCells y 0 (ee H).toList) y H/\k.1.size<=y/\Zz k (X.setCells y 0 (ee H).toList)/\KP v e Z (X.setCells y 0 (ee H).toList) H)):=λX y H h1 h2 h3 h4=>by
     have t:=Ap y H 0 X;refine⟨(Aa.ir (l:=z12) h3).ax H (by rw[h4.small.1];rfl),h1,h2.ag (t.A h2.size (by simp;exact h1)),?_⟩;rcases h4 with h|⟨r,O,Q,M,G,I,J,h5,h6,h7⟩
     .exact cr h
     exact ct ⟨r,O,Q,M,G,I,J,h5,h6,sC.o _ _ _ _ _ _ _ _ h5 h7 y _ h3 t⟩
    refine wp_region_held_drew (S:=λX=>Aa X w.1.size [Zg v.wd,Zg v.J,Cw sa v.ss sc,Cw ta v.D tc,b0,b1,b2,b3,b4,b5,b6,c0,c1,c2,c3,c4,c5]/\Aa X (w.1.size+1) (Xw e.N e.s e.T e.M e.Y ra (ed e.V) rc)) Yr (show _/\_ from⟨(E k c).1,(E k c).2.1⟩) (λhS=> ?_);refine AK 0 (Yx w.1.size 4) ?_;try simp only[Act.put,AG]
    refine Di 1 (ca #[b0,b1,b2,b3,b4,b5,b6]) rfl (by exact yieldsIf_load_mid Yp 30 _ rfl (w.1.size) 4 rfl [b0,b1,b2,b3,b4,b5,b6] _ (λX h=>Aa.fx [Zg v.wd,Zg v.J,Cw sa v.ss sc,Cw ta v.D tc] [b0,b1,b2,b3,b4,b5,b6] [c0,c1,c2,c3,c4,c5] h.1) underlying30 rfl Yr) ?_;try simp only[Act.put,AG]
    refine Di 3 (ca (Ye e.N e.s e.T e.M e.Y ra (ed e.V) rc)) rfl (by exact yieldsIf_load_mid Yp 117 _ rfl (w.1.size+1) 0 rfl (Xw e.N e.s e.T e.M e.Y ra (ed e.V) rc) _ (λX h=>h.2.range) underlying117 rfl Yr) ?_;try simp only[Act.put,AG]
    refine wpAnyH_ready (rs:=[2,5]) Yr Yu ?_;refine AllReadyH.cons (o:=⟨ai 25,.call ⟨.value (.func 81),#[.tmp 24],#[30]⟩,30,GB,#[IJ 1],an⟩) rfl (λK d=> ?_) (AllReadyH.cons (o:=⟨ai 6,.alloc 81,0,GB,#[],an⟩) rfl (λK d=> ?_) AllReadyH.nil)
    .go_simp;refine(g k.drew (xP _ Ae.drew)).ah ?_;rintro o w5 ⟨cs,V,rfl,xF,tE,vU⟩;try go_simp
     refine d.out _ _ (xQ _ _ hS xF) (λxU=> ?_);clear d K;try simp only[Act.put,AG]
     have zZ:bg k.1.size k w5:=(Below.refl k.1.size k).drew.ag xF;have yM:∀b∈V,k.1.size<=b/\b<w5.1.size:=tE;refine wpAnyH_ready (rs:=[4,5]) Yr Yu ?_;refine AllReadyH.cons (o:=⟨ai 27,.call ⟨.value (.func 80),#[.tmp 25,.tmp 26],#[30,117]⟩,81,GB,#[IJ 2,IJ 3,⟨2,.chain⟩],an⟩) rfl (λK d=> ?_) (AllReadyH.cons (o:=⟨ai 6,.alloc 81,0,GB,#[],an⟩) rfl (λK d=> ?_) AllReadyH.nil)
     .go_simp;refine(p cs V w5 (xP _ zZ) vU).ah ?_;rintro o w6 ⟨yE,H,rfl,zA⟩;have yU:=zA.small.1;have vA:=zA.small.2;try go_simp
      refine d.out _ _ (vQ _ _ V xU (λb hb=>(yM b hb).1) yE) (λq=> ?_);clear d K;try simp only[Act.put,AG]
      have yR:bg k.1.size k w6:=zZ.ag (yE.A zZ.size (λb hb=>(yM b hb).1));refine Bk 5 (λK d=> ?_);go_simp;refine d.out _ _ (xQ _ _ q (Zy)) (λxW=> ?_);clear d K;try simp only[Act.put,AG]
      have nB:(w6.alloc (bs (ee z12) 81)).1[w6.1.size]?=ai (bs (ee z12) 81 (0,0)):=heap_alloc_new _ _;have bB:bg w6.1.size w6 (w6.alloc (bs (ee z12) 81)):=(Zy);refine Bk 6 (λK d=> ?_);rw[if_pos Yp];refine wp_store_mid 81 _ _ rfl w6.1.size 0 (ee H) rfl rfl E9 (by rw[Az,yU];kernel_rfl) (all_oneCell_toArray vA) ?_;refine d.out _ _ (vZ _ _ _ xW yR.size (Ap _ _ _ _)) (λsE=> ?_);clear d K;try simp only[Act.put]
      refine wpAnyH_done Yr ?_ _;go_wp2_with fail;go_meet;exact⟨w6.1.size,H,rfl,xK.o _ w6.1.size H yR.size (yR.ag (bB.ah yR.size)) nB (tP _ _ _ zA bB)⟩
     go_simp;refine d.out _ _ (xQ _ _ xU (Zy)) (λq=> ?_);clear d K;try simp only[Act.put,AG]
     have bB:bg w5.1.size w5 (w5.alloc (bs (ee z12) 81)):=(Zy);have tD:=zZ.ag (bB.ah zZ.size);refine Bk 4 (λK d=> ?_);go_simp;refine(p cs V _ (xP _ tD) (HK _ _ _ _ vU bB)).ah ?_;rintro o w6 ⟨yE,H,rfl,zA⟩;have yU:=zA.small.1;have vA:=zA.small.2;try go_simp
     refine d.out _ _ (vQ _ _ V q (λb hb=>(yM b hb).1) yE) (λxW=> ?_);clear d K;try simp only[Act.put,AG]
     have yR:bg k.1.size k w6:=tD.ag (yE.A tD.size (λb hb=>(yM b hb).1));have nB:w6.1[w5.1.size]?=ai (bs (ee z12) 81 (0,0)):=(yE.block w5.1.size Yu (λh=>C8 (yM _ h).2)).ag (show(w5.alloc (bs (ee z12) 81)).1[w5.1.size]?=_ from heap_alloc_new _ _);refine Bk 6 (λK d=> ?_);rw[if_pos Yp];refine wp_store_mid 81 _ _ rfl w5.1.size 0 (ee H) rfl rfl E9 (by rw[Az,yU];kernel_rfl) (all_oneCell_toArray vA) ?_;refine d.out _ _ (vZ _ _ _ xW zZ.size (Ap _ _ _ _)) (λsE=> ?_);clear d K;try simp only[Act.put]
     refine wpAnyH_done Yr ?_ _;go_wp2_with fail;go_meet;exact⟨w5.1.size,H,rfl,xK.o w6 w5.1.size H zZ.size yR nB zA⟩
    go_simp;refine d.out _ _ (xQ _ _ hS (Zy)) (λxU=> ?_);clear d K;try simp only[Act.put,AG]
    have bB:bg k.1.size k (k.alloc (bs (ee z12) 81)).drew:=(Zy).drew;refine Bk 2 (λK d=> ?_);go_simp;refine(g _ (xP _ bB)).ah ?_;rintro o w5 ⟨cs,V,rfl,xF,tE,vU⟩;try go_simp
    refine d.out _ _ (xQ _ _ xU xF) (λq=> ?_);clear d K;try simp only[Act.put,AG]
    have zZ:bg k.1.size k w5:=bB.ag (xF.ah bB.size);have yM:∀b∈V,k.1.size<b/\b<w5.1.size:=λb hb=>by have:=tE b hb;simp at this;omega
    refine Bk 4 (λK d=> ?_);go_simp;refine(p cs V w5 (xP _ zZ) vU).ah ?_;rintro o w6 ⟨yE,H,rfl,zA⟩;have yU:=zA.small.1;have vA:=zA.small.2;try go_simp
    refine d.out _ _ (vQ _ _ V q (λb hb=>C8 (yM b hb)) yE) (λxW=> ?_);clear d K;try simp only[Act.put,AG]
    have yR:bg k.1.size k w6:=zZ.ag (yE.A zZ.size (λb hb=>C8 (yM b hb)));have nB:w6.1[k.1.size]?=ai (bs (ee z12) 81 (0,0)):=(yE.block k.1.size (by have:=xF.size;simp at this;omega) (λh=>C8 (yM _ h).1)).ag ((xF.block k.1.size Yu).ag (show(k.alloc (bs (ee z12) 81)).1[k.1.size]?=_ from heap_alloc_new _ _));refine Bk 6 (λK d=> ?_);rw[if_pos Yp];refine wp_store_mid 81 _ _ rfl k.1.size 0 (ee H) rfl rfl E9 (by rw[Az,yU];kernel_rfl) (all_oneCell_toArray vA) ?_;refine d.out _ _ (vZ _ _ _ xW (Zx) (Ap _ _ _ _)) (λsE=> ?_);clear d K;try simp only[Act.put]
    refine wpAnyH_done Yr ?_ _;go_wp2_with fail;go_meet;exact⟨k.1.size,H,rfl,xK.o w6 k.1.size H (Zx) yR nB zA⟩
   case rest=>
   revert wc;intro w7 hcut;obtain⟨y,H,rfl,hcut⟩:=hcut;have⟨xC,rC,q,sJ⟩:=hcut.o;have z7:=q.size;have yP:Hid (Zz i w7):=c.ag (q.ah c.size);replace N:=Yw (Aa.same N (q.block _ vR));have xS:Hid (i.1.size<y/\y<w7.1.size):=⟨C8 vR.o,xC.gy sJ.small.1⟩;clear hcut q p g HK sC c z7 rC;rcases sJ with⟨c,p,q,xI,rfl⟩|⟨r,O,Q,M,G,I,J,hy,rfl,hz⟩
   .have rB:(c==0)=ba:=(by have:=Gh.code xI;simp;omega);have zJ:Hid (Ex v e (Ft c v p q)):=ct ⟨zS,cr ⟨c,p,q,ct ⟨vP,cr xI⟩,rfl⟩⟩;obtain⟨⟨g,_⟩,⟨rK,_⟩,⟨rL,_⟩,⟨⟨k0,g0⟩,⟨rI,sY⟩,rJ,sZ⟩,Y9,f⟩:=xC 0 _ rfl,xC 10 _ rfl,xC 11 _ rfl,Pq N B.1,Ag (el (el (el w7 (Zd (i.1.size) 0) (Zg c)) (Zd (i.1.size) 20) (C0 p)) (Zd (i.1.size) 21) (C0 q));have yB:Aa Y9 i.1.size (dL (Ft c v p q) vs):=(by rw[f];exact Abv N B.1 c p q);have zB:bg i.1.size i Y9:=(by rw[f];exact((yP.setCell (Zx) _).setCell (Zx) _).setCell (Zx) _);have rE:y≠i.1.size:=C8 xS.o;have zX:=Yw f;have zK:=Yw yB;clear f yB xC xI yC yD C HF zV zC yJ yK HL;go_upto_region 12 with fail;rw[<-zX.o];clear zX k0 g0 rI sY rJ sZ g rK rL rB rE;have⟨D,hD⟩:∃t:Zj,t=dL (Ft c v p q) vs:=⟨_,rfl⟩;have xD:Hid (Aa Y9 i.1.size D):=by rw[hD];exact zK.o
    have F:=Yw (KQ (E Y9 zB).2.2 (yI Y9 zB) zJ B hD);clear hD zB yI E B;go_wp2_with (first
     |refine wpList_load_mid rfl 62 _ rfl i.1.size 0 rfl D _ xD.range underlying62 rfl F2 ?_
     |refine wpList_store_mid rfl 62 _ _ rfl (w.1.size+2) 0 (ee D) rfl rfl F.2.1 Hr (all_oneCell_toArray F.1.2) ?_)
    exact bodyPost_ret (AM results67 _ _ (w.1.size+2) D _ rfl (Aa.range F.2.2.1) underlying62 rfl F2) rfl F.2.2.2
   have xG:=Yw xC;have Hy:Hid (e.yes v r):=hy;have xT:Hid (Z r O Q M G I J w7):=hz;obtain⟨g,_⟩:=xC 0 _ rfl;clear xC hy hz
   as_aux_lemma=>
   go_upto_region 13 with fail;clear g;go_cut [51] (λg wx=>g=ec (e.dt v r)/\Hid (Zz w7 wx))
   case first=>
    by_cases hk1:e.N=1
    .have tK:(e.N==1)=ay:=(by simp[hk1]);have vY:Hid (e.dt v r=decide (v.J<CS v.wd r.B)):=G9;replace C:=Yw (C hk1 r O Q M G I J w7.drew Hy (yD _ _ _ _ _ _ _ _ xT _ Ae.drew));clear hk1;refine wp_region_held_drew (S:=λX=>Aa X (w.1.size+1) (Xw e.N e.s e.T e.M e.Y ra (ed e.V) rc)/\Aa X w.1.size [Zg v.wd,Zg v.J,Cw sa v.ss sc,Cw ta v.D tc,b0,b1,b2,b3,b4,b5,b6,c0,c1,c2,c3,c4,c5]/\Aa X y [Ze,Zg v.wd,Zg r.G,Zg r.H,Zg r.E,Cw O r.B Q,Cw M r.ps G,Cw I r.ls J,C0 r.sm,Zg r.le,Zc,Zc]) Yr (show _/\_/\_ from⟨(E w7 yP).2.1,(E w7 yP).1,xG⟩) (λhS=> ?_);refine AK 0 (Yy (w.1.size+1)) ?_;try simp only[Act.put,AG]
     refine Di 1 (Zg e.N) rfl G1 ?_;try simp only[Act.put,AG]
     refine AK 2 (ec ay) ?_;try simp only[Act.put,AG]
     refine AK 3 (ec ay) ?_;try simp only[Act.put,AG]
     refine AK 4 (Yx y 1) ?_;try simp only[Act.put,AG]
     refine Di 5 (ca (C4 v.wd r.G r.H r.E O r.B Q M r.ps G I r.ls J)) rfl (by exact yieldsIf_load_mid Yp 30 _ rfl (y) 1 rfl (C3 v.wd r.G r.H r.E O r.B Q M r.ps G I r.ls J) _ (λX h=>Aa.fx [Ze] (C3 v.wd r.G r.H r.E O r.B Q M r.ps G I r.ls J) [C0 r.sm,Zg r.le,Zc,Zc] h.2.2) underlying30 rfl Yr) ?_;try simp only[Act.put,AG]
     refine AK 7 (Yx w.1.size 1) ?_;try simp only[Act.put,AG]
     refine Di 8 (Zg v.J) rfl (by exact Or.inl ⟨Yp,λX hX=>by have h1:=(hX.2.1 1 _ rfl).1;go_simp⟩) ?_;try simp only[Act.put,AG]
     refine Bk 6 (λK d=> ?_);rw[if_pos Yp];go_simp;refine C.Ak ?_;rintro o w8 ⟨rfl,vV⟩;have rA:bg w7.1.size w7 w8:=(Below.refl w7.1.size w7).drew.ag vV;try go_simp
     refine d.out _ _ ⟨Aa.A hS.1 vV,Aa.A hS.2.1 vV,Aa.A hS.2.2 vV⟩ (λxU=> ?_);clear d K;try simp only[Act.put,AG]
     refine AK 9 (ec (decide (v.J<CS v.wd r.B))) ?_;try simp only[Act.put,AG]
     refine AK 10 (ec (decide (v.J<CS v.wd r.B))) ?_;try simp only[Act.put,AG]
     refine wpAnyH_done Yr ?_ _;go_wp2_with fail;go_meet;exact⟨by rw[vY.o],rA⟩
    have tK:(e.N==1)=ba:=C9 hk1;have vY:Hid (e.dt v r=ba):=G9;clear hk1;refine wp_region_held_drew (S:=λX=>Aa X (w.1.size+1) (Xw e.N e.s e.T e.M e.Y ra (ed e.V) rc)/\Aa X w.1.size [Zg v.wd,Zg v.J,Cw sa v.ss sc,Cw ta v.D tc,b0,b1,b2,b3,b4,b5,b6,c0,c1,c2,c3,c4,c5]/\Aa X y [Ze,Zg v.wd,Zg r.G,Zg r.H,Zg r.E,Cw O r.B Q,Cw M r.ps G,Cw I r.ls J,C0 r.sm,Zg r.le,Zc,Zc]) Yr (show _/\_/\_ from⟨(E w7 yP).2.1,(E w7 yP).1,xG⟩) (λhS=> ?_);refine AK 0 (Yy (w.1.size+1)) ?_;try simp only[Act.put,AG]
    refine Di 1 (Zg e.N) rfl G1 ?_;try simp only[Act.put,AG]
    refine AK 2 (ec ba) ?_;try simp only[Act.put,AG]
    refine AK 3 (ec ba) ?_;try simp only[Act.put,AG]
    refine EK 4 ?_;try simp only[Act.put,AG]
    refine EK 5 ?_;try simp only[Act.put,AG]
    refine EK 6 ?_;try simp only[Act.put,AG]
    refine EK 7 ?_;try simp only[Act.put,AG]
    refine EK 8 ?_;try simp only[Act.put,AG]
    refine EK 9 ?_;try simp only[Act.put,AG]
    refine AK 10 (ec ba) ?_;try simp only[Act.put,AG]
    refine wpAnyH_done Yr ?_ _;go_wp2_with fail;go_meet;exact⟨by rw[vY.o],(Below.refl w7.1.size w7).drew⟩
   case rest=>
   revert wc;intro d hcut;obtain⟨rfl,g⟩:=hcut;have rM:=g.size;have K:Hid (Zz i d):=yP.ag (g.ah yP.size);replace N:=Yw (Aa.same N (g.block _ (C8 xS.o)));replace xG:Hid (Aa d y [Ze,Zg v.wd,Zg r.G,Zg r.H,Zg r.E,Cw O r.B Q,Cw M r.ps G,Cw I r.ls J,C0 r.sm,Zg r.le,Zc,Zc]):=Aa.A xG g
   replace xT:Hid (Z r O Q M G I J d):=yD _ _ _ _ _ _ _ _ xT _ g;have xM:Hid (i.1.size<y/\y<d.1.size):=⟨xS.1,C8 xS.o⟩;clear g C yP xS rM;cases hbg:e.dt v r with
   |true=>
    have zJ:Hid (Ex v e (Ft 8 v ⟨#[]⟩ ⟨#[]⟩)):=ct ⟨zS,cr ⟨8,⟨#[]⟩,⟨#[]⟩,ct ⟨vP,ct ⟨rfl,rfl,r,Hy,cr ⟨hbg,rfl⟩⟩⟩,rfl⟩⟩;have A:=K.o;clear hbg yC yD HF zV zC yJ yK HL;obtain⟨⟨⟨k0,g0⟩,_⟩,Y9,f⟩:=Pq N B.1,D2 d (i.1.size) 0 (Zg 8);have yB:Aa Y9 i.1.size (dL (Ft 8 v ⟨#[]⟩ ⟨#[]⟩) vs):=(by rw[f];exact NB N 8);have zB:bg i.1.size i Y9:=K6;have zX:=Yw f;have zK:=Yw yB;clear f yB A;go_upto_region 15 with fail;rw[<-zX.o];clear zX k0 g0;have⟨D,hD⟩:∃t:Zj,t=dL (Ft 8 v ⟨#[]⟩ ⟨#[]⟩) vs:=⟨_,rfl⟩;have xD:Hid (Aa Y9 i.1.size D):=by rw[hD];exact zK.o
    have F:=Yw (KQ (E Y9 zB).2.2 (yI Y9 zB) zJ B hD);clear hD zB yI E B;go_wp2_with (first
     |refine wpList_load_mid rfl 62 _ rfl i.1.size 0 rfl D _ xD.range underlying62 rfl F2 ?_
     |refine wpList_store_mid rfl 62 _ _ rfl (w.1.size+2) 0 (ee D) rfl rfl F.2.1 Hr (all_oneCell_toArray F.1.2) ?_)
    exact bodyPost_ret (AM results67 _ _ (w.1.size+2) D _ rfl (Aa.range F.2.2.1) underlying62 rfl F2) rfl F.2.2.2
   |false=>
   have g:Hid (¬e.jb v r):=(by show ¬(e.dt v r=ay);rw[hbg];simp);clear hbg;obtain⟨⟨sL,_⟩,⟨sM,_⟩,⟨sI,sK⟩,sF⟩:=(E d K).1 2 _ rfl,(E d K).1 3 _ rfl,HL.o,yK.2;by_cases hfull:ed v.ss+ed v.D=4000
   .have zJ:Hid (Ex v e (Ft 9 v ⟨#[]⟩ ⟨#[]⟩)):=ct ⟨zS,cr ⟨9,⟨#[]⟩,⟨#[]⟩,ct ⟨vP,ct ⟨rfl,rfl,r,Hy,ct ⟨g,hfull,rfl⟩⟩⟩,rfl⟩⟩;have C:¬((ed v.ss:Int)+(ed v.D:Int)<4000):=Yv;have A:=K.o;clear yC yD HF zV zC yJ yK HL;go_upto_region 17 with fail;clear sL sM C hfull sI sK sF;obtain⟨⟨⟨k0,g0⟩,_⟩,Y9,f⟩:=Pq N B.1,D2 d (i.1.size) 0 (Zg 9);have yB:Aa Y9 i.1.size (dL (Ft 9 v ⟨#[]⟩ ⟨#[]⟩) vs):=(by rw[f];exact NB N 9);have zB:bg i.1.size i Y9:=K6;have zX:=Yw f;have zK:=Yw yB;clear f yB A;go_upto_region 18 with fail;rw[<-zX.o];clear zX k0 g0;have⟨D,hD⟩:∃t:Zj,t=dL (Ft 9 v ⟨#[]⟩ ⟨#[]⟩) vs:=⟨_,rfl⟩;have xD:Hid (Aa Y9 i.1.size D):=by rw[hD];exact zK.o
    have F:=Yw (KQ (E Y9 zB).2.2 (yI Y9 zB) zJ B hD);clear hD zB yI E B;go_wp2_with (first
     |refine wpList_load_mid rfl 62 _ rfl i.1.size 0 rfl D _ xD.range underlying62 rfl F2 ?_
     |refine wpList_store_mid rfl 62 _ _ rfl (w.1.size+2) 0 (ee D) rfl rfl F.2.1 Hr (all_oneCell_toArray F.1.2) ?_)
    exact bodyPost_ret (AM results67 _ _ (w.1.size+2) D _ rfl (Aa.range F.2.2.1) underlying62 rfl F2) rfl F.2.2.2
   have C:(ed v.ss:Int)+(ed v.D:Int)<4000:=Yv;have tQ:Hid (KN v e r):=⟨vP,Hy,g,hfull⟩;clear g hfull
   as_aux_lemma=>
   go_upto_region 19 with fail;clear sL sM C sF sI sK;clear B N yI;go_wp2_with (refine wpList_load_mid rfl 34 _ rfl w.1.size 0 rfl [Zg v.wd,Zg v.J,Cw sa v.ss sc,Cw ta v.D tc,b0,b1,b2,b3,b4,b5,b6,c0,c1,c2,c3,c4,c5] _ (E d K).1.range underlying34 rfl Yr ?_);refine(yC d (E d K).2.2.2).ah ?_;rintro o f ⟨sb,s,ub,zF,T,P,L,qb,n,U,m,rs,rfl,N,xB⟩;have⟨C,hC⟩:=Ag (AV v (C2 sb v.ss s) (C2 ub v.D zF) T P L (C2 qb v.F n) (C2 U v.ms m));have vT:ed C=17/\∀u∈C,u.oneCell'=ay:=(by have⟨a,h,_⟩:=N.jh;rw[hC];exact⟨rfl,by rw[h];simp[AV,oneCell']⟩);rw[<-hC];obtain⟨sO,zE,xN⟩:=xB.size,Ag ((f.alloc (bs Xp 34)).setCells f.1.size 0 (ee C).toList);have hb:=boxed (X:=f) (cs:=C) (z:=Xo) (T:=34) (by rw[vT.1];rfl);have sD:zE=(f.alloc (bs (ee Xo) 34)).setCells f.1.size 0 C:=xN;rw[<-sD]at hb;obtain⟨tM,tB,vN⟩:=hb;have B:Hid ((f.alloc (bs Xp 34)).there f.1.size 0 (ee C).size/\ed C=17/\∀x∈C,x.oneCell'=ay):=⟨by rw[show (ee C).size=17 from by rw[Az];exact vT.1];exact(Aa.new f Xo 34).there,vT⟩;have yH:Hid (Aa zE f.1.size [Zg v.wd,Zg v.J,C2 sb v.ss s,C2 ub v.D zF,Zg v.P,Zg v.G,Zg v.H,Zg v.E,T,P,L,Zg v.I,C2 qb v.F n,C2 U v.ms m,Zg v.L,Zg v.K,Zg v.ro]):=(by show Aa zE f.1.size [Zg v.wd,Zg v.J,C2 sb v.ss s,C2 ub v.D zF,Zg v.P,Zg v.G,Zg v.H,Zg v.E,T,P,L,Zg v.I,C2 qb v.F n,C2 U v.ms m,Zg v.L,Zg v.K,Zg v.ro];rw[hC]at tM;exact tM);have A:=xB.ag (tB.ah xB.size);have vF:Hid (Zz i zE):=K.ag (A.ah K.size);have zI:Hid (Ay zE d.1.size (C2 sb v.ss s) (C2 ub v.D zF) T P L (C2 qb v.F n) (C2 U v.ms m) rs v/\∀g∈DC (C2 sb v.ss s) (C2 ub v.D zF) T P L (C2 qb v.F n) (C2 U v.ms m) rs,g<f.1.size):=⟨N.A tB,N.dj⟩;have zY:Hid (w.1.size+3<=i.1.size/\i.1.size<y/\y<d.1.size/\d.1.size<=f.1.size/\zE.1.size=f.1.size+1):=⟨C8 xR.o,xM.1,xM.2,sO,vN⟩;have zO:Hid (Zz d zE):=A;have x:=Yw xN;clear xN sD tM tB vN sO hC vT N xB A yC xM xR;go_upto_region 20 with(refine wpList_store_mid rfl 34 _ _ rfl f.1.size 0 (ee C) rfl rfl B.1 (by rw[Az,B.2.1];kernel_rfl) (all_oneCell_toArray B.2.2) ?_);rw[<-x.o];clear x B
   as_aux_lemma=>
   have⟨et,A⟩:=Ag (e.cf v.wd);rw[<-A]at HF;have⟨yF,vD⟩:=Ag (v.D++[et]);have⟨N,vE⟩:=Ag (ed yF);have tX:Hid (yF=v.D++[e.cf v.wd]/\N=ed yF):=⟨by rw[vD,A],vE⟩;have tW:Hid (yF=v.D++[et]/\N=ed yF):=⟨vD,vE⟩;clear A vD vE;simp only[Act.put];go_cut [] (λwx=>∃(A:Zk) (B:Nat),Hid (Aa wx f.1.size [Zg v.wd,Zg v.J,C2 sb v.ss s,Cx A N B,Zg v.P,Zg v.G,Zg v.H,Zg v.E,T,P,L,Zg v.I,C2 qb v.F n,C2 U v.ms m,Zg v.L,Zg v.K,Zg v.ro]/\Zz d wx/\zE.1.size<=wx.1.size/\Ah wx d.1.size (C2 sb v.ss s) v.ss/\Ah wx d.1.size (Cx A N B) yF/\Ah wx d.1.size (C2 qb v.F n) v.F/\Ah wx d.1.size (C2 U v.ms m) v.ms/\∀g,Aj (Cx A N B)=ai g->g≠f.1.size))
   case first=>
    have vX:Hid (∀X,Zz zE X->∃(A:Zk) (B:Nat) (Y:Zh),(Builtin.append_ #[23,23] 23 #[C2 ub v.D zF,Yz X.1.size 1 1]).run prog (X.alloc (bs #[C0 et] 9))=.ok (Cx A N B) Y/\(Y.cell? (Zd (f.1.size) 3)=ai (C2 ub v.D zF)/\Y.frozen? ⟨f.1.size,3,an⟩=ba)/\Hid (Aa (el Y (Zd (f.1.size) 3) (Cx A N B)) f.1.size [Zg v.wd,Zg v.J,C2 sb v.ss s,Cx A N B,Zg v.P,Zg v.G,Zg v.H,Zg v.E,T,P,L,Zg v.I,C2 qb v.F n,C2 U v.ms m,Zg v.L,Zg v.K,Zg v.ro]/\Zz d (el Y (Zd (f.1.size) 3) (Cx A N B))/\zE.1.size<=(el Y (Zd (f.1.size) 3) (Cx A N B)).1.size/\Ah (el Y (Zd (f.1.size) 3) (Cx A N B)) d.1.size (C2 sb v.ss s) v.ss/\Ah (el Y (Zd (f.1.size) 3) (Cx A N B)) d.1.size (Cx A N B) yF/\Ah (el Y (Zd (f.1.size) 3) (Cx A N B)) d.1.size (C2 qb v.F n) v.F/\Ah (el Y (Zd (f.1.size) 3) (Cx A N B)) d.1.size (C2 U v.ms m) v.ms/\∀g,Aj (Cx A N B)=ai g->g≠f.1.size)):=λX hX=>by
     obtain⟨rQ,hz,⟨vD,vE⟩,hA⟩:=hX.size,zY.o,tW.o,zI.1.A hX;have bA:bg X.1.size X (X.alloc (bs #[C0 et] 9)):=(Zy);obtain⟨V',Y,hr,hO,x,hk⟩:=KZ (hA.u.A bA) ⟨X.1.size,0,an⟩ 1 et F3 (C8 HL.2) Yt 23;rw[<-vD]at hO;obtain⟨A,B,rfl,_⟩:=hO.row;rw[<-vE]at hr hO hk;have rO:=hA.u.S (g:=ub) rfl;have rP:ub<f.1.size:=zI.2 ub (by unfold DC;simp[Aj]);have tY:Tn [ub] X Y:=((Tn.of (V:=[]) bA).ah Yu).ag (Tn.grown x Yu);have tZ:Tn [f.1.size] Y (el Y (Zd (f.1.size) 3) (Cx A N B)):=Tn.set _ _ _ _ Yu;have xo:=Aa.A yH hX;have xY:=Aa.same xo (tY.block _ xo.lt Yt);have xX:∀g,Aj (Cx A N B)=ai g->g≠f.1.size:=λg yS=>by
      rcases hk with h|h
      .rw[h]at yS;have:ub=g:=A2 yS;omega
      rw[h]at yS;have:_=g:=A2 yS;simp at this;omega
     have tH:=hA.ap;have xO:∀{R:Dg} {l:Zl},Ah X d.1.size R l->(∀g,Aj R=ai g->g∈DC (C2 sb v.ss s) (C2 ub v.D zF) T P L (C2 qb v.F n) (C2 U v.ms m) rs)->Aj R≠ai ub->Ah (el Y (Zd (f.1.size) 3) (Cx A N B)) d.1.size R l:=λh1 h2 h3=>(h1.O tY (λg yS yT=>h3 (by simp at yT;rw[yS,yT]))).O tZ (λg yS yT=>by have:=zI.2 g (h2 g yS);simp at yT;omega);have bY:bg d.1.size d Y:=(zO.ag (hX.ah zO.size)).ag (tY.A Yv Yt);exact⟨A,B,Y,hr,xY 3 _ rfl,xY.set 3 _,bY.ag (tZ.A bY.size Yt),by have:=tY.size;simp;omega,xO hA.s (λg h=>by unfold DC;rw[h];simp) (tH.1 ub rfl),hO.O tZ (λg h=>by have:=xX g h;simp;omega),xO hA.q (λg h=>by unfold DC;rw[h];simp) (tH.2 ub rfl).1,xO hA.m (λg h=>by unfold DC;rw[h];simp) (tH.2 ub rfl).2,xX⟩
    have⟨X,xe,_,bw⟩:=E zE vF;have HC:=Yw (HF zE.drew (bw.ag (Ae.drew.ah bw.size)));have d0:=(X 0 _ rfl).1;obtain⟨e0,e1,e2,e3,e4,e5⟩:=Aa.c6 xe 0 1 2 3 4 5;have rN:=(yH 3 _ rfl).1;clear X xe
    go_region_law (first
     |(go_simp;go_at_call 102;refine HC.Ak ?_;rintro _ wf ⟨rfl,X⟩;have bf:bg zE.1.size zE wf:=CA X;have zf:=bf.size;have⟨A,B,Yf,hrun,⟨y3,g3⟩,hfin⟩:=vX wf bf;have m1:=(Aa.A yH bf 3 _ rfl).1;have a1:(wf.alloc (bs #[C0 et] 9)).cell? (Zd (f.1.size) 3)=ai (C2 ub v.D zF):=(Aa.A (Aa.A yH bf) (Zy) 3 _ rfl).1;clear X;go_wp2_with fail)
     |(refine CK Yp (.tmp 70) (.tmp 75) 23 23 Yp Yp Yp hrun ?_))
    all_goals
     go_wp2_with fail;go_meet;exact⟨A,B,hfin⟩
   case rest=>
   revert wc;intro zH hcut;obtain⟨A,B,hcut⟩:=hcut;have⟨sN,vS,z20,vL,vM,vK,X,xX⟩:=hcut.o;have vI:=Yw sN;have zP:=Yw (Za vL (Za vM (Za vK X)));have yQ:Hid ((∀g,Aj (C2 sb v.ss s)=ai g->g≠f.1.size)/\(∀g,Aj (Cx A N B)=ai g->g≠f.1.size)/\(∀g,Aj (C2 qb v.F n)=ai g->g≠f.1.size)/\(∀g,Aj (C2 U v.ms m)=ai g->g≠f.1.size)):=⟨λg h=>by have:=zI.2 g (by unfold DC;rw[h];simp);omega,xX,λg h=>by have:=zI.2 g (by unfold DC;rw[h];simp);omega,λg h=>by have:=zI.2 g (by unfold DC;rw[h];simp);omega⟩;replace zY:Hid (w.1.size+3<=i.1.size/\i.1.size<y/\d.1.size<=zH.1.size/\y<d.1.size/\d.1.size<=f.1.size/\f.1.size<zH.1.size):=(by have:=zY.o;exact⟨Yv,Yv,Yv,Yv,Yv,Yv⟩);have yX:Hid (Aa zH y [Ze,Zg v.wd,Zg r.G,Zg r.H,Zg r.E,Cw O r.B Q,Cw M r.ps G,Cw I r.ls J,C0 r.sm,Zg r.le,Zc,Zc]):=Aa.A xG vS;have vJ:Hid (Z r O Q M G I J zH):=yD _ _ _ _ _ _ _ _ xT _ vS;have xJ:Hid (Zz i zH):=K.ag (vS.ah K.size);clear hcut sN vS z20 vL vM vK X xX tW HF zI yH vF zO K xG xT yD
   as_aux_lemma=>
   go_wp2_with (refine wpList_load_mid rfl 30 _ rfl y 1 rfl (C3 v.wd r.G r.H r.E O r.B Q M r.ps G I r.ls J) _ (Aa.fx [Ze] (C3 v.wd r.G r.H r.E O r.B Q M r.ps G I r.ls J) [C0 r.sm,Zg r.le,Zc,Zc] yX) underlying30 rfl Yr ?_);refine(zV r O Q M G I J zH Hy vJ).ah ?_;rintro o vW ⟨T2,P2,L2,yW,rfl,zU,K⟩;obtain⟨za,zc,rfl⟩:=AB zU.aw;obtain⟨ya,yc,rfl⟩:=AB zU.pins;obtain⟨ka,kc,rfl⟩:=AB zU.bh;have sP:=K.size;have vX:Hid (∀g,Aj (Cx A N B)=ai g->g∉BJ (Cw za r.B zc) (Cw ya r.ps yc) (Cw ka r.ls kc) yW):=λg x yT=>by have h1:=(zP.2.1.S x).2;have h2:=zU.lo g yT;omega
   obtain⟨hz,X,xA⟩:=zY.o,Ag (vW.setCells f.1.size 4 (C3 v.wd r.G r.H r.E za r.B zc ya r.ps yc ka r.ls kc));have yO:Tn [f.1.size] vW X:=(by rw[xA];exact Ap _ _ _ _);have tN:=Aa.A vI K;have zT:Hid (Aa X f.1.size [Zg v.wd,Zg v.J,C2 sb v.ss s,Cx A N B,Zg v.wd,Zg r.G,Zg r.H,Zg r.E,Cw za r.B zc,Cw ya r.ps yc,Cw ka r.ls kc,Zg v.I,C2 qb v.F n,C2 U v.ms m,Zg v.L,Zg v.K,Zg v.ro]):=by
    show Aa X f.1.size [Zg v.wd,Zg v.J,C2 sb v.ss s,Cx A N B,Zg v.wd,Zg r.G,Zg r.H,Zg r.E,Cw za r.B zc,Cw ya r.ps yc,Cw ka r.ls kc,Zg v.I,C2 qb v.F n,C2 U v.ms m,Zg v.L,Zg v.K,Zg v.ro];rw[xA];exact Aa.fe (C3 v.wd r.G r.H r.E za r.B zc ya r.ps yc ka r.ls kc) [Zg v.wd,Zg v.J,C2 sb v.ss s,Cx A N B] [Zg v.P,Zg v.G,Zg v.H,Zg v.E,T,P,L] (Xu v.I (ai ⟨qb,0,an⟩) (ed v.F) n (ai ⟨U,0,an⟩) (ed v.ms) m v.L v.K v.ro) vW tN rfl
   have xL:Hid (vW.there f.1.size 4 7/\((C4 v.wd r.G r.H r.E za r.B zc ya r.ps yc ka r.ls kc):Array Value).all (·.oneCell')=ay):=⟨Aa.du [Zg v.wd,Zg v.J,C2 sb v.ss s,Cx A N B] [Zg v.P,Zg v.G,Zg v.H,Zg v.E,T,P,L] (Xu v.I (ai ⟨qb,0,an⟩) (ed v.F) n (ai ⟨U,0,an⟩) (ed v.ms) m v.L v.K v.ro) tN,Yr⟩;have yZ:Hid (Bc X zH.1.size (Cw za r.B zc) (Cw ya r.ps yc) (Cw ka r.ls kc) yW r.B r.ps r.ls):=zU.O yO Yt;have zG:Hid (Ah X d.1.size (C2 sb v.ss s) v.ss/\Ah X d.1.size (Cx A N B) yF/\Ah X d.1.size (C2 qb v.F n) v.F/\Ah X d.1.size (C2 U v.ms m) v.ms):=by
    refine⟨(zP.1.A K).O yO (λg x=> ?_),(zP.2.1.A K).O yO (λg x=> ?_),(zP.2.2.1.A K).O yO (λg x=> ?_),(zP.2.2.2.A K).O yO (λg x=> ?_)⟩
    .have:=yQ.1 g x;simp;omega
    .have:=yQ.2.1 g x;simp;omega
    .have:=yQ.2.2.1 g x;simp;omega
    have:=yQ.2.2.2 g x;simp;omega
   have tC:=xJ.ag (K.ah xJ.size);have yG:Hid (Zz i X):=tC.ag (yO.A tC.size Yt);have yY:=Yw (Aa.same (Aa.A yX K) (yO.block _ (Aa.A yX K).lt Yt));have sX:Hid (zH.1.size<=X.1.size):=Zm sP yO.size;have vH:=Yw xA;clear xA yO tN K zU tC sP hz vI zP yX xJ vJ zV;go_upto_region 22 with(refine wpList_store_mid rfl 30 _ _ rfl f.1.size 4 (C4 v.wd r.G r.H r.E za r.B zc ya r.ps yc ka r.ls kc) rfl rfl xL.1 Yr xL.2 ?_);rw[<-vH.o];clear vH xL
   as_aux_lemma=>
   obtain⟨⟨e0,_⟩,⟨e1,_⟩,⟨u8,_⟩,hl,K⟩:=(E X yG).2.1 0 _ rfl,(E X yG).2.1 1 _ rfl,yY 8 _ rfl,Ag (e.held r);have xH:Hid (hl=e.held r):=K;clear K;go_upto_if 87 with fail;go_cut [8,87] (λK _ wx=>K=C0 hl/\wx=X)
   case first=>
    by_cases hk1:e.N=1
    .have tK:(e.N==1)=ay:=(by simp[hk1]);have tJ:Hid (r.sm=hl):=(by show r.sm=hl;rw[xH.o];simp[Ed.held,hk1]);clear hk1;go_wp2;go_meet;exact⟨by rw[tJ.o],rfl⟩
    have tK:(e.N==1)=ba:=C9 hk1;have tJ:Hid (e.s=hl):=(by show e.s=hl;rw[xH.o];simp[Ed.held,hk1]);clear hk1;go_wp2;go_meet;exact⟨by rw[tJ.o],rfl⟩
   case rest=>
   obtain⟨rfl,K⟩:=hcut;rw[K];clear K wc e0 e1 u8;have⟨qq,vC⟩:=Ag (shQ v.I r.B v.F v.ms hl);have tV:Hid (qq=shQ v.I r.B v.F v.ms (e.held r)):=(by show qq=_;rw[vC,xH.o]);go_upto_if 91 with fail;go_cut [91] (λ_ wx=>∃(qa:Zk) (qn qc:Nat) (ma:Zk) (mc:Nat),Hid (qn=ed qq/\Aa wx f.1.size [Zg v.wd,Zg v.J,C2 sb v.ss s,Cx A N B,Zg v.wd,Zg r.G,Zg r.H,Zg r.E,Cw za r.B zc,Cw ya r.ps yc,Cw ka r.ls kc,Zg v.I,Cx qa qn qc,Cw ma v.ms mc,Zg v.L,Zg v.K,Zg v.ro]/\Tn [f.1.size] X wx/\Ah wx d.1.size (Cx qa qn qc) qq/\Ah wx d.1.size (Cw ma v.ms mc) v.ms))
   case first=>
    by_cases he:hl=⟨#[]⟩
    .have tU:Hid (qq=v.F):=(by show qq=v.F;rw[tV.o];exact(yJ r Hy).2 (by rw[<-xH.o,he]));have rD:(!hl.toList.isEmpty)=ba:=(by rw[he];simp);rw[rD];clear he vC;go_wp2;go_meet;exact⟨_,_,_,_,_,by rw[tU.o],zT,Tn.of Ae,by rw[tU.o];exact zG.2.2.1,zG.2.2.2⟩
    have rF:=Md he;have tR:(!hl.toList.isEmpty)=ay:=by rw[rF];rfl
    rw[tR];replace zC:=Yw (zC r X (Cw za r.B zc) (Cw ya r.ps yc) (Cw ka r.ls kc) yW d.1.size qb n U m Hy (yZ.ah zY.2.2.1) zG.2.2.1 zG.2.2.2);rw[<-xH.o,<-vC]at zC;clear he vC;go_wp2_with (first
     |refine wpList_load_mid rfl 30 _ rfl f.1.size 4 rfl (C3 v.wd r.G r.H r.E za r.B zc ya r.ps yc ka r.ls kc) _ (Aa.fx [Zg v.wd,Zg v.J,C2 sb v.ss s,Cx A N B] (C3 v.wd r.G r.H r.E za r.B zc ya r.ps yc ka r.ls kc) (Xu v.I (ai ⟨qb,0,an⟩) (ed v.F) n (ai ⟨U,0,an⟩) (ed v.ms) m v.L v.K v.ro) zT) underlying30 rfl Yr ?_
     |refine wpList_load_mid rfl 32 _ rfl f.1.size 11 rfl (Xu v.I (ai ⟨qb,0,an⟩) (ed v.F) n (ai ⟨U,0,an⟩) (ed v.ms) m v.L v.K v.ro) _ (Aa.fx [Zg v.wd,Zg v.J,C2 sb v.ss s,Cx A N B,Zg v.wd,Zg r.G,Zg r.H,Zg r.E,Cw za r.B zc,Cw ya r.ps yc,Cw ka r.ls kc] (Xu v.I (ai ⟨qb,0,an⟩) (ed v.F) n (ai ⟨U,0,an⟩) (ed v.ms) m v.L v.K v.ro) [] zT) underlying32 rfl Yr ?_)
    refine zC.Ak ?_;rintro o tL ⟨K,Q3,M3,rfl,zN,zM⟩;obtain⟨qa,qc,rfl,_⟩:=zN.row;obtain⟨ma,mc,rfl,_⟩:=zM.row;obtain⟨hz,rH,yA,tO⟩:=zY.o,sX.o,Ap f.1.size (Xu v.I qa (ed qq) qc ma (ed v.ms) mc v.L v.K v.ro) 11 tL,Aa.A zT K;have vG:Hid (tL.there f.1.size 11 6/\((Yb v.I qa (ed qq) qc ma (ed v.ms) mc v.L v.K v.ro):Array Value).all (·.oneCell')=ay):=⟨Aa.du [Zg v.wd,Zg v.J,C2 sb v.ss s,Cx A N B,Zg v.wd,Zg r.G,Zg r.H,Zg r.E,Cw za r.B zc,Cw ya r.ps yc,Cw ka r.ls kc] (Xu v.I (ai ⟨qb,0,an⟩) (ed v.F) n (ai ⟨U,0,an⟩) (ed v.ms) m v.L v.K v.ro) [] tO,Yr⟩;have sR:=Yw (Zn (Aa.fe (Xu v.I qa (ed qq) qc ma (ed v.ms) mc v.L v.K v.ro) [Zg v.wd,Zg v.J,C2 sb v.ss s,Cx A N B,Zg v.wd,Zg r.G,Zg r.H,Zg r.E,Cw za r.B zc,Cw ya r.ps yc,Cw ka r.ls kc] (Xu v.I (ai ⟨qb,0,an⟩) (ed v.F) n (ai ⟨U,0,an⟩) (ed v.ms) m v.L v.K v.ro) [] tL tO rfl) (Zn (((Tn.of (V:=[]) K).ah Yu).ag yA) (Zn ((zN.O yA (λg x=>by have:=(zN.S x).1;simp;omega)).ah (base':=d.1.size) Yv) ((zM.O yA (λg x=>by have:=(zM.S x).1;simp;omega)).ah (base':=d.1.size) Yv))));clear yA tO K zN zM zT yZ zG yQ zC hz rH;go_wp2_with (refine wpList_store_mid rfl 32 _ _ rfl f.1.size 11 (Yb v.I qa (ed qq) qc ma (ed v.ms) mc v.L v.K v.ro) rfl rfl vG.1 Yr vG.2 ?_);go_meet;exact⟨_,_,_,_,_,rfl,sR⟩
   case rest=>
   revert wc;intro yL hcut;obtain⟨qa,qn,qc,ma,mc,hcut⟩:=hcut;have⟨sH,xo,yA,zN,zM⟩:=hcut.o;have sW:=Yw xo;have K:Hid (Bc yL d.1.size (Cw za r.B zc) (Cw ya r.ps yc) (Cw ka r.ls kc) yW r.B r.ps r.ls/\Ah yL d.1.size (C2 sb v.ss s) v.ss/\Ah yL d.1.size (Cx A N B) yF/\Ah yL d.1.size (Cx qa qn qc) qq/\Ah yL d.1.size (Cw ma v.ms mc) v.ms):=⟨(yZ.O yA (by have:=zY.o;simp;omega)).ah zY.2.2.1,zG.1.O yA (λg x=>by have:=yQ.1 g x;simp;omega),zG.2.1.O yA (λg x=>by have:=yQ.2.1 g x;simp;omega),zN,zM⟩;have sT:Hid (qn=ed qq):=sH;have zB:bg i.1.size i yL:=yG.ag (yA.A yG.size (by have:=zY.o;simp;omega));have tS:=Yw (Aa.same yY (yA.block _ yY.lt (by have:=zY.o;simp;omega)));clear hcut sH xo yA zN zM vC zT yZ yY yG zG yQ zC yJ xH;have⟨vs,yN⟩:∃t:Zj,t=[Zg v.wd,Zg v.J,C2 sb v.ss s,Cx A N B,Zg v.wd,Zg r.G,Zg r.H,Zg r.E,Cw za r.B zc,Cw ya r.ps yc,Cw ka r.ls kc,Zg v.I,Cx qa qn qc,Cw ma v.ms mc,Zg v.L,Zg v.K,Zg v.ro]:=⟨_,rfl⟩;have sB:Hid (Aa yL f.1.size vs/\ed vs=17):=(by rw[yN];exact⟨sW,rfl⟩);have yV:ed vs=17/\∀u∈vs,u.oneCell'=ay:=(by rw[yN];exact⟨rfl,by simp[oneCell']⟩);have⟨D,hD⟩:∃t:Zj,t=dL (dyes v e r) vs:=⟨_,rfl⟩;have vO:Hid (prog.built 62 [(1,ca (ee vs)),(2,C0 r.sm),(3,Zg r.le)]=ai (ee D)):=(by rw[hD];exact Oi yV.1 _ _);have F:Hid _:=KQ (E yL zB).2.2 (λV j j u=>by
    have hz:=zY.o;have sG:∀b∈V,b<d.1.size:=λb hb=>C8 (j b hb);have j:∀g,d.1.size<=g->g∉V:=λg x yT=>C8 (sG g yT);rw[yN];exact Aef yK.1 (K.2.1.O u (λg x=>j g (K.2.1.S x).1)) (K.2.2.1.O u (λg x=>j g (K.2.2.1.S x).1)) tX.1 tX.2 (K.1.O u sG) (K.2.2.2.1.O u (λg x=>j g (K.2.2.2.1.S x).1)) tV sT (K.2.2.2.2.O u (λg x=>j g (K.2.2.2.2.S x).1)) vX) (ct ⟨zS,ct ⟨r,tQ,rfl⟩⟩) yV hD
   obtain⟨u8,_⟩:=tS 8 _ rfl;obtain⟨b,_⟩:=tS 9 _ rfl;clear hD yN yV zB E;go_wp2_with (first
    |refine wpList_load_mid rfl 34 _ rfl f.1.size 0 rfl vs _ sB.1.range underlying34 rfl (by rw[sB.2];kernel_rfl) ?_
    |refine GP rfl 62 _ rfl [(1,ca (ee vs)),(2,C0 r.sm),(3,Zg r.le)] Yr (ee D) vO ?_
    |refine wpList_store_mid rfl 62 _ _ rfl (w.1.size+2) 0 (ee D) rfl rfl F.2.1 Hr (all_oneCell_toArray F.1.2) ?_)
   exact bodyPost_ret (AM results67 _ _ (w.1.size+2) D _ rfl (Aa.range F.2.2.1) underlying62 rfl F2) rfl F.2.2.2
theorem ZL(e:Ed){a:Va}(H:Zk)(O:Nat)(h1:Bg w w.1.size a v)(h2:Iu w a v)(R:DM v)(zE:Ad w w.1.size H e.V)(zN:H=an->ed e.V=0/\O=0)(hl:ed e.V<=1048576)(ht:e.Y.size<=maxLen)(hn:e.T.size<=maxLen):
 Calls prog 67 #[ca (Xr v a),ca (Ye e.N e.s e.T e.M e.Y H (ed e.V) O)] w (VE v e w):=by
 have hR:∀X,Zz w X->Bg X X.1.size a v:=fun X m=>h1.U m;have hS:∀X,Zz w X->Ad X X.1.size H e.V:=fun X m=>zE.U m;have hP:BY v->∀X,Zz w X->Si X a v:=fun J X m=>(h2.cp h1 R J).A m;refine Afi v e _ _ _ _ _ _ _ _ _ _ _ _ _ _ _ _ _ H O (KSp v) ZSp w ⟨R.s,R.t⟩ (fun X m=>IV (hR X m) h2.cap R) ?_ (fun X m=>Wu e.N e.s e.T e.M e.Y O v.wd (hS X m) hl ht hn) ?_ ?_ ?_ ?_ ?_ ?_ (fun d X m=>Ve e.N e.s e.T e.M e.Y O v.wd (hS X m) hl ht hn) ?_ ?_ ?_ ?_
 .intro J X m;refine(TP (hP J X m)).mono ?_;rintro o I ⟨S,U,T,P,L,Q,M,rs,rfl,F,h5,h4⟩;obtain⟨sb,n1,zW,rfl⟩:=h5 S Yu;obtain⟨ub,n2,zZ,rfl⟩:=h5 U Yu;obtain⟨qb,n3,zC,rfl⟩:=h5 Q Yu;obtain⟨mb,n4,zB,rfl⟩:=h5 M Yu;obtain⟨⟨_,_,e1,_⟩,⟨_,_,e2,_⟩,⟨_,_,e3,_⟩,_,_,e4,_⟩:=F.s.row,F.u.row,F.q.row,F.m.row;cases e1;cases e2;cases e3;cases e4;exact⟨sb,zW,ub,zZ,T,P,L,qb,zC,mb,zB,rs,rfl,F,h4⟩
 .intro J X m;have G:=hP J X m;refine(Kr v.P v.G v.H v.E _ _ _ G.rows.st G.k G.p G.l G.nk G.np G.nl G.dz).mono ?_;rintro o I ⟨T,P,L,rs,rfl,u,J,t⟩;obtain⟨b,p,l,W,E,D,C,rfl,rfl,rfl,j,n,zK,zM⟩:=CT.of u J t.size;exact⟨_,[l],rfl,t,by simp;exact⟨zK,zM⟩,_,b,p,l,W,E,D,C,rfl,rfl,j,n⟩
 .rintro cs V X I ⟨f,b,p,l,W,E,D,C,rfl,rfl,j,n⟩ t;exact⟨f,b,p,l,W,E,D,C,rfl,rfl,j,n.A t⟩
 .rintro⟨r,d⟩ s cs V X m ⟨f,b,p,l,W,E,D,C,rfl,rfl,j,n⟩;have B:=d.fg;have zO:=d.same.1.1;have ha:=B.jn s ht;rw[<-j]at ha;rw[<-zO];refine(LG W e.s e.T O n ha (fun k K=>B.dz k gA) (hS X m) zN).mono ?_;rintro o I ⟨N,⟨c,p',q',zF,rfl⟩|⟨g,b1,zX,zY,yA,zU,zV,zS,zT,q,rfl,zP,zH⟩⟩
  .rw[j]at zF;exact⟨N,_,rfl,cr ⟨c,p',q',zF,rfl⟩⟩
  rw[j]at q;exact⟨N,[_,_,_,_,_,_,_,_,_,_,_,_],rfl,ct ⟨g,zX,zY,zU,zV,zS,zT,q,rfl,f,b1,yA,zP,zH⟩⟩
 .rintro g Y Z pa E la D X ⟨r,d⟩ s q ⟨f,b,C,j,n⟩ cb I t N;have zA:=Aec (d.tok.step s q);exact⟨f,b,C,j,n.je t (fun z h=>zA z.1 (by rw[<-j];exact List.mem_map.2 ⟨z,h,rfl⟩)) N⟩
 .rintro g Y Z pa E la D X ⟨f,b,C,j,n⟩ I t;exact⟨f,b,C,j,n.A t⟩
 .rintro⟨r,d⟩ s _ g Y Z pa E la D X q ⟨f,b,C,j,n⟩;obtain⟨B,zA,K⟩:=d.fg.step s q,d.tok.step s q,n.fq;rw[j]at K;exact TC v.wd g.G g.H g.E Z _ _ K B.bn.len (fun i k hi=>zA k (Zs hi))
 .rintro⟨r,d⟩ s g Y Z pa E la D X q ⟨f,b,C,j,n⟩;have B:=d.fg.step s q;have z:=n.srows;rw[j]at z;refine(Jz v.wd g.G g.H g.E Y pa la Z E D g.B g.ps g.ls X z (fun A u=> ?_) (Fs n.po) (Fs n.lo) B.bn.len B.np B.nl B.dz).mono ?_
  .rcases n.tb with h|h
   .rw[h]at u;cases u;rw[<-j];exact n.z.some
   rw[<-j,h];intro i k hi;simp at hi
  rintro o I ⟨T,P,L,rs,rfl,u,_,t⟩;exact⟨T,P,L,rs,rfl,u,t⟩
 .rintro⟨r,d⟩ s g X T2 P2 L2 yC n2 qb zC mb zB q u hq hm;have B:=d.fg.step s q;obtain⟨za,zc,rfl⟩:=AB u.aw;obtain⟨ya,yc,rfl⟩:=AB u.pins;obtain⟨ka,kc,rfl⟩:=AB u.bh;refine(Ru v.wd g.G g.H g.E zc _ _ (e.held g) v.I v.L v.K v.ro qb mb zC zB u.get.k (by have:=B.bn.len;omega) hq.ji hm.ji R.r d.round.dy.nq).mono ?_;rintro o I ⟨x,cx,y,cy,rfl,o1,o2,_,t⟩;exact⟨t,_,_,rfl,Ah.own o1,Ah.own o2⟩
 .rintro⟨r,d⟩ g q;have zG:=d.wd.1;refine⟨fun K he=> ?_,fun he=>FE (ct (cr fun A=> ?_))⟩
  .rcases q with⟨_,_,hl,hg,yB,b1,q,rfl⟩|⟨h,_⟩|⟨h,_⟩|⟨h,_⟩|⟨h,_⟩|⟨h,_⟩|⟨h,_⟩
   .have F:=Fe e.Y e.V v.wd zG;have zI:Bm e.Y e.V v.wd=⟨#[]⟩:=he;rw[zI]at F;have h4:((⟨#[]⟩:Zi).size:Int)=0:=rfl;omega
   all_goals omega
  rw[he]at A;obtain⟨k,K,zJ⟩:=A;have F:=q.sz zG d.fg.bn.sz k K;rw[zJ]at F;have h4:((⟨#[]⟩:Zi).size:Int)=0:=rfl;omega
 rintro⟨r,d⟩;refine⟨d.same.1.1,?_⟩;have:=Gr d.log;rw[List.length_append]at this;exact this
structure RX (wd births:Int) (ks:List Kd) (ps:List Pd) (ls:List Ld):Prop where
 b1:∀k∈ks,1<=k.born/\k.born<=births
 un:∀x∈ks,∀y∈ks,x.born=y.born->x=y
 rs:∀k∈ks,∀r∈k.C,(r.size:Int)=wd
 gz:∀p∈ps,(p.sum.size:Int)=wd
 ie:∀l∈ls,(l.sum.size:Int)=wd
theorem Hk{b:Int}{a:C5}(h:Dv b a)(c:As a s):(s.size:Int)=b:=by obtain⟨u,d,e⟩:=c;rw[<-e];exact h.sz u d
theorem RX.step{A a:Int}{u:C5}{z:C7}{w:C6}{F:Int}{C:Zi}{D:Int}{d:Zi}{c:Zl}(h:RX o a u z w)(t:Gk o A j a u z w)(i:Db o A j a u z w F s C D d c r):RX o r.E r.B r.ps r.ls:=by
 have m:∀(x:Ld),(x.sum.size:Int)=o->∀l∈w++[x],(l.sum.size:Int)=o:=λx n l g=>by
  rcases A5.1 g with g|g
  .exact h.ie l g
  rw[mem_singleton.1 g];exact n
 rcases i with⟨rfl,q,g,J,G,H,i,rfl⟩|⟨_,q,_,rfl⟩|⟨_,_,rfl⟩|⟨_,q,_,_,rfl⟩|⟨_,_,rfl⟩|⟨_,_,rfl⟩|⟨_,_,_,rfl⟩
 .rcases i with⟨_,_,_,_,rfl,rfl⟩|⟨_,_,_,rfl,rfl⟩
  .exact⟨h.b1,h.un,h.rs,h.gz,m _ (Fe _ _ _ t.w1)⟩
  have v:∀k∈DS u ⟨Bm d c o,a+1,d,c⟩,k=⟨Bm d c o,a+1,d,c⟩\/k∈u:=λk f=>Bh.1 ((OB u _).mem_iff.1 f);have I:=t.bi;refine⟨λk f=> ?_,λx n y i e=> ?_,λk f r b=> ?_,h.gz,m _ (Fe _ _ _ t.w1)⟩
  .rcases v k f with rfl|f
   .exact⟨by show 1<=a+1;omega,Int.le_refl _⟩
   have:=h.b1 k f;exact⟨this.1,by show _<=a+1;omega⟩
  .rcases v x n with rfl|n<;>rcases v y i with rfl|i
   .rfl
   .have:=(h.b1 y i).2;have E:a+1=y.born:=e;omega
   .have:=(h.b1 x n).2;have E:x.born=a+1:=e;omega
   exact h.un x n y i e
  rcases v k f with rfl|f
  .exact Hk t.bn (q r b)
  exact h.rs k f r b
 .refine⟨h.b1,h.un,h.rs,λp B=> ?_,h.ie⟩;have b:p∈Bj z C s:=B;unfold Bj at b;rcases A5.1 b with b|b
  .rcases A5.1 b with b|b
   .exact h.gz p (A8.1 b).1
   rw[mem_singleton.1 b];exact Hk t.bn q
  exact h.gz p (A8.1 b).1
 .exact⟨h.b1,h.un,h.rs,λp B=>h.gz p (A8.1 B).1,h.ie⟩
 .exact⟨h.b1,h.un,h.rs,h.gz,m _ (Hk t.bn q)⟩
 .exact⟨h.b1,h.un,h.rs,h.gz,λl g=>h.ie l (A8.1 g).1⟩
 .exact⟨h.b1,h.un,h.rs,h.gz,λl g=>h.ie l (A8.1 g).1⟩
 exact⟨λk f=>h.b1 k (A8.1 f).1,λx n y i e=>h.un x (A8.1 n).1 y (A8.1 i).1 e,λk f=>h.rs k (A8.1 f).1,h.gz,h.ie⟩
theorem Cc.rx{a:Int}:∀{xs:Zl} {r r':Rs},Cc a r xs r'->r.ok a->RX a r.E r.B r.ps r.ls->RX a r'.E r'.B r'.ps r'.ls
 |[],r,r',h,_,hx=>by obtain rfl:r'=r:=h;exact hx
 |x::xs,r,r',h,hr,hx=>by obtain⟨d,b,c⟩:=h;exact Cc.rx c (b.ok hr) (hx.step hr b.2)
def PN(ps:List Pd):Prop:=∀p∈ps,p.name.size<=40
theorem PN.step{n b:Int}{u:C5}{v:C6}{m:Int}{j:Zi}{i:Int}{d:Zi}{c:Zl}(h:PN k)(q:Ca m s j i d c n=ay)(l:Db n o e b u k v m s j i d c r):PN r.ps:=by
 have t:=(FV q).2.2.name;rcases l with⟨rfl,g,z,y,w,x,l,rfl⟩|⟨_,g,_,rfl⟩|⟨_,_,rfl⟩|⟨_,g,_,_,rfl⟩|⟨_,_,rfl⟩|⟨_,_,rfl⟩|⟨_,_,_,rfl⟩
 .exact h
 .intro p a;have f:p∈Bj k j s:=a;unfold Bj at f;rcases A5.1 f with a|a
  .rcases A5.1 a with a|a
   .exact h p (A8.1 a).1
   rw[mem_singleton.1 a];exact t
  exact h p (A8.1 a).1
 .exact λp a=>h p (A8.1 a).1
 .exact h
 .exact h
 .exact h
 exact h
theorem Cc.pn{c:Int}:∀{xs:Zl} {r r':Rs},Cc c r xs r'->PN r.ps->PN r'.ps
 |[],r,r',h,hr=>by obtain rfl:r'=r:=h;exact hr
 |x::xs,r,r',h,hr=>by obtain⟨d,a,b⟩:=h;exact Cc.pn b (hr.step (GJ a.1).1 a.2)
theorem Bo.jx(h:Bo v r):RX v.wd v.E v.B v.ps v.ls/\PN v.ps:=by have c:RX v.wd r.E r.B r.ps r.ls:=h.run.rx (Fq h.wd.1 h.wd.2) ⟨by simp[r0],by simp[r0],by simp[r0],by simp[r0],by simp[r0]⟩;have b:=h.run.pn (by intro p g;cases g);have⟨⟨_,_,_,d⟩,e,a,f⟩:=h.same;rw[d,e,a,f]at c;rw[a]at b;exact⟨c,b⟩
structure ZM (v:Vd):Prop where
 fit:DM v
 sm:∀k∈v.B,ThB k
 st:YU v.B v.ps v.ls
 lg:BR v.ss v.D=ay
 rq:ed v.F<=30000/\ed v.ms<=30000
theorem Dn{a b:Zl}:BR a b=ay↔ed a+ed b<=4000/\∀s∈a++b,s.size<=5000:=by unfold BR;rw[Bool.and_eq_true,decide_eq_true_iff,all_eq_true];simp only[decide_eq_true_iff]
theorem Ex.lg{e:Ed}{d:Dd}(h:Ex v e d)(g:BR v.ss v.D=ay):BR d.v.ss d.v.D=ay:=by
 rcases h with⟨_,rfl⟩|⟨⟨r,l⟩,⟨c,a,b,_,rfl⟩|⟨n,i,rfl⟩⟩
 .rfl
 .exact g
 have j:=Dn.1 g;have m:=i.2.2.2;refine Dn.2 ⟨?_,λs k=> ?_⟩
 .show (ed v.ss)+ed (v.D++[e.cf v.wd])<=4000;rw[Am,length_singleton];omega
 have f:s∈v.ss++(v.D++[e.cf v.wd]):=k;rw[<-append_assoc]at f;rcases A5.1 f with h|h
 .exact j.2 s h
 rw[mem_singleton.1 h];exact Ed.dw i.1
def RV(n:Nat)(w:Zh)(vs:Zj):Prop:=∃u,ZM u/\∀V X',(∀b∈V,b<n)->Tn V w X'->GL u X'.1.size X' vs
theorem RV.O{c:Zh}(h:RV n w a)(j:Tn V w c)(g:∀b∈V,b<n):RV n c a:=by
 obtain⟨u,i,h⟩:=h;refine⟨u,i,λe f d hT=>h (V++e) f (λb e=> ?_) ((j.ah gA).ag (hT.ah gA))⟩;rcases A5.1 e with h|h
 .exact g b h
 exact d b h
theorem RV.A{b:Zh}(h:RV n w a)(c:Zz w b):RV n b a:=h.O (V:=[]) (Tn.of c) Yu
theorem RV.mono(h:RV n w a)(f:m<=n):RV m w a:=by obtain⟨u,e,h⟩:=h;exact⟨u,e,λV c d=>h V c (λb c=>Zr (d b c) f)⟩
abbrev RV.ah:=@RV.mono
theorem RV.G{b:Zj}(h:RV n w b):∃u a,ZM u/\b=AV u (Cx a.y (ed u.ss) a.sc) (Cx a.ta (ed u.D) a.d) (Cx a.W (ed u.B) a.j) (Cx a.Z (ed u.ps) a.g) (Cx a.X (ed u.ls) a.e) (Cx a.qa (ed u.F) a.qc) (Cx a.i (ed u.ms) a.mc)/\Bg w w.1.size a u/\Iu w a u:=by obtain⟨u,c,h⟩:=h;have⟨a,h⟩:=h [] w Yu (Tn.of Ae);exact gG
theorem RV.len{b:Zj}(h:RV n w b):ed b=17/\∀u∈b,u.oneCell'=ay:=by obtain⟨u,a,_,rfl,_⟩:=h.G;exact⟨rfl,by simp[AV,oneCell']⟩
def Iv(p:Nat->Prop)(w:Zh)(vs:Zj):Prop:=∃u,ZM u/\∀V X',(∀b∈V,p b)->Tn V w X'->GL u X'.1.size X' vs
theorem Iv.O{p:Nat->Prop}{c:Zh}(h:Iv p w a)(j:Tn V w c)(g:∀b∈V,p b):Iv p c a:=by
 obtain⟨u,i,h⟩:=h;refine⟨u,i,λe f d hT=>h (V++e) f (λb e=> ?_) ((j.ah gA).ag (hT.ah gA))⟩;rcases A5.1 e with h|h
 .exact g b h
 exact d b h
theorem Iv.A{p:Nat->Prop}{b:Zh}(h:Iv p w a)(c:Zz w b):Iv p b a:=h.O (V:=[]) (Tn.of c) Yu
theorem RV.p{p:Nat->Prop}(h:RV n w a)(f:∀b,p b->b<n):Iv p w a:=by obtain⟨u,e,h⟩:=h;exact⟨u,e,λV c d=>h V c (λb c=>f b (d b c))⟩
theorem Iv.zero{p:Nat->Prop}(h:Iv p w a):RV 0 w a:=by obtain⟨u,e,h⟩:=h;exact⟨u,e,λV c d hT=>h V c (λb c=>absurd (d b c) (Nat.not_lt_zero b)) hT⟩
def RB(b:Nat)(ads:List (Zk))(zs:List (Kd×Value))(g:Nat):Prop:=
 g=b\/(∃p,ai p∈ads/\p.block=g)\/∃z∈zs,z.1.C≠[]/\∃ad rc,z.2=bx (ai ad) (ed z.1.C) rc/\ad.block=g
structure RR (w:Zh) (V:List Nat) (a:Va) (b:Nat) (zs:List (Kd×Value)) (v:Vd):Prop where
 W:a.W=ai ⟨b,0,an⟩
 zk:zs.map (·.1)=v.B
 z:BO w b 0 zs
 s:Ad w w.1.size a.y v.ss
 p:Bd w w.1.size a.Z v.ps
 l:Ba w w.1.size a.X v.ls
 q:Ad w w.1.size a.qa v.F
 m:Ad w w.1.size a.i v.ms
 cs:a.y=an->ed v.ss=0/\a.sc=0
 cp:a.Z=an->a.g=0
 cl:a.X=an->a.e=0
 cq:Ir a.qa (ed v.F) a.qc
 cm:Ir a.i (ed v.ms) a.mc
 lt:∀g,RB b [a.y,a.Z,a.X,a.qa,a.i] zs g->g<w.1.size
 ap:∀g,RB b [a.y,a.Z,a.X,a.qa,a.i] zs g->g∉V
theorem YE{c:List (Kd×Value)}(h:BO w b 0 c){z:Kd×Value}(d:z∈c):∃a e,z.2=Cx (ai a) (ed z.1.C) e/\Ad w w.1.size (ai a) z.1.C:=by have⟨i,a⟩:=A3 d;exact(h i z a).2
theorem RR.O{m:Zh}{U:List Nat}{a:Va}{j:List (Kd×Value)}(h:RR w V a b j v)(d:Tn U w m)(o:∀g∈U,g∈V\/w.1.size<=g):RR m V a b j v:=by
 have c:∀g,RB b [a.y,a.Z,a.X,a.qa,a.i] j g->g∉U:=λg i k=>by
  rcases o g k with f|f
  .exact h.ap g i f
  have:=h.lt g i;omega
 refine⟨h.W,h.zk,Rp h.z (d.block b (h.lt b (cr rfl)) (c b (cr rfl))) (λz k=> ?_),h.s.O d (λp e _=>c _ (ct (cr ⟨p,by simp[e],rfl⟩))),h.p.O d (λp e _=>c _ (ct (cr ⟨p,by simp[e],rfl⟩))),h.l.O d (λp e _=>c _ (ct (cr ⟨p,by simp[e],rfl⟩))),h.q.O d (λp e _=>c _ (ct (cr ⟨p,by simp[e],rfl⟩))),h.m.O d (λp e _=>c _ (ct (cr ⟨p,by simp[e],rfl⟩))),h.cs,h.cp,h.cl,h.cq,h.cm,λg i=>Zr (h.lt g i) d.size,h.ap⟩;have⟨i,l,f,n⟩:=YE h.z k;refine⟨i,l,f,?_⟩;by_cases hr:z.1.C=[]
 .exact cr hr
 exact n.O d (λp e _=>by cases e;exact c _ (ct (ct ⟨z,k,hr,i,l,f,rfl⟩)))
theorem RR.clear{c:List Nat}{a:Va}{f:List (Kd×Value)}(h:RR w V a b f v)(i:∀g∈c,g∈V\/w.1.size<=g):RR w c a b f v:=
 ⟨h.W,h.zk,h.z,h.s,h.p,h.l,h.q,h.m,h.cs,h.cp,h.cl,h.cq,h.cm,h.lt,λg e j=>by
  rcases i g j with d|d
  .exact h.ap g e d
  have:=h.lt g e;omega⟩
theorem Afj{i:Nat}(a j:Nat){U:Dg}{b:Zl}(t:Zi)(h:Ah X i U b)(o:∀g,Aj U=ai g->g≠a)(s:a<X.1.size)(dm:i<=X.1.size)(v:ed b<=100000000):
 ∃c d Y,(Builtin.append_ #[23,23] 23 #[U,Yz X.1.size 1 1]).run prog (X.alloc (bs #[C0 t] 9))=.ok (Cx c (ed b+1) d) Y/\Y.1[a]?=X.1[a]? /\Tn (a::(Aj U).toList) X (el Y (Zd a j) (Cx c (ed b+1) d))/\Ah (el Y (Zd a j) (Cx c (ed b+1) d)) i (Cx c (ed b+1) d) (b++[t])/\∀g,Aj (Cx c (ed b+1) d)=ai g->Aj U=ai g\/X.1.size<=g:=by
 have m:bg X.1.size X (X.alloc (bs #[C0 t] 9)):=gB;obtain⟨w,Y,r,n,p,q⟩:=KZ (h.A m) ⟨X.1.size,0,an⟩ 1 t gA v Yt 23;obtain⟨c,d,rfl,_⟩:=n.row;rw[Am,length_cons,length_nil,Ax]at r n q;have l:∀g,Aj (Cx c (ed b+1) d)=ai g->Aj U=ai g\/X.1.size<=g:=λg e=>by
  rcases q with f|f
  .rw[f]at e;exact cr e
  rw[f]at e;have:=A2 e;simp at this;exact ct Yv
 have u:Y.1[a]?=X.1[a]?:=(p.block a Yt (λe=>o a e.symm rfl)).ag (m.block a s);refine⟨c,d,Y,r,u,((Tn.of (V:=[]) m).ah Yu).ag (((CX p).ah gA).ag (Tn.set _ _ _ _ Yu)),n.O (Bi Y a j _) (λg e k=> ?_),l⟩;simp at k;subst k;rcases l g e with f|f
 .exact o g f rfl
 omega
theorem TQ(a:Aa X (w.1.size+1) (z20 0)/\Zz w X):X.there (w.1.size+1) 0 20/\(ee (z20 1)).all (·.oneCell')=ay/\Aa (X.setCells (w.1.size+1) 0 (z20 1)) (w.1.size+1) (z20 1)/\Zz w (X.setCells (w.1.size+1) 0 (z20 1)):=
 ⟨a.1.there,by simp[z20,oneCell'],a.1.ax _ rfl,a.2.ag ((Ap _ _ _ _).A a.2.size Yu)⟩
def oC(v:Vd)(a:Va)(D:Value)(n:Nat)(u:UR):Zj:=OF 0 (AV (DD v u) (bx a.y (ed v.ss) a.sc) (bx a.ta (ed (DD v u).D) a.d) (bx a.W (ed u.B) a.j) (bx a.Z (ed v.ps) a.g) (bx a.X (ed v.ls) a.e) (bx a.qa (ed u.F) a.qc) (bx a.i (ed u.ms) a.mc)) n D
structure SLp (v:Vd) (lo ob:Nat) (a:Va) (b:Nat) (zs:List (Kd×Value)) (D:Value) (n:Nat) (u:UR) (w:Zh):Prop where
 box:Aa w ob (oC v a D n u)
 rr:RR w (ob::((Aj (bx a.ta (ed (DD v u).D) a.d)).toList++(Aj D).toList)) a b zs (DD v u)
 uo:Ah w lo (bx a.ta (ed (DD v u).D) a.d) (DD v u).D
 R:Ah w lo D u.ds
 ud:∀g,Aj (bx a.ta (ed (DD v u).D) a.d)=ai g->g≠ob/\Aj D≠ai g
 dd:∀g,Aj D=ai g->g≠ob
 lob:lo<=ob
theorem SLp.A{d e:Nat}{a:Va}{g:List (Kd×Value)}{D:Dg}{f:Zh}(h:SLp v d e a b g D n u w)(c:Zz w f):SLp v d e a b g D n u f:=
 ⟨Aa.A (v:=Ze) h.box c,h.rr.O (U:=[]) (Tn.of c) Yu,h.uo.A c,h.R.A c,h.ud,h.dd,h.lob⟩
theorem Gi.lg{a:Int}{b d:Zl}{c:Int}(h:Gi e a b d c v):BR v.ss v.D=ay:=by
 rcases h with⟨_,_,rfl⟩|⟨g,⟨_,_,rfl⟩|⟨r,f,_,rfl⟩⟩
 .rfl
 .rfl
 exact g.2.2
theorem Aee.lg(h:Aee v (ai (u,n)))(f:BR v.ss v.D=ay):BR (DD v u).ss (DD v u).D=ay:=by
 obtain⟨⟨r,g⟩,d⟩:=h _ rfl;have b:=d.df;have c:=Dn.1 f;rw[Am]at b;simp only at b;refine Dn.2 ⟨?_,λs e=> ?_⟩
 .show (ed v.ss)+ed (v.D++u.ds.map (DQ v.wd))<=4000;rw[Am,A7];omega
 have a:s∈v.ss++(v.D++u.ds.map (DQ v.wd)):=e;rw[<-append_assoc]at a;rcases A5.1 a with h|h
 .exact c.2 s h
 obtain⟨x,_,rfl⟩:=mem_map.1 h;exact YC v.wd x
theorem Mf(a:Int)(n:Nat)(h:0<=a):a.tmod (n:Int)=((a.toNat%n:Nat):Int):=by
 rw[Int.tmod_eq_emod_of_nonneg h];have:a=(a.toNat:Int):=Yv;rw[this];simp
theorem VF{b:Zh}{a:Zl}{u1 u2 u3:Dg}(d:Zz w b)(e:b.ownsRow n 9 1 (Yz g (ed a) c) (ed a) (a.map string))(f:w.1.size+4<=n):
 (el (el (el b (Zd (w.1.size+1+1+1) 1) u1) (Zd (w.1.size+1+1) 0) u2) (Zd (w.1.size+1+1) 1) u3).ownsRow w.1.size 9 1 (Yz g (ed a) c) (ed a) (a.map string)/\Zz w (el (el (el b (Zd (w.1.size+1+1+1) 1) u1) (Zd (w.1.size+1+1) 0) u2) (Zd (w.1.size+1+1) 1) u3):=by
 have t:Tn [w.1.size+1+1+1,w.1.size+1+1] b (el (el (el b (Zd (w.1.size+1+1+1) 1) u1) (Zd (w.1.size+1+1) 0) u2) (Zd (w.1.size+1+1) 1) u3):=((Tn.set _ _ _ _ Yu).ag (Tn.set _ _ _ _ Yu)).ag (Tn.set _ _ _ _ Yu);exact⟨(DJ e t Yt).ah Yv,d.ag (t.A d.size Yt)⟩
structure ZN (w wr:Zh) (b:Nat) (a:Zk) (n c:Nat) (p k:Int) (q:Nat) (vs:Zj):Prop where
 rd:∃p',AP wr b a n c p'/\p<=p'/\p'<=p+k
 gr:ek w wr (ai b)
 z:Aa wr w.1.size BG
 x:Aa wr q vs
 rv:Iv (fun g=>g<=w.1.size\/g=q) wr vs
 lt:w.1.size<q
theorem ZN.br{wr:Zh}{a:Zk}{p k:Int}{d:Zj}(h:ZN w wr b a n c p k q d)(f:ek wr X (ai b))(j:b<w.1.size):Aa X q d/\Iv (fun g=>g<=w.1.size\/g=q) X d/\Aa X w.1.size BG/\ek w X (ai b):=by
 have m:=h.lt;refine⟨?_,h.rv.O (Tn.grown (V:=[b]) f Yu) Yt,h.z.az f Yv,AF h.gr f⟩;obtain⟨v,l,e⟩:∃v l,d=v::l:=by
  have:=h.rv.zero.len.1;cases d with
  |nil=>simp at this
  |cons v l=>exact⟨v,l,rfl⟩
 have i:=h.x;rw[e]at i |-;exact i.az f Yv
theorem RV.new{n0:Nat}{b c:Zh}(h:RV m b f)(n:n0<m)(a:Zz b c):Iv (λg=>g<=n0\/g=b.1.size) c f:=by
 obtain⟨u,l,h⟩:=h;refine⟨u,l,λV d k hT=>h (V.filter (·<=n0)) d (λg d=>by have:=(A8.1 d).2;simp at this;omega) ⟨hT.os.ag a.os,hT.tape.ag a.tape,hT.output.ag a.output,Zm a.size hT.size,λi d j=>(hT.block i (Zr d a.size) (λj=> ?_)).ag (a.block i d)⟩⟩;rcases k i j with e|e
 .exact gA
 omega
theorem ZN.put{a:Zk}{p k:Int}{j d:Zj}(A:∃h,AP X b a n c h/\p<=h/\h<=p+k)(f:ek w X (ai b))(s:Aa X w.1.size BG)(r:Aa X q j)(y:ed j=17)(o:Iv (fun g=>g<=w.1.size\/g=q) X d)(z:w.1.size<q)(B:b<w.1.size):
 (ed d=17/\∀u∈d,u.oneCell'=ay)/\X.there q 0 (ee d).size/\ZN w (X.setCells q 0 (ee d).toList) b a n c p k q d:=by
 have l:=o.zero.len;have e:=Ap q d 0 X;refine⟨l,?_,?_,?_,?_,?_,o.O e Yu,z⟩
 .rw[show (ee d).size=ed j from by rw[List.size_toArray,y];exact l.1];exact r.there
 .obtain⟨h,v,x⟩:=A;exact⟨h,v.O e Yt Yt,x⟩
 .exact⟨e.os.trans f.os,e.tape.trans f.tape,e.output.trans f.output,Zm f.size e.size,fun i m t=>(e.block i (Zr m f.size) Yt).trans (f.block i m t)⟩
 .exact Aa.same s (e.block _ s.lt Yt)
 exact r.ax d Yv
structure ZO (w:Zh) (b:Nat) (a:Zk) (n c:Nat) (p:Int) (q:Nat) (wd now given births:Int) (T P L:Value) (zs:List (Kd×Value)) (ps:List Pd) (ls:List Ld) (X:Zh):Prop where
 box:Aa X q [Zg wd,Zg now,Zg given,Zg births,T,P,L]
 st:KR X (w.1.size+2) q T P L zs ps ls
 z:Aa X (w.1.size+1) z7
 rd:AP X b a n c p
 gr:ek w X (ai b)
 q:w.1.size+2<=q
theorem ZO.M{a:Zk}{p:Int}{l g:Int}{zs:List (Kd×Value)}(h:ZO w b a n c p q l g e d T P L zs k i X)(r:b<w.1.size)(j:Nat)(s:j<4)(x:Int):SpE w b a n c p 0 q (el X (Zd q j) (Zg x)):=by
 have t:=h.q;have f:=Bi X q j (Zg x);refine⟨?_,Aa.same h.z (f.block _ h.z.lt Yt),⟨p,h.rd.O f Yt Yt,Yv,Yv⟩,Me h.gr f Yt⟩;have m:=h.box.set j (Zg x);have o:=h.st.O f Yu;rcases(show j=0\/j=1\/j=2\/j=3 by omega)with rfl|rfl|rfl|rfl
 .exact gG
 .exact gG
 .exact gG
 exact gG
theorem ZO.same{a:Zk}{p:Int}{f:Int}{k:List (Kd×Value)}{i:List Pd}{g:List Ld}(h:ZO w b a n c p q j f e d T P L k i g X):SpE w b a n c p 0 q X:=
 ⟨⟨_,_,_,_,_,_,_,_,_,_,h.box,h.st⟩,h.z,⟨p,h.rd,Yv,Yv⟩,h.gr⟩
theorem Hl{a:Nat}{e b:TypeId}{v:Dg}{l:Zj}{f:Array Value}(h:w.ownsRow a e size v n l)(k:v.ownBlock=ai g)(j:w.1[g]?=ai (bs f b))(i:b≠e):False:=by have⟨c,d⟩:=BN h k;rw[j]at d;cases d;exact i rfl
theorem VH{a:Nat}{e:TypeId}{v:Dg}(h:w.ownsRow a e size v n f):v=Zb/\n=0\/∃g b,v=Yz g n b/\a<=g:=by
 rcases h.2 with c|⟨g,b,i,rfl,d,_⟩
 .exact cr c
 exact ct ⟨g,b,rfl,d⟩
theorem Iv.off{p:Nat->Prop}{z:Zj}(h:Iv p w z):∃(u:Vd) (a:Va) (l:Zj),ZM u/\z=AV u (bx a.y (ed u.ss) a.sc) (bx a.ta (ed u.D) a.d) (bx a.W (ed u.B) a.j) (bx a.Z (ed u.ps) a.g) (bx a.X (ed u.ls) a.e) (bx a.qa (ed u.F) a.qc) (bx a.i (ed u.ms) a.mc)/\Bc w 0 (bx a.W (ed u.B) a.j) (bx a.Z (ed u.ps) a.g) (bx a.X (ed u.ls) a.e) l u.B u.ps u.ls/\∀g∈BJ (bx a.W (ed u.B) a.j) (bx a.Z (ed u.ps) a.g) (bx a.X (ed u.ls) a.e) l,¬p g:=by
 obtain⟨u,M,h⟩:=h;have⟨a,t,_,K⟩:=h [] w Yu (Tn.of Ae);have⟨l,hS,_⟩:=K.so;refine⟨u,a,l,M,t,hS,λg c f=> ?_⟩;have B:=hS.dj g c;have⟨X,v⟩:∃X:Zh,X={w with heap:=w.1.setIfInBounds g (bs #[] 30)}:=⟨_,rfl⟩;have j:X.1[g]?=ai (bs #[] 30):=by rw[v];simp[B]
 have hT:Tn [g] w X:=by rw[v];exact⟨rfl,rfl,rfl,Yu,λb _ d=>by simp at d;simp[Ne.symm d]⟩
 obtain⟨U,q,_,L⟩:=h [g] X (C9 f) hT;have⟨k,d,_⟩:=L.so;rw[t]at q;simp only[AV,List.cons.injEq]at q;obtain⟨_,_,_,_,_,_,_,_,J,I,H,_⟩:=q;rw[<-J,<-I,<-H]at d;generalize hTv:slice a.W (ed u.B) a.j=T at *
 by_cases hTg:T.ownBlock=ai g
 .exact Hl d.aw hTg j Yq
 unfold BJ at c;simp only[A5,A6,mem_filterMap]at c;rcases c with c|c|c|⟨r,O,c⟩
 .exact hTg c
 .exact Hl d.pins c j Yq
 .exact Hl d.bh c j Yq
 obtain⟨i,x⟩:=A3 O;have m:=(Zw x).1;rw[hS.len]at m;have s:=Zv m;have n:i<ed k:=by rw[d.len];exact m
 have o:=Zv n;have Q:(u.B.zip l)[i]?=ai (u.B[i],r):=getElem?_zip_eq_some.2 ⟨s,x⟩;have R:(u.B.zip k)[i]?=ai (u.B[i],k[i]):=getElem?_zip_eq_some.2 ⟨s,o⟩;have D:=Cy Jl Q (show 3<4 by decide);have E:=Cy Jl R (show 3<4 by decide);rcases VH hS.aw with⟨N,_⟩|⟨gT,S,P,_⟩
 .rw[N]at hTv;have:ed u.B=0:=by injection hTv
  omega
 subst P;have A:=Ab hS.aw (g:=gT) rfl;have F:=hS.aw.cellAt (i *4+3) Yv;have G:=d.aw.cellAt (i *4+3) Yv;have f:X.cell? (Zd gT (i *4+3))=w.cell? (Zd gT (i *4+3)):=cell?_of_block (a:=⟨gT,i *4+3,an⟩) (hT.block gT A.2 (by simp;intro e;exact hTg (by rw[e];rfl)));rw[F,G,D,E]at f;have C:k[i]=r:=by injection f
 have y:=d.C i _ _ s o;rw[C]at y;exact Hl y c j Yq
def Ju(ps:List Pd)(ls:List Ld)(births:Int)(u r:UR):Prop:=UTo u.B ps ls births u.I u.L u.K u.ro u.F u.ms r
structure LI (wd births:Int) (ps:List Pd) (ls:List Ld) (free:Nat) (u:UR):Prop where
 ok:UOk wd births u.B ps ls u.I u.ro u.F u.ms
 un:∀x∈u.B,∀y∈u.B,x.born=y.born->x=y
 ql:ed u.F<=23200
 ml:ed u.ms<=600
 dl:ed u.ds+ed u.B<=600
 df:ed u.ds<=free
theorem Sk(h:Bo v r):LI v.wd v.E v.ps v.ls (4000 -ed (v.ss++v.D)) (Eg v):=by
 have a:=h.fg;have c:RX v.wd r.E r.B r.ps r.ls:=h.run.rx (Fq h.wd.1 h.wd.2) ⟨by simp[r0],by simp[r0],by simp[r0],by simp[r0],by simp[r0]⟩;have⟨⟨_,_,_,e⟩,f,g,i⟩:=h.same;rw[e,f,g,i]at c;have b:=h.round;have l:=b.dy.nq;have j:=b.dy.T;refine⟨⟨a.bn,λk d=>(c.b1 k d).1,λk d=>⟨a.dz k d,c.rs k d⟩,a.np,a.nl,c.gz,c.ie,a.bi,a.aj,?_,b.ig,b.jg,b.dy.q,b.dy.m,by show ed v.F<=_;omega,by show ed v.ms<=_;omega⟩,c.un,by show ed v.F<=_;omega,by show ed v.ms<=_;omega,by show 0+ed v.B<=600;have:=a.bn.len;omega,Aw _⟩;rcases b.I with h|h|h
 .exact cr h.1
 .exact ct (cr h.1)
 exact ct (ct h.1)
theorem TR{j:C7}(m:∀p∈j,(p.sum.size:Int)=d)(k:∀l∈i,(l.sum.size:Int)=d):∀x∈DK j i,(x.size:Int)=d:=by
 have b:∀(f c:Zl),(∀x∈f,(x.size:Int)=d)->(∀x∈c,(x.size:Int)=d)->∀x∈f.foldl BE c,(x.size:Int)=d:=by
  intro f;induction f with
  |nil=>intro c _ h x a;exact h x a
  |cons y ys ih=>
   intro c e g;refine ih _ (λx a=>e x (mem_cons_of_mem _ a)) (λx a=> ?_);unfold BE at a;split at a
   .exact g x a
   rcases A5.1 a with a|a
   .exact g x a
   rw[mem_singleton.1 a];exact gA
 unfold DK;refine b _ _ (λx a=> ?_) (b _ _ (λx a=> ?_) Yu)
 .obtain⟨l,e,rfl⟩:=mem_map.1 a;exact k l e
 obtain⟨p,e,rfl⟩:=mem_map.1 a;exact m p e
theorem LI.step{g b:Int}{p:C7}{o:C6}{r:UR}(h:LI g b p o free u)(z:Ju p o b u r)(G:u.ro≠1000000000)(D:ed r.F<=23200)(C:ed r.ms<=600)(n:r.ds=[]\/ed u.ds<free):LI g b p o free (u.and r):=by
 obtain⟨a,f,d⟩:=UTo.sub z,h.ok.r1,h.ok.r0;have hlen:=a.length_le;have A:Dv g r.B:=by have k:=h.ok.ok;exact⟨k.nd.sublist (a.map _),k.ff.sublist (a.map _),λx c=>k.sz x (a.subset c),λx c=>k.C x (a.subset c),Zm hlen k.len,k.w8⟩
 have B:∀x∈r.B,∀y∈r.B,x.born=y.born->x=y:=λx c y i e=>h.un x (a.subset c) y (a.subset i) e;have m:∀k∈r.B,1<=k.born:=λk l=>h.ok.born k (a.subset l);have hrefs:∀k∈r.B,ed k.C<=30/\∀r∈k.C,(r.size:Int)=g:=λk l=>h.ok.C k (a.subset l);have i:∀(t:r.I=0\/r.I=1\/r.I=2) (j:0<=r.ro) (w:r.ro<=1000000000) (v:∀x∈r.F,(x.size:Int)=g) (q:∀x∈r.ms,(x.size:Int)=g),(ed r.ds+ed r.B<=ed u.B)->ed r.ds<=1->LI g b p o free (u.and r):=λt j w v q E E=>by
  have F:=h.dl;have E:=h.df;refine⟨⟨A,m,hrefs,h.ok.pl,h.ok.ll,h.ok.gz,h.ok.ie,h.ok.b0,h.ok.b1,t,j,w,v,q,by show ed r.F<=_;omega,by show ed r.ms<=_;omega⟩,B,D,C,?_,?_⟩
  .show ed (u.ds++r.ds)+ed r.B<=600;rw[Am];omega
  show ed (u.ds++r.ds)<=free;rw[Am];rcases n with n|n
  .rw[n,length_nil];omega
  omega
 cases z with
 |begin j=>exact i (ct (cr rfl)) d f (TR h.ok.gz h.ok.ie) h.ok.iq Yu Yu
 |mark j s q0 qs' ms' hqq hmm=>
  have q:∀x∈q0,(x.size:Int)=g:=λx c=>h.ok.jo x gA;have t:(s.size:Int)=g:=h.ok.jo s gA;rcases hmm with⟨_,rfl,rfl⟩|⟨k,l,_,_,rfl,rfl⟩
  .exact i h.ok.jr d f q h.ok.iq Yu Yu
  refine i h.ok.jr d f (λx c=> ?_) (λx c=> ?_) Yu Yu
  .rcases A5.1 c with c|c
   .exact q x c
   exact(h.ok.C k l).2 x (A8.1 c).1
  rcases A5.1 c with c|c
  .exact h.ok.iq x c
  rw[mem_singleton.1 c];exact t
 |rest j hqq hn=>exact i (cr rfl) Yt Yt Yu Yu Yu Yu
 |ak j hqq x c l=>exact i (ct (ct rfl)) d f Yu h.ok.iq Yu Yu
 |drop j hqq x c hmm l=>
  refine i (ct (ct rfl)) d f Yu h.ok.iq ?_ Yu;have j:ed (Ch u.B x.sum)<ed u.B:=by unfold Ch;exact length_filter_lt_length_iff_exists.2 ⟨x,c.1,Yu⟩
  show 1+ed (Ch u.B x.sum)<=ed u.B;omega
theorem UTo.some{ps:C7}{c:C6}{a:Int}{r:UR}(h:Ju ps c a u r)(b:r.ds≠[]):r.F=[]/\r.ms=u.ms/\∃s,r.ds=[s]:=by
 cases h with
 |begin h0=>exact absurd rfl b
 |mark h0 s q0 qs' ms' hqq hmm=>exact absurd rfl b
 |rest h0 hqq hn=>exact absurd rfl b
 |ak h0 hqq x hx hk=>exact absurd rfl b
 |drop h0 hqq x hx hmm hk=>exact⟨rfl,rfl,_,rfl⟩
inductive ClTo (births:Int) (ps:List Pd) (ls:List Ld) (free units:Nat):Nat->UR->Option (UR×Nat)->Prop
 |fin (n:Nat) (u:UR) (h:units<=n):ClTo births ps ls free units n u (ai (u,n))
 |old (n:Nat) (u:UR) (h:n<units) (hr:u.ro=1000000000):ClTo births ps ls free units n u an
 |full (n:Nat) (u r:UR) (h:n<units) (hr:u.ro≠1000000000) (ht:Ju ps ls births u r) (hd:r.ds≠[]) (hf:¬ed u.ds<free):ClTo births ps ls free units n u (ai (u,n))
 |long (n:Nat) (u r:UR) (h:n<units) (hr:u.ro≠1000000000) (ht:Ju ps ls births u r) (hl:23200<ed r.F\/600<ed r.ms):ClTo births ps ls free units n u an
 |step (n:Nat) (u r:UR) (o:Option (UR×Nat)) (h:n<units) (hr:u.ro≠1000000000) (ht:Ju ps ls births u r) (hq:ed r.F<=23200) (hm:ed r.ms<=600) (hf:r.ds=[]\/ed u.ds<free) (hs:ClTo births ps ls free units (n+1) (u.and r) o):ClTo births ps ls free units n u o
theorem ClTo.dq{q c:Int}{l:C7}{k:C6}{p:Option (UR×Nat)}(s:ClTo c l k free g n u p):∀{j},LI q c l k free u->ClTo c l k free g n u j->p=j:=by
 have f:∀{u r1 r2:UR},LI q c l k free u->Ju l k c u r1->Ju l k c u r2->r1=r2:=λd a b=>UTo.dq d.un d.ok.ok.nd a b;induction s with
 |fin n u h=>intro j d i;cases i<;>first|rfl|omega
 |old n u h hr=>intro j d i;cases i<;>first|rfl|omega|contradiction
 |full n u r h hr ht hd m=>
  intro j d i;cases i with
  |fin _ _ h'=>omega
  |old _ _ h' hr'=>exact absurd hr' hr
  |full _ _ r' h' hr' ht' hd' e=>rfl
  |long _ _ r' h' hr' ht' hl'=>cases f d ht ht';have:=UTo.some ht hd;have:=d.ml;simp_all;omega
  |step _ _ r' _ h' hr' ht' hq' hm' e hs'=>
   cases f d ht ht';rcases e with e|e
   .exact gA
   omega
 |long n u r h hr ht hl=>
  intro j d i;cases i with
  |fin _ _ h'=>omega
  |old _ _ h' hr'=>rfl
  |full _ _ r' h' hr' ht' hd' e=>cases f d ht ht';have:=UTo.some ht hd';have:=d.ml;simp_all;omega
  |long _ _ r' h' hr' ht' hl'=>rfl
  |step _ _ r' _ h' hr' ht' hq' hm' e hs'=>cases f d ht ht';omega
 |step n u r o h hr ht hq hm m hs ih=>
  intro j d i;cases i with
  |fin _ _ h'=>omega
  |old _ _ h' hr'=>exact absurd hr' hr
  |full _ _ r' h' hr' ht' hd' e=>
   cases f d ht ht';rcases m with m|m
   .exact gA
   omega
  |long _ _ r' h' hr' ht' hl'=>cases f d ht ht';omega
  |step _ _ r' _ h' hr' ht' hq' hm' e hs'=>cases f d ht ht';exact ih (d.step ht hr hq hm m) hs'
