import Derived.Test.YtfehblndlffcmaaGreatDoorX38
import Derived.Deep.CutBlock
set_option maxRecDepth 100000
set_option maxHeartbeats 16000000
open Option renaming some->an,none->ba
open Bool renaming true->bg,false->bq
open Go.RowKit renaming Below->bs
open Go.Obj renaming cells->ca
open Go.Value renaming slice->cr,agg->ct,ownBlock->ej
open Or renaming inl->dp,inr->eb
open Go.Ground renaming data->ed
open List renaming length->eh,toArray->ei
open Go.World renaming cell?->ek,frozen?->el,ownsRow->eo,grownBy->ep,setCell->ev
open Go renaming maxLen->ew
namespace Go.Proofs.YtfehblndlffcmaaGreatDoor
open ChangeShapes WideShapes ChangeAt RowKit _root_.Go.Proofs.Tryz List World Value
variable{w X Y:Zh}{c a b g n m q size:Nat}{d f l e j u K:Int}{v:Vd}{o:An}{k:Db}{s:Zi}{r:Rs}{i:Da}{V:List Nat}{U T P L Q M:Value}{z:Kd×Value}
theorem VB{b:Nat}{a:Zk}{n c:Nat}{p:Int}(sw zI D G:Int){ka pa la:Zk}(kc pc lc:Nat){H:C9}{N:Db}{Q:Da}{w:Zh}(h:AB w b a n c p)(hp:0<=p)(vQ:p<=750000)(zX:Bo w w.1.size ka pa la H N Q)(yK:∀A,ka=an A->FY w A H)(xY:pa=ba->pc=0)(xV:la=ba->lc=0)(C:Ic H N Q)(f:∀k∈H,JM k):
 D8 41 #[.pointer (an ⟨b,0,ba⟩),.agg (Yg sw zI D G ka (eh H) kc pa (eh N) pc la (eh Q) lc)] w (SDn w b a n c p 40):=by
 obtain⟨zA,W,J⟩:=h.lt,Ag ((w.alloc (ca (Yg sw zI D G ka (eh H) kc pa (eh N) pc la (eh Q) lc) 30)).alloc (ca Yi 30));obtain⟨B,O,E,c7⟩:=AQ (l:=(Yh sw zI D G ka (eh H) kc pa (eh N) pc la (eh Q) lc)) (k:=z7) J;obtain⟨j,m,q,r,s,t,u⟩:=Aa.c7 E 0 1 2 3 4 5 6;have hn:=C.n;have R:Hid _:=FK sw zI D G kc pc lc (zX.X B) (λA S=>by have hk:=yK A S;have I:=zX.k;rw[S]at I;exact hk.ah I B) xY xV hn.1 hn.2.1 hn.2.2 (λk hk=>(f k hk).2.1);have o:Hid (Aa W w.1.size (Yh sw zI D G ka (eh H) kc pa (eh N) pc la (eh Q) lc)/\Aa W (w.1.size+1) z7/\AB W b a n c p/\ep w W (an b)/\W.1.size=w.1.size+2):=⟨E,c7,h.A B,Af _ B,O⟩;have F:Hid (Vu H N Q/\∀k∈H,JM k):=⟨C.w f,f⟩;have M:Hid _:=J;clear J B O E c7 zX yK C f h;delta D8;go_in;go_upto_region 1 with fail;rw[<-M.o];clear M;go_wp2_with fail;refine R.Aj ?_;rintro e d ⟨T,P,L,rs,rfl,hS,J,E⟩;obtain⟨g,tn,tc,rfl⟩:=J T E7;obtain⟨O,pn,zH,rfl⟩:=J P E7;obtain⟨gl,ln,zG,rfl⟩:=J L E7;have⟨X0,B⟩:=D6 d (Yg sw zI D G (an ⟨g,0,ba⟩) tn tc (an ⟨O,0,ba⟩) pn zH (an ⟨gl,0,ba⟩) ln zG) 30;have Z:=(Ax (l:=(Yh sw zI D G (an ⟨g,0,ba⟩) tn tc (an ⟨O,0,ba⟩) pn zH (an ⟨gl,0,ba⟩) ln zG)) B).1;have i:=(Ax (l:=(Yh sw zI D G (an ⟨g,0,ba⟩) tn tc (an ⟨O,0,ba⟩) pn zH (an ⟨gl,0,ba⟩) ln zG)) B).2.2;have f:bs W.1.size W X0:=E.ag (Z.ai E.size);have vS:=E.size;have xE:=o.2.2.2.2;have C:Hid (KB w b a n c p d.1.size sw zI D G (C3 (an ⟨g,0,ba⟩) tn tc) (C3 (an ⟨O,0,ba⟩) pn zH) (C3 (an ⟨gl,0,ba⟩) ln zG) (H.zip rs) N Q X0):=
  ⟨i,(hS.kb (λg M=>⟨Dl (hS.lo g M),λe=>Dl (hS.db g M)⟩) F.1).A Z,Aa.A (v:=Ze) o.2.1 f,o.2.2.1.A f,Ai o.2.2.2.1 (Af _ f),by omega⟩
 have xK:Hid (eh N<=100):=hn.2.1;have zT:Hid ((∀z∈H.zip rs,JM z.1)/\eh (H.zip rs)=eh H):=⟨λz hz=>F.2 z.1 (of_mem_zip hz).1,by rw[length_zip,hS.len,Nat.min_self]⟩;have M:Hid (∀X,ep X0 X (an b)->Aa X w.1.size (Yh sw zI D G ka (eh H) kc pa (eh N) pc la (eh Q) lc)):=λX hX=>(Aa.A o.1 f).au hX D9;obtain rfl:tn=eh H:=by obtain⟨_,_,e⟩:=Au hS.ak;injection e
 obtain rfl:pn=eh N:=by obtain⟨_,_,e⟩:=Au hS.pins;injection e
 obtain rfl:ln=eh Q:=by obtain⟨_,_,e⟩:=Au hS.ax;injection e
 have U:Hid _:=B;clear B Z i f E hS J R o F j m q r s t u;generalize H.zip rs=zs at *
 go_upto_region 2 with fail;rw[<-U.o];clear U;generalize d.1.size=q at *
 obtain⟨v4,_⟩:=C.box 4 _ rfl;go_wp2_with fail;refine(PM (eh H) C.rd hp D9 D9).ai ?_;rintro e X1 ⟨k,rfl,hk,F,f⟩;clear v4;go_wp2_with fail;refine(AE 12 F D9 D9 D9 D9).ai ?_;rintro e E ⟨r,rfl,r0,r1,zN,zC⟩;have B:Hid (KB w b a n c (p+1+1) q sw zI D G (C3 (an ⟨g,0,ba⟩) (eh H) tc) (C3 (an ⟨O,0,ba⟩) (eh N) zH) (C3 (an ⟨gl,0,ba⟩) (eh Q) zG) zs N Q E):=C.go (Ai f zC) zN zA;have o:=M E (Ai f zC);have HQ:Hid (ek E (Zd (w.1.size) 0)=an (Zg sw)):=(o 0 _ rfl).1;clear F zN f zC C M o;generalize xX:p+1+1=p1 at *
 have xD:q<E.1.size:=B.box.lt;have vR:=B.q;have HF:Hid (∀X,ep E X (an b)->Aa X q (Yh sw zI D G (an ⟨g,0,ba⟩) (eh H) tc (an ⟨O,0,ba⟩) (eh N) zH (an ⟨gl,0,ba⟩) (eh Q) zG)/\Cz X (w.1.size+2) q (C3 (an ⟨g,0,ba⟩) (eh H) tc) (C3 (an ⟨O,0,ba⟩) (eh N) zH) (C3 (an ⟨gl,0,ba⟩) (eh Q) zG) zs N Q):=λX hX=>⟨B.box.au hX D9,B.st.S (Tn.grown (V:=[b]) hX E7) E8⟩;have vL:=Ac B.st.p.o (g:=O) rfl;have vK:O≠q:=λe=>B.st.p.q I4;have vM:g≠O:=λe=>by obtain⟨c1,I⟩:=BL B.st.t.o (g:=g) rfl;obtain⟨c2,J⟩:=BL B.st.p.o (g:=O) rfl;rw[e,J]at I;cases I
 have HG:Hid (∀X,Tn [b,O] E X->Aa X q (Yh sw zI D G (an ⟨g,0,ba⟩) (eh H) tc (an ⟨O,0,ba⟩) (eh N) zH (an ⟨gl,0,ba⟩) (eh Q) zG)/\Aa X (w.1.size+1) z7/\ek X (Zd (w.1.size) 0)=an (Zg sw)):=λX hX=>⟨Aa.same B.box (hX.block _ B.box.lt E8),Aa.same B.z (hX.block _ B.z.lt E8),(cell?_of_block (a:=⟨w.1.size,0,ba⟩) (hX.block w.1.size D9 E8)).ag HQ⟩;go_upto_block 0 with fail;go_cut [6] (λ_ f=>Hid (Em w b a n c p 40 q f))
 case rest=>
  clear B HQ HF HG;revert wc;intro Y HE;have⟨vI,xJ,yN,yJ,T',P',L',xF,vF,vD,hB,hS⟩:=HE.ex;obtain⟨ta,tn,hT⟩:=Au hS.t.o;obtain⟨vE,pn,hP⟩:=Au hS.p.o;obtain⟨vC,ln,hL⟩:=Au hS.l.o;subst hT hP hL;have HS:Hid _:=hS;obtain⟨⟨x0,x1,x2,x3,x4,x5,x6⟩,⟨y0,f0⟩,⟨y1,f1⟩,⟨y2,f2⟩,⟨y3,f3⟩,⟨y4,f4⟩,⟨y5,f5⟩,y6,f6⟩:=Aa.c7 hB 0 1 2 3 4 5 6,Lu HE.z;clear hS hB;go_wp2;refine C1 (.agg (Yg vI xJ yN yJ ta (eh xF) tn vE (eh vF) pn vC (eh vD) ln)) (by simp[results,results41,go_sem,y0,y1,y2,y3,y4,y5,y6]) (HE.fin HS zA ?_)
  repeat refine Tn.ag ?_ (Tn.set _ _ _ _ E7)
  exact Tn.of Ae
 rcases(show r=0\/r=1\/r=2\/r=3\/r=4\/r=5\/r=6\/r=7\/r=8\/r=9\/r=10\/r=11 by omega)with rfl|rfl|rfl|rfl|rfl|rfl|rfl|rfl|rfl|rfl|rfl|rfl
 .go_wp2_with fail;refine(AE 11 B.rd D9 D9 D9 D9).ai ?_;rintro e X3 ⟨x,rfl,x0,x1,zK,zE⟩;have zB:Hid _:=B.go zE zK zA;obtain⟨y0,f0⟩:=zB.box 0 _ rfl;have xC:q<X3.1.size:=zB.box.lt;have HE:Hid (∀x,Em w b a n c p 40 q (ev X3 (Zd q 0) (Zg x))):=λx=>(zB.R zA 0 D9 x).more D9 D9;clear zK zE zB B HQ;go_wp2;go_meet;exact HE _
 .obtain⟨A,S⟩:=D6 E #[Zg (-1),Zg 1000000000,Zg 1000000001] 3;have o:=(Ax (l:=[Zg (-1),Zg 1000000000,Zg 1000000001]) S).1;have F:=(Ax (l:=[Zg (-1),Zg 1000000000,Zg 1000000001]) S).2.2;have f:Hid _:=B.go (Af _ o) (B.rd.A o) zA;have C:Hid _:=AE 3 f.rd D9 D9 D9 D9;subst S;go_wp2_with fail;refine C.Aj ?_;rintro e X3 ⟨x,rfl,x0,x1,zK,zE⟩;obtain⟨j,rfl⟩:∃j:Nat,x=j:=⟨x.toNat,by omega⟩;have zB:Hid _:=f.go zE zK zA;obtain⟨⟨v,hv⟩,y0,f0⟩:=Eg (F.au zE D9) E7 (j:=j) E8,zB.box 1 _ rfl;have xC:q<X3.1.size:=zB.box.lt;have yV:=zE.size;have HE:Hid (∀x,Em w b a n c p 40 q (ev X3 (Zd q 1) (Zg x))):=λx=>(zB.R zA 1 D9 x).more D9 D9;simp only[Ao]at yV;clear zK zE zB B HQ f C F o;go_wp2;go_meet;exact HE _
 .obtain⟨A,S⟩:=D6 E #[Zg (-1),Ze,Zg 1,Zg 1000000000,Zg 1000000001] 3;have o:=(Ax (l:=[Zg (-1),Ze,Zg 1,Zg 1000000000,Zg 1000000001]) S).1;have F:=(Ax (l:=[Zg (-1),Ze,Zg 1,Zg 1000000000,Zg 1000000001]) S).2.2;have f:Hid _:=B.go (Af _ o) (B.rd.A o) zA;have C:Hid _:=AE 5 f.rd D9 D9 D9 D9;subst S;go_wp2_with fail;refine C.Aj ?_;rintro e X3 ⟨x,rfl,x0,x1,zK,zE⟩;obtain⟨j,rfl⟩:∃j:Nat,x=j:=⟨x.toNat,by omega⟩;have zB:Hid _:=f.go zE zK zA;obtain⟨⟨v,hv⟩,y0,f0⟩:=Eg (F.au zE D9) E7 (j:=j) E8,zB.box 3 _ rfl;have xC:q<X3.1.size:=zB.box.lt;have yV:=zE.size;have HE:Hid (∀x,Em w b a n c p 40 q (ev X3 (Zd q 3) (Zg x))):=λx=>(zB.R zA 3 D9 x).more D9 D9;simp only[Ao]at yV;clear zK zE zB B HQ f C F o;go_wp2;go_meet;exact HE _
 .obtain⟨A,S⟩:=D6 E #[Zg (-1),Ze,Zg 1000000000,Zg 1000000001] 3;have o:=(Ax (l:=[Zg (-1),Ze,Zg 1000000000,Zg 1000000001]) S).1;have F:=(Ax (l:=[Zg (-1),Ze,Zg 1000000000,Zg 1000000001]) S).2.2;have f:Hid _:=B.go (Af _ o) (B.rd.A o) zA;have C:Hid _:=AE 4 f.rd D9 D9 D9 D9;subst S;go_wp2_with fail;refine C.Aj ?_;rintro e X3 ⟨x,rfl,x0,x1,zK,zE⟩;obtain⟨j,rfl⟩:∃j:Nat,x=j:=⟨x.toNat,by omega⟩;have zB:Hid _:=f.go zE zK zA;obtain⟨⟨v,hv⟩,y0,f0⟩:=Eg (F.au zE D9) E7 (j:=j) E8,zB.box 2 _ rfl;have xC:q<X3.1.size:=zB.box.lt;have yV:=zE.size;have HE:Hid (∀x,Em w b a n c p 40 q (ev X3 (Zd q 2) (Zg x))):=λx=>(zB.R zA 2 D9 x).more D9 D9;simp only[Ao]at yV;clear zK zE zB B HQ f C F o;go_wp2;go_meet;exact HE _
 .by_cases hz:eh H=0
  .have zS:¬(0:Int)<(eh H:Int):=D9;clear hz hk;have HE:Hid (Em w b a n c p 40 q E):=B.same.more D9 D9;obtain⟨v4,_⟩:=B.box 4 _ rfl;clear B HQ;go_wp2;go_meet;exact HE
  have zS:(0:Int)<(eh H:Int):=D9;have yS:k<eh H:=D9;have yA:k<eh zs:=by rw[zT.2];exact yS
  have yL:=Zv yA;have F:Hid (JM zs[k].1):=zT.1 _ (getElem_mem yA);have HC:Hid (∀X,ep E X (an b)->∃ra rc,zs[k].2=.slice ra (eh zs[k].1.D) rc/\ek X (Zd g (k *4+2))=an (C4 zs[k].1.i)/\ek X (Zd g (k *4+3))=an (.slice ra (eh zs[k].1.D) rc)/\el X ⟨g,k *4+2,ba⟩=bq/\el X ⟨g,k *4+3,ba⟩=bq/\Ab X X.1.size ra zs[k].1.D/\(ra=ba->eh zs[k].1.D=0/\rc=0)/\g<X.1.size):=λX hX=>by
   have hS:=(HF X hX).2;have I:=(hS.r _ (getElem_mem yA)).o;have⟨ra,rc,e⟩:=Au I;have ho:=hS.t.o;rw[zT.2]at ho;have c2:=ho.cellAt (k *4+2) D9;have c3:=ho.cellAt (k *4+3) D9;rw[BU CB yL (show 2<4 by decide)]at c2;rw[BU CB yL (show 3<4 by decide)]at c3;have xO:ek X (Zd g (k *4+3))=an (.slice ra (eh zs[k].1.D) rc):=c3.ag (congrArg an e);rw[e]at I;have J:=WT I;exact⟨ra,rc,e,c2,xO,KC ho _,KC ho _,J.1,J.2,(Ac ho (g:=g) rfl).2⟩
  have zY:=(Ac B.st.t.o (g:=g) rfl).1;have yG:g≠q:=λe=>B.st.t.q I4;obtain⟨v4,_⟩:=B.box 4 _ rfl;generalize zs[k]=z at *
  go_upto_region 15 with fail;rw[decide_eq_true (show 0<eh H by omega)];clear v4;have o:ep E E.drew (an b):=⟨rfl,rfl,rfl,Zx,λ_ _ _=>rfl⟩;obtain⟨⟨ra,rc,M,c2,c3,_,_,R,C,yZ⟩,_,_,xN,_,_,_,_,f,_⟩:=HC E (AO _ _),HC E.drew o;rw[M]at xN;injection xN with e2 e3 e4;subst e2 e4;obtain⟨b0,b1,b2,b3,b4,b5,b6⟩:=Aa.c7 (HF E (AO _ _)).1 0 1 2 3 4 5 6;have xG:Hid _:=PX z.1.i rc B.rd.drew D9 D9 f C F.1 F.2.1 F.2.2.1;clear M e3 R f C;go_region_with (go_at_call 71;refine xG.Aj ?_;rintro e X' ⟨⟨t,vG,vH,ss,rfl,vT,vO,xZ,zM⟩,⟨⟨p2,zN,h3,h4⟩,zC⟩⟩;have C:ep E X' (an b):=o.andThen zC (λ_ e=> eb e);obtain⟨d0,d1,d2,d3,d4,d5,d6⟩:=Aa.c7 (HF X' C).1 0 1 2 3 4 5 6;have⟨_,_,_,k2,k3,f2,f3,_,_,hgY⟩:=HC X' C;have f:Hid _:=Zn C (Zn zN zM);clear C zN zM zC)
  all_goals
   have hI:=B.go f.1 f.2.1 zA;have vV:E.drew.1.size=E.1.size/\E.1.size<=X'.1.size:=⟨rfl,f.1.size⟩;have hm:(100000:Nat)<=ew:=J5;have HE:Hid (Em w b a n c p 40 q (ev (ev X' (Zd g (k *4+2)) (C4 t)) (Zd g (k *4+3)) (C3 vG (eh ss) vH))):=(hI.rows zA (Tn.ag (AX X' g _ _) (AX _ g _ _)) zY yG (hI.st.setT yL (⟨f.2.2.ai D9,λe=>Dl (Ac f.2.2 e).1⟩) D9 D9 (λs hs=>Dl (xZ s hs)))).more D9 D9;clear hI HF HC B F f;go_wp2;go_meet;exact HE
 .by_cases hz:eh H<=1
  .have zS:¬(1:Int)<(eh H:Int):=D9;clear hz hk;have HE:Hid (Em w b a n c p 40 q E):=B.same.more D9 D9;obtain⟨v4,_⟩:=B.box 4 _ rfl;clear B HQ;go_wp2;go_meet;exact HE
  have zS:(1:Int)<(eh H:Int):=D9;have xE:0<eh H:=D9;obtain⟨z0,z1,zr,vA⟩:∃z0 z1 zr,zs=z0::z1::zr:=by
   have hl:=zT.2
   match zs,hl with
   |[],hl=>simp at hl;omega
   |[_],hl=>simp at hl;omega
   |z0::z1::zr,_=>exact⟨z0,z1,zr,rfl⟩
  subst vA;have HC:Hid (∀X,ep E X (an b)->ek X (Zd g 5)=an (Zg z1.1.born)/\ek X (Zd g 1)=an (Zg z0.1.born)/\el X ⟨g,1,ba⟩=bq/\g<X.1.size):=λX hX=>by have ho:=(HF X hX).2.t.o;rw[zT.2]at ho;exact⟨ho.cellAt 5 D9,ho.cellAt 1 D9,KC ho _,(Ac ho (g:=g) rfl).2⟩
  have C:Hid ((Lit.int .i64 z1.1.born).wf=bg):=(B.st.w.k z1.1 E7).b;have zY:=(Ac B.st.t.o (g:=g) rfl).1;have yG:g≠q:=λe=>B.st.t.q I4;have f:ep E E (an b):=AO _ _;have⟨c5,c1,f1,yZ⟩:=HC E f;obtain⟨b0,b1,b2,b3,b4,b5,b6⟩:=Aa.c7 (HF E f).1 0 1 2 3 4 5 6;have o:ep E E.drew (an b):=⟨rfl,rfl,rfl,Zx,λ_ _ _=>rfl⟩;have hI:=B.go o B.rd.drew zA;have HE:Hid (Em w b a n c p 40 q (ev E.drew (Zd g 1) (Zg z1.1.born))):=(hI.rows zA (AX E.drew g _ _) zY yG (hI.st.setB C)).more D9 D9;clear hI HF HC B C f o;go_wp2
  go_region
  all_goals go_wp2
  all_goals go_meet
  all_goals exact HE
 .by_cases hz:eh H=0
  .have zS:¬(0:Int)<(eh H:Int):=D9;clear hz hk;have HE:Hid (Em w b a n c p 40 q E):=B.same.more D9 D9;obtain⟨v4,_⟩:=B.box 4 _ rfl;clear B HQ;go_wp2;go_meet;exact HE
  have zS:(0:Int)<(eh H:Int):=D9;have yS:k<eh H:=D9;have yA:k<eh zs:=by rw[zT.2];exact yS
  have xT:k+1<=eh zs:=yA;have vX:=zT.2;have vN:IntKind.i64.wrap ((k:Int)+1)=(k:Int)+1:=Cl D9 D9;have HG:Hid (∀X,Zz E X->Aa X q (Yh sw zI D G (an ⟨g,0,ba⟩) (eh H) tc (an ⟨O,0,ba⟩) (eh N) zH (an ⟨gl,0,ba⟩) (eh Q) zG)/\eo X (w.1.size+2) 78 4 (C3 (an ⟨g,0,ba⟩) (eh zs) tc) (eh zs) (Ad kC zs)):=λX hX=>by have I:=Ah B.st.t.o hX;refine⟨Aa.A B.box hX,?_⟩;rw[zT.2]at I |-;exact I
  have HZ:Hid (∀z∈zs,∃a n c,z.2=C3 a n c):=λz hz=>by have⟨a,c,e⟩:=Au (B.st.r z hz).o;exact⟨a,_,c,e⟩
  obtain⟨zY,v4,_⟩:=Ac B.st.t.o (g:=g) rfl,B.box 4 _ rfl;go_upto_region 21 with fail;try rw[decide_eq_true (show 0<eh H by omega)]
  clear v4;refine CI [93,94,95,96,97,98,99,100,101,102,103,104,105] 13 rfl _ rfl Ez Ez Ez Ez Ez H9 Ez [(5,0),(11,0),(11,5)] Ez (λ_ X=>Zz E X/\E.1.size<=X.1.size) (λi X v=>match i with
   |0=>∃m,v=C3 (an ⟨m,0,ba⟩) 0 0/\eo X E.1.size 78 4 (C3 (an ⟨m,0,ba⟩) 0 0) 0 []
   |1=>v=.pointer (an ⟨q,4,ba⟩)
   |2=>v=C3 (an ⟨g,0,ba⟩) (eh H) tc
   |3=>v=Zg k
   |4=>v=C3 (an ⟨g,0,ba⟩) k tc
   |5=>∃g' U,v=C3 (an ⟨g',0,ba⟩) k U/\eo X E.1.size 78 4 (C3 (an ⟨g',0,ba⟩) k U) (eh (zs.take k)) (Ad kC (zs.take k))
   |6=>v=.pointer (an ⟨q,4,ba⟩)
   |7=>v=C3 (an ⟨g,0,ba⟩) (eh H) tc
   |8=>v=Zg k
   |9=>v=Zg ((k:Int)+1)
   |10=>∃yI U,v=C3 (an ⟨g,yI,ba⟩) (eh (zs.drop (k+1))) U/\∀j u,(Ad kC (zs.drop (k+1)))[j]?=an u->ek E (Zd g (yI+j))=an u
   |11=>∃g' U,v=C3 (an ⟨g',0,ba⟩) (eh H -1) U/\eo X E.1.size 78 4 (C3 (an ⟨g',0,ba⟩) (eh H -1) U) (eh (zs.take k++zs.drop (k+1))) (Ad kC (zs.take k++zs.drop (k+1)))
   |12=>v=.pointer (an ⟨q,4,ba⟩)
   |_=>True) (λj X Y=>bs E.1.size X Y/\(j≠5->j≠11->Zz X Y)) ?_ ⟨Ae.drew,Zx⟩ ?_ ?_
  .intro j i X Y v yB yH yQ hE hT;obtain⟨I,h3⟩:=hE;rcases i with _|_|_|_|_|_|_|_|_|_|_|_|_|_<;>first|exact hT|exact trivial|skip
   .obtain⟨m,e,h⟩:=hT;exact⟨m,e,Ah h (h3 (λe=>yH N7) (λe=>yH N7))⟩
   .obtain⟨g',U,e,h⟩:=hT;exact⟨g',U,e,Ah h (h3 (λe=>yB e) (λe=>yH N7))⟩
   obtain⟨g',U,e,h⟩:=hT;exact⟨g',U,e,Ah h (h3 (λe=>by subst e;have h9:=yQ.symm.ag (by kernel_rfl:_=bg);cases h9) (λe=>yB e))⟩
  .intro i o' L x X hi ho hL hD C M K f;obtain⟨b0,b1,b2,b3,b4,b5,b6⟩:=Aa.c7 (HG X C.1).1 0 1 2 3 4 5 6;have hr:bs E.1.size X X/\(i≠5->i≠11->Zz X X):=⟨Ae,λ_ _=>Below.refl _ _⟩;rcases(show i=0\/i=1\/i=2\/i=3\/i=4\/i=5\/i=6\/i=7\/i=8\/i=9\/i=10\/i=11\/i=12 by omega)with rfl|rfl|rfl|rfl|rfl|rfl|rfl|rfl|rfl|rfl|rfl|rfl|rfl<;>cases ho<;>simp only[AY,Act.put,Zq,Zp,Zo]at f |-
   all_goals try (go_simp;exact f.out _ X rfl hr C)
   all_goals try (simp[Gf,Region.binds]at M;simp only[M]at f |-;go_simp;exact f.out _ X rfl hr C)
   .have S:bs X.1.size X (X.alloc (ca #[] 78)):=Zy;have zU:=C.2;go_simp;exact f.out _ _ ⟨X.1.size,rfl,ownsRow_lit (base:=E.1.size) (e:=78) (size:=4) X #[] 0 zU J5 rfl⟩ ⟨S.ai zU,λ_ _=>S⟩ ⟨C.1.ag (S.ai zU),Zm zU S.size⟩
   .have d2:=M ⟨2,ed⟩ E7 F1;have d3:=M ⟨3,ed⟩ E7 F1;rw[show x 2=C3 (an ⟨g,0,ba⟩) (eh H) tc from d2,show x 3=Zg k from d3]at f |-;have yK:eh H<=tc/\tc<=ew:=by
     rcases(HG X C.1).2.2 with⟨e,_⟩|⟨_,_,_,e,_,_,I,J,_⟩
     .cases e
     cases e;omega
    unfold ew at yK;have xS:k<=tc:=D9;go_simp;exact f.out _ X rfl hr C
   .obtain⟨m,e0,h0⟩:=M ⟨0,ed⟩ E7 F1;have d4:=M ⟨4,ed⟩ E7 F1;rw[e0,show x 4=C3 (an ⟨g,0,ba⟩) k tc from d4]at f |-;have hl:eh (zs.take k)=k:=N2;have zX:=(HG X C.1).2;obtain⟨g',U,X',zV,zM,zZ⟩:=Ni [] (zs.take k) h0 (an ⟨g,0,ba⟩) tc (λe=>by cases e) (λo e j u hu=>by
     cases e;rcases Jd zX (Nat.le_of_lt yA)with⟨e,_⟩|⟨g2,xP,e,_,_,_,_,xH,_⟩
     .cases e
     cases e;exact xH j u hu) (λz hz=>HZ z (mem_of_mem_take hz)) E7 D9 C.2 (λe=>by cases e) 26
    rw[hl]at zV zM;simp only[length_nil,Ay,nil_append]at zV zM;have zU:=C.2;have yF:bs E.1.size X X':=Ae.grown zZ zU (λq o=>(Ac h0 o).1);refine Ef (.tmp 93) (.tmp 97) 26 rfl rfl rfl zV ?_;exact f.out _ X' ⟨g',U,rfl,zM⟩ ⟨yF,λh=>absurd rfl h⟩ ⟨C.1.ag yF,Zm zU zZ.size⟩
   .have d7:=M ⟨7,ed⟩ E7 F1;have d9:=M ⟨9,ed⟩ E7 F1;rw[show x 7=C3 (an ⟨g,0,ba⟩) (eh H) tc from d7,show x 9=Zg ((k:Int)+1)from d9]at f |-;have yK:eh H<=tc/\tc<=ew:=by
     rcases(HG X C.1).2.2 with⟨e,_⟩|⟨_,_,_,e,_,_,I,J,_⟩
     .cases e
     cases e;omega
    have xU:eh (zs.drop (k+1))=eh H -(k+1):=(by rw[length_drop];omega);rcases Jd (HG E Ae).2 xT with⟨e,_⟩|⟨g2,xP,e,_,_,_,_,_,yI,S,xI⟩
    .cases e
    cases e;unfold ew at yK;have xS:k+1<=tc:=D9;have vU:((k:Int)+1).toNat=k+1:=D9;have vP:(0:Int)<=(k:Int)+1:=D9;have xX:(k:Int)+1<=(eh H:Int):=D9;go_simp;try rw[S]
    try rw[<-xU]
    exact f.out _ X ⟨yI,_,rfl,xI⟩ hr C
   obtain⟨g6,c6,e6,h6⟩:=M ⟨5,ed⟩ E7 F1;obtain⟨yI,c0,e0,xR⟩:=M ⟨10,ed⟩ E7 F1;rw[e6,e0]at f |-;obtain⟨g',U,X',zV,zM,zZ⟩:=Ni (zs.take k) (zs.drop (k+1)) h6 (an ⟨g,yI,ba⟩) c0 (λe=>by cases e) (λA e j u hu=>by
    cases e;rw[A7];exact(C.1.cell (p:=⟨g,yI+j,ba⟩) zY.2).ag (xR j u hu)) (λz hz=>HZ z (mem_of_mem_drop hz)) E8 E8 C.2 (λe=>by cases e) 26
   rw[show eh (zs.take k)=k from by rw[C0];omega,show k+eh (zs.drop (k+1))=eh H -1 from by rw[length_drop];omega]at zV zM;have zU:=C.2;have yW:bs E.1.size X X':=Ae.grown zZ zU (λq o=>(Ac h6 o).1);refine Ef (.tmp 98) (.tmp 103) 26 rfl rfl rfl zV ?_;exact f.out _ X' ⟨g',U,rfl,zM⟩ ⟨yW,λ_ h=>absurd rfl h⟩ ⟨C.1.ag yW,Zm zU zZ.size⟩
  intro L x X hL C hT K f;simp only[AY,Act.put,Zq,Zp,Zo];obtain⟨g',U,Z,ho⟩:=hT 11 H9 (λj=>by simp);obtain⟨d,⟨hB,_⟩,vJ⟩:=hT 12 H9 (λj=>by simp),HG X C.1,Ac ho (g:=g') rfl;have HE:Hid (Em w b a n c p 40 q (ev X (Zd q 4) (C3 (an ⟨g',0,ba⟩) (eh H -1) U))):=by
   have ht:=AX X q 4 (C3 (an ⟨g',0,ba⟩) (eh H -1) U);have hS:=(B.st.A C.1).ak (T':=C3 (an ⟨g',0,ba⟩) (eh H -1) U) (Tn.of Ae) ⟨ho.ai D9,λe=>by simp[ownBlock]at e;omega⟩ (λz hz=> dp (by rcases Bw.1 hz with h|h;exact mem_of_mem_take h;exact mem_of_mem_drop h)) E8;have hZ:=Aa.A (v:=Ze) B.z C.1;exact⟨⟨_,_,_,_,_,_,_,_,_,_,hB.set 4 _,hS.S ht E7⟩,Aa.same hZ (ht.block _ hZ.lt E8),⟨p1,(B.rd.A C.1).S ht E8 E8,by omega,by omega⟩,Cs (Ai B.gr (Af _ C.1)) ht E8⟩
  obtain⟨y4,f4⟩:=hB 4 _ rfl;have xD:=hB.lt;rw[Z,show x 12=.pointer (an ⟨q,4,ba⟩)from d];clear hT hB HG B HQ ho C;go_simp;refine f.out _ _ ?_;clear f K;go_wp2;go_meet;exact HE
 .have yU:eh N<=100:=xK.o;go_upto_region 23 with fail
  refine CI [108,109,110,111,112,113,114,115,116,117,118,119,120,121] 14 rfl _ rfl Ez Ez Ez Ez Ez H9 Ez [] Ez (λL X=>(∃F,AB X b a n c F/\p1<=F/\F<=p1+2/\(L 4=bq->F=p1))/\Tn [b,O] E X/\(L 12=bq->ep E X (an b))) (λi X v=>match i with
   |0=>v=.pointer (an ⟨q,5,ba⟩)
   |1=>v=C3 (an ⟨O,0,ba⟩) (eh N) zH
   |2=>∃o,v=C3 (an ⟨o,0,ba⟩) 4 4/\o≠b/\o≠O/\Aa X o [C4 ⟨#[112]⟩,C4 ⟨#[122]⟩,Zc,C4 ⟨#[120,32,121]⟩]
   |3=>v=.pointer (an ⟨b,0,ba⟩)
   |4=>∃j:Nat,v=Zg j/\j<4
   |5=>∃o j',v=.pointer (an ⟨o,j',ba⟩)/\o≠b/\o≠O/\o<X.1.size/\∃s:Zi,s.size<=3/\ek X (Zd o j')=an (C4 s)
   |6=>∃s:Zi,v=C4 s/\s.size<=3
   |7=>v=.pointer (an ⟨w.1.size,0,ba⟩)
   |8=>v=Zg sw
   |9=>∃s:Zi,v=C4 s/\s.size<=ew
   |10=>∃s u:Zi,v=.agg #[C4 s,C4 u]/\s.size<=3/\u.size<=ew
   |11=>∃o,v=C3 (an ⟨o,0,ba⟩) 1 1/\o≠b/\o≠O/\∃s u:Zi,s.size<=3/\u.size<=ew/\Aa X o [C4 s,C4 u]
   |12=>∃g' U y,v=C3 (an ⟨g',0,ba⟩) (eh N+1) U/\Cz X (w.1.size+2) q (C3 (an ⟨g,0,ba⟩) (eh H) tc) (C3 (an ⟨g',0,ba⟩) (eh N+1) U) (C3 (an ⟨gl,0,ba⟩) (eh Q) zG) zs (N++[y]) Q
   |13=>v=.pointer (an ⟨q,5,ba⟩)
   |_=>True) (λj X Y=>Tn [b,O] X Y/\(j≠12->ep X Y (an b))) ?_ ⟨⟨p1,B.rd.drew,by omega,by omega,λ_=>rfl⟩,Tn.of Ae.drew,λ_=>⟨rfl,rfl,rfl,Zx,λ_ _ _=>rfl⟩⟩ ?_ ?_
  .intro j i X Y v yB yH yQ hE hT;rcases i with _|_|_|_|_|_|_|_|_|_|_|_|_|_|_<;>first|exact hT|exact trivial|skip
   .obtain⟨o,e,I,h0,J⟩:=hT;exact⟨o,e,I,h0,Aa.same J (hE.1.block _ J.lt I6)⟩
   .obtain⟨o,j',e,I,h0,J,s,h3,h4⟩:=hT;exact⟨o,j',e,I,h0,Zr J hE.1.size,s,h3,(cell?_of_block (a:=⟨o,j',ba⟩) (hE.1.block o J I6)).ag h4⟩
   .obtain⟨o,e,I,h0,s,u,hs,hu,J⟩:=hT;exact⟨o,e,I,h0,s,u,hs,hu,Aa.same J (hE.1.block _ J.lt I6)⟩
   obtain⟨g',U,y,e,I⟩:=hT;exact⟨g',U,y,e,I.S (Tn.grown (V:=[b]) (hE.2 (λe=>yB e)) E7) E8⟩
  .intro i o' L x X hi ho hL hD C M K f;obtain⟨b0,b1,b2,b3,b4,b5,b6⟩:=Aa.c7 (HG X C.2.1).1 0 1 2 3 4 5 6;have c9:=(HG X C.2.1).2.2;have hr:Tn [b,O] X X/\(i≠12->ep X X (an b)):=⟨Tn.of Ae,λ_=>AO _ _⟩;have R:i≠4->i≠12->∀Y,Zz X Y->(∃F,AB Y b a n c F/\p1<=F/\F<=p1+2/\(Bj L i 4=bq->F=p1))/\Tn [b,O] E Y/\(Bj L i 12=bq->ep E Y (an b)):=λh6 h7 Y hY=>⟨C.1.imp (λF h=>⟨h.1.A hY,h.2.1,h.2.2.1,λh9=>h.2.2.2 G0⟩),C.2.1.ag (Tn.of hY),λh9=>Ai (C.2.2 (by unfold Bj at h9;rw[if_neg (Ne.symm h7)]at h9;exact h9)) (Af _ hY)⟩;rcases(show i=0\/i=1\/i=2\/i=3\/i=4\/i=5\/i=6\/i=7\/i=8\/i=9\/i=10\/i=11\/i=12\/i=13 by omega)with rfl|rfl|rfl|rfl|rfl|rfl|rfl|rfl|rfl|rfl|rfl|rfl|rfl|rfl<;>cases ho<;>simp only[AY,Act.put,Zq,Zp,Zo]at f |-
   all_goals try (go_simp;exact f.out _ X rfl hr (R D9 D9 X Ae))
   all_goals try (simp[Gf,Region.binds]at M;simp only[M]at f |-;go_simp;exact f.out _ X rfl hr (R D9 D9 X Ae))
   .have S:bs X.1.size X (X.alloc (ca #[C4 ⟨#[112]⟩,C4 ⟨#[122]⟩,Zc,C4 ⟨#[120,32,121]⟩] 9)):=Zy;have yP:=C.2.1.size;go_simp;exact f.out _ _ ⟨X.1.size,rfl,by omega,by omega,Aa.new X _ _⟩ ⟨Tn.of S,λ_=>Af _ S⟩ (R D9 D9 _ S)
   .have d:=M ⟨3,ed⟩ E7 F1;rw[show x 3=.pointer (an ⟨b,0,ba⟩)from d]at f |-;obtain⟨⟨F,zJ,yC,yD,zO⟩,zF,yU⟩:=C;have xA:=zO hL;go_simp;refine(AE 4 zJ D9 D9 D9 D9).ai ?_;rintro e X' ⟨y,rfl,y0,y1,zN,zC⟩;have zP:Tn [b,O] X X':=Tn.grown zC E7;exact f.out _ X' ⟨y.toNat,by congr 1;omega,by omega⟩ ⟨zP,λ_=>zC⟩ ⟨⟨F+1,zN,by omega,by omega,λh=>by unfold Bj at h;simp at h⟩,zF.ag zP,λh=>Ai (yU (by unfold Bj at h;rw[if_neg D9]at h;exact h)) zC⟩
   .obtain⟨o,Z,I,h0,J⟩:=M ⟨2,ed⟩ E7 F1;obtain⟨j,e2,h3⟩:=M ⟨4,ed⟩ E7 F1;rw[Z,e2]at f |-;obtain⟨s,hs,h4⟩:=RY J F6 (j:=j) E8;have h5:=J.lt;have h6:(j:Int)<4:=D9;clear J;go_simp;exact f.out _ X ⟨o,j,rfl,I,h0,h5,s,hs,h4⟩ hr (R D9 D9 X Ae)
   .obtain⟨o,j',Z,I,h0,J,s,hs,h3⟩:=M ⟨5,ed⟩ E7 F1;rw[Z]at f |-;go_simp;exact f.out _ X ⟨s,rfl,hs⟩ hr (R D9 D9 X Ae)
   .have d:=M ⟨8,ed⟩ E7 F1;rw[show x 8=Zg sw from d]at f |-;go_simp;refine(KR _ sw X H9).ai ?_;rintro e X' ⟨u,rfl,hu,yY⟩;exact f.out _ X' ⟨u,rfl,hu⟩ ⟨Tn.of yY,λ_=>Af _ yY⟩ (R D9 D9 _ yY)
   .obtain⟨s,Z,hs⟩:=M ⟨6,ed⟩ E7 F1;obtain⟨u,e2,hu⟩:=M ⟨9,ed⟩ E7 F1;rw[Z,e2]at f |-;go_simp;exact f.out _ X ⟨s,u,rfl,hs,hu⟩ hr (R D9 D9 X Ae)
   .obtain⟨s,u,Z,hs,hu⟩:=M ⟨10,ed⟩ E7 F1;rw[Z]at f |-;have S:bs X.1.size X (X.alloc (ca #[C4 s,C4 u] 81)):=Zy;have yP:=C.2.1.size;go_simp;exact f.out _ _ ⟨X.1.size,rfl,by omega,by omega,s,u,hs,hu,Aa.new X _ _⟩ ⟨Tn.of S,λ_=>Af _ S⟩ (R D9 D9 _ S)
   have d:=M ⟨1,ed⟩ E7 F1;obtain⟨o,Z,I,h0,s,u,hs,hu,J⟩:=M ⟨11,ed⟩ E7 F1;rw[show x 1=C3 (an ⟨O,0,ba⟩) (eh N) zH from d,Z]at f |-;have hS:=(HF X (C.2.2 hL)).2;have xQ:=C.2.1.size;obtain⟨g',U,X',zV,zM,zZ,yR⟩:=Adj (w.1.size+2) _ N ⟨s,u⟩ hS.p.o J D9 D9 27;have yM:ep X X' (an O):=zZ;have yE:Tn [O] X X':=Tn.grown yM E7;have zP:Tn [b,O] X X':=yE.ai E7;have xB:ej (C3 (an ⟨g',0,ba⟩) (eh N+1) U)≠an q:=λe=>by simp[ownBlock]at yR e;rcases yR with h|h<;>omega
   have hm:(10:Nat)<=ew:=J5;have yX:=hS.pins yE ⟨zM,xB⟩ (λp hp=>by rcases Bw.1 hp with h|h;exact dp h;rw[mem_singleton.1 h];exact eb ⟨by simp only;omega,hu⟩) (by rw[Am];simp;omega);refine Ef (.tmp 109) (.tmp 119) 27 rfl rfl rfl zV ?_;exact f.out _ X' ⟨g',U,⟨s,u⟩,rfl,yX⟩ ⟨zP,λh=>absurd rfl h⟩ ⟨C.1.imp (λF h=>⟨h.1.S yE E8 E8,h.2.1,h.2.2.1,λh9=>h.2.2.2 (by unfold Bj at h9;rw[if_neg D9]at h9;exact h9)⟩),C.2.1.ag zP,λh=>by unfold Bj at h;simp at h⟩
  intro L x X hL C hT K f;simp only[AY,Act.put,Zq,Zp,Zo];obtain⟨g',U,y,Z,hS⟩:=hT 12 H9 (λj=>by simp);have d:=hT 13 H9 (λj=>by simp);obtain⟨⟨F,zJ,yC,yD,zO⟩,zF,_⟩:=C;have⟨hB,hZ,_⟩:=HG X zF;have HE:Hid (Em w b a n c p 40 q (ev X (Zd q 5) (C3 (an ⟨g',0,ba⟩) (eh N+1) U))):=by
   have ht:=AX X q 5 (C3 (an ⟨g',0,ba⟩) (eh N+1) U);refine⟨⟨_,_,_,_,_,_,_,_,_,_,hB.set 5 _,hS.S ht E7⟩,Aa.same hZ (ht.block _ hZ.lt E8),⟨F,zJ.S ht E8 E8,by omega,by omega⟩,Cs (Cs B.gr zF E8) ht E8⟩
  obtain⟨y5,f5⟩:=hB 5 _ rfl;have xD:=hB.lt;rw[Z,show x 13=.pointer (an ⟨q,5,ba⟩)from d];clear hT hS hB hZ HF HG B HQ;go_simp;refine f.out _ _ ?_;clear f K;go_wp2;go_meet;exact HE
 .by_cases hz:eh H=0
  .have zS:¬(0:Int)<(eh H:Int):=D9;clear hz hk;have HE:Hid (Em w b a n c p 40 q E):=B.same.more D9 D9;obtain⟨v4,_⟩:=B.box 4 _ rfl;clear B HQ;go_wp2;go_meet;exact HE
  have zS:(0:Int)<(eh H:Int):=D9;have yS:k<eh H:=D9;have yA:k<eh zs:=by rw[zT.2];exact yS
  have yL:=Zv yA;have yU:eh N<=100:=xK.o;have HC:Hid (∀X,Tn [b,O] E X->∃s:Zi,s.size<=ew/\ek X (Zd g (k *4))=an (C4 s)):=λX hX=>by have ho:=B.st.t.o;have xW:=Ac ho (g:=g) rfl;rw[zT.2]at ho;have c0:=ho.cellAt (k *4+0) D9;rw[BU CB yL (show 0<4 by decide)]at c0;exact⟨zs[k].1.sum,(B.st.w.k _ (mem_map.2 ⟨_,getElem_mem yA,rfl⟩)).sl,(cell?_of_block (a:=⟨g,k *4,ba⟩) (hX.block _ xW.2 E8)).ag c0⟩
  obtain⟨v4,_⟩:=B.box 4 _ rfl;clear yL;go_upto_region 26 with fail;try rw[decide_eq_true (show 0<eh H by omega)]
  clear v4;refine CI [128,129,130,131,132,133,134,135,136,137,138,139,140,141,142,143,144] 17 rfl _ rfl Ez Ez Ez Ez Ez H9 Ez [] Ez (λL X=>(∃F,AB X b a n c F/\p1<=F/\F<=p1+2/\(L 4=bq->F=p1))/\Tn [b,O] E X/\(L 15=bq->ep E X (an b))) (λi X v=>match i with
   |0=>v=.pointer (an ⟨q,5,ba⟩)
   |1=>v=C3 (an ⟨O,0,ba⟩) (eh N) zH
   |2=>∃o,v=C3 (an ⟨o,0,ba⟩) 2 2/\o≠b/\o≠O/\Aa X o [C4 ⟨#[97]⟩,C4 ⟨#[122]⟩]
   |3=>v=.pointer (an ⟨b,0,ba⟩)
   |4=>∃j:Nat,v=Zg j/\j<2
   |5=>∃o j',v=.pointer (an ⟨o,j',ba⟩)/\o≠b/\o≠O/\o<X.1.size/\∃s:Zi,s.size<=3/\ek X (Zd o j')=an (C4 s)
   |6=>∃s:Zi,v=C4 s/\s.size<=3
   |7=>v=.pointer (an ⟨q,4,ba⟩)
   |8=>v=C3 (an ⟨g,0,ba⟩) (eh H) tc
   |9=>v=Zg k
   |10=>v=.pointer (an ⟨g,k *4,ba⟩)
   |11=>v=.pointer (an ⟨g,k *4,ba⟩)
   |12=>∃s:Zi,v=C4 s/\s.size<=ew
   |13=>∃s u:Zi,v=.agg #[C4 s,C4 u]/\s.size<=3/\u.size<=ew
   |14=>∃o,v=C3 (an ⟨o,0,ba⟩) 1 1/\o≠b/\o≠O/\∃s u:Zi,s.size<=3/\u.size<=ew/\Aa X o [C4 s,C4 u]
   |15=>∃g' U y,v=C3 (an ⟨g',0,ba⟩) (eh N+1) U/\Cz X (w.1.size+2) q (C3 (an ⟨g,0,ba⟩) (eh H) tc) (C3 (an ⟨g',0,ba⟩) (eh N+1) U) (C3 (an ⟨gl,0,ba⟩) (eh Q) zG) zs (N++[y]) Q
   |16=>v=.pointer (an ⟨q,5,ba⟩)
   |_=>True) (λj X Y=>Tn [b,O] X Y/\(j≠15->ep X Y (an b))) ?_ ⟨⟨p1,B.rd.drew,by omega,by omega,λ_=>rfl⟩,Tn.of Ae.drew,λ_=>⟨rfl,rfl,rfl,Zx,λ_ _ _=>rfl⟩⟩ ?_ ?_
  .intro j i X Y v yB yH yQ hE hT;rcases i with _|_|_|_|_|_|_|_|_|_|_|_|_|_|_|_|_|_<;>first|exact hT|exact trivial|skip
   .obtain⟨o,e,I,h0,J⟩:=hT;exact⟨o,e,I,h0,Aa.same J (hE.1.block _ J.lt I6)⟩
   .obtain⟨o,j',e,I,h0,J,s,h3,h4⟩:=hT;exact⟨o,j',e,I,h0,Zr J hE.1.size,s,h3,(cell?_of_block (a:=⟨o,j',ba⟩) (hE.1.block o J I6)).ag h4⟩
   .obtain⟨o,e,I,h0,s,u,hs,hu,J⟩:=hT;exact⟨o,e,I,h0,s,u,hs,hu,Aa.same J (hE.1.block _ J.lt I6)⟩
   obtain⟨g',U,y,e,I⟩:=hT;exact⟨g',U,y,e,I.S (Tn.grown (V:=[b]) (hE.2 (λe=>yB e)) E7) E8⟩
  .intro i o' L x X hi ho hL hD C M K f;obtain⟨b0,b1,b2,b3,b4,b5,b6⟩:=Aa.c7 (HG X C.2.1).1 0 1 2 3 4 5 6;have c9:=(HG X C.2.1).2.2;have hr:Tn [b,O] X X/\(i≠15->ep X X (an b)):=⟨Tn.of Ae,λ_=>AO _ _⟩;have R:i≠4->i≠15->∀Y,Zz X Y->(∃F,AB Y b a n c F/\p1<=F/\F<=p1+2/\(Bj L i 4=bq->F=p1))/\Tn [b,O] E Y/\(Bj L i 15=bq->ep E Y (an b)):=λh6 h7 Y hY=>⟨C.1.imp (λF h=>⟨h.1.A hY,h.2.1,h.2.2.1,λh9=>h.2.2.2 G0⟩),C.2.1.ag (Tn.of hY),λh9=>Ai (C.2.2 (by unfold Bj at h9;rw[if_neg (Ne.symm h7)]at h9;exact h9)) (Af _ hY)⟩;rcases(show i=0\/i=1\/i=2\/i=3\/i=4\/i=5\/i=6\/i=7\/i=8\/i=9\/i=10\/i=11\/i=12\/i=13\/i=14\/i=15\/i=16 by omega)with rfl|rfl|rfl|rfl|rfl|rfl|rfl|rfl|rfl|rfl|rfl|rfl|rfl|rfl|rfl|rfl|rfl<;>cases ho<;>simp only[AY,Act.put,Zq,Zp,Zo]at f |-
   all_goals try (go_simp;exact f.out _ X rfl hr (R D9 D9 X Ae))
   all_goals try (simp[Gf,Region.binds]at M;simp only[M]at f |-;go_simp;exact f.out _ X rfl hr (R D9 D9 X Ae))
   .have S:bs X.1.size X (X.alloc (ca #[C4 ⟨#[97]⟩,C4 ⟨#[122]⟩] 9)):=Zy;have yP:=C.2.1.size;go_simp;exact f.out _ _ ⟨X.1.size,rfl,by omega,by omega,Aa.new X _ _⟩ ⟨Tn.of S,λ_=>Af _ S⟩ (R D9 D9 _ S)
   .have d:=M ⟨3,ed⟩ E7 F1;rw[show x 3=.pointer (an ⟨b,0,ba⟩)from d]at f |-;obtain⟨⟨F,zJ,yC,yD,zO⟩,zF,yU⟩:=C;have xA:=zO hL;go_simp;refine(AE 2 zJ D9 D9 D9 D9).ai ?_;rintro e X' ⟨y,rfl,y0,y1,zN,zC⟩;have zP:Tn [b,O] X X':=Tn.grown zC E7;exact f.out _ X' ⟨y.toNat,by congr 1;omega,by omega⟩ ⟨zP,λ_=>zC⟩ ⟨⟨F+1,zN,by omega,by omega,λh=>by unfold Bj at h;simp at h⟩,zF.ag zP,λh=>Ai (yU (by unfold Bj at h;rw[if_neg D9]at h;exact h)) zC⟩
   .obtain⟨o,Z,I,h0,J⟩:=M ⟨2,ed⟩ E7 F1;obtain⟨j,e2,h3⟩:=M ⟨4,ed⟩ E7 F1;rw[Z,e2]at f |-;obtain⟨s,hs,h4⟩:=RY J F6 (j:=j) E8;have h5:=J.lt;have h6:(j:Int)<2:=D9;clear J;go_simp;exact f.out _ X ⟨o,j,rfl,I,h0,h5,s,hs,h4⟩ hr (R D9 D9 X Ae)
   .obtain⟨o,j',Z,I,h0,J,s,hs,h3⟩:=M ⟨5,ed⟩ E7 F1;rw[Z]at f |-;go_simp;exact f.out _ X ⟨s,rfl,hs⟩ hr (R D9 D9 X Ae)
   .have d:=M ⟨11,ed⟩ E7 F1;rw[show x 11=.pointer (an ⟨g,k *4,ba⟩)from d]at f |-;have⟨s,hs,c0⟩:=HC X C.2.1;go_simp;exact f.out _ X ⟨s,rfl,hs⟩ hr (R D9 D9 X Ae)
   .obtain⟨s,Z,hs⟩:=M ⟨6,ed⟩ E7 F1;obtain⟨u,e2,hu⟩:=M ⟨12,ed⟩ E7 F1;rw[Z,e2]at f |-;go_simp;exact f.out _ X ⟨s,u,rfl,hs,hu⟩ hr (R D9 D9 X Ae)
   .obtain⟨s,u,Z,hs,hu⟩:=M ⟨13,ed⟩ E7 F1;rw[Z]at f |-;have S:bs X.1.size X (X.alloc (ca #[C4 s,C4 u] 81)):=Zy;have yP:=C.2.1.size;go_simp;exact f.out _ _ ⟨X.1.size,rfl,by omega,by omega,s,u,hs,hu,Aa.new X _ _⟩ ⟨Tn.of S,λ_=>Af _ S⟩ (R D9 D9 _ S)
   have d:=M ⟨1,ed⟩ E7 F1;obtain⟨o,Z,I,h0,s,u,hs,hu,J⟩:=M ⟨14,ed⟩ E7 F1;rw[show x 1=C3 (an ⟨O,0,ba⟩) (eh N) zH from d,Z]at f |-;have hS:=(HF X (C.2.2 hL)).2;have xQ:=C.2.1.size;obtain⟨g',U,X',zV,zM,zZ,yR⟩:=Adj (w.1.size+2) _ N ⟨s,u⟩ hS.p.o J D9 D9 27;have yM:ep X X' (an O):=zZ;have yE:Tn [O] X X':=Tn.grown yM E7;have zP:Tn [b,O] X X':=yE.ai E7;have xB:ej (C3 (an ⟨g',0,ba⟩) (eh N+1) U)≠an q:=λe=>by simp[ownBlock]at yR e;rcases yR with h|h<;>omega
   have hm:(10:Nat)<=ew:=J5;have yX:=hS.pins yE ⟨zM,xB⟩ (λp hp=>by rcases Bw.1 hp with h|h;exact dp h;rw[mem_singleton.1 h];exact eb ⟨by simp only;omega,hu⟩) (by rw[Am];simp;omega);refine Ef (.tmp 129) (.tmp 142) 27 rfl rfl rfl zV ?_;exact f.out _ X' ⟨g',U,⟨s,u⟩,rfl,yX⟩ ⟨zP,λh=>absurd rfl h⟩ ⟨C.1.imp (λF h=>⟨h.1.S yE E8 E8,h.2.1,h.2.2.1,λh9=>h.2.2.2 (by unfold Bj at h9;rw[if_neg D9]at h9;exact h9)⟩),C.2.1.ag zP,λh=>by unfold Bj at h;simp at h⟩
  intro L x X hL C hT K f;simp only[AY,Act.put,Zq,Zp,Zo];obtain⟨g',U,y,Z,hS⟩:=hT 15 H9 (λj=>by simp);have d:=hT 16 H9 (λj=>by simp);obtain⟨⟨F,zJ,yC,yD,zO⟩,zF,_⟩:=C;have⟨hB,hZ,_⟩:=HG X zF;have HE:Hid (Em w b a n c p 40 q (ev X (Zd q 5) (C3 (an ⟨g',0,ba⟩) (eh N+1) U))):=by
   have ht:=AX X q 5 (C3 (an ⟨g',0,ba⟩) (eh N+1) U);refine⟨⟨_,_,_,_,_,_,_,_,_,_,hB.set 5 _,hS.S ht E7⟩,Aa.same hZ (ht.block _ hZ.lt E8),⟨F,zJ.S ht E8 E8,by omega,by omega⟩,Cs (Cs B.gr zF E8) ht E8⟩
  obtain⟨y5,f5⟩:=hB 5 _ rfl;have xD:=hB.lt;rw[Z,show x 16=.pointer (an ⟨q,5,ba⟩)from d];clear hT hS hB hZ HF HG B HQ;go_simp;refine f.out _ _ ?_;clear f K;go_wp2;go_meet;exact HE
 .by_cases hz:eh Q=0
  .have zS:¬(0:Int)<(eh Q:Int):=D9;clear hz;have HE:Hid (Em w b a n c p 40 q E):=B.same.more D9 D9;obtain⟨v4,_⟩:=B.box 6 _ rfl;clear B HQ;go_wp2;go_meet;exact HE
  have zS:(0:Int)<(eh Q:Int):=D9;have xE:0<eh Q:=D9;obtain⟨l0,lr,yT⟩:∃l0 lr,Q=l0::lr:=by
   match Q,hz with
   |[],hz=>exact absurd rfl hz
   |l0::lr,_=>exact⟨l0,lr,rfl⟩
  have yO:Hid (∀X,Cz X (w.1.size+2) q (C3 (an ⟨g,0,ba⟩) (eh H) tc) (C3 (an ⟨O,0,ba⟩) (eh N) zH) (C3 (an ⟨gl,0,ba⟩) (eh Q) zG) zs N Q->Cz X (w.1.size+2) q (C3 (an ⟨g,0,ba⟩) (eh H) tc) (C3 (an ⟨O,0,ba⟩) (eh N) zH) (C3 (an ⟨gl,0,ba⟩) (eh Q) zG) zs N (l0::lr)):=λX h=>by rw[yT]at h |-;exact h
  have HC:Hid (∀X,ep E X (an b)->(∃u,ek X (Zd gl 2)=an u)/\el X ⟨gl,2,ba⟩=bq/\gl<X.1.size):=λX hX=>by have ho:=(HF X hX).2.l.o;exact⟨Qs ho 2 D9,KC ho _,(Ac ho (g:=gl) rfl).2⟩
  have zY:=(Ac B.st.l.o (g:=gl) rfl).1;have yG:gl≠q:=λe=>B.st.l.q I4;obtain⟨v4,_⟩:=B.box 6 _ rfl;clear yT;go_upto_region 29 with fail;try rw[decide_eq_true (show 0<eh Q by omega)]
  clear v4;refine CI [151,152,153,154,155,156,157,158,159,160,161,162] 12 rfl _ rfl Ez Ez Ez Ez Ez H9 Ez [] Ez (λL X=>(∃F,AB X b a n c F/\p1<=F/\F<=p1+2/\(L 6=bq->F=p1))/\ep E X (an b)) (λi X v=>match i with
   |0=>v=.pointer (an ⟨q,6,ba⟩)
   |1=>v=C3 (an ⟨gl,0,ba⟩) (eh Q) zG
   |2=>v=.pointer (an ⟨q,1,ba⟩)
   |3=>v=Zg zI
   |4=>∃o,v=C3 (an ⟨o,0,ba⟩) 4 4/\o≠b/\Aa X o [Ze,Zg 1,Zg 100000,Zg 100001]
   |5=>v=.pointer (an ⟨b,0,ba⟩)
   |6=>∃j:Nat,v=Zg j/\j<4
   |7=>∃o j',v=.pointer (an ⟨o,j',ba⟩)/\o≠b/\o<X.1.size/\∃y:Int,ek X (Zd o j')=an (Zg y)
   |8=>∃y:Int,v=Zg y
   |9=>∃y:Int,v=Zg y
   |10=>v=.pointer (an ⟨gl,0,ba⟩)
   |11=>v=.pointer (an ⟨gl,2,ba⟩)
   |_=>True) (λ_ X Y=>ep X Y (an b)) ?_ ⟨⟨p1,B.rd.drew,by omega,by omega,λ_=>rfl⟩,⟨rfl,rfl,rfl,Zx,λ_ _ _=>rfl⟩⟩ ?_ ?_
  .intro j i X Y v yB yH yQ hE hT;rcases i with _|_|_|_|_|_|_|_|_|_|_|_|_<;>first|exact hT|exact trivial|skip
   .obtain⟨o,e,I,J⟩:=hT;exact⟨o,e,I,J.au hE (Ne.symm I)⟩
   obtain⟨o,j',e,I,J,h3⟩:=hT;obtain⟨y,h4⟩:=h3;exact⟨o,j',e,I,Zr J hE.size,y,(cell?_of_block (a:=⟨o,j',ba⟩) (hE.block o J (λe=>I N3))).ag h4⟩
  .intro i o' L x X hi ho hL hD C M K f;obtain⟨b0,b1,b2,b3,b4,b5,b6⟩:=Aa.c7 (HF X C.2).1 0 1 2 3 4 5 6;have hr:ep X X (an b):=AO _ _;have R:i≠6->∀Y,Zz X Y->(∃F,AB Y b a n c F/\p1<=F/\F<=p1+2/\(Bj L i 6=bq->F=p1))/\ep E Y (an b):=λh6 Y hY=>⟨C.1.imp (λF h=>⟨h.1.A hY,h.2.1,h.2.2.1,λh9=>h.2.2.2 G0⟩),Ai C.2 (Af _ hY)⟩;rcases(show i=0\/i=1\/i=2\/i=3\/i=4\/i=5\/i=6\/i=7\/i=8\/i=9\/i=10\/i=11 by omega)with rfl|rfl|rfl|rfl|rfl|rfl|rfl|rfl|rfl|rfl|rfl|rfl<;>cases ho<;>simp only[AY,Act.put,Zq,Zp,Zo]at f |-
   all_goals try (go_simp;exact f.out _ X rfl hr (R D9 X Ae))
   all_goals try (simp[Gf,Region.binds]at M;simp only[M]at f |-;go_simp;exact f.out _ X rfl hr (R D9 X Ae))
   .have S:bs X.1.size X (X.alloc (ca #[Ze,Zg 1,Zg 100000,Zg 100001] 3)):=Zy;have yP:=C.2.size;go_simp;exact f.out _ _ ⟨X.1.size,rfl,by omega,Aa.new X _ _⟩ (Af _ S) (R D9 _ S)
   .have d:=M ⟨5,ed⟩ E7 F1;rw[show x 5=.pointer (an ⟨b,0,ba⟩)from d]at f |-;obtain⟨⟨F,zJ,yC,yD,zO⟩,zF⟩:=C;have xA:=zO hL;go_simp;refine(AE 4 zJ D9 D9 D9 D9).ai ?_;rintro e X' ⟨y,rfl,y0,y1,zN,zC⟩;exact f.out _ X' ⟨y.toNat,by congr 1;omega,by omega⟩ zC ⟨⟨F+1,zN,by omega,by omega,λh=>by unfold Bj at h;simp at h⟩,Ai zF zC⟩
   .obtain⟨o,Z,I,J⟩:=M ⟨4,ed⟩ E7 F1;obtain⟨j,e2,h3⟩:=M ⟨6,ed⟩ E7 F1;rw[Z,e2]at f |-;obtain⟨y,h4⟩:=Eg J E7 (j:=j) E8;have h5:=J.lt;have h6:(j:Int)<4:=D9;clear J;go_simp;exact f.out _ X ⟨o,j,rfl,I,h5,y,h4⟩ hr (R D9 X Ae)
   .obtain⟨o,j',Z,I,J,y,h3⟩:=M ⟨7,ed⟩ E7 F1;rw[Z]at f |-;go_simp;exact f.out _ X ⟨y,rfl⟩ hr (R D9 X Ae)
   have d3:=M ⟨3,ed⟩ E7 F1;obtain⟨y,Z⟩:=M ⟨8,ed⟩ E7 F1;rw[show x 3=Zg zI from d3,Z]at f |-;go_simp;exact f.out _ X ⟨_,rfl⟩ hr (R D9 X Ae)
  intro L x X hL C hT K f;simp only[AY,Act.put,Zq,Zp,Zo];obtain⟨y,Z⟩:=hT 9 H9 (λj=>by simp);have d:=hT 11 H9 (λj=>by simp);obtain⟨⟨F,zJ,yC,yD,zO⟩,zF⟩:=C;have⟨⟨u,c1⟩,f1,yZ⟩:=HC X zF;have hI:=B.go zF zJ zA;have HE:Hid (Em w b a n c p 40 q (ev X (Zd gl 2) (Zg y))):=(hI.rows zA (AX X gl _ _) zY yG ((yO X hI.st).jh y).1).more D9 D9;rw[Z,show x 11=.pointer (an ⟨gl,2,ba⟩)from d];clear hT hI HF HC B yO;go_simp;refine f.out _ _ ?_;clear f K;go_wp2;go_meet;exact HE
 .by_cases hz:eh Q=0
  .have zS:¬(0:Int)<(eh Q:Int):=D9;clear hz;have HE:Hid (Em w b a n c p 40 q E):=B.same.more D9 D9;obtain⟨v4,_⟩:=B.box 6 _ rfl;clear B HQ;go_wp2;go_meet;exact HE
  have zS:(0:Int)<(eh Q:Int):=D9;have xE:0<eh Q:=D9;obtain⟨l0,lr,yT⟩:∃l0 lr,Q=l0::lr:=by
   match Q,hz with
   |[],hz=>exact absurd rfl hz
   |l0::lr,_=>exact⟨l0,lr,rfl⟩
  have yO:Hid (∀X,Cz X (w.1.size+2) q (C3 (an ⟨g,0,ba⟩) (eh H) tc) (C3 (an ⟨O,0,ba⟩) (eh N) zH) (C3 (an ⟨gl,0,ba⟩) (eh Q) zG) zs N Q->Cz X (w.1.size+2) q (C3 (an ⟨g,0,ba⟩) (eh H) tc) (C3 (an ⟨O,0,ba⟩) (eh N) zH) (C3 (an ⟨gl,0,ba⟩) (eh Q) zG) zs N (l0::lr)):=λX h=>by rw[yT]at h |-;exact h
  have HC:Hid (∀X,ep E X (an b)->(∃u,ek X (Zd gl 0)=an u)/\el X ⟨gl,0,ba⟩=bq/\gl<X.1.size):=λX hX=>by have ho:=(HF X hX).2.l.o;exact⟨Qs ho 0 D9,KC ho _,(Ac ho (g:=gl) rfl).2⟩
  have zY:=(Ac B.st.l.o (g:=gl) rfl).1;have yG:gl≠q:=λe=>B.st.l.q I4;obtain⟨v4,_⟩:=B.box 6 _ rfl;clear yT;go_upto_region 32 with fail;try rw[decide_eq_true (show 0<eh Q by omega)]
  clear v4;refine CI [169,170,171,172,173,174,175,176,177,178,179,180,181,182] 14 rfl _ rfl Ez Ez Ez Ez Ez H9 Ez [] Ez (λL X=>(∃F,AB X b a n c F/\p1<=F/\F<=p1+2/\(L 9=bq->F=p1))/\ep E X (an b)) (λi X v=>match i with
   |0=>v=.pointer (an ⟨q,6,ba⟩)
   |1=>v=C3 (an ⟨gl,0,ba⟩) (eh Q) zG
   |2=>v=.pointer (an ⟨q,2,ba⟩)
   |3=>v=Zg D
   |4=>v=.pointer (an ⟨q,2,ba⟩)
   |5=>v=Zg D
   |6=>∃y:Int,v=Zg y
   |7=>∃o,v=C3 (an ⟨o,0,ba⟩) 3 3/\o≠b/\∃y,Aa X o [Ze,Zg D,Zg y]
   |8=>v=.pointer (an ⟨b,0,ba⟩)
   |9=>∃j:Nat,v=Zg j/\j<3
   |10=>∃o j',v=.pointer (an ⟨o,j',ba⟩)/\o≠b/\o<X.1.size/\∃y:Int,ek X (Zd o j')=an (Zg y)
   |11=>∃y:Int,v=Zg y
   |12=>v=.pointer (an ⟨gl,0,ba⟩)
   |13=>v=.pointer (an ⟨gl,0,ba⟩)
   |_=>True) (λ_ X Y=>ep X Y (an b)) ?_ ⟨⟨p1,B.rd.drew,by omega,by omega,λ_=>rfl⟩,⟨rfl,rfl,rfl,Zx,λ_ _ _=>rfl⟩⟩ ?_ ?_
  .intro j i X Y v yB yH yQ hE hT;rcases i with _|_|_|_|_|_|_|_|_|_|_|_|_|_|_<;>first|exact hT|exact trivial|skip
   .obtain⟨o,e,I,y,J⟩:=hT;exact⟨o,e,I,y,J.au hE (Ne.symm I)⟩
   obtain⟨o,j',e,I,J,h3⟩:=hT;obtain⟨y,h4⟩:=h3;exact⟨o,j',e,I,Zr J hE.size,y,(cell?_of_block (a:=⟨o,j',ba⟩) (hE.block o J (λe=>I N3))).ag h4⟩
  .intro i o' L x X hi ho hL hD C M K f;obtain⟨b0,b1,b2,b3,b4,b5,b6⟩:=Aa.c7 (HF X C.2).1 0 1 2 3 4 5 6;have hr:ep X X (an b):=AO _ _;have R:i≠9->∀Y,Zz X Y->(∃F,AB Y b a n c F/\p1<=F/\F<=p1+2/\(Bj L i 9=bq->F=p1))/\ep E Y (an b):=λh6 Y hY=>⟨C.1.imp (λF h=>⟨h.1.A hY,h.2.1,h.2.2.1,λh9=>h.2.2.2 G0⟩),Ai C.2 (Af _ hY)⟩;rcases(show i=0\/i=1\/i=2\/i=3\/i=4\/i=5\/i=6\/i=7\/i=8\/i=9\/i=10\/i=11\/i=12\/i=13 by omega)with rfl|rfl|rfl|rfl|rfl|rfl|rfl|rfl|rfl|rfl|rfl|rfl|rfl|rfl<;>cases ho<;>simp only[AY,Act.put,Zq,Zp,Zo]at f |-
   all_goals try (go_simp;exact f.out _ X rfl hr (R D9 X Ae))
   all_goals try (simp[Gf,Region.binds]at M;simp only[M]at f |-;go_simp;exact f.out _ X rfl hr (R D9 X Ae))
   .have d:=M ⟨5,ed⟩ E7 F1;rw[show x 5=Zg D from d]at f |-;go_simp;exact f.out _ X ⟨_,rfl⟩ hr (R D9 X Ae)
   .have d3:=M ⟨3,ed⟩ E7 F1;obtain⟨y,Z⟩:=M ⟨6,ed⟩ E7 F1;rw[show x 3=Zg D from d3,Z]at f |-;have S:bs X.1.size X (X.alloc (ca #[Ze,Zg D,Zg y] 3)):=Zy;have yP:=C.2.size;go_simp;exact f.out _ _ ⟨X.1.size,rfl,by omega,y,Aa.new X _ _⟩ (Af _ S) (R D9 _ S)
   .have d:=M ⟨8,ed⟩ E7 F1;rw[show x 8=.pointer (an ⟨b,0,ba⟩)from d]at f |-;obtain⟨⟨F,zJ,yC,yD,zO⟩,zF⟩:=C;have xA:=zO hL;go_simp;refine(AE 3 zJ D9 D9 D9 D9).ai ?_;rintro e X' ⟨y,rfl,y0,y1,zN,zC⟩;exact f.out _ X' ⟨y.toNat,by congr 1;omega,by omega⟩ zC ⟨⟨F+1,zN,by omega,by omega,λh=>by unfold Bj at h;simp at h⟩,Ai zF zC⟩
   .obtain⟨o,Z,I,y',J⟩:=M ⟨7,ed⟩ E7 F1;obtain⟨j,e2,h3⟩:=M ⟨9,ed⟩ E7 F1;rw[Z,e2]at f |-;obtain⟨y,h4⟩:=Eg J E7 (j:=j) E8;have h5:=J.lt;have h6:(j:Int)<3:=D9;clear J;go_simp;exact f.out _ X ⟨o,j,rfl,I,h5,y,h4⟩ hr (R D9 X Ae)
   obtain⟨o,j',Z,I,J,y,h3⟩:=M ⟨10,ed⟩ E7 F1;rw[Z]at f |-;go_simp;exact f.out _ X ⟨y,rfl⟩ hr (R D9 X Ae)
  intro L x X hL C hT K f;simp only[AY,Act.put,Zq,Zp,Zo];obtain⟨y,Z⟩:=hT 11 H9 (λj=>by simp);have d:=hT 13 H9 (λj=>by simp);obtain⟨⟨F,zJ,yC,yD,zO⟩,zF⟩:=C;have⟨⟨u,c1⟩,f1,yZ⟩:=HC X zF;have hI:=B.go zF zJ zA;have HE:Hid (Em w b a n c p 40 q (ev X (Zd gl 0) (Zg y))):=(hI.rows zA (AX X gl _ _) zY yG ((yO X hI.st).jh y).2).more D9 D9;rw[Z,show x 13=.pointer (an ⟨gl,0,ba⟩)from d];clear hT hI HF HC B yO;go_simp;refine f.out _ _ ?_;clear f K;go_wp2;go_meet;exact HE
 go_wp2_with fail;refine(AE 2 B.rd D9 D9 D9 D9).ai ?_;rintro e X3 ⟨x,rfl,x0,x1,zK,zE⟩;have zB:Hid _:=B.go zE zK zA;go_wp2_with fail;refine(AE 2 zB.rd D9 D9 D9 D9).ai ?_;rintro e X4 ⟨y,rfl,y0,y1,xM,K⟩;have f:Hid _:=zB.go K xM zA;obtain⟨j,rfl⟩:∃j:Nat,x=j:=⟨x.toNat,by omega⟩;have HM:Hid _:=XM (600+j) (y==0) X4 D9;have xL:((600+j:Nat):Int)=600+(j:Int):=D9;rw[xL]at HM;clear zK xM zE K B zB HQ xL;go_wp2_with fail;refine HM.Aj ?_;clear HM;rintro e K hM;obtain⟨ta,e,xF,rfl,hS,yF⟩:=hM.kb (q:=0) D9 D9;have q:=f.gr.size;have vW:=f.z.lt;have HS:Hid _:=hS;have B:Hid ((∃F,AB K b a n c F/\p<=F/\F<=p+40)/\ep w K (an b)):=⟨⟨_,f.rd.A yF,by omega,by omega⟩,Ai f.gr (Af _ yF)⟩;obtain⟨⟨y0,f0⟩,⟨y1,f1⟩,⟨y2,f2⟩,⟨y3,f3⟩,⟨y4,f4⟩,⟨y5,f5⟩,y6,f6⟩:=Lu (Aa.A (v:=Ze) f.z yF);clear hS yF hM f;go_wp2;refine C1 (.agg #[Zg 8,Ze,Ze,Zg ((600+j:Nat):Int),C3 ta (eh xF) e,Zb,Zb]) (by simp[results,results41,go_sem,y0,y1,y2,y3,y4,y5,y6]) (HS.fin (r:=w.1.size+1) B.1 B.2 zA ?_ D9 D9)
 repeat refine Tn.ag ?_ (Tn.set _ _ _ _ E7)
 exact Tn.of Ae
