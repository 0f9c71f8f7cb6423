import Derived.Test.YtdofmfnmackjhaaGreatDoorX35
import Derived.Deep.CutBlock
set_option maxRecDepth 100000
set_option maxHeartbeats 16000000
namespace Go.Proofs.YtdofmfnmackjhaaGreatDoor
open ChangeShapes WideShapes ChangeAt RowKit _root_.Go.Proofs.Tryz List World Value
variable{w X Y:Zh}{b n c q g size:Nat}{a:Zk}{p j e d f:Int}{l:Zj}{T P L:Value}{k:Dy}{i:Dv}
structure Kp (w:Zh) (b:Nat) (a:Zk) (n c:Nat) (p:Int) (q:Nat) (wd now given births:Int) (T P L:Value) (zs:List (Kd×Value)) (ps:List Pd) (ls:List Ld) (X:Zh):Prop where
 box:Aa X q [Zg wd,Zg now,Zg given,Zg births,T,P,L]
 R:Cg X (w.1.size+2) q T P L zs ps ls
 z:Aa X (w.1.size+1) z7
 rd:AD X b a n c p
 gr:w.grownBy X (some b)
 q:w.1.size+2<=q
theorem Kp.go{l g:Int}{m:List (Kd×Value)}(h:Kp w b a n c p q l g e d T P L m k i X)(f:X.grownBy Y (some b))(r:AD Y b a n c j)(s:b<w.1.size):Kp w b a n c j q l g e d T P L m k i Y:=by have o:=h.q;exact⟨h.box.aw f Yv,h.R.K (Tn.grown (V:=[b]) f Yu) Yt,h.z.aw f Yv,r,Aj h.gr f,o⟩
theorem Kp.G{o:Int}{zs:List (Kd×Value)}{i:Dy}{g:Dv}(h:Kp w b a n c p q o f e d T P L zs i g X)(r:b<w.1.size)(j:Nat)(s:j<4)(x:Int):Eh w b a n c p 0 q (X.setCell (Zd q j) (Zg x)):=by
 have t:=h.q;have m:=AP X q j (Zg x);refine⟨?_,Aa.same h.z (m.block _ h.z.lt Yt),⟨p,h.rd.K m Yt Yt,Yv,Yv⟩,Dt h.gr m Yt⟩;have k:=h.box.set j (Zg x);have l:=h.R.K m Yu;rcases(show j=0\/j=1\/j=2\/j=3 by omega)with rfl|rfl|rfl|rfl
 .exact⟨x,f,e,d,T,P,L,zs,i,g,k,l⟩
 .exact⟨o,x,e,d,T,P,L,zs,i,g,k,l⟩
 .exact⟨o,f,x,d,T,P,L,zs,i,g,k,l⟩
 .exact⟨o,f,e,x,T,P,L,zs,i,g,k,l⟩
theorem Eh.more{K:Int}(h:Eh w b a n c p K q X)(l:d<=p)(m:p+K<=d+e):Eh w b a n c d e q X:=by obtain⟨i,j,⟨k,g,o,r⟩,f⟩:=h;exact⟨i,j,⟨k,g,Yv,Yv⟩,f⟩
theorem RM{j:Nat}(h:Aa X q l)(d:∀i,i<l.length->∃s:Zi,s.size<=3/\l[i]?=some (C4 s))(c:j<l.length):∃s:Zi,s.size<=3/\X.cell? (Zd q j)=some (C4 s):=by have⟨s,a,b⟩:=d j c;exact⟨s,a,(h j _ b).1⟩
theorem ZL(s:Zi)(a:Int)(w:Zh)(b:s.size<=100000):Calls prog 22 #[.string s,Zg a] w fun e c=>∃t,e=.returned (.string t)/\t.size<=maxLen/\Zz w c:=
 (Km s a w b).mono fun _ _ ⟨t,h1,h2,h3⟩=>⟨t,h1,Yo,h3⟩
theorem IL{j:Nat}(h:Aa X q l)(b:∀u∈l,∃x,u=Zg x)(a:j<l.length):∃x,X.cell? (Zd q j)=some (Zg x):=by obtain⟨x,c⟩:=b _ (getElem_mem a);exact⟨x,(h j _ (Zv a)).1.ah (by rw[c])⟩
theorem Kq{a:Nat}{e:TypeId}{f:Zj}(h:w.ownsRow a e size (Yz g n b) n f)(j:Nat):w.frozen? ⟨g,j,none⟩=false:=by
 rcases h.2 with⟨e,_⟩|⟨k,c,i,e,_,d,_⟩
 .cases e
 .cases e;simp[frozen?,d]
theorem Qt{a:Nat}{e:TypeId}{d:Zj}(h:w.ownsRow a e size (Yz g n c) n d)(j:Nat)(b:j<n *size):∃u,w.cell? (Zd g j)=some u:=by rw[h.cellAt j b];exact⟨_,Zv (by rw[h.1];exact b)⟩
theorem Kp.rows{s:Int}{t l:List (Kd×Value)}{r:Dy}{o:Dv}(h:Kp w b a n c p q s j e d T P L t r o X)(v:b<w.1.size)(f:Tn [g] X Y)(x:w.1.size+2<=g)(u:g≠q)(m:Cg Y (w.1.size+2) q T P L l k i):Eh w b a n c p 0 q Y:=
 ⟨⟨_,_,_,_,_,_,_,_,_,_,Aa.same h.box (f.block _ h.box.lt Yt),m⟩,Aa.same h.z (f.block _ h.z.lt Yt),⟨p,h.rd.K f Yt Yt,Yv,Yv⟩,Dt h.gr f Yt⟩
theorem Kp.same{k:List (Kd×Value)}{i:Dy}{g:Dv}(h:Kp w b a n c p q j f e d T P L k i g X):Eh w b a n c p 0 q X:=
 ⟨⟨_,_,_,_,_,_,_,_,_,_,h.box,h.R⟩,h.z,⟨p,h.rd,Yv,Yv⟩,h.gr⟩
theorem Vc(b:Nat)(a:Zk)(n c:Nat)(p:Int)(sw zI D G:Int)(ka pa la:Zk)(kc pc lc:Nat)(H:Dj)(N:Dy)(R:Dv)(w:Zh)(h:AD w b a n c p)(hp:0<=p)(vP:p<=750000)(zV:Bx w w.1.size ka pa la H N R)(yJ:∀A,ka=some A->IF w A H)(xW:pa=none->pc=0)(xT:la=none->lc=0)(C:Hf H N R)(f:∀k∈H,IE k):
 D8 48 #[.pointer (some ⟨b,0,none⟩),.agg (Yg sw zI D G ka H.length kc pa N.length pc la R.length lc)] w (UW w b a n c p 40):=by
 have zA:=h.lt;have⟨W,J⟩:=Ae ((w.alloc (.cells (Yg sw zI D G ka H.length kc pa N.length pc la R.length lc) 27)).alloc (.cells Yi 27));obtain⟨B,Q,E,c7⟩:=Bi (l:=(Yh sw zI D G ka H.length kc pa N.length pc la R.length lc)) (k:=z7) J;obtain⟨j,m,q,r,s,t,u⟩:=Aa.c7 E 0 1 2 3 4 5 6;have hn:=C.n
 have O:Hid _:=Ft sw zI D G ka pa la kc pc lc H N R W (zV.T B) (λA U=>by have hk:=yJ A U;have I:=zV.k;rw[U]at I;exact hk.ag I B) xW xT hn.1 hn.2.1 hn.2.2 (λk hk=>(f k hk).2.1);have o:Hid (Aa W w.1.size (Yh sw zI D G ka H.length kc pa N.length pc la R.length lc)/\Aa W (w.1.size+1) z7/\AD W b a n c p/\w.grownBy W (some b)/\W.1.size=w.1.size+2):=⟨E,c7,h.A B,Ag _ B,Q⟩
 have F:Hid (Oc H N R/\∀k∈H,IE k):=⟨C.w f,f⟩;have M:Hid _:=J;clear J B Q E c7 zV yJ C f h;go_enter func48,ntmps48;go_upto_region 1 with fail;rw[<-M.o];clear M;go_wp2_with fail;refine O.Ai ?_;rintro e d ⟨T,P,L,rs,rfl,hS,J,E⟩;obtain⟨g,tn,tc,rfl⟩:=J T (by simp);obtain⟨Q,pn,zH,rfl⟩:=J P (by simp);obtain⟨gl,ln,zG,rfl⟩:=J L (by simp)
 have⟨X0,B⟩:=D6 d (Yg sw zI D G (some ⟨g,0,none⟩) tn tc (some ⟨Q,0,none⟩) pn zH (some ⟨gl,0,none⟩) ln zG) 27;have Z:=(AE (l:=(Yh sw zI D G (some ⟨g,0,none⟩) tn tc (some ⟨Q,0,none⟩) pn zH (some ⟨gl,0,none⟩) ln zG)) B).1;have i:=(AE (l:=(Yh sw zI D G (some ⟨g,0,none⟩) tn tc (some ⟨Q,0,none⟩) pn zH (some ⟨gl,0,none⟩) ln zG)) B).2.2
 have f:Below W.1.size W X0:=E.ah (Z.aj E.size);have vR:=E.size;have xD:=o.2.2.2.2;have C:Hid (Kp w b a n c p d.1.size sw zI D G (C3 (some ⟨g,0,none⟩) tn tc) (C3 (some ⟨Q,0,none⟩) pn zH) (C3 (some ⟨gl,0,none⟩) ln zG) (H.zip rs) N R X0):=
  ⟨i,(hS.jg (λg M=>⟨Dz (hS.lo g M),λe=>Dz (hS.dj g M)⟩) F.1).A Z,Aa.A (v:=Ze) o.2.1 f,o.2.2.1.A f,Aj o.2.2.2.1 (Ag _ f),by omega⟩
 have xJ:Hid (N.length<=100):=hn.2.1;have zS:Hid ((∀z∈H.zip rs,IE z.1)/\(H.zip rs).length=H.length):=⟨λz hz=>F.2 z.1 (of_mem_zip hz).1,by rw[length_zip,hS.len,Nat.min_self]⟩;have M:Hid (∀X,X0.grownBy X (some b)->Aa X w.1.size (Yh sw zI D G ka H.length kc pa N.length pc la R.length lc)):=λX hX=>(Aa.A o.1 f).aw hX (by omega)
 obtain rfl:tn=H.length:=by have⟨_,_,e⟩:=Aq hS.ak;injection e
 obtain rfl:pn=N.length:=by have⟨_,_,e⟩:=Aq hS.pins;injection e
 obtain rfl:ln=R.length:=by have⟨_,_,e⟩:=Aq hS.au;injection e
 have S:Hid _:=B;clear B Z i f E hS J O o F j m q r s t u;generalize H.zip rs=zs at *
 go_upto_region 2 with fail;rw[<-S.o];clear S;generalize d.1.size=q at *
 obtain⟨v4,_⟩:=C.box 4 _ rfl;go_wp2_with fail;refine(Vu b a n c p H.length X0 C.rd hp (by omega) (by omega)).aj ?_;rintro e X1 ⟨k,rfl,hk,F,f⟩;clear v4;go_wp2_with fail;refine(AK b a n c (p+1) 12 X1 F (by omega) (by omega) (by omega) (by omega)).aj ?_;rintro e E ⟨r,rfl,r0,r1,zN,zC⟩
 have B:Hid (Kp w b a n c (p+1+1) q sw zI D G (C3 (some ⟨g,0,none⟩) H.length tc) (C3 (some ⟨Q,0,none⟩) N.length zH) (C3 (some ⟨gl,0,none⟩) R.length zG) zs N R E):=C.go (Aj f zC) zN zA;have o:=M E (Aj f zC);have HQ:Hid (E.cell? (Zd (w.1.size) 0)=some (Zg sw)):=(o 0 _ rfl).1;clear F zN f zC C M o;generalize xV:p+1+1=p1 at *
 have xC:q<E.1.size:=B.box.lt;have vQ:=B.q
 have HF:Hid (∀X,E.grownBy X (some b)->Aa X q (Yh sw zI D G (some ⟨g,0,none⟩) H.length tc (some ⟨Q,0,none⟩) N.length zH (some ⟨gl,0,none⟩) R.length zG)/\Cg X (w.1.size+2) q (C3 (some ⟨g,0,none⟩) H.length tc) (C3 (some ⟨Q,0,none⟩) N.length zH) (C3 (some ⟨gl,0,none⟩) R.length zG) zs N R):=λX hX=>⟨B.box.aw hX (by omega),B.R.K (Tn.grown (V:=[b]) hX (by simp)) (by simp;omega)⟩
 have vK:=Ac B.R.p.o (g:=Q) rfl;have vI:Q≠q:=λe=>B.R.p.q (by rw[e];rfl);have vL:g≠Q:=λe=>by obtain⟨c1,I⟩:=Cz B.R.t.o (g:=g) rfl;obtain⟨c2,J⟩:=Cz B.R.p.o (g:=Q) rfl;rw[e,J]at I;cases I
 have HG:Hid (∀X,Tn [b,Q] E X->Aa X q (Yh sw zI D G (some ⟨g,0,none⟩) H.length tc (some ⟨Q,0,none⟩) N.length zH (some ⟨gl,0,none⟩) R.length zG)/\Aa X (w.1.size+1) z7/\X.cell? (Zd (w.1.size) 0)=some (Zg sw)):=λX hX=>⟨Aa.same B.box (hX.block _ B.box.lt (by simp;omega)),Aa.same B.z (hX.block _ B.z.lt (by simp;omega)),(cell?_of_block (a:=⟨w.1.size,0,none⟩) (hX.block w.1.size (by omega) (by simp;omega))).ah HQ⟩
 go_upto_block 0 with fail
 go_cut [6] (λ_ f=>Hid (Eh w b a n c p 40 q f))
 case rest=>
  clear B HQ HF HG;revert wc;intro Y HE;have⟨vG,xI,yM,yI,T',P',L',xE,vD,vA,hB,hS⟩:=HE.ex;have⟨ta,tn,O⟩:=Aq hS.t.o;have⟨vC,pn,hP⟩:=Aq hS.p.o;have⟨xZ,ln,hL⟩:=Aq hS.l.o;subst O hP hL;have HS:Hid _:=hS;obtain⟨x0,x1,x2,x3,x4,x5,x6⟩:=Aa.c7 hB 0 1 2 3 4 5 6;have⟨⟨y0,f0⟩,⟨y1,f1⟩,⟨y2,f2⟩,⟨y3,f3⟩,⟨y4,f4⟩,⟨y5,f5⟩,y6,f6⟩:=Hb HE.z;clear hS hB;go_wp2
  refine C0 (.agg (Yg vG xI yM yI ta xE.length tn vC vD.length pn xZ vA.length ln)) (by simp[results,results48,go_sem,y0,y1,y2,y3,y4,y5,y6]) (HE.fin HS zA ?_)
  repeat refine Tn.ah ?_ (Tn.set _ _ _ _ (by simp))
  exact Tn.of Ad
 rcases(show r=0\/r=1\/r=2\/r=3\/r=4\/r=5\/r=6\/r=7\/r=8\/r=9\/r=10\/r=11 by omega)with rfl|rfl|rfl|rfl|rfl|rfl|rfl|rfl|rfl|rfl|rfl|rfl
 .go_wp2_with fail;refine(AK b a n c p1 11 E B.rd (by omega) (by omega) (by omega) (by omega)).aj ?_;rintro e X3 ⟨x,rfl,x0,x1,zK,zE⟩;have zB:Hid _:=B.go zE zK zA;obtain⟨y0,f0⟩:=zB.box 0 _ rfl;have xB:q<X3.1.size:=zB.box.lt;have HE:Hid (∀x,Eh w b a n c p 40 q (X3.setCell (Zd q 0) (Zg x))):=λx=>(zB.G zA 0 (by omega) x).more (by omega) (by omega);clear zK zE zB B HQ;go_wp2;go_meet
  exact HE _
 .obtain⟨A,U⟩:=D6 E #[Zg (-1),Zg 1000000000,Zg 1000000001] 3;have o:=(AE (l:=[Zg (-1),Zg 1000000000,Zg 1000000001]) U).1;have F:=(AE (l:=[Zg (-1),Zg 1000000000,Zg 1000000001]) U).2.2;have f:Hid _:=B.go (Ag _ o) (B.rd.A o) zA;have C:Hid _:=AK b a n c p1 3 A f.rd (by omega) (by omega) (by omega) (by omega);subst U;go_wp2_with fail;refine C.Ai ?_
  rintro e X3 ⟨x,rfl,x0,x1,zK,zE⟩;obtain⟨j,rfl⟩:∃j:Nat,x=j:=⟨x.toNat,by omega⟩;have zB:Hid _:=f.go zE zK zA;obtain⟨v,hv⟩:=IL (F.aw zE (by omega)) (by simp) (j:=j) (by simp;omega);obtain⟨y0,f0⟩:=zB.box 1 _ rfl;have xB:q<X3.1.size:=zB.box.lt;have yU:=zE.size;have HE:Hid (∀x,Eh w b a n c p 40 q (X3.setCell (Zd q 1) (Zg x))):=λx=>(zB.G zA 1 (by omega) x).more (by omega) (by omega)
  simp only[Al]at yU;clear zK zE zB B HQ f C F o;go_wp2;go_meet;exact HE _
 .obtain⟨A,U⟩:=D6 E #[Zg (-1),Ze,Zg 1,Zg 1000000000,Zg 1000000001] 3;have o:=(AE (l:=[Zg (-1),Ze,Zg 1,Zg 1000000000,Zg 1000000001]) U).1;have F:=(AE (l:=[Zg (-1),Ze,Zg 1,Zg 1000000000,Zg 1000000001]) U).2.2;have f:Hid _:=B.go (Ag _ o) (B.rd.A o) zA;have C:Hid _:=AK b a n c p1 5 A f.rd (by omega) (by omega) (by omega) (by omega);subst U;go_wp2_with fail
  refine C.Ai ?_;rintro e X3 ⟨x,rfl,x0,x1,zK,zE⟩;obtain⟨j,rfl⟩:∃j:Nat,x=j:=⟨x.toNat,by omega⟩;have zB:Hid _:=f.go zE zK zA;obtain⟨v,hv⟩:=IL (F.aw zE (by omega)) (by simp) (j:=j) (by simp;omega);obtain⟨y0,f0⟩:=zB.box 3 _ rfl;have xB:q<X3.1.size:=zB.box.lt;have yU:=zE.size
  have HE:Hid (∀x,Eh w b a n c p 40 q (X3.setCell (Zd q 3) (Zg x))):=λx=>(zB.G zA 3 (by omega) x).more (by omega) (by omega);simp only[Al]at yU;clear zK zE zB B HQ f C F o;go_wp2;go_meet;exact HE _
 .obtain⟨A,U⟩:=D6 E #[Zg (-1),Ze,Zg 1000000000,Zg 1000000001] 3;have o:=(AE (l:=[Zg (-1),Ze,Zg 1000000000,Zg 1000000001]) U).1;have F:=(AE (l:=[Zg (-1),Ze,Zg 1000000000,Zg 1000000001]) U).2.2;have f:Hid _:=B.go (Ag _ o) (B.rd.A o) zA;have C:Hid _:=AK b a n c p1 4 A f.rd (by omega) (by omega) (by omega) (by omega);subst U;go_wp2_with fail;refine C.Ai ?_
  rintro e X3 ⟨x,rfl,x0,x1,zK,zE⟩;obtain⟨j,rfl⟩:∃j:Nat,x=j:=⟨x.toNat,by omega⟩;have zB:Hid _:=f.go zE zK zA;obtain⟨v,hv⟩:=IL (F.aw zE (by omega)) (by simp) (j:=j) (by simp;omega);obtain⟨y0,f0⟩:=zB.box 2 _ rfl;have xB:q<X3.1.size:=zB.box.lt;have yU:=zE.size;have HE:Hid (∀x,Eh w b a n c p 40 q (X3.setCell (Zd q 2) (Zg x))):=λx=>(zB.G zA 2 (by omega) x).more (by omega) (by omega)
  simp only[Al]at yU;clear zK zE zB B HQ f C F o;go_wp2;go_meet;exact HE _
 .by_cases hz:H.length=0
  .have zR:¬(0:Int)<(H.length:Int):=by omega
   clear hz hk;have HE:Hid (Eh w b a n c p 40 q E):=B.same.more (by omega) (by omega);obtain⟨v4,_⟩:=B.box 4 _ rfl;clear B HQ;go_wp2;go_meet;exact HE
  have zR:(0:Int)<(H.length:Int):=by omega
  have yR:k<H.length:=by omega
  have zZ:k<zs.length:=by rw[zS.2];exact yR
  have yK:=Zv zZ;have F:Hid (IE zs[k].1):=zS.1 _ (getElem_mem zZ)
  have HC:Hid (∀X,E.grownBy X (some b)->∃ra rc,zs[k].2=.slice ra zs[k].1.B.length rc/\X.cell? (Zd g (k *4+2))=some (C4 zs[k].1.J)/\X.cell? (Zd g (k *4+3))=some (.slice ra zs[k].1.B.length rc)/\X.frozen? ⟨g,k *4+2,none⟩=false/\X.frozen? ⟨g,k *4+3,none⟩=false/\Af X X.1.size ra zs[k].1.B/\(ra=none->zs[k].1.B.length=0/\rc=0)/\g<X.1.size):=λX hX=>by
   have hS:=(HF X hX).2;have I:=(hS.r _ (getElem_mem zZ)).o;have⟨ra,rc,e⟩:=Aq I;have ho:=hS.t.o;rw[zS.2]at ho;have c2:=ho.cellAt (k *4+2) (by omega);have c3:=ho.cellAt (k *4+3) (by omega);rw[BN Cn yK (show 2<4 by decide)]at c2;rw[BN Cn yK (show 3<4 by decide)]at c3;have xM:X.cell? (Zd g (k *4+3))=some (.slice ra zs[k].1.B.length rc):=c3.ah (congrArg some e);rw[e]at I;have J:=Ls I
   exact⟨ra,rc,e,c2,xM,Kq ho _,Kq ho _,J.1,J.2,(Ac ho (g:=g) rfl).2⟩
  have zX:=(Ac B.R.t.o (g:=g) rfl).1;have yF:g≠q:=λe=>B.R.t.q (by rw[e];rfl);obtain⟨v4,_⟩:=B.box 4 _ rfl;generalize zs[k]=z at *
  go_upto_region 15 with fail;rw[decide_eq_true (show 0<H.length by omega)];clear v4;have o:E.grownBy E.drew (some b):=⟨rfl,rfl,rfl,Zx,λ_ _ _=>rfl⟩;obtain⟨ra,rc,C,c2,c3,_,_,S,M,yY⟩:=HC E (AO _ _);have⟨_,_,xL,_,_,_,_,f,_⟩:=HC E.drew o;rw[C]at xL;injection xL with e2 e3 e4;subst e2 e4;have vJ:Hid (z.2=C3 ra z.1.B.length rc):=C
  obtain⟨b0,b1,b2,b3,b4,b5,b6⟩:=Aa.c7 (HF E (AO _ _)).1 0 1 2 3 4 5 6;have xF:Hid _:=JR b a n c p1 z.1.J ra rc z.1.B E.drew B.rd.drew (by omega) (by omega) f M F.1 F.2.1 F.2.2.1;clear C e3 S f M
  go_region_with (go_at_call 53;refine xF.Ai ?_;rintro e X' ⟨⟨t,vE,vF,ss,rfl,vS,vN,xX,zM⟩,⟨⟨p2,zN,h3,h4⟩,zC⟩⟩;have C:E.grownBy X' (some b):=o.andThen zC (λ_ e=> .inr e);obtain⟨d0,d1,d2,d3,d4,d5,d6⟩:=Aa.c7 (HF X' C).1 0 1 2 3 4 5 6;have⟨_,_,_,k2,k3,f2,f3,_,_,hgY⟩:=HC X' C;have f:Hid _:=Zn C (Zn zN zM);clear C zN zM zC)
  all_goals
   have hI:=B.go f.1 f.2.1 zA;have vU:E.drew.1.size=E.1.size/\E.1.size<=X'.1.size:=⟨rfl,f.1.size⟩;have hm:(100000:Nat)<=maxLen:=by unfold maxLen;omega
   have HE:Hid (Eh w b a n c p 40 q ((X'.setCell (Zd g (k *4+2)) (C4 t)).setCell (Zd g (k *4+3)) (C3 vE ss.length vF))):=(hI.rows zA (Tn.ah (AP X' g _ _) (AP _ g _ _)) zX yF (hI.R.setT yK (⟨f.2.2.aj (by omega),λe=>Dz (Ac f.2.2 e).1⟩) (by omega) (by omega) (λs hs=>Dz (xX s hs)))).more (by omega) (by omega);clear hI HF HC B F f;go_wp2;go_meet;exact HE
 .by_cases hz:H.length<=1
  .have zR:¬(1:Int)<(H.length:Int):=by omega
   clear hz hk;have HE:Hid (Eh w b a n c p 40 q E):=B.same.more (by omega) (by omega);obtain⟨v4,_⟩:=B.box 4 _ rfl;clear B HQ;go_wp2;go_meet;exact HE
  have zR:(1:Int)<(H.length:Int):=by omega
  have xD:0<H.length:=by omega
  obtain⟨z0,z1,zr,xY⟩:∃z0 z1 zr,zs=z0::z1::zr:=by
   have hl:=zS.2
   match zs,hl with
   |[],hl=>simp at hl;omega
   |[_],hl=>simp at hl;omega
   |z0::z1::zr,_=>exact⟨z0,z1,zr,rfl⟩
  subst xY;have HC:Hid (∀X,E.grownBy X (some b)->X.cell? (Zd g 5)=some (Zg z1.1.born)/\X.cell? (Zd g 1)=some (Zg z0.1.born)/\X.frozen? ⟨g,1,none⟩=false/\g<X.1.size):=λX hX=>by have ho:=(HF X hX).2.t.o;rw[zS.2]at ho;exact⟨ho.cellAt 5 (by omega),ho.cellAt 1 (by omega),Kq ho _,(Ac ho (g:=g) rfl).2⟩
  have C:Hid ((Lit.int .i64 z1.1.born).wf=true):=(B.R.w.k z1.1 (by simp)).b;have zX:=(Ac B.R.t.o (g:=g) rfl).1;have yF:g≠q:=λe=>B.R.t.q (by rw[e];rfl);have f:E.grownBy E (some b):=AO _ _;have⟨c5,c1,f1,yY⟩:=HC E f;obtain⟨b0,b1,b2,b3,b4,b5,b6⟩:=Aa.c7 (HF E f).1 0 1 2 3 4 5 6;have o:E.grownBy E.drew (some b):=⟨rfl,rfl,rfl,Zx,λ_ _ _=>rfl⟩;have hI:=B.go o B.rd.drew zA
  have HE:Hid (Eh w b a n c p 40 q (E.drew.setCell (Zd g 1) (Zg z1.1.born))):=(hI.rows zA (AP E.drew g _ _) zX yF (hI.R.setB C)).more (by omega) (by omega);clear hI HF HC B C f o;go_wp2
  go_region
  all_goals go_wp2
  all_goals go_meet
  all_goals exact HE
 .by_cases hz:H.length=0
  .have zR:¬(0:Int)<(H.length:Int):=by omega
   clear hz hk;have HE:Hid (Eh w b a n c p 40 q E):=B.same.more (by omega) (by omega);obtain⟨v4,_⟩:=B.box 4 _ rfl;clear B HQ;go_wp2;go_meet;exact HE
  have zR:(0:Int)<(H.length:Int):=by omega
  have yR:k<H.length:=by omega
  have zZ:k<zs.length:=by rw[zS.2];exact yR
  have xR:k+1<=zs.length:=zZ;have vW:=zS.2;have vM:IntKind.i64.wrap ((k:Int)+1)=(k:Int)+1:=BM (by omega) (by omega);have HG:Hid (∀X,Zz E X->Aa X q (Yh sw zI D G (some ⟨g,0,none⟩) H.length tc (some ⟨Q,0,none⟩) N.length zH (some ⟨gl,0,none⟩) R.length zG)/\X.ownsRow (w.1.size+2) 68 4 (C3 (some ⟨g,0,none⟩) zs.length tc) zs.length (Ab kC zs)):=λX hX=>by have I:=Ah B.R.t.o hX;refine⟨Aa.A B.box hX,?_⟩;rw[zS.2]at I |-;exact I
  have HZ:Hid (∀z∈zs,∃a n c,z.2=C3 a n c):=λz hz=>by have⟨a,c,e⟩:=Aq (B.R.r z hz).o;exact⟨a,_,c,e⟩
  have zX:=Ac B.R.t.o (g:=g) rfl;obtain⟨v4,_⟩:=B.box 4 _ rfl;go_upto_region 21 with fail;try rw[decide_eq_true (show 0<H.length by omega)]
  clear v4;refine Co [93,94,95,96,97,98,99,100,101,102,103,104,105] 13 rfl _ rfl (by kernel_rfl) (by kernel_rfl) (by kernel_rfl) (by kernel_rfl) (by kernel_rfl) (by decide) (by kernel_rfl) [(5,0),(11,0),(11,5)] (by kernel_rfl) (λ_ X=>Zz E X/\E.1.size<=X.1.size) (λi X v=>match i with
   |0=>∃m,v=C3 (some ⟨m,0,none⟩) 0 0/\X.ownsRow E.1.size 68 4 (C3 (some ⟨m,0,none⟩) 0 0) 0 []
   |1=>v=.pointer (some ⟨q,4,none⟩)
   |2=>v=C3 (some ⟨g,0,none⟩) H.length tc
   |3=>v=Zg k
   |4=>v=C3 (some ⟨g,0,none⟩) k tc
   |5=>∃g' Z,v=C3 (some ⟨g',0,none⟩) k Z/\X.ownsRow E.1.size 68 4 (C3 (some ⟨g',0,none⟩) k Z) (zs.take k).length (Ab kC (zs.take k))
   |6=>v=.pointer (some ⟨q,4,none⟩)
   |7=>v=C3 (some ⟨g,0,none⟩) H.length tc
   |8=>v=Zg k
   |9=>v=Zg ((k:Int)+1)
   |10=>∃yH Z,v=C3 (some ⟨g,yH,none⟩) (zs.drop (k+1)).length Z/\∀j u,(Ab kC (zs.drop (k+1)))[j]?=some u->E.cell? (Zd g (yH+j))=some u
   |11=>∃g' Z,v=C3 (some ⟨g',0,none⟩) (H.length -1) Z/\X.ownsRow E.1.size 68 4 (C3 (some ⟨g',0,none⟩) (H.length -1) Z) (zs.take k++zs.drop (k+1)).length (Ab kC (zs.take k++zs.drop (k+1)))
   |12=>v=.pointer (some ⟨q,4,none⟩)
   |_=>True) (λj X Y=>Below E.1.size X Y/\(j≠5->j≠11->Zz X Y)) ?_ ⟨Ad.drew,Zx⟩ ?_ ?_
  .intro j i X Y v yA yG yP hE O;obtain⟨I,h3⟩:=hE;rcases i with _|_|_|_|_|_|_|_|_|_|_|_|_|_<;>first|exact O|exact trivial|skip
   .obtain⟨m,e,h⟩:=O;exact⟨m,e,Ah h (h3 (λe=>yG (by rw[e];simp)) (λe=>yG (by rw[e];simp)))⟩
   .obtain⟨g',Z,e,h⟩:=O;exact⟨g',Z,e,Ah h (h3 (λe=>yA e) (λe=>yG (by rw[e];simp)))⟩
   .obtain⟨g',Z,e,h⟩:=O;exact⟨g',Z,e,Ah h (h3 (λe=>by subst e;have h9:=yP.symm.ah (by kernel_rfl:_=true);cases h9) (λe=>yA e))⟩
  .intro i o' L x X hi ho hL hD C M K f;obtain⟨b0,b1,b2,b3,b4,b5,b6⟩:=Aa.c7 (HG X C.1).1 0 1 2 3 4 5 6;have hr:Below E.1.size X X/\(i≠5->i≠11->Zz X X):=⟨Ad,λ_ _=>Below.refl _ _⟩;rcases(show i=0\/i=1\/i=2\/i=3\/i=4\/i=5\/i=6\/i=7\/i=8\/i=9\/i=10\/i=11\/i=12 by omega)with rfl|rfl|rfl|rfl|rfl|rfl|rfl|rfl|rfl|rfl|rfl|rfl|rfl<;>cases ho<;>simp only[Bk,Act.put,Zq,Zp,Zo]at f |-
   all_goals try (go_simp;exact f.out _ X rfl hr C)
   all_goals try (simp[FV,Region.binds]at M;simp only[M]at f |-;go_simp;exact f.out _ X rfl hr C)
   .have U:Below X.1.size X (X.alloc (.cells #[] 68)):=Zy;have zT:=C.2;go_simp;exact f.out _ _ ⟨X.1.size,rfl,ownsRow_lit (base:=E.1.size) (e:=68) (size:=4) X #[] 0 zT (by unfold maxLen;omega) rfl⟩ ⟨U.aj zT,λ_ _=>U⟩ ⟨C.1.ah (U.aj zT),Zm zT U.size⟩
   .have d2:=M ⟨2,.data⟩ (by simp) (by rfl);have d3:=M ⟨3,.data⟩ (by simp) (by rfl);rw[show x 2=C3 (some ⟨g,0,none⟩) H.length tc from d2,show x 3=Zg k from d3]at f |-;have yJ:H.length<=tc/\tc<=maxLen:=by
     rcases(HG X C.1).2.2 with⟨e,_⟩|⟨_,_,_,e,_,_,I,J,_⟩
     .cases e
     .cases e;omega
    unfold maxLen at yJ;have xQ:k<=tc:=by omega
    go_simp;exact f.out _ X rfl hr C
   .obtain⟨m,e0,h0⟩:=M ⟨0,.data⟩ (by simp) (by rfl);have d4:=M ⟨4,.data⟩ (by simp) (by rfl);rw[e0,show x 4=C3 (some ⟨g,0,none⟩) k tc from d4]at f |-;have hl:(zs.take k).length=k:=by rw[Ct];omega
    have zV:=(HG X C.1).2;obtain⟨g',Z,X',zU,zM,zY⟩:=Nh X E.1.size _ [] (zs.take k) h0 (some ⟨g,0,none⟩) tc (λe=>by cases e) (λo e j u hu=>by
     cases e;rcases IK zV (Nat.le_of_lt zZ)with⟨e,_⟩|⟨g2,xN,e,_,_,_,_,xG,_⟩
     .cases e
     .cases e;exact xG j u hu) (λz hz=>HZ z (mem_of_mem_take hz)) (by simp) (by omega) C.2 (λe=>by cases e) 23
    rw[hl]at zU zM;simp only[length_nil,A0,nil_append]at zU zM;have zT:=C.2;have yE:Below E.1.size X X':=Ad.grown zY zT (λq o=>(Ac h0 o).1);refine CU (.tmp 93) (.tmp 97) 23 rfl rfl rfl zU ?_;exact f.out _ X' ⟨g',Z,rfl,zM⟩ ⟨yE,λh=>absurd rfl h⟩ ⟨C.1.ah yE,Zm zT zY.size⟩
   .have d7:=M ⟨7,.data⟩ (by simp) (by rfl);have d9:=M ⟨9,.data⟩ (by simp) (by rfl);rw[show x 7=C3 (some ⟨g,0,none⟩) H.length tc from d7,show x 9=Zg ((k:Int)+1)from d9]at f |-;have yJ:H.length<=tc/\tc<=maxLen:=by
     rcases(HG X C.1).2.2 with⟨e,_⟩|⟨_,_,_,e,_,_,I,J,_⟩
     .cases e
     .cases e;omega
    have xS:(zs.drop (k+1)).length=H.length -(k+1):=by rw[length_drop];omega
    rcases IK (HG E Ad).2 xR with⟨e,_⟩|⟨g2,xN,e,_,_,_,_,_,yH,U,xH⟩
    .cases e
    .cases e;unfold maxLen at yJ;have xQ:k+1<=tc:=by omega
     have vT:((k:Int)+1).toNat=k+1:=by omega
     have vO:(0:Int)<=(k:Int)+1:=by omega
     have xV:(k:Int)+1<=(H.length:Int):=by omega
     go_simp;try rw[U]
     try rw[<-xS]
     exact f.out _ X ⟨yH,_,rfl,xH⟩ hr C
   .obtain⟨g6,c6,e6,h6⟩:=M ⟨5,.data⟩ (by simp) (by rfl);obtain⟨yH,c0,e0,xP⟩:=M ⟨10,.data⟩ (by simp) (by rfl);rw[e6,e0]at f |-;obtain⟨g',Z,X',zU,zM,zY⟩:=Nh X E.1.size _ (zs.take k) (zs.drop (k+1)) h6 (some ⟨g,yH,none⟩) c0 (λe=>by cases e) (λA e j u hu=>by
     cases e;rw[A3];exact(C.1.cell (p:=⟨g,yH+j,none⟩) zX.2).ah (xP j u hu)) (λz hz=>HZ z (mem_of_mem_drop hz)) (by simp;omega) (by simp;omega) C.2 (λe=>by cases e) 23
    rw[show(zs.take k).length=k from by rw[Ct];omega,show k+(zs.drop (k+1)).length=H.length -1 from by rw[length_drop];omega]at zU zM;have zT:=C.2;have yV:Below E.1.size X X':=Ad.grown zY zT (λq o=>(Ac h6 o).1);refine CU (.tmp 98) (.tmp 103) 23 rfl rfl rfl zU ?_;exact f.out _ X' ⟨g',Z,rfl,zM⟩ ⟨yV,λ_ h=>absurd rfl h⟩ ⟨C.1.ah yV,Zm zT zY.size⟩
  .intro L x X hL C O K f;simp only[Bk,Act.put,Zq,Zp,Zo];obtain⟨g',Z,e1,ho⟩:=O 11 (by decide) (λj=>by simp);have d:=O 12 (by decide) (λj=>by simp);have⟨hB,_⟩:=HG X C.1;have vH:=Ac ho (g:=g') rfl;have HE:Hid (Eh w b a n c p 40 q (X.setCell (Zd q 4) (C3 (some ⟨g',0,none⟩) (H.length -1) Z))):=by
    have ht:=AP X q 4 (C3 (some ⟨g',0,none⟩) (H.length -1) Z);have hS:=(B.R.A C.1).ak (T':=C3 (some ⟨g',0,none⟩) (H.length -1) Z) (Tn.of Ad) ⟨ho.aj (by omega),λe=>by simp[ownBlock]at e;omega⟩ (λz hz=> .inl (by rcases A7.1 hz with h|h;exact mem_of_mem_take h;exact mem_of_mem_drop h)) (by simp;omega);have hZ:=Aa.A (v:=Ze) B.z C.1
    exact⟨⟨_,_,_,_,_,_,_,_,_,_,hB.set 4 _,hS.K ht (by simp)⟩,Aa.same hZ (ht.block _ hZ.lt (by simp;omega)),⟨p1,(B.rd.A C.1).K ht (by simp;omega) (by simp;omega),by omega,by omega⟩,Dt (Aj B.gr (Ag _ C.1)) ht (by simp;omega)⟩
   obtain⟨y4,f4⟩:=hB 4 _ rfl;have xC:=hB.lt;rw[e1,show x 12=.pointer (some ⟨q,4,none⟩)from d];clear O hB HG B HQ ho C;go_simp;refine f.out _ _ ?_;clear f K;go_wp2;go_meet;exact HE
 .have yT:N.length<=100:=xJ.o;go_upto_region 23 with fail
  refine Co [108,109,110,111,112,113,114,115,116,117,118,119,120,121] 14 rfl _ rfl (by kernel_rfl) (by kernel_rfl) (by kernel_rfl) (by kernel_rfl) (by kernel_rfl) (by decide) (by kernel_rfl) [] (by kernel_rfl) (λL X=>(∃F,AD X b a n c F/\p1<=F/\F<=p1+2/\(L 4=false->F=p1))/\Tn [b,Q] E X/\(L 12=false->E.grownBy X (some b))) (λi X v=>match i with
   |0=>v=.pointer (some ⟨q,5,none⟩)
   |1=>v=C3 (some ⟨Q,0,none⟩) N.length zH
   |2=>∃o,v=C3 (some ⟨o,0,none⟩) 4 4/\o≠b/\o≠Q/\Aa X o [C4 ⟨#[112]⟩,C4 ⟨#[122]⟩,Zc,C4 ⟨#[120,32,121]⟩]
   |3=>v=.pointer (some ⟨b,0,none⟩)
   |4=>∃j:Nat,v=Zg j/\j<4
   |5=>∃o j',v=.pointer (some ⟨o,j',none⟩)/\o≠b/\o≠Q/\o<X.1.size/\∃s:Zi,s.size<=3/\X.cell? (Zd o j')=some (C4 s)
   |6=>∃s:Zi,v=C4 s/\s.size<=3
   |7=>v=.pointer (some ⟨w.1.size,0,none⟩)
   |8=>v=Zg sw
   |9=>∃s:Zi,v=C4 s/\s.size<=maxLen
   |10=>∃s u:Zi,v=.agg #[C4 s,C4 u]/\s.size<=3/\u.size<=maxLen
   |11=>∃o,v=C3 (some ⟨o,0,none⟩) 1 1/\o≠b/\o≠Q/\∃s u:Zi,s.size<=3/\u.size<=maxLen/\Aa X o [C4 s,C4 u]
   |12=>∃g' Z y,v=C3 (some ⟨g',0,none⟩) (N.length+1) Z/\Cg X (w.1.size+2) q (C3 (some ⟨g,0,none⟩) H.length tc) (C3 (some ⟨g',0,none⟩) (N.length+1) Z) (C3 (some ⟨gl,0,none⟩) R.length zG) zs (N++[y]) R
   |13=>v=.pointer (some ⟨q,5,none⟩)
   |_=>True) (λj X Y=>Tn [b,Q] X Y/\(j≠12->X.grownBy Y (some b))) ?_ ⟨⟨p1,B.rd.drew,by omega,by omega,λ_=>rfl⟩,Tn.of Ad.drew,λ_=>⟨rfl,rfl,rfl,Zx,λ_ _ _=>rfl⟩⟩ ?_ ?_
  .intro j i X Y v yA yG yP hE O;rcases i with _|_|_|_|_|_|_|_|_|_|_|_|_|_|_<;>first|exact O|exact trivial|skip
   .obtain⟨o,e,I,h0,J⟩:=O;exact⟨o,e,I,h0,Aa.same J (hE.1.block _ J.lt (by simp;exact⟨I,h0⟩))⟩
   .obtain⟨o,j',e,I,h0,J,s,h3,h4⟩:=O;exact⟨o,j',e,I,h0,Zr J hE.1.size,s,h3,(cell?_of_block (a:=⟨o,j',none⟩) (hE.1.block o J (by simp;exact⟨I,h0⟩))).ah h4⟩
   .obtain⟨o,e,I,h0,s,u,hs,hu,J⟩:=O;exact⟨o,e,I,h0,s,u,hs,hu,Aa.same J (hE.1.block _ J.lt (by simp;exact⟨I,h0⟩))⟩
   .obtain⟨g',Z,y,e,I⟩:=O;exact⟨g',Z,y,e,I.K (Tn.grown (V:=[b]) (hE.2 (λe=>yA e)) (by simp)) (by simp;omega)⟩
  .intro i o' L x X hi ho hL hD C M K f;obtain⟨b0,b1,b2,b3,b4,b5,b6⟩:=Aa.c7 (HG X C.2.1).1 0 1 2 3 4 5 6;have c9:=(HG X C.2.1).2.2;have hr:Tn [b,Q] X X/\(i≠12->X.grownBy X (some b)):=⟨Tn.of Ad,λ_=>AO _ _⟩
   have S:i≠4->i≠12->∀Y,Zz X Y->(∃F,AD Y b a n c F/\p1<=F/\F<=p1+2/\(BJ L i 4=false->F=p1))/\Tn [b,Q] E Y/\(BJ L i 12=false->E.grownBy Y (some b)):=λh6 h7 Y hY=>⟨C.1.imp (λF h=>⟨h.1.A hY,h.2.1,h.2.2.1,λh9=>h.2.2.2 (by unfold BJ at h9;rw[if_neg (Ne.symm h6)]at h9;exact h9)⟩),C.2.1.ah (Tn.of hY),λh9=>Aj (C.2.2 (by unfold BJ at h9;rw[if_neg (Ne.symm h7)]at h9;exact h9)) (Ag _ hY)⟩
   rcases(show i=0\/i=1\/i=2\/i=3\/i=4\/i=5\/i=6\/i=7\/i=8\/i=9\/i=10\/i=11\/i=12\/i=13 by omega)with rfl|rfl|rfl|rfl|rfl|rfl|rfl|rfl|rfl|rfl|rfl|rfl|rfl|rfl<;>cases ho<;>simp only[Bk,Act.put,Zq,Zp,Zo]at f |-
   all_goals try (go_simp;exact f.out _ X rfl hr (S (by omega) (by omega) X Ad))
   all_goals try (simp[FV,Region.binds]at M;simp only[M]at f |-;go_simp;exact f.out _ X rfl hr (S (by omega) (by omega) X Ad))
   .have U:Below X.1.size X (X.alloc (.cells #[C4 ⟨#[112]⟩,C4 ⟨#[122]⟩,Zc,C4 ⟨#[120,32,121]⟩] 9)):=Zy;have yO:=C.2.1.size;go_simp;exact f.out _ _ ⟨X.1.size,rfl,by omega,by omega,Aa.new X _ _⟩ ⟨Tn.of U,λ_=>Ag _ U⟩ (S (by omega) (by omega) _ U)
   .have d:=M ⟨3,.data⟩ (by simp) (by rfl);rw[show x 3=.pointer (some ⟨b,0,none⟩)from d]at f |-;obtain⟨⟨F,zJ,yB,yC,zO⟩,zF,yT⟩:=C;have yZ:=zO hL;go_simp;refine(AK b a n c F 4 X zJ (by omega) (by omega) (by omega) (by omega)).aj ?_;rintro e X' ⟨y,rfl,y0,y1,zN,zC⟩;have zP:Tn [b,Q] X X':=Tn.grown zC (by simp)
    exact f.out _ X' ⟨y.toNat,by congr 1;omega,by omega⟩ ⟨zP,λ_=>zC⟩ ⟨⟨F+1,zN,by omega,by omega,λh=>by unfold BJ at h;simp at h⟩,zF.ah zP,λh=>Aj (yT (by unfold BJ at h;rw[if_neg (by omega)]at h;exact h)) zC⟩
   .obtain⟨o,e1,I,h0,J⟩:=M ⟨2,.data⟩ (by simp) (by rfl);obtain⟨j,e2,h3⟩:=M ⟨4,.data⟩ (by simp) (by rfl);rw[e1,e2]at f |-;obtain⟨s,hs,h4⟩:=RM J (by intro i hi;simp at hi;rcases(show i=0\/i=1\/i=2\/i=3 by omega)with rfl|rfl|rfl|rfl<;>first|exact⟨_,by decide,rfl⟩|omega) (j:=j) (by simp;omega);have h5:=J.lt;have h6:(j:Int)<4:=by omega
    clear J;go_simp;exact f.out _ X ⟨o,j,rfl,I,h0,h5,s,hs,h4⟩ hr (S (by omega) (by omega) X Ad)
   .obtain⟨o,j',e1,I,h0,J,s,hs,h3⟩:=M ⟨5,.data⟩ (by simp) (by rfl);rw[e1]at f |-;go_simp;exact f.out _ X ⟨s,rfl,hs⟩ hr (S (by omega) (by omega) X Ad)
   .have d:=M ⟨8,.data⟩ (by simp) (by rfl);rw[show x 8=Zg sw from d]at f |-;go_simp;refine(ZL _ sw X (by decide)).aj ?_;rintro e X' ⟨u,rfl,hu,yX⟩;exact f.out _ X' ⟨u,rfl,hu⟩ ⟨Tn.of yX,λ_=>Ag _ yX⟩ (S (by omega) (by omega) _ yX)
   .obtain⟨s,e1,hs⟩:=M ⟨6,.data⟩ (by simp) (by rfl);obtain⟨u,e2,hu⟩:=M ⟨9,.data⟩ (by simp) (by rfl);rw[e1,e2]at f |-;go_simp;exact f.out _ X ⟨s,u,rfl,hs,hu⟩ hr (S (by omega) (by omega) X Ad)
   .obtain⟨s,u,e1,hs,hu⟩:=M ⟨10,.data⟩ (by simp) (by rfl);rw[e1]at f |-;have U:Below X.1.size X (X.alloc (.cells #[C4 s,C4 u] 71)):=Zy;have yO:=C.2.1.size;go_simp;exact f.out _ _ ⟨X.1.size,rfl,by omega,by omega,s,u,hs,hu,Aa.new X _ _⟩ ⟨Tn.of U,λ_=>Ag _ U⟩ (S (by omega) (by omega) _ U)
   .have d:=M ⟨1,.data⟩ (by simp) (by rfl);obtain⟨o,e1,I,h0,s,u,hs,hu,J⟩:=M ⟨11,.data⟩ (by simp) (by rfl);rw[show x 1=C3 (some ⟨Q,0,none⟩) N.length zH from d,e1]at f |-;have hS:=(HF X (C.2.2 hL)).2;have xO:=C.2.1.size;obtain⟨g',Z,X',zU,zM,zY,yQ⟩:=Wz X (w.1.size+2) _ N ⟨s,u⟩ hS.p.o o J (by omega) (by omega) 24;have yL:X.grownBy X' (some Q):=zY;have yD:Tn [Q] X X':=Tn.grown yL (by simp)
    have zP:Tn [b,Q] X X':=yD.aj (by simp);have xA:(C3 (some ⟨g',0,none⟩) (N.length+1) Z).ownBlock≠some q:=λe=>by simp[ownBlock]at yQ e;rcases yQ with h|h<;>omega
    have hm:(10:Nat)<=maxLen:=by unfold maxLen;omega
    have yW:=hS.pins yD ⟨zM,xA⟩ (λp hp=>by rcases A7.1 hp with h|h;exact .inl h;rw[mem_singleton.1 h];exact .inr ⟨by simp only;omega,hu⟩) (by rw[Ak];simp;omega);refine CU (.tmp 109) (.tmp 119) 24 rfl rfl rfl zU ?_
    exact f.out _ X' ⟨g',Z,⟨s,u⟩,rfl,yW⟩ ⟨zP,λh=>absurd rfl h⟩ ⟨C.1.imp (λF h=>⟨h.1.K yD (by simp;omega) (by simp;omega),h.2.1,h.2.2.1,λh9=>h.2.2.2 (by unfold BJ at h9;rw[if_neg (by omega)]at h9;exact h9)⟩),C.2.1.ah zP,λh=>by unfold BJ at h;simp at h⟩
  .intro L x X hL C O K f;simp only[Bk,Act.put,Zq,Zp,Zo];obtain⟨g',Z,y,e1,hS⟩:=O 12 (by decide) (λj=>by simp);have d:=O 13 (by decide) (λj=>by simp);obtain⟨⟨F,zJ,yB,yC,zO⟩,zF,_⟩:=C;have⟨hB,hZ,_⟩:=HG X zF;have HE:Hid (Eh w b a n c p 40 q (X.setCell (Zd q 5) (C3 (some ⟨g',0,none⟩) (N.length+1) Z))):=by have ht:=AP X q 5 (C3 (some ⟨g',0,none⟩) (N.length+1) Z);refine⟨⟨_,_,_,_,_,_,_,_,_,_,hB.set 5 _,hS.K ht (by simp)⟩,Aa.same hZ (ht.block _ hZ.lt (by simp;omega)),⟨F,zJ.K ht (by simp;omega) (by simp;omega),by omega,by omega⟩,Dt (Dt B.gr zF (by simp;omega)) ht (by simp;omega)⟩
   obtain⟨y5,f5⟩:=hB 5 _ rfl;have xC:=hB.lt;rw[e1,show x 13=.pointer (some ⟨q,5,none⟩)from d];clear O hS hB hZ HF HG B HQ;go_simp;refine f.out _ _ ?_;clear f K;go_wp2;go_meet;exact HE
 .by_cases hz:H.length=0
  .have zR:¬(0:Int)<(H.length:Int):=by omega
   clear hz hk;have HE:Hid (Eh w b a n c p 40 q E):=B.same.more (by omega) (by omega);obtain⟨v4,_⟩:=B.box 4 _ rfl;clear B HQ;go_wp2;go_meet;exact HE
  have zR:(0:Int)<(H.length:Int):=by omega
  have yR:k<H.length:=by omega
  have zZ:k<zs.length:=by rw[zS.2];exact yR
  have yK:=Zv zZ;have yT:N.length<=100:=xJ.o;have HC:Hid (∀X,Tn [b,Q] E X->∃s:Zi,s.size<=maxLen/\X.cell? (Zd g (k *4))=some (C4 s)):=λX hX=>by have ho:=B.R.t.o;have xU:=Ac ho (g:=g) rfl;rw[zS.2]at ho;have c0:=ho.cellAt (k *4+0) (by omega);rw[BN Cn yK (show 0<4 by decide)]at c0;exact⟨zs[k].1.sum,(B.R.w.k _ (mem_map.2 ⟨_,getElem_mem zZ,rfl⟩)).sl,(cell?_of_block (a:=⟨g,k *4,none⟩) (hX.block _ xU.2 (by simp;omega))).ah c0⟩
  obtain⟨v4,_⟩:=B.box 4 _ rfl;clear yK;go_upto_region 26 with fail;try rw[decide_eq_true (show 0<H.length by omega)]
  clear v4;refine Co [128,129,130,131,132,133,134,135,136,137,138,139,140,141,142,143,144] 17 rfl _ rfl (by kernel_rfl) (by kernel_rfl) (by kernel_rfl) (by kernel_rfl) (by kernel_rfl) (by decide) (by kernel_rfl) [] (by kernel_rfl) (λL X=>(∃F,AD X b a n c F/\p1<=F/\F<=p1+2/\(L 4=false->F=p1))/\Tn [b,Q] E X/\(L 15=false->E.grownBy X (some b))) (λi X v=>match i with
   |0=>v=.pointer (some ⟨q,5,none⟩)
   |1=>v=C3 (some ⟨Q,0,none⟩) N.length zH
   |2=>∃o,v=C3 (some ⟨o,0,none⟩) 2 2/\o≠b/\o≠Q/\Aa X o [C4 ⟨#[97]⟩,C4 ⟨#[122]⟩]
   |3=>v=.pointer (some ⟨b,0,none⟩)
   |4=>∃j:Nat,v=Zg j/\j<2
   |5=>∃o j',v=.pointer (some ⟨o,j',none⟩)/\o≠b/\o≠Q/\o<X.1.size/\∃s:Zi,s.size<=3/\X.cell? (Zd o j')=some (C4 s)
   |6=>∃s:Zi,v=C4 s/\s.size<=3
   |7=>v=.pointer (some ⟨q,4,none⟩)
   |8=>v=C3 (some ⟨g,0,none⟩) H.length tc
   |9=>v=Zg k
   |10=>v=.pointer (some ⟨g,k *4,none⟩)
   |11=>v=.pointer (some ⟨g,k *4,none⟩)
   |12=>∃s:Zi,v=C4 s/\s.size<=maxLen
   |13=>∃s u:Zi,v=.agg #[C4 s,C4 u]/\s.size<=3/\u.size<=maxLen
   |14=>∃o,v=C3 (some ⟨o,0,none⟩) 1 1/\o≠b/\o≠Q/\∃s u:Zi,s.size<=3/\u.size<=maxLen/\Aa X o [C4 s,C4 u]
   |15=>∃g' Z y,v=C3 (some ⟨g',0,none⟩) (N.length+1) Z/\Cg X (w.1.size+2) q (C3 (some ⟨g,0,none⟩) H.length tc) (C3 (some ⟨g',0,none⟩) (N.length+1) Z) (C3 (some ⟨gl,0,none⟩) R.length zG) zs (N++[y]) R
   |16=>v=.pointer (some ⟨q,5,none⟩)
   |_=>True) (λj X Y=>Tn [b,Q] X Y/\(j≠15->X.grownBy Y (some b))) ?_ ⟨⟨p1,B.rd.drew,by omega,by omega,λ_=>rfl⟩,Tn.of Ad.drew,λ_=>⟨rfl,rfl,rfl,Zx,λ_ _ _=>rfl⟩⟩ ?_ ?_
  .intro j i X Y v yA yG yP hE O;rcases i with _|_|_|_|_|_|_|_|_|_|_|_|_|_|_|_|_|_<;>first|exact O|exact trivial|skip
   .obtain⟨o,e,I,h0,J⟩:=O;exact⟨o,e,I,h0,Aa.same J (hE.1.block _ J.lt (by simp;exact⟨I,h0⟩))⟩
   .obtain⟨o,j',e,I,h0,J,s,h3,h4⟩:=O;exact⟨o,j',e,I,h0,Zr J hE.1.size,s,h3,(cell?_of_block (a:=⟨o,j',none⟩) (hE.1.block o J (by simp;exact⟨I,h0⟩))).ah h4⟩
   .obtain⟨o,e,I,h0,s,u,hs,hu,J⟩:=O;exact⟨o,e,I,h0,s,u,hs,hu,Aa.same J (hE.1.block _ J.lt (by simp;exact⟨I,h0⟩))⟩
   .obtain⟨g',Z,y,e,I⟩:=O;exact⟨g',Z,y,e,I.K (Tn.grown (V:=[b]) (hE.2 (λe=>yA e)) (by simp)) (by simp;omega)⟩
  .intro i o' L x X hi ho hL hD C M K f;obtain⟨b0,b1,b2,b3,b4,b5,b6⟩:=Aa.c7 (HG X C.2.1).1 0 1 2 3 4 5 6;have c9:=(HG X C.2.1).2.2;have hr:Tn [b,Q] X X/\(i≠15->X.grownBy X (some b)):=⟨Tn.of Ad,λ_=>AO _ _⟩
   have S:i≠4->i≠15->∀Y,Zz X Y->(∃F,AD Y b a n c F/\p1<=F/\F<=p1+2/\(BJ L i 4=false->F=p1))/\Tn [b,Q] E Y/\(BJ L i 15=false->E.grownBy Y (some b)):=λh6 h7 Y hY=>⟨C.1.imp (λF h=>⟨h.1.A hY,h.2.1,h.2.2.1,λh9=>h.2.2.2 (by unfold BJ at h9;rw[if_neg (Ne.symm h6)]at h9;exact h9)⟩),C.2.1.ah (Tn.of hY),λh9=>Aj (C.2.2 (by unfold BJ at h9;rw[if_neg (Ne.symm h7)]at h9;exact h9)) (Ag _ hY)⟩
   rcases(show i=0\/i=1\/i=2\/i=3\/i=4\/i=5\/i=6\/i=7\/i=8\/i=9\/i=10\/i=11\/i=12\/i=13\/i=14\/i=15\/i=16 by omega)with rfl|rfl|rfl|rfl|rfl|rfl|rfl|rfl|rfl|rfl|rfl|rfl|rfl|rfl|rfl|rfl|rfl<;>cases ho<;>simp only[Bk,Act.put,Zq,Zp,Zo]at f |-
   all_goals try (go_simp;exact f.out _ X rfl hr (S (by omega) (by omega) X Ad))
   all_goals try (simp[FV,Region.binds]at M;simp only[M]at f |-;go_simp;exact f.out _ X rfl hr (S (by omega) (by omega) X Ad))
   .have U:Below X.1.size X (X.alloc (.cells #[C4 ⟨#[97]⟩,C4 ⟨#[122]⟩] 9)):=Zy;have yO:=C.2.1.size;go_simp;exact f.out _ _ ⟨X.1.size,rfl,by omega,by omega,Aa.new X _ _⟩ ⟨Tn.of U,λ_=>Ag _ U⟩ (S (by omega) (by omega) _ U)
   .have d:=M ⟨3,.data⟩ (by simp) (by rfl);rw[show x 3=.pointer (some ⟨b,0,none⟩)from d]at f |-;obtain⟨⟨F,zJ,yB,yC,zO⟩,zF,yT⟩:=C;have yZ:=zO hL;go_simp;refine(AK b a n c F 2 X zJ (by omega) (by omega) (by omega) (by omega)).aj ?_;rintro e X' ⟨y,rfl,y0,y1,zN,zC⟩;have zP:Tn [b,Q] X X':=Tn.grown zC (by simp)
    exact f.out _ X' ⟨y.toNat,by congr 1;omega,by omega⟩ ⟨zP,λ_=>zC⟩ ⟨⟨F+1,zN,by omega,by omega,λh=>by unfold BJ at h;simp at h⟩,zF.ah zP,λh=>Aj (yT (by unfold BJ at h;rw[if_neg (by omega)]at h;exact h)) zC⟩
   .obtain⟨o,e1,I,h0,J⟩:=M ⟨2,.data⟩ (by simp) (by rfl);obtain⟨j,e2,h3⟩:=M ⟨4,.data⟩ (by simp) (by rfl);rw[e1,e2]at f |-;obtain⟨s,hs,h4⟩:=RM J (by intro i hi;simp at hi;rcases(show i=0\/i=1\/i=2\/i=3 by omega)with rfl|rfl|rfl|rfl<;>first|exact⟨_,by decide,rfl⟩|omega) (j:=j) (by simp;omega);have h5:=J.lt;have h6:(j:Int)<2:=by omega
    clear J;go_simp;exact f.out _ X ⟨o,j,rfl,I,h0,h5,s,hs,h4⟩ hr (S (by omega) (by omega) X Ad)
   .obtain⟨o,j',e1,I,h0,J,s,hs,h3⟩:=M ⟨5,.data⟩ (by simp) (by rfl);rw[e1]at f |-;go_simp;exact f.out _ X ⟨s,rfl,hs⟩ hr (S (by omega) (by omega) X Ad)
   .have d:=M ⟨11,.data⟩ (by simp) (by rfl);rw[show x 11=.pointer (some ⟨g,k *4,none⟩)from d]at f |-;have⟨s,hs,c0⟩:=HC X C.2.1;go_simp;exact f.out _ X ⟨s,rfl,hs⟩ hr (S (by omega) (by omega) X Ad)
   .obtain⟨s,e1,hs⟩:=M ⟨6,.data⟩ (by simp) (by rfl);obtain⟨u,e2,hu⟩:=M ⟨12,.data⟩ (by simp) (by rfl);rw[e1,e2]at f |-;go_simp;exact f.out _ X ⟨s,u,rfl,hs,hu⟩ hr (S (by omega) (by omega) X Ad)
   .obtain⟨s,u,e1,hs,hu⟩:=M ⟨13,.data⟩ (by simp) (by rfl);rw[e1]at f |-;have U:Below X.1.size X (X.alloc (.cells #[C4 s,C4 u] 71)):=Zy;have yO:=C.2.1.size;go_simp;exact f.out _ _ ⟨X.1.size,rfl,by omega,by omega,s,u,hs,hu,Aa.new X _ _⟩ ⟨Tn.of U,λ_=>Ag _ U⟩ (S (by omega) (by omega) _ U)
   .have d:=M ⟨1,.data⟩ (by simp) (by rfl);obtain⟨o,e1,I,h0,s,u,hs,hu,J⟩:=M ⟨14,.data⟩ (by simp) (by rfl);rw[show x 1=C3 (some ⟨Q,0,none⟩) N.length zH from d,e1]at f |-;have hS:=(HF X (C.2.2 hL)).2;have xO:=C.2.1.size;obtain⟨g',Z,X',zU,zM,zY,yQ⟩:=Wz X (w.1.size+2) _ N ⟨s,u⟩ hS.p.o o J (by omega) (by omega) 24;have yL:X.grownBy X' (some Q):=zY;have yD:Tn [Q] X X':=Tn.grown yL (by simp)
    have zP:Tn [b,Q] X X':=yD.aj (by simp);have xA:(C3 (some ⟨g',0,none⟩) (N.length+1) Z).ownBlock≠some q:=λe=>by simp[ownBlock]at yQ e;rcases yQ with h|h<;>omega
    have hm:(10:Nat)<=maxLen:=by unfold maxLen;omega
    have yW:=hS.pins yD ⟨zM,xA⟩ (λp hp=>by rcases A7.1 hp with h|h;exact .inl h;rw[mem_singleton.1 h];exact .inr ⟨by simp only;omega,hu⟩) (by rw[Ak];simp;omega);refine CU (.tmp 129) (.tmp 142) 24 rfl rfl rfl zU ?_
    exact f.out _ X' ⟨g',Z,⟨s,u⟩,rfl,yW⟩ ⟨zP,λh=>absurd rfl h⟩ ⟨C.1.imp (λF h=>⟨h.1.K yD (by simp;omega) (by simp;omega),h.2.1,h.2.2.1,λh9=>h.2.2.2 (by unfold BJ at h9;rw[if_neg (by omega)]at h9;exact h9)⟩),C.2.1.ah zP,λh=>by unfold BJ at h;simp at h⟩
  .intro L x X hL C O K f;simp only[Bk,Act.put,Zq,Zp,Zo];obtain⟨g',Z,y,e1,hS⟩:=O 15 (by decide) (λj=>by simp);have d:=O 16 (by decide) (λj=>by simp);obtain⟨⟨F,zJ,yB,yC,zO⟩,zF,_⟩:=C;have⟨hB,hZ,_⟩:=HG X zF;have HE:Hid (Eh w b a n c p 40 q (X.setCell (Zd q 5) (C3 (some ⟨g',0,none⟩) (N.length+1) Z))):=by have ht:=AP X q 5 (C3 (some ⟨g',0,none⟩) (N.length+1) Z);refine⟨⟨_,_,_,_,_,_,_,_,_,_,hB.set 5 _,hS.K ht (by simp)⟩,Aa.same hZ (ht.block _ hZ.lt (by simp;omega)),⟨F,zJ.K ht (by simp;omega) (by simp;omega),by omega,by omega⟩,Dt (Dt B.gr zF (by simp;omega)) ht (by simp;omega)⟩
   obtain⟨y5,f5⟩:=hB 5 _ rfl;have xC:=hB.lt;rw[e1,show x 16=.pointer (some ⟨q,5,none⟩)from d];clear O hS hB hZ HF HG B HQ;go_simp;refine f.out _ _ ?_;clear f K;go_wp2;go_meet;exact HE
 .by_cases hz:R.length=0
  .have zR:¬(0:Int)<(R.length:Int):=by omega
   clear hz;have HE:Hid (Eh w b a n c p 40 q E):=B.same.more (by omega) (by omega);obtain⟨v4,_⟩:=B.box 6 _ rfl;clear B HQ;go_wp2;go_meet;exact HE
  have zR:(0:Int)<(R.length:Int):=by omega
  have xD:0<R.length:=by omega
  obtain⟨l0,lr,yS⟩:∃l0 lr,R=l0::lr:=by
   match R,hz with
   |[],hz=>exact absurd rfl hz
   |l0::lr,_=>exact⟨l0,lr,rfl⟩
  have yN:Hid (∀X,Cg X (w.1.size+2) q (C3 (some ⟨g,0,none⟩) H.length tc) (C3 (some ⟨Q,0,none⟩) N.length zH) (C3 (some ⟨gl,0,none⟩) R.length zG) zs N R->Cg X (w.1.size+2) q (C3 (some ⟨g,0,none⟩) H.length tc) (C3 (some ⟨Q,0,none⟩) N.length zH) (C3 (some ⟨gl,0,none⟩) R.length zG) zs N (l0::lr)):=λX h=>by rw[yS]at h |-;exact h
  have HC:Hid (∀X,E.grownBy X (some b)->(∃u,X.cell? (Zd gl 2)=some u)/\X.frozen? ⟨gl,2,none⟩=false/\gl<X.1.size):=λX hX=>by have ho:=(HF X hX).2.l.o;exact⟨Qt ho 2 (by omega),Kq ho _,(Ac ho (g:=gl) rfl).2⟩
  have zX:=(Ac B.R.l.o (g:=gl) rfl).1;have yF:gl≠q:=λe=>B.R.l.q (by rw[e];rfl);obtain⟨v4,_⟩:=B.box 6 _ rfl;clear yS;go_upto_region 29 with fail;try rw[decide_eq_true (show 0<R.length by omega)]
  clear v4;refine Co [151,152,153,154,155,156,157,158,159,160,161,162] 12 rfl _ rfl (by kernel_rfl) (by kernel_rfl) (by kernel_rfl) (by kernel_rfl) (by kernel_rfl) (by decide) (by kernel_rfl) [] (by kernel_rfl) (λL X=>(∃F,AD X b a n c F/\p1<=F/\F<=p1+2/\(L 6=false->F=p1))/\E.grownBy X (some b)) (λi X v=>match i with
   |0=>v=.pointer (some ⟨q,6,none⟩)
   |1=>v=C3 (some ⟨gl,0,none⟩) R.length zG
   |2=>v=.pointer (some ⟨q,1,none⟩)
   |3=>v=Zg zI
   |4=>∃o,v=C3 (some ⟨o,0,none⟩) 4 4/\o≠b/\Aa X o [Ze,Zg 1,Zg 100000,Zg 100001]
   |5=>v=.pointer (some ⟨b,0,none⟩)
   |6=>∃j:Nat,v=Zg j/\j<4
   |7=>∃o j',v=.pointer (some ⟨o,j',none⟩)/\o≠b/\o<X.1.size/\∃y:Int,X.cell? (Zd o j')=some (Zg y)
   |8=>∃y:Int,v=Zg y
   |9=>∃y:Int,v=Zg y
   |10=>v=.pointer (some ⟨gl,0,none⟩)
   |11=>v=.pointer (some ⟨gl,2,none⟩)
   |_=>True) (λ_ X Y=>X.grownBy Y (some b)) ?_ ⟨⟨p1,B.rd.drew,by omega,by omega,λ_=>rfl⟩,⟨rfl,rfl,rfl,Zx,λ_ _ _=>rfl⟩⟩ ?_ ?_
  .intro j i X Y v yA yG yP hE O;rcases i with _|_|_|_|_|_|_|_|_|_|_|_|_<;>first|exact O|exact trivial|skip
   .obtain⟨o,e,I,J⟩:=O;exact⟨o,e,I,J.aw hE (Ne.symm I)⟩
   .obtain⟨o,j',e,I,J,h3⟩:=O;obtain⟨y,h4⟩:=h3;exact⟨o,j',e,I,Zr J hE.size,y,(cell?_of_block (a:=⟨o,j',none⟩) (hE.block o J (λe=>I (by injection e)))).ah h4⟩
  .intro i o' L x X hi ho hL hD C M K f;obtain⟨b0,b1,b2,b3,b4,b5,b6⟩:=Aa.c7 (HF X C.2).1 0 1 2 3 4 5 6;have hr:X.grownBy X (some b):=AO _ _;have S:i≠6->∀Y,Zz X Y->(∃F,AD Y b a n c F/\p1<=F/\F<=p1+2/\(BJ L i 6=false->F=p1))/\E.grownBy Y (some b):=λh6 Y hY=>⟨C.1.imp (λF h=>⟨h.1.A hY,h.2.1,h.2.2.1,λh9=>h.2.2.2 (by unfold BJ at h9;rw[if_neg (Ne.symm h6)]at h9;exact h9)⟩),Aj C.2 (Ag _ hY)⟩
   rcases(show i=0\/i=1\/i=2\/i=3\/i=4\/i=5\/i=6\/i=7\/i=8\/i=9\/i=10\/i=11 by omega)with rfl|rfl|rfl|rfl|rfl|rfl|rfl|rfl|rfl|rfl|rfl|rfl<;>cases ho<;>simp only[Bk,Act.put,Zq,Zp,Zo]at f |-
   all_goals try (go_simp;exact f.out _ X rfl hr (S (by omega) X Ad))
   all_goals try (simp[FV,Region.binds]at M;simp only[M]at f |-;go_simp;exact f.out _ X rfl hr (S (by omega) X Ad))
   .have U:Below X.1.size X (X.alloc (.cells #[Ze,Zg 1,Zg 100000,Zg 100001] 3)):=Zy;have yO:=C.2.size;go_simp;exact f.out _ _ ⟨X.1.size,rfl,by omega,Aa.new X _ _⟩ (Ag _ U) (S (by omega) _ U)
   .have d:=M ⟨5,.data⟩ (by simp) (by rfl);rw[show x 5=.pointer (some ⟨b,0,none⟩)from d]at f |-;obtain⟨⟨F,zJ,yB,yC,zO⟩,zF⟩:=C;have yZ:=zO hL;go_simp;refine(AK b a n c F 4 X zJ (by omega) (by omega) (by omega) (by omega)).aj ?_;rintro e X' ⟨y,rfl,y0,y1,zN,zC⟩;exact f.out _ X' ⟨y.toNat,by congr 1;omega,by omega⟩ zC ⟨⟨F+1,zN,by omega,by omega,λh=>by unfold BJ at h;simp at h⟩,Aj zF zC⟩
   .obtain⟨o,e1,I,J⟩:=M ⟨4,.data⟩ (by simp) (by rfl);obtain⟨j,e2,h3⟩:=M ⟨6,.data⟩ (by simp) (by rfl);rw[e1,e2]at f |-;obtain⟨y,h4⟩:=IL J (by simp) (j:=j) (by simp;omega);have h5:=J.lt;have h6:(j:Int)<4:=by omega
    clear J;go_simp;exact f.out _ X ⟨o,j,rfl,I,h5,y,h4⟩ hr (S (by omega) X Ad)
   .obtain⟨o,j',e1,I,J,y,h3⟩:=M ⟨7,.data⟩ (by simp) (by rfl);rw[e1]at f |-;go_simp;exact f.out _ X ⟨y,rfl⟩ hr (S (by omega) X Ad)
   .have d3:=M ⟨3,.data⟩ (by simp) (by rfl);obtain⟨y,e1⟩:=M ⟨8,.data⟩ (by simp) (by rfl);rw[show x 3=Zg zI from d3,e1]at f |-;go_simp;exact f.out _ X ⟨_,rfl⟩ hr (S (by omega) X Ad)
  .intro L x X hL C O K f;simp only[Bk,Act.put,Zq,Zp,Zo];obtain⟨y,e1⟩:=O 9 (by decide) (λj=>by simp);have d:=O 11 (by decide) (λj=>by simp);obtain⟨⟨F,zJ,yB,yC,zO⟩,zF⟩:=C;have⟨⟨u,c1⟩,f1,yY⟩:=HC X zF;have hI:=B.go zF zJ zA;have HE:Hid (Eh w b a n c p 40 q (X.setCell (Zd gl 2) (Zg y))):=(hI.rows zA (AP X gl _ _) zX yF ((yN X hI.R).jl y).1).more (by omega) (by omega)
   rw[e1,show x 11=.pointer (some ⟨gl,2,none⟩)from d];clear O hI HF HC B yN;go_simp;refine f.out _ _ ?_;clear f K;go_wp2;go_meet;exact HE
 .by_cases hz:R.length=0
  .have zR:¬(0:Int)<(R.length:Int):=by omega
   clear hz;have HE:Hid (Eh w b a n c p 40 q E):=B.same.more (by omega) (by omega);obtain⟨v4,_⟩:=B.box 6 _ rfl;clear B HQ;go_wp2;go_meet;exact HE
  have zR:(0:Int)<(R.length:Int):=by omega
  have xD:0<R.length:=by omega
  obtain⟨l0,lr,yS⟩:∃l0 lr,R=l0::lr:=by
   match R,hz with
   |[],hz=>exact absurd rfl hz
   |l0::lr,_=>exact⟨l0,lr,rfl⟩
  have yN:Hid (∀X,Cg X (w.1.size+2) q (C3 (some ⟨g,0,none⟩) H.length tc) (C3 (some ⟨Q,0,none⟩) N.length zH) (C3 (some ⟨gl,0,none⟩) R.length zG) zs N R->Cg X (w.1.size+2) q (C3 (some ⟨g,0,none⟩) H.length tc) (C3 (some ⟨Q,0,none⟩) N.length zH) (C3 (some ⟨gl,0,none⟩) R.length zG) zs N (l0::lr)):=λX h=>by rw[yS]at h |-;exact h
  have HC:Hid (∀X,E.grownBy X (some b)->(∃u,X.cell? (Zd gl 0)=some u)/\X.frozen? ⟨gl,0,none⟩=false/\gl<X.1.size):=λX hX=>by have ho:=(HF X hX).2.l.o;exact⟨Qt ho 0 (by omega),Kq ho _,(Ac ho (g:=gl) rfl).2⟩
  have zX:=(Ac B.R.l.o (g:=gl) rfl).1;have yF:gl≠q:=λe=>B.R.l.q (by rw[e];rfl);obtain⟨v4,_⟩:=B.box 6 _ rfl;clear yS;go_upto_region 32 with fail;try rw[decide_eq_true (show 0<R.length by omega)]
  clear v4;refine Co [169,170,171,172,173,174,175,176,177,178,179,180,181,182] 14 rfl _ rfl (by kernel_rfl) (by kernel_rfl) (by kernel_rfl) (by kernel_rfl) (by kernel_rfl) (by decide) (by kernel_rfl) [] (by kernel_rfl) (λL X=>(∃F,AD X b a n c F/\p1<=F/\F<=p1+2/\(L 9=false->F=p1))/\E.grownBy X (some b)) (λi X v=>match i with
   |0=>v=.pointer (some ⟨q,6,none⟩)
   |1=>v=C3 (some ⟨gl,0,none⟩) R.length zG
   |2=>v=.pointer (some ⟨q,2,none⟩)
   |3=>v=Zg D
   |4=>v=.pointer (some ⟨q,2,none⟩)
   |5=>v=Zg D
   |6=>∃y:Int,v=Zg y
   |7=>∃o,v=C3 (some ⟨o,0,none⟩) 3 3/\o≠b/\∃y,Aa X o [Ze,Zg D,Zg y]
   |8=>v=.pointer (some ⟨b,0,none⟩)
   |9=>∃j:Nat,v=Zg j/\j<3
   |10=>∃o j',v=.pointer (some ⟨o,j',none⟩)/\o≠b/\o<X.1.size/\∃y:Int,X.cell? (Zd o j')=some (Zg y)
   |11=>∃y:Int,v=Zg y
   |12=>v=.pointer (some ⟨gl,0,none⟩)
   |13=>v=.pointer (some ⟨gl,0,none⟩)
   |_=>True) (λ_ X Y=>X.grownBy Y (some b)) ?_ ⟨⟨p1,B.rd.drew,by omega,by omega,λ_=>rfl⟩,⟨rfl,rfl,rfl,Zx,λ_ _ _=>rfl⟩⟩ ?_ ?_
  .intro j i X Y v yA yG yP hE O;rcases i with _|_|_|_|_|_|_|_|_|_|_|_|_|_|_<;>first|exact O|exact trivial|skip
   .obtain⟨o,e,I,y,J⟩:=O;exact⟨o,e,I,y,J.aw hE (Ne.symm I)⟩
   .obtain⟨o,j',e,I,J,h3⟩:=O;obtain⟨y,h4⟩:=h3;exact⟨o,j',e,I,Zr J hE.size,y,(cell?_of_block (a:=⟨o,j',none⟩) (hE.block o J (λe=>I (by injection e)))).ah h4⟩
  .intro i o' L x X hi ho hL hD C M K f;obtain⟨b0,b1,b2,b3,b4,b5,b6⟩:=Aa.c7 (HF X C.2).1 0 1 2 3 4 5 6;have hr:X.grownBy X (some b):=AO _ _;have S:i≠9->∀Y,Zz X Y->(∃F,AD Y b a n c F/\p1<=F/\F<=p1+2/\(BJ L i 9=false->F=p1))/\E.grownBy Y (some b):=λh6 Y hY=>⟨C.1.imp (λF h=>⟨h.1.A hY,h.2.1,h.2.2.1,λh9=>h.2.2.2 (by unfold BJ at h9;rw[if_neg (Ne.symm h6)]at h9;exact h9)⟩),Aj C.2 (Ag _ hY)⟩
   rcases(show i=0\/i=1\/i=2\/i=3\/i=4\/i=5\/i=6\/i=7\/i=8\/i=9\/i=10\/i=11\/i=12\/i=13 by omega)with rfl|rfl|rfl|rfl|rfl|rfl|rfl|rfl|rfl|rfl|rfl|rfl|rfl|rfl<;>cases ho<;>simp only[Bk,Act.put,Zq,Zp,Zo]at f |-
   all_goals try (go_simp;exact f.out _ X rfl hr (S (by omega) X Ad))
   all_goals try (simp[FV,Region.binds]at M;simp only[M]at f |-;go_simp;exact f.out _ X rfl hr (S (by omega) X Ad))
   .have d:=M ⟨5,.data⟩ (by simp) (by rfl);rw[show x 5=Zg D from d]at f |-;go_simp;exact f.out _ X ⟨_,rfl⟩ hr (S (by omega) X Ad)
   .have d3:=M ⟨3,.data⟩ (by simp) (by rfl);obtain⟨y,e1⟩:=M ⟨6,.data⟩ (by simp) (by rfl);rw[show x 3=Zg D from d3,e1]at f |-;have U:Below X.1.size X (X.alloc (.cells #[Ze,Zg D,Zg y] 3)):=Zy;have yO:=C.2.size;go_simp;exact f.out _ _ ⟨X.1.size,rfl,by omega,y,Aa.new X _ _⟩ (Ag _ U) (S (by omega) _ U)
   .have d:=M ⟨8,.data⟩ (by simp) (by rfl);rw[show x 8=.pointer (some ⟨b,0,none⟩)from d]at f |-;obtain⟨⟨F,zJ,yB,yC,zO⟩,zF⟩:=C;have yZ:=zO hL;go_simp;refine(AK b a n c F 3 X zJ (by omega) (by omega) (by omega) (by omega)).aj ?_;rintro e X' ⟨y,rfl,y0,y1,zN,zC⟩;exact f.out _ X' ⟨y.toNat,by congr 1;omega,by omega⟩ zC ⟨⟨F+1,zN,by omega,by omega,λh=>by unfold BJ at h;simp at h⟩,Aj zF zC⟩
   .obtain⟨o,e1,I,y',J⟩:=M ⟨7,.data⟩ (by simp) (by rfl);obtain⟨j,e2,h3⟩:=M ⟨9,.data⟩ (by simp) (by rfl);rw[e1,e2]at f |-;obtain⟨y,h4⟩:=IL J (by simp) (j:=j) (by simp;omega);have h5:=J.lt;have h6:(j:Int)<3:=by omega
    clear J;go_simp;exact f.out _ X ⟨o,j,rfl,I,h5,y,h4⟩ hr (S (by omega) X Ad)
   .obtain⟨o,j',e1,I,J,y,h3⟩:=M ⟨10,.data⟩ (by simp) (by rfl);rw[e1]at f |-;go_simp;exact f.out _ X ⟨y,rfl⟩ hr (S (by omega) X Ad)
  .intro L x X hL C O K f;simp only[Bk,Act.put,Zq,Zp,Zo];obtain⟨y,e1⟩:=O 11 (by decide) (λj=>by simp);have d:=O 13 (by decide) (λj=>by simp);obtain⟨⟨F,zJ,yB,yC,zO⟩,zF⟩:=C;have⟨⟨u,c1⟩,f1,yY⟩:=HC X zF;have hI:=B.go zF zJ zA;have HE:Hid (Eh w b a n c p 40 q (X.setCell (Zd gl 0) (Zg y))):=(hI.rows zA (AP X gl _ _) zX yF ((yN X hI.R).jl y).2).more (by omega) (by omega)
   rw[e1,show x 13=.pointer (some ⟨gl,0,none⟩)from d];clear O hI HF HC B yN;go_simp;refine f.out _ _ ?_;clear f K;go_wp2;go_meet;exact HE
 .go_wp2_with fail;refine(AK b a n c p1 2 E B.rd (by omega) (by omega) (by omega) (by omega)).aj ?_;rintro e X3 ⟨x,rfl,x0,x1,zK,zE⟩;have zB:Hid _:=B.go zE zK zA;go_wp2_with fail;refine(AK b a n c (p1+1) 2 X3 zB.rd (by omega) (by omega) (by omega) (by omega)).aj ?_;rintro e X4 ⟨y,rfl,y0,y1,xK,O⟩;have f:Hid _:=zB.go O xK zA;obtain⟨j,rfl⟩:∃j:Nat,x=j:=⟨x.toNat,by omega⟩
  have HM:Hid _:=Qf (600+j) (y==0) X4 (by omega);have K:((600+j:Nat):Int)=600+(j:Int):=by omega
  rw[K]at HM;clear zK xK zE O B zB HQ K;go_wp2_with fail;refine HM.Ai ?_;clear HM;rintro e O K;obtain⟨ta,e,xE,rfl,hS,yE⟩:=K.jg (q:=0) (by omega) (by omega);have q:=f.gr.size;have vV:=f.z.lt;have HS:Hid _:=hS;have B:Hid ((∃F,AD O b a n c F/\p<=F/\F<=p+40)/\w.grownBy O (some b)):=⟨⟨_,f.rd.A yE,by omega,by omega⟩,Aj f.gr (Ag _ yE)⟩
  obtain⟨⟨y0,f0⟩,⟨y1,f1⟩,⟨y2,f2⟩,⟨y3,f3⟩,⟨y4,f4⟩,⟨y5,f5⟩,y6,f6⟩:=Hb (Aa.A (v:=Ze) f.z yE);clear hS yE K f;go_wp2;refine C0 (.agg #[Zg 8,Ze,Ze,Zg ((600+j:Nat):Int),C3 ta xE.length e,Zb,Zb]) (by simp[results,results48,go_sem,y0,y1,y2,y3,y4,y5,y6]) (HS.fin (r:=w.1.size+1) B.1 B.2 zA ?_ (by omega) (by omega))
  repeat refine Tn.ah ?_ (Tn.set _ _ _ _ (by simp))
  exact Tn.of Ad
