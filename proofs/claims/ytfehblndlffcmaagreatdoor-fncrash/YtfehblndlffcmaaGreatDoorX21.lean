import Derived.Test.YtfehblndlffcmaaGreatDoorX19
import Derived.Test.YtfehblndlffcmaaGreatDoorX37
import Derived.Test.YtfehblndlffcmaaGreatDoorX38
set_option maxRecDepth 100000
set_option maxHeartbeats 16000000
open Option renaming some->an,none->ba
open Go.Obj renaming cells->ca
open Go.Value renaming slice->cr,agg->ct
open Or renaming inl->dp
open List renaming length->eh
open Go.World renaming setCell->ev
namespace Go.Proofs.YtfehblndlffcmaaGreatDoor
open ChangeShapes WideShapes ChangeAt RowKit _root_.Go.Proofs.Tryz List World Value
variable{w w':Zh}{a:Zk}{o n:Nat}{E:Da}
def FP(w:Zh)(o:Nat):Prop:=∀(k:Nat) (s:Zi),w.cell? (Zd o k)≠an (.string s)
theorem FP.of{A:Zh}{g:Nat}{l:Zj}{t:TypeId}(h:A.1[g]?=an (ca l.toArray t))(c:∀v∈l,∀s,v≠C4 s):FP A g:=λk s a=>by
 have b:A.cell? (Zd g k)=l[k]?:=by simp[cell?,h]
 rw[b]at a;exact c _ (Zs a) s rfl
theorem Ab.off{c:Zl}{V:List Nat}(h:Ab w w.1.size a c)(q:∀p,a=an p->n<=p.block)(r:FP w o)(k:Tn V w w')(m:∀g∈V,g=o\/g<n):Ab w' w'.1.size a c:=by
 rcases h with h|⟨b,d,rfl,f,j⟩
 .exact dp h
 cases c with
 |nil=>exact dp rfl
 |cons s0 c=>
  refine .inr ⟨b,d,rfl,Zr f k.size,λi s t=>(cell?_of_block (a:=⟨b,d+i,ba⟩) (k.block b f (λl=> ?_))).ag (j i s t)⟩;rcases m b l with e|e
  .subst e;exact r _ _ (j 0 s0 rfl)
  have:=q _ rfl;simp only at this;omega
theorem Bo.off{p l:Zk}{u:C9}{F:Db}(h:Bo w w.1.size a p l u F E)(C:FP w o)(x:Tn [o] w w'):Bo w' w'.1.size a p l u F E/\∀A,a=an A->FY w A u->FY w' A u:=by
 have g:∀{b k j:Nat} {s:Zi} {v:D4},b<w.1.size->w.cell? (Zd b k)=an (C4 s)->w.cell? (Zd b j)=v->w'.cell? (Zd b j)=v:=λ{b k j s v} f m r=>(cell?_of_block (a:=⟨b,j,ba⟩) (x.block b f (λc=>by simp at c;subst c;exact C _ _ m))).ag r;have K:=x.size;refine⟨⟨?_,?_,?_⟩,λA H I i k d y D=> ?_⟩
 .rcases h.k with e|⟨b,q,e,f,c⟩
  .exact dp e
  refine .inr ⟨b,q,e,Yv,λi k d=> ?_⟩;have⟨m,r,z,G,y,t,B⟩:=c i k d;exact⟨g f m m,g f m r,g f m z,G,y,g f m t,Ab.off B (n:=0) (λ_ _=>Aq _) C x Yu⟩
 .rcases h.p with e|⟨b,q,e,f,c⟩
  .exact dp e
  exact .inr ⟨b,q,e,Yv,λi k d=>⟨g f (c i k d).1 (c i k d).1,g f (c i k d).1 (c i k d).2⟩⟩
 .rcases h.l with e|⟨b,q,e,f,c⟩
  .exact dp e
  exact .inr ⟨b,q,e,Yv,λi k d=>⟨g f (c i k d).2.1 (c i k d).1,g f (c i k d).2.1 (c i k d).2.1,g f (c i k d).2.1 (c i k d).2.2⟩⟩
 rcases h.k with e|⟨b,q,e,f,c⟩
 .rw[e]at d;simp at d
 rw[H]at e;cases e;have⟨m,r,z,G,J,t,B⟩:=c i k d;have H:=g f m t;rw[H]at D;cases D;exact I i k d y t
structure UA (w:Zh) (e:Ending) (w':Zh):Prop where
 ex:∃(i0 i1 i2 i3 i4:Int) (a5:Zk) (n5 k5:Nat) (a6:Zk) (n6 k6:Nat) (a7:Zk) (n7 k7:Nat) (ph top at_ ro:Int) (qa ma da:Zk) (qc mc dn dc:Nat) (qs ms:Zl),e=.returned (ct #[Zg i0,Zg i1,Zg i2,Zg i3,Zg i4,cr a5 n5 k5,cr a6 n6 k6,cr a7 n7 k7,Zg ph,cr qa (eh qs) qc,cr ma (eh ms) mc,Zg top,Zg at_,Zg ro,cr da dn dc])/\Dy qa (eh qs) qc/\Dy ma (eh ms) mc/\(eh qs<=60000/\eh ms<=60000)/\∀V Y,(∀g∈V,g<w.1.size)->Tn V w' Y->Ab Y Y.1.size qa qs/\Ab Y Y.1.size ma ms
 low:Below w.1.size w w'
structure UQ (n:Nat) (wd now given births:Int) (ps:List Pd) (ls:List Ld) (X:Zh) (ch:Zj):Prop where
 ex:∃(r:UR) (b c:Nat) (pa la:Zk) (pc lc:Nat) (qa ma da:Zk) (qc mc dc:Nat),ch=[Ze,Zg wd,Zg now,Zg given,Zg births,cr (an ⟨b,0,ba⟩) (eh r.B) c,cr pa (eh ps) pc,cr la (eh ls) lc,Zg r.I,cr qa (eh r.H) qc,cr ma (eh r.ms) mc,Zg r.N,Zg r.M,Zg r.ro,cr da (eh r.ds) dc]/\Bo X X.1.size (an ⟨b,0,ba⟩) pa la r.B ps ls/\FY X ⟨b,0,ba⟩ r.B/\((pa=ba->pc=0)/\(la=ba->lc=0))/\(Ab X X.1.size qa r.H/\Ab X X.1.size ma r.ms)/\(Dy qa (eh r.H) qc/\Dy ma (eh r.ms) mc)/\((∀p,qa=an p->n<=p.block)/\∀p,ma=an p->n<=p.block)/\(eh r.H<=60000/\eh r.ms<=60000)/\eh r.B<=600/\∀k∈r.B,eh k.D<=30
theorem UQ.A{o g d a:Int}{m:Db}{l:Da}{X Y:Zh}{i:Zj}(h:UQ n o g d a m l X i)(f:Zz X Y):UQ n o g d a m l Y i:=by have⟨r,b,c,z,v,A,w,B,x,p,C,y,q,e,j,s,t,k,u⟩:=h.ex;exact⟨r,b,c,z,v,A,w,B,x,p,C,y,q,e,j.X f,s.ah j.k f,t,⟨k.1.X f,k.2.X f⟩,u⟩
theorem Aem{b:Nat}(h:Aa w b Dj)(g i j k l m n o p q a c d e f:D4):∃Y,Y=(ev (ev (ev (ev (ev (ev (ev (ev (ev (ev (ev (ev (ev (ev (ev w (Zd b 0) g) (Zd b 1) i) (Zd b 2) j) (Zd b 3) k) (Zd b 4) l) (Zd b 5) m) (Zd b 6) n) (Zd b 7) o) (Zd b 8) p) (Zd b 9) q) (Zd b 10) a) (Zd b 11) c) (Zd b 12) d) (Zd b 13) e) (Zd b 14) f)/\Aa Y b [g,i,j,k,l,m,n,o,p,q,a,c,d,e,f]/\Tn [b] w Y:=⟨_,rfl,Aea h g i j k l m n o p q a c d e f,Jy w b g i j k l m n o p q a c d e f⟩
theorem Abd(M z s f:Int){S pa U:Zk}(kc pc lc:Nat){D:C9}{B:Db}(ph O N Q:Int){qa ma:Zk}{qc mc:Nat}{G H:Zl}(C:Bo w w.1.size S pa U D B E)(a:∀A,S=an A->FY w A D)(yP:pa=ba->pc=0)(yO:U=ba->lc=0)(hk:OQ D)(hp:Sg B)(hf:OR D B E)(hq:Ab w w.1.size qa G)(hm:Ab w w.1.size ma H)(yN:Dy qa (eh G) qc)(yE:Dy ma (eh H) mc)(xF:eh G<=60000)(xB:eh H<=60000)(hn:eh D<=600/\eh B<=100/\eh E<=200)(zZ:∀k∈D,eh k.D<=30):
 D8 67 #[ct (Yg M z s f S (eh D) kc pa (eh B) pc U (eh E) lc),ct (Xy ph qa (eh G) qc ma (eh H) mc O N Q)] w (UA w):=by
 have⟨W,b⟩:=Ag (((w.alloc (ca (C8 M z s f S D kc pa B pc U E lc) 30)).alloc (ca (Xy ph qa (eh G) qc ma (eh H) mc O N Q) 32)).alloc (ca Xv 128));obtain⟨F,zW,c,I,J⟩:=BI (l:=(C7 M z s f S D kc pa B pc U E lc)) (k:=(Xu ph qa (eh G) qc ma (eh H) mc O N Q)) (m:=Dj) b;have HX:Hid (∀X,Zz W X->(Aa X w.1.size (C7 M z s f S D kc pa B pc U E lc)/\Aa X (w.1.size+1) (Xu ph qa (eh G) qc ma (eh H) mc O N Q)/\Aa X (w.1.size+2) Dj)/\Zz w X/\Bo X X.1.size S pa U D B E/\(Ab X X.1.size qa G/\Ab X X.1.size ma H)/\∀A,S=an A->FY X A D):=λX R=>by have t:Below w.1.size w X:=F.ag (R.ai F.size);exact⟨⟨Aa.A c R,Aa.A I R,Aa.A (v:=Ze) J R⟩,t,C.X t,⟨hq.X t,hm.X t⟩,λA hA=>(a A hA).ah (hA▸C.k) t⟩
 have d:=Yw (Ou M z s f kc pc lc ph O N Q qc mc (C.X F) hk hp hf (hq.X F) (hm.X F) ⟨Yv,Yv⟩ yE.1);have R:=Yw b;obtain⟨v0,v1,v2,v3,v4,v5,v6⟩:=Aa.c7 c 0 1 2 3 4 5 6;obtain⟨e0,e1,e2,e3,e4,e5⟩:=Aa.c6 I 0 1 2 3 4 5;clear b C hk hp hf hq hm a F c I J;delta D8;go_in;go_upto_region 1 with fail;rw[<-R.o];clear R;go_wp2_with fail;refine d.Aj ?_;rintro e w1 ⟨b1,rfl,R,F⟩;have⟨⟨_,I,J⟩,C,_⟩:=HX w1 F;have zS:=Yw R;have zN:Hid (Zz W w1):=F;have zP:Hid (Zz w w1):=C;obtain⟨yU,yV,_⟩:=F.size,I 5 _ rfl;have HZ:Hid (Aa w1 (w.1.size+2) Dj):=J;clear d v0 v1 v2 v3 v4 v5 v6 e0 e1 e2 e3 e4 e5 R F I J C;by_cases hgood:b1=true/\Q<1000000000
 case neg=>
  obtain⟨⟨y0,q0⟩,⟨y1,q1⟩,⟨y2,q2⟩,⟨y3,q3⟩,⟨y4,q4⟩,⟨y5,q5⟩,⟨y6,q6⟩,⟨y7,q7⟩,⟨y8,q8⟩,⟨y9,q9⟩,⟨a,zT⟩,⟨j,zU⟩,⟨zF,zV⟩,⟨zG,zX⟩,zH,zY⟩:=GO HZ;have t:b1=false\/(b1=true/\1000000000<=Q):=by
   cases b1 with
   |false=>exact dp rfl
   |true=>exact .inr ⟨rfl,Int.not_lt.1 (λh=>hgood ⟨rfl,h⟩)⟩
  have HE:Hid (∀X,Tn [w.1.size+2] w1 X->UA w (.returned (ct (Xh 1))) X):=λX hT=>
   ⟨⟨_,_,_,_,_,_,_,_,_,_,_,_,_,_,_,_,_,_,ba,ba,_,0,0,_,_,[],[],rfl,⟨Zx,λ_=>⟨rfl,rfl⟩⟩,⟨Zx,λ_=>⟨rfl,rfl⟩⟩,⟨Yu,Yu⟩,λ_ _ _ _=>⟨dp rfl,dp rfl⟩⟩,zP.ag (hT.A zP.size Yu)⟩
  clear HX zS hgood zN zP HZ;rcases t with rfl|⟨rfl,yQ⟩
  all_goals
   go_wp2;refine C1 (ct (Xh 1)) Ir (HE _ ?_)
   repeat refine Tn.ag ?_ (Tn.set _ _ _ _ Yu)
   exact Tn.of Ae
 obtain⟨rfl,yQ⟩:=hgood;have F:=zS rfl;have yT:¬(1000000000<=Q):=Yv
 have C:Hid (UWk f D B E Q G/\eh G<=23200/\eh H<=600):=⟨⟨hn.1,zZ,hn.2.1,hn.2.2,F.1.1,F.1.2,F.2.jq,F.2.jn,Yv⟩,F.2.dw.nq,F.2.dw.nm⟩;clear F zS;go_upto_region 3 with fail;refine DO [16,17,18,19,20,5] 6 rfl _ rfl Yr Yr Yr Yr Yr Yq Yr (λ_ X=>Zz W X) (λi X v=>match i with
  |0=>v=ct (C8 M z s f S D kc pa B pc U E lc)
  |1=>∃T P L rs,v=ct #[Zg M,Zg z,Zg s,Zg f,T,P,L]/\Be X W.1.size T P L rs D B E/\∀u∈T::P::L::rs,∃g n c,u=Yz g n c
  |2=>v=ct (Xy ph qa (eh G) qc ma (eh H) mc O N Q)
  |3=>∃x cx y cy,v=ct (Xy ph (an ⟨x,0,ba⟩) (eh G) cx (an ⟨y,0,ba⟩) (eh H) cy O N Q)/\X.ownsRow W.1.size 9 1 (C6 x G cx) (eh G) (G.map string)/\X.ownsRow W.1.size 9 1 (C6 y H cy) (eh H) (H.map string)
  |4=>∃ch:Zj,v=ct ch.toArray/\UQ W.1.size M z s f B E X ch
  |5=>∃o,v=Yy o/\W.1.size<=o/\X.1[o]?=an (ca Dj.toArray 128)
  |_=>True) (λX Y=>Zz X Y) ?_ zN.drew ?_ ?_
 .intro i X Y v hE hT;rcases i with _|_|_|_|_|_|_<;>first|exact hT|exact trivial|skip
  .obtain⟨T,P,L,rs,e,J,I⟩:=hT;exact⟨T,P,L,rs,e,J.A hE,I⟩
  .obtain⟨x,cx,y,cy,e,J,I⟩:=hT;exact⟨x,cx,y,cy,e,Ah J hE,Ah I hE⟩
  .obtain⟨ch,e,h⟩:=hT;exact⟨ch,e,h.A hE⟩
  obtain⟨o,e,J,I⟩:=hT;exact⟨o,e,J,(hE.block o (A6.1 I).1).ag I⟩
 .intro i o' k x X hi ho yY F q K R;have⟨⟨y0,y1,_⟩,_,u,a,j⟩:=HX X F;obtain⟨v0,v1,v2,v3,v4,v5,v6⟩:=Aa.c7 y0 0 1 2 3 4 5 6;obtain⟨e0,e1,e2,e3,e4,e5⟩:=Aa.c6 y1 0 1 2 3 4 5;clear y0 y1;rcases(show i=0\/i=1\/i=2\/i=3\/i=4\/i=5 by omega)with rfl|rfl|rfl|rfl|rfl|rfl<;>cases ho<;>simp only[AY,Act.put,Zq,Zp,Zo]at R |-
  all_goals try (go_simp;exact R.out _ X rfl Ae F)
  .have d:=q ⟨0,.data⟩ Yu Yp;rw[show x 0=ct (C8 M z s f S D kc pa B pc U E lc) from d]at R |-;have HC:=Yw (FK M z s f kc pc lc u j yP yO C.1.len C.1.pl C.1.ll C.1.cz);clear u a j;go_simp;refine HC.Aj ?_;rintro e X' ⟨T,P,L,rs,rfl,hS,hv,t⟩;exact R.out _ X' ⟨T,P,L,rs,rfl,hS.ai F.size,hv⟩ t (F.ag (t.ai F.size))
  .have d:=q ⟨2,.data⟩ Yu Yp;rw[show x 2=ct (Xy ph qa (eh G) qc ma (eh H) mc O N Q) from d]at R |-;have HC:=Yw (GH ph O N Q qc mc a.1 a.2 yN.2 yE.2 Yv Yv);clear u a j;go_simp;refine HC.Aj ?_;rintro e X' ⟨x',cx,y',cy,rfl,J,I,_,t⟩;exact R.out _ X' ⟨x',cx,y',cy,rfl,ownsRow.ai J F.size,ownsRow.ai I F.size⟩ t (F.ag (t.ai F.size))
  .obtain⟨T,P,L,rs,d1,hS,hv⟩:=q ⟨1,.data⟩ Yu Yp;have⟨x',cx,y',cy,d3,J,I⟩:=q ⟨3,.data⟩ Yu Yp;obtain⟨b,p,l,tc,zM,zK,zs,rfl,rfl,rfl,hm,r,yZ,xA⟩:=CT.of hS hv F.size;have yR:eh zs=eh D:=(by rw[<-hm,B0]);rw[yR]at d1;rw[d1,d3]at R |-;have lx:=Ac J (g:=x') rfl;have ly:=Ac I (g:=y') rfl;have yM:=Ac hS.ak (g:=b) rfl;have n:=r.io;have HC:=Yw (Mr M z s f b tc zs D B E (an ⟨p,0,ba⟩) (an ⟨l,0,ba⟩) zM zK ph O N Q (an ⟨x',0,ba⟩) (an ⟨y',0,ba⟩) cx cy G H X hm r.z r.bl n.p n.l (Ab.own J) (Ab.own I) (Ak.own J).cap (Ak.own I).cap (λp e=>by cases e;exact lx.2) (λp e=>by cases e;exact ly.2) C.1 (Dl C.2.2));have yB:=Yw n;clear u a j hS r J I n q;go_simp;refine HC.Aj ?_;rintro e X' ⟨r,b',c',xR,u,n,zC,zB,zA,zE,I⟩;have t:=I.low;have zI:∀(a:Zk),Dn b (an ⟨x',0,ba⟩) (an ⟨y',0,ba⟩) X.1.size a->∀p,a=an p->W.1.size<=p.block:=λa hf p hp=>by
    have:=F.size;rcases hf p hp with h|⟨q,hq,h⟩|⟨q,hq,h⟩|h
    .rw[h];exact yM.1
    .cases hq;rw[h];exact lx.1
    .cases hq;rw[h];exact ly.1
    omega
   have zJ:=I.jx.sub;rw[I.e];refine R.out _ X' ⟨[_,_,_,_,_,_,_,_,_,_,_,_,_,_,_],rfl,r,b',c',_,_,_,_,u,n,zC,zB,zA,zE,rfl,⟨by rw[<-I.zk];exact I.z.dt I.lt,(Bo.X yB t).p,(Bo.X yB t).l⟩,by rw[<-I.zk];exact I.z.some.cp,⟨λh=>(by cases h),λh=>(by cases h)⟩,⟨I.q,I.m⟩,⟨I.cq,I.cm⟩,⟨zI _ I.fq,zI _ I.fm⟩,I.jx.few C.1.pl C.1.ll C.2.1 C.2.2,Zm zJ.length_le C.1.len,λk hk=>C.1.cz k (zJ.subset hk)⟩ t (F.ag (t.ai F.size))
  have hA:Below X.1.size X (X.alloc (ca Dj.toArray 128)):=Zy;go_simp;exact R.out _ _ ⟨X.1.size,rfl,F.size,heap_alloc_new X _⟩ hA (F.ag (hA.ai F.size))
 intro x X F hT K R;simp only[AY,Act.put,Zq,Zp,Zo];obtain⟨ch,d4,hq⟩:=hT 4 Yq;obtain⟨o,d5,ho,hB⟩:=hT 5 Yq;obtain⟨r,b,c,yI,yF,zM,zK,u,n,zC,zB,zA,zE,rfl,g1,g2,g3,g4,g5,g6,g7,g8,g9⟩:=hq.ex;have bc:∀j,X.cell? (Zd o j)=Dj[j]?:=λj=>by simp[cell?,hB]
 have hN:FP X o:=FP.of hB (by simp[Dj]);have cA:Aa X o Dj:=λj v hv=>⟨(bc j).ag hv,by simp[frozen?,hB]⟩;have⟨⟨y0,q0⟩,⟨y1,q1⟩,⟨y2,q2⟩,⟨y3,q3⟩,⟨y4,q4⟩,⟨y5,q5⟩,⟨y6,q6⟩,⟨y7,q7⟩,⟨y8,q8⟩,⟨y9,q9⟩,⟨a,zT⟩,⟨j,zU⟩,⟨zF,zV⟩,⟨zG,zX⟩,zH,zY⟩:=GO cA;have⟨Y,hY,cY,tY⟩:=Aem cA Ze (Zg M) (Zg z) (Zg s) (Zg f) (C6 b r.B c) (C2 yI B zM) (C2 yF E zK) (Zg r.I) (C2 u r.H zB) (C2 n r.ms zA) (Zg r.N) (Zg r.M) (Zg r.ro) (C2 zC r.ds zE);have⟨k1,k2⟩:=g1.off hN tY;have yA:=Yw (FK M z s f c zM zK k1 (λA hA=>k2 A hA (by cases hA;exact g2)) g3.1 g3.2 g8 C.1.pl C.1.ll g9);have zO:Hid (Zz W Y):=F.ag (tY.A F.size (D2 ho));have A:Hid (Aa Y o _):=cY;have yC:Hid (∀V Z,(∀g∈V,g=o\/g<W.1.size)->Tn V Y Z->Ab Z Z.1.size u r.H/\Ab Z Z.1.size n r.ms):=λV Z hV hZ=>by
  have ht:Tn (o::V) X Z:=(tY.ai Yu).ag (hZ.ai (by simp;intro g J;exact .inr J));have yD:∀g∈o::V,g=o\/g<W.1.size:=λg J=>by
   rcases Cf.1 J with e|e
   .exact dp e
   exact hV g e
  exact⟨g4.1.off g6.1 hN ht yD,g4.2.off g6.2 hN ht yD⟩
 have HG:=Yw (Za g5 g7);have xD:o<X.1.size:=Aa.lt (v:=Ze) cA;rw[d4,d5];clear hT hq g1 g2 g3 g4 g5 g6 g7 g8 g9 hB bc hN cA tY cY k1 k2 d4 d5 zN;go_simp;refine R.out _ _ ?_;clear R K;rw[<-hY];clear hY y0 y1 y2 y3 y4 y5 y6 y7 y8 y9 a j zF zG zH q0 q1 q2 q3 q4 q5 q6 q7 q8 q9 zT zU zV zX zY;obtain⟨d1,d2,d3,d4,d5,d6,d7⟩:=Aa.c7 A 1 2 3 4 5 6 7;go_wp2_with fail;refine yA.Aj ?_;rintro e Z ⟨T,P,L,rs,rfl,hS,_,t⟩;obtain⟨ta,tc,rfl⟩:=Au hS.ak;obtain⟨yJ,yK,rfl⟩:=Au hS.pins;obtain⟨yG,yH,rfl⟩:=Au hS.ax;have hZ:=Aa.A A t;obtain⟨xE,yX,yW,R⟩:=hZ.lt,A.lt,t.size,zO.ag (t.ai zO.size);have xG:=R.size;have z2:=(HX Z R).1.2.2;obtain⟨⟨⟨u0,j0⟩,⟨u1,j1⟩,⟨u2,j2⟩,⟨u3,j3⟩,⟨u4,j4⟩,⟨u5,j5⟩,⟨u6,j6⟩,⟨u7,j7⟩,⟨u8,j8⟩,⟨u9,j9⟩,⟨xM,xH⟩,⟨xN,xI⟩,⟨xO,xJ⟩,⟨xP,xK⟩,xQ,xL⟩,⟨y0,q0⟩,⟨y1,q1⟩,⟨y2,q2⟩,⟨y3,q3⟩,⟨y4,q4⟩,⟨y5,q5⟩,⟨y6,q6⟩,⟨y7,q7⟩,⟨y8,q8⟩,⟨y9,q9⟩,⟨a,zT⟩,⟨j,zU⟩,⟨zF,zV⟩,⟨zG,zX⟩,zH,zY⟩:=GO hZ,GO z2;have xC:¬(o=w.1.size+1+1):=Yv;have yS:¬(w.1.size+1+1=o):=Yv;have HE:Hid (∀X,Tn [o,w.1.size+2] Z X->UA w (.returned (ct #[Ze,Zg M,Zg z,Zg s,Zg f,C2 ta r.B tc,C2 yJ B yK,C2 yG E yH,Zg r.I,C2 u r.H zB,C2 n r.ms zA,Zg r.N,Zg r.M,Zg r.ro,C2 zC r.ds zE])) X):=λX hT=>by
  have K:=(HX Z R).2.1;refine⟨⟨_,_,_,_,_,_,_,_,_,_,_,_,_,_,_,_,_,_,_,_,_,_,_,_,_,_,_,rfl,HG.1.1,HG.1.2,HG.2,λV X' hV yL=> ?_⟩,K.ag (hT.A K.size (by intro g J;simp at J;omega))⟩;refine yC (o::(w.1.size+2)::V) X' (λg J=> ?_) ((Tn.of t).ag ((hT.ai (by intro g J;simp at J |-;omega)).ag (yL.ai (λg J=>mem_cons_of_mem _ (mem_cons_of_mem _ J)))));rcases Cf.1 J with e|J
  .exact dp e
  rcases Cf.1 J with e|J
  .exact .inr Yv
  exact .inr (Dl (hV g J))
 clear hS hZ A yA d1 d2 d3 d4 d5 d6 d7 t yC HG z2 HX zO R;go_wp2;refine C1 (ct #[Ze,Zg M,Zg z,Zg s,Zg f,C2 ta r.B tc,C2 yJ B yK,C2 yG E yH,Zg r.I,C2 u r.H zB,C2 n r.ms zA,Zg r.N,Zg r.M,Zg r.ro,C2 zC r.ds zE]) Ir (HE _ ?_)
 repeat refine Tn.ag ?_ (Tn.set _ _ _ _ Yu)
 exact Tn.of Ae
