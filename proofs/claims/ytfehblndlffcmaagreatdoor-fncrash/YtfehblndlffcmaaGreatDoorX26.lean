import Derived.Test.YtfehblndlffcmaaGreatDoorX05
import Derived.Test.YtfehblndlffcmaaGreatDoorX06
import Derived.Test.YtfehblndlffcmaaGreatDoorX07
set_option maxRecDepth 100000
set_option maxHeartbeats 16000000
open Option renaming some->an,none->ba
open Bool renaming true->bg,false->bq
open Go.RowKit renaming Below->bs
open Decidable renaming decide->bx
open Go.Obj renaming cells->ca
open Go.Value renaming slice->cr,agg->ct,bool->ef
open Or renaming inl->dp,inr->eb
open List renaming length->eh
open Go.World renaming cell?->ek,frozen?->el,ownsRow->eo,grownBy->ep,setCell->ev
namespace Go.Proofs.YtfehblndlffcmaaGreatDoor
open ChangeShapes WideShapes ChangeAt RowKit _root_.Go.Proofs.Tryz List World Value
variable{w:Zh}{b n c:Nat}{g p:Int}{i j d f h:Zl}{l a:Zk}
theorem Vf{r:Zk}(m:Addr)(c d:Nat){b:Zl}(ah:Int)(h0:0<=ah)(S:Ab w w.1.size r f)(Q:Ab w w.1.size (an m) b)(X:r=ba->eh f=0/\c=0)(hl:eh f<=1048576)(zC:eh b<=1048576)(hs:∀s∈f,s.size<=1048576)(O:∀s∈b,s.size<=1048576)(hd:eh b<=d):
 D8 148 #[ct #[C3 r (eh f) c,C3 (an m) (eh b) d],Zg ah] w λe g=>∃v,e=C5 (ct #[v,Zb])/\
  eo g w.1.size 9 1 v (eh (Ap f b ah)) ((Ap f b ah).map string)/\Zz w g:=by
 have⟨T,P,E,F,G⟩:=info_parts Ck;have N:bs w.1.size w ((w.alloc (ca #[C2 r f c,C2 (an m) b d] 25)).alloc (ca #[Zb,Zb] 25)):=gB;delta D8;go_in;go_wp2_with fail;refine(EE _ c d b (Zx) (S.X N) (Q.X N) hl zC hs O).ai ?_;rintro e g ⟨rfl,h⟩;have zA:=N.ag (h.ai Yt);have V:=h.size;simp at V;have c0:ek g (Zd (w.1.size) 0)=an (C2 r f c):=by rw[h.cell (p:=⟨w.1.size,0,ba⟩) Yt];simp
 have c1:ek g (Zd (w.1.size) 1)=an (C2 (an m) b d):=by rw[h.cell (p:=⟨w.1.size,1,ba⟩) Yt];simp
 have r0:ek g (Zd (w.1.size+1) 0)=an Zb:=by rw[h.cell (p:=⟨w.1.size+1,0,ba⟩) Yu];simp
 have U:ek g (Zd (w.1.size+1) 1)=an Zb:=by rw[h.cell (p:=⟨w.1.size+1,1,ba⟩) Yu];simp
 have Z:∀o,el g ⟨w.1.size+1,o,ba⟩=bq:=λo=>by rw[h.frozen (p:=⟨w.1.size+1,o,ba⟩) Yu];simp[go_sem]
 clear h;cases hok:BG f b with
 |false=>
  go_wp2;refine C1 (ct #[Zb,Zb]) (by simp[results,results148,go_sem,r0,U]) ⟨Zb,rfl,?_,?_⟩
  .simp only[Ap,hok];exact ownsRow_nil _ _ _ _
  exact(zA.setCell (p:=⟨w.1.size+1,0,ba⟩) Yu _).setCell (p:=⟨w.1.size+1,1,ba⟩) Yu _
 |true=>
  have M:bs w.1.size w (g.alloc (ca #[] 9)):=gB;have a0:ek (g.alloc (ca #[] 9)) (Zd (w.1.size) 0)=an (C2 r f c):=by rw[((Below.refl g.1.size g).alloc (Zx) _).cell (p:=⟨w.1.size,0,ba⟩) Yt];exact c0
  have a1:ek (g.alloc (ca #[] 9)) (Zd (w.1.size) 1)=an (C2 (an m) b d):=by rw[((Below.refl g.1.size g).alloc (Zx) _).cell (p:=⟨w.1.size,1,ba⟩) Yt];exact c1
  have b0:ek (g.alloc (ca #[] 9)) (Zd (w.1.size+1) 0)=an Zb:=by rw[((Below.refl g.1.size g).alloc (Zx) _).cell (p:=⟨w.1.size+1,0,ba⟩) Yt];exact r0
  have b1:ek (g.alloc (ca #[] 9)) (Zd (w.1.size+1) 1)=an Zb:=by rw[((Below.refl g.1.size g).alloc (Zx) _).cell (p:=⟨w.1.size+1,1,ba⟩) Yt];exact U
  have g0:∀o,el (g.alloc (ca #[] 9)) ⟨w.1.size+1,o,ba⟩=bq:=λo=>by rw[((Below.refl g.1.size g).alloc (Zx) _).frozen (p:=⟨w.1.size+1,o,ba⟩) Yt];exact Z o
  have D:=(S.A M).bi;have C:eo (g.alloc (ca #[] 9)) (w.1.size+2) 9 1 (Yz g.1.size 0 0) 0 (([]:Zl).map string):=ownsRow_lit g #[] 0 Yv Yo rfl;by_cases h1:(eh b:Int)<ah
  .have zB:¬ah<0:=Yv;have x:Ap f b ah=f++b.take (eh b):=(by simp only[Ap,hok,if_true];rw[show(min (max ah 0) (eh b:Int)).toNat=eh b from by omega]);have u:eh (b.take (eh b))=eh b:=gA;have z:Ab w w.1.size (an m) (b.take (eh b)):=gB;obtain⟨A,J,t⟩:=Yw (Zn D C),Yw x,Yw u;clear D C x u S Q hs O r0 U Z;go_wp2
   go_region_law (first
    |(refine Az _ rfl (.tmp 19) (.tmp 21) 23 rfl (w.1.size+2) 9 T Zc 16 underlying23 P E F G rfl g.1.size 0 0 [] rfl (by exact A.2) r (eh f) c f rfl rfl X (by exact A.1) Yo Yv Yt ?_;intro I n w3 j h _ _;simp only[Ay,nil_append]at j;have zE:=h.size;have l1:=h.cell (a:=⟨w.1.size,1,ba⟩) (by exact a1) Yt;have q0:=h.cell (a:=⟨w.1.size+1,0,ba⟩) (by exact b0) Yt;have q1:=h.cell (a:=⟨w.1.size+1,1,ba⟩) (by exact b1) Yt;have qf:∀o,el w3 ⟨w.1.size+1,o,ba⟩=bq:=λo=>(h.frozen_far ⟨w.1.size+1,o,ba⟩ Yt Yt).ag (g0 o);have l:=M.drew.grown h Yt (λk B=>by cases B;omega);have W:=l.size;have Y:=(j.lt I rfl).1)
    |(refine Az _ rfl (.tmp 22) (.tmp 26) 23 rfl (w.1.size+2) 9 T Zc 16 underlying23 P E F G rfl I (eh f) n f rfl j (an m) (eh b) d (b.take (eh b)) rfl t (λe=>by cases e) (z.A l).bi Yo Yv Yv ?_;intro s q w4 y i _ _;have zF:=i.size;have p0:=i.cell (a:=⟨w.1.size+1,0,ba⟩) q0 Yt;have p1:=i.cell (a:=⟨w.1.size+1,1,ba⟩) q1 Yt;have pf:∀o,el w4 ⟨w.1.size+1,o,ba⟩=bq:=λo=>(i.frozen_far ⟨w.1.size+1,o,ba⟩ Yt Yt).ag (qf o);have K:=l.grown i Yv (λk B=>by cases B;omega)))
   all_goals
    have R:=Ek (L:=f++b.take (eh b)) K (by rw[Am,t.o];exact y);have H:=Yw R;clear R j y h i z A;go_wp2;refine C1 (ct #[Yz s (eh f+(eh b)) q,Zb]) (by simp[results,results148,go_sem,p0,p1]) ⟨_,rfl,?_,H.2⟩;rw[J.o];exact H.1
  have zB:0<=ah:=Yv;have zG:ah<=eh b:=Yv;have zH:ah.toNat<=eh b:=Yv;have Y:ah<=d:=Yv;have x:Ap f b ah=f++b.take (ah.toNat):=by simp only[Ap,hok,if_true];rw[show(min (max ah 0) (eh b:Int)).toNat=ah.toNat from by omega]
  have u:eh (b.take (ah.toNat))=ah.toNat:=Yt;have z:Ab w w.1.size (an m) (b.take (ah.toNat)):=Q.take (ah.toNat);obtain⟨A,J,t⟩:=Yw (Zn D C),Yw x,Yw u;clear D C x u S Q hs O r0 U Z;go_wp2
  go_region_law (first
   |(refine Az _ rfl (.tmp 19) (.tmp 21) 23 rfl (w.1.size+2) 9 T Zc 16 underlying23 P E F G rfl g.1.size 0 0 [] rfl (by exact A.2) r (eh f) c f rfl rfl X (by exact A.1) Yo Yv Yt ?_;intro I n w3 j h _ _;simp only[Ay,nil_append]at j;have zE:=h.size;have l1:=h.cell (a:=⟨w.1.size,1,ba⟩) (by exact a1) Yt;have q0:=h.cell (a:=⟨w.1.size+1,0,ba⟩) (by exact b0) Yt;have q1:=h.cell (a:=⟨w.1.size+1,1,ba⟩) (by exact b1) Yt;have qf:∀o,el w3 ⟨w.1.size+1,o,ba⟩=bq:=λo=>(h.frozen_far ⟨w.1.size+1,o,ba⟩ Yt Yt).ag (g0 o);have l:=M.drew.grown h Yt (λk B=>by cases B;omega);have W:=l.size;have Y:=(j.lt I rfl).1)
   |(refine Az _ rfl (.tmp 22) (.tmp 26) 23 rfl (w.1.size+2) 9 T Zc 16 underlying23 P E F G rfl I (eh f) n f rfl j (an m) (ah.toNat) d (b.take (ah.toNat)) rfl t (λe=>by cases e) (z.A l).bi Yo Yv Yv ?_;intro s q w4 y i _ _;have zF:=i.size;have p0:=i.cell (a:=⟨w.1.size+1,0,ba⟩) q0 Yt;have p1:=i.cell (a:=⟨w.1.size+1,1,ba⟩) q1 Yt;have pf:∀o,el w4 ⟨w.1.size+1,o,ba⟩=bq:=λo=>(i.frozen_far ⟨w.1.size+1,o,ba⟩ Yt Yt).ag (qf o);have K:=l.grown i Yv (λk B=>by cases B;omega)))
  all_goals
   have R:=Ek (L:=f++b.take (ah.toNat)) K (by rw[Am,t.o];exact y);have H:=Yw R;clear R j y h i z A;go_wp2;refine C1 (ct #[Yz s (eh f+(ah.toNat)) q,Zb]) (by simp[results,results148,go_sem,p0,p1]) ⟨_,rfl,?_,H.2⟩;rw[J.o];exact H.1
theorem Vg{h:Zk}(c:Nat)(ah:Int)(h0:0<=ah)(j:Ab w w.1.size h d)(I:h=ba->eh d=0/\c=0)(S:eh d<=1048576)(t:∀s∈d,s.size<=1048576):
 D8 148 #[ct #[C3 h (eh d) c,Zb],Zg ah] w λe b=>∃v,e=C5 (ct #[v,Zb])/\
  eo b w.1.size 9 1 v (eh (Ap d [] ah)) ((Ap d [] ah).map string)/\Zz w b:=by
 have⟨D,C,u,x,y⟩:=info_parts Ck;have r:bs w.1.size w ((w.alloc (ca #[C2 h d c,Zb] 25)).alloc (ca #[Zb,Zb] 25)):=gB;delta D8;go_in;go_wp2_with fail;refine(EE ba c 0 [] (Zx) (j.X r) (dp rfl) S Yu t Yu).ai ?_;rintro e b ⟨rfl,f⟩;have G:=r.ag (f.ai Yt);have m:=f.size;simp at m;have O:ek b (Zd (w.1.size) 0)=an (C2 h d c):=by rw[f.cell (p:=⟨w.1.size,0,ba⟩) Yt];simp
 have P:ek b (Zd (w.1.size) 1)=an Zb:=by rw[f.cell (p:=⟨w.1.size,1,ba⟩) Yt];simp
 have r0:ek b (Zd (w.1.size+1) 0)=an Zb:=by rw[f.cell (p:=⟨w.1.size+1,0,ba⟩) Yu];simp
 have l:ek b (Zd (w.1.size+1) 1)=an Zb:=by rw[f.cell (p:=⟨w.1.size+1,1,ba⟩) Yu];simp
 have n:∀o,el b ⟨w.1.size+1,o,ba⟩=bq:=λo=>by rw[f.frozen (p:=⟨w.1.size+1,o,ba⟩) Yu];simp[go_sem]
 clear f;cases hok:BG d []with
 |false=>
  go_wp2;refine C1 (ct #[Zb,Zb]) (by simp[results,results148,go_sem,r0,l]) ⟨Zb,rfl,?_,?_⟩
  .simp only[Ap,hok];exact ownsRow_nil _ _ _ _
  exact(G.setCell (p:=⟨w.1.size+1,0,ba⟩) Yu _).setCell (p:=⟨w.1.size+1,1,ba⟩) Yu _
 |true=>
  have q:bs w.1.size w (b.alloc (ca #[] 9)):=gB;have a0:ek (b.alloc (ca #[] 9)) (Zd (w.1.size) 0)=an (C2 h d c):=by rw[((Below.refl b.1.size b).alloc (Zx) _).cell (p:=⟨w.1.size,0,ba⟩) Yt];exact O
  have K:ek (b.alloc (ca #[] 9)) (Zd (w.1.size) 1)=an Zb:=by rw[((Below.refl b.1.size b).alloc (Zx) _).cell (p:=⟨w.1.size,1,ba⟩) Yt];exact P
  have M:ek (b.alloc (ca #[] 9)) (Zd (w.1.size+1) 0)=an Zb:=G9;have N:ek (b.alloc (ca #[] 9)) (Zd (w.1.size+1) 1)=an Zb:=by rw[((Below.refl b.1.size b).alloc (Zx) _).cell (p:=⟨w.1.size+1,1,ba⟩) Yt];exact l
  have Q:∀o,el (b.alloc (ca #[] 9)) ⟨w.1.size+1,o,ba⟩=bq:=λo=>by rw[((Below.refl b.1.size b).alloc (Zx) _).frozen (p:=⟨w.1.size+1,o,ba⟩) Yt];exact n o
  have i:=(j.A q).bi;have g:eo (b.alloc (ca #[] 9)) (w.1.size+2) 9 1 (Yz b.1.size 0 0) 0 (([]:Zl).map string):=ownsRow_lit b #[] 0 Yv Yo rfl;by_cases h1:(0:Int)<ah
  case' pos=>
   have zA:¬ah<0:=Yv;have f:Ap d [] ah=d++[]:=by simp[Ap,hok]
  case' neg=>
   obtain rfl:ah=0:=Yv;have f:Ap d [] 0=d++[]:=by simp[Ap,hok]
  all_goals
   have z:=Yw (Zn i g);have F:=Yw f;clear i g f j t r0 l n;go_wp2
   go_region_law (first
    |(refine Az _ rfl (.tmp 19) (.tmp 21) 23 rfl (w.1.size+2) 9 D Zc 16 underlying23 C u x y rfl b.1.size 0 0 [] rfl (by exact z.2) h (eh d) c d rfl rfl I (by exact z.1) Yo Yv Yt ?_;intro E j Z i f _ _;simp only[Ay,nil_append]at i;have zC:=f.size;have l1:=f.cell (a:=⟨w.1.size,1,ba⟩) (by exact K) Yt;have W:=f.cell (a:=⟨w.1.size+1,0,ba⟩) (by exact M) Yt;have X:=f.cell (a:=⟨w.1.size+1,1,ba⟩) (by exact N) Yt;have Y:∀o,el Z ⟨w.1.size+1,o,ba⟩=bq:=λo=>(f.frozen_far ⟨w.1.size+1,o,ba⟩ Yt Yt).ag (Q o);have n:=q.drew.grown f Yt (λk B=>by cases B;omega);have J:=n.size;have zB:=(i.lt E rfl).1)
    |(refine Az _ rfl (.tmp 22) (.tmp 26) 23 rfl (w.1.size+2) 9 D Zc 16 underlying23 C u x y rfl E (eh d) j d rfl i ba 0 0 [] rfl rfl (λ_=>⟨rfl,rfl⟩) (λA e=>by cases e) Yo Yv Yv ?_;intro T l s t g _ _;have A:=g.size;have U:=g.cell (a:=⟨w.1.size+1,0,ba⟩) W Yt;have V:=g.cell (a:=⟨w.1.size+1,1,ba⟩) X Yt;have pf:∀o,el s ⟨w.1.size+1,o,ba⟩=bq:=λo=>(g.frozen_far ⟨w.1.size+1,o,ba⟩ Yt Yt).ag (Y o);have H:=n.grown g Yv (λk B=>by cases B;omega)))
   all_goals
    have R:=Ek (L:=d++[]) H (by rw[Am];exact t);have B:=Yw R;clear R i t f g z;go_wp2;refine C1 (ct #[Yz T (eh d+0) l,Zb]) (by simp[results,results148,go_sem,U,V]) ⟨_,rfl,?_,B.2⟩;rw[F.o];exact B.1
theorem Oq(h:AB w b a n c p)(g:0<=p)(i:p<=900000):
 D8 68 #[Yy b] w λe f=>∃d,e=C5 (Zg d)/\(1<=d/\d<=8)/\AB f b a n c (p+1)/\ep w f (an b):=by
 delta D8;go_in;go_wp2_with fail;refine(AE 8 h g Yv Yv Yv).ai ?_;rintro e k ⟨r,rfl,r0,j,f,d⟩;have H:=Yw (Zn f d);clear f d h;by_cases c1:r<2
 .go_wp2;go_ret;exact⟨1,rfl,Yv,H⟩
 by_cases c2:r=2
 .subst c2;go_wp2;go_ret;exact⟨2,rfl,Yv,H⟩
 have d:(r==2)=bq:=Yt;go_wp2;go_ret;exact⟨8,rfl,Yv,H⟩
structure Ff (w w':Zh) (e:Ending) (b:Nat) (a:Zk) (n c:Nat) (p K:Int) (TX RF:Nat):Prop where
 ex:∃(t:Zi) (ra:Zk) (rc:Nat) (ss:Zl),e=.returned (ct #[.string t,cr ra (eh ss) rc])/\t.size<=TX/\eh ss<=RF/\(∀s∈ss,s.size<=8)/\
  eo w' w.1.size 9 1 (cr ra (eh ss) rc) (eh ss) (ss.map Value.string)
 U:GF w w' b a n c p K
theorem Ks(l:List UInt8)(k:Nat):(Ds l k).size=k:=by unfold Ds;rw[Ge,Dq]
theorem WT{d:Zk}{i:Nat}{a:Zl}(h:eo w b 9 1 (C3 d (eh a) i) (eh a) (a.map string)):Ab w w.1.size d a/\(d=ba->eh a=0/\i=0):=by
 rcases h.2 with⟨c,f⟩|⟨g,k,l,c,_,_,j,_⟩
 .injection c with e1 e2 e3;subst e1;exact⟨dp (B8 f),λ_=>⟨f,e3⟩⟩
 cases c;exact⟨Ab.own h,λe=>by cases e⟩
theorem Ff.fin{V:Zh}{K:Int}{TX RF Q:Nat}{t':Zi}{d:Zk}{f:Nat}{L:Zl}(r:t'.size<=TX)(k:eh L<=RF)(q:∀s∈L,s.size<=8)(m:eo V (Q+1) 9 1 (C3 d (eh L) f) (eh L) (L.map string))(o:AB V b a n c g)(h:p<=g)(j:g<=p+K)(l:ep w V (an b))(t:w.1.size<Q)(u:b<w.1.size):
 Ff w (ev (ev V (Zd Q 0) (C4 t')) (Zd Q 1) (C3 d (eh L) f)) (.returned (ct #[C4 t',C3 d (eh L) f])) b a n c p K TX RF:=by
 refine⟨⟨t',_,_,L,rfl,r,k,q,?_⟩,⟨g,?_,h,j⟩,?_⟩
 .exact(ownsRow_setCell_below (ownsRow_setCell_below m (a:=⟨Q,0,ba⟩) (Nat.lt_succ_self Q) _) (a:=⟨Q,1,ba⟩) (Nat.lt_succ_self Q) _).ai Yv
 .exact(o.grown (As _ Q 0 _) Yv).grown (As _ Q 1 _) Yv
 exact(l.andThen (As _ Q 0 _) (λi e=>by cases e;exact dp Yv)).andThen (As _ Q 1 _) (λi e=>by cases e;exact dp Yv)
theorem PX(t:Zi){ra:Zk}(rc:Nat)(h:AB w b a n c p)(hp:0<=p)(yY:p<=800000)(K:Ab w w.1.size ra d)(zK:ra=ba->eh d=0/\rc=0)(ht:t.size<=2000)(hl:eh d<=30)(D:∀s∈d,s.size<=8):
 D8 71 #[Yy b,ct #[C4 t,C3 ra (eh d) rc]] w λe f=>Ff w f e b a n c p 2 2001 31:=by
 obtain⟨⟨i0,V,zH,zI,zJ⟩,S,G,f⟩:=info_parts Ck,h.lt,D6 w #[C4 t,C3 ra (eh d) rc] 76;have o:bs w.1.size w G:=by rw[f];exact Zy
 have I:Aa G w.1.size [C4 t,C3 ra (eh d) rc]:=by rw[f];exact Aa.new w _ _
 have C:G.1.size=w.1.size+1:=by rw[f];simp
 have⟨W,z⟩:=D6 G #[Zc,Zb] 76;have q:bs G.1.size G W:=by rw[z];exact Zy
 have x:Aa W G.1.size [Zc,Zb]:=by rw[z];exact Aa.new G _ _
 have F:=I.A q;have l:bs w.1.size w W:=o.ag (q.ai o.size);have⟨Q,J⟩:=Ag G.1.size;have R:w.1.size<Q:=Yv;rw[<-J]at x;have HZ:Hid (w.1.size+1=Q):=by show _=_;omega
 obtain⟨⟨M,_⟩,⟨N,_⟩,zV,HW⟩:=F 0 _ rfl,F 1 _ rfl,Yw f,Yw z;have H:Hid (Ab W W.1.size ra d):=K.X l;have y:Hid (Aa W Q [Zc,Zb]/\AB W b a n c p/\ep w W (an b)):=⟨x,h.A l,Af _ l⟩;have yS:Q<W.1.size:=x.lt;clear f z J o q I x F l C h K;delta D8;go_in;go_upto_region 1 with fail;rw[<-zV.o,<-HW.o,HZ.o];go_wp2_with fail;refine(Gz t rc H zK Yv).ai ?_;rintro e w1 ⟨g,I,rfl,x,o⟩;have⟨K,l⟩:=D6 w1 #[C4 t,Yz g (eh d) I] 76;have q:bs w1.1.size w1 K:=by rw[l];exact Zy
 have f:bs W.1.size W K:=o.ag (q.ai o.size);have⟨B,z⟩:=Ag w1.1.size;have C:Aa K B [C4 t,Yz g (eh d) I]:=by rw[l,z];exact Aa.new w1 _ _
 have yQ:Q<B:=Dl o.size;have yD:=x.lt g rfl;have yM:g<B:=by rw[z];exact yD.2
 have F:eo K (Q+1) 9 1 (Yz g (eh d) I) (eh d) (d.map string):=(x.kept (Af ba q) (Classical.em _)).ai Yv;have HD:Hid (Aa K Q [Zc,Zb]/\AB K b a n c p/\ep w K (an b)):=⟨y.1.A f,y.2.1.A f,y.2.2.ag (Af _ f)⟩;obtain⟨zW,HB,HE⟩:=Yw l,Yw z,Yw (Zn C F);clear l z q f y H C F x o M N;go_upto_region 2 with fail;rw[<-zW.o,<-HB.o];go_wp2_with fail;refine(AE 5 HD.2.1 Yv Yv Yv Yv).ai ?_;rintro e f ⟨r,rfl,r0,r1,s3,g3⟩;have x:Hid (Aa f Q [Zc,Zb]/\AB f b a n c (p+1)/\ep w f (an b)):=⟨HD.1.co g3 Yv,s3,HD.2.2.ag g3⟩;have B3:Hid (Aa f B [C4 t,Yz g (eh d) I]):=Aa.co HE.1 g3 Yv;have yV:Q+1<=g:=(ownsRow.lt HE.2 g rfl).1;have O3:Hid (eo f (Q+1) 9 1 (Yz g (eh d) I) (eh d) (d.map string)):=ownsRow.kept HE.2 g3 (eb Fo);have zO:B<f.1.size:=B3.lt;obtain⟨⟨x0,f0⟩,⟨x1,f1⟩,⟨y0,q0⟩,y1,q1⟩:=B3 0 _ rfl,B3 1 _ rfl,x.1 0 _ rfl,x.1 1 _ rfl;have zS:¬B=Q:=Yv;have yO:¬Q=B:=Yv;by_cases c0:r=0
 .subst c0;go_wp2_with fail;refine(AE 2 x.2.1 Yv Yv Yv Yv).ai ?_;rintro e w4 ⟨r',rfl,yH,yI,s4,g4⟩;obtain⟨m,rfl⟩:∃m:Nat,r'=m:=⟨r'.toNat,Yv⟩;have zP:=Tc ⟨#[116]⟩ (2000+m) w4 Yq (by show 1 *(2000+m)<=100000;omega);rw[show((2000+m:Nat):Int)=2000+(m:Int) by omega]at zP;have HM:=Yw zP;have k:=B3.co g4 Yv;have Y4:=x.1.co g4 Yv;have O4:=O3.kept g4 (eb Fo);have G4:=x.2.2.ag g4;go_wp2_with fail;refine HM.Aj ?_;rintro e w5 ⟨T,rfl,hT,yG⟩;rw[yG];obtain⟨⟨x0,f0⟩,⟨x1,f1⟩,⟨y0,q0⟩,y1,q1⟩:=k 0 _ rfl,k 1 _ rfl,Y4 0 _ rfl,Y4 1 _ rfl;have HT:Hid (T.size<=2001):=by show _<=_;rw[hT];show 1 *(2000+m)<=2001;omega
  go_wp2;refine C1 (ct #[C4 T,Yz g (eh d) I]) G2 ?_;refine Ff.fin HT Yv D (O4.kept (As _ B 0 _) (eb Fo)) (s4.grown (As _ B 0 _) Yv) Yv Yv (G4.andThen (As _ B 0 _) (λi e=>by cases e;exact dp Yv)) R S
 have d0:(r==0)=bq:=D2 c0;by_cases c1:r=1
 .subst c1;go_wp2_with (first
   |(at_builtin;refine wpList_append_own_at _ rfl _ _ 23 rfl (Q+1) 9 i0 Zc 1 16 underlying23 V zH zI zJ rfl Yq _ (eh d) (d.map string) rfl ?d0 ⟨f.1.size,0,ba⟩ 1 1 [C4 ⟨#[120]⟩] rfl rfl ?d1 ?d2 ?d3 ?d4 ?d5 ?_))
  case d0=>exact O3.alloc _
  case d1=>
   intro j u C;cases j with
   |zero=>simp at C;subst C;simp[Addr.add]
   |succ j=>simp at C
  case d2=>intro u C;simp at C;subst C;rfl
  case d3=>unfold maxLen;omega
  case d4=>omega
  case d5=>simp;omega
  intro v' F l q z zB;have⟨y,c6,zG⟩:∃y c6,v'=Yz y (eh d+1) c6:=by
   rcases Joins.ownsRow_forms l with⟨e1,_⟩|hf
   .exact(z e1).elim
   exact hf
  subst zG;have b6:bs (Q+1) f F:=(Ae.alloc Yv _).grown q Yt (λi V=>by simp[ownBlock]at V;omega);have o:ep f F (an g):=⟨b6.os,b6.tape,b6.output,b6.size,λi V zS=>by
   have h1:=q.block i Yt (by simpa [ownBlock]using zS);rw[h1];exact(Af ba ((Below.refl f.1.size f).alloc (Zx) _)).block i V Yu⟩
  have H:=B3.au o Yv;have N:=x.1.au o Yv;have G6:=x.2.2.andThen o (λi e=>by cases e;exact dp Yv);have S6:=x.2.1.grown o Yv;have yU:=l.lt y rfl;have U:y≠B:=by rcases zB with h|h<;>simp[ownBlock]at h<;>omega
  have O6:eo F (Q+1) 9 1 (Yz y (eh (d++[ByteArray.mk #[120]])) c6) (eh (d++[ByteArray.mk #[120]])) ((d++[ByteArray.mk #[120]]).map string):=by
   have:eh (d++[ByteArray.mk #[120]])=eh d+1:=Yu;rw[this,map_append];exact l
  obtain⟨HF,⟨x0,f0⟩,⟨x1,f1⟩,⟨y0,q0⟩,y1,q1⟩:=Yw (Zn G6 (Zn S6 O6)),H 0 _ rfl,H 1 _ rfl,N 0 _ rfl,N 1 _ rfl;go_wp2;refine C1 (ct #[C4 t,Yz y (eh d+1) c6]) G2 ?_;have J:eh d+1=eh (d++[ByteArray.mk #[120]]):=Yu;rw[J];refine Ff.fin Yv Yt ?_ (HF.2.2.kept (As _ B 1 _) (eb Fo)) (HF.2.1.grown (As _ B 1 _) Yv) Yv Yv (HF.1.andThen (As _ B 1 _) (λi e=>by cases e;exact dp Yv)) R S;intro s Z;rcases Bw.1 Z with h|h
  .exact D s h
  simp at h;subst h;decide
 have d1:(r==1)=bq:=D2 c1;by_cases c2:r=2
 .subst c2;by_cases hl0:0<eh d
  case neg=>have dl:bx ((0:Int)<(eh d:Int))=bq:=decide_eq_false Yv;have zU:=Yw hl0;clear hl0;go_wp2;refine C1 (ct #[C4 t,Yz g (eh d) I]) G2 ?_;exact Ff.fin (t':=t) (L:=d) (TX:=2001) (RF:=31) Yv Yv D O3 x.2.1 Yv Yv x.2.2 R S
  have dl:bx ((0:Int)<(eh d:Int))=bg:=decide_eq_true Yv;have HX:Hid (d[0]?=an d[0]):=Zv hl0;have yF:d[0]∈d:=getElem_mem hl0;generalize d[0]=X at *
  have cX:ek f (Zd g 0)=an (C4 X):=by
   have:=Ab.own O3;rcases this with h|⟨b',xA,e1,_,h3⟩
   .subst h;simp at hl0
   cases e1;simpa using h3 0 X HX
  have yT:g<f.1.size:=(O3.lt g rfl).2;have zU:=Yw hl0;have yX:(0:Int)<(eh d:Int):=Yv;have zF:bs f.1.size f (f.alloc (ca #[C4 X] 9)):=Zy;have O:eo (f.alloc (ca #[C4 X] 9)).drew (Q+1) 9 1 (Yz g (eh d) I) (eh d) (d.map string):=O3.kept (Af ba zF.drew) (Classical.em _);have L:∀A,(an ⟨f.1.size,0,ba⟩:Zk)=an A->∀i s,[X][i]?=an s->ek (f.alloc (ca #[C4 X] 9)).drew (A.add i)=an (C4 s):=by
   intro A e i s D;injection e with e;subst e;cases i with
   |zero=>simp at D;subst D;simp[Addr.add]
   |succ i=>simp at D
  have yL:ek (f.alloc (ca #[C4 X] 9)) (Zd B 1)=an (Yz g (eh d) I):=(zF.cell (p:=⟨B,1,ba⟩) zO).ag x1;clear hl0;go_upto_region 10 with fail
  go_region_law (first
   |(refine Az (f.alloc (ca #[C4 X] 9)).drew rfl (.tmp 37) (.tmp 42) 23 rfl (Q+1) 9 i0 Zc 16 underlying23 V zH zI zJ rfl g (eh d) I d rfl O (an ⟨f.1.size,0,ba⟩) 1 1 [X] rfl rfl (λe=>by cases e) L Yo Yv Yt ?_;intro y c6 F Y E M yN;have o:ep f F (an g):=(Af (an g) zF.drew).ag E;have H:=B3.au o Yv;have N:=x.1.au o Yv;obtain⟨yJ,zY⟩:=H 0 _ rfl;obtain⟨yK,zZ⟩:=H 1 _ rfl;obtain⟨y0',q0'⟩:=N 0 _ rfl;obtain⟨y1',q1'⟩:=N 1 _ rfl))
  all_goals
   have U:y≠B:=by
    have:=zO;rcases M with h|h
    .omega
    simp at h;omega
   have HF:=Yw (Zn (x.2.2.andThen o (λi e=>by cases e;exact dp Yv)) (Zn (x.2.1.grown o Yv) Y));have yE:=(Y.lt y rfl).1;clear Y E M H N O L yL x0 x1 f0 f1 y0 y1 q0 q1 cX;go_wp2;refine C1 (ct #[C4 t,Yz y (eh d+1) c6]) G2 ?_;have J:eh d+1=eh (d++[X]):=Yu;rw[J];refine Ff.fin Yv Yt ?_ (ownsRow.kept (by rw[<-J];exact HF.2.2) (As _ B 1 _) (eb Fo)) (HF.2.1.grown (As _ B 1 _) Yv) Yv Yv (HF.1.andThen (As _ B 1 _) (λi e=>by cases e;exact dp Yv)) R S;intro s Z;rcases Bw.1 Z with h|h
   .exact D s h
   simp at h;subst h;exact D _ yF
 have d2:(r==2)=bq:=D2 c2;by_cases c3:r=3
 case neg=>
  have d3:(r==3)=bq:=D2 c3;go_wp2;refine C1 (ct #[C4 (t++⟨#[122]⟩),Yz g (eh d) I]) G2 ?_;refine Ff.fin (by rw[ByteArray.size_append];show t.size+1<=2001;omega) Yv D (O3.kept (As _ B 0 _) (eb Fo)) (x.2.1.grown (As _ B 0 _) Yv) Yv Yv (x.2.2.andThen (As _ B 0 _) (λi e=>by cases e;exact dp Yv)) R S
 subst c3;have yA:bs f.1.size f (f.alloc (ca #[] 9)):=Zy;have⟨M,Y⟩:=Ag ((ev f (Zd B 1) (Yz f.1.size 0 0)).alloc (ca #[] 9));have N:ep f M (an B):=by rw[Y];exact(As _ B 1 _).ag (grownBy_alloc _ _ _)
 have k:Aa M B [C4 t,Yz f.1.size 0 0]:=by rw[Y];exact Aa.A (B3.set 1 _) (Zy)
 have o4:eo M (Q+1) 9 1 (Yz f.1.size 0 0) 0 (([]:Zl).map string):=by have:=ownsRow_lit (base:=Q+1) (e:=9) (size:=1) (ev f (Zd B 1) (Yz f.1.size 0 0)) #[] 0 Yt Yo rfl;rw[size_setCell]at this;rw[Y];exact this
 have E:Hid (Aa M Q [Zc,Zb]/\AB M b a n c (p+1)/\ep w M (an b)):=⟨x.1.au N Yv,x.2.1.grown N Yv,x.2.2.andThen N (λi e=>by cases e;exact dp Yv)⟩;obtain⟨zN,O,zM,yP⟩:=Yw k,Yw o4,Yw Y,N.size;clear Y N k o4 yA;go_upto_region 13 with fail;rw[<-zM.o];clear zM x0 x1 f0 f1 y0 y1 q0 q1;go_wp2_with fail;refine(AE 2 E.2.1 Yv Yv Yv Yv).ai ?_;rintro e w5 ⟨r',rfl,yH,yI,Y,N⟩;obtain⟨m,rfl⟩:∃m:Nat,r'=m:=⟨r'.toNat,Yv⟩;have X5:Hid (Aa w5 B [C4 t,Yz f.1.size 0 0]):=Aa.co zN N Yv;have E5:Hid (Aa w5 Q [Zc,Zb]/\AB w5 b a n c (p+1+1)/\ep w w5 (an b)):=⟨E.1.co N Yv,Y,E.2.2.ag N⟩;have O5:Hid (eo w5 (Q+1) 9 1 (Yz f.1.size 0 0) 0 (([]:Zl).map string)):=O.kept N (eb Fo);clear Y N zN E O;go_wp2;go_loopw [7] (λi wr=>∃(k N ck:Nat) (L:Zl),i=Zg k/\k<=30+m/\eh L=k/\B≠N/\Hid (Aa wr B [C4 t,Yz N (eh L) ck])/\Hid (∀s∈L,s.size<=8)/\Hid (eo wr (Q+1) 9 1 (Yz N (eh L) ck) (eh L) (L.map string))/\Hid (Aa wr Q [Zc,Zb]/\AB wr b a n c (p+1+1)/\ep w wr (an b))) (λi _=>30+m -(intOf i).toNat)
 case atStart=>exact⟨0,f.1.size,0,[],rfl,Yv,rfl,Yv,X5,(λs D=>by cases D),O5,E5⟩
 obtain⟨k,N,ck,L,rfl,hk,zA,yB,X,HS,O,E⟩:=hrel;have yR:B<wr.1.size:=X.lt;obtain⟨⟨x0,f0⟩,⟨x1,f1⟩,yW⟩:=X 0 _ rfl,X 1 _ rfl,O.lt N rfl;by_cases hlt:k<30+m
 case neg=>
  obtain rfl:k=30+m:=Yv;have dk:bx (((30+m:Nat):Int)<30+(m:Int))=bq:=decide_eq_false Yv;obtain⟨⟨y0,q0⟩,⟨y1,q1⟩,Y⟩:=E.1 0 _ rfl,E.1 1 _ rfl,Yw zA;clear zA;go_wp2;refine C1 (ct #[C4 t,Yz N (eh L) ck]) G2 ?_;exact Ff.fin (t':=t) (L:=L) (TX:=2001) (RF:=31) Yv (Dl Y.o) HS O E.2.1 Yv Yv E.2.2 R S
 have dk:bx ((k:Int)<30+(m:Int))=bg:=decide_eq_true Yv;have yZ:IntKind.u8.wrap (33+(k:Int))=33+(k:Int):=KL Yv Yv;have yC:=run_convert_bytes_arg (P:=prog) (wr.alloc (ca #[.int .u8 (33+(k:Int))] 5)) 22 5 underlying22 underlying5 wr.1.size 0 1 1 [33+(k:Int)] rfl (λi V=>by
  obtain rfl:i=0:=Yv;simp) 9 underlying9
 have zT:=Ge [33+(k:Int)];generalize strOfNums [33+(k:Int)]=T at *
 have zC:bs wr.1.size wr (wr.alloc (ca #[.int .u8 (33+(k:Int))] 5)):=Zy;have zE:bs wr.1.size wr ((wr.alloc (ca #[.int .u8 (33+(k:Int))] 5)).alloc (ca #[C4 T] 9)):=zC.alloc zC.size _;have Y:=Yw zA;clear zA;go_wp2_with (first
  |(at_builtin;refine wpList_append_own_at _ rfl _ _ 23 rfl (Q+1) 9 i0 Zc 1 16 underlying23 V zH zI zJ rfl Yq _ (eh L) (L.map string) rfl ?d0 ⟨wr.1.size+1,0,ba⟩ 1 1 [C4 T] rfl rfl ?d1 ?d2 ?d3 ?d4 ?d5 ?_))
 case d0=>exact O.kept (Af ba zE) (Classical.em _)
 case d1=>
  intro j u C;cases j with
  |zero=>simp at C;subst C;simp[Addr.add]
  |succ j=>simp at C
 case d2=>intro u C;simp at C;subst C;rfl
 case d3=>have:=Y.o;unfold maxLen;omega
 case d4=>have:=Y.o;omega
 case d5=>simp;omega
 intro v' F l q z zB;have⟨y,c6,zG⟩:∃y c6,v'=Yz y (eh L+1) c6:=by
  rcases Joins.ownsRow_forms l with⟨e1,_⟩|hf
  .exact(z e1).elim
  exact hf
 subst zG;have o:ep wr F (an N):=(Af (an N) zE).ag (by simpa [ownBlock]using q);have U:B≠y:=by rcases zB with h|h<;>simp[ownBlock]at h<;>omega
 have H:=X.au o (λe=>yB e.symm);obtain⟨⟨yJ,zY⟩,⟨yK,zZ⟩,yE⟩:=H 0 _ rfl,H 1 _ rfl,(l.lt y rfl).1;have HN:Hid (eo F (Q+1) 9 1 (Yz y (eh (L++[T])) c6) (eh (L++[T])) ((L++[T]).map string)):=by
  have:eh (L++[T])=eh L+1:=Yu;rw[this,map_append];exact l
 have HE:Hid (Aa F Q [Zc,Zb]/\AB F b a n c (p+1+1)/\ep w F (an b)):=⟨E.1.au o Yv,E.2.1.grown o Yv,E.2.2.andThen o (λi e=>by cases e;exact dp Yv)⟩;have HT:Hid (∀s∈L++[T],s.size<=8):=by
  intro s Z;rcases Bw.1 Z with h|h
  .exact HS s h
  simp at h;subst h;simp at zT;omega
 have zX:=Yw H;clear l q z zB H yC zT zC zE o x0 x1 f0 f1;go_wp2;have J:eh (L++[T])=eh L+1:=Yu;refine⟨⟨k+1,y,c6,L++[T],Yn,Yv,by rw[J,Y.o],U,?_,HT,?_,?_⟩,Ys⟩
 .rw[J];exact zX.set 1 _
 .exact HN.kept (As _ B 1 _) (eb Fo)
 exact⟨HE.1.au (As _ B 1 _) Yv,HE.2.1.grown (As _ B 1 _) Yv,HE.2.2.andThen (As _ B 1 _) (λi e=>by cases e;exact dp Yv)⟩
section
attribute [local go_sem↓] Go.wp_at_zero Go.wp_at_succ
