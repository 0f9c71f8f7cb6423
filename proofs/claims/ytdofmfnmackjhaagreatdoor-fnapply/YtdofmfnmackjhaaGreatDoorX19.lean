import Derived.Test.YtdofmfnmackjhaaGreatDoorX11
import Derived.Test.YtdofmfnmackjhaaGreatDoorX14
set_option maxRecDepth 100000
set_option maxHeartbeats 16000000
namespace Go.Proofs.YtdofmfnmackjhaaGreatDoor
open ChangeShapes WideShapes ChangeAt RowKit _root_.Go.Proofs.Tryz List World Value
variable{b e n c g k:Nat}{i w:Zh}{a:Zk}{p:Int}
def Ta(b n0:Nat):Nat->Zh->Value->Prop
 |0,_,v|2,_,v|5,_,v|9,_,v|12,_,v=>v=.pointer (some ⟨b,0,none⟩)
 |1,_,v=>∃s,v=.string s/\s.size<=16
 |3,_,v=>∃r:Int,v=Zg r/\0<=r/\r<8
 |4,w,v=>∃g,v=.slice (some ⟨g,0,none⟩) 3 3/\n0<=g/\Aa w g [.string ⟨#[112]⟩,.string ⟨#[113]⟩,.string ⟨#[114]⟩]
 |6,_,v=>∃r:Nat,v=Zg r/\r<3
 |7,w,v=>∃g k s,v=.pointer (some ⟨g,k,none⟩)/\n0<=g/\w.cell? (Zd g k)=some (.string s)/\s.size<=1
 |8,_,v=>∃s,v=.string s/\s.size<=1
 |10,_,v=>∃r:Int,v=Zg r/\0<=r/\r<40
 |11,w,v=>∃g,v=.slice (some ⟨g,0,none⟩) 5 5/\n0<=g/\Aa w g [Zg 1,Zg 3,Zg 10,Zg 40,Zg 200]
 |13,_,v=>∃r:Nat,v=Zg r/\r<5
 |14,w,v=>∃g k t,v=.pointer (some ⟨g,k,none⟩)/\n0<=g/\w.cell? (Zd g k)=some (Zg t)
 |15,_,v=>∃t,v=Zg t
 |16,_,v=>∃s r nm pk tk,v=.agg #[Ze,.string s,Zg r,.string nm,Zg pk,Zg tk]/\s.size<=16/\0<=r/\r<8/\nm.size<=1/\0<=pk/\pk<40
 |17,w,v=>∃g,v=.pointer (some ⟨g,0,none⟩)/\n0<=g/\Aa w g [Ze,Zc,Ze,Zc,Ze,Ze]
 |_,_,_=>True
theorem VY(n:b<e):∀i w j v,w.grownBy j (some b)->Ta b e i w v->Ta b e i j v:=by
 intro i w j v f h;have l:∀g,e<=g->some g≠some b:=λg c a=>by cases a;omega
 unfold Ta at h |-;split at h<;>first
  |exact h
  |(obtain⟨g,c,a,d⟩:=h;exact⟨g,c,a,d.aw f Yv⟩)
  |(obtain⟨g,k,s,c,a,d,m⟩:=h;exact⟨g,k,s,c,a,f.cell d (l g a),m⟩)
  |(obtain⟨g,k,s,c,a,d⟩:=h;exact⟨g,k,s,c,a,f.cell d (l g a)⟩)
def EX(w0:Zh)(b:Nat)(a:Zk)(n c:Nat)(p:Int)(n0 k:Nat)(w:Zh):Prop:=
 (∃p',AD w b a n c p'/\p<=p'/\p'<=p+10 *k)/\w0.grownBy w (some b)/\n0<=w.1.size
theorem EX.call{e:Zh}{d:Int}(h:EX i b a n c p g k w)(l:AD e b a n c d)(f:w.grownBy e (some b))(j:p<=d)(m:d<=p+10 *(k+1)):EX i b a n c p g (k+1) e:=
 ⟨⟨d,l,j,Yv⟩,Aj h.2.1 f,Zm h.2.2 f.size⟩
theorem EX.alloc{f:Zh}(h:EX f b a n c p e k w)(o:Obj):EX f b a n c p e (k+1) (w.alloc o):=by have d:Below w.1.size w (w.alloc o):=Zy;obtain⟨⟨l,j,g,m⟩,i,q⟩:=h;exact⟨⟨l,j.A d,g,Yv⟩,Aj i (Ag _ d),Yt⟩
theorem EX.ag{e:Zh}{d:Nat}(h:EX e b a n c p d k w):EX e b a n c p d (k+1) w:=by obtain⟨⟨i,g,f,j⟩,h⟩:=h;exact⟨⟨i,g,f,Yv⟩,h⟩
theorem Aa.fz{B:Nat}{l:Zj}(h:Aa w B l):∀j,j<l.length->w.frozen? ⟨B,j,none⟩=false:=λj a=>(h j _ (Zv a)).2
theorem GN{q:Nat}{v a b c d e f:D4}:Tn [g,q] w (((((((w.setCell (Zd g 0) v).setCell (Zd q 0) a).setCell (Zd q 1) b).setCell (Zd q 2) c).setCell (Zd q 3) d).setCell (Zd q 4) e).setCell (Zd q 5) f):=
 have s:∀X j u,Tn [g,q] X (X.setCell (Zd q j) u):=λX j u=>Tn.set X q j u Yu
 ((((((Tn.set w g 0 v Yu).ah (s _ _ _)).ah (s _ _ _)).ah (s _ _ _)).ah (s _ _ _)).ah (s _ _ _)).ah (s _ _ _)
theorem AD.K(h:AD w b a n c p){V:List Nat}(f:Tn V w i)(u:∀g∈V,b<g)(l:b∉V):AD i b a n c p:=by
 have k:=h.lt;have e:∀q j,q<=b->i.cell? (Zd q j)=w.cell? (Zd q j):=λq j d=>cell?_of_block (f.block q Yv (λd=>Dz (u q d)));refine⟨(e b 0 (Zx)).ah h.c0,(e b 1 (Zx)).ah h.c1,?_,Zr k f.size,h.n2,?_⟩
 .exact(frozen?_of_block (f.block b k l)).ah h.f1
 .rcases h.bytes with h|⟨q,d,t,m,y⟩
  .exact .inl h
  .refine .inr ⟨q,d,t,m,λj v=> ?_⟩;have⟨x,o,r,s⟩:=y j v;exact⟨x,(e q (d+j) Yv).ah o,r,s⟩
theorem RH(b:Nat)(a:Zk)(n c:Nat)(p:Int)(w:Zh)(h:AD w b a n c p)(hp:0<=p)(zR:p<=800000):
 D8 15 #[Yy b] w λe B=>∃V Y P q l u,e=C5 (.agg #[Zg V,C4 Y,Zg P,C4 q,Zg l,Zg u])/\Y.size<=16/\0<=P/\P<8/\q.size<=1/\0<=l/\l<40/\GJ w B b a n c p 300:=by
 have zO:=h.lt;have⟨W,f⟩:=D6 w Xt 51;have⟨d,y,m⟩:=AE f;have zB:Hid (EX W b a n c p W.1.size 0 W.drew):=⟨⟨p,(h.A d).drew,Int.le_refl _,Yv⟩,⟨rfl,rfl,rfl,Zx,λ_ _ _=>rfl⟩,Zx⟩;have j:=Yw f;have HX:Hid (Aa W w.1.size Xs):=m;have HB:Hid (Zz w W/\W.1.size=w.1.size+1):=⟨d,y⟩;clear f m d y;go_enter func15,ntmps15;go_upto_region 1 with fail;rw[<-j.o];clear j
 have E:Hid (Zz w W/\W.1.size=w.1.size+1/\b<W.1.size):=⟨HB.1,HB.2,Dz HB.2⟩
 refine Pz 18 Yr Yr Yr Yr (λx=>{tmps:= #[Yy b,undef,Yy w.1.size,x 17,undef,x 0,x 1,x 2,x 3,x 4,x 5,x 6,x 7,x 8,x 9,x 10,x 11,x 12,x 13,x 14,x 15,x 16,undef,undef,undef,undef,undef,undef,undef,undef,undef,undef,undef,undef,undef,undef,undef,undef,undef,undef,undef,undef,undef,undef,undef,undef,undef,undef,undef,undef],defers:=[]}) (λ_=>undef) (EX W b a n c p W.1.size) (Ta b W.1.size) (λw B=>w.grownBy B (some b)) (VY E.2.2) ?_ zB ?_ ?_
 .intro i o x v T U;rcases(show i=0\/i=1\/i=2\/i=3\/i=4\/i=5\/i=6\/i=7\/i=8\/i=9\/i=10\/i=11\/i=12\/i=13\/i=14\/i=15\/i=16\/i=17 by omega)with rfl|rfl|rfl|rfl|rfl|rfl|rfl|rfl|rfl|rfl|rfl|rfl|rfl|rfl|rfl|rfl|rfl|rfl<;>(cases U;rfl)
 .intro i o k x w T U hk f y K d;rcases(show i=0\/i=1\/i=2\/i=3\/i=4\/i=5\/i=6\/i=7\/i=8\/i=9\/i=10\/i=11\/i=12\/i=13\/i=14\/i=15\/i=16\/i=17 by omega)with rfl|rfl|rfl|rfl|rfl|rfl|rfl|rfl|rfl|rfl|rfl|rfl|rfl|rfl|rfl|rfl|rfl|rfl<;>cases U<;>rw[if_pos Yp]
  .dsimp only at d |-;go_simp;exact d.out _ w rfl (AO _ _) f.ag
  .dsimp only at d |-;have d0:=y {on:=0,ground:=.data} Yu Yp;have zC:x 0=Yy b:=d0;have⟨⟨D,z,L,M⟩,_⟩:=id f;rw[zC]at d |-;go_simp;refine(Sk b a n c D w z Yv Yv).aj ?_;rintro e B ⟨s,rfl,hs,⟨p2,A,R,S⟩,j⟩;exact d.out _ B ⟨s,rfl,hs⟩ j (EX.call f A j Yv Yv)
  .dsimp only at d |-;go_simp;exact d.out _ w rfl (AO _ _) f.ag
  .dsimp only at d |-;have d2:=y {on:=2,ground:=.data} Yu Yp;have zK:x 2=Yy b:=d2;have⟨⟨D,z,L,M⟩,_⟩:=id f;rw[zK]at d |-;go_simp;refine(AK b a n c D 8 w z Yv Yv Yv Yv).aj ?_;rintro e B ⟨r,rfl,r0,N,A,j⟩;exact d.out _ B ⟨r,rfl,r0,N⟩ j (EX.call f A j Yv Yv)
  .dsimp only at d |-;go_simp;exact d.out _ _ ⟨w.1.size,rfl,f.2.2,Aa.new w [C4 ⟨#[112]⟩,C4 ⟨#[113]⟩,C4 ⟨#[114]⟩] 9⟩ (Ag _ (Zy)) (f.alloc _)
  .dsimp only at d |-;go_simp;exact d.out _ w rfl (AO _ _) f.ag
  .dsimp only at d |-;have d5:=y {on:=5,ground:=.data} Yu Yp;have zM:x 5=Yy b:=d5;have⟨⟨D,z,L,M⟩,_⟩:=id f;rw[zM]at d |-;go_simp;refine(AK b a n c D 3 w z Yv Yv Yv Yv).aj ?_;rintro e B ⟨r,rfl,r0,N,A,j⟩;exact d.out _ B ⟨r.toNat,by congr 1;omega,Yv⟩ j (EX.call f A j Yv Yv)
  .dsimp only at d |-;have d4:=y {on:=4,ground:=.data} Yu Yp;have d6:=y {on:=6,ground:=.data} Yu Yp;obtain⟨g,C,j,m⟩:=d4;obtain⟨r,F,z⟩:=d6;have zS:r<3:=z;rw[C,F]at d |-;go_simp;rcases(show r=0\/r=1\/r=2 by omega)with rfl|rfl|rfl
   .exact d.out _ w ⟨g,0,_,rfl,j,(m 0 _ rfl).1,Yq⟩ (AO _ _) f.ag
   .exact d.out _ w ⟨g,1,_,rfl,j,(m 1 _ rfl).1,Yq⟩ (AO _ _) f.ag
   .exact d.out _ w ⟨g,2,_,rfl,j,(m 2 _ rfl).1,Yq⟩ (AO _ _) f.ag
  .dsimp only at d |-;have d7:=y {on:=7,ground:=.data} Yu Yp;obtain⟨g,k',s,C,j,m,hs⟩:=d7;rw[C]at d |-;go_simp;exact d.out _ w ⟨s,rfl,hs⟩ (AO _ _) f.ag
  .dsimp only at d |-;go_simp;exact d.out _ w rfl (AO _ _) f.ag
  .dsimp only at d |-;have d9:=y {on:=9,ground:=.data} Yu Yp;have zN:x 9=Yy b:=d9;have⟨⟨D,z,L,M⟩,_⟩:=id f;rw[zN]at d |-;go_simp;refine(AK b a n c D 40 w z Yv Yv Yv Yv).aj ?_;rintro e B ⟨r,rfl,r0,N,A,j⟩;exact d.out _ B ⟨r,rfl,r0,N⟩ j (EX.call f A j Yv Yv)
  .dsimp only at d |-;go_simp;exact d.out _ _ ⟨w.1.size,rfl,f.2.2,Aa.new w [Zg 1,Zg 3,Zg 10,Zg 40,Zg 200] 3⟩ (Ag _ (Zy)) (f.alloc _)
  .dsimp only at d |-;go_simp;exact d.out _ w rfl (AO _ _) f.ag
  .dsimp only at d |-;have zG:=y {on:=12,ground:=.data} Yu Yp;have zA:x 12=Yy b:=zG;have⟨⟨D,z,L,M⟩,_⟩:=id f;rw[zA]at d |-;go_simp;refine(AK b a n c D 5 w z Yv Yv Yv Yv).aj ?_;rintro e B ⟨r,rfl,r0,N,A,j⟩;exact d.out _ B ⟨r.toNat,by congr 1;omega,Yv⟩ j (EX.call f A j Yv Yv)
  .dsimp only at d |-;have zF:=y {on:=11,ground:=.data} Yu Yp;have zH:=y {on:=13,ground:=.data} Yu Yp;obtain⟨g,C,j,m⟩:=zF;obtain⟨r,F,z⟩:=zH;have zS:r<5:=z;rw[C,F]at d |-;go_simp;rcases(show r=0\/r=1\/r=2\/r=3\/r=4 by omega)with rfl|rfl|rfl|rfl|rfl
   .exact d.out _ w ⟨g,0,_,rfl,j,(m 0 _ rfl).1⟩ (AO _ _) f.ag
   .exact d.out _ w ⟨g,1,_,rfl,j,(m 1 _ rfl).1⟩ (AO _ _) f.ag
   .exact d.out _ w ⟨g,2,_,rfl,j,(m 2 _ rfl).1⟩ (AO _ _) f.ag
   .exact d.out _ w ⟨g,3,_,rfl,j,(m 3 _ rfl).1⟩ (AO _ _) f.ag
   .exact d.out _ w ⟨g,4,_,rfl,j,(m 4 _ rfl).1⟩ (AO _ _) f.ag
  .dsimp only at d |-;have zI:=y {on:=14,ground:=.data} Yu Yp;obtain⟨g,k',t,C,j,m⟩:=zI;rw[C]at d |-;go_simp;exact d.out _ w ⟨t,rfl⟩ (AO _ _) f.ag
  .dsimp only at d |-;have d1:=y {on:=1,ground:=.data} Yu Yp;have d3:=y {on:=3,ground:=.data} Yu Yp;have d8:=y {on:=8,ground:=.data} Yu Yp;have zE:=y {on:=10,ground:=.data} Yu Yp;have zJ:=y {on:=15,ground:=.data} Yu Yp;obtain⟨s,C,L⟩:=d1;obtain⟨r,F,M,R⟩:=d3;obtain⟨q,e3,S⟩:=d8;obtain⟨l,e4,h5,h6⟩:=zE;obtain⟨u,e5⟩:=zJ
   rw[C,F,e3,e4,e5]at d |-;go_simp;exact d.out _ w ⟨s,r,q,l,u,rfl,L,M,R,S,h5,h6⟩ (AO _ _) f.ag
  .dsimp only at d |-;go_simp;exact d.out _ _ ⟨w.1.size,rfl,f.2.2,Aa.new w Xs 51⟩ (Ag _ (Zy)) (f.alloc _)
 .intro o x w8 U f H K d;cases U;rw[if_pos Yp];have⟨g,C,j,m⟩:=H 17 Yv;have⟨s,r,q,l,u,F,L,M,R,S,h5,h6⟩:=H 16 Yv;dsimp only;rw[C,F];obtain⟨I,J,O,Q,X,f5⟩:=Zn (m 0 _ rfl) (Zn (m 1 _ rfl) (Zn (m 2 _ rfl) (Zn (m 3 _ rfl) (Zn (m 4 _ rfl) (m 5 _ rfl)))));go_simp;refine d.out _ _ ?_;clear d K
  have⟨Z,G⟩:=Ae ((((((w8.setCell (Zd g 0) Ze).setCell (Zd g 1) (C4 s)).setCell (Zd g 2) (Zg r)).setCell (Zd g 3) (C4 q)).setCell (Zd g 4) (Zg l)).setCell (Zd g 5) (Zg u));have xZ:Aa Z g [Ze,C4 s,Zg r,C4 q,Zg l,Zg u]:=by rw[G];exact(((((m.set 0 _).set 1 _).set 2 _).set 3 _).set 4 _).set 5 _
  have d:Tn [g] w8 Z:=by rw[G];exact(((((AP _ _ _ _).ah (AP _ _ _ _)).ah (AP _ _ _ _)).ah (AP _ _ _ _)).ah (AP _ _ _ _)).ah (AP _ _ _ _)
  rw[<-G];clear G I J O Q X f5 m C F H;obtain⟨⟨D,z,q1,q2⟩,K,zP⟩:=f;have gZ:w8.grownBy Z (some g):=⟨d.os,d.tape,d.output,d.size,λi T Q=>d.block i T (D2 Q)⟩;have bl:=E.2.2;have rZ:=z.grown gZ Yv;have xq:=(HX.aw K Yv).aw gZ (Dz E.2.1);go_wp2_with fail;refine(AK b a n c D 20 Z rZ Yv Yv Yv Yv).aj ?_
  rintro e w1 ⟨k,rfl,k0,k1,N,g1⟩;have x1:=xZ.aw g1 Yv;have y1:=xq.aw g1 Yv;have HE:Hid (∀m,Tn [g,w.1.size] w1 m->GJ w m b a n c p 300):=λm ht=>by
   have zT:=E.2.1;have X:Tn [b,g,w.1.size] W m:=(((Tn.grown K Yu).ah (d.aj Yu)).ah (Tn.grown g1 Yu)).ah (ht.aj Yu);refine⟨⟨D+1,?_,Yv,Yv⟩,?_⟩
   .exact(N.K ht Yt Yt)
   .exact⟨X.os.ah E.1.os,X.tape.ah E.1.tape,X.output.ah E.1.output,Zm E.1.size X.size,λi T Q=>(X.block i Yv (by simp at Q |-;omega)).ah (E.1.block i T)⟩
  have O:=Yw (Za L (Za M (Za R (Za S (Za h5 h6)))));obtain⟨a0,a1,a2,a3,a4,a5⟩:=Aa.c6 x1 0 1 2 3 4 5;obtain⟨C,F,G,H,I,J⟩:=Aa.c6 y1 0 1 2 3 4 5;have fa:=x1.fz;have fb:=y1.fz;have Q:¬g=w.1.size:=Dz E.2.1
  clear K gZ d rZ xq xZ x1 y1 g1 N E HB HX zB z q1 q2 L M R S h5 h6 zP bl h zO j hp zR
  have d:Hid (∀(V:Int) m,Tn [g,w.1.size] w1 m->∃E Y P z j L,Ending.returned (.agg #[Zg V,C4 s,Zg r,C4 q,Zg l,Zg u])=C5 (.agg #[Zg E,C4 Y,Zg P,C4 z,Zg j,Zg L])/\Y.size<=16/\0<=P/\P<8/\z.size<=1/\0<=j/\j<40/\GJ w m b a n c p 300):=λV m ht=>⟨V,s,r,q,l,u,rfl,O.1,O.2.1,O.2.2.1,O.2.2.2.1,O.2.2.2.2.1,O.2.2.2.2.2,HE.o m ht⟩;clear HE O;go_wp2
  .exact C0 (.agg #[Zg 1,C4 s,Zg r,C4 q,Zg l,Zg u]) (by simp[results,results15,go_sem,C,F,G,H,I,J]) (d 1 _ GN)
  .exact C0 (.agg #[Zg 2,C4 s,Zg r,C4 q,Zg l,Zg u]) (by simp[results,results15,go_sem,C,F,G,H,I,J]) (d 2 _ GN)
  .exact C0 (.agg #[Zg 3,C4 s,Zg r,C4 q,Zg l,Zg u]) (by simp[results,results15,go_sem,C,F,G,H,I,J]) (d 3 _ GN)
  .exact C0 (.agg #[Zg 4,C4 s,Zg r,C4 q,Zg l,Zg u]) (by simp[results,results15,go_sem,C,F,G,H,I,J]) (d 4 _ GN)
  .exact C0 (.agg #[Zg 5,C4 s,Zg r,C4 q,Zg l,Zg u]) (by simp[results,results15,go_sem,C,F,G,H,I,J]) (d 5 _ GN)
  .exact C0 (.agg #[Zg 6,C4 s,Zg r,C4 q,Zg l,Zg u]) (by simp[results,results15,go_sem,C,F,G,H,I,J]) (d 6 _ GN)
  .exact C0 (.agg #[Zg 8,C4 s,Zg r,C4 q,Zg l,Zg u]) (by simp[results,results15,go_sem,C,F,G,H,I,J]) (d 8 _ GN)
  .exact C0 (.agg #[Zg 9,C4 s,Zg r,C4 q,Zg l,Zg u]) (by simp[results,results15,go_sem,C,F,G,H,I,J]) (d 9 _ GN)
  .exact C0 (.agg #[Zg 10,C4 s,Zg r,C4 q,Zg l,Zg u]) (by simp[results,results15,go_sem,C,F,G,H,I,J]) (d 10 _ GN)
